/- What Add, Sub and Mul answer, in the program and in its model, at every two numbers. -/
import Derived.Test.YtmdfmeclcjbajagFieldA
namespace Go.Proofs.Ytmdfmeclcjbajag
open Go.RowKit

set_option maxHeartbeats 400000 in
theorem plus_any (a b : Int) (w : World) (a0 : 0 ≤ a) (a1 : a < 65537) (b0 : 0 ≤ b) (b1 : b < 65537) :
    Calls Try.prog 54 #[.int .i64 a, .int .i64 b] w fun e w' => e = .returned (.int .i64 ((a + b) % 65537)) ∧ w' = w := by
  go_enter Try.func54, Try.ntmps54
  go_wp2
  go_ret
  exact ⟨rfl, rfl⟩
set_option maxHeartbeats 400000 in
theorem minus_any (a b : Int) (w : World) (a0 : 0 ≤ a) (a1 : a < 65537) (b0 : 0 ≤ b) (b1 : b < 65537) :
    Calls Try.prog 70 #[.int .i64 a, .int .i64 b] w fun e w' => e = .returned (.int .i64 ((a + 65537 - b) % 65537)) ∧ w' = w := by
  go_enter Try.func70, Try.ntmps70
  go_wp2
  go_ret
  exact ⟨rfl, rfl⟩
set_option maxHeartbeats 400000 in
theorem times_any (a b : Int) (w : World) (a0 : 0 ≤ a) (a1 : a < 65537) (b0 : 0 ≤ b) (b1 : b < 65537) :
    Calls Try.prog 63 #[.int .i64 a, .int .i64 b] w fun e w' => e = .returned (.int .i64 (a * b % 65537)) ∧ w' = w := by
  have hb := M.mul_bd a0 a1 b0 b1
  obtain ⟨m0, m1⟩ := hb
  go_enter Try.func63, Try.ntmps63
  go_wp2
  go_ret
  exact ⟨rfl, rfl⟩
end Go.Proofs.Ytmdfmeclcjbajag
