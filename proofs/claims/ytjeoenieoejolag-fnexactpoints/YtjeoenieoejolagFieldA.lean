/- What the program's and the model's small functions of the field answer, a contract each: sums, differences, products of numbers that may be no elements. What Add, Sub and Mul answer, in the program and in its model, at every two numbers. -/
import Derived.Test.YtjeoenieoejolagRows
import Derived.Test.YtjeoenieoejolagFieldMath
import Derived.WalkKit
import Derived.WalkLawsBesides
namespace Go.Proofs.Ytjeoenieoejolag
open Go.RowKit

theorem ret_int {k : IntKind} {a b : Int} (h : a = b) : Ending.returned (.int k a) = .returned (.int k b) := by rw [h]
theorem ret_bool {a b : Bool} (h : a = b) : Ending.returned (.bool a) = .returned (.bool b) := by rw [h]

set_option maxHeartbeats 400000 in
theorem l1F_any (a : Int) (w : World) :
    Calls Try.prog 65 #[.int .i64 a] w fun e w' => e = .returned (.bool (M.el a)) ∧ w' = w := by
  by_cases h0 : 0 ≤ a
  · by_cases h1 : a < 65537
    · have e : M.el a = true := by simp [M.el, h0, h1]
      have E : Hid (M.el a = true) := e
      clear e
      go_enter Try.func65, Try.ntmps65
      go_wp2
      go_ret
      exact ⟨ret_bool E.out.symm, rfl⟩
    · have e : M.el a = false := by simp [M.el]; omega
      have E : Hid (M.el a = false) := e
      clear e
      go_enter Try.func65, Try.ntmps65
      go_wp2
      go_ret
      exact ⟨ret_bool E.out.symm, rfl⟩
  · have e : M.el a = false := by simp [M.el]; omega
    have E : Hid (M.el a = false) := e
    clear e
    go_enter Try.func65, Try.ntmps65
    go_wp2
    go_ret
    exact ⟨ret_bool E.out.symm, rfl⟩

set_option maxHeartbeats 400000 in
theorem elementOf_in (a : Int) (w : World) (h0 : 0 ≤ a) (h1 : a < 65537) :
    Calls Try.prog 69 #[.int .i64 a] w fun e w' => e = .returned (.tuple #[.int .i64 a, .bool true]) ∧ w' = w := by
  go_enter Try.func69, Try.ntmps69
  go_wp2
  go_ret2
  exact ⟨rfl, rfl⟩

set_option maxHeartbeats 400000 in
theorem elementOf_out (a : Int) (w : World) (h : a < 0 ∨ 65537 ≤ a) :
    Calls Try.prog 69 #[.int .i64 a] w fun e w' => e = .returned (.tuple #[.int .i64 0, .bool false]) ∧ w' = w := by
  rcases h with h | h
  · go_enter Try.func69, Try.ntmps69
    go_wp2
    go_ret2
    exact ⟨rfl, rfl⟩
  · have h' : ¬ a < 0 := by omega
    go_enter Try.func69, Try.ntmps69
    go_wp2
    go_ret2
    exact ⟨rfl, rfl⟩
end Go.Proofs.Ytjeoenieoejolag
namespace Go.Proofs.Ytjeoenieoejolag
open Go.RowKit

set_option maxHeartbeats 400000 in
theorem plus_any (a b : Int) (w : World) (a0 : 0 ≤ a) (a1 : a < 65537) (b0 : 0 ≤ b) (b1 : b < 65537) :
    Calls Try.prog 54 #[.int .i64 a, .int .i64 b] w fun e w' => e = .returned (.int .i64 ((a + b) % 65537)) ∧ w' = w := by
  go_enter Try.func54, Try.ntmps54
  go_wp2
  go_ret
  exact ⟨rfl, rfl⟩
set_option maxHeartbeats 400000 in
theorem minus_any (a b : Int) (w : World) (a0 : 0 ≤ a) (a1 : a < 65537) (b0 : 0 ≤ b) (b1 : b < 65537) :
    Calls Try.prog 70 #[.int .i64 a, .int .i64 b] w fun e w' => e = .returned (.int .i64 ((a + 65537 - b) % 65537)) ∧ w' = w := by
  go_enter Try.func70, Try.ntmps70
  go_wp2
  go_ret
  exact ⟨rfl, rfl⟩
set_option maxHeartbeats 400000 in
theorem times_any (a b : Int) (w : World) (a0 : 0 ≤ a) (a1 : a < 65537) (b0 : 0 ≤ b) (b1 : b < 65537) :
    Calls Try.prog 63 #[.int .i64 a, .int .i64 b] w fun e w' => e = .returned (.int .i64 (a * b % 65537)) ∧ w' = w := by
  have hb := M.mul_bd a0 a1 b0 b1
  obtain ⟨m0, m1⟩ := hb
  go_enter Try.func63, Try.ntmps63
  go_wp2
  go_ret
  exact ⟨rfl, rfl⟩
end Go.Proofs.Ytjeoenieoejolag
