/- What is drawn for the field's laws: some numbers that fit 64 bits; nothing that was there is turned. -/
import Derived.Test.YtljcnmaecnbdoabRdB
namespace Go.Proofs.Ytljcnmaecnbdoab
open Go.RowKit

set_option maxHeartbeats 400000 in
theorem in_any (a : Int) (w : World) :
    Calls Try.prog 28 #[.int .i64 a] w fun e w' => e = .returned (.bool (M.el a)) ∧ w' = w := by
  by_cases h0 : 0 ≤ a
  · by_cases h1 : a < 65537
    · have E : Hid (M.el a = true) := by show M.el a = true; simp [M.el, h0, h1]
      go_enter Try.func28, Try.ntmps28
      go_wp2
      go_ret
      exact ⟨ret_bool E.out.symm, rfl⟩
    · have E : Hid (M.el a = false) := by show M.el a = false; simp [M.el]; omega
      go_enter Try.func28, Try.ntmps28
      go_wp2
      go_ret
      exact ⟨ret_bool E.out.symm, rfl⟩
  · have E : Hid (M.el a = false) := by show M.el a = false; simp [M.el]; omega
    go_enter Try.func28, Try.ntmps28
    go_wp2
    go_ret
    exact ⟨ret_bool E.out.symm, rfl⟩
set_option maxHeartbeats 400000 in
theorem big_any (a : Option Addr) (len cap : Nat) (w : World) :
    Calls Try.prog 9 #[.slice a len cap] w fun e w' => e = .returned (.bool (decide ((1048576 : Int) < (len : Int)))) ∧ w' = w := by
  go_enter Try.func9, Try.ntmps9
  go_wp2
  go_ret
  exact ⟨rfl, rfl⟩
end Go.Proofs.Ytljcnmaecnbdoab
