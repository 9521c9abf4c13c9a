/- What the program's and the model's small functions of the field answer, a contract each: sums, differences, products of numbers that may be no elements. -/
import Derived.Test.YtjibpapjfdjecacRows
import Derived.Test.YtjibpapjfdjecacFieldMath
import Derived.WalkKit
import Derived.WalkLawsBesides
namespace Go.Proofs.Ytjibpapjfdjecac
open Go.RowKit

theorem ret_int {k : IntKind} {a b : Int} (h : a = b) : Ending.returned (.int k a) = .returned (.int k b) := by rw [h]
theorem ret_bool {a b : Bool} (h : a = b) : Ending.returned (.bool a) = .returned (.bool b) := by rw [h]

set_option maxHeartbeats 400000 in
theorem l1F_any (a : Int) (w : World) :
    Calls Try.prog 32 #[.int .i64 a] w fun e w' => e = .returned (.bool (M.el a)) ∧ w' = w := by
  by_cases h0 : 0 ≤ a
  · by_cases h1 : a < 65537
    · have e : M.el a = true := by simp [M.el, h0, h1]
      have E : Hid (M.el a = true) := e
      clear e
      go_enter Try.func32, Try.ntmps32
      go_wp2
      go_ret
      exact ⟨ret_bool E.out.symm, rfl⟩
    · have e : M.el a = false := by simp [M.el]; omega
      have E : Hid (M.el a = false) := e
      clear e
      go_enter Try.func32, Try.ntmps32
      go_wp2
      go_ret
      exact ⟨ret_bool E.out.symm, rfl⟩
  · have e : M.el a = false := by simp [M.el]; omega
    have E : Hid (M.el a = false) := e
    clear e
    go_enter Try.func32, Try.ntmps32
    go_wp2
    go_ret
    exact ⟨ret_bool E.out.symm, rfl⟩

set_option maxHeartbeats 400000 in
theorem elementOf_in (a : Int) (w : World) (h0 : 0 ≤ a) (h1 : a < 65537) :
    Calls Try.prog 67 #[.int .i64 a] w fun e w' => e = .returned (.tuple #[.int .i64 a, .bool true]) ∧ w' = w := by
  go_enter Try.func67, Try.ntmps67
  go_wp2
  go_ret2
  exact ⟨rfl, rfl⟩

set_option maxHeartbeats 400000 in
theorem elementOf_out (a : Int) (w : World) (h : a < 0 ∨ 65537 ≤ a) :
    Calls Try.prog 67 #[.int .i64 a] w fun e w' => e = .returned (.tuple #[.int .i64 0, .bool false]) ∧ w' = w := by
  rcases h with h | h
  · go_enter Try.func67, Try.ntmps67
    go_wp2
    go_ret2
    exact ⟨rfl, rfl⟩
  · have h' : ¬ a < 0 := by omega
    go_enter Try.func67, Try.ntmps67
    go_wp2
    go_ret2
    exact ⟨rfl, rfl⟩
end Go.Proofs.Ytjibpapjfdjecac
