/- What Add, Sub and Mul answer, in the program and in its model, at every two numbers. -/
import Derived.Test.YtmdfmeclcjbajahFieldA
namespace Go.Proofs.Ytmdfmeclcjbajah
open Go.RowKit

set_option maxHeartbeats 400000 in
theorem plus_any (a b : Int) (w : World) (a0 : 0 ≤ a) (a1 : a < 65537) (b0 : 0 ≤ b) (b1 : b < 65537) :
    Calls Try.prog 39 #[.int .i64 a, .int .i64 b] w fun e w' => e = .returned (.int .i64 ((a + b) % 65537)) ∧ w' = w := by
  go_enter Try.func39, Try.ntmps39
  go_wp2
  go_ret
  exact ⟨rfl, rfl⟩
set_option maxHeartbeats 400000 in
theorem minus_any (a b : Int) (w : World) (a0 : 0 ≤ a) (a1 : a < 65537) (b0 : 0 ≤ b) (b1 : b < 65537) :
    Calls Try.prog 60 #[.int .i64 a, .int .i64 b] w fun e w' => e = .returned (.int .i64 ((a + 65537 - b) % 65537)) ∧ w' = w := by
  go_enter Try.func60, Try.ntmps60
  go_wp2
  go_ret
  exact ⟨rfl, rfl⟩
set_option maxHeartbeats 400000 in
theorem times_any (a b : Int) (w : World) (a0 : 0 ≤ a) (a1 : a < 65537) (b0 : 0 ≤ b) (b1 : b < 65537) :
    Calls Try.prog 40 #[.int .i64 a, .int .i64 b] w fun e w' => e = .returned (.int .i64 (a * b % 65537)) ∧ w' = w := by
  have hb := M.mul_bd a0 a1 b0 b1
  obtain ⟨m0, m1⟩ := hb
  go_enter Try.func40, Try.ntmps40
  go_wp2
  go_ret
  exact ⟨rfl, rfl⟩
set_option maxHeartbeats 400000 in
theorem specAdd_any (a b : Int) (w : World) :
    Calls Try.prog 34 #[.int .i64 a, .int .i64 b] w fun e w' => e = .returned (.int .i64 (M.add a b)) ∧ w' = w := by
  cases ha : M.el a with
  | true => cases hb : M.el b with
    | true =>
      have E : Hid (M.add a b = (a + b) % 65537) := M.add_in ha hb
      have ha' := ha
      have hb' := hb
      obtain ⟨a0, a1⟩ := (M.el_iff a).1 ha'
      obtain ⟨b0, b1⟩ := (M.el_iff b).1 hb'
      clear ha' hb'
      go_enter Try.func34, Try.ntmps34
      go_wp2_with fail
      refine (l1F_any a _).mono ?_
      rintro e w' ⟨rfl, rfl⟩
      go_wp2_with fail
      refine (l1F_any b _).mono ?_
      rintro e w' ⟨rfl, rfl⟩
      go_wp2
      go_ret
      exact ⟨ret_int E.out.symm, rfl⟩
    | false =>
      have E : Hid (M.add a b = -1) := M.add_r hb
      go_enter Try.func34, Try.ntmps34
      go_wp2_with fail
      refine (l1F_any a _).mono ?_
      rintro e w' ⟨rfl, rfl⟩
      go_wp2_with fail
      refine (l1F_any b _).mono ?_
      rintro e w' ⟨rfl, rfl⟩
      go_wp2
      go_ret
      exact ⟨ret_int E.out.symm, rfl⟩
  | false =>
    have E : Hid (M.add a b = -1) := M.add_l ha
    go_enter Try.func34, Try.ntmps34
    go_wp2_with fail
    refine (l1F_any a _).mono ?_
    rintro e w' ⟨rfl, rfl⟩
    go_wp2
    go_ret
    exact ⟨ret_int E.out.symm, rfl⟩
end Go.Proofs.Ytmdfmeclcjbajah
