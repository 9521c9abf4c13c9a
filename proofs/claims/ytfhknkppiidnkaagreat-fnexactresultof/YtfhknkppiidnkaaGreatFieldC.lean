/- What Sub and Mul answer, in the program and in its model, at every two numbers. -/
import Derived.Test.YtfhknkppiidnkaaGreatFieldA
namespace Go.Proofs.YtfhknkppiidnkaaGreat
open Go.RowKit

set_option maxHeartbeats 400000 in
theorem specSub_any (a b : Int) (w : World) :
    Calls Tryz.prog 115 #[.int .i64 a, .int .i64 b] w fun e w' => e = .returned (.int .i64 (M.sub a b)) ∧ w' = w := by
  cases ha : M.el a with
  | true => cases hb : M.el b with
    | true =>
      have E : Hid (M.sub a b = (a + 65537 - b) % 65537) := M.sub_in ha hb
      have ha' := ha
      have hb' := hb
      obtain ⟨a0, a1⟩ := (M.el_iff a).1 ha'
      obtain ⟨b0, b1⟩ := (M.el_iff b).1 hb'
      clear ha' hb'
      go_enter Tryz.func115, Tryz.ntmps115
      go_wp2_with fail
      refine (l1F_any a _).mono ?_
      rintro e w' ⟨rfl, rfl⟩
      go_wp2_with fail
      refine (l1F_any b _).mono ?_
      rintro e w' ⟨rfl, rfl⟩
      go_wp2
      go_ret
      exact ⟨ret_int (by rw [E.out]; congr 1; omega), rfl⟩
    | false =>
      have E : Hid (M.sub a b = -1) := M.sub_r hb
      go_enter Tryz.func115, Tryz.ntmps115
      go_wp2_with fail
      refine (l1F_any a _).mono ?_
      rintro e w' ⟨rfl, rfl⟩
      go_wp2_with fail
      refine (l1F_any b _).mono ?_
      rintro e w' ⟨rfl, rfl⟩
      go_wp2
      go_ret
      exact ⟨ret_int E.out.symm, rfl⟩
  | false =>
    have E : Hid (M.sub a b = -1) := M.sub_l ha
    go_enter Tryz.func115, Tryz.ntmps115
    go_wp2_with fail
    refine (l1F_any a _).mono ?_
    rintro e w' ⟨rfl, rfl⟩
    go_wp2
    go_ret
    exact ⟨ret_int E.out.symm, rfl⟩
set_option maxHeartbeats 400000 in
theorem specMul_any (a b : Int) (w : World) :
    Calls Tryz.prog 131 #[.int .i64 a, .int .i64 b] w fun e w' => e = .returned (.int .i64 (M.mul a b)) ∧ w' = w := by
  cases ha : M.el a with
  | true => cases hb : M.el b with
    | true =>
      have E : Hid (M.mul a b = a * b % 65537) := M.mul_in ha hb
      have ha' := ha
      have hb' := hb
      obtain ⟨a0, a1⟩ := (M.el_iff a).1 ha'
      obtain ⟨b0, b1⟩ := (M.el_iff b).1 hb'
      clear ha' hb'
      obtain ⟨m0, m1⟩ := M.mul_bd a0 a1 b0 b1
      go_enter Tryz.func131, Tryz.ntmps131
      go_wp2_with fail
      refine (l1F_any a _).mono ?_
      rintro e w' ⟨rfl, rfl⟩
      go_wp2_with fail
      refine (l1F_any b _).mono ?_
      rintro e w' ⟨rfl, rfl⟩
      go_wp2
      go_ret
      exact ⟨ret_int E.out.symm, rfl⟩
    | false =>
      have E : Hid (M.mul a b = -1) := M.mul_r hb
      go_enter Tryz.func131, Tryz.ntmps131
      go_wp2_with fail
      refine (l1F_any a _).mono ?_
      rintro e w' ⟨rfl, rfl⟩
      go_wp2_with fail
      refine (l1F_any b _).mono ?_
      rintro e w' ⟨rfl, rfl⟩
      go_wp2
      go_ret
      exact ⟨ret_int E.out.symm, rfl⟩
  | false =>
    have E : Hid (M.mul a b = -1) := M.mul_l ha
    go_enter Tryz.func131, Tryz.ntmps131
    go_wp2_with fail
    refine (l1F_any a _).mono ?_
    rintro e w' ⟨rfl, rfl⟩
    go_wp2
    go_ret
    exact ⟨ret_int E.out.symm, rfl⟩
end Go.Proofs.YtfhknkppiidnkaaGreat
