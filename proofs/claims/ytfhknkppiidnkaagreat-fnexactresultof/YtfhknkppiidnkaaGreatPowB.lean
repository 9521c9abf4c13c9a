/- What Pow, Inv and RootOf answer, in the program and in its model, at every number. -/
import Derived.Test.YtfhknkppiidnkaaGreatPowA
import Derived.Test.YtfhknkppiidnkaaGreatFieldMath
namespace Go.Proofs.YtfhknkppiidnkaaGreat
open Go.RowKit

theorem specPow_any (a n : Int) (w : World) (hn : n ≤ 9223372036854775807) :
    Calls Tryz.prog 109 #[.int .i64 a, .int .i64 n] w fun e w' => e = .returned (.int .i64 (M.pow a n)) ∧ w' = w := by
  by_cases h0 : 0 ≤ n
  · cases ha : M.el a with
    | true =>
      obtain ⟨a0, a1⟩ := (M.el_iff a).1 ha
      obtain ⟨m, rfl⟩ := Int.eq_ofNat_of_zero_le h0
      rw [M.pow_in ha h0, Int.toNat_natCast]
      exact specPow_in a m w a0 a1 hn
    | false =>
      have E : Hid (M.pow a n = -1) := M.pow_l ha
      go_enter Tryz.func109, Tryz.ntmps109
      go_wp2_with fail
      refine (l1F_any a _).mono ?_
      rintro e w' ⟨rfl, rfl⟩
      go_wp2
      go_ret
      exact ⟨ret_int E.out.symm, rfl⟩
  · have E : Hid (M.pow a n = -1) := M.pow_r (by omega)
    have h1 : n < 0 := by omega
    clear h0
    cases ha : M.el a with
    | true =>
      go_enter Tryz.func109, Tryz.ntmps109
      go_wp2_with fail
      refine (l1F_any a _).mono ?_
      rintro e w' ⟨rfl, rfl⟩
      go_wp2
      go_ret
      exact ⟨ret_int E.out.symm, rfl⟩
    | false =>
      go_enter Tryz.func109, Tryz.ntmps109
      go_wp2_with fail
      refine (l1F_any a _).mono ?_
      rintro e w' ⟨rfl, rfl⟩
      go_wp2
      go_ret
      exact ⟨ret_int E.out.symm, rfl⟩
theorem specInv_any (a : Int) (w : World) :
    Calls Tryz.prog 107 #[.int .i64 a] w fun e w' => e = .returned (.int .i64 (M.inv a)) ∧ w' = w := by
  cases ha : M.el a with
  | true =>
    obtain ⟨a0, a1⟩ := (M.el_iff a).1 ha
    by_cases h0 : a = 0
    · subst h0
      have E : Hid (M.inv 0 = -1) := M.inv_0
      go_enter Tryz.func107, Tryz.ntmps107
      go_wp2_with fail
      refine (l1F_any 0 _).mono ?_
      rintro e w' ⟨rfl, rfl⟩
      go_wp2
      go_ret
      exact ⟨ret_int E.out.symm, rfl⟩
    · have E : Hid (M.inv a = M.pw a 65535) := M.inv_in ha h0
      have hb : (a == 0) = false := by simp [h0]
      clear h0
      go_enter Tryz.func107, Tryz.ntmps107
      go_wp2_with fail
      refine (l1F_any a _).mono ?_
      rintro e w' ⟨rfl, rfl⟩
      go_wp2_with fail
      refine (specPow_in a 65535 _ a0 a1 (by omega)).mono ?_
      rintro e w' ⟨rfl, rfl⟩
      go_wp2
      go_ret
      exact ⟨ret_int E.out.symm, rfl⟩
  | false =>
    have E : Hid (M.inv a = -1) := M.inv_l ha
    go_enter Tryz.func107, Tryz.ntmps107
    go_wp2_with fail
    refine (l1F_any a _).mono ?_
    rintro e w' ⟨rfl, rfl⟩
    go_wp2
    go_ret
    exact ⟨ret_int E.out.symm, rfl⟩
end Go.Proofs.YtfhknkppiidnkaaGreat
