/- What Pow, Inv and RootOf answer, in the program and in its model, at every number. -/
import Derived.Test.YtbcfjbkmkknmfaaGreatDoorPowA
import Derived.Test.YtbcfjbkmkknmfaaGreatDoorFieldMath
namespace Go.Proofs.YtbcfjbkmkknmfaaGreatDoor
open Go.RowKit

theorem inverse_any (a : Int) (w : World) (a0 : 0 ≤ a) (a1 : a < 65537) :
    Calls Tryz.prog 87 #[.int .i64 a] w fun e w' => e = .returned (.int .i64 (M.pw a 65535)) ∧ w' = w := by
  go_enter Tryz.func87, Tryz.ntmps87
  go_wp2_with fail
  refine (power_any a 65535 _ a0 a1 (by omega)).mono ?_
  rintro e w' ⟨rfl, rfl⟩
  go_wp2
  go_ret
  exact ⟨rfl, rfl⟩
theorem specInv_any (a : Int) (w : World) :
    Calls Tryz.prog 98 #[.int .i64 a] w fun e w' => e = .returned (.int .i64 (M.inv a)) ∧ w' = w := by
  cases ha : M.el a with
  | true =>
    obtain ⟨a0, a1⟩ := (M.el_iff a).1 ha
    by_cases h0 : a = 0
    · subst h0
      have E : Hid (M.inv 0 = -1) := M.inv_0
      go_enter Tryz.func98, Tryz.ntmps98
      go_wp2_with fail
      refine (l1F_any 0 _).mono ?_
      rintro e w' ⟨rfl, rfl⟩
      go_wp2
      go_ret
      exact ⟨ret_int E.out.symm, rfl⟩
    · have E : Hid (M.inv a = M.pw a 65535) := M.inv_in ha h0
      have hb : (a == 0) = false := by simp [h0]
      clear h0
      go_enter Tryz.func98, Tryz.ntmps98
      go_wp2_with fail
      refine (l1F_any a _).mono ?_
      rintro e w' ⟨rfl, rfl⟩
      go_wp2_with fail
      refine (specPow_in a 65535 _ a0 a1 (by omega)).mono ?_
      rintro e w' ⟨rfl, rfl⟩
      go_wp2
      go_ret
      exact ⟨ret_int E.out.symm, rfl⟩
  | false =>
    have E : Hid (M.inv a = -1) := M.inv_l ha
    go_enter Tryz.func98, Tryz.ntmps98
    go_wp2_with fail
    refine (l1F_any a _).mono ?_
    rintro e w' ⟨rfl, rfl⟩
    go_wp2
    go_ret
    exact ⟨ret_int E.out.symm, rfl⟩
end Go.Proofs.YtbcfjbkmkknmfaaGreatDoor
