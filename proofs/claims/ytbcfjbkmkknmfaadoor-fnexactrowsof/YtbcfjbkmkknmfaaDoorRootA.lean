/- What RootOf answers, in the program and in its model, at every number. -/
import Derived.Test.YtbcfjbkmkknmfaaDoorFieldA
import Derived.Test.YtbcfjbkmkknmfaaDoorFieldMath
namespace Go.Proofs.YtbcfjbkmkknmfaaDoor
open Go.RowKit

set_option maxHeartbeats 1000000 in
theorem l1Two_any (n : Int) (w : World) :
    Calls Tryd.prog 22 #[.int .i64 n, .int .i64 65536] w fun e w' => e = .returned (.bool (M.two n)) ∧ w' = w := by
  have HS : Hid (M.TwoInv n 1) := M.tinv_start n
  go_enter Tryd.func22, Tryd.ntmps22
  go_wp2
  go_loop [5] (fun k => ∃ p : Int, 1 ≤ p ∧ p ≤ 131072 ∧ k = .int .i64 p ∧ M.TwoInv n p) (fun k => (131073 - intOf k).toNat)
  case atStart => exact ⟨1, by omega, by omega, rfl, HS.out⟩
  case round =>
    obtain ⟨p, p0, p1, rfl, hinv⟩ := hrel
    have HI : Hid (M.TwoInv n p) := hinv
    clear hinv HS
    by_cases hp : p ≤ 65536
    · by_cases he : p = n
      · have E : Hid (M.two n = true) := M.tinv_hit HI.out hp he
        have hb : (p == n) = true := by simp [he]
        clear he HI
        go_wp2
        go_ret
        exact ⟨ret_bool E.out.symm, rfl⟩
      · have E : Hid (M.TwoInv n (2 * p)) := M.tinv_step HI.out hp he
        have hb : (p == n) = false := by simp [he]
        clear he HI
        go_wp2
        go_round
        case rel => exact ⟨2 * p, by omega, by omega, rfl, E.out⟩
        case measure => simp [intOf]; omega
    · have E : Hid (M.two n = false) := M.tinv_end HI.out (by omega)
      clear HI
      go_wp2
      go_ret
      exact ⟨ret_bool E.out.symm, rfl⟩

theorem div_bd {n : Int} (h : 1 ≤ n) : 0 ≤ 65536 / n ∧ 65536 / n ≤ 65536 := by
  refine ⟨Int.ediv_nonneg (by omega) (by omega), ?_⟩
  exact Int.ediv_le_self n (by omega)

end Go.Proofs.YtbcfjbkmkknmfaaDoor
