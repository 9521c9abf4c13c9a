/- What RootOf answers, in the program and in its model, at every number. -/
import Derived.Test.YtbcfjbkmkknmfaaGreatDoorPowB
namespace Go.Proofs.YtbcfjbkmkknmfaaGreatDoor
open Go.RowKit

set_option maxHeartbeats 1000000 in
theorem l1Two_any (n : Int) (w : World) :
    Calls Tryz.prog 95 #[.int .i64 n, .int .i64 65536] w fun e w' => e = .returned (.bool (M.two n)) ∧ w' = w := by
  have HS : Hid (M.TwoInv n 1) := M.tinv_start n
  go_enter Tryz.func95, Tryz.ntmps95
  go_wp2
  go_loop [5] (fun k => ∃ p : Int, 1 ≤ p ∧ p ≤ 131072 ∧ k = .int .i64 p ∧ M.TwoInv n p) (fun k => (131073 - intOf k).toNat)
  case atStart => exact ⟨1, by omega, by omega, rfl, HS.out⟩
  case round =>
    obtain ⟨p, p0, p1, rfl, hinv⟩ := hrel
    have HI : Hid (M.TwoInv n p) := hinv
    clear hinv HS
    by_cases hp : p ≤ 65536
    · by_cases he : p = n
      · have E : Hid (M.two n = true) := M.tinv_hit HI.out hp he
        have hb : (p == n) = true := by simp [he]
        clear he HI
        go_wp2
        go_ret
        exact ⟨ret_bool E.out.symm, rfl⟩
      · have E : Hid (M.TwoInv n (2 * p)) := M.tinv_step HI.out hp he
        have hb : (p == n) = false := by simp [he]
        clear he HI
        go_wp2
        go_round
        case rel => exact ⟨2 * p, by omega, by omega, rfl, E.out⟩
        case measure => simp [intOf]; omega
    · have E : Hid (M.two n = false) := M.tinv_end HI.out (by omega)
      clear HI
      go_wp2
      go_ret
      exact ⟨ret_bool E.out.symm, rfl⟩

theorem div_bd {n : Int} (h : 1 ≤ n) : 0 ≤ 65536 / n ∧ 65536 / n ≤ 65536 := by
  refine ⟨Int.ediv_nonneg (by omega) (by omega), ?_⟩
  exact Int.ediv_le_self n (by omega)

set_option maxHeartbeats 1000000 in
theorem specRoot_any (n : Int) (w : World) :
    Calls Tryz.prog 58 #[.int .i64 n] w fun e w' => e = .returned (.int .i64 (M.root n)) ∧ w' = w := by
  cases ht : M.two n with
  | true =>
    have E : Hid (M.root n = M.pw 3 (65536 / n).toNat) := M.root_in ht
    obtain ⟨n0, n1⟩ := M.two_bd ht
    obtain ⟨d0, d1⟩ := div_bd n0
    obtain ⟨m, hm⟩ := Int.eq_ofNat_of_zero_le d0
    have HM : Hid (65536 / n = (m : Int)) := hm
    clear hm
    go_enter Tryz.func58, Tryz.ntmps58
    go_wp2_with fail
    refine (l1Two_any n _).mono ?_
    rintro e w' ⟨rfl, rfl⟩
    go_wp2_with fail
    rw [HM.out]
    refine (specPow_in 3 m _ (by omega) (by omega) (by have := HM.out; omega)).mono ?_
    rintro e w' ⟨rfl, rfl⟩
    go_wp2
    go_ret
    exact ⟨ret_int (by rw [E.out, HM.out, Int.toNat_natCast]), rfl⟩
  | false =>
    have E : Hid (M.root n = -1) := M.root_out ht
    go_enter Tryz.func58, Tryz.ntmps58
    go_wp2_with fail
    refine (l1Two_any n _).mono ?_
    rintro e w' ⟨rfl, rfl⟩
    go_wp2
    go_ret
    exact ⟨ret_int E.out.symm, rfl⟩

set_option maxHeartbeats 1000000 in
theorem implRoot_any (n : Int) (w : World) :
    Calls Tryz.prog 114 #[.int .i64 n] w fun e w' => e = .returned (.int .i64 (M.root n)) ∧ w' = w := by
  by_cases n0 : 1 ≤ n
  · cases ht : M.two n with
    | true =>
      have E : Hid (M.root n = M.pw 3 (65536 / n).toNat) := M.root_in ht
      have hb : (65536 % n != 0) = false := by simp [(M.two_div n0).1 ht]
      obtain ⟨d0, d1⟩ := div_bd n0
      obtain ⟨m, hm⟩ := Int.eq_ofNat_of_zero_le d0
      have HM : Hid (65536 / n = (m : Int)) := hm
      clear hm ht
      go_enter Tryz.func114, Tryz.ntmps114
      go_wp2_with fail
      rw [HM.out]
      refine (power_any 3 m _ (by omega) (by omega) (by have := HM.out; omega)).mono ?_
      rintro e w' ⟨rfl, rfl⟩
      go_wp2
      go_ret
      exact ⟨ret_int (by rw [E.out, HM.out, Int.toNat_natCast]), rfl⟩
    | false =>
      have E : Hid (M.root n = -1) := M.root_out ht
      have hb : (65536 % n != 0) = true := by
        rw [bne_iff_ne]; intro h; rw [(M.two_div n0).2 h] at ht; cases ht
      clear ht
      go_enter Tryz.func114, Tryz.ntmps114
      go_wp2
      go_ret
      exact ⟨ret_int E.out.symm, rfl⟩
  · have ht : M.two n = false := by
      cases h : M.two n with
      | false => rfl
      | true => exact absurd (M.two_bd h).1 n0
    have E : Hid (M.root n = -1) := M.root_out ht
    clear ht
    go_enter Tryz.func114, Tryz.ntmps114
    go_wp2
    go_ret
    exact ⟨ret_int E.out.symm, rfl⟩
end Go.Proofs.YtbcfjbkmkknmfaaGreatDoor
