/- What Pow answers, in the program and in its model, at every two numbers. -/
import Derived.Test.YtfhknkppiidnkaaGreatFieldA
import Derived.Test.YtfhknkppiidnkaaGreatFieldMath
namespace Go.Proofs.YtfhknkppiidnkaaGreat
open Go.RowKit

set_option maxHeartbeats 1000000 in
theorem specPow_in (x : Int) (n : Nat) (w : World) (x0 : 0 ≤ x) (x1 : x < 65537) (hn : (n : Int) ≤ 9223372036854775807) :
    Calls Tryz.prog 109 #[.int .i64 x, .int .i64 n] w fun e w' => e = .returned (.int .i64 (M.pw x n)) ∧ w' = w := by
  have HS : Hid (M.PInv x n 1 x n) := M.pinv_start x n
  have hel : M.el x = true := (M.el_iff x).2 ⟨x0, x1⟩
  go_enter Tryz.func109, Tryz.ntmps109
  go_wp2_with fail
  refine (l1F_any x _).mono ?_
  rintro e w' ⟨rfl, rfl⟩
  go_wp2
  go_loop [0, 1, 5] (fun a m out => ∃ (av ov : Int) (k : Nat), 0 ≤ av ∧ av < 65537 ∧ 0 ≤ ov ∧ ov < 65537 ∧ (k : Int) ≤ 9223372036854775807 ∧ a = .int .i64 av ∧ m = .int .i64 k ∧ out = .int .i64 ov ∧ M.PInv x n ov av k) (fun _ m _ => (intOf m).toNat)
  case atStart => exact ⟨x, 1, n, x0, x1, by omega, by omega, hn, rfl, rfl, rfl, HS.out⟩
  case round =>
    obtain ⟨av, ov, k, a0, a1, o0, o1, hk, rfl, rfl, rfl, hinv⟩ := hrel
    have HI : Hid (M.PInv x n ov av k) := hinv
    clear hinv HS hn
    by_cases hp : 0 < k
    · by_cases ho : k % 2 = 1
      · have hb : ((k : Int) % 2 == 1) = true := by simp; omega
        have HO : Hid (k % 2 = 1) := ho
        clear ho
        obtain ⟨m0, m1⟩ := M.mul_bd o0 o1 a0 a1
        obtain ⟨s0, s1⟩ := M.mul_bd a0 a1 a0 a1
        go_wp2
        go_round
        case rel => exact ⟨_, _, k / 2, Int.emod_nonneg _ (by decide), Int.emod_lt_of_pos _ (by decide), Int.emod_nonneg _ (by decide), Int.emod_lt_of_pos _ (by decide), by omega, rfl, by go_num, rfl, M.pinv_odd HI.out HO.out⟩
        case measure => simp [intOf]; omega
      · have hb : ((k : Int) % 2 == 1) = false := by simp; omega
        have HO : Hid (k % 2 = 0) := by show k % 2 = 0; omega
        clear ho
        obtain ⟨s0, s1⟩ := M.mul_bd a0 a1 a0 a1
        go_wp2
        go_round
        case rel => exact ⟨_, _, k / 2, Int.emod_nonneg _ (by decide), Int.emod_lt_of_pos _ (by decide), o0, o1, by omega, rfl, by go_num, rfl, M.pinv_even HI.out HO.out⟩
        case measure => simp [intOf]; omega
    · have hz : k = 0 := by omega
      subst hz
      go_wp2
      go_ret
      exact ⟨ret_int (M.pinv_end HI.out o0 o1), rfl⟩
end Go.Proofs.YtfhknkppiidnkaaGreat
