/- How many rows there may be, in the program and in the model. -/
import Derived.Test.YtfhknkppiidnkaaGreatLiA
namespace Go.Proofs.YtfhknkppiidnkaaGreat
open Go.RowKit

def M.rows (n : Int) : Bool := decide (n = 2) || (decide (n = 4) || (decide (n = 8) || decide (n = 16)))
theorem M.rows_yes {n : Int} (h : M.rows n = true) : n = 2 ∨ n = 4 ∨ n = 8 ∨ n = 16 := by
  unfold M.rows at h; simpa using h
theorem M.rows_mod {n : Int} (h : 2 ≤ n) : ((16 : Int).tmod n == 0) = M.rows n := by
  by_cases h16 : n ≤ 16
  · obtain ⟨k, rfl⟩ := Int.eq_ofNat_of_zero_le (show 0 ≤ n by omega)
    have hk : k ≤ 16 := by omega
    have hk2 : 2 ≤ k := by omega
    clear h h16
    have : k = 2 ∨ k = 3 ∨ k = 4 ∨ k = 5 ∨ k = 6 ∨ k = 7 ∨ k = 8 ∨ k = 9 ∨ k = 10 ∨ k = 11 ∨ k = 12 ∨ k = 13 ∨ k = 14 ∨ k = 15 ∨ k = 16 := by omega
    rcases this with rfl | rfl | rfl | rfl | rfl | rfl | rfl | rfl | rfl | rfl | rfl | rfl | rfl | rfl | rfl <;> rfl
  · have e : (16 : Int).tmod n = 16 := Int.tmod_eq_of_lt (by omega) (by omega)
    rw [e]; unfold M.rows; simp; omega
theorem rowsOk_any (n : Int) (w : World) : Calls Tryz.prog 49 #[.int .i64 n] w fun e w' => e = .returned (.bool (M.rows n)) ∧ w' = w := by
  by_cases h : 2 ≤ n
  · have hm := M.rows_mod h
    have hm2 : ((16 : Int) % n == 0) = M.rows n := by rw [← Int.tmod_eq_emod_of_nonneg (by omega)]; exact hm
    have hz : (n == 0) = false := by simp; omega
    generalize M.rows n = o at hm hm2 ⊢
    go_enter Tryz.func49, Tryz.ntmps49
    go_wp2
    go_ret
    exact ⟨by simp_all, rfl⟩
  · have hm : M.rows n = false := by unfold M.rows; simp; omega
    rw [hm]
    go_enter Tryz.func49, Tryz.ntmps49
    go_wp2
    go_ret
    exact ⟨rfl, rfl⟩
theorem l1Two16_any (n : Int) (w : World) : Calls Tryz.prog 90 #[.int .i64 n, .int .i64 16] w fun e w' => e = .returned (.bool (decide (n = 1) || M.rows n)) ∧ w' = w := by
  go_enter Tryz.func90, Tryz.ntmps90
  go_wp2
  go_loop [5] (fun k => ∃ p : Int, k = .int .i64 p ∧ (p = 1 ∨ (p = 2 ∧ n ≠ 1) ∨ (p = 4 ∧ n ≠ 1 ∧ n ≠ 2) ∨ (p = 8 ∧ n ≠ 1 ∧ n ≠ 2 ∧ n ≠ 4) ∨ (p = 16 ∧ n ≠ 1 ∧ n ≠ 2 ∧ n ≠ 4 ∧ n ≠ 8) ∨ (p = 32 ∧ n ≠ 1 ∧ n ≠ 2 ∧ n ≠ 4 ∧ n ≠ 8 ∧ n ≠ 16))) (fun k => (33 - intOf k).toNat)
  case atStart => exact ⟨1, rfl, .inl rfl⟩
  case round =>
    obtain ⟨p, rfl, hp⟩ := hrel
    by_cases h32 : p = 32
    · subst h32
      have hm : Hid ((decide (n = 1) || M.rows n) = false) := by show _ = _; unfold M.rows; simp; omega
      clear hp
      go_wp2
      go_ret
      exact ⟨ret_bool hm.out.symm, rfl⟩
    · have hp16 : p ≤ 16 := by omega
      have hp1 : 1 ≤ p := by omega
      by_cases he : p = n
      · have hm : Hid ((decide (n = 1) || M.rows n) = true) := by show _ = _; unfold M.rows; simp; omega
        have hb : (p == n) = true := by simp [he]
        clear hp he
        go_wp2
        go_ret
        exact ⟨ret_bool hm.out.symm, rfl⟩
      · have hb : (p == n) = false := by simp [he]
        have HP : Hid (p = 1 ∨ (p = 2 ∧ n ≠ 1) ∨ (p = 4 ∧ n ≠ 1 ∧ n ≠ 2) ∨ (p = 8 ∧ n ≠ 1 ∧ n ≠ 2 ∧ n ≠ 4) ∨ (p = 16 ∧ n ≠ 1 ∧ n ≠ 2 ∧ n ≠ 4 ∧ n ≠ 8) ∨ (p = 32 ∧ n ≠ 1 ∧ n ≠ 2 ∧ n ≠ 4 ∧ n ≠ 8 ∧ n ≠ 16)) := hp
        have HE : Hid (p ≠ n) := he
        clear hp he
        go_wp2
        go_round
        case rel =>
          have hp := HP.out
          have he := HE.out
          exact ⟨2 * p, by go_num, by omega⟩
        case measure => simp [intOf]; omega
theorem l6Rows_any (n : Int) (w : World) : Calls Tryz.prog 55 #[.int .i64 n] w fun e w' => e = .returned (.bool (M.rows n)) ∧ w' = w := by
  by_cases h : 2 ≤ n
  · have hm : (decide (n = 1) || M.rows n) = M.rows n := by
      have : decide (n = 1) = false := by simp; omega
      rw [this]; rfl
    have C1 := l1Two16_any n
    rw [hm] at C1
    go_enter Tryz.func55, Tryz.ntmps55
    go_wp2_with fail
    refine (C1 _).mono ?_
    rintro e w1 ⟨rfl, rfl⟩
    go_wp2
    go_ret
    exact ⟨rfl, rfl⟩
  · have hm : M.rows n = false := by unfold M.rows; simp; omega
    rw [hm]
    go_enter Tryz.func55, Tryz.ntmps55
    go_wp2
    go_ret
    exact ⟨rfl, rfl⟩
end Go.Proofs.YtfhknkppiidnkaaGreat
