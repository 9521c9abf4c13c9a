/- The polynomial through points, in the program: points as pairs, and whether places are unlike. -/
import Derived.Test.YtfhknkppiidnkaaGreatThMath
import Derived.Test.YtfhknkppiidnkaaGreatSlM
import Derived.Deep.RegionHeld3
namespace Go.Proofs.YtfhknkppiidnkaaGreat
open Go.RowKit

theorem M.nodup_no {zs : List Int} {i k : Nat} (hi : i < zs.length) (hk : k < i) (e : zs.getD i 0 = zs.getD k 0) : decide zs.Nodup = false :=
  decide_eq_false fun h => (M.nodup_iff zs).1 h k i hk hi e.symm
theorem M.nodup_yes {zs : List Int} (h : ∀ i k, i < zs.length → k < i → zs.getD i 0 ≠ zs.getD k 0) : decide zs.Nodup = true :=
  decide_eq_true ((M.nodup_iff zs).2 fun i j hij hj e => h j i hj hij e.symm)
set_option maxHeartbeats 2000000 in
theorem allUnlike_any {a : Option Addr} {n c : Nat} {zs : List Int} (w : World) (hz : Sees w a n c zs) :
    Calls Tryz.prog 138 #[.slice a n c] w fun e w' => e = .returned (.bool (decide zs.Nodup)) ∧ w' = w := by
  have bn : (n : Int) ≤ 9223372036854775807 := by have := hz.big; have := hz.le; omega
  have hnc : (n : Int) ≤ (c : Int) := by have := hz.le; omega
  have HZ : Hid (Sees w a n c zs) := hz
  clear hz
  go_enter Tryz.func138, Tryz.ntmps138
  go_wp2
  go_loop [9] (fun i => ∃ k : Nat, k ≤ n ∧ i = .int .i64 k ∧ ∀ i j, i < k → j < i → zs.getD i 0 ≠ zs.getD j 0) (fun i => n - (intOf i).toNat)
  case atStart => exact ⟨0, by omega, rfl, fun i j h => by omega⟩
  case round =>
    obtain ⟨i, hi, rfl, hall⟩ := hrel
    have HA : Hid (∀ j k, j < i → k < j → zs.getD j 0 ≠ zs.getD k 0) := hall
    clear hall
    by_cases hlt : i < n
    · obtain ⟨b1, o1, rfl, hc1⟩ := HZ.out.at (by omega)
      have c1 := hc1 i hlt
      have HC : Hid (∀ i, i < n → w.cell? ⟨b1, o1 + i, none⟩ = some (.int .i64 (zs.getD i 0))) := hc1
      clear hc1
      generalize hx : zs.getD i 0 = x at c1
      have HX : Hid (zs.getD i 0 = x) := hx
      have hI : (i : Int) < (n : Int) := by omega
      have hI2 : (i : Int) ≤ (c : Int) := by omega
      have hI3 : i ≤ c := by omega
      clear hx
      go_wp2
      go_loop [18] (fun q => ∃ k : Nat, k ≤ i ∧ q = .int .i64 k ∧ ∀ j, j < k → x ≠ zs.getD j 0) (fun q => i - (intOf q).toNat)
      case atStart => exact ⟨0, by omega, rfl, fun j h => by omega⟩
      case round =>
        obtain ⟨k, hk, rfl, hin⟩ := hrel
        have HN : Hid (∀ j, j < k → x ≠ zs.getD j 0) := hin
        clear hin
        by_cases hki : k < i
        · have c2 := HC.out k (by omega)
          generalize hy : zs.getD k 0 = y at c2
          have HY : Hid (zs.getD k 0 = y) := hy
          have hK : (k : Int) < (i : Int) := by omega
          clear hy
          by_cases he : x = y
          · have hb : (x == y) = true := by simp [he]
            have HE : Hid (x = y) := he
            clear he
            go_wp2
            go_ret
            exact ⟨ret_bool (M.nodup_no (by rw [HZ.out.len]; exact hlt) hki (by rw [HX.out, HY.out]; exact HE.out)).symm, rfl⟩
          · have hb : (x == y) = false := by simp [he]
            have HE : Hid (x ≠ y) := he
            clear he
            go_wp2
            go_round
            case rel =>
              refine ⟨k + 1, by omega, by go_num, fun j hj => ?_⟩
              by_cases e : j = k
              · subst e; rw [HY.out]; exact HE.out
              · exact HN.out j (by omega)
            case measure => simp [intOf]; omega
        · have hki' : k = i := by omega
          have HK : Hid (k = i) := hki'
          clear hki'
          go_wp2
          go_round
          case rel =>
            refine ⟨i + 1, by omega, by go_num, fun j m hj hm => ?_⟩
            by_cases e : j = i
            · subst e; rw [HX.out]; exact HN.out m (by rw [HK.out]; exact hm)
            · exact HA.out j m (by omega) hm
          case measure => simp [intOf]; omega
    · go_wp2
      go_ret
      exact ⟨ret_bool (M.nodup_yes fun j k hj hk => HA.out j k (by rw [HZ.out.len] at hj; omega) hk).symm, rfl⟩
end Go.Proofs.YtfhknkppiidnkaaGreat
