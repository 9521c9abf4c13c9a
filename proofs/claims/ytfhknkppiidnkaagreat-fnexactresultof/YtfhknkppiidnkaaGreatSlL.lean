/- Products of polynomials in the model; what PolyMul answers. -/
import Derived.Test.YtfhknkppiidnkaaGreatSlJ
import Derived.Deep.RegionWith
import Derived.BigRegion
import Derived.Deep.RegionHeld3
namespace Go.Proofs.YtfhknkppiidnkaaGreat
open Go.RowKit

/-- the coefficient at t when the first i rows and k numbers of the next one have been added -/
def M.rowAt (zs ys : List Int) (i k t : Nat) : Int := if i ≤ t ∧ t < i + k then M.pm (zs.take (i + 1)) ys t else M.pm (zs.take i) ys t
theorem M.pm_take {zs : List Int} (ys : List Int) {i : Nat} (h : i < zs.length) (t : Nat) : M.pm (zs.take (i + 1)) ys t = (M.pm (zs.take i) ys t + (if i ≤ t then zs.getD i 0 * ys.getD (t - i) 0 else 0)) % 65537 := by
  rw [← take_snoc h, M.pm_snoc, List.length_take, Nat.min_eq_left (Nat.le_of_lt h)]
theorem M.row_start (zs ys : List Int) (N i : Nat) : M.tab N (M.pm (zs.take i) ys) = M.tab N (M.rowAt zs ys i 0) :=
  M.tab_congr fun t _ => by unfold M.rowAt; rw [if_neg (by omega)]
theorem M.row_old (zs ys : List Int) (i k : Nat) : M.rowAt zs ys i k (i + k) = M.pm (zs.take i) ys (i + k) := by unfold M.rowAt; rw [if_neg (by omega)]
theorem M.row_step {zs ys : List Int} {N i k : Nat} (h : i < zs.length) : (M.tab N (M.rowAt zs ys i k)).set (i + k) ((M.pm (zs.take i) ys (i + k) + zs.getD i 0 * ys.getD k 0) % 65537) = M.tab N (M.rowAt zs ys i (k + 1)) := by
  rw [M.tab_set]
  apply M.tab_congr
  intro t _
  unfold M.rowAt
  by_cases e : t = i + k
  · subst e
    rw [if_pos rfl, if_pos (by omega), M.pm_take ys h, if_pos (by omega), Nat.add_sub_cancel_left]
  · rw [if_neg e]
    by_cases h2 : i ≤ t ∧ t < i + k
    · rw [if_pos h2, if_pos (by omega)]
    · rw [if_neg h2, if_neg (by omega)]
theorem M.row_end {zs ys : List Int} {N i : Nat} (h : i < zs.length) : M.tab N (M.rowAt zs ys i ys.length) = M.tab N (M.pm (zs.take (i + 1)) ys) := by
  apply M.tab_congr
  intro t _
  unfold M.rowAt
  by_cases h2 : i ≤ t ∧ t < i + ys.length
  · rw [if_pos h2]
  · rw [if_neg h2, M.pm_take ys h]
    have hb := M.pm_bd (zs.take i) ys t
    by_cases h3 : i ≤ t
    · rw [if_pos h3, M.getD_out (zs := ys) (by omega), Int.mul_zero, Int.add_zero, Int.emod_eq_of_lt hb.1 hb.2]
    · rw [if_neg h3, Int.add_zero, Int.emod_eq_of_lt hb.1 hb.2]

set_option maxHeartbeats 4000000 in
theorem l2Mul_pos {a b : Option Addr} {n m c d : Nat} {zs ys : List Int} (w : World) (hz : Sees w a n c zs) (hy : Sees w b m d ys) (ha : M.allEl zs = true) (hb : M.allEl ys = true) (hn : n ≤ 20000) (hm : m ≤ 20000) (h0 : 0 < n) (h1 : 0 < m) :
    Calls Tryz.prog 114 #[.slice a n c, .slice b m d] w fun e w' => ∃ a' l c', e = .returned (.slice a' l c') ∧ Owns 2 w' w.heap.size a' l c' (M.pmul zs ys) ∧ Below w.heap.size w w' := by
  obtain ⟨b1, o1, rfl, hc1⟩ := hz.at h0
  obtain ⟨b2, o2, rfl, hc2⟩ := hy.at h1
  have l1 : b1 < w.heap.size := World.block_lt_of_cell? w _ (hc1 0 h0)
  have l2 : b2 < w.heap.size := World.block_lt_of_cell? w _ (hc2 0 h1)
  have HC1 : Hid (∀ i, i < n → w.cell? ⟨b1, o1 + i, none⟩ = some (.int .i64 (zs.getD i 0))) := hc1
  have HC2 : Hid (∀ i, i < m → w.cell? ⟨b2, o2 + i, none⟩ = some (.int .i64 (ys.getD i 0))) := hc2
  have HLz : Hid (zs.length = n) := hz.len
  have HLy : Hid (ys.length = m) := hy.len
  have HA : Hid (M.allEl zs = true) := ha
  have HB : Hid (M.allEl ys = true) := hb
  have HE : Hid (M.pmul zs ys = M.trim (M.tab (n + m - 1) (M.pm zs ys))) := by
    show _ = _; unfold M.pmul; rw [hz.len, hy.len, if_neg (by omega)]
  obtain ⟨i0, hi, hz0, hz1, hz2⟩ := info_parts info_i64
  obtain ⟨N, hN⟩ : ∃ N, N = n + m - 1 := ⟨_, rfl⟩
  have HN : Hid (N = n + m - 1) := hN
  have hN1 : n + m = N + 1 := by omega
  have bz : ((n : Int) == 0) = false := by simp; omega
  have bm : ((m : Int) == 0) = false := by simp; omega
  clear hz hy ha hb hc1 hc2 hN
  have HN1 : Hid (n + m = N + 1) := hN1
  clear hN1
  go_enter Tryz.func114, Tryz.ntmps114
  go_wp2_with (at_make; refine wpList_make_full _ rfl _ _ 24 rfl w.heap.size 2 i0 (.int .i64 0) 1 Tryz.underlying24 hi hz0 hz1 .i64 .i64 _ _ N rfl rfl (by have := HN1.out; omega) (by have := HN1.out; omega) (by rw [hz2]; have := HN1.out; omega) (by unfold maxLen; have := HN1.out; omega) (Nat.le_refl _) ?_)
  intro w1 hown hg
  have HO1 : Hid (Owns 2 w1 w.heap.size (some ⟨w.heap.size, 0, none⟩) N N (M.tab N (M.pm (zs.take 0) ys))) := by
    show w1.ownsRow _ _ _ _ _ _
    rw [made_ints] at hown
    have e : M.tab N (M.pm (zs.take 0) ys) = List.replicate N 0 := by
      apply List.ext_getElem (by simp [M.tab])
      intro i h1 h2
      simp [M.tab, M.pm]
    rw [e]; exact hown
  have HB1 : Hid (Below w.heap.size w w1) := below_grown hg
  clear hown hg hi hz0 hz1 hz2
  go_wp2
  go_loopw [6] (fun i wr => ∃ k : Nat, k ≤ n ∧ i = .int .i64 k ∧ Owns 2 wr w.heap.size (some ⟨w.heap.size, 0, none⟩) N N (M.tab N (M.pm (zs.take k) ys)) ∧ Below w.heap.size w wr) (fun i _ => n - (intOf i).toNat)
  case atStart => exact ⟨0, by omega, rfl, HO1.out, HB1.out⟩
  case round =>
    obtain ⟨i, hi, rfl, ho2, hb2⟩ := hrel
    have HO2 : Hid (Owns 2 wr w.heap.size (some ⟨w.heap.size, 0, none⟩) N N (M.tab N (M.pm (zs.take i) ys))) := ho2
    have HB2 : Hid (Below w.heap.size w wr) := hb2
    clear ho2 hb2 HO1 HB1
    by_cases hlt : i < n
    · have HS : Hid (Owns 2 wr w.heap.size (some ⟨w.heap.size, 0, none⟩) N N (M.tab N (M.rowAt zs ys i 0))) := by show Owns _ _ _ _ _ _ _; rw [← M.row_start]; exact HO2.out
      have hI : (i : Int) < (n : Int) := by omega
      go_wp2
      go_loopw [7] (fun q wv => ∃ k : Nat, k ≤ m ∧ q = .int .i64 k ∧ Owns 2 wv w.heap.size (some ⟨w.heap.size, 0, none⟩) N N (M.tab N (M.rowAt zs ys i k)) ∧ Below w.heap.size w wv) (fun q _ => m - (intOf q).toNat)
      case atStart => exact ⟨0, by omega, rfl, HS.out, HB2.out⟩
      case round =>
        obtain ⟨k, hk, rfl, ho3, hb3⟩ := hrel
        have HO3 : Hid (Owns 2 wr w.heap.size (some ⟨w.heap.size, 0, none⟩) N N (M.tab N (M.rowAt zs ys i k))) := ho3
        have HB3 : Hid (Below w.heap.size w wr) := hb3
        clear ho3 hb3
        by_cases hkm : k < m
        · have hik : i + k < N := by have := HN1.out; omega
          have e1 : wr.cell? ⟨b1, o1 + i, none⟩ = some (.int .i64 (zs.getD i 0)) := (HB3.out.cell (p := ⟨b1, o1 + i, none⟩) l1).trans (HC1.out i hlt)
          have e2 : wr.cell? ⟨b2, o2 + k, none⟩ = some (.int .i64 (ys.getD k 0)) := (HB3.out.cell (p := ⟨b2, o2 + k, none⟩) l2).trans (HC2.out k hkm)
          obtain ⟨g, hge, _, _, hc3, hf3⟩ := HO3.out.block (by omega)
          simp only [Option.some.injEq, Addr.mk.injEq, and_true] at hge
          have e3 := hc3 (i + k) hik
          have f3 := hf3 (i + k)
          rw [← hge] at e3 f3
          rw [M.tab_get _ _ _ hik, M.row_old] at e3
          have HST : Hid ((M.tab N (M.rowAt zs ys i k)).set (i + k) ((M.pm (zs.take i) ys (i + k) + zs.getD i 0 * ys.getD k 0) % 65537) = M.tab N (M.rowAt zs ys i (k + 1))) := M.row_step (by rw [HLz.out]; exact hlt)
          have x01 := M.el_at HA.out i
          have y01 := M.el_at HB.out k
          have v01 := M.pm_bd (zs.take i) ys (i + k)
          generalize zs.getD i 0 = x at e1 x01 HST
          generalize ys.getD k 0 = y at e2 y01 HST
          generalize M.pm (zs.take i) ys (i + k) = v at e3 v01 HST
          obtain ⟨x0, x1⟩ := x01
          obtain ⟨y0, y1⟩ := y01
          obtain ⟨v0, v1⟩ := v01
          obtain ⟨m0, m1⟩ := M.mul_bd x0 x1 y0 y1
          have hJ : (k : Int) < (m : Int) := by omega
          have hK : (i : Int) + (k : Int) < (N : Int) := by omega
          have hK0 : (0 : Int) ≤ (i : Int) + (k : Int) := by omega
          have nb1 : b1 ≠ w.heap.size := by omega
          have nb2 : b2 ≠ w.heap.size := by omega
          clear hge hc3 hf3
          go_wp2
          go_region
          go_wp2
          go_roundw
          case rel =>
            refine ⟨k + 1, by omega, by go_num, ?_, (HB3.out.setCell (Nat.le_refl _) _).drew⟩
            rw [← HST.out]
            exact World.ownsRow.drew (HO3.out.set (i + k) _)
          case measure => simp [intOf]; omega
        · have hkm' : k = m := by omega
          have HF : Hid (Owns 2 wr w.heap.size (some ⟨w.heap.size, 0, none⟩) N N (M.tab N (M.pm (zs.take (i + 1)) ys))) := by
            show Owns _ _ _ _ _ _ _
            have h := HO3.out
            rw [hkm', ← HLy.out, M.row_end (by rw [HLz.out]; exact hlt)] at h
            exact h
          clear hkm'
          go_wp2
          go_roundw
          case rel => exact ⟨i + 1, by omega, by go_num, HF.out, HB3.out⟩
          case measure => simp [intOf]; omega
    · have hin : i = n := by omega
      have HF : Hid (Owns 2 wr w.heap.size (some ⟨w.heap.size, 0, none⟩) N N (M.tab N (M.pm zs ys))) := by
        show Owns _ _ _ _ _ _ _
        have h := HO2.out
        rw [List.take_of_length_le (by rw [HLz.out, hin]; exact Nat.le_refl _)] at h
        exact h
      have hNb : N ≤ 1048576 := by have := HN1.out; omega
      clear hin
      go_wp2_with fail
      refine (l2Trim_any _ HF.out.sees hNb).mono ?_
      rintro e w4 ⟨a4, l4, c4, rfl, ho4, hb4⟩
      have HO4 : Hid (Owns 2 w4 w.heap.size a4 l4 c4 (M.pmul zs ys)) := by
        show Owns _ _ _ _ _ _ _
        rw [HE.out, ← HN.out]; exact ho4.mono HB2.out.size
      have HB4 : Hid (Below w.heap.size w w4) := HB2.out.trans (hb4.mono HB2.out.size)
      clear ho4 hb4
      go_wp2
      go_ret
      exact ⟨a4, l4, c4, rfl, HO4.out, HB4.out⟩
set_option maxHeartbeats 1000000 in
theorem l2Mul_any {a b : Option Addr} {n m c d : Nat} {zs ys : List Int} (w : World) (hz : Sees w a n c zs) (hy : Sees w b m d ys) (ha : M.allEl zs = true) (hb : M.allEl ys = true) (hn : n ≤ 20000) (hm : m ≤ 20000) :
    Calls Tryz.prog 114 #[.slice a n c, .slice b m d] w fun e w' => ∃ a' l c', e = .returned (.slice a' l c') ∧ Owns 2 w' w.heap.size a' l c' (M.pmul zs ys) ∧ Below w.heap.size w w' := by
  by_cases h0 : n = 0
  · have E : Hid (M.pmul zs ys = []) := by show _ = _; unfold M.pmul; rw [if_pos (.inl (hz.len.trans h0))]
    have bz : ((n : Int) == 0) = true := by simp [h0]
    clear hz hy ha hb h0
    go_enter Tryz.func114, Tryz.ntmps114
    go_wp2
    go_ret
    refine ⟨_, 0, _, rfl, ?_, (Below.refl _ _).alloc (Nat.le_refl _) _⟩
    rw [E.out]; exact World.ownsRow_made w #[] 0 (Nat.le_refl _) (by unfold maxLen; omega) rfl
  · by_cases h1 : m = 0
    · have E : Hid (M.pmul zs ys = []) := by show _ = _; unfold M.pmul; rw [if_pos (.inr (hy.len.trans h1))]
      have bz : ((n : Int) == 0) = false := by simp [h0]
      have bm : ((m : Int) == 0) = true := by simp [h1]
      clear hz hy ha hb h0 h1
      go_enter Tryz.func114, Tryz.ntmps114
      go_wp2
      go_ret
      refine ⟨_, 0, _, rfl, ?_, (Below.refl _ _).alloc (Nat.le_refl _) _⟩
      rw [E.out]; exact World.ownsRow_made w #[] 0 (Nat.le_refl _) (by unfold maxLen; omega) rfl
    · exact l2Mul_pos w hz hy ha hb hn hm (by omega) (by omega)

def M.mulOk (zs ys : List Int) : Bool := M.both zs ys && decide (zs.length + ys.length ≤ 129)
def M.mulv (zs ys : List Int) : List Int := if M.mulOk zs ys = true then M.pmul zs ys else []
theorem M.mulv_len {zs ys : List Int} (h : M.mulOk zs ys = true) : (M.pmul zs ys).length ≤ 128 := by
  unfold M.mulOk at h
  simp only [Bool.and_eq_true, decide_eq_true_eq] at h
  have := M.pmul_len zs ys; omega
end Go.Proofs.YtfhknkppiidnkaaGreat
