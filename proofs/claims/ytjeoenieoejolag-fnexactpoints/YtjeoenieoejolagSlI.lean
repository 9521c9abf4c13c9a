/- Sums of polynomials in the program; what PolyAdd answers. -/
import Derived.Test.YtjeoenieoejolagSlH
namespace Go.Proofs.Ytjeoenieoejolag
open Go.RowKit

theorem Owns.whole {t : TypeId} {w : World} {base g n : Nat} {zs : List Int} (h : Owns t w base (some ⟨g, 0, none⟩) n n zs) : w.heap[g]? = some (.cells (zs.map (Value.int .i64)).toArray t (0, 0)) := by
  rcases h.2 with ⟨e, _⟩ | ⟨g', c, cur, e, _, hh, _, _, hs, ht⟩
  · simp at e
  · simp only [Value.slice.injEq, Option.some.injEq, Addr.mk.injEq] at e
    obtain ⟨⟨rfl, -, -⟩, -, rfl⟩ := e
    rw [hh]
    have : cur.toList = zs.map (Value.int .i64) := by
      rw [List.take_of_length_le (by rw [Array.length_toList, hs]; exact Nat.le_refl _)] at ht; exact ht
    congr 2
    rw [← this]
theorem Owns.of_whole {t : TypeId} {w : World} {base g n : Nat} {zs : List Int} (hl : zs.length = n) (hb : base ≤ g) (hn : n ≤ 2000000) (h : w.heap[g]? = some (.cells (zs.map (Value.int .i64)).toArray t (0, 0))) : Owns t w base (some ⟨g, 0, none⟩) n n zs := by
  refine ⟨by simpa using hl, .inr ⟨g, n, _, rfl, hb, h, Nat.le_refl _, by unfold maxLen; omega, by simpa using hl, ?_⟩⟩
  rw [List.take_of_length_le (by simp [hl])]

def M.part (zs ys : List Int) (k i : Nat) : Int := if i < k then M.sumAt zs ys i else zs.getD i 0
theorem M.part_zero {zs : List Int} {N : Nat} (ys : List Int) (h : zs.length ≤ N) : zs ++ List.replicate (N - zs.length) 0 = M.tab N (M.part zs ys 0) := by
  apply M.tab_ext (by simp; omega)
  intro i hi
  unfold M.part
  rw [if_neg (by omega), List.getD_eq_getElem?_getD, List.getD_eq_getElem?_getD]
  by_cases h1 : i < zs.length
  · rw [List.getElem?_append_left h1]
  · rw [List.getElem?_append_right (by omega), List.getElem?_replicate, if_pos (by omega), List.getElem?_eq_none (by omega)]; rfl
theorem M.part_step {zs ys : List Int} {N k : Nat} : (M.tab N (M.part zs ys k)).set k (M.sumAt zs ys k) = M.tab N (M.part zs ys (k + 1)) := by
  rw [M.tab_set]
  apply M.tab_congr
  intro i _
  unfold M.part
  by_cases e : i = k
  · subst e; rw [if_pos rfl, if_pos (by omega)]
  · rw [if_neg e]
    by_cases h : i < k
    · rw [if_pos h, if_pos (by omega)]
    · rw [if_neg h, if_neg (by omega)]
theorem M.part_end {zs ys : List Int} (ha : M.allEl zs = true) : M.tab (max zs.length ys.length) (M.part zs ys ys.length) = M.padd zs ys := by
  apply M.tab_congr
  intro i _
  unfold M.part
  by_cases h : i < ys.length
  · rw [if_pos h]
  · rw [if_neg h]; unfold M.sumAt
    have := M.el_at ha i
    rw [M.getD_out (zs := ys) (by omega), Int.add_zero, Int.emod_eq_of_lt this.1 this.2]
theorem M.part_end' {zs ys : List Int} {N k : Nat} (ha : M.allEl zs = true) (h1 : max zs.length ys.length = N) (h2 : ys.length = k) : M.tab N (M.part zs ys k) = M.padd zs ys := by
  rw [← h1, ← h2]; exact M.part_end ha
theorem copy_len {zs : List Int} {n N : Nat} (h : zs.length = n) (hN : n ≤ N) : (zs.map (Value.int .i64)).length = Nat.min n N := by
  rw [List.length_map, h]; exact (Nat.min_eq_left hN).symm
theorem copy_fit {zs : List Int} {n N : Nat} (h : zs.length = n) (hN : n ≤ N) : 0 + (zs.map (Value.int .i64)).length ≤ ((List.replicate N (0 : Int)).map (Value.int .i64)).length := by
  simp [h]; exact hN
theorem info_el1 : (Try.prog.info? 50).map (·.size) = some 1 := by kernel_rfl
set_option maxHeartbeats 2000000 in
theorem polyPlus_any {a b : Option Addr} {n m c d : Nat} {zs ys : List Int} (w : World) (hz : Sees w a n c zs) (hy : Sees w b m d ys) (ha : M.allEl zs = true) (hb : M.allEl ys = true) (hn : n ≤ 100000) (hm : m ≤ 100000) :
    Calls Try.prog 29 #[.slice a n c, .slice b m d] w fun e w' => ∃ a' l c', e = .returned (.slice a' l c') ∧ Owns 50 w' w.heap.size a' l c' (M.trim (M.padd zs ys)) ∧ Below w.heap.size w w' := by
  have HZ : Hid (Sees w a n c zs) := hz
  have HY : Hid (Sees w b m d ys) := hy
  have HA : Hid (M.allEl zs = true) := ha
  have HB : Hid (M.allEl ys = true) := hb
  obtain ⟨i0, hi, hz0, hz1, hz2⟩ := info_parts info_el
  clear hz hy ha hb
  by_cases hnm : n < m
  · have hnmI : (n : Int) < (m : Int) := by omega
    have hNn : n ≤ m := by omega
    have hNm : m ≤ m := by omega
    have hNb : m ≤ 100000 := by omega
    have HMax : Hid (max zs.length ys.length = m) := by show _ = _; rw [HZ.out.len, HY.out.len]; omega
    go_enter Try.func29, Try.ntmps29
    go_wp2_with (at_make; refine wpList_make_full _ rfl _ _ 36 rfl w.heap.size 50 i0 (.int .i64 0) 1 Try.underlying36 hi hz0 hz1 .i64 .i64 _ _ m rfl rfl rfl rfl (by rw [hz2]; omega) (by unfold maxLen; omega) (Nat.le_refl _) ?_)
    intro w1 hown hg
    have ho1 : Owns 50 w1 w.heap.size (some ⟨w.heap.size, 0, none⟩) m m (List.replicate m 0) := by
      show w1.ownsRow _ _ _ _ _ _
      rw [made_ints] at hown; exact hown
    have HO1 : Hid (Owns 50 w1 w.heap.size (some ⟨w.heap.size, 0, none⟩) m m (List.replicate m 0)) := ho1
    have HB1 : Hid (Below w.heap.size w w1) := below_grown hg
    have HCP : Hid (∀ hz : Sees w1 a n c zs, 0 < (zs.map (Value.int .i64)).length → some (⟨w.heap.size, 0, none⟩ : Addr) = some ⟨w.heap.size, 0, none⟩ ∧ ∃ ad, a = some ad ∧ ∀ j v, (zs.map (Value.int .i64))[j]? = some v → w1.cell? (ad.add j) = some v) := by
      intro hz hp
      obtain ⟨b1, o1, e, _⟩ := hz.at (by rw [List.length_map, hz.len] at hp; exact hp)
      refine ⟨rfl, _, e, ?_⟩
      have := sees_news hz n (Nat.le_refl _) _ e
      rw [List.take_of_length_le (by rw [hz.len]; exact Nat.le_refl _)] at this
      exact this
    clear hown hg ho1 hi hz0 hz1 hz2
    go_wp2_with (refine wpList_copy_splice rfl _ _ 36 37 rfl 50 Try.underlying36 info_el1 _ _ _ _ _ _ rfl rfl w.heap.size 0 ((List.replicate m (0 : Int)).map (Value.int .i64)) 50 HO1.out.whole (zs.map (Value.int .i64)) (copy_len HZ.out.len hNn) (HCP.out (HZ.out.below HB1.out)) (copy_fit HZ.out.len hNn) (ints_int _) w.heap.size w HB1.out (Nat.le_refl _) ?_)
    intro w2 hh2 hb2
    have ho2 : Owns 50 w2 w.heap.size (some ⟨w.heap.size, 0, none⟩) m m (M.tab m (M.part zs ys 0)) := by
      refine Owns.of_whole (M.tab_len _ _) (Nat.le_refl _) (by omega) ?_
      rw [← M.part_zero ys (by rw [HZ.out.len]; exact hNn)]
      have h := hh2.out
      simp [splice] at h
      rw [h]
      simp [HZ.out.len]
    have HO2 : Hid (Owns 50 w2 w.heap.size (some ⟨w.heap.size, 0, none⟩) m m (M.tab m (M.part zs ys 0))) := ho2
    have HB2 : Hid (Below w.heap.size w w2) := hb2
    clear hh2 hb2 ho2 HCP
    go_wp2
    go_loopw [19] (fun i wr => ∃ k : Nat, k ≤ m ∧ i = .int .i64 k ∧ Owns 50 wr w.heap.size (some ⟨w.heap.size, 0, none⟩) m m (M.tab m (M.part zs ys k)) ∧ Below w.heap.size w wr) (fun i _ => m - (intOf i).toNat)
    case atStart => exact ⟨0, by omega, rfl, HO2.out, HB2.out⟩
    case round =>
      obtain ⟨k, hk, rfl, ho3, hb3⟩ := hrel
      have HO3 : Hid (Owns 50 wr w.heap.size (some ⟨w.heap.size, 0, none⟩) m m (M.tab m (M.part zs ys k))) := ho3
      have HB3 : Hid (Below w.heap.size w wr) := hb3
      clear ho3 hb3 HO2 HB2
      by_cases hlt : k < m
      · obtain ⟨b1, o1, rfl, hc1⟩ := (HY.out.below HB3.out).at (by omega)
        have c1 := hc1 k hlt
        obtain ⟨g, hge, _, _, hc2, hf⟩ := HO3.out.block (by omega)
        simp only [Option.some.injEq, Addr.mk.injEq, and_true] at hge
        subst hge
        have c2 := hc2 k (by omega)
        rw [M.tab_get _ _ _ (by omega), show M.part zs ys k k = zs.getD k 0 by unfold M.part; rw [if_neg (by omega)]] at c2
        have f2 := hf k
        have y01 := M.el_at HB.out k
        have x01 := M.el_at HA.out k
        have HV : Hid (M.sumAt zs ys k = (zs.getD k 0 + ys.getD k 0) % 65537) := rfl
        generalize hx : zs.getD k 0 = x at c2 x01
        generalize hyy : ys.getD k 0 = y at c1 y01
        have HV2 : Hid (M.sumAt zs ys k = (x + y) % 65537) := by show _ = _; rw [HV.out, hx, hyy]
        obtain ⟨x0, x1⟩ := x01
        obtain ⟨y0, y1⟩ := y01
        have hI : (k : Int) < (m : Int) := by omega
        have hJ : (k : Int) < (m : Int) := by omega
        clear hx hyy hc1 hc2 hf HV
        go_wp2_with fail
        refine (plus_any x y _ x0 x1 y0 y1).mono ?_
        rintro e wr ⟨rfl, rfl⟩
        go_wp2
        go_roundw
        case rel =>
          refine ⟨k + 1, by omega, by go_num, ?_, HB3.out.setCell (Nat.le_refl _) _⟩
          rw [← M.part_step, HV2.out]; exact HO3.out.set k _
        case measure => simp [intOf]; omega
      · have hkm : k = m := by omega
        have HP : Hid (M.tab m (M.part zs ys k) = M.padd zs ys) := M.part_end' HA.out HMax.out (HY.out.len.trans hkm.symm)
        clear hkm
        go_wp2_with fail
        refine (trimmedPoly_any _ HO3.out.sees (by omega)).mono ?_
        rintro e w4 ⟨a4, l4, c4, rfl, ho4, hb4⟩
        have HO4 : Hid (Owns 50 w4 w.heap.size a4 l4 c4 (M.trim (M.padd zs ys))) := by
          show Owns _ _ _ _ _ _ _
          rw [← HP.out]; exact ho4.mono HB3.out.size
        have HB4 : Hid (Below w.heap.size w w4) := HB3.out.trans (hb4.mono HB3.out.size)
        clear ho4 hb4
        go_wp2
        go_ret
        exact ⟨a4, l4, c4, rfl, HO4.out, HB4.out⟩
  · have hnmI : ¬ (n : Int) < (m : Int) := by omega
    have hNn : n ≤ n := by omega
    have hNm : m ≤ n := by omega
    have hNb : n ≤ 100000 := by omega
    have HMax : Hid (max zs.length ys.length = n) := by show _ = _; rw [HZ.out.len, HY.out.len]; omega
    go_enter Try.func29, Try.ntmps29
    go_wp2_with (at_make; refine wpList_make_full _ rfl _ _ 36 rfl w.heap.size 50 i0 (.int .i64 0) 1 Try.underlying36 hi hz0 hz1 .i64 .i64 _ _ n rfl rfl rfl rfl (by rw [hz2]; omega) (by unfold maxLen; omega) (Nat.le_refl _) ?_)
    intro w1 hown hg
    have ho1 : Owns 50 w1 w.heap.size (some ⟨w.heap.size, 0, none⟩) n n (List.replicate n 0) := by
      show w1.ownsRow _ _ _ _ _ _
      rw [made_ints] at hown; exact hown
    have HO1 : Hid (Owns 50 w1 w.heap.size (some ⟨w.heap.size, 0, none⟩) n n (List.replicate n 0)) := ho1
    have HB1 : Hid (Below w.heap.size w w1) := below_grown hg
    have HCP : Hid (∀ hz : Sees w1 a n c zs, 0 < (zs.map (Value.int .i64)).length → some (⟨w.heap.size, 0, none⟩ : Addr) = some ⟨w.heap.size, 0, none⟩ ∧ ∃ ad, a = some ad ∧ ∀ j v, (zs.map (Value.int .i64))[j]? = some v → w1.cell? (ad.add j) = some v) := by
      intro hz hp
      obtain ⟨b1, o1, e, _⟩ := hz.at (by rw [List.length_map, hz.len] at hp; exact hp)
      refine ⟨rfl, _, e, ?_⟩
      have := sees_news hz n (Nat.le_refl _) _ e
      rw [List.take_of_length_le (by rw [hz.len]; exact Nat.le_refl _)] at this
      exact this
    clear hown hg ho1 hi hz0 hz1 hz2
    go_wp2_with (refine wpList_copy_splice rfl _ _ 36 37 rfl 50 Try.underlying36 info_el1 _ _ _ _ _ _ rfl rfl w.heap.size 0 ((List.replicate n (0 : Int)).map (Value.int .i64)) 50 HO1.out.whole (zs.map (Value.int .i64)) (copy_len HZ.out.len hNn) (HCP.out (HZ.out.below HB1.out)) (copy_fit HZ.out.len hNn) (ints_int _) w.heap.size w HB1.out (Nat.le_refl _) ?_)
    intro w2 hh2 hb2
    have ho2 : Owns 50 w2 w.heap.size (some ⟨w.heap.size, 0, none⟩) n n (M.tab n (M.part zs ys 0)) := by
      refine Owns.of_whole (M.tab_len _ _) (Nat.le_refl _) (by omega) ?_
      rw [← M.part_zero ys (by rw [HZ.out.len]; exact hNn)]
      have h := hh2.out
      simp [splice] at h
      rw [h]
      simp [HZ.out.len]
    have HO2 : Hid (Owns 50 w2 w.heap.size (some ⟨w.heap.size, 0, none⟩) n n (M.tab n (M.part zs ys 0))) := ho2
    have HB2 : Hid (Below w.heap.size w w2) := hb2
    clear hh2 hb2 ho2 HCP
    go_wp2
    go_loopw [19] (fun i wr => ∃ k : Nat, k ≤ m ∧ i = .int .i64 k ∧ Owns 50 wr w.heap.size (some ⟨w.heap.size, 0, none⟩) n n (M.tab n (M.part zs ys k)) ∧ Below w.heap.size w wr) (fun i _ => m - (intOf i).toNat)
    case atStart => exact ⟨0, by omega, rfl, HO2.out, HB2.out⟩
    case round =>
      obtain ⟨k, hk, rfl, ho3, hb3⟩ := hrel
      have HO3 : Hid (Owns 50 wr w.heap.size (some ⟨w.heap.size, 0, none⟩) n n (M.tab n (M.part zs ys k))) := ho3
      have HB3 : Hid (Below w.heap.size w wr) := hb3
      clear ho3 hb3 HO2 HB2
      by_cases hlt : k < m
      · obtain ⟨b1, o1, rfl, hc1⟩ := (HY.out.below HB3.out).at (by omega)
        have c1 := hc1 k hlt
        obtain ⟨g, hge, _, _, hc2, hf⟩ := HO3.out.block (by omega)
        simp only [Option.some.injEq, Addr.mk.injEq, and_true] at hge
        subst hge
        have c2 := hc2 k (by omega)
        rw [M.tab_get _ _ _ (by omega), show M.part zs ys k k = zs.getD k 0 by unfold M.part; rw [if_neg (by omega)]] at c2
        have f2 := hf k
        have y01 := M.el_at HB.out k
        have x01 := M.el_at HA.out k
        have HV : Hid (M.sumAt zs ys k = (zs.getD k 0 + ys.getD k 0) % 65537) := rfl
        generalize hx : zs.getD k 0 = x at c2 x01
        generalize hyy : ys.getD k 0 = y at c1 y01
        have HV2 : Hid (M.sumAt zs ys k = (x + y) % 65537) := by show _ = _; rw [HV.out, hx, hyy]
        obtain ⟨x0, x1⟩ := x01
        obtain ⟨y0, y1⟩ := y01
        have hI : (k : Int) < (m : Int) := by omega
        have hJ : (k : Int) < (n : Int) := by omega
        clear hx hyy hc1 hc2 hf HV
        go_wp2_with fail
        refine (plus_any x y _ x0 x1 y0 y1).mono ?_
        rintro e wr ⟨rfl, rfl⟩
        go_wp2
        go_roundw
        case rel =>
          refine ⟨k + 1, by omega, by go_num, ?_, HB3.out.setCell (Nat.le_refl _) _⟩
          rw [← M.part_step, HV2.out]; exact HO3.out.set k _
        case measure => simp [intOf]; omega
      · have hkm : k = m := by omega
        have HP : Hid (M.tab n (M.part zs ys k) = M.padd zs ys) := M.part_end' HA.out HMax.out (HY.out.len.trans hkm.symm)
        clear hkm
        go_wp2_with fail
        refine (trimmedPoly_any _ HO3.out.sees (by omega)).mono ?_
        rintro e w4 ⟨a4, l4, c4, rfl, ho4, hb4⟩
        have HO4 : Hid (Owns 50 w4 w.heap.size a4 l4 c4 (M.trim (M.padd zs ys))) := by
          show Owns _ _ _ _ _ _ _
          rw [← HP.out]; exact ho4.mono HB3.out.size
        have HB4 : Hid (Below w.heap.size w w4) := HB3.out.trans (hb4.mono HB3.out.size)
        clear ho4 hb4
        go_wp2
        go_ret
        exact ⟨a4, l4, c4, rfl, HO4.out, HB4.out⟩

theorem M.polyOk_parts {zs : List Int} (h : M.polyOk zs = true) : zs.length ≤ 128 ∧ M.allEl zs = true := by
  unfold M.polyOk at h
  simp only [Bool.and_eq_true, decide_eq_true_eq] at h
  exact ⟨h.1, h.2.1⟩
def M.both (zs ys : List Int) : Bool := M.polyOk zs && M.polyOk ys
theorem M.both_parts {zs ys : List Int} (h : M.both zs ys = true) : M.polyOk zs = true ∧ M.polyOk ys = true := by
  unfold M.both at h; simpa using h
theorem M.padd_len (zs ys : List Int) : (M.padd zs ys).length = max zs.length ys.length := M.tab_len _ _
def M.addv (zs ys : List Int) : List Int := if M.both zs ys = true then M.trim (M.padd zs ys) else []
set_option maxHeartbeats 1000000 in
theorem polysOf_in {a b : Option Addr} {n m c d : Nat} {zs ys : List Int} (w : World) (hz : Sees w a n c zs) (hy : Sees w b m d ys) (hb : M.both zs ys = true) :
    Calls Try.prog 27 #[.slice a n c, .slice b m d] w fun e w' => ∃ a' b' c' d', e = .returned (.tuple #[.slice a' n c', .slice b' m d', .bool true]) ∧ Owns 50 w' w.heap.size a' n c' zs ∧ Owns 50 w' w.heap.size b' m d' ys ∧ Below w.heap.size w w' := by
  obtain ⟨h1, h2⟩ := M.both_parts hb
  have hn : n ≤ 1048576 := by have := (M.polyOk_parts h1).1; rw [hz.len] at this; omega
  have hm : m ≤ 1048576 := by have := (M.polyOk_parts h2).1; rw [hy.len] at this; omega
  have HZ : Hid (Sees w a n c zs) := hz
  have HY : Hid (Sees w b m d ys) := hy
  clear hz hy hb
  go_enter Try.func27, Try.ntmps27
  go_wp2_with fail
  refine (implPolyOk_any _ HZ.out).mono ?_
  rintro e w ⟨rfl, rfl⟩
  go_wp2_with fail
  refine (implPolyOk_any _ HY.out).mono ?_
  rintro e w ⟨rfl, rfl⟩
  go_wp2_with fail
  refine (elementsOf_any _ HZ.out hn).mono ?_
  rintro e w1 ⟨a1, c1, rfl, ho1, hb1⟩
  have HO1 : Hid (Owns 50 w1 w.heap.size a1 n c1 zs) := ho1
  have HB1 : Hid (Below w.heap.size w w1) := hb1
  clear ho1 hb1
  go_wp2_with fail
  refine (elementsOf_any _ (HY.out.below HB1.out) hm).mono ?_
  rintro e w2 ⟨a2, c2, rfl, ho2, hb2⟩
  have HO2 : Hid (Owns 50 w2 w.heap.size a2 m c2 ys) := ho2.mono HB1.out.size
  have HO12 : Hid (Owns 50 w2 w.heap.size a1 n c1 zs) := HO1.out.below hb2
  have HB2 : Hid (Below w.heap.size w w2) := HB1.out.trans (hb2.mono HB1.out.size)
  clear ho2 hb2
  go_wp2
  go_ret3
  exact ⟨a1, a2, c1, c2, rfl, HO12.out, HO2.out, HB2.out⟩
set_option maxHeartbeats 1000000 in
theorem polysOf_out {a b : Option Addr} {n m c d : Nat} {zs ys : List Int} (w : World) (hz : Sees w a n c zs) (hy : Sees w b m d ys) (hb : M.both zs ys = false) :
    Calls Try.prog 27 #[.slice a n c, .slice b m d] w fun e w' => e = .returned (.tuple #[.slice none 0 0, .slice none 0 0, .bool false]) ∧ w' = w := by
  have HZ : Hid (Sees w a n c zs) := hz
  have HY : Hid (Sees w b m d ys) := hy
  clear hz hy
  cases h1 : M.polyOk zs with
  | false =>
    go_enter Try.func27, Try.ntmps27
    go_wp2_with fail
    refine (implPolyOk_any _ HZ.out).mono ?_
    rintro e w ⟨rfl, rfl⟩
    go_wp2
    go_ret3
    exact ⟨rfl, rfl⟩
  | true =>
    have h2 : M.polyOk ys = false := by unfold M.both at hb; rw [h1, Bool.true_and] at hb; exact hb
    clear hb
    go_enter Try.func27, Try.ntmps27
    go_wp2_with fail
    refine (implPolyOk_any _ HZ.out).mono ?_
    rintro e w ⟨rfl, rfl⟩
    go_wp2_with fail
    refine (implPolyOk_any _ HY.out).mono ?_
    rintro e w ⟨rfl, rfl⟩
    go_wp2
    go_ret3
    exact ⟨rfl, rfl⟩
set_option maxHeartbeats 1000000 in
theorem specPolyAdd_any {a b : Option Addr} {n m c d : Nat} {zs ys : List Int} (w : World) (hz : Sees w a n c zs) (hy : Sees w b m d ys) :
    Calls Try.prog 9 #[.slice a n c, .slice b m d] w fun e w' => ∃ a' l c', e = .returned (.slice a' l c') ∧ l ≤ 128 ∧ Owns 2 w' w.heap.size a' l c' (M.addv zs ys) ∧ Below w.heap.size w w' := by
  have hlz := hz.len
  have hly := hy.len
  have HZ : Hid (Sees w a n c zs) := hz
  have HY : Hid (Sees w b m d ys) := hy
  clear hz hy
  cases h1 : M.polyOk zs with
  | false =>
    have E : Hid (M.addv zs ys = []) := by show M.addv zs ys = []; simp [M.addv, M.both, h1]
    clear hlz hly
    go_enter Try.func9, Try.ntmps9
    go_wp2_with fail
    refine (specPolyOk_any _ HZ.out).mono ?_
    rintro e w ⟨rfl, rfl⟩
    go_wp2
    go_ret
    refine ⟨_, 0, _, rfl, by omega, ?_, (Below.refl _ _).alloc (Nat.le_refl _) _⟩
    rw [E.out]; exact World.ownsRow_made w #[] 0 (Nat.le_refl _) (by unfold maxLen; omega) rfl
  | true => cases h2 : M.polyOk ys with
    | false =>
      have E : Hid (M.addv zs ys = []) := by show M.addv zs ys = []; simp [M.addv, M.both, h2]
      clear hlz hly
      go_enter Try.func9, Try.ntmps9
      go_wp2_with fail
      refine (specPolyOk_any _ HZ.out).mono ?_
      rintro e w ⟨rfl, rfl⟩
      go_wp2_with fail
      refine (specPolyOk_any _ HY.out).mono ?_
      rintro e w ⟨rfl, rfl⟩
      go_wp2
      go_ret
      refine ⟨_, 0, _, rfl, by omega, ?_, (Below.refl _ _).alloc (Nat.le_refl _) _⟩
      rw [E.out]; exact World.ownsRow_made w #[] 0 (Nat.le_refl _) (by unfold maxLen; omega) rfl
    | true =>
      have E : Hid (M.addv zs ys = M.trim (M.padd zs ys)) := by show M.addv zs ys = _; simp [M.addv, M.both, h1, h2]
      have p1 := M.polyOk_parts h1
      have p2 := M.polyOk_parts h2
      have HA : Hid (M.allEl zs = true) := p1.2
      have HB : Hid (M.allEl ys = true) := p2.2
      have hn : n ≤ 128 := by omega
      have hm : m ≤ 128 := by omega
      have HM : Hid ((M.trim (M.padd zs ys)).length ≤ 128) := by
        show _ ≤ _; have := M.len_trim (M.padd zs ys); rw [M.padd_len] at this; omega
      clear hlz hly p1 p2
      go_enter Try.func9, Try.ntmps9
      go_wp2_with fail
      refine (specPolyOk_any _ HZ.out).mono ?_
      rintro e w ⟨rfl, rfl⟩
      go_wp2_with fail
      refine (specPolyOk_any _ HY.out).mono ?_
      rintro e w ⟨rfl, rfl⟩
      go_wp2_with fail
      refine (l2Add_any _ HZ.out HY.out HA.out HB.out (by omega) (by omega)).mono ?_
      rintro e w1 ⟨a1, l1, c1, rfl, ho1, hb1⟩
      have HO1 : Hid (Owns 2 w1 w.heap.size a1 l1 c1 (M.trim (M.padd zs ys))) := ho1
      have HB1 : Hid (Below w.heap.size w w1) := hb1
      clear ho1 hb1
      go_wp2
      go_ret
      exact ⟨a1, l1, c1, rfl, by rw [← HO1.out.len]; exact HM.out, by rw [E.out]; exact HO1.out, HB1.out⟩
set_option maxHeartbeats 1000000 in
theorem implPolyAdd_any {a b : Option Addr} {n m c d : Nat} {zs ys : List Int} (w : World) (hz : Sees w a n c zs) (hy : Sees w b m d ys) :
    Calls Try.prog 11 #[.slice a n c, .slice b m d] w fun e w' => ∃ a' l c', e = .returned (.slice a' l c') ∧ l ≤ 128 ∧ Owns 2 w' w.heap.size a' l c' (M.addv zs ys) ∧ Below w.heap.size w w' := by
  have hlz := hz.len
  have hly := hy.len
  have HZ : Hid (Sees w a n c zs) := hz
  have HY : Hid (Sees w b m d ys) := hy
  clear hz hy
  cases hb : M.both zs ys with
  | false =>
    have E : Hid (M.addv zs ys = []) := by show M.addv zs ys = []; simp [M.addv, hb]
    have HBo : Hid (M.both zs ys = false) := hb
    clear hlz hly hb
    go_enter Try.func11, Try.ntmps11
    go_wp2_with fail
    refine (polysOf_out _ HZ.out HY.out HBo.out).mono ?_
    rintro e w ⟨rfl, rfl⟩
    go_wp2
    go_ret
    exact ⟨none, 0, 0, rfl, by omega, by rw [E.out]; exact Owns.empty _ _ _, Below.refl _ _⟩
  | true =>
    have E : Hid (M.addv zs ys = M.trim (M.padd zs ys)) := by show M.addv zs ys = _; simp [M.addv, hb]
    have HBo : Hid (M.both zs ys = true) := hb
    obtain ⟨h1, h2⟩ := M.both_parts hb
    have p1 := M.polyOk_parts h1
    have p2 := M.polyOk_parts h2
    have HA : Hid (M.allEl zs = true) := p1.2
    have HB : Hid (M.allEl ys = true) := p2.2
    have hn : n ≤ 128 := by omega
    have hm : m ≤ 128 := by omega
    have HM : Hid ((M.trim (M.padd zs ys)).length ≤ 128) := by
      show _ ≤ _; have := M.len_trim (M.padd zs ys); rw [M.padd_len] at this; omega
    clear hlz hly p1 p2 h1 h2 hb
    go_enter Try.func11, Try.ntmps11
    go_wp2_with fail
    refine (polysOf_in _ HZ.out HY.out HBo.out).mono ?_
    rintro e w1 ⟨a1, b1, c1, d1, rfl, ho1, ho2, hb1⟩
    have HO1 : Hid (Owns 50 w1 w.heap.size a1 n c1 zs) := ho1
    have HO2 : Hid (Owns 50 w1 w.heap.size b1 m d1 ys) := ho2
    have HB1 : Hid (Below w.heap.size w w1) := hb1
    clear ho1 ho2 hb1
    go_wp2_with fail
    refine (polyPlus_any _ HO1.out.sees HO2.out.sees HA.out HB.out (by omega) (by omega)).mono ?_
    rintro e w2 ⟨a2, l2, c2, rfl, ho2, hb2⟩
    have hl2 : l2 ≤ 128 := by rw [← ho2.len]; exact HM.out
    have HO3 : Hid (Owns 50 w2 w1.heap.size a2 l2 c2 (M.trim (M.padd zs ys))) := ho2
    have HB2 : Hid (Below w.heap.size w w2) := HB1.out.trans (hb2.mono HB1.out.size)
    clear ho2 hb2
    go_wp2_with fail
    refine (numbersOf_any _ HO3.out.sees (by omega)).mono ?_
    rintro e w3 ⟨a3, c3, rfl, ho3, hb3⟩
    have HO4 : Hid (Owns 2 w3 w.heap.size a3 l2 c3 (M.trim (M.padd zs ys))) := ho3.mono HB2.out.size
    have HB3 : Hid (Below w.heap.size w w3) := HB2.out.trans (hb3.mono HB2.out.size)
    clear ho3 hb3
    go_wp2
    go_ret
    exact ⟨a3, l2, c3, rfl, hl2, by rw [E.out]; exact HO4.out, HB3.out⟩
end Go.Proofs.Ytjeoenieoejolag
