/- Sums of polynomials, in the program and in its model. -/
import Derived.Test.YtfhknkppiidnkaaGreatSlF
import Derived.Laws.CopyOwn
namespace Go.Proofs.YtfhknkppiidnkaaGreat
open Go.RowKit

/-- the list of f 0, f 1, .., N of them -/
def M.tab (N : Nat) (f : Nat → Int) : List Int := (List.range N).map f
theorem M.tab_len (N : Nat) (f : Nat → Int) : (M.tab N f).length = N := by simp [M.tab]
theorem M.tab_get (N : Nat) (f : Nat → Int) (i : Nat) (h : i < N) : (M.tab N f).getD i 0 = f i := by
  rw [List.getD_eq_getElem?_getD, List.getElem?_eq_getElem (by rw [M.tab_len]; exact h)]; simp [M.tab]
theorem M.tab_ext {N : Nat} {zs : List Int} {f : Nat → Int} (hl : zs.length = N) (h : ∀ i, i < N → zs.getD i 0 = f i) : zs = M.tab N f := by
  apply List.ext_getElem (by rw [hl, M.tab_len])
  intro i h1 h2
  have := h i (by omega)
  rw [List.getD_eq_getElem?_getD, List.getElem?_eq_getElem h1] at this
  simpa [M.tab] using this
theorem M.tab_congr {N : Nat} {f g : Nat → Int} (h : ∀ i, i < N → f i = g i) : M.tab N f = M.tab N g :=
  M.tab_ext (M.tab_len _ _) fun i hi => by rw [M.tab_get _ _ _ hi]; exact h i hi
theorem M.tab_set (N : Nat) (f : Nat → Int) (k : Nat) (v : Int) : (M.tab N f).set k v = M.tab N (fun i => if i = k then v else f i) := by
  apply List.ext_getElem (by simp [M.tab])
  intro i h1 h2
  simp only [M.tab, List.getElem_set, List.getElem_map, List.getElem_range]
  by_cases e : k = i
  · subst e; simp
  · rw [if_neg e, if_neg (fun h => e h.symm)]
theorem M.tab_snoc (k : Nat) (f : Nat → Int) : M.tab k f ++ [f k] = M.tab (k + 1) f := by
  simp [M.tab, List.range_succ]
theorem M.tab_nil (f : Nat → Int) : M.tab 0 f = [] := rfl
def M.sumAt (zs ys : List Int) (i : Nat) : Int := (zs.getD i 0 + ys.getD i 0) % 65537
def M.padd (zs ys : List Int) : List Int := M.tab (max zs.length ys.length) (M.sumAt zs ys)
theorem M.getD_out {zs : List Int} {i : Nat} (h : zs.length ≤ i) : zs.getD i 0 = 0 := by
  rw [List.getD_eq_getElem?_getD, List.getElem?_eq_none h]; rfl
theorem M.all_tab {N : Nat} {f : Nat → Int} (h : ∀ i, i < N → M.el (f i) = true) : M.allEl (M.tab N f) = true := by
  unfold M.allEl M.tab
  rw [List.all_eq_true]
  intro x hx
  obtain ⟨i, hi, rfl⟩ := List.mem_map.1 hx
  exact h i (List.mem_range.1 hi)
theorem M.all_padd (zs ys : List Int) : M.allEl (M.padd zs ys) = true :=
  M.all_tab fun i _ => (M.el_iff _).2 ⟨by unfold M.sumAt; omega, by unfold M.sumAt; omega⟩

set_option maxHeartbeats 2000000 in
theorem l2Add_any {a b : Option Addr} {n m c d : Nat} {zs ys : List Int} (w : World) (hz : Sees w a n c zs) (hy : Sees w b m d ys) (ha : M.allEl zs = true) (hb : M.allEl ys = true) (hn : n ≤ 100000) (hm : m ≤ 100000) :
    Calls Tryz.prog 111 #[.slice a n c, .slice b m d] w fun e w' => ∃ a' l c', e = .returned (.slice a' l c') ∧ Owns 2 w' w.heap.size a' l c' (M.trim (M.padd zs ys)) ∧ Below w.heap.size w w' := by
  have HZ : Hid (Sees w a n c zs) := hz
  have HY : Hid (Sees w b m d ys) := hy
  have HA : Hid (M.allEl zs = true) := ha
  have HB : Hid (M.allEl ys = true) := hb
  obtain ⟨i0, hi, hz0, hz1, hz2⟩ := info_parts info_i64
  have HI : Hid (Tryz.prog.info? 2 = some i0 ∧ i0.zero = some (Value.int .i64 0) ∧ i0.size = 1 ∧ i0.bytes = 8) := ⟨hi, hz0, hz1, hz2⟩
  clear hz hy ha hb hi hz0 hz1 hz2
  go_enter Tryz.func111, Tryz.ntmps111
  go_wp2
  go_loopw [5, 6] (fun s i wr => ∃ (k : Nat) (a' : Option Addr) (cap' : Nat), k ≤ max n m ∧ i = .int .i64 k ∧ s = .slice a' k cap' ∧ Owns 2 wr w.heap.size a' k cap' (M.tab k (M.sumAt zs ys)) ∧ Below w.heap.size w wr) (fun _ i _ => max n m - (intOf i).toNat)
  case atStart => exact ⟨0, _, _, by omega, rfl, rfl, World.ownsRow_made w #[] 0 (Nat.le_refl _) (by unfold maxLen; omega) rfl, (Below.refl _ _).alloc (Nat.le_refl _) _⟩
  case round =>
    obtain ⟨k, a', cap', hk, rfl, rfl, ho1, hb1⟩ := hrel
    have HO1 : Hid (Owns 2 wr w.heap.size a' k cap' (M.tab k (M.sumAt zs ys))) := ho1
    have HB1 : Hid (Below w.heap.size w wr) := hb1
    have hsz := hb1.size
    clear ho1 hb1
    have z01 := M.el_at HA.out k
    have y01 := M.el_at HB.out k
    have HSum : Hid (M.sumAt zs ys k = (zs.getD k 0 + ys.getD k 0) % 65537) := rfl
    by_cases hkn : k < n
    · obtain ⟨b1, o1, rfl, hc1⟩ := (HZ.out.below HB1.out).at (by omega)
      have c1 := hc1 k hkn
      clear hc1
      generalize hx : zs.getD k 0 = x at c1 z01
      have HX : Hid (zs.getD k 0 = x) := hx
      obtain ⟨x0, x1⟩ := z01
      have hI : (k : Int) < (n : Int) := by omega
      clear hx
      by_cases hkm : k < m
      · obtain ⟨b2, o2, rfl, hc2⟩ := (HY.out.below HB1.out).at (by omega)
        have c2 := hc2 k hkm
        clear hc2
        generalize hyy : ys.getD k 0 = y at c2 y01
        have HYY : Hid (ys.getD k 0 = y) := hyy
        obtain ⟨y0, y1⟩ := y01
        have hJ : (k : Int) < (m : Int) := by omega
        have HV : Hid (M.sumAt zs ys k = (x + y) % 65537) := by show M.sumAt zs ys k = _; rw [HSum.out, HX.out, HYY.out]
        clear hyy
        go_wp2_with (at_builtin; refine wpList_append_own _ rfl _ _ 24 rfl w.heap.size 2 i0 (.int .i64 0) 1 8 Tryz.underlying24 HI.out.1 HI.out.2.1 HI.out.2.2.1 HI.out.2.2.2 rfl (by decide) _ k ((M.tab k (M.sumAt zs ys)).map (Value.int .i64)) rfl (World.ownsRow.alloc HO1.out _) ⟨wr.heap.size, 0, none⟩ 1 1 [.int .i64 ((x + y) % 65537)] rfl rfl (cell_one wr _ _) (one_int _) (by unfold maxLen; omega) (by omega) (by simp; omega) ?_)
        intro v' w1 hown hgrow _
        have hown' : w1.ownsRow w.heap.size 2 1 v' (k + 1) ((M.tab (k + 1) (M.sumAt zs ys)).map (Value.int .i64)) := by rw [← M.tab_snoc, HV.out, List.map_append]; exact hown
        obtain ⟨a2, cap2, rfl, ho2⟩ := Owns.form hown'
        have HO2 : Hid (Owns 2 w1 w.heap.size a2 (k + 1) cap2 (M.tab (k + 1) (M.sumAt zs ys))) := ho2
        have HB2 : Hid (Below w.heap.size w w1) := HB1.out.grown ((World.grownBy_alloc wr _ _).trans hgrow) hsz HO1.out.row
        clear hown hown' hgrow ho2
        go_wp2
        go_roundw
        case rel => exact ⟨k + 1, a2, cap2, by omega, by go_num, rfl, HO2.out, HB2.out⟩
        case measure => simp [intOf]; omega
      · have hJ : ¬ (k : Int) < (m : Int) := by omega
        have HV : Hid (M.sumAt zs ys k = x % 65537) := by show M.sumAt zs ys k = _; rw [HSum.out, HX.out, M.getD_out (by rw [HY.out.len]; omega), Int.add_zero]
        clear y01
        go_wp2_with (at_builtin; refine wpList_append_own _ rfl _ _ 24 rfl w.heap.size 2 i0 (.int .i64 0) 1 8 Tryz.underlying24 HI.out.1 HI.out.2.1 HI.out.2.2.1 HI.out.2.2.2 rfl (by decide) _ k ((M.tab k (M.sumAt zs ys)).map (Value.int .i64)) rfl (World.ownsRow.alloc HO1.out _) ⟨wr.heap.size, 0, none⟩ 1 1 [.int .i64 (x % 65537)] rfl rfl (cell_one wr _ _) (one_int _) (by unfold maxLen; omega) (by omega) (by simp; omega) ?_)
        intro v' w1 hown hgrow _
        have hown' : w1.ownsRow w.heap.size 2 1 v' (k + 1) ((M.tab (k + 1) (M.sumAt zs ys)).map (Value.int .i64)) := by rw [← M.tab_snoc, HV.out, List.map_append]; exact hown
        obtain ⟨a2, cap2, rfl, ho2⟩ := Owns.form hown'
        have HO2 : Hid (Owns 2 w1 w.heap.size a2 (k + 1) cap2 (M.tab (k + 1) (M.sumAt zs ys))) := ho2
        have HB2 : Hid (Below w.heap.size w w1) := HB1.out.grown ((World.grownBy_alloc wr _ _).trans hgrow) hsz HO1.out.row
        clear hown hown' hgrow ho2
        go_wp2
        go_roundw
        case rel => exact ⟨k + 1, a2, cap2, by omega, by go_num, rfl, HO2.out, HB2.out⟩
        case measure => simp [intOf]; omega
    · have hI : ¬ (k : Int) < (n : Int) := by omega
      have hId : decide ((k : Int) < (n : Int)) = false := by simpa using hI
      clear z01
      by_cases hkm : k < m
      · obtain ⟨b2, o2, rfl, hc2⟩ := (HY.out.below HB1.out).at (by omega)
        have c2 := hc2 k hkm
        clear hc2
        generalize hyy : ys.getD k 0 = y at c2 y01
        have HYY : Hid (ys.getD k 0 = y) := hyy
        obtain ⟨y0, y1⟩ := y01
        have hJ : (k : Int) < (m : Int) := by omega
        have HV : Hid (M.sumAt zs ys k = y % 65537) := by show M.sumAt zs ys k = _; rw [HSum.out, HYY.out, M.getD_out (zs := zs) (by rw [HZ.out.len]; omega), Int.zero_add]
        clear hyy
        go_wp2_with (at_builtin; refine wpList_append_own _ rfl _ _ 24 rfl w.heap.size 2 i0 (.int .i64 0) 1 8 Tryz.underlying24 HI.out.1 HI.out.2.1 HI.out.2.2.1 HI.out.2.2.2 rfl (by decide) _ k ((M.tab k (M.sumAt zs ys)).map (Value.int .i64)) rfl (World.ownsRow.alloc HO1.out _) ⟨wr.heap.size, 0, none⟩ 1 1 [.int .i64 (y % 65537)] rfl rfl (cell_one wr _ _) (one_int _) (by unfold maxLen; omega) (by omega) (by simp; omega) ?_)
        intro v' w1 hown hgrow _
        have hown' : w1.ownsRow w.heap.size 2 1 v' (k + 1) ((M.tab (k + 1) (M.sumAt zs ys)).map (Value.int .i64)) := by rw [← M.tab_snoc, HV.out, List.map_append]; exact hown
        obtain ⟨a2, cap2, rfl, ho2⟩ := Owns.form hown'
        have HO2 : Hid (Owns 2 w1 w.heap.size a2 (k + 1) cap2 (M.tab (k + 1) (M.sumAt zs ys))) := ho2
        have HB2 : Hid (Below w.heap.size w w1) := HB1.out.grown ((World.grownBy_alloc wr _ _).trans hgrow) hsz HO1.out.row
        clear hown hown' hgrow ho2
        go_wp2
        go_roundw
        case rel => exact ⟨k + 1, a2, cap2, by omega, by go_num, rfl, HO2.out, HB2.out⟩
        case measure => simp [intOf]; omega
      · have hJ : ¬ (k : Int) < (m : Int) := by omega
        have hke : k = max n m := by omega
        have HP : Hid (M.tab k (M.sumAt zs ys) = M.padd zs ys) := by show _ = _; unfold M.padd; rw [HZ.out.len, HY.out.len, ← hke]
        have hkb : k ≤ 1048576 := by omega
        clear y01 hke
        go_wp2_with fail
        refine (l2Trim_any _ HO1.out.sees hkb).mono ?_
        rintro e w1 ⟨a2, l2, c2, rfl, ho2, hb2⟩
        have HO2 : Hid (Owns 2 w1 w.heap.size a2 l2 c2 (M.trim (M.padd zs ys))) := by
          show Owns _ _ _ _ _ _ _
          rw [← HP.out]; exact ho2.mono hsz
        have HB2 : Hid (Below w.heap.size w w1) := HB1.out.trans (hb2.mono hsz)
        clear ho2 hb2
        go_wp2
        go_ret
        exact ⟨a2, l2, c2, rfl, HO2.out, HB2.out⟩
end Go.Proofs.YtfhknkppiidnkaaGreat
