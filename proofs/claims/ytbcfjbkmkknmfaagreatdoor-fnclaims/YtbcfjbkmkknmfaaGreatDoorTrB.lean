/- Products place by place, and wrapped lists, in the program. -/
import Derived.Test.YtbcfjbkmkknmfaaGreatDoorTrA
namespace Go.Proofs.YtbcfjbkmkknmfaaGreatDoor
open Go.RowKit

def M.each (zs ys : List Int) : List Int := M.tab zs.length (fun i => zs.getD i 0 * ys.getD i 0 % 65537)
theorem M.each_len (zs ys : List Int) : (M.each zs ys).length = zs.length := M.tab_len _ _
theorem M.each_all (zs ys : List Int) : M.allEl (M.each zs ys) = true := M.all_tab fun i _ => (M.el_iff _).2 ⟨by omega, by omega⟩
set_option maxHeartbeats 1000000 in
theorem timesEach_any {a b : Option Addr} {n c m d : Nat} {zs ys : List Int} (w : World) (hz : Sees w a n c zs) (hy : Sees w b m d ys) (az : M.allEl zs = true) (ay : M.allEl ys = true) (hm : m = n) (hn : n ≤ 1048576) :
    Calls Tryz.prog 119 #[.slice a n c, .slice b m d] w fun e w' => ∃ a' c', e = .returned (.slice a' n c') ∧ Owns 73 w' w.heap.size a' n c' (M.each zs ys) ∧ Below w.heap.size w w' := by
  subst hm
  have HZ : Hid (Sees w a m c zs) := hz
  have HY : Hid (Sees w b m d ys) := hy
  have HA : Hid (M.allEl zs = true) := az
  have HB : Hid (M.allEl ys = true) := ay
  obtain ⟨i0, hi, hz0, hz1, hz2⟩ := info_parts info_el
  have HI : Hid (Tryz.prog.info? 73 = some i0 ∧ i0.zero = some (Value.int .i64 0) ∧ i0.size = 1 ∧ i0.bytes = 8) := ⟨hi, hz0, hz1, hz2⟩
  clear hz hy az ay
  go_enter Tryz.func119, Tryz.ntmps119
  go_wp2_with (at_make; refine wpList_make_own _ rfl _ _ 89 rfl w.heap.size 73 i0 (.int .i64 0) 1 Tryz.underlying89 hi hz0 hz1 .i64 .i64 _ m rfl rfl rfl (by rw [hz2]; omega) (by unfold maxLen; omega) (Nat.le_refl _) ?_)
  intro w1 hown hg
  have HO : Hid (Owns 73 w1 w.heap.size (some ⟨w.heap.size, 0, none⟩) 0 m []) := hown
  have HBl : Hid (Below w.heap.size w w1) := below_grown hg
  clear hown hg hi hz0 hz1 hz2
  go_wp2
  go_loopw [5, 13] (fun s i wr => ∃ (k : Nat) (a' : Option Addr) (cap' : Nat), k ≤ m ∧ i = .int .i64 k ∧ s = .slice a' k cap' ∧ Owns 73 wr w.heap.size a' k cap' (M.tab k (fun i => zs.getD i 0 * ys.getD i 0 % 65537)) ∧ Below w.heap.size w wr) (fun _ i _ => m - (intOf i).toNat)
  case atStart => exact ⟨0, _, _, by omega, rfl, rfl, HO.out, HBl.out⟩
  case round =>
    obtain ⟨k, a', cap', hk, rfl, rfl, ho1, hb1⟩ := hrel
    have HO1 : Hid (Owns 73 wr w.heap.size a' k cap' (M.tab k (fun i => zs.getD i 0 * ys.getD i 0 % 65537))) := ho1
    have HB1 : Hid (Below w.heap.size w wr) := hb1
    have hsz := hb1.size
    clear ho1 hb1 HO HBl
    by_cases hlt : k < m
    · obtain ⟨b1, o1, rfl, hc1⟩ := (HZ.out.below HB1.out).at (by omega)
      obtain ⟨b2, o2, rfl, hc2⟩ := (HY.out.below HB1.out).at (by omega)
      have c1 := hc1 k hlt
      have c2 := hc2 k hlt
      have x01 := M.el_at HA.out k
      have y01 := M.el_at HB.out k
      have HS : Hid (M.tab k (fun i => zs.getD i 0 * ys.getD i 0 % 65537) ++ [zs.getD k 0 * ys.getD k 0 % 65537] = M.tab (k + 1) (fun i => zs.getD i 0 * ys.getD i 0 % 65537)) := M.tab_snoc k (fun i => zs.getD i 0 * ys.getD i 0 % 65537)
      generalize zs.getD k 0 = x at c1 x01 HS
      generalize ys.getD k 0 = y at c2 y01 HS
      obtain ⟨x0, x1⟩ := x01
      obtain ⟨y0, y1⟩ := y01
      have hI : (k : Int) < (m : Int) := by omega
      clear hc1 hc2
      go_wp2_with fail
      refine (times_any x y _ x0 x1 y0 y1).mono ?_
      rintro e wr ⟨rfl, rfl⟩
      go_wp2_with (at_builtin; refine wpList_append_own _ rfl _ _ 89 rfl w.heap.size 73 i0 (.int .i64 0) 1 8 Tryz.underlying89 HI.out.1 HI.out.2.1 HI.out.2.2.1 HI.out.2.2.2 rfl (by decide) _ k ((M.tab k (fun i => zs.getD i 0 * ys.getD i 0 % 65537)).map (Value.int .i64)) rfl (World.ownsRow.alloc HO1.out _) ⟨wr.heap.size, 0, none⟩ 1 1 [.int .i64 (x * y % 65537)] rfl rfl (cell_one wr _ _) (one_int _) (by unfold maxLen; omega) (by omega) (by simp; omega) ?_)
      intro v' w1 hown hgrow _
      have hown' : w1.ownsRow w.heap.size 73 1 v' (k + 1) ((M.tab (k + 1) (fun i => zs.getD i 0 * ys.getD i 0 % 65537)).map (Value.int .i64)) := by rw [← HS.out, List.map_append]; exact hown
      obtain ⟨a2, cap2, rfl, ho2⟩ := Owns.form hown'
      have HO2 : Hid (Owns 73 w1 w.heap.size a2 (k + 1) cap2 (M.tab (k + 1) (fun i => zs.getD i 0 * ys.getD i 0 % 65537))) := ho2
      have HB2 : Hid (Below w.heap.size w w1) := HB1.out.grown ((World.grownBy_alloc wr _ _).trans hgrow) hsz HO1.out.row
      clear hown hown' hgrow ho2
      go_wp2
      go_roundw
      case rel => exact ⟨k + 1, a2, cap2, by omega, by go_num, rfl, HO2.out, HB2.out⟩
      case measure => simp [intOf]; omega
    · have hkn : k = m := by omega
      subst hkn
      go_wp2
      go_ret
      exact ⟨a', cap', rfl, by unfold M.each; rw [HZ.out.len]; exact HO1.out, HB1.out⟩
theorem M.wr_all {n i : Nat} {zs out : List Int} (h : M.Wr n zs i out) : M.allEl out = true := by
  unfold M.allEl
  rw [List.all_eq_true]
  intro x hx
  obtain ⟨k, hk, rfl⟩ := List.mem_iff_getElem.1 hx
  have := h.2.1 k
  rw [List.getD_eq_getElem?_getD, List.getElem?_eq_getElem hk] at this
  exact (M.el_iff _).2 this
set_option maxHeartbeats 2000000 in
theorem wrapped_any {a : Option Addr} {n c : Nat} {zs : List Int} (N : Nat) (w : World) (hz : Sees w a n c zs) (az : M.allEl zs = true) (hn : n ≤ 1048576) (hN : N ≤ 1048576) (hN0 : 0 < N) :
    Calls Tryz.prog 120 #[.slice a n c, .int .i64 N] w fun e w' => ∃ a' out, e = .returned (.slice a' N N) ∧ M.Wr N zs zs.length out ∧ Owns 73 w' w.heap.size a' N N out ∧ Below w.heap.size w w' := by
  have HZ : Hid (Sees w a n c zs) := hz
  have HA : Hid (M.allEl zs = true) := az
  obtain ⟨i0, hi, hz0, hz1, hz2⟩ := info_parts info_el
  have HW0 : Hid (M.Wr N zs 0 (List.replicate N 0)) := M.wr_start N zs
  clear hz az
  go_enter Tryz.func120, Tryz.ntmps120
  go_wp2_with (at_make; refine wpList_make_full _ rfl _ _ 89 rfl w.heap.size 73 i0 (.int .i64 0) 1 Tryz.underlying89 hi hz0 hz1 .i64 .i64 _ _ N rfl rfl rfl rfl (by rw [hz2]; omega) (by unfold maxLen; omega) (Nat.le_refl _) ?_)
  intro w1 hown hg
  have HO : Hid (Owns 73 w1 w.heap.size (some ⟨w.heap.size, 0, none⟩) N N (List.replicate N 0)) := by
    show w1.ownsRow _ _ _ _ _ _
    rw [made_ints] at hown; exact hown
  have HBl : Hid (Below w.heap.size w w1) := below_grown hg
  clear hown hg hi hz0 hz1 hz2
  go_wp2
  go_loopw [12] (fun i wr => ∃ (k : Nat) (out : List Int), k ≤ n ∧ i = .int .i64 k ∧ M.Wr N zs k out ∧ Owns 73 wr w.heap.size (some ⟨w.heap.size, 0, none⟩) N N out ∧ Below w.heap.size w wr) (fun i _ => n - (intOf i).toNat)
  case atStart => exact ⟨0, _, by omega, rfl, HW0.out, HO.out, HBl.out⟩
  case round =>
    obtain ⟨k, out, hk, rfl, hwr, ho1, hb1⟩ := hrel
    have HWr : Hid (M.Wr N zs k out) := hwr
    have HO1 : Hid (Owns 73 wr w.heap.size (some ⟨w.heap.size, 0, none⟩) N N out) := ho1
    have HB1 : Hid (Below w.heap.size w wr) := hb1
    clear ho1 hb1 HO HBl hwr
    by_cases hlt : k < n
    · obtain ⟨b1, o1, rfl, hc1⟩ := (HZ.out.below HB1.out).at (by omega)
      have c1 := hc1 k hlt
      have x01 := M.el_at HA.out k
      obtain ⟨g, hge, _, _, hc2, hf⟩ := HO1.out.block hN0
      simp only [Option.some.injEq, Addr.mk.injEq, and_true] at hge
      subst hge
      have hmod : k % N < N := Nat.mod_lt _ hN0
      have c2 := hc2 (k % N) hmod
      have f2 := hf (k % N)
      have y01 := HWr.out.2.1 (k % N)
      have HS : Hid (M.Wr N zs (k + 1) (out.set (k % N) ((out.getD (k % N) 0 + zs.getD k 0) % 65537))) := M.wr_step HWr.out (by rw [HZ.out.len]; exact hlt) hN0
      have hI : (k : Int) < (n : Int) := by omega
      have hM0 : (0 : Int) ≤ (k : Int) % (N : Int) := by omega
      have hM1 : (k : Int) % (N : Int) < (N : Int) := Int.emod_lt_of_pos _ (by omega)
      have hMc : (k : Int) % (N : Int) = ((k % N : Nat) : Int) := by rw [Int.natCast_emod]
      have hMt : (k : Int).tmod (N : Int) = ((k % N : Nat) : Int) := by rw [Int.tmod_eq_emod_of_nonneg (by omega), Int.natCast_emod]
      generalize zs.getD k 0 = x at c1 x01 HS
      generalize out.getD (k % N) 0 = y at c2 y01 HS
      generalize k % N = r at c2 f2 HS hMc hMt hmod
      have hrI : (r : Int) < (N : Int) := by omega
      have hN00 : ¬ N = 0 := by omega
      obtain ⟨x0, x1⟩ := x01
      obtain ⟨y0, y1⟩ := y01
      have hN' : ((N : Int) == 0) = false := by simp; omega
      have hNne : (N : Int) ≠ 0 := by omega
      clear hc1 hc2 hf
      go_wp2
      go_region_with ((go_at_call 137; refine (plus_any y x _ y0 y1 x0 x1).mono ?_; rintro e w' ⟨rfl, rfl⟩))
      all_goals
        go_wp2
        go_roundw
        case rel => exact ⟨k + 1, _, by omega, by go_num, HS.out, HO1.out.drewN 1 |>.set r _, (HB1.out.drew).setCell (Nat.le_refl _) _⟩
        case measure => simp [intOf]; omega
    · have hkn : k = n := by omega
      subst hkn
      go_wp2
      go_ret
      exact ⟨_, out, rfl, by rw [HZ.out.len]; exact HWr.out, HO1.out, HB1.out⟩
end Go.Proofs.YtbcfjbkmkknmfaaGreatDoor
