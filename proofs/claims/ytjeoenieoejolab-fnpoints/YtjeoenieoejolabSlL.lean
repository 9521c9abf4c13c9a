/- Products of polynomials in the model; what PolyMul answers. -/
import Derived.Test.YtjeoenieoejolabSlK
import Derived.BigRegion
import Derived.Deep.RegionHeld3
namespace Go.Proofs.Ytjeoenieoejolab
open Go.RowKit

/-- the coefficient at t when the first i rows and k numbers of the next one have been added -/
def M.rowAt (zs ys : List Int) (i k t : Nat) : Int := if i ≤ t ∧ t < i + k then M.pm (zs.take (i + 1)) ys t else M.pm (zs.take i) ys t
theorem M.pm_take {zs : List Int} (ys : List Int) {i : Nat} (h : i < zs.length) (t : Nat) : M.pm (zs.take (i + 1)) ys t = (M.pm (zs.take i) ys t + (if i ≤ t then zs.getD i 0 * ys.getD (t - i) 0 else 0)) % 65537 := by
  rw [← take_snoc h, M.pm_snoc, List.length_take, Nat.min_eq_left (Nat.le_of_lt h)]
theorem M.row_start (zs ys : List Int) (N i : Nat) : M.tab N (M.pm (zs.take i) ys) = M.tab N (M.rowAt zs ys i 0) :=
  M.tab_congr fun t _ => by unfold M.rowAt; rw [if_neg (by omega)]
theorem M.row_old (zs ys : List Int) (i k : Nat) : M.rowAt zs ys i k (i + k) = M.pm (zs.take i) ys (i + k) := by unfold M.rowAt; rw [if_neg (by omega)]
theorem M.row_step {zs ys : List Int} {N i k : Nat} (h : i < zs.length) : (M.tab N (M.rowAt zs ys i k)).set (i + k) ((M.pm (zs.take i) ys (i + k) + zs.getD i 0 * ys.getD k 0) % 65537) = M.tab N (M.rowAt zs ys i (k + 1)) := by
  rw [M.tab_set]
  apply M.tab_congr
  intro t _
  unfold M.rowAt
  by_cases e : t = i + k
  · subst e
    rw [if_pos rfl, if_pos (by omega), M.pm_take ys h, if_pos (by omega), Nat.add_sub_cancel_left]
  · rw [if_neg e]
    by_cases h2 : i ≤ t ∧ t < i + k
    · rw [if_pos h2, if_pos (by omega)]
    · rw [if_neg h2, if_neg (by omega)]
theorem M.row_end {zs ys : List Int} {N i : Nat} (h : i < zs.length) : M.tab N (M.rowAt zs ys i ys.length) = M.tab N (M.pm (zs.take (i + 1)) ys) := by
  apply M.tab_congr
  intro t _
  unfold M.rowAt
  by_cases h2 : i ≤ t ∧ t < i + ys.length
  · rw [if_pos h2]
  · rw [if_neg h2, M.pm_take ys h]
    have hb := M.pm_bd (zs.take i) ys t
    by_cases h3 : i ≤ t
    · rw [if_pos h3, M.getD_out (zs := ys) (by omega), Int.mul_zero, Int.add_zero, Int.emod_eq_of_lt hb.1 hb.2]
    · rw [if_neg h3, Int.add_zero, Int.emod_eq_of_lt hb.1 hb.2]


def M.mulOk (zs ys : List Int) : Bool := M.both zs ys && decide (zs.length + ys.length ≤ 129)
def M.mulv (zs ys : List Int) : List Int := if M.mulOk zs ys = true then M.pmul zs ys else []
theorem M.mulv_len {zs ys : List Int} (h : M.mulOk zs ys = true) : (M.pmul zs ys).length ≤ 128 := by
  unfold M.mulOk at h
  simp only [Bool.and_eq_true, decide_eq_true_eq] at h
  have := M.pmul_len zs ys; omega
set_option maxHeartbeats 1000000 in
theorem implPolyMul_any {a b : Option Addr} {n m c d : Nat} {zs ys : List Int} (w : World) (hz : Sees w a n c zs) (hy : Sees w b m d ys) :
    Calls Try.prog 35 #[.slice a n c, .slice b m d] w fun e w' => ∃ a' l c', e = .returned (.tuple #[.slice a' l c', .bool (M.mulOk zs ys)]) ∧ l ≤ 128 ∧ Owns 2 w' w.heap.size a' l c' (M.mulv zs ys) ∧ Below w.heap.size w w' := by
  have hlz := hz.len
  have hly := hy.len
  have HZ : Hid (Sees w a n c zs) := hz
  have HY : Hid (Sees w b m d ys) := hy
  clear hz hy
  cases hb : M.both zs ys with
  | false =>
    have E : Hid (M.mulOk zs ys = false) := by show _ = _; simp [M.mulOk, hb]
    have E2 : Hid (M.mulv zs ys = []) := by show _ = _; unfold M.mulv; rw [E.out]; rfl
    have HBo : Hid (M.both zs ys = false) := hb
    clear hlz hly hb
    go_enter Try.func35, Try.ntmps35
    go_wp2_with fail
    refine (polysOf_out _ HZ.out HY.out HBo.out).mono ?_
    rintro e w ⟨rfl, rfl⟩
    go_wp2
    go_ret2
    exact ⟨none, 0, 0, by rw [E.out]; rfl, by omega, by rw [E2.out]; exact Owns.empty _ _ _, Below.refl _ _⟩
  | true =>
    have HBo : Hid (M.both zs ys = true) := hb
    obtain ⟨h1, h2⟩ := M.both_parts hb
    have p1 := M.polyOk_parts h1
    have p2 := M.polyOk_parts h2
    have HA : Hid (M.allEl zs = true) := p1.2
    have HB : Hid (M.allEl ys = true) := p2.2
    have hn : n ≤ 128 := by omega
    have hm : m ≤ 128 := by omega
    by_cases hs : n + m ≤ 129
    · have E : Hid (M.mulOk zs ys = true) := by show _ = _; simp [M.mulOk, hb]; omega
      have E2 : Hid (M.mulv zs ys = M.pmul zs ys) := by show _ = _; unfold M.mulv; rw [E.out]; rfl
      have HM : Hid ((M.pmul zs ys).length ≤ 128) := M.mulv_len E.out
      have hsI : ¬ (129 : Int) < (n : Int) + (m : Int) := by omega
      clear hlz hly p1 p2 h1 h2 hb
      go_enter Try.func35, Try.ntmps35
      go_wp2_with fail
      refine (polysOf_in _ HZ.out HY.out HBo.out).mono ?_
      rintro e w1 ⟨a1, b1, c1, d1, rfl, ho1, ho2, hb1⟩
      have HO1 : Hid (Owns 65 w1 w.heap.size a1 n c1 zs) := ho1
      have HO2 : Hid (Owns 65 w1 w.heap.size b1 m d1 ys) := ho2
      have HB1 : Hid (Below w.heap.size w w1) := hb1
      clear ho1 ho2 hb1
      go_wp2_with fail
      refine (polyTimes_any _ HO1.out.sees HO2.out.sees HA.out HB.out (by omega) (by omega)).mono ?_
      rintro e w2 ⟨a2, l2, c2, rfl, ho2, hb2⟩
      have hl2 : l2 ≤ 128 := by rw [← ho2.len]; exact HM.out
      have HO3 : Hid (Owns 65 w2 w1.heap.size a2 l2 c2 (M.pmul zs ys)) := ho2
      have HB2 : Hid (Below w.heap.size w w2) := HB1.out.trans (hb2.mono HB1.out.size)
      clear ho2 hb2
      go_wp2_with fail
      refine (numbersOf_any _ HO3.out.sees (by omega)).mono ?_
      rintro e w3 ⟨a3, c3, rfl, ho3, hb3⟩
      have HO4 : Hid (Owns 2 w3 w.heap.size a3 l2 c3 (M.pmul zs ys)) := ho3.mono HB2.out.size
      have HB3 : Hid (Below w.heap.size w w3) := HB2.out.trans (hb3.mono HB2.out.size)
      clear ho3 hb3
      go_wp2
      go_ret2
      exact ⟨a3, l2, c3, by rw [E.out]; rfl, hl2, by rw [E2.out]; exact HO4.out, HB3.out⟩
    · have E : Hid (M.mulOk zs ys = false) := by show _ = _; simp [M.mulOk, hb]; omega
      have E2 : Hid (M.mulv zs ys = []) := by show _ = _; unfold M.mulv; rw [E.out]; rfl
      have hsI : (129 : Int) < (n : Int) + (m : Int) := by omega
      clear hlz hly p1 p2 h1 h2 hb
      go_enter Try.func35, Try.ntmps35
      go_wp2_with fail
      refine (polysOf_in _ HZ.out HY.out HBo.out).mono ?_
      rintro e w1 ⟨a1, b1, c1, d1, rfl, ho1, ho2, hb1⟩
      have HB1 : Hid (Below w.heap.size w w1) := hb1
      clear ho1 ho2 hb1
      go_wp2
      go_ret2
      exact ⟨none, 0, 0, by rw [E.out]; rfl, by omega, by rw [E2.out]; exact Owns.empty _ _ _, HB1.out⟩
end Go.Proofs.Ytjeoenieoejolab
