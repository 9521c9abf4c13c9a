/- Products of polynomials in the model; what PolyMul answers. -/
import Derived.Test.YtfhknkppiidnkaaSlJ
import Derived.Deep.RegionWith
import Derived.BigRegion
import Derived.Deep.RegionHeld3
namespace Go.Proofs.Ytfhknkppiidnkaa
open Go.RowKit

/-- the coefficient at t when the first i rows and k numbers of the next one have been added -/
def M.rowAt (zs ys : List Int) (i k t : Nat) : Int := if i ≤ t ∧ t < i + k then M.pm (zs.take (i + 1)) ys t else M.pm (zs.take i) ys t
theorem M.pm_take {zs : List Int} (ys : List Int) {i : Nat} (h : i < zs.length) (t : Nat) : M.pm (zs.take (i + 1)) ys t = (M.pm (zs.take i) ys t + (if i ≤ t then zs.getD i 0 * ys.getD (t - i) 0 else 0)) % 65537 := by
  rw [← take_snoc h, M.pm_snoc, List.length_take, Nat.min_eq_left (Nat.le_of_lt h)]
theorem M.row_start (zs ys : List Int) (N i : Nat) : M.tab N (M.pm (zs.take i) ys) = M.tab N (M.rowAt zs ys i 0) :=
  M.tab_congr fun t _ => by unfold M.rowAt; rw [if_neg (by omega)]
theorem M.row_old (zs ys : List Int) (i k : Nat) : M.rowAt zs ys i k (i + k) = M.pm (zs.take i) ys (i + k) := by unfold M.rowAt; rw [if_neg (by omega)]
theorem M.row_step {zs ys : List Int} {N i k : Nat} (h : i < zs.length) : (M.tab N (M.rowAt zs ys i k)).set (i + k) ((M.pm (zs.take i) ys (i + k) + zs.getD i 0 * ys.getD k 0) % 65537) = M.tab N (M.rowAt zs ys i (k + 1)) := by
  rw [M.tab_set]
  apply M.tab_congr
  intro t _
  unfold M.rowAt
  by_cases e : t = i + k
  · subst e
    rw [if_pos rfl, if_pos (by omega), M.pm_take ys h, if_pos (by omega), Nat.add_sub_cancel_left]
  · rw [if_neg e]
    by_cases h2 : i ≤ t ∧ t < i + k
    · rw [if_pos h2, if_pos (by omega)]
    · rw [if_neg h2, if_neg (by omega)]
theorem M.row_end {zs ys : List Int} {N i : Nat} (h : i < zs.length) : M.tab N (M.rowAt zs ys i ys.length) = M.tab N (M.pm (zs.take (i + 1)) ys) := by
  apply M.tab_congr
  intro t _
  unfold M.rowAt
  by_cases h2 : i ≤ t ∧ t < i + ys.length
  · rw [if_pos h2]
  · rw [if_neg h2, M.pm_take ys h]
    have hb := M.pm_bd (zs.take i) ys t
    by_cases h3 : i ≤ t
    · rw [if_pos h3, M.getD_out (zs := ys) (by omega), Int.mul_zero, Int.add_zero, Int.emod_eq_of_lt hb.1 hb.2]
    · rw [if_neg h3, Int.add_zero, Int.emod_eq_of_lt hb.1 hb.2]


def M.mulOk (zs ys : List Int) : Bool := M.both zs ys && decide (zs.length + ys.length ≤ 129)
def M.mulv (zs ys : List Int) : List Int := if M.mulOk zs ys = true then M.pmul zs ys else []
theorem M.mulv_len {zs ys : List Int} (h : M.mulOk zs ys = true) : (M.pmul zs ys).length ≤ 128 := by
  unfold M.mulOk at h
  simp only [Bool.and_eq_true, decide_eq_true_eq] at h
  have := M.pmul_len zs ys; omega
end Go.Proofs.Ytfhknkppiidnkaa
