/- What FromEvals and Below answer in the model; Below in the program. -/
import Derived.Test.YtbcfjbkmkknmfaaDoorTrF
namespace Go.Proofs.YtbcfjbkmkknmfaaDoor
open Go.RowKit

theorem M.root_ne {n : Nat} (h : M.two (n : Int) = true) (h0 : 0 < n) : M.root n ≠ 0 := by
  intro e
  have h1 := M.root_n h
  rw [e] at h1
  obtain ⟨k, rfl⟩ : ∃ k, n = k + 1 := ⟨n - 1, by omega⟩
  rw [Int.pow_succ, Int.mul_zero] at h1
  unfold M.cg at h1; omega
theorem M.lf_step {zs : List Int} {i : Nat} (st : Int) (h : i < zs.length) : (M.pv (zs.take i) st % 65537 + zs.getD i 0 * (st ^ i % 65537)) % 65537 = M.pv (zs.take (i + 1)) st % 65537 := by
  rw [M.pv_take _ _ h]
  exact (M.cg_mod _).add ((M.cg.refl _).mul (M.cg_mod _))
theorem M.lf_pow (st : Int) (i : Nat) : st ^ i % 65537 * st % 65537 = st ^ (i + 1) % 65537 := by
  rw [M.mm, Int.pow_succ]
/-- the coefficients while they are laid down -/
def M.frAt (zs : List Int) (s : Int) (N k : Nat) : List Int := M.tab N (fun i => if i < k then M.frc zs s i else 0)
theorem M.frAt_zero (zs : List Int) (s : Int) (N : Nat) : List.replicate N 0 = M.frAt zs s N 0 := by
  refine M.tab_ext (by simp) fun i hi => ?_
  rw [if_neg (by omega), List.getD_eq_getElem?_getD, List.getElem?_eq_getElem (by simpa using hi)]; simp
theorem M.frAt_end (zs : List Int) (s : Int) (N : Nat) : M.frAt zs s N N = M.tab N (M.frc zs s) := M.tab_congr fun _ hi => if_pos hi
theorem M.frAt_step (zs : List Int) (s : Int) {N k : Nat} : (M.frAt zs s N k).set k (M.frc zs s k) = M.frAt zs s N (k + 1) := by
  unfold M.frAt
  rw [M.tab_set]
  refine M.tab_congr fun i _ => ?_
  by_cases e : i = k
  · subst e; rw [if_pos rfl, if_pos (by omega)]
  · rw [if_neg e]
    by_cases e2 : i < k
    · rw [if_pos e2, if_pos (by omega)]
    · rw [if_neg e2, if_neg (by omega)]
def M.blw (zs : List Int) (s m : Int) : Bool := M.frOk zs s && decide (((M.frv zs s).length : Int) ≤ m)
end Go.Proofs.YtbcfjbkmkknmfaaDoor
