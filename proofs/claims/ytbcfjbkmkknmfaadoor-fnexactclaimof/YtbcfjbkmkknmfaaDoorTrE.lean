/- What Evals answers, in the program and in its model. -/
import Derived.Test.YtbcfjbkmkknmfaaDoorTrD
namespace Go.Proofs.YtbcfjbkmkknmfaaDoor
open Go.RowKit

def M.evOk (zs : List Int) (n s : Int) : Bool := M.polyOk zs && M.ptOk n s
def M.evv (zs : List Int) (n s : Int) : List Int := if M.evOk zs n s = true then M.evs zs s (M.root n) n.toNat else []
theorem M.evv_in {zs : List Int} {n s : Int} (h : M.evOk zs n s = true) : M.evv zs n s = M.evs zs s (M.root n) n.toNat := if_pos h
theorem M.evv_out {zs : List Int} {n s : Int} (h : M.evOk zs n s = false) : M.evv zs n s = [] := if_neg (by rw [h]; decide)
theorem M.evOk_parts {zs : List Int} {n s : Int} (h : M.evOk zs n s = true) : M.polyOk zs = true ∧ M.ptOk n s = true := by
  unfold M.evOk at h; simpa using h
/-- the points while their values are laid over them -/
def M.evAt (zs : List Int) (s q : Int) (N k : Nat) : List Int := M.tab N (fun i => if i < k then M.ev zs (s * q ^ i % 65537) else s * q ^ i % 65537)
theorem M.evAt_zero (zs : List Int) (s q : Int) (N : Nat) : M.gp s q N = M.evAt zs s q N 0 := M.tab_congr fun _ _ => (if_neg (by omega)).symm
theorem M.evAt_end (zs : List Int) (s q : Int) (N : Nat) : M.evAt zs s q N N = M.evs zs s q N := M.tab_congr fun _ hi => if_pos hi
theorem M.evAt_step (zs : List Int) (s q : Int) {N k : Nat} : (M.evAt zs s q N k).set k (M.ev zs (s * q ^ k % 65537)) = M.evAt zs s q N (k + 1) := by
  unfold M.evAt
  rw [M.tab_set]
  refine M.tab_congr fun i _ => ?_
  by_cases e : i = k
  · subst e; rw [if_pos rfl, if_pos (by omega)]
  · rw [if_neg e]
    by_cases e2 : i < k
    · rw [if_pos e2, if_pos (by omega)]
    · rw [if_neg e2, if_neg (by omega)]

end Go.Proofs.YtbcfjbkmkknmfaaDoor
