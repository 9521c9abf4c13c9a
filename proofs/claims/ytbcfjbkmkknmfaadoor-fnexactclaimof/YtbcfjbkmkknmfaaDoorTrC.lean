/- The fast transform in the program: a closure that calls itself. -/
import Derived.Test.YtbcfjbkmkknmfaaDoorTrB
import Derived.Deep.RegionHeld3
namespace Go.Proofs.YtbcfjbkmkknmfaaDoor
open Go.RowKit

theorem Owns.one (t : TypeId) (w : World) (x : Int) : Owns t (w.alloc (.cells #[Value.int .i64 x] t)) w.heap.size (some ⟨w.heap.size, 0, none⟩) 1 1 [x] := by
  refine ⟨by simp, .inr ⟨w.heap.size, 1, #[Value.int .i64 x], rfl, Nat.le_refl _, ?_, Nat.le_refl _, by unfold maxLen; omega, by simp, by simp⟩⟩
  unfold World.alloc; simp
/-- the transform's list while it is filled: X i where it has been, else 0 -/
def M.outAt (X : Nat → Int) (c j : Nat) : List Int := M.tab (2 * c) (fun i => if i < j ∨ (c ≤ i ∧ i < c + j) then X i else 0)
theorem M.outAt_zero (X : Nat → Int) (c : Nat) : List.replicate (2 * c) 0 = M.outAt X c 0 := by
  refine M.tab_ext (by simp) fun i hi => ?_
  rw [if_neg (by omega), List.getD_eq_getElem?_getD, List.getElem?_eq_getElem (by simpa using hi)]; simp
theorem M.outAt_step (X : Nat → Int) {c j : Nat} (h : j < c) : ((M.outAt X c j).set j (X j)).set (j + c) (X (j + c)) = M.outAt X c (j + 1) := by
  unfold M.outAt
  rw [M.tab_set, M.tab_set]
  refine M.tab_congr fun i hi => ?_
  by_cases e1 : i = j + c
  · subst e1; rw [if_pos rfl, if_pos (by omega)]
  · rw [if_neg e1]
    by_cases e2 : i = j
    · subst e2; rw [if_pos rfl, if_pos (by omega)]
    · rw [if_neg e2]
      by_cases e3 : i < j ∨ (c ≤ i ∧ i < c + j)
      · rw [if_pos e3, if_pos (by omega)]
      · rw [if_neg e3, if_neg (by omega)]
theorem M.outAt_end (X : Nat → Int) (c : Nat) : M.outAt X c c = M.tab (2 * c) X := M.tab_congr fun i hi => if_pos (by omega)
theorem M.outAt_len (X : Nat → Int) (c j : Nat) : (M.outAt X c j).length = 2 * c := M.tab_len _ _

end Go.Proofs.YtbcfjbkmkknmfaaDoor
