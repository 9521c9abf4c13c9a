/- Products place by place, and wrapped lists, in the program. -/
import Derived.Test.YtbcfjbkmkknmfaaDoorTrA
namespace Go.Proofs.YtbcfjbkmkknmfaaDoor
open Go.RowKit

def M.each (zs ys : List Int) : List Int := M.tab zs.length (fun i => zs.getD i 0 * ys.getD i 0 % 65537)
theorem M.each_len (zs ys : List Int) : (M.each zs ys).length = zs.length := M.tab_len _ _
theorem M.each_all (zs ys : List Int) : M.allEl (M.each zs ys) = true := M.all_tab fun i _ => (M.el_iff _).2 ⟨by omega, by omega⟩
theorem M.wr_all {n i : Nat} {zs out : List Int} (h : M.Wr n zs i out) : M.allEl out = true := by
  unfold M.allEl
  rw [List.all_eq_true]
  intro x hx
  obtain ⟨k, hk, rfl⟩ := List.mem_iff_getElem.1 hx
  have := h.2.1 k
  rw [List.getD_eq_getElem?_getD, List.getElem?_eq_getElem hk] at this
  exact (M.el_iff _).2 this
end Go.Proofs.YtbcfjbkmkknmfaaDoor
