/- The law of polynomials through points, in the words of what the program answers; no program in sight. -/
import Derived.Test.YtjeoenieoejolaaThD
import Derived.Test.YtjeoenieoejolaaLawMath
namespace Go.Proofs.Ytjeoenieoejolaa
namespace M
theorem thv_thr {xs ys : List Int} (h : thOk xs ys = true) : Thr xs ys (thv xs ys) := by
  rcases thRes_thv xs ys with ⟨_, t⟩ | ⟨o, _⟩
  · exact t
  · rw [h] at o; cases o
theorem thv_poly {xs ys : List Int} (h : thOk xs ys = true) : polyOk (thv xs ys) = true :=
  polyOk_mk (by have := thv_len xs ys; omega) (thv_thr h).al (thv_thr h).nt
theorem law_at {xs ys : List Int} (h : thOk xs ys = true) {j : Nat} (hj : j < xs.length) : atv (thv xs ys) (xs.getD j 0) = ys.getD j 0 := by
  obtain ⟨_, ax, _, _⟩ := thOk_parts h
  rw [atv_in (thv_poly h) ((el_iff _).2 (el_at ax j))]
  exact (thv_thr h).vs j hj
theorem law_thLen {xs ys : List Int} (h : thOk xs ys = true) : (thv xs ys).length ≤ xs.length := (thv_thr h).ln
def backs (g xs : List Int) (n : Nat) : List Int := tab n (fun i => atv g (xs.getD i 0))
theorem backs_snoc (g xs : List Int) (k : Nat) : backs g xs k ++ [atv g (xs.getD k 0)] = backs g xs (k + 1) := tab_snoc k (fun i => atv g (xs.getD i 0))
theorem law_back {xs ys g : List Int} (h : thOk xs ys = true) (hg : polyOk g = true) (hl : g.length ≤ xs.length) : thv xs (backs g xs xs.length) = g := by
  obtain ⟨hlen, ax, _, hd⟩ := thOk_parts h
  obtain ⟨l1, l2, _⟩ := thLens_parts hlen
  have hv : ∀ j, j < xs.length → (backs g xs xs.length).getD j 0 = ev g (xs.getD j 0) := fun j hj => by
    unfold backs; rw [tab_get _ _ _ hj, atv_in hg ((el_iff _).2 (el_at ax j))]
  have ha : allEl (backs g xs xs.length) = true := all_tab fun i hi => by
    rw [atv_in hg ((el_iff _).2 (el_at ax i))]; exact el_ev _ _
  have ok : thOk xs (backs g xs xs.length) = true := thOk_mk (thLens_yes l1 l2 (tab_len _ _)) ax ha hd
  exact (thv_of ok ⟨neat_polyOk hg, (polyOk_parts hg).2, hl, fun j hj => (hv j hj).symm⟩).symm
end M
end Go.Proofs.Ytjeoenieoejolaa
