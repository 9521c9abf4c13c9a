/- Sums of polynomials, in the program and in its model. -/
import Derived.Test.YtfhknkppiidnkaaSlF
import Derived.Laws.CopyOwn
namespace Go.Proofs.Ytfhknkppiidnkaa
open Go.RowKit

/-- the list of f 0, f 1, .., N of them -/
def M.tab (N : Nat) (f : Nat → Int) : List Int := (List.range N).map f
theorem M.tab_len (N : Nat) (f : Nat → Int) : (M.tab N f).length = N := by simp [M.tab]
theorem M.tab_get (N : Nat) (f : Nat → Int) (i : Nat) (h : i < N) : (M.tab N f).getD i 0 = f i := by
  rw [List.getD_eq_getElem?_getD, List.getElem?_eq_getElem (by rw [M.tab_len]; exact h)]; simp [M.tab]
theorem M.tab_ext {N : Nat} {zs : List Int} {f : Nat → Int} (hl : zs.length = N) (h : ∀ i, i < N → zs.getD i 0 = f i) : zs = M.tab N f := by
  apply List.ext_getElem (by rw [hl, M.tab_len])
  intro i h1 h2
  have := h i (by omega)
  rw [List.getD_eq_getElem?_getD, List.getElem?_eq_getElem h1] at this
  simpa [M.tab] using this
theorem M.tab_congr {N : Nat} {f g : Nat → Int} (h : ∀ i, i < N → f i = g i) : M.tab N f = M.tab N g :=
  M.tab_ext (M.tab_len _ _) fun i hi => by rw [M.tab_get _ _ _ hi]; exact h i hi
theorem M.tab_set (N : Nat) (f : Nat → Int) (k : Nat) (v : Int) : (M.tab N f).set k v = M.tab N (fun i => if i = k then v else f i) := by
  apply List.ext_getElem (by simp [M.tab])
  intro i h1 h2
  simp only [M.tab, List.getElem_set, List.getElem_map, List.getElem_range]
  by_cases e : k = i
  · subst e; simp
  · rw [if_neg e, if_neg (fun h => e h.symm)]
theorem M.tab_snoc (k : Nat) (f : Nat → Int) : M.tab k f ++ [f k] = M.tab (k + 1) f := by
  simp [M.tab, List.range_succ]
theorem M.tab_nil (f : Nat → Int) : M.tab 0 f = [] := rfl
def M.sumAt (zs ys : List Int) (i : Nat) : Int := (zs.getD i 0 + ys.getD i 0) % 65537
def M.padd (zs ys : List Int) : List Int := M.tab (max zs.length ys.length) (M.sumAt zs ys)
theorem M.getD_out {zs : List Int} {i : Nat} (h : zs.length ≤ i) : zs.getD i 0 = 0 := by
  rw [List.getD_eq_getElem?_getD, List.getElem?_eq_none h]; rfl
theorem M.all_tab {N : Nat} {f : Nat → Int} (h : ∀ i, i < N → M.el (f i) = true) : M.allEl (M.tab N f) = true := by
  unfold M.allEl M.tab
  rw [List.all_eq_true]
  intro x hx
  obtain ⟨i, hi, rfl⟩ := List.mem_map.1 hx
  exact h i (List.mem_range.1 hi)
theorem M.all_padd (zs ys : List Int) : M.allEl (M.padd zs ys) = true :=
  M.all_tab fun i _ => (M.el_iff _).2 ⟨by unfold M.sumAt; omega, by unfold M.sumAt; omega⟩

end Go.Proofs.Ytfhknkppiidnkaa
