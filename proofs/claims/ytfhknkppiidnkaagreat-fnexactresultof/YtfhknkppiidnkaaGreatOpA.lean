/- Arguments that are opened field by field, whatever their depth. -/
import Derived.Test.YtfhknkppiidnkaaGreatMaO
import Derived.Deep.Slices
import Derived.OpenShut
namespace Go.Proofs.YtfhknkppiidnkaaGreat
open Go.RowKit Go.ChangeShapes Go.WideShapes

section
variable {H : Type} {enc : TypeId × Value → H} {P : Program} {w : World} {base : Nat} {spare : Nat → Bool} {held : Bool}
/-- the cells from o on, n of them, read as a t -/
def Part (enc : TypeId × Value → H) (P : Program) (w : World) (base : Nat) (spare : Nat → Bool) (held : Bool) (t : TypeId) (cs : List Value) (o n : Nat) : Prop :=
  ∃ fuel y, DataW.trod enc P w base spare held fuel t ((cs.drop o).take n) = some y
theorem part_all {t : TypeId} {cs : List Value} {fuel : Nat} {y : DataW H × List MemPlace} (h : DataW.trod enc P w base spare held fuel t cs = some y) (n : Nat) (hn : cs.length ≤ n) : Part enc P w base spare held t cs 0 n :=
  ⟨fuel, y, by rw [List.drop_zero, List.take_of_length_le hn]; exact h⟩
theorem Part.field {t : TypeId} {cs : List Value} {o n : Nat} {fs : Array Field} (h : Part enc P w base spare held t cs o n) (ht : P.underlying t = some (.struct fs)) (i : Nat) (f : Field) (hf : fs[i]? = some f) (k : Nat) (hk : P.cellsOf f.type = k) (hn : f.offset + k ≤ n) :
    Part enc P w base spare held f.type cs (o + f.offset) k := by
  obtain ⟨fuel, y, h⟩ := h
  obtain ⟨xs, m, -, -, -, hxl, hx⟩ := DataW.trod_struct ht h
  have hi : i < fs.size := by
    rcases Nat.lt_or_ge i fs.size with h | h
    · exact h
    · rw [Array.getElem?_eq_none h] at hf; simp at hf
  have h1 := hx i f hf
  rw [List.getElem?_eq_getElem (by omega), hk] at h1
  refine ⟨m, xs[i]'(by omega), ?_⟩
  rw [← h1]
  congr 1
  rw [List.drop_take, List.take_take, List.drop_drop]
  congr 1
  omega
theorem Part.cell {cs : List Value} {o : Nat} {v : Value} (h : (cs.drop o).take 1 = [v]) : cs[o]? = some v := by
  have h1 : ((cs.drop o).take 1)[0]? = some v := by rw [h]; rfl
  rw [List.getElem?_take] at h1
  simpa using h1
theorem Part.int {t : TypeId} {cs : List Value} {o : Nat} {k : IntKind} (h : Part enc P w base spare held t cs o 1) (ht : P.underlying t = some (.int k)) : ∃ z, cs[o]? = some (.int k z) ∧ (Lit.int k z).wf = true := by
  obtain ⟨fuel, y, h⟩ := h
  obtain ⟨z, h1, -, h3⟩ := DataW.trod_int ht h
  exact ⟨z, Part.cell h1, h3⟩
theorem Part.bool {t : TypeId} {cs : List Value} {o : Nat} (h : Part enc P w base spare held t cs o 1) (ht : P.underlying t = some .bool) : ∃ z, cs[o]? = some (.bool z) := by
  obtain ⟨fuel, y, h⟩ := h
  obtain ⟨z, h1, -⟩ := DataW.trod_bool ht h
  exact ⟨z, Part.cell h1⟩
theorem Part.whole {t : TypeId} {cs : List Value} {o : Nat} (h : Part enc P w base spare held t cs o 1) (hl : o < cs.length) : ∃ v, cs[o]? = some v ∧ ∃ fuel y, DataW.trod enc P w base spare held fuel t [v] = some y := by
  obtain ⟨fuel, y, h⟩ := h
  refine ⟨cs[o], List.getElem?_eq_getElem hl, fuel, y, ?_⟩
  rw [← h]
  congr 1
  rw [List.drop_eq_getElem_cons hl]; rfl
end
end Go.Proofs.YtfhknkppiidnkaaGreat
