/- Many cells of one block written one behind the other. -/
import Derived.Test.YtfhknkppiidnkaaGreatSlA
namespace Go.Proofs.YtfhknkppiidnkaaGreat
open Go.RowKit

def sets (W : World) (B : Nat) : Nat → List Value → World
  | _, [] => W
  | i, v :: vs => sets (W.setCell ⟨B, i, none⟩ v) B (i + 1) vs
theorem sets_far (B : Nat) {p : Addr} (hp : p.block ≠ B) : ∀ (vs : List Value) (W : World) (i : Nat), (sets W B i vs).cell? p = W.cell? p
  | [], _, _ => rfl
  | v :: vs, W, i => (sets_far B hp vs (W.setCell ⟨B, i, none⟩ v) (i + 1)).trans (World.cell?_setCell_other (w := W) (a := ⟨B, i, none⟩) (b := p) (v := v) (h := fun e => hp (by rw [← e])))
theorem sets_low (B j : Nat) : ∀ (vs : List Value) (W : World) (i : Nat), j < i → (sets W B i vs).cell? ⟨B, j, none⟩ = W.cell? ⟨B, j, none⟩
  | [], _, _, _ => rfl
  | v :: vs, W, i, h => (sets_low B j vs (W.setCell ⟨B, i, none⟩ v) (i + 1) (by omega)).trans (World.cell?_setCell_other (w := W) (a := ⟨B, i, none⟩) (b := ⟨B, j, none⟩) (v := v) (h := by intro e; simp only [Addr.mk.injEq] at e; omega))
theorem sets_at (B : Nat) : ∀ (vs : List Value) (W : World) (i : Nat), (∀ j, j < vs.length → ∃ u, W.cell? ⟨B, i + j, none⟩ = some u) → ∀ j v, vs[j]? = some v → (sets W B i vs).cell? ⟨B, i + j, none⟩ = some v
  | [], _, _, _, j, v, h => by simp at h
  | x :: vs, W, i, hc, 0, v, h => by
    have e : x = v := by simpa using h
    subst e
    obtain ⟨u, hu⟩ := hc 0 (by simp)
    exact (sets_low B i vs (W.setCell ⟨B, i, none⟩ x) (i + 1) (by omega)).trans (World.cell?_setCell_same (w := W) (a := ⟨B, i, none⟩) (v := x) (h := hu))
  | x :: vs, W, i, hc, j + 1, v, h => by
    have h' : vs[j]? = some v := by simpa using h
    have key := sets_at B vs (W.setCell ⟨B, i, none⟩ x) (i + 1) (fun j hj => by
      obtain ⟨u, hu⟩ := hc (j + 1) (by simp; omega)
      refine ⟨u, (World.cell?_setCell_other (w := W) (a := ⟨B, i, none⟩) (b := ⟨B, i + 1 + j, none⟩) (v := x) (h := by intro e; simp only [Addr.mk.injEq] at e; omega)).trans ?_⟩
      rw [show i + 1 + j = i + (j + 1) by omega]; exact hu) j v h'
    rw [show i + (j + 1) = i + 1 + j by omega]; exact key
theorem sets_frozen (B : Nat) (p : Addr) : ∀ (vs : List Value) (W : World) (i : Nat), (sets W B i vs).frozen? p = W.frozen? p
  | [], _, _ => rfl
  | v :: vs, W, i => (sets_frozen B p vs (W.setCell ⟨B, i, none⟩ v) (i + 1)).trans (by simp)
theorem sets_size (B : Nat) : ∀ (vs : List Value) (W : World) (i : Nat), (sets W B i vs).heap.size = W.heap.size
  | [], _, _ => rfl
  | v :: vs, W, i => (sets_size B vs (W.setCell ⟨B, i, none⟩ v) (i + 1)).trans (by simp)
theorem sets_below {B0 B : Nat} {a : World} (hB : B0 ≤ B) : ∀ (vs : List Value) (W : World) (i : Nat), Below B0 a W → Below B0 a (sets W B i vs)
  | [], _, _, h => h
  | v :: vs, W, i, h => sets_below hB vs (W.setCell ⟨B, i, none⟩ v) (i + 1) (h.setCell hB v)
end Go.Proofs.YtfhknkppiidnkaaGreat
