/- What the laws make of claims, and whether two are alike. Leaves of the walks over claims. -/
import Derived.Test.YtjeoenieoejolacClA
import Derived.Test.YtjeoenieoejolacMaO
namespace Go.Proofs.Ytjeoenieoejolac
open Go.RowKit Go.WideShapes

theorem cl_of (zs : List Int) (h : zs.length = 5) : ∃ c : M.Cl, Value.agg (zs.map (Value.int .i64)).toArray = clv c := by
  match zs, h with
  | [x, y, x', y', n], _ => exact ⟨⟨(x, y), (x', y'), n⟩, rfl⟩
end Go.Proofs.Ytjeoenieoejolac
namespace Go.Proofs.Ytjeoenieoejolac
open Go.RowKit

theorem lies_kept {w w' : World} {t : TypeId} {vs : Array Value} (hb : Below (w.alloc (.cells vs t)).heap.size (w.alloc (.cells vs t)) w') : Lies w' w.heap.size vs.toList := (lies_new _ _ _).belowS hb
theorem Lies.five {W : World} {b : Nat} {v0 v1 v2 v3 v4 : Value} (h : Lies W b [v0, v1, v2, v3, v4]) :
    W.cell? ⟨b, 0, none⟩ = some v0 ∧ W.cell? ⟨b, 1, none⟩ = some v1 ∧ W.cell? ⟨b, 2, none⟩ = some v2 ∧ W.cell? ⟨b, 3, none⟩ = some v3 ∧ W.cell? ⟨b, 4, none⟩ = some v4 ∧
    W.frozen? ⟨b, 0, none⟩ = false ∧ W.frozen? ⟨b, 1, none⟩ = false ∧ W.frozen? ⟨b, 2, none⟩ = false ∧ W.frozen? ⟨b, 3, none⟩ = false ∧ W.frozen? ⟨b, 4, none⟩ = false :=
  ⟨h.at 0, h.at 1, h.at 2, h.at 3, h.at 4, h.fr 0, h.fr 1, h.fr 2, h.fr 3, h.fr 4⟩
theorem leafA5 {B : Nat} {a W : World} {t : TypeId} {vs : Array Value} (hb : Below B a W) (hB : B ≤ a.heap.size) :
    Below B a (W.alloc (.cells vs t)) ∧ Lies (W.alloc (.cells vs t)) W.heap.size vs.toList ∧ ∀ b us, Lies W b us → Lies (W.alloc (.cells vs t)) b us :=
  ⟨hb.alloc (Nat.le_trans hB hb.size) _, lies_new _ _ _, fun _ _ h => h.alloc _⟩
theorem leafS5 {B p : Nat} {a W : World} {v0 v1 v2 v3 v4 u0 u1 u2 u3 u4 : Value} (hb : Below B a W) (hp : B ≤ p) (L : Lies W p [u0, u1, u2, u3, u4]) :
    Below B a (((((W.setCell ⟨p, 0, none⟩ v0).setCell ⟨p, 1, none⟩ v1).setCell ⟨p, 2, none⟩ v2).setCell ⟨p, 3, none⟩ v3).setCell ⟨p, 4, none⟩ v4) ∧
    Lies (((((W.setCell ⟨p, 0, none⟩ v0).setCell ⟨p, 1, none⟩ v1).setCell ⟨p, 2, none⟩ v2).setCell ⟨p, 3, none⟩ v3).setCell ⟨p, 4, none⟩ v4) p [v0, v1, v2, v3, v4] ∧
    ∀ b us, b ≠ p → Lies W b us → Lies (((((W.setCell ⟨p, 0, none⟩ v0).setCell ⟨p, 1, none⟩ v1).setCell ⟨p, 2, none⟩ v2).setCell ⟨p, 3, none⟩ v3).setCell ⟨p, 4, none⟩ v4) b us :=
  ⟨((((hb.setCell hp _).setCell hp _).setCell hp _).setCell hp _).setCell hp _,
   ((((L.set 0 (by simp) _).set 1 (by simp) _).set 2 (by simp) _).set 3 (by simp) _).set 4 (by simp) _,
   fun _ _ h L' => ((((L'.far h _ _).far h _ _).far h _ _).far h _ _).far h _ _⟩
end Go.Proofs.Ytjeoenieoejolac
