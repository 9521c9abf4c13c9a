/- What DrawTraceOk draws: some machine, some states. -/
import Derived.Test.YtjeoenieoejoladRdM
import Derived.Test.YtjeoenieoejoladRdO
import Derived.Test.YtjeoenieoejoladClP
import Derived.Test.YtjeoenieoejoladMaU
import Derived.Deep.RegionHeld3
namespace Go.Proofs.Ytjeoenieoejolad
open Go.RowKit

theorem Rd.belowS {w0 w w' : World} {R : Nat} {a : Option Addr} {len cap : Nat} (h : Rd w0 R a len cap w) (hb : Below w.heap.size w w') : Rd w0 R a len cap w' := by
  obtain ⟨p, hp, hcp⟩ := h.cp
  have h0 : w0.heap.size ≤ w.heap.size := h.below.size
  exact ⟨h.below.trans (hb.mono h0), h.lo, Nat.lt_of_lt_of_le h.hi hb.size, (hb.cell (p := ⟨R, 0, none⟩) h.hi).trans h.cb, ⟨p, hp, (hb.cell (p := ⟨R, 1, none⟩) h.hi).trans hcp⟩, (hb.frozen (p := ⟨R, 1, none⟩) h.hi).trans h.fr⟩
theorem Rd.set {w0 w : World} {R b i : Nat} {a : Option Addr} {len cap : Nat} {v : Value} (h : Rd w0 R a len cap w) (hb : w0.heap.size ≤ b) (hne : b ≠ R) : Rd w0 R a len cap (w.setCell ⟨b, i, none⟩ v) := by
  obtain ⟨p, hp, hcp⟩ := h.cp
  have e : ∀ j, (w.setCell ⟨b, i, none⟩ v).cell? ⟨R, j, none⟩ = w.cell? ⟨R, j, none⟩ := fun j => World.cell?_setCell_other (w := w) (a := ⟨b, i, none⟩) (b := ⟨R, j, none⟩) (v := v) (h := by intro e; simp only [Addr.mk.injEq] at e; omega)
  exact ⟨h.below.setCell hb _, h.lo, by have := h.hi; simpa [World.setCell] using this, (e 0).trans h.cb, ⟨p, hp, (e 1).trans hcp⟩, by simpa using h.fr⟩
theorem SeesQ.set {w : World} {b off n c i : Nat} {ps : List (Int × Int)} {x y : Int} (h : SeesQ w (some ⟨b, off, none⟩) n c ps) (hi : i < n) :
    SeesQ ((w.setCell ⟨b, off + i * 2, none⟩ (.int .i64 x)).setCell ⟨b, off + i * 2 + 1, none⟩ (.int .i64 y)) (some ⟨b, off, none⟩) n c (ps.set i (x, y)) := by
  refine ⟨by rw [List.length_set]; exact h.len, h.le, h.big, h.no, .inr ⟨b, off, rfl, fun j hj => ?_⟩⟩
  obtain ⟨b', off', e, hc⟩ := h.at (by omega)
  simp only [Option.some.injEq, Addr.mk.injEq, and_true] at e
  obtain ⟨rfl, rfl⟩ := e
  have hl := h.len
  have so : ∀ (W : World) (p q : Nat) (v : Value), p ≠ q → (W.setCell ⟨b, p, none⟩ v).cell? ⟨b, q, none⟩ = W.cell? ⟨b, q, none⟩ := fun W p q v hpq => World.cell?_setCell_other (w := W) (a := ⟨b, p, none⟩) (b := ⟨b, q, none⟩) (v := v) (h := by intro e; simp only [Addr.mk.injEq] at e; omega)
  by_cases e : j = i
  · subst e
    have hg : (ps.set j (x, y)).getD j (0, 0) = (x, y) := by rw [List.getD_eq_getElem?_getD, List.getElem?_set_self (by omega)]; rfl
    rw [hg]
    refine ⟨(so _ _ _ _ (by omega)).trans ?_, ?_⟩
    · exact World.cell?_setCell_same (w := w) (a := ⟨b, off + j * 2, none⟩) (v := .int .i64 x) (h := (hc j hj).1)
    · exact World.cell?_setCell_same (w := w.setCell ⟨b, off + j * 2, none⟩ (.int .i64 x)) (a := ⟨b, off + j * 2 + 1, none⟩) (v := .int .i64 y) (h := (so _ _ _ _ (by omega)).trans (hc j hj).2)
  · have hg : (ps.set i (x, y)).getD j (0, 0) = ps.getD j (0, 0) := by rw [List.getD_eq_getElem?_getD, List.getElem?_set_ne (by omega), ← List.getD_eq_getElem?_getD]
    rw [hg]
    exact ⟨((so _ _ _ _ (by omega)).trans (so _ _ _ _ (by omega))).trans (hc j hj).1, ((so _ _ _ _ (by omega)).trans (so _ _ _ _ (by omega))).trans (hc j hj).2⟩
theorem SeesQ.farSets {w : World} {a : Option Addr} {n c B : Nat} {ps : List (Int × Int)} {vs : List Value} (h : SeesQ w a n c ps) (hne : ∀ x, a = some x → x.block ≠ B) : SeesQ (sets w B 0 vs) a n c ps := by
  refine ⟨h.len, h.le, h.big, h.no, ?_⟩
  rcases h.pos with e | ⟨b, off, e, hc⟩
  · exact .inl e
  · have hb := hne _ e
    exact .inr ⟨b, off, e, fun i hi => ⟨(sets_far B (p := ⟨b, off + i * 2, none⟩) hb vs w 0).trans (hc i hi).1, (sets_far B (p := ⟨b, off + i * 2 + 1, none⟩) hb vs w 0).trans (hc i hi).2⟩⟩
end Go.Proofs.Ytjeoenieoejolad
