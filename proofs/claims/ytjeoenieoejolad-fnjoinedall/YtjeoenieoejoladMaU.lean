/- What the laws do with lists of states: compare, mark, hold the marks against them. -/
import Derived.Test.YtjeoenieoejoladMaJ
import Derived.Test.YtjeoenieoejoladMaP
namespace Go.Proofs.Ytjeoenieoejolad
open Go.RowKit

def M.mks (k : Int) (n : Nat) : List (Int × Int) := (List.range n).map fun i : Nat => (k + (i : Int) * 2, k + (i : Int) * 2 + 1)
theorem M.mks_len (k : Int) (n : Nat) : (M.mks k n).length = n := by simp [M.mks]
theorem M.mks_get (k : Int) (n i : Nat) (h : i < n) : (M.mks k n).getD i (0, 0) = (k + (i : Int) * 2, k + (i : Int) * 2 + 1) := by
  rw [List.getD_eq_getElem?_getD, List.getElem?_eq_getElem (by rw [M.mks_len]; exact h)]
  simp [M.mks]
theorem OwnsQ.room {t : TypeId} {w : World} {base n cap g : Nat} {ps : List (Int × Int)} (h : OwnsQ t w base (some ⟨g, 0, none⟩) n cap ps) : ∀ i, w.frozen? ⟨g, i, none⟩ = false := by
  obtain ⟨_, _, h⟩ := h
  rcases h with ⟨e, _⟩ | ⟨g', c, cur, e, hb, hh, _⟩
  · simp at e
  · simp only [Value.slice.injEq, Option.some.injEq, Addr.mk.injEq] at e
    obtain ⟨⟨rfl, -⟩, -⟩ := e
    intro i
    simp only [World.frozen?, hh]
    simp
theorem OwnsQ.see {t : TypeId} {w : World} {base n cap : Nat} {a : Option Addr} {ps : List (Int × Int)} (ho : OwnsQ t w base a n cap ps) : SeesQ w a n cap ps := by
  by_cases h0 : 0 < n
  · exact ho.sees h0
  · obtain rfl : n = 0 := by omega
    obtain ⟨hl, _, h⟩ := ho
    rcases h with ⟨e, _⟩ | ⟨g', c, cur, e, hb, hh, h1, h2, _⟩
    · simp only [Value.slice.injEq] at e; obtain ⟨rfl, -, rfl⟩ := e; exact ⟨hl, Nat.le_refl _, by simp, fun _ => ⟨rfl, rfl⟩, .inl rfl⟩
    · simp only [Value.slice.injEq] at e; obtain ⟨rfl, -, rfl⟩ := e
      unfold maxLen at h2
      exact ⟨hl, Nat.zero_le _, by omega, fun h => by simp at h, .inl rfl⟩
theorem SeesQ.grown {w w' : World} {a : Option Addr} {n c : Nat} {ps : List (Int × Int)} {row : Option Nat} (h : SeesQ w a n c ps) (hg : w.grownBy w' row) (hr : ∀ x, a = some x → row ≠ some x.block) : SeesQ w' a n c ps := by
  refine ⟨h.len, h.le, h.big, h.no, ?_⟩
  rcases h.pos with e | ⟨b, off, e, hc⟩
  · exact .inl e
  · by_cases h0 : n = 0
    · exact .inl h0
    · have hne := hr _ e
      have hlt : b < w.heap.size := World.block_lt_of_cell? w ⟨b, off + 0 * 2, none⟩ (hc 0 (by omega)).1
      have hb : w'.heap[b]? = w.heap[b]? := hg.block b hlt (fun e' => hne (by rw [e']))
      refine .inr ⟨b, off, e, fun i hi => ?_⟩
      obtain ⟨h1, h2⟩ := hc i hi
      constructor
      · simp only [World.cell?] at h1 ⊢; rw [hb]; exact h1
      · simp only [World.cell?] at h2 ⊢; rw [hb]; exact h2
theorem OwnsQ.lo {t : TypeId} {w : World} {base n cap : Nat} {a : Option Addr} {ps : List (Int × Int)} (h : OwnsQ t w base a n cap ps) : ∀ x, a = some x → base ≤ x.block ∧ x.block < w.heap.size := by
  rintro x rfl; exact World.ownsRow.lt h.2 _ rfl
theorem frozen_set (w : World) (p q : Addr) (v : Value) : (w.setCell p v).frozen? q = w.frozen? q := by simp
end Go.Proofs.Ytjeoenieoejolad
