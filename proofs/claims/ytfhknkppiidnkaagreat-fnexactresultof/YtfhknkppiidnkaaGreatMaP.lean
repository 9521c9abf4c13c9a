/- Slices of pairs of numbers. -/
import Derived.Test.YtfhknkppiidnkaaGreatMaMath
import Derived.Test.YtfhknkppiidnkaaGreatSlB
import Derived.Test.YtfhknkppiidnkaaGreatMaS
namespace Go.Proofs.YtfhknkppiidnkaaGreat
open Go.RowKit

/-- the cells of pairs, one behind the other -/
def prs (ps : List (Int × Int)) : List Value := ps.flatMap fun p => [.int .i64 p.1, .int .i64 p.2]
theorem prs_snoc (ps : List (Int × Int)) (p : Int × Int) : prs ps ++ [.int .i64 p.1, .int .i64 p.2] = prs (ps ++ [p]) := by simp [prs]
theorem prs_len (ps : List (Int × Int)) : (prs ps).length = ps.length * 2 := by
  induction ps with
  | nil => rfl
  | cons p r ih => show (_ :: _ :: prs r).length = _; simp [ih]; omega
theorem prs_get : ∀ (ps : List (Int × Int)) {i : Nat}, i < ps.length → (prs ps)[i * 2]? = some (.int .i64 (ps.getD i (0, 0)).1) ∧ (prs ps)[i * 2 + 1]? = some (.int .i64 (ps.getD i (0, 0)).2)
  | [], _, h => by simp at h
  | p :: r, 0, _ => ⟨rfl, rfl⟩
  | p :: r, i + 1, h => by
    have ih := prs_get r (i := i) (by simpa using h)
    have e1 : (prs (p :: r))[(i + 1) * 2]? = (prs r)[i * 2]? := by
      rw [show (i + 1) * 2 = i * 2 + 1 + 1 by omega]; rfl
    have e2 : (prs (p :: r))[(i + 1) * 2 + 1]? = (prs r)[i * 2 + 1]? := by
      rw [show (i + 1) * 2 + 1 = i * 2 + 1 + 1 + 1 by omega]; rfl
    rw [e1, e2]; exact ih
/-- a slice of pairs in a block of its own -/
def OwnsQ (t : TypeId) (w : World) (base : Nat) (a : Option Addr) (n cap : Nat) (ps : List (Int × Int)) : Prop := ps.length = n ∧ w.ownsRow base t 2 (.slice a n cap) n (prs ps)
theorem OwnsQ.form {t : TypeId} {w : World} {base n : Nat} {v : Value} {ps : List (Int × Int)} (hl : ps.length = n) (h : w.ownsRow base t 2 v n (prs ps)) : ∃ a cap, v = .slice a n cap ∧ OwnsQ t w base a n cap ps := by
  rcases h.2 with ⟨rfl, rfl⟩ | ⟨g, cap, cur, rfl, _⟩
  · exact ⟨none, 0, rfl, hl, h⟩
  · exact ⟨_, cap, rfl, hl, h⟩
/-- a slice shows pairs -/
structure SeesQ (w : World) (a : Option Addr) (n cap : Nat) (ps : List (Int × Int)) : Prop where
  len : ps.length = n
  le : n ≤ cap
  big : (cap : Int) ≤ 9223372036854775807
  no : a = none → n = 0 ∧ cap = 0
  pos : n = 0 ∨ ∃ b off, a = some ⟨b, off, none⟩ ∧ ∀ i, i < n → w.cell? ⟨b, off + i * 2, none⟩ = some (.int .i64 (ps.getD i (0, 0)).1) ∧ w.cell? ⟨b, off + i * 2 + 1, none⟩ = some (.int .i64 (ps.getD i (0, 0)).2)
theorem SeesQ.below {w w' : World} {a : Option Addr} {n cap : Nat} {ps : List (Int × Int)} (h : SeesQ w a n cap ps) (hb : Below w.heap.size w w') : SeesQ w' a n cap ps := by
  refine ⟨h.len, h.le, h.big, h.no, ?_⟩
  rcases h.pos with e | ⟨b, off, e, hc⟩
  · exact .inl e
  · by_cases h0 : n = 0
    · exact .inl h0
    · have hlt : b < w.heap.size := by
        have := (hc 0 (by omega)).1
        simp only [World.cell?] at this
        rcases Nat.lt_or_ge b w.heap.size with hl | hl
        · exact hl
        · rw [Array.getElem?_eq_none hl] at this; simp at this
      exact .inr ⟨b, off, e, fun i hi => ⟨(hb.cell (p := ⟨b, off + i * 2, none⟩) hlt).trans (hc i hi).1, (hb.cell (p := ⟨b, off + i * 2 + 1, none⟩) hlt).trans (hc i hi).2⟩⟩
theorem SeesQ.at {w : World} {a : Option Addr} {n cap : Nat} {ps : List (Int × Int)} (h : SeesQ w a n cap ps) (h0 : 0 < n) : ∃ b off, a = some ⟨b, off, none⟩ ∧ ∀ i, i < n → w.cell? ⟨b, off + i * 2, none⟩ = some (.int .i64 (ps.getD i (0, 0)).1) ∧ w.cell? ⟨b, off + i * 2 + 1, none⟩ = some (.int .i64 (ps.getD i (0, 0)).2) := by
  rcases h.pos with e | e
  · omega
  · exact e
theorem OwnsQ.block {t : TypeId} {w : World} {base n cap : Nat} {a : Option Addr} {ps : List (Int × Int)} (h : OwnsQ t w base a n cap ps) (h0 : 0 < n) : ∃ g, a = some ⟨g, 0, none⟩ ∧ base ≤ g ∧ n ≤ cap ∧ (cap : Int) ≤ 9223372036854775807 ∧ ∀ i, i < n → w.cell? ⟨g, i * 2, none⟩ = some (.int .i64 (ps.getD i (0, 0)).1) ∧ w.cell? ⟨g, i * 2 + 1, none⟩ = some (.int .i64 (ps.getD i (0, 0)).2) := by
  obtain ⟨hl, h⟩ := h
  have hcl : ∀ g, (Value.slice a n cap).ownBlock = some g → _ := fun g hg => World.ownsRow.cells h hg
  rcases h.2 with ⟨_, h0'⟩ | ⟨g, c, cur, e, hb, hh, hn, hm, _, _⟩
  · omega
  · simp only [Value.slice.injEq] at e
    obtain ⟨rfl, -, rfl⟩ := e
    have hadd : ∀ j, (⟨g, 0, none⟩ : Addr).add j = ⟨g, j, none⟩ := fun j => by unfold Addr.add; split <;> simp_all
    unfold maxLen at hm
    refine ⟨g, rfl, hb, hn, by omega, fun i hi => ?_⟩
    obtain ⟨h1, h2⟩ := prs_get ps (i := i) (by omega)
    have c1 := hcl g rfl _ _ h1
    have c2 := hcl g rfl _ _ h2
    rw [hadd] at c1 c2
    exact ⟨c1, c2⟩
theorem OwnsQ.sees {t : TypeId} {w : World} {base n cap : Nat} {a : Option Addr} {ps : List (Int × Int)} (h : OwnsQ t w base a n cap ps) (h0 : 0 < n) : SeesQ w a n cap ps := by
  obtain ⟨g, rfl, _, h1, h2, hc⟩ := h.block h0
  exact ⟨h.1, h1, h2, fun e => by simp at e, .inr ⟨g, 0, rfl, fun i hi => by simpa using hc i hi⟩⟩
theorem OwnsQ.row {t : TypeId} {w : World} {base n cap : Nat} {a : Option Addr} {ps : List (Int × Int)} (h : OwnsQ t w base a n cap ps) : ∀ q, (Value.slice a n cap).ownBlock = some q → base ≤ q := by
  intro q hq
  rcases h.2.2 with ⟨e, _⟩ | ⟨g, c, cur, e, hb, _⟩
  · simp only [Value.slice.injEq] at e; rw [e.1] at hq; simp [Value.ownBlock] at hq
  · simp only [Value.slice.injEq] at e; rw [e.1] at hq; simp [Value.ownBlock] at hq; omega
theorem OwnsQ.below {t : TypeId} {w w' : World} {base n cap : Nat} {a : Option Addr} {ps : List (Int × Int)} (h : OwnsQ t w base a n cap ps) (hb : Below w.heap.size w w') : OwnsQ t w' base a n cap ps :=
  ⟨h.1, World.ownsRow.kept h.2 (w' := w') (row := none) ⟨hb.os, hb.tape, hb.output, hb.size, fun k hk _ => hb.block k hk⟩ (by cases hv : (Value.slice a n cap).ownBlock <;> simp)⟩
theorem OwnsQ.mono {t : TypeId} {w : World} {base base' n cap : Nat} {a : Option Addr} {ps : List (Int × Int)} (h : OwnsQ t w base a n cap ps) (hb : base' ≤ base) : OwnsQ t w base' a n cap ps := by
  refine ⟨h.1, h.2.1, ?_⟩
  rcases h.2.2 with e | ⟨g, c, cur, e, hg, r⟩
  · exact .inl e
  · exact .inr ⟨g, c, cur, e, by omega, r⟩
theorem OwnsQ.other {t : TypeId} {w : World} {base n cap : Nat} {a : Option Addr} {ps : List (Int × Int)} (h : OwnsQ t w base a n cap ps) (p : Addr) (hp : p.block < base) (v : Value) : OwnsQ t (w.setCell p v) base a n cap ps := by
  refine ⟨h.1, World.ownsRow.kept h.2 (w' := w.setCell p v) (row := some p.block) ⟨rfl, rfl, rfl, by simp [World.setCell], fun k hk hne => Below.heap_setCell _ _ _ _ (fun e => hne (by rw [e]))⟩ ?_⟩
  have hr := h.row
  cases hv : (Value.slice a n cap).ownBlock with
  | none => exact .inl rfl
  | some q => exact .inr (by have := hr q hv; simp; omega)
theorem OwnsQ.sets {t : TypeId} {base n cap B : Nat} {a : Option Addr} {ps : List (Int × Int)} (hB : B < base) : ∀ (vs : List Value) (w : World) (i : Nat), OwnsQ t w base a n cap ps → OwnsQ t (sets w B i vs) base a n cap ps
  | [], _, _, h => h
  | v :: vs, w, i, h => OwnsQ.sets hB vs (w.setCell ⟨B, i, none⟩ v) (i + 1) (h.other ⟨B, i, none⟩ hB v)
theorem two_intsq (x y : Int) : ∀ u ∈ [Value.int .i64 x, Value.int .i64 y], u.oneCell' = true := by
  intro u hu
  simp only [List.mem_cons, List.not_mem_nil, or_false] at hu
  rcases hu with rfl | rfl <;> rfl
theorem cell_twoq (w : World) (x y : Value) (t : TypeId) : ∀ j u, [x, y][j]? = some u → (w.alloc (.cells #[x, y] t)).cell? ((⟨w.heap.size, 0, none⟩ : Addr).add j) = some u := by
  intro j u hj
  have e : ((⟨w.heap.size, 0, none⟩ : Addr).add j) = ⟨w.heap.size, j, none⟩ := by unfold Addr.add; split <;> simp_all
  rw [e, World.cell?_alloc_new]
  simpa using hj
end Go.Proofs.YtfhknkppiidnkaaGreat
