/- Slices of claims. -/
import Derived.Test.YtjibpapjfdjecacClA
import Derived.Test.YtjibpapjfdjecacMaK
namespace Go.Proofs.Ytjibpapjfdjecac
open Go.RowKit

def cvs (c : M.Cl) : List Value := [.int .i64 c.s.1, .int .i64 c.s.2, .int .i64 c.e.1, .int .i64 c.e.2, .int .i64 c.n]
def M.c0 : M.Cl := ⟨(0, 0), (0, 0), 0⟩
def prc (cs : List M.Cl) : List Value := cs.flatMap cvs
theorem prc_snoc (cs : List M.Cl) (c : M.Cl) : prc cs ++ cvs c = prc (cs ++ [c]) := by simp [prc]
theorem prc_len (cs : List M.Cl) : (prc cs).length = cs.length * 5 := by
  induction cs with
  | nil => rfl
  | cons p r ih => show (cvs p ++ prc r).length = _; rw [List.length_append, ih]; simp [cvs]; omega
theorem prc_get : ∀ (cs : List M.Cl) {i j : Nat}, i < cs.length → j < 5 → (prc cs)[i * 5 + j]? = (cvs (cs.getD i M.c0))[j]?
  | [], _, _, h, _ => by simp at h
  | p :: r, 0, j, _, hj => by
    show (cvs p ++ prc r)[0 * 5 + j]? = _
    rw [Nat.zero_mul, Nat.zero_add, List.getElem?_append_left (by simp [cvs]; omega)]; rfl
  | p :: r, i + 1, j, h, hj => by
    have ih := prc_get r (i := i) (j := j) (by simpa using h) hj
    show (cvs p ++ prc r)[(i + 1) * 5 + j]? = _
    rw [List.getElem?_append_right (by simp [cvs]; omega), show (i + 1) * 5 + j - (cvs p).length = i * 5 + j by simp [cvs]; omega, ih]; rfl
/-- a slice of claims in a block of its own -/
def OwnsC (t : TypeId) (w : World) (base : Nat) (a : Option Addr) (n cap : Nat) (cs : List M.Cl) : Prop := cs.length = n ∧ w.ownsRow base t 5 (.slice a n cap) n (prc cs)
theorem OwnsC.form {t : TypeId} {w : World} {base n : Nat} {v : Value} {cs : List M.Cl} (hl : cs.length = n) (h : w.ownsRow base t 5 v n (prc cs)) : ∃ a cap, v = .slice a n cap ∧ OwnsC t w base a n cap cs := by
  rcases h.2 with ⟨rfl, rfl⟩ | ⟨g, cap, cur, rfl, _⟩
  · exact ⟨none, 0, rfl, hl, h⟩
  · exact ⟨_, cap, rfl, hl, h⟩
/-- a slice shows claims -/
structure SeesC (w : World) (a : Option Addr) (n cap : Nat) (cs : List M.Cl) : Prop where
  len : cs.length = n
  le : n ≤ cap
  big : (cap : Int) ≤ 9223372036854775807
  no : a = none → n = 0 ∧ cap = 0
  pos : n = 0 ∨ ∃ b off, a = some ⟨b, off, none⟩ ∧ ∀ i, i < n → ∀ j, j < 5 → w.cell? ⟨b, off + i * 5 + j, none⟩ = (cvs (cs.getD i M.c0))[j]?
theorem SeesC.at {w : World} {a : Option Addr} {n cap : Nat} {cs : List M.Cl} (h : SeesC w a n cap cs) (h0 : 0 < n) : ∃ b off, a = some ⟨b, off, none⟩ ∧ ∀ i, i < n → ∀ j, j < 5 → w.cell? ⟨b, off + i * 5 + j, none⟩ = (cvs (cs.getD i M.c0))[j]? := by
  rcases h.pos with e | e
  · omega
  · exact e
theorem SeesC.below {w w' : World} {a : Option Addr} {n cap : Nat} {cs : List M.Cl} (h : SeesC w a n cap cs) (hb : Below w.heap.size w w') : SeesC w' a n cap cs := by
  refine ⟨h.len, h.le, h.big, h.no, ?_⟩
  by_cases h0 : n = 0
  · exact .inl h0
  · obtain ⟨b, off, e, hc⟩ := h.at (by omega)
    have hlt : b < w.heap.size := World.block_lt_of_cell? w ⟨b, off + 0 * 5 + 0, none⟩ ((hc 0 (by omega) 0 (by omega)).trans rfl)
    exact .inr ⟨b, off, e, fun i hi j hj => (hb.cell (p := ⟨b, off + i * 5 + j, none⟩) hlt).trans (hc i hi j hj)⟩
theorem OwnsC.block {t : TypeId} {w : World} {base n cap : Nat} {a : Option Addr} {cs : List M.Cl} (h : OwnsC t w base a n cap cs) (h0 : 0 < n) : ∃ g, a = some ⟨g, 0, none⟩ ∧ base ≤ g ∧ n ≤ cap ∧ (cap : Int) ≤ 9223372036854775807 ∧ ∀ i, i < n → ∀ j, j < 5 → w.cell? ⟨g, i * 5 + j, none⟩ = (cvs (cs.getD i M.c0))[j]? := by
  obtain ⟨hl, h⟩ := h
  have hcl : ∀ g, (Value.slice a n cap).ownBlock = some g → _ := fun g hg => World.ownsRow.cells h hg
  rcases h.2 with ⟨_, h0'⟩ | ⟨g, c, cur, e, hb, hh, hn, hm, _, _⟩
  · omega
  · simp only [Value.slice.injEq] at e
    obtain ⟨rfl, -, rfl⟩ := e
    have hadd : ∀ j, (⟨g, 0, none⟩ : Addr).add j = ⟨g, j, none⟩ := fun j => by unfold Addr.add; split <;> simp_all
    unfold maxLen at hm
    refine ⟨g, rfl, hb, hn, by omega, fun i hi j hj => ?_⟩
    have h1 := prc_get cs (i := i) (j := j) (by omega) hj
    have hj' : j < (cvs (cs.getD i M.c0)).length := by simpa [cvs] using hj
    rw [List.getElem?_eq_getElem hj'] at h1 ⊢
    have c1 := hcl g rfl _ _ h1
    rw [hadd] at c1
    exact c1
theorem OwnsC.sees {t : TypeId} {w : World} {base n cap : Nat} {a : Option Addr} {cs : List M.Cl} (h : OwnsC t w base a n cap cs) : SeesC w a n cap cs := by
  by_cases h0 : 0 < n
  · obtain ⟨g, rfl, _, h1, h2, hc⟩ := h.block h0
    exact ⟨h.1, h1, h2, fun e => by simp at e, .inr ⟨g, 0, rfl, fun i hi j hj => by simpa using hc i hi j hj⟩⟩
  · have hn : n = 0 := by omega
    subst hn
    rcases h.2.2 with ⟨e, _⟩ | ⟨g, c, cur, e, hb, hh, hle, hm, _, _⟩
    · simp only [Value.slice.injEq] at e
      obtain ⟨rfl, -, rfl⟩ := e
      exact ⟨h.1, by omega, by omega, fun _ => ⟨rfl, rfl⟩, .inl rfl⟩
    · simp only [Value.slice.injEq] at e
      obtain ⟨rfl, -, rfl⟩ := e
      unfold maxLen at hm
      exact ⟨h.1, hle, by omega, fun e => by simp at e, .inl rfl⟩
theorem OwnsC.row {t : TypeId} {w : World} {base n cap : Nat} {a : Option Addr} {cs : List M.Cl} (h : OwnsC t w base a n cap cs) : ∀ q, (Value.slice a n cap).ownBlock = some q → base ≤ q := by
  intro q hq
  rcases h.2.2 with ⟨e, _⟩ | ⟨g, c, cur, e, hb, _⟩
  · simp only [Value.slice.injEq] at e; rw [e.1] at hq; simp [Value.ownBlock] at hq
  · simp only [Value.slice.injEq] at e; rw [e.1] at hq; simp [Value.ownBlock] at hq; omega
theorem OwnsC.below {t : TypeId} {w w' : World} {base n cap : Nat} {a : Option Addr} {cs : List M.Cl} (h : OwnsC t w base a n cap cs) (hb : Below w.heap.size w w') : OwnsC t w' base a n cap cs :=
  ⟨h.1, World.ownsRow.kept h.2 (w' := w') (row := none) ⟨hb.os, hb.tape, hb.output, hb.size, fun k hk _ => hb.block k hk⟩ (by cases hv : (Value.slice a n cap).ownBlock <;> simp)⟩
theorem OwnsC.mono {t : TypeId} {w : World} {base base' n cap : Nat} {a : Option Addr} {cs : List M.Cl} (h : OwnsC t w base a n cap cs) (hb : base' ≤ base) : OwnsC t w base' a n cap cs := by
  refine ⟨h.1, h.2.1, ?_⟩
  rcases h.2.2 with e | ⟨g, c, cur, e, hg, r⟩
  · exact .inl e
  · exact .inr ⟨g, c, cur, e, by omega, r⟩
theorem OwnsC.other {t : TypeId} {w : World} {base n cap : Nat} {a : Option Addr} {cs : List M.Cl} (h : OwnsC t w base a n cap cs) (p : Addr) (hp : p.block < base) (v : Value) : OwnsC t (w.setCell p v) base a n cap cs := by
  refine ⟨h.1, World.ownsRow.kept h.2 (w' := w.setCell p v) (row := some p.block) ⟨rfl, rfl, rfl, by simp [World.setCell], fun k hk hne => Below.heap_setCell _ _ _ _ (fun e => hne (by rw [e]))⟩ ?_⟩
  have hr := h.row
  cases hv : (Value.slice a n cap).ownBlock with
  | none => exact .inl rfl
  | some q => exact .inr (by have := hr q hv; simp; omega)
theorem OwnsC.lo {t : TypeId} {w : World} {base n cap : Nat} {a : Option Addr} {cs : List M.Cl} (h : OwnsC t w base a n cap cs) : ∀ x, a = some x → base ≤ x.block ∧ x.block < w.heap.size := by
  rintro x rfl; exact World.ownsRow.lt h.2 _ rfl
theorem OwnsC.rowlt {t : TypeId} {w : World} {base n cap : Nat} {a : Option Addr} {cs : List M.Cl} (h : OwnsC t w base a n cap cs) : ∀ q, (Value.slice a n cap).ownBlock = some q → base ≤ q ∧ q < w.heap.size := by
  intro q hq
  exact World.ownsRow.lt h.2 _ hq
theorem Lies.grown {w w' : World} {b : Nat} {vs : List Value} {row : Option Nat} (h : Lies w b vs) (hg : w.grownBy w' row) (hr : row ≠ some b) : Lies w' b vs := by
  have hb : w'.heap[b]? = w.heap[b]? := hg.block b h.2.2 (fun e' => hr (by rw [e']))
  refine ⟨fun i => (World.cell?_of_block (a := ⟨b, i, none⟩) hb).trans (h.1 i), fun i => (World.frozen?_of_block (a := ⟨b, i, none⟩) hb).trans (h.2.1 i), Nat.lt_of_lt_of_le h.2.2 hg.size⟩
theorem ownsC_none (t : TypeId) (w : World) (base : Nat) : OwnsC t w base none 0 0 [] := ⟨rfl, rfl, .inl ⟨rfl, rfl⟩⟩
theorem five_ints (c : M.Cl) : ∀ u ∈ cvs c, u.oneCell' = true := by
  intro u hu
  simp only [cvs, List.mem_cons, List.not_mem_nil, or_false] at hu
  rcases hu with rfl | rfl | rfl | rfl | rfl <;> rfl
theorem cell_five (w : World) (vs : List Value) (t : TypeId) : ∀ j u, vs[j]? = some u → (w.alloc (.cells vs.toArray t)).cell? ((⟨w.heap.size, 0, none⟩ : Addr).add j) = some u := by
  intro j u hj
  have e : ((⟨w.heap.size, 0, none⟩ : Addr).add j) = ⟨w.heap.size, j, none⟩ := by unfold Addr.add; split <;> simp_all
  rw [e, World.cell?_alloc_new]
  simpa using hj
/-- the claims of the pieces of a run -/
def M.cuts (m : M.Mc) (s : Int × Int) (k n : Nat) : List M.Cl := (List.range n).map fun i => ⟨m.rn s (i * k), m.rn s ((i + 1) * k), (k : Int)⟩
theorem M.cuts_len (m : M.Mc) (s : Int × Int) (k n : Nat) : (M.cuts m s k n).length = n := by simp [M.cuts]
theorem M.cuts_snoc (m : M.Mc) (s : Int × Int) (k n : Nat) : M.cuts m s k n ++ [⟨m.rn s (n * k), m.rn s ((n + 1) * k), (k : Int)⟩] = M.cuts m s k (n + 1) := by simp [M.cuts, List.range_succ]
theorem M.cuts_get (m : M.Mc) (s : Int × Int) (k n : Nat) {i : Nat} (h : i < n) : (M.cuts m s k n).getD i M.c0 = ⟨m.rn s (i * k), m.rn s ((i + 1) * k), (k : Int)⟩ := by
  rw [List.getD_eq_getElem?_getD]; simp [M.cuts, h]
end Go.Proofs.Ytjibpapjfdjecac
