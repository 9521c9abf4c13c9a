/- A market as lists; slices of structs, of tasks, of jobs. -/
import Derived.Test.YtfhknkppiidnkaaGreatLiA
import Derived.Test.YtfhknkppiidnkaaGreatMaO
namespace Go.Proofs.YtfhknkppiidnkaaGreat
open Go.RowKit

section
variable {α : Type} {f : α → List Value} {k : Nat}
theorem flat_len (hf : ∀ x, (f x).length = k) : ∀ xs : List α, (xs.flatMap f).length = xs.length * k
  | [] => by simp
  | x :: xs => by rw [List.flatMap_cons, List.length_append, hf, flat_len hf xs, List.length_cons, Nat.add_mul]; omega
theorem flat_get (hf : ∀ x, (f x).length = k) (d : α) : ∀ (xs : List α) {i j : Nat}, i < xs.length → j < k → (xs.flatMap f)[i * k + j]? = (f (xs.getD i d))[j]?
  | [], _, _, h, _ => by simp at h
  | x :: xs, 0, j, _, hj => by
    rw [List.flatMap_cons, List.getElem?_append_left (by rw [hf]; omega)]
    simp
  | x :: xs, i + 1, j, h, hj => by
    rw [List.flatMap_cons, List.getElem?_append_right (by rw [hf, Nat.add_mul]; omega), hf, show (i + 1) * k + j - k = i * k + j by rw [Nat.add_mul]; omega, flat_get hf d xs (by simpa using h) hj]
    simp
theorem flat_set (hf : ∀ x, (f x).length = k) : ∀ (xs : List α) {i : Nat} (c : α), i < xs.length → spl (xs.flatMap f) (i * k) (f c) = (xs.set i c).flatMap f
  | [], _, _, h => by simp at h
  | x :: xs, 0, c, _ => by
    unfold spl
    rw [Nat.zero_mul, List.take_zero, List.nil_append, Nat.zero_add, hf, List.flatMap_cons, List.drop_left' (hf x)]
    simp
  | x :: xs, i + 1, c, h => by
    have ih := flat_set hf xs c (i := i) (by simpa using h)
    unfold spl at ih ⊢
    rw [hf] at ih ⊢
    rw [List.flatMap_cons, List.set_cons_succ, List.flatMap_cons, ← ih, show (i + 1) * k = k + i * k by rw [Nat.add_mul]; omega, Nat.add_assoc]
    rw [List.take_append, List.drop_append, hf, List.take_of_length_le (by rw [hf]; omega), List.drop_of_length_le (by rw [hf]; omega)]
    rw [show k + i * k - k = i * k by omega, show k + (i * k + k) - k = i * k + k by omega]
    simp
theorem flat_made (z : α) (hf : ∀ x, (f x).length = k) (cs : Array Value) (hz : f z = cs.toList) (n : Nat) : (madeCells cs (n * k)).toList = (List.replicate n z).flatMap f := by
  have hk : cs.size = k := by rw [← hf z, hz, Array.length_toList]
  apply List.ext_getElem?
  intro i
  by_cases hi : i < n * k
  · have h0 : 0 < k := by
      rcases Nat.eq_zero_or_pos k with h | h
      · rw [h] at hi; omega
      · exact h
    have hq : i / k < n := by rw [Nat.div_lt_iff_lt_mul h0]; exact hi
    have hm : i % k < k := Nat.mod_lt _ h0
    have h1 := flat_get hf z (List.replicate n z) (i := i / k) (j := i % k) (by simpa using hq) hm
    rw [Nat.mul_comm, Nat.div_add_mod] at h1
    have hg : (List.replicate n z).getD (i / k) z = z := by rw [List.getD_eq_getElem?_getD, List.getElem?_replicate, if_pos hq]; rfl
    rw [h1, hg, hz]
    have hmc : i % k < cs.size := by rw [hk]; exact hm
    simp [madeCells, hi, hk]
    rw [Array.getElem?_eq_getElem hmc, getElem!_pos cs _ hmc]
  · rw [List.getElem?_eq_none (by simp [madeCells]; omega), List.getElem?_eq_none (by rw [flat_len hf, List.length_replicate]; omega)]
theorem owns_all {t : TypeId} {w : World} {base n g : Nat} {vs : List Value} (h : w.ownsRow base t k (.slice (some ⟨g, 0, none⟩) n n) n vs) : Lies w g vs := by
  obtain ⟨hl, h⟩ := h
  rcases h with ⟨e, _⟩ | ⟨g', c, cur, e, hb, hh, hn, _, hs, ht⟩
  · simp at e
  · simp only [Value.slice.injEq, Option.some.injEq, Addr.mk.injEq, and_true, true_and] at e
    obtain ⟨rfl, rfl⟩ := e
    have hcur : cur.toList = vs := by rw [← ht, List.take_of_length_le (by rw [Array.length_toList, hs]; exact Nat.le_refl _)]
    refine ⟨fun i => by rw [← hcur]; simp [World.cell?, hh], fun i => by simp [World.frozen?, hh], ?_⟩
    rcases Nat.lt_or_ge g w.heap.size with hl | hl
    · exact hl
    · rw [Array.getElem?_eq_none hl] at hh; simp at hh
end
namespace M
structure Tk where
  done : Bool
  worker : Int
  due : Int
structure Jb where
  id : Int
  m : M.Mc
  s : Int × Int
  rows : Int
  gone : Bool
  ts : List Tk
def t0 : Tk := ⟨false, 0, 0⟩
def m0 : M.Mc := ⟨⟨0, 0, 0, 0, 0, 0⟩, ⟨0, 0, 0, 0, 0, 0⟩⟩
def j0 : Jb := ⟨0, m0, (0, 0), 0, false, []⟩
end M
def tvs (t : M.Tk) : List Value := [.bool t.done, .int .i64 t.worker, .int .i64 t.due]
def tkv (t : M.Tk) : Value := .agg #[.bool t.done, .int .i64 t.worker, .int .i64 t.due]
/-- the cells of a job whose tasks lie there -/
def jvs (j : M.Jb) (a : Option Addr) (c : Nat) : List Value :=
  [.int .i64 j.id, .int .i64 j.m.X.xx, .int .i64 j.m.X.xy, .int .i64 j.m.X.yy, .int .i64 j.m.X.x, .int .i64 j.m.X.y, .int .i64 j.m.X.k, .int .i64 j.m.Y.xx, .int .i64 j.m.Y.xy, .int .i64 j.m.Y.yy, .int .i64 j.m.Y.x, .int .i64 j.m.Y.y, .int .i64 j.m.Y.k, .int .i64 j.s.1, .int .i64 j.s.2, .int .i64 j.rows, .bool j.gone, .slice a j.ts.length c]
def jrv (q : M.Jb × Option Addr × Nat) : List Value := jvs q.1 q.2.1 q.2.2
theorem tvs_len (t : M.Tk) : (tvs t).length = 3 := rfl
theorem jrv_len (q : M.Jb × Option Addr × Nat) : (jrv q).length = 18 := rfl

/-- a slice shows tasks -/
structure SeesT (w : World) (a : Option Addr) (n cap : Nat) (ts : List M.Tk) : Prop where
  len : ts.length = n
  le : n ≤ cap
  big : (cap : Int) ≤ 9223372036854775807
  no : a = none → n = 0 ∧ cap = 0
  pos : n = 0 ∨ ∃ b off, a = some ⟨b, off, none⟩ ∧ ∀ i, i < n → ∀ j, j < 3 → w.cell? ⟨b, off + i * 3 + j, none⟩ = (tvs (ts.getD i M.t0))[j]?
theorem SeesT.at {w : World} {a : Option Addr} {n cap : Nat} {ts : List M.Tk} (h : SeesT w a n cap ts) (h0 : 0 < n) : ∃ b off, a = some ⟨b, off, none⟩ ∧ ∀ i, i < n → ∀ j, j < 3 → w.cell? ⟨b, off + i * 3 + j, none⟩ = (tvs (ts.getD i M.t0))[j]? := by
  rcases h.pos with e | e
  · omega
  · exact e
theorem SeesT.below {w w' : World} {a : Option Addr} {n cap : Nat} {ts : List M.Tk} (h : SeesT w a n cap ts) (hb : Below w.heap.size w w') : SeesT w' a n cap ts := by
  refine ⟨h.len, h.le, h.big, h.no, ?_⟩
  by_cases h0 : n = 0
  · exact .inl h0
  · obtain ⟨b, off, e, hc⟩ := h.at (by omega)
    have hlt : b < w.heap.size := World.block_lt_of_cell? w ⟨b, off + 0 * 3 + 0, none⟩ ((hc 0 (by omega) 0 (by omega)).trans rfl)
    exact .inr ⟨b, off, e, fun i hi j hj => (hb.cell (p := ⟨b, off + i * 3 + j, none⟩) hlt).trans (hc i hi j hj)⟩
theorem Lies.seesT {w : World} {g n : Nat} {ts : List M.Tk} (h : Lies w g (ts.flatMap tvs)) (hl : ts.length = n) (hb : n ≤ 1048576) : SeesT w (some ⟨g, 0, none⟩) n n ts :=
  ⟨hl, Nat.le_refl _, by omega, fun e => by simp at e, .inr ⟨g, 0, rfl, fun i hi j hj => by
    rw [Nat.zero_add, h.at, flat_get tvs_len M.t0 ts (by omega) hj]⟩⟩
/-- a slice shows jobs, each with its tasks -/
structure SeesJ (w : World) (a : Option Addr) (n cap : Nat) (js : List M.Jb) : Prop where
  len : js.length = n
  le : n ≤ cap
  big : (cap : Int) ≤ 9223372036854775807
  no : a = none → n = 0 ∧ cap = 0
  pos : n = 0 ∨ ∃ b off, a = some ⟨b, off, none⟩ ∧ ∀ i, i < n → ∃ (ta : Option Addr) (tc : Nat), (∀ j, j < 18 → w.cell? ⟨b, off + i * 18 + j, none⟩ = (jvs (js.getD i M.j0) ta tc)[j]?) ∧ SeesT w ta (js.getD i M.j0).ts.length tc (js.getD i M.j0).ts
theorem SeesJ.at {w : World} {a : Option Addr} {n cap : Nat} {js : List M.Jb} (h : SeesJ w a n cap js) (h0 : 0 < n) : ∃ b off, a = some ⟨b, off, none⟩ ∧ ∀ i, i < n → ∃ (ta : Option Addr) (tc : Nat), (∀ j, j < 18 → w.cell? ⟨b, off + i * 18 + j, none⟩ = (jvs (js.getD i M.j0) ta tc)[j]?) ∧ SeesT w ta (js.getD i M.j0).ts.length tc (js.getD i M.j0).ts := by
  rcases h.pos with e | e
  · omega
  · exact e
theorem SeesJ.below {w w' : World} {a : Option Addr} {n cap : Nat} {js : List M.Jb} (h : SeesJ w a n cap js) (hb : Below w.heap.size w w') : SeesJ w' a n cap js := by
  refine ⟨h.len, h.le, h.big, h.no, ?_⟩
  by_cases h0 : n = 0
  · exact .inl h0
  · obtain ⟨b, off, e, hc⟩ := h.at (by omega)
    have hlt : b < w.heap.size := by
      obtain ⟨ta, tc, h1, _⟩ := hc 0 (by omega)
      exact World.block_lt_of_cell? w ⟨b, off + 0 * 18 + 0, none⟩ ((h1 0 (by omega)).trans rfl)
    refine .inr ⟨b, off, e, fun i hi => ?_⟩
    obtain ⟨ta, tc, h1, h2⟩ := hc i hi
    exact ⟨ta, tc, fun j hj => (hb.cell (p := ⟨b, off + i * 18 + j, none⟩) hlt).trans (h1 j hj), h2.below hb⟩
theorem Lies.seesJ {w : World} {g n : Nat} {qs : List (M.Jb × Option Addr × Nat)} (h : Lies w g (qs.flatMap jrv)) (hl : qs.length = n) (hb : n ≤ 1048576) (ht : ∀ q ∈ qs, SeesT w q.2.1 q.1.ts.length q.2.2 q.1.ts) : SeesJ w (some ⟨g, 0, none⟩) n n (qs.map (·.1)) :=
  ⟨by simpa using hl, Nat.le_refl _, by omega, fun e => by simp at e, .inr ⟨g, 0, rfl, fun i hi => by
    have hi' : i < qs.length := by omega
    have hq : (qs.map (·.1)).getD i M.j0 = (qs[i]).1 := by rw [List.getD_eq_getElem?_getD, List.getElem?_map, List.getElem?_eq_getElem hi']; rfl
    refine ⟨qs[i].2.1, qs[i].2.2, fun j hj => ?_, ?_⟩
    · rw [Nat.zero_add, h.at, flat_get jrv_len (M.j0, none, 0) qs hi' hj, hq, List.getD_eq_getElem?_getD, List.getElem?_eq_getElem hi']; rfl
    · rw [hq]; exact ht _ (List.getElem_mem hi')⟩⟩
/-- what a market shows -/
structure SeesM (w : World) (ab : Option Addr) (nb cb : Nat) (aj : Option Addr) (nj cj : Nat) (bs : List Int) (js : List M.Jb) : Prop where
  b : Sees w ab nb cb bs
  j : SeesJ w aj nj cj js
theorem SeesM.below {w w' : World} {ab : Option Addr} {nb cb : Nat} {aj : Option Addr} {nj cj : Nat} {bs : List Int} {js : List M.Jb} (h : SeesM w ab nb cb aj nj cj bs js) (hb : Below w.heap.size w w') : SeesM w' ab nb cb aj nj cj bs js := ⟨h.b.below hb, h.j.below hb⟩
/-- a proof cut in two: what is left open, and that it leads on -/
structure Key (P : Prop) : Prop where
  out : P
structure Cut (G : Prop) where
  p : Prop
  h : Key p → G
structure Cut2 (G : Prop) where
  p : Prop
  q : Prop
  h : Key p → Key q → G
end Go.Proofs.YtfhknkppiidnkaaGreat
