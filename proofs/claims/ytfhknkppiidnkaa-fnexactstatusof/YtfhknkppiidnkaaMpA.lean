/- A map from numbers: its entries in the order of their birth. -/
import Derived.Maps.Own
import Derived.Test.YtfhknkppiidnkaaMkA
namespace Go.Proofs.Ytfhknkppiidnkaa
open Go.RowKit Go.ChangeMaps Go.MapKept

def mes (n : Nat) : List (Int × Value) → List MapEntry
  | [] => []
  | x :: l => ⟨.int .i64 x.1, x.2, n⟩ :: mes (n + 1) l
def look (k : Int) : List (Int × Value) → Option Value
  | [] => none
  | x :: l => if k = x.1 then some x.2 else look k l
theorem mes_append (n : Nat) (l : List (Int × Value)) (x : Int × Value) : mes n (l ++ [x]) = mes n l ++ [⟨.int .i64 x.1, x.2, n + l.length⟩] := by
  induction l generalizing n with
  | nil => rfl
  | cons y l ih => simp only [List.cons_append, mes, ih, List.length_cons, Nat.add_assoc, Nat.add_comm 1]
theorem look_append (k : Int) (l : List (Int × Value)) (x : Int × Value) (h : look k l = none) : look k (l ++ [x]) = if k = x.1 then some x.2 else none := by
  induction l with
  | nil => rfl
  | cons y l ih =>
    simp only [look] at h
    split at h
    · simp at h
    · rename_i hk
      simp only [List.cons_append, look, if_neg hk]
      exact ih h
theorem look_none {k : Int} {l : List (Int × Value)} (h : ∀ x ∈ l, x.1 ≠ k) : look k l = none := by
  induction l with
  | nil => rfl
  | cons y l ih =>
    simp only [look]
    rw [if_neg (fun e => h y (by simp) e.symm)]
    exact ih fun x hx => h x (by simp [hx])
theorem find_mes_none {k : Int} : ∀ (l : List (Int × Value)) (n i : Nat), look k l = none → Instr.findNow (.int .i64) (.int .i64 k) (mes n l) i = some none
  | [], _, _, _ => rfl
  | x :: l, n, i, h => by
    simp only [look] at h
    split at h
    · simp at h
    · rename_i hk
      simp only [mes, Instr.findNow, Instr.sameNow, if_true]
      rw [show (k == x.1) = false by simp [hk]]
      exact find_mes_none l (n + 1) (i + 1) h
theorem find_mes_some {k : Int} {v : Value} : ∀ (l : List (Int × Value)) (n i : Nat), look k l = some v → ∃ j, Instr.findNow (.int .i64) (.int .i64 k) (mes n l) i = some (some (j, v))
  | [], _, _, h => by simp [look] at h
  | x :: l, n, i, h => by
    simp only [look] at h
    split at h
    · rename_i hk
      simp only [mes, Instr.findNow, Instr.sameNow, if_true]
      rw [show (k == x.1) = true by simp [hk]]
      exact ⟨i, by simpa using h⟩
    · rename_i hk
      simp only [mes, Instr.findNow, Instr.sameNow, if_true]
      rw [show (k == x.1) = false by simp [hk]]
      exact find_mes_some l (n + 1) (i + 1) h
/-- block b is a map with just these entries -/
def IsMap (w : World) (b : Nat) (l : List (Int × Value)) : Prop := w.heap[b]? = some (.map (mes 0 l).toArray l.length)
theorem IsMap.lt {w : World} {b : Nat} {l : List (Int × Value)} (h : IsMap w b l) : b < w.heap.size := by
  rcases Nat.lt_or_ge b w.heap.size with hl | hl
  · exact hl
  · unfold IsMap at h; rw [Array.getElem?_eq_none hl] at h; simp at h
theorem isMap_new (w : World) : IsMap (w.alloc (.map #[] 0)) w.heap.size [] := by
  show (w.heap.push _)[w.heap.size]? = _
  simp [mes]
theorem IsMap.below {w w' : World} {b : Nat} {l : List (Int × Value)} (h : IsMap w b l) (hb : Below w.heap.size w w') : IsMap w' b l := (hb.block b h.lt).trans h
theorem IsMap.grown {w w' : World} {b : Nat} {l : List (Int × Value)} {row : Option Nat} (h : IsMap w b l) (hg : w.grownBy w' row) (hne : row ≠ some b) : IsMap w' b l := (hg.block b h.lt (fun e => hne e.symm)).trans h
theorem IsMap.alloc {w : World} {b : Nat} {l : List (Int × Value)} (h : IsMap w b l) (o : Obj) : IsMap (w.alloc o) b l := h.grown (World.grownBy_alloc w o none) (by simp)
theorem IsMap.setCell {w : World} {b : Nat} {l : List (Int × Value)} (h : IsMap w b l) (p : Addr) (v : Value) : IsMap (w.setCell p v) b l := by
  unfold IsMap at h ⊢
  by_cases e : p.block = b
  · subst e
    simp [World.setCell, Array.getElem?_modify, h]
  · simp [World.setCell, Array.getElem?_modify, h, e]
/-- a store at a new key -/
theorem IsMap.put {P : Program} {w : World} {b : Nat} {l : List (Int × Value)} {t k e : TypeId} (h : IsMap w b l) (ht : P.underlying t = some (.map k e)) (hk : P.underlying k = some (.int .i64)) (key : Int) (v : Value) (hn : look key l = none) :
    ∃ w', (Instr.mapUpdate t (.map (some b)) (.int .i64 key) v).run P w = .ok () w' ∧ IsMap w' b (l ++ [(key, v)]) ∧ w.grownBy w' (some b) := by
  have hf : (Instr.findKey k (.int .i64 key) (mes 0 l)).run P w = .ok none w := by
    simp [Instr.findKey, run_underlying hk, find_mes_none l 0 0 hn, Result.andThen]
  refine ⟨setBlock w b (.map ((mes 0 l).toArray.push ⟨.int .i64 key, v, l.length⟩) (l.length + 1)), ?_, ?_, ⟨rfl, rfl, rfl, by simp [setBlock], fun i _ hi => heap_setBlock_other h _ (fun e => hi (by rw [e]))⟩⟩
  · simp [Instr.mapUpdate, run_underlying ht, MapKept.run_getObj_map h, run_checkKey hk (show IsKey (.int .i64) (.int .i64 key) from rfl) false 9999, hf, MapKept.run_setObj_map _ h, Result.andThen, setBlock]
  · unfold IsMap
    rw [heap_setBlock_same h, mes_append, Nat.zero_add]
    simp
/-- what is there under a key -/
theorem IsMap.get {P : Program} {w : World} {b : Nat} {l : List (Int × Value)} {t k e : TypeId} (h : IsMap w b l) (ht : P.underlying t = some (.map k e)) (hk : P.underlying k = some (.int .i64)) (key : Int) (v : Value) (hn : look key l = some v) (ok : Bool) :
    (Instr.lookup t (.map (some b)) (.int .i64 key) ok).run P w = .ok (if ok then .tuple #[v, .bool true] else v) w := by
  obtain ⟨j, hj⟩ := find_mes_some l 0 0 hn
  have hf : (Instr.findKey k (.int .i64 key) (mes 0 l)).run P w = .ok (some (j, v)) w := by
    simp [Instr.findKey, run_underlying hk, hj, Result.andThen]
  cases ok <;> simp [Instr.lookup, run_underlying ht, MapKept.run_getObj_map h, run_checkKey hk (show IsKey (.int .i64) (.int .i64 key) from rfl) _ 9999, hf, Result.andThen]
theorem IsMap.miss {P : Program} {w : World} {b : Nat} {l : List (Int × Value)} {t k e : TypeId} (h : IsMap w b l) (ht : P.underlying t = some (.map k e)) (hk : P.underlying k = some (.int .i64)) (key : Int) {z : Value} (hz : (zeroValue e).run P w = .ok z w) (hn : look key l = none) (ok : Bool) :
    (Instr.lookup t (.map (some b)) (.int .i64 key) ok).run P w = .ok (if ok then .tuple #[z, .bool false] else z) w := by
  have hf : (Instr.findKey k (.int .i64 key) (mes 0 l)).run P w = .ok none w := by
    simp [Instr.findKey, run_underlying hk, find_mes_none l 0 0 hn, Result.andThen]
  cases ok <;> simp [Instr.lookup, run_underlying ht, MapKept.run_getObj_map h, run_checkKey hk (show IsKey (.int .i64) (.int .i64 key) from rfl) _ 9999, hf, hz, Result.andThen]
/-- the store, at the operation -/
theorem wpList_mapUpdate_new {P : Program} (w : World) {ops : Array Oper} {rest : List Oper} {o : Oper} {a : Act} {Q : Exit → Act → World → Prop}
    (hg : o.guard = none) (m x v : Operand) (t : TypeId) (hop : o.op = Op.mapUpdate t m x v) (k e : TypeId) (ht : P.underlying t = some (.map k e)) (hk : P.underlying k = some (.int .i64))
    (b : Nat) (l : List (Int × Value)) (hm : a.eval m = .map (some b)) (h : IsMap w b l) (key : Int) (val : Value) (hx : a.eval x = .int .i64 key) (hv : a.eval v = val) (hn : look key l = none)
    (hK : ∀ w', IsMap w' b (l ++ [(key, val)]) → w.grownBy w' (some b) → wpList P ops Q rest (a.put o.dst undef) w') :
    wpList P ops Q (o :: rest) a w := by
  refine wpList_plain hg fun K' hK' => ?_
  obtain ⟨w', hrun, r1, r2⟩ := h.put ht hk key val hn
  unfold Oper.wp
  simp [execOp, hop, hm, hx, hv, hrun, Result.andThen]
  exact hK' _ _ (hK w' r1 r2)
end Go.Proofs.Ytfhknkppiidnkaa
