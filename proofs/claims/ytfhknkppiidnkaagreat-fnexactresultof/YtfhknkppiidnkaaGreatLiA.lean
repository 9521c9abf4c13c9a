/- A block that holds just these values; structs of many cells: rows of cells read and written at once, whatever their number. -/
import Derived.Test.YtfhknkppiidnkaaGreatSlA
import Derived.Deep.MidRow
namespace Go.Proofs.YtfhknkppiidnkaaGreat
open Go.RowKit

def Lies (W : World) (b : Nat) (vs : List Value) : Prop := (∀ i, W.cell? ⟨b, i, none⟩ = vs[i]?) ∧ (∀ i, W.frozen? ⟨b, i, none⟩ = false) ∧ b < W.heap.size
theorem lies_new (w : World) (vs : Array Value) (t : TypeId) : Lies (w.alloc (.cells vs t)) w.heap.size vs.toList := by
  refine ⟨fun i => by rw [World.cell?_alloc_new]; simp, fun i => ?_, by simp⟩
  rw [frozen?_alloc_cells]; simp only [World.frozen?]; rw [Array.getElem?_eq_none (by simp)]
theorem lies_new2 (w : World) (o : Obj) (vs : Array Value) (t : TypeId) : Lies ((w.alloc o).alloc (.cells vs t)) (w.heap.size + 1) vs.toList := by
  have h := lies_new (w.alloc o) vs t
  rwa [show (w.alloc o).heap.size = w.heap.size + 1 by simp] at h
theorem lies_new3 (w : World) (o o' : Obj) (vs : Array Value) (t : TypeId) : Lies (((w.alloc o).alloc o').alloc (.cells vs t)) (w.heap.size + 1 + 1) vs.toList := by
  have h := lies_new2 (w.alloc o) o' vs t
  rwa [show (w.alloc o).heap.size = w.heap.size + 1 by simp] at h
theorem lies_new4 (w : World) (o o' o2 : Obj) (vs : Array Value) (t : TypeId) : Lies ((((w.alloc o).alloc o').alloc o2).alloc (.cells vs t)) (w.heap.size + 1 + 1 + 1) vs.toList := by
  have h := lies_new3 (w.alloc o) o' o2 vs t
  rwa [show (w.alloc o).heap.size = w.heap.size + 1 by simp] at h
theorem Lies.at {W : World} {b : Nat} {vs : List Value} (h : Lies W b vs) (i : Nat) : W.cell? ⟨b, i, none⟩ = vs[i]? := h.1 i
theorem Lies.fr {W : World} {b : Nat} {vs : List Value} (h : Lies W b vs) (i : Nat) : W.frozen? ⟨b, i, none⟩ = false := h.2.1 i
theorem Lies.below {W W' : World} {B b : Nat} {vs : List Value} (h : Lies W b vs) (hb : Below B W W') (hB : b < B) : Lies W' b vs :=
  ⟨fun i => (hb.cell (p := ⟨b, i, none⟩) hB).trans (h.1 i), fun i => (hb.frozen (p := ⟨b, i, none⟩) hB).trans (h.2.1 i), Nat.lt_of_lt_of_le h.2.2 hb.size⟩
theorem Lies.belowS {W W' : World} {b : Nat} {vs : List Value} (h : Lies W b vs) (hb : Below W.heap.size W W') : Lies W' b vs := h.below hb h.2.2
theorem Lies.alloc {W : World} {b : Nat} {vs : List Value} (h : Lies W b vs) (o : Obj) : Lies (W.alloc o) b vs := h.belowS ((Below.refl _ _).alloc (Nat.le_refl _) o)

theorem Lies.set {W : World} {b : Nat} {vs : List Value} (h : Lies W b vs) (i : Nat) (hi : i < vs.length) (v : Value) : Lies (W.setCell ⟨b, i, none⟩ v) b (vs.set i v) := by
  refine ⟨fun j => ?_, fun j => by simpa using h.2.1 j, by have := h.2.2; simpa [World.setCell] using this⟩
  by_cases e : j = i
  · subst e
    rw [List.getElem?_set_self hi]
    exact World.cell?_setCell_same (w := W) (a := ⟨b, j, none⟩) (v := v) (h := (h.1 j).trans (List.getElem?_eq_getElem hi))
  · rw [List.getElem?_set_ne (fun h => e h.symm)]
    exact (World.cell?_setCell_other (w := W) (a := ⟨b, i, none⟩) (b := ⟨b, j, none⟩) (v := v) (h := by intro e2; simp only [Addr.mk.injEq] at e2; omega)).trans (h.1 j)
theorem Lies.far {W : World} {b b' : Nat} {vs : List Value} (h : Lies W b vs) (hb : b ≠ b') (i : Nat) (v : Value) : Lies (W.setCell ⟨b', i, none⟩ v) b vs :=
  ⟨fun j => (World.cell?_setCell_other (w := W) (a := ⟨b', i, none⟩) (b := ⟨b, j, none⟩) (v := v) (h := by intro e; simp only [Addr.mk.injEq] at e; omega)).trans (h.1 j), fun j => by simpa using h.2.1 j, by have := h.2.2; simpa [World.setCell] using this⟩

theorem Lies.grown {w w' : World} {b : Nat} {vs : List Value} {row : Option Nat} (h : Lies w b vs) (hg : w.grownBy w' row) (hr : row ≠ some b) : Lies w' b vs := by
  have hb : w'.heap[b]? = w.heap[b]? := hg.block b h.2.2 (fun e' => hr (by rw [e']))
  refine ⟨fun i => (World.cell?_of_block (a := ⟨b, i, none⟩) hb).trans (h.1 i), fun i => (World.frozen?_of_block (a := ⟨b, i, none⟩) hb).trans (h.2.1 i), Nat.lt_of_lt_of_le h.2.2 hg.size⟩
theorem Lies.range {W : World} {b : Nat} {vs : List Value} (h : Lies W b vs) (o : Nat) (cs : List Value) (hc : ∀ j v, cs[j]? = some v → vs[o + j]? = some v) : W.rangeAt b o cs :=
  fun j v hv => (h.at (o + j)).trans (hc j v hv)
theorem Lies.row {W : World} {b : Nat} {vs : List Value} (h : Lies W b vs) : W.rangeAt b 0 vs := h.range 0 vs fun j v hv => by rw [Nat.zero_add]; exact hv
theorem Lies.there {W : World} {b : Nat} {vs : List Value} (h : Lies W b vs) (o n : Nat) (hn : o + n ≤ vs.length) : W.there b o n :=
  fun j hj => ⟨by rw [h.at, List.getElem?_eq_getElem (by omega)]; rfl, h.fr _⟩
/-- a list with some of its cells written over -/
def spl (vs : List Value) (o : Nat) (us : List Value) : List Value := vs.take o ++ (us ++ vs.drop (o + us.length))
theorem spl_len {vs us : List Value} {o : Nat} (h : o + us.length ≤ vs.length) : (spl vs o us).length = vs.length := by simp [spl]; omega
theorem spl_cons {vs us : List Value} {o : Nat} {u : Value} (h : o < vs.length) : spl (vs.set o u) (o + 1) us = spl vs o (u :: us) := by
  unfold spl
  rw [List.take_succ_eq_append_getElem (by simpa using h), List.getElem_set_self, List.take_set_of_le (Nat.le_refl _), List.drop_set_of_lt (by omega), List.append_assoc]
  simp only [List.length_cons, List.cons_append, List.nil_append]
  rw [show o + (us.length + 1) = o + 1 + us.length by omega]
theorem spl_all {vs us : List Value} (h : us.length = vs.length) : spl vs 0 us = us := by
  unfold spl; rw [List.take_zero, List.nil_append, Nat.zero_add, h, List.drop_length, List.append_nil]
theorem Lies.setCells : ∀ (us : List Value) {W : World} {b : Nat} {vs : List Value} (o : Nat), Lies W b vs → o + us.length ≤ vs.length → Lies (W.setCells b o us) b (spl vs o us)
  | [], W, b, vs, o, h, _ => by
    have e : spl vs o [] = vs := by unfold spl; rw [List.nil_append, List.length_nil, Nat.add_zero, List.take_append_drop]
    rw [e]; exact h
  | u :: us, W, b, vs, o, h, hl => by
    have hl' : o + (us.length + 1) ≤ vs.length := hl
    have := Lies.setCells us (o + 1) (h.set o (by omega) u) (by rw [List.length_set]; omega)
    rw [spl_cons (by omega)] at this
    exact this
theorem Lies.farCells : ∀ (us : List Value) {W : World} {b b' : Nat} {vs : List Value} (o : Nat), Lies W b vs → b ≠ b' → Lies (W.setCells b' o us) b vs
  | [], _, _, _, _, _, h, _ => h
  | u :: us, _, _, _, _, o, h, hb => Lies.farCells us (o + 1) (h.far hb o u) hb
theorem below_setCells : ∀ (us : List Value) {w0 W : World} {B b : Nat} (o : Nat), Below B w0 W → B ≤ b → Below B w0 (W.setCells b o us)
  | [], _, _, _, _, _, h, _ => h
  | _ :: us, _, _, _, _, o, h, hb => below_setCells us (o + 1) (h.setCell hb _) hb
/-- a slice's elements of k cells each, copied -/
theorem run_copy_many {P : Program} (w : World) (dT sT ty elem : TypeId) (b o dLen dCap : Nat) (a : Addr) (sLen sCap k : Nat) (cs : List Value)
    (hu : P.underlying dT = some (.slice elem)) (hs : (P.info? elem).map (·.size) = some k) (hn : cs.length = Nat.min sLen dLen * k)
    (hsrc : ∀ j v, cs[j]? = some v → w.cell? (a.add j) = some v) (ht : w.there b o cs.length) (h1 : ∀ v ∈ cs, v.oneCell' = true) :
    (Builtin.copy_ #[dT, sT] ty #[.slice (some ⟨b, o, none⟩) dLen dCap, .slice (some a) sLen sCap]).run P w = .ok (goInt (Nat.min sLen dLen)) (w.setCells b o cs) := by
  have hl := run_loadCells_list (P := P) w a cs hsrc
  have hst := run_storeCells_cells (P := P) b o cs 0 w (by simpa using fun j hj => (ht j hj).1) (by simpa using fun j hj => (ht j hj).2) h1
  cases hq : P.info? elem with
  | none => simp [hq] at hs
  | some i =>
    have hi : i.size = k := by simpa [hq] using hs
    simp [Builtin.copy_, run_underlying hu, Builtin.lenOf, Builtin.firstCells, sizeOf, typeInfo, hq, hi, ← hn, hl, hst]
theorem wpList_copy_many {P : Program} {w : World} {ops : Array Oper} {rest : List Oper} {o : Oper} {a : Act} {Q : Exit → Act → World → Prop} (hgd : o.guard = none) (d s : Operand) (dT sT : TypeId)
    (ho : o.op = .call { callee := .builtin .copy, args := #[d, s], argTypes := #[dT, sT] }) (elem : TypeId) (k : Nat) (hu : P.underlying dT = some (.slice elem)) (hsz : (P.info? elem).map (·.size) = some k)
    (b off dLen dCap : Nat) (ad : Addr) (sLen sCap : Nat) (hd : a.eval d = .slice (some ⟨b, off, none⟩) dLen dCap) (hs : a.eval s = .slice (some ad) sLen sCap)
    (cs : List Value) (hn : cs.length = Nat.min sLen dLen * k) (hsrc : ∀ j v, cs[j]? = some v → w.cell? (ad.add j) = some v) (ht : w.there b off cs.length) (h1 : ∀ v ∈ cs, v.oneCell' = true)
    (h : wpList P ops Q rest (a.put o.dst (goInt (Nat.min sLen dLen))) (w.setCells b off cs)) : wpList P ops Q (o :: rest) a w := by
  refine wpList_plain hgd fun K hK => ?_
  have hrun := run_copy_many (P := P) w dT sT o.type elem b off dLen dCap ad sLen sCap k cs hu hsz hn hsrc ht h1
  unfold Oper.wp
  simp [execOp, ho, resolve, invoke, builtin, hd, hs, hrun, Result.andThen]
  exact hK _ _ h
/-- an operation whose run is known -/
theorem wpList_run {P : Program} {w : World} {ops : Array Oper} {rest : List Oper} {o : Oper} {a : Act} {Q : Exit → Act → World → Prop} (hgd : o.guard = none) (v : Value) (w' : World)
    (hrun : (execOp a.eval o).run P w = .ok (.value v) w') (h : wpList P ops Q rest (a.put o.dst v) w') : wpList P ops Q (o :: rest) a w := by
  refine wpList_plain hgd fun K hK => ?_
  unfold Oper.wp
  rw [hrun]
  exact hK _ _ h
theorem wpList_alloc_as {P : Program} {w : World} {ops : Array Oper} {rest : List Oper} {o : Oper} {a : Act} {Q : Exit → Act → World → Prop} (hgd : o.guard = none) (t : TypeId) (ho : o.op = .alloc t) (cs : Array Value)
    (hrun : (Instr.alloc t true (.tuple #[])).run P w = .ok (.pointer (some ⟨w.heap.size, 0, none⟩)) (w.alloc (.cells cs t)))
    (h : wpList P ops Q rest (a.put o.dst (.pointer (some ⟨w.heap.size, 0, none⟩))) (w.alloc (.cells cs t))) : wpList P ops Q (o :: rest) a w := by
  refine wpList_run hgd _ _ ?_ h
  unfold execOp
  simp only [ho, Sem.run_bind, hrun, Result.andThen_ok, Sem.run_pure]
/-- the walk is held ahead of the operation that writes the slot d -/
theorem wpList_stop {P : Program} {w : World} {ops : Array Oper} {rest : List Oper} {o : Oper} {a : Act} {Q : Exit → Act → World → Prop} (d : Tmp) (_hd : o.dst = some d) (h : Hid (wpList P ops Q (o :: rest) a w)) : wpList P ops Q (o :: rest) a w := h
theorem wpList_held {P : Program} {w : World} {ops : Array Oper} {l : List Oper} {a : Act} {Q : Exit → Act → World → Prop} (h : Hid (wpList P ops Q l a w)) : wpList P ops Q l a w := h
theorem wpList_stopn {P : Program} {w : World} {ops : Array Oper} {rest : List Oper} {o : Oper} {a : Act} {Q : Exit → Act → World → Prop} (_hd : o.dst = none) (h : Hid (wpList P ops Q (o :: rest) a w)) : wpList P ops Q (o :: rest) a w := h
/-- results that lie in memory -/
theorem results_cell {P : Program} {fn : Func} {p : Tmp} {ty : TypeId} (h : fn.results = #[.cell p ty]) {tmps : Array Value} {w : World} {ad : Addr} {v : Value} (hp : tmps.getD p undef = .pointer (some ad))
    (hl : (loadVar ty ad).run P w = .ok v w) : (results fn tmps).run P w = .ok v w := by
  have hp' : tmps[p]?.getD undef = .pointer (some ad) := by simpa using hp
  simp [results, h, hp', asAddr, hl]
theorem results_cell_tmp {P : Program} {fn : Func} {p q : Tmp} {ty : TypeId} (h : fn.results = #[.cell p ty, .tmp q]) {tmps : Array Value} {w : World} {ad : Addr} {v : Value} (hp : tmps.getD p undef = .pointer (some ad))
    (hl : (loadVar ty ad).run P w = .ok v w) : (results fn tmps).run P w = .ok (.tuple #[v, tmps.getD q undef]) w := by
  have hp' : tmps[p]?.getD undef = .pointer (some ad) := by simpa using hp
  simp [results, h, hp', asAddr, hl]
theorem results_cell_tmp2 {P : Program} {fn : Func} {p q r : Tmp} {ty : TypeId} (h : fn.results = #[.cell p ty, .tmp q, .tmp r]) {tmps : Array Value} {w : World} {ad : Addr} {v : Value} (hp : tmps.getD p undef = .pointer (some ad))
    (hl : (loadVar ty ad).run P w = .ok v w) : (results fn tmps).run P w = .ok (.tuple #[v, tmps.getD q undef, tmps.getD r undef]) w := by
  have hp' : tmps[p]?.getD undef = .pointer (some ad) := by simpa using hp
  simp [results, h, hp', asAddr, hl]
end Go.Proofs.YtfhknkppiidnkaaGreat
