import Derived.Deep.MidRow
import Derived.Deep.RegionLaw
import Derived.Deep.OwnRows
import Derived.Test.YtfhknkppiidnkaaGreatPk00
namespace Go.Proofs.YtfhknkppiidnkaaGreat
open Go.RowKit
def Lies (W : World) (b : Nat) (vs : List Value) : Prop := (∀ i, W.cell? ⟨b, i, none⟩ = vs[i]?) ∧ (∀ i, W.frozen? ⟨b, i, none⟩ = false) ∧ b < W.heap.size
theorem lies_new (w : World) (vs : Array Value) (t : TypeId) : Lies (w.alloc (.cells vs t)) w.heap.size vs.toList := by
  refine ⟨fun i => by rw [World.cell?_alloc_new]; simp, fun i => ?_, by simp⟩
  rw [frozen?_alloc_cells]; simp only [World.frozen?]; rw [Array.getElem?_eq_none (by simp)]
theorem lies_new2 (w : World) (o : Obj) (vs : Array Value) (t : TypeId) : Lies ((w.alloc o).alloc (.cells vs t)) (w.heap.size + 1) vs.toList := by
  have h := lies_new (w.alloc o) vs t
  rwa [show (w.alloc o).heap.size = w.heap.size + 1 by simp] at h
theorem lies_new3 (w : World) (o o' : Obj) (vs : Array Value) (t : TypeId) : Lies (((w.alloc o).alloc o').alloc (.cells vs t)) (w.heap.size + 1 + 1) vs.toList := by
  have h := lies_new2 (w.alloc o) o' vs t
  rwa [show (w.alloc o).heap.size = w.heap.size + 1 by simp] at h
theorem lies_new4 (w : World) (o o' o2 : Obj) (vs : Array Value) (t : TypeId) : Lies ((((w.alloc o).alloc o').alloc o2).alloc (.cells vs t)) (w.heap.size + 1 + 1 + 1) vs.toList := by
  have h := lies_new3 (w.alloc o) o' o2 vs t
  rwa [show (w.alloc o).heap.size = w.heap.size + 1 by simp] at h
theorem Lies.at {W : World} {b : Nat} {vs : List Value} (h : Lies W b vs) (i : Nat) : W.cell? ⟨b, i, none⟩ = vs[i]? := h.1 i
theorem Lies.fr {W : World} {b : Nat} {vs : List Value} (h : Lies W b vs) (i : Nat) : W.frozen? ⟨b, i, none⟩ = false := h.2.1 i
theorem Lies.below {W W' : World} {B b : Nat} {vs : List Value} (h : Lies W b vs) (hb : Below B W W') (hB : b < B) : Lies W' b vs :=
  ⟨fun i => (hb.cell (p := ⟨b, i, none⟩) hB).trans (h.1 i), fun i => (hb.frozen (p := ⟨b, i, none⟩) hB).trans (h.2.1 i), Nat.lt_of_lt_of_le h.2.2 hb.size⟩
theorem Lies.belowS {W W' : World} {b : Nat} {vs : List Value} (h : Lies W b vs) (hb : Below W.heap.size W W') : Lies W' b vs := h.below hb h.2.2
theorem Lies.alloc {W : World} {b : Nat} {vs : List Value} (h : Lies W b vs) (o : Obj) : Lies (W.alloc o) b vs := h.belowS ((Below.refl _ _).alloc (Nat.le_refl _) o)
theorem Lies.set {W : World} {b : Nat} {vs : List Value} (h : Lies W b vs) (i : Nat) (hi : i < vs.length) (v : Value) : Lies (W.setCell ⟨b, i, none⟩ v) b (vs.set i v) := by
  refine ⟨fun j => ?_, fun j => by simpa using h.2.1 j, by have := h.2.2; simpa [World.setCell] using this⟩
  by_cases e : j = i
  · subst e
    rw [List.getElem?_set_self hi]
    exact World.cell?_setCell_same (w := W) (a := ⟨b, j, none⟩) (v := v) (h := (h.1 j).trans (List.getElem?_eq_getElem hi))
  · rw [List.getElem?_set_ne (fun h => e h.symm)]
    exact (World.cell?_setCell_other (w := W) (a := ⟨b, i, none⟩) (b := ⟨b, j, none⟩) (v := v) (h := by intro e2; simp only [Addr.mk.injEq] at e2; omega)).trans (h.1 j)
theorem Lies.far {W : World} {b b' : Nat} {vs : List Value} (h : Lies W b vs) (hb : b ≠ b') (i : Nat) (v : Value) : Lies (W.setCell ⟨b', i, none⟩ v) b vs :=
  ⟨fun j => (World.cell?_setCell_other (w := W) (a := ⟨b', i, none⟩) (b := ⟨b, j, none⟩) (v := v) (h := by intro e; simp only [Addr.mk.injEq] at e; omega)).trans (h.1 j), fun j => by simpa using h.2.1 j, by have := h.2.2; simpa [World.setCell] using this⟩
theorem Lies.grown {w w' : World} {b : Nat} {vs : List Value} {row : Option Nat} (h : Lies w b vs) (hg : w.grownBy w' row) (hr : row ≠ some b) : Lies w' b vs := by
  have hb : w'.heap[b]? = w.heap[b]? := hg.block b h.2.2 (fun e' => hr (by rw [e']))
  refine ⟨fun i => (World.cell?_of_block (a := ⟨b, i, none⟩) hb).trans (h.1 i), fun i => (World.frozen?_of_block (a := ⟨b, i, none⟩) hb).trans (h.2.1 i), Nat.lt_of_lt_of_le h.2.2 hg.size⟩
theorem Lies.range {W : World} {b : Nat} {vs : List Value} (h : Lies W b vs) (o : Nat) (cs : List Value) (hc : ∀ j v, cs[j]? = some v → vs[o + j]? = some v) : W.rangeAt b o cs :=
  fun j v hv => (h.at (o + j)).trans (hc j v hv)
theorem Lies.row {W : World} {b : Nat} {vs : List Value} (h : Lies W b vs) : W.rangeAt b 0 vs := h.range 0 vs fun j v hv => by rw [Nat.zero_add]; exact hv
theorem Lies.there {W : World} {b : Nat} {vs : List Value} (h : Lies W b vs) (o n : Nat) (hn : o + n ≤ vs.length) : W.there b o n :=
  fun j hj => ⟨by rw [h.at, List.getElem?_eq_getElem (by omega)]; rfl, h.fr _⟩
/-- a list with some of its cells written over -/
def spl (vs : List Value) (o : Nat) (us : List Value) : List Value := vs.take o ++ (us ++ vs.drop (o + us.length))
theorem spl_cons {vs us : List Value} {o : Nat} {u : Value} (h : o < vs.length) : spl (vs.set o u) (o + 1) us = spl vs o (u :: us) := by
  unfold spl
  rw [List.take_succ_eq_append_getElem (by simpa using h), List.getElem_set_self, List.take_set_of_le (Nat.le_refl _), List.drop_set_of_lt (by omega), List.append_assoc]
  simp only [List.length_cons, List.cons_append, List.nil_append]
  rw [show o + (us.length + 1) = o + 1 + us.length by omega]
theorem spl_all {vs us : List Value} (h : us.length = vs.length) : spl vs 0 us = us := by
  unfold spl; rw [List.take_zero, List.nil_append, Nat.zero_add, h, List.drop_length, List.append_nil]
theorem Lies.setCells : ∀ (us : List Value) {W : World} {b : Nat} {vs : List Value} (o : Nat), Lies W b vs → o + us.length ≤ vs.length → Lies (W.setCells b o us) b (spl vs o us)
  | [], W, b, vs, o, h, _ => by
    have e : spl vs o [] = vs := by unfold spl; rw [List.nil_append, List.length_nil, Nat.add_zero, List.take_append_drop]
    rw [e]; exact h
  | u :: us, W, b, vs, o, h, hl => by
    have hl' : o + (us.length + 1) ≤ vs.length := hl
    have := Lies.setCells us (o + 1) (h.set o (by omega) u) (by rw [List.length_set]; omega)
    rw [spl_cons (by omega)] at this
    exact this
theorem Lies.farCells : ∀ (us : List Value) {W : World} {b b' : Nat} {vs : List Value} (o : Nat), Lies W b vs → b ≠ b' → Lies (W.setCells b' o us) b vs
  | [], _, _, _, _, _, h, _ => h
  | u :: us, _, _, _, _, o, h, hb => Lies.farCells us (o + 1) (h.far hb o u) hb
theorem below_setCells : ∀ (us : List Value) {w0 W : World} {B b : Nat} (o : Nat), Below B w0 W → B ≤ b → Below B w0 (W.setCells b o us)
  | [], _, _, _, _, _, h, _ => h
  | _ :: us, _, _, _, _, o, h, hb => below_setCells us (o + 1) (h.setCell hb _) hb
/-- a slice's elements of k cells each, copied -/
theorem run_copy_many {P : Program} (w : World) (dT sT ty elem : TypeId) (b o dLen dCap : Nat) (a : Addr) (sLen sCap k : Nat) (cs : List Value)
    (hu : P.underlying dT = some (.slice elem)) (hs : (P.info? elem).map (·.size) = some k) (hn : cs.length = Nat.min sLen dLen * k)
    (hsrc : ∀ j v, cs[j]? = some v → w.cell? (a.add j) = some v) (ht : w.there b o cs.length) (h1 : ∀ v ∈ cs, v.oneCell' = true) :
    (Builtin.copy_ #[dT, sT] ty #[.slice (some ⟨b, o, none⟩) dLen dCap, .slice (some a) sLen sCap]).run P w = .ok (goInt (Nat.min sLen dLen)) (w.setCells b o cs) := by
  have hl := run_loadCells_list (P := P) w a cs hsrc
  have hst := run_storeCells_cells (P := P) b o cs 0 w (by simpa using fun j hj => (ht j hj).1) (by simpa using fun j hj => (ht j hj).2) h1
  cases hq : P.info? elem with
  | none => simp [hq] at hs
  | some i =>
    have hi : i.size = k := by simpa [hq] using hs
    simp [Builtin.copy_, run_underlying hu, Builtin.lenOf, Builtin.firstCells, sizeOf, typeInfo, hq, hi, ← hn, hl, hst]
/-- an operation whose run is known -/
theorem wpList_run {P : Program} {w : World} {ops : Array Oper} {rest : List Oper} {o : Oper} {a : Act} {Q : Exit → Act → World → Prop} (hgd : o.guard = none) (v : Value) (w' : World)
    (hrun : (execOp a.eval o).run P w = .ok (.value v) w') (h : wpList P ops Q rest (a.put o.dst v) w') : wpList P ops Q (o :: rest) a w := by
  refine wpList_plain hgd fun K hK => ?_
  unfold Oper.wp
  rw [hrun]
  exact hK _ _ h
theorem wpList_alloc_as {P : Program} {w : World} {ops : Array Oper} {rest : List Oper} {o : Oper} {a : Act} {Q : Exit → Act → World → Prop} (hgd : o.guard = none) (t : TypeId) (ho : o.op = .alloc t) (cs : Array Value)
    (hrun : (Instr.alloc t true (.tuple #[])).run P w = .ok (.pointer (some ⟨w.heap.size, 0, none⟩)) (w.alloc (.cells cs t)))
    (h : wpList P ops Q rest (a.put o.dst (.pointer (some ⟨w.heap.size, 0, none⟩))) (w.alloc (.cells cs t))) : wpList P ops Q (o :: rest) a w := by
  refine wpList_run hgd _ _ ?_ h
  unfold execOp
  simp only [ho, Sem.run_bind, hrun, Result.andThen_ok, Sem.run_pure]
/-- the walk is held ahead of the operation that writes the slot d -/
theorem wpList_stop {P : Program} {w : World} {ops : Array Oper} {rest : List Oper} {o : Oper} {a : Act} {Q : Exit → Act → World → Prop} (d : Tmp) (_hd : o.dst = some d) (h : H9 (wpList P ops Q (o :: rest) a w)) : wpList P ops Q (o :: rest) a w := h
theorem wpList_stopn {P : Program} {w : World} {ops : Array Oper} {rest : List Oper} {o : Oper} {a : Act} {Q : Exit → Act → World → Prop} (_hd : o.dst = none) (h : H9 (wpList P ops Q (o :: rest) a w)) : wpList P ops Q (o :: rest) a w := h
/-- results that lie in memory -/
theorem results_cell {P : Program} {fn : Func} {p : Tmp} {ty : TypeId} (h : fn.results = #[.cell p ty]) {tmps : Array Value} {w : World} {ad : Addr} {v : Value} (hp : tmps.getD p undef = .pointer (some ad))
    (hl : (loadVar ty ad).run P w = .ok v w) : (results fn tmps).run P w = .ok v w := by
  have hp' : tmps[p]?.getD undef = .pointer (some ad) := by simpa using hp
  simp [results, h, hp', asAddr, hl]
theorem results_cell_tmp {P : Program} {fn : Func} {p q : Tmp} {ty : TypeId} (h : fn.results = #[.cell p ty, .tmp q]) {tmps : Array Value} {w : World} {ad : Addr} {v : Value} (hp : tmps.getD p undef = .pointer (some ad))
    (hl : (loadVar ty ad).run P w = .ok v w) : (results fn tmps).run P w = .ok (.tuple #[v, tmps.getD q undef]) w := by
  have hp' : tmps[p]?.getD undef = .pointer (some ad) := by simpa using hp
  simp [results, h, hp', asAddr, hl]
theorem results_cell_tmp2 {P : Program} {fn : Func} {p q r : Tmp} {ty : TypeId} (h : fn.results = #[.cell p ty, .tmp q, .tmp r]) {tmps : Array Value} {w : World} {ad : Addr} {v : Value} (hp : tmps.getD p undef = .pointer (some ad))
    (hl : (loadVar ty ad).run P w = .ok v w) : (results fn tmps).run P w = .ok (.tuple #[v, tmps.getD q undef, tmps.getD r undef]) w := by
  have hp' : tmps[p]?.getD undef = .pointer (some ad) := by simpa using hp
  simp [results, h, hp', asAddr, hl]
theorem Lies.c {W : World} {b : Nat} {vs : List Value} (h : Lies W b vs) (j : Nat) {v : Value} (e : vs[j]? = some v) : W.cell? ⟨b, j, none⟩ = some v := (h.at j).trans e
theorem ldm {P : Program} {ops : Array Oper} {rest : List Oper} {op : Oper} {a : Act} {w : World} {Q : Exit → Act → World → Prop} (T : TypeId) (b o : Nat) (cs : List Value) {d : TypeDesc} (hc : w.rangeAt b o cs) (hu : P.underlying T = some d)
    (hs : op.guard = none ∧ d.isRow = true ∧ (P.info? T).map (·.size) = some cs.length ∧ ∃ x, op.op = .load T x ∧ a.eval x = .pointer (some ⟨b, o, none⟩))
    (h : wpList P ops Q rest (a.put op.dst (.agg cs.toArray)) w) : H9 (wpList P ops Q (op :: rest) a w) := by
  obtain ⟨h1, h2, h3, x, h4, h5⟩ := hs
  exact wpList_load_mid h1 T x h4 b o h5 cs d hc hu h2 h3 h
theorem stm {P : Program} {ops : Array Oper} {rest : List Oper} {op : Oper} {a : Act} {w : World} {Q : Exit → Act → World → Prop} (T : TypeId) (b o : Nat) (cs : List Value) (ht : w.there b o cs.length)
    (hs : op.guard = none ∧ (P.info? T).map (·.size) = some cs.length ∧ cs.toArray.all (·.oneCell') = true ∧ ∃ x y, op.op = .store T x y ∧ a.eval x = .pointer (some ⟨b, o, none⟩) ∧ a.eval y = .agg cs.toArray)
    (h : wpList P ops Q rest (a.put op.dst undef) (w.setCells b o cs)) : H9 (wpList P ops Q (op :: rest) a w) := by
  obtain ⟨h1, h2, h3, x, y, h4, h5, h6⟩ := hs
  exact wpList_store_mid h1 T x y h4 b o cs.toArray h5 h6 (by simpa using ht) (by simpa using h2) h3 (by simpa using h)
theorem lnw (w : World) (vs : List Value) (t : TypeId) : H9 (Lies (w.alloc (.cells vs.toArray t)) w.heap.size vs) := lies_new _ _ _
theorem Hx {p : Prop} (h : H9 p) : p := h
def Owns (t:TypeId) (w:World) (base:Nat) (a:Option Addr) (n cap:Nat) (zs:List Int):Prop:=
 w.ownsRow base t 1 (.slice a n cap) n (zs.map (Value.int .i64))
theorem Owns.len {t:TypeId} {w:World} {base:Nat} {a:Option Addr} {n cap:Nat} {zs:List Int} (h:Owns t w base a n cap zs):zs.length=n:=by
 have:=h.1;simpa using this
theorem Owns.cap_le {t:TypeId} {w:World} {base:Nat} {a:Option Addr} {n cap:Nat} {zs:List Int} (h:Owns t w base a n cap zs):n≤cap∧(cap:Int)≤9223372036854775807:=by
 rcases h.2 with ⟨e,h0⟩ | ⟨g,c,cur,e,_,_,hn,hm,_,_⟩
 · simp only [Value.slice.injEq] at e;omega
 ·
  simp only [Value.slice.injEq] at e;unfold maxLen at hm;omega
theorem Owns.block {t:TypeId} {w:World} {base:Nat} {a:Option Addr} {n cap:Nat} {zs:List Int} (h:Owns t w base a n cap zs) (h0:0<n) :
  ∃ g,a=some ⟨g,0,none⟩∧base≤g∧g<w.heap.size∧(∀ i,i<n→w.cell? ⟨g,i,none⟩=some (.int .i64 (zs.getD i 0)))∧∀ i,w.frozen? ⟨g,i,none⟩=false:=by
 have hl:=h.len;have Aa:∀ g,(Value.slice a n cap).ownBlock=some g→_:=fun g hg=>World.ownsRow.cells h hg
 rcases h.2 with ⟨e,h0'⟩ | ⟨g,c,cur,e,hb,hh,hn,hm,_,_⟩
 · omega
 ·
  simp only [Value.slice.injEq] at e;obtain ⟨rfl,-,-⟩:=e
  have Ba:g<w.heap.size:=by
   rcases Nat.lt_or_ge g w.heap.size with h' | h'
   · exact h'
   · rw [Array.getElem?_eq_none h'] at hh;cases hh
  refine ⟨g,rfl,hb,Ba,fun i hi=>?_,fun i=>?_⟩
  ·
   have:=Aa g rfl i (it (zs.getD i 0)) (by rw [List.getElem?_map,List.getElem?_eq_getElem (by omega)];simp [List.getD_eq_getElem?_getD,List.getElem?_eq_getElem (show i<zs.length by omega)]);simp only [Addr.add] at this
   split at this
   · rename_i e;subst e;exact this
   · simpa using this
  · simp [World.frozen?,hh]
theorem Owns.sees {t:TypeId} {w:World} {base:Nat} {a:Option Addr} {n cap:Nat} {zs:List Int} (h:Owns t w base a n cap zs):Sees w a n cap zs:=by
 refine ⟨h.len,h.cap_le.1,h.cap_le.2,?_,?_⟩
 ·
  intro e;subst e
  rcases h.2 with ⟨e,h0⟩ | ⟨g,c,cur,e,_⟩
  · simp only [Value.slice.injEq] at e;exact ⟨h0,e.2.2⟩
  · simp at e
 by_cases h0:0<n
 ·
  obtain ⟨g,rfl,_,_,hc,_⟩:=h.block h0;exact .inr ⟨g,0,rfl,fun i hi=>by rw [Nat.zero_add];exact hc i hi⟩
 · exact .inl (by omega)
theorem Owns.below {t:TypeId} {w w':World} {base:Nat} {a:Option Addr} {n cap:Nat} {zs:List Int} (h:Owns t w base a n cap zs) (hb:Below w.heap.size w w'):Owns t w' base a n cap zs:=
 World.ownsRow.kept h (w':=w') (row:=none) ⟨hb.os,hb.tape,hb.output,hb.size,fun k hk _=>hb.block k hk⟩ (by cases hv:(Value.slice a n cap).ownBlock <;> simp)
theorem Owns.mono {t:TypeId} {w:World} {base base':Nat} {a:Option Addr} {n cap:Nat} {zs:List Int} (h:Owns t w base a n cap zs) (hb:base'≤base):Owns t w base' a n cap zs:=by
 refine ⟨h.1,?_⟩
 rcases h.2 with e | ⟨g,c,cur,e,hg,r⟩
 · exact .inl e
 · exact .inr ⟨g,c,cur,e,by omega,r⟩
theorem Owns.set {t:TypeId} {w:World} {base g n cap:Nat} {zs:List Int} (h:Owns t w base (some ⟨g,0,none⟩) n cap zs) (k:Nat) (x:Int):Owns t (w.setCell ⟨g,k,none⟩ (.int .i64 x)) base (some ⟨g,0,none⟩) n cap (zs.set k x):=by
 obtain ⟨hl,h⟩:=h;refine ⟨by simpa using hl,?_⟩
 rcases h with ⟨e,_⟩ | ⟨g',c,cur,e,hb,hh,hn,hm,hs,ht⟩
 · simp at e
 ·
  simp only [Value.slice.injEq,Option.some.injEq,Addr.mk.injEq] at e;obtain ⟨⟨rfl,-,-⟩,-,rfl⟩:=e;refine .inr ⟨g,cap,cur.setIfInBounds k (it x),rfl,hb,?_,hn,hm,by simpa using hs,?_⟩
  · simp [World.setCell,Array.getElem?_modify,hh]
  · rw [Array.toList_setIfInBounds,List.take_set,ht,List.map_set]
theorem Owns.other {t:TypeId} {w:World} {base:Nat} {a:Option Addr} {n cap:Nat} {zs:List Int} (h:Owns t w base a n cap zs) (p:Addr) (hp:∀ x,a=some x→x.block≠p.block) (v:Value):Owns t (w.setCell p v) base a n cap zs:=by
 refine World.ownsRow.kept h (w':=w.setCell p v) (row:=some p.block) ⟨rfl,rfl,rfl,by simp [World.setCell],fun k hk hne=>Below.heap_setCell _ _ _ _ (fun e=>hne (by rw [e]))⟩ ?_
 cases a with
 | none=>exact .inl rfl
 | some x=>exact .inr (by simpa [Value.ownBlock] using hp x rfl)
theorem below_grown {w w':World} (hg:w.grownBy w' none):Below w.heap.size w w':=
 (Below.refl _ _).grown hg (Nat.le_refl _) (fun k hk=>by cases hk)
theorem made_ints (n:Nat):(madeCells #[Value.int .i64 0] n).toList=(List.replicate n (0:Int)).map (Value.int .i64):=by
 apply List.ext_getElem
 · simp [madeCells]
 ·
  intro i h1 h2;simp [madeCells,Nat.mod_one]
theorem info_i64 : (Tryz.prog.info? 2).map (fun i=>(i.zero,i.size,i.bytes))=some (some (.int .i64 0),1,8):=by kernel_rfl
set_option maxHeartbeats 1000000 in
theorem allEl1_any (ok:Bool) (x:Int) (w:World) :
  Calls Tryz.prog 150 #[.bool ok,.int .i64 x] w fun e w'=>e=.returned (.bool (ok && M.el x))∧w'=w:=by
 cases he:M.el x with
 | true =>
  obtain ⟨x0,x1⟩:=(M.el_iff x).1 he;clear he
  cases ok with
  | true =>
   go_enter Tryz.func150,Tryz.ntmps150;(go_wp2_with fail);refine (elementOf_in x _ x0 x1).mono ?_;rintro e w' ⟨rfl,rfl⟩;go_wp2;go_ret;exact ⟨rfl,rfl⟩
  | false =>
   go_enter Tryz.func150,Tryz.ntmps150;(go_wp2_with fail);refine (elementOf_in x _ x0 x1).mono ?_;rintro e w' ⟨rfl,rfl⟩;go_wp2;go_ret;exact ⟨rfl,rfl⟩
 | false =>
  have HX:H9 (x<0∨65537≤x):=(M.el_not x).1 he;clear he
  cases ok with
  | true =>
   go_enter Tryz.func150,Tryz.ntmps150;(go_wp2_with fail);refine (elementOf_out x _ HX.o).mono ?_;rintro e w' ⟨rfl,rfl⟩;go_wp2;go_ret;exact ⟨rfl,rfl⟩
  | false =>
   go_enter Tryz.func150,Tryz.ntmps150;(go_wp2_with fail);refine (elementOf_out x _ HX.o).mono ?_;rintro e w' ⟨rfl,rfl⟩;go_wp2;go_ret;exact ⟨rfl,rfl⟩
theorem M.all_step {zs:List Int} {k:Nat} (hk:k<zs.length):((zs.take k).all M.el && M.el (zs.getD k 0))=(zs.take (k+1)).all M.el:=by
 rw [List.take_succ_eq_append_getElem hk,List.all_append,List.getD_eq_getElem?_getD,List.getElem?_eq_getElem hk];simp
set_option maxHeartbeats 1000000 in
theorem foldAll_any {a:Option Addr} {n c:Nat} {zs:List Int} (w:World) (hz:Sees w a n c zs) :
  Calls Tryz.prog 149 #[.slice a n c,.bool true,.func (.func 150) #[] #[]] w fun e w'=>e=.returned (.bool (M.allEl zs))∧w'=w:=by
 have bn:(n:Int)≤9223372036854775807:=(by have:=hz.big;have:=hz.le;omega);have HZ:=Hd (hz);clear hz;go_enter Tryz.func149,Tryz.ntmps149;go_wp2
 go_loop [1,11] (fun s i=>∃ k:Nat,k≤n∧i=it k∧s=.bool ((zs.take k).all M.el)) (fun _ i=>n-(intOf i).toNat)
 case atStart=>exact ⟨0,by omega,rfl,rfl⟩
 case round =>
  obtain ⟨k,hk,rfl,rfl⟩:=hrel;by_cases Aa:k<n
  ·
   obtain ⟨b1,o1,rfl,Ba⟩:=HZ.o.at (by omega);have c1:=Ba k Aa;have HS:H9 (((zs.take k).all M.el && M.el (zs.getD k 0))=(zs.take (k+1)).all M.el):=M.all_step (by rw [HZ.o.len];exact Aa);clear Ba;generalize hx:zs.getD k 0=x at c1;have HX:=Hd (hx);generalize hs:(zs.take k).all M.el=s;have HT:=Hd (hs);have hI:(k:Int)<(n:Int):=(by omega);clear hx hs;(go_wp2_with fail);refine (allEl1_any s x _).mono ?_;rintro e w' ⟨rfl,rfl⟩;go_wp2
   go_round
   case rel=>exact ⟨k+1,by omega,by go_num,by rw [← HS.o,HT.o,HX.o]⟩
   case measure=>simp [intOf];omega
  ·
   go_wp2;go_ret;refine ⟨ret_bool ?_,rfl⟩;rw [List.take_of_length_le (by rw [HZ.o.len];omega)];rfl
theorem allElements_any {a:Option Addr} {n c:Nat} {zs:List Int} (w:World) (hz:Sees w a n c zs) :
  Calls Tryz.prog 140 #[.slice a n c] w fun e w'=>e=.returned (.bool (M.allEl zs))∧w'=w:=by
 have HZ:=Hd (hz);clear hz;go_enter Tryz.func140,Tryz.ntmps140;(go_wp2_with fail);refine (foldAll_any _ HZ.o).mono ?_;rintro e w' ⟨rfl,rfl⟩;go_wp2;go_ret;exact ⟨rfl,rfl⟩
theorem Owns.form {t:TypeId} {w:World} {base n:Nat} {v:Value} {zs:List Int} (h:w.ownsRow base t 1 v n (zs.map (Value.int .i64))):∃ a cap,v=.slice a n cap∧Owns t w base a n cap zs:=by
 rcases h.2 with ⟨e,h0⟩ | ⟨g,c,cur,e,_⟩
 · subst e h0;exact ⟨none,0,rfl,h⟩
 · subst e;exact ⟨_,c,rfl,h⟩
theorem Owns.row {t:TypeId} {w:World} {base:Nat} {a:Option Addr} {n cap:Nat} {zs:List Int} (h:Owns t w base a n cap zs):∀ k,(Value.slice a n cap).ownBlock=some k→base≤k:=fun k hk=>(World.ownsRow.lt h k hk).1
theorem info_el : (Tryz.prog.info? 126).map (fun i=>(i.zero,i.size,i.bytes))=some (some (.int .i64 0),1,8):=by kernel_rfl
theorem one_int (x:Int):∀ u∈[Value.int .i64 x],u.oneCell'=true:=by intro u hu;simp at hu;subst hu;rfl
theorem ints_int (zs:List Int):∀ u∈zs.map (Value.int .i64),u.oneCell'=true:=ints_oneCell .i64 zs
theorem cell_one (w:World) (x:Int) (t:TypeId):∀ j u,[Value.int .i64 x][j]? = some u→(w.alloc (.cells #[Value.int .i64 x] t)).cell? ((⟨w.heap.size,0,none⟩:Addr).add j)=some u:=by
 intro j u hj
 match j,hj with
 | 0,hj=>simp at hj;subst hj;simp [Addr.add]
theorem take_snoc {zs:List Int} {k:Nat} (h:k<zs.length):zs.take k++[zs.getD k 0]=zs.take (k+1):=by
 rw [List.take_succ_eq_append_getElem h,List.getD_eq_getElem?_getD,List.getElem?_eq_getElem h];rfl
set_option maxHeartbeats 1000000 in
theorem elementsOf1_any {a:Option Addr} {n cap:Nat} {ys:List Int} (x:Int) (base:Nat) (w:World) (ho:Owns 126 w base a n cap ys) (hb:base≤w.heap.size) (hn:n≤2000000) :
  Calls Tryz.prog 152 #[.slice a n cap,.int .i64 x] w fun e w'=>∃ a' cap',e=.returned (.slice a' (n+1) cap')∧Owns 126 w' base a' (n+1) cap' (ys++[x])∧w.grownBy w' (Value.slice a n cap).ownBlock:=by
 have HO:H9 (Owns 126 w base a n cap ys):=ho;obtain ⟨i0,hi,Aa,Ba,Ca⟩:=info_parts info_el;clear ho;go_enter Tryz.func152,Tryz.ntmps152;(go_wp2_with (at_builtin;refine wpList_append_own _ rfl _ _ 203 rfl base 126 i0 (it 0) 1 8 Tryz.underlying203 hi Aa Ba Ca rfl (by decide) _ n (ys.map (Value.int .i64)) rfl (World.ownsRow.alloc HO.o _) ⟨w.heap.size,0,none⟩ 1 1 [it x] rfl rfl (cell_one w x _) (one_int x) (by unfold maxLen;omega) (by omega) (by simp;omega) ?_));intro v' w1 Da Ea _;have hown':w1.ownsRow base 126 1 v' (n+1) ((ys++[x]).map (Value.int .i64)):=(by rw [List.map_append];exact Da);obtain ⟨a',cap',rfl,Fa⟩:=Owns.form hown';have HO':H9 (Owns 126 w1 base a' (n+1) cap' (ys++[x])):=Fa;have HG:H9 (w.grownBy w1 (Value.slice a n cap).ownBlock):=(World.grownBy_alloc w _ _).trans Ea;clear Da hown' Ea Fa hi Aa Ba Ca;go_wp2;go_ret;exact ⟨a',cap',rfl,HO'.o,HG.o⟩
set_option maxHeartbeats 1000000 in
theorem foldelementsOf_any {a b:Option Addr} {n c cap:Nat} {zs:List Int} (w0 w:World) (hz:Sees w0 a n c zs) (hbl:Below w0.heap.size w0 w) (ho:Owns 126 w w0.heap.size b 0 cap []) (hn:n≤1048576) :
  Calls Tryz.prog 151 #[.slice a n c,.slice b 0 cap,.func (.func 152) #[] #[]] w fun e w'=>∃ a' cap',e=.returned (.slice a' n cap')∧Owns 126 w' w0.heap.size a' n cap' zs∧Below w0.heap.size w0 w':=by
 have HZ:=Hd (hz);have HB:=Hd (hbl);have HO:H9 (Owns 126 w w0.heap.size b 0 cap []):=ho;clear hz hbl ho;go_enter Tryz.func151,Tryz.ntmps151;go_wp2
 go_loopw [1,11] (fun s i wr=>∃ (k:Nat) (a':Option Addr) (cap':Nat),k≤n∧i=it k∧s=.slice a' k cap'∧Owns 126 wr w0.heap.size a' k cap' (zs.take k)∧Below w0.heap.size w0 wr) (fun _ i _=>n-(intOf i).toNat)
 case atStart=>exact ⟨0,b,cap,by omega,rfl,rfl,HO.o,HB.o⟩
 case round =>
  obtain ⟨k,a',cap',hk,rfl,rfl,Ca,Da⟩:=hrel;have Ba:H9 (Owns 126 wr w0.heap.size a' k cap' (zs.take k)):=Ca;have Aa:=Hd (Da);clear Ca Da HO HB;by_cases Ea:k<n
  ·
   obtain ⟨b1,o1,rfl,Fa⟩:=(HZ.o.below Aa.o).at (by omega);have c1:=Fa k Ea;clear Fa;have HS:H9 (zs.take k++[zs.getD k 0]=zs.take (k+1)):=take_snoc (by rw [HZ.o.len];exact Ea);generalize hx:zs.getD k 0=x at c1;have HX:=Hd (hx);have hI:(k:Int)<(n:Int):=(by omega);clear hx;(go_wp2_with fail);refine (elementsOf1_any x w0.heap.size _ Ba.o Aa.o.size (by omega)).mono ?_;rintro e w1 ⟨a2,Ga,rfl,Ha,Ia⟩;have Ja:H9 (Owns 126 w1 w0.heap.size a2 (k+1) Ga (zs.take k++[x])):=Ha;have Ka:H9 (Below w0.heap.size w0 w1):=Aa.o.grown Ia Aa.o.size Ba.o.row;clear Ha Ia;go_wp2;go_roundw
   case rel=>exact ⟨k+1,a2,Ga,by omega,by go_num,rfl,by rw [← HS.o,HX.o];exact Ja.o,Ka.o⟩
   case measure=>simp [intOf];omega
  ·
   have La:k=n:=(by omega);subst La;go_wp2;go_ret;refine ⟨a',cap',rfl,?_,Aa.o⟩;have h:=Ba.o;rw [List.take_of_length_le (by rw [HZ.o.len];exact Nat.le_refl _)] at h;exact h
set_option maxHeartbeats 1000000 in
theorem elementsOf_any {a:Option Addr} {n c:Nat} {zs:List Int} (w:World) (hz:Sees w a n c zs) (hn:n≤1048576) :
  Calls Tryz.prog 141 #[.slice a n c] w fun e w'=>∃ a' cap',e=.returned (.slice a' n cap')∧Owns 126 w' w.heap.size a' n cap' zs∧Below w.heap.size w w':=by
 have HZ:=Hd (hz);obtain ⟨i0,hi,Aa,Ba,Ca⟩:=info_parts info_el;clear hz;go_enter Tryz.func141,Tryz.ntmps141;(go_wp2_with (at_make;refine wpList_make_own _ rfl _ _ 203 rfl w.heap.size 126 i0 (it 0) 1 Tryz.underlying203 hi Aa Ba .i64 .i64 _ n rfl rfl rfl (by rw [Ca];omega) (by unfold maxLen;omega) (Nat.le_refl _) ?_));intro w1 Da hg;have HO:H9 (Owns 126 w1 w.heap.size (some ⟨w.heap.size,0,none⟩) 0 n []):=Da;have HB:H9 (Below w.heap.size w w1):=below_grown hg;clear Da hg hi Aa Ba Ca;(go_wp2_with fail);refine (foldelementsOf_any w _ HZ.o HB.o HO.o hn).mono ?_;rintro e w2 ⟨a',cap',rfl,ho,hb⟩;have Ea:H9 (Owns 126 w2 w.heap.size a' n cap' zs):=ho;have Fa:=Hd (hb);clear ho hb;go_wp2;go_ret;exact ⟨a',cap',rfl,Ea.o,Fa.o⟩
def M.tl (zs:List Int):Nat→Nat
 | 0=>0
 | k+1=>if zs.getD k 0=0 then M.tl zs k else k+1
def M.trim (zs:List Int):List Int:=zs.take (M.tl zs zs.length)
def M.TlInv (zs:List Int) (n k:Nat):Prop:=M.tl zs k=M.tl zs n
theorem M.tl_le (zs:List Int) (k:Nat):M.tl zs k≤k:=by
 induction k with
 | zero=>exact Nat.le_refl _
 | succ k ih=>unfold M.tl;split <;> omega
theorem M.tlinv_step {zs:List Int} {n k:Nat} (h:M.TlInv zs n k) (h0:0<k) (hz:zs.getD (k-1) 0=0):M.TlInv zs n (k-1):=by
 unfold M.TlInv at *;rw [← h];obtain ⟨j,rfl⟩:∃ j,k=j+1:=⟨k-1,by omega⟩;rw [Nat.add_sub_cancel] at hz ⊢
 conv=>rhs;unfold M.tl
 rw [if_pos hz]
theorem M.tlinv_stop {zs:List Int} {n k:Nat} (h:M.TlInv zs n k) (h0:0<k) (hz:zs.getD (k-1) 0≠0):M.tl zs n=k:=by
 unfold M.TlInv at h;rw [← h];obtain ⟨j,rfl⟩:∃ j,k=j+1:=⟨k-1,by omega⟩;rw [Nat.add_sub_cancel] at hz;unfold M.tl;rw [if_neg hz]
theorem M.tlinv_end {zs:List Int} {n:Nat} (h:M.TlInv zs n 0):M.tl zs n=0:=h.symm
theorem sees_news {w:World} {a:Option Addr} {n c:Nat} {zs:List Int} (h:Sees w a n c zs) (k:Nat) (hk:k≤n) :
  ∀ ad,a=some ad→∀ j u,((zs.take k).map (Value.int .i64))[j]? = some u→w.cell? (ad.add j)=some u:=by
 intro ad e j u hj;have hl:=h.len
 have Aa:j<k:=by
  have:=(List.getElem?_eq_some_iff.1 hj).1;rw [List.length_map,List.length_take] at this;omega
 obtain ⟨b,Ba,e2,hc⟩:=h.at (by omega);rw [e] at e2;simp only [Option.some.injEq] at e2;subst e2;have h1:=hc j (by omega);rw [List.getElem?_map,List.getElem?_take_of_lt Aa,List.getElem?_eq_getElem (by omega)] at hj;simp only [Option.map_some,Option.some.injEq] at hj;subst hj;rw [List.getD_eq_getElem?_getD,List.getElem?_eq_getElem (by omega)] at h1;simp only [Option.getD_some] at h1;unfold Addr.add
 split
 · rename_i e0;subst e0;exact h1
 · exact h1
theorem wpList_append_opt {P:Program} (w:World) {ops:Array Oper} {rest:List Oper} {o:Oper} {a:Act} {Q:Exit→Act→World→Prop} (hgd:o.guard=none) (s x:Operand) (t:TypeId)
  (ho:o.op=.call { callee:=.builtin .append,args:=#[s,x],argTypes:=#[t,t] })
  (base:Nat) (e:TypeId) (i:TypeInfo) (z:Value) (size bytes:Nat) (ht:P.underlying t=some (.slice e)) (hi:P.info? e=some i) (hz:i.zero=some z)
  (hsize:i.size=size) (hby:i.bytes=bytes) (hzs:z.cells.size=size) (hsz:0<size)
  (v:Value) (n:Nat) (xs:List Value) (hs:a.eval s=v) (hown:w.ownsRow base e size v n xs)
  (ao:Option Addr) (m c:Nat) (news:List Value) (hx:a.eval x=.slice ao m c) (hl:news.length=m*size) (hnone:ao=none→m=0∧c=0)
  (hnews:∀ ad,ao=some ad→∀ j u,news[j]? = some u→w.cell? (ad.add j)=some u) (h1:∀ u∈news,u.oneCell'=true)
  (h63:n+m≤maxLen) (hbytes:(n+m)*bytes≤140737488355328) (hbase:base≤w.heap.size)
  (h:∀ v' w',w'.ownsRow base e size v' (n+m) (xs++news)→w.grownBy w' v.ownBlock→wpList P ops Q rest (a.put o.dst v') w'):wpList P ops Q (o::rest) a w:=by
 cases ao with
 | some ad=>exact wpList_append_own w hgd s x t ho base e i z size bytes ht hi hz hsize hby hzs hsz v n xs hs hown ad m c news hx hl (hnews ad rfl) h1 h63 hbytes hbase (fun v' w' h2 h3 _=>h v' w' h2 h3)
 | none =>
  obtain ⟨rfl,rfl⟩:=hnone rfl;have hn:news=[]:=List.eq_nil_of_length_eq_zero (by simpa using hl);subst hn;refine wpList_plain hgd fun K hK'=>?_;have Aa:=run_append_owned_none (P:=P) w base t o.type e i size ht hi v n xs hown;unfold Oper.wp;simp [execOp,ho,resolve,invoke,builtin,hs,hx,Aa,Result.andThen];exact hK' _ _ (h v w (by simpa using hown) (World.grownBy.refl _ _))
set_option maxHeartbeats 2000000 in
theorem l2Trim_any {a:Option Addr} {n c:Nat} {zs:List Int} (w:World) (hz:Sees w a n c zs) (hn:n≤1048576) :
  Calls Tryz.prog 110 #[.slice a n c] w fun e w'=>∃ a' m cap',e=.returned (.slice a' m cap')∧Owns 2 w' w.heap.size a' m cap' (M.trim zs)∧Below w.heap.size w w':=by
 have HZ:=Hd (hz);have HN:H9 (a=none→n=0∧c=0):=hz.no;have Ka:n≤c:=hz.le;have La:(c:Int)≤9223372036854775807:=hz.big;obtain ⟨i0,hi,Ea,Fa,Ga⟩:=info_parts info_i64;have HI:H9 (Tryz.prog.info? 2 = some i0∧i0.zero=some (Value.int .i64 0)∧i0.size=1∧i0.bytes=8):=⟨hi,Ea,Fa,Ga⟩;have HL:H9 (∀ k,k≤n→((zs.take k).map (Value.int .i64)).length=k*1):=fun k hk=>by rw [List.length_map,List.length_take,hz.len];omega
 clear hz hi Ea Fa Ga;go_enter Tryz.func110,Tryz.ntmps110;go_wp2
 go_loop [3] (fun s=>∃ k:Nat,k≤n∧s=it k∧M.TlInv zs n k) (fun s=>(intOf s).toNat)
 case atStart=>exact ⟨n,Nat.le_refl _,rfl,rfl⟩
 case round =>
  obtain ⟨k,hk,rfl,Ha⟩:=hrel;have HV:=Hd (Ha);clear Ha;by_cases h0:0<k
  ·
   obtain ⟨b1,o1,rfl,Ia⟩:=HZ.o.at (by omega);have c1:=Ia (k-1) (by omega);clear Ia;generalize hx:zs.getD (k-1) 0=x at c1;have HX:=Hd (hx);clear hx;have hI:(0:Int)<(k:Int):=(by omega);have Na:(0:Int)≤(k:Int)-1:=(by omega);have Oa:(k:Int)-1<(n:Int):=(by omega);by_cases he:x=0
   ·
    have hb:(x == 0)=true:=(by simp [he]);have HE:H9 (M.TlInv zs n (k-1)):=M.tlinv_step HV.o h0 (by rw [HX.o];exact he);clear he;go_wp2
    go_round
    case rel=>exact ⟨k-1,by omega,by go_num,HE.o⟩
    case measure=>simp [intOf];omega
   ·
    have hb:(x == 0)=false:=(by simp [he]);have HE:H9 (M.tl zs n=k):=M.tlinv_stop HV.o h0 (by rw [HX.o];exact he);clear he;have Da:H9 (some (⟨b1,o1,none⟩:Addr)=none→k=0∧c=0):=fun h=>by cases h
    (go_wp2_with (at_builtin;refine wpList_append_opt _ rfl _ _ 24 rfl w.heap.size 2 i0 (it 0) 1 8 Tryz.underlying24 HI.o.1 HI.o.2.1 HI.o.2.2.1 HI.o.2.2.2 rfl (by decide) _ 0 [] rfl (World.ownsRow_made w #[] 0 (Nat.le_refl _) (by unfold maxLen;omega) rfl) (some ⟨b1,o1,none⟩) k c ((zs.take k).map (Value.int .i64)) rfl (HL.o k hk) Da.o (sees_news (HZ.o.below ((Below.refl _ _).alloc (Nat.le_refl _) _)) k hk) (ints_int _) (by unfold maxLen;omega) (by omega) (by simp) ?_));intro v' w1 Aa Ba;have hown':w1.ownsRow w.heap.size 2 1 v' k ((zs.take k).map (Value.int .i64)):=(by simpa using Aa);obtain ⟨a',cap',rfl,Ca⟩:=Owns.form hown'
    have HO':H9 (Owns 2 w1 w.heap.size a' k cap' (M.trim zs)):=by
     show Owns 2 w1 w.heap.size a' k cap' (M.trim zs);unfold M.trim;rw [HZ.o.len,HE.o];exact Ca
    have HG:H9 (Below w.heap.size w w1):=((Below.refl w.heap.size w).alloc (Nat.le_refl _) _).grown Ba (by simp) (fun j hj=>by simp [Value.ownBlock] at hj;omega);clear Aa hown' Ba Ca;go_wp2;go_ret;exact ⟨a',_,cap',rfl,HO'.o,HG.o⟩
  ·
   have Ja:k=0:=(by omega);subst Ja;have HE:H9 (M.tl zs n=0):=M.tlinv_end HV.o;have Da:H9 (a=none→0=0∧c=0):=fun h=>⟨rfl,(HN.o h).2⟩;(go_wp2_with (at_builtin;refine wpList_append_opt _ rfl _ _ 24 rfl w.heap.size 2 i0 (it 0) 1 8 Tryz.underlying24 HI.o.1 HI.o.2.1 HI.o.2.2.1 HI.o.2.2.2 rfl (by decide) _ 0 [] rfl (World.ownsRow_made w #[] 0 (Nat.le_refl _) (by unfold maxLen;omega) rfl) a 0 c ((zs.take 0).map (Value.int .i64)) rfl (HL.o 0 hk) Da.o (sees_news (HZ.o.below ((Below.refl _ _).alloc (Nat.le_refl _) _)) 0 hk) (ints_int _) (by unfold maxLen;omega) (by omega) (by simp) ?_));intro v' w1 Aa Ba;have hown':w1.ownsRow w.heap.size 2 1 v' 0 ((zs.take 0).map (Value.int .i64)):=(by simpa using Aa);obtain ⟨a',cap',rfl,Ca⟩:=Owns.form hown'
   have HO':H9 (Owns 2 w1 w.heap.size a' 0 cap' (M.trim zs)):=by
    show Owns 2 w1 w.heap.size a' 0 cap' (M.trim zs);unfold M.trim;rw [HZ.o.len,HE.o];exact Ca
   have HG:H9 (Below w.heap.size w w1):=((Below.refl w.heap.size w).alloc (Nat.le_refl _) _).grown Ba (by simp) (fun j hj=>by simp [Value.ownBlock] at hj;omega);clear Aa hown' Ba Ca;go_wp2;go_ret;exact ⟨a',_,cap',rfl,HO'.o,HG.o⟩
theorem run_append_mix {P:Program} (w:World) (t t2 e:TypeId) (ty:TypeId) (i:TypeInfo) (b b':Option Addr) (n m c d:Nat) (h1:P.underlying t=some (.slice e)) (h2:P.underlying t2=some (.slice e)) (hi:P.info? e=some i) :
  (Builtin.append_ #[t,t2] ty #[.slice b n c,.slice b' m d]).run P w=(Builtin.append_ #[t,t] ty #[.slice b n c,.slice b' m d]).run P w:=by
 simp [Builtin.append_,run_underlying h1,run_underlying h2,sizeOf,typeInfo,hi]
theorem step_append_mix {P:Program} {ops:Array Oper} {o:Oper} {a:Act} {w:World} {K:Act→World→Prop} {Q:Exit→Act→World→Prop} {E:Prop}
  (hg:o.guard=none) (s x:Operand) (t t2:TypeId) (hop:o.op=Op.call { callee:=Callee.builtin Builtin.append,args:=#[s,x],argTypes:=#[t,t2] })
  (base:Nat) (e:TypeId) (i:TypeInfo) (size:Nat) (h1:P.underlying t=some (.slice e)) (h1':P.underlying t2=some (.slice e)) (h2:P.info? e=some i) (h4:i.size=size)
  (g k cap:Nat) (xs:List Value) (hs:a.eval s=.slice (some ⟨g,0,none⟩) k cap) (hown:w.ownsRow base e size (.slice (some ⟨g,0,none⟩) k cap) k xs) (ao:Option Addr) (m c:Nat) (news:List Value) (hx:a.eval x=.slice ao m c) (hn:news.length=m*size)
  (hnone:ao=none→m=0∧c=0) (hc:∀ ad,ao=some ad→∀ j u,news[j]? = some u→w.cell? (ad.add j)=some u) (h1c:∀ u∈news,u.oneCell'=true) (b1:k+m≤cap)
  (hK:∀ w',w'.ownsRow base e size (.slice (some ⟨g,0,none⟩) (k+m) cap) (k+m) (xs++news)→w.grownBy w' (some g)→K (a.put o.dst (.slice (some ⟨g,0,none⟩) (k+m) cap)) w') :
  if Region.wanted o (yielded ops a.tmps)=true then Oper.wp P o a w K Q else E:=by
 have hw:Region.wanted o (yielded ops a.tmps)=true:=(by simp [Region.wanted,hg]);rw [if_pos hw]
 cases ao with
 | some ad =>
  obtain ⟨w',Aa,r1,r2⟩:=run_append_fits (P:=P) w base t o.type e i size h1 h2 h4 g k cap xs hown ad m c news hn (hc ad rfl) h1c b1;rw [← run_append_mix (P:=P) w t t2 e o.type i _ _ _ _ _ _ h1 h1' h2] at Aa;unfold Oper.wp;simp [execOp,hop,resolve,invoke,builtin,hs,hx,Aa,Result.andThen];exact hK w' r1 r2
 | none =>
  obtain ⟨rfl,rfl⟩:=hnone rfl;have Ba:news=[]:=List.eq_nil_of_length_eq_zero (by simpa using hn);subst Ba;have Aa:=run_append_owned_none (P:=P) w base t o.type e i size h1 h2 _ k xs hown;rw [← run_append_mix (P:=P) w t t2 e o.type i _ _ _ _ _ _ h1 h1' h2] at Aa;unfold Oper.wp;simp [execOp,hop,resolve,invoke,builtin,hs,hx,Aa,Result.andThen];have h:=hK w (by simpa using hown) (World.grownBy.refl _ _);exact h
def M.ev (zs:List Int) (x:Int):Int:=zs.foldr (fun c y=>(y*x+c) % 65537) 0
theorem M.ev_bd (zs:List Int) (x:Int):0≤M.ev zs x∧M.ev zs x<65537:=by
 cases zs with
 | nil=>show 0≤(0:Int)∧(0:Int)<65537;omega
 | cons c r=>unfold M.ev;rw [List.foldr_cons];omega
theorem M.ev_cons (c:Int) (r:List Int) (x:Int):M.ev (c::r) x=(M.ev r x*x+c) % 65537:=rfl
theorem M.ev_drop {zs:List Int} {k:Nat} (h:k<zs.length) (x:Int):(M.ev (zs.drop (k+1)) x*x+zs.getD k 0) % 65537=M.ev (zs.drop k) x:=by
 rw [List.drop_eq_getElem_cons h,M.ev_cons,List.getD_eq_getElem?_getD,List.getElem?_eq_getElem h];rfl
theorem M.el_at {zs:List Int} (h:M.allEl zs=true) (k:Nat):0≤zs.getD k 0∧zs.getD k 0<65537:=by
 by_cases hk:k<zs.length
 ·
  rw [List.getD_eq_getElem?_getD,List.getElem?_eq_getElem hk];exact (M.el_iff _).1 (List.all_eq_true.1 h _ (List.getElem_mem _))
 · rw [List.getD_eq_getElem?_getD,List.getElem?_eq_none (by omega)];exact ⟨by decide,by decide⟩
set_option maxHeartbeats 1000000 in
theorem l2At_any {a:Option Addr} {n c:Nat} {zs:List Int} (x:Int) (w:World) (hz:Sees w a n c zs) (hall:M.allEl zs=true) (x0:0≤x) (x1:x<65537) :
  Calls Tryz.prog 117 #[.slice a n c,.int .i64 x] w fun e w'=>e=.returned (.int .i64 (M.ev zs x))∧w'=w:=by
 have bn:(n:Int)≤9223372036854775807:=(by have:=hz.big;have:=hz.le;omega);have HZ:=Hd (hz);have HA:=Hd (hall);clear hz hall;go_enter Tryz.func117,Tryz.ntmps117;go_wp2
 go_loop [5,6] (fun y i=>∃ (k:Nat) (v:Int),k≤n∧0≤v∧v<65537∧i=it ((k:Int)-1)∧y=it v∧v=M.ev (zs.drop k) x) (fun _ i=>(intOf i+1).toNat)
 case atStart=>exact ⟨n,0,Nat.le_refl _,by omega,by omega,rfl,rfl,by rw [List.drop_of_length_le (by rw [HZ.o.len];exact Nat.le_refl _)];rfl⟩
 case round =>
  obtain ⟨k,v,hk,v0,v1,rfl,rfl,hv⟩:=hrel;have HV:=Hd (hv);clear hv;by_cases h0:0<k
  ·
   obtain ⟨b1,o1,rfl,Aa⟩:=HZ.o.at (by omega);have c1:=Aa (k-1) (by omega);have hd:=M.ev_drop (zs:=zs) (k:=k-1) (by rw [HZ.o.len];omega) x;have Ba:=M.el_at HA.o (k-1);clear Aa;generalize hx:zs.getD (k-1) 0=z at c1 hd Ba;obtain ⟨z0,z1⟩:=Ba;rw [show k-1+1=k by omega,← HV.o] at hd;have HD:=Hd (hd);clear hd hx;obtain ⟨m0,m1⟩:=M.mul_bd v0 v1 x0 x1;have Da:(0:Int)≤(k:Int)-1:=(by omega);have Ea:(k:Int)-1<(n:Int):=(by omega);go_wp2
   go_round
   case rel=>exact ⟨k-1,(v*x+z) % 65537,by omega,Int.emod_nonneg _ (by decide),Int.emod_lt_of_pos _ (by decide),by go_num,rfl,HD.o⟩
   case measure=>simp [intOf];omega
  ·
   have Ca:k=0:=(by omega);subst Ca;go_wp2;go_ret;exact ⟨ret_int HV.o,rfl⟩
theorem M.ev_snoc0 (l:List Int) (x:Int):M.ev (l++[0]) x=M.ev l x:=by
 induction l with
 | nil=>show (0*x+0) % 65537=0;simp
 | cons c r ih=>rw [List.cons_append,M.ev_cons,M.ev_cons,ih]
theorem M.ev_tl (zs:List Int) (x:Int) (k:Nat) (hk:k≤zs.length):M.ev (zs.take (M.tl zs k)) x=M.ev (zs.take k) x:=by
 induction k with
 | zero=>rfl
 | succ k ih =>
  unfold M.tl;by_cases h:zs.getD k 0=0
  · rw [if_pos h,ih (by omega),← take_snoc (by omega),h,M.ev_snoc0]
  · rw [if_neg h]
theorem M.ev_trim (zs:List Int) (x:Int):M.ev (M.trim zs) x=M.ev zs x:=by
 unfold M.trim;rw [M.ev_tl zs x _ (Nat.le_refl _),List.take_length]
theorem M.all_trim {zs:List Int} (h:M.allEl zs=true):M.allEl (M.trim zs)=true:=by
 unfold M.trim M.allEl at *;rw [List.all_eq_true] at *;exact fun x hx=>h x (List.mem_of_mem_take hx)
theorem M.len_trim (zs:List Int):(M.trim zs).length≤zs.length:=by
 unfold M.trim;rw [List.length_take];omega
theorem Owns.lo {t:TypeId} {w:World} {base:Nat} {a:Option Addr} {n cap:Nat} {zs:List Int} (h:Owns t w base a n cap zs):∀ x,a=some x→base≤x.block:=by
 rintro x rfl;exact (World.ownsRow.lt h _ rfl).1
theorem Owns.hi {t:TypeId} {w:World} {base:Nat} {a:Option Addr} {n cap:Nat} {zs:List Int} (h:Owns t w base a n cap zs):∀ x,a=some x→x.block<w.heap.size:=by
 rintro x rfl;exact (World.ownsRow.lt h _ rfl).2
theorem Owns.keep {t:TypeId} {w w':World} {base:Nat} {a b:Option Addr} {n cap m d:Nat} {zs:List Int} (h:Owns t w base a n cap zs) (hg:w.grownBy w' (Value.slice b m d).ownBlock) (hne:∀ x y,a=some x→b=some y→x.block≠y.block):Owns t w' base a n cap zs:=by
 refine World.ownsRow.kept h hg ?_
 cases a with
 | none=>exact .inl rfl
 | some x =>
  refine .inr ?_
  cases b with
  | none=>simp [Value.ownBlock]
  | some y=>simpa [Value.ownBlock] using hne x y rfl rfl
theorem Sees.keep {w w':World} {a b:Option Addr} {n cap m d:Nat} {zs:List Int} (h:Sees w a n cap zs) (hg:w.grownBy w' (Value.slice b m d).ownBlock) (hne:∀ x y,a=some x→b=some y→x.block≠y.block):Sees w' a n cap zs:=by
 refine h.of_cells fun p v hp ⟨x,hx,hxp⟩=>hg.cell hp ?_
 cases b with
 | none=>simp [Value.ownBlock]
 | some y=>have:=hne x y hx rfl;simp [Value.ownBlock];omega
theorem Owns.drewN {t:TypeId} {w:World} {base:Nat} {a:Option Addr} {n cap:Nat} {zs:List Int} (h:Owns t w base a n cap zs) (k:Nat):Owns t (w.drewN k) base a n cap zs:=h
theorem Owns.empty (w:World) (t:TypeId) (base:Nat):Owns t w base none 0 0 []:=World.ownsRow_nil w base t 1
namespace M
theorem mL (a b:Int):a % 65537*b % 65537=a*b % 65537:=(cg_mod a).mul (cg.refl b)
theorem mR (a b:Int):a*(b % 65537) % 65537=a*b % 65537:=(cg.refl a).mul (cg_mod b)
theorem aL (a b:Int):(a % 65537+b) % 65537=(a+b) % 65537:=by omega
theorem aR (a b:Int):(a+b % 65537) % 65537=(a+b) % 65537:=by omega
structure Rl where
 xx:Int
 xy:Int
 yy:Int
 x:Int
 y:Int
 k:Int
def Rl.nums (r:Rl):List Int:=[r.xx,r.xy,r.yy,r.x,r.y,r.k]
def Rl.ok (r:Rl):Bool:=allEl r.nums
def Rl.app (r:Rl) (x y:Int):Int:=(r.xx*(x*x)+r.xy*(x*y)+r.yy*(y*y)+r.x*x+r.y*y+r.k) % 65537
structure Mc where
 X:Rl
 Y:Rl
def Mc.ok (m:Mc):Bool:=m.X.ok && m.Y.ok
def Mc.nx (m:Mc) (s:Int×Int):Int×Int:=(m.X.app s.1 s.2,m.Y.app s.1 s.2)
def Mc.rn (m:Mc) (s:Int×Int):Nat→Int×Int
 | 0=>s
 | n+1=>m.nx (m.rn s n)
def sOk (s:Int×Int):Bool:=el s.1 && el s.2
theorem app_bd (r:Rl) (x y:Int):0≤r.app x y∧r.app x y<65537:=by unfold Rl.app;omega
theorem el_app (r:Rl) (x y:Int):el (r.app x y)=true:=(el_iff _).2 (app_bd r x y)
theorem sOk_iff (s:Int×Int):sOk s=true↔(0≤s.1∧s.1<65537)∧(0≤s.2∧s.2<65537):=by
 unfold sOk;rw [Bool.and_eq_true,el_iff,el_iff]
theorem sOk_nx (m:Mc) (s:Int×Int):sOk (m.nx s)=true:=by unfold sOk Mc.nx;rw [el_app,el_app];rfl
theorem sOk_rn (m:Mc) {s:Int×Int} (h:sOk s=true):∀ n,sOk (m.rn s n)=true
 | 0=>h
 | _+1=>sOk_nx m _
theorem rl_bd {r:Rl} (h:r.ok=true):(0≤r.xx∧r.xx<65537)∧(0≤r.xy∧r.xy<65537)∧(0≤r.yy∧r.yy<65537)∧(0≤r.x∧r.x<65537)∧(0≤r.y∧r.y<65537)∧(0≤r.k∧r.k<65537):=by
 unfold Rl.ok allEl Rl.nums at h;simp only [List.all_cons,List.all_nil,Bool.and_true,Bool.and_eq_true,el_iff] at h;exact h
theorem app_model (r:Rl) (x y:Int):((((((r.xx*(x*x % 65537) % 65537)+r.xy*(x*y % 65537) % 65537) % 65537+r.yy*(y*y % 65537) % 65537) % 65537+r.x*x % 65537) % 65537+r.y*y % 65537) % 65537+r.k) % 65537=r.app x y:=by
 unfold Rl.app;simp only [mR,aL,aR]
theorem app_code (r:Rl) (x y:Int):((((r.xx*x % 65537+r.xy*y % 65537) % 65537+r.x) % 65537*x % 65537+(r.yy*y % 65537+r.y) % 65537*y % 65537) % 65537+r.k) % 65537=r.app x y:=by
 unfold Rl.app;simp only [mL,aL,aR]
 congr 1
 grind
theorem rn_add (m:Mc) (s:Int×Int) (a:Nat):∀ b,m.rn (m.rn s a) b=m.rn s (a+b)
 | 0=>rfl
 | b+1=>by show m.nx (m.rn (m.rn s a) b)=m.nx (m.rn s (a+b));rw [rn_add m s a b]
def Mc.run (m:Mc) (s:Int×Int) (n:Nat):List (Int×Int):=(List.range (n+1)).map (m.rn s)
theorem run_len (m:Mc) (s:Int×Int) (n:Nat):(m.run s n).length=n+1:=by simp [Mc.run]
theorem run_snoc (m:Mc) (s:Int×Int) (n:Nat):m.run s n++[m.rn s (n+1)]=m.run s (n+1):=by
 unfold Mc.run;rw [List.range_succ (n:=n+1)];simp
theorem run_get (m:Mc) (s:Int×Int) (n i:Nat) (h:i≤n):(m.run s n).getD i (0,0)=m.rn s i:=by
 rw [List.getD_eq_getElem?_getD,List.getElem?_eq_getElem (by rw [run_len];omega)];simp [Mc.run]
end M
def sets (W:World) (B:Nat):Nat→List Value→World
 | _,[]=>W
 | i,v::vs=>sets (W.setCell ⟨B,i,none⟩ v) B (i+1) vs
theorem sets_far (B:Nat) {p:Addr} (hp:p.block≠B):∀ (vs:List Value) (W:World) (i:Nat),(sets W B i vs).cell? p=W.cell? p
 | [],_,_=>rfl
 | v::vs,W,i=>(sets_far B hp vs (W.setCell ⟨B,i,none⟩ v) (i+1)).trans (World.cell?_setCell_other (w:=W) (a:=⟨B,i,none⟩) (b:=p) (v:=v) (h:=fun e=>hp (by rw [← e])))
theorem sets_low (B j:Nat):∀ (vs:List Value) (W:World) (i:Nat),j<i→(sets W B i vs).cell? ⟨B,j,none⟩=W.cell? ⟨B,j,none⟩
 | [],_,_,_=>rfl
 | v::vs,W,i,h=>(sets_low B j vs (W.setCell ⟨B,i,none⟩ v) (i+1) (by omega)).trans (World.cell?_setCell_other (w:=W) (a:=⟨B,i,none⟩) (b:=⟨B,j,none⟩) (v:=v) (h:=by intro e;simp only [Addr.mk.injEq] at e;omega))
theorem sets_at (B:Nat):∀ (vs:List Value) (W:World) (i:Nat),(∀ j,j<vs.length→∃ u,W.cell? ⟨B,i+j,none⟩=some u)→∀ j v,vs[j]? = some v→(sets W B i vs).cell? ⟨B,i+j,none⟩=some v
 | [],_,_,_,j,v,h=>by simp at h
 | x::vs,W,i,hc,0,v,h=>by
  have e:x=v:=(by simpa using h);subst e;obtain ⟨u,hu⟩:=hc 0 (by simp);exact (sets_low B i vs (W.setCell ⟨B,i,none⟩ x) (i+1) (by omega)).trans (World.cell?_setCell_same (w:=W) (a:=⟨B,i,none⟩) (v:=x) (h:=hu))
 | x::vs,W,i,hc,j+1,v,h=>by
  have h':vs[j]? = some v:=by simpa using h
  have key:=sets_at B vs (W.setCell ⟨B,i,none⟩ x) (i+1) (fun j hj=>by
   obtain ⟨u,hu⟩:=hc (j+1) (by simp;omega);refine ⟨u,(World.cell?_setCell_other (w:=W) (a:=⟨B,i,none⟩) (b:=⟨B,i+1+j,none⟩) (v:=x) (h:=by intro e;simp only [Addr.mk.injEq] at e;omega)).trans ?_⟩;rw [show i+1+j=i+(j+1) by omega];exact hu) j v h'
  rw [show i+(j+1)=i+1+j by omega];exact key
theorem sets_frozen (B:Nat) (p:Addr):∀ (vs:List Value) (W:World) (i:Nat),(sets W B i vs).frozen? p=W.frozen? p
 | [],_,_=>rfl
 | v::vs,W,i=>(sets_frozen B p vs (W.setCell ⟨B,i,none⟩ v) (i+1)).trans (by simp)
theorem sets_size (B:Nat):∀ (vs:List Value) (W:World) (i:Nat),(sets W B i vs).heap.size=W.heap.size
 | [],_,_=>rfl
 | v::vs,W,i=>(sets_size B vs (W.setCell ⟨B,i,none⟩ v) (i+1)).trans (by simp)
theorem sets_below {B0 B:Nat} {a:World} (hB:B0≤B):∀ (vs:List Value) (W:World) (i:Nat),Below B0 a W→Below B0 a (sets W B i vs)
 | [],_,_,h=>h
 | v::vs,W,i,h=>sets_below hB vs (W.setCell ⟨B,i,none⟩ v) (i+1) (h.setCell hB v)
def prs (ps:List (Int×Int)):List Value:=ps.flatMap fun p=>[.int .i64 p.1,.int .i64 p.2]
theorem prs_snoc (ps:List (Int×Int)) (p:Int×Int):prs ps++[.int .i64 p.1,.int .i64 p.2]=prs (ps++[p]):=by simp [prs]
theorem prs_get : ∀ (ps:List (Int×Int)) {i:Nat},i<ps.length→(prs ps)[i*2]? = some (.int .i64 (ps.getD i (0,0)).1)∧(prs ps)[i*2+1]? = some (.int .i64 (ps.getD i (0,0)).2)
 | [],_,h=>by simp at h
 | p::r,0,_=>⟨rfl,rfl⟩
 | p::r,i+1,h=>by
  have ih:=prs_get r (i:=i) (by simpa using h)
  have e1:(prs (p::r))[(i+1)*2]? = (prs r)[i*2]?:=by
   rw [show (i+1)*2=i*2+1+1 by omega];rfl
  have e2:(prs (p::r))[(i+1)*2+1]? = (prs r)[i*2+1]?:=by
   rw [show (i+1)*2+1=i*2+1+1+1 by omega];rfl
  rw [e1,e2];exact ih
def OwnsQ (t:TypeId) (w:World) (base:Nat) (a:Option Addr) (n cap:Nat) (ps:List (Int×Int)):Prop:=ps.length=n∧w.ownsRow base t 2 (.slice a n cap) n (prs ps)
theorem OwnsQ.form {t:TypeId} {w:World} {base n:Nat} {v:Value} {ps:List (Int×Int)} (hl:ps.length=n) (h:w.ownsRow base t 2 v n (prs ps)):∃ a cap,v=.slice a n cap∧OwnsQ t w base a n cap ps:=by
 rcases h.2 with ⟨rfl,rfl⟩ | ⟨g,cap,cur,rfl,_⟩
 · exact ⟨none,0,rfl,hl,h⟩
 · exact ⟨_,cap,rfl,hl,h⟩
structure SeesQ (w : World) (a : Option Addr) (n cap : Nat) (ps : List (Int × Int)) : Prop where
 len:ps.length=n
 le:n≤cap
 big:(cap:Int)≤9223372036854775807
 no:a=none→n=0∧cap=0
 pos:n=0∨∃ b off,a=some ⟨b,off,none⟩∧∀ i,i<n→w.cell? ⟨b,off+i*2,none⟩=some (.int .i64 (ps.getD i (0,0)).1)∧w.cell? ⟨b,off+i*2+1,none⟩=some (.int .i64 (ps.getD i (0,0)).2)
theorem SeesQ.below {w w':World} {a:Option Addr} {n cap:Nat} {ps:List (Int×Int)} (h:SeesQ w a n cap ps) (hb:Below w.heap.size w w'):SeesQ w' a n cap ps:=by
 refine ⟨h.len,h.le,h.big,h.no,?_⟩
 rcases h.pos with e | ⟨b,off,e,hc⟩
 · exact .inl e
 ·
  by_cases h0:n=0
  · exact .inl h0
  ·
   have Aa:b<w.heap.size:=by
    have:=(hc 0 (by omega)).1;simp only [World.cell?] at this
    rcases Nat.lt_or_ge b w.heap.size with hl | hl
    · exact hl
    · rw [Array.getElem?_eq_none hl] at this;simp at this
   exact .inr ⟨b,off,e,fun i hi=>⟨(hb.cell (p:=⟨b,off+i*2,none⟩) Aa).trans (hc i hi).1,(hb.cell (p:=⟨b,off+i*2+1,none⟩) Aa).trans (hc i hi).2⟩⟩
theorem SeesQ.at {w:World} {a:Option Addr} {n cap:Nat} {ps:List (Int×Int)} (h:SeesQ w a n cap ps) (h0:0<n):∃ b off,a=some ⟨b,off,none⟩∧∀ i,i<n→w.cell? ⟨b,off+i*2,none⟩=some (.int .i64 (ps.getD i (0,0)).1)∧w.cell? ⟨b,off+i*2+1,none⟩=some (.int .i64 (ps.getD i (0,0)).2):=by
 rcases h.pos with e | e
 · omega
 · exact e
theorem OwnsQ.block {t:TypeId} {w:World} {base n cap:Nat} {a:Option Addr} {ps:List (Int×Int)} (h:OwnsQ t w base a n cap ps) (h0:0<n):∃ g,a=some ⟨g,0,none⟩∧base≤g∧n≤cap∧(cap:Int)≤9223372036854775807∧∀ i,i<n→w.cell? ⟨g,i*2,none⟩=some (.int .i64 (ps.getD i (0,0)).1)∧w.cell? ⟨g,i*2+1,none⟩=some (.int .i64 (ps.getD i (0,0)).2):=by
 obtain ⟨hl,h⟩:=h;have Aa:∀ g,(Value.slice a n cap).ownBlock=some g→_:=fun g hg=>World.ownsRow.cells h hg
 rcases h.2 with ⟨_,h0'⟩ | ⟨g,c,cur,e,hb,hh,hn,hm,_,_⟩
 · omega
 ·
  simp only [Value.slice.injEq] at e;obtain ⟨rfl,-,rfl⟩:=e;have Ba:∀ j,(⟨g,0,none⟩:Addr).add j=⟨g,j,none⟩:=fun j=>by unfold Addr.add;split <;> simp_all
  unfold maxLen at hm;refine ⟨g,rfl,hb,hn,by omega,fun i hi=>?_⟩;obtain ⟨h1,h2⟩:=prs_get ps (i:=i) (by omega);have c1:=Aa g rfl _ _ h1;have c2:=Aa g rfl _ _ h2;rw [Ba] at c1 c2;exact ⟨c1,c2⟩
theorem OwnsQ.sees {t:TypeId} {w:World} {base n cap:Nat} {a:Option Addr} {ps:List (Int×Int)} (h:OwnsQ t w base a n cap ps) (h0:0<n):SeesQ w a n cap ps:=by
 obtain ⟨g,rfl,_,h1,h2,hc⟩:=h.block h0;exact ⟨h.1,h1,h2,fun e=>by simp at e,.inr ⟨g,0,rfl,fun i hi=>by simpa using hc i hi⟩⟩
theorem OwnsQ.row {t:TypeId} {w:World} {base n cap:Nat} {a:Option Addr} {ps:List (Int×Int)} (h:OwnsQ t w base a n cap ps):∀ q,(Value.slice a n cap).ownBlock=some q→base≤q:=by
 intro q hq
 rcases h.2.2 with ⟨e,_⟩ | ⟨g,c,cur,e,hb,_⟩
 · simp only [Value.slice.injEq] at e;rw [e.1] at hq;simp [Value.ownBlock] at hq
 · simp only [Value.slice.injEq] at e;rw [e.1] at hq;simp [Value.ownBlock] at hq;omega
theorem OwnsQ.below {t:TypeId} {w w':World} {base n cap:Nat} {a:Option Addr} {ps:List (Int×Int)} (h:OwnsQ t w base a n cap ps) (hb:Below w.heap.size w w'):OwnsQ t w' base a n cap ps:=
 ⟨h.1,World.ownsRow.kept h.2 (w':=w') (row:=none) ⟨hb.os,hb.tape,hb.output,hb.size,fun k hk _=>hb.block k hk⟩ (by cases hv:(Value.slice a n cap).ownBlock <;> simp)⟩
theorem OwnsQ.mono {t:TypeId} {w:World} {base base' n cap:Nat} {a:Option Addr} {ps:List (Int×Int)} (h:OwnsQ t w base a n cap ps) (hb:base'≤base):OwnsQ t w base' a n cap ps:=by
 refine ⟨h.1,h.2.1,?_⟩
 rcases h.2.2 with e | ⟨g,c,cur,e,hg,r⟩
 · exact .inl e
 · exact .inr ⟨g,c,cur,e,by omega,r⟩
theorem OwnsQ.other {t:TypeId} {w:World} {base n cap:Nat} {a:Option Addr} {ps:List (Int×Int)} (h:OwnsQ t w base a n cap ps) (p:Addr) (hp:p.block<base) (v:Value):OwnsQ t (w.setCell p v) base a n cap ps:=by
 refine ⟨h.1,World.ownsRow.kept h.2 (w':=w.setCell p v) (row:=some p.block) ⟨rfl,rfl,rfl,by simp [World.setCell],fun k hk hne=>Below.heap_setCell _ _ _ _ (fun e=>hne (by rw [e]))⟩ ?_⟩;have hr:=h.row
 cases hv:(Value.slice a n cap).ownBlock with
 | none=>exact .inl rfl
 | some q=>exact .inr (by have:=hr q hv;simp;omega)
theorem OwnsQ.sets {t:TypeId} {base n cap B:Nat} {a:Option Addr} {ps:List (Int×Int)} (hB:B<base):∀ (vs:List Value) (w:World) (i:Nat),OwnsQ t w base a n cap ps→OwnsQ t (sets w B i vs) base a n cap ps
 | [],_,_,h=>h
 | v::vs,w,i,h=>OwnsQ.sets hB vs (w.setCell ⟨B,i,none⟩ v) (i+1) (h.other ⟨B,i,none⟩ hB v)
theorem two_intsq (x y:Int):∀ u∈[Value.int .i64 x,Value.int .i64 y],u.oneCell'=true:=by
 intro u hu;simp only [List.mem_cons,List.not_mem_nil,or_false] at hu
 rcases hu with rfl | rfl <;> rfl
theorem cell_twoq (w:World) (x y:Value) (t:TypeId):∀ j u,[x,y][j]? = some u→(w.alloc (.cells #[x,y] t)).cell? ((⟨w.heap.size,0,none⟩:Addr).add j)=some u:=by
 intro j u hj;have e:((⟨w.heap.size,0,none⟩:Addr).add j)=⟨w.heap.size,j,none⟩:=(by unfold Addr.add;split <;> simp_all);rw [e,World.cell?_alloc_new];simpa using hj
end Go.Proofs.YtfhknkppiidnkaaGreat
