/- What is kept while one block is written: lemmas on 'grownBy', for regions that draw their order and for loops beside a slice that was made first. Lists of pairs taken apart and put together, in the program. Pairs: one less another, and both times an element. -/
import Derived.Test.YtfhknkppiidnkaaGreatLiA
import Derived.Test.YtfhknkppiidnkaaGreatSlF
import Derived.Test.YtfhknkppiidnkaaGreatMaP
import Derived.Test.YtfhknkppiidnkaaGreatMaF
import Derived.Test.YtfhknkppiidnkaaGreatSlH
import Derived.Test.YtfhknkppiidnkaaGreatMaJ
namespace Go.Proofs.YtfhknkppiidnkaaGreat
open Go.RowKit

theorem cutKey {P G : Prop} (f : P → G) (h : P) : G := f h
theorem grown_of_below {w w' : World} (h : Below w.heap.size w w') (row : Option Nat) : w.grownBy w' row := ⟨h.os, h.tape, h.output, h.size, fun k hk _ => h.block k hk⟩
theorem grown_drew (w : World) (row : Option Nat) : w.grownBy w.drew row := grown_of_below (Below.refl _ _).drew row
theorem grown_step {a w w' : World} {row : Option Nat} (h : a.grownBy w row) (hb : Below w.heap.size w w') : a.grownBy w' row :=
  h.trans (grown_of_below hb row)
theorem grown_cells {a w : World} {b : Nat} (h : a.grownBy w (some b)) (o : Nat) (us : List Value) : a.grownBy (w.setCells b o us) (some b) := by
  have hz : ∀ (us : List Value) (w : World) (o : Nat), w.grownBy (w.setCells b o us) (some b) := by
    intro us
    induction us with
    | nil => exact fun w _ => World.grownBy.refl w _
    | cons u us ih =>
      intro w o
      have h1 : w.grownBy (w.setCell ⟨b, o, none⟩ u) (some b) := ⟨rfl, rfl, rfl, by simp [World.setCell], fun k _ hk => Below.heap_setCell w _ u k (fun e => hk (by rw [e]))⟩
      exact h1.trans (ih _ _)
  exact h.trans (hz us w o)
theorem below_grownBy {B : Nat} {a w w' : World} {row : Option Nat} (h : Below B a w) (hg : w.grownBy w' row) (hB : B ≤ w.heap.size) (hr : ∀ k, row = some k → B ≤ k) : Below B a w' := h.grown hg hB hr
theorem Sees.grownR {w w' : World} {a : Option Addr} {n cap : Nat} {zs : List Int} {row : Option Nat} (h : Sees w a n cap zs) (hg : w.grownBy w' row) (hr : ∀ x, a = some x → row ≠ some x.block) : Sees w' a n cap zs :=
  h.of_cells fun p _ hp ⟨x, hx, he⟩ => hg.cell hp (fun e => hr x hx (by rw [he, e]))
theorem Owns.grownR.lt_of_heap {w : World} {g : Nat} {o : Obj} (h : w.heap[g]? = some o) : g < w.heap.size := by
  rcases Nat.lt_or_ge g w.heap.size with h' | h'
  · exact h'
  · rw [Array.getElem?_eq_none h'] at h; cases h
theorem Owns.grownR {t : TypeId} {w w' : World} {base : Nat} {a : Option Addr} {n cap : Nat} {zs : List Int} {row : Option Nat} (h : Owns t w base a n cap zs) (hg : w.grownBy w' row) (hr : ∀ x, a = some x → row ≠ some x.block) : Owns t w' base a n cap zs := by
  refine ⟨h.1, ?_⟩
  rcases h.2 with e | ⟨g, cp, cur, e, hb, hc, r⟩
  · exact .inl e
  · refine .inr ⟨g, cp, cur, e, hb, ?_, r⟩
    have hx : a = some ⟨g, 0, none⟩ := by injection e
    rw [hg.block g (Owns.grownR.lt_of_heap hc) (fun e2 => hr _ hx e2.symm)]
    exact hc
theorem OwnsQ.grownR {t : TypeId} {w w' : World} {base : Nat} {a : Option Addr} {n cap : Nat} {ps : List (Int × Int)} {row : Option Nat} (h : OwnsQ t w base a n cap ps) (hg : w.grownBy w' row) (hr : ∀ x, a = some x → row ≠ some x.block) : OwnsQ t w' base a n cap ps := by
  refine ⟨h.1, h.2.1, ?_⟩
  rcases h.2.2 with e | ⟨g, cp, cur, e, hb, hc, r⟩
  · exact .inl e
  · refine .inr ⟨g, cp, cur, e, hb, ?_, r⟩
    have hx : a = some ⟨g, 0, none⟩ := by injection e
    rw [hg.block g (Owns.grownR.lt_of_heap hc) (fun e2 => hr _ hx e2.symm)]
    exact hc
theorem SeesQ.grownR {w w' : World} {a : Option Addr} {n c : Nat} {ps : List (Int × Int)} {row : Option Nat} (h : SeesQ w a n c ps) (hg : w.grownBy w' row) (hr : ∀ x, a = some x → row ≠ some x.block) : SeesQ w' a n c ps := by
  refine ⟨h.len, h.le, h.big, h.no, ?_⟩
  rcases h.pos with e | ⟨b, off, e, hb⟩
  · exact .inl e
  · exact .inr ⟨b, off, e, fun i hi => ⟨hg.cell (hb i hi).1 (fun e2 => hr _ e e2.symm), hg.cell (hb i hi).2 (fun e2 => hr _ e e2.symm)⟩⟩
theorem far_next {v v' : Value} {w : World} {pb : Nat} (h : v'.ownBlock = v.ownBlock ∨ v'.ownBlock = some w.heap.size) (hp : pb < w.heap.size) (hv : v.ownBlock ≠ some pb) : v'.ownBlock ≠ some pb := by
  rcases h with e | e
  · rw [e]; exact hv
  · rw [e]; intro e2; injection e2 with e3; omega
theorem own_some {a : Option Addr} {n c b : Nat} (h : (Value.slice a n c).ownBlock ≠ some b) : ∀ x, a = some x → x.block ≠ b := fun x hx e => h (by subst hx; simp [Value.ownBlock, e])
theorem own_row {a : Option Addr} {n c b : Nat} (h : (Value.slice a n c).ownBlock ≠ some b) : (Value.slice a n c).ownBlock ≠ some b := h
theorem grown_far {a w : World} {row : Option Nat} {b : Nat} (h : a.grownBy w row) (hb : a.heap.size ≤ b) (o : Nat) (us : List Value) : a.grownBy (w.setCells b o us) row := by
  have hz : ∀ (us : List Value) (w : World) (o : Nat), a.grownBy w row → a.grownBy (w.setCells b o us) row := by
    intro us
    induction us with
    | nil => exact fun _ _ h => h
    | cons u us ih =>
      intro w o h
      refine ih _ _ ⟨h.os, h.tape, h.output, by have := h.size; simpa [World.setCell] using this, fun k hk hr => ?_⟩
      rw [Below.heap_setCell w ⟨b, o, none⟩ u k (fun e => by have : k = b := e; omega)]
      exact h.block k hk hr
  exact hz us w o h
theorem grown_alloc {a w : World} {row : Option Nat} (h : a.grownBy w row) (o : Obj) : a.grownBy (w.alloc o) row := h.trans (World.grownBy_alloc w o row)
theorem grown_lies {a w : World} {row : Option Nat} {b : Nat} {vs : List Value} (hl : Lies a b vs) (h : a.grownBy w row) (hr : row ≠ some b) : Lies w b vs := hl.grown h hr
/-- append at an operation of a drawn region, with the place of the new slice -/
theorem wp_append_at {P : Program} {w : World} {o : Oper} {a : Act} {K : Act → World → Prop} {Q : Exit → Act → World → Prop} (s x : Operand) (t : TypeId)
    (ho : o.op = .call { callee := .builtin .append, args := #[s, x], argTypes := #[t, t] })
    (base : Nat) (e : TypeId) (i : TypeInfo) (z : Value) (size bytes : Nat) (ht : P.underlying t = some (.slice e)) (hi : P.info? e = some i) (hz : i.zero = some z)
    (hsize : i.size = size) (hby : i.bytes = bytes) (hzs : z.cells.size = size) (hsz : 0 < size)
    (v : Value) (n : Nat) (xs : List Value) (hs : a.eval s = v) (hown : w.ownsRow base e size v n xs)
    (ad : Addr) (m c : Nat) (news : List Value) (hx : a.eval x = .slice (some ad) m c) (hl : news.length = m * size) (hnews : ∀ j u, news[j]? = some u → w.cell? (ad.add j) = some u) (h1 : ∀ u ∈ news, u.oneCell' = true)
    (h63 : n + m ≤ maxLen) (hbytes : (n + m) * bytes ≤ 140737488355328) (hbase : base ≤ w.heap.size)
    (h : ∀ v' w', w'.ownsRow base e size v' (n + m) (xs ++ news) → w.grownBy w' v.ownBlock → (v'.ownBlock = v.ownBlock ∨ v'.ownBlock = some w.heap.size) → K (a.put o.dst v') w') : o.wp P a w K Q := by
  obtain ⟨v', w', hr, h2, h3, h4, h5⟩ := run_append_own_at (P := P) w base t o.type e i z size bytes ht hi hz hsize hby hzs hsz v n xs hown ad m c news hl hnews h1 h63 hbytes hbase
  unfold Oper.wp execOp
  simp only [ho, resolve, invoke, builtin, Sem.run_bind, Sem.run_pure, Result.andThen_ok, List.map_toArray, List.map_cons, List.map_nil, hs, hx, hr]
  exact h v' w' h2 h3 h5
/-- an alloc at an operation of a drawn region -/
theorem wp_alloc_as {P : Program} {w : World} {o : Oper} {a : Act} {K : Act → World → Prop} {Q : Exit → Act → World → Prop} (t : TypeId) (ho : o.op = .alloc t) (cs : Array Value)
    (hrun : (Instr.alloc t true (.tuple #[])).run P w = .ok (.pointer (some ⟨w.heap.size, 0, none⟩)) (w.alloc (.cells cs t)))
    (h : K (a.put o.dst (.pointer (some ⟨w.heap.size, 0, none⟩))) (w.alloc (.cells cs t))) : o.wp P a w K Q := by
  unfold Oper.wp execOp
  simp only [ho, Sem.run_bind, hrun, Result.andThen_ok, Sem.run_pure]
  exact h
theorem own_none {a : Option Addr} {n c : Nat} {pb : Nat} (h : ∀ y, a = some y → y.block ≠ pb) : (Value.slice a n c).ownBlock ≠ some pb := by
  cases a with
  | none => simp [Value.ownBlock]
  | some y => simp only [Value.ownBlock]; intro e; injection e with e; exact h y rfl e
theorem far_at {a b : Option Addr} {n c m d : Nat} {w : World} {pb : Nat} (h : (Value.slice b m d).ownBlock = (Value.slice a n c).ownBlock ∨ (Value.slice b m d).ownBlock = some w.heap.size) (hp : pb < w.heap.size) (hv : ∀ y, a = some y → y.block ≠ pb) : ∀ y, b = some y → y.block ≠ pb :=
  own_some (far_next h hp (own_none hv))
theorem row_lo {a : Option Addr} {n c base : Nat} (h : ∀ y, a = some y → base ≤ y.block) : ∀ q, (Value.slice a n c).ownBlock = some q → base ≤ q := fun q hq => by
  cases a with
  | none => simp [Value.ownBlock] at hq
  | some y => simp only [Value.ownBlock] at hq; injection hq with hq; exact hq ▸ h y rfl
theorem row_ne {a : Option Addr} {n c pb : Nat} (h : ∀ y, a = some y → y.block ≠ pb) : ∀ x : Addr, x.block = pb → (Value.slice a n c).ownBlock ≠ some x.block := fun x hx => by rw [hx]; exact own_none h
end Go.Proofs.YtfhknkppiidnkaaGreat
namespace Go.Proofs.YtfhknkppiidnkaaGreat
open Go.RowKit

theorem take_snocp (ps : List (Int × Int)) {k : Nat} (h : k < ps.length) : ps.take k ++ [ps.getD k (0, 0)] = ps.take (k + 1) := by
  rw [List.take_succ_eq_append_getElem h]; simp [List.getD_eq_getElem?_getD, h]
def M.fsts (ps : List (Int × Int)) : List Int := ps.map Prod.fst
def M.snds (ps : List (Int × Int)) : List Int := ps.map Prod.snd
theorem M.fsts_snoc (ps : List (Int × Int)) {k : Nat} (h : k < ps.length) : (M.fsts ps).take k ++ [(ps.getD k (0, 0)).1] = (M.fsts ps).take (k + 1) := by
  unfold M.fsts; rw [← List.map_take, ← List.map_take, ← take_snocp ps h, List.map_append]; rfl
theorem M.snds_snoc (ps : List (Int × Int)) {k : Nat} (h : k < ps.length) : (M.snds ps).take k ++ [(ps.getD k (0, 0)).2] = (M.snds ps).take (k + 1) := by
  unfold M.snds; rw [← List.map_take, ← List.map_take, ← take_snocp ps h, List.map_append]; rfl
theorem M.fsts_len (ps : List (Int × Int)) : (M.fsts ps).length = ps.length := by simp [M.fsts]
theorem M.snds_len (ps : List (Int × Int)) : (M.snds ps).length = ps.length := by simp [M.snds]
def M.zipP (xs ys : List Int) : Nat → List (Int × Int)
  | 0 => []
  | k + 1 => M.zipP xs ys k ++ [(xs.getD k 0, ys.getD k 0)]
theorem M.zipP_len (xs ys : List Int) : ∀ k, (M.zipP xs ys k).length = k
  | 0 => rfl
  | k + 1 => by rw [M.zipP, List.length_append, M.zipP_len xs ys k]; rfl
theorem M.zipP_get (xs ys : List Int) : ∀ {k i : Nat}, i < k → (M.zipP xs ys k).getD i (0, 0) = (xs.getD i 0, ys.getD i 0)
  | k + 1, i, h => by
    rw [M.zipP, List.getD_eq_getElem?_getD]
    by_cases e : i = k
    · subst e
      rw [List.getElem?_append_right (by rw [M.zipP_len]; exact Nat.le_refl _), M.zipP_len, Nat.sub_self]; rfl
    · rw [List.getElem?_append_left (by rw [M.zipP_len]; omega), ← List.getD_eq_getElem?_getD]
      exact M.zipP_get xs ys (by omega)
end Go.Proofs.YtfhknkppiidnkaaGreat
namespace Go.Proofs.YtfhknkppiidnkaaGreat
open Go.RowKit

end Go.Proofs.YtfhknkppiidnkaaGreat
