/- A hall: a market while a call works on it, in blocks of its own. -/
import Derived.Test.YtfhknkppiidnkaaMpA
import Derived.Test.YtfhknkppiidnkaaMkV
import Derived.Maps.AppendAt
namespace Go.Proofs.Ytfhknkppiidnkaa
open Go.RowKit

theorem grown_setCell (w : World) (p : Addr) (v : Value) : w.grownBy (w.setCell p v) (some p.block) :=
  ⟨rfl, rfl, rfl, by simp [World.setCell], fun i _ hi => by
    have he : p.block ≠ i := fun e => hi (by rw [e])
    simp [World.setCell, Array.getElem?_modify, he]⟩
theorem grown_of_belowN {w w' : World} (hb : Below w.heap.size w w') (row : Option Nat) : w.grownBy w' row := ⟨hb.os, hb.tape, hb.output, hb.size, fun k hk _ => hb.block k hk⟩
theorem below_of_grown {w w' : World} {row : Option Nat} {B : Nat} (h : w.grownBy w' row) (hB : B ≤ w.heap.size) (hr : ∀ z, row = some z → B ≤ z) : Below B w w' :=
  ⟨h.os, h.tape, h.output, h.size, fun k hk => h.block k (Nat.lt_of_lt_of_le hk hB) (fun e => absurd (hr k e.symm) (by omega))⟩
theorem step_append_at {P : Program} {ops : Array Oper} {o : Oper} {a : Act} {w : World} {K : Act → World → Prop} {Q : Exit → Act → World → Prop} {E : Prop}
    (hg : o.guard = none) (s x : Operand) (t : TypeId) (hop : o.op = Op.call { callee := Callee.builtin Builtin.append, args := #[s, x], argTypes := #[t, t] })
    (base : Nat) (e : TypeId) (i : TypeInfo) (z : Value) (size bytes : Nat) (ht : P.underlying t = some (.slice e)) (hi : P.info? e = some i) (hz : i.zero = some z) (hsize : i.size = size) (hby : i.bytes = bytes) (hzs : z.cells.size = size) (hsz : 0 < size)
    (v : Value) (n : Nat) (xs : List Value) (hs : a.eval s = v) (hown : w.ownsRow base e size v n xs) (ad : Addr) (m c : Nat) (news : List Value) (hx : a.eval x = .slice (some ad) m c) (hl : news.length = m * size) (hnews : ∀ j u, news[j]? = some u → w.cell? (ad.add j) = some u) (h1 : ∀ u ∈ news, u.oneCell' = true)
    (h63 : n + m ≤ maxLen) (hbytes : (n + m) * bytes ≤ 140737488355328) (hbase : base ≤ w.heap.size)
    (hK : ∀ v' w', w'.ownsRow base e size v' (n + m) (xs ++ news) → w.grownBy w' v.ownBlock → (v'.ownBlock = v.ownBlock ∨ v'.ownBlock = some w.heap.size) → K (a.put o.dst v') w') :
    if Region.wanted o (yielded ops a.tmps) = true then Oper.wp P o a w K Q else E := by
  have hw : Region.wanted o (yielded ops a.tmps) = true := by simp [Region.wanted, hg]
  rw [if_pos hw]
  obtain ⟨v', w', hrun, r1, r2, _, r4⟩ := run_append_own_at (P := P) w base t o.type e i z size bytes ht hi hz hsize hby hzs hsz v n xs hown ad m c news hl hnews h1 h63 hbytes hbase
  unfold Oper.wp
  simp [execOp, hop, resolve, invoke, builtin, hs, hx, hrun, Result.andThen]
  exact hK v' w' r1 r2 r4
/-- the blocks of a slice -/
def ob : Option Addr → List Nat
  | none => []
  | some x => [x.block]
theorem own_ob {a : Option Addr} {n c g : Nat} (h : (Value.slice a n c).ownBlock = some g) : g ∈ ob a := by
  cases a with
  | none => simp [Value.ownBlock] at h
  | some x => simp [Value.ownBlock] at h; simp [ob, h]
theorem ob_own {a : Option Addr} {n c g : Nat} (h : g ∈ ob a) : (Value.slice a n c).ownBlock = some g := by
  cases a with
  | none => simp [ob] at h
  | some x => simp [ob] at h; simp [Value.ownBlock, h]
/-- tasks in a block of their own -/
def OwnsT (w : World) (base : Nat) (a : Option Addr) (n c : Nat) (ts : List M.Tk) : Prop := ts.length = n ∧ w.ownsRow base 53 3 (.slice a n c) n (ts.flatMap tvs)
theorem OwnsT.grown {w w' : World} {base : Nat} {a : Option Addr} {n c : Nat} {ts : List M.Tk} {row : Option Nat} (h : OwnsT w base a n c ts) (hg : w.grownBy w' row) (hr : ∀ g ∈ ob a, row ≠ some g) : OwnsT w' base a n c ts := by
  refine ⟨h.1, h.2.kept hg ?_⟩
  cases e : (Value.slice a n c).ownBlock with
  | none => exact .inl rfl
  | some g => exact .inr (fun e2 => hr g (own_ob e) e2.symm)
theorem OwnsT.lt {w : World} {base : Nat} {a : Option Addr} {n c : Nat} {ts : List M.Tk} (h : OwnsT w base a n c ts) : ∀ g ∈ ob a, base ≤ g ∧ g < w.heap.size := fun g hg => World.ownsRow.lt h.2 g (ob_own hg)
theorem OwnsT.sees {w : World} {base : Nat} {a : Option Addr} {n c : Nat} {ts : List M.Tk} (h : OwnsT w base a n c ts) : SeesT w a n c ts := by
  obtain ⟨hl, h1, h2⟩ := h
  have hx : w.ownsRow base 53 3 (.slice a n c) n (ts.flatMap tvs) := ⟨h1, h2⟩
  rcases h2 with ⟨e, h0⟩ | ⟨g, cap, cur, e, hb, hh, hn, hm, hs, ht⟩
  · simp only [Value.slice.injEq] at e
    obtain ⟨rfl, rfl, rfl⟩ := e
    exact ⟨hl, Nat.le_refl _, by decide, fun _ => ⟨rfl, rfl⟩, .inl rfl⟩
  · simp only [Value.slice.injEq, true_and] at e
    obtain ⟨rfl, rfl⟩ := e
    refine ⟨hl, hn, by unfold maxLen at hm; omega, fun e => by simp at e, ?_⟩
    refine .inr ⟨g, 0, rfl, fun i hi j hj => ?_⟩
    rw [Nat.zero_add, World.ownsRow.cellAt hx (i * 3 + j) (by omega), flat_get tvs_len M.t0 ts (by omega) hj]
theorem OwnsT.form {w : World} {base n : Nat} {v : Value} {ts : List M.Tk} (hl : ts.length = n) (h : w.ownsRow base 53 3 v n (ts.flatMap tvs)) : ∃ a cap, v = .slice a n cap ∧ OwnsT w base a n cap ts := by
  rcases h.2 with ⟨rfl, rfl⟩ | ⟨g, cap, cur, rfl, _⟩
  · exact ⟨none, 0, rfl, hl, h⟩
  · exact ⟨_, cap, rfl, hl, h⟩
/-- a job of a hall: where it lies, and its tasks -/
structure HJ where
  j : M.Jb
  b : Nat
  a : Option Addr
  c : Nat
def HJ.vs (q : HJ) : List Value := jvs q.j q.a q.c
def HJ.ent (q : HJ) : Int × Value := (q.j.id, .pointer (some ⟨q.b, 0, none⟩))
def HJ.bl (q : HJ) : List Nat := q.b :: ob q.a
/-- the jobs of a hall -/
def HallJ (w : World) (base : Nat) (qs : List HJ) : Prop := ∀ q ∈ qs, Lies w q.b q.vs ∧ OwnsT w base q.a q.j.ts.length q.c q.j.ts
theorem HallJ.grown {w w' : World} {base : Nat} {qs : List HJ} {row : Option Nat} (h : HallJ w base qs) (hg : w.grownBy w' row) (hr : ∀ g ∈ qs.flatMap HJ.bl, row ≠ some g) : HallJ w' base qs := fun q hq => by
  have hm : ∀ g ∈ q.bl, row ≠ some g := fun g hg => hr g (List.mem_flatMap.2 ⟨q, hq, hg⟩)
  exact ⟨(h q hq).1.grown hg (hm q.b (by simp [HJ.bl])), (h q hq).2.grown hg fun g hg => hm g (by simp [HJ.bl, hg])⟩
def bls (h mb : Nat) (ab ai : Option Addr) (qs : List HJ) : List Nat := h :: mb :: (ob ab ++ (ob ai ++ qs.flatMap HJ.bl))
/-- a hall -/
structure Hall (w : World) (base h : Nat) (now next : Int) (ab : Option Addr) (nb cb : Nat) (bs : List Int) (ai : Option Addr) (ni ci : Nat) (mb : Nat) (qs : List HJ) : Prop where
  l : Lies w h [.int .i64 now, .int .i64 next, .slice ab nb cb, .slice ai ni ci, .map (some mb)]
  b : Owns 2 w base ab nb cb bs
  i : Owns 2 w base ai ni ci (qs.map (·.j.id))
  m : IsMap w mb (qs.map HJ.ent)
  j : HallJ w base qs
  d : (bls h mb ab ai qs).Nodup
  lo : ∀ g ∈ bls h mb ab ai qs, base ≤ g
theorem Owns.grown {w w' : World} {base : Nat} {a : Option Addr} {n c : Nat} {zs : List Int} {row : Option Nat} {t : TypeId} (h : Owns t w base a n c zs) (hg : w.grownBy w' row) (hr : ∀ g ∈ ob a, row ≠ some g) : Owns t w' base a n c zs := by
  refine World.ownsRow.kept h hg ?_
  cases e : (Value.slice a n c).ownBlock with
  | none => exact .inl rfl
  | some g => exact .inr (fun e2 => hr g (own_ob e) e2.symm)
section
variable {w w' : World} {base h : Nat} {now next : Int} {ab : Option Addr} {nb cb : Nat} {bs : List Int} {ai : Option Addr} {ni ci : Nat} {mb : Nat} {qs : List HJ}
theorem Hall.grown {row : Option Nat} (H : Hall w base h now next ab nb cb bs ai ni ci mb qs) (hg : w.grownBy w' row) (hr : ∀ g ∈ bls h mb ab ai qs, row ≠ some g) : Hall w' base h now next ab nb cb bs ai ni ci mb qs :=
  ⟨H.l.grown hg (hr h (by simp [bls])), H.b.grown hg fun g hg => hr g (by simp [bls, hg]), H.i.grown hg fun g hg => hr g (by simp [bls, hg]), H.m.grown hg (hr mb (by simp [bls])), H.j.grown hg fun g hg => hr g (by unfold bls; simp only [List.mem_cons, List.mem_append]; exact .inr (.inr (.inr (.inr hg)))), H.d, H.lo⟩
theorem Hall.below (H : Hall w base h now next ab nb cb bs ai ni ci mb qs) (hb : Below w.heap.size w w') : Hall w' base h now next ab nb cb bs ai ni ci mb qs := H.grown (grown_of_belowN hb none) (fun _ _ => by simp)
theorem Hall.lt (H : Hall w base h now next ab nb cb bs ai ni ci mb qs) : ∀ g ∈ bls h mb ab ai qs, g < w.heap.size := by
  intro g hg
  unfold bls at hg
  simp only [List.mem_cons, List.mem_append] at hg
  rcases hg with rfl | rfl | hg | hg | hg
  · exact H.l.2.2
  · exact H.m.lt
  · exact (World.ownsRow.lt H.b g (ob_own hg)).2
  · exact (World.ownsRow.lt H.i g (ob_own hg)).2
  · obtain ⟨q, hq, hg⟩ := List.mem_flatMap.1 hg
    simp only [HJ.bl, List.mem_cons] at hg
    rcases hg with rfl | hg
    · exact (H.j q hq).1.2.2
    · exact ((H.j q hq).2.lt g hg).2
/-- which blocks are unlike -/
theorem bls_nodup : (bls h mb ab ai qs).Nodup ↔ (h ≠ mb ∧ h ∉ ob ab ∧ h ∉ ob ai ∧ h ∉ qs.flatMap HJ.bl) ∧ (mb ∉ ob ab ∧ mb ∉ ob ai ∧ mb ∉ qs.flatMap HJ.bl) ∧ (∀ g ∈ ob ab, g ∉ ob ai ∧ g ∉ qs.flatMap HJ.bl) ∧ (∀ g ∈ ob ai, g ∉ qs.flatMap HJ.bl) ∧ (qs.flatMap HJ.bl).Nodup := by
  have h1 : ∀ a : Option Addr, (ob a).Nodup := fun a => by cases a <;> simp [ob]
  unfold bls
  rw [List.nodup_cons, List.nodup_cons, List.nodup_append, List.nodup_append]
  simp only [List.mem_cons, List.mem_append, not_or]
  constructor
  · rintro ⟨⟨a1, a2, a3, a4⟩, ⟨b2, b3, b4⟩, _, ⟨_, c1, c2⟩, c3⟩
    exact ⟨⟨a1, a2, a3, a4⟩, ⟨b2, b3, b4⟩, fun g hg => ⟨fun e => c3 g hg g (.inl e) rfl, fun e => c3 g hg g (.inr e) rfl⟩, fun g hg e => c2 g hg g e rfl, c1⟩
  · rintro ⟨⟨a1, a2, a3, a4⟩, ⟨b2, b3, b4⟩, c3, c2, c1⟩
    exact ⟨⟨a1, a2, a3, a4⟩, ⟨b2, b3, b4⟩, h1 _, ⟨h1 _, c1, fun g hg g' hg' e => c2 g hg (e ▸ hg')⟩, fun g hg g' hg' e => hg'.elim (fun x => (c3 g hg).1 (e ▸ x)) (fun x => (c3 g hg).2 (e ▸ x))⟩
end
theorem cutK {P G : Prop} (f : Key P → G) (h : P) : G := f ⟨h⟩
theorem Hall.entered {w1 w7 w8 w9 : World} {base h : Nat} {now next : Int} {ab : Option Addr} {nb cb : Nat} {bs : List Int} {ai : Option Addr} {ni ci : Nat} {mb : Nat} {qs : List HJ} (H : Hall w1 base h now next ab nb cb bs ai ni ci mb qs) (q : HJ)
    (hJ : Lies w1 q.b q.vs) (hT : OwnsT w1 base q.a q.j.ts.length q.c q.j.ts) (hqb : q.b ∉ bls h mb ab ai qs) (hqa : ∀ g ∈ ob q.a, g ∉ bls h mb ab ai qs) (hqq : q.b ∉ ob q.a) (hql : base ≤ q.b)
    {ai' : Option Addr} {ci' z : Nat} (g7 : w1.grownBy w7 (Value.slice ai ni ci).ownBlock) (o7 : Owns 2 w7 base ai' (ni + 1) ci' (qs.map (fun q : HJ => q.j.id) ++ [q.j.id])) (hz : w1.heap.size ≤ z)
    (a7 : (Value.slice ai' (ni + 1) ci').ownBlock = (Value.slice ai ni ci).ownBlock ∨ (Value.slice ai' (ni + 1) ci').ownBlock = some z)
    (g8 : w7.grownBy w8 (some h)) (l8 : Lies w8 h [.int .i64 now, .int .i64 next, .slice ab nb cb, .slice ai' (ni + 1) ci', .map (some mb)]) (g9 : w8.grownBy w9 (some mb)) (m9 : IsMap w9 mb (qs.map HJ.ent ++ [q.ent])) :
    Hall w9 base h now next ab nb cb bs ai' (ni + 1) ci' mb (qs ++ [q]) := by
  obtain ⟨⟨hm, hab, hai, hjs⟩, ⟨mab, mai, mjs⟩, dab, dai, djs⟩ := bls_nodup.1 H.d
  have lt1 := H.lt
  have sj : ∀ {g}, g ∈ qs.flatMap HJ.bl → g ∈ bls h mb ab ai qs := fun {g} hg => by unfold bls; simp only [List.mem_cons, List.mem_append]; exact .inr (.inr (.inr (.inr hg)))
  have sb : ∀ {g}, g ∈ ob ab → g ∈ bls h mb ab ai qs := fun {g} hg => by simp [bls, hg]
  have si : ∀ {g}, g ∈ ob ai → g ∈ bls h mb ab ai qs := fun {g} hg => by simp [bls, hg]
  have sh : h ∈ bls h mb ab ai qs := by simp [bls]
  have sm : mb ∈ bls h mb ab ai qs := by simp [bls]
  have ha : ∀ {g}, g ∈ ob ai' → g ∈ ob ai ∨ w1.heap.size ≤ g := fun {g} hg => by
    have e := ob_own (n := ni + 1) (c := ci') hg
    rcases a7 with e2 | e2
    · exact .inl (own_ob (e2.symm.trans e))
    · rw [e2] at e; injection e with e; exact .inr (by omega)
  have old : ∀ {g}, g ∈ bls h mb ab ai qs → g ∉ ob ai → g ∉ ob ai' := fun {g} hg hn hi => by
    rcases ha hi with h1 | h1
    · exact hn h1
    · have := lt1 g hg; omega
  have qlt : q.b < w1.heap.size := hJ.2.2
  have qalt : ∀ g ∈ ob q.a, g < w1.heap.size := fun g hg => (hT.lt g hg).2
  have nsome : ∀ {a b : Nat}, a ≠ b → some a ≠ some b := fun hne e => hne (Option.some.inj e)
  have n7 : ∀ {g}, g ∉ ob ai → (Value.slice ai ni ci).ownBlock ≠ some g := fun hn e => hn (own_ob e)
  have neq : ∀ {x g : Nat}, x ∈ bls h mb ab ai qs → g ∉ bls h mb ab ai qs → x ≠ g := fun hx hg e => hg (e ▸ hx)
  have qi : q.b ∉ ob ai' := fun hi => (ha hi).elim (fun h1 => hqb (si h1)) (fun h1 => by omega)
  have qai : ∀ g ∈ ob q.a, g ∉ ob ai' := fun g hg hi => (ha hi).elim (fun h1 => hqa g hg (si h1)) (fun h1 => by have := qalt g hg; omega)
  have fm : ∀ {g}, g ∈ (qs ++ [q]).flatMap HJ.bl ↔ g ∈ qs.flatMap HJ.bl ∨ g = q.b ∨ g ∈ ob q.a := fun {g} => by simp [List.flatMap_append, HJ.bl]
  refine ⟨l8.grown g9 (nsome hm.symm), ?_, ?_, ?_, ?_, ?_, ?_⟩
  · exact ((H.b.grown g7 fun g hg => n7 (dab g hg).1).grown g8 fun g hg => nsome fun e => hab (e ▸ hg)).grown g9 fun g hg => nsome fun e => mab (e ▸ hg)
  · rw [List.map_append]
    exact (o7.grown g8 fun g hg => nsome fun e => old sh hai (e ▸ hg)).grown g9 fun g hg => nsome fun e => old sm mai (e ▸ hg)
  · rw [List.map_append]; exact m9
  · intro x hx
    rcases List.mem_append.1 hx with hx | hx
    · have := ((H.j.grown g7 fun g hg => n7 fun e => dai g e hg).grown g8 fun g hg => nsome fun e => hjs (e ▸ hg)).grown g9 fun g hg => nsome fun e => mjs (e ▸ hg)
      exact this x hx
    · simp only [List.mem_singleton] at hx
      subst hx
      exact ⟨((hJ.grown g7 (n7 fun e => hqb (si e))).grown g8 (nsome (neq sh hqb))).grown g9 (nsome (neq sm hqb)), ((hT.grown g7 fun g hg => n7 fun e => hqa g hg (si e)).grown g8 fun g hg => nsome (neq sh (hqa g hg))).grown g9 fun g hg => nsome (neq sm (hqa g hg))⟩
  · refine bls_nodup.2 ⟨⟨hm, hab, old sh hai, fun e => ?_⟩, ⟨mab, old sm mai, fun e => ?_⟩, fun g hg => ⟨old (sb hg) (dab g hg).1, fun e => ?_⟩, fun g hg e => ?_, ?_⟩
    · rcases fm.1 e with e | e | e
      · exact hjs e
      · exact neq sh hqb e
      · exact hqa _ e sh
    · rcases fm.1 e with e | e | e
      · exact mjs e
      · exact neq sm hqb e
      · exact hqa _ e sm
    · rcases fm.1 e with e | e | e
      · exact (dab g hg).2 e
      · exact hqb (e ▸ sb hg)
      · exact hqa _ e (sb hg)
    · rcases fm.1 e with e | e | e
      · exact old (sj e) (fun h1 => dai g h1 e) hg
      · exact qi (e ▸ hg)
      · exact qai g e hg
    · rw [List.flatMap_append, List.nodup_append]
      refine ⟨djs, ?_, ?_⟩
      · have h1 : (ob q.a).Nodup := by cases q.a <;> simp [ob]
        simp only [List.flatMap_cons, List.flatMap_nil, List.append_nil, HJ.bl, List.nodup_cons]
        exact ⟨hqq, h1⟩
      · intro g hg g' hg' e
        subst e
        simp only [List.flatMap_cons, List.flatMap_nil, List.append_nil, HJ.bl, List.mem_cons] at hg'
        rcases hg' with e | e
        · exact hqb (e ▸ sj hg)
        · exact hqa _ e (sj hg)
  · intro g hg
    unfold bls at hg
    simp only [List.mem_cons, List.mem_append] at hg
    rcases hg with rfl | rfl | hg | hg | hg
    · exact H.lo _ sh
    · exact H.lo _ sm
    · exact H.lo _ (sb hg)
    · exact (World.ownsRow.lt o7 g (ob_own hg)).1
    · rcases fm.1 hg with e | e | e
      · exact H.lo _ (sj e)
      · exact e ▸ hql
      · exact (hT.lt g e).1
/-- what the map tells of a job -/
theorem look_ents (id : Int) : ∀ qs : List HJ, look id (qs.map HJ.ent) = (qs.find? (fun q => id == q.j.id)).map fun q => .pointer (some ⟨q.b, 0, none⟩)
  | [] => rfl
  | q :: qs => by
    rw [List.map_cons, List.find?_cons]
    show (if id = q.j.id then _ else _) = _
    by_cases e : id = q.j.id
    · rw [if_pos e, show (id == q.j.id) = true by simp [e]]; rfl
    · rw [if_neg e, show (id == q.j.id) = false by simp [e]]; exact look_ents id qs
end Go.Proofs.Ytfhknkppiidnkaa
