/- What is kept while one block is written: lemmas on 'grownBy', for regions that draw their order and for loops beside a slice that was made first. Lists of pairs taken apart and put together, in the program. Pairs: one less another, and both times an element. -/
import Derived.Test.YtbcfjbkmkknmfaaGreatDoorLiA
import Derived.Test.YtbcfjbkmkknmfaaGreatDoorSlF
import Derived.Test.YtbcfjbkmkknmfaaGreatDoorMaP
import Derived.Test.YtbcfjbkmkknmfaaGreatDoorMaF
import Derived.Test.YtbcfjbkmkknmfaaGreatDoorSlH
import Derived.Test.YtbcfjbkmkknmfaaGreatDoorMaJ
namespace Go.Proofs.YtbcfjbkmkknmfaaGreatDoor
open Go.RowKit

theorem cutKey {P G : Prop} (f : P → G) (h : P) : G := f h
theorem grown_of_below {w w' : World} (h : Below w.heap.size w w') (row : Option Nat) : w.grownBy w' row := ⟨h.os, h.tape, h.output, h.size, fun k hk _ => h.block k hk⟩
theorem grown_drew (w : World) (row : Option Nat) : w.grownBy w.drew row := grown_of_below (Below.refl _ _).drew row
theorem grown_step {a w w' : World} {row : Option Nat} (h : a.grownBy w row) (hb : Below w.heap.size w w') : a.grownBy w' row :=
  h.trans (grown_of_below hb row)
theorem grown_cells {a w : World} {b : Nat} (h : a.grownBy w (some b)) (o : Nat) (us : List Value) : a.grownBy (w.setCells b o us) (some b) := by
  have hz : ∀ (us : List Value) (w : World) (o : Nat), w.grownBy (w.setCells b o us) (some b) := by
    intro us
    induction us with
    | nil => exact fun w _ => World.grownBy.refl w _
    | cons u us ih =>
      intro w o
      have h1 : w.grownBy (w.setCell ⟨b, o, none⟩ u) (some b) := ⟨rfl, rfl, rfl, by simp [World.setCell], fun k _ hk => Below.heap_setCell w _ u k (fun e => hk (by rw [e]))⟩
      exact h1.trans (ih _ _)
  exact h.trans (hz us w o)
theorem Sees.grownR {w w' : World} {a : Option Addr} {n cap : Nat} {zs : List Int} {row : Option Nat} (h : Sees w a n cap zs) (hg : w.grownBy w' row) (hr : ∀ x, a = some x → row ≠ some x.block) : Sees w' a n cap zs :=
  h.of_cells fun p _ hp ⟨x, hx, he⟩ => hg.cell hp (fun e => hr x hx (by rw [he, e]))
theorem Owns.grownR.lt_of_heap {w : World} {g : Nat} {o : Obj} (h : w.heap[g]? = some o) : g < w.heap.size := by
  rcases Nat.lt_or_ge g w.heap.size with h' | h'
  · exact h'
  · rw [Array.getElem?_eq_none h'] at h; cases h
theorem Owns.grownR {t : TypeId} {w w' : World} {base : Nat} {a : Option Addr} {n cap : Nat} {zs : List Int} {row : Option Nat} (h : Owns t w base a n cap zs) (hg : w.grownBy w' row) (hr : ∀ x, a = some x → row ≠ some x.block) : Owns t w' base a n cap zs := by
  refine ⟨h.1, ?_⟩
  rcases h.2 with e | ⟨g, cp, cur, e, hb, hc, r⟩
  · exact .inl e
  · refine .inr ⟨g, cp, cur, e, hb, ?_, r⟩
    have hx : a = some ⟨g, 0, none⟩ := by injection e
    rw [hg.block g (Owns.grownR.lt_of_heap hc) (fun e2 => hr _ hx e2.symm)]
    exact hc
theorem OwnsQ.grownR {t : TypeId} {w w' : World} {base : Nat} {a : Option Addr} {n cap : Nat} {ps : List (Int × Int)} {row : Option Nat} (h : OwnsQ t w base a n cap ps) (hg : w.grownBy w' row) (hr : ∀ x, a = some x → row ≠ some x.block) : OwnsQ t w' base a n cap ps := by
  refine ⟨h.1, h.2.1, ?_⟩
  rcases h.2.2 with e | ⟨g, cp, cur, e, hb, hc, r⟩
  · exact .inl e
  · refine .inr ⟨g, cp, cur, e, hb, ?_, r⟩
    have hx : a = some ⟨g, 0, none⟩ := by injection e
    rw [hg.block g (Owns.grownR.lt_of_heap hc) (fun e2 => hr _ hx e2.symm)]
    exact hc
theorem SeesQ.grownR {w w' : World} {a : Option Addr} {n c : Nat} {ps : List (Int × Int)} {row : Option Nat} (h : SeesQ w a n c ps) (hg : w.grownBy w' row) (hr : ∀ x, a = some x → row ≠ some x.block) : SeesQ w' a n c ps := by
  refine ⟨h.len, h.le, h.big, h.no, ?_⟩
  rcases h.pos with e | ⟨b, off, e, hb⟩
  · exact .inl e
  · exact .inr ⟨b, off, e, fun i hi => ⟨hg.cell (hb i hi).1 (fun e2 => hr _ e e2.symm), hg.cell (hb i hi).2 (fun e2 => hr _ e e2.symm)⟩⟩
theorem far_next {v v' : Value} {w : World} {pb : Nat} (h : v'.ownBlock = v.ownBlock ∨ v'.ownBlock = some w.heap.size) (hp : pb < w.heap.size) (hv : v.ownBlock ≠ some pb) : v'.ownBlock ≠ some pb := by
  rcases h with e | e
  · rw [e]; exact hv
  · rw [e]; intro e2; injection e2 with e3; omega
theorem own_some {a : Option Addr} {n c b : Nat} (h : (Value.slice a n c).ownBlock ≠ some b) : ∀ x, a = some x → x.block ≠ b := fun x hx e => h (by subst hx; simp [Value.ownBlock, e])
theorem grown_far {a w : World} {row : Option Nat} {b : Nat} (h : a.grownBy w row) (hb : a.heap.size ≤ b) (o : Nat) (us : List Value) : a.grownBy (w.setCells b o us) row := by
  have hz : ∀ (us : List Value) (w : World) (o : Nat), a.grownBy w row → a.grownBy (w.setCells b o us) row := by
    intro us
    induction us with
    | nil => exact fun _ _ h => h
    | cons u us ih =>
      intro w o h
      refine ih _ _ ⟨h.os, h.tape, h.output, by have := h.size; simpa [World.setCell] using this, fun k hk hr => ?_⟩
      rw [Below.heap_setCell w ⟨b, o, none⟩ u k (fun e => by have : k = b := e; omega)]
      exact h.block k hk hr
  exact hz us w o h
theorem grown_alloc {a w : World} {row : Option Nat} (h : a.grownBy w row) (o : Obj) : a.grownBy (w.alloc o) row := h.trans (World.grownBy_alloc w o row)
/-- append at an operation of a drawn region, with the place of the new slice -/
theorem wp_append_at {P : Program} {w : World} {o : Oper} {a : Act} {K : Act → World → Prop} {Q : Exit → Act → World → Prop} (s x : Operand) (t : TypeId)
    (ho : o.op = .call { callee := .builtin .append, args := #[s, x], argTypes := #[t, t] })
    (base : Nat) (e : TypeId) (i : TypeInfo) (z : Value) (size bytes : Nat) (ht : P.underlying t = some (.slice e)) (hi : P.info? e = some i) (hz : i.zero = some z)
    (hsize : i.size = size) (hby : i.bytes = bytes) (hzs : z.cells.size = size) (hsz : 0 < size)
    (v : Value) (n : Nat) (xs : List Value) (hs : a.eval s = v) (hown : w.ownsRow base e size v n xs)
    (ad : Addr) (m c : Nat) (news : List Value) (hx : a.eval x = .slice (some ad) m c) (hl : news.length = m * size) (hnews : ∀ j u, news[j]? = some u → w.cell? (ad.add j) = some u) (h1 : ∀ u ∈ news, u.oneCell' = true)
    (h63 : n + m ≤ maxLen) (hbytes : (n + m) * bytes ≤ 140737488355328) (hbase : base ≤ w.heap.size)
    (h : ∀ v' w', w'.ownsRow base e size v' (n + m) (xs ++ news) → w.grownBy w' v.ownBlock → (v'.ownBlock = v.ownBlock ∨ v'.ownBlock = some w.heap.size) → K (a.put o.dst v') w') : o.wp P a w K Q := by
  obtain ⟨v', w', hr, h2, h3, h4, h5⟩ := run_append_own_at (P := P) w base t o.type e i z size bytes ht hi hz hsize hby hzs hsz v n xs hown ad m c news hl hnews h1 h63 hbytes hbase
  unfold Oper.wp execOp
  simp only [ho, resolve, invoke, builtin, Sem.run_bind, Sem.run_pure, Result.andThen_ok, List.map_toArray, List.map_cons, List.map_nil, hs, hx, hr]
  exact h v' w' h2 h3 h5
/-- an alloc at an operation of a drawn region -/
theorem wp_alloc_as {P : Program} {w : World} {o : Oper} {a : Act} {K : Act → World → Prop} {Q : Exit → Act → World → Prop} (t : TypeId) (ho : o.op = .alloc t) (cs : Array Value)
    (hrun : (Instr.alloc t true (.tuple #[])).run P w = .ok (.pointer (some ⟨w.heap.size, 0, none⟩)) (w.alloc (.cells cs t)))
    (h : K (a.put o.dst (.pointer (some ⟨w.heap.size, 0, none⟩))) (w.alloc (.cells cs t))) : o.wp P a w K Q := by
  unfold Oper.wp execOp
  simp only [ho, Sem.run_bind, hrun, Result.andThen_ok, Sem.run_pure]
  exact h
theorem own_none {a : Option Addr} {n c : Nat} {pb : Nat} (h : ∀ y, a = some y → y.block ≠ pb) : (Value.slice a n c).ownBlock ≠ some pb := by
  cases a with
  | none => simp [Value.ownBlock]
  | some y => simp only [Value.ownBlock]; intro e; injection e with e; exact h y rfl e
theorem far_at {a b : Option Addr} {n c m d : Nat} {w : World} {pb : Nat} (h : (Value.slice b m d).ownBlock = (Value.slice a n c).ownBlock ∨ (Value.slice b m d).ownBlock = some w.heap.size) (hp : pb < w.heap.size) (hv : ∀ y, a = some y → y.block ≠ pb) : ∀ y, b = some y → y.block ≠ pb :=
  own_some (far_next h hp (own_none hv))
end Go.Proofs.YtbcfjbkmkknmfaaGreatDoor
namespace Go.Proofs.YtbcfjbkmkknmfaaGreatDoor
open Go.RowKit

theorem take_snocp (ps : List (Int × Int)) {k : Nat} (h : k < ps.length) : ps.take k ++ [ps.getD k (0, 0)] = ps.take (k + 1) := by
  rw [List.take_succ_eq_append_getElem h]; simp [List.getD_eq_getElem?_getD, h]
def M.fsts (ps : List (Int × Int)) : List Int := ps.map Prod.fst
def M.snds (ps : List (Int × Int)) : List Int := ps.map Prod.snd
theorem M.fsts_snoc (ps : List (Int × Int)) {k : Nat} (h : k < ps.length) : (M.fsts ps).take k ++ [(ps.getD k (0, 0)).1] = (M.fsts ps).take (k + 1) := by
  unfold M.fsts; rw [← List.map_take, ← List.map_take, ← take_snocp ps h, List.map_append]; rfl
theorem M.snds_snoc (ps : List (Int × Int)) {k : Nat} (h : k < ps.length) : (M.snds ps).take k ++ [(ps.getD k (0, 0)).2] = (M.snds ps).take (k + 1) := by
  unfold M.snds; rw [← List.map_take, ← List.map_take, ← take_snocp ps h, List.map_append]; rfl
theorem M.fsts_len (ps : List (Int × Int)) : (M.fsts ps).length = ps.length := by simp [M.fsts]
theorem M.snds_len (ps : List (Int × Int)) : (M.snds ps).length = ps.length := by simp [M.snds]
set_option maxHeartbeats 2000000 in
theorem xs1_any {a : Option Addr} {n cap base : Nat} {zs : List Int} (s : Int × Int) (w : World) (ho : Owns 73 w base a n cap zs) (hb : base ≤ w.heap.size) (hn : n ≤ 2000) :
    Calls Tryz.prog 91 #[.slice a n cap, stv s] w fun e w' => ∃ a' cap', e = .returned (.slice a' (n + 1) cap') ∧ Owns 73 w' base a' (n + 1) cap' (zs ++ [s.1]) ∧ Below base w w' := by
  have HO : Hid (Owns 73 w base a n cap zs) := ho
  obtain ⟨i0, hi, hz0, hz1, hz2⟩ := info_parts info_el
  have HI : Hid (Tryz.prog.info? 73 = some i0 ∧ i0.zero = some (Value.int .i64 0) ∧ i0.size = 1 ∧ i0.bytes = 8) := ⟨hi, hz0, hz1, hz2⟩
  clear ho hi hz0 hz1 hz2
  obtain ⟨x, y⟩ := s
  dsimp only [stv]
  have HB1 : Hid (Below base w (w.alloc (.cells #[.int .i64 x, .int .i64 y] 75))) := (Below.refl _ _).alloc hb _
  have HO1 : Hid (Owns 73 (w.alloc (.cells #[.int .i64 x, .int .i64 y] 75)) base a n cap zs) := HO.out.below ((Below.refl _ _).alloc (Nat.le_refl _) _)
  go_enter Tryz.func91, Tryz.ntmps91
  go_wp2_with (at_builtin; refine wpList_append_own _ rfl _ _ 89 rfl base 73 i0 (.int .i64 0) 1 8 Tryz.underlying89 HI.out.1 HI.out.2.1 HI.out.2.2.1 HI.out.2.2.2 rfl (by decide) _ n (zs.map (Value.int .i64)) rfl (World.ownsRow.alloc HO1.out _) ⟨(w.alloc (.cells #[.int .i64 x, .int .i64 y] 75)).heap.size, 0, none⟩ 1 1 [.int .i64 x] (by simp [Act.eval]) rfl (cell_one _ _ _) (one_int _) (by unfold maxLen; omega) (by omega) (by simp; omega) ?_)
  intro v' w4 hown hgrow _
  have hown' : w4.ownsRow base 73 1 v' (n + 1) ((zs ++ [x]).map (Value.int .i64)) := by rw [List.map_append]; exact hown
  obtain ⟨b4, c4, rfl, ho4⟩ := Owns.form hown'
  have HO4 : Hid (Owns 73 w4 base b4 (n + 1) c4 (zs ++ [x])) := ho4
  have HB4 : Hid (Below base w w4) := (HB1.out.alloc (by simp; omega) _).grown hgrow (by simp; omega) HO1.out.row
  clear hown hown' hgrow ho4
  go_wp2
  go_ret
  exact ⟨b4, c4, rfl, HO4.out, HB4.out⟩
set_option maxHeartbeats 2000000 in
theorem foldXs_any {a b : Option Addr} {n c cap : Nat} {ps : List (Int × Int)} (w0 w : World) (hz : SeesQ w0 a n c ps) (hbl : Below w0.heap.size w0 w) (ho : Owns 73 w w0.heap.size b 0 cap []) (hn : n ≤ 1001) :
    Calls Tryz.prog 90 #[.slice a n c, .slice b 0 cap, .func (.func 91) #[] #[]] w fun e w' => ∃ a' cap', e = .returned (.slice a' n cap') ∧ Owns 73 w' w0.heap.size a' n cap' (M.fsts ps) ∧ Below w0.heap.size w0 w' := by
  have HZ : Hid (SeesQ w0 a n c ps) := hz
  have HBl : Hid (Below w0.heap.size w0 w) := hbl
  have HO : Hid (Owns 73 w w0.heap.size b 0 cap ((M.fsts ps).take 0)) := ho
  clear hz hbl ho
  go_enter Tryz.func90, Tryz.ntmps90
  go_wp2
  go_loopw [1, 11] (fun s i wr => ∃ (k : Nat) (a' : Option Addr) (cap' : Nat), k ≤ n ∧ i = .int .i64 k ∧ s = .slice a' k cap' ∧ Owns 73 wr w0.heap.size a' k cap' ((M.fsts ps).take k) ∧ Below w0.heap.size w0 wr) (fun _ i _ => n - (intOf i).toNat)
  case atStart => exact ⟨0, _, _, by omega, rfl, rfl, HO.out, HBl.out⟩
  case round =>
    obtain ⟨k, a', cap', hk, rfl, rfl, ho1, hb1⟩ := hrel
    have HO1 : Hid (Owns 73 wr w0.heap.size a' k cap' ((M.fsts ps).take k)) := ho1
    have HB1 : Hid (Below w0.heap.size w0 wr) := hb1
    clear ho1 hb1 HO HBl
    by_cases hlt : k < n
    · obtain ⟨b1, o1, rfl, hc1⟩ := (HZ.out.below HB1.out).at (by omega)
      obtain ⟨e1, e2⟩ := hc1 k hlt
      have hI : (k : Int) < (n : Int) := by omega
      have HS : Hid ((M.fsts ps).take k ++ [(ps.getD k (0, 0)).1] = (M.fsts ps).take (k + 1)) := M.fsts_snoc ps (by rw [HZ.out.len]; exact hlt)
      clear hc1
      generalize ps.getD k (0, 0) = q at e1 e2 HS
      have C1 := xs1_any (a := a') (n := k) (cap := cap') (base := w0.heap.size) (zs := (M.fsts ps).take k) q
      obtain ⟨x, y⟩ := q
      dsimp only [stv] at C1 e1 e2
      have HC1 : Hid _ := C1
      clear C1
      go_wp2_with fail
      refine (HC1.out _ (HO1.out.below ((Below.refl _ _).alloc (Nat.le_refl _) _)) (by have := HB1.out.size; simp; omega) (by omega)).mono ?_
      rintro e w4 ⟨b4, c4, rfl, ho4, hb4⟩
      have HO4 : Hid (Owns 73 w4 w0.heap.size b4 (k + 1) c4 ((M.fsts ps).take (k + 1))) := by
        show Owns _ _ _ _ _ _ _
        rw [← HS.out]; exact ho4
      have HB4 : Hid (Below w0.heap.size w0 w4) := (HB1.out.alloc HB1.out.size _).trans hb4
      clear ho4 hb4
      go_wp2
      go_roundw
      case rel => exact ⟨k + 1, b4, c4, by omega, by go_num, rfl, HO4.out, HB4.out⟩
      case measure => simp [intOf]; omega
    · have hkn : k = n := by omega
      subst hkn
      go_wp2
      go_ret
      refine ⟨a', cap', rfl, ?_, HB1.out⟩
      have := HO1.out
      rw [List.take_of_length_le (by rw [M.fsts_len, HZ.out.len]; exact Nat.le_refl _)] at this
      exact this
set_option maxHeartbeats 1000000 in
theorem xsOf_any {a : Option Addr} {n c : Nat} {ps : List (Int × Int)} (w : World) (hz : SeesQ w a n c ps) (hn : n ≤ 1001) :
    Calls Tryz.prog 40 #[.slice a n c] w fun e w' => ∃ a' cap', e = .returned (.slice a' n cap') ∧ Owns 73 w' w.heap.size a' n cap' (M.fsts ps) ∧ Below w.heap.size w w' := by
  have HZ : Hid (SeesQ w a n c ps) := hz
  obtain ⟨i0, hi, hz0, hz1, hz2⟩ := info_parts info_el
  clear hz
  go_enter Tryz.func40, Tryz.ntmps40
  go_wp2_with (at_make; refine wpList_make_own _ rfl _ _ 89 rfl w.heap.size 73 i0 (.int .i64 0) 1 Tryz.underlying89 hi hz0 hz1 .i64 .i64 _ n rfl rfl rfl (by rw [hz2]; omega) (by unfold maxLen; omega) (Nat.le_refl _) ?_)
  intro w1 hown hg
  have HO : Hid (Owns 73 w1 w.heap.size (some ⟨w.heap.size, 0, none⟩) 0 n []) := hown
  have HB : Hid (Below w.heap.size w w1) := below_grown hg
  clear hown hg hi hz0 hz1 hz2
  go_wp2_with fail
  refine (foldXs_any w w1 HZ.out HB.out HO.out hn).mono ?_
  rintro e w2 ⟨a2, c2, rfl, ho2, hb2⟩
  have HO2 : Hid (Owns 73 w2 w.heap.size a2 n c2 (M.fsts ps)) := ho2
  have HB2 : Hid (Below w.heap.size w w2) := hb2
  clear ho2 hb2
  go_wp2
  go_ret
  exact ⟨a2, c2, rfl, HO2.out, HB2.out⟩
set_option maxHeartbeats 2000000 in
theorem ys1_any {a : Option Addr} {n cap base : Nat} {zs : List Int} (s : Int × Int) (w : World) (ho : Owns 73 w base a n cap zs) (hb : base ≤ w.heap.size) (hn : n ≤ 2000) :
    Calls Tryz.prog 92 #[.slice a n cap, stv s] w fun e w' => ∃ a' cap', e = .returned (.slice a' (n + 1) cap') ∧ Owns 73 w' base a' (n + 1) cap' (zs ++ [s.2]) ∧ Below base w w' := by
  have HO : Hid (Owns 73 w base a n cap zs) := ho
  obtain ⟨i0, hi, hz0, hz1, hz2⟩ := info_parts info_el
  have HI : Hid (Tryz.prog.info? 73 = some i0 ∧ i0.zero = some (Value.int .i64 0) ∧ i0.size = 1 ∧ i0.bytes = 8) := ⟨hi, hz0, hz1, hz2⟩
  clear ho hi hz0 hz1 hz2
  obtain ⟨x, y⟩ := s
  dsimp only [stv]
  have HB1 : Hid (Below base w (w.alloc (.cells #[.int .i64 x, .int .i64 y] 75))) := (Below.refl _ _).alloc hb _
  have HO1 : Hid (Owns 73 (w.alloc (.cells #[.int .i64 x, .int .i64 y] 75)) base a n cap zs) := HO.out.below ((Below.refl _ _).alloc (Nat.le_refl _) _)
  go_enter Tryz.func92, Tryz.ntmps92
  go_wp2_with (at_builtin; refine wpList_append_own _ rfl _ _ 89 rfl base 73 i0 (.int .i64 0) 1 8 Tryz.underlying89 HI.out.1 HI.out.2.1 HI.out.2.2.1 HI.out.2.2.2 rfl (by decide) _ n (zs.map (Value.int .i64)) rfl (World.ownsRow.alloc HO1.out _) ⟨(w.alloc (.cells #[.int .i64 x, .int .i64 y] 75)).heap.size, 0, none⟩ 1 1 [.int .i64 y] (by simp [Act.eval]) rfl (cell_one _ _ _) (one_int _) (by unfold maxLen; omega) (by omega) (by simp; omega) ?_)
  intro v' w4 hown hgrow _
  have hown' : w4.ownsRow base 73 1 v' (n + 1) ((zs ++ [y]).map (Value.int .i64)) := by rw [List.map_append]; exact hown
  obtain ⟨b4, c4, rfl, ho4⟩ := Owns.form hown'
  have HO4 : Hid (Owns 73 w4 base b4 (n + 1) c4 (zs ++ [y])) := ho4
  have HB4 : Hid (Below base w w4) := (HB1.out.alloc (by simp; omega) _).grown hgrow (by simp; omega) HO1.out.row
  clear hown hown' hgrow ho4
  go_wp2
  go_ret
  exact ⟨b4, c4, rfl, HO4.out, HB4.out⟩
set_option maxHeartbeats 2000000 in
theorem foldYs_any {a b : Option Addr} {n c cap : Nat} {ps : List (Int × Int)} (w0 w : World) (hz : SeesQ w0 a n c ps) (hbl : Below w0.heap.size w0 w) (ho : Owns 73 w w0.heap.size b 0 cap []) (hn : n ≤ 1001) :
    Calls Tryz.prog 90 #[.slice a n c, .slice b 0 cap, .func (.func 92) #[] #[]] w fun e w' => ∃ a' cap', e = .returned (.slice a' n cap') ∧ Owns 73 w' w0.heap.size a' n cap' (M.snds ps) ∧ Below w0.heap.size w0 w' := by
  have HZ : Hid (SeesQ w0 a n c ps) := hz
  have HBl : Hid (Below w0.heap.size w0 w) := hbl
  have HO : Hid (Owns 73 w w0.heap.size b 0 cap ((M.snds ps).take 0)) := ho
  clear hz hbl ho
  go_enter Tryz.func90, Tryz.ntmps90
  go_wp2
  go_loopw [1, 11] (fun s i wr => ∃ (k : Nat) (a' : Option Addr) (cap' : Nat), k ≤ n ∧ i = .int .i64 k ∧ s = .slice a' k cap' ∧ Owns 73 wr w0.heap.size a' k cap' ((M.snds ps).take k) ∧ Below w0.heap.size w0 wr) (fun _ i _ => n - (intOf i).toNat)
  case atStart => exact ⟨0, _, _, by omega, rfl, rfl, HO.out, HBl.out⟩
  case round =>
    obtain ⟨k, a', cap', hk, rfl, rfl, ho1, hb1⟩ := hrel
    have HO1 : Hid (Owns 73 wr w0.heap.size a' k cap' ((M.snds ps).take k)) := ho1
    have HB1 : Hid (Below w0.heap.size w0 wr) := hb1
    clear ho1 hb1 HO HBl
    by_cases hlt : k < n
    · obtain ⟨b1, o1, rfl, hc1⟩ := (HZ.out.below HB1.out).at (by omega)
      obtain ⟨e1, e2⟩ := hc1 k hlt
      have hI : (k : Int) < (n : Int) := by omega
      have HS : Hid ((M.snds ps).take k ++ [(ps.getD k (0, 0)).2] = (M.snds ps).take (k + 1)) := M.snds_snoc ps (by rw [HZ.out.len]; exact hlt)
      clear hc1
      generalize ps.getD k (0, 0) = q at e1 e2 HS
      have C1 := ys1_any (a := a') (n := k) (cap := cap') (base := w0.heap.size) (zs := (M.snds ps).take k) q
      obtain ⟨x, y⟩ := q
      dsimp only [stv] at C1 e1 e2
      have HC1 : Hid _ := C1
      clear C1
      go_wp2_with fail
      refine (HC1.out _ (HO1.out.below ((Below.refl _ _).alloc (Nat.le_refl _) _)) (by have := HB1.out.size; simp; omega) (by omega)).mono ?_
      rintro e w4 ⟨b4, c4, rfl, ho4, hb4⟩
      have HO4 : Hid (Owns 73 w4 w0.heap.size b4 (k + 1) c4 ((M.snds ps).take (k + 1))) := by
        show Owns _ _ _ _ _ _ _
        rw [← HS.out]; exact ho4
      have HB4 : Hid (Below w0.heap.size w0 w4) := (HB1.out.alloc HB1.out.size _).trans hb4
      clear ho4 hb4
      go_wp2
      go_roundw
      case rel => exact ⟨k + 1, b4, c4, by omega, by go_num, rfl, HO4.out, HB4.out⟩
      case measure => simp [intOf]; omega
    · have hkn : k = n := by omega
      subst hkn
      go_wp2
      go_ret
      refine ⟨a', cap', rfl, ?_, HB1.out⟩
      have := HO1.out
      rw [List.take_of_length_le (by rw [M.snds_len, HZ.out.len]; exact Nat.le_refl _)] at this
      exact this
set_option maxHeartbeats 1000000 in
theorem ysOf_any {a : Option Addr} {n c : Nat} {ps : List (Int × Int)} (w : World) (hz : SeesQ w a n c ps) (hn : n ≤ 1001) :
    Calls Tryz.prog 41 #[.slice a n c] w fun e w' => ∃ a' cap', e = .returned (.slice a' n cap') ∧ Owns 73 w' w.heap.size a' n cap' (M.snds ps) ∧ Below w.heap.size w w' := by
  have HZ : Hid (SeesQ w a n c ps) := hz
  obtain ⟨i0, hi, hz0, hz1, hz2⟩ := info_parts info_el
  clear hz
  go_enter Tryz.func41, Tryz.ntmps41
  go_wp2_with (at_make; refine wpList_make_own _ rfl _ _ 89 rfl w.heap.size 73 i0 (.int .i64 0) 1 Tryz.underlying89 hi hz0 hz1 .i64 .i64 _ n rfl rfl rfl (by rw [hz2]; omega) (by unfold maxLen; omega) (Nat.le_refl _) ?_)
  intro w1 hown hg
  have HO : Hid (Owns 73 w1 w.heap.size (some ⟨w.heap.size, 0, none⟩) 0 n []) := hown
  have HB : Hid (Below w.heap.size w w1) := below_grown hg
  clear hown hg hi hz0 hz1 hz2
  go_wp2_with fail
  refine (foldYs_any w w1 HZ.out HB.out HO.out hn).mono ?_
  rintro e w2 ⟨a2, c2, rfl, ho2, hb2⟩
  have HO2 : Hid (Owns 73 w2 w.heap.size a2 n c2 (M.snds ps)) := ho2
  have HB2 : Hid (Below w.heap.size w w2) := hb2
  clear ho2 hb2
  go_wp2
  go_ret
  exact ⟨a2, c2, rfl, HO2.out, HB2.out⟩
def M.zipP (xs ys : List Int) : Nat → List (Int × Int)
  | 0 => []
  | k + 1 => M.zipP xs ys k ++ [(xs.getD k 0, ys.getD k 0)]
theorem M.zipP_len (xs ys : List Int) : ∀ k, (M.zipP xs ys k).length = k
  | 0 => rfl
  | k + 1 => by rw [M.zipP, List.length_append, M.zipP_len xs ys k]; rfl
theorem M.zipP_get (xs ys : List Int) : ∀ {k i : Nat}, i < k → (M.zipP xs ys k).getD i (0, 0) = (xs.getD i 0, ys.getD i 0)
  | k + 1, i, h => by
    rw [M.zipP, List.getD_eq_getElem?_getD]
    by_cases e : i = k
    · subst e
      rw [List.getElem?_append_right (by rw [M.zipP_len]; exact Nat.le_refl _), M.zipP_len, Nat.sub_self]; rfl
    · rw [List.getElem?_append_left (by rw [M.zipP_len]; omega), ← List.getD_eq_getElem?_getD]
      exact M.zipP_get xs ys (by omega)
set_option maxHeartbeats 2000000 in
theorem pairsOf_any {a b : Option Addr} {n c d : Nat} {xs ys : List Int} (w : World) (hx : Sees w a n c xs) (hy : Sees w b n d ys) (hn : n ≤ 1001) :
    Calls Tryz.prog 82 #[.slice a n c, .slice b n d] w fun e w' => ∃ a' cap', e = .returned (.slice a' n cap') ∧ OwnsQ 75 w' w.heap.size a' n cap' (M.zipP xs ys n) ∧ Below w.heap.size w w' := by
  have HX : Hid (Sees w a n c xs) := hx
  have HY : Hid (Sees w b n d ys) := hy
  obtain ⟨i0, hi, hz0, hz1, hz2⟩ := info_parts info_pair
  clear hx hy
  go_enter Tryz.func82, Tryz.ntmps82
  go_wp2_with (at_make; refine wpList_make_own _ rfl _ _ 84 rfl w.heap.size 75 i0 (.agg #[.int .i64 0, .int .i64 0]) 2 Tryz.underlying84 hi hz0 hz1 .i64 .i64 _ n rfl rfl rfl (by rw [hz2]; omega) (by unfold maxLen; omega) (Nat.le_refl _) ?_)
  intro w1 hown hg
  have HO : Hid (OwnsQ 75 w1 w.heap.size (some ⟨w.heap.size, 0, none⟩) 0 n (M.zipP xs ys 0)) := ⟨rfl, hown⟩
  have HB : Hid (Below w.heap.size w w1) := below_grown hg
  clear hown hg
  go_wp2
  go_loopw [5, 13] (fun s i wr => ∃ (k : Nat) (a' : Option Addr) (cap' : Nat), k ≤ n ∧ i = .int .i64 k ∧ s = .slice a' k cap' ∧ OwnsQ 75 wr w.heap.size a' k cap' (M.zipP xs ys k) ∧ Below w.heap.size w wr) (fun _ i _ => n - (intOf i).toNat)
  case atStart => exact ⟨0, _, n, by omega, rfl, rfl, HO.out, HB.out⟩
  case round =>
    obtain ⟨k, a', cap', hk, rfl, rfl, ho1, hb1⟩ := hrel
    have HO1 : Hid (OwnsQ 75 wr w.heap.size a' k cap' (M.zipP xs ys k)) := ho1
    have HB1 : Hid (Below w.heap.size w wr) := hb1
    clear ho1 hb1 HO HB
    by_cases hlt : k < n
    · obtain ⟨b1, o1, rfl, hc1⟩ := (HX.out.below HB1.out).at (by omega)
      obtain ⟨b2, o2, rfl, hc2⟩ := (HY.out.below HB1.out).at (by omega)
      have e1 := hc1 k hlt
      have e2 := hc2 k hlt
      have hI : (k : Int) < (n : Int) := by omega
      have hs1 : w.heap.size ≤ wr.heap.size := HB1.out.size
      have HP : Hid (prs (M.zipP xs ys k) ++ [.int .i64 (xs.getD k 0), .int .i64 (ys.getD k 0)] = prs (M.zipP xs ys (k + 1))) := prs_snoc _ (xs.getD k 0, ys.getD k 0)
      clear hc1 hc2
      generalize xs.getD k 0 = x at e1 HP
      generalize ys.getD k 0 = y at e2 HP
      go_wp2_with (at_builtin; refine wpList_append_own _ rfl _ _ 84 rfl w.heap.size 75 i0 (.agg #[.int .i64 0, .int .i64 0]) 2 16 Tryz.underlying84 hi hz0 hz1 hz2 rfl (by decide) _ k (prs (M.zipP xs ys k)) rfl (World.ownsRow.alloc HO1.out.2 _) ⟨wr.heap.size, 0, none⟩ 1 1 [.int .i64 x, .int .i64 y] rfl rfl (cell_twoq wr _ _ _) (two_intsq _ _) (by unfold maxLen; omega) (by omega) (by simp; omega) ?_)
      intro v' w4 hown hgrow _
      rw [HP.out] at hown
      obtain ⟨b4, c4, rfl, ho4⟩ := OwnsQ.form (M.zipP_len xs ys (k + 1)) hown
      have HO4 : Hid (OwnsQ 75 w4 w.heap.size b4 (k + 1) c4 (M.zipP xs ys (k + 1))) := ho4
      have HB4 : Hid (Below w.heap.size w w4) := (HB1.out.alloc HB1.out.size _).grown hgrow (by simp; omega) HO1.out.row
      clear hown hgrow ho4
      go_wp2
      go_roundw
      case rel => exact ⟨k + 1, b4, c4, by omega, by go_num, rfl, HO4.out, HB4.out⟩
      case measure => simp [intOf]; omega
    · have hkn : k = n := by omega
      subst hkn
      go_wp2
      go_ret
      exact ⟨a', cap', rfl, HO1.out, HB1.out⟩
end Go.Proofs.YtbcfjbkmkknmfaaGreatDoor
namespace Go.Proofs.YtbcfjbkmkknmfaaGreatDoor
open Go.RowKit

set_option maxHeartbeats 2000000 in
theorem pairScaled_any (s : Int × Int) (c : Int) (w : World) (hs : M.sOk s = true) (c0 : 0 ≤ c) (c1 : c < 65537) :
    Calls Tryz.prog 86 #[stv s, .int .i64 c] w fun e w' => e = .returned (stv (s.1 * c % 65537, s.2 * c % 65537)) ∧ Below w.heap.size w w' := by
  obtain ⟨⟨x0, x1⟩, ⟨y0, y1⟩⟩ := (M.sOk_iff _).1 hs
  obtain ⟨x, y⟩ := s
  dsimp only [stv] at *
  have HBa : Hid (Below w.heap.size w ((w.alloc (.cells #[.int .i64 x, .int .i64 y] 75)).alloc (.cells #[.int .i64 0, .int .i64 0] 75))) := ((Below.refl _ _).alloc (Nat.le_refl _) _).alloc (by simp) _
  have HK : Hid (∀ W, Below (w.heap.size + 2) ((w.alloc (.cells #[.int .i64 x, .int .i64 y] 75)).alloc (.cells #[.int .i64 0, .int .i64 0] 75)) W → (W.cell? ⟨w.heap.size, 0, none⟩ = some (.int .i64 x) ∧ W.cell? ⟨w.heap.size, 1, none⟩ = some (.int .i64 y)) ∧ W.cell? ⟨w.heap.size + 1, 0, none⟩ = some (.int .i64 0) ∧ W.frozen? ⟨w.heap.size + 1, 0, none⟩ = false ∧ W.cell? ⟨w.heap.size + 1, 1, none⟩ = some (.int .i64 0) ∧ W.frozen? ⟨w.heap.size + 1, 1, none⟩ = false) := fun W hW => by
    have l0 : Lies W (w.heap.size) [.int .i64 x, .int .i64 y] := (show Lies ((w.alloc (.cells #[.int .i64 x, .int .i64 y] 75)).alloc (.cells #[.int .i64 0, .int .i64 0] 75)) (w.heap.size) [.int .i64 x, .int .i64 y] from ((lies_new _ _ _).alloc _)).below hW (by omega)
    have l1 : Lies W (w.heap.size + 1) [.int .i64 0, .int .i64 0] := (show Lies ((w.alloc (.cells #[.int .i64 x, .int .i64 y] 75)).alloc (.cells #[.int .i64 0, .int .i64 0] 75)) (w.heap.size + 1) [.int .i64 0, .int .i64 0] from (lies_new2 _ _ _ _)).below hW (by omega)
    exact ⟨⟨l0.at 0, l0.at 1⟩, l1.at 0, l1.fr 0, l1.at 1, l1.fr 1⟩
  generalize hwa : ((w.alloc (.cells #[.int .i64 x, .int .i64 y] 75)).alloc (.cells #[.int .i64 0, .int .i64 0] 75)) = wa at HBa HK
  have HWA : Hid (((w.alloc (.cells #[.int .i64 x, .int .i64 y] 75)).alloc (.cells #[.int .i64 0, .int .i64 0] 75)) = wa) := hwa
  clear hwa
  have hb0 : Below (w.heap.size + 2) wa wa.drew := (Below.refl _ _).drew
  go_enter Tryz.func86, Tryz.ntmps86
  go_wp2
  rw [HWA.out]
  obtain ⟨-, t0, t1, t2, t3⟩ := HK.out _ (Below.refl _ _)
  have HST : Hid (∀ (W : World) (g0 g1 : Value), (W.cell? ⟨w.heap.size, 0, none⟩ = some (.int .i64 x) ∧ W.cell? ⟨w.heap.size, 1, none⟩ = some (.int .i64 y)) → ((W.setCell ⟨w.heap.size + 1, 0, none⟩ g0).setCell ⟨w.heap.size + 1, 1, none⟩ g1).cell? ⟨w.heap.size, 0, none⟩ = some (.int .i64 x) ∧ ((W.setCell ⟨w.heap.size + 1, 0, none⟩ g0).setCell ⟨w.heap.size + 1, 1, none⟩ g1).cell? ⟨w.heap.size, 1, none⟩ = some (.int .i64 y)) := fun W g0 g1 h => by
    have far : ∀ (b : Nat) (o : Nat), b ≠ w.heap.size + 1 → ((W.setCell ⟨w.heap.size + 1, 0, none⟩ g0).setCell ⟨w.heap.size + 1, 1, none⟩ g1).cell? ⟨b, o, none⟩ = W.cell? ⟨b, o, none⟩ := fun b o hb =>
      (World.cell?_setCell_other (w := W.setCell ⟨w.heap.size + 1, 0, none⟩ g0) (a := ⟨w.heap.size + 1, 1, none⟩) (b := ⟨b, o, none⟩) (v := g1) (h := by intro e; simp only [Addr.mk.injEq] at e; omega)).trans (World.cell?_setCell_other (w := W) (a := ⟨w.heap.size + 1, 0, none⟩) (b := ⟨b, o, none⟩) (v := g0) (h := by intro e; simp only [Addr.mk.injEq] at e; omega))
    obtain ⟨h0, h1⟩ := h
    exact ⟨(far _ _ (by omega)).trans h0, (far _ _ (by omega)).trans h1⟩
  go_region_held3 (fun W => W.cell? ⟨w.heap.size, 0, none⟩ = some (.int .i64 x) ∧ W.cell? ⟨w.heap.size, 1, none⟩ = some (.int .i64 y)) (first | with_reducible exact (HK.out _ hb0).1 | exact HST.out _ _ _ (HK.out _ hb0).1)
    (first
      | (go_at_call_of 115 (Value.int .i64 x); refine (times_any x c _ x0 x1 c0 c1).mono ?_; rintro e w1 ⟨rfl, rfl⟩)
      | (go_at_call_of 115 (Value.int .i64 y); refine (times_any y c _ y0 y1 c0 c1).mono ?_; rintro e w2 ⟨rfl, rfl⟩))
  all_goals
    go_wp2
    refine bodyPost_ret (v := .agg #[.int .i64 (x * c % 65537), .int .i64 (y * c % 65537)]) (by simp [results, Tryz.results86, go_sem, t0, t2]) rfl ⟨rfl, ?_⟩
    exact ((HBa.out.trans (hb0.mono (by omega))).setCell (by show w.heap.size ≤ w.heap.size + 1; omega) _).setCell (by show w.heap.size ≤ w.heap.size + 1; omega) _
set_option maxHeartbeats 2000000 in
theorem pairMinus_any (s q : Int × Int) (w : World) (hs : M.sOk s = true) (hq : M.sOk q = true) :
    Calls Tryz.prog 123 #[stv s, stv q] w fun e w' => e = .returned (stv ((s.1 + 65537 - q.1) % 65537, (s.2 + 65537 - q.2) % 65537)) ∧ Below w.heap.size w w' := by
  obtain ⟨⟨x0, x1⟩, ⟨y0, y1⟩⟩ := (M.sOk_iff _).1 hs
  obtain ⟨⟨u0, u1⟩, ⟨v0, v1⟩⟩ := (M.sOk_iff _).1 hq
  obtain ⟨x, y⟩ := s
  obtain ⟨u, v⟩ := q
  dsimp only [stv] at *
  have HBa : Hid (Below w.heap.size w (((w.alloc (.cells #[.int .i64 x, .int .i64 y] 75)).alloc (.cells #[.int .i64 u, .int .i64 v] 75)).alloc (.cells #[.int .i64 0, .int .i64 0] 75))) := (((Below.refl _ _).alloc (Nat.le_refl _) _).alloc (by simp) _).alloc (by simp; omega) _
  have HK : Hid (∀ W, Below (w.heap.size + 3) (((w.alloc (.cells #[.int .i64 x, .int .i64 y] 75)).alloc (.cells #[.int .i64 u, .int .i64 v] 75)).alloc (.cells #[.int .i64 0, .int .i64 0] 75)) W → (W.cell? ⟨w.heap.size, 0, none⟩ = some (.int .i64 x) ∧ W.cell? ⟨w.heap.size, 1, none⟩ = some (.int .i64 y) ∧ W.cell? ⟨w.heap.size + 1, 0, none⟩ = some (.int .i64 u) ∧ W.cell? ⟨w.heap.size + 1, 1, none⟩ = some (.int .i64 v)) ∧ W.cell? ⟨w.heap.size + 1 + 1, 0, none⟩ = some (.int .i64 0) ∧ W.frozen? ⟨w.heap.size + 1 + 1, 0, none⟩ = false ∧ W.cell? ⟨w.heap.size + 1 + 1, 1, none⟩ = some (.int .i64 0) ∧ W.frozen? ⟨w.heap.size + 1 + 1, 1, none⟩ = false) := fun W hW => by
    have l0 : Lies W (w.heap.size) [.int .i64 x, .int .i64 y] := (show Lies (((w.alloc (.cells #[.int .i64 x, .int .i64 y] 75)).alloc (.cells #[.int .i64 u, .int .i64 v] 75)).alloc (.cells #[.int .i64 0, .int .i64 0] 75)) (w.heap.size) [.int .i64 x, .int .i64 y] from (((lies_new _ _ _).alloc _).alloc _)).below hW (by omega)
    have l1 : Lies W (w.heap.size + 1) [.int .i64 u, .int .i64 v] := (show Lies (((w.alloc (.cells #[.int .i64 x, .int .i64 y] 75)).alloc (.cells #[.int .i64 u, .int .i64 v] 75)).alloc (.cells #[.int .i64 0, .int .i64 0] 75)) (w.heap.size + 1) [.int .i64 u, .int .i64 v] from ((lies_new2 _ _ _ _).alloc _)).below hW (by omega)
    have l2 : Lies W (w.heap.size + 1 + 1) [.int .i64 0, .int .i64 0] := (show Lies (((w.alloc (.cells #[.int .i64 x, .int .i64 y] 75)).alloc (.cells #[.int .i64 u, .int .i64 v] 75)).alloc (.cells #[.int .i64 0, .int .i64 0] 75)) (w.heap.size + 1 + 1) [.int .i64 0, .int .i64 0] from (lies_new3 _ _ _ _ _)).below hW (by omega)
    exact ⟨⟨l0.at 0, l0.at 1, l1.at 0, l1.at 1⟩, l2.at 0, l2.fr 0, l2.at 1, l2.fr 1⟩
  generalize hwa : (((w.alloc (.cells #[.int .i64 x, .int .i64 y] 75)).alloc (.cells #[.int .i64 u, .int .i64 v] 75)).alloc (.cells #[.int .i64 0, .int .i64 0] 75)) = wa at HBa HK
  have HWA : Hid ((((w.alloc (.cells #[.int .i64 x, .int .i64 y] 75)).alloc (.cells #[.int .i64 u, .int .i64 v] 75)).alloc (.cells #[.int .i64 0, .int .i64 0] 75)) = wa) := hwa
  clear hwa
  have hb0 : Below (w.heap.size + 3) wa wa.drew := (Below.refl _ _).drew
  go_enter Tryz.func123, Tryz.ntmps123
  go_wp2
  rw [HWA.out]
  obtain ⟨-, t0, t1, t2, t3⟩ := HK.out _ (Below.refl _ _)
  have HST : Hid (∀ (W : World) (g0 g1 : Value), (W.cell? ⟨w.heap.size, 0, none⟩ = some (.int .i64 x) ∧ W.cell? ⟨w.heap.size, 1, none⟩ = some (.int .i64 y) ∧ W.cell? ⟨w.heap.size + 1, 0, none⟩ = some (.int .i64 u) ∧ W.cell? ⟨w.heap.size + 1, 1, none⟩ = some (.int .i64 v)) → ((W.setCell ⟨w.heap.size + 1 + 1, 0, none⟩ g0).setCell ⟨w.heap.size + 1 + 1, 1, none⟩ g1).cell? ⟨w.heap.size, 0, none⟩ = some (.int .i64 x) ∧ ((W.setCell ⟨w.heap.size + 1 + 1, 0, none⟩ g0).setCell ⟨w.heap.size + 1 + 1, 1, none⟩ g1).cell? ⟨w.heap.size, 1, none⟩ = some (.int .i64 y) ∧ ((W.setCell ⟨w.heap.size + 1 + 1, 0, none⟩ g0).setCell ⟨w.heap.size + 1 + 1, 1, none⟩ g1).cell? ⟨w.heap.size + 1, 0, none⟩ = some (.int .i64 u) ∧ ((W.setCell ⟨w.heap.size + 1 + 1, 0, none⟩ g0).setCell ⟨w.heap.size + 1 + 1, 1, none⟩ g1).cell? ⟨w.heap.size + 1, 1, none⟩ = some (.int .i64 v)) := fun W g0 g1 h => by
    have far : ∀ (b : Nat) (o : Nat), b ≠ w.heap.size + 1 + 1 → ((W.setCell ⟨w.heap.size + 1 + 1, 0, none⟩ g0).setCell ⟨w.heap.size + 1 + 1, 1, none⟩ g1).cell? ⟨b, o, none⟩ = W.cell? ⟨b, o, none⟩ := fun b o hb =>
      (World.cell?_setCell_other (w := W.setCell ⟨w.heap.size + 1 + 1, 0, none⟩ g0) (a := ⟨w.heap.size + 1 + 1, 1, none⟩) (b := ⟨b, o, none⟩) (v := g1) (h := by intro e; simp only [Addr.mk.injEq] at e; omega)).trans (World.cell?_setCell_other (w := W) (a := ⟨w.heap.size + 1 + 1, 0, none⟩) (b := ⟨b, o, none⟩) (v := g0) (h := by intro e; simp only [Addr.mk.injEq] at e; omega))
    obtain ⟨h0, h1, h2, h3⟩ := h
    exact ⟨(far _ _ (by omega)).trans h0, (far _ _ (by omega)).trans h1, (far _ _ (by omega)).trans h2, (far _ _ (by omega)).trans h3⟩
  go_region_held3 (fun W => W.cell? ⟨w.heap.size, 0, none⟩ = some (.int .i64 x) ∧ W.cell? ⟨w.heap.size, 1, none⟩ = some (.int .i64 y) ∧ W.cell? ⟨w.heap.size + 1, 0, none⟩ = some (.int .i64 u) ∧ W.cell? ⟨w.heap.size + 1, 1, none⟩ = some (.int .i64 v)) (first | with_reducible exact (HK.out _ hb0).1 | exact HST.out _ _ _ (HK.out _ hb0).1)
    (first
      | (go_at_call_of 122 (Value.int .i64 x); refine (minus_any x u _ x0 x1 u0 u1).mono ?_; rintro e w1 ⟨rfl, rfl⟩)
      | (go_at_call_of 122 (Value.int .i64 y); refine (minus_any y v _ y0 y1 v0 v1).mono ?_; rintro e w2 ⟨rfl, rfl⟩))
  all_goals
    go_wp2
    refine bodyPost_ret (v := .agg #[.int .i64 ((x + 65537 - u) % 65537), .int .i64 ((y + 65537 - v) % 65537)]) (by simp [results, Tryz.results123, go_sem, t0, t2]) rfl ⟨rfl, ?_⟩
    exact ((HBa.out.trans (hb0.mono (by omega))).setCell (by show w.heap.size ≤ w.heap.size + 1 + 1; omega) _).setCell (by show w.heap.size ≤ w.heap.size + 1 + 1; omega) _
end Go.Proofs.YtbcfjbkmkknmfaaGreatDoor
