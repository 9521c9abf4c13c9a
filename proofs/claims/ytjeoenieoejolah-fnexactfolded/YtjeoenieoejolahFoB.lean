/- Folded in the program: what is gathered from the range over opposite values. -/
import Derived.Test.YtjeoenieoejolahFoA
import Derived.Test.YtjeoenieoejolahTrG
import Derived.Deep.RegionHeld
namespace Go.Proofs.Ytjeoenieoejolah
open Go.RowKit Go.Shelf
set_option linter.unusedSimpArgs false
set_option linter.unusedVariables false

attribute [local go_sem] Oper.semAt_some

/-- cells that lie in a block of their own -/
def CellsAt (W : World) (B : Nat) (cs : Array Value) (t : TypeId) : Prop := W.heap[B]? = some (.cells cs t (0, 0))
theorem CellsAt.new (W : World) (cs : Array Value) (t : TypeId) : CellsAt (W.alloc (.cells cs t)) W.heap.size cs t := World.alloc_heap_new W _
theorem CellsAt.lt {W : World} {B : Nat} {cs : Array Value} {t : TypeId} (h : CellsAt W B cs t) : B < W.heap.size := (Array.getElem?_eq_some_iff.1 h).1
theorem CellsAt.kept {W W' : World} {row : Option Nat} {B : Nat} {cs : Array Value} {t : TypeId} (h : CellsAt W B cs t) (hg : W.grownBy W' row) (hne : some B ≠ row) : CellsAt W' B cs t := (hg.block B h.lt hne).trans h
theorem CellsAt.alloc {W : World} {B : Nat} {cs : Array Value} {t : TypeId} (h : CellsAt W B cs t) (o : Obj) : CellsAt (W.alloc o) B cs t := h.kept (World.grownBy_alloc W o none) (by simp)
theorem CellsAt.cell {W : World} {B : Nat} {cs : Array Value} {t : TypeId} (h : CellsAt W B cs t) (i : Nat) {v : Value} (hv : cs[i]? = some v) : W.cell? ⟨B, i, none⟩ = some v := by
  simp [World.cell?, show W.heap[B]? = _ from h, hv]
theorem CellsAt.other {W : World} {B B' : Nat} {cs : Array Value} {t : TypeId} (h : CellsAt W B cs t) (hne : B ≠ B') (u : Value) : CellsAt (W.setCell ⟨B', 0, none⟩ u) B cs t := h.kept (grownBy_setCell' W B' u) (fun e => hne (by cases e; rfl))
theorem cellsAt_own {β : Type} (B : Nat) (cs : Array Value) (t : TypeId) : Own (fun (_ : β) W => CellsAt W B cs t) := fun _ X _ _ hs hg hrow =>
  hs.kept hg (fun e' => by obtain ⟨o, ho, hc⟩ := hrow B e'.symm; rw [show X.heap[B]? = _ from hs] at ho; cases ho; cases hc)
theorem CellsAt.below {W W' : World} {B : Nat} {cs : Array Value} {t : TypeId} (h : CellsAt W B cs t) (hb : Below W.heap.size W W') : CellsAt W' B cs t := (hb.block B h.lt).trans h
/-- the folded value of three elements -/
def M.fo (b : Int) (t : E3) : Int := ((t.1.2.1 + t.1.2.2) % 65537 * 32769 % 65537 + b * ((t.1.2.1 + 65537 - t.1.2.2) % 65537 * 32769 % 65537 * M.pw t.1.1 65535 % 65537) % 65537) % 65537
set_option maxHeartbeats 1000000 in
theorem opposites_in (F : Fence) (n : Nat) (hF : F.fn 45) (hro : F.round = none) (N : Nat) (s q : Int) (a : Option Addr) (len cap : Nat) (w : World) :
    CallsIn F n Try.prog 45 #[.agg #[.int .i64 N, .int .i64 s, .int .i64 q], .slice a len cap] w fun e w' => e = .returned (.func (.func 71) #[] #[.pointer (some ⟨w.heap.size, 0, none⟩), .pointer (some ⟨w.heap.size + 1, 0, none⟩)]) ∧ w' = (w.alloc (.cells #[.int .i64 N, .int .i64 s, .int .i64 q] 54)).alloc (.cells #[.slice a len cap] 55) := by
  refine callsIn_of_wp Try.func45 rfl hF ?_ hro
  simp only [Try.ntmps45, List.size_toArray, List.length_cons, List.length_nil, Nat.reduceAdd, Nat.reduceSub, Array.replicate_succ, Array.replicate_zero, List.push_toArray, List.append_toArray, List.nil_append, List.cons_append]
  gi_wp2
  go_ret
  exact ⟨rfl, rfl⟩
theorem opp_stops (n : Nat) (hn : 2 ≤ n) (B C n₀ N h : Nat) (hN : N = 2 * h) (hN1 : N ≤ 64) (h0' : 0 < h) (s q : Int) (s0 : 0 ≤ s) (s1 : s < 65537) (q0 : 0 ≤ q) (q1 : q < 65537) (a : Option Addr) (cap : Nat) (zs : List Int) (az : M.allEl zs = true) (hb : ∀ x, a = some x → x.block < n₀) (w : World) (bB : CellsAt w B #[.int .i64 N, .int .i64 s, .int .i64 q] 54) (bC : Boxed w C 55 (.slice a N cap)) (hz : Sees w a N cap zs) :
    SeqStopsK Fence.wide n Try.prog 71 #[.pointer (some ⟨B, 0, none⟩), .pointer (some ⟨C, 0, none⟩)] E3.enc (Keep2 n₀ B C) (fun ys => ys = M.opp zs s q h h) (fun _ => True) h w := fun l J Jx W hW _ _ hY h0 =>
  opp_in Fence.wide n trivial trivial rfl hn l B C n₀ N h hN hN1 h0' s q s0 s1 q0 q1 a cap zs az hb J Jx hY W ((bB.below hW).cell 0 rfl) ((bB.below hW).cell 1 rfl) ((bB.below hW).cell 2 rfl) ((hW.cell (p := ⟨C, 0, none⟩) bC.lt).trans bC.cell) (hz.below hW) h0
theorem CellsAt.not_row {W : World} {B : Nat} {cs : Array Value} {t e : TypeId} (h : CellsAt W B cs t) (hte : t ≠ e) {base size k : Nat} {v : Value} {xs : List Value} (hr : W.ownsRow base e size v k xs) : some B ≠ v.ownBlock := by
  rcases hr.2 with ⟨rfl, _⟩ | ⟨g, cap, cur, rfl, _, hgb, _⟩
  · simp [Value.ownBlock]
  · intro e'
    obtain rfl : B = g := by simpa [Value.ownBlock] using e'
    have := (show W.heap[B]? = _ from h).symm.trans hgb
    simp at this
    exact hte this.2
theorem boxed_below {W W' : World} {B : Nat} {t : TypeId} {v : Value} (h : Boxed W B t v) (hb : Below W.heap.size W W') : Boxed W' B t v := (hb.block B h.lt).trans h
theorem row_below {W W' : World} {base : Nat} {e : TypeId} {size k : Nat} {v : Value} {xs : List Value} (h : W.ownsRow base e size v k xs) (hb : Below W.heap.size W W') : W'.ownsRow base e size v k xs :=
  World.ownsRow.kept h (w' := W') (row := none) ⟨hb.os, hb.tape, hb.output, hb.size, fun k hk _ => hb.block k hk⟩ (by cases hv : v.ownBlock <;> simp)
theorem step_append_own {P : Program} {ops : Array Oper} {o : Oper} {a : Act} {w : World} {K : Act → World → Prop} {Q : Exit → Act → World → Prop} {E : Prop}
    (hg : o.guard = none) (s x : Operand) (t : TypeId) (hop : o.op = Op.call { callee := Callee.builtin Builtin.append, args := #[s, x], argTypes := #[t, t] })
    (base : Nat) (e : TypeId) (i : TypeInfo) (z : Value) (size bytes : Nat) (ht : P.underlying t = some (.slice e)) (hi : P.info? e = some i) (hz : i.zero = some z) (hsize : i.size = size) (hby : i.bytes = bytes) (hzs : z.cells.size = size) (hsz : 0 < size)
    (v : Value) (n : Nat) (xs : List Value) (hs : a.eval s = v) (hown : w.ownsRow base e size v n xs) (ad : Addr) (m c : Nat) (news : List Value) (hx : a.eval x = .slice (some ad) m c) (hl : news.length = m * size) (hnews : ∀ j u, news[j]? = some u → w.cell? (ad.add j) = some u) (h1 : ∀ u ∈ news, u.oneCell' = true)
    (h63 : n + m ≤ maxLen) (hbytes : (n + m) * bytes ≤ 140737488355328) (hbase : base ≤ w.heap.size)
    (hK : ∀ v' w', w'.ownsRow base e size v' (n + m) (xs ++ news) → w.grownBy w' v.ownBlock → K (a.put o.dst v') w') :
    if Region.wanted o (yielded ops a.tmps) = true then Oper.wp P o a w K Q else E := by
  have hw : Region.wanted o (yielded ops a.tmps) = true := by simp [Region.wanted, hg]
  rw [if_pos hw]
  obtain ⟨v', w', hrun, r1, r2, _, _⟩ := run_append_own_at (P := P) w base t o.type e i z size bytes ht hi hz hsize hby hzs hsz v n xs hown ad m c news hl hnews h1 h63 hbytes hbase
  unfold Oper.wp
  simp [execOp, hop, resolve, invoke, builtin, hs, hx, hrun, Result.andThen]
  exact hK v' w' r1 r2
/-- what the round's last two steps leave: the number val laid behind what was gathered -/
theorem fo_end {n₀ Bo B C B0 Bx bb : Nat} {w2 W Wc w7 : World} {v v' : Value} {k : Nat} {xs : List Value} {cs cx : Array Value} {sl : Value} {val : Int} {y z b : Value} (hn₀ : n₀ ≤ w2.heap.size) (hBo : n₀ ≤ Bo) (hBB : B ≠ Bo) (hCB : C ≠ Bo) (hXB : Bx ≠ Bo) (hbb : bb < n₀)
    (hb : Below W.heap.size W Wc) (hv : Boxed W Bo 55 v) (hrow : W.ownsRow n₀ 52 1 v k xs) (hcB : CellsAt W B cs 54) (hbC : Boxed W C 55 sl) (hX : CellsAt W Bx cx 73) (hy : cx[0]? = some y) (hz : cx[1]? = some z) (hB : Below n₀ w2 W) (hcb : W.cell? ⟨bb, 0, none⟩ = some b)
    (hown' : w7.ownsRow n₀ 52 1 v' (k + 1) (xs ++ [Value.int .i64 val])) (hgrow : (Wc.alloc (.cells #[Value.int .i64 val] 52)).grownBy w7 v.ownBlock) :
    (w7.cell? ⟨Bx, 0, none⟩ = some y ∧ w7.cell? ⟨Bx, 1, none⟩ = some z ∧ w7.cell? ⟨bb, 0, none⟩ = some b) ∧ ((w7.setCell ⟨Bo, 0, none⟩ v').cell? ⟨Bx, 0, none⟩ = some y ∧ (w7.setCell ⟨Bo, 0, none⟩ v').cell? ⟨Bx, 1, none⟩ = some z ∧ (w7.setCell ⟨Bo, 0, none⟩ v').cell? ⟨bb, 0, none⟩ = some b) ∧ w7.cell? ⟨Bo, 0, none⟩ = some v ∧ w7.frozen? ⟨Bo, 0, none⟩ = false ∧
      KeepsFrom B0 W (w7.setCell ⟨Bo, 0, none⟩ v') ∧ Keep2 n₀ B C W (w7.setCell ⟨Bo, 0, none⟩ v') ∧ Boxed (w7.setCell ⟨Bo, 0, none⟩ v') Bo 55 v' ∧ (w7.setCell ⟨Bo, 0, none⟩ v').ownsRow n₀ 52 1 v' (k + 1) (xs ++ [Value.int .i64 val]) ∧ CellsAt (w7.setCell ⟨Bo, 0, none⟩ v') B cs 54 ∧ Boxed (w7.setCell ⟨Bo, 0, none⟩ v') C 55 sl ∧ Below n₀ w2 (w7.setCell ⟨Bo, 0, none⟩ v') := by
  have hnW : n₀ ≤ W.heap.size := Nat.le_trans hn₀ hB.size
  have hnC : n₀ ≤ Wc.heap.size := Nat.le_trans hnW hb.size
  have hvC := boxed_below hv hb
  have hrowC := row_below hrow hb
  obtain ⟨hv1, hv2, hr2, hk2, hb2⟩ := hvC.appended (by decide) hrowC hnC hBo hown' hgrow
  have hcB7 := ((hcB.below hb).alloc (.cells #[Value.int .i64 val] 52)).kept hgrow (((hcB.below hb)).not_row (by decide) hrowC)
  have hbC7 := ((boxed_below hbC hb).alloc (.cells #[Value.int .i64 val] 52)).kept hgrow ((boxed_below hbC hb).not_row (by decide) hrowC)
  have hX7 := ((hX.below hb).alloc (.cells #[Value.int .i64 val] 52)).kept hgrow (((hX.below hb)).not_row (by decide) hrowC)
  have hcb7 : w7.cell? ⟨bb, 0, none⟩ = some b := by
    have e1 : (Wc.alloc (.cells #[Value.int .i64 val] 52)).cell? ⟨bb, 0, none⟩ = some b := (((Below.refl Wc.heap.size Wc).alloc (Nat.le_refl _) _).cell (p := ⟨bb, 0, none⟩) (show bb < _ by omega)).trans ((hb.cell (p := ⟨bb, 0, none⟩) (show bb < _ by omega)).trans hcb)
    refine hgrow.cell e1 fun e => ?_
    have := (World.ownsRow.lt hrowC bb (by rw [← e])).1
    omega
  have hbb2 : (⟨Bo, 0, none⟩ : Addr) ≠ ⟨bb, 0, none⟩ := fun e => by have e2 : Bo = bb := congrArg Addr.block e; omega
  have hcB8 := hcB7.other hBB v'
  have hbC8 := hbC7.other hCB v'
  have hX8 := hX7.other hXB v'
  have hBn := (hb.mono hnW).trans hb2
  refine ⟨⟨hX7.cell 0 hy, hX7.cell 1 hz, hcb7⟩, ⟨hX8.cell 0 hy, hX8.cell 1 hz, ?_⟩, hv1.cell, hv1.frozen, ?_, ⟨hBn, hcB8.trans hcB.symm, hbC8.trans hbC.symm⟩, hv2, hr2, hcB8, hbC8, hB.trans hBn⟩
  · exact (World.cell?_setCell_other (w := w7) (a := ⟨Bo, 0, none⟩) (b := ⟨bb, 0, none⟩) (v := v') (h := hbb2)).trans hcb7
  · exact (KeepsFrom.of_grownBy (row := none) ⟨hb.os, hb.tape, hb.output, hb.size, fun k hk _ => hb.block k hk⟩ (fun j e => by cases e)).trans (hk2.from _)
theorem fo_made {w1 w2 : World} {N h : Nat} {s q b : Int} (hown : w2.ownsRow (w1.heap.size + 1 + 1) 52 1 (.slice (some ⟨((w1.alloc (.cells #[Value.int .i64 N, Value.int .i64 s, Value.int .i64 q] 54)).alloc (.cells #[Value.int .i64 b] 52)).heap.size, 0, none⟩) 0 h) 0 []) (hg : ((w1.alloc (.cells #[Value.int .i64 N, Value.int .i64 s, Value.int .i64 q] 54)).alloc (.cells #[Value.int .i64 b] 52)).grownBy w2 none) :
    Owns 52 w2 (w1.heap.size + 1 + 1) (some ⟨w1.heap.size + 1 + 1, 0, none⟩) 0 h [] ∧ w1.heap.size < w2.heap.size ∧ w1.heap.size + 1 < w2.heap.size ∧ w1.heap.size + 1 + 1 < w2.heap.size ∧ w2.cell? ⟨w1.heap.size, 0, none⟩ = some (.int .i64 N) ∧ w2.cell? ⟨w1.heap.size, 1, none⟩ = some (.int .i64 s) ∧ w2.cell? ⟨w1.heap.size, 2, none⟩ = some (.int .i64 q) ∧ w2.cell? ⟨w1.heap.size + 1, 0, none⟩ = some (.int .i64 b) := by
  have e : ((w1.alloc (.cells #[Value.int .i64 N, Value.int .i64 s, Value.int .i64 q] 54)).alloc (.cells #[Value.int .i64 b] 52)).heap.size = w1.heap.size + 1 + 1 := by simp
  rw [e] at hown
  have ho : Owns 52 w2 (w1.heap.size + 1 + 1) (some ⟨w1.heap.size + 1 + 1, 0, none⟩) 0 h [] := hown
  have hlt := ho.hi _ rfl
  have hlt' : w1.heap.size + 1 + 1 < w2.heap.size := hlt
  have hb : Below ((w1.alloc (.cells #[Value.int .i64 N, Value.int .i64 s, Value.int .i64 q] 54)).alloc (.cells #[Value.int .i64 b] 52)).heap.size _ w2 := below_grown hg
  refine ⟨ho, by omega, by omega, hlt', ?_, ?_, ?_, ?_⟩
  · exact (hb.cell (p := ⟨w1.heap.size, 0, none⟩) (by rw [e]; show w1.heap.size < _; omega)).trans (by simp)
  · exact (hb.cell (p := ⟨w1.heap.size, 1, none⟩) (by rw [e]; show w1.heap.size < _; omega)).trans (by simp)
  · exact (hb.cell (p := ⟨w1.heap.size, 2, none⟩) (by rw [e]; show w1.heap.size < _; omega)).trans (by simp)
  · exact (hb.cell (p := ⟨w1.heap.size + 1, 0, none⟩) (by rw [e]; show w1.heap.size + 1 < _; omega)).trans (by simp)
set_option maxRecDepth 100000 in
set_option maxHeartbeats 8000000 in
theorem implFolded_in {la : Option Addr} {lc N h : Nat} {zs : List Int} (s b : Int) (w : World) (hz : Sees w la N lc zs) (az : M.allEl zs = true) (hp : M.ptOk N s = true) (hN : N = 2 * h) (h0 : 0 < h) (b0 : 0 ≤ b) (b1 : b < 65537) :
    Calls Try.prog 18 #[.slice la N lc, .int .i64 s, .int .i64 b] w fun e w' => ∃ a' c', e = .returned (.tuple #[.slice a' h c', .bool true]) ∧ Owns 2 w' w.heap.size a' h c' ((M.opp zs s (M.root N) h h).map (M.fo b)) ∧ Below w.heap.size w w' := by
  refine (callsIn_wide (n := 8)).1 ?_
  obtain ⟨i0, hi, hz0, hz1, hz2⟩ := info_parts info_el
  have HZ : Hid (Sees w la N lc zs) := hz
  have HA : Hid (M.allEl zs = true) := az
  have HP : Hid (M.ptOk N s = true) := hp
  have HN : Hid (N = 2 * h) := hN
  obtain ⟨h1, h2, h3⟩ := M.ptOk_parts hp
  obtain ⟨s0, s1⟩ := (M.el_iff s).1 h2
  obtain ⟨q0, q1⟩ := (M.el_iff _).1 (M.root_el (M.two64_two h1))
  have hN64 : N ≤ 64 := by have := (M.two64_bd h1).2; omega
  have hne1 : ((N : Int) == 1) = false := by simp; omega
  have t1 : (N : Int) / 2 = (h : Int) := by omega
  have t2 : (N : Int).tdiv 2 = (h : Int) := by rw [Int.tdiv_eq_ediv_of_nonneg (by omega)]; exact t1
  clear hz az hp h1 h2 h3 hN
  refine callsIn_of_wp_marks Try.func18 rfl trivial ?_ rfl
  simp only [Try.ntmps18, List.size_toArray, List.length_cons, List.length_nil, Nat.reduceAdd, Nat.reduceSub, Array.replicate_succ, Array.replicate_zero, List.push_toArray, List.append_toArray, List.nil_append, List.cons_append]
  gi_wp2_with (refine ⟨trivial, ?_⟩; gi_at_call 30; refine (callsIn_wide.2 (placesVals_in s _ HZ.out HA.out HP.out)).mono ?_; rintro e w1 ⟨a1, c1, rfl, ho1, hb1⟩)
  generalize hq : M.root N = q at q0 q1
  have HQ : Hid (M.root N = q) := hq
  clear hq
  have HO1 : Hid (Owns 52 w1 w.heap.size a1 N c1 zs) := ho1
  have HB1 : Hid (Below w.heap.size w w1) := hb1
  clear ho1 hb1
  gi_wp2_with (first
    | (refine ⟨trivial, ?_⟩; gi_at_call 44; refine (callsIn_wide.2 (elementOf_in b _ b0 b1)).mono ?_; rintro e w' ⟨rfl, rfl⟩)
    | (gi_at_make; refine wpListIn_make_own _ rfl _ _ 55 rfl (w1.heap.size + 1 + 1) 52 i0 (.int .i64 0) 1 Try.underlying55 hi hz0 hz1 .i64 .i64 _ h rfl rfl rfl (by rw [hz2]; omega) (by unfold maxLen; omega) (by simp) ?_; intro w2 hown hg; obtain ⟨hown2, hsz0, hsz1, hsz2, p0, p1, p2, p3⟩ := fo_made hown hg)
    | (refine ⟨trivial, ?_⟩; gi_at_call 45; refine (opposites_in Fence.wide _ trivial rfl _ _ _ _ _ _ _).mono ?_; rintro e w' ⟨rfl, rfl⟩))
  have hb12 : Below w1.heap.size w1 w2 := (((Below.refl _ w1).alloc (Nat.le_refl _) _).alloc (by simp) _).trans ((below_grown hg).mono (by simp; omega))
  have bO : Boxed (((w2.alloc (.cells #[Value.slice (some ⟨w1.heap.size + 1 + 1, 0, none⟩) 0 h] 55)).alloc (.cells #[Value.int .i64 N, Value.int .i64 s, Value.int .i64 q] 54)).alloc (.cells #[Value.slice a1 N c1] 55)) w2.heap.size 55 (.slice (some ⟨w1.heap.size + 1 + 1, 0, none⟩) 0 h) := ((Boxed.new w2 55 _).alloc _).alloc _
  have bB : CellsAt (((w2.alloc (.cells #[Value.slice (some ⟨w1.heap.size + 1 + 1, 0, none⟩) 0 h] 55)).alloc (.cells #[Value.int .i64 N, Value.int .i64 s, Value.int .i64 q] 54)).alloc (.cells #[Value.slice a1 N c1] 55)) (w2.heap.size + 1) #[.int .i64 N, .int .i64 s, .int .i64 q] 54 := by
    have h := (CellsAt.new (w2.alloc (.cells #[Value.slice (some ⟨w1.heap.size + 1 + 1, 0, none⟩) 0 h] 55)) #[Value.int .i64 N, .int .i64 s, .int .i64 q] 54).alloc (.cells #[Value.slice a1 N c1] 55)
    rw [World.size_alloc] at h; exact h
  have bC : Boxed (((w2.alloc (.cells #[Value.slice (some ⟨w1.heap.size + 1 + 1, 0, none⟩) 0 h] 55)).alloc (.cells #[Value.int .i64 N, Value.int .i64 s, Value.int .i64 q] 54)).alloc (.cells #[Value.slice a1 N c1] 55)) (w2.heap.size + 1 + 1) 55 (.slice a1 N c1) := by
    have h := Boxed.new ((w2.alloc (.cells #[Value.slice (some ⟨w1.heap.size + 1 + 1, 0, none⟩) 0 h] 55)).alloc (.cells #[Value.int .i64 N, Value.int .i64 s, Value.int .i64 q] 54)) 55 (Value.slice a1 N c1)
    rw [World.size_alloc, World.size_alloc] at h; exact h
  have hB0 : Below (w1.heap.size + 1 + 1) w2 (((w2.alloc (.cells #[Value.slice (some ⟨w1.heap.size + 1 + 1, 0, none⟩) 0 h] 55)).alloc (.cells #[Value.int .i64 N, Value.int .i64 s, Value.int .i64 q] 54)).alloc (.cells #[Value.slice a1 N c1] 55)) := (((Below.refl _ w2).alloc (by omega) _).alloc (by simp; omega) _).alloc (by simp; omega) _
  have hr0 : (((w2.alloc (.cells #[Value.slice (some ⟨w1.heap.size + 1 + 1, 0, none⟩) 0 h] 55)).alloc (.cells #[Value.int .i64 N, Value.int .i64 s, Value.int .i64 q] 54)).alloc (.cells #[Value.slice a1 N c1] 55)).ownsRow (w1.heap.size + 1 + 1) 52 1 (.slice (some ⟨w1.heap.size + 1 + 1, 0, none⟩) 0 h) 0 [] := World.ownsRow.alloc (World.ownsRow.alloc (World.ownsRow.alloc hown2 _) _) _
  have hsW : (((w2.alloc (.cells #[Value.slice (some ⟨w1.heap.size + 1 + 1, 0, none⟩) 0 h] 55)).alloc (.cells #[Value.int .i64 N, Value.int .i64 s, Value.int .i64 q] 54)).alloc (.cells #[Value.slice a1 N c1] 55)).heap.size = w2.heap.size + 3 := by simp
  have hzW : Sees (((w2.alloc (.cells #[Value.slice (some ⟨w1.heap.size + 1 + 1, 0, none⟩) 0 h] 55)).alloc (.cells #[Value.int .i64 N, Value.int .i64 s, Value.int .i64 q] 54)).alloc (.cells #[Value.slice a1 N c1] 55)) a1 N c1 zs := (HO1.out.sees.below hb12).below ((((Below.refl _ w2).alloc (Nat.le_refl _) _).alloc (by simp) _).alloc (by simp; omega) _)
  obtain ⟨W0, hW0⟩ : ∃ W0, (((w2.alloc (.cells #[Value.slice (some ⟨w1.heap.size + 1 + 1, 0, none⟩) 0 h] 55)).alloc (.cells #[Value.int .i64 N, Value.int .i64 s, Value.int .i64 q] 54)).alloc (.cells #[Value.slice a1 N c1] 55)) = W0 := ⟨_, rfl⟩
  rw [hW0] at bO bB bC hB0 hr0 hsW hzW ⊢
  clear hW0
  refine wpIn_rangeFunc_ownH rfl (by omega) (gf := 71) (lb := #[.pointer (some ⟨w2.heap.size + 1, 0, none⟩), .pointer (some ⟨w2.heap.size + 1 + 1, 0, none⟩)]) rfl trivial (enters_of Try.func71 (by kernel_rfl) rfl)
    (opp_stops _ (by omega) (w2.heap.size + 1) (w2.heap.size + 1 + 1) (w1.heap.size + 1 + 1) N h HN.out hN64 h0 s q s0 s1 q0 q1 a1 c1 zs HA.out (fun x hx => by have := HO1.out.hi x hx; omega) W0 bB bC hzW) Keep2.trans (Keep2.b (by omega) (by omega) (by omega)) (Below.refl _ _) (fun _ => rfl)
    (fun (pre : List E3) W => (((∃ v, Boxed W w2.heap.size 55 v ∧ W.ownsRow (w1.heap.size + 1 + 1) 52 1 v pre.length (pre.map (fun t => Value.int .i64 (M.fo b t))) ∧ True) ∧ CellsAt W (w2.heap.size + 1) #[.int .i64 N, .int .i64 s, .int .i64 q] 54) ∧ Boxed W (w2.heap.size + 1 + 1) 55 (.slice a1 N c1)) ∧ Below (w1.heap.size + 1 + 1) w2 W)
    (fun _ _ _ => False)
    (OwnFrom.and (OwnFrom.and (OwnFrom.and (Own.from (holdsRow_own (w1.heap.size + 1 + 1) w2.heap.size 55 52 1 (fun (pre : List E3) => pre.length) (fun (pre : List E3) => pre.map (fun t => Value.int .i64 (M.fo b t))) (fun _ _ => True)) _) (Own.from (cellsAt_own _ _ _) _)) (Own.from (boxed_own _ _ (fun _ => Value.slice a1 N c1)) _)) (ownFrom_below (by omega) (by omega)))
    (fun _ _ _ _ _ hs _ _ => hs)
    ⟨⟨⟨⟨_, bO, hr0, trivial⟩, bB⟩, bC⟩, hB0⟩
    (fun x a' W => ∃ Bx, w2.heap.size + 1 + 1 < Bx ∧ CellsAt W Bx #[.int .i64 x.1.2.1, .int .i64 x.1.2.2] 73 ∧ a' = { tmps := #[.slice la N lc, .int .i64 s, .int .i64 b, undef, undef, undef, .slice none 0 0, .bool false, .pointer (some ⟨w1.heap.size, 0, none⟩), .slice a1 N c1, .bool true, .pointer (some ⟨w1.heap.size + 1, 0, none⟩), .bool true, .pointer (some ⟨w2.heap.size, 0, none⟩), .int .i64 x.1.1, .pointer (some ⟨Bx, 0, none⟩), .tuple #[.agg #[.int .i64 N, .int .i64 s, .int .i64 q], .slice a1 N c1, .bool true], .slice la N lc, .int .i64 s, .tuple #[.agg #[.int .i64 N, .int .i64 s, .int .i64 q], .slice a1 N c1, .bool true], .agg #[.int .i64 N, .int .i64 s, .int .i64 q], .slice a1 N c1, .bool true, .tuple #[.int .i64 b, .bool true], .int .i64 b, .tuple #[.int .i64 b, .bool true], .int .i64 b, .bool true, .bool true, .bool false, .bool false, .bool true, .bool false, .bool false, .bool false, .pointer (some ⟨w1.heap.size, 0, none⟩), .int .i64 N, .bool false, .bool false, .pointer (some ⟨w1.heap.size, 0, none⟩), .int .i64 N, .int .i64 h, .slice (some ⟨w1.heap.size + 1 + 1, 0, none⟩) 0 h, .agg #[.int .i64 N, .int .i64 s, .int .i64 q], .slice a1 N c1, .func (.func 71) #[] #[.pointer (some ⟨w2.heap.size + 1, 0, none⟩), .pointer (some ⟨w2.heap.size + 1 + 1, 0, none⟩)], .int .i64 x.1.1, .agg #[.int .i64 x.1.2.1, .int .i64 x.1.2.2], undef, undef, undef, undef, undef, undef, undef, undef, undef, undef, undef, undef, undef], defers := [] })
    (fun x a' _ X Y row hs hg hr => by obtain ⟨Bx, k1, k2, k3⟩ := hs; exact ⟨Bx, k1, cellsAt_own Bx _ _ () X Y row k2 hg (fun r e => (hr r e).2), k3⟩)
    ?assign ?body ?done ?stop
  case assign =>
    rintro l pre x W K ⟨⟨⟨⟨v, hv, hrow, _⟩, hcB⟩, hbC⟩, hB⟩ hK
    unfold E3.enc
    gi_wp2
    exact hK _ _ ((KeepsOthers.alloc _ _).from _) ⟨(Below.refl _ W).alloc (Nat.le_trans (by omega) hB.size) _, (hcB.alloc _).trans hcB.symm, (hbC.alloc _).trans hbC.symm⟩ ⟨⟨⟨⟨v, hv.alloc _, hrow.alloc _, trivial⟩, hcB.alloc _⟩, hbC.alloc _⟩, hB.alloc (Nat.le_trans (by omega) hB.size) _⟩ ⟨W.heap.size, hbC.lt, CellsAt.new W _ _, rfl⟩
  case body =>
    rintro l pre x a' W hl ⟨r, hr⟩ ⟨⟨⟨⟨v, hv, hrow, _⟩, hcB⟩, hbC⟩, hB⟩ ⟨Bx, hBx, bX, rfl⟩ hlt
    obtain ⟨⟨x, y, z⟩, ⟨x0, x1⟩, ⟨y0, y1⟩, z0, z1⟩ := x
    dsimp only at x0 x1 y0 y1 z0 z1 bX
    have cb := (hB.cell (p := ⟨w1.heap.size + 1, 0, none⟩) (show w1.heap.size + 1 < _ by omega)).trans p3
    have HS : Hid (∀ W', Below W.heap.size W W' → W'.cell? ⟨Bx, 0, none⟩ = some (.int .i64 y) ∧ W'.cell? ⟨Bx, 1, none⟩ = some (.int .i64 z) ∧ W'.cell? ⟨w1.heap.size + 1, 0, none⟩ = some (.int .i64 b)) := fun W' h' =>
      ⟨(h'.cell (p := ⟨Bx, 0, none⟩) bX.lt).trans (bX.cell 0 rfl), (h'.cell (p := ⟨Bx, 1, none⟩) bX.lt).trans (bX.cell 1 rfl), (h'.cell (p := ⟨w1.heap.size + 1, 0, none⟩) (show w1.heap.size + 1 < _ from World.block_lt_of_cell? W _ cb)).trans cb⟩
    have hBd : Below W.heap.size W W.drew := (Below.refl _ _).drew
    have HS0 : Hid (W.drew.cell? ⟨Bx, 0, none⟩ = some (.int .i64 y) ∧ W.drew.cell? ⟨Bx, 1, none⟩ = some (.int .i64 z) ∧ W.drew.cell? ⟨w1.heap.size + 1, 0, none⟩ = some (.int .i64 b)) := HS.out _ hBd
    have e0 : 0 ≤ (y + z) % 65537 * 32769 % 65537 := Int.emod_nonneg _ (by decide)
    have e1 : (y + z) % 65537 * 32769 % 65537 < 65537 := Int.emod_lt_of_pos _ (by decide)
    have o0 : 0 ≤ (y + 65537 - z) % 65537 * 32769 % 65537 * M.pw x 65535 % 65537 := Int.emod_nonneg _ (by decide)
    have o1 : (y + 65537 - z) % 65537 * 32769 % 65537 * M.pw x 65535 % 65537 < 65537 := Int.emod_lt_of_pos _ (by decide)
    have hfo : M.fo b ⟨(x, y, z), ⟨x0, x1⟩, ⟨y0, y1⟩, z0, z1⟩ = ((y + z) % 65537 * 32769 % 65537 + b * ((y + 65537 - z) % 65537 * 32769 % 65537 * M.pw x 65535 % 65537) % 65537) % 65537 := rfl
    obtain ⟨ve, HE⟩ : ∃ ve, Hid ((y + z) % 65537 * 32769 % 65537 = ve) := ⟨_, rfl⟩
    obtain ⟨vo, HO⟩ : ∃ vo, Hid ((y + 65537 - z) % 65537 * 32769 % 65537 * M.pw x 65535 % 65537 = vo) := ⟨_, rfl⟩
    rw [HE.out] at e0 e1 hfo
    rw [HO.out] at o0 o1 hfo
    have f0 : 0 ≤ b * vo % 65537 := Int.emod_nonneg _ (by decide)
    have f1 : b * vo % 65537 < 65537 := Int.emod_lt_of_pos _ (by decide)
    obtain ⟨vf, HF⟩ : ∃ vf, Hid (b * vo % 65537 = vf) := ⟨_, rfl⟩
    rw [HF.out] at f0 f1 hfo
    obtain ⟨val, HV⟩ : ∃ val, Hid ((ve + vf) % 65537 = val) := ⟨_, rfl⟩
    rw [HV.out] at hfo
    gi_wp2
    refine round_held (S := fun W' => W'.cell? ⟨Bx, 0, none⟩ = some (.int .i64 y) ∧ W'.cell? ⟨Bx, 1, none⟩ = some (.int .i64 z) ∧ W'.cell? ⟨w1.heap.size + 1, 0, none⟩ = some (.int .i64 b)) (by kernel_rfl) (noDefer_of (by kernel_rfl)) (by rintro ⟨_, _, h⟩; exact h) ?_
    refine wpAnyH_take (i := 1) (v := ?v1) rfl (by kernel_rfl) (by kernel_rfl) (by kernel_rfl) (fun _ _ _ h => h) (Or.inl ⟨by rfl, ?hy1⟩) HS0.out ?rest1
    case hy1 => (intro W' hS'; obtain ⟨u1, u2, u3⟩ := hS'; go_simp; try with_reducible rfl)
    try simp only [Act.put, List.setIfInBounds_toArray, List.set_cons_zero, List.set_cons_succ]
    refine wpAnyH_take (i := 3) (v := ?v3) rfl (by kernel_rfl) (by kernel_rfl) (by kernel_rfl) (fun _ _ _ h => h) (Or.inl ⟨by rfl, ?hy3⟩) HS0.out ?rest3
    case hy3 => (intro W' hS'; obtain ⟨u1, u2, u3⟩ := hS'; go_simp; try with_reducible rfl)
    try simp only [Act.put, List.setIfInBounds_toArray, List.set_cons_zero, List.set_cons_succ]
    refine wpAnyH_take (i := 4) (v := ?v4) rfl (by kernel_rfl) (by kernel_rfl) (by kernel_rfl) (fun _ _ _ h => h) (Or.inl ⟨by rfl, ?hy4⟩) HS0.out ?rest4
    case hy4 => (intro W' hS'; obtain ⟨u1, u2, u3⟩ := hS'; go_simp; try with_reducible rfl)
    try simp only [Act.put, List.setIfInBounds_toArray, List.set_cons_zero, List.set_cons_succ]
    refine wpAnyH_take (i := 5) (v := ?v5) rfl (by kernel_rfl) (by kernel_rfl) (by kernel_rfl) (fun _ _ _ h => h) (Or.inl ⟨by rfl, ?hy5⟩) HS0.out ?rest5
    case hy5 => (intro W' hS'; go_simp; try with_reducible rfl)
    try simp only [Act.put, List.setIfInBounds_toArray, List.set_cons_zero, List.set_cons_succ]
    refine wpAnyH_ready (rs := [0, 2]) (by kernel_rfl) (by simp) ?_
    refine AllReadyH.cons rfl (fun K hK => ?_) (AllReadyH.cons rfl (fun K hK => ?_) AllReadyH.nil)
    · skip
      have ho_ := (hBd.cell (p := ⟨w2.heap.size, 0, none⟩) hv.lt).trans hv.cell
      go_simp
      refine hK.out _ _ ?_ (fun hHeld => ?_)
      · exact HS.out _ hBd
      clear hK K
      try simp only [Act.put, List.setIfInBounds_toArray, List.set_cons_zero, List.set_cons_succ]
      refine wpAnyH_ready (rs := [2]) (by kernel_rfl) (by simp) ?_
      refine AllReadyH.cons rfl (fun K hK => ?_) AllReadyH.nil
      go_simp
      refine (even_any y z _ y0 y1 z0 z1).mono ?_
      rintro e W3 ⟨he, hb3⟩
      rw [HE.out] at he; subst he
      have hB3 : Below W.heap.size W W3 := hBd.trans (hb3.mono hBd.size)
      clear hb3
      go_simp
      refine hK.out _ _ ?_ (fun hHeld => ?_)
      · exact HS.out _ hB3
      clear hK K
      try simp only [Act.put, List.setIfInBounds_toArray, List.set_cons_zero, List.set_cons_succ]
      refine wpAnyH_ready (rs := [6]) (by kernel_rfl) (by simp) ?_
      refine AllReadyH.cons rfl (fun K hK => ?_) AllReadyH.nil
      go_simp
      refine (odd_any y z x _ y0 y1 z0 z1 x0 x1).mono ?_
      rintro e W4 ⟨he, hb4⟩
      rw [HO.out] at he; subst he
      have hB4 : Below W.heap.size W W4 := hB3.trans (hb4.mono hB3.size)
      clear hb4
      go_simp
      refine hK.out _ _ ?_ (fun hHeld => ?_)
      · exact HS.out _ hB4
      clear hK K
      try simp only [Act.put, List.setIfInBounds_toArray, List.set_cons_zero, List.set_cons_succ]
      refine wpAnyH_ready (rs := [7]) (by kernel_rfl) (by simp) ?_
      refine AllReadyH.cons rfl (fun K hK => ?_) AllReadyH.nil
      go_simp
      refine (times_any b _ _ b0 b1 o0 o1).mono ?_
      rintro e W5 ⟨he, rfl⟩
      rw [HF.out] at he; subst he
      go_simp
      refine hK.out _ _ ?_ (fun hHeld => ?_)
      · exact HS.out _ hB4
      clear hK K
      try simp only [Act.put, List.setIfInBounds_toArray, List.set_cons_zero, List.set_cons_succ]
      refine wpAnyH_ready (rs := [8]) (by kernel_rfl) (by simp) ?_
      refine AllReadyH.cons rfl (fun K hK => ?_) AllReadyH.nil
      go_simp
      refine (plus_any _ _ _ e0 e1 f0 f1).mono ?_
      rintro e W6 ⟨he, rfl⟩
      rw [HV.out] at he; subst he
      go_simp
      refine hK.out _ _ ?_ (fun hHeld => ?_)
      · exact HS.out _ hB4
      clear hK K
      try simp only [Act.put, List.setIfInBounds_toArray, List.set_cons_zero, List.set_cons_succ]
      refine wpAnyH_ready (rs := [9]) (by kernel_rfl) (by simp) ?_
      refine AllReadyH.cons rfl (fun K hK => ?_) AllReadyH.nil
      go_simp
      refine hK.out _ _ ?_ (fun hHeld => ?_)
      · exact HS.out _ (hB4.alloc hB4.size _)
      clear hK K
      try simp only [Act.put, List.setIfInBounds_toArray, List.set_cons_zero, List.set_cons_succ]
      refine wpAnyH_ready (rs := [10]) (by kernel_rfl) (by simp) ?_
      refine AllReadyH.cons rfl (fun K hK => ?_) AllReadyH.nil
      refine step_append_own rfl (.tmp 48) (.tmp 57) 55 rfl (w1.heap.size + 1 + 1) 52 i0 (.int .i64 0) 1 8 Try.underlying55 hi hz0 hz1 hz2 rfl (by decide) v pre.length (pre.map (fun t => Value.int .i64 (M.fo b t))) (by simp [Act.eval]) ((row_below hrow hB4).alloc _) ⟨W6.heap.size, 0, none⟩ 1 1 [Value.int .i64 val] (by simp [Act.eval]) rfl (cell_one W6 _ _) (one_int _) (by unfold maxLen; omega) (by omega) (by have := hB.size; have := hB4.size; simp; omega) ?_
      intro v' w7 hown' hgrow
      obtain ⟨g', cap', rfl⟩ := ownsRow_succ hown'
      obtain ⟨S7, S8, m1, m2, kf, k2, f1, f2, f3, f4, f5⟩ := fo_end (B0 := W0.heap.size) (by omega) (by omega) (by omega) (by omega) (by omega) (by omega) hB4 hv hrow hcB hbC bX rfl rfl hB cb hown' hgrow
      refine hK.out _ _ ?_ (fun hHeld => ?_)
      · exact S7
      clear hK K
      try simp only [Act.put, List.setIfInBounds_toArray, List.set_cons_zero, List.set_cons_succ]
      refine wpAnyH_ready (rs := [11]) (by kernel_rfl) (by simp) ?_
      refine AllReadyH.cons rfl (fun K hK => ?_) AllReadyH.nil
      go_simp
      refine hK.out _ _ ?_ (fun hHeld => ?_)
      · exact S8
      clear hK K
      try simp only [Act.put, List.setIfInBounds_toArray, List.set_cons_zero, List.set_cons_succ]
      refine wpAnyH_done (by kernel_rfl) ?_ _
      exact ⟨kf, k2, ⟨⟨⟨_, f1, by simpa [hfo] using f2, trivial⟩, f3⟩, f4⟩, f5⟩
    · skip
      go_simp
      refine (even_any y z _ y0 y1 z0 z1).mono ?_
      rintro e W3 ⟨he, hb3⟩
      rw [HE.out] at he; subst he
      have hB3 : Below W.heap.size W W3 := hBd.trans (hb3.mono hBd.size)
      clear hb3
      go_simp
      refine hK.out _ _ ?_ (fun hHeld => ?_)
      · exact HS.out _ hB3
      clear hK K
      try simp only [Act.put, List.setIfInBounds_toArray, List.set_cons_zero, List.set_cons_succ]
      refine wpAnyH_ready (rs := [0, 6]) (by kernel_rfl) (by simp) ?_
      refine AllReadyH.cons rfl (fun K hK => ?_) (AllReadyH.cons rfl (fun K hK => ?_) AllReadyH.nil)
      · skip
        have ho_ := (hB3.cell (p := ⟨w2.heap.size, 0, none⟩) hv.lt).trans hv.cell
        go_simp
        refine hK.out _ _ ?_ (fun hHeld => ?_)
        · exact HS.out _ hB3
        clear hK K
        try simp only [Act.put, List.setIfInBounds_toArray, List.set_cons_zero, List.set_cons_succ]
        refine wpAnyH_ready (rs := [6]) (by kernel_rfl) (by simp) ?_
        refine AllReadyH.cons rfl (fun K hK => ?_) AllReadyH.nil
        go_simp
        refine (odd_any y z x _ y0 y1 z0 z1 x0 x1).mono ?_
        rintro e W4 ⟨he, hb4⟩
        rw [HO.out] at he; subst he
        have hB4 : Below W.heap.size W W4 := hB3.trans (hb4.mono hB3.size)
        clear hb4
        go_simp
        refine hK.out _ _ ?_ (fun hHeld => ?_)
        · exact HS.out _ hB4
        clear hK K
        try simp only [Act.put, List.setIfInBounds_toArray, List.set_cons_zero, List.set_cons_succ]
        refine wpAnyH_ready (rs := [7]) (by kernel_rfl) (by simp) ?_
        refine AllReadyH.cons rfl (fun K hK => ?_) AllReadyH.nil
        go_simp
        refine (times_any b _ _ b0 b1 o0 o1).mono ?_
        rintro e W5 ⟨he, rfl⟩
        rw [HF.out] at he; subst he
        go_simp
        refine hK.out _ _ ?_ (fun hHeld => ?_)
        · exact HS.out _ hB4
        clear hK K
        try simp only [Act.put, List.setIfInBounds_toArray, List.set_cons_zero, List.set_cons_succ]
        refine wpAnyH_ready (rs := [8]) (by kernel_rfl) (by simp) ?_
        refine AllReadyH.cons rfl (fun K hK => ?_) AllReadyH.nil
        go_simp
        refine (plus_any _ _ _ e0 e1 f0 f1).mono ?_
        rintro e W6 ⟨he, rfl⟩
        rw [HV.out] at he; subst he
        go_simp
        refine hK.out _ _ ?_ (fun hHeld => ?_)
        · exact HS.out _ hB4
        clear hK K
        try simp only [Act.put, List.setIfInBounds_toArray, List.set_cons_zero, List.set_cons_succ]
        refine wpAnyH_ready (rs := [9]) (by kernel_rfl) (by simp) ?_
        refine AllReadyH.cons rfl (fun K hK => ?_) AllReadyH.nil
        go_simp
        refine hK.out _ _ ?_ (fun hHeld => ?_)
        · exact HS.out _ (hB4.alloc hB4.size _)
        clear hK K
        try simp only [Act.put, List.setIfInBounds_toArray, List.set_cons_zero, List.set_cons_succ]
        refine wpAnyH_ready (rs := [10]) (by kernel_rfl) (by simp) ?_
        refine AllReadyH.cons rfl (fun K hK => ?_) AllReadyH.nil
        refine step_append_own rfl (.tmp 48) (.tmp 57) 55 rfl (w1.heap.size + 1 + 1) 52 i0 (.int .i64 0) 1 8 Try.underlying55 hi hz0 hz1 hz2 rfl (by decide) v pre.length (pre.map (fun t => Value.int .i64 (M.fo b t))) (by simp [Act.eval]) ((row_below hrow hB4).alloc _) ⟨W6.heap.size, 0, none⟩ 1 1 [Value.int .i64 val] (by simp [Act.eval]) rfl (cell_one W6 _ _) (one_int _) (by unfold maxLen; omega) (by omega) (by have := hB.size; have := hB4.size; simp; omega) ?_
        intro v' w7 hown' hgrow
        obtain ⟨g', cap', rfl⟩ := ownsRow_succ hown'
        obtain ⟨S7, S8, m1, m2, kf, k2, f1, f2, f3, f4, f5⟩ := fo_end (B0 := W0.heap.size) (by omega) (by omega) (by omega) (by omega) (by omega) (by omega) hB4 hv hrow hcB hbC bX rfl rfl hB cb hown' hgrow
        refine hK.out _ _ ?_ (fun hHeld => ?_)
        · exact S7
        clear hK K
        try simp only [Act.put, List.setIfInBounds_toArray, List.set_cons_zero, List.set_cons_succ]
        refine wpAnyH_ready (rs := [11]) (by kernel_rfl) (by simp) ?_
        refine AllReadyH.cons rfl (fun K hK => ?_) AllReadyH.nil
        go_simp
        refine hK.out _ _ ?_ (fun hHeld => ?_)
        · exact S8
        clear hK K
        try simp only [Act.put, List.setIfInBounds_toArray, List.set_cons_zero, List.set_cons_succ]
        refine wpAnyH_done (by kernel_rfl) ?_ _
        exact ⟨kf, k2, ⟨⟨⟨_, f1, by simpa [hfo] using f2, trivial⟩, f3⟩, f4⟩, f5⟩
      · skip
        go_simp
        refine (odd_any y z x _ y0 y1 z0 z1 x0 x1).mono ?_
        rintro e W4 ⟨he, hb4⟩
        rw [HO.out] at he; subst he
        have hB4 : Below W.heap.size W W4 := hB3.trans (hb4.mono hB3.size)
        clear hb4
        go_simp
        refine hK.out _ _ ?_ (fun hHeld => ?_)
        · exact HS.out _ hB4
        clear hK K
        try simp only [Act.put, List.setIfInBounds_toArray, List.set_cons_zero, List.set_cons_succ]
        refine wpAnyH_ready (rs := [0, 7]) (by kernel_rfl) (by simp) ?_
        refine AllReadyH.cons rfl (fun K hK => ?_) (AllReadyH.cons rfl (fun K hK => ?_) AllReadyH.nil)
        · skip
          have ho_ := (hB4.cell (p := ⟨w2.heap.size, 0, none⟩) hv.lt).trans hv.cell
          go_simp
          refine hK.out _ _ ?_ (fun hHeld => ?_)
          · exact HS.out _ hB4
          clear hK K
          try simp only [Act.put, List.setIfInBounds_toArray, List.set_cons_zero, List.set_cons_succ]
          refine wpAnyH_ready (rs := [7]) (by kernel_rfl) (by simp) ?_
          refine AllReadyH.cons rfl (fun K hK => ?_) AllReadyH.nil
          go_simp
          refine (times_any b _ _ b0 b1 o0 o1).mono ?_
          rintro e W5 ⟨he, rfl⟩
          rw [HF.out] at he; subst he
          go_simp
          refine hK.out _ _ ?_ (fun hHeld => ?_)
          · exact HS.out _ hB4
          clear hK K
          try simp only [Act.put, List.setIfInBounds_toArray, List.set_cons_zero, List.set_cons_succ]
          refine wpAnyH_ready (rs := [8]) (by kernel_rfl) (by simp) ?_
          refine AllReadyH.cons rfl (fun K hK => ?_) AllReadyH.nil
          go_simp
          refine (plus_any _ _ _ e0 e1 f0 f1).mono ?_
          rintro e W6 ⟨he, rfl⟩
          rw [HV.out] at he; subst he
          go_simp
          refine hK.out _ _ ?_ (fun hHeld => ?_)
          · exact HS.out _ hB4
          clear hK K
          try simp only [Act.put, List.setIfInBounds_toArray, List.set_cons_zero, List.set_cons_succ]
          refine wpAnyH_ready (rs := [9]) (by kernel_rfl) (by simp) ?_
          refine AllReadyH.cons rfl (fun K hK => ?_) AllReadyH.nil
          go_simp
          refine hK.out _ _ ?_ (fun hHeld => ?_)
          · exact HS.out _ (hB4.alloc hB4.size _)
          clear hK K
          try simp only [Act.put, List.setIfInBounds_toArray, List.set_cons_zero, List.set_cons_succ]
          refine wpAnyH_ready (rs := [10]) (by kernel_rfl) (by simp) ?_
          refine AllReadyH.cons rfl (fun K hK => ?_) AllReadyH.nil
          refine step_append_own rfl (.tmp 48) (.tmp 57) 55 rfl (w1.heap.size + 1 + 1) 52 i0 (.int .i64 0) 1 8 Try.underlying55 hi hz0 hz1 hz2 rfl (by decide) v pre.length (pre.map (fun t => Value.int .i64 (M.fo b t))) (by simp [Act.eval]) ((row_below hrow hB4).alloc _) ⟨W6.heap.size, 0, none⟩ 1 1 [Value.int .i64 val] (by simp [Act.eval]) rfl (cell_one W6 _ _) (one_int _) (by unfold maxLen; omega) (by omega) (by have := hB.size; have := hB4.size; simp; omega) ?_
          intro v' w7 hown' hgrow
          obtain ⟨g', cap', rfl⟩ := ownsRow_succ hown'
          obtain ⟨S7, S8, m1, m2, kf, k2, f1, f2, f3, f4, f5⟩ := fo_end (B0 := W0.heap.size) (by omega) (by omega) (by omega) (by omega) (by omega) (by omega) hB4 hv hrow hcB hbC bX rfl rfl hB cb hown' hgrow
          refine hK.out _ _ ?_ (fun hHeld => ?_)
          · exact S7
          clear hK K
          try simp only [Act.put, List.setIfInBounds_toArray, List.set_cons_zero, List.set_cons_succ]
          refine wpAnyH_ready (rs := [11]) (by kernel_rfl) (by simp) ?_
          refine AllReadyH.cons rfl (fun K hK => ?_) AllReadyH.nil
          go_simp
          refine hK.out _ _ ?_ (fun hHeld => ?_)
          · exact S8
          clear hK K
          try simp only [Act.put, List.setIfInBounds_toArray, List.set_cons_zero, List.set_cons_succ]
          refine wpAnyH_done (by kernel_rfl) ?_ _
          exact ⟨kf, k2, ⟨⟨⟨_, f1, by simpa [hfo] using f2, trivial⟩, f3⟩, f4⟩, f5⟩
        · skip
          go_simp
          refine (times_any b _ _ b0 b1 o0 o1).mono ?_
          rintro e W5 ⟨he, rfl⟩
          rw [HF.out] at he; subst he
          go_simp
          refine hK.out _ _ ?_ (fun hHeld => ?_)
          · exact HS.out _ hB4
          clear hK K
          try simp only [Act.put, List.setIfInBounds_toArray, List.set_cons_zero, List.set_cons_succ]
          refine wpAnyH_ready (rs := [0, 8]) (by kernel_rfl) (by simp) ?_
          refine AllReadyH.cons rfl (fun K hK => ?_) (AllReadyH.cons rfl (fun K hK => ?_) AllReadyH.nil)
          · skip
            have ho_ := (hB4.cell (p := ⟨w2.heap.size, 0, none⟩) hv.lt).trans hv.cell
            go_simp
            refine hK.out _ _ ?_ (fun hHeld => ?_)
            · exact HS.out _ hB4
            clear hK K
            try simp only [Act.put, List.setIfInBounds_toArray, List.set_cons_zero, List.set_cons_succ]
            refine wpAnyH_ready (rs := [8]) (by kernel_rfl) (by simp) ?_
            refine AllReadyH.cons rfl (fun K hK => ?_) AllReadyH.nil
            go_simp
            refine (plus_any _ _ _ e0 e1 f0 f1).mono ?_
            rintro e W6 ⟨he, rfl⟩
            rw [HV.out] at he; subst he
            go_simp
            refine hK.out _ _ ?_ (fun hHeld => ?_)
            · exact HS.out _ hB4
            clear hK K
            try simp only [Act.put, List.setIfInBounds_toArray, List.set_cons_zero, List.set_cons_succ]
            refine wpAnyH_ready (rs := [9]) (by kernel_rfl) (by simp) ?_
            refine AllReadyH.cons rfl (fun K hK => ?_) AllReadyH.nil
            go_simp
            refine hK.out _ _ ?_ (fun hHeld => ?_)
            · exact HS.out _ (hB4.alloc hB4.size _)
            clear hK K
            try simp only [Act.put, List.setIfInBounds_toArray, List.set_cons_zero, List.set_cons_succ]
            refine wpAnyH_ready (rs := [10]) (by kernel_rfl) (by simp) ?_
            refine AllReadyH.cons rfl (fun K hK => ?_) AllReadyH.nil
            refine step_append_own rfl (.tmp 48) (.tmp 57) 55 rfl (w1.heap.size + 1 + 1) 52 i0 (.int .i64 0) 1 8 Try.underlying55 hi hz0 hz1 hz2 rfl (by decide) v pre.length (pre.map (fun t => Value.int .i64 (M.fo b t))) (by simp [Act.eval]) ((row_below hrow hB4).alloc _) ⟨W6.heap.size, 0, none⟩ 1 1 [Value.int .i64 val] (by simp [Act.eval]) rfl (cell_one W6 _ _) (one_int _) (by unfold maxLen; omega) (by omega) (by have := hB.size; have := hB4.size; simp; omega) ?_
            intro v' w7 hown' hgrow
            obtain ⟨g', cap', rfl⟩ := ownsRow_succ hown'
            obtain ⟨S7, S8, m1, m2, kf, k2, f1, f2, f3, f4, f5⟩ := fo_end (B0 := W0.heap.size) (by omega) (by omega) (by omega) (by omega) (by omega) (by omega) hB4 hv hrow hcB hbC bX rfl rfl hB cb hown' hgrow
            refine hK.out _ _ ?_ (fun hHeld => ?_)
            · exact S7
            clear hK K
            try simp only [Act.put, List.setIfInBounds_toArray, List.set_cons_zero, List.set_cons_succ]
            refine wpAnyH_ready (rs := [11]) (by kernel_rfl) (by simp) ?_
            refine AllReadyH.cons rfl (fun K hK => ?_) AllReadyH.nil
            go_simp
            refine hK.out _ _ ?_ (fun hHeld => ?_)
            · exact S8
            clear hK K
            try simp only [Act.put, List.setIfInBounds_toArray, List.set_cons_zero, List.set_cons_succ]
            refine wpAnyH_done (by kernel_rfl) ?_ _
            exact ⟨kf, k2, ⟨⟨⟨_, f1, by simpa [hfo] using f2, trivial⟩, f3⟩, f4⟩, f5⟩
          · skip
            go_simp
            refine (plus_any _ _ _ e0 e1 f0 f1).mono ?_
            rintro e W6 ⟨he, rfl⟩
            rw [HV.out] at he; subst he
            go_simp
            refine hK.out _ _ ?_ (fun hHeld => ?_)
            · exact HS.out _ hB4
            clear hK K
            try simp only [Act.put, List.setIfInBounds_toArray, List.set_cons_zero, List.set_cons_succ]
            refine wpAnyH_ready (rs := [0, 9]) (by kernel_rfl) (by simp) ?_
            refine AllReadyH.cons rfl (fun K hK => ?_) (AllReadyH.cons rfl (fun K hK => ?_) AllReadyH.nil)
            · skip
              have ho_ := (hB4.cell (p := ⟨w2.heap.size, 0, none⟩) hv.lt).trans hv.cell
              go_simp
              refine hK.out _ _ ?_ (fun hHeld => ?_)
              · exact HS.out _ hB4
              clear hK K
              try simp only [Act.put, List.setIfInBounds_toArray, List.set_cons_zero, List.set_cons_succ]
              refine wpAnyH_ready (rs := [9]) (by kernel_rfl) (by simp) ?_
              refine AllReadyH.cons rfl (fun K hK => ?_) AllReadyH.nil
              go_simp
              refine hK.out _ _ ?_ (fun hHeld => ?_)
              · exact HS.out _ (hB4.alloc hB4.size _)
              clear hK K
              try simp only [Act.put, List.setIfInBounds_toArray, List.set_cons_zero, List.set_cons_succ]
              refine wpAnyH_ready (rs := [10]) (by kernel_rfl) (by simp) ?_
              refine AllReadyH.cons rfl (fun K hK => ?_) AllReadyH.nil
              refine step_append_own rfl (.tmp 48) (.tmp 57) 55 rfl (w1.heap.size + 1 + 1) 52 i0 (.int .i64 0) 1 8 Try.underlying55 hi hz0 hz1 hz2 rfl (by decide) v pre.length (pre.map (fun t => Value.int .i64 (M.fo b t))) (by simp [Act.eval]) ((row_below hrow hB4).alloc _) ⟨W6.heap.size, 0, none⟩ 1 1 [Value.int .i64 val] (by simp [Act.eval]) rfl (cell_one W6 _ _) (one_int _) (by unfold maxLen; omega) (by omega) (by have := hB.size; have := hB4.size; simp; omega) ?_
              intro v' w7 hown' hgrow
              obtain ⟨g', cap', rfl⟩ := ownsRow_succ hown'
              obtain ⟨S7, S8, m1, m2, kf, k2, f1, f2, f3, f4, f5⟩ := fo_end (B0 := W0.heap.size) (by omega) (by omega) (by omega) (by omega) (by omega) (by omega) hB4 hv hrow hcB hbC bX rfl rfl hB cb hown' hgrow
              refine hK.out _ _ ?_ (fun hHeld => ?_)
              · exact S7
              clear hK K
              try simp only [Act.put, List.setIfInBounds_toArray, List.set_cons_zero, List.set_cons_succ]
              refine wpAnyH_ready (rs := [11]) (by kernel_rfl) (by simp) ?_
              refine AllReadyH.cons rfl (fun K hK => ?_) AllReadyH.nil
              go_simp
              refine hK.out _ _ ?_ (fun hHeld => ?_)
              · exact S8
              clear hK K
              try simp only [Act.put, List.setIfInBounds_toArray, List.set_cons_zero, List.set_cons_succ]
              refine wpAnyH_done (by kernel_rfl) ?_ _
              exact ⟨kf, k2, ⟨⟨⟨_, f1, by simpa [hfo] using f2, trivial⟩, f3⟩, f4⟩, f5⟩
            · skip
              go_simp
              refine hK.out _ _ ?_ (fun hHeld => ?_)
              · exact HS.out _ (hB4.alloc hB4.size _)
              clear hK K
              try simp only [Act.put, List.setIfInBounds_toArray, List.set_cons_zero, List.set_cons_succ]
              refine wpAnyH_ready (rs := [0]) (by kernel_rfl) (by simp) ?_
              refine AllReadyH.cons rfl (fun K hK => ?_) AllReadyH.nil
              have ho_ := ((hB4.alloc hB4.size (.cells #[Value.int .i64 val] 52)).cell (p := ⟨w2.heap.size, 0, none⟩) hv.lt).trans hv.cell
              go_simp
              refine hK.out _ _ ?_ (fun hHeld => ?_)
              · exact HS.out _ (hB4.alloc hB4.size (.cells #[Value.int .i64 val] 52))
              clear hK K
              try simp only [Act.put, List.setIfInBounds_toArray, List.set_cons_zero, List.set_cons_succ]
              refine wpAnyH_ready (rs := [10]) (by kernel_rfl) (by simp) ?_
              refine AllReadyH.cons rfl (fun K hK => ?_) AllReadyH.nil
              refine step_append_own rfl (.tmp 48) (.tmp 57) 55 rfl (w1.heap.size + 1 + 1) 52 i0 (.int .i64 0) 1 8 Try.underlying55 hi hz0 hz1 hz2 rfl (by decide) v pre.length (pre.map (fun t => Value.int .i64 (M.fo b t))) (by simp [Act.eval]) ((row_below hrow hB4).alloc _) ⟨W6.heap.size, 0, none⟩ 1 1 [Value.int .i64 val] (by simp [Act.eval]) rfl (cell_one W6 _ _) (one_int _) (by unfold maxLen; omega) (by omega) (by have := hB.size; have := hB4.size; simp; omega) ?_
              intro v' w7 hown' hgrow
              obtain ⟨g', cap', rfl⟩ := ownsRow_succ hown'
              obtain ⟨S7, S8, m1, m2, kf, k2, f1, f2, f3, f4, f5⟩ := fo_end (B0 := W0.heap.size) (by omega) (by omega) (by omega) (by omega) (by omega) (by omega) hB4 hv hrow hcB hbC bX rfl rfl hB cb hown' hgrow
              refine hK.out _ _ ?_ (fun hHeld => ?_)
              · exact S7
              clear hK K
              try simp only [Act.put, List.setIfInBounds_toArray, List.set_cons_zero, List.set_cons_succ]
              refine wpAnyH_ready (rs := [11]) (by kernel_rfl) (by simp) ?_
              refine AllReadyH.cons rfl (fun K hK => ?_) AllReadyH.nil
              go_simp
              refine hK.out _ _ ?_ (fun hHeld => ?_)
              · exact S8
              clear hK K
              try simp only [Act.put, List.setIfInBounds_toArray, List.set_cons_zero, List.set_cons_succ]
              refine wpAnyH_done (by kernel_rfl) ?_ _
              exact ⟨kf, k2, ⟨⟨⟨_, f1, by simpa [hfo] using f2, trivial⟩, f3⟩, f4⟩, f5⟩
  case done =>
    rintro D ys W hD rfl ⟨⟨⟨⟨v, hv, hrow, _⟩, hcB⟩, hbC⟩, hB⟩ hK
    have hc := hv.cell
    have hL : (M.opp zs s q h h).length = h := M.opp_len zs s q h h
    have hrow' : W.ownsRow (w1.heap.size + 1 + 1) 52 1 v h (((M.opp zs s q h h).map (M.fo b)).map (Value.int .i64)) := by rw [List.map_map]; rw [hL] at hrow; exact hrow
    obtain ⟨a3, c3, rfl, ho3⟩ := Owns.form hrow'
    have HO3 : Hid (Owns 52 W (w1.heap.size + 1 + 1) a3 h c3 ((M.opp zs s q h h).map (M.fo b))) := ho3
    clear hrow ho3 hrow' hcB hbC bO bB bC hr0
    gi_wp2_with (refine ⟨trivial, ?_⟩; gi_at_call 31; refine (callsIn_wide.2 (numbersOf_any _ HO3.out.sees (by omega))).mono ?_; rintro e w4 ⟨a4, c4, rfl, ho4, hb4⟩)
    have hlt : D < W.heap.size := (Array.getElem?_eq_some_iff.1 hK).1
    have hK4 : w4.heap[D]? = some (.deferred (some [])) := (hb4.block D hlt).trans hK
    have hB1w : w.heap.size ≤ w1.heap.size := HB1.out.size
    have hW2 : w2.heap.size ≤ W.heap.size := hB.size
    have HB4 : Below w.heap.size w w4 := (((HB1.out).trans (hb12.mono hB1w)).trans (hB.mono (by omega))).trans (hb4.mono (by omega))
    gi_wp2
    refine ⟨by simp, .inl ⟨_, _, rfl, run_takeDeferred hK4, ?_⟩⟩
    refine ⟨_, results_tmp2 rfl _ _ _, a4, c4, rfl, ?_, HB4.trans (belowK_b (w := w) (Nat.le_refl _) w4 D _ _ (by omega) hK4 rfl rfl)⟩
    rw [HQ.out]
    exact ownsRow_putObj (ho4.mono (by omega)) _ hK4 rfl
  case stop =>
    rintro D c pre W _ _ h _
    exact h.elim
end Go.Proofs.Ytjeoenieoejolah
