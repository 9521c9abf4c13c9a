/- A half of a polynomial in the program: what is gathered from the range over a function. -/
import Derived.Test.YtjeoenieoejolahHvA
import Derived.Test.YtjeoenieoejolahSlD
namespace Go.Proofs.Ytjeoenieoejolah
open Go.RowKit Go.Shelf

attribute [local go_sem] Oper.semAt_some

theorem ev2_stops (F : Fence) (n : Nat) (hF : F.fn 80) (hro : F.round = none) (hn : 1 ≤ n) (Bf Bz n₀ f : Nat) (hf : f ≤ 1) (a : Option Addr) (len cap : Nat) (hlen : len ≤ 1048576) (zs : List Int) (hb : ∀ x, a = some x → x.block < n₀) (w : World) (hBf' : Bf < w.heap.size) (hBz' : Bz < w.heap.size)
    (hBf : w.cell? ⟨Bf, 0, none⟩ = some (.int .i64 f)) (hBz : w.cell? ⟨Bz, 0, none⟩ = some (.slice a len cap)) (hz : Sees w a len cap zs) :
    SeqStopsK F n Try.prog 80 #[.pointer (some ⟨Bf, 0, none⟩), .pointer (some ⟨Bz, 0, none⟩)] (fun x : Int => #[Value.int .i64 x]) (KeepB n₀ Bz) (fun ys => ys = M.sec zs f) (fun _ => True) (M.secN len f) w := fun l J Jx W hW _ _ hY h0 =>
  ev2_in F n hF hro hn l Bf Bz n₀ f hf a len cap hlen zs hb J Jx hY W ((hW.cell (p := ⟨Bf, 0, none⟩) hBf').trans hBf) ((hW.cell (p := ⟨Bz, 0, none⟩) hBz').trans hBz) (hz.below hW) h0
theorem sees_block {w : World} {a : Option Addr} {n c : Nat} {zs : List Int} (h : Sees w a n c zs) (h0 : 0 < n) : ∀ x, a = some x → x.block < w.heap.size := by
  obtain ⟨b, off, rfl, hc⟩ := h.at h0
  intro x hx
  cases hx
  exact World.block_lt_of_cell? w _ (hc 0 h0)
set_option maxRecDepth 100000 in
set_option maxHeartbeats 4000000 in
theorem halfOf_pos {a : Option Addr} {len cap : Nat} {zs : List Int} (f : Nat) (hf : f ≤ 1) (w : World) (hz : Sees w a len cap zs) (hlen : len ≤ 1048576) (hb : ∀ x, a = some x → x.block < w.heap.size) :
    Calls Try.prog 37 #[.slice a len cap, .int .i64 f] w fun e w' => ∃ a' m c', e = .returned (.slice a' m c') ∧ Owns 52 w' w.heap.size a' m c' (M.trim (M.sec zs f)) ∧ Below w.heap.size w w' := by
  refine (callsIn_wide (n := 6)).1 ?_
  obtain ⟨i0, hi, hz0, hz1, hz2⟩ := info_parts info_el
  have HZ : Hid (Sees w a len cap zs) := hz
  have HSN : Hid (M.secN len f ≤ 1048576) := by show _ ≤ _; unfold M.secN; omega
  have HSL : Hid ((M.sec zs f).length ≤ 1048576) := by show _ ≤ _; unfold M.sec; rw [M.tab_len]; unfold M.secN; rw [hz.len]; omega
  refine callsIn_of_wp_marks Try.func37 rfl trivial ?_ rfl
  simp only [Try.ntmps37, List.size_toArray, List.length_cons, List.length_nil, Nat.reduceAdd, Nat.reduceSub, Array.replicate_succ, Array.replicate_zero, List.push_toArray, List.append_toArray, List.nil_append, List.cons_append]
  gi_wp2_with (gi_at_make; refine wpListIn_make_own _ rfl _ _ 55 rfl w.heap.size 52 i0 (.int .i64 0) 1 Try.underlying55 hi hz0 hz1 .i64 .i64 _ len rfl rfl rfl (by rw [hz2]; omega) (by unfold maxLen; omega) (Nat.le_refl _) ?_)
  intro w1 hown hg
  have hsz : w.heap.size + 1 ≤ w1.heap.size := by
    rcases hown.2 with ⟨e, _⟩ | ⟨g, cc, cur, e, _, hh, _⟩
    · cases e
    · simp only [Value.slice.injEq, Option.some.injEq, Addr.mk.injEq] at e
      obtain ⟨⟨rfl, -, -⟩, -, -⟩ := e
      exact (Array.getElem?_eq_some_iff.1 hh).1
  have hB1 : Below w.heap.size w w1 := below_grown hg
  gi_wp2_with (refine ⟨trivial, ?_⟩; gi_at_call 70; refine (everySecond_in Fence.wide _ trivial rfl _ _ _ _ _).mono ?_; rintro e w' ⟨rfl, rfl⟩)
  have bO : Boxed (((w1.alloc (.cells #[Value.slice (some ⟨w.heap.size, 0, none⟩) 0 len] 55)).alloc (.cells #[Value.slice a len cap] 59)).alloc (.cells #[Value.int .i64 f] 3)) w1.heap.size 55 (.slice (some ⟨w.heap.size, 0, none⟩) 0 len) := ((Boxed.new w1 55 _).alloc _).alloc _
  have bZ : Boxed (((w1.alloc (.cells #[Value.slice (some ⟨w.heap.size, 0, none⟩) 0 len] 55)).alloc (.cells #[Value.slice a len cap] 59)).alloc (.cells #[Value.int .i64 f] 3)) (w1.heap.size + 1) 59 (.slice a len cap) := by
    have h := (Boxed.new (w1.alloc (.cells #[Value.slice (some ⟨w.heap.size, 0, none⟩) 0 len] 55)) 59 (Value.slice a len cap)).alloc (.cells #[Value.int .i64 f] 3)
    rw [World.size_alloc] at h; exact h
  have bF : Boxed (((w1.alloc (.cells #[Value.slice (some ⟨w.heap.size, 0, none⟩) 0 len] 55)).alloc (.cells #[Value.slice a len cap] 59)).alloc (.cells #[Value.int .i64 f] 3)) (w1.heap.size + 1 + 1) 3 (.int .i64 f) := by
    have h := Boxed.new ((w1.alloc (.cells #[Value.slice (some ⟨w.heap.size, 0, none⟩) 0 len] 55)).alloc (.cells #[Value.slice a len cap] 59)) 3 (Value.int .i64 (f : Int))
    rw [World.size_alloc, World.size_alloc] at h; exact h
  have hB0 : Below w.heap.size w (((w1.alloc (.cells #[Value.slice (some ⟨w.heap.size, 0, none⟩) 0 len] 55)).alloc (.cells #[Value.slice a len cap] 59)).alloc (.cells #[Value.int .i64 f] 3)) := ((hB1.alloc hB1.size _).alloc (by simp; omega) _).alloc (by simp; omega) _
  have hr0 : (((w1.alloc (.cells #[Value.slice (some ⟨w.heap.size, 0, none⟩) 0 len] 55)).alloc (.cells #[Value.slice a len cap] 59)).alloc (.cells #[Value.int .i64 f] 3)).ownsRow w.heap.size 52 1 (.slice (some ⟨w.heap.size, 0, none⟩) 0 len) 0 [] := World.ownsRow.alloc (World.ownsRow.alloc (World.ownsRow.alloc hown _) _) _
  refine wpIn_rangeFunc_ownG rfl (by omega) (gf := 80) (lb := #[.pointer (some ⟨w1.heap.size + 1 + 1, 0, none⟩), .pointer (some ⟨w1.heap.size + 1, 0, none⟩)]) rfl trivial (enters_of Try.func80 (by kernel_rfl) rfl)
    (ev2_stops Fence.wide _ trivial rfl (by omega) (w1.heap.size + 1 + 1) (w1.heap.size + 1) w.heap.size f hf a len cap hlen zs hb _ (by simp) (by simp) bF.cell bZ.cell (HZ.out.below hB0)) KeepB.trans (KeepB.b (by simp; omega) (by simp)) (Below.refl _ _) (fun _ => rfl)
    (fun (pre : List Int) W => ((∃ v, Boxed W w1.heap.size 55 v ∧ W.ownsRow w.heap.size 52 1 v pre.length (pre.map (Value.int .i64)) ∧ True) ∧ Boxed W (w1.heap.size + 1) 59 (.slice a len cap)) ∧ Below w.heap.size w W)
    (fun _ _ _ => False)
    (OwnFrom.and (OwnFrom.and (Own.from (holdsRow_own w.heap.size w1.heap.size 55 52 1 (fun (pre : List Int) => pre.length) (fun (pre : List Int) => pre.map (Value.int .i64)) (fun _ _ => True)) _) (Own.from (boxed_own (w1.heap.size + 1) 59 (fun _ => Value.slice a len cap)) _)) (ownFrom_below (Nat.le_refl _) (by simp; omega)))
    (fun _ _ _ _ _ hs _ _ => hs)
    ⟨⟨⟨_, bO, hr0, trivial⟩, bZ⟩, hB0⟩
    (fun x => { tmps := #[.slice a len cap, .int .i64 f, undef, undef, .slice none 0 0, .pointer (some ⟨w1.heap.size, 0, none⟩), .int .i64 x, .slice a len cap, .int .i64 len, .slice (some ⟨w.heap.size, 0, none⟩) 0 len, .slice a len cap, .int .i64 f, .func (.func 80) #[] #[.pointer (some ⟨w1.heap.size + 1 + 1, 0, none⟩), .pointer (some ⟨w1.heap.size + 1, 0, none⟩)], .int .i64 x, undef, undef, undef, undef, undef, undef], defers := [] }) ?assign ?body ?done ?stop
  case assign =>
    intro l x W K hK
    gi_wp2
    exact hK
  case body =>
    rintro l pre x W ⟨⟨⟨v, hv, hrow, _⟩, hbz⟩, hB⟩ hlt
    have hc := hv.cell
    have hpl : pre.length ≤ 1048576 := by have := HSN.out; omega
    clear hlt bO bZ bF hr0 hB0
    gi_wp2_with (gi_at_builtin; refine wpListIn_append_own _ rfl _ _ 55 rfl w.heap.size 52 i0 (.int .i64 0) 1 8 Try.underlying55 hi hz0 hz1 hz2 rfl (by decide) _ _ _ rfl (hrow.alloc _) ⟨W.heap.size, 0, none⟩ 1 1 [.int .i64 x] rfl rfl (cell_one_new _ _ _) (by simp [Value.oneCell']) (by unfold maxLen; omega) (by omega) (by have := hB.size; simp; omega) ?_; intro v' w3 hown' hgrow _; obtain ⟨g', cap', rfl⟩ := ownsRow_succ hown'; have hbz3 := (hbz.alloc _).kept hgrow (hbz.not_row (by decide) hrow); obtain ⟨hv1, hv2, hr2, hk2, hb2⟩ := hv.appended (by decide) hrow hB.size (by omega) hown' hgrow; have hc1 := hv1.cell; have hf1 := hv1.frozen)
    have hbz4 := fun u => hbz3.other (B' := w1.heap.size) (by omega) u
    exact ⟨hk2.from _, ⟨hb2, (hbz4 _).trans hbz.symm⟩, ⟨⟨_, hv2, by simpa using hr2, trivial⟩, hbz4 _⟩, hB.trans hb2⟩
  case done =>
    rintro D ys W hD rfl ⟨⟨⟨v, hv, hrow, _⟩, hbz⟩, hB⟩ hK
    have hc := hv.cell
    obtain ⟨a3, c3, rfl, ho3⟩ := Owns.form hrow
    have HO3 : Hid (Owns 52 W w.heap.size a3 (M.sec zs f).length c3 (M.sec zs f)) := ho3
    have hL := HSL.out
    clear hrow ho3 hbz bO bZ bF hr0
    gi_wp2_with (refine ⟨trivial, ?_⟩; gi_at_call 65; refine (callsIn_wide.2 (trimmedPoly_any _ HO3.out.sees (by omega))).mono ?_; rintro e w4 ⟨a4, m4, c4, rfl, ho4, hb4⟩)
    have hlt : D < W.heap.size := (Array.getElem?_eq_some_iff.1 hK).1
    have hK4 : w4.heap[D]? = some (.deferred (some [])) := (hb4.block D hlt).trans hK
    have HB4 : Below w.heap.size w w4 := hB.trans (hb4.mono hB.size)
    gi_wp2
    refine ⟨by simp, .inl ⟨_, _, rfl, run_takeDeferred hK4, ?_⟩⟩
    exact ⟨_, results_tmp rfl _ _ _, a4, m4, c4, rfl, ownsRow_putObj (ho4.mono hB.size) _ hK4 rfl, HB4.trans (belowK_b (w := w) (Nat.le_refl _) w4 D _ _ (by simp at hD; omega) hK4 rfl rfl)⟩
  case stop =>
    rintro D c pre W _ _ h _
    exact h.elim
end Go.Proofs.Ytjeoenieoejolah
