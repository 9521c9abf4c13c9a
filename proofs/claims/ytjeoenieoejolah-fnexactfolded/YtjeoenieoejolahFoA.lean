/- Folds in the program: what is told of two opposite values, and the range over them. -/
import Derived.OrdersHeld
import Derived.OrdersIn
import Derived.TacticsIn
import Derived.RangeFuncCalls
import Derived.RangeFuncNested
import Derived.Test.YtjeoenieoejolahHvA
import Derived.Test.YtjeoenieoejolahTrA
namespace Go.Proofs.Ytjeoenieoejolah
open Go.RowKit

theorem rowsIn_of_rows {n l : Nat} {P : Program} {row : String} {args : Array Value} {w : World} {R : Value → World → Prop} (h : Rows P row args w R) : RowsIn (Fence.wide.inRound l) n P row args w R := by
  intro c cs _
  obtain ⟨v, w', r, s⟩ := h c cs
  exact ⟨v, w', r, stepsIn_wide.2 s⟩
theorem opIn_of_op {n l : Nat} {P : Program} {ops : Array Oper} {Q : Exit → Act → World → Prop} {i : Nat} {K : Act → World → Prop} {a : Act} {w : World}
    (hnd : ∀ (j : Nat) (o : Oper) c, ops[j]? = some o → o.op ≠ Op.defer c) (hQ : ¬ LetsOut Q) (h : wpOp P ops Q i K a w) : wpOpIn (Fence.wide.inRound l) n P ops Q i K a w := by
  unfold wpOp at h
  unfold wpOpIn
  cases ho : ops[i]? with
  | none => simpa [ho] using h
  | some o =>
    simp only [ho] at h ⊢
    by_cases hw : Region.wanted o (yielded ops a.tmps) = true
    · rw [if_pos hw] at h ⊢
      rcases h with h | h
      · refine ⟨fun _ _ => trivial, ?_⟩
        show o.uponIn (Fence.wide.inRound l) n P a K Q ((o.semAt (some l) a.eval).run P w)
        rw [Oper.semAt_some l a.eval o (fun c => hnd i o c ho)]
        unfold Oper.wp at h
        generalize (execOp a.eval o).run P w = r at h ⊢
        cases r with
        | ok nx w' =>
          cases nx <;> simp only [Oper.upon, Oper.uponIn] at h ⊢
          case value => exact h
          case skip => exact h
          case defer => exact h
          case enter => exact ⟨(fun h => by cases h), CallsIn.inRound l (callsIn_wide.2 h)⟩
          case row => exact ⟨(fun h => by cases h), rowsIn_of_rows h⟩
        | halt x w' => cases x <;> simp only [Oper.upon, Oper.uponIn] at h ⊢; exact h
      · exact absurd h.2 hQ
    · rw [if_neg hw] at h ⊢
      exact ⟨fun _ _ => trivial, h⟩
theorem anyIn_of_any {n l : Nat} {P : Program} {md : Region.Mode} {ops : Array Oper} {Q : Exit → Act → World → Prop} (hnd : ∀ (j : Nat) (o : Oper) c, ops[j]? = some o → o.op ≠ Op.defer c) (hQ : ¬ LetsOut Q) :
    ∀ (fuel : Nat) (listed : Array Bool) (a : Act) (w : World), wpAny P md ops Q fuel listed a w → wpAnyIn (Fence.wide.inRound l) n P md ops Q fuel listed a w
  | 0, _, _, _, h => h
  | fuel + 1, _, _, _, h => ⟨h.1, fun i hi => wpOpIn_mono (fun a' w' h' => anyIn_of_any hnd hQ fuel _ a' w' h') (opIn_of_op hnd hQ (h.2 i hi))⟩
/-- a region that draws, in a round: by what is held in every world that meets S -/
theorem round_held {n l : Nat} {P : Program} {id : Nat} {ops : Array Oper} {Q : Exit → Act → World → Prop} {S : World → Prop} {a : Act} {w : World} (hm : P.follows .mixedOrders = true) (hnd : ∀ (j : Nat) (o : Oper) c, ops[j]? = some o → o.op ≠ Op.defer c) (hQ : ¬ LetsOut Q)
    (h : wpAnyH P .any ops Q S ops.size (Array.replicate ops.size false) a w.drew) : (Code.region id ops true).wpIn (Fence.wide.inRound l) n P Q a w :=
  wpIn_region_any hm (anyIn_of_any hnd hQ _ _ _ _ (wpAny_of_held _ _ _ _ h))
theorem noDefer_of {ops : Array Oper} (h : ops.all (fun o => match o.op with | .defer _ => false | _ => true) = true) : ∀ (j : Nat) (o : Oper) c, ops[j]? = some o → o.op ≠ Op.defer c := by
  intro j o c hj e
  have hm := (Array.all_eq_true_iff_forall_mem.1 h) o (Array.mem_of_getElem? hj)
  rw [e] at hm
  cases hm
end Go.Proofs.Ytjeoenieoejolah
namespace Go.Proofs.Ytjeoenieoejolah
open Go.RowKit Go.Shelf

attribute [local go_sem] Oper.semAt_some

set_option maxHeartbeats 1000000 in
theorem even_any (y z : Int) (w : World) (y0 : 0 ≤ y) (y1 : y < 65537) (z0 : 0 ≤ z) (z1 : z < 65537) :
    Calls Try.prog 46 #[.agg #[.int .i64 y, .int .i64 z]] w fun e w' => e = .returned (.int .i64 ((y + z) % 65537 * 32769 % 65537)) ∧ Below w.heap.size w w' := by
  have s0 : 0 ≤ (y + z) % 65537 := Int.emod_nonneg _ (by decide)
  have s1 : (y + z) % 65537 < 65537 := Int.emod_lt_of_pos _ (by decide)
  go_enter Try.func46, Try.ntmps46
  go_wp2_with fail
  refine (plus_any y z _ y0 y1 z0 z1).mono ?_
  rintro e w1 ⟨rfl, rfl⟩
  go_wp2_with fail
  refine (times_any ((y + z) % 65537) 32769 _ s0 s1 (by omega) (by omega)).mono ?_
  rintro e w1 ⟨rfl, rfl⟩
  go_wp2
  go_ret
  exact ⟨rfl, (Below.refl _ _).alloc (Nat.le_refl _) _⟩
set_option maxHeartbeats 1000000 in
theorem odd_any (y z x : Int) (w : World) (y0 : 0 ≤ y) (y1 : y < 65537) (z0 : 0 ≤ z) (z1 : z < 65537) (x0 : 0 ≤ x) (x1 : x < 65537) :
    Calls Try.prog 49 #[.agg #[.int .i64 y, .int .i64 z], .int .i64 x] w fun e w' => e = .returned (.int .i64 ((y + 65537 - z) % 65537 * 32769 % 65537 * M.pw x 65535 % 65537)) ∧ Below w.heap.size w w' := by
  have s0 : 0 ≤ (y + 65537 - z) % 65537 := Int.emod_nonneg _ (by decide)
  have s1 : (y + 65537 - z) % 65537 < 65537 := Int.emod_lt_of_pos _ (by decide)
  obtain ⟨p0, p1⟩ := M.pw_bd x 65535
  go_enter Try.func49, Try.ntmps49
  go_wp2_with fail
  refine (minus_any y z _ y0 y1 z0 z1).mono ?_
  rintro e w1 ⟨rfl, rfl⟩
  go_wp2_with fail
  refine (times_any ((y + 65537 - z) % 65537) 32769 _ s0 s1 (by omega) (by omega)).mono ?_
  rintro e w1 ⟨rfl, rfl⟩
  have t0 : 0 ≤ (y + 65537 - z) % 65537 * 32769 % 65537 := Int.emod_nonneg _ (by decide)
  have t1 : (y + 65537 - z) % 65537 * 32769 % 65537 < 65537 := Int.emod_lt_of_pos _ (by decide)
  go_wp2_with fail
  refine (inverse_any x _ x0 x1).mono ?_
  rintro e w1 ⟨rfl, rfl⟩
  go_wp2_with fail
  refine (times_any ((y + 65537 - z) % 65537 * 32769 % 65537) (M.pw x 65535) _ t0 t1 p0 p1).mono ?_
  rintro e w1 ⟨rfl, rfl⟩
  go_wp2
  go_ret
  exact ⟨rfl, (Below.refl _ _).alloc (Nat.le_refl _) _⟩
/-- three elements: a point, the value there, the value opposite -/
abbrev E3 := { t : Int × Int × Int // (0 ≤ t.1 ∧ t.1 < 65537) ∧ (0 ≤ t.2.1 ∧ t.2.1 < 65537) ∧ (0 ≤ t.2.2 ∧ t.2.2 < 65537) }
def E3.of (x y z : Int) : E3 := ⟨(x % 65537, y % 65537, z % 65537), ⟨Int.emod_nonneg _ (by decide), Int.emod_lt_of_pos _ (by decide)⟩, ⟨Int.emod_nonneg _ (by decide), Int.emod_lt_of_pos _ (by decide)⟩, ⟨Int.emod_nonneg _ (by decide), Int.emod_lt_of_pos _ (by decide)⟩⟩
def E3.enc (t : E3) : Array Value := #[Value.int .i64 t.1.1, .agg #[.int .i64 t.1.2.1, .int .i64 t.1.2.2]]
def M.opp (zs : List Int) (s q : Int) (h k : Nat) : List E3 := (List.range k).map fun i => E3.of (s * q ^ i) (zs.getD i 0) (zs.getD (i + h) 0)
theorem M.opp_len (zs : List Int) (s q : Int) (h k : Nat) : (M.opp zs s q h k).length = k := by simp [M.opp]
theorem M.opp_snoc (zs : List Int) (s q : Int) (h k : Nat) : M.opp zs s q h k ++ [E3.of (s * q ^ k) (zs.getD k 0) (zs.getD (k + h) 0)] = M.opp zs s q h (k + 1) := by
  simp [M.opp, List.range_succ]
/-- what a round keeps: all below n₀, and the blocks B, C -/
def Keep2 (n₀ B C : Nat) (W W' : World) : Prop := Below n₀ W W' ∧ W'.heap[B]? = W.heap[B]? ∧ W'.heap[C]? = W.heap[C]?
theorem Keep2.trans {n₀ B C : Nat} {X Y Z : World} (h : Keep2 n₀ B C X Y) (h2 : Keep2 n₀ B C Y Z) : Keep2 n₀ B C X Z := ⟨h.1.trans h2.1, h2.2.1.trans h.2.1, h2.2.2.trans h.2.2⟩
theorem Keep2.b {n₀ B C : Nat} {w : World} (h : n₀ ≤ w.heap.size) (hB : B < w.heap.size) (hC : C < w.heap.size) : ∀ (W : World) (l : Nat) (o o' : Obj), w.heap.size ≤ l → W.heap[l]? = some o → o.isCells = false → o.isWalk = false → Keep2 n₀ B C W (W.putObj l o') :=
  fun W l o o' hl ho hc hw => ⟨belowK_b h W l o o' hl ho hc hw, (belowK_b (n₀ := B + 1) (w := w) hB W l o o' hl ho hc hw).block B (by omega), (belowK_b (n₀ := C + 1) (w := w) hC W l o o' hl ho hc hw).block C (by omega)⟩
theorem Keep2.cellB {n₀ B C : Nat} {W W' : World} (h : Keep2 n₀ B C W W') {i : Nat} {v : Value} (hc : W.cell? ⟨B, i, none⟩ = some v) : W'.cell? ⟨B, i, none⟩ = some v := by
  rw [← hc]; simp only [World.cell?, h.2.1]
theorem Keep2.cellC {n₀ B C : Nat} {W W' : World} (h : Keep2 n₀ B C W W') {i : Nat} {v : Value} (hc : W.cell? ⟨C, i, none⟩ = some v) : W'.cell? ⟨C, i, none⟩ = some v := by
  rw [← hc]; simp only [World.cell?, h.2.2]
set_option maxRecDepth 100000 in
set_option maxHeartbeats 4000000 in
theorem opp_in (F : Fence) (n : Nat) (hF : F.fn 71) (hFt : F.fn 48) (hwide : F = Fence.wide) (hn : 2 ≤ n) (l B C n₀ N h : Nat) (hN : N = 2 * h) (hN1 : N ≤ 64) (h0' : 0 < h) (s q : Int) (s0 : 0 ≤ s) (s1 : s < 65537) (q0 : 0 ≤ q) (q1 : q < 65537) (a : Option Addr) (cap : Nat) (zs : List Int) (az : M.allEl zs = true) (hb : ∀ x, a = some x → x.block < n₀) (J Jx : List E3 → World → Prop)
    (hY : ∀ pre x W, J pre W → pre.length < h → YieldAt F (n - 1) Try.prog l (E3.enc x) W fun e W' =>
      (e = .returned (.bool true) ∧ J (pre ++ [x]) W' ∧ Keep2 n₀ B C W W') ∨ (e = .returned (.bool false) ∧ Jx (pre ++ [x]) W'))
    (W : World) (hB0 : W.cell? ⟨B, 0, none⟩ = some (.int .i64 N)) (hB1 : W.cell? ⟨B, 1, none⟩ = some (.int .i64 s)) (hB2 : W.cell? ⟨B, 2, none⟩ = some (.int .i64 q)) (hC : W.cell? ⟨C, 0, none⟩ = some (.slice a N cap)) (hz : Sees W a N cap zs) (h0 : J [] W) :
    CallsIn F n Try.prog 71 #[.func (.yield l) #[] #[], .pointer (some ⟨B, 0, none⟩), .pointer (some ⟨C, 0, none⟩)] W fun e W' => (∃ v, e = .returned v) ∧
      ((∃ ys, ys = M.opp zs s q h h ∧ J ys W') ∨ (∃ pre, True ∧ Jx pre W')) := by
  subst hwide
  have h1n : 1 ≤ n := by omega
  have HZ : Hid (Sees W a N cap zs) := hz
  have hcap := hz.le
  have HA : Hid (M.allEl zs = true) := az
  have HB2 : Hid (W.cell? ⟨B, 2, none⟩ = some (.int .i64 q)) := hB2
  have HC : Hid (W.cell? ⟨C, 0, none⟩ = some (.slice a N cap)) := hC
  have HN : Hid (N = 2 * h) := hN
  have HG0 : Hid (s = s * q ^ 0 % 65537) := M.gp_zero s0 s1 q
  have t1 : (N : Int) / 2 = (h : Int) := by omega
  have t2 : (N : Int).tdiv 2 = (h : Int) := by rw [Int.tdiv_eq_ediv_of_nonneg (by omega)]; exact t1
  have hh0 : (0 : Int) ≤ (h : Int) := by omega
  have hhc : (h : Int) ≤ (cap : Int) := by omega
  have hhc' : h ≤ cap := by omega
  have hhN : (h : Int) ≤ (N : Int) := by omega
  clear hz az hN
  obtain ⟨b1, o1, rfl, hc1⟩ := HZ.out.at (by omega)
  refine callsIn_of_wp Try.func71 rfl trivial ?_ rfl
  simp only [Try.ntmps71, List.size_toArray, List.length_cons, List.length_nil, Nat.reduceAdd, Nat.reduceSub, Array.replicate_succ, Array.replicate_zero, List.push_toArray, List.append_toArray, List.nil_append, List.cons_append]
  gi_wp2
  gi_loopw [5, 17] (fun xv i wr => ∃ k : Nat, k ≤ h ∧ i = .int .i64 k ∧ xv = .int .i64 (s * q ^ k % 65537) ∧ J (M.opp zs s q h k) wr ∧ Keep2 n₀ B C W wr)
    (fun _ i _ => h - (intOf i).toNat)
  case atStart => exact ⟨0, Nat.zero_le _, rfl, by rw [← HG0.out], h0, Below.refl _ _, rfl, rfl⟩
  case round =>
    obtain ⟨k, hk, rfl, rfl, hJs, hkb⟩ := hrel
    have HKB : Hid (Keep2 n₀ B C W wr) := hkb
    have hcz := hkb.cellC HC.out
    have hT : Hid (s * q ^ k % 65537 * q % 65537 = s * q ^ (k + 1) % 65537) := M.gp_step s q k
    clear hkb hC hB0 hB1 hB2
    by_cases hlt : k < h
    · have c1 := (HKB.out.1.cell (p := ⟨b1, o1 + k, none⟩) (hb ⟨b1, o1, none⟩ rfl)).trans (hc1 k (by have := HN.out; omega))
      have c2 := (HKB.out.1.cell (p := ⟨b1, o1 + (k + h), none⟩) (hb ⟨b1, o1, none⟩ rfl)).trans (hc1 (k + h) (by have := HN.out; omega))
      have y01 := M.el_at HA.out k
      have z01 := M.el_at HA.out (k + h)
      have x01 : 0 ≤ s * q ^ k % 65537 ∧ s * q ^ k % 65537 < 65537 := by omega
      have HS : Hid (M.opp zs s q h k ++ [E3.of (s * q ^ k) (zs.getD k 0) (zs.getD (k + h) 0)] = M.opp zs s q h (k + 1)) := M.opp_snoc zs s q h k
      obtain ⟨fn, tmps, assign, body, hy, hR⟩ := hY _ (E3.of (s * q ^ k) (zs.getD k 0) (zs.getD (k + h) 0)) wr hJs (by rw [M.opp_len]; exact hlt)
      have he : E3.enc (E3.of (s * q ^ k) (zs.getD k 0) (zs.getD (k + h) 0)) = #[Value.int .i64 (s * q ^ k % 65537), .agg #[.int .i64 (zs.getD k 0), .int .i64 (zs.getD (k + h) 0)]] := by
        show #[Value.int .i64 (s * q ^ k % 65537), .agg #[.int .i64 (zs.getD k 0 % 65537), .int .i64 (zs.getD (k + h) 0 % 65537)]] = _
        rw [Int.emod_eq_of_lt y01.1 y01.2, Int.emod_eq_of_lt z01.1 z01.2]
      rw [he] at hy
      clear he
      generalize (E3.of (s * q ^ k) (zs.getD k 0) (zs.getD (k + h) 0)) = t3 at HS hR
      generalize zs.getD k 0 = y at c1 hy y01
      generalize zs.getD (k + h) 0 = z at c2 hy z01
      generalize s * q ^ k % 65537 = x at hy x01 hT ⊢
      obtain ⟨kh, hkh⟩ : ∃ kh, kh = k + h := ⟨_, rfl⟩
      rw [← hkh] at c2
      have hkI : (k : Int) + (h : Int) = (kh : Int) := by omega
      have hkN : (kh : Int) < (N : Int) := by have := HN.out; omega
      have hI : (k : Int) < (h : Int) := by omega
      obtain ⟨x0, x1⟩ := x01
      clear hkh
      gi_wp2
      refine hR.mono ?_
      rintro e W3 (⟨rfl, hJ3, hk3⟩ | ⟨rfl, hJx3⟩)
      · have cq := (HKB.out.trans hk3).cellB HB2.out
        have HK3 : Hid (Keep2 n₀ B C W W3) := HKB.out.trans hk3
        clear hk3
        gi_wp2_with (gi_at_call 48; refine (callsIn_wide.2 (times_any x q _ x0 x1 q0 q1)).mono ?_; rintro e w' ⟨rfl, rfl⟩)
        go_roundw
        case rel => exact ⟨k + 1, by omega, by go_num, by rw [hT.out], by rw [← HS.out]; exact hJ3, HK3.out⟩
        case measure => simp [intOf]; omega
      · gi_wp2
        refine bodyPost_ret (results_none rfl _ _ _) rfl ?_
        exact ⟨⟨_, rfl⟩, .inr ⟨_, trivial, hJx3⟩⟩
    · have hkh : k = h := by omega
      subst hkh
      gi_wp2
      go_end0
      first | exact ⟨⟨_, rfl⟩, .inl ⟨_, rfl, hJs⟩⟩ | exact ⟨⟨_, rfl⟩, .inl hJs⟩
end Go.Proofs.Ytjeoenieoejolah
