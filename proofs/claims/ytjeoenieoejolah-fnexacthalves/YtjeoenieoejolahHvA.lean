/- The halves of a polynomial in the program: a range over a function. -/
import Derived.RangeFuncBox
import Derived.RangeFuncNested
import Derived.RangeFuncLeaves
import Derived.Shelf.Abstract
import Derived.WalkKit
import Derived.OwnWalkIn
import Derived.TacticsInMore
import Derived.LoopNIn
import Derived.LoopIn
import Derived.Maps.AppendAt
import Derived.Test.YtjeoenieoejolahSlH
namespace Go.Proofs.Ytjeoenieoejolah
open Go.RowKit Go.Shelf

attribute [local go_sem] Oper.semAt_some

/-- how many of n places are f, f + 2 .. -/
def M.secN (n f : Nat) : Nat := (n + 1 - f) / 2
def M.sec (zs : List Int) (f : Nat) : List Int := M.tab (M.secN zs.length f) (fun i => zs.getD (f + 2 * i) 0)
/-- what a round keeps: all below n₀, and the block B -/
def KeepB (n₀ B : Nat) (W W' : World) : Prop := Below n₀ W W' ∧ W'.heap[B]? = W.heap[B]?
theorem KeepB.trans {n₀ B : Nat} {A C D : World} (h : KeepB n₀ B A C) (h2 : KeepB n₀ B C D) : KeepB n₀ B A D := ⟨h.1.trans h2.1, h2.2.trans h.2⟩
theorem KeepB.b {n₀ B : Nat} {w : World} (h : n₀ ≤ w.heap.size) (hB : B < w.heap.size) : ∀ (W : World) (l : Nat) (o o' : Obj), w.heap.size ≤ l → W.heap[l]? = some o → o.isCells = false → o.isWalk = false → KeepB n₀ B W (W.putObj l o') :=
  fun W l o o' hl ho hc hw => ⟨belowK_b h W l o o' hl ho hc hw, (belowK_b (n₀ := B + 1) (w := w) hB W l o o' hl ho hc hw).block B (by omega)⟩
theorem KeepB.cell {n₀ B : Nat} {W W' : World} (h : KeepB n₀ B W W') {v : Value} (hc : W.cell? ⟨B, 0, none⟩ = some v) : W'.cell? ⟨B, 0, none⟩ = some v := by
  rw [← hc]; simp only [World.cell?, h.2]
set_option maxRecDepth 100000 in
set_option maxHeartbeats 2000000 in
theorem ev2_in (F : Fence) (n : Nat) (hF : F.fn 80) (hro : F.round = none) (hn : 1 ≤ n) (l Bf Bz n₀ f : Nat) (hf : f ≤ 1) (a : Option Addr) (len cap : Nat) (hlen : len ≤ 1048576) (zs : List Int) (hb : ∀ x, a = some x → x.block < n₀) (J Jx : List Int → World → Prop)
    (hY : ∀ pre x W, J pre W → pre.length < M.secN len f → YieldAt F (n - 1) Try.prog l #[.int .i64 x] W fun e W' =>
      (e = .returned (.bool true) ∧ J (pre ++ [x]) W' ∧ KeepB n₀ Bz W W') ∨ (e = .returned (.bool false) ∧ Jx (pre ++ [x]) W'))
    (W : World) (hBf : W.cell? ⟨Bf, 0, none⟩ = some (.int .i64 f)) (hBz : W.cell? ⟨Bz, 0, none⟩ = some (.slice a len cap)) (hz : Sees W a len cap zs) (h0 : J [] W) :
    CallsIn F n Try.prog 80 #[.func (.yield l) #[] #[], .pointer (some ⟨Bf, 0, none⟩), .pointer (some ⟨Bz, 0, none⟩)] W fun e W' => (∃ v, e = .returned v) ∧
      ((∃ ys, ys = M.sec zs f ∧ J ys W') ∨ (∃ pre, True ∧ Jx pre W')) := by
  have HZ : Hid (Sees W a len cap zs) := hz
  have HBz : Hid (W.cell? ⟨Bz, 0, none⟩ = some (.slice a len cap)) := hBz
  have HSec : Hid (M.tab (M.secN len f) (fun i => zs.getD (f + 2 * i) 0) = M.sec zs f) := by show _ = _; unfold M.sec; rw [hz.len]
  clear hz
  refine callsIn_of_wp Try.func80 rfl hF ?_ hro
  simp only [Try.ntmps80, List.size_toArray, List.length_cons, List.length_nil, Nat.reduceAdd, Nat.reduceSub, Array.replicate_succ, Array.replicate_zero, List.push_toArray, List.append_toArray, List.nil_append, List.cons_append]
  gi_wp2
  gi_loopw [4] (fun i wr => ∃ k j : Nat, j = f + 2 * k ∧ k ≤ M.secN len f ∧ i = .int .i64 j ∧ J (M.tab k (fun i => zs.getD (f + 2 * i) 0)) wr ∧ KeepB n₀ Bz W wr)
    (fun i _ => len + 2 - (intOf i).toNat)
  case atStart => exact ⟨0, f, by omega, Nat.zero_le _, rfl, h0, Below.refl _ _, rfl⟩
  case round =>
    obtain ⟨k, j, hj, hk, rfl, hJs, hkb⟩ := hrel
    have HK : Hid (k ≤ M.secN len f) := hk
    have HJ : Hid (j = f + 2 * k) := hj
    have HS : Hid (M.secN len f = (len + 1 - f) / 2) := rfl
    have HKB : Hid (KeepB n₀ Bz W wr) := hkb
    have hcz := hkb.cell HBz.out
    clear hk hj hkb hBz
    by_cases hlt : j < len
    · obtain ⟨b, off, rfl, hc⟩ := HZ.out.at (by omega)
      have c1 := (HKB.out.1.cell (p := ⟨b, off + j, none⟩) (hb ⟨b, off, none⟩ rfl)).trans (hc j hlt)
      have HT : Hid (M.tab k (fun i => zs.getD (f + 2 * i) 0) ++ [zs.getD j 0] = M.tab (k + 1) (fun i => zs.getD (f + 2 * i) 0)) := by
        show _ = _
        rw [HJ.out]; exact M.tab_snoc k (fun i => zs.getD (f + 2 * i) 0)
      generalize zs.getD j 0 = x at c1 HT
      have hklt : k < M.secN len f := by have h1 := HS.out; have h2 := HJ.out; omega
      obtain ⟨fn, tmps, assign, body, hy, hR⟩ := hY _ x wr hJs (by rw [M.tab_len]; exact hklt)
      have hI : (j : Int) < (len : Int) := by omega
      clear hc hklt
      gi_wp2
      refine hR.mono ?_
      rintro e W3 (⟨rfl, hJ3, hk3⟩ | ⟨rfl, hJx3⟩)
      · gi_wp2
        go_roundw
        case rel => exact ⟨k + 1, j + 2, by have := HJ.out; omega, by have h1 := HS.out; have h2 := HJ.out; omega, by go_num, by rw [← HT.out]; exact hJ3, HKB.out.trans hk3⟩
        case measure => simp [intOf]; omega
      · gi_wp2
        refine bodyPost_ret (results_none rfl _ _ _) rfl ?_
        exact ⟨⟨_, rfl⟩, .inr ⟨_, trivial, hJx3⟩⟩
    · have HE : Hid (k = M.secN len f) := by show _ = _; have h1 := HS.out; have h2 := HJ.out; have h3 := HK.out; omega
      have hI : ¬ (j : Int) < (len : Int) := by omega
      gi_wp2
      go_end0
      have hfin : J (M.sec zs f) wr := by rw [← HSec.out, ← HE.out]; exact hJs
      first | exact ⟨⟨_, rfl⟩, .inl ⟨_, rfl, hfin⟩⟩ | exact ⟨⟨_, rfl⟩, .inl hfin⟩
set_option maxHeartbeats 1000000 in
theorem everySecond_in (F : Fence) (n : Nat) (hF : F.fn 70) (hro : F.round = none) (a : Option Addr) (len cap : Nat) (f : Int) (w : World) :
    CallsIn F n Try.prog 70 #[.slice a len cap, .int .i64 f] w fun e w' => e = .returned (.func (.func 80) #[] #[.pointer (some ⟨w.heap.size + 1, 0, none⟩), .pointer (some ⟨w.heap.size, 0, none⟩)]) ∧ w' = (w.alloc (.cells #[.slice a len cap] 59)).alloc (.cells #[.int .i64 f] 3) := by
  refine callsIn_of_wp Try.func70 rfl hF ?_ hro
  simp only [Try.ntmps70, List.size_toArray, List.length_cons, List.length_nil, Nat.reduceAdd, Nat.reduceSub, Array.replicate_succ, Array.replicate_zero, List.push_toArray, List.append_toArray, List.nil_append, List.cons_append]
  gi_wp2
  go_ret
  exact ⟨rfl, rfl⟩
end Go.Proofs.Ytjeoenieoejolah
