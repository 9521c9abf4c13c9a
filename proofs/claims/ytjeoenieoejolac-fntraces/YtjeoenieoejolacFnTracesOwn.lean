/- Whatever bytes a machine and states are drawn from: TraceOk answers as its model, and says that they are a run just where each state is what comes next of the one ahead of it (as RunOf tells them); a code of more than 2 to the 20 bytes is passed by. -/
import Derived.Test.YtjeoenieoejolacRows
import Derived.WalkKit
import Derived.ProofKit
import Derived.OpenShut
import Derived.ShutString
import Derived.ChangeOld
import Derived.Below
import Derived.Test.YtjeoenieoejolacRdA
import Derived.Test.YtjeoenieoejolacRdT
import Derived.Test.YtjeoenieoejolacMaN
import Derived.Test.YtjeoenieoejolacMaV
namespace Go.Proofs.Ytjeoenieoejolac.fnTraces
open Go.ChangeShapes Go.WideShapes Go.ChangeAt Go.RowKit
open Go.ChangeMaps (open_string shut_string)
set_option linter.unusedVariables false

theorem own : ownKnob Try.prog.godebug = none := by kernel_rfl
theorem laidOut : laidOutB Try.prog = true := by kernel_rfl

def IsRow (k : IntKind) (w : World) (a : Option Addr) (len cap : Nat) (zs : List Int) : Prop :=
  (a = none ∧ len = 0 ∧ cap = 0 ∧ zs = []) ∨
  ∃ x, a = some x ∧ len ≤ cap ∧ cap ≤ maxLen ∧ zs.length = cap ∧ (∀ i, i < zs.length → w.cell? (x.add i) = some (.int k (zs.getD i 0))) ∧ ∀ n ∈ zs, (Lit.int k n).wf = true

set_option maxHeartbeats 8000000 in
set_option maxRecDepth 100000 in
theorem walk (a0 : Option Addr) (len0 cap0 : Nat) (z0 : List Int) (w : World) (w0 : IsRow .u8 w a0 len0 cap0 z0) :
    Calls Try.prog 3 #[.slice a0 len0 cap0] w fun e w' => e = .returned (.bool true) ∧ Below w.heap.size w w' := by
  have hrow : Row .u8 w a0 len0 cap0 z0 := w0
  clear w0
  have hl0 : (len0 : Int) ≤ 9223372036854775807 := by
    rcases hrow with ⟨_, rfl, _⟩ | ⟨x, _, h1, h2, _⟩
    · simp
    · unfold maxLen at h2; omega
  by_cases hbig : (1048576 : Int) < (len0 : Int)
  · go_enter Try.func3, Try.ntmps3
    go_wp2_with fail
    refine (big_any _ _ _ _).mono ?_
    rintro e w' ⟨rfl, rfl⟩
    go_wp2
    go_ret
    exact ⟨rfl, Below.refl _ _⟩
  · have HR : Hid (Row .u8 w a0 len0 cap0 z0) := hrow
    have hb : decide ((1048576 : Int) < (len0 : Int)) = false := by simpa using hbig
    clear hrow
    go_enter Try.func3, Try.ntmps3
    go_wp2_with fail
    refine (big_any _ _ _ _).mono ?_
    rintro e w ⟨rfl, rfl⟩
    go_wp2_with fail
    refine (drawTraceOk_any w HR.out).mono ?_
    rintro e v1 ⟨m, la, n, lc, ps, rfl, hn, hs1, hbl⟩
    have HB1 : Hid (Below w.heap.size w v1) := hbl
    have HS1 : Hid (SeesQ v1 la n lc ps) := hs1
    have hlc : (n : Int) ≤ lc := by have := hs1.le; omega
    have CI : ∀ W, SeesQ W la n lc ps → Calls Try.prog 8 #[mcv m, .slice la n lc] W fun e w' => e = .returned (.bool (M.traceOk m ps)) ∧ Below W.heap.size W w' := fun W h => implTraceOk_any m W h
    have CS : ∀ W, SeesQ W la n lc ps → Calls Try.prog 9 #[mcv m, .slice la n lc] W fun e w' => e = .returned (.bool (M.traceOk m ps)) ∧ Below W.heap.size W w' := fun W h => specTraceOk_any m W h
    have CM := specMachineOk_any m
    have CO := specStateOk_any (ps.getD 0 (0, 0))
    have CR := implRunOf_any m (ps.getD 0 (0, 0)) ((n : Int) - 1)
    have HP : Hid (1 ≤ n → m.ok = true → M.sOk (ps.getD 0 (0, 0)) = true → M.runOk m (ps.getD 0 (0, 0)) ((n : Int) - 1) = true ∧ (M.runv m (ps.getD 0 (0, 0)) ((n : Int) - 1)).length = n ∧ ∃ A : Nat → Bool, A 0 = true ∧ A n = M.traceOk m ps ∧ ∀ k, k < n → A (k + 1) = (A k && (decide (((M.runv m (ps.getD 0 (0, 0)) ((n : Int) - 1)).getD k (0, 0)).1 = (ps.getD k (0, 0)).1) && decide (((M.runv m (ps.getD 0 (0, 0)) ((n : Int) - 1)).getD k (0, 0)).2 = (ps.getD k (0, 0)).2)))) := fun h1 h2 h3 => by
      have hl := HS1.out.len
      have hr : M.runOk m (ps.getD 0 (0, 0)) ((n : Int) - 1) = true := M.runOk_mk h2 h3 (by omega) (by omega)
      have hv := M.runv_in hr
      have hlen := Go.Proofs.Ytjeoenieoejolac.len0 hr
      refine ⟨hr, by rw [hlen]; omega, M.isRn m (ps.getD 0 (0, 0)) ps true, rfl, ?_, fun k hk => ?_⟩
      · rw [M.traceOk_yes h2 (by omega) (by omega)]; unfold M.trOk; rw [h3, hl]
      · rw [M.isRn, hv, M.run_get m _ _ k (by omega)]
        congr 1
        congr 1
        · exact decide_eq_decide.2 ⟨Eq.symm, Eq.symm⟩
        · exact decide_eq_decide.2 ⟨Eq.symm, Eq.symm⟩
    generalize M.runv m (ps.getD 0 (0, 0)) ((n : Int) - 1) = rv at CR HP
    generalize M.runOk m (ps.getD 0 (0, 0)) ((n : Int) - 1) = ro at CR HP
    generalize M.traceOk m ps = o at CI CS HP
    generalize M.sOk (ps.getD 0 (0, 0)) = os at CO HP
    generalize m.ok = om at CM HP
    have HG0 : Hid (∃ g, g = ps.getD 0 (0, 0)) := ⟨_, rfl⟩
    obtain ⟨g0, hg0⟩ := HG0.out
    rw [← hg0] at CO CR
    have HGE : Hid (g0 = ps.getD 0 (0, 0)) := hg0
    clear hbl hs1 hg0 HG0
    obtain ⟨⟨a1, b1, c1, d1, f1, k1⟩, ⟨a2, b2, c2, d2, f2, k2⟩⟩ := m
    obtain ⟨x, y⟩ := g0
    dsimp only [mcv, stv] at CI CS CM CO CR ⊢
    have LM : Hid (Lies (v1.alloc (.cells #[.int .i64 a1, .int .i64 b1, .int .i64 c1, .int .i64 d1, .int .i64 f1, .int .i64 k1, .int .i64 a2, .int .i64 b2, .int .i64 c2, .int .i64 d2, .int .i64 f2, .int .i64 k2] 27)) v1.heap.size [.int .i64 a1, .int .i64 b1, .int .i64 c1, .int .i64 d1, .int .i64 f1, .int .i64 k1, .int .i64 a2, .int .i64 b2, .int .i64 c2, .int .i64 d2, .int .i64 f2, .int .i64 k2]) := lies_new _ _ _
    have LT : Hid (v1.heap.size < (v1.alloc (.cells #[.int .i64 a1, .int .i64 b1, .int .i64 c1, .int .i64 d1, .int .i64 f1, .int .i64 k1, .int .i64 a2, .int .i64 b2, .int .i64 c2, .int .i64 d2, .int .i64 f2, .int .i64 k2] 27)).heap.size) := LM.out.2.2
    have HBB : Hid (Below w.heap.size w (v1.alloc (.cells #[.int .i64 a1, .int .i64 b1, .int .i64 c1, .int .i64 d1, .int .i64 f1, .int .i64 k1, .int .i64 a2, .int .i64 b2, .int .i64 c2, .int .i64 d2, .int .i64 f2, .int .i64 k2] 27))) := HB1.out.alloc HB1.out.size _
    have HSB : Hid (SeesQ (v1.alloc (.cells #[.int .i64 a1, .int .i64 b1, .int .i64 c1, .int .i64 d1, .int .i64 f1, .int .i64 k1, .int .i64 a2, .int .i64 b2, .int .i64 c2, .int .i64 d2, .int .i64 f2, .int .i64 k2] 27)) la n lc ps) := HS1.out.below ((Below.refl _ _).alloc (Nat.le_refl _) _)
    have HBv1 : Hid (Below (v1.alloc (.cells #[.int .i64 a1, .int .i64 b1, .int .i64 c1, .int .i64 d1, .int .i64 f1, .int .i64 k1, .int .i64 a2, .int .i64 b2, .int .i64 c2, .int .i64 d2, .int .i64 f2, .int .i64 k2] 27)).heap.size (v1.alloc (.cells #[.int .i64 a1, .int .i64 b1, .int .i64 c1, .int .i64 d1, .int .i64 f1, .int .i64 k1, .int .i64 a2, .int .i64 b2, .int .i64 c2, .int .i64 d2, .int .i64 f2, .int .i64 k2] 27)) (v1.alloc (.cells #[.int .i64 a1, .int .i64 b1, .int .i64 c1, .int .i64 d1, .int .i64 f1, .int .i64 k1, .int .i64 a2, .int .i64 b2, .int .i64 c2, .int .i64 d2, .int .i64 f2, .int .i64 k2] 27))) := Below.refl _ _
    have i1 : (o != o) = false := by simp
    have i2 : (o == o) = true := by simp
    have p0 : (v1.alloc (.cells #[.int .i64 a1, .int .i64 b1, .int .i64 c1, .int .i64 d1, .int .i64 f1, .int .i64 k1, .int .i64 a2, .int .i64 b2, .int .i64 c2, .int .i64 d2, .int .i64 f2, .int .i64 k2] 27)).cell? ⟨v1.heap.size, 0, none⟩ = some (.int .i64 a1) := LM.out.at 0
    have p1 : (v1.alloc (.cells #[.int .i64 a1, .int .i64 b1, .int .i64 c1, .int .i64 d1, .int .i64 f1, .int .i64 k1, .int .i64 a2, .int .i64 b2, .int .i64 c2, .int .i64 d2, .int .i64 f2, .int .i64 k2] 27)).cell? ⟨v1.heap.size, 1, none⟩ = some (.int .i64 b1) := LM.out.at 1
    have p2 : (v1.alloc (.cells #[.int .i64 a1, .int .i64 b1, .int .i64 c1, .int .i64 d1, .int .i64 f1, .int .i64 k1, .int .i64 a2, .int .i64 b2, .int .i64 c2, .int .i64 d2, .int .i64 f2, .int .i64 k2] 27)).cell? ⟨v1.heap.size, 2, none⟩ = some (.int .i64 c1) := LM.out.at 2
    have p3 : (v1.alloc (.cells #[.int .i64 a1, .int .i64 b1, .int .i64 c1, .int .i64 d1, .int .i64 f1, .int .i64 k1, .int .i64 a2, .int .i64 b2, .int .i64 c2, .int .i64 d2, .int .i64 f2, .int .i64 k2] 27)).cell? ⟨v1.heap.size, 3, none⟩ = some (.int .i64 d1) := LM.out.at 3
    have p4 : (v1.alloc (.cells #[.int .i64 a1, .int .i64 b1, .int .i64 c1, .int .i64 d1, .int .i64 f1, .int .i64 k1, .int .i64 a2, .int .i64 b2, .int .i64 c2, .int .i64 d2, .int .i64 f2, .int .i64 k2] 27)).cell? ⟨v1.heap.size, 4, none⟩ = some (.int .i64 f1) := LM.out.at 4
    have p5 : (v1.alloc (.cells #[.int .i64 a1, .int .i64 b1, .int .i64 c1, .int .i64 d1, .int .i64 f1, .int .i64 k1, .int .i64 a2, .int .i64 b2, .int .i64 c2, .int .i64 d2, .int .i64 f2, .int .i64 k2] 27)).cell? ⟨v1.heap.size, 5, none⟩ = some (.int .i64 k1) := LM.out.at 5
    have p6 : (v1.alloc (.cells #[.int .i64 a1, .int .i64 b1, .int .i64 c1, .int .i64 d1, .int .i64 f1, .int .i64 k1, .int .i64 a2, .int .i64 b2, .int .i64 c2, .int .i64 d2, .int .i64 f2, .int .i64 k2] 27)).cell? ⟨v1.heap.size, 6, none⟩ = some (.int .i64 a2) := LM.out.at 6
    have p7 : (v1.alloc (.cells #[.int .i64 a1, .int .i64 b1, .int .i64 c1, .int .i64 d1, .int .i64 f1, .int .i64 k1, .int .i64 a2, .int .i64 b2, .int .i64 c2, .int .i64 d2, .int .i64 f2, .int .i64 k2] 27)).cell? ⟨v1.heap.size, 7, none⟩ = some (.int .i64 b2) := LM.out.at 7
    have p8 : (v1.alloc (.cells #[.int .i64 a1, .int .i64 b1, .int .i64 c1, .int .i64 d1, .int .i64 f1, .int .i64 k1, .int .i64 a2, .int .i64 b2, .int .i64 c2, .int .i64 d2, .int .i64 f2, .int .i64 k2] 27)).cell? ⟨v1.heap.size, 8, none⟩ = some (.int .i64 c2) := LM.out.at 8
    have p9 : (v1.alloc (.cells #[.int .i64 a1, .int .i64 b1, .int .i64 c1, .int .i64 d1, .int .i64 f1, .int .i64 k1, .int .i64 a2, .int .i64 b2, .int .i64 c2, .int .i64 d2, .int .i64 f2, .int .i64 k2] 27)).cell? ⟨v1.heap.size, 9, none⟩ = some (.int .i64 d2) := LM.out.at 9
    have p10 : (v1.alloc (.cells #[.int .i64 a1, .int .i64 b1, .int .i64 c1, .int .i64 d1, .int .i64 f1, .int .i64 k1, .int .i64 a2, .int .i64 b2, .int .i64 c2, .int .i64 d2, .int .i64 f2, .int .i64 k2] 27)).cell? ⟨v1.heap.size, 10, none⟩ = some (.int .i64 f2) := LM.out.at 10
    have p11 : (v1.alloc (.cells #[.int .i64 a1, .int .i64 b1, .int .i64 c1, .int .i64 d1, .int .i64 f1, .int .i64 k1, .int .i64 a2, .int .i64 b2, .int .i64 c2, .int .i64 d2, .int .i64 f2, .int .i64 k2] 27)).cell? ⟨v1.heap.size, 11, none⟩ = some (.int .i64 k2) := LM.out.at 11
    clear HB1 HS1
    go_wp2_with fail
    refine (CI _ HSB.out).mono ?_
    rintro e v2 ⟨rfl, hb⟩
    have HBv2 : Hid (Below (v1.alloc (.cells #[.int .i64 a1, .int .i64 b1, .int .i64 c1, .int .i64 d1, .int .i64 f1, .int .i64 k1, .int .i64 a2, .int .i64 b2, .int .i64 c2, .int .i64 d2, .int .i64 f2, .int .i64 k2] 27)).heap.size (v1.alloc (.cells #[.int .i64 a1, .int .i64 b1, .int .i64 c1, .int .i64 d1, .int .i64 f1, .int .i64 k1, .int .i64 a2, .int .i64 b2, .int .i64 c2, .int .i64 d2, .int .i64 f2, .int .i64 k2] 27)) v2) := HBv1.out.trans (hb.mono HBv1.out.size)
    clear hb p0 p1 p2 p3 p4 p5 p6 p7 p8 p9 p10 p11
    have p0 : v2.cell? ⟨v1.heap.size, 0, none⟩ = some (.int .i64 a1) := (LM.out.below HBv2.out LT.out).at 0
    have p1 : v2.cell? ⟨v1.heap.size, 1, none⟩ = some (.int .i64 b1) := (LM.out.below HBv2.out LT.out).at 1
    have p2 : v2.cell? ⟨v1.heap.size, 2, none⟩ = some (.int .i64 c1) := (LM.out.below HBv2.out LT.out).at 2
    have p3 : v2.cell? ⟨v1.heap.size, 3, none⟩ = some (.int .i64 d1) := (LM.out.below HBv2.out LT.out).at 3
    have p4 : v2.cell? ⟨v1.heap.size, 4, none⟩ = some (.int .i64 f1) := (LM.out.below HBv2.out LT.out).at 4
    have p5 : v2.cell? ⟨v1.heap.size, 5, none⟩ = some (.int .i64 k1) := (LM.out.below HBv2.out LT.out).at 5
    have p6 : v2.cell? ⟨v1.heap.size, 6, none⟩ = some (.int .i64 a2) := (LM.out.below HBv2.out LT.out).at 6
    have p7 : v2.cell? ⟨v1.heap.size, 7, none⟩ = some (.int .i64 b2) := (LM.out.below HBv2.out LT.out).at 7
    have p8 : v2.cell? ⟨v1.heap.size, 8, none⟩ = some (.int .i64 c2) := (LM.out.below HBv2.out LT.out).at 8
    have p9 : v2.cell? ⟨v1.heap.size, 9, none⟩ = some (.int .i64 d2) := (LM.out.below HBv2.out LT.out).at 9
    have p10 : v2.cell? ⟨v1.heap.size, 10, none⟩ = some (.int .i64 f2) := (LM.out.below HBv2.out LT.out).at 10
    have p11 : v2.cell? ⟨v1.heap.size, 11, none⟩ = some (.int .i64 k2) := (LM.out.below HBv2.out LT.out).at 11
    go_wp2_with fail
    refine (CS _ (HSB.out.below HBv2.out)).mono ?_
    rintro e v3 ⟨rfl, hb⟩
    have HBv3 : Hid (Below (v1.alloc (.cells #[.int .i64 a1, .int .i64 b1, .int .i64 c1, .int .i64 d1, .int .i64 f1, .int .i64 k1, .int .i64 a2, .int .i64 b2, .int .i64 c2, .int .i64 d2, .int .i64 f2, .int .i64 k2] 27)).heap.size (v1.alloc (.cells #[.int .i64 a1, .int .i64 b1, .int .i64 c1, .int .i64 d1, .int .i64 f1, .int .i64 k1, .int .i64 a2, .int .i64 b2, .int .i64 c2, .int .i64 d2, .int .i64 f2, .int .i64 k2] 27)) v3) := HBv2.out.trans (hb.mono HBv2.out.size)
    clear hb p0 p1 p2 p3 p4 p5 p6 p7 p8 p9 p10 p11
    have p0 : v3.cell? ⟨v1.heap.size, 0, none⟩ = some (.int .i64 a1) := (LM.out.below HBv3.out LT.out).at 0
    have p1 : v3.cell? ⟨v1.heap.size, 1, none⟩ = some (.int .i64 b1) := (LM.out.below HBv3.out LT.out).at 1
    have p2 : v3.cell? ⟨v1.heap.size, 2, none⟩ = some (.int .i64 c1) := (LM.out.below HBv3.out LT.out).at 2
    have p3 : v3.cell? ⟨v1.heap.size, 3, none⟩ = some (.int .i64 d1) := (LM.out.below HBv3.out LT.out).at 3
    have p4 : v3.cell? ⟨v1.heap.size, 4, none⟩ = some (.int .i64 f1) := (LM.out.below HBv3.out LT.out).at 4
    have p5 : v3.cell? ⟨v1.heap.size, 5, none⟩ = some (.int .i64 k1) := (LM.out.below HBv3.out LT.out).at 5
    have p6 : v3.cell? ⟨v1.heap.size, 6, none⟩ = some (.int .i64 a2) := (LM.out.below HBv3.out LT.out).at 6
    have p7 : v3.cell? ⟨v1.heap.size, 7, none⟩ = some (.int .i64 b2) := (LM.out.below HBv3.out LT.out).at 7
    have p8 : v3.cell? ⟨v1.heap.size, 8, none⟩ = some (.int .i64 c2) := (LM.out.below HBv3.out LT.out).at 8
    have p9 : v3.cell? ⟨v1.heap.size, 9, none⟩ = some (.int .i64 d2) := (LM.out.below HBv3.out LT.out).at 9
    have p10 : v3.cell? ⟨v1.heap.size, 10, none⟩ = some (.int .i64 f2) := (LM.out.below HBv3.out LT.out).at 10
    have p11 : v3.cell? ⟨v1.heap.size, 11, none⟩ = some (.int .i64 k2) := (LM.out.below HBv3.out LT.out).at 11
    by_cases hz : n = 0
    · subst hz
      go_wp2_with fail
      refine (CS _ (HSB.out.below HBv3.out)).mono ?_
      rintro e v4 ⟨rfl, hb⟩
      have HBv4 : Hid (Below (v1.alloc (.cells #[.int .i64 a1, .int .i64 b1, .int .i64 c1, .int .i64 d1, .int .i64 f1, .int .i64 k1, .int .i64 a2, .int .i64 b2, .int .i64 c2, .int .i64 d2, .int .i64 f2, .int .i64 k2] 27)).heap.size (v1.alloc (.cells #[.int .i64 a1, .int .i64 b1, .int .i64 c1, .int .i64 d1, .int .i64 f1, .int .i64 k1, .int .i64 a2, .int .i64 b2, .int .i64 c2, .int .i64 d2, .int .i64 f2, .int .i64 k2] 27)) v4) := HBv3.out.trans (hb.mono HBv3.out.size)
      clear hb p0 p1 p2 p3 p4 p5 p6 p7 p8 p9 p10 p11
      have p0 : v4.cell? ⟨v1.heap.size, 0, none⟩ = some (.int .i64 a1) := (LM.out.below HBv4.out LT.out).at 0
      have p1 : v4.cell? ⟨v1.heap.size, 1, none⟩ = some (.int .i64 b1) := (LM.out.below HBv4.out LT.out).at 1
      have p2 : v4.cell? ⟨v1.heap.size, 2, none⟩ = some (.int .i64 c1) := (LM.out.below HBv4.out LT.out).at 2
      have p3 : v4.cell? ⟨v1.heap.size, 3, none⟩ = some (.int .i64 d1) := (LM.out.below HBv4.out LT.out).at 3
      have p4 : v4.cell? ⟨v1.heap.size, 4, none⟩ = some (.int .i64 f1) := (LM.out.below HBv4.out LT.out).at 4
      have p5 : v4.cell? ⟨v1.heap.size, 5, none⟩ = some (.int .i64 k1) := (LM.out.below HBv4.out LT.out).at 5
      have p6 : v4.cell? ⟨v1.heap.size, 6, none⟩ = some (.int .i64 a2) := (LM.out.below HBv4.out LT.out).at 6
      have p7 : v4.cell? ⟨v1.heap.size, 7, none⟩ = some (.int .i64 b2) := (LM.out.below HBv4.out LT.out).at 7
      have p8 : v4.cell? ⟨v1.heap.size, 8, none⟩ = some (.int .i64 c2) := (LM.out.below HBv4.out LT.out).at 8
      have p9 : v4.cell? ⟨v1.heap.size, 9, none⟩ = some (.int .i64 d2) := (LM.out.below HBv4.out LT.out).at 9
      have p10 : v4.cell? ⟨v1.heap.size, 10, none⟩ = some (.int .i64 f2) := (LM.out.below HBv4.out LT.out).at 10
      have p11 : v4.cell? ⟨v1.heap.size, 11, none⟩ = some (.int .i64 k2) := (LM.out.below HBv4.out LT.out).at 11
      go_wp2
      go_ret
      exact ⟨rfl, HBB.out.trans (HBv4.out.mono HBB.out.size)⟩
    · have hz1 : ((n : Int) == 0) = false := by simp; omega
      have hz2 : (0 : Int) < (n : Int) := by omega
      go_wp2_with fail
      refine (CM _).mono ?_
      rintro e v4 ⟨rfl, hb⟩
      have HBv4 : Hid (Below (v1.alloc (.cells #[.int .i64 a1, .int .i64 b1, .int .i64 c1, .int .i64 d1, .int .i64 f1, .int .i64 k1, .int .i64 a2, .int .i64 b2, .int .i64 c2, .int .i64 d2, .int .i64 f2, .int .i64 k2] 27)).heap.size (v1.alloc (.cells #[.int .i64 a1, .int .i64 b1, .int .i64 c1, .int .i64 d1, .int .i64 f1, .int .i64 k1, .int .i64 a2, .int .i64 b2, .int .i64 c2, .int .i64 d2, .int .i64 f2, .int .i64 k2] 27)) v4) := HBv3.out.trans (hb.mono HBv3.out.size)
      clear hb p0 p1 p2 p3 p4 p5 p6 p7 p8 p9 p10 p11
      have p0 : v4.cell? ⟨v1.heap.size, 0, none⟩ = some (.int .i64 a1) := (LM.out.below HBv4.out LT.out).at 0
      have p1 : v4.cell? ⟨v1.heap.size, 1, none⟩ = some (.int .i64 b1) := (LM.out.below HBv4.out LT.out).at 1
      have p2 : v4.cell? ⟨v1.heap.size, 2, none⟩ = some (.int .i64 c1) := (LM.out.below HBv4.out LT.out).at 2
      have p3 : v4.cell? ⟨v1.heap.size, 3, none⟩ = some (.int .i64 d1) := (LM.out.below HBv4.out LT.out).at 3
      have p4 : v4.cell? ⟨v1.heap.size, 4, none⟩ = some (.int .i64 f1) := (LM.out.below HBv4.out LT.out).at 4
      have p5 : v4.cell? ⟨v1.heap.size, 5, none⟩ = some (.int .i64 k1) := (LM.out.below HBv4.out LT.out).at 5
      have p6 : v4.cell? ⟨v1.heap.size, 6, none⟩ = some (.int .i64 a2) := (LM.out.below HBv4.out LT.out).at 6
      have p7 : v4.cell? ⟨v1.heap.size, 7, none⟩ = some (.int .i64 b2) := (LM.out.below HBv4.out LT.out).at 7
      have p8 : v4.cell? ⟨v1.heap.size, 8, none⟩ = some (.int .i64 c2) := (LM.out.below HBv4.out LT.out).at 8
      have p9 : v4.cell? ⟨v1.heap.size, 9, none⟩ = some (.int .i64 d2) := (LM.out.below HBv4.out LT.out).at 9
      have p10 : v4.cell? ⟨v1.heap.size, 10, none⟩ = some (.int .i64 f2) := (LM.out.below HBv4.out LT.out).at 10
      have p11 : v4.cell? ⟨v1.heap.size, 11, none⟩ = some (.int .i64 k2) := (LM.out.below HBv4.out LT.out).at 11
      cases om with
      | false =>
        go_wp2_with fail
        refine (CS _ (HSB.out.below HBv4.out)).mono ?_
        rintro e v5 ⟨rfl, hb⟩
        have HBv5 : Hid (Below (v1.alloc (.cells #[.int .i64 a1, .int .i64 b1, .int .i64 c1, .int .i64 d1, .int .i64 f1, .int .i64 k1, .int .i64 a2, .int .i64 b2, .int .i64 c2, .int .i64 d2, .int .i64 f2, .int .i64 k2] 27)).heap.size (v1.alloc (.cells #[.int .i64 a1, .int .i64 b1, .int .i64 c1, .int .i64 d1, .int .i64 f1, .int .i64 k1, .int .i64 a2, .int .i64 b2, .int .i64 c2, .int .i64 d2, .int .i64 f2, .int .i64 k2] 27)) v5) := HBv4.out.trans (hb.mono HBv4.out.size)
        clear hb p0 p1 p2 p3 p4 p5 p6 p7 p8 p9 p10 p11
        have p0 : v5.cell? ⟨v1.heap.size, 0, none⟩ = some (.int .i64 a1) := (LM.out.below HBv5.out LT.out).at 0
        have p1 : v5.cell? ⟨v1.heap.size, 1, none⟩ = some (.int .i64 b1) := (LM.out.below HBv5.out LT.out).at 1
        have p2 : v5.cell? ⟨v1.heap.size, 2, none⟩ = some (.int .i64 c1) := (LM.out.below HBv5.out LT.out).at 2
        have p3 : v5.cell? ⟨v1.heap.size, 3, none⟩ = some (.int .i64 d1) := (LM.out.below HBv5.out LT.out).at 3
        have p4 : v5.cell? ⟨v1.heap.size, 4, none⟩ = some (.int .i64 f1) := (LM.out.below HBv5.out LT.out).at 4
        have p5 : v5.cell? ⟨v1.heap.size, 5, none⟩ = some (.int .i64 k1) := (LM.out.below HBv5.out LT.out).at 5
        have p6 : v5.cell? ⟨v1.heap.size, 6, none⟩ = some (.int .i64 a2) := (LM.out.below HBv5.out LT.out).at 6
        have p7 : v5.cell? ⟨v1.heap.size, 7, none⟩ = some (.int .i64 b2) := (LM.out.below HBv5.out LT.out).at 7
        have p8 : v5.cell? ⟨v1.heap.size, 8, none⟩ = some (.int .i64 c2) := (LM.out.below HBv5.out LT.out).at 8
        have p9 : v5.cell? ⟨v1.heap.size, 9, none⟩ = some (.int .i64 d2) := (LM.out.below HBv5.out LT.out).at 9
        have p10 : v5.cell? ⟨v1.heap.size, 10, none⟩ = some (.int .i64 f2) := (LM.out.below HBv5.out LT.out).at 10
        have p11 : v5.cell? ⟨v1.heap.size, 11, none⟩ = some (.int .i64 k2) := (LM.out.below HBv5.out LT.out).at 11
        go_wp2
        go_ret
        exact ⟨rfl, HBB.out.trans (HBv5.out.mono HBB.out.size)⟩
      | true =>
        obtain ⟨bl, ol, rfl, hc⟩ := HSB.out.at (by omega)
        have HC : Hid (∀ W, Below (v1.alloc (.cells #[.int .i64 a1, .int .i64 b1, .int .i64 c1, .int .i64 d1, .int .i64 f1, .int .i64 k1, .int .i64 a2, .int .i64 b2, .int .i64 c2, .int .i64 d2, .int .i64 f2, .int .i64 k2] 27)).heap.size (v1.alloc (.cells #[.int .i64 a1, .int .i64 b1, .int .i64 c1, .int .i64 d1, .int .i64 f1, .int .i64 k1, .int .i64 a2, .int .i64 b2, .int .i64 c2, .int .i64 d2, .int .i64 f2, .int .i64 k2] 27)) W → ∀ i, i < n → W.cell? ⟨bl, ol + i * 2, none⟩ = some (.int .i64 (ps.getD i (0, 0)).1) ∧ W.cell? ⟨bl, ol + i * 2 + 1, none⟩ = some (.int .i64 (ps.getD i (0, 0)).2)) := fun W hW i hi => by
          have hlt : bl < (v1.alloc (.cells #[.int .i64 a1, .int .i64 b1, .int .i64 c1, .int .i64 d1, .int .i64 f1, .int .i64 k1, .int .i64 a2, .int .i64 b2, .int .i64 c2, .int .i64 d2, .int .i64 f2, .int .i64 k2] 27)).heap.size := World.block_lt_of_cell? _ ⟨bl, ol + i * 2, none⟩ (hc i hi).1
          exact ⟨(hW.cell (p := ⟨bl, ol + i * 2, none⟩) hlt).trans (hc i hi).1, (hW.cell (p := ⟨bl, ol + i * 2 + 1, none⟩) hlt).trans (hc i hi).2⟩
        have HC0 : Hid (∀ W, Below (v1.alloc (.cells #[.int .i64 a1, .int .i64 b1, .int .i64 c1, .int .i64 d1, .int .i64 f1, .int .i64 k1, .int .i64 a2, .int .i64 b2, .int .i64 c2, .int .i64 d2, .int .i64 f2, .int .i64 k2] 27)).heap.size (v1.alloc (.cells #[.int .i64 a1, .int .i64 b1, .int .i64 c1, .int .i64 d1, .int .i64 f1, .int .i64 k1, .int .i64 a2, .int .i64 b2, .int .i64 c2, .int .i64 d2, .int .i64 f2, .int .i64 k2] 27)) W → W.cell? ⟨bl, ol, none⟩ = some (.int .i64 x) ∧ W.cell? ⟨bl, ol + 1, none⟩ = some (.int .i64 y)) := fun W hW => by
          have := HC.out W hW 0 (by omega)
          rw [← HGE.out] at this
          simpa using this
        clear hc
        obtain ⟨g1, g2⟩ := HC0.out v4 HBv4.out
        go_wp2_with fail
        refine (CO _).mono ?_
        rintro e v5 ⟨rfl, hb⟩
        have HBv5 : Hid (Below (v1.alloc (.cells #[.int .i64 a1, .int .i64 b1, .int .i64 c1, .int .i64 d1, .int .i64 f1, .int .i64 k1, .int .i64 a2, .int .i64 b2, .int .i64 c2, .int .i64 d2, .int .i64 f2, .int .i64 k2] 27)).heap.size (v1.alloc (.cells #[.int .i64 a1, .int .i64 b1, .int .i64 c1, .int .i64 d1, .int .i64 f1, .int .i64 k1, .int .i64 a2, .int .i64 b2, .int .i64 c2, .int .i64 d2, .int .i64 f2, .int .i64 k2] 27)) v5) := HBv4.out.trans (hb.mono HBv4.out.size)
        clear hb p0 p1 p2 p3 p4 p5 p6 p7 p8 p9 p10 p11
        have p0 : v5.cell? ⟨v1.heap.size, 0, none⟩ = some (.int .i64 a1) := (LM.out.below HBv5.out LT.out).at 0
        have p1 : v5.cell? ⟨v1.heap.size, 1, none⟩ = some (.int .i64 b1) := (LM.out.below HBv5.out LT.out).at 1
        have p2 : v5.cell? ⟨v1.heap.size, 2, none⟩ = some (.int .i64 c1) := (LM.out.below HBv5.out LT.out).at 2
        have p3 : v5.cell? ⟨v1.heap.size, 3, none⟩ = some (.int .i64 d1) := (LM.out.below HBv5.out LT.out).at 3
        have p4 : v5.cell? ⟨v1.heap.size, 4, none⟩ = some (.int .i64 f1) := (LM.out.below HBv5.out LT.out).at 4
        have p5 : v5.cell? ⟨v1.heap.size, 5, none⟩ = some (.int .i64 k1) := (LM.out.below HBv5.out LT.out).at 5
        have p6 : v5.cell? ⟨v1.heap.size, 6, none⟩ = some (.int .i64 a2) := (LM.out.below HBv5.out LT.out).at 6
        have p7 : v5.cell? ⟨v1.heap.size, 7, none⟩ = some (.int .i64 b2) := (LM.out.below HBv5.out LT.out).at 7
        have p8 : v5.cell? ⟨v1.heap.size, 8, none⟩ = some (.int .i64 c2) := (LM.out.below HBv5.out LT.out).at 8
        have p9 : v5.cell? ⟨v1.heap.size, 9, none⟩ = some (.int .i64 d2) := (LM.out.below HBv5.out LT.out).at 9
        have p10 : v5.cell? ⟨v1.heap.size, 10, none⟩ = some (.int .i64 f2) := (LM.out.below HBv5.out LT.out).at 10
        have p11 : v5.cell? ⟨v1.heap.size, 11, none⟩ = some (.int .i64 k2) := (LM.out.below HBv5.out LT.out).at 11
        clear g1 g2
        cases os with
        | false =>
          go_wp2_with fail
          refine (CS _ (HSB.out.below HBv5.out)).mono ?_
          rintro e v6 ⟨rfl, hb⟩
          have HBv6 : Hid (Below (v1.alloc (.cells #[.int .i64 a1, .int .i64 b1, .int .i64 c1, .int .i64 d1, .int .i64 f1, .int .i64 k1, .int .i64 a2, .int .i64 b2, .int .i64 c2, .int .i64 d2, .int .i64 f2, .int .i64 k2] 27)).heap.size (v1.alloc (.cells #[.int .i64 a1, .int .i64 b1, .int .i64 c1, .int .i64 d1, .int .i64 f1, .int .i64 k1, .int .i64 a2, .int .i64 b2, .int .i64 c2, .int .i64 d2, .int .i64 f2, .int .i64 k2] 27)) v6) := HBv5.out.trans (hb.mono HBv5.out.size)
          clear hb p0 p1 p2 p3 p4 p5 p6 p7 p8 p9 p10 p11
          have p0 : v6.cell? ⟨v1.heap.size, 0, none⟩ = some (.int .i64 a1) := (LM.out.below HBv6.out LT.out).at 0
          have p1 : v6.cell? ⟨v1.heap.size, 1, none⟩ = some (.int .i64 b1) := (LM.out.below HBv6.out LT.out).at 1
          have p2 : v6.cell? ⟨v1.heap.size, 2, none⟩ = some (.int .i64 c1) := (LM.out.below HBv6.out LT.out).at 2
          have p3 : v6.cell? ⟨v1.heap.size, 3, none⟩ = some (.int .i64 d1) := (LM.out.below HBv6.out LT.out).at 3
          have p4 : v6.cell? ⟨v1.heap.size, 4, none⟩ = some (.int .i64 f1) := (LM.out.below HBv6.out LT.out).at 4
          have p5 : v6.cell? ⟨v1.heap.size, 5, none⟩ = some (.int .i64 k1) := (LM.out.below HBv6.out LT.out).at 5
          have p6 : v6.cell? ⟨v1.heap.size, 6, none⟩ = some (.int .i64 a2) := (LM.out.below HBv6.out LT.out).at 6
          have p7 : v6.cell? ⟨v1.heap.size, 7, none⟩ = some (.int .i64 b2) := (LM.out.below HBv6.out LT.out).at 7
          have p8 : v6.cell? ⟨v1.heap.size, 8, none⟩ = some (.int .i64 c2) := (LM.out.below HBv6.out LT.out).at 8
          have p9 : v6.cell? ⟨v1.heap.size, 9, none⟩ = some (.int .i64 d2) := (LM.out.below HBv6.out LT.out).at 9
          have p10 : v6.cell? ⟨v1.heap.size, 10, none⟩ = some (.int .i64 f2) := (LM.out.below HBv6.out LT.out).at 10
          have p11 : v6.cell? ⟨v1.heap.size, 11, none⟩ = some (.int .i64 k2) := (LM.out.below HBv6.out LT.out).at 11
          go_wp2
          go_ret
          exact ⟨rfl, HBB.out.trans (HBv6.out.mono HBB.out.size)⟩
        | true =>
          obtain ⟨rfl, hrl, A, hA0, hAn, hAs⟩ := HP.out (by omega) (by simp) (by simp)
          have HA0 : Hid (A 0 = true) := hA0
          have HAn : Hid (A n = o) := hAn
          have HAs : Hid (∀ k, k < n → A (k + 1) = (A k && (decide ((rv.getD k (0, 0)).1 = (ps.getD k (0, 0)).1) && decide ((rv.getD k (0, 0)).2 = (ps.getD k (0, 0)).2)))) := hAs
          have HRL : Hid (rv.length = n) := hrl
          clear hA0 hAn hAs hrl HP
          obtain ⟨g1, g2⟩ := HC0.out v5 HBv5.out
          go_wp2
          go_region_with (go_at_call 12; refine (CR _).mono ?_; rintro e v6 ⟨ra, rl, rc, rfl, -, ho, hb⟩)
          all_goals
            have HB6 : Hid (Below (v1.alloc (.cells #[.int .i64 a1, .int .i64 b1, .int .i64 c1, .int .i64 d1, .int .i64 f1, .int .i64 k1, .int .i64 a2, .int .i64 b2, .int .i64 c2, .int .i64 d2, .int .i64 f2, .int .i64 k2] 27)).heap.size (v1.alloc (.cells #[.int .i64 a1, .int .i64 b1, .int .i64 c1, .int .i64 d1, .int .i64 f1, .int .i64 k1, .int .i64 a2, .int .i64 b2, .int .i64 c2, .int .i64 d2, .int .i64 f2, .int .i64 k2] 27)) v6) := HBv5.out.trans (((Below.refl _ _).drew.trans hb).mono HBv5.out.size)
            have hrl : rl = n := by rw [← ho.1]; exact HRL.out
            subst hrl
            obtain ⟨br, rfl, hbr, hcr, hbg, hr⟩ := ho.block (by omega)
            have HR6 : Hid (∀ i, i < rl → v6.cell? ⟨br, i * 2, none⟩ = some (.int .i64 (rv.getD i (0, 0)).1) ∧ v6.cell? ⟨br, i * 2 + 1, none⟩ = some (.int .i64 (rv.getD i (0, 0)).2)) := hr
            have hrcI : (rl : Int) ≤ rc := by omega
            clear ho hb hr hbr p0 p1 p2 p3 p4 p5 p6 p7 p8 p9 p10 p11 g1 g2
            have n1 : ((rl : Int) == (rl : Int)) = true := by simp
            go_wp2
            have HMo : Hid (∀ d j, j + d = rl → A j = false → A rl = false) := fun d => by
              induction d with
              | zero => intro j h e; have : j = rl := by omega
                        subst this; exact e
              | succ d ih => intro j h e; exact ih (j + 1) (by omega) (by rw [HAs.out j (by omega), e]; rfl)
            have HCC : Hid (∀ W, Below v6.heap.size v6 W → ∀ i, i < rl → (W.cell? ⟨bl, ol + i * 2, none⟩ = some (.int .i64 (ps.getD i (0, 0)).1) ∧ W.cell? ⟨bl, ol + i * 2 + 1, none⟩ = some (.int .i64 (ps.getD i (0, 0)).2)) ∧ (W.cell? ⟨br, i * 2, none⟩ = some (.int .i64 (rv.getD i (0, 0)).1) ∧ W.cell? ⟨br, i * 2 + 1, none⟩ = some (.int .i64 (rv.getD i (0, 0)).2))) := fun W hW i hi => by
              have hlt : br < v6.heap.size := World.block_lt_of_cell? _ ⟨br, i * 2, none⟩ (HR6.out i hi).1
              exact ⟨HC.out W (HB6.out.trans (hW.mono HB6.out.size)) i hi, (hW.cell (p := ⟨br, i * 2, none⟩) hlt).trans (HR6.out i hi).1, (hW.cell (p := ⟨br, i * 2 + 1, none⟩) hlt).trans (HR6.out i hi).2⟩
            go_loopw [8, 9] (fun al i wr => ∃ j : Nat, j ≤ rl ∧ i = .int .i64 j ∧ al = .bool (A j) ∧ Below v6.heap.size v6 wr) (fun _ i _ => rl - (intOf i).toNat)
            case atStart => exact ⟨0, by omega, rfl, by rw [HA0.out], Below.refl _ _⟩
            case round =>
              obtain ⟨j, hj, rfl, rfl, hw⟩ := hrel
              have HW : Hid (Below v6.heap.size v6 wr) := hw
              clear hw
              by_cases hlt : j < rl
              · cases hA : A j with
                | false =>
                  obtain rfl : o = false := by rw [← HAn.out]; exact HMo.out (rl - j) j (by omega) hA
                  clear hA
                  go_wp2
                  go_ret
                  exact ⟨rfl, HBB.out.trans ((HB6.out.trans (HW.out.mono HB6.out.size)).mono HBB.out.size)⟩
                | true =>
                  have HAj := HAs.out j hlt
                  rw [hA, Bool.true_and] at HAj
                  have HAJ : Hid (A (j + 1) = (decide ((rv.getD j (0, 0)).1 = (ps.getD j (0, 0)).1) && decide ((rv.getD j (0, 0)).2 = (ps.getD j (0, 0)).2))) := HAj
                  obtain ⟨⟨e1, e2⟩, e3, e4⟩ := HCC.out _ HW.out j hlt
                  have hI : (j : Int) < (rl : Int) := by omega
                  clear hA HAj
                  generalize (rv.getD j (0, 0)).1 = u at e3 HAJ
                  generalize (rv.getD j (0, 0)).2 = v at e4 HAJ
                  generalize (ps.getD j (0, 0)).1 = u' at e1 HAJ
                  generalize (ps.getD j (0, 0)).2 = v' at e2 HAJ
                  by_cases h1 : u = u'
                  · by_cases h2 : v = v'
                    · subst h1 h2
                      have j1 : (u == u) = true := by simp
                      have j2 : (v == v) = true := by simp
                      have HT : Hid (A (j + 1) = true) := HAJ.out.trans (by simp)
                      clear HAJ
                      go_wp2
                      go_quiet (fail)
                      go_wp2
                      go_roundw
                      case rel => exact ⟨j + 1, by omega, by go_num, by rw [HT.out], Below.drewN' HW.out _⟩
                      case measure => simp [intOf]; omega
                    · subst h1
                      have j1 : (u == u) = true := by simp
                      have j2 : (v == v') = false := by simpa using h2
                      have HT : Hid (A (j + 1) = false) := HAJ.out.trans (by simp [h2])
                      clear HAJ h2
                      go_wp2
                      go_quiet (fail)
                      go_wp2
                      go_roundw
                      case rel => exact ⟨j + 1, by omega, by go_num, by rw [HT.out], Below.drewN' HW.out _⟩
                      case measure => simp [intOf]; omega
                  · have j1 : (u == u') = false := by simpa using h1
                    have HT : Hid (A (j + 1) = false) := HAJ.out.trans (by simp [h1])
                    clear HAJ h1
                    go_wp2
                    go_quiet (fail)
                    go_wp2
                    go_roundw
                    case rel => exact ⟨j + 1, by omega, by go_num, by rw [HT.out], Below.drewN' HW.out _⟩
                    case measure => simp [intOf]; omega
              · have hjn : j = rl := by omega
                subst hjn
                have hAo := HAn.out
                rw [hAo]
                clear hAo
                go_wp2
                go_ret
                exact ⟨rfl, HBB.out.trans ((HB6.out.trans (HW.out.mono HB6.out.size)).mono HBB.out.size)⟩

set_option maxRecDepth 100000 in
theorem lifted (os : Os) (started : os.Started) (H : Type) (enc : TypeId × Value → H) :
    ReturnsInHanded {} Try.checked os 3 .any (Rows.fnTracesSpec.pre6 enc Try.prog Try.f3 Rows.fnTracesRow.domain false) (Rows.fnTracesSpec.post enc Try.prog Try.f3 false true false false) := by
  refine returnsInHanded_of_change (C := Try.checked) own started (by kernel_rfl) Try.func3
    (ChangeSpec.witness6 (enc := enc) (C := Try.checked) false ⟨#[], #[.slice none 0 0], []⟩ 8 (by kernel_rfl) (by kernel_rfl) (by kernel_rfl) (by kernel_rfl)) ?_
  intro W base args ds gs before hval0 hW hcnd _
  have hval : ∀ (j : Nat) t v, Try.f3.params[j]? = some t → args[j]? = some v → Value.okWide Try.prog W .any base t v := hval0
  have hW' := hW
  obtain ⟨p, q, hA0, hV, rfl, hfz, hnd⟩ := hW
  have hA : DataW.TrodAll enc Try.prog W 0 (fun _ => true) true Try.f3.params.toList args.toList ds p := hA0
  rw [Try.params3] at hA hval
  obtain ⟨v0, vs0, d0, ds0, p0, q0, hargs, rfl, rfl, h0, r0⟩ := trodAll_cons hA
  obtain ⟨rfl, rfl, rfl⟩ := trodAll_nil r0
  obtain rfl : args = #[v0] := by cases args; simp_all
  obtain ⟨rfl, rfl⟩ := trodVars_none hV
  obtain ⟨a0, len0, cap0, rfl⟩ := okWide_slice Try.underlying22 (hval 0 22 v0 rfl rfl)
  have k0 := h0
  have lt0 : ∀ x ∈ p0, x.block < W.heap.size := by obtain ⟨m, hm⟩ := k0; exact DataW.trod_lt m _ _ _ hm
  obtain ⟨z0, w0⟩ : ∃ zs, IsRow .u8 W a0 len0 cap0 zs := by
    obtain ⟨fuel, hf⟩ := h0
    rcases open_ints Try.underlying22 Try.underlying5 (by kernel_rfl) hf with ⟨hcs, _⟩ | ⟨x, l, c, zs, hcs, _, hl, hm, hz, _, hcell, hwz⟩
    · simp [Value.cells] at hcs
      obtain ⟨rfl, rfl, rfl⟩ := hcs
      exact ⟨[], .inl ⟨rfl, rfl, rfl, rfl⟩⟩
    · simp [Value.cells] at hcs
      obtain ⟨rfl, rfl, rfl⟩ := hcs
      exact ⟨zs, .inr ⟨_, rfl, hl, hm, by simpa using hz, hcell, hwz⟩⟩
  clear hA0 hval0
  refine (walk a0 len0 cap0 z0 W w0).mono fun e W' ⟨he, bel⟩ => ?_
  subst he
  exact ⟨_, rfl, _, _, _, [], _, [], hW', trodAll_mk1 (shut_bool Try.underlying4 _), (trodAll_cons_mk (Below.trod laidOut (by kernel_rfl) (of_decide_eq_true (by kernel_rfl)) k0 bel lt0) trodAll_mk0), rfl, bel.frame _, fun h => by cases h⟩

theorem over : Rows.fnTracesRow.holds Try.pinned (OpenSpec.ofChange Rows.fnTracesSpec) :=
  OpenClaim.holds_of_wide 3 Try.f3 rfl rfl rfl rfl rfl rfl rfl ⟨rfl, rfl, rfl, rfl, rfl⟩ rfl rfl rfl rfl rfl (by kernel_rfl) Try.func3 (by kernel_rfl)
    (of_decide_eq_true (by kernel_rfl)) (by unfold Func.isWrapper; first | (rw [if_pos (by decide +kernel)]; kernel_rfl) | (rw [if_neg (by decide +kernel)]; exact ⟨rfl, rfl⟩))
    (fun os started H enc _ => lifted os started H enc)

theorem proved : Rows.FnTracesSaid := over
end Go.Proofs.Ytjeoenieoejolac.fnTraces
namespace Go.Proofs.Ytjeoenieoejolac
theorem fnTraces_holds : Rows.FnTracesSaid := fnTraces.proved
#print axioms fnTraces_holds
end Go.Proofs.Ytjeoenieoejolac
