/- Whatever bytes a machine and a claim are drawn from: Holds answers as its model, and says yes just where After, of a right machine, comes from the claim to its end in its steps, 1 or more; a code of more than 2 to the 20 bytes is passed by. -/
import Derived.Test.YtjeoenieoejoladRows
import Derived.WalkKit
import Derived.ProofKit
import Derived.OpenShut
import Derived.ShutString
import Derived.ChangeOld
import Derived.Below
import Derived.Test.YtjeoenieoejoladRdA
import Derived.Test.YtjeoenieoejoladRdV
import Derived.Test.YtjeoenieoejoladClH
namespace Go.Proofs.Ytjeoenieoejolad.fnHolds
open Go.ChangeShapes Go.WideShapes Go.ChangeAt Go.RowKit
open Go.ChangeMaps (open_string shut_string)
set_option linter.unusedVariables false

theorem own : ownKnob Try.prog.godebug = none := by kernel_rfl
theorem laidOut : laidOutB Try.prog = true := by kernel_rfl

def IsRow (k : IntKind) (w : World) (a : Option Addr) (len cap : Nat) (zs : List Int) : Prop :=
  (a = none ∧ len = 0 ∧ cap = 0 ∧ zs = []) ∨
  ∃ x, a = some x ∧ len ≤ cap ∧ cap ≤ maxLen ∧ zs.length = cap ∧ (∀ i, i < zs.length → w.cell? (x.add i) = some (.int k (zs.getD i 0))) ∧ ∀ n ∈ zs, (Lit.int k n).wf = true

set_option maxHeartbeats 8000000 in
set_option maxRecDepth 100000 in
theorem walk (a0 : Option Addr) (len0 cap0 : Nat) (z0 : List Int) (w : World) (w0 : IsRow .u8 w a0 len0 cap0 z0) :
    Calls Try.prog 4 #[.slice a0 len0 cap0] w fun e w' => e = .returned (.bool true) ∧ Below w.heap.size w w' := by
  have hrow : Row .u8 w a0 len0 cap0 z0 := w0
  clear w0
  have hl0 : (len0 : Int) ≤ 9223372036854775807 := by
    rcases hrow with ⟨_, rfl, _⟩ | ⟨x, _, h1, h2, _⟩
    · simp
    · unfold maxLen at h2; omega
  by_cases hbig : (1048576 : Int) < (len0 : Int)
  · go_enter Try.func4, Try.ntmps4
    go_wp2_with fail
    refine (big_any _ _ _ _).mono ?_
    rintro e w' ⟨rfl, rfl⟩
    go_wp2
    go_ret
    exact ⟨rfl, Below.refl _ _⟩
  · have HR : Hid (Row .u8 w a0 len0 cap0 z0) := hrow
    have hb : decide ((1048576 : Int) < (len0 : Int)) = false := by simpa using hbig
    clear hrow
    go_enter Try.func4, Try.ntmps4
    go_wp2_with fail
    refine (big_any _ _ _ _).mono ?_
    rintro e w ⟨rfl, rfl⟩
    go_wp2_with fail
    refine (drawHolds_any w HR.out).mono ?_
    rintro e v1 ⟨m, cl, rfl, hbl⟩
    have HB1 : Hid (Below w.heap.size w v1) := hbl
    have CI := implHolds_any m cl
    have CS := specHolds_any m cl
    have CM := specMachineOk_any m
    have CA := implAfter_any m cl.s cl.n
    have HP : Hid (m.ok = true → M.holds m cl = (M.runOk m cl.s cl.n && ((decide ((M.aft m cl.s cl.n).1 = cl.e.1) && decide ((M.aft m cl.s cl.n).2 = cl.e.2)) && decide (1 ≤ cl.n)))) := fun h => M.holds_after h
    generalize M.aft m cl.s cl.n = q at CA HP
    generalize M.runOk m cl.s cl.n = ro at CA HP
    generalize M.holds m cl = o at CI CS HP
    generalize m.ok = om at CM HP
    clear hbl
    obtain ⟨⟨a1, b1, c1, d1, f1, k1⟩, ⟨a2, b2, c2, d2, f2, k2⟩⟩ := m
    obtain ⟨⟨x, y⟩, ⟨x', y'⟩, n⟩ := cl
    obtain ⟨u, v⟩ := q
    dsimp only [mcv, clv, stv] at CI CS CM CA HP ⊢
    have LM : Hid (Lies ((v1.alloc (.cells #[.int .i64 a1, .int .i64 b1, .int .i64 c1, .int .i64 d1, .int .i64 f1, .int .i64 k1, .int .i64 a2, .int .i64 b2, .int .i64 c2, .int .i64 d2, .int .i64 f2, .int .i64 k2] 36)).alloc (.cells #[.int .i64 x, .int .i64 y, .int .i64 x', .int .i64 y', .int .i64 n] 29)) v1.heap.size [.int .i64 a1, .int .i64 b1, .int .i64 c1, .int .i64 d1, .int .i64 f1, .int .i64 k1, .int .i64 a2, .int .i64 b2, .int .i64 c2, .int .i64 d2, .int .i64 f2, .int .i64 k2]) := (lies_new _ _ _).alloc _
    have LC : Hid (Lies ((v1.alloc (.cells #[.int .i64 a1, .int .i64 b1, .int .i64 c1, .int .i64 d1, .int .i64 f1, .int .i64 k1, .int .i64 a2, .int .i64 b2, .int .i64 c2, .int .i64 d2, .int .i64 f2, .int .i64 k2] 36)).alloc (.cells #[.int .i64 x, .int .i64 y, .int .i64 x', .int .i64 y', .int .i64 n] 29)) (v1.heap.size + 1) [.int .i64 x, .int .i64 y, .int .i64 x', .int .i64 y', .int .i64 n]) := lies_new2 _ _ _ _
    have HBB : Hid (Below w.heap.size w ((v1.alloc (.cells #[.int .i64 a1, .int .i64 b1, .int .i64 c1, .int .i64 d1, .int .i64 f1, .int .i64 k1, .int .i64 a2, .int .i64 b2, .int .i64 c2, .int .i64 d2, .int .i64 f2, .int .i64 k2] 36)).alloc (.cells #[.int .i64 x, .int .i64 y, .int .i64 x', .int .i64 y', .int .i64 n] 29))) := (HB1.out.alloc HB1.out.size _).alloc (by have := HB1.out.size; simp; omega) _
    have HBv1 : Hid (Below ((v1.alloc (.cells #[.int .i64 a1, .int .i64 b1, .int .i64 c1, .int .i64 d1, .int .i64 f1, .int .i64 k1, .int .i64 a2, .int .i64 b2, .int .i64 c2, .int .i64 d2, .int .i64 f2, .int .i64 k2] 36)).alloc (.cells #[.int .i64 x, .int .i64 y, .int .i64 x', .int .i64 y', .int .i64 n] 29)).heap.size ((v1.alloc (.cells #[.int .i64 a1, .int .i64 b1, .int .i64 c1, .int .i64 d1, .int .i64 f1, .int .i64 k1, .int .i64 a2, .int .i64 b2, .int .i64 c2, .int .i64 d2, .int .i64 f2, .int .i64 k2] 36)).alloc (.cells #[.int .i64 x, .int .i64 y, .int .i64 x', .int .i64 y', .int .i64 n] 29)) ((v1.alloc (.cells #[.int .i64 a1, .int .i64 b1, .int .i64 c1, .int .i64 d1, .int .i64 f1, .int .i64 k1, .int .i64 a2, .int .i64 b2, .int .i64 c2, .int .i64 d2, .int .i64 f2, .int .i64 k2] 36)).alloc (.cells #[.int .i64 x, .int .i64 y, .int .i64 x', .int .i64 y', .int .i64 n] 29))) := Below.refl _ _
    have i1 : (o != o) = false := by simp
    have i2 : (o == o) = true := by simp
    have p0 : ((v1.alloc (.cells #[.int .i64 a1, .int .i64 b1, .int .i64 c1, .int .i64 d1, .int .i64 f1, .int .i64 k1, .int .i64 a2, .int .i64 b2, .int .i64 c2, .int .i64 d2, .int .i64 f2, .int .i64 k2] 36)).alloc (.cells #[.int .i64 x, .int .i64 y, .int .i64 x', .int .i64 y', .int .i64 n] 29)).cell? ⟨v1.heap.size, 0, none⟩ = some (.int .i64 a1) := (LM.out.belowS HBv1.out).at 0
    have p1 : ((v1.alloc (.cells #[.int .i64 a1, .int .i64 b1, .int .i64 c1, .int .i64 d1, .int .i64 f1, .int .i64 k1, .int .i64 a2, .int .i64 b2, .int .i64 c2, .int .i64 d2, .int .i64 f2, .int .i64 k2] 36)).alloc (.cells #[.int .i64 x, .int .i64 y, .int .i64 x', .int .i64 y', .int .i64 n] 29)).cell? ⟨v1.heap.size, 1, none⟩ = some (.int .i64 b1) := (LM.out.belowS HBv1.out).at 1
    have p2 : ((v1.alloc (.cells #[.int .i64 a1, .int .i64 b1, .int .i64 c1, .int .i64 d1, .int .i64 f1, .int .i64 k1, .int .i64 a2, .int .i64 b2, .int .i64 c2, .int .i64 d2, .int .i64 f2, .int .i64 k2] 36)).alloc (.cells #[.int .i64 x, .int .i64 y, .int .i64 x', .int .i64 y', .int .i64 n] 29)).cell? ⟨v1.heap.size, 2, none⟩ = some (.int .i64 c1) := (LM.out.belowS HBv1.out).at 2
    have p3 : ((v1.alloc (.cells #[.int .i64 a1, .int .i64 b1, .int .i64 c1, .int .i64 d1, .int .i64 f1, .int .i64 k1, .int .i64 a2, .int .i64 b2, .int .i64 c2, .int .i64 d2, .int .i64 f2, .int .i64 k2] 36)).alloc (.cells #[.int .i64 x, .int .i64 y, .int .i64 x', .int .i64 y', .int .i64 n] 29)).cell? ⟨v1.heap.size, 3, none⟩ = some (.int .i64 d1) := (LM.out.belowS HBv1.out).at 3
    have p4 : ((v1.alloc (.cells #[.int .i64 a1, .int .i64 b1, .int .i64 c1, .int .i64 d1, .int .i64 f1, .int .i64 k1, .int .i64 a2, .int .i64 b2, .int .i64 c2, .int .i64 d2, .int .i64 f2, .int .i64 k2] 36)).alloc (.cells #[.int .i64 x, .int .i64 y, .int .i64 x', .int .i64 y', .int .i64 n] 29)).cell? ⟨v1.heap.size, 4, none⟩ = some (.int .i64 f1) := (LM.out.belowS HBv1.out).at 4
    have p5 : ((v1.alloc (.cells #[.int .i64 a1, .int .i64 b1, .int .i64 c1, .int .i64 d1, .int .i64 f1, .int .i64 k1, .int .i64 a2, .int .i64 b2, .int .i64 c2, .int .i64 d2, .int .i64 f2, .int .i64 k2] 36)).alloc (.cells #[.int .i64 x, .int .i64 y, .int .i64 x', .int .i64 y', .int .i64 n] 29)).cell? ⟨v1.heap.size, 5, none⟩ = some (.int .i64 k1) := (LM.out.belowS HBv1.out).at 5
    have p6 : ((v1.alloc (.cells #[.int .i64 a1, .int .i64 b1, .int .i64 c1, .int .i64 d1, .int .i64 f1, .int .i64 k1, .int .i64 a2, .int .i64 b2, .int .i64 c2, .int .i64 d2, .int .i64 f2, .int .i64 k2] 36)).alloc (.cells #[.int .i64 x, .int .i64 y, .int .i64 x', .int .i64 y', .int .i64 n] 29)).cell? ⟨v1.heap.size, 6, none⟩ = some (.int .i64 a2) := (LM.out.belowS HBv1.out).at 6
    have p7 : ((v1.alloc (.cells #[.int .i64 a1, .int .i64 b1, .int .i64 c1, .int .i64 d1, .int .i64 f1, .int .i64 k1, .int .i64 a2, .int .i64 b2, .int .i64 c2, .int .i64 d2, .int .i64 f2, .int .i64 k2] 36)).alloc (.cells #[.int .i64 x, .int .i64 y, .int .i64 x', .int .i64 y', .int .i64 n] 29)).cell? ⟨v1.heap.size, 7, none⟩ = some (.int .i64 b2) := (LM.out.belowS HBv1.out).at 7
    have p8 : ((v1.alloc (.cells #[.int .i64 a1, .int .i64 b1, .int .i64 c1, .int .i64 d1, .int .i64 f1, .int .i64 k1, .int .i64 a2, .int .i64 b2, .int .i64 c2, .int .i64 d2, .int .i64 f2, .int .i64 k2] 36)).alloc (.cells #[.int .i64 x, .int .i64 y, .int .i64 x', .int .i64 y', .int .i64 n] 29)).cell? ⟨v1.heap.size, 8, none⟩ = some (.int .i64 c2) := (LM.out.belowS HBv1.out).at 8
    have p9 : ((v1.alloc (.cells #[.int .i64 a1, .int .i64 b1, .int .i64 c1, .int .i64 d1, .int .i64 f1, .int .i64 k1, .int .i64 a2, .int .i64 b2, .int .i64 c2, .int .i64 d2, .int .i64 f2, .int .i64 k2] 36)).alloc (.cells #[.int .i64 x, .int .i64 y, .int .i64 x', .int .i64 y', .int .i64 n] 29)).cell? ⟨v1.heap.size, 9, none⟩ = some (.int .i64 d2) := (LM.out.belowS HBv1.out).at 9
    have p10 : ((v1.alloc (.cells #[.int .i64 a1, .int .i64 b1, .int .i64 c1, .int .i64 d1, .int .i64 f1, .int .i64 k1, .int .i64 a2, .int .i64 b2, .int .i64 c2, .int .i64 d2, .int .i64 f2, .int .i64 k2] 36)).alloc (.cells #[.int .i64 x, .int .i64 y, .int .i64 x', .int .i64 y', .int .i64 n] 29)).cell? ⟨v1.heap.size, 10, none⟩ = some (.int .i64 f2) := (LM.out.belowS HBv1.out).at 10
    have p11 : ((v1.alloc (.cells #[.int .i64 a1, .int .i64 b1, .int .i64 c1, .int .i64 d1, .int .i64 f1, .int .i64 k1, .int .i64 a2, .int .i64 b2, .int .i64 c2, .int .i64 d2, .int .i64 f2, .int .i64 k2] 36)).alloc (.cells #[.int .i64 x, .int .i64 y, .int .i64 x', .int .i64 y', .int .i64 n] 29)).cell? ⟨v1.heap.size, 11, none⟩ = some (.int .i64 k2) := (LM.out.belowS HBv1.out).at 11
    have q0 : ((v1.alloc (.cells #[.int .i64 a1, .int .i64 b1, .int .i64 c1, .int .i64 d1, .int .i64 f1, .int .i64 k1, .int .i64 a2, .int .i64 b2, .int .i64 c2, .int .i64 d2, .int .i64 f2, .int .i64 k2] 36)).alloc (.cells #[.int .i64 x, .int .i64 y, .int .i64 x', .int .i64 y', .int .i64 n] 29)).cell? ⟨v1.heap.size + 1, 0, none⟩ = some (.int .i64 x) := (LC.out.belowS HBv1.out).at 0
    have q1 : ((v1.alloc (.cells #[.int .i64 a1, .int .i64 b1, .int .i64 c1, .int .i64 d1, .int .i64 f1, .int .i64 k1, .int .i64 a2, .int .i64 b2, .int .i64 c2, .int .i64 d2, .int .i64 f2, .int .i64 k2] 36)).alloc (.cells #[.int .i64 x, .int .i64 y, .int .i64 x', .int .i64 y', .int .i64 n] 29)).cell? ⟨v1.heap.size + 1, 1, none⟩ = some (.int .i64 y) := (LC.out.belowS HBv1.out).at 1
    have q2 : ((v1.alloc (.cells #[.int .i64 a1, .int .i64 b1, .int .i64 c1, .int .i64 d1, .int .i64 f1, .int .i64 k1, .int .i64 a2, .int .i64 b2, .int .i64 c2, .int .i64 d2, .int .i64 f2, .int .i64 k2] 36)).alloc (.cells #[.int .i64 x, .int .i64 y, .int .i64 x', .int .i64 y', .int .i64 n] 29)).cell? ⟨v1.heap.size + 1, 2, none⟩ = some (.int .i64 x') := (LC.out.belowS HBv1.out).at 2
    have q3 : ((v1.alloc (.cells #[.int .i64 a1, .int .i64 b1, .int .i64 c1, .int .i64 d1, .int .i64 f1, .int .i64 k1, .int .i64 a2, .int .i64 b2, .int .i64 c2, .int .i64 d2, .int .i64 f2, .int .i64 k2] 36)).alloc (.cells #[.int .i64 x, .int .i64 y, .int .i64 x', .int .i64 y', .int .i64 n] 29)).cell? ⟨v1.heap.size + 1, 3, none⟩ = some (.int .i64 y') := (LC.out.belowS HBv1.out).at 3
    have q4 : ((v1.alloc (.cells #[.int .i64 a1, .int .i64 b1, .int .i64 c1, .int .i64 d1, .int .i64 f1, .int .i64 k1, .int .i64 a2, .int .i64 b2, .int .i64 c2, .int .i64 d2, .int .i64 f2, .int .i64 k2] 36)).alloc (.cells #[.int .i64 x, .int .i64 y, .int .i64 x', .int .i64 y', .int .i64 n] 29)).cell? ⟨v1.heap.size + 1, 4, none⟩ = some (.int .i64 n) := (LC.out.belowS HBv1.out).at 4
    clear HB1
    go_wp2_with fail
    refine (CI _).mono ?_
    rintro e v2 ⟨rfl, hb⟩
    have HBv2 : Hid (Below ((v1.alloc (.cells #[.int .i64 a1, .int .i64 b1, .int .i64 c1, .int .i64 d1, .int .i64 f1, .int .i64 k1, .int .i64 a2, .int .i64 b2, .int .i64 c2, .int .i64 d2, .int .i64 f2, .int .i64 k2] 36)).alloc (.cells #[.int .i64 x, .int .i64 y, .int .i64 x', .int .i64 y', .int .i64 n] 29)).heap.size ((v1.alloc (.cells #[.int .i64 a1, .int .i64 b1, .int .i64 c1, .int .i64 d1, .int .i64 f1, .int .i64 k1, .int .i64 a2, .int .i64 b2, .int .i64 c2, .int .i64 d2, .int .i64 f2, .int .i64 k2] 36)).alloc (.cells #[.int .i64 x, .int .i64 y, .int .i64 x', .int .i64 y', .int .i64 n] 29)) v2) := HBv1.out.trans (hb.mono HBv1.out.size)
    clear hb p0 p1 p2 p3 p4 p5 p6 p7 p8 p9 p10 p11 q0 q1 q2 q3 q4
    have p0 : v2.cell? ⟨v1.heap.size, 0, none⟩ = some (.int .i64 a1) := (LM.out.belowS HBv2.out).at 0
    have p1 : v2.cell? ⟨v1.heap.size, 1, none⟩ = some (.int .i64 b1) := (LM.out.belowS HBv2.out).at 1
    have p2 : v2.cell? ⟨v1.heap.size, 2, none⟩ = some (.int .i64 c1) := (LM.out.belowS HBv2.out).at 2
    have p3 : v2.cell? ⟨v1.heap.size, 3, none⟩ = some (.int .i64 d1) := (LM.out.belowS HBv2.out).at 3
    have p4 : v2.cell? ⟨v1.heap.size, 4, none⟩ = some (.int .i64 f1) := (LM.out.belowS HBv2.out).at 4
    have p5 : v2.cell? ⟨v1.heap.size, 5, none⟩ = some (.int .i64 k1) := (LM.out.belowS HBv2.out).at 5
    have p6 : v2.cell? ⟨v1.heap.size, 6, none⟩ = some (.int .i64 a2) := (LM.out.belowS HBv2.out).at 6
    have p7 : v2.cell? ⟨v1.heap.size, 7, none⟩ = some (.int .i64 b2) := (LM.out.belowS HBv2.out).at 7
    have p8 : v2.cell? ⟨v1.heap.size, 8, none⟩ = some (.int .i64 c2) := (LM.out.belowS HBv2.out).at 8
    have p9 : v2.cell? ⟨v1.heap.size, 9, none⟩ = some (.int .i64 d2) := (LM.out.belowS HBv2.out).at 9
    have p10 : v2.cell? ⟨v1.heap.size, 10, none⟩ = some (.int .i64 f2) := (LM.out.belowS HBv2.out).at 10
    have p11 : v2.cell? ⟨v1.heap.size, 11, none⟩ = some (.int .i64 k2) := (LM.out.belowS HBv2.out).at 11
    have q0 : v2.cell? ⟨v1.heap.size + 1, 0, none⟩ = some (.int .i64 x) := (LC.out.belowS HBv2.out).at 0
    have q1 : v2.cell? ⟨v1.heap.size + 1, 1, none⟩ = some (.int .i64 y) := (LC.out.belowS HBv2.out).at 1
    have q2 : v2.cell? ⟨v1.heap.size + 1, 2, none⟩ = some (.int .i64 x') := (LC.out.belowS HBv2.out).at 2
    have q3 : v2.cell? ⟨v1.heap.size + 1, 3, none⟩ = some (.int .i64 y') := (LC.out.belowS HBv2.out).at 3
    have q4 : v2.cell? ⟨v1.heap.size + 1, 4, none⟩ = some (.int .i64 n) := (LC.out.belowS HBv2.out).at 4
    go_wp2_with fail
    refine (CS _).mono ?_
    rintro e v3 ⟨rfl, hb⟩
    have HBv3 : Hid (Below ((v1.alloc (.cells #[.int .i64 a1, .int .i64 b1, .int .i64 c1, .int .i64 d1, .int .i64 f1, .int .i64 k1, .int .i64 a2, .int .i64 b2, .int .i64 c2, .int .i64 d2, .int .i64 f2, .int .i64 k2] 36)).alloc (.cells #[.int .i64 x, .int .i64 y, .int .i64 x', .int .i64 y', .int .i64 n] 29)).heap.size ((v1.alloc (.cells #[.int .i64 a1, .int .i64 b1, .int .i64 c1, .int .i64 d1, .int .i64 f1, .int .i64 k1, .int .i64 a2, .int .i64 b2, .int .i64 c2, .int .i64 d2, .int .i64 f2, .int .i64 k2] 36)).alloc (.cells #[.int .i64 x, .int .i64 y, .int .i64 x', .int .i64 y', .int .i64 n] 29)) v3) := HBv2.out.trans (hb.mono HBv2.out.size)
    clear hb p0 p1 p2 p3 p4 p5 p6 p7 p8 p9 p10 p11 q0 q1 q2 q3 q4
    have p0 : v3.cell? ⟨v1.heap.size, 0, none⟩ = some (.int .i64 a1) := (LM.out.belowS HBv3.out).at 0
    have p1 : v3.cell? ⟨v1.heap.size, 1, none⟩ = some (.int .i64 b1) := (LM.out.belowS HBv3.out).at 1
    have p2 : v3.cell? ⟨v1.heap.size, 2, none⟩ = some (.int .i64 c1) := (LM.out.belowS HBv3.out).at 2
    have p3 : v3.cell? ⟨v1.heap.size, 3, none⟩ = some (.int .i64 d1) := (LM.out.belowS HBv3.out).at 3
    have p4 : v3.cell? ⟨v1.heap.size, 4, none⟩ = some (.int .i64 f1) := (LM.out.belowS HBv3.out).at 4
    have p5 : v3.cell? ⟨v1.heap.size, 5, none⟩ = some (.int .i64 k1) := (LM.out.belowS HBv3.out).at 5
    have p6 : v3.cell? ⟨v1.heap.size, 6, none⟩ = some (.int .i64 a2) := (LM.out.belowS HBv3.out).at 6
    have p7 : v3.cell? ⟨v1.heap.size, 7, none⟩ = some (.int .i64 b2) := (LM.out.belowS HBv3.out).at 7
    have p8 : v3.cell? ⟨v1.heap.size, 8, none⟩ = some (.int .i64 c2) := (LM.out.belowS HBv3.out).at 8
    have p9 : v3.cell? ⟨v1.heap.size, 9, none⟩ = some (.int .i64 d2) := (LM.out.belowS HBv3.out).at 9
    have p10 : v3.cell? ⟨v1.heap.size, 10, none⟩ = some (.int .i64 f2) := (LM.out.belowS HBv3.out).at 10
    have p11 : v3.cell? ⟨v1.heap.size, 11, none⟩ = some (.int .i64 k2) := (LM.out.belowS HBv3.out).at 11
    have q0 : v3.cell? ⟨v1.heap.size + 1, 0, none⟩ = some (.int .i64 x) := (LC.out.belowS HBv3.out).at 0
    have q1 : v3.cell? ⟨v1.heap.size + 1, 1, none⟩ = some (.int .i64 y) := (LC.out.belowS HBv3.out).at 1
    have q2 : v3.cell? ⟨v1.heap.size + 1, 2, none⟩ = some (.int .i64 x') := (LC.out.belowS HBv3.out).at 2
    have q3 : v3.cell? ⟨v1.heap.size + 1, 3, none⟩ = some (.int .i64 y') := (LC.out.belowS HBv3.out).at 3
    have q4 : v3.cell? ⟨v1.heap.size + 1, 4, none⟩ = some (.int .i64 n) := (LC.out.belowS HBv3.out).at 4
    go_wp2_with fail
    refine (CM _).mono ?_
    rintro e v4 ⟨rfl, hb⟩
    have HBv4 : Hid (Below ((v1.alloc (.cells #[.int .i64 a1, .int .i64 b1, .int .i64 c1, .int .i64 d1, .int .i64 f1, .int .i64 k1, .int .i64 a2, .int .i64 b2, .int .i64 c2, .int .i64 d2, .int .i64 f2, .int .i64 k2] 36)).alloc (.cells #[.int .i64 x, .int .i64 y, .int .i64 x', .int .i64 y', .int .i64 n] 29)).heap.size ((v1.alloc (.cells #[.int .i64 a1, .int .i64 b1, .int .i64 c1, .int .i64 d1, .int .i64 f1, .int .i64 k1, .int .i64 a2, .int .i64 b2, .int .i64 c2, .int .i64 d2, .int .i64 f2, .int .i64 k2] 36)).alloc (.cells #[.int .i64 x, .int .i64 y, .int .i64 x', .int .i64 y', .int .i64 n] 29)) v4) := HBv3.out.trans (hb.mono HBv3.out.size)
    clear hb p0 p1 p2 p3 p4 p5 p6 p7 p8 p9 p10 p11 q0 q1 q2 q3 q4
    have p0 : v4.cell? ⟨v1.heap.size, 0, none⟩ = some (.int .i64 a1) := (LM.out.belowS HBv4.out).at 0
    have p1 : v4.cell? ⟨v1.heap.size, 1, none⟩ = some (.int .i64 b1) := (LM.out.belowS HBv4.out).at 1
    have p2 : v4.cell? ⟨v1.heap.size, 2, none⟩ = some (.int .i64 c1) := (LM.out.belowS HBv4.out).at 2
    have p3 : v4.cell? ⟨v1.heap.size, 3, none⟩ = some (.int .i64 d1) := (LM.out.belowS HBv4.out).at 3
    have p4 : v4.cell? ⟨v1.heap.size, 4, none⟩ = some (.int .i64 f1) := (LM.out.belowS HBv4.out).at 4
    have p5 : v4.cell? ⟨v1.heap.size, 5, none⟩ = some (.int .i64 k1) := (LM.out.belowS HBv4.out).at 5
    have p6 : v4.cell? ⟨v1.heap.size, 6, none⟩ = some (.int .i64 a2) := (LM.out.belowS HBv4.out).at 6
    have p7 : v4.cell? ⟨v1.heap.size, 7, none⟩ = some (.int .i64 b2) := (LM.out.belowS HBv4.out).at 7
    have p8 : v4.cell? ⟨v1.heap.size, 8, none⟩ = some (.int .i64 c2) := (LM.out.belowS HBv4.out).at 8
    have p9 : v4.cell? ⟨v1.heap.size, 9, none⟩ = some (.int .i64 d2) := (LM.out.belowS HBv4.out).at 9
    have p10 : v4.cell? ⟨v1.heap.size, 10, none⟩ = some (.int .i64 f2) := (LM.out.belowS HBv4.out).at 10
    have p11 : v4.cell? ⟨v1.heap.size, 11, none⟩ = some (.int .i64 k2) := (LM.out.belowS HBv4.out).at 11
    have q0 : v4.cell? ⟨v1.heap.size + 1, 0, none⟩ = some (.int .i64 x) := (LC.out.belowS HBv4.out).at 0
    have q1 : v4.cell? ⟨v1.heap.size + 1, 1, none⟩ = some (.int .i64 y) := (LC.out.belowS HBv4.out).at 1
    have q2 : v4.cell? ⟨v1.heap.size + 1, 2, none⟩ = some (.int .i64 x') := (LC.out.belowS HBv4.out).at 2
    have q3 : v4.cell? ⟨v1.heap.size + 1, 3, none⟩ = some (.int .i64 y') := (LC.out.belowS HBv4.out).at 3
    have q4 : v4.cell? ⟨v1.heap.size + 1, 4, none⟩ = some (.int .i64 n) := (LC.out.belowS HBv4.out).at 4
    cases om with
    | false =>
      go_wp2_with fail
      refine (CS _).mono ?_
      rintro e v5 ⟨rfl, hb⟩
      have HBv5 : Hid (Below ((v1.alloc (.cells #[.int .i64 a1, .int .i64 b1, .int .i64 c1, .int .i64 d1, .int .i64 f1, .int .i64 k1, .int .i64 a2, .int .i64 b2, .int .i64 c2, .int .i64 d2, .int .i64 f2, .int .i64 k2] 36)).alloc (.cells #[.int .i64 x, .int .i64 y, .int .i64 x', .int .i64 y', .int .i64 n] 29)).heap.size ((v1.alloc (.cells #[.int .i64 a1, .int .i64 b1, .int .i64 c1, .int .i64 d1, .int .i64 f1, .int .i64 k1, .int .i64 a2, .int .i64 b2, .int .i64 c2, .int .i64 d2, .int .i64 f2, .int .i64 k2] 36)).alloc (.cells #[.int .i64 x, .int .i64 y, .int .i64 x', .int .i64 y', .int .i64 n] 29)) v5) := HBv4.out.trans (hb.mono HBv4.out.size)
      clear hb p0 p1 p2 p3 p4 p5 p6 p7 p8 p9 p10 p11 q0 q1 q2 q3 q4
      have p0 : v5.cell? ⟨v1.heap.size, 0, none⟩ = some (.int .i64 a1) := (LM.out.belowS HBv5.out).at 0
      have p1 : v5.cell? ⟨v1.heap.size, 1, none⟩ = some (.int .i64 b1) := (LM.out.belowS HBv5.out).at 1
      have p2 : v5.cell? ⟨v1.heap.size, 2, none⟩ = some (.int .i64 c1) := (LM.out.belowS HBv5.out).at 2
      have p3 : v5.cell? ⟨v1.heap.size, 3, none⟩ = some (.int .i64 d1) := (LM.out.belowS HBv5.out).at 3
      have p4 : v5.cell? ⟨v1.heap.size, 4, none⟩ = some (.int .i64 f1) := (LM.out.belowS HBv5.out).at 4
      have p5 : v5.cell? ⟨v1.heap.size, 5, none⟩ = some (.int .i64 k1) := (LM.out.belowS HBv5.out).at 5
      have p6 : v5.cell? ⟨v1.heap.size, 6, none⟩ = some (.int .i64 a2) := (LM.out.belowS HBv5.out).at 6
      have p7 : v5.cell? ⟨v1.heap.size, 7, none⟩ = some (.int .i64 b2) := (LM.out.belowS HBv5.out).at 7
      have p8 : v5.cell? ⟨v1.heap.size, 8, none⟩ = some (.int .i64 c2) := (LM.out.belowS HBv5.out).at 8
      have p9 : v5.cell? ⟨v1.heap.size, 9, none⟩ = some (.int .i64 d2) := (LM.out.belowS HBv5.out).at 9
      have p10 : v5.cell? ⟨v1.heap.size, 10, none⟩ = some (.int .i64 f2) := (LM.out.belowS HBv5.out).at 10
      have p11 : v5.cell? ⟨v1.heap.size, 11, none⟩ = some (.int .i64 k2) := (LM.out.belowS HBv5.out).at 11
      have q0 : v5.cell? ⟨v1.heap.size + 1, 0, none⟩ = some (.int .i64 x) := (LC.out.belowS HBv5.out).at 0
      have q1 : v5.cell? ⟨v1.heap.size + 1, 1, none⟩ = some (.int .i64 y) := (LC.out.belowS HBv5.out).at 1
      have q2 : v5.cell? ⟨v1.heap.size + 1, 2, none⟩ = some (.int .i64 x') := (LC.out.belowS HBv5.out).at 2
      have q3 : v5.cell? ⟨v1.heap.size + 1, 3, none⟩ = some (.int .i64 y') := (LC.out.belowS HBv5.out).at 3
      have q4 : v5.cell? ⟨v1.heap.size + 1, 4, none⟩ = some (.int .i64 n) := (LC.out.belowS HBv5.out).at 4
      go_wp2
      go_ret
      exact ⟨rfl, HBB.out.trans (HBv5.out.mono HBB.out.size)⟩
    | true =>
      have HO := HP.out (by simp)
      clear HP
      go_wp2_with fail
      refine (CA _).mono ?_
      rintro e v5 ⟨rfl, hb⟩
      have HBv5 : Hid (Below ((v1.alloc (.cells #[.int .i64 a1, .int .i64 b1, .int .i64 c1, .int .i64 d1, .int .i64 f1, .int .i64 k1, .int .i64 a2, .int .i64 b2, .int .i64 c2, .int .i64 d2, .int .i64 f2, .int .i64 k2] 36)).alloc (.cells #[.int .i64 x, .int .i64 y, .int .i64 x', .int .i64 y', .int .i64 n] 29)).heap.size ((v1.alloc (.cells #[.int .i64 a1, .int .i64 b1, .int .i64 c1, .int .i64 d1, .int .i64 f1, .int .i64 k1, .int .i64 a2, .int .i64 b2, .int .i64 c2, .int .i64 d2, .int .i64 f2, .int .i64 k2] 36)).alloc (.cells #[.int .i64 x, .int .i64 y, .int .i64 x', .int .i64 y', .int .i64 n] 29)) v5) := HBv4.out.trans (hb.mono HBv4.out.size)
      clear hb p0 p1 p2 p3 p4 p5 p6 p7 p8 p9 p10 p11 q0 q1 q2 q3 q4
      have p0 : v5.cell? ⟨v1.heap.size, 0, none⟩ = some (.int .i64 a1) := (LM.out.belowS HBv5.out).at 0
      have p1 : v5.cell? ⟨v1.heap.size, 1, none⟩ = some (.int .i64 b1) := (LM.out.belowS HBv5.out).at 1
      have p2 : v5.cell? ⟨v1.heap.size, 2, none⟩ = some (.int .i64 c1) := (LM.out.belowS HBv5.out).at 2
      have p3 : v5.cell? ⟨v1.heap.size, 3, none⟩ = some (.int .i64 d1) := (LM.out.belowS HBv5.out).at 3
      have p4 : v5.cell? ⟨v1.heap.size, 4, none⟩ = some (.int .i64 f1) := (LM.out.belowS HBv5.out).at 4
      have p5 : v5.cell? ⟨v1.heap.size, 5, none⟩ = some (.int .i64 k1) := (LM.out.belowS HBv5.out).at 5
      have p6 : v5.cell? ⟨v1.heap.size, 6, none⟩ = some (.int .i64 a2) := (LM.out.belowS HBv5.out).at 6
      have p7 : v5.cell? ⟨v1.heap.size, 7, none⟩ = some (.int .i64 b2) := (LM.out.belowS HBv5.out).at 7
      have p8 : v5.cell? ⟨v1.heap.size, 8, none⟩ = some (.int .i64 c2) := (LM.out.belowS HBv5.out).at 8
      have p9 : v5.cell? ⟨v1.heap.size, 9, none⟩ = some (.int .i64 d2) := (LM.out.belowS HBv5.out).at 9
      have p10 : v5.cell? ⟨v1.heap.size, 10, none⟩ = some (.int .i64 f2) := (LM.out.belowS HBv5.out).at 10
      have p11 : v5.cell? ⟨v1.heap.size, 11, none⟩ = some (.int .i64 k2) := (LM.out.belowS HBv5.out).at 11
      have q0 : v5.cell? ⟨v1.heap.size + 1, 0, none⟩ = some (.int .i64 x) := (LC.out.belowS HBv5.out).at 0
      have q1 : v5.cell? ⟨v1.heap.size + 1, 1, none⟩ = some (.int .i64 y) := (LC.out.belowS HBv5.out).at 1
      have q2 : v5.cell? ⟨v1.heap.size + 1, 2, none⟩ = some (.int .i64 x') := (LC.out.belowS HBv5.out).at 2
      have q3 : v5.cell? ⟨v1.heap.size + 1, 3, none⟩ = some (.int .i64 y') := (LC.out.belowS HBv5.out).at 3
      have q4 : v5.cell? ⟨v1.heap.size + 1, 4, none⟩ = some (.int .i64 n) := (LC.out.belowS HBv5.out).at 4
      clear p0 p1 p2 p3 p4 p5 p6 p7 p8 p9 p10 p11 q0 q1 q2 q3 q4
      have HBE : Hid (Below ((v1.alloc (.cells #[.int .i64 a1, .int .i64 b1, .int .i64 c1, .int .i64 d1, .int .i64 f1, .int .i64 k1, .int .i64 a2, .int .i64 b2, .int .i64 c2, .int .i64 d2, .int .i64 f2, .int .i64 k2] 36)).alloc (.cells #[.int .i64 x, .int .i64 y, .int .i64 x', .int .i64 y', .int .i64 n] 29)).heap.size ((v1.alloc (.cells #[.int .i64 a1, .int .i64 b1, .int .i64 c1, .int .i64 d1, .int .i64 f1, .int .i64 k1, .int .i64 a2, .int .i64 b2, .int .i64 c2, .int .i64 d2, .int .i64 f2, .int .i64 k2] 36)).alloc (.cells #[.int .i64 x, .int .i64 y, .int .i64 x', .int .i64 y', .int .i64 n] 29)) (v5.alloc (.cells #[.int .i64 u, .int .i64 v] 27))) := HBv5.out.alloc HBv5.out.size _
      have LE : Hid (Lies (v5.alloc (.cells #[.int .i64 u, .int .i64 v] 27)) v5.heap.size [.int .i64 u, .int .i64 v]) := lies_new _ _ _
      have q0 : (v5.alloc (.cells #[.int .i64 u, .int .i64 v] 27)).cell? ⟨v1.heap.size + 1, 0, none⟩ = some (.int .i64 x) := (LC.out.belowS HBE.out).at 0
      have q1 : (v5.alloc (.cells #[.int .i64 u, .int .i64 v] 27)).cell? ⟨v1.heap.size + 1, 1, none⟩ = some (.int .i64 y) := (LC.out.belowS HBE.out).at 1
      have q2 : (v5.alloc (.cells #[.int .i64 u, .int .i64 v] 27)).cell? ⟨v1.heap.size + 1, 2, none⟩ = some (.int .i64 x') := (LC.out.belowS HBE.out).at 2
      have q3 : (v5.alloc (.cells #[.int .i64 u, .int .i64 v] 27)).cell? ⟨v1.heap.size + 1, 3, none⟩ = some (.int .i64 y') := (LC.out.belowS HBE.out).at 3
      have q4 : (v5.alloc (.cells #[.int .i64 u, .int .i64 v] 27)).cell? ⟨v1.heap.size + 1, 4, none⟩ = some (.int .i64 n) := (LC.out.belowS HBE.out).at 4
      have g0 : (v5.alloc (.cells #[.int .i64 u, .int .i64 v] 27)).cell? ⟨v5.heap.size, 0, none⟩ = some (.int .i64 u) := LE.out.at 0
      have g1 : (v5.alloc (.cells #[.int .i64 u, .int .i64 v] 27)).cell? ⟨v5.heap.size, 1, none⟩ = some (.int .i64 v) := LE.out.at 1
      cases ro with
      | false =>
        obtain rfl : o = false := HO
        go_wp2
        go_ret
        exact ⟨rfl, HBB.out.trans (HBE.out.mono HBB.out.size)⟩
      | true =>
        by_cases h1 : u = x'
        · by_cases h2 : v = y'
          · subst h1 h2
            have j1 : (u == u) = true := by simp
            have j2 : (v == v) = true := by simp
            by_cases h3 : 1 ≤ n
            · obtain rfl : o = true := by rw [HO]; simp [h3]
              clear HO
              go_wp2
              go_ret
              exact ⟨rfl, HBB.out.trans (HBE.out.mono HBB.out.size)⟩
            · obtain rfl : o = false := by rw [HO]; simp; omega
              clear HO
              go_wp2
              go_ret
              exact ⟨rfl, HBB.out.trans (HBE.out.mono HBB.out.size)⟩
          · subst h1
            have j1 : (u == u) = true := by simp
            have j2 : (v == y') = false := by simpa using h2
            obtain rfl : o = false := by rw [HO]; simp [h2]
            clear HO
            go_wp2
            go_ret
            exact ⟨rfl, HBB.out.trans (HBE.out.mono HBB.out.size)⟩
        · have j1 : (u == x') = false := by simpa using h1
          obtain rfl : o = false := by rw [HO]; simp [h1]
          clear HO
          go_wp2
          go_ret
          exact ⟨rfl, HBB.out.trans (HBE.out.mono HBB.out.size)⟩

set_option maxRecDepth 100000 in
theorem lifted (os : Os) (started : os.Started) (H : Type) (enc : TypeId × Value → H) :
    ReturnsInHanded {} Try.checked os 4 .any (Rows.fnHoldsSpec.pre6 enc Try.prog Try.f4 Rows.fnHoldsRow.domain false) (Rows.fnHoldsSpec.post enc Try.prog Try.f4 false true false false) := by
  refine returnsInHanded_of_change (C := Try.checked) own started (by kernel_rfl) Try.func4
    (ChangeSpec.witness6 (enc := enc) (C := Try.checked) false ⟨#[], #[.slice none 0 0], []⟩ 8 (by kernel_rfl) (by kernel_rfl) (by kernel_rfl) (by kernel_rfl)) ?_
  intro W base args ds gs before hval0 hW hcnd _
  have hval : ∀ (j : Nat) t v, Try.f4.params[j]? = some t → args[j]? = some v → Value.okWide Try.prog W .any base t v := hval0
  have hW' := hW
  obtain ⟨p, q, hA0, hV, rfl, hfz, hnd⟩ := hW
  have hA : DataW.TrodAll enc Try.prog W 0 (fun _ => true) true Try.f4.params.toList args.toList ds p := hA0
  rw [Try.params4] at hA hval
  obtain ⟨v0, vs0, d0, ds0, p0, q0, hargs, rfl, rfl, h0, r0⟩ := trodAll_cons hA
  obtain ⟨rfl, rfl, rfl⟩ := trodAll_nil r0
  obtain rfl : args = #[v0] := by cases args; simp_all
  obtain ⟨rfl, rfl⟩ := trodVars_none hV
  obtain ⟨a0, len0, cap0, rfl⟩ := okWide_slice Try.underlying22 (hval 0 22 v0 rfl rfl)
  have k0 := h0
  have lt0 : ∀ x ∈ p0, x.block < W.heap.size := by obtain ⟨m, hm⟩ := k0; exact DataW.trod_lt m _ _ _ hm
  obtain ⟨z0, w0⟩ : ∃ zs, IsRow .u8 W a0 len0 cap0 zs := by
    obtain ⟨fuel, hf⟩ := h0
    rcases open_ints Try.underlying22 Try.underlying5 (by kernel_rfl) hf with ⟨hcs, _⟩ | ⟨x, l, c, zs, hcs, _, hl, hm, hz, _, hcell, hwz⟩
    · simp [Value.cells] at hcs
      obtain ⟨rfl, rfl, rfl⟩ := hcs
      exact ⟨[], .inl ⟨rfl, rfl, rfl, rfl⟩⟩
    · simp [Value.cells] at hcs
      obtain ⟨rfl, rfl, rfl⟩ := hcs
      exact ⟨zs, .inr ⟨_, rfl, hl, hm, by simpa using hz, hcell, hwz⟩⟩
  clear hA0 hval0
  refine (walk a0 len0 cap0 z0 W w0).mono fun e W' ⟨he, bel⟩ => ?_
  subst he
  exact ⟨_, rfl, _, _, _, [], _, [], hW', trodAll_mk1 (shut_bool Try.underlying4 _), (trodAll_cons_mk (Below.trod laidOut (by kernel_rfl) (of_decide_eq_true (by kernel_rfl)) k0 bel lt0) trodAll_mk0), rfl, bel.frame _, fun h => by cases h⟩

theorem over : Rows.fnHoldsRow.holds Try.pinned (OpenSpec.ofChange Rows.fnHoldsSpec) :=
  OpenClaim.holds_of_wide 4 Try.f4 rfl rfl rfl rfl rfl rfl rfl ⟨rfl, rfl, rfl, rfl, rfl⟩ rfl rfl rfl rfl rfl (by kernel_rfl) Try.func4 (by kernel_rfl)
    (of_decide_eq_true (by kernel_rfl)) (by unfold Func.isWrapper; first | (rw [if_pos (by decide +kernel)]; kernel_rfl) | (rw [if_neg (by decide +kernel)]; exact ⟨rfl, rfl⟩))
    (fun os started H enc _ => lifted os started H enc)

theorem proved : Rows.FnHoldsSaid := over
end Go.Proofs.Ytjeoenieoejolad.fnHolds
namespace Go.Proofs.Ytjeoenieoejolad
theorem fnHolds_holds : Rows.FnHoldsSaid := fnHolds.proved
#print axioms fnHolds_holds
end Go.Proofs.Ytjeoenieoejolad
