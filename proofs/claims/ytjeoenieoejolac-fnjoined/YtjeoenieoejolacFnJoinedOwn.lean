/- Whatever bytes two claims, a machine, a state and two numbers are drawn from: Joined answers as its model; where it says yes its answer goes from the start of the one to the end of the other in the steps of both; and the first two pieces of a cut run are joined to a claim that holds, as the first of them does; a code of more than 2 to the 20 bytes is passed by. -/
import Derived.Test.YtjeoenieoejolacRows
import Derived.WalkKit
import Derived.ProofKit
import Derived.OpenShut
import Derived.ShutString
import Derived.ChangeOld
import Derived.Below
import Derived.Test.YtjeoenieoejolacRdA
import Derived.Test.YtjeoenieoejolacRdX
import Derived.Test.YtjeoenieoejolacRdW
import Derived.Test.YtjeoenieoejolacClS
import Derived.Test.YtjeoenieoejolacClJ
import Derived.Test.YtjeoenieoejolacClB
namespace Go.Proofs.Ytjeoenieoejolac.fnJoined
open Go.ChangeShapes Go.WideShapes Go.ChangeAt Go.RowKit
open Go.ChangeMaps (open_string shut_string)
set_option linter.unusedVariables false

theorem own : ownKnob Try.prog.godebug = none := by kernel_rfl
theorem laidOut : laidOutB Try.prog = true := by kernel_rfl

def IsRow (k : IntKind) (w : World) (a : Option Addr) (len cap : Nat) (zs : List Int) : Prop :=
  (a = none ∧ len = 0 ∧ cap = 0 ∧ zs = []) ∨
  ∃ x, a = some x ∧ len ≤ cap ∧ cap ≤ maxLen ∧ zs.length = cap ∧ (∀ i, i < zs.length → w.cell? (x.add i) = some (.int k (zs.getD i 0))) ∧ ∀ n ∈ zs, (Lit.int k n).wf = true

set_option maxHeartbeats 8000000 in
set_option maxRecDepth 100000 in
theorem walk (a0 : Option Addr) (len0 cap0 : Nat) (z0 : List Int) (w : World) (w0 : IsRow .u8 w a0 len0 cap0 z0) :
    Calls Try.prog 4 #[.slice a0 len0 cap0] w fun e w' => e = .returned (.bool true) ∧ Below w.heap.size w w' := by
  have hrow : Row .u8 w a0 len0 cap0 z0 := w0
  clear w0
  have hl0 : (len0 : Int) ≤ 9223372036854775807 := by
    rcases hrow with ⟨_, rfl, _⟩ | ⟨x, _, h1, h2, _⟩
    · simp
    · unfold maxLen at h2; omega
  by_cases hbig : (1048576 : Int) < (len0 : Int)
  · go_enter Try.func4, Try.ntmps4
    go_wp2_with fail
    refine (big_any _ _ _ _).mono ?_
    rintro e w' ⟨rfl, rfl⟩
    go_wp2
    go_ret
    exact ⟨rfl, Below.refl _ _⟩
  · have HR : Hid (Row .u8 w a0 len0 cap0 z0) := hrow
    have hb : decide ((1048576 : Int) < (len0 : Int)) = false := by simpa using hbig
    clear hrow
    go_enter Try.func4, Try.ntmps4
    go_wp2_with fail
    refine (big_any _ _ _ _).mono ?_
    rintro e w ⟨rfl, rfl⟩
    go_wp2_with fail
    refine (drawJoined_any w HR.out).mono ?_
    rintro e v1 ⟨ca, cb, rfl, hbl⟩
    have HB1 : Hid (Below w.heap.size w v1) := hbl
    have CI := implJoined_any ca cb
    have CS := specJoined_any ca cb
    have HQ : Hid (M.joinOk ca cb = true → M.joinv ca cb = ⟨ca.s, cb.e, ca.n + cb.n⟩ ∧ (1 ≤ ca.n ∧ ca.n ≤ 1000) ∧ (1 ≤ cb.n ∧ cb.n ≤ 1000)) := fun h => ⟨M.joinv_in h, by
      unfold M.joinOk at h; simp only [Bool.and_eq_true] at h; exact ⟨M.clOk_n h.1, M.clOk_n h.2.1⟩⟩
    generalize M.joinv ca cb = q at CI CS HQ
    generalize M.joinOk ca cb = o at CI CS HQ
    clear hbl
    obtain ⟨⟨x, y⟩, ⟨x', y'⟩, n⟩ := ca
    obtain ⟨⟨u, v⟩, ⟨u', v'⟩, m⟩ := cb
    obtain ⟨⟨s1, s2⟩, ⟨t1, t2⟩, st⟩ := q
    dsimp only [clv] at CI CS HQ ⊢
    have LA : Hid (Lies ((v1.alloc (.cells #[.int .i64 x, .int .i64 y, .int .i64 x', .int .i64 y', .int .i64 n] 39)).alloc (.cells #[.int .i64 u, .int .i64 v, .int .i64 u', .int .i64 v', .int .i64 m] 39)) v1.heap.size [.int .i64 x, .int .i64 y, .int .i64 x', .int .i64 y', .int .i64 n]) := (lies_new _ _ _).alloc _
    have LB : Hid (Lies ((v1.alloc (.cells #[.int .i64 x, .int .i64 y, .int .i64 x', .int .i64 y', .int .i64 n] 39)).alloc (.cells #[.int .i64 u, .int .i64 v, .int .i64 u', .int .i64 v', .int .i64 m] 39)) (v1.heap.size + 1) [.int .i64 u, .int .i64 v, .int .i64 u', .int .i64 v', .int .i64 m]) := lies_new2 _ _ _ _
    have HBB : Hid (Below w.heap.size w ((v1.alloc (.cells #[.int .i64 x, .int .i64 y, .int .i64 x', .int .i64 y', .int .i64 n] 39)).alloc (.cells #[.int .i64 u, .int .i64 v, .int .i64 u', .int .i64 v', .int .i64 m] 39))) := (HB1.out.alloc HB1.out.size _).alloc (by have := HB1.out.size; simp; omega) _
    clear HB1
    go_wp2_with fail
    refine (CI _).mono ?_
    rintro e v2 ⟨rfl, hb2⟩
    have LA2 : Hid (Lies (v2.alloc (.cells #[.int .i64 s1, .int .i64 s2, .int .i64 t1, .int .i64 t2, .int .i64 st] 39)) v1.heap.size [.int .i64 x, .int .i64 y, .int .i64 x', .int .i64 y', .int .i64 n]) := (LA.out.belowS hb2).alloc _
    have LB2 : Hid (Lies (v2.alloc (.cells #[.int .i64 s1, .int .i64 s2, .int .i64 t1, .int .i64 t2, .int .i64 st] 39)) (v1.heap.size + 1) [.int .i64 u, .int .i64 v, .int .i64 u', .int .i64 v', .int .i64 m]) := (LB.out.belowS hb2).alloc _
    have LC2 : Hid (Lies (v2.alloc (.cells #[.int .i64 s1, .int .i64 s2, .int .i64 t1, .int .i64 t2, .int .i64 st] 39)) v2.heap.size [.int .i64 s1, .int .i64 s2, .int .i64 t1, .int .i64 t2, .int .i64 st]) := lies_new _ _ _
    have HB2 : Hid (Below w.heap.size w (v2.alloc (.cells #[.int .i64 s1, .int .i64 s2, .int .i64 t1, .int .i64 t2, .int .i64 st] 39))) := (HBB.out.trans (hb2.mono HBB.out.size)).alloc (Nat.le_trans HBB.out.size hb2.size) _
    clear hb2 LA LB HBB
    have fa0 : (v2.alloc (.cells #[.int .i64 s1, .int .i64 s2, .int .i64 t1, .int .i64 t2, .int .i64 st] 39)).cell? ⟨v1.heap.size, 0, none⟩ = some (.int .i64 x) := LA2.out.at 0
    have fa1 : (v2.alloc (.cells #[.int .i64 s1, .int .i64 s2, .int .i64 t1, .int .i64 t2, .int .i64 st] 39)).cell? ⟨v1.heap.size, 1, none⟩ = some (.int .i64 y) := LA2.out.at 1
    have fa2 : (v2.alloc (.cells #[.int .i64 s1, .int .i64 s2, .int .i64 t1, .int .i64 t2, .int .i64 st] 39)).cell? ⟨v1.heap.size, 2, none⟩ = some (.int .i64 x') := LA2.out.at 2
    have fa3 : (v2.alloc (.cells #[.int .i64 s1, .int .i64 s2, .int .i64 t1, .int .i64 t2, .int .i64 st] 39)).cell? ⟨v1.heap.size, 3, none⟩ = some (.int .i64 y') := LA2.out.at 3
    have fa4 : (v2.alloc (.cells #[.int .i64 s1, .int .i64 s2, .int .i64 t1, .int .i64 t2, .int .i64 st] 39)).cell? ⟨v1.heap.size, 4, none⟩ = some (.int .i64 n) := LA2.out.at 4
    have fb0 : (v2.alloc (.cells #[.int .i64 s1, .int .i64 s2, .int .i64 t1, .int .i64 t2, .int .i64 st] 39)).cell? ⟨v1.heap.size + 1, 0, none⟩ = some (.int .i64 u) := LB2.out.at 0
    have fb1 : (v2.alloc (.cells #[.int .i64 s1, .int .i64 s2, .int .i64 t1, .int .i64 t2, .int .i64 st] 39)).cell? ⟨v1.heap.size + 1, 1, none⟩ = some (.int .i64 v) := LB2.out.at 1
    have fb2 : (v2.alloc (.cells #[.int .i64 s1, .int .i64 s2, .int .i64 t1, .int .i64 t2, .int .i64 st] 39)).cell? ⟨v1.heap.size + 1, 2, none⟩ = some (.int .i64 u') := LB2.out.at 2
    have fb3 : (v2.alloc (.cells #[.int .i64 s1, .int .i64 s2, .int .i64 t1, .int .i64 t2, .int .i64 st] 39)).cell? ⟨v1.heap.size + 1, 3, none⟩ = some (.int .i64 v') := LB2.out.at 3
    have fb4 : (v2.alloc (.cells #[.int .i64 s1, .int .i64 s2, .int .i64 t1, .int .i64 t2, .int .i64 st] 39)).cell? ⟨v1.heap.size + 1, 4, none⟩ = some (.int .i64 m) := LB2.out.at 4
    go_wp2_with fail
    refine (CS _).mono ?_
    rintro e v3 ⟨rfl, hb3⟩
    have LA3 : Hid (Lies (v3.alloc (.cells #[.int .i64 s1, .int .i64 s2, .int .i64 t1, .int .i64 t2, .int .i64 st] 39)) v1.heap.size [.int .i64 x, .int .i64 y, .int .i64 x', .int .i64 y', .int .i64 n]) := (LA2.out.belowS hb3).alloc _
    have LB3 : Hid (Lies (v3.alloc (.cells #[.int .i64 s1, .int .i64 s2, .int .i64 t1, .int .i64 t2, .int .i64 st] 39)) (v1.heap.size + 1) [.int .i64 u, .int .i64 v, .int .i64 u', .int .i64 v', .int .i64 m]) := (LB2.out.belowS hb3).alloc _
    have LC3 : Hid (Lies (v3.alloc (.cells #[.int .i64 s1, .int .i64 s2, .int .i64 t1, .int .i64 t2, .int .i64 st] 39)) v2.heap.size [.int .i64 s1, .int .i64 s2, .int .i64 t1, .int .i64 t2, .int .i64 st]) := (LC2.out.belowS hb3).alloc _
    have LD3 : Hid (Lies (v3.alloc (.cells #[.int .i64 s1, .int .i64 s2, .int .i64 t1, .int .i64 t2, .int .i64 st] 39)) v3.heap.size [.int .i64 s1, .int .i64 s2, .int .i64 t1, .int .i64 t2, .int .i64 st]) := lies_new _ _ _
    have HB3 : Hid (Below w.heap.size w (v3.alloc (.cells #[.int .i64 s1, .int .i64 s2, .int .i64 t1, .int .i64 t2, .int .i64 st] 39))) := (HB2.out.trans (hb3.mono HB2.out.size)).alloc (Nat.le_trans HB2.out.size hb3.size) _
    clear hb3 LA2 LB2 LC2 HB2 fa0 fa1 fa2 fa3 fa4 fb0 fb1 fb2 fb3 fb4 CI CS
    have fa0 : (v3.alloc (.cells #[.int .i64 s1, .int .i64 s2, .int .i64 t1, .int .i64 t2, .int .i64 st] 39)).cell? ⟨v1.heap.size, 0, none⟩ = some (.int .i64 x) := LA3.out.at 0
    have fa1 : (v3.alloc (.cells #[.int .i64 s1, .int .i64 s2, .int .i64 t1, .int .i64 t2, .int .i64 st] 39)).cell? ⟨v1.heap.size, 1, none⟩ = some (.int .i64 y) := LA3.out.at 1
    have fa2 : (v3.alloc (.cells #[.int .i64 s1, .int .i64 s2, .int .i64 t1, .int .i64 t2, .int .i64 st] 39)).cell? ⟨v1.heap.size, 2, none⟩ = some (.int .i64 x') := LA3.out.at 2
    have fa3 : (v3.alloc (.cells #[.int .i64 s1, .int .i64 s2, .int .i64 t1, .int .i64 t2, .int .i64 st] 39)).cell? ⟨v1.heap.size, 3, none⟩ = some (.int .i64 y') := LA3.out.at 3
    have fa4 : (v3.alloc (.cells #[.int .i64 s1, .int .i64 s2, .int .i64 t1, .int .i64 t2, .int .i64 st] 39)).cell? ⟨v1.heap.size, 4, none⟩ = some (.int .i64 n) := LA3.out.at 4
    have fb0 : (v3.alloc (.cells #[.int .i64 s1, .int .i64 s2, .int .i64 t1, .int .i64 t2, .int .i64 st] 39)).cell? ⟨v1.heap.size + 1, 0, none⟩ = some (.int .i64 u) := LB3.out.at 0
    have fb1 : (v3.alloc (.cells #[.int .i64 s1, .int .i64 s2, .int .i64 t1, .int .i64 t2, .int .i64 st] 39)).cell? ⟨v1.heap.size + 1, 1, none⟩ = some (.int .i64 v) := LB3.out.at 1
    have fb2 : (v3.alloc (.cells #[.int .i64 s1, .int .i64 s2, .int .i64 t1, .int .i64 t2, .int .i64 st] 39)).cell? ⟨v1.heap.size + 1, 2, none⟩ = some (.int .i64 u') := LB3.out.at 2
    have fb3 : (v3.alloc (.cells #[.int .i64 s1, .int .i64 s2, .int .i64 t1, .int .i64 t2, .int .i64 st] 39)).cell? ⟨v1.heap.size + 1, 3, none⟩ = some (.int .i64 v') := LB3.out.at 3
    have fb4 : (v3.alloc (.cells #[.int .i64 s1, .int .i64 s2, .int .i64 t1, .int .i64 t2, .int .i64 st] 39)).cell? ⟨v1.heap.size + 1, 4, none⟩ = some (.int .i64 m) := LB3.out.at 4
    have fc0 : (v3.alloc (.cells #[.int .i64 s1, .int .i64 s2, .int .i64 t1, .int .i64 t2, .int .i64 st] 39)).cell? ⟨v2.heap.size, 0, none⟩ = some (.int .i64 s1) := LC3.out.at 0
    have fc1 : (v3.alloc (.cells #[.int .i64 s1, .int .i64 s2, .int .i64 t1, .int .i64 t2, .int .i64 st] 39)).cell? ⟨v2.heap.size, 1, none⟩ = some (.int .i64 s2) := LC3.out.at 1
    have fc2 : (v3.alloc (.cells #[.int .i64 s1, .int .i64 s2, .int .i64 t1, .int .i64 t2, .int .i64 st] 39)).cell? ⟨v2.heap.size, 2, none⟩ = some (.int .i64 t1) := LC3.out.at 2
    have fc3 : (v3.alloc (.cells #[.int .i64 s1, .int .i64 s2, .int .i64 t1, .int .i64 t2, .int .i64 st] 39)).cell? ⟨v2.heap.size, 3, none⟩ = some (.int .i64 t2) := LC3.out.at 3
    have fc4 : (v3.alloc (.cells #[.int .i64 s1, .int .i64 s2, .int .i64 t1, .int .i64 t2, .int .i64 st] 39)).cell? ⟨v2.heap.size, 4, none⟩ = some (.int .i64 st) := LC3.out.at 4
    have fd0 : (v3.alloc (.cells #[.int .i64 s1, .int .i64 s2, .int .i64 t1, .int .i64 t2, .int .i64 st] 39)).cell? ⟨v3.heap.size, 0, none⟩ = some (.int .i64 s1) := LD3.out.at 0
    have fd1 : (v3.alloc (.cells #[.int .i64 s1, .int .i64 s2, .int .i64 t1, .int .i64 t2, .int .i64 st] 39)).cell? ⟨v3.heap.size, 1, none⟩ = some (.int .i64 s2) := LD3.out.at 1
    have fd2 : (v3.alloc (.cells #[.int .i64 s1, .int .i64 s2, .int .i64 t1, .int .i64 t2, .int .i64 st] 39)).cell? ⟨v3.heap.size, 2, none⟩ = some (.int .i64 t1) := LD3.out.at 2
    have fd3 : (v3.alloc (.cells #[.int .i64 s1, .int .i64 s2, .int .i64 t1, .int .i64 t2, .int .i64 st] 39)).cell? ⟨v3.heap.size, 3, none⟩ = some (.int .i64 t2) := LD3.out.at 3
    have fd4 : (v3.alloc (.cells #[.int .i64 s1, .int .i64 s2, .int .i64 t1, .int .i64 t2, .int .i64 st] 39)).cell? ⟨v3.heap.size, 4, none⟩ = some (.int .i64 st) := LD3.out.at 4
    have n1 : (o != o) = false := by simp
    have k0 : (s1 == s1) = true := by simp
    have k1 : (s2 == s2) = true := by simp
    have k2 : (t1 == t1) = true := by simp
    have k3 : (t2 == t2) = true := by simp
    have k4 : (st == st) = true := by simp
    have HRD : Hid (Row .u8 (v3.alloc (.cells #[.int .i64 s1, .int .i64 s2, .int .i64 t1, .int .i64 t2, .int .i64 st] 39)) a0 len0 cap0 z0) := HR.out.below2 HB3.out
    cases o with
    | false =>
      clear HQ
      go_wp2_with fail
      refine (drawCutOf_any _ HRD.out).mono ?_
      rintro e v4 ⟨mm, ss, rows, many, rfl, hb4⟩
      have HB4 : Hid (Below w.heap.size w v4) := HB3.out.trans (hb4.mono HB3.out.size)
      clear hb4 fa0 fa1 fa2 fa3 fa4 fb0 fb1 fb2 fb3 fb4 fc0 fc1 fc2 fc3 fc4 fd0 fd1 fd2 fd3 fd4 HRD LA3 LB3 LC3 LD3 HB3
      have CC := implCutOf_any mm ss rows many
      have HP : Hid (M.cutOk mm ss rows many = true → 2 ≤ (M.cutv mm ss rows many).length → M.joinOk ((M.cutv mm ss rows many).getD 0 M.c0) ((M.cutv mm ss rows many).getD 1 M.c0) = true ∧ M.holds mm (M.joinv ((M.cutv mm ss rows many).getD 0 M.c0) ((M.cutv mm ss rows many).getD 1 M.c0)) = true ∧ M.holds mm ((M.cutv mm ss rows many).getD 0 M.c0) = true) := fun h h2 => M.cut_two h h2
      generalize M.cutv mm ss rows many = cs at CC HP
      generalize M.cutOk mm ss rows many = co at CC HP
      have CJ := implJoined_any (cs.getD 0 M.c0) (cs.getD 1 M.c0)
      have CH1 := implHolds_any mm (M.joinv (cs.getD 0 M.c0) (cs.getD 1 M.c0))
      have CH2 := implHolds_any mm (cs.getD 0 M.c0)
      generalize M.holds mm (M.joinv (cs.getD 0 M.c0) (cs.getD 1 M.c0)) = ho1 at CH1 HP
      generalize M.holds mm (cs.getD 0 M.c0) = ho2 at CH2 HP
      generalize M.joinOk (cs.getD 0 M.c0) (cs.getD 1 M.c0) = jo at CJ HP
      generalize M.joinv (cs.getD 0 M.c0) (cs.getD 1 M.c0) = jv at CJ CH1
      obtain ⟨⟨a1, b1, c1, d1, f1, k1⟩, ⟨a2, b2, c2, d2, f2, k2⟩⟩ := mm
      obtain ⟨e1, e2⟩ := ss
      obtain ⟨⟨j1, j2⟩, ⟨j3, j4⟩, j5⟩ := jv
      dsimp only [mcv, stv, clv] at CC CJ CH1 CH2 ⊢
      have LM : Hid (Lies ((v4.alloc (.cells #[.int .i64 a1, .int .i64 b1, .int .i64 c1, .int .i64 d1, .int .i64 f1, .int .i64 k1, .int .i64 a2, .int .i64 b2, .int .i64 c2, .int .i64 d2, .int .i64 f2, .int .i64 k2] 27)).alloc (.cells #[.int .i64 e1, .int .i64 e2] 35)) v4.heap.size [.int .i64 a1, .int .i64 b1, .int .i64 c1, .int .i64 d1, .int .i64 f1, .int .i64 k1, .int .i64 a2, .int .i64 b2, .int .i64 c2, .int .i64 d2, .int .i64 f2, .int .i64 k2]) := (lies_new _ _ _).alloc _
      have HBM : Hid (Below w.heap.size w ((v4.alloc (.cells #[.int .i64 a1, .int .i64 b1, .int .i64 c1, .int .i64 d1, .int .i64 f1, .int .i64 k1, .int .i64 a2, .int .i64 b2, .int .i64 c2, .int .i64 d2, .int .i64 f2, .int .i64 k2] 27)).alloc (.cells #[.int .i64 e1, .int .i64 e2] 35))) := (HB4.out.alloc HB4.out.size _).alloc (by have := HB4.out.size; simp; omega) _
      clear HB4
      go_wp2_with fail
      refine (CC _).mono ?_
      rintro e v5 ⟨la, ll, lc, rfl, hll, hoc, hb5⟩
      have HB5 : Hid (Below w.heap.size w v5) := HBM.out.trans (hb5.mono HBM.out.size)
      have LM5 : Hid (Lies v5 v4.heap.size [.int .i64 a1, .int .i64 b1, .int .i64 c1, .int .i64 d1, .int .i64 f1, .int .i64 k1, .int .i64 a2, .int .i64 b2, .int .i64 c2, .int .i64 d2, .int .i64 f2, .int .i64 k2]) := LM.out.belowS hb5
      have hl8 : (ll : Int) ≤ 8 := by omega
      clear hb5 CC LM HBM
      cases co with
      | false =>
        go_wp2
        go_ret
        exact ⟨rfl, HB5.out⟩
      | true =>
        by_cases hl2 : (ll : Int) < 2
        · clear hoc
          go_wp2
          go_ret
          exact ⟨rfl, HB5.out⟩
        · obtain ⟨rfl, rfl, rfl⟩ := HP.out (by simp) (by rw [hoc.1]; omega)
          obtain ⟨g, rfl, -, hcap, hbg, hc⟩ := hoc.block (by omega)
          have hcI : (ll : Int) ≤ lc := by omega
          have hc0I : (0 : Int) < (ll : Int) := by omega
          have hc1I : (1 : Int) < (ll : Int) := by omega
          have hc0N : 0 < ll := by omega
          clear hoc HP
          have hx0 := hc 0 (by omega)
          have hx1 := hc 1 (by omega)
          clear hc
          generalize cs.getD 0 M.c0 = ee at hx0 CJ CH2
          generalize cs.getD 1 M.c0 = ff at hx1 CJ
          obtain ⟨⟨g1, g2⟩, ⟨g3, g4⟩, g5⟩ := ee
          obtain ⟨⟨h1, h2⟩, ⟨h3, h4⟩, h5⟩ := ff
          dsimp only at CJ CH2
          have ge0 : v5.cell? ⟨g, 0, none⟩ = some (.int .i64 g1) := by simpa [cvs] using hx0 0 (by omega)
          have ge1 : v5.cell? ⟨g, 1, none⟩ = some (.int .i64 g2) := by simpa [cvs] using hx0 1 (by omega)
          have ge2 : v5.cell? ⟨g, 2, none⟩ = some (.int .i64 g3) := by simpa [cvs] using hx0 2 (by omega)
          have ge3 : v5.cell? ⟨g, 3, none⟩ = some (.int .i64 g4) := by simpa [cvs] using hx0 3 (by omega)
          have ge4 : v5.cell? ⟨g, 4, none⟩ = some (.int .i64 g5) := by simpa [cvs] using hx0 4 (by omega)
          have gf0 : v5.cell? ⟨g, 5, none⟩ = some (.int .i64 h1) := by simpa [cvs] using hx1 0 (by omega)
          have gf1 : v5.cell? ⟨g, 6, none⟩ = some (.int .i64 h2) := by simpa [cvs] using hx1 1 (by omega)
          have gf2 : v5.cell? ⟨g, 7, none⟩ = some (.int .i64 h3) := by simpa [cvs] using hx1 2 (by omega)
          have gf3 : v5.cell? ⟨g, 8, none⟩ = some (.int .i64 h4) := by simpa [cvs] using hx1 3 (by omega)
          have gf4 : v5.cell? ⟨g, 9, none⟩ = some (.int .i64 h5) := by simpa [cvs] using hx1 4 (by omega)
          have hlt : g < v5.heap.size := World.block_lt_of_cell? _ ⟨g, 0, none⟩ ge0
          have HK5 : Hid (∀ W, Below v5.heap.size v5 W → W.cell? ⟨g, 0, none⟩ = some (.int .i64 g1) ∧ W.cell? ⟨g, 1, none⟩ = some (.int .i64 g2) ∧ W.cell? ⟨g, 2, none⟩ = some (.int .i64 g3) ∧ W.cell? ⟨g, 3, none⟩ = some (.int .i64 g4) ∧ W.cell? ⟨g, 4, none⟩ = some (.int .i64 g5) ∧ W.cell? ⟨g, 5, none⟩ = some (.int .i64 h1) ∧ W.cell? ⟨g, 6, none⟩ = some (.int .i64 h2) ∧ W.cell? ⟨g, 7, none⟩ = some (.int .i64 h3) ∧ W.cell? ⟨g, 8, none⟩ = some (.int .i64 h4) ∧ W.cell? ⟨g, 9, none⟩ = some (.int .i64 h5)) := fun W hW => by
            exact ⟨(hW.cell (p := ⟨g, 0, none⟩) hlt).trans ge0, (hW.cell (p := ⟨g, 1, none⟩) hlt).trans ge1, (hW.cell (p := ⟨g, 2, none⟩) hlt).trans ge2, (hW.cell (p := ⟨g, 3, none⟩) hlt).trans ge3, (hW.cell (p := ⟨g, 4, none⟩) hlt).trans ge4, (hW.cell (p := ⟨g, 5, none⟩) hlt).trans gf0, (hW.cell (p := ⟨g, 6, none⟩) hlt).trans gf1, (hW.cell (p := ⟨g, 7, none⟩) hlt).trans gf2, (hW.cell (p := ⟨g, 8, none⟩) hlt).trans gf3, (hW.cell (p := ⟨g, 9, none⟩) hlt).trans gf4⟩
          have HLT : Hid (g < v5.heap.size) := hlt
          have AJ : ∀ wc, Below v5.heap.size v5 wc → Calls Try.prog 14 #[.agg #[.int .i64 g1, .int .i64 g2, .int .i64 g3, .int .i64 g4, .int .i64 g5], .agg #[.int .i64 h1, .int .i64 h2, .int .i64 h3, .int .i64 h4, .int .i64 h5]] wc fun e w' => e = .returned (.tuple #[.agg #[.int .i64 j1, .int .i64 j2, .int .i64 j3, .int .i64 j4, .int .i64 j5], .bool true]) ∧ Below v5.heap.size v5 w' ∧ Below wc.heap.size wc w' := fun wc h => (CJ wc).mono fun _ _ hh => ⟨hh.1, h.trans (hh.2.mono h.size), hh.2⟩
          have HBL : Hid (∀ W, Below v5.heap.size v5 W → Below v5.heap.size v5 (W.alloc (.cells #[.int .i64 0, .int .i64 0, .int .i64 0, .int .i64 0, .int .i64 0] 39))) := fun W h => h.alloc h.size _
          have hb5 : Below v5.heap.size v5 v5.drew := (Below.refl _ _).drew
          have hb5a : Below v5.heap.size v5 (v5.alloc (.cells #[.int .i64 0, .int .i64 0, .int .i64 0, .int .i64 0, .int .i64 0] 39)).drew := (HBL.out _ (Below.refl _ _)).drew
          clear hx0 hx1 CJ hlt ge0 ge1 ge2 ge3 ge4 gf0 gf1 gf2 gf3 gf4
          go_wp2
          go_region_held3 (fun W => W.cell? ⟨g, 0, none⟩ = some (.int .i64 g1) ∧ W.cell? ⟨g, 1, none⟩ = some (.int .i64 g2) ∧ W.cell? ⟨g, 2, none⟩ = some (.int .i64 g3) ∧ W.cell? ⟨g, 3, none⟩ = some (.int .i64 g4) ∧ W.cell? ⟨g, 4, none⟩ = some (.int .i64 g5) ∧ W.cell? ⟨g, 5, none⟩ = some (.int .i64 h1) ∧ W.cell? ⟨g, 6, none⟩ = some (.int .i64 h2) ∧ W.cell? ⟨g, 7, none⟩ = some (.int .i64 h3) ∧ W.cell? ⟨g, 8, none⟩ = some (.int .i64 h4) ∧ W.cell? ⟨g, 9, none⟩ = some (.int .i64 h5)) (first | with_reducible exact HK5.out _ hbb | with_reducible exact HK5.out _ hb5 | with_reducible exact HK5.out _ (HBL.out _ hbb) | with_reducible exact HK5.out _ (HBL.out _ hb5) | with_reducible exact HK5.out _ hb5a | with_reducible exact HK5.out _ (leafS5 hbb (by omega) hq).1 | with_reducible exact HK5.out _ (leafA5 hbb (by omega)).1)
            (first
              | (go_at_call 14; refine (AJ _ (by first | with_reducible exact hb5 | with_reducible exact hb5a | with_reducible exact HBL.out _ hb5)).mono ?_; rintro e v6 ⟨rfl, hbb, hcc⟩; (first | (have hq : Lies v6 v5.heap.size [.int .i64 0, .int .i64 0, .int .i64 0, .int .i64 0, .int .i64 0] := lies_kept hcc; obtain ⟨hq0, hq1, hq2, hq3, hq4, hf0, hf1, hf2, hf3, hf4⟩ := hq.five) | (have hq : Lies v6 v5.heap.size [.int .i64 0, .int .i64 0, .int .i64 0, .int .i64 0, .int .i64 0] := lies_kept ((Below.refl _ _).drew.trans hcc); obtain ⟨hq0, hq1, hq2, hq3, hq4, hf0, hf1, hf2, hf3, hf4⟩ := hq.five) | skip)))
          all_goals
            first
              | (have hR := leafS5 (v0 := .int .i64 j1) (v1 := .int .i64 j2) (v2 := .int .i64 j3) (v3 := .int .i64 j4) (v4 := .int .i64 j5) hbb (by omega) hq; generalize (((((v6.setCell _ _).setCell _ _).setCell _ _).setCell _ _).setCell _ _) = W at hR ⊢; obtain ⟨hBW, hLW, -⟩ := hR; generalize v5.heap.size = PJ at hLW ⊢)
              | (have hR := leafA5 (t := 39) (vs := #[.int .i64 j1, .int .i64 j2, .int .i64 j3, .int .i64 j4, .int .i64 j5]) hbb (by omega); generalize v6.alloc _ = W at hR ⊢; obtain ⟨hBW, hLW, -⟩ := hR; generalize v6.heap.size = PJ at hLW ⊢)
            have HBW : Hid (Below v5.heap.size v5 W) := hBW
            have HK6 : Hid (∀ X, Below W.heap.size W X → X.cell? ⟨v4.heap.size, 0, none⟩ = some (.int .i64 a1) ∧ X.cell? ⟨v4.heap.size, 1, none⟩ = some (.int .i64 b1) ∧ X.cell? ⟨v4.heap.size, 2, none⟩ = some (.int .i64 c1) ∧ X.cell? ⟨v4.heap.size, 3, none⟩ = some (.int .i64 d1) ∧ X.cell? ⟨v4.heap.size, 4, none⟩ = some (.int .i64 f1) ∧ X.cell? ⟨v4.heap.size, 5, none⟩ = some (.int .i64 k1) ∧ X.cell? ⟨v4.heap.size, 6, none⟩ = some (.int .i64 a2) ∧ X.cell? ⟨v4.heap.size, 7, none⟩ = some (.int .i64 b2) ∧ X.cell? ⟨v4.heap.size, 8, none⟩ = some (.int .i64 c2) ∧ X.cell? ⟨v4.heap.size, 9, none⟩ = some (.int .i64 d2) ∧ X.cell? ⟨v4.heap.size, 10, none⟩ = some (.int .i64 f2) ∧ X.cell? ⟨v4.heap.size, 11, none⟩ = some (.int .i64 k2) ∧ X.cell? ⟨PJ, 0, none⟩ = some (.int .i64 j1) ∧ X.cell? ⟨PJ, 1, none⟩ = some (.int .i64 j2) ∧ X.cell? ⟨PJ, 2, none⟩ = some (.int .i64 j3) ∧ X.cell? ⟨PJ, 3, none⟩ = some (.int .i64 j4) ∧ X.cell? ⟨PJ, 4, none⟩ = some (.int .i64 j5) ∧ X.cell? ⟨g, 0, none⟩ = some (.int .i64 g1) ∧ X.cell? ⟨g, 1, none⟩ = some (.int .i64 g2) ∧ X.cell? ⟨g, 2, none⟩ = some (.int .i64 g3) ∧ X.cell? ⟨g, 3, none⟩ = some (.int .i64 g4) ∧ X.cell? ⟨g, 4, none⟩ = some (.int .i64 g5)) := fun X hX => by
              have LM := (LM5.out.belowS hBW).belowS hX
              have LJ := Lies.belowS hLW hX
              obtain ⟨x0, x1, x2, x3, x4, -⟩ := HK5.out X (hBW.trans (hX.mono hBW.size))
              exact ⟨LM.at 0, LM.at 1, LM.at 2, LM.at 3, LM.at 4, LM.at 5, LM.at 6, LM.at 7, LM.at 8, LM.at 9, LM.at 10, LM.at 11, LJ.at 0, LJ.at 1, LJ.at 2, LJ.at 3, LJ.at 4, x0, x1, x2, x3, x4⟩
            clear hBW hLW hbb hcc
            (try clear hq hq0 hq1 hq2 hq3 hq4 hf0 hf1 hf2 hf3 hf4)
            have A1 : ∀ wc, Below W.heap.size W wc → Calls Try.prog 18 #[.agg #[.int .i64 a1, .int .i64 b1, .int .i64 c1, .int .i64 d1, .int .i64 f1, .int .i64 k1, .int .i64 a2, .int .i64 b2, .int .i64 c2, .int .i64 d2, .int .i64 f2, .int .i64 k2], .agg #[.int .i64 j1, .int .i64 j2, .int .i64 j3, .int .i64 j4, .int .i64 j5]] wc fun e w' => e = .returned (.bool true) ∧ Below W.heap.size W w' := fun wc h => (CH1 wc).mono fun _ _ hh => ⟨hh.1, h.trans (hh.2.mono h.size)⟩
            have A2 : ∀ wc, Below W.heap.size W wc → Calls Try.prog 18 #[.agg #[.int .i64 a1, .int .i64 b1, .int .i64 c1, .int .i64 d1, .int .i64 f1, .int .i64 k1, .int .i64 a2, .int .i64 b2, .int .i64 c2, .int .i64 d2, .int .i64 f2, .int .i64 k2], .agg #[.int .i64 g1, .int .i64 g2, .int .i64 g3, .int .i64 g4, .int .i64 g5]] wc fun e w' => e = .returned (.bool true) ∧ Below W.heap.size W w' := fun wc h => (CH2 wc).mono fun _ _ hh => ⟨hh.1, h.trans (hh.2.mono h.size)⟩
            have hb6 : Below W.heap.size W W.drew := (Below.refl _ _).drew
            clear AJ hb5 hb5a HBL
            go_wp2
            go_region_held3 (fun X => X.cell? ⟨v4.heap.size, 0, none⟩ = some (.int .i64 a1) ∧ X.cell? ⟨v4.heap.size, 1, none⟩ = some (.int .i64 b1) ∧ X.cell? ⟨v4.heap.size, 2, none⟩ = some (.int .i64 c1) ∧ X.cell? ⟨v4.heap.size, 3, none⟩ = some (.int .i64 d1) ∧ X.cell? ⟨v4.heap.size, 4, none⟩ = some (.int .i64 f1) ∧ X.cell? ⟨v4.heap.size, 5, none⟩ = some (.int .i64 k1) ∧ X.cell? ⟨v4.heap.size, 6, none⟩ = some (.int .i64 a2) ∧ X.cell? ⟨v4.heap.size, 7, none⟩ = some (.int .i64 b2) ∧ X.cell? ⟨v4.heap.size, 8, none⟩ = some (.int .i64 c2) ∧ X.cell? ⟨v4.heap.size, 9, none⟩ = some (.int .i64 d2) ∧ X.cell? ⟨v4.heap.size, 10, none⟩ = some (.int .i64 f2) ∧ X.cell? ⟨v4.heap.size, 11, none⟩ = some (.int .i64 k2) ∧ X.cell? ⟨PJ, 0, none⟩ = some (.int .i64 j1) ∧ X.cell? ⟨PJ, 1, none⟩ = some (.int .i64 j2) ∧ X.cell? ⟨PJ, 2, none⟩ = some (.int .i64 j3) ∧ X.cell? ⟨PJ, 3, none⟩ = some (.int .i64 j4) ∧ X.cell? ⟨PJ, 4, none⟩ = some (.int .i64 j5) ∧ X.cell? ⟨g, 0, none⟩ = some (.int .i64 g1) ∧ X.cell? ⟨g, 1, none⟩ = some (.int .i64 g2) ∧ X.cell? ⟨g, 2, none⟩ = some (.int .i64 g3) ∧ X.cell? ⟨g, 3, none⟩ = some (.int .i64 g4) ∧ X.cell? ⟨g, 4, none⟩ = some (.int .i64 g5)) (first | with_reducible exact HK6.out _ hbb | with_reducible exact HK6.out _ hb6)
              (first
                | (go_at_call_of 18 (Value.agg #[.int .i64 j1, .int .i64 j2, .int .i64 j3, .int .i64 j4, .int .i64 j5]); refine (A1 _ (by first | with_reducible exact hb6 | with_reducible exact hbb)).mono ?_; rintro e v7 ⟨rfl, hbb⟩)
                | (go_at_call_of 18 (Value.agg #[.int .i64 g1, .int .i64 g2, .int .i64 g3, .int .i64 g4, .int .i64 g5]); refine (A2 _ (by first | with_reducible exact hbb | with_reducible exact hb6)).mono ?_; rintro e v8 ⟨rfl, hbb⟩))
            all_goals
              have HBE : Hid (Below W.heap.size W _) := hbb
              clear hbb
              go_wp2
              go_ret
              exact ⟨rfl, HB5.out.trans ((HBW.out.trans (HBE.out.mono HBW.out.size)).mono HB5.out.size)⟩
    | true =>
      obtain ⟨hq, ⟨hn1, hn2⟩, hm1, hm2⟩ := HQ.out (by simp)
      simp only [M.Cl.mk.injEq, Prod.mk.injEq] at hq
      obtain ⟨⟨rfl, rfl⟩, ⟨rfl, rfl⟩, rfl⟩ := hq
      have k5 : (n + m != n + m) = false := by simp
      clear HQ
      go_wp2_with fail
      refine (drawCutOf_any _ HRD.out).mono ?_
      rintro e v4 ⟨mm, ss, rows, many, rfl, hb4⟩
      have HB4 : Hid (Below w.heap.size w v4) := HB3.out.trans (hb4.mono HB3.out.size)
      clear hb4 fa0 fa1 fa2 fa3 fa4 fb0 fb1 fb2 fb3 fb4 fc0 fc1 fc2 fc3 fc4 fd0 fd1 fd2 fd3 fd4 HRD LA3 LB3 LC3 LD3 HB3
      have CC := implCutOf_any mm ss rows many
      have HP : Hid (M.cutOk mm ss rows many = true → 2 ≤ (M.cutv mm ss rows many).length → M.joinOk ((M.cutv mm ss rows many).getD 0 M.c0) ((M.cutv mm ss rows many).getD 1 M.c0) = true ∧ M.holds mm (M.joinv ((M.cutv mm ss rows many).getD 0 M.c0) ((M.cutv mm ss rows many).getD 1 M.c0)) = true ∧ M.holds mm ((M.cutv mm ss rows many).getD 0 M.c0) = true) := fun h h2 => M.cut_two h h2
      generalize M.cutv mm ss rows many = cs at CC HP
      generalize M.cutOk mm ss rows many = co at CC HP
      have CJ := implJoined_any (cs.getD 0 M.c0) (cs.getD 1 M.c0)
      have CH1 := implHolds_any mm (M.joinv (cs.getD 0 M.c0) (cs.getD 1 M.c0))
      have CH2 := implHolds_any mm (cs.getD 0 M.c0)
      generalize M.holds mm (M.joinv (cs.getD 0 M.c0) (cs.getD 1 M.c0)) = ho1 at CH1 HP
      generalize M.holds mm (cs.getD 0 M.c0) = ho2 at CH2 HP
      generalize M.joinOk (cs.getD 0 M.c0) (cs.getD 1 M.c0) = jo at CJ HP
      generalize M.joinv (cs.getD 0 M.c0) (cs.getD 1 M.c0) = jv at CJ CH1
      obtain ⟨⟨a1, b1, c1, d1, f1, k1⟩, ⟨a2, b2, c2, d2, f2, k2⟩⟩ := mm
      obtain ⟨e1, e2⟩ := ss
      obtain ⟨⟨j1, j2⟩, ⟨j3, j4⟩, j5⟩ := jv
      dsimp only [mcv, stv, clv] at CC CJ CH1 CH2 ⊢
      have LM : Hid (Lies ((v4.alloc (.cells #[.int .i64 a1, .int .i64 b1, .int .i64 c1, .int .i64 d1, .int .i64 f1, .int .i64 k1, .int .i64 a2, .int .i64 b2, .int .i64 c2, .int .i64 d2, .int .i64 f2, .int .i64 k2] 27)).alloc (.cells #[.int .i64 e1, .int .i64 e2] 35)) v4.heap.size [.int .i64 a1, .int .i64 b1, .int .i64 c1, .int .i64 d1, .int .i64 f1, .int .i64 k1, .int .i64 a2, .int .i64 b2, .int .i64 c2, .int .i64 d2, .int .i64 f2, .int .i64 k2]) := (lies_new _ _ _).alloc _
      have HBM : Hid (Below w.heap.size w ((v4.alloc (.cells #[.int .i64 a1, .int .i64 b1, .int .i64 c1, .int .i64 d1, .int .i64 f1, .int .i64 k1, .int .i64 a2, .int .i64 b2, .int .i64 c2, .int .i64 d2, .int .i64 f2, .int .i64 k2] 27)).alloc (.cells #[.int .i64 e1, .int .i64 e2] 35))) := (HB4.out.alloc HB4.out.size _).alloc (by have := HB4.out.size; simp; omega) _
      clear HB4
      go_wp2_with fail
      refine (CC _).mono ?_
      rintro e v5 ⟨la, ll, lc, rfl, hll, hoc, hb5⟩
      have HB5 : Hid (Below w.heap.size w v5) := HBM.out.trans (hb5.mono HBM.out.size)
      have LM5 : Hid (Lies v5 v4.heap.size [.int .i64 a1, .int .i64 b1, .int .i64 c1, .int .i64 d1, .int .i64 f1, .int .i64 k1, .int .i64 a2, .int .i64 b2, .int .i64 c2, .int .i64 d2, .int .i64 f2, .int .i64 k2]) := LM.out.belowS hb5
      have hl8 : (ll : Int) ≤ 8 := by omega
      clear hb5 CC LM HBM
      cases co with
      | false =>
        go_wp2
        go_ret
        exact ⟨rfl, HB5.out⟩
      | true =>
        by_cases hl2 : (ll : Int) < 2
        · clear hoc
          go_wp2
          go_ret
          exact ⟨rfl, HB5.out⟩
        · obtain ⟨rfl, rfl, rfl⟩ := HP.out (by simp) (by rw [hoc.1]; omega)
          obtain ⟨g, rfl, -, hcap, hbg, hc⟩ := hoc.block (by omega)
          have hcI : (ll : Int) ≤ lc := by omega
          have hc0I : (0 : Int) < (ll : Int) := by omega
          have hc1I : (1 : Int) < (ll : Int) := by omega
          have hc0N : 0 < ll := by omega
          clear hoc HP
          have hx0 := hc 0 (by omega)
          have hx1 := hc 1 (by omega)
          clear hc
          generalize cs.getD 0 M.c0 = ee at hx0 CJ CH2
          generalize cs.getD 1 M.c0 = ff at hx1 CJ
          obtain ⟨⟨g1, g2⟩, ⟨g3, g4⟩, g5⟩ := ee
          obtain ⟨⟨h1, h2⟩, ⟨h3, h4⟩, h5⟩ := ff
          dsimp only at CJ CH2
          have ge0 : v5.cell? ⟨g, 0, none⟩ = some (.int .i64 g1) := by simpa [cvs] using hx0 0 (by omega)
          have ge1 : v5.cell? ⟨g, 1, none⟩ = some (.int .i64 g2) := by simpa [cvs] using hx0 1 (by omega)
          have ge2 : v5.cell? ⟨g, 2, none⟩ = some (.int .i64 g3) := by simpa [cvs] using hx0 2 (by omega)
          have ge3 : v5.cell? ⟨g, 3, none⟩ = some (.int .i64 g4) := by simpa [cvs] using hx0 3 (by omega)
          have ge4 : v5.cell? ⟨g, 4, none⟩ = some (.int .i64 g5) := by simpa [cvs] using hx0 4 (by omega)
          have gf0 : v5.cell? ⟨g, 5, none⟩ = some (.int .i64 h1) := by simpa [cvs] using hx1 0 (by omega)
          have gf1 : v5.cell? ⟨g, 6, none⟩ = some (.int .i64 h2) := by simpa [cvs] using hx1 1 (by omega)
          have gf2 : v5.cell? ⟨g, 7, none⟩ = some (.int .i64 h3) := by simpa [cvs] using hx1 2 (by omega)
          have gf3 : v5.cell? ⟨g, 8, none⟩ = some (.int .i64 h4) := by simpa [cvs] using hx1 3 (by omega)
          have gf4 : v5.cell? ⟨g, 9, none⟩ = some (.int .i64 h5) := by simpa [cvs] using hx1 4 (by omega)
          have hlt : g < v5.heap.size := World.block_lt_of_cell? _ ⟨g, 0, none⟩ ge0
          have HK5 : Hid (∀ W, Below v5.heap.size v5 W → W.cell? ⟨g, 0, none⟩ = some (.int .i64 g1) ∧ W.cell? ⟨g, 1, none⟩ = some (.int .i64 g2) ∧ W.cell? ⟨g, 2, none⟩ = some (.int .i64 g3) ∧ W.cell? ⟨g, 3, none⟩ = some (.int .i64 g4) ∧ W.cell? ⟨g, 4, none⟩ = some (.int .i64 g5) ∧ W.cell? ⟨g, 5, none⟩ = some (.int .i64 h1) ∧ W.cell? ⟨g, 6, none⟩ = some (.int .i64 h2) ∧ W.cell? ⟨g, 7, none⟩ = some (.int .i64 h3) ∧ W.cell? ⟨g, 8, none⟩ = some (.int .i64 h4) ∧ W.cell? ⟨g, 9, none⟩ = some (.int .i64 h5)) := fun W hW => by
            exact ⟨(hW.cell (p := ⟨g, 0, none⟩) hlt).trans ge0, (hW.cell (p := ⟨g, 1, none⟩) hlt).trans ge1, (hW.cell (p := ⟨g, 2, none⟩) hlt).trans ge2, (hW.cell (p := ⟨g, 3, none⟩) hlt).trans ge3, (hW.cell (p := ⟨g, 4, none⟩) hlt).trans ge4, (hW.cell (p := ⟨g, 5, none⟩) hlt).trans gf0, (hW.cell (p := ⟨g, 6, none⟩) hlt).trans gf1, (hW.cell (p := ⟨g, 7, none⟩) hlt).trans gf2, (hW.cell (p := ⟨g, 8, none⟩) hlt).trans gf3, (hW.cell (p := ⟨g, 9, none⟩) hlt).trans gf4⟩
          have HLT : Hid (g < v5.heap.size) := hlt
          have AJ : ∀ wc, Below v5.heap.size v5 wc → Calls Try.prog 14 #[.agg #[.int .i64 g1, .int .i64 g2, .int .i64 g3, .int .i64 g4, .int .i64 g5], .agg #[.int .i64 h1, .int .i64 h2, .int .i64 h3, .int .i64 h4, .int .i64 h5]] wc fun e w' => e = .returned (.tuple #[.agg #[.int .i64 j1, .int .i64 j2, .int .i64 j3, .int .i64 j4, .int .i64 j5], .bool true]) ∧ Below v5.heap.size v5 w' ∧ Below wc.heap.size wc w' := fun wc h => (CJ wc).mono fun _ _ hh => ⟨hh.1, h.trans (hh.2.mono h.size), hh.2⟩
          have HBL : Hid (∀ W, Below v5.heap.size v5 W → Below v5.heap.size v5 (W.alloc (.cells #[.int .i64 0, .int .i64 0, .int .i64 0, .int .i64 0, .int .i64 0] 39))) := fun W h => h.alloc h.size _
          have hb5 : Below v5.heap.size v5 v5.drew := (Below.refl _ _).drew
          have hb5a : Below v5.heap.size v5 (v5.alloc (.cells #[.int .i64 0, .int .i64 0, .int .i64 0, .int .i64 0, .int .i64 0] 39)).drew := (HBL.out _ (Below.refl _ _)).drew
          clear hx0 hx1 CJ hlt ge0 ge1 ge2 ge3 ge4 gf0 gf1 gf2 gf3 gf4
          go_wp2
          go_region_held3 (fun W => W.cell? ⟨g, 0, none⟩ = some (.int .i64 g1) ∧ W.cell? ⟨g, 1, none⟩ = some (.int .i64 g2) ∧ W.cell? ⟨g, 2, none⟩ = some (.int .i64 g3) ∧ W.cell? ⟨g, 3, none⟩ = some (.int .i64 g4) ∧ W.cell? ⟨g, 4, none⟩ = some (.int .i64 g5) ∧ W.cell? ⟨g, 5, none⟩ = some (.int .i64 h1) ∧ W.cell? ⟨g, 6, none⟩ = some (.int .i64 h2) ∧ W.cell? ⟨g, 7, none⟩ = some (.int .i64 h3) ∧ W.cell? ⟨g, 8, none⟩ = some (.int .i64 h4) ∧ W.cell? ⟨g, 9, none⟩ = some (.int .i64 h5)) (first | with_reducible exact HK5.out _ hbb | with_reducible exact HK5.out _ hb5 | with_reducible exact HK5.out _ (HBL.out _ hbb) | with_reducible exact HK5.out _ (HBL.out _ hb5) | with_reducible exact HK5.out _ hb5a | with_reducible exact HK5.out _ (leafS5 hbb (by omega) hq).1 | with_reducible exact HK5.out _ (leafA5 hbb (by omega)).1)
            (first
              | (go_at_call 14; refine (AJ _ (by first | with_reducible exact hb5 | with_reducible exact hb5a | with_reducible exact HBL.out _ hb5)).mono ?_; rintro e v6 ⟨rfl, hbb, hcc⟩; (first | (have hq : Lies v6 v5.heap.size [.int .i64 0, .int .i64 0, .int .i64 0, .int .i64 0, .int .i64 0] := lies_kept hcc; obtain ⟨hq0, hq1, hq2, hq3, hq4, hf0, hf1, hf2, hf3, hf4⟩ := hq.five) | (have hq : Lies v6 v5.heap.size [.int .i64 0, .int .i64 0, .int .i64 0, .int .i64 0, .int .i64 0] := lies_kept ((Below.refl _ _).drew.trans hcc); obtain ⟨hq0, hq1, hq2, hq3, hq4, hf0, hf1, hf2, hf3, hf4⟩ := hq.five) | skip)))
          all_goals
            first
              | (have hR := leafS5 (v0 := .int .i64 j1) (v1 := .int .i64 j2) (v2 := .int .i64 j3) (v3 := .int .i64 j4) (v4 := .int .i64 j5) hbb (by omega) hq; generalize (((((v6.setCell _ _).setCell _ _).setCell _ _).setCell _ _).setCell _ _) = W at hR ⊢; obtain ⟨hBW, hLW, -⟩ := hR; generalize v5.heap.size = PJ at hLW ⊢)
              | (have hR := leafA5 (t := 39) (vs := #[.int .i64 j1, .int .i64 j2, .int .i64 j3, .int .i64 j4, .int .i64 j5]) hbb (by omega); generalize v6.alloc _ = W at hR ⊢; obtain ⟨hBW, hLW, -⟩ := hR; generalize v6.heap.size = PJ at hLW ⊢)
            have HBW : Hid (Below v5.heap.size v5 W) := hBW
            have HK6 : Hid (∀ X, Below W.heap.size W X → X.cell? ⟨v4.heap.size, 0, none⟩ = some (.int .i64 a1) ∧ X.cell? ⟨v4.heap.size, 1, none⟩ = some (.int .i64 b1) ∧ X.cell? ⟨v4.heap.size, 2, none⟩ = some (.int .i64 c1) ∧ X.cell? ⟨v4.heap.size, 3, none⟩ = some (.int .i64 d1) ∧ X.cell? ⟨v4.heap.size, 4, none⟩ = some (.int .i64 f1) ∧ X.cell? ⟨v4.heap.size, 5, none⟩ = some (.int .i64 k1) ∧ X.cell? ⟨v4.heap.size, 6, none⟩ = some (.int .i64 a2) ∧ X.cell? ⟨v4.heap.size, 7, none⟩ = some (.int .i64 b2) ∧ X.cell? ⟨v4.heap.size, 8, none⟩ = some (.int .i64 c2) ∧ X.cell? ⟨v4.heap.size, 9, none⟩ = some (.int .i64 d2) ∧ X.cell? ⟨v4.heap.size, 10, none⟩ = some (.int .i64 f2) ∧ X.cell? ⟨v4.heap.size, 11, none⟩ = some (.int .i64 k2) ∧ X.cell? ⟨PJ, 0, none⟩ = some (.int .i64 j1) ∧ X.cell? ⟨PJ, 1, none⟩ = some (.int .i64 j2) ∧ X.cell? ⟨PJ, 2, none⟩ = some (.int .i64 j3) ∧ X.cell? ⟨PJ, 3, none⟩ = some (.int .i64 j4) ∧ X.cell? ⟨PJ, 4, none⟩ = some (.int .i64 j5) ∧ X.cell? ⟨g, 0, none⟩ = some (.int .i64 g1) ∧ X.cell? ⟨g, 1, none⟩ = some (.int .i64 g2) ∧ X.cell? ⟨g, 2, none⟩ = some (.int .i64 g3) ∧ X.cell? ⟨g, 3, none⟩ = some (.int .i64 g4) ∧ X.cell? ⟨g, 4, none⟩ = some (.int .i64 g5)) := fun X hX => by
              have LM := (LM5.out.belowS hBW).belowS hX
              have LJ := Lies.belowS hLW hX
              obtain ⟨x0, x1, x2, x3, x4, -⟩ := HK5.out X (hBW.trans (hX.mono hBW.size))
              exact ⟨LM.at 0, LM.at 1, LM.at 2, LM.at 3, LM.at 4, LM.at 5, LM.at 6, LM.at 7, LM.at 8, LM.at 9, LM.at 10, LM.at 11, LJ.at 0, LJ.at 1, LJ.at 2, LJ.at 3, LJ.at 4, x0, x1, x2, x3, x4⟩
            clear hBW hLW hbb hcc
            (try clear hq hq0 hq1 hq2 hq3 hq4 hf0 hf1 hf2 hf3 hf4)
            have A1 : ∀ wc, Below W.heap.size W wc → Calls Try.prog 18 #[.agg #[.int .i64 a1, .int .i64 b1, .int .i64 c1, .int .i64 d1, .int .i64 f1, .int .i64 k1, .int .i64 a2, .int .i64 b2, .int .i64 c2, .int .i64 d2, .int .i64 f2, .int .i64 k2], .agg #[.int .i64 j1, .int .i64 j2, .int .i64 j3, .int .i64 j4, .int .i64 j5]] wc fun e w' => e = .returned (.bool true) ∧ Below W.heap.size W w' := fun wc h => (CH1 wc).mono fun _ _ hh => ⟨hh.1, h.trans (hh.2.mono h.size)⟩
            have A2 : ∀ wc, Below W.heap.size W wc → Calls Try.prog 18 #[.agg #[.int .i64 a1, .int .i64 b1, .int .i64 c1, .int .i64 d1, .int .i64 f1, .int .i64 k1, .int .i64 a2, .int .i64 b2, .int .i64 c2, .int .i64 d2, .int .i64 f2, .int .i64 k2], .agg #[.int .i64 g1, .int .i64 g2, .int .i64 g3, .int .i64 g4, .int .i64 g5]] wc fun e w' => e = .returned (.bool true) ∧ Below W.heap.size W w' := fun wc h => (CH2 wc).mono fun _ _ hh => ⟨hh.1, h.trans (hh.2.mono h.size)⟩
            have hb6 : Below W.heap.size W W.drew := (Below.refl _ _).drew
            clear AJ hb5 hb5a HBL
            go_wp2
            go_region_held3 (fun X => X.cell? ⟨v4.heap.size, 0, none⟩ = some (.int .i64 a1) ∧ X.cell? ⟨v4.heap.size, 1, none⟩ = some (.int .i64 b1) ∧ X.cell? ⟨v4.heap.size, 2, none⟩ = some (.int .i64 c1) ∧ X.cell? ⟨v4.heap.size, 3, none⟩ = some (.int .i64 d1) ∧ X.cell? ⟨v4.heap.size, 4, none⟩ = some (.int .i64 f1) ∧ X.cell? ⟨v4.heap.size, 5, none⟩ = some (.int .i64 k1) ∧ X.cell? ⟨v4.heap.size, 6, none⟩ = some (.int .i64 a2) ∧ X.cell? ⟨v4.heap.size, 7, none⟩ = some (.int .i64 b2) ∧ X.cell? ⟨v4.heap.size, 8, none⟩ = some (.int .i64 c2) ∧ X.cell? ⟨v4.heap.size, 9, none⟩ = some (.int .i64 d2) ∧ X.cell? ⟨v4.heap.size, 10, none⟩ = some (.int .i64 f2) ∧ X.cell? ⟨v4.heap.size, 11, none⟩ = some (.int .i64 k2) ∧ X.cell? ⟨PJ, 0, none⟩ = some (.int .i64 j1) ∧ X.cell? ⟨PJ, 1, none⟩ = some (.int .i64 j2) ∧ X.cell? ⟨PJ, 2, none⟩ = some (.int .i64 j3) ∧ X.cell? ⟨PJ, 3, none⟩ = some (.int .i64 j4) ∧ X.cell? ⟨PJ, 4, none⟩ = some (.int .i64 j5) ∧ X.cell? ⟨g, 0, none⟩ = some (.int .i64 g1) ∧ X.cell? ⟨g, 1, none⟩ = some (.int .i64 g2) ∧ X.cell? ⟨g, 2, none⟩ = some (.int .i64 g3) ∧ X.cell? ⟨g, 3, none⟩ = some (.int .i64 g4) ∧ X.cell? ⟨g, 4, none⟩ = some (.int .i64 g5)) (first | with_reducible exact HK6.out _ hbb | with_reducible exact HK6.out _ hb6)
              (first
                | (go_at_call_of 18 (Value.agg #[.int .i64 j1, .int .i64 j2, .int .i64 j3, .int .i64 j4, .int .i64 j5]); refine (A1 _ (by first | with_reducible exact hb6 | with_reducible exact hbb)).mono ?_; rintro e v7 ⟨rfl, hbb⟩)
                | (go_at_call_of 18 (Value.agg #[.int .i64 g1, .int .i64 g2, .int .i64 g3, .int .i64 g4, .int .i64 g5]); refine (A2 _ (by first | with_reducible exact hbb | with_reducible exact hb6)).mono ?_; rintro e v8 ⟨rfl, hbb⟩))
            all_goals
              have HBE : Hid (Below W.heap.size W _) := hbb
              clear hbb
              go_wp2
              go_ret
              exact ⟨rfl, HB5.out.trans ((HBW.out.trans (HBE.out.mono HBW.out.size)).mono HB5.out.size)⟩

set_option maxRecDepth 100000 in
theorem lifted (os : Os) (started : os.Started) (H : Type) (enc : TypeId × Value → H) :
    ReturnsInHanded {} Try.checked os 4 .any (Rows.fnJoinedSpec.pre6 enc Try.prog Try.f4 Rows.fnJoinedRow.domain false) (Rows.fnJoinedSpec.post enc Try.prog Try.f4 false true false false) := by
  refine returnsInHanded_of_change (C := Try.checked) own started (by kernel_rfl) Try.func4
    (ChangeSpec.witness6 (enc := enc) (C := Try.checked) false ⟨#[], #[.slice none 0 0], []⟩ 8 (by kernel_rfl) (by kernel_rfl) (by kernel_rfl) (by kernel_rfl)) ?_
  intro W base args ds gs before hval0 hW hcnd _
  have hval : ∀ (j : Nat) t v, Try.f4.params[j]? = some t → args[j]? = some v → Value.okWide Try.prog W .any base t v := hval0
  have hW' := hW
  obtain ⟨p, q, hA0, hV, rfl, hfz, hnd⟩ := hW
  have hA : DataW.TrodAll enc Try.prog W 0 (fun _ => true) true Try.f4.params.toList args.toList ds p := hA0
  rw [Try.params4] at hA hval
  obtain ⟨v0, vs0, d0, ds0, p0, q0, hargs, rfl, rfl, h0, r0⟩ := trodAll_cons hA
  obtain ⟨rfl, rfl, rfl⟩ := trodAll_nil r0
  obtain rfl : args = #[v0] := by cases args; simp_all
  obtain ⟨rfl, rfl⟩ := trodVars_none hV
  obtain ⟨a0, len0, cap0, rfl⟩ := okWide_slice Try.underlying22 (hval 0 22 v0 rfl rfl)
  have k0 := h0
  have lt0 : ∀ x ∈ p0, x.block < W.heap.size := by obtain ⟨m, hm⟩ := k0; exact DataW.trod_lt m _ _ _ hm
  obtain ⟨z0, w0⟩ : ∃ zs, IsRow .u8 W a0 len0 cap0 zs := by
    obtain ⟨fuel, hf⟩ := h0
    rcases open_ints Try.underlying22 Try.underlying5 (by kernel_rfl) hf with ⟨hcs, _⟩ | ⟨x, l, c, zs, hcs, _, hl, hm, hz, _, hcell, hwz⟩
    · simp [Value.cells] at hcs
      obtain ⟨rfl, rfl, rfl⟩ := hcs
      exact ⟨[], .inl ⟨rfl, rfl, rfl, rfl⟩⟩
    · simp [Value.cells] at hcs
      obtain ⟨rfl, rfl, rfl⟩ := hcs
      exact ⟨zs, .inr ⟨_, rfl, hl, hm, by simpa using hz, hcell, hwz⟩⟩
  clear hA0 hval0
  refine (walk a0 len0 cap0 z0 W w0).mono fun e W' ⟨he, bel⟩ => ?_
  subst he
  exact ⟨_, rfl, _, _, _, [], _, [], hW', trodAll_mk1 (shut_bool Try.underlying4 _), (trodAll_cons_mk (Below.trod laidOut (by kernel_rfl) (of_decide_eq_true (by kernel_rfl)) k0 bel lt0) trodAll_mk0), rfl, bel.frame _, fun h => by cases h⟩

theorem over : Rows.fnJoinedRow.holds Try.pinned (OpenSpec.ofChange Rows.fnJoinedSpec) :=
  OpenClaim.holds_of_wide 4 Try.f4 rfl rfl rfl rfl rfl rfl rfl ⟨rfl, rfl, rfl, rfl, rfl⟩ rfl rfl rfl rfl rfl (by kernel_rfl) Try.func4 (by kernel_rfl)
    (of_decide_eq_true (by kernel_rfl)) (by unfold Func.isWrapper; first | (rw [if_pos (by decide +kernel)]; kernel_rfl) | (rw [if_neg (by decide +kernel)]; exact ⟨rfl, rfl⟩))
    (fun os started H enc _ => lifted os started H enc)

theorem proved : Rows.FnJoinedSaid := over
end Go.Proofs.Ytjeoenieoejolac.fnJoined
namespace Go.Proofs.Ytjeoenieoejolac
theorem fnJoined_holds : Rows.FnJoinedSaid := fnJoined.proved
#print axioms fnJoined_holds
end Go.Proofs.Ytjeoenieoejolac
