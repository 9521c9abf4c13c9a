/- Whatever bytes some claims are drawn from: JoinedAll answers as its model, and joined as a tree they are what they are joined one by one; a code of more than 2 to the 20 bytes is passed by. -/
import Derived.Test.YtjeoenieoejoladRows
import Derived.WalkKit
import Derived.ProofKit
import Derived.OpenShut
import Derived.ShutString
import Derived.ChangeOld
import Derived.Below
import Derived.Test.YtjeoenieoejoladRdA
import Derived.Test.YtjeoenieoejoladRdJ
import Derived.Test.YtjeoenieoejoladLvE
import Derived.Test.YtjeoenieoejoladLvG
namespace Go.Proofs.Ytjeoenieoejolad.fnJoinedAll
open Go.ChangeShapes Go.WideShapes Go.ChangeAt Go.RowKit
open Go.ChangeMaps (open_string shut_string)
set_option linter.unusedVariables false

theorem own : ownKnob Try.prog.godebug = none := by kernel_rfl
theorem laidOut : laidOutB Try.prog = true := by kernel_rfl

def IsRow (k : IntKind) (w : World) (a : Option Addr) (len cap : Nat) (zs : List Int) : Prop :=
  (a = none ∧ len = 0 ∧ cap = 0 ∧ zs = []) ∨
  ∃ x, a = some x ∧ len ≤ cap ∧ cap ≤ maxLen ∧ zs.length = cap ∧ (∀ i, i < zs.length → w.cell? (x.add i) = some (.int k (zs.getD i 0))) ∧ ∀ n ∈ zs, (Lit.int k n).wf = true

set_option maxHeartbeats 8000000 in
set_option maxRecDepth 100000 in
theorem walk (a0 : Option Addr) (len0 cap0 : Nat) (z0 : List Int) (w : World) (w0 : IsRow .u8 w a0 len0 cap0 z0) :
    Calls Try.prog 3 #[.slice a0 len0 cap0] w fun e w' => e = .returned (.bool true) ∧ Below w.heap.size w w' := by
  have hrow : Row .u8 w a0 len0 cap0 z0 := w0
  clear w0
  have hl0 : (len0 : Int) ≤ 9223372036854775807 := by
    rcases hrow with ⟨_, rfl, _⟩ | ⟨x, _, h1, h2, _⟩
    · simp
    · unfold maxLen at h2; omega
  by_cases hbig : (1048576 : Int) < (len0 : Int)
  · go_enter Try.func3, Try.ntmps3
    go_wp2_with fail
    refine (big_any _ _ _ _).mono ?_
    rintro e w' ⟨rfl, rfl⟩
    go_wp2
    go_ret
    exact ⟨rfl, Below.refl _ _⟩
  · have HR : Hid (Row .u8 w a0 len0 cap0 z0) := hrow
    have hb : decide ((1048576 : Int) < (len0 : Int)) = false := by simpa using hbig
    clear hrow
    go_enter Try.func3, Try.ntmps3
    go_wp2_with fail
    refine (big_any _ _ _ _).mono ?_
    rintro e w ⟨rfl, rfl⟩
    go_wp2_with fail
    refine (drawJoinedAll_any w HR.out).mono ?_
    rintro e v1 ⟨la, ll, lc, rfl, hll, hcs, hb1⟩
    have HB1 : Hid (Below w.heap.size w v1) := hb1
    have hllI : (ll : Int) ≤ 8 := by omega
    clear hb1
    rcases hcs with rfl | ⟨g, cs, rfl, hl1, hs⟩
    · have CI := implJoinedAll_nil la lc
      have CS := specJoinedAll_nil la lc
      generalize M.allv [] = q at CI CS
      generalize M.allOk [] = o at CI CS
      obtain ⟨⟨s1, s2⟩, ⟨t1, t2⟩, st⟩ := q
      dsimp only [clv] at CI CS
      go_wp2_with fail
      refine (CI _).mono ?_
      rintro e v2 ⟨rfl, hb2⟩
      have HB2 : Hid (Below w.heap.size w (v2.alloc (.cells #[.int .i64 s1, .int .i64 s2, .int .i64 t1, .int .i64 t2, .int .i64 st] 29))) := (HB1.out.trans (hb2.mono HB1.out.size)).alloc (Nat.le_trans HB1.out.size hb2.size) _
      have HV2 : Hid (Below v1.heap.size v1 (v2.alloc (.cells #[.int .i64 s1, .int .i64 s2, .int .i64 t1, .int .i64 t2, .int .i64 st] 29))) := hb2.alloc hb2.size _
      have LC2 : Hid (Lies (v2.alloc (.cells #[.int .i64 s1, .int .i64 s2, .int .i64 t1, .int .i64 t2, .int .i64 st] 29)) v2.heap.size [.int .i64 s1, .int .i64 s2, .int .i64 t1, .int .i64 t2, .int .i64 st]) := lies_new _ _ _
      clear hb2
      go_wp2_with fail
      refine (CS _).mono ?_
      rintro e v3 ⟨rfl, hb3⟩
      have HB3 : Hid (Below w.heap.size w (v3.alloc (.cells #[.int .i64 s1, .int .i64 s2, .int .i64 t1, .int .i64 t2, .int .i64 st] 29))) := (HB2.out.trans (hb3.mono HB2.out.size)).alloc (Nat.le_trans HB2.out.size hb3.size) _
      have HV3 : Hid (Below v1.heap.size v1 (v3.alloc (.cells #[.int .i64 s1, .int .i64 s2, .int .i64 t1, .int .i64 t2, .int .i64 st] 29))) := (HV2.out.trans (hb3.mono HV2.out.size)).alloc (Nat.le_trans HV2.out.size hb3.size) _
      have LC3 : Hid (Lies (v3.alloc (.cells #[.int .i64 s1, .int .i64 s2, .int .i64 t1, .int .i64 t2, .int .i64 st] 29)) v2.heap.size [.int .i64 s1, .int .i64 s2, .int .i64 t1, .int .i64 t2, .int .i64 st]) := (LC2.out.belowS hb3).alloc _
      have LD3 : Hid (Lies (v3.alloc (.cells #[.int .i64 s1, .int .i64 s2, .int .i64 t1, .int .i64 t2, .int .i64 st] 29)) v3.heap.size [.int .i64 s1, .int .i64 s2, .int .i64 t1, .int .i64 t2, .int .i64 st]) := lies_new _ _ _
      clear hb3 HB2 HV2 LC2
      have fc0 : (v3.alloc (.cells #[.int .i64 s1, .int .i64 s2, .int .i64 t1, .int .i64 t2, .int .i64 st] 29)).cell? ⟨v2.heap.size, 0, none⟩ = some (.int .i64 s1) := LC3.out.at 0
      have fc1 : (v3.alloc (.cells #[.int .i64 s1, .int .i64 s2, .int .i64 t1, .int .i64 t2, .int .i64 st] 29)).cell? ⟨v2.heap.size, 1, none⟩ = some (.int .i64 s2) := LC3.out.at 1
      have fc2 : (v3.alloc (.cells #[.int .i64 s1, .int .i64 s2, .int .i64 t1, .int .i64 t2, .int .i64 st] 29)).cell? ⟨v2.heap.size, 2, none⟩ = some (.int .i64 t1) := LC3.out.at 2
      have fc3 : (v3.alloc (.cells #[.int .i64 s1, .int .i64 s2, .int .i64 t1, .int .i64 t2, .int .i64 st] 29)).cell? ⟨v2.heap.size, 3, none⟩ = some (.int .i64 t2) := LC3.out.at 3
      have fc4 : (v3.alloc (.cells #[.int .i64 s1, .int .i64 s2, .int .i64 t1, .int .i64 t2, .int .i64 st] 29)).cell? ⟨v2.heap.size, 4, none⟩ = some (.int .i64 st) := LC3.out.at 4
      have fd0 : (v3.alloc (.cells #[.int .i64 s1, .int .i64 s2, .int .i64 t1, .int .i64 t2, .int .i64 st] 29)).cell? ⟨v3.heap.size, 0, none⟩ = some (.int .i64 s1) := LD3.out.at 0
      have fd1 : (v3.alloc (.cells #[.int .i64 s1, .int .i64 s2, .int .i64 t1, .int .i64 t2, .int .i64 st] 29)).cell? ⟨v3.heap.size, 1, none⟩ = some (.int .i64 s2) := LD3.out.at 1
      have fd2 : (v3.alloc (.cells #[.int .i64 s1, .int .i64 s2, .int .i64 t1, .int .i64 t2, .int .i64 st] 29)).cell? ⟨v3.heap.size, 2, none⟩ = some (.int .i64 t1) := LD3.out.at 2
      have fd3 : (v3.alloc (.cells #[.int .i64 s1, .int .i64 s2, .int .i64 t1, .int .i64 t2, .int .i64 st] 29)).cell? ⟨v3.heap.size, 3, none⟩ = some (.int .i64 t2) := LD3.out.at 3
      have fd4 : (v3.alloc (.cells #[.int .i64 s1, .int .i64 s2, .int .i64 t1, .int .i64 t2, .int .i64 st] 29)).cell? ⟨v3.heap.size, 4, none⟩ = some (.int .i64 st) := LD3.out.at 4
      have qe0 : (s1 == s1) = true := by simp
      have qn0 : (s1 != s1) = false := by simp
      have qe1 : (s2 == s2) = true := by simp
      have qn1 : (s2 != s2) = false := by simp
      have qe2 : (t1 == t1) = true := by simp
      have qn2 : (t1 != t1) = false := by simp
      have qe3 : (t2 == t2) = true := by simp
      have qn3 : (t2 != t2) = false := by simp
      have qe4 : (st == st) = true := by simp
      have qn4 : (st != st) = false := by simp
      have n1 : (o != o) = false := by simp
      have n2 : (o == o) = true := by simp
      go_wp2
      go_ret
      exact ⟨by simp, HB3.out⟩
    · have hcl : cs.length = ll := hs.len
      have HSE : Hid (SeesC v1 (some ⟨g, 0, none⟩) ll lc cs) := hs
      have hlcI : (ll : Int) ≤ lc := by have := hs.le; omega
      have CI : ∀ W, SeesC W (some ⟨g, 0, none⟩) ll lc cs → Calls Try.prog 7 #[.slice (some ⟨g, 0, none⟩) ll lc] W fun e w' => e = .returned (.tuple #[clv (M.allv cs), .bool (M.allOk cs)]) ∧ Below W.heap.size W w' := fun W h => implJoinedAll_any W h
      have CS : ∀ W, SeesC W (some ⟨g, 0, none⟩) ll lc cs → Calls Try.prog 8 #[.slice (some ⟨g, 0, none⟩) ll lc] W fun e w' => e = .returned (.tuple #[clv (M.allv cs), .bool (M.allOk cs)]) ∧ Below W.heap.size W w' := fun W h => specJoinedAll_any W h
      have HLAW : Hid ((cs.drop 1).foldl M.step (cs.getD 0 M.c0, M.clOk (cs.getD 0 M.c0)) = ((cs.drop 1).foldl M.step (cs.getD 0 M.c0, M.clOk (cs.getD 0 M.c0))) ∧ ((cs.drop 1).foldl M.step (cs.getD 0 M.c0, M.clOk (cs.getD 0 M.c0))).2 = M.allOk cs ∧ (M.allOk cs = true → ((cs.drop 1).foldl M.step (cs.getD 0 M.c0, M.clOk (cs.getD 0 M.c0))).1 = M.allv cs)) := ⟨rfl, M.seq_law (by omega) (by omega)⟩
      generalize M.allv cs = q at CI CS HLAW
      generalize M.allOk cs = o at CI CS HLAW
      obtain ⟨⟨s1, s2⟩, ⟨t1, t2⟩, st⟩ := q
      dsimp only [clv] at CI CS
      have hl0I : ¬ ((ll : Int) = 0) := by omega
      have hl0b : ((ll : Int) == 0) = false := by simp; omega
      have hl0N : 0 < ll := hl1
      have hl1I : (1 : Int) ≤ (ll : Int) := by omega
      have hlc1 : (1 : Int) ≤ (lc : Int) := by omega
      go_wp2_with fail
      refine (CI _ HSE.out).mono ?_
      rintro e v2 ⟨rfl, hb2⟩
      have HB2 : Hid (Below w.heap.size w (v2.alloc (.cells #[.int .i64 s1, .int .i64 s2, .int .i64 t1, .int .i64 t2, .int .i64 st] 29))) := (HB1.out.trans (hb2.mono HB1.out.size)).alloc (Nat.le_trans HB1.out.size hb2.size) _
      have HV2 : Hid (Below v1.heap.size v1 (v2.alloc (.cells #[.int .i64 s1, .int .i64 s2, .int .i64 t1, .int .i64 t2, .int .i64 st] 29))) := hb2.alloc hb2.size _
      have LC2 : Hid (Lies (v2.alloc (.cells #[.int .i64 s1, .int .i64 s2, .int .i64 t1, .int .i64 t2, .int .i64 st] 29)) v2.heap.size [.int .i64 s1, .int .i64 s2, .int .i64 t1, .int .i64 t2, .int .i64 st]) := lies_new _ _ _
      clear hb2
      go_wp2_with fail
      refine (CS _ (HSE.out.below HV2.out)).mono ?_
      rintro e v3 ⟨rfl, hb3⟩
      have HB3 : Hid (Below w.heap.size w (v3.alloc (.cells #[.int .i64 s1, .int .i64 s2, .int .i64 t1, .int .i64 t2, .int .i64 st] 29))) := (HB2.out.trans (hb3.mono HB2.out.size)).alloc (Nat.le_trans HB2.out.size hb3.size) _
      have HV3 : Hid (Below v1.heap.size v1 (v3.alloc (.cells #[.int .i64 s1, .int .i64 s2, .int .i64 t1, .int .i64 t2, .int .i64 st] 29))) := (HV2.out.trans (hb3.mono HV2.out.size)).alloc (Nat.le_trans HV2.out.size hb3.size) _
      have LC3 : Hid (Lies (v3.alloc (.cells #[.int .i64 s1, .int .i64 s2, .int .i64 t1, .int .i64 t2, .int .i64 st] 29)) v2.heap.size [.int .i64 s1, .int .i64 s2, .int .i64 t1, .int .i64 t2, .int .i64 st]) := (LC2.out.belowS hb3).alloc _
      have LD3 : Hid (Lies (v3.alloc (.cells #[.int .i64 s1, .int .i64 s2, .int .i64 t1, .int .i64 t2, .int .i64 st] 29)) v3.heap.size [.int .i64 s1, .int .i64 s2, .int .i64 t1, .int .i64 t2, .int .i64 st]) := lies_new _ _ _
      clear hb3 HB2 HV2 LC2
      have fc0 : (v3.alloc (.cells #[.int .i64 s1, .int .i64 s2, .int .i64 t1, .int .i64 t2, .int .i64 st] 29)).cell? ⟨v2.heap.size, 0, none⟩ = some (.int .i64 s1) := LC3.out.at 0
      have fc1 : (v3.alloc (.cells #[.int .i64 s1, .int .i64 s2, .int .i64 t1, .int .i64 t2, .int .i64 st] 29)).cell? ⟨v2.heap.size, 1, none⟩ = some (.int .i64 s2) := LC3.out.at 1
      have fc2 : (v3.alloc (.cells #[.int .i64 s1, .int .i64 s2, .int .i64 t1, .int .i64 t2, .int .i64 st] 29)).cell? ⟨v2.heap.size, 2, none⟩ = some (.int .i64 t1) := LC3.out.at 2
      have fc3 : (v3.alloc (.cells #[.int .i64 s1, .int .i64 s2, .int .i64 t1, .int .i64 t2, .int .i64 st] 29)).cell? ⟨v2.heap.size, 3, none⟩ = some (.int .i64 t2) := LC3.out.at 3
      have fc4 : (v3.alloc (.cells #[.int .i64 s1, .int .i64 s2, .int .i64 t1, .int .i64 t2, .int .i64 st] 29)).cell? ⟨v2.heap.size, 4, none⟩ = some (.int .i64 st) := LC3.out.at 4
      have fd0 : (v3.alloc (.cells #[.int .i64 s1, .int .i64 s2, .int .i64 t1, .int .i64 t2, .int .i64 st] 29)).cell? ⟨v3.heap.size, 0, none⟩ = some (.int .i64 s1) := LD3.out.at 0
      have fd1 : (v3.alloc (.cells #[.int .i64 s1, .int .i64 s2, .int .i64 t1, .int .i64 t2, .int .i64 st] 29)).cell? ⟨v3.heap.size, 1, none⟩ = some (.int .i64 s2) := LD3.out.at 1
      have fd2 : (v3.alloc (.cells #[.int .i64 s1, .int .i64 s2, .int .i64 t1, .int .i64 t2, .int .i64 st] 29)).cell? ⟨v3.heap.size, 2, none⟩ = some (.int .i64 t1) := LD3.out.at 2
      have fd3 : (v3.alloc (.cells #[.int .i64 s1, .int .i64 s2, .int .i64 t1, .int .i64 t2, .int .i64 st] 29)).cell? ⟨v3.heap.size, 3, none⟩ = some (.int .i64 t2) := LD3.out.at 3
      have fd4 : (v3.alloc (.cells #[.int .i64 s1, .int .i64 s2, .int .i64 t1, .int .i64 t2, .int .i64 st] 29)).cell? ⟨v3.heap.size, 4, none⟩ = some (.int .i64 st) := LD3.out.at 4
      have qe0 : (s1 == s1) = true := by simp
      have qn0 : (s1 != s1) = false := by simp
      have qe1 : (s2 == s2) = true := by simp
      have qn1 : (s2 != s2) = false := by simp
      have qe2 : (t1 == t1) = true := by simp
      have qn2 : (t1 != t1) = false := by simp
      have qe3 : (t2 == t2) = true := by simp
      have qn3 : (t2 != t2) = false := by simp
      have qe4 : (st == st) = true := by simp
      have qn4 : (st != st) = false := by simp
      have n1 : (o != o) = false := by simp
      have n2 : (o == o) = true := by simp
      have HS3 : Hid (SeesC (v3.alloc (.cells #[.int .i64 s1, .int .i64 s2, .int .i64 t1, .int .i64 t2, .int .i64 st] 29)) (some ⟨g, 0, none⟩) ll lc cs) := HSE.out.below HV3.out
      obtain ⟨b', off', hbe, hcell⟩ := HS3.out.at hl1
      simp only [Option.some.injEq, Addr.mk.injEq, and_true] at hbe
      obtain ⟨rfl, rfl⟩ := hbe
      have hg3 : g < (v3.alloc (.cells #[.int .i64 s1, .int .i64 s2, .int .i64 t1, .int .i64 t2, .int .i64 st] 29)).heap.size := World.block_lt_of_cell? _ ⟨g, 0 + 0 * 5 + 0, none⟩ ((hcell 0 (by omega) 0 (by omega)).trans rfl)
      have hA : ∀ q, q < 5 → (v3.alloc (.cells #[.int .i64 s1, .int .i64 s2, .int .i64 t1, .int .i64 t2, .int .i64 st] 29)).cell? ⟨g, q, none⟩ = (cvs (cs.getD 0 M.c0))[q]? := fun q hq => by have := hcell 0 (by omega) q hq; simpa using this
      have HC3 : Hid (CellsC (v3.alloc (.cells #[.int .i64 s1, .int .i64 s2, .int .i64 t1, .int .i64 t2, .int .i64 st] 29)) g ll cs) := fun i hi q hq => by have := hcell i hi q hq; simpa using this
      clear CI CS hcell HSE HV3
      have HG3 : Hid (g < (v3.alloc (.cells #[.int .i64 s1, .int .i64 s2, .int .i64 t1, .int .i64 t2, .int .i64 st] 29)).heap.size) := hg3
      clear hg3
      generalize hc0 : cs.getD 0 M.c0 = c0 at hA HLAW
      have HC0 : Hid (cs.getD 0 M.c0 = c0) := hc0
      clear hc0
      obtain ⟨⟨x, y⟩, ⟨x', y'⟩, n'⟩ := c0
      have a0 : (v3.alloc (.cells #[.int .i64 s1, .int .i64 s2, .int .i64 t1, .int .i64 t2, .int .i64 st] 29)).cell? ⟨g, 0, none⟩ = some (.int .i64 x) := hA 0 (by omega)
      have a1 : (v3.alloc (.cells #[.int .i64 s1, .int .i64 s2, .int .i64 t1, .int .i64 t2, .int .i64 st] 29)).cell? ⟨g, 1, none⟩ = some (.int .i64 y) := hA 1 (by omega)
      have a2 : (v3.alloc (.cells #[.int .i64 s1, .int .i64 s2, .int .i64 t1, .int .i64 t2, .int .i64 st] 29)).cell? ⟨g, 2, none⟩ = some (.int .i64 x') := hA 2 (by omega)
      have a3 : (v3.alloc (.cells #[.int .i64 s1, .int .i64 s2, .int .i64 t1, .int .i64 t2, .int .i64 st] 29)).cell? ⟨g, 3, none⟩ = some (.int .i64 y') := hA 3 (by omega)
      have a4 : (v3.alloc (.cells #[.int .i64 s1, .int .i64 s2, .int .i64 t1, .int .i64 t2, .int .i64 st] 29)).cell? ⟨g, 4, none⟩ = some (.int .i64 n') := hA 4 (by omega)
      clear hA
      go_wp2_with (with_reducible refine wpList_stop 28 ?_ ?_; rfl)
      generalize v3.heap.size = db at *
      generalize v2.heap.size = cb at *
      have HQB : Hid (Lies (v3.alloc (.cells #[.int .i64 s1, .int .i64 s2, .int .i64 t1, .int .i64 t2, .int .i64 st] 29)) cb (cvs ⟨(s1, s2), (t1, t2), st⟩)) := LC3.out
      have HBIG : Hid ((lc : Int) ≤ 9223372036854775807) := HS3.out.big
      clear LC3 LD3 HS3
      generalize v3.alloc (.cells #[.int .i64 s1, .int .i64 s2, .int .i64 t1, .int .i64 t2, .int .i64 st] 29) = wa at *
      show wpList _ _ _ _ _ _
      have HBA : Hid (w.heap.size ≤ wa.heap.size) := HB3.out.size
      have HCBN : Hid (cb ≠ wa.heap.size) := by have := HQB.out.2.2; show _ ≠ _; omega
      have HNB : Hid (Lies (wa.alloc (.cells #[.int .i64 x, .int .i64 y, .int .i64 x', .int .i64 y', .int .i64 n'] 29)) wa.heap.size (cvs ⟨(x, y), (x', y'), n'⟩)) := lies_new _ _ _
      have HQ4 : Hid (Lies (wa.alloc (.cells #[.int .i64 x, .int .i64 y, .int .i64 x', .int .i64 y', .int .i64 n'] 29)) cb (cvs ⟨(s1, s2), (t1, t2), st⟩)) := HQB.out.alloc _
      have HC4 : Hid (CellsC (wa.alloc (.cells #[.int .i64 x, .int .i64 y, .int .i64 x', .int .i64 y', .int .i64 n'] 29)) g ll cs) := HC3.out.below ((Below.refl wa.heap.size _).alloc (Nat.le_refl _) _) HG3.out
      have HB4 : Hid (Below w.heap.size w (wa.alloc (.cells #[.int .i64 x, .int .i64 y, .int .i64 x', .int .i64 y', .int .i64 n'] 29))) := HB3.out.alloc HB3.out.size _
      have HSE1 : Hid (SeesC (wa.alloc (.cells #[.int .i64 x, .int .i64 y, .int .i64 x', .int .i64 y', .int .i64 n'] 29)) (some ⟨g, 0, none⟩) 1 lc [⟨(x, y), (x', y'), n'⟩]) := ⟨rfl, by omega, HBIG.out, fun e => by simp at e, .inr ⟨g, 0, rfl, fun i hi j hj => by
        obtain rfl : i = 0 := by omega
        have := HC4.out 0 (by omega) j hj
        rw [HC0.out] at this
        simpa using this⟩⟩
      have CO := specJoinedAll_any _ HSE1.out
      rw [M.allOk_one] at CO
      generalize M.allv [(⟨(x, y), (x', y'), n'⟩ : M.Cl)] = rv at CO
      generalize hok0 : M.clOk ⟨(x, y), (x', y'), n'⟩ = ok0 at CO HLAW
      have HOK0 : Hid (M.clOk ⟨(x, y), (x', y'), n'⟩ = ok0) := hok0
      obtain ⟨⟨r1, r2⟩, ⟨r3, r4⟩, r5⟩ := rv
      dsimp only [clv] at CO
      clear hok0 HSE1 HQB HC3 HB3
      have HNG : Hid (g < wa.heap.size) := HG3.out
      go_wp2_with fail
      refine CO.mono ?_
      rintro e v5 ⟨rfl, hb5⟩
      have ST : Hid (FjR cs ⟨(x, y), (x', y'), n'⟩ ⟨(s1, s2), (t1, t2), st⟩ g ll wa.heap.size cb w (.bool ok0) (.int .i64 ((1 : Nat) : Int)) (v5.alloc (.cells #[.int .i64 r1, .int .i64 r2, .int .i64 r3, .int .i64 r4, .int .i64 r5] 29))) := ⟨1, ⟨(x, y), (x', y'), n'⟩, ok0, rfl, rfl, by omega, by omega, by rw [HOK0.out]; rfl, (HNB.out.belowS hb5).alloc _, (HQ4.out.belowS hb5).alloc _, (HC4.out.below hb5 (by have := HNG.out; simp; omega)).below ((Below.refl v5.heap.size _).alloc (Nat.le_refl _) _) (by have := HNG.out; have := hb5.size; simp at this; omega), by have := HNG.out; have := hb5.size; simp at *; omega, (HB4.out.trans (hb5.mono HB4.out.size)).alloc (Nat.le_trans HB4.out.size hb5.size) _⟩
      have HNW : Hid (w.heap.size ≤ wa.heap.size) := HBA.out
      clear hb5 CO HNB HQ4 HC4 HB4 a0 a1 a2 a3 a4 fc0 fc1 fc2 fc3 fc4 fd0 fd1 fd2 fd3 fd4
      have HCN : Hid (cb ≠ wa.heap.size) := HCBN.out
      have HGN : Hid (g ≠ wa.heap.size) := by have := HNG.out; show _ ≠ _; omega
      generalize wa.heap.size = nb at *
      go_wp2
      go_loopw [10, 11] (fun ok i wr => FjR cs ⟨(x, y), (x', y'), n'⟩ ⟨(s1, s2), (t1, t2), st⟩ g ll nb cb w ok i wr) (fun _ i _ => ll - (intOf i).toNat)
      case atStart => exact ST.out
      case round =>
        obtain ⟨j, nw, oo, rfl, rfl, hj1, hjl, hfd, ln, lq, hcc, hgl, hb⟩ := hrel
        have HFD : Hid ((nw, oo) = ((cs.drop 1).take (j - 1)).foldl M.step (⟨(x, y), (x', y'), n'⟩, M.clOk ⟨(x, y), (x', y'), n'⟩)) := hfd
        have LN : Hid (Lies wr nb (cvs nw)) := ln
        have LQ : Hid (Lies wr cb (cvs ⟨(s1, s2), (t1, t2), st⟩)) := lq
        have HCC : Hid (CellsC wr g ll cs) := hcc
        have HGL : Hid (g < wr.heap.size) := hgl
        have HBr : Hid (Below w.heap.size w wr) := hb
        have HNL : Hid (nb < wr.heap.size) := ln.2.2
        clear hfd ln lq hcc hgl hb ST
        by_cases hgo : j < ll ∧ oo = true
        · obtain ⟨hlt, rfl⟩ := hgo
          have hI : (j : Int) < (ll : Int) := by omega
          have hjN : 1 ≤ j := hj1
          have hstep : ((cs.drop 1).take (j + 1 - 1)).foldl M.step (⟨(x, y), (x', y'), n'⟩, M.clOk ⟨(x, y), (x', y'), n'⟩) = (M.joinv nw (cs.getD j M.c0), M.joinOk nw (cs.getD j M.c0)) := by
            rw [M.fold_snoc _ hj1 (by omega), ← HFD.out]; rfl
          have HST : Hid ((M.joinv nw (cs.getD j M.c0), M.joinOk nw (cs.getD j M.c0)) = ((cs.drop 1).take (j + 1 - 1)).foldl M.step (⟨(x, y), (x', y'), n'⟩, M.clOk ⟨(x, y), (x', y'), n'⟩)) := hstep.symm
          have c1 := HCC.out j hlt
          have CJ := implJoined_any nw (cs.getD j M.c0)
          clear hstep HFD
          generalize cs.getD j M.c0 = cj at c1 CJ HST
          generalize M.joinOk nw cj = jo at CJ HST
          generalize M.joinv nw cj = jv at CJ HST
          obtain ⟨⟨x1, y1⟩, ⟨x2, y2⟩, n1'⟩ := nw
          obtain ⟨⟨u, v⟩, ⟨u', v'⟩, p⟩ := cj
          obtain ⟨⟨j1, j2⟩, ⟨j3, j4⟩, j5⟩ := jv
          dsimp only [clv] at CJ
          have HK : Hid (∀ W, Below wr.heap.size wr W → W.cell? ⟨nb, 0, none⟩ = some (.int .i64 x1) ∧ W.cell? ⟨nb, 1, none⟩ = some (.int .i64 y1) ∧ W.cell? ⟨nb, 2, none⟩ = some (.int .i64 x2) ∧ W.cell? ⟨nb, 3, none⟩ = some (.int .i64 y2) ∧ W.cell? ⟨nb, 4, none⟩ = some (.int .i64 n1') ∧ W.cell? ⟨g, j * 5, none⟩ = some (.int .i64 u) ∧ W.cell? ⟨g, j * 5 + 1, none⟩ = some (.int .i64 v) ∧ W.cell? ⟨g, j * 5 + 2, none⟩ = some (.int .i64 u') ∧ W.cell? ⟨g, j * 5 + 3, none⟩ = some (.int .i64 v') ∧ W.cell? ⟨g, j * 5 + 4, none⟩ = some (.int .i64 p)) := fun W hW => by
            have l1 := LN.out.belowS hW
            have f : ∀ {o : Nat} {v : Value}, wr.cell? ⟨g, o, none⟩ = some v → W.cell? ⟨g, o, none⟩ = some v := fun h => (hW.cell (p := ⟨g, _, none⟩) HGL.out).trans h
            exact ⟨l1.at 0, l1.at 1, l1.at 2, l1.at 3, l1.at 4, f (c1 0 (by omega)), f (c1 1 (by omega)), f (c1 2 (by omega)), f (c1 3 (by omega)), f (c1 4 (by omega))⟩
          have AJ : ∀ wc, Below wr.heap.size wr wc → Calls Try.prog 9 #[.agg #[.int .i64 x1, .int .i64 y1, .int .i64 x2, .int .i64 y2, .int .i64 n1'], .agg #[.int .i64 u, .int .i64 v, .int .i64 u', .int .i64 v', .int .i64 p]] wc fun e w' => e = .returned (.tuple #[.agg #[.int .i64 j1, .int .i64 j2, .int .i64 j3, .int .i64 j4, .int .i64 j5], .bool jo]) ∧ Below wr.heap.size wr w' ∧ Below wc.heap.size wc w' := fun wc h => (CJ wc).mono fun _ _ hh => ⟨hh.1, h.trans (hh.2.mono h.size), hh.2⟩
          have HBL : Hid (∀ W, Below wr.heap.size wr W → Below wr.heap.size wr (W.alloc (.cells #[.int .i64 0, .int .i64 0, .int .i64 0, .int .i64 0, .int .i64 0] 29))) := fun W h => h.alloc h.size _
          have hb5 : Below wr.heap.size wr wr.drew := (Below.refl _ _).drew
          have hb5a : Below wr.heap.size wr (wr.alloc (.cells #[.int .i64 0, .int .i64 0, .int .i64 0, .int .i64 0, .int .i64 0] 29)).drew := (HBL.out _ (Below.refl _ _)).drew
          clear c1 CJ
          go_wp2
          go_region_held3 (fun W => W.cell? ⟨nb, 0, none⟩ = some (.int .i64 x1) ∧ W.cell? ⟨nb, 1, none⟩ = some (.int .i64 y1) ∧ W.cell? ⟨nb, 2, none⟩ = some (.int .i64 x2) ∧ W.cell? ⟨nb, 3, none⟩ = some (.int .i64 y2) ∧ W.cell? ⟨nb, 4, none⟩ = some (.int .i64 n1') ∧ W.cell? ⟨g, j * 5, none⟩ = some (.int .i64 u) ∧ W.cell? ⟨g, j * 5 + 1, none⟩ = some (.int .i64 v) ∧ W.cell? ⟨g, j * 5 + 2, none⟩ = some (.int .i64 u') ∧ W.cell? ⟨g, j * 5 + 3, none⟩ = some (.int .i64 v') ∧ W.cell? ⟨g, j * 5 + 4, none⟩ = some (.int .i64 p)) (first | with_reducible exact HK.out _ hbb | with_reducible exact HK.out _ hb5 | with_reducible exact HK.out _ (HBL.out _ hbb) | with_reducible exact HK.out _ (HBL.out _ hb5) | with_reducible exact HK.out _ hb5a | with_reducible exact HK.out _ (leafS5 hbb (by omega) hq).1 | with_reducible exact HK.out _ (leafA5 hbb (by omega)).1)
            (first
              | (go_at_call 9; refine (AJ _ (by first | with_reducible exact hb5 | with_reducible exact hb5a | with_reducible exact HBL.out _ hb5)).mono ?_; rintro e v6 ⟨rfl, hbb, hcc⟩; (first | (have hq : Lies v6 wr.heap.size [.int .i64 0, .int .i64 0, .int .i64 0, .int .i64 0, .int .i64 0] := lies_kept hcc; obtain ⟨hq0, hq1, hq2, hq3, hq4, hf0, hf1, hf2, hf3, hf4⟩ := hq.five) | (have hq : Lies v6 wr.heap.size [.int .i64 0, .int .i64 0, .int .i64 0, .int .i64 0, .int .i64 0] := lies_kept ((Below.refl _ _).drew.trans hcc); obtain ⟨hq0, hq1, hq2, hq3, hq4, hf0, hf1, hf2, hf3, hf4⟩ := hq.five) | skip)))
          all_goals
            first
              | (have hR := leafS5 (v0 := .int .i64 j1) (v1 := .int .i64 j2) (v2 := .int .i64 j3) (v3 := .int .i64 j4) (v4 := .int .i64 j5) hbb (by omega) hq; generalize (((((v6.setCell _ _).setCell _ _).setCell _ _).setCell _ _).setCell _ _) = W at hR ⊢; obtain ⟨hBW, hLW, -⟩ := hR; generalize hPJ : wr.heap.size = PJ at hLW ⊢)
              | (have hR := leafA5 (t := 29) (vs := #[.int .i64 j1, .int .i64 j2, .int .i64 j3, .int .i64 j4, .int .i64 j5]) hbb (by omega); generalize v6.alloc _ = W at hR ⊢; obtain ⟨hBW, hLW, -⟩ := hR; generalize v6.heap.size = PJ at hLW ⊢)
            (try clear hPJ)
            have HBW : Hid (Below wr.heap.size wr W) := hBW
            have LPJ : Hid (Lies W PJ [.int .i64 j1, .int .i64 j2, .int .i64 j3, .int .i64 j4, .int .i64 j5]) := hLW
            have LNW : Hid (Lies W nb [.int .i64 x1, .int .i64 y1, .int .i64 x2, .int .i64 y2, .int .i64 n1']) := LN.out.belowS hBW
            have LQW : Hid (Lies W cb (cvs ⟨(s1, s2), (t1, t2), st⟩)) := LQ.out.belowS hBW
            have HCW : Hid (CellsC W g ll cs) := HCC.out.below hBW HGL.out
            have HBB : Hid (Below w.heap.size w W) := HBr.out.trans (hBW.mono HBr.out.size)
            have HGW : Hid (g < W.heap.size) := Nat.lt_of_lt_of_le HGL.out hBW.size
            clear hBW hLW hbb hcc
            (try clear hq hq0 hq1 hq2 hq3 hq4 hf0 hf1 hf2 hf3 hf4)
            clear HK AJ HBL hb5 hb5a LN LQ HCC HBr
            have e0 : W.cell? ⟨PJ, 0, none⟩ = some (.int .i64 j1) := LPJ.out.at 0
            have e1 : W.cell? ⟨PJ, 1, none⟩ = some (.int .i64 j2) := LPJ.out.at 1
            have e2 : W.cell? ⟨PJ, 2, none⟩ = some (.int .i64 j3) := LPJ.out.at 2
            have e3 : W.cell? ⟨PJ, 3, none⟩ = some (.int .i64 j4) := LPJ.out.at 3
            have e4 : W.cell? ⟨PJ, 4, none⟩ = some (.int .i64 j5) := LPJ.out.at 4
            have m0 : W.cell? ⟨nb, 0, none⟩ = some (.int .i64 x1) := LNW.out.at 0
            have m1 : W.cell? ⟨nb, 1, none⟩ = some (.int .i64 y1) := LNW.out.at 1
            have m2 : W.cell? ⟨nb, 2, none⟩ = some (.int .i64 x2) := LNW.out.at 2
            have m3 : W.cell? ⟨nb, 3, none⟩ = some (.int .i64 y2) := LNW.out.at 3
            have m4 : W.cell? ⟨nb, 4, none⟩ = some (.int .i64 n1') := LNW.out.at 4
            have mf0 : W.frozen? ⟨nb, 0, none⟩ = false := LNW.out.fr 0
            have mf1 : W.frozen? ⟨nb, 1, none⟩ = false := LNW.out.fr 1
            have mf2 : W.frozen? ⟨nb, 2, none⟩ = false := LNW.out.fr 2
            have mf3 : W.frozen? ⟨nb, 3, none⟩ = false := LNW.out.fr 3
            have mf4 : W.frozen? ⟨nb, 4, none⟩ = false := LNW.out.fr 4
            have LN7 := ((((LNW.out.set 0 (by simp) (.int .i64 j1)).set 1 (by simp) (.int .i64 j2)).set 2 (by simp) (.int .i64 j3)).set 3 (by simp) (.int .i64 j4)).set 4 (by simp) (.int .i64 j5)
            have HLN7 : Hid (Lies (((((W.setCell ⟨nb, 0, none⟩ (.int .i64 j1)).setCell ⟨nb, 1, none⟩ (.int .i64 j2)).setCell ⟨nb, 2, none⟩ (.int .i64 j3)).setCell ⟨nb, 3, none⟩ (.int .i64 j4)).setCell ⟨nb, 4, none⟩ (.int .i64 j5)) nb (cvs ⟨(j1, j2), (j3, j4), j5⟩)) := LN7
            clear LN7
            go_wp2
            go_roundw
            case rel => exact ⟨j + 1, ⟨(j1, j2), (j3, j4), j5⟩, jo, rfl, by go_num, by omega, by omega, HST.out, HLN7.out, ((((LQW.out.far HCN.out _ _).far HCN.out _ _).far HCN.out _ _).far HCN.out _ _).far HCN.out _ _, ((((HCW.out.far HGN.out).far HGN.out).far HGN.out).far HGN.out).far HGN.out, by have := HGW.out; simpa [World.setCell] using this, ((((HBB.out.setCell HNW.out _).setCell HNW.out _).setCell HNW.out _).setCell HNW.out _).setCell HNW.out _⟩
            case measure => simp [intOf]; omega
        · have hfull : (cs.drop 1).foldl M.step (⟨(x, y), (x', y'), n'⟩, ok0) = (nw, oo) := M.fold_all (p := (⟨(x, y), (x', y'), n'⟩, ok0)) (q := (nw, oo)) (by rw [← HOK0.out]; exact HFD.out) (by
            cases oo with
            | false => exact .inl rfl
            | true => exact .inr (by have : ¬ j < ll := fun h => hgo ⟨h, rfl⟩; omega))
          obtain ⟨-, hl2, hl3⟩ := HLAW.out
          rw [hfull] at hl2 hl3
          have hoo : oo = o := hl2
          subst hoo
          have HNQ : Hid (oo = true → nw = ⟨(s1, s2), (t1, t2), st⟩) := hl3
          clear hl2 hl3 hfull HLAW HFD
          have n3 : (oo == oo) = true := by simp
          cases oo with
          | false =>
            by_cases hlt : j < ll
            · have hI : (j : Int) < (ll : Int) := by omega
              go_wp2
              go_ret
              exact ⟨by simp, HBr.out⟩
            · have hI : ¬ ((j : Int) < (ll : Int)) := by omega
              go_wp2
              go_ret
              exact ⟨by simp, HBr.out⟩
          | true =>
            have hI : ¬ ((j : Int) < (ll : Int)) := fun h => hgo ⟨by omega, rfl⟩
            obtain rfl := HNQ.out (by simp)
            have e0 : wr.cell? ⟨cb, 0, none⟩ = some (.int .i64 s1) := LQ.out.at 0
            have e1 : wr.cell? ⟨cb, 1, none⟩ = some (.int .i64 s2) := LQ.out.at 1
            have e2 : wr.cell? ⟨cb, 2, none⟩ = some (.int .i64 t1) := LQ.out.at 2
            have e3 : wr.cell? ⟨cb, 3, none⟩ = some (.int .i64 t2) := LQ.out.at 3
            have e4 : wr.cell? ⟨cb, 4, none⟩ = some (.int .i64 st) := LQ.out.at 4
            have m0 : wr.cell? ⟨nb, 0, none⟩ = some (.int .i64 s1) := LN.out.at 0
            have m1 : wr.cell? ⟨nb, 1, none⟩ = some (.int .i64 s2) := LN.out.at 1
            have m2 : wr.cell? ⟨nb, 2, none⟩ = some (.int .i64 t1) := LN.out.at 2
            have m3 : wr.cell? ⟨nb, 3, none⟩ = some (.int .i64 t2) := LN.out.at 3
            have m4 : wr.cell? ⟨nb, 4, none⟩ = some (.int .i64 st) := LN.out.at 4
            go_wp2
            go_ret
            exact ⟨by simp, HBr.out⟩

set_option maxRecDepth 100000 in
theorem lifted (os : Os) (started : os.Started) (H : Type) (enc : TypeId × Value → H) :
    ReturnsInHanded {} Try.checked os 3 .any (Rows.fnJoinedAllSpec.pre6 enc Try.prog Try.f3 Rows.fnJoinedAllRow.domain false) (Rows.fnJoinedAllSpec.post enc Try.prog Try.f3 false true false false) := by
  refine returnsInHanded_of_change (C := Try.checked) own started (by kernel_rfl) Try.func3
    (ChangeSpec.witness6 (enc := enc) (C := Try.checked) false ⟨#[], #[.slice none 0 0], []⟩ 8 (by kernel_rfl) (by kernel_rfl) (by kernel_rfl) (by kernel_rfl)) ?_
  intro W base args ds gs before hval0 hW hcnd _
  have hval : ∀ (j : Nat) t v, Try.f3.params[j]? = some t → args[j]? = some v → Value.okWide Try.prog W .any base t v := hval0
  have hW' := hW
  obtain ⟨p, q, hA0, hV, rfl, hfz, hnd⟩ := hW
  have hA : DataW.TrodAll enc Try.prog W 0 (fun _ => true) true Try.f3.params.toList args.toList ds p := hA0
  rw [Try.params3] at hA hval
  obtain ⟨v0, vs0, d0, ds0, p0, q0, hargs, rfl, rfl, h0, r0⟩ := trodAll_cons hA
  obtain ⟨rfl, rfl, rfl⟩ := trodAll_nil r0
  obtain rfl : args = #[v0] := by cases args; simp_all
  obtain ⟨rfl, rfl⟩ := trodVars_none hV
  obtain ⟨a0, len0, cap0, rfl⟩ := okWide_slice Try.underlying22 (hval 0 22 v0 rfl rfl)
  have k0 := h0
  have lt0 : ∀ x ∈ p0, x.block < W.heap.size := by obtain ⟨m, hm⟩ := k0; exact DataW.trod_lt m _ _ _ hm
  obtain ⟨z0, w0⟩ : ∃ zs, IsRow .u8 W a0 len0 cap0 zs := by
    obtain ⟨fuel, hf⟩ := h0
    rcases open_ints Try.underlying22 Try.underlying5 (by kernel_rfl) hf with ⟨hcs, _⟩ | ⟨x, l, c, zs, hcs, _, hl, hm, hz, _, hcell, hwz⟩
    · simp [Value.cells] at hcs
      obtain ⟨rfl, rfl, rfl⟩ := hcs
      exact ⟨[], .inl ⟨rfl, rfl, rfl, rfl⟩⟩
    · simp [Value.cells] at hcs
      obtain ⟨rfl, rfl, rfl⟩ := hcs
      exact ⟨zs, .inr ⟨_, rfl, hl, hm, by simpa using hz, hcell, hwz⟩⟩
  clear hA0 hval0
  refine (walk a0 len0 cap0 z0 W w0).mono fun e W' ⟨he, bel⟩ => ?_
  subst he
  exact ⟨_, rfl, _, _, _, [], _, [], hW', trodAll_mk1 (shut_bool Try.underlying4 _), (trodAll_cons_mk (Below.trod laidOut (by kernel_rfl) (of_decide_eq_true (by kernel_rfl)) k0 bel lt0) trodAll_mk0), rfl, bel.frame _, fun h => by cases h⟩

theorem over : Rows.fnJoinedAllRow.holds Try.pinned (OpenSpec.ofChange Rows.fnJoinedAllSpec) :=
  OpenClaim.holds_of_wide 3 Try.f3 rfl rfl rfl rfl rfl rfl rfl ⟨rfl, rfl, rfl, rfl, rfl⟩ rfl rfl rfl rfl rfl (by kernel_rfl) Try.func3 (by kernel_rfl)
    (of_decide_eq_true (by kernel_rfl)) (by unfold Func.isWrapper; first | (rw [if_pos (by decide +kernel)]; kernel_rfl) | (rw [if_neg (by decide +kernel)]; exact ⟨rfl, rfl⟩))
    (fun os started H enc _ => lifted os started H enc)

theorem proved : Rows.FnJoinedAllSaid := over
end Go.Proofs.Ytjeoenieoejolad.fnJoinedAll
namespace Go.Proofs.Ytjeoenieoejolad
theorem fnJoinedAll_holds : Rows.FnJoinedAllSaid := fnJoinedAll.proved
#print axioms fnJoinedAll_holds
end Go.Proofs.Ytjeoenieoejolad
