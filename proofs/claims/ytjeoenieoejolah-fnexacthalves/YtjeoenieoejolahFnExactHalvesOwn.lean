/- At every slice of numbers the program's Halves answers as its model does, leaves the slice as it was, and its two answers own their memory, apart from each other: the law FnExactHalves returns true, with no condition. -/
import Derived.Test.YtjeoenieoejolahRows
import Derived.WalkKit
import Derived.ProofKit
import Derived.OpenShut
import Derived.ShutString
import Derived.ChangeOld
import Derived.Below
import Derived.Test.YtjeoenieoejolahHvC
import Derived.Test.YtjeoenieoejolahSlF
namespace Go.Proofs.Ytjeoenieoejolah.fnExactHalves
open Go.ChangeShapes Go.WideShapes Go.ChangeAt Go.RowKit
open Go.ChangeMaps (open_string shut_string)
set_option linter.unusedVariables false

theorem own : ownKnob Try.prog.godebug = none := by kernel_rfl
theorem laidOut : laidOutB Try.prog = true := by kernel_rfl

def IsRow (k : IntKind) (w : World) (a : Option Addr) (len cap : Nat) (zs : List Int) : Prop :=
  (a = none ∧ len = 0 ∧ cap = 0 ∧ zs = []) ∨
  ∃ x, a = some x ∧ len ≤ cap ∧ cap ≤ maxLen ∧ zs.length = cap ∧ (∀ i, i < zs.length → w.cell? (x.add i) = some (.int k (zs.getD i 0))) ∧ ∀ n ∈ zs, (Lit.int k n).wf = true

set_option maxHeartbeats 8000000 in
set_option maxRecDepth 100000 in
theorem walk (a0 : Option Addr) (len0 cap0 : Nat) (z0 : List Int) (w : World) (w0 : IsRow .i64 w a0 len0 cap0 z0) :
    Calls Try.prog 4 #[.slice a0 len0 cap0] w fun e w' => e = .returned (.bool true) ∧ Below w.heap.size w w' := by
  have hz0 : Sees w a0 len0 cap0 (z0.take len0) := sees_of_row w0
  clear w0
  generalize z0.take len0 = zs0 at hz0
  have HZ0 : Hid (Sees w a0 len0 cap0 zs0) := hz0
  have bn0 : (len0 : Int) ≤ 9223372036854775807 := by have := hz0.big; have := hz0.le; omega
  clear hz0
  by_cases hbig0 : (1048576 : Int) < (len0 : Int)
  · go_enter Try.func4, Try.ntmps4
    go_wp2
    go_ret
    exact ⟨rfl, Below.refl _ _⟩
  · have hb0 : decide ((1048576 : Int) < (len0 : Int)) = false := by simpa using hbig0
    have hn0 : len0 ≤ 1048576 := by omega
    go_enter Try.func4, Try.ntmps4
    go_wp2_with fail
    refine (toS_any _ HZ0.out hn0).mono ?_
    rintro e v1 ⟨x_p0, rfl, ho_p0, hbl⟩
    have O_p0_1 : Hid (Owns 2 v1 w.heap.size x_p0 len0 len0 (zs0)) := ho_p0
    have U_p0 : Hid (∀ u, x_p0 = some u → u.block < v1.heap.size) := O_p0_1.out.hi
    have D_p0 : Hid (∀ u, x_p0 = some u → w.heap.size ≤ u.block) := O_p0_1.out.lo
    have HB1 : Hid (Below w.heap.size w v1) := hbl
    have S0 : Hid (w.heap.size ≤ v1.heap.size) := hbl.size
    clear hbl ho_p0
    go_wp2_with fail
    refine (specHalves_any  _ O_p0_1.out.sees).mono ?_
    rintro e v2 ⟨s0_a, s0_n, s0_c, s1_a, s1_n, s1_c, rfl, hl_s0, hl_s1, ho_s0, ho_s1, dis_s, hbl⟩
    have O_p0_2 : Hid (Owns 2 v2 w.heap.size x_p0 len0 len0 (zs0)) := O_p0_1.out.below hbl
    have O_s0_2 : Hid (Owns 2 v2 v1.heap.size s0_a s0_n s0_c (M.hv zs0 0)) := ho_s0
    have U_s0 : Hid (∀ u, s0_a = some u → u.block < v2.heap.size) := O_s0_2.out.hi
    have D_s0 : Hid (∀ u, s0_a = some u → v1.heap.size ≤ u.block) := O_s0_2.out.lo
    have O_s1_2 : Hid (Owns 2 v2 v1.heap.size s1_a s1_n s1_c (M.hv zs0 1)) := ho_s1
    have U_s1 : Hid (∀ u, s1_a = some u → u.block < v2.heap.size) := O_s1_2.out.hi
    have D_s1 : Hid (∀ u, s1_a = some u → v1.heap.size ≤ u.block) := O_s1_2.out.lo
    have HB2 : Hid (Below w.heap.size w v2) := HB1.out.trans (hbl.mono HB1.out.size)
    have S1 : Hid (v1.heap.size ≤ v2.heap.size) := hbl.size
    clear hbl ho_s0 ho_s1
    have DIS_s : Hid (∀ u y, s0_a = some u → s1_a = some y → u.block ≠ y.block) := dis_s
    clear dis_s
    go_wp2_with fail
    refine (toS_any _ (HZ0.out.below HB2.out) hn0).mono ?_
    rintro e v3 ⟨x_x0, rfl, ho_x0, hbl⟩
    have O_s0_3 : Hid (Owns 2 v3 v1.heap.size s0_a s0_n s0_c (M.hv zs0 0)) := O_s0_2.out.below hbl
    have O_s1_3 : Hid (Owns 2 v3 v1.heap.size s1_a s1_n s1_c (M.hv zs0 1)) := O_s1_2.out.below hbl
    have O_x0_3 : Hid (Owns 2 v3 v2.heap.size x_x0 len0 len0 (zs0)) := ho_x0
    have U_x0 : Hid (∀ u, x_x0 = some u → u.block < v3.heap.size) := O_x0_3.out.hi
    have D_x0 : Hid (∀ u, x_x0 = some u → v2.heap.size ≤ u.block) := O_x0_3.out.lo
    have HB3 : Hid (Below w.heap.size w v3) := HB2.out.trans (hbl.mono HB2.out.size)
    have S2 : Hid (v2.heap.size ≤ v3.heap.size) := hbl.size
    clear hbl ho_x0
    go_wp2_with fail
    refine (implHalves_any  _ O_x0_3.out.sees).mono ?_
    rintro e v4 ⟨g0_a, g0_n, g0_c, g1_a, g1_n, g1_c, rfl, hl_g0, hl_g1, ho_g0, ho_g1, dis_g, hbl⟩
    have O_s0_4 : Hid (Owns 2 v4 v1.heap.size s0_a s0_n s0_c (M.hv zs0 0)) := O_s0_3.out.below hbl
    have O_s1_4 : Hid (Owns 2 v4 v1.heap.size s1_a s1_n s1_c (M.hv zs0 1)) := O_s1_3.out.below hbl
    have O_x0_4 : Hid (Owns 2 v4 v2.heap.size x_x0 len0 len0 (zs0)) := O_x0_3.out.below hbl
    have O_g0_4 : Hid (Owns 2 v4 v3.heap.size g0_a g0_n g0_c (M.hv zs0 0)) := ho_g0
    have U_g0 : Hid (∀ u, g0_a = some u → u.block < v4.heap.size) := O_g0_4.out.hi
    have D_g0 : Hid (∀ u, g0_a = some u → v3.heap.size ≤ u.block) := O_g0_4.out.lo
    have O_g1_4 : Hid (Owns 2 v4 v3.heap.size g1_a g1_n g1_c (M.hv zs0 1)) := ho_g1
    have U_g1 : Hid (∀ u, g1_a = some u → u.block < v4.heap.size) := O_g1_4.out.hi
    have D_g1 : Hid (∀ u, g1_a = some u → v3.heap.size ≤ u.block) := O_g1_4.out.lo
    have HB4 : Hid (Below w.heap.size w v4) := HB3.out.trans (hbl.mono HB3.out.size)
    have S3 : Hid (v3.heap.size ≤ v4.heap.size) := hbl.size
    clear hbl ho_g0 ho_g1
    have DIS_g : Hid (∀ u y, g0_a = some u → g1_a = some y → u.block ≠ y.block) := dis_g
    clear dis_g
    go_wp2_with fail
    refine (eqS_yes _ O_g0_4.out.sees O_s0_4.out.sees).mono ?_
    rintro e v5 ⟨rfl, hbl⟩
    have O_s0_5 : Hid (Owns 2 v5 v1.heap.size s0_a s0_n s0_c (M.hv zs0 0)) := O_s0_4.out.below hbl
    have O_s1_5 : Hid (Owns 2 v5 v1.heap.size s1_a s1_n s1_c (M.hv zs0 1)) := O_s1_4.out.below hbl
    have O_x0_5 : Hid (Owns 2 v5 v2.heap.size x_x0 len0 len0 (zs0)) := O_x0_4.out.below hbl
    have O_g0_5 : Hid (Owns 2 v5 v3.heap.size g0_a g0_n g0_c (M.hv zs0 0)) := O_g0_4.out.below hbl
    have O_g1_5 : Hid (Owns 2 v5 v3.heap.size g1_a g1_n g1_c (M.hv zs0 1)) := O_g1_4.out.below hbl
    have HB5 : Hid (Below w.heap.size w v5) := HB4.out.trans (hbl.mono HB4.out.size)
    have S4 : Hid (v4.heap.size ≤ v5.heap.size) := hbl.size
    clear hbl 
    go_wp2_with fail
    refine (eqS_yes _ O_g1_5.out.sees O_s1_5.out.sees).mono ?_
    rintro e v6 ⟨rfl, hbl⟩
    have O_s0_6 : Hid (Owns 2 v6 v1.heap.size s0_a s0_n s0_c (M.hv zs0 0)) := O_s0_5.out.below hbl
    have O_s1_6 : Hid (Owns 2 v6 v1.heap.size s1_a s1_n s1_c (M.hv zs0 1)) := O_s1_5.out.below hbl
    have O_x0_6 : Hid (Owns 2 v6 v2.heap.size x_x0 len0 len0 (zs0)) := O_x0_5.out.below hbl
    have O_g0_6 : Hid (Owns 2 v6 v3.heap.size g0_a g0_n g0_c (M.hv zs0 0)) := O_g0_5.out.below hbl
    have O_g1_6 : Hid (Owns 2 v6 v3.heap.size g1_a g1_n g1_c (M.hv zs0 1)) := O_g1_5.out.below hbl
    have HB6 : Hid (Below w.heap.size w v6) := HB5.out.trans (hbl.mono HB5.out.size)
    have S5 : Hid (v5.heap.size ≤ v6.heap.size) := hbl.size
    clear hbl 
    go_wp2_with fail
    refine (toS_any _ (HZ0.out.below HB6.out) hn0).mono ?_
    rintro e v7 ⟨x_y0, rfl, ho_y0, hbl⟩
    have O_s0_7 : Hid (Owns 2 v7 v1.heap.size s0_a s0_n s0_c (M.hv zs0 0)) := O_s0_6.out.below hbl
    have O_s1_7 : Hid (Owns 2 v7 v1.heap.size s1_a s1_n s1_c (M.hv zs0 1)) := O_s1_6.out.below hbl
    have O_x0_7 : Hid (Owns 2 v7 v2.heap.size x_x0 len0 len0 (zs0)) := O_x0_6.out.below hbl
    have O_g0_7 : Hid (Owns 2 v7 v3.heap.size g0_a g0_n g0_c (M.hv zs0 0)) := O_g0_6.out.below hbl
    have O_g1_7 : Hid (Owns 2 v7 v3.heap.size g1_a g1_n g1_c (M.hv zs0 1)) := O_g1_6.out.below hbl
    have O_y0_7 : Hid (Owns 2 v7 v6.heap.size x_y0 len0 len0 (zs0)) := ho_y0
    have U_y0 : Hid (∀ u, x_y0 = some u → u.block < v7.heap.size) := O_y0_7.out.hi
    have D_y0 : Hid (∀ u, x_y0 = some u → v6.heap.size ≤ u.block) := O_y0_7.out.lo
    have HB7 : Hid (Below w.heap.size w v7) := HB6.out.trans (hbl.mono HB6.out.size)
    have S6 : Hid (v6.heap.size ≤ v7.heap.size) := hbl.size
    clear hbl ho_y0
    go_wp2_with fail
    refine (eqS_yes _ O_x0_7.out.sees O_y0_7.out.sees).mono ?_
    rintro e v8 ⟨rfl, hbl⟩
    have O_s0_8 : Hid (Owns 2 v8 v1.heap.size s0_a s0_n s0_c (M.hv zs0 0)) := O_s0_7.out.below hbl
    have O_s1_8 : Hid (Owns 2 v8 v1.heap.size s1_a s1_n s1_c (M.hv zs0 1)) := O_s1_7.out.below hbl
    have O_x0_8 : Hid (Owns 2 v8 v2.heap.size x_x0 len0 len0 (zs0)) := O_x0_7.out.below hbl
    have O_g0_8 : Hid (Owns 2 v8 v3.heap.size g0_a g0_n g0_c (M.hv zs0 0)) := O_g0_7.out.below hbl
    have O_g1_8 : Hid (Owns 2 v8 v3.heap.size g1_a g1_n g1_c (M.hv zs0 1)) := O_g1_7.out.below hbl
    have O_y0_8 : Hid (Owns 2 v8 v6.heap.size x_y0 len0 len0 (zs0)) := O_y0_7.out.below hbl
    have HB8 : Hid (Below w.heap.size w v8) := HB7.out.trans (hbl.mono HB7.out.size)
    have S7 : Hid (v7.heap.size ≤ v8.heap.size) := hbl.size
    clear hbl 
    go_wp2_with fail
    refine (mark_any (1) _ O_x0_8.out (by omega) (by omega) (by omega)).mono ?_
    rintro e v9 ⟨rfl, ho, hg⟩
    have O_s0_9 : Hid (Owns 2 v9 v1.heap.size s0_a s0_n s0_c (M.hv zs0 0)) := O_s0_8.out.keep hg (fun u y hu hy => by have h1 := U_s0.out u hu; have h2 := D_s0.out u hu; have h3 := U_x0.out y hy; have h4 := D_x0.out y hy; have := S0.out; have := S1.out; have := S2.out; have := S3.out; have := S4.out; have := S5.out; have := S6.out; have := S7.out; omega)
    have O_s1_9 : Hid (Owns 2 v9 v1.heap.size s1_a s1_n s1_c (M.hv zs0 1)) := O_s1_8.out.keep hg (fun u y hu hy => by have h1 := U_s1.out u hu; have h2 := D_s1.out u hu; have h3 := U_x0.out y hy; have h4 := D_x0.out y hy; have := S0.out; have := S1.out; have := S2.out; have := S3.out; have := S4.out; have := S5.out; have := S6.out; have := S7.out; omega)
    have O_g0_9 : Hid (Owns 2 v9 v3.heap.size g0_a g0_n g0_c (M.hv zs0 0)) := O_g0_8.out.keep hg (fun u y hu hy => by have h1 := U_g0.out u hu; have h2 := D_g0.out u hu; have h3 := U_x0.out y hy; have h4 := D_x0.out y hy; have := S0.out; have := S1.out; have := S2.out; have := S3.out; have := S4.out; have := S5.out; have := S6.out; have := S7.out; omega)
    have O_g1_9 : Hid (Owns 2 v9 v3.heap.size g1_a g1_n g1_c (M.hv zs0 1)) := O_g1_8.out.keep hg (fun u y hu hy => by have h1 := U_g1.out u hu; have h2 := D_g1.out u hu; have h3 := U_x0.out y hy; have h4 := D_x0.out y hy; have := S0.out; have := S1.out; have := S2.out; have := S3.out; have := S4.out; have := S5.out; have := S6.out; have := S7.out; omega)
    have O_x0_9 : Hid (Owns 2 v9 v2.heap.size x_x0 len0 len0 (M.marks (1) len0)) := ho
    have HB9 : Hid (Below w.heap.size w v9) := below_mark HB8.out O_x0_8.out (by have := S0.out; have := S1.out; have := S2.out; have := S3.out; have := S4.out; have := S5.out; have := S6.out; have := S7.out; omega) HB8.out.size hg
    have S8 : Hid (v8.heap.size ≤ v9.heap.size) := hg.size
    clear ho hg
    go_wp2_with fail
    refine (eqS_yes _ O_g0_9.out.sees O_s0_9.out.sees).mono ?_
    rintro e v10 ⟨rfl, hbl⟩
    have O_s0_10 : Hid (Owns 2 v10 v1.heap.size s0_a s0_n s0_c (M.hv zs0 0)) := O_s0_9.out.below hbl
    have O_s1_10 : Hid (Owns 2 v10 v1.heap.size s1_a s1_n s1_c (M.hv zs0 1)) := O_s1_9.out.below hbl
    have O_g0_10 : Hid (Owns 2 v10 v3.heap.size g0_a g0_n g0_c (M.hv zs0 0)) := O_g0_9.out.below hbl
    have O_g1_10 : Hid (Owns 2 v10 v3.heap.size g1_a g1_n g1_c (M.hv zs0 1)) := O_g1_9.out.below hbl
    have HB10 : Hid (Below w.heap.size w v10) := HB9.out.trans (hbl.mono HB9.out.size)
    have S9 : Hid (v9.heap.size ≤ v10.heap.size) := hbl.size
    clear hbl 
    go_wp2_with fail
    refine (eqS_yes _ O_g1_10.out.sees O_s1_10.out.sees).mono ?_
    rintro e v11 ⟨rfl, hbl⟩
    have O_s0_11 : Hid (Owns 2 v11 v1.heap.size s0_a s0_n s0_c (M.hv zs0 0)) := O_s0_10.out.below hbl
    have O_s1_11 : Hid (Owns 2 v11 v1.heap.size s1_a s1_n s1_c (M.hv zs0 1)) := O_s1_10.out.below hbl
    have O_g0_11 : Hid (Owns 2 v11 v3.heap.size g0_a g0_n g0_c (M.hv zs0 0)) := O_g0_10.out.below hbl
    have O_g1_11 : Hid (Owns 2 v11 v3.heap.size g1_a g1_n g1_c (M.hv zs0 1)) := O_g1_10.out.below hbl
    have HB11 : Hid (Below w.heap.size w v11) := HB10.out.trans (hbl.mono HB10.out.size)
    have S10 : Hid (v10.heap.size ≤ v11.heap.size) := hbl.size
    clear hbl 
    go_wp2_with fail
    refine (mark_any (1) _ O_g0_11.out (by omega) (by omega) (by omega)).mono ?_
    rintro e v12 ⟨rfl, ho, hg⟩
    have O_s0_12 : Hid (Owns 2 v12 v1.heap.size s0_a s0_n s0_c (M.hv zs0 0)) := O_s0_11.out.keep hg (fun u y hu hy => by have h1 := U_s0.out u hu; have h2 := D_s0.out u hu; have h3 := U_g0.out y hy; have h4 := D_g0.out y hy; have := S0.out; have := S1.out; have := S2.out; have := S3.out; have := S4.out; have := S5.out; have := S6.out; have := S7.out; have := S8.out; have := S9.out; have := S10.out; omega)
    have O_s1_12 : Hid (Owns 2 v12 v1.heap.size s1_a s1_n s1_c (M.hv zs0 1)) := O_s1_11.out.keep hg (fun u y hu hy => by have h1 := U_s1.out u hu; have h2 := D_s1.out u hu; have h3 := U_g0.out y hy; have h4 := D_g0.out y hy; have := S0.out; have := S1.out; have := S2.out; have := S3.out; have := S4.out; have := S5.out; have := S6.out; have := S7.out; have := S8.out; have := S9.out; have := S10.out; omega)
    have O_g1_12 : Hid (Owns 2 v12 v3.heap.size g1_a g1_n g1_c (M.hv zs0 1)) := O_g1_11.out.keep hg (fun u y hu hy => (fun e => DIS_g.out y u hy hu e.symm))
    have O_g0_12 : Hid (Owns 2 v12 v3.heap.size g0_a g0_n g0_c (M.marks (1) g0_n)) := ho
    have HB12 : Hid (Below w.heap.size w v12) := below_mark HB11.out O_g0_11.out (by have := S0.out; have := S1.out; have := S2.out; have := S3.out; have := S4.out; have := S5.out; have := S6.out; have := S7.out; have := S8.out; have := S9.out; have := S10.out; omega) HB11.out.size hg
    have S11 : Hid (v11.heap.size ≤ v12.heap.size) := hg.size
    clear ho hg
    go_wp2_with fail
    refine (mark_any (1 + (g0_n : Int)) _ O_g1_12.out (by omega) (by omega) (by omega)).mono ?_
    rintro e v13 ⟨rfl, ho, hg⟩
    have O_s0_13 : Hid (Owns 2 v13 v1.heap.size s0_a s0_n s0_c (M.hv zs0 0)) := O_s0_12.out.keep hg (fun u y hu hy => by have h1 := U_s0.out u hu; have h2 := D_s0.out u hu; have h3 := U_g1.out y hy; have h4 := D_g1.out y hy; have := S0.out; have := S1.out; have := S2.out; have := S3.out; have := S4.out; have := S5.out; have := S6.out; have := S7.out; have := S8.out; have := S9.out; have := S10.out; have := S11.out; omega)
    have O_s1_13 : Hid (Owns 2 v13 v1.heap.size s1_a s1_n s1_c (M.hv zs0 1)) := O_s1_12.out.keep hg (fun u y hu hy => by have h1 := U_s1.out u hu; have h2 := D_s1.out u hu; have h3 := U_g1.out y hy; have h4 := D_g1.out y hy; have := S0.out; have := S1.out; have := S2.out; have := S3.out; have := S4.out; have := S5.out; have := S6.out; have := S7.out; have := S8.out; have := S9.out; have := S10.out; have := S11.out; omega)
    have O_g0_13 : Hid (Owns 2 v13 v3.heap.size g0_a g0_n g0_c (M.marks (1) g0_n)) := O_g0_12.out.keep hg (fun u y hu hy => DIS_g.out u y hu hy)
    have O_g1_13 : Hid (Owns 2 v13 v3.heap.size g1_a g1_n g1_c (M.marks (1 + (g0_n : Int)) g1_n)) := ho
    have HB13 : Hid (Below w.heap.size w v13) := below_mark HB12.out O_g1_12.out (by have := S0.out; have := S1.out; have := S2.out; have := S3.out; have := S4.out; have := S5.out; have := S6.out; have := S7.out; have := S8.out; have := S9.out; have := S10.out; have := S11.out; omega) HB12.out.size hg
    have S12 : Hid (v12.heap.size ≤ v13.heap.size) := hg.size
    clear ho hg
    have nq : ((1 + (g0_n : Int) + (g1_n : Int) : Int) != 1 + (g0_n : Int) + (g1_n : Int)) = false := by simp
    go_wp2_with fail
    refine (held_any (1) _ O_g0_13.out.sees (by omega) (by omega) (by omega)).mono ?_
    rintro e v13 ⟨rfl, rfl⟩
    go_wp2_with fail
    refine (held_any (1 + (g0_n : Int)) _ O_g1_13.out.sees (by omega) (by omega) (by omega)).mono ?_
    rintro e v13 ⟨rfl, rfl⟩
    go_wp2_with fail
    refine (toS_any _ (HZ0.out.below HB13.out) hn0).mono ?_
    rintro e v14 ⟨x_q0, rfl, ho_q0, hbl⟩
    have O_s0_14 : Hid (Owns 2 v14 v1.heap.size s0_a s0_n s0_c (M.hv zs0 0)) := O_s0_13.out.below hbl
    have O_s1_14 : Hid (Owns 2 v14 v1.heap.size s1_a s1_n s1_c (M.hv zs0 1)) := O_s1_13.out.below hbl
    have O_g0_14 : Hid (Owns 2 v14 v3.heap.size g0_a g0_n g0_c (M.marks (1) g0_n)) := O_g0_13.out.below hbl
    have O_g1_14 : Hid (Owns 2 v14 v3.heap.size g1_a g1_n g1_c (M.marks (1 + (g0_n : Int)) g1_n)) := O_g1_13.out.below hbl
    have O_q0_14 : Hid (Owns 2 v14 v13.heap.size x_q0 len0 len0 (zs0)) := ho_q0
    have U_q0 : Hid (∀ u, x_q0 = some u → u.block < v14.heap.size) := O_q0_14.out.hi
    have D_q0 : Hid (∀ u, x_q0 = some u → v13.heap.size ≤ u.block) := O_q0_14.out.lo
    have HB14 : Hid (Below w.heap.size w v14) := HB13.out.trans (hbl.mono HB13.out.size)
    have S13 : Hid (v13.heap.size ≤ v14.heap.size) := hbl.size
    clear hbl ho_q0
    go_wp2_with fail
    refine (implHalves_any  _ O_q0_14.out.sees).mono ?_
    rintro e v15 ⟨h0_a, h0_n, h0_c, h1_a, h1_n, h1_c, rfl, hl_h0, hl_h1, ho_h0, ho_h1, dis_h, hbl⟩
    have O_s0_15 : Hid (Owns 2 v15 v1.heap.size s0_a s0_n s0_c (M.hv zs0 0)) := O_s0_14.out.below hbl
    have O_s1_15 : Hid (Owns 2 v15 v1.heap.size s1_a s1_n s1_c (M.hv zs0 1)) := O_s1_14.out.below hbl
    have O_g0_15 : Hid (Owns 2 v15 v3.heap.size g0_a g0_n g0_c (M.marks (1) g0_n)) := O_g0_14.out.below hbl
    have O_g1_15 : Hid (Owns 2 v15 v3.heap.size g1_a g1_n g1_c (M.marks (1 + (g0_n : Int)) g1_n)) := O_g1_14.out.below hbl
    have O_q0_15 : Hid (Owns 2 v15 v13.heap.size x_q0 len0 len0 (zs0)) := O_q0_14.out.below hbl
    have O_h0_15 : Hid (Owns 2 v15 v14.heap.size h0_a h0_n h0_c (M.hv zs0 0)) := ho_h0
    have U_h0 : Hid (∀ u, h0_a = some u → u.block < v15.heap.size) := O_h0_15.out.hi
    have D_h0 : Hid (∀ u, h0_a = some u → v14.heap.size ≤ u.block) := O_h0_15.out.lo
    have O_h1_15 : Hid (Owns 2 v15 v14.heap.size h1_a h1_n h1_c (M.hv zs0 1)) := ho_h1
    have U_h1 : Hid (∀ u, h1_a = some u → u.block < v15.heap.size) := O_h1_15.out.hi
    have D_h1 : Hid (∀ u, h1_a = some u → v14.heap.size ≤ u.block) := O_h1_15.out.lo
    have HB15 : Hid (Below w.heap.size w v15) := HB14.out.trans (hbl.mono HB14.out.size)
    have S14 : Hid (v14.heap.size ≤ v15.heap.size) := hbl.size
    clear hbl ho_h0 ho_h1
    have DIS_h : Hid (∀ u y, h0_a = some u → h1_a = some y → u.block ≠ y.block) := dis_h
    clear dis_h
    go_wp2_with fail
    refine (eqS_yes _ O_h0_15.out.sees O_s0_15.out.sees).mono ?_
    rintro e v16 ⟨rfl, hbl⟩
    have O_s0_16 : Hid (Owns 2 v16 v1.heap.size s0_a s0_n s0_c (M.hv zs0 0)) := O_s0_15.out.below hbl
    have O_s1_16 : Hid (Owns 2 v16 v1.heap.size s1_a s1_n s1_c (M.hv zs0 1)) := O_s1_15.out.below hbl
    have O_g0_16 : Hid (Owns 2 v16 v3.heap.size g0_a g0_n g0_c (M.marks (1) g0_n)) := O_g0_15.out.below hbl
    have O_g1_16 : Hid (Owns 2 v16 v3.heap.size g1_a g1_n g1_c (M.marks (1 + (g0_n : Int)) g1_n)) := O_g1_15.out.below hbl
    have O_h0_16 : Hid (Owns 2 v16 v14.heap.size h0_a h0_n h0_c (M.hv zs0 0)) := O_h0_15.out.below hbl
    have O_h1_16 : Hid (Owns 2 v16 v14.heap.size h1_a h1_n h1_c (M.hv zs0 1)) := O_h1_15.out.below hbl
    have HB16 : Hid (Below w.heap.size w v16) := HB15.out.trans (hbl.mono HB15.out.size)
    have S15 : Hid (v15.heap.size ≤ v16.heap.size) := hbl.size
    clear hbl 
    go_wp2_with fail
    refine (eqS_yes _ O_h1_16.out.sees O_s1_16.out.sees).mono ?_
    rintro e v17 ⟨rfl, hbl⟩
    have O_s0_17 : Hid (Owns 2 v17 v1.heap.size s0_a s0_n s0_c (M.hv zs0 0)) := O_s0_16.out.below hbl
    have O_s1_17 : Hid (Owns 2 v17 v1.heap.size s1_a s1_n s1_c (M.hv zs0 1)) := O_s1_16.out.below hbl
    have O_g0_17 : Hid (Owns 2 v17 v3.heap.size g0_a g0_n g0_c (M.marks (1) g0_n)) := O_g0_16.out.below hbl
    have O_g1_17 : Hid (Owns 2 v17 v3.heap.size g1_a g1_n g1_c (M.marks (1 + (g0_n : Int)) g1_n)) := O_g1_16.out.below hbl
    have O_h0_17 : Hid (Owns 2 v17 v14.heap.size h0_a h0_n h0_c (M.hv zs0 0)) := O_h0_16.out.below hbl
    have O_h1_17 : Hid (Owns 2 v17 v14.heap.size h1_a h1_n h1_c (M.hv zs0 1)) := O_h1_16.out.below hbl
    have HB17 : Hid (Below w.heap.size w v17) := HB16.out.trans (hbl.mono HB16.out.size)
    have S16 : Hid (v16.heap.size ≤ v17.heap.size) := hbl.size
    clear hbl 
    go_wp2_with fail
    refine (held_any (1) _ O_g0_17.out.sees (by omega) (by omega) (by omega)).mono ?_
    rintro e v17 ⟨rfl, rfl⟩
    go_wp2_with fail
    refine (held_any (1 + (g0_n : Int)) _ O_g1_17.out.sees (by omega) (by omega) (by omega)).mono ?_
    rintro e v17 ⟨rfl, rfl⟩
    go_wp2
    go_ret
    exact ⟨rfl, HB17.out⟩

set_option maxRecDepth 100000 in
theorem lifted (os : Os) (started : os.Started) (H : Type) (enc : TypeId × Value → H) :
    ReturnsInHanded {} Try.checked os 4 .any (Rows.fnExactHalvesSpec.pre6 enc Try.prog Try.f4 Rows.fnExactHalvesRow.domain false) (Rows.fnExactHalvesSpec.post enc Try.prog Try.f4 false true false false) := by
  refine returnsInHanded_of_change (C := Try.checked) own started (by kernel_rfl) Try.func4
    (ChangeSpec.witness6 (enc := enc) (C := Try.checked) false ⟨#[], #[.slice none 0 0], []⟩ 8 (by kernel_rfl) (by kernel_rfl) (by kernel_rfl) (by kernel_rfl)) ?_
  intro W base args ds gs before hval0 hW hcnd _
  have hval : ∀ (j : Nat) t v, Try.f4.params[j]? = some t → args[j]? = some v → Value.okWide Try.prog W .any base t v := hval0
  have hW' := hW
  obtain ⟨p, q, hA0, hV, rfl, hfz, hnd⟩ := hW
  have hA : DataW.TrodAll enc Try.prog W 0 (fun _ => true) true Try.f4.params.toList args.toList ds p := hA0
  rw [Try.params4] at hA hval
  obtain ⟨v0, vs0, d0, ds0, p0, q0, hargs, rfl, rfl, h0, r0⟩ := trodAll_cons hA
  obtain ⟨rfl, rfl, rfl⟩ := trodAll_nil r0
  obtain rfl : args = #[v0] := by cases args; simp_all
  obtain ⟨rfl, rfl⟩ := trodVars_none hV
  obtain ⟨a0, len0, cap0, rfl⟩ := okWide_slice Try.underlying22 (hval 0 22 v0 rfl rfl)
  have k0 := h0
  have lt0 : ∀ x ∈ p0, x.block < W.heap.size := by obtain ⟨m, hm⟩ := k0; exact DataW.trod_lt m _ _ _ hm
  obtain ⟨z0, w0⟩ : ∃ zs, IsRow .i64 W a0 len0 cap0 zs := by
    obtain ⟨fuel, hf⟩ := h0
    rcases open_ints Try.underlying22 Try.underlying2 (by kernel_rfl) hf with ⟨hcs, _⟩ | ⟨x, l, c, zs, hcs, _, hl, hm, hz, _, hcell, hwz⟩
    · simp [Value.cells] at hcs
      obtain ⟨rfl, rfl, rfl⟩ := hcs
      exact ⟨[], .inl ⟨rfl, rfl, rfl, rfl⟩⟩
    · simp [Value.cells] at hcs
      obtain ⟨rfl, rfl, rfl⟩ := hcs
      exact ⟨zs, .inr ⟨_, rfl, hl, hm, by simpa using hz, hcell, hwz⟩⟩
  clear hA0 hval0
  refine (walk a0 len0 cap0 z0 W w0).mono fun e W' ⟨he, bel⟩ => ?_
  subst he
  exact ⟨_, rfl, _, _, _, [], _, [], hW', trodAll_mk1 (shut_bool Try.underlying4 _), (trodAll_cons_mk (Below.trod laidOut (by kernel_rfl) (of_decide_eq_true (by kernel_rfl)) k0 bel lt0) trodAll_mk0), rfl, bel.frame _, fun h => by cases h⟩

theorem over : Rows.fnExactHalvesRow.holds Try.pinned (OpenSpec.ofChange Rows.fnExactHalvesSpec) :=
  OpenClaim.holds_of_wide 4 Try.f4 rfl rfl rfl rfl rfl rfl rfl ⟨rfl, rfl, rfl, rfl, rfl⟩ rfl rfl rfl rfl rfl (by kernel_rfl) Try.func4 (by kernel_rfl)
    (of_decide_eq_true (by kernel_rfl)) (by unfold Func.isWrapper; first | (rw [if_pos (by decide +kernel)]; kernel_rfl) | (rw [if_neg (by decide +kernel)]; exact ⟨rfl, rfl⟩))
    (fun os started H enc _ => lifted os started H enc)

theorem proved : Rows.FnExactHalvesSaid := over
end Go.Proofs.Ytjeoenieoejolah.fnExactHalves
namespace Go.Proofs.Ytjeoenieoejolah
theorem fnExactHalves_holds : Rows.FnExactHalvesSaid := fnExactHalves.proved
#print axioms fnExactHalves_holds
end Go.Proofs.Ytjeoenieoejolah
