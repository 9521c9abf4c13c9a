/- Of every two slices of numbers the program's Divided answers as its model does, leaves the slices as they were, and its answers own their memory: the law FnExactDivided returns true, with no condition on the input. -/
import Derived.Test.YtjeoenieoejolagRows
import Derived.WalkKit
import Derived.ProofKit
import Derived.OpenShut
import Derived.ShutString
import Derived.ChangeOld
import Derived.Below
import Derived.Test.YtjeoenieoejolagSlP
namespace Go.Proofs.Ytjeoenieoejolag.fnExactDivided
open Go.ChangeShapes Go.WideShapes Go.ChangeAt Go.RowKit
open Go.ChangeMaps (open_string shut_string)
set_option linter.unusedVariables false

theorem own : ownKnob Try.prog.godebug = none := by kernel_rfl
theorem laidOut : laidOutB Try.prog = true := by kernel_rfl

def IsRow (k : IntKind) (w : World) (a : Option Addr) (len cap : Nat) (zs : List Int) : Prop :=
  (a = none ∧ len = 0 ∧ cap = 0 ∧ zs = []) ∨
  ∃ x, a = some x ∧ len ≤ cap ∧ cap ≤ maxLen ∧ zs.length = cap ∧ (∀ i, i < zs.length → w.cell? (x.add i) = some (.int k (zs.getD i 0))) ∧ ∀ n ∈ zs, (Lit.int k n).wf = true

set_option maxHeartbeats 8000000 in
set_option maxRecDepth 100000 in
theorem walk (a0 : Option Addr) (len0 cap0 : Nat) (z0 : List Int) (a1 : Option Addr) (len1 cap1 : Nat) (z1 : List Int) (w : World) (w0 : IsRow .i64 w a0 len0 cap0 z0) (w1 : IsRow .i64 w a1 len1 cap1 z1) :
    Calls Try.prog 5 #[.slice a0 len0 cap0, .slice a1 len1 cap1] w fun e w' => e = .returned (.bool true) ∧ Below w.heap.size w w' := by
  have hz0 : Sees w a0 len0 cap0 (z0.take len0) := sees_of_row w0
  have hz1 : Sees w a1 len1 cap1 (z1.take len1) := sees_of_row w1
  clear w0 w1
  generalize z0.take len0 = zs0 at hz0
  have HZ0 : Hid (Sees w a0 len0 cap0 zs0) := hz0
  have bn0 : (len0 : Int) ≤ 9223372036854775807 := by have := hz0.big; have := hz0.le; omega
  generalize z1.take len1 = zs1 at hz1
  have HZ1 : Hid (Sees w a1 len1 cap1 zs1) := hz1
  have bn1 : (len1 : Int) ≤ 9223372036854775807 := by have := hz1.big; have := hz1.le; omega
  clear hz0 hz1
  by_cases hbig0 : (1048576 : Int) < (len0 : Int)
  · go_enter Try.func5, Try.ntmps5
    go_wp2
    go_ret
    exact ⟨rfl, Below.refl _ _⟩
  · have hb0 : decide ((1048576 : Int) < (len0 : Int)) = false := by simpa using hbig0
    have hn0 : len0 ≤ 1048576 := by omega
    by_cases hbig1 : (1048576 : Int) < (len1 : Int)
    · go_enter Try.func5, Try.ntmps5
      go_wp2
      go_ret
      exact ⟨rfl, Below.refl _ _⟩
    · have hb1 : decide ((1048576 : Int) < (len1 : Int)) = false := by simpa using hbig1
      have hn1 : len1 ≤ 1048576 := by omega
      have nf : (M.divOk zs0 zs1 != M.divOk zs0 zs1) = false := by simp
      go_enter Try.func5, Try.ntmps5
      go_wp2_with fail
      refine (toS_any _ HZ0.out hn0).mono ?_
      rintro e v1 ⟨x_p0, rfl, ho_p0, hbl⟩
      have O_p0_1 : Hid (Owns 2 v1 w.heap.size x_p0 len0 len0 (zs0)) := ho_p0
      have U_p0 : Hid (∀ u, x_p0 = some u → u.block < v1.heap.size) := O_p0_1.out.hi
      have D_p0 : Hid (∀ u, x_p0 = some u → w.heap.size ≤ u.block) := O_p0_1.out.lo
      have HB1 : Hid (Below w.heap.size w v1) := hbl
      have S0 : Hid (w.heap.size ≤ v1.heap.size) := hbl.size
      clear hbl ho_p0
      go_wp2_with fail
      refine (toS_any _ (HZ1.out.below HB1.out) hn1).mono ?_
      rintro e v2 ⟨x_p1, rfl, ho_p1, hbl⟩
      have O_p0_2 : Hid (Owns 2 v2 w.heap.size x_p0 len0 len0 (zs0)) := O_p0_1.out.below hbl
      have O_p1_2 : Hid (Owns 2 v2 v1.heap.size x_p1 len1 len1 (zs1)) := ho_p1
      have U_p1 : Hid (∀ u, x_p1 = some u → u.block < v2.heap.size) := O_p1_2.out.hi
      have D_p1 : Hid (∀ u, x_p1 = some u → v1.heap.size ≤ u.block) := O_p1_2.out.lo
      have HB2 : Hid (Below w.heap.size w v2) := HB1.out.trans (hbl.mono HB1.out.size)
      have S1 : Hid (v1.heap.size ≤ v2.heap.size) := hbl.size
      clear hbl ho_p1
      go_wp2_with fail
      refine (specDivided_any _ O_p0_2.out.sees O_p1_2.out.sees).mono ?_
      rintro e v3 ⟨s0_a, s0_n, s0_c, s1_a, s1_n, s1_c, Ls0, Ls1, rfl, hl_s0, hl_s1, hdr_s, ho_s0, ho_s1, dis_s, hbl⟩
      have HDR : Hid (M.DivRes zs0 zs1 Ls0 Ls1) := hdr_s
      clear hdr_s
      have O_p0_3 : Hid (Owns 2 v3 w.heap.size x_p0 len0 len0 (zs0)) := O_p0_2.out.below hbl
      have O_p1_3 : Hid (Owns 2 v3 v1.heap.size x_p1 len1 len1 (zs1)) := O_p1_2.out.below hbl
      have O_s0_3 : Hid (Owns 2 v3 v2.heap.size s0_a s0_n s0_c (Ls0)) := ho_s0
      have U_s0 : Hid (∀ u, s0_a = some u → u.block < v3.heap.size) := O_s0_3.out.hi
      have D_s0 : Hid (∀ u, s0_a = some u → v2.heap.size ≤ u.block) := O_s0_3.out.lo
      have O_s1_3 : Hid (Owns 2 v3 v2.heap.size s1_a s1_n s1_c (Ls1)) := ho_s1
      have U_s1 : Hid (∀ u, s1_a = some u → u.block < v3.heap.size) := O_s1_3.out.hi
      have D_s1 : Hid (∀ u, s1_a = some u → v2.heap.size ≤ u.block) := O_s1_3.out.lo
      have HB3 : Hid (Below w.heap.size w v3) := HB2.out.trans (hbl.mono HB2.out.size)
      have S2 : Hid (v2.heap.size ≤ v3.heap.size) := hbl.size
      clear hbl ho_s0 ho_s1
      have DIS_s : Hid (∀ u y, s0_a = some u → s1_a = some y → u.block ≠ y.block) := dis_s
      clear dis_s
      go_wp2_with fail
      refine (toS_any _ (HZ0.out.below HB3.out) hn0).mono ?_
      rintro e v4 ⟨x_x0, rfl, ho_x0, hbl⟩
      have O_s0_4 : Hid (Owns 2 v4 v2.heap.size s0_a s0_n s0_c (Ls0)) := O_s0_3.out.below hbl
      have O_s1_4 : Hid (Owns 2 v4 v2.heap.size s1_a s1_n s1_c (Ls1)) := O_s1_3.out.below hbl
      have O_x0_4 : Hid (Owns 2 v4 v3.heap.size x_x0 len0 len0 (zs0)) := ho_x0
      have U_x0 : Hid (∀ u, x_x0 = some u → u.block < v4.heap.size) := O_x0_4.out.hi
      have D_x0 : Hid (∀ u, x_x0 = some u → v3.heap.size ≤ u.block) := O_x0_4.out.lo
      have HB4 : Hid (Below w.heap.size w v4) := HB3.out.trans (hbl.mono HB3.out.size)
      have S3 : Hid (v3.heap.size ≤ v4.heap.size) := hbl.size
      clear hbl ho_x0
      go_wp2_with fail
      refine (toS_any _ (HZ1.out.below HB4.out) hn1).mono ?_
      rintro e v5 ⟨x_x1, rfl, ho_x1, hbl⟩
      have O_s0_5 : Hid (Owns 2 v5 v2.heap.size s0_a s0_n s0_c (Ls0)) := O_s0_4.out.below hbl
      have O_s1_5 : Hid (Owns 2 v5 v2.heap.size s1_a s1_n s1_c (Ls1)) := O_s1_4.out.below hbl
      have O_x0_5 : Hid (Owns 2 v5 v3.heap.size x_x0 len0 len0 (zs0)) := O_x0_4.out.below hbl
      have O_x1_5 : Hid (Owns 2 v5 v4.heap.size x_x1 len1 len1 (zs1)) := ho_x1
      have U_x1 : Hid (∀ u, x_x1 = some u → u.block < v5.heap.size) := O_x1_5.out.hi
      have D_x1 : Hid (∀ u, x_x1 = some u → v4.heap.size ≤ u.block) := O_x1_5.out.lo
      have HB5 : Hid (Below w.heap.size w v5) := HB4.out.trans (hbl.mono HB4.out.size)
      have S4 : Hid (v4.heap.size ≤ v5.heap.size) := hbl.size
      clear hbl ho_x1
      go_wp2_with fail
      refine (implDivided_any _ O_x0_5.out.sees O_x1_5.out.sees).mono ?_
      rintro e v6 ⟨g0_a, g0_n, g0_c, g1_a, g1_n, g1_c, Lg0, Lg1, rfl, hl_g0, hl_g1, hdr_g, ho_g0, ho_g1, dis_g, hbl⟩
      obtain ⟨e_0, e_1⟩ := M.divRes_unique hdr_g HDR.out
      rw [e_0] at ho_g0
      rw [e_1] at ho_g1
      clear hdr_g e_0 e_1
      have O_s0_6 : Hid (Owns 2 v6 v2.heap.size s0_a s0_n s0_c (Ls0)) := O_s0_5.out.below hbl
      have O_s1_6 : Hid (Owns 2 v6 v2.heap.size s1_a s1_n s1_c (Ls1)) := O_s1_5.out.below hbl
      have O_x0_6 : Hid (Owns 2 v6 v3.heap.size x_x0 len0 len0 (zs0)) := O_x0_5.out.below hbl
      have O_x1_6 : Hid (Owns 2 v6 v4.heap.size x_x1 len1 len1 (zs1)) := O_x1_5.out.below hbl
      have O_g0_6 : Hid (Owns 2 v6 v5.heap.size g0_a g0_n g0_c (Ls0)) := ho_g0
      have U_g0 : Hid (∀ u, g0_a = some u → u.block < v6.heap.size) := O_g0_6.out.hi
      have D_g0 : Hid (∀ u, g0_a = some u → v5.heap.size ≤ u.block) := O_g0_6.out.lo
      have O_g1_6 : Hid (Owns 2 v6 v5.heap.size g1_a g1_n g1_c (Ls1)) := ho_g1
      have U_g1 : Hid (∀ u, g1_a = some u → u.block < v6.heap.size) := O_g1_6.out.hi
      have D_g1 : Hid (∀ u, g1_a = some u → v5.heap.size ≤ u.block) := O_g1_6.out.lo
      have HB6 : Hid (Below w.heap.size w v6) := HB5.out.trans (hbl.mono HB5.out.size)
      have S5 : Hid (v5.heap.size ≤ v6.heap.size) := hbl.size
      clear hbl ho_g0 ho_g1
      have DIS_g : Hid (∀ u y, g0_a = some u → g1_a = some y → u.block ≠ y.block) := dis_g
      clear dis_g
      go_wp2_with fail
      refine (eqS_yes _ O_g0_6.out.sees O_s0_6.out.sees).mono ?_
      rintro e v7 ⟨rfl, hbl⟩
      have O_s0_7 : Hid (Owns 2 v7 v2.heap.size s0_a s0_n s0_c (Ls0)) := O_s0_6.out.below hbl
      have O_s1_7 : Hid (Owns 2 v7 v2.heap.size s1_a s1_n s1_c (Ls1)) := O_s1_6.out.below hbl
      have O_x0_7 : Hid (Owns 2 v7 v3.heap.size x_x0 len0 len0 (zs0)) := O_x0_6.out.below hbl
      have O_x1_7 : Hid (Owns 2 v7 v4.heap.size x_x1 len1 len1 (zs1)) := O_x1_6.out.below hbl
      have O_g0_7 : Hid (Owns 2 v7 v5.heap.size g0_a g0_n g0_c (Ls0)) := O_g0_6.out.below hbl
      have O_g1_7 : Hid (Owns 2 v7 v5.heap.size g1_a g1_n g1_c (Ls1)) := O_g1_6.out.below hbl
      have HB7 : Hid (Below w.heap.size w v7) := HB6.out.trans (hbl.mono HB6.out.size)
      have S6 : Hid (v6.heap.size ≤ v7.heap.size) := hbl.size
      clear hbl 
      go_wp2_with fail
      refine (eqS_yes _ O_g1_7.out.sees O_s1_7.out.sees).mono ?_
      rintro e v8 ⟨rfl, hbl⟩
      have O_s0_8 : Hid (Owns 2 v8 v2.heap.size s0_a s0_n s0_c (Ls0)) := O_s0_7.out.below hbl
      have O_s1_8 : Hid (Owns 2 v8 v2.heap.size s1_a s1_n s1_c (Ls1)) := O_s1_7.out.below hbl
      have O_x0_8 : Hid (Owns 2 v8 v3.heap.size x_x0 len0 len0 (zs0)) := O_x0_7.out.below hbl
      have O_x1_8 : Hid (Owns 2 v8 v4.heap.size x_x1 len1 len1 (zs1)) := O_x1_7.out.below hbl
      have O_g0_8 : Hid (Owns 2 v8 v5.heap.size g0_a g0_n g0_c (Ls0)) := O_g0_7.out.below hbl
      have O_g1_8 : Hid (Owns 2 v8 v5.heap.size g1_a g1_n g1_c (Ls1)) := O_g1_7.out.below hbl
      have HB8 : Hid (Below w.heap.size w v8) := HB7.out.trans (hbl.mono HB7.out.size)
      have S7 : Hid (v7.heap.size ≤ v8.heap.size) := hbl.size
      clear hbl 
      go_wp2_with fail
      refine (toS_any _ (HZ0.out.below HB8.out) hn0).mono ?_
      rintro e v9 ⟨x_y0, rfl, ho_y0, hbl⟩
      have O_s0_9 : Hid (Owns 2 v9 v2.heap.size s0_a s0_n s0_c (Ls0)) := O_s0_8.out.below hbl
      have O_s1_9 : Hid (Owns 2 v9 v2.heap.size s1_a s1_n s1_c (Ls1)) := O_s1_8.out.below hbl
      have O_x0_9 : Hid (Owns 2 v9 v3.heap.size x_x0 len0 len0 (zs0)) := O_x0_8.out.below hbl
      have O_x1_9 : Hid (Owns 2 v9 v4.heap.size x_x1 len1 len1 (zs1)) := O_x1_8.out.below hbl
      have O_g0_9 : Hid (Owns 2 v9 v5.heap.size g0_a g0_n g0_c (Ls0)) := O_g0_8.out.below hbl
      have O_g1_9 : Hid (Owns 2 v9 v5.heap.size g1_a g1_n g1_c (Ls1)) := O_g1_8.out.below hbl
      have O_y0_9 : Hid (Owns 2 v9 v8.heap.size x_y0 len0 len0 (zs0)) := ho_y0
      have U_y0 : Hid (∀ u, x_y0 = some u → u.block < v9.heap.size) := O_y0_9.out.hi
      have D_y0 : Hid (∀ u, x_y0 = some u → v8.heap.size ≤ u.block) := O_y0_9.out.lo
      have HB9 : Hid (Below w.heap.size w v9) := HB8.out.trans (hbl.mono HB8.out.size)
      have S8 : Hid (v8.heap.size ≤ v9.heap.size) := hbl.size
      clear hbl ho_y0
      go_wp2_with fail
      refine (eqS_yes _ O_x0_9.out.sees O_y0_9.out.sees).mono ?_
      rintro e v10 ⟨rfl, hbl⟩
      have O_s0_10 : Hid (Owns 2 v10 v2.heap.size s0_a s0_n s0_c (Ls0)) := O_s0_9.out.below hbl
      have O_s1_10 : Hid (Owns 2 v10 v2.heap.size s1_a s1_n s1_c (Ls1)) := O_s1_9.out.below hbl
      have O_x0_10 : Hid (Owns 2 v10 v3.heap.size x_x0 len0 len0 (zs0)) := O_x0_9.out.below hbl
      have O_x1_10 : Hid (Owns 2 v10 v4.heap.size x_x1 len1 len1 (zs1)) := O_x1_9.out.below hbl
      have O_g0_10 : Hid (Owns 2 v10 v5.heap.size g0_a g0_n g0_c (Ls0)) := O_g0_9.out.below hbl
      have O_g1_10 : Hid (Owns 2 v10 v5.heap.size g1_a g1_n g1_c (Ls1)) := O_g1_9.out.below hbl
      have O_y0_10 : Hid (Owns 2 v10 v8.heap.size x_y0 len0 len0 (zs0)) := O_y0_9.out.below hbl
      have HB10 : Hid (Below w.heap.size w v10) := HB9.out.trans (hbl.mono HB9.out.size)
      have S9 : Hid (v9.heap.size ≤ v10.heap.size) := hbl.size
      clear hbl 
      go_wp2_with fail
      refine (toS_any _ (HZ1.out.below HB10.out) hn1).mono ?_
      rintro e v11 ⟨x_y1, rfl, ho_y1, hbl⟩
      have O_s0_11 : Hid (Owns 2 v11 v2.heap.size s0_a s0_n s0_c (Ls0)) := O_s0_10.out.below hbl
      have O_s1_11 : Hid (Owns 2 v11 v2.heap.size s1_a s1_n s1_c (Ls1)) := O_s1_10.out.below hbl
      have O_x0_11 : Hid (Owns 2 v11 v3.heap.size x_x0 len0 len0 (zs0)) := O_x0_10.out.below hbl
      have O_x1_11 : Hid (Owns 2 v11 v4.heap.size x_x1 len1 len1 (zs1)) := O_x1_10.out.below hbl
      have O_g0_11 : Hid (Owns 2 v11 v5.heap.size g0_a g0_n g0_c (Ls0)) := O_g0_10.out.below hbl
      have O_g1_11 : Hid (Owns 2 v11 v5.heap.size g1_a g1_n g1_c (Ls1)) := O_g1_10.out.below hbl
      have O_y1_11 : Hid (Owns 2 v11 v10.heap.size x_y1 len1 len1 (zs1)) := ho_y1
      have U_y1 : Hid (∀ u, x_y1 = some u → u.block < v11.heap.size) := O_y1_11.out.hi
      have D_y1 : Hid (∀ u, x_y1 = some u → v10.heap.size ≤ u.block) := O_y1_11.out.lo
      have HB11 : Hid (Below w.heap.size w v11) := HB10.out.trans (hbl.mono HB10.out.size)
      have S10 : Hid (v10.heap.size ≤ v11.heap.size) := hbl.size
      clear hbl ho_y1
      go_wp2_with fail
      refine (eqS_yes _ O_x1_11.out.sees O_y1_11.out.sees).mono ?_
      rintro e v12 ⟨rfl, hbl⟩
      have O_s0_12 : Hid (Owns 2 v12 v2.heap.size s0_a s0_n s0_c (Ls0)) := O_s0_11.out.below hbl
      have O_s1_12 : Hid (Owns 2 v12 v2.heap.size s1_a s1_n s1_c (Ls1)) := O_s1_11.out.below hbl
      have O_x0_12 : Hid (Owns 2 v12 v3.heap.size x_x0 len0 len0 (zs0)) := O_x0_11.out.below hbl
      have O_x1_12 : Hid (Owns 2 v12 v4.heap.size x_x1 len1 len1 (zs1)) := O_x1_11.out.below hbl
      have O_g0_12 : Hid (Owns 2 v12 v5.heap.size g0_a g0_n g0_c (Ls0)) := O_g0_11.out.below hbl
      have O_g1_12 : Hid (Owns 2 v12 v5.heap.size g1_a g1_n g1_c (Ls1)) := O_g1_11.out.below hbl
      have O_y1_12 : Hid (Owns 2 v12 v10.heap.size x_y1 len1 len1 (zs1)) := O_y1_11.out.below hbl
      have HB12 : Hid (Below w.heap.size w v12) := HB11.out.trans (hbl.mono HB11.out.size)
      have S11 : Hid (v11.heap.size ≤ v12.heap.size) := hbl.size
      clear hbl 
      go_wp2_with fail
      refine (mark_any (1) _ O_x0_12.out (by omega) (by omega) (by omega)).mono ?_
      rintro e v13 ⟨rfl, ho, hg⟩
      have O_s0_13 : Hid (Owns 2 v13 v2.heap.size s0_a s0_n s0_c (Ls0)) := O_s0_12.out.keep hg (fun u y hu hy => by have h1 := U_s0.out u hu; have h2 := D_s0.out u hu; have h3 := U_x0.out y hy; have h4 := D_x0.out y hy; have := S0.out; have := S1.out; have := S2.out; have := S3.out; have := S4.out; have := S5.out; have := S6.out; have := S7.out; have := S8.out; have := S9.out; have := S10.out; have := S11.out; omega)
      have O_s1_13 : Hid (Owns 2 v13 v2.heap.size s1_a s1_n s1_c (Ls1)) := O_s1_12.out.keep hg (fun u y hu hy => by have h1 := U_s1.out u hu; have h2 := D_s1.out u hu; have h3 := U_x0.out y hy; have h4 := D_x0.out y hy; have := S0.out; have := S1.out; have := S2.out; have := S3.out; have := S4.out; have := S5.out; have := S6.out; have := S7.out; have := S8.out; have := S9.out; have := S10.out; have := S11.out; omega)
      have O_x1_13 : Hid (Owns 2 v13 v4.heap.size x_x1 len1 len1 (zs1)) := O_x1_12.out.keep hg (fun u y hu hy => by have h1 := U_x1.out u hu; have h2 := D_x1.out u hu; have h3 := U_x0.out y hy; have h4 := D_x0.out y hy; have := S0.out; have := S1.out; have := S2.out; have := S3.out; have := S4.out; have := S5.out; have := S6.out; have := S7.out; have := S8.out; have := S9.out; have := S10.out; have := S11.out; omega)
      have O_g0_13 : Hid (Owns 2 v13 v5.heap.size g0_a g0_n g0_c (Ls0)) := O_g0_12.out.keep hg (fun u y hu hy => by have h1 := U_g0.out u hu; have h2 := D_g0.out u hu; have h3 := U_x0.out y hy; have h4 := D_x0.out y hy; have := S0.out; have := S1.out; have := S2.out; have := S3.out; have := S4.out; have := S5.out; have := S6.out; have := S7.out; have := S8.out; have := S9.out; have := S10.out; have := S11.out; omega)
      have O_g1_13 : Hid (Owns 2 v13 v5.heap.size g1_a g1_n g1_c (Ls1)) := O_g1_12.out.keep hg (fun u y hu hy => by have h1 := U_g1.out u hu; have h2 := D_g1.out u hu; have h3 := U_x0.out y hy; have h4 := D_x0.out y hy; have := S0.out; have := S1.out; have := S2.out; have := S3.out; have := S4.out; have := S5.out; have := S6.out; have := S7.out; have := S8.out; have := S9.out; have := S10.out; have := S11.out; omega)
      have O_x0_13 : Hid (Owns 2 v13 v3.heap.size x_x0 len0 len0 (M.marks (1) len0)) := ho
      have HB13 : Hid (Below w.heap.size w v13) := below_mark HB12.out O_x0_12.out (by have := S0.out; have := S1.out; have := S2.out; have := S3.out; have := S4.out; have := S5.out; have := S6.out; have := S7.out; have := S8.out; have := S9.out; have := S10.out; have := S11.out; omega) HB12.out.size hg
      have S12 : Hid (v12.heap.size ≤ v13.heap.size) := hg.size
      clear ho hg
      go_wp2_with fail
      refine (mark_any (1 + (len0 : Int)) _ O_x1_13.out (by omega) (by omega) (by omega)).mono ?_
      rintro e v14 ⟨rfl, ho, hg⟩
      have O_s0_14 : Hid (Owns 2 v14 v2.heap.size s0_a s0_n s0_c (Ls0)) := O_s0_13.out.keep hg (fun u y hu hy => by have h1 := U_s0.out u hu; have h2 := D_s0.out u hu; have h3 := U_x1.out y hy; have h4 := D_x1.out y hy; have := S0.out; have := S1.out; have := S2.out; have := S3.out; have := S4.out; have := S5.out; have := S6.out; have := S7.out; have := S8.out; have := S9.out; have := S10.out; have := S11.out; have := S12.out; omega)
      have O_s1_14 : Hid (Owns 2 v14 v2.heap.size s1_a s1_n s1_c (Ls1)) := O_s1_13.out.keep hg (fun u y hu hy => by have h1 := U_s1.out u hu; have h2 := D_s1.out u hu; have h3 := U_x1.out y hy; have h4 := D_x1.out y hy; have := S0.out; have := S1.out; have := S2.out; have := S3.out; have := S4.out; have := S5.out; have := S6.out; have := S7.out; have := S8.out; have := S9.out; have := S10.out; have := S11.out; have := S12.out; omega)
      have O_x0_14 : Hid (Owns 2 v14 v3.heap.size x_x0 len0 len0 (M.marks (1) len0)) := O_x0_13.out.keep hg (fun u y hu hy => by have h1 := U_x0.out u hu; have h2 := D_x0.out u hu; have h3 := U_x1.out y hy; have h4 := D_x1.out y hy; have := S0.out; have := S1.out; have := S2.out; have := S3.out; have := S4.out; have := S5.out; have := S6.out; have := S7.out; have := S8.out; have := S9.out; have := S10.out; have := S11.out; have := S12.out; omega)
      have O_g0_14 : Hid (Owns 2 v14 v5.heap.size g0_a g0_n g0_c (Ls0)) := O_g0_13.out.keep hg (fun u y hu hy => by have h1 := U_g0.out u hu; have h2 := D_g0.out u hu; have h3 := U_x1.out y hy; have h4 := D_x1.out y hy; have := S0.out; have := S1.out; have := S2.out; have := S3.out; have := S4.out; have := S5.out; have := S6.out; have := S7.out; have := S8.out; have := S9.out; have := S10.out; have := S11.out; have := S12.out; omega)
      have O_g1_14 : Hid (Owns 2 v14 v5.heap.size g1_a g1_n g1_c (Ls1)) := O_g1_13.out.keep hg (fun u y hu hy => by have h1 := U_g1.out u hu; have h2 := D_g1.out u hu; have h3 := U_x1.out y hy; have h4 := D_x1.out y hy; have := S0.out; have := S1.out; have := S2.out; have := S3.out; have := S4.out; have := S5.out; have := S6.out; have := S7.out; have := S8.out; have := S9.out; have := S10.out; have := S11.out; have := S12.out; omega)
      have O_x1_14 : Hid (Owns 2 v14 v4.heap.size x_x1 len1 len1 (M.marks (1 + (len0 : Int)) len1)) := ho
      have HB14 : Hid (Below w.heap.size w v14) := below_mark HB13.out O_x1_13.out (by have := S0.out; have := S1.out; have := S2.out; have := S3.out; have := S4.out; have := S5.out; have := S6.out; have := S7.out; have := S8.out; have := S9.out; have := S10.out; have := S11.out; have := S12.out; omega) HB13.out.size hg
      have S13 : Hid (v13.heap.size ≤ v14.heap.size) := hg.size
      clear ho hg
      go_wp2_with fail
      refine (eqS_yes _ O_g0_14.out.sees O_s0_14.out.sees).mono ?_
      rintro e v15 ⟨rfl, hbl⟩
      have O_s0_15 : Hid (Owns 2 v15 v2.heap.size s0_a s0_n s0_c (Ls0)) := O_s0_14.out.below hbl
      have O_s1_15 : Hid (Owns 2 v15 v2.heap.size s1_a s1_n s1_c (Ls1)) := O_s1_14.out.below hbl
      have O_g0_15 : Hid (Owns 2 v15 v5.heap.size g0_a g0_n g0_c (Ls0)) := O_g0_14.out.below hbl
      have O_g1_15 : Hid (Owns 2 v15 v5.heap.size g1_a g1_n g1_c (Ls1)) := O_g1_14.out.below hbl
      have HB15 : Hid (Below w.heap.size w v15) := HB14.out.trans (hbl.mono HB14.out.size)
      have S14 : Hid (v14.heap.size ≤ v15.heap.size) := hbl.size
      clear hbl 
      go_wp2_with fail
      refine (eqS_yes _ O_g1_15.out.sees O_s1_15.out.sees).mono ?_
      rintro e v16 ⟨rfl, hbl⟩
      have O_s0_16 : Hid (Owns 2 v16 v2.heap.size s0_a s0_n s0_c (Ls0)) := O_s0_15.out.below hbl
      have O_s1_16 : Hid (Owns 2 v16 v2.heap.size s1_a s1_n s1_c (Ls1)) := O_s1_15.out.below hbl
      have O_g0_16 : Hid (Owns 2 v16 v5.heap.size g0_a g0_n g0_c (Ls0)) := O_g0_15.out.below hbl
      have O_g1_16 : Hid (Owns 2 v16 v5.heap.size g1_a g1_n g1_c (Ls1)) := O_g1_15.out.below hbl
      have HB16 : Hid (Below w.heap.size w v16) := HB15.out.trans (hbl.mono HB15.out.size)
      have S15 : Hid (v15.heap.size ≤ v16.heap.size) := hbl.size
      clear hbl 
      go_wp2_with fail
      refine (mark_any (1) _ O_g0_16.out (by omega) (by omega) (by omega)).mono ?_
      rintro e v17 ⟨rfl, ho, hg⟩
      have O_s0_17 : Hid (Owns 2 v17 v2.heap.size s0_a s0_n s0_c (Ls0)) := O_s0_16.out.keep hg (fun u y hu hy => by have h1 := U_s0.out u hu; have h2 := D_s0.out u hu; have h3 := U_g0.out y hy; have h4 := D_g0.out y hy; have := S0.out; have := S1.out; have := S2.out; have := S3.out; have := S4.out; have := S5.out; have := S6.out; have := S7.out; have := S8.out; have := S9.out; have := S10.out; have := S11.out; have := S12.out; have := S13.out; have := S14.out; have := S15.out; omega)
      have O_s1_17 : Hid (Owns 2 v17 v2.heap.size s1_a s1_n s1_c (Ls1)) := O_s1_16.out.keep hg (fun u y hu hy => by have h1 := U_s1.out u hu; have h2 := D_s1.out u hu; have h3 := U_g0.out y hy; have h4 := D_g0.out y hy; have := S0.out; have := S1.out; have := S2.out; have := S3.out; have := S4.out; have := S5.out; have := S6.out; have := S7.out; have := S8.out; have := S9.out; have := S10.out; have := S11.out; have := S12.out; have := S13.out; have := S14.out; have := S15.out; omega)
      have O_g1_17 : Hid (Owns 2 v17 v5.heap.size g1_a g1_n g1_c (Ls1)) := O_g1_16.out.keep hg (fun u y hu hy => (fun e => DIS_g.out y u hy hu e.symm))
      have O_g0_17 : Hid (Owns 2 v17 v5.heap.size g0_a g0_n g0_c (M.marks (1) g0_n)) := ho
      have HB17 : Hid (Below w.heap.size w v17) := below_mark HB16.out O_g0_16.out (by have := S0.out; have := S1.out; have := S2.out; have := S3.out; have := S4.out; have := S5.out; have := S6.out; have := S7.out; have := S8.out; have := S9.out; have := S10.out; have := S11.out; have := S12.out; have := S13.out; have := S14.out; have := S15.out; omega) HB16.out.size hg
      have S16 : Hid (v16.heap.size ≤ v17.heap.size) := hg.size
      clear ho hg
      go_wp2_with fail
      refine (mark_any (1 + (g0_n : Int)) _ O_g1_17.out (by omega) (by omega) (by omega)).mono ?_
      rintro e v18 ⟨rfl, ho, hg⟩
      have O_s0_18 : Hid (Owns 2 v18 v2.heap.size s0_a s0_n s0_c (Ls0)) := O_s0_17.out.keep hg (fun u y hu hy => by have h1 := U_s0.out u hu; have h2 := D_s0.out u hu; have h3 := U_g1.out y hy; have h4 := D_g1.out y hy; have := S0.out; have := S1.out; have := S2.out; have := S3.out; have := S4.out; have := S5.out; have := S6.out; have := S7.out; have := S8.out; have := S9.out; have := S10.out; have := S11.out; have := S12.out; have := S13.out; have := S14.out; have := S15.out; have := S16.out; omega)
      have O_s1_18 : Hid (Owns 2 v18 v2.heap.size s1_a s1_n s1_c (Ls1)) := O_s1_17.out.keep hg (fun u y hu hy => by have h1 := U_s1.out u hu; have h2 := D_s1.out u hu; have h3 := U_g1.out y hy; have h4 := D_g1.out y hy; have := S0.out; have := S1.out; have := S2.out; have := S3.out; have := S4.out; have := S5.out; have := S6.out; have := S7.out; have := S8.out; have := S9.out; have := S10.out; have := S11.out; have := S12.out; have := S13.out; have := S14.out; have := S15.out; have := S16.out; omega)
      have O_g0_18 : Hid (Owns 2 v18 v5.heap.size g0_a g0_n g0_c (M.marks (1) g0_n)) := O_g0_17.out.keep hg (fun u y hu hy => DIS_g.out u y hu hy)
      have O_g1_18 : Hid (Owns 2 v18 v5.heap.size g1_a g1_n g1_c (M.marks (1 + (g0_n : Int)) g1_n)) := ho
      have HB18 : Hid (Below w.heap.size w v18) := below_mark HB17.out O_g1_17.out (by have := S0.out; have := S1.out; have := S2.out; have := S3.out; have := S4.out; have := S5.out; have := S6.out; have := S7.out; have := S8.out; have := S9.out; have := S10.out; have := S11.out; have := S12.out; have := S13.out; have := S14.out; have := S15.out; have := S16.out; omega) HB17.out.size hg
      have S17 : Hid (v17.heap.size ≤ v18.heap.size) := hg.size
      clear ho hg
      have nq : ((1 + (g0_n : Int) + (g1_n : Int) : Int) != 1 + (g0_n : Int) + (g1_n : Int)) = false := by simp
      go_wp2_with fail
      refine (held_any (1) _ O_g0_18.out.sees (by omega) (by omega) (by omega)).mono ?_
      rintro e v18 ⟨rfl, rfl⟩
      go_wp2_with fail
      refine (held_any (1 + (g0_n : Int)) _ O_g1_18.out.sees (by omega) (by omega) (by omega)).mono ?_
      rintro e v18 ⟨rfl, rfl⟩
      go_wp2_with fail
      refine (toS_any _ (HZ0.out.below HB18.out) hn0).mono ?_
      rintro e v19 ⟨x_q0, rfl, ho_q0, hbl⟩
      have O_s0_19 : Hid (Owns 2 v19 v2.heap.size s0_a s0_n s0_c (Ls0)) := O_s0_18.out.below hbl
      have O_s1_19 : Hid (Owns 2 v19 v2.heap.size s1_a s1_n s1_c (Ls1)) := O_s1_18.out.below hbl
      have O_g0_19 : Hid (Owns 2 v19 v5.heap.size g0_a g0_n g0_c (M.marks (1) g0_n)) := O_g0_18.out.below hbl
      have O_g1_19 : Hid (Owns 2 v19 v5.heap.size g1_a g1_n g1_c (M.marks (1 + (g0_n : Int)) g1_n)) := O_g1_18.out.below hbl
      have O_q0_19 : Hid (Owns 2 v19 v18.heap.size x_q0 len0 len0 (zs0)) := ho_q0
      have U_q0 : Hid (∀ u, x_q0 = some u → u.block < v19.heap.size) := O_q0_19.out.hi
      have D_q0 : Hid (∀ u, x_q0 = some u → v18.heap.size ≤ u.block) := O_q0_19.out.lo
      have HB19 : Hid (Below w.heap.size w v19) := HB18.out.trans (hbl.mono HB18.out.size)
      have S18 : Hid (v18.heap.size ≤ v19.heap.size) := hbl.size
      clear hbl ho_q0
      go_wp2_with fail
      refine (toS_any _ (HZ1.out.below HB19.out) hn1).mono ?_
      rintro e v20 ⟨x_q1, rfl, ho_q1, hbl⟩
      have O_s0_20 : Hid (Owns 2 v20 v2.heap.size s0_a s0_n s0_c (Ls0)) := O_s0_19.out.below hbl
      have O_s1_20 : Hid (Owns 2 v20 v2.heap.size s1_a s1_n s1_c (Ls1)) := O_s1_19.out.below hbl
      have O_g0_20 : Hid (Owns 2 v20 v5.heap.size g0_a g0_n g0_c (M.marks (1) g0_n)) := O_g0_19.out.below hbl
      have O_g1_20 : Hid (Owns 2 v20 v5.heap.size g1_a g1_n g1_c (M.marks (1 + (g0_n : Int)) g1_n)) := O_g1_19.out.below hbl
      have O_q0_20 : Hid (Owns 2 v20 v18.heap.size x_q0 len0 len0 (zs0)) := O_q0_19.out.below hbl
      have O_q1_20 : Hid (Owns 2 v20 v19.heap.size x_q1 len1 len1 (zs1)) := ho_q1
      have U_q1 : Hid (∀ u, x_q1 = some u → u.block < v20.heap.size) := O_q1_20.out.hi
      have D_q1 : Hid (∀ u, x_q1 = some u → v19.heap.size ≤ u.block) := O_q1_20.out.lo
      have HB20 : Hid (Below w.heap.size w v20) := HB19.out.trans (hbl.mono HB19.out.size)
      have S19 : Hid (v19.heap.size ≤ v20.heap.size) := hbl.size
      clear hbl ho_q1
      go_wp2_with fail
      refine (implDivided_any _ O_q0_20.out.sees O_q1_20.out.sees).mono ?_
      rintro e v21 ⟨h0_a, h0_n, h0_c, h1_a, h1_n, h1_c, Lh0, Lh1, rfl, hl_h0, hl_h1, hdr_h, ho_h0, ho_h1, dis_h, hbl⟩
      obtain ⟨e_0, e_1⟩ := M.divRes_unique hdr_h HDR.out
      rw [e_0] at ho_h0
      rw [e_1] at ho_h1
      clear hdr_h e_0 e_1
      have O_s0_21 : Hid (Owns 2 v21 v2.heap.size s0_a s0_n s0_c (Ls0)) := O_s0_20.out.below hbl
      have O_s1_21 : Hid (Owns 2 v21 v2.heap.size s1_a s1_n s1_c (Ls1)) := O_s1_20.out.below hbl
      have O_g0_21 : Hid (Owns 2 v21 v5.heap.size g0_a g0_n g0_c (M.marks (1) g0_n)) := O_g0_20.out.below hbl
      have O_g1_21 : Hid (Owns 2 v21 v5.heap.size g1_a g1_n g1_c (M.marks (1 + (g0_n : Int)) g1_n)) := O_g1_20.out.below hbl
      have O_q0_21 : Hid (Owns 2 v21 v18.heap.size x_q0 len0 len0 (zs0)) := O_q0_20.out.below hbl
      have O_q1_21 : Hid (Owns 2 v21 v19.heap.size x_q1 len1 len1 (zs1)) := O_q1_20.out.below hbl
      have O_h0_21 : Hid (Owns 2 v21 v20.heap.size h0_a h0_n h0_c (Ls0)) := ho_h0
      have U_h0 : Hid (∀ u, h0_a = some u → u.block < v21.heap.size) := O_h0_21.out.hi
      have D_h0 : Hid (∀ u, h0_a = some u → v20.heap.size ≤ u.block) := O_h0_21.out.lo
      have O_h1_21 : Hid (Owns 2 v21 v20.heap.size h1_a h1_n h1_c (Ls1)) := ho_h1
      have U_h1 : Hid (∀ u, h1_a = some u → u.block < v21.heap.size) := O_h1_21.out.hi
      have D_h1 : Hid (∀ u, h1_a = some u → v20.heap.size ≤ u.block) := O_h1_21.out.lo
      have HB21 : Hid (Below w.heap.size w v21) := HB20.out.trans (hbl.mono HB20.out.size)
      have S20 : Hid (v20.heap.size ≤ v21.heap.size) := hbl.size
      clear hbl ho_h0 ho_h1
      have DIS_h : Hid (∀ u y, h0_a = some u → h1_a = some y → u.block ≠ y.block) := dis_h
      clear dis_h
      go_wp2_with fail
      refine (eqS_yes _ O_h0_21.out.sees O_s0_21.out.sees).mono ?_
      rintro e v22 ⟨rfl, hbl⟩
      have O_s0_22 : Hid (Owns 2 v22 v2.heap.size s0_a s0_n s0_c (Ls0)) := O_s0_21.out.below hbl
      have O_s1_22 : Hid (Owns 2 v22 v2.heap.size s1_a s1_n s1_c (Ls1)) := O_s1_21.out.below hbl
      have O_g0_22 : Hid (Owns 2 v22 v5.heap.size g0_a g0_n g0_c (M.marks (1) g0_n)) := O_g0_21.out.below hbl
      have O_g1_22 : Hid (Owns 2 v22 v5.heap.size g1_a g1_n g1_c (M.marks (1 + (g0_n : Int)) g1_n)) := O_g1_21.out.below hbl
      have O_h0_22 : Hid (Owns 2 v22 v20.heap.size h0_a h0_n h0_c (Ls0)) := O_h0_21.out.below hbl
      have O_h1_22 : Hid (Owns 2 v22 v20.heap.size h1_a h1_n h1_c (Ls1)) := O_h1_21.out.below hbl
      have HB22 : Hid (Below w.heap.size w v22) := HB21.out.trans (hbl.mono HB21.out.size)
      have S21 : Hid (v21.heap.size ≤ v22.heap.size) := hbl.size
      clear hbl 
      go_wp2_with fail
      refine (eqS_yes _ O_h1_22.out.sees O_s1_22.out.sees).mono ?_
      rintro e v23 ⟨rfl, hbl⟩
      have O_s0_23 : Hid (Owns 2 v23 v2.heap.size s0_a s0_n s0_c (Ls0)) := O_s0_22.out.below hbl
      have O_s1_23 : Hid (Owns 2 v23 v2.heap.size s1_a s1_n s1_c (Ls1)) := O_s1_22.out.below hbl
      have O_g0_23 : Hid (Owns 2 v23 v5.heap.size g0_a g0_n g0_c (M.marks (1) g0_n)) := O_g0_22.out.below hbl
      have O_g1_23 : Hid (Owns 2 v23 v5.heap.size g1_a g1_n g1_c (M.marks (1 + (g0_n : Int)) g1_n)) := O_g1_22.out.below hbl
      have O_h0_23 : Hid (Owns 2 v23 v20.heap.size h0_a h0_n h0_c (Ls0)) := O_h0_22.out.below hbl
      have O_h1_23 : Hid (Owns 2 v23 v20.heap.size h1_a h1_n h1_c (Ls1)) := O_h1_22.out.below hbl
      have HB23 : Hid (Below w.heap.size w v23) := HB22.out.trans (hbl.mono HB22.out.size)
      have S22 : Hid (v22.heap.size ≤ v23.heap.size) := hbl.size
      clear hbl 
      go_wp2_with fail
      refine (held_any (1) _ O_g0_23.out.sees (by omega) (by omega) (by omega)).mono ?_
      rintro e v23 ⟨rfl, rfl⟩
      go_wp2_with fail
      refine (held_any (1 + (g0_n : Int)) _ O_g1_23.out.sees (by omega) (by omega) (by omega)).mono ?_
      rintro e v23 ⟨rfl, rfl⟩
      go_wp2
      go_ret
      exact ⟨rfl, HB23.out⟩

set_option maxRecDepth 100000 in
theorem lifted (os : Os) (started : os.Started) (H : Type) (enc : TypeId × Value → H) :
    ReturnsInHanded {} Try.checked os 5 .any (Rows.fnExactDividedSpec.pre6 enc Try.prog Try.f5 Rows.fnExactDividedRow.domain false) (Rows.fnExactDividedSpec.post enc Try.prog Try.f5 false true false false) := by
  refine returnsInHanded_of_change (C := Try.checked) own started (by kernel_rfl) Try.func5
    (ChangeSpec.witness6 (enc := enc) (C := Try.checked) false ⟨#[], #[.slice none 0 0, .slice none 0 0], []⟩ 8 (by kernel_rfl) (by kernel_rfl) (by kernel_rfl) (by kernel_rfl)) ?_
  intro W base args ds gs before hval0 hW hcnd _
  have hval : ∀ (j : Nat) t v, Try.f5.params[j]? = some t → args[j]? = some v → Value.okWide Try.prog W .any base t v := hval0
  have hW' := hW
  obtain ⟨p, q, hA0, hV, rfl, hfz, hnd⟩ := hW
  have hA : DataW.TrodAll enc Try.prog W 0 (fun _ => true) true Try.f5.params.toList args.toList ds p := hA0
  rw [Try.params5] at hA hval
  obtain ⟨v0, vs0, d0, ds0, p0, q0, hargs, rfl, rfl, h0, r0⟩ := trodAll_cons hA
  obtain ⟨v1, vs1, d1, ds1, p1, q1, rfl, rfl, rfl, h1, r1⟩ := trodAll_cons r0
  obtain ⟨rfl, rfl, rfl⟩ := trodAll_nil r1
  obtain rfl : args = #[v0, v1] := by cases args; simp_all
  obtain ⟨rfl, rfl⟩ := trodVars_none hV
  obtain ⟨a0, len0, cap0, rfl⟩ := okWide_slice Try.underlying22 (hval 0 22 v0 rfl rfl)
  have k0 := h0
  have lt0 : ∀ x ∈ p0, x.block < W.heap.size := by obtain ⟨m, hm⟩ := k0; exact DataW.trod_lt m _ _ _ hm
  obtain ⟨z0, w0⟩ : ∃ zs, IsRow .i64 W a0 len0 cap0 zs := by
    obtain ⟨fuel, hf⟩ := h0
    rcases open_ints Try.underlying22 Try.underlying2 (by kernel_rfl) hf with ⟨hcs, _⟩ | ⟨x, l, c, zs, hcs, _, hl, hm, hz, _, hcell, hwz⟩
    · simp [Value.cells] at hcs
      obtain ⟨rfl, rfl, rfl⟩ := hcs
      exact ⟨[], .inl ⟨rfl, rfl, rfl, rfl⟩⟩
    · simp [Value.cells] at hcs
      obtain ⟨rfl, rfl, rfl⟩ := hcs
      exact ⟨zs, .inr ⟨_, rfl, hl, hm, by simpa using hz, hcell, hwz⟩⟩
  obtain ⟨a1, len1, cap1, rfl⟩ := okWide_slice Try.underlying22 (hval 1 22 v1 rfl rfl)
  have k1 := h1
  have lt1 : ∀ x ∈ p1, x.block < W.heap.size := by obtain ⟨m, hm⟩ := k1; exact DataW.trod_lt m _ _ _ hm
  obtain ⟨z1, w1⟩ : ∃ zs, IsRow .i64 W a1 len1 cap1 zs := by
    obtain ⟨fuel, hf⟩ := h1
    rcases open_ints Try.underlying22 Try.underlying2 (by kernel_rfl) hf with ⟨hcs, _⟩ | ⟨x, l, c, zs, hcs, _, hl, hm, hz, _, hcell, hwz⟩
    · simp [Value.cells] at hcs
      obtain ⟨rfl, rfl, rfl⟩ := hcs
      exact ⟨[], .inl ⟨rfl, rfl, rfl, rfl⟩⟩
    · simp [Value.cells] at hcs
      obtain ⟨rfl, rfl, rfl⟩ := hcs
      exact ⟨zs, .inr ⟨_, rfl, hl, hm, by simpa using hz, hcell, hwz⟩⟩
  clear hA0 hval0
  refine (walk a0 len0 cap0 z0 a1 len1 cap1 z1 W w0 w1).mono fun e W' ⟨he, bel⟩ => ?_
  subst he
  exact ⟨_, rfl, _, _, _, [], _, [], hW', trodAll_mk1 (shut_bool Try.underlying4 _), (trodAll_cons_mk (Below.trod laidOut (by kernel_rfl) (of_decide_eq_true (by kernel_rfl)) k0 bel lt0) (trodAll_cons_mk (Below.trod laidOut (by kernel_rfl) (of_decide_eq_true (by kernel_rfl)) k1 bel lt1) trodAll_mk0)), rfl, bel.frame _, fun h => by cases h⟩

theorem over : Rows.fnExactDividedRow.holds Try.pinned (OpenSpec.ofChange Rows.fnExactDividedSpec) :=
  OpenClaim.holds_of_wide 5 Try.f5 rfl rfl rfl rfl rfl rfl rfl ⟨rfl, rfl, rfl, rfl, rfl⟩ rfl rfl rfl rfl rfl (by kernel_rfl) Try.func5 (by kernel_rfl)
    (of_decide_eq_true (by kernel_rfl)) (by unfold Func.isWrapper; first | (rw [if_pos (by decide +kernel)]; kernel_rfl) | (rw [if_neg (by decide +kernel)]; exact ⟨rfl, rfl⟩))
    (fun os started H enc _ => lifted os started H enc)

theorem proved : Rows.FnExactDividedSaid := over
end Go.Proofs.Ytjeoenieoejolag.fnExactDivided
namespace Go.Proofs.Ytjeoenieoejolag
theorem fnExactDivided_holds : Rows.FnExactDividedSaid := fnExactDivided.proved
#print axioms fnExactDivided_holds
end Go.Proofs.Ytjeoenieoejolag
