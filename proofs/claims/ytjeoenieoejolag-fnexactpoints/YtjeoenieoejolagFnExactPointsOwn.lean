/- At every two numbers the program's Points answers as its model does, and its answer owns its memory, behind another call too: the law FnExactPoints returns true, with no condition. -/
import Derived.Test.YtjeoenieoejolagRows
import Derived.WalkKit
import Derived.ProofKit
import Derived.OpenShut
import Derived.ShutString
import Derived.ChangeOld
import Derived.Below
import Derived.Test.YtjeoenieoejolagTrA
import Derived.Test.YtjeoenieoejolagSlF
namespace Go.Proofs.Ytjeoenieoejolag.fnExactPoints
open Go.ChangeShapes Go.WideShapes Go.ChangeAt Go.RowKit
open Go.ChangeMaps (open_string shut_string)
set_option linter.unusedVariables false

theorem own : ownKnob Try.prog.godebug = none := by kernel_rfl

set_option maxHeartbeats 8000000 in
set_option maxRecDepth 100000 in
theorem walk (a0 : Int) (a1 : Int) (w0 : (Lit.int .i64 a0).wf = true) (w1 : (Lit.int .i64 a1).wf = true) (w : World) :
    Calls Try.prog 7 #[.int .i64 a0, .int .i64 a1] w fun e w' => e = .returned (.bool true) ∧ Below w.heap.size w w' := by
  clear w0 w1
  go_enter Try.func7, Try.ntmps7
  go_wp2_with fail
  refine (specPoints_any a0 a1 _ ).mono ?_
  rintro e v1 ⟨s0_a, s0_n, s0_c, rfl, hl_s0, ho_s0, hbl⟩
  have O_s0_1 : Hid (Owns 2 v1 w.heap.size s0_a s0_n s0_c (M.ptv a0 a1)) := ho_s0
  have U_s0 : Hid (∀ u, s0_a = some u → u.block < v1.heap.size) := O_s0_1.out.hi
  have D_s0 : Hid (∀ u, s0_a = some u → w.heap.size ≤ u.block) := O_s0_1.out.lo
  have HB1 : Hid (Below w.heap.size w v1) := hbl
  have S0 : Hid (w.heap.size ≤ v1.heap.size) := hbl.size
  clear hbl ho_s0
  go_wp2_with fail
  refine (implPoints_any a0 a1 _ ).mono ?_
  rintro e v2 ⟨g0_a, g0_n, g0_c, rfl, hl_g0, ho_g0, hbl⟩
  have O_s0_2 : Hid (Owns 2 v2 w.heap.size s0_a s0_n s0_c (M.ptv a0 a1)) := O_s0_1.out.below hbl
  have O_g0_2 : Hid (Owns 2 v2 v1.heap.size g0_a g0_n g0_c (M.ptv a0 a1)) := ho_g0
  have U_g0 : Hid (∀ u, g0_a = some u → u.block < v2.heap.size) := O_g0_2.out.hi
  have D_g0 : Hid (∀ u, g0_a = some u → v1.heap.size ≤ u.block) := O_g0_2.out.lo
  have HB2 : Hid (Below w.heap.size w v2) := HB1.out.trans (hbl.mono HB1.out.size)
  have S1 : Hid (v1.heap.size ≤ v2.heap.size) := hbl.size
  clear hbl ho_g0
  go_wp2_with fail
  refine (eqS_yes _ O_g0_2.out.sees O_s0_2.out.sees).mono ?_
  rintro e v3 ⟨rfl, hbl⟩
  have O_s0_3 : Hid (Owns 2 v3 w.heap.size s0_a s0_n s0_c (M.ptv a0 a1)) := O_s0_2.out.below hbl
  have O_g0_3 : Hid (Owns 2 v3 v1.heap.size g0_a g0_n g0_c (M.ptv a0 a1)) := O_g0_2.out.below hbl
  have HB3 : Hid (Below w.heap.size w v3) := HB2.out.trans (hbl.mono HB2.out.size)
  have S2 : Hid (v2.heap.size ≤ v3.heap.size) := hbl.size
  clear hbl 
  go_wp2_with fail
  refine (mark_any (1) _ O_g0_3.out (by omega) (by omega) (by omega)).mono ?_
  rintro e v4 ⟨rfl, ho, hg⟩
  have O_s0_4 : Hid (Owns 2 v4 w.heap.size s0_a s0_n s0_c (M.ptv a0 a1)) := O_s0_3.out.keep hg (fun u y hu hy => by have h1 := U_s0.out u hu; have h2 := D_s0.out u hu; have h3 := U_g0.out y hy; have h4 := D_g0.out y hy; have := S0.out; have := S1.out; have := S2.out; omega)
  have O_g0_4 : Hid (Owns 2 v4 v1.heap.size g0_a g0_n g0_c (M.marks (1) g0_n)) := ho
  have HB4 : Hid (Below w.heap.size w v4) := below_mark HB3.out O_g0_3.out (by have := S0.out; have := S1.out; have := S2.out; omega) HB3.out.size hg
  have S3 : Hid (v3.heap.size ≤ v4.heap.size) := hg.size
  clear ho hg
  have nq : ((1 + (g0_n : Int) : Int) != 1 + (g0_n : Int)) = false := by simp
  go_wp2_with fail
  refine (held_any (1) _ O_g0_4.out.sees (by omega) (by omega) (by omega)).mono ?_
  rintro e v4 ⟨rfl, rfl⟩
  go_wp2_with fail
  refine (implPoints_any a0 a1 _ ).mono ?_
  rintro e v5 ⟨h0_a, h0_n, h0_c, rfl, hl_h0, ho_h0, hbl⟩
  have O_s0_5 : Hid (Owns 2 v5 w.heap.size s0_a s0_n s0_c (M.ptv a0 a1)) := O_s0_4.out.below hbl
  have O_g0_5 : Hid (Owns 2 v5 v1.heap.size g0_a g0_n g0_c (M.marks (1) g0_n)) := O_g0_4.out.below hbl
  have O_h0_5 : Hid (Owns 2 v5 v4.heap.size h0_a h0_n h0_c (M.ptv a0 a1)) := ho_h0
  have U_h0 : Hid (∀ u, h0_a = some u → u.block < v5.heap.size) := O_h0_5.out.hi
  have D_h0 : Hid (∀ u, h0_a = some u → v4.heap.size ≤ u.block) := O_h0_5.out.lo
  have HB5 : Hid (Below w.heap.size w v5) := HB4.out.trans (hbl.mono HB4.out.size)
  have S4 : Hid (v4.heap.size ≤ v5.heap.size) := hbl.size
  clear hbl ho_h0
  go_wp2_with fail
  refine (eqS_yes _ O_h0_5.out.sees O_s0_5.out.sees).mono ?_
  rintro e v6 ⟨rfl, hbl⟩
  have O_s0_6 : Hid (Owns 2 v6 w.heap.size s0_a s0_n s0_c (M.ptv a0 a1)) := O_s0_5.out.below hbl
  have O_g0_6 : Hid (Owns 2 v6 v1.heap.size g0_a g0_n g0_c (M.marks (1) g0_n)) := O_g0_5.out.below hbl
  have O_h0_6 : Hid (Owns 2 v6 v4.heap.size h0_a h0_n h0_c (M.ptv a0 a1)) := O_h0_5.out.below hbl
  have HB6 : Hid (Below w.heap.size w v6) := HB5.out.trans (hbl.mono HB5.out.size)
  have S5 : Hid (v5.heap.size ≤ v6.heap.size) := hbl.size
  clear hbl 
  go_wp2_with fail
  refine (held_any (1) _ O_g0_6.out.sees (by omega) (by omega) (by omega)).mono ?_
  rintro e v6 ⟨rfl, rfl⟩
  go_wp2
  go_ret
  exact ⟨rfl, HB6.out⟩

set_option maxRecDepth 100000 in
theorem lifted (os : Os) (started : os.Started) (H : Type) (enc : TypeId × Value → H) :
    ReturnsInHanded {} Try.checked os 7 .any (Rows.fnExactPointsSpec.pre6 enc Try.prog Try.f7 Rows.fnExactPointsRow.domain false) (Rows.fnExactPointsSpec.post enc Try.prog Try.f7 false true false false) := by
  refine returnsInHanded_of_change (C := Try.checked) own started (by kernel_rfl) Try.func7
    (ChangeSpec.witness6 (enc := enc) (C := Try.checked) false ⟨#[], #[.int .i64 0, .int .i64 0], []⟩ 8 (by kernel_rfl) (by kernel_rfl) (by kernel_rfl) (by kernel_rfl)) ?_
  intro W base args ds gs before hval0 hW hcnd _
  have hval : ∀ (j : Nat) t v, Try.f7.params[j]? = some t → args[j]? = some v → Value.okWide Try.prog W .any base t v := hval0
  have hW' := hW
  obtain ⟨p, q, hA0, hV, rfl, hfz, hnd⟩ := hW
  have hA : DataW.TrodAll enc Try.prog W 0 (fun _ => true) true Try.f7.params.toList args.toList ds p := hA0
  rw [Try.params7] at hA hval
  obtain ⟨v0, vs0, d0, ds0, p0, q0, hargs, rfl, rfl, h0, r0⟩ := trodAll_cons hA
  obtain ⟨v1, vs1, d1, ds1, p1, q1, rfl, rfl, rfl, h1, r1⟩ := trodAll_cons r0
  obtain ⟨rfl, rfl, rfl⟩ := trodAll_nil r1
  obtain rfl : args = #[v0, v1] := by cases args; simp_all
  obtain ⟨rfl, rfl⟩ := trodVars_none hV
  obtain ⟨a0, rfl, rfl, rfl, w0⟩ := open_int Try.underlying2 (hval 0 2 v0 rfl rfl) h0
  obtain ⟨a1, rfl, rfl, rfl, w1⟩ := open_int Try.underlying2 (hval 1 2 v1 rfl rfl) h1
  clear hA0 hval0
  simp only [List.append_nil] at hW'
  refine (walk a0 a1 w0 w1 W).mono fun e W' ⟨he, hg⟩ => ?_
  subst he
  exact ⟨_, rfl, _, _, _, [], _, [], hW', (trodAll_cons_mk (shut_bool Try.underlying4 _) trodAll_mk0), (trodAll_cons_mk (shut_int Try.underlying2 w0) (trodAll_cons_mk (shut_int Try.underlying2 w1) trodAll_mk0)), rfl, hg.frame _, fun h => by cases h⟩

theorem over : Rows.fnExactPointsRow.holds Try.pinned (OpenSpec.ofChange Rows.fnExactPointsSpec) :=
  OpenClaim.holds_of_wide 7 Try.f7 rfl rfl rfl rfl rfl rfl rfl ⟨rfl, rfl, rfl, rfl, rfl⟩ rfl rfl rfl rfl rfl (by kernel_rfl) Try.func7 (by kernel_rfl)
    (of_decide_eq_true (by kernel_rfl)) (by unfold Func.isWrapper; first | (rw [if_pos (by decide +kernel)]; kernel_rfl) | (rw [if_neg (by decide +kernel)]; exact ⟨rfl, rfl⟩))
    (fun os started H enc _ => lifted os started H enc)

theorem proved : Rows.FnExactPointsSaid :=
  over
end Go.Proofs.Ytjeoenieoejolag.fnExactPoints
namespace Go.Proofs.Ytjeoenieoejolag
theorem fnExactPoints_holds : Rows.FnExactPointsSaid := fnExactPoints.proved
#print axioms fnExactPoints_holds
end Go.Proofs.Ytjeoenieoejolag
