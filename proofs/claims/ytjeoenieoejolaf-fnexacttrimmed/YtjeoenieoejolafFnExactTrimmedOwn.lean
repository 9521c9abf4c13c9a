/- Of every slice of numbers the program's Trimmed answers as its model does, leaves the slice as it was, and its answer owns its memory: the law FnExactTrimmed returns true, with no condition on the input. -/
import Derived.Test.YtjeoenieoejolafRows
import Derived.WalkKit
import Derived.ProofKit
import Derived.OpenShut
import Derived.ShutString
import Derived.ChangeOld
import Derived.Below
import Derived.Test.YtjeoenieoejolafSlF
namespace Go.Proofs.Ytjeoenieoejolaf.fnExactTrimmed
open Go.ChangeShapes Go.WideShapes Go.ChangeAt Go.RowKit
open Go.ChangeMaps (open_string shut_string)
set_option linter.unusedVariables false

theorem own : ownKnob Try.prog.godebug = none := by kernel_rfl
theorem laidOut : laidOutB Try.prog = true := by kernel_rfl

def IsRow (k : IntKind) (w : World) (a : Option Addr) (len cap : Nat) (zs : List Int) : Prop :=
  (a = none ∧ len = 0 ∧ cap = 0 ∧ zs = []) ∨
  ∃ x, a = some x ∧ len ≤ cap ∧ cap ≤ maxLen ∧ zs.length = cap ∧ (∀ i, i < zs.length → w.cell? (x.add i) = some (.int k (zs.getD i 0))) ∧ ∀ n ∈ zs, (Lit.int k n).wf = true

set_option maxHeartbeats 8000000 in
set_option maxRecDepth 100000 in
theorem walk (a0 : Option Addr) (len0 cap0 : Nat) (z0 : List Int) (w : World) (w0 : IsRow .i64 w a0 len0 cap0 z0) :
    Calls Try.prog 7 #[.slice a0 len0 cap0] w fun e w' => e = .returned (.bool true) ∧ Below w.heap.size w w' := by
  have hz : Sees w a0 len0 cap0 (z0.take len0) := sees_of_row w0
  clear w0
  generalize z0.take len0 = zs at hz
  have HZ : Hid (Sees w a0 len0 cap0 zs) := hz
  have bn : (len0 : Int) ≤ 9223372036854775807 := by have := hz.big; have := hz.le; omega
  clear hz
  by_cases hbig : (1048576 : Int) < (len0 : Int)
  · go_enter Try.func7, Try.ntmps7
    go_wp2
    go_ret
    exact ⟨rfl, Below.refl _ _⟩
  · have hb : decide ((1048576 : Int) < (len0 : Int)) = false := by simpa using hbig
    have hn : len0 ≤ 1048576 := by omega
    go_enter Try.func7, Try.ntmps7
    go_wp2_with fail
    refine (toS_any _ HZ.out hn).mono ?_
    rintro e w1 ⟨x1, rfl, ho1, hb1⟩
    have HO1 : Hid (Owns 2 w1 w.heap.size x1 len0 len0 zs) := ho1
    have HB1 : Hid (Below w.heap.size w w1) := hb1
    clear ho1 hb1
    go_wp2_with fail
    refine (specTrimmed_any _ HO1.out.sees).mono ?_
    rintro e w2 ⟨s, sm, sc, rfl, hsm, ho2, hb2⟩
    have HS2 : Hid (Owns 2 w2 w1.heap.size s sm sc (M.trimv zs)) := ho2
    have HB2 : Hid (Below w.heap.size w w2) := HB1.out.trans (hb2.mono HB1.out.size)
    clear ho2 hb2
    go_wp2_with fail
    refine (toS_any _ (HZ.out.below HB2.out) hn).mono ?_
    rintro e w3 ⟨x, rfl, ho3, hb3⟩
    have HX3 : Hid (Owns 2 w3 w2.heap.size x len0 len0 zs) := ho3
    have HS3 : Hid (Owns 2 w3 w1.heap.size s sm sc (M.trimv zs)) := HS2.out.below hb3
    have HB3 : Hid (Below w.heap.size w w3) := HB2.out.trans (hb3.mono HB2.out.size)
    clear ho3 hb3
    go_wp2_with fail
    refine (implTrimmed_any _ HX3.out.sees).mono ?_
    rintro e w4 ⟨g, gm, gc, rfl, hgm, ho4, hb4⟩
    have HG4 : Hid (Owns 2 w4 w3.heap.size g gm gc (M.trimv zs)) := ho4
    have HX4 : Hid (Owns 2 w4 w2.heap.size x len0 len0 zs) := HX3.out.below hb4
    have HS4 : Hid (Owns 2 w4 w1.heap.size s sm sc (M.trimv zs)) := HS3.out.below hb4
    have HB4 : Hid (Below w.heap.size w w4) := HB3.out.trans (hb4.mono HB3.out.size)
    clear ho4 hb4
    go_wp2_with fail
    refine (eqS_same _ HG4.out.sees HS4.out.sees).mono ?_
    rintro e w5' ⟨rfl, k5, rfl⟩
    go_wp2_with fail
    refine (toS_any _ ((HZ.out.below HB4.out).drewN k5) hn).mono ?_
    rintro e w5 ⟨x5, rfl, ho5, hb5⟩
    have hb5' : Below w4.heap.size w4 w5 := (Below.drewN' (Below.refl _ _) k5).trans hb5
    have HT5 : Hid (Owns 2 w5 w4.heap.size x5 len0 len0 zs) := ho5
    have HG5 : Hid (Owns 2 w5 w3.heap.size g gm gc (M.trimv zs)) := HG4.out.below hb5'
    have HX5 : Hid (Owns 2 w5 w2.heap.size x len0 len0 zs) := HX4.out.below hb5'
    have HS5 : Hid (Owns 2 w5 w1.heap.size s sm sc (M.trimv zs)) := HS4.out.below hb5'
    have HB5 : Hid (Below w.heap.size w w5) := HB4.out.trans (hb5'.mono HB4.out.size)
    clear ho5 hb5 hb5'
    go_wp2_with fail
    refine (eqS_same _ HX5.out.sees HT5.out.sees).mono ?_
    rintro e w6' ⟨rfl, k6, rfl⟩
    go_wp2_with fail
    refine (mark_any 1 _ (HX5.out.drewN k6) (by omega) (by omega) (by omega)).mono ?_
    rintro e w6 ⟨rfl, ho6, hg6⟩
    have HSX : Hid (∀ u y, s = some u → x = some y → u.block ≠ y.block) := fun u y hu hy => by
      have h1 := HS2.out.hi u hu; have h2 := HX3.out.lo y hy; omega
    have HGX : Hid (∀ u y, g = some u → x = some y → u.block ≠ y.block) := fun u y hu hy => by
      have h1 := HG4.out.lo u hu; have h2 := HX3.out.hi y hy; omega
    have HSG : Hid (∀ u y, s = some u → g = some y → u.block ≠ y.block) := fun u y hu hy => by
      have h1 := HS3.out.hi u hu; have h2 := HG4.out.lo y hy; omega
    have HG6 : Hid (Owns 2 w6 w3.heap.size g gm gc (M.trimv zs)) := (HG5.out.drewN k6).keep hg6 HGX.out
    have HS6 : Hid (Owns 2 w6 w1.heap.size s sm sc (M.trimv zs)) := (HS5.out.drewN k6).keep hg6 HSX.out
    have HB6 : Hid (Below w.heap.size w w6) := below_mark (Below.drewN' HB5.out k6) (HX5.out.drewN k6) HB2.out.size (HB5.out.size) hg6
    clear ho6 hg6
    go_wp2_with fail
    refine (eqS_same _ HG6.out.sees HS6.out.sees).mono ?_
    rintro e w7' ⟨rfl, k7, rfl⟩
    go_wp2_with fail
    refine (mark_any 1 _ (HG6.out.drewN k7) (by omega) (by omega) (by omega)).mono ?_
    rintro e w7 ⟨rfl, ho7, hg7⟩
    have HG7 : Hid (Owns 2 w7 w3.heap.size g gm gc (M.marks 1 gm)) := ho7
    have HS7 : Hid (Owns 2 w7 w1.heap.size s sm sc (M.trimv zs)) := (HS6.out.drewN k7).keep hg7 HSG.out
    have HB7 : Hid (Below w.heap.size w w7) := below_mark (Below.drewN' HB6.out k7) (HG6.out.drewN k7) HB3.out.size HB6.out.size hg7
    clear ho7 hg7
    have hq : ((1 : Int) + (gm : Int) != 1 + (gm : Int)) = false := by simp
    go_wp2_with fail
    refine (held_any 1 _ HG7.out.sees (by omega) (by omega) (by omega)).mono ?_
    rintro e w7 ⟨rfl, rfl⟩
    go_wp2_with fail
    refine (toS_any _ (HZ.out.below HB7.out) hn).mono ?_
    rintro e w8 ⟨x8, rfl, ho8, hb8⟩
    have HX8 : Hid (Owns 2 w8 w7.heap.size x8 len0 len0 zs) := ho8
    have HG8 : Hid (Owns 2 w8 w3.heap.size g gm gc (M.marks 1 gm)) := HG7.out.below hb8
    have HS8 : Hid (Owns 2 w8 w1.heap.size s sm sc (M.trimv zs)) := HS7.out.below hb8
    have HB8 : Hid (Below w.heap.size w w8) := HB7.out.trans (hb8.mono HB7.out.size)
    clear ho8 hb8
    go_wp2_with fail
    refine (implTrimmed_any _ HX8.out.sees).mono ?_
    rintro e w9 ⟨h9, hm, hc, rfl, hhm, ho9, hb9⟩
    have HH9 : Hid (Owns 2 w9 w8.heap.size h9 hm hc (M.trimv zs)) := ho9
    have HG9 : Hid (Owns 2 w9 w3.heap.size g gm gc (M.marks 1 gm)) := HG8.out.below hb9
    have HS9 : Hid (Owns 2 w9 w1.heap.size s sm sc (M.trimv zs)) := HS8.out.below hb9
    have HB9 : Hid (Below w.heap.size w w9) := HB8.out.trans (hb9.mono HB8.out.size)
    clear ho9 hb9
    go_wp2_with fail
    refine (eqS_same _ HH9.out.sees HS9.out.sees).mono ?_
    rintro e w10 ⟨rfl, k10, rfl⟩
    go_wp2_with fail
    refine (held_any 1 _ (HG9.out.drewN k10).sees (by omega) (by omega) (by omega)).mono ?_
    rintro e w11 ⟨rfl, rfl⟩
    go_wp2
    go_ret
    exact ⟨rfl, Below.drewN' HB9.out k10⟩

set_option maxRecDepth 100000 in
theorem lifted (os : Os) (started : os.Started) (H : Type) (enc : TypeId × Value → H) :
    ReturnsInHanded {} Try.checked os 7 .any (Rows.fnExactTrimmedSpec.pre6 enc Try.prog Try.f7 Rows.fnExactTrimmedRow.domain false) (Rows.fnExactTrimmedSpec.post enc Try.prog Try.f7 false true false false) := by
  refine returnsInHanded_of_change (C := Try.checked) own started (by kernel_rfl) Try.func7
    (ChangeSpec.witness6 (enc := enc) (C := Try.checked) false ⟨#[], #[.slice none 0 0], []⟩ 8 (by kernel_rfl) (by kernel_rfl) (by kernel_rfl) (by kernel_rfl)) ?_
  intro W base args ds gs before hval0 hW hcnd _
  have hval : ∀ (j : Nat) t v, Try.f7.params[j]? = some t → args[j]? = some v → Value.okWide Try.prog W .any base t v := hval0
  have hW' := hW
  obtain ⟨p, q, hA0, hV, rfl, hfz, hnd⟩ := hW
  have hA : DataW.TrodAll enc Try.prog W 0 (fun _ => true) true Try.f7.params.toList args.toList ds p := hA0
  rw [Try.params7] at hA hval
  obtain ⟨v0, vs0, d0, ds0, p0, q0, hargs, rfl, rfl, h0, r0⟩ := trodAll_cons hA
  obtain ⟨rfl, rfl, rfl⟩ := trodAll_nil r0
  obtain rfl : args = #[v0] := by cases args; simp_all
  obtain ⟨rfl, rfl⟩ := trodVars_none hV
  obtain ⟨a0, len0, cap0, rfl⟩ := okWide_slice Try.underlying26 (hval 0 26 v0 rfl rfl)
  have k0 := h0
  have lt0 : ∀ x ∈ p0, x.block < W.heap.size := by obtain ⟨m, hm⟩ := k0; exact DataW.trod_lt m _ _ _ hm
  obtain ⟨z0, w0⟩ : ∃ zs, IsRow .i64 W a0 len0 cap0 zs := by
    obtain ⟨fuel, hf⟩ := h0
    rcases open_ints Try.underlying26 Try.underlying2 (by kernel_rfl) hf with ⟨hcs, _⟩ | ⟨x, l, c, zs, hcs, _, hl, hm, hz, _, hcell, hwz⟩
    · simp [Value.cells] at hcs
      obtain ⟨rfl, rfl, rfl⟩ := hcs
      exact ⟨[], .inl ⟨rfl, rfl, rfl, rfl⟩⟩
    · simp [Value.cells] at hcs
      obtain ⟨rfl, rfl, rfl⟩ := hcs
      exact ⟨zs, .inr ⟨_, rfl, hl, hm, by simpa using hz, hcell, hwz⟩⟩
  clear hA0 hval0
  refine (walk a0 len0 cap0 z0 W w0).mono fun e W' ⟨he, bel⟩ => ?_
  subst he
  exact ⟨_, rfl, _, _, _, [], _, [], hW', trodAll_mk1 (shut_bool Try.underlying4 _), (trodAll_cons_mk (Below.trod laidOut (by kernel_rfl) (of_decide_eq_true (by kernel_rfl)) k0 bel lt0) trodAll_mk0), rfl, bel.frame _, fun h => by cases h⟩

theorem over : Rows.fnExactTrimmedRow.holds Try.pinned (OpenSpec.ofChange Rows.fnExactTrimmedSpec) :=
  OpenClaim.holds_of_wide 7 Try.f7 rfl rfl rfl rfl rfl rfl rfl ⟨rfl, rfl, rfl, rfl, rfl⟩ rfl rfl rfl rfl rfl (by kernel_rfl) Try.func7 (by kernel_rfl)
    (of_decide_eq_true (by kernel_rfl)) (by unfold Func.isWrapper; first | (rw [if_pos (by decide +kernel)]; kernel_rfl) | (rw [if_neg (by decide +kernel)]; exact ⟨rfl, rfl⟩))
    (fun os started H enc _ => lifted os started H enc)

theorem proved : Rows.FnExactTrimmedSaid := over
end Go.Proofs.Ytjeoenieoejolaf.fnExactTrimmed
namespace Go.Proofs.Ytjeoenieoejolaf
theorem fnExactTrimmed_holds : Rows.FnExactTrimmedSaid := fnExactTrimmed.proved
#print axioms fnExactTrimmed_holds
end Go.Proofs.Ytjeoenieoejolaf
