/- For every code the law FnTwoFolds returns true: drawn values are those of a polynomial with at most so many coefficients just where two unlike folds of them are those of ones with at most half as many; with no condition. -/
import Derived.Test.YtjeoenieoejolabRows
import Derived.WalkKit
import Derived.ProofKit
import Derived.OpenShut
import Derived.ShutString
import Derived.ChangeOld
import Derived.Below
import Derived.Test.YtjeoenieoejolabFoLaw
import Derived.Test.YtjeoenieoejolabSlS
import Derived.Test.YtjeoenieoejolabRdA
namespace Go.Proofs.Ytjeoenieoejolab.fnTwoFolds
open Go.ChangeShapes Go.WideShapes Go.ChangeAt Go.RowKit
open Go.ChangeMaps (open_string shut_string)
set_option linter.unusedVariables false

theorem own : ownKnob Try.prog.godebug = none := by kernel_rfl
theorem laidOut : laidOutB Try.prog = true := by kernel_rfl

def IsRow (k : IntKind) (w : World) (a : Option Addr) (len cap : Nat) (zs : List Int) : Prop :=
  (a = none ∧ len = 0 ∧ cap = 0 ∧ zs = []) ∨
  ∃ x, a = some x ∧ len ≤ cap ∧ cap ≤ maxLen ∧ zs.length = cap ∧ (∀ i, i < zs.length → w.cell? (x.add i) = some (.int k (zs.getD i 0))) ∧ ∀ n ∈ zs, (Lit.int k n).wf = true

set_option maxHeartbeats 8000000 in
set_option maxRecDepth 100000 in
theorem walk (a0 : Option Addr) (len0 cap0 : Nat) (z0 : List Int) (w : World) (w0 : IsRow .u8 w a0 len0 cap0 z0) :
    Calls Try.prog 7 #[.slice a0 len0 cap0] w fun e w' => e = .returned (.bool true) ∧ Below w.heap.size w w' := by
  have hrow : Row .u8 w a0 len0 cap0 z0 := w0
  clear w0
  by_cases hbig : (1048576 : Int) < (len0 : Int)
  · go_enter Try.func7, Try.ntmps7
    go_wp2_with fail
    refine (big_any _ _ _ _).mono ?_
    rintro e w' ⟨rfl, rfl⟩
    go_wp2
    go_ret
    exact ⟨rfl, Below.refl _ _⟩
  · have HR : Hid (Row .u8 w a0 len0 cap0 z0) := hrow
    have hb : decide ((1048576 : Int) < (len0 : Int)) = false := by simpa using hbig
    clear hrow
    go_enter Try.func7, Try.ntmps7
    go_wp2_with fail
    refine (big_any _ _ _ _).mono ?_
    rintro e w ⟨rfl, rfl⟩
    go_wp2_with fail
    refine (drawBelow_any w HR.out).mono ?_
    rintro e v1 ⟨lb, ln, lc, zs, s, k, hk, rfl, hln, ho_l, hbl⟩
    have O_l_1 : Hid (Owns 2 v1 w.heap.size lb ln lc (zs)) := ho_l
    have HB1 : Hid (Below w.heap.size w v1) := hbl
    clear hbl ho_l
    go_wp2_with fail
    refine (implBelow_any s (k : Int) _ O_l_1.out.sees).mono ?_
    rintro e v2 ⟨rfl, hbl⟩
    have O_l_2 : Hid (Owns 2 v2 w.heap.size lb ln lc (zs)) := O_l_1.out.below hbl
    have HB2 : Hid (Below w.heap.size w v2) := HB1.out.trans (hbl.mono HB1.out.size)
    clear hbl
    have nf : (M.blw zs s (k : Int) != M.blw zs s (k : Int)) = false := by simp
    have ef : (M.blw zs s (k : Int) == M.blw zs s (k : Int)) = true := by simp
    by_cases hodd : k % 2 = 1
    · have r1 : ((k : Int) % 2 == 1) = true := by simp; omega
      have r2 : ((k : Int).tmod 2 == 1) = true := by rw [Int.tmod_eq_emod_of_nonneg (by omega)]; exact r1
      go_wp2_with fail
      refine (specBelow_any s (k : Int) _ O_l_2.out.sees).mono ?_
      rintro e v3 ⟨rfl, hbl⟩
      have O_l_3 : Hid (Owns 2 v3 w.heap.size lb ln lc (zs)) := O_l_2.out.below hbl
      have HB3 : Hid (Below w.heap.size w v3) := HB2.out.trans (hbl.mono HB2.out.size)
      clear hbl
      go_wp2_with fail
      refine (specBelow_any s (k : Int) _ O_l_3.out.sees).mono ?_
      rintro e v4 ⟨rfl, hbl⟩
      have O_l_4 : Hid (Owns 2 v4 w.heap.size lb ln lc (zs)) := O_l_3.out.below hbl
      have HB4 : Hid (Below w.heap.size w v4) := HB3.out.trans (hbl.mono HB3.out.size)
      clear hbl
      go_wp2
      go_ret
      exact ⟨rfl, HB4.out⟩
    · have r1 : ((k : Int) % 2 == 1) = false := by simp; omega
      have r2 : ((k : Int).tmod 2 == 1) = false := by rw [Int.tmod_eq_emod_of_nonneg (by omega)]; exact r1
      have r3 : decide ((k : Int) < 0) = false := decide_eq_false (by omega)
      by_cases hlen : ln < 2
      · have r4 : (ln : Int) < 2 := by omega
        go_wp2_with fail
        refine (specBelow_any s (k : Int) _ O_l_2.out.sees).mono ?_
        rintro e v3 ⟨rfl, hbl⟩
        have O_l_3 : Hid (Owns 2 v3 w.heap.size lb ln lc (zs)) := O_l_2.out.below hbl
        have HB3 : Hid (Below w.heap.size w v3) := HB2.out.trans (hbl.mono HB2.out.size)
        clear hbl
        go_wp2_with fail
        refine (specBelow_any s (k : Int) _ O_l_3.out.sees).mono ?_
        rintro e v4 ⟨rfl, hbl⟩
        have O_l_4 : Hid (Owns 2 v4 w.heap.size lb ln lc (zs)) := O_l_3.out.below hbl
        have HB4 : Hid (Below w.heap.size w v4) := HB3.out.trans (hbl.mono HB3.out.size)
        clear hbl
        go_wp2
        go_ret
        exact ⟨rfl, HB4.out⟩
      · have r4 : decide ((ln : Int) < 2) = false := decide_eq_false (by omega)
        go_wp2_with fail
        refine (specBelow_any s (k : Int) _ O_l_2.out.sees).mono ?_
        rintro e v3 ⟨rfl, hbl⟩
        have O_l_3 : Hid (Owns 2 v3 w.heap.size lb ln lc (zs)) := O_l_2.out.below hbl
        have HB3 : Hid (Below w.heap.size w v3) := HB2.out.trans (hbl.mono HB2.out.size)
        clear hbl
        obtain ⟨j, hj⟩ : ∃ j, k = 2 * j := ⟨k / 2, by omega⟩
        have t1 : (k : Int) / 2 = (j : Int) := by omega
        have t2 : (k : Int).tdiv 2 = (j : Int) := by rw [Int.tdiv_eq_ediv_of_nonneg (by omega)]; exact t1
        have HJ : Hid (k = 2 * j) := hj
        clear hj
        go_wp2_with fail
        refine (drawFolded_any w _ HR.out HB3.out).mono ?_
        rintro e v4 ⟨db, dn, dc, dl, s2, b, rfl, hdn, ho_d, hbl⟩
        have O_l_4 : Hid (Owns 2 v4 w.heap.size lb ln lc (zs)) := O_l_3.out.below hbl
        have O_d_4 : Hid (Owns 2 v4 w.heap.size db dn dc (dl)) := ho_d.mono HB3.out.size
        have HB4 : Hid (Below w.heap.size w v4) := HB3.out.trans (hbl.mono HB3.out.size)
        clear hbl ho_d
        go_wp2_with fail
        refine (implFolded_any s b _ O_l_4.out.sees).mono ?_
        rintro e v5 ⟨oa, om, oc, rfl, hom, ho_o, hbl⟩
        have O_l_5 : Hid (Owns 2 v5 w.heap.size lb ln lc (zs)) := O_l_4.out.below hbl
        have O_o_5 : Hid (Owns 2 v5 w.heap.size oa om oc (M.fov zs s b)) := ho_o.mono HB4.out.size
        have HB5 : Hid (Below w.heap.size w v5) := HB4.out.trans (hbl.mono HB4.out.size)
        clear hbl ho_o
        go_wp2_with fail
        refine (implAdd_any b 1 _).mono ?_
        rintro e v5 ⟨rfl, rfl⟩
        obtain ⟨c, hc⟩ : ∃ c, M.add b 1 = c := ⟨_, rfl⟩
        rw [hc]
        have HC : Hid (M.add b 1 = c) := hc
        clear hc
        go_wp2_with fail
        refine (implFolded_any s c _ O_l_5.out.sees).mono ?_
        rintro e v6 ⟨pa, pm, pc, rfl, hpm, ho_p, hbl⟩
        have O_l_6 : Hid (Owns 2 v6 w.heap.size lb ln lc (zs)) := O_l_5.out.below hbl
        have O_o_6 : Hid (Owns 2 v6 w.heap.size oa om oc (M.fov zs s b)) := O_o_5.out.below hbl
        have O_p_6 : Hid (Owns 2 v6 w.heap.size pa pm pc (M.fov zs s c)) := ho_p.mono HB5.out.size
        have HB6 : Hid (Below w.heap.size w v6) := HB5.out.trans (hbl.mono HB5.out.size)
        clear hbl ho_p
        cases h1 : M.foOk zs s b with
        | false =>
          go_wp2
          go_ret
          exact ⟨rfl, HB6.out⟩
        | true =>
          cases h2 : M.foOk zs s c with
          | false =>
            go_wp2
            go_ret
            exact ⟨rfl, HB6.out⟩
          | true =>
            have HLT : Hid (M.blw zs s (k : Int) = (M.blw (M.fov zs s b) (M.mul s s) (j : Int) && M.blw (M.fov zs s c) (M.mul s s) (j : Int))) := by
              show _ = _
              rw [HJ.out]
              exact M.law_two h1 h2 (by rw [← HC.out, M.add_in (M.foOk_parts h1).2.2.2 (by decide)]; exact M.cg_mod _)
            clear h1 h2
            go_wp2_with fail
            refine (implMul_any s s _).mono ?_
            rintro e v6 ⟨rfl, rfl⟩
            go_wp2_with fail
            refine (implBelow_any (M.mul s s) (j : Int) _ O_o_6.out.sees).mono ?_
            rintro e v7 ⟨rfl, hbl⟩
            have O_o_7 : Hid (Owns 2 v7 w.heap.size oa om oc (M.fov zs s b)) := O_o_6.out.below hbl
            have O_p_7 : Hid (Owns 2 v7 w.heap.size pa pm pc (M.fov zs s c)) := O_p_6.out.below hbl
            have HB7 : Hid (Below w.heap.size w v7) := HB6.out.trans (hbl.mono HB6.out.size)
            clear hbl
            cases hA : M.blw (M.fov zs s b) (M.mul s s) (j : Int) with
            | false =>
              have hE : M.blw zs s (k : Int) = false := by rw [HLT.out, hA]; rfl
              rw [hE] at nf ef
              rw [hE]
              go_wp2
              go_ret
              exact ⟨rfl, HB7.out⟩
            | true =>
              have hE : M.blw zs s (k : Int) = M.blw (M.fov zs s c) (M.mul s s) (j : Int) := by rw [HLT.out, hA]; rfl
              rw [hE] at nf ef
              rw [hE]
              go_wp2_with fail
              refine (implBelow_any (M.mul s s) (j : Int) _ O_p_7.out.sees).mono ?_
              rintro e v8 ⟨rfl, hbl⟩
              have O_o_8 : Hid (Owns 2 v8 w.heap.size oa om oc (M.fov zs s b)) := O_o_7.out.below hbl
              have O_p_8 : Hid (Owns 2 v8 w.heap.size pa pm pc (M.fov zs s c)) := O_p_7.out.below hbl
              have HB8 : Hid (Below w.heap.size w v8) := HB7.out.trans (hbl.mono HB7.out.size)
              clear hbl
              go_wp2
              go_ret
              exact ⟨rfl, HB8.out⟩

set_option maxRecDepth 100000 in
theorem lifted (os : Os) (started : os.Started) (H : Type) (enc : TypeId × Value → H) :
    ReturnsInHanded {} Try.checked os 7 .any (Rows.fnTwoFoldsSpec.pre6 enc Try.prog Try.f7 Rows.fnTwoFoldsRow.domain false) (Rows.fnTwoFoldsSpec.post enc Try.prog Try.f7 false true false false) := by
  refine returnsInHanded_of_change (C := Try.checked) own started (by kernel_rfl) Try.func7
    (ChangeSpec.witness6 (enc := enc) (C := Try.checked) false ⟨#[], #[.slice none 0 0], []⟩ 8 (by kernel_rfl) (by kernel_rfl) (by kernel_rfl) (by kernel_rfl)) ?_
  intro W base args ds gs before hval0 hW hcnd _
  have hval : ∀ (j : Nat) t v, Try.f7.params[j]? = some t → args[j]? = some v → Value.okWide Try.prog W .any base t v := hval0
  have hW' := hW
  obtain ⟨p, q, hA0, hV, rfl, hfz, hnd⟩ := hW
  have hA : DataW.TrodAll enc Try.prog W 0 (fun _ => true) true Try.f7.params.toList args.toList ds p := hA0
  rw [Try.params7] at hA hval
  obtain ⟨v0, vs0, d0, ds0, p0, q0, hargs, rfl, rfl, h0, r0⟩ := trodAll_cons hA
  obtain ⟨rfl, rfl, rfl⟩ := trodAll_nil r0
  obtain rfl : args = #[v0] := by cases args; simp_all
  obtain ⟨rfl, rfl⟩ := trodVars_none hV
  obtain ⟨a0, len0, cap0, rfl⟩ := okWide_slice Try.underlying22 (hval 0 22 v0 rfl rfl)
  have k0 := h0
  have lt0 : ∀ x ∈ p0, x.block < W.heap.size := by obtain ⟨m, hm⟩ := k0; exact DataW.trod_lt m _ _ _ hm
  obtain ⟨z0, w0⟩ : ∃ zs, IsRow .u8 W a0 len0 cap0 zs := by
    obtain ⟨fuel, hf⟩ := h0
    rcases open_ints Try.underlying22 Try.underlying5 (by kernel_rfl) hf with ⟨hcs, _⟩ | ⟨x, l, c, zs, hcs, _, hl, hm, hz, _, hcell, hwz⟩
    · simp [Value.cells] at hcs
      obtain ⟨rfl, rfl, rfl⟩ := hcs
      exact ⟨[], .inl ⟨rfl, rfl, rfl, rfl⟩⟩
    · simp [Value.cells] at hcs
      obtain ⟨rfl, rfl, rfl⟩ := hcs
      exact ⟨zs, .inr ⟨_, rfl, hl, hm, by simpa using hz, hcell, hwz⟩⟩
  clear hA0 hval0
  refine (walk a0 len0 cap0 z0 W w0).mono fun e W' ⟨he, bel⟩ => ?_
  subst he
  exact ⟨_, rfl, _, _, _, [], _, [], hW', trodAll_mk1 (shut_bool Try.underlying4 _), (trodAll_cons_mk (Below.trod laidOut (by kernel_rfl) (of_decide_eq_true (by kernel_rfl)) k0 bel lt0) trodAll_mk0), rfl, bel.frame _, fun h => by cases h⟩

theorem over : Rows.fnTwoFoldsRow.holds Try.pinned (OpenSpec.ofChange Rows.fnTwoFoldsSpec) :=
  OpenClaim.holds_of_wide 7 Try.f7 rfl rfl rfl rfl rfl rfl rfl ⟨rfl, rfl, rfl, rfl, rfl⟩ rfl rfl rfl rfl rfl (by kernel_rfl) Try.func7 (by kernel_rfl)
    (of_decide_eq_true (by kernel_rfl)) (by unfold Func.isWrapper; first | (rw [if_pos (by decide +kernel)]; kernel_rfl) | (rw [if_neg (by decide +kernel)]; exact ⟨rfl, rfl⟩))
    (fun os started H enc _ => lifted os started H enc)

theorem proved : Rows.FnTwoFoldsSaid := over
end Go.Proofs.Ytjeoenieoejolab.fnTwoFolds
namespace Go.Proofs.Ytjeoenieoejolab
theorem fnTwoFolds_holds : Rows.FnTwoFoldsSaid := fnTwoFolds.proved
#print axioms fnTwoFolds_holds
end Go.Proofs.Ytjeoenieoejolab
