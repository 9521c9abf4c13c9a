/- A drawn polynomial is, at each element x, its even half at the square and x times its odd half at the square; both halves are as the model's, and polynomials: the law FnHalves returns true at every code, with no condition. -/
import Derived.Test.YtjeoenieoejolabRows
import Derived.WalkKit
import Derived.ProofKit
import Derived.OpenShut
import Derived.ShutString
import Derived.ChangeOld
import Derived.Below
import Derived.Test.YtjeoenieoejolabHvLaw
import Derived.Test.YtjeoenieoejolabRdF
import Derived.Test.YtjeoenieoejolabSlS
import Derived.Test.YtjeoenieoejolabFieldC
namespace Go.Proofs.Ytjeoenieoejolab.fnHalves
open Go.ChangeShapes Go.WideShapes Go.ChangeAt Go.RowKit
open Go.ChangeMaps (open_string shut_string)
set_option linter.unusedVariables false

theorem own : ownKnob Try.prog.godebug = none := by kernel_rfl
theorem laidOut : laidOutB Try.prog = true := by kernel_rfl

def IsRow (k : IntKind) (w : World) (a : Option Addr) (len cap : Nat) (zs : List Int) : Prop :=
  (a = none ∧ len = 0 ∧ cap = 0 ∧ zs = []) ∨
  ∃ x, a = some x ∧ len ≤ cap ∧ cap ≤ maxLen ∧ zs.length = cap ∧ (∀ i, i < zs.length → w.cell? (x.add i) = some (.int k (zs.getD i 0))) ∧ ∀ n ∈ zs, (Lit.int k n).wf = true

set_option maxHeartbeats 8000000 in
set_option maxRecDepth 100000 in
theorem walk (a0 : Option Addr) (len0 cap0 : Nat) (z0 : List Int) (w : World) (w0 : IsRow .u8 w a0 len0 cap0 z0) :
    Calls Try.prog 5 #[.slice a0 len0 cap0] w fun e w' => e = .returned (.bool true) ∧ Below w.heap.size w w' := by
  have hrow : Row .u8 w a0 len0 cap0 z0 := w0
  clear w0
  by_cases hbig : (1048576 : Int) < (len0 : Int)
  · go_enter Try.func5, Try.ntmps5
    go_wp2_with fail
    refine (big_any _ _ _ _).mono ?_
    rintro e w' ⟨rfl, rfl⟩
    go_wp2
    go_ret
    exact ⟨rfl, Below.refl _ _⟩
  · have HR : Hid (Row .u8 w a0 len0 cap0 z0) := hrow
    have hb : decide ((1048576 : Int) < (len0 : Int)) = false := by simpa using hbig
    clear hrow
    go_enter Try.func5, Try.ntmps5
    go_wp2_with fail
    refine (big_any _ _ _ _).mono ?_
    rintro e w ⟨rfl, rfl⟩
    go_wp2_with fail
    refine (drawHalves_any w _ HR.out (Below.refl _ _)).mono ?_
    rintro e v1 ⟨fb, fn, fc, zs, rfl, hfn, ho_f, hbl⟩
    have O_f_1 : Hid (Owns 2 v1 w.heap.size fb fn fc (zs)) := ho_f
    have HB1 : Hid (Below w.heap.size w v1) := hbl
    clear hbl ho_f
    go_wp2_with fail
    refine (drawAt_any w _ HR.out HB1.out).mono ?_
    rintro e v2 ⟨db, dn, dc, dl, x, rfl, hdn, ho_d, hbl⟩
    have O_f_2 : Hid (Owns 2 v2 w.heap.size fb fn fc (zs)) := O_f_1.out.below hbl
    have O_d_2 : Hid (Owns 2 v2 w.heap.size db dn dc (dl)) := ho_d.mono HB1.out.size
    have HB2 : Hid (Below w.heap.size w v2) := HB1.out.trans (hbl.mono HB1.out.size)
    clear hbl ho_d
    go_wp2_with fail
    refine (implHalves_any _ O_f_2.out.sees).mono ?_
    rintro e v3 ⟨ga, gn, gc, ha, hn, hc, rfl, hgn, hhn, ho_g, ho_h, hdis, hbl⟩
    clear hdis
    have O_f_3 : Hid (Owns 2 v3 w.heap.size fb fn fc (zs)) := O_f_2.out.below hbl
    have O_g_3 : Hid (Owns 2 v3 w.heap.size ga gn gc (M.hv zs 0)) := ho_g.mono HB2.out.size
    have O_h_3 : Hid (Owns 2 v3 w.heap.size ha hn hc (M.hv zs 1)) := ho_h.mono HB2.out.size
    have HB3 : Hid (Below w.heap.size w v3) := HB2.out.trans (hbl.mono HB2.out.size)
    clear hbl ho_g ho_h
    go_wp2_with fail
    refine (specHalves_any _ O_f_3.out.sees).mono ?_
    rintro e v4 ⟨aa, an, ac, ba, bn, bc, rfl, han, hbn, ho_a, ho_b, hdis, hbl⟩
    clear hdis
    have O_f_4 : Hid (Owns 2 v4 w.heap.size fb fn fc (zs)) := O_f_3.out.below hbl
    have O_g_4 : Hid (Owns 2 v4 w.heap.size ga gn gc (M.hv zs 0)) := O_g_3.out.below hbl
    have O_h_4 : Hid (Owns 2 v4 w.heap.size ha hn hc (M.hv zs 1)) := O_h_3.out.below hbl
    have O_a_4 : Hid (Owns 2 v4 w.heap.size aa an ac (M.hv zs 0)) := ho_a.mono HB3.out.size
    have O_b_4 : Hid (Owns 2 v4 w.heap.size ba bn bc (M.hv zs 1)) := ho_b.mono HB3.out.size
    have HB4 : Hid (Below w.heap.size w v4) := HB3.out.trans (hbl.mono HB3.out.size)
    clear hbl ho_a ho_b
    go_wp2_with fail
    refine (sameS_yes _ O_g_4.out.sees O_a_4.out.sees).mono ?_
    rintro e v5 ⟨rfl, hbl⟩
    have O_f_5 : Hid (Owns 2 v5 w.heap.size fb fn fc (zs)) := O_f_4.out.below hbl
    have O_g_5 : Hid (Owns 2 v5 w.heap.size ga gn gc (M.hv zs 0)) := O_g_4.out.below hbl
    have O_h_5 : Hid (Owns 2 v5 w.heap.size ha hn hc (M.hv zs 1)) := O_h_4.out.below hbl
    have O_a_5 : Hid (Owns 2 v5 w.heap.size aa an ac (M.hv zs 0)) := O_a_4.out.below hbl
    have O_b_5 : Hid (Owns 2 v5 w.heap.size ba bn bc (M.hv zs 1)) := O_b_4.out.below hbl
    have HB5 : Hid (Below w.heap.size w v5) := HB4.out.trans (hbl.mono HB4.out.size)
    clear hbl
    go_wp2_with fail
    refine (sameS_yes _ O_h_5.out.sees O_b_5.out.sees).mono ?_
    rintro e v6 ⟨rfl, hbl⟩
    have O_f_6 : Hid (Owns 2 v6 w.heap.size fb fn fc (zs)) := O_f_5.out.below hbl
    have O_g_6 : Hid (Owns 2 v6 w.heap.size ga gn gc (M.hv zs 0)) := O_g_5.out.below hbl
    have O_h_6 : Hid (Owns 2 v6 w.heap.size ha hn hc (M.hv zs 1)) := O_h_5.out.below hbl
    have O_a_6 : Hid (Owns 2 v6 w.heap.size aa an ac (M.hv zs 0)) := O_a_5.out.below hbl
    have O_b_6 : Hid (Owns 2 v6 w.heap.size ba bn bc (M.hv zs 1)) := O_b_5.out.below hbl
    have HB6 : Hid (Below w.heap.size w v6) := HB5.out.trans (hbl.mono HB5.out.size)
    clear hbl
    cases hok : M.polyOk zs with
    | false =>
      go_wp2_with fail
      refine (specPolyOk_any _ O_f_6.out.sees).mono ?_
      rintro e v6 ⟨rfl, rfl⟩
      go_wp2_with fail
      refine (sameS_yes _ O_g_6.out.sees O_a_6.out.sees).mono ?_
      rintro e v7 ⟨rfl, hbl⟩
      have O_f_7 : Hid (Owns 2 v7 w.heap.size fb fn fc (zs)) := O_f_6.out.below hbl
      have O_g_7 : Hid (Owns 2 v7 w.heap.size ga gn gc (M.hv zs 0)) := O_g_6.out.below hbl
      have O_h_7 : Hid (Owns 2 v7 w.heap.size ha hn hc (M.hv zs 1)) := O_h_6.out.below hbl
      have O_a_7 : Hid (Owns 2 v7 w.heap.size aa an ac (M.hv zs 0)) := O_a_6.out.below hbl
      have O_b_7 : Hid (Owns 2 v7 w.heap.size ba bn bc (M.hv zs 1)) := O_b_6.out.below hbl
      have HB7 : Hid (Below w.heap.size w v7) := HB6.out.trans (hbl.mono HB6.out.size)
      clear hbl
      go_wp2_with fail
      refine (sameS_yes _ O_h_7.out.sees O_b_7.out.sees).mono ?_
      rintro e v8 ⟨rfl, hbl⟩
      have O_f_8 : Hid (Owns 2 v8 w.heap.size fb fn fc (zs)) := O_f_7.out.below hbl
      have O_g_8 : Hid (Owns 2 v8 w.heap.size ga gn gc (M.hv zs 0)) := O_g_7.out.below hbl
      have O_h_8 : Hid (Owns 2 v8 w.heap.size ha hn hc (M.hv zs 1)) := O_h_7.out.below hbl
      have O_a_8 : Hid (Owns 2 v8 w.heap.size aa an ac (M.hv zs 0)) := O_a_7.out.below hbl
      have O_b_8 : Hid (Owns 2 v8 w.heap.size ba bn bc (M.hv zs 1)) := O_b_7.out.below hbl
      have HB8 : Hid (Below w.heap.size w v8) := HB7.out.trans (hbl.mono HB7.out.size)
      clear hbl
      go_wp2
      go_ret
      exact ⟨rfl, HB8.out⟩
    | true =>
      cases hex : M.el x with
      | false =>
        go_wp2_with fail
        refine (specPolyOk_any _ O_f_6.out.sees).mono ?_
        rintro e v6 ⟨rfl, rfl⟩
        go_wp2_with fail
        refine (in_any x _).mono ?_
        rintro e v6 ⟨rfl, rfl⟩
        go_wp2_with fail
        refine (sameS_yes _ O_g_6.out.sees O_a_6.out.sees).mono ?_
        rintro e v7 ⟨rfl, hbl⟩
        have O_f_7 : Hid (Owns 2 v7 w.heap.size fb fn fc (zs)) := O_f_6.out.below hbl
        have O_g_7 : Hid (Owns 2 v7 w.heap.size ga gn gc (M.hv zs 0)) := O_g_6.out.below hbl
        have O_h_7 : Hid (Owns 2 v7 w.heap.size ha hn hc (M.hv zs 1)) := O_h_6.out.below hbl
        have O_a_7 : Hid (Owns 2 v7 w.heap.size aa an ac (M.hv zs 0)) := O_a_6.out.below hbl
        have O_b_7 : Hid (Owns 2 v7 w.heap.size ba bn bc (M.hv zs 1)) := O_b_6.out.below hbl
        have HB7 : Hid (Below w.heap.size w v7) := HB6.out.trans (hbl.mono HB6.out.size)
        clear hbl
        go_wp2_with fail
        refine (sameS_yes _ O_h_7.out.sees O_b_7.out.sees).mono ?_
        rintro e v8 ⟨rfl, hbl⟩
        have O_f_8 : Hid (Owns 2 v8 w.heap.size fb fn fc (zs)) := O_f_7.out.below hbl
        have O_g_8 : Hid (Owns 2 v8 w.heap.size ga gn gc (M.hv zs 0)) := O_g_7.out.below hbl
        have O_h_8 : Hid (Owns 2 v8 w.heap.size ha hn hc (M.hv zs 1)) := O_h_7.out.below hbl
        have O_a_8 : Hid (Owns 2 v8 w.heap.size aa an ac (M.hv zs 0)) := O_a_7.out.below hbl
        have O_b_8 : Hid (Owns 2 v8 w.heap.size ba bn bc (M.hv zs 1)) := O_b_7.out.below hbl
        have HB8 : Hid (Below w.heap.size w v8) := HB7.out.trans (hbl.mono HB7.out.size)
        clear hbl
        go_wp2
        go_ret
        exact ⟨rfl, HB8.out⟩
      | true =>
        have HEQ : Hid (M.atv zs x = M.add (M.atv (M.hv zs 0) (M.mul x x)) (M.mul x (M.atv (M.hv zs 1) (M.mul x x)))) := M.law_halves hok hex
        have HP0 : Hid (M.polyOk (M.hv zs 0) = true) := M.hv_poly hok 0
        have HP1 : Hid (M.polyOk (M.hv zs 1) = true) := M.hv_poly hok 1
        go_wp2_with fail
        refine (specPolyOk_any _ O_f_6.out.sees).mono ?_
        rintro e v6 ⟨rfl, rfl⟩
        go_wp2_with fail
        refine (in_any x _).mono ?_
        rintro e v6 ⟨rfl, rfl⟩
        go_wp2_with fail
        refine (implMul_any x x _).mono ?_
        rintro e v6 ⟨rfl, rfl⟩
        generalize M.mul x x = y at HEQ ⊢
        go_wp2_with fail
        refine (implAt_any x _ O_f_6.out.sees).mono ?_
        rintro e v7 ⟨rfl, hbl⟩
        have O_f_7 : Hid (Owns 2 v7 w.heap.size fb fn fc (zs)) := O_f_6.out.below hbl
        have O_g_7 : Hid (Owns 2 v7 w.heap.size ga gn gc (M.hv zs 0)) := O_g_6.out.below hbl
        have O_h_7 : Hid (Owns 2 v7 w.heap.size ha hn hc (M.hv zs 1)) := O_h_6.out.below hbl
        have O_a_7 : Hid (Owns 2 v7 w.heap.size aa an ac (M.hv zs 0)) := O_a_6.out.below hbl
        have O_b_7 : Hid (Owns 2 v7 w.heap.size ba bn bc (M.hv zs 1)) := O_b_6.out.below hbl
        have HB7 : Hid (Below w.heap.size w v7) := HB6.out.trans (hbl.mono HB6.out.size)
        clear hbl
        go_wp2_with fail
        refine (implAt_any y _ O_g_7.out.sees).mono ?_
        rintro e v8 ⟨rfl, hbl⟩
        have O_f_8 : Hid (Owns 2 v8 w.heap.size fb fn fc (zs)) := O_f_7.out.below hbl
        have O_g_8 : Hid (Owns 2 v8 w.heap.size ga gn gc (M.hv zs 0)) := O_g_7.out.below hbl
        have O_h_8 : Hid (Owns 2 v8 w.heap.size ha hn hc (M.hv zs 1)) := O_h_7.out.below hbl
        have O_a_8 : Hid (Owns 2 v8 w.heap.size aa an ac (M.hv zs 0)) := O_a_7.out.below hbl
        have O_b_8 : Hid (Owns 2 v8 w.heap.size ba bn bc (M.hv zs 1)) := O_b_7.out.below hbl
        have HB8 : Hid (Below w.heap.size w v8) := HB7.out.trans (hbl.mono HB7.out.size)
        clear hbl
        go_wp2_with fail
        refine (implAt_any y _ O_h_8.out.sees).mono ?_
        rintro e v9 ⟨rfl, hbl⟩
        have O_f_9 : Hid (Owns 2 v9 w.heap.size fb fn fc (zs)) := O_f_8.out.below hbl
        have O_g_9 : Hid (Owns 2 v9 w.heap.size ga gn gc (M.hv zs 0)) := O_g_8.out.below hbl
        have O_h_9 : Hid (Owns 2 v9 w.heap.size ha hn hc (M.hv zs 1)) := O_h_8.out.below hbl
        have O_a_9 : Hid (Owns 2 v9 w.heap.size aa an ac (M.hv zs 0)) := O_a_8.out.below hbl
        have O_b_9 : Hid (Owns 2 v9 w.heap.size ba bn bc (M.hv zs 1)) := O_b_8.out.below hbl
        have HB9 : Hid (Below w.heap.size w v9) := HB8.out.trans (hbl.mono HB8.out.size)
        clear hbl
        generalize M.atv zs x = A at HEQ ⊢
        generalize M.atv (M.hv zs 0) y = B at HEQ ⊢
        generalize M.atv (M.hv zs 1) y = C at HEQ ⊢
        go_wp2_with fail
        refine (implMul_any x C _).mono ?_
        rintro e v9 ⟨rfl, rfl⟩
        generalize M.mul x C = D at HEQ ⊢
        go_wp2_with fail
        refine (implAdd_any B D _).mono ?_
        rintro e v9 ⟨rfl, rfl⟩
        have hbq : (A == M.add B D) = true := by rw [HEQ.out]; simp
        go_wp2_with fail
        refine (implPolyOk_any _ O_g_9.out.sees).mono ?_
        rintro e v9 ⟨rfl, rfl⟩
        rw [HP0.out]
        go_wp2_with fail
        refine (implPolyOk_any _ O_h_9.out.sees).mono ?_
        rintro e v9 ⟨rfl, rfl⟩
        rw [HP1.out]
        go_wp2
        go_ret
        exact ⟨rfl, HB9.out⟩

set_option maxRecDepth 100000 in
theorem lifted (os : Os) (started : os.Started) (H : Type) (enc : TypeId × Value → H) :
    ReturnsInHanded {} Try.checked os 5 .any (Rows.fnHalvesSpec.pre6 enc Try.prog Try.f5 Rows.fnHalvesRow.domain false) (Rows.fnHalvesSpec.post enc Try.prog Try.f5 false true false false) := by
  refine returnsInHanded_of_change (C := Try.checked) own started (by kernel_rfl) Try.func5
    (ChangeSpec.witness6 (enc := enc) (C := Try.checked) false ⟨#[], #[.slice none 0 0], []⟩ 8 (by kernel_rfl) (by kernel_rfl) (by kernel_rfl) (by kernel_rfl)) ?_
  intro W base args ds gs before hval0 hW hcnd _
  have hval : ∀ (j : Nat) t v, Try.f5.params[j]? = some t → args[j]? = some v → Value.okWide Try.prog W .any base t v := hval0
  have hW' := hW
  obtain ⟨p, q, hA0, hV, rfl, hfz, hnd⟩ := hW
  have hA : DataW.TrodAll enc Try.prog W 0 (fun _ => true) true Try.f5.params.toList args.toList ds p := hA0
  rw [Try.params5] at hA hval
  obtain ⟨v0, vs0, d0, ds0, p0, q0, hargs, rfl, rfl, h0, r0⟩ := trodAll_cons hA
  obtain ⟨rfl, rfl, rfl⟩ := trodAll_nil r0
  obtain rfl : args = #[v0] := by cases args; simp_all
  obtain ⟨rfl, rfl⟩ := trodVars_none hV
  obtain ⟨a0, len0, cap0, rfl⟩ := okWide_slice Try.underlying22 (hval 0 22 v0 rfl rfl)
  have k0 := h0
  have lt0 : ∀ x ∈ p0, x.block < W.heap.size := by obtain ⟨m, hm⟩ := k0; exact DataW.trod_lt m _ _ _ hm
  obtain ⟨z0, w0⟩ : ∃ zs, IsRow .u8 W a0 len0 cap0 zs := by
    obtain ⟨fuel, hf⟩ := h0
    rcases open_ints Try.underlying22 Try.underlying5 (by kernel_rfl) hf with ⟨hcs, _⟩ | ⟨x, l, c, zs, hcs, _, hl, hm, hz, _, hcell, hwz⟩
    · simp [Value.cells] at hcs
      obtain ⟨rfl, rfl, rfl⟩ := hcs
      exact ⟨[], .inl ⟨rfl, rfl, rfl, rfl⟩⟩
    · simp [Value.cells] at hcs
      obtain ⟨rfl, rfl, rfl⟩ := hcs
      exact ⟨zs, .inr ⟨_, rfl, hl, hm, by simpa using hz, hcell, hwz⟩⟩
  clear hA0 hval0
  refine (walk a0 len0 cap0 z0 W w0).mono fun e W' ⟨he, bel⟩ => ?_
  subst he
  exact ⟨_, rfl, _, _, _, [], _, [], hW', trodAll_mk1 (shut_bool Try.underlying4 _), (trodAll_cons_mk (Below.trod laidOut (by kernel_rfl) (of_decide_eq_true (by kernel_rfl)) k0 bel lt0) trodAll_mk0), rfl, bel.frame _, fun h => by cases h⟩

theorem over : Rows.fnHalvesRow.holds Try.pinned (OpenSpec.ofChange Rows.fnHalvesSpec) :=
  OpenClaim.holds_of_wide 5 Try.f5 rfl rfl rfl rfl rfl rfl rfl ⟨rfl, rfl, rfl, rfl, rfl⟩ rfl rfl rfl rfl rfl (by kernel_rfl) Try.func5 (by kernel_rfl)
    (of_decide_eq_true (by kernel_rfl)) (by unfold Func.isWrapper; first | (rw [if_pos (by decide +kernel)]; kernel_rfl) | (rw [if_neg (by decide +kernel)]; exact ⟨rfl, rfl⟩))
    (fun os started H enc _ => lifted os started H enc)

theorem proved : Rows.FnHalvesSaid := over
end Go.Proofs.Ytjeoenieoejolab.fnHalves
namespace Go.Proofs.Ytjeoenieoejolab
theorem fnHalves_holds : Rows.FnHalvesSaid := fnHalves.proved
#print axioms fnHalves_holds
end Go.Proofs.Ytjeoenieoejolab
