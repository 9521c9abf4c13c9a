/- For every code the law FnFolded returns true: a fold of drawn values has the values of the even half and beta times the odd one at the squares; with no condition. -/
import Derived.Test.YtjeoenieoejolabRows
import Derived.WalkKit
import Derived.ProofKit
import Derived.OpenShut
import Derived.ShutString
import Derived.ChangeOld
import Derived.Below
import Derived.Test.YtjeoenieoejolabFoLaw
import Derived.Test.YtjeoenieoejolabSlS
import Derived.Test.YtjeoenieoejolabSlL
import Derived.Test.YtjeoenieoejolabSlF
import Derived.Test.YtjeoenieoejolabRdA
namespace Go.Proofs.Ytjeoenieoejolab.fnFolded
open Go.ChangeShapes Go.WideShapes Go.ChangeAt Go.RowKit
open Go.ChangeMaps (open_string shut_string)
set_option linter.unusedVariables false

theorem own : ownKnob Try.prog.godebug = none := by kernel_rfl
theorem laidOut : laidOutB Try.prog = true := by kernel_rfl

def IsRow (k : IntKind) (w : World) (a : Option Addr) (len cap : Nat) (zs : List Int) : Prop :=
  (a = none ∧ len = 0 ∧ cap = 0 ∧ zs = []) ∨
  ∃ x, a = some x ∧ len ≤ cap ∧ cap ≤ maxLen ∧ zs.length = cap ∧ (∀ i, i < zs.length → w.cell? (x.add i) = some (.int k (zs.getD i 0))) ∧ ∀ n ∈ zs, (Lit.int k n).wf = true

set_option maxHeartbeats 8000000 in
set_option maxRecDepth 100000 in
theorem walk (a0 : Option Addr) (len0 cap0 : Nat) (z0 : List Int) (w : World) (w0 : IsRow .u8 w a0 len0 cap0 z0) :
    Calls Try.prog 6 #[.slice a0 len0 cap0] w fun e w' => e = .returned (.bool true) ∧ Below w.heap.size w w' := by
  have hrow : Row .u8 w a0 len0 cap0 z0 := w0
  clear w0
  by_cases hbig : (1048576 : Int) < (len0 : Int)
  · go_enter Try.func6, Try.ntmps6
    go_wp2_with fail
    refine (big_any _ _ _ _).mono ?_
    rintro e w' ⟨rfl, rfl⟩
    go_wp2
    go_ret
    exact ⟨rfl, Below.refl _ _⟩
  · have HR : Hid (Row .u8 w a0 len0 cap0 z0) := hrow
    have hb : decide ((1048576 : Int) < (len0 : Int)) = false := by simpa using hbig
    clear hrow
    go_enter Try.func6, Try.ntmps6
    go_wp2_with fail
    refine (big_any _ _ _ _).mono ?_
    rintro e w ⟨rfl, rfl⟩
    go_wp2_with fail
    refine (drawFolded_any w _ HR.out (Below.refl _ _)).mono ?_
    rintro e v1 ⟨lb, ln, lc, zs, s, b, rfl, hln, ho_l, hbl⟩
    have O_l_1 : Hid (Owns 2 v1 w.heap.size lb ln lc (zs)) := ho_l
    have HB1 : Hid (Below w.heap.size w v1) := hbl
    clear hbl ho_l
    go_wp2_with fail
    refine (implFolded_any s b _ O_l_1.out.sees).mono ?_
    rintro e v2 ⟨oa, om, oc, rfl, hom, ho_o, hbl⟩
    have O_l_2 : Hid (Owns 2 v2 w.heap.size lb ln lc (zs)) := O_l_1.out.below hbl
    have O_o_2 : Hid (Owns 2 v2 w.heap.size oa om oc (M.fov zs s b)) := ho_o.mono HB1.out.size
    have HB2 : Hid (Below w.heap.size w v2) := HB1.out.trans (hbl.mono HB1.out.size)
    clear hbl ho_o
    go_wp2_with fail
    refine (specFolded_any s b _ O_l_2.out.sees).mono ?_
    rintro e v3 ⟨wa, wm, wc, rfl, hwm, ho_w, hbl⟩
    have O_l_3 : Hid (Owns 2 v3 w.heap.size lb ln lc (zs)) := O_l_2.out.below hbl
    have O_o_3 : Hid (Owns 2 v3 w.heap.size oa om oc (M.fov zs s b)) := O_o_2.out.below hbl
    have O_w_3 : Hid (Owns 2 v3 w.heap.size wa wm wc (M.fov zs s b)) := ho_w.mono HB2.out.size
    have HB3 : Hid (Below w.heap.size w v3) := HB2.out.trans (hbl.mono HB2.out.size)
    clear hbl ho_w
    have nf : (M.foOk zs s b != M.foOk zs s b) = false := by simp
    have ef : (M.foOk zs s b == M.foOk zs s b) = true := by simp
    go_wp2_with fail
    refine (sameS_yes _ O_o_3.out.sees O_w_3.out.sees).mono ?_
    rintro e v4 ⟨rfl, hbl⟩
    have O_l_4 : Hid (Owns 2 v4 w.heap.size lb ln lc (zs)) := O_l_3.out.below hbl
    have O_o_4 : Hid (Owns 2 v4 w.heap.size oa om oc (M.fov zs s b)) := O_o_3.out.below hbl
    have O_w_4 : Hid (Owns 2 v4 w.heap.size wa wm wc (M.fov zs s b)) := O_w_3.out.below hbl
    have HB4 : Hid (Below w.heap.size w v4) := HB3.out.trans (hbl.mono HB3.out.size)
    clear hbl
    cases hok : M.foOk zs s b with
    | false =>
      rw [hok] at nf ef
      go_wp2_with fail
      refine (sameS_yes _ O_o_4.out.sees O_w_4.out.sees).mono ?_
      rintro e v5 ⟨rfl, hbl⟩
      have O_l_5 : Hid (Owns 2 v5 w.heap.size lb ln lc (zs)) := O_l_4.out.below hbl
      have O_o_5 : Hid (Owns 2 v5 w.heap.size oa om oc (M.fov zs s b)) := O_o_4.out.below hbl
      have O_w_5 : Hid (Owns 2 v5 w.heap.size wa wm wc (M.fov zs s b)) := O_w_4.out.below hbl
      have HB5 : Hid (Below w.heap.size w v5) := HB4.out.trans (hbl.mono HB4.out.size)
      clear hbl
      go_wp2
      go_ret
      exact ⟨rfl, HB5.out⟩
    | true =>
      rw [hok] at nf ef
      have HOK : Hid (M.foOk zs s b = true) := hok
      obtain ⟨m, hm⟩ : ∃ m, ln / 2 = m := ⟨_, rfl⟩
      have HLF : Hid (M.evOk (M.addv (M.hv (M.frv zs s) 0) (M.mulv (M.hv (M.frv zs s) 1) (M.trim [b]))) (m : Int) (M.mul s s) = true ∧ M.evv (M.addv (M.hv (M.frv zs s) 0) (M.mulv (M.hv (M.frv zs s) 1) (M.trim [b]))) (m : Int) (M.mul s s) = M.fov zs s b) := by
        have h := M.law_folded hok
        rw [O_l_4.out.len, hm] at h
        rw [← M.fov_in hok] at h
        exact h
      have HTV : Hid (M.trimv [b] = M.trim [b]) := M.trimv_one (M.foOk_parts hok).2.2.2
      have t1 : (ln : Int) / 2 = (m : Int) := by omega
      have t2 : (ln : Int).tdiv 2 = (m : Int) := by rw [Int.tdiv_eq_ediv_of_nonneg (by omega)]; exact t1
      clear hok hm
      go_wp2_with fail
      refine (implFromEvals_any s _ O_l_4.out.sees).mono ?_
      rintro e v5 ⟨fa, fm, fc, rfl, hfm, ho_f, hbl⟩
      have O_l_5 : Hid (Owns 2 v5 w.heap.size lb ln lc (zs)) := O_l_4.out.below hbl
      have O_o_5 : Hid (Owns 2 v5 w.heap.size oa om oc (M.fov zs s b)) := O_o_4.out.below hbl
      have O_f_5 : Hid (Owns 2 v5 w.heap.size fa fm fc (M.frv zs s)) := ho_f.mono HB4.out.size
      have HB5 : Hid (Below w.heap.size w v5) := HB4.out.trans (hbl.mono HB4.out.size)
      clear hbl ho_f
      go_wp2_with fail
      refine (implHalves_any _ O_f_5.out.sees).mono ?_
      rintro e v6 ⟨ga, gn, gc, ha, hn, hc, rfl, hgn, hhn, ho_g, ho_h, hdis, hbl⟩
      clear hdis
      have O_l_6 : Hid (Owns 2 v6 w.heap.size lb ln lc (zs)) := O_l_5.out.below hbl
      have O_o_6 : Hid (Owns 2 v6 w.heap.size oa om oc (M.fov zs s b)) := O_o_5.out.below hbl
      have O_f_6 : Hid (Owns 2 v6 w.heap.size fa fm fc (M.frv zs s)) := O_f_5.out.below hbl
      have O_g_6 : Hid (Owns 2 v6 w.heap.size ga gn gc (M.hv (M.frv zs s) 0)) := ho_g.mono HB5.out.size
      have O_h_6 : Hid (Owns 2 v6 w.heap.size ha hn hc (M.hv (M.frv zs s) 1)) := ho_h.mono HB5.out.size
      have HB6 : Hid (Below w.heap.size w v6) := HB5.out.trans (hbl.mono HB5.out.size)
      clear hbl ho_g ho_h
      have HBA : Hid (Below v6.heap.size v6 (v6.alloc (.cells #[Value.int .i64 b] 2))) := (Below.refl _ _).alloc (Nat.le_refl _) _
      have HSB : Hid (Sees (v6.alloc (.cells #[Value.int .i64 b] 2)) (some ⟨v6.heap.size, 0, none⟩) 1 1 [b]) := sees_one _ _ _
      go_wp2_with fail
      refine (implTrimmed_any _ HSB.out).mono ?_
      rintro e v7 ⟨ta, tm, tc, rfl, htm, ho_t, hbl⟩
      replace hbl := HBA.out.trans (hbl.mono HBA.out.size)
      replace ho_t := ho_t.mono HBA.out.size
      rw [HTV.out] at ho_t
      have O_l_7 : Hid (Owns 2 v7 w.heap.size lb ln lc (zs)) := O_l_6.out.below hbl
      have O_o_7 : Hid (Owns 2 v7 w.heap.size oa om oc (M.fov zs s b)) := O_o_6.out.below hbl
      have O_g_7 : Hid (Owns 2 v7 w.heap.size ga gn gc (M.hv (M.frv zs s) 0)) := O_g_6.out.below hbl
      have O_h_7 : Hid (Owns 2 v7 w.heap.size ha hn hc (M.hv (M.frv zs s) 1)) := O_h_6.out.below hbl
      have O_t_7 : Hid (Owns 2 v7 w.heap.size ta tm tc (M.trim [b])) := ho_t.mono HB6.out.size
      have HB7 : Hid (Below w.heap.size w v7) := HB6.out.trans (hbl.mono HB6.out.size)
      clear hbl ho_t
      go_wp2_with fail
      refine (implPolyMul_any _ O_h_7.out.sees O_t_7.out.sees).mono ?_
      rintro e v8 ⟨ba, bm, bc, rfl, hbm, ho_b, hbl⟩
      have O_l_8 : Hid (Owns 2 v8 w.heap.size lb ln lc (zs)) := O_l_7.out.below hbl
      have O_o_8 : Hid (Owns 2 v8 w.heap.size oa om oc (M.fov zs s b)) := O_o_7.out.below hbl
      have O_g_8 : Hid (Owns 2 v8 w.heap.size ga gn gc (M.hv (M.frv zs s) 0)) := O_g_7.out.below hbl
      have O_h_8 : Hid (Owns 2 v8 w.heap.size ha hn hc (M.hv (M.frv zs s) 1)) := O_h_7.out.below hbl
      have O_t_8 : Hid (Owns 2 v8 w.heap.size ta tm tc (M.trim [b])) := O_t_7.out.below hbl
      have O_b_8 : Hid (Owns 2 v8 w.heap.size ba bm bc (M.mulv (M.hv (M.frv zs s) 1) (M.trim [b]))) := ho_b.mono HB7.out.size
      have HB8 : Hid (Below w.heap.size w v8) := HB7.out.trans (hbl.mono HB7.out.size)
      clear hbl ho_b
      go_wp2_with fail
      refine (implPolyAdd_any _ O_g_8.out.sees O_b_8.out.sees).mono ?_
      rintro e v9 ⟨pa, pm, pc, rfl, hpm, ho_p, hbl⟩
      have O_l_9 : Hid (Owns 2 v9 w.heap.size lb ln lc (zs)) := O_l_8.out.below hbl
      have O_o_9 : Hid (Owns 2 v9 w.heap.size oa om oc (M.fov zs s b)) := O_o_8.out.below hbl
      have O_g_9 : Hid (Owns 2 v9 w.heap.size ga gn gc (M.hv (M.frv zs s) 0)) := O_g_8.out.below hbl
      have O_b_9 : Hid (Owns 2 v9 w.heap.size ba bm bc (M.mulv (M.hv (M.frv zs s) 1) (M.trim [b]))) := O_b_8.out.below hbl
      have O_p_9 : Hid (Owns 2 v9 w.heap.size pa pm pc (M.addv (M.hv (M.frv zs s) 0) (M.mulv (M.hv (M.frv zs s) 1) (M.trim [b])))) := ho_p.mono HB8.out.size
      have HB9 : Hid (Below w.heap.size w v9) := HB8.out.trans (hbl.mono HB8.out.size)
      clear hbl ho_p
      go_wp2_with fail
      refine (implMul_any s s _).mono ?_
      rintro e v9 ⟨rfl, rfl⟩
      go_wp2_with fail
      refine (implEvals_any (m : Int) (M.mul s s) _ O_p_9.out.sees).mono ?_
      rintro e v10 ⟨ea, em, ec, rfl, hem, ho_e, hbl⟩
      rw [HLF.out.2] at ho_e
      have O_l_10 : Hid (Owns 2 v10 w.heap.size lb ln lc (zs)) := O_l_9.out.below hbl
      have O_o_10 : Hid (Owns 2 v10 w.heap.size oa om oc (M.fov zs s b)) := O_o_9.out.below hbl
      have O_g_10 : Hid (Owns 2 v10 w.heap.size ga gn gc (M.hv (M.frv zs s) 0)) := O_g_9.out.below hbl
      have O_b_10 : Hid (Owns 2 v10 w.heap.size ba bm bc (M.mulv (M.hv (M.frv zs s) 1) (M.trim [b]))) := O_b_9.out.below hbl
      have O_p_10 : Hid (Owns 2 v10 w.heap.size pa pm pc (M.addv (M.hv (M.frv zs s) 0) (M.mulv (M.hv (M.frv zs s) 1) (M.trim [b])))) := O_p_9.out.below hbl
      have O_e_10 : Hid (Owns 2 v10 w.heap.size ea em ec (M.fov zs s b)) := ho_e.mono HB9.out.size
      have HB10 : Hid (Below w.heap.size w v10) := HB9.out.trans (hbl.mono HB9.out.size)
      clear hbl ho_e
      rw [HLF.out.1]
      go_wp2_with fail
      refine (sameS_yes _ O_o_10.out.sees O_e_10.out.sees).mono ?_
      rintro e v11 ⟨rfl, hbl⟩
      have O_l_11 : Hid (Owns 2 v11 w.heap.size lb ln lc (zs)) := O_l_10.out.below hbl
      have O_o_11 : Hid (Owns 2 v11 w.heap.size oa om oc (M.fov zs s b)) := O_o_10.out.below hbl
      have O_g_11 : Hid (Owns 2 v11 w.heap.size ga gn gc (M.hv (M.frv zs s) 0)) := O_g_10.out.below hbl
      have O_b_11 : Hid (Owns 2 v11 w.heap.size ba bm bc (M.mulv (M.hv (M.frv zs s) 1) (M.trim [b]))) := O_b_10.out.below hbl
      have O_p_11 : Hid (Owns 2 v11 w.heap.size pa pm pc (M.addv (M.hv (M.frv zs s) 0) (M.mulv (M.hv (M.frv zs s) 1) (M.trim [b])))) := O_p_10.out.below hbl
      have O_e_11 : Hid (Owns 2 v11 w.heap.size ea em ec (M.fov zs s b)) := O_e_10.out.below hbl
      have HB11 : Hid (Below w.heap.size w v11) := HB10.out.trans (hbl.mono HB10.out.size)
      clear hbl
      go_wp2
      go_ret
      exact ⟨rfl, HB11.out⟩

set_option maxRecDepth 100000 in
theorem lifted (os : Os) (started : os.Started) (H : Type) (enc : TypeId × Value → H) :
    ReturnsInHanded {} Try.checked os 6 .any (Rows.fnFoldedSpec.pre6 enc Try.prog Try.f6 Rows.fnFoldedRow.domain false) (Rows.fnFoldedSpec.post enc Try.prog Try.f6 false true false false) := by
  refine returnsInHanded_of_change (C := Try.checked) own started (by kernel_rfl) Try.func6
    (ChangeSpec.witness6 (enc := enc) (C := Try.checked) false ⟨#[], #[.slice none 0 0], []⟩ 8 (by kernel_rfl) (by kernel_rfl) (by kernel_rfl) (by kernel_rfl)) ?_
  intro W base args ds gs before hval0 hW hcnd _
  have hval : ∀ (j : Nat) t v, Try.f6.params[j]? = some t → args[j]? = some v → Value.okWide Try.prog W .any base t v := hval0
  have hW' := hW
  obtain ⟨p, q, hA0, hV, rfl, hfz, hnd⟩ := hW
  have hA : DataW.TrodAll enc Try.prog W 0 (fun _ => true) true Try.f6.params.toList args.toList ds p := hA0
  rw [Try.params6] at hA hval
  obtain ⟨v0, vs0, d0, ds0, p0, q0, hargs, rfl, rfl, h0, r0⟩ := trodAll_cons hA
  obtain ⟨rfl, rfl, rfl⟩ := trodAll_nil r0
  obtain rfl : args = #[v0] := by cases args; simp_all
  obtain ⟨rfl, rfl⟩ := trodVars_none hV
  obtain ⟨a0, len0, cap0, rfl⟩ := okWide_slice Try.underlying22 (hval 0 22 v0 rfl rfl)
  have k0 := h0
  have lt0 : ∀ x ∈ p0, x.block < W.heap.size := by obtain ⟨m, hm⟩ := k0; exact DataW.trod_lt m _ _ _ hm
  obtain ⟨z0, w0⟩ : ∃ zs, IsRow .u8 W a0 len0 cap0 zs := by
    obtain ⟨fuel, hf⟩ := h0
    rcases open_ints Try.underlying22 Try.underlying5 (by kernel_rfl) hf with ⟨hcs, _⟩ | ⟨x, l, c, zs, hcs, _, hl, hm, hz, _, hcell, hwz⟩
    · simp [Value.cells] at hcs
      obtain ⟨rfl, rfl, rfl⟩ := hcs
      exact ⟨[], .inl ⟨rfl, rfl, rfl, rfl⟩⟩
    · simp [Value.cells] at hcs
      obtain ⟨rfl, rfl, rfl⟩ := hcs
      exact ⟨zs, .inr ⟨_, rfl, hl, hm, by simpa using hz, hcell, hwz⟩⟩
  clear hA0 hval0
  refine (walk a0 len0 cap0 z0 W w0).mono fun e W' ⟨he, bel⟩ => ?_
  subst he
  exact ⟨_, rfl, _, _, _, [], _, [], hW', trodAll_mk1 (shut_bool Try.underlying4 _), (trodAll_cons_mk (Below.trod laidOut (by kernel_rfl) (of_decide_eq_true (by kernel_rfl)) k0 bel lt0) trodAll_mk0), rfl, bel.frame _, fun h => by cases h⟩

theorem over : Rows.fnFoldedRow.holds Try.pinned (OpenSpec.ofChange Rows.fnFoldedSpec) :=
  OpenClaim.holds_of_wide 6 Try.f6 rfl rfl rfl rfl rfl rfl rfl ⟨rfl, rfl, rfl, rfl, rfl⟩ rfl rfl rfl rfl rfl (by kernel_rfl) Try.func6 (by kernel_rfl)
    (of_decide_eq_true (by kernel_rfl)) (by unfold Func.isWrapper; first | (rw [if_pos (by decide +kernel)]; kernel_rfl) | (rw [if_neg (by decide +kernel)]; exact ⟨rfl, rfl⟩))
    (fun os started H enc _ => lifted os started H enc)

theorem proved : Rows.FnFoldedSaid := over
end Go.Proofs.Ytjeoenieoejolab.fnFolded
namespace Go.Proofs.Ytjeoenieoejolab
theorem fnFolded_holds : Rows.FnFoldedSaid := fnFolded.proved
#print axioms fnFolded_holds
end Go.Proofs.Ytjeoenieoejolab
