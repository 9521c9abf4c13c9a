/- Values at points lead back to their polynomial, when it has no more coefficients than there are points, and from values one goes to a polynomial that has them; both as the model's: the law FnTransforms returns true at every code, with no condition. -/
import Derived.Test.YtjeoenieoejolabRows
import Derived.WalkKit
import Derived.ProofKit
import Derived.OpenShut
import Derived.ShutString
import Derived.ChangeOld
import Derived.Below
import Derived.Test.YtjeoenieoejolabTrLaw
import Derived.Test.YtjeoenieoejolabRdF
import Derived.Test.YtjeoenieoejolabSlS
import Derived.Test.YtjeoenieoejolabFieldC
namespace Go.Proofs.Ytjeoenieoejolab.fnTransforms
open Go.ChangeShapes Go.WideShapes Go.ChangeAt Go.RowKit
open Go.ChangeMaps (open_string shut_string)
set_option linter.unusedVariables false

theorem own : ownKnob Try.prog.godebug = none := by kernel_rfl
theorem laidOut : laidOutB Try.prog = true := by kernel_rfl

def IsRow (k : IntKind) (w : World) (a : Option Addr) (len cap : Nat) (zs : List Int) : Prop :=
  (a = none ∧ len = 0 ∧ cap = 0 ∧ zs = []) ∨
  ∃ x, a = some x ∧ len ≤ cap ∧ cap ≤ maxLen ∧ zs.length = cap ∧ (∀ i, i < zs.length → w.cell? (x.add i) = some (.int k (zs.getD i 0))) ∧ ∀ n ∈ zs, (Lit.int k n).wf = true

set_option maxHeartbeats 8000000 in
set_option maxRecDepth 100000 in
theorem walk (a0 : Option Addr) (len0 cap0 : Nat) (z0 : List Int) (w : World) (w0 : IsRow .u8 w a0 len0 cap0 z0) :
    Calls Try.prog 3 #[.slice a0 len0 cap0] w fun e w' => e = .returned (.bool true) ∧ Below w.heap.size w w' := by
  have hrow : Row .u8 w a0 len0 cap0 z0 := w0
  clear w0
  by_cases hbig : (1048576 : Int) < (len0 : Int)
  · go_enter Try.func3, Try.ntmps3
    go_wp2_with fail
    refine (big_any _ _ _ _).mono ?_
    rintro e w' ⟨rfl, rfl⟩
    go_wp2
    go_ret
    exact ⟨rfl, Below.refl _ _⟩
  · have HR : Hid (Row .u8 w a0 len0 cap0 z0) := hrow
    have hb : decide ((1048576 : Int) < (len0 : Int)) = false := by simpa using hbig
    clear hrow
    go_enter Try.func3, Try.ntmps3
    go_wp2_with fail
    refine (big_any _ _ _ _).mono ?_
    rintro e w ⟨rfl, rfl⟩
    go_wp2_with fail
    refine (drawEvals_any w _ HR.out (Below.refl _ _)).mono ?_
    rintro e v1 ⟨fb, fn, fc, zs, n, s, n0, n1, s0, s1, rfl, hfn, ho_f, hbl⟩
    have O_f_1 : Hid (Owns 2 v1 w.heap.size fb fn fc (zs)) := ho_f
    have HB1 : Hid (Below w.heap.size w v1) := hbl
    clear hbl ho_f
    go_wp2_with fail
    refine (implEvals_any n s _ O_f_1.out.sees).mono ?_
    rintro e v2 ⟨la, lm, lc, rfl, hlm, ho_l, hbl⟩
    have O_f_2 : Hid (Owns 2 v2 w.heap.size fb fn fc (zs)) := O_f_1.out.below hbl
    have O_l_2 : Hid (Owns 2 v2 w.heap.size la lm lc (M.evv zs n s)) := ho_l.mono HB1.out.size
    have HB2 : Hid (Below w.heap.size w v2) := HB1.out.trans (hbl.mono HB1.out.size)
    clear hbl ho_l
    go_wp2_with fail
    refine (specEvals_any n s _ O_f_2.out.sees).mono ?_
    rintro e v3 ⟨wa, wm, wc, rfl, hwm, ho_w, hbl⟩
    have O_f_3 : Hid (Owns 2 v3 w.heap.size fb fn fc (zs)) := O_f_2.out.below hbl
    have O_l_3 : Hid (Owns 2 v3 w.heap.size la lm lc (M.evv zs n s)) := O_l_2.out.below hbl
    have O_w_3 : Hid (Owns 2 v3 w.heap.size wa wm wc (M.evv zs n s)) := ho_w.mono HB2.out.size
    have HB3 : Hid (Below w.heap.size w v3) := HB2.out.trans (hbl.mono HB2.out.size)
    clear hbl ho_w
    have nf : (M.evOk zs n s != M.evOk zs n s) = false := by simp
    go_wp2_with fail
    refine (sameS_yes _ O_l_3.out.sees O_w_3.out.sees).mono ?_
    rintro e v4 ⟨rfl, hbl⟩
    have O_f_4 : Hid (Owns 2 v4 w.heap.size fb fn fc (zs)) := O_f_3.out.below hbl
    have O_l_4 : Hid (Owns 2 v4 w.heap.size la lm lc (M.evv zs n s)) := O_l_3.out.below hbl
    have O_w_4 : Hid (Owns 2 v4 w.heap.size wa wm wc (M.evv zs n s)) := O_w_3.out.below hbl
    have HB4 : Hid (Below w.heap.size w v4) := HB3.out.trans (hbl.mono HB3.out.size)
    clear hbl
    cases hok : M.evOk zs n s with
    | false =>
      rw [hok] at nf
      go_wp2_with fail
      refine (drawFrom_any w _ HR.out HB4.out).mono ?_
      rintro e v5 ⟨vb, vn, vc, vs, s2, t0, t1, rfl, hvn, ho_v, hbl⟩
      have O_v_5 : Hid (Owns 2 v5 w.heap.size vb vn vc (vs)) := ho_v.mono HB4.out.size
      have HB5 : Hid (Below w.heap.size w v5) := HB4.out.trans (hbl.mono HB4.out.size)
      clear hbl ho_v
      have HVL : Hid (vs.length = vn) := O_v_5.out.len
      go_wp2_with fail
      refine (implFromEvals_any s2 _ O_v_5.out.sees).mono ?_
      rintro e v6 ⟨ga, gm, gc, rfl, hgm, ho_g, hbl⟩
      have O_v_6 : Hid (Owns 2 v6 w.heap.size vb vn vc (vs)) := O_v_5.out.below hbl
      have O_g_6 : Hid (Owns 2 v6 w.heap.size ga gm gc (M.frv vs s2)) := ho_g.mono HB5.out.size
      have HB6 : Hid (Below w.heap.size w v6) := HB5.out.trans (hbl.mono HB5.out.size)
      clear hbl ho_g
      go_wp2_with fail
      refine (specFromEvals_any s2 _ O_v_6.out.sees).mono ?_
      rintro e v7 ⟨ha, hm, hc, rfl, hhm, ho_h, hbl⟩
      have O_v_7 : Hid (Owns 2 v7 w.heap.size vb vn vc (vs)) := O_v_6.out.below hbl
      have O_g_7 : Hid (Owns 2 v7 w.heap.size ga gm gc (M.frv vs s2)) := O_g_6.out.below hbl
      have O_h_7 : Hid (Owns 2 v7 w.heap.size ha hm hc (M.frv vs s2)) := ho_h.mono HB6.out.size
      have HB7 : Hid (Below w.heap.size w v7) := HB6.out.trans (hbl.mono HB6.out.size)
      clear hbl ho_h
      go_wp2_with fail
      refine (implEvals_any (vn : Int) s2 _ O_g_7.out.sees).mono ?_
      rintro e v8 ⟨ka, km, kc, rfl, hkm, ho_k, hbl⟩
      have O_v_8 : Hid (Owns 2 v8 w.heap.size vb vn vc (vs)) := O_v_7.out.below hbl
      have O_g_8 : Hid (Owns 2 v8 w.heap.size ga gm gc (M.frv vs s2)) := O_g_7.out.below hbl
      have O_h_8 : Hid (Owns 2 v8 w.heap.size ha hm hc (M.frv vs s2)) := O_h_7.out.below hbl
      have O_k_8 : Hid (Owns 2 v8 w.heap.size ka km kc (M.evv (M.frv vs s2) vn s2)) := ho_k.mono HB7.out.size
      have HB8 : Hid (Below w.heap.size w v8) := HB7.out.trans (hbl.mono HB7.out.size)
      clear hbl ho_k
      have ef : (M.frOk vs s2 == M.frOk vs s2) = true := by simp
      cases hfr : M.frOk vs s2 with
      | false =>
        rw [hfr] at ef
        go_wp2_with fail
        refine (sameS_yes _ O_g_8.out.sees O_h_8.out.sees).mono ?_
        rintro e v9 ⟨rfl, hbl⟩
        have O_v_9 : Hid (Owns 2 v9 w.heap.size vb vn vc (vs)) := O_v_8.out.below hbl
        have O_g_9 : Hid (Owns 2 v9 w.heap.size ga gm gc (M.frv vs s2)) := O_g_8.out.below hbl
        have O_h_9 : Hid (Owns 2 v9 w.heap.size ha hm hc (M.frv vs s2)) := O_h_8.out.below hbl
        have O_k_9 : Hid (Owns 2 v9 w.heap.size ka km kc (M.evv (M.frv vs s2) vn s2)) := O_k_8.out.below hbl
        have HB9 : Hid (Below w.heap.size w v9) := HB8.out.trans (hbl.mono HB8.out.size)
        clear hbl
        go_wp2
        go_ret
        exact ⟨rfl, HB9.out⟩
      | true =>
        have hbk : M.evv (M.frv vs s2) vn s2 = vs := by rw [← HVL.out]; exact M.fr_back hfr
        have O_kk : Hid (Owns 2 v8 w.heap.size ka km kc vs) := by show Owns _ _ _ _ _ _ _; rw [← hbk]; exact O_k_8.out
        clear hbk
        rw [hfr] at ef
        have O_k_8 : Hid (Owns 2 v8 w.heap.size ka km kc vs) := O_kk.out
        go_wp2_with fail
        refine (sameS_yes _ O_g_8.out.sees O_h_8.out.sees).mono ?_
        rintro e v9 ⟨rfl, hbl⟩
        have O_v_9 : Hid (Owns 2 v9 w.heap.size vb vn vc (vs)) := O_v_8.out.below hbl
        have O_g_9 : Hid (Owns 2 v9 w.heap.size ga gm gc (M.frv vs s2)) := O_g_8.out.below hbl
        have O_h_9 : Hid (Owns 2 v9 w.heap.size ha hm hc (M.frv vs s2)) := O_h_8.out.below hbl
        have O_k_9 : Hid (Owns 2 v9 w.heap.size ka km kc (vs)) := O_k_8.out.below hbl
        have HB9 : Hid (Below w.heap.size w v9) := HB8.out.trans (hbl.mono HB8.out.size)
        clear hbl
        go_wp2_with fail
        refine (sameS_yes _ O_k_9.out.sees O_v_9.out.sees).mono ?_
        rintro e v10 ⟨rfl, hbl⟩
        have O_v_10 : Hid (Owns 2 v10 w.heap.size vb vn vc (vs)) := O_v_9.out.below hbl
        have O_g_10 : Hid (Owns 2 v10 w.heap.size ga gm gc (M.frv vs s2)) := O_g_9.out.below hbl
        have O_h_10 : Hid (Owns 2 v10 w.heap.size ha hm hc (M.frv vs s2)) := O_h_9.out.below hbl
        have O_k_10 : Hid (Owns 2 v10 w.heap.size ka km kc (vs)) := O_k_9.out.below hbl
        have HB10 : Hid (Below w.heap.size w v10) := HB9.out.trans (hbl.mono HB9.out.size)
        clear hbl
        go_wp2
        go_ret
        exact ⟨rfl, HB10.out⟩
    | true =>
      rw [hok] at nf
      have HOK : Hid (M.evOk zs n s = true) := hok
      obtain ⟨N, rfl, hN, hN0⟩ := M.ptOk_nat (M.evOk_parts HOK.out).2
      have hlN : lm = N := by rw [← O_l_4.out.len]; exact M.evv_len HOK.out
      subst hlN
      have HAT : Hid (∀ i, i < lm → (M.evv zs lm s).getD i 0 = M.atv zs ((M.ptv lm s).getD i 0)) := fun i hi => M.ev_at HOK.out hi
      have HFO : Hid (M.frOk (M.evv zs lm s) s = true) := M.evs_frOk HOK.out
      have HBK : Hid (zs.length ≤ lm → M.frv (M.evv zs lm s) s = zs) := M.ev_back HOK.out
      go_wp2_with fail
      refine (implPoints_any (lm : Int) s _).mono ?_
      rintro e v5 ⟨xa, xm, xc, rfl, hxm, ho_x, hbl⟩
      have O_f_5 : Hid (Owns 2 v5 w.heap.size fb fn fc (zs)) := O_f_4.out.below hbl
      have O_l_5 : Hid (Owns 2 v5 w.heap.size la lm lc (M.evv zs lm s)) := O_l_4.out.below hbl
      have O_x_5 : Hid (Owns 2 v5 w.heap.size xa xm xc (M.ptv lm s)) := ho_x.mono HB4.out.size
      have HB5 : Hid (Below w.heap.size w v5) := HB4.out.trans (hbl.mono HB4.out.size)
      clear hbl ho_x
      have hxN : xm = lm := by rw [← O_x_5.out.len]; exact M.ptv_len (M.evOk_parts HOK.out).2
      subst hxN
      go_wp2
      go_loopw [11] (fun i wr => ∃ j : Nat, j ≤ xm ∧ i = .int .i64 j ∧ Below v5.heap.size v5 wr) (fun i _ => xm - (intOf i).toNat)
      case atStart => exact ⟨0, by omega, rfl, Below.refl _ _⟩
      case round =>
        obtain ⟨j, hj, rfl, hbr⟩ := hrel
        have HBR : Hid (Below v5.heap.size v5 wr) := hbr
        clear hbr
        by_cases hlt : j < xm
        · obtain ⟨b1, o1, rfl, hc1⟩ := (O_l_5.out.below HBR.out).sees.at (by omega)
          obtain ⟨b2, o2, rfl, hc2⟩ := (O_x_5.out.below HBR.out).sees.at (by omega)
          have d1 := hc1 j hlt
          have d2 := hc2 j hlt
          have hne : ((M.evv zs xm s).getD j 0 != M.atv zs ((M.ptv xm s).getD j 0)) = false := by rw [HAT.out j hlt]; simp
          have HFD : Hid (Sees wr.drew fb fn fc zs) := ((O_f_5.out.below HBR.out).sees.below (Below.refl _ _).drew)
          generalize (M.evv zs xm s).getD j 0 = y at d1 hne
          generalize (M.ptv xm s).getD j 0 = x at d2 hne
          have HCL : Hid (∀ W, Below wr.drew.heap.size wr.drew W → W.cell? ⟨b1, o1 + j, none⟩ = some (.int .i64 y) ∧ W.cell? ⟨b2, o2 + j, none⟩ = some (.int .i64 x)) := fun W hW => by
            have hW' := (Below.refl wr.heap.size wr).drew.trans hW
            exact ⟨(hW'.cell (p := ⟨b1, o1 + j, none⟩) (World.block_lt_of_cell? wr _ d1)).trans d1, (hW'.cell (p := ⟨b2, o2 + j, none⟩) (World.block_lt_of_cell? wr _ d2)).trans d2⟩
          have hI : (j : Int) < (xm : Int) := by omega
          clear hc1 hc2
          go_wp2
          go_region_with ((go_at_call 15; refine (implAt_any x _ HFD.out).mono ?_; rintro e w2 ⟨rfl, hb2⟩; obtain ⟨g1, g2⟩ := HCL.out _ hb2))
          all_goals
            have HB2 : Hid (Below v5.heap.size v5 w2) := HBR.out.drew.trans (hb2.mono HBR.out.size)
            clear hb2 g1 g2
            go_wp2
            go_roundw
            case rel => exact ⟨j + 1, by omega, by go_num, HB2.out⟩
            case measure => simp [intOf] <;> omega
        · have hbl : Below v5.heap.size v5 wr := HBR.out
          have O_f_6 : Hid (Owns 2 wr w.heap.size fb fn fc (zs)) := O_f_5.out.below hbl
          have O_l_6 : Hid (Owns 2 wr w.heap.size la xm lc (M.evv zs xm s)) := O_l_5.out.below hbl
          have HB6 : Hid (Below w.heap.size w wr) := HB5.out.trans (hbl.mono HB5.out.size)
          clear hbl
          have hIe : ¬ (j : Int) < (xm : Int) := by omega
          go_wp2_with fail
          refine (implFromEvals_any s _ O_l_6.out.sees).mono ?_
          rintro e v7 ⟨ga, gm, gc, rfl, hgm, ho_g, hbl⟩
          have O_f_7 : Hid (Owns 2 v7 w.heap.size fb fn fc (zs)) := O_f_6.out.below hbl
          have O_l_7 : Hid (Owns 2 v7 w.heap.size la xm lc (M.evv zs xm s)) := O_l_6.out.below hbl
          have O_g_7 : Hid (Owns 2 v7 w.heap.size ga gm gc (M.frv (M.evv zs xm s) s)) := ho_g.mono HB6.out.size
          have HB7 : Hid (Below w.heap.size w v7) := HB6.out.trans (hbl.mono HB6.out.size)
          clear hbl ho_g
          rw [HFO.out]
          have HFL : Hid (zs.length = fn) := O_f_7.out.len
          by_cases hle : fn ≤ xm
          · have hleI : (fn : Int) ≤ (xm : Int) := by omega
            have O_gg : Hid (Owns 2 v7 w.heap.size ga gm gc zs) := by show Owns _ _ _ _ _ _ _; rw [← HBK.out (by rw [HFL.out]; exact hle)]; exact O_g_7.out
            have O_g_7 : Hid (Owns 2 v7 w.heap.size ga gm gc zs) := O_gg.out
            go_wp2_with fail
            refine (sameS_yes _ O_g_7.out.sees O_f_7.out.sees).mono ?_
            rintro e v8 ⟨rfl, hbl⟩
            have O_f_8 : Hid (Owns 2 v8 w.heap.size fb fn fc (zs)) := O_f_7.out.below hbl
            have O_l_8 : Hid (Owns 2 v8 w.heap.size la xm lc (M.evv zs xm s)) := O_l_7.out.below hbl
            have O_g_8 : Hid (Owns 2 v8 w.heap.size ga gm gc (zs)) := O_g_7.out.below hbl
            have HB8 : Hid (Below w.heap.size w v8) := HB7.out.trans (hbl.mono HB7.out.size)
            clear hbl
            go_wp2_with fail
            refine (drawFrom_any w _ HR.out HB8.out).mono ?_
            rintro e v9 ⟨vb, vn, vc, vs, s2, t0, t1, rfl, hvn, ho_v, hbl⟩
            have O_v_9 : Hid (Owns 2 v9 w.heap.size vb vn vc (vs)) := ho_v.mono HB8.out.size
            have HB9 : Hid (Below w.heap.size w v9) := HB8.out.trans (hbl.mono HB8.out.size)
            clear hbl ho_v
            have HVL : Hid (vs.length = vn) := O_v_9.out.len
            go_wp2_with fail
            refine (implFromEvals_any s2 _ O_v_9.out.sees).mono ?_
            rintro e v10 ⟨ga, gm, gc, rfl, hgm, ho_g, hbl⟩
            have O_v_10 : Hid (Owns 2 v10 w.heap.size vb vn vc (vs)) := O_v_9.out.below hbl
            have O_g_10 : Hid (Owns 2 v10 w.heap.size ga gm gc (M.frv vs s2)) := ho_g.mono HB9.out.size
            have HB10 : Hid (Below w.heap.size w v10) := HB9.out.trans (hbl.mono HB9.out.size)
            clear hbl ho_g
            go_wp2_with fail
            refine (specFromEvals_any s2 _ O_v_10.out.sees).mono ?_
            rintro e v11 ⟨ha, hm, hc, rfl, hhm, ho_h, hbl⟩
            have O_v_11 : Hid (Owns 2 v11 w.heap.size vb vn vc (vs)) := O_v_10.out.below hbl
            have O_g_11 : Hid (Owns 2 v11 w.heap.size ga gm gc (M.frv vs s2)) := O_g_10.out.below hbl
            have O_h_11 : Hid (Owns 2 v11 w.heap.size ha hm hc (M.frv vs s2)) := ho_h.mono HB10.out.size
            have HB11 : Hid (Below w.heap.size w v11) := HB10.out.trans (hbl.mono HB10.out.size)
            clear hbl ho_h
            go_wp2_with fail
            refine (implEvals_any (vn : Int) s2 _ O_g_11.out.sees).mono ?_
            rintro e v12 ⟨ka, km, kc, rfl, hkm, ho_k, hbl⟩
            have O_v_12 : Hid (Owns 2 v12 w.heap.size vb vn vc (vs)) := O_v_11.out.below hbl
            have O_g_12 : Hid (Owns 2 v12 w.heap.size ga gm gc (M.frv vs s2)) := O_g_11.out.below hbl
            have O_h_12 : Hid (Owns 2 v12 w.heap.size ha hm hc (M.frv vs s2)) := O_h_11.out.below hbl
            have O_k_12 : Hid (Owns 2 v12 w.heap.size ka km kc (M.evv (M.frv vs s2) vn s2)) := ho_k.mono HB11.out.size
            have HB12 : Hid (Below w.heap.size w v12) := HB11.out.trans (hbl.mono HB11.out.size)
            clear hbl ho_k
            have ef : (M.frOk vs s2 == M.frOk vs s2) = true := by simp
            cases hfr : M.frOk vs s2 with
            | false =>
              rw [hfr] at ef
              go_wp2_with fail
              refine (sameS_yes _ O_g_12.out.sees O_h_12.out.sees).mono ?_
              rintro e v13 ⟨rfl, hbl⟩
              have O_v_13 : Hid (Owns 2 v13 w.heap.size vb vn vc (vs)) := O_v_12.out.below hbl
              have O_g_13 : Hid (Owns 2 v13 w.heap.size ga gm gc (M.frv vs s2)) := O_g_12.out.below hbl
              have O_h_13 : Hid (Owns 2 v13 w.heap.size ha hm hc (M.frv vs s2)) := O_h_12.out.below hbl
              have O_k_13 : Hid (Owns 2 v13 w.heap.size ka km kc (M.evv (M.frv vs s2) vn s2)) := O_k_12.out.below hbl
              have HB13 : Hid (Below w.heap.size w v13) := HB12.out.trans (hbl.mono HB12.out.size)
              clear hbl
              go_wp2
              go_ret
              exact ⟨rfl, HB13.out⟩
            | true =>
              have hbk : M.evv (M.frv vs s2) vn s2 = vs := by rw [← HVL.out]; exact M.fr_back hfr
              have O_kk : Hid (Owns 2 v12 w.heap.size ka km kc vs) := by show Owns _ _ _ _ _ _ _; rw [← hbk]; exact O_k_12.out
              clear hbk
              rw [hfr] at ef
              have O_k_12 : Hid (Owns 2 v12 w.heap.size ka km kc vs) := O_kk.out
              go_wp2_with fail
              refine (sameS_yes _ O_g_12.out.sees O_h_12.out.sees).mono ?_
              rintro e v13 ⟨rfl, hbl⟩
              have O_v_13 : Hid (Owns 2 v13 w.heap.size vb vn vc (vs)) := O_v_12.out.below hbl
              have O_g_13 : Hid (Owns 2 v13 w.heap.size ga gm gc (M.frv vs s2)) := O_g_12.out.below hbl
              have O_h_13 : Hid (Owns 2 v13 w.heap.size ha hm hc (M.frv vs s2)) := O_h_12.out.below hbl
              have O_k_13 : Hid (Owns 2 v13 w.heap.size ka km kc (vs)) := O_k_12.out.below hbl
              have HB13 : Hid (Below w.heap.size w v13) := HB12.out.trans (hbl.mono HB12.out.size)
              clear hbl
              go_wp2_with fail
              refine (sameS_yes _ O_k_13.out.sees O_v_13.out.sees).mono ?_
              rintro e v14 ⟨rfl, hbl⟩
              have O_v_14 : Hid (Owns 2 v14 w.heap.size vb vn vc (vs)) := O_v_13.out.below hbl
              have O_g_14 : Hid (Owns 2 v14 w.heap.size ga gm gc (M.frv vs s2)) := O_g_13.out.below hbl
              have O_h_14 : Hid (Owns 2 v14 w.heap.size ha hm hc (M.frv vs s2)) := O_h_13.out.below hbl
              have O_k_14 : Hid (Owns 2 v14 w.heap.size ka km kc (vs)) := O_k_13.out.below hbl
              have HB14 : Hid (Below w.heap.size w v14) := HB13.out.trans (hbl.mono HB13.out.size)
              clear hbl
              go_wp2
              go_ret
              exact ⟨rfl, HB14.out⟩
          · have hleI : ¬ (fn : Int) ≤ (xm : Int) := by omega
            have hleD : decide ((fn : Int) ≤ (xm : Int)) = false := by simpa using hleI
            go_wp2_with fail
            refine (drawFrom_any w _ HR.out HB7.out).mono ?_
            rintro e v8 ⟨vb, vn, vc, vs, s2, t0, t1, rfl, hvn, ho_v, hbl⟩
            have O_v_8 : Hid (Owns 2 v8 w.heap.size vb vn vc (vs)) := ho_v.mono HB7.out.size
            have HB8 : Hid (Below w.heap.size w v8) := HB7.out.trans (hbl.mono HB7.out.size)
            clear hbl ho_v
            have HVL : Hid (vs.length = vn) := O_v_8.out.len
            go_wp2_with fail
            refine (implFromEvals_any s2 _ O_v_8.out.sees).mono ?_
            rintro e v9 ⟨ga, gm, gc, rfl, hgm, ho_g, hbl⟩
            have O_v_9 : Hid (Owns 2 v9 w.heap.size vb vn vc (vs)) := O_v_8.out.below hbl
            have O_g_9 : Hid (Owns 2 v9 w.heap.size ga gm gc (M.frv vs s2)) := ho_g.mono HB8.out.size
            have HB9 : Hid (Below w.heap.size w v9) := HB8.out.trans (hbl.mono HB8.out.size)
            clear hbl ho_g
            go_wp2_with fail
            refine (specFromEvals_any s2 _ O_v_9.out.sees).mono ?_
            rintro e v10 ⟨ha, hm, hc, rfl, hhm, ho_h, hbl⟩
            have O_v_10 : Hid (Owns 2 v10 w.heap.size vb vn vc (vs)) := O_v_9.out.below hbl
            have O_g_10 : Hid (Owns 2 v10 w.heap.size ga gm gc (M.frv vs s2)) := O_g_9.out.below hbl
            have O_h_10 : Hid (Owns 2 v10 w.heap.size ha hm hc (M.frv vs s2)) := ho_h.mono HB9.out.size
            have HB10 : Hid (Below w.heap.size w v10) := HB9.out.trans (hbl.mono HB9.out.size)
            clear hbl ho_h
            go_wp2_with fail
            refine (implEvals_any (vn : Int) s2 _ O_g_10.out.sees).mono ?_
            rintro e v11 ⟨ka, km, kc, rfl, hkm, ho_k, hbl⟩
            have O_v_11 : Hid (Owns 2 v11 w.heap.size vb vn vc (vs)) := O_v_10.out.below hbl
            have O_g_11 : Hid (Owns 2 v11 w.heap.size ga gm gc (M.frv vs s2)) := O_g_10.out.below hbl
            have O_h_11 : Hid (Owns 2 v11 w.heap.size ha hm hc (M.frv vs s2)) := O_h_10.out.below hbl
            have O_k_11 : Hid (Owns 2 v11 w.heap.size ka km kc (M.evv (M.frv vs s2) vn s2)) := ho_k.mono HB10.out.size
            have HB11 : Hid (Below w.heap.size w v11) := HB10.out.trans (hbl.mono HB10.out.size)
            clear hbl ho_k
            have ef : (M.frOk vs s2 == M.frOk vs s2) = true := by simp
            cases hfr : M.frOk vs s2 with
            | false =>
              rw [hfr] at ef
              go_wp2_with fail
              refine (sameS_yes _ O_g_11.out.sees O_h_11.out.sees).mono ?_
              rintro e v12 ⟨rfl, hbl⟩
              have O_v_12 : Hid (Owns 2 v12 w.heap.size vb vn vc (vs)) := O_v_11.out.below hbl
              have O_g_12 : Hid (Owns 2 v12 w.heap.size ga gm gc (M.frv vs s2)) := O_g_11.out.below hbl
              have O_h_12 : Hid (Owns 2 v12 w.heap.size ha hm hc (M.frv vs s2)) := O_h_11.out.below hbl
              have O_k_12 : Hid (Owns 2 v12 w.heap.size ka km kc (M.evv (M.frv vs s2) vn s2)) := O_k_11.out.below hbl
              have HB12 : Hid (Below w.heap.size w v12) := HB11.out.trans (hbl.mono HB11.out.size)
              clear hbl
              go_wp2
              go_ret
              exact ⟨rfl, HB12.out⟩
            | true =>
              have hbk : M.evv (M.frv vs s2) vn s2 = vs := by rw [← HVL.out]; exact M.fr_back hfr
              have O_kk : Hid (Owns 2 v11 w.heap.size ka km kc vs) := by show Owns _ _ _ _ _ _ _; rw [← hbk]; exact O_k_11.out
              clear hbk
              rw [hfr] at ef
              have O_k_11 : Hid (Owns 2 v11 w.heap.size ka km kc vs) := O_kk.out
              go_wp2_with fail
              refine (sameS_yes _ O_g_11.out.sees O_h_11.out.sees).mono ?_
              rintro e v12 ⟨rfl, hbl⟩
              have O_v_12 : Hid (Owns 2 v12 w.heap.size vb vn vc (vs)) := O_v_11.out.below hbl
              have O_g_12 : Hid (Owns 2 v12 w.heap.size ga gm gc (M.frv vs s2)) := O_g_11.out.below hbl
              have O_h_12 : Hid (Owns 2 v12 w.heap.size ha hm hc (M.frv vs s2)) := O_h_11.out.below hbl
              have O_k_12 : Hid (Owns 2 v12 w.heap.size ka km kc (vs)) := O_k_11.out.below hbl
              have HB12 : Hid (Below w.heap.size w v12) := HB11.out.trans (hbl.mono HB11.out.size)
              clear hbl
              go_wp2_with fail
              refine (sameS_yes _ O_k_12.out.sees O_v_12.out.sees).mono ?_
              rintro e v13 ⟨rfl, hbl⟩
              have O_v_13 : Hid (Owns 2 v13 w.heap.size vb vn vc (vs)) := O_v_12.out.below hbl
              have O_g_13 : Hid (Owns 2 v13 w.heap.size ga gm gc (M.frv vs s2)) := O_g_12.out.below hbl
              have O_h_13 : Hid (Owns 2 v13 w.heap.size ha hm hc (M.frv vs s2)) := O_h_12.out.below hbl
              have O_k_13 : Hid (Owns 2 v13 w.heap.size ka km kc (vs)) := O_k_12.out.below hbl
              have HB13 : Hid (Below w.heap.size w v13) := HB12.out.trans (hbl.mono HB12.out.size)
              clear hbl
              go_wp2
              go_ret
              exact ⟨rfl, HB13.out⟩

set_option maxRecDepth 100000 in
theorem lifted (os : Os) (started : os.Started) (H : Type) (enc : TypeId × Value → H) :
    ReturnsInHanded {} Try.checked os 3 .any (Rows.fnTransformsSpec.pre6 enc Try.prog Try.f3 Rows.fnTransformsRow.domain false) (Rows.fnTransformsSpec.post enc Try.prog Try.f3 false true false false) := by
  refine returnsInHanded_of_change (C := Try.checked) own started (by kernel_rfl) Try.func3
    (ChangeSpec.witness6 (enc := enc) (C := Try.checked) false ⟨#[], #[.slice none 0 0], []⟩ 8 (by kernel_rfl) (by kernel_rfl) (by kernel_rfl) (by kernel_rfl)) ?_
  intro W base args ds gs before hval0 hW hcnd _
  have hval : ∀ (j : Nat) t v, Try.f3.params[j]? = some t → args[j]? = some v → Value.okWide Try.prog W .any base t v := hval0
  have hW' := hW
  obtain ⟨p, q, hA0, hV, rfl, hfz, hnd⟩ := hW
  have hA : DataW.TrodAll enc Try.prog W 0 (fun _ => true) true Try.f3.params.toList args.toList ds p := hA0
  rw [Try.params3] at hA hval
  obtain ⟨v0, vs0, d0, ds0, p0, q0, hargs, rfl, rfl, h0, r0⟩ := trodAll_cons hA
  obtain ⟨rfl, rfl, rfl⟩ := trodAll_nil r0
  obtain rfl : args = #[v0] := by cases args; simp_all
  obtain ⟨rfl, rfl⟩ := trodVars_none hV
  obtain ⟨a0, len0, cap0, rfl⟩ := okWide_slice Try.underlying22 (hval 0 22 v0 rfl rfl)
  have k0 := h0
  have lt0 : ∀ x ∈ p0, x.block < W.heap.size := by obtain ⟨m, hm⟩ := k0; exact DataW.trod_lt m _ _ _ hm
  obtain ⟨z0, w0⟩ : ∃ zs, IsRow .u8 W a0 len0 cap0 zs := by
    obtain ⟨fuel, hf⟩ := h0
    rcases open_ints Try.underlying22 Try.underlying5 (by kernel_rfl) hf with ⟨hcs, _⟩ | ⟨x, l, c, zs, hcs, _, hl, hm, hz, _, hcell, hwz⟩
    · simp [Value.cells] at hcs
      obtain ⟨rfl, rfl, rfl⟩ := hcs
      exact ⟨[], .inl ⟨rfl, rfl, rfl, rfl⟩⟩
    · simp [Value.cells] at hcs
      obtain ⟨rfl, rfl, rfl⟩ := hcs
      exact ⟨zs, .inr ⟨_, rfl, hl, hm, by simpa using hz, hcell, hwz⟩⟩
  clear hA0 hval0
  refine (walk a0 len0 cap0 z0 W w0).mono fun e W' ⟨he, bel⟩ => ?_
  subst he
  exact ⟨_, rfl, _, _, _, [], _, [], hW', trodAll_mk1 (shut_bool Try.underlying4 _), (trodAll_cons_mk (Below.trod laidOut (by kernel_rfl) (of_decide_eq_true (by kernel_rfl)) k0 bel lt0) trodAll_mk0), rfl, bel.frame _, fun h => by cases h⟩

theorem over : Rows.fnTransformsRow.holds Try.pinned (OpenSpec.ofChange Rows.fnTransformsSpec) :=
  OpenClaim.holds_of_wide 3 Try.f3 rfl rfl rfl rfl rfl rfl rfl ⟨rfl, rfl, rfl, rfl, rfl⟩ rfl rfl rfl rfl rfl (by kernel_rfl) Try.func3 (by kernel_rfl)
    (of_decide_eq_true (by kernel_rfl)) (by unfold Func.isWrapper; first | (rw [if_pos (by decide +kernel)]; kernel_rfl) | (rw [if_neg (by decide +kernel)]; exact ⟨rfl, rfl⟩))
    (fun os started H enc _ => lifted os started H enc)

theorem proved : Rows.FnTransformsSaid := over
end Go.Proofs.Ytjeoenieoejolab.fnTransforms
namespace Go.Proofs.Ytjeoenieoejolab
theorem fnTransforms_holds : Rows.FnTransformsSaid := fnTransforms.proved
#print axioms fnTransforms_holds
end Go.Proofs.Ytjeoenieoejolab
