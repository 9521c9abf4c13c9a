/- For every code that is handed in the law FnDivided returns true: what is divided is the quotient times that by which it is, and a rest that is shorter, with no condition on the input. -/
import Derived.Test.YtjeoenieoejolaaRows
import Derived.WalkKit
import Derived.ProofKit
import Derived.OpenShut
import Derived.ShutString
import Derived.ChangeOld
import Derived.Below
import Derived.Test.YtjeoenieoejolaaRdE
import Derived.Test.YtjeoenieoejolaaSlS
import Derived.Test.YtjeoenieoejolaaDivLaw
import Derived.Test.YtjeoenieoejolaaSlP
namespace Go.Proofs.Ytjeoenieoejolaa.fnDivided
open Go.ChangeShapes Go.WideShapes Go.ChangeAt Go.RowKit
open Go.ChangeMaps (open_string shut_string)
set_option linter.unusedVariables false

theorem own : ownKnob Try.prog.godebug = none := by kernel_rfl
theorem laidOut : laidOutB Try.prog = true := by kernel_rfl

def IsRow (k : IntKind) (w : World) (a : Option Addr) (len cap : Nat) (zs : List Int) : Prop :=
  (a = none ∧ len = 0 ∧ cap = 0 ∧ zs = []) ∨
  ∃ x, a = some x ∧ len ≤ cap ∧ cap ≤ maxLen ∧ zs.length = cap ∧ (∀ i, i < zs.length → w.cell? (x.add i) = some (.int k (zs.getD i 0))) ∧ ∀ n ∈ zs, (Lit.int k n).wf = true

set_option maxHeartbeats 8000000 in
set_option maxRecDepth 100000 in
theorem walk (a0 : Option Addr) (len0 cap0 : Nat) (z0 : List Int) (w : World) (w0 : IsRow .u8 w a0 len0 cap0 z0) :
    Calls Try.prog 7 #[.slice a0 len0 cap0] w fun e w' => e = .returned (.bool true) ∧ Below w.heap.size w w' := by
  have hrow : Row .u8 w a0 len0 cap0 z0 := w0
  clear w0
  by_cases hbig : (1048576 : Int) < (len0 : Int)
  · go_enter Try.func7, Try.ntmps7
    go_wp2_with fail
    refine (big_any _ _ _ _).mono ?_
    rintro e w' ⟨rfl, rfl⟩
    go_wp2
    go_ret
    exact ⟨rfl, Below.refl _ _⟩
  · have HR : Hid (Row .u8 w a0 len0 cap0 z0) := hrow
    have hb : decide ((1048576 : Int) < (len0 : Int)) = false := by simpa using hbig
    clear hrow
    go_enter Try.func7, Try.ntmps7
    go_wp2_with fail
    refine (big_any _ _ _ _).mono ?_
    rintro e w ⟨rfl, rfl⟩
    go_wp2_with fail
    refine (drawDivided_any _ HR.out).mono ?_
    rintro e v1 ⟨fb, fn, fc, zs, gb, gn, gc, ys, rfl, hfn, hgn, ho_f, ho_g, hbl⟩
    have O_f_1 : Hid (Owns 2 v1 w.heap.size fb fn fc (zs)) := ho_f
    have O_g_1 : Hid (Owns 2 v1 w.heap.size gb gn gc (ys)) := ho_g
    have HB1 : Hid (Below w.heap.size w v1) := hbl
    clear hbl ho_f ho_g
    have nf : (M.divOk zs ys != M.divOk zs ys) = false := by simp
    have ef : (M.divOk zs ys == M.divOk zs ys) = true := by simp
    cases hok : M.divOk zs ys with
    | false =>
      go_wp2_with fail
      refine (implDivided_any _ O_f_1.out.sees O_g_1.out.sees).mono ?_
      rintro e v2 ⟨qa, qn, qc, ra, rn, rc, Q, R, rfl, hqn, hrn, hdr, ho_q, ho_r, hdis, hbl⟩
      have HDR : Hid (M.DivRes zs ys Q R) := hdr
      clear hdr hdis
      have O_f_2 : Hid (Owns 2 v2 w.heap.size fb fn fc (zs)) := O_f_1.out.below hbl
      have O_g_2 : Hid (Owns 2 v2 w.heap.size gb gn gc (ys)) := O_g_1.out.below hbl
      have O_q_2 : Hid (Owns 2 v2 w.heap.size qa qn qc (Q)) := ho_q.mono HB1.out.size
      have O_r_2 : Hid (Owns 2 v2 w.heap.size ra rn rc (R)) := ho_r.mono HB1.out.size
      have HB2 : Hid (Below w.heap.size w v2) := HB1.out.trans (hbl.mono HB1.out.size)
      clear hbl ho_q ho_r
      go_wp2_with fail
      refine (specDivided_any _ O_f_2.out.sees O_g_2.out.sees).mono ?_
      rintro e v3 ⟨aa, an, ac, ba, bn, bc, Q2, R2, rfl, han, hbn, hdr2, ho_a, ho_b, hdis2, hbl⟩
      obtain ⟨e_0, e_1⟩ := M.divRes_unique hdr2 HDR.out
      rw [e_0] at ho_a
      rw [e_1] at ho_b
      clear hdr2 e_0 e_1 hdis2
      have O_f_3 : Hid (Owns 2 v3 w.heap.size fb fn fc (zs)) := O_f_2.out.below hbl
      have O_g_3 : Hid (Owns 2 v3 w.heap.size gb gn gc (ys)) := O_g_2.out.below hbl
      have O_q_3 : Hid (Owns 2 v3 w.heap.size qa qn qc (Q)) := O_q_2.out.below hbl
      have O_r_3 : Hid (Owns 2 v3 w.heap.size ra rn rc (R)) := O_r_2.out.below hbl
      have O_a_3 : Hid (Owns 2 v3 w.heap.size aa an ac (Q)) := ho_a.mono HB2.out.size
      have O_b_3 : Hid (Owns 2 v3 w.heap.size ba bn bc (R)) := ho_b.mono HB2.out.size
      have HB3 : Hid (Below w.heap.size w v3) := HB2.out.trans (hbl.mono HB2.out.size)
      clear hbl ho_a ho_b
      go_wp2_with fail
      refine (sameS_yes _ O_q_3.out.sees O_a_3.out.sees).mono ?_
      rintro e v4 ⟨rfl, hbl⟩
      have O_f_4 : Hid (Owns 2 v4 w.heap.size fb fn fc (zs)) := O_f_3.out.below hbl
      have O_g_4 : Hid (Owns 2 v4 w.heap.size gb gn gc (ys)) := O_g_3.out.below hbl
      have O_q_4 : Hid (Owns 2 v4 w.heap.size qa qn qc (Q)) := O_q_3.out.below hbl
      have O_r_4 : Hid (Owns 2 v4 w.heap.size ra rn rc (R)) := O_r_3.out.below hbl
      have O_a_4 : Hid (Owns 2 v4 w.heap.size aa an ac (Q)) := O_a_3.out.below hbl
      have O_b_4 : Hid (Owns 2 v4 w.heap.size ba bn bc (R)) := O_b_3.out.below hbl
      have HB4 : Hid (Below w.heap.size w v4) := HB3.out.trans (hbl.mono HB3.out.size)
      clear hbl
      go_wp2_with fail
      refine (sameS_yes _ O_r_4.out.sees O_b_4.out.sees).mono ?_
      rintro e v5 ⟨rfl, hbl⟩
      have O_f_5 : Hid (Owns 2 v5 w.heap.size fb fn fc (zs)) := O_f_4.out.below hbl
      have O_g_5 : Hid (Owns 2 v5 w.heap.size gb gn gc (ys)) := O_g_4.out.below hbl
      have O_q_5 : Hid (Owns 2 v5 w.heap.size qa qn qc (Q)) := O_q_4.out.below hbl
      have O_r_5 : Hid (Owns 2 v5 w.heap.size ra rn rc (R)) := O_r_4.out.below hbl
      have O_a_5 : Hid (Owns 2 v5 w.heap.size aa an ac (Q)) := O_a_4.out.below hbl
      have O_b_5 : Hid (Owns 2 v5 w.heap.size ba bn bc (R)) := O_b_4.out.below hbl
      have HB5 : Hid (Below w.heap.size w v5) := HB4.out.trans (hbl.mono HB4.out.size)
      clear hbl
      go_wp2_with fail
      refine (sameS_yes _ O_q_5.out.sees O_a_5.out.sees).mono ?_
      rintro e v6 ⟨rfl, hbl⟩
      have O_f_6 : Hid (Owns 2 v6 w.heap.size fb fn fc (zs)) := O_f_5.out.below hbl
      have O_g_6 : Hid (Owns 2 v6 w.heap.size gb gn gc (ys)) := O_g_5.out.below hbl
      have O_q_6 : Hid (Owns 2 v6 w.heap.size qa qn qc (Q)) := O_q_5.out.below hbl
      have O_r_6 : Hid (Owns 2 v6 w.heap.size ra rn rc (R)) := O_r_5.out.below hbl
      have O_a_6 : Hid (Owns 2 v6 w.heap.size aa an ac (Q)) := O_a_5.out.below hbl
      have O_b_6 : Hid (Owns 2 v6 w.heap.size ba bn bc (R)) := O_b_5.out.below hbl
      have HB6 : Hid (Below w.heap.size w v6) := HB5.out.trans (hbl.mono HB5.out.size)
      clear hbl
      go_wp2_with fail
      refine (sameS_yes _ O_r_6.out.sees O_b_6.out.sees).mono ?_
      rintro e v7 ⟨rfl, hbl⟩
      have O_f_7 : Hid (Owns 2 v7 w.heap.size fb fn fc (zs)) := O_f_6.out.below hbl
      have O_g_7 : Hid (Owns 2 v7 w.heap.size gb gn gc (ys)) := O_g_6.out.below hbl
      have O_q_7 : Hid (Owns 2 v7 w.heap.size qa qn qc (Q)) := O_q_6.out.below hbl
      have O_r_7 : Hid (Owns 2 v7 w.heap.size ra rn rc (R)) := O_r_6.out.below hbl
      have O_a_7 : Hid (Owns 2 v7 w.heap.size aa an ac (Q)) := O_a_6.out.below hbl
      have O_b_7 : Hid (Owns 2 v7 w.heap.size ba bn bc (R)) := O_b_6.out.below hbl
      have HB7 : Hid (Below w.heap.size w v7) := HB6.out.trans (hbl.mono HB6.out.size)
      clear hbl
      go_wp2
      go_ret
      exact ⟨rfl, HB7.out⟩
    | true =>
      have HLf : Hid (zs.length ≤ 50 ∧ ys.length ≤ 50) := ⟨by rw [O_f_1.out.len]; omega, by rw [O_g_1.out.len]; omega⟩
      have HOK : Hid (M.divOk zs ys = true) := hok
      go_wp2_with fail
      refine (implDivided_any _ O_f_1.out.sees O_g_1.out.sees).mono ?_
      rintro e v2 ⟨qa, qn, qc, ra, rn, rc, Q, R, rfl, hqn, hrn, hdr, ho_q, ho_r, hdis, hbl⟩
      have HDR : Hid (M.DivRes zs ys Q R) := hdr
      clear hdr hdis
      have O_f_2 : Hid (Owns 2 v2 w.heap.size fb fn fc (zs)) := O_f_1.out.below hbl
      have O_g_2 : Hid (Owns 2 v2 w.heap.size gb gn gc (ys)) := O_g_1.out.below hbl
      have O_q_2 : Hid (Owns 2 v2 w.heap.size qa qn qc (Q)) := ho_q.mono HB1.out.size
      have O_r_2 : Hid (Owns 2 v2 w.heap.size ra rn rc (R)) := ho_r.mono HB1.out.size
      have HB2 : Hid (Below w.heap.size w v2) := HB1.out.trans (hbl.mono HB1.out.size)
      clear hbl ho_q ho_r
      go_wp2_with fail
      refine (specDivided_any _ O_f_2.out.sees O_g_2.out.sees).mono ?_
      rintro e v3 ⟨aa, an, ac, ba, bn, bc, Q2, R2, rfl, han, hbn, hdr2, ho_a, ho_b, hdis2, hbl⟩
      obtain ⟨e_0, e_1⟩ := M.divRes_unique hdr2 HDR.out
      rw [e_0] at ho_a
      rw [e_1] at ho_b
      clear hdr2 e_0 e_1 hdis2
      have O_f_3 : Hid (Owns 2 v3 w.heap.size fb fn fc (zs)) := O_f_2.out.below hbl
      have O_g_3 : Hid (Owns 2 v3 w.heap.size gb gn gc (ys)) := O_g_2.out.below hbl
      have O_q_3 : Hid (Owns 2 v3 w.heap.size qa qn qc (Q)) := O_q_2.out.below hbl
      have O_r_3 : Hid (Owns 2 v3 w.heap.size ra rn rc (R)) := O_r_2.out.below hbl
      have O_a_3 : Hid (Owns 2 v3 w.heap.size aa an ac (Q)) := ho_a.mono HB2.out.size
      have O_b_3 : Hid (Owns 2 v3 w.heap.size ba bn bc (R)) := ho_b.mono HB2.out.size
      have HB3 : Hid (Below w.heap.size w v3) := HB2.out.trans (hbl.mono HB2.out.size)
      clear hbl ho_a ho_b
      go_wp2_with fail
      refine (sameS_yes _ O_q_3.out.sees O_a_3.out.sees).mono ?_
      rintro e v4 ⟨rfl, hbl⟩
      have O_f_4 : Hid (Owns 2 v4 w.heap.size fb fn fc (zs)) := O_f_3.out.below hbl
      have O_g_4 : Hid (Owns 2 v4 w.heap.size gb gn gc (ys)) := O_g_3.out.below hbl
      have O_q_4 : Hid (Owns 2 v4 w.heap.size qa qn qc (Q)) := O_q_3.out.below hbl
      have O_r_4 : Hid (Owns 2 v4 w.heap.size ra rn rc (R)) := O_r_3.out.below hbl
      have O_a_4 : Hid (Owns 2 v4 w.heap.size aa an ac (Q)) := O_a_3.out.below hbl
      have O_b_4 : Hid (Owns 2 v4 w.heap.size ba bn bc (R)) := O_b_3.out.below hbl
      have HB4 : Hid (Below w.heap.size w v4) := HB3.out.trans (hbl.mono HB3.out.size)
      clear hbl
      go_wp2_with fail
      refine (sameS_yes _ O_r_4.out.sees O_b_4.out.sees).mono ?_
      rintro e v5 ⟨rfl, hbl⟩
      have O_f_5 : Hid (Owns 2 v5 w.heap.size fb fn fc (zs)) := O_f_4.out.below hbl
      have O_g_5 : Hid (Owns 2 v5 w.heap.size gb gn gc (ys)) := O_g_4.out.below hbl
      have O_q_5 : Hid (Owns 2 v5 w.heap.size qa qn qc (Q)) := O_q_4.out.below hbl
      have O_r_5 : Hid (Owns 2 v5 w.heap.size ra rn rc (R)) := O_r_4.out.below hbl
      have O_a_5 : Hid (Owns 2 v5 w.heap.size aa an ac (Q)) := O_a_4.out.below hbl
      have O_b_5 : Hid (Owns 2 v5 w.heap.size ba bn bc (R)) := O_b_4.out.below hbl
      have HB5 : Hid (Below w.heap.size w v5) := HB4.out.trans (hbl.mono HB4.out.size)
      clear hbl
      have HDV : Hid (M.Div zs ys Q R) := M.divRes_in HDR.out HOK.out
      have hshort : rn < gn := by have h := HDV.out.short; rw [O_r_5.out.len, O_g_5.out.len] at h; exact h
      have hshI : (rn : Int) < (gn : Int) := by omega
      go_wp2_with fail
      refine (implPolyMul_any _ O_q_5.out.sees O_g_5.out.sees).mono ?_
      rintro e v6 ⟨pa, pn, pc, rfl, hpn, ho_p, hbl⟩
      have O_f_6 : Hid (Owns 2 v6 w.heap.size fb fn fc (zs)) := O_f_5.out.below hbl
      have O_g_6 : Hid (Owns 2 v6 w.heap.size gb gn gc (ys)) := O_g_5.out.below hbl
      have O_q_6 : Hid (Owns 2 v6 w.heap.size qa qn qc (Q)) := O_q_5.out.below hbl
      have O_r_6 : Hid (Owns 2 v6 w.heap.size ra rn rc (R)) := O_r_5.out.below hbl
      have O_a_6 : Hid (Owns 2 v6 w.heap.size aa an ac (Q)) := O_a_5.out.below hbl
      have O_b_6 : Hid (Owns 2 v6 w.heap.size ba bn bc (R)) := O_b_5.out.below hbl
      have O_p_6 : Hid (Owns 2 v6 w.heap.size pa pn pc (M.mulv Q ys)) := ho_p.mono HB5.out.size
      have HB6 : Hid (Below w.heap.size w v6) := HB5.out.trans (hbl.mono HB5.out.size)
      clear hbl ho_p
      go_wp2_with fail
      refine (implPolyAdd_any _ O_p_6.out.sees O_r_6.out.sees).mono ?_
      rintro e v7 ⟨sa, sn, sc, rfl, hsn, ho_s, hbl⟩
      rw [M.div_back HOK.out HDV.out HLf.out.1 HLf.out.2] at ho_s
      have O_f_7 : Hid (Owns 2 v7 w.heap.size fb fn fc (zs)) := O_f_6.out.below hbl
      have O_g_7 : Hid (Owns 2 v7 w.heap.size gb gn gc (ys)) := O_g_6.out.below hbl
      have O_q_7 : Hid (Owns 2 v7 w.heap.size qa qn qc (Q)) := O_q_6.out.below hbl
      have O_r_7 : Hid (Owns 2 v7 w.heap.size ra rn rc (R)) := O_r_6.out.below hbl
      have O_a_7 : Hid (Owns 2 v7 w.heap.size aa an ac (Q)) := O_a_6.out.below hbl
      have O_b_7 : Hid (Owns 2 v7 w.heap.size ba bn bc (R)) := O_b_6.out.below hbl
      have O_p_7 : Hid (Owns 2 v7 w.heap.size pa pn pc (M.mulv Q ys)) := O_p_6.out.below hbl
      have O_s_7 : Hid (Owns 2 v7 w.heap.size sa sn sc (zs)) := ho_s.mono HB6.out.size
      have HB7 : Hid (Below w.heap.size w v7) := HB6.out.trans (hbl.mono HB6.out.size)
      clear hbl ho_s
      go_wp2_with fail
      refine (sameS_yes _ O_s_7.out.sees O_f_7.out.sees).mono ?_
      rintro e v8 ⟨rfl, hbl⟩
      have O_f_8 : Hid (Owns 2 v8 w.heap.size fb fn fc (zs)) := O_f_7.out.below hbl
      have O_g_8 : Hid (Owns 2 v8 w.heap.size gb gn gc (ys)) := O_g_7.out.below hbl
      have O_q_8 : Hid (Owns 2 v8 w.heap.size qa qn qc (Q)) := O_q_7.out.below hbl
      have O_r_8 : Hid (Owns 2 v8 w.heap.size ra rn rc (R)) := O_r_7.out.below hbl
      have O_a_8 : Hid (Owns 2 v8 w.heap.size aa an ac (Q)) := O_a_7.out.below hbl
      have O_b_8 : Hid (Owns 2 v8 w.heap.size ba bn bc (R)) := O_b_7.out.below hbl
      have O_p_8 : Hid (Owns 2 v8 w.heap.size pa pn pc (M.mulv Q ys)) := O_p_7.out.below hbl
      have O_s_8 : Hid (Owns 2 v8 w.heap.size sa sn sc (zs)) := O_s_7.out.below hbl
      have HB8 : Hid (Below w.heap.size w v8) := HB7.out.trans (hbl.mono HB7.out.size)
      clear hbl
      go_wp2_with fail
      refine (implTrimmed_any _ O_f_8.out.sees).mono ?_
      rintro e v9 ⟨ta, tn, tc, rfl, htn, ho_t, hbl⟩
      rw [M.trimv_same (M.divOk_parts HOK.out).1] at ho_t
      have O_f_9 : Hid (Owns 2 v9 w.heap.size fb fn fc (zs)) := O_f_8.out.below hbl
      have O_g_9 : Hid (Owns 2 v9 w.heap.size gb gn gc (ys)) := O_g_8.out.below hbl
      have O_q_9 : Hid (Owns 2 v9 w.heap.size qa qn qc (Q)) := O_q_8.out.below hbl
      have O_r_9 : Hid (Owns 2 v9 w.heap.size ra rn rc (R)) := O_r_8.out.below hbl
      have O_a_9 : Hid (Owns 2 v9 w.heap.size aa an ac (Q)) := O_a_8.out.below hbl
      have O_b_9 : Hid (Owns 2 v9 w.heap.size ba bn bc (R)) := O_b_8.out.below hbl
      have O_p_9 : Hid (Owns 2 v9 w.heap.size pa pn pc (M.mulv Q ys)) := O_p_8.out.below hbl
      have O_s_9 : Hid (Owns 2 v9 w.heap.size sa sn sc (zs)) := O_s_8.out.below hbl
      have O_t_9 : Hid (Owns 2 v9 w.heap.size ta tn tc (zs)) := ho_t.mono HB8.out.size
      have HB9 : Hid (Below w.heap.size w v9) := HB8.out.trans (hbl.mono HB8.out.size)
      clear hbl ho_t
      go_wp2_with fail
      refine (sameS_yes _ O_t_9.out.sees O_f_9.out.sees).mono ?_
      rintro e v10 ⟨rfl, hbl⟩
      have O_f_10 : Hid (Owns 2 v10 w.heap.size fb fn fc (zs)) := O_f_9.out.below hbl
      have O_g_10 : Hid (Owns 2 v10 w.heap.size gb gn gc (ys)) := O_g_9.out.below hbl
      have O_q_10 : Hid (Owns 2 v10 w.heap.size qa qn qc (Q)) := O_q_9.out.below hbl
      have O_r_10 : Hid (Owns 2 v10 w.heap.size ra rn rc (R)) := O_r_9.out.below hbl
      have O_a_10 : Hid (Owns 2 v10 w.heap.size aa an ac (Q)) := O_a_9.out.below hbl
      have O_b_10 : Hid (Owns 2 v10 w.heap.size ba bn bc (R)) := O_b_9.out.below hbl
      have O_p_10 : Hid (Owns 2 v10 w.heap.size pa pn pc (M.mulv Q ys)) := O_p_9.out.below hbl
      have O_s_10 : Hid (Owns 2 v10 w.heap.size sa sn sc (zs)) := O_s_9.out.below hbl
      have O_t_10 : Hid (Owns 2 v10 w.heap.size ta tn tc (zs)) := O_t_9.out.below hbl
      have HB10 : Hid (Below w.heap.size w v10) := HB9.out.trans (hbl.mono HB9.out.size)
      clear hbl
      go_wp2
      go_ret
      exact ⟨rfl, HB10.out⟩

set_option maxRecDepth 100000 in
theorem lifted (os : Os) (started : os.Started) (H : Type) (enc : TypeId × Value → H) :
    ReturnsInHanded {} Try.checked os 7 .any (Rows.fnDividedSpec.pre6 enc Try.prog Try.f7 Rows.fnDividedRow.domain false) (Rows.fnDividedSpec.post enc Try.prog Try.f7 false true false false) := by
  refine returnsInHanded_of_change (C := Try.checked) own started (by kernel_rfl) Try.func7
    (ChangeSpec.witness6 (enc := enc) (C := Try.checked) false ⟨#[], #[.slice none 0 0], []⟩ 8 (by kernel_rfl) (by kernel_rfl) (by kernel_rfl) (by kernel_rfl)) ?_
  intro W base args ds gs before hval0 hW hcnd _
  have hval : ∀ (j : Nat) t v, Try.f7.params[j]? = some t → args[j]? = some v → Value.okWide Try.prog W .any base t v := hval0
  have hW' := hW
  obtain ⟨p, q, hA0, hV, rfl, hfz, hnd⟩ := hW
  have hA : DataW.TrodAll enc Try.prog W 0 (fun _ => true) true Try.f7.params.toList args.toList ds p := hA0
  rw [Try.params7] at hA hval
  obtain ⟨v0, vs0, d0, ds0, p0, q0, hargs, rfl, rfl, h0, r0⟩ := trodAll_cons hA
  obtain ⟨rfl, rfl, rfl⟩ := trodAll_nil r0
  obtain rfl : args = #[v0] := by cases args; simp_all
  obtain ⟨rfl, rfl⟩ := trodVars_none hV
  obtain ⟨a0, len0, cap0, rfl⟩ := okWide_slice Try.underlying22 (hval 0 22 v0 rfl rfl)
  have k0 := h0
  have lt0 : ∀ x ∈ p0, x.block < W.heap.size := by obtain ⟨m, hm⟩ := k0; exact DataW.trod_lt m _ _ _ hm
  obtain ⟨z0, w0⟩ : ∃ zs, IsRow .u8 W a0 len0 cap0 zs := by
    obtain ⟨fuel, hf⟩ := h0
    rcases open_ints Try.underlying22 Try.underlying5 (by kernel_rfl) hf with ⟨hcs, _⟩ | ⟨x, l, c, zs, hcs, _, hl, hm, hz, _, hcell, hwz⟩
    · simp [Value.cells] at hcs
      obtain ⟨rfl, rfl, rfl⟩ := hcs
      exact ⟨[], .inl ⟨rfl, rfl, rfl, rfl⟩⟩
    · simp [Value.cells] at hcs
      obtain ⟨rfl, rfl, rfl⟩ := hcs
      exact ⟨zs, .inr ⟨_, rfl, hl, hm, by simpa using hz, hcell, hwz⟩⟩
  clear hA0 hval0
  refine (walk a0 len0 cap0 z0 W w0).mono fun e W' ⟨he, bel⟩ => ?_
  subst he
  exact ⟨_, rfl, _, _, _, [], _, [], hW', trodAll_mk1 (shut_bool Try.underlying4 _), (trodAll_cons_mk (Below.trod laidOut (by kernel_rfl) (of_decide_eq_true (by kernel_rfl)) k0 bel lt0) trodAll_mk0), rfl, bel.frame _, fun h => by cases h⟩

theorem over : Rows.fnDividedRow.holds Try.pinned (OpenSpec.ofChange Rows.fnDividedSpec) :=
  OpenClaim.holds_of_wide 7 Try.f7 rfl rfl rfl rfl rfl rfl rfl ⟨rfl, rfl, rfl, rfl, rfl⟩ rfl rfl rfl rfl rfl (by kernel_rfl) Try.func7 (by kernel_rfl)
    (of_decide_eq_true (by kernel_rfl)) (by unfold Func.isWrapper; first | (rw [if_pos (by decide +kernel)]; kernel_rfl) | (rw [if_neg (by decide +kernel)]; exact ⟨rfl, rfl⟩))
    (fun os started H enc _ => lifted os started H enc)

theorem proved : Rows.FnDividedSaid := over
end Go.Proofs.Ytjeoenieoejolaa.fnDivided
namespace Go.Proofs.Ytjeoenieoejolaa
theorem fnDivided_holds : Rows.FnDividedSaid := fnDivided.proved
#print axioms fnDivided_holds
end Go.Proofs.Ytjeoenieoejolaa
