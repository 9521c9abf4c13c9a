/- For every code that is handed in the law FnPolys returns true: at each element a sum of polynomials is the sum of both and a product their product, with no condition on the input. -/
import Derived.Test.YtjeoenieoejolaaRows
import Derived.WalkKit
import Derived.ProofKit
import Derived.OpenShut
import Derived.ShutString
import Derived.ChangeOld
import Derived.Below
import Derived.Test.YtjeoenieoejolaaFieldC
import Derived.Test.YtjeoenieoejolaaRdD
import Derived.Test.YtjeoenieoejolaaSlS
import Derived.Test.YtjeoenieoejolaaLawMath
namespace Go.Proofs.Ytjeoenieoejolaa.fnPolys
open Go.ChangeShapes Go.WideShapes Go.ChangeAt Go.RowKit
open Go.ChangeMaps (open_string shut_string)
set_option linter.unusedVariables false

theorem own : ownKnob Try.prog.godebug = none := by kernel_rfl
theorem laidOut : laidOutB Try.prog = true := by kernel_rfl

def IsRow (k : IntKind) (w : World) (a : Option Addr) (len cap : Nat) (zs : List Int) : Prop :=
  (a = none ∧ len = 0 ∧ cap = 0 ∧ zs = []) ∨
  ∃ x, a = some x ∧ len ≤ cap ∧ cap ≤ maxLen ∧ zs.length = cap ∧ (∀ i, i < zs.length → w.cell? (x.add i) = some (.int k (zs.getD i 0))) ∧ ∀ n ∈ zs, (Lit.int k n).wf = true

set_option maxHeartbeats 8000000 in
set_option maxRecDepth 100000 in
theorem walk (a0 : Option Addr) (len0 cap0 : Nat) (z0 : List Int) (w : World) (w0 : IsRow .u8 w a0 len0 cap0 z0) :
    Calls Try.prog 6 #[.slice a0 len0 cap0] w fun e w' => e = .returned (.bool true) ∧ Below w.heap.size w w' := by
  have hrow : Row .u8 w a0 len0 cap0 z0 := w0
  clear w0
  by_cases hbig : (1048576 : Int) < (len0 : Int)
  · go_enter Try.func6, Try.ntmps6
    go_wp2_with fail
    refine (big_any _ _ _ _).mono ?_
    rintro e w' ⟨rfl, rfl⟩
    go_wp2
    go_ret
    exact ⟨rfl, Below.refl _ _⟩
  · have HR : Hid (Row .u8 w a0 len0 cap0 z0) := hrow
    have hb : decide ((1048576 : Int) < (len0 : Int)) = false := by simpa using hbig
    clear hrow
    go_enter Try.func6, Try.ntmps6
    go_wp2_with fail
    refine (big_any _ _ _ _).mono ?_
    rintro e w ⟨rfl, rfl⟩
    go_wp2_with fail
    refine (drawPolyAdd_any _ HR.out).mono ?_
    rintro e v1 ⟨fb, fn, fc, zs, gb, gn, gc, ys, rfl, hfn, hgn, ho_f, ho_g, hbl⟩
    have O_f_1 : Hid (Owns 2 v1 w.heap.size fb fn fc (zs)) := ho_f
    have O_g_1 : Hid (Owns 2 v1 w.heap.size gb gn gc (ys)) := ho_g
    have HB1 : Hid (Below w.heap.size w v1) := hbl
    clear hbl ho_f ho_g
    go_wp2_with fail
    refine (drawAt_any w _ HR.out HB1.out).mono ?_
    rintro e v2 ⟨db, dn, dc, dl, x, rfl, hdn, ho_d, hbl⟩
    have O_f_2 : Hid (Owns 2 v2 w.heap.size fb fn fc (zs)) := O_f_1.out.below hbl
    have O_g_2 : Hid (Owns 2 v2 w.heap.size gb gn gc (ys)) := O_g_1.out.below hbl
    have HB2 : Hid (Below w.heap.size w v2) := HB1.out.trans (hbl.mono HB1.out.size)
    clear hbl
    clear ho_d
    have na : (M.atv zs x != M.atv zs x) = false := by simp
    have ea : (M.atv zs x == M.atv zs x) = true := by simp
    have nm : (M.mulOk zs ys != M.mulOk zs ys) = false := by simp
    have em : (M.mulOk zs ys == M.mulOk zs ys) = true := by simp
    cases h1 : M.polyOk zs with
    | false =>
      go_wp2_with fail
      refine (implPolyAdd_any _ O_f_2.out.sees O_g_2.out.sees).mono ?_
      rintro e v3 ⟨sb, sn, sc, rfl, hsn, ho_s, hbl⟩
      have O_f_3 : Hid (Owns 2 v3 w.heap.size fb fn fc (zs)) := O_f_2.out.below hbl
      have O_g_3 : Hid (Owns 2 v3 w.heap.size gb gn gc (ys)) := O_g_2.out.below hbl
      have O_s_3 : Hid (Owns 2 v3 w.heap.size sb sn sc (M.addv zs ys)) := ho_s.mono HB2.out.size
      have HB3 : Hid (Below w.heap.size w v3) := HB2.out.trans (hbl.mono HB2.out.size)
      clear hbl ho_s
      go_wp2_with fail
      refine (implPolyMul_any _ O_f_3.out.sees O_g_3.out.sees).mono ?_
      rintro e v4 ⟨pb, pn, pc, rfl, hpn, ho_p, hbl⟩
      have O_f_4 : Hid (Owns 2 v4 w.heap.size fb fn fc (zs)) := O_f_3.out.below hbl
      have O_g_4 : Hid (Owns 2 v4 w.heap.size gb gn gc (ys)) := O_g_3.out.below hbl
      have O_s_4 : Hid (Owns 2 v4 w.heap.size sb sn sc (M.addv zs ys)) := O_s_3.out.below hbl
      have O_p_4 : Hid (Owns 2 v4 w.heap.size pb pn pc (M.mulv zs ys)) := ho_p.mono HB3.out.size
      have HB4 : Hid (Below w.heap.size w v4) := HB3.out.trans (hbl.mono HB3.out.size)
      clear hbl ho_p
      go_wp2_with fail
      refine (specPolyMul_any _ O_f_4.out.sees O_g_4.out.sees).mono ?_
      rintro e v5 ⟨qb, qn, qc, rfl, hqn, ho_q, hbl⟩
      have O_f_5 : Hid (Owns 2 v5 w.heap.size fb fn fc (zs)) := O_f_4.out.below hbl
      have O_g_5 : Hid (Owns 2 v5 w.heap.size gb gn gc (ys)) := O_g_4.out.below hbl
      have O_s_5 : Hid (Owns 2 v5 w.heap.size sb sn sc (M.addv zs ys)) := O_s_4.out.below hbl
      have O_p_5 : Hid (Owns 2 v5 w.heap.size pb pn pc (M.mulv zs ys)) := O_p_4.out.below hbl
      have O_q_5 : Hid (Owns 2 v5 w.heap.size qb qn qc (M.mulv zs ys)) := ho_q.mono HB4.out.size
      have HB5 : Hid (Below w.heap.size w v5) := HB4.out.trans (hbl.mono HB4.out.size)
      clear hbl ho_q
      go_wp2_with fail
      refine (implAt_any x _ O_f_5.out.sees).mono ?_
      rintro e v6 ⟨rfl, hbl⟩
      have O_f_6 : Hid (Owns 2 v6 w.heap.size fb fn fc (zs)) := O_f_5.out.below hbl
      have O_g_6 : Hid (Owns 2 v6 w.heap.size gb gn gc (ys)) := O_g_5.out.below hbl
      have O_s_6 : Hid (Owns 2 v6 w.heap.size sb sn sc (M.addv zs ys)) := O_s_5.out.below hbl
      have O_p_6 : Hid (Owns 2 v6 w.heap.size pb pn pc (M.mulv zs ys)) := O_p_5.out.below hbl
      have O_q_6 : Hid (Owns 2 v6 w.heap.size qb qn qc (M.mulv zs ys)) := O_q_5.out.below hbl
      have HB6 : Hid (Below w.heap.size w v6) := HB5.out.trans (hbl.mono HB5.out.size)
      clear hbl
      go_wp2_with fail
      refine (specPolyAdd_any _ O_f_6.out.sees O_g_6.out.sees).mono ?_
      rintro e v7 ⟨tb, tn, tc, rfl, htn, ho_t, hbl⟩
      have O_f_7 : Hid (Owns 2 v7 w.heap.size fb fn fc (zs)) := O_f_6.out.below hbl
      have O_g_7 : Hid (Owns 2 v7 w.heap.size gb gn gc (ys)) := O_g_6.out.below hbl
      have O_s_7 : Hid (Owns 2 v7 w.heap.size sb sn sc (M.addv zs ys)) := O_s_6.out.below hbl
      have O_p_7 : Hid (Owns 2 v7 w.heap.size pb pn pc (M.mulv zs ys)) := O_p_6.out.below hbl
      have O_q_7 : Hid (Owns 2 v7 w.heap.size qb qn qc (M.mulv zs ys)) := O_q_6.out.below hbl
      have O_t_7 : Hid (Owns 2 v7 w.heap.size tb tn tc (M.addv zs ys)) := ho_t.mono HB6.out.size
      have HB7 : Hid (Below w.heap.size w v7) := HB6.out.trans (hbl.mono HB6.out.size)
      clear hbl ho_t
      go_wp2_with fail
      refine (sameS_yes _ O_s_7.out.sees O_t_7.out.sees).mono ?_
      rintro e v8 ⟨rfl, hbl⟩
      have O_f_8 : Hid (Owns 2 v8 w.heap.size fb fn fc (zs)) := O_f_7.out.below hbl
      have O_g_8 : Hid (Owns 2 v8 w.heap.size gb gn gc (ys)) := O_g_7.out.below hbl
      have O_s_8 : Hid (Owns 2 v8 w.heap.size sb sn sc (M.addv zs ys)) := O_s_7.out.below hbl
      have O_p_8 : Hid (Owns 2 v8 w.heap.size pb pn pc (M.mulv zs ys)) := O_p_7.out.below hbl
      have O_q_8 : Hid (Owns 2 v8 w.heap.size qb qn qc (M.mulv zs ys)) := O_q_7.out.below hbl
      have O_t_8 : Hid (Owns 2 v8 w.heap.size tb tn tc (M.addv zs ys)) := O_t_7.out.below hbl
      have HB8 : Hid (Below w.heap.size w v8) := HB7.out.trans (hbl.mono HB7.out.size)
      clear hbl
      go_wp2_with fail
      refine (sameS_yes _ O_p_8.out.sees O_q_8.out.sees).mono ?_
      rintro e v9 ⟨rfl, hbl⟩
      have O_f_9 : Hid (Owns 2 v9 w.heap.size fb fn fc (zs)) := O_f_8.out.below hbl
      have O_g_9 : Hid (Owns 2 v9 w.heap.size gb gn gc (ys)) := O_g_8.out.below hbl
      have O_s_9 : Hid (Owns 2 v9 w.heap.size sb sn sc (M.addv zs ys)) := O_s_8.out.below hbl
      have O_p_9 : Hid (Owns 2 v9 w.heap.size pb pn pc (M.mulv zs ys)) := O_p_8.out.below hbl
      have O_q_9 : Hid (Owns 2 v9 w.heap.size qb qn qc (M.mulv zs ys)) := O_q_8.out.below hbl
      have HB9 : Hid (Below w.heap.size w v9) := HB8.out.trans (hbl.mono HB8.out.size)
      clear hbl
      go_wp2_with fail
      refine (specAt_any x _ O_f_9.out.sees).mono ?_
      rintro e v9 ⟨rfl, rfl⟩
      go_wp2_with fail
      refine (specPolyOk_any _ O_f_9.out.sees).mono ?_
      rintro e v9 ⟨rfl, rfl⟩
      go_wp2_with fail
      refine (specPolyAdd_any _ O_f_9.out.sees O_g_9.out.sees).mono ?_
      rintro e v10 ⟨ub, un, uc, rfl, hun, ho_u, hbl⟩
      have O_f_10 : Hid (Owns 2 v10 w.heap.size fb fn fc (zs)) := O_f_9.out.below hbl
      have O_g_10 : Hid (Owns 2 v10 w.heap.size gb gn gc (ys)) := O_g_9.out.below hbl
      have O_s_10 : Hid (Owns 2 v10 w.heap.size sb sn sc (M.addv zs ys)) := O_s_9.out.below hbl
      have O_p_10 : Hid (Owns 2 v10 w.heap.size pb pn pc (M.mulv zs ys)) := O_p_9.out.below hbl
      have O_q_10 : Hid (Owns 2 v10 w.heap.size qb qn qc (M.mulv zs ys)) := O_q_9.out.below hbl
      have O_u_10 : Hid (Owns 2 v10 w.heap.size ub un uc (M.addv zs ys)) := ho_u.mono HB9.out.size
      have HB10 : Hid (Below w.heap.size w v10) := HB9.out.trans (hbl.mono HB9.out.size)
      clear hbl ho_u
      go_wp2_with fail
      refine (sameS_yes _ O_s_10.out.sees O_u_10.out.sees).mono ?_
      rintro e v11 ⟨rfl, hbl⟩
      have O_f_11 : Hid (Owns 2 v11 w.heap.size fb fn fc (zs)) := O_f_10.out.below hbl
      have O_g_11 : Hid (Owns 2 v11 w.heap.size gb gn gc (ys)) := O_g_10.out.below hbl
      have O_s_11 : Hid (Owns 2 v11 w.heap.size sb sn sc (M.addv zs ys)) := O_s_10.out.below hbl
      have O_p_11 : Hid (Owns 2 v11 w.heap.size pb pn pc (M.mulv zs ys)) := O_p_10.out.below hbl
      have O_q_11 : Hid (Owns 2 v11 w.heap.size qb qn qc (M.mulv zs ys)) := O_q_10.out.below hbl
      have O_u_11 : Hid (Owns 2 v11 w.heap.size ub un uc (M.addv zs ys)) := O_u_10.out.below hbl
      have HB11 : Hid (Below w.heap.size w v11) := HB10.out.trans (hbl.mono HB10.out.size)
      clear hbl
      go_wp2_with fail
      refine (sameS_yes _ O_p_11.out.sees O_q_11.out.sees).mono ?_
      rintro e v12 ⟨rfl, hbl⟩
      have O_f_12 : Hid (Owns 2 v12 w.heap.size fb fn fc (zs)) := O_f_11.out.below hbl
      have O_g_12 : Hid (Owns 2 v12 w.heap.size gb gn gc (ys)) := O_g_11.out.below hbl
      have O_s_12 : Hid (Owns 2 v12 w.heap.size sb sn sc (M.addv zs ys)) := O_s_11.out.below hbl
      have O_p_12 : Hid (Owns 2 v12 w.heap.size pb pn pc (M.mulv zs ys)) := O_p_11.out.below hbl
      have O_q_12 : Hid (Owns 2 v12 w.heap.size qb qn qc (M.mulv zs ys)) := O_q_11.out.below hbl
      have O_u_12 : Hid (Owns 2 v12 w.heap.size ub un uc (M.addv zs ys)) := O_u_11.out.below hbl
      have HB12 : Hid (Below w.heap.size w v12) := HB11.out.trans (hbl.mono HB11.out.size)
      clear hbl
      go_wp2_with fail
      refine (specAt_any x _ O_f_12.out.sees).mono ?_
      rintro e v12 ⟨rfl, rfl⟩
      go_wp2
      go_ret
      exact ⟨rfl, HB12.out⟩
    | true =>
      cases h2 : M.polyOk ys with
      | false =>
        go_wp2_with fail
        refine (implPolyAdd_any _ O_f_2.out.sees O_g_2.out.sees).mono ?_
        rintro e v3 ⟨sb, sn, sc, rfl, hsn, ho_s, hbl⟩
        have O_f_3 : Hid (Owns 2 v3 w.heap.size fb fn fc (zs)) := O_f_2.out.below hbl
        have O_g_3 : Hid (Owns 2 v3 w.heap.size gb gn gc (ys)) := O_g_2.out.below hbl
        have O_s_3 : Hid (Owns 2 v3 w.heap.size sb sn sc (M.addv zs ys)) := ho_s.mono HB2.out.size
        have HB3 : Hid (Below w.heap.size w v3) := HB2.out.trans (hbl.mono HB2.out.size)
        clear hbl ho_s
        go_wp2_with fail
        refine (implPolyMul_any _ O_f_3.out.sees O_g_3.out.sees).mono ?_
        rintro e v4 ⟨pb, pn, pc, rfl, hpn, ho_p, hbl⟩
        have O_f_4 : Hid (Owns 2 v4 w.heap.size fb fn fc (zs)) := O_f_3.out.below hbl
        have O_g_4 : Hid (Owns 2 v4 w.heap.size gb gn gc (ys)) := O_g_3.out.below hbl
        have O_s_4 : Hid (Owns 2 v4 w.heap.size sb sn sc (M.addv zs ys)) := O_s_3.out.below hbl
        have O_p_4 : Hid (Owns 2 v4 w.heap.size pb pn pc (M.mulv zs ys)) := ho_p.mono HB3.out.size
        have HB4 : Hid (Below w.heap.size w v4) := HB3.out.trans (hbl.mono HB3.out.size)
        clear hbl ho_p
        go_wp2_with fail
        refine (specPolyMul_any _ O_f_4.out.sees O_g_4.out.sees).mono ?_
        rintro e v5 ⟨qb, qn, qc, rfl, hqn, ho_q, hbl⟩
        have O_f_5 : Hid (Owns 2 v5 w.heap.size fb fn fc (zs)) := O_f_4.out.below hbl
        have O_g_5 : Hid (Owns 2 v5 w.heap.size gb gn gc (ys)) := O_g_4.out.below hbl
        have O_s_5 : Hid (Owns 2 v5 w.heap.size sb sn sc (M.addv zs ys)) := O_s_4.out.below hbl
        have O_p_5 : Hid (Owns 2 v5 w.heap.size pb pn pc (M.mulv zs ys)) := O_p_4.out.below hbl
        have O_q_5 : Hid (Owns 2 v5 w.heap.size qb qn qc (M.mulv zs ys)) := ho_q.mono HB4.out.size
        have HB5 : Hid (Below w.heap.size w v5) := HB4.out.trans (hbl.mono HB4.out.size)
        clear hbl ho_q
        go_wp2_with fail
        refine (implAt_any x _ O_f_5.out.sees).mono ?_
        rintro e v6 ⟨rfl, hbl⟩
        have O_f_6 : Hid (Owns 2 v6 w.heap.size fb fn fc (zs)) := O_f_5.out.below hbl
        have O_g_6 : Hid (Owns 2 v6 w.heap.size gb gn gc (ys)) := O_g_5.out.below hbl
        have O_s_6 : Hid (Owns 2 v6 w.heap.size sb sn sc (M.addv zs ys)) := O_s_5.out.below hbl
        have O_p_6 : Hid (Owns 2 v6 w.heap.size pb pn pc (M.mulv zs ys)) := O_p_5.out.below hbl
        have O_q_6 : Hid (Owns 2 v6 w.heap.size qb qn qc (M.mulv zs ys)) := O_q_5.out.below hbl
        have HB6 : Hid (Below w.heap.size w v6) := HB5.out.trans (hbl.mono HB5.out.size)
        clear hbl
        go_wp2_with fail
        refine (specPolyAdd_any _ O_f_6.out.sees O_g_6.out.sees).mono ?_
        rintro e v7 ⟨tb, tn, tc, rfl, htn, ho_t, hbl⟩
        have O_f_7 : Hid (Owns 2 v7 w.heap.size fb fn fc (zs)) := O_f_6.out.below hbl
        have O_g_7 : Hid (Owns 2 v7 w.heap.size gb gn gc (ys)) := O_g_6.out.below hbl
        have O_s_7 : Hid (Owns 2 v7 w.heap.size sb sn sc (M.addv zs ys)) := O_s_6.out.below hbl
        have O_p_7 : Hid (Owns 2 v7 w.heap.size pb pn pc (M.mulv zs ys)) := O_p_6.out.below hbl
        have O_q_7 : Hid (Owns 2 v7 w.heap.size qb qn qc (M.mulv zs ys)) := O_q_6.out.below hbl
        have O_t_7 : Hid (Owns 2 v7 w.heap.size tb tn tc (M.addv zs ys)) := ho_t.mono HB6.out.size
        have HB7 : Hid (Below w.heap.size w v7) := HB6.out.trans (hbl.mono HB6.out.size)
        clear hbl ho_t
        go_wp2_with fail
        refine (sameS_yes _ O_s_7.out.sees O_t_7.out.sees).mono ?_
        rintro e v8 ⟨rfl, hbl⟩
        have O_f_8 : Hid (Owns 2 v8 w.heap.size fb fn fc (zs)) := O_f_7.out.below hbl
        have O_g_8 : Hid (Owns 2 v8 w.heap.size gb gn gc (ys)) := O_g_7.out.below hbl
        have O_s_8 : Hid (Owns 2 v8 w.heap.size sb sn sc (M.addv zs ys)) := O_s_7.out.below hbl
        have O_p_8 : Hid (Owns 2 v8 w.heap.size pb pn pc (M.mulv zs ys)) := O_p_7.out.below hbl
        have O_q_8 : Hid (Owns 2 v8 w.heap.size qb qn qc (M.mulv zs ys)) := O_q_7.out.below hbl
        have O_t_8 : Hid (Owns 2 v8 w.heap.size tb tn tc (M.addv zs ys)) := O_t_7.out.below hbl
        have HB8 : Hid (Below w.heap.size w v8) := HB7.out.trans (hbl.mono HB7.out.size)
        clear hbl
        go_wp2_with fail
        refine (sameS_yes _ O_p_8.out.sees O_q_8.out.sees).mono ?_
        rintro e v9 ⟨rfl, hbl⟩
        have O_f_9 : Hid (Owns 2 v9 w.heap.size fb fn fc (zs)) := O_f_8.out.below hbl
        have O_g_9 : Hid (Owns 2 v9 w.heap.size gb gn gc (ys)) := O_g_8.out.below hbl
        have O_s_9 : Hid (Owns 2 v9 w.heap.size sb sn sc (M.addv zs ys)) := O_s_8.out.below hbl
        have O_p_9 : Hid (Owns 2 v9 w.heap.size pb pn pc (M.mulv zs ys)) := O_p_8.out.below hbl
        have O_q_9 : Hid (Owns 2 v9 w.heap.size qb qn qc (M.mulv zs ys)) := O_q_8.out.below hbl
        have HB9 : Hid (Below w.heap.size w v9) := HB8.out.trans (hbl.mono HB8.out.size)
        clear hbl
        go_wp2_with fail
        refine (specAt_any x _ O_f_9.out.sees).mono ?_
        rintro e v9 ⟨rfl, rfl⟩
        go_wp2_with fail
        refine (specPolyOk_any _ O_f_9.out.sees).mono ?_
        rintro e v9 ⟨rfl, rfl⟩
        go_wp2_with fail
        refine (specPolyOk_any _ O_g_9.out.sees).mono ?_
        rintro e v9 ⟨rfl, rfl⟩
        go_wp2_with fail
        refine (specPolyAdd_any _ O_f_9.out.sees O_g_9.out.sees).mono ?_
        rintro e v10 ⟨ub, un, uc, rfl, hun, ho_u, hbl⟩
        have O_f_10 : Hid (Owns 2 v10 w.heap.size fb fn fc (zs)) := O_f_9.out.below hbl
        have O_g_10 : Hid (Owns 2 v10 w.heap.size gb gn gc (ys)) := O_g_9.out.below hbl
        have O_s_10 : Hid (Owns 2 v10 w.heap.size sb sn sc (M.addv zs ys)) := O_s_9.out.below hbl
        have O_p_10 : Hid (Owns 2 v10 w.heap.size pb pn pc (M.mulv zs ys)) := O_p_9.out.below hbl
        have O_q_10 : Hid (Owns 2 v10 w.heap.size qb qn qc (M.mulv zs ys)) := O_q_9.out.below hbl
        have O_u_10 : Hid (Owns 2 v10 w.heap.size ub un uc (M.addv zs ys)) := ho_u.mono HB9.out.size
        have HB10 : Hid (Below w.heap.size w v10) := HB9.out.trans (hbl.mono HB9.out.size)
        clear hbl ho_u
        go_wp2_with fail
        refine (sameS_yes _ O_s_10.out.sees O_u_10.out.sees).mono ?_
        rintro e v11 ⟨rfl, hbl⟩
        have O_f_11 : Hid (Owns 2 v11 w.heap.size fb fn fc (zs)) := O_f_10.out.below hbl
        have O_g_11 : Hid (Owns 2 v11 w.heap.size gb gn gc (ys)) := O_g_10.out.below hbl
        have O_s_11 : Hid (Owns 2 v11 w.heap.size sb sn sc (M.addv zs ys)) := O_s_10.out.below hbl
        have O_p_11 : Hid (Owns 2 v11 w.heap.size pb pn pc (M.mulv zs ys)) := O_p_10.out.below hbl
        have O_q_11 : Hid (Owns 2 v11 w.heap.size qb qn qc (M.mulv zs ys)) := O_q_10.out.below hbl
        have O_u_11 : Hid (Owns 2 v11 w.heap.size ub un uc (M.addv zs ys)) := O_u_10.out.below hbl
        have HB11 : Hid (Below w.heap.size w v11) := HB10.out.trans (hbl.mono HB10.out.size)
        clear hbl
        go_wp2_with fail
        refine (sameS_yes _ O_p_11.out.sees O_q_11.out.sees).mono ?_
        rintro e v12 ⟨rfl, hbl⟩
        have O_f_12 : Hid (Owns 2 v12 w.heap.size fb fn fc (zs)) := O_f_11.out.below hbl
        have O_g_12 : Hid (Owns 2 v12 w.heap.size gb gn gc (ys)) := O_g_11.out.below hbl
        have O_s_12 : Hid (Owns 2 v12 w.heap.size sb sn sc (M.addv zs ys)) := O_s_11.out.below hbl
        have O_p_12 : Hid (Owns 2 v12 w.heap.size pb pn pc (M.mulv zs ys)) := O_p_11.out.below hbl
        have O_q_12 : Hid (Owns 2 v12 w.heap.size qb qn qc (M.mulv zs ys)) := O_q_11.out.below hbl
        have O_u_12 : Hid (Owns 2 v12 w.heap.size ub un uc (M.addv zs ys)) := O_u_11.out.below hbl
        have HB12 : Hid (Below w.heap.size w v12) := HB11.out.trans (hbl.mono HB11.out.size)
        clear hbl
        go_wp2_with fail
        refine (specAt_any x _ O_f_12.out.sees).mono ?_
        rintro e v12 ⟨rfl, rfl⟩
        go_wp2
        go_ret
        exact ⟨rfl, HB12.out⟩
      | true =>
        cases h3 : M.el x with
        | false =>
          go_wp2_with fail
          refine (implPolyAdd_any _ O_f_2.out.sees O_g_2.out.sees).mono ?_
          rintro e v3 ⟨sb, sn, sc, rfl, hsn, ho_s, hbl⟩
          have O_f_3 : Hid (Owns 2 v3 w.heap.size fb fn fc (zs)) := O_f_2.out.below hbl
          have O_g_3 : Hid (Owns 2 v3 w.heap.size gb gn gc (ys)) := O_g_2.out.below hbl
          have O_s_3 : Hid (Owns 2 v3 w.heap.size sb sn sc (M.addv zs ys)) := ho_s.mono HB2.out.size
          have HB3 : Hid (Below w.heap.size w v3) := HB2.out.trans (hbl.mono HB2.out.size)
          clear hbl ho_s
          go_wp2_with fail
          refine (implPolyMul_any _ O_f_3.out.sees O_g_3.out.sees).mono ?_
          rintro e v4 ⟨pb, pn, pc, rfl, hpn, ho_p, hbl⟩
          have O_f_4 : Hid (Owns 2 v4 w.heap.size fb fn fc (zs)) := O_f_3.out.below hbl
          have O_g_4 : Hid (Owns 2 v4 w.heap.size gb gn gc (ys)) := O_g_3.out.below hbl
          have O_s_4 : Hid (Owns 2 v4 w.heap.size sb sn sc (M.addv zs ys)) := O_s_3.out.below hbl
          have O_p_4 : Hid (Owns 2 v4 w.heap.size pb pn pc (M.mulv zs ys)) := ho_p.mono HB3.out.size
          have HB4 : Hid (Below w.heap.size w v4) := HB3.out.trans (hbl.mono HB3.out.size)
          clear hbl ho_p
          go_wp2_with fail
          refine (specPolyMul_any _ O_f_4.out.sees O_g_4.out.sees).mono ?_
          rintro e v5 ⟨qb, qn, qc, rfl, hqn, ho_q, hbl⟩
          have O_f_5 : Hid (Owns 2 v5 w.heap.size fb fn fc (zs)) := O_f_4.out.below hbl
          have O_g_5 : Hid (Owns 2 v5 w.heap.size gb gn gc (ys)) := O_g_4.out.below hbl
          have O_s_5 : Hid (Owns 2 v5 w.heap.size sb sn sc (M.addv zs ys)) := O_s_4.out.below hbl
          have O_p_5 : Hid (Owns 2 v5 w.heap.size pb pn pc (M.mulv zs ys)) := O_p_4.out.below hbl
          have O_q_5 : Hid (Owns 2 v5 w.heap.size qb qn qc (M.mulv zs ys)) := ho_q.mono HB4.out.size
          have HB5 : Hid (Below w.heap.size w v5) := HB4.out.trans (hbl.mono HB4.out.size)
          clear hbl ho_q
          go_wp2_with fail
          refine (implAt_any x _ O_f_5.out.sees).mono ?_
          rintro e v6 ⟨rfl, hbl⟩
          have O_f_6 : Hid (Owns 2 v6 w.heap.size fb fn fc (zs)) := O_f_5.out.below hbl
          have O_g_6 : Hid (Owns 2 v6 w.heap.size gb gn gc (ys)) := O_g_5.out.below hbl
          have O_s_6 : Hid (Owns 2 v6 w.heap.size sb sn sc (M.addv zs ys)) := O_s_5.out.below hbl
          have O_p_6 : Hid (Owns 2 v6 w.heap.size pb pn pc (M.mulv zs ys)) := O_p_5.out.below hbl
          have O_q_6 : Hid (Owns 2 v6 w.heap.size qb qn qc (M.mulv zs ys)) := O_q_5.out.below hbl
          have HB6 : Hid (Below w.heap.size w v6) := HB5.out.trans (hbl.mono HB5.out.size)
          clear hbl
          go_wp2_with fail
          refine (specPolyAdd_any _ O_f_6.out.sees O_g_6.out.sees).mono ?_
          rintro e v7 ⟨tb, tn, tc, rfl, htn, ho_t, hbl⟩
          have O_f_7 : Hid (Owns 2 v7 w.heap.size fb fn fc (zs)) := O_f_6.out.below hbl
          have O_g_7 : Hid (Owns 2 v7 w.heap.size gb gn gc (ys)) := O_g_6.out.below hbl
          have O_s_7 : Hid (Owns 2 v7 w.heap.size sb sn sc (M.addv zs ys)) := O_s_6.out.below hbl
          have O_p_7 : Hid (Owns 2 v7 w.heap.size pb pn pc (M.mulv zs ys)) := O_p_6.out.below hbl
          have O_q_7 : Hid (Owns 2 v7 w.heap.size qb qn qc (M.mulv zs ys)) := O_q_6.out.below hbl
          have O_t_7 : Hid (Owns 2 v7 w.heap.size tb tn tc (M.addv zs ys)) := ho_t.mono HB6.out.size
          have HB7 : Hid (Below w.heap.size w v7) := HB6.out.trans (hbl.mono HB6.out.size)
          clear hbl ho_t
          go_wp2_with fail
          refine (sameS_yes _ O_s_7.out.sees O_t_7.out.sees).mono ?_
          rintro e v8 ⟨rfl, hbl⟩
          have O_f_8 : Hid (Owns 2 v8 w.heap.size fb fn fc (zs)) := O_f_7.out.below hbl
          have O_g_8 : Hid (Owns 2 v8 w.heap.size gb gn gc (ys)) := O_g_7.out.below hbl
          have O_s_8 : Hid (Owns 2 v8 w.heap.size sb sn sc (M.addv zs ys)) := O_s_7.out.below hbl
          have O_p_8 : Hid (Owns 2 v8 w.heap.size pb pn pc (M.mulv zs ys)) := O_p_7.out.below hbl
          have O_q_8 : Hid (Owns 2 v8 w.heap.size qb qn qc (M.mulv zs ys)) := O_q_7.out.below hbl
          have O_t_8 : Hid (Owns 2 v8 w.heap.size tb tn tc (M.addv zs ys)) := O_t_7.out.below hbl
          have HB8 : Hid (Below w.heap.size w v8) := HB7.out.trans (hbl.mono HB7.out.size)
          clear hbl
          go_wp2_with fail
          refine (sameS_yes _ O_p_8.out.sees O_q_8.out.sees).mono ?_
          rintro e v9 ⟨rfl, hbl⟩
          have O_f_9 : Hid (Owns 2 v9 w.heap.size fb fn fc (zs)) := O_f_8.out.below hbl
          have O_g_9 : Hid (Owns 2 v9 w.heap.size gb gn gc (ys)) := O_g_8.out.below hbl
          have O_s_9 : Hid (Owns 2 v9 w.heap.size sb sn sc (M.addv zs ys)) := O_s_8.out.below hbl
          have O_p_9 : Hid (Owns 2 v9 w.heap.size pb pn pc (M.mulv zs ys)) := O_p_8.out.below hbl
          have O_q_9 : Hid (Owns 2 v9 w.heap.size qb qn qc (M.mulv zs ys)) := O_q_8.out.below hbl
          have HB9 : Hid (Below w.heap.size w v9) := HB8.out.trans (hbl.mono HB8.out.size)
          clear hbl
          go_wp2_with fail
          refine (specAt_any x _ O_f_9.out.sees).mono ?_
          rintro e v9 ⟨rfl, rfl⟩
          go_wp2_with fail
          refine (specPolyOk_any _ O_f_9.out.sees).mono ?_
          rintro e v9 ⟨rfl, rfl⟩
          go_wp2_with fail
          refine (specPolyOk_any _ O_g_9.out.sees).mono ?_
          rintro e v9 ⟨rfl, rfl⟩
          go_wp2_with fail
          refine (in_any x _).mono ?_
          rintro e v9 ⟨rfl, rfl⟩
          go_wp2_with fail
          refine (specPolyAdd_any _ O_f_9.out.sees O_g_9.out.sees).mono ?_
          rintro e v10 ⟨ub, un, uc, rfl, hun, ho_u, hbl⟩
          have O_f_10 : Hid (Owns 2 v10 w.heap.size fb fn fc (zs)) := O_f_9.out.below hbl
          have O_g_10 : Hid (Owns 2 v10 w.heap.size gb gn gc (ys)) := O_g_9.out.below hbl
          have O_s_10 : Hid (Owns 2 v10 w.heap.size sb sn sc (M.addv zs ys)) := O_s_9.out.below hbl
          have O_p_10 : Hid (Owns 2 v10 w.heap.size pb pn pc (M.mulv zs ys)) := O_p_9.out.below hbl
          have O_q_10 : Hid (Owns 2 v10 w.heap.size qb qn qc (M.mulv zs ys)) := O_q_9.out.below hbl
          have O_u_10 : Hid (Owns 2 v10 w.heap.size ub un uc (M.addv zs ys)) := ho_u.mono HB9.out.size
          have HB10 : Hid (Below w.heap.size w v10) := HB9.out.trans (hbl.mono HB9.out.size)
          clear hbl ho_u
          go_wp2_with fail
          refine (sameS_yes _ O_s_10.out.sees O_u_10.out.sees).mono ?_
          rintro e v11 ⟨rfl, hbl⟩
          have O_f_11 : Hid (Owns 2 v11 w.heap.size fb fn fc (zs)) := O_f_10.out.below hbl
          have O_g_11 : Hid (Owns 2 v11 w.heap.size gb gn gc (ys)) := O_g_10.out.below hbl
          have O_s_11 : Hid (Owns 2 v11 w.heap.size sb sn sc (M.addv zs ys)) := O_s_10.out.below hbl
          have O_p_11 : Hid (Owns 2 v11 w.heap.size pb pn pc (M.mulv zs ys)) := O_p_10.out.below hbl
          have O_q_11 : Hid (Owns 2 v11 w.heap.size qb qn qc (M.mulv zs ys)) := O_q_10.out.below hbl
          have O_u_11 : Hid (Owns 2 v11 w.heap.size ub un uc (M.addv zs ys)) := O_u_10.out.below hbl
          have HB11 : Hid (Below w.heap.size w v11) := HB10.out.trans (hbl.mono HB10.out.size)
          clear hbl
          go_wp2_with fail
          refine (sameS_yes _ O_p_11.out.sees O_q_11.out.sees).mono ?_
          rintro e v12 ⟨rfl, hbl⟩
          have O_f_12 : Hid (Owns 2 v12 w.heap.size fb fn fc (zs)) := O_f_11.out.below hbl
          have O_g_12 : Hid (Owns 2 v12 w.heap.size gb gn gc (ys)) := O_g_11.out.below hbl
          have O_s_12 : Hid (Owns 2 v12 w.heap.size sb sn sc (M.addv zs ys)) := O_s_11.out.below hbl
          have O_p_12 : Hid (Owns 2 v12 w.heap.size pb pn pc (M.mulv zs ys)) := O_p_11.out.below hbl
          have O_q_12 : Hid (Owns 2 v12 w.heap.size qb qn qc (M.mulv zs ys)) := O_q_11.out.below hbl
          have O_u_12 : Hid (Owns 2 v12 w.heap.size ub un uc (M.addv zs ys)) := O_u_11.out.below hbl
          have HB12 : Hid (Below w.heap.size w v12) := HB11.out.trans (hbl.mono HB11.out.size)
          clear hbl
          go_wp2_with fail
          refine (specAt_any x _ O_f_12.out.sees).mono ?_
          rintro e v12 ⟨rfl, rfl⟩
          go_wp2
          go_ret
          exact ⟨rfl, HB12.out⟩
        | true =>
          have t1 : (M.atv (M.addv zs ys) x != M.add (M.atv zs x) (M.atv ys x)) = false := by rw [M.law_add h1 h2 h3]; simp
          have t2 : M.polyOk (M.addv zs ys) = true := M.law_addOk h1 h2
          cases h4 : M.mulOk zs ys with
          | false =>
            go_wp2_with fail
            refine (implPolyAdd_any _ O_f_2.out.sees O_g_2.out.sees).mono ?_
            rintro e v3 ⟨sb, sn, sc, rfl, hsn, ho_s, hbl⟩
            have O_f_3 : Hid (Owns 2 v3 w.heap.size fb fn fc (zs)) := O_f_2.out.below hbl
            have O_g_3 : Hid (Owns 2 v3 w.heap.size gb gn gc (ys)) := O_g_2.out.below hbl
            have O_s_3 : Hid (Owns 2 v3 w.heap.size sb sn sc (M.addv zs ys)) := ho_s.mono HB2.out.size
            have HB3 : Hid (Below w.heap.size w v3) := HB2.out.trans (hbl.mono HB2.out.size)
            clear hbl ho_s
            go_wp2_with fail
            refine (implPolyMul_any _ O_f_3.out.sees O_g_3.out.sees).mono ?_
            rintro e v4 ⟨pb, pn, pc, rfl, hpn, ho_p, hbl⟩
            have O_f_4 : Hid (Owns 2 v4 w.heap.size fb fn fc (zs)) := O_f_3.out.below hbl
            have O_g_4 : Hid (Owns 2 v4 w.heap.size gb gn gc (ys)) := O_g_3.out.below hbl
            have O_s_4 : Hid (Owns 2 v4 w.heap.size sb sn sc (M.addv zs ys)) := O_s_3.out.below hbl
            have O_p_4 : Hid (Owns 2 v4 w.heap.size pb pn pc (M.mulv zs ys)) := ho_p.mono HB3.out.size
            have HB4 : Hid (Below w.heap.size w v4) := HB3.out.trans (hbl.mono HB3.out.size)
            clear hbl ho_p
            go_wp2_with fail
            refine (specPolyMul_any _ O_f_4.out.sees O_g_4.out.sees).mono ?_
            rintro e v5 ⟨qb, qn, qc, rfl, hqn, ho_q, hbl⟩
            have O_f_5 : Hid (Owns 2 v5 w.heap.size fb fn fc (zs)) := O_f_4.out.below hbl
            have O_g_5 : Hid (Owns 2 v5 w.heap.size gb gn gc (ys)) := O_g_4.out.below hbl
            have O_s_5 : Hid (Owns 2 v5 w.heap.size sb sn sc (M.addv zs ys)) := O_s_4.out.below hbl
            have O_p_5 : Hid (Owns 2 v5 w.heap.size pb pn pc (M.mulv zs ys)) := O_p_4.out.below hbl
            have O_q_5 : Hid (Owns 2 v5 w.heap.size qb qn qc (M.mulv zs ys)) := ho_q.mono HB4.out.size
            have HB5 : Hid (Below w.heap.size w v5) := HB4.out.trans (hbl.mono HB4.out.size)
            clear hbl ho_q
            go_wp2_with fail
            refine (implAt_any x _ O_f_5.out.sees).mono ?_
            rintro e v6 ⟨rfl, hbl⟩
            have O_f_6 : Hid (Owns 2 v6 w.heap.size fb fn fc (zs)) := O_f_5.out.below hbl
            have O_g_6 : Hid (Owns 2 v6 w.heap.size gb gn gc (ys)) := O_g_5.out.below hbl
            have O_s_6 : Hid (Owns 2 v6 w.heap.size sb sn sc (M.addv zs ys)) := O_s_5.out.below hbl
            have O_p_6 : Hid (Owns 2 v6 w.heap.size pb pn pc (M.mulv zs ys)) := O_p_5.out.below hbl
            have O_q_6 : Hid (Owns 2 v6 w.heap.size qb qn qc (M.mulv zs ys)) := O_q_5.out.below hbl
            have HB6 : Hid (Below w.heap.size w v6) := HB5.out.trans (hbl.mono HB5.out.size)
            clear hbl
            go_wp2_with fail
            refine (specPolyAdd_any _ O_f_6.out.sees O_g_6.out.sees).mono ?_
            rintro e v7 ⟨tb, tn, tc, rfl, htn, ho_t, hbl⟩
            have O_f_7 : Hid (Owns 2 v7 w.heap.size fb fn fc (zs)) := O_f_6.out.below hbl
            have O_g_7 : Hid (Owns 2 v7 w.heap.size gb gn gc (ys)) := O_g_6.out.below hbl
            have O_s_7 : Hid (Owns 2 v7 w.heap.size sb sn sc (M.addv zs ys)) := O_s_6.out.below hbl
            have O_p_7 : Hid (Owns 2 v7 w.heap.size pb pn pc (M.mulv zs ys)) := O_p_6.out.below hbl
            have O_q_7 : Hid (Owns 2 v7 w.heap.size qb qn qc (M.mulv zs ys)) := O_q_6.out.below hbl
            have O_t_7 : Hid (Owns 2 v7 w.heap.size tb tn tc (M.addv zs ys)) := ho_t.mono HB6.out.size
            have HB7 : Hid (Below w.heap.size w v7) := HB6.out.trans (hbl.mono HB6.out.size)
            clear hbl ho_t
            go_wp2_with fail
            refine (sameS_yes _ O_s_7.out.sees O_t_7.out.sees).mono ?_
            rintro e v8 ⟨rfl, hbl⟩
            have O_f_8 : Hid (Owns 2 v8 w.heap.size fb fn fc (zs)) := O_f_7.out.below hbl
            have O_g_8 : Hid (Owns 2 v8 w.heap.size gb gn gc (ys)) := O_g_7.out.below hbl
            have O_s_8 : Hid (Owns 2 v8 w.heap.size sb sn sc (M.addv zs ys)) := O_s_7.out.below hbl
            have O_p_8 : Hid (Owns 2 v8 w.heap.size pb pn pc (M.mulv zs ys)) := O_p_7.out.below hbl
            have O_q_8 : Hid (Owns 2 v8 w.heap.size qb qn qc (M.mulv zs ys)) := O_q_7.out.below hbl
            have O_t_8 : Hid (Owns 2 v8 w.heap.size tb tn tc (M.addv zs ys)) := O_t_7.out.below hbl
            have HB8 : Hid (Below w.heap.size w v8) := HB7.out.trans (hbl.mono HB7.out.size)
            clear hbl
            go_wp2_with fail
            refine (sameS_yes _ O_p_8.out.sees O_q_8.out.sees).mono ?_
            rintro e v9 ⟨rfl, hbl⟩
            have O_f_9 : Hid (Owns 2 v9 w.heap.size fb fn fc (zs)) := O_f_8.out.below hbl
            have O_g_9 : Hid (Owns 2 v9 w.heap.size gb gn gc (ys)) := O_g_8.out.below hbl
            have O_s_9 : Hid (Owns 2 v9 w.heap.size sb sn sc (M.addv zs ys)) := O_s_8.out.below hbl
            have O_p_9 : Hid (Owns 2 v9 w.heap.size pb pn pc (M.mulv zs ys)) := O_p_8.out.below hbl
            have O_q_9 : Hid (Owns 2 v9 w.heap.size qb qn qc (M.mulv zs ys)) := O_q_8.out.below hbl
            have HB9 : Hid (Below w.heap.size w v9) := HB8.out.trans (hbl.mono HB8.out.size)
            clear hbl
            go_wp2_with fail
            refine (specAt_any x _ O_f_9.out.sees).mono ?_
            rintro e v9 ⟨rfl, rfl⟩
            go_wp2_with fail
            refine (specPolyOk_any _ O_f_9.out.sees).mono ?_
            rintro e v9 ⟨rfl, rfl⟩
            go_wp2_with fail
            refine (specPolyOk_any _ O_g_9.out.sees).mono ?_
            rintro e v9 ⟨rfl, rfl⟩
            go_wp2_with fail
            refine (in_any x _).mono ?_
            rintro e v9 ⟨rfl, rfl⟩
            go_wp2_with fail
            refine (implAt_any x _ O_s_9.out.sees).mono ?_
            rintro e v10 ⟨rfl, hbl⟩
            have O_f_10 : Hid (Owns 2 v10 w.heap.size fb fn fc (zs)) := O_f_9.out.below hbl
            have O_g_10 : Hid (Owns 2 v10 w.heap.size gb gn gc (ys)) := O_g_9.out.below hbl
            have O_s_10 : Hid (Owns 2 v10 w.heap.size sb sn sc (M.addv zs ys)) := O_s_9.out.below hbl
            have O_p_10 : Hid (Owns 2 v10 w.heap.size pb pn pc (M.mulv zs ys)) := O_p_9.out.below hbl
            have O_q_10 : Hid (Owns 2 v10 w.heap.size qb qn qc (M.mulv zs ys)) := O_q_9.out.below hbl
            have HB10 : Hid (Below w.heap.size w v10) := HB9.out.trans (hbl.mono HB9.out.size)
            clear hbl
            go_wp2_with fail
            refine (implAt_any x _ O_g_10.out.sees).mono ?_
            rintro e v11 ⟨rfl, hbl⟩
            have O_f_11 : Hid (Owns 2 v11 w.heap.size fb fn fc (zs)) := O_f_10.out.below hbl
            have O_g_11 : Hid (Owns 2 v11 w.heap.size gb gn gc (ys)) := O_g_10.out.below hbl
            have O_s_11 : Hid (Owns 2 v11 w.heap.size sb sn sc (M.addv zs ys)) := O_s_10.out.below hbl
            have O_p_11 : Hid (Owns 2 v11 w.heap.size pb pn pc (M.mulv zs ys)) := O_p_10.out.below hbl
            have O_q_11 : Hid (Owns 2 v11 w.heap.size qb qn qc (M.mulv zs ys)) := O_q_10.out.below hbl
            have HB11 : Hid (Below w.heap.size w v11) := HB10.out.trans (hbl.mono HB10.out.size)
            clear hbl
            go_wp2_with fail
            refine (implAdd_any _ _ _).mono ?_
            rintro e v11 ⟨rfl, rfl⟩
            go_wp2_with fail
            refine (implPolyOk_any _ O_s_11.out.sees).mono ?_
            rintro e v11 ⟨rfl, rfl⟩
            go_wp2
            go_ret
            exact ⟨rfl, HB11.out⟩
          | true =>
            have t3 : M.polyOk (M.mulv zs ys) = true := M.law_mulOk h4
            have t4 : (M.atv (M.mulv zs ys) x == M.mul (M.atv zs x) (M.atv ys x)) = true := by rw [M.law_mul h1 h2 h3 h4]; simp
            have hlf : Hid (zs.length = fn) := O_f_2.out.len
            have hlg : Hid (ys.length = gn) := O_g_2.out.len
            by_cases z1 : fn = 0
            · have b1 : ((fn : Int) == 0) = true := by simp [z1]
              clear z1
              go_wp2_with fail
              refine (implPolyAdd_any _ O_f_2.out.sees O_g_2.out.sees).mono ?_
              rintro e v3 ⟨sb, sn, sc, rfl, hsn, ho_s, hbl⟩
              have O_f_3 : Hid (Owns 2 v3 w.heap.size fb fn fc (zs)) := O_f_2.out.below hbl
              have O_g_3 : Hid (Owns 2 v3 w.heap.size gb gn gc (ys)) := O_g_2.out.below hbl
              have O_s_3 : Hid (Owns 2 v3 w.heap.size sb sn sc (M.addv zs ys)) := ho_s.mono HB2.out.size
              have HB3 : Hid (Below w.heap.size w v3) := HB2.out.trans (hbl.mono HB2.out.size)
              clear hbl ho_s
              go_wp2_with fail
              refine (implPolyMul_any _ O_f_3.out.sees O_g_3.out.sees).mono ?_
              rintro e v4 ⟨pb, pn, pc, rfl, hpn, ho_p, hbl⟩
              have O_f_4 : Hid (Owns 2 v4 w.heap.size fb fn fc (zs)) := O_f_3.out.below hbl
              have O_g_4 : Hid (Owns 2 v4 w.heap.size gb gn gc (ys)) := O_g_3.out.below hbl
              have O_s_4 : Hid (Owns 2 v4 w.heap.size sb sn sc (M.addv zs ys)) := O_s_3.out.below hbl
              have O_p_4 : Hid (Owns 2 v4 w.heap.size pb pn pc (M.mulv zs ys)) := ho_p.mono HB3.out.size
              have HB4 : Hid (Below w.heap.size w v4) := HB3.out.trans (hbl.mono HB3.out.size)
              clear hbl ho_p
              go_wp2_with fail
              refine (specPolyMul_any _ O_f_4.out.sees O_g_4.out.sees).mono ?_
              rintro e v5 ⟨qb, qn, qc, rfl, hqn, ho_q, hbl⟩
              have O_f_5 : Hid (Owns 2 v5 w.heap.size fb fn fc (zs)) := O_f_4.out.below hbl
              have O_g_5 : Hid (Owns 2 v5 w.heap.size gb gn gc (ys)) := O_g_4.out.below hbl
              have O_s_5 : Hid (Owns 2 v5 w.heap.size sb sn sc (M.addv zs ys)) := O_s_4.out.below hbl
              have O_p_5 : Hid (Owns 2 v5 w.heap.size pb pn pc (M.mulv zs ys)) := O_p_4.out.below hbl
              have O_q_5 : Hid (Owns 2 v5 w.heap.size qb qn qc (M.mulv zs ys)) := ho_q.mono HB4.out.size
              have HB5 : Hid (Below w.heap.size w v5) := HB4.out.trans (hbl.mono HB4.out.size)
              clear hbl ho_q
              go_wp2_with fail
              refine (implAt_any x _ O_f_5.out.sees).mono ?_
              rintro e v6 ⟨rfl, hbl⟩
              have O_f_6 : Hid (Owns 2 v6 w.heap.size fb fn fc (zs)) := O_f_5.out.below hbl
              have O_g_6 : Hid (Owns 2 v6 w.heap.size gb gn gc (ys)) := O_g_5.out.below hbl
              have O_s_6 : Hid (Owns 2 v6 w.heap.size sb sn sc (M.addv zs ys)) := O_s_5.out.below hbl
              have O_p_6 : Hid (Owns 2 v6 w.heap.size pb pn pc (M.mulv zs ys)) := O_p_5.out.below hbl
              have O_q_6 : Hid (Owns 2 v6 w.heap.size qb qn qc (M.mulv zs ys)) := O_q_5.out.below hbl
              have HB6 : Hid (Below w.heap.size w v6) := HB5.out.trans (hbl.mono HB5.out.size)
              clear hbl
              go_wp2_with fail
              refine (specPolyAdd_any _ O_f_6.out.sees O_g_6.out.sees).mono ?_
              rintro e v7 ⟨tb, tn, tc, rfl, htn, ho_t, hbl⟩
              have O_f_7 : Hid (Owns 2 v7 w.heap.size fb fn fc (zs)) := O_f_6.out.below hbl
              have O_g_7 : Hid (Owns 2 v7 w.heap.size gb gn gc (ys)) := O_g_6.out.below hbl
              have O_s_7 : Hid (Owns 2 v7 w.heap.size sb sn sc (M.addv zs ys)) := O_s_6.out.below hbl
              have O_p_7 : Hid (Owns 2 v7 w.heap.size pb pn pc (M.mulv zs ys)) := O_p_6.out.below hbl
              have O_q_7 : Hid (Owns 2 v7 w.heap.size qb qn qc (M.mulv zs ys)) := O_q_6.out.below hbl
              have O_t_7 : Hid (Owns 2 v7 w.heap.size tb tn tc (M.addv zs ys)) := ho_t.mono HB6.out.size
              have HB7 : Hid (Below w.heap.size w v7) := HB6.out.trans (hbl.mono HB6.out.size)
              clear hbl ho_t
              go_wp2_with fail
              refine (sameS_yes _ O_s_7.out.sees O_t_7.out.sees).mono ?_
              rintro e v8 ⟨rfl, hbl⟩
              have O_f_8 : Hid (Owns 2 v8 w.heap.size fb fn fc (zs)) := O_f_7.out.below hbl
              have O_g_8 : Hid (Owns 2 v8 w.heap.size gb gn gc (ys)) := O_g_7.out.below hbl
              have O_s_8 : Hid (Owns 2 v8 w.heap.size sb sn sc (M.addv zs ys)) := O_s_7.out.below hbl
              have O_p_8 : Hid (Owns 2 v8 w.heap.size pb pn pc (M.mulv zs ys)) := O_p_7.out.below hbl
              have O_q_8 : Hid (Owns 2 v8 w.heap.size qb qn qc (M.mulv zs ys)) := O_q_7.out.below hbl
              have O_t_8 : Hid (Owns 2 v8 w.heap.size tb tn tc (M.addv zs ys)) := O_t_7.out.below hbl
              have HB8 : Hid (Below w.heap.size w v8) := HB7.out.trans (hbl.mono HB7.out.size)
              clear hbl
              go_wp2_with fail
              refine (sameS_yes _ O_p_8.out.sees O_q_8.out.sees).mono ?_
              rintro e v9 ⟨rfl, hbl⟩
              have O_f_9 : Hid (Owns 2 v9 w.heap.size fb fn fc (zs)) := O_f_8.out.below hbl
              have O_g_9 : Hid (Owns 2 v9 w.heap.size gb gn gc (ys)) := O_g_8.out.below hbl
              have O_s_9 : Hid (Owns 2 v9 w.heap.size sb sn sc (M.addv zs ys)) := O_s_8.out.below hbl
              have O_p_9 : Hid (Owns 2 v9 w.heap.size pb pn pc (M.mulv zs ys)) := O_p_8.out.below hbl
              have O_q_9 : Hid (Owns 2 v9 w.heap.size qb qn qc (M.mulv zs ys)) := O_q_8.out.below hbl
              have HB9 : Hid (Below w.heap.size w v9) := HB8.out.trans (hbl.mono HB8.out.size)
              clear hbl
              go_wp2_with fail
              refine (specAt_any x _ O_f_9.out.sees).mono ?_
              rintro e v9 ⟨rfl, rfl⟩
              go_wp2_with fail
              refine (specPolyOk_any _ O_f_9.out.sees).mono ?_
              rintro e v9 ⟨rfl, rfl⟩
              go_wp2_with fail
              refine (specPolyOk_any _ O_g_9.out.sees).mono ?_
              rintro e v9 ⟨rfl, rfl⟩
              go_wp2_with fail
              refine (in_any x _).mono ?_
              rintro e v9 ⟨rfl, rfl⟩
              go_wp2_with fail
              refine (implAt_any x _ O_s_9.out.sees).mono ?_
              rintro e v10 ⟨rfl, hbl⟩
              have O_f_10 : Hid (Owns 2 v10 w.heap.size fb fn fc (zs)) := O_f_9.out.below hbl
              have O_g_10 : Hid (Owns 2 v10 w.heap.size gb gn gc (ys)) := O_g_9.out.below hbl
              have O_s_10 : Hid (Owns 2 v10 w.heap.size sb sn sc (M.addv zs ys)) := O_s_9.out.below hbl
              have O_p_10 : Hid (Owns 2 v10 w.heap.size pb pn pc (M.mulv zs ys)) := O_p_9.out.below hbl
              have O_q_10 : Hid (Owns 2 v10 w.heap.size qb qn qc (M.mulv zs ys)) := O_q_9.out.below hbl
              have HB10 : Hid (Below w.heap.size w v10) := HB9.out.trans (hbl.mono HB9.out.size)
              clear hbl
              go_wp2_with fail
              refine (implAt_any x _ O_g_10.out.sees).mono ?_
              rintro e v11 ⟨rfl, hbl⟩
              have O_f_11 : Hid (Owns 2 v11 w.heap.size fb fn fc (zs)) := O_f_10.out.below hbl
              have O_g_11 : Hid (Owns 2 v11 w.heap.size gb gn gc (ys)) := O_g_10.out.below hbl
              have O_s_11 : Hid (Owns 2 v11 w.heap.size sb sn sc (M.addv zs ys)) := O_s_10.out.below hbl
              have O_p_11 : Hid (Owns 2 v11 w.heap.size pb pn pc (M.mulv zs ys)) := O_p_10.out.below hbl
              have O_q_11 : Hid (Owns 2 v11 w.heap.size qb qn qc (M.mulv zs ys)) := O_q_10.out.below hbl
              have HB11 : Hid (Below w.heap.size w v11) := HB10.out.trans (hbl.mono HB10.out.size)
              clear hbl
              go_wp2_with fail
              refine (implAdd_any _ _ _).mono ?_
              rintro e v11 ⟨rfl, rfl⟩
              go_wp2_with fail
              refine (implPolyOk_any _ O_s_11.out.sees).mono ?_
              rintro e v11 ⟨rfl, rfl⟩
              go_wp2_with fail
              refine (implPolyOk_any _ O_p_11.out.sees).mono ?_
              rintro e v11 ⟨rfl, rfl⟩
              go_wp2_with fail
              refine (implAt_any x _ O_p_11.out.sees).mono ?_
              rintro e v12 ⟨rfl, hbl⟩
              have O_f_12 : Hid (Owns 2 v12 w.heap.size fb fn fc (zs)) := O_f_11.out.below hbl
              have O_g_12 : Hid (Owns 2 v12 w.heap.size gb gn gc (ys)) := O_g_11.out.below hbl
              have O_s_12 : Hid (Owns 2 v12 w.heap.size sb sn sc (M.addv zs ys)) := O_s_11.out.below hbl
              have O_p_12 : Hid (Owns 2 v12 w.heap.size pb pn pc (M.mulv zs ys)) := O_p_11.out.below hbl
              have O_q_12 : Hid (Owns 2 v12 w.heap.size qb qn qc (M.mulv zs ys)) := O_q_11.out.below hbl
              have HB12 : Hid (Below w.heap.size w v12) := HB11.out.trans (hbl.mono HB11.out.size)
              clear hbl
              go_wp2_with fail
              refine (implAt_any x _ O_g_12.out.sees).mono ?_
              rintro e v13 ⟨rfl, hbl⟩
              have O_f_13 : Hid (Owns 2 v13 w.heap.size fb fn fc (zs)) := O_f_12.out.below hbl
              have O_g_13 : Hid (Owns 2 v13 w.heap.size gb gn gc (ys)) := O_g_12.out.below hbl
              have O_s_13 : Hid (Owns 2 v13 w.heap.size sb sn sc (M.addv zs ys)) := O_s_12.out.below hbl
              have O_p_13 : Hid (Owns 2 v13 w.heap.size pb pn pc (M.mulv zs ys)) := O_p_12.out.below hbl
              have O_q_13 : Hid (Owns 2 v13 w.heap.size qb qn qc (M.mulv zs ys)) := O_q_12.out.below hbl
              have HB13 : Hid (Below w.heap.size w v13) := HB12.out.trans (hbl.mono HB12.out.size)
              clear hbl
              go_wp2_with fail
              refine (implMul_any _ _ _).mono ?_
              rintro e v13 ⟨rfl, rfl⟩
              go_wp2
              go_ret
              exact ⟨rfl, HB13.out⟩
            · have b1 : ((fn : Int) == 0) = false := by simp [z1]
              by_cases z2 : gn = 0
              · have b2 : ((gn : Int) == 0) = true := by simp [z2]
                clear z2
                go_wp2_with fail
                refine (implPolyAdd_any _ O_f_2.out.sees O_g_2.out.sees).mono ?_
                rintro e v3 ⟨sb, sn, sc, rfl, hsn, ho_s, hbl⟩
                have O_f_3 : Hid (Owns 2 v3 w.heap.size fb fn fc (zs)) := O_f_2.out.below hbl
                have O_g_3 : Hid (Owns 2 v3 w.heap.size gb gn gc (ys)) := O_g_2.out.below hbl
                have O_s_3 : Hid (Owns 2 v3 w.heap.size sb sn sc (M.addv zs ys)) := ho_s.mono HB2.out.size
                have HB3 : Hid (Below w.heap.size w v3) := HB2.out.trans (hbl.mono HB2.out.size)
                clear hbl ho_s
                go_wp2_with fail
                refine (implPolyMul_any _ O_f_3.out.sees O_g_3.out.sees).mono ?_
                rintro e v4 ⟨pb, pn, pc, rfl, hpn, ho_p, hbl⟩
                have O_f_4 : Hid (Owns 2 v4 w.heap.size fb fn fc (zs)) := O_f_3.out.below hbl
                have O_g_4 : Hid (Owns 2 v4 w.heap.size gb gn gc (ys)) := O_g_3.out.below hbl
                have O_s_4 : Hid (Owns 2 v4 w.heap.size sb sn sc (M.addv zs ys)) := O_s_3.out.below hbl
                have O_p_4 : Hid (Owns 2 v4 w.heap.size pb pn pc (M.mulv zs ys)) := ho_p.mono HB3.out.size
                have HB4 : Hid (Below w.heap.size w v4) := HB3.out.trans (hbl.mono HB3.out.size)
                clear hbl ho_p
                go_wp2_with fail
                refine (specPolyMul_any _ O_f_4.out.sees O_g_4.out.sees).mono ?_
                rintro e v5 ⟨qb, qn, qc, rfl, hqn, ho_q, hbl⟩
                have O_f_5 : Hid (Owns 2 v5 w.heap.size fb fn fc (zs)) := O_f_4.out.below hbl
                have O_g_5 : Hid (Owns 2 v5 w.heap.size gb gn gc (ys)) := O_g_4.out.below hbl
                have O_s_5 : Hid (Owns 2 v5 w.heap.size sb sn sc (M.addv zs ys)) := O_s_4.out.below hbl
                have O_p_5 : Hid (Owns 2 v5 w.heap.size pb pn pc (M.mulv zs ys)) := O_p_4.out.below hbl
                have O_q_5 : Hid (Owns 2 v5 w.heap.size qb qn qc (M.mulv zs ys)) := ho_q.mono HB4.out.size
                have HB5 : Hid (Below w.heap.size w v5) := HB4.out.trans (hbl.mono HB4.out.size)
                clear hbl ho_q
                go_wp2_with fail
                refine (implAt_any x _ O_f_5.out.sees).mono ?_
                rintro e v6 ⟨rfl, hbl⟩
                have O_f_6 : Hid (Owns 2 v6 w.heap.size fb fn fc (zs)) := O_f_5.out.below hbl
                have O_g_6 : Hid (Owns 2 v6 w.heap.size gb gn gc (ys)) := O_g_5.out.below hbl
                have O_s_6 : Hid (Owns 2 v6 w.heap.size sb sn sc (M.addv zs ys)) := O_s_5.out.below hbl
                have O_p_6 : Hid (Owns 2 v6 w.heap.size pb pn pc (M.mulv zs ys)) := O_p_5.out.below hbl
                have O_q_6 : Hid (Owns 2 v6 w.heap.size qb qn qc (M.mulv zs ys)) := O_q_5.out.below hbl
                have HB6 : Hid (Below w.heap.size w v6) := HB5.out.trans (hbl.mono HB5.out.size)
                clear hbl
                go_wp2_with fail
                refine (specPolyAdd_any _ O_f_6.out.sees O_g_6.out.sees).mono ?_
                rintro e v7 ⟨tb, tn, tc, rfl, htn, ho_t, hbl⟩
                have O_f_7 : Hid (Owns 2 v7 w.heap.size fb fn fc (zs)) := O_f_6.out.below hbl
                have O_g_7 : Hid (Owns 2 v7 w.heap.size gb gn gc (ys)) := O_g_6.out.below hbl
                have O_s_7 : Hid (Owns 2 v7 w.heap.size sb sn sc (M.addv zs ys)) := O_s_6.out.below hbl
                have O_p_7 : Hid (Owns 2 v7 w.heap.size pb pn pc (M.mulv zs ys)) := O_p_6.out.below hbl
                have O_q_7 : Hid (Owns 2 v7 w.heap.size qb qn qc (M.mulv zs ys)) := O_q_6.out.below hbl
                have O_t_7 : Hid (Owns 2 v7 w.heap.size tb tn tc (M.addv zs ys)) := ho_t.mono HB6.out.size
                have HB7 : Hid (Below w.heap.size w v7) := HB6.out.trans (hbl.mono HB6.out.size)
                clear hbl ho_t
                go_wp2_with fail
                refine (sameS_yes _ O_s_7.out.sees O_t_7.out.sees).mono ?_
                rintro e v8 ⟨rfl, hbl⟩
                have O_f_8 : Hid (Owns 2 v8 w.heap.size fb fn fc (zs)) := O_f_7.out.below hbl
                have O_g_8 : Hid (Owns 2 v8 w.heap.size gb gn gc (ys)) := O_g_7.out.below hbl
                have O_s_8 : Hid (Owns 2 v8 w.heap.size sb sn sc (M.addv zs ys)) := O_s_7.out.below hbl
                have O_p_8 : Hid (Owns 2 v8 w.heap.size pb pn pc (M.mulv zs ys)) := O_p_7.out.below hbl
                have O_q_8 : Hid (Owns 2 v8 w.heap.size qb qn qc (M.mulv zs ys)) := O_q_7.out.below hbl
                have O_t_8 : Hid (Owns 2 v8 w.heap.size tb tn tc (M.addv zs ys)) := O_t_7.out.below hbl
                have HB8 : Hid (Below w.heap.size w v8) := HB7.out.trans (hbl.mono HB7.out.size)
                clear hbl
                go_wp2_with fail
                refine (sameS_yes _ O_p_8.out.sees O_q_8.out.sees).mono ?_
                rintro e v9 ⟨rfl, hbl⟩
                have O_f_9 : Hid (Owns 2 v9 w.heap.size fb fn fc (zs)) := O_f_8.out.below hbl
                have O_g_9 : Hid (Owns 2 v9 w.heap.size gb gn gc (ys)) := O_g_8.out.below hbl
                have O_s_9 : Hid (Owns 2 v9 w.heap.size sb sn sc (M.addv zs ys)) := O_s_8.out.below hbl
                have O_p_9 : Hid (Owns 2 v9 w.heap.size pb pn pc (M.mulv zs ys)) := O_p_8.out.below hbl
                have O_q_9 : Hid (Owns 2 v9 w.heap.size qb qn qc (M.mulv zs ys)) := O_q_8.out.below hbl
                have HB9 : Hid (Below w.heap.size w v9) := HB8.out.trans (hbl.mono HB8.out.size)
                clear hbl
                go_wp2_with fail
                refine (specAt_any x _ O_f_9.out.sees).mono ?_
                rintro e v9 ⟨rfl, rfl⟩
                go_wp2_with fail
                refine (specPolyOk_any _ O_f_9.out.sees).mono ?_
                rintro e v9 ⟨rfl, rfl⟩
                go_wp2_with fail
                refine (specPolyOk_any _ O_g_9.out.sees).mono ?_
                rintro e v9 ⟨rfl, rfl⟩
                go_wp2_with fail
                refine (in_any x _).mono ?_
                rintro e v9 ⟨rfl, rfl⟩
                go_wp2_with fail
                refine (implAt_any x _ O_s_9.out.sees).mono ?_
                rintro e v10 ⟨rfl, hbl⟩
                have O_f_10 : Hid (Owns 2 v10 w.heap.size fb fn fc (zs)) := O_f_9.out.below hbl
                have O_g_10 : Hid (Owns 2 v10 w.heap.size gb gn gc (ys)) := O_g_9.out.below hbl
                have O_s_10 : Hid (Owns 2 v10 w.heap.size sb sn sc (M.addv zs ys)) := O_s_9.out.below hbl
                have O_p_10 : Hid (Owns 2 v10 w.heap.size pb pn pc (M.mulv zs ys)) := O_p_9.out.below hbl
                have O_q_10 : Hid (Owns 2 v10 w.heap.size qb qn qc (M.mulv zs ys)) := O_q_9.out.below hbl
                have HB10 : Hid (Below w.heap.size w v10) := HB9.out.trans (hbl.mono HB9.out.size)
                clear hbl
                go_wp2_with fail
                refine (implAt_any x _ O_g_10.out.sees).mono ?_
                rintro e v11 ⟨rfl, hbl⟩
                have O_f_11 : Hid (Owns 2 v11 w.heap.size fb fn fc (zs)) := O_f_10.out.below hbl
                have O_g_11 : Hid (Owns 2 v11 w.heap.size gb gn gc (ys)) := O_g_10.out.below hbl
                have O_s_11 : Hid (Owns 2 v11 w.heap.size sb sn sc (M.addv zs ys)) := O_s_10.out.below hbl
                have O_p_11 : Hid (Owns 2 v11 w.heap.size pb pn pc (M.mulv zs ys)) := O_p_10.out.below hbl
                have O_q_11 : Hid (Owns 2 v11 w.heap.size qb qn qc (M.mulv zs ys)) := O_q_10.out.below hbl
                have HB11 : Hid (Below w.heap.size w v11) := HB10.out.trans (hbl.mono HB10.out.size)
                clear hbl
                go_wp2_with fail
                refine (implAdd_any _ _ _).mono ?_
                rintro e v11 ⟨rfl, rfl⟩
                go_wp2_with fail
                refine (implPolyOk_any _ O_s_11.out.sees).mono ?_
                rintro e v11 ⟨rfl, rfl⟩
                go_wp2_with fail
                refine (implPolyOk_any _ O_p_11.out.sees).mono ?_
                rintro e v11 ⟨rfl, rfl⟩
                go_wp2_with fail
                refine (implAt_any x _ O_p_11.out.sees).mono ?_
                rintro e v12 ⟨rfl, hbl⟩
                have O_f_12 : Hid (Owns 2 v12 w.heap.size fb fn fc (zs)) := O_f_11.out.below hbl
                have O_g_12 : Hid (Owns 2 v12 w.heap.size gb gn gc (ys)) := O_g_11.out.below hbl
                have O_s_12 : Hid (Owns 2 v12 w.heap.size sb sn sc (M.addv zs ys)) := O_s_11.out.below hbl
                have O_p_12 : Hid (Owns 2 v12 w.heap.size pb pn pc (M.mulv zs ys)) := O_p_11.out.below hbl
                have O_q_12 : Hid (Owns 2 v12 w.heap.size qb qn qc (M.mulv zs ys)) := O_q_11.out.below hbl
                have HB12 : Hid (Below w.heap.size w v12) := HB11.out.trans (hbl.mono HB11.out.size)
                clear hbl
                go_wp2_with fail
                refine (implAt_any x _ O_g_12.out.sees).mono ?_
                rintro e v13 ⟨rfl, hbl⟩
                have O_f_13 : Hid (Owns 2 v13 w.heap.size fb fn fc (zs)) := O_f_12.out.below hbl
                have O_g_13 : Hid (Owns 2 v13 w.heap.size gb gn gc (ys)) := O_g_12.out.below hbl
                have O_s_13 : Hid (Owns 2 v13 w.heap.size sb sn sc (M.addv zs ys)) := O_s_12.out.below hbl
                have O_p_13 : Hid (Owns 2 v13 w.heap.size pb pn pc (M.mulv zs ys)) := O_p_12.out.below hbl
                have O_q_13 : Hid (Owns 2 v13 w.heap.size qb qn qc (M.mulv zs ys)) := O_q_12.out.below hbl
                have HB13 : Hid (Below w.heap.size w v13) := HB12.out.trans (hbl.mono HB12.out.size)
                clear hbl
                go_wp2_with fail
                refine (implMul_any _ _ _).mono ?_
                rintro e v13 ⟨rfl, rfl⟩
                go_wp2
                go_ret
                exact ⟨rfl, HB13.out⟩
              · have b2 : ((gn : Int) == 0) = false := by simp [z2]
                have HPL : Hid ((M.mulv zs ys).length = fn + gn - 1) := by show _ = _; rw [M.law_len h1 h2 h4 (by rw [hlf.out]; omega) (by rw [hlg.out]; omega), hlf.out, hlg.out]
                have hpos : 1 ≤ fn + gn := by omega
                clear z1 z2
                go_wp2_with fail
                refine (implPolyAdd_any _ O_f_2.out.sees O_g_2.out.sees).mono ?_
                rintro e v3 ⟨sb, sn, sc, rfl, hsn, ho_s, hbl⟩
                have O_f_3 : Hid (Owns 2 v3 w.heap.size fb fn fc (zs)) := O_f_2.out.below hbl
                have O_g_3 : Hid (Owns 2 v3 w.heap.size gb gn gc (ys)) := O_g_2.out.below hbl
                have O_s_3 : Hid (Owns 2 v3 w.heap.size sb sn sc (M.addv zs ys)) := ho_s.mono HB2.out.size
                have HB3 : Hid (Below w.heap.size w v3) := HB2.out.trans (hbl.mono HB2.out.size)
                clear hbl ho_s
                go_wp2_with fail
                refine (implPolyMul_any _ O_f_3.out.sees O_g_3.out.sees).mono ?_
                rintro e v4 ⟨pb, pn, pc, rfl, hpn, ho_p, hbl⟩
                have O_f_4 : Hid (Owns 2 v4 w.heap.size fb fn fc (zs)) := O_f_3.out.below hbl
                have O_g_4 : Hid (Owns 2 v4 w.heap.size gb gn gc (ys)) := O_g_3.out.below hbl
                have O_s_4 : Hid (Owns 2 v4 w.heap.size sb sn sc (M.addv zs ys)) := O_s_3.out.below hbl
                have O_p_4 : Hid (Owns 2 v4 w.heap.size pb pn pc (M.mulv zs ys)) := ho_p.mono HB3.out.size
                have HB4 : Hid (Below w.heap.size w v4) := HB3.out.trans (hbl.mono HB3.out.size)
                clear hbl ho_p
                go_wp2_with fail
                refine (specPolyMul_any _ O_f_4.out.sees O_g_4.out.sees).mono ?_
                rintro e v5 ⟨qb, qn, qc, rfl, hqn, ho_q, hbl⟩
                have O_f_5 : Hid (Owns 2 v5 w.heap.size fb fn fc (zs)) := O_f_4.out.below hbl
                have O_g_5 : Hid (Owns 2 v5 w.heap.size gb gn gc (ys)) := O_g_4.out.below hbl
                have O_s_5 : Hid (Owns 2 v5 w.heap.size sb sn sc (M.addv zs ys)) := O_s_4.out.below hbl
                have O_p_5 : Hid (Owns 2 v5 w.heap.size pb pn pc (M.mulv zs ys)) := O_p_4.out.below hbl
                have O_q_5 : Hid (Owns 2 v5 w.heap.size qb qn qc (M.mulv zs ys)) := ho_q.mono HB4.out.size
                have HB5 : Hid (Below w.heap.size w v5) := HB4.out.trans (hbl.mono HB4.out.size)
                clear hbl ho_q
                go_wp2_with fail
                refine (implAt_any x _ O_f_5.out.sees).mono ?_
                rintro e v6 ⟨rfl, hbl⟩
                have O_f_6 : Hid (Owns 2 v6 w.heap.size fb fn fc (zs)) := O_f_5.out.below hbl
                have O_g_6 : Hid (Owns 2 v6 w.heap.size gb gn gc (ys)) := O_g_5.out.below hbl
                have O_s_6 : Hid (Owns 2 v6 w.heap.size sb sn sc (M.addv zs ys)) := O_s_5.out.below hbl
                have O_p_6 : Hid (Owns 2 v6 w.heap.size pb pn pc (M.mulv zs ys)) := O_p_5.out.below hbl
                have O_q_6 : Hid (Owns 2 v6 w.heap.size qb qn qc (M.mulv zs ys)) := O_q_5.out.below hbl
                have HB6 : Hid (Below w.heap.size w v6) := HB5.out.trans (hbl.mono HB5.out.size)
                clear hbl
                go_wp2_with fail
                refine (specPolyAdd_any _ O_f_6.out.sees O_g_6.out.sees).mono ?_
                rintro e v7 ⟨tb, tn, tc, rfl, htn, ho_t, hbl⟩
                have O_f_7 : Hid (Owns 2 v7 w.heap.size fb fn fc (zs)) := O_f_6.out.below hbl
                have O_g_7 : Hid (Owns 2 v7 w.heap.size gb gn gc (ys)) := O_g_6.out.below hbl
                have O_s_7 : Hid (Owns 2 v7 w.heap.size sb sn sc (M.addv zs ys)) := O_s_6.out.below hbl
                have O_p_7 : Hid (Owns 2 v7 w.heap.size pb pn pc (M.mulv zs ys)) := O_p_6.out.below hbl
                have O_q_7 : Hid (Owns 2 v7 w.heap.size qb qn qc (M.mulv zs ys)) := O_q_6.out.below hbl
                have O_t_7 : Hid (Owns 2 v7 w.heap.size tb tn tc (M.addv zs ys)) := ho_t.mono HB6.out.size
                have HB7 : Hid (Below w.heap.size w v7) := HB6.out.trans (hbl.mono HB6.out.size)
                clear hbl ho_t
                go_wp2_with fail
                refine (sameS_yes _ O_s_7.out.sees O_t_7.out.sees).mono ?_
                rintro e v8 ⟨rfl, hbl⟩
                have O_f_8 : Hid (Owns 2 v8 w.heap.size fb fn fc (zs)) := O_f_7.out.below hbl
                have O_g_8 : Hid (Owns 2 v8 w.heap.size gb gn gc (ys)) := O_g_7.out.below hbl
                have O_s_8 : Hid (Owns 2 v8 w.heap.size sb sn sc (M.addv zs ys)) := O_s_7.out.below hbl
                have O_p_8 : Hid (Owns 2 v8 w.heap.size pb pn pc (M.mulv zs ys)) := O_p_7.out.below hbl
                have O_q_8 : Hid (Owns 2 v8 w.heap.size qb qn qc (M.mulv zs ys)) := O_q_7.out.below hbl
                have O_t_8 : Hid (Owns 2 v8 w.heap.size tb tn tc (M.addv zs ys)) := O_t_7.out.below hbl
                have HB8 : Hid (Below w.heap.size w v8) := HB7.out.trans (hbl.mono HB7.out.size)
                clear hbl
                go_wp2_with fail
                refine (sameS_yes _ O_p_8.out.sees O_q_8.out.sees).mono ?_
                rintro e v9 ⟨rfl, hbl⟩
                have O_f_9 : Hid (Owns 2 v9 w.heap.size fb fn fc (zs)) := O_f_8.out.below hbl
                have O_g_9 : Hid (Owns 2 v9 w.heap.size gb gn gc (ys)) := O_g_8.out.below hbl
                have O_s_9 : Hid (Owns 2 v9 w.heap.size sb sn sc (M.addv zs ys)) := O_s_8.out.below hbl
                have O_p_9 : Hid (Owns 2 v9 w.heap.size pb pn pc (M.mulv zs ys)) := O_p_8.out.below hbl
                have O_q_9 : Hid (Owns 2 v9 w.heap.size qb qn qc (M.mulv zs ys)) := O_q_8.out.below hbl
                have HB9 : Hid (Below w.heap.size w v9) := HB8.out.trans (hbl.mono HB8.out.size)
                clear hbl
                go_wp2_with fail
                refine (specAt_any x _ O_f_9.out.sees).mono ?_
                rintro e v9 ⟨rfl, rfl⟩
                go_wp2_with fail
                refine (specPolyOk_any _ O_f_9.out.sees).mono ?_
                rintro e v9 ⟨rfl, rfl⟩
                go_wp2_with fail
                refine (specPolyOk_any _ O_g_9.out.sees).mono ?_
                rintro e v9 ⟨rfl, rfl⟩
                go_wp2_with fail
                refine (in_any x _).mono ?_
                rintro e v9 ⟨rfl, rfl⟩
                go_wp2_with fail
                refine (implAt_any x _ O_s_9.out.sees).mono ?_
                rintro e v10 ⟨rfl, hbl⟩
                have O_f_10 : Hid (Owns 2 v10 w.heap.size fb fn fc (zs)) := O_f_9.out.below hbl
                have O_g_10 : Hid (Owns 2 v10 w.heap.size gb gn gc (ys)) := O_g_9.out.below hbl
                have O_s_10 : Hid (Owns 2 v10 w.heap.size sb sn sc (M.addv zs ys)) := O_s_9.out.below hbl
                have O_p_10 : Hid (Owns 2 v10 w.heap.size pb pn pc (M.mulv zs ys)) := O_p_9.out.below hbl
                have O_q_10 : Hid (Owns 2 v10 w.heap.size qb qn qc (M.mulv zs ys)) := O_q_9.out.below hbl
                have HB10 : Hid (Below w.heap.size w v10) := HB9.out.trans (hbl.mono HB9.out.size)
                clear hbl
                go_wp2_with fail
                refine (implAt_any x _ O_g_10.out.sees).mono ?_
                rintro e v11 ⟨rfl, hbl⟩
                have O_f_11 : Hid (Owns 2 v11 w.heap.size fb fn fc (zs)) := O_f_10.out.below hbl
                have O_g_11 : Hid (Owns 2 v11 w.heap.size gb gn gc (ys)) := O_g_10.out.below hbl
                have O_s_11 : Hid (Owns 2 v11 w.heap.size sb sn sc (M.addv zs ys)) := O_s_10.out.below hbl
                have O_p_11 : Hid (Owns 2 v11 w.heap.size pb pn pc (M.mulv zs ys)) := O_p_10.out.below hbl
                have O_q_11 : Hid (Owns 2 v11 w.heap.size qb qn qc (M.mulv zs ys)) := O_q_10.out.below hbl
                have HB11 : Hid (Below w.heap.size w v11) := HB10.out.trans (hbl.mono HB10.out.size)
                clear hbl
                go_wp2_with fail
                refine (implAdd_any _ _ _).mono ?_
                rintro e v11 ⟨rfl, rfl⟩
                go_wp2_with fail
                refine (implPolyOk_any _ O_s_11.out.sees).mono ?_
                rintro e v11 ⟨rfl, rfl⟩
                go_wp2_with fail
                refine (implPolyOk_any _ O_p_11.out.sees).mono ?_
                rintro e v11 ⟨rfl, rfl⟩
                go_wp2_with fail
                refine (implAt_any x _ O_p_11.out.sees).mono ?_
                rintro e v12 ⟨rfl, hbl⟩
                have O_f_12 : Hid (Owns 2 v12 w.heap.size fb fn fc (zs)) := O_f_11.out.below hbl
                have O_g_12 : Hid (Owns 2 v12 w.heap.size gb gn gc (ys)) := O_g_11.out.below hbl
                have O_s_12 : Hid (Owns 2 v12 w.heap.size sb sn sc (M.addv zs ys)) := O_s_11.out.below hbl
                have O_p_12 : Hid (Owns 2 v12 w.heap.size pb pn pc (M.mulv zs ys)) := O_p_11.out.below hbl
                have O_q_12 : Hid (Owns 2 v12 w.heap.size qb qn qc (M.mulv zs ys)) := O_q_11.out.below hbl
                have HB12 : Hid (Below w.heap.size w v12) := HB11.out.trans (hbl.mono HB11.out.size)
                clear hbl
                go_wp2_with fail
                refine (implAt_any x _ O_g_12.out.sees).mono ?_
                rintro e v13 ⟨rfl, hbl⟩
                have O_f_13 : Hid (Owns 2 v13 w.heap.size fb fn fc (zs)) := O_f_12.out.below hbl
                have O_g_13 : Hid (Owns 2 v13 w.heap.size gb gn gc (ys)) := O_g_12.out.below hbl
                have O_s_13 : Hid (Owns 2 v13 w.heap.size sb sn sc (M.addv zs ys)) := O_s_12.out.below hbl
                have O_p_13 : Hid (Owns 2 v13 w.heap.size pb pn pc (M.mulv zs ys)) := O_p_12.out.below hbl
                have O_q_13 : Hid (Owns 2 v13 w.heap.size qb qn qc (M.mulv zs ys)) := O_q_12.out.below hbl
                have HB13 : Hid (Below w.heap.size w v13) := HB12.out.trans (hbl.mono HB12.out.size)
                clear hbl
                go_wp2_with fail
                refine (implMul_any _ _ _).mono ?_
                rintro e v13 ⟨rfl, rfl⟩
                have hpl : pn = fn + gn - 1 := by rw [← O_p_13.out.len]; exact HPL.out
                have b3 : ((pn : Int) == (fn : Int) + (gn : Int) - 1) = true := by simp; omega
                clear hpl
                go_wp2
                go_ret
                exact ⟨rfl, HB13.out⟩

set_option maxRecDepth 100000 in
theorem lifted (os : Os) (started : os.Started) (H : Type) (enc : TypeId × Value → H) :
    ReturnsInHanded {} Try.checked os 6 .any (Rows.fnPolysSpec.pre6 enc Try.prog Try.f6 Rows.fnPolysRow.domain false) (Rows.fnPolysSpec.post enc Try.prog Try.f6 false true false false) := by
  refine returnsInHanded_of_change (C := Try.checked) own started (by kernel_rfl) Try.func6
    (ChangeSpec.witness6 (enc := enc) (C := Try.checked) false ⟨#[], #[.slice none 0 0], []⟩ 8 (by kernel_rfl) (by kernel_rfl) (by kernel_rfl) (by kernel_rfl)) ?_
  intro W base args ds gs before hval0 hW hcnd _
  have hval : ∀ (j : Nat) t v, Try.f6.params[j]? = some t → args[j]? = some v → Value.okWide Try.prog W .any base t v := hval0
  have hW' := hW
  obtain ⟨p, q, hA0, hV, rfl, hfz, hnd⟩ := hW
  have hA : DataW.TrodAll enc Try.prog W 0 (fun _ => true) true Try.f6.params.toList args.toList ds p := hA0
  rw [Try.params6] at hA hval
  obtain ⟨v0, vs0, d0, ds0, p0, q0, hargs, rfl, rfl, h0, r0⟩ := trodAll_cons hA
  obtain ⟨rfl, rfl, rfl⟩ := trodAll_nil r0
  obtain rfl : args = #[v0] := by cases args; simp_all
  obtain ⟨rfl, rfl⟩ := trodVars_none hV
  obtain ⟨a0, len0, cap0, rfl⟩ := okWide_slice Try.underlying22 (hval 0 22 v0 rfl rfl)
  have k0 := h0
  have lt0 : ∀ x ∈ p0, x.block < W.heap.size := by obtain ⟨m, hm⟩ := k0; exact DataW.trod_lt m _ _ _ hm
  obtain ⟨z0, w0⟩ : ∃ zs, IsRow .u8 W a0 len0 cap0 zs := by
    obtain ⟨fuel, hf⟩ := h0
    rcases open_ints Try.underlying22 Try.underlying5 (by kernel_rfl) hf with ⟨hcs, _⟩ | ⟨x, l, c, zs, hcs, _, hl, hm, hz, _, hcell, hwz⟩
    · simp [Value.cells] at hcs
      obtain ⟨rfl, rfl, rfl⟩ := hcs
      exact ⟨[], .inl ⟨rfl, rfl, rfl, rfl⟩⟩
    · simp [Value.cells] at hcs
      obtain ⟨rfl, rfl, rfl⟩ := hcs
      exact ⟨zs, .inr ⟨_, rfl, hl, hm, by simpa using hz, hcell, hwz⟩⟩
  clear hA0 hval0
  refine (walk a0 len0 cap0 z0 W w0).mono fun e W' ⟨he, bel⟩ => ?_
  subst he
  exact ⟨_, rfl, _, _, _, [], _, [], hW', trodAll_mk1 (shut_bool Try.underlying4 _), (trodAll_cons_mk (Below.trod laidOut (by kernel_rfl) (of_decide_eq_true (by kernel_rfl)) k0 bel lt0) trodAll_mk0), rfl, bel.frame _, fun h => by cases h⟩

theorem over : Rows.fnPolysRow.holds Try.pinned (OpenSpec.ofChange Rows.fnPolysSpec) :=
  OpenClaim.holds_of_wide 6 Try.f6 rfl rfl rfl rfl rfl rfl rfl ⟨rfl, rfl, rfl, rfl, rfl⟩ rfl rfl rfl rfl rfl (by kernel_rfl) Try.func6 (by kernel_rfl)
    (of_decide_eq_true (by kernel_rfl)) (by unfold Func.isWrapper; first | (rw [if_pos (by decide +kernel)]; kernel_rfl) | (rw [if_neg (by decide +kernel)]; exact ⟨rfl, rfl⟩))
    (fun os started H enc _ => lifted os started H enc)

theorem proved : Rows.FnPolysSaid := over
end Go.Proofs.Ytjeoenieoejolaa.fnPolys
namespace Go.Proofs.Ytjeoenieoejolaa
theorem fnPolys_holds : Rows.FnPolysSaid := fnPolys.proved
#print axioms fnPolys_holds
end Go.Proofs.Ytjeoenieoejolaa
