/- The points are unlike, each one's power of their number is the shift's, and each one, turned to the other side, is half the number further; there are as many as asked, the first is the shift: the law FnPoints returns true at every code, with no condition. -/
import Derived.Test.YtjeoenieoejolabRows
import Derived.WalkKit
import Derived.ProofKit
import Derived.OpenShut
import Derived.ShutString
import Derived.ChangeOld
import Derived.Below
import Derived.Test.YtjeoenieoejolabTrLaw
import Derived.Test.YtjeoenieoejolabRdF
import Derived.Test.YtjeoenieoejolabSlS
import Derived.Test.YtjeoenieoejolabFieldC
namespace Go.Proofs.Ytjeoenieoejolab.fnPoints
open Go.ChangeShapes Go.WideShapes Go.ChangeAt Go.RowKit
open Go.ChangeMaps (open_string shut_string)
set_option linter.unusedVariables false

theorem own : ownKnob Try.prog.godebug = none := by kernel_rfl
theorem laidOut : laidOutB Try.prog = true := by kernel_rfl

def IsRow (k : IntKind) (w : World) (a : Option Addr) (len cap : Nat) (zs : List Int) : Prop :=
  (a = none ∧ len = 0 ∧ cap = 0 ∧ zs = []) ∨
  ∃ x, a = some x ∧ len ≤ cap ∧ cap ≤ maxLen ∧ zs.length = cap ∧ (∀ i, i < zs.length → w.cell? (x.add i) = some (.int k (zs.getD i 0))) ∧ ∀ n ∈ zs, (Lit.int k n).wf = true

set_option maxHeartbeats 8000000 in
set_option maxRecDepth 100000 in
theorem walk (a0 : Option Addr) (len0 cap0 : Nat) (z0 : List Int) (w : World) (w0 : IsRow .u8 w a0 len0 cap0 z0) :
    Calls Try.prog 4 #[.slice a0 len0 cap0] w fun e w' => e = .returned (.bool true) ∧ Below w.heap.size w w' := by
  have hrow : Row .u8 w a0 len0 cap0 z0 := w0
  clear w0
  by_cases hbig : (1048576 : Int) < (len0 : Int)
  · go_enter Try.func4, Try.ntmps4
    go_wp2_with fail
    refine (big_any _ _ _ _).mono ?_
    rintro e w' ⟨rfl, rfl⟩
    go_wp2
    go_ret
    exact ⟨rfl, Below.refl _ _⟩
  · have HR : Hid (Row .u8 w a0 len0 cap0 z0) := hrow
    have hb : decide ((1048576 : Int) < (len0 : Int)) = false := by simpa using hbig
    clear hrow
    go_enter Try.func4, Try.ntmps4
    go_wp2_with fail
    refine (big_any _ _ _ _).mono ?_
    rintro e w ⟨rfl, rfl⟩
    go_wp2_with fail
    refine (drawPoints_any w _ HR.out (Below.refl _ _)).mono ?_
    rintro e v1 ⟨n, s, n0, n1, s0, s1, rfl, hbl⟩
    have HB1 : Hid (Below w.heap.size w v1) := hbl
    clear hbl
    go_wp2_with fail
    refine (implPoints_any n s _).mono ?_
    rintro e v2 ⟨la, m, lc, rfl, hm, ho_l, hbl⟩
    have O_l_2 : Hid (Owns 2 v2 w.heap.size la m lc (M.ptv n s)) := ho_l.mono HB1.out.size
    have HB2 : Hid (Below w.heap.size w v2) := HB1.out.trans (hbl.mono HB1.out.size)
    clear hbl ho_l
    go_wp2_with fail
    refine (specPoints_any n s _).mono ?_
    rintro e v3 ⟨aa, an, ac, rfl, han, ho_a, hbl⟩
    have O_l_3 : Hid (Owns 2 v3 w.heap.size la m lc (M.ptv n s)) := O_l_2.out.below hbl
    have O_a_3 : Hid (Owns 2 v3 w.heap.size aa an ac (M.ptv n s)) := ho_a.mono HB2.out.size
    have HB3 : Hid (Below w.heap.size w v3) := HB2.out.trans (hbl.mono HB2.out.size)
    clear hbl ho_a
    go_wp2_with fail
    refine (sameS_yes _ O_l_3.out.sees O_a_3.out.sees).mono ?_
    rintro e v4 ⟨rfl, hbl⟩
    have O_l_4 : Hid (Owns 2 v4 w.heap.size la m lc (M.ptv n s)) := O_l_3.out.below hbl
    have O_a_4 : Hid (Owns 2 v4 w.heap.size aa an ac (M.ptv n s)) := O_a_3.out.below hbl
    have HB4 : Hid (Below w.heap.size w v4) := HB3.out.trans (hbl.mono HB3.out.size)
    clear hbl
    cases hok : M.ptOk n s with
    | false =>
      have hm0 : m = 0 := by have h := O_l_4.out.len; rw [M.ptv_out hok] at h; exact h.symm
      subst hm0
      clear hok
      go_wp2_with fail
      refine (specPoints_any n s _).mono ?_
      rintro e v5 ⟨ba, bn, bc, rfl, hbn, ho_b, hbl⟩
      have O_l_5 : Hid (Owns 2 v5 w.heap.size la 0 lc (M.ptv n s)) := O_l_4.out.below hbl
      have O_a_5 : Hid (Owns 2 v5 w.heap.size aa an ac (M.ptv n s)) := O_a_4.out.below hbl
      have O_b_5 : Hid (Owns 2 v5 w.heap.size ba bn bc (M.ptv n s)) := ho_b.mono HB4.out.size
      have HB5 : Hid (Below w.heap.size w v5) := HB4.out.trans (hbl.mono HB4.out.size)
      clear hbl ho_b
      go_wp2_with fail
      refine (sameS_yes _ O_l_5.out.sees O_b_5.out.sees).mono ?_
      rintro e v6 ⟨rfl, hbl⟩
      have O_l_6 : Hid (Owns 2 v6 w.heap.size la 0 lc (M.ptv n s)) := O_l_5.out.below hbl
      have O_a_6 : Hid (Owns 2 v6 w.heap.size aa an ac (M.ptv n s)) := O_a_5.out.below hbl
      have O_b_6 : Hid (Owns 2 v6 w.heap.size ba bn bc (M.ptv n s)) := O_b_5.out.below hbl
      have HB6 : Hid (Below w.heap.size w v6) := HB5.out.trans (hbl.mono HB5.out.size)
      clear hbl
      go_wp2
      go_ret
      exact ⟨rfl, HB6.out⟩
    | true =>
      obtain ⟨N, rfl, hN, hN0⟩ := M.ptOk_nat hok
      have hmN : m = N := by rw [← O_l_4.out.len]; exact M.ptv_len hok
      subst hmN
      have HP : Hid (∀ i, i < m → (M.ptv m s).getD i 0 = s * M.root m ^ i % 65537) := fun i hi => by rw [M.ptv_in hok, Int.toNat_natCast]; exact M.gp_get _ _ _ _ hi
      have HINJ : Hid (∀ k i, k < i → i < m → (M.ptv m s).getD k 0 ≠ (M.ptv m s).getD i 0) := fun k i hk hi => by rw [HP.out k (by omega), HP.out i hi]; exact M.pt_inj hok hk hi
      have HPOW : Hid (∀ i, i < m → M.pow ((M.ptv m s).getD i 0) m = M.pow s m) := fun i hi => by rw [HP.out i hi]; exact M.pt_pow hok
      have HOPP : Hid (∀ h i j, m = 2 * h → i < m → j = (i + h) % m → (M.ptv m s).getD j 0 = M.sub 0 ((M.ptv m s).getD i 0)) := fun h i j e hi hj => by rw [HP.out i hi, HP.out j (by rw [hj]; exact Nat.mod_lt _ hN0)]; exact M.pt_opp hok e hj
      have HST : Hid ((M.ptv m s).getD 0 0 = s) := by
        show _ = _
        have hs := (M.el_iff s).1 (M.ptOk_parts hok).2.1
        rw [HP.out 0 hN0, Int.pow_zero, Int.mul_one, Int.emod_eq_of_lt hs.1 hs.2]
      have HEV : Hid (m = 1 ∨ ∃ h, m = 2 * h) := by
        show _ ∨ _
        obtain ⟨i, hi, e⟩ := M.two_nat (M.ptOk_two hok)
        cases i with
        | zero => left; rw [e]
        | succ i => right; exact ⟨2 ^ i, by rw [e, Nat.pow_succ, Nat.mul_comm]⟩
      obtain ⟨b1, o1, rfl, hc1⟩ := O_l_4.out.sees.at hN0
      have HC : Hid (∀ i, i < m → v4.cell? ⟨b1, o1 + i, none⟩ = some (.int .i64 ((M.ptv m s).getD i 0))) := hc1
      have hne0 : ((m : Int) == 0) = false := by simp; omega
      have hmN0 : ¬ m = 0 := by omega
      clear hok hc1
      go_wp2
      go_loopw [6] (fun i wr => ∃ k q : Nat, k ≤ m ∧ i = .int .i64 k ∧ wr = v4.drewN q) (fun i _ => m - (intOf i).toNat)
      case atStart => exact ⟨0, 0, by omega, rfl, rfl⟩
      case round =>
        obtain ⟨i, q, hi, rfl, hw⟩ := hrel
        have HW : Hid (wr = v4.drewN q) := hw
        clear hw
        by_cases hlt : i < m
        · have hI : (i : Int) < (m : Int) := by omega
          go_wp2
          go_loopw [7] (fun x wr => ∃ k q' : Nat, k ≤ i ∧ x = .int .i64 k ∧ wr = v4.drewN q') (fun x _ => i - (intOf x).toNat)
          case atStart => exact ⟨0, q, by omega, rfl, HW.out⟩
          case round =>
            obtain ⟨k, q', hk, rfl, hw⟩ := hrel
            have HV : Hid (wr = v4.drewN q') := hw
            have ci : wr.cell? ⟨b1, o1 + i, none⟩ = some (.int .i64 ((M.ptv m s).getD i 0)) := by rw [hw]; exact HC.out i hlt
            clear hw
            by_cases hki : k < i
            · have hK : (k : Int) < (i : Int) := by omega
              have hKm : (k : Int) < (m : Int) := by omega
              have ck : wr.cell? ⟨b1, o1 + k, none⟩ = some (.int .i64 ((M.ptv m s).getD k 0)) := by rw [HV.out]; exact HC.out k (by omega)
              have hne : ((M.ptv m s).getD k 0 == (M.ptv m s).getD i 0) = false := beq_eq_false_iff_ne.2 (HINJ.out k i hki hlt)
              generalize (M.ptv m s).getD i 0 = y at ci hne
              generalize (M.ptv m s).getD k 0 = x at ck hne
              go_wp2
              go_quiet (fail)
              go_wp2
              go_roundw
              case rel => exact ⟨k + 1, _, by omega, by go_num, by rw [HV.out]; exact World.drewN_drewN _ _ _⟩
              case measure => simp [intOf]; omega
            · have hki' : k = i := by omega
              subst hki'
              have hpw := HPOW.out k hlt
              rcases HEV.out with e1 | ⟨h, e2⟩
              · have hn2 : decide ((1 : Int) < (m : Int)) = false := by simp; omega
                have hbp : (M.pow ((M.ptv m s).getD k 0) m != M.pow s m) = false := by rw [hpw]; simp
                generalize (M.ptv m s).getD k 0 = x at ci hbp
                clear hpw e1
                go_wp2
                go_quiet (first | (go_at_call_of 21 (Value.int .i64 x); exact Calls.quiet_of_same (implPow_any x (m : Int) _ n1)) | (go_at_call_of 21 (Value.int .i64 s); exact Calls.quiet_of_same (implPow_any s (m : Int) _ n1)))
                go_wp2
                go_roundw
                case rel => exact ⟨k + 1, _, by omega, by go_num, by rw [HV.out]; exact World.drewN_drewN _ _ _⟩
                case measure => simp [intOf]; omega
              · have hn2 : (1 : Int) < (m : Int) := by omega
                have hbp : (M.pow ((M.ptv m s).getD k 0) m != M.pow s m) = false := by rw [hpw]; simp
                obtain ⟨j, hj⟩ : ∃ j, j = (k + h) % m := ⟨_, rfl⟩
                have hjm : j < m := by rw [hj]; exact Nat.mod_lt _ hN0
                have cj : wr.cell? ⟨b1, o1 + j, none⟩ = some (.int .i64 ((M.ptv m s).getD j 0)) := by rw [HV.out]; exact HC.out j hjm
                have hop := HOPP.out h k j e2 hlt hj
                have hbo : ((M.ptv m s).getD j 0 != M.sub 0 ((M.ptv m s).getD k 0)) = false := by rw [hop]; simp
                generalize (M.ptv m s).getD k 0 = x at ci hbp hbo
                generalize (M.ptv m s).getD j 0 = y at cj hbo
                have t1 : (m : Int) / 2 = (h : Int) := by omega
                have t2 : (m : Int).tdiv 2 = (h : Int) := by rw [Int.tdiv_eq_ediv_of_nonneg (by omega)]; exact t1
                obtain ⟨kh, hkh⟩ : ∃ kh, kh = k + h := ⟨_, rfl⟩
                have t3 : (k : Int) + (h : Int) = (kh : Int) := by omega
                have t4 : (kh : Int) % (m : Int) = (j : Int) := by rw [hj, ← hkh, Int.natCast_emod]
                have t5 : (kh : Int).tmod (m : Int) = (j : Int) := by rw [Int.tmod_eq_emod_of_nonneg (by omega)]; exact t4
                have w1 : IntKind.i64.wrap (h : Int) = (h : Int) := by rw [IntKind.wrap_i64]; omega
                have w2 : IntKind.i64.wrap (kh : Int) = (kh : Int) := by rw [IntKind.wrap_i64]; omega
                have w3 : IntKind.i64.wrap (j : Int) = (j : Int) := by rw [IntKind.wrap_i64]; omega
                have hjI : (j : Int) < (m : Int) := by omega
                clear hop hj hkh hpw e2
                go_wp2
                go_quiet (first | (go_at_call_of 21 (Value.int .i64 x); exact Calls.quiet_of_same (implPow_any x (m : Int) _ n1)) | (go_at_call_of 21 (Value.int .i64 s); exact Calls.quiet_of_same (implPow_any s (m : Int) _ n1)) | (go_at_call 22; exact Calls.quiet_of_same (implSub_any 0 x _)))
                go_wp2
                go_roundw
                case rel => exact ⟨k + 1, _, by omega, by go_num, by rw [HV.out]; exact World.drewN_drewN _ _ _⟩
                case measure => simp [intOf]; omega
        · have him : i = m := by omega
          subst him
          have c0 : wr.cell? ⟨b1, o1, none⟩ = some (.int .i64 s) := by rw [HW.out, ← HST.out]; exact HC.out 0 hN0
          have hm1 : ((i : Int) == (i : Int)) = true := by simp
          have hs1 : (s == s) = true := by simp
          have h0I : (0 : Int) < (i : Int) := by omega
          go_wp2
          go_ret
          exact ⟨rfl, by rw [HW.out]; exact Below.drewN' HB4.out _⟩

set_option maxRecDepth 100000 in
theorem lifted (os : Os) (started : os.Started) (H : Type) (enc : TypeId × Value → H) :
    ReturnsInHanded {} Try.checked os 4 .any (Rows.fnPointsSpec.pre6 enc Try.prog Try.f4 Rows.fnPointsRow.domain false) (Rows.fnPointsSpec.post enc Try.prog Try.f4 false true false false) := by
  refine returnsInHanded_of_change (C := Try.checked) own started (by kernel_rfl) Try.func4
    (ChangeSpec.witness6 (enc := enc) (C := Try.checked) false ⟨#[], #[.slice none 0 0], []⟩ 8 (by kernel_rfl) (by kernel_rfl) (by kernel_rfl) (by kernel_rfl)) ?_
  intro W base args ds gs before hval0 hW hcnd _
  have hval : ∀ (j : Nat) t v, Try.f4.params[j]? = some t → args[j]? = some v → Value.okWide Try.prog W .any base t v := hval0
  have hW' := hW
  obtain ⟨p, q, hA0, hV, rfl, hfz, hnd⟩ := hW
  have hA : DataW.TrodAll enc Try.prog W 0 (fun _ => true) true Try.f4.params.toList args.toList ds p := hA0
  rw [Try.params4] at hA hval
  obtain ⟨v0, vs0, d0, ds0, p0, q0, hargs, rfl, rfl, h0, r0⟩ := trodAll_cons hA
  obtain ⟨rfl, rfl, rfl⟩ := trodAll_nil r0
  obtain rfl : args = #[v0] := by cases args; simp_all
  obtain ⟨rfl, rfl⟩ := trodVars_none hV
  obtain ⟨a0, len0, cap0, rfl⟩ := okWide_slice Try.underlying22 (hval 0 22 v0 rfl rfl)
  have k0 := h0
  have lt0 : ∀ x ∈ p0, x.block < W.heap.size := by obtain ⟨m, hm⟩ := k0; exact DataW.trod_lt m _ _ _ hm
  obtain ⟨z0, w0⟩ : ∃ zs, IsRow .u8 W a0 len0 cap0 zs := by
    obtain ⟨fuel, hf⟩ := h0
    rcases open_ints Try.underlying22 Try.underlying5 (by kernel_rfl) hf with ⟨hcs, _⟩ | ⟨x, l, c, zs, hcs, _, hl, hm, hz, _, hcell, hwz⟩
    · simp [Value.cells] at hcs
      obtain ⟨rfl, rfl, rfl⟩ := hcs
      exact ⟨[], .inl ⟨rfl, rfl, rfl, rfl⟩⟩
    · simp [Value.cells] at hcs
      obtain ⟨rfl, rfl, rfl⟩ := hcs
      exact ⟨zs, .inr ⟨_, rfl, hl, hm, by simpa using hz, hcell, hwz⟩⟩
  clear hA0 hval0
  refine (walk a0 len0 cap0 z0 W w0).mono fun e W' ⟨he, bel⟩ => ?_
  subst he
  exact ⟨_, rfl, _, _, _, [], _, [], hW', trodAll_mk1 (shut_bool Try.underlying4 _), (trodAll_cons_mk (Below.trod laidOut (by kernel_rfl) (of_decide_eq_true (by kernel_rfl)) k0 bel lt0) trodAll_mk0), rfl, bel.frame _, fun h => by cases h⟩

theorem over : Rows.fnPointsRow.holds Try.pinned (OpenSpec.ofChange Rows.fnPointsSpec) :=
  OpenClaim.holds_of_wide 4 Try.f4 rfl rfl rfl rfl rfl rfl rfl ⟨rfl, rfl, rfl, rfl, rfl⟩ rfl rfl rfl rfl rfl (by kernel_rfl) Try.func4 (by kernel_rfl)
    (of_decide_eq_true (by kernel_rfl)) (by unfold Func.isWrapper; first | (rw [if_pos (by decide +kernel)]; kernel_rfl) | (rw [if_neg (by decide +kernel)]; exact ⟨rfl, rfl⟩))
    (fun os started H enc _ => lifted os started H enc)

theorem proved : Rows.FnPointsSaid := over
end Go.Proofs.Ytjeoenieoejolab.fnPoints
namespace Go.Proofs.Ytjeoenieoejolab
theorem fnPoints_holds : Rows.FnPointsSaid := fnPoints.proved
#print axioms fnPoints_holds
end Go.Proofs.Ytjeoenieoejolab
