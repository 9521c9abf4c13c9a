/- At every machine and every list of states TraceOk answers as its model, and its argument stays as it was. -/
import Derived.Test.YtjeoenieoejolaiRows
import Derived.WalkKit
import Derived.ProofKit
import Derived.OpenShut
import Derived.ShutString
import Derived.ChangeOld
import Derived.Below
import Derived.Test.YtjeoenieoejolaiMaN
import Derived.Test.YtjeoenieoejolaiMaX
import Derived.Test.YtjeoenieoejolaiMaY
import Derived.Test.YtjeoenieoejolaiMaU
import Derived.Test.YtjeoenieoejolaiMaM
import Derived.Test.YtjeoenieoejolaiMaO
namespace Go.Proofs.Ytjeoenieoejolai.fnExactTraceOk
open Go.ChangeShapes Go.WideShapes Go.ChangeAt Go.RowKit
set_option linter.unusedVariables false

theorem own : ownKnob Try.prog.godebug = none := by kernel_rfl
theorem laidOut : laidOutB Try.prog = true := by kernel_rfl

set_option maxHeartbeats 8000000 in
set_option maxRecDepth 100000 in
theorem walk (a0 : M.Mc) (a1 : Option Addr) (len1 cap1 : Nat) (z1 : List (Int × Int)) (w : World) (hs1 : SeesQ w a1 len1 cap1 z1) :
    Calls Try.prog 6 #[mcv a0, .slice a1 len1 cap1] w fun e w' => e = .returned (.bool true) ∧ Below w.heap.size w w' := by
  have CT := toMachine_any a0
  have CS : ∀ (la : Option Addr) (W : World), SeesQ W la len1 len1 z1 → Calls Try.prog 21 #[mcv a0, .slice la len1 len1] W fun e w' => e = .returned (.bool (M.traceOk a0 z1)) ∧ Below W.heap.size W w' := fun la W h => specTraceOk_any a0 W h
  have CI : ∀ (la : Option Addr) (W : World), SeesQ W la len1 len1 z1 → Calls Try.prog 23 #[mcv a0, .slice la len1 len1] W fun e w' => e = .returned (.bool (M.traceOk a0 z1)) ∧ Below W.heap.size W w' := fun la W h => implTraceOk_any a0 W h
  have HZ : Hid (SeesQ w a1 len1 cap1 z1) := hs1
  have bn : (len1 : Int) ≤ 9223372036854775807 := by have := hs1.big; have := hs1.le; omega
  clear hs1
  generalize M.traceOk a0 z1 = o at CS CI
  obtain ⟨⟨a, b, c, d, f, k⟩, ⟨a', b', c', d', f', k'⟩⟩ := a0
  dsimp only [mcv] at CT CS CI ⊢
  have HK : Hid (∀ W, Below (w.heap.size + 1) (w.alloc (.cells #[.int .i64 a, .int .i64 b, .int .i64 c, .int .i64 d, .int .i64 f, .int .i64 k, .int .i64 a', .int .i64 b', .int .i64 c', .int .i64 d', .int .i64 f', .int .i64 k'] 25)) W → W.cell? ⟨w.heap.size, 0, none⟩ = some (.int .i64 a) ∧ W.cell? ⟨w.heap.size, 1, none⟩ = some (.int .i64 b) ∧ W.cell? ⟨w.heap.size, 2, none⟩ = some (.int .i64 c) ∧ W.cell? ⟨w.heap.size, 3, none⟩ = some (.int .i64 d) ∧ W.cell? ⟨w.heap.size, 4, none⟩ = some (.int .i64 f) ∧ W.cell? ⟨w.heap.size, 5, none⟩ = some (.int .i64 k) ∧ W.cell? ⟨w.heap.size, 6, none⟩ = some (.int .i64 a') ∧ W.cell? ⟨w.heap.size, 7, none⟩ = some (.int .i64 b') ∧ W.cell? ⟨w.heap.size, 8, none⟩ = some (.int .i64 c') ∧ W.cell? ⟨w.heap.size, 9, none⟩ = some (.int .i64 d') ∧ W.cell? ⟨w.heap.size, 10, none⟩ = some (.int .i64 f') ∧ W.cell? ⟨w.heap.size, 11, none⟩ = some (.int .i64 k')) := fun W hW => ⟨(hW.cell (p := ⟨w.heap.size, 0, none⟩) (by simp)).trans (World.cell?_alloc_new _ _ _ 0), (hW.cell (p := ⟨w.heap.size, 1, none⟩) (by simp)).trans (World.cell?_alloc_new _ _ _ 1), (hW.cell (p := ⟨w.heap.size, 2, none⟩) (by simp)).trans (World.cell?_alloc_new _ _ _ 2), (hW.cell (p := ⟨w.heap.size, 3, none⟩) (by simp)).trans (World.cell?_alloc_new _ _ _ 3), (hW.cell (p := ⟨w.heap.size, 4, none⟩) (by simp)).trans (World.cell?_alloc_new _ _ _ 4), (hW.cell (p := ⟨w.heap.size, 5, none⟩) (by simp)).trans (World.cell?_alloc_new _ _ _ 5), (hW.cell (p := ⟨w.heap.size, 6, none⟩) (by simp)).trans (World.cell?_alloc_new _ _ _ 6), (hW.cell (p := ⟨w.heap.size, 7, none⟩) (by simp)).trans (World.cell?_alloc_new _ _ _ 7), (hW.cell (p := ⟨w.heap.size, 8, none⟩) (by simp)).trans (World.cell?_alloc_new _ _ _ 8), (hW.cell (p := ⟨w.heap.size, 9, none⟩) (by simp)).trans (World.cell?_alloc_new _ _ _ 9), (hW.cell (p := ⟨w.heap.size, 10, none⟩) (by simp)).trans (World.cell?_alloc_new _ _ _ 10), (hW.cell (p := ⟨w.heap.size, 11, none⟩) (by simp)).trans (World.cell?_alloc_new _ _ _ 11)⟩
  have HBa : Hid (Below w.heap.size w (w.alloc (.cells #[.int .i64 a, .int .i64 b, .int .i64 c, .int .i64 d, .int .i64 f, .int .i64 k, .int .i64 a', .int .i64 b', .int .i64 c', .int .i64 d', .int .i64 f', .int .i64 k'] 25))) := (Below.refl _ _).alloc (Nat.le_refl _) _
  have CZ := fun W => szStateS_any a1 len1 cap1 1048576 W bn (by omega) (by omega)
  by_cases hbig : (1048576 : Int) - (len1 : Int) < 0
  · rw [if_pos hbig] at CZ
    go_enter Try.func6, Try.ntmps6
    go_wp2_with fail
    refine (CZ _).mono ?_
    rintro e w1 ⟨rfl, rfl⟩
    go_wp2
    go_ret
    exact ⟨rfl, HBa.out⟩
  · rw [if_neg hbig] at CZ
    have hn : len1 ≤ 1048576 := by omega
    have hsz : (w.alloc (.cells #[.int .i64 a, .int .i64 b, .int .i64 c, .int .i64 d, .int .i64 f, .int .i64 k, .int .i64 a', .int .i64 b', .int .i64 c', .int .i64 d', .int .i64 f', .int .i64 k'] 25)).heap.size = w.heap.size + 1 := by simp
    go_enter Try.func6, Try.ntmps6
    go_wp2_with fail
    refine (CZ _).mono ?_
    rintro e w1 ⟨rfl, rfl⟩
    generalize (w.alloc (.cells #[.int .i64 a, .int .i64 b, .int .i64 c, .int .i64 d, .int .i64 f, .int .i64 k, .int .i64 a', .int .i64 b', .int .i64 c', .int .i64 d', .int .i64 f', .int .i64 k'] 25)) = wa at HK HBa hsz ⊢
    have AT : ∀ wc, Below (w.heap.size + 1) wa wc → Calls Try.prog 9 #[.agg #[.int .i64 a, .int .i64 b, .int .i64 c, .int .i64 d, .int .i64 f, .int .i64 k, .int .i64 a', .int .i64 b', .int .i64 c', .int .i64 d', .int .i64 f', .int .i64 k']] wc fun e w' => e = .returned (.agg #[.int .i64 a, .int .i64 b, .int .i64 c, .int .i64 d, .int .i64 f, .int .i64 k, .int .i64 a', .int .i64 b', .int .i64 c', .int .i64 d', .int .i64 f', .int .i64 k']) ∧ Below (w.heap.size + 1) wa w' := fun wc h => (CT wc).mono fun _ _ hh => ⟨hh.1, h.trans (hh.2.mono (by have := h.size; omega))⟩
    have AQ : ∀ wc, Below (w.heap.size + 1) wa wc → Calls Try.prog 22 #[.slice a1 len1 cap1] wc fun e w' => ∃ x, e = .returned (.slice x len1 len1) ∧ SeesQ w' x len1 len1 z1 ∧ Below (w.heap.size + 1) wa w' ∧ Below wc.heap.size wc w' := fun wc h => (toStateS_any wc (HZ.out.below (HBa.out.trans (h.mono (by omega)))) hn).mono fun _ _ ⟨x, he, hs, hb⟩ => ⟨x, he, hs, h.trans (hb.mono (by have := h.size; omega)), hb⟩
    have AS : ∀ x wc, SeesQ wc x len1 len1 z1 → Below (w.heap.size + 1) wa wc → Calls Try.prog 21 #[.agg #[.int .i64 a, .int .i64 b, .int .i64 c, .int .i64 d, .int .i64 f, .int .i64 k, .int .i64 a', .int .i64 b', .int .i64 c', .int .i64 d', .int .i64 f', .int .i64 k'], .slice x len1 len1] wc fun e w' => e = .returned (.bool o) ∧ Below (w.heap.size + 1) wa w' := fun x wc hs h => (CS x wc hs).mono fun _ _ hh => ⟨hh.1, h.trans (hh.2.mono (by have := h.size; omega))⟩
    have hb0 : Below (w.heap.size + 1) wa wa.drew := (Below.refl _ _).drew
    obtain ⟨q0, q1, q2, q3, q4, q5, q6, q7, q8, q9, q10, q11⟩ := HK.out wa (Below.refl _ _)
    go_wp2_with fail
    refine (AT _ (Below.refl _ _)).mono ?_
    rintro e w2 ⟨rfl, hb2⟩
    clear q0 q1 q2 q3 q4 q5 q6 q7 q8 q9 q10 q11
    go_wp2_with fail
    refine (AQ _ hb2).mono ?_
    rintro e w3 ⟨x3, rfl, hx3, hb3, hcc⟩
    go_wp2_with fail
    refine (AS _ _ hx3 hb3).mono ?_
    rintro e w4 ⟨rfl, hbb⟩
    have HB4 : Hid (Below (w.heap.size + 1) wa w4) := hbb
    clear hbb hcc hx3 hb0 hb2 hb3
    go_wp2_with fail
    refine (AQ _ HB4.out).mono ?_
    rintro e w5 ⟨x, rfl, hx5, hb5, hc5⟩
    have HX5 : Hid (SeesQ w5 x len1 len1 z1) := hx5
    have HB5 : Hid (Below (w.heap.size + 1) wa w5) := hb5
    have hb5' : Below w5.heap.size w5 w5.drew := (Below.refl _ _).drew
    have HK5 : Hid (∀ W, Below w5.heap.size w5 W → W.cell? ⟨w.heap.size, 0, none⟩ = some (.int .i64 a) ∧ W.cell? ⟨w.heap.size, 1, none⟩ = some (.int .i64 b) ∧ W.cell? ⟨w.heap.size, 2, none⟩ = some (.int .i64 c) ∧ W.cell? ⟨w.heap.size, 3, none⟩ = some (.int .i64 d) ∧ W.cell? ⟨w.heap.size, 4, none⟩ = some (.int .i64 f) ∧ W.cell? ⟨w.heap.size, 5, none⟩ = some (.int .i64 k) ∧ W.cell? ⟨w.heap.size, 6, none⟩ = some (.int .i64 a') ∧ W.cell? ⟨w.heap.size, 7, none⟩ = some (.int .i64 b') ∧ W.cell? ⟨w.heap.size, 8, none⟩ = some (.int .i64 c') ∧ W.cell? ⟨w.heap.size, 9, none⟩ = some (.int .i64 d') ∧ W.cell? ⟨w.heap.size, 10, none⟩ = some (.int .i64 f') ∧ W.cell? ⟨w.heap.size, 11, none⟩ = some (.int .i64 k')) := fun W h => HK.out W (HB5.out.trans (h.mono (by have := HB5.out.size; omega)))
    clear hx5 hb5 hc5 AT
    have AT : ∀ wc, Below w5.heap.size w5 wc → Calls Try.prog 9 #[.agg #[.int .i64 a, .int .i64 b, .int .i64 c, .int .i64 d, .int .i64 f, .int .i64 k, .int .i64 a', .int .i64 b', .int .i64 c', .int .i64 d', .int .i64 f', .int .i64 k']] wc fun e w' => e = .returned (.agg #[.int .i64 a, .int .i64 b, .int .i64 c, .int .i64 d, .int .i64 f, .int .i64 k, .int .i64 a', .int .i64 b', .int .i64 c', .int .i64 d', .int .i64 f', .int .i64 k']) ∧ Below w5.heap.size w5 w' := fun wc h => (CT wc).mono fun _ _ hh => ⟨hh.1, h.trans (hh.2.mono h.size)⟩
    have AI : ∀ wc, Below w5.heap.size w5 wc → Calls Try.prog 23 #[.agg #[.int .i64 a, .int .i64 b, .int .i64 c, .int .i64 d, .int .i64 f, .int .i64 k, .int .i64 a', .int .i64 b', .int .i64 c', .int .i64 d', .int .i64 f', .int .i64 k'], .slice x len1 len1] wc fun e w' => e = .returned (.bool o) ∧ Below w5.heap.size w5 w' := fun wc h => (CI x wc (HX5.out.below h)).mono fun _ _ hh => ⟨hh.1, h.trans (hh.2.mono h.size)⟩
    have n1 : (o != o) = false := by simp
    obtain ⟨q0, q1, q2, q3, q4, q5, q6, q7, q8, q9, q10, q11⟩ := HK5.out w5 (Below.refl _ _)
    go_wp2_with fail
    refine (AT _ (Below.refl _ _)).mono ?_
    rintro e w6 ⟨rfl, hb6⟩
    clear q0 q1 q2 q3 q4 q5 q6 q7 q8 q9 q10 q11
    go_wp2_with fail
    refine (AI _ hb6).mono ?_
    rintro e w7 ⟨rfl, hbb⟩
    have HB7 : Hid (Below (w.heap.size + 1) wa w7) := HB5.out.trans (hbb.mono (by have := HB5.out.size; omega))
    have HX7 : Hid (SeesQ w7 x len1 len1 z1) := HX5.out.below hbb
    clear hbb hb6 hb5' AT AI
    go_wp2_with fail
    refine (AQ _ HB7.out).mono ?_
    rintro e w8 ⟨y, rfl, hy8, hb8, hc8⟩
    have HY8 : Hid (SeesQ w8 y len1 len1 z1) := hy8
    have HB8 : Hid (Below (w.heap.size + 1) wa w8) := hb8
    have HX8 : Hid (SeesQ w8 x len1 len1 z1) := HX7.out.below hc8
    clear hy8 hb8 hc8
    go_wp2_with fail
    refine (eqQ_same _ HX8.out HY8.out).mono ?_
    rintro e w9 ⟨rfl, hb9⟩
    go_wp2
    go_ret
    exact ⟨rfl, HBa.out.trans ((HB8.out.mono (by omega)).trans (hb9.mono (by have := HB8.out.size; omega)))⟩

set_option maxRecDepth 100000 in
theorem lifted (os : Os) (started : os.Started) (H : Type) (enc : TypeId × Value → H) :
    ReturnsInHanded {} Try.checked os 6 .any (Rows.fnExactTraceOkSpec.pre6 enc Try.prog Try.f6 Rows.fnExactTraceOkRow.domain false) (Rows.fnExactTraceOkSpec.post enc Try.prog Try.f6 false true false false) := by
  refine returnsInHanded_of_change (C := Try.checked) own started (by kernel_rfl) Try.func6
    (ChangeSpec.witness6 (enc := enc) (C := Try.checked) false ⟨#[], #[.agg #[.int .i64 0, .int .i64 0, .int .i64 0, .int .i64 0, .int .i64 0, .int .i64 0, .int .i64 0, .int .i64 0, .int .i64 0, .int .i64 0, .int .i64 0, .int .i64 0], .slice none 0 0], []⟩ 8 (by kernel_rfl) (by kernel_rfl) (by kernel_rfl) (by kernel_rfl)) ?_
  intro W base args ds gs before hval0 hW hcnd _
  have hval : ∀ (j : Nat) t v, Try.f6.params[j]? = some t → args[j]? = some v → Value.okWide Try.prog W .any base t v := hval0
  have hW' := hW
  obtain ⟨p, q, hA0, hV, rfl, hfz, hnd⟩ := hW
  have hA : DataW.TrodAll enc Try.prog W 0 (fun _ => true) true Try.f6.params.toList args.toList ds p := hA0
  rw [Try.params6] at hA hval
  obtain ⟨v0, vs0, d0, ds0, p0, q0, hargs, rfl, rfl, h0, r0⟩ := trodAll_cons hA
  obtain ⟨v1, vs1, d1, ds1, p1, q1, rfl, rfl, rfl, h1, r1⟩ := trodAll_cons r0
  obtain ⟨rfl, rfl, rfl⟩ := trodAll_nil r1
  obtain rfl : args = #[v0, v1] := by cases args; simp_all
  obtain ⟨rfl, rfl⟩ := trodVars_none hV
  obtain ⟨a0, rfl⟩ := open_machine (hval 0 25 v0 rfl rfl)
  have k0 := h0
  have lt0 : ∀ x ∈ p0, x.block < W.heap.size := by obtain ⟨m, hm⟩ := k0; exact DataW.trod_lt m _ _ _ hm
  obtain ⟨a1, len1, cap1, rfl⟩ := okWide_slice Try.underlying45 (hval 1 45 v1 rfl rfl)
  have k1 := h1
  have lt1 : ∀ x ∈ p1, x.block < W.heap.size := by obtain ⟨m, hm⟩ := k1; exact DataW.trod_lt m _ _ _ hm
  obtain ⟨z1, hs1⟩ := open_states h1
  clear hA0 hval0
  refine (walk a0 a1 len1 cap1 z1 W hs1).mono fun e W' ⟨he, bel⟩ => ?_
  subst he
  exact ⟨_, rfl, _, _, _, [], _, [], hW', trodAll_mk1 (shut_bool Try.underlying4 _), (trodAll_cons_mk (Below.trod laidOut (by kernel_rfl) (of_decide_eq_true (by kernel_rfl)) k0 bel lt0) (trodAll_cons_mk (Below.trod laidOut (by kernel_rfl) (of_decide_eq_true (by kernel_rfl)) k1 bel lt1) trodAll_mk0)), rfl, bel.frame _, fun h => by cases h⟩

theorem over : Rows.fnExactTraceOkRow.holds Try.pinned (OpenSpec.ofChange Rows.fnExactTraceOkSpec) :=
  OpenClaim.holds_of_wide 6 Try.f6 rfl rfl rfl rfl rfl rfl rfl ⟨rfl, rfl, rfl, rfl, rfl⟩ rfl rfl rfl rfl rfl (by kernel_rfl) Try.func6 (by kernel_rfl)
    (of_decide_eq_true (by kernel_rfl)) (by unfold Func.isWrapper; first | (rw [if_pos (by decide +kernel)]; kernel_rfl) | (rw [if_neg (by decide +kernel)]; exact ⟨rfl, rfl⟩))
    (fun os started H enc _ => lifted os started H enc)

theorem proved : Rows.FnExactTraceOkSaid := over
end Go.Proofs.Ytjeoenieoejolai.fnExactTraceOk
namespace Go.Proofs.Ytjeoenieoejolai
theorem fnExactTraceOk_holds : Rows.FnExactTraceOkSaid := fnExactTraceOk.proved
#print axioms fnExactTraceOk_holds
end Go.Proofs.Ytjeoenieoejolai
