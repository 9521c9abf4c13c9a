/- At every machine and claim Holds answers as its model, and nothing is written that was there before. -/
import Derived.Test.YtjeoenieoejolajRows
import Derived.WalkKit
import Derived.ProofKit
import Derived.OpenShut
import Derived.ShutString
import Derived.ChangeOld
import Derived.Below
import Derived.Test.YtjeoenieoejolajClH
import Derived.Test.YtjeoenieoejolajClB
import Derived.Test.YtjeoenieoejolajMaO
namespace Go.Proofs.Ytjeoenieoejolaj.fnExactHolds
open Go.ChangeShapes Go.WideShapes Go.ChangeAt Go.RowKit
set_option linter.unusedVariables false

theorem own : ownKnob Try.prog.godebug = none := by kernel_rfl
theorem laidOut : laidOutB Try.prog = true := by kernel_rfl

set_option maxHeartbeats 8000000 in
set_option maxRecDepth 100000 in
theorem walk (a0 : M.Mc) (a1 : M.Cl) (w : World) :
    Calls Try.prog 3 #[mcv a0, clv a1] w fun e w' => e = .returned (.bool true) ∧ Below w.heap.size w w' := by
  have CT := toMachine_any a0
  have CU := toClaim_any a1
  have CS := specHolds_any a0 a1
  have CI := implHolds_any a0 a1
  generalize M.holds a0 a1 = o at CS CI
  obtain ⟨⟨a, b, c, d, f, k⟩, ⟨a', b', c', d', f', k'⟩⟩ := a0
  obtain ⟨⟨x, y⟩, ⟨x', y'⟩, n⟩ := a1
  dsimp only [mcv, clv] at CT CU CS CI ⊢
  have HK : Hid (∀ W, Below (w.heap.size + 2) ((w.alloc (.cells #[.int .i64 a, .int .i64 b, .int .i64 c, .int .i64 d, .int .i64 f, .int .i64 k, .int .i64 a', .int .i64 b', .int .i64 c', .int .i64 d', .int .i64 f', .int .i64 k'] 25)).alloc (.cells #[.int .i64 x, .int .i64 y, .int .i64 x', .int .i64 y', .int .i64 n] 29)) W → W.cell? ⟨w.heap.size, 0, none⟩ = some (.int .i64 a) ∧ W.cell? ⟨w.heap.size, 1, none⟩ = some (.int .i64 b) ∧ W.cell? ⟨w.heap.size, 2, none⟩ = some (.int .i64 c) ∧ W.cell? ⟨w.heap.size, 3, none⟩ = some (.int .i64 d) ∧ W.cell? ⟨w.heap.size, 4, none⟩ = some (.int .i64 f) ∧ W.cell? ⟨w.heap.size, 5, none⟩ = some (.int .i64 k) ∧ W.cell? ⟨w.heap.size, 6, none⟩ = some (.int .i64 a') ∧ W.cell? ⟨w.heap.size, 7, none⟩ = some (.int .i64 b') ∧ W.cell? ⟨w.heap.size, 8, none⟩ = some (.int .i64 c') ∧ W.cell? ⟨w.heap.size, 9, none⟩ = some (.int .i64 d') ∧ W.cell? ⟨w.heap.size, 10, none⟩ = some (.int .i64 f') ∧ W.cell? ⟨w.heap.size, 11, none⟩ = some (.int .i64 k') ∧ W.cell? ⟨w.heap.size + 1, 0, none⟩ = some (.int .i64 x) ∧ W.cell? ⟨w.heap.size + 1, 1, none⟩ = some (.int .i64 y) ∧ W.cell? ⟨w.heap.size + 1, 2, none⟩ = some (.int .i64 x') ∧ W.cell? ⟨w.heap.size + 1, 3, none⟩ = some (.int .i64 y') ∧ W.cell? ⟨w.heap.size + 1, 4, none⟩ = some (.int .i64 n)) := fun W hW => by
    have LM := ((lies_new w #[.int .i64 a, .int .i64 b, .int .i64 c, .int .i64 d, .int .i64 f, .int .i64 k, .int .i64 a', .int .i64 b', .int .i64 c', .int .i64 d', .int .i64 f', .int .i64 k'] 25).alloc (.cells #[.int .i64 x, .int .i64 y, .int .i64 x', .int .i64 y', .int .i64 n] 29)).below hW (by omega)
    have LC := (lies_new2 w (.cells #[.int .i64 a, .int .i64 b, .int .i64 c, .int .i64 d, .int .i64 f, .int .i64 k, .int .i64 a', .int .i64 b', .int .i64 c', .int .i64 d', .int .i64 f', .int .i64 k'] 25) #[.int .i64 x, .int .i64 y, .int .i64 x', .int .i64 y', .int .i64 n] 29).below hW (by omega)
    exact ⟨LM.at 0, LM.at 1, LM.at 2, LM.at 3, LM.at 4, LM.at 5, LM.at 6, LM.at 7, LM.at 8, LM.at 9, LM.at 10, LM.at 11, LC.at 0, LC.at 1, LC.at 2, LC.at 3, LC.at 4⟩
  have HBa : Hid (Below w.heap.size w ((w.alloc (.cells #[.int .i64 a, .int .i64 b, .int .i64 c, .int .i64 d, .int .i64 f, .int .i64 k, .int .i64 a', .int .i64 b', .int .i64 c', .int .i64 d', .int .i64 f', .int .i64 k'] 25)).alloc (.cells #[.int .i64 x, .int .i64 y, .int .i64 x', .int .i64 y', .int .i64 n] 29))) := ((Below.refl _ _).alloc (Nat.le_refl _) _).alloc (by simp) _
  have hsz : ((w.alloc (.cells #[.int .i64 a, .int .i64 b, .int .i64 c, .int .i64 d, .int .i64 f, .int .i64 k, .int .i64 a', .int .i64 b', .int .i64 c', .int .i64 d', .int .i64 f', .int .i64 k'] 25)).alloc (.cells #[.int .i64 x, .int .i64 y, .int .i64 x', .int .i64 y', .int .i64 n] 29)).heap.size = w.heap.size + 2 := by simp
  generalize hwa : ((w.alloc (.cells #[.int .i64 a, .int .i64 b, .int .i64 c, .int .i64 d, .int .i64 f, .int .i64 k, .int .i64 a', .int .i64 b', .int .i64 c', .int .i64 d', .int .i64 f', .int .i64 k'] 25)).alloc (.cells #[.int .i64 x, .int .i64 y, .int .i64 x', .int .i64 y', .int .i64 n] 29)) = wa at HK HBa hsz
  have HWA : Hid (((w.alloc (.cells #[.int .i64 a, .int .i64 b, .int .i64 c, .int .i64 d, .int .i64 f, .int .i64 k, .int .i64 a', .int .i64 b', .int .i64 c', .int .i64 d', .int .i64 f', .int .i64 k'] 25)).alloc (.cells #[.int .i64 x, .int .i64 y, .int .i64 x', .int .i64 y', .int .i64 n] 29)) = wa) := hwa
  clear hwa
  have AT : ∀ wc, Below (w.heap.size + 2) wa wc → Calls Try.prog 8 #[.agg #[.int .i64 a, .int .i64 b, .int .i64 c, .int .i64 d, .int .i64 f, .int .i64 k, .int .i64 a', .int .i64 b', .int .i64 c', .int .i64 d', .int .i64 f', .int .i64 k']] wc fun e w' => e = .returned (.agg #[.int .i64 a, .int .i64 b, .int .i64 c, .int .i64 d, .int .i64 f, .int .i64 k, .int .i64 a', .int .i64 b', .int .i64 c', .int .i64 d', .int .i64 f', .int .i64 k']) ∧ Below (w.heap.size + 2) wa w' := fun wc h => (CT wc).mono fun _ _ hh => ⟨hh.1, h.trans (hh.2.mono (by have := h.size; omega))⟩
  have AU : ∀ wc, Below (w.heap.size + 2) wa wc → Calls Try.prog 9 #[.agg #[.int .i64 x, .int .i64 y, .int .i64 x', .int .i64 y', .int .i64 n]] wc fun e w' => e = .returned (.agg #[.int .i64 x, .int .i64 y, .int .i64 x', .int .i64 y', .int .i64 n]) ∧ Below (w.heap.size + 2) wa w' := fun wc h => (CU wc).mono fun _ _ hh => ⟨hh.1, h.trans (hh.2.mono (by have := h.size; omega))⟩
  have AS : ∀ wc, Below (w.heap.size + 2) wa wc → Calls Try.prog 7 #[.agg #[.int .i64 a, .int .i64 b, .int .i64 c, .int .i64 d, .int .i64 f, .int .i64 k, .int .i64 a', .int .i64 b', .int .i64 c', .int .i64 d', .int .i64 f', .int .i64 k'], .agg #[.int .i64 x, .int .i64 y, .int .i64 x', .int .i64 y', .int .i64 n]] wc fun e w' => e = .returned (.bool o) ∧ Below (w.heap.size + 2) wa w' := fun wc h => (CS wc).mono fun _ _ hh => ⟨hh.1, h.trans (hh.2.mono (by have := h.size; omega))⟩
  have AI : ∀ wc, Below (w.heap.size + 2) wa wc → Calls Try.prog 10 #[.agg #[.int .i64 a, .int .i64 b, .int .i64 c, .int .i64 d, .int .i64 f, .int .i64 k, .int .i64 a', .int .i64 b', .int .i64 c', .int .i64 d', .int .i64 f', .int .i64 k'], .agg #[.int .i64 x, .int .i64 y, .int .i64 x', .int .i64 y', .int .i64 n]] wc fun e w' => e = .returned (.bool o) ∧ Below (w.heap.size + 2) wa w' := fun wc h => (CI wc).mono fun _ _ hh => ⟨hh.1, h.trans (hh.2.mono (by have := h.size; omega))⟩
  have hb0 : Below (w.heap.size + 2) wa wa.drew := (Below.refl _ _).drew
  have HSZ : Hid (wa.heap.size = w.heap.size + 2) := hsz
  clear hsz
  have n1 : (o != o) = false := by simp
  go_enter Try.func3, Try.ntmps3
  go_wp2
  rw [HWA.out]
  go_region_held3 (fun W => W.cell? ⟨w.heap.size, 0, none⟩ = some (.int .i64 a) ∧ W.cell? ⟨w.heap.size, 1, none⟩ = some (.int .i64 b) ∧ W.cell? ⟨w.heap.size, 2, none⟩ = some (.int .i64 c) ∧ W.cell? ⟨w.heap.size, 3, none⟩ = some (.int .i64 d) ∧ W.cell? ⟨w.heap.size, 4, none⟩ = some (.int .i64 f) ∧ W.cell? ⟨w.heap.size, 5, none⟩ = some (.int .i64 k) ∧ W.cell? ⟨w.heap.size, 6, none⟩ = some (.int .i64 a') ∧ W.cell? ⟨w.heap.size, 7, none⟩ = some (.int .i64 b') ∧ W.cell? ⟨w.heap.size, 8, none⟩ = some (.int .i64 c') ∧ W.cell? ⟨w.heap.size, 9, none⟩ = some (.int .i64 d') ∧ W.cell? ⟨w.heap.size, 10, none⟩ = some (.int .i64 f') ∧ W.cell? ⟨w.heap.size, 11, none⟩ = some (.int .i64 k') ∧ W.cell? ⟨w.heap.size + 1, 0, none⟩ = some (.int .i64 x) ∧ W.cell? ⟨w.heap.size + 1, 1, none⟩ = some (.int .i64 y) ∧ W.cell? ⟨w.heap.size + 1, 2, none⟩ = some (.int .i64 x') ∧ W.cell? ⟨w.heap.size + 1, 3, none⟩ = some (.int .i64 y') ∧ W.cell? ⟨w.heap.size + 1, 4, none⟩ = some (.int .i64 n)) (first | exact HK.out _ hbb | exact HK.out _ hb0)
    (first
      | (go_at_call 8; refine (AT _ hb0).mono ?_; rintro e w1a ⟨rfl, hbb⟩)
      | (go_at_call 9; refine (AU _ hbb).mono ?_; rintro e w1b ⟨rfl, hbb⟩)
      | (go_at_call 7; refine (AS _ hbb).mono ?_; rintro e w1 ⟨rfl, hbb⟩))
  have HB1 : Hid (Below (w.heap.size + 2) wa w1) := hbb
  have hb1 : Below (w.heap.size + 2) wa w1.drew := hbb.drew
  clear hbb hb0
  go_wp2
  go_region_held3 (fun W => W.cell? ⟨w.heap.size, 0, none⟩ = some (.int .i64 a) ∧ W.cell? ⟨w.heap.size, 1, none⟩ = some (.int .i64 b) ∧ W.cell? ⟨w.heap.size, 2, none⟩ = some (.int .i64 c) ∧ W.cell? ⟨w.heap.size, 3, none⟩ = some (.int .i64 d) ∧ W.cell? ⟨w.heap.size, 4, none⟩ = some (.int .i64 f) ∧ W.cell? ⟨w.heap.size, 5, none⟩ = some (.int .i64 k) ∧ W.cell? ⟨w.heap.size, 6, none⟩ = some (.int .i64 a') ∧ W.cell? ⟨w.heap.size, 7, none⟩ = some (.int .i64 b') ∧ W.cell? ⟨w.heap.size, 8, none⟩ = some (.int .i64 c') ∧ W.cell? ⟨w.heap.size, 9, none⟩ = some (.int .i64 d') ∧ W.cell? ⟨w.heap.size, 10, none⟩ = some (.int .i64 f') ∧ W.cell? ⟨w.heap.size, 11, none⟩ = some (.int .i64 k') ∧ W.cell? ⟨w.heap.size + 1, 0, none⟩ = some (.int .i64 x) ∧ W.cell? ⟨w.heap.size + 1, 1, none⟩ = some (.int .i64 y) ∧ W.cell? ⟨w.heap.size + 1, 2, none⟩ = some (.int .i64 x') ∧ W.cell? ⟨w.heap.size + 1, 3, none⟩ = some (.int .i64 y') ∧ W.cell? ⟨w.heap.size + 1, 4, none⟩ = some (.int .i64 n)) (first | exact HK.out _ hbb | exact HK.out _ hb1)
    (first
      | (go_at_call 8; refine (AT _ hb1).mono ?_; rintro e w2a ⟨rfl, hbb⟩)
      | (go_at_call 9; refine (AU _ hbb).mono ?_; rintro e w2b ⟨rfl, hbb⟩)
      | (go_at_call 10; refine (AI _ hbb).mono ?_; rintro e w2 ⟨rfl, hbb⟩))
  have HB2 : Hid (Below (w.heap.size + 2) wa w2) := hbb
  clear hbb hb1
  go_wp2
  go_ret
  exact ⟨rfl, HBa.out.trans (HB2.out.mono (by omega))⟩

set_option maxRecDepth 100000 in
theorem lifted (os : Os) (started : os.Started) (H : Type) (enc : TypeId × Value → H) :
    ReturnsInHanded {} Try.checked os 3 .any (Rows.fnExactHoldsSpec.pre6 enc Try.prog Try.f3 Rows.fnExactHoldsRow.domain false) (Rows.fnExactHoldsSpec.post enc Try.prog Try.f3 false true false false) := by
  refine returnsInHanded_of_change (C := Try.checked) own started (by kernel_rfl) Try.func3
    (ChangeSpec.witness6 (enc := enc) (C := Try.checked) false ⟨#[], #[.agg #[.int .i64 0, .int .i64 0, .int .i64 0, .int .i64 0, .int .i64 0, .int .i64 0, .int .i64 0, .int .i64 0, .int .i64 0, .int .i64 0, .int .i64 0, .int .i64 0], .agg #[.int .i64 0, .int .i64 0, .int .i64 0, .int .i64 0, .int .i64 0]], []⟩ 8 (by kernel_rfl) (by kernel_rfl) (by kernel_rfl) (by kernel_rfl)) ?_
  intro W base args ds gs before hval0 hW hcnd _
  have hval : ∀ (j : Nat) t v, Try.f3.params[j]? = some t → args[j]? = some v → Value.okWide Try.prog W .any base t v := hval0
  have hW' := hW
  obtain ⟨p, q, hA0, hV, rfl, hfz, hnd⟩ := hW
  have hA : DataW.TrodAll enc Try.prog W 0 (fun _ => true) true Try.f3.params.toList args.toList ds p := hA0
  rw [Try.params3] at hA hval
  obtain ⟨v0, vs0, d0, ds0, p0, q0, hargs, rfl, rfl, h0, r0⟩ := trodAll_cons hA
  obtain ⟨v1, vs1, d1, ds1, p1, q1, rfl, rfl, rfl, h1, r1⟩ := trodAll_cons r0
  obtain ⟨rfl, rfl, rfl⟩ := trodAll_nil r1
  obtain rfl : args = #[v0, v1] := by cases args; simp_all
  obtain ⟨rfl, rfl⟩ := trodVars_none hV
  obtain ⟨a0, rfl⟩ := open_machine (hval 0 25 v0 rfl rfl)
  have k0 := h0
  have lt0 : ∀ x ∈ p0, x.block < W.heap.size := by obtain ⟨m, hm⟩ := k0; exact DataW.trod_lt m _ _ _ hm
  obtain ⟨a1, rfl⟩ := open_claim (hval 1 29 v1 rfl rfl)
  have k1 := h1
  have lt1 : ∀ x ∈ p1, x.block < W.heap.size := by obtain ⟨m, hm⟩ := k1; exact DataW.trod_lt m _ _ _ hm
  clear hA0 hval0
  refine (walk a0 a1 W).mono fun e W' ⟨he, bel⟩ => ?_
  subst he
  exact ⟨_, rfl, _, _, _, [], _, [], hW', trodAll_mk1 (shut_bool Try.underlying4 _), (trodAll_cons_mk (Below.trod laidOut (by kernel_rfl) (of_decide_eq_true (by kernel_rfl)) k0 bel lt0) (trodAll_cons_mk (Below.trod laidOut (by kernel_rfl) (of_decide_eq_true (by kernel_rfl)) k1 bel lt1) trodAll_mk0)), rfl, bel.frame _, fun h => by cases h⟩

theorem over : Rows.fnExactHoldsRow.holds Try.pinned (OpenSpec.ofChange Rows.fnExactHoldsSpec) :=
  OpenClaim.holds_of_wide 3 Try.f3 rfl rfl rfl rfl rfl rfl rfl ⟨rfl, rfl, rfl, rfl, rfl⟩ rfl rfl rfl rfl rfl (by kernel_rfl) Try.func3 (by kernel_rfl)
    (of_decide_eq_true (by kernel_rfl)) (by unfold Func.isWrapper; first | (rw [if_pos (by decide +kernel)]; kernel_rfl) | (rw [if_neg (by decide +kernel)]; exact ⟨rfl, rfl⟩))
    (fun os started H enc _ => lifted os started H enc)

theorem proved : Rows.FnExactHoldsSaid := over
end Go.Proofs.Ytjeoenieoejolaj.fnExactHolds
namespace Go.Proofs.Ytjeoenieoejolaj
theorem fnExactHolds_holds : Rows.FnExactHoldsSaid := fnExactHolds.proved
#print axioms fnExactHolds_holds
end Go.Proofs.Ytjeoenieoejolaj
