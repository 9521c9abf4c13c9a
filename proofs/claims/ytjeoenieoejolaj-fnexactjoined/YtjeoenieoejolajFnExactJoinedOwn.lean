/- At every two claims Joined answers as its model, every field, and nothing is written that was there before. -/
import Derived.Test.YtjeoenieoejolajRows
import Derived.WalkKit
import Derived.ProofKit
import Derived.OpenShut
import Derived.ShutString
import Derived.ChangeOld
import Derived.Below
import Derived.Test.YtjeoenieoejolajClS
import Derived.Test.YtjeoenieoejolajClB
import Derived.Test.YtjeoenieoejolajMaO
namespace Go.Proofs.Ytjeoenieoejolaj.fnExactJoined
open Go.ChangeShapes Go.WideShapes Go.ChangeAt Go.RowKit
set_option linter.unusedVariables false

theorem own : ownKnob Try.prog.godebug = none := by kernel_rfl
theorem laidOut : laidOutB Try.prog = true := by kernel_rfl

set_option maxHeartbeats 8000000 in
set_option maxRecDepth 100000 in
theorem walk (a0 : M.Cl) (a1 : M.Cl) (w : World) :
    Calls Try.prog 4 #[clv a0, clv a1] w fun e w' => e = .returned (.bool true) ∧ Below w.heap.size w w' := by
  have CT := toClaim_any a0
  have CU := toClaim_any a1
  have CS := specJoined_any a0 a1
  have CI := implJoined_any a0 a1
  generalize M.joinv a0 a1 = q at CS CI
  generalize M.joinOk a0 a1 = o at CS CI
  have CE := eqClaim_same q
  obtain ⟨⟨x, y⟩, ⟨x', y'⟩, n⟩ := a0
  obtain ⟨⟨u, v⟩, ⟨u', v'⟩, m⟩ := a1
  obtain ⟨⟨s1, s2⟩, ⟨e1, e2⟩, st⟩ := q
  dsimp only [clv] at CT CU CS CI CE ⊢
  have HK : Hid (∀ W, Below (w.heap.size + 2) ((w.alloc (.cells #[.int .i64 x, .int .i64 y, .int .i64 x', .int .i64 y', .int .i64 n] 29)).alloc (.cells #[.int .i64 u, .int .i64 v, .int .i64 u', .int .i64 v', .int .i64 m] 29)) W → W.cell? ⟨w.heap.size, 0, none⟩ = some (.int .i64 x) ∧ W.cell? ⟨w.heap.size, 1, none⟩ = some (.int .i64 y) ∧ W.cell? ⟨w.heap.size, 2, none⟩ = some (.int .i64 x') ∧ W.cell? ⟨w.heap.size, 3, none⟩ = some (.int .i64 y') ∧ W.cell? ⟨w.heap.size, 4, none⟩ = some (.int .i64 n) ∧ W.cell? ⟨w.heap.size + 1, 0, none⟩ = some (.int .i64 u) ∧ W.cell? ⟨w.heap.size + 1, 1, none⟩ = some (.int .i64 v) ∧ W.cell? ⟨w.heap.size + 1, 2, none⟩ = some (.int .i64 u') ∧ W.cell? ⟨w.heap.size + 1, 3, none⟩ = some (.int .i64 v') ∧ W.cell? ⟨w.heap.size + 1, 4, none⟩ = some (.int .i64 m)) := fun W hW => by
    have LM := ((lies_new w #[.int .i64 x, .int .i64 y, .int .i64 x', .int .i64 y', .int .i64 n] 29).alloc (.cells #[.int .i64 u, .int .i64 v, .int .i64 u', .int .i64 v', .int .i64 m] 29)).below hW (by omega)
    have LC := (lies_new2 w (.cells #[.int .i64 x, .int .i64 y, .int .i64 x', .int .i64 y', .int .i64 n] 29) #[.int .i64 u, .int .i64 v, .int .i64 u', .int .i64 v', .int .i64 m] 29).below hW (by omega)
    exact ⟨LM.at 0, LM.at 1, LM.at 2, LM.at 3, LM.at 4, LC.at 0, LC.at 1, LC.at 2, LC.at 3, LC.at 4⟩
  have HBa : Hid (Below w.heap.size w ((w.alloc (.cells #[.int .i64 x, .int .i64 y, .int .i64 x', .int .i64 y', .int .i64 n] 29)).alloc (.cells #[.int .i64 u, .int .i64 v, .int .i64 u', .int .i64 v', .int .i64 m] 29))) := ((Below.refl _ _).alloc (Nat.le_refl _) _).alloc (by simp) _
  have hsz : ((w.alloc (.cells #[.int .i64 x, .int .i64 y, .int .i64 x', .int .i64 y', .int .i64 n] 29)).alloc (.cells #[.int .i64 u, .int .i64 v, .int .i64 u', .int .i64 v', .int .i64 m] 29)).heap.size = w.heap.size + 2 := by simp
  generalize hwa : ((w.alloc (.cells #[.int .i64 x, .int .i64 y, .int .i64 x', .int .i64 y', .int .i64 n] 29)).alloc (.cells #[.int .i64 u, .int .i64 v, .int .i64 u', .int .i64 v', .int .i64 m] 29)) = wa at HK HBa hsz
  have HWA : Hid (((w.alloc (.cells #[.int .i64 x, .int .i64 y, .int .i64 x', .int .i64 y', .int .i64 n] 29)).alloc (.cells #[.int .i64 u, .int .i64 v, .int .i64 u', .int .i64 v', .int .i64 m] 29)) = wa) := hwa
  clear hwa
  have AA : ∀ wc, Below (w.heap.size + 2) wa wc → Calls Try.prog 9 #[.agg #[.int .i64 x, .int .i64 y, .int .i64 x', .int .i64 y', .int .i64 n]] wc fun e w' => e = .returned (.agg #[.int .i64 x, .int .i64 y, .int .i64 x', .int .i64 y', .int .i64 n]) ∧ Below (w.heap.size + 2) wa w' ∧ Below wc.heap.size wc w' := fun wc h => (CT wc).mono fun _ _ hh => ⟨hh.1, h.trans (hh.2.mono (by have := h.size; omega)), hh.2⟩
  have AB : ∀ wc, Below (w.heap.size + 2) wa wc → Calls Try.prog 9 #[.agg #[.int .i64 u, .int .i64 v, .int .i64 u', .int .i64 v', .int .i64 m]] wc fun e w' => e = .returned (.agg #[.int .i64 u, .int .i64 v, .int .i64 u', .int .i64 v', .int .i64 m]) ∧ Below (w.heap.size + 2) wa w' ∧ Below wc.heap.size wc w' := fun wc h => (CU wc).mono fun _ _ hh => ⟨hh.1, h.trans (hh.2.mono (by have := h.size; omega)), hh.2⟩
  have AS : ∀ wc, Below (w.heap.size + 2) wa wc → Calls Try.prog 11 #[.agg #[.int .i64 x, .int .i64 y, .int .i64 x', .int .i64 y', .int .i64 n], .agg #[.int .i64 u, .int .i64 v, .int .i64 u', .int .i64 v', .int .i64 m]] wc fun e w' => e = .returned (.tuple #[.agg #[.int .i64 s1, .int .i64 s2, .int .i64 e1, .int .i64 e2, .int .i64 st], .bool o]) ∧ Below (w.heap.size + 2) wa w' ∧ Below wc.heap.size wc w' := fun wc h => (CS wc).mono fun _ _ hh => ⟨hh.1, h.trans (hh.2.mono (by have := h.size; omega)), hh.2⟩
  have AI : ∀ wc, Below (w.heap.size + 2) wa wc → Calls Try.prog 12 #[.agg #[.int .i64 x, .int .i64 y, .int .i64 x', .int .i64 y', .int .i64 n], .agg #[.int .i64 u, .int .i64 v, .int .i64 u', .int .i64 v', .int .i64 m]] wc fun e w' => e = .returned (.tuple #[.agg #[.int .i64 s1, .int .i64 s2, .int .i64 e1, .int .i64 e2, .int .i64 st], .bool o]) ∧ Below (w.heap.size + 2) wa w' ∧ Below wc.heap.size wc w' := fun wc h => (CI wc).mono fun _ _ hh => ⟨hh.1, h.trans (hh.2.mono (by have := h.size; omega)), hh.2⟩
  have HBL : Hid (∀ W, Below (w.heap.size + 2) wa W → Below (w.heap.size + 2) wa (W.alloc (.cells #[.int .i64 0, .int .i64 0, .int .i64 0, .int .i64 0, .int .i64 0] 37))) := fun W h => h.alloc (by have := h.size; omega) _
  have hb0 : Below (w.heap.size + 2) wa wa.drew := (Below.refl _ _).drew
  have hb0a : Below (w.heap.size + 2) wa (wa.alloc (.cells #[.int .i64 0, .int .i64 0, .int .i64 0, .int .i64 0, .int .i64 0] 37)).drew := (HBL.out _ (Below.refl _ _)).drew
  have HSZ : Hid (wa.heap.size = w.heap.size + 2) := hsz
  clear hsz
  have n1 : (o != o) = false := by simp
  go_enter Try.func4, Try.ntmps4
  go_wp2
  rw [HWA.out]
  go_region_held3 (fun W => W.cell? ⟨w.heap.size, 0, none⟩ = some (.int .i64 x) ∧ W.cell? ⟨w.heap.size, 1, none⟩ = some (.int .i64 y) ∧ W.cell? ⟨w.heap.size, 2, none⟩ = some (.int .i64 x') ∧ W.cell? ⟨w.heap.size, 3, none⟩ = some (.int .i64 y') ∧ W.cell? ⟨w.heap.size, 4, none⟩ = some (.int .i64 n) ∧ W.cell? ⟨w.heap.size + 1, 0, none⟩ = some (.int .i64 u) ∧ W.cell? ⟨w.heap.size + 1, 1, none⟩ = some (.int .i64 v) ∧ W.cell? ⟨w.heap.size + 1, 2, none⟩ = some (.int .i64 u') ∧ W.cell? ⟨w.heap.size + 1, 3, none⟩ = some (.int .i64 v') ∧ W.cell? ⟨w.heap.size + 1, 4, none⟩ = some (.int .i64 m)) (first | with_reducible exact HK.out _ hbb | with_reducible exact HK.out _ hb0 | with_reducible exact HK.out _ (HBL.out _ hbb) | with_reducible exact HK.out _ (HBL.out _ hb0) | with_reducible exact HK.out _ hb0a | with_reducible exact HK.out _ (leafS5 hbb (by have := HSZ.out; omega) hq).1 | with_reducible exact HK.out _ (leafA5 hbb (by have := HSZ.out; omega)).1)
    (first
      | (go_at_call_of 9 (Value.agg #[.int .i64 x, .int .i64 y, .int .i64 x', .int .i64 y', .int .i64 n]); refine (AA _ (by first | with_reducible exact hb0 | with_reducible exact HBL.out _ hb0 | with_reducible exact hb0a)).mono ?_; rintro e w1 ⟨rfl, hbb, hcc⟩; have z1 := hbb.size; (first | (have hq : Lies w1 wa.heap.size [.int .i64 0, .int .i64 0, .int .i64 0, .int .i64 0, .int .i64 0] := lies_kept hcc; obtain ⟨hq0, hq1, hq2, hq3, hq4, hf0, hf1, hf2, hf3, hf4⟩ := hq.five) | (have hq : Lies w1 wa.heap.size [.int .i64 0, .int .i64 0, .int .i64 0, .int .i64 0, .int .i64 0] := lies_kept ((Below.refl _ _).drew.trans hcc); obtain ⟨hq0, hq1, hq2, hq3, hq4, hf0, hf1, hf2, hf3, hf4⟩ := hq.five) | skip))
      | (go_at_call_of 9 (Value.agg #[.int .i64 u, .int .i64 v, .int .i64 u', .int .i64 v', .int .i64 m]); refine (AB _ (by first | with_reducible exact hbb | with_reducible exact HBL.out _ hbb)).mono ?_; rintro e w2 ⟨rfl, hbb, hcc⟩; have z2 := hbb.size; (first | (have hq := lies_kept hcc; obtain ⟨hq0, hq1, hq2, hq3, hq4, hf0, hf1, hf2, hf3, hf4⟩ := hq.five) | (have hq' := hq.belowS hcc; clear hq; (try clear hq0 hq1 hq2 hq3 hq4 hf0 hf1 hf2 hf3 hf4); have hq := hq'; clear hq'; obtain ⟨hq0, hq1, hq2, hq3, hq4, hf0, hf1, hf2, hf3, hf4⟩ := hq.five) | skip))
      | (go_at_call 11; refine (AS _ (by first | with_reducible exact hbb | with_reducible exact HBL.out _ hbb)).mono ?_; rintro e w3 ⟨rfl, hbb, hcc⟩; have z3 := hbb.size; (first | (have hq := lies_kept hcc; obtain ⟨hq0, hq1, hq2, hq3, hq4, hf0, hf1, hf2, hf3, hf4⟩ := hq.five) | (have hq' := hq.belowS hcc; clear hq; (try clear hq0 hq1 hq2 hq3 hq4 hf0 hf1 hf2 hf3 hf4); have hq := hq'; clear hq'; obtain ⟨hq0, hq1, hq2, hq3, hq4, hf0, hf1, hf2, hf3, hf4⟩ := hq.five) | skip)))
  all_goals
    first
      | (have hR := leafS5 (v0 := .int .i64 s1) (v1 := .int .i64 s2) (v2 := .int .i64 e1) (v3 := .int .i64 e2) (v4 := .int .i64 st) hbb (by have := HSZ.out; omega) hq; generalize (((((w3.setCell _ _).setCell _ _).setCell _ _).setCell _ _).setCell _ _) = W at hR ⊢)
      | (have hR := leafA5 (t := 37) (vs := #[.int .i64 s1, .int .i64 s2, .int .i64 e1, .int .i64 e2, .int .i64 st]) hbb (by have := HSZ.out; omega); generalize w3.alloc _ = W at hR ⊢)
    obtain ⟨hBW, hLW, -⟩ := hR
    have HBW : Hid (Below (w.heap.size + 2) wa W) := hBW
    have HLW : Hid (Lies W _ [.int .i64 s1, .int .i64 s2, .int .i64 e1, .int .i64 e2, .int .i64 st]) := hLW
    have hb1 : Below W.heap.size W W.drew := (Below.refl _ _).drew
    clear hBW hLW hbb hcc z1 z2 z3
    (try clear hq hq0 hq1 hq2 hq3 hq4 hf0 hf1 hf2 hf3 hf4)
    have DA : ∀ wc, Below W.heap.size W wc → Calls Try.prog 9 #[.agg #[.int .i64 x, .int .i64 y, .int .i64 x', .int .i64 y', .int .i64 n]] wc fun e w' => e = .returned (.agg #[.int .i64 x, .int .i64 y, .int .i64 x', .int .i64 y', .int .i64 n]) ∧ Below W.heap.size W w' ∧ Below wc.heap.size wc w' := fun wc h => (CT wc).mono fun _ _ hh => ⟨hh.1, h.trans (hh.2.mono (by have := h.size; omega)), hh.2⟩
    have DB : ∀ wc, Below W.heap.size W wc → Calls Try.prog 9 #[.agg #[.int .i64 u, .int .i64 v, .int .i64 u', .int .i64 v', .int .i64 m]] wc fun e w' => e = .returned (.agg #[.int .i64 u, .int .i64 v, .int .i64 u', .int .i64 v', .int .i64 m]) ∧ Below W.heap.size W w' ∧ Below wc.heap.size wc w' := fun wc h => (CU wc).mono fun _ _ hh => ⟨hh.1, h.trans (hh.2.mono (by have := h.size; omega)), hh.2⟩
    have DS : ∀ wc, Below W.heap.size W wc → Calls Try.prog 11 #[.agg #[.int .i64 x, .int .i64 y, .int .i64 x', .int .i64 y', .int .i64 n], .agg #[.int .i64 u, .int .i64 v, .int .i64 u', .int .i64 v', .int .i64 m]] wc fun e w' => e = .returned (.tuple #[.agg #[.int .i64 s1, .int .i64 s2, .int .i64 e1, .int .i64 e2, .int .i64 st], .bool o]) ∧ Below W.heap.size W w' ∧ Below wc.heap.size wc w' := fun wc h => (CS wc).mono fun _ _ hh => ⟨hh.1, h.trans (hh.2.mono (by have := h.size; omega)), hh.2⟩
    have DI : ∀ wc, Below W.heap.size W wc → Calls Try.prog 12 #[.agg #[.int .i64 x, .int .i64 y, .int .i64 x', .int .i64 y', .int .i64 n], .agg #[.int .i64 u, .int .i64 v, .int .i64 u', .int .i64 v', .int .i64 m]] wc fun e w' => e = .returned (.tuple #[.agg #[.int .i64 s1, .int .i64 s2, .int .i64 e1, .int .i64 e2, .int .i64 st], .bool o]) ∧ Below W.heap.size W w' ∧ Below wc.heap.size wc w' := fun wc h => (CI wc).mono fun _ _ hh => ⟨hh.1, h.trans (hh.2.mono (by have := h.size; omega)), hh.2⟩
    have HKW : Hid (∀ X, Below W.heap.size W X → X.cell? ⟨w.heap.size, 0, none⟩ = some (.int .i64 x) ∧ X.cell? ⟨w.heap.size, 1, none⟩ = some (.int .i64 y) ∧ X.cell? ⟨w.heap.size, 2, none⟩ = some (.int .i64 x') ∧ X.cell? ⟨w.heap.size, 3, none⟩ = some (.int .i64 y') ∧ X.cell? ⟨w.heap.size, 4, none⟩ = some (.int .i64 n) ∧ X.cell? ⟨w.heap.size + 1, 0, none⟩ = some (.int .i64 u) ∧ X.cell? ⟨w.heap.size + 1, 1, none⟩ = some (.int .i64 v) ∧ X.cell? ⟨w.heap.size + 1, 2, none⟩ = some (.int .i64 u') ∧ X.cell? ⟨w.heap.size + 1, 3, none⟩ = some (.int .i64 v') ∧ X.cell? ⟨w.heap.size + 1, 4, none⟩ = some (.int .i64 m)) := fun X h => HK.out X (HBW.out.trans (h.mono (by have := HSZ.out; have := HBW.out.size; omega)))
    have HBL2 : Hid (∀ X, Below W.heap.size W X → Below W.heap.size W (X.alloc (.cells #[.int .i64 0, .int .i64 0, .int .i64 0, .int .i64 0, .int .i64 0] 37))) := fun X h => h.alloc h.size _
    have hb1a : Below W.heap.size W (W.alloc (.cells #[.int .i64 0, .int .i64 0, .int .i64 0, .int .i64 0, .int .i64 0] 37)).drew := (HBL2.out _ (Below.refl _ _)).drew
    go_wp2
    go_region_held3 (fun X => X.cell? ⟨w.heap.size, 0, none⟩ = some (.int .i64 x) ∧ X.cell? ⟨w.heap.size, 1, none⟩ = some (.int .i64 y) ∧ X.cell? ⟨w.heap.size, 2, none⟩ = some (.int .i64 x') ∧ X.cell? ⟨w.heap.size, 3, none⟩ = some (.int .i64 y') ∧ X.cell? ⟨w.heap.size, 4, none⟩ = some (.int .i64 n) ∧ X.cell? ⟨w.heap.size + 1, 0, none⟩ = some (.int .i64 u) ∧ X.cell? ⟨w.heap.size + 1, 1, none⟩ = some (.int .i64 v) ∧ X.cell? ⟨w.heap.size + 1, 2, none⟩ = some (.int .i64 u') ∧ X.cell? ⟨w.heap.size + 1, 3, none⟩ = some (.int .i64 v') ∧ X.cell? ⟨w.heap.size + 1, 4, none⟩ = some (.int .i64 m)) (first | with_reducible exact HKW.out _ hbb | with_reducible exact HKW.out _ hb1 | with_reducible exact HKW.out _ (HBL2.out _ hbb) | with_reducible exact HKW.out _ (HBL2.out _ hb1) | with_reducible exact HKW.out _ hb1a | with_reducible exact HKW.out _ (leafS5 hbb (by omega) hq).1 | with_reducible exact HKW.out _ (leafA5 hbb (by omega)).1)
      (first
        | (go_at_call_of 9 (Value.agg #[.int .i64 x, .int .i64 y, .int .i64 x', .int .i64 y', .int .i64 n]); refine (DA _ (by first | with_reducible exact hb1 | with_reducible exact HBL2.out _ hb1 | with_reducible exact hb1a)).mono ?_; rintro e w4 ⟨rfl, hbb, hcc⟩; have z1 := hbb.size; (first | (have hq : Lies w4 W.heap.size [.int .i64 0, .int .i64 0, .int .i64 0, .int .i64 0, .int .i64 0] := lies_kept hcc; obtain ⟨hq0, hq1, hq2, hq3, hq4, hf0, hf1, hf2, hf3, hf4⟩ := hq.five) | (have hq : Lies w4 W.heap.size [.int .i64 0, .int .i64 0, .int .i64 0, .int .i64 0, .int .i64 0] := lies_kept ((Below.refl _ _).drew.trans hcc); obtain ⟨hq0, hq1, hq2, hq3, hq4, hf0, hf1, hf2, hf3, hf4⟩ := hq.five) | skip))
        | (go_at_call_of 9 (Value.agg #[.int .i64 u, .int .i64 v, .int .i64 u', .int .i64 v', .int .i64 m]); refine (DB _ (by first | with_reducible exact hbb | with_reducible exact HBL2.out _ hbb)).mono ?_; rintro e w5 ⟨rfl, hbb, hcc⟩; have z2 := hbb.size; (first | (have hq := lies_kept hcc; obtain ⟨hq0, hq1, hq2, hq3, hq4, hf0, hf1, hf2, hf3, hf4⟩ := hq.five) | (have hq' := hq.belowS hcc; clear hq; (try clear hq0 hq1 hq2 hq3 hq4 hf0 hf1 hf2 hf3 hf4); have hq := hq'; clear hq'; obtain ⟨hq0, hq1, hq2, hq3, hq4, hf0, hf1, hf2, hf3, hf4⟩ := hq.five) | skip))
        | (go_at_call 12; refine (DI _ (by first | with_reducible exact hbb | with_reducible exact HBL2.out _ hbb)).mono ?_; rintro e w6 ⟨rfl, hbb, hcc⟩; have z3 := hbb.size; (first | (have hq := lies_kept hcc; obtain ⟨hq0, hq1, hq2, hq3, hq4, hf0, hf1, hf2, hf3, hf4⟩ := hq.five) | (have hq' := hq.belowS hcc; clear hq; (try clear hq0 hq1 hq2 hq3 hq4 hf0 hf1 hf2 hf3 hf4); have hq := hq'; clear hq'; obtain ⟨hq0, hq1, hq2, hq3, hq4, hf0, hf1, hf2, hf3, hf4⟩ := hq.five) | skip)))
    all_goals
      first
        | (have hR := leafS5 (v0 := .int .i64 s1) (v1 := .int .i64 s2) (v2 := .int .i64 e1) (v3 := .int .i64 e2) (v4 := .int .i64 st) hbb (by omega) hq; have hl := hR.2.2 _ _ (by have := HLW.out.2.2; omega) (HLW.out.belowS hbb); generalize (((((w6.setCell _ _).setCell _ _).setCell _ _).setCell _ _).setCell _ _) = X at hR hl ⊢)
        | (have hR := leafA5 (t := 37) (vs := #[.int .i64 s1, .int .i64 s2, .int .i64 e1, .int .i64 e2, .int .i64 st]) hbb (Nat.le_refl _); have hl := hR.2.2 _ _ (HLW.out.belowS hbb); generalize w6.alloc _ = X at hR hl ⊢)
      obtain ⟨hBX, hLX, -⟩ := hR
      have hX2 : Below (w.heap.size + 2) wa X := HBW.out.trans (hBX.mono (by have := HSZ.out; have := HBW.out.size; omega))
      have HBX : Hid (Below w.heap.size w X) := HBa.out.trans (hX2.mono (by omega))
      obtain ⟨r0, r1, r2, r3, r4, -⟩ := hl.five
      obtain ⟨t0, t1, t2, t3, t4, -⟩ := Lies.five hLX
      clear hBX hX2 hLX hl hbb hcc
      (try clear hq hq0 hq1 hq2 hq3 hq4 hf0 hf1 hf2 hf3 hf4)
      go_wp2_with fail
      refine (CE _).mono ?_
      rintro e w7 ⟨rfl, hb7⟩
      have HB7 : Hid (Below w.heap.size w w7) := HBX.out.trans (hb7.mono HBX.out.size)
      clear hb7
      go_wp2
      go_ret
      exact ⟨rfl, HB7.out⟩

set_option maxRecDepth 100000 in
theorem lifted (os : Os) (started : os.Started) (H : Type) (enc : TypeId × Value → H) :
    ReturnsInHanded {} Try.checked os 4 .any (Rows.fnExactJoinedSpec.pre6 enc Try.prog Try.f4 Rows.fnExactJoinedRow.domain false) (Rows.fnExactJoinedSpec.post enc Try.prog Try.f4 false true false false) := by
  refine returnsInHanded_of_change (C := Try.checked) own started (by kernel_rfl) Try.func4
    (ChangeSpec.witness6 (enc := enc) (C := Try.checked) false ⟨#[], #[.agg #[.int .i64 0, .int .i64 0, .int .i64 0, .int .i64 0, .int .i64 0], .agg #[.int .i64 0, .int .i64 0, .int .i64 0, .int .i64 0, .int .i64 0]], []⟩ 8 (by kernel_rfl) (by kernel_rfl) (by kernel_rfl) (by kernel_rfl)) ?_
  intro W base args ds gs before hval0 hW hcnd _
  have hval : ∀ (j : Nat) t v, Try.f4.params[j]? = some t → args[j]? = some v → Value.okWide Try.prog W .any base t v := hval0
  have hW' := hW
  obtain ⟨p, q, hA0, hV, rfl, hfz, hnd⟩ := hW
  have hA : DataW.TrodAll enc Try.prog W 0 (fun _ => true) true Try.f4.params.toList args.toList ds p := hA0
  rw [Try.params4] at hA hval
  obtain ⟨v0, vs0, d0, ds0, p0, q0, hargs, rfl, rfl, h0, r0⟩ := trodAll_cons hA
  obtain ⟨v1, vs1, d1, ds1, p1, q1, rfl, rfl, rfl, h1, r1⟩ := trodAll_cons r0
  obtain ⟨rfl, rfl, rfl⟩ := trodAll_nil r1
  obtain rfl : args = #[v0, v1] := by cases args; simp_all
  obtain ⟨rfl, rfl⟩ := trodVars_none hV
  obtain ⟨a0, rfl⟩ := open_claim (hval 0 29 v0 rfl rfl)
  have k0 := h0
  have lt0 : ∀ x ∈ p0, x.block < W.heap.size := by obtain ⟨m, hm⟩ := k0; exact DataW.trod_lt m _ _ _ hm
  obtain ⟨a1, rfl⟩ := open_claim (hval 1 29 v1 rfl rfl)
  have k1 := h1
  have lt1 : ∀ x ∈ p1, x.block < W.heap.size := by obtain ⟨m, hm⟩ := k1; exact DataW.trod_lt m _ _ _ hm
  clear hA0 hval0
  refine (walk a0 a1 W).mono fun e W' ⟨he, bel⟩ => ?_
  subst he
  exact ⟨_, rfl, _, _, _, [], _, [], hW', trodAll_mk1 (shut_bool Try.underlying4 _), (trodAll_cons_mk (Below.trod laidOut (by kernel_rfl) (of_decide_eq_true (by kernel_rfl)) k0 bel lt0) (trodAll_cons_mk (Below.trod laidOut (by kernel_rfl) (of_decide_eq_true (by kernel_rfl)) k1 bel lt1) trodAll_mk0)), rfl, bel.frame _, fun h => by cases h⟩

theorem over : Rows.fnExactJoinedRow.holds Try.pinned (OpenSpec.ofChange Rows.fnExactJoinedSpec) :=
  OpenClaim.holds_of_wide 4 Try.f4 rfl rfl rfl rfl rfl rfl rfl ⟨rfl, rfl, rfl, rfl, rfl⟩ rfl rfl rfl rfl rfl (by kernel_rfl) Try.func4 (by kernel_rfl)
    (of_decide_eq_true (by kernel_rfl)) (by unfold Func.isWrapper; first | (rw [if_pos (by decide +kernel)]; kernel_rfl) | (rw [if_neg (by decide +kernel)]; exact ⟨rfl, rfl⟩))
    (fun os started H enc _ => lifted os started H enc)

theorem proved : Rows.FnExactJoinedSaid := over
end Go.Proofs.Ytjeoenieoejolaj.fnExactJoined
namespace Go.Proofs.Ytjeoenieoejolaj
theorem fnExactJoined_holds : Rows.FnExactJoinedSaid := fnExactJoined.proved
#print axioms fnExactJoined_holds
end Go.Proofs.Ytjeoenieoejolaj
