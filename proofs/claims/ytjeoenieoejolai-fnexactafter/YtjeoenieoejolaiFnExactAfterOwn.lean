/- At every machine, every state and every number the program and its model tell alike where the machine comes to: the law FnExactAfter returns true, with no condition. -/
import Derived.Test.YtjeoenieoejolaiRows
import Derived.WalkKit
import Derived.ProofKit
import Derived.OpenShut
import Derived.ShutString
import Derived.ChangeOld
import Derived.Below
import Derived.Test.YtjeoenieoejolaiMaJ
import Derived.Test.YtjeoenieoejolaiMaO
namespace Go.Proofs.Ytjeoenieoejolai.fnExactAfter
open Go.ChangeShapes Go.WideShapes Go.ChangeAt Go.RowKit
set_option linter.unusedVariables false

theorem own : ownKnob Try.prog.godebug = none := by kernel_rfl
theorem laidOut : laidOutB Try.prog = true := by kernel_rfl

set_option maxHeartbeats 8000000 in
set_option maxRecDepth 100000 in
theorem walk (a0 : M.Mc) (a1 : Int × Int) (a2 : Int) (w : World) :
    Calls Try.prog 5 #[mcv a0, stv a1, .int .i64 a2] w fun e w' => e = .returned (.bool true) ∧ Below w.heap.size w w' := by
  have CT := toMachine_any a0
  have CU := toState_any a1
  have CS := specAfter_any a0 a1 a2
  have CI := implAfter_any a0 a1 a2
  generalize M.aft a0 a1 a2 = q at CS CI
  generalize M.runOk a0 a1 a2 = o at CS CI
  have CE := eqState_same q
  obtain ⟨⟨a, b, c, d, f, k⟩, ⟨a', b', c', d', f', k'⟩⟩ := a0
  obtain ⟨x, y⟩ := a1
  obtain ⟨u, v⟩ := q
  dsimp only [mcv, stv] at CT CU CS CI CE ⊢
  have HK : Hid (∀ W, Below (w.heap.size + 2) ((w.alloc (.cells #[.int .i64 a, .int .i64 b, .int .i64 c, .int .i64 d, .int .i64 f, .int .i64 k, .int .i64 a', .int .i64 b', .int .i64 c', .int .i64 d', .int .i64 f', .int .i64 k'] 25)).alloc (.cells #[.int .i64 x, .int .i64 y] 27)) W → W.cell? ⟨w.heap.size, 0, none⟩ = some (.int .i64 a) ∧ W.cell? ⟨w.heap.size, 1, none⟩ = some (.int .i64 b) ∧ W.cell? ⟨w.heap.size, 2, none⟩ = some (.int .i64 c) ∧ W.cell? ⟨w.heap.size, 3, none⟩ = some (.int .i64 d) ∧ W.cell? ⟨w.heap.size, 4, none⟩ = some (.int .i64 f) ∧ W.cell? ⟨w.heap.size, 5, none⟩ = some (.int .i64 k) ∧ W.cell? ⟨w.heap.size, 6, none⟩ = some (.int .i64 a') ∧ W.cell? ⟨w.heap.size, 7, none⟩ = some (.int .i64 b') ∧ W.cell? ⟨w.heap.size, 8, none⟩ = some (.int .i64 c') ∧ W.cell? ⟨w.heap.size, 9, none⟩ = some (.int .i64 d') ∧ W.cell? ⟨w.heap.size, 10, none⟩ = some (.int .i64 f') ∧ W.cell? ⟨w.heap.size, 11, none⟩ = some (.int .i64 k') ∧ W.cell? ⟨w.heap.size + 1, 0, none⟩ = some (.int .i64 x) ∧ W.cell? ⟨w.heap.size + 1, 1, none⟩ = some (.int .i64 y)) := fun W hW => by
    have e1 : (w.alloc (.cells #[.int .i64 a, .int .i64 b, .int .i64 c, .int .i64 d, .int .i64 f, .int .i64 k, .int .i64 a', .int .i64 b', .int .i64 c', .int .i64 d', .int .i64 f', .int .i64 k'] 25)).heap.size = w.heap.size + 1 := by simp
    have h1 := fun i => World.cell?_alloc_new (w.alloc (.cells #[.int .i64 a, .int .i64 b, .int .i64 c, .int .i64 d, .int .i64 f, .int .i64 k, .int .i64 a', .int .i64 b', .int .i64 c', .int .i64 d', .int .i64 f', .int .i64 k'] 25)) #[.int .i64 x, .int .i64 y] 27 i
    rw [e1] at h1
    have h0 := fun i => (World.cell?_alloc_lt (w := w.alloc (.cells #[.int .i64 a, .int .i64 b, .int .i64 c, .int .i64 d, .int .i64 f, .int .i64 k, .int .i64 a', .int .i64 b', .int .i64 c', .int .i64 d', .int .i64 f', .int .i64 k'] 25)) (o := .cells #[.int .i64 x, .int .i64 y] 27) (a := ⟨w.heap.size, i, none⟩) (h := by simp)).trans (World.cell?_alloc_new w #[.int .i64 a, .int .i64 b, .int .i64 c, .int .i64 d, .int .i64 f, .int .i64 k, .int .i64 a', .int .i64 b', .int .i64 c', .int .i64 d', .int .i64 f', .int .i64 k'] 25 i)
    exact ⟨(hW.cell (p := ⟨w.heap.size, 0, none⟩) (by simp)).trans (h0 0), (hW.cell (p := ⟨w.heap.size, 1, none⟩) (by simp)).trans (h0 1), (hW.cell (p := ⟨w.heap.size, 2, none⟩) (by simp)).trans (h0 2), (hW.cell (p := ⟨w.heap.size, 3, none⟩) (by simp)).trans (h0 3), (hW.cell (p := ⟨w.heap.size, 4, none⟩) (by simp)).trans (h0 4), (hW.cell (p := ⟨w.heap.size, 5, none⟩) (by simp)).trans (h0 5), (hW.cell (p := ⟨w.heap.size, 6, none⟩) (by simp)).trans (h0 6), (hW.cell (p := ⟨w.heap.size, 7, none⟩) (by simp)).trans (h0 7), (hW.cell (p := ⟨w.heap.size, 8, none⟩) (by simp)).trans (h0 8), (hW.cell (p := ⟨w.heap.size, 9, none⟩) (by simp)).trans (h0 9), (hW.cell (p := ⟨w.heap.size, 10, none⟩) (by simp)).trans (h0 10), (hW.cell (p := ⟨w.heap.size, 11, none⟩) (by simp)).trans (h0 11), (hW.cell (p := ⟨w.heap.size + 1, 0, none⟩) (by simp)).trans (h1 0), (hW.cell (p := ⟨w.heap.size + 1, 1, none⟩) (by simp)).trans (h1 1)⟩
  have HBa : Hid (Below w.heap.size w ((w.alloc (.cells #[.int .i64 a, .int .i64 b, .int .i64 c, .int .i64 d, .int .i64 f, .int .i64 k, .int .i64 a', .int .i64 b', .int .i64 c', .int .i64 d', .int .i64 f', .int .i64 k'] 25)).alloc (.cells #[.int .i64 x, .int .i64 y] 27))) := ((Below.refl _ _).alloc (Nat.le_refl _) _).alloc (by simp) _
  have hsz : ((w.alloc (.cells #[.int .i64 a, .int .i64 b, .int .i64 c, .int .i64 d, .int .i64 f, .int .i64 k, .int .i64 a', .int .i64 b', .int .i64 c', .int .i64 d', .int .i64 f', .int .i64 k'] 25)).alloc (.cells #[.int .i64 x, .int .i64 y] 27)).heap.size = w.heap.size + 2 := by simp
  generalize hwa : ((w.alloc (.cells #[.int .i64 a, .int .i64 b, .int .i64 c, .int .i64 d, .int .i64 f, .int .i64 k, .int .i64 a', .int .i64 b', .int .i64 c', .int .i64 d', .int .i64 f', .int .i64 k'] 25)).alloc (.cells #[.int .i64 x, .int .i64 y] 27)) = wa at HK HBa hsz
  have HWA : Hid (((w.alloc (.cells #[.int .i64 a, .int .i64 b, .int .i64 c, .int .i64 d, .int .i64 f, .int .i64 k, .int .i64 a', .int .i64 b', .int .i64 c', .int .i64 d', .int .i64 f', .int .i64 k'] 25)).alloc (.cells #[.int .i64 x, .int .i64 y] 27)) = wa) := hwa
  clear hwa
  have CTi : ∀ wc, Below (w.heap.size + 2) wa wc → Calls Try.prog 9 #[.agg #[.int .i64 a, .int .i64 b, .int .i64 c, .int .i64 d, .int .i64 f, .int .i64 k, .int .i64 a', .int .i64 b', .int .i64 c', .int .i64 d', .int .i64 f', .int .i64 k']] wc fun e w' => e = .returned (.agg #[.int .i64 a, .int .i64 b, .int .i64 c, .int .i64 d, .int .i64 f, .int .i64 k, .int .i64 a', .int .i64 b', .int .i64 c', .int .i64 d', .int .i64 f', .int .i64 k']) ∧ Below (w.heap.size + 2) wa w' ∧ Below wc.heap.size wc w' := fun wc h => (CT wc).mono fun _ _ hh => ⟨hh.1, h.trans (hh.2.mono (by have := h.size; omega)), hh.2⟩
  have CUi : ∀ wc, Below (w.heap.size + 2) wa wc → Calls Try.prog 10 #[.agg #[.int .i64 x, .int .i64 y]] wc fun e w' => e = .returned (.agg #[.int .i64 x, .int .i64 y]) ∧ Below (w.heap.size + 2) wa w' ∧ Below wc.heap.size wc w' := fun wc h => (CU wc).mono fun _ _ hh => ⟨hh.1, h.trans (hh.2.mono (by have := h.size; omega)), hh.2⟩
  have CSi : ∀ wc, Below (w.heap.size + 2) wa wc → Calls Try.prog 18 #[.agg #[.int .i64 a, .int .i64 b, .int .i64 c, .int .i64 d, .int .i64 f, .int .i64 k, .int .i64 a', .int .i64 b', .int .i64 c', .int .i64 d', .int .i64 f', .int .i64 k'], .agg #[.int .i64 x, .int .i64 y], .int .i64 a2] wc fun e w' => e = .returned (.tuple #[.agg #[.int .i64 u, .int .i64 v], .bool o]) ∧ Below (w.heap.size + 2) wa w' ∧ Below wc.heap.size wc w' := fun wc h => (CS wc).mono fun _ _ hh => ⟨hh.1, h.trans (hh.2.mono (by have := h.size; omega)), hh.2⟩
  have CIi : ∀ wc, Below (w.heap.size + 2) wa wc → Calls Try.prog 19 #[.agg #[.int .i64 a, .int .i64 b, .int .i64 c, .int .i64 d, .int .i64 f, .int .i64 k, .int .i64 a', .int .i64 b', .int .i64 c', .int .i64 d', .int .i64 f', .int .i64 k'], .agg #[.int .i64 x, .int .i64 y], .int .i64 a2] wc fun e w' => e = .returned (.tuple #[.agg #[.int .i64 u, .int .i64 v], .bool o]) ∧ Below (w.heap.size + 2) wa w' ∧ Below wc.heap.size wc w' := fun wc h => (CI wc).mono fun _ _ hh => ⟨hh.1, h.trans (hh.2.mono (by have := h.size; omega)), hh.2⟩
  have HBL : Hid (∀ W, Below (w.heap.size + 2) wa W → Below (w.heap.size + 2) wa (W.alloc (.cells #[.int .i64 0, .int .i64 0] 28))) := fun W h => h.alloc (by have := h.size; omega) _
  have HBS : Hid (∀ W p, w.heap.size + 2 ≤ p → Below (w.heap.size + 2) wa W → Below (w.heap.size + 2) wa ((W.setCell ⟨p, 0, none⟩ (.int .i64 u)).setCell ⟨p, 1, none⟩ (.int .i64 v))) := fun W p hp h => (h.setCell hp _).setCell hp _
  have hb0 : Below (w.heap.size + 2) wa wa.drew := (Below.refl _ _).drew
  have HSZ : Hid (wa.heap.size = w.heap.size + 2) := hsz
  clear hsz
  have n1 : (o != o) = false := by simp
  go_enter Try.func5, Try.ntmps5
  go_wp2
  rw [HWA.out]
  go_region_held3 (fun W => W.cell? ⟨w.heap.size, 0, none⟩ = some (.int .i64 a) ∧ W.cell? ⟨w.heap.size, 1, none⟩ = some (.int .i64 b) ∧ W.cell? ⟨w.heap.size, 2, none⟩ = some (.int .i64 c) ∧ W.cell? ⟨w.heap.size, 3, none⟩ = some (.int .i64 d) ∧ W.cell? ⟨w.heap.size, 4, none⟩ = some (.int .i64 f) ∧ W.cell? ⟨w.heap.size, 5, none⟩ = some (.int .i64 k) ∧ W.cell? ⟨w.heap.size, 6, none⟩ = some (.int .i64 a') ∧ W.cell? ⟨w.heap.size, 7, none⟩ = some (.int .i64 b') ∧ W.cell? ⟨w.heap.size, 8, none⟩ = some (.int .i64 c') ∧ W.cell? ⟨w.heap.size, 9, none⟩ = some (.int .i64 d') ∧ W.cell? ⟨w.heap.size, 10, none⟩ = some (.int .i64 f') ∧ W.cell? ⟨w.heap.size, 11, none⟩ = some (.int .i64 k') ∧ W.cell? ⟨w.heap.size + 1, 0, none⟩ = some (.int .i64 x) ∧ W.cell? ⟨w.heap.size + 1, 1, none⟩ = some (.int .i64 y)) (first | exact HK.out _ hbb | exact HK.out _ hb0 | exact HK.out _ (HBL.out _ hbb) | exact HK.out _ (HBL.out _ hb0) | exact HK.out _ (HBS.out _ _ (by have := HSZ.out; omega) hbb) | exact HK.out _ (((hbb.alloc (by have := HSZ.out; have := hbb.size; omega) _).setCell (by have := HSZ.out; have := hbb.size; show _ ≤ _; omega) _).setCell (by have := HSZ.out; have := hbb.size; show _ ≤ _; omega) _) | exact HK.out _ (hbb.alloc (by have := HSZ.out; have := hbb.size; omega) _))
    (first
      | (go_at_call 9; refine (CTi _ (by first | exact hb0 | exact HBL.out _ hb0)).mono ?_; rintro e w1 ⟨rfl, hbb, hcc⟩; have z1 := hbb.size; (first | (have hq := alloc_keptm hcc; have hq' : w1.cell? ⟨wa.heap.size, 0, none⟩ = some (.int .i64 0) ∧ w1.cell? ⟨wa.heap.size, 1, none⟩ = some (.int .i64 0) ∧ w1.frozen? ⟨wa.heap.size, 0, none⟩ = false ∧ w1.frozen? ⟨wa.heap.size, 1, none⟩ = false := hq; obtain ⟨hq1, hq2, hq3, hq4⟩ := hq') | (have hq := alloc_keptm ((Below.refl _ _).drew.trans hcc); have hq' : w1.cell? ⟨wa.heap.size, 0, none⟩ = some (.int .i64 0) ∧ w1.cell? ⟨wa.heap.size, 1, none⟩ = some (.int .i64 0) ∧ w1.frozen? ⟨wa.heap.size, 0, none⟩ = false ∧ w1.frozen? ⟨wa.heap.size, 1, none⟩ = false := hq; obtain ⟨hq1, hq2, hq3, hq4⟩ := hq') | skip))
      | (go_at_call 10; refine (CUi _ (by first | exact hbb | exact HBL.out _ hbb)).mono ?_; rintro e w2 ⟨rfl, hbb, hcc⟩; have z2 := hbb.size; (first | (have hq := alloc_keptm hcc; obtain ⟨hq1, hq2, hq3, hq4⟩ := hq) | (have hq := cells_keptm hcc ⟨hq1, hq2, hq3, hq4⟩; obtain ⟨hq1, hq2, hq3, hq4⟩ := hq) | skip))
      | (go_at_call 18; refine (CSi _ (by first | exact hbb | exact HBL.out _ hbb)).mono ?_; rintro e w3 ⟨rfl, hbb, hcc⟩; have z3 := hbb.size; (first | (have hq := alloc_keptm hcc; obtain ⟨hq1, hq2, hq3, hq4⟩ := hq) | (have hq := cells_keptm hcc ⟨hq1, hq2, hq3, hq4⟩; obtain ⟨hq1, hq2, hq3, hq4⟩ := hq) | skip)))
  all_goals
    first
      | (have hR := leafS (u := .int .i64 u) (v := .int .i64 v) hbb (by have := HSZ.out; omega) hq1 hq2; generalize (w3.setCell _ _).setCell _ _ = W at hR ⊢)
      | (have hR := leafA (t := 28) (u := .int .i64 u) (v := .int .i64 v) hbb (by have := HSZ.out; omega); generalize w3.alloc _ = W at hR ⊢)
    obtain ⟨hBW, ⟨hp0, hp1⟩, -, hpl⟩ := hR
    have HBW : Hid (Below (w.heap.size + 2) wa W) := hBW
    have HP : Hid (_ ∧ _ ∧ _) := ⟨hp0, hp1, hpl⟩
    have hb1 : Below W.heap.size W W.drew := (Below.refl _ _).drew
    clear hBW hp0 hp1 hpl hbb hcc z1 z2 z3
    iterate 4 (try clear hq1 hq2 hq3 hq4)
    have DT : ∀ wc, Below W.heap.size W wc → Calls Try.prog 9 #[.agg #[.int .i64 a, .int .i64 b, .int .i64 c, .int .i64 d, .int .i64 f, .int .i64 k, .int .i64 a', .int .i64 b', .int .i64 c', .int .i64 d', .int .i64 f', .int .i64 k']] wc fun e w' => e = .returned (.agg #[.int .i64 a, .int .i64 b, .int .i64 c, .int .i64 d, .int .i64 f, .int .i64 k, .int .i64 a', .int .i64 b', .int .i64 c', .int .i64 d', .int .i64 f', .int .i64 k']) ∧ Below W.heap.size W w' ∧ Below wc.heap.size wc w' := fun wc h => (CT wc).mono fun _ _ hh => ⟨hh.1, h.trans (hh.2.mono h.size), hh.2⟩
    have DU : ∀ wc, Below W.heap.size W wc → Calls Try.prog 10 #[.agg #[.int .i64 x, .int .i64 y]] wc fun e w' => e = .returned (.agg #[.int .i64 x, .int .i64 y]) ∧ Below W.heap.size W w' ∧ Below wc.heap.size wc w' := fun wc h => (CU wc).mono fun _ _ hh => ⟨hh.1, h.trans (hh.2.mono h.size), hh.2⟩
    have DI : ∀ wc, Below W.heap.size W wc → Calls Try.prog 19 #[.agg #[.int .i64 a, .int .i64 b, .int .i64 c, .int .i64 d, .int .i64 f, .int .i64 k, .int .i64 a', .int .i64 b', .int .i64 c', .int .i64 d', .int .i64 f', .int .i64 k'], .agg #[.int .i64 x, .int .i64 y], .int .i64 a2] wc fun e w' => e = .returned (.tuple #[.agg #[.int .i64 u, .int .i64 v], .bool o]) ∧ Below W.heap.size W w' ∧ Below wc.heap.size wc w' := fun wc h => (CI wc).mono fun _ _ hh => ⟨hh.1, h.trans (hh.2.mono h.size), hh.2⟩
    have HKW : Hid (∀ X, Below W.heap.size W X → X.cell? ⟨w.heap.size, 0, none⟩ = some (.int .i64 a) ∧ X.cell? ⟨w.heap.size, 1, none⟩ = some (.int .i64 b) ∧ X.cell? ⟨w.heap.size, 2, none⟩ = some (.int .i64 c) ∧ X.cell? ⟨w.heap.size, 3, none⟩ = some (.int .i64 d) ∧ X.cell? ⟨w.heap.size, 4, none⟩ = some (.int .i64 f) ∧ X.cell? ⟨w.heap.size, 5, none⟩ = some (.int .i64 k) ∧ X.cell? ⟨w.heap.size, 6, none⟩ = some (.int .i64 a') ∧ X.cell? ⟨w.heap.size, 7, none⟩ = some (.int .i64 b') ∧ X.cell? ⟨w.heap.size, 8, none⟩ = some (.int .i64 c') ∧ X.cell? ⟨w.heap.size, 9, none⟩ = some (.int .i64 d') ∧ X.cell? ⟨w.heap.size, 10, none⟩ = some (.int .i64 f') ∧ X.cell? ⟨w.heap.size, 11, none⟩ = some (.int .i64 k') ∧ X.cell? ⟨w.heap.size + 1, 0, none⟩ = some (.int .i64 x) ∧ X.cell? ⟨w.heap.size + 1, 1, none⟩ = some (.int .i64 y)) := fun X h => HK.out X (HBW.out.trans (h.mono (by have := HSZ.out; have := HBW.out.size; omega)))
    have HBL2 : Hid (∀ X, Below W.heap.size W X → Below W.heap.size W (X.alloc (.cells #[.int .i64 0, .int .i64 0] 28))) := fun X h => h.alloc h.size _
    go_wp2
    go_region_held3 (fun X => X.cell? ⟨w.heap.size, 0, none⟩ = some (.int .i64 a) ∧ X.cell? ⟨w.heap.size, 1, none⟩ = some (.int .i64 b) ∧ X.cell? ⟨w.heap.size, 2, none⟩ = some (.int .i64 c) ∧ X.cell? ⟨w.heap.size, 3, none⟩ = some (.int .i64 d) ∧ X.cell? ⟨w.heap.size, 4, none⟩ = some (.int .i64 f) ∧ X.cell? ⟨w.heap.size, 5, none⟩ = some (.int .i64 k) ∧ X.cell? ⟨w.heap.size, 6, none⟩ = some (.int .i64 a') ∧ X.cell? ⟨w.heap.size, 7, none⟩ = some (.int .i64 b') ∧ X.cell? ⟨w.heap.size, 8, none⟩ = some (.int .i64 c') ∧ X.cell? ⟨w.heap.size, 9, none⟩ = some (.int .i64 d') ∧ X.cell? ⟨w.heap.size, 10, none⟩ = some (.int .i64 f') ∧ X.cell? ⟨w.heap.size, 11, none⟩ = some (.int .i64 k') ∧ X.cell? ⟨w.heap.size + 1, 0, none⟩ = some (.int .i64 x) ∧ X.cell? ⟨w.heap.size + 1, 1, none⟩ = some (.int .i64 y)) (first | exact HKW.out _ hbb | exact HKW.out _ hb1 | exact HKW.out _ (HBL2.out _ hbb) | exact HKW.out _ (HBL2.out _ hb1) | exact HKW.out _ (leafS (u := .int .i64 u) (v := .int .i64 v) hbb (by omega) (by assumption) (by assumption)).1 | exact HKW.out _ (leafA hbb (Nat.le_refl _)).1)
      (first
        | (go_at_call 9; refine (DT _ (by first | exact hb1 | exact HBL2.out _ hb1)).mono ?_; rintro e w4 ⟨rfl, hbb, hcc⟩; have z1 := hbb.size; (first | (have hq := alloc_keptm hcc; have hq' : w4.cell? ⟨W.heap.size, 0, none⟩ = some (.int .i64 0) ∧ w4.cell? ⟨W.heap.size, 1, none⟩ = some (.int .i64 0) ∧ w4.frozen? ⟨W.heap.size, 0, none⟩ = false ∧ w4.frozen? ⟨W.heap.size, 1, none⟩ = false := hq; obtain ⟨hq1, hq2, hq3, hq4⟩ := hq') | (have hq := alloc_keptm ((Below.refl _ _).drew.trans hcc); have hq' : w4.cell? ⟨W.heap.size, 0, none⟩ = some (.int .i64 0) ∧ w4.cell? ⟨W.heap.size, 1, none⟩ = some (.int .i64 0) ∧ w4.frozen? ⟨W.heap.size, 0, none⟩ = false ∧ w4.frozen? ⟨W.heap.size, 1, none⟩ = false := hq; obtain ⟨hq1, hq2, hq3, hq4⟩ := hq') | skip))
        | (go_at_call 10; refine (DU _ (by first | exact hbb | exact HBL2.out _ hbb)).mono ?_; rintro e w5 ⟨rfl, hbb, hcc⟩; have z2 := hbb.size; (first | (have hq := alloc_keptm hcc; obtain ⟨hq1, hq2, hq3, hq4⟩ := hq) | (have hq := cells_keptm hcc ⟨hq1, hq2, hq3, hq4⟩; obtain ⟨hq1, hq2, hq3, hq4⟩ := hq) | skip))
        | (go_at_call 19; refine (DI _ (by first | exact hbb | exact HBL2.out _ hbb)).mono ?_; rintro e w6 ⟨rfl, hbb, hcc⟩; have z3 := hbb.size; (first | (have hq := alloc_keptm hcc; obtain ⟨hq1, hq2, hq3, hq4⟩ := hq) | (have hq := cells_keptm hcc ⟨hq1, hq2, hq3, hq4⟩; obtain ⟨hq1, hq2, hq3, hq4⟩ := hq) | skip)))
    all_goals
      first
        | have hR := leafS (u := .int .i64 u) (v := .int .i64 v) hbb (by omega) hq1 hq2
        | have hR := leafA (t := 28) (u := .int .i64 u) (v := .int .i64 v) hbb (Nat.le_refl _)
      obtain ⟨hp0, hp1, hpl⟩ := HP.out
      have r0 := (hbb.cell hpl).trans hp0
      have r1 := (hbb.cell hpl).trans hp1
      obtain ⟨hBX, ⟨s0, s1⟩, hfar, -⟩ := hR
      have r2 := (hfar _ (by first | (simp; omega) | simp)).trans r0
      have r3 := (hfar _ (by first | (simp; omega) | simp)).trans r1
      first
        | (have hqq := hq1; generalize (w6.setCell _ _).setCell _ _ = X at hBX s0 s1 r2 r3 ⊢)
        | generalize w6.alloc _ = X at hBX s0 s1 r2 r3 ⊢
      have hX2 : Below (w.heap.size + 2) wa X := HBW.out.trans (hBX.mono (show w.heap.size + 2 ≤ W.heap.size by have := HSZ.out; have := HBW.out.size; omega))
      have HBX : Hid (Below w.heap.size w X) := HBa.out.trans (hX2.mono (by omega))
      clear hBX hX2 hfar hp0 hp1 hpl r0 r1 hbb hcc
      go_wp2_with fail
      refine (CE _).mono ?_
      rintro e w7 ⟨rfl, hb7⟩
      have HB7 : Hid (Below w.heap.size w w7) := HBX.out.trans (hb7.mono HBX.out.size)
      clear hb7
      go_wp2
      go_ret
      exact ⟨rfl, HB7.out⟩

set_option maxRecDepth 100000 in
theorem lifted (os : Os) (started : os.Started) (H : Type) (enc : TypeId × Value → H) :
    ReturnsInHanded {} Try.checked os 5 .any (Rows.fnExactAfterSpec.pre6 enc Try.prog Try.f5 Rows.fnExactAfterRow.domain false) (Rows.fnExactAfterSpec.post enc Try.prog Try.f5 false true false false) := by
  refine returnsInHanded_of_change (C := Try.checked) own started (by kernel_rfl) Try.func5
    (ChangeSpec.witness6 (enc := enc) (C := Try.checked) false ⟨#[], #[.agg #[.int .i64 0, .int .i64 0, .int .i64 0, .int .i64 0, .int .i64 0, .int .i64 0, .int .i64 0, .int .i64 0, .int .i64 0, .int .i64 0, .int .i64 0, .int .i64 0], .agg #[.int .i64 0, .int .i64 0], .int .i64 0], []⟩ 8 (by kernel_rfl) (by kernel_rfl) (by kernel_rfl) (by kernel_rfl)) ?_
  intro W base args ds gs before hval0 hW hcnd _
  have hval : ∀ (j : Nat) t v, Try.f5.params[j]? = some t → args[j]? = some v → Value.okWide Try.prog W .any base t v := hval0
  have hW' := hW
  obtain ⟨p, q, hA0, hV, rfl, hfz, hnd⟩ := hW
  have hA : DataW.TrodAll enc Try.prog W 0 (fun _ => true) true Try.f5.params.toList args.toList ds p := hA0
  rw [Try.params5] at hA hval
  obtain ⟨v0, vs0, d0, ds0, p0, q0, hargs, rfl, rfl, h0, r0⟩ := trodAll_cons hA
  obtain ⟨v1, vs1, d1, ds1, p1, q1, rfl, rfl, rfl, h1, r1⟩ := trodAll_cons r0
  obtain ⟨v2, vs2, d2, ds2, p2, q2, rfl, rfl, rfl, h2, r2⟩ := trodAll_cons r1
  obtain ⟨rfl, rfl, rfl⟩ := trodAll_nil r2
  obtain rfl : args = #[v0, v1, v2] := by cases args; simp_all
  obtain ⟨rfl, rfl⟩ := trodVars_none hV
  obtain ⟨a0, rfl⟩ := open_machine (hval 0 25 v0 rfl rfl)
  have k0 := h0
  have lt0 : ∀ x ∈ p0, x.block < W.heap.size := by obtain ⟨m, hm⟩ := k0; exact DataW.trod_lt m _ _ _ hm
  obtain ⟨a1, rfl⟩ := open_state (hval 1 27 v1 rfl rfl)
  have k1 := h1
  have lt1 : ∀ x ∈ p1, x.block < W.heap.size := by obtain ⟨m, hm⟩ := k1; exact DataW.trod_lt m _ _ _ hm
  obtain ⟨a2, rfl, rfl, rfl, w2⟩ := open_int Try.underlying2 (hval 2 2 v2 rfl rfl) h2
  clear hA0 hval0
  refine (walk a0 a1 a2 W).mono fun e W' ⟨he, bel⟩ => ?_
  subst he
  exact ⟨_, rfl, _, _, _, [], _, [], hW', trodAll_mk1 (shut_bool Try.underlying4 _), (trodAll_cons_mk (Below.trod laidOut (by kernel_rfl) (of_decide_eq_true (by kernel_rfl)) k0 bel lt0) (trodAll_cons_mk (Below.trod laidOut (by kernel_rfl) (of_decide_eq_true (by kernel_rfl)) k1 bel lt1) (trodAll_cons_mk (shut_int Try.underlying2 w2) trodAll_mk0))), rfl, bel.frame _, fun h => by cases h⟩

theorem over : Rows.fnExactAfterRow.holds Try.pinned (OpenSpec.ofChange Rows.fnExactAfterSpec) :=
  OpenClaim.holds_of_wide 5 Try.f5 rfl rfl rfl rfl rfl rfl rfl ⟨rfl, rfl, rfl, rfl, rfl⟩ rfl rfl rfl rfl rfl (by kernel_rfl) Try.func5 (by kernel_rfl)
    (of_decide_eq_true (by kernel_rfl)) (by unfold Func.isWrapper; first | (rw [if_pos (by decide +kernel)]; kernel_rfl) | (rw [if_neg (by decide +kernel)]; exact ⟨rfl, rfl⟩))
    (fun os started H enc _ => lifted os started H enc)

theorem proved : Rows.FnExactAfterSaid := over
end Go.Proofs.Ytjeoenieoejolai.fnExactAfter
namespace Go.Proofs.Ytjeoenieoejolai
theorem fnExactAfter_holds : Rows.FnExactAfterSaid := fnExactAfter.proved
#print axioms fnExactAfter_holds
end Go.Proofs.Ytjeoenieoejolai
