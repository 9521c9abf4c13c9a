/- At every machine, state and two numbers CutOf answers as its model, every field; its answer owns its memory, behind another call too. -/
import Derived.Test.YtjeoenieoejolajRows
import Derived.WalkKit
import Derived.ProofKit
import Derived.OpenShut
import Derived.ShutString
import Derived.ChangeOld
import Derived.Below
import Derived.Test.YtjeoenieoejolajClP
import Derived.Test.YtjeoenieoejolajClV
import Derived.Test.YtjeoenieoejolajMaO
namespace Go.Proofs.Ytjeoenieoejolaj.fnExactCutOf
open Go.ChangeShapes Go.WideShapes Go.ChangeAt Go.RowKit
set_option linter.unusedVariables false

theorem own : ownKnob Try.prog.godebug = none := by kernel_rfl
theorem laidOut : laidOutB Try.prog = true := by kernel_rfl

set_option maxHeartbeats 8000000 in
set_option maxRecDepth 100000 in
theorem walk (a0 : M.Mc) (a1 : Int × Int) (a2 : Int) (a3 : Int) (w : World) :
    Calls Try.prog 6 #[mcv a0, stv a1, .int .i64 a2, .int .i64 a3] w fun e w' => e = .returned (.bool true) ∧ Below w.heap.size w w' := by
  have CT := toMachine_any a0
  have CU := toState_any a1
  have CS := specCutOf_any a0 a1 a2 a3
  have CI := implCutOf_any a0 a1 a2 a3
  generalize M.cutv a0 a1 a2 a3 = rv at CS CI
  generalize M.cutOk a0 a1 a2 a3 = o at CS CI
  obtain ⟨⟨a, b, c, d, f, k⟩, ⟨a', b', c', d', f', k'⟩⟩ := a0
  obtain ⟨x, y⟩ := a1
  dsimp only [mcv, stv] at CT CU CS CI ⊢
  have HK : Hid (∀ W, Below (w.heap.size + 2) ((w.alloc (.cells #[.int .i64 a, .int .i64 b, .int .i64 c, .int .i64 d, .int .i64 f, .int .i64 k, .int .i64 a', .int .i64 b', .int .i64 c', .int .i64 d', .int .i64 f', .int .i64 k'] 25)).alloc (.cells #[.int .i64 x, .int .i64 y] 27)) W → W.cell? ⟨w.heap.size, 0, none⟩ = some (.int .i64 a) ∧ W.cell? ⟨w.heap.size, 1, none⟩ = some (.int .i64 b) ∧ W.cell? ⟨w.heap.size, 2, none⟩ = some (.int .i64 c) ∧ W.cell? ⟨w.heap.size, 3, none⟩ = some (.int .i64 d) ∧ W.cell? ⟨w.heap.size, 4, none⟩ = some (.int .i64 f) ∧ W.cell? ⟨w.heap.size, 5, none⟩ = some (.int .i64 k) ∧ W.cell? ⟨w.heap.size, 6, none⟩ = some (.int .i64 a') ∧ W.cell? ⟨w.heap.size, 7, none⟩ = some (.int .i64 b') ∧ W.cell? ⟨w.heap.size, 8, none⟩ = some (.int .i64 c') ∧ W.cell? ⟨w.heap.size, 9, none⟩ = some (.int .i64 d') ∧ W.cell? ⟨w.heap.size, 10, none⟩ = some (.int .i64 f') ∧ W.cell? ⟨w.heap.size, 11, none⟩ = some (.int .i64 k') ∧ W.cell? ⟨w.heap.size + 1, 0, none⟩ = some (.int .i64 x) ∧ W.cell? ⟨w.heap.size + 1, 1, none⟩ = some (.int .i64 y)) := fun W hW => by
    have e1 : (w.alloc (.cells #[.int .i64 a, .int .i64 b, .int .i64 c, .int .i64 d, .int .i64 f, .int .i64 k, .int .i64 a', .int .i64 b', .int .i64 c', .int .i64 d', .int .i64 f', .int .i64 k'] 25)).heap.size = w.heap.size + 1 := by simp
    have h1 := fun i => World.cell?_alloc_new (w.alloc (.cells #[.int .i64 a, .int .i64 b, .int .i64 c, .int .i64 d, .int .i64 f, .int .i64 k, .int .i64 a', .int .i64 b', .int .i64 c', .int .i64 d', .int .i64 f', .int .i64 k'] 25)) #[.int .i64 x, .int .i64 y] 27 i
    rw [e1] at h1
    have h0 := fun i => (World.cell?_alloc_lt (w := w.alloc (.cells #[.int .i64 a, .int .i64 b, .int .i64 c, .int .i64 d, .int .i64 f, .int .i64 k, .int .i64 a', .int .i64 b', .int .i64 c', .int .i64 d', .int .i64 f', .int .i64 k'] 25)) (o := .cells #[.int .i64 x, .int .i64 y] 27) (a := ⟨w.heap.size, i, none⟩) (h := by simp)).trans (World.cell?_alloc_new w #[.int .i64 a, .int .i64 b, .int .i64 c, .int .i64 d, .int .i64 f, .int .i64 k, .int .i64 a', .int .i64 b', .int .i64 c', .int .i64 d', .int .i64 f', .int .i64 k'] 25 i)
    exact ⟨(hW.cell (p := ⟨w.heap.size, 0, none⟩) (by simp)).trans (h0 0), (hW.cell (p := ⟨w.heap.size, 1, none⟩) (by simp)).trans (h0 1), (hW.cell (p := ⟨w.heap.size, 2, none⟩) (by simp)).trans (h0 2), (hW.cell (p := ⟨w.heap.size, 3, none⟩) (by simp)).trans (h0 3), (hW.cell (p := ⟨w.heap.size, 4, none⟩) (by simp)).trans (h0 4), (hW.cell (p := ⟨w.heap.size, 5, none⟩) (by simp)).trans (h0 5), (hW.cell (p := ⟨w.heap.size, 6, none⟩) (by simp)).trans (h0 6), (hW.cell (p := ⟨w.heap.size, 7, none⟩) (by simp)).trans (h0 7), (hW.cell (p := ⟨w.heap.size, 8, none⟩) (by simp)).trans (h0 8), (hW.cell (p := ⟨w.heap.size, 9, none⟩) (by simp)).trans (h0 9), (hW.cell (p := ⟨w.heap.size, 10, none⟩) (by simp)).trans (h0 10), (hW.cell (p := ⟨w.heap.size, 11, none⟩) (by simp)).trans (h0 11), (hW.cell (p := ⟨w.heap.size + 1, 0, none⟩) (by simp)).trans (h1 0), (hW.cell (p := ⟨w.heap.size + 1, 1, none⟩) (by simp)).trans (h1 1)⟩
  have HBa : Hid (Below w.heap.size w ((w.alloc (.cells #[.int .i64 a, .int .i64 b, .int .i64 c, .int .i64 d, .int .i64 f, .int .i64 k, .int .i64 a', .int .i64 b', .int .i64 c', .int .i64 d', .int .i64 f', .int .i64 k'] 25)).alloc (.cells #[.int .i64 x, .int .i64 y] 27))) := ((Below.refl _ _).alloc (Nat.le_refl _) _).alloc (by simp) _
  have hsz : ((w.alloc (.cells #[.int .i64 a, .int .i64 b, .int .i64 c, .int .i64 d, .int .i64 f, .int .i64 k, .int .i64 a', .int .i64 b', .int .i64 c', .int .i64 d', .int .i64 f', .int .i64 k'] 25)).alloc (.cells #[.int .i64 x, .int .i64 y] 27)).heap.size = w.heap.size + 2 := by simp
  generalize hwa : ((w.alloc (.cells #[.int .i64 a, .int .i64 b, .int .i64 c, .int .i64 d, .int .i64 f, .int .i64 k, .int .i64 a', .int .i64 b', .int .i64 c', .int .i64 d', .int .i64 f', .int .i64 k'] 25)).alloc (.cells #[.int .i64 x, .int .i64 y] 27)) = wa at HK HBa hsz
  have HWA : Hid (((w.alloc (.cells #[.int .i64 a, .int .i64 b, .int .i64 c, .int .i64 d, .int .i64 f, .int .i64 k, .int .i64 a', .int .i64 b', .int .i64 c', .int .i64 d', .int .i64 f', .int .i64 k'] 25)).alloc (.cells #[.int .i64 x, .int .i64 y] 27)) = wa) := hwa
  clear hwa
  have AT : ∀ wc, Below (w.heap.size + 2) wa wc → Calls Try.prog 8 #[.agg #[.int .i64 a, .int .i64 b, .int .i64 c, .int .i64 d, .int .i64 f, .int .i64 k, .int .i64 a', .int .i64 b', .int .i64 c', .int .i64 d', .int .i64 f', .int .i64 k']] wc fun e w' => e = .returned (.agg #[.int .i64 a, .int .i64 b, .int .i64 c, .int .i64 d, .int .i64 f, .int .i64 k, .int .i64 a', .int .i64 b', .int .i64 c', .int .i64 d', .int .i64 f', .int .i64 k']) ∧ Below (w.heap.size + 2) wa w' ∧ Below wc.heap.size wc w' := fun wc h => (CT wc).mono fun _ _ hh => ⟨hh.1, h.trans (hh.2.mono (by have := h.size; omega)), hh.2⟩
  have AU : ∀ wc, Below (w.heap.size + 2) wa wc → Calls Try.prog 20 #[.agg #[.int .i64 x, .int .i64 y]] wc fun e w' => e = .returned (.agg #[.int .i64 x, .int .i64 y]) ∧ Below (w.heap.size + 2) wa w' ∧ Below wc.heap.size wc w' := fun wc h => (CU wc).mono fun _ _ hh => ⟨hh.1, h.trans (hh.2.mono (by have := h.size; omega)), hh.2⟩
  have AS : ∀ wc, Below (w.heap.size + 2) wa wc → Calls Try.prog 19 #[.agg #[.int .i64 a, .int .i64 b, .int .i64 c, .int .i64 d, .int .i64 f, .int .i64 k, .int .i64 a', .int .i64 b', .int .i64 c', .int .i64 d', .int .i64 f', .int .i64 k'], .agg #[.int .i64 x, .int .i64 y], .int .i64 a2, .int .i64 a3] wc fun e w' => ∃ ra rl rc, e = .returned (.tuple #[.slice ra rl rc, .bool o]) ∧ rl ≤ 8 ∧ OwnsC 37 w' wc.heap.size ra rl rc rv ∧ Below (w.heap.size + 2) wa w' ∧ Below wc.heap.size wc w' := fun wc h => (CS wc).mono fun _ _ ⟨ra, rl, rc, he, hl, ho, hb⟩ => ⟨ra, rl, rc, he, hl, ho, h.trans (hb.mono (by have := h.size; omega)), hb⟩
  have AI : ∀ wc, Below (w.heap.size + 2) wa wc → Calls Try.prog 21 #[.agg #[.int .i64 a, .int .i64 b, .int .i64 c, .int .i64 d, .int .i64 f, .int .i64 k, .int .i64 a', .int .i64 b', .int .i64 c', .int .i64 d', .int .i64 f', .int .i64 k'], .agg #[.int .i64 x, .int .i64 y], .int .i64 a2, .int .i64 a3] wc fun e w' => ∃ ra rl rc, e = .returned (.tuple #[.slice ra rl rc, .bool o]) ∧ rl ≤ 8 ∧ OwnsC 37 w' wc.heap.size ra rl rc rv ∧ Below (w.heap.size + 2) wa w' ∧ Below wc.heap.size wc w' := fun wc h => (CI wc).mono fun _ _ ⟨ra, rl, rc, he, hl, ho, hb⟩ => ⟨ra, rl, rc, he, hl, ho, h.trans (hb.mono (by have := h.size; omega)), hb⟩
  have hb0 : Below (w.heap.size + 2) wa wa.drew := (Below.refl _ _).drew
  have HSZ : Hid (wa.heap.size = w.heap.size + 2) := hsz
  clear hsz
  have n1 : (o != o) = false := by simp
  go_enter Try.func6, Try.ntmps6
  go_wp2
  rw [HWA.out]
  go_region_held3 (fun W => W.cell? ⟨w.heap.size, 0, none⟩ = some (.int .i64 a) ∧ W.cell? ⟨w.heap.size, 1, none⟩ = some (.int .i64 b) ∧ W.cell? ⟨w.heap.size, 2, none⟩ = some (.int .i64 c) ∧ W.cell? ⟨w.heap.size, 3, none⟩ = some (.int .i64 d) ∧ W.cell? ⟨w.heap.size, 4, none⟩ = some (.int .i64 f) ∧ W.cell? ⟨w.heap.size, 5, none⟩ = some (.int .i64 k) ∧ W.cell? ⟨w.heap.size, 6, none⟩ = some (.int .i64 a') ∧ W.cell? ⟨w.heap.size, 7, none⟩ = some (.int .i64 b') ∧ W.cell? ⟨w.heap.size, 8, none⟩ = some (.int .i64 c') ∧ W.cell? ⟨w.heap.size, 9, none⟩ = some (.int .i64 d') ∧ W.cell? ⟨w.heap.size, 10, none⟩ = some (.int .i64 f') ∧ W.cell? ⟨w.heap.size, 11, none⟩ = some (.int .i64 k') ∧ W.cell? ⟨w.heap.size + 1, 0, none⟩ = some (.int .i64 x) ∧ W.cell? ⟨w.heap.size + 1, 1, none⟩ = some (.int .i64 y)) (first | exact HK.out _ hbb | exact HK.out _ hb0)
    (first
      | (go_at_call 8; refine (AT _ hb0).mono ?_; rintro e w1a ⟨rfl, hbb, hcc⟩)
      | (go_at_call 20; refine (AU _ hbb).mono ?_; rintro e w1b ⟨rfl, hbb, hcc⟩; have w1z := hbb.size)
      | (go_at_call 19; refine (AS _ hbb).mono ?_; rintro e w1 ⟨w1p, w1l, w1c, rfl, w1h, w1o, hbb, hcc⟩))
  have HB1 : Hid (Below (w.heap.size + 2) wa w1) := hbb
  have HS1 : Hid (SeesC w1 w1p w1l w1c rv) := w1o.sees
  have HX1 : Hid (∀ q, w1p = some q → q.block < w1.heap.size) := fun q hq => (w1o.lo q hq).2
  have HL1 : Hid (w1l = rv.length) := w1o.1.symm
  have HK1 : Hid (∀ W, Below w1.heap.size w1 W → W.cell? ⟨w.heap.size, 0, none⟩ = some (.int .i64 a) ∧ W.cell? ⟨w.heap.size, 1, none⟩ = some (.int .i64 b) ∧ W.cell? ⟨w.heap.size, 2, none⟩ = some (.int .i64 c) ∧ W.cell? ⟨w.heap.size, 3, none⟩ = some (.int .i64 d) ∧ W.cell? ⟨w.heap.size, 4, none⟩ = some (.int .i64 f) ∧ W.cell? ⟨w.heap.size, 5, none⟩ = some (.int .i64 k) ∧ W.cell? ⟨w.heap.size, 6, none⟩ = some (.int .i64 a') ∧ W.cell? ⟨w.heap.size, 7, none⟩ = some (.int .i64 b') ∧ W.cell? ⟨w.heap.size, 8, none⟩ = some (.int .i64 c') ∧ W.cell? ⟨w.heap.size, 9, none⟩ = some (.int .i64 d') ∧ W.cell? ⟨w.heap.size, 10, none⟩ = some (.int .i64 f') ∧ W.cell? ⟨w.heap.size, 11, none⟩ = some (.int .i64 k') ∧ W.cell? ⟨w.heap.size + 1, 0, none⟩ = some (.int .i64 x) ∧ W.cell? ⟨w.heap.size + 1, 1, none⟩ = some (.int .i64 y)) := fun W h => HK.out W (HB1.out.trans (h.mono (by have := HB1.out.size; have := HSZ.out; omega)))
  have hb1 : Below w1.heap.size w1 w1.drew := (Below.refl _ _).drew
  clear hbb hcc w1o hb0 w1h w1z AT AU AS AI
  have ET : ∀ wc, Below w1.heap.size w1 wc → Calls Try.prog 8 #[.agg #[.int .i64 a, .int .i64 b, .int .i64 c, .int .i64 d, .int .i64 f, .int .i64 k, .int .i64 a', .int .i64 b', .int .i64 c', .int .i64 d', .int .i64 f', .int .i64 k']] wc fun e w' => e = .returned (.agg #[.int .i64 a, .int .i64 b, .int .i64 c, .int .i64 d, .int .i64 f, .int .i64 k, .int .i64 a', .int .i64 b', .int .i64 c', .int .i64 d', .int .i64 f', .int .i64 k']) ∧ Below w1.heap.size w1 w' ∧ Below wc.heap.size wc w' := fun wc h => (CT wc).mono fun _ _ hh => ⟨hh.1, h.trans (hh.2.mono (by have := h.size; omega)), hh.2⟩
  have EU : ∀ wc, Below w1.heap.size w1 wc → Calls Try.prog 20 #[.agg #[.int .i64 x, .int .i64 y]] wc fun e w' => e = .returned (.agg #[.int .i64 x, .int .i64 y]) ∧ Below w1.heap.size w1 w' ∧ Below wc.heap.size wc w' := fun wc h => (CU wc).mono fun _ _ hh => ⟨hh.1, h.trans (hh.2.mono (by have := h.size; omega)), hh.2⟩
  have ES : ∀ wc, Below w1.heap.size w1 wc → Calls Try.prog 19 #[.agg #[.int .i64 a, .int .i64 b, .int .i64 c, .int .i64 d, .int .i64 f, .int .i64 k, .int .i64 a', .int .i64 b', .int .i64 c', .int .i64 d', .int .i64 f', .int .i64 k'], .agg #[.int .i64 x, .int .i64 y], .int .i64 a2, .int .i64 a3] wc fun e w' => ∃ ra rl rc, e = .returned (.tuple #[.slice ra rl rc, .bool o]) ∧ rl ≤ 8 ∧ OwnsC 37 w' wc.heap.size ra rl rc rv ∧ Below w1.heap.size w1 w' ∧ Below wc.heap.size wc w' := fun wc h => (CS wc).mono fun _ _ ⟨ra, rl, rc, he, hl, ho, hb⟩ => ⟨ra, rl, rc, he, hl, ho, h.trans (hb.mono (by have := h.size; omega)), hb⟩
  have EI : ∀ wc, Below w1.heap.size w1 wc → Calls Try.prog 21 #[.agg #[.int .i64 a, .int .i64 b, .int .i64 c, .int .i64 d, .int .i64 f, .int .i64 k, .int .i64 a', .int .i64 b', .int .i64 c', .int .i64 d', .int .i64 f', .int .i64 k'], .agg #[.int .i64 x, .int .i64 y], .int .i64 a2, .int .i64 a3] wc fun e w' => ∃ ra rl rc, e = .returned (.tuple #[.slice ra rl rc, .bool o]) ∧ rl ≤ 8 ∧ OwnsC 37 w' wc.heap.size ra rl rc rv ∧ Below w1.heap.size w1 w' ∧ Below wc.heap.size wc w' := fun wc h => (CI wc).mono fun _ _ ⟨ra, rl, rc, he, hl, ho, hb⟩ => ⟨ra, rl, rc, he, hl, ho, h.trans (hb.mono (by have := h.size; omega)), hb⟩
  go_wp2
  go_region_held3 (fun W => W.cell? ⟨w.heap.size, 0, none⟩ = some (.int .i64 a) ∧ W.cell? ⟨w.heap.size, 1, none⟩ = some (.int .i64 b) ∧ W.cell? ⟨w.heap.size, 2, none⟩ = some (.int .i64 c) ∧ W.cell? ⟨w.heap.size, 3, none⟩ = some (.int .i64 d) ∧ W.cell? ⟨w.heap.size, 4, none⟩ = some (.int .i64 f) ∧ W.cell? ⟨w.heap.size, 5, none⟩ = some (.int .i64 k) ∧ W.cell? ⟨w.heap.size, 6, none⟩ = some (.int .i64 a') ∧ W.cell? ⟨w.heap.size, 7, none⟩ = some (.int .i64 b') ∧ W.cell? ⟨w.heap.size, 8, none⟩ = some (.int .i64 c') ∧ W.cell? ⟨w.heap.size, 9, none⟩ = some (.int .i64 d') ∧ W.cell? ⟨w.heap.size, 10, none⟩ = some (.int .i64 f') ∧ W.cell? ⟨w.heap.size, 11, none⟩ = some (.int .i64 k') ∧ W.cell? ⟨w.heap.size + 1, 0, none⟩ = some (.int .i64 x) ∧ W.cell? ⟨w.heap.size + 1, 1, none⟩ = some (.int .i64 y)) (first | exact HK1.out _ hbb | exact HK1.out _ hb1)
    (first
      | (go_at_call 8; refine (ET _ hb1).mono ?_; rintro e w2a ⟨rfl, hbb, hcc⟩)
      | (go_at_call 20; refine (EU _ hbb).mono ?_; rintro e w2b ⟨rfl, hbb, hcc⟩; have w2z := hbb.size)
      | (go_at_call 21; refine (EI _ hbb).mono ?_; rintro e w2 ⟨w2p, w2l, w2c, rfl, w2h, w2o, hbb, hcc⟩))
  have HB2 : Hid (Below w1.heap.size w1 w2) := hbb
  have HO2 : Hid (OwnsC 37 w2 w1.heap.size w2p w2l w2c rv) := w2o.mono w2z
  have hl2 : w2l = w1l := by rw [HL1.out]; exact w2o.1.symm
  subst hl2
  clear hbb hcc w2o hb1 w2z ET EU ES EI
  go_wp2_with fail
  refine (eqC_same _ HO2.out.sees (HS1.out.below HB2.out)).mono ?_
  rintro e w3 ⟨rfl, hb3⟩
  have HO3 : Hid (OwnsC 37 w3 w1.heap.size w2p w2l w2c rv) := HO2.out.below hb3
  have HB3 : Hid (Below w1.heap.size w1 w3) := HB2.out.trans (hb3.mono HB2.out.size)
  clear hb3
  have hmn : w2l ≤ 8 := w2h
  go_wp2_with fail
  refine (markC_any 1 _ HO3.out (by omega) (by omega) (by omega)).mono ?_
  rintro e w4 ⟨rfl, hs4, hg4⟩
  have HS4 : Hid (SeesC w4 w2p w2l w2c (M.mkc 1 w2l)) := hs4
  have HB4 : Hid (Below w1.heap.size w1 w4) := HB3.out.grown hg4 HB3.out.size HO3.out.row
  have HR4 : Hid (SeesC w4 w1p w2l w1c rv) := (HS1.out.below HB3.out).grown hg4 (fun q hq e => by
    have h1 := HX1.out q hq
    have h2 := HO3.out.row q.block e
    omega)
  have hb4 : Below w4.heap.size w4 w4.drew := (Below.refl _ _).drew
  have HK4 : Hid (∀ W, Below w4.heap.size w4 W → W.cell? ⟨w.heap.size, 0, none⟩ = some (.int .i64 a) ∧ W.cell? ⟨w.heap.size, 1, none⟩ = some (.int .i64 b) ∧ W.cell? ⟨w.heap.size, 2, none⟩ = some (.int .i64 c) ∧ W.cell? ⟨w.heap.size, 3, none⟩ = some (.int .i64 d) ∧ W.cell? ⟨w.heap.size, 4, none⟩ = some (.int .i64 f) ∧ W.cell? ⟨w.heap.size, 5, none⟩ = some (.int .i64 k) ∧ W.cell? ⟨w.heap.size, 6, none⟩ = some (.int .i64 a') ∧ W.cell? ⟨w.heap.size, 7, none⟩ = some (.int .i64 b') ∧ W.cell? ⟨w.heap.size, 8, none⟩ = some (.int .i64 c') ∧ W.cell? ⟨w.heap.size, 9, none⟩ = some (.int .i64 d') ∧ W.cell? ⟨w.heap.size, 10, none⟩ = some (.int .i64 f') ∧ W.cell? ⟨w.heap.size, 11, none⟩ = some (.int .i64 k') ∧ W.cell? ⟨w.heap.size + 1, 0, none⟩ = some (.int .i64 x) ∧ W.cell? ⟨w.heap.size + 1, 1, none⟩ = some (.int .i64 y)) := fun W h => HK1.out W (HB4.out.trans (h.mono HB4.out.size))
  clear hs4 hg4
  have i1 : ¬ 1 + (w2l : Int) * 5 < 0 := by omega
  have i2 : (1 + (w2l : Int) * 5 != 1 + (w2l : Int) * 5) = false := by simp
  go_wp2_with fail
  refine (heldC_any 1 _ HS4.out (by omega) (by omega) (by omega)).mono ?_
  rintro e w4 ⟨rfl, rfl⟩
  have GT : ∀ wc, Below w4.heap.size w4 wc → Calls Try.prog 8 #[.agg #[.int .i64 a, .int .i64 b, .int .i64 c, .int .i64 d, .int .i64 f, .int .i64 k, .int .i64 a', .int .i64 b', .int .i64 c', .int .i64 d', .int .i64 f', .int .i64 k']] wc fun e w' => e = .returned (.agg #[.int .i64 a, .int .i64 b, .int .i64 c, .int .i64 d, .int .i64 f, .int .i64 k, .int .i64 a', .int .i64 b', .int .i64 c', .int .i64 d', .int .i64 f', .int .i64 k']) ∧ Below w4.heap.size w4 w' ∧ Below wc.heap.size wc w' := fun wc h => (CT wc).mono fun _ _ hh => ⟨hh.1, h.trans (hh.2.mono (by have := h.size; omega)), hh.2⟩
  have GU : ∀ wc, Below w4.heap.size w4 wc → Calls Try.prog 20 #[.agg #[.int .i64 x, .int .i64 y]] wc fun e w' => e = .returned (.agg #[.int .i64 x, .int .i64 y]) ∧ Below w4.heap.size w4 w' ∧ Below wc.heap.size wc w' := fun wc h => (CU wc).mono fun _ _ hh => ⟨hh.1, h.trans (hh.2.mono (by have := h.size; omega)), hh.2⟩
  have GS : ∀ wc, Below w4.heap.size w4 wc → Calls Try.prog 19 #[.agg #[.int .i64 a, .int .i64 b, .int .i64 c, .int .i64 d, .int .i64 f, .int .i64 k, .int .i64 a', .int .i64 b', .int .i64 c', .int .i64 d', .int .i64 f', .int .i64 k'], .agg #[.int .i64 x, .int .i64 y], .int .i64 a2, .int .i64 a3] wc fun e w' => ∃ ra rl rc, e = .returned (.tuple #[.slice ra rl rc, .bool o]) ∧ rl ≤ 8 ∧ OwnsC 37 w' wc.heap.size ra rl rc rv ∧ Below w4.heap.size w4 w' ∧ Below wc.heap.size wc w' := fun wc h => (CS wc).mono fun _ _ ⟨ra, rl, rc, he, hl, ho, hb⟩ => ⟨ra, rl, rc, he, hl, ho, h.trans (hb.mono (by have := h.size; omega)), hb⟩
  have GI : ∀ wc, Below w4.heap.size w4 wc → Calls Try.prog 21 #[.agg #[.int .i64 a, .int .i64 b, .int .i64 c, .int .i64 d, .int .i64 f, .int .i64 k, .int .i64 a', .int .i64 b', .int .i64 c', .int .i64 d', .int .i64 f', .int .i64 k'], .agg #[.int .i64 x, .int .i64 y], .int .i64 a2, .int .i64 a3] wc fun e w' => ∃ ra rl rc, e = .returned (.tuple #[.slice ra rl rc, .bool o]) ∧ rl ≤ 8 ∧ OwnsC 37 w' wc.heap.size ra rl rc rv ∧ Below w4.heap.size w4 w' ∧ Below wc.heap.size wc w' := fun wc h => (CI wc).mono fun _ _ ⟨ra, rl, rc, he, hl, ho, hb⟩ => ⟨ra, rl, rc, he, hl, ho, h.trans (hb.mono (by have := h.size; omega)), hb⟩
  go_wp2
  go_region_held3 (fun W => W.cell? ⟨w.heap.size, 0, none⟩ = some (.int .i64 a) ∧ W.cell? ⟨w.heap.size, 1, none⟩ = some (.int .i64 b) ∧ W.cell? ⟨w.heap.size, 2, none⟩ = some (.int .i64 c) ∧ W.cell? ⟨w.heap.size, 3, none⟩ = some (.int .i64 d) ∧ W.cell? ⟨w.heap.size, 4, none⟩ = some (.int .i64 f) ∧ W.cell? ⟨w.heap.size, 5, none⟩ = some (.int .i64 k) ∧ W.cell? ⟨w.heap.size, 6, none⟩ = some (.int .i64 a') ∧ W.cell? ⟨w.heap.size, 7, none⟩ = some (.int .i64 b') ∧ W.cell? ⟨w.heap.size, 8, none⟩ = some (.int .i64 c') ∧ W.cell? ⟨w.heap.size, 9, none⟩ = some (.int .i64 d') ∧ W.cell? ⟨w.heap.size, 10, none⟩ = some (.int .i64 f') ∧ W.cell? ⟨w.heap.size, 11, none⟩ = some (.int .i64 k') ∧ W.cell? ⟨w.heap.size + 1, 0, none⟩ = some (.int .i64 x) ∧ W.cell? ⟨w.heap.size + 1, 1, none⟩ = some (.int .i64 y)) (first | exact HK4.out _ hbb | exact HK4.out _ hb4)
    (first
      | (go_at_call 8; refine (GT _ hb4).mono ?_; rintro e w5a ⟨rfl, hbb, hcc⟩)
      | (go_at_call 20; refine (GU _ hbb).mono ?_; rintro e w5b ⟨rfl, hbb, hcc⟩; have w5z := hbb.size)
      | (go_at_call 21; refine (GI _ hbb).mono ?_; rintro e w5 ⟨w5p, w5l, w5c, rfl, w5h, w5o, hbb, hcc⟩))
  have HB5 : Hid (Below w4.heap.size w4 w5) := hbb
  have HS5 : Hid (SeesC w5 w5p w5l w5c rv) := w5o.sees
  have hl5 : w5l = w2l := by rw [HL1.out]; exact w5o.1.symm
  subst hl5
  clear hbb hcc w5o hb4 w5z GT GU GS GI
  go_wp2_with fail
  refine (eqC_same _ HS5.out (HR4.out.below HB5.out)).mono ?_
  rintro e w6 ⟨rfl, hb6⟩
  have HB6 : Hid (Below w4.heap.size w4 w6) := HB5.out.trans (hb6.mono HB5.out.size)
  clear hb6
  go_wp2_with fail
  refine (heldC_any 1 _ (HS4.out.below HB6.out) (by omega) (by omega) (by omega)).mono ?_
  rintro e w6 ⟨rfl, rfl⟩
  go_wp2
  go_ret
  exact ⟨rfl, HBa.out.trans ((HB1.out.trans ((HB4.out.trans (HB6.out.mono HB4.out.size)).mono (by have := HB1.out.size; have := HSZ.out; omega))).mono (by omega))⟩

set_option maxRecDepth 100000 in
theorem lifted (os : Os) (started : os.Started) (H : Type) (enc : TypeId × Value → H) :
    ReturnsInHanded {} Try.checked os 6 .any (Rows.fnExactCutOfSpec.pre6 enc Try.prog Try.f6 Rows.fnExactCutOfRow.domain false) (Rows.fnExactCutOfSpec.post enc Try.prog Try.f6 false true false false) := by
  refine returnsInHanded_of_change (C := Try.checked) own started (by kernel_rfl) Try.func6
    (ChangeSpec.witness6 (enc := enc) (C := Try.checked) false ⟨#[], #[.agg #[.int .i64 0, .int .i64 0, .int .i64 0, .int .i64 0, .int .i64 0, .int .i64 0, .int .i64 0, .int .i64 0, .int .i64 0, .int .i64 0, .int .i64 0, .int .i64 0], .agg #[.int .i64 0, .int .i64 0], .int .i64 0, .int .i64 0], []⟩ 8 (by kernel_rfl) (by kernel_rfl) (by kernel_rfl) (by kernel_rfl)) ?_
  intro W base args ds gs before hval0 hW hcnd _
  have hval : ∀ (j : Nat) t v, Try.f6.params[j]? = some t → args[j]? = some v → Value.okWide Try.prog W .any base t v := hval0
  have hW' := hW
  obtain ⟨p, q, hA0, hV, rfl, hfz, hnd⟩ := hW
  have hA : DataW.TrodAll enc Try.prog W 0 (fun _ => true) true Try.f6.params.toList args.toList ds p := hA0
  rw [Try.params6] at hA hval
  obtain ⟨v0, vs0, d0, ds0, p0, q0, hargs, rfl, rfl, h0, r0⟩ := trodAll_cons hA
  obtain ⟨v1, vs1, d1, ds1, p1, q1, rfl, rfl, rfl, h1, r1⟩ := trodAll_cons r0
  obtain ⟨v2, vs2, d2, ds2, p2, q2, rfl, rfl, rfl, h2, r2⟩ := trodAll_cons r1
  obtain ⟨v3, vs3, d3, ds3, p3, q3, rfl, rfl, rfl, h3, r3⟩ := trodAll_cons r2
  obtain ⟨rfl, rfl, rfl⟩ := trodAll_nil r3
  obtain rfl : args = #[v0, v1, v2, v3] := by cases args; simp_all
  obtain ⟨rfl, rfl⟩ := trodVars_none hV
  obtain ⟨a0, rfl⟩ := open_machine (hval 0 25 v0 rfl rfl)
  have k0 := h0
  have lt0 : ∀ x ∈ p0, x.block < W.heap.size := by obtain ⟨m, hm⟩ := k0; exact DataW.trod_lt m _ _ _ hm
  obtain ⟨a1, rfl⟩ := open_state (hval 1 27 v1 rfl rfl)
  have k1 := h1
  have lt1 : ∀ x ∈ p1, x.block < W.heap.size := by obtain ⟨m, hm⟩ := k1; exact DataW.trod_lt m _ _ _ hm
  obtain ⟨a2, rfl, rfl, rfl, w2⟩ := open_int Try.underlying2 (hval 2 2 v2 rfl rfl) h2
  obtain ⟨a3, rfl, rfl, rfl, w3⟩ := open_int Try.underlying2 (hval 3 2 v3 rfl rfl) h3
  clear hA0 hval0
  refine (walk a0 a1 a2 a3 W).mono fun e W' ⟨he, bel⟩ => ?_
  subst he
  exact ⟨_, rfl, _, _, _, [], _, [], hW', trodAll_mk1 (shut_bool Try.underlying4 _), (trodAll_cons_mk (Below.trod laidOut (by kernel_rfl) (of_decide_eq_true (by kernel_rfl)) k0 bel lt0) (trodAll_cons_mk (Below.trod laidOut (by kernel_rfl) (of_decide_eq_true (by kernel_rfl)) k1 bel lt1) (trodAll_cons_mk (shut_int Try.underlying2 w2) (trodAll_cons_mk (shut_int Try.underlying2 w3) trodAll_mk0)))), rfl, bel.frame _, fun h => by cases h⟩

theorem over : Rows.fnExactCutOfRow.holds Try.pinned (OpenSpec.ofChange Rows.fnExactCutOfSpec) :=
  OpenClaim.holds_of_wide 6 Try.f6 rfl rfl rfl rfl rfl rfl rfl ⟨rfl, rfl, rfl, rfl, rfl⟩ rfl rfl rfl rfl rfl (by kernel_rfl) Try.func6 (by kernel_rfl)
    (of_decide_eq_true (by kernel_rfl)) (by unfold Func.isWrapper; first | (rw [if_pos (by decide +kernel)]; kernel_rfl) | (rw [if_neg (by decide +kernel)]; exact ⟨rfl, rfl⟩))
    (fun os started H enc _ => lifted os started H enc)

theorem proved : Rows.FnExactCutOfSaid := over
end Go.Proofs.Ytjeoenieoejolaj.fnExactCutOf
namespace Go.Proofs.Ytjeoenieoejolaj
theorem fnExactCutOf_holds : Rows.FnExactCutOfSaid := fnExactCutOf.proved
#print axioms fnExactCutOf_holds
end Go.Proofs.Ytjeoenieoejolaj
