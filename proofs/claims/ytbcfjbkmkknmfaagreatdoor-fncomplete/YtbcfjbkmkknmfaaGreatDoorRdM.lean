/- Drawn rules, machines and states: some values each. Drawn machines: some machine each. -/
import Derived.Test.YtbcfjbkmkknmfaaGreatDoorRdD
import Derived.Test.YtbcfjbkmkknmfaaGreatDoorMaB
import Derived.Test.YtbcfjbkmkknmfaaGreatDoorMaF
namespace Go.Proofs.YtbcfjbkmkknmfaaGreatDoor
open Go.RowKit

theorem grown_alloc2 {w w' : World} {R : Nat} {o : Obj} (h : (w.alloc o).grownBy w' (some R)) : w.grownBy w' (some R) := grown_alloc_then h
theorem grown_frozen {w w' : World} {row : Option Nat} {p : Addr} (h : w.grownBy w' row) (hl : p.block < w.heap.size) (hne : some p.block ≠ row) : w'.frozen? p = w.frozen? p := World.frozen?_of_block (a := p) (h.block p.block hl hne)
theorem grown_sets {w w' : World} {B R : Nat} (h : w.grownBy w' (some R)) (hB : w.heap.size ≤ B) : ∀ (vs : List Value) (i : Nat), w.grownBy (sets w' B i vs) (some R) := by
  intro vs
  induction vs generalizing w' with
  | nil => exact fun _ => h
  | cons v vs ih =>
    intro i
    refine ih ?_ (i + 1)
    exact ⟨h.os, h.tape, h.output, by simpa [World.setCell] using h.size, fun k hk hne => (Below.heap_setCell _ _ _ _ (by intro e; have e' : k = B := e; omega)).trans (h.block k hk hne)⟩
theorem Rd.sets {w0 : World} {R B : Nat} {a : Option Addr} {len cap : Nat} (hB : B ≠ R) (hlo : w0.heap.size ≤ B) : ∀ (vs : List Value) (w : World) (i : Nat), Rd w0 R a len cap w → Rd w0 R a len cap (sets w B i vs) := by
  intro vs w i h
  obtain ⟨p, hp, hcp⟩ := h.cp
  exact ⟨sets_below hlo vs w i h.below, h.lo, by rw [sets_size]; exact h.hi, (sets_far B (show R ≠ B from fun e => hB e.symm) vs w i).trans h.cb, ⟨p, hp, (sets_far B (show R ≠ B from fun e => hB e.symm) vs w i).trans hcp⟩, by rw [sets_frozen]; exact h.fr⟩
set_option maxHeartbeats 2000000 in
theorem stateR_any {w0 : World} {R : Nat} {a : Option Addr} {len cap : Nat} {zs : List Int} (hrow : Row .u8 w0 a len cap zs) (w : World) (h : Rd w0 R a len cap w) :
    Calls Tryz.prog 28 #[.pointer (some ⟨R, 0, none⟩)] w fun e w' => ∃ s : Int × Int, e = .returned (stv s) ∧ Rd w0 R a len cap w' ∧ w.grownBy w' (some R) := by
  have HR : Hid (Row .u8 w0 a len cap zs) := hrow
  have H : Hid (Rd w0 R a len cap w) := h
  have hRw := h.hi
  have hlo := h.lo
  clear hrow h
  go_enter Tryz.func28, Tryz.ntmps28
  go_wp2_with fail
  refine (elem_any HR.out _ (H.out.alloc _)).mono ?_
  rintro e w1 ⟨x, -, -, rfl, hr1, hg1⟩
  have HR1 : Hid (Rd w0 R a len cap w1) := hr1
  have HG1 : Hid (w.grownBy w1 (some R)) := grown_alloc2 hg1
  have hs1 : w.heap.size + 1 ≤ w1.heap.size := by have := hg1.size; simpa using this
  have b0 : w1.cell? ⟨w.heap.size, 0, none⟩ = some (.int .i64 0) := hg1.cell (World.cell?_alloc_new _ _ _ _) (by simp; omega)
  have b1 : w1.cell? ⟨w.heap.size, 1, none⟩ = some (.int .i64 0) := hg1.cell (World.cell?_alloc_new _ _ _ _) (by simp; omega)
  have f0 : w1.frozen? ⟨w.heap.size, 0, none⟩ = false := (grown_frozen hg1 (by simp) (by simp; omega)).trans (frozen_one _ _ _ _)
  have f1 : w1.frozen? ⟨w.heap.size, 1, none⟩ = false := (grown_frozen hg1 (by simp) (by simp; omega)).trans (frozen_one _ _ _ _)
  clear hr1 hg1
  go_wp2_with fail
  refine (elem_any HR.out _ (HR1.out.alloc _)).mono ?_
  rintro e w2 ⟨y, -, -, rfl, hr2, hg2⟩
  have HG2' : Hid (w1.grownBy w2 (some R)) := grown_alloc2 hg2
  have hs2 : w1.heap.size + 1 ≤ w2.heap.size := by have := hg2.size; simpa using this
  have c0 : w2.cell? ⟨w.heap.size, 0, none⟩ = some (.int .i64 0) := HG2'.out.cell b0 (by simp; omega)
  have c1 : w2.cell? ⟨w.heap.size, 1, none⟩ = some (.int .i64 0) := HG2'.out.cell b1 (by simp; omega)
  have g0 : w2.frozen? ⟨w.heap.size, 0, none⟩ = false := (grown_frozen HG2'.out (by simp; omega) (by simp; omega)).trans f0
  have g1 : w2.frozen? ⟨w.heap.size, 1, none⟩ = false := (grown_frozen HG2'.out (by simp; omega) (by simp; omega)).trans f1
  have d0 : w2.cell? ⟨w1.heap.size, 0, none⟩ = some (.int .i64 x) := hg2.cell (World.cell?_alloc_new _ _ _ _) (by simp; omega)
  have d1 : w2.cell? ⟨w1.heap.size, 1, none⟩ = some (.int .i64 0) := hg2.cell (World.cell?_alloc_new _ _ _ _) (by simp; omega)
  have k1 : w2.frozen? ⟨w1.heap.size, 1, none⟩ = false := (grown_frozen hg2 (by simp) (by simp; omega)).trans (frozen_one _ _ _ _)
  obtain ⟨w3, hw3⟩ : ∃ u, u = w2.setCell ⟨w1.heap.size, 1, none⟩ (.int .i64 y) := ⟨_, rfl⟩
  have e0 : w3.cell? ⟨w1.heap.size, 0, none⟩ = some (.int .i64 x) := by rw [hw3]; exact (World.cell?_setCell_other (w := w2) (a := ⟨w1.heap.size, 1, none⟩) (b := ⟨w1.heap.size, 0, none⟩) (v := .int .i64 y) (h := by simp)).trans d0
  have e1 : w3.cell? ⟨w1.heap.size, 1, none⟩ = some (.int .i64 y) := by rw [hw3]; exact World.cell?_setCell_same (w := w2) (a := ⟨w1.heap.size, 1, none⟩) (v := .int .i64 y) (h := d1)
  have m0 : w3.cell? ⟨w.heap.size, 0, none⟩ = some (.int .i64 0) := by rw [hw3]; exact (World.cell?_setCell_other (w := w2) (a := ⟨w1.heap.size, 1, none⟩) (b := ⟨w.heap.size, 0, none⟩) (v := .int .i64 y) (h := by simp)).trans c0
  have m1 : w3.cell? ⟨w.heap.size, 1, none⟩ = some (.int .i64 0) := by rw [hw3]; exact (World.cell?_setCell_other (w := w2) (a := ⟨w1.heap.size, 1, none⟩) (b := ⟨w.heap.size, 1, none⟩) (v := .int .i64 y) (h := by simp)).trans c1
  have n0 : w3.frozen? ⟨w.heap.size, 0, none⟩ = false := by rw [hw3]; simpa using g0
  have n1 : w3.frozen? ⟨w.heap.size, 1, none⟩ = false := by rw [hw3]; simpa using g1
  have HR3 : Hid (Rd w0 R a len cap w3) := by show Rd _ _ _ _ _ _; rw [hw3]; exact Rd.sets (B := w1.heap.size) (by omega) (by omega) [.int .i64 y] w2 1 hr2
  have HG3 : Hid (w.grownBy w3 (some R)) := by show World.grownBy _ _ _; rw [hw3]; exact grown_sets (HG1.out.trans HG2'.out) (by omega) [.int .i64 y] 1
  obtain ⟨w4, hw4⟩ : ∃ u, u = sets w3 w.heap.size 0 [.int .i64 x, .int .i64 y] := ⟨_, rfl⟩
  have ha := sets_at w.heap.size [Value.int .i64 x, .int .i64 y] w3 0 (fun j hj => by
    match j, hj with
    | 0, _ => exact ⟨_, m0⟩
    | 1, _ => exact ⟨_, m1⟩)
  rw [← hw4] at ha
  have r0 : w4.cell? ⟨w.heap.size, 0, none⟩ = some (.int .i64 x) := by simpa using ha 0 _ rfl
  have r1 : w4.cell? ⟨w.heap.size, 1, none⟩ = some (.int .i64 y) := by simpa using ha 1 _ rfl
  have HR4 : Hid (Rd w0 R a len cap w4) := by show Rd _ _ _ _ _ _; rw [hw4]; exact Rd.sets (by omega) (by omega) _ _ _ HR3.out
  have HG4 : Hid (w.grownBy w4 (some R)) := by show World.grownBy _ _ _; rw [hw4]; exact grown_sets HG3.out (Nat.le_refl _) _ _
  have HW3 : Hid (w2.setCell ⟨w1.heap.size, 1, none⟩ (.int .i64 y) = w3) := hw3.symm
  have HW4 : Hid (sets w3 w.heap.size 0 [.int .i64 x, .int .i64 y] = w4) := hw4.symm
  clear hw3 hw4 ha hr2 hg2 b0 b1 f0 f1
  go_wp2_with (first | rw [HW3.out] | rw [show (w3.setCell ⟨w.heap.size, 0, none⟩ (.int .i64 x)).setCell ⟨w.heap.size, 1, none⟩ (.int .i64 y) = w4 from HW4.out])
  refine bodyPost_ret (v := .agg #[.int .i64 x, .int .i64 y]) (by simp [results, Tryz.results28, go_sem, r0, r1]) rfl ⟨(x, y), rfl, HR4.out, HG4.out⟩
set_option maxHeartbeats 4000000 in
theorem ruleR_any {w0 : World} {R : Nat} {a : Option Addr} {len cap : Nat} {zs : List Int} (hrow : Row .u8 w0 a len cap zs) (w : World) (h : Rd w0 R a len cap w) :
    Calls Tryz.prog 73 #[.pointer (some ⟨R, 0, none⟩)] w fun e w' => ∃ r : M.Rl, e = .returned (rlv r) ∧ Rd w0 R a len cap w' ∧ w.grownBy w' (some R) := by
  have HR : Hid (Row .u8 w0 a len cap zs) := hrow
  have H : Hid (Rd w0 R a len cap w) := h
  have hRw := h.hi
  have hlo := h.lo
  clear hrow h
  go_enter Tryz.func73, Tryz.ntmps73
  go_wp2_with fail
  refine (elem_any HR.out _ (H.out.alloc _)).mono ?_
  rintro e w1 ⟨x, -, -, rfl, hr1, hg1⟩
  have HR1 : Hid (Rd w0 R a len cap w1) := hr1
  have HG1 : Hid (w.grownBy w1 (some R)) := grown_alloc2 hg1
  have hs1 : w.heap.size + 1 ≤ w1.heap.size := by have := hg1.size; simpa using this
  have w1bc0 : w1.cell? ⟨w.heap.size, 0, none⟩ = some (.int .i64 0) := hg1.cell (World.cell?_alloc_new _ _ _ _) (by simp; omega)
  have w1bf0 : w1.frozen? ⟨w.heap.size, 0, none⟩ = false := (grown_frozen hg1 (by simp) (by simp; omega)).trans (frozen_one _ _ _ _)
  have w1bc1 : w1.cell? ⟨w.heap.size, 1, none⟩ = some (.int .i64 0) := hg1.cell (World.cell?_alloc_new _ _ _ _) (by simp; omega)
  have w1bf1 : w1.frozen? ⟨w.heap.size, 1, none⟩ = false := (grown_frozen hg1 (by simp) (by simp; omega)).trans (frozen_one _ _ _ _)
  have w1bc2 : w1.cell? ⟨w.heap.size, 2, none⟩ = some (.int .i64 0) := hg1.cell (World.cell?_alloc_new _ _ _ _) (by simp; omega)
  have w1bf2 : w1.frozen? ⟨w.heap.size, 2, none⟩ = false := (grown_frozen hg1 (by simp) (by simp; omega)).trans (frozen_one _ _ _ _)
  have w1bc3 : w1.cell? ⟨w.heap.size, 3, none⟩ = some (.int .i64 0) := hg1.cell (World.cell?_alloc_new _ _ _ _) (by simp; omega)
  have w1bf3 : w1.frozen? ⟨w.heap.size, 3, none⟩ = false := (grown_frozen hg1 (by simp) (by simp; omega)).trans (frozen_one _ _ _ _)
  have w1bc4 : w1.cell? ⟨w.heap.size, 4, none⟩ = some (.int .i64 0) := hg1.cell (World.cell?_alloc_new _ _ _ _) (by simp; omega)
  have w1bf4 : w1.frozen? ⟨w.heap.size, 4, none⟩ = false := (grown_frozen hg1 (by simp) (by simp; omega)).trans (frozen_one _ _ _ _)
  have w1bc5 : w1.cell? ⟨w.heap.size, 5, none⟩ = some (.int .i64 0) := hg1.cell (World.cell?_alloc_new _ _ _ _) (by simp; omega)
  have w1bf5 : w1.frozen? ⟨w.heap.size, 5, none⟩ = false := (grown_frozen hg1 (by simp) (by simp; omega)).trans (frozen_one _ _ _ _)
  clear hr1 hg1
  go_wp2_with fail
  refine (elem_any HR.out _ HR1.out).mono ?_
  rintro e w2 ⟨y, -, -, rfl, hrn, hgn⟩
  have HR2 : Hid (Rd w0 R a len cap w2) := hrn
  have HG2 : Hid (w.grownBy w2 (some R)) := HG1.out.trans hgn
  have hs2 : w1.heap.size ≤ w2.heap.size := hgn.size
  have w2bc0 : w2.cell? ⟨w.heap.size, 0, none⟩ = some (.int .i64 0) := hgn.cell w1bc0 (by simp; omega)
  have w2bf0 : w2.frozen? ⟨w.heap.size, 0, none⟩ = false := (grown_frozen hgn (by simp; omega) (by simp; omega)).trans w1bf0
  have w2bc1 : w2.cell? ⟨w.heap.size, 1, none⟩ = some (.int .i64 0) := hgn.cell w1bc1 (by simp; omega)
  have w2bf1 : w2.frozen? ⟨w.heap.size, 1, none⟩ = false := (grown_frozen hgn (by simp; omega) (by simp; omega)).trans w1bf1
  have w2bc2 : w2.cell? ⟨w.heap.size, 2, none⟩ = some (.int .i64 0) := hgn.cell w1bc2 (by simp; omega)
  have w2bf2 : w2.frozen? ⟨w.heap.size, 2, none⟩ = false := (grown_frozen hgn (by simp; omega) (by simp; omega)).trans w1bf2
  have w2bc3 : w2.cell? ⟨w.heap.size, 3, none⟩ = some (.int .i64 0) := hgn.cell w1bc3 (by simp; omega)
  have w2bf3 : w2.frozen? ⟨w.heap.size, 3, none⟩ = false := (grown_frozen hgn (by simp; omega) (by simp; omega)).trans w1bf3
  have w2bc4 : w2.cell? ⟨w.heap.size, 4, none⟩ = some (.int .i64 0) := hgn.cell w1bc4 (by simp; omega)
  have w2bf4 : w2.frozen? ⟨w.heap.size, 4, none⟩ = false := (grown_frozen hgn (by simp; omega) (by simp; omega)).trans w1bf4
  have w2bc5 : w2.cell? ⟨w.heap.size, 5, none⟩ = some (.int .i64 0) := hgn.cell w1bc5 (by simp; omega)
  have w2bf5 : w2.frozen? ⟨w.heap.size, 5, none⟩ = false := (grown_frozen hgn (by simp; omega) (by simp; omega)).trans w1bf5
  clear hrn hgn w1bc0 w1bc1 w1bc2 w1bc3 w1bc4 w1bc5 w1bf0 w1bf1 w1bf2 w1bf3 w1bf4 w1bf5
  go_wp2_with fail
  refine (elem_any HR.out _ HR2.out).mono ?_
  rintro e w3 ⟨k, -, -, rfl, hrn, hgn⟩
  have HR3 : Hid (Rd w0 R a len cap w3) := hrn
  have HG3 : Hid (w.grownBy w3 (some R)) := HG2.out.trans hgn
  have hs3 : w2.heap.size ≤ w3.heap.size := hgn.size
  have w3bc0 : w3.cell? ⟨w.heap.size, 0, none⟩ = some (.int .i64 0) := hgn.cell w2bc0 (by simp; omega)
  have w3bf0 : w3.frozen? ⟨w.heap.size, 0, none⟩ = false := (grown_frozen hgn (by simp; omega) (by simp; omega)).trans w2bf0
  have w3bc1 : w3.cell? ⟨w.heap.size, 1, none⟩ = some (.int .i64 0) := hgn.cell w2bc1 (by simp; omega)
  have w3bf1 : w3.frozen? ⟨w.heap.size, 1, none⟩ = false := (grown_frozen hgn (by simp; omega) (by simp; omega)).trans w2bf1
  have w3bc2 : w3.cell? ⟨w.heap.size, 2, none⟩ = some (.int .i64 0) := hgn.cell w2bc2 (by simp; omega)
  have w3bf2 : w3.frozen? ⟨w.heap.size, 2, none⟩ = false := (grown_frozen hgn (by simp; omega) (by simp; omega)).trans w2bf2
  have w3bc3 : w3.cell? ⟨w.heap.size, 3, none⟩ = some (.int .i64 0) := hgn.cell w2bc3 (by simp; omega)
  have w3bf3 : w3.frozen? ⟨w.heap.size, 3, none⟩ = false := (grown_frozen hgn (by simp; omega) (by simp; omega)).trans w2bf3
  have w3bc4 : w3.cell? ⟨w.heap.size, 4, none⟩ = some (.int .i64 0) := hgn.cell w2bc4 (by simp; omega)
  have w3bf4 : w3.frozen? ⟨w.heap.size, 4, none⟩ = false := (grown_frozen hgn (by simp; omega) (by simp; omega)).trans w2bf4
  have w3bc5 : w3.cell? ⟨w.heap.size, 5, none⟩ = some (.int .i64 0) := hgn.cell w2bc5 (by simp; omega)
  have w3bf5 : w3.frozen? ⟨w.heap.size, 5, none⟩ = false := (grown_frozen hgn (by simp; omega) (by simp; omega)).trans w2bf5
  clear hrn hgn w2bc0 w2bc1 w2bc2 w2bc3 w2bc4 w2bc5 w2bf0 w2bf1 w2bf2 w2bf3 w2bf4 w2bf5
  go_wp2_with fail
  refine (once_any HR.out 2 (by omega) (by omega) _ (HR3.out.alloc _)).mono ?_
  rintro e w4 ⟨o, rfl, hrn, hgn⟩
  have HR4 : Hid (Rd w0 R a len cap w4) := hrn
  have hgm : w3.grownBy w4 (some R) := grown_alloc2 hgn
  have HG4 : Hid (w.grownBy w4 (some R)) := HG3.out.trans hgm
  have hs4 : w3.heap.size + 1 ≤ w4.heap.size := by have := hgn.size; simpa using this
  have w4bc0 : w4.cell? ⟨w.heap.size, 0, none⟩ = some (.int .i64 0) := hgm.cell w3bc0 (by simp; omega)
  have w4bf0 : w4.frozen? ⟨w.heap.size, 0, none⟩ = false := (grown_frozen hgm (by simp; omega) (by simp; omega)).trans w3bf0
  have w4bc1 : w4.cell? ⟨w.heap.size, 1, none⟩ = some (.int .i64 0) := hgm.cell w3bc1 (by simp; omega)
  have w4bf1 : w4.frozen? ⟨w.heap.size, 1, none⟩ = false := (grown_frozen hgm (by simp; omega) (by simp; omega)).trans w3bf1
  have w4bc2 : w4.cell? ⟨w.heap.size, 2, none⟩ = some (.int .i64 0) := hgm.cell w3bc2 (by simp; omega)
  have w4bf2 : w4.frozen? ⟨w.heap.size, 2, none⟩ = false := (grown_frozen hgm (by simp; omega) (by simp; omega)).trans w3bf2
  have w4bc3 : w4.cell? ⟨w.heap.size, 3, none⟩ = some (.int .i64 0) := hgm.cell w3bc3 (by simp; omega)
  have w4bf3 : w4.frozen? ⟨w.heap.size, 3, none⟩ = false := (grown_frozen hgm (by simp; omega) (by simp; omega)).trans w3bf3
  have w4bc4 : w4.cell? ⟨w.heap.size, 4, none⟩ = some (.int .i64 0) := hgm.cell w3bc4 (by simp; omega)
  have w4bf4 : w4.frozen? ⟨w.heap.size, 4, none⟩ = false := (grown_frozen hgm (by simp; omega) (by simp; omega)).trans w3bf4
  have w4bc5 : w4.cell? ⟨w.heap.size, 5, none⟩ = some (.int .i64 0) := hgm.cell w3bc5 (by simp; omega)
  have w4bf5 : w4.frozen? ⟨w.heap.size, 5, none⟩ = false := (grown_frozen hgm (by simp; omega) (by simp; omega)).trans w3bf5
  have w4dc0 : w4.cell? ⟨w3.heap.size, 0, none⟩ = some (.int .i64 0) := hgn.cell (World.cell?_alloc_new _ _ _ _) (by simp; omega)
  have w4df0 : w4.frozen? ⟨w3.heap.size, 0, none⟩ = false := (grown_frozen hgn (by simp) (by simp; omega)).trans (frozen_one _ _ _ _)
  have w4dc1 : w4.cell? ⟨w3.heap.size, 1, none⟩ = some (.int .i64 0) := hgn.cell (World.cell?_alloc_new _ _ _ _) (by simp; omega)
  have w4df1 : w4.frozen? ⟨w3.heap.size, 1, none⟩ = false := (grown_frozen hgn (by simp) (by simp; omega)).trans (frozen_one _ _ _ _)
  have w4dc2 : w4.cell? ⟨w3.heap.size, 2, none⟩ = some (.int .i64 0) := hgn.cell (World.cell?_alloc_new _ _ _ _) (by simp; omega)
  have w4df2 : w4.frozen? ⟨w3.heap.size, 2, none⟩ = false := (grown_frozen hgn (by simp) (by simp; omega)).trans (frozen_one _ _ _ _)
  have w4dc3 : w4.cell? ⟨w3.heap.size, 3, none⟩ = some (.int .i64 x) := hgn.cell (World.cell?_alloc_new _ _ _ _) (by simp; omega)
  have w4df3 : w4.frozen? ⟨w3.heap.size, 3, none⟩ = false := (grown_frozen hgn (by simp) (by simp; omega)).trans (frozen_one _ _ _ _)
  have w4dc4 : w4.cell? ⟨w3.heap.size, 4, none⟩ = some (.int .i64 y) := hgn.cell (World.cell?_alloc_new _ _ _ _) (by simp; omega)
  have w4df4 : w4.frozen? ⟨w3.heap.size, 4, none⟩ = false := (grown_frozen hgn (by simp) (by simp; omega)).trans (frozen_one _ _ _ _)
  have w4dc5 : w4.cell? ⟨w3.heap.size, 5, none⟩ = some (.int .i64 k) := hgn.cell (World.cell?_alloc_new _ _ _ _) (by simp; omega)
  have w4df5 : w4.frozen? ⟨w3.heap.size, 5, none⟩ = false := (grown_frozen hgn (by simp) (by simp; omega)).trans (frozen_one _ _ _ _)
  clear hrn hgn hgm w3bc0 w3bc1 w3bc2 w3bc3 w3bc4 w3bc5 w3bf0 w3bf1 w3bf2 w3bf3 w3bf4 w3bf5
  cases o with
  | false =>
    obtain ⟨wz, hwz⟩ : ∃ u, u = sets w4 w.heap.size 0 [.int .i64 0, .int .i64 0, .int .i64 0, .int .i64 x, .int .i64 y, .int .i64 k] := ⟨_, rfl⟩
    have ha := sets_at w.heap.size [Value.int .i64 0, .int .i64 0, .int .i64 0, .int .i64 x, .int .i64 y, .int .i64 k] w4 0 (fun j hj => by
      match j, hj with
      | 0, _ => exact ⟨_, w4bc0⟩
      | 1, _ => exact ⟨_, w4bc1⟩
      | 2, _ => exact ⟨_, w4bc2⟩
      | 3, _ => exact ⟨_, w4bc3⟩
      | 4, _ => exact ⟨_, w4bc4⟩
      | 5, _ => exact ⟨_, w4bc5⟩)
    rw [← hwz] at ha
    have z0 : wz.cell? ⟨w.heap.size, 0, none⟩ = some (.int .i64 0) := by simpa using ha 0 _ rfl
    have z1 : wz.cell? ⟨w.heap.size, 1, none⟩ = some (.int .i64 0) := by simpa using ha 1 _ rfl
    have z2 : wz.cell? ⟨w.heap.size, 2, none⟩ = some (.int .i64 0) := by simpa using ha 2 _ rfl
    have z3 : wz.cell? ⟨w.heap.size, 3, none⟩ = some (.int .i64 x) := by simpa using ha 3 _ rfl
    have z4 : wz.cell? ⟨w.heap.size, 4, none⟩ = some (.int .i64 y) := by simpa using ha 4 _ rfl
    have z5 : wz.cell? ⟨w.heap.size, 5, none⟩ = some (.int .i64 k) := by simpa using ha 5 _ rfl
    have HRz : Hid (Rd w0 R a len cap wz) := by show Rd _ _ _ _ _ _; rw [hwz]; exact Rd.sets (by omega) (by omega) _ _ _ HR4.out
    have HGz : Hid (w.grownBy wz (some R)) := by show World.grownBy _ _ _; rw [hwz]; exact grown_sets HG4.out (Nat.le_refl _) _ _
    have HWz : Hid (sets w4 w.heap.size 0 [.int .i64 0, .int .i64 0, .int .i64 0, .int .i64 x, .int .i64 y, .int .i64 k] = wz) := hwz.symm
    clear hwz ha
    go_wp2_with (rw [show ((((((w4.setCell ⟨w.heap.size, 0, none⟩ (.int .i64 0)).setCell ⟨w.heap.size, 1, none⟩ (.int .i64 0)).setCell ⟨w.heap.size, 2, none⟩ (.int .i64 0)).setCell ⟨w.heap.size, 3, none⟩ (.int .i64 x)).setCell ⟨w.heap.size, 4, none⟩ (.int .i64 y)).setCell ⟨w.heap.size, 5, none⟩ (.int .i64 k)) = wz from HWz.out])
    refine bodyPost_ret (v := .agg #[.int .i64 0, .int .i64 0, .int .i64 0, .int .i64 x, .int .i64 y, .int .i64 k]) (by simp [results, Tryz.results73, go_sem, z0, z1, z2, z3, z4, z5]) rfl ⟨⟨0, 0, 0, x, y, k⟩, rfl, HRz.out, HGz.out⟩
  | true =>
    go_wp2_with fail
    refine (elem_any HR.out _ HR4.out).mono ?_
    rintro e w5 ⟨p, -, -, rfl, hrn, hgn⟩
    have HR5 : Hid (Rd w0 R a len cap w5) := hrn
    have HG5 : Hid (w.grownBy w5 (some R)) := HG4.out.trans hgn
    have hs5 : w4.heap.size ≤ w5.heap.size := hgn.size
    have w5bc0 : w5.cell? ⟨w.heap.size, 0, none⟩ = some (.int .i64 0) := hgn.cell w4bc0 (by simp; omega)
    have w5bf0 : w5.frozen? ⟨w.heap.size, 0, none⟩ = false := (grown_frozen hgn (by simp; omega) (by simp; omega)).trans w4bf0
    have w5bc1 : w5.cell? ⟨w.heap.size, 1, none⟩ = some (.int .i64 0) := hgn.cell w4bc1 (by simp; omega)
    have w5bf1 : w5.frozen? ⟨w.heap.size, 1, none⟩ = false := (grown_frozen hgn (by simp; omega) (by simp; omega)).trans w4bf1
    have w5bc2 : w5.cell? ⟨w.heap.size, 2, none⟩ = some (.int .i64 0) := hgn.cell w4bc2 (by simp; omega)
    have w5bf2 : w5.frozen? ⟨w.heap.size, 2, none⟩ = false := (grown_frozen hgn (by simp; omega) (by simp; omega)).trans w4bf2
    have w5bc3 : w5.cell? ⟨w.heap.size, 3, none⟩ = some (.int .i64 0) := hgn.cell w4bc3 (by simp; omega)
    have w5bf3 : w5.frozen? ⟨w.heap.size, 3, none⟩ = false := (grown_frozen hgn (by simp; omega) (by simp; omega)).trans w4bf3
    have w5bc4 : w5.cell? ⟨w.heap.size, 4, none⟩ = some (.int .i64 0) := hgn.cell w4bc4 (by simp; omega)
    have w5bf4 : w5.frozen? ⟨w.heap.size, 4, none⟩ = false := (grown_frozen hgn (by simp; omega) (by simp; omega)).trans w4bf4
    have w5bc5 : w5.cell? ⟨w.heap.size, 5, none⟩ = some (.int .i64 0) := hgn.cell w4bc5 (by simp; omega)
    have w5bf5 : w5.frozen? ⟨w.heap.size, 5, none⟩ = false := (grown_frozen hgn (by simp; omega) (by simp; omega)).trans w4bf5
    have w5dc0 : w5.cell? ⟨w3.heap.size, 0, none⟩ = some (.int .i64 0) := hgn.cell w4dc0 (by simp; omega)
    have w5df0 : w5.frozen? ⟨w3.heap.size, 0, none⟩ = false := (grown_frozen hgn (by simp; omega) (by simp; omega)).trans w4df0
    have w5dc1 : w5.cell? ⟨w3.heap.size, 1, none⟩ = some (.int .i64 0) := hgn.cell w4dc1 (by simp; omega)
    have w5df1 : w5.frozen? ⟨w3.heap.size, 1, none⟩ = false := (grown_frozen hgn (by simp; omega) (by simp; omega)).trans w4df1
    have w5dc2 : w5.cell? ⟨w3.heap.size, 2, none⟩ = some (.int .i64 0) := hgn.cell w4dc2 (by simp; omega)
    have w5df2 : w5.frozen? ⟨w3.heap.size, 2, none⟩ = false := (grown_frozen hgn (by simp; omega) (by simp; omega)).trans w4df2
    have w5dc3 : w5.cell? ⟨w3.heap.size, 3, none⟩ = some (.int .i64 x) := hgn.cell w4dc3 (by simp; omega)
    have w5df3 : w5.frozen? ⟨w3.heap.size, 3, none⟩ = false := (grown_frozen hgn (by simp; omega) (by simp; omega)).trans w4df3
    have w5dc4 : w5.cell? ⟨w3.heap.size, 4, none⟩ = some (.int .i64 y) := hgn.cell w4dc4 (by simp; omega)
    have w5df4 : w5.frozen? ⟨w3.heap.size, 4, none⟩ = false := (grown_frozen hgn (by simp; omega) (by simp; omega)).trans w4df4
    have w5dc5 : w5.cell? ⟨w3.heap.size, 5, none⟩ = some (.int .i64 k) := hgn.cell w4dc5 (by simp; omega)
    have w5df5 : w5.frozen? ⟨w3.heap.size, 5, none⟩ = false := (grown_frozen hgn (by simp; omega) (by simp; omega)).trans w4df5
    clear hrn hgn w4bc0 w4bc1 w4bc2 w4bc3 w4bc4 w4bc5 w4bf0 w4bf1 w4bf2 w4bf3 w4bf4 w4bf5 w4dc0 w4dc1 w4dc2 w4dc3 w4dc4 w4dc5 w4df0 w4df1 w4df2 w4df3 w4df4 w4df5
    obtain ⟨w6, hw6⟩ : ∃ u, u = w5.setCell ⟨w3.heap.size, 0, none⟩ (.int .i64 p) := ⟨_, rfl⟩
    have w6dc0 : w6.cell? ⟨w3.heap.size, 0, none⟩ = some (.int .i64 p) := by rw [hw6]; exact World.cell?_setCell_same (w := w5) (a := ⟨w3.heap.size, 0, none⟩) (v := .int .i64 p) (h := w5dc0)
    have w6df0 : w6.frozen? ⟨w3.heap.size, 0, none⟩ = false := by rw [hw6]; simpa using w5df0
    have w6bc0 : w6.cell? ⟨w.heap.size, 0, none⟩ = some (.int .i64 0) := by rw [hw6]; exact (World.cell?_setCell_other (w := w5) (a := ⟨w3.heap.size, 0, none⟩) (b := ⟨w.heap.size, 0, none⟩) (v := .int .i64 p) (h := by intro e; simp only [Addr.mk.injEq] at e; omega)).trans w5bc0
    have w6bf0 : w6.frozen? ⟨w.heap.size, 0, none⟩ = false := by rw [hw6]; simpa using w5bf0
    have w6dc1 : w6.cell? ⟨w3.heap.size, 1, none⟩ = some (.int .i64 0) := by rw [hw6]; exact (World.cell?_setCell_other (w := w5) (a := ⟨w3.heap.size, 0, none⟩) (b := ⟨w3.heap.size, 1, none⟩) (v := .int .i64 p) (h := by simp)).trans w5dc1
    have w6df1 : w6.frozen? ⟨w3.heap.size, 1, none⟩ = false := by rw [hw6]; simpa using w5df1
    have w6bc1 : w6.cell? ⟨w.heap.size, 1, none⟩ = some (.int .i64 0) := by rw [hw6]; exact (World.cell?_setCell_other (w := w5) (a := ⟨w3.heap.size, 0, none⟩) (b := ⟨w.heap.size, 1, none⟩) (v := .int .i64 p) (h := by intro e; simp only [Addr.mk.injEq] at e; omega)).trans w5bc1
    have w6bf1 : w6.frozen? ⟨w.heap.size, 1, none⟩ = false := by rw [hw6]; simpa using w5bf1
    have w6dc2 : w6.cell? ⟨w3.heap.size, 2, none⟩ = some (.int .i64 0) := by rw [hw6]; exact (World.cell?_setCell_other (w := w5) (a := ⟨w3.heap.size, 0, none⟩) (b := ⟨w3.heap.size, 2, none⟩) (v := .int .i64 p) (h := by simp)).trans w5dc2
    have w6df2 : w6.frozen? ⟨w3.heap.size, 2, none⟩ = false := by rw [hw6]; simpa using w5df2
    have w6bc2 : w6.cell? ⟨w.heap.size, 2, none⟩ = some (.int .i64 0) := by rw [hw6]; exact (World.cell?_setCell_other (w := w5) (a := ⟨w3.heap.size, 0, none⟩) (b := ⟨w.heap.size, 2, none⟩) (v := .int .i64 p) (h := by intro e; simp only [Addr.mk.injEq] at e; omega)).trans w5bc2
    have w6bf2 : w6.frozen? ⟨w.heap.size, 2, none⟩ = false := by rw [hw6]; simpa using w5bf2
    have w6dc3 : w6.cell? ⟨w3.heap.size, 3, none⟩ = some (.int .i64 x) := by rw [hw6]; exact (World.cell?_setCell_other (w := w5) (a := ⟨w3.heap.size, 0, none⟩) (b := ⟨w3.heap.size, 3, none⟩) (v := .int .i64 p) (h := by simp)).trans w5dc3
    have w6df3 : w6.frozen? ⟨w3.heap.size, 3, none⟩ = false := by rw [hw6]; simpa using w5df3
    have w6bc3 : w6.cell? ⟨w.heap.size, 3, none⟩ = some (.int .i64 0) := by rw [hw6]; exact (World.cell?_setCell_other (w := w5) (a := ⟨w3.heap.size, 0, none⟩) (b := ⟨w.heap.size, 3, none⟩) (v := .int .i64 p) (h := by intro e; simp only [Addr.mk.injEq] at e; omega)).trans w5bc3
    have w6bf3 : w6.frozen? ⟨w.heap.size, 3, none⟩ = false := by rw [hw6]; simpa using w5bf3
    have w6dc4 : w6.cell? ⟨w3.heap.size, 4, none⟩ = some (.int .i64 y) := by rw [hw6]; exact (World.cell?_setCell_other (w := w5) (a := ⟨w3.heap.size, 0, none⟩) (b := ⟨w3.heap.size, 4, none⟩) (v := .int .i64 p) (h := by simp)).trans w5dc4
    have w6df4 : w6.frozen? ⟨w3.heap.size, 4, none⟩ = false := by rw [hw6]; simpa using w5df4
    have w6bc4 : w6.cell? ⟨w.heap.size, 4, none⟩ = some (.int .i64 0) := by rw [hw6]; exact (World.cell?_setCell_other (w := w5) (a := ⟨w3.heap.size, 0, none⟩) (b := ⟨w.heap.size, 4, none⟩) (v := .int .i64 p) (h := by intro e; simp only [Addr.mk.injEq] at e; omega)).trans w5bc4
    have w6bf4 : w6.frozen? ⟨w.heap.size, 4, none⟩ = false := by rw [hw6]; simpa using w5bf4
    have w6dc5 : w6.cell? ⟨w3.heap.size, 5, none⟩ = some (.int .i64 k) := by rw [hw6]; exact (World.cell?_setCell_other (w := w5) (a := ⟨w3.heap.size, 0, none⟩) (b := ⟨w3.heap.size, 5, none⟩) (v := .int .i64 p) (h := by simp)).trans w5dc5
    have w6df5 : w6.frozen? ⟨w3.heap.size, 5, none⟩ = false := by rw [hw6]; simpa using w5df5
    have w6bc5 : w6.cell? ⟨w.heap.size, 5, none⟩ = some (.int .i64 0) := by rw [hw6]; exact (World.cell?_setCell_other (w := w5) (a := ⟨w3.heap.size, 0, none⟩) (b := ⟨w.heap.size, 5, none⟩) (v := .int .i64 p) (h := by intro e; simp only [Addr.mk.injEq] at e; omega)).trans w5bc5
    have w6bf5 : w6.frozen? ⟨w.heap.size, 5, none⟩ = false := by rw [hw6]; simpa using w5bf5
    have HR6 : Hid (Rd w0 R a len cap w6) := by show Rd _ _ _ _ _ _; rw [hw6]; exact Rd.sets (B := w3.heap.size) (by omega) (by omega) [.int .i64 p] w5 0 HR5.out
    have HG6 : Hid (w.grownBy w6 (some R)) := by show World.grownBy _ _ _; rw [hw6]; exact grown_sets HG5.out (by omega) [.int .i64 p] 0
    have hs6 : w5.heap.size ≤ w6.heap.size := by rw [hw6]; simp
    have HW6 : Hid (w5.setCell ⟨w3.heap.size, 0, none⟩ (.int .i64 p) = w6) := hw6.symm
    clear hw6 w5bc0 w5bc1 w5bc2 w5bc3 w5bc4 w5bc5 w5bf0 w5bf1 w5bf2 w5bf3 w5bf4 w5bf5
    go_wp2_with (rw [HW6.out])
    refine (elem_any HR.out _ HR6.out).mono ?_
    rintro e w7 ⟨q, -, -, rfl, hrn, hgn⟩
    have HR7 : Hid (Rd w0 R a len cap w7) := hrn
    have HG7 : Hid (w.grownBy w7 (some R)) := HG6.out.trans hgn
    have hs7 : w6.heap.size ≤ w7.heap.size := hgn.size
    have w7bc0 : w7.cell? ⟨w.heap.size, 0, none⟩ = some (.int .i64 0) := hgn.cell w6bc0 (by simp; omega)
    have w7bf0 : w7.frozen? ⟨w.heap.size, 0, none⟩ = false := (grown_frozen hgn (by simp; omega) (by simp; omega)).trans w6bf0
    have w7bc1 : w7.cell? ⟨w.heap.size, 1, none⟩ = some (.int .i64 0) := hgn.cell w6bc1 (by simp; omega)
    have w7bf1 : w7.frozen? ⟨w.heap.size, 1, none⟩ = false := (grown_frozen hgn (by simp; omega) (by simp; omega)).trans w6bf1
    have w7bc2 : w7.cell? ⟨w.heap.size, 2, none⟩ = some (.int .i64 0) := hgn.cell w6bc2 (by simp; omega)
    have w7bf2 : w7.frozen? ⟨w.heap.size, 2, none⟩ = false := (grown_frozen hgn (by simp; omega) (by simp; omega)).trans w6bf2
    have w7bc3 : w7.cell? ⟨w.heap.size, 3, none⟩ = some (.int .i64 0) := hgn.cell w6bc3 (by simp; omega)
    have w7bf3 : w7.frozen? ⟨w.heap.size, 3, none⟩ = false := (grown_frozen hgn (by simp; omega) (by simp; omega)).trans w6bf3
    have w7bc4 : w7.cell? ⟨w.heap.size, 4, none⟩ = some (.int .i64 0) := hgn.cell w6bc4 (by simp; omega)
    have w7bf4 : w7.frozen? ⟨w.heap.size, 4, none⟩ = false := (grown_frozen hgn (by simp; omega) (by simp; omega)).trans w6bf4
    have w7bc5 : w7.cell? ⟨w.heap.size, 5, none⟩ = some (.int .i64 0) := hgn.cell w6bc5 (by simp; omega)
    have w7bf5 : w7.frozen? ⟨w.heap.size, 5, none⟩ = false := (grown_frozen hgn (by simp; omega) (by simp; omega)).trans w6bf5
    have w7dc0 : w7.cell? ⟨w3.heap.size, 0, none⟩ = some (.int .i64 p) := hgn.cell w6dc0 (by simp; omega)
    have w7df0 : w7.frozen? ⟨w3.heap.size, 0, none⟩ = false := (grown_frozen hgn (by simp; omega) (by simp; omega)).trans w6df0
    have w7dc1 : w7.cell? ⟨w3.heap.size, 1, none⟩ = some (.int .i64 0) := hgn.cell w6dc1 (by simp; omega)
    have w7df1 : w7.frozen? ⟨w3.heap.size, 1, none⟩ = false := (grown_frozen hgn (by simp; omega) (by simp; omega)).trans w6df1
    have w7dc2 : w7.cell? ⟨w3.heap.size, 2, none⟩ = some (.int .i64 0) := hgn.cell w6dc2 (by simp; omega)
    have w7df2 : w7.frozen? ⟨w3.heap.size, 2, none⟩ = false := (grown_frozen hgn (by simp; omega) (by simp; omega)).trans w6df2
    have w7dc3 : w7.cell? ⟨w3.heap.size, 3, none⟩ = some (.int .i64 x) := hgn.cell w6dc3 (by simp; omega)
    have w7df3 : w7.frozen? ⟨w3.heap.size, 3, none⟩ = false := (grown_frozen hgn (by simp; omega) (by simp; omega)).trans w6df3
    have w7dc4 : w7.cell? ⟨w3.heap.size, 4, none⟩ = some (.int .i64 y) := hgn.cell w6dc4 (by simp; omega)
    have w7df4 : w7.frozen? ⟨w3.heap.size, 4, none⟩ = false := (grown_frozen hgn (by simp; omega) (by simp; omega)).trans w6df4
    have w7dc5 : w7.cell? ⟨w3.heap.size, 5, none⟩ = some (.int .i64 k) := hgn.cell w6dc5 (by simp; omega)
    have w7df5 : w7.frozen? ⟨w3.heap.size, 5, none⟩ = false := (grown_frozen hgn (by simp; omega) (by simp; omega)).trans w6df5
    clear hrn hgn w6bc0 w6bc1 w6bc2 w6bc3 w6bc4 w6bc5 w6bf0 w6bf1 w6bf2 w6bf3 w6bf4 w6bf5 w6dc0 w6dc1 w6dc2 w6dc3 w6dc4 w6dc5 w6df0 w6df1 w6df2 w6df3 w6df4 w6df5
    obtain ⟨w8, hw8⟩ : ∃ u, u = w7.setCell ⟨w3.heap.size, 1, none⟩ (.int .i64 q) := ⟨_, rfl⟩
    have w8dc0 : w8.cell? ⟨w3.heap.size, 0, none⟩ = some (.int .i64 p) := by rw [hw8]; exact (World.cell?_setCell_other (w := w7) (a := ⟨w3.heap.size, 1, none⟩) (b := ⟨w3.heap.size, 0, none⟩) (v := .int .i64 q) (h := by simp)).trans w7dc0
    have w8df0 : w8.frozen? ⟨w3.heap.size, 0, none⟩ = false := by rw [hw8]; simpa using w7df0
    have w8bc0 : w8.cell? ⟨w.heap.size, 0, none⟩ = some (.int .i64 0) := by rw [hw8]; exact (World.cell?_setCell_other (w := w7) (a := ⟨w3.heap.size, 1, none⟩) (b := ⟨w.heap.size, 0, none⟩) (v := .int .i64 q) (h := by intro e; simp only [Addr.mk.injEq] at e; omega)).trans w7bc0
    have w8bf0 : w8.frozen? ⟨w.heap.size, 0, none⟩ = false := by rw [hw8]; simpa using w7bf0
    have w8dc1 : w8.cell? ⟨w3.heap.size, 1, none⟩ = some (.int .i64 q) := by rw [hw8]; exact World.cell?_setCell_same (w := w7) (a := ⟨w3.heap.size, 1, none⟩) (v := .int .i64 q) (h := w7dc1)
    have w8df1 : w8.frozen? ⟨w3.heap.size, 1, none⟩ = false := by rw [hw8]; simpa using w7df1
    have w8bc1 : w8.cell? ⟨w.heap.size, 1, none⟩ = some (.int .i64 0) := by rw [hw8]; exact (World.cell?_setCell_other (w := w7) (a := ⟨w3.heap.size, 1, none⟩) (b := ⟨w.heap.size, 1, none⟩) (v := .int .i64 q) (h := by intro e; simp only [Addr.mk.injEq] at e; omega)).trans w7bc1
    have w8bf1 : w8.frozen? ⟨w.heap.size, 1, none⟩ = false := by rw [hw8]; simpa using w7bf1
    have w8dc2 : w8.cell? ⟨w3.heap.size, 2, none⟩ = some (.int .i64 0) := by rw [hw8]; exact (World.cell?_setCell_other (w := w7) (a := ⟨w3.heap.size, 1, none⟩) (b := ⟨w3.heap.size, 2, none⟩) (v := .int .i64 q) (h := by simp)).trans w7dc2
    have w8df2 : w8.frozen? ⟨w3.heap.size, 2, none⟩ = false := by rw [hw8]; simpa using w7df2
    have w8bc2 : w8.cell? ⟨w.heap.size, 2, none⟩ = some (.int .i64 0) := by rw [hw8]; exact (World.cell?_setCell_other (w := w7) (a := ⟨w3.heap.size, 1, none⟩) (b := ⟨w.heap.size, 2, none⟩) (v := .int .i64 q) (h := by intro e; simp only [Addr.mk.injEq] at e; omega)).trans w7bc2
    have w8bf2 : w8.frozen? ⟨w.heap.size, 2, none⟩ = false := by rw [hw8]; simpa using w7bf2
    have w8dc3 : w8.cell? ⟨w3.heap.size, 3, none⟩ = some (.int .i64 x) := by rw [hw8]; exact (World.cell?_setCell_other (w := w7) (a := ⟨w3.heap.size, 1, none⟩) (b := ⟨w3.heap.size, 3, none⟩) (v := .int .i64 q) (h := by simp)).trans w7dc3
    have w8df3 : w8.frozen? ⟨w3.heap.size, 3, none⟩ = false := by rw [hw8]; simpa using w7df3
    have w8bc3 : w8.cell? ⟨w.heap.size, 3, none⟩ = some (.int .i64 0) := by rw [hw8]; exact (World.cell?_setCell_other (w := w7) (a := ⟨w3.heap.size, 1, none⟩) (b := ⟨w.heap.size, 3, none⟩) (v := .int .i64 q) (h := by intro e; simp only [Addr.mk.injEq] at e; omega)).trans w7bc3
    have w8bf3 : w8.frozen? ⟨w.heap.size, 3, none⟩ = false := by rw [hw8]; simpa using w7bf3
    have w8dc4 : w8.cell? ⟨w3.heap.size, 4, none⟩ = some (.int .i64 y) := by rw [hw8]; exact (World.cell?_setCell_other (w := w7) (a := ⟨w3.heap.size, 1, none⟩) (b := ⟨w3.heap.size, 4, none⟩) (v := .int .i64 q) (h := by simp)).trans w7dc4
    have w8df4 : w8.frozen? ⟨w3.heap.size, 4, none⟩ = false := by rw [hw8]; simpa using w7df4
    have w8bc4 : w8.cell? ⟨w.heap.size, 4, none⟩ = some (.int .i64 0) := by rw [hw8]; exact (World.cell?_setCell_other (w := w7) (a := ⟨w3.heap.size, 1, none⟩) (b := ⟨w.heap.size, 4, none⟩) (v := .int .i64 q) (h := by intro e; simp only [Addr.mk.injEq] at e; omega)).trans w7bc4
    have w8bf4 : w8.frozen? ⟨w.heap.size, 4, none⟩ = false := by rw [hw8]; simpa using w7bf4
    have w8dc5 : w8.cell? ⟨w3.heap.size, 5, none⟩ = some (.int .i64 k) := by rw [hw8]; exact (World.cell?_setCell_other (w := w7) (a := ⟨w3.heap.size, 1, none⟩) (b := ⟨w3.heap.size, 5, none⟩) (v := .int .i64 q) (h := by simp)).trans w7dc5
    have w8df5 : w8.frozen? ⟨w3.heap.size, 5, none⟩ = false := by rw [hw8]; simpa using w7df5
    have w8bc5 : w8.cell? ⟨w.heap.size, 5, none⟩ = some (.int .i64 0) := by rw [hw8]; exact (World.cell?_setCell_other (w := w7) (a := ⟨w3.heap.size, 1, none⟩) (b := ⟨w.heap.size, 5, none⟩) (v := .int .i64 q) (h := by intro e; simp only [Addr.mk.injEq] at e; omega)).trans w7bc5
    have w8bf5 : w8.frozen? ⟨w.heap.size, 5, none⟩ = false := by rw [hw8]; simpa using w7bf5
    have HR8 : Hid (Rd w0 R a len cap w8) := by show Rd _ _ _ _ _ _; rw [hw8]; exact Rd.sets (B := w3.heap.size) (by omega) (by omega) [.int .i64 q] w7 1 HR7.out
    have HG8 : Hid (w.grownBy w8 (some R)) := by show World.grownBy _ _ _; rw [hw8]; exact grown_sets HG7.out (by omega) [.int .i64 q] 1
    have hs8 : w7.heap.size ≤ w8.heap.size := by rw [hw8]; simp
    have HW8 : Hid (w7.setCell ⟨w3.heap.size, 1, none⟩ (.int .i64 q) = w8) := hw8.symm
    clear hw8 w7bc0 w7bc1 w7bc2 w7bc3 w7bc4 w7bc5 w7bf0 w7bf1 w7bf2 w7bf3 w7bf4 w7bf5
    go_wp2_with (rw [HW8.out])
    refine (elem_any HR.out _ HR8.out).mono ?_
    rintro e w9 ⟨r, -, -, rfl, hrn, hgn⟩
    have HR9 : Hid (Rd w0 R a len cap w9) := hrn
    have HG9 : Hid (w.grownBy w9 (some R)) := HG8.out.trans hgn
    have hs9 : w8.heap.size ≤ w9.heap.size := hgn.size
    have w9bc0 : w9.cell? ⟨w.heap.size, 0, none⟩ = some (.int .i64 0) := hgn.cell w8bc0 (by simp; omega)
    have w9bf0 : w9.frozen? ⟨w.heap.size, 0, none⟩ = false := (grown_frozen hgn (by simp; omega) (by simp; omega)).trans w8bf0
    have w9bc1 : w9.cell? ⟨w.heap.size, 1, none⟩ = some (.int .i64 0) := hgn.cell w8bc1 (by simp; omega)
    have w9bf1 : w9.frozen? ⟨w.heap.size, 1, none⟩ = false := (grown_frozen hgn (by simp; omega) (by simp; omega)).trans w8bf1
    have w9bc2 : w9.cell? ⟨w.heap.size, 2, none⟩ = some (.int .i64 0) := hgn.cell w8bc2 (by simp; omega)
    have w9bf2 : w9.frozen? ⟨w.heap.size, 2, none⟩ = false := (grown_frozen hgn (by simp; omega) (by simp; omega)).trans w8bf2
    have w9bc3 : w9.cell? ⟨w.heap.size, 3, none⟩ = some (.int .i64 0) := hgn.cell w8bc3 (by simp; omega)
    have w9bf3 : w9.frozen? ⟨w.heap.size, 3, none⟩ = false := (grown_frozen hgn (by simp; omega) (by simp; omega)).trans w8bf3
    have w9bc4 : w9.cell? ⟨w.heap.size, 4, none⟩ = some (.int .i64 0) := hgn.cell w8bc4 (by simp; omega)
    have w9bf4 : w9.frozen? ⟨w.heap.size, 4, none⟩ = false := (grown_frozen hgn (by simp; omega) (by simp; omega)).trans w8bf4
    have w9bc5 : w9.cell? ⟨w.heap.size, 5, none⟩ = some (.int .i64 0) := hgn.cell w8bc5 (by simp; omega)
    have w9bf5 : w9.frozen? ⟨w.heap.size, 5, none⟩ = false := (grown_frozen hgn (by simp; omega) (by simp; omega)).trans w8bf5
    have w9dc0 : w9.cell? ⟨w3.heap.size, 0, none⟩ = some (.int .i64 p) := hgn.cell w8dc0 (by simp; omega)
    have w9df0 : w9.frozen? ⟨w3.heap.size, 0, none⟩ = false := (grown_frozen hgn (by simp; omega) (by simp; omega)).trans w8df0
    have w9dc1 : w9.cell? ⟨w3.heap.size, 1, none⟩ = some (.int .i64 q) := hgn.cell w8dc1 (by simp; omega)
    have w9df1 : w9.frozen? ⟨w3.heap.size, 1, none⟩ = false := (grown_frozen hgn (by simp; omega) (by simp; omega)).trans w8df1
    have w9dc2 : w9.cell? ⟨w3.heap.size, 2, none⟩ = some (.int .i64 0) := hgn.cell w8dc2 (by simp; omega)
    have w9df2 : w9.frozen? ⟨w3.heap.size, 2, none⟩ = false := (grown_frozen hgn (by simp; omega) (by simp; omega)).trans w8df2
    have w9dc3 : w9.cell? ⟨w3.heap.size, 3, none⟩ = some (.int .i64 x) := hgn.cell w8dc3 (by simp; omega)
    have w9df3 : w9.frozen? ⟨w3.heap.size, 3, none⟩ = false := (grown_frozen hgn (by simp; omega) (by simp; omega)).trans w8df3
    have w9dc4 : w9.cell? ⟨w3.heap.size, 4, none⟩ = some (.int .i64 y) := hgn.cell w8dc4 (by simp; omega)
    have w9df4 : w9.frozen? ⟨w3.heap.size, 4, none⟩ = false := (grown_frozen hgn (by simp; omega) (by simp; omega)).trans w8df4
    have w9dc5 : w9.cell? ⟨w3.heap.size, 5, none⟩ = some (.int .i64 k) := hgn.cell w8dc5 (by simp; omega)
    have w9df5 : w9.frozen? ⟨w3.heap.size, 5, none⟩ = false := (grown_frozen hgn (by simp; omega) (by simp; omega)).trans w8df5
    clear hrn hgn w8bc0 w8bc1 w8bc2 w8bc3 w8bc4 w8bc5 w8bf0 w8bf1 w8bf2 w8bf3 w8bf4 w8bf5 w8dc0 w8dc1 w8dc2 w8dc3 w8dc4 w8dc5 w8df0 w8df1 w8df2 w8df3 w8df4 w8df5
    obtain ⟨w10, hw10⟩ : ∃ u, u = w9.setCell ⟨w3.heap.size, 2, none⟩ (.int .i64 r) := ⟨_, rfl⟩
    have w10dc0 : w10.cell? ⟨w3.heap.size, 0, none⟩ = some (.int .i64 p) := by rw [hw10]; exact (World.cell?_setCell_other (w := w9) (a := ⟨w3.heap.size, 2, none⟩) (b := ⟨w3.heap.size, 0, none⟩) (v := .int .i64 r) (h := by simp)).trans w9dc0
    have w10df0 : w10.frozen? ⟨w3.heap.size, 0, none⟩ = false := by rw [hw10]; simpa using w9df0
    have w10bc0 : w10.cell? ⟨w.heap.size, 0, none⟩ = some (.int .i64 0) := by rw [hw10]; exact (World.cell?_setCell_other (w := w9) (a := ⟨w3.heap.size, 2, none⟩) (b := ⟨w.heap.size, 0, none⟩) (v := .int .i64 r) (h := by intro e; simp only [Addr.mk.injEq] at e; omega)).trans w9bc0
    have w10bf0 : w10.frozen? ⟨w.heap.size, 0, none⟩ = false := by rw [hw10]; simpa using w9bf0
    have w10dc1 : w10.cell? ⟨w3.heap.size, 1, none⟩ = some (.int .i64 q) := by rw [hw10]; exact (World.cell?_setCell_other (w := w9) (a := ⟨w3.heap.size, 2, none⟩) (b := ⟨w3.heap.size, 1, none⟩) (v := .int .i64 r) (h := by simp)).trans w9dc1
    have w10df1 : w10.frozen? ⟨w3.heap.size, 1, none⟩ = false := by rw [hw10]; simpa using w9df1
    have w10bc1 : w10.cell? ⟨w.heap.size, 1, none⟩ = some (.int .i64 0) := by rw [hw10]; exact (World.cell?_setCell_other (w := w9) (a := ⟨w3.heap.size, 2, none⟩) (b := ⟨w.heap.size, 1, none⟩) (v := .int .i64 r) (h := by intro e; simp only [Addr.mk.injEq] at e; omega)).trans w9bc1
    have w10bf1 : w10.frozen? ⟨w.heap.size, 1, none⟩ = false := by rw [hw10]; simpa using w9bf1
    have w10dc2 : w10.cell? ⟨w3.heap.size, 2, none⟩ = some (.int .i64 r) := by rw [hw10]; exact World.cell?_setCell_same (w := w9) (a := ⟨w3.heap.size, 2, none⟩) (v := .int .i64 r) (h := w9dc2)
    have w10df2 : w10.frozen? ⟨w3.heap.size, 2, none⟩ = false := by rw [hw10]; simpa using w9df2
    have w10bc2 : w10.cell? ⟨w.heap.size, 2, none⟩ = some (.int .i64 0) := by rw [hw10]; exact (World.cell?_setCell_other (w := w9) (a := ⟨w3.heap.size, 2, none⟩) (b := ⟨w.heap.size, 2, none⟩) (v := .int .i64 r) (h := by intro e; simp only [Addr.mk.injEq] at e; omega)).trans w9bc2
    have w10bf2 : w10.frozen? ⟨w.heap.size, 2, none⟩ = false := by rw [hw10]; simpa using w9bf2
    have w10dc3 : w10.cell? ⟨w3.heap.size, 3, none⟩ = some (.int .i64 x) := by rw [hw10]; exact (World.cell?_setCell_other (w := w9) (a := ⟨w3.heap.size, 2, none⟩) (b := ⟨w3.heap.size, 3, none⟩) (v := .int .i64 r) (h := by simp)).trans w9dc3
    have w10df3 : w10.frozen? ⟨w3.heap.size, 3, none⟩ = false := by rw [hw10]; simpa using w9df3
    have w10bc3 : w10.cell? ⟨w.heap.size, 3, none⟩ = some (.int .i64 0) := by rw [hw10]; exact (World.cell?_setCell_other (w := w9) (a := ⟨w3.heap.size, 2, none⟩) (b := ⟨w.heap.size, 3, none⟩) (v := .int .i64 r) (h := by intro e; simp only [Addr.mk.injEq] at e; omega)).trans w9bc3
    have w10bf3 : w10.frozen? ⟨w.heap.size, 3, none⟩ = false := by rw [hw10]; simpa using w9bf3
    have w10dc4 : w10.cell? ⟨w3.heap.size, 4, none⟩ = some (.int .i64 y) := by rw [hw10]; exact (World.cell?_setCell_other (w := w9) (a := ⟨w3.heap.size, 2, none⟩) (b := ⟨w3.heap.size, 4, none⟩) (v := .int .i64 r) (h := by simp)).trans w9dc4
    have w10df4 : w10.frozen? ⟨w3.heap.size, 4, none⟩ = false := by rw [hw10]; simpa using w9df4
    have w10bc4 : w10.cell? ⟨w.heap.size, 4, none⟩ = some (.int .i64 0) := by rw [hw10]; exact (World.cell?_setCell_other (w := w9) (a := ⟨w3.heap.size, 2, none⟩) (b := ⟨w.heap.size, 4, none⟩) (v := .int .i64 r) (h := by intro e; simp only [Addr.mk.injEq] at e; omega)).trans w9bc4
    have w10bf4 : w10.frozen? ⟨w.heap.size, 4, none⟩ = false := by rw [hw10]; simpa using w9bf4
    have w10dc5 : w10.cell? ⟨w3.heap.size, 5, none⟩ = some (.int .i64 k) := by rw [hw10]; exact (World.cell?_setCell_other (w := w9) (a := ⟨w3.heap.size, 2, none⟩) (b := ⟨w3.heap.size, 5, none⟩) (v := .int .i64 r) (h := by simp)).trans w9dc5
    have w10df5 : w10.frozen? ⟨w3.heap.size, 5, none⟩ = false := by rw [hw10]; simpa using w9df5
    have w10bc5 : w10.cell? ⟨w.heap.size, 5, none⟩ = some (.int .i64 0) := by rw [hw10]; exact (World.cell?_setCell_other (w := w9) (a := ⟨w3.heap.size, 2, none⟩) (b := ⟨w.heap.size, 5, none⟩) (v := .int .i64 r) (h := by intro e; simp only [Addr.mk.injEq] at e; omega)).trans w9bc5
    have w10bf5 : w10.frozen? ⟨w.heap.size, 5, none⟩ = false := by rw [hw10]; simpa using w9bf5
    have HR10 : Hid (Rd w0 R a len cap w10) := by show Rd _ _ _ _ _ _; rw [hw10]; exact Rd.sets (B := w3.heap.size) (by omega) (by omega) [.int .i64 r] w9 2 HR9.out
    have HG10 : Hid (w.grownBy w10 (some R)) := by show World.grownBy _ _ _; rw [hw10]; exact grown_sets HG9.out (by omega) [.int .i64 r] 2
    have hs10 : w9.heap.size ≤ w10.heap.size := by rw [hw10]; simp
    have HW10 : Hid (w9.setCell ⟨w3.heap.size, 2, none⟩ (.int .i64 r) = w10) := hw10.symm
    clear hw10 w9bc0 w9bc1 w9bc2 w9bc3 w9bc4 w9bc5 w9bf0 w9bf1 w9bf2 w9bf3 w9bf4 w9bf5
    obtain ⟨wz, hwz⟩ : ∃ u, u = sets w10 w.heap.size 0 [.int .i64 p, .int .i64 q, .int .i64 r, .int .i64 x, .int .i64 y, .int .i64 k] := ⟨_, rfl⟩
    have ha := sets_at w.heap.size [Value.int .i64 p, .int .i64 q, .int .i64 r, .int .i64 x, .int .i64 y, .int .i64 k] w10 0 (fun j hj => by
      match j, hj with
      | 0, _ => exact ⟨_, w10bc0⟩
      | 1, _ => exact ⟨_, w10bc1⟩
      | 2, _ => exact ⟨_, w10bc2⟩
      | 3, _ => exact ⟨_, w10bc3⟩
      | 4, _ => exact ⟨_, w10bc4⟩
      | 5, _ => exact ⟨_, w10bc5⟩)
    rw [← hwz] at ha
    have z0 : wz.cell? ⟨w.heap.size, 0, none⟩ = some (.int .i64 p) := by simpa using ha 0 _ rfl
    have z1 : wz.cell? ⟨w.heap.size, 1, none⟩ = some (.int .i64 q) := by simpa using ha 1 _ rfl
    have z2 : wz.cell? ⟨w.heap.size, 2, none⟩ = some (.int .i64 r) := by simpa using ha 2 _ rfl
    have z3 : wz.cell? ⟨w.heap.size, 3, none⟩ = some (.int .i64 x) := by simpa using ha 3 _ rfl
    have z4 : wz.cell? ⟨w.heap.size, 4, none⟩ = some (.int .i64 y) := by simpa using ha 4 _ rfl
    have z5 : wz.cell? ⟨w.heap.size, 5, none⟩ = some (.int .i64 k) := by simpa using ha 5 _ rfl
    have HRz : Hid (Rd w0 R a len cap wz) := by show Rd _ _ _ _ _ _; rw [hwz]; exact Rd.sets (by omega) (by omega) _ _ _ HR10.out
    have HGz : Hid (w.grownBy wz (some R)) := by show World.grownBy _ _ _; rw [hwz]; exact grown_sets HG10.out (Nat.le_refl _) _ _
    have HWz : Hid (sets w10 w.heap.size 0 [.int .i64 p, .int .i64 q, .int .i64 r, .int .i64 x, .int .i64 y, .int .i64 k] = wz) := hwz.symm
    clear hwz ha
    go_wp2_with (first | rw [HW10.out] | rw [show ((((((w10.setCell ⟨w.heap.size, 0, none⟩ (.int .i64 p)).setCell ⟨w.heap.size, 1, none⟩ (.int .i64 q)).setCell ⟨w.heap.size, 2, none⟩ (.int .i64 r)).setCell ⟨w.heap.size, 3, none⟩ (.int .i64 x)).setCell ⟨w.heap.size, 4, none⟩ (.int .i64 y)).setCell ⟨w.heap.size, 5, none⟩ (.int .i64 k)) = wz from HWz.out])
    refine bodyPost_ret (v := .agg #[.int .i64 p, .int .i64 q, .int .i64 r, .int .i64 x, .int .i64 y, .int .i64 k]) (by simp [results, Tryz.results73, go_sem, z0, z1, z2, z3, z4, z5]) rfl ⟨⟨p, q, r, x, y, k⟩, rfl, HRz.out, HGz.out⟩
end Go.Proofs.YtbcfjbkmkknmfaaGreatDoor
namespace Go.Proofs.YtbcfjbkmkknmfaaGreatDoor
open Go.RowKit

theorem zero12 {j : Nat} (h : j < 12) : (#[Value.int .i64 0, .int .i64 0, .int .i64 0, .int .i64 0, .int .i64 0, .int .i64 0, .int .i64 0, .int .i64 0, .int .i64 0, .int .i64 0, .int .i64 0, .int .i64 0] : Array Value)[j]? = some (.int .i64 0) := by
  match j, h with
  | 0, _ => rfl
  | 1, _ => rfl
  | 2, _ => rfl
  | 3, _ => rfl
  | 4, _ => rfl
  | 5, _ => rfl
  | 6, _ => rfl
  | 7, _ => rfl
  | 8, _ => rfl
  | 9, _ => rfl
  | 10, _ => rfl
  | 11, _ => rfl
set_option maxHeartbeats 8000000 in
set_option maxRecDepth 10000 in
theorem machineR_any {w0 : World} {R : Nat} {a : Option Addr} {len cap : Nat} {zs : List Int} (hrow : Row .u8 w0 a len cap zs) (w : World) (h : Rd w0 R a len cap w) :
    Calls Tryz.prog 27 #[.pointer (some ⟨R, 0, none⟩)] w fun e w' => ∃ m : M.Mc, e = .returned (mcv m) ∧ Rd w0 R a len cap w' ∧ w.grownBy w' (some R) := by
  have HR : Hid (Row .u8 w0 a len cap zs) := hrow
  have H : Hid (Rd w0 R a len cap w) := h
  have hRw := h.hi
  have hlo := h.lo
  clear hrow h
  go_enter Tryz.func27, Tryz.ntmps27
  go_wp2_with fail
  refine (ruleR_any HR.out _ (H.out.alloc _)).mono ?_
  rintro e w1 ⟨⟨p1, p2, p3, p4, p5, p6⟩, rfl, hr1, hg1⟩
  dsimp only [rlv]
  have HR1 : Hid (Rd w0 R a len cap w1) := hr1
  have HG1 : Hid (w.grownBy w1 (some R)) := grown_alloc2 hg1
  have hs1 : w.heap.size + 1 ≤ w1.heap.size := by have := hg1.size; simpa using this
  have HZ1 : Hid (∀ j, j < 12 → w1.cell? ⟨w.heap.size, j, none⟩ = some (.int .i64 0) ∧ w1.frozen? ⟨w.heap.size, j, none⟩ = false) := fun j hj => ⟨hg1.cell ((World.cell?_alloc_new _ _ _ _).trans (zero12 hj)) (by simp; omega), (grown_frozen hg1 (by simp) (by simp; omega)).trans (frozen_one _ _ _ _)⟩
  clear hr1 hg1
  go_wp2_with fail
  refine (ruleR_any HR.out _ (HR1.out.alloc _)).mono ?_
  rintro e w2 ⟨⟨q1, q2, q3, q4, q5, q6⟩, rfl, hr2, hg2⟩
  dsimp only [rlv]
  have hgm : w1.grownBy w2 (some R) := grown_alloc2 hg2
  have HR2 : Hid (Rd w0 R a len cap w2) := hr2
  have HG2 : Hid (w.grownBy w2 (some R)) := HG1.out.trans hgm
  have hs2 : w1.heap.size + 1 ≤ w2.heap.size := by have := hg2.size; simpa using this
  have HZ2 : Hid (∀ j, j < 12 → w2.cell? ⟨w.heap.size, j, none⟩ = some (.int .i64 0) ∧ w2.frozen? ⟨w.heap.size, j, none⟩ = false) := fun j hj => ⟨hgm.cell (HZ1.out j hj).1 (by simp; omega), (grown_frozen hgm (by simp; omega) (by simp; omega)).trans (HZ1.out j hj).2⟩
  have HF2 : Hid (∀ j, w2.frozen? ⟨w1.heap.size, j, none⟩ = false) := fun j => (grown_frozen hg2 (by simp) (by simp; omega)).trans (frozen_one _ _ _ _)
  have c0 : w2.cell? ⟨w1.heap.size, 0, none⟩ = some (.int .i64 p1) := hg2.cell (World.cell?_alloc_new _ _ _ _) (by simp; omega)
  have c1 : w2.cell? ⟨w1.heap.size, 1, none⟩ = some (.int .i64 p2) := hg2.cell (World.cell?_alloc_new _ _ _ _) (by simp; omega)
  have c2 : w2.cell? ⟨w1.heap.size, 2, none⟩ = some (.int .i64 p3) := hg2.cell (World.cell?_alloc_new _ _ _ _) (by simp; omega)
  have c3 : w2.cell? ⟨w1.heap.size, 3, none⟩ = some (.int .i64 p4) := hg2.cell (World.cell?_alloc_new _ _ _ _) (by simp; omega)
  have c4 : w2.cell? ⟨w1.heap.size, 4, none⟩ = some (.int .i64 p5) := hg2.cell (World.cell?_alloc_new _ _ _ _) (by simp; omega)
  have c5 : w2.cell? ⟨w1.heap.size, 5, none⟩ = some (.int .i64 p6) := hg2.cell (World.cell?_alloc_new _ _ _ _) (by simp; omega)
  have c6 : w2.cell? ⟨w1.heap.size, 6, none⟩ = some (.int .i64 0) := hg2.cell (World.cell?_alloc_new _ _ _ _) (by simp; omega)
  have c7 : w2.cell? ⟨w1.heap.size, 7, none⟩ = some (.int .i64 0) := hg2.cell (World.cell?_alloc_new _ _ _ _) (by simp; omega)
  have c8 : w2.cell? ⟨w1.heap.size, 8, none⟩ = some (.int .i64 0) := hg2.cell (World.cell?_alloc_new _ _ _ _) (by simp; omega)
  have c9 : w2.cell? ⟨w1.heap.size, 9, none⟩ = some (.int .i64 0) := hg2.cell (World.cell?_alloc_new _ _ _ _) (by simp; omega)
  have c10 : w2.cell? ⟨w1.heap.size, 10, none⟩ = some (.int .i64 0) := hg2.cell (World.cell?_alloc_new _ _ _ _) (by simp; omega)
  have c11 : w2.cell? ⟨w1.heap.size, 11, none⟩ = some (.int .i64 0) := hg2.cell (World.cell?_alloc_new _ _ _ _) (by simp; omega)
  have f6 := HF2.out 6
  have f7 := HF2.out 7
  have f8 := HF2.out 8
  have f9 := HF2.out 9
  have f10 := HF2.out 10
  have f11 := HF2.out 11
  obtain ⟨w3, hw3⟩ : ∃ u, u = sets w2 w1.heap.size 6 [.int .i64 q1, .int .i64 q2, .int .i64 q3, .int .i64 q4, .int .i64 q5, .int .i64 q6] := ⟨_, rfl⟩
  have ha := sets_at w1.heap.size [Value.int .i64 q1, .int .i64 q2, .int .i64 q3, .int .i64 q4, .int .i64 q5, .int .i64 q6] w2 6 (fun j hj => by
    match j, hj with
    | 0, _ => exact ⟨_, c6⟩
    | 1, _ => exact ⟨_, c7⟩
    | 2, _ => exact ⟨_, c8⟩
    | 3, _ => exact ⟨_, c9⟩
    | 4, _ => exact ⟨_, c10⟩
    | 5, _ => exact ⟨_, c11⟩)
  rw [← hw3] at ha
  have d0 : w3.cell? ⟨w1.heap.size, 0, none⟩ = some (.int .i64 p1) := by rw [hw3, sets_low w1.heap.size 0 _ _ _ (by omega)]; exact c0
  have d1 : w3.cell? ⟨w1.heap.size, 1, none⟩ = some (.int .i64 p2) := by rw [hw3, sets_low w1.heap.size 1 _ _ _ (by omega)]; exact c1
  have d2 : w3.cell? ⟨w1.heap.size, 2, none⟩ = some (.int .i64 p3) := by rw [hw3, sets_low w1.heap.size 2 _ _ _ (by omega)]; exact c2
  have d3 : w3.cell? ⟨w1.heap.size, 3, none⟩ = some (.int .i64 p4) := by rw [hw3, sets_low w1.heap.size 3 _ _ _ (by omega)]; exact c3
  have d4 : w3.cell? ⟨w1.heap.size, 4, none⟩ = some (.int .i64 p5) := by rw [hw3, sets_low w1.heap.size 4 _ _ _ (by omega)]; exact c4
  have d5 : w3.cell? ⟨w1.heap.size, 5, none⟩ = some (.int .i64 p6) := by rw [hw3, sets_low w1.heap.size 5 _ _ _ (by omega)]; exact c5
  have d6 : w3.cell? ⟨w1.heap.size, 6, none⟩ = some (.int .i64 q1) := by simpa using ha 0 _ rfl
  have d7 : w3.cell? ⟨w1.heap.size, 7, none⟩ = some (.int .i64 q2) := by simpa using ha 1 _ rfl
  have d8 : w3.cell? ⟨w1.heap.size, 8, none⟩ = some (.int .i64 q3) := by simpa using ha 2 _ rfl
  have d9 : w3.cell? ⟨w1.heap.size, 9, none⟩ = some (.int .i64 q4) := by simpa using ha 3 _ rfl
  have d10 : w3.cell? ⟨w1.heap.size, 10, none⟩ = some (.int .i64 q5) := by simpa using ha 4 _ rfl
  have d11 : w3.cell? ⟨w1.heap.size, 11, none⟩ = some (.int .i64 q6) := by simpa using ha 5 _ rfl
  have HR3 : Hid (Rd w0 R a len cap w3) := by show Rd _ _ _ _ _ _; rw [hw3]; exact Rd.sets (by omega) (by omega) _ _ _ HR2.out
  have HG3 : Hid (w.grownBy w3 (some R)) := by show World.grownBy _ _ _; rw [hw3]; exact grown_sets HG2.out (by omega) _ _
  have hs3 : w2.heap.size ≤ w3.heap.size := by rw [hw3, sets_size]; exact Nat.le_refl _
  have HZ3 : Hid (∀ j, j < 12 → w3.cell? ⟨w.heap.size, j, none⟩ = some (.int .i64 0) ∧ w3.frozen? ⟨w.heap.size, j, none⟩ = false) := fun j hj => by rw [hw3]; exact ⟨(sets_far _ (show w.heap.size ≠ w1.heap.size by omega) _ _ _).trans (HZ2.out j hj).1, (sets_frozen _ _ _ _ _).trans (HZ2.out j hj).2⟩
  have HF3 : Hid (∀ j, w3.frozen? ⟨w1.heap.size, j, none⟩ = false) := fun j => by rw [hw3, sets_frozen]; exact HF2.out j
  have HW3 : Hid (sets w2 w1.heap.size 6 [.int .i64 q1, .int .i64 q2, .int .i64 q3, .int .i64 q4, .int .i64 q5, .int .i64 q6] = w3) := hw3.symm
  have hmc : ∃ m : M.Mc, (w3.cell? ⟨w1.heap.size, 0, none⟩ = some (.int .i64 m.X.xx) ∧ w3.cell? ⟨w1.heap.size, 1, none⟩ = some (.int .i64 m.X.xy) ∧ w3.cell? ⟨w1.heap.size, 2, none⟩ = some (.int .i64 m.X.yy) ∧ w3.cell? ⟨w1.heap.size, 3, none⟩ = some (.int .i64 m.X.x) ∧ w3.cell? ⟨w1.heap.size, 4, none⟩ = some (.int .i64 m.X.y) ∧ w3.cell? ⟨w1.heap.size, 5, none⟩ = some (.int .i64 m.X.k) ∧ w3.cell? ⟨w1.heap.size, 6, none⟩ = some (.int .i64 m.Y.xx) ∧ w3.cell? ⟨w1.heap.size, 7, none⟩ = some (.int .i64 m.Y.xy) ∧ w3.cell? ⟨w1.heap.size, 8, none⟩ = some (.int .i64 m.Y.yy) ∧ w3.cell? ⟨w1.heap.size, 9, none⟩ = some (.int .i64 m.Y.x) ∧ w3.cell? ⟨w1.heap.size, 10, none⟩ = some (.int .i64 m.Y.y) ∧ w3.cell? ⟨w1.heap.size, 11, none⟩ = some (.int .i64 m.Y.k)) := ⟨⟨⟨p1, p2, p3, p4, p5, p6⟩, ⟨q1, q2, q3, q4, q5, q6⟩⟩, d0, d1, d2, d3, d4, d5, d6, d7, d8, d9, d10, d11⟩
  have HMC : Hid (∃ m : M.Mc, (w3.cell? ⟨w1.heap.size, 0, none⟩ = some (.int .i64 m.X.xx) ∧ w3.cell? ⟨w1.heap.size, 1, none⟩ = some (.int .i64 m.X.xy) ∧ w3.cell? ⟨w1.heap.size, 2, none⟩ = some (.int .i64 m.X.yy) ∧ w3.cell? ⟨w1.heap.size, 3, none⟩ = some (.int .i64 m.X.x) ∧ w3.cell? ⟨w1.heap.size, 4, none⟩ = some (.int .i64 m.X.y) ∧ w3.cell? ⟨w1.heap.size, 5, none⟩ = some (.int .i64 m.X.k) ∧ w3.cell? ⟨w1.heap.size, 6, none⟩ = some (.int .i64 m.Y.xx) ∧ w3.cell? ⟨w1.heap.size, 7, none⟩ = some (.int .i64 m.Y.xy) ∧ w3.cell? ⟨w1.heap.size, 8, none⟩ = some (.int .i64 m.Y.yy) ∧ w3.cell? ⟨w1.heap.size, 9, none⟩ = some (.int .i64 m.Y.x) ∧ w3.cell? ⟨w1.heap.size, 10, none⟩ = some (.int .i64 m.Y.y) ∧ w3.cell? ⟨w1.heap.size, 11, none⟩ = some (.int .i64 m.Y.k))) := hmc
  clear hw3 ha hmc hr2 hg2 hgm d0 d1 d2 d3 d4 d5 d6 d7 d8 d9 d10 d11
  go_wp2_with (rw [show ((((((w2.setCell ⟨w1.heap.size, 6, none⟩ (.int .i64 q1)).setCell ⟨w1.heap.size, 7, none⟩ (.int .i64 q2)).setCell ⟨w1.heap.size, 8, none⟩ (.int .i64 q3)).setCell ⟨w1.heap.size, 9, none⟩ (.int .i64 q4)).setCell ⟨w1.heap.size, 10, none⟩ (.int .i64 q5)).setCell ⟨w1.heap.size, 11, none⟩ (.int .i64 q6)) = w3 from HW3.out])
  clear c0 c1 c2 c3 c4 c5 c6 c7 c8 c9 c10 c11 f6 f7 f8 f9 f10 f11
  go_loopw [4] (fun i wr => ∃ j : Nat, j ≤ 9 ∧ i = .int .i64 j ∧ (∃ m : M.Mc, (wr.cell? ⟨w1.heap.size, 0, none⟩ = some (.int .i64 m.X.xx) ∧ wr.cell? ⟨w1.heap.size, 1, none⟩ = some (.int .i64 m.X.xy) ∧ wr.cell? ⟨w1.heap.size, 2, none⟩ = some (.int .i64 m.X.yy) ∧ wr.cell? ⟨w1.heap.size, 3, none⟩ = some (.int .i64 m.X.x) ∧ wr.cell? ⟨w1.heap.size, 4, none⟩ = some (.int .i64 m.X.y) ∧ wr.cell? ⟨w1.heap.size, 5, none⟩ = some (.int .i64 m.X.k) ∧ wr.cell? ⟨w1.heap.size, 6, none⟩ = some (.int .i64 m.Y.xx) ∧ wr.cell? ⟨w1.heap.size, 7, none⟩ = some (.int .i64 m.Y.xy) ∧ wr.cell? ⟨w1.heap.size, 8, none⟩ = some (.int .i64 m.Y.yy) ∧ wr.cell? ⟨w1.heap.size, 9, none⟩ = some (.int .i64 m.Y.x) ∧ wr.cell? ⟨w1.heap.size, 10, none⟩ = some (.int .i64 m.Y.y) ∧ wr.cell? ⟨w1.heap.size, 11, none⟩ = some (.int .i64 m.Y.k))) ∧ (∀ j, wr.frozen? ⟨w1.heap.size, j, none⟩ = false) ∧ (∀ j, j < 12 → wr.cell? ⟨w.heap.size, j, none⟩ = some (.int .i64 0) ∧ wr.frozen? ⟨w.heap.size, j, none⟩ = false) ∧ Rd w0 R a len cap wr ∧ w.grownBy wr (some R) ∧ w1.heap.size < wr.heap.size) (fun i _ => 9 - (intOf i).toNat)
  case atStart => exact ⟨0, by omega, rfl, HMC.out, HF3.out, HZ3.out, HR3.out, HG3.out, by omega⟩
  case round =>
    obtain ⟨j, hj, rfl, ⟨m, c0, c1, c2, c3, c4, c5, c6, c7, c8, c9, c10, c11⟩, hf, hzz, hr, hg, hsz⟩ := hrel
    have HFr : Hid (∀ j, wr.frozen? ⟨w1.heap.size, j, none⟩ = false) := hf
    have HZr : Hid (∀ j, j < 12 → wr.cell? ⟨w.heap.size, j, none⟩ = some (.int .i64 0) ∧ wr.frozen? ⟨w.heap.size, j, none⟩ = false) := hzz
    have HRr : Hid (Rd w0 R a len cap wr) := hr
    have HGr : Hid (w.grownBy wr (some R)) := hg
    have CM := specMachineOk_any m
    clear hf hzz hr hg HMC HF3 HZ3 HR3 HG3
    obtain ⟨⟨a1, b1, e1, d1, f1, k1⟩, ⟨a2, b2, e2, d2, f2, k2⟩⟩ := m
    dsimp only [mcv] at c0 c1 c2 c3 c4 c5 c6 c7 c8 c9 c10 c11 CM
    by_cases hlt : j < 9
    · have hI : (j : Int) < 9 := by omega
      generalize M.Mc.ok ⟨⟨a1, b1, e1, d1, f1, k1⟩, ⟨a2, b2, e2, d2, f2, k2⟩⟩ = ok at CM
      cases ok with
      | true =>
        go_wp2_with fail
        refine (CM _).mono ?_
        rintro e w4 ⟨rfl, hb4⟩
        have HR4 : Hid (Rd w0 R a len cap w4) := HRr.out.grow hb4
        have HG4 : Hid (w.grownBy w4 (some R)) := grown_below HGr.out hb4
        have hs4 : wr.heap.size ≤ w4.heap.size := hb4.size
        have HZ4 : Hid (∀ j, j < 12 → w4.cell? ⟨w.heap.size, j, none⟩ = some (.int .i64 0) ∧ w4.frozen? ⟨w.heap.size, j, none⟩ = false) := fun j hj => ⟨(hb4.cell (p := ⟨w.heap.size, j, none⟩) (by show w.heap.size < _; omega)).trans (HZr.out j hj).1, (frozen_kept hb4 (show w.heap.size < _ by omega)).trans (HZr.out j hj).2⟩
        have HF4 : Hid (∀ j, w4.frozen? ⟨w1.heap.size, j, none⟩ = false) := fun j => (frozen_kept hb4 hsz).trans (HFr.out j)
        have x0 : w4.cell? ⟨w1.heap.size, 0, none⟩ = some (.int .i64 a1) := (hb4.cell (p := ⟨w1.heap.size, 0, none⟩) hsz).trans c0
        have x1 : w4.cell? ⟨w1.heap.size, 1, none⟩ = some (.int .i64 b1) := (hb4.cell (p := ⟨w1.heap.size, 1, none⟩) hsz).trans c1
        have x2 : w4.cell? ⟨w1.heap.size, 2, none⟩ = some (.int .i64 e1) := (hb4.cell (p := ⟨w1.heap.size, 2, none⟩) hsz).trans c2
        have x3 : w4.cell? ⟨w1.heap.size, 3, none⟩ = some (.int .i64 d1) := (hb4.cell (p := ⟨w1.heap.size, 3, none⟩) hsz).trans c3
        have x4 : w4.cell? ⟨w1.heap.size, 4, none⟩ = some (.int .i64 f1) := (hb4.cell (p := ⟨w1.heap.size, 4, none⟩) hsz).trans c4
        have x5 : w4.cell? ⟨w1.heap.size, 5, none⟩ = some (.int .i64 k1) := (hb4.cell (p := ⟨w1.heap.size, 5, none⟩) hsz).trans c5
        have x6 : w4.cell? ⟨w1.heap.size, 6, none⟩ = some (.int .i64 a2) := (hb4.cell (p := ⟨w1.heap.size, 6, none⟩) hsz).trans c6
        have x7 : w4.cell? ⟨w1.heap.size, 7, none⟩ = some (.int .i64 b2) := (hb4.cell (p := ⟨w1.heap.size, 7, none⟩) hsz).trans c7
        have x8 : w4.cell? ⟨w1.heap.size, 8, none⟩ = some (.int .i64 e2) := (hb4.cell (p := ⟨w1.heap.size, 8, none⟩) hsz).trans c8
        have x9 : w4.cell? ⟨w1.heap.size, 9, none⟩ = some (.int .i64 d2) := (hb4.cell (p := ⟨w1.heap.size, 9, none⟩) hsz).trans c9
        have x10 : w4.cell? ⟨w1.heap.size, 10, none⟩ = some (.int .i64 f2) := (hb4.cell (p := ⟨w1.heap.size, 10, none⟩) hsz).trans c10
        have x11 : w4.cell? ⟨w1.heap.size, 11, none⟩ = some (.int .i64 k2) := (hb4.cell (p := ⟨w1.heap.size, 11, none⟩) hsz).trans c11
        clear hb4 c0 c1 c2 c3 c4 c5 c6 c7 c8 c9 c10 c11
        have s0 := (HZ4.out 0 (by omega)).1
        have t0 := (HZ4.out 0 (by omega)).2
        have s1 := (HZ4.out 1 (by omega)).1
        have t1 := (HZ4.out 1 (by omega)).2
        have s2 := (HZ4.out 2 (by omega)).1
        have t2 := (HZ4.out 2 (by omega)).2
        have s3 := (HZ4.out 3 (by omega)).1
        have t3 := (HZ4.out 3 (by omega)).2
        have s4 := (HZ4.out 4 (by omega)).1
        have t4 := (HZ4.out 4 (by omega)).2
        have s5 := (HZ4.out 5 (by omega)).1
        have t5 := (HZ4.out 5 (by omega)).2
        have s6 := (HZ4.out 6 (by omega)).1
        have t6 := (HZ4.out 6 (by omega)).2
        have s7 := (HZ4.out 7 (by omega)).1
        have t7 := (HZ4.out 7 (by omega)).2
        have s8 := (HZ4.out 8 (by omega)).1
        have t8 := (HZ4.out 8 (by omega)).2
        have s9 := (HZ4.out 9 (by omega)).1
        have t9 := (HZ4.out 9 (by omega)).2
        have s10 := (HZ4.out 10 (by omega)).1
        have t10 := (HZ4.out 10 (by omega)).2
        have s11 := (HZ4.out 11 (by omega)).1
        have t11 := (HZ4.out 11 (by omega)).2
        obtain ⟨wz, hwz⟩ : ∃ u, u = sets w4 w.heap.size 0 [.int .i64 a1, .int .i64 b1, .int .i64 e1, .int .i64 d1, .int .i64 f1, .int .i64 k1, .int .i64 a2, .int .i64 b2, .int .i64 e2, .int .i64 d2, .int .i64 f2, .int .i64 k2] := ⟨_, rfl⟩
        have ha := sets_at w.heap.size [Value.int .i64 a1, .int .i64 b1, .int .i64 e1, .int .i64 d1, .int .i64 f1, .int .i64 k1, .int .i64 a2, .int .i64 b2, .int .i64 e2, .int .i64 d2, .int .i64 f2, .int .i64 k2] w4 0 (fun j hj => by
          match j, hj with
          | 0, _ => exact ⟨_, s0⟩
          | 1, _ => exact ⟨_, s1⟩
          | 2, _ => exact ⟨_, s2⟩
          | 3, _ => exact ⟨_, s3⟩
          | 4, _ => exact ⟨_, s4⟩
          | 5, _ => exact ⟨_, s5⟩
          | 6, _ => exact ⟨_, s6⟩
          | 7, _ => exact ⟨_, s7⟩
          | 8, _ => exact ⟨_, s8⟩
          | 9, _ => exact ⟨_, s9⟩
          | 10, _ => exact ⟨_, s10⟩
          | 11, _ => exact ⟨_, s11⟩)
        rw [← hwz] at ha
        have z0 : wz.cell? ⟨w.heap.size, 0, none⟩ = some (.int .i64 a1) := by simpa using ha 0 _ rfl
        have z1 : wz.cell? ⟨w.heap.size, 1, none⟩ = some (.int .i64 b1) := by simpa using ha 1 _ rfl
        have z2 : wz.cell? ⟨w.heap.size, 2, none⟩ = some (.int .i64 e1) := by simpa using ha 2 _ rfl
        have z3 : wz.cell? ⟨w.heap.size, 3, none⟩ = some (.int .i64 d1) := by simpa using ha 3 _ rfl
        have z4 : wz.cell? ⟨w.heap.size, 4, none⟩ = some (.int .i64 f1) := by simpa using ha 4 _ rfl
        have z5 : wz.cell? ⟨w.heap.size, 5, none⟩ = some (.int .i64 k1) := by simpa using ha 5 _ rfl
        have z6 : wz.cell? ⟨w.heap.size, 6, none⟩ = some (.int .i64 a2) := by simpa using ha 6 _ rfl
        have z7 : wz.cell? ⟨w.heap.size, 7, none⟩ = some (.int .i64 b2) := by simpa using ha 7 _ rfl
        have z8 : wz.cell? ⟨w.heap.size, 8, none⟩ = some (.int .i64 e2) := by simpa using ha 8 _ rfl
        have z9 : wz.cell? ⟨w.heap.size, 9, none⟩ = some (.int .i64 d2) := by simpa using ha 9 _ rfl
        have z10 : wz.cell? ⟨w.heap.size, 10, none⟩ = some (.int .i64 f2) := by simpa using ha 10 _ rfl
        have z11 : wz.cell? ⟨w.heap.size, 11, none⟩ = some (.int .i64 k2) := by simpa using ha 11 _ rfl
        have HRz : Hid (Rd w0 R a len cap wz) := by show Rd _ _ _ _ _ _; rw [hwz]; exact Rd.sets (by omega) (by omega) _ _ _ HR4.out
        have HGz : Hid (w.grownBy wz (some R)) := by show World.grownBy _ _ _; rw [hwz]; exact grown_sets HG4.out (Nat.le_refl _) _ _
        have HWz : Hid (sets w4 w.heap.size 0 [.int .i64 a1, .int .i64 b1, .int .i64 e1, .int .i64 d1, .int .i64 f1, .int .i64 k1, .int .i64 a2, .int .i64 b2, .int .i64 e2, .int .i64 d2, .int .i64 f2, .int .i64 k2] = wz) := hwz.symm
        clear hwz ha
        go_wp2_with (rw [show ((((((((((((w4.setCell ⟨w.heap.size, 0, none⟩ (.int .i64 a1)).setCell ⟨w.heap.size, 1, none⟩ (.int .i64 b1)).setCell ⟨w.heap.size, 2, none⟩ (.int .i64 e1)).setCell ⟨w.heap.size, 3, none⟩ (.int .i64 d1)).setCell ⟨w.heap.size, 4, none⟩ (.int .i64 f1)).setCell ⟨w.heap.size, 5, none⟩ (.int .i64 k1)).setCell ⟨w.heap.size, 6, none⟩ (.int .i64 a2)).setCell ⟨w.heap.size, 7, none⟩ (.int .i64 b2)).setCell ⟨w.heap.size, 8, none⟩ (.int .i64 e2)).setCell ⟨w.heap.size, 9, none⟩ (.int .i64 d2)).setCell ⟨w.heap.size, 10, none⟩ (.int .i64 f2)).setCell ⟨w.heap.size, 11, none⟩ (.int .i64 k2)) = wz from HWz.out])
        refine bodyPost_ret (v := .agg #[.int .i64 a1, .int .i64 b1, .int .i64 e1, .int .i64 d1, .int .i64 f1, .int .i64 k1, .int .i64 a2, .int .i64 b2, .int .i64 e2, .int .i64 d2, .int .i64 f2, .int .i64 k2]) (by simp [results, Tryz.results27, go_sem, z0, z1, z2, z3, z4, z5, z6, z7, z8, z9, z10, z11]) rfl ⟨⟨⟨a1, b1, e1, d1, f1, k1⟩, ⟨a2, b2, e2, d2, f2, k2⟩⟩, rfl, HRz.out, HGz.out⟩
      | false =>
        go_wp2_with fail
        refine (CM _).mono ?_
        rintro e w4 ⟨rfl, hb4⟩
        have HR4 : Hid (Rd w0 R a len cap w4) := HRr.out.grow hb4
        have HG4 : Hid (w.grownBy w4 (some R)) := grown_below HGr.out hb4
        have hs4 : wr.heap.size ≤ w4.heap.size := hb4.size
        have HZ4 : Hid (∀ j, j < 12 → w4.cell? ⟨w.heap.size, j, none⟩ = some (.int .i64 0) ∧ w4.frozen? ⟨w.heap.size, j, none⟩ = false) := fun j hj => ⟨(hb4.cell (p := ⟨w.heap.size, j, none⟩) (by show w.heap.size < _; omega)).trans (HZr.out j hj).1, (frozen_kept hb4 (show w.heap.size < _ by omega)).trans (HZr.out j hj).2⟩
        have HF4 : Hid (∀ j, w4.frozen? ⟨w1.heap.size, j, none⟩ = false) := fun j => (frozen_kept hb4 hsz).trans (HFr.out j)
        have x0 : w4.cell? ⟨w1.heap.size, 0, none⟩ = some (.int .i64 a1) := (hb4.cell (p := ⟨w1.heap.size, 0, none⟩) hsz).trans c0
        have x1 : w4.cell? ⟨w1.heap.size, 1, none⟩ = some (.int .i64 b1) := (hb4.cell (p := ⟨w1.heap.size, 1, none⟩) hsz).trans c1
        have x2 : w4.cell? ⟨w1.heap.size, 2, none⟩ = some (.int .i64 e1) := (hb4.cell (p := ⟨w1.heap.size, 2, none⟩) hsz).trans c2
        have x3 : w4.cell? ⟨w1.heap.size, 3, none⟩ = some (.int .i64 d1) := (hb4.cell (p := ⟨w1.heap.size, 3, none⟩) hsz).trans c3
        have x4 : w4.cell? ⟨w1.heap.size, 4, none⟩ = some (.int .i64 f1) := (hb4.cell (p := ⟨w1.heap.size, 4, none⟩) hsz).trans c4
        have x5 : w4.cell? ⟨w1.heap.size, 5, none⟩ = some (.int .i64 k1) := (hb4.cell (p := ⟨w1.heap.size, 5, none⟩) hsz).trans c5
        have x6 : w4.cell? ⟨w1.heap.size, 6, none⟩ = some (.int .i64 a2) := (hb4.cell (p := ⟨w1.heap.size, 6, none⟩) hsz).trans c6
        have x7 : w4.cell? ⟨w1.heap.size, 7, none⟩ = some (.int .i64 b2) := (hb4.cell (p := ⟨w1.heap.size, 7, none⟩) hsz).trans c7
        have x8 : w4.cell? ⟨w1.heap.size, 8, none⟩ = some (.int .i64 e2) := (hb4.cell (p := ⟨w1.heap.size, 8, none⟩) hsz).trans c8
        have x9 : w4.cell? ⟨w1.heap.size, 9, none⟩ = some (.int .i64 d2) := (hb4.cell (p := ⟨w1.heap.size, 9, none⟩) hsz).trans c9
        have x10 : w4.cell? ⟨w1.heap.size, 10, none⟩ = some (.int .i64 f2) := (hb4.cell (p := ⟨w1.heap.size, 10, none⟩) hsz).trans c10
        have x11 : w4.cell? ⟨w1.heap.size, 11, none⟩ = some (.int .i64 k2) := (hb4.cell (p := ⟨w1.heap.size, 11, none⟩) hsz).trans c11
        clear hb4 c0 c1 c2 c3 c4 c5 c6 c7 c8 c9 c10 c11
        have g0 := HF4.out 0
        have g1 := HF4.out 1
        have g2 := HF4.out 2
        have g3 := HF4.out 3
        have g4 := HF4.out 4
        have g5 := HF4.out 5
        have g6 := HF4.out 6
        have g7 := HF4.out 7
        have g8 := HF4.out 8
        have g9 := HF4.out 9
        have g10 := HF4.out 10
        have g11 := HF4.out 11
        obtain ⟨w5, hw5⟩ : ∃ u, u = sets w4 w1.heap.size 0 [.int .i64 0, .int .i64 0, .int .i64 0, .int .i64 0, .int .i64 1, .int .i64 0, .int .i64 0, .int .i64 0, .int .i64 0, .int .i64 1, .int .i64 ((j : Int) + 1), .int .i64 0] := ⟨_, rfl⟩
        have ha := sets_at w1.heap.size [Value.int .i64 0, .int .i64 0, .int .i64 0, .int .i64 0, .int .i64 1, .int .i64 0, .int .i64 0, .int .i64 0, .int .i64 0, .int .i64 1, .int .i64 ((j : Int) + 1), .int .i64 0] w4 0 (fun j hj => by
          match j, hj with
          | 0, _ => exact ⟨_, x0⟩
          | 1, _ => exact ⟨_, x1⟩
          | 2, _ => exact ⟨_, x2⟩
          | 3, _ => exact ⟨_, x3⟩
          | 4, _ => exact ⟨_, x4⟩
          | 5, _ => exact ⟨_, x5⟩
          | 6, _ => exact ⟨_, x6⟩
          | 7, _ => exact ⟨_, x7⟩
          | 8, _ => exact ⟨_, x8⟩
          | 9, _ => exact ⟨_, x9⟩
          | 10, _ => exact ⟨_, x10⟩
          | 11, _ => exact ⟨_, x11⟩)
        rw [← hw5] at ha
        have HMC5 : Hid (∃ m : M.Mc, (w5.cell? ⟨w1.heap.size, 0, none⟩ = some (.int .i64 m.X.xx) ∧ w5.cell? ⟨w1.heap.size, 1, none⟩ = some (.int .i64 m.X.xy) ∧ w5.cell? ⟨w1.heap.size, 2, none⟩ = some (.int .i64 m.X.yy) ∧ w5.cell? ⟨w1.heap.size, 3, none⟩ = some (.int .i64 m.X.x) ∧ w5.cell? ⟨w1.heap.size, 4, none⟩ = some (.int .i64 m.X.y) ∧ w5.cell? ⟨w1.heap.size, 5, none⟩ = some (.int .i64 m.X.k) ∧ w5.cell? ⟨w1.heap.size, 6, none⟩ = some (.int .i64 m.Y.xx) ∧ w5.cell? ⟨w1.heap.size, 7, none⟩ = some (.int .i64 m.Y.xy) ∧ w5.cell? ⟨w1.heap.size, 8, none⟩ = some (.int .i64 m.Y.yy) ∧ w5.cell? ⟨w1.heap.size, 9, none⟩ = some (.int .i64 m.Y.x) ∧ w5.cell? ⟨w1.heap.size, 10, none⟩ = some (.int .i64 m.Y.y) ∧ w5.cell? ⟨w1.heap.size, 11, none⟩ = some (.int .i64 m.Y.k))) := ⟨⟨⟨0, 0, 0, 0, 1, 0⟩, ⟨0, 0, 0, 1, (j : Int) + 1, 0⟩⟩, by simpa using ha 0 _ rfl, by simpa using ha 1 _ rfl, by simpa using ha 2 _ rfl, by simpa using ha 3 _ rfl, by simpa using ha 4 _ rfl, by simpa using ha 5 _ rfl, by simpa using ha 6 _ rfl, by simpa using ha 7 _ rfl, by simpa using ha 8 _ rfl, by simpa using ha 9 _ rfl, by simpa using ha 10 _ rfl, by simpa using ha 11 _ rfl⟩
        have HR5 : Hid (Rd w0 R a len cap w5) := by show Rd _ _ _ _ _ _; rw [hw5]; exact Rd.sets (by omega) (by omega) _ _ _ HR4.out
        have HG5 : Hid (w.grownBy w5 (some R)) := by show World.grownBy _ _ _; rw [hw5]; exact grown_sets HG4.out (by omega) _ _
        have HZ5 : Hid (∀ j, j < 12 → w5.cell? ⟨w.heap.size, j, none⟩ = some (.int .i64 0) ∧ w5.frozen? ⟨w.heap.size, j, none⟩ = false) := fun j hj => by rw [hw5]; exact ⟨(sets_far _ (show w.heap.size ≠ w1.heap.size by omega) _ _ _).trans (HZ4.out j hj).1, (sets_frozen _ _ _ _ _).trans (HZ4.out j hj).2⟩
        have HF5 : Hid (∀ j, w5.frozen? ⟨w1.heap.size, j, none⟩ = false) := fun j => by rw [hw5, sets_frozen]; exact HF4.out j
        have HS5 : Hid (w1.heap.size < w5.heap.size) := by show _ < _; rw [hw5, sets_size]; omega
        have HW5 : Hid (sets w4 w1.heap.size 0 [.int .i64 0, .int .i64 0, .int .i64 0, .int .i64 0, .int .i64 1, .int .i64 0, .int .i64 0, .int .i64 0, .int .i64 0, .int .i64 1, .int .i64 ((j : Int) + 1), .int .i64 0] = w5) := hw5.symm
        clear hw5 ha
        go_wp2_with (rw [show ((((((((((((w4.setCell ⟨w1.heap.size, 0, none⟩ (.int .i64 0)).setCell ⟨w1.heap.size, 1, none⟩ (.int .i64 0)).setCell ⟨w1.heap.size, 2, none⟩ (.int .i64 0)).setCell ⟨w1.heap.size, 3, none⟩ (.int .i64 0)).setCell ⟨w1.heap.size, 4, none⟩ (.int .i64 1)).setCell ⟨w1.heap.size, 5, none⟩ (.int .i64 0)).setCell ⟨w1.heap.size, 6, none⟩ (.int .i64 0)).setCell ⟨w1.heap.size, 7, none⟩ (.int .i64 0)).setCell ⟨w1.heap.size, 8, none⟩ (.int .i64 0)).setCell ⟨w1.heap.size, 9, none⟩ (.int .i64 1)).setCell ⟨w1.heap.size, 10, none⟩ (.int .i64 ((j : Int) + 1))).setCell ⟨w1.heap.size, 11, none⟩ (.int .i64 0)) = w5 from HW5.out])
        go_roundw
        case rel => exact ⟨j + 1, by omega, by go_num, HMC5.out, HF5.out, HZ5.out, HR5.out, HG5.out, HS5.out⟩
        case measure => simp [intOf]; omega
    · have hj9 : j = 9 := by omega
      subst hj9
      have s0 := (HZr.out 0 (by omega)).1
      have t0 := (HZr.out 0 (by omega)).2
      have s1 := (HZr.out 1 (by omega)).1
      have t1 := (HZr.out 1 (by omega)).2
      have s2 := (HZr.out 2 (by omega)).1
      have t2 := (HZr.out 2 (by omega)).2
      have s3 := (HZr.out 3 (by omega)).1
      have t3 := (HZr.out 3 (by omega)).2
      have s4 := (HZr.out 4 (by omega)).1
      have t4 := (HZr.out 4 (by omega)).2
      have s5 := (HZr.out 5 (by omega)).1
      have t5 := (HZr.out 5 (by omega)).2
      have s6 := (HZr.out 6 (by omega)).1
      have t6 := (HZr.out 6 (by omega)).2
      have s7 := (HZr.out 7 (by omega)).1
      have t7 := (HZr.out 7 (by omega)).2
      have s8 := (HZr.out 8 (by omega)).1
      have t8 := (HZr.out 8 (by omega)).2
      have s9 := (HZr.out 9 (by omega)).1
      have t9 := (HZr.out 9 (by omega)).2
      have s10 := (HZr.out 10 (by omega)).1
      have t10 := (HZr.out 10 (by omega)).2
      have s11 := (HZr.out 11 (by omega)).1
      have t11 := (HZr.out 11 (by omega)).2
      obtain ⟨wz, hwz⟩ : ∃ u, u = sets wr w.heap.size 0 [.int .i64 a1, .int .i64 b1, .int .i64 e1, .int .i64 d1, .int .i64 f1, .int .i64 k1, .int .i64 a2, .int .i64 b2, .int .i64 e2, .int .i64 d2, .int .i64 f2, .int .i64 k2] := ⟨_, rfl⟩
      have ha := sets_at w.heap.size [Value.int .i64 a1, .int .i64 b1, .int .i64 e1, .int .i64 d1, .int .i64 f1, .int .i64 k1, .int .i64 a2, .int .i64 b2, .int .i64 e2, .int .i64 d2, .int .i64 f2, .int .i64 k2] wr 0 (fun j hj => by
        match j, hj with
        | 0, _ => exact ⟨_, s0⟩
        | 1, _ => exact ⟨_, s1⟩
        | 2, _ => exact ⟨_, s2⟩
        | 3, _ => exact ⟨_, s3⟩
        | 4, _ => exact ⟨_, s4⟩
        | 5, _ => exact ⟨_, s5⟩
        | 6, _ => exact ⟨_, s6⟩
        | 7, _ => exact ⟨_, s7⟩
        | 8, _ => exact ⟨_, s8⟩
        | 9, _ => exact ⟨_, s9⟩
        | 10, _ => exact ⟨_, s10⟩
        | 11, _ => exact ⟨_, s11⟩)
      rw [← hwz] at ha
      have z0 : wz.cell? ⟨w.heap.size, 0, none⟩ = some (.int .i64 a1) := by simpa using ha 0 _ rfl
      have z1 : wz.cell? ⟨w.heap.size, 1, none⟩ = some (.int .i64 b1) := by simpa using ha 1 _ rfl
      have z2 : wz.cell? ⟨w.heap.size, 2, none⟩ = some (.int .i64 e1) := by simpa using ha 2 _ rfl
      have z3 : wz.cell? ⟨w.heap.size, 3, none⟩ = some (.int .i64 d1) := by simpa using ha 3 _ rfl
      have z4 : wz.cell? ⟨w.heap.size, 4, none⟩ = some (.int .i64 f1) := by simpa using ha 4 _ rfl
      have z5 : wz.cell? ⟨w.heap.size, 5, none⟩ = some (.int .i64 k1) := by simpa using ha 5 _ rfl
      have z6 : wz.cell? ⟨w.heap.size, 6, none⟩ = some (.int .i64 a2) := by simpa using ha 6 _ rfl
      have z7 : wz.cell? ⟨w.heap.size, 7, none⟩ = some (.int .i64 b2) := by simpa using ha 7 _ rfl
      have z8 : wz.cell? ⟨w.heap.size, 8, none⟩ = some (.int .i64 e2) := by simpa using ha 8 _ rfl
      have z9 : wz.cell? ⟨w.heap.size, 9, none⟩ = some (.int .i64 d2) := by simpa using ha 9 _ rfl
      have z10 : wz.cell? ⟨w.heap.size, 10, none⟩ = some (.int .i64 f2) := by simpa using ha 10 _ rfl
      have z11 : wz.cell? ⟨w.heap.size, 11, none⟩ = some (.int .i64 k2) := by simpa using ha 11 _ rfl
      have HRz : Hid (Rd w0 R a len cap wz) := by show Rd _ _ _ _ _ _; rw [hwz]; exact Rd.sets (by omega) (by omega) _ _ _ HRr.out
      have HGz : Hid (w.grownBy wz (some R)) := by show World.grownBy _ _ _; rw [hwz]; exact grown_sets HGr.out (Nat.le_refl _) _ _
      have HWz : Hid (sets wr w.heap.size 0 [.int .i64 a1, .int .i64 b1, .int .i64 e1, .int .i64 d1, .int .i64 f1, .int .i64 k1, .int .i64 a2, .int .i64 b2, .int .i64 e2, .int .i64 d2, .int .i64 f2, .int .i64 k2] = wz) := hwz.symm
      clear hwz ha
      go_wp2_with (rw [show ((((((((((((wr.setCell ⟨w.heap.size, 0, none⟩ (.int .i64 a1)).setCell ⟨w.heap.size, 1, none⟩ (.int .i64 b1)).setCell ⟨w.heap.size, 2, none⟩ (.int .i64 e1)).setCell ⟨w.heap.size, 3, none⟩ (.int .i64 d1)).setCell ⟨w.heap.size, 4, none⟩ (.int .i64 f1)).setCell ⟨w.heap.size, 5, none⟩ (.int .i64 k1)).setCell ⟨w.heap.size, 6, none⟩ (.int .i64 a2)).setCell ⟨w.heap.size, 7, none⟩ (.int .i64 b2)).setCell ⟨w.heap.size, 8, none⟩ (.int .i64 e2)).setCell ⟨w.heap.size, 9, none⟩ (.int .i64 d2)).setCell ⟨w.heap.size, 10, none⟩ (.int .i64 f2)).setCell ⟨w.heap.size, 11, none⟩ (.int .i64 k2)) = wz from HWz.out])
      refine bodyPost_ret (v := .agg #[.int .i64 a1, .int .i64 b1, .int .i64 e1, .int .i64 d1, .int .i64 f1, .int .i64 k1, .int .i64 a2, .int .i64 b2, .int .i64 e2, .int .i64 d2, .int .i64 f2, .int .i64 k2]) (by simp [results, Tryz.results27, go_sem, z0, z1, z2, z3, z4, z5, z6, z7, z8, z9, z10, z11]) rfl ⟨⟨⟨a1, b1, e1, d1, f1, k1⟩, ⟨a2, b2, e2, d2, f2, k2⟩⟩, rfl, HRz.out, HGz.out⟩
end Go.Proofs.YtbcfjbkmkknmfaaGreatDoor
