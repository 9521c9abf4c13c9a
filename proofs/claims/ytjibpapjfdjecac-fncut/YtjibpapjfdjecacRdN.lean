/- Drawn machines: some machine each. -/
import Derived.Test.YtjibpapjfdjecacRdM
namespace Go.Proofs.Ytjibpapjfdjecac
open Go.RowKit

theorem zero12 {j : Nat} (h : j < 12) : (#[Value.int .i64 0, .int .i64 0, .int .i64 0, .int .i64 0, .int .i64 0, .int .i64 0, .int .i64 0, .int .i64 0, .int .i64 0, .int .i64 0, .int .i64 0, .int .i64 0] : Array Value)[j]? = some (.int .i64 0) := by
  match j, h with
  | 0, _ => rfl
  | 1, _ => rfl
  | 2, _ => rfl
  | 3, _ => rfl
  | 4, _ => rfl
  | 5, _ => rfl
  | 6, _ => rfl
  | 7, _ => rfl
  | 8, _ => rfl
  | 9, _ => rfl
  | 10, _ => rfl
  | 11, _ => rfl
set_option maxHeartbeats 8000000 in
set_option maxRecDepth 10000 in
theorem machineR_any {w0 : World} {R : Nat} {a : Option Addr} {len cap : Nat} {zs : List Int} (hrow : Row .u8 w0 a len cap zs) (w : World) (h : Rd w0 R a len cap w) :
    Calls Try.prog 23 #[.pointer (some ⟨R, 0, none⟩)] w fun e w' => ∃ m : M.Mc, e = .returned (mcv m) ∧ Rd w0 R a len cap w' ∧ w.grownBy w' (some R) := by
  have HR : Hid (Row .u8 w0 a len cap zs) := hrow
  have H : Hid (Rd w0 R a len cap w) := h
  have hRw := h.hi
  have hlo := h.lo
  clear hrow h
  go_enter Try.func23, Try.ntmps23
  go_wp2_with fail
  refine (ruleR_any HR.out _ (H.out.alloc _)).mono ?_
  rintro e w1 ⟨⟨p1, p2, p3, p4, p5, p6⟩, rfl, hr1, hg1⟩
  dsimp only [rlv]
  have HR1 : Hid (Rd w0 R a len cap w1) := hr1
  have HG1 : Hid (w.grownBy w1 (some R)) := grown_alloc2 hg1
  have hs1 : w.heap.size + 1 ≤ w1.heap.size := by have := hg1.size; simpa using this
  have HZ1 : Hid (∀ j, j < 12 → w1.cell? ⟨w.heap.size, j, none⟩ = some (.int .i64 0) ∧ w1.frozen? ⟨w.heap.size, j, none⟩ = false) := fun j hj => ⟨hg1.cell ((World.cell?_alloc_new _ _ _ _).trans (zero12 hj)) (by simp; omega), (grown_frozen hg1 (by simp) (by simp; omega)).trans (frozen_one _ _ _ _)⟩
  clear hr1 hg1
  go_wp2_with fail
  refine (ruleR_any HR.out _ (HR1.out.alloc _)).mono ?_
  rintro e w2 ⟨⟨q1, q2, q3, q4, q5, q6⟩, rfl, hr2, hg2⟩
  dsimp only [rlv]
  have hgm : w1.grownBy w2 (some R) := grown_alloc2 hg2
  have HR2 : Hid (Rd w0 R a len cap w2) := hr2
  have HG2 : Hid (w.grownBy w2 (some R)) := HG1.out.trans hgm
  have hs2 : w1.heap.size + 1 ≤ w2.heap.size := by have := hg2.size; simpa using this
  have HZ2 : Hid (∀ j, j < 12 → w2.cell? ⟨w.heap.size, j, none⟩ = some (.int .i64 0) ∧ w2.frozen? ⟨w.heap.size, j, none⟩ = false) := fun j hj => ⟨hgm.cell (HZ1.out j hj).1 (by simp; omega), (grown_frozen hgm (by simp; omega) (by simp; omega)).trans (HZ1.out j hj).2⟩
  have HF2 : Hid (∀ j, w2.frozen? ⟨w1.heap.size, j, none⟩ = false) := fun j => (grown_frozen hg2 (by simp) (by simp; omega)).trans (frozen_one _ _ _ _)
  have c0 : w2.cell? ⟨w1.heap.size, 0, none⟩ = some (.int .i64 p1) := hg2.cell (World.cell?_alloc_new _ _ _ _) (by simp; omega)
  have c1 : w2.cell? ⟨w1.heap.size, 1, none⟩ = some (.int .i64 p2) := hg2.cell (World.cell?_alloc_new _ _ _ _) (by simp; omega)
  have c2 : w2.cell? ⟨w1.heap.size, 2, none⟩ = some (.int .i64 p3) := hg2.cell (World.cell?_alloc_new _ _ _ _) (by simp; omega)
  have c3 : w2.cell? ⟨w1.heap.size, 3, none⟩ = some (.int .i64 p4) := hg2.cell (World.cell?_alloc_new _ _ _ _) (by simp; omega)
  have c4 : w2.cell? ⟨w1.heap.size, 4, none⟩ = some (.int .i64 p5) := hg2.cell (World.cell?_alloc_new _ _ _ _) (by simp; omega)
  have c5 : w2.cell? ⟨w1.heap.size, 5, none⟩ = some (.int .i64 p6) := hg2.cell (World.cell?_alloc_new _ _ _ _) (by simp; omega)
  have c6 : w2.cell? ⟨w1.heap.size, 6, none⟩ = some (.int .i64 0) := hg2.cell (World.cell?_alloc_new _ _ _ _) (by simp; omega)
  have c7 : w2.cell? ⟨w1.heap.size, 7, none⟩ = some (.int .i64 0) := hg2.cell (World.cell?_alloc_new _ _ _ _) (by simp; omega)
  have c8 : w2.cell? ⟨w1.heap.size, 8, none⟩ = some (.int .i64 0) := hg2.cell (World.cell?_alloc_new _ _ _ _) (by simp; omega)
  have c9 : w2.cell? ⟨w1.heap.size, 9, none⟩ = some (.int .i64 0) := hg2.cell (World.cell?_alloc_new _ _ _ _) (by simp; omega)
  have c10 : w2.cell? ⟨w1.heap.size, 10, none⟩ = some (.int .i64 0) := hg2.cell (World.cell?_alloc_new _ _ _ _) (by simp; omega)
  have c11 : w2.cell? ⟨w1.heap.size, 11, none⟩ = some (.int .i64 0) := hg2.cell (World.cell?_alloc_new _ _ _ _) (by simp; omega)
  have f6 := HF2.out 6
  have f7 := HF2.out 7
  have f8 := HF2.out 8
  have f9 := HF2.out 9
  have f10 := HF2.out 10
  have f11 := HF2.out 11
  obtain ⟨w3, hw3⟩ : ∃ u, u = sets w2 w1.heap.size 6 [.int .i64 q1, .int .i64 q2, .int .i64 q3, .int .i64 q4, .int .i64 q5, .int .i64 q6] := ⟨_, rfl⟩
  have ha := sets_at w1.heap.size [Value.int .i64 q1, .int .i64 q2, .int .i64 q3, .int .i64 q4, .int .i64 q5, .int .i64 q6] w2 6 (fun j hj => by
    match j, hj with
    | 0, _ => exact ⟨_, c6⟩
    | 1, _ => exact ⟨_, c7⟩
    | 2, _ => exact ⟨_, c8⟩
    | 3, _ => exact ⟨_, c9⟩
    | 4, _ => exact ⟨_, c10⟩
    | 5, _ => exact ⟨_, c11⟩)
  rw [← hw3] at ha
  have d0 : w3.cell? ⟨w1.heap.size, 0, none⟩ = some (.int .i64 p1) := by rw [hw3, sets_low w1.heap.size 0 _ _ _ (by omega)]; exact c0
  have d1 : w3.cell? ⟨w1.heap.size, 1, none⟩ = some (.int .i64 p2) := by rw [hw3, sets_low w1.heap.size 1 _ _ _ (by omega)]; exact c1
  have d2 : w3.cell? ⟨w1.heap.size, 2, none⟩ = some (.int .i64 p3) := by rw [hw3, sets_low w1.heap.size 2 _ _ _ (by omega)]; exact c2
  have d3 : w3.cell? ⟨w1.heap.size, 3, none⟩ = some (.int .i64 p4) := by rw [hw3, sets_low w1.heap.size 3 _ _ _ (by omega)]; exact c3
  have d4 : w3.cell? ⟨w1.heap.size, 4, none⟩ = some (.int .i64 p5) := by rw [hw3, sets_low w1.heap.size 4 _ _ _ (by omega)]; exact c4
  have d5 : w3.cell? ⟨w1.heap.size, 5, none⟩ = some (.int .i64 p6) := by rw [hw3, sets_low w1.heap.size 5 _ _ _ (by omega)]; exact c5
  have d6 : w3.cell? ⟨w1.heap.size, 6, none⟩ = some (.int .i64 q1) := by simpa using ha 0 _ rfl
  have d7 : w3.cell? ⟨w1.heap.size, 7, none⟩ = some (.int .i64 q2) := by simpa using ha 1 _ rfl
  have d8 : w3.cell? ⟨w1.heap.size, 8, none⟩ = some (.int .i64 q3) := by simpa using ha 2 _ rfl
  have d9 : w3.cell? ⟨w1.heap.size, 9, none⟩ = some (.int .i64 q4) := by simpa using ha 3 _ rfl
  have d10 : w3.cell? ⟨w1.heap.size, 10, none⟩ = some (.int .i64 q5) := by simpa using ha 4 _ rfl
  have d11 : w3.cell? ⟨w1.heap.size, 11, none⟩ = some (.int .i64 q6) := by simpa using ha 5 _ rfl
  have HR3 : Hid (Rd w0 R a len cap w3) := by show Rd _ _ _ _ _ _; rw [hw3]; exact Rd.sets (by omega) (by omega) _ _ _ HR2.out
  have HG3 : Hid (w.grownBy w3 (some R)) := by show World.grownBy _ _ _; rw [hw3]; exact grown_sets HG2.out (by omega) _ _
  have hs3 : w2.heap.size ≤ w3.heap.size := by rw [hw3, sets_size]; exact Nat.le_refl _
  have HZ3 : Hid (∀ j, j < 12 → w3.cell? ⟨w.heap.size, j, none⟩ = some (.int .i64 0) ∧ w3.frozen? ⟨w.heap.size, j, none⟩ = false) := fun j hj => by rw [hw3]; exact ⟨(sets_far _ (show w.heap.size ≠ w1.heap.size by omega) _ _ _).trans (HZ2.out j hj).1, (sets_frozen _ _ _ _ _).trans (HZ2.out j hj).2⟩
  have HF3 : Hid (∀ j, w3.frozen? ⟨w1.heap.size, j, none⟩ = false) := fun j => by rw [hw3, sets_frozen]; exact HF2.out j
  have HW3 : Hid (sets w2 w1.heap.size 6 [.int .i64 q1, .int .i64 q2, .int .i64 q3, .int .i64 q4, .int .i64 q5, .int .i64 q6] = w3) := hw3.symm
  have hmc : ∃ m : M.Mc, (w3.cell? ⟨w1.heap.size, 0, none⟩ = some (.int .i64 m.X.xx) ∧ w3.cell? ⟨w1.heap.size, 1, none⟩ = some (.int .i64 m.X.xy) ∧ w3.cell? ⟨w1.heap.size, 2, none⟩ = some (.int .i64 m.X.yy) ∧ w3.cell? ⟨w1.heap.size, 3, none⟩ = some (.int .i64 m.X.x) ∧ w3.cell? ⟨w1.heap.size, 4, none⟩ = some (.int .i64 m.X.y) ∧ w3.cell? ⟨w1.heap.size, 5, none⟩ = some (.int .i64 m.X.k) ∧ w3.cell? ⟨w1.heap.size, 6, none⟩ = some (.int .i64 m.Y.xx) ∧ w3.cell? ⟨w1.heap.size, 7, none⟩ = some (.int .i64 m.Y.xy) ∧ w3.cell? ⟨w1.heap.size, 8, none⟩ = some (.int .i64 m.Y.yy) ∧ w3.cell? ⟨w1.heap.size, 9, none⟩ = some (.int .i64 m.Y.x) ∧ w3.cell? ⟨w1.heap.size, 10, none⟩ = some (.int .i64 m.Y.y) ∧ w3.cell? ⟨w1.heap.size, 11, none⟩ = some (.int .i64 m.Y.k)) := ⟨⟨⟨p1, p2, p3, p4, p5, p6⟩, ⟨q1, q2, q3, q4, q5, q6⟩⟩, d0, d1, d2, d3, d4, d5, d6, d7, d8, d9, d10, d11⟩
  have HMC : Hid (∃ m : M.Mc, (w3.cell? ⟨w1.heap.size, 0, none⟩ = some (.int .i64 m.X.xx) ∧ w3.cell? ⟨w1.heap.size, 1, none⟩ = some (.int .i64 m.X.xy) ∧ w3.cell? ⟨w1.heap.size, 2, none⟩ = some (.int .i64 m.X.yy) ∧ w3.cell? ⟨w1.heap.size, 3, none⟩ = some (.int .i64 m.X.x) ∧ w3.cell? ⟨w1.heap.size, 4, none⟩ = some (.int .i64 m.X.y) ∧ w3.cell? ⟨w1.heap.size, 5, none⟩ = some (.int .i64 m.X.k) ∧ w3.cell? ⟨w1.heap.size, 6, none⟩ = some (.int .i64 m.Y.xx) ∧ w3.cell? ⟨w1.heap.size, 7, none⟩ = some (.int .i64 m.Y.xy) ∧ w3.cell? ⟨w1.heap.size, 8, none⟩ = some (.int .i64 m.Y.yy) ∧ w3.cell? ⟨w1.heap.size, 9, none⟩ = some (.int .i64 m.Y.x) ∧ w3.cell? ⟨w1.heap.size, 10, none⟩ = some (.int .i64 m.Y.y) ∧ w3.cell? ⟨w1.heap.size, 11, none⟩ = some (.int .i64 m.Y.k))) := hmc
  clear hw3 ha hmc hr2 hg2 hgm d0 d1 d2 d3 d4 d5 d6 d7 d8 d9 d10 d11
  go_wp2_with (rw [show ((((((w2.setCell ⟨w1.heap.size, 6, none⟩ (.int .i64 q1)).setCell ⟨w1.heap.size, 7, none⟩ (.int .i64 q2)).setCell ⟨w1.heap.size, 8, none⟩ (.int .i64 q3)).setCell ⟨w1.heap.size, 9, none⟩ (.int .i64 q4)).setCell ⟨w1.heap.size, 10, none⟩ (.int .i64 q5)).setCell ⟨w1.heap.size, 11, none⟩ (.int .i64 q6)) = w3 from HW3.out])
  clear c0 c1 c2 c3 c4 c5 c6 c7 c8 c9 c10 c11 f6 f7 f8 f9 f10 f11
  go_loopw [4] (fun i wr => ∃ j : Nat, j ≤ 9 ∧ i = .int .i64 j ∧ (∃ m : M.Mc, (wr.cell? ⟨w1.heap.size, 0, none⟩ = some (.int .i64 m.X.xx) ∧ wr.cell? ⟨w1.heap.size, 1, none⟩ = some (.int .i64 m.X.xy) ∧ wr.cell? ⟨w1.heap.size, 2, none⟩ = some (.int .i64 m.X.yy) ∧ wr.cell? ⟨w1.heap.size, 3, none⟩ = some (.int .i64 m.X.x) ∧ wr.cell? ⟨w1.heap.size, 4, none⟩ = some (.int .i64 m.X.y) ∧ wr.cell? ⟨w1.heap.size, 5, none⟩ = some (.int .i64 m.X.k) ∧ wr.cell? ⟨w1.heap.size, 6, none⟩ = some (.int .i64 m.Y.xx) ∧ wr.cell? ⟨w1.heap.size, 7, none⟩ = some (.int .i64 m.Y.xy) ∧ wr.cell? ⟨w1.heap.size, 8, none⟩ = some (.int .i64 m.Y.yy) ∧ wr.cell? ⟨w1.heap.size, 9, none⟩ = some (.int .i64 m.Y.x) ∧ wr.cell? ⟨w1.heap.size, 10, none⟩ = some (.int .i64 m.Y.y) ∧ wr.cell? ⟨w1.heap.size, 11, none⟩ = some (.int .i64 m.Y.k))) ∧ (∀ j, wr.frozen? ⟨w1.heap.size, j, none⟩ = false) ∧ (∀ j, j < 12 → wr.cell? ⟨w.heap.size, j, none⟩ = some (.int .i64 0) ∧ wr.frozen? ⟨w.heap.size, j, none⟩ = false) ∧ Rd w0 R a len cap wr ∧ w.grownBy wr (some R) ∧ w1.heap.size < wr.heap.size) (fun i _ => 9 - (intOf i).toNat)
  case atStart => exact ⟨0, by omega, rfl, HMC.out, HF3.out, HZ3.out, HR3.out, HG3.out, by omega⟩
  case round =>
    obtain ⟨j, hj, rfl, ⟨m, c0, c1, c2, c3, c4, c5, c6, c7, c8, c9, c10, c11⟩, hf, hzz, hr, hg, hsz⟩ := hrel
    have HFr : Hid (∀ j, wr.frozen? ⟨w1.heap.size, j, none⟩ = false) := hf
    have HZr : Hid (∀ j, j < 12 → wr.cell? ⟨w.heap.size, j, none⟩ = some (.int .i64 0) ∧ wr.frozen? ⟨w.heap.size, j, none⟩ = false) := hzz
    have HRr : Hid (Rd w0 R a len cap wr) := hr
    have HGr : Hid (w.grownBy wr (some R)) := hg
    have CM := specMachineOk_any m
    clear hf hzz hr hg HMC HF3 HZ3 HR3 HG3
    obtain ⟨⟨a1, b1, e1, d1, f1, k1⟩, ⟨a2, b2, e2, d2, f2, k2⟩⟩ := m
    dsimp only [mcv] at c0 c1 c2 c3 c4 c5 c6 c7 c8 c9 c10 c11 CM
    by_cases hlt : j < 9
    · have hI : (j : Int) < 9 := by omega
      generalize M.Mc.ok ⟨⟨a1, b1, e1, d1, f1, k1⟩, ⟨a2, b2, e2, d2, f2, k2⟩⟩ = ok at CM
      cases ok with
      | true =>
        go_wp2_with fail
        refine (CM _).mono ?_
        rintro e w4 ⟨rfl, hb4⟩
        have HR4 : Hid (Rd w0 R a len cap w4) := HRr.out.grow hb4
        have HG4 : Hid (w.grownBy w4 (some R)) := grown_below HGr.out hb4
        have hs4 : wr.heap.size ≤ w4.heap.size := hb4.size
        have HZ4 : Hid (∀ j, j < 12 → w4.cell? ⟨w.heap.size, j, none⟩ = some (.int .i64 0) ∧ w4.frozen? ⟨w.heap.size, j, none⟩ = false) := fun j hj => ⟨(hb4.cell (p := ⟨w.heap.size, j, none⟩) (by show w.heap.size < _; omega)).trans (HZr.out j hj).1, (frozen_kept hb4 (show w.heap.size < _ by omega)).trans (HZr.out j hj).2⟩
        have HF4 : Hid (∀ j, w4.frozen? ⟨w1.heap.size, j, none⟩ = false) := fun j => (frozen_kept hb4 hsz).trans (HFr.out j)
        have x0 : w4.cell? ⟨w1.heap.size, 0, none⟩ = some (.int .i64 a1) := (hb4.cell (p := ⟨w1.heap.size, 0, none⟩) hsz).trans c0
        have x1 : w4.cell? ⟨w1.heap.size, 1, none⟩ = some (.int .i64 b1) := (hb4.cell (p := ⟨w1.heap.size, 1, none⟩) hsz).trans c1
        have x2 : w4.cell? ⟨w1.heap.size, 2, none⟩ = some (.int .i64 e1) := (hb4.cell (p := ⟨w1.heap.size, 2, none⟩) hsz).trans c2
        have x3 : w4.cell? ⟨w1.heap.size, 3, none⟩ = some (.int .i64 d1) := (hb4.cell (p := ⟨w1.heap.size, 3, none⟩) hsz).trans c3
        have x4 : w4.cell? ⟨w1.heap.size, 4, none⟩ = some (.int .i64 f1) := (hb4.cell (p := ⟨w1.heap.size, 4, none⟩) hsz).trans c4
        have x5 : w4.cell? ⟨w1.heap.size, 5, none⟩ = some (.int .i64 k1) := (hb4.cell (p := ⟨w1.heap.size, 5, none⟩) hsz).trans c5
        have x6 : w4.cell? ⟨w1.heap.size, 6, none⟩ = some (.int .i64 a2) := (hb4.cell (p := ⟨w1.heap.size, 6, none⟩) hsz).trans c6
        have x7 : w4.cell? ⟨w1.heap.size, 7, none⟩ = some (.int .i64 b2) := (hb4.cell (p := ⟨w1.heap.size, 7, none⟩) hsz).trans c7
        have x8 : w4.cell? ⟨w1.heap.size, 8, none⟩ = some (.int .i64 e2) := (hb4.cell (p := ⟨w1.heap.size, 8, none⟩) hsz).trans c8
        have x9 : w4.cell? ⟨w1.heap.size, 9, none⟩ = some (.int .i64 d2) := (hb4.cell (p := ⟨w1.heap.size, 9, none⟩) hsz).trans c9
        have x10 : w4.cell? ⟨w1.heap.size, 10, none⟩ = some (.int .i64 f2) := (hb4.cell (p := ⟨w1.heap.size, 10, none⟩) hsz).trans c10
        have x11 : w4.cell? ⟨w1.heap.size, 11, none⟩ = some (.int .i64 k2) := (hb4.cell (p := ⟨w1.heap.size, 11, none⟩) hsz).trans c11
        clear hb4 c0 c1 c2 c3 c4 c5 c6 c7 c8 c9 c10 c11
        have s0 := (HZ4.out 0 (by omega)).1
        have t0 := (HZ4.out 0 (by omega)).2
        have s1 := (HZ4.out 1 (by omega)).1
        have t1 := (HZ4.out 1 (by omega)).2
        have s2 := (HZ4.out 2 (by omega)).1
        have t2 := (HZ4.out 2 (by omega)).2
        have s3 := (HZ4.out 3 (by omega)).1
        have t3 := (HZ4.out 3 (by omega)).2
        have s4 := (HZ4.out 4 (by omega)).1
        have t4 := (HZ4.out 4 (by omega)).2
        have s5 := (HZ4.out 5 (by omega)).1
        have t5 := (HZ4.out 5 (by omega)).2
        have s6 := (HZ4.out 6 (by omega)).1
        have t6 := (HZ4.out 6 (by omega)).2
        have s7 := (HZ4.out 7 (by omega)).1
        have t7 := (HZ4.out 7 (by omega)).2
        have s8 := (HZ4.out 8 (by omega)).1
        have t8 := (HZ4.out 8 (by omega)).2
        have s9 := (HZ4.out 9 (by omega)).1
        have t9 := (HZ4.out 9 (by omega)).2
        have s10 := (HZ4.out 10 (by omega)).1
        have t10 := (HZ4.out 10 (by omega)).2
        have s11 := (HZ4.out 11 (by omega)).1
        have t11 := (HZ4.out 11 (by omega)).2
        obtain ⟨wz, hwz⟩ : ∃ u, u = sets w4 w.heap.size 0 [.int .i64 a1, .int .i64 b1, .int .i64 e1, .int .i64 d1, .int .i64 f1, .int .i64 k1, .int .i64 a2, .int .i64 b2, .int .i64 e2, .int .i64 d2, .int .i64 f2, .int .i64 k2] := ⟨_, rfl⟩
        have ha := sets_at w.heap.size [Value.int .i64 a1, .int .i64 b1, .int .i64 e1, .int .i64 d1, .int .i64 f1, .int .i64 k1, .int .i64 a2, .int .i64 b2, .int .i64 e2, .int .i64 d2, .int .i64 f2, .int .i64 k2] w4 0 (fun j hj => by
          match j, hj with
          | 0, _ => exact ⟨_, s0⟩
          | 1, _ => exact ⟨_, s1⟩
          | 2, _ => exact ⟨_, s2⟩
          | 3, _ => exact ⟨_, s3⟩
          | 4, _ => exact ⟨_, s4⟩
          | 5, _ => exact ⟨_, s5⟩
          | 6, _ => exact ⟨_, s6⟩
          | 7, _ => exact ⟨_, s7⟩
          | 8, _ => exact ⟨_, s8⟩
          | 9, _ => exact ⟨_, s9⟩
          | 10, _ => exact ⟨_, s10⟩
          | 11, _ => exact ⟨_, s11⟩)
        rw [← hwz] at ha
        have z0 : wz.cell? ⟨w.heap.size, 0, none⟩ = some (.int .i64 a1) := by simpa using ha 0 _ rfl
        have z1 : wz.cell? ⟨w.heap.size, 1, none⟩ = some (.int .i64 b1) := by simpa using ha 1 _ rfl
        have z2 : wz.cell? ⟨w.heap.size, 2, none⟩ = some (.int .i64 e1) := by simpa using ha 2 _ rfl
        have z3 : wz.cell? ⟨w.heap.size, 3, none⟩ = some (.int .i64 d1) := by simpa using ha 3 _ rfl
        have z4 : wz.cell? ⟨w.heap.size, 4, none⟩ = some (.int .i64 f1) := by simpa using ha 4 _ rfl
        have z5 : wz.cell? ⟨w.heap.size, 5, none⟩ = some (.int .i64 k1) := by simpa using ha 5 _ rfl
        have z6 : wz.cell? ⟨w.heap.size, 6, none⟩ = some (.int .i64 a2) := by simpa using ha 6 _ rfl
        have z7 : wz.cell? ⟨w.heap.size, 7, none⟩ = some (.int .i64 b2) := by simpa using ha 7 _ rfl
        have z8 : wz.cell? ⟨w.heap.size, 8, none⟩ = some (.int .i64 e2) := by simpa using ha 8 _ rfl
        have z9 : wz.cell? ⟨w.heap.size, 9, none⟩ = some (.int .i64 d2) := by simpa using ha 9 _ rfl
        have z10 : wz.cell? ⟨w.heap.size, 10, none⟩ = some (.int .i64 f2) := by simpa using ha 10 _ rfl
        have z11 : wz.cell? ⟨w.heap.size, 11, none⟩ = some (.int .i64 k2) := by simpa using ha 11 _ rfl
        have HRz : Hid (Rd w0 R a len cap wz) := by show Rd _ _ _ _ _ _; rw [hwz]; exact Rd.sets (by omega) (by omega) _ _ _ HR4.out
        have HGz : Hid (w.grownBy wz (some R)) := by show World.grownBy _ _ _; rw [hwz]; exact grown_sets HG4.out (Nat.le_refl _) _ _
        have HWz : Hid (sets w4 w.heap.size 0 [.int .i64 a1, .int .i64 b1, .int .i64 e1, .int .i64 d1, .int .i64 f1, .int .i64 k1, .int .i64 a2, .int .i64 b2, .int .i64 e2, .int .i64 d2, .int .i64 f2, .int .i64 k2] = wz) := hwz.symm
        clear hwz ha
        go_wp2_with (rw [show ((((((((((((w4.setCell ⟨w.heap.size, 0, none⟩ (.int .i64 a1)).setCell ⟨w.heap.size, 1, none⟩ (.int .i64 b1)).setCell ⟨w.heap.size, 2, none⟩ (.int .i64 e1)).setCell ⟨w.heap.size, 3, none⟩ (.int .i64 d1)).setCell ⟨w.heap.size, 4, none⟩ (.int .i64 f1)).setCell ⟨w.heap.size, 5, none⟩ (.int .i64 k1)).setCell ⟨w.heap.size, 6, none⟩ (.int .i64 a2)).setCell ⟨w.heap.size, 7, none⟩ (.int .i64 b2)).setCell ⟨w.heap.size, 8, none⟩ (.int .i64 e2)).setCell ⟨w.heap.size, 9, none⟩ (.int .i64 d2)).setCell ⟨w.heap.size, 10, none⟩ (.int .i64 f2)).setCell ⟨w.heap.size, 11, none⟩ (.int .i64 k2)) = wz from HWz.out])
        refine bodyPost_ret (v := .agg #[.int .i64 a1, .int .i64 b1, .int .i64 e1, .int .i64 d1, .int .i64 f1, .int .i64 k1, .int .i64 a2, .int .i64 b2, .int .i64 e2, .int .i64 d2, .int .i64 f2, .int .i64 k2]) (by simp [results, Try.results23, go_sem, z0, z1, z2, z3, z4, z5, z6, z7, z8, z9, z10, z11]) rfl ⟨⟨⟨a1, b1, e1, d1, f1, k1⟩, ⟨a2, b2, e2, d2, f2, k2⟩⟩, rfl, HRz.out, HGz.out⟩
      | false =>
        go_wp2_with fail
        refine (CM _).mono ?_
        rintro e w4 ⟨rfl, hb4⟩
        have HR4 : Hid (Rd w0 R a len cap w4) := HRr.out.grow hb4
        have HG4 : Hid (w.grownBy w4 (some R)) := grown_below HGr.out hb4
        have hs4 : wr.heap.size ≤ w4.heap.size := hb4.size
        have HZ4 : Hid (∀ j, j < 12 → w4.cell? ⟨w.heap.size, j, none⟩ = some (.int .i64 0) ∧ w4.frozen? ⟨w.heap.size, j, none⟩ = false) := fun j hj => ⟨(hb4.cell (p := ⟨w.heap.size, j, none⟩) (by show w.heap.size < _; omega)).trans (HZr.out j hj).1, (frozen_kept hb4 (show w.heap.size < _ by omega)).trans (HZr.out j hj).2⟩
        have HF4 : Hid (∀ j, w4.frozen? ⟨w1.heap.size, j, none⟩ = false) := fun j => (frozen_kept hb4 hsz).trans (HFr.out j)
        have x0 : w4.cell? ⟨w1.heap.size, 0, none⟩ = some (.int .i64 a1) := (hb4.cell (p := ⟨w1.heap.size, 0, none⟩) hsz).trans c0
        have x1 : w4.cell? ⟨w1.heap.size, 1, none⟩ = some (.int .i64 b1) := (hb4.cell (p := ⟨w1.heap.size, 1, none⟩) hsz).trans c1
        have x2 : w4.cell? ⟨w1.heap.size, 2, none⟩ = some (.int .i64 e1) := (hb4.cell (p := ⟨w1.heap.size, 2, none⟩) hsz).trans c2
        have x3 : w4.cell? ⟨w1.heap.size, 3, none⟩ = some (.int .i64 d1) := (hb4.cell (p := ⟨w1.heap.size, 3, none⟩) hsz).trans c3
        have x4 : w4.cell? ⟨w1.heap.size, 4, none⟩ = some (.int .i64 f1) := (hb4.cell (p := ⟨w1.heap.size, 4, none⟩) hsz).trans c4
        have x5 : w4.cell? ⟨w1.heap.size, 5, none⟩ = some (.int .i64 k1) := (hb4.cell (p := ⟨w1.heap.size, 5, none⟩) hsz).trans c5
        have x6 : w4.cell? ⟨w1.heap.size, 6, none⟩ = some (.int .i64 a2) := (hb4.cell (p := ⟨w1.heap.size, 6, none⟩) hsz).trans c6
        have x7 : w4.cell? ⟨w1.heap.size, 7, none⟩ = some (.int .i64 b2) := (hb4.cell (p := ⟨w1.heap.size, 7, none⟩) hsz).trans c7
        have x8 : w4.cell? ⟨w1.heap.size, 8, none⟩ = some (.int .i64 e2) := (hb4.cell (p := ⟨w1.heap.size, 8, none⟩) hsz).trans c8
        have x9 : w4.cell? ⟨w1.heap.size, 9, none⟩ = some (.int .i64 d2) := (hb4.cell (p := ⟨w1.heap.size, 9, none⟩) hsz).trans c9
        have x10 : w4.cell? ⟨w1.heap.size, 10, none⟩ = some (.int .i64 f2) := (hb4.cell (p := ⟨w1.heap.size, 10, none⟩) hsz).trans c10
        have x11 : w4.cell? ⟨w1.heap.size, 11, none⟩ = some (.int .i64 k2) := (hb4.cell (p := ⟨w1.heap.size, 11, none⟩) hsz).trans c11
        clear hb4 c0 c1 c2 c3 c4 c5 c6 c7 c8 c9 c10 c11
        have g0 := HF4.out 0
        have g1 := HF4.out 1
        have g2 := HF4.out 2
        have g3 := HF4.out 3
        have g4 := HF4.out 4
        have g5 := HF4.out 5
        have g6 := HF4.out 6
        have g7 := HF4.out 7
        have g8 := HF4.out 8
        have g9 := HF4.out 9
        have g10 := HF4.out 10
        have g11 := HF4.out 11
        obtain ⟨w5, hw5⟩ : ∃ u, u = sets w4 w1.heap.size 0 [.int .i64 0, .int .i64 0, .int .i64 0, .int .i64 0, .int .i64 1, .int .i64 0, .int .i64 0, .int .i64 0, .int .i64 0, .int .i64 1, .int .i64 ((j : Int) + 1), .int .i64 0] := ⟨_, rfl⟩
        have ha := sets_at w1.heap.size [Value.int .i64 0, .int .i64 0, .int .i64 0, .int .i64 0, .int .i64 1, .int .i64 0, .int .i64 0, .int .i64 0, .int .i64 0, .int .i64 1, .int .i64 ((j : Int) + 1), .int .i64 0] w4 0 (fun j hj => by
          match j, hj with
          | 0, _ => exact ⟨_, x0⟩
          | 1, _ => exact ⟨_, x1⟩
          | 2, _ => exact ⟨_, x2⟩
          | 3, _ => exact ⟨_, x3⟩
          | 4, _ => exact ⟨_, x4⟩
          | 5, _ => exact ⟨_, x5⟩
          | 6, _ => exact ⟨_, x6⟩
          | 7, _ => exact ⟨_, x7⟩
          | 8, _ => exact ⟨_, x8⟩
          | 9, _ => exact ⟨_, x9⟩
          | 10, _ => exact ⟨_, x10⟩
          | 11, _ => exact ⟨_, x11⟩)
        rw [← hw5] at ha
        have HMC5 : Hid (∃ m : M.Mc, (w5.cell? ⟨w1.heap.size, 0, none⟩ = some (.int .i64 m.X.xx) ∧ w5.cell? ⟨w1.heap.size, 1, none⟩ = some (.int .i64 m.X.xy) ∧ w5.cell? ⟨w1.heap.size, 2, none⟩ = some (.int .i64 m.X.yy) ∧ w5.cell? ⟨w1.heap.size, 3, none⟩ = some (.int .i64 m.X.x) ∧ w5.cell? ⟨w1.heap.size, 4, none⟩ = some (.int .i64 m.X.y) ∧ w5.cell? ⟨w1.heap.size, 5, none⟩ = some (.int .i64 m.X.k) ∧ w5.cell? ⟨w1.heap.size, 6, none⟩ = some (.int .i64 m.Y.xx) ∧ w5.cell? ⟨w1.heap.size, 7, none⟩ = some (.int .i64 m.Y.xy) ∧ w5.cell? ⟨w1.heap.size, 8, none⟩ = some (.int .i64 m.Y.yy) ∧ w5.cell? ⟨w1.heap.size, 9, none⟩ = some (.int .i64 m.Y.x) ∧ w5.cell? ⟨w1.heap.size, 10, none⟩ = some (.int .i64 m.Y.y) ∧ w5.cell? ⟨w1.heap.size, 11, none⟩ = some (.int .i64 m.Y.k))) := ⟨⟨⟨0, 0, 0, 0, 1, 0⟩, ⟨0, 0, 0, 1, (j : Int) + 1, 0⟩⟩, by simpa using ha 0 _ rfl, by simpa using ha 1 _ rfl, by simpa using ha 2 _ rfl, by simpa using ha 3 _ rfl, by simpa using ha 4 _ rfl, by simpa using ha 5 _ rfl, by simpa using ha 6 _ rfl, by simpa using ha 7 _ rfl, by simpa using ha 8 _ rfl, by simpa using ha 9 _ rfl, by simpa using ha 10 _ rfl, by simpa using ha 11 _ rfl⟩
        have HR5 : Hid (Rd w0 R a len cap w5) := by show Rd _ _ _ _ _ _; rw [hw5]; exact Rd.sets (by omega) (by omega) _ _ _ HR4.out
        have HG5 : Hid (w.grownBy w5 (some R)) := by show World.grownBy _ _ _; rw [hw5]; exact grown_sets HG4.out (by omega) _ _
        have HZ5 : Hid (∀ j, j < 12 → w5.cell? ⟨w.heap.size, j, none⟩ = some (.int .i64 0) ∧ w5.frozen? ⟨w.heap.size, j, none⟩ = false) := fun j hj => by rw [hw5]; exact ⟨(sets_far _ (show w.heap.size ≠ w1.heap.size by omega) _ _ _).trans (HZ4.out j hj).1, (sets_frozen _ _ _ _ _).trans (HZ4.out j hj).2⟩
        have HF5 : Hid (∀ j, w5.frozen? ⟨w1.heap.size, j, none⟩ = false) := fun j => by rw [hw5, sets_frozen]; exact HF4.out j
        have HS5 : Hid (w1.heap.size < w5.heap.size) := by show _ < _; rw [hw5, sets_size]; omega
        have HW5 : Hid (sets w4 w1.heap.size 0 [.int .i64 0, .int .i64 0, .int .i64 0, .int .i64 0, .int .i64 1, .int .i64 0, .int .i64 0, .int .i64 0, .int .i64 0, .int .i64 1, .int .i64 ((j : Int) + 1), .int .i64 0] = w5) := hw5.symm
        clear hw5 ha
        go_wp2_with (rw [show ((((((((((((w4.setCell ⟨w1.heap.size, 0, none⟩ (.int .i64 0)).setCell ⟨w1.heap.size, 1, none⟩ (.int .i64 0)).setCell ⟨w1.heap.size, 2, none⟩ (.int .i64 0)).setCell ⟨w1.heap.size, 3, none⟩ (.int .i64 0)).setCell ⟨w1.heap.size, 4, none⟩ (.int .i64 1)).setCell ⟨w1.heap.size, 5, none⟩ (.int .i64 0)).setCell ⟨w1.heap.size, 6, none⟩ (.int .i64 0)).setCell ⟨w1.heap.size, 7, none⟩ (.int .i64 0)).setCell ⟨w1.heap.size, 8, none⟩ (.int .i64 0)).setCell ⟨w1.heap.size, 9, none⟩ (.int .i64 1)).setCell ⟨w1.heap.size, 10, none⟩ (.int .i64 ((j : Int) + 1))).setCell ⟨w1.heap.size, 11, none⟩ (.int .i64 0)) = w5 from HW5.out])
        go_roundw
        case rel => exact ⟨j + 1, by omega, by go_num, HMC5.out, HF5.out, HZ5.out, HR5.out, HG5.out, HS5.out⟩
        case measure => simp [intOf]; omega
    · have hj9 : j = 9 := by omega
      subst hj9
      have s0 := (HZr.out 0 (by omega)).1
      have t0 := (HZr.out 0 (by omega)).2
      have s1 := (HZr.out 1 (by omega)).1
      have t1 := (HZr.out 1 (by omega)).2
      have s2 := (HZr.out 2 (by omega)).1
      have t2 := (HZr.out 2 (by omega)).2
      have s3 := (HZr.out 3 (by omega)).1
      have t3 := (HZr.out 3 (by omega)).2
      have s4 := (HZr.out 4 (by omega)).1
      have t4 := (HZr.out 4 (by omega)).2
      have s5 := (HZr.out 5 (by omega)).1
      have t5 := (HZr.out 5 (by omega)).2
      have s6 := (HZr.out 6 (by omega)).1
      have t6 := (HZr.out 6 (by omega)).2
      have s7 := (HZr.out 7 (by omega)).1
      have t7 := (HZr.out 7 (by omega)).2
      have s8 := (HZr.out 8 (by omega)).1
      have t8 := (HZr.out 8 (by omega)).2
      have s9 := (HZr.out 9 (by omega)).1
      have t9 := (HZr.out 9 (by omega)).2
      have s10 := (HZr.out 10 (by omega)).1
      have t10 := (HZr.out 10 (by omega)).2
      have s11 := (HZr.out 11 (by omega)).1
      have t11 := (HZr.out 11 (by omega)).2
      obtain ⟨wz, hwz⟩ : ∃ u, u = sets wr w.heap.size 0 [.int .i64 a1, .int .i64 b1, .int .i64 e1, .int .i64 d1, .int .i64 f1, .int .i64 k1, .int .i64 a2, .int .i64 b2, .int .i64 e2, .int .i64 d2, .int .i64 f2, .int .i64 k2] := ⟨_, rfl⟩
      have ha := sets_at w.heap.size [Value.int .i64 a1, .int .i64 b1, .int .i64 e1, .int .i64 d1, .int .i64 f1, .int .i64 k1, .int .i64 a2, .int .i64 b2, .int .i64 e2, .int .i64 d2, .int .i64 f2, .int .i64 k2] wr 0 (fun j hj => by
        match j, hj with
        | 0, _ => exact ⟨_, s0⟩
        | 1, _ => exact ⟨_, s1⟩
        | 2, _ => exact ⟨_, s2⟩
        | 3, _ => exact ⟨_, s3⟩
        | 4, _ => exact ⟨_, s4⟩
        | 5, _ => exact ⟨_, s5⟩
        | 6, _ => exact ⟨_, s6⟩
        | 7, _ => exact ⟨_, s7⟩
        | 8, _ => exact ⟨_, s8⟩
        | 9, _ => exact ⟨_, s9⟩
        | 10, _ => exact ⟨_, s10⟩
        | 11, _ => exact ⟨_, s11⟩)
      rw [← hwz] at ha
      have z0 : wz.cell? ⟨w.heap.size, 0, none⟩ = some (.int .i64 a1) := by simpa using ha 0 _ rfl
      have z1 : wz.cell? ⟨w.heap.size, 1, none⟩ = some (.int .i64 b1) := by simpa using ha 1 _ rfl
      have z2 : wz.cell? ⟨w.heap.size, 2, none⟩ = some (.int .i64 e1) := by simpa using ha 2 _ rfl
      have z3 : wz.cell? ⟨w.heap.size, 3, none⟩ = some (.int .i64 d1) := by simpa using ha 3 _ rfl
      have z4 : wz.cell? ⟨w.heap.size, 4, none⟩ = some (.int .i64 f1) := by simpa using ha 4 _ rfl
      have z5 : wz.cell? ⟨w.heap.size, 5, none⟩ = some (.int .i64 k1) := by simpa using ha 5 _ rfl
      have z6 : wz.cell? ⟨w.heap.size, 6, none⟩ = some (.int .i64 a2) := by simpa using ha 6 _ rfl
      have z7 : wz.cell? ⟨w.heap.size, 7, none⟩ = some (.int .i64 b2) := by simpa using ha 7 _ rfl
      have z8 : wz.cell? ⟨w.heap.size, 8, none⟩ = some (.int .i64 e2) := by simpa using ha 8 _ rfl
      have z9 : wz.cell? ⟨w.heap.size, 9, none⟩ = some (.int .i64 d2) := by simpa using ha 9 _ rfl
      have z10 : wz.cell? ⟨w.heap.size, 10, none⟩ = some (.int .i64 f2) := by simpa using ha 10 _ rfl
      have z11 : wz.cell? ⟨w.heap.size, 11, none⟩ = some (.int .i64 k2) := by simpa using ha 11 _ rfl
      have HRz : Hid (Rd w0 R a len cap wz) := by show Rd _ _ _ _ _ _; rw [hwz]; exact Rd.sets (by omega) (by omega) _ _ _ HRr.out
      have HGz : Hid (w.grownBy wz (some R)) := by show World.grownBy _ _ _; rw [hwz]; exact grown_sets HGr.out (Nat.le_refl _) _ _
      have HWz : Hid (sets wr w.heap.size 0 [.int .i64 a1, .int .i64 b1, .int .i64 e1, .int .i64 d1, .int .i64 f1, .int .i64 k1, .int .i64 a2, .int .i64 b2, .int .i64 e2, .int .i64 d2, .int .i64 f2, .int .i64 k2] = wz) := hwz.symm
      clear hwz ha
      go_wp2_with (rw [show ((((((((((((wr.setCell ⟨w.heap.size, 0, none⟩ (.int .i64 a1)).setCell ⟨w.heap.size, 1, none⟩ (.int .i64 b1)).setCell ⟨w.heap.size, 2, none⟩ (.int .i64 e1)).setCell ⟨w.heap.size, 3, none⟩ (.int .i64 d1)).setCell ⟨w.heap.size, 4, none⟩ (.int .i64 f1)).setCell ⟨w.heap.size, 5, none⟩ (.int .i64 k1)).setCell ⟨w.heap.size, 6, none⟩ (.int .i64 a2)).setCell ⟨w.heap.size, 7, none⟩ (.int .i64 b2)).setCell ⟨w.heap.size, 8, none⟩ (.int .i64 e2)).setCell ⟨w.heap.size, 9, none⟩ (.int .i64 d2)).setCell ⟨w.heap.size, 10, none⟩ (.int .i64 f2)).setCell ⟨w.heap.size, 11, none⟩ (.int .i64 k2)) = wz from HWz.out])
      refine bodyPost_ret (v := .agg #[.int .i64 a1, .int .i64 b1, .int .i64 e1, .int .i64 d1, .int .i64 f1, .int .i64 k1, .int .i64 a2, .int .i64 b2, .int .i64 e2, .int .i64 d2, .int .i64 f2, .int .i64 k2]) (by simp [results, Try.results23, go_sem, z0, z1, z2, z3, z4, z5, z6, z7, z8, z9, z10, z11]) rfl ⟨⟨⟨a1, b1, e1, d1, f1, k1⟩, ⟨a2, b2, e2, d2, f2, k2⟩⟩, rfl, HRz.out, HGz.out⟩
end Go.Proofs.Ytjibpapjfdjecac
