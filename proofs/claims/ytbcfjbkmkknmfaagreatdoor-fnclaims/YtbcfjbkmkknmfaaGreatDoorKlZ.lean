/- What DrawProved draws: some machine, some state, some number. FnComplete: the walk. A drawn proof: some proof, whose lists lie in blocks of their own. What DrawRowsOf draws: some proof. -/
import Derived.Test.YtbcfjbkmkknmfaaGreatDoorKlY
import Derived.Test.YtbcfjbkmkknmfaaGreatDoorAcC
namespace Go.Proofs.YtbcfjbkmkknmfaaGreatDoor
open Go.RowKit

theorem wrapR (x : Int) : -9223372036854775808 ≤ IntKind.i64.wrap x ∧ IntKind.i64.wrap x ≤ 9223372036854775807 := by rw [IntKind.wrap_i64]; omega
set_option maxHeartbeats 16000000 in
set_option maxRecDepth 10000 in
theorem drawProved_any {a : Option Addr} {len cap : Nat} {zs : List Int} (w : World) (hrow : Row .u8 w a len cap zs) :
    Calls Tryz.prog 8 #[.slice a len cap] w fun e w' => ∃ (m : M.Mc) (s : Int × Int) (n : Int), e = .returned (.tuple #[mcv m, stv s, .int .i64 n]) ∧ -9223372036854775808 ≤ n ∧ n ≤ 9223372036854775807 ∧ Below w.heap.size w w' := by
  have hbw : Below w.heap.size w ((w.alloc (.cells #[.int .i64 0, .int .i64 0, .int .i64 0, .int .i64 0, .int .i64 0, .int .i64 0, .int .i64 0, .int .i64 0, .int .i64 0, .int .i64 0, .int .i64 0, .int .i64 0] 27)).alloc (.cells #[.int .i64 0, .int .i64 0] 29)) := ((Below.refl _ _).alloc (Nat.le_refl _) _).alloc (by simp) _
  have HRw : Hid (Row .u8 ((w.alloc (.cells #[.int .i64 0, .int .i64 0, .int .i64 0, .int .i64 0, .int .i64 0, .int .i64 0, .int .i64 0, .int .i64 0, .int .i64 0, .int .i64 0, .int .i64 0, .int .i64 0] 27)).alloc (.cells #[.int .i64 0, .int .i64 0] 29)) a len cap zs) := hrow.below2 hbw
  have HBW : Hid (Below w.heap.size w ((w.alloc (.cells #[.int .i64 0, .int .i64 0, .int .i64 0, .int .i64 0, .int .i64 0, .int .i64 0, .int .i64 0, .int .i64 0, .int .i64 0, .int .i64 0, .int .i64 0, .int .i64 0] 27)).alloc (.cells #[.int .i64 0, .int .i64 0] 29))) := hbw
  have HZ : Hid (∀ j, (j < 12 → ((w.alloc (.cells #[.int .i64 0, .int .i64 0, .int .i64 0, .int .i64 0, .int .i64 0, .int .i64 0, .int .i64 0, .int .i64 0, .int .i64 0, .int .i64 0, .int .i64 0, .int .i64 0] 27)).alloc (.cells #[.int .i64 0, .int .i64 0] 29)).cell? ⟨w.heap.size, j, none⟩ = some (.int .i64 0)) ∧ (j < 2 → ((w.alloc (.cells #[.int .i64 0, .int .i64 0, .int .i64 0, .int .i64 0, .int .i64 0, .int .i64 0, .int .i64 0, .int .i64 0, .int .i64 0, .int .i64 0, .int .i64 0, .int .i64 0] 27)).alloc (.cells #[.int .i64 0, .int .i64 0] 29)).cell? ⟨w.heap.size + 1, j, none⟩ = some (.int .i64 0)) ∧ ((w.alloc (.cells #[.int .i64 0, .int .i64 0, .int .i64 0, .int .i64 0, .int .i64 0, .int .i64 0, .int .i64 0, .int .i64 0, .int .i64 0, .int .i64 0, .int .i64 0, .int .i64 0] 27)).alloc (.cells #[.int .i64 0, .int .i64 0] 29)).frozen? ⟨w.heap.size, j, none⟩ = false ∧ ((w.alloc (.cells #[.int .i64 0, .int .i64 0, .int .i64 0, .int .i64 0, .int .i64 0, .int .i64 0, .int .i64 0, .int .i64 0, .int .i64 0, .int .i64 0, .int .i64 0, .int .i64 0] 27)).alloc (.cells #[.int .i64 0, .int .i64 0] 29)).frozen? ⟨w.heap.size + 1, j, none⟩ = false) := fun j => by
    have e1 : (w.alloc (.cells #[.int .i64 0, .int .i64 0, .int .i64 0, .int .i64 0, .int .i64 0, .int .i64 0, .int .i64 0, .int .i64 0, .int .i64 0, .int .i64 0, .int .i64 0, .int .i64 0] 27)).heap.size = w.heap.size + 1 := by simp
    have h1 := World.cell?_alloc_new (w.alloc (.cells #[.int .i64 0, .int .i64 0, .int .i64 0, .int .i64 0, .int .i64 0, .int .i64 0, .int .i64 0, .int .i64 0, .int .i64 0, .int .i64 0, .int .i64 0, .int .i64 0] 27)) #[.int .i64 0, .int .i64 0] 29 j
    rw [e1] at h1
    have h0 := (World.cell?_alloc_lt (w := w.alloc (.cells #[.int .i64 0, .int .i64 0, .int .i64 0, .int .i64 0, .int .i64 0, .int .i64 0, .int .i64 0, .int .i64 0, .int .i64 0, .int .i64 0, .int .i64 0, .int .i64 0] 27)) (o := .cells #[.int .i64 0, .int .i64 0] 29) (a := ⟨w.heap.size, j, none⟩) (h := by simp)).trans (World.cell?_alloc_new w #[.int .i64 0, .int .i64 0, .int .i64 0, .int .i64 0, .int .i64 0, .int .i64 0, .int .i64 0, .int .i64 0, .int .i64 0, .int .i64 0, .int .i64 0, .int .i64 0] 27 j)
    refine ⟨fun h => h0.trans (zero12 h), fun h => h1.trans (two2 h), ?_, ?_⟩
    · rw [frozen?_alloc_cells]; exact frozen_one _ _ _ _
    · rw [frozen?_alloc_cells, frozen?_alloc_cells]; simp only [World.frozen?]; rw [Array.getElem?_eq_none (by omega)]
  have HSW : Hid (((w.alloc (.cells #[.int .i64 0, .int .i64 0, .int .i64 0, .int .i64 0, .int .i64 0, .int .i64 0, .int .i64 0, .int .i64 0, .int .i64 0, .int .i64 0, .int .i64 0, .int .i64 0] 27)).alloc (.cells #[.int .i64 0, .int .i64 0] 29)).heap.size = w.heap.size + 1 + 1) := by show _ = _; simp
  clear hbw hrow
  go_enter Tryz.func8, Tryz.ntmps8
  go_wp2_with fail
  refine (open_any _).mono ?_
  rintro e w1 ⟨rfl, hr1⟩
  have hsw := HSW.out
  rw [hsw]
  rw [hsw] at hr1
  generalize ((w.alloc (.cells #[.int .i64 0, .int .i64 0, .int .i64 0, .int .i64 0, .int .i64 0, .int .i64 0, .int .i64 0, .int .i64 0, .int .i64 0, .int .i64 0, .int .i64 0, .int .i64 0] 27)).alloc (.cells #[.int .i64 0, .int .i64 0] 29)) = wb at hr1 HRw HBW HZ hsw
  have HR1 : Hid (Rd wb (w.heap.size + 1 + 1) a len cap w1) := hr1
  have hs1 := hr1.hi
  have HB1 : Hid (Below wb.heap.size wb w1) := hr1.below
  have HSZ : Hid (wb.heap.size = w.heap.size + 1 + 1) := hsw
  clear hr1 hsw HSW
  go_wp2_with fail
  refine (machineR_any HRw.out _ HR1.out).mono ?_
  rintro e w2 ⟨⟨⟨a1, b1, e1, d1, f1, k1⟩, ⟨a2, b2, e2, d2, f2, k2⟩⟩, rfl, hr2, hg2⟩
  dsimp only [mcv]
  have HR2 : Hid (Rd wb (w.heap.size + 1 + 1) a len cap w2) := hr2
  have hs2 : w1.heap.size ≤ w2.heap.size := hg2.size
  clear hr2 hg2
  go_wp2_with fail
  refine (stateR_any HRw.out _ (HR2.out.alloc _)).mono ?_
  rintro e w3 ⟨⟨x, y⟩, rfl, hr3, hg3⟩
  dsimp only [stv]
  have HR3 : Hid (Rd wb (w.heap.size + 1 + 1) a len cap w3) := hr3
  have hs3 : w2.heap.size + 1 ≤ w3.heap.size := by have := hg3.size; simpa using this
  have HM3 : Hid (∀ j, w3.cell? ⟨w2.heap.size, j, none⟩ = (#[.int .i64 a1, .int .i64 b1, .int .i64 e1, .int .i64 d1, .int .i64 f1, .int .i64 k1, .int .i64 a2, .int .i64 b2, .int .i64 e2, .int .i64 d2, .int .i64 f2, .int .i64 k2] : Array Value)[j]?) := fun j => by
    by_cases hj : j < 12
    · have h := World.cell?_alloc_new w2 #[.int .i64 a1, .int .i64 b1, .int .i64 e1, .int .i64 d1, .int .i64 f1, .int .i64 k1, .int .i64 a2, .int .i64 b2, .int .i64 e2, .int .i64 d2, .int .i64 f2, .int .i64 k2] 27 j
      rw [Array.getElem?_eq_getElem (by simpa using hj)] at h ⊢
      exact hg3.cell h (by simp; omega)
    · have hb : w3.heap[w2.heap.size]? = (w2.alloc (.cells #[.int .i64 a1, .int .i64 b1, .int .i64 e1, .int .i64 d1, .int .i64 f1, .int .i64 k1, .int .i64 a2, .int .i64 b2, .int .i64 e2, .int .i64 d2, .int .i64 f2, .int .i64 k2] 27)).heap[w2.heap.size]? := hg3.block _ (by simp) (by simp; omega)
      have h := World.cell?_alloc_new w2 #[.int .i64 a1, .int .i64 b1, .int .i64 e1, .int .i64 d1, .int .i64 f1, .int .i64 k1, .int .i64 a2, .int .i64 b2, .int .i64 e2, .int .i64 d2, .int .i64 f2, .int .i64 k2] 27 j
      simp only [World.cell?] at h ⊢
      rw [hb]; exact h
  clear hr3 hg3
  go_wp2_with fail
  refine (once_any HRw.out 12 (by omega) (by omega) _ (HR3.out.alloc _)).mono ?_
  rintro e w4 ⟨ob, rfl, hr4, hg4⟩
  have HR4 : Hid (Rd wb (w.heap.size + 1 + 1) a len cap w4) := hr4
  have hs4 : w3.heap.size + 1 ≤ w4.heap.size := by have := hg4.size; simpa using this
  have hgm : w3.grownBy w4 (some (w.heap.size + 1 + 1)) := grown_alloc2 hg4
  have HB4 : Hid (Below wb.heap.size wb w4) := hr4.below

  have HK : Hid (∀ W, w4.grownBy W (some (w.heap.size + 1 + 1)) → Rd wb (w.heap.size + 1 + 1) a len cap W → (W.cell? ⟨w2.heap.size, 0, none⟩ = some (.int .i64 a1) ∧ W.cell? ⟨w2.heap.size, 1, none⟩ = some (.int .i64 b1) ∧ W.cell? ⟨w2.heap.size, 2, none⟩ = some (.int .i64 e1) ∧ W.cell? ⟨w2.heap.size, 3, none⟩ = some (.int .i64 d1) ∧ W.cell? ⟨w2.heap.size, 4, none⟩ = some (.int .i64 f1) ∧ W.cell? ⟨w2.heap.size, 5, none⟩ = some (.int .i64 k1) ∧ W.cell? ⟨w2.heap.size, 6, none⟩ = some (.int .i64 a2) ∧ W.cell? ⟨w2.heap.size, 7, none⟩ = some (.int .i64 b2) ∧ W.cell? ⟨w2.heap.size, 8, none⟩ = some (.int .i64 e2) ∧ W.cell? ⟨w2.heap.size, 9, none⟩ = some (.int .i64 d2) ∧ W.cell? ⟨w2.heap.size, 10, none⟩ = some (.int .i64 f2) ∧ W.cell? ⟨w2.heap.size, 11, none⟩ = some (.int .i64 k2) ∧ W.cell? ⟨w3.heap.size, 0, none⟩ = some (.int .i64 x) ∧ W.cell? ⟨w3.heap.size, 1, none⟩ = some (.int .i64 y)) ∧ (W.cell? ⟨w.heap.size, 0, none⟩ = some (.int .i64 0) ∧ W.cell? ⟨w.heap.size, 1, none⟩ = some (.int .i64 0) ∧ W.cell? ⟨w.heap.size, 2, none⟩ = some (.int .i64 0) ∧ W.cell? ⟨w.heap.size, 3, none⟩ = some (.int .i64 0) ∧ W.cell? ⟨w.heap.size, 4, none⟩ = some (.int .i64 0) ∧ W.cell? ⟨w.heap.size, 5, none⟩ = some (.int .i64 0) ∧ W.cell? ⟨w.heap.size, 6, none⟩ = some (.int .i64 0) ∧ W.cell? ⟨w.heap.size, 7, none⟩ = some (.int .i64 0) ∧ W.cell? ⟨w.heap.size, 8, none⟩ = some (.int .i64 0) ∧ W.cell? ⟨w.heap.size, 9, none⟩ = some (.int .i64 0) ∧ W.cell? ⟨w.heap.size, 10, none⟩ = some (.int .i64 0) ∧ W.cell? ⟨w.heap.size, 11, none⟩ = some (.int .i64 0) ∧ W.cell? ⟨w.heap.size + 1, 0, none⟩ = some (.int .i64 0) ∧ W.cell? ⟨w.heap.size + 1, 1, none⟩ = some (.int .i64 0) ∧ W.frozen? ⟨w.heap.size, 0, none⟩ = false ∧ W.frozen? ⟨w.heap.size, 1, none⟩ = false ∧ W.frozen? ⟨w.heap.size, 2, none⟩ = false ∧ W.frozen? ⟨w.heap.size, 3, none⟩ = false ∧ W.frozen? ⟨w.heap.size, 4, none⟩ = false ∧ W.frozen? ⟨w.heap.size, 5, none⟩ = false ∧ W.frozen? ⟨w.heap.size, 6, none⟩ = false ∧ W.frozen? ⟨w.heap.size, 7, none⟩ = false ∧ W.frozen? ⟨w.heap.size, 8, none⟩ = false ∧ W.frozen? ⟨w.heap.size, 9, none⟩ = false ∧ W.frozen? ⟨w.heap.size, 10, none⟩ = false ∧ W.frozen? ⟨w.heap.size, 11, none⟩ = false ∧ W.frozen? ⟨w.heap.size + 1, 0, none⟩ = false ∧ W.frozen? ⟨w.heap.size + 1, 1, none⟩ = false)) := fun W hg hr => by
    have q : ∀ j v, w3.cell? ⟨w2.heap.size, j, none⟩ = some v → W.cell? ⟨w2.heap.size, j, none⟩ = some v := fun j v h => hg.cell (hgm.cell h (by simp; omega)) (by simp; omega)
    have r : ∀ j v, (#[.int .i64 x, .int .i64 y] : Array Value)[j]? = some v → W.cell? ⟨w3.heap.size, j, none⟩ = some v := fun j v h => hg.cell (hg4.cell ((World.cell?_alloc_new _ _ _ _).trans h) (by simp; omega)) (by simp; omega)
    have z := HZ.out
    have b := hr.below
    have hsw := HSZ.out
    exact ⟨⟨q 0 _ (HM3.out 0), q 1 _ (HM3.out 1), q 2 _ (HM3.out 2), q 3 _ (HM3.out 3), q 4 _ (HM3.out 4), q 5 _ (HM3.out 5), q 6 _ (HM3.out 6), q 7 _ (HM3.out 7), q 8 _ (HM3.out 8), q 9 _ (HM3.out 9), q 10 _ (HM3.out 10), q 11 _ (HM3.out 11), r 0 _ rfl, r 1 _ rfl⟩, (b.cell (p := ⟨w.heap.size, 0, none⟩) (by show w.heap.size < _; omega)).trans ((z 0).1 (by omega)), (b.cell (p := ⟨w.heap.size, 1, none⟩) (by show w.heap.size < _; omega)).trans ((z 1).1 (by omega)), (b.cell (p := ⟨w.heap.size, 2, none⟩) (by show w.heap.size < _; omega)).trans ((z 2).1 (by omega)), (b.cell (p := ⟨w.heap.size, 3, none⟩) (by show w.heap.size < _; omega)).trans ((z 3).1 (by omega)), (b.cell (p := ⟨w.heap.size, 4, none⟩) (by show w.heap.size < _; omega)).trans ((z 4).1 (by omega)), (b.cell (p := ⟨w.heap.size, 5, none⟩) (by show w.heap.size < _; omega)).trans ((z 5).1 (by omega)), (b.cell (p := ⟨w.heap.size, 6, none⟩) (by show w.heap.size < _; omega)).trans ((z 6).1 (by omega)), (b.cell (p := ⟨w.heap.size, 7, none⟩) (by show w.heap.size < _; omega)).trans ((z 7).1 (by omega)), (b.cell (p := ⟨w.heap.size, 8, none⟩) (by show w.heap.size < _; omega)).trans ((z 8).1 (by omega)), (b.cell (p := ⟨w.heap.size, 9, none⟩) (by show w.heap.size < _; omega)).trans ((z 9).1 (by omega)), (b.cell (p := ⟨w.heap.size, 10, none⟩) (by show w.heap.size < _; omega)).trans ((z 10).1 (by omega)), (b.cell (p := ⟨w.heap.size, 11, none⟩) (by show w.heap.size < _; omega)).trans ((z 11).1 (by omega)), (b.cell (p := ⟨w.heap.size + 1, 0, none⟩) (by show w.heap.size + 1 < _; omega)).trans ((z 0).2.1 (by omega)), (b.cell (p := ⟨w.heap.size + 1, 1, none⟩) (by show w.heap.size + 1 < _; omega)).trans ((z 1).2.1 (by omega)), (frozen_kept b (show w.heap.size < _ by omega)).trans (z 0).2.2.1, (frozen_kept b (show w.heap.size < _ by omega)).trans (z 1).2.2.1, (frozen_kept b (show w.heap.size < _ by omega)).trans (z 2).2.2.1, (frozen_kept b (show w.heap.size < _ by omega)).trans (z 3).2.2.1, (frozen_kept b (show w.heap.size < _ by omega)).trans (z 4).2.2.1, (frozen_kept b (show w.heap.size < _ by omega)).trans (z 5).2.2.1, (frozen_kept b (show w.heap.size < _ by omega)).trans (z 6).2.2.1, (frozen_kept b (show w.heap.size < _ by omega)).trans (z 7).2.2.1, (frozen_kept b (show w.heap.size < _ by omega)).trans (z 8).2.2.1, (frozen_kept b (show w.heap.size < _ by omega)).trans (z 9).2.2.1, (frozen_kept b (show w.heap.size < _ by omega)).trans (z 10).2.2.1, (frozen_kept b (show w.heap.size < _ by omega)).trans (z 11).2.2.1, (frozen_kept b (show w.heap.size + 1 < _ by omega)).trans (z 0).2.2.2, (frozen_kept b (show w.heap.size + 1 < _ by omega)).trans (z 1).2.2.2⟩
  clear hgm hg4 hr4 HM3
  have HST1 : Hid (∀ W : World, (W.cell? ⟨w2.heap.size, 0, none⟩ = some (.int .i64 a1) ∧ W.cell? ⟨w2.heap.size, 1, none⟩ = some (.int .i64 b1) ∧ W.cell? ⟨w2.heap.size, 2, none⟩ = some (.int .i64 e1) ∧ W.cell? ⟨w2.heap.size, 3, none⟩ = some (.int .i64 d1) ∧ W.cell? ⟨w2.heap.size, 4, none⟩ = some (.int .i64 f1) ∧ W.cell? ⟨w2.heap.size, 5, none⟩ = some (.int .i64 k1) ∧ W.cell? ⟨w2.heap.size, 6, none⟩ = some (.int .i64 a2) ∧ W.cell? ⟨w2.heap.size, 7, none⟩ = some (.int .i64 b2) ∧ W.cell? ⟨w2.heap.size, 8, none⟩ = some (.int .i64 e2) ∧ W.cell? ⟨w2.heap.size, 9, none⟩ = some (.int .i64 d2) ∧ W.cell? ⟨w2.heap.size, 10, none⟩ = some (.int .i64 f2) ∧ W.cell? ⟨w2.heap.size, 11, none⟩ = some (.int .i64 k2) ∧ W.cell? ⟨w3.heap.size, 0, none⟩ = some (.int .i64 x) ∧ W.cell? ⟨w3.heap.size, 1, none⟩ = some (.int .i64 y)) → (((((((((((((W.setCell ⟨w.heap.size, 0, none⟩ (.int .i64 a1)).setCell ⟨w.heap.size, 1, none⟩ (.int .i64 b1)).setCell ⟨w.heap.size, 2, none⟩ (.int .i64 e1)).setCell ⟨w.heap.size, 3, none⟩ (.int .i64 d1)).setCell ⟨w.heap.size, 4, none⟩ (.int .i64 f1)).setCell ⟨w.heap.size, 5, none⟩ (.int .i64 k1)).setCell ⟨w.heap.size, 6, none⟩ (.int .i64 a2)).setCell ⟨w.heap.size, 7, none⟩ (.int .i64 b2)).setCell ⟨w.heap.size, 8, none⟩ (.int .i64 e2)).setCell ⟨w.heap.size, 9, none⟩ (.int .i64 d2)).setCell ⟨w.heap.size, 10, none⟩ (.int .i64 f2)).setCell ⟨w.heap.size, 11, none⟩ (.int .i64 k2)).cell? ⟨w2.heap.size, 0, none⟩ = some (.int .i64 a1) ∧ ((((((((((((W.setCell ⟨w.heap.size, 0, none⟩ (.int .i64 a1)).setCell ⟨w.heap.size, 1, none⟩ (.int .i64 b1)).setCell ⟨w.heap.size, 2, none⟩ (.int .i64 e1)).setCell ⟨w.heap.size, 3, none⟩ (.int .i64 d1)).setCell ⟨w.heap.size, 4, none⟩ (.int .i64 f1)).setCell ⟨w.heap.size, 5, none⟩ (.int .i64 k1)).setCell ⟨w.heap.size, 6, none⟩ (.int .i64 a2)).setCell ⟨w.heap.size, 7, none⟩ (.int .i64 b2)).setCell ⟨w.heap.size, 8, none⟩ (.int .i64 e2)).setCell ⟨w.heap.size, 9, none⟩ (.int .i64 d2)).setCell ⟨w.heap.size, 10, none⟩ (.int .i64 f2)).setCell ⟨w.heap.size, 11, none⟩ (.int .i64 k2)).cell? ⟨w2.heap.size, 1, none⟩ = some (.int .i64 b1) ∧ ((((((((((((W.setCell ⟨w.heap.size, 0, none⟩ (.int .i64 a1)).setCell ⟨w.heap.size, 1, none⟩ (.int .i64 b1)).setCell ⟨w.heap.size, 2, none⟩ (.int .i64 e1)).setCell ⟨w.heap.size, 3, none⟩ (.int .i64 d1)).setCell ⟨w.heap.size, 4, none⟩ (.int .i64 f1)).setCell ⟨w.heap.size, 5, none⟩ (.int .i64 k1)).setCell ⟨w.heap.size, 6, none⟩ (.int .i64 a2)).setCell ⟨w.heap.size, 7, none⟩ (.int .i64 b2)).setCell ⟨w.heap.size, 8, none⟩ (.int .i64 e2)).setCell ⟨w.heap.size, 9, none⟩ (.int .i64 d2)).setCell ⟨w.heap.size, 10, none⟩ (.int .i64 f2)).setCell ⟨w.heap.size, 11, none⟩ (.int .i64 k2)).cell? ⟨w2.heap.size, 2, none⟩ = some (.int .i64 e1) ∧ ((((((((((((W.setCell ⟨w.heap.size, 0, none⟩ (.int .i64 a1)).setCell ⟨w.heap.size, 1, none⟩ (.int .i64 b1)).setCell ⟨w.heap.size, 2, none⟩ (.int .i64 e1)).setCell ⟨w.heap.size, 3, none⟩ (.int .i64 d1)).setCell ⟨w.heap.size, 4, none⟩ (.int .i64 f1)).setCell ⟨w.heap.size, 5, none⟩ (.int .i64 k1)).setCell ⟨w.heap.size, 6, none⟩ (.int .i64 a2)).setCell ⟨w.heap.size, 7, none⟩ (.int .i64 b2)).setCell ⟨w.heap.size, 8, none⟩ (.int .i64 e2)).setCell ⟨w.heap.size, 9, none⟩ (.int .i64 d2)).setCell ⟨w.heap.size, 10, none⟩ (.int .i64 f2)).setCell ⟨w.heap.size, 11, none⟩ (.int .i64 k2)).cell? ⟨w2.heap.size, 3, none⟩ = some (.int .i64 d1) ∧ ((((((((((((W.setCell ⟨w.heap.size, 0, none⟩ (.int .i64 a1)).setCell ⟨w.heap.size, 1, none⟩ (.int .i64 b1)).setCell ⟨w.heap.size, 2, none⟩ (.int .i64 e1)).setCell ⟨w.heap.size, 3, none⟩ (.int .i64 d1)).setCell ⟨w.heap.size, 4, none⟩ (.int .i64 f1)).setCell ⟨w.heap.size, 5, none⟩ (.int .i64 k1)).setCell ⟨w.heap.size, 6, none⟩ (.int .i64 a2)).setCell ⟨w.heap.size, 7, none⟩ (.int .i64 b2)).setCell ⟨w.heap.size, 8, none⟩ (.int .i64 e2)).setCell ⟨w.heap.size, 9, none⟩ (.int .i64 d2)).setCell ⟨w.heap.size, 10, none⟩ (.int .i64 f2)).setCell ⟨w.heap.size, 11, none⟩ (.int .i64 k2)).cell? ⟨w2.heap.size, 4, none⟩ = some (.int .i64 f1) ∧ ((((((((((((W.setCell ⟨w.heap.size, 0, none⟩ (.int .i64 a1)).setCell ⟨w.heap.size, 1, none⟩ (.int .i64 b1)).setCell ⟨w.heap.size, 2, none⟩ (.int .i64 e1)).setCell ⟨w.heap.size, 3, none⟩ (.int .i64 d1)).setCell ⟨w.heap.size, 4, none⟩ (.int .i64 f1)).setCell ⟨w.heap.size, 5, none⟩ (.int .i64 k1)).setCell ⟨w.heap.size, 6, none⟩ (.int .i64 a2)).setCell ⟨w.heap.size, 7, none⟩ (.int .i64 b2)).setCell ⟨w.heap.size, 8, none⟩ (.int .i64 e2)).setCell ⟨w.heap.size, 9, none⟩ (.int .i64 d2)).setCell ⟨w.heap.size, 10, none⟩ (.int .i64 f2)).setCell ⟨w.heap.size, 11, none⟩ (.int .i64 k2)).cell? ⟨w2.heap.size, 5, none⟩ = some (.int .i64 k1) ∧ ((((((((((((W.setCell ⟨w.heap.size, 0, none⟩ (.int .i64 a1)).setCell ⟨w.heap.size, 1, none⟩ (.int .i64 b1)).setCell ⟨w.heap.size, 2, none⟩ (.int .i64 e1)).setCell ⟨w.heap.size, 3, none⟩ (.int .i64 d1)).setCell ⟨w.heap.size, 4, none⟩ (.int .i64 f1)).setCell ⟨w.heap.size, 5, none⟩ (.int .i64 k1)).setCell ⟨w.heap.size, 6, none⟩ (.int .i64 a2)).setCell ⟨w.heap.size, 7, none⟩ (.int .i64 b2)).setCell ⟨w.heap.size, 8, none⟩ (.int .i64 e2)).setCell ⟨w.heap.size, 9, none⟩ (.int .i64 d2)).setCell ⟨w.heap.size, 10, none⟩ (.int .i64 f2)).setCell ⟨w.heap.size, 11, none⟩ (.int .i64 k2)).cell? ⟨w2.heap.size, 6, none⟩ = some (.int .i64 a2) ∧ ((((((((((((W.setCell ⟨w.heap.size, 0, none⟩ (.int .i64 a1)).setCell ⟨w.heap.size, 1, none⟩ (.int .i64 b1)).setCell ⟨w.heap.size, 2, none⟩ (.int .i64 e1)).setCell ⟨w.heap.size, 3, none⟩ (.int .i64 d1)).setCell ⟨w.heap.size, 4, none⟩ (.int .i64 f1)).setCell ⟨w.heap.size, 5, none⟩ (.int .i64 k1)).setCell ⟨w.heap.size, 6, none⟩ (.int .i64 a2)).setCell ⟨w.heap.size, 7, none⟩ (.int .i64 b2)).setCell ⟨w.heap.size, 8, none⟩ (.int .i64 e2)).setCell ⟨w.heap.size, 9, none⟩ (.int .i64 d2)).setCell ⟨w.heap.size, 10, none⟩ (.int .i64 f2)).setCell ⟨w.heap.size, 11, none⟩ (.int .i64 k2)).cell? ⟨w2.heap.size, 7, none⟩ = some (.int .i64 b2) ∧ ((((((((((((W.setCell ⟨w.heap.size, 0, none⟩ (.int .i64 a1)).setCell ⟨w.heap.size, 1, none⟩ (.int .i64 b1)).setCell ⟨w.heap.size, 2, none⟩ (.int .i64 e1)).setCell ⟨w.heap.size, 3, none⟩ (.int .i64 d1)).setCell ⟨w.heap.size, 4, none⟩ (.int .i64 f1)).setCell ⟨w.heap.size, 5, none⟩ (.int .i64 k1)).setCell ⟨w.heap.size, 6, none⟩ (.int .i64 a2)).setCell ⟨w.heap.size, 7, none⟩ (.int .i64 b2)).setCell ⟨w.heap.size, 8, none⟩ (.int .i64 e2)).setCell ⟨w.heap.size, 9, none⟩ (.int .i64 d2)).setCell ⟨w.heap.size, 10, none⟩ (.int .i64 f2)).setCell ⟨w.heap.size, 11, none⟩ (.int .i64 k2)).cell? ⟨w2.heap.size, 8, none⟩ = some (.int .i64 e2) ∧ ((((((((((((W.setCell ⟨w.heap.size, 0, none⟩ (.int .i64 a1)).setCell ⟨w.heap.size, 1, none⟩ (.int .i64 b1)).setCell ⟨w.heap.size, 2, none⟩ (.int .i64 e1)).setCell ⟨w.heap.size, 3, none⟩ (.int .i64 d1)).setCell ⟨w.heap.size, 4, none⟩ (.int .i64 f1)).setCell ⟨w.heap.size, 5, none⟩ (.int .i64 k1)).setCell ⟨w.heap.size, 6, none⟩ (.int .i64 a2)).setCell ⟨w.heap.size, 7, none⟩ (.int .i64 b2)).setCell ⟨w.heap.size, 8, none⟩ (.int .i64 e2)).setCell ⟨w.heap.size, 9, none⟩ (.int .i64 d2)).setCell ⟨w.heap.size, 10, none⟩ (.int .i64 f2)).setCell ⟨w.heap.size, 11, none⟩ (.int .i64 k2)).cell? ⟨w2.heap.size, 9, none⟩ = some (.int .i64 d2) ∧ ((((((((((((W.setCell ⟨w.heap.size, 0, none⟩ (.int .i64 a1)).setCell ⟨w.heap.size, 1, none⟩ (.int .i64 b1)).setCell ⟨w.heap.size, 2, none⟩ (.int .i64 e1)).setCell ⟨w.heap.size, 3, none⟩ (.int .i64 d1)).setCell ⟨w.heap.size, 4, none⟩ (.int .i64 f1)).setCell ⟨w.heap.size, 5, none⟩ (.int .i64 k1)).setCell ⟨w.heap.size, 6, none⟩ (.int .i64 a2)).setCell ⟨w.heap.size, 7, none⟩ (.int .i64 b2)).setCell ⟨w.heap.size, 8, none⟩ (.int .i64 e2)).setCell ⟨w.heap.size, 9, none⟩ (.int .i64 d2)).setCell ⟨w.heap.size, 10, none⟩ (.int .i64 f2)).setCell ⟨w.heap.size, 11, none⟩ (.int .i64 k2)).cell? ⟨w2.heap.size, 10, none⟩ = some (.int .i64 f2) ∧ ((((((((((((W.setCell ⟨w.heap.size, 0, none⟩ (.int .i64 a1)).setCell ⟨w.heap.size, 1, none⟩ (.int .i64 b1)).setCell ⟨w.heap.size, 2, none⟩ (.int .i64 e1)).setCell ⟨w.heap.size, 3, none⟩ (.int .i64 d1)).setCell ⟨w.heap.size, 4, none⟩ (.int .i64 f1)).setCell ⟨w.heap.size, 5, none⟩ (.int .i64 k1)).setCell ⟨w.heap.size, 6, none⟩ (.int .i64 a2)).setCell ⟨w.heap.size, 7, none⟩ (.int .i64 b2)).setCell ⟨w.heap.size, 8, none⟩ (.int .i64 e2)).setCell ⟨w.heap.size, 9, none⟩ (.int .i64 d2)).setCell ⟨w.heap.size, 10, none⟩ (.int .i64 f2)).setCell ⟨w.heap.size, 11, none⟩ (.int .i64 k2)).cell? ⟨w2.heap.size, 11, none⟩ = some (.int .i64 k2) ∧ ((((((((((((W.setCell ⟨w.heap.size, 0, none⟩ (.int .i64 a1)).setCell ⟨w.heap.size, 1, none⟩ (.int .i64 b1)).setCell ⟨w.heap.size, 2, none⟩ (.int .i64 e1)).setCell ⟨w.heap.size, 3, none⟩ (.int .i64 d1)).setCell ⟨w.heap.size, 4, none⟩ (.int .i64 f1)).setCell ⟨w.heap.size, 5, none⟩ (.int .i64 k1)).setCell ⟨w.heap.size, 6, none⟩ (.int .i64 a2)).setCell ⟨w.heap.size, 7, none⟩ (.int .i64 b2)).setCell ⟨w.heap.size, 8, none⟩ (.int .i64 e2)).setCell ⟨w.heap.size, 9, none⟩ (.int .i64 d2)).setCell ⟨w.heap.size, 10, none⟩ (.int .i64 f2)).setCell ⟨w.heap.size, 11, none⟩ (.int .i64 k2)).cell? ⟨w3.heap.size, 0, none⟩ = some (.int .i64 x) ∧ ((((((((((((W.setCell ⟨w.heap.size, 0, none⟩ (.int .i64 a1)).setCell ⟨w.heap.size, 1, none⟩ (.int .i64 b1)).setCell ⟨w.heap.size, 2, none⟩ (.int .i64 e1)).setCell ⟨w.heap.size, 3, none⟩ (.int .i64 d1)).setCell ⟨w.heap.size, 4, none⟩ (.int .i64 f1)).setCell ⟨w.heap.size, 5, none⟩ (.int .i64 k1)).setCell ⟨w.heap.size, 6, none⟩ (.int .i64 a2)).setCell ⟨w.heap.size, 7, none⟩ (.int .i64 b2)).setCell ⟨w.heap.size, 8, none⟩ (.int .i64 e2)).setCell ⟨w.heap.size, 9, none⟩ (.int .i64 d2)).setCell ⟨w.heap.size, 10, none⟩ (.int .i64 f2)).setCell ⟨w.heap.size, 11, none⟩ (.int .i64 k2)).cell? ⟨w3.heap.size, 1, none⟩ = some (.int .i64 y))) := fun W ⟨g0, g1, g2, g3, g4, g5, g6, g7, g8, g9, g10, g11, g12, g13⟩ => ⟨(sets_far (w.heap.size) (p := ⟨w2.heap.size, 0, none⟩) (show w2.heap.size ≠ w.heap.size by omega) [Value.int .i64 a1, Value.int .i64 b1, Value.int .i64 e1, Value.int .i64 d1, Value.int .i64 f1, Value.int .i64 k1, Value.int .i64 a2, Value.int .i64 b2, Value.int .i64 e2, Value.int .i64 d2, Value.int .i64 f2, Value.int .i64 k2] W 0).trans g0, (sets_far (w.heap.size) (p := ⟨w2.heap.size, 1, none⟩) (show w2.heap.size ≠ w.heap.size by omega) [Value.int .i64 a1, Value.int .i64 b1, Value.int .i64 e1, Value.int .i64 d1, Value.int .i64 f1, Value.int .i64 k1, Value.int .i64 a2, Value.int .i64 b2, Value.int .i64 e2, Value.int .i64 d2, Value.int .i64 f2, Value.int .i64 k2] W 0).trans g1, (sets_far (w.heap.size) (p := ⟨w2.heap.size, 2, none⟩) (show w2.heap.size ≠ w.heap.size by omega) [Value.int .i64 a1, Value.int .i64 b1, Value.int .i64 e1, Value.int .i64 d1, Value.int .i64 f1, Value.int .i64 k1, Value.int .i64 a2, Value.int .i64 b2, Value.int .i64 e2, Value.int .i64 d2, Value.int .i64 f2, Value.int .i64 k2] W 0).trans g2, (sets_far (w.heap.size) (p := ⟨w2.heap.size, 3, none⟩) (show w2.heap.size ≠ w.heap.size by omega) [Value.int .i64 a1, Value.int .i64 b1, Value.int .i64 e1, Value.int .i64 d1, Value.int .i64 f1, Value.int .i64 k1, Value.int .i64 a2, Value.int .i64 b2, Value.int .i64 e2, Value.int .i64 d2, Value.int .i64 f2, Value.int .i64 k2] W 0).trans g3, (sets_far (w.heap.size) (p := ⟨w2.heap.size, 4, none⟩) (show w2.heap.size ≠ w.heap.size by omega) [Value.int .i64 a1, Value.int .i64 b1, Value.int .i64 e1, Value.int .i64 d1, Value.int .i64 f1, Value.int .i64 k1, Value.int .i64 a2, Value.int .i64 b2, Value.int .i64 e2, Value.int .i64 d2, Value.int .i64 f2, Value.int .i64 k2] W 0).trans g4, (sets_far (w.heap.size) (p := ⟨w2.heap.size, 5, none⟩) (show w2.heap.size ≠ w.heap.size by omega) [Value.int .i64 a1, Value.int .i64 b1, Value.int .i64 e1, Value.int .i64 d1, Value.int .i64 f1, Value.int .i64 k1, Value.int .i64 a2, Value.int .i64 b2, Value.int .i64 e2, Value.int .i64 d2, Value.int .i64 f2, Value.int .i64 k2] W 0).trans g5, (sets_far (w.heap.size) (p := ⟨w2.heap.size, 6, none⟩) (show w2.heap.size ≠ w.heap.size by omega) [Value.int .i64 a1, Value.int .i64 b1, Value.int .i64 e1, Value.int .i64 d1, Value.int .i64 f1, Value.int .i64 k1, Value.int .i64 a2, Value.int .i64 b2, Value.int .i64 e2, Value.int .i64 d2, Value.int .i64 f2, Value.int .i64 k2] W 0).trans g6, (sets_far (w.heap.size) (p := ⟨w2.heap.size, 7, none⟩) (show w2.heap.size ≠ w.heap.size by omega) [Value.int .i64 a1, Value.int .i64 b1, Value.int .i64 e1, Value.int .i64 d1, Value.int .i64 f1, Value.int .i64 k1, Value.int .i64 a2, Value.int .i64 b2, Value.int .i64 e2, Value.int .i64 d2, Value.int .i64 f2, Value.int .i64 k2] W 0).trans g7, (sets_far (w.heap.size) (p := ⟨w2.heap.size, 8, none⟩) (show w2.heap.size ≠ w.heap.size by omega) [Value.int .i64 a1, Value.int .i64 b1, Value.int .i64 e1, Value.int .i64 d1, Value.int .i64 f1, Value.int .i64 k1, Value.int .i64 a2, Value.int .i64 b2, Value.int .i64 e2, Value.int .i64 d2, Value.int .i64 f2, Value.int .i64 k2] W 0).trans g8, (sets_far (w.heap.size) (p := ⟨w2.heap.size, 9, none⟩) (show w2.heap.size ≠ w.heap.size by omega) [Value.int .i64 a1, Value.int .i64 b1, Value.int .i64 e1, Value.int .i64 d1, Value.int .i64 f1, Value.int .i64 k1, Value.int .i64 a2, Value.int .i64 b2, Value.int .i64 e2, Value.int .i64 d2, Value.int .i64 f2, Value.int .i64 k2] W 0).trans g9, (sets_far (w.heap.size) (p := ⟨w2.heap.size, 10, none⟩) (show w2.heap.size ≠ w.heap.size by omega) [Value.int .i64 a1, Value.int .i64 b1, Value.int .i64 e1, Value.int .i64 d1, Value.int .i64 f1, Value.int .i64 k1, Value.int .i64 a2, Value.int .i64 b2, Value.int .i64 e2, Value.int .i64 d2, Value.int .i64 f2, Value.int .i64 k2] W 0).trans g10, (sets_far (w.heap.size) (p := ⟨w2.heap.size, 11, none⟩) (show w2.heap.size ≠ w.heap.size by omega) [Value.int .i64 a1, Value.int .i64 b1, Value.int .i64 e1, Value.int .i64 d1, Value.int .i64 f1, Value.int .i64 k1, Value.int .i64 a2, Value.int .i64 b2, Value.int .i64 e2, Value.int .i64 d2, Value.int .i64 f2, Value.int .i64 k2] W 0).trans g11, (sets_far (w.heap.size) (p := ⟨w3.heap.size, 0, none⟩) (show w3.heap.size ≠ w.heap.size by omega) [Value.int .i64 a1, Value.int .i64 b1, Value.int .i64 e1, Value.int .i64 d1, Value.int .i64 f1, Value.int .i64 k1, Value.int .i64 a2, Value.int .i64 b2, Value.int .i64 e2, Value.int .i64 d2, Value.int .i64 f2, Value.int .i64 k2] W 0).trans g12, (sets_far (w.heap.size) (p := ⟨w3.heap.size, 1, none⟩) (show w3.heap.size ≠ w.heap.size by omega) [Value.int .i64 a1, Value.int .i64 b1, Value.int .i64 e1, Value.int .i64 d1, Value.int .i64 f1, Value.int .i64 k1, Value.int .i64 a2, Value.int .i64 b2, Value.int .i64 e2, Value.int .i64 d2, Value.int .i64 f2, Value.int .i64 k2] W 0).trans g13⟩
  have HST2 : Hid (∀ W : World, (W.cell? ⟨w2.heap.size, 0, none⟩ = some (.int .i64 a1) ∧ W.cell? ⟨w2.heap.size, 1, none⟩ = some (.int .i64 b1) ∧ W.cell? ⟨w2.heap.size, 2, none⟩ = some (.int .i64 e1) ∧ W.cell? ⟨w2.heap.size, 3, none⟩ = some (.int .i64 d1) ∧ W.cell? ⟨w2.heap.size, 4, none⟩ = some (.int .i64 f1) ∧ W.cell? ⟨w2.heap.size, 5, none⟩ = some (.int .i64 k1) ∧ W.cell? ⟨w2.heap.size, 6, none⟩ = some (.int .i64 a2) ∧ W.cell? ⟨w2.heap.size, 7, none⟩ = some (.int .i64 b2) ∧ W.cell? ⟨w2.heap.size, 8, none⟩ = some (.int .i64 e2) ∧ W.cell? ⟨w2.heap.size, 9, none⟩ = some (.int .i64 d2) ∧ W.cell? ⟨w2.heap.size, 10, none⟩ = some (.int .i64 f2) ∧ W.cell? ⟨w2.heap.size, 11, none⟩ = some (.int .i64 k2) ∧ W.cell? ⟨w3.heap.size, 0, none⟩ = some (.int .i64 x) ∧ W.cell? ⟨w3.heap.size, 1, none⟩ = some (.int .i64 y)) → (((W.setCell ⟨w.heap.size + 1, 0, none⟩ (.int .i64 x)).setCell ⟨w.heap.size + 1, 1, none⟩ (.int .i64 y)).cell? ⟨w2.heap.size, 0, none⟩ = some (.int .i64 a1) ∧ ((W.setCell ⟨w.heap.size + 1, 0, none⟩ (.int .i64 x)).setCell ⟨w.heap.size + 1, 1, none⟩ (.int .i64 y)).cell? ⟨w2.heap.size, 1, none⟩ = some (.int .i64 b1) ∧ ((W.setCell ⟨w.heap.size + 1, 0, none⟩ (.int .i64 x)).setCell ⟨w.heap.size + 1, 1, none⟩ (.int .i64 y)).cell? ⟨w2.heap.size, 2, none⟩ = some (.int .i64 e1) ∧ ((W.setCell ⟨w.heap.size + 1, 0, none⟩ (.int .i64 x)).setCell ⟨w.heap.size + 1, 1, none⟩ (.int .i64 y)).cell? ⟨w2.heap.size, 3, none⟩ = some (.int .i64 d1) ∧ ((W.setCell ⟨w.heap.size + 1, 0, none⟩ (.int .i64 x)).setCell ⟨w.heap.size + 1, 1, none⟩ (.int .i64 y)).cell? ⟨w2.heap.size, 4, none⟩ = some (.int .i64 f1) ∧ ((W.setCell ⟨w.heap.size + 1, 0, none⟩ (.int .i64 x)).setCell ⟨w.heap.size + 1, 1, none⟩ (.int .i64 y)).cell? ⟨w2.heap.size, 5, none⟩ = some (.int .i64 k1) ∧ ((W.setCell ⟨w.heap.size + 1, 0, none⟩ (.int .i64 x)).setCell ⟨w.heap.size + 1, 1, none⟩ (.int .i64 y)).cell? ⟨w2.heap.size, 6, none⟩ = some (.int .i64 a2) ∧ ((W.setCell ⟨w.heap.size + 1, 0, none⟩ (.int .i64 x)).setCell ⟨w.heap.size + 1, 1, none⟩ (.int .i64 y)).cell? ⟨w2.heap.size, 7, none⟩ = some (.int .i64 b2) ∧ ((W.setCell ⟨w.heap.size + 1, 0, none⟩ (.int .i64 x)).setCell ⟨w.heap.size + 1, 1, none⟩ (.int .i64 y)).cell? ⟨w2.heap.size, 8, none⟩ = some (.int .i64 e2) ∧ ((W.setCell ⟨w.heap.size + 1, 0, none⟩ (.int .i64 x)).setCell ⟨w.heap.size + 1, 1, none⟩ (.int .i64 y)).cell? ⟨w2.heap.size, 9, none⟩ = some (.int .i64 d2) ∧ ((W.setCell ⟨w.heap.size + 1, 0, none⟩ (.int .i64 x)).setCell ⟨w.heap.size + 1, 1, none⟩ (.int .i64 y)).cell? ⟨w2.heap.size, 10, none⟩ = some (.int .i64 f2) ∧ ((W.setCell ⟨w.heap.size + 1, 0, none⟩ (.int .i64 x)).setCell ⟨w.heap.size + 1, 1, none⟩ (.int .i64 y)).cell? ⟨w2.heap.size, 11, none⟩ = some (.int .i64 k2) ∧ ((W.setCell ⟨w.heap.size + 1, 0, none⟩ (.int .i64 x)).setCell ⟨w.heap.size + 1, 1, none⟩ (.int .i64 y)).cell? ⟨w3.heap.size, 0, none⟩ = some (.int .i64 x) ∧ ((W.setCell ⟨w.heap.size + 1, 0, none⟩ (.int .i64 x)).setCell ⟨w.heap.size + 1, 1, none⟩ (.int .i64 y)).cell? ⟨w3.heap.size, 1, none⟩ = some (.int .i64 y))) := fun W ⟨g0, g1, g2, g3, g4, g5, g6, g7, g8, g9, g10, g11, g12, g13⟩ => ⟨(sets_far (w.heap.size + 1) (p := ⟨w2.heap.size, 0, none⟩) (show w2.heap.size ≠ w.heap.size + 1 by omega) [Value.int .i64 x, Value.int .i64 y] W 0).trans g0, (sets_far (w.heap.size + 1) (p := ⟨w2.heap.size, 1, none⟩) (show w2.heap.size ≠ w.heap.size + 1 by omega) [Value.int .i64 x, Value.int .i64 y] W 0).trans g1, (sets_far (w.heap.size + 1) (p := ⟨w2.heap.size, 2, none⟩) (show w2.heap.size ≠ w.heap.size + 1 by omega) [Value.int .i64 x, Value.int .i64 y] W 0).trans g2, (sets_far (w.heap.size + 1) (p := ⟨w2.heap.size, 3, none⟩) (show w2.heap.size ≠ w.heap.size + 1 by omega) [Value.int .i64 x, Value.int .i64 y] W 0).trans g3, (sets_far (w.heap.size + 1) (p := ⟨w2.heap.size, 4, none⟩) (show w2.heap.size ≠ w.heap.size + 1 by omega) [Value.int .i64 x, Value.int .i64 y] W 0).trans g4, (sets_far (w.heap.size + 1) (p := ⟨w2.heap.size, 5, none⟩) (show w2.heap.size ≠ w.heap.size + 1 by omega) [Value.int .i64 x, Value.int .i64 y] W 0).trans g5, (sets_far (w.heap.size + 1) (p := ⟨w2.heap.size, 6, none⟩) (show w2.heap.size ≠ w.heap.size + 1 by omega) [Value.int .i64 x, Value.int .i64 y] W 0).trans g6, (sets_far (w.heap.size + 1) (p := ⟨w2.heap.size, 7, none⟩) (show w2.heap.size ≠ w.heap.size + 1 by omega) [Value.int .i64 x, Value.int .i64 y] W 0).trans g7, (sets_far (w.heap.size + 1) (p := ⟨w2.heap.size, 8, none⟩) (show w2.heap.size ≠ w.heap.size + 1 by omega) [Value.int .i64 x, Value.int .i64 y] W 0).trans g8, (sets_far (w.heap.size + 1) (p := ⟨w2.heap.size, 9, none⟩) (show w2.heap.size ≠ w.heap.size + 1 by omega) [Value.int .i64 x, Value.int .i64 y] W 0).trans g9, (sets_far (w.heap.size + 1) (p := ⟨w2.heap.size, 10, none⟩) (show w2.heap.size ≠ w.heap.size + 1 by omega) [Value.int .i64 x, Value.int .i64 y] W 0).trans g10, (sets_far (w.heap.size + 1) (p := ⟨w2.heap.size, 11, none⟩) (show w2.heap.size ≠ w.heap.size + 1 by omega) [Value.int .i64 x, Value.int .i64 y] W 0).trans g11, (sets_far (w.heap.size + 1) (p := ⟨w3.heap.size, 0, none⟩) (show w3.heap.size ≠ w.heap.size + 1 by omega) [Value.int .i64 x, Value.int .i64 y] W 0).trans g12, (sets_far (w.heap.size + 1) (p := ⟨w3.heap.size, 1, none⟩) (show w3.heap.size ≠ w.heap.size + 1 by omega) [Value.int .i64 x, Value.int .i64 y] W 0).trans g13⟩
  have hb0 : w4.grownBy w4.drew (some (w.heap.size + 1 + 1)) := ⟨rfl, rfl, rfl, Nat.le_refl _, fun _ _ _ => rfl⟩
  have HR4d : Hid (Rd wb (w.heap.size + 1 + 1) a len cap w4.drew) := ⟨HR4.out.below.drew, HR4.out.lo, HR4.out.hi, HR4.out.cb, HR4.out.cp, HR4.out.fr⟩
  cases ob with
  | false =>
    go_wp2
    go_region_held3 (fun W => W.cell? ⟨w2.heap.size, 0, none⟩ = some (.int .i64 a1) ∧ W.cell? ⟨w2.heap.size, 1, none⟩ = some (.int .i64 b1) ∧ W.cell? ⟨w2.heap.size, 2, none⟩ = some (.int .i64 e1) ∧ W.cell? ⟨w2.heap.size, 3, none⟩ = some (.int .i64 d1) ∧ W.cell? ⟨w2.heap.size, 4, none⟩ = some (.int .i64 f1) ∧ W.cell? ⟨w2.heap.size, 5, none⟩ = some (.int .i64 k1) ∧ W.cell? ⟨w2.heap.size, 6, none⟩ = some (.int .i64 a2) ∧ W.cell? ⟨w2.heap.size, 7, none⟩ = some (.int .i64 b2) ∧ W.cell? ⟨w2.heap.size, 8, none⟩ = some (.int .i64 e2) ∧ W.cell? ⟨w2.heap.size, 9, none⟩ = some (.int .i64 d2) ∧ W.cell? ⟨w2.heap.size, 10, none⟩ = some (.int .i64 f2) ∧ W.cell? ⟨w2.heap.size, 11, none⟩ = some (.int .i64 k2) ∧ W.cell? ⟨w3.heap.size, 0, none⟩ = some (.int .i64 x) ∧ W.cell? ⟨w3.heap.size, 1, none⟩ = some (.int .i64 y)) (first | with_reducible exact (HK.out _ hgg hrr).1 | with_reducible exact (HK.out _ hb0 HR4d.out).1 | with_reducible exact HST1.out _ (by assumption) | with_reducible exact HST2.out _ (by assumption))
      (first
      | (go_at_call 31; refine (below_any HRw.out 4 (by omega) (by omega) _ HR4d.out).mono ?_; rintro e w5 ⟨n, n0, n1, rfl, hr5, hg5⟩; have hgg : w4.grownBy w5 (some (w.heap.size + 1 + 1)) := hb0.trans hg5; have hrr := hr5; obtain ⟨-, t0, t1, t2, t3, t4, t5, t6, t7, t8, t9, t10, t11, t12, t13, t14, t15, t16, t17, t18, t19, t20, t21, t22, t23, t24, t25, t26, t27⟩ := HK.out _ hgg hrr))
    all_goals
      obtain ⟨wy, hwy⟩ : ∃ u, u = sets w5 (w.heap.size) 0 [.int .i64 a1, .int .i64 b1, .int .i64 e1, .int .i64 d1, .int .i64 f1, .int .i64 k1, .int .i64 a2, .int .i64 b2, .int .i64 e2, .int .i64 d2, .int .i64 f2, .int .i64 k2] := ⟨_, rfl⟩
      have ha := sets_at (w.heap.size) [Value.int .i64 a1, .int .i64 b1, .int .i64 e1, .int .i64 d1, .int .i64 f1, .int .i64 k1, .int .i64 a2, .int .i64 b2, .int .i64 e2, .int .i64 d2, .int .i64 f2, .int .i64 k2] w5 0 (fun j hj => by
        match j, hj with
        | 0, _ => exact ⟨_, t0⟩
        | 1, _ => exact ⟨_, t1⟩
        | 2, _ => exact ⟨_, t2⟩
        | 3, _ => exact ⟨_, t3⟩
        | 4, _ => exact ⟨_, t4⟩
        | 5, _ => exact ⟨_, t5⟩
        | 6, _ => exact ⟨_, t6⟩
        | 7, _ => exact ⟨_, t7⟩
        | 8, _ => exact ⟨_, t8⟩
        | 9, _ => exact ⟨_, t9⟩
        | 10, _ => exact ⟨_, t10⟩
        | 11, _ => exact ⟨_, t11⟩)
      rw [← hwy] at ha
      have y0 : wy.cell? ⟨w.heap.size + 1, 0, none⟩ = some (.int .i64 0) := by rw [hwy, sets_far (w.heap.size) (p := ⟨w.heap.size + 1, 0, none⟩) (show w.heap.size + 1 ≠ w.heap.size by omega)]; exact t12
      have y1 : wy.cell? ⟨w.heap.size + 1, 1, none⟩ = some (.int .i64 0) := by rw [hwy, sets_far (w.heap.size) (p := ⟨w.heap.size + 1, 1, none⟩) (show w.heap.size + 1 ≠ w.heap.size by omega)]; exact t13
      obtain ⟨wz, hwz⟩ : ∃ u, u = sets wy (w.heap.size + 1) 0 [.int .i64 x, .int .i64 y] := ⟨_, rfl⟩
      have hc := sets_at (w.heap.size + 1) [Value.int .i64 x, .int .i64 y] wy 0 (fun j hj => by
        match j, hj with
        | 0, _ => exact ⟨_, y0⟩
        | 1, _ => exact ⟨_, y1⟩)
      rw [← hwz] at hc
      have z0 : wz.cell? ⟨w.heap.size, 0, none⟩ = some (.int .i64 a1) := by rw [hwz, sets_far (w.heap.size + 1) (p := ⟨w.heap.size, 0, none⟩) (show w.heap.size ≠ w.heap.size + 1 by omega)]; simpa using ha 0 _ rfl
      have z1 : wz.cell? ⟨w.heap.size, 1, none⟩ = some (.int .i64 b1) := by rw [hwz, sets_far (w.heap.size + 1) (p := ⟨w.heap.size, 1, none⟩) (show w.heap.size ≠ w.heap.size + 1 by omega)]; simpa using ha 1 _ rfl
      have z2 : wz.cell? ⟨w.heap.size, 2, none⟩ = some (.int .i64 e1) := by rw [hwz, sets_far (w.heap.size + 1) (p := ⟨w.heap.size, 2, none⟩) (show w.heap.size ≠ w.heap.size + 1 by omega)]; simpa using ha 2 _ rfl
      have z3 : wz.cell? ⟨w.heap.size, 3, none⟩ = some (.int .i64 d1) := by rw [hwz, sets_far (w.heap.size + 1) (p := ⟨w.heap.size, 3, none⟩) (show w.heap.size ≠ w.heap.size + 1 by omega)]; simpa using ha 3 _ rfl
      have z4 : wz.cell? ⟨w.heap.size, 4, none⟩ = some (.int .i64 f1) := by rw [hwz, sets_far (w.heap.size + 1) (p := ⟨w.heap.size, 4, none⟩) (show w.heap.size ≠ w.heap.size + 1 by omega)]; simpa using ha 4 _ rfl
      have z5 : wz.cell? ⟨w.heap.size, 5, none⟩ = some (.int .i64 k1) := by rw [hwz, sets_far (w.heap.size + 1) (p := ⟨w.heap.size, 5, none⟩) (show w.heap.size ≠ w.heap.size + 1 by omega)]; simpa using ha 5 _ rfl
      have z6 : wz.cell? ⟨w.heap.size, 6, none⟩ = some (.int .i64 a2) := by rw [hwz, sets_far (w.heap.size + 1) (p := ⟨w.heap.size, 6, none⟩) (show w.heap.size ≠ w.heap.size + 1 by omega)]; simpa using ha 6 _ rfl
      have z7 : wz.cell? ⟨w.heap.size, 7, none⟩ = some (.int .i64 b2) := by rw [hwz, sets_far (w.heap.size + 1) (p := ⟨w.heap.size, 7, none⟩) (show w.heap.size ≠ w.heap.size + 1 by omega)]; simpa using ha 7 _ rfl
      have z8 : wz.cell? ⟨w.heap.size, 8, none⟩ = some (.int .i64 e2) := by rw [hwz, sets_far (w.heap.size + 1) (p := ⟨w.heap.size, 8, none⟩) (show w.heap.size ≠ w.heap.size + 1 by omega)]; simpa using ha 8 _ rfl
      have z9 : wz.cell? ⟨w.heap.size, 9, none⟩ = some (.int .i64 d2) := by rw [hwz, sets_far (w.heap.size + 1) (p := ⟨w.heap.size, 9, none⟩) (show w.heap.size ≠ w.heap.size + 1 by omega)]; simpa using ha 9 _ rfl
      have z10 : wz.cell? ⟨w.heap.size, 10, none⟩ = some (.int .i64 f2) := by rw [hwz, sets_far (w.heap.size + 1) (p := ⟨w.heap.size, 10, none⟩) (show w.heap.size ≠ w.heap.size + 1 by omega)]; simpa using ha 10 _ rfl
      have z11 : wz.cell? ⟨w.heap.size, 11, none⟩ = some (.int .i64 k2) := by rw [hwz, sets_far (w.heap.size + 1) (p := ⟨w.heap.size, 11, none⟩) (show w.heap.size ≠ w.heap.size + 1 by omega)]; simpa using ha 11 _ rfl
      have s0 : wz.cell? ⟨w.heap.size + 1, 0, none⟩ = some (.int .i64 x) := by simpa using hc 0 _ rfl
      have s1 : wz.cell? ⟨w.heap.size + 1, 1, none⟩ = some (.int .i64 y) := by simpa using hc 1 _ rfl
      have HBz : Hid (Below w.heap.size w wz) := by
        show Below _ _ _
        rw [hwz, hwy]
        exact sets_below (by omega) _ _ _ (sets_below (Nat.le_refl _) _ _ _ (HBW.out.trans (hr5.below.mono (by have := HSZ.out; omega))))
      have hwx : wz = ((((((((((((((w5.setCell ⟨w.heap.size, 0, none⟩ (.int .i64 a1)).setCell ⟨w.heap.size, 1, none⟩ (.int .i64 b1)).setCell ⟨w.heap.size, 2, none⟩ (.int .i64 e1)).setCell ⟨w.heap.size, 3, none⟩ (.int .i64 d1)).setCell ⟨w.heap.size, 4, none⟩ (.int .i64 f1)).setCell ⟨w.heap.size, 5, none⟩ (.int .i64 k1)).setCell ⟨w.heap.size, 6, none⟩ (.int .i64 a2)).setCell ⟨w.heap.size, 7, none⟩ (.int .i64 b2)).setCell ⟨w.heap.size, 8, none⟩ (.int .i64 e2)).setCell ⟨w.heap.size, 9, none⟩ (.int .i64 d2)).setCell ⟨w.heap.size, 10, none⟩ (.int .i64 f2)).setCell ⟨w.heap.size, 11, none⟩ (.int .i64 k2)).setCell ⟨w.heap.size + 1, 0, none⟩ (.int .i64 x)).setCell ⟨w.heap.size + 1, 1, none⟩ (.int .i64 y)) := by rw [hwz, hwy]; rfl
      rw [← hwx]
      clear hwx hwy hwz ha hc t0 t1 t2 t3 t4 t5 t6 t7 t8 t9 t10 t11 t12 t13 t14 t15 t16 t17 t18 t19 t20 t21 t22 t23 t24 t25 t26 t27
      go_wp2
      refine bodyPost_ret (v := .tuple #[.agg #[.int .i64 a1, .int .i64 b1, .int .i64 e1, .int .i64 d1, .int .i64 f1, .int .i64 k1, .int .i64 a2, .int .i64 b2, .int .i64 e2, .int .i64 d2, .int .i64 f2, .int .i64 k2], .agg #[.int .i64 x, .int .i64 y], .int .i64 (IntKind.i64.wrap (2 * 2 ^ min (IntKind.u64.wrap n).toNat 64))]) (by simp [results, Tryz.results8, go_sem, z0, z1, z2, z3, z4, z5, z6, z7, z8, z9, z10, z11, s0, s1]) rfl ⟨⟨⟨a1, b1, e1, d1, f1, k1⟩, ⟨a2, b2, e2, d2, f2, k2⟩⟩, (x, y), (IntKind.i64.wrap (2 * 2 ^ min (IntKind.u64.wrap n).toNat 64)), rfl, (wrapR _).1, (wrapR _).2, HBz.out⟩
  | true =>
    go_wp2
    go_region_held3 (fun W => W.cell? ⟨w2.heap.size, 0, none⟩ = some (.int .i64 a1) ∧ W.cell? ⟨w2.heap.size, 1, none⟩ = some (.int .i64 b1) ∧ W.cell? ⟨w2.heap.size, 2, none⟩ = some (.int .i64 e1) ∧ W.cell? ⟨w2.heap.size, 3, none⟩ = some (.int .i64 d1) ∧ W.cell? ⟨w2.heap.size, 4, none⟩ = some (.int .i64 f1) ∧ W.cell? ⟨w2.heap.size, 5, none⟩ = some (.int .i64 k1) ∧ W.cell? ⟨w2.heap.size, 6, none⟩ = some (.int .i64 a2) ∧ W.cell? ⟨w2.heap.size, 7, none⟩ = some (.int .i64 b2) ∧ W.cell? ⟨w2.heap.size, 8, none⟩ = some (.int .i64 e2) ∧ W.cell? ⟨w2.heap.size, 9, none⟩ = some (.int .i64 d2) ∧ W.cell? ⟨w2.heap.size, 10, none⟩ = some (.int .i64 f2) ∧ W.cell? ⟨w2.heap.size, 11, none⟩ = some (.int .i64 k2) ∧ W.cell? ⟨w3.heap.size, 0, none⟩ = some (.int .i64 x) ∧ W.cell? ⟨w3.heap.size, 1, none⟩ = some (.int .i64 y)) (first | with_reducible exact (HK.out _ hgg hrr).1 | with_reducible exact (HK.out _ hb0 HR4d.out).1 | with_reducible exact HST1.out _ (by assumption) | with_reducible exact HST2.out _ (by assumption))
      (first
      | (go_at_call 30; refine (off_any HRw.out 0 32 (by omega) (by omega) (by omega) _ HR4d.out).mono ?_; rintro e w5 ⟨n, n0, n1, rfl, hr5, hg5⟩; have hgg : w4.grownBy w5 (some (w.heap.size + 1 + 1)) := hb0.trans hg5; have hrr := hr5; obtain ⟨-, t0, t1, t2, t3, t4, t5, t6, t7, t8, t9, t10, t11, t12, t13, t14, t15, t16, t17, t18, t19, t20, t21, t22, t23, t24, t25, t26, t27⟩ := HK.out _ hgg hrr))
    all_goals
      obtain ⟨wy, hwy⟩ : ∃ u, u = sets w5 (w.heap.size) 0 [.int .i64 a1, .int .i64 b1, .int .i64 e1, .int .i64 d1, .int .i64 f1, .int .i64 k1, .int .i64 a2, .int .i64 b2, .int .i64 e2, .int .i64 d2, .int .i64 f2, .int .i64 k2] := ⟨_, rfl⟩
      have ha := sets_at (w.heap.size) [Value.int .i64 a1, .int .i64 b1, .int .i64 e1, .int .i64 d1, .int .i64 f1, .int .i64 k1, .int .i64 a2, .int .i64 b2, .int .i64 e2, .int .i64 d2, .int .i64 f2, .int .i64 k2] w5 0 (fun j hj => by
        match j, hj with
        | 0, _ => exact ⟨_, t0⟩
        | 1, _ => exact ⟨_, t1⟩
        | 2, _ => exact ⟨_, t2⟩
        | 3, _ => exact ⟨_, t3⟩
        | 4, _ => exact ⟨_, t4⟩
        | 5, _ => exact ⟨_, t5⟩
        | 6, _ => exact ⟨_, t6⟩
        | 7, _ => exact ⟨_, t7⟩
        | 8, _ => exact ⟨_, t8⟩
        | 9, _ => exact ⟨_, t9⟩
        | 10, _ => exact ⟨_, t10⟩
        | 11, _ => exact ⟨_, t11⟩)
      rw [← hwy] at ha
      have y0 : wy.cell? ⟨w.heap.size + 1, 0, none⟩ = some (.int .i64 0) := by rw [hwy, sets_far (w.heap.size) (p := ⟨w.heap.size + 1, 0, none⟩) (show w.heap.size + 1 ≠ w.heap.size by omega)]; exact t12
      have y1 : wy.cell? ⟨w.heap.size + 1, 1, none⟩ = some (.int .i64 0) := by rw [hwy, sets_far (w.heap.size) (p := ⟨w.heap.size + 1, 1, none⟩) (show w.heap.size + 1 ≠ w.heap.size by omega)]; exact t13
      obtain ⟨wz, hwz⟩ : ∃ u, u = sets wy (w.heap.size + 1) 0 [.int .i64 x, .int .i64 y] := ⟨_, rfl⟩
      have hc := sets_at (w.heap.size + 1) [Value.int .i64 x, .int .i64 y] wy 0 (fun j hj => by
        match j, hj with
        | 0, _ => exact ⟨_, y0⟩
        | 1, _ => exact ⟨_, y1⟩)
      rw [← hwz] at hc
      have z0 : wz.cell? ⟨w.heap.size, 0, none⟩ = some (.int .i64 a1) := by rw [hwz, sets_far (w.heap.size + 1) (p := ⟨w.heap.size, 0, none⟩) (show w.heap.size ≠ w.heap.size + 1 by omega)]; simpa using ha 0 _ rfl
      have z1 : wz.cell? ⟨w.heap.size, 1, none⟩ = some (.int .i64 b1) := by rw [hwz, sets_far (w.heap.size + 1) (p := ⟨w.heap.size, 1, none⟩) (show w.heap.size ≠ w.heap.size + 1 by omega)]; simpa using ha 1 _ rfl
      have z2 : wz.cell? ⟨w.heap.size, 2, none⟩ = some (.int .i64 e1) := by rw [hwz, sets_far (w.heap.size + 1) (p := ⟨w.heap.size, 2, none⟩) (show w.heap.size ≠ w.heap.size + 1 by omega)]; simpa using ha 2 _ rfl
      have z3 : wz.cell? ⟨w.heap.size, 3, none⟩ = some (.int .i64 d1) := by rw [hwz, sets_far (w.heap.size + 1) (p := ⟨w.heap.size, 3, none⟩) (show w.heap.size ≠ w.heap.size + 1 by omega)]; simpa using ha 3 _ rfl
      have z4 : wz.cell? ⟨w.heap.size, 4, none⟩ = some (.int .i64 f1) := by rw [hwz, sets_far (w.heap.size + 1) (p := ⟨w.heap.size, 4, none⟩) (show w.heap.size ≠ w.heap.size + 1 by omega)]; simpa using ha 4 _ rfl
      have z5 : wz.cell? ⟨w.heap.size, 5, none⟩ = some (.int .i64 k1) := by rw [hwz, sets_far (w.heap.size + 1) (p := ⟨w.heap.size, 5, none⟩) (show w.heap.size ≠ w.heap.size + 1 by omega)]; simpa using ha 5 _ rfl
      have z6 : wz.cell? ⟨w.heap.size, 6, none⟩ = some (.int .i64 a2) := by rw [hwz, sets_far (w.heap.size + 1) (p := ⟨w.heap.size, 6, none⟩) (show w.heap.size ≠ w.heap.size + 1 by omega)]; simpa using ha 6 _ rfl
      have z7 : wz.cell? ⟨w.heap.size, 7, none⟩ = some (.int .i64 b2) := by rw [hwz, sets_far (w.heap.size + 1) (p := ⟨w.heap.size, 7, none⟩) (show w.heap.size ≠ w.heap.size + 1 by omega)]; simpa using ha 7 _ rfl
      have z8 : wz.cell? ⟨w.heap.size, 8, none⟩ = some (.int .i64 e2) := by rw [hwz, sets_far (w.heap.size + 1) (p := ⟨w.heap.size, 8, none⟩) (show w.heap.size ≠ w.heap.size + 1 by omega)]; simpa using ha 8 _ rfl
      have z9 : wz.cell? ⟨w.heap.size, 9, none⟩ = some (.int .i64 d2) := by rw [hwz, sets_far (w.heap.size + 1) (p := ⟨w.heap.size, 9, none⟩) (show w.heap.size ≠ w.heap.size + 1 by omega)]; simpa using ha 9 _ rfl
      have z10 : wz.cell? ⟨w.heap.size, 10, none⟩ = some (.int .i64 f2) := by rw [hwz, sets_far (w.heap.size + 1) (p := ⟨w.heap.size, 10, none⟩) (show w.heap.size ≠ w.heap.size + 1 by omega)]; simpa using ha 10 _ rfl
      have z11 : wz.cell? ⟨w.heap.size, 11, none⟩ = some (.int .i64 k2) := by rw [hwz, sets_far (w.heap.size + 1) (p := ⟨w.heap.size, 11, none⟩) (show w.heap.size ≠ w.heap.size + 1 by omega)]; simpa using ha 11 _ rfl
      have s0 : wz.cell? ⟨w.heap.size + 1, 0, none⟩ = some (.int .i64 x) := by simpa using hc 0 _ rfl
      have s1 : wz.cell? ⟨w.heap.size + 1, 1, none⟩ = some (.int .i64 y) := by simpa using hc 1 _ rfl
      have HBz : Hid (Below w.heap.size w wz) := by
        show Below _ _ _
        rw [hwz, hwy]
        exact sets_below (by omega) _ _ _ (sets_below (Nat.le_refl _) _ _ _ (HBW.out.trans (hr5.below.mono (by have := HSZ.out; omega))))
      have hwx : wz = ((((((((((((((w5.setCell ⟨w.heap.size, 0, none⟩ (.int .i64 a1)).setCell ⟨w.heap.size, 1, none⟩ (.int .i64 b1)).setCell ⟨w.heap.size, 2, none⟩ (.int .i64 e1)).setCell ⟨w.heap.size, 3, none⟩ (.int .i64 d1)).setCell ⟨w.heap.size, 4, none⟩ (.int .i64 f1)).setCell ⟨w.heap.size, 5, none⟩ (.int .i64 k1)).setCell ⟨w.heap.size, 6, none⟩ (.int .i64 a2)).setCell ⟨w.heap.size, 7, none⟩ (.int .i64 b2)).setCell ⟨w.heap.size, 8, none⟩ (.int .i64 e2)).setCell ⟨w.heap.size, 9, none⟩ (.int .i64 d2)).setCell ⟨w.heap.size, 10, none⟩ (.int .i64 f2)).setCell ⟨w.heap.size, 11, none⟩ (.int .i64 k2)).setCell ⟨w.heap.size + 1, 0, none⟩ (.int .i64 x)).setCell ⟨w.heap.size + 1, 1, none⟩ (.int .i64 y)) := by rw [hwz, hwy]; rfl
      rw [← hwx]
      clear hwx hwy hwz ha hc t0 t1 t2 t3 t4 t5 t6 t7 t8 t9 t10 t11 t12 t13 t14 t15 t16 t17 t18 t19 t20 t21 t22 t23 t24 t25 t26 t27
      go_wp2
      refine bodyPost_ret (v := .tuple #[.agg #[.int .i64 a1, .int .i64 b1, .int .i64 e1, .int .i64 d1, .int .i64 f1, .int .i64 k1, .int .i64 a2, .int .i64 b2, .int .i64 e2, .int .i64 d2, .int .i64 f2, .int .i64 k2], .agg #[.int .i64 x, .int .i64 y], .int .i64 n]) (by simp [results, Tryz.results8, go_sem, z0, z1, z2, z3, z4, z5, z6, z7, z8, z9, z10, z11, s0, s1]) rfl ⟨⟨⟨a1, b1, e1, d1, f1, k1⟩, ⟨a2, b2, e2, d2, f2, k2⟩⟩, (x, y), n, rfl, by omega, by omega, HBz.out⟩
end Go.Proofs.YtbcfjbkmkknmfaaGreatDoor
namespace Go.Proofs.YtbcfjbkmkknmfaaGreatDoor
open Go.RowKit

/-- what an honest proof is, in plain terms -/
theorem M.honest {m : M.Mc} {s : Int × Int} {n : Int} (h : M.provOk m s n = true) : M.acc m (M.prv m s n) = true ∧ (((M.prv m s n).rows : Nat) : Int) = n ∧ (M.prv m s n).s = s ∧ (M.prv m s n).e = M.aft m s (n - 1) := by
  obtain ⟨hm, hs, N, rfl, hN⟩ := M.provOk_parts h
  have hb := M.rowsN_pos hN
  obtain ⟨h1, h2⟩ := M.complete hm hs hN
  have e : M.prv m s (N : Int) = m.pf s N := by rw [M.prv_in h]; rfl
  have hr : M.runOk m s ((N : Int) - 1) = true := by
    unfold M.runOk; rw [hm, hs]; simp; omega
  refine ⟨by rw [e]; exact h1, by rw [e, h2], by rw [e]; rfl, ?_⟩
  rw [e, M.aft_in hr]
  show m.rn s (N - 1) = m.rn s ((N : Int) - 1).toNat
  congr 1
  omega
end Go.Proofs.YtbcfjbkmkknmfaaGreatDoor
namespace Go.Proofs.YtbcfjbkmkknmfaaGreatDoor
open Go.RowKit

/-- what is known of a drawn proof -/
structure Dp (w0 w : World) (R : Nat) (ca : Option Addr) (len cap : Nat) (e : Ending) (W : World) (s1 s2 e1 e2 : Int) (a1 : Option Addr) (n1 c1 : Nat) (z1 : List Int) (a2 : Option Addr) (n2 c2 : Nat) (z2 : List Int) (a3 : Option Addr) (n3 c3 : Nat) (z3 : List Int) (a4 : Option Addr) (n4 c4 : Nat) (z4 : List Int) : Prop where
  val : e = .returned (.agg #[.int .i64 s1, .int .i64 s2, .int .i64 e1, .int .i64 e2, .slice a1 n1 c1, .slice a2 n2 c2, .slice a3 n3 c3, .slice a4 n4 c4])
  x : Sees W a1 n1 c1 z1
  y : Sees W a2 n2 c2 z2
  qx : Sees W a3 n3 c3 z3
  qy : Sees W a4 n4 c4 z4
  few : n1 ≤ 64 ∧ n2 ≤ 64 ∧ n3 ≤ 64 ∧ n4 ≤ 64
  lo : (∀ q, a1 = some q → w.heap.size ≤ q.block) ∧ (∀ q, a2 = some q → w.heap.size ≤ q.block) ∧ (∀ q, a3 = some q → w.heap.size ≤ q.block) ∧ (∀ q, a4 = some q → w.heap.size ≤ q.block)
  rd : Rd w0 R ca len cap W
  gr : w.grownBy W (some R)
theorem Rd.cells {w0 w : World} {R b o : Nat} {ca : Option Addr} {len cap : Nat} (h : Rd w0 R ca len cap w) (hb : w0.heap.size ≤ b) (hne : b ≠ R) (us : List Value) : Rd w0 R ca len cap (w.setCells b o us) :=
  h.keep (b := some ⟨b, 0, none⟩) (n := 1) (c := 1) (grown_cells (World.grownBy.refl _ _) o us) (fun x hx => by injection hx with hx; subst hx; exact hne) (fun x hx => by injection hx with hx; subst hx; exact hb)
theorem grown_farS {a w : World} {row : Option Nat} {b i : Nat} {v : Value} (h : a.grownBy w row) (hb : a.heap.size ≤ b) : a.grownBy (w.setCell ⟨b, i, none⟩ v) row :=
  ⟨h.os, h.tape, h.output, by simpa [World.setCell] using h.size, fun j hj hne => (Below.heap_setCell _ _ _ _ (by show j ≠ b; omega)).trans (h.block j hj hne)⟩
theorem Rd.setS {w0 w : World} {R b i : Nat} {ca : Option Addr} {len cap : Nat} {v : Value} (h : Rd w0 R ca len cap w) (hb : w0.heap.size ≤ b) (hne : b ≠ R) : Rd w0 R ca len cap (w.setCell ⟨b, i, none⟩ v) :=
  h.keep (b := some ⟨b, 0, none⟩) (n := 1) (c := 1) (grown_set (World.grownBy.refl _ _) ⟨b, i, none⟩ rfl v) (fun x hx => by injection hx with hx; subst hx; exact hne) (fun x hx => by injection hx with hx; subst hx; exact hb)
theorem Sees.setS {w : World} {a : Option Addr} {n c b i : Nat} {z : List Int} {v : Value} (h : Sees w a n c z) (hb : ∀ x, a = some x → x.block ≠ b) : Sees (w.setCell ⟨b, i, none⟩ v) a n c z :=
  h.grownR (grown_set (World.grownBy.refl _ _) ⟨b, i, none⟩ rfl v) (fun x hx e => hb x hx (Option.some.inj e).symm)
def ProvSome (W : World) (e : Ending) (w' : World) : Prop := ∃ (p1 p2 p3 p4 : Int) (L : Nat) (o : Bool) (z1 z2 z3 z4 : List Int) (g1 : Option Addr) (gc1 : Nat) (g2 : Option Addr) (gc2 : Nat) (g3 : Option Addr) (gc3 : Nat) (g4 : Option Addr) (gc4 : Nat), e = .returned (.tuple #[.agg #[.int .i64 p1, .int .i64 p2, .int .i64 p3, .int .i64 p4, .slice g1 L gc1, .slice g2 L gc2, .slice g3 L gc3, .slice g4 L gc4], .bool o]) ∧ L ≤ 64 ∧ (Owns 2 w' W.heap.size g1 L gc1 z1 ∧ Owns 2 w' W.heap.size g2 L gc2 z2 ∧ Owns 2 w' W.heap.size g3 L gc3 z3 ∧ Owns 2 w' W.heap.size g4 L gc4 z4) ∧ (far g1 g2 ∧ far g1 g3 ∧ far g1 g4 ∧ far g2 g3 ∧ far g2 g4 ∧ far g3 g4) ∧ Below W.heap.size W w'
theorem provSome_of {m : M.Mc} {s : Int × Int} {n : Int} {W : World} {e : Ending} {w' : World} (h : ProvPost m s n W e w') : ProvSome W e w' := by
  obtain ⟨a1, c1, a2, c2, a3, c3, a4, c4, he, ho, hf, hb⟩ := h
  exact ⟨_, _, _, _, _, _, _, _, _, _, a1, c1, a2, c2, a3, c3, a4, c4, he, M.pfn_le m s n, ho, hf, hb⟩
set_option maxHeartbeats 8000000 in
set_option maxRecDepth 10000 in
theorem proofR_any {w0 : World} {R : Nat} {ca : Option Addr} {len cap : Nat} {zs : List Int} (hrow : Row .u8 w0 ca len cap zs) (m : M.Mc) (w : World) (h : Rd w0 R ca len cap w) :
    Calls Tryz.prog 55 #[.pointer (some ⟨R, 0, none⟩), mcv m] w fun e w' => ∃ s1 s2 e1 e2 a1 n1 c1 z1 a2 n2 c2 z2 a3 n3 c3 z3 a4 n4 c4 z4, Dp w0 w R ca len cap e w' s1 s2 e1 e2 a1 n1 c1 z1 a2 n2 c2 z2 a3 n3 c3 z3 a4 n4 c4 z4 := by
  have CS : ∀ (s : Int × Int) (n : Int) (W : World), Calls Tryz.prog 10 #[mcv m, stv s, .int .i64 n] W (ProvPost m s n W) := fun s n W => specProved_any m s n W
  have CS : Hid (∀ (s : Int × Int) (n : Int) (W : World), Calls Tryz.prog 10 #[mcv m, stv s, .int .i64 n] W fun e w' => ProvSome W e w') := fun s n W => (CS s n W).mono fun e w' h => provSome_of h
  unfold ProvSome at CS
  have HRow : Hid (Row .u8 w0 ca len cap zs) := hrow
  have hRw : R < w.heap.size := h.hi
  obtain ⟨⟨a, b, c, d, f, k⟩, ⟨a', b', c', d', f', k'⟩⟩ := m
  dsimp only [mcv, stv] at CS ⊢
  have hba : Below w.heap.size w ((w.alloc (.cells #[.int .i64 a, .int .i64 b, .int .i64 c, .int .i64 d, .int .i64 f, .int .i64 k, .int .i64 a', .int .i64 b', .int .i64 c', .int .i64 d', .int .i64 f', .int .i64 k'] 27)).alloc (.cells #[.int .i64 0, .int .i64 0, .int .i64 0, .int .i64 0, .slice none 0 0, .slice none 0 0, .slice none 0 0, .slice none 0 0] 34)) := ((Below.refl _ _).alloc (Nat.le_refl _) _).alloc (by simp) _
  have HM_0 : Hid (Lies ((w.alloc (.cells #[.int .i64 a, .int .i64 b, .int .i64 c, .int .i64 d, .int .i64 f, .int .i64 k, .int .i64 a', .int .i64 b', .int .i64 c', .int .i64 d', .int .i64 f', .int .i64 k'] 27)).alloc (.cells #[.int .i64 0, .int .i64 0, .int .i64 0, .int .i64 0, .slice none 0 0, .slice none 0 0, .slice none 0 0, .slice none 0 0] 34)) w.heap.size [.int .i64 a, .int .i64 b, .int .i64 c, .int .i64 d, .int .i64 f, .int .i64 k, .int .i64 a', .int .i64 b', .int .i64 c', .int .i64 d', .int .i64 f', .int .i64 k']) := (lies_new _ _ _).alloc _
  have HZ_0 : Hid (Lies ((w.alloc (.cells #[.int .i64 a, .int .i64 b, .int .i64 c, .int .i64 d, .int .i64 f, .int .i64 k, .int .i64 a', .int .i64 b', .int .i64 c', .int .i64 d', .int .i64 f', .int .i64 k'] 27)).alloc (.cells #[.int .i64 0, .int .i64 0, .int .i64 0, .int .i64 0, .slice none 0 0, .slice none 0 0, .slice none 0 0, .slice none 0 0] 34)) (w.heap.size + 1) [.int .i64 0, .int .i64 0, .int .i64 0, .int .i64 0, .slice none 0 0, .slice none 0 0, .slice none 0 0, .slice none 0 0]) := lies_new2 _ _ _ _
  have RD_0 : Hid (Rd w0 R ca len cap ((w.alloc (.cells #[.int .i64 a, .int .i64 b, .int .i64 c, .int .i64 d, .int .i64 f, .int .i64 k, .int .i64 a', .int .i64 b', .int .i64 c', .int .i64 d', .int .i64 f', .int .i64 k'] 27)).alloc (.cells #[.int .i64 0, .int .i64 0, .int .i64 0, .int .i64 0, .slice none 0 0, .slice none 0 0, .slice none 0 0, .slice none 0 0] 34))) := (h.alloc _).alloc _
  have GR_0 : Hid (w.grownBy ((w.alloc (.cells #[.int .i64 a, .int .i64 b, .int .i64 c, .int .i64 d, .int .i64 f, .int .i64 k, .int .i64 a', .int .i64 b', .int .i64 c', .int .i64 d', .int .i64 f', .int .i64 k'] 27)).alloc (.cells #[.int .i64 0, .int .i64 0, .int .i64 0, .int .i64 0, .slice none 0 0, .slice none 0 0, .slice none 0 0, .slice none 0 0] 34)) (some R)) := grown_of_below hba _
  have hqs : ((w.alloc (.cells #[.int .i64 a, .int .i64 b, .int .i64 c, .int .i64 d, .int .i64 f, .int .i64 k, .int .i64 a', .int .i64 b', .int .i64 c', .int .i64 d', .int .i64 f', .int .i64 k'] 27)).alloc (.cells #[.int .i64 0, .int .i64 0, .int .i64 0, .int .i64 0, .slice none 0 0, .slice none 0 0, .slice none 0 0, .slice none 0 0] 34)).heap.size = w.heap.size + 2 := by simp
  have hw0 : w0.heap.size ≤ w.heap.size := h.below.size
  clear hba h hrow
  go_enter Tryz.func55, Tryz.ntmps55
  go_wp2_with fail
  generalize ((w.alloc (.cells #[.int .i64 a, .int .i64 b, .int .i64 c, .int .i64 d, .int .i64 f, .int .i64 k, .int .i64 a', .int .i64 b', .int .i64 c', .int .i64 d', .int .i64 f', .int .i64 k'] 27)).alloc (.cells #[.int .i64 0, .int .i64 0, .int .i64 0, .int .i64 0, .slice none 0 0, .slice none 0 0, .slice none 0 0, .slice none 0 0] 34)) = wq at hqs HM_0 HZ_0 RD_0 GR_0 ⊢
  have HNm : some R ≠ some w.heap.size := by simp; omega
  have HNz : some R ≠ some (w.heap.size + 1) := by simp; omega
  have HPBL : Hid (∀ p, wq.heap.size ≤ p → w.heap.size ≠ p ∧ w.heap.size + 1 ≠ p ∧ w0.heap.size ≤ p ∧ p ≠ R ∧ w.heap.size ≤ p ∧ some R ≠ some p) := fun p hp => ⟨by omega, by omega, by omega, by omega, by omega, by simp; omega⟩
  apply cutKey
  case f =>
    intro key
    refine wp_region_noPanic ?_
    refine wp_region_held_drew (S := fun W => wq.grownBy W (some R)) (by kernel_rfl) (grown_drew _ _) (fun hHeld => ?_)
    have hbd : Below wq.heap.size wq wq.drew := (Below.refl _ _).drew
    have HM_r0 : Hid (Lies wq.drew w.heap.size [.int .i64 a, .int .i64 b, .int .i64 c, .int .i64 d, .int .i64 f, .int .i64 k, .int .i64 a', .int .i64 b', .int .i64 c', .int .i64 d', .int .i64 f', .int .i64 k']) := HM_0.out.belowS hbd
    have HZ_r0 : Hid (Lies wq.drew (w.heap.size + 1) [.int .i64 0, .int .i64 0, .int .i64 0, .int .i64 0, .slice none 0 0, .slice none 0 0, .slice none 0 0, .slice none 0 0]) := HZ_0.out.belowS hbd
    have RD_r0 : Hid (Rd w0 R ca len cap wq.drew) := RD_0.out.grow hbd
    have GR_r0 : Hid (w.grownBy wq.drew (some R)) := GR_0.out.trans (grown_of_below hbd _)
    generalize wq.drew = wd0 at hHeld HM_r0 HZ_r0 RD_r0 GR_r0 ⊢
    clear hbd
    refine wpAnyH_take (i := 0) (v := .agg ([.int .i64 a, .int .i64 b, .int .i64 c, .int .i64 d, .int .i64 f, .int .i64 k, .int .i64 a', .int .i64 b', .int .i64 c', .int .i64 d', .int .i64 f', .int .i64 k']).toArray) rfl (by kernel_rfl) (by kernel_rfl) (by kernel_rfl) (fun _ _ _ h => h) (yieldsIf_load_mid (by kernel_rfl) 27 (.tmp 3) rfl w.heap.size 0 rfl ([.int .i64 a, .int .i64 b, .int .i64 c, .int .i64 d, .int .i64 f, .int .i64 k, .int .i64 a', .int .i64 b', .int .i64 c', .int .i64 d', .int .i64 f', .int .i64 k']) _ (fun W h => (HM_0.out.grown h HNm).row) Tryz.underlying27 rfl (by kernel_rfl)) (by assumption) ?_
    try simp only [Act.put]
    refine wpAnyH_take (i := 1) (v := .pointer (some ⟨R, 0, none⟩)) rfl (by kernel_rfl) (by kernel_rfl) (by kernel_rfl) (fun _ _ _ h => h) (Or.inl ⟨by kernel_rfl, ?_⟩) (by assumption) ?_
    · intro wq hSq; go_simp
    try simp only [Act.put]
    refine wpAnyH_take (i := 3) (v := .pointer (some ⟨R, 0, none⟩)) rfl (by kernel_rfl) (by kernel_rfl) (by kernel_rfl) (fun _ _ _ h => h) (Or.inl ⟨by kernel_rfl, ?_⟩) (by assumption) ?_
    · intro wq hSq; go_simp
    try simp only [Act.put]
    refine wpAnyH_ready (rs := [2, 11]) (by kernel_rfl) (by simp) ?_
    refine AllReadyH.cons rfl (fun Kk hK => ?_) (AllReadyH.cons rfl (fun Kk hK => ?_) (AllReadyH.nil))
    · go_simp
      refine (stateR_any HRow.out _ RD_r0.out).mono ?_
      rintro e wd1 ⟨⟨x, y⟩, rfl, hr1, hg1⟩
      go_simp
      have hS1 : wq.grownBy wd1 (some R) := hHeld.trans hg1
      have HM_t1 : Hid (Lies wd1 w.heap.size [.int .i64 a, .int .i64 b, .int .i64 c, .int .i64 d, .int .i64 f, .int .i64 k, .int .i64 a', .int .i64 b', .int .i64 c', .int .i64 d', .int .i64 f', .int .i64 k']) := HM_r0.out.grown hg1 HNm
      have HZ_t1 : Hid (Lies wd1 (w.heap.size + 1) [.int .i64 0, .int .i64 0, .int .i64 0, .int .i64 0, .slice none 0 0, .slice none 0 0, .slice none 0 0, .slice none 0 0]) := HZ_r0.out.grown hg1 HNz
      have RD_t1 : Hid (Rd w0 R ca len cap wd1) := hr1
      have GR_t1 : Hid (w.grownBy wd1 (some R)) := GR_r0.out.trans hg1
      refine hK.out _ _ hS1 (fun _ => ?_)
      clear hK Kk hg1 hr1 HM_r0 HZ_r0 RD_r0 GR_r0
      try simp only [Act.put]
      refine wpAnyH_ready (rs := [4, 11]) (by kernel_rfl) (by simp) ?_
      refine AllReadyH.cons rfl (fun Kk hK => ?_) (AllReadyH.cons rfl (fun Kk hK => ?_) (AllReadyH.nil))
      · go_simp
        refine (below_any HRow.out 3 (by decide) (by decide) _ RD_t1.out).mono ?_
        rintro e wd2 ⟨v, v0, v1, rfl, hr2, hg2⟩
        go_simp
        have hS2 : wq.grownBy wd2 (some R) := hS1.trans hg2
        have HM_t2 : Hid (Lies wd2 w.heap.size [.int .i64 a, .int .i64 b, .int .i64 c, .int .i64 d, .int .i64 f, .int .i64 k, .int .i64 a', .int .i64 b', .int .i64 c', .int .i64 d', .int .i64 f', .int .i64 k']) := HM_t1.out.grown hg2 HNm
        have HZ_t2 : Hid (Lies wd2 (w.heap.size + 1) [.int .i64 0, .int .i64 0, .int .i64 0, .int .i64 0, .slice none 0 0, .slice none 0 0, .slice none 0 0, .slice none 0 0]) := HZ_t1.out.grown hg2 HNz
        have RD_t2 : Hid (Rd w0 R ca len cap wd2) := hr2
        have GR_t2 : Hid (w.grownBy wd2 (some R)) := GR_t1.out.trans hg2
        refine hK.out _ _ hS2 (fun _ => ?_)
        clear hK Kk hg2 hr2 HM_t1 HZ_t1 RD_t1 GR_t1
        try simp only [Act.put]
        refine wpAnyH_take (i := 5) (v := .int .u64 (IntKind.u64.wrap v)) rfl (by kernel_rfl) (by kernel_rfl) (by kernel_rfl) (fun _ _ _ h => h) (Or.inl ⟨by kernel_rfl, ?_⟩) (by assumption) ?_
        · intro wq hSq; go_simp
        try simp only [Act.put]
        refine wpAnyH_take (i := 6) (v := .int .i64 (IntKind.i64.wrap (2 * 2 ^ min (IntKind.u64.wrap v).toNat 64))) rfl (by kernel_rfl) (by kernel_rfl) (by kernel_rfl) (fun _ _ _ h => h) (Or.inl ⟨by kernel_rfl, ?_⟩) (by assumption) ?_
        · intro wq hSq; go_simp
        try simp only [Act.put]
        refine wpAnyH_ready (rs := [7, 11]) (by kernel_rfl) (by simp) ?_
        refine AllReadyH.cons rfl (fun Kk hK => ?_) (AllReadyH.cons rfl (fun Kk hK => ?_) (AllReadyH.nil))
        · go_simp
          refine (CS.out (x, y) (IntKind.i64.wrap (2 * 2 ^ min (IntKind.u64.wrap v).toNat 64)) _).mono ?_
          rintro e wd3 ⟨p1, p2, p3, p4, L, o, z1, z2, z3, z4, g1, gc1, g2, gc2, g3, gc3, g4, gc4, rfl, hL, ⟨q1, q2, q3, q4⟩, hfar, hb3⟩
          go_simp
          have hS3 : wq.grownBy wd3 (some R) := hS2.trans (grown_of_below hb3 _)
          have HM_t3 : Hid (Lies wd3 w.heap.size [.int .i64 a, .int .i64 b, .int .i64 c, .int .i64 d, .int .i64 f, .int .i64 k, .int .i64 a', .int .i64 b', .int .i64 c', .int .i64 d', .int .i64 f', .int .i64 k']) := HM_t2.out.belowS hb3
          have HZ_t3 : Hid (Lies wd3 (w.heap.size + 1) [.int .i64 0, .int .i64 0, .int .i64 0, .int .i64 0, .slice none 0 0, .slice none 0 0, .slice none 0 0, .slice none 0 0]) := HZ_t2.out.belowS hb3
          have RD_t3 : Hid (Rd w0 R ca len cap wd3) := RD_t2.out.grow hb3
          have GR_t3 : Hid (w.grownBy wd3 (some R)) := GR_t2.out.trans (grown_of_below hb3 _)
          have O1_t3 : Hid (Owns 2 wd3 wq.heap.size g1 L gc1 z1) := q1.mono hS2.size
          have O2_t3 : Hid (Owns 2 wd3 wq.heap.size g2 L gc2 z2) := q2.mono hS2.size
          have O3_t3 : Hid (Owns 2 wd3 wq.heap.size g3 L gc3 z3) := q3.mono hS2.size
          have O4_t3 : Hid (Owns 2 wd3 wq.heap.size g4 L gc4 z4) := q4.mono hS2.size
          have FA_t3 : Hid (far g1 g2 ∧ far g1 g3 ∧ far g1 g4 ∧ far g2 g3 ∧ far g2 g4 ∧ far g3 g4) := hfar
          have LL_t3 : Hid (L ≤ 64) := hL
          clear q1 q2 q3 q4 hfar hL
          refine hK.out _ _ hS3 (fun _ => ?_)
          clear hK Kk hb3 HM_t2 HZ_t2 RD_t2 GR_t2
          try simp only [Act.put]
          refine wpAnyH_take (i := 8) (v := .tuple #[.agg #[.int .i64 p1, .int .i64 p2, .int .i64 p3, .int .i64 p4, .slice g1 L gc1, .slice g2 L gc2, .slice g3 L gc3, .slice g4 L gc4], .bool o]) rfl (by kernel_rfl) (by kernel_rfl) (by kernel_rfl) (fun _ _ _ h => h) (Or.inl ⟨by kernel_rfl, ?_⟩) (by assumption) ?_
          · intro wq hSq; go_simp
          try simp only [Act.put]
          refine wpAnyH_take (i := 9) (v := .agg #[.int .i64 p1, .int .i64 p2, .int .i64 p3, .int .i64 p4, .slice g1 L gc1, .slice g2 L gc2, .slice g3 L gc3, .slice g4 L gc4]) rfl (by kernel_rfl) (by kernel_rfl) (by kernel_rfl) (fun _ _ _ h => h) (Or.inl ⟨by kernel_rfl, ?_⟩) (by assumption) ?_
          · intro wq hSq; go_simp
          try simp only [Act.put]
          refine wpAnyH_take (i := 10) (v := .bool o) rfl (by kernel_rfl) (by kernel_rfl) (by kernel_rfl) (fun _ _ _ h => h) (Or.inl ⟨by kernel_rfl, ?_⟩) (by assumption) ?_
          · intro wq hSq; go_simp
          try simp only [Act.put]
          refine wpAnyH_ready (rs := [11]) (by kernel_rfl) (by simp) ?_
          refine AllReadyH.cons rfl (fun Kk hK => ?_) (AllReadyH.nil)
          · rw [if_pos (by kernel_rfl)]
            refine wp_alloc_as 34 rfl #[.int .i64 0, .int .i64 0, .int .i64 0, .int .i64 0, .slice none 0 0, .slice none 0 0, .slice none 0 0, .slice none 0 0] (by kernel_rfl) ?_
            have hba : Below wd3.heap.size wd3 (wd3.alloc (.cells #[.int .i64 0, .int .i64 0, .int .i64 0, .int .i64 0, .slice none 0 0, .slice none 0 0, .slice none 0 0, .slice none 0 0] 34)) := (Below.refl _ _).alloc (Nat.le_refl _) _
            have hS4 : wq.grownBy (wd3.alloc (.cells #[.int .i64 0, .int .i64 0, .int .i64 0, .int .i64 0, .slice none 0 0, .slice none 0 0, .slice none 0 0, .slice none 0 0] 34)) (some R) := grown_alloc hS3 _
            have HM_t4 : Hid (Lies (wd3.alloc (.cells #[.int .i64 0, .int .i64 0, .int .i64 0, .int .i64 0, .slice none 0 0, .slice none 0 0, .slice none 0 0, .slice none 0 0] 34)) w.heap.size [.int .i64 a, .int .i64 b, .int .i64 c, .int .i64 d, .int .i64 f, .int .i64 k, .int .i64 a', .int .i64 b', .int .i64 c', .int .i64 d', .int .i64 f', .int .i64 k']) := HM_t3.out.belowS hba
            have HZ_t4 : Hid (Lies (wd3.alloc (.cells #[.int .i64 0, .int .i64 0, .int .i64 0, .int .i64 0, .slice none 0 0, .slice none 0 0, .slice none 0 0, .slice none 0 0] 34)) (w.heap.size + 1) [.int .i64 0, .int .i64 0, .int .i64 0, .int .i64 0, .slice none 0 0, .slice none 0 0, .slice none 0 0, .slice none 0 0]) := HZ_t3.out.belowS hba
            have RD_t4 : Hid (Rd w0 R ca len cap (wd3.alloc (.cells #[.int .i64 0, .int .i64 0, .int .i64 0, .int .i64 0, .slice none 0 0, .slice none 0 0, .slice none 0 0, .slice none 0 0] 34))) := RD_t3.out.grow hba
            have GR_t4 : Hid (w.grownBy (wd3.alloc (.cells #[.int .i64 0, .int .i64 0, .int .i64 0, .int .i64 0, .slice none 0 0, .slice none 0 0, .slice none 0 0, .slice none 0 0] 34)) (some R)) := GR_t3.out.trans (grown_of_below hba _)
            have O1_t4 : Hid (Owns 2 (wd3.alloc (.cells #[.int .i64 0, .int .i64 0, .int .i64 0, .int .i64 0, .slice none 0 0, .slice none 0 0, .slice none 0 0, .slice none 0 0] 34)) wq.heap.size g1 L gc1 z1) := O1_t3.out.below hba
            have O2_t4 : Hid (Owns 2 (wd3.alloc (.cells #[.int .i64 0, .int .i64 0, .int .i64 0, .int .i64 0, .slice none 0 0, .slice none 0 0, .slice none 0 0, .slice none 0 0] 34)) wq.heap.size g2 L gc2 z2) := O2_t3.out.below hba
            have O3_t4 : Hid (Owns 2 (wd3.alloc (.cells #[.int .i64 0, .int .i64 0, .int .i64 0, .int .i64 0, .slice none 0 0, .slice none 0 0, .slice none 0 0, .slice none 0 0] 34)) wq.heap.size g3 L gc3 z3) := O3_t3.out.below hba
            have O4_t4 : Hid (Owns 2 (wd3.alloc (.cells #[.int .i64 0, .int .i64 0, .int .i64 0, .int .i64 0, .slice none 0 0, .slice none 0 0, .slice none 0 0, .slice none 0 0] 34)) wq.heap.size g4 L gc4 z4) := O4_t3.out.below hba
            have HA_t4 : Hid (Lies (wd3.alloc (.cells #[.int .i64 0, .int .i64 0, .int .i64 0, .int .i64 0, .slice none 0 0, .slice none 0 0, .slice none 0 0, .slice none 0 0] 34)) wd3.heap.size [.int .i64 0, .int .i64 0, .int .i64 0, .int .i64 0, .slice none 0 0, .slice none 0 0, .slice none 0 0, .slice none 0 0]) := lies_new _ _ _
            have PB_t4 : Hid (wq.heap.size ≤ wd3.heap.size) := hS3.size
            have NE1_t4 : Hid (∀ q, g1 = some q → q.block ≠ wd3.heap.size) := fun q hq => Nat.ne_of_lt (O1_t3.out.hi q hq)
            have NE2_t4 : Hid (∀ q, g2 = some q → q.block ≠ wd3.heap.size) := fun q hq => Nat.ne_of_lt (O2_t3.out.hi q hq)
            have NE3_t4 : Hid (∀ q, g3 = some q → q.block ≠ wd3.heap.size) := fun q hq => Nat.ne_of_lt (O3_t3.out.hi q hq)
            have NE4_t4 : Hid (∀ q, g4 = some q → q.block ≠ wd3.heap.size) := fun q hq => Nat.ne_of_lt (O4_t3.out.hi q hq)
            refine hK.out _ _ hS4 (fun _ => ?_)
            clear hK Kk hba HM_t3 HZ_t3 RD_t3 GR_t3 O1_t3 O2_t3 O3_t3 O4_t3
            generalize (wd3.alloc (.cells #[.int .i64 0, .int .i64 0, .int .i64 0, .int .i64 0, .slice none 0 0, .slice none 0 0, .slice none 0 0, .slice none 0 0] 34)) = wd4 at HA_t4 hS4 HM_t4 HZ_t4 RD_t4 GR_t4 O1_t4 O2_t4 O3_t4 O4_t4 ⊢
            generalize wd3.heap.size = pb4 at HA_t4 PB_t4 NE1_t4 NE2_t4 NE3_t4 NE4_t4 ⊢
            try simp only [Act.put]
            refine wpAnyH_ready (rs := [12]) (by kernel_rfl) (by simp) ?_
            refine AllReadyH.cons rfl (fun Kk hK => ?_) AllReadyH.nil
            rw [if_pos (by kernel_rfl)]
            with_reducible refine wp_store_mid 34 (.tmp 5) (.tmp 19) ?_ pb4 0 ([.int .i64 p1, .int .i64 p2, .int .i64 p3, .int .i64 p4, .slice g1 L gc1, .slice g2 L gc2, .slice g3 L gc3, .slice g4 L gc4]).toArray ?_ ?_ ?_ (by kernel_rfl) (by kernel_rfl) ?_
            · exact rfl
            · exact rfl
            · exact rfl
            · exact HA_t4.out.there 0 8 (by simp)
            have hPB := PB_t4.out
            obtain ⟨kM, kZ, kW, kR, kw, kS⟩ := HPBL.out _ hPB
            have hSz : wq.grownBy (wd4.setCells pb4 0 [.int .i64 p1, .int .i64 p2, .int .i64 p3, .int .i64 p4, .slice g1 L gc1, .slice g2 L gc2, .slice g3 L gc3, .slice g4 L gc4]) (some R) := grown_far hS4 hPB 0 _
            have HP_z : Hid (Lies (wd4.setCells pb4 0 [.int .i64 p1, .int .i64 p2, .int .i64 p3, .int .i64 p4, .slice g1 L gc1, .slice g2 L gc2, .slice g3 L gc3, .slice g4 L gc4]) pb4 [.int .i64 p1, .int .i64 p2, .int .i64 p3, .int .i64 p4, .slice g1 L gc1, .slice g2 L gc2, .slice g3 L gc3, .slice g4 L gc4]) := HA_t4.out.setCells [.int .i64 p1, .int .i64 p2, .int .i64 p3, .int .i64 p4, .slice g1 L gc1, .slice g2 L gc2, .slice g3 L gc3, .slice g4 L gc4] 0 (by simp)
            have HM_z : Hid (Lies (wd4.setCells pb4 0 [.int .i64 p1, .int .i64 p2, .int .i64 p3, .int .i64 p4, .slice g1 L gc1, .slice g2 L gc2, .slice g3 L gc3, .slice g4 L gc4]) w.heap.size [.int .i64 a, .int .i64 b, .int .i64 c, .int .i64 d, .int .i64 f, .int .i64 k, .int .i64 a', .int .i64 b', .int .i64 c', .int .i64 d', .int .i64 f', .int .i64 k']) := Lies.farCells _ 0 HM_t4.out kM
            have HZ_z : Hid (Lies (wd4.setCells pb4 0 [.int .i64 p1, .int .i64 p2, .int .i64 p3, .int .i64 p4, .slice g1 L gc1, .slice g2 L gc2, .slice g3 L gc3, .slice g4 L gc4]) (w.heap.size + 1) [.int .i64 0, .int .i64 0, .int .i64 0, .int .i64 0, .slice none 0 0, .slice none 0 0, .slice none 0 0, .slice none 0 0]) := Lies.farCells _ 0 HZ_t4.out kZ
            have RD_z : Hid (Rd w0 R ca len cap (wd4.setCells pb4 0 [.int .i64 p1, .int .i64 p2, .int .i64 p3, .int .i64 p4, .slice g1 L gc1, .slice g2 L gc2, .slice g3 L gc3, .slice g4 L gc4])) := RD_t4.out.cells kW kR _
            have GR_z : Hid (w.grownBy (wd4.setCells pb4 0 [.int .i64 p1, .int .i64 p2, .int .i64 p3, .int .i64 p4, .slice g1 L gc1, .slice g2 L gc2, .slice g3 L gc3, .slice g4 L gc4]) (some R)) := grown_far GR_t4.out kw 0 _
            have O1_z : Hid (Owns 2 (wd4.setCells pb4 0 [.int .i64 p1, .int .i64 p2, .int .i64 p3, .int .i64 p4, .slice g1 L gc1, .slice g2 L gc2, .slice g3 L gc3, .slice g4 L gc4]) wq.heap.size g1 L gc1 z1) := O1_t4.out.grownR (grown_cells (World.grownBy.refl _ _) 0 _) (fun q hq e => NE1_t4.out q hq (Option.some.inj e).symm)
            have O2_z : Hid (Owns 2 (wd4.setCells pb4 0 [.int .i64 p1, .int .i64 p2, .int .i64 p3, .int .i64 p4, .slice g1 L gc1, .slice g2 L gc2, .slice g3 L gc3, .slice g4 L gc4]) wq.heap.size g2 L gc2 z2) := O2_t4.out.grownR (grown_cells (World.grownBy.refl _ _) 0 _) (fun q hq e => NE2_t4.out q hq (Option.some.inj e).symm)
            have O3_z : Hid (Owns 2 (wd4.setCells pb4 0 [.int .i64 p1, .int .i64 p2, .int .i64 p3, .int .i64 p4, .slice g1 L gc1, .slice g2 L gc2, .slice g3 L gc3, .slice g4 L gc4]) wq.heap.size g3 L gc3 z3) := O3_t4.out.grownR (grown_cells (World.grownBy.refl _ _) 0 _) (fun q hq e => NE3_t4.out q hq (Option.some.inj e).symm)
            have O4_z : Hid (Owns 2 (wd4.setCells pb4 0 [.int .i64 p1, .int .i64 p2, .int .i64 p3, .int .i64 p4, .slice g1 L gc1, .slice g2 L gc2, .slice g3 L gc3, .slice g4 L gc4]) wq.heap.size g4 L gc4 z4) := O4_t4.out.grownR (grown_cells (World.grownBy.refl _ _) 0 _) (fun q hq e => NE4_t4.out q hq (Option.some.inj e).symm)
            refine hK.out _ _ hSz (fun hSzz => ?_)
            clear hK Kk hSzz
            generalize (wd4.setCells pb4 0 [.int .i64 p1, .int .i64 p2, .int .i64 p3, .int .i64 p4, .slice g1 L gc1, .slice g2 L gc2, .slice g3 L gc3, .slice g4 L gc4]) = wz at hSz HP_z HM_z HZ_z RD_z GR_z O1_z O2_z O3_z O4_z ⊢
            try simp only [Act.put]
            refine wpAnyH_take (i := 13) (v := .bool o) rfl (by kernel_rfl) (by kernel_rfl) (by kernel_rfl) (fun _ _ _ h => h) (Or.inl ⟨by kernel_rfl, ?_⟩) (by assumption) ?_
            · intro wq hSq; go_simp
            try simp only [Act.put]
            refine wpAnyH_done (by kernel_rfl) ?_ _
            refine NoPanic.normal ?_
            go_simp
            clear hSz hPB kM kZ kW kR kw kS
            have J_HM : Hid _ := HM_z.out
            have J_HZ : Hid _ := HZ_z.out
            have J_RD : Hid _ := RD_z.out
            have J_GR : Hid _ := GR_z.out
            have J_O1 : Hid _ := O1_z.out
            have J_O2 : Hid _ := O2_z.out
            have J_O3 : Hid _ := O3_z.out
            have J_O4 : Hid _ := O4_z.out
            have J_FA : Hid _ := FA_t3.out
            have J_LL : Hid _ := LL_t3.out
            have J_PB : Hid _ := PB_t4.out
            have J_NE1 : Hid _ := NE1_t4.out
            have J_NE2 : Hid _ := NE2_t4.out
            have J_NE3 : Hid _ := NE3_t4.out
            have J_NE4 : Hid _ := NE4_t4.out
            have J_HP : Hid _ := HP_z.out
            clear HM_z HZ_z RD_z GR_z O1_z O2_z O3_z O4_z HP_z HM_t4 HZ_t4 RD_t4 GR_t4 O1_t4 O2_t4 O3_t4 O4_t4 FA_t3 LL_t3 HA_t4 PB_t4 NE1_t4 NE2_t4 NE3_t4 NE4_t4
            generalize pb4 = pb at J_PB J_NE1 J_NE2 J_NE3 J_NE4 J_HP ⊢
            revert J_HP J_NE4 J_NE3 J_NE2 J_NE1 J_PB J_LL J_FA J_O4 J_O3 J_O2 J_O1 J_GR J_RD J_HZ J_HM
            revert wz
            revert pb
            revert gc4
            revert g4
            revert z4
            revert gc3
            revert g3
            revert z3
            revert gc2
            revert g2
            revert z2
            revert gc1
            revert g1
            revert z1
            revert o
            revert L
            revert p4
            revert p3
            revert p2
            revert p1
            clear v0 v1
            revert v
            revert y
            revert x
            exact key
        · rw [if_pos (by kernel_rfl)]
          refine wp_alloc_as 34 rfl #[.int .i64 0, .int .i64 0, .int .i64 0, .int .i64 0, .slice none 0 0, .slice none 0 0, .slice none 0 0, .slice none 0 0] (by kernel_rfl) ?_
          have hba : Below wd2.heap.size wd2 (wd2.alloc (.cells #[.int .i64 0, .int .i64 0, .int .i64 0, .int .i64 0, .slice none 0 0, .slice none 0 0, .slice none 0 0, .slice none 0 0] 34)) := (Below.refl _ _).alloc (Nat.le_refl _) _
          have hS5 : wq.grownBy (wd2.alloc (.cells #[.int .i64 0, .int .i64 0, .int .i64 0, .int .i64 0, .slice none 0 0, .slice none 0 0, .slice none 0 0, .slice none 0 0] 34)) (some R) := grown_alloc hS2 _
          have HM_t5 : Hid (Lies (wd2.alloc (.cells #[.int .i64 0, .int .i64 0, .int .i64 0, .int .i64 0, .slice none 0 0, .slice none 0 0, .slice none 0 0, .slice none 0 0] 34)) w.heap.size [.int .i64 a, .int .i64 b, .int .i64 c, .int .i64 d, .int .i64 f, .int .i64 k, .int .i64 a', .int .i64 b', .int .i64 c', .int .i64 d', .int .i64 f', .int .i64 k']) := HM_t2.out.belowS hba
          have HZ_t5 : Hid (Lies (wd2.alloc (.cells #[.int .i64 0, .int .i64 0, .int .i64 0, .int .i64 0, .slice none 0 0, .slice none 0 0, .slice none 0 0, .slice none 0 0] 34)) (w.heap.size + 1) [.int .i64 0, .int .i64 0, .int .i64 0, .int .i64 0, .slice none 0 0, .slice none 0 0, .slice none 0 0, .slice none 0 0]) := HZ_t2.out.belowS hba
          have RD_t5 : Hid (Rd w0 R ca len cap (wd2.alloc (.cells #[.int .i64 0, .int .i64 0, .int .i64 0, .int .i64 0, .slice none 0 0, .slice none 0 0, .slice none 0 0, .slice none 0 0] 34))) := RD_t2.out.grow hba
          have GR_t5 : Hid (w.grownBy (wd2.alloc (.cells #[.int .i64 0, .int .i64 0, .int .i64 0, .int .i64 0, .slice none 0 0, .slice none 0 0, .slice none 0 0, .slice none 0 0] 34)) (some R)) := GR_t2.out.trans (grown_of_below hba _)
          have HA_t5 : Hid (Lies (wd2.alloc (.cells #[.int .i64 0, .int .i64 0, .int .i64 0, .int .i64 0, .slice none 0 0, .slice none 0 0, .slice none 0 0, .slice none 0 0] 34)) wd2.heap.size [.int .i64 0, .int .i64 0, .int .i64 0, .int .i64 0, .slice none 0 0, .slice none 0 0, .slice none 0 0, .slice none 0 0]) := lies_new _ _ _
          have PB_t5 : Hid (wq.heap.size ≤ wd2.heap.size) := hS2.size
          refine hK.out _ _ hS5 (fun _ => ?_)
          clear hK Kk hba HM_t2 HZ_t2 RD_t2 GR_t2
          generalize (wd2.alloc (.cells #[.int .i64 0, .int .i64 0, .int .i64 0, .int .i64 0, .slice none 0 0, .slice none 0 0, .slice none 0 0, .slice none 0 0] 34)) = wd5 at HA_t5 hS5 HM_t5 HZ_t5 RD_t5 GR_t5 ⊢
          generalize wd2.heap.size = pb5 at HA_t5 PB_t5 ⊢
          try simp only [Act.put]
          refine wpAnyH_ready (rs := [7]) (by kernel_rfl) (by simp) ?_
          refine AllReadyH.cons rfl (fun Kk hK => ?_) (AllReadyH.nil)
          · go_simp
            refine (CS.out (x, y) (IntKind.i64.wrap (2 * 2 ^ min (IntKind.u64.wrap v).toNat 64)) _).mono ?_
            rintro e wd6 ⟨p1, p2, p3, p4, L, o, z1, z2, z3, z4, g1, gc1, g2, gc2, g3, gc3, g4, gc4, rfl, hL, ⟨q1, q2, q3, q4⟩, hfar, hb6⟩
            go_simp
            have hS6 : wq.grownBy wd6 (some R) := hS5.trans (grown_of_below hb6 _)
            have HM_t6 : Hid (Lies wd6 w.heap.size [.int .i64 a, .int .i64 b, .int .i64 c, .int .i64 d, .int .i64 f, .int .i64 k, .int .i64 a', .int .i64 b', .int .i64 c', .int .i64 d', .int .i64 f', .int .i64 k']) := HM_t5.out.belowS hb6
            have HZ_t6 : Hid (Lies wd6 (w.heap.size + 1) [.int .i64 0, .int .i64 0, .int .i64 0, .int .i64 0, .slice none 0 0, .slice none 0 0, .slice none 0 0, .slice none 0 0]) := HZ_t5.out.belowS hb6
            have RD_t6 : Hid (Rd w0 R ca len cap wd6) := RD_t5.out.grow hb6
            have GR_t6 : Hid (w.grownBy wd6 (some R)) := GR_t5.out.trans (grown_of_below hb6 _)
            have HA_t6 : Hid (Lies wd6 pb5 [.int .i64 0, .int .i64 0, .int .i64 0, .int .i64 0, .slice none 0 0, .slice none 0 0, .slice none 0 0, .slice none 0 0]) := HA_t5.out.belowS hb6
            have O1_t6 : Hid (Owns 2 wd6 wq.heap.size g1 L gc1 z1) := q1.mono hS5.size
            have O2_t6 : Hid (Owns 2 wd6 wq.heap.size g2 L gc2 z2) := q2.mono hS5.size
            have O3_t6 : Hid (Owns 2 wd6 wq.heap.size g3 L gc3 z3) := q3.mono hS5.size
            have O4_t6 : Hid (Owns 2 wd6 wq.heap.size g4 L gc4 z4) := q4.mono hS5.size
            have FA_t6 : Hid (far g1 g2 ∧ far g1 g3 ∧ far g1 g4 ∧ far g2 g3 ∧ far g2 g4 ∧ far g3 g4) := hfar
            have LL_t6 : Hid (L ≤ 64) := hL
            have NE1_t6 : Hid (∀ q, g1 = some q → q.block ≠ pb5) := fun q hq => Nat.ne_of_gt (Nat.lt_of_lt_of_le HA_t5.out.2.2 (q1.lo q hq))
            have NE2_t6 : Hid (∀ q, g2 = some q → q.block ≠ pb5) := fun q hq => Nat.ne_of_gt (Nat.lt_of_lt_of_le HA_t5.out.2.2 (q2.lo q hq))
            have NE3_t6 : Hid (∀ q, g3 = some q → q.block ≠ pb5) := fun q hq => Nat.ne_of_gt (Nat.lt_of_lt_of_le HA_t5.out.2.2 (q3.lo q hq))
            have NE4_t6 : Hid (∀ q, g4 = some q → q.block ≠ pb5) := fun q hq => Nat.ne_of_gt (Nat.lt_of_lt_of_le HA_t5.out.2.2 (q4.lo q hq))
            clear q1 q2 q3 q4 hfar hL
            refine hK.out _ _ hS6 (fun _ => ?_)
            clear hK Kk hb6 HM_t5 HZ_t5 RD_t5 GR_t5 HA_t5
            try simp only [Act.put]
            refine wpAnyH_take (i := 8) (v := .tuple #[.agg #[.int .i64 p1, .int .i64 p2, .int .i64 p3, .int .i64 p4, .slice g1 L gc1, .slice g2 L gc2, .slice g3 L gc3, .slice g4 L gc4], .bool o]) rfl (by kernel_rfl) (by kernel_rfl) (by kernel_rfl) (fun _ _ _ h => h) (Or.inl ⟨by kernel_rfl, ?_⟩) (by assumption) ?_
            · intro wq hSq; go_simp
            try simp only [Act.put]
            refine wpAnyH_take (i := 9) (v := .agg #[.int .i64 p1, .int .i64 p2, .int .i64 p3, .int .i64 p4, .slice g1 L gc1, .slice g2 L gc2, .slice g3 L gc3, .slice g4 L gc4]) rfl (by kernel_rfl) (by kernel_rfl) (by kernel_rfl) (fun _ _ _ h => h) (Or.inl ⟨by kernel_rfl, ?_⟩) (by assumption) ?_
            · intro wq hSq; go_simp
            try simp only [Act.put]
            refine wpAnyH_take (i := 10) (v := .bool o) rfl (by kernel_rfl) (by kernel_rfl) (by kernel_rfl) (fun _ _ _ h => h) (Or.inl ⟨by kernel_rfl, ?_⟩) (by assumption) ?_
            · intro wq hSq; go_simp
            try simp only [Act.put]
            refine wpAnyH_ready (rs := [12]) (by kernel_rfl) (by simp) ?_
            refine AllReadyH.cons rfl (fun Kk hK => ?_) AllReadyH.nil
            rw [if_pos (by kernel_rfl)]
            with_reducible refine wp_store_mid 34 (.tmp 5) (.tmp 19) ?_ pb5 0 ([.int .i64 p1, .int .i64 p2, .int .i64 p3, .int .i64 p4, .slice g1 L gc1, .slice g2 L gc2, .slice g3 L gc3, .slice g4 L gc4]).toArray ?_ ?_ ?_ (by kernel_rfl) (by kernel_rfl) ?_
            · exact rfl
            · exact rfl
            · exact rfl
            · exact HA_t6.out.there 0 8 (by simp)
            have hPB := PB_t5.out
            obtain ⟨kM, kZ, kW, kR, kw, kS⟩ := HPBL.out _ hPB
            have hSz : wq.grownBy (wd6.setCells pb5 0 [.int .i64 p1, .int .i64 p2, .int .i64 p3, .int .i64 p4, .slice g1 L gc1, .slice g2 L gc2, .slice g3 L gc3, .slice g4 L gc4]) (some R) := grown_far hS6 hPB 0 _
            have HP_z : Hid (Lies (wd6.setCells pb5 0 [.int .i64 p1, .int .i64 p2, .int .i64 p3, .int .i64 p4, .slice g1 L gc1, .slice g2 L gc2, .slice g3 L gc3, .slice g4 L gc4]) pb5 [.int .i64 p1, .int .i64 p2, .int .i64 p3, .int .i64 p4, .slice g1 L gc1, .slice g2 L gc2, .slice g3 L gc3, .slice g4 L gc4]) := HA_t6.out.setCells [.int .i64 p1, .int .i64 p2, .int .i64 p3, .int .i64 p4, .slice g1 L gc1, .slice g2 L gc2, .slice g3 L gc3, .slice g4 L gc4] 0 (by simp)
            have HM_z : Hid (Lies (wd6.setCells pb5 0 [.int .i64 p1, .int .i64 p2, .int .i64 p3, .int .i64 p4, .slice g1 L gc1, .slice g2 L gc2, .slice g3 L gc3, .slice g4 L gc4]) w.heap.size [.int .i64 a, .int .i64 b, .int .i64 c, .int .i64 d, .int .i64 f, .int .i64 k, .int .i64 a', .int .i64 b', .int .i64 c', .int .i64 d', .int .i64 f', .int .i64 k']) := Lies.farCells _ 0 HM_t6.out kM
            have HZ_z : Hid (Lies (wd6.setCells pb5 0 [.int .i64 p1, .int .i64 p2, .int .i64 p3, .int .i64 p4, .slice g1 L gc1, .slice g2 L gc2, .slice g3 L gc3, .slice g4 L gc4]) (w.heap.size + 1) [.int .i64 0, .int .i64 0, .int .i64 0, .int .i64 0, .slice none 0 0, .slice none 0 0, .slice none 0 0, .slice none 0 0]) := Lies.farCells _ 0 HZ_t6.out kZ
            have RD_z : Hid (Rd w0 R ca len cap (wd6.setCells pb5 0 [.int .i64 p1, .int .i64 p2, .int .i64 p3, .int .i64 p4, .slice g1 L gc1, .slice g2 L gc2, .slice g3 L gc3, .slice g4 L gc4])) := RD_t6.out.cells kW kR _
            have GR_z : Hid (w.grownBy (wd6.setCells pb5 0 [.int .i64 p1, .int .i64 p2, .int .i64 p3, .int .i64 p4, .slice g1 L gc1, .slice g2 L gc2, .slice g3 L gc3, .slice g4 L gc4]) (some R)) := grown_far GR_t6.out kw 0 _
            have O1_z : Hid (Owns 2 (wd6.setCells pb5 0 [.int .i64 p1, .int .i64 p2, .int .i64 p3, .int .i64 p4, .slice g1 L gc1, .slice g2 L gc2, .slice g3 L gc3, .slice g4 L gc4]) wq.heap.size g1 L gc1 z1) := O1_t6.out.grownR (grown_cells (World.grownBy.refl _ _) 0 _) (fun q hq e => NE1_t6.out q hq (Option.some.inj e).symm)
            have O2_z : Hid (Owns 2 (wd6.setCells pb5 0 [.int .i64 p1, .int .i64 p2, .int .i64 p3, .int .i64 p4, .slice g1 L gc1, .slice g2 L gc2, .slice g3 L gc3, .slice g4 L gc4]) wq.heap.size g2 L gc2 z2) := O2_t6.out.grownR (grown_cells (World.grownBy.refl _ _) 0 _) (fun q hq e => NE2_t6.out q hq (Option.some.inj e).symm)
            have O3_z : Hid (Owns 2 (wd6.setCells pb5 0 [.int .i64 p1, .int .i64 p2, .int .i64 p3, .int .i64 p4, .slice g1 L gc1, .slice g2 L gc2, .slice g3 L gc3, .slice g4 L gc4]) wq.heap.size g3 L gc3 z3) := O3_t6.out.grownR (grown_cells (World.grownBy.refl _ _) 0 _) (fun q hq e => NE3_t6.out q hq (Option.some.inj e).symm)
            have O4_z : Hid (Owns 2 (wd6.setCells pb5 0 [.int .i64 p1, .int .i64 p2, .int .i64 p3, .int .i64 p4, .slice g1 L gc1, .slice g2 L gc2, .slice g3 L gc3, .slice g4 L gc4]) wq.heap.size g4 L gc4 z4) := O4_t6.out.grownR (grown_cells (World.grownBy.refl _ _) 0 _) (fun q hq e => NE4_t6.out q hq (Option.some.inj e).symm)
            refine hK.out _ _ hSz (fun hSzz => ?_)
            clear hK Kk hSzz
            generalize (wd6.setCells pb5 0 [.int .i64 p1, .int .i64 p2, .int .i64 p3, .int .i64 p4, .slice g1 L gc1, .slice g2 L gc2, .slice g3 L gc3, .slice g4 L gc4]) = wz at hSz HP_z HM_z HZ_z RD_z GR_z O1_z O2_z O3_z O4_z ⊢
            try simp only [Act.put]
            refine wpAnyH_take (i := 13) (v := .bool o) rfl (by kernel_rfl) (by kernel_rfl) (by kernel_rfl) (fun _ _ _ h => h) (Or.inl ⟨by kernel_rfl, ?_⟩) (by assumption) ?_
            · intro wq hSq; go_simp
            try simp only [Act.put]
            refine wpAnyH_done (by kernel_rfl) ?_ _
            refine NoPanic.normal ?_
            go_simp
            clear hSz hPB kM kZ kW kR kw kS
            have J_HM : Hid _ := HM_z.out
            have J_HZ : Hid _ := HZ_z.out
            have J_RD : Hid _ := RD_z.out
            have J_GR : Hid _ := GR_z.out
            have J_O1 : Hid _ := O1_z.out
            have J_O2 : Hid _ := O2_z.out
            have J_O3 : Hid _ := O3_z.out
            have J_O4 : Hid _ := O4_z.out
            have J_FA : Hid _ := FA_t6.out
            have J_LL : Hid _ := LL_t6.out
            have J_PB : Hid _ := PB_t5.out
            have J_NE1 : Hid _ := NE1_t6.out
            have J_NE2 : Hid _ := NE2_t6.out
            have J_NE3 : Hid _ := NE3_t6.out
            have J_NE4 : Hid _ := NE4_t6.out
            have J_HP : Hid _ := HP_z.out
            clear HM_z HZ_z RD_z GR_z O1_z O2_z O3_z O4_z HP_z HM_t6 HZ_t6 RD_t6 GR_t6 HA_t6 PB_t5 O1_t6 O2_t6 O3_t6 O4_t6 FA_t6 LL_t6 NE1_t6 NE2_t6 NE3_t6 NE4_t6
            generalize pb5 = pb at J_PB J_NE1 J_NE2 J_NE3 J_NE4 J_HP ⊢
            revert J_HP J_NE4 J_NE3 J_NE2 J_NE1 J_PB J_LL J_FA J_O4 J_O3 J_O2 J_O1 J_GR J_RD J_HZ J_HM
            revert wz
            revert pb
            revert gc4
            revert g4
            revert z4
            revert gc3
            revert g3
            revert z3
            revert gc2
            revert g2
            revert z2
            revert gc1
            revert g1
            revert z1
            revert o
            revert L
            revert p4
            revert p3
            revert p2
            revert p1
            clear v0 v1
            revert v
            revert y
            revert x
            exact key
      · rw [if_pos (by kernel_rfl)]
        refine wp_alloc_as 34 rfl #[.int .i64 0, .int .i64 0, .int .i64 0, .int .i64 0, .slice none 0 0, .slice none 0 0, .slice none 0 0, .slice none 0 0] (by kernel_rfl) ?_
        have hba : Below wd1.heap.size wd1 (wd1.alloc (.cells #[.int .i64 0, .int .i64 0, .int .i64 0, .int .i64 0, .slice none 0 0, .slice none 0 0, .slice none 0 0, .slice none 0 0] 34)) := (Below.refl _ _).alloc (Nat.le_refl _) _
        have hS7 : wq.grownBy (wd1.alloc (.cells #[.int .i64 0, .int .i64 0, .int .i64 0, .int .i64 0, .slice none 0 0, .slice none 0 0, .slice none 0 0, .slice none 0 0] 34)) (some R) := grown_alloc hS1 _
        have HM_t7 : Hid (Lies (wd1.alloc (.cells #[.int .i64 0, .int .i64 0, .int .i64 0, .int .i64 0, .slice none 0 0, .slice none 0 0, .slice none 0 0, .slice none 0 0] 34)) w.heap.size [.int .i64 a, .int .i64 b, .int .i64 c, .int .i64 d, .int .i64 f, .int .i64 k, .int .i64 a', .int .i64 b', .int .i64 c', .int .i64 d', .int .i64 f', .int .i64 k']) := HM_t1.out.belowS hba
        have HZ_t7 : Hid (Lies (wd1.alloc (.cells #[.int .i64 0, .int .i64 0, .int .i64 0, .int .i64 0, .slice none 0 0, .slice none 0 0, .slice none 0 0, .slice none 0 0] 34)) (w.heap.size + 1) [.int .i64 0, .int .i64 0, .int .i64 0, .int .i64 0, .slice none 0 0, .slice none 0 0, .slice none 0 0, .slice none 0 0]) := HZ_t1.out.belowS hba
        have RD_t7 : Hid (Rd w0 R ca len cap (wd1.alloc (.cells #[.int .i64 0, .int .i64 0, .int .i64 0, .int .i64 0, .slice none 0 0, .slice none 0 0, .slice none 0 0, .slice none 0 0] 34))) := RD_t1.out.grow hba
        have GR_t7 : Hid (w.grownBy (wd1.alloc (.cells #[.int .i64 0, .int .i64 0, .int .i64 0, .int .i64 0, .slice none 0 0, .slice none 0 0, .slice none 0 0, .slice none 0 0] 34)) (some R)) := GR_t1.out.trans (grown_of_below hba _)
        have HA_t7 : Hid (Lies (wd1.alloc (.cells #[.int .i64 0, .int .i64 0, .int .i64 0, .int .i64 0, .slice none 0 0, .slice none 0 0, .slice none 0 0, .slice none 0 0] 34)) wd1.heap.size [.int .i64 0, .int .i64 0, .int .i64 0, .int .i64 0, .slice none 0 0, .slice none 0 0, .slice none 0 0, .slice none 0 0]) := lies_new _ _ _
        have PB_t7 : Hid (wq.heap.size ≤ wd1.heap.size) := hS1.size
        refine hK.out _ _ hS7 (fun _ => ?_)
        clear hK Kk hba HM_t1 HZ_t1 RD_t1 GR_t1
        generalize (wd1.alloc (.cells #[.int .i64 0, .int .i64 0, .int .i64 0, .int .i64 0, .slice none 0 0, .slice none 0 0, .slice none 0 0, .slice none 0 0] 34)) = wd7 at HA_t7 hS7 HM_t7 HZ_t7 RD_t7 GR_t7 ⊢
        generalize wd1.heap.size = pb7 at HA_t7 PB_t7 ⊢
        try simp only [Act.put]
        refine wpAnyH_ready (rs := [4]) (by kernel_rfl) (by simp) ?_
        refine AllReadyH.cons rfl (fun Kk hK => ?_) (AllReadyH.nil)
        · go_simp
          refine (below_any HRow.out 3 (by decide) (by decide) _ RD_t7.out).mono ?_
          rintro e wd8 ⟨v, v0, v1, rfl, hr8, hg8⟩
          go_simp
          have hS8 : wq.grownBy wd8 (some R) := hS7.trans hg8
          have HM_t8 : Hid (Lies wd8 w.heap.size [.int .i64 a, .int .i64 b, .int .i64 c, .int .i64 d, .int .i64 f, .int .i64 k, .int .i64 a', .int .i64 b', .int .i64 c', .int .i64 d', .int .i64 f', .int .i64 k']) := HM_t7.out.grown hg8 HNm
          have HZ_t8 : Hid (Lies wd8 (w.heap.size + 1) [.int .i64 0, .int .i64 0, .int .i64 0, .int .i64 0, .slice none 0 0, .slice none 0 0, .slice none 0 0, .slice none 0 0]) := HZ_t7.out.grown hg8 HNz
          have RD_t8 : Hid (Rd w0 R ca len cap wd8) := hr8
          have GR_t8 : Hid (w.grownBy wd8 (some R)) := GR_t7.out.trans hg8
          have HA_t8 : Hid (Lies wd8 pb7 [.int .i64 0, .int .i64 0, .int .i64 0, .int .i64 0, .slice none 0 0, .slice none 0 0, .slice none 0 0, .slice none 0 0]) := HA_t7.out.grown hg8 (HPBL.out _ PB_t7.out).2.2.2.2.2
          refine hK.out _ _ hS8 (fun _ => ?_)
          clear hK Kk hg8 hr8 HM_t7 HZ_t7 RD_t7 GR_t7 HA_t7
          try simp only [Act.put]
          refine wpAnyH_take (i := 5) (v := .int .u64 (IntKind.u64.wrap v)) rfl (by kernel_rfl) (by kernel_rfl) (by kernel_rfl) (fun _ _ _ h => h) (Or.inl ⟨by kernel_rfl, ?_⟩) (by assumption) ?_
          · intro wq hSq; go_simp
          try simp only [Act.put]
          refine wpAnyH_take (i := 6) (v := .int .i64 (IntKind.i64.wrap (2 * 2 ^ min (IntKind.u64.wrap v).toNat 64))) rfl (by kernel_rfl) (by kernel_rfl) (by kernel_rfl) (fun _ _ _ h => h) (Or.inl ⟨by kernel_rfl, ?_⟩) (by assumption) ?_
          · intro wq hSq; go_simp
          try simp only [Act.put]
          refine wpAnyH_ready (rs := [7]) (by kernel_rfl) (by simp) ?_
          refine AllReadyH.cons rfl (fun Kk hK => ?_) (AllReadyH.nil)
          · go_simp
            refine (CS.out (x, y) (IntKind.i64.wrap (2 * 2 ^ min (IntKind.u64.wrap v).toNat 64)) _).mono ?_
            rintro e wd9 ⟨p1, p2, p3, p4, L, o, z1, z2, z3, z4, g1, gc1, g2, gc2, g3, gc3, g4, gc4, rfl, hL, ⟨q1, q2, q3, q4⟩, hfar, hb9⟩
            go_simp
            have hS9 : wq.grownBy wd9 (some R) := hS8.trans (grown_of_below hb9 _)
            have HM_t9 : Hid (Lies wd9 w.heap.size [.int .i64 a, .int .i64 b, .int .i64 c, .int .i64 d, .int .i64 f, .int .i64 k, .int .i64 a', .int .i64 b', .int .i64 c', .int .i64 d', .int .i64 f', .int .i64 k']) := HM_t8.out.belowS hb9
            have HZ_t9 : Hid (Lies wd9 (w.heap.size + 1) [.int .i64 0, .int .i64 0, .int .i64 0, .int .i64 0, .slice none 0 0, .slice none 0 0, .slice none 0 0, .slice none 0 0]) := HZ_t8.out.belowS hb9
            have RD_t9 : Hid (Rd w0 R ca len cap wd9) := RD_t8.out.grow hb9
            have GR_t9 : Hid (w.grownBy wd9 (some R)) := GR_t8.out.trans (grown_of_below hb9 _)
            have HA_t9 : Hid (Lies wd9 pb7 [.int .i64 0, .int .i64 0, .int .i64 0, .int .i64 0, .slice none 0 0, .slice none 0 0, .slice none 0 0, .slice none 0 0]) := HA_t8.out.belowS hb9
            have O1_t9 : Hid (Owns 2 wd9 wq.heap.size g1 L gc1 z1) := q1.mono hS8.size
            have O2_t9 : Hid (Owns 2 wd9 wq.heap.size g2 L gc2 z2) := q2.mono hS8.size
            have O3_t9 : Hid (Owns 2 wd9 wq.heap.size g3 L gc3 z3) := q3.mono hS8.size
            have O4_t9 : Hid (Owns 2 wd9 wq.heap.size g4 L gc4 z4) := q4.mono hS8.size
            have FA_t9 : Hid (far g1 g2 ∧ far g1 g3 ∧ far g1 g4 ∧ far g2 g3 ∧ far g2 g4 ∧ far g3 g4) := hfar
            have LL_t9 : Hid (L ≤ 64) := hL
            have NE1_t9 : Hid (∀ q, g1 = some q → q.block ≠ pb7) := fun q hq => Nat.ne_of_gt (Nat.lt_of_lt_of_le HA_t8.out.2.2 (q1.lo q hq))
            have NE2_t9 : Hid (∀ q, g2 = some q → q.block ≠ pb7) := fun q hq => Nat.ne_of_gt (Nat.lt_of_lt_of_le HA_t8.out.2.2 (q2.lo q hq))
            have NE3_t9 : Hid (∀ q, g3 = some q → q.block ≠ pb7) := fun q hq => Nat.ne_of_gt (Nat.lt_of_lt_of_le HA_t8.out.2.2 (q3.lo q hq))
            have NE4_t9 : Hid (∀ q, g4 = some q → q.block ≠ pb7) := fun q hq => Nat.ne_of_gt (Nat.lt_of_lt_of_le HA_t8.out.2.2 (q4.lo q hq))
            clear q1 q2 q3 q4 hfar hL
            refine hK.out _ _ hS9 (fun _ => ?_)
            clear hK Kk hb9 HM_t8 HZ_t8 RD_t8 GR_t8 HA_t8
            try simp only [Act.put]
            refine wpAnyH_take (i := 8) (v := .tuple #[.agg #[.int .i64 p1, .int .i64 p2, .int .i64 p3, .int .i64 p4, .slice g1 L gc1, .slice g2 L gc2, .slice g3 L gc3, .slice g4 L gc4], .bool o]) rfl (by kernel_rfl) (by kernel_rfl) (by kernel_rfl) (fun _ _ _ h => h) (Or.inl ⟨by kernel_rfl, ?_⟩) (by assumption) ?_
            · intro wq hSq; go_simp
            try simp only [Act.put]
            refine wpAnyH_take (i := 9) (v := .agg #[.int .i64 p1, .int .i64 p2, .int .i64 p3, .int .i64 p4, .slice g1 L gc1, .slice g2 L gc2, .slice g3 L gc3, .slice g4 L gc4]) rfl (by kernel_rfl) (by kernel_rfl) (by kernel_rfl) (fun _ _ _ h => h) (Or.inl ⟨by kernel_rfl, ?_⟩) (by assumption) ?_
            · intro wq hSq; go_simp
            try simp only [Act.put]
            refine wpAnyH_take (i := 10) (v := .bool o) rfl (by kernel_rfl) (by kernel_rfl) (by kernel_rfl) (fun _ _ _ h => h) (Or.inl ⟨by kernel_rfl, ?_⟩) (by assumption) ?_
            · intro wq hSq; go_simp
            try simp only [Act.put]
            refine wpAnyH_ready (rs := [12]) (by kernel_rfl) (by simp) ?_
            refine AllReadyH.cons rfl (fun Kk hK => ?_) AllReadyH.nil
            rw [if_pos (by kernel_rfl)]
            with_reducible refine wp_store_mid 34 (.tmp 5) (.tmp 19) ?_ pb7 0 ([.int .i64 p1, .int .i64 p2, .int .i64 p3, .int .i64 p4, .slice g1 L gc1, .slice g2 L gc2, .slice g3 L gc3, .slice g4 L gc4]).toArray ?_ ?_ ?_ (by kernel_rfl) (by kernel_rfl) ?_
            · exact rfl
            · exact rfl
            · exact rfl
            · exact HA_t9.out.there 0 8 (by simp)
            have hPB := PB_t7.out
            obtain ⟨kM, kZ, kW, kR, kw, kS⟩ := HPBL.out _ hPB
            have hSz : wq.grownBy (wd9.setCells pb7 0 [.int .i64 p1, .int .i64 p2, .int .i64 p3, .int .i64 p4, .slice g1 L gc1, .slice g2 L gc2, .slice g3 L gc3, .slice g4 L gc4]) (some R) := grown_far hS9 hPB 0 _
            have HP_z : Hid (Lies (wd9.setCells pb7 0 [.int .i64 p1, .int .i64 p2, .int .i64 p3, .int .i64 p4, .slice g1 L gc1, .slice g2 L gc2, .slice g3 L gc3, .slice g4 L gc4]) pb7 [.int .i64 p1, .int .i64 p2, .int .i64 p3, .int .i64 p4, .slice g1 L gc1, .slice g2 L gc2, .slice g3 L gc3, .slice g4 L gc4]) := HA_t9.out.setCells [.int .i64 p1, .int .i64 p2, .int .i64 p3, .int .i64 p4, .slice g1 L gc1, .slice g2 L gc2, .slice g3 L gc3, .slice g4 L gc4] 0 (by simp)
            have HM_z : Hid (Lies (wd9.setCells pb7 0 [.int .i64 p1, .int .i64 p2, .int .i64 p3, .int .i64 p4, .slice g1 L gc1, .slice g2 L gc2, .slice g3 L gc3, .slice g4 L gc4]) w.heap.size [.int .i64 a, .int .i64 b, .int .i64 c, .int .i64 d, .int .i64 f, .int .i64 k, .int .i64 a', .int .i64 b', .int .i64 c', .int .i64 d', .int .i64 f', .int .i64 k']) := Lies.farCells _ 0 HM_t9.out kM
            have HZ_z : Hid (Lies (wd9.setCells pb7 0 [.int .i64 p1, .int .i64 p2, .int .i64 p3, .int .i64 p4, .slice g1 L gc1, .slice g2 L gc2, .slice g3 L gc3, .slice g4 L gc4]) (w.heap.size + 1) [.int .i64 0, .int .i64 0, .int .i64 0, .int .i64 0, .slice none 0 0, .slice none 0 0, .slice none 0 0, .slice none 0 0]) := Lies.farCells _ 0 HZ_t9.out kZ
            have RD_z : Hid (Rd w0 R ca len cap (wd9.setCells pb7 0 [.int .i64 p1, .int .i64 p2, .int .i64 p3, .int .i64 p4, .slice g1 L gc1, .slice g2 L gc2, .slice g3 L gc3, .slice g4 L gc4])) := RD_t9.out.cells kW kR _
            have GR_z : Hid (w.grownBy (wd9.setCells pb7 0 [.int .i64 p1, .int .i64 p2, .int .i64 p3, .int .i64 p4, .slice g1 L gc1, .slice g2 L gc2, .slice g3 L gc3, .slice g4 L gc4]) (some R)) := grown_far GR_t9.out kw 0 _
            have O1_z : Hid (Owns 2 (wd9.setCells pb7 0 [.int .i64 p1, .int .i64 p2, .int .i64 p3, .int .i64 p4, .slice g1 L gc1, .slice g2 L gc2, .slice g3 L gc3, .slice g4 L gc4]) wq.heap.size g1 L gc1 z1) := O1_t9.out.grownR (grown_cells (World.grownBy.refl _ _) 0 _) (fun q hq e => NE1_t9.out q hq (Option.some.inj e).symm)
            have O2_z : Hid (Owns 2 (wd9.setCells pb7 0 [.int .i64 p1, .int .i64 p2, .int .i64 p3, .int .i64 p4, .slice g1 L gc1, .slice g2 L gc2, .slice g3 L gc3, .slice g4 L gc4]) wq.heap.size g2 L gc2 z2) := O2_t9.out.grownR (grown_cells (World.grownBy.refl _ _) 0 _) (fun q hq e => NE2_t9.out q hq (Option.some.inj e).symm)
            have O3_z : Hid (Owns 2 (wd9.setCells pb7 0 [.int .i64 p1, .int .i64 p2, .int .i64 p3, .int .i64 p4, .slice g1 L gc1, .slice g2 L gc2, .slice g3 L gc3, .slice g4 L gc4]) wq.heap.size g3 L gc3 z3) := O3_t9.out.grownR (grown_cells (World.grownBy.refl _ _) 0 _) (fun q hq e => NE3_t9.out q hq (Option.some.inj e).symm)
            have O4_z : Hid (Owns 2 (wd9.setCells pb7 0 [.int .i64 p1, .int .i64 p2, .int .i64 p3, .int .i64 p4, .slice g1 L gc1, .slice g2 L gc2, .slice g3 L gc3, .slice g4 L gc4]) wq.heap.size g4 L gc4 z4) := O4_t9.out.grownR (grown_cells (World.grownBy.refl _ _) 0 _) (fun q hq e => NE4_t9.out q hq (Option.some.inj e).symm)
            refine hK.out _ _ hSz (fun hSzz => ?_)
            clear hK Kk hSzz
            generalize (wd9.setCells pb7 0 [.int .i64 p1, .int .i64 p2, .int .i64 p3, .int .i64 p4, .slice g1 L gc1, .slice g2 L gc2, .slice g3 L gc3, .slice g4 L gc4]) = wz at hSz HP_z HM_z HZ_z RD_z GR_z O1_z O2_z O3_z O4_z ⊢
            try simp only [Act.put]
            refine wpAnyH_take (i := 13) (v := .bool o) rfl (by kernel_rfl) (by kernel_rfl) (by kernel_rfl) (fun _ _ _ h => h) (Or.inl ⟨by kernel_rfl, ?_⟩) (by assumption) ?_
            · intro wq hSq; go_simp
            try simp only [Act.put]
            refine wpAnyH_done (by kernel_rfl) ?_ _
            refine NoPanic.normal ?_
            go_simp
            clear hSz hPB kM kZ kW kR kw kS
            have J_HM : Hid _ := HM_z.out
            have J_HZ : Hid _ := HZ_z.out
            have J_RD : Hid _ := RD_z.out
            have J_GR : Hid _ := GR_z.out
            have J_O1 : Hid _ := O1_z.out
            have J_O2 : Hid _ := O2_z.out
            have J_O3 : Hid _ := O3_z.out
            have J_O4 : Hid _ := O4_z.out
            have J_FA : Hid _ := FA_t9.out
            have J_LL : Hid _ := LL_t9.out
            have J_PB : Hid _ := PB_t7.out
            have J_NE1 : Hid _ := NE1_t9.out
            have J_NE2 : Hid _ := NE2_t9.out
            have J_NE3 : Hid _ := NE3_t9.out
            have J_NE4 : Hid _ := NE4_t9.out
            have J_HP : Hid _ := HP_z.out
            clear HM_z HZ_z RD_z GR_z O1_z O2_z O3_z O4_z HP_z HM_t9 HZ_t9 RD_t9 GR_t9 HA_t9 PB_t7 O1_t9 O2_t9 O3_t9 O4_t9 FA_t9 LL_t9 NE1_t9 NE2_t9 NE3_t9 NE4_t9
            generalize pb7 = pb at J_PB J_NE1 J_NE2 J_NE3 J_NE4 J_HP ⊢
            revert J_HP J_NE4 J_NE3 J_NE2 J_NE1 J_PB J_LL J_FA J_O4 J_O3 J_O2 J_O1 J_GR J_RD J_HZ J_HM
            revert wz
            revert pb
            revert gc4
            revert g4
            revert z4
            revert gc3
            revert g3
            revert z3
            revert gc2
            revert g2
            revert z2
            revert gc1
            revert g1
            revert z1
            revert o
            revert L
            revert p4
            revert p3
            revert p2
            revert p1
            clear v0 v1
            revert v
            revert y
            revert x
            exact key
    · rw [if_pos (by kernel_rfl)]
      refine wp_alloc_as 34 rfl #[.int .i64 0, .int .i64 0, .int .i64 0, .int .i64 0, .slice none 0 0, .slice none 0 0, .slice none 0 0, .slice none 0 0] (by kernel_rfl) ?_
      have hba : Below wd0.heap.size wd0 (wd0.alloc (.cells #[.int .i64 0, .int .i64 0, .int .i64 0, .int .i64 0, .slice none 0 0, .slice none 0 0, .slice none 0 0, .slice none 0 0] 34)) := (Below.refl _ _).alloc (Nat.le_refl _) _
      have hS10 : wq.grownBy (wd0.alloc (.cells #[.int .i64 0, .int .i64 0, .int .i64 0, .int .i64 0, .slice none 0 0, .slice none 0 0, .slice none 0 0, .slice none 0 0] 34)) (some R) := grown_alloc hHeld _
      have HM_t10 : Hid (Lies (wd0.alloc (.cells #[.int .i64 0, .int .i64 0, .int .i64 0, .int .i64 0, .slice none 0 0, .slice none 0 0, .slice none 0 0, .slice none 0 0] 34)) w.heap.size [.int .i64 a, .int .i64 b, .int .i64 c, .int .i64 d, .int .i64 f, .int .i64 k, .int .i64 a', .int .i64 b', .int .i64 c', .int .i64 d', .int .i64 f', .int .i64 k']) := HM_r0.out.belowS hba
      have HZ_t10 : Hid (Lies (wd0.alloc (.cells #[.int .i64 0, .int .i64 0, .int .i64 0, .int .i64 0, .slice none 0 0, .slice none 0 0, .slice none 0 0, .slice none 0 0] 34)) (w.heap.size + 1) [.int .i64 0, .int .i64 0, .int .i64 0, .int .i64 0, .slice none 0 0, .slice none 0 0, .slice none 0 0, .slice none 0 0]) := HZ_r0.out.belowS hba
      have RD_t10 : Hid (Rd w0 R ca len cap (wd0.alloc (.cells #[.int .i64 0, .int .i64 0, .int .i64 0, .int .i64 0, .slice none 0 0, .slice none 0 0, .slice none 0 0, .slice none 0 0] 34))) := RD_r0.out.grow hba
      have GR_t10 : Hid (w.grownBy (wd0.alloc (.cells #[.int .i64 0, .int .i64 0, .int .i64 0, .int .i64 0, .slice none 0 0, .slice none 0 0, .slice none 0 0, .slice none 0 0] 34)) (some R)) := GR_r0.out.trans (grown_of_below hba _)
      have HA_t10 : Hid (Lies (wd0.alloc (.cells #[.int .i64 0, .int .i64 0, .int .i64 0, .int .i64 0, .slice none 0 0, .slice none 0 0, .slice none 0 0, .slice none 0 0] 34)) wd0.heap.size [.int .i64 0, .int .i64 0, .int .i64 0, .int .i64 0, .slice none 0 0, .slice none 0 0, .slice none 0 0, .slice none 0 0]) := lies_new _ _ _
      have PB_t10 : Hid (wq.heap.size ≤ wd0.heap.size) := hHeld.size
      refine hK.out _ _ hS10 (fun _ => ?_)
      clear hK Kk hba HM_r0 HZ_r0 RD_r0 GR_r0
      generalize (wd0.alloc (.cells #[.int .i64 0, .int .i64 0, .int .i64 0, .int .i64 0, .slice none 0 0, .slice none 0 0, .slice none 0 0, .slice none 0 0] 34)) = wd10 at HA_t10 hS10 HM_t10 HZ_t10 RD_t10 GR_t10 ⊢
      generalize wd0.heap.size = pb10 at HA_t10 PB_t10 ⊢
      try simp only [Act.put]
      refine wpAnyH_ready (rs := [2]) (by kernel_rfl) (by simp) ?_
      refine AllReadyH.cons rfl (fun Kk hK => ?_) (AllReadyH.nil)
      · go_simp
        refine (stateR_any HRow.out _ RD_t10.out).mono ?_
        rintro e wd11 ⟨⟨x, y⟩, rfl, hr11, hg11⟩
        go_simp
        have hS11 : wq.grownBy wd11 (some R) := hS10.trans hg11
        have HM_t11 : Hid (Lies wd11 w.heap.size [.int .i64 a, .int .i64 b, .int .i64 c, .int .i64 d, .int .i64 f, .int .i64 k, .int .i64 a', .int .i64 b', .int .i64 c', .int .i64 d', .int .i64 f', .int .i64 k']) := HM_t10.out.grown hg11 HNm
        have HZ_t11 : Hid (Lies wd11 (w.heap.size + 1) [.int .i64 0, .int .i64 0, .int .i64 0, .int .i64 0, .slice none 0 0, .slice none 0 0, .slice none 0 0, .slice none 0 0]) := HZ_t10.out.grown hg11 HNz
        have RD_t11 : Hid (Rd w0 R ca len cap wd11) := hr11
        have GR_t11 : Hid (w.grownBy wd11 (some R)) := GR_t10.out.trans hg11
        have HA_t11 : Hid (Lies wd11 pb10 [.int .i64 0, .int .i64 0, .int .i64 0, .int .i64 0, .slice none 0 0, .slice none 0 0, .slice none 0 0, .slice none 0 0]) := HA_t10.out.grown hg11 (HPBL.out _ PB_t10.out).2.2.2.2.2
        refine hK.out _ _ hS11 (fun _ => ?_)
        clear hK Kk hg11 hr11 HM_t10 HZ_t10 RD_t10 GR_t10 HA_t10
        try simp only [Act.put]
        refine wpAnyH_ready (rs := [4]) (by kernel_rfl) (by simp) ?_
        refine AllReadyH.cons rfl (fun Kk hK => ?_) (AllReadyH.nil)
        · go_simp
          refine (below_any HRow.out 3 (by decide) (by decide) _ RD_t11.out).mono ?_
          rintro e wd12 ⟨v, v0, v1, rfl, hr12, hg12⟩
          go_simp
          have hS12 : wq.grownBy wd12 (some R) := hS11.trans hg12
          have HM_t12 : Hid (Lies wd12 w.heap.size [.int .i64 a, .int .i64 b, .int .i64 c, .int .i64 d, .int .i64 f, .int .i64 k, .int .i64 a', .int .i64 b', .int .i64 c', .int .i64 d', .int .i64 f', .int .i64 k']) := HM_t11.out.grown hg12 HNm
          have HZ_t12 : Hid (Lies wd12 (w.heap.size + 1) [.int .i64 0, .int .i64 0, .int .i64 0, .int .i64 0, .slice none 0 0, .slice none 0 0, .slice none 0 0, .slice none 0 0]) := HZ_t11.out.grown hg12 HNz
          have RD_t12 : Hid (Rd w0 R ca len cap wd12) := hr12
          have GR_t12 : Hid (w.grownBy wd12 (some R)) := GR_t11.out.trans hg12
          have HA_t12 : Hid (Lies wd12 pb10 [.int .i64 0, .int .i64 0, .int .i64 0, .int .i64 0, .slice none 0 0, .slice none 0 0, .slice none 0 0, .slice none 0 0]) := HA_t11.out.grown hg12 (HPBL.out _ PB_t10.out).2.2.2.2.2
          refine hK.out _ _ hS12 (fun _ => ?_)
          clear hK Kk hg12 hr12 HM_t11 HZ_t11 RD_t11 GR_t11 HA_t11
          try simp only [Act.put]
          refine wpAnyH_take (i := 5) (v := .int .u64 (IntKind.u64.wrap v)) rfl (by kernel_rfl) (by kernel_rfl) (by kernel_rfl) (fun _ _ _ h => h) (Or.inl ⟨by kernel_rfl, ?_⟩) (by assumption) ?_
          · intro wq hSq; go_simp
          try simp only [Act.put]
          refine wpAnyH_take (i := 6) (v := .int .i64 (IntKind.i64.wrap (2 * 2 ^ min (IntKind.u64.wrap v).toNat 64))) rfl (by kernel_rfl) (by kernel_rfl) (by kernel_rfl) (fun _ _ _ h => h) (Or.inl ⟨by kernel_rfl, ?_⟩) (by assumption) ?_
          · intro wq hSq; go_simp
          try simp only [Act.put]
          refine wpAnyH_ready (rs := [7]) (by kernel_rfl) (by simp) ?_
          refine AllReadyH.cons rfl (fun Kk hK => ?_) (AllReadyH.nil)
          · go_simp
            refine (CS.out (x, y) (IntKind.i64.wrap (2 * 2 ^ min (IntKind.u64.wrap v).toNat 64)) _).mono ?_
            rintro e wd13 ⟨p1, p2, p3, p4, L, o, z1, z2, z3, z4, g1, gc1, g2, gc2, g3, gc3, g4, gc4, rfl, hL, ⟨q1, q2, q3, q4⟩, hfar, hb13⟩
            go_simp
            have hS13 : wq.grownBy wd13 (some R) := hS12.trans (grown_of_below hb13 _)
            have HM_t13 : Hid (Lies wd13 w.heap.size [.int .i64 a, .int .i64 b, .int .i64 c, .int .i64 d, .int .i64 f, .int .i64 k, .int .i64 a', .int .i64 b', .int .i64 c', .int .i64 d', .int .i64 f', .int .i64 k']) := HM_t12.out.belowS hb13
            have HZ_t13 : Hid (Lies wd13 (w.heap.size + 1) [.int .i64 0, .int .i64 0, .int .i64 0, .int .i64 0, .slice none 0 0, .slice none 0 0, .slice none 0 0, .slice none 0 0]) := HZ_t12.out.belowS hb13
            have RD_t13 : Hid (Rd w0 R ca len cap wd13) := RD_t12.out.grow hb13
            have GR_t13 : Hid (w.grownBy wd13 (some R)) := GR_t12.out.trans (grown_of_below hb13 _)
            have HA_t13 : Hid (Lies wd13 pb10 [.int .i64 0, .int .i64 0, .int .i64 0, .int .i64 0, .slice none 0 0, .slice none 0 0, .slice none 0 0, .slice none 0 0]) := HA_t12.out.belowS hb13
            have O1_t13 : Hid (Owns 2 wd13 wq.heap.size g1 L gc1 z1) := q1.mono hS12.size
            have O2_t13 : Hid (Owns 2 wd13 wq.heap.size g2 L gc2 z2) := q2.mono hS12.size
            have O3_t13 : Hid (Owns 2 wd13 wq.heap.size g3 L gc3 z3) := q3.mono hS12.size
            have O4_t13 : Hid (Owns 2 wd13 wq.heap.size g4 L gc4 z4) := q4.mono hS12.size
            have FA_t13 : Hid (far g1 g2 ∧ far g1 g3 ∧ far g1 g4 ∧ far g2 g3 ∧ far g2 g4 ∧ far g3 g4) := hfar
            have LL_t13 : Hid (L ≤ 64) := hL
            have NE1_t13 : Hid (∀ q, g1 = some q → q.block ≠ pb10) := fun q hq => Nat.ne_of_gt (Nat.lt_of_lt_of_le HA_t12.out.2.2 (q1.lo q hq))
            have NE2_t13 : Hid (∀ q, g2 = some q → q.block ≠ pb10) := fun q hq => Nat.ne_of_gt (Nat.lt_of_lt_of_le HA_t12.out.2.2 (q2.lo q hq))
            have NE3_t13 : Hid (∀ q, g3 = some q → q.block ≠ pb10) := fun q hq => Nat.ne_of_gt (Nat.lt_of_lt_of_le HA_t12.out.2.2 (q3.lo q hq))
            have NE4_t13 : Hid (∀ q, g4 = some q → q.block ≠ pb10) := fun q hq => Nat.ne_of_gt (Nat.lt_of_lt_of_le HA_t12.out.2.2 (q4.lo q hq))
            clear q1 q2 q3 q4 hfar hL
            refine hK.out _ _ hS13 (fun _ => ?_)
            clear hK Kk hb13 HM_t12 HZ_t12 RD_t12 GR_t12 HA_t12
            try simp only [Act.put]
            refine wpAnyH_take (i := 8) (v := .tuple #[.agg #[.int .i64 p1, .int .i64 p2, .int .i64 p3, .int .i64 p4, .slice g1 L gc1, .slice g2 L gc2, .slice g3 L gc3, .slice g4 L gc4], .bool o]) rfl (by kernel_rfl) (by kernel_rfl) (by kernel_rfl) (fun _ _ _ h => h) (Or.inl ⟨by kernel_rfl, ?_⟩) (by assumption) ?_
            · intro wq hSq; go_simp
            try simp only [Act.put]
            refine wpAnyH_take (i := 9) (v := .agg #[.int .i64 p1, .int .i64 p2, .int .i64 p3, .int .i64 p4, .slice g1 L gc1, .slice g2 L gc2, .slice g3 L gc3, .slice g4 L gc4]) rfl (by kernel_rfl) (by kernel_rfl) (by kernel_rfl) (fun _ _ _ h => h) (Or.inl ⟨by kernel_rfl, ?_⟩) (by assumption) ?_
            · intro wq hSq; go_simp
            try simp only [Act.put]
            refine wpAnyH_take (i := 10) (v := .bool o) rfl (by kernel_rfl) (by kernel_rfl) (by kernel_rfl) (fun _ _ _ h => h) (Or.inl ⟨by kernel_rfl, ?_⟩) (by assumption) ?_
            · intro wq hSq; go_simp
            try simp only [Act.put]
            refine wpAnyH_ready (rs := [12]) (by kernel_rfl) (by simp) ?_
            refine AllReadyH.cons rfl (fun Kk hK => ?_) AllReadyH.nil
            rw [if_pos (by kernel_rfl)]
            with_reducible refine wp_store_mid 34 (.tmp 5) (.tmp 19) ?_ pb10 0 ([.int .i64 p1, .int .i64 p2, .int .i64 p3, .int .i64 p4, .slice g1 L gc1, .slice g2 L gc2, .slice g3 L gc3, .slice g4 L gc4]).toArray ?_ ?_ ?_ (by kernel_rfl) (by kernel_rfl) ?_
            · exact rfl
            · exact rfl
            · exact rfl
            · exact HA_t13.out.there 0 8 (by simp)
            have hPB := PB_t10.out
            obtain ⟨kM, kZ, kW, kR, kw, kS⟩ := HPBL.out _ hPB
            have hSz : wq.grownBy (wd13.setCells pb10 0 [.int .i64 p1, .int .i64 p2, .int .i64 p3, .int .i64 p4, .slice g1 L gc1, .slice g2 L gc2, .slice g3 L gc3, .slice g4 L gc4]) (some R) := grown_far hS13 hPB 0 _
            have HP_z : Hid (Lies (wd13.setCells pb10 0 [.int .i64 p1, .int .i64 p2, .int .i64 p3, .int .i64 p4, .slice g1 L gc1, .slice g2 L gc2, .slice g3 L gc3, .slice g4 L gc4]) pb10 [.int .i64 p1, .int .i64 p2, .int .i64 p3, .int .i64 p4, .slice g1 L gc1, .slice g2 L gc2, .slice g3 L gc3, .slice g4 L gc4]) := HA_t13.out.setCells [.int .i64 p1, .int .i64 p2, .int .i64 p3, .int .i64 p4, .slice g1 L gc1, .slice g2 L gc2, .slice g3 L gc3, .slice g4 L gc4] 0 (by simp)
            have HM_z : Hid (Lies (wd13.setCells pb10 0 [.int .i64 p1, .int .i64 p2, .int .i64 p3, .int .i64 p4, .slice g1 L gc1, .slice g2 L gc2, .slice g3 L gc3, .slice g4 L gc4]) w.heap.size [.int .i64 a, .int .i64 b, .int .i64 c, .int .i64 d, .int .i64 f, .int .i64 k, .int .i64 a', .int .i64 b', .int .i64 c', .int .i64 d', .int .i64 f', .int .i64 k']) := Lies.farCells _ 0 HM_t13.out kM
            have HZ_z : Hid (Lies (wd13.setCells pb10 0 [.int .i64 p1, .int .i64 p2, .int .i64 p3, .int .i64 p4, .slice g1 L gc1, .slice g2 L gc2, .slice g3 L gc3, .slice g4 L gc4]) (w.heap.size + 1) [.int .i64 0, .int .i64 0, .int .i64 0, .int .i64 0, .slice none 0 0, .slice none 0 0, .slice none 0 0, .slice none 0 0]) := Lies.farCells _ 0 HZ_t13.out kZ
            have RD_z : Hid (Rd w0 R ca len cap (wd13.setCells pb10 0 [.int .i64 p1, .int .i64 p2, .int .i64 p3, .int .i64 p4, .slice g1 L gc1, .slice g2 L gc2, .slice g3 L gc3, .slice g4 L gc4])) := RD_t13.out.cells kW kR _
            have GR_z : Hid (w.grownBy (wd13.setCells pb10 0 [.int .i64 p1, .int .i64 p2, .int .i64 p3, .int .i64 p4, .slice g1 L gc1, .slice g2 L gc2, .slice g3 L gc3, .slice g4 L gc4]) (some R)) := grown_far GR_t13.out kw 0 _
            have O1_z : Hid (Owns 2 (wd13.setCells pb10 0 [.int .i64 p1, .int .i64 p2, .int .i64 p3, .int .i64 p4, .slice g1 L gc1, .slice g2 L gc2, .slice g3 L gc3, .slice g4 L gc4]) wq.heap.size g1 L gc1 z1) := O1_t13.out.grownR (grown_cells (World.grownBy.refl _ _) 0 _) (fun q hq e => NE1_t13.out q hq (Option.some.inj e).symm)
            have O2_z : Hid (Owns 2 (wd13.setCells pb10 0 [.int .i64 p1, .int .i64 p2, .int .i64 p3, .int .i64 p4, .slice g1 L gc1, .slice g2 L gc2, .slice g3 L gc3, .slice g4 L gc4]) wq.heap.size g2 L gc2 z2) := O2_t13.out.grownR (grown_cells (World.grownBy.refl _ _) 0 _) (fun q hq e => NE2_t13.out q hq (Option.some.inj e).symm)
            have O3_z : Hid (Owns 2 (wd13.setCells pb10 0 [.int .i64 p1, .int .i64 p2, .int .i64 p3, .int .i64 p4, .slice g1 L gc1, .slice g2 L gc2, .slice g3 L gc3, .slice g4 L gc4]) wq.heap.size g3 L gc3 z3) := O3_t13.out.grownR (grown_cells (World.grownBy.refl _ _) 0 _) (fun q hq e => NE3_t13.out q hq (Option.some.inj e).symm)
            have O4_z : Hid (Owns 2 (wd13.setCells pb10 0 [.int .i64 p1, .int .i64 p2, .int .i64 p3, .int .i64 p4, .slice g1 L gc1, .slice g2 L gc2, .slice g3 L gc3, .slice g4 L gc4]) wq.heap.size g4 L gc4 z4) := O4_t13.out.grownR (grown_cells (World.grownBy.refl _ _) 0 _) (fun q hq e => NE4_t13.out q hq (Option.some.inj e).symm)
            refine hK.out _ _ hSz (fun hSzz => ?_)
            clear hK Kk hSzz
            generalize (wd13.setCells pb10 0 [.int .i64 p1, .int .i64 p2, .int .i64 p3, .int .i64 p4, .slice g1 L gc1, .slice g2 L gc2, .slice g3 L gc3, .slice g4 L gc4]) = wz at hSz HP_z HM_z HZ_z RD_z GR_z O1_z O2_z O3_z O4_z ⊢
            try simp only [Act.put]
            refine wpAnyH_take (i := 13) (v := .bool o) rfl (by kernel_rfl) (by kernel_rfl) (by kernel_rfl) (fun _ _ _ h => h) (Or.inl ⟨by kernel_rfl, ?_⟩) (by assumption) ?_
            · intro wq hSq; go_simp
            try simp only [Act.put]
            refine wpAnyH_done (by kernel_rfl) ?_ _
            refine NoPanic.normal ?_
            go_simp
            clear hSz hPB kM kZ kW kR kw kS
            have J_HM : Hid _ := HM_z.out
            have J_HZ : Hid _ := HZ_z.out
            have J_RD : Hid _ := RD_z.out
            have J_GR : Hid _ := GR_z.out
            have J_O1 : Hid _ := O1_z.out
            have J_O2 : Hid _ := O2_z.out
            have J_O3 : Hid _ := O3_z.out
            have J_O4 : Hid _ := O4_z.out
            have J_FA : Hid _ := FA_t13.out
            have J_LL : Hid _ := LL_t13.out
            have J_PB : Hid _ := PB_t10.out
            have J_NE1 : Hid _ := NE1_t13.out
            have J_NE2 : Hid _ := NE2_t13.out
            have J_NE3 : Hid _ := NE3_t13.out
            have J_NE4 : Hid _ := NE4_t13.out
            have J_HP : Hid _ := HP_z.out
            clear HM_z HZ_z RD_z GR_z O1_z O2_z O3_z O4_z HP_z HM_t13 HZ_t13 RD_t13 GR_t13 HA_t13 PB_t10 O1_t13 O2_t13 O3_t13 O4_t13 FA_t13 LL_t13 NE1_t13 NE2_t13 NE3_t13 NE4_t13
            generalize pb10 = pb at J_PB J_NE1 J_NE2 J_NE3 J_NE4 J_HP ⊢
            revert J_HP J_NE4 J_NE3 J_NE2 J_NE1 J_PB J_LL J_FA J_O4 J_O3 J_O2 J_O1 J_GR J_RD J_HZ J_HM
            revert wz
            revert pb
            revert gc4
            revert g4
            revert z4
            revert gc3
            revert g3
            revert z3
            revert gc2
            revert g2
            revert z2
            revert gc1
            revert g1
            revert z1
            revert o
            revert L
            revert p4
            revert p3
            revert p2
            revert p1
            clear v0 v1
            revert v
            revert y
            revert x
            exact key
  case h =>
    intro x y v p1 p2 p3 p4 L o z1 g1 gc1 z2 g2 gc2 z3 g3 gc3 z4 g4 gc4 pb wz J_HM J_HZ J_RD J_GR J_O1 J_O2 J_O3 J_O4 J_FA J_LL J_PB J_NE1 J_NE2 J_NE3 J_NE4 J_HP
    have HM_0 : Hid (Lies wz w.heap.size [.int .i64 a, .int .i64 b, .int .i64 c, .int .i64 d, .int .i64 f, .int .i64 k, .int .i64 a', .int .i64 b', .int .i64 c', .int .i64 d', .int .i64 f', .int .i64 k']) := J_HM.out
    have HZ_0 : Hid (Lies wz (w.heap.size + 1) [.int .i64 0, .int .i64 0, .int .i64 0, .int .i64 0, .slice none 0 0, .slice none 0 0, .slice none 0 0, .slice none 0 0]) := J_HZ.out
    have RD_0 : Hid (Rd w0 R ca len cap wz) := J_RD.out
    have GR_0 : Hid (w.grownBy wz (some R)) := J_GR.out
    have O1_0 : Hid (Owns 2 wz wq.heap.size g1 L gc1 z1) := J_O1.out
    have O2_0 : Hid (Owns 2 wz wq.heap.size g2 L gc2 z2) := J_O2.out
    have O3_0 : Hid (Owns 2 wz wq.heap.size g3 L gc3 z3) := J_O3.out
    have O4_0 : Hid (Owns 2 wz wq.heap.size g4 L gc4 z4) := J_O4.out
    have HP_0 : Hid (Lies wz pb [.int .i64 p1, .int .i64 p2, .int .i64 p3, .int .i64 p4, .slice g1 L gc1, .slice g2 L gc2, .slice g3 L gc3, .slice g4 L gc4]) := J_HP.out
    have LOO1 : Hid (∀ q, g1 = some q → wq.heap.size ≤ q.block) := O1_0.out.lo
    have LOO2 : Hid (∀ q, g2 = some q → wq.heap.size ≤ q.block) := O2_0.out.lo
    have LOO3 : Hid (∀ q, g3 = some q → wq.heap.size ≤ q.block) := O3_0.out.lo
    have LOO4 : Hid (∀ q, g4 = some q → wq.heap.size ≤ q.block) := O4_0.out.lo
    have kPB := J_PB.out
    obtain ⟨kM, kZ, kW, kR, kw, kS⟩ := HPBL.out _ kPB
    have HN64 : L ≤ 64 := J_LL.out
    clear J_HM J_HZ J_RD J_GR J_O1 J_O2 J_O3 J_O4 J_HP J_LL J_PB
    go_wp2_with fail
    refine (below_any HRow.out 10 (by decide) (by decide) _ RD_0.out).mono ?_
    rintro e w2 ⟨v2, u0, u1, rfl, hr, hg⟩
    have HM_1 : Hid (Lies w2 w.heap.size [.int .i64 a, .int .i64 b, .int .i64 c, .int .i64 d, .int .i64 f, .int .i64 k, .int .i64 a', .int .i64 b', .int .i64 c', .int .i64 d', .int .i64 f', .int .i64 k']) := HM_0.out.grown hg HNm
    have HZ_1 : Hid (Lies w2 (w.heap.size + 1) [.int .i64 0, .int .i64 0, .int .i64 0, .int .i64 0, .slice none 0 0, .slice none 0 0, .slice none 0 0, .slice none 0 0]) := HZ_0.out.grown hg HNz
    have RD_1 : Hid (Rd w0 R ca len cap w2) := hr
    have GR_1 : Hid (w.grownBy w2 (some R)) := GR_0.out.trans hg
    have O1_1 : Hid (Owns 2 w2 wq.heap.size g1 L gc1 z1) := O1_0.out.grownR hg (fun q hq e => by have := LOO1.out q hq; injection e with e; omega)
    have O2_1 : Hid (Owns 2 w2 wq.heap.size g2 L gc2 z2) := O2_0.out.grownR hg (fun q hq e => by have := LOO2.out q hq; injection e with e; omega)
    have O3_1 : Hid (Owns 2 w2 wq.heap.size g3 L gc3 z3) := O3_0.out.grownR hg (fun q hq e => by have := LOO3.out q hq; injection e with e; omega)
    have O4_1 : Hid (Owns 2 w2 wq.heap.size g4 L gc4 z4) := O4_0.out.grownR hg (fun q hq e => by have := LOO4.out q hq; injection e with e; omega)
    have HP_1 : Hid (Lies w2 pb [.int .i64 p1, .int .i64 p2, .int .i64 p3, .int .i64 p4, .slice g1 L gc1, .slice g2 L gc2, .slice g3 L gc3, .slice g4 L gc4]) := HP_0.out.grown hg kS
    clear HM_0 HZ_0 RD_0 GR_0 O1_0 O2_0 O3_0 O4_0 HP_0
    clear hg hr
    have NZ1 : ∀ q, g1 = some q → q.block ≠ w.heap.size + 1 := fun q hq => by have := LOO1.out q hq; omega
    have LW1 : ∀ q, g1 = some q → w.heap.size ≤ q.block := fun q hq => by have := LOO1.out q hq; omega
    have NP1 : ∀ q, g1 = some q → q.block ≠ pb := J_NE1.out
    have NZ2 : ∀ q, g2 = some q → q.block ≠ w.heap.size + 1 := fun q hq => by have := LOO2.out q hq; omega
    have LW2 : ∀ q, g2 = some q → w.heap.size ≤ q.block := fun q hq => by have := LOO2.out q hq; omega
    have NP2 : ∀ q, g2 = some q → q.block ≠ pb := J_NE2.out
    have NZ3 : ∀ q, g3 = some q → q.block ≠ w.heap.size + 1 := fun q hq => by have := LOO3.out q hq; omega
    have LW3 : ∀ q, g3 = some q → w.heap.size ≤ q.block := fun q hq => by have := LOO3.out q hq; omega
    have NP3 : ∀ q, g3 = some q → q.block ≠ pb := J_NE3.out
    have NZ4 : ∀ q, g4 = some q → q.block ≠ w.heap.size + 1 := fun q hq => by have := LOO4.out q hq; omega
    have LW4 : ∀ q, g4 = some q → w.heap.size ≤ q.block := fun q hq => by have := LOO4.out q hq; omega
    have NP4 : ∀ q, g4 = some q → q.block ≠ pb := J_NE4.out
    clear u0 u1
    obtain ⟨F12, F13, F14, F23, F24, F34⟩ := J_FA.out
    by_cases h5 : v2 = 5
    · subst h5
      by_cases hL0 : L = 0
      · have hLi : ¬ (0 : Int) < (L : Int) := by omega
        clear hL0
        have c0 : w2.cell? ⟨pb, 0, none⟩ = some (.int .i64 p1) := HP_1.out.at 0
        have c1 : w2.cell? ⟨pb, 1, none⟩ = some (.int .i64 p2) := HP_1.out.at 1
        have c2 : w2.cell? ⟨pb, 2, none⟩ = some (.int .i64 p3) := HP_1.out.at 2
        have c3 : w2.cell? ⟨pb, 3, none⟩ = some (.int .i64 p4) := HP_1.out.at 3
        have c4 : w2.cell? ⟨pb, 4, none⟩ = some (.slice g1 L gc1) := HP_1.out.at 4
        have c5 : w2.cell? ⟨pb, 5, none⟩ = some (.slice g2 L gc2) := HP_1.out.at 5
        have c6 : w2.cell? ⟨pb, 6, none⟩ = some (.slice g3 L gc3) := HP_1.out.at 6
        have c7 : w2.cell? ⟨pb, 7, none⟩ = some (.slice g4 L gc4) := HP_1.out.at 7
        have y0 : w2.cell? ⟨w.heap.size + 1, 0, none⟩ = some (.int .i64 0) := HZ_1.out.at 0
        have y1 : w2.cell? ⟨w.heap.size + 1, 1, none⟩ = some (.int .i64 0) := HZ_1.out.at 1
        have y2 : w2.cell? ⟨w.heap.size + 1, 2, none⟩ = some (.int .i64 0) := HZ_1.out.at 2
        have y3 : w2.cell? ⟨w.heap.size + 1, 3, none⟩ = some (.int .i64 0) := HZ_1.out.at 3
        have y4 : w2.cell? ⟨w.heap.size + 1, 4, none⟩ = some (.slice none 0 0) := HZ_1.out.at 4
        have y5 : w2.cell? ⟨w.heap.size + 1, 5, none⟩ = some (.slice none 0 0) := HZ_1.out.at 5
        have y6 : w2.cell? ⟨w.heap.size + 1, 6, none⟩ = some (.slice none 0 0) := HZ_1.out.at 6
        have y7 : w2.cell? ⟨w.heap.size + 1, 7, none⟩ = some (.slice none 0 0) := HZ_1.out.at 7
        have f0 : w2.frozen? ⟨w.heap.size + 1, 0, none⟩ = false := HZ_1.out.fr 0
        have f1 : w2.frozen? ⟨w.heap.size + 1, 1, none⟩ = false := HZ_1.out.fr 1
        have f2 : w2.frozen? ⟨w.heap.size + 1, 2, none⟩ = false := HZ_1.out.fr 2
        have f3 : w2.frozen? ⟨w.heap.size + 1, 3, none⟩ = false := HZ_1.out.fr 3
        have f4 : w2.frozen? ⟨w.heap.size + 1, 4, none⟩ = false := HZ_1.out.fr 4
        have f5 : w2.frozen? ⟨w.heap.size + 1, 5, none⟩ = false := HZ_1.out.fr 5
        have f6 : w2.frozen? ⟨w.heap.size + 1, 6, none⟩ = false := HZ_1.out.fr 6
        have f7 : w2.frozen? ⟨w.heap.size + 1, 7, none⟩ = false := HZ_1.out.fr 7
        have r0 : w2.frozen? ⟨pb, 0, none⟩ = false := HP_1.out.fr 0
        have r1 : w2.frozen? ⟨pb, 1, none⟩ = false := HP_1.out.fr 1
        have r2 : w2.frozen? ⟨pb, 2, none⟩ = false := HP_1.out.fr 2
        have r3 : w2.frozen? ⟨pb, 3, none⟩ = false := HP_1.out.fr 3
        have r4 : w2.frozen? ⟨pb, 4, none⟩ = false := HP_1.out.fr 4
        have r5 : w2.frozen? ⟨pb, 5, none⟩ = false := HP_1.out.fr 5
        have r6 : w2.frozen? ⟨pb, 6, none⟩ = false := HP_1.out.fr 6
        have r7 : w2.frozen? ⟨pb, 7, none⟩ = false := HP_1.out.fr 7
        go_wp2
        refine bodyPost_ret (v := .agg #[.int .i64 p1, .int .i64 p2, .int .i64 p3, .int .i64 p4, .slice g1 L gc1, .slice g2 L gc2, .slice g3 L gc3, .slice g4 L gc4]) (by simp [results, Tryz.results55, go_sem, y0, y1, y2, y3, y4, y5, y6, y7]) rfl ⟨_, _, _, _, _, _, _, z1, _, _, _, z2, _, _, _, z3, _, _, _, z4, ⟨rfl, ?_, ?_, ?_, ?_, ⟨by omega, by omega, by omega, by omega⟩, ⟨LW1, LW2, LW3, LW4⟩, ?_, ?_⟩⟩
        · exact (Sees.setS ((Sees.setS ((Sees.setS ((Sees.setS ((Sees.setS ((Sees.setS ((Sees.setS ((Sees.setS (O1_1.out.sees) NZ1)) NZ1)) NZ1)) NZ1)) NZ1)) NZ1)) NZ1)) NZ1)
        · exact (Sees.setS ((Sees.setS ((Sees.setS ((Sees.setS ((Sees.setS ((Sees.setS ((Sees.setS ((Sees.setS (O2_1.out.sees) NZ2)) NZ2)) NZ2)) NZ2)) NZ2)) NZ2)) NZ2)) NZ2)
        · exact (Sees.setS ((Sees.setS ((Sees.setS ((Sees.setS ((Sees.setS ((Sees.setS ((Sees.setS ((Sees.setS (O3_1.out.sees) NZ3)) NZ3)) NZ3)) NZ3)) NZ3)) NZ3)) NZ3)) NZ3)
        · exact (Sees.setS ((Sees.setS ((Sees.setS ((Sees.setS ((Sees.setS ((Sees.setS ((Sees.setS ((Sees.setS (O4_1.out.sees) NZ4)) NZ4)) NZ4)) NZ4)) NZ4)) NZ4)) NZ4)) NZ4)
        · exact (Rd.setS ((Rd.setS ((Rd.setS ((Rd.setS ((Rd.setS ((Rd.setS ((Rd.setS ((Rd.setS (RD_1.out) (by omega) (by omega))) (by omega) (by omega))) (by omega) (by omega))) (by omega) (by omega))) (by omega) (by omega))) (by omega) (by omega))) (by omega) (by omega))) (by omega) (by omega))
        · exact (grown_farS ((grown_farS ((grown_farS ((grown_farS ((grown_farS ((grown_farS ((grown_farS ((grown_farS (GR_1.out) (by omega))) (by omega))) (by omega))) (by omega))) (by omega))) (by omega))) (by omega))) (by omega))
      have hLi : (0 : Int) < (L : Int) := by omega
      have hLb : (L : Int) ≤ 64 := by omega
      obtain ⟨gq, hgq, hqlo, _, _, _⟩ := O1_1.out.block (by omega)
      subst hgq
      have c4 : w2.cell? ⟨pb, 4, none⟩ = some (.slice (some ⟨gq, 0, none⟩) L gc1) := HP_1.out.at 4
      go_wp2_with fail
      clear c4
      have hbd : Below w2.heap.size w2 w2.drew := (Below.refl _ _).drew
      have HM_r0 : Hid (Lies w2.drew w.heap.size [.int .i64 a, .int .i64 b, .int .i64 c, .int .i64 d, .int .i64 f, .int .i64 k, .int .i64 a', .int .i64 b', .int .i64 c', .int .i64 d', .int .i64 f', .int .i64 k']) := HM_1.out.belowS hbd
      have HZ_r0 : Hid (Lies w2.drew (w.heap.size + 1) [.int .i64 0, .int .i64 0, .int .i64 0, .int .i64 0, .slice none 0 0, .slice none 0 0, .slice none 0 0, .slice none 0 0]) := HZ_1.out.belowS hbd
      have RD_r0 : Hid (Rd w0 R ca len cap w2.drew) := RD_1.out.grow hbd
      have GR_r0 : Hid (w.grownBy w2.drew (some R)) := GR_1.out.trans (grown_of_below hbd _)
      have O1_r0 : Hid (Owns 2 w2.drew wq.heap.size (some ⟨gq, 0, none⟩) L gc1 z1) := O1_1.out.below hbd
      have O2_r0 : Hid (Owns 2 w2.drew wq.heap.size g2 L gc2 z2) := O2_1.out.below hbd
      have O3_r0 : Hid (Owns 2 w2.drew wq.heap.size g3 L gc3 z3) := O3_1.out.below hbd
      have O4_r0 : Hid (Owns 2 w2.drew wq.heap.size g4 L gc4 z4) := O4_1.out.below hbd
      have HP_r0 : Hid (Lies w2.drew pb [.int .i64 p1, .int .i64 p2, .int .i64 p3, .int .i64 p4, .slice (some ⟨gq, 0, none⟩) L gc1, .slice g2 L gc2, .slice g3 L gc3, .slice g4 L gc4]) := HP_1.out.belowS hbd
      clear hbd HM_1 HZ_1 RD_1 GR_1 O1_1 O2_1 O3_1 O4_1 HP_1
      refine wp_region_noPanic ?_
      refine wp_region_held_drew (S := fun W => w.grownBy W (some R) ∧ W.cell? ⟨pb, 4, none⟩ = some (.slice (some ⟨gq, 0, none⟩) L gc1)) (by kernel_rfl) (⟨GR_r0.out, HP_r0.out.at 4⟩) (fun hHeld => ?_)
      generalize w2.drew = wd0 at hHeld HM_r0 HZ_r0 RD_r0 GR_r0 O1_r0 O2_r0 O3_r0 O4_r0 HP_r0 ⊢
      refine wpAnyH_take (i := 0) (v := .pointer (some ⟨pb, 4, none⟩)) rfl (by kernel_rfl) (by kernel_rfl) (by kernel_rfl) (fun _ _ _ h => h) (Or.inl ⟨by kernel_rfl, ?_⟩) (by assumption) ?_
      · intro wq hSq; go_simp
      try simp only [Act.put]
      refine wpAnyH_take (i := 1) (v := .slice (some ⟨gq, 0, none⟩) L gc1) rfl (by kernel_rfl) (by kernel_rfl) (by kernel_rfl) (fun _ _ _ h => h) (Or.inl ⟨by kernel_rfl, ?_⟩) (by assumption) ?_
      · intro wp hSp; have c0 := hSp.2; go_simp
      try simp only [Act.put]
      refine wpAnyH_take (i := 2) (v := .pointer (some ⟨R, 0, none⟩)) rfl (by kernel_rfl) (by kernel_rfl) (by kernel_rfl) (fun _ _ _ h => h) (Or.inl ⟨by kernel_rfl, ?_⟩) (by assumption) ?_
      · intro wq hSq; go_simp
      try simp only [Act.put]
      refine wpAnyH_take (i := 3) (v := .pointer (some ⟨pb, 4, none⟩)) rfl (by kernel_rfl) (by kernel_rfl) (by kernel_rfl) (fun _ _ _ h => h) (Or.inl ⟨by kernel_rfl, ?_⟩) (by assumption) ?_
      · intro wq hSq; go_simp
      try simp only [Act.put]
      refine wpAnyH_take (i := 4) (v := .slice (some ⟨gq, 0, none⟩) L gc1) rfl (by kernel_rfl) (by kernel_rfl) (by kernel_rfl) (fun _ _ _ h => h) (Or.inl ⟨by kernel_rfl, ?_⟩) (by assumption) ?_
      · intro wp hSp; have c0 := hSp.2; go_simp
      try simp only [Act.put]
      refine wpAnyH_take (i := 5) (v := .int .i64 (L : Int)) rfl (by kernel_rfl) (by kernel_rfl) (by kernel_rfl) (fun _ _ _ h => h) (Or.inl ⟨by kernel_rfl, ?_⟩) (by assumption) ?_
      · intro wq hSq; go_simp
      try simp only [Act.put]
      refine wpAnyH_take (i := 7) (v := .pointer (some ⟨R, 0, none⟩)) rfl (by kernel_rfl) (by kernel_rfl) (by kernel_rfl) (fun _ _ _ h => h) (Or.inl ⟨by kernel_rfl, ?_⟩) (by assumption) ?_
      · intro wq hSq; go_simp
      try simp only [Act.put]
      refine wpAnyH_ready (rs := [6]) (by kernel_rfl) (by simp) ?_
      refine AllReadyH.cons rfl (fun Kk hK => ?_) AllReadyH.nil
      go_simp
      refine (below_any HRow.out (L : Int) (by omega) (by omega) _ RD_r0.out).mono ?_
      rintro e wd1 ⟨v3, t0, t1, rfl, hr1, hg1⟩
      go_simp
      have HM_r1 : Hid (Lies wd1 w.heap.size [.int .i64 a, .int .i64 b, .int .i64 c, .int .i64 d, .int .i64 f, .int .i64 k, .int .i64 a', .int .i64 b', .int .i64 c', .int .i64 d', .int .i64 f', .int .i64 k']) := HM_r0.out.grown hg1 HNm
      have HZ_r1 : Hid (Lies wd1 (w.heap.size + 1) [.int .i64 0, .int .i64 0, .int .i64 0, .int .i64 0, .slice none 0 0, .slice none 0 0, .slice none 0 0, .slice none 0 0]) := HZ_r0.out.grown hg1 HNz
      have RD_r1 : Hid (Rd w0 R ca len cap wd1) := hr1
      have GR_r1 : Hid (w.grownBy wd1 (some R)) := GR_r0.out.trans hg1
      have O1_r1 : Hid (Owns 2 wd1 wq.heap.size (some ⟨gq, 0, none⟩) L gc1 z1) := O1_r0.out.grownR hg1 (fun q hq e => by have := LOO1.out q hq; injection e with e; omega)
      have O2_r1 : Hid (Owns 2 wd1 wq.heap.size g2 L gc2 z2) := O2_r0.out.grownR hg1 (fun q hq e => by have := LOO2.out q hq; injection e with e; omega)
      have O3_r1 : Hid (Owns 2 wd1 wq.heap.size g3 L gc3 z3) := O3_r0.out.grownR hg1 (fun q hq e => by have := LOO3.out q hq; injection e with e; omega)
      have O4_r1 : Hid (Owns 2 wd1 wq.heap.size g4 L gc4 z4) := O4_r0.out.grownR hg1 (fun q hq e => by have := LOO4.out q hq; injection e with e; omega)
      have HP_r1 : Hid (Lies wd1 pb [.int .i64 p1, .int .i64 p2, .int .i64 p3, .int .i64 p4, .slice (some ⟨gq, 0, none⟩) L gc1, .slice g2 L gc2, .slice g3 L gc3, .slice g4 L gc4]) := HP_r0.out.grown hg1 kS
      have hS1 : w.grownBy wd1 (some R) ∧ wd1.cell? ⟨pb, 4, none⟩ = some (.slice (some ⟨gq, 0, none⟩) L gc1) := ⟨GR_r1.out, HP_r1.out.at 4⟩
      refine hK.out _ _ hS1 (fun _ => ?_)
      clear hK Kk hg1 HM_r0 HZ_r0 RD_r0 GR_r0 O1_r0 O2_r0 O3_r0 O4_r0 HP_r0 hr1
      try simp only [Act.put]
      refine wpAnyH_ready (rs := [8]) (by kernel_rfl) (by simp) ?_
      refine AllReadyH.cons rfl (fun Kk hK => ?_) AllReadyH.nil
      go_simp
      refine (elem_any HRow.out _ RD_r1.out).mono ?_
      rintro e wd2 ⟨ev, ev0, ev1, rfl, hr2, hg2⟩
      go_simp
      have HM_r2 : Hid (Lies wd2 w.heap.size [.int .i64 a, .int .i64 b, .int .i64 c, .int .i64 d, .int .i64 f, .int .i64 k, .int .i64 a', .int .i64 b', .int .i64 c', .int .i64 d', .int .i64 f', .int .i64 k']) := HM_r1.out.grown hg2 HNm
      have HZ_r2 : Hid (Lies wd2 (w.heap.size + 1) [.int .i64 0, .int .i64 0, .int .i64 0, .int .i64 0, .slice none 0 0, .slice none 0 0, .slice none 0 0, .slice none 0 0]) := HZ_r1.out.grown hg2 HNz
      have RD_r2 : Hid (Rd w0 R ca len cap wd2) := hr2
      have GR_r2 : Hid (w.grownBy wd2 (some R)) := GR_r1.out.trans hg2
      have O1_r2 : Hid (Owns 2 wd2 wq.heap.size (some ⟨gq, 0, none⟩) L gc1 z1) := O1_r1.out.grownR hg2 (fun q hq e => by have := LOO1.out q hq; injection e with e; omega)
      have O2_r2 : Hid (Owns 2 wd2 wq.heap.size g2 L gc2 z2) := O2_r1.out.grownR hg2 (fun q hq e => by have := LOO2.out q hq; injection e with e; omega)
      have O3_r2 : Hid (Owns 2 wd2 wq.heap.size g3 L gc3 z3) := O3_r1.out.grownR hg2 (fun q hq e => by have := LOO3.out q hq; injection e with e; omega)
      have O4_r2 : Hid (Owns 2 wd2 wq.heap.size g4 L gc4 z4) := O4_r1.out.grownR hg2 (fun q hq e => by have := LOO4.out q hq; injection e with e; omega)
      have HP_r2 : Hid (Lies wd2 pb [.int .i64 p1, .int .i64 p2, .int .i64 p3, .int .i64 p4, .slice (some ⟨gq, 0, none⟩) L gc1, .slice g2 L gc2, .slice g3 L gc3, .slice g4 L gc4]) := HP_r1.out.grown hg2 kS
      have hS2 : w.grownBy wd2 (some R) ∧ wd2.cell? ⟨pb, 4, none⟩ = some (.slice (some ⟨gq, 0, none⟩) L gc1) := ⟨GR_r2.out, HP_r2.out.at 4⟩
      refine hK.out _ _ hS2 (fun _ => ?_)
      clear hK Kk hg2 HM_r1 HZ_r1 RD_r1 GR_r1 O1_r1 O2_r1 O3_r1 O4_r1 HP_r1 hr2
      try simp only [Act.put]
      have hvn : v3.toNat < L := by omega
      refine wpAnyH_take (i := 9) (v := .pointer (some ⟨gq, v3.toNat, none⟩)) rfl (by kernel_rfl) (by kernel_rfl) (by kernel_rfl) (fun _ _ _ h => h) (Or.inl ⟨by kernel_rfl, ?_⟩) (by assumption) ?_
      · intro wq hSq; go_simp
      try simp only [Act.put]
      obtain ⟨gq2, hgq2, _, _, hcl, hfr⟩ := O1_r2.out.block (by omega)
      have hgg : gq = gq2 := by simpa using hgq2
      subst hgg
      have cc := hcl v3.toNat hvn
      have ff := hfr v3.toNat
      clear hcl hfr hgq2
      refine wpAnyH_ready (rs := [10]) (by kernel_rfl) (by simp) ?_
      refine AllReadyH.cons rfl (fun Kk hK => ?_) AllReadyH.nil
      go_simp
      have HM_z : Hid (Lies (wd2.setCell ⟨gq, v3.toNat, none⟩ (.int .i64 ev)) w.heap.size [.int .i64 a, .int .i64 b, .int .i64 c, .int .i64 d, .int .i64 f, .int .i64 k, .int .i64 a', .int .i64 b', .int .i64 c', .int .i64 d', .int .i64 f', .int .i64 k']) := HM_r2.out.far (by omega) _ _
      have HZ_z : Hid (Lies (wd2.setCell ⟨gq, v3.toNat, none⟩ (.int .i64 ev)) (w.heap.size + 1) [.int .i64 0, .int .i64 0, .int .i64 0, .int .i64 0, .slice none 0 0, .slice none 0 0, .slice none 0 0, .slice none 0 0]) := HZ_r2.out.far (by omega) _ _
      have RD_z : Hid (Rd w0 R ca len cap (wd2.setCell ⟨gq, v3.toNat, none⟩ (.int .i64 ev))) := Rd.setS RD_r2.out (by omega) (by omega)
      have GR_z : Hid (w.grownBy (wd2.setCell ⟨gq, v3.toNat, none⟩ (.int .i64 ev)) (some R)) := grown_farS GR_r2.out (by omega)
      have O1_z : Hid (Owns 2 (wd2.setCell ⟨gq, v3.toNat, none⟩ (.int .i64 ev)) wq.heap.size (some ⟨gq, 0, none⟩) L gc1 (z1.set v3.toNat ev)) := O1_r2.out.set v3.toNat ev
      have O2_z : Hid (Owns 2 (wd2.setCell ⟨gq, v3.toNat, none⟩ (.int .i64 ev)) wq.heap.size g2 L gc2 z2) := O2_r2.out.other ⟨gq, v3.toNat, none⟩ (fun q hq => Ne.symm (F12 ⟨gq, 0, none⟩ q rfl hq)) _
      have O3_z : Hid (Owns 2 (wd2.setCell ⟨gq, v3.toNat, none⟩ (.int .i64 ev)) wq.heap.size g3 L gc3 z3) := O3_r2.out.other ⟨gq, v3.toNat, none⟩ (fun q hq => Ne.symm (F13 ⟨gq, 0, none⟩ q rfl hq)) _
      have O4_z : Hid (Owns 2 (wd2.setCell ⟨gq, v3.toNat, none⟩ (.int .i64 ev)) wq.heap.size g4 L gc4 z4) := O4_r2.out.other ⟨gq, v3.toNat, none⟩ (fun q hq => Ne.symm (F14 ⟨gq, 0, none⟩ q rfl hq)) _
      have HP_z : Hid (Lies (wd2.setCell ⟨gq, v3.toNat, none⟩ (.int .i64 ev)) pb [.int .i64 p1, .int .i64 p2, .int .i64 p3, .int .i64 p4, .slice (some ⟨gq, 0, none⟩) L gc1, .slice g2 L gc2, .slice g3 L gc3, .slice g4 L gc4]) := HP_r2.out.far (Ne.symm (NP1 _ rfl)) _ _
      have hSz : w.grownBy (wd2.setCell ⟨gq, v3.toNat, none⟩ (.int .i64 ev)) (some R) ∧ (wd2.setCell ⟨gq, v3.toNat, none⟩ (.int .i64 ev)).cell? ⟨pb, 4, none⟩ = some (.slice (some ⟨gq, 0, none⟩) L gc1) := ⟨GR_z.out, HP_z.out.at 4⟩
      refine hK.out _ _ hSz (fun _ => ?_)
      clear hK Kk cc ff hSz HM_r2 HZ_r2 RD_r2 GR_r2 O1_r2 O2_r2 O3_r2 O4_r2 HP_r2
      generalize (wd2.setCell ⟨gq, v3.toNat, none⟩ (.int .i64 ev)) = wy at HM_z HZ_z RD_z GR_z O1_z O2_z O3_z O4_z HP_z ⊢
      try simp only [Act.put]
      refine wpAnyH_done (by kernel_rfl) ?_ _
      refine NoPanic.normal ?_
      go_simp
      have HM_2 : Hid (Lies wy w.heap.size [.int .i64 a, .int .i64 b, .int .i64 c, .int .i64 d, .int .i64 f, .int .i64 k, .int .i64 a', .int .i64 b', .int .i64 c', .int .i64 d', .int .i64 f', .int .i64 k']) := HM_z.out
      have HZ_2 : Hid (Lies wy (w.heap.size + 1) [.int .i64 0, .int .i64 0, .int .i64 0, .int .i64 0, .slice none 0 0, .slice none 0 0, .slice none 0 0, .slice none 0 0]) := HZ_z.out
      have RD_2 : Hid (Rd w0 R ca len cap wy) := RD_z.out
      have GR_2 : Hid (w.grownBy wy (some R)) := GR_z.out
      have O1_2 : Hid (Owns 2 wy wq.heap.size (some ⟨gq, 0, none⟩) L gc1 (z1.set v3.toNat ev)) := O1_z.out
      have O2_2 : Hid (Owns 2 wy wq.heap.size g2 L gc2 z2) := O2_z.out
      have O3_2 : Hid (Owns 2 wy wq.heap.size g3 L gc3 z3) := O3_z.out
      have O4_2 : Hid (Owns 2 wy wq.heap.size g4 L gc4 z4) := O4_z.out
      have HP_2 : Hid (Lies wy pb [.int .i64 p1, .int .i64 p2, .int .i64 p3, .int .i64 p4, .slice (some ⟨gq, 0, none⟩) L gc1, .slice g2 L gc2, .slice g3 L gc3, .slice g4 L gc4]) := HP_z.out
      clear HM_z HZ_z RD_z GR_z O1_z O2_z O3_z O4_z HP_z
      have c0 : wy.cell? ⟨pb, 0, none⟩ = some (.int .i64 p1) := HP_2.out.at 0
      have c1 : wy.cell? ⟨pb, 1, none⟩ = some (.int .i64 p2) := HP_2.out.at 1
      have c2 : wy.cell? ⟨pb, 2, none⟩ = some (.int .i64 p3) := HP_2.out.at 2
      have c3 : wy.cell? ⟨pb, 3, none⟩ = some (.int .i64 p4) := HP_2.out.at 3
      have c4 : wy.cell? ⟨pb, 4, none⟩ = some (.slice (some ⟨gq, 0, none⟩) L gc1) := HP_2.out.at 4
      have c5 : wy.cell? ⟨pb, 5, none⟩ = some (.slice g2 L gc2) := HP_2.out.at 5
      have c6 : wy.cell? ⟨pb, 6, none⟩ = some (.slice g3 L gc3) := HP_2.out.at 6
      have c7 : wy.cell? ⟨pb, 7, none⟩ = some (.slice g4 L gc4) := HP_2.out.at 7
      have y0 : wy.cell? ⟨w.heap.size + 1, 0, none⟩ = some (.int .i64 0) := HZ_2.out.at 0
      have y1 : wy.cell? ⟨w.heap.size + 1, 1, none⟩ = some (.int .i64 0) := HZ_2.out.at 1
      have y2 : wy.cell? ⟨w.heap.size + 1, 2, none⟩ = some (.int .i64 0) := HZ_2.out.at 2
      have y3 : wy.cell? ⟨w.heap.size + 1, 3, none⟩ = some (.int .i64 0) := HZ_2.out.at 3
      have y4 : wy.cell? ⟨w.heap.size + 1, 4, none⟩ = some (.slice none 0 0) := HZ_2.out.at 4
      have y5 : wy.cell? ⟨w.heap.size + 1, 5, none⟩ = some (.slice none 0 0) := HZ_2.out.at 5
      have y6 : wy.cell? ⟨w.heap.size + 1, 6, none⟩ = some (.slice none 0 0) := HZ_2.out.at 6
      have y7 : wy.cell? ⟨w.heap.size + 1, 7, none⟩ = some (.slice none 0 0) := HZ_2.out.at 7
      have f0 : wy.frozen? ⟨w.heap.size + 1, 0, none⟩ = false := HZ_2.out.fr 0
      have f1 : wy.frozen? ⟨w.heap.size + 1, 1, none⟩ = false := HZ_2.out.fr 1
      have f2 : wy.frozen? ⟨w.heap.size + 1, 2, none⟩ = false := HZ_2.out.fr 2
      have f3 : wy.frozen? ⟨w.heap.size + 1, 3, none⟩ = false := HZ_2.out.fr 3
      have f4 : wy.frozen? ⟨w.heap.size + 1, 4, none⟩ = false := HZ_2.out.fr 4
      have f5 : wy.frozen? ⟨w.heap.size + 1, 5, none⟩ = false := HZ_2.out.fr 5
      have f6 : wy.frozen? ⟨w.heap.size + 1, 6, none⟩ = false := HZ_2.out.fr 6
      have f7 : wy.frozen? ⟨w.heap.size + 1, 7, none⟩ = false := HZ_2.out.fr 7
      go_wp2
      refine bodyPost_ret (v := .agg #[.int .i64 p1, .int .i64 p2, .int .i64 p3, .int .i64 p4, .slice (some ⟨gq, 0, none⟩) L gc1, .slice g2 L gc2, .slice g3 L gc3, .slice g4 L gc4]) (by simp [results, Tryz.results55, go_sem, y0, y1, y2, y3, y4, y5, y6, y7]) rfl ⟨_, _, _, _, _, _, _, (z1.set v3.toNat ev), _, _, _, z2, _, _, _, z3, _, _, _, z4, ⟨rfl, ?_, ?_, ?_, ?_, ⟨by omega, by omega, by omega, by omega⟩, ⟨LW1, LW2, LW3, LW4⟩, ?_, ?_⟩⟩
      · exact (Sees.setS ((Sees.setS ((Sees.setS ((Sees.setS ((Sees.setS ((Sees.setS ((Sees.setS ((Sees.setS (O1_2.out.sees) NZ1)) NZ1)) NZ1)) NZ1)) NZ1)) NZ1)) NZ1)) NZ1)
      · exact (Sees.setS ((Sees.setS ((Sees.setS ((Sees.setS ((Sees.setS ((Sees.setS ((Sees.setS ((Sees.setS (O2_2.out.sees) NZ2)) NZ2)) NZ2)) NZ2)) NZ2)) NZ2)) NZ2)) NZ2)
      · exact (Sees.setS ((Sees.setS ((Sees.setS ((Sees.setS ((Sees.setS ((Sees.setS ((Sees.setS ((Sees.setS (O3_2.out.sees) NZ3)) NZ3)) NZ3)) NZ3)) NZ3)) NZ3)) NZ3)) NZ3)
      · exact (Sees.setS ((Sees.setS ((Sees.setS ((Sees.setS ((Sees.setS ((Sees.setS ((Sees.setS ((Sees.setS (O4_2.out.sees) NZ4)) NZ4)) NZ4)) NZ4)) NZ4)) NZ4)) NZ4)) NZ4)
      · exact (Rd.setS ((Rd.setS ((Rd.setS ((Rd.setS ((Rd.setS ((Rd.setS ((Rd.setS ((Rd.setS (RD_2.out) (by omega) (by omega))) (by omega) (by omega))) (by omega) (by omega))) (by omega) (by omega))) (by omega) (by omega))) (by omega) (by omega))) (by omega) (by omega))) (by omega) (by omega))
      · exact (grown_farS ((grown_farS ((grown_farS ((grown_farS ((grown_farS ((grown_farS ((grown_farS ((grown_farS (GR_2.out) (by omega))) (by omega))) (by omega))) (by omega))) (by omega))) (by omega))) (by omega))) (by omega))
    by_cases h6 : v2 = 6
    · subst h6
      by_cases hL0 : L = 0
      · have hLi : ¬ (0 : Int) < (L : Int) := by omega
        clear hL0
        have c0 : w2.cell? ⟨pb, 0, none⟩ = some (.int .i64 p1) := HP_1.out.at 0
        have c1 : w2.cell? ⟨pb, 1, none⟩ = some (.int .i64 p2) := HP_1.out.at 1
        have c2 : w2.cell? ⟨pb, 2, none⟩ = some (.int .i64 p3) := HP_1.out.at 2
        have c3 : w2.cell? ⟨pb, 3, none⟩ = some (.int .i64 p4) := HP_1.out.at 3
        have c4 : w2.cell? ⟨pb, 4, none⟩ = some (.slice g1 L gc1) := HP_1.out.at 4
        have c5 : w2.cell? ⟨pb, 5, none⟩ = some (.slice g2 L gc2) := HP_1.out.at 5
        have c6 : w2.cell? ⟨pb, 6, none⟩ = some (.slice g3 L gc3) := HP_1.out.at 6
        have c7 : w2.cell? ⟨pb, 7, none⟩ = some (.slice g4 L gc4) := HP_1.out.at 7
        have y0 : w2.cell? ⟨w.heap.size + 1, 0, none⟩ = some (.int .i64 0) := HZ_1.out.at 0
        have y1 : w2.cell? ⟨w.heap.size + 1, 1, none⟩ = some (.int .i64 0) := HZ_1.out.at 1
        have y2 : w2.cell? ⟨w.heap.size + 1, 2, none⟩ = some (.int .i64 0) := HZ_1.out.at 2
        have y3 : w2.cell? ⟨w.heap.size + 1, 3, none⟩ = some (.int .i64 0) := HZ_1.out.at 3
        have y4 : w2.cell? ⟨w.heap.size + 1, 4, none⟩ = some (.slice none 0 0) := HZ_1.out.at 4
        have y5 : w2.cell? ⟨w.heap.size + 1, 5, none⟩ = some (.slice none 0 0) := HZ_1.out.at 5
        have y6 : w2.cell? ⟨w.heap.size + 1, 6, none⟩ = some (.slice none 0 0) := HZ_1.out.at 6
        have y7 : w2.cell? ⟨w.heap.size + 1, 7, none⟩ = some (.slice none 0 0) := HZ_1.out.at 7
        have f0 : w2.frozen? ⟨w.heap.size + 1, 0, none⟩ = false := HZ_1.out.fr 0
        have f1 : w2.frozen? ⟨w.heap.size + 1, 1, none⟩ = false := HZ_1.out.fr 1
        have f2 : w2.frozen? ⟨w.heap.size + 1, 2, none⟩ = false := HZ_1.out.fr 2
        have f3 : w2.frozen? ⟨w.heap.size + 1, 3, none⟩ = false := HZ_1.out.fr 3
        have f4 : w2.frozen? ⟨w.heap.size + 1, 4, none⟩ = false := HZ_1.out.fr 4
        have f5 : w2.frozen? ⟨w.heap.size + 1, 5, none⟩ = false := HZ_1.out.fr 5
        have f6 : w2.frozen? ⟨w.heap.size + 1, 6, none⟩ = false := HZ_1.out.fr 6
        have f7 : w2.frozen? ⟨w.heap.size + 1, 7, none⟩ = false := HZ_1.out.fr 7
        have r0 : w2.frozen? ⟨pb, 0, none⟩ = false := HP_1.out.fr 0
        have r1 : w2.frozen? ⟨pb, 1, none⟩ = false := HP_1.out.fr 1
        have r2 : w2.frozen? ⟨pb, 2, none⟩ = false := HP_1.out.fr 2
        have r3 : w2.frozen? ⟨pb, 3, none⟩ = false := HP_1.out.fr 3
        have r4 : w2.frozen? ⟨pb, 4, none⟩ = false := HP_1.out.fr 4
        have r5 : w2.frozen? ⟨pb, 5, none⟩ = false := HP_1.out.fr 5
        have r6 : w2.frozen? ⟨pb, 6, none⟩ = false := HP_1.out.fr 6
        have r7 : w2.frozen? ⟨pb, 7, none⟩ = false := HP_1.out.fr 7
        go_wp2
        refine bodyPost_ret (v := .agg #[.int .i64 p1, .int .i64 p2, .int .i64 p3, .int .i64 p4, .slice g1 L gc1, .slice g2 L gc2, .slice g3 L gc3, .slice g4 L gc4]) (by simp [results, Tryz.results55, go_sem, y0, y1, y2, y3, y4, y5, y6, y7]) rfl ⟨_, _, _, _, _, _, _, z1, _, _, _, z2, _, _, _, z3, _, _, _, z4, ⟨rfl, ?_, ?_, ?_, ?_, ⟨by omega, by omega, by omega, by omega⟩, ⟨LW1, LW2, LW3, LW4⟩, ?_, ?_⟩⟩
        · exact (Sees.setS ((Sees.setS ((Sees.setS ((Sees.setS ((Sees.setS ((Sees.setS ((Sees.setS ((Sees.setS (O1_1.out.sees) NZ1)) NZ1)) NZ1)) NZ1)) NZ1)) NZ1)) NZ1)) NZ1)
        · exact (Sees.setS ((Sees.setS ((Sees.setS ((Sees.setS ((Sees.setS ((Sees.setS ((Sees.setS ((Sees.setS (O2_1.out.sees) NZ2)) NZ2)) NZ2)) NZ2)) NZ2)) NZ2)) NZ2)) NZ2)
        · exact (Sees.setS ((Sees.setS ((Sees.setS ((Sees.setS ((Sees.setS ((Sees.setS ((Sees.setS ((Sees.setS (O3_1.out.sees) NZ3)) NZ3)) NZ3)) NZ3)) NZ3)) NZ3)) NZ3)) NZ3)
        · exact (Sees.setS ((Sees.setS ((Sees.setS ((Sees.setS ((Sees.setS ((Sees.setS ((Sees.setS ((Sees.setS (O4_1.out.sees) NZ4)) NZ4)) NZ4)) NZ4)) NZ4)) NZ4)) NZ4)) NZ4)
        · exact (Rd.setS ((Rd.setS ((Rd.setS ((Rd.setS ((Rd.setS ((Rd.setS ((Rd.setS ((Rd.setS (RD_1.out) (by omega) (by omega))) (by omega) (by omega))) (by omega) (by omega))) (by omega) (by omega))) (by omega) (by omega))) (by omega) (by omega))) (by omega) (by omega))) (by omega) (by omega))
        · exact (grown_farS ((grown_farS ((grown_farS ((grown_farS ((grown_farS ((grown_farS ((grown_farS ((grown_farS (GR_1.out) (by omega))) (by omega))) (by omega))) (by omega))) (by omega))) (by omega))) (by omega))) (by omega))
      have hLi : (0 : Int) < (L : Int) := by omega
      have hLb : (L : Int) ≤ 64 := by omega
      obtain ⟨gq, hgq, hqlo, _, _, _⟩ := O4_1.out.block (by omega)
      subst hgq
      have c7 : w2.cell? ⟨pb, 7, none⟩ = some (.slice (some ⟨gq, 0, none⟩) L gc4) := HP_1.out.at 7
      go_wp2_with fail
      clear c7
      have hbd : Below w2.heap.size w2 w2.drew := (Below.refl _ _).drew
      have HM_r0 : Hid (Lies w2.drew w.heap.size [.int .i64 a, .int .i64 b, .int .i64 c, .int .i64 d, .int .i64 f, .int .i64 k, .int .i64 a', .int .i64 b', .int .i64 c', .int .i64 d', .int .i64 f', .int .i64 k']) := HM_1.out.belowS hbd
      have HZ_r0 : Hid (Lies w2.drew (w.heap.size + 1) [.int .i64 0, .int .i64 0, .int .i64 0, .int .i64 0, .slice none 0 0, .slice none 0 0, .slice none 0 0, .slice none 0 0]) := HZ_1.out.belowS hbd
      have RD_r0 : Hid (Rd w0 R ca len cap w2.drew) := RD_1.out.grow hbd
      have GR_r0 : Hid (w.grownBy w2.drew (some R)) := GR_1.out.trans (grown_of_below hbd _)
      have O1_r0 : Hid (Owns 2 w2.drew wq.heap.size g1 L gc1 z1) := O1_1.out.below hbd
      have O2_r0 : Hid (Owns 2 w2.drew wq.heap.size g2 L gc2 z2) := O2_1.out.below hbd
      have O3_r0 : Hid (Owns 2 w2.drew wq.heap.size g3 L gc3 z3) := O3_1.out.below hbd
      have O4_r0 : Hid (Owns 2 w2.drew wq.heap.size (some ⟨gq, 0, none⟩) L gc4 z4) := O4_1.out.below hbd
      have HP_r0 : Hid (Lies w2.drew pb [.int .i64 p1, .int .i64 p2, .int .i64 p3, .int .i64 p4, .slice g1 L gc1, .slice g2 L gc2, .slice g3 L gc3, .slice (some ⟨gq, 0, none⟩) L gc4]) := HP_1.out.belowS hbd
      clear hbd HM_1 HZ_1 RD_1 GR_1 O1_1 O2_1 O3_1 O4_1 HP_1
      refine wp_region_noPanic ?_
      refine wp_region_held_drew (S := fun W => w.grownBy W (some R) ∧ W.cell? ⟨pb, 7, none⟩ = some (.slice (some ⟨gq, 0, none⟩) L gc4)) (by kernel_rfl) (⟨GR_r0.out, HP_r0.out.at 7⟩) (fun hHeld => ?_)
      generalize w2.drew = wd0 at hHeld HM_r0 HZ_r0 RD_r0 GR_r0 O1_r0 O2_r0 O3_r0 O4_r0 HP_r0 ⊢
      refine wpAnyH_take (i := 0) (v := .pointer (some ⟨pb, 7, none⟩)) rfl (by kernel_rfl) (by kernel_rfl) (by kernel_rfl) (fun _ _ _ h => h) (Or.inl ⟨by kernel_rfl, ?_⟩) (by assumption) ?_
      · intro wq hSq; go_simp
      try simp only [Act.put]
      refine wpAnyH_take (i := 1) (v := .slice (some ⟨gq, 0, none⟩) L gc4) rfl (by kernel_rfl) (by kernel_rfl) (by kernel_rfl) (fun _ _ _ h => h) (Or.inl ⟨by kernel_rfl, ?_⟩) (by assumption) ?_
      · intro wp hSp; have c0 := hSp.2; go_simp
      try simp only [Act.put]
      refine wpAnyH_take (i := 2) (v := .pointer (some ⟨R, 0, none⟩)) rfl (by kernel_rfl) (by kernel_rfl) (by kernel_rfl) (fun _ _ _ h => h) (Or.inl ⟨by kernel_rfl, ?_⟩) (by assumption) ?_
      · intro wq hSq; go_simp
      try simp only [Act.put]
      refine wpAnyH_take (i := 3) (v := .pointer (some ⟨pb, 7, none⟩)) rfl (by kernel_rfl) (by kernel_rfl) (by kernel_rfl) (fun _ _ _ h => h) (Or.inl ⟨by kernel_rfl, ?_⟩) (by assumption) ?_
      · intro wq hSq; go_simp
      try simp only [Act.put]
      refine wpAnyH_take (i := 4) (v := .slice (some ⟨gq, 0, none⟩) L gc4) rfl (by kernel_rfl) (by kernel_rfl) (by kernel_rfl) (fun _ _ _ h => h) (Or.inl ⟨by kernel_rfl, ?_⟩) (by assumption) ?_
      · intro wp hSp; have c0 := hSp.2; go_simp
      try simp only [Act.put]
      refine wpAnyH_take (i := 5) (v := .int .i64 (L : Int)) rfl (by kernel_rfl) (by kernel_rfl) (by kernel_rfl) (fun _ _ _ h => h) (Or.inl ⟨by kernel_rfl, ?_⟩) (by assumption) ?_
      · intro wq hSq; go_simp
      try simp only [Act.put]
      refine wpAnyH_take (i := 7) (v := .pointer (some ⟨R, 0, none⟩)) rfl (by kernel_rfl) (by kernel_rfl) (by kernel_rfl) (fun _ _ _ h => h) (Or.inl ⟨by kernel_rfl, ?_⟩) (by assumption) ?_
      · intro wq hSq; go_simp
      try simp only [Act.put]
      refine wpAnyH_ready (rs := [6]) (by kernel_rfl) (by simp) ?_
      refine AllReadyH.cons rfl (fun Kk hK => ?_) AllReadyH.nil
      go_simp
      refine (below_any HRow.out (L : Int) (by omega) (by omega) _ RD_r0.out).mono ?_
      rintro e wd1 ⟨v3, t0, t1, rfl, hr1, hg1⟩
      go_simp
      have HM_r1 : Hid (Lies wd1 w.heap.size [.int .i64 a, .int .i64 b, .int .i64 c, .int .i64 d, .int .i64 f, .int .i64 k, .int .i64 a', .int .i64 b', .int .i64 c', .int .i64 d', .int .i64 f', .int .i64 k']) := HM_r0.out.grown hg1 HNm
      have HZ_r1 : Hid (Lies wd1 (w.heap.size + 1) [.int .i64 0, .int .i64 0, .int .i64 0, .int .i64 0, .slice none 0 0, .slice none 0 0, .slice none 0 0, .slice none 0 0]) := HZ_r0.out.grown hg1 HNz
      have RD_r1 : Hid (Rd w0 R ca len cap wd1) := hr1
      have GR_r1 : Hid (w.grownBy wd1 (some R)) := GR_r0.out.trans hg1
      have O1_r1 : Hid (Owns 2 wd1 wq.heap.size g1 L gc1 z1) := O1_r0.out.grownR hg1 (fun q hq e => by have := LOO1.out q hq; injection e with e; omega)
      have O2_r1 : Hid (Owns 2 wd1 wq.heap.size g2 L gc2 z2) := O2_r0.out.grownR hg1 (fun q hq e => by have := LOO2.out q hq; injection e with e; omega)
      have O3_r1 : Hid (Owns 2 wd1 wq.heap.size g3 L gc3 z3) := O3_r0.out.grownR hg1 (fun q hq e => by have := LOO3.out q hq; injection e with e; omega)
      have O4_r1 : Hid (Owns 2 wd1 wq.heap.size (some ⟨gq, 0, none⟩) L gc4 z4) := O4_r0.out.grownR hg1 (fun q hq e => by have := LOO4.out q hq; injection e with e; omega)
      have HP_r1 : Hid (Lies wd1 pb [.int .i64 p1, .int .i64 p2, .int .i64 p3, .int .i64 p4, .slice g1 L gc1, .slice g2 L gc2, .slice g3 L gc3, .slice (some ⟨gq, 0, none⟩) L gc4]) := HP_r0.out.grown hg1 kS
      have hS1 : w.grownBy wd1 (some R) ∧ wd1.cell? ⟨pb, 7, none⟩ = some (.slice (some ⟨gq, 0, none⟩) L gc4) := ⟨GR_r1.out, HP_r1.out.at 7⟩
      refine hK.out _ _ hS1 (fun _ => ?_)
      clear hK Kk hg1 HM_r0 HZ_r0 RD_r0 GR_r0 O1_r0 O2_r0 O3_r0 O4_r0 HP_r0 hr1
      try simp only [Act.put]
      refine wpAnyH_ready (rs := [8]) (by kernel_rfl) (by simp) ?_
      refine AllReadyH.cons rfl (fun Kk hK => ?_) AllReadyH.nil
      go_simp
      refine (elem_any HRow.out _ RD_r1.out).mono ?_
      rintro e wd2 ⟨ev, ev0, ev1, rfl, hr2, hg2⟩
      go_simp
      have HM_r2 : Hid (Lies wd2 w.heap.size [.int .i64 a, .int .i64 b, .int .i64 c, .int .i64 d, .int .i64 f, .int .i64 k, .int .i64 a', .int .i64 b', .int .i64 c', .int .i64 d', .int .i64 f', .int .i64 k']) := HM_r1.out.grown hg2 HNm
      have HZ_r2 : Hid (Lies wd2 (w.heap.size + 1) [.int .i64 0, .int .i64 0, .int .i64 0, .int .i64 0, .slice none 0 0, .slice none 0 0, .slice none 0 0, .slice none 0 0]) := HZ_r1.out.grown hg2 HNz
      have RD_r2 : Hid (Rd w0 R ca len cap wd2) := hr2
      have GR_r2 : Hid (w.grownBy wd2 (some R)) := GR_r1.out.trans hg2
      have O1_r2 : Hid (Owns 2 wd2 wq.heap.size g1 L gc1 z1) := O1_r1.out.grownR hg2 (fun q hq e => by have := LOO1.out q hq; injection e with e; omega)
      have O2_r2 : Hid (Owns 2 wd2 wq.heap.size g2 L gc2 z2) := O2_r1.out.grownR hg2 (fun q hq e => by have := LOO2.out q hq; injection e with e; omega)
      have O3_r2 : Hid (Owns 2 wd2 wq.heap.size g3 L gc3 z3) := O3_r1.out.grownR hg2 (fun q hq e => by have := LOO3.out q hq; injection e with e; omega)
      have O4_r2 : Hid (Owns 2 wd2 wq.heap.size (some ⟨gq, 0, none⟩) L gc4 z4) := O4_r1.out.grownR hg2 (fun q hq e => by have := LOO4.out q hq; injection e with e; omega)
      have HP_r2 : Hid (Lies wd2 pb [.int .i64 p1, .int .i64 p2, .int .i64 p3, .int .i64 p4, .slice g1 L gc1, .slice g2 L gc2, .slice g3 L gc3, .slice (some ⟨gq, 0, none⟩) L gc4]) := HP_r1.out.grown hg2 kS
      have hS2 : w.grownBy wd2 (some R) ∧ wd2.cell? ⟨pb, 7, none⟩ = some (.slice (some ⟨gq, 0, none⟩) L gc4) := ⟨GR_r2.out, HP_r2.out.at 7⟩
      refine hK.out _ _ hS2 (fun _ => ?_)
      clear hK Kk hg2 HM_r1 HZ_r1 RD_r1 GR_r1 O1_r1 O2_r1 O3_r1 O4_r1 HP_r1 hr2
      try simp only [Act.put]
      have hvn : v3.toNat < L := by omega
      refine wpAnyH_take (i := 9) (v := .pointer (some ⟨gq, v3.toNat, none⟩)) rfl (by kernel_rfl) (by kernel_rfl) (by kernel_rfl) (fun _ _ _ h => h) (Or.inl ⟨by kernel_rfl, ?_⟩) (by assumption) ?_
      · intro wq hSq; go_simp
      try simp only [Act.put]
      obtain ⟨gq2, hgq2, _, _, hcl, hfr⟩ := O4_r2.out.block (by omega)
      have hgg : gq = gq2 := by simpa using hgq2
      subst hgg
      have cc := hcl v3.toNat hvn
      have ff := hfr v3.toNat
      clear hcl hfr hgq2
      refine wpAnyH_ready (rs := [10]) (by kernel_rfl) (by simp) ?_
      refine AllReadyH.cons rfl (fun Kk hK => ?_) AllReadyH.nil
      go_simp
      have HM_z : Hid (Lies (wd2.setCell ⟨gq, v3.toNat, none⟩ (.int .i64 ev)) w.heap.size [.int .i64 a, .int .i64 b, .int .i64 c, .int .i64 d, .int .i64 f, .int .i64 k, .int .i64 a', .int .i64 b', .int .i64 c', .int .i64 d', .int .i64 f', .int .i64 k']) := HM_r2.out.far (by omega) _ _
      have HZ_z : Hid (Lies (wd2.setCell ⟨gq, v3.toNat, none⟩ (.int .i64 ev)) (w.heap.size + 1) [.int .i64 0, .int .i64 0, .int .i64 0, .int .i64 0, .slice none 0 0, .slice none 0 0, .slice none 0 0, .slice none 0 0]) := HZ_r2.out.far (by omega) _ _
      have RD_z : Hid (Rd w0 R ca len cap (wd2.setCell ⟨gq, v3.toNat, none⟩ (.int .i64 ev))) := Rd.setS RD_r2.out (by omega) (by omega)
      have GR_z : Hid (w.grownBy (wd2.setCell ⟨gq, v3.toNat, none⟩ (.int .i64 ev)) (some R)) := grown_farS GR_r2.out (by omega)
      have O1_z : Hid (Owns 2 (wd2.setCell ⟨gq, v3.toNat, none⟩ (.int .i64 ev)) wq.heap.size g1 L gc1 z1) := O1_r2.out.other ⟨gq, v3.toNat, none⟩ (fun q hq => F14 q ⟨gq, 0, none⟩ hq rfl) _
      have O2_z : Hid (Owns 2 (wd2.setCell ⟨gq, v3.toNat, none⟩ (.int .i64 ev)) wq.heap.size g2 L gc2 z2) := O2_r2.out.other ⟨gq, v3.toNat, none⟩ (fun q hq => F24 q ⟨gq, 0, none⟩ hq rfl) _
      have O3_z : Hid (Owns 2 (wd2.setCell ⟨gq, v3.toNat, none⟩ (.int .i64 ev)) wq.heap.size g3 L gc3 z3) := O3_r2.out.other ⟨gq, v3.toNat, none⟩ (fun q hq => F34 q ⟨gq, 0, none⟩ hq rfl) _
      have O4_z : Hid (Owns 2 (wd2.setCell ⟨gq, v3.toNat, none⟩ (.int .i64 ev)) wq.heap.size (some ⟨gq, 0, none⟩) L gc4 (z4.set v3.toNat ev)) := O4_r2.out.set v3.toNat ev
      have HP_z : Hid (Lies (wd2.setCell ⟨gq, v3.toNat, none⟩ (.int .i64 ev)) pb [.int .i64 p1, .int .i64 p2, .int .i64 p3, .int .i64 p4, .slice g1 L gc1, .slice g2 L gc2, .slice g3 L gc3, .slice (some ⟨gq, 0, none⟩) L gc4]) := HP_r2.out.far (Ne.symm (NP4 _ rfl)) _ _
      have hSz : w.grownBy (wd2.setCell ⟨gq, v3.toNat, none⟩ (.int .i64 ev)) (some R) ∧ (wd2.setCell ⟨gq, v3.toNat, none⟩ (.int .i64 ev)).cell? ⟨pb, 7, none⟩ = some (.slice (some ⟨gq, 0, none⟩) L gc4) := ⟨GR_z.out, HP_z.out.at 7⟩
      refine hK.out _ _ hSz (fun _ => ?_)
      clear hK Kk cc ff hSz HM_r2 HZ_r2 RD_r2 GR_r2 O1_r2 O2_r2 O3_r2 O4_r2 HP_r2
      generalize (wd2.setCell ⟨gq, v3.toNat, none⟩ (.int .i64 ev)) = wy at HM_z HZ_z RD_z GR_z O1_z O2_z O3_z O4_z HP_z ⊢
      try simp only [Act.put]
      refine wpAnyH_done (by kernel_rfl) ?_ _
      refine NoPanic.normal ?_
      go_simp
      have HM_2 : Hid (Lies wy w.heap.size [.int .i64 a, .int .i64 b, .int .i64 c, .int .i64 d, .int .i64 f, .int .i64 k, .int .i64 a', .int .i64 b', .int .i64 c', .int .i64 d', .int .i64 f', .int .i64 k']) := HM_z.out
      have HZ_2 : Hid (Lies wy (w.heap.size + 1) [.int .i64 0, .int .i64 0, .int .i64 0, .int .i64 0, .slice none 0 0, .slice none 0 0, .slice none 0 0, .slice none 0 0]) := HZ_z.out
      have RD_2 : Hid (Rd w0 R ca len cap wy) := RD_z.out
      have GR_2 : Hid (w.grownBy wy (some R)) := GR_z.out
      have O1_2 : Hid (Owns 2 wy wq.heap.size g1 L gc1 z1) := O1_z.out
      have O2_2 : Hid (Owns 2 wy wq.heap.size g2 L gc2 z2) := O2_z.out
      have O3_2 : Hid (Owns 2 wy wq.heap.size g3 L gc3 z3) := O3_z.out
      have O4_2 : Hid (Owns 2 wy wq.heap.size (some ⟨gq, 0, none⟩) L gc4 (z4.set v3.toNat ev)) := O4_z.out
      have HP_2 : Hid (Lies wy pb [.int .i64 p1, .int .i64 p2, .int .i64 p3, .int .i64 p4, .slice g1 L gc1, .slice g2 L gc2, .slice g3 L gc3, .slice (some ⟨gq, 0, none⟩) L gc4]) := HP_z.out
      clear HM_z HZ_z RD_z GR_z O1_z O2_z O3_z O4_z HP_z
      have c0 : wy.cell? ⟨pb, 0, none⟩ = some (.int .i64 p1) := HP_2.out.at 0
      have c1 : wy.cell? ⟨pb, 1, none⟩ = some (.int .i64 p2) := HP_2.out.at 1
      have c2 : wy.cell? ⟨pb, 2, none⟩ = some (.int .i64 p3) := HP_2.out.at 2
      have c3 : wy.cell? ⟨pb, 3, none⟩ = some (.int .i64 p4) := HP_2.out.at 3
      have c4 : wy.cell? ⟨pb, 4, none⟩ = some (.slice g1 L gc1) := HP_2.out.at 4
      have c5 : wy.cell? ⟨pb, 5, none⟩ = some (.slice g2 L gc2) := HP_2.out.at 5
      have c6 : wy.cell? ⟨pb, 6, none⟩ = some (.slice g3 L gc3) := HP_2.out.at 6
      have c7 : wy.cell? ⟨pb, 7, none⟩ = some (.slice (some ⟨gq, 0, none⟩) L gc4) := HP_2.out.at 7
      have y0 : wy.cell? ⟨w.heap.size + 1, 0, none⟩ = some (.int .i64 0) := HZ_2.out.at 0
      have y1 : wy.cell? ⟨w.heap.size + 1, 1, none⟩ = some (.int .i64 0) := HZ_2.out.at 1
      have y2 : wy.cell? ⟨w.heap.size + 1, 2, none⟩ = some (.int .i64 0) := HZ_2.out.at 2
      have y3 : wy.cell? ⟨w.heap.size + 1, 3, none⟩ = some (.int .i64 0) := HZ_2.out.at 3
      have y4 : wy.cell? ⟨w.heap.size + 1, 4, none⟩ = some (.slice none 0 0) := HZ_2.out.at 4
      have y5 : wy.cell? ⟨w.heap.size + 1, 5, none⟩ = some (.slice none 0 0) := HZ_2.out.at 5
      have y6 : wy.cell? ⟨w.heap.size + 1, 6, none⟩ = some (.slice none 0 0) := HZ_2.out.at 6
      have y7 : wy.cell? ⟨w.heap.size + 1, 7, none⟩ = some (.slice none 0 0) := HZ_2.out.at 7
      have f0 : wy.frozen? ⟨w.heap.size + 1, 0, none⟩ = false := HZ_2.out.fr 0
      have f1 : wy.frozen? ⟨w.heap.size + 1, 1, none⟩ = false := HZ_2.out.fr 1
      have f2 : wy.frozen? ⟨w.heap.size + 1, 2, none⟩ = false := HZ_2.out.fr 2
      have f3 : wy.frozen? ⟨w.heap.size + 1, 3, none⟩ = false := HZ_2.out.fr 3
      have f4 : wy.frozen? ⟨w.heap.size + 1, 4, none⟩ = false := HZ_2.out.fr 4
      have f5 : wy.frozen? ⟨w.heap.size + 1, 5, none⟩ = false := HZ_2.out.fr 5
      have f6 : wy.frozen? ⟨w.heap.size + 1, 6, none⟩ = false := HZ_2.out.fr 6
      have f7 : wy.frozen? ⟨w.heap.size + 1, 7, none⟩ = false := HZ_2.out.fr 7
      go_wp2
      refine bodyPost_ret (v := .agg #[.int .i64 p1, .int .i64 p2, .int .i64 p3, .int .i64 p4, .slice g1 L gc1, .slice g2 L gc2, .slice g3 L gc3, .slice (some ⟨gq, 0, none⟩) L gc4]) (by simp [results, Tryz.results55, go_sem, y0, y1, y2, y3, y4, y5, y6, y7]) rfl ⟨_, _, _, _, _, _, _, z1, _, _, _, z2, _, _, _, z3, _, _, _, (z4.set v3.toNat ev), ⟨rfl, ?_, ?_, ?_, ?_, ⟨by omega, by omega, by omega, by omega⟩, ⟨LW1, LW2, LW3, LW4⟩, ?_, ?_⟩⟩
      · exact (Sees.setS ((Sees.setS ((Sees.setS ((Sees.setS ((Sees.setS ((Sees.setS ((Sees.setS ((Sees.setS (O1_2.out.sees) NZ1)) NZ1)) NZ1)) NZ1)) NZ1)) NZ1)) NZ1)) NZ1)
      · exact (Sees.setS ((Sees.setS ((Sees.setS ((Sees.setS ((Sees.setS ((Sees.setS ((Sees.setS ((Sees.setS (O2_2.out.sees) NZ2)) NZ2)) NZ2)) NZ2)) NZ2)) NZ2)) NZ2)) NZ2)
      · exact (Sees.setS ((Sees.setS ((Sees.setS ((Sees.setS ((Sees.setS ((Sees.setS ((Sees.setS ((Sees.setS (O3_2.out.sees) NZ3)) NZ3)) NZ3)) NZ3)) NZ3)) NZ3)) NZ3)) NZ3)
      · exact (Sees.setS ((Sees.setS ((Sees.setS ((Sees.setS ((Sees.setS ((Sees.setS ((Sees.setS ((Sees.setS (O4_2.out.sees) NZ4)) NZ4)) NZ4)) NZ4)) NZ4)) NZ4)) NZ4)) NZ4)
      · exact (Rd.setS ((Rd.setS ((Rd.setS ((Rd.setS ((Rd.setS ((Rd.setS ((Rd.setS ((Rd.setS (RD_2.out) (by omega) (by omega))) (by omega) (by omega))) (by omega) (by omega))) (by omega) (by omega))) (by omega) (by omega))) (by omega) (by omega))) (by omega) (by omega))) (by omega) (by omega))
      · exact (grown_farS ((grown_farS ((grown_farS ((grown_farS ((grown_farS ((grown_farS ((grown_farS ((grown_farS (GR_2.out) (by omega))) (by omega))) (by omega))) (by omega))) (by omega))) (by omega))) (by omega))) (by omega))
    by_cases h7 : v2 = 7
    · subst h7
      go_wp2_with fail
      refine (stateR_any HRow.out _ RD_1.out).mono ?_
      rintro e w3 ⟨⟨ex, ey⟩, rfl, hr, hg⟩
      have HM_2 : Hid (Lies w3 w.heap.size [.int .i64 a, .int .i64 b, .int .i64 c, .int .i64 d, .int .i64 f, .int .i64 k, .int .i64 a', .int .i64 b', .int .i64 c', .int .i64 d', .int .i64 f', .int .i64 k']) := HM_1.out.grown hg HNm
      have HZ_2 : Hid (Lies w3 (w.heap.size + 1) [.int .i64 0, .int .i64 0, .int .i64 0, .int .i64 0, .slice none 0 0, .slice none 0 0, .slice none 0 0, .slice none 0 0]) := HZ_1.out.grown hg HNz
      have RD_2 : Hid (Rd w0 R ca len cap w3) := hr
      have GR_2 : Hid (w.grownBy w3 (some R)) := GR_1.out.trans hg
      have O1_2 : Hid (Owns 2 w3 wq.heap.size g1 L gc1 z1) := O1_1.out.grownR hg (fun q hq e => by have := LOO1.out q hq; injection e with e; omega)
      have O2_2 : Hid (Owns 2 w3 wq.heap.size g2 L gc2 z2) := O2_1.out.grownR hg (fun q hq e => by have := LOO2.out q hq; injection e with e; omega)
      have O3_2 : Hid (Owns 2 w3 wq.heap.size g3 L gc3 z3) := O3_1.out.grownR hg (fun q hq e => by have := LOO3.out q hq; injection e with e; omega)
      have O4_2 : Hid (Owns 2 w3 wq.heap.size g4 L gc4 z4) := O4_1.out.grownR hg (fun q hq e => by have := LOO4.out q hq; injection e with e; omega)
      have HP_2 : Hid (Lies w3 pb [.int .i64 p1, .int .i64 p2, .int .i64 p3, .int .i64 p4, .slice g1 L gc1, .slice g2 L gc2, .slice g3 L gc3, .slice g4 L gc4]) := HP_1.out.grown hg kS
      clear HM_1 HZ_1 RD_1 GR_1 O1_1 O2_1 O3_1 O4_1 HP_1
      clear hg hr
      dsimp only [stv]
      have c0 : w3.cell? ⟨pb, 0, none⟩ = some (.int .i64 p1) := HP_2.out.at 0
      have c1 : w3.cell? ⟨pb, 1, none⟩ = some (.int .i64 p2) := HP_2.out.at 1
      have c2 : w3.cell? ⟨pb, 2, none⟩ = some (.int .i64 p3) := HP_2.out.at 2
      have c3 : w3.cell? ⟨pb, 3, none⟩ = some (.int .i64 p4) := HP_2.out.at 3
      have c4 : w3.cell? ⟨pb, 4, none⟩ = some (.slice g1 L gc1) := HP_2.out.at 4
      have c5 : w3.cell? ⟨pb, 5, none⟩ = some (.slice g2 L gc2) := HP_2.out.at 5
      have c6 : w3.cell? ⟨pb, 6, none⟩ = some (.slice g3 L gc3) := HP_2.out.at 6
      have c7 : w3.cell? ⟨pb, 7, none⟩ = some (.slice g4 L gc4) := HP_2.out.at 7
      have y0 : w3.cell? ⟨w.heap.size + 1, 0, none⟩ = some (.int .i64 0) := HZ_2.out.at 0
      have y1 : w3.cell? ⟨w.heap.size + 1, 1, none⟩ = some (.int .i64 0) := HZ_2.out.at 1
      have y2 : w3.cell? ⟨w.heap.size + 1, 2, none⟩ = some (.int .i64 0) := HZ_2.out.at 2
      have y3 : w3.cell? ⟨w.heap.size + 1, 3, none⟩ = some (.int .i64 0) := HZ_2.out.at 3
      have y4 : w3.cell? ⟨w.heap.size + 1, 4, none⟩ = some (.slice none 0 0) := HZ_2.out.at 4
      have y5 : w3.cell? ⟨w.heap.size + 1, 5, none⟩ = some (.slice none 0 0) := HZ_2.out.at 5
      have y6 : w3.cell? ⟨w.heap.size + 1, 6, none⟩ = some (.slice none 0 0) := HZ_2.out.at 6
      have y7 : w3.cell? ⟨w.heap.size + 1, 7, none⟩ = some (.slice none 0 0) := HZ_2.out.at 7
      have f0 : w3.frozen? ⟨w.heap.size + 1, 0, none⟩ = false := HZ_2.out.fr 0
      have f1 : w3.frozen? ⟨w.heap.size + 1, 1, none⟩ = false := HZ_2.out.fr 1
      have f2 : w3.frozen? ⟨w.heap.size + 1, 2, none⟩ = false := HZ_2.out.fr 2
      have f3 : w3.frozen? ⟨w.heap.size + 1, 3, none⟩ = false := HZ_2.out.fr 3
      have f4 : w3.frozen? ⟨w.heap.size + 1, 4, none⟩ = false := HZ_2.out.fr 4
      have f5 : w3.frozen? ⟨w.heap.size + 1, 5, none⟩ = false := HZ_2.out.fr 5
      have f6 : w3.frozen? ⟨w.heap.size + 1, 6, none⟩ = false := HZ_2.out.fr 6
      have f7 : w3.frozen? ⟨w.heap.size + 1, 7, none⟩ = false := HZ_2.out.fr 7
      have r0 : w3.frozen? ⟨pb, 0, none⟩ = false := HP_2.out.fr 0
      have r1 : w3.frozen? ⟨pb, 1, none⟩ = false := HP_2.out.fr 1
      have r2 : w3.frozen? ⟨pb, 2, none⟩ = false := HP_2.out.fr 2
      have r3 : w3.frozen? ⟨pb, 3, none⟩ = false := HP_2.out.fr 3
      have r4 : w3.frozen? ⟨pb, 4, none⟩ = false := HP_2.out.fr 4
      have r5 : w3.frozen? ⟨pb, 5, none⟩ = false := HP_2.out.fr 5
      have r6 : w3.frozen? ⟨pb, 6, none⟩ = false := HP_2.out.fr 6
      have r7 : w3.frozen? ⟨pb, 7, none⟩ = false := HP_2.out.fr 7
      go_wp2
      refine bodyPost_ret (v := .agg #[.int .i64 p1, .int .i64 p2, .int .i64 ex, .int .i64 ey, .slice g1 L gc1, .slice g2 L gc2, .slice g3 L gc3, .slice g4 L gc4]) (by simp [results, Tryz.results55, go_sem, y0, y1, y2, y3, y4, y5, y6, y7]) rfl ⟨_, _, _, _, _, _, _, z1, _, _, _, z2, _, _, _, z3, _, _, _, z4, ⟨rfl, ?_, ?_, ?_, ?_, ⟨by omega, by omega, by omega, by omega⟩, ⟨LW1, LW2, LW3, LW4⟩, ?_, ?_⟩⟩
      · exact (Sees.setS ((Sees.setS ((Sees.setS ((Sees.setS ((Sees.setS ((Sees.setS ((Sees.setS ((Sees.setS ((Sees.setS ((Sees.setS (O1_2.out.sees) NP1)) NP1)) NZ1)) NZ1)) NZ1)) NZ1)) NZ1)) NZ1)) NZ1)) NZ1)
      · exact (Sees.setS ((Sees.setS ((Sees.setS ((Sees.setS ((Sees.setS ((Sees.setS ((Sees.setS ((Sees.setS ((Sees.setS ((Sees.setS (O2_2.out.sees) NP2)) NP2)) NZ2)) NZ2)) NZ2)) NZ2)) NZ2)) NZ2)) NZ2)) NZ2)
      · exact (Sees.setS ((Sees.setS ((Sees.setS ((Sees.setS ((Sees.setS ((Sees.setS ((Sees.setS ((Sees.setS ((Sees.setS ((Sees.setS (O3_2.out.sees) NP3)) NP3)) NZ3)) NZ3)) NZ3)) NZ3)) NZ3)) NZ3)) NZ3)) NZ3)
      · exact (Sees.setS ((Sees.setS ((Sees.setS ((Sees.setS ((Sees.setS ((Sees.setS ((Sees.setS ((Sees.setS ((Sees.setS ((Sees.setS (O4_2.out.sees) NP4)) NP4)) NZ4)) NZ4)) NZ4)) NZ4)) NZ4)) NZ4)) NZ4)) NZ4)
      · exact (Rd.setS ((Rd.setS ((Rd.setS ((Rd.setS ((Rd.setS ((Rd.setS ((Rd.setS ((Rd.setS ((Rd.setS ((Rd.setS (RD_2.out) (by omega) (by omega))) (by omega) (by omega))) (by omega) (by omega))) (by omega) (by omega))) (by omega) (by omega))) (by omega) (by omega))) (by omega) (by omega))) (by omega) (by omega))) (by omega) (by omega))) (by omega) (by omega))
      · exact (grown_farS ((grown_farS ((grown_farS ((grown_farS ((grown_farS ((grown_farS ((grown_farS ((grown_farS ((grown_farS ((grown_farS (GR_2.out) (by omega))) (by omega))) (by omega))) (by omega))) (by omega))) (by omega))) (by omega))) (by omega))) (by omega))) (by omega))
    by_cases h8 : v2 = 8
    · subst h8
      have i2w : w.heap.size + 2 ≤ w2.heap.size := by have := HZ_1.out.2.2; omega
      have i3w : pb < w2.heap.size := HP_1.out.2.2
      go_wp2_with fail
      clear J_NE1 J_NE2 J_NE3 J_NE4 J_FA
      have OH1 : ∀ q, g1 = some q → q.block < w2.heap.size := O1_1.out.hi
      have LOR1 : ∀ q, g1 = some q → some R ≠ some q.block := fun q hq => (HPBL.out _ (LOO1.out q hq)).2.2.2.2.2
      have OH2 : ∀ q, g2 = some q → q.block < w2.heap.size := O2_1.out.hi
      have LOR2 : ∀ q, g2 = some q → some R ≠ some q.block := fun q hq => (HPBL.out _ (LOO2.out q hq)).2.2.2.2.2
      have OH3 : ∀ q, g3 = some q → q.block < w2.heap.size := O3_1.out.hi
      have LOR3 : ∀ q, g3 = some q → some R ≠ some q.block := fun q hq => (HPBL.out _ (LOO3.out q hq)).2.2.2.2.2
      have OH4 : ∀ q, g4 = some q → q.block < w2.heap.size := O4_1.out.hi
      have LOR4 : ∀ q, g4 = some q → some R ≠ some q.block := fun q hq => (HPBL.out _ (LOO4.out q hq)).2.2.2.2.2
      have HPB2 : Hid (∀ p, w2.heap.size ≤ p → w.heap.size ≠ p ∧ w.heap.size + 1 ≠ p ∧ pb ≠ p ∧ w0.heap.size ≤ p ∧ p ≠ R ∧ w.heap.size ≤ p ∧ some R ≠ some p) := fun p hp => by
        have i1 := HM_1.out.2.2
        have i2 := HZ_1.out.2.2
        have i3 := HP_1.out.2.2
        exact ⟨by omega, by omega, by omega, by omega, by omega, by omega, by simp; omega⟩
      apply cutKey
      case f =>
        intro key
        refine wp_region_noPanic ?_
        refine wp_region_held_drew (S := fun W => w2.grownBy W (some R)) (by kernel_rfl) (grown_drew _ _) (fun hHeld => ?_)
        have hbd : Below w2.heap.size w2 w2.drew := (Below.refl _ _).drew
        have HM_r0 : Hid (Lies w2.drew w.heap.size [.int .i64 a, .int .i64 b, .int .i64 c, .int .i64 d, .int .i64 f, .int .i64 k, .int .i64 a', .int .i64 b', .int .i64 c', .int .i64 d', .int .i64 f', .int .i64 k']) := HM_1.out.belowS hbd
        have HZ_r0 : Hid (Lies w2.drew (w.heap.size + 1) [.int .i64 0, .int .i64 0, .int .i64 0, .int .i64 0, .slice none 0 0, .slice none 0 0, .slice none 0 0, .slice none 0 0]) := HZ_1.out.belowS hbd
        have RD_r0 : Hid (Rd w0 R ca len cap w2.drew) := RD_1.out.grow hbd
        have GR_r0 : Hid (w.grownBy w2.drew (some R)) := GR_1.out.trans (grown_of_below hbd _)
        have O1_r0 : Hid (Owns 2 w2.drew wq.heap.size g1 L gc1 z1) := O1_1.out.below hbd
        have O2_r0 : Hid (Owns 2 w2.drew wq.heap.size g2 L gc2 z2) := O2_1.out.below hbd
        have O3_r0 : Hid (Owns 2 w2.drew wq.heap.size g3 L gc3 z3) := O3_1.out.below hbd
        have O4_r0 : Hid (Owns 2 w2.drew wq.heap.size g4 L gc4 z4) := O4_1.out.below hbd
        have HP_r0 : Hid (Lies w2.drew pb [.int .i64 p1, .int .i64 p2, .int .i64 p3, .int .i64 p4, .slice g1 L gc1, .slice g2 L gc2, .slice g3 L gc3, .slice g4 L gc4]) := HP_1.out.belowS hbd
        generalize w2.drew = wd0 at hHeld HM_r0 HZ_r0 RD_r0 GR_r0 O1_r0 O2_r0 O3_r0 O4_r0 HP_r0 ⊢
        clear hbd
        refine wpAnyH_take (i := 0) (v := .agg ([.int .i64 a, .int .i64 b, .int .i64 c, .int .i64 d, .int .i64 f, .int .i64 k, .int .i64 a', .int .i64 b', .int .i64 c', .int .i64 d', .int .i64 f', .int .i64 k']).toArray) rfl (by kernel_rfl) (by kernel_rfl) (by kernel_rfl) (fun _ _ _ h => h) (yieldsIf_load_mid (by kernel_rfl) 27 (.tmp 3) rfl w.heap.size 0 rfl ([.int .i64 a, .int .i64 b, .int .i64 c, .int .i64 d, .int .i64 f, .int .i64 k, .int .i64 a', .int .i64 b', .int .i64 c', .int .i64 d', .int .i64 f', .int .i64 k']) _ (fun W h => (HM_1.out.grown h HNm).row) Tryz.underlying27 rfl (by kernel_rfl)) (by assumption) ?_
        try simp only [Act.put]
        refine wpAnyH_take (i := 1) (v := .pointer (some ⟨R, 0, none⟩)) rfl (by kernel_rfl) (by kernel_rfl) (by kernel_rfl) (fun _ _ _ h => h) (Or.inl ⟨by kernel_rfl, ?_⟩) (by assumption) ?_
        · intro wq hSq; go_simp
        try simp only [Act.put]
        refine wpAnyH_ready (rs := [2, 7]) (by kernel_rfl) (by simp) ?_
        refine AllReadyH.cons rfl (fun Kk hK => ?_) (AllReadyH.cons rfl (fun Kk hK => ?_) (AllReadyH.nil))
        · go_simp
          refine (stateR_any HRow.out _ RD_r0.out).mono ?_
          rintro e wd14 ⟨⟨tx, ty⟩, rfl, hr14, hg14⟩
          go_simp
          have hS14 : w2.grownBy wd14 (some R) := hHeld.trans hg14
          have HM_t14 : Hid (Lies wd14 w.heap.size [.int .i64 a, .int .i64 b, .int .i64 c, .int .i64 d, .int .i64 f, .int .i64 k, .int .i64 a', .int .i64 b', .int .i64 c', .int .i64 d', .int .i64 f', .int .i64 k']) := HM_r0.out.grown hg14 HNm
          have HZ_t14 : Hid (Lies wd14 (w.heap.size + 1) [.int .i64 0, .int .i64 0, .int .i64 0, .int .i64 0, .slice none 0 0, .slice none 0 0, .slice none 0 0, .slice none 0 0]) := HZ_r0.out.grown hg14 HNz
          have RD_t14 : Hid (Rd w0 R ca len cap wd14) := hr14
          have GR_t14 : Hid (w.grownBy wd14 (some R)) := GR_r0.out.trans hg14
          have O1_t14 : Hid (Owns 2 wd14 wq.heap.size g1 L gc1 z1) := O1_r0.out.grownR hg14 LOR1
          have O2_t14 : Hid (Owns 2 wd14 wq.heap.size g2 L gc2 z2) := O2_r0.out.grownR hg14 LOR2
          have O3_t14 : Hid (Owns 2 wd14 wq.heap.size g3 L gc3 z3) := O3_r0.out.grownR hg14 LOR3
          have O4_t14 : Hid (Owns 2 wd14 wq.heap.size g4 L gc4 z4) := O4_r0.out.grownR hg14 LOR4
          have HP_t14 : Hid (Lies wd14 pb [.int .i64 p1, .int .i64 p2, .int .i64 p3, .int .i64 p4, .slice g1 L gc1, .slice g2 L gc2, .slice g3 L gc3, .slice g4 L gc4]) := HP_r0.out.grown hg14 kS
          refine hK.out _ _ hS14 (fun _ => ?_)
          clear hK Kk hg14 hr14 HM_r0 HZ_r0 RD_r0 GR_r0 O1_r0 O2_r0 O3_r0 O4_r0 HP_r0
          try simp only [Act.put]
          refine wpAnyH_ready (rs := [3, 7]) (by kernel_rfl) (by simp) ?_
          refine AllReadyH.cons rfl (fun Kk hK => ?_) (AllReadyH.cons rfl (fun Kk hK => ?_) (AllReadyH.nil))
          · go_simp
            refine (CS.out (tx, ty) 4 _).mono ?_
            rintro e wd15 ⟨r1, r2, r3, r4, L2, o2, zz1, zz2, zz3, zz4, h1, hc1, h2, hc2, h3, hc3, h4, hc4, rfl, hL, ⟨q1, q2, q3, q4⟩, hfar, hb15⟩
            go_simp
            have hS15 : w2.grownBy wd15 (some R) := hS14.trans (grown_of_below hb15 _)
            have HM_t15 : Hid (Lies wd15 w.heap.size [.int .i64 a, .int .i64 b, .int .i64 c, .int .i64 d, .int .i64 f, .int .i64 k, .int .i64 a', .int .i64 b', .int .i64 c', .int .i64 d', .int .i64 f', .int .i64 k']) := HM_t14.out.belowS hb15
            have HZ_t15 : Hid (Lies wd15 (w.heap.size + 1) [.int .i64 0, .int .i64 0, .int .i64 0, .int .i64 0, .slice none 0 0, .slice none 0 0, .slice none 0 0, .slice none 0 0]) := HZ_t14.out.belowS hb15
            have RD_t15 : Hid (Rd w0 R ca len cap wd15) := RD_t14.out.grow hb15
            have GR_t15 : Hid (w.grownBy wd15 (some R)) := GR_t14.out.trans (grown_of_below hb15 _)
            have O1_t15 : Hid (Owns 2 wd15 wq.heap.size g1 L gc1 z1) := O1_t14.out.below hb15
            have O2_t15 : Hid (Owns 2 wd15 wq.heap.size g2 L gc2 z2) := O2_t14.out.below hb15
            have O3_t15 : Hid (Owns 2 wd15 wq.heap.size g3 L gc3 z3) := O3_t14.out.below hb15
            have O4_t15 : Hid (Owns 2 wd15 wq.heap.size g4 L gc4 z4) := O4_t14.out.below hb15
            have HP_t15 : Hid (Lies wd15 pb [.int .i64 p1, .int .i64 p2, .int .i64 p3, .int .i64 p4, .slice g1 L gc1, .slice g2 L gc2, .slice g3 L gc3, .slice g4 L gc4]) := HP_t14.out.belowS hb15
            have Q1_t15 : Hid (Owns 2 wd15 w2.heap.size h1 L2 hc1 zz1) := q1.mono hS14.size
            have LM_t15 : Hid (L2 ≤ 64) := hL
            clear q1 q2 q3 q4 hfar hL
            refine hK.out _ _ hS15 (fun _ => ?_)
            clear hK Kk hb15 HM_t14 HZ_t14 RD_t14 GR_t14 O1_t14 O2_t14 O3_t14 O4_t14 HP_t14
            try simp only [Act.put]
            refine wpAnyH_take (i := 4) (v := .tuple #[.agg #[.int .i64 r1, .int .i64 r2, .int .i64 r3, .int .i64 r4, .slice h1 L2 hc1, .slice h2 L2 hc2, .slice h3 L2 hc3, .slice h4 L2 hc4], .bool o2]) rfl (by kernel_rfl) (by kernel_rfl) (by kernel_rfl) (fun _ _ _ h => h) (Or.inl ⟨by kernel_rfl, ?_⟩) (by assumption) ?_
            · intro wq hSq; go_simp
            try simp only [Act.put]
            refine wpAnyH_take (i := 5) (v := .agg #[.int .i64 r1, .int .i64 r2, .int .i64 r3, .int .i64 r4, .slice h1 L2 hc1, .slice h2 L2 hc2, .slice h3 L2 hc3, .slice h4 L2 hc4]) rfl (by kernel_rfl) (by kernel_rfl) (by kernel_rfl) (fun _ _ _ h => h) (Or.inl ⟨by kernel_rfl, ?_⟩) (by assumption) ?_
            · intro wq hSq; go_simp
            try simp only [Act.put]
            refine wpAnyH_take (i := 6) (v := .bool o2) rfl (by kernel_rfl) (by kernel_rfl) (by kernel_rfl) (fun _ _ _ h => h) (Or.inl ⟨by kernel_rfl, ?_⟩) (by assumption) ?_
            · intro wq hSq; go_simp
            try simp only [Act.put]
            refine wpAnyH_ready (rs := [7]) (by kernel_rfl) (by simp) ?_
            refine AllReadyH.cons rfl (fun Kk hK => ?_) (AllReadyH.nil)
            · rw [if_pos (by kernel_rfl)]
              refine wp_alloc_as 34 rfl #[.int .i64 0, .int .i64 0, .int .i64 0, .int .i64 0, .slice none 0 0, .slice none 0 0, .slice none 0 0, .slice none 0 0] (by kernel_rfl) ?_
              have hba : Below wd15.heap.size wd15 (wd15.alloc (.cells #[.int .i64 0, .int .i64 0, .int .i64 0, .int .i64 0, .slice none 0 0, .slice none 0 0, .slice none 0 0, .slice none 0 0] 34)) := (Below.refl _ _).alloc (Nat.le_refl _) _
              have hS16 : w2.grownBy (wd15.alloc (.cells #[.int .i64 0, .int .i64 0, .int .i64 0, .int .i64 0, .slice none 0 0, .slice none 0 0, .slice none 0 0, .slice none 0 0] 34)) (some R) := grown_alloc hS15 _
              have HM_t16 : Hid (Lies (wd15.alloc (.cells #[.int .i64 0, .int .i64 0, .int .i64 0, .int .i64 0, .slice none 0 0, .slice none 0 0, .slice none 0 0, .slice none 0 0] 34)) w.heap.size [.int .i64 a, .int .i64 b, .int .i64 c, .int .i64 d, .int .i64 f, .int .i64 k, .int .i64 a', .int .i64 b', .int .i64 c', .int .i64 d', .int .i64 f', .int .i64 k']) := HM_t15.out.belowS hba
              have HZ_t16 : Hid (Lies (wd15.alloc (.cells #[.int .i64 0, .int .i64 0, .int .i64 0, .int .i64 0, .slice none 0 0, .slice none 0 0, .slice none 0 0, .slice none 0 0] 34)) (w.heap.size + 1) [.int .i64 0, .int .i64 0, .int .i64 0, .int .i64 0, .slice none 0 0, .slice none 0 0, .slice none 0 0, .slice none 0 0]) := HZ_t15.out.belowS hba
              have RD_t16 : Hid (Rd w0 R ca len cap (wd15.alloc (.cells #[.int .i64 0, .int .i64 0, .int .i64 0, .int .i64 0, .slice none 0 0, .slice none 0 0, .slice none 0 0, .slice none 0 0] 34))) := RD_t15.out.grow hba
              have GR_t16 : Hid (w.grownBy (wd15.alloc (.cells #[.int .i64 0, .int .i64 0, .int .i64 0, .int .i64 0, .slice none 0 0, .slice none 0 0, .slice none 0 0, .slice none 0 0] 34)) (some R)) := GR_t15.out.trans (grown_of_below hba _)
              have O1_t16 : Hid (Owns 2 (wd15.alloc (.cells #[.int .i64 0, .int .i64 0, .int .i64 0, .int .i64 0, .slice none 0 0, .slice none 0 0, .slice none 0 0, .slice none 0 0] 34)) wq.heap.size g1 L gc1 z1) := O1_t15.out.below hba
              have O2_t16 : Hid (Owns 2 (wd15.alloc (.cells #[.int .i64 0, .int .i64 0, .int .i64 0, .int .i64 0, .slice none 0 0, .slice none 0 0, .slice none 0 0, .slice none 0 0] 34)) wq.heap.size g2 L gc2 z2) := O2_t15.out.below hba
              have O3_t16 : Hid (Owns 2 (wd15.alloc (.cells #[.int .i64 0, .int .i64 0, .int .i64 0, .int .i64 0, .slice none 0 0, .slice none 0 0, .slice none 0 0, .slice none 0 0] 34)) wq.heap.size g3 L gc3 z3) := O3_t15.out.below hba
              have O4_t16 : Hid (Owns 2 (wd15.alloc (.cells #[.int .i64 0, .int .i64 0, .int .i64 0, .int .i64 0, .slice none 0 0, .slice none 0 0, .slice none 0 0, .slice none 0 0] 34)) wq.heap.size g4 L gc4 z4) := O4_t15.out.below hba
              have HP_t16 : Hid (Lies (wd15.alloc (.cells #[.int .i64 0, .int .i64 0, .int .i64 0, .int .i64 0, .slice none 0 0, .slice none 0 0, .slice none 0 0, .slice none 0 0] 34)) pb [.int .i64 p1, .int .i64 p2, .int .i64 p3, .int .i64 p4, .slice g1 L gc1, .slice g2 L gc2, .slice g3 L gc3, .slice g4 L gc4]) := HP_t15.out.belowS hba
              have Q1_t16 : Hid (Owns 2 (wd15.alloc (.cells #[.int .i64 0, .int .i64 0, .int .i64 0, .int .i64 0, .slice none 0 0, .slice none 0 0, .slice none 0 0, .slice none 0 0] 34)) w2.heap.size h1 L2 hc1 zz1) := Q1_t15.out.below hba
              have HA_t16 : Hid (Lies (wd15.alloc (.cells #[.int .i64 0, .int .i64 0, .int .i64 0, .int .i64 0, .slice none 0 0, .slice none 0 0, .slice none 0 0, .slice none 0 0] 34)) wd15.heap.size [.int .i64 0, .int .i64 0, .int .i64 0, .int .i64 0, .slice none 0 0, .slice none 0 0, .slice none 0 0, .slice none 0 0]) := lies_new _ _ _
              have PB_t16 : Hid (w2.heap.size ≤ wd15.heap.size) := hS15.size
              have NF1_t16 : Hid (∀ q, h1 = some q → q.block ≠ wd15.heap.size) := fun q hq => Nat.ne_of_lt (Q1_t15.out.hi q hq)
              refine hK.out _ _ hS16 (fun _ => ?_)
              clear hK Kk hba HM_t15 HZ_t15 RD_t15 GR_t15 O1_t15 O2_t15 O3_t15 O4_t15 HP_t15 Q1_t15
              generalize (wd15.alloc (.cells #[.int .i64 0, .int .i64 0, .int .i64 0, .int .i64 0, .slice none 0 0, .slice none 0 0, .slice none 0 0, .slice none 0 0] 34)) = wd16 at HA_t16 hS16 HM_t16 HZ_t16 RD_t16 GR_t16 O1_t16 O2_t16 O3_t16 O4_t16 HP_t16 Q1_t16 ⊢
              generalize wd15.heap.size = pb16 at HA_t16 PB_t16 NF1_t16 ⊢
              try simp only [Act.put]
              refine wpAnyH_ready (rs := [8]) (by kernel_rfl) (by simp) ?_
              refine AllReadyH.cons rfl (fun Kk hK => ?_) AllReadyH.nil
              rw [if_pos (by kernel_rfl)]
              with_reducible refine wp_store_mid 34 (.tmp 7) (.tmp 67) ?_ pb16 0 ([.int .i64 r1, .int .i64 r2, .int .i64 r3, .int .i64 r4, .slice h1 L2 hc1, .slice h2 L2 hc2, .slice h3 L2 hc3, .slice h4 L2 hc4]).toArray ?_ ?_ ?_ (by kernel_rfl) (by kernel_rfl) ?_
              · exact rfl
              · exact rfl
              · exact rfl
              · exact HA_t16.out.there 0 8 (by simp)
              have hPB := PB_t16.out
              obtain ⟨lM, lZ, lP, lW, lR, lw, lS⟩ := HPB2.out _ hPB
              have hSz : w2.grownBy (wd16.setCells pb16 0 [.int .i64 r1, .int .i64 r2, .int .i64 r3, .int .i64 r4, .slice h1 L2 hc1, .slice h2 L2 hc2, .slice h3 L2 hc3, .slice h4 L2 hc4]) (some R) := grown_far hS16 hPB 0 _
              have HQ_z : Hid (Lies (wd16.setCells pb16 0 [.int .i64 r1, .int .i64 r2, .int .i64 r3, .int .i64 r4, .slice h1 L2 hc1, .slice h2 L2 hc2, .slice h3 L2 hc3, .slice h4 L2 hc4]) pb16 [.int .i64 r1, .int .i64 r2, .int .i64 r3, .int .i64 r4, .slice h1 L2 hc1, .slice h2 L2 hc2, .slice h3 L2 hc3, .slice h4 L2 hc4]) := HA_t16.out.setCells [.int .i64 r1, .int .i64 r2, .int .i64 r3, .int .i64 r4, .slice h1 L2 hc1, .slice h2 L2 hc2, .slice h3 L2 hc3, .slice h4 L2 hc4] 0 (by simp)
              have HM_z : Hid (Lies (wd16.setCells pb16 0 [.int .i64 r1, .int .i64 r2, .int .i64 r3, .int .i64 r4, .slice h1 L2 hc1, .slice h2 L2 hc2, .slice h3 L2 hc3, .slice h4 L2 hc4]) w.heap.size [.int .i64 a, .int .i64 b, .int .i64 c, .int .i64 d, .int .i64 f, .int .i64 k, .int .i64 a', .int .i64 b', .int .i64 c', .int .i64 d', .int .i64 f', .int .i64 k']) := Lies.farCells _ 0 HM_t16.out lM
              have HZ_z : Hid (Lies (wd16.setCells pb16 0 [.int .i64 r1, .int .i64 r2, .int .i64 r3, .int .i64 r4, .slice h1 L2 hc1, .slice h2 L2 hc2, .slice h3 L2 hc3, .slice h4 L2 hc4]) (w.heap.size + 1) [.int .i64 0, .int .i64 0, .int .i64 0, .int .i64 0, .slice none 0 0, .slice none 0 0, .slice none 0 0, .slice none 0 0]) := Lies.farCells _ 0 HZ_t16.out lZ
              have HP_z : Hid (Lies (wd16.setCells pb16 0 [.int .i64 r1, .int .i64 r2, .int .i64 r3, .int .i64 r4, .slice h1 L2 hc1, .slice h2 L2 hc2, .slice h3 L2 hc3, .slice h4 L2 hc4]) pb [.int .i64 p1, .int .i64 p2, .int .i64 p3, .int .i64 p4, .slice g1 L gc1, .slice g2 L gc2, .slice g3 L gc3, .slice g4 L gc4]) := Lies.farCells _ 0 HP_t16.out lP
              have RD_z : Hid (Rd w0 R ca len cap (wd16.setCells pb16 0 [.int .i64 r1, .int .i64 r2, .int .i64 r3, .int .i64 r4, .slice h1 L2 hc1, .slice h2 L2 hc2, .slice h3 L2 hc3, .slice h4 L2 hc4])) := RD_t16.out.cells lW lR _
              have GR_z : Hid (w.grownBy (wd16.setCells pb16 0 [.int .i64 r1, .int .i64 r2, .int .i64 r3, .int .i64 r4, .slice h1 L2 hc1, .slice h2 L2 hc2, .slice h3 L2 hc3, .slice h4 L2 hc4]) (some R)) := grown_far GR_t16.out lw 0 _
              have O1_z : Hid (Owns 2 (wd16.setCells pb16 0 [.int .i64 r1, .int .i64 r2, .int .i64 r3, .int .i64 r4, .slice h1 L2 hc1, .slice h2 L2 hc2, .slice h3 L2 hc3, .slice h4 L2 hc4]) wq.heap.size g1 L gc1 z1) := O1_t16.out.grownR (grown_cells (World.grownBy.refl _ _) 0 _) (fun q hq e => Nat.lt_irrefl _ (Nat.lt_of_lt_of_le (OH1 q hq) (Nat.le_trans hPB (Nat.le_of_eq (Option.some.inj e)))))
              have O2_z : Hid (Owns 2 (wd16.setCells pb16 0 [.int .i64 r1, .int .i64 r2, .int .i64 r3, .int .i64 r4, .slice h1 L2 hc1, .slice h2 L2 hc2, .slice h3 L2 hc3, .slice h4 L2 hc4]) wq.heap.size g2 L gc2 z2) := O2_t16.out.grownR (grown_cells (World.grownBy.refl _ _) 0 _) (fun q hq e => Nat.lt_irrefl _ (Nat.lt_of_lt_of_le (OH2 q hq) (Nat.le_trans hPB (Nat.le_of_eq (Option.some.inj e)))))
              have O3_z : Hid (Owns 2 (wd16.setCells pb16 0 [.int .i64 r1, .int .i64 r2, .int .i64 r3, .int .i64 r4, .slice h1 L2 hc1, .slice h2 L2 hc2, .slice h3 L2 hc3, .slice h4 L2 hc4]) wq.heap.size g3 L gc3 z3) := O3_t16.out.grownR (grown_cells (World.grownBy.refl _ _) 0 _) (fun q hq e => Nat.lt_irrefl _ (Nat.lt_of_lt_of_le (OH3 q hq) (Nat.le_trans hPB (Nat.le_of_eq (Option.some.inj e)))))
              have O4_z : Hid (Owns 2 (wd16.setCells pb16 0 [.int .i64 r1, .int .i64 r2, .int .i64 r3, .int .i64 r4, .slice h1 L2 hc1, .slice h2 L2 hc2, .slice h3 L2 hc3, .slice h4 L2 hc4]) wq.heap.size g4 L gc4 z4) := O4_t16.out.grownR (grown_cells (World.grownBy.refl _ _) 0 _) (fun q hq e => Nat.lt_irrefl _ (Nat.lt_of_lt_of_le (OH4 q hq) (Nat.le_trans hPB (Nat.le_of_eq (Option.some.inj e)))))
              have Q1_z : Hid (Owns 2 (wd16.setCells pb16 0 [.int .i64 r1, .int .i64 r2, .int .i64 r3, .int .i64 r4, .slice h1 L2 hc1, .slice h2 L2 hc2, .slice h3 L2 hc3, .slice h4 L2 hc4]) w2.heap.size h1 L2 hc1 zz1) := Q1_t16.out.grownR (grown_cells (World.grownBy.refl _ _) 0 _) (fun q hq e => NF1_t16.out q hq (Option.some.inj e).symm)
              refine hK.out _ _ hSz (fun hSzz => ?_)
              clear hK Kk hSzz
              generalize (wd16.setCells pb16 0 [.int .i64 r1, .int .i64 r2, .int .i64 r3, .int .i64 r4, .slice h1 L2 hc1, .slice h2 L2 hc2, .slice h3 L2 hc3, .slice h4 L2 hc4]) = wx at hSz HQ_z HM_z HZ_z HP_z RD_z GR_z O1_z O2_z O3_z O4_z Q1_z ⊢
              try simp only [Act.put]
              refine wpAnyH_take (i := 9) (v := .bool o2) rfl (by kernel_rfl) (by kernel_rfl) (by kernel_rfl) (fun _ _ _ h => h) (Or.inl ⟨by kernel_rfl, ?_⟩) (by assumption) ?_
              · intro wq hSq; go_simp
              try simp only [Act.put]
              refine wpAnyH_done (by kernel_rfl) ?_ _
              refine NoPanic.normal ?_
              go_simp
              clear hSz lM lZ lP lW lR lw lS
              have J_HM : Hid _ := HM_z.out
              have J_HZ : Hid _ := HZ_z.out
              have J_HP : Hid _ := HP_z.out
              have J_RD : Hid _ := RD_z.out
              have J_GR : Hid _ := GR_z.out
              have J_O1 : Hid _ := O1_z.out
              have J_O2 : Hid _ := O2_z.out
              have J_O3 : Hid _ := O3_z.out
              have J_O4 : Hid _ := O4_z.out
              have J_Q1 : Hid _ := Q1_z.out
              have J_LM : Hid _ := LM_t15.out
              have J_HQ : Hid _ := HQ_z.out
              have J_QB : Hid _ := hPB
              clear hPB
              clear HQ_z HM_z HZ_z HP_z RD_z GR_z O1_z O2_z O3_z O4_z Q1_z HM_t16 HZ_t16 RD_t16 GR_t16 O1_t16 O2_t16 O3_t16 O4_t16 HP_t16 Q1_t16 LM_t15 HA_t16 PB_t16 NF1_t16
              generalize pb16 = qb at J_QB J_HQ ⊢
              revert J_QB J_HQ J_LM J_Q1 J_O4 J_O3 J_O2 J_O1 J_GR J_RD J_HP J_HZ J_HM
              revert wx
              revert qb
              revert hc4
              revert h4
              revert hc3
              revert h3
              revert hc2
              revert h2
              revert hc1
              revert h1
              clear zz2 zz3 zz4
              revert zz1
              revert o2
              revert L2
              revert r4
              revert r3
              revert r2
              revert r1
              revert ty
              revert tx
              exact key
          · rw [if_pos (by kernel_rfl)]
            refine wp_alloc_as 34 rfl #[.int .i64 0, .int .i64 0, .int .i64 0, .int .i64 0, .slice none 0 0, .slice none 0 0, .slice none 0 0, .slice none 0 0] (by kernel_rfl) ?_
            have hba : Below wd14.heap.size wd14 (wd14.alloc (.cells #[.int .i64 0, .int .i64 0, .int .i64 0, .int .i64 0, .slice none 0 0, .slice none 0 0, .slice none 0 0, .slice none 0 0] 34)) := (Below.refl _ _).alloc (Nat.le_refl _) _
            have hS17 : w2.grownBy (wd14.alloc (.cells #[.int .i64 0, .int .i64 0, .int .i64 0, .int .i64 0, .slice none 0 0, .slice none 0 0, .slice none 0 0, .slice none 0 0] 34)) (some R) := grown_alloc hS14 _
            have HM_t17 : Hid (Lies (wd14.alloc (.cells #[.int .i64 0, .int .i64 0, .int .i64 0, .int .i64 0, .slice none 0 0, .slice none 0 0, .slice none 0 0, .slice none 0 0] 34)) w.heap.size [.int .i64 a, .int .i64 b, .int .i64 c, .int .i64 d, .int .i64 f, .int .i64 k, .int .i64 a', .int .i64 b', .int .i64 c', .int .i64 d', .int .i64 f', .int .i64 k']) := HM_t14.out.belowS hba
            have HZ_t17 : Hid (Lies (wd14.alloc (.cells #[.int .i64 0, .int .i64 0, .int .i64 0, .int .i64 0, .slice none 0 0, .slice none 0 0, .slice none 0 0, .slice none 0 0] 34)) (w.heap.size + 1) [.int .i64 0, .int .i64 0, .int .i64 0, .int .i64 0, .slice none 0 0, .slice none 0 0, .slice none 0 0, .slice none 0 0]) := HZ_t14.out.belowS hba
            have RD_t17 : Hid (Rd w0 R ca len cap (wd14.alloc (.cells #[.int .i64 0, .int .i64 0, .int .i64 0, .int .i64 0, .slice none 0 0, .slice none 0 0, .slice none 0 0, .slice none 0 0] 34))) := RD_t14.out.grow hba
            have GR_t17 : Hid (w.grownBy (wd14.alloc (.cells #[.int .i64 0, .int .i64 0, .int .i64 0, .int .i64 0, .slice none 0 0, .slice none 0 0, .slice none 0 0, .slice none 0 0] 34)) (some R)) := GR_t14.out.trans (grown_of_below hba _)
            have O1_t17 : Hid (Owns 2 (wd14.alloc (.cells #[.int .i64 0, .int .i64 0, .int .i64 0, .int .i64 0, .slice none 0 0, .slice none 0 0, .slice none 0 0, .slice none 0 0] 34)) wq.heap.size g1 L gc1 z1) := O1_t14.out.below hba
            have O2_t17 : Hid (Owns 2 (wd14.alloc (.cells #[.int .i64 0, .int .i64 0, .int .i64 0, .int .i64 0, .slice none 0 0, .slice none 0 0, .slice none 0 0, .slice none 0 0] 34)) wq.heap.size g2 L gc2 z2) := O2_t14.out.below hba
            have O3_t17 : Hid (Owns 2 (wd14.alloc (.cells #[.int .i64 0, .int .i64 0, .int .i64 0, .int .i64 0, .slice none 0 0, .slice none 0 0, .slice none 0 0, .slice none 0 0] 34)) wq.heap.size g3 L gc3 z3) := O3_t14.out.below hba
            have O4_t17 : Hid (Owns 2 (wd14.alloc (.cells #[.int .i64 0, .int .i64 0, .int .i64 0, .int .i64 0, .slice none 0 0, .slice none 0 0, .slice none 0 0, .slice none 0 0] 34)) wq.heap.size g4 L gc4 z4) := O4_t14.out.below hba
            have HP_t17 : Hid (Lies (wd14.alloc (.cells #[.int .i64 0, .int .i64 0, .int .i64 0, .int .i64 0, .slice none 0 0, .slice none 0 0, .slice none 0 0, .slice none 0 0] 34)) pb [.int .i64 p1, .int .i64 p2, .int .i64 p3, .int .i64 p4, .slice g1 L gc1, .slice g2 L gc2, .slice g3 L gc3, .slice g4 L gc4]) := HP_t14.out.belowS hba
            have HA_t17 : Hid (Lies (wd14.alloc (.cells #[.int .i64 0, .int .i64 0, .int .i64 0, .int .i64 0, .slice none 0 0, .slice none 0 0, .slice none 0 0, .slice none 0 0] 34)) wd14.heap.size [.int .i64 0, .int .i64 0, .int .i64 0, .int .i64 0, .slice none 0 0, .slice none 0 0, .slice none 0 0, .slice none 0 0]) := lies_new _ _ _
            have PB_t17 : Hid (w2.heap.size ≤ wd14.heap.size) := hS14.size
            refine hK.out _ _ hS17 (fun _ => ?_)
            clear hK Kk hba HM_t14 HZ_t14 RD_t14 GR_t14 O1_t14 O2_t14 O3_t14 O4_t14 HP_t14
            generalize (wd14.alloc (.cells #[.int .i64 0, .int .i64 0, .int .i64 0, .int .i64 0, .slice none 0 0, .slice none 0 0, .slice none 0 0, .slice none 0 0] 34)) = wd17 at HA_t17 hS17 HM_t17 HZ_t17 RD_t17 GR_t17 O1_t17 O2_t17 O3_t17 O4_t17 HP_t17 ⊢
            generalize wd14.heap.size = pb17 at HA_t17 PB_t17 ⊢
            try simp only [Act.put]
            refine wpAnyH_ready (rs := [3]) (by kernel_rfl) (by simp) ?_
            refine AllReadyH.cons rfl (fun Kk hK => ?_) (AllReadyH.nil)
            · go_simp
              refine (CS.out (tx, ty) 4 _).mono ?_
              rintro e wd18 ⟨r1, r2, r3, r4, L2, o2, zz1, zz2, zz3, zz4, h1, hc1, h2, hc2, h3, hc3, h4, hc4, rfl, hL, ⟨q1, q2, q3, q4⟩, hfar, hb18⟩
              go_simp
              have hS18 : w2.grownBy wd18 (some R) := hS17.trans (grown_of_below hb18 _)
              have HM_t18 : Hid (Lies wd18 w.heap.size [.int .i64 a, .int .i64 b, .int .i64 c, .int .i64 d, .int .i64 f, .int .i64 k, .int .i64 a', .int .i64 b', .int .i64 c', .int .i64 d', .int .i64 f', .int .i64 k']) := HM_t17.out.belowS hb18
              have HZ_t18 : Hid (Lies wd18 (w.heap.size + 1) [.int .i64 0, .int .i64 0, .int .i64 0, .int .i64 0, .slice none 0 0, .slice none 0 0, .slice none 0 0, .slice none 0 0]) := HZ_t17.out.belowS hb18
              have RD_t18 : Hid (Rd w0 R ca len cap wd18) := RD_t17.out.grow hb18
              have GR_t18 : Hid (w.grownBy wd18 (some R)) := GR_t17.out.trans (grown_of_below hb18 _)
              have O1_t18 : Hid (Owns 2 wd18 wq.heap.size g1 L gc1 z1) := O1_t17.out.below hb18
              have O2_t18 : Hid (Owns 2 wd18 wq.heap.size g2 L gc2 z2) := O2_t17.out.below hb18
              have O3_t18 : Hid (Owns 2 wd18 wq.heap.size g3 L gc3 z3) := O3_t17.out.below hb18
              have O4_t18 : Hid (Owns 2 wd18 wq.heap.size g4 L gc4 z4) := O4_t17.out.below hb18
              have HP_t18 : Hid (Lies wd18 pb [.int .i64 p1, .int .i64 p2, .int .i64 p3, .int .i64 p4, .slice g1 L gc1, .slice g2 L gc2, .slice g3 L gc3, .slice g4 L gc4]) := HP_t17.out.belowS hb18
              have HA_t18 : Hid (Lies wd18 pb17 [.int .i64 0, .int .i64 0, .int .i64 0, .int .i64 0, .slice none 0 0, .slice none 0 0, .slice none 0 0, .slice none 0 0]) := HA_t17.out.belowS hb18
              have Q1_t18 : Hid (Owns 2 wd18 w2.heap.size h1 L2 hc1 zz1) := q1.mono hS17.size
              have LM_t18 : Hid (L2 ≤ 64) := hL
              have NF1_t18 : Hid (∀ q, h1 = some q → q.block ≠ pb17) := fun q hq => Nat.ne_of_gt (Nat.lt_of_lt_of_le HA_t17.out.2.2 (q1.lo q hq))
              clear q1 q2 q3 q4 hfar hL
              refine hK.out _ _ hS18 (fun _ => ?_)
              clear hK Kk hb18 HM_t17 HZ_t17 RD_t17 GR_t17 O1_t17 O2_t17 O3_t17 O4_t17 HP_t17 HA_t17
              try simp only [Act.put]
              refine wpAnyH_take (i := 4) (v := .tuple #[.agg #[.int .i64 r1, .int .i64 r2, .int .i64 r3, .int .i64 r4, .slice h1 L2 hc1, .slice h2 L2 hc2, .slice h3 L2 hc3, .slice h4 L2 hc4], .bool o2]) rfl (by kernel_rfl) (by kernel_rfl) (by kernel_rfl) (fun _ _ _ h => h) (Or.inl ⟨by kernel_rfl, ?_⟩) (by assumption) ?_
              · intro wq hSq; go_simp
              try simp only [Act.put]
              refine wpAnyH_take (i := 5) (v := .agg #[.int .i64 r1, .int .i64 r2, .int .i64 r3, .int .i64 r4, .slice h1 L2 hc1, .slice h2 L2 hc2, .slice h3 L2 hc3, .slice h4 L2 hc4]) rfl (by kernel_rfl) (by kernel_rfl) (by kernel_rfl) (fun _ _ _ h => h) (Or.inl ⟨by kernel_rfl, ?_⟩) (by assumption) ?_
              · intro wq hSq; go_simp
              try simp only [Act.put]
              refine wpAnyH_take (i := 6) (v := .bool o2) rfl (by kernel_rfl) (by kernel_rfl) (by kernel_rfl) (fun _ _ _ h => h) (Or.inl ⟨by kernel_rfl, ?_⟩) (by assumption) ?_
              · intro wq hSq; go_simp
              try simp only [Act.put]
              refine wpAnyH_ready (rs := [8]) (by kernel_rfl) (by simp) ?_
              refine AllReadyH.cons rfl (fun Kk hK => ?_) AllReadyH.nil
              rw [if_pos (by kernel_rfl)]
              with_reducible refine wp_store_mid 34 (.tmp 7) (.tmp 67) ?_ pb17 0 ([.int .i64 r1, .int .i64 r2, .int .i64 r3, .int .i64 r4, .slice h1 L2 hc1, .slice h2 L2 hc2, .slice h3 L2 hc3, .slice h4 L2 hc4]).toArray ?_ ?_ ?_ (by kernel_rfl) (by kernel_rfl) ?_
              · exact rfl
              · exact rfl
              · exact rfl
              · exact HA_t18.out.there 0 8 (by simp)
              have hPB := PB_t17.out
              obtain ⟨lM, lZ, lP, lW, lR, lw, lS⟩ := HPB2.out _ hPB
              have hSz : w2.grownBy (wd18.setCells pb17 0 [.int .i64 r1, .int .i64 r2, .int .i64 r3, .int .i64 r4, .slice h1 L2 hc1, .slice h2 L2 hc2, .slice h3 L2 hc3, .slice h4 L2 hc4]) (some R) := grown_far hS18 hPB 0 _
              have HQ_z : Hid (Lies (wd18.setCells pb17 0 [.int .i64 r1, .int .i64 r2, .int .i64 r3, .int .i64 r4, .slice h1 L2 hc1, .slice h2 L2 hc2, .slice h3 L2 hc3, .slice h4 L2 hc4]) pb17 [.int .i64 r1, .int .i64 r2, .int .i64 r3, .int .i64 r4, .slice h1 L2 hc1, .slice h2 L2 hc2, .slice h3 L2 hc3, .slice h4 L2 hc4]) := HA_t18.out.setCells [.int .i64 r1, .int .i64 r2, .int .i64 r3, .int .i64 r4, .slice h1 L2 hc1, .slice h2 L2 hc2, .slice h3 L2 hc3, .slice h4 L2 hc4] 0 (by simp)
              have HM_z : Hid (Lies (wd18.setCells pb17 0 [.int .i64 r1, .int .i64 r2, .int .i64 r3, .int .i64 r4, .slice h1 L2 hc1, .slice h2 L2 hc2, .slice h3 L2 hc3, .slice h4 L2 hc4]) w.heap.size [.int .i64 a, .int .i64 b, .int .i64 c, .int .i64 d, .int .i64 f, .int .i64 k, .int .i64 a', .int .i64 b', .int .i64 c', .int .i64 d', .int .i64 f', .int .i64 k']) := Lies.farCells _ 0 HM_t18.out lM
              have HZ_z : Hid (Lies (wd18.setCells pb17 0 [.int .i64 r1, .int .i64 r2, .int .i64 r3, .int .i64 r4, .slice h1 L2 hc1, .slice h2 L2 hc2, .slice h3 L2 hc3, .slice h4 L2 hc4]) (w.heap.size + 1) [.int .i64 0, .int .i64 0, .int .i64 0, .int .i64 0, .slice none 0 0, .slice none 0 0, .slice none 0 0, .slice none 0 0]) := Lies.farCells _ 0 HZ_t18.out lZ
              have HP_z : Hid (Lies (wd18.setCells pb17 0 [.int .i64 r1, .int .i64 r2, .int .i64 r3, .int .i64 r4, .slice h1 L2 hc1, .slice h2 L2 hc2, .slice h3 L2 hc3, .slice h4 L2 hc4]) pb [.int .i64 p1, .int .i64 p2, .int .i64 p3, .int .i64 p4, .slice g1 L gc1, .slice g2 L gc2, .slice g3 L gc3, .slice g4 L gc4]) := Lies.farCells _ 0 HP_t18.out lP
              have RD_z : Hid (Rd w0 R ca len cap (wd18.setCells pb17 0 [.int .i64 r1, .int .i64 r2, .int .i64 r3, .int .i64 r4, .slice h1 L2 hc1, .slice h2 L2 hc2, .slice h3 L2 hc3, .slice h4 L2 hc4])) := RD_t18.out.cells lW lR _
              have GR_z : Hid (w.grownBy (wd18.setCells pb17 0 [.int .i64 r1, .int .i64 r2, .int .i64 r3, .int .i64 r4, .slice h1 L2 hc1, .slice h2 L2 hc2, .slice h3 L2 hc3, .slice h4 L2 hc4]) (some R)) := grown_far GR_t18.out lw 0 _
              have O1_z : Hid (Owns 2 (wd18.setCells pb17 0 [.int .i64 r1, .int .i64 r2, .int .i64 r3, .int .i64 r4, .slice h1 L2 hc1, .slice h2 L2 hc2, .slice h3 L2 hc3, .slice h4 L2 hc4]) wq.heap.size g1 L gc1 z1) := O1_t18.out.grownR (grown_cells (World.grownBy.refl _ _) 0 _) (fun q hq e => Nat.lt_irrefl _ (Nat.lt_of_lt_of_le (OH1 q hq) (Nat.le_trans hPB (Nat.le_of_eq (Option.some.inj e)))))
              have O2_z : Hid (Owns 2 (wd18.setCells pb17 0 [.int .i64 r1, .int .i64 r2, .int .i64 r3, .int .i64 r4, .slice h1 L2 hc1, .slice h2 L2 hc2, .slice h3 L2 hc3, .slice h4 L2 hc4]) wq.heap.size g2 L gc2 z2) := O2_t18.out.grownR (grown_cells (World.grownBy.refl _ _) 0 _) (fun q hq e => Nat.lt_irrefl _ (Nat.lt_of_lt_of_le (OH2 q hq) (Nat.le_trans hPB (Nat.le_of_eq (Option.some.inj e)))))
              have O3_z : Hid (Owns 2 (wd18.setCells pb17 0 [.int .i64 r1, .int .i64 r2, .int .i64 r3, .int .i64 r4, .slice h1 L2 hc1, .slice h2 L2 hc2, .slice h3 L2 hc3, .slice h4 L2 hc4]) wq.heap.size g3 L gc3 z3) := O3_t18.out.grownR (grown_cells (World.grownBy.refl _ _) 0 _) (fun q hq e => Nat.lt_irrefl _ (Nat.lt_of_lt_of_le (OH3 q hq) (Nat.le_trans hPB (Nat.le_of_eq (Option.some.inj e)))))
              have O4_z : Hid (Owns 2 (wd18.setCells pb17 0 [.int .i64 r1, .int .i64 r2, .int .i64 r3, .int .i64 r4, .slice h1 L2 hc1, .slice h2 L2 hc2, .slice h3 L2 hc3, .slice h4 L2 hc4]) wq.heap.size g4 L gc4 z4) := O4_t18.out.grownR (grown_cells (World.grownBy.refl _ _) 0 _) (fun q hq e => Nat.lt_irrefl _ (Nat.lt_of_lt_of_le (OH4 q hq) (Nat.le_trans hPB (Nat.le_of_eq (Option.some.inj e)))))
              have Q1_z : Hid (Owns 2 (wd18.setCells pb17 0 [.int .i64 r1, .int .i64 r2, .int .i64 r3, .int .i64 r4, .slice h1 L2 hc1, .slice h2 L2 hc2, .slice h3 L2 hc3, .slice h4 L2 hc4]) w2.heap.size h1 L2 hc1 zz1) := Q1_t18.out.grownR (grown_cells (World.grownBy.refl _ _) 0 _) (fun q hq e => NF1_t18.out q hq (Option.some.inj e).symm)
              refine hK.out _ _ hSz (fun hSzz => ?_)
              clear hK Kk hSzz
              generalize (wd18.setCells pb17 0 [.int .i64 r1, .int .i64 r2, .int .i64 r3, .int .i64 r4, .slice h1 L2 hc1, .slice h2 L2 hc2, .slice h3 L2 hc3, .slice h4 L2 hc4]) = wx at hSz HQ_z HM_z HZ_z HP_z RD_z GR_z O1_z O2_z O3_z O4_z Q1_z ⊢
              try simp only [Act.put]
              refine wpAnyH_take (i := 9) (v := .bool o2) rfl (by kernel_rfl) (by kernel_rfl) (by kernel_rfl) (fun _ _ _ h => h) (Or.inl ⟨by kernel_rfl, ?_⟩) (by assumption) ?_
              · intro wq hSq; go_simp
              try simp only [Act.put]
              refine wpAnyH_done (by kernel_rfl) ?_ _
              refine NoPanic.normal ?_
              go_simp
              clear hSz lM lZ lP lW lR lw lS
              have J_HM : Hid _ := HM_z.out
              have J_HZ : Hid _ := HZ_z.out
              have J_HP : Hid _ := HP_z.out
              have J_RD : Hid _ := RD_z.out
              have J_GR : Hid _ := GR_z.out
              have J_O1 : Hid _ := O1_z.out
              have J_O2 : Hid _ := O2_z.out
              have J_O3 : Hid _ := O3_z.out
              have J_O4 : Hid _ := O4_z.out
              have J_Q1 : Hid _ := Q1_z.out
              have J_LM : Hid _ := LM_t18.out
              have J_HQ : Hid _ := HQ_z.out
              have J_QB : Hid _ := hPB
              clear hPB
              clear HQ_z HM_z HZ_z HP_z RD_z GR_z O1_z O2_z O3_z O4_z Q1_z HM_t18 HZ_t18 RD_t18 GR_t18 O1_t18 O2_t18 O3_t18 O4_t18 HP_t18 HA_t18 PB_t17 Q1_t18 LM_t18 NF1_t18
              generalize pb17 = qb at J_QB J_HQ ⊢
              revert J_QB J_HQ J_LM J_Q1 J_O4 J_O3 J_O2 J_O1 J_GR J_RD J_HP J_HZ J_HM
              revert wx
              revert qb
              revert hc4
              revert h4
              revert hc3
              revert h3
              revert hc2
              revert h2
              revert hc1
              revert h1
              clear zz2 zz3 zz4
              revert zz1
              revert o2
              revert L2
              revert r4
              revert r3
              revert r2
              revert r1
              revert ty
              revert tx
              exact key
        · rw [if_pos (by kernel_rfl)]
          refine wp_alloc_as 34 rfl #[.int .i64 0, .int .i64 0, .int .i64 0, .int .i64 0, .slice none 0 0, .slice none 0 0, .slice none 0 0, .slice none 0 0] (by kernel_rfl) ?_
          have hba : Below wd0.heap.size wd0 (wd0.alloc (.cells #[.int .i64 0, .int .i64 0, .int .i64 0, .int .i64 0, .slice none 0 0, .slice none 0 0, .slice none 0 0, .slice none 0 0] 34)) := (Below.refl _ _).alloc (Nat.le_refl _) _
          have hS19 : w2.grownBy (wd0.alloc (.cells #[.int .i64 0, .int .i64 0, .int .i64 0, .int .i64 0, .slice none 0 0, .slice none 0 0, .slice none 0 0, .slice none 0 0] 34)) (some R) := grown_alloc hHeld _
          have HM_t19 : Hid (Lies (wd0.alloc (.cells #[.int .i64 0, .int .i64 0, .int .i64 0, .int .i64 0, .slice none 0 0, .slice none 0 0, .slice none 0 0, .slice none 0 0] 34)) w.heap.size [.int .i64 a, .int .i64 b, .int .i64 c, .int .i64 d, .int .i64 f, .int .i64 k, .int .i64 a', .int .i64 b', .int .i64 c', .int .i64 d', .int .i64 f', .int .i64 k']) := HM_r0.out.belowS hba
          have HZ_t19 : Hid (Lies (wd0.alloc (.cells #[.int .i64 0, .int .i64 0, .int .i64 0, .int .i64 0, .slice none 0 0, .slice none 0 0, .slice none 0 0, .slice none 0 0] 34)) (w.heap.size + 1) [.int .i64 0, .int .i64 0, .int .i64 0, .int .i64 0, .slice none 0 0, .slice none 0 0, .slice none 0 0, .slice none 0 0]) := HZ_r0.out.belowS hba
          have RD_t19 : Hid (Rd w0 R ca len cap (wd0.alloc (.cells #[.int .i64 0, .int .i64 0, .int .i64 0, .int .i64 0, .slice none 0 0, .slice none 0 0, .slice none 0 0, .slice none 0 0] 34))) := RD_r0.out.grow hba
          have GR_t19 : Hid (w.grownBy (wd0.alloc (.cells #[.int .i64 0, .int .i64 0, .int .i64 0, .int .i64 0, .slice none 0 0, .slice none 0 0, .slice none 0 0, .slice none 0 0] 34)) (some R)) := GR_r0.out.trans (grown_of_below hba _)
          have O1_t19 : Hid (Owns 2 (wd0.alloc (.cells #[.int .i64 0, .int .i64 0, .int .i64 0, .int .i64 0, .slice none 0 0, .slice none 0 0, .slice none 0 0, .slice none 0 0] 34)) wq.heap.size g1 L gc1 z1) := O1_r0.out.below hba
          have O2_t19 : Hid (Owns 2 (wd0.alloc (.cells #[.int .i64 0, .int .i64 0, .int .i64 0, .int .i64 0, .slice none 0 0, .slice none 0 0, .slice none 0 0, .slice none 0 0] 34)) wq.heap.size g2 L gc2 z2) := O2_r0.out.below hba
          have O3_t19 : Hid (Owns 2 (wd0.alloc (.cells #[.int .i64 0, .int .i64 0, .int .i64 0, .int .i64 0, .slice none 0 0, .slice none 0 0, .slice none 0 0, .slice none 0 0] 34)) wq.heap.size g3 L gc3 z3) := O3_r0.out.below hba
          have O4_t19 : Hid (Owns 2 (wd0.alloc (.cells #[.int .i64 0, .int .i64 0, .int .i64 0, .int .i64 0, .slice none 0 0, .slice none 0 0, .slice none 0 0, .slice none 0 0] 34)) wq.heap.size g4 L gc4 z4) := O4_r0.out.below hba
          have HP_t19 : Hid (Lies (wd0.alloc (.cells #[.int .i64 0, .int .i64 0, .int .i64 0, .int .i64 0, .slice none 0 0, .slice none 0 0, .slice none 0 0, .slice none 0 0] 34)) pb [.int .i64 p1, .int .i64 p2, .int .i64 p3, .int .i64 p4, .slice g1 L gc1, .slice g2 L gc2, .slice g3 L gc3, .slice g4 L gc4]) := HP_r0.out.belowS hba
          have HA_t19 : Hid (Lies (wd0.alloc (.cells #[.int .i64 0, .int .i64 0, .int .i64 0, .int .i64 0, .slice none 0 0, .slice none 0 0, .slice none 0 0, .slice none 0 0] 34)) wd0.heap.size [.int .i64 0, .int .i64 0, .int .i64 0, .int .i64 0, .slice none 0 0, .slice none 0 0, .slice none 0 0, .slice none 0 0]) := lies_new _ _ _
          have PB_t19 : Hid (w2.heap.size ≤ wd0.heap.size) := hHeld.size
          refine hK.out _ _ hS19 (fun _ => ?_)
          clear hK Kk hba HM_r0 HZ_r0 RD_r0 GR_r0 O1_r0 O2_r0 O3_r0 O4_r0 HP_r0
          generalize (wd0.alloc (.cells #[.int .i64 0, .int .i64 0, .int .i64 0, .int .i64 0, .slice none 0 0, .slice none 0 0, .slice none 0 0, .slice none 0 0] 34)) = wd19 at HA_t19 hS19 HM_t19 HZ_t19 RD_t19 GR_t19 O1_t19 O2_t19 O3_t19 O4_t19 HP_t19 ⊢
          generalize wd0.heap.size = pb19 at HA_t19 PB_t19 ⊢
          try simp only [Act.put]
          refine wpAnyH_ready (rs := [2]) (by kernel_rfl) (by simp) ?_
          refine AllReadyH.cons rfl (fun Kk hK => ?_) (AllReadyH.nil)
          · go_simp
            refine (stateR_any HRow.out _ RD_t19.out).mono ?_
            rintro e wd20 ⟨⟨tx, ty⟩, rfl, hr20, hg20⟩
            go_simp
            have hS20 : w2.grownBy wd20 (some R) := hS19.trans hg20
            have HM_t20 : Hid (Lies wd20 w.heap.size [.int .i64 a, .int .i64 b, .int .i64 c, .int .i64 d, .int .i64 f, .int .i64 k, .int .i64 a', .int .i64 b', .int .i64 c', .int .i64 d', .int .i64 f', .int .i64 k']) := HM_t19.out.grown hg20 HNm
            have HZ_t20 : Hid (Lies wd20 (w.heap.size + 1) [.int .i64 0, .int .i64 0, .int .i64 0, .int .i64 0, .slice none 0 0, .slice none 0 0, .slice none 0 0, .slice none 0 0]) := HZ_t19.out.grown hg20 HNz
            have RD_t20 : Hid (Rd w0 R ca len cap wd20) := hr20
            have GR_t20 : Hid (w.grownBy wd20 (some R)) := GR_t19.out.trans hg20
            have O1_t20 : Hid (Owns 2 wd20 wq.heap.size g1 L gc1 z1) := O1_t19.out.grownR hg20 LOR1
            have O2_t20 : Hid (Owns 2 wd20 wq.heap.size g2 L gc2 z2) := O2_t19.out.grownR hg20 LOR2
            have O3_t20 : Hid (Owns 2 wd20 wq.heap.size g3 L gc3 z3) := O3_t19.out.grownR hg20 LOR3
            have O4_t20 : Hid (Owns 2 wd20 wq.heap.size g4 L gc4 z4) := O4_t19.out.grownR hg20 LOR4
            have HP_t20 : Hid (Lies wd20 pb [.int .i64 p1, .int .i64 p2, .int .i64 p3, .int .i64 p4, .slice g1 L gc1, .slice g2 L gc2, .slice g3 L gc3, .slice g4 L gc4]) := HP_t19.out.grown hg20 kS
            have HA_t20 : Hid (Lies wd20 pb19 [.int .i64 0, .int .i64 0, .int .i64 0, .int .i64 0, .slice none 0 0, .slice none 0 0, .slice none 0 0, .slice none 0 0]) := HA_t19.out.grown hg20 (HPB2.out _ PB_t19.out).2.2.2.2.2.2
            refine hK.out _ _ hS20 (fun _ => ?_)
            clear hK Kk hg20 hr20 HM_t19 HZ_t19 RD_t19 GR_t19 O1_t19 O2_t19 O3_t19 O4_t19 HP_t19 HA_t19
            try simp only [Act.put]
            refine wpAnyH_ready (rs := [3]) (by kernel_rfl) (by simp) ?_
            refine AllReadyH.cons rfl (fun Kk hK => ?_) (AllReadyH.nil)
            · go_simp
              refine (CS.out (tx, ty) 4 _).mono ?_
              rintro e wd21 ⟨r1, r2, r3, r4, L2, o2, zz1, zz2, zz3, zz4, h1, hc1, h2, hc2, h3, hc3, h4, hc4, rfl, hL, ⟨q1, q2, q3, q4⟩, hfar, hb21⟩
              go_simp
              have hS21 : w2.grownBy wd21 (some R) := hS20.trans (grown_of_below hb21 _)
              have HM_t21 : Hid (Lies wd21 w.heap.size [.int .i64 a, .int .i64 b, .int .i64 c, .int .i64 d, .int .i64 f, .int .i64 k, .int .i64 a', .int .i64 b', .int .i64 c', .int .i64 d', .int .i64 f', .int .i64 k']) := HM_t20.out.belowS hb21
              have HZ_t21 : Hid (Lies wd21 (w.heap.size + 1) [.int .i64 0, .int .i64 0, .int .i64 0, .int .i64 0, .slice none 0 0, .slice none 0 0, .slice none 0 0, .slice none 0 0]) := HZ_t20.out.belowS hb21
              have RD_t21 : Hid (Rd w0 R ca len cap wd21) := RD_t20.out.grow hb21
              have GR_t21 : Hid (w.grownBy wd21 (some R)) := GR_t20.out.trans (grown_of_below hb21 _)
              have O1_t21 : Hid (Owns 2 wd21 wq.heap.size g1 L gc1 z1) := O1_t20.out.below hb21
              have O2_t21 : Hid (Owns 2 wd21 wq.heap.size g2 L gc2 z2) := O2_t20.out.below hb21
              have O3_t21 : Hid (Owns 2 wd21 wq.heap.size g3 L gc3 z3) := O3_t20.out.below hb21
              have O4_t21 : Hid (Owns 2 wd21 wq.heap.size g4 L gc4 z4) := O4_t20.out.below hb21
              have HP_t21 : Hid (Lies wd21 pb [.int .i64 p1, .int .i64 p2, .int .i64 p3, .int .i64 p4, .slice g1 L gc1, .slice g2 L gc2, .slice g3 L gc3, .slice g4 L gc4]) := HP_t20.out.belowS hb21
              have HA_t21 : Hid (Lies wd21 pb19 [.int .i64 0, .int .i64 0, .int .i64 0, .int .i64 0, .slice none 0 0, .slice none 0 0, .slice none 0 0, .slice none 0 0]) := HA_t20.out.belowS hb21
              have Q1_t21 : Hid (Owns 2 wd21 w2.heap.size h1 L2 hc1 zz1) := q1.mono hS20.size
              have LM_t21 : Hid (L2 ≤ 64) := hL
              have NF1_t21 : Hid (∀ q, h1 = some q → q.block ≠ pb19) := fun q hq => Nat.ne_of_gt (Nat.lt_of_lt_of_le HA_t20.out.2.2 (q1.lo q hq))
              clear q1 q2 q3 q4 hfar hL
              refine hK.out _ _ hS21 (fun _ => ?_)
              clear hK Kk hb21 HM_t20 HZ_t20 RD_t20 GR_t20 O1_t20 O2_t20 O3_t20 O4_t20 HP_t20 HA_t20
              try simp only [Act.put]
              refine wpAnyH_take (i := 4) (v := .tuple #[.agg #[.int .i64 r1, .int .i64 r2, .int .i64 r3, .int .i64 r4, .slice h1 L2 hc1, .slice h2 L2 hc2, .slice h3 L2 hc3, .slice h4 L2 hc4], .bool o2]) rfl (by kernel_rfl) (by kernel_rfl) (by kernel_rfl) (fun _ _ _ h => h) (Or.inl ⟨by kernel_rfl, ?_⟩) (by assumption) ?_
              · intro wq hSq; go_simp
              try simp only [Act.put]
              refine wpAnyH_take (i := 5) (v := .agg #[.int .i64 r1, .int .i64 r2, .int .i64 r3, .int .i64 r4, .slice h1 L2 hc1, .slice h2 L2 hc2, .slice h3 L2 hc3, .slice h4 L2 hc4]) rfl (by kernel_rfl) (by kernel_rfl) (by kernel_rfl) (fun _ _ _ h => h) (Or.inl ⟨by kernel_rfl, ?_⟩) (by assumption) ?_
              · intro wq hSq; go_simp
              try simp only [Act.put]
              refine wpAnyH_take (i := 6) (v := .bool o2) rfl (by kernel_rfl) (by kernel_rfl) (by kernel_rfl) (fun _ _ _ h => h) (Or.inl ⟨by kernel_rfl, ?_⟩) (by assumption) ?_
              · intro wq hSq; go_simp
              try simp only [Act.put]
              refine wpAnyH_ready (rs := [8]) (by kernel_rfl) (by simp) ?_
              refine AllReadyH.cons rfl (fun Kk hK => ?_) AllReadyH.nil
              rw [if_pos (by kernel_rfl)]
              with_reducible refine wp_store_mid 34 (.tmp 7) (.tmp 67) ?_ pb19 0 ([.int .i64 r1, .int .i64 r2, .int .i64 r3, .int .i64 r4, .slice h1 L2 hc1, .slice h2 L2 hc2, .slice h3 L2 hc3, .slice h4 L2 hc4]).toArray ?_ ?_ ?_ (by kernel_rfl) (by kernel_rfl) ?_
              · exact rfl
              · exact rfl
              · exact rfl
              · exact HA_t21.out.there 0 8 (by simp)
              have hPB := PB_t19.out
              obtain ⟨lM, lZ, lP, lW, lR, lw, lS⟩ := HPB2.out _ hPB
              have hSz : w2.grownBy (wd21.setCells pb19 0 [.int .i64 r1, .int .i64 r2, .int .i64 r3, .int .i64 r4, .slice h1 L2 hc1, .slice h2 L2 hc2, .slice h3 L2 hc3, .slice h4 L2 hc4]) (some R) := grown_far hS21 hPB 0 _
              have HQ_z : Hid (Lies (wd21.setCells pb19 0 [.int .i64 r1, .int .i64 r2, .int .i64 r3, .int .i64 r4, .slice h1 L2 hc1, .slice h2 L2 hc2, .slice h3 L2 hc3, .slice h4 L2 hc4]) pb19 [.int .i64 r1, .int .i64 r2, .int .i64 r3, .int .i64 r4, .slice h1 L2 hc1, .slice h2 L2 hc2, .slice h3 L2 hc3, .slice h4 L2 hc4]) := HA_t21.out.setCells [.int .i64 r1, .int .i64 r2, .int .i64 r3, .int .i64 r4, .slice h1 L2 hc1, .slice h2 L2 hc2, .slice h3 L2 hc3, .slice h4 L2 hc4] 0 (by simp)
              have HM_z : Hid (Lies (wd21.setCells pb19 0 [.int .i64 r1, .int .i64 r2, .int .i64 r3, .int .i64 r4, .slice h1 L2 hc1, .slice h2 L2 hc2, .slice h3 L2 hc3, .slice h4 L2 hc4]) w.heap.size [.int .i64 a, .int .i64 b, .int .i64 c, .int .i64 d, .int .i64 f, .int .i64 k, .int .i64 a', .int .i64 b', .int .i64 c', .int .i64 d', .int .i64 f', .int .i64 k']) := Lies.farCells _ 0 HM_t21.out lM
              have HZ_z : Hid (Lies (wd21.setCells pb19 0 [.int .i64 r1, .int .i64 r2, .int .i64 r3, .int .i64 r4, .slice h1 L2 hc1, .slice h2 L2 hc2, .slice h3 L2 hc3, .slice h4 L2 hc4]) (w.heap.size + 1) [.int .i64 0, .int .i64 0, .int .i64 0, .int .i64 0, .slice none 0 0, .slice none 0 0, .slice none 0 0, .slice none 0 0]) := Lies.farCells _ 0 HZ_t21.out lZ
              have HP_z : Hid (Lies (wd21.setCells pb19 0 [.int .i64 r1, .int .i64 r2, .int .i64 r3, .int .i64 r4, .slice h1 L2 hc1, .slice h2 L2 hc2, .slice h3 L2 hc3, .slice h4 L2 hc4]) pb [.int .i64 p1, .int .i64 p2, .int .i64 p3, .int .i64 p4, .slice g1 L gc1, .slice g2 L gc2, .slice g3 L gc3, .slice g4 L gc4]) := Lies.farCells _ 0 HP_t21.out lP
              have RD_z : Hid (Rd w0 R ca len cap (wd21.setCells pb19 0 [.int .i64 r1, .int .i64 r2, .int .i64 r3, .int .i64 r4, .slice h1 L2 hc1, .slice h2 L2 hc2, .slice h3 L2 hc3, .slice h4 L2 hc4])) := RD_t21.out.cells lW lR _
              have GR_z : Hid (w.grownBy (wd21.setCells pb19 0 [.int .i64 r1, .int .i64 r2, .int .i64 r3, .int .i64 r4, .slice h1 L2 hc1, .slice h2 L2 hc2, .slice h3 L2 hc3, .slice h4 L2 hc4]) (some R)) := grown_far GR_t21.out lw 0 _
              have O1_z : Hid (Owns 2 (wd21.setCells pb19 0 [.int .i64 r1, .int .i64 r2, .int .i64 r3, .int .i64 r4, .slice h1 L2 hc1, .slice h2 L2 hc2, .slice h3 L2 hc3, .slice h4 L2 hc4]) wq.heap.size g1 L gc1 z1) := O1_t21.out.grownR (grown_cells (World.grownBy.refl _ _) 0 _) (fun q hq e => Nat.lt_irrefl _ (Nat.lt_of_lt_of_le (OH1 q hq) (Nat.le_trans hPB (Nat.le_of_eq (Option.some.inj e)))))
              have O2_z : Hid (Owns 2 (wd21.setCells pb19 0 [.int .i64 r1, .int .i64 r2, .int .i64 r3, .int .i64 r4, .slice h1 L2 hc1, .slice h2 L2 hc2, .slice h3 L2 hc3, .slice h4 L2 hc4]) wq.heap.size g2 L gc2 z2) := O2_t21.out.grownR (grown_cells (World.grownBy.refl _ _) 0 _) (fun q hq e => Nat.lt_irrefl _ (Nat.lt_of_lt_of_le (OH2 q hq) (Nat.le_trans hPB (Nat.le_of_eq (Option.some.inj e)))))
              have O3_z : Hid (Owns 2 (wd21.setCells pb19 0 [.int .i64 r1, .int .i64 r2, .int .i64 r3, .int .i64 r4, .slice h1 L2 hc1, .slice h2 L2 hc2, .slice h3 L2 hc3, .slice h4 L2 hc4]) wq.heap.size g3 L gc3 z3) := O3_t21.out.grownR (grown_cells (World.grownBy.refl _ _) 0 _) (fun q hq e => Nat.lt_irrefl _ (Nat.lt_of_lt_of_le (OH3 q hq) (Nat.le_trans hPB (Nat.le_of_eq (Option.some.inj e)))))
              have O4_z : Hid (Owns 2 (wd21.setCells pb19 0 [.int .i64 r1, .int .i64 r2, .int .i64 r3, .int .i64 r4, .slice h1 L2 hc1, .slice h2 L2 hc2, .slice h3 L2 hc3, .slice h4 L2 hc4]) wq.heap.size g4 L gc4 z4) := O4_t21.out.grownR (grown_cells (World.grownBy.refl _ _) 0 _) (fun q hq e => Nat.lt_irrefl _ (Nat.lt_of_lt_of_le (OH4 q hq) (Nat.le_trans hPB (Nat.le_of_eq (Option.some.inj e)))))
              have Q1_z : Hid (Owns 2 (wd21.setCells pb19 0 [.int .i64 r1, .int .i64 r2, .int .i64 r3, .int .i64 r4, .slice h1 L2 hc1, .slice h2 L2 hc2, .slice h3 L2 hc3, .slice h4 L2 hc4]) w2.heap.size h1 L2 hc1 zz1) := Q1_t21.out.grownR (grown_cells (World.grownBy.refl _ _) 0 _) (fun q hq e => NF1_t21.out q hq (Option.some.inj e).symm)
              refine hK.out _ _ hSz (fun hSzz => ?_)
              clear hK Kk hSzz
              generalize (wd21.setCells pb19 0 [.int .i64 r1, .int .i64 r2, .int .i64 r3, .int .i64 r4, .slice h1 L2 hc1, .slice h2 L2 hc2, .slice h3 L2 hc3, .slice h4 L2 hc4]) = wx at hSz HQ_z HM_z HZ_z HP_z RD_z GR_z O1_z O2_z O3_z O4_z Q1_z ⊢
              try simp only [Act.put]
              refine wpAnyH_take (i := 9) (v := .bool o2) rfl (by kernel_rfl) (by kernel_rfl) (by kernel_rfl) (fun _ _ _ h => h) (Or.inl ⟨by kernel_rfl, ?_⟩) (by assumption) ?_
              · intro wq hSq; go_simp
              try simp only [Act.put]
              refine wpAnyH_done (by kernel_rfl) ?_ _
              refine NoPanic.normal ?_
              go_simp
              clear hSz lM lZ lP lW lR lw lS
              have J_HM : Hid _ := HM_z.out
              have J_HZ : Hid _ := HZ_z.out
              have J_HP : Hid _ := HP_z.out
              have J_RD : Hid _ := RD_z.out
              have J_GR : Hid _ := GR_z.out
              have J_O1 : Hid _ := O1_z.out
              have J_O2 : Hid _ := O2_z.out
              have J_O3 : Hid _ := O3_z.out
              have J_O4 : Hid _ := O4_z.out
              have J_Q1 : Hid _ := Q1_z.out
              have J_LM : Hid _ := LM_t21.out
              have J_HQ : Hid _ := HQ_z.out
              have J_QB : Hid _ := hPB
              clear hPB
              clear HQ_z HM_z HZ_z HP_z RD_z GR_z O1_z O2_z O3_z O4_z Q1_z HM_t21 HZ_t21 RD_t21 GR_t21 O1_t21 O2_t21 O3_t21 O4_t21 HP_t21 HA_t21 PB_t19 Q1_t21 LM_t21 NF1_t21
              generalize pb19 = qb at J_QB J_HQ ⊢
              revert J_QB J_HQ J_LM J_Q1 J_O4 J_O3 J_O2 J_O1 J_GR J_RD J_HP J_HZ J_HM
              revert wx
              revert qb
              revert hc4
              revert h4
              revert hc3
              revert h3
              revert hc2
              revert h2
              revert hc1
              revert h1
              clear zz2 zz3 zz4
              revert zz1
              revert o2
              revert L2
              revert r4
              revert r3
              revert r2
              revert r1
              revert ty
              revert tx
              exact key
      case h =>
        intro tx ty r1 r2 r3 r4 L2 o2 zz1 h1 hc1 h2 hc2 h3 hc3 h4 hc4 qb wx J_HM J_HZ J_HP J_RD J_GR J_O1 J_O2 J_O3 J_O4 J_Q1 J_LM J_QB J_HQ
        clear HM_1 HZ_1 RD_1 GR_1 O1_1 O2_1 O3_1 O4_1 HP_1
        have HM_2 : Hid (Lies wx w.heap.size [.int .i64 a, .int .i64 b, .int .i64 c, .int .i64 d, .int .i64 f, .int .i64 k, .int .i64 a', .int .i64 b', .int .i64 c', .int .i64 d', .int .i64 f', .int .i64 k']) := J_HM.out
        have HZ_2 : Hid (Lies wx (w.heap.size + 1) [.int .i64 0, .int .i64 0, .int .i64 0, .int .i64 0, .slice none 0 0, .slice none 0 0, .slice none 0 0, .slice none 0 0]) := J_HZ.out
        have HP_2 : Hid (Lies wx pb [.int .i64 p1, .int .i64 p2, .int .i64 p3, .int .i64 p4, .slice g1 L gc1, .slice g2 L gc2, .slice g3 L gc3, .slice g4 L gc4]) := J_HP.out
        have RD_2 : Hid (Rd w0 R ca len cap wx) := J_RD.out
        have GR_2 : Hid (w.grownBy wx (some R)) := J_GR.out
        have O1_2 : Hid (Owns 2 wx wq.heap.size g1 L gc1 z1) := J_O1.out
        have O2_2 : Hid (Owns 2 wx wq.heap.size g2 L gc2 z2) := J_O2.out
        have O3_2 : Hid (Owns 2 wx wq.heap.size g3 L gc3 z3) := J_O3.out
        have O4_2 : Hid (Owns 2 wx wq.heap.size g4 L gc4 z4) := J_O4.out
        have Q1_2 : Hid (Owns 2 wx w2.heap.size h1 L2 hc1 zz1) := J_Q1.out
        have HQ_2 : Hid (Lies wx qb [.int .i64 r1, .int .i64 r2, .int .i64 r3, .int .i64 r4, .slice h1 L2 hc1, .slice h2 L2 hc2, .slice h3 L2 hc3, .slice h4 L2 hc4]) := J_HQ.out
        have hL2 : L2 ≤ 64 := J_LM.out
        have LH : ∀ q, h1 = some q → w2.heap.size ≤ q.block := Q1_2.out.lo
        have hw2 : w.heap.size + 2 ≤ w2.heap.size := i2w
        have NZh : ∀ q, h1 = some q → q.block ≠ w.heap.size + 1 := fun q hq => by have := LH q hq; omega
        have NPh : ∀ q, h1 = some q → q.block ≠ pb := fun q hq => by have := LH q hq; omega
        have LWh : ∀ q, h1 = some q → w.heap.size ≤ q.block := fun q hq => by have := LH q hq; omega
        clear J_HM J_HZ J_HP J_RD J_GR J_O1 J_O2 J_O3 J_O4 J_Q1 J_LM J_HQ J_QB
        have c0 : wx.cell? ⟨pb, 0, none⟩ = some (.int .i64 p1) := HP_2.out.at 0
        have c1 : wx.cell? ⟨pb, 1, none⟩ = some (.int .i64 p2) := HP_2.out.at 1
        have c2 : wx.cell? ⟨pb, 2, none⟩ = some (.int .i64 p3) := HP_2.out.at 2
        have c3 : wx.cell? ⟨pb, 3, none⟩ = some (.int .i64 p4) := HP_2.out.at 3
        have c4 : wx.cell? ⟨pb, 4, none⟩ = some (.slice g1 L gc1) := HP_2.out.at 4
        have c5 : wx.cell? ⟨pb, 5, none⟩ = some (.slice g2 L gc2) := HP_2.out.at 5
        have c6 : wx.cell? ⟨pb, 6, none⟩ = some (.slice g3 L gc3) := HP_2.out.at 6
        have c7 : wx.cell? ⟨pb, 7, none⟩ = some (.slice g4 L gc4) := HP_2.out.at 7
        have y0 : wx.cell? ⟨w.heap.size + 1, 0, none⟩ = some (.int .i64 0) := HZ_2.out.at 0
        have y1 : wx.cell? ⟨w.heap.size + 1, 1, none⟩ = some (.int .i64 0) := HZ_2.out.at 1
        have y2 : wx.cell? ⟨w.heap.size + 1, 2, none⟩ = some (.int .i64 0) := HZ_2.out.at 2
        have y3 : wx.cell? ⟨w.heap.size + 1, 3, none⟩ = some (.int .i64 0) := HZ_2.out.at 3
        have y4 : wx.cell? ⟨w.heap.size + 1, 4, none⟩ = some (.slice none 0 0) := HZ_2.out.at 4
        have y5 : wx.cell? ⟨w.heap.size + 1, 5, none⟩ = some (.slice none 0 0) := HZ_2.out.at 5
        have y6 : wx.cell? ⟨w.heap.size + 1, 6, none⟩ = some (.slice none 0 0) := HZ_2.out.at 6
        have y7 : wx.cell? ⟨w.heap.size + 1, 7, none⟩ = some (.slice none 0 0) := HZ_2.out.at 7
        have f0 : wx.frozen? ⟨w.heap.size + 1, 0, none⟩ = false := HZ_2.out.fr 0
        have f1 : wx.frozen? ⟨w.heap.size + 1, 1, none⟩ = false := HZ_2.out.fr 1
        have f2 : wx.frozen? ⟨w.heap.size + 1, 2, none⟩ = false := HZ_2.out.fr 2
        have f3 : wx.frozen? ⟨w.heap.size + 1, 3, none⟩ = false := HZ_2.out.fr 3
        have f4 : wx.frozen? ⟨w.heap.size + 1, 4, none⟩ = false := HZ_2.out.fr 4
        have f5 : wx.frozen? ⟨w.heap.size + 1, 5, none⟩ = false := HZ_2.out.fr 5
        have f6 : wx.frozen? ⟨w.heap.size + 1, 6, none⟩ = false := HZ_2.out.fr 6
        have f7 : wx.frozen? ⟨w.heap.size + 1, 7, none⟩ = false := HZ_2.out.fr 7
        have r0 : wx.frozen? ⟨pb, 0, none⟩ = false := HP_2.out.fr 0
        have r1 : wx.frozen? ⟨pb, 1, none⟩ = false := HP_2.out.fr 1
        have r2 : wx.frozen? ⟨pb, 2, none⟩ = false := HP_2.out.fr 2
        have r3 : wx.frozen? ⟨pb, 3, none⟩ = false := HP_2.out.fr 3
        have r4 : wx.frozen? ⟨pb, 4, none⟩ = false := HP_2.out.fr 4
        have r5 : wx.frozen? ⟨pb, 5, none⟩ = false := HP_2.out.fr 5
        have r6 : wx.frozen? ⟨pb, 6, none⟩ = false := HP_2.out.fr 6
        have r7 : wx.frozen? ⟨pb, 7, none⟩ = false := HP_2.out.fr 7
        have q4 : wx.cell? ⟨qb, 4, none⟩ = some (.slice h1 L2 hc1) := HQ_2.out.at 4
        go_wp2
        refine bodyPost_ret (v := .agg #[.int .i64 p1, .int .i64 p2, .int .i64 p3, .int .i64 p4, .slice h1 L2 hc1, .slice g2 L gc2, .slice g3 L gc3, .slice g4 L gc4]) (by simp [results, Tryz.results55, go_sem, y0, y1, y2, y3, y4, y5, y6, y7]) rfl ⟨_, _, _, _, _, _, _, zz1, _, _, _, z2, _, _, _, z3, _, _, _, z4, ⟨rfl, ?_, ?_, ?_, ?_, ⟨by omega, by omega, by omega, by omega⟩, ⟨LWh, LW2, LW3, LW4⟩, ?_, ?_⟩⟩
        · exact (Sees.setS ((Sees.setS ((Sees.setS ((Sees.setS ((Sees.setS ((Sees.setS ((Sees.setS ((Sees.setS ((Sees.setS (Q1_2.out.sees) NPh)) NZh)) NZh)) NZh)) NZh)) NZh)) NZh)) NZh)) NZh)
        · exact (Sees.setS ((Sees.setS ((Sees.setS ((Sees.setS ((Sees.setS ((Sees.setS ((Sees.setS ((Sees.setS ((Sees.setS (O2_2.out.sees) NP2)) NZ2)) NZ2)) NZ2)) NZ2)) NZ2)) NZ2)) NZ2)) NZ2)
        · exact (Sees.setS ((Sees.setS ((Sees.setS ((Sees.setS ((Sees.setS ((Sees.setS ((Sees.setS ((Sees.setS ((Sees.setS (O3_2.out.sees) NP3)) NZ3)) NZ3)) NZ3)) NZ3)) NZ3)) NZ3)) NZ3)) NZ3)
        · exact (Sees.setS ((Sees.setS ((Sees.setS ((Sees.setS ((Sees.setS ((Sees.setS ((Sees.setS ((Sees.setS ((Sees.setS (O4_2.out.sees) NP4)) NZ4)) NZ4)) NZ4)) NZ4)) NZ4)) NZ4)) NZ4)) NZ4)
        · exact (Rd.setS ((Rd.setS ((Rd.setS ((Rd.setS ((Rd.setS ((Rd.setS ((Rd.setS ((Rd.setS ((Rd.setS (RD_2.out) (by omega) (by omega))) (by omega) (by omega))) (by omega) (by omega))) (by omega) (by omega))) (by omega) (by omega))) (by omega) (by omega))) (by omega) (by omega))) (by omega) (by omega))) (by omega) (by omega))
        · exact (grown_farS ((grown_farS ((grown_farS ((grown_farS ((grown_farS ((grown_farS ((grown_farS ((grown_farS ((grown_farS (GR_2.out) (by omega))) (by omega))) (by omega))) (by omega))) (by omega))) (by omega))) (by omega))) (by omega))) (by omega))
    by_cases h9 : v2 = 9
    · subst h9
      have d2 : w2.cell? ⟨pb, 2, none⟩ = some (.int .i64 p3) := HP_1.out.at 2
      have d3 : w2.cell? ⟨pb, 3, none⟩ = some (.int .i64 p4) := HP_1.out.at 3
      have hba : Below w2.heap.size w2 (w2.alloc (.cells #[.int .i64 p3, .int .i64 p4] 29)) := (Below.refl _ _).alloc (Nat.le_refl _) _
      have HM_2 : Hid (Lies (w2.alloc (.cells #[.int .i64 p3, .int .i64 p4] 29)) w.heap.size [.int .i64 a, .int .i64 b, .int .i64 c, .int .i64 d, .int .i64 f, .int .i64 k, .int .i64 a', .int .i64 b', .int .i64 c', .int .i64 d', .int .i64 f', .int .i64 k']) := HM_1.out.belowS hba
      have HZ_2 : Hid (Lies (w2.alloc (.cells #[.int .i64 p3, .int .i64 p4] 29)) (w.heap.size + 1) [.int .i64 0, .int .i64 0, .int .i64 0, .int .i64 0, .slice none 0 0, .slice none 0 0, .slice none 0 0, .slice none 0 0]) := HZ_1.out.belowS hba
      have RD_2 : Hid (Rd w0 R ca len cap (w2.alloc (.cells #[.int .i64 p3, .int .i64 p4] 29))) := RD_1.out.grow hba
      have GR_2 : Hid (w.grownBy (w2.alloc (.cells #[.int .i64 p3, .int .i64 p4] 29)) (some R)) := GR_1.out.trans (grown_of_below hba _)
      have O1_2 : Hid (Owns 2 (w2.alloc (.cells #[.int .i64 p3, .int .i64 p4] 29)) wq.heap.size g1 L gc1 z1) := O1_1.out.below hba
      have O2_2 : Hid (Owns 2 (w2.alloc (.cells #[.int .i64 p3, .int .i64 p4] 29)) wq.heap.size g2 L gc2 z2) := O2_1.out.below hba
      have O3_2 : Hid (Owns 2 (w2.alloc (.cells #[.int .i64 p3, .int .i64 p4] 29)) wq.heap.size g3 L gc3 z3) := O3_1.out.below hba
      have O4_2 : Hid (Owns 2 (w2.alloc (.cells #[.int .i64 p3, .int .i64 p4] 29)) wq.heap.size g4 L gc4 z4) := O4_1.out.below hba
      have HP_2 : Hid (Lies (w2.alloc (.cells #[.int .i64 p3, .int .i64 p4] 29)) pb [.int .i64 p1, .int .i64 p2, .int .i64 p3, .int .i64 p4, .slice g1 L gc1, .slice g2 L gc2, .slice g3 L gc3, .slice g4 L gc4]) := HP_1.out.belowS hba
      clear HM_1 HZ_1 RD_1 GR_1 O1_1 O2_1 O3_1 O4_1 HP_1
      clear hba
      have HN_2 : Hid (Lies (w2.alloc (.cells #[.int .i64 p3, .int .i64 p4] 29)) w2.heap.size [.int .i64 p3, .int .i64 p4]) := lies_new _ _ _
      have c0 : (w2.alloc (.cells #[.int .i64 p3, .int .i64 p4] 29)).cell? ⟨pb, 0, none⟩ = some (.int .i64 p1) := HP_2.out.at 0
      have c1 : (w2.alloc (.cells #[.int .i64 p3, .int .i64 p4] 29)).cell? ⟨pb, 1, none⟩ = some (.int .i64 p2) := HP_2.out.at 1
      have c2 : (w2.alloc (.cells #[.int .i64 p3, .int .i64 p4] 29)).cell? ⟨pb, 2, none⟩ = some (.int .i64 p3) := HP_2.out.at 2
      have c3 : (w2.alloc (.cells #[.int .i64 p3, .int .i64 p4] 29)).cell? ⟨pb, 3, none⟩ = some (.int .i64 p4) := HP_2.out.at 3
      have c4 : (w2.alloc (.cells #[.int .i64 p3, .int .i64 p4] 29)).cell? ⟨pb, 4, none⟩ = some (.slice g1 L gc1) := HP_2.out.at 4
      have c5 : (w2.alloc (.cells #[.int .i64 p3, .int .i64 p4] 29)).cell? ⟨pb, 5, none⟩ = some (.slice g2 L gc2) := HP_2.out.at 5
      have c6 : (w2.alloc (.cells #[.int .i64 p3, .int .i64 p4] 29)).cell? ⟨pb, 6, none⟩ = some (.slice g3 L gc3) := HP_2.out.at 6
      have c7 : (w2.alloc (.cells #[.int .i64 p3, .int .i64 p4] 29)).cell? ⟨pb, 7, none⟩ = some (.slice g4 L gc4) := HP_2.out.at 7
      have y0 : (w2.alloc (.cells #[.int .i64 p3, .int .i64 p4] 29)).cell? ⟨w.heap.size + 1, 0, none⟩ = some (.int .i64 0) := HZ_2.out.at 0
      have y1 : (w2.alloc (.cells #[.int .i64 p3, .int .i64 p4] 29)).cell? ⟨w.heap.size + 1, 1, none⟩ = some (.int .i64 0) := HZ_2.out.at 1
      have y2 : (w2.alloc (.cells #[.int .i64 p3, .int .i64 p4] 29)).cell? ⟨w.heap.size + 1, 2, none⟩ = some (.int .i64 0) := HZ_2.out.at 2
      have y3 : (w2.alloc (.cells #[.int .i64 p3, .int .i64 p4] 29)).cell? ⟨w.heap.size + 1, 3, none⟩ = some (.int .i64 0) := HZ_2.out.at 3
      have y4 : (w2.alloc (.cells #[.int .i64 p3, .int .i64 p4] 29)).cell? ⟨w.heap.size + 1, 4, none⟩ = some (.slice none 0 0) := HZ_2.out.at 4
      have y5 : (w2.alloc (.cells #[.int .i64 p3, .int .i64 p4] 29)).cell? ⟨w.heap.size + 1, 5, none⟩ = some (.slice none 0 0) := HZ_2.out.at 5
      have y6 : (w2.alloc (.cells #[.int .i64 p3, .int .i64 p4] 29)).cell? ⟨w.heap.size + 1, 6, none⟩ = some (.slice none 0 0) := HZ_2.out.at 6
      have y7 : (w2.alloc (.cells #[.int .i64 p3, .int .i64 p4] 29)).cell? ⟨w.heap.size + 1, 7, none⟩ = some (.slice none 0 0) := HZ_2.out.at 7
      have f0 : (w2.alloc (.cells #[.int .i64 p3, .int .i64 p4] 29)).frozen? ⟨w.heap.size + 1, 0, none⟩ = false := HZ_2.out.fr 0
      have f1 : (w2.alloc (.cells #[.int .i64 p3, .int .i64 p4] 29)).frozen? ⟨w.heap.size + 1, 1, none⟩ = false := HZ_2.out.fr 1
      have f2 : (w2.alloc (.cells #[.int .i64 p3, .int .i64 p4] 29)).frozen? ⟨w.heap.size + 1, 2, none⟩ = false := HZ_2.out.fr 2
      have f3 : (w2.alloc (.cells #[.int .i64 p3, .int .i64 p4] 29)).frozen? ⟨w.heap.size + 1, 3, none⟩ = false := HZ_2.out.fr 3
      have f4 : (w2.alloc (.cells #[.int .i64 p3, .int .i64 p4] 29)).frozen? ⟨w.heap.size + 1, 4, none⟩ = false := HZ_2.out.fr 4
      have f5 : (w2.alloc (.cells #[.int .i64 p3, .int .i64 p4] 29)).frozen? ⟨w.heap.size + 1, 5, none⟩ = false := HZ_2.out.fr 5
      have f6 : (w2.alloc (.cells #[.int .i64 p3, .int .i64 p4] 29)).frozen? ⟨w.heap.size + 1, 6, none⟩ = false := HZ_2.out.fr 6
      have f7 : (w2.alloc (.cells #[.int .i64 p3, .int .i64 p4] 29)).frozen? ⟨w.heap.size + 1, 7, none⟩ = false := HZ_2.out.fr 7
      have r0 : (w2.alloc (.cells #[.int .i64 p3, .int .i64 p4] 29)).frozen? ⟨pb, 0, none⟩ = false := HP_2.out.fr 0
      have r1 : (w2.alloc (.cells #[.int .i64 p3, .int .i64 p4] 29)).frozen? ⟨pb, 1, none⟩ = false := HP_2.out.fr 1
      have r2 : (w2.alloc (.cells #[.int .i64 p3, .int .i64 p4] 29)).frozen? ⟨pb, 2, none⟩ = false := HP_2.out.fr 2
      have r3 : (w2.alloc (.cells #[.int .i64 p3, .int .i64 p4] 29)).frozen? ⟨pb, 3, none⟩ = false := HP_2.out.fr 3
      have r4 : (w2.alloc (.cells #[.int .i64 p3, .int .i64 p4] 29)).frozen? ⟨pb, 4, none⟩ = false := HP_2.out.fr 4
      have r5 : (w2.alloc (.cells #[.int .i64 p3, .int .i64 p4] 29)).frozen? ⟨pb, 5, none⟩ = false := HP_2.out.fr 5
      have r6 : (w2.alloc (.cells #[.int .i64 p3, .int .i64 p4] 29)).frozen? ⟨pb, 6, none⟩ = false := HP_2.out.fr 6
      have r7 : (w2.alloc (.cells #[.int .i64 p3, .int .i64 p4] 29)).frozen? ⟨pb, 7, none⟩ = false := HP_2.out.fr 7
      have n0 : (w2.alloc (.cells #[.int .i64 p3, .int .i64 p4] 29)).cell? ⟨w2.heap.size, 0, none⟩ = some (.int .i64 p3) := HN_2.out.at 0
      have n1 : (w2.alloc (.cells #[.int .i64 p3, .int .i64 p4] 29)).cell? ⟨w2.heap.size, 1, none⟩ = some (.int .i64 p4) := HN_2.out.at 1
      go_wp2
      refine bodyPost_ret (v := .agg #[.int .i64 p3, .int .i64 p4, .int .i64 p1, .int .i64 p2, .slice g1 L gc1, .slice g2 L gc2, .slice g3 L gc3, .slice g4 L gc4]) (by simp [results, Tryz.results55, go_sem, y0, y1, y2, y3, y4, y5, y6, y7]) rfl ⟨_, _, _, _, _, _, _, z1, _, _, _, z2, _, _, _, z3, _, _, _, z4, ⟨rfl, ?_, ?_, ?_, ?_, ⟨by omega, by omega, by omega, by omega⟩, ⟨LW1, LW2, LW3, LW4⟩, ?_, ?_⟩⟩
      · exact (Sees.setS ((Sees.setS ((Sees.setS ((Sees.setS ((Sees.setS ((Sees.setS ((Sees.setS ((Sees.setS ((Sees.setS ((Sees.setS ((Sees.setS ((Sees.setS (O1_2.out.sees) NP1)) NP1)) NP1)) NP1)) NZ1)) NZ1)) NZ1)) NZ1)) NZ1)) NZ1)) NZ1)) NZ1)
      · exact (Sees.setS ((Sees.setS ((Sees.setS ((Sees.setS ((Sees.setS ((Sees.setS ((Sees.setS ((Sees.setS ((Sees.setS ((Sees.setS ((Sees.setS ((Sees.setS (O2_2.out.sees) NP2)) NP2)) NP2)) NP2)) NZ2)) NZ2)) NZ2)) NZ2)) NZ2)) NZ2)) NZ2)) NZ2)
      · exact (Sees.setS ((Sees.setS ((Sees.setS ((Sees.setS ((Sees.setS ((Sees.setS ((Sees.setS ((Sees.setS ((Sees.setS ((Sees.setS ((Sees.setS ((Sees.setS (O3_2.out.sees) NP3)) NP3)) NP3)) NP3)) NZ3)) NZ3)) NZ3)) NZ3)) NZ3)) NZ3)) NZ3)) NZ3)
      · exact (Sees.setS ((Sees.setS ((Sees.setS ((Sees.setS ((Sees.setS ((Sees.setS ((Sees.setS ((Sees.setS ((Sees.setS ((Sees.setS ((Sees.setS ((Sees.setS (O4_2.out.sees) NP4)) NP4)) NP4)) NP4)) NZ4)) NZ4)) NZ4)) NZ4)) NZ4)) NZ4)) NZ4)) NZ4)
      · exact (Rd.setS ((Rd.setS ((Rd.setS ((Rd.setS ((Rd.setS ((Rd.setS ((Rd.setS ((Rd.setS ((Rd.setS ((Rd.setS ((Rd.setS ((Rd.setS (RD_2.out) (by omega) (by omega))) (by omega) (by omega))) (by omega) (by omega))) (by omega) (by omega))) (by omega) (by omega))) (by omega) (by omega))) (by omega) (by omega))) (by omega) (by omega))) (by omega) (by omega))) (by omega) (by omega))) (by omega) (by omega))) (by omega) (by omega))
      · exact (grown_farS ((grown_farS ((grown_farS ((grown_farS ((grown_farS ((grown_farS ((grown_farS ((grown_farS ((grown_farS ((grown_farS ((grown_farS ((grown_farS (GR_2.out) (by omega))) (by omega))) (by omega))) (by omega))) (by omega))) (by omega))) (by omega))) (by omega))) (by omega))) (by omega))) (by omega))) (by omega))
    have e5 : (v2 == 5) = false := by simp [h5]
    have e6 : (v2 == 6) = false := by simp [h6]
    have e7 : (v2 == 7) = false := by simp [h7]
    have e8 : (v2 == 8) = false := by simp [h8]
    have e9 : (v2 == 9) = false := by simp [h9]
    clear h5 h6 h7 h8 h9
    have c0 : w2.cell? ⟨pb, 0, none⟩ = some (.int .i64 p1) := HP_1.out.at 0
    have c1 : w2.cell? ⟨pb, 1, none⟩ = some (.int .i64 p2) := HP_1.out.at 1
    have c2 : w2.cell? ⟨pb, 2, none⟩ = some (.int .i64 p3) := HP_1.out.at 2
    have c3 : w2.cell? ⟨pb, 3, none⟩ = some (.int .i64 p4) := HP_1.out.at 3
    have c4 : w2.cell? ⟨pb, 4, none⟩ = some (.slice g1 L gc1) := HP_1.out.at 4
    have c5 : w2.cell? ⟨pb, 5, none⟩ = some (.slice g2 L gc2) := HP_1.out.at 5
    have c6 : w2.cell? ⟨pb, 6, none⟩ = some (.slice g3 L gc3) := HP_1.out.at 6
    have c7 : w2.cell? ⟨pb, 7, none⟩ = some (.slice g4 L gc4) := HP_1.out.at 7
    have y0 : w2.cell? ⟨w.heap.size + 1, 0, none⟩ = some (.int .i64 0) := HZ_1.out.at 0
    have y1 : w2.cell? ⟨w.heap.size + 1, 1, none⟩ = some (.int .i64 0) := HZ_1.out.at 1
    have y2 : w2.cell? ⟨w.heap.size + 1, 2, none⟩ = some (.int .i64 0) := HZ_1.out.at 2
    have y3 : w2.cell? ⟨w.heap.size + 1, 3, none⟩ = some (.int .i64 0) := HZ_1.out.at 3
    have y4 : w2.cell? ⟨w.heap.size + 1, 4, none⟩ = some (.slice none 0 0) := HZ_1.out.at 4
    have y5 : w2.cell? ⟨w.heap.size + 1, 5, none⟩ = some (.slice none 0 0) := HZ_1.out.at 5
    have y6 : w2.cell? ⟨w.heap.size + 1, 6, none⟩ = some (.slice none 0 0) := HZ_1.out.at 6
    have y7 : w2.cell? ⟨w.heap.size + 1, 7, none⟩ = some (.slice none 0 0) := HZ_1.out.at 7
    have f0 : w2.frozen? ⟨w.heap.size + 1, 0, none⟩ = false := HZ_1.out.fr 0
    have f1 : w2.frozen? ⟨w.heap.size + 1, 1, none⟩ = false := HZ_1.out.fr 1
    have f2 : w2.frozen? ⟨w.heap.size + 1, 2, none⟩ = false := HZ_1.out.fr 2
    have f3 : w2.frozen? ⟨w.heap.size + 1, 3, none⟩ = false := HZ_1.out.fr 3
    have f4 : w2.frozen? ⟨w.heap.size + 1, 4, none⟩ = false := HZ_1.out.fr 4
    have f5 : w2.frozen? ⟨w.heap.size + 1, 5, none⟩ = false := HZ_1.out.fr 5
    have f6 : w2.frozen? ⟨w.heap.size + 1, 6, none⟩ = false := HZ_1.out.fr 6
    have f7 : w2.frozen? ⟨w.heap.size + 1, 7, none⟩ = false := HZ_1.out.fr 7
    have r0 : w2.frozen? ⟨pb, 0, none⟩ = false := HP_1.out.fr 0
    have r1 : w2.frozen? ⟨pb, 1, none⟩ = false := HP_1.out.fr 1
    have r2 : w2.frozen? ⟨pb, 2, none⟩ = false := HP_1.out.fr 2
    have r3 : w2.frozen? ⟨pb, 3, none⟩ = false := HP_1.out.fr 3
    have r4 : w2.frozen? ⟨pb, 4, none⟩ = false := HP_1.out.fr 4
    have r5 : w2.frozen? ⟨pb, 5, none⟩ = false := HP_1.out.fr 5
    have r6 : w2.frozen? ⟨pb, 6, none⟩ = false := HP_1.out.fr 6
    have r7 : w2.frozen? ⟨pb, 7, none⟩ = false := HP_1.out.fr 7
    go_wp2
    refine bodyPost_ret (v := .agg #[.int .i64 p1, .int .i64 p2, .int .i64 p3, .int .i64 p4, .slice g1 L gc1, .slice g2 L gc2, .slice g3 L gc3, .slice g4 L gc4]) (by simp [results, Tryz.results55, go_sem, y0, y1, y2, y3, y4, y5, y6, y7]) rfl ⟨_, _, _, _, _, _, _, z1, _, _, _, z2, _, _, _, z3, _, _, _, z4, ⟨rfl, ?_, ?_, ?_, ?_, ⟨by omega, by omega, by omega, by omega⟩, ⟨LW1, LW2, LW3, LW4⟩, ?_, ?_⟩⟩
    · exact (Sees.setS ((Sees.setS ((Sees.setS ((Sees.setS ((Sees.setS ((Sees.setS ((Sees.setS ((Sees.setS (O1_1.out.sees) NZ1)) NZ1)) NZ1)) NZ1)) NZ1)) NZ1)) NZ1)) NZ1)
    · exact (Sees.setS ((Sees.setS ((Sees.setS ((Sees.setS ((Sees.setS ((Sees.setS ((Sees.setS ((Sees.setS (O2_1.out.sees) NZ2)) NZ2)) NZ2)) NZ2)) NZ2)) NZ2)) NZ2)) NZ2)
    · exact (Sees.setS ((Sees.setS ((Sees.setS ((Sees.setS ((Sees.setS ((Sees.setS ((Sees.setS ((Sees.setS (O3_1.out.sees) NZ3)) NZ3)) NZ3)) NZ3)) NZ3)) NZ3)) NZ3)) NZ3)
    · exact (Sees.setS ((Sees.setS ((Sees.setS ((Sees.setS ((Sees.setS ((Sees.setS ((Sees.setS ((Sees.setS (O4_1.out.sees) NZ4)) NZ4)) NZ4)) NZ4)) NZ4)) NZ4)) NZ4)) NZ4)
    · exact (Rd.setS ((Rd.setS ((Rd.setS ((Rd.setS ((Rd.setS ((Rd.setS ((Rd.setS ((Rd.setS (RD_1.out) (by omega) (by omega))) (by omega) (by omega))) (by omega) (by omega))) (by omega) (by omega))) (by omega) (by omega))) (by omega) (by omega))) (by omega) (by omega))) (by omega) (by omega))
    · exact (grown_farS ((grown_farS ((grown_farS ((grown_farS ((grown_farS ((grown_farS ((grown_farS ((grown_farS (GR_1.out) (by omega))) (by omega))) (by omega))) (by omega))) (by omega))) (by omega))) (by omega))) (by omega))
end Go.Proofs.YtbcfjbkmkknmfaaGreatDoor
namespace Go.Proofs.YtbcfjbkmkknmfaaGreatDoor
open Go.RowKit

theorem Sees.tail {w : World} {b o n c : Nat} {z : List Int} (h : Sees w (some ⟨b, o, none⟩) n c z) (h0 : 0 < n) : Sees w (some ⟨b, o + 1, none⟩) (n - 1) (c - 1) (z.drop 1) := by
  obtain ⟨b', o', e, hc⟩ := h.at h0
  simp only [Option.some.injEq, Addr.mk.injEq, and_true] at e
  obtain ⟨rfl, rfl⟩ := e
  have hl := h.len
  have hle := h.le
  have hbg := h.big
  refine ⟨by rw [List.length_drop, hl], by omega, by omega, fun e => ?_, .inr ⟨b, o + 1, rfl, fun i hi => ?_⟩⟩
  · cases e
  · have := hc (i + 1) (by omega)
    rw [List.getD_eq_getElem?_getD, List.getElem?_drop, Nat.add_comm 1 i, ← List.getD_eq_getElem?_getD]
    rw [show o + 1 + i = o + (i + 1) by omega]; exact this
theorem Sees.setP {w : World} {a : Option Addr} {n c b i : Nat} {z : List Int} {v : Value} (h : Sees w a n c z) (hb : n = 0 ∨ ∀ x, a = some x → x.block ≠ b) : Sees (w.setCell ⟨b, i, none⟩ v) a n c z := by
  rcases hb with e | e
  · exact ⟨h.len, h.le, h.big, h.no, .inl e⟩
  · exact h.setS e
theorem Sees.hiP {w : World} {a : Option Addr} {n c : Nat} {z : List Int} (h : Sees w a n c z) : n = 0 ∨ ∀ x, a = some x → x.block ≠ w.heap.size := by
  by_cases h0 : n = 0
  · exact .inl h0
  · obtain ⟨b, o, e, hc⟩ := h.at (by omega)
    have hlt : b < w.heap.size := World.block_lt_of_cell? w ⟨b, o + 0, none⟩ (hc 0 (by omega))
    exact .inr fun x hx e2 => by rw [e] at hx; injection hx with hx; rw [← hx] at e2; simp at e2; omega
/-- what is drawn: some proof -/
def DrPost (w : World) (e : Ending) (w' : World) : Prop := ∃ (s1 s2 e1 e2 : Int) (a1 : Option Addr) (n1 c1 : Nat) (z1 : List Int) (a2 : Option Addr) (n2 c2 : Nat) (z2 : List Int) (a3 : Option Addr) (n3 c3 : Nat) (z3 : List Int) (a4 : Option Addr) (n4 c4 : Nat) (z4 : List Int), e = .returned (.agg #[.int .i64 s1, .int .i64 s2, .int .i64 e1, .int .i64 e2, .slice a1 n1 c1, .slice a2 n2 c2, .slice a3 n3 c3, .slice a4 n4 c4]) ∧ (Sees w' a1 n1 c1 z1 ∧ Sees w' a2 n2 c2 z2 ∧ Sees w' a3 n3 c3 z3 ∧ Sees w' a4 n4 c4 z4) ∧ (n1 ≤ 64 ∧ n2 ≤ 64 ∧ n3 ≤ 64 ∧ n4 ≤ 64) ∧ ((∀ q, a1 = some q → w.heap.size ≤ q.block) ∧ (∀ q, a2 = some q → w.heap.size ≤ q.block) ∧ (∀ q, a3 = some q → w.heap.size ≤ q.block) ∧ (∀ q, a4 = some q → w.heap.size ≤ q.block)) ∧ Below w.heap.size w w'
set_option maxHeartbeats 8000000 in
set_option maxRecDepth 10000 in
theorem drawRowsOf_any {ca : Option Addr} {len cap : Nat} {zs : List Int} (w : World) (hrow : Row .u8 w ca len cap zs) :
    Calls Tryz.prog 65 #[.slice ca len cap] w (DrPost w) := by
  have hbw : Below w.heap.size w (w.alloc (.cells #[.int .i64 0, .int .i64 0, .int .i64 0, .int .i64 0, .slice none 0 0, .slice none 0 0, .slice none 0 0, .slice none 0 0] 34)) := (Below.refl _ _).alloc (Nat.le_refl _) _
  have HRow : Hid (Row .u8 (w.alloc (.cells #[.int .i64 0, .int .i64 0, .int .i64 0, .int .i64 0, .slice none 0 0, .slice none 0 0, .slice none 0 0, .slice none 0 0] 34)) ca len cap zs) := hrow.below2 hbw
  have HBW : Hid (Below w.heap.size w (w.alloc (.cells #[.int .i64 0, .int .i64 0, .int .i64 0, .int .i64 0, .slice none 0 0, .slice none 0 0, .slice none 0 0, .slice none 0 0] 34))) := hbw
  have HZA : Hid (Lies (w.alloc (.cells #[.int .i64 0, .int .i64 0, .int .i64 0, .int .i64 0, .slice none 0 0, .slice none 0 0, .slice none 0 0, .slice none 0 0] 34)) w.heap.size [.int .i64 0, .int .i64 0, .int .i64 0, .int .i64 0, .slice none 0 0, .slice none 0 0, .slice none 0 0, .slice none 0 0]) := lies_new _ _ _
  have hsw : (w.alloc (.cells #[.int .i64 0, .int .i64 0, .int .i64 0, .int .i64 0, .slice none 0 0, .slice none 0 0, .slice none 0 0, .slice none 0 0] 34)).heap.size = w.heap.size + 1 := by simp
  clear hbw hrow
  go_enter Tryz.func65, Tryz.ntmps65
  go_wp2_with fail
  refine (open_any _).mono ?_
  rintro e w1 ⟨rfl, hr1⟩
  rw [hsw]
  rw [hsw] at hr1
  generalize (w.alloc (.cells #[.int .i64 0, .int .i64 0, .int .i64 0, .int .i64 0, .slice none 0 0, .slice none 0 0, .slice none 0 0, .slice none 0 0] 34)) = wb at hr1 HRow HBW HZA hsw
  have hR1 := hr1.hi
  have RD_0 : Hid (Rd wb (w.heap.size + 1) ca len cap w1) := hr1
  clear hr1
  go_wp2_with fail
  refine (machineR_any HRow.out _ RD_0.out).mono ?_
  rintro e w2 ⟨m, rfl, hr, hg⟩
  have RD_1 : Hid (Rd wb (w.heap.size + 1) ca len cap w2) := hr
  clear RD_0
  clear hg hr
  have hR2 : (w.heap.size + 1) < w2.heap.size := RD_1.out.hi
  go_wp2_with fail
  refine (proofR_any HRow.out m _ RD_1.out).mono ?_
  rintro e w4 ⟨s1, s2, e1, e2, a1, n1, c1, z1, a2, n2, c2, z2, a3, n3, c3, z3, a4, n4, c4, z4, ⟨rfl, x1, x2, x3, x4, ⟨l1, l2, l3, l4⟩, ⟨o1, o2, o3, o4⟩, hr, hg⟩⟩
  have RD_2 : Hid (Rd wb (w.heap.size + 1) ca len cap w4) := hr
  clear RD_1
  have S1_2 : Hid (Sees w4 a1 n1 c1 z1) := x1
  have LOS1 : Hid (∀ q, a1 = some q → w2.heap.size ≤ q.block) := o1
  have S2_2 : Hid (Sees w4 a2 n2 c2 z2) := x2
  have LOS2 : Hid (∀ q, a2 = some q → w2.heap.size ≤ q.block) := o2
  have S3_2 : Hid (Sees w4 a3 n3 c3 z3) := x3
  have LOS3 : Hid (∀ q, a3 = some q → w2.heap.size ≤ q.block) := o3
  have S4_2 : Hid (Sees w4 a4 n4 c4 z4) := x4
  have LOS4 : Hid (∀ q, a4 = some q → w2.heap.size ≤ q.block) := o4
  have hs34 := hg.size
  clear hg hr x1 x2 x3 x4 o1 o2 o3 o4
  have NP1 : Hid (n1 = 0 ∨ ∀ x, a1 = some x → x.block ≠ w4.heap.size) := S1_2.out.hiP
  have NP2 : Hid (n2 = 0 ∨ ∀ x, a2 = some x → x.block ≠ w4.heap.size) := S2_2.out.hiP
  have NP3 : Hid (n3 = 0 ∨ ∀ x, a3 = some x → x.block ≠ w4.heap.size) := S3_2.out.hiP
  have NP4 : Hid (n4 = 0 ∨ ∀ x, a4 = some x → x.block ≠ w4.heap.size) := S4_2.out.hiP
  have hba : Below w4.heap.size w4 (w4.alloc (.cells #[.int .i64 s1, .int .i64 s2, .int .i64 e1, .int .i64 e2, .slice a1 n1 c1, .slice a2 n2 c2, .slice a3 n3 c3, .slice a4 n4 c4] 34)) := (Below.refl _ _).alloc (Nat.le_refl _) _
  have RD_3 : Hid (Rd wb (w.heap.size + 1) ca len cap (w4.alloc (.cells #[.int .i64 s1, .int .i64 s2, .int .i64 e1, .int .i64 e2, .slice a1 n1 c1, .slice a2 n2 c2, .slice a3 n3 c3, .slice a4 n4 c4] 34))) := RD_2.out.grow hba
  have S1_3 : Hid (Sees (w4.alloc (.cells #[.int .i64 s1, .int .i64 s2, .int .i64 e1, .int .i64 e2, .slice a1 n1 c1, .slice a2 n2 c2, .slice a3 n3 c3, .slice a4 n4 c4] 34)) a1 n1 c1 z1) := S1_2.out.below hba
  have S2_3 : Hid (Sees (w4.alloc (.cells #[.int .i64 s1, .int .i64 s2, .int .i64 e1, .int .i64 e2, .slice a1 n1 c1, .slice a2 n2 c2, .slice a3 n3 c3, .slice a4 n4 c4] 34)) a2 n2 c2 z2) := S2_2.out.below hba
  have S3_3 : Hid (Sees (w4.alloc (.cells #[.int .i64 s1, .int .i64 s2, .int .i64 e1, .int .i64 e2, .slice a1 n1 c1, .slice a2 n2 c2, .slice a3 n3 c3, .slice a4 n4 c4] 34)) a3 n3 c3 z3) := S3_2.out.below hba
  have S4_3 : Hid (Sees (w4.alloc (.cells #[.int .i64 s1, .int .i64 s2, .int .i64 e1, .int .i64 e2, .slice a1 n1 c1, .slice a2 n2 c2, .slice a3 n3 c3, .slice a4 n4 c4] 34)) a4 n4 c4 z4) := S4_2.out.below hba
  clear RD_2 S1_2 S2_2 S3_2 S4_2
  clear hba
  have HP_3 : Hid (Lies (w4.alloc (.cells #[.int .i64 s1, .int .i64 s2, .int .i64 e1, .int .i64 e2, .slice a1 n1 c1, .slice a2 n2 c2, .slice a3 n3 c3, .slice a4 n4 c4] 34)) w4.heap.size [.int .i64 s1, .int .i64 s2, .int .i64 e1, .int .i64 e2, .slice a1 n1 c1, .slice a2 n2 c2, .slice a3 n3 c3, .slice a4 n4 c4]) := lies_new _ _ _
  go_wp2_with fail
  have hRp : (w.heap.size + 1) < w4.heap.size := by omega
  generalize (w4.alloc (.cells #[.int .i64 s1, .int .i64 s2, .int .i64 e1, .int .i64 e2, .slice a1 n1 c1, .slice a2 n2 c2, .slice a3 n3 c3, .slice a4 n4 c4] 34)) = w5 at RD_3 S1_3 S2_3 S3_3 S4_3 HP_3  ⊢
  generalize w4.heap.size = pb at HP_3 hRp NP1 NP2 NP3 NP4 ⊢
  refine (once_any HRow.out 6 (by decide) (by decide) _ RD_3.out).mono ?_
  rintro e w6 ⟨ob, rfl, hr, hg⟩
  have RD_4 : Hid (Rd wb (w.heap.size + 1) ca len cap w6) := hr
  have S1_4 : Hid (Sees w6 a1 n1 c1 z1) := S1_3.out.grownR hg (fun q hq e => by have := LOS1.out q hq; injection e with e; omega)
  have S2_4 : Hid (Sees w6 a2 n2 c2 z2) := S2_3.out.grownR hg (fun q hq e => by have := LOS2.out q hq; injection e with e; omega)
  have S3_4 : Hid (Sees w6 a3 n3 c3 z3) := S3_3.out.grownR hg (fun q hq e => by have := LOS3.out q hq; injection e with e; omega)
  have S4_4 : Hid (Sees w6 a4 n4 c4 z4) := S4_3.out.grownR hg (fun q hq e => by have := LOS4.out q hq; injection e with e; omega)
  have HP_4 : Hid (Lies w6 pb [.int .i64 s1, .int .i64 s2, .int .i64 e1, .int .i64 e2, .slice a1 n1 c1, .slice a2 n2 c2, .slice a3 n3 c3, .slice a4 n4 c4]) := HP_3.out.grown hg (by simp; omega)
  clear RD_3 S1_3 S2_3 S3_3 S4_3 HP_3
  clear hg hr
  have NL1 : ∀ q, a1 = some q → w.heap.size ≤ q.block := fun q hq => by have := LOS1.out q hq; omega
  have NL2 : ∀ q, a2 = some q → w.heap.size ≤ q.block := fun q hq => by have := LOS2.out q hq; omega
  have NL3 : ∀ q, a3 = some q → w.heap.size ≤ q.block := fun q hq => by have := LOS3.out q hq; omega
  have NL4 : ∀ q, a4 = some q → w.heap.size ≤ q.block := fun q hq => by have := LOS4.out q hq; omega
  have NA1 : ∀ q, a1 = some q → q.block ≠ w.heap.size := fun q hq => by have := LOS1.out q hq; omega
  have NA2 : ∀ q, a2 = some q → q.block ≠ w.heap.size := fun q hq => by have := LOS2.out q hq; omega
  have NA3 : ∀ q, a3 = some q → q.block ≠ w.heap.size := fun q hq => by have := LOS3.out q hq; omega
  have NA4 : ∀ q, a4 = some q → q.block ≠ w.heap.size := fun q hq => by have := LOS4.out q hq; omega
  have HB_e : Hid (Below w.heap.size w w6) := HBW.out.trans (RD_4.out.below.mono HBW.out.size)
  have HZ_e : Hid (Lies w6 w.heap.size [.int .i64 0, .int .i64 0, .int .i64 0, .int .i64 0, .slice none 0 0, .slice none 0 0, .slice none 0 0, .slice none 0 0]) := HZA.out.belowS RD_4.out.below
  cases ob with
  | false =>
    go_wp2_with (with_reducible refine wpList_stop 23 ?_ ?_; rfl)
    show wpList _ _ _ _ _ _
    have iL : (Tryz.prog.info? 34).map (·.size) = some ([.int .i64 s1, .int .i64 s2, .int .i64 e1, .int .i64 e2, .slice a1 n1 c1, .slice a2 n2 c2, .slice a3 n3 c3, .slice a4 n4 c4] : List Value).length := (show (Tryz.prog.info? 34).map (·.size) = some 8 by kernel_rfl)
    with_reducible refine wpList_load_mid ?qg 34 ?ql ?qo pb 0 ?qhx [.int .i64 s1, .int .i64 s2, .int .i64 e1, .int .i64 e2, .slice a1 n1 c1, .slice a2 n2 c2, .slice a3 n3 c3, .slice a4 n4 c4] _ HP_4.out.row Tryz.underlying34 ?qd iL ?qr
    case qg => exact rfl
    case qo => exact rfl
    case qhx => exact rfl
    case qd => exact rfl
    case qr =>
      clear iL
      show wpList _ _ _ _ _ _
      have tA : w6.there w.heap.size 0 ([.int .i64 s1, .int .i64 s2, .int .i64 e1, .int .i64 e2, .slice a1 n1 c1, .slice a2 n2 c2, .slice a3 n3 c3, .slice a4 n4 c4] : List Value).toArray.size := HZ_e.out.there _ 8 (by simp)
      have iA : (Tryz.prog.info? 34).map (·.size) = some ([.int .i64 s1, .int .i64 s2, .int .i64 e1, .int .i64 e2, .slice a1 n1 c1, .slice a2 n2 c2, .slice a3 n3 c3, .slice a4 n4 c4] : List Value).toArray.size := (show (Tryz.prog.info? 34).map (·.size) = some 8 by kernel_rfl)
      with_reducible refine wpList_store_mid ?qg 34 ?qx ?qy ?qo w.heap.size 0 ([.int .i64 s1, .int .i64 s2, .int .i64 e1, .int .i64 e2, .slice a1 n1 c1, .slice a2 n2 c2, .slice a3 n3 c3, .slice a4 n4 c4] : List Value).toArray ?qhx ?qhy tA iA (by kernel_rfl) ?qr
      case qg => exact rfl
      case qo => exact rfl
      case qhx => exact rfl
      case qhy => exact rfl
      case qr =>
        show wpList _ _ _ _ _ (w6.setCells w.heap.size 0 [.int .i64 s1, .int .i64 s2, .int .i64 e1, .int .i64 e2, .slice a1 n1 c1, .slice a2 n2 c2, .slice a3 n3 c3, .slice a4 n4 c4])
        clear tA iA
        have LZ : Hid (Lies (w6.setCells w.heap.size 0 [.int .i64 s1, .int .i64 s2, .int .i64 e1, .int .i64 e2, .slice a1 n1 c1, .slice a2 n2 c2, .slice a3 n3 c3, .slice a4 n4 c4]) w.heap.size [.int .i64 s1, .int .i64 s2, .int .i64 e1, .int .i64 e2, .slice a1 n1 c1, .slice a2 n2 c2, .slice a3 n3 c3, .slice a4 n4 c4]) := HZ_e.out.setCells [.int .i64 s1, .int .i64 s2, .int .i64 e1, .int .i64 e2, .slice a1 n1 c1, .slice a2 n2 c2, .slice a3 n3 c3, .slice a4 n4 c4] 0 (by simp)
        have LB : Hid (Below w.heap.size w (w6.setCells w.heap.size 0 [.int .i64 s1, .int .i64 s2, .int .i64 e1, .int .i64 e2, .slice a1 n1 c1, .slice a2 n2 c2, .slice a3 n3 c3, .slice a4 n4 c4])) := below_setCells _ _ HB_e.out (Nat.le_refl _)
        have U1 : Hid (Sees (w6.setCells w.heap.size 0 [.int .i64 s1, .int .i64 s2, .int .i64 e1, .int .i64 e2, .slice a1 n1 c1, .slice a2 n2 c2, .slice a3 n3 c3, .slice a4 n4 c4]) a1 n1 c1 z1) := S1_4.out.grownR (grown_cells (World.grownBy.refl _ _) 0 _) (fun q hq e => NA1 q hq (Option.some.inj e).symm)
        have U2 : Hid (Sees (w6.setCells w.heap.size 0 [.int .i64 s1, .int .i64 s2, .int .i64 e1, .int .i64 e2, .slice a1 n1 c1, .slice a2 n2 c2, .slice a3 n3 c3, .slice a4 n4 c4]) a2 n2 c2 z2) := S2_4.out.grownR (grown_cells (World.grownBy.refl _ _) 0 _) (fun q hq e => NA2 q hq (Option.some.inj e).symm)
        have U3 : Hid (Sees (w6.setCells w.heap.size 0 [.int .i64 s1, .int .i64 s2, .int .i64 e1, .int .i64 e2, .slice a1 n1 c1, .slice a2 n2 c2, .slice a3 n3 c3, .slice a4 n4 c4]) a3 n3 c3 z3) := S3_4.out.grownR (grown_cells (World.grownBy.refl _ _) 0 _) (fun q hq e => NA3 q hq (Option.some.inj e).symm)
        have U4 : Hid (Sees (w6.setCells w.heap.size 0 [.int .i64 s1, .int .i64 s2, .int .i64 e1, .int .i64 e2, .slice a1 n1 c1, .slice a2 n2 c2, .slice a3 n3 c3, .slice a4 n4 c4]) a4 n4 c4 z4) := S4_4.out.grownR (grown_cells (World.grownBy.refl _ _) 0 _) (fun q hq e => NA4 q hq (Option.some.inj e).symm)
        generalize (w6.setCells w.heap.size 0 [.int .i64 s1, .int .i64 s2, .int .i64 e1, .int .i64 e2, .slice a1 n1 c1, .slice a2 n2 c2, .slice a3 n3 c3, .slice a4 n4 c4]) = wz at LZ LB U1 U2 U3 U4 ⊢
        go_wp2
        exact bodyPost_ret (results_cell rfl rfl (run_loadVar_mid wz w.heap.size 0 34 _ _ LZ.out.row Tryz.underlying34 rfl (by kernel_rfl))) rfl (by unfold DrPost; exact ⟨s1, s2, e1, e2, a1, n1, c1, z1, a2, n2, c2, z2, a3, n3, c3, z3, a4, n4, c4, z4, rfl, ⟨U1.out, U2.out, U3.out, U4.out⟩, ⟨by omega, by omega, by omega, by omega⟩, ⟨NL1, NL2, NL3, NL4⟩, LB.out⟩)
  | true =>
    have x5 : w6.cell? ⟨pb, 5, none⟩ = some (.slice a2 n2 c2) := HP_4.out.at 5
    have l2I : (n2 : Int) ≤ 64 := by omega
    by_cases h0 : n2 = 0
    · have h0J : ((n2 : Int) > 0) = False := by simp; omega
      have h0I : ¬ (0 : Int) < (n2 : Int) := by omega
      clear h0J
      go_wp2_with (with_reducible refine wpList_stop 23 ?_ ?_; rfl)
      show wpList _ _ _ _ _ _
      have iL : (Tryz.prog.info? 34).map (·.size) = some ([.int .i64 s1, .int .i64 s2, .int .i64 e1, .int .i64 e2, .slice a1 n1 c1, .slice a2 n2 c2, .slice a3 n3 c3, .slice a4 n4 c4] : List Value).length := (show (Tryz.prog.info? 34).map (·.size) = some 8 by kernel_rfl)
      with_reducible refine wpList_load_mid ?qg 34 ?ql ?qo pb 0 ?qhx [.int .i64 s1, .int .i64 s2, .int .i64 e1, .int .i64 e2, .slice a1 n1 c1, .slice a2 n2 c2, .slice a3 n3 c3, .slice a4 n4 c4] _ HP_4.out.row Tryz.underlying34 ?qd iL ?qr
      case qg => exact rfl
      case qo => exact rfl
      case qhx => exact rfl
      case qd => exact rfl
      case qr =>
        clear iL
        show wpList _ _ _ _ _ _
        have tA : w6.there w.heap.size 0 ([.int .i64 s1, .int .i64 s2, .int .i64 e1, .int .i64 e2, .slice a1 n1 c1, .slice a2 n2 c2, .slice a3 n3 c3, .slice a4 n4 c4] : List Value).toArray.size := HZ_e.out.there _ 8 (by simp)
        have iA : (Tryz.prog.info? 34).map (·.size) = some ([.int .i64 s1, .int .i64 s2, .int .i64 e1, .int .i64 e2, .slice a1 n1 c1, .slice a2 n2 c2, .slice a3 n3 c3, .slice a4 n4 c4] : List Value).toArray.size := (show (Tryz.prog.info? 34).map (·.size) = some 8 by kernel_rfl)
        with_reducible refine wpList_store_mid ?qg 34 ?qx ?qy ?qo w.heap.size 0 ([.int .i64 s1, .int .i64 s2, .int .i64 e1, .int .i64 e2, .slice a1 n1 c1, .slice a2 n2 c2, .slice a3 n3 c3, .slice a4 n4 c4] : List Value).toArray ?qhx ?qhy tA iA (by kernel_rfl) ?qr
        case qg => exact rfl
        case qo => exact rfl
        case qhx => exact rfl
        case qhy => exact rfl
        case qr =>
          show wpList _ _ _ _ _ (w6.setCells w.heap.size 0 [.int .i64 s1, .int .i64 s2, .int .i64 e1, .int .i64 e2, .slice a1 n1 c1, .slice a2 n2 c2, .slice a3 n3 c3, .slice a4 n4 c4])
          clear tA iA
          have LZ : Hid (Lies (w6.setCells w.heap.size 0 [.int .i64 s1, .int .i64 s2, .int .i64 e1, .int .i64 e2, .slice a1 n1 c1, .slice a2 n2 c2, .slice a3 n3 c3, .slice a4 n4 c4]) w.heap.size [.int .i64 s1, .int .i64 s2, .int .i64 e1, .int .i64 e2, .slice a1 n1 c1, .slice a2 n2 c2, .slice a3 n3 c3, .slice a4 n4 c4]) := HZ_e.out.setCells [.int .i64 s1, .int .i64 s2, .int .i64 e1, .int .i64 e2, .slice a1 n1 c1, .slice a2 n2 c2, .slice a3 n3 c3, .slice a4 n4 c4] 0 (by simp)
          have LB : Hid (Below w.heap.size w (w6.setCells w.heap.size 0 [.int .i64 s1, .int .i64 s2, .int .i64 e1, .int .i64 e2, .slice a1 n1 c1, .slice a2 n2 c2, .slice a3 n3 c3, .slice a4 n4 c4])) := below_setCells _ _ HB_e.out (Nat.le_refl _)
          have U1 : Hid (Sees (w6.setCells w.heap.size 0 [.int .i64 s1, .int .i64 s2, .int .i64 e1, .int .i64 e2, .slice a1 n1 c1, .slice a2 n2 c2, .slice a3 n3 c3, .slice a4 n4 c4]) a1 n1 c1 z1) := S1_4.out.grownR (grown_cells (World.grownBy.refl _ _) 0 _) (fun q hq e => NA1 q hq (Option.some.inj e).symm)
          have U2 : Hid (Sees (w6.setCells w.heap.size 0 [.int .i64 s1, .int .i64 s2, .int .i64 e1, .int .i64 e2, .slice a1 n1 c1, .slice a2 n2 c2, .slice a3 n3 c3, .slice a4 n4 c4]) a2 n2 c2 z2) := S2_4.out.grownR (grown_cells (World.grownBy.refl _ _) 0 _) (fun q hq e => NA2 q hq (Option.some.inj e).symm)
          have U3 : Hid (Sees (w6.setCells w.heap.size 0 [.int .i64 s1, .int .i64 s2, .int .i64 e1, .int .i64 e2, .slice a1 n1 c1, .slice a2 n2 c2, .slice a3 n3 c3, .slice a4 n4 c4]) a3 n3 c3 z3) := S3_4.out.grownR (grown_cells (World.grownBy.refl _ _) 0 _) (fun q hq e => NA3 q hq (Option.some.inj e).symm)
          have U4 : Hid (Sees (w6.setCells w.heap.size 0 [.int .i64 s1, .int .i64 s2, .int .i64 e1, .int .i64 e2, .slice a1 n1 c1, .slice a2 n2 c2, .slice a3 n3 c3, .slice a4 n4 c4]) a4 n4 c4 z4) := S4_4.out.grownR (grown_cells (World.grownBy.refl _ _) 0 _) (fun q hq e => NA4 q hq (Option.some.inj e).symm)
          generalize (w6.setCells w.heap.size 0 [.int .i64 s1, .int .i64 s2, .int .i64 e1, .int .i64 e2, .slice a1 n1 c1, .slice a2 n2 c2, .slice a3 n3 c3, .slice a4 n4 c4]) = wz at LZ LB U1 U2 U3 U4 ⊢
          go_wp2
          exact bodyPost_ret (results_cell rfl rfl (run_loadVar_mid wz w.heap.size 0 34 _ _ LZ.out.row Tryz.underlying34 rfl (by kernel_rfl))) rfl (by unfold DrPost; exact ⟨s1, s2, e1, e2, a1, n1, c1, z1, a2, n2, c2, z2, a3, n3, c3, z3, a4, n4, c4, z4, rfl, ⟨U1.out, U2.out, U3.out, U4.out⟩, ⟨by omega, by omega, by omega, by omega⟩, ⟨NL1, NL2, NL3, NL4⟩, LB.out⟩)
    obtain ⟨b2, o2, rfl, _⟩ := S2_4.out.at (by omega)
    have hle2 := S2_4.out.le
    have hbg2 := S2_4.out.big
    have hleI : (n2 : Int) ≤ (c2 : Int) := by omega
    have h1I : (1 : Int) ≤ (n2 : Int) := by omega
    have h0I : (0 : Int) < (n2 : Int) := by omega
    have h1n : 1 ≤ n2 := by omega
    have h1c : 1 ≤ c2 := by omega
    have f5 : w6.frozen? ⟨pb, 5, none⟩ = false := HP_4.out.fr 5
    by_cases hc2 : c2 = 1
    · subst hc2
      obtain rfl : n2 = 1 := by omega
      go_wp2_with (with_reducible refine wpList_stop 23 ?_ ?_; rfl)
      have HP_x : Hid (Lies (w6.setCell ⟨pb, 5, none⟩ (.slice (some ⟨b2, o2, none⟩) (1 - 1) 0)) pb [.int .i64 s1, .int .i64 s2, .int .i64 e1, .int .i64 e2, .slice a1 n1 c1, .slice (some ⟨b2, o2, none⟩) (1 - 1) 0, .slice a3 n3 c3, .slice a4 n4 c4]) := HP_4.out.set 5 (by simp) _
      have HZ_x : Hid (Lies (w6.setCell ⟨pb, 5, none⟩ (.slice (some ⟨b2, o2, none⟩) (1 - 1) 0)) w.heap.size [.int .i64 0, .int .i64 0, .int .i64 0, .int .i64 0, .slice none 0 0, .slice none 0 0, .slice none 0 0, .slice none 0 0]) := HZ_e.out.far (by omega) _ _
      have HB_x : Hid (Below w.heap.size w (w6.setCell ⟨pb, 5, none⟩ (.slice (some ⟨b2, o2, none⟩) (1 - 1) 0))) := HB_e.out.setCell (by show w.heap.size ≤ pb; omega) _
      have S1_x : Hid (Sees (w6.setCell ⟨pb, 5, none⟩ (.slice (some ⟨b2, o2, none⟩) (1 - 1) 0)) a1 n1 c1 z1) := S1_4.out.setP NP1.out
      have S3_x : Hid (Sees (w6.setCell ⟨pb, 5, none⟩ (.slice (some ⟨b2, o2, none⟩) (1 - 1) 0)) a3 n3 c3 z3) := S3_4.out.setP NP3.out
      have S4_x : Hid (Sees (w6.setCell ⟨pb, 5, none⟩ (.slice (some ⟨b2, o2, none⟩) (1 - 1) 0)) a4 n4 c4 z4) := S4_4.out.setP NP4.out
      have S2_x : Hid (Sees (w6.setCell ⟨pb, 5, none⟩ (.slice (some ⟨b2, o2, none⟩) (1 - 1) 0)) (some ⟨b2, o2, none⟩) (1 - 1) 0 []) := ⟨rfl, Nat.le_refl _, by omega, (fun e => by cases e), .inl rfl⟩
      have NB2 : ∀ q : Addr, ((some ⟨b2, o2, none⟩) : Option Addr) = some q → q.block ≠ w.heap.size := fun q hq => by injection hq with hq; rw [← hq]; exact NA2 ⟨b2, o2, none⟩ rfl
      have NLB : ∀ q : Addr, ((some ⟨b2, o2, none⟩) : Option Addr) = some q → w.heap.size ≤ q.block := fun q hq => by injection hq with hq; rw [← hq]; exact NL2 ⟨b2, o2, none⟩ rfl
      generalize (w6.setCell ⟨pb, 5, none⟩ (.slice (some ⟨b2, o2, none⟩) (1 - 1) 0)) = wx at HP_x HZ_x HB_x S1_x S2_x S3_x S4_x ⊢
      show wpList _ _ _ _ _ _
      have iL : (Tryz.prog.info? 34).map (·.size) = some ([.int .i64 s1, .int .i64 s2, .int .i64 e1, .int .i64 e2, .slice a1 n1 c1, .slice (some ⟨b2, o2, none⟩) (1 - 1) 0, .slice a3 n3 c3, .slice a4 n4 c4] : List Value).length := (show (Tryz.prog.info? 34).map (·.size) = some 8 by kernel_rfl)
      with_reducible refine wpList_load_mid ?qg 34 ?ql ?qo pb 0 ?qhx [.int .i64 s1, .int .i64 s2, .int .i64 e1, .int .i64 e2, .slice a1 n1 c1, .slice (some ⟨b2, o2, none⟩) (1 - 1) 0, .slice a3 n3 c3, .slice a4 n4 c4] _ HP_x.out.row Tryz.underlying34 ?qd iL ?qr
      case qg => exact rfl
      case qo => exact rfl
      case qhx => exact rfl
      case qd => exact rfl
      case qr =>
        clear iL
        show wpList _ _ _ _ _ _
        have tA : wx.there w.heap.size 0 ([.int .i64 s1, .int .i64 s2, .int .i64 e1, .int .i64 e2, .slice a1 n1 c1, .slice (some ⟨b2, o2, none⟩) (1 - 1) 0, .slice a3 n3 c3, .slice a4 n4 c4] : List Value).toArray.size := HZ_x.out.there _ 8 (by simp)
        have iA : (Tryz.prog.info? 34).map (·.size) = some ([.int .i64 s1, .int .i64 s2, .int .i64 e1, .int .i64 e2, .slice a1 n1 c1, .slice (some ⟨b2, o2, none⟩) (1 - 1) 0, .slice a3 n3 c3, .slice a4 n4 c4] : List Value).toArray.size := (show (Tryz.prog.info? 34).map (·.size) = some 8 by kernel_rfl)
        with_reducible refine wpList_store_mid ?qg 34 ?qx ?qy ?qo w.heap.size 0 ([.int .i64 s1, .int .i64 s2, .int .i64 e1, .int .i64 e2, .slice a1 n1 c1, .slice (some ⟨b2, o2, none⟩) (1 - 1) 0, .slice a3 n3 c3, .slice a4 n4 c4] : List Value).toArray ?qhx ?qhy tA iA (by kernel_rfl) ?qr
        case qg => exact rfl
        case qo => exact rfl
        case qhx => exact rfl
        case qhy => exact rfl
        case qr =>
          show wpList _ _ _ _ _ (wx.setCells w.heap.size 0 [.int .i64 s1, .int .i64 s2, .int .i64 e1, .int .i64 e2, .slice a1 n1 c1, .slice (some ⟨b2, o2, none⟩) (1 - 1) 0, .slice a3 n3 c3, .slice a4 n4 c4])
          clear tA iA
          have LZ : Hid (Lies (wx.setCells w.heap.size 0 [.int .i64 s1, .int .i64 s2, .int .i64 e1, .int .i64 e2, .slice a1 n1 c1, .slice (some ⟨b2, o2, none⟩) (1 - 1) 0, .slice a3 n3 c3, .slice a4 n4 c4]) w.heap.size [.int .i64 s1, .int .i64 s2, .int .i64 e1, .int .i64 e2, .slice a1 n1 c1, .slice (some ⟨b2, o2, none⟩) (1 - 1) 0, .slice a3 n3 c3, .slice a4 n4 c4]) := HZ_x.out.setCells [.int .i64 s1, .int .i64 s2, .int .i64 e1, .int .i64 e2, .slice a1 n1 c1, .slice (some ⟨b2, o2, none⟩) (1 - 1) 0, .slice a3 n3 c3, .slice a4 n4 c4] 0 (by simp)
          have LB : Hid (Below w.heap.size w (wx.setCells w.heap.size 0 [.int .i64 s1, .int .i64 s2, .int .i64 e1, .int .i64 e2, .slice a1 n1 c1, .slice (some ⟨b2, o2, none⟩) (1 - 1) 0, .slice a3 n3 c3, .slice a4 n4 c4])) := below_setCells _ _ HB_x.out (Nat.le_refl _)
          have U1 : Hid (Sees (wx.setCells w.heap.size 0 [.int .i64 s1, .int .i64 s2, .int .i64 e1, .int .i64 e2, .slice a1 n1 c1, .slice (some ⟨b2, o2, none⟩) (1 - 1) 0, .slice a3 n3 c3, .slice a4 n4 c4]) a1 n1 c1 z1) := S1_x.out.grownR (grown_cells (World.grownBy.refl _ _) 0 _) (fun q hq e => NA1 q hq (Option.some.inj e).symm)
          have U2 : Hid (Sees (wx.setCells w.heap.size 0 [.int .i64 s1, .int .i64 s2, .int .i64 e1, .int .i64 e2, .slice a1 n1 c1, .slice (some ⟨b2, o2, none⟩) (1 - 1) 0, .slice a3 n3 c3, .slice a4 n4 c4]) (some ⟨b2, o2, none⟩) (1 - 1) 0 []) := S2_x.out.grownR (grown_cells (World.grownBy.refl _ _) 0 _) (fun q hq e => NB2 q hq (Option.some.inj e).symm)
          have U3 : Hid (Sees (wx.setCells w.heap.size 0 [.int .i64 s1, .int .i64 s2, .int .i64 e1, .int .i64 e2, .slice a1 n1 c1, .slice (some ⟨b2, o2, none⟩) (1 - 1) 0, .slice a3 n3 c3, .slice a4 n4 c4]) a3 n3 c3 z3) := S3_x.out.grownR (grown_cells (World.grownBy.refl _ _) 0 _) (fun q hq e => NA3 q hq (Option.some.inj e).symm)
          have U4 : Hid (Sees (wx.setCells w.heap.size 0 [.int .i64 s1, .int .i64 s2, .int .i64 e1, .int .i64 e2, .slice a1 n1 c1, .slice (some ⟨b2, o2, none⟩) (1 - 1) 0, .slice a3 n3 c3, .slice a4 n4 c4]) a4 n4 c4 z4) := S4_x.out.grownR (grown_cells (World.grownBy.refl _ _) 0 _) (fun q hq e => NA4 q hq (Option.some.inj e).symm)
          generalize (wx.setCells w.heap.size 0 [.int .i64 s1, .int .i64 s2, .int .i64 e1, .int .i64 e2, .slice a1 n1 c1, .slice (some ⟨b2, o2, none⟩) (1 - 1) 0, .slice a3 n3 c3, .slice a4 n4 c4]) = wz at LZ LB U1 U2 U3 U4 ⊢
          go_wp2
          exact bodyPost_ret (results_cell rfl rfl (run_loadVar_mid wz w.heap.size 0 34 _ _ LZ.out.row Tryz.underlying34 rfl (by kernel_rfl))) rfl (by unfold DrPost; exact ⟨s1, s2, e1, e2, a1, n1, c1, z1, (some ⟨b2, o2, none⟩), (1 - 1), 0, [], a3, n3, c3, z3, a4, n4, c4, z4, rfl, ⟨U1.out, U2.out, U3.out, U4.out⟩, ⟨by omega, by omega, by omega, by omega⟩, ⟨NL1, NLB, NL3, NL4⟩, LB.out⟩)
    · skip
      go_wp2_with (with_reducible refine wpList_stop 23 ?_ ?_; rfl)
      have HP_x : Hid (Lies (w6.setCell ⟨pb, 5, none⟩ (.slice (some ⟨b2, o2 + 1, none⟩) (n2 - 1) (c2 - 1))) pb [.int .i64 s1, .int .i64 s2, .int .i64 e1, .int .i64 e2, .slice a1 n1 c1, .slice (some ⟨b2, o2 + 1, none⟩) (n2 - 1) (c2 - 1), .slice a3 n3 c3, .slice a4 n4 c4]) := HP_4.out.set 5 (by simp) _
      have HZ_x : Hid (Lies (w6.setCell ⟨pb, 5, none⟩ (.slice (some ⟨b2, o2 + 1, none⟩) (n2 - 1) (c2 - 1))) w.heap.size [.int .i64 0, .int .i64 0, .int .i64 0, .int .i64 0, .slice none 0 0, .slice none 0 0, .slice none 0 0, .slice none 0 0]) := HZ_e.out.far (by omega) _ _
      have HB_x : Hid (Below w.heap.size w (w6.setCell ⟨pb, 5, none⟩ (.slice (some ⟨b2, o2 + 1, none⟩) (n2 - 1) (c2 - 1)))) := HB_e.out.setCell (by show w.heap.size ≤ pb; omega) _
      have S1_x : Hid (Sees (w6.setCell ⟨pb, 5, none⟩ (.slice (some ⟨b2, o2 + 1, none⟩) (n2 - 1) (c2 - 1))) a1 n1 c1 z1) := S1_4.out.setP NP1.out
      have S3_x : Hid (Sees (w6.setCell ⟨pb, 5, none⟩ (.slice (some ⟨b2, o2 + 1, none⟩) (n2 - 1) (c2 - 1))) a3 n3 c3 z3) := S3_4.out.setP NP3.out
      have S4_x : Hid (Sees (w6.setCell ⟨pb, 5, none⟩ (.slice (some ⟨b2, o2 + 1, none⟩) (n2 - 1) (c2 - 1))) a4 n4 c4 z4) := S4_4.out.setP NP4.out
      have S2_x : Hid (Sees (w6.setCell ⟨pb, 5, none⟩ (.slice (some ⟨b2, o2 + 1, none⟩) (n2 - 1) (c2 - 1))) (some ⟨b2, o2 + 1, none⟩) (n2 - 1) (c2 - 1) (z2.drop 1)) := (S2_4.out.tail (by omega)).setP (.inr fun q hq => by injection hq with hq; rw [← hq]; exact NP2.out.elim (fun e => absurd e (by omega)) (fun e => e ⟨b2, o2, none⟩ rfl))
      have NB2 : ∀ q : Addr, ((some ⟨b2, o2 + 1, none⟩) : Option Addr) = some q → q.block ≠ w.heap.size := fun q hq => by injection hq with hq; rw [← hq]; exact NA2 ⟨b2, o2, none⟩ rfl
      have NLB : ∀ q : Addr, ((some ⟨b2, o2 + 1, none⟩) : Option Addr) = some q → w.heap.size ≤ q.block := fun q hq => by injection hq with hq; rw [← hq]; exact NL2 ⟨b2, o2, none⟩ rfl
      generalize (w6.setCell ⟨pb, 5, none⟩ (.slice (some ⟨b2, o2 + 1, none⟩) (n2 - 1) (c2 - 1))) = wx at HP_x HZ_x HB_x S1_x S2_x S3_x S4_x ⊢
      show wpList _ _ _ _ _ _
      have iL : (Tryz.prog.info? 34).map (·.size) = some ([.int .i64 s1, .int .i64 s2, .int .i64 e1, .int .i64 e2, .slice a1 n1 c1, .slice (some ⟨b2, o2 + 1, none⟩) (n2 - 1) (c2 - 1), .slice a3 n3 c3, .slice a4 n4 c4] : List Value).length := (show (Tryz.prog.info? 34).map (·.size) = some 8 by kernel_rfl)
      with_reducible refine wpList_load_mid ?qg 34 ?ql ?qo pb 0 ?qhx [.int .i64 s1, .int .i64 s2, .int .i64 e1, .int .i64 e2, .slice a1 n1 c1, .slice (some ⟨b2, o2 + 1, none⟩) (n2 - 1) (c2 - 1), .slice a3 n3 c3, .slice a4 n4 c4] _ HP_x.out.row Tryz.underlying34 ?qd iL ?qr
      case qg => exact rfl
      case qo => exact rfl
      case qhx => exact rfl
      case qd => exact rfl
      case qr =>
        clear iL
        show wpList _ _ _ _ _ _
        have tA : wx.there w.heap.size 0 ([.int .i64 s1, .int .i64 s2, .int .i64 e1, .int .i64 e2, .slice a1 n1 c1, .slice (some ⟨b2, o2 + 1, none⟩) (n2 - 1) (c2 - 1), .slice a3 n3 c3, .slice a4 n4 c4] : List Value).toArray.size := HZ_x.out.there _ 8 (by simp)
        have iA : (Tryz.prog.info? 34).map (·.size) = some ([.int .i64 s1, .int .i64 s2, .int .i64 e1, .int .i64 e2, .slice a1 n1 c1, .slice (some ⟨b2, o2 + 1, none⟩) (n2 - 1) (c2 - 1), .slice a3 n3 c3, .slice a4 n4 c4] : List Value).toArray.size := (show (Tryz.prog.info? 34).map (·.size) = some 8 by kernel_rfl)
        with_reducible refine wpList_store_mid ?qg 34 ?qx ?qy ?qo w.heap.size 0 ([.int .i64 s1, .int .i64 s2, .int .i64 e1, .int .i64 e2, .slice a1 n1 c1, .slice (some ⟨b2, o2 + 1, none⟩) (n2 - 1) (c2 - 1), .slice a3 n3 c3, .slice a4 n4 c4] : List Value).toArray ?qhx ?qhy tA iA (by kernel_rfl) ?qr
        case qg => exact rfl
        case qo => exact rfl
        case qhx => exact rfl
        case qhy => exact rfl
        case qr =>
          show wpList _ _ _ _ _ (wx.setCells w.heap.size 0 [.int .i64 s1, .int .i64 s2, .int .i64 e1, .int .i64 e2, .slice a1 n1 c1, .slice (some ⟨b2, o2 + 1, none⟩) (n2 - 1) (c2 - 1), .slice a3 n3 c3, .slice a4 n4 c4])
          clear tA iA
          have LZ : Hid (Lies (wx.setCells w.heap.size 0 [.int .i64 s1, .int .i64 s2, .int .i64 e1, .int .i64 e2, .slice a1 n1 c1, .slice (some ⟨b2, o2 + 1, none⟩) (n2 - 1) (c2 - 1), .slice a3 n3 c3, .slice a4 n4 c4]) w.heap.size [.int .i64 s1, .int .i64 s2, .int .i64 e1, .int .i64 e2, .slice a1 n1 c1, .slice (some ⟨b2, o2 + 1, none⟩) (n2 - 1) (c2 - 1), .slice a3 n3 c3, .slice a4 n4 c4]) := HZ_x.out.setCells [.int .i64 s1, .int .i64 s2, .int .i64 e1, .int .i64 e2, .slice a1 n1 c1, .slice (some ⟨b2, o2 + 1, none⟩) (n2 - 1) (c2 - 1), .slice a3 n3 c3, .slice a4 n4 c4] 0 (by simp)
          have LB : Hid (Below w.heap.size w (wx.setCells w.heap.size 0 [.int .i64 s1, .int .i64 s2, .int .i64 e1, .int .i64 e2, .slice a1 n1 c1, .slice (some ⟨b2, o2 + 1, none⟩) (n2 - 1) (c2 - 1), .slice a3 n3 c3, .slice a4 n4 c4])) := below_setCells _ _ HB_x.out (Nat.le_refl _)
          have U1 : Hid (Sees (wx.setCells w.heap.size 0 [.int .i64 s1, .int .i64 s2, .int .i64 e1, .int .i64 e2, .slice a1 n1 c1, .slice (some ⟨b2, o2 + 1, none⟩) (n2 - 1) (c2 - 1), .slice a3 n3 c3, .slice a4 n4 c4]) a1 n1 c1 z1) := S1_x.out.grownR (grown_cells (World.grownBy.refl _ _) 0 _) (fun q hq e => NA1 q hq (Option.some.inj e).symm)
          have U2 : Hid (Sees (wx.setCells w.heap.size 0 [.int .i64 s1, .int .i64 s2, .int .i64 e1, .int .i64 e2, .slice a1 n1 c1, .slice (some ⟨b2, o2 + 1, none⟩) (n2 - 1) (c2 - 1), .slice a3 n3 c3, .slice a4 n4 c4]) (some ⟨b2, o2 + 1, none⟩) (n2 - 1) (c2 - 1) (z2.drop 1)) := S2_x.out.grownR (grown_cells (World.grownBy.refl _ _) 0 _) (fun q hq e => NB2 q hq (Option.some.inj e).symm)
          have U3 : Hid (Sees (wx.setCells w.heap.size 0 [.int .i64 s1, .int .i64 s2, .int .i64 e1, .int .i64 e2, .slice a1 n1 c1, .slice (some ⟨b2, o2 + 1, none⟩) (n2 - 1) (c2 - 1), .slice a3 n3 c3, .slice a4 n4 c4]) a3 n3 c3 z3) := S3_x.out.grownR (grown_cells (World.grownBy.refl _ _) 0 _) (fun q hq e => NA3 q hq (Option.some.inj e).symm)
          have U4 : Hid (Sees (wx.setCells w.heap.size 0 [.int .i64 s1, .int .i64 s2, .int .i64 e1, .int .i64 e2, .slice a1 n1 c1, .slice (some ⟨b2, o2 + 1, none⟩) (n2 - 1) (c2 - 1), .slice a3 n3 c3, .slice a4 n4 c4]) a4 n4 c4 z4) := S4_x.out.grownR (grown_cells (World.grownBy.refl _ _) 0 _) (fun q hq e => NA4 q hq (Option.some.inj e).symm)
          generalize (wx.setCells w.heap.size 0 [.int .i64 s1, .int .i64 s2, .int .i64 e1, .int .i64 e2, .slice a1 n1 c1, .slice (some ⟨b2, o2 + 1, none⟩) (n2 - 1) (c2 - 1), .slice a3 n3 c3, .slice a4 n4 c4]) = wz at LZ LB U1 U2 U3 U4 ⊢
          go_wp2
          exact bodyPost_ret (results_cell rfl rfl (run_loadVar_mid wz w.heap.size 0 34 _ _ LZ.out.row Tryz.underlying34 rfl (by kernel_rfl))) rfl (by unfold DrPost; exact ⟨s1, s2, e1, e2, a1, n1, c1, z1, (some ⟨b2, o2 + 1, none⟩), (n2 - 1), (c2 - 1), (z2.drop 1), a3, n3, c3, z3, a4, n4, c4, z4, rfl, ⟨U1.out, U2.out, U3.out, U4.out⟩, ⟨by omega, by omega, by omega, by omega⟩, ⟨NL1, NLB, NL3, NL4⟩, LB.out⟩)
set_option maxHeartbeats 8000000 in
theorem drawClaimOf_any {ca : Option Addr} {len cap : Nat} {zs : List Int} (w : World) (hrow : Row .u8 w ca len cap zs) :
    Calls Tryz.prog 18 #[.slice ca len cap] w (DrPost w) := by
  have HR : Hid (Row .u8 w ca len cap zs) := hrow
  clear hrow
  go_enter Tryz.func18, Tryz.ntmps18
  go_wp2_with fail
  refine (drawRowsOf_any _ (HR.out.below2 ((Below.refl _ _).alloc (Nat.le_refl _) _))).mono ?_
  rintro e w1 ⟨s1, s2, e1, e2, a1, n1, c1, z1, a2, n2, c2, z2, a3, n3, c3, z3, a4, n4, c4, z4, rfl, ⟨x1, x2, x3, x4⟩, hl, ⟨o1, o2, o3, o4⟩, hb⟩
  have HZ : Hid (Lies w1 w.heap.size [.int .i64 0, .int .i64 0, .int .i64 0, .int .i64 0, .slice none 0 0, .slice none 0 0, .slice none 0 0, .slice none 0 0]) := (lies_new _ _ _).belowS hb
  have HB : Hid (Below w.heap.size w w1) := ((Below.refl _ _).alloc (Nat.le_refl _) _).trans (hb.mono (by simp))
  have tA : w1.there w.heap.size 0 ([.int .i64 s1, .int .i64 s2, .int .i64 e1, .int .i64 e2, .slice a1 n1 c1, .slice a2 n2 c2, .slice a3 n3 c3, .slice a4 n4 c4] : List Value).toArray.size := HZ.out.there _ 8 (by simp)
  have iA : (Tryz.prog.info? 34).map (·.size) = some ([.int .i64 s1, .int .i64 s2, .int .i64 e1, .int .i64 e2, .slice a1 n1 c1, .slice a2 n2 c2, .slice a3 n3 c3, .slice a4 n4 c4] : List Value).toArray.size := (show (Tryz.prog.info? 34).map (·.size) = some 8 by kernel_rfl)
  have hsz : (w.alloc (.cells #[.int .i64 0, .int .i64 0, .int .i64 0, .int .i64 0, .slice none 0 0, .slice none 0 0, .slice none 0 0, .slice none 0 0] 34)).heap.size = w.heap.size + 1 := by simp
  rw [hsz] at o1 o2 o3 o4
  have LZ : Hid (Lies (w1.setCells w.heap.size 0 [.int .i64 s1, .int .i64 s2, .int .i64 e1, .int .i64 e2, .slice a1 n1 c1, .slice a2 n2 c2, .slice a3 n3 c3, .slice a4 n4 c4]) w.heap.size [.int .i64 s1, .int .i64 s2, .int .i64 e1, .int .i64 e2, .slice a1 n1 c1, .slice a2 n2 c2, .slice a3 n3 c3, .slice a4 n4 c4]) := HZ.out.setCells [.int .i64 s1, .int .i64 s2, .int .i64 e1, .int .i64 e2, .slice a1 n1 c1, .slice a2 n2 c2, .slice a3 n3 c3, .slice a4 n4 c4] 0 (by simp)
  have LB : Hid (Below w.heap.size w (w1.setCells w.heap.size 0 [.int .i64 s1, .int .i64 s2, .int .i64 e1, .int .i64 e2, .slice a1 n1 c1, .slice a2 n2 c2, .slice a3 n3 c3, .slice a4 n4 c4])) := below_setCells _ _ HB.out (Nat.le_refl _)
  have HL : Hid (n1 ≤ 64 ∧ n2 ≤ 64 ∧ n3 ≤ 64 ∧ n4 ≤ 64) := hl
  have HO : Hid ((∀ q, a1 = some q → w.heap.size ≤ q.block) ∧ (∀ q, a2 = some q → w.heap.size ≤ q.block) ∧ (∀ q, a3 = some q → w.heap.size ≤ q.block) ∧ (∀ q, a4 = some q → w.heap.size ≤ q.block)) := ⟨fun q hq => by have := o1 q hq; omega, fun q hq => by have := o2 q hq; omega, fun q hq => by have := o3 q hq; omega, fun q hq => by have := o4 q hq; omega⟩
  have U1 : Hid (Sees (w1.setCells w.heap.size 0 [.int .i64 s1, .int .i64 s2, .int .i64 e1, .int .i64 e2, .slice a1 n1 c1, .slice a2 n2 c2, .slice a3 n3 c3, .slice a4 n4 c4]) a1 n1 c1 z1) := x1.grownR (grown_cells (World.grownBy.refl _ _) 0 _) (fun q hq e => by have := o1 q hq; have := Option.some.inj e; omega)
  have U2 : Hid (Sees (w1.setCells w.heap.size 0 [.int .i64 s1, .int .i64 s2, .int .i64 e1, .int .i64 e2, .slice a1 n1 c1, .slice a2 n2 c2, .slice a3 n3 c3, .slice a4 n4 c4]) a2 n2 c2 z2) := x2.grownR (grown_cells (World.grownBy.refl _ _) 0 _) (fun q hq e => by have := o2 q hq; have := Option.some.inj e; omega)
  have U3 : Hid (Sees (w1.setCells w.heap.size 0 [.int .i64 s1, .int .i64 s2, .int .i64 e1, .int .i64 e2, .slice a1 n1 c1, .slice a2 n2 c2, .slice a3 n3 c3, .slice a4 n4 c4]) a3 n3 c3 z3) := x3.grownR (grown_cells (World.grownBy.refl _ _) 0 _) (fun q hq e => by have := o3 q hq; have := Option.some.inj e; omega)
  have U4 : Hid (Sees (w1.setCells w.heap.size 0 [.int .i64 s1, .int .i64 s2, .int .i64 e1, .int .i64 e2, .slice a1 n1 c1, .slice a2 n2 c2, .slice a3 n3 c3, .slice a4 n4 c4]) a4 n4 c4 z4) := x4.grownR (grown_cells (World.grownBy.refl _ _) 0 _) (fun q hq e => by have := o4 q hq; have := Option.some.inj e; omega)
  clear x1 x2 x3 x4 o1 o2 o3 o4 hb HZ HB hsz hl
  go_wp2_with (with_reducible refine wpList_stopn ?_ ?_; rfl)
  show wpList _ _ _ _ _ _
  with_reducible refine wpList_store_mid ?qg 34 ?qx ?qy ?qo w.heap.size 0 ([.int .i64 s1, .int .i64 s2, .int .i64 e1, .int .i64 e2, .slice a1 n1 c1, .slice a2 n2 c2, .slice a3 n3 c3, .slice a4 n4 c4] : List Value).toArray ?qhx ?qhy tA iA (by kernel_rfl) ?qr
  case qg => exact rfl
  case qo => exact rfl
  case qhx => exact rfl
  case qhy => exact rfl
  case qr =>
    show wpList _ _ _ _ _ (w1.setCells w.heap.size 0 [.int .i64 s1, .int .i64 s2, .int .i64 e1, .int .i64 e2, .slice a1 n1 c1, .slice a2 n2 c2, .slice a3 n3 c3, .slice a4 n4 c4])
    clear tA iA
    generalize w1.setCells w.heap.size 0 [.int .i64 s1, .int .i64 s2, .int .i64 e1, .int .i64 e2, .slice a1 n1 c1, .slice a2 n2 c2, .slice a3 n3 c3, .slice a4 n4 c4] = wz at LZ LB U1 U2 U3 U4 ⊢
    go_wp2
    exact bodyPost_ret (results_cell rfl rfl (run_loadVar_mid wz w.heap.size 0 34 _ _ LZ.out.row Tryz.underlying34 rfl (by kernel_rfl))) rfl (by unfold DrPost; exact ⟨s1, s2, e1, e2, a1, n1, c1, z1, a2, n2, c2, z2, a3, n3, c3, z3, a4, n4, c4, z4, rfl, ⟨U1.out, U2.out, U3.out, U4.out⟩, HL.out, HO.out, LB.out⟩)
end Go.Proofs.YtbcfjbkmkknmfaaGreatDoor
