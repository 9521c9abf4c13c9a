/- Where a proof has its values: the frame. What is nought at the rows alone, at each point. By how much the values at a point miss the rules, times what is nought at the last row. The quotients, point by point. What the polynomials through the rows have at the points of a proof. The lists that the program reckons are those of the proof in plain terms. An honest proof, in the program. An honest proof, in the program, where all is right. -/
import Derived.Deep.RegionHeld3
import Derived.Test.YtbcfjbkmkknmfaaGreatDoorGrA
import Derived.Test.YtbcfjbkmkknmfaaGreatDoorRwA
import Derived.Test.YtbcfjbkmkknmfaaGreatDoorPrLaw
import Derived.Test.YtbcfjbkmkknmfaaGreatDoorPfA
namespace Go.Proofs.YtbcfjbkmkknmfaaGreatDoor
open Go.RowKit

def frv (N : Nat) : Value := .agg #[.int .i64 (N : Int), .int .i64 1, .int .i64 (M.root (N : Int)), .int .i64 (4 * (N : Int)), .int .i64 3, .int .i64 (M.root (4 * (N : Int))), .int .i64 (M.lst N)]
theorem M.rowsI_of {N : Nat} (h : M.rowsN N = true) : M.rows (N : Int) = true := by
  rcases M.rowsN_cases h with rfl | rfl | rfl | rfl <;> rfl
theorem M.rowsN_of {n : Int} (h : M.rows n = true) : ∃ N : Nat, n = (N : Int) ∧ M.rowsN N = true := by
  rcases M.rows_yes h with rfl | rfl | rfl | rfl
  · exact ⟨2, rfl, rfl⟩
  · exact ⟨4, rfl, rfl⟩
  · exact ⟨8, rfl, rfl⟩
  · exact ⟨16, rfl, rfl⟩
set_option maxHeartbeats 2000000 in
theorem frameOf_out (n : Int) (w : World) (h : M.rows n = false) : Calls Tryz.prog 34 #[.int .i64 n] w fun e w' => e = .returned (.tuple #[.agg #[.int .i64 0, .int .i64 0, .int .i64 0, .int .i64 0, .int .i64 0, .int .i64 0, .int .i64 0], .bool false]) ∧ Below w.heap.size w w' := by
  have C1 := rowsOk_any n
  rw [h] at C1
  have HB : Hid (Below w.heap.size w (w.alloc (.cells #[.int .i64 0, .int .i64 0, .int .i64 0, .int .i64 0, .int .i64 0, .int .i64 0, .int .i64 0] 81))) := (Below.refl _ _).alloc (Nat.le_refl _) _
  go_enter Tryz.func34, Tryz.ntmps34
  go_wp2_with fail
  refine (C1 _).mono ?_
  rintro e w1 ⟨rfl, rfl⟩
  go_wp2
  refine bodyPost_ret (v := .tuple #[.agg #[.int .i64 0, .int .i64 0, .int .i64 0, .int .i64 0, .int .i64 0, .int .i64 0, .int .i64 0], .bool false]) (by simp [results, Tryz.results34, go_sem]) rfl ⟨rfl, ?_⟩
  exact HB.out
set_option maxHeartbeats 4000000 in
theorem frameOf_in (N : Nat) (w : World) (h : M.rowsN N = true) : Calls Tryz.prog 34 #[.int .i64 N] w fun e w' => e = .returned (.tuple #[frv N, .bool true]) ∧ Below w.heap.size w w' := by
  have C1 := rowsOk_any N
  rw [M.rowsI_of h] at C1
  have hp1 : M.ptOk (N : Int) 1 = true := M.row_pt (M.rowsN_two h)
  have hp4 : M.ptOk (4 * (N : Int)) 3 = true := by have := M.rowsN_pt h; rwa [show ((4 * N : Nat) : Int) = 4 * (N : Int) by omega] at this
  have C2 := fun W => placesOf_in (N : Int) 1 W hp1
  have C3 := fun W => placesOf_in (4 * (N : Int)) 3 W hp4
  have hb16 := M.rowsN_pos h
  have hr := (M.el_iff _).1 (M.root_el (M.two64_two (M.rowsN_two h)))
  have C4 := fun W => power_any (M.root (N : Int)) (N - 1) W hr.1 hr.2 (by omega)
  have HL : Hid (M.lst N = M.pw (M.root (N : Int)) (N - 1)) := rfl
  unfold frv
  rw [HL.out]
  generalize M.pw (M.root (N : Int)) (N - 1) = la at C4
  generalize M.root (N : Int) = R1 at C2 C4
  generalize M.root (4 * (N : Int)) = R4 at C3
  have hN1 : ((N - 1 : Nat) : Int) = (N : Int) - 1 := by omega
  rw [hN1] at C4
  have hNw : IntKind.i64.wrap ((N : Int) - 1) = (N : Int) - 1 := by rw [IntKind.wrap_i64]; omega
  have hNb : (N : Int) ≤ 16 := by omega
  have hNl : (2 : Int) ≤ (N : Int) := by omega
  have LZ : Hid (Lies (w.alloc (.cells #[.int .i64 0, .int .i64 0, .int .i64 0, .int .i64 0, .int .i64 0, .int .i64 0, .int .i64 0] 81)) w.heap.size [.int .i64 0, .int .i64 0, .int .i64 0, .int .i64 0, .int .i64 0, .int .i64 0, .int .i64 0]) := lies_new _ _ _
  have HB : Hid (Below w.heap.size w (w.alloc (.cells #[.int .i64 0, .int .i64 0, .int .i64 0, .int .i64 0, .int .i64 0, .int .i64 0, .int .i64 0] 81))) := (Below.refl _ _).alloc (Nat.le_refl _) _
  clear hp1 hp4 hr HL hN1 h hb16
  go_enter Tryz.func34, Tryz.ntmps34
  go_wp2_with fail
  refine (C1 _).mono ?_
  rintro e w1 ⟨rfl, rfl⟩
  go_wp2_with fail
  refine (C2 _).mono ?_
  rintro e w1 ⟨rfl, hb1⟩
  have LZ1 : Hid (Lies (w1.alloc (.cells #[.int .i64 (N : Int), .int .i64 1, .int .i64 R1] 79)) w.heap.size [.int .i64 0, .int .i64 0, .int .i64 0, .int .i64 0, .int .i64 0, .int .i64 0, .int .i64 0]) := (LZ.out.belowS hb1).alloc _
  have LN1 : Hid (Lies (w1.alloc (.cells #[.int .i64 (N : Int), .int .i64 1, .int .i64 R1] 79)) w1.heap.size [.int .i64 (N : Int), .int .i64 1, .int .i64 R1]) := lies_new _ _ _
  have HB1 : Hid (Below w.heap.size w (w1.alloc (.cells #[.int .i64 (N : Int), .int .i64 1, .int .i64 R1] 79))) := (HB.out.trans (hb1.mono HB.out.size)).alloc (Nat.le_trans HB.out.size hb1.size) _
  have HNB : Hid (w1.heap.size ≠ w.heap.size) := Nat.ne_of_gt (LZ.out.belowS hb1).2.2
  clear hb1 LZ HB
  go_wp2_with fail
  refine (C3 _).mono ?_
  rintro e w2 ⟨rfl, hb2⟩
  have HWB : Hid (w2.heap.size ≠ w.heap.size) := Nat.ne_of_gt (LZ1.out.belowS hb2).2.2
  have HZ2 : Hid (Lies (w2.alloc (.cells #[.int .i64 (4 * (N : Int)), .int .i64 3, .int .i64 R4] 79)) w.heap.size [.int .i64 0, .int .i64 0, .int .i64 0, .int .i64 0, .int .i64 0, .int .i64 0, .int .i64 0]) := (LZ1.out.belowS hb2).alloc _
  have HN2 : Hid (Lies (w2.alloc (.cells #[.int .i64 (4 * (N : Int)), .int .i64 3, .int .i64 R4] 79)) w1.heap.size [.int .i64 (N : Int), .int .i64 1, .int .i64 R1]) := (LN1.out.belowS hb2).alloc _
  have HW2 : Hid (Lies (w2.alloc (.cells #[.int .i64 (4 * (N : Int)), .int .i64 3, .int .i64 R4] 79)) w2.heap.size [.int .i64 (4 * (N : Int)), .int .i64 3, .int .i64 R4]) := lies_new _ _ _
  have HB2 : Hid (Below w.heap.size w (w2.alloc (.cells #[.int .i64 (4 * (N : Int)), .int .i64 3, .int .i64 R4] 79))) := (HB1.out.trans (hb2.mono HB1.out.size)).alloc (Nat.le_trans HB1.out.size hb2.size) _
  clear hb2 LZ1 LN1 HB1
  go_wp2
  generalize w2.alloc (.cells #[.int .i64 (4 * (N : Int)), .int .i64 3, .int .i64 R4] 79) = wa at *
  have HN : Hid (Lies wa w1.heap.size [.int .i64 (N : Int), .int .i64 1, .int .i64 R1]) := HN2.out
  have HW : Hid (Lies wa w2.heap.size [.int .i64 (4 * (N : Int)), .int .i64 3, .int .i64 R4]) := HW2.out
  have HZ : Hid (Lies wa.drew w.heap.size [.int .i64 0, .int .i64 0, .int .i64 0, .int .i64 0, .int .i64 0, .int .i64 0, .int .i64 0]) := HZ2.out.below (Below.refl _ _).drew HZ2.out.2.2
  refine wp_region_noPanic ?_
  refine wp_region_held_drew (S := fun W => Lies W w1.heap.size [.int .i64 (N : Int), .int .i64 1, .int .i64 R1] ∧ Lies W w2.heap.size [.int .i64 (4 * (N : Int)), .int .i64 3, .int .i64 R4]) (by kernel_rfl) (⟨HN.out.below (Below.refl _ _).drew HN.out.2.2, HW.out.below (Below.refl _ _).drew HW.out.2.2⟩) (fun hHeld => ?_)
  refine wpAnyH_take (i := 0) (v := .agg ([.int .i64 (N : Int), .int .i64 1, .int .i64 R1]).toArray) rfl (by kernel_rfl) (by kernel_rfl) (by kernel_rfl) (fun _ _ _ h => h) (yieldsIf_load_mid (by kernel_rfl) 79 (.tmp 4) rfl w1.heap.size 0 rfl ([.int .i64 (N : Int), .int .i64 1, .int .i64 R1]) _ (fun W h => h.1.row) Tryz.underlying79 rfl (by kernel_rfl)) (by assumption) ?_
  try simp only [Act.put]
  refine wpAnyH_take (i := 1) (v := .agg ([.int .i64 (4 * (N : Int)), .int .i64 3, .int .i64 R4]).toArray) rfl (by kernel_rfl) (by kernel_rfl) (by kernel_rfl) (fun _ _ _ h => h) (yieldsIf_load_mid (by kernel_rfl) 79 (.tmp 6) rfl w2.heap.size 0 rfl ([.int .i64 (4 * (N : Int)), .int .i64 3, .int .i64 R4]) _ (fun W h => h.2.row) Tryz.underlying79 rfl (by kernel_rfl)) (by assumption) ?_
  try simp only [Act.put]
  refine wpAnyH_take (i := 2) (v := .pointer (some ⟨w1.heap.size, 2, none⟩)) rfl (by kernel_rfl) (by kernel_rfl) (by kernel_rfl) (fun _ _ _ h => h) (Or.inl ⟨by kernel_rfl, ?_⟩) (by assumption) ?_
  · intro wq hSq; go_simp
  try simp only [Act.put]
  refine wpAnyH_take (i := 3) (v := .int .i64 R1) rfl (by kernel_rfl) (by kernel_rfl) (by kernel_rfl) (fun _ _ _ h => h) (Or.inl ⟨by kernel_rfl, ?_⟩) (by assumption) ?_
  · intro wq hSq; have hq : wq.cell? ⟨w1.heap.size, 2, none⟩ = some (.int .i64 R1) := hSq.1.at 2; go_simp
  try simp only [Act.put]
  refine wpAnyH_take (i := 4) (v := .int .i64 (N : Int)) rfl (by kernel_rfl) (by kernel_rfl) (by kernel_rfl) (fun _ _ _ h => h) (Or.inl ⟨by kernel_rfl, ?_⟩) (by assumption) ?_
  · intro wq hSq; go_simp
  try simp only [Act.put]
  refine wpAnyH_take (i := 5) (v := .int .i64 ((N : Int) - 1)) rfl (by kernel_rfl) (by kernel_rfl) (by kernel_rfl) (fun _ _ _ h => h) (Or.inl ⟨by kernel_rfl, ?_⟩) (by assumption) ?_
  · intro wq hSq; go_simp
  try simp only [Act.put]
  refine wpAnyH_ready (rs := [6]) (by kernel_rfl) (by simp) ?_
  refine AllReadyH.cons rfl (fun K hK => ?_) AllReadyH.nil
  go_simp
  refine (C4 _).mono ?_
  rintro e wn ⟨rfl, rfl⟩
  go_simp
  refine hK.out _ _ (by assumption) (fun hHeld1 => ?_)
  clear hK K
  try simp only [Act.put]
  refine wpAnyH_take (i := 7) (v := .agg #[.int .i64 (N : Int), .int .i64 1, .int .i64 R1, .int .i64 (4 * (N : Int)), .int .i64 3, .int .i64 R4, .int .i64 la]) rfl (by kernel_rfl) (by kernel_rfl) (by kernel_rfl) (fun _ _ _ h => h) (Or.inl ⟨by kernel_rfl, ?_⟩) (by assumption) ?_
  · intro wq hSq; go_simp
  try simp only [Act.put]
  refine wpAnyH_ready (rs := [8]) (by kernel_rfl) (by simp) ?_
  refine AllReadyH.cons rfl (fun K hK => ?_) AllReadyH.nil
  rw [if_pos (by kernel_rfl)]
  with_reducible refine wp_store_mid 81 (.tmp 2) (.tmp 37) ?_ w.heap.size 0 ([.int .i64 (N : Int), .int .i64 1, .int .i64 R1, .int .i64 (4 * (N : Int)), .int .i64 3, .int .i64 R4, .int .i64 la]).toArray ?_ ?_ ?_ (by kernel_rfl) (by kernel_rfl) ?_
  · exact rfl
  · exact rfl
  · exact rfl
  · exact HZ.out.there 0 7 (by simp)
  refine hK.out _ _ (⟨hHeld.1.farCells _ 0 HNB.out, hHeld.2.farCells _ 0 HWB.out⟩) (fun hHeld2 => ?_)
  clear hK K
  try simp only [Act.put]
  refine wpAnyH_take (i := 9) (v := .bool true) rfl (by kernel_rfl) (by kernel_rfl) (by kernel_rfl) (fun _ _ _ h => h) (Or.inl ⟨by kernel_rfl, ?_⟩) (by assumption) ?_
  · intro wq hSq; go_simp
  try simp only [Act.put]
  refine wpAnyH_done (by kernel_rfl) ?_ _
  refine NoPanic.normal ?_
  go_simp
  have L7 : Lies (wa.drew.setCells w.heap.size 0 [.int .i64 (N : Int), .int .i64 1, .int .i64 R1, .int .i64 (4 * (N : Int)), .int .i64 3, .int .i64 R4, .int .i64 la]) w.heap.size [.int .i64 (N : Int), .int .i64 1, .int .i64 R1, .int .i64 (4 * (N : Int)), .int .i64 3, .int .i64 R4, .int .i64 la] := HZ.out.setCells [.int .i64 (N : Int), .int .i64 1, .int .i64 R1, .int .i64 (4 * (N : Int)), .int .i64 3, .int .i64 R4, .int .i64 la] 0 (by simp)
  have HB7 : Below w.heap.size w (wa.drew.setCells w.heap.size 0 [.int .i64 (N : Int), .int .i64 1, .int .i64 R1, .int .i64 (4 * (N : Int)), .int .i64 3, .int .i64 R4, .int .i64 la]) := below_setCells _ 0 HB2.out.drew (Nat.le_refl _)
  generalize wa.drew.setCells w.heap.size 0 [.int .i64 (N : Int), .int .i64 1, .int .i64 R1, .int .i64 (4 * (N : Int)), .int .i64 3, .int .i64 R4, .int .i64 la] = wz at *
  have HL7 : Hid (Lies wz w.heap.size [.int .i64 (N : Int), .int .i64 1, .int .i64 R1, .int .i64 (4 * (N : Int)), .int .i64 3, .int .i64 R4, .int .i64 la]) := L7
  have HBZ : Hid (Below w.heap.size w wz) := HB7
  clear L7 HB7
  go_wp2
  exact bodyPost_ret (results_cell_tmp rfl rfl (run_loadVar_mid wz w.heap.size 0 81 _ _ HL7.out.row Tryz.underlying81 rfl (by kernel_rfl))) rfl ⟨rfl, HBZ.out⟩
end Go.Proofs.YtbcfjbkmkknmfaaGreatDoor
namespace Go.Proofs.YtbcfjbkmkknmfaaGreatDoor
open Go.RowKit

theorem M.zp_gp {N i : Nat} (h : i < 4 * N) : (M.gp 3 (M.root (4 * (N : Int))) (4 * N)).getD i 0 = M.zp N i := by
  rw [M.gp_get _ _ _ _ h]; unfold M.zp; rw [show ((4 * N : Nat) : Int) = 4 * (N : Int) by omega]
set_option maxHeartbeats 4000000 in
set_option maxRecDepth 10000 in
theorem zeros_any (N : Nat) (w : World) (h : M.rowsN N = true) : Calls Tryz.prog 84 #[frv N] w fun e w' => ∃ a' c', e = .returned (.slice a' (4 * N) c') ∧ Owns 73 w' w.heap.size a' (4 * N) c' (M.tab (4 * N) (M.zer N)) ∧ Below w.heap.size w w' := by
  have hb16 := M.rowsN_pos h
  obtain ⟨K, hK⟩ : ∃ K : Nat, K = 4 * N := ⟨_, rfl⟩
  have hKi : 4 * (N : Int) = (K : Int) := by omega
  have hr4 := (M.el_iff _).1 (M.root_el (M.two64_two (M.rowsN_two4 h)))
  rw [show ((4 * N : Nat) : Int) = 4 * (N : Int) by omega] at hr4
  have CA := fun W => placesAll_any K 3 (M.root (4 * (N : Int))) W (by omega) (by omega) hr4.1 hr4.2 (by omega)
  have CP : Hid (∀ i W, Calls Tryz.prog 80 #[.int .i64 (M.zp N i), .int .i64 (N : Int)] W fun e w' => e = .returned (.int .i64 (M.pw (M.zp N i) N)) ∧ w' = W) := fun i W => power_any (M.zp N i) N W (M.zp_bd N i).1 (M.zp_bd N i).2 (by omega)
  have CM : Hid (∀ i W, Calls Tryz.prog 122 #[.int .i64 (M.pw (M.zp N i) N), .int .i64 1] W fun e w' => e = .returned (.int .i64 (M.zer N i)) ∧ w' = W) := fun i W => minus_any _ 1 W ((M.el_iff _).1 (M.el_pw _ _)).1 ((M.el_iff _).1 (M.el_pw _ _)).2 (by omega) (by omega)
  have HG : Hid (∀ i, i < K → (M.gp 3 (M.root (4 * (N : Int))) K).getD i 0 = M.zp N i) := fun i hi => by subst hK; exact M.zp_gp hi
  have HS : Hid (∀ k, M.tab k (M.zer N) ++ [M.zer N k] = M.tab (k + 1) (M.zer N)) := fun k => M.tab_snoc k _
  have HN0 : Hid (M.tab 0 (M.zer N) = []) := rfl
  obtain ⟨i0, hi, hz0, hz1, hz2⟩ := info_parts info_el
  have HI : Hid (Tryz.prog.info? 73 = some i0 ∧ i0.zero = some (Value.int .i64 0) ∧ i0.size = 1 ∧ i0.bytes = 8) := ⟨hi, hz0, hz1, hz2⟩
  unfold frv
  rw [hKi, ← hK]
  rw [hKi] at CA HG
  have hKb : K ≤ 64 := by omega
  generalize M.gp 3 (M.root (K : Int)) K = G at CA HG
  generalize M.root (N : Int) = R1
  generalize M.root (K : Int) = R4 at CA
  generalize M.lst N = la
  clear hi hz0 hz1 hz2 hr4 h hK hKi
  have LF : Hid (Lies (w.alloc (.cells #[.int .i64 (N : Int), .int .i64 1, .int .i64 R1, .int .i64 (K : Int), .int .i64 3, .int .i64 R4, .int .i64 la] 81)) w.heap.size [.int .i64 (N : Int), .int .i64 1, .int .i64 R1, .int .i64 (K : Int), .int .i64 3, .int .i64 R4, .int .i64 la]) := lies_new _ _ _
  have HB0 : Hid (Below w.heap.size w (w.alloc (.cells #[.int .i64 (N : Int), .int .i64 1, .int .i64 R1, .int .i64 (K : Int), .int .i64 3, .int .i64 R4, .int .i64 la] 81))) := (Below.refl _ _).alloc (Nat.le_refl _) _
  have hN16 : (N : Int) ≤ 16 := by omega
  have hN2 : (2 : Int) ≤ (N : Int) := by omega
  go_enter Tryz.func84, Tryz.ntmps84
  go_wp2_with (at_make; refine wpList_make_own _ rfl _ _ 89 rfl (w.heap.size + 1) 73 i0 (.int .i64 0) 1 Tryz.underlying89 HI.out.1 HI.out.2.1 HI.out.2.2.1 .i64 .i64 _ K rfl rfl rfl (by rw [HI.out.2.2.2]; omega) (by unfold maxLen; omega) (by simp) ?_)
  intro w1 hown hg
  have HO : Hid (Owns 73 w1 (w.heap.size + 1) (some ⟨w.heap.size + 1, 0, none⟩) 0 K []) := hown
  have LF1 : Hid (Lies w1 w.heap.size [.int .i64 (N : Int), .int .i64 1, .int .i64 R1, .int .i64 (K : Int), .int .i64 3, .int .i64 R4, .int .i64 la]) := LF.out.grown hg (by simp)
  have HB1 : Hid (Below w.heap.size w w1) := HB0.out.trans ((below_grown hg).mono (by simp))
  have f3 : w1.cell? ⟨w.heap.size, 3, none⟩ = some (.int .i64 (K : Int)) := LF1.out.at 3
  have f4 : w1.cell? ⟨w.heap.size, 4, none⟩ = some (.int .i64 3) := LF1.out.at 4
  have f5 : w1.cell? ⟨w.heap.size, 5, none⟩ = some (.int .i64 R4) := LF1.out.at 5
  clear hown hg LF HB0
  go_wp2_with fail
  refine (CA _).mono ?_
  rintro e w2 ⟨pa, pc, rfl, ho2, hb2⟩
  have HP2 : Hid (Owns 73 w2 w1.heap.size pa K pc G) := ho2
  have HO2 : Hid (Owns 73 w2 (w.heap.size + 1) (some ⟨w.heap.size + 1, 0, none⟩) 0 K []) := HO.out.below hb2
  have LF2 : Hid (Lies w2 w.heap.size [.int .i64 (N : Int), .int .i64 1, .int .i64 R1, .int .i64 (K : Int), .int .i64 3, .int .i64 R4, .int .i64 la]) := LF1.out.belowS hb2
  have HB2 : Hid (Below w.heap.size w w2) := HB1.out.trans (hb2.mono HB1.out.size)
  have HX : Hid (∀ x, pa = some x → w1.heap.size ≤ x.block) := ho2.lo
  have HW1 : Hid (w.heap.size + 1 < w1.heap.size) := HO.out.hi _ rfl
  clear ho2 hb2 f3 f4 f5 HO LF1 HB1 CA
  go_wp2
  go_loopw [3, 14] (fun s i wr => ∃ (k : Nat) (a' : Option Addr) (cap' : Nat), k ≤ K ∧ i = .int .i64 k ∧ s = .slice a' k cap' ∧ Owns 73 wr (w.heap.size + 1) a' k cap' (M.tab k (M.zer N)) ∧ Sees wr pa K pc G ∧ (∀ x y, pa = some x → a' = some y → y.block ≠ x.block) ∧ Lies wr w.heap.size [.int .i64 (N : Int), .int .i64 1, .int .i64 R1, .int .i64 (K : Int), .int .i64 3, .int .i64 R4, .int .i64 la] ∧ Below w.heap.size w wr) (fun _ i _ => K - (intOf i).toNat)
  case atStart => exact ⟨0, _, K, by omega, rfl, rfl, HO2.out, HP2.out.sees, fun x y hx hy e => by have := HX.out x hx; have := HW1.out; injection hy with hy; subst hy; simp at e; omega, LF2.out, HB2.out⟩
  case round =>
    obtain ⟨k, a', cap', hk, rfl, rfl, ho3, hs3, hf3, hl3, hb3⟩ := hrel
    have HO3 : Hid (Owns 73 wr (w.heap.size + 1) a' k cap' (M.tab k (M.zer N))) := ho3
    have HS3 : Hid (Sees wr pa K pc G) := hs3
    have HF3 : Hid (∀ x y, pa = some x → a' = some y → y.block ≠ x.block) := hf3
    have HL3 : Hid (Lies wr w.heap.size [.int .i64 (N : Int), .int .i64 1, .int .i64 R1, .int .i64 (K : Int), .int .i64 3, .int .i64 R4, .int .i64 la]) := hl3
    have HB3 : Hid (Below w.heap.size w wr) := hb3
    clear ho3 hs3 hf3 hl3 hb3 HO2 HP2 LF2 HB2
    by_cases hlt : k < K
    · obtain ⟨b1, o1, rfl, hc1⟩ := HS3.out.at (by omega)
      have e1 := hc1 k hlt
      rw [HG.out k hlt] at e1
      have f0 : wr.cell? ⟨w.heap.size, 0, none⟩ = some (.int .i64 (N : Int)) := HL3.out.at 0
      have hI : (k : Int) < (K : Int) := by omega
      have HLT : Hid (b1 < wr.heap.size) := World.block_lt_of_cell? wr _ e1
      have CPk : Hid _ := CP.out k
      have CMk : Hid _ := CM.out k
      have HSk : Hid (M.tab k (M.zer N) ++ [M.zer N k] = M.tab (k + 1) (M.zer N)) := HS.out k
      clear hc1
      generalize M.zp N k = z at e1 CPk CMk
      generalize M.pw z N = pz at CPk CMk
      generalize M.zer N k = zk at CMk HSk
      go_wp2_with fail
      refine (CPk.out _).mono ?_
      rintro e wn ⟨rfl, rfl⟩
      go_wp2_with fail
      refine (CMk.out _).mono ?_
      rintro e wn ⟨rfl, rfl⟩
      go_wp2_with (at_builtin; refine wpList_append_own_at _ rfl _ _ 89 rfl (w.heap.size + 1) 73 i0 (.int .i64 0) 1 8 Tryz.underlying89 HI.out.1 HI.out.2.1 HI.out.2.2.1 HI.out.2.2.2 rfl (by decide) _ k ((M.tab k (M.zer N)).map (Value.int .i64)) rfl (World.ownsRow.alloc HO3.out _) ⟨wn.heap.size, 0, none⟩ 1 1 [.int .i64 zk] rfl rfl (cell_one _ _ _) (one_int _) (by unfold maxLen; omega) (by omega) (by have := HL3.out.2.2; simp; omega) ?_)
      intro v' w4 hown hgrow _ hat
      have hown' : w4.ownsRow (w.heap.size + 1) 73 1 v' (k + 1) ((M.tab (k + 1) (M.zer N)).map (Value.int .i64)) := by rw [← HSk.out, List.map_append]; exact hown
      obtain ⟨b4, c4, rfl, ho4⟩ := Owns.form hown'
      have HO4 : Hid (Owns 73 w4 (w.heap.size + 1) b4 (k + 1) c4 (M.tab (k + 1) (M.zer N))) := ho4
      have hne : ∀ y, a' = some y → y.block ≠ b1 := fun y hy => HF3.out _ y rfl hy
      have HS4 : Hid (Sees w4 (some ⟨b1, o1, none⟩) K pc G) := (HS3.out.below ((Below.refl _ _).alloc (Nat.le_refl _) _)).grownR hgrow (fun x hx => by
        injection hx with hx; subst hx
        intro e
        cases a' with
        | none => simp [Value.ownBlock] at e
        | some y => simp [Value.ownBlock] at e; exact hne y rfl e)
      have HL4 : Hid (Lies w4 w.heap.size [.int .i64 (N : Int), .int .i64 1, .int .i64 R1, .int .i64 (K : Int), .int .i64 3, .int .i64 R4, .int .i64 la]) := (HL3.out.alloc _).grown hgrow (fun e => by
        cases a' with
        | none => simp [Value.ownBlock] at e
        | some y => simp [Value.ownBlock] at e; have := HO3.out.lo y rfl; omega)
      have HF4 : Hid (∀ x y, some (⟨b1, o1, none⟩ : Addr) = some x → b4 = some y → y.block ≠ x.block) := fun x y hx hy => by
        injection hx with hx; subst hx; subst hy
        have := HLT.out
        rcases hat with e | e
        · cases a' with
          | none => simp [Value.ownBlock] at e
          | some z => simp [Value.ownBlock] at e; rw [e]; exact hne z rfl
        · simp [Value.ownBlock] at e; simp; omega
      have HB4 : Hid (Below w.heap.size w w4) := (HB3.out.alloc HB3.out.size _).grown hgrow (by have := HB3.out.size; simp; omega) (fun q hq => by
        cases a' with
        | none => simp [Value.ownBlock] at hq
        | some y => simp [Value.ownBlock] at hq; have := HO3.out.lo y rfl; omega)
      clear hown hown' hgrow ho4 hat hne
      go_wp2
      go_roundw
      case rel => exact ⟨k + 1, b4, c4, by omega, by go_num, rfl, HO4.out, HS4.out, HF4.out, HL4.out, HB4.out⟩
      case measure => simp [intOf]; omega
    · have hkn : k = K := by omega
      subst hkn
      go_wp2
      go_ret
      exact ⟨a', cap', rfl, HO3.out.mono (by omega), HB3.out⟩
end Go.Proofs.YtbcfjbkmkknmfaaGreatDoor
namespace Go.Proofs.YtbcfjbkmkknmfaaGreatDoor
open Go.RowKit

def M.missAt (m : M.Mc) (ps : List (Int × Int)) (N i : Nat) : Int × Int :=
  (((ps.getD ((i + 4) % (4 * N)) (0, 0)).1 + 65537 - (m.nx (ps.getD i (0, 0))).1) % 65537 * ((M.zp N i + 65537 - M.lst N) % 65537) % 65537, ((ps.getD ((i + 4) % (4 * N)) (0, 0)).2 + 65537 - (m.nx (ps.getD i (0, 0))).2) % 65537 * ((M.zp N i + 65537 - M.lst N) % 65537) % 65537)
def M.tabP (k : Nat) (f : Nat → Int × Int) : List (Int × Int) := (List.range k).map f
theorem M.tabP_len (k : Nat) (f : Nat → Int × Int) : (M.tabP k f).length = k := by simp [M.tabP]
theorem M.tabP_snoc (k : Nat) (f : Nat → Int × Int) : M.tabP k f ++ [f k] = M.tabP (k + 1) f := by simp [M.tabP, List.range_succ]
theorem M.tabP_get {k i : Nat} (f : Nat → Int × Int) (h : i < k) : (M.tabP k f).getD i (0, 0) = f i := by simp [M.tabP, List.getD_eq_getElem?_getD, h]
set_option maxHeartbeats 8000000 in
set_option maxRecDepth 10000 in
theorem misses_any {la0 : Option Addr} {lc : Nat} {ps : List (Int × Int)} (m : M.Mc) (N : Nat) (w : World) (h : M.rowsN N = true) (hm : m.ok = true) (hz : SeesQ w la0 (4 * N) lc ps) (hps : ∀ i, i < 4 * N → M.sOk (ps.getD i (0, 0)) = true) :
    Calls Tryz.prog 85 #[frv N, .iface 133 (mcv m), .slice la0 (4 * N) lc] w fun e w' => ∃ a' c', e = .returned (.slice a' (4 * N) c') ∧ OwnsQ 75 w' w.heap.size a' (4 * N) c' (M.tabP (4 * N) (M.missAt m ps N)) ∧ Below w.heap.size w w' := by
  have hb16 := M.rowsN_pos h
  obtain ⟨K, hK⟩ : ∃ K : Nat, K = 4 * N := ⟨_, rfl⟩
  have hKi : 4 * (N : Int) = (K : Int) := by omega
  have hr4 := (M.el_iff _).1 (M.root_el (M.two64_two (M.rowsN_two4 h)))
  rw [show ((4 * N : Nat) : Int) = 4 * (N : Int) by omega] at hr4
  have CA := fun W => placesAll_any K 3 (M.root (4 * (N : Int))) W (by omega) (by omega) hr4.1 hr4.2 (by omega)
  have HG : Hid (∀ i, i < K → (M.gp 3 (M.root (4 * (N : Int))) K).getD i 0 = M.zp N i) := fun i hi => by subst hK; exact M.zp_gp hi
  have HS : Hid (∀ k, M.tabP k (M.missAt m ps N) ++ [M.missAt m ps N k] = M.tabP (k + 1) (M.missAt m ps N)) := fun k => M.tabP_snoc k _
  have hll := (M.el_iff _).1 (M.el_lst N)
  have HMI : Hid (∀ k, k < K → ∃ j, j < K ∧ ((k : Int) + 4).tmod (K : Int) = (j : Int) ∧ (∀ W, Calls Tryz.prog 168 #[mcv m, stv (ps.getD k (0, 0))] W fun e w' => e = .returned (stv (m.nx (ps.getD k (0, 0)))) ∧ Below W.heap.size W w') ∧ (∃ t, M.sOk t = true ∧ (∀ W, Calls Tryz.prog 123 #[stv (ps.getD j (0, 0)), stv (m.nx (ps.getD k (0, 0)))] W fun e w' => e = .returned (stv t) ∧ Below W.heap.size W w') ∧ (∀ W, Calls Tryz.prog 122 #[.int .i64 (M.zp N k), .int .i64 (M.lst N)] W fun e w' => e = .returned (.int .i64 ((M.zp N k + 65537 - M.lst N) % 65537)) ∧ w' = W) ∧ (∀ W, Calls Tryz.prog 86 #[stv t, .int .i64 ((M.zp N k + 65537 - M.lst N) % 65537)] W fun e w' => e = .returned (stv (M.missAt m ps N k)) ∧ Below W.heap.size W w'))) := fun k hk => by
    have hj : (k + 4) % K < K := Nat.mod_lt _ (by omega)
    refine ⟨(k + 4) % K, hj, ?_, fun W => stepM_any m _ W hm (hps k (by omega)), ((((ps.getD ((k + 4) % K) (0, 0)).1 + 65537 - (m.nx (ps.getD k (0, 0))).1) % 65537, ((ps.getD ((k + 4) % K) (0, 0)).2 + 65537 - (m.nx (ps.getD k (0, 0))).2) % 65537)), ?_, fun W => pairMinus_any _ _ W (hps _ (by omega)) (M.sOk_nx m _), fun W => minus_any _ _ W (M.zp_bd N k).1 (M.zp_bd N k).2 hll.1 hll.2, fun W => ?_⟩
    · rw [Int.tmod_eq_emod_of_nonneg (by omega), show (k : Int) + 4 = ((k + 4 : Nat) : Int) by omega]; exact (Int.natCast_emod _ _).symm
    · exact (M.sOk_iff _).2 ⟨⟨by simp only; omega, by simp only; omega⟩, ⟨by simp only; omega, by simp only; omega⟩⟩
    · have := pairScaled_any ((((ps.getD ((k + 4) % K) (0, 0)).1 + 65537 - (m.nx (ps.getD k (0, 0))).1) % 65537, ((ps.getD ((k + 4) % K) (0, 0)).2 + 65537 - (m.nx (ps.getD k (0, 0))).2) % 65537)) ((M.zp N k + 65537 - M.lst N) % 65537) W ((M.sOk_iff _).2 ⟨⟨by simp only; omega, by simp only; omega⟩, ⟨by simp only; omega, by simp only; omega⟩⟩) (by omega) (by omega)
      unfold M.missAt; rw [← hK]; exact this
  obtain ⟨i0, hi, hz0, hz1, hz2⟩ := info_parts info_pair
  have HI : Hid (Tryz.prog.info? 75 = some i0 ∧ i0.zero = some (.agg #[.int .i64 0, .int .i64 0]) ∧ i0.size = 2 ∧ i0.bytes = 16) := ⟨hi, hz0, hz1, hz2⟩
  rw [← hK] at hz
  unfold frv
  rw [hKi, ← hK]
  rw [hKi] at CA HG
  have hKb : K ≤ 64 := by omega
  have hK8 : 8 ≤ K := by omega
  have HZ : Hid (SeesQ w la0 K lc ps) := hz
  generalize M.gp 3 (M.root (K : Int)) K = G at CA HG
  generalize M.root (N : Int) = R1
  generalize M.root (K : Int) = R4 at CA
  generalize M.missAt m ps N = MA at HMI HS
  generalize M.lst N = la at HMI
  clear hi hz0 hz1 hz2 hr4 h hK hKi hz hps hm hll
  obtain ⟨lb, lo, rfl, -⟩ := HZ.out.at (by omega)
  have LF : Hid (Lies (w.alloc (.cells #[.int .i64 (N : Int), .int .i64 1, .int .i64 R1, .int .i64 (K : Int), .int .i64 3, .int .i64 R4, .int .i64 la] 81)) w.heap.size [.int .i64 (N : Int), .int .i64 1, .int .i64 R1, .int .i64 (K : Int), .int .i64 3, .int .i64 R4, .int .i64 la]) := lies_new _ _ _
  have HB0 : Hid (Below w.heap.size w (w.alloc (.cells #[.int .i64 (N : Int), .int .i64 1, .int .i64 R1, .int .i64 (K : Int), .int .i64 3, .int .i64 R4, .int .i64 la] 81))) := (Below.refl _ _).alloc (Nat.le_refl _) _
  go_enter Tryz.func85, Tryz.ntmps85
  go_wp2_with (at_make; refine wpList_make_own _ rfl _ _ 84 rfl (w.heap.size + 1) 75 i0 (.agg #[.int .i64 0, .int .i64 0]) 2 Tryz.underlying84 HI.out.1 HI.out.2.1 HI.out.2.2.1 .i64 .i64 _ K rfl rfl rfl (by rw [HI.out.2.2.2]; omega) (by unfold maxLen; omega) (by simp) ?_)
  intro w1 hown hg
  have HO : Hid (OwnsQ 75 w1 (w.heap.size + 1) (some ⟨w.heap.size + 1, 0, none⟩) 0 K []) := ⟨rfl, hown⟩
  have LF1 : Hid (Lies w1 w.heap.size [.int .i64 (N : Int), .int .i64 1, .int .i64 R1, .int .i64 (K : Int), .int .i64 3, .int .i64 R4, .int .i64 la]) := LF.out.grown hg (by simp)
  have HB1 : Hid (Below w.heap.size w w1) := HB0.out.trans ((below_grown hg).mono (by simp))
  have f3 : w1.cell? ⟨w.heap.size, 3, none⟩ = some (.int .i64 (K : Int)) := LF1.out.at 3
  have f4 : w1.cell? ⟨w.heap.size, 4, none⟩ = some (.int .i64 3) := LF1.out.at 4
  have f5 : w1.cell? ⟨w.heap.size, 5, none⟩ = some (.int .i64 R4) := LF1.out.at 5
  clear hown hg LF HB0
  go_wp2_with fail
  refine (CA _).mono ?_
  rintro e w2 ⟨pa, pc, rfl, ho2, hb2⟩
  have HP2 : Hid (Owns 73 w2 w1.heap.size pa K pc G) := ho2
  have HO2 : Hid (OwnsQ 75 w2 (w.heap.size + 1) (some ⟨w.heap.size + 1, 0, none⟩) 0 K []) := HO.out.below hb2
  have LF2 : Hid (Lies w2 w.heap.size [.int .i64 (N : Int), .int .i64 1, .int .i64 R1, .int .i64 (K : Int), .int .i64 3, .int .i64 R4, .int .i64 la]) := LF1.out.belowS hb2
  have HB2 : Hid (Below w.heap.size w w2) := HB1.out.trans (hb2.mono HB1.out.size)
  have HX : Hid (∀ x, pa = some x → w1.heap.size ≤ x.block) := ho2.lo
  have HW1 : Hid (w.heap.size + 1 < w1.heap.size) := by
    rcases HO.out.2.2 with e | ⟨g, cp, cur, e, hb, hc, r⟩
    · simp at e
    · injection e with e1; injection e1 with e1; injection e1 with e1 e2
      subst e1
      exact Owns.grownR.lt_of_heap hc
  clear ho2 hb2 f3 f4 f5 HO LF1 HB1 CA
  go_wp2
  go_loopw [7, 19] (fun s i wr => ∃ (k : Nat) (a' : Option Addr) (cap' : Nat), k ≤ K ∧ i = .int .i64 k ∧ s = .slice a' k cap' ∧ OwnsQ 75 wr (w.heap.size + 1) a' k cap' (M.tabP k MA) ∧ Sees wr pa K pc G ∧ (∀ x y, pa = some x → a' = some y → y.block ≠ x.block) ∧ Lies wr w.heap.size [.int .i64 (N : Int), .int .i64 1, .int .i64 R1, .int .i64 (K : Int), .int .i64 3, .int .i64 R4, .int .i64 la] ∧ Below w.heap.size w wr) (fun _ i _ => K - (intOf i).toNat)
  case atStart => exact ⟨0, _, K, by omega, rfl, rfl, HO2.out, HP2.out.sees, fun x y hx hy e => by have := HX.out x hx; have := HW1.out; injection hy with hy; subst hy; simp at e; omega, LF2.out, HB2.out⟩
  case round =>
    obtain ⟨k, a', cap', hk, rfl, rfl, ho3, hs3, hf3, hl3, hb3⟩ := hrel
    have HO3 : Hid (OwnsQ 75 wr (w.heap.size + 1) a' k cap' (M.tabP k MA)) := ho3
    have HS3 : Hid (Sees wr pa K pc G) := hs3
    have HF3 : Hid (∀ x y, pa = some x → a' = some y → y.block ≠ x.block) := hf3
    have HL3 : Hid (Lies wr w.heap.size [.int .i64 (N : Int), .int .i64 1, .int .i64 R1, .int .i64 (K : Int), .int .i64 3, .int .i64 R4, .int .i64 la]) := hl3
    have HB3 : Hid (Below w.heap.size w wr) := hb3
    clear ho3 hs3 hf3 hl3 hb3 HO2 HP2 LF2 HB2
    by_cases hlt : k < K
    · obtain ⟨b1, o1, rfl, hc1⟩ := HS3.out.at (by omega)
      have e1 := hc1 k hlt
      rw [HG.out k hlt] at e1
      have hI : (k : Int) < (K : Int) := by omega
      obtain ⟨j, hj, hmod, D1, t, hts, D2, D3, D4⟩ := HMI.out k hlt
      obtain ⟨lb', lo', hle, hcl⟩ := (HZ.out.below HB3.out).at (by omega)
      obtain ⟨rfl, rfl⟩ : lb = lb' ∧ lo = lo' := by injection hle with hle; injection hle with h1 h2; exact ⟨h1, h2⟩
      obtain ⟨ej1, ej2⟩ := hcl j hj
      obtain ⟨ek1, ek2⟩ := hcl k hlt
      have hjI : (j : Int) < (K : Int) := by omega
      have HSk : Hid (M.tabP k MA ++ [MA k] = M.tabP (k + 1) MA) := HS.out k
      have HLT : Hid (b1 < wr.heap.size) := World.block_lt_of_cell? wr _ e1
      generalize ps.getD j (0, 0) = q2 at ej1 ej2 D2
      generalize ps.getD k (0, 0) = q1 at ek1 ek2 D1 D2
      generalize m.nx q1 = n1 at D1 D2
      generalize M.zp N k = z at e1 D3 D4
      generalize (z + 65537 - la) % 65537 = zl at D3 D4
      generalize MA k = mk at D4 HSk
      obtain ⟨x2, y2⟩ := q2
      obtain ⟨x1, y1⟩ := q1
      obtain ⟨u1, v1⟩ := n1
      obtain ⟨t1, t2⟩ := t
      obtain ⟨m1, m2⟩ := mk
      dsimp only [stv] at ej1 ej2 ek1 ek2 D1 D2 D4
      have E1 : Hid (wr.cell? ⟨lb, lo + k * 2, none⟩ = some (.int .i64 x1) ∧ wr.cell? ⟨lb, lo + k * 2 + 1, none⟩ = some (.int .i64 y1)) := ⟨ek1, ek2⟩
      have HD1 : Hid _ := D1
      have HD2 : Hid _ := D2
      have HD3 : Hid _ := D3
      have HD4 : Hid _ := D4
      have hw4 : IntKind.i64.wrap ((k : Int) + 4) = (k : Int) + 4 := by rw [IntKind.wrap_i64]; omega
      clear hc1 hcl hle ek1 ek2 D1 D2 D3 D4 hts
      go_wp2
      have HQ0 : Hid (Lies (wr.alloc (.cells #[.int .i64 x2, .int .i64 y2] 75)) wr.heap.size [.int .i64 x2, .int .i64 y2]) := lies_new _ _ _
      have HOq0 : Hid (OwnsQ 75 (wr.alloc (.cells #[.int .i64 x2, .int .i64 y2] 75)) (w.heap.size + 1) a' k cap' (M.tabP k MA)) := HO3.out.below ((Below.refl _ _).alloc (Nat.le_refl _) _)
      have HSs0 : Hid (Sees (wr.alloc (.cells #[.int .i64 x2, .int .i64 y2] 75)) (some ⟨b1, o1, none⟩) K pc G) := HS3.out.below ((Below.refl _ _).alloc (Nat.le_refl _) _)
      have HLq0 : Hid (Lies (wr.alloc (.cells #[.int .i64 x2, .int .i64 y2] 75)) w.heap.size [.int .i64 (N : Int), .int .i64 1, .int .i64 R1, .int .i64 (K : Int), .int .i64 3, .int .i64 R4, .int .i64 la]) := HL3.out.alloc _
      have HBq0 : Hid (Below w.heap.size w (wr.alloc (.cells #[.int .i64 x2, .int .i64 y2] 75))) := HB3.out.alloc HB3.out.size _
      have E10 : Hid ((wr.alloc (.cells #[.int .i64 x2, .int .i64 y2] 75)).cell? ⟨lb, lo + k * 2, none⟩ = some (.int .i64 x1) ∧ (wr.alloc (.cells #[.int .i64 x2, .int .i64 y2] 75)).cell? ⟨lb, lo + k * 2 + 1, none⟩ = some (.int .i64 y1)) := ⟨(World.grownBy_alloc wr _ none).cell E1.out.1 (by simp), (World.grownBy_alloc wr _ none).cell E1.out.2 (by simp)⟩
      have HQS0 : Hid (wr.heap.size ≤ (wr.alloc (.cells #[.int .i64 x2, .int .i64 y2] 75)).heap.size) := by show _ ≤ _; simp
      have HRow : Hid (∀ b, wr.heap.size ≤ b → (Value.slice a' k cap').ownBlock ≠ some b) := fun b hb e => by have := (World.ownsRow.lt HO3.out.2 b e).2; omega
      have HRlo : Hid (∀ q, (Value.slice a' k cap').ownBlock = some q → w.heap.size + 1 ≤ q) := fun q e => (World.ownsRow.lt HO3.out.2 q e).1
      have HRw : Hid ((Value.slice a' k cap').ownBlock ≠ some w.heap.size) := fun e => by have := (World.ownsRow.lt HO3.out.2 _ e).1; omega
      have HRp : Hid ((Value.slice a' k cap').ownBlock ≠ some b1) := own_none (fun y hy => HF3.out _ y rfl hy)
      generalize wr.alloc (.cells #[.int .i64 x2, .int .i64 y2] 75) = wq at HQ0 HOq0 HSs0 HLq0 HBq0 E10 HQS0 ⊢
      have HQ : Hid (Lies wq wr.heap.size [.int .i64 x2, .int .i64 y2]) := HQ0.out
      have HOq : Hid (OwnsQ 75 wq (w.heap.size + 1) a' k cap' (M.tabP k MA)) := HOq0.out
      have HSs : Hid (Sees wq (some ⟨b1, o1, none⟩) K pc G) := HSs0.out
      have HLq : Hid (Lies wq w.heap.size [.int .i64 (N : Int), .int .i64 1, .int .i64 R1, .int .i64 (K : Int), .int .i64 3, .int .i64 R4, .int .i64 la]) := HLq0.out
      have HBq : Hid (Below w.heap.size w wq) := HBq0.out
      have EQ : Hid (wq.cell? ⟨lb, lo + k * 2, none⟩ = some (.int .i64 x1) ∧ wq.cell? ⟨lb, lo + k * 2 + 1, none⟩ = some (.int .i64 y1)) := E10.out
      have HQS : Hid (wr.heap.size ≤ wq.heap.size) := HQS0.out
      clear HQ0 HOq0 HSs0 HLq0 HBq0 E10 HQS0 HO3 HS3 HF3 HL3 HB3 E1 ej1 ej2 e1
      have hmt := method_next m
      have hk0 : (0 : Int) ≤ (k : Int) := by omega
      apply cutKey
      case f =>
          intro key
          refine wp_region_noPanic ?_
          refine wp_region_held_drew (S := fun W => wq.grownBy W none) (by kernel_rfl) (grown_drew _ _) (fun hHeld => ?_)
          generalize wq.drew = wd0 at hHeld ⊢
          refine wpAnyH_take (i := 0) (v := .agg #[.int .i64 x2, .int .i64 y2]) rfl (by kernel_rfl) (by kernel_rfl) (by kernel_rfl) (fun _ _ _ h => h) (Or.inl ⟨by kernel_rfl, ?_⟩) (by assumption) ?_
          · intro wp hSp; have c0 : wp.cell? ⟨wr.heap.size, 0, none⟩ = some (.int .i64 x2) := (HQ.out.grown hSp (by simp)).at 0; have c1 : wp.cell? ⟨wr.heap.size, 1, none⟩ = some (.int .i64 y2) := (HQ.out.grown hSp (by simp)).at 1; go_simp
          try simp only [Act.put]
          refine wpAnyH_take (i := 1) (v := .iface 133 (mcv m)) rfl (by kernel_rfl) (by kernel_rfl) (by kernel_rfl) (fun _ _ _ h => h) (Or.inl ⟨by kernel_rfl, ?_⟩) (by assumption) ?_
          · intro wq hSq; go_simp
          try simp only [Act.put]
          refine wpAnyH_take (i := 2) (v := .slice (some ⟨lb, lo, none⟩) K lc) rfl (by kernel_rfl) (by kernel_rfl) (by kernel_rfl) (fun _ _ _ h => h) (Or.inl ⟨by kernel_rfl, ?_⟩) (by assumption) ?_
          · intro wq hSq; go_simp
          try simp only [Act.put]
          refine wpAnyH_take (i := 3) (v := .int .i64 (k : Int)) rfl (by kernel_rfl) (by kernel_rfl) (by kernel_rfl) (fun _ _ _ h => h) (Or.inl ⟨by kernel_rfl, ?_⟩) (by assumption) ?_
          · intro wq hSq; go_simp
          try simp only [Act.put]
          refine wpAnyH_take (i := 4) (v := .pointer (some ⟨lb, lo + k * 2, none⟩)) rfl (by kernel_rfl) (by kernel_rfl) (by kernel_rfl) (fun _ _ _ h => h) (Or.inl ⟨by kernel_rfl, ?_⟩) (by assumption) ?_
          · intro wq hSq; go_simp
          try simp only [Act.put]
          refine wpAnyH_take (i := 5) (v := .agg #[.int .i64 x1, .int .i64 y1]) rfl (by kernel_rfl) (by kernel_rfl) (by kernel_rfl) (fun _ _ _ h => h) (Or.inl ⟨by kernel_rfl, ?_⟩) (by assumption) ?_
          · intro wp hSp; have c0 : wp.cell? ⟨lb, lo + k * 2, none⟩ = some (.int .i64 x1) := hSp.cell EQ.out.1 (by simp); have c1 : wp.cell? ⟨lb, lo + k * 2 + 1, none⟩ = some (.int .i64 y1) := hSp.cell EQ.out.2 (by simp); go_simp
          try simp only [Act.put]
          refine wpAnyH_take (i := 6) (v := .func (.method "loop.example/g00319/impl.next") #[.iface 133 (mcv m)] #[]) rfl (by kernel_rfl) (by kernel_rfl) (by kernel_rfl) (fun _ _ _ h => h) (Or.inl ⟨by kernel_rfl, ?_⟩) (by assumption) ?_
          · intro wq hSq; go_simp
          try simp only [Act.put]
          refine wpAnyH_take (i := 7) (v := .func (.method "loop.example/g00319/impl.next") #[.iface 133 (mcv m)] #[]) rfl (by kernel_rfl) (by kernel_rfl) (by kernel_rfl) (fun _ _ _ h => h) (Or.inl ⟨by kernel_rfl, ?_⟩) (by assumption) ?_
          · intro wp hSp; kernel_rfl
          try simp only [Act.put]
          refine wpAnyH_take (i := 8) (v := .iface 133 (mcv m)) rfl (by kernel_rfl) (by kernel_rfl) (by kernel_rfl) (fun _ _ _ h => h) (Or.inl ⟨by kernel_rfl, ?_⟩) (by assumption) ?_
          · intro wq hSq; go_simp
          try simp only [Act.put]
          refine wpAnyH_ready (rs := [9, 11]) (by kernel_rfl) (by simp) ?_
          refine AllReadyH.cons rfl (fun K hK => ?_) (AllReadyH.cons rfl (fun K hK => ?_) AllReadyH.nil)
          · go_simp
            refine (HD1.out _).mono ?_
            rintro e wd1 ⟨rfl, hb1⟩
            go_simp
            have hS1 : wq.grownBy wd1 none := grown_step hHeld hb1
            refine hK.out _ _ hS1 (fun _ => ?_)
            clear hK K hb1
            try simp only [Act.put]
            refine wpAnyH_ready (rs := [10, 11]) (by kernel_rfl) (by simp) ?_
            refine AllReadyH.cons rfl (fun K hK => ?_) (AllReadyH.cons rfl (fun K hK => ?_) AllReadyH.nil)
            · go_simp
              refine (HD2.out _).mono ?_
              rintro e wd2 ⟨rfl, hb2⟩
              go_simp
              have hS2 : wq.grownBy wd2 none := grown_step hS1 hb2
              refine hK.out _ _ hS2 (fun _ => ?_)
              clear hK K hb2
              try simp only [Act.put]
              refine wpAnyH_ready (rs := [11]) (by kernel_rfl) (by simp) ?_
              refine AllReadyH.cons rfl (fun K hK => ?_) AllReadyH.nil
              · go_simp
                have hS3 : wq.grownBy (wd2.alloc (.cells #[.int .i64 0, .int .i64 0] 75)) none := grown_alloc hS2 _
                have HA3 : Hid (Lies (wd2.alloc (.cells #[.int .i64 0, .int .i64 0] 75)) wd2.heap.size [.int .i64 0, .int .i64 0]) := lies_new _ _ _
                have HM3 : Hid (wq.heap.size ≤ wd2.heap.size) := hS2.size
                refine hK.out _ _ hS3 (fun _ => ?_)
                clear hK K
                generalize wd2.alloc (.cells #[.int .i64 0, .int .i64 0] 75) = wd3 at hS3 HA3 ⊢
                generalize wd2.heap.size = mb3 at HA3 HM3 ⊢
                try simp only [Act.put]
                refine wpAnyH_ready (rs := [12]) (by kernel_rfl) (by simp) ?_
                refine AllReadyH.cons rfl (fun K hK => ?_) AllReadyH.nil
                rw [if_pos (by kernel_rfl)]
                with_reducible refine wp_store_mid 75 (.tmp 11) (.tmp 42) ?_ mb3 0 ([.int .i64 t1, .int .i64 t2]).toArray ?_ ?_ ?_ (by kernel_rfl) (by kernel_rfl) ?_
                · exact rfl
                · exact rfl
                · exact rfl
                · exact HA3.out.there 0 2 (by simp)
                have hSz : wq.grownBy (wd3.setCells mb3 0 [.int .i64 t1, .int .i64 t2]) none := grown_far hS3 HM3.out 0 _
                have HMz : Hid (Lies (wd3.setCells mb3 0 [.int .i64 t1, .int .i64 t2]) mb3 [.int .i64 t1, .int .i64 t2]) := HA3.out.setCells [.int .i64 t1, .int .i64 t2] 0 (by simp)
                refine hK.out _ _ hSz (fun _ => ?_)
                clear hK K
                generalize hwz : wd3.setCells mb3 0 [.int .i64 t1, .int .i64 t2] = wz at hSz HMz
                clear hwz
                try simp only [Act.put]
                refine wpAnyH_done (by kernel_rfl) ?_ _
                refine NoPanic.normal ?_
                go_simp
                have HSz : Hid (wq.grownBy wz none) := hSz
                have HMB : Hid (wq.heap.size ≤ mb3) := HM3.out
                clear hSz
                revert HMB HSz HMz
                generalize mb3 = mb
                revert mb
                revert wz
                exact key
            · go_simp
              have hS4 : wq.grownBy (wd1.alloc (.cells #[.int .i64 0, .int .i64 0] 75)) none := grown_alloc hS1 _
              have HA4 : Hid (Lies (wd1.alloc (.cells #[.int .i64 0, .int .i64 0] 75)) wd1.heap.size [.int .i64 0, .int .i64 0]) := lies_new _ _ _
              have HM4 : Hid (wq.heap.size ≤ wd1.heap.size) := hS1.size
              refine hK.out _ _ hS4 (fun _ => ?_)
              clear hK K
              generalize wd1.alloc (.cells #[.int .i64 0, .int .i64 0] 75) = wd4 at hS4 HA4 ⊢
              generalize wd1.heap.size = mb4 at HA4 HM4 ⊢
              try simp only [Act.put]
              refine wpAnyH_ready (rs := [10]) (by kernel_rfl) (by simp) ?_
              refine AllReadyH.cons rfl (fun K hK => ?_) AllReadyH.nil
              · go_simp
                refine (HD2.out _).mono ?_
                rintro e wd5 ⟨rfl, hb5⟩
                go_simp
                have hS5 : wq.grownBy wd5 none := grown_step hS4 hb5
                have HA5 : Hid (Lies wd5 mb4 [.int .i64 0, .int .i64 0]) := HA4.out.belowS hb5
                refine hK.out _ _ hS5 (fun _ => ?_)
                clear hK K hb5
                try simp only [Act.put]
                refine wpAnyH_ready (rs := [12]) (by kernel_rfl) (by simp) ?_
                refine AllReadyH.cons rfl (fun K hK => ?_) AllReadyH.nil
                rw [if_pos (by kernel_rfl)]
                with_reducible refine wp_store_mid 75 (.tmp 11) (.tmp 42) ?_ mb4 0 ([.int .i64 t1, .int .i64 t2]).toArray ?_ ?_ ?_ (by kernel_rfl) (by kernel_rfl) ?_
                · exact rfl
                · exact rfl
                · exact rfl
                · exact HA5.out.there 0 2 (by simp)
                have hSz : wq.grownBy (wd5.setCells mb4 0 [.int .i64 t1, .int .i64 t2]) none := grown_far hS5 HM4.out 0 _
                have HMz : Hid (Lies (wd5.setCells mb4 0 [.int .i64 t1, .int .i64 t2]) mb4 [.int .i64 t1, .int .i64 t2]) := HA5.out.setCells [.int .i64 t1, .int .i64 t2] 0 (by simp)
                refine hK.out _ _ hSz (fun _ => ?_)
                clear hK K
                generalize hwz : wd5.setCells mb4 0 [.int .i64 t1, .int .i64 t2] = wz at hSz HMz
                clear hwz
                try simp only [Act.put]
                refine wpAnyH_done (by kernel_rfl) ?_ _
                refine NoPanic.normal ?_
                go_simp
                have HSz : Hid (wq.grownBy wz none) := hSz
                have HMB : Hid (wq.heap.size ≤ mb4) := HM4.out
                clear hSz
                revert HMB HSz HMz
                generalize mb4 = mb
                revert mb
                revert wz
                exact key
          · go_simp
            have hS6 : wq.grownBy (wd0.alloc (.cells #[.int .i64 0, .int .i64 0] 75)) none := grown_alloc hHeld _
            have HA6 : Hid (Lies (wd0.alloc (.cells #[.int .i64 0, .int .i64 0] 75)) wd0.heap.size [.int .i64 0, .int .i64 0]) := lies_new _ _ _
            have HM6 : Hid (wq.heap.size ≤ wd0.heap.size) := hHeld.size
            refine hK.out _ _ hS6 (fun _ => ?_)
            clear hK K
            generalize wd0.alloc (.cells #[.int .i64 0, .int .i64 0] 75) = wd6 at hS6 HA6 ⊢
            generalize wd0.heap.size = mb6 at HA6 HM6 ⊢
            try simp only [Act.put]
            refine wpAnyH_ready (rs := [9]) (by kernel_rfl) (by simp) ?_
            refine AllReadyH.cons rfl (fun K hK => ?_) AllReadyH.nil
            · go_simp
              refine (HD1.out _).mono ?_
              rintro e wd7 ⟨rfl, hb7⟩
              go_simp
              have hS7 : wq.grownBy wd7 none := grown_step hS6 hb7
              have HA7 : Hid (Lies wd7 mb6 [.int .i64 0, .int .i64 0]) := HA6.out.belowS hb7
              refine hK.out _ _ hS7 (fun _ => ?_)
              clear hK K hb7
              try simp only [Act.put]
              refine wpAnyH_ready (rs := [10]) (by kernel_rfl) (by simp) ?_
              refine AllReadyH.cons rfl (fun K hK => ?_) AllReadyH.nil
              · go_simp
                refine (HD2.out _).mono ?_
                rintro e wd8 ⟨rfl, hb8⟩
                go_simp
                have hS8 : wq.grownBy wd8 none := grown_step hS7 hb8
                have HA8 : Hid (Lies wd8 mb6 [.int .i64 0, .int .i64 0]) := HA7.out.belowS hb8
                refine hK.out _ _ hS8 (fun _ => ?_)
                clear hK K hb8
                try simp only [Act.put]
                refine wpAnyH_ready (rs := [12]) (by kernel_rfl) (by simp) ?_
                refine AllReadyH.cons rfl (fun K hK => ?_) AllReadyH.nil
                rw [if_pos (by kernel_rfl)]
                with_reducible refine wp_store_mid 75 (.tmp 11) (.tmp 42) ?_ mb6 0 ([.int .i64 t1, .int .i64 t2]).toArray ?_ ?_ ?_ (by kernel_rfl) (by kernel_rfl) ?_
                · exact rfl
                · exact rfl
                · exact rfl
                · exact HA8.out.there 0 2 (by simp)
                have hSz : wq.grownBy (wd8.setCells mb6 0 [.int .i64 t1, .int .i64 t2]) none := grown_far hS8 HM6.out 0 _
                have HMz : Hid (Lies (wd8.setCells mb6 0 [.int .i64 t1, .int .i64 t2]) mb6 [.int .i64 t1, .int .i64 t2]) := HA8.out.setCells [.int .i64 t1, .int .i64 t2] 0 (by simp)
                refine hK.out _ _ hSz (fun _ => ?_)
                clear hK K
                generalize hwz : wd8.setCells mb6 0 [.int .i64 t1, .int .i64 t2] = wz at hSz HMz
                clear hwz
                try simp only [Act.put]
                refine wpAnyH_done (by kernel_rfl) ?_ _
                refine NoPanic.normal ?_
                go_simp
                have HSz : Hid (wq.grownBy wz none) := hSz
                have HMB : Hid (wq.heap.size ≤ mb6) := HM6.out
                clear hSz
                revert HMB HSz HMz
                generalize mb6 = mb
                revert mb
                revert wz
                exact key
      case h =>
          intro wz mb HMz HSq HMB
          have hmt0 := True.intro
          clear hmt0
          have HOz : Hid (OwnsQ 75 wz (w.heap.size + 1) a' k cap' (M.tabP k MA)) := (HOq.out.grownR HSq.out (by simp))
          have HSz : Hid (Sees wz (some ⟨b1, o1, none⟩) K pc G) := HSs.out.grownR HSq.out (by simp)
          have HLz : Hid (Lies wz w.heap.size [.int .i64 (N : Int), .int .i64 1, .int .i64 R1, .int .i64 (K : Int), .int .i64 3, .int .i64 R4, .int .i64 la]) := HLq.out.grown HSq.out (by simp)
          have HBz : Hid (Below w.heap.size w wz) := HBq.out.grown HSq.out HBq.out.size (by simp)
          have HMB2 : Hid (wr.heap.size ≤ mb) := Nat.le_trans HQS.out HMB.out
          have HPb : Hid (b1 < wz.heap.size) := Nat.lt_of_lt_of_le HLT.out (Nat.le_trans HQS.out HSq.out.size)
          go_wp2
          refine wp_region_noPanic ?_
          refine wp_region_held_drew (S := fun W => wz.grownBy W (Value.slice a' k cap').ownBlock) (by kernel_rfl) (grown_drew _ _) (fun hHeld => ?_)
          have HOd : Hid (OwnsQ 75 wz.drew (w.heap.size + 1) a' k cap' (M.tabP k MA)) := HOz.out.below (Below.refl _ _).drew
          generalize wz.drew = we0 at hHeld HOd ⊢
          refine wpAnyH_take (i := 0) (v := .slice a' k cap') rfl (by kernel_rfl) (by kernel_rfl) (by kernel_rfl) (fun _ _ _ h => h) (Or.inl ⟨by kernel_rfl, ?_⟩) (by assumption) ?_
          · intro wq hSq; go_simp
          try simp only [Act.put]
          refine wpAnyH_take (i := 1) (v := .agg #[.int .i64 t1, .int .i64 t2]) rfl (by kernel_rfl) (by kernel_rfl) (by kernel_rfl) (fun _ _ _ h => h) (Or.inl ⟨by kernel_rfl, ?_⟩) (by assumption) ?_
          · intro wp hSp; have c0 : wp.cell? ⟨mb, 0, none⟩ = some (.int .i64 t1) := (HMz.out.grown hSp (HRow.out _ HMB2.out)).at 0; have c1 : wp.cell? ⟨mb, 1, none⟩ = some (.int .i64 t2) := (HMz.out.grown hSp (HRow.out _ HMB2.out)).at 1; go_simp
          try simp only [Act.put]
          refine wpAnyH_take (i := 2) (v := .int .i64 z) rfl (by kernel_rfl) (by kernel_rfl) (by kernel_rfl) (fun _ _ _ h => h) (Or.inl ⟨by kernel_rfl, ?_⟩) (by assumption) ?_
          · intro wq hSq; go_simp
          try simp only [Act.put]
          refine wpAnyH_take (i := 3) (v := .pointer (some ⟨w.heap.size, 6, none⟩)) rfl (by kernel_rfl) (by kernel_rfl) (by kernel_rfl) (fun _ _ _ h => h) (Or.inl ⟨by kernel_rfl, ?_⟩) (by assumption) ?_
          · intro wq hSq; go_simp
          try simp only [Act.put]
          refine wpAnyH_take (i := 4) (v := .int .i64 la) rfl (by kernel_rfl) (by kernel_rfl) (by kernel_rfl) (fun _ _ _ h => h) (Or.inl ⟨by kernel_rfl, ?_⟩) (by assumption) ?_
          · intro wp hSp; have c0 : wp.cell? ⟨w.heap.size, 6, none⟩ = some (.int .i64 la) := (HLz.out.grown hSp HRw.out).at 6; go_simp
          try simp only [Act.put]
          refine wpAnyH_ready (rs := [5]) (by kernel_rfl) (by simp) ?_
          refine AllReadyH.cons rfl (fun K hK => ?_) AllReadyH.nil
          go_simp
          refine (HD3.out _).mono ?_
          rintro e wn ⟨rfl, rfl⟩
          go_simp
          refine hK.out _ _ (by assumption) (fun hHeld1 => ?_)
          clear hK K
          try simp only [Act.put]
          refine wpAnyH_ready (rs := [6]) (by kernel_rfl) (by simp) ?_
          refine AllReadyH.cons rfl (fun K hK => ?_) AllReadyH.nil
          go_simp
          refine (HD4.out _).mono ?_
          rintro e w5 ⟨rfl, hb5⟩
          go_simp
          have hS5 : wz.grownBy w5 (Value.slice a' k cap').ownBlock := grown_step hHeld hb5
          have HO5 : Hid (OwnsQ 75 w5 (w.heap.size + 1) a' k cap' (M.tabP k MA)) := HOd.out.below hb5
          refine hK.out _ _ hS5 (fun _ => ?_)
          clear hK K hb5
          try simp only [Act.put]
          refine wpAnyH_ready (rs := [7]) (by kernel_rfl) (by simp) ?_
          refine AllReadyH.cons rfl (fun K hK => ?_) AllReadyH.nil
          go_simp
          have hS6 : wz.grownBy (w5.alloc (.cells #[.int .i64 m1, .int .i64 m2] 75)) (Value.slice a' k cap').ownBlock := grown_alloc hS5 _
          refine hK.out _ _ hS6 (fun _ => ?_)
          clear hK K
          try simp only [Act.put]
          refine wpAnyH_ready (rs := [8]) (by kernel_rfl) (by simp) ?_
          refine AllReadyH.cons rfl (fun K hK => ?_) AllReadyH.nil
          rw [if_pos (by kernel_rfl)]
          refine wp_append_at (.tmp 43) (.tmp 50) 84 rfl (w.heap.size + 1) 75 i0 (.agg #[.int .i64 0, .int .i64 0]) 2 16 Tryz.underlying84 HI.out.1 HI.out.2.1 HI.out.2.2.1 HI.out.2.2.2 rfl (by decide) (.slice a' k cap') k (prs (M.tabP k MA)) rfl (World.ownsRow.alloc HO5.out.2 _) ⟨w5.heap.size, 0, none⟩ 1 1 [.int .i64 m1, .int .i64 m2] rfl rfl (cell_twoq w5 _ _ _) (two_intsq _ _) (by unfold maxLen; omega) (by omega) (by have := HLz.out.2.2; have := hS5.size; simp; omega) ?_
          intro v' w6 hown hgrow hat
          have hS7 : wz.grownBy w6 (Value.slice a' k cap').ownBlock := hS6.trans hgrow
          refine hK.out _ _ hS7 (fun _ => ?_)
          clear hK K
          have hown' : w6.ownsRow (w.heap.size + 1) 75 2 v' (k + 1) (prs (M.tabP (k + 1) MA)) := by rw [← HSk.out, ← prs_snoc]; exact hown
          obtain ⟨b6, c6, rfl, ho6⟩ := OwnsQ.form (M.tabP_len (k + 1) MA) hown'
          have HO6 : Hid (OwnsQ 75 w6 (w.heap.size + 1) b6 (k + 1) c6 (M.tabP (k + 1) MA)) := ho6
          have HS6 : Hid (Sees w6 (some ⟨b1, o1, none⟩) K pc G) := HSz.out.grownR hS7 (fun x hx => by injection hx with hx; subst hx; exact HRp.out)
          have HL6 : Hid (Lies w6 w.heap.size [.int .i64 (N : Int), .int .i64 1, .int .i64 R1, .int .i64 (K : Int), .int .i64 3, .int .i64 R4, .int .i64 la]) := HLz.out.grown hS7 HRw.out
          have HF6 : Hid (∀ x y, some (⟨b1, o1, none⟩ : Addr) = some x → b6 = some y → y.block ≠ x.block) := fun x y hx hy => by injection hx with hx; subst hx; exact far_at hat (by have := HPb.out; have := hS5.size; simp; omega) (own_some HRp.out) y hy
          have HB6 : Hid (Below w.heap.size w w6) := HBz.out.grown hS7 HBz.out.size (fun q hq => Nat.le_trans (Nat.le_succ _) (HRlo.out q hq))
          clear hown hown' hgrow ho6 hat hS7 hS6 hS5
          try simp only [Act.put]
          refine wpAnyH_take (i := 9) (v := .slice b6 (k + 1) c6) rfl (by kernel_rfl) (by kernel_rfl) (by kernel_rfl) (fun _ _ _ h => h) (Or.inl ⟨by kernel_rfl, ?_⟩) (by assumption) ?_
          · intro wp hSp; go_simp
          try simp only [Act.put]
          refine wpAnyH_done (by kernel_rfl) ?_ _
          refine NoPanic.normal ?_
          go_simp
          go_wp2
          go_roundw
          case rel => exact ⟨k + 1, b6, c6, by omega, by go_num, rfl, HO6.out, HS6.out, HF6.out, HL6.out, HB6.out⟩
          case measure => simp [intOf]; omega
    · have hkn : k = K := by omega
      subst hkn
      go_wp2
      go_ret
      exact ⟨a', cap', rfl, HO3.out.mono (by omega), HB3.out⟩
end Go.Proofs.YtbcfjbkmkknmfaaGreatDoor
namespace Go.Proofs.YtbcfjbkmkknmfaaGreatDoor
open Go.RowKit

def M.quoAt (m : M.Mc) (ps : List (Int × Int)) (N i : Nat) : Int × Int :=
  ((M.missAt m ps N i).1 * M.pw (M.zer N i) 65535 % 65537, (M.missAt m ps N i).2 * M.pw (M.zer N i) 65535 % 65537)
theorem M.sOk_missAt (m : M.Mc) (ps : List (Int × Int)) (N i : Nat) : M.sOk (M.missAt m ps N i) = true :=
  (M.sOk_iff _).2 ⟨⟨by unfold M.missAt; simp only; omega, by unfold M.missAt; simp only; omega⟩, ⟨by unfold M.missAt; simp only; omega, by unfold M.missAt; simp only; omega⟩⟩
set_option maxHeartbeats 8000000 in
set_option maxRecDepth 10000 in
theorem quotients_any {la0 : Option Addr} {lc : Nat} {ps : List (Int × Int)} (m : M.Mc) (N : Nat) (w : World) (h : M.rowsN N = true) (hm : m.ok = true) (hz : SeesQ w la0 (4 * N) lc ps) (hps : ∀ i, i < 4 * N → M.sOk (ps.getD i (0, 0)) = true) :
    Calls Tryz.prog 37 #[frv N, .iface 133 (mcv m), .slice la0 (4 * N) lc] w fun e w' => ∃ a' c', e = .returned (.slice a' (4 * N) c') ∧ OwnsQ 75 w' w.heap.size a' (4 * N) c' (M.tabP (4 * N) (M.quoAt m ps N)) ∧ Below w.heap.size w w' := by
  have hb16 := M.rowsN_pos h
  obtain ⟨K, hK⟩ : ∃ K : Nat, K = 4 * N := ⟨_, rfl⟩
  have hKi : 4 * (N : Int) = (K : Int) := by omega
  have CZ := fun W => zeros_any N W h
  have CM := fun W hW => misses_any (la0 := la0) (lc := lc) (ps := ps) m N W h hm hW hps
  rw [← hK] at hz
  have HKi : Hid (4 * (N : Int) = (K : Int)) := hKi
  have HS : Hid (∀ k, M.tabP k (M.quoAt m ps N) ++ [M.quoAt m ps N k] = M.tabP (k + 1) (M.quoAt m ps N)) := fun k => M.tabP_snoc k _
  have HMI : Hid (∀ k, k < K → (M.tab (4 * N) (M.zer N)).getD k 0 = M.zer N k ∧ (M.tabP (4 * N) (M.missAt m ps N)).getD k (0, 0) = M.missAt m ps N k ∧ (∀ W, Calls Tryz.prog 87 #[.int .i64 (M.zer N k)] W fun e w' => e = .returned (.int .i64 (M.pw (M.zer N k) 65535)) ∧ w' = W) ∧ (∀ W, Calls Tryz.prog 86 #[stv (M.missAt m ps N k), .int .i64 (M.pw (M.zer N k) 65535)] W fun e w' => e = .returned (stv (M.quoAt m ps N k)) ∧ Below W.heap.size W w')) := fun k hk =>
    ⟨M.tab_get _ _ _ (by omega), M.tabP_get _ (by omega), fun W => inverse_any _ W (M.zer_bd N k).1 (M.zer_bd N k).2, fun W => pairScaled_any _ _ W (M.sOk_missAt m ps N k) ((M.el_iff _).1 (M.el_pw _ _)).1 ((M.el_iff _).1 (M.el_pw _ _)).2⟩
  obtain ⟨i0, hi, hz0, hz1, hz2⟩ := info_parts info_pair
  have HI : Hid (Tryz.prog.info? 75 = some i0 ∧ i0.zero = some (.agg #[.int .i64 0, .int .i64 0]) ∧ i0.size = 2 ∧ i0.bytes = 16) := ⟨hi, hz0, hz1, hz2⟩
  unfold frv at CZ CM ⊢
  rw [hKi, ← hK] at CZ CM ⊢
  rw [← hK] at HMI
  have hKb : K ≤ 64 := by omega
  have hK8 : 8 ≤ K := by omega
  have HZ : Hid (SeesQ w la0 K lc ps) := hz
  generalize M.root (N : Int) = R1 at CZ CM
  generalize M.root (K : Int) = R4 at CZ CM
  generalize M.lst N = la at CZ CM
  generalize M.tab K (M.zer N) = ZS at CZ HMI
  generalize M.tabP K (M.missAt m ps N) = MS at CM HMI
  generalize M.quoAt m ps N = QA at HMI HS
  have HCM : Hid _ := CM
  clear hi hz0 hz1 hz2 h hK hKi hz hps hm CM
  have LF : Hid (Lies (w.alloc (.cells #[.int .i64 (N : Int), .int .i64 1, .int .i64 R1, .int .i64 (K : Int), .int .i64 3, .int .i64 R4, .int .i64 la] 81)) w.heap.size [.int .i64 (N : Int), .int .i64 1, .int .i64 R1, .int .i64 (K : Int), .int .i64 3, .int .i64 R4, .int .i64 la]) := lies_new _ _ _
  have HB0 : Hid (Below w.heap.size w (w.alloc (.cells #[.int .i64 (N : Int), .int .i64 1, .int .i64 R1, .int .i64 (K : Int), .int .i64 3, .int .i64 R4, .int .i64 la] 81))) := (Below.refl _ _).alloc (Nat.le_refl _) _
  go_enter Tryz.func37, Tryz.ntmps37
  go_wp2_with fail
  refine (CZ _).mono ?_
  rintro e w2 ⟨za, zc, rfl, ho2, hb2⟩
  have HZ2 : Hid (Owns 73 w2 (w.heap.size + 1) za K zc ZS) := by show Owns _ _ _ _ _ _ _; simpa using ho2
  have LF2 : Hid (Lies w2 w.heap.size [.int .i64 (N : Int), .int .i64 1, .int .i64 R1, .int .i64 (K : Int), .int .i64 3, .int .i64 R4, .int .i64 la]) := LF.out.belowS hb2
  have HB2 : Hid (Below w.heap.size w w2) := HB0.out.trans (hb2.mono HB0.out.size)
  clear ho2 hb2 LF HB0 CZ
  obtain ⟨zb, zo, rfl, hzc⟩ := HZ2.out.sees.at (by omega)
  have HZC : Hid (∀ i, i < K → w2.cell? ⟨zb, zo + i, none⟩ = some (.int .i64 (ZS.getD i 0))) := hzc
  have HZlt : Hid (zb < w2.heap.size) := World.block_lt_of_cell? w2 _ (hzc 0 (by omega))
  clear hzc
  go_wp2_with (at_make; refine wpList_make_own _ rfl _ _ 84 rfl w2.heap.size 75 i0 (.agg #[.int .i64 0, .int .i64 0]) 2 Tryz.underlying84 HI.out.1 HI.out.2.1 HI.out.2.2.1 .i64 .i64 _ K rfl rfl rfl (by rw [HI.out.2.2.2]; omega) (by unfold maxLen; omega) (Nat.le_refl _) ?_)
  intro w1 hown hg
  have HO : Hid (OwnsQ 75 w1 w2.heap.size (some ⟨w2.heap.size, 0, none⟩) 0 K []) := ⟨rfl, hown⟩
  have LF1 : Hid (Lies w1 w.heap.size [.int .i64 (N : Int), .int .i64 1, .int .i64 R1, .int .i64 (K : Int), .int .i64 3, .int .i64 R4, .int .i64 la]) := LF2.out.grown hg (by simp)
  have HB1 : Hid (Below w2.heap.size w2 w1) := below_grown hg
  have HLT1 : Hid (w2.heap.size < w1.heap.size) := (World.ownsRow.lt hown _ rfl).2
  have f0 : w1.cell? ⟨w.heap.size, 0, none⟩ = some (.int .i64 (N : Int)) := LF1.out.at 0
  have f1 : w1.cell? ⟨w.heap.size, 1, none⟩ = some (.int .i64 1) := LF1.out.at 1
  have f2 : w1.cell? ⟨w.heap.size, 2, none⟩ = some (.int .i64 R1) := LF1.out.at 2
  have f3 : w1.cell? ⟨w.heap.size, 3, none⟩ = some (.int .i64 (K : Int)) := LF1.out.at 3
  have f4 : w1.cell? ⟨w.heap.size, 4, none⟩ = some (.int .i64 3) := LF1.out.at 4
  have f5 : w1.cell? ⟨w.heap.size, 5, none⟩ = some (.int .i64 R4) := LF1.out.at 5
  have f6 : w1.cell? ⟨w.heap.size, 6, none⟩ = some (.int .i64 la) := LF1.out.at 6
  clear hown hg LF2
  go_wp2_with fail
  refine (HCM.out _ (HZ.out.below (HB2.out.trans (HB1.out.mono HB2.out.size)))).mono ?_
  rintro e w3 ⟨ma, mc, rfl, ho3, hb3⟩
  have HM3 : Hid (OwnsQ 75 w3 w1.heap.size ma K mc MS) := ho3
  have HO3 : Hid (OwnsQ 75 w3 w2.heap.size (some ⟨w2.heap.size, 0, none⟩) 0 K []) := HO.out.below hb3
  have HB3 : Hid (Below w2.heap.size w2 w3) := HB1.out.trans (hb3.mono HB1.out.size)
  clear ho3 hb3 f0 f1 f2 f3 f4 f5 f6 HO LF1 HB1 HCM
  have HX : Hid (∀ x, ma = some x → w1.heap.size ≤ x.block) := fun x hx => by subst hx; exact (World.ownsRow.lt HM3.out.2 x.block rfl).1
  go_wp2
  go_loopw [8, 21] (fun s i wr => ∃ (k : Nat) (a' : Option Addr) (cap' : Nat), k ≤ K ∧ i = .int .i64 k ∧ s = .slice a' k cap' ∧ OwnsQ 75 wr w2.heap.size a' k cap' (M.tabP k QA) ∧ SeesQ wr ma K mc MS ∧ (∀ x y, ma = some x → a' = some y → y.block ≠ x.block) ∧ Below w2.heap.size w2 wr) (fun _ i _ => K - (intOf i).toNat)
  case atStart => exact ⟨0, _, K, by omega, rfl, rfl, HO3.out, HM3.out.sees (by omega), fun x y hx hy e => by have := HX.out x hx; have := HLT1.out; injection hy with hy; subst hy; simp at e; omega, HB3.out⟩
  case round =>
    obtain ⟨k, a', cap', hk, rfl, rfl, ho4, hs4, hf4, hb4⟩ := hrel
    have HO4 : Hid (OwnsQ 75 wr w2.heap.size a' k cap' (M.tabP k QA)) := ho4
    have HM4 : Hid (SeesQ wr ma K mc MS) := hs4
    have HF4 : Hid (∀ x y, ma = some x → a' = some y → y.block ≠ x.block) := hf4
    have HB4 : Hid (Below w2.heap.size w2 wr) := hb4
    clear ho4 hs4 hf4 hb4 HO3 HM3 HB3
    by_cases hlt : k < K
    · obtain ⟨b1, o1, rfl, hc1⟩ := HM4.out.at (by omega)
      obtain ⟨e1, e2⟩ := hc1 k hlt
      obtain ⟨g1, g2, D1, D2⟩ := HMI.out k hlt
      have ez := (HB4.out.cell (p := ⟨zb, zo + k, none⟩) HZlt.out).trans (HZC.out k hlt)
      rw [g1] at ez
      rw [g2] at e1 e2
      have hI : (k : Int) < (K : Int) := by omega
      have hk0 : (0 : Int) ≤ (k : Int) := by omega
      have HSk : Hid (M.tabP k QA ++ [QA k] = M.tabP (k + 1) QA) := HS.out k
      have HLT : Hid (b1 < wr.heap.size) := World.block_lt_of_cell? wr _ e1
      clear g1 g2
      generalize M.zer N k = ze at ez D1 D2
      generalize M.pw ze 65535 = iv at D1 D2
      generalize M.missAt m ps N k = mk at e1 e2 D2
      generalize QA k = qk at D2 HSk
      obtain ⟨x1, y1⟩ := mk
      obtain ⟨q1, q2⟩ := qk
      dsimp only [stv] at e1 e2 D2
      have HD1 : Hid _ := D1
      have HD2 : Hid _ := D2
      have EZ0 : Hid ((wr.alloc (.cells #[.int .i64 x1, .int .i64 y1] 75)).cell? ⟨zb, zo + k, none⟩ = some (.int .i64 ze)) := (World.grownBy_alloc wr _ none).cell ez (by simp)
      clear hc1 D1 D2 ez
      go_wp2
      have HQ0 : Hid (Lies (wr.alloc (.cells #[.int .i64 x1, .int .i64 y1] 75)) wr.heap.size [.int .i64 x1, .int .i64 y1]) := lies_new _ _ _
      have HOq0 : Hid (OwnsQ 75 (wr.alloc (.cells #[.int .i64 x1, .int .i64 y1] 75)) w2.heap.size a' k cap' (M.tabP k QA)) := HO4.out.below ((Below.refl _ _).alloc (Nat.le_refl _) _)
      have HMq0 : Hid (SeesQ (wr.alloc (.cells #[.int .i64 x1, .int .i64 y1] 75)) (some ⟨b1, o1, none⟩) K mc MS) := HM4.out.below ((Below.refl _ _).alloc (Nat.le_refl _) _)
      have HBq0 : Hid (Below w2.heap.size w2 (wr.alloc (.cells #[.int .i64 x1, .int .i64 y1] 75))) := HB4.out.alloc HB4.out.size _
      have HQS0 : Hid (wr.heap.size ≤ (wr.alloc (.cells #[.int .i64 x1, .int .i64 y1] 75)).heap.size) := by show _ ≤ _; simp
      have HRow : Hid (∀ b, wr.heap.size ≤ b → (Value.slice a' k cap').ownBlock ≠ some b) := fun b hb e => by have := (World.ownsRow.lt HO4.out.2 b e).2; omega
      have HRlo : Hid (∀ q, (Value.slice a' k cap').ownBlock = some q → w2.heap.size ≤ q) := fun q e => (World.ownsRow.lt HO4.out.2 q e).1
      have HRz : Hid (some zb ≠ (Value.slice a' k cap').ownBlock) := fun e => by have := (World.ownsRow.lt HO4.out.2 _ e.symm).1; have := HZlt.out; omega
      have HRp : Hid ((Value.slice a' k cap').ownBlock ≠ some b1) := own_none (fun y hy => HF4.out _ y rfl hy)
      generalize (wr.alloc (.cells #[.int .i64 x1, .int .i64 y1] 75)) = wq at HQ0 HOq0 HMq0 HBq0 EZ0 HQS0 ⊢
      have HQ : Hid (Lies wq wr.heap.size [.int .i64 x1, .int .i64 y1]) := HQ0.out
      have HOq : Hid (OwnsQ 75 wq w2.heap.size a' k cap' (M.tabP k QA)) := HOq0.out
      have HMq : Hid (SeesQ wq (some ⟨b1, o1, none⟩) K mc MS) := HMq0.out
      have HBq : Hid (Below w2.heap.size w2 wq) := HBq0.out
      have EZ : Hid (wq.cell? ⟨zb, zo + k, none⟩ = some (.int .i64 ze)) := EZ0.out
      have HPb : Hid (b1 < wq.heap.size) := Nat.lt_of_lt_of_le HLT.out HQS0.out
      clear HQ0 HOq0 HMq0 HBq0 EZ0 HQS0 HO4 HM4 HF4 HB4 e1 e2
      refine wp_region_noPanic ?_
      refine wp_region_held_drew (S := fun W => wq.grownBy W (Value.slice a' k cap').ownBlock) (by kernel_rfl) (grown_drew _ _) (fun hHeld => ?_)
      have HOd : Hid (OwnsQ 75 wq.drew w2.heap.size a' k cap' (M.tabP k QA)) := HOq.out.below (Below.refl _ _).drew
      generalize wq.drew = we0 at hHeld HOd ⊢
      refine wpAnyH_take (i := 0) (v := .slice a' k cap') rfl (by kernel_rfl) (by kernel_rfl) (by kernel_rfl) (fun _ _ _ h => h) (Or.inl ⟨by kernel_rfl, ?_⟩) (by assumption) ?_
      · intro wq hSq; go_simp
      try simp only [Act.put]
      refine wpAnyH_take (i := 1) (v := .agg #[.int .i64 x1, .int .i64 y1]) rfl (by kernel_rfl) (by kernel_rfl) (by kernel_rfl) (fun _ _ _ h => h) (Or.inl ⟨by kernel_rfl, ?_⟩) (by assumption) ?_
      · intro wp hSp; have c0 : wp.cell? ⟨wr.heap.size, 0, none⟩ = some (.int .i64 x1) := (HQ.out.grown hSp (HRow.out _ (Nat.le_refl _))).at 0; have c1 : wp.cell? ⟨wr.heap.size, 1, none⟩ = some (.int .i64 y1) := (HQ.out.grown hSp (HRow.out _ (Nat.le_refl _))).at 1; go_simp
      try simp only [Act.put]
      refine wpAnyH_take (i := 2) (v := .slice (some ⟨zb, zo, none⟩) K zc) rfl (by kernel_rfl) (by kernel_rfl) (by kernel_rfl) (fun _ _ _ h => h) (Or.inl ⟨by kernel_rfl, ?_⟩) (by assumption) ?_
      · intro wq hSq; go_simp
      try simp only [Act.put]
      refine wpAnyH_take (i := 3) (v := .int .i64 (k : Int)) rfl (by kernel_rfl) (by kernel_rfl) (by kernel_rfl) (fun _ _ _ h => h) (Or.inl ⟨by kernel_rfl, ?_⟩) (by assumption) ?_
      · intro wq hSq; go_simp
      try simp only [Act.put]
      refine wpAnyH_take (i := 4) (v := .pointer (some ⟨zb, zo + k, none⟩)) rfl (by kernel_rfl) (by kernel_rfl) (by kernel_rfl) (fun _ _ _ h => h) (Or.inl ⟨by kernel_rfl, ?_⟩) (by assumption) ?_
      · intro wq hSq; go_simp
      try simp only [Act.put]
      refine wpAnyH_take (i := 5) (v := .int .i64 ze) rfl (by kernel_rfl) (by kernel_rfl) (by kernel_rfl) (fun _ _ _ h => h) (Or.inl ⟨by kernel_rfl, ?_⟩) (by assumption) ?_
      · intro wp hSp; have c0 : wp.cell? ⟨zb, zo + k, none⟩ = some (.int .i64 ze) := hSp.cell EZ.out HRz.out; go_simp
      try simp only [Act.put]
      refine wpAnyH_ready (rs := [6]) (by kernel_rfl) (by simp) ?_
      refine AllReadyH.cons rfl (fun K hK => ?_) AllReadyH.nil
      go_simp
      refine (HD1.out _).mono ?_
      rintro e wn ⟨rfl, rfl⟩
      go_simp
      refine hK.out _ _ (by assumption) (fun hHeld1 => ?_)
      clear hK K
      try simp only [Act.put]
      refine wpAnyH_ready (rs := [7]) (by kernel_rfl) (by simp) ?_
      refine AllReadyH.cons rfl (fun K hK => ?_) AllReadyH.nil
      go_simp
      refine (HD2.out _).mono ?_
      rintro e w5 ⟨rfl, hb5⟩
      go_simp
      have hS5 : wq.grownBy w5 (Value.slice a' k cap').ownBlock := grown_step hHeld hb5
      have HO5 : Hid (OwnsQ 75 w5 w2.heap.size a' k cap' (M.tabP k QA)) := HOd.out.below hb5
      refine hK.out _ _ hS5 (fun _ => ?_)
      clear hK K hb5
      try simp only [Act.put]
      refine wpAnyH_ready (rs := [8]) (by kernel_rfl) (by simp) ?_
      refine AllReadyH.cons rfl (fun K hK => ?_) AllReadyH.nil
      go_simp
      have hS6 : wq.grownBy (w5.alloc (.cells #[.int .i64 q1, .int .i64 q2] 75)) (Value.slice a' k cap').ownBlock := grown_alloc hS5 _
      refine hK.out _ _ hS6 (fun _ => ?_)
      clear hK K
      try simp only [Act.put]
      refine wpAnyH_ready (rs := [9]) (by kernel_rfl) (by simp) ?_
      refine AllReadyH.cons rfl (fun K hK => ?_) AllReadyH.nil
      rw [if_pos (by kernel_rfl)]
      refine wp_append_at (.tmp 26) (.tmp 34) 84 rfl w2.heap.size 75 i0 (.agg #[.int .i64 0, .int .i64 0]) 2 16 Tryz.underlying84 HI.out.1 HI.out.2.1 HI.out.2.2.1 HI.out.2.2.2 rfl (by decide) (.slice a' k cap') k (prs (M.tabP k QA)) rfl (World.ownsRow.alloc HO5.out.2 _) ⟨w5.heap.size, 0, none⟩ 1 1 [.int .i64 q1, .int .i64 q2] rfl rfl (cell_twoq w5 _ _ _) (two_intsq _ _) (by unfold maxLen; omega) (by omega) (by have := HBq.out.size; have := hS5.size; simp; omega) ?_
      intro v' w6 hown hgrow hat
      have hS7 : wq.grownBy w6 (Value.slice a' k cap').ownBlock := hS6.trans hgrow
      refine hK.out _ _ hS7 (fun _ => ?_)
      clear hK K
      have hown' : w6.ownsRow w2.heap.size 75 2 v' (k + 1) (prs (M.tabP (k + 1) QA)) := by rw [← HSk.out, ← prs_snoc]; exact hown
      obtain ⟨b6, c6, rfl, ho6⟩ := OwnsQ.form (M.tabP_len (k + 1) QA) hown'
      have HO6 : Hid (OwnsQ 75 w6 w2.heap.size b6 (k + 1) c6 (M.tabP (k + 1) QA)) := ho6
      have HM6 : Hid (SeesQ w6 (some ⟨b1, o1, none⟩) K mc MS) := HMq.out.grownR hS7 (fun x hx => by injection hx with hx; subst hx; exact HRp.out)
      have HF6 : Hid (∀ x y, some (⟨b1, o1, none⟩ : Addr) = some x → b6 = some y → y.block ≠ x.block) := fun x y hx hy => by injection hx with hx; subst hx; exact far_at hat (by have := HPb.out; have := hS5.size; simp; omega) (own_some HRp.out) y hy
      have HB6 : Hid (Below w2.heap.size w2 w6) := HBq.out.grown hS7 HBq.out.size (fun q hq => HRlo.out q hq)
      clear hown hown' hgrow ho6 hat hS7 hS6 hS5
      try simp only [Act.put]
      refine wpAnyH_take (i := 10) (v := .slice b6 (k + 1) c6) rfl (by kernel_rfl) (by kernel_rfl) (by kernel_rfl) (fun _ _ _ h => h) (Or.inl ⟨by kernel_rfl, ?_⟩) (by assumption) ?_
      · intro wp hSp; go_simp
      try simp only [Act.put]
      refine wpAnyH_done (by kernel_rfl) ?_ _
      refine NoPanic.normal ?_
      go_simp
      go_wp2
      go_roundw
      case rel => exact ⟨k + 1, b6, c6, by omega, by go_num, rfl, HO6.out, HM6.out, HF6.out, HB6.out⟩
      case measure => simp [intOf]; omega
    · have hkn : k = K := by omega
      subst hkn
      go_wp2
      go_ret
      exact ⟨a', cap', rfl, HO4.out.mono HB2.out.size, HB2.out.trans (HB4.out.mono HB2.out.size)⟩
end Go.Proofs.YtbcfjbkmkknmfaaGreatDoor
namespace Go.Proofs.YtbcfjbkmkknmfaaGreatDoor
open Go.RowKit

theorem M.all_fsts {ps : List (Int × Int)} (h : ∀ i, i < ps.length → M.sOk (ps.getD i (0, 0)) = true) : M.allEl (M.fsts ps) = true := by
  unfold M.allEl M.fsts
  rw [List.all_eq_true]
  intro x hx
  obtain ⟨p, hp, rfl⟩ := List.mem_map.1 hx
  obtain ⟨i, hi, rfl⟩ := List.getElem_of_mem hp
  have := h i hi
  rw [List.getD_eq_getElem?_getD, List.getElem?_eq_getElem hi] at this
  exact (M.el_iff _).2 ((M.sOk_iff _).1 this).1
theorem M.all_snds {ps : List (Int × Int)} (h : ∀ i, i < ps.length → M.sOk (ps.getD i (0, 0)) = true) : M.allEl (M.snds ps) = true := by
  unfold M.allEl M.snds
  rw [List.all_eq_true]
  intro x hx
  obtain ⟨p, hp, rfl⟩ := List.mem_map.1 hx
  obtain ⟨i, hi, rfl⟩ := List.getElem_of_mem hp
  have := h i hi
  rw [List.getD_eq_getElem?_getD, List.getElem?_eq_getElem hi] at this
  exact (M.el_iff _).2 ((M.sOk_iff _).1 this).2
set_option maxHeartbeats 8000000 in
set_option maxRecDepth 10000 in
theorem widened_any {la0 : Option Addr} {lc : Nat} {ps : List (Int × Int)} (N : Nat) (w : World) (h : M.rowsN N = true) (hz : SeesQ w la0 N lc ps) (hps : ∀ i, i < N → M.sOk (ps.getD i (0, 0)) = true) :
    Calls Tryz.prog 36 #[frv N, .slice la0 N lc] w fun e w' => ∃ a' c', e = .returned (.slice a' (4 * N) c') ∧ OwnsQ 75 w' w.heap.size a' (4 * N) c' (M.zipP (M.wide (M.frs (M.fsts ps) 1) N) (M.wide (M.frs (M.snds ps) 1) N) (4 * N)) ∧ Below w.heap.size w w' := by
  have hb16 := M.rowsN_pos h
  obtain ⟨K, hK⟩ : ∃ K : Nat, K = 4 * N := ⟨_, rfl⟩
  have hKi : 4 * (N : Int) = (K : Int) := by omega
  have hps' : ∀ i, i < ps.length → M.sOk (ps.getD i (0, 0)) = true := by rw [hz.len]; exact hps
  have CXS : Hid (∀ W, SeesQ W la0 N lc ps → Calls Tryz.prog 40 #[.slice la0 N lc] W fun e w' => ∃ a' cap', e = .returned (.slice a' N cap') ∧ Owns 73 w' W.heap.size a' N cap' (M.fsts ps) ∧ Below W.heap.size W w') := fun W hW => xsOf_any W hW (by omega)
  have CYS : Hid (∀ W, SeesQ W la0 N lc ps → Calls Tryz.prog 41 #[.slice la0 N lc] W fun e w' => ∃ a' cap', e = .returned (.slice a' N cap') ∧ Owns 73 w' W.heap.size a' N cap' (M.snds ps) ∧ Below W.heap.size W w') := fun W hW => ysOf_any W hW (by omega)
  have CPx : Hid (∀ (W : World) {xa : Option Addr} {xc : Nat}, Sees W xa N xc (M.fsts ps) → Calls Tryz.prog 81 #[.agg #[.int .i64 N, .int .i64 1, .int .i64 (M.root N)], .slice xa N xc] W fun e w' => ∃ a' m c', e = .returned (.slice a' m c') ∧ Owns 73 w' W.heap.size a' m c' (M.frs (M.fsts ps) 1) ∧ Below W.heap.size W w') := fun W _ _ hW => polyOf_any 1 W hW (M.all_fsts hps') (M.row_pt (M.rowsN_two h))
  have CPy : Hid (∀ (W : World) {xa : Option Addr} {xc : Nat}, Sees W xa N xc (M.snds ps) → Calls Tryz.prog 81 #[.agg #[.int .i64 N, .int .i64 1, .int .i64 (M.root N)], .slice xa N xc] W fun e w' => ∃ a' m c', e = .returned (.slice a' m c') ∧ Owns 73 w' W.heap.size a' m c' (M.frs (M.snds ps) 1) ∧ Below W.heap.size W w') := fun W _ _ hW => polyOf_any 1 W hW (M.all_snds hps') (M.row_pt (M.rowsN_two h))
  have lx : (M.frs (M.fsts ps) 1).length ≤ N := by have := M.frs_len (M.fsts ps) 1; rw [M.fsts_len, hz.len] at this; exact this
  have ly : (M.frs (M.snds ps) 1).length ≤ N := by have := M.frs_len (M.snds ps) 1; rw [M.snds_len, hz.len] at this; exact this
  have CVX : Hid (∀ (W : World) {a : Option Addr} {n c : Nat}, Sees W a n c (M.frs (M.fsts ps) 1) → Calls Tryz.prog 83 #[.agg #[.int .i64 (4 * N : Nat), .int .i64 3, .int .i64 (M.root (4 * N : Nat))], .slice a n c] W fun e w' => ∃ a' c', e = .returned (.slice a' (4 * N) c') ∧ Owns 73 w' W.heap.size a' (4 * N) c' (M.wide (M.frs (M.fsts ps) 1) N) ∧ Below W.heap.size W w') := fun W _ _ _ hW => valuesOf_any 3 W hW (M.frs_all _ _) (by have := hW.len; omega) (M.rowsN_pt h)
  have CVY : Hid (∀ (W : World) {a : Option Addr} {n c : Nat}, Sees W a n c (M.frs (M.snds ps) 1) → Calls Tryz.prog 83 #[.agg #[.int .i64 (4 * N : Nat), .int .i64 3, .int .i64 (M.root (4 * N : Nat))], .slice a n c] W fun e w' => ∃ a' c', e = .returned (.slice a' (4 * N) c') ∧ Owns 73 w' W.heap.size a' (4 * N) c' (M.wide (M.frs (M.snds ps) 1) N) ∧ Below W.heap.size W w') := fun W _ _ _ hW => valuesOf_any 3 W hW (M.frs_all _ _) (by have := hW.len; omega) (M.rowsN_pt h)
  unfold frv
  rw [hKi, ← hK]
  simp only [← hK] at CVX CVY
  have hKb : K ≤ 1001 := by omega
  generalize M.root (N : Int) = R1 at CPx CPy ⊢
  generalize M.root (K : Int) = R4 at CVX CVY ⊢
  generalize M.lst N = la
  generalize M.wide (M.frs (M.fsts ps) 1) N = VX at CVX ⊢
  generalize M.wide (M.frs (M.snds ps) 1) N = VY at CVY ⊢
  generalize M.frs (M.fsts ps) 1 = PX at CPx CVX
  generalize M.frs (M.snds ps) 1 = PY at CPy CVY
  generalize M.fsts ps = XS at CXS CPx
  generalize M.snds ps = YS at CYS CPy
  have CPPX : Hid _ := CPx.out
  have CPPY : Hid _ := CPy.out
  have HF0 : Hid (Lies (w.alloc (.cells #[.int .i64 (N : Int), .int .i64 1, .int .i64 R1, .int .i64 (K : Int), .int .i64 3, .int .i64 R4, .int .i64 la] 81)) w.heap.size [.int .i64 (N : Int), .int .i64 1, .int .i64 R1, .int .i64 (K : Int), .int .i64 3, .int .i64 R4, .int .i64 la]) := lies_new _ _ _
  have HB0 : Hid (Below w.heap.size w (w.alloc (.cells #[.int .i64 (N : Int), .int .i64 1, .int .i64 R1, .int .i64 (K : Int), .int .i64 3, .int .i64 R4, .int .i64 la] 81))) := (Below.refl _ _).alloc (Nat.le_refl _) _
  have HQ0 : Hid (SeesQ (w.alloc (.cells #[.int .i64 (N : Int), .int .i64 1, .int .i64 R1, .int .i64 (K : Int), .int .i64 3, .int .i64 R4, .int .i64 la] 81)) la0 N lc ps) := hz.below HB0.out
  clear hb16 hK hKi hps' hz hps h lx ly CPx CPy
  go_enter Tryz.func36, Tryz.ntmps36
  go_wp2
  generalize w.alloc (.cells #[.int .i64 (N : Int), .int .i64 1, .int .i64 R1, .int .i64 (K : Int), .int .i64 3, .int .i64 R4, .int .i64 la] 81) = wq at HF0 HB0 HQ0 ⊢
  have HF : Hid (Lies wq w.heap.size [.int .i64 (N : Int), .int .i64 1, .int .i64 R1, .int .i64 (K : Int), .int .i64 3, .int .i64 R4, .int .i64 la]) := HF0.out
  have HQ : Hid (SeesQ wq la0 N lc ps) := HQ0.out
  have HBq : Hid (Below w.heap.size w wq) := HB0.out
  clear HF0 HB0 HQ0
  refine wp_region_noPanic ?_
  refine wp_region_held_drew (S := fun W => wq.grownBy W none) (by kernel_rfl) (grown_drew _ _) (fun hHeld => ?_)
  generalize wq.drew = wd0 at hHeld ⊢
  refine wpAnyH_take (i := 0) (v := .pointer (some ⟨w.heap.size, 0, none⟩)) rfl (by kernel_rfl) (by kernel_rfl) (by kernel_rfl) (fun _ _ _ h => h) (Or.inl ⟨by kernel_rfl, ?_⟩) (by assumption) ?_
  · intro wq hSq; go_simp
  try simp only [Act.put]
  refine wpAnyH_take (i := 1) (v := .agg #[.int .i64 (N : Int), .int .i64 1, .int .i64 R1]) rfl (by kernel_rfl) (by kernel_rfl) (by kernel_rfl) (fun _ _ _ h => h) (Or.inl ⟨by kernel_rfl, ?_⟩) (by assumption) ?_
  · intro wp hSp; have c0 : wp.cell? ⟨w.heap.size, 0, none⟩ = some (.int .i64 (N : Int)) := (HF.out.grown hSp (by simp)).at 0; have c1 : wp.cell? ⟨w.heap.size, 1, none⟩ = some (.int .i64 1) := (HF.out.grown hSp (by simp)).at 1; have c2 : wp.cell? ⟨w.heap.size, 2, none⟩ = some (.int .i64 R1) := (HF.out.grown hSp (by simp)).at 2; go_simp
  try simp only [Act.put]
  refine wpAnyH_take (i := 2) (v := .slice la0 N lc) rfl (by kernel_rfl) (by kernel_rfl) (by kernel_rfl) (fun _ _ _ h => h) (Or.inl ⟨by kernel_rfl, ?_⟩) (by assumption) ?_
  · intro wq hSq; go_simp
  try simp only [Act.put]
  refine wpAnyH_ready (rs := [3]) (by kernel_rfl) (by simp) ?_
  refine AllReadyH.cons rfl (fun Kk hK => ?_) AllReadyH.nil
  go_simp
  refine (CXS.out _ (HQ.out.grownR hHeld (by simp))).mono ?_
  rintro e w3 ⟨xa, xc, rfl, ho3, hb3⟩
  go_simp
  have hS3 : wq.grownBy w3 none := grown_step hHeld hb3
  have HX3 : Hid (Owns 73 w3 wd0.heap.size xa N xc XS) := ho3
  refine hK.out _ _ hS3 (fun _ => ?_)
  clear hK Kk hb3
  clear ho3
  try simp only [Act.put]
  refine wpAnyH_ready (rs := [4]) (by kernel_rfl) (by simp) ?_
  refine AllReadyH.cons rfl (fun Kk hK => ?_) AllReadyH.nil
  go_simp
  refine (CPPX.out _ HX3.out.sees).mono ?_
  rintro e w4 ⟨pa, pn, pc, rfl, ho4, hb4⟩
  go_simp
  have hS4 : wq.grownBy w4 none := grown_step hS3 hb4
  have HP4 : Hid (Owns 73 w4 w3.heap.size pa pn pc PX) := ho4
  refine hK.out _ _ hS4 (fun _ => ?_)
  clear hK Kk hb4
  clear ho4
  try simp only [Act.put]
  refine wpAnyH_take (i := 5) (v := .slice pa pn pc) rfl (by kernel_rfl) (by kernel_rfl) (by kernel_rfl) (fun _ _ _ h => h) (Or.inl ⟨by kernel_rfl, ?_⟩) (by assumption) ?_
  · intro wq hSq; go_simp
  try simp only [Act.put]
  refine wpAnyH_done (by kernel_rfl) ?_ _
  refine NoPanic.normal ?_
  go_simp
  have HF2 : Hid (Lies w4 w.heap.size [.int .i64 (N : Int), .int .i64 1, .int .i64 R1, .int .i64 (K : Int), .int .i64 3, .int .i64 R4, .int .i64 la]) := HF.out.grown hS4 (by simp)
  have HQ2 : Hid (SeesQ w4 la0 N lc ps) := HQ.out.grownR hS4 (by simp)
  have HB2 : Hid (Below w.heap.size w w4) := HBq.out.grown hS4 HBq.out.size (by simp)
  have HPX2 : Hid (Owns 73 w4 w.heap.size pa pn pc PX) := HP4.out.mono (Nat.le_trans HBq.out.size hS3.size)
  clear HF HQ HBq hHeld hS3 hS4 HP4 HX3 CXS CPPX
  go_wp2
  generalize w4 = wq at HF2 HQ2 HB2 HPX2 ⊢
  have HF : Hid (Lies wq w.heap.size [.int .i64 (N : Int), .int .i64 1, .int .i64 R1, .int .i64 (K : Int), .int .i64 3, .int .i64 R4, .int .i64 la]) := HF2.out
  have HQ : Hid (SeesQ wq la0 N lc ps) := HQ2.out
  have HBq : Hid (Below w.heap.size w wq) := HB2.out
  have HPX0 : Hid (Owns 73 wq w.heap.size pa pn pc PX) := HPX2.out
  clear HF2 HQ2 HB2 HPX2
  generalize pa = pxa at HPX0 ⊢
  generalize pn = pxn at HPX0 ⊢
  generalize pc = pxc at HPX0 ⊢
  refine wp_region_noPanic ?_
  refine wp_region_held_drew (S := fun W => wq.grownBy W none) (by kernel_rfl) (grown_drew _ _) (fun hHeld => ?_)
  generalize wq.drew = wd0 at hHeld ⊢
  refine wpAnyH_take (i := 0) (v := .pointer (some ⟨w.heap.size, 0, none⟩)) rfl (by kernel_rfl) (by kernel_rfl) (by kernel_rfl) (fun _ _ _ h => h) (Or.inl ⟨by kernel_rfl, ?_⟩) (by assumption) ?_
  · intro wq hSq; go_simp
  try simp only [Act.put]
  refine wpAnyH_take (i := 1) (v := .agg #[.int .i64 (N : Int), .int .i64 1, .int .i64 R1]) rfl (by kernel_rfl) (by kernel_rfl) (by kernel_rfl) (fun _ _ _ h => h) (Or.inl ⟨by kernel_rfl, ?_⟩) (by assumption) ?_
  · intro wp hSp; have c0 : wp.cell? ⟨w.heap.size, 0, none⟩ = some (.int .i64 (N : Int)) := (HF.out.grown hSp (by simp)).at 0; have c1 : wp.cell? ⟨w.heap.size, 1, none⟩ = some (.int .i64 1) := (HF.out.grown hSp (by simp)).at 1; have c2 : wp.cell? ⟨w.heap.size, 2, none⟩ = some (.int .i64 R1) := (HF.out.grown hSp (by simp)).at 2; go_simp
  try simp only [Act.put]
  refine wpAnyH_take (i := 2) (v := .slice la0 N lc) rfl (by kernel_rfl) (by kernel_rfl) (by kernel_rfl) (fun _ _ _ h => h) (Or.inl ⟨by kernel_rfl, ?_⟩) (by assumption) ?_
  · intro wq hSq; go_simp
  try simp only [Act.put]
  refine wpAnyH_ready (rs := [3]) (by kernel_rfl) (by simp) ?_
  refine AllReadyH.cons rfl (fun Kk hK => ?_) AllReadyH.nil
  go_simp
  refine (CYS.out _ (HQ.out.grownR hHeld (by simp))).mono ?_
  rintro e w3 ⟨xa, xc, rfl, ho3, hb3⟩
  go_simp
  have hS3 : wq.grownBy w3 none := grown_step hHeld hb3
  have HX3 : Hid (Owns 73 w3 wd0.heap.size xa N xc YS) := ho3
  refine hK.out _ _ hS3 (fun _ => ?_)
  clear hK Kk hb3
  clear ho3
  try simp only [Act.put]
  refine wpAnyH_ready (rs := [4]) (by kernel_rfl) (by simp) ?_
  refine AllReadyH.cons rfl (fun Kk hK => ?_) AllReadyH.nil
  go_simp
  refine (CPPY.out _ HX3.out.sees).mono ?_
  rintro e w4 ⟨pa, pn, pc, rfl, ho4, hb4⟩
  go_simp
  have hS4 : wq.grownBy w4 none := grown_step hS3 hb4
  have HP4 : Hid (Owns 73 w4 w3.heap.size pa pn pc PY) := ho4
  refine hK.out _ _ hS4 (fun _ => ?_)
  clear hK Kk hb4
  clear ho4
  try simp only [Act.put]
  refine wpAnyH_take (i := 5) (v := .slice pa pn pc) rfl (by kernel_rfl) (by kernel_rfl) (by kernel_rfl) (fun _ _ _ h => h) (Or.inl ⟨by kernel_rfl, ?_⟩) (by assumption) ?_
  · intro wq hSq; go_simp
  try simp only [Act.put]
  refine wpAnyH_done (by kernel_rfl) ?_ _
  refine NoPanic.normal ?_
  go_simp
  have HF2 : Hid (Lies w4 w.heap.size [.int .i64 (N : Int), .int .i64 1, .int .i64 R1, .int .i64 (K : Int), .int .i64 3, .int .i64 R4, .int .i64 la]) := HF.out.grown hS4 (by simp)
  have HQ2 : Hid (SeesQ w4 la0 N lc ps) := HQ.out.grownR hS4 (by simp)
  have HB2 : Hid (Below w.heap.size w w4) := HBq.out.grown hS4 HBq.out.size (by simp)
  have HPY2 : Hid (Owns 73 w4 w.heap.size pa pn pc PY) := HP4.out.mono (Nat.le_trans HBq.out.size hS3.size)
  have HPX2 : Hid (Owns 73 w4 w.heap.size pxa pxn pxc PX) := HPX0.out.grownR hS4 (by simp)
  clear HF HQ HBq hHeld hS3 hS4 HP4 HX3 CYS CPPY HPX0
  go_wp2
  generalize w4 = wq at HF2 HQ2 HB2 HPX2 HPY2 ⊢
  have HF : Hid (Lies wq w.heap.size [.int .i64 (N : Int), .int .i64 1, .int .i64 R1, .int .i64 (K : Int), .int .i64 3, .int .i64 R4, .int .i64 la]) := HF2.out
  have HBq : Hid (Below w.heap.size w wq) := HB2.out
  have HPX : Hid (Sees wq pxa pxn pxc PX) := HPX2.out.sees
  have HPY : Hid (Sees wq pa pn pc PY) := HPY2.out.sees
  clear HF2 HQ2 HB2 HPX2 HPY2
  generalize pa = pya at HPY ⊢
  generalize pn = pyn at HPY ⊢
  generalize pc = pyc at HPY ⊢
  refine wp_region_noPanic ?_
  refine wp_region_held_drew (S := fun W => wq.grownBy W none) (by kernel_rfl) (grown_drew _ _) (fun hHeld => ?_)
  generalize wq.drew = wd0 at hHeld ⊢
  refine wpAnyH_take (i := 0) (v := .pointer (some ⟨w.heap.size, 3, none⟩)) rfl (by kernel_rfl) (by kernel_rfl) (by kernel_rfl) (fun _ _ _ h => h) (Or.inl ⟨by kernel_rfl, ?_⟩) (by assumption) ?_
  · intro wq hSq; go_simp
  try simp only [Act.put]
  refine wpAnyH_take (i := 1) (v := .agg #[.int .i64 (K : Int), .int .i64 3, .int .i64 R4]) rfl (by kernel_rfl) (by kernel_rfl) (by kernel_rfl) (fun _ _ _ h => h) (Or.inl ⟨by kernel_rfl, ?_⟩) (by assumption) ?_
  · intro wp hSp; have c0 : wp.cell? ⟨w.heap.size, 3, none⟩ = some (.int .i64 (K : Int)) := (HF.out.grown hSp (by simp)).at 3; have c1 : wp.cell? ⟨w.heap.size, 4, none⟩ = some (.int .i64 3) := (HF.out.grown hSp (by simp)).at 4; have c2 : wp.cell? ⟨w.heap.size, 5, none⟩ = some (.int .i64 R4) := (HF.out.grown hSp (by simp)).at 5; go_simp
  try simp only [Act.put]
  refine wpAnyH_take (i := 2) (v := .slice pxa pxn pxc) rfl (by kernel_rfl) (by kernel_rfl) (by kernel_rfl) (fun _ _ _ h => h) (Or.inl ⟨by kernel_rfl, ?_⟩) (by assumption) ?_
  · intro wq hSq; go_simp
  try simp only [Act.put]
  refine wpAnyH_take (i := 4) (v := .pointer (some ⟨w.heap.size, 3, none⟩)) rfl (by kernel_rfl) (by kernel_rfl) (by kernel_rfl) (fun _ _ _ h => h) (Or.inl ⟨by kernel_rfl, ?_⟩) (by assumption) ?_
  · intro wq hSq; go_simp
  try simp only [Act.put]
  refine wpAnyH_take (i := 5) (v := .agg #[.int .i64 (K : Int), .int .i64 3, .int .i64 R4]) rfl (by kernel_rfl) (by kernel_rfl) (by kernel_rfl) (fun _ _ _ h => h) (Or.inl ⟨by kernel_rfl, ?_⟩) (by assumption) ?_
  · intro wp hSp; have c0 : wp.cell? ⟨w.heap.size, 3, none⟩ = some (.int .i64 (K : Int)) := (HF.out.grown hSp (by simp)).at 3; have c1 : wp.cell? ⟨w.heap.size, 4, none⟩ = some (.int .i64 3) := (HF.out.grown hSp (by simp)).at 4; have c2 : wp.cell? ⟨w.heap.size, 5, none⟩ = some (.int .i64 R4) := (HF.out.grown hSp (by simp)).at 5; go_simp
  try simp only [Act.put]
  refine wpAnyH_take (i := 6) (v := .slice pya pyn pyc) rfl (by kernel_rfl) (by kernel_rfl) (by kernel_rfl) (fun _ _ _ h => h) (Or.inl ⟨by kernel_rfl, ?_⟩) (by assumption) ?_
  · intro wq hSq; go_simp
  try simp only [Act.put]
  refine wpAnyH_ready (rs := [3]) (by kernel_rfl) (by simp) ?_
  refine AllReadyH.cons rfl (fun Kk hK => ?_) AllReadyH.nil
  go_simp
  refine (CVX.out _ (HPX.out.grownR hHeld (by simp))).mono ?_
  rintro e w3 ⟨xa, xc, rfl, ho3, hb3⟩
  go_simp
  have hS3 : wq.grownBy w3 none := grown_step hHeld hb3
  have HX3 : Hid (Owns 73 w3 wd0.heap.size xa K xc VX) := ho3
  refine hK.out _ _ hS3 (fun _ => ?_)
  clear hK Kk hb3
  clear ho3
  try simp only [Act.put]
  refine wpAnyH_ready (rs := [7]) (by kernel_rfl) (by simp) ?_
  refine AllReadyH.cons rfl (fun Kk hK => ?_) AllReadyH.nil
  go_simp
  refine (CVY.out _ (HPY.out.grownR hS3 (by simp))).mono ?_
  rintro e w4 ⟨ya, yc, rfl, ho4, hb4⟩
  go_simp
  have hS4 : wq.grownBy w4 none := grown_step hS3 hb4
  have HY4 : Hid (Owns 73 w4 w3.heap.size ya K yc VY) := ho4
  have HX4 : Hid (Owns 73 w4 wd0.heap.size xa K xc VX) := HX3.out.below hb4
  refine hK.out _ _ hS4 (fun _ => ?_)
  clear hK Kk hb4
  clear ho4
  try simp only [Act.put]
  refine wpAnyH_ready (rs := [8]) (by kernel_rfl) (by simp) ?_
  refine AllReadyH.cons rfl (fun Kk hK => ?_) AllReadyH.nil
  go_simp
  refine (pairsOf_any _ HX4.out.sees HY4.out.sees hKb).mono ?_
  rintro e w5 ⟨oa, oc, rfl, ho5, hb5⟩
  go_simp
  have hS5 : wq.grownBy w5 none := grown_step hS4 hb5
  have HR5 : Hid (OwnsQ 75 w5 w.heap.size oa K oc (M.zipP VX VY K)) := ho5.mono (Nat.le_trans HBq.out.size hS4.size)
  refine hK.out _ _ hS5 (fun _ => ?_)
  clear hK Kk hb5
  clear ho5
  try simp only [Act.put]
  refine wpAnyH_take (i := 9) (v := .slice oa K oc) rfl (by kernel_rfl) (by kernel_rfl) (by kernel_rfl) (fun _ _ _ h => h) (Or.inl ⟨by kernel_rfl, ?_⟩) (by assumption) ?_
  · intro wq hSq; go_simp
  try simp only [Act.put]
  refine wpAnyH_done (by kernel_rfl) ?_ _
  refine NoPanic.normal ?_
  go_simp
  have HBz : Hid (Below w.heap.size w w5) := HBq.out.grown hS5 HBq.out.size (by simp)
  go_wp2
  go_ret
  exact ⟨oa, oc, rfl, HR5.out, HBz.out⟩
end Go.Proofs.YtbcfjbkmkknmfaaGreatDoor
namespace Go.Proofs.YtbcfjbkmkknmfaaGreatDoor
open Go.RowKit

theorem M.fsts_get (ps : List (Int × Int)) (i : Nat) : (M.fsts ps).getD i 0 = (ps.getD i (0, 0)).1 := by
  unfold M.fsts; rw [List.getD_eq_getElem?_getD, List.getD_eq_getElem?_getD, List.getElem?_map]
  cases ps[i]? <;> rfl
theorem M.snds_get (ps : List (Int × Int)) (i : Nat) : (M.snds ps).getD i 0 = (ps.getD i (0, 0)).2 := by
  unfold M.snds; rw [List.getD_eq_getElem?_getD, List.getD_eq_getElem?_getD, List.getElem?_map]
  cases ps[i]? <;> rfl
theorem M.fsts_tab {ps : List (Int × Int)} {k : Nat} {f : Nat → Int} (hl : ps.length = k) (h : ∀ i, i < k → (ps.getD i (0, 0)).1 = f i) : M.fsts ps = M.tab k f :=
  M.tab_ext (by rw [M.fsts_len, hl]) fun i hi => by rw [M.fsts_get, h i hi]
theorem M.snds_tab {ps : List (Int × Int)} {k : Nat} {f : Nat → Int} (hl : ps.length = k) (h : ∀ i, i < k → (ps.getD i (0, 0)).2 = f i) : M.snds ps = M.tab k f :=
  M.tab_ext (by rw [M.snds_len, hl]) fun i hi => by rw [M.snds_get, h i hi]
theorem M.run_getD (m : M.Mc) (s : Int × Int) {n i : Nat} (h : i ≤ n) : (m.run s n).getD i (0, 0) = m.rn s i := by
  unfold M.Mc.run; simp [List.getD_eq_getElem?_getD, show i < n + 1 by omega]
theorem M.run_fsts (m : M.Mc) (s : Int × Int) {N : Nat} (h : 0 < N) : M.fsts (m.run s (N - 1)) = M.xsR m s N :=
  M.fsts_tab (by rw [M.run_len]; omega) fun i hi => by rw [M.run_getD m s (by omega)]
theorem M.run_snds (m : M.Mc) (s : Int × Int) {N : Nat} (h : 0 < N) : M.snds (m.run s (N - 1)) = M.ysR m s N :=
  M.snds_tab (by rw [M.run_len]; omega) fun i hi => by rw [M.run_getD m s (by omega)]
theorem M.list_tab {l : List Int} {k : Nat} (h : l.length = k) : l = M.tab k (fun i => l.getD i 0) := M.tab_ext h fun _ _ => rfl
theorem M.zip_fsts {X Y : List Int} {k : Nat} (h : X.length = k) : M.fsts (M.zipP X Y k) = X :=
  (M.fsts_tab (M.zipP_len X Y k) fun i hi => by rw [M.zipP_get X Y hi]).trans (M.list_tab h).symm
theorem M.zip_snds {X Y : List Int} {k : Nat} (h : Y.length = k) : M.snds (M.zipP X Y k) = Y :=
  (M.snds_tab (M.zipP_len X Y k) fun i hi => by rw [M.zipP_get X Y hi]).trans (M.list_tab h).symm
theorem M.missAt_fst (m : M.Mc) (X Y : List Int) {N i : Nat} (h : i < 4 * N) : (M.missAt m (M.zipP X Y (4 * N)) N i).1 = M.mis m.X X Y X N i := by
  unfold M.missAt M.mis M.Mc.nx; rw [M.zipP_get X Y h, M.zipP_get X Y (Nat.mod_lt _ (by omega))]
theorem M.missAt_snd (m : M.Mc) (X Y : List Int) {N i : Nat} (h : i < 4 * N) : (M.missAt m (M.zipP X Y (4 * N)) N i).2 = M.mis m.Y X Y Y N i := by
  unfold M.missAt M.mis M.Mc.nx; rw [M.zipP_get X Y h, M.zipP_get X Y (Nat.mod_lt _ (by omega))]
theorem M.quo_fsts (m : M.Mc) (X Y : List Int) (N : Nat) : M.fsts (M.tabP (4 * N) (M.quoAt m (M.zipP X Y (4 * N)) N)) = M.quo m.X X Y X N :=
  M.fsts_tab (M.tabP_len _ _) fun i hi => by rw [M.tabP_get _ hi]; unfold M.quoAt; rw [M.missAt_fst m X Y hi]
theorem M.quo_snds (m : M.Mc) (X Y : List Int) (N : Nat) : M.snds (M.tabP (4 * N) (M.quoAt m (M.zipP X Y (4 * N)) N)) = M.quo m.Y X Y Y N :=
  M.snds_tab (M.tabP_len _ _) fun i hi => by rw [M.tabP_get _ hi]; unfold M.quoAt; rw [M.missAt_snd m X Y hi]
theorem M.zip_ok {X Y : List Int} {k : Nat} (hx : M.allEl X = true) (hy : M.allEl Y = true) : ∀ i, i < k → M.sOk ((M.zipP X Y k).getD i (0, 0)) = true := fun i hi => by
  rw [M.zipP_get X Y hi]; exact (M.sOk_iff _).2 ⟨M.el_at hx i, M.el_at hy i⟩
end Go.Proofs.YtbcfjbkmkknmfaaGreatDoor
namespace Go.Proofs.YtbcfjbkmkknmfaaGreatDoor
open Go.RowKit

set_option maxHeartbeats 4000000 in
set_option maxRecDepth 10000 in
theorem implProved_out (m : M.Mc) (s : Int × Int) (n : Int) (w : World) (h : M.provOk m s n = false) :
    Calls Tryz.prog 9 #[mcv m, stv s, .int .i64 n] w fun e w' => e = .returned (.tuple #[.agg #[.int .i64 0, .int .i64 0, .int .i64 0, .int .i64 0, .slice none 0 0, .slice none 0 0, .slice none 0 0, .slice none 0 0], .bool false]) ∧ Below w.heap.size w w' := by
  have C1 := stepperOf_any m
  have C2 := statePair_any s
  have C3 : ∀ W, Calls Tryz.prog 34 #[.int .i64 n] W fun e w' => ∃ g0 g1 g2 g3 g4 g5 g6 : Int, e = .returned (.tuple #[.agg #[.int .i64 g0, .int .i64 g1, .int .i64 g2, .int .i64 g3, .int .i64 g4, .int .i64 g5, .int .i64 g6], .bool (M.rows n)]) ∧ Below W.heap.size W w' := fun W => by
    cases hr : M.rows n with
    | false => exact (frameOf_out n W hr).mono fun e w' ⟨h1, h2⟩ => ⟨0, 0, 0, 0, 0, 0, 0, h1, h2⟩
    | true =>
      obtain ⟨N, rfl, hN⟩ := M.rowsN_of hr
      exact (frameOf_in N W hN).mono fun e w' ⟨h1, h2⟩ => ⟨_, _, _, _, _, _, _, h1, h2⟩
  have hno := M.provOk_no h
  clear h
  obtain ⟨⟨a, b, c, d, f, k⟩, ⟨a', b', c', d', f', k'⟩⟩ := m
  obtain ⟨x, y⟩ := s
  dsimp only [mcv, stv] at C1 C2 ⊢
  generalize M.Mc.ok ⟨⟨a, b, c, d, f, k⟩, ⟨a', b', c', d', f', k'⟩⟩ = o1 at C1 hno
  generalize M.sOk (x, y) = o2 at C2 hno
  generalize M.rows n = o3 at C3 hno
  have HS0 : Hid (Lies (((w.alloc (.cells #[.int .i64 a, .int .i64 b, .int .i64 c, .int .i64 d, .int .i64 f, .int .i64 k, .int .i64 a', .int .i64 b', .int .i64 c', .int .i64 d', .int .i64 f', .int .i64 k'] 27)).alloc (.cells #[.int .i64 x, .int .i64 y] 29)).alloc (.cells #[.int .i64 0, .int .i64 0, .int .i64 0, .int .i64 0, .slice none 0 0, .slice none 0 0, .slice none 0 0, .slice none 0 0] 34)) (w.heap.size + 1) [.int .i64 x, .int .i64 y]) := (lies_new2 _ _ _ _).alloc _
  have HZ0 : Hid (Lies (((w.alloc (.cells #[.int .i64 a, .int .i64 b, .int .i64 c, .int .i64 d, .int .i64 f, .int .i64 k, .int .i64 a', .int .i64 b', .int .i64 c', .int .i64 d', .int .i64 f', .int .i64 k'] 27)).alloc (.cells #[.int .i64 x, .int .i64 y] 29)).alloc (.cells #[.int .i64 0, .int .i64 0, .int .i64 0, .int .i64 0, .slice none 0 0, .slice none 0 0, .slice none 0 0, .slice none 0 0] 34)) (w.heap.size + 1 + 1) [.int .i64 0, .int .i64 0, .int .i64 0, .int .i64 0, .slice none 0 0, .slice none 0 0, .slice none 0 0, .slice none 0 0]) := lies_new3 _ _ _ _ _
  have HB0 : Hid (Below w.heap.size w (((w.alloc (.cells #[.int .i64 a, .int .i64 b, .int .i64 c, .int .i64 d, .int .i64 f, .int .i64 k, .int .i64 a', .int .i64 b', .int .i64 c', .int .i64 d', .int .i64 f', .int .i64 k'] 27)).alloc (.cells #[.int .i64 x, .int .i64 y] 29)).alloc (.cells #[.int .i64 0, .int .i64 0, .int .i64 0, .int .i64 0, .slice none 0 0, .slice none 0 0, .slice none 0 0, .slice none 0 0] 34))) := (((Below.refl _ _).alloc (Nat.le_refl _) _).alloc (by simp) _).alloc (by simp; omega) _
  have fin : o1 = false ∨ o2 = false ∨ o3 = false := by
    rcases hno with rfl | ⟨-, rfl⟩ | ⟨-, -, rfl⟩
    · exact .inl rfl
    · exact .inr (.inl rfl)
    · exact .inr (.inr rfl)
  have HFN : Hid (o1 = false ∨ o2 = false ∨ o3 = false) := fin
  clear hno fin
  go_enter Tryz.func9, Tryz.ntmps9
  go_wp2_with fail
  refine (C1 _).mono ?_
  rintro e w1 ⟨m', rfl, -, hb1⟩
  generalize mcv m' = mv
  have HS1 : Hid (Lies w1 (w.heap.size + 1) [.int .i64 x, .int .i64 y]) := HS0.out.belowS hb1
  have HZ1 : Hid (Lies w1 (w.heap.size + 1 + 1) [.int .i64 0, .int .i64 0, .int .i64 0, .int .i64 0, .slice none 0 0, .slice none 0 0, .slice none 0 0, .slice none 0 0]) := HZ0.out.belowS hb1
  have HB1 : Hid (Below w.heap.size w w1) := HB0.out.trans (hb1.mono HB0.out.size)
  have s0 : w1.cell? ⟨w.heap.size + 1, 0, none⟩ = some (.int .i64 x) := HS1.out.at 0
  have s1 : w1.cell? ⟨w.heap.size + 1, 1, none⟩ = some (.int .i64 y) := HS1.out.at 1
  clear hb1 HS0 HZ0 HB0 C1
  go_wp2_with fail
  refine (C2 _).mono ?_
  rintro e w2 ⟨⟨p1, p2⟩, rfl, -, -, hb2⟩
  dsimp only [stv]
  have HZ2 : Hid (Lies (w2.alloc (.cells #[.int .i64 p1, .int .i64 p2] 75)) (w.heap.size + 1 + 1) [.int .i64 0, .int .i64 0, .int .i64 0, .int .i64 0, .slice none 0 0, .slice none 0 0, .slice none 0 0, .slice none 0 0]) := (HZ1.out.belowS hb2).alloc _
  have HB2 : Hid (Below w.heap.size w (w2.alloc (.cells #[.int .i64 p1, .int .i64 p2] 75))) := (HB1.out.trans (hb2.mono HB1.out.size)).alloc (Nat.le_trans HB1.out.size hb2.size) _
  clear hb2 HS1 HZ1 HB1 C2 s0 s1
  go_wp2_with fail
  refine (C3 _).mono ?_
  rintro e w3 ⟨g0, g1, g2, g3, g4, g5, g6, rfl, hb3⟩
  have HZ3 : Hid (Lies (w3.alloc (.cells #[.int .i64 g0, .int .i64 g1, .int .i64 g2, .int .i64 g3, .int .i64 g4, .int .i64 g5, .int .i64 g6] 81)) (w.heap.size + 1 + 1) [.int .i64 0, .int .i64 0, .int .i64 0, .int .i64 0, .slice none 0 0, .slice none 0 0, .slice none 0 0, .slice none 0 0]) := (HZ2.out.belowS hb3).alloc _
  have HB3 : Hid (Below w.heap.size w (w3.alloc (.cells #[.int .i64 g0, .int .i64 g1, .int .i64 g2, .int .i64 g3, .int .i64 g4, .int .i64 g5, .int .i64 g6] 81))) := (HB2.out.trans (hb3.mono HB2.out.size)).alloc (Nat.le_trans HB2.out.size hb3.size) _
  clear hb3 HZ2 HB2 C3
  cases o1 <;> cases o2 <;> cases o3
  all_goals first
    | (exfalso; rcases HFN.out with h | h | h <;> cases h; done)
    | (go_wp2_with (with_reducible refine wpList_stop 42 ?_ ?_; rfl)
       generalize w3.alloc (.cells #[.int .i64 g0, .int .i64 g1, .int .i64 g2, .int .i64 g3, .int .i64 g4, .int .i64 g5, .int .i64 g6] 81) = w4 at HZ3 HB3 ⊢
       have HZT : Hid (w4.there (w.heap.size + 1 + 1) 0 8) := HZ3.out.there 0 8 (by simp)
       have HZ4 : Hid (Lies (w4.setCells (w.heap.size + 1 + 1) 0 [.int .i64 0, .int .i64 0, .int .i64 0, .int .i64 0, .slice none 0 0, .slice none 0 0, .slice none 0 0, .slice none 0 0]) (w.heap.size + 1 + 1) [.int .i64 0, .int .i64 0, .int .i64 0, .int .i64 0, .slice none 0 0, .slice none 0 0, .slice none 0 0, .slice none 0 0]) := HZ3.out.setCells [.int .i64 0, .int .i64 0, .int .i64 0, .int .i64 0, .slice none 0 0, .slice none 0 0, .slice none 0 0, .slice none 0 0] 0 (by simp)
       have HB4 : Hid (Below w.heap.size w (w4.setCells (w.heap.size + 1 + 1) 0 [.int .i64 0, .int .i64 0, .int .i64 0, .int .i64 0, .slice none 0 0, .slice none 0 0, .slice none 0 0, .slice none 0 0])) := below_setCells _ 0 HB3.out (by omega)
       show wpList _ _ _ _ _ _
       go_wp2_with (with_reducible refine wpList_stopn ?_ ?_; rfl)
       show wpList _ _ _ _ _ _
       with_reducible refine wpList_store_mid ?_ 34 (.tmp 6) (.tmp 42) ?_ (w.heap.size + 1 + 1) 0 ([.int .i64 0, .int .i64 0, .int .i64 0, .int .i64 0, .slice none 0 0, .slice none 0 0, .slice none 0 0, .slice none 0 0]).toArray ?_ ?_ ?_ (by kernel_rfl) (by kernel_rfl) ?_
       · exact rfl
       · exact rfl
       · exact rfl
       · exact rfl
       · exact HZT.out
       generalize w4.setCells (w.heap.size + 1 + 1) 0 [.int .i64 0, .int .i64 0, .int .i64 0, .int .i64 0, .slice none 0 0, .slice none 0 0, .slice none 0 0, .slice none 0 0] = wz at HZ4 HB4 ⊢
       go_wp2
       exact bodyPost_ret (results_cell_tmp rfl rfl (run_loadVar_mid wz (w.heap.size + 1 + 1) 0 34 _ _ HZ4.out.row Tryz.underlying34 rfl (by kernel_rfl))) rfl ⟨rfl, HB4.out⟩)
end Go.Proofs.YtbcfjbkmkknmfaaGreatDoor
namespace Go.Proofs.YtbcfjbkmkknmfaaGreatDoor
open Go.RowKit

set_option maxHeartbeats 8000000 in
set_option maxRecDepth 10000 in
theorem implProved_in (m : M.Mc) (s : Int × Int) (N : Nat) (w : World) (hm : m.ok = true) (hs : M.sOk s = true) (h : M.rowsN N = true) :
    Calls Tryz.prog 9 #[mcv m, stv s, .int .i64 N] w fun e w' => ∃ (xa : Option Addr) (xc : Nat) (ya : Option Addr) (yc : Nat) (qxa : Option Addr) (qxc : Nat) (qya : Option Addr) (qyc : Nat), e = .returned (.tuple #[.agg #[.int .i64 s.1, .int .i64 s.2, .int .i64 (m.rn s (N - 1)).1, .int .i64 (m.rn s (N - 1)).2, .slice xa (4 * N) xc, .slice ya (4 * N) yc, .slice qxa (4 * N) qxc, .slice qya (4 * N) qyc], .bool true]) ∧
      (Owns 2 w' w.heap.size xa (4 * N) xc (m.pf s N).X ∧ Owns 2 w' w.heap.size ya (4 * N) yc (m.pf s N).Y ∧ Owns 2 w' w.heap.size qxa (4 * N) qxc (m.pf s N).QX ∧ Owns 2 w' w.heap.size qya (4 * N) qyc (m.pf s N).QY) ∧ (far xa ya ∧ far xa qxa ∧ far xa qya ∧ far ya qxa ∧ far ya qya ∧ far qxa qya) ∧ Below w.heap.size w w' := by
  have hb16 := M.rowsN_pos h
  obtain ⟨K, hK⟩ : ∃ K : Nat, K = 4 * N := ⟨_, rfl⟩
  have hK4 : K ≤ 64 := by omega
  have C1 : ∀ W, Calls Tryz.prog 32 #[mcv m] W fun e w' => e = .returned (.tuple #[.iface 133 (mcv m), .bool true]) ∧ Below W.heap.size W w' := fun W => (stepperOf_any m W).mono fun e w' ⟨m', h1, h2, h3⟩ => by
    rw [hm] at h1; exact ⟨by rw [h1, h2 hm], h3⟩
  have C2 : ∀ W, Calls Tryz.prog 33 #[stv s] W fun e w' => e = .returned (.tuple #[stv s, .bool true]) ∧ Below W.heap.size W w' := fun W => (statePair_any s W).mono fun e w' ⟨p, h1, h2, h3, h4⟩ => by
    rw [hs] at h1; exact ⟨by rw [h1, h3 hs], h4⟩
  have C3 := fun W => frameOf_in N W h
  have C4 : ∀ W, Calls Tryz.prog 35 #[.iface 133 (mcv m), stv s, .int .i64 ((N : Int) - 1)] W fun e w' => ∃ a cap, e = .returned (.slice a N cap) ∧ OwnsQ 75 w' W.heap.size a N cap (m.run s (N - 1)) ∧ Below W.heap.size W w' := fun W => by
    have := runFrom_any m s (N - 1) W hm hs (by omega)
    rw [show N - 1 + 1 = N by omega, show ((N - 1 : Nat) : Int) = (N : Int) - 1 by omega] at this
    exact this
  have hrs : ∀ i, i < N → M.sOk ((m.run s (N - 1)).getD i (0, 0)) = true := fun i hi => by rw [M.run_getD m s (by omega)]; exact M.sOk_rn m hs i
  have C5 : Hid (∀ (W : World) {a : Option Addr} {c : Nat}, SeesQ W a N c (m.run s (N - 1)) → Calls Tryz.prog 36 #[frv N, .slice a N c] W fun e w' => ∃ a' c', e = .returned (.slice a' (4 * N) c') ∧ OwnsQ 75 w' W.heap.size a' (4 * N) c' (M.zipP (m.pf s N).X (m.pf s N).Y (4 * N)) ∧ Below W.heap.size W w') := fun W _ _ hW => by
    have := widened_any N W h hW hrs
    rw [M.run_fsts m s (by omega), M.run_snds m s (by omega)] at this
    exact this
  have C6 : Hid (∀ (W : World) {a : Option Addr} {c : Nat}, SeesQ W a (4 * N) c (M.zipP (m.pf s N).X (m.pf s N).Y (4 * N)) → Calls Tryz.prog 37 #[frv N, .iface 133 (mcv m), .slice a (4 * N) c] W fun e w' => ∃ a' c', e = .returned (.slice a' (4 * N) c') ∧ OwnsQ 75 w' W.heap.size a' (4 * N) c' (M.tabP (4 * N) (M.quoAt m (M.zipP (m.pf s N).X (m.pf s N).Y (4 * N)) N)) ∧ Below W.heap.size W w') := fun W _ _ hW => quotients_any m N W h hm hW (M.zip_ok (M.wide_all _ _) (M.wide_all _ _))
  have CX1 : Hid (∀ (W : World) {a : Option Addr} {c : Nat}, SeesQ W a (4 * N) c (M.zipP (m.pf s N).X (m.pf s N).Y (4 * N)) → Calls Tryz.prog 40 #[.slice a (4 * N) c] W fun e w' => ∃ a' cap', e = .returned (.slice a' (4 * N) cap') ∧ Owns 73 w' W.heap.size a' (4 * N) cap' (m.pf s N).X ∧ Below W.heap.size W w') := fun W _ _ hW => by
    have := xsOf_any W hW (by omega); rw [M.zip_fsts (M.pf_lens m s N).1] at this; exact this
  have CY1 : Hid (∀ (W : World) {a : Option Addr} {c : Nat}, SeesQ W a (4 * N) c (M.zipP (m.pf s N).X (m.pf s N).Y (4 * N)) → Calls Tryz.prog 41 #[.slice a (4 * N) c] W fun e w' => ∃ a' cap', e = .returned (.slice a' (4 * N) cap') ∧ Owns 73 w' W.heap.size a' (4 * N) cap' (m.pf s N).Y ∧ Below W.heap.size W w') := fun W _ _ hW => by
    have := ysOf_any W hW (by omega); rw [M.zip_snds (M.pf_lens m s N).2.1] at this; exact this
  have CX2 : Hid (∀ (W : World) {a : Option Addr} {c : Nat}, SeesQ W a (4 * N) c (M.tabP (4 * N) (M.quoAt m (M.zipP (m.pf s N).X (m.pf s N).Y (4 * N)) N)) → Calls Tryz.prog 40 #[.slice a (4 * N) c] W fun e w' => ∃ a' cap', e = .returned (.slice a' (4 * N) cap') ∧ Owns 73 w' W.heap.size a' (4 * N) cap' (m.pf s N).QX ∧ Below W.heap.size W w') := fun W _ _ hW => by
    have := xsOf_any W hW (by omega); rw [M.quo_fsts] at this; exact this
  have CY2 : Hid (∀ (W : World) {a : Option Addr} {c : Nat}, SeesQ W a (4 * N) c (M.tabP (4 * N) (M.quoAt m (M.zipP (m.pf s N).X (m.pf s N).Y (4 * N)) N)) → Calls Tryz.prog 41 #[.slice a (4 * N) c] W fun e w' => ∃ a' cap', e = .returned (.slice a' (4 * N) cap') ∧ Owns 73 w' W.heap.size a' (4 * N) cap' (m.pf s N).QY ∧ Below W.heap.size W w') := fun W _ _ hW => by
    have := ysOf_any W hW (by omega); rw [M.quo_snds] at this; exact this
  have CST : Hid (∀ W, Calls Tryz.prog 38 #[stv (m.rn s (N - 1))] W fun e w' => e = .returned (stv (m.rn s (N - 1))) ∧ Below W.heap.size W w') := fun W => state_any _ W
  have HLast : Hid ((m.run s (N - 1)).getD (N - 1) (0, 0) = m.rn s (N - 1)) := M.run_getD m s (Nat.le_refl _)
  simp only [← hK] at C5 C6 CX1 CY1 CX2 CY2 ⊢
  generalize M.tabP K (M.quoAt m (M.zipP (m.pf s N).X (m.pf s N).Y K) N) = US at C6 CX2 CY2
  generalize M.zipP (m.pf s N).X (m.pf s N).Y K = VS at C5 C6 CX1 CY1
  generalize (m.pf s N).X = PX at CX1 ⊢
  generalize (m.pf s N).Y = PY at CY1 ⊢
  generalize (m.pf s N).QX = QX at CX2 ⊢
  generalize (m.pf s N).QY = QY at CY2 ⊢
  generalize m.run s (N - 1) = RN at C4 C5 HLast
  generalize m.rn s (N - 1) = en at HLast CST ⊢
  generalize Value.iface 133 (mcv m) = IF at C1 C4 C6
  obtain ⟨⟨a, b, c, d, f, k⟩, ⟨a', b', c', d', f', k'⟩⟩ := m
  obtain ⟨x, y⟩ := s
  obtain ⟨ex, ey⟩ := en
  unfold frv at C3 C5 C6
  dsimp only [mcv, stv] at C1 C2 C4 CST ⊢
  generalize M.root (N : Int) = R1 at C3 C5 C6
  generalize M.root (4 * (N : Int)) = R4 at C3 C5 C6
  generalize M.lst N = la at C3 C5 C6
  have hNw : IntKind.i64.wrap ((N : Int) - 1) = (N : Int) - 1 := by rw [IntKind.wrap_i64]; omega
  have hNb : (N : Int) ≤ 16 := by omega
  have hNl : (2 : Int) ≤ (N : Int) := by omega
  have hK0 : 0 < K := by omega
  have hN0 : 0 < N := by omega
  have hi0 : (0 : Int) ≤ (N : Int) - 1 := by omega
  have hi2 : ¬ (N : Int) < 1 := by omega
  have hi1 : (N : Int) - 1 < (N : Int) := by omega
  have hNt : ((N : Int) - 1).toNat = N - 1 := by omega
  have HS0 : Hid (Lies (((w.alloc (.cells #[.int .i64 a, .int .i64 b, .int .i64 c, .int .i64 d, .int .i64 f, .int .i64 k, .int .i64 a', .int .i64 b', .int .i64 c', .int .i64 d', .int .i64 f', .int .i64 k'] 27)).alloc (.cells #[.int .i64 x, .int .i64 y] 29)).alloc (.cells #[.int .i64 0, .int .i64 0, .int .i64 0, .int .i64 0, .slice none 0 0, .slice none 0 0, .slice none 0 0, .slice none 0 0] 34)) (w.heap.size + 1) [.int .i64 x, .int .i64 y]) := (lies_new2 _ _ _ _).alloc _
  have HZ0 : Hid (Lies (((w.alloc (.cells #[.int .i64 a, .int .i64 b, .int .i64 c, .int .i64 d, .int .i64 f, .int .i64 k, .int .i64 a', .int .i64 b', .int .i64 c', .int .i64 d', .int .i64 f', .int .i64 k'] 27)).alloc (.cells #[.int .i64 x, .int .i64 y] 29)).alloc (.cells #[.int .i64 0, .int .i64 0, .int .i64 0, .int .i64 0, .slice none 0 0, .slice none 0 0, .slice none 0 0, .slice none 0 0] 34)) (w.heap.size + 1 + 1) [.int .i64 0, .int .i64 0, .int .i64 0, .int .i64 0, .slice none 0 0, .slice none 0 0, .slice none 0 0, .slice none 0 0]) := lies_new3 _ _ _ _ _
  have HB0 : Hid (Below w.heap.size w (((w.alloc (.cells #[.int .i64 a, .int .i64 b, .int .i64 c, .int .i64 d, .int .i64 f, .int .i64 k, .int .i64 a', .int .i64 b', .int .i64 c', .int .i64 d', .int .i64 f', .int .i64 k'] 27)).alloc (.cells #[.int .i64 x, .int .i64 y] 29)).alloc (.cells #[.int .i64 0, .int .i64 0, .int .i64 0, .int .i64 0, .slice none 0 0, .slice none 0 0, .slice none 0 0, .slice none 0 0] 34))) := (((Below.refl _ _).alloc (Nat.le_refl _) _).alloc (by simp) _).alloc (by simp; omega) _
  clear hm hs h hrs hK
  go_enter Tryz.func9, Tryz.ntmps9
  go_wp2_with fail
  refine (C1 _).mono ?_
  rintro e w1 ⟨rfl, hb1⟩
  have HS1 : Hid (Lies w1 (w.heap.size + 1) [.int .i64 x, .int .i64 y]) := HS0.out.belowS hb1
  have HZ1 : Hid (Lies w1 (w.heap.size + 1 + 1) [.int .i64 0, .int .i64 0, .int .i64 0, .int .i64 0, .slice none 0 0, .slice none 0 0, .slice none 0 0, .slice none 0 0]) := HZ0.out.belowS hb1
  have HB1 : Hid (Below w.heap.size w w1) := HB0.out.trans (hb1.mono HB0.out.size)
  have s0 : w1.cell? ⟨w.heap.size + 1, 0, none⟩ = some (.int .i64 x) := HS1.out.at 0
  have s1 : w1.cell? ⟨w.heap.size + 1, 1, none⟩ = some (.int .i64 y) := HS1.out.at 1
  clear hb1 HS0 HZ0 HB0 C1
  go_wp2_with fail
  refine (C2 _).mono ?_
  rintro e w2 ⟨rfl, hb2⟩
  have HS2 : Hid (Lies (w2.alloc (.cells #[.int .i64 x, .int .i64 y] 75)) (w.heap.size + 1) [.int .i64 x, .int .i64 y]) := (HS1.out.belowS hb2).alloc _
  have HZ2 : Hid (Lies (w2.alloc (.cells #[.int .i64 x, .int .i64 y] 75)) (w.heap.size + 1 + 1) [.int .i64 0, .int .i64 0, .int .i64 0, .int .i64 0, .slice none 0 0, .slice none 0 0, .slice none 0 0, .slice none 0 0]) := (HZ1.out.belowS hb2).alloc _
  have HP2 : Hid (Lies (w2.alloc (.cells #[.int .i64 x, .int .i64 y] 75)) w2.heap.size [.int .i64 x, .int .i64 y]) := lies_new _ _ _
  have HB2 : Hid (Below w.heap.size w (w2.alloc (.cells #[.int .i64 x, .int .i64 y] 75))) := (HB1.out.trans (hb2.mono HB1.out.size)).alloc (Nat.le_trans HB1.out.size hb2.size) _
  clear hb2 HS1 HZ1 HB1 C2 s0 s1
  go_wp2_with fail
  refine (C3 _).mono ?_
  rintro e w3 ⟨rfl, hb3⟩
  have HS3 : Hid (Lies (w3.alloc (.cells #[.int .i64 (N : Int), .int .i64 1, .int .i64 R1, .int .i64 (4 * (N : Int)), .int .i64 3, .int .i64 R4, .int .i64 la] 81)) (w.heap.size + 1) [.int .i64 x, .int .i64 y]) := (HS2.out.belowS hb3).alloc _
  have HZ3 : Hid (Lies (w3.alloc (.cells #[.int .i64 (N : Int), .int .i64 1, .int .i64 R1, .int .i64 (4 * (N : Int)), .int .i64 3, .int .i64 R4, .int .i64 la] 81)) (w.heap.size + 1 + 1) [.int .i64 0, .int .i64 0, .int .i64 0, .int .i64 0, .slice none 0 0, .slice none 0 0, .slice none 0 0, .slice none 0 0]) := (HZ2.out.belowS hb3).alloc _
  have HP3 : Hid (Lies (w3.alloc (.cells #[.int .i64 (N : Int), .int .i64 1, .int .i64 R1, .int .i64 (4 * (N : Int)), .int .i64 3, .int .i64 R4, .int .i64 la] 81)) w2.heap.size [.int .i64 x, .int .i64 y]) := (HP2.out.belowS hb3).alloc _
  have HF3 : Hid (Lies (w3.alloc (.cells #[.int .i64 (N : Int), .int .i64 1, .int .i64 R1, .int .i64 (4 * (N : Int)), .int .i64 3, .int .i64 R4, .int .i64 la] 81)) w3.heap.size [.int .i64 (N : Int), .int .i64 1, .int .i64 R1, .int .i64 (4 * (N : Int)), .int .i64 3, .int .i64 R4, .int .i64 la]) := lies_new _ _ _
  have HB3 : Hid (Below w.heap.size w (w3.alloc (.cells #[.int .i64 (N : Int), .int .i64 1, .int .i64 R1, .int .i64 (4 * (N : Int)), .int .i64 3, .int .i64 R4, .int .i64 la] 81))) := (HB2.out.trans (hb3.mono HB2.out.size)).alloc (Nat.le_trans HB2.out.size hb3.size) _
  clear hb3 HS2 HZ2 HP2 HB2 C3
  have p0 : (w3.alloc (.cells #[.int .i64 (N : Int), .int .i64 1, .int .i64 R1, .int .i64 (4 * (N : Int)), .int .i64 3, .int .i64 R4, .int .i64 la] 81)).cell? ⟨w2.heap.size, 0, none⟩ = some (.int .i64 x) := HP3.out.at 0
  have p1 : (w3.alloc (.cells #[.int .i64 (N : Int), .int .i64 1, .int .i64 R1, .int .i64 (4 * (N : Int)), .int .i64 3, .int .i64 R4, .int .i64 la] 81)).cell? ⟨w2.heap.size, 1, none⟩ = some (.int .i64 y) := HP3.out.at 1
  go_wp2_with fail
  generalize w3.alloc (.cells #[.int .i64 (N : Int), .int .i64 1, .int .i64 R1, .int .i64 (4 * (N : Int)), .int .i64 3, .int .i64 R4, .int .i64 la] 81) = w4 at HS3 HZ3 HP3 HF3 HB3 p0 p1 ⊢
  generalize w2.heap.size = pb at HP3 p0 p1 ⊢
  generalize w3.heap.size = fb at HF3 ⊢
  refine (C4 _).mono ?_
  rintro e w5 ⟨ra, rc, rfl, ho5, hb5⟩
  have HR5 : Hid (OwnsQ 75 w5 w4.heap.size ra N rc RN) := ho5
  have HS5 : Hid (Lies w5 (w.heap.size + 1) [.int .i64 x, .int .i64 y]) := HS3.out.belowS hb5
  have HZ5 : Hid (Lies w5 (w.heap.size + 1 + 1) [.int .i64 0, .int .i64 0, .int .i64 0, .int .i64 0, .slice none 0 0, .slice none 0 0, .slice none 0 0, .slice none 0 0]) := HZ3.out.belowS hb5
  have HF5 : Hid (Lies w5 fb [.int .i64 (N : Int), .int .i64 1, .int .i64 R1, .int .i64 (4 * (N : Int)), .int .i64 3, .int .i64 R4, .int .i64 la]) := HF3.out.belowS hb5
  have HB5 : Hid (Below w.heap.size w w5) := HB3.out.trans (hb5.mono HB3.out.size)
  have HZlt : Hid ((w.heap.size + 1 + 1) < w4.heap.size) := HZ3.out.2.2
  have HS56 : Hid (w4.heap.size ≤ w5.heap.size) := hb5.size
  have f0 : w5.cell? ⟨fb, 0, none⟩ = some (.int .i64 (N : Int)) := HF5.out.at 0
  have f1 : w5.cell? ⟨fb, 1, none⟩ = some (.int .i64 1) := HF5.out.at 1
  have f2 : w5.cell? ⟨fb, 2, none⟩ = some (.int .i64 R1) := HF5.out.at 2
  have f3 : w5.cell? ⟨fb, 3, none⟩ = some (.int .i64 (4 * (N : Int))) := HF5.out.at 3
  have f4 : w5.cell? ⟨fb, 4, none⟩ = some (.int .i64 3) := HF5.out.at 4
  have f5 : w5.cell? ⟨fb, 5, none⟩ = some (.int .i64 R4) := HF5.out.at 5
  have f6 : w5.cell? ⟨fb, 6, none⟩ = some (.int .i64 la) := HF5.out.at 6
  clear ho5 hb5 p0 p1 HS3 HZ3 HP3 HF3 HB3 C4
  go_wp2_with fail
  refine (C5.out _ (HR5.out.sees hN0)).mono ?_
  rintro e w6 ⟨va, vc, rfl, ho6, hb6⟩
  have HV6 : Hid (OwnsQ 75 w6 w5.heap.size va K vc VS) := ho6
  have HR6 : Hid (OwnsQ 75 w6 w4.heap.size ra N rc RN) := HR5.out.below hb6
  have HS6 : Hid (Lies w6 (w.heap.size + 1) [.int .i64 x, .int .i64 y]) := HS5.out.belowS hb6
  have HZ6 : Hid (Lies w6 (w.heap.size + 1 + 1) [.int .i64 0, .int .i64 0, .int .i64 0, .int .i64 0, .slice none 0 0, .slice none 0 0, .slice none 0 0, .slice none 0 0]) := HZ5.out.belowS hb6
  have HF6 : Hid (Lies w6 fb [.int .i64 (N : Int), .int .i64 1, .int .i64 R1, .int .i64 (4 * (N : Int)), .int .i64 3, .int .i64 R4, .int .i64 la]) := HF5.out.belowS hb6
  have HB6 : Hid (Below w.heap.size w w6) := HB5.out.trans (hb6.mono HB5.out.size)
  have HS67 : Hid (w5.heap.size ≤ w6.heap.size) := hb6.size
  clear ho6 hb6 f0 f1 f2 f3 f4 f5 f6 HR5 HS5 HZ5 HF5 HB5 C5
  have f0 : w6.cell? ⟨fb, 0, none⟩ = some (.int .i64 (N : Int)) := HF6.out.at 0
  have f1 : w6.cell? ⟨fb, 1, none⟩ = some (.int .i64 1) := HF6.out.at 1
  have f2 : w6.cell? ⟨fb, 2, none⟩ = some (.int .i64 R1) := HF6.out.at 2
  have f3 : w6.cell? ⟨fb, 3, none⟩ = some (.int .i64 (4 * (N : Int))) := HF6.out.at 3
  have f4 : w6.cell? ⟨fb, 4, none⟩ = some (.int .i64 3) := HF6.out.at 4
  have f5 : w6.cell? ⟨fb, 5, none⟩ = some (.int .i64 R4) := HF6.out.at 5
  have f6 : w6.cell? ⟨fb, 6, none⟩ = some (.int .i64 la) := HF6.out.at 6
  go_wp2_with fail
  refine (C6.out _ (HV6.out.sees hK0)).mono ?_
  rintro e wq ⟨ua, uc, rfl, ho7, hb7⟩
  have HUq0 : Hid (OwnsQ 75 wq w6.heap.size ua K uc US) := ho7
  have HVq0 : Hid (OwnsQ 75 wq w5.heap.size va K vc VS) := HV6.out.below hb7
  have HRq0 : Hid (OwnsQ 75 wq w4.heap.size ra N rc RN) := HR6.out.below hb7
  have HSt : Hid (Lies wq (w.heap.size + 1) [.int .i64 x, .int .i64 y]) := HS6.out.belowS hb7
  have HZq : Hid (Lies wq (w.heap.size + 1 + 1) [.int .i64 0, .int .i64 0, .int .i64 0, .int .i64 0, .slice none 0 0, .slice none 0 0, .slice none 0 0, .slice none 0 0]) := HZ6.out.belowS hb7
  have HBq : Hid (Below w.heap.size w wq) := HB6.out.trans (hb7.mono HB6.out.size)
  clear ho7 hb7 f0 f1 f2 f3 f4 f5 f6 HV6 HR6 HS6 HZ6 HF6 HB6 C6
  obtain ⟨rb0, hra, hlo, -, -, hcs⟩ := HRq0.out.block hN0
  subst hra
  have hcl := hcs (N - 1) (by omega)
  rw [HLast.out] at hcl
  have HEn : Hid (wq.cell? ⟨rb0, (N - 1) * 2, none⟩ = some (.int .i64 ex) ∧ wq.cell? ⟨rb0, (N - 1) * 2 + 1, none⟩ = some (.int .i64 ey)) := hcl
  have HRb : Hid (some rb0 ≠ some (w.heap.size + 1 + 1)) := fun e => by injection e with e; have := HZlt.out; omega
  have HVq : Hid (SeesQ wq va K vc VS) := HVq0.out.sees hK0
  have HUq : Hid (SeesQ wq ua K uc US) := HUq0.out.sees hK0
  have HVn : Hid (∀ z, va = some z → some (w.heap.size + 1 + 1) ≠ some z.block) := fun z hz e => by
    subst hz; injection e with e
    have h1 := (World.ownsRow.lt HVq0.out.2 z.block rfl).1; have := HZlt.out; have := HS56.out; omega
  have HUn : Hid (∀ z, ua = some z → some (w.heap.size + 1 + 1) ≠ some z.block) := fun z hz e => by
    subst hz; injection e with e
    have h1 := (World.ownsRow.lt HUq0.out.2 z.block rfl).1; have := HZlt.out; have := HS56.out; have := HS67.out; omega
  have HRBQ : Hid ((w.heap.size + 1 + 1) < wq.heap.size) := HZq.out.2.2
  clear hcs hcl hlo HRq0 HLast HVq0 HUq0
  go_wp2
  refine wp_region_noPanic ?_
  refine wp_region_held_drew (S := fun W => wq.grownBy W (some (w.heap.size + 1 + 1))) (by kernel_rfl) (grown_drew _ _) (fun hHeld => ?_)
  have HZd : Hid (Lies wq.drew (w.heap.size + 1 + 1) [.int .i64 0, .int .i64 0, .int .i64 0, .int .i64 0, .slice none 0 0, .slice none 0 0, .slice none 0 0, .slice none 0 0]) := HZq.out.below (Below.refl _ _).drew HZq.out.2.2
  generalize wq.drew = wd0 at hHeld HZd ⊢
  refine wpAnyH_take (i := 0) (v := .agg #[.int .i64 x, .int .i64 y]) rfl (by kernel_rfl) (by kernel_rfl) (by kernel_rfl) (fun _ _ _ h => h) (Or.inl ⟨by kernel_rfl, ?_⟩) (by assumption) ?_
  · intro wp hSp; have c0 : wp.cell? ⟨w.heap.size + 1, 0, none⟩ = some (.int .i64 x) := (HSt.out.grown hSp (by simp)).at 0; have c1 : wp.cell? ⟨w.heap.size + 1, 1, none⟩ = some (.int .i64 y) := (HSt.out.grown hSp (by simp)).at 1; go_simp
  try simp only [Act.put]
  refine wpAnyH_take (i := 1) (v := .slice (some ⟨rb0, 0, none⟩) N rc) rfl (by kernel_rfl) (by kernel_rfl) (by kernel_rfl) (fun _ _ _ h => h) (Or.inl ⟨by kernel_rfl, ?_⟩) (by assumption) ?_
  · intro wq hSq; go_simp
  try simp only [Act.put]
  refine wpAnyH_take (i := 2) (v := .slice (some ⟨rb0, 0, none⟩) N rc) rfl (by kernel_rfl) (by kernel_rfl) (by kernel_rfl) (fun _ _ _ h => h) (Or.inl ⟨by kernel_rfl, ?_⟩) (by assumption) ?_
  · intro wq hSq; go_simp
  try simp only [Act.put]
  refine wpAnyH_take (i := 3) (v := .int .i64 (N : Int)) rfl (by kernel_rfl) (by kernel_rfl) (by kernel_rfl) (fun _ _ _ h => h) (Or.inl ⟨by kernel_rfl, ?_⟩) (by assumption) ?_
  · intro wq hSq; go_simp
  try simp only [Act.put]
  refine wpAnyH_take (i := 4) (v := .int .i64 ((N : Int) - 1)) rfl (by kernel_rfl) (by kernel_rfl) (by kernel_rfl) (fun _ _ _ h => h) (Or.inl ⟨by kernel_rfl, ?_⟩) (by assumption) ?_
  · intro wq hSq; go_simp
  try simp only [Act.put]
  refine wpAnyH_take (i := 5) (v := .pointer (some ⟨rb0, (N - 1) * 2, none⟩)) rfl (by kernel_rfl) (by kernel_rfl) (by kernel_rfl) (fun _ _ _ h => h) (Or.inl ⟨by kernel_rfl, ?_⟩) (by assumption) ?_
  · intro wq hSq; go_simp
  try simp only [Act.put]
  refine wpAnyH_take (i := 6) (v := .agg #[.int .i64 ex, .int .i64 ey]) rfl (by kernel_rfl) (by kernel_rfl) (by kernel_rfl) (fun _ _ _ h => h) (Or.inl ⟨by kernel_rfl, ?_⟩) (by assumption) ?_
  · intro wp hSp; have c0 : wp.cell? ⟨rb0, (N - 1) * 2, none⟩ = some (.int .i64 ex) := hSp.cell HEn.out.1 HRb.out; have c1 : wp.cell? ⟨rb0, (N - 1) * 2 + 1, none⟩ = some (.int .i64 ey) := hSp.cell HEn.out.2 HRb.out; go_simp
  try simp only [Act.put]
  refine wpAnyH_take (i := 8) (v := .slice va K vc) rfl (by kernel_rfl) (by kernel_rfl) (by kernel_rfl) (fun _ _ _ h => h) (Or.inl ⟨by kernel_rfl, ?_⟩) (by assumption) ?_
  · intro wq hSq; go_simp
  try simp only [Act.put]
  refine wpAnyH_take (i := 11) (v := .slice va K vc) rfl (by kernel_rfl) (by kernel_rfl) (by kernel_rfl) (fun _ _ _ h => h) (Or.inl ⟨by kernel_rfl, ?_⟩) (by assumption) ?_
  · intro wq hSq; go_simp
  try simp only [Act.put]
  refine wpAnyH_take (i := 14) (v := .slice ua K uc) rfl (by kernel_rfl) (by kernel_rfl) (by kernel_rfl) (fun _ _ _ h => h) (Or.inl ⟨by kernel_rfl, ?_⟩) (by assumption) ?_
  · intro wq hSq; go_simp
  try simp only [Act.put]
  refine wpAnyH_take (i := 17) (v := .slice ua K uc) rfl (by kernel_rfl) (by kernel_rfl) (by kernel_rfl) (fun _ _ _ h => h) (Or.inl ⟨by kernel_rfl, ?_⟩) (by assumption) ?_
  · intro wq hSq; go_simp
  try simp only [Act.put]
  refine wpAnyH_ready (rs := [7]) (by kernel_rfl) (by simp) ?_
  refine AllReadyH.cons rfl (fun Kk hK => ?_) AllReadyH.nil
  go_simp
  refine (CST.out _).mono ?_
  rintro e wg1 ⟨rfl, hb1⟩
  go_simp
  have hS1 : wq.grownBy wg1 (some (w.heap.size + 1 + 1)) := grown_step hHeld hb1
  have HM1 : Hid (wd0.heap.size ≤ wg1.heap.size) := hb1.size
  have HZd1 : Hid (Lies wg1 (w.heap.size + 1 + 1) [.int .i64 0, .int .i64 0, .int .i64 0, .int .i64 0, .slice none 0 0, .slice none 0 0, .slice none 0 0, .slice none 0 0]) := HZd.out.belowS hb1
  refine hK.out _ _ hS1 (fun _ => ?_)
  clear hK Kk hb1
  try simp only [Act.put]
  refine wpAnyH_ready (rs := [9]) (by kernel_rfl) (by simp) ?_
  refine AllReadyH.cons rfl (fun Kk hK => ?_) AllReadyH.nil
  go_simp
  refine (CX1.out _ (HVq.out.grownR hS1 HVn.out)).mono ?_
  rintro e wg2 ⟨tA, tcA, rfl, hoA, hb2⟩
  go_simp
  have hS2 : wq.grownBy wg2 (some (w.heap.size + 1 + 1)) := grown_step hS1 hb2
  have HM2 : Hid (wg1.heap.size ≤ wg2.heap.size) := hb2.size
  have HZd2 : Hid (Lies wg2 (w.heap.size + 1 + 1) [.int .i64 0, .int .i64 0, .int .i64 0, .int .i64 0, .slice none 0 0, .slice none 0 0, .slice none 0 0, .slice none 0 0]) := HZd1.out.belowS hb2
  have HTA2 : Hid (Owns 73 wg2 wg1.heap.size tA K tcA PX) := hoA
  refine hK.out _ _ hS2 (fun _ => ?_)
  clear hK Kk hb2
  clear hoA
  try simp only [Act.put]
  refine wpAnyH_ready (rs := [10]) (by kernel_rfl) (by simp) ?_
  refine AllReadyH.cons rfl (fun Kk hK => ?_) AllReadyH.nil
  go_simp
  refine (numbersOf_any _ HTA2.out.sees (by omega)).mono ?_
  rintro e wg3 ⟨xa, xc, rfl, hpA, hb3⟩
  go_simp
  have hS3 : wq.grownBy wg3 (some (w.heap.size + 1 + 1)) := grown_step hS2 hb3
  have HTA3 : Hid (Owns 73 wg3 wg1.heap.size tA K tcA PX) := HTA2.out.below hb3
  have HM3 : Hid (wg2.heap.size ≤ wg3.heap.size) := hb3.size
  have HZd3 : Hid (Lies wg3 (w.heap.size + 1 + 1) [.int .i64 0, .int .i64 0, .int .i64 0, .int .i64 0, .slice none 0 0, .slice none 0 0, .slice none 0 0, .slice none 0 0]) := HZd2.out.belowS hb3
  have HVA3 : Hid (Owns 2 wg3 wg2.heap.size xa K xc PX) := hpA
  refine hK.out _ _ hS3 (fun _ => ?_)
  clear hK Kk hb3
  have HLA : Hid (∀ z, xa = some z → wg2.heap.size ≤ z.block ∧ z.block < wg3.heap.size) := fun z hz => ⟨hpA.lo z hz, hpA.hi z hz⟩
  clear hpA
  try simp only [Act.put]
  refine wpAnyH_ready (rs := [12]) (by kernel_rfl) (by simp) ?_
  refine AllReadyH.cons rfl (fun Kk hK => ?_) AllReadyH.nil
  go_simp
  refine (CY1.out _ (HVq.out.grownR hS3 HVn.out)).mono ?_
  rintro e wg4 ⟨tB, tcB, rfl, hoB, hb4⟩
  go_simp
  have hS4 : wq.grownBy wg4 (some (w.heap.size + 1 + 1)) := grown_step hS3 hb4
  have HTA4 : Hid (Owns 73 wg4 wg1.heap.size tA K tcA PX) := HTA3.out.below hb4
  have HVA4 : Hid (Owns 2 wg4 wg2.heap.size xa K xc PX) := HVA3.out.below hb4
  have HM4 : Hid (wg3.heap.size ≤ wg4.heap.size) := hb4.size
  have HZd4 : Hid (Lies wg4 (w.heap.size + 1 + 1) [.int .i64 0, .int .i64 0, .int .i64 0, .int .i64 0, .slice none 0 0, .slice none 0 0, .slice none 0 0, .slice none 0 0]) := HZd3.out.belowS hb4
  have HTB4 : Hid (Owns 73 wg4 wg3.heap.size tB K tcB PY) := hoB
  refine hK.out _ _ hS4 (fun _ => ?_)
  clear hK Kk hb4
  clear hoB
  try simp only [Act.put]
  refine wpAnyH_ready (rs := [13]) (by kernel_rfl) (by simp) ?_
  refine AllReadyH.cons rfl (fun Kk hK => ?_) AllReadyH.nil
  go_simp
  refine (numbersOf_any _ HTB4.out.sees (by omega)).mono ?_
  rintro e wg5 ⟨ya, yc, rfl, hpB, hb5⟩
  go_simp
  have hS5 : wq.grownBy wg5 (some (w.heap.size + 1 + 1)) := grown_step hS4 hb5
  have HTA5 : Hid (Owns 73 wg5 wg1.heap.size tA K tcA PX) := HTA4.out.below hb5
  have HVA5 : Hid (Owns 2 wg5 wg2.heap.size xa K xc PX) := HVA4.out.below hb5
  have HTB5 : Hid (Owns 73 wg5 wg3.heap.size tB K tcB PY) := HTB4.out.below hb5
  have HM5 : Hid (wg4.heap.size ≤ wg5.heap.size) := hb5.size
  have HZd5 : Hid (Lies wg5 (w.heap.size + 1 + 1) [.int .i64 0, .int .i64 0, .int .i64 0, .int .i64 0, .slice none 0 0, .slice none 0 0, .slice none 0 0, .slice none 0 0]) := HZd4.out.belowS hb5
  have HVB5 : Hid (Owns 2 wg5 wg4.heap.size ya K yc PY) := hpB
  refine hK.out _ _ hS5 (fun _ => ?_)
  clear hK Kk hb5
  have HLB : Hid (∀ z, ya = some z → wg4.heap.size ≤ z.block ∧ z.block < wg5.heap.size) := fun z hz => ⟨hpB.lo z hz, hpB.hi z hz⟩
  clear hpB
  try simp only [Act.put]
  refine wpAnyH_ready (rs := [15]) (by kernel_rfl) (by simp) ?_
  refine AllReadyH.cons rfl (fun Kk hK => ?_) AllReadyH.nil
  go_simp
  refine (CX2.out _ (HUq.out.grownR hS5 HUn.out)).mono ?_
  rintro e wg6 ⟨tC, tcC, rfl, hoC, hb6⟩
  go_simp
  have hS6 : wq.grownBy wg6 (some (w.heap.size + 1 + 1)) := grown_step hS5 hb6
  have HTA6 : Hid (Owns 73 wg6 wg1.heap.size tA K tcA PX) := HTA5.out.below hb6
  have HVA6 : Hid (Owns 2 wg6 wg2.heap.size xa K xc PX) := HVA5.out.below hb6
  have HTB6 : Hid (Owns 73 wg6 wg3.heap.size tB K tcB PY) := HTB5.out.below hb6
  have HVB6 : Hid (Owns 2 wg6 wg4.heap.size ya K yc PY) := HVB5.out.below hb6
  have HM6 : Hid (wg5.heap.size ≤ wg6.heap.size) := hb6.size
  have HZd6 : Hid (Lies wg6 (w.heap.size + 1 + 1) [.int .i64 0, .int .i64 0, .int .i64 0, .int .i64 0, .slice none 0 0, .slice none 0 0, .slice none 0 0, .slice none 0 0]) := HZd5.out.belowS hb6
  have HTC6 : Hid (Owns 73 wg6 wg5.heap.size tC K tcC QX) := hoC
  refine hK.out _ _ hS6 (fun _ => ?_)
  clear hK Kk hb6
  clear hoC
  try simp only [Act.put]
  refine wpAnyH_ready (rs := [16]) (by kernel_rfl) (by simp) ?_
  refine AllReadyH.cons rfl (fun Kk hK => ?_) AllReadyH.nil
  go_simp
  refine (numbersOf_any _ HTC6.out.sees (by omega)).mono ?_
  rintro e wg7 ⟨qxa, qxc, rfl, hpC, hb7⟩
  go_simp
  have hS7 : wq.grownBy wg7 (some (w.heap.size + 1 + 1)) := grown_step hS6 hb7
  have HTA7 : Hid (Owns 73 wg7 wg1.heap.size tA K tcA PX) := HTA6.out.below hb7
  have HVA7 : Hid (Owns 2 wg7 wg2.heap.size xa K xc PX) := HVA6.out.below hb7
  have HTB7 : Hid (Owns 73 wg7 wg3.heap.size tB K tcB PY) := HTB6.out.below hb7
  have HVB7 : Hid (Owns 2 wg7 wg4.heap.size ya K yc PY) := HVB6.out.below hb7
  have HTC7 : Hid (Owns 73 wg7 wg5.heap.size tC K tcC QX) := HTC6.out.below hb7
  have HM7 : Hid (wg6.heap.size ≤ wg7.heap.size) := hb7.size
  have HZd7 : Hid (Lies wg7 (w.heap.size + 1 + 1) [.int .i64 0, .int .i64 0, .int .i64 0, .int .i64 0, .slice none 0 0, .slice none 0 0, .slice none 0 0, .slice none 0 0]) := HZd6.out.belowS hb7
  have HVC7 : Hid (Owns 2 wg7 wg6.heap.size qxa K qxc QX) := hpC
  refine hK.out _ _ hS7 (fun _ => ?_)
  clear hK Kk hb7
  have HLC : Hid (∀ z, qxa = some z → wg6.heap.size ≤ z.block ∧ z.block < wg7.heap.size) := fun z hz => ⟨hpC.lo z hz, hpC.hi z hz⟩
  clear hpC
  try simp only [Act.put]
  refine wpAnyH_ready (rs := [18]) (by kernel_rfl) (by simp) ?_
  refine AllReadyH.cons rfl (fun Kk hK => ?_) AllReadyH.nil
  go_simp
  refine (CY2.out _ (HUq.out.grownR hS7 HUn.out)).mono ?_
  rintro e wg8 ⟨tD, tcD, rfl, hoD, hb8⟩
  go_simp
  have hS8 : wq.grownBy wg8 (some (w.heap.size + 1 + 1)) := grown_step hS7 hb8
  have HTA8 : Hid (Owns 73 wg8 wg1.heap.size tA K tcA PX) := HTA7.out.below hb8
  have HVA8 : Hid (Owns 2 wg8 wg2.heap.size xa K xc PX) := HVA7.out.below hb8
  have HTB8 : Hid (Owns 73 wg8 wg3.heap.size tB K tcB PY) := HTB7.out.below hb8
  have HVB8 : Hid (Owns 2 wg8 wg4.heap.size ya K yc PY) := HVB7.out.below hb8
  have HTC8 : Hid (Owns 73 wg8 wg5.heap.size tC K tcC QX) := HTC7.out.below hb8
  have HVC8 : Hid (Owns 2 wg8 wg6.heap.size qxa K qxc QX) := HVC7.out.below hb8
  have HM8 : Hid (wg7.heap.size ≤ wg8.heap.size) := hb8.size
  have HZd8 : Hid (Lies wg8 (w.heap.size + 1 + 1) [.int .i64 0, .int .i64 0, .int .i64 0, .int .i64 0, .slice none 0 0, .slice none 0 0, .slice none 0 0, .slice none 0 0]) := HZd7.out.belowS hb8
  have HTD8 : Hid (Owns 73 wg8 wg7.heap.size tD K tcD QY) := hoD
  refine hK.out _ _ hS8 (fun _ => ?_)
  clear hK Kk hb8
  clear hoD
  try simp only [Act.put]
  refine wpAnyH_ready (rs := [19]) (by kernel_rfl) (by simp) ?_
  refine AllReadyH.cons rfl (fun Kk hK => ?_) AllReadyH.nil
  go_simp
  refine (numbersOf_any _ HTD8.out.sees (by omega)).mono ?_
  rintro e wg9 ⟨qya, qyc, rfl, hpD, hb9⟩
  go_simp
  have hS9 : wq.grownBy wg9 (some (w.heap.size + 1 + 1)) := grown_step hS8 hb9
  have HTA9 : Hid (Owns 73 wg9 wg1.heap.size tA K tcA PX) := HTA8.out.below hb9
  have HVA9 : Hid (Owns 2 wg9 wg2.heap.size xa K xc PX) := HVA8.out.below hb9
  have HTB9 : Hid (Owns 73 wg9 wg3.heap.size tB K tcB PY) := HTB8.out.below hb9
  have HVB9 : Hid (Owns 2 wg9 wg4.heap.size ya K yc PY) := HVB8.out.below hb9
  have HTC9 : Hid (Owns 73 wg9 wg5.heap.size tC K tcC QX) := HTC8.out.below hb9
  have HVC9 : Hid (Owns 2 wg9 wg6.heap.size qxa K qxc QX) := HVC8.out.below hb9
  have HTD9 : Hid (Owns 73 wg9 wg7.heap.size tD K tcD QY) := HTD8.out.below hb9
  have HM9 : Hid (wg8.heap.size ≤ wg9.heap.size) := hb9.size
  have HZd9 : Hid (Lies wg9 (w.heap.size + 1 + 1) [.int .i64 0, .int .i64 0, .int .i64 0, .int .i64 0, .slice none 0 0, .slice none 0 0, .slice none 0 0, .slice none 0 0]) := HZd8.out.belowS hb9
  have HVD9 : Hid (Owns 2 wg9 wg8.heap.size qya K qyc QY) := hpD
  refine hK.out _ _ hS9 (fun _ => ?_)
  clear hK Kk hb9
  have HLD : Hid (∀ z, qya = some z → wg8.heap.size ≤ z.block ∧ z.block < wg9.heap.size) := fun z hz => ⟨hpD.lo z hz, hpD.hi z hz⟩
  clear hpD
  try simp only [Act.put]
  refine wpAnyH_take (i := 20) (v := .agg #[.int .i64 x, .int .i64 y, .int .i64 ex, .int .i64 ey, .slice xa K xc, .slice ya K yc, .slice qxa K qxc, .slice qya K qyc]) rfl (by kernel_rfl) (by kernel_rfl) (by kernel_rfl) (fun _ _ _ h => h) (Or.inl ⟨by kernel_rfl, ?_⟩) (by assumption) ?_
  · intro wq hSq; go_simp
  try simp only [Act.put]
  refine wpAnyH_ready (rs := [21]) (by kernel_rfl) (by simp) ?_
  refine AllReadyH.cons rfl (fun Kk hK => ?_) AllReadyH.nil
  rw [if_pos (by kernel_rfl)]
  with_reducible refine wp_store_mid 34 (.tmp 6) (.tmp 75) ?_ (w.heap.size + 1 + 1) 0 ([.int .i64 x, .int .i64 y, .int .i64 ex, .int .i64 ey, .slice xa K xc, .slice ya K yc, .slice qxa K qxc, .slice qya K qyc]).toArray ?_ ?_ ?_ (by kernel_rfl) (by kernel_rfl) ?_
  · exact rfl
  · exact rfl
  · exact rfl
  · exact HZd9.out.there 0 8 (by simp)
  have hSz : wq.grownBy (wg9.setCells (w.heap.size + 1 + 1) 0 [.int .i64 x, .int .i64 y, .int .i64 ex, .int .i64 ey, .slice xa K xc, .slice ya K yc, .slice qxa K qxc, .slice qya K qyc]) (some (w.heap.size + 1 + 1)) := grown_cells hS9 0 _
  have HPz : Hid (Lies (wg9.setCells (w.heap.size + 1 + 1) 0 [.int .i64 x, .int .i64 y, .int .i64 ex, .int .i64 ey, .slice xa K xc, .slice ya K yc, .slice qxa K qxc, .slice qya K qyc]) (w.heap.size + 1 + 1) [.int .i64 x, .int .i64 y, .int .i64 ex, .int .i64 ey, .slice xa K xc, .slice ya K yc, .slice qxa K qxc, .slice qya K qyc]) := HZd9.out.setCells [.int .i64 x, .int .i64 y, .int .i64 ex, .int .i64 ey, .slice xa K xc, .slice ya K yc, .slice qxa K qxc, .slice qya K qyc] 0 (by simp)
  have hcz : wg9.grownBy (wg9.setCells (w.heap.size + 1 + 1) 0 [.int .i64 x, .int .i64 y, .int .i64 ex, .int .i64 ey, .slice xa K xc, .slice ya K yc, .slice qxa K qxc, .slice qya K qyc]) (some (w.heap.size + 1 + 1)) := grown_cells (World.grownBy.refl _ _) 0 _
  refine hK.out _ _ hSz (fun _ => ?_)
  clear hK Kk
  generalize wg9.setCells (w.heap.size + 1 + 1) 0 [.int .i64 x, .int .i64 y, .int .i64 ex, .int .i64 ey, .slice xa K xc, .slice ya K yc, .slice qxa K qxc, .slice qya K qyc] = wz at hSz HPz hcz ⊢
  try simp only [Act.put]
  refine wpAnyH_take (i := 22) (v := .bool true) rfl (by kernel_rfl) (by kernel_rfl) (by kernel_rfl) (fun _ _ _ h => h) (Or.inl ⟨by kernel_rfl, ?_⟩) (by assumption) ?_
  · intro wq hSq; go_simp
  try simp only [Act.put]
  refine wpAnyH_done (by kernel_rfl) ?_ _
  refine NoPanic.normal ?_
  go_simp
  have HWA : Hid (Owns 2 wz w.heap.size xa K xc PX) := (HVA9.out.grownR hcz (fun z hz e => by have := (HLA.out z hz).1; have := HRBQ.out; have := hS1.size; have := hS2.size; have := hS3.size; have := hS4.size; have := hS5.size; have := hS6.size; have := hS7.size; have := hS8.size; have := hS9.size; injection e with e; omega)).mono (by have := HRBQ.out; have := hS1.size; have := hS2.size; have := hS3.size; have := hS4.size; have := hS5.size; have := hS6.size; have := hS7.size; have := hS8.size; have := hS9.size; omega)
  have HWB : Hid (Owns 2 wz w.heap.size ya K yc PY) := (HVB9.out.grownR hcz (fun z hz e => by have := (HLB.out z hz).1; have := HRBQ.out; have := hS1.size; have := hS2.size; have := hS3.size; have := hS4.size; have := hS5.size; have := hS6.size; have := hS7.size; have := hS8.size; have := hS9.size; injection e with e; omega)).mono (by have := HRBQ.out; have := hS1.size; have := hS2.size; have := hS3.size; have := hS4.size; have := hS5.size; have := hS6.size; have := hS7.size; have := hS8.size; have := hS9.size; omega)
  have HWC : Hid (Owns 2 wz w.heap.size qxa K qxc QX) := (HVC9.out.grownR hcz (fun z hz e => by have := (HLC.out z hz).1; have := HRBQ.out; have := hS1.size; have := hS2.size; have := hS3.size; have := hS4.size; have := hS5.size; have := hS6.size; have := hS7.size; have := hS8.size; have := hS9.size; injection e with e; omega)).mono (by have := HRBQ.out; have := hS1.size; have := hS2.size; have := hS3.size; have := hS4.size; have := hS5.size; have := hS6.size; have := hS7.size; have := hS8.size; have := hS9.size; omega)
  have HWD : Hid (Owns 2 wz w.heap.size qya K qyc QY) := (HVD9.out.grownR hcz (fun z hz e => by have := (HLD.out z hz).1; have := HRBQ.out; have := hS1.size; have := hS2.size; have := hS3.size; have := hS4.size; have := hS5.size; have := hS6.size; have := hS7.size; have := hS8.size; have := hS9.size; injection e with e; omega)).mono (by have := HRBQ.out; have := hS1.size; have := hS2.size; have := hS3.size; have := hS4.size; have := hS5.size; have := hS6.size; have := hS7.size; have := hS8.size; have := hS9.size; omega)
  have HXAB : Hid (far xa ya) := fun z1 z2 h1 h2 e => by have := (HLA.out z1 h1).2; have := (HLB.out z2 h2).1; have := HM1.out; have := HM2.out; have := HM3.out; have := HM4.out; have := HM5.out; have := HM6.out; have := HM7.out; have := HM8.out; have := HM9.out; omega
  have HXAC : Hid (far xa qxa) := fun z1 z2 h1 h2 e => by have := (HLA.out z1 h1).2; have := (HLC.out z2 h2).1; have := HM1.out; have := HM2.out; have := HM3.out; have := HM4.out; have := HM5.out; have := HM6.out; have := HM7.out; have := HM8.out; have := HM9.out; omega
  have HXAD : Hid (far xa qya) := fun z1 z2 h1 h2 e => by have := (HLA.out z1 h1).2; have := (HLD.out z2 h2).1; have := HM1.out; have := HM2.out; have := HM3.out; have := HM4.out; have := HM5.out; have := HM6.out; have := HM7.out; have := HM8.out; have := HM9.out; omega
  have HXBC : Hid (far ya qxa) := fun z1 z2 h1 h2 e => by have := (HLB.out z1 h1).2; have := (HLC.out z2 h2).1; have := HM1.out; have := HM2.out; have := HM3.out; have := HM4.out; have := HM5.out; have := HM6.out; have := HM7.out; have := HM8.out; have := HM9.out; omega
  have HXBD : Hid (far ya qya) := fun z1 z2 h1 h2 e => by have := (HLB.out z1 h1).2; have := (HLD.out z2 h2).1; have := HM1.out; have := HM2.out; have := HM3.out; have := HM4.out; have := HM5.out; have := HM6.out; have := HM7.out; have := HM8.out; have := HM9.out; omega
  have HXCD : Hid (far qxa qya) := fun z1 z2 h1 h2 e => by have := (HLC.out z1 h1).2; have := (HLD.out z2 h2).1; have := HM1.out; have := HM2.out; have := HM3.out; have := HM4.out; have := HM5.out; have := HM6.out; have := HM7.out; have := HM8.out; have := HM9.out; omega
  have HBz : Hid (Below w.heap.size w wz) := HBq.out.grown hSz HBq.out.size (fun q hq => by injection hq with hq; omega)
  go_wp2
  exact bodyPost_ret (results_cell_tmp rfl rfl (run_loadVar_mid wz (w.heap.size + 1 + 1) 0 34 _ _ HPz.out.row Tryz.underlying34 rfl (by kernel_rfl))) rfl ⟨xa, xc, ya, yc, qxa, qxc, qya, qyc, rfl, ⟨HWA.out, HWB.out, HWC.out, HWD.out⟩, ⟨HXAB.out, HXAC.out, HXAD.out, HXBC.out, HXBD.out, HXCD.out⟩, HBz.out⟩
end Go.Proofs.YtbcfjbkmkknmfaaGreatDoor
