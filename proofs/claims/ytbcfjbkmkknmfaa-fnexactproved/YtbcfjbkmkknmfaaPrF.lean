/- Where a proof has its values: the frame. What is nought at the rows alone, at each point. By how much the values at a point miss the rules, times what is nought at the last row. The quotients, point by point. -/
import Derived.Test.YtbcfjbkmkknmfaaGrA
import Derived.Test.YtbcfjbkmkknmfaaRwA
import Derived.Test.YtbcfjbkmkknmfaaPrLaw
import Derived.Deep.RegionHeld3
namespace Go.Proofs.Ytbcfjbkmkknmfaa
open Go.RowKit

def frl (N : Nat) : List Value := [.int .i64 (N : Int), .int .i64 1, .int .i64 (M.root (N : Int)), .int .i64 (4 * (N : Int)), .int .i64 3, .int .i64 (M.root (4 * (N : Int))), .int .i64 (M.lst N)]
def frv (N : Nat) : Value := .agg #[.int .i64 (N : Int), .int .i64 1, .int .i64 (M.root (N : Int)), .int .i64 (4 * (N : Int)), .int .i64 3, .int .i64 (M.root (4 * (N : Int))), .int .i64 (M.lst N)]
theorem M.rowsI_of {N : Nat} (h : M.rowsN N = true) : M.rows (N : Int) = true := by
  rcases M.rowsN_cases h with rfl | rfl | rfl | rfl <;> rfl
theorem M.rowsN_of {n : Int} (h : M.rows n = true) : ∃ N : Nat, n = (N : Int) ∧ M.rowsN N = true := by
  rcases M.rows_yes h with rfl | rfl | rfl | rfl
  · exact ⟨2, rfl, rfl⟩
  · exact ⟨4, rfl, rfl⟩
  · exact ⟨8, rfl, rfl⟩
  · exact ⟨16, rfl, rfl⟩
set_option maxHeartbeats 2000000 in
theorem frameOf_out (n : Int) (w : World) (h : M.rows n = false) : Calls Try.prog 24 #[.int .i64 n] w fun e w' => e = .returned (.tuple #[.agg #[.int .i64 0, .int .i64 0, .int .i64 0, .int .i64 0, .int .i64 0, .int .i64 0, .int .i64 0], .bool false]) ∧ Below w.heap.size w w' := by
  have C1 := rowsOk_any n
  rw [h] at C1
  have HB : Hid (Below w.heap.size w (w.alloc (.cells #[.int .i64 0, .int .i64 0, .int .i64 0, .int .i64 0, .int .i64 0, .int .i64 0, .int .i64 0] 68))) := (Below.refl _ _).alloc (Nat.le_refl _) _
  go_enter Try.func24, Try.ntmps24
  go_wp2_with fail
  refine (C1 _).mono ?_
  rintro e w1 ⟨rfl, rfl⟩
  go_wp2
  refine bodyPost_ret (v := .tuple #[.agg #[.int .i64 0, .int .i64 0, .int .i64 0, .int .i64 0, .int .i64 0, .int .i64 0, .int .i64 0], .bool false]) (by simp [results, Try.results24, go_sem]) rfl ⟨rfl, ?_⟩
  exact HB.out
set_option maxHeartbeats 4000000 in
theorem frameOf_in (N : Nat) (w : World) (h : M.rowsN N = true) : Calls Try.prog 24 #[.int .i64 N] w fun e w' => e = .returned (.tuple #[frv N, .bool true]) ∧ Below w.heap.size w w' := by
  have C1 := rowsOk_any N
  rw [M.rowsI_of h] at C1
  have hp1 : M.ptOk (N : Int) 1 = true := M.row_pt (M.rowsN_two h)
  have hp4 : M.ptOk (4 * (N : Int)) 3 = true := by have := M.rowsN_pt h; rwa [show ((4 * N : Nat) : Int) = 4 * (N : Int) by omega] at this
  have C2 := fun W => placesOf_in (N : Int) 1 W hp1
  have C3 := fun W => placesOf_in (4 * (N : Int)) 3 W hp4
  have hb16 := M.rowsN_pos h
  have hr := (M.el_iff _).1 (M.root_el (M.two64_two (M.rowsN_two h)))
  have C4 := fun W => power_any (M.root (N : Int)) (N - 1) W hr.1 hr.2 (by omega)
  have HL : Hid (M.lst N = M.pw (M.root (N : Int)) (N - 1)) := rfl
  unfold frv
  rw [HL.out]
  generalize M.pw (M.root (N : Int)) (N - 1) = la at C4
  generalize M.root (N : Int) = R1 at C2 C4
  generalize M.root (4 * (N : Int)) = R4 at C3
  have hN1 : ((N - 1 : Nat) : Int) = (N : Int) - 1 := by omega
  rw [hN1] at C4
  have hNw : IntKind.i64.wrap ((N : Int) - 1) = (N : Int) - 1 := by rw [IntKind.wrap_i64]; omega
  have hNb : (N : Int) ≤ 16 := by omega
  have hNl : (2 : Int) ≤ (N : Int) := by omega
  have LZ : Hid (Lies (w.alloc (.cells #[.int .i64 0, .int .i64 0, .int .i64 0, .int .i64 0, .int .i64 0, .int .i64 0, .int .i64 0] 68)) w.heap.size [.int .i64 0, .int .i64 0, .int .i64 0, .int .i64 0, .int .i64 0, .int .i64 0, .int .i64 0]) := lies_new _ _ _
  have HB : Hid (Below w.heap.size w (w.alloc (.cells #[.int .i64 0, .int .i64 0, .int .i64 0, .int .i64 0, .int .i64 0, .int .i64 0, .int .i64 0] 68))) := (Below.refl _ _).alloc (Nat.le_refl _) _
  clear hp1 hp4 hr HL hN1 h hb16
  go_enter Try.func24, Try.ntmps24
  go_wp2_with fail
  refine (C1 _).mono ?_
  rintro e w1 ⟨rfl, rfl⟩
  go_wp2_with fail
  refine (C2 _).mono ?_
  rintro e w1 ⟨rfl, hb1⟩
  have LZ1 : Hid (Lies (w1.alloc (.cells #[.int .i64 (N : Int), .int .i64 1, .int .i64 R1] 66)) w.heap.size [.int .i64 0, .int .i64 0, .int .i64 0, .int .i64 0, .int .i64 0, .int .i64 0, .int .i64 0]) := (LZ.out.belowS hb1).alloc _
  have LN1 : Hid (Lies (w1.alloc (.cells #[.int .i64 (N : Int), .int .i64 1, .int .i64 R1] 66)) w1.heap.size [.int .i64 (N : Int), .int .i64 1, .int .i64 R1]) := lies_new _ _ _
  have HB1 : Hid (Below w.heap.size w (w1.alloc (.cells #[.int .i64 (N : Int), .int .i64 1, .int .i64 R1] 66))) := (HB.out.trans (hb1.mono HB.out.size)).alloc (Nat.le_trans HB.out.size hb1.size) _
  have HNB : Hid (w1.heap.size ≠ w.heap.size) := Nat.ne_of_gt (LZ.out.belowS hb1).2.2
  clear hb1 LZ HB
  go_wp2_with fail
  refine (C3 _).mono ?_
  rintro e w2 ⟨rfl, hb2⟩
  have HWB : Hid (w2.heap.size ≠ w.heap.size) := Nat.ne_of_gt (LZ1.out.belowS hb2).2.2
  have HZ2 : Hid (Lies (w2.alloc (.cells #[.int .i64 (4 * (N : Int)), .int .i64 3, .int .i64 R4] 66)) w.heap.size [.int .i64 0, .int .i64 0, .int .i64 0, .int .i64 0, .int .i64 0, .int .i64 0, .int .i64 0]) := (LZ1.out.belowS hb2).alloc _
  have HN2 : Hid (Lies (w2.alloc (.cells #[.int .i64 (4 * (N : Int)), .int .i64 3, .int .i64 R4] 66)) w1.heap.size [.int .i64 (N : Int), .int .i64 1, .int .i64 R1]) := (LN1.out.belowS hb2).alloc _
  have HW2 : Hid (Lies (w2.alloc (.cells #[.int .i64 (4 * (N : Int)), .int .i64 3, .int .i64 R4] 66)) w2.heap.size [.int .i64 (4 * (N : Int)), .int .i64 3, .int .i64 R4]) := lies_new _ _ _
  have HB2 : Hid (Below w.heap.size w (w2.alloc (.cells #[.int .i64 (4 * (N : Int)), .int .i64 3, .int .i64 R4] 66))) := (HB1.out.trans (hb2.mono HB1.out.size)).alloc (Nat.le_trans HB1.out.size hb2.size) _
  clear hb2 LZ1 LN1 HB1
  go_wp2
  generalize w2.alloc (.cells #[.int .i64 (4 * (N : Int)), .int .i64 3, .int .i64 R4] 66) = wa at *
  have HN : Hid (Lies wa w1.heap.size [.int .i64 (N : Int), .int .i64 1, .int .i64 R1]) := HN2.out
  have HW : Hid (Lies wa w2.heap.size [.int .i64 (4 * (N : Int)), .int .i64 3, .int .i64 R4]) := HW2.out
  have HZ : Hid (Lies wa.drew w.heap.size [.int .i64 0, .int .i64 0, .int .i64 0, .int .i64 0, .int .i64 0, .int .i64 0, .int .i64 0]) := HZ2.out.below (Below.refl _ _).drew HZ2.out.2.2
  refine wp_region_noPanic ?_
  refine wp_region_held_drew (S := fun W => Lies W w1.heap.size [.int .i64 (N : Int), .int .i64 1, .int .i64 R1] ∧ Lies W w2.heap.size [.int .i64 (4 * (N : Int)), .int .i64 3, .int .i64 R4]) (by kernel_rfl) (⟨HN.out.below (Below.refl _ _).drew HN.out.2.2, HW.out.below (Below.refl _ _).drew HW.out.2.2⟩) (fun hHeld => ?_)
  refine wpAnyH_take (i := 0) (v := .agg ([.int .i64 (N : Int), .int .i64 1, .int .i64 R1]).toArray) rfl (by kernel_rfl) (by kernel_rfl) (by kernel_rfl) (fun _ _ _ h => h) (yieldsIf_load_mid (by kernel_rfl) 66 (.tmp 4) rfl w1.heap.size 0 rfl ([.int .i64 (N : Int), .int .i64 1, .int .i64 R1]) _ (fun W h => h.1.row) Try.underlying66 rfl (by kernel_rfl)) (by assumption) ?_
  try simp only [Act.put]
  refine wpAnyH_take (i := 1) (v := .agg ([.int .i64 (4 * (N : Int)), .int .i64 3, .int .i64 R4]).toArray) rfl (by kernel_rfl) (by kernel_rfl) (by kernel_rfl) (fun _ _ _ h => h) (yieldsIf_load_mid (by kernel_rfl) 66 (.tmp 6) rfl w2.heap.size 0 rfl ([.int .i64 (4 * (N : Int)), .int .i64 3, .int .i64 R4]) _ (fun W h => h.2.row) Try.underlying66 rfl (by kernel_rfl)) (by assumption) ?_
  try simp only [Act.put]
  refine wpAnyH_take (i := 2) (v := .pointer (some ⟨w1.heap.size, 2, none⟩)) rfl (by kernel_rfl) (by kernel_rfl) (by kernel_rfl) (fun _ _ _ h => h) (Or.inl ⟨by kernel_rfl, ?_⟩) (by assumption) ?_
  · intro wq hSq; go_simp
  try simp only [Act.put]
  refine wpAnyH_take (i := 3) (v := .int .i64 R1) rfl (by kernel_rfl) (by kernel_rfl) (by kernel_rfl) (fun _ _ _ h => h) (Or.inl ⟨by kernel_rfl, ?_⟩) (by assumption) ?_
  · intro wq hSq; have hq : wq.cell? ⟨w1.heap.size, 2, none⟩ = some (.int .i64 R1) := hSq.1.at 2; go_simp
  try simp only [Act.put]
  refine wpAnyH_take (i := 4) (v := .int .i64 (N : Int)) rfl (by kernel_rfl) (by kernel_rfl) (by kernel_rfl) (fun _ _ _ h => h) (Or.inl ⟨by kernel_rfl, ?_⟩) (by assumption) ?_
  · intro wq hSq; go_simp
  try simp only [Act.put]
  refine wpAnyH_take (i := 5) (v := .int .i64 ((N : Int) - 1)) rfl (by kernel_rfl) (by kernel_rfl) (by kernel_rfl) (fun _ _ _ h => h) (Or.inl ⟨by kernel_rfl, ?_⟩) (by assumption) ?_
  · intro wq hSq; go_simp
  try simp only [Act.put]
  refine wpAnyH_ready (rs := [6]) (by kernel_rfl) (by simp) ?_
  refine AllReadyH.cons rfl (fun K hK => ?_) AllReadyH.nil
  go_simp
  refine (C4 _).mono ?_
  rintro e wn ⟨rfl, rfl⟩
  go_simp
  refine hK.out _ _ (by assumption) (fun hHeld1 => ?_)
  clear hK K
  try simp only [Act.put]
  refine wpAnyH_take (i := 7) (v := .agg #[.int .i64 (N : Int), .int .i64 1, .int .i64 R1, .int .i64 (4 * (N : Int)), .int .i64 3, .int .i64 R4, .int .i64 la]) rfl (by kernel_rfl) (by kernel_rfl) (by kernel_rfl) (fun _ _ _ h => h) (Or.inl ⟨by kernel_rfl, ?_⟩) (by assumption) ?_
  · intro wq hSq; go_simp
  try simp only [Act.put]
  refine wpAnyH_ready (rs := [8]) (by kernel_rfl) (by simp) ?_
  refine AllReadyH.cons rfl (fun K hK => ?_) AllReadyH.nil
  rw [if_pos (by kernel_rfl)]
  with_reducible refine wp_store_mid 68 (.tmp 2) (.tmp 37) ?_ w.heap.size 0 ([.int .i64 (N : Int), .int .i64 1, .int .i64 R1, .int .i64 (4 * (N : Int)), .int .i64 3, .int .i64 R4, .int .i64 la]).toArray ?_ ?_ ?_ (by kernel_rfl) (by kernel_rfl) ?_
  · exact rfl
  · exact rfl
  · exact rfl
  · exact HZ.out.there 0 7 (by simp)
  refine hK.out _ _ (⟨hHeld.1.farCells _ 0 HNB.out, hHeld.2.farCells _ 0 HWB.out⟩) (fun hHeld2 => ?_)
  clear hK K
  try simp only [Act.put]
  refine wpAnyH_take (i := 9) (v := .bool true) rfl (by kernel_rfl) (by kernel_rfl) (by kernel_rfl) (fun _ _ _ h => h) (Or.inl ⟨by kernel_rfl, ?_⟩) (by assumption) ?_
  · intro wq hSq; go_simp
  try simp only [Act.put]
  refine wpAnyH_done (by kernel_rfl) ?_ _
  refine NoPanic.normal ?_
  go_simp
  have L7 : Lies (wa.drew.setCells w.heap.size 0 [.int .i64 (N : Int), .int .i64 1, .int .i64 R1, .int .i64 (4 * (N : Int)), .int .i64 3, .int .i64 R4, .int .i64 la]) w.heap.size [.int .i64 (N : Int), .int .i64 1, .int .i64 R1, .int .i64 (4 * (N : Int)), .int .i64 3, .int .i64 R4, .int .i64 la] := HZ.out.setCells [.int .i64 (N : Int), .int .i64 1, .int .i64 R1, .int .i64 (4 * (N : Int)), .int .i64 3, .int .i64 R4, .int .i64 la] 0 (by simp)
  have HB7 : Below w.heap.size w (wa.drew.setCells w.heap.size 0 [.int .i64 (N : Int), .int .i64 1, .int .i64 R1, .int .i64 (4 * (N : Int)), .int .i64 3, .int .i64 R4, .int .i64 la]) := below_setCells _ 0 HB2.out.drew (Nat.le_refl _)
  generalize wa.drew.setCells w.heap.size 0 [.int .i64 (N : Int), .int .i64 1, .int .i64 R1, .int .i64 (4 * (N : Int)), .int .i64 3, .int .i64 R4, .int .i64 la] = wz at *
  have HL7 : Hid (Lies wz w.heap.size [.int .i64 (N : Int), .int .i64 1, .int .i64 R1, .int .i64 (4 * (N : Int)), .int .i64 3, .int .i64 R4, .int .i64 la]) := L7
  have HBZ : Hid (Below w.heap.size w wz) := HB7
  clear L7 HB7
  go_wp2
  exact bodyPost_ret (results_cell_tmp rfl rfl (run_loadVar_mid wz w.heap.size 0 68 _ _ HL7.out.row Try.underlying68 rfl (by kernel_rfl))) rfl ⟨rfl, HBZ.out⟩
end Go.Proofs.Ytbcfjbkmkknmfaa
namespace Go.Proofs.Ytbcfjbkmkknmfaa
open Go.RowKit

theorem M.zp_gp {N i : Nat} (h : i < 4 * N) : (M.gp 3 (M.root (4 * (N : Int))) (4 * N)).getD i 0 = M.zp N i := by
  rw [M.gp_get _ _ _ _ h]; unfold M.zp; rw [show ((4 * N : Nat) : Int) = 4 * (N : Int) by omega]
set_option maxHeartbeats 4000000 in
set_option maxRecDepth 10000 in
theorem zeros_any (N : Nat) (w : World) (h : M.rowsN N = true) : Calls Try.prog 60 #[frv N] w fun e w' => ∃ a' c', e = .returned (.slice a' (4 * N) c') ∧ Owns 60 w' w.heap.size a' (4 * N) c' (M.tab (4 * N) (M.zer N)) ∧ Below w.heap.size w w' := by
  have hb16 := M.rowsN_pos h
  obtain ⟨K, hK⟩ : ∃ K : Nat, K = 4 * N := ⟨_, rfl⟩
  have hKi : 4 * (N : Int) = (K : Int) := by omega
  have hr4 := (M.el_iff _).1 (M.root_el (M.two64_two (M.rowsN_two4 h)))
  rw [show ((4 * N : Nat) : Int) = 4 * (N : Int) by omega] at hr4
  have CA := fun W => placesAll_any K 3 (M.root (4 * (N : Int))) W (by omega) (by omega) hr4.1 hr4.2 (by omega)
  have CP : Hid (∀ i W, Calls Try.prog 56 #[.int .i64 (M.zp N i), .int .i64 (N : Int)] W fun e w' => e = .returned (.int .i64 (M.pw (M.zp N i) N)) ∧ w' = W) := fun i W => power_any (M.zp N i) N W (M.zp_bd N i).1 (M.zp_bd N i).2 (by omega)
  have CM : Hid (∀ i W, Calls Try.prog 82 #[.int .i64 (M.pw (M.zp N i) N), .int .i64 1] W fun e w' => e = .returned (.int .i64 (M.zer N i)) ∧ w' = W) := fun i W => minus_any _ 1 W ((M.el_iff _).1 (M.el_pw _ _)).1 ((M.el_iff _).1 (M.el_pw _ _)).2 (by omega) (by omega)
  have HG : Hid (∀ i, i < K → (M.gp 3 (M.root (4 * (N : Int))) K).getD i 0 = M.zp N i) := fun i hi => by subst hK; exact M.zp_gp hi
  have HS : Hid (∀ k, M.tab k (M.zer N) ++ [M.zer N k] = M.tab (k + 1) (M.zer N)) := fun k => M.tab_snoc k _
  have HN0 : Hid (M.tab 0 (M.zer N) = []) := rfl
  obtain ⟨i0, hi, hz0, hz1, hz2⟩ := info_parts info_el
  have HI : Hid (Try.prog.info? 60 = some i0 ∧ i0.zero = some (Value.int .i64 0) ∧ i0.size = 1 ∧ i0.bytes = 8) := ⟨hi, hz0, hz1, hz2⟩
  unfold frv
  rw [hKi, ← hK]
  rw [hKi] at CA HG
  have hKb : K ≤ 64 := by omega
  generalize M.gp 3 (M.root (K : Int)) K = G at CA HG
  generalize M.root (N : Int) = R1
  generalize M.root (K : Int) = R4 at CA
  generalize M.lst N = la
  clear hi hz0 hz1 hz2 hr4 h hK hKi
  have LF : Hid (Lies (w.alloc (.cells #[.int .i64 (N : Int), .int .i64 1, .int .i64 R1, .int .i64 (K : Int), .int .i64 3, .int .i64 R4, .int .i64 la] 68)) w.heap.size [.int .i64 (N : Int), .int .i64 1, .int .i64 R1, .int .i64 (K : Int), .int .i64 3, .int .i64 R4, .int .i64 la]) := lies_new _ _ _
  have HB0 : Hid (Below w.heap.size w (w.alloc (.cells #[.int .i64 (N : Int), .int .i64 1, .int .i64 R1, .int .i64 (K : Int), .int .i64 3, .int .i64 R4, .int .i64 la] 68))) := (Below.refl _ _).alloc (Nat.le_refl _) _
  have hN16 : (N : Int) ≤ 16 := by omega
  have hN2 : (2 : Int) ≤ (N : Int) := by omega
  go_enter Try.func60, Try.ntmps60
  go_wp2_with (at_make; refine wpList_make_own _ rfl _ _ 77 rfl (w.heap.size + 1) 60 i0 (.int .i64 0) 1 Try.underlying77 HI.out.1 HI.out.2.1 HI.out.2.2.1 .i64 .i64 _ K rfl rfl rfl (by rw [HI.out.2.2.2]; omega) (by unfold maxLen; omega) (by simp) ?_)
  intro w1 hown hg
  have HO : Hid (Owns 60 w1 (w.heap.size + 1) (some ⟨w.heap.size + 1, 0, none⟩) 0 K []) := hown
  have LF1 : Hid (Lies w1 w.heap.size [.int .i64 (N : Int), .int .i64 1, .int .i64 R1, .int .i64 (K : Int), .int .i64 3, .int .i64 R4, .int .i64 la]) := LF.out.grown hg (by simp)
  have HB1 : Hid (Below w.heap.size w w1) := HB0.out.trans ((below_grown hg).mono (by simp))
  have f3 : w1.cell? ⟨w.heap.size, 3, none⟩ = some (.int .i64 (K : Int)) := LF1.out.at 3
  have f4 : w1.cell? ⟨w.heap.size, 4, none⟩ = some (.int .i64 3) := LF1.out.at 4
  have f5 : w1.cell? ⟨w.heap.size, 5, none⟩ = some (.int .i64 R4) := LF1.out.at 5
  clear hown hg LF HB0
  go_wp2_with fail
  refine (CA _).mono ?_
  rintro e w2 ⟨pa, pc, rfl, ho2, hb2⟩
  have HP2 : Hid (Owns 60 w2 w1.heap.size pa K pc G) := ho2
  have HO2 : Hid (Owns 60 w2 (w.heap.size + 1) (some ⟨w.heap.size + 1, 0, none⟩) 0 K []) := HO.out.below hb2
  have LF2 : Hid (Lies w2 w.heap.size [.int .i64 (N : Int), .int .i64 1, .int .i64 R1, .int .i64 (K : Int), .int .i64 3, .int .i64 R4, .int .i64 la]) := LF1.out.belowS hb2
  have HB2 : Hid (Below w.heap.size w w2) := HB1.out.trans (hb2.mono HB1.out.size)
  have HX : Hid (∀ x, pa = some x → w1.heap.size ≤ x.block) := ho2.lo
  have HW1 : Hid (w.heap.size + 1 < w1.heap.size) := HO.out.hi _ rfl
  clear ho2 hb2 f3 f4 f5 HO LF1 HB1 CA
  go_wp2
  go_loopw [3, 14] (fun s i wr => ∃ (k : Nat) (a' : Option Addr) (cap' : Nat), k ≤ K ∧ i = .int .i64 k ∧ s = .slice a' k cap' ∧ Owns 60 wr (w.heap.size + 1) a' k cap' (M.tab k (M.zer N)) ∧ Sees wr pa K pc G ∧ (∀ x y, pa = some x → a' = some y → y.block ≠ x.block) ∧ Lies wr w.heap.size [.int .i64 (N : Int), .int .i64 1, .int .i64 R1, .int .i64 (K : Int), .int .i64 3, .int .i64 R4, .int .i64 la] ∧ Below w.heap.size w wr) (fun _ i _ => K - (intOf i).toNat)
  case atStart => exact ⟨0, _, K, by omega, rfl, rfl, HO2.out, HP2.out.sees, fun x y hx hy e => by have := HX.out x hx; have := HW1.out; injection hy with hy; subst hy; simp at e; omega, LF2.out, HB2.out⟩
  case round =>
    obtain ⟨k, a', cap', hk, rfl, rfl, ho3, hs3, hf3, hl3, hb3⟩ := hrel
    have HO3 : Hid (Owns 60 wr (w.heap.size + 1) a' k cap' (M.tab k (M.zer N))) := ho3
    have HS3 : Hid (Sees wr pa K pc G) := hs3
    have HF3 : Hid (∀ x y, pa = some x → a' = some y → y.block ≠ x.block) := hf3
    have HL3 : Hid (Lies wr w.heap.size [.int .i64 (N : Int), .int .i64 1, .int .i64 R1, .int .i64 (K : Int), .int .i64 3, .int .i64 R4, .int .i64 la]) := hl3
    have HB3 : Hid (Below w.heap.size w wr) := hb3
    clear ho3 hs3 hf3 hl3 hb3 HO2 HP2 LF2 HB2
    by_cases hlt : k < K
    · obtain ⟨b1, o1, rfl, hc1⟩ := HS3.out.at (by omega)
      have e1 := hc1 k hlt
      rw [HG.out k hlt] at e1
      have f0 : wr.cell? ⟨w.heap.size, 0, none⟩ = some (.int .i64 (N : Int)) := HL3.out.at 0
      have hI : (k : Int) < (K : Int) := by omega
      have HLT : Hid (b1 < wr.heap.size) := World.block_lt_of_cell? wr _ e1
      have CPk : Hid _ := CP.out k
      have CMk : Hid _ := CM.out k
      have HSk : Hid (M.tab k (M.zer N) ++ [M.zer N k] = M.tab (k + 1) (M.zer N)) := HS.out k
      clear hc1
      generalize M.zp N k = z at e1 CPk CMk
      generalize M.pw z N = pz at CPk CMk
      generalize M.zer N k = zk at CMk HSk
      go_wp2_with fail
      refine (CPk.out _).mono ?_
      rintro e wn ⟨rfl, rfl⟩
      go_wp2_with fail
      refine (CMk.out _).mono ?_
      rintro e wn ⟨rfl, rfl⟩
      go_wp2_with (at_builtin; refine wpList_append_own_at _ rfl _ _ 77 rfl (w.heap.size + 1) 60 i0 (.int .i64 0) 1 8 Try.underlying77 HI.out.1 HI.out.2.1 HI.out.2.2.1 HI.out.2.2.2 rfl (by decide) _ k ((M.tab k (M.zer N)).map (Value.int .i64)) rfl (World.ownsRow.alloc HO3.out _) ⟨wn.heap.size, 0, none⟩ 1 1 [.int .i64 zk] rfl rfl (cell_one _ _ _) (one_int _) (by unfold maxLen; omega) (by omega) (by have := HL3.out.2.2; simp; omega) ?_)
      intro v' w4 hown hgrow _ hat
      have hown' : w4.ownsRow (w.heap.size + 1) 60 1 v' (k + 1) ((M.tab (k + 1) (M.zer N)).map (Value.int .i64)) := by rw [← HSk.out, List.map_append]; exact hown
      obtain ⟨b4, c4, rfl, ho4⟩ := Owns.form hown'
      have HO4 : Hid (Owns 60 w4 (w.heap.size + 1) b4 (k + 1) c4 (M.tab (k + 1) (M.zer N))) := ho4
      have hne : ∀ y, a' = some y → y.block ≠ b1 := fun y hy => HF3.out _ y rfl hy
      have HS4 : Hid (Sees w4 (some ⟨b1, o1, none⟩) K pc G) := (HS3.out.below ((Below.refl _ _).alloc (Nat.le_refl _) _)).grownR hgrow (fun x hx => by
        injection hx with hx; subst hx
        intro e
        cases a' with
        | none => simp [Value.ownBlock] at e
        | some y => simp [Value.ownBlock] at e; exact hne y rfl e)
      have HL4 : Hid (Lies w4 w.heap.size [.int .i64 (N : Int), .int .i64 1, .int .i64 R1, .int .i64 (K : Int), .int .i64 3, .int .i64 R4, .int .i64 la]) := (HL3.out.alloc _).grown hgrow (fun e => by
        cases a' with
        | none => simp [Value.ownBlock] at e
        | some y => simp [Value.ownBlock] at e; have := HO3.out.lo y rfl; omega)
      have HF4 : Hid (∀ x y, some (⟨b1, o1, none⟩ : Addr) = some x → b4 = some y → y.block ≠ x.block) := fun x y hx hy => by
        injection hx with hx; subst hx; subst hy
        have := HLT.out
        rcases hat with e | e
        · cases a' with
          | none => simp [Value.ownBlock] at e
          | some z => simp [Value.ownBlock] at e; rw [e]; exact hne z rfl
        · simp [Value.ownBlock] at e; simp; omega
      have HB4 : Hid (Below w.heap.size w w4) := (HB3.out.alloc HB3.out.size _).grown hgrow (by have := HB3.out.size; simp; omega) (fun q hq => by
        cases a' with
        | none => simp [Value.ownBlock] at hq
        | some y => simp [Value.ownBlock] at hq; have := HO3.out.lo y rfl; omega)
      clear hown hown' hgrow ho4 hat hne
      go_wp2
      go_roundw
      case rel => exact ⟨k + 1, b4, c4, by omega, by go_num, rfl, HO4.out, HS4.out, HF4.out, HL4.out, HB4.out⟩
      case measure => simp [intOf]; omega
    · have hkn : k = K := by omega
      subst hkn
      go_wp2
      go_ret
      exact ⟨a', cap', rfl, HO3.out.mono (by omega), HB3.out⟩
end Go.Proofs.Ytbcfjbkmkknmfaa
namespace Go.Proofs.Ytbcfjbkmkknmfaa
open Go.RowKit

def M.missAt (m : M.Mc) (ps : List (Int × Int)) (N i : Nat) : Int × Int :=
  (((ps.getD ((i + 4) % (4 * N)) (0, 0)).1 + 65537 - (m.nx (ps.getD i (0, 0))).1) % 65537 * ((M.zp N i + 65537 - M.lst N) % 65537) % 65537, ((ps.getD ((i + 4) % (4 * N)) (0, 0)).2 + 65537 - (m.nx (ps.getD i (0, 0))).2) % 65537 * ((M.zp N i + 65537 - M.lst N) % 65537) % 65537)
def M.tabP (k : Nat) (f : Nat → Int × Int) : List (Int × Int) := (List.range k).map f
theorem M.tabP_len (k : Nat) (f : Nat → Int × Int) : (M.tabP k f).length = k := by simp [M.tabP]
theorem M.tabP_snoc (k : Nat) (f : Nat → Int × Int) : M.tabP k f ++ [f k] = M.tabP (k + 1) f := by simp [M.tabP, List.range_succ]
theorem M.tabP_get {k i : Nat} (f : Nat → Int × Int) (h : i < k) : (M.tabP k f).getD i (0, 0) = f i := by simp [M.tabP, List.getD_eq_getElem?_getD, h]
set_option maxHeartbeats 8000000 in
set_option maxRecDepth 10000 in
theorem misses_any {la0 : Option Addr} {lc : Nat} {ps : List (Int × Int)} (m : M.Mc) (N : Nat) (w : World) (h : M.rowsN N = true) (hm : m.ok = true) (hz : SeesQ w la0 (4 * N) lc ps) (hps : ∀ i, i < 4 * N → M.sOk (ps.getD i (0, 0)) = true) :
    Calls Try.prog 61 #[frv N, .iface 97 (mcv m), .slice la0 (4 * N) lc] w fun e w' => ∃ a' c', e = .returned (.slice a' (4 * N) c') ∧ OwnsQ 62 w' w.heap.size a' (4 * N) c' (M.tabP (4 * N) (M.missAt m ps N)) ∧ Below w.heap.size w w' := by
  have hb16 := M.rowsN_pos h
  obtain ⟨K, hK⟩ : ∃ K : Nat, K = 4 * N := ⟨_, rfl⟩
  have hKi : 4 * (N : Int) = (K : Int) := by omega
  have hr4 := (M.el_iff _).1 (M.root_el (M.two64_two (M.rowsN_two4 h)))
  rw [show ((4 * N : Nat) : Int) = 4 * (N : Int) by omega] at hr4
  have CA := fun W => placesAll_any K 3 (M.root (4 * (N : Int))) W (by omega) (by omega) hr4.1 hr4.2 (by omega)
  have HG : Hid (∀ i, i < K → (M.gp 3 (M.root (4 * (N : Int))) K).getD i 0 = M.zp N i) := fun i hi => by subst hK; exact M.zp_gp hi
  have HS : Hid (∀ k, M.tabP k (M.missAt m ps N) ++ [M.missAt m ps N k] = M.tabP (k + 1) (M.missAt m ps N)) := fun k => M.tabP_snoc k _
  have hll := (M.el_iff _).1 (M.el_lst N)
  have HMI : Hid (∀ k, k < K → ∃ j, j < K ∧ ((k : Int) + 4).tmod (K : Int) = (j : Int) ∧ (∀ W, Calls Try.prog 108 #[mcv m, stv (ps.getD k (0, 0))] W fun e w' => e = .returned (stv (m.nx (ps.getD k (0, 0)))) ∧ Below W.heap.size W w') ∧ (∃ t, M.sOk t = true ∧ (∀ W, Calls Try.prog 83 #[stv (ps.getD j (0, 0)), stv (m.nx (ps.getD k (0, 0)))] W fun e w' => e = .returned (stv t) ∧ Below W.heap.size W w') ∧ (∀ W, Calls Try.prog 82 #[.int .i64 (M.zp N k), .int .i64 (M.lst N)] W fun e w' => e = .returned (.int .i64 ((M.zp N k + 65537 - M.lst N) % 65537)) ∧ w' = W) ∧ (∀ W, Calls Try.prog 62 #[stv t, .int .i64 ((M.zp N k + 65537 - M.lst N) % 65537)] W fun e w' => e = .returned (stv (M.missAt m ps N k)) ∧ Below W.heap.size W w'))) := fun k hk => by
    have hj : (k + 4) % K < K := Nat.mod_lt _ (by omega)
    refine ⟨(k + 4) % K, hj, ?_, fun W => stepM_any m _ W hm (hps k (by omega)), ((((ps.getD ((k + 4) % K) (0, 0)).1 + 65537 - (m.nx (ps.getD k (0, 0))).1) % 65537, ((ps.getD ((k + 4) % K) (0, 0)).2 + 65537 - (m.nx (ps.getD k (0, 0))).2) % 65537)), ?_, fun W => pairMinus_any _ _ W (hps _ (by omega)) (M.sOk_nx m _), fun W => minus_any _ _ W (M.zp_bd N k).1 (M.zp_bd N k).2 hll.1 hll.2, fun W => ?_⟩
    · rw [Int.tmod_eq_emod_of_nonneg (by omega), show (k : Int) + 4 = ((k + 4 : Nat) : Int) by omega]; exact (Int.natCast_emod _ _).symm
    · exact (M.sOk_iff _).2 ⟨⟨by simp only; omega, by simp only; omega⟩, ⟨by simp only; omega, by simp only; omega⟩⟩
    · have := scaled_any ((((ps.getD ((k + 4) % K) (0, 0)).1 + 65537 - (m.nx (ps.getD k (0, 0))).1) % 65537, ((ps.getD ((k + 4) % K) (0, 0)).2 + 65537 - (m.nx (ps.getD k (0, 0))).2) % 65537)) ((M.zp N k + 65537 - M.lst N) % 65537) W ((M.sOk_iff _).2 ⟨⟨by simp only; omega, by simp only; omega⟩, ⟨by simp only; omega, by simp only; omega⟩⟩) (by omega) (by omega)
      unfold M.missAt; rw [← hK]; exact this
  obtain ⟨i0, hi, hz0, hz1, hz2⟩ := info_parts info_pair
  have HI : Hid (Try.prog.info? 62 = some i0 ∧ i0.zero = some (.agg #[.int .i64 0, .int .i64 0]) ∧ i0.size = 2 ∧ i0.bytes = 16) := ⟨hi, hz0, hz1, hz2⟩
  rw [← hK] at hz
  unfold frv
  rw [hKi, ← hK]
  rw [hKi] at CA HG
  have hKb : K ≤ 64 := by omega
  have hK8 : 8 ≤ K := by omega
  have HZ : Hid (SeesQ w la0 K lc ps) := hz
  generalize M.gp 3 (M.root (K : Int)) K = G at CA HG
  generalize M.root (N : Int) = R1
  generalize M.root (K : Int) = R4 at CA
  generalize M.missAt m ps N = MA at HMI HS
  generalize M.lst N = la at HMI
  clear hi hz0 hz1 hz2 hr4 h hK hKi hz hps hm hll
  obtain ⟨lb, lo, rfl, -⟩ := HZ.out.at (by omega)
  have LF : Hid (Lies (w.alloc (.cells #[.int .i64 (N : Int), .int .i64 1, .int .i64 R1, .int .i64 (K : Int), .int .i64 3, .int .i64 R4, .int .i64 la] 68)) w.heap.size [.int .i64 (N : Int), .int .i64 1, .int .i64 R1, .int .i64 (K : Int), .int .i64 3, .int .i64 R4, .int .i64 la]) := lies_new _ _ _
  have HB0 : Hid (Below w.heap.size w (w.alloc (.cells #[.int .i64 (N : Int), .int .i64 1, .int .i64 R1, .int .i64 (K : Int), .int .i64 3, .int .i64 R4, .int .i64 la] 68))) := (Below.refl _ _).alloc (Nat.le_refl _) _
  go_enter Try.func61, Try.ntmps61
  go_wp2_with (at_make; refine wpList_make_own _ rfl _ _ 71 rfl (w.heap.size + 1) 62 i0 (.agg #[.int .i64 0, .int .i64 0]) 2 Try.underlying71 HI.out.1 HI.out.2.1 HI.out.2.2.1 .i64 .i64 _ K rfl rfl rfl (by rw [HI.out.2.2.2]; omega) (by unfold maxLen; omega) (by simp) ?_)
  intro w1 hown hg
  have HO : Hid (OwnsQ 62 w1 (w.heap.size + 1) (some ⟨w.heap.size + 1, 0, none⟩) 0 K []) := ⟨rfl, hown⟩
  have LF1 : Hid (Lies w1 w.heap.size [.int .i64 (N : Int), .int .i64 1, .int .i64 R1, .int .i64 (K : Int), .int .i64 3, .int .i64 R4, .int .i64 la]) := LF.out.grown hg (by simp)
  have HB1 : Hid (Below w.heap.size w w1) := HB0.out.trans ((below_grown hg).mono (by simp))
  have f3 : w1.cell? ⟨w.heap.size, 3, none⟩ = some (.int .i64 (K : Int)) := LF1.out.at 3
  have f4 : w1.cell? ⟨w.heap.size, 4, none⟩ = some (.int .i64 3) := LF1.out.at 4
  have f5 : w1.cell? ⟨w.heap.size, 5, none⟩ = some (.int .i64 R4) := LF1.out.at 5
  clear hown hg LF HB0
  go_wp2_with fail
  refine (CA _).mono ?_
  rintro e w2 ⟨pa, pc, rfl, ho2, hb2⟩
  have HP2 : Hid (Owns 60 w2 w1.heap.size pa K pc G) := ho2
  have HO2 : Hid (OwnsQ 62 w2 (w.heap.size + 1) (some ⟨w.heap.size + 1, 0, none⟩) 0 K []) := HO.out.below hb2
  have LF2 : Hid (Lies w2 w.heap.size [.int .i64 (N : Int), .int .i64 1, .int .i64 R1, .int .i64 (K : Int), .int .i64 3, .int .i64 R4, .int .i64 la]) := LF1.out.belowS hb2
  have HB2 : Hid (Below w.heap.size w w2) := HB1.out.trans (hb2.mono HB1.out.size)
  have HX : Hid (∀ x, pa = some x → w1.heap.size ≤ x.block) := ho2.lo
  have HW1 : Hid (w.heap.size + 1 < w1.heap.size) := by
    rcases HO.out.2.2 with e | ⟨g, cp, cur, e, hb, hc, r⟩
    · simp at e
    · injection e with e1; injection e1 with e1; injection e1 with e1 e2
      subst e1
      exact Owns.grownR.lt_of_heap hc
  clear ho2 hb2 f3 f4 f5 HO LF1 HB1 CA
  go_wp2
  go_loopw [7, 19] (fun s i wr => ∃ (k : Nat) (a' : Option Addr) (cap' : Nat), k ≤ K ∧ i = .int .i64 k ∧ s = .slice a' k cap' ∧ OwnsQ 62 wr (w.heap.size + 1) a' k cap' (M.tabP k MA) ∧ Sees wr pa K pc G ∧ (∀ x y, pa = some x → a' = some y → y.block ≠ x.block) ∧ Lies wr w.heap.size [.int .i64 (N : Int), .int .i64 1, .int .i64 R1, .int .i64 (K : Int), .int .i64 3, .int .i64 R4, .int .i64 la] ∧ Below w.heap.size w wr) (fun _ i _ => K - (intOf i).toNat)
  case atStart => exact ⟨0, _, K, by omega, rfl, rfl, HO2.out, HP2.out.sees, fun x y hx hy e => by have := HX.out x hx; have := HW1.out; injection hy with hy; subst hy; simp at e; omega, LF2.out, HB2.out⟩
  case round =>
    obtain ⟨k, a', cap', hk, rfl, rfl, ho3, hs3, hf3, hl3, hb3⟩ := hrel
    have HO3 : Hid (OwnsQ 62 wr (w.heap.size + 1) a' k cap' (M.tabP k MA)) := ho3
    have HS3 : Hid (Sees wr pa K pc G) := hs3
    have HF3 : Hid (∀ x y, pa = some x → a' = some y → y.block ≠ x.block) := hf3
    have HL3 : Hid (Lies wr w.heap.size [.int .i64 (N : Int), .int .i64 1, .int .i64 R1, .int .i64 (K : Int), .int .i64 3, .int .i64 R4, .int .i64 la]) := hl3
    have HB3 : Hid (Below w.heap.size w wr) := hb3
    clear ho3 hs3 hf3 hl3 hb3 HO2 HP2 LF2 HB2
    by_cases hlt : k < K
    · obtain ⟨b1, o1, rfl, hc1⟩ := HS3.out.at (by omega)
      have e1 := hc1 k hlt
      rw [HG.out k hlt] at e1
      have hI : (k : Int) < (K : Int) := by omega
      obtain ⟨j, hj, hmod, D1, t, hts, D2, D3, D4⟩ := HMI.out k hlt
      obtain ⟨lb', lo', hle, hcl⟩ := (HZ.out.below HB3.out).at (by omega)
      obtain ⟨rfl, rfl⟩ : lb = lb' ∧ lo = lo' := by injection hle with hle; injection hle with h1 h2; exact ⟨h1, h2⟩
      obtain ⟨ej1, ej2⟩ := hcl j hj
      obtain ⟨ek1, ek2⟩ := hcl k hlt
      have hjI : (j : Int) < (K : Int) := by omega
      have HSk : Hid (M.tabP k MA ++ [MA k] = M.tabP (k + 1) MA) := HS.out k
      have HLT : Hid (b1 < wr.heap.size) := World.block_lt_of_cell? wr _ e1
      generalize ps.getD j (0, 0) = q2 at ej1 ej2 D2
      generalize ps.getD k (0, 0) = q1 at ek1 ek2 D1 D2
      generalize m.nx q1 = n1 at D1 D2
      generalize M.zp N k = z at e1 D3 D4
      generalize (z + 65537 - la) % 65537 = zl at D3 D4
      generalize MA k = mk at D4 HSk
      obtain ⟨x2, y2⟩ := q2
      obtain ⟨x1, y1⟩ := q1
      obtain ⟨u1, v1⟩ := n1
      obtain ⟨t1, t2⟩ := t
      obtain ⟨m1, m2⟩ := mk
      dsimp only [stv] at ej1 ej2 ek1 ek2 D1 D2 D4
      have E1 : Hid (wr.cell? ⟨lb, lo + k * 2, none⟩ = some (.int .i64 x1) ∧ wr.cell? ⟨lb, lo + k * 2 + 1, none⟩ = some (.int .i64 y1)) := ⟨ek1, ek2⟩
      have HD1 : Hid _ := D1
      have HD2 : Hid _ := D2
      have HD3 : Hid _ := D3
      have HD4 : Hid _ := D4
      have hw4 : IntKind.i64.wrap ((k : Int) + 4) = (k : Int) + 4 := by rw [IntKind.wrap_i64]; omega
      clear hc1 hcl hle ek1 ek2 D1 D2 D3 D4 hts
      go_wp2
      have HQ0 : Hid (Lies (wr.alloc (.cells #[.int .i64 x2, .int .i64 y2] 62)) wr.heap.size [.int .i64 x2, .int .i64 y2]) := lies_new _ _ _
      have HOq0 : Hid (OwnsQ 62 (wr.alloc (.cells #[.int .i64 x2, .int .i64 y2] 62)) (w.heap.size + 1) a' k cap' (M.tabP k MA)) := HO3.out.below ((Below.refl _ _).alloc (Nat.le_refl _) _)
      have HSs0 : Hid (Sees (wr.alloc (.cells #[.int .i64 x2, .int .i64 y2] 62)) (some ⟨b1, o1, none⟩) K pc G) := HS3.out.below ((Below.refl _ _).alloc (Nat.le_refl _) _)
      have HLq0 : Hid (Lies (wr.alloc (.cells #[.int .i64 x2, .int .i64 y2] 62)) w.heap.size [.int .i64 (N : Int), .int .i64 1, .int .i64 R1, .int .i64 (K : Int), .int .i64 3, .int .i64 R4, .int .i64 la]) := HL3.out.alloc _
      have HBq0 : Hid (Below w.heap.size w (wr.alloc (.cells #[.int .i64 x2, .int .i64 y2] 62))) := HB3.out.alloc HB3.out.size _
      have E10 : Hid ((wr.alloc (.cells #[.int .i64 x2, .int .i64 y2] 62)).cell? ⟨lb, lo + k * 2, none⟩ = some (.int .i64 x1) ∧ (wr.alloc (.cells #[.int .i64 x2, .int .i64 y2] 62)).cell? ⟨lb, lo + k * 2 + 1, none⟩ = some (.int .i64 y1)) := ⟨(World.grownBy_alloc wr _ none).cell E1.out.1 (by simp), (World.grownBy_alloc wr _ none).cell E1.out.2 (by simp)⟩
      have HQS0 : Hid (wr.heap.size ≤ (wr.alloc (.cells #[.int .i64 x2, .int .i64 y2] 62)).heap.size) := by show _ ≤ _; simp
      have HRow : Hid (∀ b, wr.heap.size ≤ b → (Value.slice a' k cap').ownBlock ≠ some b) := fun b hb e => by have := (World.ownsRow.lt HO3.out.2 b e).2; omega
      have HRlo : Hid (∀ q, (Value.slice a' k cap').ownBlock = some q → w.heap.size + 1 ≤ q) := fun q e => (World.ownsRow.lt HO3.out.2 q e).1
      have HRw : Hid ((Value.slice a' k cap').ownBlock ≠ some w.heap.size) := fun e => by have := (World.ownsRow.lt HO3.out.2 _ e).1; omega
      have HRp : Hid ((Value.slice a' k cap').ownBlock ≠ some b1) := own_none (fun y hy => HF3.out _ y rfl hy)
      generalize wr.alloc (.cells #[.int .i64 x2, .int .i64 y2] 62) = wq at HQ0 HOq0 HSs0 HLq0 HBq0 E10 HQS0 ⊢
      have HQ : Hid (Lies wq wr.heap.size [.int .i64 x2, .int .i64 y2]) := HQ0.out
      have HOq : Hid (OwnsQ 62 wq (w.heap.size + 1) a' k cap' (M.tabP k MA)) := HOq0.out
      have HSs : Hid (Sees wq (some ⟨b1, o1, none⟩) K pc G) := HSs0.out
      have HLq : Hid (Lies wq w.heap.size [.int .i64 (N : Int), .int .i64 1, .int .i64 R1, .int .i64 (K : Int), .int .i64 3, .int .i64 R4, .int .i64 la]) := HLq0.out
      have HBq : Hid (Below w.heap.size w wq) := HBq0.out
      have EQ : Hid (wq.cell? ⟨lb, lo + k * 2, none⟩ = some (.int .i64 x1) ∧ wq.cell? ⟨lb, lo + k * 2 + 1, none⟩ = some (.int .i64 y1)) := E10.out
      have HQS : Hid (wr.heap.size ≤ wq.heap.size) := HQS0.out
      clear HQ0 HOq0 HSs0 HLq0 HBq0 E10 HQS0 HO3 HS3 HF3 HL3 HB3 E1 ej1 ej2 e1
      have hmt := method_next m
      have hk0 : (0 : Int) ≤ (k : Int) := by omega
      apply cutKey
      case f =>
          intro key
          refine wp_region_noPanic ?_
          refine wp_region_held_drew (S := fun W => wq.grownBy W none) (by kernel_rfl) (grown_drew _ _) (fun hHeld => ?_)
          generalize wq.drew = wd0 at hHeld ⊢
          refine wpAnyH_take (i := 0) (v := .agg #[.int .i64 x2, .int .i64 y2]) rfl (by kernel_rfl) (by kernel_rfl) (by kernel_rfl) (fun _ _ _ h => h) (Or.inl ⟨by kernel_rfl, ?_⟩) (by assumption) ?_
          · intro wp hSp; have c0 : wp.cell? ⟨wr.heap.size, 0, none⟩ = some (.int .i64 x2) := (HQ.out.grown hSp (by simp)).at 0; have c1 : wp.cell? ⟨wr.heap.size, 1, none⟩ = some (.int .i64 y2) := (HQ.out.grown hSp (by simp)).at 1; go_simp
          try simp only [Act.put]
          refine wpAnyH_take (i := 1) (v := .iface 97 (mcv m)) rfl (by kernel_rfl) (by kernel_rfl) (by kernel_rfl) (fun _ _ _ h => h) (Or.inl ⟨by kernel_rfl, ?_⟩) (by assumption) ?_
          · intro wq hSq; go_simp
          try simp only [Act.put]
          refine wpAnyH_take (i := 2) (v := .slice (some ⟨lb, lo, none⟩) K lc) rfl (by kernel_rfl) (by kernel_rfl) (by kernel_rfl) (fun _ _ _ h => h) (Or.inl ⟨by kernel_rfl, ?_⟩) (by assumption) ?_
          · intro wq hSq; go_simp
          try simp only [Act.put]
          refine wpAnyH_take (i := 3) (v := .int .i64 (k : Int)) rfl (by kernel_rfl) (by kernel_rfl) (by kernel_rfl) (fun _ _ _ h => h) (Or.inl ⟨by kernel_rfl, ?_⟩) (by assumption) ?_
          · intro wq hSq; go_simp
          try simp only [Act.put]
          refine wpAnyH_take (i := 4) (v := .pointer (some ⟨lb, lo + k * 2, none⟩)) rfl (by kernel_rfl) (by kernel_rfl) (by kernel_rfl) (fun _ _ _ h => h) (Or.inl ⟨by kernel_rfl, ?_⟩) (by assumption) ?_
          · intro wq hSq; go_simp
          try simp only [Act.put]
          refine wpAnyH_take (i := 5) (v := .agg #[.int .i64 x1, .int .i64 y1]) rfl (by kernel_rfl) (by kernel_rfl) (by kernel_rfl) (fun _ _ _ h => h) (Or.inl ⟨by kernel_rfl, ?_⟩) (by assumption) ?_
          · intro wp hSp; have c0 : wp.cell? ⟨lb, lo + k * 2, none⟩ = some (.int .i64 x1) := hSp.cell EQ.out.1 (by simp); have c1 : wp.cell? ⟨lb, lo + k * 2 + 1, none⟩ = some (.int .i64 y1) := hSp.cell EQ.out.2 (by simp); go_simp
          try simp only [Act.put]
          refine wpAnyH_take (i := 6) (v := .func (.method "loop.example/g00319/impl.next") #[.iface 97 (mcv m)] #[]) rfl (by kernel_rfl) (by kernel_rfl) (by kernel_rfl) (fun _ _ _ h => h) (Or.inl ⟨by kernel_rfl, ?_⟩) (by assumption) ?_
          · intro wq hSq; go_simp
          try simp only [Act.put]
          refine wpAnyH_take (i := 7) (v := .func (.method "loop.example/g00319/impl.next") #[.iface 97 (mcv m)] #[]) rfl (by kernel_rfl) (by kernel_rfl) (by kernel_rfl) (fun _ _ _ h => h) (Or.inl ⟨by kernel_rfl, ?_⟩) (by assumption) ?_
          · intro wp hSp; kernel_rfl
          try simp only [Act.put]
          refine wpAnyH_take (i := 8) (v := .iface 97 (mcv m)) rfl (by kernel_rfl) (by kernel_rfl) (by kernel_rfl) (fun _ _ _ h => h) (Or.inl ⟨by kernel_rfl, ?_⟩) (by assumption) ?_
          · intro wq hSq; go_simp
          try simp only [Act.put]
          refine wpAnyH_ready (rs := [9, 11]) (by kernel_rfl) (by simp) ?_
          refine AllReadyH.cons rfl (fun K hK => ?_) (AllReadyH.cons rfl (fun K hK => ?_) AllReadyH.nil)
          · go_simp
            refine (HD1.out _).mono ?_
            rintro e wd1 ⟨rfl, hb1⟩
            go_simp
            have hS1 : wq.grownBy wd1 none := grown_step hHeld hb1
            refine hK.out _ _ hS1 (fun _ => ?_)
            clear hK K hb1
            try simp only [Act.put]
            refine wpAnyH_ready (rs := [10, 11]) (by kernel_rfl) (by simp) ?_
            refine AllReadyH.cons rfl (fun K hK => ?_) (AllReadyH.cons rfl (fun K hK => ?_) AllReadyH.nil)
            · go_simp
              refine (HD2.out _).mono ?_
              rintro e wd2 ⟨rfl, hb2⟩
              go_simp
              have hS2 : wq.grownBy wd2 none := grown_step hS1 hb2
              refine hK.out _ _ hS2 (fun _ => ?_)
              clear hK K hb2
              try simp only [Act.put]
              refine wpAnyH_ready (rs := [11]) (by kernel_rfl) (by simp) ?_
              refine AllReadyH.cons rfl (fun K hK => ?_) AllReadyH.nil
              · go_simp
                have hS3 : wq.grownBy (wd2.alloc (.cells #[.int .i64 0, .int .i64 0] 62)) none := grown_alloc hS2 _
                have HA3 : Hid (Lies (wd2.alloc (.cells #[.int .i64 0, .int .i64 0] 62)) wd2.heap.size [.int .i64 0, .int .i64 0]) := lies_new _ _ _
                have HM3 : Hid (wq.heap.size ≤ wd2.heap.size) := hS2.size
                refine hK.out _ _ hS3 (fun _ => ?_)
                clear hK K
                generalize wd2.alloc (.cells #[.int .i64 0, .int .i64 0] 62) = wd3 at hS3 HA3 ⊢
                generalize wd2.heap.size = mb3 at HA3 HM3 ⊢
                try simp only [Act.put]
                refine wpAnyH_ready (rs := [12]) (by kernel_rfl) (by simp) ?_
                refine AllReadyH.cons rfl (fun K hK => ?_) AllReadyH.nil
                rw [if_pos (by kernel_rfl)]
                with_reducible refine wp_store_mid 62 (.tmp 11) (.tmp 42) ?_ mb3 0 ([.int .i64 t1, .int .i64 t2]).toArray ?_ ?_ ?_ (by kernel_rfl) (by kernel_rfl) ?_
                · exact rfl
                · exact rfl
                · exact rfl
                · exact HA3.out.there 0 2 (by simp)
                have hSz : wq.grownBy (wd3.setCells mb3 0 [.int .i64 t1, .int .i64 t2]) none := grown_far hS3 HM3.out 0 _
                have HMz : Hid (Lies (wd3.setCells mb3 0 [.int .i64 t1, .int .i64 t2]) mb3 [.int .i64 t1, .int .i64 t2]) := HA3.out.setCells [.int .i64 t1, .int .i64 t2] 0 (by simp)
                refine hK.out _ _ hSz (fun _ => ?_)
                clear hK K
                generalize hwz : wd3.setCells mb3 0 [.int .i64 t1, .int .i64 t2] = wz at hSz HMz
                clear hwz
                try simp only [Act.put]
                refine wpAnyH_done (by kernel_rfl) ?_ _
                refine NoPanic.normal ?_
                go_simp
                have HSz : Hid (wq.grownBy wz none) := hSz
                have HMB : Hid (wq.heap.size ≤ mb3) := HM3.out
                clear hSz
                revert HMB HSz HMz
                generalize mb3 = mb
                revert mb
                revert wz
                exact key
            · go_simp
              have hS4 : wq.grownBy (wd1.alloc (.cells #[.int .i64 0, .int .i64 0] 62)) none := grown_alloc hS1 _
              have HA4 : Hid (Lies (wd1.alloc (.cells #[.int .i64 0, .int .i64 0] 62)) wd1.heap.size [.int .i64 0, .int .i64 0]) := lies_new _ _ _
              have HM4 : Hid (wq.heap.size ≤ wd1.heap.size) := hS1.size
              refine hK.out _ _ hS4 (fun _ => ?_)
              clear hK K
              generalize wd1.alloc (.cells #[.int .i64 0, .int .i64 0] 62) = wd4 at hS4 HA4 ⊢
              generalize wd1.heap.size = mb4 at HA4 HM4 ⊢
              try simp only [Act.put]
              refine wpAnyH_ready (rs := [10]) (by kernel_rfl) (by simp) ?_
              refine AllReadyH.cons rfl (fun K hK => ?_) AllReadyH.nil
              · go_simp
                refine (HD2.out _).mono ?_
                rintro e wd5 ⟨rfl, hb5⟩
                go_simp
                have hS5 : wq.grownBy wd5 none := grown_step hS4 hb5
                have HA5 : Hid (Lies wd5 mb4 [.int .i64 0, .int .i64 0]) := HA4.out.belowS hb5
                refine hK.out _ _ hS5 (fun _ => ?_)
                clear hK K hb5
                try simp only [Act.put]
                refine wpAnyH_ready (rs := [12]) (by kernel_rfl) (by simp) ?_
                refine AllReadyH.cons rfl (fun K hK => ?_) AllReadyH.nil
                rw [if_pos (by kernel_rfl)]
                with_reducible refine wp_store_mid 62 (.tmp 11) (.tmp 42) ?_ mb4 0 ([.int .i64 t1, .int .i64 t2]).toArray ?_ ?_ ?_ (by kernel_rfl) (by kernel_rfl) ?_
                · exact rfl
                · exact rfl
                · exact rfl
                · exact HA5.out.there 0 2 (by simp)
                have hSz : wq.grownBy (wd5.setCells mb4 0 [.int .i64 t1, .int .i64 t2]) none := grown_far hS5 HM4.out 0 _
                have HMz : Hid (Lies (wd5.setCells mb4 0 [.int .i64 t1, .int .i64 t2]) mb4 [.int .i64 t1, .int .i64 t2]) := HA5.out.setCells [.int .i64 t1, .int .i64 t2] 0 (by simp)
                refine hK.out _ _ hSz (fun _ => ?_)
                clear hK K
                generalize hwz : wd5.setCells mb4 0 [.int .i64 t1, .int .i64 t2] = wz at hSz HMz
                clear hwz
                try simp only [Act.put]
                refine wpAnyH_done (by kernel_rfl) ?_ _
                refine NoPanic.normal ?_
                go_simp
                have HSz : Hid (wq.grownBy wz none) := hSz
                have HMB : Hid (wq.heap.size ≤ mb4) := HM4.out
                clear hSz
                revert HMB HSz HMz
                generalize mb4 = mb
                revert mb
                revert wz
                exact key
          · go_simp
            have hS6 : wq.grownBy (wd0.alloc (.cells #[.int .i64 0, .int .i64 0] 62)) none := grown_alloc hHeld _
            have HA6 : Hid (Lies (wd0.alloc (.cells #[.int .i64 0, .int .i64 0] 62)) wd0.heap.size [.int .i64 0, .int .i64 0]) := lies_new _ _ _
            have HM6 : Hid (wq.heap.size ≤ wd0.heap.size) := hHeld.size
            refine hK.out _ _ hS6 (fun _ => ?_)
            clear hK K
            generalize wd0.alloc (.cells #[.int .i64 0, .int .i64 0] 62) = wd6 at hS6 HA6 ⊢
            generalize wd0.heap.size = mb6 at HA6 HM6 ⊢
            try simp only [Act.put]
            refine wpAnyH_ready (rs := [9]) (by kernel_rfl) (by simp) ?_
            refine AllReadyH.cons rfl (fun K hK => ?_) AllReadyH.nil
            · go_simp
              refine (HD1.out _).mono ?_
              rintro e wd7 ⟨rfl, hb7⟩
              go_simp
              have hS7 : wq.grownBy wd7 none := grown_step hS6 hb7
              have HA7 : Hid (Lies wd7 mb6 [.int .i64 0, .int .i64 0]) := HA6.out.belowS hb7
              refine hK.out _ _ hS7 (fun _ => ?_)
              clear hK K hb7
              try simp only [Act.put]
              refine wpAnyH_ready (rs := [10]) (by kernel_rfl) (by simp) ?_
              refine AllReadyH.cons rfl (fun K hK => ?_) AllReadyH.nil
              · go_simp
                refine (HD2.out _).mono ?_
                rintro e wd8 ⟨rfl, hb8⟩
                go_simp
                have hS8 : wq.grownBy wd8 none := grown_step hS7 hb8
                have HA8 : Hid (Lies wd8 mb6 [.int .i64 0, .int .i64 0]) := HA7.out.belowS hb8
                refine hK.out _ _ hS8 (fun _ => ?_)
                clear hK K hb8
                try simp only [Act.put]
                refine wpAnyH_ready (rs := [12]) (by kernel_rfl) (by simp) ?_
                refine AllReadyH.cons rfl (fun K hK => ?_) AllReadyH.nil
                rw [if_pos (by kernel_rfl)]
                with_reducible refine wp_store_mid 62 (.tmp 11) (.tmp 42) ?_ mb6 0 ([.int .i64 t1, .int .i64 t2]).toArray ?_ ?_ ?_ (by kernel_rfl) (by kernel_rfl) ?_
                · exact rfl
                · exact rfl
                · exact rfl
                · exact HA8.out.there 0 2 (by simp)
                have hSz : wq.grownBy (wd8.setCells mb6 0 [.int .i64 t1, .int .i64 t2]) none := grown_far hS8 HM6.out 0 _
                have HMz : Hid (Lies (wd8.setCells mb6 0 [.int .i64 t1, .int .i64 t2]) mb6 [.int .i64 t1, .int .i64 t2]) := HA8.out.setCells [.int .i64 t1, .int .i64 t2] 0 (by simp)
                refine hK.out _ _ hSz (fun _ => ?_)
                clear hK K
                generalize hwz : wd8.setCells mb6 0 [.int .i64 t1, .int .i64 t2] = wz at hSz HMz
                clear hwz
                try simp only [Act.put]
                refine wpAnyH_done (by kernel_rfl) ?_ _
                refine NoPanic.normal ?_
                go_simp
                have HSz : Hid (wq.grownBy wz none) := hSz
                have HMB : Hid (wq.heap.size ≤ mb6) := HM6.out
                clear hSz
                revert HMB HSz HMz
                generalize mb6 = mb
                revert mb
                revert wz
                exact key
      case h =>
          intro wz mb HMz HSq HMB
          have hmt0 := True.intro
          clear hmt0
          have HOz : Hid (OwnsQ 62 wz (w.heap.size + 1) a' k cap' (M.tabP k MA)) := (HOq.out.grownR HSq.out (by simp))
          have HSz : Hid (Sees wz (some ⟨b1, o1, none⟩) K pc G) := HSs.out.grownR HSq.out (by simp)
          have HLz : Hid (Lies wz w.heap.size [.int .i64 (N : Int), .int .i64 1, .int .i64 R1, .int .i64 (K : Int), .int .i64 3, .int .i64 R4, .int .i64 la]) := HLq.out.grown HSq.out (by simp)
          have HBz : Hid (Below w.heap.size w wz) := HBq.out.grown HSq.out HBq.out.size (by simp)
          have HMB2 : Hid (wr.heap.size ≤ mb) := Nat.le_trans HQS.out HMB.out
          have HPb : Hid (b1 < wz.heap.size) := Nat.lt_of_lt_of_le HLT.out (Nat.le_trans HQS.out HSq.out.size)
          go_wp2
          refine wp_region_noPanic ?_
          refine wp_region_held_drew (S := fun W => wz.grownBy W (Value.slice a' k cap').ownBlock) (by kernel_rfl) (grown_drew _ _) (fun hHeld => ?_)
          have HOd : Hid (OwnsQ 62 wz.drew (w.heap.size + 1) a' k cap' (M.tabP k MA)) := HOz.out.below (Below.refl _ _).drew
          generalize wz.drew = we0 at hHeld HOd ⊢
          refine wpAnyH_take (i := 0) (v := .slice a' k cap') rfl (by kernel_rfl) (by kernel_rfl) (by kernel_rfl) (fun _ _ _ h => h) (Or.inl ⟨by kernel_rfl, ?_⟩) (by assumption) ?_
          · intro wq hSq; go_simp
          try simp only [Act.put]
          refine wpAnyH_take (i := 1) (v := .agg #[.int .i64 t1, .int .i64 t2]) rfl (by kernel_rfl) (by kernel_rfl) (by kernel_rfl) (fun _ _ _ h => h) (Or.inl ⟨by kernel_rfl, ?_⟩) (by assumption) ?_
          · intro wp hSp; have c0 : wp.cell? ⟨mb, 0, none⟩ = some (.int .i64 t1) := (HMz.out.grown hSp (HRow.out _ HMB2.out)).at 0; have c1 : wp.cell? ⟨mb, 1, none⟩ = some (.int .i64 t2) := (HMz.out.grown hSp (HRow.out _ HMB2.out)).at 1; go_simp
          try simp only [Act.put]
          refine wpAnyH_take (i := 2) (v := .int .i64 z) rfl (by kernel_rfl) (by kernel_rfl) (by kernel_rfl) (fun _ _ _ h => h) (Or.inl ⟨by kernel_rfl, ?_⟩) (by assumption) ?_
          · intro wq hSq; go_simp
          try simp only [Act.put]
          refine wpAnyH_take (i := 3) (v := .pointer (some ⟨w.heap.size, 6, none⟩)) rfl (by kernel_rfl) (by kernel_rfl) (by kernel_rfl) (fun _ _ _ h => h) (Or.inl ⟨by kernel_rfl, ?_⟩) (by assumption) ?_
          · intro wq hSq; go_simp
          try simp only [Act.put]
          refine wpAnyH_take (i := 4) (v := .int .i64 la) rfl (by kernel_rfl) (by kernel_rfl) (by kernel_rfl) (fun _ _ _ h => h) (Or.inl ⟨by kernel_rfl, ?_⟩) (by assumption) ?_
          · intro wp hSp; have c0 : wp.cell? ⟨w.heap.size, 6, none⟩ = some (.int .i64 la) := (HLz.out.grown hSp HRw.out).at 6; go_simp
          try simp only [Act.put]
          refine wpAnyH_ready (rs := [5]) (by kernel_rfl) (by simp) ?_
          refine AllReadyH.cons rfl (fun K hK => ?_) AllReadyH.nil
          go_simp
          refine (HD3.out _).mono ?_
          rintro e wn ⟨rfl, rfl⟩
          go_simp
          refine hK.out _ _ (by assumption) (fun hHeld1 => ?_)
          clear hK K
          try simp only [Act.put]
          refine wpAnyH_ready (rs := [6]) (by kernel_rfl) (by simp) ?_
          refine AllReadyH.cons rfl (fun K hK => ?_) AllReadyH.nil
          go_simp
          refine (HD4.out _).mono ?_
          rintro e w5 ⟨rfl, hb5⟩
          go_simp
          have hS5 : wz.grownBy w5 (Value.slice a' k cap').ownBlock := grown_step hHeld hb5
          have HO5 : Hid (OwnsQ 62 w5 (w.heap.size + 1) a' k cap' (M.tabP k MA)) := HOd.out.below hb5
          refine hK.out _ _ hS5 (fun _ => ?_)
          clear hK K hb5
          try simp only [Act.put]
          refine wpAnyH_ready (rs := [7]) (by kernel_rfl) (by simp) ?_
          refine AllReadyH.cons rfl (fun K hK => ?_) AllReadyH.nil
          go_simp
          have hS6 : wz.grownBy (w5.alloc (.cells #[.int .i64 m1, .int .i64 m2] 62)) (Value.slice a' k cap').ownBlock := grown_alloc hS5 _
          refine hK.out _ _ hS6 (fun _ => ?_)
          clear hK K
          try simp only [Act.put]
          refine wpAnyH_ready (rs := [8]) (by kernel_rfl) (by simp) ?_
          refine AllReadyH.cons rfl (fun K hK => ?_) AllReadyH.nil
          rw [if_pos (by kernel_rfl)]
          refine wp_append_at (.tmp 43) (.tmp 50) 71 rfl (w.heap.size + 1) 62 i0 (.agg #[.int .i64 0, .int .i64 0]) 2 16 Try.underlying71 HI.out.1 HI.out.2.1 HI.out.2.2.1 HI.out.2.2.2 rfl (by decide) (.slice a' k cap') k (prs (M.tabP k MA)) rfl (World.ownsRow.alloc HO5.out.2 _) ⟨w5.heap.size, 0, none⟩ 1 1 [.int .i64 m1, .int .i64 m2] rfl rfl (cell_twoq w5 _ _ _) (two_intsq _ _) (by unfold maxLen; omega) (by omega) (by have := HLz.out.2.2; have := hS5.size; simp; omega) ?_
          intro v' w6 hown hgrow hat
          have hS7 : wz.grownBy w6 (Value.slice a' k cap').ownBlock := hS6.trans hgrow
          refine hK.out _ _ hS7 (fun _ => ?_)
          clear hK K
          have hown' : w6.ownsRow (w.heap.size + 1) 62 2 v' (k + 1) (prs (M.tabP (k + 1) MA)) := by rw [← HSk.out, ← prs_snoc]; exact hown
          obtain ⟨b6, c6, rfl, ho6⟩ := OwnsQ.form (M.tabP_len (k + 1) MA) hown'
          have HO6 : Hid (OwnsQ 62 w6 (w.heap.size + 1) b6 (k + 1) c6 (M.tabP (k + 1) MA)) := ho6
          have HS6 : Hid (Sees w6 (some ⟨b1, o1, none⟩) K pc G) := HSz.out.grownR hS7 (fun x hx => by injection hx with hx; subst hx; exact HRp.out)
          have HL6 : Hid (Lies w6 w.heap.size [.int .i64 (N : Int), .int .i64 1, .int .i64 R1, .int .i64 (K : Int), .int .i64 3, .int .i64 R4, .int .i64 la]) := HLz.out.grown hS7 HRw.out
          have HF6 : Hid (∀ x y, some (⟨b1, o1, none⟩ : Addr) = some x → b6 = some y → y.block ≠ x.block) := fun x y hx hy => by injection hx with hx; subst hx; exact far_at hat (by have := HPb.out; have := hS5.size; simp; omega) (own_some HRp.out) y hy
          have HB6 : Hid (Below w.heap.size w w6) := HBz.out.grown hS7 HBz.out.size (fun q hq => Nat.le_trans (Nat.le_succ _) (HRlo.out q hq))
          clear hown hown' hgrow ho6 hat hS7 hS6 hS5
          try simp only [Act.put]
          refine wpAnyH_take (i := 9) (v := .slice b6 (k + 1) c6) rfl (by kernel_rfl) (by kernel_rfl) (by kernel_rfl) (fun _ _ _ h => h) (Or.inl ⟨by kernel_rfl, ?_⟩) (by assumption) ?_
          · intro wp hSp; go_simp
          try simp only [Act.put]
          refine wpAnyH_done (by kernel_rfl) ?_ _
          refine NoPanic.normal ?_
          go_simp
          go_wp2
          go_roundw
          case rel => exact ⟨k + 1, b6, c6, by omega, by go_num, rfl, HO6.out, HS6.out, HF6.out, HL6.out, HB6.out⟩
          case measure => simp [intOf]; omega
    · have hkn : k = K := by omega
      subst hkn
      go_wp2
      go_ret
      exact ⟨a', cap', rfl, HO3.out.mono (by omega), HB3.out⟩
end Go.Proofs.Ytbcfjbkmkknmfaa
namespace Go.Proofs.Ytbcfjbkmkknmfaa
open Go.RowKit

def M.quoAt (m : M.Mc) (ps : List (Int × Int)) (N i : Nat) : Int × Int :=
  ((M.missAt m ps N i).1 * M.pw (M.zer N i) 65535 % 65537, (M.missAt m ps N i).2 * M.pw (M.zer N i) 65535 % 65537)
theorem M.sOk_missAt (m : M.Mc) (ps : List (Int × Int)) (N i : Nat) : M.sOk (M.missAt m ps N i) = true :=
  (M.sOk_iff _).2 ⟨⟨by unfold M.missAt; simp only; omega, by unfold M.missAt; simp only; omega⟩, ⟨by unfold M.missAt; simp only; omega, by unfold M.missAt; simp only; omega⟩⟩
set_option maxHeartbeats 8000000 in
set_option maxRecDepth 10000 in
theorem quotients_any {la0 : Option Addr} {lc : Nat} {ps : List (Int × Int)} (m : M.Mc) (N : Nat) (w : World) (h : M.rowsN N = true) (hm : m.ok = true) (hz : SeesQ w la0 (4 * N) lc ps) (hps : ∀ i, i < 4 * N → M.sOk (ps.getD i (0, 0)) = true) :
    Calls Try.prog 27 #[frv N, .iface 97 (mcv m), .slice la0 (4 * N) lc] w fun e w' => ∃ a' c', e = .returned (.slice a' (4 * N) c') ∧ OwnsQ 62 w' w.heap.size a' (4 * N) c' (M.tabP (4 * N) (M.quoAt m ps N)) ∧ Below w.heap.size w w' := by
  have hb16 := M.rowsN_pos h
  obtain ⟨K, hK⟩ : ∃ K : Nat, K = 4 * N := ⟨_, rfl⟩
  have hKi : 4 * (N : Int) = (K : Int) := by omega
  have CZ := fun W => zeros_any N W h
  have CM := fun W hW => misses_any (la0 := la0) (lc := lc) (ps := ps) m N W h hm hW hps
  rw [← hK] at hz
  have HKi : Hid (4 * (N : Int) = (K : Int)) := hKi
  have HS : Hid (∀ k, M.tabP k (M.quoAt m ps N) ++ [M.quoAt m ps N k] = M.tabP (k + 1) (M.quoAt m ps N)) := fun k => M.tabP_snoc k _
  have HMI : Hid (∀ k, k < K → (M.tab (4 * N) (M.zer N)).getD k 0 = M.zer N k ∧ (M.tabP (4 * N) (M.missAt m ps N)).getD k (0, 0) = M.missAt m ps N k ∧ (∀ W, Calls Try.prog 63 #[.int .i64 (M.zer N k)] W fun e w' => e = .returned (.int .i64 (M.pw (M.zer N k) 65535)) ∧ w' = W) ∧ (∀ W, Calls Try.prog 62 #[stv (M.missAt m ps N k), .int .i64 (M.pw (M.zer N k) 65535)] W fun e w' => e = .returned (stv (M.quoAt m ps N k)) ∧ Below W.heap.size W w')) := fun k hk =>
    ⟨M.tab_get _ _ _ (by omega), M.tabP_get _ (by omega), fun W => inverse_any _ W (M.zer_bd N k).1 (M.zer_bd N k).2, fun W => scaled_any _ _ W (M.sOk_missAt m ps N k) ((M.el_iff _).1 (M.el_pw _ _)).1 ((M.el_iff _).1 (M.el_pw _ _)).2⟩
  obtain ⟨i0, hi, hz0, hz1, hz2⟩ := info_parts info_pair
  have HI : Hid (Try.prog.info? 62 = some i0 ∧ i0.zero = some (.agg #[.int .i64 0, .int .i64 0]) ∧ i0.size = 2 ∧ i0.bytes = 16) := ⟨hi, hz0, hz1, hz2⟩
  unfold frv at CZ CM ⊢
  rw [hKi, ← hK] at CZ CM ⊢
  rw [← hK] at HMI
  have hKb : K ≤ 64 := by omega
  have hK8 : 8 ≤ K := by omega
  have HZ : Hid (SeesQ w la0 K lc ps) := hz
  generalize M.root (N : Int) = R1 at CZ CM
  generalize M.root (K : Int) = R4 at CZ CM
  generalize M.lst N = la at CZ CM
  generalize M.tab K (M.zer N) = ZS at CZ HMI
  generalize M.tabP K (M.missAt m ps N) = MS at CM HMI
  generalize M.quoAt m ps N = QA at HMI HS
  have HCM : Hid _ := CM
  clear hi hz0 hz1 hz2 h hK hKi hz hps hm CM
  have LF : Hid (Lies (w.alloc (.cells #[.int .i64 (N : Int), .int .i64 1, .int .i64 R1, .int .i64 (K : Int), .int .i64 3, .int .i64 R4, .int .i64 la] 68)) w.heap.size [.int .i64 (N : Int), .int .i64 1, .int .i64 R1, .int .i64 (K : Int), .int .i64 3, .int .i64 R4, .int .i64 la]) := lies_new _ _ _
  have HB0 : Hid (Below w.heap.size w (w.alloc (.cells #[.int .i64 (N : Int), .int .i64 1, .int .i64 R1, .int .i64 (K : Int), .int .i64 3, .int .i64 R4, .int .i64 la] 68))) := (Below.refl _ _).alloc (Nat.le_refl _) _
  go_enter Try.func27, Try.ntmps27
  go_wp2_with fail
  refine (CZ _).mono ?_
  rintro e w2 ⟨za, zc, rfl, ho2, hb2⟩
  have HZ2 : Hid (Owns 60 w2 (w.heap.size + 1) za K zc ZS) := by show Owns _ _ _ _ _ _ _; simpa using ho2
  have LF2 : Hid (Lies w2 w.heap.size [.int .i64 (N : Int), .int .i64 1, .int .i64 R1, .int .i64 (K : Int), .int .i64 3, .int .i64 R4, .int .i64 la]) := LF.out.belowS hb2
  have HB2 : Hid (Below w.heap.size w w2) := HB0.out.trans (hb2.mono HB0.out.size)
  clear ho2 hb2 LF HB0 CZ
  obtain ⟨zb, zo, rfl, hzc⟩ := HZ2.out.sees.at (by omega)
  have HZC : Hid (∀ i, i < K → w2.cell? ⟨zb, zo + i, none⟩ = some (.int .i64 (ZS.getD i 0))) := hzc
  have HZlt : Hid (zb < w2.heap.size) := World.block_lt_of_cell? w2 _ (hzc 0 (by omega))
  clear hzc
  go_wp2_with (at_make; refine wpList_make_own _ rfl _ _ 71 rfl w2.heap.size 62 i0 (.agg #[.int .i64 0, .int .i64 0]) 2 Try.underlying71 HI.out.1 HI.out.2.1 HI.out.2.2.1 .i64 .i64 _ K rfl rfl rfl (by rw [HI.out.2.2.2]; omega) (by unfold maxLen; omega) (Nat.le_refl _) ?_)
  intro w1 hown hg
  have HO : Hid (OwnsQ 62 w1 w2.heap.size (some ⟨w2.heap.size, 0, none⟩) 0 K []) := ⟨rfl, hown⟩
  have LF1 : Hid (Lies w1 w.heap.size [.int .i64 (N : Int), .int .i64 1, .int .i64 R1, .int .i64 (K : Int), .int .i64 3, .int .i64 R4, .int .i64 la]) := LF2.out.grown hg (by simp)
  have HB1 : Hid (Below w2.heap.size w2 w1) := below_grown hg
  have HLT1 : Hid (w2.heap.size < w1.heap.size) := (World.ownsRow.lt hown _ rfl).2
  have f0 : w1.cell? ⟨w.heap.size, 0, none⟩ = some (.int .i64 (N : Int)) := LF1.out.at 0
  have f1 : w1.cell? ⟨w.heap.size, 1, none⟩ = some (.int .i64 1) := LF1.out.at 1
  have f2 : w1.cell? ⟨w.heap.size, 2, none⟩ = some (.int .i64 R1) := LF1.out.at 2
  have f3 : w1.cell? ⟨w.heap.size, 3, none⟩ = some (.int .i64 (K : Int)) := LF1.out.at 3
  have f4 : w1.cell? ⟨w.heap.size, 4, none⟩ = some (.int .i64 3) := LF1.out.at 4
  have f5 : w1.cell? ⟨w.heap.size, 5, none⟩ = some (.int .i64 R4) := LF1.out.at 5
  have f6 : w1.cell? ⟨w.heap.size, 6, none⟩ = some (.int .i64 la) := LF1.out.at 6
  clear hown hg LF2
  go_wp2_with fail
  refine (HCM.out _ (HZ.out.below (HB2.out.trans (HB1.out.mono HB2.out.size)))).mono ?_
  rintro e w3 ⟨ma, mc, rfl, ho3, hb3⟩
  have HM3 : Hid (OwnsQ 62 w3 w1.heap.size ma K mc MS) := ho3
  have HO3 : Hid (OwnsQ 62 w3 w2.heap.size (some ⟨w2.heap.size, 0, none⟩) 0 K []) := HO.out.below hb3
  have HB3 : Hid (Below w2.heap.size w2 w3) := HB1.out.trans (hb3.mono HB1.out.size)
  clear ho3 hb3 f0 f1 f2 f3 f4 f5 f6 HO LF1 HB1 HCM
  have HX : Hid (∀ x, ma = some x → w1.heap.size ≤ x.block) := fun x hx => by subst hx; exact (World.ownsRow.lt HM3.out.2 x.block rfl).1
  go_wp2
  go_loopw [8, 21] (fun s i wr => ∃ (k : Nat) (a' : Option Addr) (cap' : Nat), k ≤ K ∧ i = .int .i64 k ∧ s = .slice a' k cap' ∧ OwnsQ 62 wr w2.heap.size a' k cap' (M.tabP k QA) ∧ SeesQ wr ma K mc MS ∧ (∀ x y, ma = some x → a' = some y → y.block ≠ x.block) ∧ Below w2.heap.size w2 wr) (fun _ i _ => K - (intOf i).toNat)
  case atStart => exact ⟨0, _, K, by omega, rfl, rfl, HO3.out, HM3.out.sees (by omega), fun x y hx hy e => by have := HX.out x hx; have := HLT1.out; injection hy with hy; subst hy; simp at e; omega, HB3.out⟩
  case round =>
    obtain ⟨k, a', cap', hk, rfl, rfl, ho4, hs4, hf4, hb4⟩ := hrel
    have HO4 : Hid (OwnsQ 62 wr w2.heap.size a' k cap' (M.tabP k QA)) := ho4
    have HM4 : Hid (SeesQ wr ma K mc MS) := hs4
    have HF4 : Hid (∀ x y, ma = some x → a' = some y → y.block ≠ x.block) := hf4
    have HB4 : Hid (Below w2.heap.size w2 wr) := hb4
    clear ho4 hs4 hf4 hb4 HO3 HM3 HB3
    by_cases hlt : k < K
    · obtain ⟨b1, o1, rfl, hc1⟩ := HM4.out.at (by omega)
      obtain ⟨e1, e2⟩ := hc1 k hlt
      obtain ⟨g1, g2, D1, D2⟩ := HMI.out k hlt
      have ez := (HB4.out.cell (p := ⟨zb, zo + k, none⟩) HZlt.out).trans (HZC.out k hlt)
      rw [g1] at ez
      rw [g2] at e1 e2
      have hI : (k : Int) < (K : Int) := by omega
      have hk0 : (0 : Int) ≤ (k : Int) := by omega
      have HSk : Hid (M.tabP k QA ++ [QA k] = M.tabP (k + 1) QA) := HS.out k
      have HLT : Hid (b1 < wr.heap.size) := World.block_lt_of_cell? wr _ e1
      clear g1 g2
      generalize M.zer N k = ze at ez D1 D2
      generalize M.pw ze 65535 = iv at D1 D2
      generalize M.missAt m ps N k = mk at e1 e2 D2
      generalize QA k = qk at D2 HSk
      obtain ⟨x1, y1⟩ := mk
      obtain ⟨q1, q2⟩ := qk
      dsimp only [stv] at e1 e2 D2
      have HD1 : Hid _ := D1
      have HD2 : Hid _ := D2
      have EZ0 : Hid ((wr.alloc (.cells #[.int .i64 x1, .int .i64 y1] 62)).cell? ⟨zb, zo + k, none⟩ = some (.int .i64 ze)) := (World.grownBy_alloc wr _ none).cell ez (by simp)
      clear hc1 D1 D2 ez
      go_wp2
      have HQ0 : Hid (Lies (wr.alloc (.cells #[.int .i64 x1, .int .i64 y1] 62)) wr.heap.size [.int .i64 x1, .int .i64 y1]) := lies_new _ _ _
      have HOq0 : Hid (OwnsQ 62 (wr.alloc (.cells #[.int .i64 x1, .int .i64 y1] 62)) w2.heap.size a' k cap' (M.tabP k QA)) := HO4.out.below ((Below.refl _ _).alloc (Nat.le_refl _) _)
      have HMq0 : Hid (SeesQ (wr.alloc (.cells #[.int .i64 x1, .int .i64 y1] 62)) (some ⟨b1, o1, none⟩) K mc MS) := HM4.out.below ((Below.refl _ _).alloc (Nat.le_refl _) _)
      have HBq0 : Hid (Below w2.heap.size w2 (wr.alloc (.cells #[.int .i64 x1, .int .i64 y1] 62))) := HB4.out.alloc HB4.out.size _
      have HQS0 : Hid (wr.heap.size ≤ (wr.alloc (.cells #[.int .i64 x1, .int .i64 y1] 62)).heap.size) := by show _ ≤ _; simp
      have HRow : Hid (∀ b, wr.heap.size ≤ b → (Value.slice a' k cap').ownBlock ≠ some b) := fun b hb e => by have := (World.ownsRow.lt HO4.out.2 b e).2; omega
      have HRlo : Hid (∀ q, (Value.slice a' k cap').ownBlock = some q → w2.heap.size ≤ q) := fun q e => (World.ownsRow.lt HO4.out.2 q e).1
      have HRz : Hid (some zb ≠ (Value.slice a' k cap').ownBlock) := fun e => by have := (World.ownsRow.lt HO4.out.2 _ e.symm).1; have := HZlt.out; omega
      have HRp : Hid ((Value.slice a' k cap').ownBlock ≠ some b1) := own_none (fun y hy => HF4.out _ y rfl hy)
      generalize (wr.alloc (.cells #[.int .i64 x1, .int .i64 y1] 62)) = wq at HQ0 HOq0 HMq0 HBq0 EZ0 HQS0 ⊢
      have HQ : Hid (Lies wq wr.heap.size [.int .i64 x1, .int .i64 y1]) := HQ0.out
      have HOq : Hid (OwnsQ 62 wq w2.heap.size a' k cap' (M.tabP k QA)) := HOq0.out
      have HMq : Hid (SeesQ wq (some ⟨b1, o1, none⟩) K mc MS) := HMq0.out
      have HBq : Hid (Below w2.heap.size w2 wq) := HBq0.out
      have EZ : Hid (wq.cell? ⟨zb, zo + k, none⟩ = some (.int .i64 ze)) := EZ0.out
      have HPb : Hid (b1 < wq.heap.size) := Nat.lt_of_lt_of_le HLT.out HQS0.out
      clear HQ0 HOq0 HMq0 HBq0 EZ0 HQS0 HO4 HM4 HF4 HB4 e1 e2
      refine wp_region_noPanic ?_
      refine wp_region_held_drew (S := fun W => wq.grownBy W (Value.slice a' k cap').ownBlock) (by kernel_rfl) (grown_drew _ _) (fun hHeld => ?_)
      have HOd : Hid (OwnsQ 62 wq.drew w2.heap.size a' k cap' (M.tabP k QA)) := HOq.out.below (Below.refl _ _).drew
      generalize wq.drew = we0 at hHeld HOd ⊢
      refine wpAnyH_take (i := 0) (v := .slice a' k cap') rfl (by kernel_rfl) (by kernel_rfl) (by kernel_rfl) (fun _ _ _ h => h) (Or.inl ⟨by kernel_rfl, ?_⟩) (by assumption) ?_
      · intro wq hSq; go_simp
      try simp only [Act.put]
      refine wpAnyH_take (i := 1) (v := .agg #[.int .i64 x1, .int .i64 y1]) rfl (by kernel_rfl) (by kernel_rfl) (by kernel_rfl) (fun _ _ _ h => h) (Or.inl ⟨by kernel_rfl, ?_⟩) (by assumption) ?_
      · intro wp hSp; have c0 : wp.cell? ⟨wr.heap.size, 0, none⟩ = some (.int .i64 x1) := (HQ.out.grown hSp (HRow.out _ (Nat.le_refl _))).at 0; have c1 : wp.cell? ⟨wr.heap.size, 1, none⟩ = some (.int .i64 y1) := (HQ.out.grown hSp (HRow.out _ (Nat.le_refl _))).at 1; go_simp
      try simp only [Act.put]
      refine wpAnyH_take (i := 2) (v := .slice (some ⟨zb, zo, none⟩) K zc) rfl (by kernel_rfl) (by kernel_rfl) (by kernel_rfl) (fun _ _ _ h => h) (Or.inl ⟨by kernel_rfl, ?_⟩) (by assumption) ?_
      · intro wq hSq; go_simp
      try simp only [Act.put]
      refine wpAnyH_take (i := 3) (v := .int .i64 (k : Int)) rfl (by kernel_rfl) (by kernel_rfl) (by kernel_rfl) (fun _ _ _ h => h) (Or.inl ⟨by kernel_rfl, ?_⟩) (by assumption) ?_
      · intro wq hSq; go_simp
      try simp only [Act.put]
      refine wpAnyH_take (i := 4) (v := .pointer (some ⟨zb, zo + k, none⟩)) rfl (by kernel_rfl) (by kernel_rfl) (by kernel_rfl) (fun _ _ _ h => h) (Or.inl ⟨by kernel_rfl, ?_⟩) (by assumption) ?_
      · intro wq hSq; go_simp
      try simp only [Act.put]
      refine wpAnyH_take (i := 5) (v := .int .i64 ze) rfl (by kernel_rfl) (by kernel_rfl) (by kernel_rfl) (fun _ _ _ h => h) (Or.inl ⟨by kernel_rfl, ?_⟩) (by assumption) ?_
      · intro wp hSp; have c0 : wp.cell? ⟨zb, zo + k, none⟩ = some (.int .i64 ze) := hSp.cell EZ.out HRz.out; go_simp
      try simp only [Act.put]
      refine wpAnyH_ready (rs := [6]) (by kernel_rfl) (by simp) ?_
      refine AllReadyH.cons rfl (fun K hK => ?_) AllReadyH.nil
      go_simp
      refine (HD1.out _).mono ?_
      rintro e wn ⟨rfl, rfl⟩
      go_simp
      refine hK.out _ _ (by assumption) (fun hHeld1 => ?_)
      clear hK K
      try simp only [Act.put]
      refine wpAnyH_ready (rs := [7]) (by kernel_rfl) (by simp) ?_
      refine AllReadyH.cons rfl (fun K hK => ?_) AllReadyH.nil
      go_simp
      refine (HD2.out _).mono ?_
      rintro e w5 ⟨rfl, hb5⟩
      go_simp
      have hS5 : wq.grownBy w5 (Value.slice a' k cap').ownBlock := grown_step hHeld hb5
      have HO5 : Hid (OwnsQ 62 w5 w2.heap.size a' k cap' (M.tabP k QA)) := HOd.out.below hb5
      refine hK.out _ _ hS5 (fun _ => ?_)
      clear hK K hb5
      try simp only [Act.put]
      refine wpAnyH_ready (rs := [8]) (by kernel_rfl) (by simp) ?_
      refine AllReadyH.cons rfl (fun K hK => ?_) AllReadyH.nil
      go_simp
      have hS6 : wq.grownBy (w5.alloc (.cells #[.int .i64 q1, .int .i64 q2] 62)) (Value.slice a' k cap').ownBlock := grown_alloc hS5 _
      refine hK.out _ _ hS6 (fun _ => ?_)
      clear hK K
      try simp only [Act.put]
      refine wpAnyH_ready (rs := [9]) (by kernel_rfl) (by simp) ?_
      refine AllReadyH.cons rfl (fun K hK => ?_) AllReadyH.nil
      rw [if_pos (by kernel_rfl)]
      refine wp_append_at (.tmp 26) (.tmp 34) 71 rfl w2.heap.size 62 i0 (.agg #[.int .i64 0, .int .i64 0]) 2 16 Try.underlying71 HI.out.1 HI.out.2.1 HI.out.2.2.1 HI.out.2.2.2 rfl (by decide) (.slice a' k cap') k (prs (M.tabP k QA)) rfl (World.ownsRow.alloc HO5.out.2 _) ⟨w5.heap.size, 0, none⟩ 1 1 [.int .i64 q1, .int .i64 q2] rfl rfl (cell_twoq w5 _ _ _) (two_intsq _ _) (by unfold maxLen; omega) (by omega) (by have := HBq.out.size; have := hS5.size; simp; omega) ?_
      intro v' w6 hown hgrow hat
      have hS7 : wq.grownBy w6 (Value.slice a' k cap').ownBlock := hS6.trans hgrow
      refine hK.out _ _ hS7 (fun _ => ?_)
      clear hK K
      have hown' : w6.ownsRow w2.heap.size 62 2 v' (k + 1) (prs (M.tabP (k + 1) QA)) := by rw [← HSk.out, ← prs_snoc]; exact hown
      obtain ⟨b6, c6, rfl, ho6⟩ := OwnsQ.form (M.tabP_len (k + 1) QA) hown'
      have HO6 : Hid (OwnsQ 62 w6 w2.heap.size b6 (k + 1) c6 (M.tabP (k + 1) QA)) := ho6
      have HM6 : Hid (SeesQ w6 (some ⟨b1, o1, none⟩) K mc MS) := HMq.out.grownR hS7 (fun x hx => by injection hx with hx; subst hx; exact HRp.out)
      have HF6 : Hid (∀ x y, some (⟨b1, o1, none⟩ : Addr) = some x → b6 = some y → y.block ≠ x.block) := fun x y hx hy => by injection hx with hx; subst hx; exact far_at hat (by have := HPb.out; have := hS5.size; simp; omega) (own_some HRp.out) y hy
      have HB6 : Hid (Below w2.heap.size w2 w6) := HBq.out.grown hS7 HBq.out.size (fun q hq => HRlo.out q hq)
      clear hown hown' hgrow ho6 hat hS7 hS6 hS5
      try simp only [Act.put]
      refine wpAnyH_take (i := 10) (v := .slice b6 (k + 1) c6) rfl (by kernel_rfl) (by kernel_rfl) (by kernel_rfl) (fun _ _ _ h => h) (Or.inl ⟨by kernel_rfl, ?_⟩) (by assumption) ?_
      · intro wp hSp; go_simp
      try simp only [Act.put]
      refine wpAnyH_done (by kernel_rfl) ?_ _
      refine NoPanic.normal ?_
      go_simp
      go_wp2
      go_roundw
      case rel => exact ⟨k + 1, b6, c6, by omega, by go_num, rfl, HO6.out, HM6.out, HF6.out, HB6.out⟩
      case measure => simp [intOf]; omega
    · have hkn : k = K := by omega
      subst hkn
      go_wp2
      go_ret
      exact ⟨a', cap', rfl, HO4.out.mono HB2.out.size, HB2.out.trans (HB4.out.mono HB2.out.size)⟩
end Go.Proofs.Ytbcfjbkmkknmfaa
