/- What the polynomials through the rows have at the points of a proof. The lists that the program reckons are those of the proof in plain terms. An honest proof, in the program. An honest proof, in the program, where all is right. -/
import Derived.Test.YtbcfjbkmkknmfaaPrF
import Derived.Test.YtbcfjbkmkknmfaaGrA
import Derived.Test.YtbcfjbkmkknmfaaPfA
namespace Go.Proofs.Ytbcfjbkmkknmfaa
open Go.RowKit

theorem M.all_fsts {ps : List (Int × Int)} (h : ∀ i, i < ps.length → M.sOk (ps.getD i (0, 0)) = true) : M.allEl (M.fsts ps) = true := by
  unfold M.allEl M.fsts
  rw [List.all_eq_true]
  intro x hx
  obtain ⟨p, hp, rfl⟩ := List.mem_map.1 hx
  obtain ⟨i, hi, rfl⟩ := List.getElem_of_mem hp
  have := h i hi
  rw [List.getD_eq_getElem?_getD, List.getElem?_eq_getElem hi] at this
  exact (M.el_iff _).2 ((M.sOk_iff _).1 this).1
theorem M.all_snds {ps : List (Int × Int)} (h : ∀ i, i < ps.length → M.sOk (ps.getD i (0, 0)) = true) : M.allEl (M.snds ps) = true := by
  unfold M.allEl M.snds
  rw [List.all_eq_true]
  intro x hx
  obtain ⟨p, hp, rfl⟩ := List.mem_map.1 hx
  obtain ⟨i, hi, rfl⟩ := List.getElem_of_mem hp
  have := h i hi
  rw [List.getD_eq_getElem?_getD, List.getElem?_eq_getElem hi] at this
  exact (M.el_iff _).2 ((M.sOk_iff _).1 this).2
set_option maxHeartbeats 8000000 in
set_option maxRecDepth 10000 in
theorem widened_any {la0 : Option Addr} {lc : Nat} {ps : List (Int × Int)} (N : Nat) (w : World) (h : M.rowsN N = true) (hz : SeesQ w la0 N lc ps) (hps : ∀ i, i < N → M.sOk (ps.getD i (0, 0)) = true) :
    Calls Try.prog 26 #[frv N, .slice la0 N lc] w fun e w' => ∃ a' c', e = .returned (.slice a' (4 * N) c') ∧ OwnsQ 62 w' w.heap.size a' (4 * N) c' (M.zipP (M.wide (M.frs (M.fsts ps) 1) N) (M.wide (M.frs (M.snds ps) 1) N) (4 * N)) ∧ Below w.heap.size w w' := by
  have hb16 := M.rowsN_pos h
  obtain ⟨K, hK⟩ : ∃ K : Nat, K = 4 * N := ⟨_, rfl⟩
  have hKi : 4 * (N : Int) = (K : Int) := by omega
  have hps' : ∀ i, i < ps.length → M.sOk (ps.getD i (0, 0)) = true := by rw [hz.len]; exact hps
  have CXS : Hid (∀ W, SeesQ W la0 N lc ps → Calls Try.prog 30 #[.slice la0 N lc] W fun e w' => ∃ a' cap', e = .returned (.slice a' N cap') ∧ Owns 60 w' W.heap.size a' N cap' (M.fsts ps) ∧ Below W.heap.size W w') := fun W hW => xsOf_any W hW (by omega)
  have CYS : Hid (∀ W, SeesQ W la0 N lc ps → Calls Try.prog 31 #[.slice la0 N lc] W fun e w' => ∃ a' cap', e = .returned (.slice a' N cap') ∧ Owns 60 w' W.heap.size a' N cap' (M.snds ps) ∧ Below W.heap.size W w') := fun W hW => ysOf_any W hW (by omega)
  have CPx : Hid (∀ (W : World) {xa : Option Addr} {xc : Nat}, Sees W xa N xc (M.fsts ps) → Calls Try.prog 57 #[.agg #[.int .i64 N, .int .i64 1, .int .i64 (M.root N)], .slice xa N xc] W fun e w' => ∃ a' m c', e = .returned (.slice a' m c') ∧ Owns 60 w' W.heap.size a' m c' (M.frs (M.fsts ps) 1) ∧ Below W.heap.size W w') := fun W _ _ hW => polyOf_any 1 W hW (M.all_fsts hps') (M.row_pt (M.rowsN_two h))
  have CPy : Hid (∀ (W : World) {xa : Option Addr} {xc : Nat}, Sees W xa N xc (M.snds ps) → Calls Try.prog 57 #[.agg #[.int .i64 N, .int .i64 1, .int .i64 (M.root N)], .slice xa N xc] W fun e w' => ∃ a' m c', e = .returned (.slice a' m c') ∧ Owns 60 w' W.heap.size a' m c' (M.frs (M.snds ps) 1) ∧ Below W.heap.size W w') := fun W _ _ hW => polyOf_any 1 W hW (M.all_snds hps') (M.row_pt (M.rowsN_two h))
  have lx : (M.frs (M.fsts ps) 1).length ≤ N := by have := M.frs_len (M.fsts ps) 1; rw [M.fsts_len, hz.len] at this; exact this
  have ly : (M.frs (M.snds ps) 1).length ≤ N := by have := M.frs_len (M.snds ps) 1; rw [M.snds_len, hz.len] at this; exact this
  have CVX : Hid (∀ (W : World) {a : Option Addr} {n c : Nat}, Sees W a n c (M.frs (M.fsts ps) 1) → Calls Try.prog 59 #[.agg #[.int .i64 (4 * N : Nat), .int .i64 3, .int .i64 (M.root (4 * N : Nat))], .slice a n c] W fun e w' => ∃ a' c', e = .returned (.slice a' (4 * N) c') ∧ Owns 60 w' W.heap.size a' (4 * N) c' (M.wide (M.frs (M.fsts ps) 1) N) ∧ Below W.heap.size W w') := fun W _ _ _ hW => valuesOf_any 3 W hW (M.frs_all _ _) (by have := hW.len; omega) (M.rowsN_pt h)
  have CVY : Hid (∀ (W : World) {a : Option Addr} {n c : Nat}, Sees W a n c (M.frs (M.snds ps) 1) → Calls Try.prog 59 #[.agg #[.int .i64 (4 * N : Nat), .int .i64 3, .int .i64 (M.root (4 * N : Nat))], .slice a n c] W fun e w' => ∃ a' c', e = .returned (.slice a' (4 * N) c') ∧ Owns 60 w' W.heap.size a' (4 * N) c' (M.wide (M.frs (M.snds ps) 1) N) ∧ Below W.heap.size W w') := fun W _ _ _ hW => valuesOf_any 3 W hW (M.frs_all _ _) (by have := hW.len; omega) (M.rowsN_pt h)
  unfold frv
  rw [hKi, ← hK]
  simp only [← hK] at CVX CVY
  have hKb : K ≤ 1001 := by omega
  generalize M.root (N : Int) = R1 at CPx CPy ⊢
  generalize M.root (K : Int) = R4 at CVX CVY ⊢
  generalize M.lst N = la
  generalize M.wide (M.frs (M.fsts ps) 1) N = VX at CVX ⊢
  generalize M.wide (M.frs (M.snds ps) 1) N = VY at CVY ⊢
  generalize M.frs (M.fsts ps) 1 = PX at CPx CVX
  generalize M.frs (M.snds ps) 1 = PY at CPy CVY
  generalize M.fsts ps = XS at CXS CPx
  generalize M.snds ps = YS at CYS CPy
  have CPPX : Hid _ := CPx.out
  have CPPY : Hid _ := CPy.out
  have HF0 : Hid (Lies (w.alloc (.cells #[.int .i64 (N : Int), .int .i64 1, .int .i64 R1, .int .i64 (K : Int), .int .i64 3, .int .i64 R4, .int .i64 la] 68)) w.heap.size [.int .i64 (N : Int), .int .i64 1, .int .i64 R1, .int .i64 (K : Int), .int .i64 3, .int .i64 R4, .int .i64 la]) := lies_new _ _ _
  have HB0 : Hid (Below w.heap.size w (w.alloc (.cells #[.int .i64 (N : Int), .int .i64 1, .int .i64 R1, .int .i64 (K : Int), .int .i64 3, .int .i64 R4, .int .i64 la] 68))) := (Below.refl _ _).alloc (Nat.le_refl _) _
  have HQ0 : Hid (SeesQ (w.alloc (.cells #[.int .i64 (N : Int), .int .i64 1, .int .i64 R1, .int .i64 (K : Int), .int .i64 3, .int .i64 R4, .int .i64 la] 68)) la0 N lc ps) := hz.below HB0.out
  clear hb16 hK hKi hps' hz hps h lx ly CPx CPy
  go_enter Try.func26, Try.ntmps26
  go_wp2
  generalize w.alloc (.cells #[.int .i64 (N : Int), .int .i64 1, .int .i64 R1, .int .i64 (K : Int), .int .i64 3, .int .i64 R4, .int .i64 la] 68) = wq at HF0 HB0 HQ0 ⊢
  have HF : Hid (Lies wq w.heap.size [.int .i64 (N : Int), .int .i64 1, .int .i64 R1, .int .i64 (K : Int), .int .i64 3, .int .i64 R4, .int .i64 la]) := HF0.out
  have HQ : Hid (SeesQ wq la0 N lc ps) := HQ0.out
  have HBq : Hid (Below w.heap.size w wq) := HB0.out
  clear HF0 HB0 HQ0
  refine wp_region_noPanic ?_
  refine wp_region_held_drew (S := fun W => wq.grownBy W none) (by kernel_rfl) (grown_drew _ _) (fun hHeld => ?_)
  generalize wq.drew = wd0 at hHeld ⊢
  refine wpAnyH_take (i := 0) (v := .pointer (some ⟨w.heap.size, 0, none⟩)) rfl (by kernel_rfl) (by kernel_rfl) (by kernel_rfl) (fun _ _ _ h => h) (Or.inl ⟨by kernel_rfl, ?_⟩) (by assumption) ?_
  · intro wq hSq; go_simp
  try simp only [Act.put]
  refine wpAnyH_take (i := 1) (v := .agg #[.int .i64 (N : Int), .int .i64 1, .int .i64 R1]) rfl (by kernel_rfl) (by kernel_rfl) (by kernel_rfl) (fun _ _ _ h => h) (Or.inl ⟨by kernel_rfl, ?_⟩) (by assumption) ?_
  · intro wp hSp; have c0 : wp.cell? ⟨w.heap.size, 0, none⟩ = some (.int .i64 (N : Int)) := (HF.out.grown hSp (by simp)).at 0; have c1 : wp.cell? ⟨w.heap.size, 1, none⟩ = some (.int .i64 1) := (HF.out.grown hSp (by simp)).at 1; have c2 : wp.cell? ⟨w.heap.size, 2, none⟩ = some (.int .i64 R1) := (HF.out.grown hSp (by simp)).at 2; go_simp
  try simp only [Act.put]
  refine wpAnyH_take (i := 2) (v := .slice la0 N lc) rfl (by kernel_rfl) (by kernel_rfl) (by kernel_rfl) (fun _ _ _ h => h) (Or.inl ⟨by kernel_rfl, ?_⟩) (by assumption) ?_
  · intro wq hSq; go_simp
  try simp only [Act.put]
  refine wpAnyH_ready (rs := [3]) (by kernel_rfl) (by simp) ?_
  refine AllReadyH.cons rfl (fun Kk hK => ?_) AllReadyH.nil
  go_simp
  refine (CXS.out _ (HQ.out.grownR hHeld (by simp))).mono ?_
  rintro e w3 ⟨xa, xc, rfl, ho3, hb3⟩
  go_simp
  have hS3 : wq.grownBy w3 none := grown_step hHeld hb3
  have HX3 : Hid (Owns 60 w3 wd0.heap.size xa N xc XS) := ho3
  refine hK.out _ _ hS3 (fun _ => ?_)
  clear hK Kk hb3
  clear ho3
  try simp only [Act.put]
  refine wpAnyH_ready (rs := [4]) (by kernel_rfl) (by simp) ?_
  refine AllReadyH.cons rfl (fun Kk hK => ?_) AllReadyH.nil
  go_simp
  refine (CPPX.out _ HX3.out.sees).mono ?_
  rintro e w4 ⟨pa, pn, pc, rfl, ho4, hb4⟩
  go_simp
  have hS4 : wq.grownBy w4 none := grown_step hS3 hb4
  have HP4 : Hid (Owns 60 w4 w3.heap.size pa pn pc PX) := ho4
  refine hK.out _ _ hS4 (fun _ => ?_)
  clear hK Kk hb4
  clear ho4
  try simp only [Act.put]
  refine wpAnyH_take (i := 5) (v := .slice pa pn pc) rfl (by kernel_rfl) (by kernel_rfl) (by kernel_rfl) (fun _ _ _ h => h) (Or.inl ⟨by kernel_rfl, ?_⟩) (by assumption) ?_
  · intro wq hSq; go_simp
  try simp only [Act.put]
  refine wpAnyH_done (by kernel_rfl) ?_ _
  refine NoPanic.normal ?_
  go_simp
  have HF2 : Hid (Lies w4 w.heap.size [.int .i64 (N : Int), .int .i64 1, .int .i64 R1, .int .i64 (K : Int), .int .i64 3, .int .i64 R4, .int .i64 la]) := HF.out.grown hS4 (by simp)
  have HQ2 : Hid (SeesQ w4 la0 N lc ps) := HQ.out.grownR hS4 (by simp)
  have HB2 : Hid (Below w.heap.size w w4) := HBq.out.grown hS4 HBq.out.size (by simp)
  have HPX2 : Hid (Owns 60 w4 w.heap.size pa pn pc PX) := HP4.out.mono (Nat.le_trans HBq.out.size hS3.size)
  clear HF HQ HBq hHeld hS3 hS4 HP4 HX3 CXS CPPX
  go_wp2
  generalize w4 = wq at HF2 HQ2 HB2 HPX2 ⊢
  have HF : Hid (Lies wq w.heap.size [.int .i64 (N : Int), .int .i64 1, .int .i64 R1, .int .i64 (K : Int), .int .i64 3, .int .i64 R4, .int .i64 la]) := HF2.out
  have HQ : Hid (SeesQ wq la0 N lc ps) := HQ2.out
  have HBq : Hid (Below w.heap.size w wq) := HB2.out
  have HPX0 : Hid (Owns 60 wq w.heap.size pa pn pc PX) := HPX2.out
  clear HF2 HQ2 HB2 HPX2
  generalize pa = pxa at HPX0 ⊢
  generalize pn = pxn at HPX0 ⊢
  generalize pc = pxc at HPX0 ⊢
  refine wp_region_noPanic ?_
  refine wp_region_held_drew (S := fun W => wq.grownBy W none) (by kernel_rfl) (grown_drew _ _) (fun hHeld => ?_)
  generalize wq.drew = wd0 at hHeld ⊢
  refine wpAnyH_take (i := 0) (v := .pointer (some ⟨w.heap.size, 0, none⟩)) rfl (by kernel_rfl) (by kernel_rfl) (by kernel_rfl) (fun _ _ _ h => h) (Or.inl ⟨by kernel_rfl, ?_⟩) (by assumption) ?_
  · intro wq hSq; go_simp
  try simp only [Act.put]
  refine wpAnyH_take (i := 1) (v := .agg #[.int .i64 (N : Int), .int .i64 1, .int .i64 R1]) rfl (by kernel_rfl) (by kernel_rfl) (by kernel_rfl) (fun _ _ _ h => h) (Or.inl ⟨by kernel_rfl, ?_⟩) (by assumption) ?_
  · intro wp hSp; have c0 : wp.cell? ⟨w.heap.size, 0, none⟩ = some (.int .i64 (N : Int)) := (HF.out.grown hSp (by simp)).at 0; have c1 : wp.cell? ⟨w.heap.size, 1, none⟩ = some (.int .i64 1) := (HF.out.grown hSp (by simp)).at 1; have c2 : wp.cell? ⟨w.heap.size, 2, none⟩ = some (.int .i64 R1) := (HF.out.grown hSp (by simp)).at 2; go_simp
  try simp only [Act.put]
  refine wpAnyH_take (i := 2) (v := .slice la0 N lc) rfl (by kernel_rfl) (by kernel_rfl) (by kernel_rfl) (fun _ _ _ h => h) (Or.inl ⟨by kernel_rfl, ?_⟩) (by assumption) ?_
  · intro wq hSq; go_simp
  try simp only [Act.put]
  refine wpAnyH_ready (rs := [3]) (by kernel_rfl) (by simp) ?_
  refine AllReadyH.cons rfl (fun Kk hK => ?_) AllReadyH.nil
  go_simp
  refine (CYS.out _ (HQ.out.grownR hHeld (by simp))).mono ?_
  rintro e w3 ⟨xa, xc, rfl, ho3, hb3⟩
  go_simp
  have hS3 : wq.grownBy w3 none := grown_step hHeld hb3
  have HX3 : Hid (Owns 60 w3 wd0.heap.size xa N xc YS) := ho3
  refine hK.out _ _ hS3 (fun _ => ?_)
  clear hK Kk hb3
  clear ho3
  try simp only [Act.put]
  refine wpAnyH_ready (rs := [4]) (by kernel_rfl) (by simp) ?_
  refine AllReadyH.cons rfl (fun Kk hK => ?_) AllReadyH.nil
  go_simp
  refine (CPPY.out _ HX3.out.sees).mono ?_
  rintro e w4 ⟨pa, pn, pc, rfl, ho4, hb4⟩
  go_simp
  have hS4 : wq.grownBy w4 none := grown_step hS3 hb4
  have HP4 : Hid (Owns 60 w4 w3.heap.size pa pn pc PY) := ho4
  refine hK.out _ _ hS4 (fun _ => ?_)
  clear hK Kk hb4
  clear ho4
  try simp only [Act.put]
  refine wpAnyH_take (i := 5) (v := .slice pa pn pc) rfl (by kernel_rfl) (by kernel_rfl) (by kernel_rfl) (fun _ _ _ h => h) (Or.inl ⟨by kernel_rfl, ?_⟩) (by assumption) ?_
  · intro wq hSq; go_simp
  try simp only [Act.put]
  refine wpAnyH_done (by kernel_rfl) ?_ _
  refine NoPanic.normal ?_
  go_simp
  have HF2 : Hid (Lies w4 w.heap.size [.int .i64 (N : Int), .int .i64 1, .int .i64 R1, .int .i64 (K : Int), .int .i64 3, .int .i64 R4, .int .i64 la]) := HF.out.grown hS4 (by simp)
  have HQ2 : Hid (SeesQ w4 la0 N lc ps) := HQ.out.grownR hS4 (by simp)
  have HB2 : Hid (Below w.heap.size w w4) := HBq.out.grown hS4 HBq.out.size (by simp)
  have HPY2 : Hid (Owns 60 w4 w.heap.size pa pn pc PY) := HP4.out.mono (Nat.le_trans HBq.out.size hS3.size)
  have HPX2 : Hid (Owns 60 w4 w.heap.size pxa pxn pxc PX) := HPX0.out.grownR hS4 (by simp)
  clear HF HQ HBq hHeld hS3 hS4 HP4 HX3 CYS CPPY HPX0
  go_wp2
  generalize w4 = wq at HF2 HQ2 HB2 HPX2 HPY2 ⊢
  have HF : Hid (Lies wq w.heap.size [.int .i64 (N : Int), .int .i64 1, .int .i64 R1, .int .i64 (K : Int), .int .i64 3, .int .i64 R4, .int .i64 la]) := HF2.out
  have HBq : Hid (Below w.heap.size w wq) := HB2.out
  have HPX : Hid (Sees wq pxa pxn pxc PX) := HPX2.out.sees
  have HPY : Hid (Sees wq pa pn pc PY) := HPY2.out.sees
  clear HF2 HQ2 HB2 HPX2 HPY2
  generalize pa = pya at HPY ⊢
  generalize pn = pyn at HPY ⊢
  generalize pc = pyc at HPY ⊢
  refine wp_region_noPanic ?_
  refine wp_region_held_drew (S := fun W => wq.grownBy W none) (by kernel_rfl) (grown_drew _ _) (fun hHeld => ?_)
  generalize wq.drew = wd0 at hHeld ⊢
  refine wpAnyH_take (i := 0) (v := .pointer (some ⟨w.heap.size, 3, none⟩)) rfl (by kernel_rfl) (by kernel_rfl) (by kernel_rfl) (fun _ _ _ h => h) (Or.inl ⟨by kernel_rfl, ?_⟩) (by assumption) ?_
  · intro wq hSq; go_simp
  try simp only [Act.put]
  refine wpAnyH_take (i := 1) (v := .agg #[.int .i64 (K : Int), .int .i64 3, .int .i64 R4]) rfl (by kernel_rfl) (by kernel_rfl) (by kernel_rfl) (fun _ _ _ h => h) (Or.inl ⟨by kernel_rfl, ?_⟩) (by assumption) ?_
  · intro wp hSp; have c0 : wp.cell? ⟨w.heap.size, 3, none⟩ = some (.int .i64 (K : Int)) := (HF.out.grown hSp (by simp)).at 3; have c1 : wp.cell? ⟨w.heap.size, 4, none⟩ = some (.int .i64 3) := (HF.out.grown hSp (by simp)).at 4; have c2 : wp.cell? ⟨w.heap.size, 5, none⟩ = some (.int .i64 R4) := (HF.out.grown hSp (by simp)).at 5; go_simp
  try simp only [Act.put]
  refine wpAnyH_take (i := 2) (v := .slice pxa pxn pxc) rfl (by kernel_rfl) (by kernel_rfl) (by kernel_rfl) (fun _ _ _ h => h) (Or.inl ⟨by kernel_rfl, ?_⟩) (by assumption) ?_
  · intro wq hSq; go_simp
  try simp only [Act.put]
  refine wpAnyH_take (i := 4) (v := .pointer (some ⟨w.heap.size, 3, none⟩)) rfl (by kernel_rfl) (by kernel_rfl) (by kernel_rfl) (fun _ _ _ h => h) (Or.inl ⟨by kernel_rfl, ?_⟩) (by assumption) ?_
  · intro wq hSq; go_simp
  try simp only [Act.put]
  refine wpAnyH_take (i := 5) (v := .agg #[.int .i64 (K : Int), .int .i64 3, .int .i64 R4]) rfl (by kernel_rfl) (by kernel_rfl) (by kernel_rfl) (fun _ _ _ h => h) (Or.inl ⟨by kernel_rfl, ?_⟩) (by assumption) ?_
  · intro wp hSp; have c0 : wp.cell? ⟨w.heap.size, 3, none⟩ = some (.int .i64 (K : Int)) := (HF.out.grown hSp (by simp)).at 3; have c1 : wp.cell? ⟨w.heap.size, 4, none⟩ = some (.int .i64 3) := (HF.out.grown hSp (by simp)).at 4; have c2 : wp.cell? ⟨w.heap.size, 5, none⟩ = some (.int .i64 R4) := (HF.out.grown hSp (by simp)).at 5; go_simp
  try simp only [Act.put]
  refine wpAnyH_take (i := 6) (v := .slice pya pyn pyc) rfl (by kernel_rfl) (by kernel_rfl) (by kernel_rfl) (fun _ _ _ h => h) (Or.inl ⟨by kernel_rfl, ?_⟩) (by assumption) ?_
  · intro wq hSq; go_simp
  try simp only [Act.put]
  refine wpAnyH_ready (rs := [3]) (by kernel_rfl) (by simp) ?_
  refine AllReadyH.cons rfl (fun Kk hK => ?_) AllReadyH.nil
  go_simp
  refine (CVX.out _ (HPX.out.grownR hHeld (by simp))).mono ?_
  rintro e w3 ⟨xa, xc, rfl, ho3, hb3⟩
  go_simp
  have hS3 : wq.grownBy w3 none := grown_step hHeld hb3
  have HX3 : Hid (Owns 60 w3 wd0.heap.size xa K xc VX) := ho3
  refine hK.out _ _ hS3 (fun _ => ?_)
  clear hK Kk hb3
  clear ho3
  try simp only [Act.put]
  refine wpAnyH_ready (rs := [7]) (by kernel_rfl) (by simp) ?_
  refine AllReadyH.cons rfl (fun Kk hK => ?_) AllReadyH.nil
  go_simp
  refine (CVY.out _ (HPY.out.grownR hS3 (by simp))).mono ?_
  rintro e w4 ⟨ya, yc, rfl, ho4, hb4⟩
  go_simp
  have hS4 : wq.grownBy w4 none := grown_step hS3 hb4
  have HY4 : Hid (Owns 60 w4 w3.heap.size ya K yc VY) := ho4
  have HX4 : Hid (Owns 60 w4 wd0.heap.size xa K xc VX) := HX3.out.below hb4
  refine hK.out _ _ hS4 (fun _ => ?_)
  clear hK Kk hb4
  clear ho4
  try simp only [Act.put]
  refine wpAnyH_ready (rs := [8]) (by kernel_rfl) (by simp) ?_
  refine AllReadyH.cons rfl (fun Kk hK => ?_) AllReadyH.nil
  go_simp
  refine (pairsOf_any _ HX4.out.sees HY4.out.sees hKb).mono ?_
  rintro e w5 ⟨oa, oc, rfl, ho5, hb5⟩
  go_simp
  have hS5 : wq.grownBy w5 none := grown_step hS4 hb5
  have HR5 : Hid (OwnsQ 62 w5 w.heap.size oa K oc (M.zipP VX VY K)) := ho5.mono (Nat.le_trans HBq.out.size hS4.size)
  refine hK.out _ _ hS5 (fun _ => ?_)
  clear hK Kk hb5
  clear ho5
  try simp only [Act.put]
  refine wpAnyH_take (i := 9) (v := .slice oa K oc) rfl (by kernel_rfl) (by kernel_rfl) (by kernel_rfl) (fun _ _ _ h => h) (Or.inl ⟨by kernel_rfl, ?_⟩) (by assumption) ?_
  · intro wq hSq; go_simp
  try simp only [Act.put]
  refine wpAnyH_done (by kernel_rfl) ?_ _
  refine NoPanic.normal ?_
  go_simp
  have HBz : Hid (Below w.heap.size w w5) := HBq.out.grown hS5 HBq.out.size (by simp)
  go_wp2
  go_ret
  exact ⟨oa, oc, rfl, HR5.out, HBz.out⟩
end Go.Proofs.Ytbcfjbkmkknmfaa
namespace Go.Proofs.Ytbcfjbkmkknmfaa
open Go.RowKit

theorem M.fsts_get (ps : List (Int × Int)) (i : Nat) : (M.fsts ps).getD i 0 = (ps.getD i (0, 0)).1 := by
  unfold M.fsts; rw [List.getD_eq_getElem?_getD, List.getD_eq_getElem?_getD, List.getElem?_map]
  cases ps[i]? <;> rfl
theorem M.snds_get (ps : List (Int × Int)) (i : Nat) : (M.snds ps).getD i 0 = (ps.getD i (0, 0)).2 := by
  unfold M.snds; rw [List.getD_eq_getElem?_getD, List.getD_eq_getElem?_getD, List.getElem?_map]
  cases ps[i]? <;> rfl
theorem M.fsts_tab {ps : List (Int × Int)} {k : Nat} {f : Nat → Int} (hl : ps.length = k) (h : ∀ i, i < k → (ps.getD i (0, 0)).1 = f i) : M.fsts ps = M.tab k f :=
  M.tab_ext (by rw [M.fsts_len, hl]) fun i hi => by rw [M.fsts_get, h i hi]
theorem M.snds_tab {ps : List (Int × Int)} {k : Nat} {f : Nat → Int} (hl : ps.length = k) (h : ∀ i, i < k → (ps.getD i (0, 0)).2 = f i) : M.snds ps = M.tab k f :=
  M.tab_ext (by rw [M.snds_len, hl]) fun i hi => by rw [M.snds_get, h i hi]
theorem M.run_getD (m : M.Mc) (s : Int × Int) {n i : Nat} (h : i ≤ n) : (m.run s n).getD i (0, 0) = m.rn s i := by
  unfold M.Mc.run; simp [List.getD_eq_getElem?_getD, show i < n + 1 by omega]
theorem M.run_fsts (m : M.Mc) (s : Int × Int) {N : Nat} (h : 0 < N) : M.fsts (m.run s (N - 1)) = M.xsR m s N :=
  M.fsts_tab (by rw [M.run_len]; omega) fun i hi => by rw [M.run_getD m s (by omega)]
theorem M.run_snds (m : M.Mc) (s : Int × Int) {N : Nat} (h : 0 < N) : M.snds (m.run s (N - 1)) = M.ysR m s N :=
  M.snds_tab (by rw [M.run_len]; omega) fun i hi => by rw [M.run_getD m s (by omega)]
theorem M.list_tab {l : List Int} {k : Nat} (h : l.length = k) : l = M.tab k (fun i => l.getD i 0) := M.tab_ext h fun _ _ => rfl
theorem M.zip_fsts {X Y : List Int} {k : Nat} (h : X.length = k) : M.fsts (M.zipP X Y k) = X :=
  (M.fsts_tab (M.zipP_len X Y k) fun i hi => by rw [M.zipP_get X Y hi]).trans (M.list_tab h).symm
theorem M.zip_snds {X Y : List Int} {k : Nat} (h : Y.length = k) : M.snds (M.zipP X Y k) = Y :=
  (M.snds_tab (M.zipP_len X Y k) fun i hi => by rw [M.zipP_get X Y hi]).trans (M.list_tab h).symm
theorem M.missAt_fst (m : M.Mc) (X Y : List Int) {N i : Nat} (h : i < 4 * N) : (M.missAt m (M.zipP X Y (4 * N)) N i).1 = M.mis m.X X Y X N i := by
  unfold M.missAt M.mis M.Mc.nx; rw [M.zipP_get X Y h, M.zipP_get X Y (Nat.mod_lt _ (by omega))]
theorem M.missAt_snd (m : M.Mc) (X Y : List Int) {N i : Nat} (h : i < 4 * N) : (M.missAt m (M.zipP X Y (4 * N)) N i).2 = M.mis m.Y X Y Y N i := by
  unfold M.missAt M.mis M.Mc.nx; rw [M.zipP_get X Y h, M.zipP_get X Y (Nat.mod_lt _ (by omega))]
theorem M.quo_fsts (m : M.Mc) (X Y : List Int) (N : Nat) : M.fsts (M.tabP (4 * N) (M.quoAt m (M.zipP X Y (4 * N)) N)) = M.quo m.X X Y X N :=
  M.fsts_tab (M.tabP_len _ _) fun i hi => by rw [M.tabP_get _ hi]; unfold M.quoAt; rw [M.missAt_fst m X Y hi]
theorem M.quo_snds (m : M.Mc) (X Y : List Int) (N : Nat) : M.snds (M.tabP (4 * N) (M.quoAt m (M.zipP X Y (4 * N)) N)) = M.quo m.Y X Y Y N :=
  M.snds_tab (M.tabP_len _ _) fun i hi => by rw [M.tabP_get _ hi]; unfold M.quoAt; rw [M.missAt_snd m X Y hi]
theorem M.zip_ok {X Y : List Int} {k : Nat} (hx : M.allEl X = true) (hy : M.allEl Y = true) : ∀ i, i < k → M.sOk ((M.zipP X Y k).getD i (0, 0)) = true := fun i hi => by
  rw [M.zipP_get X Y hi]; exact (M.sOk_iff _).2 ⟨M.el_at hx i, M.el_at hy i⟩
end Go.Proofs.Ytbcfjbkmkknmfaa
namespace Go.Proofs.Ytbcfjbkmkknmfaa
open Go.RowKit

set_option maxHeartbeats 4000000 in
set_option maxRecDepth 10000 in
theorem implProved_out (m : M.Mc) (s : Int × Int) (n : Int) (w : World) (h : M.provOk m s n = false) :
    Calls Try.prog 7 #[mcv m, stv s, .int .i64 n] w fun e w' => e = .returned (.tuple #[.agg #[.int .i64 0, .int .i64 0, .int .i64 0, .int .i64 0, .slice none 0 0, .slice none 0 0, .slice none 0 0, .slice none 0 0], .bool false]) ∧ Below w.heap.size w w' := by
  have C1 := stepperOf_any m
  have C2 := statePair_any s
  have C3 : ∀ W, Calls Try.prog 24 #[.int .i64 n] W fun e w' => ∃ g0 g1 g2 g3 g4 g5 g6 : Int, e = .returned (.tuple #[.agg #[.int .i64 g0, .int .i64 g1, .int .i64 g2, .int .i64 g3, .int .i64 g4, .int .i64 g5, .int .i64 g6], .bool (M.rows n)]) ∧ Below W.heap.size W w' := fun W => by
    cases hr : M.rows n with
    | false => exact (frameOf_out n W hr).mono fun e w' ⟨h1, h2⟩ => ⟨0, 0, 0, 0, 0, 0, 0, h1, h2⟩
    | true =>
      obtain ⟨N, rfl, hN⟩ := M.rowsN_of hr
      exact (frameOf_in N W hN).mono fun e w' ⟨h1, h2⟩ => ⟨_, _, _, _, _, _, _, h1, h2⟩
  have hno := M.provOk_no h
  clear h
  obtain ⟨⟨a, b, c, d, f, k⟩, ⟨a', b', c', d', f', k'⟩⟩ := m
  obtain ⟨x, y⟩ := s
  dsimp only [mcv, stv] at C1 C2 ⊢
  generalize M.Mc.ok ⟨⟨a, b, c, d, f, k⟩, ⟨a', b', c', d', f', k'⟩⟩ = o1 at C1 hno
  generalize M.sOk (x, y) = o2 at C2 hno
  generalize M.rows n = o3 at C3 hno
  have HS0 : Hid (Lies (((w.alloc (.cells #[.int .i64 a, .int .i64 b, .int .i64 c, .int .i64 d, .int .i64 f, .int .i64 k, .int .i64 a', .int .i64 b', .int .i64 c', .int .i64 d', .int .i64 f', .int .i64 k'] 36)).alloc (.cells #[.int .i64 x, .int .i64 y] 28)).alloc (.cells #[.int .i64 0, .int .i64 0, .int .i64 0, .int .i64 0, .slice none 0 0, .slice none 0 0, .slice none 0 0, .slice none 0 0] 31)) (w.heap.size + 1) [.int .i64 x, .int .i64 y]) := (lies_new2 _ _ _ _).alloc _
  have HZ0 : Hid (Lies (((w.alloc (.cells #[.int .i64 a, .int .i64 b, .int .i64 c, .int .i64 d, .int .i64 f, .int .i64 k, .int .i64 a', .int .i64 b', .int .i64 c', .int .i64 d', .int .i64 f', .int .i64 k'] 36)).alloc (.cells #[.int .i64 x, .int .i64 y] 28)).alloc (.cells #[.int .i64 0, .int .i64 0, .int .i64 0, .int .i64 0, .slice none 0 0, .slice none 0 0, .slice none 0 0, .slice none 0 0] 31)) (w.heap.size + 1 + 1) [.int .i64 0, .int .i64 0, .int .i64 0, .int .i64 0, .slice none 0 0, .slice none 0 0, .slice none 0 0, .slice none 0 0]) := lies_new3 _ _ _ _ _
  have HB0 : Hid (Below w.heap.size w (((w.alloc (.cells #[.int .i64 a, .int .i64 b, .int .i64 c, .int .i64 d, .int .i64 f, .int .i64 k, .int .i64 a', .int .i64 b', .int .i64 c', .int .i64 d', .int .i64 f', .int .i64 k'] 36)).alloc (.cells #[.int .i64 x, .int .i64 y] 28)).alloc (.cells #[.int .i64 0, .int .i64 0, .int .i64 0, .int .i64 0, .slice none 0 0, .slice none 0 0, .slice none 0 0, .slice none 0 0] 31))) := (((Below.refl _ _).alloc (Nat.le_refl _) _).alloc (by simp) _).alloc (by simp; omega) _
  have fin : o1 = false ∨ o2 = false ∨ o3 = false := by
    rcases hno with rfl | ⟨-, rfl⟩ | ⟨-, -, rfl⟩
    · exact .inl rfl
    · exact .inr (.inl rfl)
    · exact .inr (.inr rfl)
  have HFN : Hid (o1 = false ∨ o2 = false ∨ o3 = false) := fin
  clear hno fin
  go_enter Try.func7, Try.ntmps7
  go_wp2_with fail
  refine (C1 _).mono ?_
  rintro e w1 ⟨m', rfl, -, hb1⟩
  generalize mcv m' = mv
  have HS1 : Hid (Lies w1 (w.heap.size + 1) [.int .i64 x, .int .i64 y]) := HS0.out.belowS hb1
  have HZ1 : Hid (Lies w1 (w.heap.size + 1 + 1) [.int .i64 0, .int .i64 0, .int .i64 0, .int .i64 0, .slice none 0 0, .slice none 0 0, .slice none 0 0, .slice none 0 0]) := HZ0.out.belowS hb1
  have HB1 : Hid (Below w.heap.size w w1) := HB0.out.trans (hb1.mono HB0.out.size)
  have s0 : w1.cell? ⟨w.heap.size + 1, 0, none⟩ = some (.int .i64 x) := HS1.out.at 0
  have s1 : w1.cell? ⟨w.heap.size + 1, 1, none⟩ = some (.int .i64 y) := HS1.out.at 1
  clear hb1 HS0 HZ0 HB0 C1
  go_wp2_with fail
  refine (C2 _).mono ?_
  rintro e w2 ⟨⟨p1, p2⟩, rfl, -, -, hb2⟩
  dsimp only [stv]
  have HZ2 : Hid (Lies (w2.alloc (.cells #[.int .i64 p1, .int .i64 p2] 62)) (w.heap.size + 1 + 1) [.int .i64 0, .int .i64 0, .int .i64 0, .int .i64 0, .slice none 0 0, .slice none 0 0, .slice none 0 0, .slice none 0 0]) := (HZ1.out.belowS hb2).alloc _
  have HB2 : Hid (Below w.heap.size w (w2.alloc (.cells #[.int .i64 p1, .int .i64 p2] 62))) := (HB1.out.trans (hb2.mono HB1.out.size)).alloc (Nat.le_trans HB1.out.size hb2.size) _
  clear hb2 HS1 HZ1 HB1 C2 s0 s1
  go_wp2_with fail
  refine (C3 _).mono ?_
  rintro e w3 ⟨g0, g1, g2, g3, g4, g5, g6, rfl, hb3⟩
  have HZ3 : Hid (Lies (w3.alloc (.cells #[.int .i64 g0, .int .i64 g1, .int .i64 g2, .int .i64 g3, .int .i64 g4, .int .i64 g5, .int .i64 g6] 68)) (w.heap.size + 1 + 1) [.int .i64 0, .int .i64 0, .int .i64 0, .int .i64 0, .slice none 0 0, .slice none 0 0, .slice none 0 0, .slice none 0 0]) := (HZ2.out.belowS hb3).alloc _
  have HB3 : Hid (Below w.heap.size w (w3.alloc (.cells #[.int .i64 g0, .int .i64 g1, .int .i64 g2, .int .i64 g3, .int .i64 g4, .int .i64 g5, .int .i64 g6] 68))) := (HB2.out.trans (hb3.mono HB2.out.size)).alloc (Nat.le_trans HB2.out.size hb3.size) _
  clear hb3 HZ2 HB2 C3
  cases o1 <;> cases o2 <;> cases o3
  all_goals first
    | (exfalso; rcases HFN.out with h | h | h <;> cases h; done)
    | (go_wp2_with (with_reducible refine wpList_stop 42 ?_ ?_; rfl)
       generalize w3.alloc (.cells #[.int .i64 g0, .int .i64 g1, .int .i64 g2, .int .i64 g3, .int .i64 g4, .int .i64 g5, .int .i64 g6] 68) = w4 at HZ3 HB3 ⊢
       have HZT : Hid (w4.there (w.heap.size + 1 + 1) 0 8) := HZ3.out.there 0 8 (by simp)
       have HZ4 : Hid (Lies (w4.setCells (w.heap.size + 1 + 1) 0 [.int .i64 0, .int .i64 0, .int .i64 0, .int .i64 0, .slice none 0 0, .slice none 0 0, .slice none 0 0, .slice none 0 0]) (w.heap.size + 1 + 1) [.int .i64 0, .int .i64 0, .int .i64 0, .int .i64 0, .slice none 0 0, .slice none 0 0, .slice none 0 0, .slice none 0 0]) := HZ3.out.setCells [.int .i64 0, .int .i64 0, .int .i64 0, .int .i64 0, .slice none 0 0, .slice none 0 0, .slice none 0 0, .slice none 0 0] 0 (by simp)
       have HB4 : Hid (Below w.heap.size w (w4.setCells (w.heap.size + 1 + 1) 0 [.int .i64 0, .int .i64 0, .int .i64 0, .int .i64 0, .slice none 0 0, .slice none 0 0, .slice none 0 0, .slice none 0 0])) := below_setCells _ 0 HB3.out (by omega)
       show wpList _ _ _ _ _ _
       go_wp2_with (with_reducible refine wpList_stopn ?_ ?_; rfl)
       show wpList _ _ _ _ _ _
       with_reducible refine wpList_store_mid ?_ 31 (.tmp 6) (.tmp 42) ?_ (w.heap.size + 1 + 1) 0 ([.int .i64 0, .int .i64 0, .int .i64 0, .int .i64 0, .slice none 0 0, .slice none 0 0, .slice none 0 0, .slice none 0 0]).toArray ?_ ?_ ?_ (by kernel_rfl) (by kernel_rfl) ?_
       · exact rfl
       · exact rfl
       · exact rfl
       · exact rfl
       · exact HZT.out
       generalize w4.setCells (w.heap.size + 1 + 1) 0 [.int .i64 0, .int .i64 0, .int .i64 0, .int .i64 0, .slice none 0 0, .slice none 0 0, .slice none 0 0, .slice none 0 0] = wz at HZ4 HB4 ⊢
       go_wp2
       exact bodyPost_ret (results_cell_tmp rfl rfl (run_loadVar_mid wz (w.heap.size + 1 + 1) 0 31 _ _ HZ4.out.row Try.underlying31 rfl (by kernel_rfl))) rfl ⟨rfl, HB4.out⟩)
end Go.Proofs.Ytbcfjbkmkknmfaa
namespace Go.Proofs.Ytbcfjbkmkknmfaa
open Go.RowKit

set_option maxHeartbeats 8000000 in
set_option maxRecDepth 10000 in
theorem implProved_in (m : M.Mc) (s : Int × Int) (N : Nat) (w : World) (hm : m.ok = true) (hs : M.sOk s = true) (h : M.rowsN N = true) :
    Calls Try.prog 7 #[mcv m, stv s, .int .i64 N] w fun e w' => ∃ (xa : Option Addr) (xc : Nat) (ya : Option Addr) (yc : Nat) (qxa : Option Addr) (qxc : Nat) (qya : Option Addr) (qyc : Nat), e = .returned (.tuple #[.agg #[.int .i64 s.1, .int .i64 s.2, .int .i64 (m.rn s (N - 1)).1, .int .i64 (m.rn s (N - 1)).2, .slice xa (4 * N) xc, .slice ya (4 * N) yc, .slice qxa (4 * N) qxc, .slice qya (4 * N) qyc], .bool true]) ∧
      (Owns 2 w' w.heap.size xa (4 * N) xc (m.pf s N).X ∧ Owns 2 w' w.heap.size ya (4 * N) yc (m.pf s N).Y ∧ Owns 2 w' w.heap.size qxa (4 * N) qxc (m.pf s N).QX ∧ Owns 2 w' w.heap.size qya (4 * N) qyc (m.pf s N).QY) ∧ (far xa ya ∧ far xa qxa ∧ far xa qya ∧ far ya qxa ∧ far ya qya ∧ far qxa qya) ∧ Below w.heap.size w w' := by
  have hb16 := M.rowsN_pos h
  obtain ⟨K, hK⟩ : ∃ K : Nat, K = 4 * N := ⟨_, rfl⟩
  have hK4 : K ≤ 64 := by omega
  have C1 : ∀ W, Calls Try.prog 22 #[mcv m] W fun e w' => e = .returned (.tuple #[.iface 97 (mcv m), .bool true]) ∧ Below W.heap.size W w' := fun W => (stepperOf_any m W).mono fun e w' ⟨m', h1, h2, h3⟩ => by
    rw [hm] at h1; exact ⟨by rw [h1, h2 hm], h3⟩
  have C2 : ∀ W, Calls Try.prog 23 #[stv s] W fun e w' => e = .returned (.tuple #[stv s, .bool true]) ∧ Below W.heap.size W w' := fun W => (statePair_any s W).mono fun e w' ⟨p, h1, h2, h3, h4⟩ => by
    rw [hs] at h1; exact ⟨by rw [h1, h3 hs], h4⟩
  have C3 := fun W => frameOf_in N W h
  have C4 : ∀ W, Calls Try.prog 25 #[.iface 97 (mcv m), stv s, .int .i64 ((N : Int) - 1)] W fun e w' => ∃ a cap, e = .returned (.slice a N cap) ∧ OwnsQ 62 w' W.heap.size a N cap (m.run s (N - 1)) ∧ Below W.heap.size W w' := fun W => by
    have := runFrom_any m s (N - 1) W hm hs (by omega)
    rw [show N - 1 + 1 = N by omega, show ((N - 1 : Nat) : Int) = (N : Int) - 1 by omega] at this
    exact this
  have hrs : ∀ i, i < N → M.sOk ((m.run s (N - 1)).getD i (0, 0)) = true := fun i hi => by rw [M.run_getD m s (by omega)]; exact M.sOk_rn m hs i
  have C5 : Hid (∀ (W : World) {a : Option Addr} {c : Nat}, SeesQ W a N c (m.run s (N - 1)) → Calls Try.prog 26 #[frv N, .slice a N c] W fun e w' => ∃ a' c', e = .returned (.slice a' (4 * N) c') ∧ OwnsQ 62 w' W.heap.size a' (4 * N) c' (M.zipP (m.pf s N).X (m.pf s N).Y (4 * N)) ∧ Below W.heap.size W w') := fun W _ _ hW => by
    have := widened_any N W h hW hrs
    rw [M.run_fsts m s (by omega), M.run_snds m s (by omega)] at this
    exact this
  have C6 : Hid (∀ (W : World) {a : Option Addr} {c : Nat}, SeesQ W a (4 * N) c (M.zipP (m.pf s N).X (m.pf s N).Y (4 * N)) → Calls Try.prog 27 #[frv N, .iface 97 (mcv m), .slice a (4 * N) c] W fun e w' => ∃ a' c', e = .returned (.slice a' (4 * N) c') ∧ OwnsQ 62 w' W.heap.size a' (4 * N) c' (M.tabP (4 * N) (M.quoAt m (M.zipP (m.pf s N).X (m.pf s N).Y (4 * N)) N)) ∧ Below W.heap.size W w') := fun W _ _ hW => quotients_any m N W h hm hW (M.zip_ok (M.wide_all _ _) (M.wide_all _ _))
  have CX1 : Hid (∀ (W : World) {a : Option Addr} {c : Nat}, SeesQ W a (4 * N) c (M.zipP (m.pf s N).X (m.pf s N).Y (4 * N)) → Calls Try.prog 30 #[.slice a (4 * N) c] W fun e w' => ∃ a' cap', e = .returned (.slice a' (4 * N) cap') ∧ Owns 60 w' W.heap.size a' (4 * N) cap' (m.pf s N).X ∧ Below W.heap.size W w') := fun W _ _ hW => by
    have := xsOf_any W hW (by omega); rw [M.zip_fsts (M.pf_lens m s N).1] at this; exact this
  have CY1 : Hid (∀ (W : World) {a : Option Addr} {c : Nat}, SeesQ W a (4 * N) c (M.zipP (m.pf s N).X (m.pf s N).Y (4 * N)) → Calls Try.prog 31 #[.slice a (4 * N) c] W fun e w' => ∃ a' cap', e = .returned (.slice a' (4 * N) cap') ∧ Owns 60 w' W.heap.size a' (4 * N) cap' (m.pf s N).Y ∧ Below W.heap.size W w') := fun W _ _ hW => by
    have := ysOf_any W hW (by omega); rw [M.zip_snds (M.pf_lens m s N).2.1] at this; exact this
  have CX2 : Hid (∀ (W : World) {a : Option Addr} {c : Nat}, SeesQ W a (4 * N) c (M.tabP (4 * N) (M.quoAt m (M.zipP (m.pf s N).X (m.pf s N).Y (4 * N)) N)) → Calls Try.prog 30 #[.slice a (4 * N) c] W fun e w' => ∃ a' cap', e = .returned (.slice a' (4 * N) cap') ∧ Owns 60 w' W.heap.size a' (4 * N) cap' (m.pf s N).QX ∧ Below W.heap.size W w') := fun W _ _ hW => by
    have := xsOf_any W hW (by omega); rw [M.quo_fsts] at this; exact this
  have CY2 : Hid (∀ (W : World) {a : Option Addr} {c : Nat}, SeesQ W a (4 * N) c (M.tabP (4 * N) (M.quoAt m (M.zipP (m.pf s N).X (m.pf s N).Y (4 * N)) N)) → Calls Try.prog 31 #[.slice a (4 * N) c] W fun e w' => ∃ a' cap', e = .returned (.slice a' (4 * N) cap') ∧ Owns 60 w' W.heap.size a' (4 * N) cap' (m.pf s N).QY ∧ Below W.heap.size W w') := fun W _ _ hW => by
    have := ysOf_any W hW (by omega); rw [M.quo_snds] at this; exact this
  have CST : Hid (∀ W, Calls Try.prog 28 #[stv (m.rn s (N - 1))] W fun e w' => e = .returned (stv (m.rn s (N - 1))) ∧ Below W.heap.size W w') := fun W => state_any _ W
  have HLast : Hid ((m.run s (N - 1)).getD (N - 1) (0, 0) = m.rn s (N - 1)) := M.run_getD m s (Nat.le_refl _)
  simp only [← hK] at C5 C6 CX1 CY1 CX2 CY2 ⊢
  generalize M.tabP K (M.quoAt m (M.zipP (m.pf s N).X (m.pf s N).Y K) N) = US at C6 CX2 CY2
  generalize M.zipP (m.pf s N).X (m.pf s N).Y K = VS at C5 C6 CX1 CY1
  generalize (m.pf s N).X = PX at CX1 ⊢
  generalize (m.pf s N).Y = PY at CY1 ⊢
  generalize (m.pf s N).QX = QX at CX2 ⊢
  generalize (m.pf s N).QY = QY at CY2 ⊢
  generalize m.run s (N - 1) = RN at C4 C5 HLast
  generalize m.rn s (N - 1) = en at HLast CST ⊢
  generalize Value.iface 97 (mcv m) = IF at C1 C4 C6
  obtain ⟨⟨a, b, c, d, f, k⟩, ⟨a', b', c', d', f', k'⟩⟩ := m
  obtain ⟨x, y⟩ := s
  obtain ⟨ex, ey⟩ := en
  unfold frv at C3 C5 C6
  dsimp only [mcv, stv] at C1 C2 C4 CST ⊢
  generalize M.root (N : Int) = R1 at C3 C5 C6
  generalize M.root (4 * (N : Int)) = R4 at C3 C5 C6
  generalize M.lst N = la at C3 C5 C6
  have hNw : IntKind.i64.wrap ((N : Int) - 1) = (N : Int) - 1 := by rw [IntKind.wrap_i64]; omega
  have hNb : (N : Int) ≤ 16 := by omega
  have hNl : (2 : Int) ≤ (N : Int) := by omega
  have hK0 : 0 < K := by omega
  have hN0 : 0 < N := by omega
  have hi0 : (0 : Int) ≤ (N : Int) - 1 := by omega
  have hi2 : ¬ (N : Int) < 1 := by omega
  have hi1 : (N : Int) - 1 < (N : Int) := by omega
  have hNt : ((N : Int) - 1).toNat = N - 1 := by omega
  have HS0 : Hid (Lies (((w.alloc (.cells #[.int .i64 a, .int .i64 b, .int .i64 c, .int .i64 d, .int .i64 f, .int .i64 k, .int .i64 a', .int .i64 b', .int .i64 c', .int .i64 d', .int .i64 f', .int .i64 k'] 36)).alloc (.cells #[.int .i64 x, .int .i64 y] 28)).alloc (.cells #[.int .i64 0, .int .i64 0, .int .i64 0, .int .i64 0, .slice none 0 0, .slice none 0 0, .slice none 0 0, .slice none 0 0] 31)) (w.heap.size + 1) [.int .i64 x, .int .i64 y]) := (lies_new2 _ _ _ _).alloc _
  have HZ0 : Hid (Lies (((w.alloc (.cells #[.int .i64 a, .int .i64 b, .int .i64 c, .int .i64 d, .int .i64 f, .int .i64 k, .int .i64 a', .int .i64 b', .int .i64 c', .int .i64 d', .int .i64 f', .int .i64 k'] 36)).alloc (.cells #[.int .i64 x, .int .i64 y] 28)).alloc (.cells #[.int .i64 0, .int .i64 0, .int .i64 0, .int .i64 0, .slice none 0 0, .slice none 0 0, .slice none 0 0, .slice none 0 0] 31)) (w.heap.size + 1 + 1) [.int .i64 0, .int .i64 0, .int .i64 0, .int .i64 0, .slice none 0 0, .slice none 0 0, .slice none 0 0, .slice none 0 0]) := lies_new3 _ _ _ _ _
  have HB0 : Hid (Below w.heap.size w (((w.alloc (.cells #[.int .i64 a, .int .i64 b, .int .i64 c, .int .i64 d, .int .i64 f, .int .i64 k, .int .i64 a', .int .i64 b', .int .i64 c', .int .i64 d', .int .i64 f', .int .i64 k'] 36)).alloc (.cells #[.int .i64 x, .int .i64 y] 28)).alloc (.cells #[.int .i64 0, .int .i64 0, .int .i64 0, .int .i64 0, .slice none 0 0, .slice none 0 0, .slice none 0 0, .slice none 0 0] 31))) := (((Below.refl _ _).alloc (Nat.le_refl _) _).alloc (by simp) _).alloc (by simp; omega) _
  clear hm hs h hrs hK
  go_enter Try.func7, Try.ntmps7
  go_wp2_with fail
  refine (C1 _).mono ?_
  rintro e w1 ⟨rfl, hb1⟩
  have HS1 : Hid (Lies w1 (w.heap.size + 1) [.int .i64 x, .int .i64 y]) := HS0.out.belowS hb1
  have HZ1 : Hid (Lies w1 (w.heap.size + 1 + 1) [.int .i64 0, .int .i64 0, .int .i64 0, .int .i64 0, .slice none 0 0, .slice none 0 0, .slice none 0 0, .slice none 0 0]) := HZ0.out.belowS hb1
  have HB1 : Hid (Below w.heap.size w w1) := HB0.out.trans (hb1.mono HB0.out.size)
  have s0 : w1.cell? ⟨w.heap.size + 1, 0, none⟩ = some (.int .i64 x) := HS1.out.at 0
  have s1 : w1.cell? ⟨w.heap.size + 1, 1, none⟩ = some (.int .i64 y) := HS1.out.at 1
  clear hb1 HS0 HZ0 HB0 C1
  go_wp2_with fail
  refine (C2 _).mono ?_
  rintro e w2 ⟨rfl, hb2⟩
  have HS2 : Hid (Lies (w2.alloc (.cells #[.int .i64 x, .int .i64 y] 62)) (w.heap.size + 1) [.int .i64 x, .int .i64 y]) := (HS1.out.belowS hb2).alloc _
  have HZ2 : Hid (Lies (w2.alloc (.cells #[.int .i64 x, .int .i64 y] 62)) (w.heap.size + 1 + 1) [.int .i64 0, .int .i64 0, .int .i64 0, .int .i64 0, .slice none 0 0, .slice none 0 0, .slice none 0 0, .slice none 0 0]) := (HZ1.out.belowS hb2).alloc _
  have HP2 : Hid (Lies (w2.alloc (.cells #[.int .i64 x, .int .i64 y] 62)) w2.heap.size [.int .i64 x, .int .i64 y]) := lies_new _ _ _
  have HB2 : Hid (Below w.heap.size w (w2.alloc (.cells #[.int .i64 x, .int .i64 y] 62))) := (HB1.out.trans (hb2.mono HB1.out.size)).alloc (Nat.le_trans HB1.out.size hb2.size) _
  clear hb2 HS1 HZ1 HB1 C2 s0 s1
  go_wp2_with fail
  refine (C3 _).mono ?_
  rintro e w3 ⟨rfl, hb3⟩
  have HS3 : Hid (Lies (w3.alloc (.cells #[.int .i64 (N : Int), .int .i64 1, .int .i64 R1, .int .i64 (4 * (N : Int)), .int .i64 3, .int .i64 R4, .int .i64 la] 68)) (w.heap.size + 1) [.int .i64 x, .int .i64 y]) := (HS2.out.belowS hb3).alloc _
  have HZ3 : Hid (Lies (w3.alloc (.cells #[.int .i64 (N : Int), .int .i64 1, .int .i64 R1, .int .i64 (4 * (N : Int)), .int .i64 3, .int .i64 R4, .int .i64 la] 68)) (w.heap.size + 1 + 1) [.int .i64 0, .int .i64 0, .int .i64 0, .int .i64 0, .slice none 0 0, .slice none 0 0, .slice none 0 0, .slice none 0 0]) := (HZ2.out.belowS hb3).alloc _
  have HP3 : Hid (Lies (w3.alloc (.cells #[.int .i64 (N : Int), .int .i64 1, .int .i64 R1, .int .i64 (4 * (N : Int)), .int .i64 3, .int .i64 R4, .int .i64 la] 68)) w2.heap.size [.int .i64 x, .int .i64 y]) := (HP2.out.belowS hb3).alloc _
  have HF3 : Hid (Lies (w3.alloc (.cells #[.int .i64 (N : Int), .int .i64 1, .int .i64 R1, .int .i64 (4 * (N : Int)), .int .i64 3, .int .i64 R4, .int .i64 la] 68)) w3.heap.size [.int .i64 (N : Int), .int .i64 1, .int .i64 R1, .int .i64 (4 * (N : Int)), .int .i64 3, .int .i64 R4, .int .i64 la]) := lies_new _ _ _
  have HB3 : Hid (Below w.heap.size w (w3.alloc (.cells #[.int .i64 (N : Int), .int .i64 1, .int .i64 R1, .int .i64 (4 * (N : Int)), .int .i64 3, .int .i64 R4, .int .i64 la] 68))) := (HB2.out.trans (hb3.mono HB2.out.size)).alloc (Nat.le_trans HB2.out.size hb3.size) _
  clear hb3 HS2 HZ2 HP2 HB2 C3
  have p0 : (w3.alloc (.cells #[.int .i64 (N : Int), .int .i64 1, .int .i64 R1, .int .i64 (4 * (N : Int)), .int .i64 3, .int .i64 R4, .int .i64 la] 68)).cell? ⟨w2.heap.size, 0, none⟩ = some (.int .i64 x) := HP3.out.at 0
  have p1 : (w3.alloc (.cells #[.int .i64 (N : Int), .int .i64 1, .int .i64 R1, .int .i64 (4 * (N : Int)), .int .i64 3, .int .i64 R4, .int .i64 la] 68)).cell? ⟨w2.heap.size, 1, none⟩ = some (.int .i64 y) := HP3.out.at 1
  go_wp2_with fail
  generalize w3.alloc (.cells #[.int .i64 (N : Int), .int .i64 1, .int .i64 R1, .int .i64 (4 * (N : Int)), .int .i64 3, .int .i64 R4, .int .i64 la] 68) = w4 at HS3 HZ3 HP3 HF3 HB3 p0 p1 ⊢
  generalize w2.heap.size = pb at HP3 p0 p1 ⊢
  generalize w3.heap.size = fb at HF3 ⊢
  refine (C4 _).mono ?_
  rintro e w5 ⟨ra, rc, rfl, ho5, hb5⟩
  have HR5 : Hid (OwnsQ 62 w5 w4.heap.size ra N rc RN) := ho5
  have HS5 : Hid (Lies w5 (w.heap.size + 1) [.int .i64 x, .int .i64 y]) := HS3.out.belowS hb5
  have HZ5 : Hid (Lies w5 (w.heap.size + 1 + 1) [.int .i64 0, .int .i64 0, .int .i64 0, .int .i64 0, .slice none 0 0, .slice none 0 0, .slice none 0 0, .slice none 0 0]) := HZ3.out.belowS hb5
  have HF5 : Hid (Lies w5 fb [.int .i64 (N : Int), .int .i64 1, .int .i64 R1, .int .i64 (4 * (N : Int)), .int .i64 3, .int .i64 R4, .int .i64 la]) := HF3.out.belowS hb5
  have HB5 : Hid (Below w.heap.size w w5) := HB3.out.trans (hb5.mono HB3.out.size)
  have HZlt : Hid ((w.heap.size + 1 + 1) < w4.heap.size) := HZ3.out.2.2
  have HS56 : Hid (w4.heap.size ≤ w5.heap.size) := hb5.size
  have f0 : w5.cell? ⟨fb, 0, none⟩ = some (.int .i64 (N : Int)) := HF5.out.at 0
  have f1 : w5.cell? ⟨fb, 1, none⟩ = some (.int .i64 1) := HF5.out.at 1
  have f2 : w5.cell? ⟨fb, 2, none⟩ = some (.int .i64 R1) := HF5.out.at 2
  have f3 : w5.cell? ⟨fb, 3, none⟩ = some (.int .i64 (4 * (N : Int))) := HF5.out.at 3
  have f4 : w5.cell? ⟨fb, 4, none⟩ = some (.int .i64 3) := HF5.out.at 4
  have f5 : w5.cell? ⟨fb, 5, none⟩ = some (.int .i64 R4) := HF5.out.at 5
  have f6 : w5.cell? ⟨fb, 6, none⟩ = some (.int .i64 la) := HF5.out.at 6
  clear ho5 hb5 p0 p1 HS3 HZ3 HP3 HF3 HB3 C4
  go_wp2_with fail
  refine (C5.out _ (HR5.out.sees hN0)).mono ?_
  rintro e w6 ⟨va, vc, rfl, ho6, hb6⟩
  have HV6 : Hid (OwnsQ 62 w6 w5.heap.size va K vc VS) := ho6
  have HR6 : Hid (OwnsQ 62 w6 w4.heap.size ra N rc RN) := HR5.out.below hb6
  have HS6 : Hid (Lies w6 (w.heap.size + 1) [.int .i64 x, .int .i64 y]) := HS5.out.belowS hb6
  have HZ6 : Hid (Lies w6 (w.heap.size + 1 + 1) [.int .i64 0, .int .i64 0, .int .i64 0, .int .i64 0, .slice none 0 0, .slice none 0 0, .slice none 0 0, .slice none 0 0]) := HZ5.out.belowS hb6
  have HF6 : Hid (Lies w6 fb [.int .i64 (N : Int), .int .i64 1, .int .i64 R1, .int .i64 (4 * (N : Int)), .int .i64 3, .int .i64 R4, .int .i64 la]) := HF5.out.belowS hb6
  have HB6 : Hid (Below w.heap.size w w6) := HB5.out.trans (hb6.mono HB5.out.size)
  have HS67 : Hid (w5.heap.size ≤ w6.heap.size) := hb6.size
  clear ho6 hb6 f0 f1 f2 f3 f4 f5 f6 HR5 HS5 HZ5 HF5 HB5 C5
  have f0 : w6.cell? ⟨fb, 0, none⟩ = some (.int .i64 (N : Int)) := HF6.out.at 0
  have f1 : w6.cell? ⟨fb, 1, none⟩ = some (.int .i64 1) := HF6.out.at 1
  have f2 : w6.cell? ⟨fb, 2, none⟩ = some (.int .i64 R1) := HF6.out.at 2
  have f3 : w6.cell? ⟨fb, 3, none⟩ = some (.int .i64 (4 * (N : Int))) := HF6.out.at 3
  have f4 : w6.cell? ⟨fb, 4, none⟩ = some (.int .i64 3) := HF6.out.at 4
  have f5 : w6.cell? ⟨fb, 5, none⟩ = some (.int .i64 R4) := HF6.out.at 5
  have f6 : w6.cell? ⟨fb, 6, none⟩ = some (.int .i64 la) := HF6.out.at 6
  go_wp2_with fail
  refine (C6.out _ (HV6.out.sees hK0)).mono ?_
  rintro e wq ⟨ua, uc, rfl, ho7, hb7⟩
  have HUq0 : Hid (OwnsQ 62 wq w6.heap.size ua K uc US) := ho7
  have HVq0 : Hid (OwnsQ 62 wq w5.heap.size va K vc VS) := HV6.out.below hb7
  have HRq0 : Hid (OwnsQ 62 wq w4.heap.size ra N rc RN) := HR6.out.below hb7
  have HSt : Hid (Lies wq (w.heap.size + 1) [.int .i64 x, .int .i64 y]) := HS6.out.belowS hb7
  have HZq : Hid (Lies wq (w.heap.size + 1 + 1) [.int .i64 0, .int .i64 0, .int .i64 0, .int .i64 0, .slice none 0 0, .slice none 0 0, .slice none 0 0, .slice none 0 0]) := HZ6.out.belowS hb7
  have HBq : Hid (Below w.heap.size w wq) := HB6.out.trans (hb7.mono HB6.out.size)
  clear ho7 hb7 f0 f1 f2 f3 f4 f5 f6 HV6 HR6 HS6 HZ6 HF6 HB6 C6
  obtain ⟨rb0, hra, hlo, -, -, hcs⟩ := HRq0.out.block hN0
  subst hra
  have hcl := hcs (N - 1) (by omega)
  rw [HLast.out] at hcl
  have HEn : Hid (wq.cell? ⟨rb0, (N - 1) * 2, none⟩ = some (.int .i64 ex) ∧ wq.cell? ⟨rb0, (N - 1) * 2 + 1, none⟩ = some (.int .i64 ey)) := hcl
  have HRb : Hid (some rb0 ≠ some (w.heap.size + 1 + 1)) := fun e => by injection e with e; have := HZlt.out; omega
  have HVq : Hid (SeesQ wq va K vc VS) := HVq0.out.sees hK0
  have HUq : Hid (SeesQ wq ua K uc US) := HUq0.out.sees hK0
  have HVn : Hid (∀ z, va = some z → some (w.heap.size + 1 + 1) ≠ some z.block) := fun z hz e => by
    subst hz; injection e with e
    have h1 := (World.ownsRow.lt HVq0.out.2 z.block rfl).1; have := HZlt.out; have := HS56.out; omega
  have HUn : Hid (∀ z, ua = some z → some (w.heap.size + 1 + 1) ≠ some z.block) := fun z hz e => by
    subst hz; injection e with e
    have h1 := (World.ownsRow.lt HUq0.out.2 z.block rfl).1; have := HZlt.out; have := HS56.out; have := HS67.out; omega
  have HRBQ : Hid ((w.heap.size + 1 + 1) < wq.heap.size) := HZq.out.2.2
  clear hcs hcl hlo HRq0 HLast HVq0 HUq0
  go_wp2
  refine wp_region_noPanic ?_
  refine wp_region_held_drew (S := fun W => wq.grownBy W (some (w.heap.size + 1 + 1))) (by kernel_rfl) (grown_drew _ _) (fun hHeld => ?_)
  have HZd : Hid (Lies wq.drew (w.heap.size + 1 + 1) [.int .i64 0, .int .i64 0, .int .i64 0, .int .i64 0, .slice none 0 0, .slice none 0 0, .slice none 0 0, .slice none 0 0]) := HZq.out.below (Below.refl _ _).drew HZq.out.2.2
  generalize wq.drew = wd0 at hHeld HZd ⊢
  refine wpAnyH_take (i := 0) (v := .agg #[.int .i64 x, .int .i64 y]) rfl (by kernel_rfl) (by kernel_rfl) (by kernel_rfl) (fun _ _ _ h => h) (Or.inl ⟨by kernel_rfl, ?_⟩) (by assumption) ?_
  · intro wp hSp; have c0 : wp.cell? ⟨w.heap.size + 1, 0, none⟩ = some (.int .i64 x) := (HSt.out.grown hSp (by simp)).at 0; have c1 : wp.cell? ⟨w.heap.size + 1, 1, none⟩ = some (.int .i64 y) := (HSt.out.grown hSp (by simp)).at 1; go_simp
  try simp only [Act.put]
  refine wpAnyH_take (i := 1) (v := .slice (some ⟨rb0, 0, none⟩) N rc) rfl (by kernel_rfl) (by kernel_rfl) (by kernel_rfl) (fun _ _ _ h => h) (Or.inl ⟨by kernel_rfl, ?_⟩) (by assumption) ?_
  · intro wq hSq; go_simp
  try simp only [Act.put]
  refine wpAnyH_take (i := 2) (v := .slice (some ⟨rb0, 0, none⟩) N rc) rfl (by kernel_rfl) (by kernel_rfl) (by kernel_rfl) (fun _ _ _ h => h) (Or.inl ⟨by kernel_rfl, ?_⟩) (by assumption) ?_
  · intro wq hSq; go_simp
  try simp only [Act.put]
  refine wpAnyH_take (i := 3) (v := .int .i64 (N : Int)) rfl (by kernel_rfl) (by kernel_rfl) (by kernel_rfl) (fun _ _ _ h => h) (Or.inl ⟨by kernel_rfl, ?_⟩) (by assumption) ?_
  · intro wq hSq; go_simp
  try simp only [Act.put]
  refine wpAnyH_take (i := 4) (v := .int .i64 ((N : Int) - 1)) rfl (by kernel_rfl) (by kernel_rfl) (by kernel_rfl) (fun _ _ _ h => h) (Or.inl ⟨by kernel_rfl, ?_⟩) (by assumption) ?_
  · intro wq hSq; go_simp
  try simp only [Act.put]
  refine wpAnyH_take (i := 5) (v := .pointer (some ⟨rb0, (N - 1) * 2, none⟩)) rfl (by kernel_rfl) (by kernel_rfl) (by kernel_rfl) (fun _ _ _ h => h) (Or.inl ⟨by kernel_rfl, ?_⟩) (by assumption) ?_
  · intro wq hSq; go_simp
  try simp only [Act.put]
  refine wpAnyH_take (i := 6) (v := .agg #[.int .i64 ex, .int .i64 ey]) rfl (by kernel_rfl) (by kernel_rfl) (by kernel_rfl) (fun _ _ _ h => h) (Or.inl ⟨by kernel_rfl, ?_⟩) (by assumption) ?_
  · intro wp hSp; have c0 : wp.cell? ⟨rb0, (N - 1) * 2, none⟩ = some (.int .i64 ex) := hSp.cell HEn.out.1 HRb.out; have c1 : wp.cell? ⟨rb0, (N - 1) * 2 + 1, none⟩ = some (.int .i64 ey) := hSp.cell HEn.out.2 HRb.out; go_simp
  try simp only [Act.put]
  refine wpAnyH_take (i := 8) (v := .slice va K vc) rfl (by kernel_rfl) (by kernel_rfl) (by kernel_rfl) (fun _ _ _ h => h) (Or.inl ⟨by kernel_rfl, ?_⟩) (by assumption) ?_
  · intro wq hSq; go_simp
  try simp only [Act.put]
  refine wpAnyH_take (i := 11) (v := .slice va K vc) rfl (by kernel_rfl) (by kernel_rfl) (by kernel_rfl) (fun _ _ _ h => h) (Or.inl ⟨by kernel_rfl, ?_⟩) (by assumption) ?_
  · intro wq hSq; go_simp
  try simp only [Act.put]
  refine wpAnyH_take (i := 14) (v := .slice ua K uc) rfl (by kernel_rfl) (by kernel_rfl) (by kernel_rfl) (fun _ _ _ h => h) (Or.inl ⟨by kernel_rfl, ?_⟩) (by assumption) ?_
  · intro wq hSq; go_simp
  try simp only [Act.put]
  refine wpAnyH_take (i := 17) (v := .slice ua K uc) rfl (by kernel_rfl) (by kernel_rfl) (by kernel_rfl) (fun _ _ _ h => h) (Or.inl ⟨by kernel_rfl, ?_⟩) (by assumption) ?_
  · intro wq hSq; go_simp
  try simp only [Act.put]
  refine wpAnyH_ready (rs := [7]) (by kernel_rfl) (by simp) ?_
  refine AllReadyH.cons rfl (fun Kk hK => ?_) AllReadyH.nil
  go_simp
  refine (CST.out _).mono ?_
  rintro e wg1 ⟨rfl, hb1⟩
  go_simp
  have hS1 : wq.grownBy wg1 (some (w.heap.size + 1 + 1)) := grown_step hHeld hb1
  have HM1 : Hid (wd0.heap.size ≤ wg1.heap.size) := hb1.size
  have HZd1 : Hid (Lies wg1 (w.heap.size + 1 + 1) [.int .i64 0, .int .i64 0, .int .i64 0, .int .i64 0, .slice none 0 0, .slice none 0 0, .slice none 0 0, .slice none 0 0]) := HZd.out.belowS hb1
  refine hK.out _ _ hS1 (fun _ => ?_)
  clear hK Kk hb1
  try simp only [Act.put]
  refine wpAnyH_ready (rs := [9]) (by kernel_rfl) (by simp) ?_
  refine AllReadyH.cons rfl (fun Kk hK => ?_) AllReadyH.nil
  go_simp
  refine (CX1.out _ (HVq.out.grownR hS1 HVn.out)).mono ?_
  rintro e wg2 ⟨tA, tcA, rfl, hoA, hb2⟩
  go_simp
  have hS2 : wq.grownBy wg2 (some (w.heap.size + 1 + 1)) := grown_step hS1 hb2
  have HM2 : Hid (wg1.heap.size ≤ wg2.heap.size) := hb2.size
  have HZd2 : Hid (Lies wg2 (w.heap.size + 1 + 1) [.int .i64 0, .int .i64 0, .int .i64 0, .int .i64 0, .slice none 0 0, .slice none 0 0, .slice none 0 0, .slice none 0 0]) := HZd1.out.belowS hb2
  have HTA2 : Hid (Owns 60 wg2 wg1.heap.size tA K tcA PX) := hoA
  refine hK.out _ _ hS2 (fun _ => ?_)
  clear hK Kk hb2
  clear hoA
  try simp only [Act.put]
  refine wpAnyH_ready (rs := [10]) (by kernel_rfl) (by simp) ?_
  refine AllReadyH.cons rfl (fun Kk hK => ?_) AllReadyH.nil
  go_simp
  refine (numbersOf_any _ HTA2.out.sees (by omega)).mono ?_
  rintro e wg3 ⟨xa, xc, rfl, hpA, hb3⟩
  go_simp
  have hS3 : wq.grownBy wg3 (some (w.heap.size + 1 + 1)) := grown_step hS2 hb3
  have HTA3 : Hid (Owns 60 wg3 wg1.heap.size tA K tcA PX) := HTA2.out.below hb3
  have HM3 : Hid (wg2.heap.size ≤ wg3.heap.size) := hb3.size
  have HZd3 : Hid (Lies wg3 (w.heap.size + 1 + 1) [.int .i64 0, .int .i64 0, .int .i64 0, .int .i64 0, .slice none 0 0, .slice none 0 0, .slice none 0 0, .slice none 0 0]) := HZd2.out.belowS hb3
  have HVA3 : Hid (Owns 2 wg3 wg2.heap.size xa K xc PX) := hpA
  refine hK.out _ _ hS3 (fun _ => ?_)
  clear hK Kk hb3
  have HLA : Hid (∀ z, xa = some z → wg2.heap.size ≤ z.block ∧ z.block < wg3.heap.size) := fun z hz => ⟨hpA.lo z hz, hpA.hi z hz⟩
  clear hpA
  try simp only [Act.put]
  refine wpAnyH_ready (rs := [12]) (by kernel_rfl) (by simp) ?_
  refine AllReadyH.cons rfl (fun Kk hK => ?_) AllReadyH.nil
  go_simp
  refine (CY1.out _ (HVq.out.grownR hS3 HVn.out)).mono ?_
  rintro e wg4 ⟨tB, tcB, rfl, hoB, hb4⟩
  go_simp
  have hS4 : wq.grownBy wg4 (some (w.heap.size + 1 + 1)) := grown_step hS3 hb4
  have HTA4 : Hid (Owns 60 wg4 wg1.heap.size tA K tcA PX) := HTA3.out.below hb4
  have HVA4 : Hid (Owns 2 wg4 wg2.heap.size xa K xc PX) := HVA3.out.below hb4
  have HM4 : Hid (wg3.heap.size ≤ wg4.heap.size) := hb4.size
  have HZd4 : Hid (Lies wg4 (w.heap.size + 1 + 1) [.int .i64 0, .int .i64 0, .int .i64 0, .int .i64 0, .slice none 0 0, .slice none 0 0, .slice none 0 0, .slice none 0 0]) := HZd3.out.belowS hb4
  have HTB4 : Hid (Owns 60 wg4 wg3.heap.size tB K tcB PY) := hoB
  refine hK.out _ _ hS4 (fun _ => ?_)
  clear hK Kk hb4
  clear hoB
  try simp only [Act.put]
  refine wpAnyH_ready (rs := [13]) (by kernel_rfl) (by simp) ?_
  refine AllReadyH.cons rfl (fun Kk hK => ?_) AllReadyH.nil
  go_simp
  refine (numbersOf_any _ HTB4.out.sees (by omega)).mono ?_
  rintro e wg5 ⟨ya, yc, rfl, hpB, hb5⟩
  go_simp
  have hS5 : wq.grownBy wg5 (some (w.heap.size + 1 + 1)) := grown_step hS4 hb5
  have HTA5 : Hid (Owns 60 wg5 wg1.heap.size tA K tcA PX) := HTA4.out.below hb5
  have HVA5 : Hid (Owns 2 wg5 wg2.heap.size xa K xc PX) := HVA4.out.below hb5
  have HTB5 : Hid (Owns 60 wg5 wg3.heap.size tB K tcB PY) := HTB4.out.below hb5
  have HM5 : Hid (wg4.heap.size ≤ wg5.heap.size) := hb5.size
  have HZd5 : Hid (Lies wg5 (w.heap.size + 1 + 1) [.int .i64 0, .int .i64 0, .int .i64 0, .int .i64 0, .slice none 0 0, .slice none 0 0, .slice none 0 0, .slice none 0 0]) := HZd4.out.belowS hb5
  have HVB5 : Hid (Owns 2 wg5 wg4.heap.size ya K yc PY) := hpB
  refine hK.out _ _ hS5 (fun _ => ?_)
  clear hK Kk hb5
  have HLB : Hid (∀ z, ya = some z → wg4.heap.size ≤ z.block ∧ z.block < wg5.heap.size) := fun z hz => ⟨hpB.lo z hz, hpB.hi z hz⟩
  clear hpB
  try simp only [Act.put]
  refine wpAnyH_ready (rs := [15]) (by kernel_rfl) (by simp) ?_
  refine AllReadyH.cons rfl (fun Kk hK => ?_) AllReadyH.nil
  go_simp
  refine (CX2.out _ (HUq.out.grownR hS5 HUn.out)).mono ?_
  rintro e wg6 ⟨tC, tcC, rfl, hoC, hb6⟩
  go_simp
  have hS6 : wq.grownBy wg6 (some (w.heap.size + 1 + 1)) := grown_step hS5 hb6
  have HTA6 : Hid (Owns 60 wg6 wg1.heap.size tA K tcA PX) := HTA5.out.below hb6
  have HVA6 : Hid (Owns 2 wg6 wg2.heap.size xa K xc PX) := HVA5.out.below hb6
  have HTB6 : Hid (Owns 60 wg6 wg3.heap.size tB K tcB PY) := HTB5.out.below hb6
  have HVB6 : Hid (Owns 2 wg6 wg4.heap.size ya K yc PY) := HVB5.out.below hb6
  have HM6 : Hid (wg5.heap.size ≤ wg6.heap.size) := hb6.size
  have HZd6 : Hid (Lies wg6 (w.heap.size + 1 + 1) [.int .i64 0, .int .i64 0, .int .i64 0, .int .i64 0, .slice none 0 0, .slice none 0 0, .slice none 0 0, .slice none 0 0]) := HZd5.out.belowS hb6
  have HTC6 : Hid (Owns 60 wg6 wg5.heap.size tC K tcC QX) := hoC
  refine hK.out _ _ hS6 (fun _ => ?_)
  clear hK Kk hb6
  clear hoC
  try simp only [Act.put]
  refine wpAnyH_ready (rs := [16]) (by kernel_rfl) (by simp) ?_
  refine AllReadyH.cons rfl (fun Kk hK => ?_) AllReadyH.nil
  go_simp
  refine (numbersOf_any _ HTC6.out.sees (by omega)).mono ?_
  rintro e wg7 ⟨qxa, qxc, rfl, hpC, hb7⟩
  go_simp
  have hS7 : wq.grownBy wg7 (some (w.heap.size + 1 + 1)) := grown_step hS6 hb7
  have HTA7 : Hid (Owns 60 wg7 wg1.heap.size tA K tcA PX) := HTA6.out.below hb7
  have HVA7 : Hid (Owns 2 wg7 wg2.heap.size xa K xc PX) := HVA6.out.below hb7
  have HTB7 : Hid (Owns 60 wg7 wg3.heap.size tB K tcB PY) := HTB6.out.below hb7
  have HVB7 : Hid (Owns 2 wg7 wg4.heap.size ya K yc PY) := HVB6.out.below hb7
  have HTC7 : Hid (Owns 60 wg7 wg5.heap.size tC K tcC QX) := HTC6.out.below hb7
  have HM7 : Hid (wg6.heap.size ≤ wg7.heap.size) := hb7.size
  have HZd7 : Hid (Lies wg7 (w.heap.size + 1 + 1) [.int .i64 0, .int .i64 0, .int .i64 0, .int .i64 0, .slice none 0 0, .slice none 0 0, .slice none 0 0, .slice none 0 0]) := HZd6.out.belowS hb7
  have HVC7 : Hid (Owns 2 wg7 wg6.heap.size qxa K qxc QX) := hpC
  refine hK.out _ _ hS7 (fun _ => ?_)
  clear hK Kk hb7
  have HLC : Hid (∀ z, qxa = some z → wg6.heap.size ≤ z.block ∧ z.block < wg7.heap.size) := fun z hz => ⟨hpC.lo z hz, hpC.hi z hz⟩
  clear hpC
  try simp only [Act.put]
  refine wpAnyH_ready (rs := [18]) (by kernel_rfl) (by simp) ?_
  refine AllReadyH.cons rfl (fun Kk hK => ?_) AllReadyH.nil
  go_simp
  refine (CY2.out _ (HUq.out.grownR hS7 HUn.out)).mono ?_
  rintro e wg8 ⟨tD, tcD, rfl, hoD, hb8⟩
  go_simp
  have hS8 : wq.grownBy wg8 (some (w.heap.size + 1 + 1)) := grown_step hS7 hb8
  have HTA8 : Hid (Owns 60 wg8 wg1.heap.size tA K tcA PX) := HTA7.out.below hb8
  have HVA8 : Hid (Owns 2 wg8 wg2.heap.size xa K xc PX) := HVA7.out.below hb8
  have HTB8 : Hid (Owns 60 wg8 wg3.heap.size tB K tcB PY) := HTB7.out.below hb8
  have HVB8 : Hid (Owns 2 wg8 wg4.heap.size ya K yc PY) := HVB7.out.below hb8
  have HTC8 : Hid (Owns 60 wg8 wg5.heap.size tC K tcC QX) := HTC7.out.below hb8
  have HVC8 : Hid (Owns 2 wg8 wg6.heap.size qxa K qxc QX) := HVC7.out.below hb8
  have HM8 : Hid (wg7.heap.size ≤ wg8.heap.size) := hb8.size
  have HZd8 : Hid (Lies wg8 (w.heap.size + 1 + 1) [.int .i64 0, .int .i64 0, .int .i64 0, .int .i64 0, .slice none 0 0, .slice none 0 0, .slice none 0 0, .slice none 0 0]) := HZd7.out.belowS hb8
  have HTD8 : Hid (Owns 60 wg8 wg7.heap.size tD K tcD QY) := hoD
  refine hK.out _ _ hS8 (fun _ => ?_)
  clear hK Kk hb8
  clear hoD
  try simp only [Act.put]
  refine wpAnyH_ready (rs := [19]) (by kernel_rfl) (by simp) ?_
  refine AllReadyH.cons rfl (fun Kk hK => ?_) AllReadyH.nil
  go_simp
  refine (numbersOf_any _ HTD8.out.sees (by omega)).mono ?_
  rintro e wg9 ⟨qya, qyc, rfl, hpD, hb9⟩
  go_simp
  have hS9 : wq.grownBy wg9 (some (w.heap.size + 1 + 1)) := grown_step hS8 hb9
  have HTA9 : Hid (Owns 60 wg9 wg1.heap.size tA K tcA PX) := HTA8.out.below hb9
  have HVA9 : Hid (Owns 2 wg9 wg2.heap.size xa K xc PX) := HVA8.out.below hb9
  have HTB9 : Hid (Owns 60 wg9 wg3.heap.size tB K tcB PY) := HTB8.out.below hb9
  have HVB9 : Hid (Owns 2 wg9 wg4.heap.size ya K yc PY) := HVB8.out.below hb9
  have HTC9 : Hid (Owns 60 wg9 wg5.heap.size tC K tcC QX) := HTC8.out.below hb9
  have HVC9 : Hid (Owns 2 wg9 wg6.heap.size qxa K qxc QX) := HVC8.out.below hb9
  have HTD9 : Hid (Owns 60 wg9 wg7.heap.size tD K tcD QY) := HTD8.out.below hb9
  have HM9 : Hid (wg8.heap.size ≤ wg9.heap.size) := hb9.size
  have HZd9 : Hid (Lies wg9 (w.heap.size + 1 + 1) [.int .i64 0, .int .i64 0, .int .i64 0, .int .i64 0, .slice none 0 0, .slice none 0 0, .slice none 0 0, .slice none 0 0]) := HZd8.out.belowS hb9
  have HVD9 : Hid (Owns 2 wg9 wg8.heap.size qya K qyc QY) := hpD
  refine hK.out _ _ hS9 (fun _ => ?_)
  clear hK Kk hb9
  have HLD : Hid (∀ z, qya = some z → wg8.heap.size ≤ z.block ∧ z.block < wg9.heap.size) := fun z hz => ⟨hpD.lo z hz, hpD.hi z hz⟩
  clear hpD
  try simp only [Act.put]
  refine wpAnyH_take (i := 20) (v := .agg #[.int .i64 x, .int .i64 y, .int .i64 ex, .int .i64 ey, .slice xa K xc, .slice ya K yc, .slice qxa K qxc, .slice qya K qyc]) rfl (by kernel_rfl) (by kernel_rfl) (by kernel_rfl) (fun _ _ _ h => h) (Or.inl ⟨by kernel_rfl, ?_⟩) (by assumption) ?_
  · intro wq hSq; go_simp
  try simp only [Act.put]
  refine wpAnyH_ready (rs := [21]) (by kernel_rfl) (by simp) ?_
  refine AllReadyH.cons rfl (fun Kk hK => ?_) AllReadyH.nil
  rw [if_pos (by kernel_rfl)]
  with_reducible refine wp_store_mid 31 (.tmp 6) (.tmp 75) ?_ (w.heap.size + 1 + 1) 0 ([.int .i64 x, .int .i64 y, .int .i64 ex, .int .i64 ey, .slice xa K xc, .slice ya K yc, .slice qxa K qxc, .slice qya K qyc]).toArray ?_ ?_ ?_ (by kernel_rfl) (by kernel_rfl) ?_
  · exact rfl
  · exact rfl
  · exact rfl
  · exact HZd9.out.there 0 8 (by simp)
  have hSz : wq.grownBy (wg9.setCells (w.heap.size + 1 + 1) 0 [.int .i64 x, .int .i64 y, .int .i64 ex, .int .i64 ey, .slice xa K xc, .slice ya K yc, .slice qxa K qxc, .slice qya K qyc]) (some (w.heap.size + 1 + 1)) := grown_cells hS9 0 _
  have HPz : Hid (Lies (wg9.setCells (w.heap.size + 1 + 1) 0 [.int .i64 x, .int .i64 y, .int .i64 ex, .int .i64 ey, .slice xa K xc, .slice ya K yc, .slice qxa K qxc, .slice qya K qyc]) (w.heap.size + 1 + 1) [.int .i64 x, .int .i64 y, .int .i64 ex, .int .i64 ey, .slice xa K xc, .slice ya K yc, .slice qxa K qxc, .slice qya K qyc]) := HZd9.out.setCells [.int .i64 x, .int .i64 y, .int .i64 ex, .int .i64 ey, .slice xa K xc, .slice ya K yc, .slice qxa K qxc, .slice qya K qyc] 0 (by simp)
  have hcz : wg9.grownBy (wg9.setCells (w.heap.size + 1 + 1) 0 [.int .i64 x, .int .i64 y, .int .i64 ex, .int .i64 ey, .slice xa K xc, .slice ya K yc, .slice qxa K qxc, .slice qya K qyc]) (some (w.heap.size + 1 + 1)) := grown_cells (World.grownBy.refl _ _) 0 _
  refine hK.out _ _ hSz (fun _ => ?_)
  clear hK Kk
  generalize wg9.setCells (w.heap.size + 1 + 1) 0 [.int .i64 x, .int .i64 y, .int .i64 ex, .int .i64 ey, .slice xa K xc, .slice ya K yc, .slice qxa K qxc, .slice qya K qyc] = wz at hSz HPz hcz ⊢
  try simp only [Act.put]
  refine wpAnyH_take (i := 22) (v := .bool true) rfl (by kernel_rfl) (by kernel_rfl) (by kernel_rfl) (fun _ _ _ h => h) (Or.inl ⟨by kernel_rfl, ?_⟩) (by assumption) ?_
  · intro wq hSq; go_simp
  try simp only [Act.put]
  refine wpAnyH_done (by kernel_rfl) ?_ _
  refine NoPanic.normal ?_
  go_simp
  have HWA : Hid (Owns 2 wz w.heap.size xa K xc PX) := (HVA9.out.grownR hcz (fun z hz e => by have := (HLA.out z hz).1; have := HRBQ.out; have := hS1.size; have := hS2.size; have := hS3.size; have := hS4.size; have := hS5.size; have := hS6.size; have := hS7.size; have := hS8.size; have := hS9.size; injection e with e; omega)).mono (by have := HRBQ.out; have := hS1.size; have := hS2.size; have := hS3.size; have := hS4.size; have := hS5.size; have := hS6.size; have := hS7.size; have := hS8.size; have := hS9.size; omega)
  have HWB : Hid (Owns 2 wz w.heap.size ya K yc PY) := (HVB9.out.grownR hcz (fun z hz e => by have := (HLB.out z hz).1; have := HRBQ.out; have := hS1.size; have := hS2.size; have := hS3.size; have := hS4.size; have := hS5.size; have := hS6.size; have := hS7.size; have := hS8.size; have := hS9.size; injection e with e; omega)).mono (by have := HRBQ.out; have := hS1.size; have := hS2.size; have := hS3.size; have := hS4.size; have := hS5.size; have := hS6.size; have := hS7.size; have := hS8.size; have := hS9.size; omega)
  have HWC : Hid (Owns 2 wz w.heap.size qxa K qxc QX) := (HVC9.out.grownR hcz (fun z hz e => by have := (HLC.out z hz).1; have := HRBQ.out; have := hS1.size; have := hS2.size; have := hS3.size; have := hS4.size; have := hS5.size; have := hS6.size; have := hS7.size; have := hS8.size; have := hS9.size; injection e with e; omega)).mono (by have := HRBQ.out; have := hS1.size; have := hS2.size; have := hS3.size; have := hS4.size; have := hS5.size; have := hS6.size; have := hS7.size; have := hS8.size; have := hS9.size; omega)
  have HWD : Hid (Owns 2 wz w.heap.size qya K qyc QY) := (HVD9.out.grownR hcz (fun z hz e => by have := (HLD.out z hz).1; have := HRBQ.out; have := hS1.size; have := hS2.size; have := hS3.size; have := hS4.size; have := hS5.size; have := hS6.size; have := hS7.size; have := hS8.size; have := hS9.size; injection e with e; omega)).mono (by have := HRBQ.out; have := hS1.size; have := hS2.size; have := hS3.size; have := hS4.size; have := hS5.size; have := hS6.size; have := hS7.size; have := hS8.size; have := hS9.size; omega)
  have HXAB : Hid (far xa ya) := fun z1 z2 h1 h2 e => by have := (HLA.out z1 h1).2; have := (HLB.out z2 h2).1; have := HM1.out; have := HM2.out; have := HM3.out; have := HM4.out; have := HM5.out; have := HM6.out; have := HM7.out; have := HM8.out; have := HM9.out; omega
  have HXAC : Hid (far xa qxa) := fun z1 z2 h1 h2 e => by have := (HLA.out z1 h1).2; have := (HLC.out z2 h2).1; have := HM1.out; have := HM2.out; have := HM3.out; have := HM4.out; have := HM5.out; have := HM6.out; have := HM7.out; have := HM8.out; have := HM9.out; omega
  have HXAD : Hid (far xa qya) := fun z1 z2 h1 h2 e => by have := (HLA.out z1 h1).2; have := (HLD.out z2 h2).1; have := HM1.out; have := HM2.out; have := HM3.out; have := HM4.out; have := HM5.out; have := HM6.out; have := HM7.out; have := HM8.out; have := HM9.out; omega
  have HXBC : Hid (far ya qxa) := fun z1 z2 h1 h2 e => by have := (HLB.out z1 h1).2; have := (HLC.out z2 h2).1; have := HM1.out; have := HM2.out; have := HM3.out; have := HM4.out; have := HM5.out; have := HM6.out; have := HM7.out; have := HM8.out; have := HM9.out; omega
  have HXBD : Hid (far ya qya) := fun z1 z2 h1 h2 e => by have := (HLB.out z1 h1).2; have := (HLD.out z2 h2).1; have := HM1.out; have := HM2.out; have := HM3.out; have := HM4.out; have := HM5.out; have := HM6.out; have := HM7.out; have := HM8.out; have := HM9.out; omega
  have HXCD : Hid (far qxa qya) := fun z1 z2 h1 h2 e => by have := (HLC.out z1 h1).2; have := (HLD.out z2 h2).1; have := HM1.out; have := HM2.out; have := HM3.out; have := HM4.out; have := HM5.out; have := HM6.out; have := HM7.out; have := HM8.out; have := HM9.out; omega
  have HBz : Hid (Below w.heap.size w wz) := HBq.out.grown hSz HBq.out.size (fun q hq => by injection hq with hq; omega)
  go_wp2
  exact bodyPost_ret (results_cell_tmp rfl rfl (run_loadVar_mid wz (w.heap.size + 1 + 1) 0 31 _ _ HPz.out.row Try.underlying31 rfl (by kernel_rfl))) rfl ⟨xa, xc, ya, yc, qxa, qxc, qya, qyc, rfl, ⟨HWA.out, HWB.out, HWC.out, HWD.out⟩, ⟨HXAB.out, HXAC.out, HXAD.out, HXBC.out, HXBD.out, HXCD.out⟩, HBz.out⟩
end Go.Proofs.Ytbcfjbkmkknmfaa
