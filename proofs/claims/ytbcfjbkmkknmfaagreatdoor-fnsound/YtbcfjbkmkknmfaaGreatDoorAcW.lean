/- What spec.Accepted answers. What spec.Accepted answers where machine and proof have their form. spec.Accepted at all arguments. FnExactAccepted: the walk. -/
import Derived.Test.YtbcfjbkmkknmfaaGreatDoorErG
import Derived.Test.YtbcfjbkmkknmfaaGreatDoorPrJ
import Derived.Test.YtbcfjbkmkknmfaaGreatDoorAcC
import Derived.Test.YtbcfjbkmkknmfaaGreatDoorPfA
import Derived.Test.YtbcfjbkmkknmfaaGreatDoorMaA
import Derived.Test.YtbcfjbkmkknmfaaGreatDoorMaS
import Derived.Test.YtbcfjbkmkknmfaaGreatDoorMaJ
namespace Go.Proofs.YtbcfjbkmkknmfaaGreatDoor
open Go.RowKit

theorem M.qOk_succ (r : M.Rl) (X Y F Q : List Int) (n k : Nat) : M.qOk r X Y F Q n (k + 1) = (M.qOk r X Y F Q n k && (Q.getD k 0 * M.zer n k % 65537 == M.mis r X Y F n k)) := by
  unfold M.qOk; rw [List.range_succ, List.all_append]; simp
theorem M.qOk_no {r : M.Rl} {X Y F Q : List Int} {n k t : Nat} (hk : k < t) (h : (Q.getD k 0 * M.zer n k % 65537 == M.mis r X Y F n k) = false) : M.qOk r X Y F Q n t = false := by
  cases e : M.qOk r X Y F Q n t with
  | false => rfl
  | true =>
    unfold M.qOk at e
    have := List.all_eq_true.1 e k (List.mem_range.2 hk)
    rw [h] at this; cases this
set_option maxHeartbeats 4000000 in
set_option maxRecDepth 10000 in
theorem specAccepted_out {a1 a2 a3 a4 : Option Addr} {n1 n2 n3 n4 c1 c2 c3 c4 : Nat} {z1 z2 z3 z4 : List Int} (m : M.Mc) (s1 s2 e1 e2 : Int) (w : World) (h1 : Sees w a1 n1 c1 z1) (h2 : Sees w a2 n2 c2 z2) (h3 : Sees w a3 n3 c3 z3) (h4 : Sees w a4 n4 c4 z4) (l1 : n1 ≤ 1048576) (l2 : n2 ≤ 1048576) (l3 : n3 ≤ 1048576) (l4 : n4 ≤ 1048576) (hno : m.ok = false ∨ (m.ok = true ∧ (⟨(s1, s2), (e1, e2), z1, z2, z3, z4⟩ : M.Pf).rows = 0)) :
    Calls Tryz.prog 16 #[mcv m, .agg #[.int .i64 s1, .int .i64 s2, .int .i64 e1, .int .i64 e2, .slice a1 n1 c1, .slice a2 n2 c2, .slice a3 n3 c3, .slice a4 n4 c4]] w fun e w' => e = .returned (.bool false) ∧ Below w.heap.size w w' := by
  have CR : ∀ W, Sees W a1 n1 c1 z1 → Sees W a2 n2 c2 z2 → Sees W a3 n3 c3 z3 → Sees W a4 n4 c4 z4 → Calls Tryz.prog 17 #[.agg #[.int .i64 s1, .int .i64 s2, .int .i64 e1, .int .i64 e2, .slice a1 n1 c1, .slice a2 n2 c2, .slice a3 n3 c3, .slice a4 n4 c4]] W fun e w' => e = .returned (.int .i64 ((⟨(s1, s2), (e1, e2), z1, z2, z3, z4⟩ : M.Pf).rows : Nat)) ∧ Below W.heap.size W w' := fun W g1 g2 g3 g4 => specRowsOf_any s1 s2 e1 e2 W g1 g2 g3 g4 l1 l2 l3 l4
  have CM := specMachineOk_any m
  have hR16 : (⟨(s1, s2), (e1, e2), z1, z2, z3, z4⟩ : M.Pf).rows ≤ 16 := by
    by_cases h : (⟨(s1, s2), (e1, e2), z1, z2, z3, z4⟩ : M.Pf).rows = 0
    · omega
    · exact (M.rowsN_pos (M.rows_some h).1).2
  generalize (⟨(s1, s2), (e1, e2), z1, z2, z3, z4⟩ : M.Pf).rows = R at CR hno hR16
  generalize m.ok = om at CM hno
  obtain ⟨⟨a, b, c, d, f, k⟩, ⟨a', b', c', d', f', k'⟩⟩ := m
  dsimp only [mcv] at CM ⊢
  have HB00 : Below w.heap.size w ((w.alloc (.cells #[.int .i64 a, .int .i64 b, .int .i64 c, .int .i64 d, .int .i64 f, .int .i64 k, .int .i64 a', .int .i64 b', .int .i64 c', .int .i64 d', .int .i64 f', .int .i64 k'] 27)).alloc (.cells #[.int .i64 s1, .int .i64 s2, .int .i64 e1, .int .i64 e2, .slice a1 n1 c1, .slice a2 n2 c2, .slice a3 n3 c3, .slice a4 n4 c4] 34)) := ((Below.refl _ _).alloc (Nat.le_refl _) _).alloc (by simp) _
  have HM_0 : Hid (Lies ((w.alloc (.cells #[.int .i64 a, .int .i64 b, .int .i64 c, .int .i64 d, .int .i64 f, .int .i64 k, .int .i64 a', .int .i64 b', .int .i64 c', .int .i64 d', .int .i64 f', .int .i64 k'] 27)).alloc (.cells #[.int .i64 s1, .int .i64 s2, .int .i64 e1, .int .i64 e2, .slice a1 n1 c1, .slice a2 n2 c2, .slice a3 n3 c3, .slice a4 n4 c4] 34)) w.heap.size [.int .i64 a, .int .i64 b, .int .i64 c, .int .i64 d, .int .i64 f, .int .i64 k, .int .i64 a', .int .i64 b', .int .i64 c', .int .i64 d', .int .i64 f', .int .i64 k']) := (lies_new _ _ _).alloc _
  have HP_0 : Hid (Lies ((w.alloc (.cells #[.int .i64 a, .int .i64 b, .int .i64 c, .int .i64 d, .int .i64 f, .int .i64 k, .int .i64 a', .int .i64 b', .int .i64 c', .int .i64 d', .int .i64 f', .int .i64 k'] 27)).alloc (.cells #[.int .i64 s1, .int .i64 s2, .int .i64 e1, .int .i64 e2, .slice a1 n1 c1, .slice a2 n2 c2, .slice a3 n3 c3, .slice a4 n4 c4] 34)) (w.heap.size + 1) [.int .i64 s1, .int .i64 s2, .int .i64 e1, .int .i64 e2, .slice a1 n1 c1, .slice a2 n2 c2, .slice a3 n3 c3, .slice a4 n4 c4]) := lies_new2 _ _ _ _
  have HB_0 : Hid (Below w.heap.size w ((w.alloc (.cells #[.int .i64 a, .int .i64 b, .int .i64 c, .int .i64 d, .int .i64 f, .int .i64 k, .int .i64 a', .int .i64 b', .int .i64 c', .int .i64 d', .int .i64 f', .int .i64 k'] 27)).alloc (.cells #[.int .i64 s1, .int .i64 s2, .int .i64 e1, .int .i64 e2, .slice a1 n1 c1, .slice a2 n2 c2, .slice a3 n3 c3, .slice a4 n4 c4] 34))) := HB00
  have S1_0 : Hid (Sees ((w.alloc (.cells #[.int .i64 a, .int .i64 b, .int .i64 c, .int .i64 d, .int .i64 f, .int .i64 k, .int .i64 a', .int .i64 b', .int .i64 c', .int .i64 d', .int .i64 f', .int .i64 k'] 27)).alloc (.cells #[.int .i64 s1, .int .i64 s2, .int .i64 e1, .int .i64 e2, .slice a1 n1 c1, .slice a2 n2 c2, .slice a3 n3 c3, .slice a4 n4 c4] 34)) a1 n1 c1 z1) := h1.below HB00
  have S2_0 : Hid (Sees ((w.alloc (.cells #[.int .i64 a, .int .i64 b, .int .i64 c, .int .i64 d, .int .i64 f, .int .i64 k, .int .i64 a', .int .i64 b', .int .i64 c', .int .i64 d', .int .i64 f', .int .i64 k'] 27)).alloc (.cells #[.int .i64 s1, .int .i64 s2, .int .i64 e1, .int .i64 e2, .slice a1 n1 c1, .slice a2 n2 c2, .slice a3 n3 c3, .slice a4 n4 c4] 34)) a2 n2 c2 z2) := h2.below HB00
  have S3_0 : Hid (Sees ((w.alloc (.cells #[.int .i64 a, .int .i64 b, .int .i64 c, .int .i64 d, .int .i64 f, .int .i64 k, .int .i64 a', .int .i64 b', .int .i64 c', .int .i64 d', .int .i64 f', .int .i64 k'] 27)).alloc (.cells #[.int .i64 s1, .int .i64 s2, .int .i64 e1, .int .i64 e2, .slice a1 n1 c1, .slice a2 n2 c2, .slice a3 n3 c3, .slice a4 n4 c4] 34)) a3 n3 c3 z3) := h3.below HB00
  have S4_0 : Hid (Sees ((w.alloc (.cells #[.int .i64 a, .int .i64 b, .int .i64 c, .int .i64 d, .int .i64 f, .int .i64 k, .int .i64 a', .int .i64 b', .int .i64 c', .int .i64 d', .int .i64 f', .int .i64 k'] 27)).alloc (.cells #[.int .i64 s1, .int .i64 s2, .int .i64 e1, .int .i64 e2, .slice a1 n1 c1, .slice a2 n2 c2, .slice a3 n3 c3, .slice a4 n4 c4] 34)) a4 n4 c4 z4) := h4.below HB00
  clear HB00 h1 h2 h3 h4
  go_enter Tryz.func16, Tryz.ntmps16
  go_wp2_with fail
  refine (CR _ S1_0.out S2_0.out S3_0.out S4_0.out).mono ?_
  rintro e w1 ⟨rfl, hb⟩
  have HM_1 : Hid (Lies w1 w.heap.size [.int .i64 a, .int .i64 b, .int .i64 c, .int .i64 d, .int .i64 f, .int .i64 k, .int .i64 a', .int .i64 b', .int .i64 c', .int .i64 d', .int .i64 f', .int .i64 k']) := HM_0.out.belowS hb
  have HP_1 : Hid (Lies w1 (w.heap.size + 1) [.int .i64 s1, .int .i64 s2, .int .i64 e1, .int .i64 e2, .slice a1 n1 c1, .slice a2 n2 c2, .slice a3 n3 c3, .slice a4 n4 c4]) := HP_0.out.belowS hb
  have HB_1 : Hid (Below w.heap.size w w1) := HB_0.out.trans (hb.mono HB_0.out.size)
  have S1_1 : Hid (Sees w1 a1 n1 c1 z1) := S1_0.out.below hb
  have S2_1 : Hid (Sees w1 a2 n2 c2 z2) := S2_0.out.below hb
  have S3_1 : Hid (Sees w1 a3 n3 c3 z3) := S3_0.out.below hb
  have S4_1 : Hid (Sees w1 a4 n4 c4 z4) := S4_0.out.below hb
  clear HM_0 HP_0 HB_0 S1_0 S2_0 S3_0 S4_0
  clear hb
  have m0 : w1.cell? ⟨w.heap.size, 0, none⟩ = some (.int .i64 a) := HM_1.out.at 0
  have m1 : w1.cell? ⟨w.heap.size, 1, none⟩ = some (.int .i64 b) := HM_1.out.at 1
  have m2 : w1.cell? ⟨w.heap.size, 2, none⟩ = some (.int .i64 c) := HM_1.out.at 2
  have m3 : w1.cell? ⟨w.heap.size, 3, none⟩ = some (.int .i64 d) := HM_1.out.at 3
  have m4 : w1.cell? ⟨w.heap.size, 4, none⟩ = some (.int .i64 f) := HM_1.out.at 4
  have m5 : w1.cell? ⟨w.heap.size, 5, none⟩ = some (.int .i64 k) := HM_1.out.at 5
  have m6 : w1.cell? ⟨w.heap.size, 6, none⟩ = some (.int .i64 a') := HM_1.out.at 6
  have m7 : w1.cell? ⟨w.heap.size, 7, none⟩ = some (.int .i64 b') := HM_1.out.at 7
  have m8 : w1.cell? ⟨w.heap.size, 8, none⟩ = some (.int .i64 c') := HM_1.out.at 8
  have m9 : w1.cell? ⟨w.heap.size, 9, none⟩ = some (.int .i64 d') := HM_1.out.at 9
  have m10 : w1.cell? ⟨w.heap.size, 10, none⟩ = some (.int .i64 f') := HM_1.out.at 10
  have m11 : w1.cell? ⟨w.heap.size, 11, none⟩ = some (.int .i64 k') := HM_1.out.at 11
  go_wp2_with fail
  refine (CM _).mono ?_
  rintro e w2 ⟨rfl, hb⟩
  have HM_2 : Hid (Lies w2 w.heap.size [.int .i64 a, .int .i64 b, .int .i64 c, .int .i64 d, .int .i64 f, .int .i64 k, .int .i64 a', .int .i64 b', .int .i64 c', .int .i64 d', .int .i64 f', .int .i64 k']) := HM_1.out.belowS hb
  have HP_2 : Hid (Lies w2 (w.heap.size + 1) [.int .i64 s1, .int .i64 s2, .int .i64 e1, .int .i64 e2, .slice a1 n1 c1, .slice a2 n2 c2, .slice a3 n3 c3, .slice a4 n4 c4]) := HP_1.out.belowS hb
  have HB_2 : Hid (Below w.heap.size w w2) := HB_1.out.trans (hb.mono HB_1.out.size)
  have S1_2 : Hid (Sees w2 a1 n1 c1 z1) := S1_1.out.below hb
  have S2_2 : Hid (Sees w2 a2 n2 c2 z2) := S2_1.out.below hb
  have S3_2 : Hid (Sees w2 a3 n3 c3 z3) := S3_1.out.below hb
  have S4_2 : Hid (Sees w2 a4 n4 c4 z4) := S4_1.out.below hb
  clear HM_1 HP_1 HB_1 S1_1 S2_1 S3_1 S4_1
  clear hb
  clear m0 m1 m2 m3 m4 m5 m6 m7 m8 m9 m10 m11
  rcases hno with rfl | ⟨rfl, rfl⟩
  · go_wp2
    go_ret
    exact ⟨rfl, HB_2.out⟩
  · go_wp2
    go_ret
    exact ⟨rfl, HB_2.out⟩
end Go.Proofs.YtbcfjbkmkknmfaaGreatDoor
namespace Go.Proofs.YtbcfjbkmkknmfaaGreatDoor
open Go.RowKit

set_option maxHeartbeats 40000000 in
set_option maxRecDepth 10000 in
theorem specAccepted_in {a1 a2 a3 a4 : Option Addr} {c1 c2 c3 c4 : Nat} {z1 z2 z3 z4 : List Int} (m : M.Mc) (s1 s2 e1 e2 : Int) (N : Nat) (w : World) (h : M.rowsN N = true) (hm : m.ok = true) (hr : (⟨(s1, s2), (e1, e2), z1, z2, z3, z4⟩ : M.Pf).rows = N) (h1 : Sees w a1 (4 * N) c1 z1) (h2 : Sees w a2 (4 * N) c2 z2) (h3 : Sees w a3 (4 * N) c3 z3) (h4 : Sees w a4 (4 * N) c4 z4) (ha1 : M.allEl z1 = true) (ha2 : M.allEl z2 = true) (ha3 : M.allEl z3 = true) (ha4 : M.allEl z4 = true) :
    Calls Tryz.prog 16 #[mcv m, .agg #[.int .i64 s1, .int .i64 s2, .int .i64 e1, .int .i64 e2, .slice a1 (4 * N) c1, .slice a2 (4 * N) c2, .slice a3 (4 * N) c3, .slice a4 (4 * N) c4]] w fun e w' => e = .returned (.bool (M.accN m (⟨(s1, s2), (e1, e2), z1, z2, z3, z4⟩ : M.Pf) N)) ∧ Below w.heap.size w w' := by
  have hb16 := M.rowsN_pos h
  obtain ⟨K, hK⟩ : ∃ K : Nat, K = 4 * N := ⟨_, rfl⟩
  have hKi : 4 * (N : Int) = (K : Int) := by omega
  have hKb : K ≤ 64 := by omega
  have hK0 : 0 < K := by omega
  have hg := (M.el_iff _).1 (M.root_el (M.two64_two (M.rowsN_two h)))
  have hl := (M.el_iff _).1 (M.el_lst N)
  obtain ⟨hmX, hmY⟩ : m.X.ok = true ∧ m.Y.ok = true := by have := hm; unfold M.Mc.ok at this; exact (Bool.and_eq_true _ _).mp this
  have CR : ∀ W, Sees W a1 (4 * N) c1 z1 → Sees W a2 (4 * N) c2 z2 → Sees W a3 (4 * N) c3 z3 → Sees W a4 (4 * N) c4 z4 → Calls Tryz.prog 17 #[.agg #[.int .i64 s1, .int .i64 s2, .int .i64 e1, .int .i64 e2, .slice a1 (4 * N) c1, .slice a2 (4 * N) c2, .slice a3 (4 * N) c3, .slice a4 (4 * N) c4]] W fun e w' => e = .returned (.int .i64 (N : Nat)) ∧ Below W.heap.size W w' := fun W g1 g2 g3 g4 => by
    have := specRowsOf_any s1 s2 e1 e2 W g1 g2 g3 g4 (by omega) (by omega) (by omega) (by omega); rw [hr] at this; exact this
  have CM : ∀ W, Calls Tryz.prog 42 #[mcv m] W fun e w' => e = .returned (.bool true) ∧ Below W.heap.size W w' := fun W => by rw [← hm]; exact specMachineOk_any m W
  have CF : ∀ {a : Option Addr} {c : Nat} {z : List Int} (W : World), M.allEl z = true → Sees W a (4 * N) c z → Calls Tryz.prog 46 #[.slice a (4 * N) c, .int .i64 3] W fun e w' => ∃ a' l c', e = .returned (.slice a' l c') ∧ Owns 2 w' W.heap.size a' l c' (M.frs z 3) ∧ Below W.heap.size W w' := fun W hz hW => l3From_any 3 W hW hz (M.rowsN_pt h)
  have CRo := specRoot_any (N : Int)
  have CPw : ∀ W, Calls Tryz.prog 57 #[.int .i64 (M.root N), .int .i64 ((N : Int) - 1)] W fun e w' => e = .returned (.int .i64 (M.lst N)) ∧ w' = W := fun W => by
    have := specPow_in (M.root N) (N - 1) W hg.1 hg.2 (by omega)
    rw [show ((N - 1 : Nat) : Int) = (N : Int) - 1 by omega] at this
    exact this
  have CPt : ∀ W, Calls Tryz.prog 60 #[.int .i64 ((4 * N : Nat) : Int), .int .i64 3] W fun e w' => ∃ a' c', e = .returned (.slice a' (4 * N) c') ∧ Owns 2 w' W.heap.size a' (4 * N) c' (M.gp 3 (M.root ((4 * N : Nat) : Int)) (4 * N)) ∧ Below W.heap.size W w' := fun W => l3Points_any (4 * N) 3 W (M.rowsN_pt h)
  have HGP : Hid (∀ i, i < 4 * N → (M.gp 3 (M.root ((4 * N : Nat) : Int)) (4 * N)).getD i 0 = M.zp N i) := fun i hi => by
    have := M.zp_gp (N := N) hi; rw [show ((4 * N : Nat) : Int) = 4 * (N : Int) by omega]; exact this
  have CPo : Hid (∀ (i : Nat) (W : World), Calls Tryz.prog 57 #[.int .i64 (M.zp N i), .int .i64 (N : Int)] W fun e w' => e = .returned (.int .i64 (M.pw (M.zp N i) N)) ∧ w' = W) := fun i W => specPow_in _ N W (M.zp_bd N i).1 (M.zp_bd N i).2 (by omega)
  have CS1 : Hid (∀ (i : Nat) (W : World), Calls Tryz.prog 61 #[.int .i64 (M.pw (M.zp N i) N), .int .i64 1] W fun e w' => e = .returned (.int .i64 (M.zer N i)) ∧ w' = W) := fun i W => by
    have := specSub_any (M.pw (M.zp N i) N) 1 W; rw [M.sub_in (M.el_pw _ _) (by decide)] at this; exact this
  have CS2 : Hid (∀ (i : Nat) (W : World), Calls Tryz.prog 61 #[.int .i64 (M.zp N i), .int .i64 (M.lst N)] W fun e w' => e = .returned (.int .i64 ((M.zp N i + 65537 - M.lst N) % 65537)) ∧ w' = W) := fun i W => by
    have := specSub_any (M.zp N i) (M.lst N) W; rw [M.sub_in (M.el_zp _ _) (M.el_lst _)] at this; exact this
  have CQX : Hid (∀ (i : Nat) (W : World), Calls Tryz.prog 62 #[.int .i64 (z3.getD i 0), .int .i64 (M.zer N i)] W fun e w' => e = .returned (.int .i64 ((z3.getD i 0) * M.zer N i % 65537)) ∧ w' = W) := fun i W => by
    have := specMul_any (z3.getD i 0) (M.zer N i) W; rw [M.mul_in ((M.el_iff _).2 (M.el_at ha3 i)) ((M.el_iff _).2 (M.zer_bd N i))] at this; exact this
  have CAX : Hid (∀ (i : Nat) (W : World), Calls Tryz.prog 63 #[rlv m.X, .int .i64 (z1.getD i 0), .int .i64 (z2.getD i 0)] W fun e w' => e = .returned (.int .i64 (m.X.app (z1.getD i 0) (z2.getD i 0))) ∧ Below W.heap.size W w') := fun i W => apply_in m.X ((z1.getD i 0), (z2.getD i 0)) hmX ((M.sOk_iff _).2 ⟨M.el_at ha1 i, M.el_at ha2 i⟩) (Below.refl _ _) (Nat.le_refl _)
  have CBX : Hid (∀ (i : Nat) (W : World), Calls Tryz.prog 61 #[.int .i64 (z1.getD ((i + 4) % (4 * N)) 0), .int .i64 (m.X.app (z1.getD i 0) (z2.getD i 0))] W fun e w' => e = .returned (.int .i64 (((z1.getD ((i + 4) % (4 * N)) 0) + 65537 - m.X.app (z1.getD i 0) (z2.getD i 0)) % 65537)) ∧ w' = W) := fun i W => by
    have := specSub_any (z1.getD ((i + 4) % (4 * N)) 0) (m.X.app (z1.getD i 0) (z2.getD i 0)) W; rw [M.sub_in ((M.el_iff _).2 (M.el_at ha1 _)) (M.el_app _ _ _)] at this; exact this
  have CCX : Hid (∀ (i : Nat) (W : World), Calls Tryz.prog 62 #[.int .i64 (((z1.getD ((i + 4) % (4 * N)) 0) + 65537 - m.X.app (z1.getD i 0) (z2.getD i 0)) % 65537), .int .i64 ((M.zp N i + 65537 - M.lst N) % 65537)] W fun e w' => e = .returned (.int .i64 (M.mis m.X z1 z2 z1 N i)) ∧ w' = W) := fun i W => by
    have := specMul_any (((z1.getD ((i + 4) % (4 * N)) 0) + 65537 - m.X.app (z1.getD i 0) (z2.getD i 0)) % 65537) ((M.zp N i + 65537 - M.lst N) % 65537) W; rw [M.mul_in ((M.el_iff _).2 ⟨by omega, by omega⟩) ((M.el_iff _).2 ⟨by omega, by omega⟩)] at this; exact this
  have CQY : Hid (∀ (i : Nat) (W : World), Calls Tryz.prog 62 #[.int .i64 (z4.getD i 0), .int .i64 (M.zer N i)] W fun e w' => e = .returned (.int .i64 ((z4.getD i 0) * M.zer N i % 65537)) ∧ w' = W) := fun i W => by
    have := specMul_any (z4.getD i 0) (M.zer N i) W; rw [M.mul_in ((M.el_iff _).2 (M.el_at ha4 i)) ((M.el_iff _).2 (M.zer_bd N i))] at this; exact this
  have CAY : Hid (∀ (i : Nat) (W : World), Calls Tryz.prog 63 #[rlv m.Y, .int .i64 (z1.getD i 0), .int .i64 (z2.getD i 0)] W fun e w' => e = .returned (.int .i64 (m.Y.app (z1.getD i 0) (z2.getD i 0))) ∧ Below W.heap.size W w') := fun i W => apply_in m.Y ((z1.getD i 0), (z2.getD i 0)) hmY ((M.sOk_iff _).2 ⟨M.el_at ha1 i, M.el_at ha2 i⟩) (Below.refl _ _) (Nat.le_refl _)
  have CBY : Hid (∀ (i : Nat) (W : World), Calls Tryz.prog 61 #[.int .i64 (z2.getD ((i + 4) % (4 * N)) 0), .int .i64 (m.Y.app (z1.getD i 0) (z2.getD i 0))] W fun e w' => e = .returned (.int .i64 (((z2.getD ((i + 4) % (4 * N)) 0) + 65537 - m.Y.app (z1.getD i 0) (z2.getD i 0)) % 65537)) ∧ w' = W) := fun i W => by
    have := specSub_any (z2.getD ((i + 4) % (4 * N)) 0) (m.Y.app (z1.getD i 0) (z2.getD i 0)) W; rw [M.sub_in ((M.el_iff _).2 (M.el_at ha2 _)) (M.el_app _ _ _)] at this; exact this
  have CCY : Hid (∀ (i : Nat) (W : World), Calls Tryz.prog 62 #[.int .i64 (((z2.getD ((i + 4) % (4 * N)) 0) + 65537 - m.Y.app (z1.getD i 0) (z2.getD i 0)) % 65537), .int .i64 ((M.zp N i + 65537 - M.lst N) % 65537)] W fun e w' => e = .returned (.int .i64 (M.mis m.Y z1 z2 z2 N i)) ∧ w' = W) := fun i W => by
    have := specMul_any (((z2.getD ((i + 4) % (4 * N)) 0) + 65537 - m.Y.app (z1.getD i 0) (z2.getD i 0)) % 65537) ((M.zp N i + 65537 - M.lst N) % 65537) W; rw [M.mul_in ((M.el_iff _).2 ⟨by omega, by omega⟩) ((M.el_iff _).2 ⟨by omega, by omega⟩)] at this; exact this
  have CAt1 : ∀ {a : Option Addr} {n c : Nat} {z : List Int} (W : World), M.allEl z = true → Sees W a n c z → Calls Tryz.prog 59 #[.slice a n c, .int .i64 1] W fun e w' => e = .returned (.int .i64 (M.ev z 1)) ∧ w' = W := fun W hz hW => l2At_any 1 W hW hz (by omega) (by omega)
  have CAt2 : ∀ {a : Option Addr} {n c : Nat} {z : List Int} (W : World), M.allEl z = true → Sees W a n c z → Calls Tryz.prog 59 #[.slice a n c, .int .i64 (M.lst N)] W fun e w' => e = .returned (.int .i64 (M.ev z (M.lst N))) ∧ w' = W := fun W hz hW => l2At_any _ W hW hz hl.1 hl.2
  have hacc : M.accN m (⟨(s1, s2), (e1, e2), z1, z2, z3, z4⟩ : M.Pf) N = ((decide ((M.frs z1 3).length ≤ N) && (decide ((M.frs z2 3).length ≤ N) && (decide ((M.frs z3 3).length ≤ N) && decide ((M.frs z4 3).length ≤ N)))) && (((decide (M.ev (M.frs z1 3) 1 = s1) && decide (M.ev (M.frs z2 3) 1 = s2)) && (decide (M.ev (M.frs z1 3) (M.lst N) = e1) && decide (M.ev (M.frs z2 3) (M.lst N) = e2))) && (M.qOk m.X z1 z2 z1 z3 N (4 * N) && M.qOk m.Y z1 z2 z2 z4 N (4 * N)))) := rfl
  rw [hacc]
  clear hacc
  have CF1 := fun W => @CF a1 c1 z1 W ha1
  have CF2 := fun W => @CF a2 c2 z2 W ha2
  have CF3 := fun W => @CF a3 c3 z3 W ha3
  have CF4 := fun W => @CF a4 c4 z4 W ha4
  have HQX0 : Hid (M.qOk m.X z1 z2 z1 z3 N 0 = true) := rfl
  have HQY0 : Hid (M.qOk m.Y z1 z2 z2 z4 N 0 = true) := rfl
  have HXS : Hid (∀ k, M.qOk m.X z1 z2 z1 z3 N k = true → (z3.getD k 0 * M.zer N k % 65537 == M.mis m.X z1 z2 z1 N k) = true → M.qOk m.X z1 z2 z1 z3 N (k + 1) = true) := fun k p q => by rw [M.qOk_succ, p, q]; rfl
  have HYS : Hid (∀ k, M.qOk m.Y z1 z2 z2 z4 N k = true → (z4.getD k 0 * M.zer N k % 65537 == M.mis m.Y z1 z2 z2 N k) = true → M.qOk m.Y z1 z2 z2 z4 N (k + 1) = true) := fun k p q => by rw [M.qOk_succ, p, q]; rfl
  have HXN : Hid (∀ k, k < 4 * N → (z3.getD k 0 * M.zer N k % 65537 == M.mis m.X z1 z2 z1 N k) = false → M.qOk m.X z1 z2 z1 z3 N (4 * N) = false) := fun k p q => M.qOk_no p q
  have HYN : Hid (∀ k, k < 4 * N → (z4.getD k 0 * M.zer N k % 65537 == M.mis m.Y z1 z2 z2 N k) = false → M.qOk m.Y z1 z2 z2 z4 N (4 * N) = false) := fun k p q => M.qOk_no p q
  simp only [← hK] at CR CF1 CF2 CF3 CF4 CPt HGP CBX CBY CCX CCY HXN HYN h1 h2 h3 h4 ⊢
  have CA11 := fun {a n c} W => @CAt1 a n c (M.frs z1 3) W (M.frs_all _ _)
  have CA12 := fun {a n c} W => @CAt1 a n c (M.frs z2 3) W (M.frs_all _ _)
  have CA21 := fun {a n c} W => @CAt2 a n c (M.frs z1 3) W (M.frs_all _ _)
  have CA22 := fun {a n c} W => @CAt2 a n c (M.frs z2 3) W (M.frs_all _ _)
  generalize M.ev (M.frs z1 3) 1 = x1 at CA11 ⊢
  generalize M.ev (M.frs z2 3) 1 = y1 at CA12 ⊢
  generalize M.ev (M.frs z1 3) (M.lst N) = x2 at CA21 ⊢
  generalize M.ev (M.frs z2 3) (M.lst N) = y2 at CA22 ⊢
  generalize M.frs z1 3 = F1 at CF1 CA11 CA21 ⊢
  generalize M.frs z2 3 = F2 at CF2 CA12 CA22 ⊢
  generalize M.frs z3 3 = F3 at CF3 ⊢
  generalize M.frs z4 3 = F4 at CF4 ⊢
  generalize M.gp 3 (M.root (K : Int)) K = GP at CPt HGP
  generalize M.root (N : Int) = R1 at CRo CPw
  generalize hQX : M.qOk m.X z1 z2 z1 z3 N = QX at HQX0 HXS HXN ⊢
  generalize hQY : M.qOk m.Y z1 z2 z2 z4 N = QY at HQY0 HYS HYN ⊢
  generalize hMX : M.mis m.X z1 z2 z1 N = MX at HXS HXN CCX
  generalize hMY : M.mis m.Y z1 z2 z2 N = MY at HYS HYN CCY
  generalize hZE : M.zer N = ZE at HXS HXN HYS HYN CS1 CQX CQY
  generalize hZP : M.zp N = ZP at HGP CPo CS1 CS2 CCX CCY
  generalize M.lst N = la at CPw CS2 CA21 CA22 CCX CCY
  generalize hAX : (fun i => m.X.app (z1.getD i 0) (z2.getD i 0)) = AX
  generalize hAY : (fun i => m.Y.app (z1.getD i 0) (z2.getD i 0)) = AY
  have hAX' : ∀ i, m.X.app (z1.getD i 0) (z2.getD i 0) = AX i := fun i => congrFun hAX i
  have hAY' : ∀ i, m.Y.app (z1.getD i 0) (z2.getD i 0) = AY i := fun i => congrFun hAY i
  simp only [hAX'] at CAX CBX CCX
  simp only [hAY'] at CAY CBY CCY
  obtain ⟨oA, hoA⟩ : ∃ o, o = ((decide (F1.length ≤ N) && (decide (F2.length ≤ N) && (decide (F3.length ≤ N) && decide (F4.length ≤ N)))) && (((decide (x1 = s1) && decide (y1 = s2)) && (decide (x2 = e1) && decide (y2 = e2))) && (QX K && QY K))) := ⟨_, rfl⟩
  rw [← hoA]
  have HOA : Hid (oA = ((decide (F1.length ≤ N) && (decide (F2.length ≤ N) && (decide (F3.length ≤ N) && decide (F4.length ≤ N)))) && (((decide (x1 = s1) && decide (y1 = s2)) && (decide (x2 = e1) && decide (y2 = e2))) && (QX K && QY K)))) := hoA
  clear hoA
  have hn0 : ((N : Int) == 0) = false := by simp; omega
  have hN16 : (N : Int) ≤ 16 := by omega
  have hN2 : (2 : Int) ≤ (N : Int) := by omega
  clear hQX hQY hMX hMY hZE hZP hAX hAY hAX' hAY' CAt1 CAt2 CF hg hl hmX hmY hm hr h ha1 ha2 ha3 ha4 hb16
  have HKe : Hid (K = 4 * N) := hK
  clear hK
  obtain ⟨⟨a, b, c, d, f, k⟩, ⟨a', b', c', d', f', k'⟩⟩ := m
  dsimp only [mcv, rlv] at CM CAX CAY ⊢
  have HB00 : Below w.heap.size w ((w.alloc (.cells #[.int .i64 a, .int .i64 b, .int .i64 c, .int .i64 d, .int .i64 f, .int .i64 k, .int .i64 a', .int .i64 b', .int .i64 c', .int .i64 d', .int .i64 f', .int .i64 k'] 27)).alloc (.cells #[.int .i64 s1, .int .i64 s2, .int .i64 e1, .int .i64 e2, .slice a1 K c1, .slice a2 K c2, .slice a3 K c3, .slice a4 K c4] 34)) := ((Below.refl _ _).alloc (Nat.le_refl _) _).alloc (by simp) _
  have HM_0 : Hid (Lies ((w.alloc (.cells #[.int .i64 a, .int .i64 b, .int .i64 c, .int .i64 d, .int .i64 f, .int .i64 k, .int .i64 a', .int .i64 b', .int .i64 c', .int .i64 d', .int .i64 f', .int .i64 k'] 27)).alloc (.cells #[.int .i64 s1, .int .i64 s2, .int .i64 e1, .int .i64 e2, .slice a1 K c1, .slice a2 K c2, .slice a3 K c3, .slice a4 K c4] 34)) w.heap.size [.int .i64 a, .int .i64 b, .int .i64 c, .int .i64 d, .int .i64 f, .int .i64 k, .int .i64 a', .int .i64 b', .int .i64 c', .int .i64 d', .int .i64 f', .int .i64 k']) := (lies_new _ _ _).alloc _
  have HP_0 : Hid (Lies ((w.alloc (.cells #[.int .i64 a, .int .i64 b, .int .i64 c, .int .i64 d, .int .i64 f, .int .i64 k, .int .i64 a', .int .i64 b', .int .i64 c', .int .i64 d', .int .i64 f', .int .i64 k'] 27)).alloc (.cells #[.int .i64 s1, .int .i64 s2, .int .i64 e1, .int .i64 e2, .slice a1 K c1, .slice a2 K c2, .slice a3 K c3, .slice a4 K c4] 34)) (w.heap.size + 1) [.int .i64 s1, .int .i64 s2, .int .i64 e1, .int .i64 e2, .slice a1 K c1, .slice a2 K c2, .slice a3 K c3, .slice a4 K c4]) := lies_new2 _ _ _ _
  have HB_0 : Hid (Below w.heap.size w ((w.alloc (.cells #[.int .i64 a, .int .i64 b, .int .i64 c, .int .i64 d, .int .i64 f, .int .i64 k, .int .i64 a', .int .i64 b', .int .i64 c', .int .i64 d', .int .i64 f', .int .i64 k'] 27)).alloc (.cells #[.int .i64 s1, .int .i64 s2, .int .i64 e1, .int .i64 e2, .slice a1 K c1, .slice a2 K c2, .slice a3 K c3, .slice a4 K c4] 34))) := HB00
  have S1_0 : Hid (Sees ((w.alloc (.cells #[.int .i64 a, .int .i64 b, .int .i64 c, .int .i64 d, .int .i64 f, .int .i64 k, .int .i64 a', .int .i64 b', .int .i64 c', .int .i64 d', .int .i64 f', .int .i64 k'] 27)).alloc (.cells #[.int .i64 s1, .int .i64 s2, .int .i64 e1, .int .i64 e2, .slice a1 K c1, .slice a2 K c2, .slice a3 K c3, .slice a4 K c4] 34)) a1 K c1 z1) := h1.below HB00
  have S2_0 : Hid (Sees ((w.alloc (.cells #[.int .i64 a, .int .i64 b, .int .i64 c, .int .i64 d, .int .i64 f, .int .i64 k, .int .i64 a', .int .i64 b', .int .i64 c', .int .i64 d', .int .i64 f', .int .i64 k'] 27)).alloc (.cells #[.int .i64 s1, .int .i64 s2, .int .i64 e1, .int .i64 e2, .slice a1 K c1, .slice a2 K c2, .slice a3 K c3, .slice a4 K c4] 34)) a2 K c2 z2) := h2.below HB00
  have S3_0 : Hid (Sees ((w.alloc (.cells #[.int .i64 a, .int .i64 b, .int .i64 c, .int .i64 d, .int .i64 f, .int .i64 k, .int .i64 a', .int .i64 b', .int .i64 c', .int .i64 d', .int .i64 f', .int .i64 k'] 27)).alloc (.cells #[.int .i64 s1, .int .i64 s2, .int .i64 e1, .int .i64 e2, .slice a1 K c1, .slice a2 K c2, .slice a3 K c3, .slice a4 K c4] 34)) a3 K c3 z3) := h3.below HB00
  have S4_0 : Hid (Sees ((w.alloc (.cells #[.int .i64 a, .int .i64 b, .int .i64 c, .int .i64 d, .int .i64 f, .int .i64 k, .int .i64 a', .int .i64 b', .int .i64 c', .int .i64 d', .int .i64 f', .int .i64 k'] 27)).alloc (.cells #[.int .i64 s1, .int .i64 s2, .int .i64 e1, .int .i64 e2, .slice a1 K c1, .slice a2 K c2, .slice a3 K c3, .slice a4 K c4] 34)) a4 K c4 z4) := h4.below HB00
  clear HB00 h1 h2 h3 h4
  go_enter Tryz.func16, Tryz.ntmps16
  go_wp2_with fail
  refine (CR _ S1_0.out S2_0.out S3_0.out S4_0.out).mono ?_
  rintro e w1 ⟨rfl, hb⟩
  have HM_1 : Hid (Lies w1 w.heap.size [.int .i64 a, .int .i64 b, .int .i64 c, .int .i64 d, .int .i64 f, .int .i64 k, .int .i64 a', .int .i64 b', .int .i64 c', .int .i64 d', .int .i64 f', .int .i64 k']) := HM_0.out.belowS hb
  have HP_1 : Hid (Lies w1 (w.heap.size + 1) [.int .i64 s1, .int .i64 s2, .int .i64 e1, .int .i64 e2, .slice a1 K c1, .slice a2 K c2, .slice a3 K c3, .slice a4 K c4]) := HP_0.out.belowS hb
  have HB_1 : Hid (Below w.heap.size w w1) := HB_0.out.trans (hb.mono HB_0.out.size)
  have S1_1 : Hid (Sees w1 a1 K c1 z1) := S1_0.out.below hb
  have S2_1 : Hid (Sees w1 a2 K c2 z2) := S2_0.out.below hb
  have S3_1 : Hid (Sees w1 a3 K c3 z3) := S3_0.out.below hb
  have S4_1 : Hid (Sees w1 a4 K c4 z4) := S4_0.out.below hb
  clear HM_0 HP_0 HB_0 S1_0 S2_0 S3_0 S4_0
  clear hb
  have m0 : w1.cell? ⟨w.heap.size, 0, none⟩ = some (.int .i64 a) := HM_1.out.at 0
  have m1 : w1.cell? ⟨w.heap.size, 1, none⟩ = some (.int .i64 b) := HM_1.out.at 1
  have m2 : w1.cell? ⟨w.heap.size, 2, none⟩ = some (.int .i64 c) := HM_1.out.at 2
  have m3 : w1.cell? ⟨w.heap.size, 3, none⟩ = some (.int .i64 d) := HM_1.out.at 3
  have m4 : w1.cell? ⟨w.heap.size, 4, none⟩ = some (.int .i64 f) := HM_1.out.at 4
  have m5 : w1.cell? ⟨w.heap.size, 5, none⟩ = some (.int .i64 k) := HM_1.out.at 5
  have m6 : w1.cell? ⟨w.heap.size, 6, none⟩ = some (.int .i64 a') := HM_1.out.at 6
  have m7 : w1.cell? ⟨w.heap.size, 7, none⟩ = some (.int .i64 b') := HM_1.out.at 7
  have m8 : w1.cell? ⟨w.heap.size, 8, none⟩ = some (.int .i64 c') := HM_1.out.at 8
  have m9 : w1.cell? ⟨w.heap.size, 9, none⟩ = some (.int .i64 d') := HM_1.out.at 9
  have m10 : w1.cell? ⟨w.heap.size, 10, none⟩ = some (.int .i64 f') := HM_1.out.at 10
  have m11 : w1.cell? ⟨w.heap.size, 11, none⟩ = some (.int .i64 k') := HM_1.out.at 11
  go_wp2_with fail
  refine (CM _).mono ?_
  rintro e w2 ⟨rfl, hb⟩
  have HM_2 : Hid (Lies w2 w.heap.size [.int .i64 a, .int .i64 b, .int .i64 c, .int .i64 d, .int .i64 f, .int .i64 k, .int .i64 a', .int .i64 b', .int .i64 c', .int .i64 d', .int .i64 f', .int .i64 k']) := HM_1.out.belowS hb
  have HP_2 : Hid (Lies w2 (w.heap.size + 1) [.int .i64 s1, .int .i64 s2, .int .i64 e1, .int .i64 e2, .slice a1 K c1, .slice a2 K c2, .slice a3 K c3, .slice a4 K c4]) := HP_1.out.belowS hb
  have HB_2 : Hid (Below w.heap.size w w2) := HB_1.out.trans (hb.mono HB_1.out.size)
  have S1_2 : Hid (Sees w2 a1 K c1 z1) := S1_1.out.below hb
  have S2_2 : Hid (Sees w2 a2 K c2 z2) := S2_1.out.below hb
  have S3_2 : Hid (Sees w2 a3 K c3 z3) := S3_1.out.below hb
  have S4_2 : Hid (Sees w2 a4 K c4 z4) := S4_1.out.below hb
  clear HM_1 HP_1 HB_1 S1_1 S2_1 S3_1 S4_1
  clear hb
  clear m0 m1 m2 m3 m4 m5 m6 m7 m8 m9 m10 m11 CR CM
  have p4 : w2.cell? ⟨w.heap.size + 1, 4, none⟩ = some (.slice a1 K c1) := HP_2.out.at 4
  go_wp2_with fail
  refine (CF1 _ S1_2.out).mono ?_
  rintro e w3 ⟨fa1, fl1, fc1, rfl, ho, hb⟩
  have HM_3 : Hid (Lies w3 w.heap.size [.int .i64 a, .int .i64 b, .int .i64 c, .int .i64 d, .int .i64 f, .int .i64 k, .int .i64 a', .int .i64 b', .int .i64 c', .int .i64 d', .int .i64 f', .int .i64 k']) := HM_2.out.belowS hb
  have HP_3 : Hid (Lies w3 (w.heap.size + 1) [.int .i64 s1, .int .i64 s2, .int .i64 e1, .int .i64 e2, .slice a1 K c1, .slice a2 K c2, .slice a3 K c3, .slice a4 K c4]) := HP_2.out.belowS hb
  have HB_3 : Hid (Below w.heap.size w w3) := HB_2.out.trans (hb.mono HB_2.out.size)
  have S1_3 : Hid (Sees w3 a1 K c1 z1) := S1_2.out.below hb
  have S2_3 : Hid (Sees w3 a2 K c2 z2) := S2_2.out.below hb
  have S3_3 : Hid (Sees w3 a3 K c3 z3) := S3_2.out.below hb
  have S4_3 : Hid (Sees w3 a4 K c4 z4) := S4_2.out.below hb
  clear HM_2 HP_2 HB_2 S1_2 S2_2 S3_2 S4_2
  have F1_3 : Hid (Sees w3 fa1 fl1 fc1 F1) := ho.sees
  clear hb
  clear p4 ho CF1
  have p5 : w3.cell? ⟨w.heap.size + 1, 5, none⟩ = some (.slice a2 K c2) := HP_3.out.at 5
  go_wp2_with fail
  refine (CF2 _ S2_3.out).mono ?_
  rintro e w4 ⟨fa2, fl2, fc2, rfl, ho, hb⟩
  have HM_4 : Hid (Lies w4 w.heap.size [.int .i64 a, .int .i64 b, .int .i64 c, .int .i64 d, .int .i64 f, .int .i64 k, .int .i64 a', .int .i64 b', .int .i64 c', .int .i64 d', .int .i64 f', .int .i64 k']) := HM_3.out.belowS hb
  have HP_4 : Hid (Lies w4 (w.heap.size + 1) [.int .i64 s1, .int .i64 s2, .int .i64 e1, .int .i64 e2, .slice a1 K c1, .slice a2 K c2, .slice a3 K c3, .slice a4 K c4]) := HP_3.out.belowS hb
  have HB_4 : Hid (Below w.heap.size w w4) := HB_3.out.trans (hb.mono HB_3.out.size)
  have S1_4 : Hid (Sees w4 a1 K c1 z1) := S1_3.out.below hb
  have S2_4 : Hid (Sees w4 a2 K c2 z2) := S2_3.out.below hb
  have S3_4 : Hid (Sees w4 a3 K c3 z3) := S3_3.out.below hb
  have S4_4 : Hid (Sees w4 a4 K c4 z4) := S4_3.out.below hb
  have F1_4 : Hid (Sees w4 fa1 fl1 fc1 F1) := F1_3.out.below hb
  clear HM_3 HP_3 HB_3 S1_3 S2_3 S3_3 S4_3 F1_3
  have F2_4 : Hid (Sees w4 fa2 fl2 fc2 F2) := ho.sees
  clear hb
  clear p5 ho CF2
  have p6 : w4.cell? ⟨w.heap.size + 1, 6, none⟩ = some (.slice a3 K c3) := HP_4.out.at 6
  go_wp2_with fail
  refine (CF3 _ S3_4.out).mono ?_
  rintro e w5 ⟨fa3, fl3, fc3, rfl, ho, hb⟩
  have HM_5 : Hid (Lies w5 w.heap.size [.int .i64 a, .int .i64 b, .int .i64 c, .int .i64 d, .int .i64 f, .int .i64 k, .int .i64 a', .int .i64 b', .int .i64 c', .int .i64 d', .int .i64 f', .int .i64 k']) := HM_4.out.belowS hb
  have HP_5 : Hid (Lies w5 (w.heap.size + 1) [.int .i64 s1, .int .i64 s2, .int .i64 e1, .int .i64 e2, .slice a1 K c1, .slice a2 K c2, .slice a3 K c3, .slice a4 K c4]) := HP_4.out.belowS hb
  have HB_5 : Hid (Below w.heap.size w w5) := HB_4.out.trans (hb.mono HB_4.out.size)
  have S1_5 : Hid (Sees w5 a1 K c1 z1) := S1_4.out.below hb
  have S2_5 : Hid (Sees w5 a2 K c2 z2) := S2_4.out.below hb
  have S3_5 : Hid (Sees w5 a3 K c3 z3) := S3_4.out.below hb
  have S4_5 : Hid (Sees w5 a4 K c4 z4) := S4_4.out.below hb
  have F1_5 : Hid (Sees w5 fa1 fl1 fc1 F1) := F1_4.out.below hb
  have F2_5 : Hid (Sees w5 fa2 fl2 fc2 F2) := F2_4.out.below hb
  clear HM_4 HP_4 HB_4 S1_4 S2_4 S3_4 S4_4 F1_4 F2_4
  have F3_5 : Hid (Sees w5 fa3 fl3 fc3 F3) := ho.sees
  clear hb
  clear p6 ho CF3
  have p7 : w5.cell? ⟨w.heap.size + 1, 7, none⟩ = some (.slice a4 K c4) := HP_5.out.at 7
  go_wp2_with fail
  refine (CF4 _ S4_5.out).mono ?_
  rintro e w6 ⟨fa4, fl4, fc4, rfl, ho, hb⟩
  have HM_6 : Hid (Lies w6 w.heap.size [.int .i64 a, .int .i64 b, .int .i64 c, .int .i64 d, .int .i64 f, .int .i64 k, .int .i64 a', .int .i64 b', .int .i64 c', .int .i64 d', .int .i64 f', .int .i64 k']) := HM_5.out.belowS hb
  have HP_6 : Hid (Lies w6 (w.heap.size + 1) [.int .i64 s1, .int .i64 s2, .int .i64 e1, .int .i64 e2, .slice a1 K c1, .slice a2 K c2, .slice a3 K c3, .slice a4 K c4]) := HP_5.out.belowS hb
  have HB_6 : Hid (Below w.heap.size w w6) := HB_5.out.trans (hb.mono HB_5.out.size)
  have S1_6 : Hid (Sees w6 a1 K c1 z1) := S1_5.out.below hb
  have S2_6 : Hid (Sees w6 a2 K c2 z2) := S2_5.out.below hb
  have S3_6 : Hid (Sees w6 a3 K c3 z3) := S3_5.out.below hb
  have S4_6 : Hid (Sees w6 a4 K c4 z4) := S4_5.out.below hb
  have F1_6 : Hid (Sees w6 fa1 fl1 fc1 F1) := F1_5.out.below hb
  have F2_6 : Hid (Sees w6 fa2 fl2 fc2 F2) := F2_5.out.below hb
  have F3_6 : Hid (Sees w6 fa3 fl3 fc3 F3) := F3_5.out.below hb
  clear HM_5 HP_5 HB_5 S1_5 S2_5 S3_5 S4_5 F1_5 F2_5 F3_5
  have F4_6 : Hid (Sees w6 fa4 fl4 fc4 F4) := ho.sees
  clear hb
  clear p7 ho CF4
  have HL1 : Hid (F1.length = fl1) := F1_6.out.len
  have hlb1 : (fl1 : Int) ≤ 9223372036854775807 := by have := F1_6.out.big; have := F1_6.out.le; omega
  have HL2 : Hid (F2.length = fl2) := F2_6.out.len
  have hlb2 : (fl2 : Int) ≤ 9223372036854775807 := by have := F2_6.out.big; have := F2_6.out.le; omega
  have HL3 : Hid (F3.length = fl3) := F3_6.out.len
  have hlb3 : (fl3 : Int) ≤ 9223372036854775807 := by have := F3_6.out.big; have := F3_6.out.le; omega
  have HL4 : Hid (F4.length = fl4) := F4_6.out.len
  have hlb4 : (fl4 : Int) ≤ 9223372036854775807 := by have := F4_6.out.big; have := F4_6.out.le; omega
  have HEx1 : Hid (¬ fl1 ≤ N → oA = false) := fun h => by show _ = _; rw [HOA.out, HL1.out, decide_eq_false h]; simp
  have HEx2 : Hid (¬ fl2 ≤ N → oA = false) := fun h => by show _ = _; rw [HOA.out, HL2.out, decide_eq_false h]; simp
  have HEx3 : Hid (¬ fl3 ≤ N → oA = false) := fun h => by show _ = _; rw [HOA.out, HL3.out, decide_eq_false h]; simp
  have HEx4 : Hid (¬ fl4 ≤ N → oA = false) := fun h => by show _ = _; rw [HOA.out, HL4.out, decide_eq_false h]; simp
  have HOK : Hid (fl1 ≤ N → fl2 ≤ N → fl3 ≤ N → fl4 ≤ N → oA = (((decide (x1 = s1) && decide (y1 = s2)) && (decide (x2 = e1) && decide (y2 = e2))) && (QX K && QY K))) := fun q1 q2 q3 q4 => by show _ = _; rw [HOA.out, HL1.out, HL2.out, HL3.out, HL4.out, decide_eq_true q1, decide_eq_true q2, decide_eq_true q3, decide_eq_true q4]; rfl
  clear HOA HL1 HL2 HL3 HL4
  go_wp2_with fail
  · go_ret
    have HXq : oA = false := by first | exact HEx1.out (by omega) | exact HEx2.out (by omega) | exact HEx3.out (by omega) | exact HEx4.out (by omega)
    exact ⟨ret_bool HXq.symm, HB_6.out⟩
  rotate_left 1
  · go_ret
    have HXq : oA = false := by first | exact HEx1.out (by omega) | exact HEx2.out (by omega) | exact HEx3.out (by omega) | exact HEx4.out (by omega)
    exact ⟨ret_bool HXq.symm, HB_6.out⟩
  · go_ret
    have HXq : oA = false := by first | exact HEx1.out (by omega) | exact HEx2.out (by omega) | exact HEx3.out (by omega) | exact HEx4.out (by omega)
    exact ⟨ret_bool HXq.symm, HB_6.out⟩
  · go_ret
    have HXq : oA = false := by first | exact HEx1.out (by omega) | exact HEx2.out (by omega) | exact HEx3.out (by omega) | exact HEx4.out (by omega)
    exact ⟨ret_bool HXq.symm, HB_6.out⟩
  have HO2 : Hid (oA = (((decide (x1 = s1) && decide (y1 = s2)) && (decide (x2 = e1) && decide (y2 = e2))) && (QX K && QY K))) := HOK.out (by omega) (by omega) (by omega) (by omega)
  clear HOK HEx1 HEx2 HEx3 HEx4 hlb1 hlb2 hlb3 hlb4
  clear F3_6
  clear F4_6
  refine (CRo _).mono ?_
  rintro e wz ⟨rfl, hwz⟩
  have hwy := hwz.symm
  clear hwz
  subst hwy
  have hNw : IntKind.i64.wrap ((N : Int) - 1) = (N : Int) - 1 := by rw [IntKind.wrap_i64]; omega
  go_wp2_with fail
  refine (CPw _).mono ?_
  rintro e wz ⟨rfl, hwz⟩
  have hwy := hwz.symm
  clear hwz
  subst hwy
  clear CRo CPw
  have p0 : w6.cell? ⟨w.heap.size + 1, 0, none⟩ = some (.int .i64 s1) := HP_6.out.at 0
  have p1 : w6.cell? ⟨w.heap.size + 1, 1, none⟩ = some (.int .i64 s2) := HP_6.out.at 1
  have p2 : w6.cell? ⟨w.heap.size + 1, 2, none⟩ = some (.int .i64 e1) := HP_6.out.at 2
  have p3 : w6.cell? ⟨w.heap.size + 1, 3, none⟩ = some (.int .i64 e2) := HP_6.out.at 3
  go_wp2_with fail
  clear p0 p1 p2 p3
  generalize w6 = wq at HM_6 HP_6 HB_6 S1_6 S2_6 S3_6 S4_6 F1_6 F2_6  ⊢
  refine wp_region_noPanic ?_
  refine wp_region_held_drew (S := fun W => wq.grownBy W none) (by kernel_rfl) (grown_drew _ _) (fun hHeld => ?_)
  generalize wq.drew = wd0 at hHeld ⊢
  have HX0 : Hid (Below wq.heap.size wq wd0) := ⟨hHeld.os, hHeld.tape, hHeld.output, hHeld.size, fun k hk => hHeld.block k hk (by simp)⟩
  refine wpAnyH_take (i := 0) (v := .slice fa1 fl1 fc1) rfl (by kernel_rfl) (by kernel_rfl) (by kernel_rfl) (fun _ _ _ h => h) (Or.inl ⟨by kernel_rfl, ?_⟩) (by assumption) ?_
  · intro wq hSq; go_simp
  try simp only [Act.put]
  refine wpAnyH_take (i := 2) (v := .pointer (some ⟨w.heap.size + 1, 0, none⟩)) rfl (by kernel_rfl) (by kernel_rfl) (by kernel_rfl) (fun _ _ _ h => h) (Or.inl ⟨by kernel_rfl, ?_⟩) (by assumption) ?_
  · intro wq hSq; go_simp
  try simp only [Act.put]
  refine wpAnyH_take (i := 3) (v := .pointer (some ⟨w.heap.size + 1, 0, none⟩)) rfl (by kernel_rfl) (by kernel_rfl) (by kernel_rfl) (fun _ _ _ h => h) (Or.inl ⟨by kernel_rfl, ?_⟩) (by assumption) ?_
  · intro wq hSq; go_simp
  try simp only [Act.put]
  refine wpAnyH_take (i := 4) (v := .int .i64 s1) rfl (by kernel_rfl) (by kernel_rfl) (by kernel_rfl) (fun _ _ _ h => h) (Or.inl ⟨by kernel_rfl, ?_⟩) (by assumption) ?_
  · intro wp hSp; have c0 : wp.cell? ⟨w.heap.size + 1, 0, none⟩ = some (.int .i64 s1) := (HP_6.out.grown hSp (by simp)).at 0; go_simp
  try simp only [Act.put]
  refine wpAnyH_ready (rs := [1]) (by kernel_rfl) (by simp) ?_
  refine AllReadyH.cons rfl (fun Kk hK => ?_) AllReadyH.nil
  go_simp
  refine (CA11 _ (F1_6.out.below HX0.out)).mono ?_
  rintro e wn ⟨rfl, hwn⟩; have hwm := hwn.symm; clear hwn; subst hwm
  go_simp
  refine hK.out _ _ (by assumption) (fun hHeld1 => ?_)
  clear hK Kk
  try simp only [Act.put]
  refine wpAnyH_take (i := 5) (v := .bool (x1 != s1)) rfl (by kernel_rfl) (by kernel_rfl) (by kernel_rfl) (fun _ _ _ h => h) (Or.inl ⟨by kernel_rfl, ?_⟩) (by assumption) ?_
  · intro wq hSq; go_simp
  try simp only [Act.put]
  by_cases g0 : x1 = s1
  rotate_left
  · have hne0 : (x1 != s1) = true := by simp [g0]
    rw [hne0]
    have HO3 : Hid (oA = false) := by show _ = _; rw [HO2.out, decide_eq_false g0]; simp
    clear g0
    refine wpAnyH_take (i := 6) (v := .bool true) rfl (by kernel_rfl) (by kernel_rfl) (by kernel_rfl) (fun _ _ _ h => h) (Or.inl ⟨by kernel_rfl, ?_⟩) (by assumption) ?_
    · intro wq hSq; go_simp
    try simp only [Act.put]
    refine wpAnyH_take (i := 7) (v := undef) rfl (by kernel_rfl) (by kernel_rfl) (by kernel_rfl) (fun _ _ _ h => h) (Or.inr ⟨by kernel_rfl, rfl⟩) (by assumption) ?_
    try simp only [Act.put]
    refine wpAnyH_take (i := 8) (v := undef) rfl (by kernel_rfl) (by kernel_rfl) (by kernel_rfl) (fun _ _ _ h => h) (Or.inr ⟨by kernel_rfl, rfl⟩) (by assumption) ?_
    try simp only [Act.put]
    refine wpAnyH_take (i := 9) (v := undef) rfl (by kernel_rfl) (by kernel_rfl) (by kernel_rfl) (fun _ _ _ h => h) (Or.inr ⟨by kernel_rfl, rfl⟩) (by assumption) ?_
    try simp only [Act.put]
    refine wpAnyH_take (i := 10) (v := undef) rfl (by kernel_rfl) (by kernel_rfl) (by kernel_rfl) (fun _ _ _ h => h) (Or.inr ⟨by kernel_rfl, rfl⟩) (by assumption) ?_
    try simp only [Act.put]
    refine wpAnyH_take (i := 11) (v := undef) rfl (by kernel_rfl) (by kernel_rfl) (by kernel_rfl) (fun _ _ _ h => h) (Or.inr ⟨by kernel_rfl, rfl⟩) (by assumption) ?_
    try simp only [Act.put]
    refine wpAnyH_take (i := 12) (v := undef) rfl (by kernel_rfl) (by kernel_rfl) (by kernel_rfl) (fun _ _ _ h => h) (Or.inr ⟨by kernel_rfl, rfl⟩) (by assumption) ?_
    try simp only [Act.put]
    refine wpAnyH_take (i := 13) (v := .bool true) rfl (by kernel_rfl) (by kernel_rfl) (by kernel_rfl) (fun _ _ _ h => h) (Or.inl ⟨by kernel_rfl, ?_⟩) (by assumption) ?_
    · intro wq hSq; go_simp
    try simp only [Act.put]
    refine wpAnyH_take (i := 14) (v := .bool true) rfl (by kernel_rfl) (by kernel_rfl) (by kernel_rfl) (fun _ _ _ h => h) (Or.inl ⟨by kernel_rfl, ?_⟩) (by assumption) ?_
    · intro wq hSq; go_simp
    try simp only [Act.put]
    refine wpAnyH_take (i := 15) (v := undef) rfl (by kernel_rfl) (by kernel_rfl) (by kernel_rfl) (fun _ _ _ h => h) (Or.inr ⟨by kernel_rfl, rfl⟩) (by assumption) ?_
    try simp only [Act.put]
    refine wpAnyH_take (i := 16) (v := undef) rfl (by kernel_rfl) (by kernel_rfl) (by kernel_rfl) (fun _ _ _ h => h) (Or.inr ⟨by kernel_rfl, rfl⟩) (by assumption) ?_
    try simp only [Act.put]
    refine wpAnyH_take (i := 17) (v := undef) rfl (by kernel_rfl) (by kernel_rfl) (by kernel_rfl) (fun _ _ _ h => h) (Or.inr ⟨by kernel_rfl, rfl⟩) (by assumption) ?_
    try simp only [Act.put]
    refine wpAnyH_take (i := 18) (v := undef) rfl (by kernel_rfl) (by kernel_rfl) (by kernel_rfl) (fun _ _ _ h => h) (Or.inr ⟨by kernel_rfl, rfl⟩) (by assumption) ?_
    try simp only [Act.put]
    refine wpAnyH_take (i := 19) (v := undef) rfl (by kernel_rfl) (by kernel_rfl) (by kernel_rfl) (fun _ _ _ h => h) (Or.inr ⟨by kernel_rfl, rfl⟩) (by assumption) ?_
    try simp only [Act.put]
    refine wpAnyH_take (i := 20) (v := undef) rfl (by kernel_rfl) (by kernel_rfl) (by kernel_rfl) (fun _ _ _ h => h) (Or.inr ⟨by kernel_rfl, rfl⟩) (by assumption) ?_
    try simp only [Act.put]
    refine wpAnyH_take (i := 21) (v := undef) rfl (by kernel_rfl) (by kernel_rfl) (by kernel_rfl) (fun _ _ _ h => h) (Or.inr ⟨by kernel_rfl, rfl⟩) (by assumption) ?_
    try simp only [Act.put]
    refine wpAnyH_take (i := 22) (v := .bool true) rfl (by kernel_rfl) (by kernel_rfl) (by kernel_rfl) (fun _ _ _ h => h) (Or.inl ⟨by kernel_rfl, ?_⟩) (by assumption) ?_
    · intro wq hSq; go_simp
    try simp only [Act.put]
    refine wpAnyH_take (i := 23) (v := .bool true) rfl (by kernel_rfl) (by kernel_rfl) (by kernel_rfl) (fun _ _ _ h => h) (Or.inl ⟨by kernel_rfl, ?_⟩) (by assumption) ?_
    · intro wq hSq; go_simp
    try simp only [Act.put]
    refine wpAnyH_take (i := 24) (v := undef) rfl (by kernel_rfl) (by kernel_rfl) (by kernel_rfl) (fun _ _ _ h => h) (Or.inr ⟨by kernel_rfl, rfl⟩) (by assumption) ?_
    try simp only [Act.put]
    refine wpAnyH_take (i := 25) (v := undef) rfl (by kernel_rfl) (by kernel_rfl) (by kernel_rfl) (fun _ _ _ h => h) (Or.inr ⟨by kernel_rfl, rfl⟩) (by assumption) ?_
    try simp only [Act.put]
    refine wpAnyH_take (i := 26) (v := undef) rfl (by kernel_rfl) (by kernel_rfl) (by kernel_rfl) (fun _ _ _ h => h) (Or.inr ⟨by kernel_rfl, rfl⟩) (by assumption) ?_
    try simp only [Act.put]
    refine wpAnyH_take (i := 27) (v := undef) rfl (by kernel_rfl) (by kernel_rfl) (by kernel_rfl) (fun _ _ _ h => h) (Or.inr ⟨by kernel_rfl, rfl⟩) (by assumption) ?_
    try simp only [Act.put]
    refine wpAnyH_take (i := 28) (v := undef) rfl (by kernel_rfl) (by kernel_rfl) (by kernel_rfl) (fun _ _ _ h => h) (Or.inr ⟨by kernel_rfl, rfl⟩) (by assumption) ?_
    try simp only [Act.put]
    refine wpAnyH_take (i := 29) (v := undef) rfl (by kernel_rfl) (by kernel_rfl) (by kernel_rfl) (fun _ _ _ h => h) (Or.inr ⟨by kernel_rfl, rfl⟩) (by assumption) ?_
    try simp only [Act.put]
    refine wpAnyH_take (i := 30) (v := undef) rfl (by kernel_rfl) (by kernel_rfl) (by kernel_rfl) (fun _ _ _ h => h) (Or.inr ⟨by kernel_rfl, rfl⟩) (by assumption) ?_
    try simp only [Act.put]
    refine wpAnyH_take (i := 31) (v := .bool true) rfl (by kernel_rfl) (by kernel_rfl) (by kernel_rfl) (fun _ _ _ h => h) (Or.inl ⟨by kernel_rfl, ?_⟩) (by assumption) ?_
    · intro wq hSq; go_simp
    try simp only [Act.put]
    refine wpAnyH_done (by kernel_rfl) ?_ _
    refine NoPanic.normal ?_
    go_simp
    have HBx : Hid (Below w.heap.size w wd0) := HB_6.out.trans (HX0.out.mono HB_6.out.size)
    go_wp2
    go_ret
    exact ⟨ret_bool HO3.out.symm, HBx.out⟩
  have hne0 : (x1 != s1) = false := by simp [g0]
  have HG0 : Hid (x1 = s1) := g0
  rw [hne0]
  clear g0
  refine wpAnyH_take (i := 6) (v := .bool false) rfl (by kernel_rfl) (by kernel_rfl) (by kernel_rfl) (fun _ _ _ h => h) (Or.inl ⟨by kernel_rfl, ?_⟩) (by assumption) ?_
  · intro wq hSq; go_simp
  try simp only [Act.put]
  refine wpAnyH_take (i := 7) (v := .slice fa2 fl2 fc2) rfl (by kernel_rfl) (by kernel_rfl) (by kernel_rfl) (fun _ _ _ h => h) (Or.inl ⟨by kernel_rfl, ?_⟩) (by assumption) ?_
  · intro wq hSq; go_simp
  try simp only [Act.put]
  refine wpAnyH_take (i := 9) (v := .pointer (some ⟨w.heap.size + 1, 0, none⟩)) rfl (by kernel_rfl) (by kernel_rfl) (by kernel_rfl) (fun _ _ _ h => h) (Or.inl ⟨by kernel_rfl, ?_⟩) (by assumption) ?_
  · intro wq hSq; go_simp
  try simp only [Act.put]
  refine wpAnyH_take (i := 10) (v := .pointer (some ⟨w.heap.size + 1, 1, none⟩)) rfl (by kernel_rfl) (by kernel_rfl) (by kernel_rfl) (fun _ _ _ h => h) (Or.inl ⟨by kernel_rfl, ?_⟩) (by assumption) ?_
  · intro wq hSq; go_simp
  try simp only [Act.put]
  refine wpAnyH_take (i := 11) (v := .int .i64 s2) rfl (by kernel_rfl) (by kernel_rfl) (by kernel_rfl) (fun _ _ _ h => h) (Or.inl ⟨by kernel_rfl, ?_⟩) (by assumption) ?_
  · intro wp hSp; have c0 : wp.cell? ⟨w.heap.size + 1, 1, none⟩ = some (.int .i64 s2) := (HP_6.out.grown hSp (by simp)).at 1; go_simp
  try simp only [Act.put]
  refine wpAnyH_ready (rs := [8]) (by kernel_rfl) (by simp) ?_
  refine AllReadyH.cons rfl (fun Kk hK => ?_) AllReadyH.nil
  go_simp
  refine (CA12 _ (F2_6.out.below HX0.out)).mono ?_
  rintro e wn ⟨rfl, hwn⟩; have hwm := hwn.symm; clear hwn; subst hwm
  go_simp
  refine hK.out _ _ (by assumption) (fun hHeld1 => ?_)
  clear hK Kk
  try simp only [Act.put]
  refine wpAnyH_take (i := 12) (v := .bool (y1 != s2)) rfl (by kernel_rfl) (by kernel_rfl) (by kernel_rfl) (fun _ _ _ h => h) (Or.inl ⟨by kernel_rfl, ?_⟩) (by assumption) ?_
  · intro wq hSq; go_simp
  try simp only [Act.put]
  by_cases g1 : y1 = s2
  rotate_left
  · have hne1 : (y1 != s2) = true := by simp [g1]
    rw [hne1]
    have HO3 : Hid (oA = false) := by show _ = _; rw [HO2.out, decide_eq_false g1]; simp
    clear g1
    refine wpAnyH_take (i := 13) (v := .bool true) rfl (by kernel_rfl) (by kernel_rfl) (by kernel_rfl) (fun _ _ _ h => h) (Or.inl ⟨by kernel_rfl, ?_⟩) (by assumption) ?_
    · intro wq hSq; go_simp
    try simp only [Act.put]
    refine wpAnyH_take (i := 14) (v := .bool true) rfl (by kernel_rfl) (by kernel_rfl) (by kernel_rfl) (fun _ _ _ h => h) (Or.inl ⟨by kernel_rfl, ?_⟩) (by assumption) ?_
    · intro wq hSq; go_simp
    try simp only [Act.put]
    refine wpAnyH_take (i := 15) (v := undef) rfl (by kernel_rfl) (by kernel_rfl) (by kernel_rfl) (fun _ _ _ h => h) (Or.inr ⟨by kernel_rfl, rfl⟩) (by assumption) ?_
    try simp only [Act.put]
    refine wpAnyH_take (i := 16) (v := undef) rfl (by kernel_rfl) (by kernel_rfl) (by kernel_rfl) (fun _ _ _ h => h) (Or.inr ⟨by kernel_rfl, rfl⟩) (by assumption) ?_
    try simp only [Act.put]
    refine wpAnyH_take (i := 17) (v := undef) rfl (by kernel_rfl) (by kernel_rfl) (by kernel_rfl) (fun _ _ _ h => h) (Or.inr ⟨by kernel_rfl, rfl⟩) (by assumption) ?_
    try simp only [Act.put]
    refine wpAnyH_take (i := 18) (v := undef) rfl (by kernel_rfl) (by kernel_rfl) (by kernel_rfl) (fun _ _ _ h => h) (Or.inr ⟨by kernel_rfl, rfl⟩) (by assumption) ?_
    try simp only [Act.put]
    refine wpAnyH_take (i := 19) (v := undef) rfl (by kernel_rfl) (by kernel_rfl) (by kernel_rfl) (fun _ _ _ h => h) (Or.inr ⟨by kernel_rfl, rfl⟩) (by assumption) ?_
    try simp only [Act.put]
    refine wpAnyH_take (i := 20) (v := undef) rfl (by kernel_rfl) (by kernel_rfl) (by kernel_rfl) (fun _ _ _ h => h) (Or.inr ⟨by kernel_rfl, rfl⟩) (by assumption) ?_
    try simp only [Act.put]
    refine wpAnyH_take (i := 21) (v := undef) rfl (by kernel_rfl) (by kernel_rfl) (by kernel_rfl) (fun _ _ _ h => h) (Or.inr ⟨by kernel_rfl, rfl⟩) (by assumption) ?_
    try simp only [Act.put]
    refine wpAnyH_take (i := 22) (v := .bool true) rfl (by kernel_rfl) (by kernel_rfl) (by kernel_rfl) (fun _ _ _ h => h) (Or.inl ⟨by kernel_rfl, ?_⟩) (by assumption) ?_
    · intro wq hSq; go_simp
    try simp only [Act.put]
    refine wpAnyH_take (i := 23) (v := .bool true) rfl (by kernel_rfl) (by kernel_rfl) (by kernel_rfl) (fun _ _ _ h => h) (Or.inl ⟨by kernel_rfl, ?_⟩) (by assumption) ?_
    · intro wq hSq; go_simp
    try simp only [Act.put]
    refine wpAnyH_take (i := 24) (v := undef) rfl (by kernel_rfl) (by kernel_rfl) (by kernel_rfl) (fun _ _ _ h => h) (Or.inr ⟨by kernel_rfl, rfl⟩) (by assumption) ?_
    try simp only [Act.put]
    refine wpAnyH_take (i := 25) (v := undef) rfl (by kernel_rfl) (by kernel_rfl) (by kernel_rfl) (fun _ _ _ h => h) (Or.inr ⟨by kernel_rfl, rfl⟩) (by assumption) ?_
    try simp only [Act.put]
    refine wpAnyH_take (i := 26) (v := undef) rfl (by kernel_rfl) (by kernel_rfl) (by kernel_rfl) (fun _ _ _ h => h) (Or.inr ⟨by kernel_rfl, rfl⟩) (by assumption) ?_
    try simp only [Act.put]
    refine wpAnyH_take (i := 27) (v := undef) rfl (by kernel_rfl) (by kernel_rfl) (by kernel_rfl) (fun _ _ _ h => h) (Or.inr ⟨by kernel_rfl, rfl⟩) (by assumption) ?_
    try simp only [Act.put]
    refine wpAnyH_take (i := 28) (v := undef) rfl (by kernel_rfl) (by kernel_rfl) (by kernel_rfl) (fun _ _ _ h => h) (Or.inr ⟨by kernel_rfl, rfl⟩) (by assumption) ?_
    try simp only [Act.put]
    refine wpAnyH_take (i := 29) (v := undef) rfl (by kernel_rfl) (by kernel_rfl) (by kernel_rfl) (fun _ _ _ h => h) (Or.inr ⟨by kernel_rfl, rfl⟩) (by assumption) ?_
    try simp only [Act.put]
    refine wpAnyH_take (i := 30) (v := undef) rfl (by kernel_rfl) (by kernel_rfl) (by kernel_rfl) (fun _ _ _ h => h) (Or.inr ⟨by kernel_rfl, rfl⟩) (by assumption) ?_
    try simp only [Act.put]
    refine wpAnyH_take (i := 31) (v := .bool true) rfl (by kernel_rfl) (by kernel_rfl) (by kernel_rfl) (fun _ _ _ h => h) (Or.inl ⟨by kernel_rfl, ?_⟩) (by assumption) ?_
    · intro wq hSq; go_simp
    try simp only [Act.put]
    refine wpAnyH_done (by kernel_rfl) ?_ _
    refine NoPanic.normal ?_
    go_simp
    have HBx : Hid (Below w.heap.size w wd0) := HB_6.out.trans (HX0.out.mono HB_6.out.size)
    go_wp2
    go_ret
    exact ⟨ret_bool HO3.out.symm, HBx.out⟩
  have hne1 : (y1 != s2) = false := by simp [g1]
  have HG1 : Hid (y1 = s2) := g1
  rw [hne1]
  clear g1
  refine wpAnyH_take (i := 13) (v := .bool false) rfl (by kernel_rfl) (by kernel_rfl) (by kernel_rfl) (fun _ _ _ h => h) (Or.inl ⟨by kernel_rfl, ?_⟩) (by assumption) ?_
  · intro wq hSq; go_simp
  try simp only [Act.put]
  refine wpAnyH_take (i := 14) (v := .bool false) rfl (by kernel_rfl) (by kernel_rfl) (by kernel_rfl) (fun _ _ _ h => h) (Or.inl ⟨by kernel_rfl, ?_⟩) (by assumption) ?_
  · intro wq hSq; go_simp
  try simp only [Act.put]
  refine wpAnyH_take (i := 15) (v := .slice fa1 fl1 fc1) rfl (by kernel_rfl) (by kernel_rfl) (by kernel_rfl) (fun _ _ _ h => h) (Or.inl ⟨by kernel_rfl, ?_⟩) (by assumption) ?_
  · intro wq hSq; go_simp
  try simp only [Act.put]
  refine wpAnyH_take (i := 16) (v := .int .i64 la) rfl (by kernel_rfl) (by kernel_rfl) (by kernel_rfl) (fun _ _ _ h => h) (Or.inl ⟨by kernel_rfl, ?_⟩) (by assumption) ?_
  · intro wq hSq; go_simp
  try simp only [Act.put]
  refine wpAnyH_take (i := 18) (v := .pointer (some ⟨w.heap.size + 1, 2, none⟩)) rfl (by kernel_rfl) (by kernel_rfl) (by kernel_rfl) (fun _ _ _ h => h) (Or.inl ⟨by kernel_rfl, ?_⟩) (by assumption) ?_
  · intro wq hSq; go_simp
  try simp only [Act.put]
  refine wpAnyH_take (i := 19) (v := .pointer (some ⟨w.heap.size + 1, 2, none⟩)) rfl (by kernel_rfl) (by kernel_rfl) (by kernel_rfl) (fun _ _ _ h => h) (Or.inl ⟨by kernel_rfl, ?_⟩) (by assumption) ?_
  · intro wq hSq; go_simp
  try simp only [Act.put]
  refine wpAnyH_take (i := 20) (v := .int .i64 e1) rfl (by kernel_rfl) (by kernel_rfl) (by kernel_rfl) (fun _ _ _ h => h) (Or.inl ⟨by kernel_rfl, ?_⟩) (by assumption) ?_
  · intro wp hSp; have c0 : wp.cell? ⟨w.heap.size + 1, 2, none⟩ = some (.int .i64 e1) := (HP_6.out.grown hSp (by simp)).at 2; go_simp
  try simp only [Act.put]
  refine wpAnyH_ready (rs := [17]) (by kernel_rfl) (by simp) ?_
  refine AllReadyH.cons rfl (fun Kk hK => ?_) AllReadyH.nil
  go_simp
  refine (CA21 _ (F1_6.out.below HX0.out)).mono ?_
  rintro e wn ⟨rfl, hwn⟩; have hwm := hwn.symm; clear hwn; subst hwm
  go_simp
  refine hK.out _ _ (by assumption) (fun hHeld1 => ?_)
  clear hK Kk
  try simp only [Act.put]
  refine wpAnyH_take (i := 21) (v := .bool (x2 != e1)) rfl (by kernel_rfl) (by kernel_rfl) (by kernel_rfl) (fun _ _ _ h => h) (Or.inl ⟨by kernel_rfl, ?_⟩) (by assumption) ?_
  · intro wq hSq; go_simp
  try simp only [Act.put]
  by_cases g2 : x2 = e1
  rotate_left
  · have hne2 : (x2 != e1) = true := by simp [g2]
    rw [hne2]
    have HO3 : Hid (oA = false) := by show _ = _; rw [HO2.out, decide_eq_false g2]; simp
    clear g2
    refine wpAnyH_take (i := 22) (v := .bool true) rfl (by kernel_rfl) (by kernel_rfl) (by kernel_rfl) (fun _ _ _ h => h) (Or.inl ⟨by kernel_rfl, ?_⟩) (by assumption) ?_
    · intro wq hSq; go_simp
    try simp only [Act.put]
    refine wpAnyH_take (i := 23) (v := .bool true) rfl (by kernel_rfl) (by kernel_rfl) (by kernel_rfl) (fun _ _ _ h => h) (Or.inl ⟨by kernel_rfl, ?_⟩) (by assumption) ?_
    · intro wq hSq; go_simp
    try simp only [Act.put]
    refine wpAnyH_take (i := 24) (v := undef) rfl (by kernel_rfl) (by kernel_rfl) (by kernel_rfl) (fun _ _ _ h => h) (Or.inr ⟨by kernel_rfl, rfl⟩) (by assumption) ?_
    try simp only [Act.put]
    refine wpAnyH_take (i := 25) (v := undef) rfl (by kernel_rfl) (by kernel_rfl) (by kernel_rfl) (fun _ _ _ h => h) (Or.inr ⟨by kernel_rfl, rfl⟩) (by assumption) ?_
    try simp only [Act.put]
    refine wpAnyH_take (i := 26) (v := undef) rfl (by kernel_rfl) (by kernel_rfl) (by kernel_rfl) (fun _ _ _ h => h) (Or.inr ⟨by kernel_rfl, rfl⟩) (by assumption) ?_
    try simp only [Act.put]
    refine wpAnyH_take (i := 27) (v := undef) rfl (by kernel_rfl) (by kernel_rfl) (by kernel_rfl) (fun _ _ _ h => h) (Or.inr ⟨by kernel_rfl, rfl⟩) (by assumption) ?_
    try simp only [Act.put]
    refine wpAnyH_take (i := 28) (v := undef) rfl (by kernel_rfl) (by kernel_rfl) (by kernel_rfl) (fun _ _ _ h => h) (Or.inr ⟨by kernel_rfl, rfl⟩) (by assumption) ?_
    try simp only [Act.put]
    refine wpAnyH_take (i := 29) (v := undef) rfl (by kernel_rfl) (by kernel_rfl) (by kernel_rfl) (fun _ _ _ h => h) (Or.inr ⟨by kernel_rfl, rfl⟩) (by assumption) ?_
    try simp only [Act.put]
    refine wpAnyH_take (i := 30) (v := undef) rfl (by kernel_rfl) (by kernel_rfl) (by kernel_rfl) (fun _ _ _ h => h) (Or.inr ⟨by kernel_rfl, rfl⟩) (by assumption) ?_
    try simp only [Act.put]
    refine wpAnyH_take (i := 31) (v := .bool true) rfl (by kernel_rfl) (by kernel_rfl) (by kernel_rfl) (fun _ _ _ h => h) (Or.inl ⟨by kernel_rfl, ?_⟩) (by assumption) ?_
    · intro wq hSq; go_simp
    try simp only [Act.put]
    refine wpAnyH_done (by kernel_rfl) ?_ _
    refine NoPanic.normal ?_
    go_simp
    have HBx : Hid (Below w.heap.size w wd0) := HB_6.out.trans (HX0.out.mono HB_6.out.size)
    go_wp2
    go_ret
    exact ⟨ret_bool HO3.out.symm, HBx.out⟩
  have hne2 : (x2 != e1) = false := by simp [g2]
  have HG2 : Hid (x2 = e1) := g2
  rw [hne2]
  clear g2
  refine wpAnyH_take (i := 22) (v := .bool false) rfl (by kernel_rfl) (by kernel_rfl) (by kernel_rfl) (fun _ _ _ h => h) (Or.inl ⟨by kernel_rfl, ?_⟩) (by assumption) ?_
  · intro wq hSq; go_simp
  try simp only [Act.put]
  refine wpAnyH_take (i := 23) (v := .bool false) rfl (by kernel_rfl) (by kernel_rfl) (by kernel_rfl) (fun _ _ _ h => h) (Or.inl ⟨by kernel_rfl, ?_⟩) (by assumption) ?_
  · intro wq hSq; go_simp
  try simp only [Act.put]
  refine wpAnyH_take (i := 24) (v := .slice fa2 fl2 fc2) rfl (by kernel_rfl) (by kernel_rfl) (by kernel_rfl) (fun _ _ _ h => h) (Or.inl ⟨by kernel_rfl, ?_⟩) (by assumption) ?_
  · intro wq hSq; go_simp
  try simp only [Act.put]
  refine wpAnyH_take (i := 25) (v := .int .i64 la) rfl (by kernel_rfl) (by kernel_rfl) (by kernel_rfl) (fun _ _ _ h => h) (Or.inl ⟨by kernel_rfl, ?_⟩) (by assumption) ?_
  · intro wq hSq; go_simp
  try simp only [Act.put]
  refine wpAnyH_take (i := 27) (v := .pointer (some ⟨w.heap.size + 1, 2, none⟩)) rfl (by kernel_rfl) (by kernel_rfl) (by kernel_rfl) (fun _ _ _ h => h) (Or.inl ⟨by kernel_rfl, ?_⟩) (by assumption) ?_
  · intro wq hSq; go_simp
  try simp only [Act.put]
  refine wpAnyH_take (i := 28) (v := .pointer (some ⟨w.heap.size + 1, 3, none⟩)) rfl (by kernel_rfl) (by kernel_rfl) (by kernel_rfl) (fun _ _ _ h => h) (Or.inl ⟨by kernel_rfl, ?_⟩) (by assumption) ?_
  · intro wq hSq; go_simp
  try simp only [Act.put]
  refine wpAnyH_take (i := 29) (v := .int .i64 e2) rfl (by kernel_rfl) (by kernel_rfl) (by kernel_rfl) (fun _ _ _ h => h) (Or.inl ⟨by kernel_rfl, ?_⟩) (by assumption) ?_
  · intro wp hSp; have c0 : wp.cell? ⟨w.heap.size + 1, 3, none⟩ = some (.int .i64 e2) := (HP_6.out.grown hSp (by simp)).at 3; go_simp
  try simp only [Act.put]
  refine wpAnyH_ready (rs := [26]) (by kernel_rfl) (by simp) ?_
  refine AllReadyH.cons rfl (fun Kk hK => ?_) AllReadyH.nil
  go_simp
  refine (CA22 _ (F2_6.out.below HX0.out)).mono ?_
  rintro e wn ⟨rfl, hwn⟩; have hwm := hwn.symm; clear hwn; subst hwm
  go_simp
  refine hK.out _ _ (by assumption) (fun hHeld1 => ?_)
  clear hK Kk
  try simp only [Act.put]
  refine wpAnyH_take (i := 30) (v := .bool (y2 != e2)) rfl (by kernel_rfl) (by kernel_rfl) (by kernel_rfl) (fun _ _ _ h => h) (Or.inl ⟨by kernel_rfl, ?_⟩) (by assumption) ?_
  · intro wq hSq; go_simp
  try simp only [Act.put]
  by_cases g3 : y2 = e2
  rotate_left
  · have hne3 : (y2 != e2) = true := by simp [g3]
    rw [hne3]
    have HO3 : Hid (oA = false) := by show _ = _; rw [HO2.out, decide_eq_false g3]; simp
    clear g3
    refine wpAnyH_take (i := 31) (v := .bool true) rfl (by kernel_rfl) (by kernel_rfl) (by kernel_rfl) (fun _ _ _ h => h) (Or.inl ⟨by kernel_rfl, ?_⟩) (by assumption) ?_
    · intro wq hSq; go_simp
    try simp only [Act.put]
    refine wpAnyH_done (by kernel_rfl) ?_ _
    refine NoPanic.normal ?_
    go_simp
    have HBx : Hid (Below w.heap.size w wd0) := HB_6.out.trans (HX0.out.mono HB_6.out.size)
    go_wp2
    go_ret
    exact ⟨ret_bool HO3.out.symm, HBx.out⟩
  have hne3 : (y2 != e2) = false := by simp [g3]
  have HG3 : Hid (y2 = e2) := g3
  rw [hne3]
  clear g3
  refine wpAnyH_take (i := 31) (v := .bool false) rfl (by kernel_rfl) (by kernel_rfl) (by kernel_rfl) (fun _ _ _ h => h) (Or.inl ⟨by kernel_rfl, ?_⟩) (by assumption) ?_
  · intro wq hSq; go_simp
  try simp only [Act.put]
  refine wpAnyH_done (by kernel_rfl) ?_ _
  refine NoPanic.normal ?_
  go_simp
  have HM_7 : Hid (Lies wd0 w.heap.size [.int .i64 a, .int .i64 b, .int .i64 c, .int .i64 d, .int .i64 f, .int .i64 k, .int .i64 a', .int .i64 b', .int .i64 c', .int .i64 d', .int .i64 f', .int .i64 k']) := HM_6.out.belowS HX0.out
  have HP_7 : Hid (Lies wd0 (w.heap.size + 1) [.int .i64 s1, .int .i64 s2, .int .i64 e1, .int .i64 e2, .slice a1 K c1, .slice a2 K c2, .slice a3 K c3, .slice a4 K c4]) := HP_6.out.belowS HX0.out
  have HB_7 : Hid (Below w.heap.size w wd0) := HB_6.out.trans (HX0.out.mono HB_6.out.size)
  have S1_7 : Hid (Sees wd0 a1 K c1 z1) := S1_6.out.below HX0.out
  have S2_7 : Hid (Sees wd0 a2 K c2 z2) := S2_6.out.below HX0.out
  have S3_7 : Hid (Sees wd0 a3 K c3 z3) := S3_6.out.below HX0.out
  have S4_7 : Hid (Sees wd0 a4 K c4 z4) := S4_6.out.below HX0.out
  have F1_7 : Hid (Sees wd0 fa1 fl1 fc1 F1) := F1_6.out.below HX0.out
  have F2_7 : Hid (Sees wd0 fa2 fl2 fc2 F2) := F2_6.out.below HX0.out
  clear HM_6 HP_6 HB_6 S1_6 S2_6 S3_6 S4_6 F1_6 F2_6
  have HO4 : Hid (oA = (QX K && QY K)) := by show _ = _; rw [HO2.out, decide_eq_true HG0.out, decide_eq_true HG1.out, decide_eq_true HG2.out, decide_eq_true HG3.out]; rfl
  clear HO2 HG0 HG1 HG2 HG3 CA11 CA12 CA21 CA22
  clear F1_7
  clear F2_7
  go_wp2_with fail
  refine (CPt _).mono ?_
  rintro e w7 ⟨ta, tc, rfl, ho, hb⟩
  have HM_8 : Hid (Lies w7 w.heap.size [.int .i64 a, .int .i64 b, .int .i64 c, .int .i64 d, .int .i64 f, .int .i64 k, .int .i64 a', .int .i64 b', .int .i64 c', .int .i64 d', .int .i64 f', .int .i64 k']) := HM_7.out.belowS hb
  have HP_8 : Hid (Lies w7 (w.heap.size + 1) [.int .i64 s1, .int .i64 s2, .int .i64 e1, .int .i64 e2, .slice a1 K c1, .slice a2 K c2, .slice a3 K c3, .slice a4 K c4]) := HP_7.out.belowS hb
  have HB_8 : Hid (Below w.heap.size w w7) := HB_7.out.trans (hb.mono HB_7.out.size)
  have S1_8 : Hid (Sees w7 a1 K c1 z1) := S1_7.out.below hb
  have S2_8 : Hid (Sees w7 a2 K c2 z2) := S2_7.out.below hb
  have S3_8 : Hid (Sees w7 a3 K c3 z3) := S3_7.out.below hb
  have S4_8 : Hid (Sees w7 a4 K c4 z4) := S4_7.out.below hb
  clear HM_7 HP_7 HB_7 S1_7 S2_7 S3_7 S4_7
  have TA_8 : Hid (Sees w7 ta K tc GP) := ho.sees
  clear hb
  clear ho CPt hne0 hne1 hne2 hne3
  go_wp2_with fail
  generalize w7 = w7 at HM_8 HP_8 HB_8 S1_8 S2_8 S3_8 S4_8 TA_8  ⊢
  go_loopw [12] (fun i wr => ∃ k : Nat, k ≤ K ∧ i = .int .i64 k ∧ Below w7.heap.size w7 wr ∧ QX k = true ∧ QY k = true) (fun i _ => K - (intOf i).toNat)
  case atStart => exact ⟨0, by omega, rfl, Below.refl _ _, HQX0.out, HQY0.out⟩
  case round =>
    obtain ⟨i, hi, rfl, hbk, hqx, hqy⟩ := hrel
    have HQX : Hid (QX i = true) := hqx
    have HQY : Hid (QY i = true) := hqy
    clear hqx hqy
    have HM_9 : Hid (Lies wr w.heap.size [.int .i64 a, .int .i64 b, .int .i64 c, .int .i64 d, .int .i64 f, .int .i64 k, .int .i64 a', .int .i64 b', .int .i64 c', .int .i64 d', .int .i64 f', .int .i64 k']) := HM_8.out.belowS hbk
    have HP_9 : Hid (Lies wr (w.heap.size + 1) [.int .i64 s1, .int .i64 s2, .int .i64 e1, .int .i64 e2, .slice a1 K c1, .slice a2 K c2, .slice a3 K c3, .slice a4 K c4]) := HP_8.out.belowS hbk
    have HB_9 : Hid (Below w.heap.size w wr) := HB_8.out.trans (hbk.mono HB_8.out.size)
    have S1_9 : Hid (Sees wr a1 K c1 z1) := S1_8.out.below hbk
    have S2_9 : Hid (Sees wr a2 K c2 z2) := S2_8.out.below hbk
    have S3_9 : Hid (Sees wr a3 K c3 z3) := S3_8.out.below hbk
    have S4_9 : Hid (Sees wr a4 K c4 z4) := S4_8.out.below hbk
    have TA_9 : Hid (Sees wr ta K tc GP) := TA_8.out.below hbk
    clear HM_8 HP_8 HB_8 S1_8 S2_8 S3_8 S4_8 TA_8
    have HBk : Hid (Below w7.heap.size w7 wr) := hbk
    clear hbk
    by_cases hlt : i < K
    rotate_left
    · have hik : i = K := by omega
      subst hik
      have hI : ¬ (i : Int) < (i : Int) := by omega
      go_wp2
      go_ret
      exact ⟨ret_bool (by rw [HO4.out, HQX.out, HQY.out]; rfl), HB_9.out⟩
    obtain ⟨j, hj⟩ : ∃ j : Nat, j = (i + 4) % K := ⟨_, rfl⟩
    have hjK : j < K := by rw [hj]; exact Nat.mod_lt _ hK0
    have hjm : ((i : Int) + 4).tmod (K : Int) = (j : Int) := by rw [hj, Int.tmod_eq_emod_of_nonneg (by omega)]; simp
    have hiw : IntKind.i64.wrap ((i : Int) + 4) = (i : Int) + 4 := by rw [IntKind.wrap_i64]; omega
    have hI : (i : Int) < (K : Int) := by omega
    have hi0 : (0 : Int) ≤ (i : Int) := by omega
    have hj0 : (0 : Int) ≤ (j : Int) := by omega
    have hJ : (j : Int) < (K : Int) := by omega
    have hKn : ¬ (K : Int) = 0 := by omega
    have HJ : Hid (j = (i + 4) % K) := hj
    clear hj
    obtain ⟨tb, to, rfl, hct⟩ := TA_9.out.at (by omega)
    have rt := hct i hlt
    rw [HGP.out i hlt] at rt
    clear hct
    have D1 := CPo.out i
    have D2 := CS1.out i
    have D3 := CS2.out i
    have D4 := CQX.out i
    have D5 := CAX.out i
    have D6 := CBX.out i
    have D7 := CCX.out i
    have D8 := CQY.out i
    have D9 := CAY.out i
    have D10 := CBY.out i
    have D11 := CCY.out i
    have E1 := HXS.out i
    have E2 := HYS.out i
    have E3 := HXN.out i hlt
    have E4 := HYN.out i hlt
    rw [← HJ.out] at D6 D7 D10 D11
    obtain ⟨b1, o1, rfl, hc1⟩ := S1_9.out.at (by omega)
    have v1 := hc1 i hlt
    have u1 := hc1 j hjK
    clear hc1
    obtain ⟨b2, o2, rfl, hc2⟩ := S2_9.out.at (by omega)
    have v2 := hc2 i hlt
    have u2 := hc2 j hjK
    clear hc2
    obtain ⟨b3, o3, rfl, hc3⟩ := S3_9.out.at (by omega)
    have v3 := hc3 i hlt
    have u3 := hc3 j hjK
    clear hc3
    obtain ⟨b4, o4, rfl, hc4⟩ := S4_9.out.at (by omega)
    have v4 := hc4 i hlt
    have u4 := hc4 j hjK
    clear hc4
    clear u3 u4
    generalize (ZP i + 65537 - la) % 65537 = en at D3 D7 D11
    generalize M.pw (ZP i) N = pz at D1 D2
    generalize ZP i = zi at rt D1 D3
    generalize z3.getD i 0 * ZE i % 65537 = q3 at D4 E1 E3
    generalize z4.getD i 0 * ZE i % 65537 = q4 at D8 E2 E4
    generalize ZE i = ze at D2 D4 D8
    generalize (z1.getD j 0 + 65537 - AX i) % 65537 = sx at D6 D7
    generalize (z2.getD j 0 + 65537 - AY i) % 65537 = sy at D10 D11
    generalize AX i = ax at D5 D6
    generalize AY i = ay at D9 D10
    generalize MX i = mx at D7 E1 E3
    generalize MY i = my at D11 E2 E4
    generalize z1.getD j 0 = xj at u1 D6
    generalize z2.getD j 0 = yj at u2 D10
    generalize z1.getD i 0 = xi at v1 D5 D9
    generalize z2.getD i 0 = yi at v2 D5 D9
    generalize z3.getD i 0 = qi at v3 D4
    generalize z4.getD i 0 = ri at v4 D8
    have V1 : Hid _ := v1
    clear v1
    have V2 : Hid _ := v2
    clear v2
    have V3 : Hid _ := v3
    clear v3
    have V4 : Hid _ := v4
    clear v4
    have U1 : Hid _ := u1
    clear u1
    have U2 : Hid _ := u2
    clear u2
    have G1 : Hid _ := E1
    clear E1
    have G2 : Hid _ := E2
    clear E2
    have G3 : Hid _ := E3
    clear E3
    have G4 : Hid _ := E4
    clear E4
    clear CPo CS1 CS2 CQX CAX CBX CCX CQY CAY CBY CCY HXS HYS HXN HYN HGP HQX0 HQY0
    go_wp2_with fail
    refine (D1 _).mono ?_
    rintro e wz ⟨rfl, hwz⟩
    have hwy := hwz.symm
    clear hwz
    subst hwy
    go_wp2_with fail
    refine (D2 _).mono ?_
    rintro e wz ⟨rfl, hwz⟩
    have hwy := hwz.symm
    clear hwz
    subst hwy
    go_wp2_with fail
    refine (D3 _).mono ?_
    rintro e wz ⟨rfl, hwz⟩
    have hwy := hwz.symm
    clear hwz
    subst hwy
    go_wp2_with fail
    clear HKe
    refine wp_region_noPanic ?_
    refine wp_region_held_drew (S := fun W => wr.grownBy W none) (by kernel_rfl) (grown_drew _ _) (fun hHeld => ?_)
    generalize wr.drew = wd0 at hHeld ⊢
    have HX0 : Hid (Below wr.heap.size wr wd0) := ⟨hHeld.os, hHeld.tape, hHeld.output, hHeld.size, fun k hk => hHeld.block k hk (by simp)⟩
    refine wpAnyH_take (i := 0) (v := .pointer (some ⟨w.heap.size + 1, 6, none⟩)) rfl (by kernel_rfl) (by kernel_rfl) (by kernel_rfl) (fun _ _ _ h => h) (Or.inl ⟨by kernel_rfl, ?_⟩) (by assumption) ?_
    · intro wq hSq; go_simp
    try simp only [Act.put]
    refine wpAnyH_take (i := 1) (v := .slice (some ⟨b3, o3, none⟩) K c3) rfl (by kernel_rfl) (by kernel_rfl) (by kernel_rfl) (fun _ _ _ h => h) (Or.inl ⟨by kernel_rfl, ?_⟩) (by assumption) ?_
    · intro wp hSp; have c0 : wp.cell? ⟨w.heap.size + 1, 6, none⟩ = some (.slice (some ⟨b3, o3, none⟩) K c3) := (HP_9.out.grown hSp (by simp)).at 6; go_simp
    try simp only [Act.put]
    refine wpAnyH_take (i := 2) (v := .int .i64 (i : Int)) rfl (by kernel_rfl) (by kernel_rfl) (by kernel_rfl) (fun _ _ _ h => h) (Or.inl ⟨by kernel_rfl, ?_⟩) (by assumption) ?_
    · intro wq hSq; go_simp
    try simp only [Act.put]
    refine wpAnyH_take (i := 3) (v := .pointer (some ⟨b3, o3 + i, none⟩)) rfl (by kernel_rfl) (by kernel_rfl) (by kernel_rfl) (fun _ _ _ h => h) (Or.inl ⟨by kernel_rfl, ?_⟩) (by assumption) ?_
    · intro wq hSq; go_simp
    try simp only [Act.put]
    refine wpAnyH_take (i := 4) (v := .int .i64 qi) rfl (by kernel_rfl) (by kernel_rfl) (by kernel_rfl) (fun _ _ _ h => h) (Or.inl ⟨by kernel_rfl, ?_⟩) (by assumption) ?_
    · intro wp hSp; have c0 : wp.cell? ⟨b3, o3 + i, none⟩ = some (.int .i64 qi) := hSp.cell V3.out (by simp); go_simp
    try simp only [Act.put]
    refine wpAnyH_take (i := 5) (v := .int .i64 ze) rfl (by kernel_rfl) (by kernel_rfl) (by kernel_rfl) (fun _ _ _ h => h) (Or.inl ⟨by kernel_rfl, ?_⟩) (by assumption) ?_
    · intro wq hSq; go_simp
    try simp only [Act.put]
    refine wpAnyH_take (i := 7) (v := .pointer (some ⟨w.heap.size + 1, 4, none⟩)) rfl (by kernel_rfl) (by kernel_rfl) (by kernel_rfl) (fun _ _ _ h => h) (Or.inl ⟨by kernel_rfl, ?_⟩) (by assumption) ?_
    · intro wq hSq; go_simp
    try simp only [Act.put]
    refine wpAnyH_take (i := 8) (v := .slice (some ⟨b1, o1, none⟩) K c1) rfl (by kernel_rfl) (by kernel_rfl) (by kernel_rfl) (fun _ _ _ h => h) (Or.inl ⟨by kernel_rfl, ?_⟩) (by assumption) ?_
    · intro wp hSp; have c0 : wp.cell? ⟨w.heap.size + 1, 4, none⟩ = some (.slice (some ⟨b1, o1, none⟩) K c1) := (HP_9.out.grown hSp (by simp)).at 4; go_simp
    try simp only [Act.put]
    refine wpAnyH_take (i := 9) (v := .int .i64 (j : Int)) rfl (by kernel_rfl) (by kernel_rfl) (by kernel_rfl) (fun _ _ _ h => h) (Or.inl ⟨by kernel_rfl, ?_⟩) (by assumption) ?_
    · intro wq hSq; go_simp
    try simp only [Act.put]
    refine wpAnyH_take (i := 10) (v := .pointer (some ⟨b1, o1 + j, none⟩)) rfl (by kernel_rfl) (by kernel_rfl) (by kernel_rfl) (fun _ _ _ h => h) (Or.inl ⟨by kernel_rfl, ?_⟩) (by assumption) ?_
    · intro wq hSq; go_simp
    try simp only [Act.put]
    refine wpAnyH_take (i := 11) (v := .int .i64 xj) rfl (by kernel_rfl) (by kernel_rfl) (by kernel_rfl) (fun _ _ _ h => h) (Or.inl ⟨by kernel_rfl, ?_⟩) (by assumption) ?_
    · intro wp hSp; have c0 : wp.cell? ⟨b1, o1 + j, none⟩ = some (.int .i64 xj) := hSp.cell U1.out (by simp); go_simp
    try simp only [Act.put]
    refine wpAnyH_take (i := 12) (v := .pointer (some ⟨w.heap.size, 0, none⟩)) rfl (by kernel_rfl) (by kernel_rfl) (by kernel_rfl) (fun _ _ _ h => h) (Or.inl ⟨by kernel_rfl, ?_⟩) (by assumption) ?_
    · intro wq hSq; go_simp
    try simp only [Act.put]
    refine wpAnyH_take (i := 13) (v := .agg #[.int .i64 a, .int .i64 b, .int .i64 c, .int .i64 d, .int .i64 f, .int .i64 k]) rfl (by kernel_rfl) (by kernel_rfl) (by kernel_rfl) (fun _ _ _ h => h) (Or.inl ⟨by kernel_rfl, ?_⟩) (by assumption) ?_
    · intro wp hSp; have c0 : wp.cell? ⟨w.heap.size, 0, none⟩ = some (.int .i64 a) := (HM_9.out.grown hSp (by simp)).at 0; have c1 : wp.cell? ⟨w.heap.size, 1, none⟩ = some (.int .i64 b) := (HM_9.out.grown hSp (by simp)).at 1; have c2 : wp.cell? ⟨w.heap.size, 2, none⟩ = some (.int .i64 c) := (HM_9.out.grown hSp (by simp)).at 2; have c3 : wp.cell? ⟨w.heap.size, 3, none⟩ = some (.int .i64 d) := (HM_9.out.grown hSp (by simp)).at 3; have c4 : wp.cell? ⟨w.heap.size, 4, none⟩ = some (.int .i64 f) := (HM_9.out.grown hSp (by simp)).at 4; have c5 : wp.cell? ⟨w.heap.size, 5, none⟩ = some (.int .i64 k) := (HM_9.out.grown hSp (by simp)).at 5; go_simp
    try simp only [Act.put]
    refine wpAnyH_take (i := 14) (v := .pointer (some ⟨w.heap.size + 1, 4, none⟩)) rfl (by kernel_rfl) (by kernel_rfl) (by kernel_rfl) (fun _ _ _ h => h) (Or.inl ⟨by kernel_rfl, ?_⟩) (by assumption) ?_
    · intro wq hSq; go_simp
    try simp only [Act.put]
    refine wpAnyH_take (i := 15) (v := .slice (some ⟨b1, o1, none⟩) K c1) rfl (by kernel_rfl) (by kernel_rfl) (by kernel_rfl) (fun _ _ _ h => h) (Or.inl ⟨by kernel_rfl, ?_⟩) (by assumption) ?_
    · intro wp hSp; have c0 : wp.cell? ⟨w.heap.size + 1, 4, none⟩ = some (.slice (some ⟨b1, o1, none⟩) K c1) := (HP_9.out.grown hSp (by simp)).at 4; go_simp
    try simp only [Act.put]
    refine wpAnyH_take (i := 16) (v := .int .i64 (i : Int)) rfl (by kernel_rfl) (by kernel_rfl) (by kernel_rfl) (fun _ _ _ h => h) (Or.inl ⟨by kernel_rfl, ?_⟩) (by assumption) ?_
    · intro wq hSq; go_simp
    try simp only [Act.put]
    refine wpAnyH_take (i := 17) (v := .pointer (some ⟨b1, o1 + i, none⟩)) rfl (by kernel_rfl) (by kernel_rfl) (by kernel_rfl) (fun _ _ _ h => h) (Or.inl ⟨by kernel_rfl, ?_⟩) (by assumption) ?_
    · intro wq hSq; go_simp
    try simp only [Act.put]
    refine wpAnyH_take (i := 18) (v := .int .i64 xi) rfl (by kernel_rfl) (by kernel_rfl) (by kernel_rfl) (fun _ _ _ h => h) (Or.inl ⟨by kernel_rfl, ?_⟩) (by assumption) ?_
    · intro wp hSp; have c0 : wp.cell? ⟨b1, o1 + i, none⟩ = some (.int .i64 xi) := hSp.cell V1.out (by simp); go_simp
    try simp only [Act.put]
    refine wpAnyH_take (i := 19) (v := .pointer (some ⟨w.heap.size + 1, 5, none⟩)) rfl (by kernel_rfl) (by kernel_rfl) (by kernel_rfl) (fun _ _ _ h => h) (Or.inl ⟨by kernel_rfl, ?_⟩) (by assumption) ?_
    · intro wq hSq; go_simp
    try simp only [Act.put]
    refine wpAnyH_take (i := 20) (v := .slice (some ⟨b2, o2, none⟩) K c2) rfl (by kernel_rfl) (by kernel_rfl) (by kernel_rfl) (fun _ _ _ h => h) (Or.inl ⟨by kernel_rfl, ?_⟩) (by assumption) ?_
    · intro wp hSp; have c0 : wp.cell? ⟨w.heap.size + 1, 5, none⟩ = some (.slice (some ⟨b2, o2, none⟩) K c2) := (HP_9.out.grown hSp (by simp)).at 5; go_simp
    try simp only [Act.put]
    refine wpAnyH_take (i := 21) (v := .int .i64 (i : Int)) rfl (by kernel_rfl) (by kernel_rfl) (by kernel_rfl) (fun _ _ _ h => h) (Or.inl ⟨by kernel_rfl, ?_⟩) (by assumption) ?_
    · intro wq hSq; go_simp
    try simp only [Act.put]
    refine wpAnyH_take (i := 22) (v := .pointer (some ⟨b2, o2 + i, none⟩)) rfl (by kernel_rfl) (by kernel_rfl) (by kernel_rfl) (fun _ _ _ h => h) (Or.inl ⟨by kernel_rfl, ?_⟩) (by assumption) ?_
    · intro wq hSq; go_simp
    try simp only [Act.put]
    refine wpAnyH_take (i := 23) (v := .int .i64 yi) rfl (by kernel_rfl) (by kernel_rfl) (by kernel_rfl) (fun _ _ _ h => h) (Or.inl ⟨by kernel_rfl, ?_⟩) (by assumption) ?_
    · intro wp hSp; have c0 : wp.cell? ⟨b2, o2 + i, none⟩ = some (.int .i64 yi) := hSp.cell V2.out (by simp); go_simp
    try simp only [Act.put]
    refine wpAnyH_take (i := 26) (v := .int .i64 en) rfl (by kernel_rfl) (by kernel_rfl) (by kernel_rfl) (fun _ _ _ h => h) (Or.inl ⟨by kernel_rfl, ?_⟩) (by assumption) ?_
    · intro wq hSq; go_simp
    try simp only [Act.put]
    refine wpAnyH_ready (rs := [6]) (by kernel_rfl) (by simp) ?_
    refine AllReadyH.cons rfl (fun Kk hK => ?_) AllReadyH.nil
    go_simp
    refine (D4 _).mono ?_
    rintro e wn ⟨rfl, hwn⟩; have hwm := hwn.symm; clear hwn; subst hwm
    go_simp
    refine hK.out _ _ (by assumption) (fun hHeld1 => ?_)
    clear hK Kk
    try simp only [Act.put]
    refine wpAnyH_ready (rs := [24]) (by kernel_rfl) (by simp) ?_
    refine AllReadyH.cons rfl (fun Kk hK => ?_) AllReadyH.nil
    go_simp
    refine (D5 _).mono ?_
    rintro e wd1 ⟨rfl, hb1⟩
    go_simp
    have hS1 : wr.grownBy wd1 none := grown_step hHeld hb1
    have HX1 : Hid (Below wr.heap.size wr wd1) := ⟨hS1.os, hS1.tape, hS1.output, hS1.size, fun k hk => hS1.block k hk (by simp)⟩
    refine hK.out _ _ hS1 (fun _ => ?_)
    clear hK Kk hb1
    try simp only [Act.put]
    refine wpAnyH_ready (rs := [25]) (by kernel_rfl) (by simp) ?_
    refine AllReadyH.cons rfl (fun Kk hK => ?_) AllReadyH.nil
    go_simp
    refine (D6 _).mono ?_
    rintro e wn ⟨rfl, hwn⟩; have hwm := hwn.symm; clear hwn; subst hwm
    go_simp
    refine hK.out _ _ (by assumption) (fun hHeld1 => ?_)
    clear hK Kk
    try simp only [Act.put]
    refine wpAnyH_ready (rs := [27]) (by kernel_rfl) (by simp) ?_
    refine AllReadyH.cons rfl (fun Kk hK => ?_) AllReadyH.nil
    go_simp
    refine (D7 _).mono ?_
    rintro e wn ⟨rfl, hwn⟩; have hwm := hwn.symm; clear hwn; subst hwm
    go_simp
    refine hK.out _ _ (by assumption) (fun hHeld1 => ?_)
    clear hK Kk
    try simp only [Act.put]
    refine wpAnyH_take (i := 28) (v := .bool (q3 != mx)) rfl (by kernel_rfl) (by kernel_rfl) (by kernel_rfl) (fun _ _ _ h => h) (Or.inl ⟨by kernel_rfl, ?_⟩) (by assumption) ?_
    · intro wq hSq; go_simp
    try simp only [Act.put]
    cases hda : (q3 == mx) with
    | false =>
      have hne : (q3 != mx) = true := by simp [bne, hda]
      rw [hne]
      have HO5 : Hid (oA = false) := by show _ = _; rw [HO4.out, G3.out hda]; simp
      clear hda
      refine wpAnyH_take (i := 29) (v := .bool true) rfl (by kernel_rfl) (by kernel_rfl) (by kernel_rfl) (fun _ _ _ h => h) (Or.inl ⟨by kernel_rfl, ?_⟩) (by assumption) ?_
      · intro wq hSq; go_simp
      try simp only [Act.put]
      refine wpAnyH_take (i := 30) (v := undef) rfl (by kernel_rfl) (by kernel_rfl) (by kernel_rfl) (fun _ _ _ h => h) (Or.inr ⟨by kernel_rfl, rfl⟩) (by assumption) ?_
      try simp only [Act.put]
      refine wpAnyH_take (i := 31) (v := undef) rfl (by kernel_rfl) (by kernel_rfl) (by kernel_rfl) (fun _ _ _ h => h) (Or.inr ⟨by kernel_rfl, rfl⟩) (by assumption) ?_
      try simp only [Act.put]
      refine wpAnyH_take (i := 32) (v := undef) rfl (by kernel_rfl) (by kernel_rfl) (by kernel_rfl) (fun _ _ _ h => h) (Or.inr ⟨by kernel_rfl, rfl⟩) (by assumption) ?_
      try simp only [Act.put]
      refine wpAnyH_take (i := 33) (v := undef) rfl (by kernel_rfl) (by kernel_rfl) (by kernel_rfl) (fun _ _ _ h => h) (Or.inr ⟨by kernel_rfl, rfl⟩) (by assumption) ?_
      try simp only [Act.put]
      refine wpAnyH_take (i := 34) (v := undef) rfl (by kernel_rfl) (by kernel_rfl) (by kernel_rfl) (fun _ _ _ h => h) (Or.inr ⟨by kernel_rfl, rfl⟩) (by assumption) ?_
      try simp only [Act.put]
      refine wpAnyH_take (i := 35) (v := undef) rfl (by kernel_rfl) (by kernel_rfl) (by kernel_rfl) (fun _ _ _ h => h) (Or.inr ⟨by kernel_rfl, rfl⟩) (by assumption) ?_
      try simp only [Act.put]
      refine wpAnyH_take (i := 36) (v := undef) rfl (by kernel_rfl) (by kernel_rfl) (by kernel_rfl) (fun _ _ _ h => h) (Or.inr ⟨by kernel_rfl, rfl⟩) (by assumption) ?_
      try simp only [Act.put]
      refine wpAnyH_take (i := 37) (v := undef) rfl (by kernel_rfl) (by kernel_rfl) (by kernel_rfl) (fun _ _ _ h => h) (Or.inr ⟨by kernel_rfl, rfl⟩) (by assumption) ?_
      try simp only [Act.put]
      refine wpAnyH_take (i := 38) (v := undef) rfl (by kernel_rfl) (by kernel_rfl) (by kernel_rfl) (fun _ _ _ h => h) (Or.inr ⟨by kernel_rfl, rfl⟩) (by assumption) ?_
      try simp only [Act.put]
      refine wpAnyH_take (i := 39) (v := undef) rfl (by kernel_rfl) (by kernel_rfl) (by kernel_rfl) (fun _ _ _ h => h) (Or.inr ⟨by kernel_rfl, rfl⟩) (by assumption) ?_
      try simp only [Act.put]
      refine wpAnyH_take (i := 40) (v := undef) rfl (by kernel_rfl) (by kernel_rfl) (by kernel_rfl) (fun _ _ _ h => h) (Or.inr ⟨by kernel_rfl, rfl⟩) (by assumption) ?_
      try simp only [Act.put]
      refine wpAnyH_take (i := 41) (v := undef) rfl (by kernel_rfl) (by kernel_rfl) (by kernel_rfl) (fun _ _ _ h => h) (Or.inr ⟨by kernel_rfl, rfl⟩) (by assumption) ?_
      try simp only [Act.put]
      refine wpAnyH_take (i := 42) (v := undef) rfl (by kernel_rfl) (by kernel_rfl) (by kernel_rfl) (fun _ _ _ h => h) (Or.inr ⟨by kernel_rfl, rfl⟩) (by assumption) ?_
      try simp only [Act.put]
      refine wpAnyH_take (i := 43) (v := undef) rfl (by kernel_rfl) (by kernel_rfl) (by kernel_rfl) (fun _ _ _ h => h) (Or.inr ⟨by kernel_rfl, rfl⟩) (by assumption) ?_
      try simp only [Act.put]
      refine wpAnyH_take (i := 44) (v := undef) rfl (by kernel_rfl) (by kernel_rfl) (by kernel_rfl) (fun _ _ _ h => h) (Or.inr ⟨by kernel_rfl, rfl⟩) (by assumption) ?_
      try simp only [Act.put]
      refine wpAnyH_take (i := 45) (v := undef) rfl (by kernel_rfl) (by kernel_rfl) (by kernel_rfl) (fun _ _ _ h => h) (Or.inr ⟨by kernel_rfl, rfl⟩) (by assumption) ?_
      try simp only [Act.put]
      refine wpAnyH_take (i := 46) (v := undef) rfl (by kernel_rfl) (by kernel_rfl) (by kernel_rfl) (fun _ _ _ h => h) (Or.inr ⟨by kernel_rfl, rfl⟩) (by assumption) ?_
      try simp only [Act.put]
      refine wpAnyH_take (i := 47) (v := undef) rfl (by kernel_rfl) (by kernel_rfl) (by kernel_rfl) (fun _ _ _ h => h) (Or.inr ⟨by kernel_rfl, rfl⟩) (by assumption) ?_
      try simp only [Act.put]
      refine wpAnyH_take (i := 48) (v := undef) rfl (by kernel_rfl) (by kernel_rfl) (by kernel_rfl) (fun _ _ _ h => h) (Or.inr ⟨by kernel_rfl, rfl⟩) (by assumption) ?_
      try simp only [Act.put]
      refine wpAnyH_take (i := 49) (v := undef) rfl (by kernel_rfl) (by kernel_rfl) (by kernel_rfl) (fun _ _ _ h => h) (Or.inr ⟨by kernel_rfl, rfl⟩) (by assumption) ?_
      try simp only [Act.put]
      refine wpAnyH_take (i := 50) (v := undef) rfl (by kernel_rfl) (by kernel_rfl) (by kernel_rfl) (fun _ _ _ h => h) (Or.inr ⟨by kernel_rfl, rfl⟩) (by assumption) ?_
      try simp only [Act.put]
      refine wpAnyH_take (i := 51) (v := undef) rfl (by kernel_rfl) (by kernel_rfl) (by kernel_rfl) (fun _ _ _ h => h) (Or.inr ⟨by kernel_rfl, rfl⟩) (by assumption) ?_
      try simp only [Act.put]
      refine wpAnyH_take (i := 52) (v := undef) rfl (by kernel_rfl) (by kernel_rfl) (by kernel_rfl) (fun _ _ _ h => h) (Or.inr ⟨by kernel_rfl, rfl⟩) (by assumption) ?_
      try simp only [Act.put]
      refine wpAnyH_take (i := 53) (v := undef) rfl (by kernel_rfl) (by kernel_rfl) (by kernel_rfl) (fun _ _ _ h => h) (Or.inr ⟨by kernel_rfl, rfl⟩) (by assumption) ?_
      try simp only [Act.put]
      refine wpAnyH_take (i := 54) (v := undef) rfl (by kernel_rfl) (by kernel_rfl) (by kernel_rfl) (fun _ _ _ h => h) (Or.inr ⟨by kernel_rfl, rfl⟩) (by assumption) ?_
      try simp only [Act.put]
      refine wpAnyH_take (i := 55) (v := undef) rfl (by kernel_rfl) (by kernel_rfl) (by kernel_rfl) (fun _ _ _ h => h) (Or.inr ⟨by kernel_rfl, rfl⟩) (by assumption) ?_
      try simp only [Act.put]
      refine wpAnyH_take (i := 56) (v := undef) rfl (by kernel_rfl) (by kernel_rfl) (by kernel_rfl) (fun _ _ _ h => h) (Or.inr ⟨by kernel_rfl, rfl⟩) (by assumption) ?_
      try simp only [Act.put]
      refine wpAnyH_take (i := 57) (v := undef) rfl (by kernel_rfl) (by kernel_rfl) (by kernel_rfl) (fun _ _ _ h => h) (Or.inr ⟨by kernel_rfl, rfl⟩) (by assumption) ?_
      try simp only [Act.put]
      refine wpAnyH_take (i := 58) (v := undef) rfl (by kernel_rfl) (by kernel_rfl) (by kernel_rfl) (fun _ _ _ h => h) (Or.inr ⟨by kernel_rfl, rfl⟩) (by assumption) ?_
      try simp only [Act.put]
      refine wpAnyH_take (i := 59) (v := .bool true) rfl (by kernel_rfl) (by kernel_rfl) (by kernel_rfl) (fun _ _ _ h => h) (Or.inl ⟨by kernel_rfl, ?_⟩) (by assumption) ?_
      · intro wq hSq; go_simp
      try simp only [Act.put]
      refine wpAnyH_done (by kernel_rfl) ?_ _
      refine NoPanic.normal ?_
      go_simp
      have HBx : Hid (Below w.heap.size w wd1) := HB_9.out.trans (HX1.out.mono HB_9.out.size)
      go_wp2
      go_ret
      exact ⟨ret_bool HO5.out.symm, HBx.out⟩
    | true =>
    have hnea : (q3 != mx) = false := by simp [bne, hda]
    rw [hnea]
    have HDa : Hid ((q3 == mx) = true) := hda
    clear hda
    refine wpAnyH_take (i := 29) (v := .bool false) rfl (by kernel_rfl) (by kernel_rfl) (by kernel_rfl) (fun _ _ _ h => h) (Or.inl ⟨by kernel_rfl, ?_⟩) (by assumption) ?_
    · intro wq hSq; go_simp
    try simp only [Act.put]
    refine wpAnyH_take (i := 30) (v := .pointer (some ⟨w.heap.size + 1, 7, none⟩)) rfl (by kernel_rfl) (by kernel_rfl) (by kernel_rfl) (fun _ _ _ h => h) (Or.inl ⟨by kernel_rfl, ?_⟩) (by assumption) ?_
    · intro wq hSq; go_simp
    try simp only [Act.put]
    refine wpAnyH_take (i := 31) (v := .slice (some ⟨b4, o4, none⟩) K c4) rfl (by kernel_rfl) (by kernel_rfl) (by kernel_rfl) (fun _ _ _ h => h) (Or.inl ⟨by kernel_rfl, ?_⟩) (by assumption) ?_
    · intro wp hSp; have c0 : wp.cell? ⟨w.heap.size + 1, 7, none⟩ = some (.slice (some ⟨b4, o4, none⟩) K c4) := (HP_9.out.grown hSp (by simp)).at 7; go_simp
    try simp only [Act.put]
    refine wpAnyH_take (i := 32) (v := .int .i64 (i : Int)) rfl (by kernel_rfl) (by kernel_rfl) (by kernel_rfl) (fun _ _ _ h => h) (Or.inl ⟨by kernel_rfl, ?_⟩) (by assumption) ?_
    · intro wq hSq; go_simp
    try simp only [Act.put]
    refine wpAnyH_take (i := 33) (v := .pointer (some ⟨b4, o4 + i, none⟩)) rfl (by kernel_rfl) (by kernel_rfl) (by kernel_rfl) (fun _ _ _ h => h) (Or.inl ⟨by kernel_rfl, ?_⟩) (by assumption) ?_
    · intro wq hSq; go_simp
    try simp only [Act.put]
    refine wpAnyH_take (i := 34) (v := .int .i64 ri) rfl (by kernel_rfl) (by kernel_rfl) (by kernel_rfl) (fun _ _ _ h => h) (Or.inl ⟨by kernel_rfl, ?_⟩) (by assumption) ?_
    · intro wp hSp; have c0 : wp.cell? ⟨b4, o4 + i, none⟩ = some (.int .i64 ri) := hSp.cell V4.out (by simp); go_simp
    try simp only [Act.put]
    refine wpAnyH_take (i := 35) (v := .int .i64 ze) rfl (by kernel_rfl) (by kernel_rfl) (by kernel_rfl) (fun _ _ _ h => h) (Or.inl ⟨by kernel_rfl, ?_⟩) (by assumption) ?_
    · intro wq hSq; go_simp
    try simp only [Act.put]
    refine wpAnyH_take (i := 37) (v := .pointer (some ⟨w.heap.size + 1, 5, none⟩)) rfl (by kernel_rfl) (by kernel_rfl) (by kernel_rfl) (fun _ _ _ h => h) (Or.inl ⟨by kernel_rfl, ?_⟩) (by assumption) ?_
    · intro wq hSq; go_simp
    try simp only [Act.put]
    refine wpAnyH_take (i := 38) (v := .slice (some ⟨b2, o2, none⟩) K c2) rfl (by kernel_rfl) (by kernel_rfl) (by kernel_rfl) (fun _ _ _ h => h) (Or.inl ⟨by kernel_rfl, ?_⟩) (by assumption) ?_
    · intro wp hSp; have c0 : wp.cell? ⟨w.heap.size + 1, 5, none⟩ = some (.slice (some ⟨b2, o2, none⟩) K c2) := (HP_9.out.grown hSp (by simp)).at 5; go_simp
    try simp only [Act.put]
    refine wpAnyH_take (i := 39) (v := .int .i64 (j : Int)) rfl (by kernel_rfl) (by kernel_rfl) (by kernel_rfl) (fun _ _ _ h => h) (Or.inl ⟨by kernel_rfl, ?_⟩) (by assumption) ?_
    · intro wq hSq; go_simp
    try simp only [Act.put]
    refine wpAnyH_take (i := 40) (v := .pointer (some ⟨b2, o2 + j, none⟩)) rfl (by kernel_rfl) (by kernel_rfl) (by kernel_rfl) (fun _ _ _ h => h) (Or.inl ⟨by kernel_rfl, ?_⟩) (by assumption) ?_
    · intro wq hSq; go_simp
    try simp only [Act.put]
    refine wpAnyH_take (i := 41) (v := .int .i64 yj) rfl (by kernel_rfl) (by kernel_rfl) (by kernel_rfl) (fun _ _ _ h => h) (Or.inl ⟨by kernel_rfl, ?_⟩) (by assumption) ?_
    · intro wp hSp; have c0 : wp.cell? ⟨b2, o2 + j, none⟩ = some (.int .i64 yj) := hSp.cell U2.out (by simp); go_simp
    try simp only [Act.put]
    refine wpAnyH_take (i := 42) (v := .pointer (some ⟨w.heap.size, 6, none⟩)) rfl (by kernel_rfl) (by kernel_rfl) (by kernel_rfl) (fun _ _ _ h => h) (Or.inl ⟨by kernel_rfl, ?_⟩) (by assumption) ?_
    · intro wq hSq; go_simp
    try simp only [Act.put]
    refine wpAnyH_take (i := 43) (v := .agg #[.int .i64 a', .int .i64 b', .int .i64 c', .int .i64 d', .int .i64 f', .int .i64 k']) rfl (by kernel_rfl) (by kernel_rfl) (by kernel_rfl) (fun _ _ _ h => h) (Or.inl ⟨by kernel_rfl, ?_⟩) (by assumption) ?_
    · intro wp hSp; have c0 : wp.cell? ⟨w.heap.size, 6, none⟩ = some (.int .i64 a') := (HM_9.out.grown hSp (by simp)).at 6; have c1 : wp.cell? ⟨w.heap.size, 7, none⟩ = some (.int .i64 b') := (HM_9.out.grown hSp (by simp)).at 7; have c2 : wp.cell? ⟨w.heap.size, 8, none⟩ = some (.int .i64 c') := (HM_9.out.grown hSp (by simp)).at 8; have c3 : wp.cell? ⟨w.heap.size, 9, none⟩ = some (.int .i64 d') := (HM_9.out.grown hSp (by simp)).at 9; have c4 : wp.cell? ⟨w.heap.size, 10, none⟩ = some (.int .i64 f') := (HM_9.out.grown hSp (by simp)).at 10; have c5 : wp.cell? ⟨w.heap.size, 11, none⟩ = some (.int .i64 k') := (HM_9.out.grown hSp (by simp)).at 11; go_simp
    try simp only [Act.put]
    refine wpAnyH_take (i := 44) (v := .pointer (some ⟨w.heap.size + 1, 4, none⟩)) rfl (by kernel_rfl) (by kernel_rfl) (by kernel_rfl) (fun _ _ _ h => h) (Or.inl ⟨by kernel_rfl, ?_⟩) (by assumption) ?_
    · intro wq hSq; go_simp
    try simp only [Act.put]
    refine wpAnyH_take (i := 45) (v := .slice (some ⟨b1, o1, none⟩) K c1) rfl (by kernel_rfl) (by kernel_rfl) (by kernel_rfl) (fun _ _ _ h => h) (Or.inl ⟨by kernel_rfl, ?_⟩) (by assumption) ?_
    · intro wp hSp; have c0 : wp.cell? ⟨w.heap.size + 1, 4, none⟩ = some (.slice (some ⟨b1, o1, none⟩) K c1) := (HP_9.out.grown hSp (by simp)).at 4; go_simp
    try simp only [Act.put]
    refine wpAnyH_take (i := 46) (v := .int .i64 (i : Int)) rfl (by kernel_rfl) (by kernel_rfl) (by kernel_rfl) (fun _ _ _ h => h) (Or.inl ⟨by kernel_rfl, ?_⟩) (by assumption) ?_
    · intro wq hSq; go_simp
    try simp only [Act.put]
    refine wpAnyH_take (i := 47) (v := .pointer (some ⟨b1, o1 + i, none⟩)) rfl (by kernel_rfl) (by kernel_rfl) (by kernel_rfl) (fun _ _ _ h => h) (Or.inl ⟨by kernel_rfl, ?_⟩) (by assumption) ?_
    · intro wq hSq; go_simp
    try simp only [Act.put]
    refine wpAnyH_take (i := 48) (v := .int .i64 xi) rfl (by kernel_rfl) (by kernel_rfl) (by kernel_rfl) (fun _ _ _ h => h) (Or.inl ⟨by kernel_rfl, ?_⟩) (by assumption) ?_
    · intro wp hSp; have c0 : wp.cell? ⟨b1, o1 + i, none⟩ = some (.int .i64 xi) := hSp.cell V1.out (by simp); go_simp
    try simp only [Act.put]
    refine wpAnyH_take (i := 49) (v := .pointer (some ⟨w.heap.size + 1, 5, none⟩)) rfl (by kernel_rfl) (by kernel_rfl) (by kernel_rfl) (fun _ _ _ h => h) (Or.inl ⟨by kernel_rfl, ?_⟩) (by assumption) ?_
    · intro wq hSq; go_simp
    try simp only [Act.put]
    refine wpAnyH_take (i := 50) (v := .slice (some ⟨b2, o2, none⟩) K c2) rfl (by kernel_rfl) (by kernel_rfl) (by kernel_rfl) (fun _ _ _ h => h) (Or.inl ⟨by kernel_rfl, ?_⟩) (by assumption) ?_
    · intro wp hSp; have c0 : wp.cell? ⟨w.heap.size + 1, 5, none⟩ = some (.slice (some ⟨b2, o2, none⟩) K c2) := (HP_9.out.grown hSp (by simp)).at 5; go_simp
    try simp only [Act.put]
    refine wpAnyH_take (i := 51) (v := .int .i64 (i : Int)) rfl (by kernel_rfl) (by kernel_rfl) (by kernel_rfl) (fun _ _ _ h => h) (Or.inl ⟨by kernel_rfl, ?_⟩) (by assumption) ?_
    · intro wq hSq; go_simp
    try simp only [Act.put]
    refine wpAnyH_take (i := 52) (v := .pointer (some ⟨b2, o2 + i, none⟩)) rfl (by kernel_rfl) (by kernel_rfl) (by kernel_rfl) (fun _ _ _ h => h) (Or.inl ⟨by kernel_rfl, ?_⟩) (by assumption) ?_
    · intro wq hSq; go_simp
    try simp only [Act.put]
    refine wpAnyH_take (i := 53) (v := .int .i64 yi) rfl (by kernel_rfl) (by kernel_rfl) (by kernel_rfl) (fun _ _ _ h => h) (Or.inl ⟨by kernel_rfl, ?_⟩) (by assumption) ?_
    · intro wp hSp; have c0 : wp.cell? ⟨b2, o2 + i, none⟩ = some (.int .i64 yi) := hSp.cell V2.out (by simp); go_simp
    try simp only [Act.put]
    refine wpAnyH_take (i := 56) (v := .int .i64 en) rfl (by kernel_rfl) (by kernel_rfl) (by kernel_rfl) (fun _ _ _ h => h) (Or.inl ⟨by kernel_rfl, ?_⟩) (by assumption) ?_
    · intro wq hSq; go_simp
    try simp only [Act.put]
    refine wpAnyH_ready (rs := [36]) (by kernel_rfl) (by simp) ?_
    refine AllReadyH.cons rfl (fun Kk hK => ?_) AllReadyH.nil
    go_simp
    refine (D8 _).mono ?_
    rintro e wn ⟨rfl, hwn⟩; have hwm := hwn.symm; clear hwn; subst hwm
    go_simp
    refine hK.out _ _ (by assumption) (fun hHeld1 => ?_)
    clear hK Kk
    try simp only [Act.put]
    refine wpAnyH_ready (rs := [54]) (by kernel_rfl) (by simp) ?_
    refine AllReadyH.cons rfl (fun Kk hK => ?_) AllReadyH.nil
    go_simp
    refine (D9 _).mono ?_
    rintro e wd2 ⟨rfl, hb2⟩
    go_simp
    have hS2 : wr.grownBy wd2 none := grown_step hS1 hb2
    have HX2 : Hid (Below wr.heap.size wr wd2) := ⟨hS2.os, hS2.tape, hS2.output, hS2.size, fun k hk => hS2.block k hk (by simp)⟩
    refine hK.out _ _ hS2 (fun _ => ?_)
    clear hK Kk hb2
    try simp only [Act.put]
    refine wpAnyH_ready (rs := [55]) (by kernel_rfl) (by simp) ?_
    refine AllReadyH.cons rfl (fun Kk hK => ?_) AllReadyH.nil
    go_simp
    refine (D10 _).mono ?_
    rintro e wn ⟨rfl, hwn⟩; have hwm := hwn.symm; clear hwn; subst hwm
    go_simp
    refine hK.out _ _ (by assumption) (fun hHeld1 => ?_)
    clear hK Kk
    try simp only [Act.put]
    refine wpAnyH_ready (rs := [57]) (by kernel_rfl) (by simp) ?_
    refine AllReadyH.cons rfl (fun Kk hK => ?_) AllReadyH.nil
    go_simp
    refine (D11 _).mono ?_
    rintro e wn ⟨rfl, hwn⟩; have hwm := hwn.symm; clear hwn; subst hwm
    go_simp
    refine hK.out _ _ (by assumption) (fun hHeld1 => ?_)
    clear hK Kk
    try simp only [Act.put]
    refine wpAnyH_take (i := 58) (v := .bool (q4 != my)) rfl (by kernel_rfl) (by kernel_rfl) (by kernel_rfl) (fun _ _ _ h => h) (Or.inl ⟨by kernel_rfl, ?_⟩) (by assumption) ?_
    · intro wq hSq; go_simp
    try simp only [Act.put]
    cases hdb : (q4 == my) with
    | false =>
      have hne : (q4 != my) = true := by simp [bne, hdb]
      rw [hne]
      have HO5 : Hid (oA = false) := by show _ = _; rw [HO4.out, G4.out hdb]; simp
      clear hdb
      refine wpAnyH_take (i := 59) (v := .bool true) rfl (by kernel_rfl) (by kernel_rfl) (by kernel_rfl) (fun _ _ _ h => h) (Or.inl ⟨by kernel_rfl, ?_⟩) (by assumption) ?_
      · intro wq hSq; go_simp
      try simp only [Act.put]
      refine wpAnyH_done (by kernel_rfl) ?_ _
      refine NoPanic.normal ?_
      go_simp
      have HBx : Hid (Below w.heap.size w wd2) := HB_9.out.trans (HX2.out.mono HB_9.out.size)
      go_wp2
      go_ret
      exact ⟨ret_bool HO5.out.symm, HBx.out⟩
    | true =>
    have hneb : (q4 != my) = false := by simp [bne, hdb]
    rw [hneb]
    have HDb : Hid ((q4 == my) = true) := hdb
    clear hdb
    refine wpAnyH_take (i := 59) (v := .bool false) rfl (by kernel_rfl) (by kernel_rfl) (by kernel_rfl) (fun _ _ _ h => h) (Or.inl ⟨by kernel_rfl, ?_⟩) (by assumption) ?_
    · intro wq hSq; go_simp
    try simp only [Act.put]
    refine wpAnyH_done (by kernel_rfl) ?_ _
    refine NoPanic.normal ?_
    go_simp
    have HBx : Hid (Below w7.heap.size w7 wd2) := HBk.out.trans (HX2.out.mono HBk.out.size)
    have HN1 : Hid (QX (i + 1) = true) := G1.out HQX.out HDa.out
    have HN2 : Hid (QY (i + 1) = true) := G2.out HQY.out HDb.out
    go_wp2
    go_roundw
    case rel => exact ⟨i + 1, by omega, by go_num, HBx.out, HN1.out, HN2.out⟩
    case measure => simp [intOf]; omega
end Go.Proofs.YtbcfjbkmkknmfaaGreatDoor
namespace Go.Proofs.YtbcfjbkmkknmfaaGreatDoor
open Go.RowKit

theorem specAccepted_any {a1 a2 a3 a4 : Option Addr} {n1 n2 n3 n4 c1 c2 c3 c4 : Nat} {z1 z2 z3 z4 : List Int} (m : M.Mc) (s1 s2 e1 e2 : Int) (w : World) (h1 : Sees w a1 n1 c1 z1) (h2 : Sees w a2 n2 c2 z2) (h3 : Sees w a3 n3 c3 z3) (h4 : Sees w a4 n4 c4 z4) (l1 : n1 ≤ 1048576) (l2 : n2 ≤ 1048576) (l3 : n3 ≤ 1048576) (l4 : n4 ≤ 1048576) :
    Calls Tryz.prog 16 #[mcv m, .agg #[.int .i64 s1, .int .i64 s2, .int .i64 e1, .int .i64 e2, .slice a1 n1 c1, .slice a2 n2 c2, .slice a3 n3 c3, .slice a4 n4 c4]] w fun e w' => e = .returned (.bool (M.acc m (⟨(s1, s2), (e1, e2), z1, z2, z3, z4⟩ : M.Pf))) ∧ Below w.heap.size w w' := by
  cases hm : m.ok with
  | false => rw [M.acc_m hm]; exact specAccepted_out m s1 s2 e1 e2 w h1 h2 h3 h4 l1 l2 l3 l4 (.inl hm)
  | true =>
    by_cases hr : (⟨(s1, s2), (e1, e2), z1, z2, z3, z4⟩ : M.Pf).rows = 0
    · rw [M.acc_r hr]; exact specAccepted_out m s1 s2 e1 e2 w h1 h2 h3 h4 l1 l2 l3 l4 (.inr ⟨hm, hr⟩)
    · rw [M.acc_in hm hr]
      obtain ⟨hN, hf⟩ := M.rows_some hr
      generalize hR : (⟨(s1, s2), (e1, e2), z1, z2, z3, z4⟩ : M.Pf).rows = R at hN hf ⊢
      obtain ⟨⟨q1, r1⟩, ⟨q2, r2⟩, ⟨q3, r3⟩, ⟨q4, r4⟩, _, _⟩ := (M.form_iff _ _).1 hf
      dsimp only at q1 q2 q3 q4 r1 r2 r3 r4
      have u1 := h1.len.symm.trans q1
      have u2 := h2.len.symm.trans q2
      have u3 := h3.len.symm.trans q3
      have u4 := h4.len.symm.trans q4
      subst u1 u2 u3 u4
      exact specAccepted_in m s1 s2 e1 e2 R w hN hm hR h1 h2 h3 h4 r1 r2 r3 r4
end Go.Proofs.YtbcfjbkmkknmfaaGreatDoor
namespace Go.Proofs.YtbcfjbkmkknmfaaGreatDoor
open Go.RowKit

end Go.Proofs.YtbcfjbkmkknmfaaGreatDoor
