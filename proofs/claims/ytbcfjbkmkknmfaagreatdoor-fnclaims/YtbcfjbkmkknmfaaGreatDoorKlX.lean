/- What a proof claims, in the program and in the model. FnClaims: the walk. -/
import Derived.Test.YtbcfjbkmkknmfaaGreatDoorErF
import Derived.Test.YtbcfjbkmkknmfaaGreatDoorErG
import Derived.Test.YtbcfjbkmkknmfaaGreatDoorKlZ
import Derived.Test.YtbcfjbkmkknmfaaGreatDoorClH
namespace Go.Proofs.YtbcfjbkmkknmfaaGreatDoor
open Go.RowKit

theorem M.rows_le (p : M.Pf) : p.rows ≤ 16 := by
  by_cases h : p.rows = 0
  · omega
  · obtain ⟨h1, _⟩ := M.rows_some h
    rcases M.rowsN_cases h1 with e | e | e | e <;> omega
def M.claimV (R : Nat) (s1 s2 e1 e2 : Int) : List Value := if R = 0 then [.int .i64 0, .int .i64 0, .int .i64 0, .int .i64 0, .int .i64 0] else [.int .i64 s1, .int .i64 s2, .int .i64 e1, .int .i64 e2, .int .i64 ((R : Int) - 1)]
def M.claimB (R : Nat) : Bool := if R = 0 then false else true
set_option maxHeartbeats 4000000 in
theorem implClaimOf_any {a1 a2 a3 a4 : Option Addr} {n1 n2 n3 n4 c1 c2 c3 c4 : Nat} {z1 z2 z3 z4 : List Int} {aL aN : Addr} (s1 s2 e1 e2 : Int) (w : World) (he : Env w aL aN) (h1 : Sees w a1 n1 c1 z1) (h2 : Sees w a2 n2 c2 z2) (h3 : Sees w a3 n3 c3 z3) (h4 : Sees w a4 n4 c4 z4) :
    Calls Tryz.prog 19 #[.agg #[.int .i64 s1, .int .i64 s2, .int .i64 e1, .int .i64 e2, .slice a1 n1 c1, .slice a2 n2 c2, .slice a3 n3 c3, .slice a4 n4 c4]] w fun e w' => e = .returned (.tuple #[.agg (M.claimV (⟨(s1, s2), (e1, e2), z1, z2, z3, z4⟩ : M.Pf).rows s1 s2 e1 e2).toArray, .bool (M.claimB (⟨(s1, s2), (e1, e2), z1, z2, z3, z4⟩ : M.Pf).rows)]) ∧ Below w.heap.size w w' := by
  have HA0 : Hid (Lies ((w.alloc (.cells #[.int .i64 s1, .int .i64 s2, .int .i64 e1, .int .i64 e2, .slice a1 n1 c1, .slice a2 n2 c2, .slice a3 n3 c3, .slice a4 n4 c4] 34)).alloc (.cells #[.int .i64 0, .int .i64 0, .int .i64 0, .int .i64 0, .int .i64 0] 46)) w.heap.size [.int .i64 s1, .int .i64 s2, .int .i64 e1, .int .i64 e2, .slice a1 n1 c1, .slice a2 n2 c2, .slice a3 n3 c3, .slice a4 n4 c4]) := (lies_new _ _ _).alloc _
  have HZ0 : Hid (Lies ((w.alloc (.cells #[.int .i64 s1, .int .i64 s2, .int .i64 e1, .int .i64 e2, .slice a1 n1 c1, .slice a2 n2 c2, .slice a3 n3 c3, .slice a4 n4 c4] 34)).alloc (.cells #[.int .i64 0, .int .i64 0, .int .i64 0, .int .i64 0, .int .i64 0] 46)) (w.heap.size + 1) [.int .i64 0, .int .i64 0, .int .i64 0, .int .i64 0, .int .i64 0]) := lies_new2 _ _ _ _
  have HB0 : Hid (Below w.heap.size w ((w.alloc (.cells #[.int .i64 s1, .int .i64 s2, .int .i64 e1, .int .i64 e2, .slice a1 n1 c1, .slice a2 n2 c2, .slice a3 n3 c3, .slice a4 n4 c4] 34)).alloc (.cells #[.int .i64 0, .int .i64 0, .int .i64 0, .int .i64 0, .int .i64 0] 46))) := ((Below.refl _ _).alloc (Nat.le_refl _) _).alloc (by simp) _
  have hR : (⟨(s1, s2), (e1, e2), z1, z2, z3, z4⟩ : M.Pf).rows ≤ 16 := M.rows_le _
  have CR := implRowsOf_any s1 s2 e1 e2 ((w.alloc (.cells #[.int .i64 s1, .int .i64 s2, .int .i64 e1, .int .i64 e2, .slice a1 n1 c1, .slice a2 n2 c2, .slice a3 n3 c3, .slice a4 n4 c4] 34)).alloc (.cells #[.int .i64 0, .int .i64 0, .int .i64 0, .int .i64 0, .int .i64 0] 46)) (he.below HB0.out) (h1.below HB0.out) (h2.below HB0.out) (h3.below HB0.out) (h4.below HB0.out)
  generalize (⟨(s1, s2), (e1, e2), z1, z2, z3, z4⟩ : M.Pf).rows = R at hR CR ⊢
  clear h1 h2 h3 h4 he
  go_enter Tryz.func19, Tryz.ntmps19
  go_wp2_with fail
  refine CR.mono ?_
  rintro e wr ⟨rfl, hb⟩
  have HA : Hid (Lies wr w.heap.size [.int .i64 s1, .int .i64 s2, .int .i64 e1, .int .i64 e2, .slice a1 n1 c1, .slice a2 n2 c2, .slice a3 n3 c3, .slice a4 n4 c4]) := HA0.out.belowS hb
  have HZ : Hid (Lies wr (w.heap.size + 1) [.int .i64 0, .int .i64 0, .int .i64 0, .int .i64 0, .int .i64 0]) := HZ0.out.belowS hb
  have HB : Hid (Below w.heap.size w wr) := HB0.out.trans (hb.mono HB0.out.size)
  clear hb HA0 HZ0 HB0 CR
  have x0 : wr.cell? ⟨w.heap.size, 0, none⟩ = some (.int .i64 s1) := HA.out.at 0
  have x1 : wr.cell? ⟨w.heap.size, 1, none⟩ = some (.int .i64 s2) := HA.out.at 1
  have x2 : wr.cell? ⟨w.heap.size, 2, none⟩ = some (.int .i64 e1) := HA.out.at 2
  have x3 : wr.cell? ⟨w.heap.size, 3, none⟩ = some (.int .i64 e2) := HA.out.at 3
  have y0 : wr.cell? ⟨w.heap.size + 1, 0, none⟩ = some (.int .i64 0) := HZ.out.at 0
  have f0 : wr.frozen? ⟨w.heap.size + 1, 0, none⟩ = false := HZ.out.fr 0
  have y1 : wr.cell? ⟨w.heap.size + 1, 1, none⟩ = some (.int .i64 0) := HZ.out.at 1
  have f1 : wr.frozen? ⟨w.heap.size + 1, 1, none⟩ = false := HZ.out.fr 1
  have y2 : wr.cell? ⟨w.heap.size + 1, 2, none⟩ = some (.int .i64 0) := HZ.out.at 2
  have f2 : wr.frozen? ⟨w.heap.size + 1, 2, none⟩ = false := HZ.out.fr 2
  have y3 : wr.cell? ⟨w.heap.size + 1, 3, none⟩ = some (.int .i64 0) := HZ.out.at 3
  have f3 : wr.frozen? ⟨w.heap.size + 1, 3, none⟩ = false := HZ.out.fr 3
  have y4 : wr.cell? ⟨w.heap.size + 1, 4, none⟩ = some (.int .i64 0) := HZ.out.at 4
  have f4 : wr.frozen? ⟨w.heap.size + 1, 4, none⟩ = false := HZ.out.fr 4
  by_cases h0 : R = 0
  · subst h0
    have g0 : (((0 : Nat) : Int) == 0) = true := by simp
    go_wp2
    refine bodyPost_ret (v := .tuple #[.agg #[.int .i64 0, .int .i64 0, .int .i64 0, .int .i64 0, .int .i64 0], .bool false]) (by simp [results, Tryz.results19, go_sem, y0, y1, y2, y3, y4]) rfl ⟨by simp [M.claimV, M.claimB], ?_⟩
    exact (((((HB.out.setCell (by show w.heap.size ≤ w.heap.size + 1; omega) _).setCell (by show w.heap.size ≤ w.heap.size + 1; omega) _).setCell (by show w.heap.size ≤ w.heap.size + 1; omega) _).setCell (by show w.heap.size ≤ w.heap.size + 1; omega) _).setCell (by show w.heap.size ≤ w.heap.size + 1; omega) _)
  · have g0 : ((R : Int) == 0) = false := by simp; omega
    go_wp2
    refine bodyPost_ret (v := .tuple #[.agg #[.int .i64 s1, .int .i64 s2, .int .i64 e1, .int .i64 e2, .int .i64 ((R : Int) - 1)], .bool true]) (by simp [results, Tryz.results19, go_sem, y0, y1, y2, y3, y4]) rfl ⟨by simp [M.claimV, M.claimB, h0], ?_⟩
    exact (((((HB.out.setCell (by show w.heap.size ≤ w.heap.size + 1; omega) _).setCell (by show w.heap.size ≤ w.heap.size + 1; omega) _).setCell (by show w.heap.size ≤ w.heap.size + 1; omega) _).setCell (by show w.heap.size ≤ w.heap.size + 1; omega) _).setCell (by show w.heap.size ≤ w.heap.size + 1; omega) _)
set_option maxHeartbeats 4000000 in
theorem specClaimOf_any {a1 a2 a3 a4 : Option Addr} {n1 n2 n3 n4 c1 c2 c3 c4 : Nat} {z1 z2 z3 z4 : List Int} (s1 s2 e1 e2 : Int) (w : World) (h1 : Sees w a1 n1 c1 z1) (h2 : Sees w a2 n2 c2 z2) (h3 : Sees w a3 n3 c3 z3) (h4 : Sees w a4 n4 c4 z4) (l1 : n1 ≤ 1048576) (l2 : n2 ≤ 1048576) (l3 : n3 ≤ 1048576) (l4 : n4 ≤ 1048576) :
    Calls Tryz.prog 20 #[.agg #[.int .i64 s1, .int .i64 s2, .int .i64 e1, .int .i64 e2, .slice a1 n1 c1, .slice a2 n2 c2, .slice a3 n3 c3, .slice a4 n4 c4]] w fun e w' => e = .returned (.tuple #[.agg (M.claimV (⟨(s1, s2), (e1, e2), z1, z2, z3, z4⟩ : M.Pf).rows s1 s2 e1 e2).toArray, .bool (M.claimB (⟨(s1, s2), (e1, e2), z1, z2, z3, z4⟩ : M.Pf).rows)]) ∧ Below w.heap.size w w' := by
  have HA0 : Hid (Lies ((w.alloc (.cells #[.int .i64 s1, .int .i64 s2, .int .i64 e1, .int .i64 e2, .slice a1 n1 c1, .slice a2 n2 c2, .slice a3 n3 c3, .slice a4 n4 c4] 34)).alloc (.cells #[.int .i64 0, .int .i64 0, .int .i64 0, .int .i64 0, .int .i64 0] 46)) w.heap.size [.int .i64 s1, .int .i64 s2, .int .i64 e1, .int .i64 e2, .slice a1 n1 c1, .slice a2 n2 c2, .slice a3 n3 c3, .slice a4 n4 c4]) := (lies_new _ _ _).alloc _
  have HZ0 : Hid (Lies ((w.alloc (.cells #[.int .i64 s1, .int .i64 s2, .int .i64 e1, .int .i64 e2, .slice a1 n1 c1, .slice a2 n2 c2, .slice a3 n3 c3, .slice a4 n4 c4] 34)).alloc (.cells #[.int .i64 0, .int .i64 0, .int .i64 0, .int .i64 0, .int .i64 0] 46)) (w.heap.size + 1) [.int .i64 0, .int .i64 0, .int .i64 0, .int .i64 0, .int .i64 0]) := lies_new2 _ _ _ _
  have HB0 : Hid (Below w.heap.size w ((w.alloc (.cells #[.int .i64 s1, .int .i64 s2, .int .i64 e1, .int .i64 e2, .slice a1 n1 c1, .slice a2 n2 c2, .slice a3 n3 c3, .slice a4 n4 c4] 34)).alloc (.cells #[.int .i64 0, .int .i64 0, .int .i64 0, .int .i64 0, .int .i64 0] 46))) := ((Below.refl _ _).alloc (Nat.le_refl _) _).alloc (by simp) _
  have hR : (⟨(s1, s2), (e1, e2), z1, z2, z3, z4⟩ : M.Pf).rows ≤ 16 := M.rows_le _
  have CR := specRowsOf_any s1 s2 e1 e2 ((w.alloc (.cells #[.int .i64 s1, .int .i64 s2, .int .i64 e1, .int .i64 e2, .slice a1 n1 c1, .slice a2 n2 c2, .slice a3 n3 c3, .slice a4 n4 c4] 34)).alloc (.cells #[.int .i64 0, .int .i64 0, .int .i64 0, .int .i64 0, .int .i64 0] 46)) (h1.below HB0.out) (h2.below HB0.out) (h3.below HB0.out) (h4.below HB0.out) l1 l2 l3 l4
  generalize (⟨(s1, s2), (e1, e2), z1, z2, z3, z4⟩ : M.Pf).rows = R at hR CR ⊢
  clear h1 h2 h3 h4 l1 l2 l3 l4
  go_enter Tryz.func20, Tryz.ntmps20
  go_wp2_with fail
  refine CR.mono ?_
  rintro e wr ⟨rfl, hb⟩
  have HA : Hid (Lies wr w.heap.size [.int .i64 s1, .int .i64 s2, .int .i64 e1, .int .i64 e2, .slice a1 n1 c1, .slice a2 n2 c2, .slice a3 n3 c3, .slice a4 n4 c4]) := HA0.out.belowS hb
  have HZ : Hid (Lies wr (w.heap.size + 1) [.int .i64 0, .int .i64 0, .int .i64 0, .int .i64 0, .int .i64 0]) := HZ0.out.belowS hb
  have HB : Hid (Below w.heap.size w wr) := HB0.out.trans (hb.mono HB0.out.size)
  clear hb HA0 HZ0 HB0 CR
  have x0 : wr.cell? ⟨w.heap.size, 0, none⟩ = some (.int .i64 s1) := HA.out.at 0
  have x1 : wr.cell? ⟨w.heap.size, 1, none⟩ = some (.int .i64 s2) := HA.out.at 1
  have x2 : wr.cell? ⟨w.heap.size, 2, none⟩ = some (.int .i64 e1) := HA.out.at 2
  have x3 : wr.cell? ⟨w.heap.size, 3, none⟩ = some (.int .i64 e2) := HA.out.at 3
  have y0 : wr.cell? ⟨w.heap.size + 1, 0, none⟩ = some (.int .i64 0) := HZ.out.at 0
  have f0 : wr.frozen? ⟨w.heap.size + 1, 0, none⟩ = false := HZ.out.fr 0
  have y1 : wr.cell? ⟨w.heap.size + 1, 1, none⟩ = some (.int .i64 0) := HZ.out.at 1
  have f1 : wr.frozen? ⟨w.heap.size + 1, 1, none⟩ = false := HZ.out.fr 1
  have y2 : wr.cell? ⟨w.heap.size + 1, 2, none⟩ = some (.int .i64 0) := HZ.out.at 2
  have f2 : wr.frozen? ⟨w.heap.size + 1, 2, none⟩ = false := HZ.out.fr 2
  have y3 : wr.cell? ⟨w.heap.size + 1, 3, none⟩ = some (.int .i64 0) := HZ.out.at 3
  have f3 : wr.frozen? ⟨w.heap.size + 1, 3, none⟩ = false := HZ.out.fr 3
  have y4 : wr.cell? ⟨w.heap.size + 1, 4, none⟩ = some (.int .i64 0) := HZ.out.at 4
  have f4 : wr.frozen? ⟨w.heap.size + 1, 4, none⟩ = false := HZ.out.fr 4
  by_cases h0 : R = 0
  · subst h0
    have g0 : (((0 : Nat) : Int) == 0) = true := by simp
    go_wp2
    refine bodyPost_ret (v := .tuple #[.agg #[.int .i64 0, .int .i64 0, .int .i64 0, .int .i64 0, .int .i64 0], .bool false]) (by simp [results, Tryz.results20, go_sem, y0, y1, y2, y3, y4]) rfl ⟨by simp [M.claimV, M.claimB], ?_⟩
    exact (((((HB.out.setCell (by show w.heap.size ≤ w.heap.size + 1; omega) _).setCell (by show w.heap.size ≤ w.heap.size + 1; omega) _).setCell (by show w.heap.size ≤ w.heap.size + 1; omega) _).setCell (by show w.heap.size ≤ w.heap.size + 1; omega) _).setCell (by show w.heap.size ≤ w.heap.size + 1; omega) _)
  · have g0 : ((R : Int) == 0) = false := by simp; omega
    go_wp2
    refine bodyPost_ret (v := .tuple #[.agg #[.int .i64 s1, .int .i64 s2, .int .i64 e1, .int .i64 e2, .int .i64 ((R : Int) - 1)], .bool true]) (by simp [results, Tryz.results20, go_sem, y0, y1, y2, y3, y4]) rfl ⟨by simp [M.claimV, M.claimB, h0], ?_⟩
    exact (((((HB.out.setCell (by show w.heap.size ≤ w.heap.size + 1; omega) _).setCell (by show w.heap.size ≤ w.heap.size + 1; omega) _).setCell (by show w.heap.size ≤ w.heap.size + 1; omega) _).setCell (by show w.heap.size ≤ w.heap.size + 1; omega) _).setCell (by show w.heap.size ≤ w.heap.size + 1; omega) _)
end Go.Proofs.YtbcfjbkmkknmfaaGreatDoor
namespace Go.Proofs.YtbcfjbkmkknmfaaGreatDoor
open Go.RowKit

/-- what an honest proof claims holds -/
theorem M.claimed {m : M.Mc} {s : Int × Int} {n : Int} (h : M.provOk m s n = true) : M.holds m ⟨s, (M.prv m s n).e, n - 1⟩ = true := by
  obtain ⟨hm, hs, N, rfl, hN⟩ := M.provOk_parts h
  have hb := M.rowsN_pos hN
  obtain ⟨_, _, _, h4⟩ := M.honest h
  have hr : M.runOk m s ((N : Int) - 1) = true := by unfold M.runOk; rw [hm, hs]; simp; omega
  have he : M.sOk (M.aft m s ((N : Int) - 1)) = true := by rw [M.aft_in hr]; exact M.sOk_rn m hs _
  unfold M.holds M.clOk
  dsimp only
  rw [h4, hm, hs, he]
  simp
  omega
theorem M.claimV_five (R : Nat) (s1 s2 e1 e2 : Int) : ∃ u1 u2 u3 u4 u5 : Int, M.claimV R s1 s2 e1 e2 = [.int .i64 u1, .int .i64 u2, .int .i64 u3, .int .i64 u4, .int .i64 u5] := by
  unfold M.claimV
  by_cases h : R = 0
  · rw [if_pos h]; exact ⟨0, 0, 0, 0, 0, rfl⟩
  · rw [if_neg h]; exact ⟨s1, s2, e1, e2, _, rfl⟩
theorem M.claimV_pos {R : Nat} {n : Int} (h : ((R : Nat) : Int) = n) (h0 : 2 ≤ n) (s1 s2 e1 e2 : Int) : M.claimV R s1 s2 e1 e2 = [.int .i64 s1, .int .i64 s2, .int .i64 e1, .int .i64 e2, .int .i64 (n - 1)] ∧ M.claimB R = true := by
  have hR : R ≠ 0 := by omega
  unfold M.claimV M.claimB
  rw [if_neg hR, if_neg hR, h]; exact ⟨rfl, rfl⟩
set_option maxHeartbeats 8000000 in
set_option maxRecDepth 10000 in
theorem fnClaims_any {ca : Option Addr} {len cap : Nat} {zs : List Int} {aL aN : Addr} (w : World) (he : Env w aL aN) (hrow : Row .u8 w ca len cap zs) :
    Calls Tryz.prog 5 #[.slice ca len cap] w fun e w' => e = .returned (.bool true) ∧ Below w.heap.size w w' := by
  have hl0 : (len : Int) ≤ 9223372036854775807 := by
    rcases hrow with ⟨_, rfl, _⟩ | ⟨x, _, h1, h2, _⟩
    · simp
    · unfold maxLen at h2; omega
  by_cases hbig : (1048576 : Int) < (len : Int)
  · clear he
    go_enter Tryz.func5, Tryz.ntmps5
    go_wp2_with fail
    refine (big_any _ _ _ _).mono ?_
    rintro e w' ⟨rfl, rfl⟩
    go_wp2
    go_ret
    exact ⟨rfl, Below.refl _ _⟩
  have hbg : decide ((1048576 : Int) < (len : Int)) = false := by simpa using hbig
  have HR : Hid (Row .u8 w ca len cap zs) := hrow
  have HE0 : Hid (Env w aL aN) := he
  clear hrow he hbig
  go_enter Tryz.func5, Tryz.ntmps5
  go_wp2_with fail
  refine (big_any _ _ _ _).mono ?_
  rintro e wz ⟨rfl, hwz⟩
  have hwy := hwz.symm
  clear hwz
  subst hwy
  go_wp2_with fail
  refine (drawClaimOf_any w HR.out).mono ?_
  rintro e w1 ⟨s1, s2, e1, e2, a1, n1, c1, z1, a2, n2, c2, z2, a3, n3, c3, z3, a4, n4, c4, z4, rfl, ⟨x1, x2, x3, x4⟩, ⟨l1, l2, l3, l4⟩, hlo, hb1⟩
  have CI : ∀ (W : World), Env W aL aN → Sees W a1 n1 c1 z1 → Sees W a2 n2 c2 z2 → Sees W a3 n3 c3 z3 → Sees W a4 n4 c4 z4 → Calls Tryz.prog 19 #[.agg #[.int .i64 s1, .int .i64 s2, .int .i64 e1, .int .i64 e2, .slice a1 n1 c1, .slice a2 n2 c2, .slice a3 n3 c3, .slice a4 n4 c4]] W fun e w' => e = .returned (.tuple #[.agg (M.claimV (⟨(s1, s2), (e1, e2), z1, z2, z3, z4⟩ : M.Pf).rows s1 s2 e1 e2).toArray, .bool (M.claimB (⟨(s1, s2), (e1, e2), z1, z2, z3, z4⟩ : M.Pf).rows)]) ∧ Below W.heap.size W w' := fun W e g1 g2 g3 g4 => implClaimOf_any s1 s2 e1 e2 W e g1 g2 g3 g4
  have CS : ∀ (W : World), Sees W a1 n1 c1 z1 → Sees W a2 n2 c2 z2 → Sees W a3 n3 c3 z3 → Sees W a4 n4 c4 z4 → Calls Tryz.prog 20 #[.agg #[.int .i64 s1, .int .i64 s2, .int .i64 e1, .int .i64 e2, .slice a1 n1 c1, .slice a2 n2 c2, .slice a3 n3 c3, .slice a4 n4 c4]] W fun e w' => e = .returned (.tuple #[.agg (M.claimV (⟨(s1, s2), (e1, e2), z1, z2, z3, z4⟩ : M.Pf).rows s1 s2 e1 e2).toArray, .bool (M.claimB (⟨(s1, s2), (e1, e2), z1, z2, z3, z4⟩ : M.Pf).rows)]) ∧ Below W.heap.size W w' := fun W g1 g2 g3 g4 => specClaimOf_any s1 s2 e1 e2 W g1 g2 g3 g4 (by omega) (by omega) (by omega) (by omega)
  obtain ⟨u1, u2, u3, u4, u5, hu⟩ := M.claimV_five (⟨(s1, s2), (e1, e2), z1, z2, z3, z4⟩ : M.Pf).rows s1 s2 e1 e2
  rw [hu] at CI CS
  generalize M.claimB (⟨(s1, s2), (e1, e2), z1, z2, z3, z4⟩ : M.Pf).rows = cb at CI CS
  clear hu hlo
  have HB_0 : Hid (Below w.heap.size w w1) := hb1
  have HE_0 : Hid (Env w1 aL aN) := HE0.out.below hb1
  have S1_0 : Hid (Sees w1 a1 n1 c1 z1) := x1
  have S2_0 : Hid (Sees w1 a2 n2 c2 z2) := x2
  have S3_0 : Hid (Sees w1 a3 n3 c3 z3) := x3
  have S4_0 : Hid (Sees w1 a4 n4 c4 z4) := x4
  clear hb1 HE0 x1 x2 x3 x4
  have hba : Below w1.heap.size w1 (w1.alloc (.cells #[.int .i64 s1, .int .i64 s2, .int .i64 e1, .int .i64 e2, .slice a1 n1 c1, .slice a2 n2 c2, .slice a3 n3 c3, .slice a4 n4 c4] 34)) := (Below.refl _ _).alloc (Nat.le_refl _) _
  have HB_1 : Hid (Below w.heap.size w (w1.alloc (.cells #[.int .i64 s1, .int .i64 s2, .int .i64 e1, .int .i64 e2, .slice a1 n1 c1, .slice a2 n2 c2, .slice a3 n3 c3, .slice a4 n4 c4] 34))) := HB_0.out.trans (hba.mono HB_0.out.size)
  have HE_1 : Hid (Env (w1.alloc (.cells #[.int .i64 s1, .int .i64 s2, .int .i64 e1, .int .i64 e2, .slice a1 n1 c1, .slice a2 n2 c2, .slice a3 n3 c3, .slice a4 n4 c4] 34)) aL aN) := HE_0.out.below hba
  have S1_1 : Hid (Sees (w1.alloc (.cells #[.int .i64 s1, .int .i64 s2, .int .i64 e1, .int .i64 e2, .slice a1 n1 c1, .slice a2 n2 c2, .slice a3 n3 c3, .slice a4 n4 c4] 34)) a1 n1 c1 z1) := S1_0.out.below hba
  have S2_1 : Hid (Sees (w1.alloc (.cells #[.int .i64 s1, .int .i64 s2, .int .i64 e1, .int .i64 e2, .slice a1 n1 c1, .slice a2 n2 c2, .slice a3 n3 c3, .slice a4 n4 c4] 34)) a2 n2 c2 z2) := S2_0.out.below hba
  have S3_1 : Hid (Sees (w1.alloc (.cells #[.int .i64 s1, .int .i64 s2, .int .i64 e1, .int .i64 e2, .slice a1 n1 c1, .slice a2 n2 c2, .slice a3 n3 c3, .slice a4 n4 c4] 34)) a3 n3 c3 z3) := S3_0.out.below hba
  have S4_1 : Hid (Sees (w1.alloc (.cells #[.int .i64 s1, .int .i64 s2, .int .i64 e1, .int .i64 e2, .slice a1 n1 c1, .slice a2 n2 c2, .slice a3 n3 c3, .slice a4 n4 c4] 34)) a4 n4 c4 z4) := S4_0.out.below hba
  clear HB_0 HE_0 S1_0 S2_0 S3_0 S4_0
  clear hba
  have HP_1 : Hid (Lies (w1.alloc (.cells #[.int .i64 s1, .int .i64 s2, .int .i64 e1, .int .i64 e2, .slice a1 n1 c1, .slice a2 n2 c2, .slice a3 n3 c3, .slice a4 n4 c4] 34)) w1.heap.size [.int .i64 s1, .int .i64 s2, .int .i64 e1, .int .i64 e2, .slice a1 n1 c1, .slice a2 n2 c2, .slice a3 n3 c3, .slice a4 n4 c4]) := lies_new _ _ _
  go_wp2_with fail
  generalize (w1.alloc (.cells #[.int .i64 s1, .int .i64 s2, .int .i64 e1, .int .i64 e2, .slice a1 n1 c1, .slice a2 n2 c2, .slice a3 n3 c3, .slice a4 n4 c4] 34)) = w2 at HB_1 HE_1 S1_1 S2_1 S3_1 S4_1 HP_1  ⊢
  generalize w1.heap.size = pb at HP_1  ⊢
  refine (CI _ HE_1.out S1_1.out S2_1.out S3_1.out S4_1.out).mono ?_
  rintro e w3 ⟨rfl, hb⟩
  have HB_2 : Hid (Below w.heap.size w w3) := HB_1.out.trans (hb.mono HB_1.out.size)
  have HE_2 : Hid (Env w3 aL aN) := HE_1.out.below hb
  have S1_2 : Hid (Sees w3 a1 n1 c1 z1) := S1_1.out.below hb
  have S2_2 : Hid (Sees w3 a2 n2 c2 z2) := S2_1.out.below hb
  have S3_2 : Hid (Sees w3 a3 n3 c3 z3) := S3_1.out.below hb
  have S4_2 : Hid (Sees w3 a4 n4 c4 z4) := S4_1.out.below hb
  have HP_2 : Hid (Lies w3 pb [.int .i64 s1, .int .i64 s2, .int .i64 e1, .int .i64 e2, .slice a1 n1 c1, .slice a2 n2 c2, .slice a3 n3 c3, .slice a4 n4 c4]) := HP_1.out.belowS hb
  clear HB_1 HE_1 S1_1 S2_1 S3_1 S4_1 HP_1
  clear hb
  have hba : Below w3.heap.size w3 (w3.alloc (.cells #[.int .i64 u1, .int .i64 u2, .int .i64 u3, .int .i64 u4, .int .i64 u5] 46)) := (Below.refl _ _).alloc (Nat.le_refl _) _
  have HB_3 : Hid (Below w.heap.size w (w3.alloc (.cells #[.int .i64 u1, .int .i64 u2, .int .i64 u3, .int .i64 u4, .int .i64 u5] 46))) := HB_2.out.trans (hba.mono HB_2.out.size)
  have HE_3 : Hid (Env (w3.alloc (.cells #[.int .i64 u1, .int .i64 u2, .int .i64 u3, .int .i64 u4, .int .i64 u5] 46)) aL aN) := HE_2.out.below hba
  have S1_3 : Hid (Sees (w3.alloc (.cells #[.int .i64 u1, .int .i64 u2, .int .i64 u3, .int .i64 u4, .int .i64 u5] 46)) a1 n1 c1 z1) := S1_2.out.below hba
  have S2_3 : Hid (Sees (w3.alloc (.cells #[.int .i64 u1, .int .i64 u2, .int .i64 u3, .int .i64 u4, .int .i64 u5] 46)) a2 n2 c2 z2) := S2_2.out.below hba
  have S3_3 : Hid (Sees (w3.alloc (.cells #[.int .i64 u1, .int .i64 u2, .int .i64 u3, .int .i64 u4, .int .i64 u5] 46)) a3 n3 c3 z3) := S3_2.out.below hba
  have S4_3 : Hid (Sees (w3.alloc (.cells #[.int .i64 u1, .int .i64 u2, .int .i64 u3, .int .i64 u4, .int .i64 u5] 46)) a4 n4 c4 z4) := S4_2.out.below hba
  have HP_3 : Hid (Lies (w3.alloc (.cells #[.int .i64 u1, .int .i64 u2, .int .i64 u3, .int .i64 u4, .int .i64 u5] 46)) pb [.int .i64 s1, .int .i64 s2, .int .i64 e1, .int .i64 e2, .slice a1 n1 c1, .slice a2 n2 c2, .slice a3 n3 c3, .slice a4 n4 c4]) := HP_2.out.belowS hba
  clear HB_2 HE_2 S1_2 S2_2 S3_2 S4_2 HP_2
  clear hba
  have HC_3 : Hid (Lies (w3.alloc (.cells #[.int .i64 u1, .int .i64 u2, .int .i64 u3, .int .i64 u4, .int .i64 u5] 46)) w3.heap.size [.int .i64 u1, .int .i64 u2, .int .i64 u3, .int .i64 u4, .int .i64 u5]) := lies_new _ _ _
  have p0 : (w3.alloc (.cells #[.int .i64 u1, .int .i64 u2, .int .i64 u3, .int .i64 u4, .int .i64 u5] 46)).cell? ⟨pb, 0, none⟩ = some (.int .i64 s1) := HP_3.out.at 0
  have p1 : (w3.alloc (.cells #[.int .i64 u1, .int .i64 u2, .int .i64 u3, .int .i64 u4, .int .i64 u5] 46)).cell? ⟨pb, 1, none⟩ = some (.int .i64 s2) := HP_3.out.at 1
  have p2 : (w3.alloc (.cells #[.int .i64 u1, .int .i64 u2, .int .i64 u3, .int .i64 u4, .int .i64 u5] 46)).cell? ⟨pb, 2, none⟩ = some (.int .i64 e1) := HP_3.out.at 2
  have p3 : (w3.alloc (.cells #[.int .i64 u1, .int .i64 u2, .int .i64 u3, .int .i64 u4, .int .i64 u5] 46)).cell? ⟨pb, 3, none⟩ = some (.int .i64 e2) := HP_3.out.at 3
  have p4 : (w3.alloc (.cells #[.int .i64 u1, .int .i64 u2, .int .i64 u3, .int .i64 u4, .int .i64 u5] 46)).cell? ⟨pb, 4, none⟩ = some (.slice a1 n1 c1) := HP_3.out.at 4
  have p5 : (w3.alloc (.cells #[.int .i64 u1, .int .i64 u2, .int .i64 u3, .int .i64 u4, .int .i64 u5] 46)).cell? ⟨pb, 5, none⟩ = some (.slice a2 n2 c2) := HP_3.out.at 5
  have p6 : (w3.alloc (.cells #[.int .i64 u1, .int .i64 u2, .int .i64 u3, .int .i64 u4, .int .i64 u5] 46)).cell? ⟨pb, 6, none⟩ = some (.slice a3 n3 c3) := HP_3.out.at 6
  have p7 : (w3.alloc (.cells #[.int .i64 u1, .int .i64 u2, .int .i64 u3, .int .i64 u4, .int .i64 u5] 46)).cell? ⟨pb, 7, none⟩ = some (.slice a4 n4 c4) := HP_3.out.at 7
  go_wp2_with fail
  clear p0 p1 p2 p3 p4 p5 p6 p7
  generalize (w3.alloc (.cells #[.int .i64 u1, .int .i64 u2, .int .i64 u3, .int .i64 u4, .int .i64 u5] 46)) = w4 at HB_3 HE_3 S1_3 S2_3 S3_3 S4_3 HP_3 HC_3  ⊢
  generalize w3.heap.size = cb_ at HC_3  ⊢
  refine (CS _ S1_3.out S2_3.out S3_3.out S4_3.out).mono ?_
  rintro e w5 ⟨rfl, hb⟩
  have HB_4 : Hid (Below w.heap.size w w5) := HB_3.out.trans (hb.mono HB_3.out.size)
  have HE_4 : Hid (Env w5 aL aN) := HE_3.out.below hb
  have S1_4 : Hid (Sees w5 a1 n1 c1 z1) := S1_3.out.below hb
  have S2_4 : Hid (Sees w5 a2 n2 c2 z2) := S2_3.out.below hb
  have S3_4 : Hid (Sees w5 a3 n3 c3 z3) := S3_3.out.below hb
  have S4_4 : Hid (Sees w5 a4 n4 c4 z4) := S4_3.out.below hb
  have HP_4 : Hid (Lies w5 pb [.int .i64 s1, .int .i64 s2, .int .i64 e1, .int .i64 e2, .slice a1 n1 c1, .slice a2 n2 c2, .slice a3 n3 c3, .slice a4 n4 c4]) := HP_3.out.belowS hb
  have HC_4 : Hid (Lies w5 cb_ [.int .i64 u1, .int .i64 u2, .int .i64 u3, .int .i64 u4, .int .i64 u5]) := HC_3.out.belowS hb
  clear HB_3 HE_3 S1_3 S2_3 S3_3 S4_3 HP_3 HC_3
  clear hb
  clear S1_4
  clear S2_4
  clear S3_4
  clear S4_4
  have hba : Below w5.heap.size w5 (w5.alloc (.cells #[.int .i64 u1, .int .i64 u2, .int .i64 u3, .int .i64 u4, .int .i64 u5] 46)) := (Below.refl _ _).alloc (Nat.le_refl _) _
  have HB_5 : Hid (Below w.heap.size w (w5.alloc (.cells #[.int .i64 u1, .int .i64 u2, .int .i64 u3, .int .i64 u4, .int .i64 u5] 46))) := HB_4.out.trans (hba.mono HB_4.out.size)
  have HE_5 : Hid (Env (w5.alloc (.cells #[.int .i64 u1, .int .i64 u2, .int .i64 u3, .int .i64 u4, .int .i64 u5] 46)) aL aN) := HE_4.out.below hba
  have HP_5 : Hid (Lies (w5.alloc (.cells #[.int .i64 u1, .int .i64 u2, .int .i64 u3, .int .i64 u4, .int .i64 u5] 46)) pb [.int .i64 s1, .int .i64 s2, .int .i64 e1, .int .i64 e2, .slice a1 n1 c1, .slice a2 n2 c2, .slice a3 n3 c3, .slice a4 n4 c4]) := HP_4.out.belowS hba
  have HC_5 : Hid (Lies (w5.alloc (.cells #[.int .i64 u1, .int .i64 u2, .int .i64 u3, .int .i64 u4, .int .i64 u5] 46)) cb_ [.int .i64 u1, .int .i64 u2, .int .i64 u3, .int .i64 u4, .int .i64 u5]) := HC_4.out.belowS hba
  clear HB_4 HE_4 HP_4 HC_4
  clear hba
  have HW_5 : Hid (Lies (w5.alloc (.cells #[.int .i64 u1, .int .i64 u2, .int .i64 u3, .int .i64 u4, .int .i64 u5] 46)) w5.heap.size [.int .i64 u1, .int .i64 u2, .int .i64 u3, .int .i64 u4, .int .i64 u5]) := lies_new _ _ _
  clear CI CS
  have nu1 : (u1 != u1) = false := by simp
  have eu1 : (u1 == u1) = true := by simp
  have nu2 : (u2 != u2) = false := by simp
  have eu2 : (u2 == u2) = true := by simp
  have nu3 : (u3 != u3) = false := by simp
  have eu3 : (u3 == u3) = true := by simp
  have nu4 : (u4 != u4) = false := by simp
  have eu4 : (u4 == u4) = true := by simp
  have nu5 : (u5 != u5) = false := by simp
  have eu5 : (u5 == u5) = true := by simp
  have nb : (cb != cb) = false := by simp
  have c_0 : (w5.alloc (.cells #[.int .i64 u1, .int .i64 u2, .int .i64 u3, .int .i64 u4, .int .i64 u5] 46)).cell? ⟨cb_, 0, none⟩ = some (.int .i64 u1) := HC_5.out.at 0
  have c_1 : (w5.alloc (.cells #[.int .i64 u1, .int .i64 u2, .int .i64 u3, .int .i64 u4, .int .i64 u5] 46)).cell? ⟨cb_, 1, none⟩ = some (.int .i64 u2) := HC_5.out.at 1
  have c_2 : (w5.alloc (.cells #[.int .i64 u1, .int .i64 u2, .int .i64 u3, .int .i64 u4, .int .i64 u5] 46)).cell? ⟨cb_, 2, none⟩ = some (.int .i64 u3) := HC_5.out.at 2
  have c_3 : (w5.alloc (.cells #[.int .i64 u1, .int .i64 u2, .int .i64 u3, .int .i64 u4, .int .i64 u5] 46)).cell? ⟨cb_, 3, none⟩ = some (.int .i64 u4) := HC_5.out.at 3
  have c_4 : (w5.alloc (.cells #[.int .i64 u1, .int .i64 u2, .int .i64 u3, .int .i64 u4, .int .i64 u5] 46)).cell? ⟨cb_, 4, none⟩ = some (.int .i64 u5) := HC_5.out.at 4
  have d_0 : (w5.alloc (.cells #[.int .i64 u1, .int .i64 u2, .int .i64 u3, .int .i64 u4, .int .i64 u5] 46)).cell? ⟨w5.heap.size, 0, none⟩ = some (.int .i64 u1) := HW_5.out.at 0
  have d_1 : (w5.alloc (.cells #[.int .i64 u1, .int .i64 u2, .int .i64 u3, .int .i64 u4, .int .i64 u5] 46)).cell? ⟨w5.heap.size, 1, none⟩ = some (.int .i64 u2) := HW_5.out.at 1
  have d_2 : (w5.alloc (.cells #[.int .i64 u1, .int .i64 u2, .int .i64 u3, .int .i64 u4, .int .i64 u5] 46)).cell? ⟨w5.heap.size, 2, none⟩ = some (.int .i64 u3) := HW_5.out.at 2
  have d_3 : (w5.alloc (.cells #[.int .i64 u1, .int .i64 u2, .int .i64 u3, .int .i64 u4, .int .i64 u5] 46)).cell? ⟨w5.heap.size, 3, none⟩ = some (.int .i64 u4) := HW_5.out.at 3
  have d_4 : (w5.alloc (.cells #[.int .i64 u1, .int .i64 u2, .int .i64 u3, .int .i64 u4, .int .i64 u5] 46)).cell? ⟨w5.heap.size, 4, none⟩ = some (.int .i64 u5) := HW_5.out.at 4
  go_wp2_with fail
  clear c_0 c_1 c_2 c_3 c_4 d_0 d_1 d_2 d_3 d_4 nb nu1 eu1 nu2 eu2 nu3 eu3 nu4 eu4 nu5 eu5
  generalize (w5.alloc (.cells #[.int .i64 u1, .int .i64 u2, .int .i64 u3, .int .i64 u4, .int .i64 u5] 46)) = w6 at HB_5 HE_5 HP_5 HC_5 HW_5  ⊢
  generalize w5.heap.size = wb_ at HW_5  ⊢
  clear HC_5
  clear HW_5
  clear HP_5
  refine (drawProved_any _ (HR.out.below2 HB_5.out)).mono ?_
  rintro e w7 ⟨m, s, n, rfl, n0, n1', hb⟩
  have HB_6 : Hid (Below w.heap.size w w7) := HB_5.out.trans (hb.mono HB_5.out.size)
  have HE_6 : Hid (Env w7 aL aN) := HE_5.out.below hb
  clear HB_5 HE_5
  clear hb
  have CI : ∀ W, Calls Tryz.prog 9 #[mcv m, stv s, .int .i64 n] W (ProvPost m s n W) := fun W => implProved_any m s n W
  have CP : ∀ (W : World) {u1 u2 u3 u4 : Option Addr} {c1 c2 c3 c4 : Nat}, Env W aL aN → Sees W u1 (M.pfn m s n) c1 (M.prv m s n).X → Sees W u2 (M.pfn m s n) c2 (M.prv m s n).Y → Sees W u3 (M.pfn m s n) c3 (M.prv m s n).QX → Sees W u4 (M.pfn m s n) c4 (M.prv m s n).QY → Calls Tryz.prog 19 #[.agg #[.int .i64 (M.prv m s n).s.1, .int .i64 (M.prv m s n).s.2, .int .i64 (M.prv m s n).e.1, .int .i64 (M.prv m s n).e.2, .slice u1 (M.pfn m s n) c1, .slice u2 (M.pfn m s n) c2, .slice u3 (M.pfn m s n) c3, .slice u4 (M.pfn m s n) c4]] W fun e w' => e = .returned (.tuple #[.agg (M.claimV (M.prv m s n).rows (M.prv m s n).s.1 (M.prv m s n).s.2 (M.prv m s n).e.1 (M.prv m s n).e.2).toArray, .bool (M.claimB (M.prv m s n).rows)]) ∧ Below W.heap.size W w' := fun W _ _ _ _ _ _ _ _ e g1 g2 g3 g4 => implClaimOf_any (M.prv m s n).s.1 (M.prv m s n).s.2 (M.prv m s n).e.1 (M.prv m s n).e.2 W e g1 g2 g3 g4
  obtain ⟨v1, v2, v3, v4, v5, hv⟩ := M.claimV_five (M.prv m s n).rows (M.prv m s n).s.1 (M.prv m s n).s.2 (M.prv m s n).e.1 (M.prv m s n).e.2
  have HH : Hid (M.provOk m s n = true → M.claimB (M.prv m s n).rows = true ∧ (v1, v2) = s ∧ v5 = n - 1 ∧ 2 ≤ n ∧ n ≤ 16 ∧ M.holds m ⟨(v1, v2), (v3, v4), v5⟩ = true) := fun h => by
    obtain ⟨h1, h2, h3, h4⟩ := M.honest h
    obtain ⟨hm, hs, N, rfl, hN⟩ := M.provOk_parts h
    have hb := M.rowsN_pos hN
    have hp := M.claimV_pos h2 (by omega) (M.prv m s N).s.1 (M.prv m s N).s.2 (M.prv m s N).e.1 (M.prv m s N).e.2
    rw [hv] at hp
    obtain ⟨hp1, hp2⟩ := hp
    simp only [List.cons.injEq, Value.int.injEq, true_and, and_true] at hp1
    obtain ⟨q1, q2, q3, q4, q5⟩ := hp1
    have hc := M.claimed h
    refine ⟨hp2, ?_, q5, by omega, by omega, ?_⟩
    · rw [q1, q2]; exact h3
    · rw [q1, q2, q3, q4, q5, h3]; exact hc
  have CH := implHolds_any m ⟨(v1, v2), (v3, v4), v5⟩
  rw [hv] at CP
  unfold ProvPost at CI
  have hL := M.pfn_le m s n
  clear hv HR
  generalize M.claimB (M.prv m s n).rows = vb at CP HH
  generalize M.pfn m s n = L at CI CP hL
  generalize M.provOk m s n = o at CI HH
  generalize M.prv m s n = P at CI CP
  generalize M.holds m ⟨(v1, v2), (v3, v4), v5⟩ = oh at CH HH
  obtain ⟨⟨p1, p2⟩, ⟨p3, p4⟩, y1, y2, y3, y4⟩ := P
  obtain ⟨⟨a, b, c, d, f, k⟩, ⟨a', b', c', d', f', k'⟩⟩ := m
  obtain ⟨x, y⟩ := s
  dsimp only [mcv, stv, clv] at CI CP CH HH ⊢
  go_wp2_with fail
  have hba : Below w7.heap.size w7 ((w7.alloc (.cells #[.int .i64 a, .int .i64 b, .int .i64 c, .int .i64 d, .int .i64 f, .int .i64 k, .int .i64 a', .int .i64 b', .int .i64 c', .int .i64 d', .int .i64 f', .int .i64 k'] 27)).alloc (.cells #[.int .i64 x, .int .i64 y] 29)) := ((Below.refl _ _).alloc (Nat.le_refl _) _).alloc (by simp) _
  have HB_7 : Hid (Below w.heap.size w ((w7.alloc (.cells #[.int .i64 a, .int .i64 b, .int .i64 c, .int .i64 d, .int .i64 f, .int .i64 k, .int .i64 a', .int .i64 b', .int .i64 c', .int .i64 d', .int .i64 f', .int .i64 k'] 27)).alloc (.cells #[.int .i64 x, .int .i64 y] 29))) := HB_6.out.trans (hba.mono HB_6.out.size)
  have HE_7 : Hid (Env ((w7.alloc (.cells #[.int .i64 a, .int .i64 b, .int .i64 c, .int .i64 d, .int .i64 f, .int .i64 k, .int .i64 a', .int .i64 b', .int .i64 c', .int .i64 d', .int .i64 f', .int .i64 k'] 27)).alloc (.cells #[.int .i64 x, .int .i64 y] 29)) aL aN) := HE_6.out.below hba
  clear HB_6 HE_6
  clear hba
  have HM_7 : Hid (Lies ((w7.alloc (.cells #[.int .i64 a, .int .i64 b, .int .i64 c, .int .i64 d, .int .i64 f, .int .i64 k, .int .i64 a', .int .i64 b', .int .i64 c', .int .i64 d', .int .i64 f', .int .i64 k'] 27)).alloc (.cells #[.int .i64 x, .int .i64 y] 29)) w7.heap.size [.int .i64 a, .int .i64 b, .int .i64 c, .int .i64 d, .int .i64 f, .int .i64 k, .int .i64 a', .int .i64 b', .int .i64 c', .int .i64 d', .int .i64 f', .int .i64 k']) := (lies_new _ _ _).alloc _
  have HS_7 : Hid (Lies ((w7.alloc (.cells #[.int .i64 a, .int .i64 b, .int .i64 c, .int .i64 d, .int .i64 f, .int .i64 k, .int .i64 a', .int .i64 b', .int .i64 c', .int .i64 d', .int .i64 f', .int .i64 k'] 27)).alloc (.cells #[.int .i64 x, .int .i64 y] 29)) (w7.heap.size + 1) [.int .i64 x, .int .i64 y]) := lies_new2 _ _ _ _
  generalize ((w7.alloc (.cells #[.int .i64 a, .int .i64 b, .int .i64 c, .int .i64 d, .int .i64 f, .int .i64 k, .int .i64 a', .int .i64 b', .int .i64 c', .int .i64 d', .int .i64 f', .int .i64 k'] 27)).alloc (.cells #[.int .i64 x, .int .i64 y] 29)) = w8 at HB_7 HE_7 HM_7 HS_7  ⊢
  generalize w7.heap.size = mb at HM_7 HS_7  ⊢
  refine (CI _).mono ?_
  rintro e w9 ⟨g1, gc1, g2, gc2, g3, gc3, g4, gc4, rfl, ⟨q1, q2, q3, q4⟩, hfar, hb⟩
  have HB_8 : Hid (Below w.heap.size w w9) := HB_7.out.trans (hb.mono HB_7.out.size)
  have HE_8 : Hid (Env w9 aL aN) := HE_7.out.below hb
  have HM_8 : Hid (Lies w9 mb [.int .i64 a, .int .i64 b, .int .i64 c, .int .i64 d, .int .i64 f, .int .i64 k, .int .i64 a', .int .i64 b', .int .i64 c', .int .i64 d', .int .i64 f', .int .i64 k']) := HM_7.out.belowS hb
  have HS_8 : Hid (Lies w9 (mb + 1) [.int .i64 x, .int .i64 y]) := HS_7.out.belowS hb
  clear HB_7 HE_7 HM_7 HS_7
  have G1_8 : Hid (Sees w9 g1 L gc1 y1) := q1.sees
  have G2_8 : Hid (Sees w9 g2 L gc2 y2) := q2.sees
  have G3_8 : Hid (Sees w9 g3 L gc3 y3) := q3.sees
  have G4_8 : Hid (Sees w9 g4 L gc4 y4) := q4.sees
  clear hb
  clear q1 q2 q3 q4 hfar CI
  have hba : Below w9.heap.size w9 (w9.alloc (.cells #[.int .i64 p1, .int .i64 p2, .int .i64 p3, .int .i64 p4, .slice g1 L gc1, .slice g2 L gc2, .slice g3 L gc3, .slice g4 L gc4] 34)) := (Below.refl _ _).alloc (Nat.le_refl _) _
  have HB_9 : Hid (Below w.heap.size w (w9.alloc (.cells #[.int .i64 p1, .int .i64 p2, .int .i64 p3, .int .i64 p4, .slice g1 L gc1, .slice g2 L gc2, .slice g3 L gc3, .slice g4 L gc4] 34))) := HB_8.out.trans (hba.mono HB_8.out.size)
  have HE_9 : Hid (Env (w9.alloc (.cells #[.int .i64 p1, .int .i64 p2, .int .i64 p3, .int .i64 p4, .slice g1 L gc1, .slice g2 L gc2, .slice g3 L gc3, .slice g4 L gc4] 34)) aL aN) := HE_8.out.below hba
  have HM_9 : Hid (Lies (w9.alloc (.cells #[.int .i64 p1, .int .i64 p2, .int .i64 p3, .int .i64 p4, .slice g1 L gc1, .slice g2 L gc2, .slice g3 L gc3, .slice g4 L gc4] 34)) mb [.int .i64 a, .int .i64 b, .int .i64 c, .int .i64 d, .int .i64 f, .int .i64 k, .int .i64 a', .int .i64 b', .int .i64 c', .int .i64 d', .int .i64 f', .int .i64 k']) := HM_8.out.belowS hba
  have HS_9 : Hid (Lies (w9.alloc (.cells #[.int .i64 p1, .int .i64 p2, .int .i64 p3, .int .i64 p4, .slice g1 L gc1, .slice g2 L gc2, .slice g3 L gc3, .slice g4 L gc4] 34)) (mb + 1) [.int .i64 x, .int .i64 y]) := HS_8.out.belowS hba
  have G1_9 : Hid (Sees (w9.alloc (.cells #[.int .i64 p1, .int .i64 p2, .int .i64 p3, .int .i64 p4, .slice g1 L gc1, .slice g2 L gc2, .slice g3 L gc3, .slice g4 L gc4] 34)) g1 L gc1 y1) := G1_8.out.below hba
  have G2_9 : Hid (Sees (w9.alloc (.cells #[.int .i64 p1, .int .i64 p2, .int .i64 p3, .int .i64 p4, .slice g1 L gc1, .slice g2 L gc2, .slice g3 L gc3, .slice g4 L gc4] 34)) g2 L gc2 y2) := G2_8.out.below hba
  have G3_9 : Hid (Sees (w9.alloc (.cells #[.int .i64 p1, .int .i64 p2, .int .i64 p3, .int .i64 p4, .slice g1 L gc1, .slice g2 L gc2, .slice g3 L gc3, .slice g4 L gc4] 34)) g3 L gc3 y3) := G3_8.out.below hba
  have G4_9 : Hid (Sees (w9.alloc (.cells #[.int .i64 p1, .int .i64 p2, .int .i64 p3, .int .i64 p4, .slice g1 L gc1, .slice g2 L gc2, .slice g3 L gc3, .slice g4 L gc4] 34)) g4 L gc4 y4) := G4_8.out.below hba
  clear HB_8 HE_8 HM_8 HS_8 G1_8 G2_8 G3_8 G4_8
  clear hba
  have HG_9 : Hid (Lies (w9.alloc (.cells #[.int .i64 p1, .int .i64 p2, .int .i64 p3, .int .i64 p4, .slice g1 L gc1, .slice g2 L gc2, .slice g3 L gc3, .slice g4 L gc4] 34)) w9.heap.size [.int .i64 p1, .int .i64 p2, .int .i64 p3, .int .i64 p4, .slice g1 L gc1, .slice g2 L gc2, .slice g3 L gc3, .slice g4 L gc4]) := lies_new _ _ _
  go_wp2_with fail
  generalize (w9.alloc (.cells #[.int .i64 p1, .int .i64 p2, .int .i64 p3, .int .i64 p4, .slice g1 L gc1, .slice g2 L gc2, .slice g3 L gc3, .slice g4 L gc4] 34)) = w10 at HB_9 HE_9 HM_9 HS_9 G1_9 G2_9 G3_9 G4_9 HG_9  ⊢
  generalize w9.heap.size = gb at HG_9  ⊢
  refine (CP _ HE_9.out G1_9.out G2_9.out G3_9.out G4_9.out).mono ?_
  rintro e w11 ⟨rfl, hb⟩
  have HB_10 : Hid (Below w.heap.size w w11) := HB_9.out.trans (hb.mono HB_9.out.size)
  have HE_10 : Hid (Env w11 aL aN) := HE_9.out.below hb
  have HM_10 : Hid (Lies w11 mb [.int .i64 a, .int .i64 b, .int .i64 c, .int .i64 d, .int .i64 f, .int .i64 k, .int .i64 a', .int .i64 b', .int .i64 c', .int .i64 d', .int .i64 f', .int .i64 k']) := HM_9.out.belowS hb
  have HS_10 : Hid (Lies w11 (mb + 1) [.int .i64 x, .int .i64 y]) := HS_9.out.belowS hb
  have G1_10 : Hid (Sees w11 g1 L gc1 y1) := G1_9.out.below hb
  have G2_10 : Hid (Sees w11 g2 L gc2 y2) := G2_9.out.below hb
  have G3_10 : Hid (Sees w11 g3 L gc3 y3) := G3_9.out.below hb
  have G4_10 : Hid (Sees w11 g4 L gc4 y4) := G4_9.out.below hb
  have HG_10 : Hid (Lies w11 gb [.int .i64 p1, .int .i64 p2, .int .i64 p3, .int .i64 p4, .slice g1 L gc1, .slice g2 L gc2, .slice g3 L gc3, .slice g4 L gc4]) := HG_9.out.belowS hb
  clear HB_9 HE_9 HM_9 HS_9 G1_9 G2_9 G3_9 G4_9 HG_9
  clear hb
  clear G1_10
  clear G2_10
  clear G3_10
  clear G4_10
  clear HG_10
  clear HE_10
  clear CP
  have hba : Below w11.heap.size w11 (w11.alloc (.cells #[.int .i64 v1, .int .i64 v2, .int .i64 v3, .int .i64 v4, .int .i64 v5] 46)) := (Below.refl _ _).alloc (Nat.le_refl _) _
  have HB_11 : Hid (Below w.heap.size w (w11.alloc (.cells #[.int .i64 v1, .int .i64 v2, .int .i64 v3, .int .i64 v4, .int .i64 v5] 46))) := HB_10.out.trans (hba.mono HB_10.out.size)
  have HM_11 : Hid (Lies (w11.alloc (.cells #[.int .i64 v1, .int .i64 v2, .int .i64 v3, .int .i64 v4, .int .i64 v5] 46)) mb [.int .i64 a, .int .i64 b, .int .i64 c, .int .i64 d, .int .i64 f, .int .i64 k, .int .i64 a', .int .i64 b', .int .i64 c', .int .i64 d', .int .i64 f', .int .i64 k']) := HM_10.out.belowS hba
  have HS_11 : Hid (Lies (w11.alloc (.cells #[.int .i64 v1, .int .i64 v2, .int .i64 v3, .int .i64 v4, .int .i64 v5] 46)) (mb + 1) [.int .i64 x, .int .i64 y]) := HS_10.out.belowS hba
  clear HB_10 HM_10 HS_10
  clear hba
  have HD_11 : Hid (Lies (w11.alloc (.cells #[.int .i64 v1, .int .i64 v2, .int .i64 v3, .int .i64 v4, .int .i64 v5] 46)) w11.heap.size [.int .i64 v1, .int .i64 v2, .int .i64 v3, .int .i64 v4, .int .i64 v5]) := lies_new _ _ _
  cases o with
  | false =>
    clear HH CH
    go_wp2
    go_ret
    exact ⟨rfl, HB_11.out⟩
  | true =>
  obtain ⟨rfl, hs_, rfl, hn2, hn16, rfl⟩ := HH.out rfl
  obtain ⟨rfl, rfl⟩ : v1 = x ∧ v2 = y := by simpa using hs_
  clear hs_ HH
  have hnw : IntKind.i64.wrap (n - 1) = n - 1 := by rw [IntKind.wrap_i64]; omega
  have en : ((n - 1 : Int) == n - 1) = true := by simp
  have ev1 : (v1 == v1) = true := by simp
  have ev2 : (v2 == v2) = true := by simp
  have m0 : (w11.alloc (.cells #[.int .i64 v1, .int .i64 v2, .int .i64 v3, .int .i64 v4, .int .i64 (n - 1)] 46)).cell? ⟨mb, 0, none⟩ = some (.int .i64 a) := HM_11.out.at 0
  have m1 : (w11.alloc (.cells #[.int .i64 v1, .int .i64 v2, .int .i64 v3, .int .i64 v4, .int .i64 (n - 1)] 46)).cell? ⟨mb, 1, none⟩ = some (.int .i64 b) := HM_11.out.at 1
  have m2 : (w11.alloc (.cells #[.int .i64 v1, .int .i64 v2, .int .i64 v3, .int .i64 v4, .int .i64 (n - 1)] 46)).cell? ⟨mb, 2, none⟩ = some (.int .i64 c) := HM_11.out.at 2
  have m3 : (w11.alloc (.cells #[.int .i64 v1, .int .i64 v2, .int .i64 v3, .int .i64 v4, .int .i64 (n - 1)] 46)).cell? ⟨mb, 3, none⟩ = some (.int .i64 d) := HM_11.out.at 3
  have m4 : (w11.alloc (.cells #[.int .i64 v1, .int .i64 v2, .int .i64 v3, .int .i64 v4, .int .i64 (n - 1)] 46)).cell? ⟨mb, 4, none⟩ = some (.int .i64 f) := HM_11.out.at 4
  have m5 : (w11.alloc (.cells #[.int .i64 v1, .int .i64 v2, .int .i64 v3, .int .i64 v4, .int .i64 (n - 1)] 46)).cell? ⟨mb, 5, none⟩ = some (.int .i64 k) := HM_11.out.at 5
  have m6 : (w11.alloc (.cells #[.int .i64 v1, .int .i64 v2, .int .i64 v3, .int .i64 v4, .int .i64 (n - 1)] 46)).cell? ⟨mb, 6, none⟩ = some (.int .i64 a') := HM_11.out.at 6
  have m7 : (w11.alloc (.cells #[.int .i64 v1, .int .i64 v2, .int .i64 v3, .int .i64 v4, .int .i64 (n - 1)] 46)).cell? ⟨mb, 7, none⟩ = some (.int .i64 b') := HM_11.out.at 7
  have m8 : (w11.alloc (.cells #[.int .i64 v1, .int .i64 v2, .int .i64 v3, .int .i64 v4, .int .i64 (n - 1)] 46)).cell? ⟨mb, 8, none⟩ = some (.int .i64 c') := HM_11.out.at 8
  have m9 : (w11.alloc (.cells #[.int .i64 v1, .int .i64 v2, .int .i64 v3, .int .i64 v4, .int .i64 (n - 1)] 46)).cell? ⟨mb, 9, none⟩ = some (.int .i64 d') := HM_11.out.at 9
  have m10 : (w11.alloc (.cells #[.int .i64 v1, .int .i64 v2, .int .i64 v3, .int .i64 v4, .int .i64 (n - 1)] 46)).cell? ⟨mb, 10, none⟩ = some (.int .i64 f') := HM_11.out.at 10
  have m11 : (w11.alloc (.cells #[.int .i64 v1, .int .i64 v2, .int .i64 v3, .int .i64 v4, .int .i64 (n - 1)] 46)).cell? ⟨mb, 11, none⟩ = some (.int .i64 k') := HM_11.out.at 11
  have s_0 : (w11.alloc (.cells #[.int .i64 v1, .int .i64 v2, .int .i64 v3, .int .i64 v4, .int .i64 (n - 1)] 46)).cell? ⟨mb + 1, 0, none⟩ = some (.int .i64 v1) := HS_11.out.at 0
  have s_1 : (w11.alloc (.cells #[.int .i64 v1, .int .i64 v2, .int .i64 v3, .int .i64 v4, .int .i64 (n - 1)] 46)).cell? ⟨mb + 1, 1, none⟩ = some (.int .i64 v2) := HS_11.out.at 1
  have d_0 : (w11.alloc (.cells #[.int .i64 v1, .int .i64 v2, .int .i64 v3, .int .i64 v4, .int .i64 (n - 1)] 46)).cell? ⟨w11.heap.size, 0, none⟩ = some (.int .i64 v1) := HD_11.out.at 0
  have d_1 : (w11.alloc (.cells #[.int .i64 v1, .int .i64 v2, .int .i64 v3, .int .i64 v4, .int .i64 (n - 1)] 46)).cell? ⟨w11.heap.size, 1, none⟩ = some (.int .i64 v2) := HD_11.out.at 1
  have d_2 : (w11.alloc (.cells #[.int .i64 v1, .int .i64 v2, .int .i64 v3, .int .i64 v4, .int .i64 (n - 1)] 46)).cell? ⟨w11.heap.size, 2, none⟩ = some (.int .i64 v3) := HD_11.out.at 2
  have d_3 : (w11.alloc (.cells #[.int .i64 v1, .int .i64 v2, .int .i64 v3, .int .i64 v4, .int .i64 (n - 1)] 46)).cell? ⟨w11.heap.size, 3, none⟩ = some (.int .i64 v4) := HD_11.out.at 3
  have d_4 : (w11.alloc (.cells #[.int .i64 v1, .int .i64 v2, .int .i64 v3, .int .i64 v4, .int .i64 (n - 1)] 46)).cell? ⟨w11.heap.size, 4, none⟩ = some (.int .i64 (n - 1)) := HD_11.out.at 4
  go_wp2_with fail
  clear m0 m1 m2 m3 m4 m5 m6 m7 m8 m9 m10 m11 s_0 s_1 d_0 d_1 d_2 d_3 d_4
  generalize (w11.alloc (.cells #[.int .i64 v1, .int .i64 v2, .int .i64 v3, .int .i64 v4, .int .i64 (n - 1)] 46)) = w12 at HB_11 HM_11 HS_11 HD_11  ⊢
  generalize w11.heap.size = db at HD_11  ⊢
  refine (CH _).mono ?_
  rintro e w13 ⟨rfl, hb⟩
  have HB_12 : Hid (Below w.heap.size w w13) := HB_11.out.trans (hb.mono HB_11.out.size)
  have HM_12 : Hid (Lies w13 mb [.int .i64 a, .int .i64 b, .int .i64 c, .int .i64 d, .int .i64 f, .int .i64 k, .int .i64 a', .int .i64 b', .int .i64 c', .int .i64 d', .int .i64 f', .int .i64 k']) := HM_11.out.belowS hb
  have HS_12 : Hid (Lies w13 (mb + 1) [.int .i64 v1, .int .i64 v2]) := HS_11.out.belowS hb
  have HD_12 : Hid (Lies w13 db [.int .i64 v1, .int .i64 v2, .int .i64 v3, .int .i64 v4, .int .i64 (n - 1)]) := HD_11.out.belowS hb
  clear HB_11 HM_11 HS_11 HD_11
  clear hb
  go_wp2
  go_ret
  exact ⟨rfl, HB_12.out⟩
end Go.Proofs.YtbcfjbkmkknmfaaGreatDoor
