/- What a proof claims, in the program and in the model. -/
import Derived.Test.YtbcfjbkmkknmfaaDoorErF
import Derived.Test.YtbcfjbkmkknmfaaDoorErG
namespace Go.Proofs.YtbcfjbkmkknmfaaDoor
open Go.RowKit

theorem M.rows_le (p : M.Pf) : p.rows ≤ 16 := by
  by_cases h : p.rows = 0
  · omega
  · obtain ⟨h1, _⟩ := M.rows_some h
    rcases M.rowsN_cases h1 with e | e | e | e <;> omega
def M.claimV (R : Nat) (s1 s2 e1 e2 : Int) : List Value := if R = 0 then [.int .i64 0, .int .i64 0, .int .i64 0, .int .i64 0, .int .i64 0] else [.int .i64 s1, .int .i64 s2, .int .i64 e1, .int .i64 e2, .int .i64 ((R : Int) - 1)]
def M.claimB (R : Nat) : Bool := if R = 0 then false else true
set_option maxHeartbeats 4000000 in
theorem implClaimOf_any {a1 a2 a3 a4 : Option Addr} {n1 n2 n3 n4 c1 c2 c3 c4 : Nat} {z1 z2 z3 z4 : List Int} {aL aN : Addr} (s1 s2 e1 e2 : Int) (w : World) (he : Env w aL aN) (h1 : Sees w a1 n1 c1 z1) (h2 : Sees w a2 n2 c2 z2) (h3 : Sees w a3 n3 c3 z3) (h4 : Sees w a4 n4 c4 z4) :
    Calls Tryd.prog 11 #[.agg #[.int .i64 s1, .int .i64 s2, .int .i64 e1, .int .i64 e2, .slice a1 n1 c1, .slice a2 n2 c2, .slice a3 n3 c3, .slice a4 n4 c4]] w fun e w' => e = .returned (.tuple #[.agg (M.claimV (⟨(s1, s2), (e1, e2), z1, z2, z3, z4⟩ : M.Pf).rows s1 s2 e1 e2).toArray, .bool (M.claimB (⟨(s1, s2), (e1, e2), z1, z2, z3, z4⟩ : M.Pf).rows)]) ∧ Below w.heap.size w w' := by
  have HA0 : Hid (Lies ((w.alloc (.cells #[.int .i64 s1, .int .i64 s2, .int .i64 e1, .int .i64 e2, .slice a1 n1 c1, .slice a2 n2 c2, .slice a3 n3 c3, .slice a4 n4 c4] 31)).alloc (.cells #[.int .i64 0, .int .i64 0, .int .i64 0, .int .i64 0, .int .i64 0] 36)) w.heap.size [.int .i64 s1, .int .i64 s2, .int .i64 e1, .int .i64 e2, .slice a1 n1 c1, .slice a2 n2 c2, .slice a3 n3 c3, .slice a4 n4 c4]) := (lies_new _ _ _).alloc _
  have HZ0 : Hid (Lies ((w.alloc (.cells #[.int .i64 s1, .int .i64 s2, .int .i64 e1, .int .i64 e2, .slice a1 n1 c1, .slice a2 n2 c2, .slice a3 n3 c3, .slice a4 n4 c4] 31)).alloc (.cells #[.int .i64 0, .int .i64 0, .int .i64 0, .int .i64 0, .int .i64 0] 36)) (w.heap.size + 1) [.int .i64 0, .int .i64 0, .int .i64 0, .int .i64 0, .int .i64 0]) := lies_new2 _ _ _ _
  have HB0 : Hid (Below w.heap.size w ((w.alloc (.cells #[.int .i64 s1, .int .i64 s2, .int .i64 e1, .int .i64 e2, .slice a1 n1 c1, .slice a2 n2 c2, .slice a3 n3 c3, .slice a4 n4 c4] 31)).alloc (.cells #[.int .i64 0, .int .i64 0, .int .i64 0, .int .i64 0, .int .i64 0] 36))) := ((Below.refl _ _).alloc (Nat.le_refl _) _).alloc (by simp) _
  have hR : (⟨(s1, s2), (e1, e2), z1, z2, z3, z4⟩ : M.Pf).rows ≤ 16 := M.rows_le _
  have CR := implRowsOf_any s1 s2 e1 e2 ((w.alloc (.cells #[.int .i64 s1, .int .i64 s2, .int .i64 e1, .int .i64 e2, .slice a1 n1 c1, .slice a2 n2 c2, .slice a3 n3 c3, .slice a4 n4 c4] 31)).alloc (.cells #[.int .i64 0, .int .i64 0, .int .i64 0, .int .i64 0, .int .i64 0] 36)) (he.below HB0.out) (h1.below HB0.out) (h2.below HB0.out) (h3.below HB0.out) (h4.below HB0.out)
  generalize (⟨(s1, s2), (e1, e2), z1, z2, z3, z4⟩ : M.Pf).rows = R at hR CR ⊢
  clear h1 h2 h3 h4 he
  go_enter Tryd.func11, Tryd.ntmps11
  go_wp2_with fail
  refine CR.mono ?_
  rintro e wr ⟨rfl, hb⟩
  have HA : Hid (Lies wr w.heap.size [.int .i64 s1, .int .i64 s2, .int .i64 e1, .int .i64 e2, .slice a1 n1 c1, .slice a2 n2 c2, .slice a3 n3 c3, .slice a4 n4 c4]) := HA0.out.belowS hb
  have HZ : Hid (Lies wr (w.heap.size + 1) [.int .i64 0, .int .i64 0, .int .i64 0, .int .i64 0, .int .i64 0]) := HZ0.out.belowS hb
  have HB : Hid (Below w.heap.size w wr) := HB0.out.trans (hb.mono HB0.out.size)
  clear hb HA0 HZ0 HB0 CR
  have x0 : wr.cell? ⟨w.heap.size, 0, none⟩ = some (.int .i64 s1) := HA.out.at 0
  have x1 : wr.cell? ⟨w.heap.size, 1, none⟩ = some (.int .i64 s2) := HA.out.at 1
  have x2 : wr.cell? ⟨w.heap.size, 2, none⟩ = some (.int .i64 e1) := HA.out.at 2
  have x3 : wr.cell? ⟨w.heap.size, 3, none⟩ = some (.int .i64 e2) := HA.out.at 3
  have y0 : wr.cell? ⟨w.heap.size + 1, 0, none⟩ = some (.int .i64 0) := HZ.out.at 0
  have f0 : wr.frozen? ⟨w.heap.size + 1, 0, none⟩ = false := HZ.out.fr 0
  have y1 : wr.cell? ⟨w.heap.size + 1, 1, none⟩ = some (.int .i64 0) := HZ.out.at 1
  have f1 : wr.frozen? ⟨w.heap.size + 1, 1, none⟩ = false := HZ.out.fr 1
  have y2 : wr.cell? ⟨w.heap.size + 1, 2, none⟩ = some (.int .i64 0) := HZ.out.at 2
  have f2 : wr.frozen? ⟨w.heap.size + 1, 2, none⟩ = false := HZ.out.fr 2
  have y3 : wr.cell? ⟨w.heap.size + 1, 3, none⟩ = some (.int .i64 0) := HZ.out.at 3
  have f3 : wr.frozen? ⟨w.heap.size + 1, 3, none⟩ = false := HZ.out.fr 3
  have y4 : wr.cell? ⟨w.heap.size + 1, 4, none⟩ = some (.int .i64 0) := HZ.out.at 4
  have f4 : wr.frozen? ⟨w.heap.size + 1, 4, none⟩ = false := HZ.out.fr 4
  by_cases h0 : R = 0
  · subst h0
    have g0 : (((0 : Nat) : Int) == 0) = true := by simp
    go_wp2
    refine bodyPost_ret (v := .tuple #[.agg #[.int .i64 0, .int .i64 0, .int .i64 0, .int .i64 0, .int .i64 0], .bool false]) (by simp [results, Tryd.results11, go_sem, y0, y1, y2, y3, y4]) rfl ⟨by simp [M.claimV, M.claimB], ?_⟩
    exact (((((HB.out.setCell (by show w.heap.size ≤ w.heap.size + 1; omega) _).setCell (by show w.heap.size ≤ w.heap.size + 1; omega) _).setCell (by show w.heap.size ≤ w.heap.size + 1; omega) _).setCell (by show w.heap.size ≤ w.heap.size + 1; omega) _).setCell (by show w.heap.size ≤ w.heap.size + 1; omega) _)
  · have g0 : ((R : Int) == 0) = false := by simp; omega
    go_wp2
    refine bodyPost_ret (v := .tuple #[.agg #[.int .i64 s1, .int .i64 s2, .int .i64 e1, .int .i64 e2, .int .i64 ((R : Int) - 1)], .bool true]) (by simp [results, Tryd.results11, go_sem, y0, y1, y2, y3, y4]) rfl ⟨by simp [M.claimV, M.claimB, h0], ?_⟩
    exact (((((HB.out.setCell (by show w.heap.size ≤ w.heap.size + 1; omega) _).setCell (by show w.heap.size ≤ w.heap.size + 1; omega) _).setCell (by show w.heap.size ≤ w.heap.size + 1; omega) _).setCell (by show w.heap.size ≤ w.heap.size + 1; omega) _).setCell (by show w.heap.size ≤ w.heap.size + 1; omega) _)
set_option maxHeartbeats 4000000 in
theorem specClaimOf_any {a1 a2 a3 a4 : Option Addr} {n1 n2 n3 n4 c1 c2 c3 c4 : Nat} {z1 z2 z3 z4 : List Int} (s1 s2 e1 e2 : Int) (w : World) (h1 : Sees w a1 n1 c1 z1) (h2 : Sees w a2 n2 c2 z2) (h3 : Sees w a3 n3 c3 z3) (h4 : Sees w a4 n4 c4 z4) (l1 : n1 ≤ 1048576) (l2 : n2 ≤ 1048576) (l3 : n3 ≤ 1048576) (l4 : n4 ≤ 1048576) :
    Calls Tryd.prog 10 #[.agg #[.int .i64 s1, .int .i64 s2, .int .i64 e1, .int .i64 e2, .slice a1 n1 c1, .slice a2 n2 c2, .slice a3 n3 c3, .slice a4 n4 c4]] w fun e w' => e = .returned (.tuple #[.agg (M.claimV (⟨(s1, s2), (e1, e2), z1, z2, z3, z4⟩ : M.Pf).rows s1 s2 e1 e2).toArray, .bool (M.claimB (⟨(s1, s2), (e1, e2), z1, z2, z3, z4⟩ : M.Pf).rows)]) ∧ Below w.heap.size w w' := by
  have HA0 : Hid (Lies ((w.alloc (.cells #[.int .i64 s1, .int .i64 s2, .int .i64 e1, .int .i64 e2, .slice a1 n1 c1, .slice a2 n2 c2, .slice a3 n3 c3, .slice a4 n4 c4] 31)).alloc (.cells #[.int .i64 0, .int .i64 0, .int .i64 0, .int .i64 0, .int .i64 0] 36)) w.heap.size [.int .i64 s1, .int .i64 s2, .int .i64 e1, .int .i64 e2, .slice a1 n1 c1, .slice a2 n2 c2, .slice a3 n3 c3, .slice a4 n4 c4]) := (lies_new _ _ _).alloc _
  have HZ0 : Hid (Lies ((w.alloc (.cells #[.int .i64 s1, .int .i64 s2, .int .i64 e1, .int .i64 e2, .slice a1 n1 c1, .slice a2 n2 c2, .slice a3 n3 c3, .slice a4 n4 c4] 31)).alloc (.cells #[.int .i64 0, .int .i64 0, .int .i64 0, .int .i64 0, .int .i64 0] 36)) (w.heap.size + 1) [.int .i64 0, .int .i64 0, .int .i64 0, .int .i64 0, .int .i64 0]) := lies_new2 _ _ _ _
  have HB0 : Hid (Below w.heap.size w ((w.alloc (.cells #[.int .i64 s1, .int .i64 s2, .int .i64 e1, .int .i64 e2, .slice a1 n1 c1, .slice a2 n2 c2, .slice a3 n3 c3, .slice a4 n4 c4] 31)).alloc (.cells #[.int .i64 0, .int .i64 0, .int .i64 0, .int .i64 0, .int .i64 0] 36))) := ((Below.refl _ _).alloc (Nat.le_refl _) _).alloc (by simp) _
  have hR : (⟨(s1, s2), (e1, e2), z1, z2, z3, z4⟩ : M.Pf).rows ≤ 16 := M.rows_le _
  have CR := specRowsOf_any s1 s2 e1 e2 ((w.alloc (.cells #[.int .i64 s1, .int .i64 s2, .int .i64 e1, .int .i64 e2, .slice a1 n1 c1, .slice a2 n2 c2, .slice a3 n3 c3, .slice a4 n4 c4] 31)).alloc (.cells #[.int .i64 0, .int .i64 0, .int .i64 0, .int .i64 0, .int .i64 0] 36)) (h1.below HB0.out) (h2.below HB0.out) (h3.below HB0.out) (h4.below HB0.out) l1 l2 l3 l4
  generalize (⟨(s1, s2), (e1, e2), z1, z2, z3, z4⟩ : M.Pf).rows = R at hR CR ⊢
  clear h1 h2 h3 h4 l1 l2 l3 l4
  go_enter Tryd.func10, Tryd.ntmps10
  go_wp2_with fail
  refine CR.mono ?_
  rintro e wr ⟨rfl, hb⟩
  have HA : Hid (Lies wr w.heap.size [.int .i64 s1, .int .i64 s2, .int .i64 e1, .int .i64 e2, .slice a1 n1 c1, .slice a2 n2 c2, .slice a3 n3 c3, .slice a4 n4 c4]) := HA0.out.belowS hb
  have HZ : Hid (Lies wr (w.heap.size + 1) [.int .i64 0, .int .i64 0, .int .i64 0, .int .i64 0, .int .i64 0]) := HZ0.out.belowS hb
  have HB : Hid (Below w.heap.size w wr) := HB0.out.trans (hb.mono HB0.out.size)
  clear hb HA0 HZ0 HB0 CR
  have x0 : wr.cell? ⟨w.heap.size, 0, none⟩ = some (.int .i64 s1) := HA.out.at 0
  have x1 : wr.cell? ⟨w.heap.size, 1, none⟩ = some (.int .i64 s2) := HA.out.at 1
  have x2 : wr.cell? ⟨w.heap.size, 2, none⟩ = some (.int .i64 e1) := HA.out.at 2
  have x3 : wr.cell? ⟨w.heap.size, 3, none⟩ = some (.int .i64 e2) := HA.out.at 3
  have y0 : wr.cell? ⟨w.heap.size + 1, 0, none⟩ = some (.int .i64 0) := HZ.out.at 0
  have f0 : wr.frozen? ⟨w.heap.size + 1, 0, none⟩ = false := HZ.out.fr 0
  have y1 : wr.cell? ⟨w.heap.size + 1, 1, none⟩ = some (.int .i64 0) := HZ.out.at 1
  have f1 : wr.frozen? ⟨w.heap.size + 1, 1, none⟩ = false := HZ.out.fr 1
  have y2 : wr.cell? ⟨w.heap.size + 1, 2, none⟩ = some (.int .i64 0) := HZ.out.at 2
  have f2 : wr.frozen? ⟨w.heap.size + 1, 2, none⟩ = false := HZ.out.fr 2
  have y3 : wr.cell? ⟨w.heap.size + 1, 3, none⟩ = some (.int .i64 0) := HZ.out.at 3
  have f3 : wr.frozen? ⟨w.heap.size + 1, 3, none⟩ = false := HZ.out.fr 3
  have y4 : wr.cell? ⟨w.heap.size + 1, 4, none⟩ = some (.int .i64 0) := HZ.out.at 4
  have f4 : wr.frozen? ⟨w.heap.size + 1, 4, none⟩ = false := HZ.out.fr 4
  by_cases h0 : R = 0
  · subst h0
    have g0 : (((0 : Nat) : Int) == 0) = true := by simp
    go_wp2
    refine bodyPost_ret (v := .tuple #[.agg #[.int .i64 0, .int .i64 0, .int .i64 0, .int .i64 0, .int .i64 0], .bool false]) (by simp [results, Tryd.results10, go_sem, y0, y1, y2, y3, y4]) rfl ⟨by simp [M.claimV, M.claimB], ?_⟩
    exact (((((HB.out.setCell (by show w.heap.size ≤ w.heap.size + 1; omega) _).setCell (by show w.heap.size ≤ w.heap.size + 1; omega) _).setCell (by show w.heap.size ≤ w.heap.size + 1; omega) _).setCell (by show w.heap.size ≤ w.heap.size + 1; omega) _).setCell (by show w.heap.size ≤ w.heap.size + 1; omega) _)
  · have g0 : ((R : Int) == 0) = false := by simp; omega
    go_wp2
    refine bodyPost_ret (v := .tuple #[.agg #[.int .i64 s1, .int .i64 s2, .int .i64 e1, .int .i64 e2, .int .i64 ((R : Int) - 1)], .bool true]) (by simp [results, Tryd.results10, go_sem, y0, y1, y2, y3, y4]) rfl ⟨by simp [M.claimV, M.claimB, h0], ?_⟩
    exact (((((HB.out.setCell (by show w.heap.size ≤ w.heap.size + 1; omega) _).setCell (by show w.heap.size ≤ w.heap.size + 1; omega) _).setCell (by show w.heap.size ≤ w.heap.size + 1; omega) _).setCell (by show w.heap.size ≤ w.heap.size + 1; omega) _).setCell (by show w.heap.size ≤ w.heap.size + 1; omega) _)
end Go.Proofs.YtbcfjbkmkknmfaaDoor
