/- What DrawJoined draws: two claims. -/
import Derived.Test.YtjeoenieoejolacRdV
namespace Go.Proofs.Ytjeoenieoejolac
open Go.RowKit

set_option maxHeartbeats 16000000 in
set_option maxRecDepth 10000 in
theorem drawJoined_any {a : Option Addr} {len cap : Nat} {zs : List Int} (w : World) (hrow : Row .u8 w a len cap zs) :
    Calls Try.prog 13 #[.slice a len cap] w fun e w' => ∃ c d : M.Cl, e = .returned (.tuple #[clv c, clv d]) ∧ Below w.heap.size w w' := by
  have HBW : Hid (Below w.heap.size w ((w.alloc (.cells #[.int .i64 0, .int .i64 0, .int .i64 0, .int .i64 0, .int .i64 0] 39)).alloc (.cells #[.int .i64 0, .int .i64 0, .int .i64 0, .int .i64 0, .int .i64 0] 39))) := ((Below.refl _ _).alloc (Nat.le_refl _) _).alloc (by simp) _
  have HRw : Hid (Row .u8 ((w.alloc (.cells #[.int .i64 0, .int .i64 0, .int .i64 0, .int .i64 0, .int .i64 0] 39)).alloc (.cells #[.int .i64 0, .int .i64 0, .int .i64 0, .int .i64 0, .int .i64 0] 39)) a len cap zs) := hrow.below2 HBW.out
  have LZ : Hid (Lies ((w.alloc (.cells #[.int .i64 0, .int .i64 0, .int .i64 0, .int .i64 0, .int .i64 0] 39)).alloc (.cells #[.int .i64 0, .int .i64 0, .int .i64 0, .int .i64 0, .int .i64 0] 39)) w.heap.size [.int .i64 0, .int .i64 0, .int .i64 0, .int .i64 0, .int .i64 0]) := (lies_new _ _ _).alloc _
  have LC : Hid (Lies ((w.alloc (.cells #[.int .i64 0, .int .i64 0, .int .i64 0, .int .i64 0, .int .i64 0] 39)).alloc (.cells #[.int .i64 0, .int .i64 0, .int .i64 0, .int .i64 0, .int .i64 0] 39)) (w.heap.size + 1) [.int .i64 0, .int .i64 0, .int .i64 0, .int .i64 0, .int .i64 0]) := lies_new2 _ _ _ _
  have HSW : Hid (((w.alloc (.cells #[.int .i64 0, .int .i64 0, .int .i64 0, .int .i64 0, .int .i64 0] 39)).alloc (.cells #[.int .i64 0, .int .i64 0, .int .i64 0, .int .i64 0, .int .i64 0] 39)).heap.size = w.heap.size + 1 + 1) := by show _ = _; simp
  clear hrow
  go_enter Try.func13, Try.ntmps13
  go_wp2_with fail
  refine (open_any _).mono ?_
  rintro e w1 ⟨rfl, hr1⟩
  have hsw := HSW.out
  rw [hsw]
  rw [hsw] at hr1
  generalize ((w.alloc (.cells #[.int .i64 0, .int .i64 0, .int .i64 0, .int .i64 0, .int .i64 0] 39)).alloc (.cells #[.int .i64 0, .int .i64 0, .int .i64 0, .int .i64 0, .int .i64 0] 39)) = wb at hr1 HRw HBW LZ LC hsw
  have HR1 : Hid (Rd wb (w.heap.size + 1 + 1) a len cap w1) := hr1
  have HSZ : Hid (wb.heap.size = w.heap.size + 1 + 1) := hsw
  have LZ1 : Hid (Lies w1 w.heap.size [.int .i64 0, .int .i64 0, .int .i64 0, .int .i64 0, .int .i64 0]) := LZ.out.below hr1.below (by omega)
  have LC1 : Hid (Lies w1 (w.heap.size + 1) [.int .i64 0, .int .i64 0, .int .i64 0, .int .i64 0, .int .i64 0]) := LC.out.below hr1.below (by omega)
  clear hr1 hsw HSW LZ LC
  go_wp2_with fail
  refine (machineR_any HRw.out _ HR1.out).mono ?_
  rintro e w2 ⟨mm, rfl, hr2, hg2⟩
  have CC := claimsR_any HRw.out mm w2 hr2
  have LZ2 : Hid (Lies w2 w.heap.size [.int .i64 0, .int .i64 0, .int .i64 0, .int .i64 0, .int .i64 0]) := LZ1.out.grown hg2 (by simp; omega)
  have LC2 : Hid (Lies w2 (w.heap.size + 1) [.int .i64 0, .int .i64 0, .int .i64 0, .int .i64 0, .int .i64 0]) := LC1.out.grown hg2 (by simp)
  have h2R : (w.heap.size + 1 + 1) < w2.heap.size := hr2.hi
  clear hr2 hg2 HR1
  go_wp2_with fail
  refine CC.mono ?_
  rintro e w3 ⟨la, ll, lc, rfl, hll, hcl, hr3, hg3⟩
  have LZ3 : Hid (Lies w3 w.heap.size [.int .i64 0, .int .i64 0, .int .i64 0, .int .i64 0, .int .i64 0]) := LZ2.out.grown hg3 (by simp; omega)
  have LC3 : Hid (Lies w3 (w.heap.size + 1) [.int .i64 0, .int .i64 0, .int .i64 0, .int .i64 0, .int .i64 0]) := LC2.out.grown hg3 (by simp)
  have HR3 : Hid (Rd wb (w.heap.size + 1 + 1) a len cap w3) := hr3
  clear hr3 hg3 LZ2 LC2 CC
  have hlb : (ll : Int) ≤ 8 := by omega
  by_cases hl2 : (ll : Int) < 2
  · clear hcl
    have zl0 : w3.cell? ⟨w.heap.size, 0, none⟩ = some (.int .i64 0) := LZ3.out.at 0
    have zf0 : w3.frozen? ⟨w.heap.size, 0, none⟩ = false := LZ3.out.fr 0
    have zl1 : w3.cell? ⟨w.heap.size, 1, none⟩ = some (.int .i64 0) := LZ3.out.at 1
    have zf1 : w3.frozen? ⟨w.heap.size, 1, none⟩ = false := LZ3.out.fr 1
    have zl2 : w3.cell? ⟨w.heap.size, 2, none⟩ = some (.int .i64 0) := LZ3.out.at 2
    have zf2 : w3.frozen? ⟨w.heap.size, 2, none⟩ = false := LZ3.out.fr 2
    have zl3 : w3.cell? ⟨w.heap.size, 3, none⟩ = some (.int .i64 0) := LZ3.out.at 3
    have zf3 : w3.frozen? ⟨w.heap.size, 3, none⟩ = false := LZ3.out.fr 3
    have zl4 : w3.cell? ⟨w.heap.size, 4, none⟩ = some (.int .i64 0) := LZ3.out.at 4
    have zf4 : w3.frozen? ⟨w.heap.size, 4, none⟩ = false := LZ3.out.fr 4
    have cl0 : w3.cell? ⟨w.heap.size + 1, 0, none⟩ = some (.int .i64 0) := LC3.out.at 0
    have cf0 : w3.frozen? ⟨w.heap.size + 1, 0, none⟩ = false := LC3.out.fr 0
    have cl1 : w3.cell? ⟨w.heap.size + 1, 1, none⟩ = some (.int .i64 0) := LC3.out.at 1
    have cf1 : w3.frozen? ⟨w.heap.size + 1, 1, none⟩ = false := LC3.out.fr 1
    have cl2 : w3.cell? ⟨w.heap.size + 1, 2, none⟩ = some (.int .i64 0) := LC3.out.at 2
    have cf2 : w3.frozen? ⟨w.heap.size + 1, 2, none⟩ = false := LC3.out.fr 2
    have cl3 : w3.cell? ⟨w.heap.size + 1, 3, none⟩ = some (.int .i64 0) := LC3.out.at 3
    have cf3 : w3.frozen? ⟨w.heap.size + 1, 3, none⟩ = false := LC3.out.fr 3
    have cl4 : w3.cell? ⟨w.heap.size + 1, 4, none⟩ = some (.int .i64 0) := LC3.out.at 4
    have cf4 : w3.frozen? ⟨w.heap.size + 1, 4, none⟩ = false := LC3.out.fr 4
    have hBz : Below w.heap.size w (sets (sets w3 w.heap.size 0 [Value.int .i64 0, Value.int .i64 0, Value.int .i64 0, Value.int .i64 0, Value.int .i64 1]) (w.heap.size + 1) 0 [Value.int .i64 0, Value.int .i64 0, Value.int .i64 0, Value.int .i64 0, Value.int .i64 2]) := sets_below (by omega) _ _ _ (sets_below (Nat.le_refl _) _ _ _ (HBW.out.trans (HR3.out.below.mono (by have := HSZ.out; omega))))
    obtain ⟨wz, hwz⟩ : ∃ zz, zz = sets (sets w3 w.heap.size 0 [Value.int .i64 0, Value.int .i64 0, Value.int .i64 0, Value.int .i64 0, Value.int .i64 1]) (w.heap.size + 1) 0 [Value.int .i64 0, Value.int .i64 0, Value.int .i64 0, Value.int .i64 0, Value.int .i64 2] := ⟨_, rfl⟩
    have ha := sets_at w.heap.size [Value.int .i64 0, Value.int .i64 0, Value.int .i64 0, Value.int .i64 0, Value.int .i64 1] w3 0 (fun j hj => by
      match j, hj with
      | 0, _ => exact ⟨_, zl0⟩
      | 1, _ => exact ⟨_, zl1⟩
      | 2, _ => exact ⟨_, zl2⟩
      | 3, _ => exact ⟨_, zl3⟩
      | 4, _ => exact ⟨_, zl4⟩)
    have hc := sets_at (w.heap.size + 1) [Value.int .i64 0, Value.int .i64 0, Value.int .i64 0, Value.int .i64 0, Value.int .i64 2] (sets w3 w.heap.size 0 [Value.int .i64 0, Value.int .i64 0, Value.int .i64 0, Value.int .i64 0, Value.int .i64 1]) 0 (fun j hj => by
      rw [Nat.zero_add]
      match j, hj with
      | 0, _ => exact ⟨_, (sets_far w.heap.size (p := ⟨w.heap.size + 1, 0, none⟩) (show w.heap.size + 1 ≠ w.heap.size by omega) _ _ _).trans cl0⟩
      | 1, _ => exact ⟨_, (sets_far w.heap.size (p := ⟨w.heap.size + 1, 1, none⟩) (show w.heap.size + 1 ≠ w.heap.size by omega) _ _ _).trans cl1⟩
      | 2, _ => exact ⟨_, (sets_far w.heap.size (p := ⟨w.heap.size + 1, 2, none⟩) (show w.heap.size + 1 ≠ w.heap.size by omega) _ _ _).trans cl2⟩
      | 3, _ => exact ⟨_, (sets_far w.heap.size (p := ⟨w.heap.size + 1, 3, none⟩) (show w.heap.size + 1 ≠ w.heap.size by omega) _ _ _).trans cl3⟩
      | 4, _ => exact ⟨_, (sets_far w.heap.size (p := ⟨w.heap.size + 1, 4, none⟩) (show w.heap.size + 1 ≠ w.heap.size by omega) _ _ _).trans cl4⟩)
    have hwx : wz = ((((((((((w3.setCell ⟨w.heap.size, 0, none⟩ (.int .i64 0)).setCell ⟨w.heap.size, 1, none⟩ (.int .i64 0)).setCell ⟨w.heap.size, 2, none⟩ (.int .i64 0)).setCell ⟨w.heap.size, 3, none⟩ (.int .i64 0)).setCell ⟨w.heap.size, 4, none⟩ (.int .i64 1)).setCell ⟨w.heap.size + 1, 0, none⟩ (.int .i64 0)).setCell ⟨w.heap.size + 1, 1, none⟩ (.int .i64 0)).setCell ⟨w.heap.size + 1, 2, none⟩ (.int .i64 0)).setCell ⟨w.heap.size + 1, 3, none⟩ (.int .i64 0)).setCell ⟨w.heap.size + 1, 4, none⟩ (.int .i64 2)) := hwz
    have z0 : wz.cell? ⟨w.heap.size, 0, none⟩ = some (.int .i64 0) := by rw [hwz, sets_far (w.heap.size + 1) (p := ⟨w.heap.size, 0, none⟩) (show w.heap.size ≠ w.heap.size + 1 by omega)]; simpa using ha 0 _ rfl
    have z1 : wz.cell? ⟨w.heap.size, 1, none⟩ = some (.int .i64 0) := by rw [hwz, sets_far (w.heap.size + 1) (p := ⟨w.heap.size, 1, none⟩) (show w.heap.size ≠ w.heap.size + 1 by omega)]; simpa using ha 1 _ rfl
    have z2 : wz.cell? ⟨w.heap.size, 2, none⟩ = some (.int .i64 0) := by rw [hwz, sets_far (w.heap.size + 1) (p := ⟨w.heap.size, 2, none⟩) (show w.heap.size ≠ w.heap.size + 1 by omega)]; simpa using ha 2 _ rfl
    have z3 : wz.cell? ⟨w.heap.size, 3, none⟩ = some (.int .i64 0) := by rw [hwz, sets_far (w.heap.size + 1) (p := ⟨w.heap.size, 3, none⟩) (show w.heap.size ≠ w.heap.size + 1 by omega)]; simpa using ha 3 _ rfl
    have z4 : wz.cell? ⟨w.heap.size, 4, none⟩ = some (.int .i64 1) := by rw [hwz, sets_far (w.heap.size + 1) (p := ⟨w.heap.size, 4, none⟩) (show w.heap.size ≠ w.heap.size + 1 by omega)]; simpa using ha 4 _ rfl
    have y0 : wz.cell? ⟨w.heap.size + 1, 0, none⟩ = some (.int .i64 0) := by rw [hwz]; simpa using hc 0 _ rfl
    have y1 : wz.cell? ⟨w.heap.size + 1, 1, none⟩ = some (.int .i64 0) := by rw [hwz]; simpa using hc 1 _ rfl
    have y2 : wz.cell? ⟨w.heap.size + 1, 2, none⟩ = some (.int .i64 0) := by rw [hwz]; simpa using hc 2 _ rfl
    have y3 : wz.cell? ⟨w.heap.size + 1, 3, none⟩ = some (.int .i64 0) := by rw [hwz]; simpa using hc 3 _ rfl
    have y4 : wz.cell? ⟨w.heap.size + 1, 4, none⟩ = some (.int .i64 2) := by rw [hwz]; simpa using hc 4 _ rfl
    rw [← hwz] at hBz
    have HBz : Hid (Below w.heap.size w wz) := hBz
    clear ha hc hBz hwz
    go_wp2
    rw [← hwx]
    refine bodyPost_ret (v := .tuple #[.agg #[.int .i64 0, .int .i64 0, .int .i64 0, .int .i64 0, .int .i64 1], .agg #[.int .i64 0, .int .i64 0, .int .i64 0, .int .i64 0, .int .i64 2]]) (by simp [results, Try.results13, go_sem, z0, z1, z2, z3, z4, y0, y1, y2, y3, y4]) rfl ⟨⟨(0, 0), (0, 0), 1⟩, ⟨(0, 0), (0, 0), 2⟩, rfl, HBz.out⟩
  · obtain ⟨g, rfl, hdc⟩ : ∃ g, la = some ⟨g, 0, none⟩ ∧ Dc wb w2 (w.heap.size + 1 + 1) a len cap g ll lc w3 := by
      rcases hcl with h | ⟨g, e, _, h⟩
      · omega
      · exact ⟨g, e, h⟩
    have hgl := hdc.lo
    have HD3 : Hid (Dc wb w2 (w.heap.size + 1 + 1) a len cap g ll lc w3) := hdc
    clear hdc hcl
    go_wp2_with fail
    refine (below_any HRw.out ((ll : Int) - 1) (by omega) (by omega) _ HR3.out).mono ?_
    rintro e w4 ⟨iv, iv0, iv1, rfl, hr4, hg4⟩
    obtain ⟨i, rfl⟩ := Int.eq_ofNat_of_zero_le iv0
    have hdd : Dc wb w2 (w.heap.size + 1 + 1) a len cap g ll lc w4 := HD3.out.grow h2R hr4 hg4
    have hne : g ≠ w.heap.size := by omega
    have hi : i < ll := by omega
    have hi1 : i + 1 < ll := by omega
    have hiI : (i : Int) < (ll : Int) := by omega
    have hiI1 : (i : Int) + 1 < (ll : Int) := by omega
    obtain ⟨s1, s2, t1, t2, st, c0, c1, c2, c3, c4⟩ := hdd.claim hi
    obtain ⟨p1, p2, q1, q2, qt, d0, d1, d2, d3, d4⟩ := hdd.claim hi1
    have lz4 := LZ3.out.grown hg4 (by simp; omega)
    have lc4 := LC3.out.grown hg4 (by simp)
    have zl0 : w4.cell? ⟨w.heap.size, 0, none⟩ = some (.int .i64 0) := lz4.at 0
    have zf0 : w4.frozen? ⟨w.heap.size, 0, none⟩ = false := lz4.fr 0
    have zl1 : w4.cell? ⟨w.heap.size, 1, none⟩ = some (.int .i64 0) := lz4.at 1
    have zf1 : w4.frozen? ⟨w.heap.size, 1, none⟩ = false := lz4.fr 1
    have zl2 : w4.cell? ⟨w.heap.size, 2, none⟩ = some (.int .i64 0) := lz4.at 2
    have zf2 : w4.frozen? ⟨w.heap.size, 2, none⟩ = false := lz4.fr 2
    have zl3 : w4.cell? ⟨w.heap.size, 3, none⟩ = some (.int .i64 0) := lz4.at 3
    have zf3 : w4.frozen? ⟨w.heap.size, 3, none⟩ = false := lz4.fr 3
    have zl4 : w4.cell? ⟨w.heap.size, 4, none⟩ = some (.int .i64 0) := lz4.at 4
    have zf4 : w4.frozen? ⟨w.heap.size, 4, none⟩ = false := lz4.fr 4
    have cl0 : w4.cell? ⟨w.heap.size + 1, 0, none⟩ = some (.int .i64 0) := lc4.at 0
    have cf0 : w4.frozen? ⟨w.heap.size + 1, 0, none⟩ = false := lc4.fr 0
    have cl1 : w4.cell? ⟨w.heap.size + 1, 1, none⟩ = some (.int .i64 0) := lc4.at 1
    have cf1 : w4.frozen? ⟨w.heap.size + 1, 1, none⟩ = false := lc4.fr 1
    have cl2 : w4.cell? ⟨w.heap.size + 1, 2, none⟩ = some (.int .i64 0) := lc4.at 2
    have cf2 : w4.frozen? ⟨w.heap.size + 1, 2, none⟩ = false := lc4.fr 2
    have cl3 : w4.cell? ⟨w.heap.size + 1, 3, none⟩ = some (.int .i64 0) := lc4.at 3
    have cf3 : w4.frozen? ⟨w.heap.size + 1, 3, none⟩ = false := lc4.fr 3
    have cl4 : w4.cell? ⟨w.heap.size + 1, 4, none⟩ = some (.int .i64 0) := lc4.at 4
    have cf4 : w4.frozen? ⟨w.heap.size + 1, 4, none⟩ = false := lc4.fr 4
    have hBz : Below w.heap.size w (sets (sets w4 w.heap.size 0 [Value.int .i64 s1, Value.int .i64 s2, Value.int .i64 t1, Value.int .i64 t2, Value.int .i64 st]) (w.heap.size + 1) 0 [Value.int .i64 p1, Value.int .i64 p2, Value.int .i64 q1, Value.int .i64 q2, Value.int .i64 qt]) := sets_below (by omega) _ _ _ (sets_below (Nat.le_refl _) _ _ _ (HBW.out.trans (hr4.below.mono (by have := HSZ.out; omega))))
    obtain ⟨wz, hwz⟩ : ∃ zz, zz = sets (sets w4 w.heap.size 0 [Value.int .i64 s1, Value.int .i64 s2, Value.int .i64 t1, Value.int .i64 t2, Value.int .i64 st]) (w.heap.size + 1) 0 [Value.int .i64 p1, Value.int .i64 p2, Value.int .i64 q1, Value.int .i64 q2, Value.int .i64 qt] := ⟨_, rfl⟩
    have ha := sets_at w.heap.size [Value.int .i64 s1, Value.int .i64 s2, Value.int .i64 t1, Value.int .i64 t2, Value.int .i64 st] w4 0 (fun j hj => by
      match j, hj with
      | 0, _ => exact ⟨_, zl0⟩
      | 1, _ => exact ⟨_, zl1⟩
      | 2, _ => exact ⟨_, zl2⟩
      | 3, _ => exact ⟨_, zl3⟩
      | 4, _ => exact ⟨_, zl4⟩)
    have hc := sets_at (w.heap.size + 1) [Value.int .i64 p1, Value.int .i64 p2, Value.int .i64 q1, Value.int .i64 q2, Value.int .i64 qt] (sets w4 w.heap.size 0 [Value.int .i64 s1, Value.int .i64 s2, Value.int .i64 t1, Value.int .i64 t2, Value.int .i64 st]) 0 (fun j hj => by
      rw [Nat.zero_add]
      match j, hj with
      | 0, _ => exact ⟨_, (sets_far w.heap.size (p := ⟨w.heap.size + 1, 0, none⟩) (show w.heap.size + 1 ≠ w.heap.size by omega) _ _ _).trans cl0⟩
      | 1, _ => exact ⟨_, (sets_far w.heap.size (p := ⟨w.heap.size + 1, 1, none⟩) (show w.heap.size + 1 ≠ w.heap.size by omega) _ _ _).trans cl1⟩
      | 2, _ => exact ⟨_, (sets_far w.heap.size (p := ⟨w.heap.size + 1, 2, none⟩) (show w.heap.size + 1 ≠ w.heap.size by omega) _ _ _).trans cl2⟩
      | 3, _ => exact ⟨_, (sets_far w.heap.size (p := ⟨w.heap.size + 1, 3, none⟩) (show w.heap.size + 1 ≠ w.heap.size by omega) _ _ _).trans cl3⟩
      | 4, _ => exact ⟨_, (sets_far w.heap.size (p := ⟨w.heap.size + 1, 4, none⟩) (show w.heap.size + 1 ≠ w.heap.size by omega) _ _ _).trans cl4⟩)
    have hwx : wz = ((((((((((w4.setCell ⟨w.heap.size, 0, none⟩ (.int .i64 s1)).setCell ⟨w.heap.size, 1, none⟩ (.int .i64 s2)).setCell ⟨w.heap.size, 2, none⟩ (.int .i64 t1)).setCell ⟨w.heap.size, 3, none⟩ (.int .i64 t2)).setCell ⟨w.heap.size, 4, none⟩ (.int .i64 st)).setCell ⟨w.heap.size + 1, 0, none⟩ (.int .i64 p1)).setCell ⟨w.heap.size + 1, 1, none⟩ (.int .i64 p2)).setCell ⟨w.heap.size + 1, 2, none⟩ (.int .i64 q1)).setCell ⟨w.heap.size + 1, 3, none⟩ (.int .i64 q2)).setCell ⟨w.heap.size + 1, 4, none⟩ (.int .i64 qt)) := hwz
    have z0 : wz.cell? ⟨w.heap.size, 0, none⟩ = some (.int .i64 s1) := by rw [hwz, sets_far (w.heap.size + 1) (p := ⟨w.heap.size, 0, none⟩) (show w.heap.size ≠ w.heap.size + 1 by omega)]; simpa using ha 0 _ rfl
    have z1 : wz.cell? ⟨w.heap.size, 1, none⟩ = some (.int .i64 s2) := by rw [hwz, sets_far (w.heap.size + 1) (p := ⟨w.heap.size, 1, none⟩) (show w.heap.size ≠ w.heap.size + 1 by omega)]; simpa using ha 1 _ rfl
    have z2 : wz.cell? ⟨w.heap.size, 2, none⟩ = some (.int .i64 t1) := by rw [hwz, sets_far (w.heap.size + 1) (p := ⟨w.heap.size, 2, none⟩) (show w.heap.size ≠ w.heap.size + 1 by omega)]; simpa using ha 2 _ rfl
    have z3 : wz.cell? ⟨w.heap.size, 3, none⟩ = some (.int .i64 t2) := by rw [hwz, sets_far (w.heap.size + 1) (p := ⟨w.heap.size, 3, none⟩) (show w.heap.size ≠ w.heap.size + 1 by omega)]; simpa using ha 3 _ rfl
    have z4 : wz.cell? ⟨w.heap.size, 4, none⟩ = some (.int .i64 st) := by rw [hwz, sets_far (w.heap.size + 1) (p := ⟨w.heap.size, 4, none⟩) (show w.heap.size ≠ w.heap.size + 1 by omega)]; simpa using ha 4 _ rfl
    have y0 : wz.cell? ⟨w.heap.size + 1, 0, none⟩ = some (.int .i64 p1) := by rw [hwz]; simpa using hc 0 _ rfl
    have y1 : wz.cell? ⟨w.heap.size + 1, 1, none⟩ = some (.int .i64 p2) := by rw [hwz]; simpa using hc 1 _ rfl
    have y2 : wz.cell? ⟨w.heap.size + 1, 2, none⟩ = some (.int .i64 q1) := by rw [hwz]; simpa using hc 2 _ rfl
    have y3 : wz.cell? ⟨w.heap.size + 1, 3, none⟩ = some (.int .i64 q2) := by rw [hwz]; simpa using hc 3 _ rfl
    have y4 : wz.cell? ⟨w.heap.size + 1, 4, none⟩ = some (.int .i64 qt) := by rw [hwz]; simpa using hc 4 _ rfl
    rw [← hwz] at hBz
    have HBz : Hid (Below w.heap.size w wz) := hBz
    clear ha hc hBz hwz
    have d0' : (((((w4.setCell ⟨w.heap.size, 0, none⟩ (.int .i64 s1)).setCell ⟨w.heap.size, 1, none⟩ (.int .i64 s2)).setCell ⟨w.heap.size, 2, none⟩ (.int .i64 t1)).setCell ⟨w.heap.size, 3, none⟩ (.int .i64 t2)).setCell ⟨w.heap.size, 4, none⟩ (.int .i64 st)).cell? ⟨g, (i + 1) * 5 , none⟩ = some (.int .i64 p1) := (sets_far w.heap.size (p := ⟨g, (i + 1) * 5 , none⟩) hne [Value.int .i64 s1, Value.int .i64 s2, Value.int .i64 t1, Value.int .i64 t2, Value.int .i64 st] w4 0).trans d0
    have d1' : (((((w4.setCell ⟨w.heap.size, 0, none⟩ (.int .i64 s1)).setCell ⟨w.heap.size, 1, none⟩ (.int .i64 s2)).setCell ⟨w.heap.size, 2, none⟩ (.int .i64 t1)).setCell ⟨w.heap.size, 3, none⟩ (.int .i64 t2)).setCell ⟨w.heap.size, 4, none⟩ (.int .i64 st)).cell? ⟨g, (i + 1) * 5 + 1, none⟩ = some (.int .i64 p2) := (sets_far w.heap.size (p := ⟨g, (i + 1) * 5 + 1, none⟩) hne [Value.int .i64 s1, Value.int .i64 s2, Value.int .i64 t1, Value.int .i64 t2, Value.int .i64 st] w4 0).trans d1
    have d2' : (((((w4.setCell ⟨w.heap.size, 0, none⟩ (.int .i64 s1)).setCell ⟨w.heap.size, 1, none⟩ (.int .i64 s2)).setCell ⟨w.heap.size, 2, none⟩ (.int .i64 t1)).setCell ⟨w.heap.size, 3, none⟩ (.int .i64 t2)).setCell ⟨w.heap.size, 4, none⟩ (.int .i64 st)).cell? ⟨g, (i + 1) * 5 + 2, none⟩ = some (.int .i64 q1) := (sets_far w.heap.size (p := ⟨g, (i + 1) * 5 + 2, none⟩) hne [Value.int .i64 s1, Value.int .i64 s2, Value.int .i64 t1, Value.int .i64 t2, Value.int .i64 st] w4 0).trans d2
    have d3' : (((((w4.setCell ⟨w.heap.size, 0, none⟩ (.int .i64 s1)).setCell ⟨w.heap.size, 1, none⟩ (.int .i64 s2)).setCell ⟨w.heap.size, 2, none⟩ (.int .i64 t1)).setCell ⟨w.heap.size, 3, none⟩ (.int .i64 t2)).setCell ⟨w.heap.size, 4, none⟩ (.int .i64 st)).cell? ⟨g, (i + 1) * 5 + 3, none⟩ = some (.int .i64 q2) := (sets_far w.heap.size (p := ⟨g, (i + 1) * 5 + 3, none⟩) hne [Value.int .i64 s1, Value.int .i64 s2, Value.int .i64 t1, Value.int .i64 t2, Value.int .i64 st] w4 0).trans d3
    have d4' : (((((w4.setCell ⟨w.heap.size, 0, none⟩ (.int .i64 s1)).setCell ⟨w.heap.size, 1, none⟩ (.int .i64 s2)).setCell ⟨w.heap.size, 2, none⟩ (.int .i64 t1)).setCell ⟨w.heap.size, 3, none⟩ (.int .i64 t2)).setCell ⟨w.heap.size, 4, none⟩ (.int .i64 st)).cell? ⟨g, (i + 1) * 5 + 4, none⟩ = some (.int .i64 qt) := (sets_far w.heap.size (p := ⟨g, (i + 1) * 5 + 4, none⟩) hne [Value.int .i64 s1, Value.int .i64 s2, Value.int .i64 t1, Value.int .i64 t2, Value.int .i64 st] w4 0).trans d4
    clear hg4 lz4 lc4 hdd
    clear HD3
    go_wp2
    go_region
    all_goals
      rw [← hwx]
      clear hwx hr4
      go_wp2
      refine bodyPost_ret (v := .tuple #[.agg #[.int .i64 s1, .int .i64 s2, .int .i64 t1, .int .i64 t2, .int .i64 st], .agg #[.int .i64 p1, .int .i64 p2, .int .i64 q1, .int .i64 q2, .int .i64 qt]]) (by simp [results, Try.results13, go_sem, z0, z1, z2, z3, z4, y0, y1, y2, y3, y4]) rfl ⟨⟨(s1, s2), (t1, t2), st⟩, ⟨(p1, p2), (q1, q2), qt⟩, rfl, HBz.out.drew⟩
end Go.Proofs.Ytjeoenieoejolac
