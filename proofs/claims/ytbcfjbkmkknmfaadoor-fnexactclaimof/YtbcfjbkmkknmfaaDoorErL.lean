/- FnExactClaimOf: the walk. -/
import Derived.Test.YtbcfjbkmkknmfaaDoorErK
import Derived.Test.YtbcfjbkmkknmfaaDoorErH
import Derived.Test.YtbcfjbkmkknmfaaDoorClB
namespace Go.Proofs.YtbcfjbkmkknmfaaDoor
open Go.RowKit

set_option maxHeartbeats 8000000 in
theorem fnClaimOf_any {a1 a2 a3 a4 : Option Addr} {n1 n2 n3 n4 c1 c2 c3 c4 : Nat} {z1 z2 z3 z4 : List Int} {aL aN : Addr} (s1 s2 e1 e2 : Int) (w : World) (he : Env w aL aN) (h1 : Sees w a1 n1 c1 z1) (h2 : Sees w a2 n2 c2 z2) (h3 : Sees w a3 n3 c3 z3) (h4 : Sees w a4 n4 c4 z4) (m1 : (n1 : Int) ≤ 9223372036854775807) (m2 : (n2 : Int) ≤ 9223372036854775807) (m3 : (n3 : Int) ≤ 9223372036854775807) (m4 : (n4 : Int) ≤ 9223372036854775807) :
    Calls Tryd.prog 4 #[.agg #[.int .i64 s1, .int .i64 s2, .int .i64 e1, .int .i64 e2, .slice a1 n1 c1, .slice a2 n2 c2, .slice a3 n3 c3, .slice a4 n4 c4]] w fun e w' => e = .returned (.bool true) ∧ Below w.heap.size w w' := by
  have HA0 : Hid (Lies (w.alloc (.cells #[.int .i64 s1, .int .i64 s2, .int .i64 e1, .int .i64 e2, .slice a1 n1 c1, .slice a2 n2 c2, .slice a3 n3 c3, .slice a4 n4 c4] 26)) w.heap.size [.int .i64 s1, .int .i64 s2, .int .i64 e1, .int .i64 e2, .slice a1 n1 c1, .slice a2 n2 c2, .slice a3 n3 c3, .slice a4 n4 c4]) := lies_new _ _ _
  have HB0 : Hid (Below w.heap.size w (w.alloc (.cells #[.int .i64 s1, .int .i64 s2, .int .i64 e1, .int .i64 e2, .slice a1 n1 c1, .slice a2 n2 c2, .slice a3 n3 c3, .slice a4 n4 c4] 26))) := (Below.refl _ _).alloc (Nat.le_refl _) _
  have HE : Hid (Env w aL aN) := he
  have H1 : Hid (Sees w a1 n1 c1 z1) := h1
  have H2 : Hid (Sees w a2 n2 c2 z2) := h2
  have H3 : Hid (Sees w a3 n3 c3 z3) := h3
  have H4 : Hid (Sees w a4 n4 c4 z4) := h4
  clear he h1 h2 h3 h4
  obtain ⟨v1, v2, v3, v4, v5, hcv⟩ : ∃ v1 v2 v3 v4 v5 : Int, M.claimV (⟨(s1, s2), (e1, e2), z1, z2, z3, z4⟩ : M.Pf).rows s1 s2 e1 e2 = [.int .i64 v1, .int .i64 v2, .int .i64 v3, .int .i64 v4, .int .i64 v5] := by
    unfold M.claimV; split
    · exact ⟨_, _, _, _, _, rfl⟩
    · exact ⟨_, _, _, _, _, rfl⟩
  obtain ⟨o, hco⟩ : ∃ o : Bool, M.claimB (⟨(s1, s2), (e1, e2), z1, z2, z3, z4⟩ : M.Pf).rows = o := ⟨_, rfl⟩
  have HCV : Hid (M.claimV (⟨(s1, s2), (e1, e2), z1, z2, z3, z4⟩ : M.Pf).rows s1 s2 e1 e2 = [.int .i64 v1, .int .i64 v2, .int .i64 v3, .int .i64 v4, .int .i64 v5]) := hcv
  have HCO : Hid (M.claimB (⟨(s1, s2), (e1, e2), z1, z2, z3, z4⟩ : M.Pf).rows = o) := hco
  clear hcv hco
  go_enter Tryd.func4, Tryd.ntmps4
  go_wp2_with fail
  by_cases hs : (n1 : Int) + (n2 : Int) + (n3 : Int) + (n4 : Int) ≤ 1048576
  case neg =>
    refine (szProof_no s1 s2 e1 e2 _ m1 m2 m3 m4 hs).mono ?_
    rintro e w1 ⟨rfl, hb⟩
    have HB1 : Hid (Below w.heap.size w w1) := HB0.out.trans (hb.mono HB0.out.size)
    clear hb
    go_wp2
    go_ret
    exact ⟨rfl, HB1.out⟩
  refine (szProof_ok s1 s2 e1 e2 _ hs).mono ?_
  rintro e w1 ⟨rfl, hb⟩
  have HA1 : Hid (Lies w1 w.heap.size [.int .i64 s1, .int .i64 s2, .int .i64 e1, .int .i64 e2, .slice a1 n1 c1, .slice a2 n2 c2, .slice a3 n3 c3, .slice a4 n4 c4]) := HA0.out.belowS hb
  have HB1 : Hid (Below w.heap.size w w1) := HB0.out.trans (hb.mono HB0.out.size)
  have hz : ¬ (1048576 - (n1 : Int) - (n2 : Int) - (n3 : Int) - (n4 : Int)) < 0 := by omega
  have l1 : n1 ≤ 1048576 := by omega
  have l2 : n2 ≤ 1048576 := by omega
  have l3 : n3 ≤ 1048576 := by omega
  have l4 : n4 ≤ 1048576 := by omega
  clear hb HA0 HB0
  have x0 : w1.cell? ⟨w.heap.size, 0, none⟩ = some (.int .i64 s1) := HA1.out.at 0
  have x1 : w1.cell? ⟨w.heap.size, 1, none⟩ = some (.int .i64 s2) := HA1.out.at 1
  have x2 : w1.cell? ⟨w.heap.size, 2, none⟩ = some (.int .i64 e1) := HA1.out.at 2
  have x3 : w1.cell? ⟨w.heap.size, 3, none⟩ = some (.int .i64 e2) := HA1.out.at 3
  have x4 : w1.cell? ⟨w.heap.size, 4, none⟩ = some (.slice a1 n1 c1) := HA1.out.at 4
  have x5 : w1.cell? ⟨w.heap.size, 5, none⟩ = some (.slice a2 n2 c2) := HA1.out.at 5
  have x6 : w1.cell? ⟨w.heap.size, 6, none⟩ = some (.slice a3 n3 c3) := HA1.out.at 6
  have x7 : w1.cell? ⟨w.heap.size, 7, none⟩ = some (.slice a4 n4 c4) := HA1.out.at 7
  go_wp2_with fail
  refine (toProof_any s1 s2 e1 e2 _ (H1.out.below HB1.out) (H2.out.below HB1.out) (H3.out.below HB1.out) (H4.out.below HB1.out) l1 l2 l3 l4).mono ?_
  rintro e w2 ⟨u1, u2, u3, u4, rfl, ⟨o1, o2, o3, o4⟩, hb⟩
  have HA2 : Hid (Lies w2 w.heap.size [.int .i64 s1, .int .i64 s2, .int .i64 e1, .int .i64 e2, .slice a1 n1 c1, .slice a2 n2 c2, .slice a3 n3 c3, .slice a4 n4 c4]) := HA1.out.belowS hb
  have HB2 : Hid (Below w.heap.size w w2) := HB1.out.trans (hb.mono HB1.out.size)
  have Su1 : Hid (Sees w2 u1 n1 n1 z1) := o1.sees
  have Su2 : Hid (Sees w2 u2 n2 n2 z2) := o2.sees
  have Su3 : Hid (Sees w2 u3 n3 n3 z3) := o3.sees
  have Su4 : Hid (Sees w2 u4 n4 n4 z4) := o4.sees
  clear hb o1 o2 o3 o4 HA1 HB1 x0 x1 x2 x3 x4 x5 x6 x7
  have CS := specClaimOf_any s1 s2 e1 e2 w2 Su1.out Su2.out Su3.out Su4.out l1 l2 l3 l4
  rw [HCV.out, HCO.out] at CS
  go_wp2_with fail
  refine CS.mono ?_
  rintro e w3 ⟨rfl, hb⟩
  have HA3 : Hid (Lies w3 w.heap.size [.int .i64 s1, .int .i64 s2, .int .i64 e1, .int .i64 e2, .slice a1 n1 c1, .slice a2 n2 c2, .slice a3 n3 c3, .slice a4 n4 c4]) := HA2.out.belowS hb
  have HB3 : Hid (Below w.heap.size w w3) := HB2.out.trans (hb.mono HB2.out.size)
  clear hb HA2 HB2 Su1 Su2 Su3 Su4 CS
  have HC4 : Hid (Lies (w3.alloc (.cells #[.int .i64 v1, .int .i64 v2, .int .i64 v3, .int .i64 v4, .int .i64 v5] 36)) w3.heap.size [.int .i64 v1, .int .i64 v2, .int .i64 v3, .int .i64 v4, .int .i64 v5]) := lies_new _ _ _
  have HA4 : Hid (Lies (w3.alloc (.cells #[.int .i64 v1, .int .i64 v2, .int .i64 v3, .int .i64 v4, .int .i64 v5] 36)) w.heap.size [.int .i64 s1, .int .i64 s2, .int .i64 e1, .int .i64 e2, .slice a1 n1 c1, .slice a2 n2 c2, .slice a3 n3 c3, .slice a4 n4 c4]) := HA3.out.alloc _
  have HB4 : Hid (Below w.heap.size w (w3.alloc (.cells #[.int .i64 v1, .int .i64 v2, .int .i64 v3, .int .i64 v4, .int .i64 v5] 36))) := HB3.out.alloc HB3.out.size _
  have x0 : (w3.alloc (.cells #[.int .i64 v1, .int .i64 v2, .int .i64 v3, .int .i64 v4, .int .i64 v5] 36)).cell? ⟨w.heap.size, 0, none⟩ = some (.int .i64 s1) := HA4.out.at 0
  have x1 : (w3.alloc (.cells #[.int .i64 v1, .int .i64 v2, .int .i64 v3, .int .i64 v4, .int .i64 v5] 36)).cell? ⟨w.heap.size, 1, none⟩ = some (.int .i64 s2) := HA4.out.at 1
  have x2 : (w3.alloc (.cells #[.int .i64 v1, .int .i64 v2, .int .i64 v3, .int .i64 v4, .int .i64 v5] 36)).cell? ⟨w.heap.size, 2, none⟩ = some (.int .i64 e1) := HA4.out.at 2
  have x3 : (w3.alloc (.cells #[.int .i64 v1, .int .i64 v2, .int .i64 v3, .int .i64 v4, .int .i64 v5] 36)).cell? ⟨w.heap.size, 3, none⟩ = some (.int .i64 e2) := HA4.out.at 3
  have x4 : (w3.alloc (.cells #[.int .i64 v1, .int .i64 v2, .int .i64 v3, .int .i64 v4, .int .i64 v5] 36)).cell? ⟨w.heap.size, 4, none⟩ = some (.slice a1 n1 c1) := HA4.out.at 4
  have x5 : (w3.alloc (.cells #[.int .i64 v1, .int .i64 v2, .int .i64 v3, .int .i64 v4, .int .i64 v5] 36)).cell? ⟨w.heap.size, 5, none⟩ = some (.slice a2 n2 c2) := HA4.out.at 5
  have x6 : (w3.alloc (.cells #[.int .i64 v1, .int .i64 v2, .int .i64 v3, .int .i64 v4, .int .i64 v5] 36)).cell? ⟨w.heap.size, 6, none⟩ = some (.slice a3 n3 c3) := HA4.out.at 6
  have x7 : (w3.alloc (.cells #[.int .i64 v1, .int .i64 v2, .int .i64 v3, .int .i64 v4, .int .i64 v5] 36)).cell? ⟨w.heap.size, 7, none⟩ = some (.slice a4 n4 c4) := HA4.out.at 7
  go_wp2_with fail
  generalize (w3.alloc (.cells #[.int .i64 v1, .int .i64 v2, .int .i64 v3, .int .i64 v4, .int .i64 v5] 36)) = w4 at HC4 HA4 HB4 ⊢ x0 x1 x2 x3 x4 x5 x6 x7
  generalize w3.heap.size = cb at HC4 ⊢
  refine (toProof_any s1 s2 e1 e2 _ (H1.out.below HB4.out) (H2.out.below HB4.out) (H3.out.below HB4.out) (H4.out.below HB4.out) l1 l2 l3 l4).mono ?_
  rintro e w5 ⟨g1, g2, g3, g4, rfl, ⟨o1, o2, o3, o4⟩, hb⟩
  have HA5 : Hid (Lies w5 w.heap.size [.int .i64 s1, .int .i64 s2, .int .i64 e1, .int .i64 e2, .slice a1 n1 c1, .slice a2 n2 c2, .slice a3 n3 c3, .slice a4 n4 c4]) := HA4.out.belowS hb
  have HB5 : Hid (Below w.heap.size w w5) := HB4.out.trans (hb.mono HB4.out.size)
  have Sg1 : Hid (Sees w5 g1 n1 n1 z1) := o1.sees
  have Sg2 : Hid (Sees w5 g2 n2 n2 z2) := o2.sees
  have Sg3 : Hid (Sees w5 g3 n3 n3 z3) := o3.sees
  have Sg4 : Hid (Sees w5 g4 n4 n4 z4) := o4.sees
  have HC5 : Hid (Lies w5 cb [.int .i64 v1, .int .i64 v2, .int .i64 v3, .int .i64 v4, .int .i64 v5]) := HC4.out.belowS hb
  clear hb o1 o2 o3 o4 HA3 HB3 HA4 HB4 HC4 x0 x1 x2 x3 x4 x5 x6 x7
  go_wp2_with fail
  have HP6 : Hid (Lies (w5.alloc (.cells #[.int .i64 s1, .int .i64 s2, .int .i64 e1, .int .i64 e2, .slice g1 n1 n1, .slice g2 n2 n2, .slice g3 n3 n3, .slice g4 n4 n4] 31)) w5.heap.size [.int .i64 s1, .int .i64 s2, .int .i64 e1, .int .i64 e2, .slice g1 n1 n1, .slice g2 n2 n2, .slice g3 n3 n3, .slice g4 n4 n4]) := lies_new _ _ _
  have HY : Hid (Below w5.heap.size w5 (w5.alloc (.cells #[.int .i64 s1, .int .i64 s2, .int .i64 e1, .int .i64 e2, .slice g1 n1 n1, .slice g2 n2 n2, .slice g3 n3 n3, .slice g4 n4 n4] 31))) := (Below.refl _ _).alloc (Nat.le_refl _) _
  generalize (w5.alloc (.cells #[.int .i64 s1, .int .i64 s2, .int .i64 e1, .int .i64 e2, .slice g1 n1 n1, .slice g2 n2 n2, .slice g3 n3 n3, .slice g4 n4 n4] 31)) = w6 at HP6 HY ⊢
  generalize w5.heap.size = pb at HP6 ⊢
  have HA6 : Hid (Lies w6 w.heap.size [.int .i64 s1, .int .i64 s2, .int .i64 e1, .int .i64 e2, .slice a1 n1 c1, .slice a2 n2 c2, .slice a3 n3 c3, .slice a4 n4 c4]) := HA5.out.belowS HY.out
  have HC6 : Hid (Lies w6 cb [.int .i64 v1, .int .i64 v2, .int .i64 v3, .int .i64 v4, .int .i64 v5]) := HC5.out.belowS HY.out
  have HB6 : Hid (Below w.heap.size w w6) := HB5.out.trans (HY.out.mono HB5.out.size)
  have Sh1 : Hid (Sees w6 g1 n1 n1 z1) := Sg1.out.below HY.out
  have Sh2 : Hid (Sees w6 g2 n2 n2 z2) := Sg2.out.below HY.out
  have Sh3 : Hid (Sees w6 g3 n3 n3 z3) := Sg3.out.below HY.out
  have Sh4 : Hid (Sees w6 g4 n4 n4 z4) := Sg4.out.below HY.out
  clear HA5 HB5 HC5 HY Sg1 Sg2 Sg3 Sg4
  have CI := implClaimOf_any s1 s2 e1 e2 w6 (HE.out.below HB6.out) Sh1.out Sh2.out Sh3.out Sh4.out
  rw [HCV.out, HCO.out] at CI
  refine CI.mono ?_
  rintro e w7 ⟨rfl, hb⟩
  have HA7 : Hid (Lies w7 w.heap.size [.int .i64 s1, .int .i64 s2, .int .i64 e1, .int .i64 e2, .slice a1 n1 c1, .slice a2 n2 c2, .slice a3 n3 c3, .slice a4 n4 c4]) := HA6.out.belowS hb
  have HP7 : Hid (Lies w7 pb [.int .i64 s1, .int .i64 s2, .int .i64 e1, .int .i64 e2, .slice g1 n1 n1, .slice g2 n2 n2, .slice g3 n3 n3, .slice g4 n4 n4]) := HP6.out.belowS hb
  have HC7 : Hid (Lies w7 cb [.int .i64 v1, .int .i64 v2, .int .i64 v3, .int .i64 v4, .int .i64 v5]) := HC6.out.belowS hb
  have HB7 : Hid (Below w.heap.size w w7) := HB6.out.trans (hb.mono HB6.out.size)
  have Si1 : Hid (Sees w7 g1 n1 n1 z1) := Sh1.out.below hb
  have Si2 : Hid (Sees w7 g2 n2 n2 z2) := Sh2.out.below hb
  have Si3 : Hid (Sees w7 g3 n3 n3 z3) := Sh3.out.below hb
  have Si4 : Hid (Sees w7 g4 n4 n4 z4) := Sh4.out.below hb
  clear hb HA6 HB6 HP6 HC6 Sh1 Sh2 Sh3 Sh4 CI
  have HD8 : Hid (Lies (w7.alloc (.cells #[.int .i64 v1, .int .i64 v2, .int .i64 v3, .int .i64 v4, .int .i64 v5] 36)) w7.heap.size [.int .i64 v1, .int .i64 v2, .int .i64 v3, .int .i64 v4, .int .i64 v5]) := lies_new _ _ _
  have HC8 : Hid (Lies (w7.alloc (.cells #[.int .i64 v1, .int .i64 v2, .int .i64 v3, .int .i64 v4, .int .i64 v5] 36)) cb [.int .i64 v1, .int .i64 v2, .int .i64 v3, .int .i64 v4, .int .i64 v5]) := HC7.out.alloc _
  have d0 : (w7.alloc (.cells #[.int .i64 v1, .int .i64 v2, .int .i64 v3, .int .i64 v4, .int .i64 v5] 36)).cell? ⟨w7.heap.size, 0, none⟩ = some (.int .i64 v1) := HD8.out.at 0
  have d1 : (w7.alloc (.cells #[.int .i64 v1, .int .i64 v2, .int .i64 v3, .int .i64 v4, .int .i64 v5] 36)).cell? ⟨w7.heap.size, 1, none⟩ = some (.int .i64 v2) := HD8.out.at 1
  have d2 : (w7.alloc (.cells #[.int .i64 v1, .int .i64 v2, .int .i64 v3, .int .i64 v4, .int .i64 v5] 36)).cell? ⟨w7.heap.size, 2, none⟩ = some (.int .i64 v3) := HD8.out.at 2
  have d3 : (w7.alloc (.cells #[.int .i64 v1, .int .i64 v2, .int .i64 v3, .int .i64 v4, .int .i64 v5] 36)).cell? ⟨w7.heap.size, 3, none⟩ = some (.int .i64 v4) := HD8.out.at 3
  have d4 : (w7.alloc (.cells #[.int .i64 v1, .int .i64 v2, .int .i64 v3, .int .i64 v4, .int .i64 v5] 36)).cell? ⟨w7.heap.size, 4, none⟩ = some (.int .i64 v5) := HD8.out.at 4
  have y0 : (w7.alloc (.cells #[.int .i64 v1, .int .i64 v2, .int .i64 v3, .int .i64 v4, .int .i64 v5] 36)).cell? ⟨cb, 0, none⟩ = some (.int .i64 v1) := HC8.out.at 0
  have y1 : (w7.alloc (.cells #[.int .i64 v1, .int .i64 v2, .int .i64 v3, .int .i64 v4, .int .i64 v5] 36)).cell? ⟨cb, 1, none⟩ = some (.int .i64 v2) := HC8.out.at 1
  have y2 : (w7.alloc (.cells #[.int .i64 v1, .int .i64 v2, .int .i64 v3, .int .i64 v4, .int .i64 v5] 36)).cell? ⟨cb, 2, none⟩ = some (.int .i64 v3) := HC8.out.at 2
  have y3 : (w7.alloc (.cells #[.int .i64 v1, .int .i64 v2, .int .i64 v3, .int .i64 v4, .int .i64 v5] 36)).cell? ⟨cb, 3, none⟩ = some (.int .i64 v4) := HC8.out.at 3
  have y4 : (w7.alloc (.cells #[.int .i64 v1, .int .i64 v2, .int .i64 v3, .int .i64 v4, .int .i64 v5] 36)).cell? ⟨cb, 4, none⟩ = some (.int .i64 v5) := HC8.out.at 4
  go_wp2_with fail
  refine (eqClaim_same ⟨(v1, v2), (v3, v4), v5⟩ _).mono ?_
  rintro e wq ⟨rfl, hb⟩
  have HX8 : Hid (Below w7.heap.size w7 wq) := ((Below.refl _ _).alloc (Nat.le_refl _) _).trans (hb.mono (by simp))
  have HA9 : Hid (Lies wq w.heap.size [.int .i64 s1, .int .i64 s2, .int .i64 e1, .int .i64 e2, .slice a1 n1 c1, .slice a2 n2 c2, .slice a3 n3 c3, .slice a4 n4 c4]) := HA7.out.belowS HX8.out
  have HP9 : Hid (Lies wq pb [.int .i64 s1, .int .i64 s2, .int .i64 e1, .int .i64 e2, .slice g1 n1 n1, .slice g2 n2 n2, .slice g3 n3 n3, .slice g4 n4 n4]) := HP7.out.belowS HX8.out
  have HB9 : Hid (Below w.heap.size w wq) := HB7.out.trans (HX8.out.mono HB7.out.size)
  have Sj1 : Hid (Sees wq g1 n1 n1 z1) := Si1.out.below HX8.out
  have Sj2 : Hid (Sees wq g2 n2 n2 z2) := Si2.out.below HX8.out
  have Sj3 : Hid (Sees wq g3 n3 n3 z3) := Si3.out.below HX8.out
  have Sj4 : Hid (Sees wq g4 n4 n4 z4) := Si4.out.below HX8.out
  clear hb HX8 HA7 HB7 HP7 HC7 HD8 HC8 Si1 Si2 Si3 Si4 d0 d1 d2 d3 d4 y0 y1 y2 y3 y4
  have hne : (o != o) = false := by simp
  go_wp2_with fail
  refine wp_region_noPanic ?_
  refine wp_region_held_drew (S := fun W => wq.grownBy W none) (by kernel_rfl) (grown_drew _ _) (fun hHeld => ?_)
  generalize wq.drew = wd0 at hHeld ⊢
  refine wpAnyH_take (i := 0) (v := .agg ([.int .i64 s1, .int .i64 s2, .int .i64 e1, .int .i64 e2, .slice g1 n1 n1, .slice g2 n2 n2, .slice g3 n3 n3, .slice g4 n4 n4]).toArray) rfl (by kernel_rfl) (by kernel_rfl) (by kernel_rfl) (fun _ _ _ h => h) (yieldsIf_load_mid (by kernel_rfl) 31 (.tmp 6) rfl pb 0 rfl ([.int .i64 s1, .int .i64 s2, .int .i64 e1, .int .i64 e2, .slice g1 n1 n1, .slice g2 n2 n2, .slice g3 n3 n3, .slice g4 n4 n4]) _ (fun W h => (HP9.out.grown h (by simp)).row) Tryd.underlying31 rfl (by kernel_rfl)) (by assumption) ?_
  try simp only [Act.put]
  refine wpAnyH_take (i := 1) (v := .agg ([.int .i64 s1, .int .i64 s2, .int .i64 e1, .int .i64 e2, .slice a1 n1 c1, .slice a2 n2 c2, .slice a3 n3 c3, .slice a4 n4 c4]).toArray) rfl (by kernel_rfl) (by kernel_rfl) (by kernel_rfl) (fun _ _ _ h => h) (yieldsIf_load_mid (by kernel_rfl) 26 (.tmp 1) rfl w.heap.size 0 rfl ([.int .i64 s1, .int .i64 s2, .int .i64 e1, .int .i64 e2, .slice a1 n1 c1, .slice a2 n2 c2, .slice a3 n3 c3, .slice a4 n4 c4]) _ (fun W h => (HA9.out.grown h (by simp)).row) Tryd.underlying26 rfl (by kernel_rfl)) (by assumption) ?_
  try simp only [Act.put]
  have HBd : Hid (Below w.heap.size w wd0) := HB9.out.grown hHeld HB9.out.size (by simp)
  refine wpAnyH_ready (rs := [2]) (by kernel_rfl) (by simp) ?_
  refine AllReadyH.cons rfl (fun Kk hK => ?_) AllReadyH.nil
  go_simp
  refine (toProof_any s1 s2 e1 e2 _ (H1.out.below HBd.out) (H2.out.below HBd.out) (H3.out.below HBd.out) (H4.out.below HBd.out) l1 l2 l3 l4).mono ?_
  rintro e wd1 ⟨k1, k2, k3, k4, rfl, ⟨o1, o2, o3, o4⟩, hb1⟩
  go_simp
  have hS1 : wq.grownBy wd1 none := grown_step hHeld hb1
  have HX1 : Hid (Below wq.heap.size wq wd1) := ⟨hS1.os, hS1.tape, hS1.output, hS1.size, fun k hk => hS1.block k hk (by simp)⟩
  have Sk1 : Hid (Sees wd1 k1 n1 n1 z1) := o1.sees
  have Sk2 : Hid (Sees wd1 k2 n2 n2 z2) := o2.sees
  have Sk3 : Hid (Sees wd1 k3 n3 n3 z3) := o3.sees
  have Sk4 : Hid (Sees wd1 k4 n4 n4 z4) := o4.sees
  have Sx1 : Hid (Sees wd1 g1 n1 n1 z1) := Sj1.out.below HX1.out
  have Sx2 : Hid (Sees wd1 g2 n2 n2 z2) := Sj2.out.below HX1.out
  have Sx3 : Hid (Sees wd1 g3 n3 n3 z3) := Sj3.out.below HX1.out
  have Sx4 : Hid (Sees wd1 g4 n4 n4 z4) := Sj4.out.below HX1.out
  clear o1 o2 o3 o4
  refine hK.out _ _ hS1 (fun _ => ?_)
  clear hK Kk hb1
  try simp only [Act.put]
  refine wpAnyH_ready (rs := [3]) (by kernel_rfl) (by simp) ?_
  refine AllReadyH.cons rfl (fun Kk hK => ?_) AllReadyH.nil
  go_simp
  refine (eqProof_eq s1 s2 e1 e2 _ Sx1.out Sx2.out Sx3.out Sx4.out Sk1.out Sk2.out Sk3.out Sk4.out).mono ?_
  rintro e wd2 ⟨rfl, hb2⟩
  go_simp
  have hS2 : wq.grownBy wd2 none := grown_step hS1 hb2
  have HBe : Hid (Below w.heap.size w wd2) := HB9.out.grown hS2 HB9.out.size (by simp)
  refine hK.out _ _ hS2 (fun _ => ?_)
  clear hK Kk hb2
  try simp only [Act.put]
  refine wpAnyH_take (i := 4) (v := .bool false) rfl (by kernel_rfl) (by kernel_rfl) (by kernel_rfl) (fun _ _ _ h => h) (Or.inl ⟨by kernel_rfl, ?_⟩) (by assumption) ?_
  · intro wq hSq; go_simp
  try simp only [Act.put]
  refine wpAnyH_done (by kernel_rfl) ?_ _
  refine NoPanic.normal ?_
  go_simp
  go_wp2
  go_ret
  exact ⟨rfl, HBe.out⟩
end Go.Proofs.YtbcfjbkmkknmfaaDoor
