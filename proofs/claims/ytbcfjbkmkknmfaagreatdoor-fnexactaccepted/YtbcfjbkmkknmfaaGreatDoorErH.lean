/- A law's proof: how much it holds, and turned into the program's. -/
import Derived.Test.YtbcfjbkmkknmfaaGreatDoorPfA
import Derived.Test.YtbcfjbkmkknmfaaGreatDoorMaO
import Derived.Test.YtbcfjbkmkknmfaaGreatDoorMaJ
namespace Go.Proofs.YtbcfjbkmkknmfaaGreatDoor
open Go.RowKit

set_option maxHeartbeats 4000000 in
theorem szProof_ok {a1 a2 a3 a4 : Option Addr} {n1 n2 n3 n4 c1 c2 c3 c4 : Nat} (s1 s2 e1 e2 : Int) (w : World) (h : (n1 : Int) + (n2 : Int) + (n3 : Int) + (n4 : Int) ≤ 1048576) :
    Calls Tryz.prog 22 #[.agg #[.int .i64 s1, .int .i64 s2, .int .i64 e1, .int .i64 e2, .slice a1 n1 c1, .slice a2 n2 c2, .slice a3 n3 c3, .slice a4 n4 c4], .int .i64 1048576] w fun e w' => e = .returned (.int .i64 (1048576 - (n1 : Int) - (n2 : Int) - (n3 : Int) - (n4 : Int))) ∧ Below w.heap.size w w' := by
  have HB : Hid (Below w.heap.size w (w.alloc (.cells #[.int .i64 s1, .int .i64 s2, .int .i64 e1, .int .i64 e2, .slice a1 n1 c1, .slice a2 n2 c2, .slice a3 n3 c3, .slice a4 n4 c4] 55))) := (Below.refl _ _).alloc (Nat.le_refl _) _
  have b1 : ¬ (1048576 - (n1 : Int)) < 0 := by omega
  have b2 : ¬ (1048576 - (n1 : Int) - (n2 : Int)) < 0 := by omega
  have b3 : ¬ (1048576 - (n1 : Int) - (n2 : Int) - (n3 : Int)) < 0 := by omega
  have b4 : ¬ (1048576 - (n1 : Int) - (n2 : Int) - (n3 : Int) - (n4 : Int)) < 0 := by omega
  go_enter Tryz.func22, Tryz.ntmps22
  go_wp2
  go_ret
  exact ⟨rfl, HB.out⟩
set_option maxHeartbeats 4000000 in
theorem szProof_no1 {a1 a2 a3 a4 : Option Addr} {n1 n2 n3 n4 c1 c2 c3 c4 : Nat} (s1 s2 e1 e2 : Int) (w : World) (l1 : (n1 : Int) ≤ 9223372036854775807) (l2 : (n2 : Int) ≤ 9223372036854775807) (l3 : (n3 : Int) ≤ 9223372036854775807) (l4 : (n4 : Int) ≤ 9223372036854775807) (hp : 0 ≤ (1048576 : Int)) (h : (1048576 - (n1 : Int)) < 0) :
    Calls Tryz.prog 22 #[.agg #[.int .i64 s1, .int .i64 s2, .int .i64 e1, .int .i64 e2, .slice a1 n1 c1, .slice a2 n2 c2, .slice a3 n3 c3, .slice a4 n4 c4], .int .i64 1048576] w fun e w' => e = .returned (.int .i64 (-1)) ∧ Below w.heap.size w w' := by
  have HB : Hid (Below w.heap.size w (w.alloc (.cells #[.int .i64 s1, .int .i64 s2, .int .i64 e1, .int .i64 e2, .slice a1 n1 c1, .slice a2 n2 c2, .slice a3 n3 c3, .slice a4 n4 c4] 55))) := (Below.refl _ _).alloc (Nat.le_refl _) _
  have hq := And.intro l1 (And.intro l2 (And.intro l3 (And.intro l4 hp)))
  clear hq hp
  go_enter Tryz.func22, Tryz.ntmps22
  go_wp2
  go_ret
  exact ⟨rfl, HB.out⟩
set_option maxHeartbeats 4000000 in
theorem szProof_no2 {a1 a2 a3 a4 : Option Addr} {n1 n2 n3 n4 c1 c2 c3 c4 : Nat} (s1 s2 e1 e2 : Int) (w : World) (l1 : (n1 : Int) ≤ 9223372036854775807) (l2 : (n2 : Int) ≤ 9223372036854775807) (l3 : (n3 : Int) ≤ 9223372036854775807) (l4 : (n4 : Int) ≤ 9223372036854775807) (hp : 0 ≤ (1048576 - (n1 : Int))) (h : (1048576 - (n1 : Int) - (n2 : Int)) < 0) :
    Calls Tryz.prog 22 #[.agg #[.int .i64 s1, .int .i64 s2, .int .i64 e1, .int .i64 e2, .slice a1 n1 c1, .slice a2 n2 c2, .slice a3 n3 c3, .slice a4 n4 c4], .int .i64 1048576] w fun e w' => e = .returned (.int .i64 (-1)) ∧ Below w.heap.size w w' := by
  have HB : Hid (Below w.heap.size w (w.alloc (.cells #[.int .i64 s1, .int .i64 s2, .int .i64 e1, .int .i64 e2, .slice a1 n1 c1, .slice a2 n2 c2, .slice a3 n3 c3, .slice a4 n4 c4] 55))) := (Below.refl _ _).alloc (Nat.le_refl _) _
  have b1 : ¬ (1048576 - (n1 : Int)) < 0 := by omega
  have hq := And.intro l1 (And.intro l2 (And.intro l3 (And.intro l4 hp)))
  clear hq hp
  go_enter Tryz.func22, Tryz.ntmps22
  go_wp2
  go_ret
  exact ⟨rfl, HB.out⟩
set_option maxHeartbeats 4000000 in
theorem szProof_no3 {a1 a2 a3 a4 : Option Addr} {n1 n2 n3 n4 c1 c2 c3 c4 : Nat} (s1 s2 e1 e2 : Int) (w : World) (l1 : (n1 : Int) ≤ 9223372036854775807) (l2 : (n2 : Int) ≤ 9223372036854775807) (l3 : (n3 : Int) ≤ 9223372036854775807) (l4 : (n4 : Int) ≤ 9223372036854775807) (hp : 0 ≤ (1048576 - (n1 : Int) - (n2 : Int))) (h : (1048576 - (n1 : Int) - (n2 : Int) - (n3 : Int)) < 0) :
    Calls Tryz.prog 22 #[.agg #[.int .i64 s1, .int .i64 s2, .int .i64 e1, .int .i64 e2, .slice a1 n1 c1, .slice a2 n2 c2, .slice a3 n3 c3, .slice a4 n4 c4], .int .i64 1048576] w fun e w' => e = .returned (.int .i64 (-1)) ∧ Below w.heap.size w w' := by
  have HB : Hid (Below w.heap.size w (w.alloc (.cells #[.int .i64 s1, .int .i64 s2, .int .i64 e1, .int .i64 e2, .slice a1 n1 c1, .slice a2 n2 c2, .slice a3 n3 c3, .slice a4 n4 c4] 55))) := (Below.refl _ _).alloc (Nat.le_refl _) _
  have b1 : ¬ (1048576 - (n1 : Int)) < 0 := by omega
  have b2 : ¬ (1048576 - (n1 : Int) - (n2 : Int)) < 0 := by omega
  have hq := And.intro l1 (And.intro l2 (And.intro l3 (And.intro l4 hp)))
  clear hq hp
  go_enter Tryz.func22, Tryz.ntmps22
  go_wp2
  go_ret
  exact ⟨rfl, HB.out⟩
set_option maxHeartbeats 4000000 in
theorem szProof_no4 {a1 a2 a3 a4 : Option Addr} {n1 n2 n3 n4 c1 c2 c3 c4 : Nat} (s1 s2 e1 e2 : Int) (w : World) (l1 : (n1 : Int) ≤ 9223372036854775807) (l2 : (n2 : Int) ≤ 9223372036854775807) (l3 : (n3 : Int) ≤ 9223372036854775807) (l4 : (n4 : Int) ≤ 9223372036854775807) (hp : 0 ≤ (1048576 - (n1 : Int) - (n2 : Int) - (n3 : Int))) (h : (1048576 - (n1 : Int) - (n2 : Int) - (n3 : Int) - (n4 : Int)) < 0) :
    Calls Tryz.prog 22 #[.agg #[.int .i64 s1, .int .i64 s2, .int .i64 e1, .int .i64 e2, .slice a1 n1 c1, .slice a2 n2 c2, .slice a3 n3 c3, .slice a4 n4 c4], .int .i64 1048576] w fun e w' => e = .returned (.int .i64 (-1)) ∧ Below w.heap.size w w' := by
  have HB : Hid (Below w.heap.size w (w.alloc (.cells #[.int .i64 s1, .int .i64 s2, .int .i64 e1, .int .i64 e2, .slice a1 n1 c1, .slice a2 n2 c2, .slice a3 n3 c3, .slice a4 n4 c4] 55))) := (Below.refl _ _).alloc (Nat.le_refl _) _
  have b1 : ¬ (1048576 - (n1 : Int)) < 0 := by omega
  have b2 : ¬ (1048576 - (n1 : Int) - (n2 : Int)) < 0 := by omega
  have b3 : ¬ (1048576 - (n1 : Int) - (n2 : Int) - (n3 : Int)) < 0 := by omega
  have hq := And.intro l1 (And.intro l2 (And.intro l3 (And.intro l4 hp)))
  clear hq hp
  go_enter Tryz.func22, Tryz.ntmps22
  go_wp2
  go_ret
  exact ⟨rfl, HB.out⟩
theorem szProof_no {a1 a2 a3 a4 : Option Addr} {n1 n2 n3 n4 c1 c2 c3 c4 : Nat} (s1 s2 e1 e2 : Int) (w : World) (l1 : (n1 : Int) ≤ 9223372036854775807) (l2 : (n2 : Int) ≤ 9223372036854775807) (l3 : (n3 : Int) ≤ 9223372036854775807) (l4 : (n4 : Int) ≤ 9223372036854775807) (h : ¬ (n1 : Int) + (n2 : Int) + (n3 : Int) + (n4 : Int) ≤ 1048576) :
    Calls Tryz.prog 22 #[.agg #[.int .i64 s1, .int .i64 s2, .int .i64 e1, .int .i64 e2, .slice a1 n1 c1, .slice a2 n2 c2, .slice a3 n3 c3, .slice a4 n4 c4], .int .i64 1048576] w fun e w' => e = .returned (.int .i64 (-1)) ∧ Below w.heap.size w w' := by
  by_cases h1 : (1048576 - (n1 : Int)) < 0
  · exact szProof_no1 s1 s2 e1 e2 w l1 l2 l3 l4 (by omega) h1
  by_cases h2 : (1048576 - (n1 : Int) - (n2 : Int)) < 0
  · exact szProof_no2 s1 s2 e1 e2 w l1 l2 l3 l4 (by omega) h2
  by_cases h3 : (1048576 - (n1 : Int) - (n2 : Int) - (n3 : Int)) < 0
  · exact szProof_no3 s1 s2 e1 e2 w l1 l2 l3 l4 (by omega) h3
  · exact szProof_no4 s1 s2 e1 e2 w l1 l2 l3 l4 (by omega) (by omega)
set_option maxHeartbeats 8000000 in
theorem toProof_any {a1 a2 a3 a4 : Option Addr} {n1 n2 n3 n4 c1 c2 c3 c4 : Nat} {z1 z2 z3 z4 : List Int} (s1 s2 e1 e2 : Int) (w : World) (h1 : Sees w a1 n1 c1 z1) (h2 : Sees w a2 n2 c2 z2) (h3 : Sees w a3 n3 c3 z3) (h4 : Sees w a4 n4 c4 z4) (l1 : n1 ≤ 1048576) (l2 : n2 ≤ 1048576) (l3 : n3 ≤ 1048576) (l4 : n4 ≤ 1048576) :
    Calls Tryz.prog 24 #[.agg #[.int .i64 s1, .int .i64 s2, .int .i64 e1, .int .i64 e2, .slice a1 n1 c1, .slice a2 n2 c2, .slice a3 n3 c3, .slice a4 n4 c4]] w fun e w' => ∃ b1 b2 b3 b4, e = .returned (.agg #[.int .i64 s1, .int .i64 s2, .int .i64 e1, .int .i64 e2, .slice b1 n1 n1, .slice b2 n2 n2, .slice b3 n3 n3, .slice b4 n4 n4]) ∧ (Owns 2 w' w.heap.size b1 n1 n1 z1 ∧ Owns 2 w' w.heap.size b2 n2 n2 z2 ∧ Owns 2 w' w.heap.size b3 n3 n3 z3 ∧ Owns 2 w' w.heap.size b4 n4 n4 z4) ∧ Below w.heap.size w w' := by
  have C1 := toState_any (s1, s2)
  have C2 := toState_any (e1, e2)
  dsimp only [stv] at C1 C2
  have H1 : Hid (Sees w a1 n1 c1 z1) := h1
  have H2 : Hid (Sees w a2 n2 c2 z2) := h2
  have H3 : Hid (Sees w a3 n3 c3 z3) := h3
  have H4 : Hid (Sees w a4 n4 c4 z4) := h4
  have HA0 : Hid (Lies (((w.alloc (.cells #[.int .i64 s1, .int .i64 s2, .int .i64 e1, .int .i64 e2, .slice a1 n1 c1, .slice a2 n2 c2, .slice a3 n3 c3, .slice a4 n4 c4] 55)).alloc (.cells #[.int .i64 0, .int .i64 0, .int .i64 0, .int .i64 0, .slice none 0 0, .slice none 0 0, .slice none 0 0, .slice none 0 0] 34)).alloc (.cells #[.int .i64 0, .int .i64 0, .int .i64 0, .int .i64 0, .slice none 0 0, .slice none 0 0, .slice none 0 0, .slice none 0 0] 34)) w.heap.size [.int .i64 s1, .int .i64 s2, .int .i64 e1, .int .i64 e2, .slice a1 n1 c1, .slice a2 n2 c2, .slice a3 n3 c3, .slice a4 n4 c4]) := ((lies_new _ _ _).alloc _).alloc _
  have HR0 : Hid (Lies (((w.alloc (.cells #[.int .i64 s1, .int .i64 s2, .int .i64 e1, .int .i64 e2, .slice a1 n1 c1, .slice a2 n2 c2, .slice a3 n3 c3, .slice a4 n4 c4] 55)).alloc (.cells #[.int .i64 0, .int .i64 0, .int .i64 0, .int .i64 0, .slice none 0 0, .slice none 0 0, .slice none 0 0, .slice none 0 0] 34)).alloc (.cells #[.int .i64 0, .int .i64 0, .int .i64 0, .int .i64 0, .slice none 0 0, .slice none 0 0, .slice none 0 0, .slice none 0 0] 34)) (w.heap.size + 1) [.int .i64 0, .int .i64 0, .int .i64 0, .int .i64 0, .slice none 0 0, .slice none 0 0, .slice none 0 0, .slice none 0 0]) := (lies_new2 _ _ _ _).alloc _
  have HO0 : Hid (Lies (((w.alloc (.cells #[.int .i64 s1, .int .i64 s2, .int .i64 e1, .int .i64 e2, .slice a1 n1 c1, .slice a2 n2 c2, .slice a3 n3 c3, .slice a4 n4 c4] 55)).alloc (.cells #[.int .i64 0, .int .i64 0, .int .i64 0, .int .i64 0, .slice none 0 0, .slice none 0 0, .slice none 0 0, .slice none 0 0] 34)).alloc (.cells #[.int .i64 0, .int .i64 0, .int .i64 0, .int .i64 0, .slice none 0 0, .slice none 0 0, .slice none 0 0, .slice none 0 0] 34)) (w.heap.size + 1 + 1) [.int .i64 0, .int .i64 0, .int .i64 0, .int .i64 0, .slice none 0 0, .slice none 0 0, .slice none 0 0, .slice none 0 0]) := lies_new3 _ _ _ _ _
  have HB0 : Hid (Below w.heap.size w (((w.alloc (.cells #[.int .i64 s1, .int .i64 s2, .int .i64 e1, .int .i64 e2, .slice a1 n1 c1, .slice a2 n2 c2, .slice a3 n3 c3, .slice a4 n4 c4] 55)).alloc (.cells #[.int .i64 0, .int .i64 0, .int .i64 0, .int .i64 0, .slice none 0 0, .slice none 0 0, .slice none 0 0, .slice none 0 0] 34)).alloc (.cells #[.int .i64 0, .int .i64 0, .int .i64 0, .int .i64 0, .slice none 0 0, .slice none 0 0, .slice none 0 0, .slice none 0 0] 34))) := (((Below.refl _ _).alloc (Nat.le_refl _) _).alloc (by simp) _).alloc (by simp; omega) _
  clear h1 h2 h3 h4
  go_enter Tryz.func24, Tryz.ntmps24
  have x0 : (((w.alloc (.cells #[.int .i64 s1, .int .i64 s2, .int .i64 e1, .int .i64 e2, .slice a1 n1 c1, .slice a2 n2 c2, .slice a3 n3 c3, .slice a4 n4 c4] 55)).alloc (.cells #[.int .i64 0, .int .i64 0, .int .i64 0, .int .i64 0, .slice none 0 0, .slice none 0 0, .slice none 0 0, .slice none 0 0] 34)).alloc (.cells #[.int .i64 0, .int .i64 0, .int .i64 0, .int .i64 0, .slice none 0 0, .slice none 0 0, .slice none 0 0, .slice none 0 0] 34)).cell? ⟨w.heap.size, 0, none⟩ = some (.int .i64 s1) := HA0.out.at 0
  have x1 : (((w.alloc (.cells #[.int .i64 s1, .int .i64 s2, .int .i64 e1, .int .i64 e2, .slice a1 n1 c1, .slice a2 n2 c2, .slice a3 n3 c3, .slice a4 n4 c4] 55)).alloc (.cells #[.int .i64 0, .int .i64 0, .int .i64 0, .int .i64 0, .slice none 0 0, .slice none 0 0, .slice none 0 0, .slice none 0 0] 34)).alloc (.cells #[.int .i64 0, .int .i64 0, .int .i64 0, .int .i64 0, .slice none 0 0, .slice none 0 0, .slice none 0 0, .slice none 0 0] 34)).cell? ⟨w.heap.size, 1, none⟩ = some (.int .i64 s2) := HA0.out.at 1
  go_wp2_with fail
  refine (C1 _).mono ?_
  rintro e w1 ⟨rfl, hb⟩
  have HAy : Hid (Lies w1 w.heap.size [.int .i64 s1, .int .i64 s2, .int .i64 e1, .int .i64 e2, .slice a1 n1 c1, .slice a2 n2 c2, .slice a3 n3 c3, .slice a4 n4 c4]) := HA0.out.belowS hb
  have HRy : Hid (Lies w1 (w.heap.size + 1) [.int .i64 0, .int .i64 0, .int .i64 0, .int .i64 0, .slice none 0 0, .slice none 0 0, .slice none 0 0, .slice none 0 0]) := HR0.out.belowS hb
  have HOy : Hid (Lies w1 (w.heap.size + 1 + 1) [.int .i64 0, .int .i64 0, .int .i64 0, .int .i64 0, .slice none 0 0, .slice none 0 0, .slice none 0 0, .slice none 0 0]) := HO0.out.belowS hb
  have HBy : Hid (Below w.heap.size w w1) := HB0.out.trans (hb.mono HB0.out.size)
  have t0 : w1.cell? ⟨(w.heap.size + 1 + 1), 0, none⟩ = some (.int .i64 0) := HOy.out.at 0
  have u0 : w1.frozen? ⟨(w.heap.size + 1 + 1), 0, none⟩ = false := HOy.out.fr 0
  have t1 : w1.cell? ⟨(w.heap.size + 1 + 1), 1, none⟩ = some (.int .i64 0) := HOy.out.at 1
  have u1 : w1.frozen? ⟨(w.heap.size + 1 + 1), 1, none⟩ = false := HOy.out.fr 1
  have HA1' : Hid (Lies ((w1.setCell ⟨(w.heap.size + 1 + 1), 0, none⟩ (.int .i64 s1)).setCell ⟨(w.heap.size + 1 + 1), 1, none⟩ (.int .i64 s2)) w.heap.size [.int .i64 s1, .int .i64 s2, .int .i64 e1, .int .i64 e2, .slice a1 n1 c1, .slice a2 n2 c2, .slice a3 n3 c3, .slice a4 n4 c4]) := ((HAy.out.far (by omega) 0 _).far (by omega) 1 _)
  have HR1' : Hid (Lies ((w1.setCell ⟨(w.heap.size + 1 + 1), 0, none⟩ (.int .i64 s1)).setCell ⟨(w.heap.size + 1 + 1), 1, none⟩ (.int .i64 s2)) (w.heap.size + 1) [.int .i64 0, .int .i64 0, .int .i64 0, .int .i64 0, .slice none 0 0, .slice none 0 0, .slice none 0 0, .slice none 0 0]) := ((HRy.out.far (by omega) 0 _).far (by omega) 1 _)
  have HO1' : Hid (Lies ((w1.setCell ⟨(w.heap.size + 1 + 1), 0, none⟩ (.int .i64 s1)).setCell ⟨(w.heap.size + 1 + 1), 1, none⟩ (.int .i64 s2)) (w.heap.size + 1 + 1) [.int .i64 s1, .int .i64 s2, .int .i64 0, .int .i64 0, .slice none 0 0, .slice none 0 0, .slice none 0 0, .slice none 0 0]) := ((HOy.out.set 0 (by simp) (.int .i64 s1)).set 1 (by simp) (.int .i64 s2))
  have HB1' : Hid (Below w.heap.size w ((w1.setCell ⟨(w.heap.size + 1 + 1), 0, none⟩ (.int .i64 s1)).setCell ⟨(w.heap.size + 1 + 1), 1, none⟩ (.int .i64 s2))) := ((HBy.out.setCell (by show w.heap.size ≤ w.heap.size + 1 + 1; omega) _).setCell (by show w.heap.size ≤ w.heap.size + 1 + 1; omega) _)
  clear hb x0 x1 HAy HRy HOy HBy HA0 HR0 HO0 HB0
  go_wp2_with (with_reducible refine wpList_stop 9 ?_ ?_; rfl)
  show wpList _ _ _ _ _ _
  generalize ((w1.setCell ⟨(w.heap.size + 1 + 1), 0, none⟩ (.int .i64 s1)).setCell ⟨(w.heap.size + 1 + 1), 1, none⟩ (.int .i64 s2)) = wy1 at HA1' HR1' HO1' HB1' ⊢
  have HA1 : Hid (Lies wy1 w.heap.size [.int .i64 s1, .int .i64 s2, .int .i64 e1, .int .i64 e2, .slice a1 n1 c1, .slice a2 n2 c2, .slice a3 n3 c3, .slice a4 n4 c4]) := HA1'.out
  have HR1 : Hid (Lies wy1 (w.heap.size + 1) [.int .i64 0, .int .i64 0, .int .i64 0, .int .i64 0, .slice none 0 0, .slice none 0 0, .slice none 0 0, .slice none 0 0]) := HR1'.out
  have HO1 : Hid (Lies wy1 (w.heap.size + 1 + 1) [.int .i64 s1, .int .i64 s2, .int .i64 0, .int .i64 0, .slice none 0 0, .slice none 0 0, .slice none 0 0, .slice none 0 0]) := HO1'.out
  have HB1 : Hid (Below w.heap.size w wy1) := HB1'.out
  clear HA1' HR1' HO1' HB1' t0 u0 t1 u1
  have x0 : wy1.cell? ⟨w.heap.size, 2, none⟩ = some (.int .i64 e1) := HA1.out.at 2
  have x1 : wy1.cell? ⟨w.heap.size, 3, none⟩ = some (.int .i64 e2) := HA1.out.at 3
  go_wp2_with fail
  refine (C2 _).mono ?_
  rintro e w2 ⟨rfl, hb⟩
  have HAy : Hid (Lies w2 w.heap.size [.int .i64 s1, .int .i64 s2, .int .i64 e1, .int .i64 e2, .slice a1 n1 c1, .slice a2 n2 c2, .slice a3 n3 c3, .slice a4 n4 c4]) := HA1.out.belowS hb
  have HRy : Hid (Lies w2 (w.heap.size + 1) [.int .i64 0, .int .i64 0, .int .i64 0, .int .i64 0, .slice none 0 0, .slice none 0 0, .slice none 0 0, .slice none 0 0]) := HR1.out.belowS hb
  have HOy : Hid (Lies w2 (w.heap.size + 1 + 1) [.int .i64 s1, .int .i64 s2, .int .i64 0, .int .i64 0, .slice none 0 0, .slice none 0 0, .slice none 0 0, .slice none 0 0]) := HO1.out.belowS hb
  have HBy : Hid (Below w.heap.size w w2) := HB1.out.trans (hb.mono HB1.out.size)
  have t0 : w2.cell? ⟨(w.heap.size + 1 + 1), 2, none⟩ = some (.int .i64 0) := HOy.out.at 2
  have u0 : w2.frozen? ⟨(w.heap.size + 1 + 1), 2, none⟩ = false := HOy.out.fr 2
  have t1 : w2.cell? ⟨(w.heap.size + 1 + 1), 3, none⟩ = some (.int .i64 0) := HOy.out.at 3
  have u1 : w2.frozen? ⟨(w.heap.size + 1 + 1), 3, none⟩ = false := HOy.out.fr 3
  have HA2' : Hid (Lies ((w2.setCell ⟨(w.heap.size + 1 + 1), 2, none⟩ (.int .i64 e1)).setCell ⟨(w.heap.size + 1 + 1), 3, none⟩ (.int .i64 e2)) w.heap.size [.int .i64 s1, .int .i64 s2, .int .i64 e1, .int .i64 e2, .slice a1 n1 c1, .slice a2 n2 c2, .slice a3 n3 c3, .slice a4 n4 c4]) := ((HAy.out.far (by omega) 2 _).far (by omega) 3 _)
  have HR2' : Hid (Lies ((w2.setCell ⟨(w.heap.size + 1 + 1), 2, none⟩ (.int .i64 e1)).setCell ⟨(w.heap.size + 1 + 1), 3, none⟩ (.int .i64 e2)) (w.heap.size + 1) [.int .i64 0, .int .i64 0, .int .i64 0, .int .i64 0, .slice none 0 0, .slice none 0 0, .slice none 0 0, .slice none 0 0]) := ((HRy.out.far (by omega) 2 _).far (by omega) 3 _)
  have HO2' : Hid (Lies ((w2.setCell ⟨(w.heap.size + 1 + 1), 2, none⟩ (.int .i64 e1)).setCell ⟨(w.heap.size + 1 + 1), 3, none⟩ (.int .i64 e2)) (w.heap.size + 1 + 1) [.int .i64 s1, .int .i64 s2, .int .i64 e1, .int .i64 e2, .slice none 0 0, .slice none 0 0, .slice none 0 0, .slice none 0 0]) := ((HOy.out.set 2 (by simp) (.int .i64 e1)).set 3 (by simp) (.int .i64 e2))
  have HB2' : Hid (Below w.heap.size w ((w2.setCell ⟨(w.heap.size + 1 + 1), 2, none⟩ (.int .i64 e1)).setCell ⟨(w.heap.size + 1 + 1), 3, none⟩ (.int .i64 e2))) := ((HBy.out.setCell (by show w.heap.size ≤ w.heap.size + 1 + 1; omega) _).setCell (by show w.heap.size ≤ w.heap.size + 1 + 1; omega) _)
  clear hb x0 x1 HAy HRy HOy HBy HA1 HR1 HO1 HB1
  go_wp2_with (with_reducible refine wpList_stop 13 ?_ ?_; rfl)
  show wpList _ _ _ _ _ _
  generalize ((w2.setCell ⟨(w.heap.size + 1 + 1), 2, none⟩ (.int .i64 e1)).setCell ⟨(w.heap.size + 1 + 1), 3, none⟩ (.int .i64 e2)) = wy2 at HA2' HR2' HO2' HB2' ⊢
  have HA2 : Hid (Lies wy2 w.heap.size [.int .i64 s1, .int .i64 s2, .int .i64 e1, .int .i64 e2, .slice a1 n1 c1, .slice a2 n2 c2, .slice a3 n3 c3, .slice a4 n4 c4]) := HA2'.out
  have HR2 : Hid (Lies wy2 (w.heap.size + 1) [.int .i64 0, .int .i64 0, .int .i64 0, .int .i64 0, .slice none 0 0, .slice none 0 0, .slice none 0 0, .slice none 0 0]) := HR2'.out
  have HO2 : Hid (Lies wy2 (w.heap.size + 1 + 1) [.int .i64 s1, .int .i64 s2, .int .i64 e1, .int .i64 e2, .slice none 0 0, .slice none 0 0, .slice none 0 0, .slice none 0 0]) := HO2'.out
  have HB2 : Hid (Below w.heap.size w wy2) := HB2'.out
  clear HA2' HR2' HO2' HB2' t0 u0 t1 u1
  have x0 : wy2.cell? ⟨w.heap.size, 4, none⟩ = some (.slice a1 n1 c1) := HA2.out.at 4
  go_wp2_with fail
  refine (toS_any _ (H1.out.below HB2.out) l1).mono ?_
  rintro e w3 ⟨b1, rfl, ho, hb⟩
  have HAy : Hid (Lies w3 w.heap.size [.int .i64 s1, .int .i64 s2, .int .i64 e1, .int .i64 e2, .slice a1 n1 c1, .slice a2 n2 c2, .slice a3 n3 c3, .slice a4 n4 c4]) := HA2.out.belowS hb
  have HRy : Hid (Lies w3 (w.heap.size + 1) [.int .i64 0, .int .i64 0, .int .i64 0, .int .i64 0, .slice none 0 0, .slice none 0 0, .slice none 0 0, .slice none 0 0]) := HR2.out.belowS hb
  have HOy : Hid (Lies w3 (w.heap.size + 1 + 1) [.int .i64 s1, .int .i64 s2, .int .i64 e1, .int .i64 e2, .slice none 0 0, .slice none 0 0, .slice none 0 0, .slice none 0 0]) := HO2.out.belowS hb
  have HBy : Hid (Below w.heap.size w w3) := HB2.out.trans (hb.mono HB2.out.size)
  have HV1y : Hid (Owns 2 w3 (w.heap.size + 1 + 1 + 1) b1 n1 n1 z1) := ho.mono HO2.out.2.2
  have t0 : w3.cell? ⟨(w.heap.size + 1 + 1), 4, none⟩ = some (.slice none 0 0) := HOy.out.at 4
  have u0 : w3.frozen? ⟨(w.heap.size + 1 + 1), 4, none⟩ = false := HOy.out.fr 4
  have HA3' : Hid (Lies (w3.setCell ⟨(w.heap.size + 1 + 1), 4, none⟩ (.slice b1 n1 n1)) w.heap.size [.int .i64 s1, .int .i64 s2, .int .i64 e1, .int .i64 e2, .slice a1 n1 c1, .slice a2 n2 c2, .slice a3 n3 c3, .slice a4 n4 c4]) := (HAy.out.far (by omega) 4 _)
  have HR3' : Hid (Lies (w3.setCell ⟨(w.heap.size + 1 + 1), 4, none⟩ (.slice b1 n1 n1)) (w.heap.size + 1) [.int .i64 0, .int .i64 0, .int .i64 0, .int .i64 0, .slice none 0 0, .slice none 0 0, .slice none 0 0, .slice none 0 0]) := (HRy.out.far (by omega) 4 _)
  have HO3' : Hid (Lies (w3.setCell ⟨(w.heap.size + 1 + 1), 4, none⟩ (.slice b1 n1 n1)) (w.heap.size + 1 + 1) [.int .i64 s1, .int .i64 s2, .int .i64 e1, .int .i64 e2, .slice b1 n1 n1, .slice none 0 0, .slice none 0 0, .slice none 0 0]) := (HOy.out.set 4 (by simp) (.slice b1 n1 n1))
  have HB3' : Hid (Below w.heap.size w (w3.setCell ⟨(w.heap.size + 1 + 1), 4, none⟩ (.slice b1 n1 n1))) := (HBy.out.setCell (by show w.heap.size ≤ w.heap.size + 1 + 1; omega) _)
  have HV1' : Hid (Owns 2 (w3.setCell ⟨(w.heap.size + 1 + 1), 4, none⟩ (.slice b1 n1 n1)) (w.heap.size + 1 + 1 + 1) b1 n1 n1 z1) := HV1y.out.other _ (fun q hq e => by have := HV1y.out.lo q hq; simp at e; omega) _
  clear hb x0 HAy HRy HOy HBy HA2 HR2 HO2 HB2 ho HV1y
  go_wp2_with (with_reducible refine wpList_stop 17 ?_ ?_; rfl)
  show wpList _ _ _ _ _ _
  generalize (w3.setCell ⟨(w.heap.size + 1 + 1), 4, none⟩ (.slice b1 n1 n1)) = wy3 at HA3' HR3' HO3' HB3' HV1' ⊢
  have HA3 : Hid (Lies wy3 w.heap.size [.int .i64 s1, .int .i64 s2, .int .i64 e1, .int .i64 e2, .slice a1 n1 c1, .slice a2 n2 c2, .slice a3 n3 c3, .slice a4 n4 c4]) := HA3'.out
  have HR3 : Hid (Lies wy3 (w.heap.size + 1) [.int .i64 0, .int .i64 0, .int .i64 0, .int .i64 0, .slice none 0 0, .slice none 0 0, .slice none 0 0, .slice none 0 0]) := HR3'.out
  have HO3 : Hid (Lies wy3 (w.heap.size + 1 + 1) [.int .i64 s1, .int .i64 s2, .int .i64 e1, .int .i64 e2, .slice b1 n1 n1, .slice none 0 0, .slice none 0 0, .slice none 0 0]) := HO3'.out
  have HB3 : Hid (Below w.heap.size w wy3) := HB3'.out
  have HV1 : Hid (Owns 2 wy3 (w.heap.size + 1 + 1 + 1) b1 n1 n1 z1) := HV1'.out
  clear HA3' HR3' HO3' HB3' t0 u0 HV1'
  have x0 : wy3.cell? ⟨w.heap.size, 5, none⟩ = some (.slice a2 n2 c2) := HA3.out.at 5
  go_wp2_with fail
  refine (toS_any _ (H2.out.below HB3.out) l2).mono ?_
  rintro e w4 ⟨b2, rfl, ho, hb⟩
  have HAy : Hid (Lies w4 w.heap.size [.int .i64 s1, .int .i64 s2, .int .i64 e1, .int .i64 e2, .slice a1 n1 c1, .slice a2 n2 c2, .slice a3 n3 c3, .slice a4 n4 c4]) := HA3.out.belowS hb
  have HRy : Hid (Lies w4 (w.heap.size + 1) [.int .i64 0, .int .i64 0, .int .i64 0, .int .i64 0, .slice none 0 0, .slice none 0 0, .slice none 0 0, .slice none 0 0]) := HR3.out.belowS hb
  have HOy : Hid (Lies w4 (w.heap.size + 1 + 1) [.int .i64 s1, .int .i64 s2, .int .i64 e1, .int .i64 e2, .slice b1 n1 n1, .slice none 0 0, .slice none 0 0, .slice none 0 0]) := HO3.out.belowS hb
  have HBy : Hid (Below w.heap.size w w4) := HB3.out.trans (hb.mono HB3.out.size)
  have HV1y : Hid (Owns 2 w4 (w.heap.size + 1 + 1 + 1) b1 n1 n1 z1) := HV1.out.below hb
  have HV2y : Hid (Owns 2 w4 (w.heap.size + 1 + 1 + 1) b2 n2 n2 z2) := ho.mono HO3.out.2.2
  have t0 : w4.cell? ⟨(w.heap.size + 1 + 1), 5, none⟩ = some (.slice none 0 0) := HOy.out.at 5
  have u0 : w4.frozen? ⟨(w.heap.size + 1 + 1), 5, none⟩ = false := HOy.out.fr 5
  have HA4' : Hid (Lies (w4.setCell ⟨(w.heap.size + 1 + 1), 5, none⟩ (.slice b2 n2 n2)) w.heap.size [.int .i64 s1, .int .i64 s2, .int .i64 e1, .int .i64 e2, .slice a1 n1 c1, .slice a2 n2 c2, .slice a3 n3 c3, .slice a4 n4 c4]) := (HAy.out.far (by omega) 5 _)
  have HR4' : Hid (Lies (w4.setCell ⟨(w.heap.size + 1 + 1), 5, none⟩ (.slice b2 n2 n2)) (w.heap.size + 1) [.int .i64 0, .int .i64 0, .int .i64 0, .int .i64 0, .slice none 0 0, .slice none 0 0, .slice none 0 0, .slice none 0 0]) := (HRy.out.far (by omega) 5 _)
  have HO4' : Hid (Lies (w4.setCell ⟨(w.heap.size + 1 + 1), 5, none⟩ (.slice b2 n2 n2)) (w.heap.size + 1 + 1) [.int .i64 s1, .int .i64 s2, .int .i64 e1, .int .i64 e2, .slice b1 n1 n1, .slice b2 n2 n2, .slice none 0 0, .slice none 0 0]) := (HOy.out.set 5 (by simp) (.slice b2 n2 n2))
  have HB4' : Hid (Below w.heap.size w (w4.setCell ⟨(w.heap.size + 1 + 1), 5, none⟩ (.slice b2 n2 n2))) := (HBy.out.setCell (by show w.heap.size ≤ w.heap.size + 1 + 1; omega) _)
  have HV1' : Hid (Owns 2 (w4.setCell ⟨(w.heap.size + 1 + 1), 5, none⟩ (.slice b2 n2 n2)) (w.heap.size + 1 + 1 + 1) b1 n1 n1 z1) := HV1y.out.other _ (fun q hq e => by have := HV1y.out.lo q hq; simp at e; omega) _
  have HV2' : Hid (Owns 2 (w4.setCell ⟨(w.heap.size + 1 + 1), 5, none⟩ (.slice b2 n2 n2)) (w.heap.size + 1 + 1 + 1) b2 n2 n2 z2) := HV2y.out.other _ (fun q hq e => by have := HV2y.out.lo q hq; simp at e; omega) _
  clear hb x0 HAy HRy HOy HBy HA3 HR3 HO3 HB3 ho HV1 HV1y HV2y
  go_wp2_with (with_reducible refine wpList_stop 21 ?_ ?_; rfl)
  show wpList _ _ _ _ _ _
  generalize (w4.setCell ⟨(w.heap.size + 1 + 1), 5, none⟩ (.slice b2 n2 n2)) = wy4 at HA4' HR4' HO4' HB4' HV1' HV2' ⊢
  have HA4 : Hid (Lies wy4 w.heap.size [.int .i64 s1, .int .i64 s2, .int .i64 e1, .int .i64 e2, .slice a1 n1 c1, .slice a2 n2 c2, .slice a3 n3 c3, .slice a4 n4 c4]) := HA4'.out
  have HR4 : Hid (Lies wy4 (w.heap.size + 1) [.int .i64 0, .int .i64 0, .int .i64 0, .int .i64 0, .slice none 0 0, .slice none 0 0, .slice none 0 0, .slice none 0 0]) := HR4'.out
  have HO4 : Hid (Lies wy4 (w.heap.size + 1 + 1) [.int .i64 s1, .int .i64 s2, .int .i64 e1, .int .i64 e2, .slice b1 n1 n1, .slice b2 n2 n2, .slice none 0 0, .slice none 0 0]) := HO4'.out
  have HB4 : Hid (Below w.heap.size w wy4) := HB4'.out
  have HV1 : Hid (Owns 2 wy4 (w.heap.size + 1 + 1 + 1) b1 n1 n1 z1) := HV1'.out
  have HV2 : Hid (Owns 2 wy4 (w.heap.size + 1 + 1 + 1) b2 n2 n2 z2) := HV2'.out
  clear HA4' HR4' HO4' HB4' t0 u0 HV1' HV2'
  have x0 : wy4.cell? ⟨w.heap.size, 6, none⟩ = some (.slice a3 n3 c3) := HA4.out.at 6
  go_wp2_with fail
  refine (toS_any _ (H3.out.below HB4.out) l3).mono ?_
  rintro e w5 ⟨b3, rfl, ho, hb⟩
  have HAy : Hid (Lies w5 w.heap.size [.int .i64 s1, .int .i64 s2, .int .i64 e1, .int .i64 e2, .slice a1 n1 c1, .slice a2 n2 c2, .slice a3 n3 c3, .slice a4 n4 c4]) := HA4.out.belowS hb
  have HRy : Hid (Lies w5 (w.heap.size + 1) [.int .i64 0, .int .i64 0, .int .i64 0, .int .i64 0, .slice none 0 0, .slice none 0 0, .slice none 0 0, .slice none 0 0]) := HR4.out.belowS hb
  have HOy : Hid (Lies w5 (w.heap.size + 1 + 1) [.int .i64 s1, .int .i64 s2, .int .i64 e1, .int .i64 e2, .slice b1 n1 n1, .slice b2 n2 n2, .slice none 0 0, .slice none 0 0]) := HO4.out.belowS hb
  have HBy : Hid (Below w.heap.size w w5) := HB4.out.trans (hb.mono HB4.out.size)
  have HV1y : Hid (Owns 2 w5 (w.heap.size + 1 + 1 + 1) b1 n1 n1 z1) := HV1.out.below hb
  have HV2y : Hid (Owns 2 w5 (w.heap.size + 1 + 1 + 1) b2 n2 n2 z2) := HV2.out.below hb
  have HV3y : Hid (Owns 2 w5 (w.heap.size + 1 + 1 + 1) b3 n3 n3 z3) := ho.mono HO4.out.2.2
  have t0 : w5.cell? ⟨(w.heap.size + 1 + 1), 6, none⟩ = some (.slice none 0 0) := HOy.out.at 6
  have u0 : w5.frozen? ⟨(w.heap.size + 1 + 1), 6, none⟩ = false := HOy.out.fr 6
  have HA5' : Hid (Lies (w5.setCell ⟨(w.heap.size + 1 + 1), 6, none⟩ (.slice b3 n3 n3)) w.heap.size [.int .i64 s1, .int .i64 s2, .int .i64 e1, .int .i64 e2, .slice a1 n1 c1, .slice a2 n2 c2, .slice a3 n3 c3, .slice a4 n4 c4]) := (HAy.out.far (by omega) 6 _)
  have HR5' : Hid (Lies (w5.setCell ⟨(w.heap.size + 1 + 1), 6, none⟩ (.slice b3 n3 n3)) (w.heap.size + 1) [.int .i64 0, .int .i64 0, .int .i64 0, .int .i64 0, .slice none 0 0, .slice none 0 0, .slice none 0 0, .slice none 0 0]) := (HRy.out.far (by omega) 6 _)
  have HO5' : Hid (Lies (w5.setCell ⟨(w.heap.size + 1 + 1), 6, none⟩ (.slice b3 n3 n3)) (w.heap.size + 1 + 1) [.int .i64 s1, .int .i64 s2, .int .i64 e1, .int .i64 e2, .slice b1 n1 n1, .slice b2 n2 n2, .slice b3 n3 n3, .slice none 0 0]) := (HOy.out.set 6 (by simp) (.slice b3 n3 n3))
  have HB5' : Hid (Below w.heap.size w (w5.setCell ⟨(w.heap.size + 1 + 1), 6, none⟩ (.slice b3 n3 n3))) := (HBy.out.setCell (by show w.heap.size ≤ w.heap.size + 1 + 1; omega) _)
  have HV1' : Hid (Owns 2 (w5.setCell ⟨(w.heap.size + 1 + 1), 6, none⟩ (.slice b3 n3 n3)) (w.heap.size + 1 + 1 + 1) b1 n1 n1 z1) := HV1y.out.other _ (fun q hq e => by have := HV1y.out.lo q hq; simp at e; omega) _
  have HV2' : Hid (Owns 2 (w5.setCell ⟨(w.heap.size + 1 + 1), 6, none⟩ (.slice b3 n3 n3)) (w.heap.size + 1 + 1 + 1) b2 n2 n2 z2) := HV2y.out.other _ (fun q hq e => by have := HV2y.out.lo q hq; simp at e; omega) _
  have HV3' : Hid (Owns 2 (w5.setCell ⟨(w.heap.size + 1 + 1), 6, none⟩ (.slice b3 n3 n3)) (w.heap.size + 1 + 1 + 1) b3 n3 n3 z3) := HV3y.out.other _ (fun q hq e => by have := HV3y.out.lo q hq; simp at e; omega) _
  clear hb x0 HAy HRy HOy HBy HA4 HR4 HO4 HB4 ho HV1 HV2 HV1y HV2y HV3y
  go_wp2_with (with_reducible refine wpList_stop 25 ?_ ?_; rfl)
  show wpList _ _ _ _ _ _
  generalize (w5.setCell ⟨(w.heap.size + 1 + 1), 6, none⟩ (.slice b3 n3 n3)) = wy5 at HA5' HR5' HO5' HB5' HV1' HV2' HV3' ⊢
  have HA5 : Hid (Lies wy5 w.heap.size [.int .i64 s1, .int .i64 s2, .int .i64 e1, .int .i64 e2, .slice a1 n1 c1, .slice a2 n2 c2, .slice a3 n3 c3, .slice a4 n4 c4]) := HA5'.out
  have HR5 : Hid (Lies wy5 (w.heap.size + 1) [.int .i64 0, .int .i64 0, .int .i64 0, .int .i64 0, .slice none 0 0, .slice none 0 0, .slice none 0 0, .slice none 0 0]) := HR5'.out
  have HO5 : Hid (Lies wy5 (w.heap.size + 1 + 1) [.int .i64 s1, .int .i64 s2, .int .i64 e1, .int .i64 e2, .slice b1 n1 n1, .slice b2 n2 n2, .slice b3 n3 n3, .slice none 0 0]) := HO5'.out
  have HB5 : Hid (Below w.heap.size w wy5) := HB5'.out
  have HV1 : Hid (Owns 2 wy5 (w.heap.size + 1 + 1 + 1) b1 n1 n1 z1) := HV1'.out
  have HV2 : Hid (Owns 2 wy5 (w.heap.size + 1 + 1 + 1) b2 n2 n2 z2) := HV2'.out
  have HV3 : Hid (Owns 2 wy5 (w.heap.size + 1 + 1 + 1) b3 n3 n3 z3) := HV3'.out
  clear HA5' HR5' HO5' HB5' t0 u0 HV1' HV2' HV3'
  have x0 : wy5.cell? ⟨w.heap.size, 7, none⟩ = some (.slice a4 n4 c4) := HA5.out.at 7
  go_wp2_with fail
  refine (toS_any _ (H4.out.below HB5.out) l4).mono ?_
  rintro e w6 ⟨b4, rfl, ho, hb⟩
  have HAy : Hid (Lies w6 w.heap.size [.int .i64 s1, .int .i64 s2, .int .i64 e1, .int .i64 e2, .slice a1 n1 c1, .slice a2 n2 c2, .slice a3 n3 c3, .slice a4 n4 c4]) := HA5.out.belowS hb
  have HRy : Hid (Lies w6 (w.heap.size + 1) [.int .i64 0, .int .i64 0, .int .i64 0, .int .i64 0, .slice none 0 0, .slice none 0 0, .slice none 0 0, .slice none 0 0]) := HR5.out.belowS hb
  have HOy : Hid (Lies w6 (w.heap.size + 1 + 1) [.int .i64 s1, .int .i64 s2, .int .i64 e1, .int .i64 e2, .slice b1 n1 n1, .slice b2 n2 n2, .slice b3 n3 n3, .slice none 0 0]) := HO5.out.belowS hb
  have HBy : Hid (Below w.heap.size w w6) := HB5.out.trans (hb.mono HB5.out.size)
  have HV1y : Hid (Owns 2 w6 (w.heap.size + 1 + 1 + 1) b1 n1 n1 z1) := HV1.out.below hb
  have HV2y : Hid (Owns 2 w6 (w.heap.size + 1 + 1 + 1) b2 n2 n2 z2) := HV2.out.below hb
  have HV3y : Hid (Owns 2 w6 (w.heap.size + 1 + 1 + 1) b3 n3 n3 z3) := HV3.out.below hb
  have HV4y : Hid (Owns 2 w6 (w.heap.size + 1 + 1 + 1) b4 n4 n4 z4) := ho.mono HO5.out.2.2
  have t0 : w6.cell? ⟨(w.heap.size + 1 + 1), 7, none⟩ = some (.slice none 0 0) := HOy.out.at 7
  have u0 : w6.frozen? ⟨(w.heap.size + 1 + 1), 7, none⟩ = false := HOy.out.fr 7
  have HA6' : Hid (Lies (w6.setCell ⟨(w.heap.size + 1 + 1), 7, none⟩ (.slice b4 n4 n4)) w.heap.size [.int .i64 s1, .int .i64 s2, .int .i64 e1, .int .i64 e2, .slice a1 n1 c1, .slice a2 n2 c2, .slice a3 n3 c3, .slice a4 n4 c4]) := (HAy.out.far (by omega) 7 _)
  have HR6' : Hid (Lies (w6.setCell ⟨(w.heap.size + 1 + 1), 7, none⟩ (.slice b4 n4 n4)) (w.heap.size + 1) [.int .i64 0, .int .i64 0, .int .i64 0, .int .i64 0, .slice none 0 0, .slice none 0 0, .slice none 0 0, .slice none 0 0]) := (HRy.out.far (by omega) 7 _)
  have HO6' : Hid (Lies (w6.setCell ⟨(w.heap.size + 1 + 1), 7, none⟩ (.slice b4 n4 n4)) (w.heap.size + 1 + 1) [.int .i64 s1, .int .i64 s2, .int .i64 e1, .int .i64 e2, .slice b1 n1 n1, .slice b2 n2 n2, .slice b3 n3 n3, .slice b4 n4 n4]) := (HOy.out.set 7 (by simp) (.slice b4 n4 n4))
  have HB6' : Hid (Below w.heap.size w (w6.setCell ⟨(w.heap.size + 1 + 1), 7, none⟩ (.slice b4 n4 n4))) := (HBy.out.setCell (by show w.heap.size ≤ w.heap.size + 1 + 1; omega) _)
  have HV1' : Hid (Owns 2 (w6.setCell ⟨(w.heap.size + 1 + 1), 7, none⟩ (.slice b4 n4 n4)) (w.heap.size + 1 + 1 + 1) b1 n1 n1 z1) := HV1y.out.other _ (fun q hq e => by have := HV1y.out.lo q hq; simp at e; omega) _
  have HV2' : Hid (Owns 2 (w6.setCell ⟨(w.heap.size + 1 + 1), 7, none⟩ (.slice b4 n4 n4)) (w.heap.size + 1 + 1 + 1) b2 n2 n2 z2) := HV2y.out.other _ (fun q hq e => by have := HV2y.out.lo q hq; simp at e; omega) _
  have HV3' : Hid (Owns 2 (w6.setCell ⟨(w.heap.size + 1 + 1), 7, none⟩ (.slice b4 n4 n4)) (w.heap.size + 1 + 1 + 1) b3 n3 n3 z3) := HV3y.out.other _ (fun q hq e => by have := HV3y.out.lo q hq; simp at e; omega) _
  have HV4' : Hid (Owns 2 (w6.setCell ⟨(w.heap.size + 1 + 1), 7, none⟩ (.slice b4 n4 n4)) (w.heap.size + 1 + 1 + 1) b4 n4 n4 z4) := HV4y.out.other _ (fun q hq e => by have := HV4y.out.lo q hq; simp at e; omega) _
  clear hb x0 HAy HRy HOy HBy HA5 HR5 HO5 HB5 ho HV1 HV2 HV3 HV1y HV2y HV3y HV4y
  go_wp2_with (with_reducible refine wpList_stop 28 ?_ ?_; rfl)
  show wpList _ _ _ _ _ _
  generalize (w6.setCell ⟨(w.heap.size + 1 + 1), 7, none⟩ (.slice b4 n4 n4)) = wy6 at HA6' HR6' HO6' HB6' HV1' HV2' HV3' HV4' ⊢
  have HA6 : Hid (Lies wy6 w.heap.size [.int .i64 s1, .int .i64 s2, .int .i64 e1, .int .i64 e2, .slice a1 n1 c1, .slice a2 n2 c2, .slice a3 n3 c3, .slice a4 n4 c4]) := HA6'.out
  have HR6 : Hid (Lies wy6 (w.heap.size + 1) [.int .i64 0, .int .i64 0, .int .i64 0, .int .i64 0, .slice none 0 0, .slice none 0 0, .slice none 0 0, .slice none 0 0]) := HR6'.out
  have HO6 : Hid (Lies wy6 (w.heap.size + 1 + 1) [.int .i64 s1, .int .i64 s2, .int .i64 e1, .int .i64 e2, .slice b1 n1 n1, .slice b2 n2 n2, .slice b3 n3 n3, .slice b4 n4 n4]) := HO6'.out
  have HB6 : Hid (Below w.heap.size w wy6) := HB6'.out
  have HV1 : Hid (Owns 2 wy6 (w.heap.size + 1 + 1 + 1) b1 n1 n1 z1) := HV1'.out
  have HV2 : Hid (Owns 2 wy6 (w.heap.size + 1 + 1 + 1) b2 n2 n2 z2) := HV2'.out
  have HV3 : Hid (Owns 2 wy6 (w.heap.size + 1 + 1 + 1) b3 n3 n3 z3) := HV3'.out
  have HV4 : Hid (Owns 2 wy6 (w.heap.size + 1 + 1 + 1) b4 n4 n4 z4) := HV4'.out
  clear HA6' HR6' HO6' HB6' t0 u0 HV1' HV2' HV3' HV4'
  have HZT : Hid (wy6.there (w.heap.size + 1) 0 8) := HR6.out.there 0 8 (by simp)
  have x0 : wy6.cell? ⟨(w.heap.size + 1 + 1), 0, none⟩ = some (.int .i64 s1) := HO6.out.at 0
  have x1 : wy6.cell? ⟨(w.heap.size + 1 + 1), 1, none⟩ = some (.int .i64 s2) := HO6.out.at 1
  have x2 : wy6.cell? ⟨(w.heap.size + 1 + 1), 2, none⟩ = some (.int .i64 e1) := HO6.out.at 2
  have x3 : wy6.cell? ⟨(w.heap.size + 1 + 1), 3, none⟩ = some (.int .i64 e2) := HO6.out.at 3
  have x4 : wy6.cell? ⟨(w.heap.size + 1 + 1), 4, none⟩ = some (.slice b1 n1 n1) := HO6.out.at 4
  have x5 : wy6.cell? ⟨(w.heap.size + 1 + 1), 5, none⟩ = some (.slice b2 n2 n2) := HO6.out.at 5
  have x6 : wy6.cell? ⟨(w.heap.size + 1 + 1), 6, none⟩ = some (.slice b3 n3 n3) := HO6.out.at 6
  have x7 : wy6.cell? ⟨(w.heap.size + 1 + 1), 7, none⟩ = some (.slice b4 n4 n4) := HO6.out.at 7
  have HZ7 : Hid (Lies (wy6.setCells (w.heap.size + 1) 0 [.int .i64 s1, .int .i64 s2, .int .i64 e1, .int .i64 e2, .slice b1 n1 n1, .slice b2 n2 n2, .slice b3 n3 n3, .slice b4 n4 n4]) (w.heap.size + 1) [.int .i64 s1, .int .i64 s2, .int .i64 e1, .int .i64 e2, .slice b1 n1 n1, .slice b2 n2 n2, .slice b3 n3 n3, .slice b4 n4 n4]) := HR6.out.setCells [.int .i64 s1, .int .i64 s2, .int .i64 e1, .int .i64 e2, .slice b1 n1 n1, .slice b2 n2 n2, .slice b3 n3 n3, .slice b4 n4 n4] 0 (by simp)
  have HB7 : Hid (Below w.heap.size w (wy6.setCells (w.heap.size + 1) 0 [.int .i64 s1, .int .i64 s2, .int .i64 e1, .int .i64 e2, .slice b1 n1 n1, .slice b2 n2 n2, .slice b3 n3 n3, .slice b4 n4 n4])) := below_setCells _ 0 HB6.out (by omega)
  have HW1 : Hid (Owns 2 (wy6.setCells (w.heap.size + 1) 0 [.int .i64 s1, .int .i64 s2, .int .i64 e1, .int .i64 e2, .slice b1 n1 n1, .slice b2 n2 n2, .slice b3 n3 n3, .slice b4 n4 n4]) w.heap.size b1 n1 n1 z1) := (HV1.out.grownR (grown_cells (World.grownBy.refl _ _) 0 _) (fun q hq e => by have := HV1.out.lo q hq; have e2 := Option.some.inj e; omega)).mono (by omega)
  have HW2 : Hid (Owns 2 (wy6.setCells (w.heap.size + 1) 0 [.int .i64 s1, .int .i64 s2, .int .i64 e1, .int .i64 e2, .slice b1 n1 n1, .slice b2 n2 n2, .slice b3 n3 n3, .slice b4 n4 n4]) w.heap.size b2 n2 n2 z2) := (HV2.out.grownR (grown_cells (World.grownBy.refl _ _) 0 _) (fun q hq e => by have := HV2.out.lo q hq; have e2 := Option.some.inj e; omega)).mono (by omega)
  have HW3 : Hid (Owns 2 (wy6.setCells (w.heap.size + 1) 0 [.int .i64 s1, .int .i64 s2, .int .i64 e1, .int .i64 e2, .slice b1 n1 n1, .slice b2 n2 n2, .slice b3 n3 n3, .slice b4 n4 n4]) w.heap.size b3 n3 n3 z3) := (HV3.out.grownR (grown_cells (World.grownBy.refl _ _) 0 _) (fun q hq e => by have := HV3.out.lo q hq; have e2 := Option.some.inj e; omega)).mono (by omega)
  have HW4 : Hid (Owns 2 (wy6.setCells (w.heap.size + 1) 0 [.int .i64 s1, .int .i64 s2, .int .i64 e1, .int .i64 e2, .slice b1 n1 n1, .slice b2 n2 n2, .slice b3 n3 n3, .slice b4 n4 n4]) w.heap.size b4 n4 n4 z4) := (HV4.out.grownR (grown_cells (World.grownBy.refl _ _) 0 _) (fun q hq e => by have := HV4.out.lo q hq; have e2 := Option.some.inj e; omega)).mono (by omega)
  go_wp2_with (with_reducible refine wpList_stopn ?_ ?_; rfl)
  show wpList _ _ _ _ _ _
  with_reducible refine wpList_store_mid ?_ 34 (.tmp 2) (.tmp 28) ?_ (w.heap.size + 1) 0 ([.int .i64 s1, .int .i64 s2, .int .i64 e1, .int .i64 e2, .slice b1 n1 n1, .slice b2 n2 n2, .slice b3 n3 n3, .slice b4 n4 n4]).toArray ?_ ?_ ?_ (by kernel_rfl) (by kernel_rfl) ?_
  · exact rfl
  · exact rfl
  · exact rfl
  · exact rfl
  · exact HZT.out
  generalize wy6.setCells (w.heap.size + 1) 0 [.int .i64 s1, .int .i64 s2, .int .i64 e1, .int .i64 e2, .slice b1 n1 n1, .slice b2 n2 n2, .slice b3 n3 n3, .slice b4 n4 n4] = wz at HZ7 HB7 HW1 HW2 HW3 HW4 ⊢
  go_wp2
  exact bodyPost_ret (results_cell rfl rfl (run_loadVar_mid wz (w.heap.size + 1) 0 34 _ _ HZ7.out.row Tryz.underlying34 rfl (by kernel_rfl))) rfl ⟨b1, b2, b3, b4, rfl, ⟨HW1.out, HW2.out, HW3.out, HW4.out⟩, HB7.out⟩
set_option maxHeartbeats 4000000 in
theorem eqProof_eq {a1 a2 a3 a4 : Option Addr} {n1 n2 n3 n4 c1 c2 c3 c4 : Nat} {b1 b2 b3 b4 : Option Addr} {d1 d2 d3 d4 : Nat} {z1 z2 z3 z4 : List Int} (s1 s2 e1 e2 : Int) (w : World) (h1 : Sees w a1 n1 c1 z1) (h2 : Sees w a2 n2 c2 z2) (h3 : Sees w a3 n3 c3 z3) (h4 : Sees w a4 n4 c4 z4) (g1 : Sees w b1 n1 d1 z1) (g2 : Sees w b2 n2 d2 z2) (g3 : Sees w b3 n3 d3 z3) (g4 : Sees w b4 n4 d4 z4) :
    Calls Tryz.prog 25 #[.agg #[.int .i64 s1, .int .i64 s2, .int .i64 e1, .int .i64 e2, .slice a1 n1 c1, .slice a2 n2 c2, .slice a3 n3 c3, .slice a4 n4 c4], .agg #[.int .i64 s1, .int .i64 s2, .int .i64 e1, .int .i64 e2, .slice b1 n1 d1, .slice b2 n2 d2, .slice b3 n3 d3, .slice b4 n4 d4]] w fun e w' => e = .returned (.bool true) ∧ Below w.heap.size w w' := by
  have C1 := eqState_same (s1, s2)
  have C2 := eqState_same (e1, e2)
  dsimp only [stv] at C1 C2
  have HA : Hid (Lies ((w.alloc (.cells #[.int .i64 s1, .int .i64 s2, .int .i64 e1, .int .i64 e2, .slice a1 n1 c1, .slice a2 n2 c2, .slice a3 n3 c3, .slice a4 n4 c4] 34)).alloc (.cells #[.int .i64 s1, .int .i64 s2, .int .i64 e1, .int .i64 e2, .slice b1 n1 d1, .slice b2 n2 d2, .slice b3 n3 d3, .slice b4 n4 d4] 34)) w.heap.size [.int .i64 s1, .int .i64 s2, .int .i64 e1, .int .i64 e2, .slice a1 n1 c1, .slice a2 n2 c2, .slice a3 n3 c3, .slice a4 n4 c4]) := (lies_new _ _ _).alloc _
  have HB : Hid (Lies ((w.alloc (.cells #[.int .i64 s1, .int .i64 s2, .int .i64 e1, .int .i64 e2, .slice a1 n1 c1, .slice a2 n2 c2, .slice a3 n3 c3, .slice a4 n4 c4] 34)).alloc (.cells #[.int .i64 s1, .int .i64 s2, .int .i64 e1, .int .i64 e2, .slice b1 n1 d1, .slice b2 n2 d2, .slice b3 n3 d3, .slice b4 n4 d4] 34)) (w.heap.size + 1) [.int .i64 s1, .int .i64 s2, .int .i64 e1, .int .i64 e2, .slice b1 n1 d1, .slice b2 n2 d2, .slice b3 n3 d3, .slice b4 n4 d4]) := lies_new2 _ _ _ _
  have HW : Hid (Below w.heap.size w ((w.alloc (.cells #[.int .i64 s1, .int .i64 s2, .int .i64 e1, .int .i64 e2, .slice a1 n1 c1, .slice a2 n2 c2, .slice a3 n3 c3, .slice a4 n4 c4] 34)).alloc (.cells #[.int .i64 s1, .int .i64 s2, .int .i64 e1, .int .i64 e2, .slice b1 n1 d1, .slice b2 n2 d2, .slice b3 n3 d3, .slice b4 n4 d4] 34))) := ((Below.refl _ _).alloc (Nat.le_refl _) _).alloc (by simp) _
  have H1 : Hid (Sees w a1 n1 c1 z1) := h1
  have G1 : Hid (Sees w b1 n1 d1 z1) := g1
  have H2 : Hid (Sees w a2 n2 c2 z2) := h2
  have G2 : Hid (Sees w b2 n2 d2 z2) := g2
  have H3 : Hid (Sees w a3 n3 c3 z3) := h3
  have G3 : Hid (Sees w b3 n3 d3 z3) := g3
  have H4 : Hid (Sees w a4 n4 c4 z4) := h4
  have G4 : Hid (Sees w b4 n4 d4 z4) := g4
  clear h1 h2 h3 h4 g1 g2 g3 g4
  go_enter Tryz.func25, Tryz.ntmps25
  go_wp2_with fail
  refine (C1 _).mono ?_
  rintro e w1 ⟨rfl, hb1⟩
  have HA1 : Hid (Lies w1 w.heap.size [.int .i64 s1, .int .i64 s2, .int .i64 e1, .int .i64 e2, .slice a1 n1 c1, .slice a2 n2 c2, .slice a3 n3 c3, .slice a4 n4 c4]) := HA.out.belowS hb1
  have HB1 : Hid (Lies w1 (w.heap.size + 1) [.int .i64 s1, .int .i64 s2, .int .i64 e1, .int .i64 e2, .slice b1 n1 d1, .slice b2 n2 d2, .slice b3 n3 d3, .slice b4 n4 d4]) := HB.out.belowS hb1
  have HW1 : Hid (Below w.heap.size w w1) := HW.out.trans (hb1.mono HW.out.size)
  have x2 : w1.cell? ⟨w.heap.size, 2, none⟩ = some (.int .i64 e1) := HA1.out.at 2
  have x3 : w1.cell? ⟨w.heap.size, 3, none⟩ = some (.int .i64 e2) := HA1.out.at 3
  have y2 : w1.cell? ⟨w.heap.size + 1, 2, none⟩ = some (.int .i64 e1) := HB1.out.at 2
  have y3 : w1.cell? ⟨w.heap.size + 1, 3, none⟩ = some (.int .i64 e2) := HB1.out.at 3
  clear hb1 HA HB HW
  go_wp2_with fail
  refine (C2 _).mono ?_
  rintro e w2 ⟨rfl, hb2⟩
  have HA2 : Hid (Lies w2 w.heap.size [.int .i64 s1, .int .i64 s2, .int .i64 e1, .int .i64 e2, .slice a1 n1 c1, .slice a2 n2 c2, .slice a3 n3 c3, .slice a4 n4 c4]) := HA1.out.belowS hb2
  have HB2 : Hid (Lies w2 (w.heap.size + 1) [.int .i64 s1, .int .i64 s2, .int .i64 e1, .int .i64 e2, .slice b1 n1 d1, .slice b2 n2 d2, .slice b3 n3 d3, .slice b4 n4 d4]) := HB1.out.belowS hb2
  have HW2 : Hid (Below w.heap.size w w2) := HW1.out.trans (hb2.mono HW1.out.size)
  clear hb2 HA1 HB1 HW1 x2 x3 y2 y3
  have p : w2.cell? ⟨w.heap.size, 4, none⟩ = some (.slice a1 n1 c1) := HA2.out.at 4
  have q : w2.cell? ⟨w.heap.size + 1, 4, none⟩ = some (.slice b1 n1 d1) := HB2.out.at 4
  go_wp2_with fail
  refine (eqS_yes _ (H1.out.below HW2.out) (G1.out.below HW2.out)).mono ?_
  rintro e w3 ⟨rfl, hkk⟩
  have HK : Hid (Below w2.heap.size w2 w3) := hkk
  have HA3 : Hid (Lies w3 w.heap.size [.int .i64 s1, .int .i64 s2, .int .i64 e1, .int .i64 e2, .slice a1 n1 c1, .slice a2 n2 c2, .slice a3 n3 c3, .slice a4 n4 c4]) := HA2.out.belowS HK.out
  have HB3 : Hid (Lies w3 (w.heap.size + 1) [.int .i64 s1, .int .i64 s2, .int .i64 e1, .int .i64 e2, .slice b1 n1 d1, .slice b2 n2 d2, .slice b3 n3 d3, .slice b4 n4 d4]) := HB2.out.belowS HK.out
  have HW3 : Hid (Below w.heap.size w w3) := HW2.out.trans (HK.out.mono HW2.out.size)
  clear hkk HK HA2 HB2 HW2 p q
  have p : w3.cell? ⟨w.heap.size, 5, none⟩ = some (.slice a2 n2 c2) := HA3.out.at 5
  have q : w3.cell? ⟨w.heap.size + 1, 5, none⟩ = some (.slice b2 n2 d2) := HB3.out.at 5
  go_wp2_with fail
  refine (eqS_yes _ (H2.out.below HW3.out) (G2.out.below HW3.out)).mono ?_
  rintro e w4 ⟨rfl, hkk⟩
  have HK : Hid (Below w3.heap.size w3 w4) := hkk
  have HA4 : Hid (Lies w4 w.heap.size [.int .i64 s1, .int .i64 s2, .int .i64 e1, .int .i64 e2, .slice a1 n1 c1, .slice a2 n2 c2, .slice a3 n3 c3, .slice a4 n4 c4]) := HA3.out.belowS HK.out
  have HB4 : Hid (Lies w4 (w.heap.size + 1) [.int .i64 s1, .int .i64 s2, .int .i64 e1, .int .i64 e2, .slice b1 n1 d1, .slice b2 n2 d2, .slice b3 n3 d3, .slice b4 n4 d4]) := HB3.out.belowS HK.out
  have HW4 : Hid (Below w.heap.size w w4) := HW3.out.trans (HK.out.mono HW3.out.size)
  clear hkk HK HA3 HB3 HW3 p q
  have p : w4.cell? ⟨w.heap.size, 6, none⟩ = some (.slice a3 n3 c3) := HA4.out.at 6
  have q : w4.cell? ⟨w.heap.size + 1, 6, none⟩ = some (.slice b3 n3 d3) := HB4.out.at 6
  go_wp2_with fail
  refine (eqS_yes _ (H3.out.below HW4.out) (G3.out.below HW4.out)).mono ?_
  rintro e w5 ⟨rfl, hkk⟩
  have HK : Hid (Below w4.heap.size w4 w5) := hkk
  have HA5 : Hid (Lies w5 w.heap.size [.int .i64 s1, .int .i64 s2, .int .i64 e1, .int .i64 e2, .slice a1 n1 c1, .slice a2 n2 c2, .slice a3 n3 c3, .slice a4 n4 c4]) := HA4.out.belowS HK.out
  have HB5 : Hid (Lies w5 (w.heap.size + 1) [.int .i64 s1, .int .i64 s2, .int .i64 e1, .int .i64 e2, .slice b1 n1 d1, .slice b2 n2 d2, .slice b3 n3 d3, .slice b4 n4 d4]) := HB4.out.belowS HK.out
  have HW5 : Hid (Below w.heap.size w w5) := HW4.out.trans (HK.out.mono HW4.out.size)
  clear hkk HK HA4 HB4 HW4 p q
  have p : w5.cell? ⟨w.heap.size, 7, none⟩ = some (.slice a4 n4 c4) := HA5.out.at 7
  have q : w5.cell? ⟨w.heap.size + 1, 7, none⟩ = some (.slice b4 n4 d4) := HB5.out.at 7
  go_wp2_with fail
  refine (eqS_yes _ (H4.out.below HW5.out) (G4.out.below HW5.out)).mono ?_
  rintro e w6 ⟨rfl, hkk⟩
  have HK : Hid (Below w5.heap.size w5 w6) := hkk
  have HA6 : Hid (Lies w6 w.heap.size [.int .i64 s1, .int .i64 s2, .int .i64 e1, .int .i64 e2, .slice a1 n1 c1, .slice a2 n2 c2, .slice a3 n3 c3, .slice a4 n4 c4]) := HA5.out.belowS HK.out
  have HB6 : Hid (Lies w6 (w.heap.size + 1) [.int .i64 s1, .int .i64 s2, .int .i64 e1, .int .i64 e2, .slice b1 n1 d1, .slice b2 n2 d2, .slice b3 n3 d3, .slice b4 n4 d4]) := HB5.out.belowS HK.out
  have HW6 : Hid (Below w.heap.size w w6) := HW5.out.trans (HK.out.mono HW5.out.size)
  clear hkk HK HA5 HB5 HW5 p q
  go_wp2
  go_ret
  exact ⟨rfl, HW6.out⟩
end Go.Proofs.YtbcfjbkmkknmfaaGreatDoor
