/- Proofs held against each other, marked and asked for their marks, in the laws. Proved, in the program and in the model: both give the same proof, with lists of their own. -/
import Derived.Test.YtbcfjbkmkknmfaaPfA
import Derived.Test.YtbcfjbkmkknmfaaMaJ
import Derived.Test.YtbcfjbkmkknmfaaPrJ
import Derived.Test.YtbcfjbkmkknmfaaPsD
namespace Go.Proofs.Ytbcfjbkmkknmfaa
open Go.RowKit

set_option maxHeartbeats 4000000 in
theorem eqProof_same {a1 a2 a3 a4 : Option Addr} {n1 n2 n3 n4 c1 c2 c3 c4 : Nat} {b1 b2 b3 b4 : Option Addr} {d1 d2 d3 d4 : Nat} {z1 z2 z3 z4 : List Int} (s1 s2 e1 e2 : Int) (w : World) (h1 : Sees w a1 n1 c1 z1) (h2 : Sees w a2 n2 c2 z2) (h3 : Sees w a3 n3 c3 z3) (h4 : Sees w a4 n4 c4 z4) (g1 : Sees w b1 n1 d1 z1) (g2 : Sees w b2 n2 d2 z2) (g3 : Sees w b3 n3 d3 z3) (g4 : Sees w b4 n4 d4 z4) :
    Calls Try.prog 8 #[.agg #[.int .i64 s1, .int .i64 s2, .int .i64 e1, .int .i64 e2, .slice a1 n1 c1, .slice a2 n2 c2, .slice a3 n3 c3, .slice a4 n4 c4], .agg #[.int .i64 s1, .int .i64 s2, .int .i64 e1, .int .i64 e2, .slice b1 n1 d1, .slice b2 n2 d2, .slice b3 n3 d3, .slice b4 n4 d4]] w fun e w' => e = .returned (.bool true) ∧ Below w.heap.size w w' := by
  have C1 := eqState_same (s1, s2)
  have C2 := eqState_same (e1, e2)
  dsimp only [stv] at C1 C2
  have HA : Hid (Lies ((w.alloc (.cells #[.int .i64 s1, .int .i64 s2, .int .i64 e1, .int .i64 e2, .slice a1 n1 c1, .slice a2 n2 c2, .slice a3 n3 c3, .slice a4 n4 c4] 31)).alloc (.cells #[.int .i64 s1, .int .i64 s2, .int .i64 e1, .int .i64 e2, .slice b1 n1 d1, .slice b2 n2 d2, .slice b3 n3 d3, .slice b4 n4 d4] 31)) w.heap.size [.int .i64 s1, .int .i64 s2, .int .i64 e1, .int .i64 e2, .slice a1 n1 c1, .slice a2 n2 c2, .slice a3 n3 c3, .slice a4 n4 c4]) := (lies_new _ _ _).alloc _
  have HB : Hid (Lies ((w.alloc (.cells #[.int .i64 s1, .int .i64 s2, .int .i64 e1, .int .i64 e2, .slice a1 n1 c1, .slice a2 n2 c2, .slice a3 n3 c3, .slice a4 n4 c4] 31)).alloc (.cells #[.int .i64 s1, .int .i64 s2, .int .i64 e1, .int .i64 e2, .slice b1 n1 d1, .slice b2 n2 d2, .slice b3 n3 d3, .slice b4 n4 d4] 31)) (w.heap.size + 1) [.int .i64 s1, .int .i64 s2, .int .i64 e1, .int .i64 e2, .slice b1 n1 d1, .slice b2 n2 d2, .slice b3 n3 d3, .slice b4 n4 d4]) := lies_new2 _ _ _ _
  have HW : Hid (Below w.heap.size w ((w.alloc (.cells #[.int .i64 s1, .int .i64 s2, .int .i64 e1, .int .i64 e2, .slice a1 n1 c1, .slice a2 n2 c2, .slice a3 n3 c3, .slice a4 n4 c4] 31)).alloc (.cells #[.int .i64 s1, .int .i64 s2, .int .i64 e1, .int .i64 e2, .slice b1 n1 d1, .slice b2 n2 d2, .slice b3 n3 d3, .slice b4 n4 d4] 31))) := ((Below.refl _ _).alloc (Nat.le_refl _) _).alloc (by simp) _
  have H1 : Hid (Sees w a1 n1 c1 z1) := h1
  have G1 : Hid (Sees w b1 n1 d1 z1) := g1
  have H2 : Hid (Sees w a2 n2 c2 z2) := h2
  have G2 : Hid (Sees w b2 n2 d2 z2) := g2
  have H3 : Hid (Sees w a3 n3 c3 z3) := h3
  have G3 : Hid (Sees w b3 n3 d3 z3) := g3
  have H4 : Hid (Sees w a4 n4 c4 z4) := h4
  have G4 : Hid (Sees w b4 n4 d4 z4) := g4
  clear h1 h2 h3 h4 g1 g2 g3 g4
  go_enter Try.func8, Try.ntmps8
  go_wp2_with fail
  refine (C1 _).mono ?_
  rintro e w1 ⟨rfl, hb1⟩
  have HA1 : Hid (Lies w1 w.heap.size [.int .i64 s1, .int .i64 s2, .int .i64 e1, .int .i64 e2, .slice a1 n1 c1, .slice a2 n2 c2, .slice a3 n3 c3, .slice a4 n4 c4]) := HA.out.belowS hb1
  have HB1 : Hid (Lies w1 (w.heap.size + 1) [.int .i64 s1, .int .i64 s2, .int .i64 e1, .int .i64 e2, .slice b1 n1 d1, .slice b2 n2 d2, .slice b3 n3 d3, .slice b4 n4 d4]) := HB.out.belowS hb1
  have HW1 : Hid (Below w.heap.size w w1) := HW.out.trans (hb1.mono HW.out.size)
  have x2 : w1.cell? ⟨w.heap.size, 2, none⟩ = some (.int .i64 e1) := HA1.out.at 2
  have x3 : w1.cell? ⟨w.heap.size, 3, none⟩ = some (.int .i64 e2) := HA1.out.at 3
  have y2 : w1.cell? ⟨w.heap.size + 1, 2, none⟩ = some (.int .i64 e1) := HB1.out.at 2
  have y3 : w1.cell? ⟨w.heap.size + 1, 3, none⟩ = some (.int .i64 e2) := HB1.out.at 3
  clear hb1 HA HB HW
  go_wp2_with fail
  refine (C2 _).mono ?_
  rintro e w2 ⟨rfl, hb2⟩
  have HA2 : Hid (Lies w2 w.heap.size [.int .i64 s1, .int .i64 s2, .int .i64 e1, .int .i64 e2, .slice a1 n1 c1, .slice a2 n2 c2, .slice a3 n3 c3, .slice a4 n4 c4]) := HA1.out.belowS hb2
  have HB2 : Hid (Lies w2 (w.heap.size + 1) [.int .i64 s1, .int .i64 s2, .int .i64 e1, .int .i64 e2, .slice b1 n1 d1, .slice b2 n2 d2, .slice b3 n3 d3, .slice b4 n4 d4]) := HB1.out.belowS hb2
  have HW2 : Hid (Below w.heap.size w w2) := HW1.out.trans (hb2.mono HW1.out.size)
  clear hb2 HA1 HB1 HW1 x2 x3 y2 y3
  have p : w2.cell? ⟨w.heap.size, 4, none⟩ = some (.slice a1 n1 c1) := HA2.out.at 4
  have q : w2.cell? ⟨w.heap.size + 1, 4, none⟩ = some (.slice b1 n1 d1) := HB2.out.at 4
  go_wp2_with fail
  refine (eqS_yes _ (H1.out.below HW2.out) (G1.out.below HW2.out)).mono ?_
  rintro e w3 ⟨rfl, hkk⟩
  have HK : Hid (Below w2.heap.size w2 w3) := hkk
  have HA3 : Hid (Lies w3 w.heap.size [.int .i64 s1, .int .i64 s2, .int .i64 e1, .int .i64 e2, .slice a1 n1 c1, .slice a2 n2 c2, .slice a3 n3 c3, .slice a4 n4 c4]) := HA2.out.belowS HK.out
  have HB3 : Hid (Lies w3 (w.heap.size + 1) [.int .i64 s1, .int .i64 s2, .int .i64 e1, .int .i64 e2, .slice b1 n1 d1, .slice b2 n2 d2, .slice b3 n3 d3, .slice b4 n4 d4]) := HB2.out.belowS HK.out
  have HW3 : Hid (Below w.heap.size w w3) := HW2.out.trans (HK.out.mono HW2.out.size)
  clear hkk HK HA2 HB2 HW2 p q
  have p : w3.cell? ⟨w.heap.size, 5, none⟩ = some (.slice a2 n2 c2) := HA3.out.at 5
  have q : w3.cell? ⟨w.heap.size + 1, 5, none⟩ = some (.slice b2 n2 d2) := HB3.out.at 5
  go_wp2_with fail
  refine (eqS_yes _ (H2.out.below HW3.out) (G2.out.below HW3.out)).mono ?_
  rintro e w4 ⟨rfl, hkk⟩
  have HK : Hid (Below w3.heap.size w3 w4) := hkk
  have HA4 : Hid (Lies w4 w.heap.size [.int .i64 s1, .int .i64 s2, .int .i64 e1, .int .i64 e2, .slice a1 n1 c1, .slice a2 n2 c2, .slice a3 n3 c3, .slice a4 n4 c4]) := HA3.out.belowS HK.out
  have HB4 : Hid (Lies w4 (w.heap.size + 1) [.int .i64 s1, .int .i64 s2, .int .i64 e1, .int .i64 e2, .slice b1 n1 d1, .slice b2 n2 d2, .slice b3 n3 d3, .slice b4 n4 d4]) := HB3.out.belowS HK.out
  have HW4 : Hid (Below w.heap.size w w4) := HW3.out.trans (HK.out.mono HW3.out.size)
  clear hkk HK HA3 HB3 HW3 p q
  have p : w4.cell? ⟨w.heap.size, 6, none⟩ = some (.slice a3 n3 c3) := HA4.out.at 6
  have q : w4.cell? ⟨w.heap.size + 1, 6, none⟩ = some (.slice b3 n3 d3) := HB4.out.at 6
  go_wp2_with fail
  refine (eqS_yes _ (H3.out.below HW4.out) (G3.out.below HW4.out)).mono ?_
  rintro e w5 ⟨rfl, hkk⟩
  have HK : Hid (Below w4.heap.size w4 w5) := hkk
  have HA5 : Hid (Lies w5 w.heap.size [.int .i64 s1, .int .i64 s2, .int .i64 e1, .int .i64 e2, .slice a1 n1 c1, .slice a2 n2 c2, .slice a3 n3 c3, .slice a4 n4 c4]) := HA4.out.belowS HK.out
  have HB5 : Hid (Lies w5 (w.heap.size + 1) [.int .i64 s1, .int .i64 s2, .int .i64 e1, .int .i64 e2, .slice b1 n1 d1, .slice b2 n2 d2, .slice b3 n3 d3, .slice b4 n4 d4]) := HB4.out.belowS HK.out
  have HW5 : Hid (Below w.heap.size w w5) := HW4.out.trans (HK.out.mono HW4.out.size)
  clear hkk HK HA4 HB4 HW4 p q
  have p : w5.cell? ⟨w.heap.size, 7, none⟩ = some (.slice a4 n4 c4) := HA5.out.at 7
  have q : w5.cell? ⟨w.heap.size + 1, 7, none⟩ = some (.slice b4 n4 d4) := HB5.out.at 7
  go_wp2_with fail
  refine (eqS_yes _ (H4.out.below HW5.out) (G4.out.below HW5.out)).mono ?_
  rintro e w6 ⟨rfl, hkk⟩
  have HK : Hid (Below w5.heap.size w5 w6) := hkk
  have HA6 : Hid (Lies w6 w.heap.size [.int .i64 s1, .int .i64 s2, .int .i64 e1, .int .i64 e2, .slice a1 n1 c1, .slice a2 n2 c2, .slice a3 n3 c3, .slice a4 n4 c4]) := HA5.out.belowS HK.out
  have HB6 : Hid (Lies w6 (w.heap.size + 1) [.int .i64 s1, .int .i64 s2, .int .i64 e1, .int .i64 e2, .slice b1 n1 d1, .slice b2 n2 d2, .slice b3 n3 d3, .slice b4 n4 d4]) := HB5.out.belowS HK.out
  have HW6 : Hid (Below w.heap.size w w6) := HW5.out.trans (HK.out.mono HW5.out.size)
  clear hkk HK HA5 HB5 HW5 p q
  go_wp2
  go_ret
  exact ⟨rfl, HW6.out⟩
set_option maxHeartbeats 4000000 in
theorem markProof_any {a1 a2 a3 a4 : Option Addr} {n1 n2 n3 n4 c1 c2 c3 c4 : Nat} {z1 z2 z3 z4 : List Int} {base : Nat} (s1 s2 e1 e2 : Int) (w : World) (hb : base ≤ w.heap.size) (h1 : Owns 2 w base a1 n1 c1 z1) (h2 : Owns 2 w base a2 n2 c2 z2) (h3 : Owns 2 w base a3 n3 c3 z3) (h4 : Owns 2 w base a4 n4 c4 z4) (f12 : far a1 a2) (f13 : far a1 a3) (f14 : far a1 a4) (f23 : far a2 a3) (f24 : far a2 a4) (f34 : far a3 a4) (l1 : n1 ≤ 1000000) (l2 : n2 ≤ 1000000) (l3 : n3 ≤ 1000000) (l4 : n4 ≤ 1000000) :
    Calls Try.prog 9 #[.agg #[.int .i64 s1, .int .i64 s2, .int .i64 e1, .int .i64 e2, .slice a1 n1 c1, .slice a2 n2 c2, .slice a3 n3 c3, .slice a4 n4 c4], .int .i64 1] w fun e w' => e = .returned (.int .i64 (1 + (n1 : Int) + (n2 : Int) + (n3 : Int) + (n4 : Int))) ∧ (Owns 2 w' base a1 n1 c1 (M.marks 1 n1) ∧ Owns 2 w' base a2 n2 c2 (M.marks (1 + (n1 : Int)) n2) ∧ Owns 2 w' base a3 n3 c3 (M.marks (1 + (n1 : Int) + (n2 : Int)) n3) ∧ Owns 2 w' base a4 n4 c4 (M.marks (1 + (n1 : Int) + (n2 : Int) + (n3 : Int)) n4)) ∧ (∀ (b : Nat) (vs : List Value), Lies w b vs → (∀ q, a1 = some q → q.block ≠ b) → (∀ q, a2 = some q → q.block ≠ b) → (∀ q, a3 = some q → q.block ≠ b) → (∀ q, a4 = some q → q.block ≠ b) → Lies w' b vs) ∧ Below base w w' := by
  have HA0 : Hid (Lies (w.alloc (.cells #[.int .i64 s1, .int .i64 s2, .int .i64 e1, .int .i64 e2, .slice a1 n1 c1, .slice a2 n2 c2, .slice a3 n3 c3, .slice a4 n4 c4] 31)) w.heap.size [.int .i64 s1, .int .i64 s2, .int .i64 e1, .int .i64 e2, .slice a1 n1 c1, .slice a2 n2 c2, .slice a3 n3 c3, .slice a4 n4 c4]) := lies_new _ _ _
  have HW0 : Hid (Below base w (w.alloc (.cells #[.int .i64 s1, .int .i64 s2, .int .i64 e1, .int .i64 e2, .slice a1 n1 c1, .slice a2 n2 c2, .slice a3 n3 c3, .slice a4 n4 c4] 31))) := (Below.refl _ _).alloc hb _
  have HBA : Hid (Below w.heap.size w (w.alloc (.cells #[.int .i64 s1, .int .i64 s2, .int .i64 e1, .int .i64 e2, .slice a1 n1 c1, .slice a2 n2 c2, .slice a3 n3 c3, .slice a4 n4 c4] 31))) := (Below.refl _ _).alloc (Nat.le_refl _) _
  have H10 : Hid (Owns 2 (w.alloc (.cells #[.int .i64 s1, .int .i64 s2, .int .i64 e1, .int .i64 e2, .slice a1 n1 c1, .slice a2 n2 c2, .slice a3 n3 c3, .slice a4 n4 c4] 31)) base a1 n1 c1 z1) := h1.below HBA.out
  have HN1 : Hid (∀ y, a1 = some y → y.block ≠ w.heap.size) := fun y hy => Nat.ne_of_lt (h1.hi y hy)
  have H20 : Hid (Owns 2 (w.alloc (.cells #[.int .i64 s1, .int .i64 s2, .int .i64 e1, .int .i64 e2, .slice a1 n1 c1, .slice a2 n2 c2, .slice a3 n3 c3, .slice a4 n4 c4] 31)) base a2 n2 c2 z2) := h2.below HBA.out
  have HN2 : Hid (∀ y, a2 = some y → y.block ≠ w.heap.size) := fun y hy => Nat.ne_of_lt (h2.hi y hy)
  have H30 : Hid (Owns 2 (w.alloc (.cells #[.int .i64 s1, .int .i64 s2, .int .i64 e1, .int .i64 e2, .slice a1 n1 c1, .slice a2 n2 c2, .slice a3 n3 c3, .slice a4 n4 c4] 31)) base a3 n3 c3 z3) := h3.below HBA.out
  have HN3 : Hid (∀ y, a3 = some y → y.block ≠ w.heap.size) := fun y hy => Nat.ne_of_lt (h3.hi y hy)
  have H40 : Hid (Owns 2 (w.alloc (.cells #[.int .i64 s1, .int .i64 s2, .int .i64 e1, .int .i64 e2, .slice a1 n1 c1, .slice a2 n2 c2, .slice a3 n3 c3, .slice a4 n4 c4] 31)) base a4 n4 c4 z4) := h4.below HBA.out
  have HN4 : Hid (∀ y, a4 = some y → y.block ≠ w.heap.size) := fun y hy => Nat.ne_of_lt (h4.hi y hy)
  have F12 : Hid (far a1 a2) := f12
  have F13 : Hid (far a1 a3) := f13
  have F14 : Hid (far a1 a4) := f14
  have F23 : Hid (far a2 a3) := f23
  have F24 : Hid (far a2 a4) := f24
  have F34 : Hid (far a3 a4) := f34
  have HB0 : Hid (base ≤ (w.alloc (.cells #[.int .i64 s1, .int .i64 s2, .int .i64 e1, .int .i64 e2, .slice a1 n1 c1, .slice a2 n2 c2, .slice a3 n3 c3, .slice a4 n4 c4] 31)).heap.size) := Nat.le_trans hb HBA.out.size
  have HK0 : Hid (∀ (b : Nat) (vs : List Value), Lies w b vs → (∀ q, a1 = some q → q.block ≠ b) → (∀ q, a2 = some q → q.block ≠ b) → (∀ q, a3 = some q → q.block ≠ b) → (∀ q, a4 = some q → q.block ≠ b) → Lies (w.alloc (.cells #[.int .i64 s1, .int .i64 s2, .int .i64 e1, .int .i64 e2, .slice a1 n1 c1, .slice a2 n2 c2, .slice a3 n3 c3, .slice a4 n4 c4] 31)) b vs) := fun b vs h _ _ _ _ => h.alloc _
  clear h1 h2 h3 h4 f12 f13 f14 f23 f24 f34 HBA
  go_enter Try.func9, Try.ntmps9
  have p : (w.alloc (.cells #[.int .i64 s1, .int .i64 s2, .int .i64 e1, .int .i64 e2, .slice a1 n1 c1, .slice a2 n2 c2, .slice a3 n3 c3, .slice a4 n4 c4] 31)).cell? ⟨w.heap.size, 4, none⟩ = some (.slice a1 n1 c1) := HA0.out.at 4
  go_wp2_with fail
  refine (mark_any 1 _ H10.out (by omega) (by omega) (by omega)).mono ?_
  rintro e w1 ⟨rfl, ho, hg⟩
  have HA1 : Hid (Lies w1 w.heap.size [.int .i64 s1, .int .i64 s2, .int .i64 e1, .int .i64 e2, .slice a1 n1 c1, .slice a2 n2 c2, .slice a3 n3 c3, .slice a4 n4 c4]) := HA0.out.grown hg (own_none HN1.out)
  have HW1 : Hid (Below base w w1) := HW0.out.grown hg HB0.out (row_lo H10.out.lo)
  have HB1 : Hid (base ≤ w1.heap.size) := Nat.le_trans HB0.out hg.size
  have HK1 : Hid (∀ (b : Nat) (vs : List Value), Lies w b vs → (∀ q, a1 = some q → q.block ≠ b) → (∀ q, a2 = some q → q.block ≠ b) → (∀ q, a3 = some q → q.block ≠ b) → (∀ q, a4 = some q → q.block ≠ b) → Lies w1 b vs) := fun b vs h g1 g2 g3 g4 => (HK0.out b vs h g1 g2 g3 g4).grown hg (own_none g1)
  have H11 : Hid (Owns 2 w1 base a1 n1 c1 (M.marks 1 n1)) := ho
  have H21 : Hid (Owns 2 w1 base a2 n2 c2 z2) := H20.out.grownR hg (fun z hz => own_none (fun q hq => F12.out q z hq hz))
  have H31 : Hid (Owns 2 w1 base a3 n3 c3 z3) := H30.out.grownR hg (fun z hz => own_none (fun q hq => F13.out q z hq hz))
  have H41 : Hid (Owns 2 w1 base a4 n4 c4 z4) := H40.out.grownR hg (fun z hz => own_none (fun q hq => F14.out q z hq hz))
  clear ho hg p HA0 HW0 HB0 HK0 H10 H20 H30 H40
  have p : w1.cell? ⟨w.heap.size, 5, none⟩ = some (.slice a2 n2 c2) := HA1.out.at 5
  go_wp2_with fail
  refine (mark_any (1 + (n1 : Int)) _ H21.out (by omega) (by omega) (by omega)).mono ?_
  rintro e w2 ⟨rfl, ho, hg⟩
  have HA2 : Hid (Lies w2 w.heap.size [.int .i64 s1, .int .i64 s2, .int .i64 e1, .int .i64 e2, .slice a1 n1 c1, .slice a2 n2 c2, .slice a3 n3 c3, .slice a4 n4 c4]) := HA1.out.grown hg (own_none HN2.out)
  have HW2 : Hid (Below base w w2) := HW1.out.grown hg HB1.out (row_lo H21.out.lo)
  have HB2 : Hid (base ≤ w2.heap.size) := Nat.le_trans HB1.out hg.size
  have HK2 : Hid (∀ (b : Nat) (vs : List Value), Lies w b vs → (∀ q, a1 = some q → q.block ≠ b) → (∀ q, a2 = some q → q.block ≠ b) → (∀ q, a3 = some q → q.block ≠ b) → (∀ q, a4 = some q → q.block ≠ b) → Lies w2 b vs) := fun b vs h g1 g2 g3 g4 => (HK1.out b vs h g1 g2 g3 g4).grown hg (own_none g2)
  have H12 : Hid (Owns 2 w2 base a1 n1 c1 (M.marks 1 n1)) := H11.out.grownR hg (fun z hz => own_none (fun q hq => F12.out.symm q z hq hz))
  have H22 : Hid (Owns 2 w2 base a2 n2 c2 (M.marks (1 + (n1 : Int)) n2)) := ho
  have H32 : Hid (Owns 2 w2 base a3 n3 c3 z3) := H31.out.grownR hg (fun z hz => own_none (fun q hq => F23.out q z hq hz))
  have H42 : Hid (Owns 2 w2 base a4 n4 c4 z4) := H41.out.grownR hg (fun z hz => own_none (fun q hq => F24.out q z hq hz))
  clear ho hg p HA1 HW1 HB1 HK1 H11 H21 H31 H41
  have p : w2.cell? ⟨w.heap.size, 6, none⟩ = some (.slice a3 n3 c3) := HA2.out.at 6
  go_wp2_with fail
  refine (mark_any (1 + (n1 : Int) + (n2 : Int)) _ H32.out (by omega) (by omega) (by omega)).mono ?_
  rintro e w3 ⟨rfl, ho, hg⟩
  have HA3 : Hid (Lies w3 w.heap.size [.int .i64 s1, .int .i64 s2, .int .i64 e1, .int .i64 e2, .slice a1 n1 c1, .slice a2 n2 c2, .slice a3 n3 c3, .slice a4 n4 c4]) := HA2.out.grown hg (own_none HN3.out)
  have HW3 : Hid (Below base w w3) := HW2.out.grown hg HB2.out (row_lo H32.out.lo)
  have HB3 : Hid (base ≤ w3.heap.size) := Nat.le_trans HB2.out hg.size
  have HK3 : Hid (∀ (b : Nat) (vs : List Value), Lies w b vs → (∀ q, a1 = some q → q.block ≠ b) → (∀ q, a2 = some q → q.block ≠ b) → (∀ q, a3 = some q → q.block ≠ b) → (∀ q, a4 = some q → q.block ≠ b) → Lies w3 b vs) := fun b vs h g1 g2 g3 g4 => (HK2.out b vs h g1 g2 g3 g4).grown hg (own_none g3)
  have H13 : Hid (Owns 2 w3 base a1 n1 c1 (M.marks 1 n1)) := H12.out.grownR hg (fun z hz => own_none (fun q hq => F13.out.symm q z hq hz))
  have H23 : Hid (Owns 2 w3 base a2 n2 c2 (M.marks (1 + (n1 : Int)) n2)) := H22.out.grownR hg (fun z hz => own_none (fun q hq => F23.out.symm q z hq hz))
  have H33 : Hid (Owns 2 w3 base a3 n3 c3 (M.marks (1 + (n1 : Int) + (n2 : Int)) n3)) := ho
  have H43 : Hid (Owns 2 w3 base a4 n4 c4 z4) := H42.out.grownR hg (fun z hz => own_none (fun q hq => F34.out q z hq hz))
  clear ho hg p HA2 HW2 HB2 HK2 H12 H22 H32 H42
  have p : w3.cell? ⟨w.heap.size, 7, none⟩ = some (.slice a4 n4 c4) := HA3.out.at 7
  go_wp2_with fail
  refine (mark_any (1 + (n1 : Int) + (n2 : Int) + (n3 : Int)) _ H43.out (by omega) (by omega) (by omega)).mono ?_
  rintro e w4 ⟨rfl, ho, hg⟩
  have HA4 : Hid (Lies w4 w.heap.size [.int .i64 s1, .int .i64 s2, .int .i64 e1, .int .i64 e2, .slice a1 n1 c1, .slice a2 n2 c2, .slice a3 n3 c3, .slice a4 n4 c4]) := HA3.out.grown hg (own_none HN4.out)
  have HW4 : Hid (Below base w w4) := HW3.out.grown hg HB3.out (row_lo H43.out.lo)
  have HB4 : Hid (base ≤ w4.heap.size) := Nat.le_trans HB3.out hg.size
  have HK4 : Hid (∀ (b : Nat) (vs : List Value), Lies w b vs → (∀ q, a1 = some q → q.block ≠ b) → (∀ q, a2 = some q → q.block ≠ b) → (∀ q, a3 = some q → q.block ≠ b) → (∀ q, a4 = some q → q.block ≠ b) → Lies w4 b vs) := fun b vs h g1 g2 g3 g4 => (HK3.out b vs h g1 g2 g3 g4).grown hg (own_none g4)
  have H14 : Hid (Owns 2 w4 base a1 n1 c1 (M.marks 1 n1)) := H13.out.grownR hg (fun z hz => own_none (fun q hq => F14.out.symm q z hq hz))
  have H24 : Hid (Owns 2 w4 base a2 n2 c2 (M.marks (1 + (n1 : Int)) n2)) := H23.out.grownR hg (fun z hz => own_none (fun q hq => F24.out.symm q z hq hz))
  have H34 : Hid (Owns 2 w4 base a3 n3 c3 (M.marks (1 + (n1 : Int) + (n2 : Int)) n3)) := H33.out.grownR hg (fun z hz => own_none (fun q hq => F34.out.symm q z hq hz))
  have H44 : Hid (Owns 2 w4 base a4 n4 c4 (M.marks (1 + (n1 : Int) + (n2 : Int) + (n3 : Int)) n4)) := ho
  clear ho hg p HA3 HW3 HB3 HK3 H13 H23 H33 H43
  go_wp2
  go_ret
  exact ⟨rfl, ⟨H14.out, H24.out, H34.out, H44.out⟩, HK4.out, HW4.out⟩
set_option maxHeartbeats 4000000 in
theorem heldProof_any {a1 a2 a3 a4 : Option Addr} {n1 n2 n3 n4 c1 c2 c3 c4 : Nat} (s1 s2 e1 e2 : Int) (w : World) (h1 : Sees w a1 n1 c1 (M.marks 1 n1)) (h2 : Sees w a2 n2 c2 (M.marks (1 + (n1 : Int)) n2)) (h3 : Sees w a3 n3 c3 (M.marks (1 + (n1 : Int) + (n2 : Int)) n3)) (h4 : Sees w a4 n4 c4 (M.marks (1 + (n1 : Int) + (n2 : Int) + (n3 : Int)) n4)) (l1 : n1 ≤ 1000000) (l2 : n2 ≤ 1000000) (l3 : n3 ≤ 1000000) (l4 : n4 ≤ 1000000) :
    Calls Try.prog 10 #[.agg #[.int .i64 s1, .int .i64 s2, .int .i64 e1, .int .i64 e2, .slice a1 n1 c1, .slice a2 n2 c2, .slice a3 n3 c3, .slice a4 n4 c4], .int .i64 1] w fun e w' => e = .returned (.int .i64 (1 + (n1 : Int) + (n2 : Int) + (n3 : Int) + (n4 : Int))) ∧ Below w.heap.size w w' := by
  have HA : Hid (Lies (w.alloc (.cells #[.int .i64 s1, .int .i64 s2, .int .i64 e1, .int .i64 e2, .slice a1 n1 c1, .slice a2 n2 c2, .slice a3 n3 c3, .slice a4 n4 c4] 31)) w.heap.size [.int .i64 s1, .int .i64 s2, .int .i64 e1, .int .i64 e2, .slice a1 n1 c1, .slice a2 n2 c2, .slice a3 n3 c3, .slice a4 n4 c4]) := lies_new _ _ _
  have HW : Hid (Below w.heap.size w (w.alloc (.cells #[.int .i64 s1, .int .i64 s2, .int .i64 e1, .int .i64 e2, .slice a1 n1 c1, .slice a2 n2 c2, .slice a3 n3 c3, .slice a4 n4 c4] 31))) := (Below.refl _ _).alloc (Nat.le_refl _) _
  have H1 : Hid (Sees (w.alloc (.cells #[.int .i64 s1, .int .i64 s2, .int .i64 e1, .int .i64 e2, .slice a1 n1 c1, .slice a2 n2 c2, .slice a3 n3 c3, .slice a4 n4 c4] 31)) a1 n1 c1 (M.marks 1 n1)) := h1.below HW.out
  have H2 : Hid (Sees (w.alloc (.cells #[.int .i64 s1, .int .i64 s2, .int .i64 e1, .int .i64 e2, .slice a1 n1 c1, .slice a2 n2 c2, .slice a3 n3 c3, .slice a4 n4 c4] 31)) a2 n2 c2 (M.marks (1 + (n1 : Int)) n2)) := h2.below HW.out
  have H3 : Hid (Sees (w.alloc (.cells #[.int .i64 s1, .int .i64 s2, .int .i64 e1, .int .i64 e2, .slice a1 n1 c1, .slice a2 n2 c2, .slice a3 n3 c3, .slice a4 n4 c4] 31)) a3 n3 c3 (M.marks (1 + (n1 : Int) + (n2 : Int)) n3)) := h3.below HW.out
  have H4 : Hid (Sees (w.alloc (.cells #[.int .i64 s1, .int .i64 s2, .int .i64 e1, .int .i64 e2, .slice a1 n1 c1, .slice a2 n2 c2, .slice a3 n3 c3, .slice a4 n4 c4] 31)) a4 n4 c4 (M.marks (1 + (n1 : Int) + (n2 : Int) + (n3 : Int)) n4)) := h4.below HW.out
  clear h1 h2 h3 h4
  go_enter Try.func10, Try.ntmps10
  have p : (w.alloc (.cells #[.int .i64 s1, .int .i64 s2, .int .i64 e1, .int .i64 e2, .slice a1 n1 c1, .slice a2 n2 c2, .slice a3 n3 c3, .slice a4 n4 c4] 31)).cell? ⟨w.heap.size, 4, none⟩ = some (.slice a1 n1 c1) := HA.out.at 4
  go_wp2_with fail
  refine (held_any 1 _ H1.out (by omega) (by omega) (by omega)).mono ?_
  rintro e wn1 ⟨rfl, hwn⟩
  rw [← hwn] at HA HW H1 H2 H3 H4
  clear hwn p
  have p : wn1.cell? ⟨w.heap.size, 5, none⟩ = some (.slice a2 n2 c2) := HA.out.at 5
  go_wp2_with fail
  refine (held_any (1 + (n1 : Int)) _ H2.out (by omega) (by omega) (by omega)).mono ?_
  rintro e wn2 ⟨rfl, hwn⟩
  subst hwn
  clear p
  have p : wn2.cell? ⟨w.heap.size, 6, none⟩ = some (.slice a3 n3 c3) := HA.out.at 6
  go_wp2_with fail
  refine (held_any (1 + (n1 : Int) + (n2 : Int)) _ H3.out (by omega) (by omega) (by omega)).mono ?_
  rintro e wn3 ⟨rfl, hwn⟩
  subst hwn
  clear p
  have p : wn3.cell? ⟨w.heap.size, 7, none⟩ = some (.slice a4 n4 c4) := HA.out.at 7
  go_wp2_with fail
  refine (held_any (1 + (n1 : Int) + (n2 : Int) + (n3 : Int)) _ H4.out (by omega) (by omega) (by omega)).mono ?_
  rintro e wn4 ⟨rfl, hwn⟩
  subst hwn
  clear p
  have hz : ¬ (1 + (n1 : Int) + (n2 : Int) + (n3 : Int) + (n4 : Int)) < 0 := by omega
  go_wp2
  go_ret
  exact ⟨rfl, HW.out⟩
end Go.Proofs.Ytbcfjbkmkknmfaa
namespace Go.Proofs.Ytbcfjbkmkknmfaa
open Go.RowKit

def M.pfn (m : M.Mc) (s : Int × Int) (n : Int) : Nat := if M.provOk m s n = true then 4 * n.toNat else 0
theorem M.pfn_le (m : M.Mc) (s : Int × Int) (n : Int) : M.pfn m s n ≤ 64 := by
  unfold M.pfn
  split
  · rename_i h
    obtain ⟨-, -, N, rfl, hN⟩ := M.provOk_parts h
    have := M.rowsN_pos hN
    omega
  · omega
def ProvPost (m : M.Mc) (s : Int × Int) (n : Int) (w : World) (e : Ending) (w' : World) : Prop :=
  ∃ (a1 : Option Addr) (c1 : Nat) (a2 : Option Addr) (c2 : Nat) (a3 : Option Addr) (c3 : Nat) (a4 : Option Addr) (c4 : Nat), e = .returned (.tuple #[.agg #[.int .i64 (M.prv m s n).s.1, .int .i64 (M.prv m s n).s.2, .int .i64 (M.prv m s n).e.1, .int .i64 (M.prv m s n).e.2, .slice a1 (M.pfn m s n) c1, .slice a2 (M.pfn m s n) c2, .slice a3 (M.pfn m s n) c3, .slice a4 (M.pfn m s n) c4], .bool (M.provOk m s n)]) ∧
    (Owns 2 w' w.heap.size a1 (M.pfn m s n) c1 (M.prv m s n).X ∧ Owns 2 w' w.heap.size a2 (M.pfn m s n) c2 (M.prv m s n).Y ∧ Owns 2 w' w.heap.size a3 (M.pfn m s n) c3 (M.prv m s n).QX ∧ Owns 2 w' w.heap.size a4 (M.pfn m s n) c4 (M.prv m s n).QY) ∧ (far a1 a2 ∧ far a1 a3 ∧ far a1 a4 ∧ far a2 a3 ∧ far a2 a4 ∧ far a3 a4) ∧ Below w.heap.size w w'
theorem provPost_out {m : M.Mc} {s : Int × Int} {n : Int} {w w' : World} {e : Ending} (h : M.provOk m s n = false) (he : e = .returned (.tuple #[.agg #[.int .i64 0, .int .i64 0, .int .i64 0, .int .i64 0, .slice none 0 0, .slice none 0 0, .slice none 0 0, .slice none 0 0], .bool false])) (hb : Below w.heap.size w w') : ProvPost m s n w e w' := by
  have e1 : M.prv m s n = M.Pf.zero := M.prv_out h
  have e2 : M.pfn m s n = 0 := if_neg (by rw [h]; decide)
  unfold ProvPost
  rw [e1, e2, h]
  exact ⟨none, 0, none, 0, none, 0, none, 0, he, ⟨Owns.empty _ _ _, Owns.empty _ _ _, Owns.empty _ _ _, Owns.empty _ _ _⟩, ⟨none_far _, none_far _, none_far _, none_far _, none_far _, none_far _⟩, hb⟩
theorem implProved_any (m : M.Mc) (s : Int × Int) (n : Int) (w : World) : Calls Try.prog 7 #[mcv m, stv s, .int .i64 n] w (ProvPost m s n w) := by
  cases h : M.provOk m s n with
  | false => exact (implProved_out m s n w h).mono fun e w' ⟨h1, h2⟩ => provPost_out h h1 h2
  | true =>
    obtain ⟨hm, hs, N, rfl, hN⟩ := M.provOk_parts h
    refine (implProved_in m s N w hm hs hN).mono fun e w' hp => ?_
    have e1 : M.prv m s N = m.pf s N := M.prv_in h
    have e2 : M.pfn m s N = 4 * N := if_pos h
    unfold ProvPost
    rw [e1, e2, h]
    exact hp
theorem specProved_any (m : M.Mc) (s : Int × Int) (n : Int) (w : World) : Calls Try.prog 4 #[mcv m, stv s, .int .i64 n] w (ProvPost m s n w) := by
  cases h : M.provOk m s n with
  | false => exact (specProved_out m s n w h).mono fun e w' ⟨h1, h2⟩ => provPost_out h h1 h2
  | true =>
    obtain ⟨hm, hs, N, rfl, hN⟩ := M.provOk_parts h
    refine (specProved_in m s N w hm hs hN).mono fun e w' hp => ?_
    have e1 : M.prv m s N = m.pf s N := M.prv_in h
    have e2 : M.pfn m s N = 4 * N := if_pos h
    unfold ProvPost
    rw [e1, e2, h]
    exact hp
end Go.Proofs.Ytbcfjbkmkknmfaa
