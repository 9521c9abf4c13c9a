/- Claims: what is right, in the program and in the model. -/
import Derived.Test.YtfhknkppiidnkaaGreatMaF
import Derived.Test.YtfhknkppiidnkaaGreatMaJ
import Derived.Test.YtfhknkppiidnkaaGreatMaO
import Derived.Test.YtfhknkppiidnkaaGreatLiA
namespace Go.Proofs.YtfhknkppiidnkaaGreat
open Go.RowKit

structure M.Cl where
  s : Int × Int
  e : Int × Int
  n : Int
def clv (c : M.Cl) : Value := .agg #[.int .i64 c.s.1, .int .i64 c.s.2, .int .i64 c.e.1, .int .i64 c.e.2, .int .i64 c.n]
def M.clOk (c : M.Cl) : Bool := M.sOk c.s && (M.sOk c.e && (decide (1 ≤ c.n) && decide (c.n ≤ 1000)))
set_option maxHeartbeats 2000000 in
theorem claimOk_any (c : M.Cl) (w : World) : Calls Tryz.prog 32 #[clv c] w fun e w' => e = .returned (.bool (M.clOk c)) ∧ Below w.heap.size w w' := by
  have C1 := implStateOk_any c.s
  have C2 := implStateOk_any c.e
  unfold M.clOk
  obtain ⟨⟨x, y⟩, ⟨x', y'⟩, n⟩ := c
  dsimp only [clv, stv] at C1 C2 ⊢
  generalize M.sOk (x, y) = o1 at C1 ⊢
  generalize M.sOk (x', y') = o2 at C2 ⊢
  have L0 : Hid (Lies (w.alloc (.cells #[.int .i64 x, .int .i64 y, .int .i64 x', .int .i64 y', .int .i64 n] 33)) w.heap.size [.int .i64 x, .int .i64 y, .int .i64 x', .int .i64 y', .int .i64 n]) := lies_new _ _ _
  have HBa : Hid (Below w.heap.size w (w.alloc (.cells #[.int .i64 x, .int .i64 y, .int .i64 x', .int .i64 y', .int .i64 n] 33))) := (Below.refl _ _).alloc (Nat.le_refl _) _
  cases o1 with
  | false =>
    go_enter Tryz.func32, Tryz.ntmps32
    go_wp2_with fail
    refine (C1 _).mono ?_
    rintro e w1 ⟨rfl, hb1⟩
    have HB1 : Hid (Below w.heap.size w w1) := HBa.out.trans (hb1.mono HBa.out.size)
    clear hb1
    go_wp2
    go_ret
    exact ⟨rfl, HB1.out⟩
  | true =>
    go_enter Tryz.func32, Tryz.ntmps32
    go_wp2_with fail
    refine (C1 _).mono ?_
    rintro e w1 ⟨rfl, hb1⟩
    have HB1 : Hid (Below w.heap.size w w1) := HBa.out.trans (hb1.mono HBa.out.size)
    have L1 : Hid (Lies w1 w.heap.size [.int .i64 x, .int .i64 y, .int .i64 x', .int .i64 y', .int .i64 n]) := L0.out.belowS hb1
    have p2 : w1.cell? ⟨w.heap.size, 2, none⟩ = some (.int .i64 x') := L1.out.at 2
    have p3 : w1.cell? ⟨w.heap.size, 3, none⟩ = some (.int .i64 y') := L1.out.at 3
    clear hb1
    go_wp2_with fail
    refine (C2 _).mono ?_
    rintro e w2 ⟨rfl, hb2⟩
    have HB2 : Hid (Below w.heap.size w w2) := HB1.out.trans (hb2.mono HB1.out.size)
    have p4 : w2.cell? ⟨w.heap.size, 4, none⟩ = some (.int .i64 n) := (L1.out.belowS hb2).at 4
    clear hb2 p2 p3
    cases o2 with
    | false =>
      go_wp2
      go_ret
      exact ⟨rfl, HB2.out⟩
    | true =>
      by_cases h1 : 1 ≤ n
      · go_wp2
        go_ret
        exact ⟨by simp [h1], HB2.out⟩
      · go_wp2
        go_ret
        exact ⟨by simp; omega, HB2.out⟩
theorem l1InG_any (n lo hi : Int) (w : World) : Calls Tryz.prog 43 #[.int .i64 n, .int .i64 lo, .int .i64 hi] w fun e w' => e = .returned (.bool (decide (lo ≤ n) && decide (n ≤ hi))) ∧ w' = w := by
  by_cases h1 : lo ≤ n
  · go_enter Tryz.func43, Tryz.ntmps43
    go_wp2
    go_ret
    exact ⟨by simp [h1], rfl⟩
  · go_enter Tryz.func43, Tryz.ntmps43
    go_wp2
    go_ret
    exact ⟨by simp; omega, rfl⟩
set_option maxHeartbeats 2000000 in
theorem l7Ok_any (c : M.Cl) (w : World) : Calls Tryz.prog 58 #[clv c] w fun e w' => e = .returned (.bool (M.clOk c)) ∧ Below w.heap.size w w' := by
  have C1 := specStateOk_any c.s
  have C2 := specStateOk_any c.e
  unfold M.clOk
  obtain ⟨⟨x, y⟩, ⟨x', y'⟩, n⟩ := c
  dsimp only [clv, stv] at C1 C2 ⊢
  generalize M.sOk (x, y) = o1 at C1 ⊢
  generalize M.sOk (x', y') = o2 at C2 ⊢
  have L0 : Hid (Lies (w.alloc (.cells #[.int .i64 x, .int .i64 y, .int .i64 x', .int .i64 y', .int .i64 n] 33)) w.heap.size [.int .i64 x, .int .i64 y, .int .i64 x', .int .i64 y', .int .i64 n]) := lies_new _ _ _
  have HBa : Hid (Below w.heap.size w (w.alloc (.cells #[.int .i64 x, .int .i64 y, .int .i64 x', .int .i64 y', .int .i64 n] 33))) := (Below.refl _ _).alloc (Nat.le_refl _) _
  cases o1 with
  | false =>
    go_enter Tryz.func58, Tryz.ntmps58
    go_wp2_with fail
    refine (C1 _).mono ?_
    rintro e w1 ⟨rfl, hb1⟩
    have HB1 : Hid (Below w.heap.size w w1) := HBa.out.trans (hb1.mono HBa.out.size)
    clear hb1
    go_wp2
    go_ret
    exact ⟨rfl, HB1.out⟩
  | true =>
    go_enter Tryz.func58, Tryz.ntmps58
    go_wp2_with fail
    refine (C1 _).mono ?_
    rintro e w1 ⟨rfl, hb1⟩
    have HB1 : Hid (Below w.heap.size w w1) := HBa.out.trans (hb1.mono HBa.out.size)
    have L1 : Hid (Lies w1 w.heap.size [.int .i64 x, .int .i64 y, .int .i64 x', .int .i64 y', .int .i64 n]) := L0.out.belowS hb1
    have p2 : w1.cell? ⟨w.heap.size, 2, none⟩ = some (.int .i64 x') := L1.out.at 2
    have p3 : w1.cell? ⟨w.heap.size, 3, none⟩ = some (.int .i64 y') := L1.out.at 3
    clear hb1
    go_wp2_with fail
    refine (C2 _).mono ?_
    rintro e w2 ⟨rfl, hb2⟩
    have HB2 : Hid (Below w.heap.size w w2) := HB1.out.trans (hb2.mono HB1.out.size)
    have p4 : w2.cell? ⟨w.heap.size, 4, none⟩ = some (.int .i64 n) := (L1.out.belowS hb2).at 4
    clear hb2 p2 p3
    cases o2 with
    | false =>
      go_wp2
      go_ret
      exact ⟨rfl, HB2.out⟩
    | true =>
      go_wp2_with fail
      refine (l1InG_any _ _ _ _).mono ?_
      rintro e w3 ⟨rfl, rfl⟩
      go_wp2
      go_ret
      exact ⟨rfl, HB2.out⟩
theorem M.clOk_n {c : M.Cl} (h : M.clOk c = true) : 1 ≤ c.n ∧ c.n ≤ 1000 := by
  unfold M.clOk at h; simp only [Bool.and_eq_true, decide_eq_true_eq] at h; exact h.2.2
def M.joinOk (a b : M.Cl) : Bool := M.clOk a && (M.clOk b && ((decide (a.e.1 = b.s.1) && decide (a.e.2 = b.s.2)) && decide (a.n + b.n ≤ 1000)))
def M.joinv (a b : M.Cl) : M.Cl := if M.joinOk a b = true then ⟨a.s, b.e, a.n + b.n⟩ else ⟨(0, 0), (0, 0), 0⟩
theorem M.joinv_in {a b : M.Cl} (h : M.joinOk a b = true) : M.joinv a b = ⟨a.s, b.e, a.n + b.n⟩ := if_pos h
theorem M.joinv_out {a b : M.Cl} (h : M.joinOk a b = false) : M.joinv a b = ⟨(0, 0), (0, 0), 0⟩ := if_neg (by rw [h]; decide)
set_option maxHeartbeats 4000000 in
theorem implJoined_any (a b : M.Cl) (w : World) : Calls Tryz.prog 87 #[clv a, clv b] w fun e w' => e = .returned (.tuple #[clv (M.joinv a b), .bool (M.joinOk a b)]) ∧ Below w.heap.size w w' := by
  have C1 := claimOk_any a
  have C2 := claimOk_any b
  have hna := @M.clOk_n a
  have hnb := @M.clOk_n b
  have hin := @M.joinv_in a b
  have hout := @M.joinv_out a b
  generalize M.joinv a b = q at hin hout ⊢
  unfold M.joinOk at hin hout ⊢
  generalize M.clOk a = o1 at C1 hin hout hna ⊢
  generalize M.clOk b = o2 at C2 hin hout hnb ⊢
  obtain ⟨⟨x, y⟩, ⟨x', y'⟩, n⟩ := a
  obtain ⟨⟨u, v⟩, ⟨u', v'⟩, m⟩ := b
  dsimp only [clv, stv] at C1 C2 hin hout hna hnb ⊢
  have LA : Hid (Lies (((w.alloc (.cells #[.int .i64 x, .int .i64 y, .int .i64 x', .int .i64 y', .int .i64 n] 33)).alloc (.cells #[.int .i64 u, .int .i64 v, .int .i64 u', .int .i64 v', .int .i64 m] 33)).alloc (.cells #[.int .i64 0, .int .i64 0, .int .i64 0, .int .i64 0, .int .i64 0] 33)) (w.heap.size) [.int .i64 x, .int .i64 y, .int .i64 x', .int .i64 y', .int .i64 n]) := ((lies_new _ _ _).alloc _).alloc _
  have LB : Hid (Lies (((w.alloc (.cells #[.int .i64 x, .int .i64 y, .int .i64 x', .int .i64 y', .int .i64 n] 33)).alloc (.cells #[.int .i64 u, .int .i64 v, .int .i64 u', .int .i64 v', .int .i64 m] 33)).alloc (.cells #[.int .i64 0, .int .i64 0, .int .i64 0, .int .i64 0, .int .i64 0] 33)) (w.heap.size + 1) [.int .i64 u, .int .i64 v, .int .i64 u', .int .i64 v', .int .i64 m]) := (lies_new2 _ _ _ _).alloc _
  have LZ : Hid (Lies (((w.alloc (.cells #[.int .i64 x, .int .i64 y, .int .i64 x', .int .i64 y', .int .i64 n] 33)).alloc (.cells #[.int .i64 u, .int .i64 v, .int .i64 u', .int .i64 v', .int .i64 m] 33)).alloc (.cells #[.int .i64 0, .int .i64 0, .int .i64 0, .int .i64 0, .int .i64 0] 33)) (w.heap.size + 1 + 1) [.int .i64 0, .int .i64 0, .int .i64 0, .int .i64 0, .int .i64 0]) := lies_new3 _ _ _ _ _
  have HBa : Hid (Below w.heap.size w (((w.alloc (.cells #[.int .i64 x, .int .i64 y, .int .i64 x', .int .i64 y', .int .i64 n] 33)).alloc (.cells #[.int .i64 u, .int .i64 v, .int .i64 u', .int .i64 v', .int .i64 m] 33)).alloc (.cells #[.int .i64 0, .int .i64 0, .int .i64 0, .int .i64 0, .int .i64 0] 33))) := (((Below.refl _ _).alloc (Nat.le_refl _) _).alloc (by simp) _).alloc (by simp; omega) _
  cases o1 with
  | false =>
    obtain rfl := hout rfl
    go_enter Tryz.func87, Tryz.ntmps87
    go_wp2_with fail
    refine (C1 _).mono ?_
    rintro e w1 ⟨rfl, hb1⟩
    have HB1 : Hid (Below w.heap.size w w1) := HBa.out.trans (hb1.mono HBa.out.size)
    have LZ1 := LZ.out.belowS hb1
    have z0 : w1.cell? ⟨w.heap.size + 1 + 1, 0, none⟩ = some (.int .i64 0) := LZ1.at 0
    have z1 : w1.cell? ⟨w.heap.size + 1 + 1, 1, none⟩ = some (.int .i64 0) := LZ1.at 1
    have z2 : w1.cell? ⟨w.heap.size + 1 + 1, 2, none⟩ = some (.int .i64 0) := LZ1.at 2
    have z3 : w1.cell? ⟨w.heap.size + 1 + 1, 3, none⟩ = some (.int .i64 0) := LZ1.at 3
    have z4 : w1.cell? ⟨w.heap.size + 1 + 1, 4, none⟩ = some (.int .i64 0) := LZ1.at 4
    have f0 : w1.frozen? ⟨w.heap.size + 1 + 1, 0, none⟩ = false := LZ1.fr 0
    have f1 : w1.frozen? ⟨w.heap.size + 1 + 1, 1, none⟩ = false := LZ1.fr 1
    have f2 : w1.frozen? ⟨w.heap.size + 1 + 1, 2, none⟩ = false := LZ1.fr 2
    have f3 : w1.frozen? ⟨w.heap.size + 1 + 1, 3, none⟩ = false := LZ1.fr 3
    have f4 : w1.frozen? ⟨w.heap.size + 1 + 1, 4, none⟩ = false := LZ1.fr 4
    clear hb1 LZ1
    go_wp2
    refine bodyPost_ret (v := .tuple #[.agg #[.int .i64 0, .int .i64 0, .int .i64 0, .int .i64 0, .int .i64 0], .bool false]) (by simp [results, Tryz.results87, go_sem, z0, z1, z2, z3, z4]) rfl ⟨rfl, ?_⟩
    exact (((((HB1.out.setCell (by show w.heap.size ≤ w.heap.size + 1 + 1; omega) _).setCell (by show w.heap.size ≤ w.heap.size + 1 + 1; omega) _).setCell (by show w.heap.size ≤ w.heap.size + 1 + 1; omega) _).setCell (by show w.heap.size ≤ w.heap.size + 1 + 1; omega) _).setCell (by show w.heap.size ≤ w.heap.size + 1 + 1; omega) _)
  | true =>
    go_enter Tryz.func87, Tryz.ntmps87
    go_wp2_with fail
    refine (C1 _).mono ?_
    rintro e w1 ⟨rfl, hb1⟩
    have HB1 : Hid (Below w.heap.size w w1) := HBa.out.trans (hb1.mono HBa.out.size)
    have LA1 : Hid (Lies w1 (w.heap.size) [.int .i64 x, .int .i64 y, .int .i64 x', .int .i64 y', .int .i64 n]) := LA.out.belowS hb1
    have LB1 : Hid (Lies w1 (w.heap.size + 1) [.int .i64 u, .int .i64 v, .int .i64 u', .int .i64 v', .int .i64 m]) := LB.out.belowS hb1
    have LZ1 : Hid (Lies w1 (w.heap.size + 1 + 1) [.int .i64 0, .int .i64 0, .int .i64 0, .int .i64 0, .int .i64 0]) := LZ.out.belowS hb1
    have b0 : w1.cell? ⟨w.heap.size + 1, 0, none⟩ = some (.int .i64 u) := LB1.out.at 0
    have b1 : w1.cell? ⟨w.heap.size + 1, 1, none⟩ = some (.int .i64 v) := LB1.out.at 1
    have b2 : w1.cell? ⟨w.heap.size + 1, 2, none⟩ = some (.int .i64 u') := LB1.out.at 2
    have b3 : w1.cell? ⟨w.heap.size + 1, 3, none⟩ = some (.int .i64 v') := LB1.out.at 3
    have b4 : w1.cell? ⟨w.heap.size + 1, 4, none⟩ = some (.int .i64 m) := LB1.out.at 4
    clear hb1 LA LB LZ HBa
    go_wp2_with fail
    refine (C2 _).mono ?_
    rintro e w2 ⟨rfl, hb2⟩
    have HB2 : Hid (Below w.heap.size w w2) := HB1.out.trans (hb2.mono HB1.out.size)
    have LA2 := LA1.out.belowS hb2
    have LB2 := LB1.out.belowS hb2
    have LZ2 := LZ1.out.belowS hb2
    clear b0 b1 b2 b3 b4
    have a0 : w2.cell? ⟨w.heap.size, 0, none⟩ = some (.int .i64 x) := LA2.at 0
    have a1 : w2.cell? ⟨w.heap.size, 1, none⟩ = some (.int .i64 y) := LA2.at 1
    have a2 : w2.cell? ⟨w.heap.size, 2, none⟩ = some (.int .i64 x') := LA2.at 2
    have a3 : w2.cell? ⟨w.heap.size, 3, none⟩ = some (.int .i64 y') := LA2.at 3
    have a4 : w2.cell? ⟨w.heap.size, 4, none⟩ = some (.int .i64 n) := LA2.at 4
    have b0 : w2.cell? ⟨w.heap.size + 1, 0, none⟩ = some (.int .i64 u) := LB2.at 0
    have b1 : w2.cell? ⟨w.heap.size + 1, 1, none⟩ = some (.int .i64 v) := LB2.at 1
    have b2 : w2.cell? ⟨w.heap.size + 1, 2, none⟩ = some (.int .i64 u') := LB2.at 2
    have b3 : w2.cell? ⟨w.heap.size + 1, 3, none⟩ = some (.int .i64 v') := LB2.at 3
    have b4 : w2.cell? ⟨w.heap.size + 1, 4, none⟩ = some (.int .i64 m) := LB2.at 4
    have z0 : w2.cell? ⟨w.heap.size + 1 + 1, 0, none⟩ = some (.int .i64 0) := LZ2.at 0
    have z1 : w2.cell? ⟨w.heap.size + 1 + 1, 1, none⟩ = some (.int .i64 0) := LZ2.at 1
    have z2 : w2.cell? ⟨w.heap.size + 1 + 1, 2, none⟩ = some (.int .i64 0) := LZ2.at 2
    have z3 : w2.cell? ⟨w.heap.size + 1 + 1, 3, none⟩ = some (.int .i64 0) := LZ2.at 3
    have z4 : w2.cell? ⟨w.heap.size + 1 + 1, 4, none⟩ = some (.int .i64 0) := LZ2.at 4
    have f0 : w2.frozen? ⟨w.heap.size + 1 + 1, 0, none⟩ = false := LZ2.fr 0
    have f1 : w2.frozen? ⟨w.heap.size + 1 + 1, 1, none⟩ = false := LZ2.fr 1
    have f2 : w2.frozen? ⟨w.heap.size + 1 + 1, 2, none⟩ = false := LZ2.fr 2
    have f3 : w2.frozen? ⟨w.heap.size + 1 + 1, 3, none⟩ = false := LZ2.fr 3
    have f4 : w2.frozen? ⟨w.heap.size + 1 + 1, 4, none⟩ = false := LZ2.fr 4
    clear hb2 LA1 LB1 LZ1 LA2 LB2 LZ2 HB1
    cases o2 with
    | false =>
      obtain rfl := hout rfl
      go_wp2
      refine bodyPost_ret (v := .tuple #[.agg #[.int .i64 0, .int .i64 0, .int .i64 0, .int .i64 0, .int .i64 0], .bool false]) (by simp [results, Tryz.results87, go_sem, z0, z1, z2, z3, z4]) rfl ⟨rfl, ?_⟩
      exact (((((HB2.out.setCell (by show w.heap.size ≤ w.heap.size + 1 + 1; omega) _).setCell (by show w.heap.size ≤ w.heap.size + 1 + 1; omega) _).setCell (by show w.heap.size ≤ w.heap.size + 1 + 1; omega) _).setCell (by show w.heap.size ≤ w.heap.size + 1 + 1; omega) _).setCell (by show w.heap.size ≤ w.heap.size + 1 + 1; omega) _)
    | true =>
      obtain ⟨hn0, hn1⟩ := hna (by simp)
      obtain ⟨hm0, hm1⟩ := hnb (by simp)
      by_cases h1 : x' = u
      · by_cases h2 : y' = v
        · subst h1 h2
          have j1 : (x' == x') = true := by simp
          have j2 : (y' == y') = true := by simp
          have j3 : (x' != x') = false := by simp
          have j4 : (y' != y') = false := by simp
          by_cases h3 : n + m ≤ 1000
          · obtain rfl := hin (by simp [h3])
            go_wp2
            refine bodyPost_ret (v := .tuple #[.agg #[.int .i64 x, .int .i64 y, .int .i64 u', .int .i64 v', .int .i64 (n + m)], .bool true]) (by simp [results, Tryz.results87, go_sem, z0, z1, z2, z3, z4]) rfl ⟨by simp, ?_⟩
            exact (((((HB2.out.setCell (by show w.heap.size ≤ w.heap.size + 1 + 1; omega) _).setCell (by show w.heap.size ≤ w.heap.size + 1 + 1; omega) _).setCell (by show w.heap.size ≤ w.heap.size + 1 + 1; omega) _).setCell (by show w.heap.size ≤ w.heap.size + 1 + 1; omega) _).setCell (by show w.heap.size ≤ w.heap.size + 1 + 1; omega) _)
          · obtain rfl := hout (by simp; omega)
            go_wp2
            refine bodyPost_ret (v := .tuple #[.agg #[.int .i64 0, .int .i64 0, .int .i64 0, .int .i64 0, .int .i64 0], .bool false]) (by simp [results, Tryz.results87, go_sem, z0, z1, z2, z3, z4]) rfl ⟨by simp; omega, ?_⟩
            exact (((((HB2.out.setCell (by show w.heap.size ≤ w.heap.size + 1 + 1; omega) _).setCell (by show w.heap.size ≤ w.heap.size + 1 + 1; omega) _).setCell (by show w.heap.size ≤ w.heap.size + 1 + 1; omega) _).setCell (by show w.heap.size ≤ w.heap.size + 1 + 1; omega) _).setCell (by show w.heap.size ≤ w.heap.size + 1 + 1; omega) _)
        · obtain rfl := hout (by simp [h2])
          subst h1
          have j1 : (x' == x') = true := by simp
          have j2 : (y' == v) = false := by simpa using h2
          have j3 : (x' != x') = false := by simp
          have j4 : (y' != v) = true := by simpa using h2
          go_wp2
          refine bodyPost_ret (v := .tuple #[.agg #[.int .i64 0, .int .i64 0, .int .i64 0, .int .i64 0, .int .i64 0], .bool false]) (by simp [results, Tryz.results87, go_sem, z0, z1, z2, z3, z4]) rfl ⟨by simp, ?_⟩
          exact (((((HB2.out.setCell (by show w.heap.size ≤ w.heap.size + 1 + 1; omega) _).setCell (by show w.heap.size ≤ w.heap.size + 1 + 1; omega) _).setCell (by show w.heap.size ≤ w.heap.size + 1 + 1; omega) _).setCell (by show w.heap.size ≤ w.heap.size + 1 + 1; omega) _).setCell (by show w.heap.size ≤ w.heap.size + 1 + 1; omega) _)
      · obtain rfl := hout (by simp [h1])
        have j1 : (x' == u) = false := by simpa using h1
        have j3 : (x' != u) = true := by simpa using h1
        go_wp2
        refine bodyPost_ret (v := .tuple #[.agg #[.int .i64 0, .int .i64 0, .int .i64 0, .int .i64 0, .int .i64 0], .bool false]) (by simp [results, Tryz.results87, go_sem, z0, z1, z2, z3, z4]) rfl ⟨by simp, ?_⟩
        exact (((((HB2.out.setCell (by show w.heap.size ≤ w.heap.size + 1 + 1; omega) _).setCell (by show w.heap.size ≤ w.heap.size + 1 + 1; omega) _).setCell (by show w.heap.size ≤ w.heap.size + 1 + 1; omega) _).setCell (by show w.heap.size ≤ w.heap.size + 1 + 1; omega) _).setCell (by show w.heap.size ≤ w.heap.size + 1 + 1; omega) _)
end Go.Proofs.YtfhknkppiidnkaaGreat
