/- Claims: what is right, in the program and in the model. -/
import Derived.Test.YtbcfjbkmkknmfaaGreatDoorMaF
import Derived.Test.YtbcfjbkmkknmfaaGreatDoorMaJ
import Derived.Test.YtbcfjbkmkknmfaaGreatDoorMaA
import Derived.Test.YtbcfjbkmkknmfaaGreatDoorMaS
import Derived.Test.YtbcfjbkmkknmfaaGreatDoorLiA
namespace Go.Proofs.YtbcfjbkmkknmfaaGreatDoor
open Go.RowKit

structure M.Cl where
  s : Int × Int
  e : Int × Int
  n : Int
def clv (c : M.Cl) : Value := .agg #[.int .i64 c.s.1, .int .i64 c.s.2, .int .i64 c.e.1, .int .i64 c.e.2, .int .i64 c.n]
def M.clOk (c : M.Cl) : Bool := M.sOk c.s && (M.sOk c.e && (decide (1 ≤ c.n) && decide (c.n ≤ 1000)))
set_option maxHeartbeats 2000000 in
theorem claimOk_any (c : M.Cl) (w : World) : Calls Tryz.prog 66 #[clv c] w fun e w' => e = .returned (.bool (M.clOk c)) ∧ Below w.heap.size w w' := by
  have C1 := implStateOk_any c.s
  have C2 := implStateOk_any c.e
  unfold M.clOk
  obtain ⟨⟨x, y⟩, ⟨x', y'⟩, n⟩ := c
  dsimp only [clv, stv] at C1 C2 ⊢
  generalize M.sOk (x, y) = o1 at C1 ⊢
  generalize M.sOk (x', y') = o2 at C2 ⊢
  have L0 : Hid (Lies (w.alloc (.cells #[.int .i64 x, .int .i64 y, .int .i64 x', .int .i64 y', .int .i64 n] 46)) w.heap.size [.int .i64 x, .int .i64 y, .int .i64 x', .int .i64 y', .int .i64 n]) := lies_new _ _ _
  have HBa : Hid (Below w.heap.size w (w.alloc (.cells #[.int .i64 x, .int .i64 y, .int .i64 x', .int .i64 y', .int .i64 n] 46))) := (Below.refl _ _).alloc (Nat.le_refl _) _
  cases o1 with
  | false =>
    go_enter Tryz.func66, Tryz.ntmps66
    go_wp2_with fail
    refine (C1 _).mono ?_
    rintro e w1 ⟨rfl, hb1⟩
    have HB1 : Hid (Below w.heap.size w w1) := HBa.out.trans (hb1.mono HBa.out.size)
    clear hb1
    go_wp2
    go_ret
    exact ⟨rfl, HB1.out⟩
  | true =>
    go_enter Tryz.func66, Tryz.ntmps66
    go_wp2_with fail
    refine (C1 _).mono ?_
    rintro e w1 ⟨rfl, hb1⟩
    have HB1 : Hid (Below w.heap.size w w1) := HBa.out.trans (hb1.mono HBa.out.size)
    have L1 : Hid (Lies w1 w.heap.size [.int .i64 x, .int .i64 y, .int .i64 x', .int .i64 y', .int .i64 n]) := L0.out.belowS hb1
    have p2 : w1.cell? ⟨w.heap.size, 2, none⟩ = some (.int .i64 x') := L1.out.at 2
    have p3 : w1.cell? ⟨w.heap.size, 3, none⟩ = some (.int .i64 y') := L1.out.at 3
    clear hb1
    go_wp2_with fail
    refine (C2 _).mono ?_
    rintro e w2 ⟨rfl, hb2⟩
    have HB2 : Hid (Below w.heap.size w w2) := HB1.out.trans (hb2.mono HB1.out.size)
    have p4 : w2.cell? ⟨w.heap.size, 4, none⟩ = some (.int .i64 n) := (L1.out.belowS hb2).at 4
    clear hb2 p2 p3
    cases o2 with
    | false =>
      go_wp2
      go_ret
      exact ⟨rfl, HB2.out⟩
    | true =>
      by_cases h1 : 1 ≤ n
      · go_wp2
        go_ret
        exact ⟨by simp [h1], HB2.out⟩
      · go_wp2
        go_ret
        exact ⟨by simp; omega, HB2.out⟩
theorem M.clOk_n {c : M.Cl} (h : M.clOk c = true) : 1 ≤ c.n ∧ c.n ≤ 1000 := by
  unfold M.clOk at h; simp only [Bool.and_eq_true, decide_eq_true_eq] at h; exact h.2.2
end Go.Proofs.YtbcfjbkmkknmfaaGreatDoor
