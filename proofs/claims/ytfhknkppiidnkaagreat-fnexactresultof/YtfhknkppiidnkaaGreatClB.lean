/- What the laws make of claims, and whether two are alike. Leaves of the walks over claims. -/
import Derived.Test.YtfhknkppiidnkaaGreatClA
import Derived.Test.YtfhknkppiidnkaaGreatMaO
namespace Go.Proofs.YtfhknkppiidnkaaGreat
open Go.RowKit Go.WideShapes

theorem cl_of (zs : List Int) (h : zs.length = 5) : ∃ c : M.Cl, Value.agg (zs.map (Value.int .i64)).toArray = clv c := by
  match zs, h with
  | [x, y, x', y', n], _ => exact ⟨⟨(x, y), (x', y'), n⟩, rfl⟩
set_option maxHeartbeats 4000000 in
theorem eqClaim_same (c : M.Cl) (w : World) : Calls Tryz.prog 14 #[clv c, clv c] w fun e w' => e = .returned (.bool true) ∧ Below w.heap.size w w' := by
  have C1 := eqState_same c.s
  have C2 := eqState_same c.e
  obtain ⟨⟨x, y⟩, ⟨x', y'⟩, n⟩ := c
  dsimp only [clv, stv] at C1 C2 ⊢
  go_enter Tryz.func14, Tryz.ntmps14
  go_wp2_with fail
  refine (C1 _).mono ?_
  rintro e w1 ⟨rfl, hb1⟩
  have HB1 : Hid (Below w.heap.size w w1) := (((Below.refl _ _).alloc (Nat.le_refl _) _).alloc (by simp) _).trans (hb1.mono (by simp; omega))
  have LA1 : Hid (Lies w1 (w.heap.size) [.int .i64 x, .int .i64 y, .int .i64 x', .int .i64 y', .int .i64 n]) := ((lies_new _ _ _).alloc _).belowS hb1
  have LB1 : Hid (Lies w1 (w.heap.size + 1) [.int .i64 x, .int .i64 y, .int .i64 x', .int .i64 y', .int .i64 n]) := (lies_new2 _ _ _ _).belowS hb1
  have a0 : w1.cell? ⟨w.heap.size, 0, none⟩ = some (.int .i64 x) := LA1.out.at 0
  have a1 : w1.cell? ⟨w.heap.size, 1, none⟩ = some (.int .i64 y) := LA1.out.at 1
  have a2 : w1.cell? ⟨w.heap.size, 2, none⟩ = some (.int .i64 x') := LA1.out.at 2
  have a3 : w1.cell? ⟨w.heap.size, 3, none⟩ = some (.int .i64 y') := LA1.out.at 3
  have a4 : w1.cell? ⟨w.heap.size, 4, none⟩ = some (.int .i64 n) := LA1.out.at 4
  have b0 : w1.cell? ⟨w.heap.size + 1, 0, none⟩ = some (.int .i64 x) := LB1.out.at 0
  have b1 : w1.cell? ⟨w.heap.size + 1, 1, none⟩ = some (.int .i64 y) := LB1.out.at 1
  have b2 : w1.cell? ⟨w.heap.size + 1, 2, none⟩ = some (.int .i64 x') := LB1.out.at 2
  have b3 : w1.cell? ⟨w.heap.size + 1, 3, none⟩ = some (.int .i64 y') := LB1.out.at 3
  have b4 : w1.cell? ⟨w.heap.size + 1, 4, none⟩ = some (.int .i64 n) := LB1.out.at 4
  clear hb1
  go_wp2_with fail
  refine (C2 _).mono ?_
  rintro e w2 ⟨rfl, hb2⟩
  have HB2 : Hid (Below w.heap.size w w2) := HB1.out.trans (hb2.mono HB1.out.size)
  have LA2 := LA1.out.belowS hb2
  have LB2 := LB1.out.belowS hb2
  clear hb2 a0 a1 a2 a3 a4 b0 b1 b2 b3 b4 LA1 LB1 HB1
  have a4 : w2.cell? ⟨w.heap.size, 4, none⟩ = some (.int .i64 n) := LA2.at 4
  have b4 : w2.cell? ⟨w.heap.size + 1, 4, none⟩ = some (.int .i64 n) := LB2.at 4
  have n1 : (n != n) = false := by simp
  clear LA2 LB2
  go_wp2
  go_ret
  exact ⟨rfl, HB2.out⟩
end Go.Proofs.YtfhknkppiidnkaaGreat
namespace Go.Proofs.YtfhknkppiidnkaaGreat
open Go.RowKit

theorem lies_kept {w w' : World} {t : TypeId} {vs : Array Value} (hb : Below (w.alloc (.cells vs t)).heap.size (w.alloc (.cells vs t)) w') : Lies w' w.heap.size vs.toList := (lies_new _ _ _).belowS hb
theorem Lies.five {W : World} {b : Nat} {v0 v1 v2 v3 v4 : Value} (h : Lies W b [v0, v1, v2, v3, v4]) :
    W.cell? ⟨b, 0, none⟩ = some v0 ∧ W.cell? ⟨b, 1, none⟩ = some v1 ∧ W.cell? ⟨b, 2, none⟩ = some v2 ∧ W.cell? ⟨b, 3, none⟩ = some v3 ∧ W.cell? ⟨b, 4, none⟩ = some v4 ∧
    W.frozen? ⟨b, 0, none⟩ = false ∧ W.frozen? ⟨b, 1, none⟩ = false ∧ W.frozen? ⟨b, 2, none⟩ = false ∧ W.frozen? ⟨b, 3, none⟩ = false ∧ W.frozen? ⟨b, 4, none⟩ = false :=
  ⟨h.at 0, h.at 1, h.at 2, h.at 3, h.at 4, h.fr 0, h.fr 1, h.fr 2, h.fr 3, h.fr 4⟩
theorem leafA5 {B : Nat} {a W : World} {t : TypeId} {vs : Array Value} (hb : Below B a W) (hB : B ≤ a.heap.size) :
    Below B a (W.alloc (.cells vs t)) ∧ Lies (W.alloc (.cells vs t)) W.heap.size vs.toList ∧ ∀ b us, Lies W b us → Lies (W.alloc (.cells vs t)) b us :=
  ⟨hb.alloc (Nat.le_trans hB hb.size) _, lies_new _ _ _, fun _ _ h => h.alloc _⟩
theorem leafS5 {B p : Nat} {a W : World} {v0 v1 v2 v3 v4 u0 u1 u2 u3 u4 : Value} (hb : Below B a W) (hp : B ≤ p) (L : Lies W p [u0, u1, u2, u3, u4]) :
    Below B a (((((W.setCell ⟨p, 0, none⟩ v0).setCell ⟨p, 1, none⟩ v1).setCell ⟨p, 2, none⟩ v2).setCell ⟨p, 3, none⟩ v3).setCell ⟨p, 4, none⟩ v4) ∧
    Lies (((((W.setCell ⟨p, 0, none⟩ v0).setCell ⟨p, 1, none⟩ v1).setCell ⟨p, 2, none⟩ v2).setCell ⟨p, 3, none⟩ v3).setCell ⟨p, 4, none⟩ v4) p [v0, v1, v2, v3, v4] ∧
    ∀ b us, b ≠ p → Lies W b us → Lies (((((W.setCell ⟨p, 0, none⟩ v0).setCell ⟨p, 1, none⟩ v1).setCell ⟨p, 2, none⟩ v2).setCell ⟨p, 3, none⟩ v3).setCell ⟨p, 4, none⟩ v4) b us :=
  ⟨((((hb.setCell hp _).setCell hp _).setCell hp _).setCell hp _).setCell hp _,
   ((((L.set 0 (by simp) _).set 1 (by simp) _).set 2 (by simp) _).set 3 (by simp) _).set 4 (by simp) _,
   fun _ _ h L' => ((((L'.far h _ _).far h _ _).far h _ _).far h _ _).far h _ _⟩
end Go.Proofs.YtfhknkppiidnkaaGreat
