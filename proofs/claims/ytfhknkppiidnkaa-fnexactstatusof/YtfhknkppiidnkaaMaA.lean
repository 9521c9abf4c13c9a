/- Rules and states, in the program. -/
import Derived.Test.YtfhknkppiidnkaaMaMath
import Derived.Test.YtfhknkppiidnkaaFieldA
import Derived.BigQuiet
import Derived.Sort.AtCall
import Derived.Deep.RegionHeld3
namespace Go.Proofs.Ytfhknkppiidnkaa
open Go.RowKit

theorem quiet_more {P : Program} {f : FuncId} {args : Array Value} {w : World} {q n : Nat} {v : Value}
    (h : Calls P f args (w.drewN (q + n)) fun e w' => e = .returned v ∧ w' = w.drewN (q + n)) : Calls P f args (w.drewN (q + n)) fun e w'' => e = .returned v ∧ ∃ m, w'' = w.drewN (q + m) :=
  h.mono fun _ _ h' => ⟨h'.1, n, h'.2⟩
/-- a rule, a machine, a state as values -/
abbrev rlv (r : M.Rl) : Value := .agg #[.int .i64 r.xx, .int .i64 r.xy, .int .i64 r.yy, .int .i64 r.x, .int .i64 r.y, .int .i64 r.k]
abbrev mcv (m : M.Mc) : Value := .agg #[.int .i64 m.X.xx, .int .i64 m.X.xy, .int .i64 m.X.yy, .int .i64 m.X.x, .int .i64 m.X.y, .int .i64 m.X.k, .int .i64 m.Y.xx, .int .i64 m.Y.xy, .int .i64 m.Y.yy, .int .i64 m.Y.x, .int .i64 m.Y.y, .int .i64 m.Y.k]
abbrev stv (s : Int × Int) : Value := .agg #[.int .i64 s.1, .int .i64 s.2]
theorem frozen_kept {B : Nat} {w w' : World} {p : Addr} (hb : Below B w w') (hp : p.block < B) : w'.frozen? p = w.frozen? p := by
  simp only [World.frozen?]; rw [hb.block p.block hp]
theorem chain3m (w : World) (A B C : Array Value) (t1 t2 t3 : TypeId) (i : Nat) :
    (((w.alloc (.cells A t1)).alloc (.cells B t2)).alloc (.cells C t3)).cell? ⟨w.heap.size, i, none⟩ = A[i]? ∧ (((w.alloc (.cells A t1)).alloc (.cells B t2)).alloc (.cells C t3)).cell? ⟨w.heap.size + 1, i, none⟩ = B[i]? ∧ (((w.alloc (.cells A t1)).alloc (.cells B t2)).alloc (.cells C t3)).cell? ⟨w.heap.size + 1 + 1, i, none⟩ = C[i]? ∧ (((w.alloc (.cells A t1)).alloc (.cells B t2)).alloc (.cells C t3)).frozen? ⟨w.heap.size + 1 + 1, i, none⟩ = false := by
  have s1 : (w.alloc (.cells A t1)).heap.size = w.heap.size + 1 := by simp
  have s2 : ((w.alloc (.cells A t1)).alloc (.cells B t2)).heap.size = w.heap.size + 1 + 1 := by simp
  refine ⟨?_, ?_, ?_, ?_⟩
  · refine (World.cell?_alloc_lt (w := (w.alloc (.cells A t1)).alloc (.cells B t2)) (o := .cells C t3) (a := ⟨w.heap.size, i, none⟩) (h := by rw [s2]; simp; omega)).trans ((World.cell?_alloc_lt (w := w.alloc (.cells A t1)) (o := .cells B t2) (a := ⟨w.heap.size, i, none⟩) (h := by rw [s1]; simp)).trans ?_)
    rw [World.cell?_alloc_new]
  · refine (World.cell?_alloc_lt (w := (w.alloc (.cells A t1)).alloc (.cells B t2)) (o := .cells C t3) (a := ⟨w.heap.size + 1, i, none⟩) (h := by rw [s2]; simp)).trans ?_
    rw [← s1, World.cell?_alloc_new]
  · rw [← s2, World.cell?_alloc_new]
  · rw [frozen?_alloc_cells, frozen?_alloc_cells, frozen?_alloc_cells]; simp only [World.frozen?]; rw [Array.getElem?_eq_none (by omega)]
theorem far_setm (W : World) (B : Nat) (p : Addr) (u v : Value) (hp : p.block ≠ B) : ((W.setCell ⟨B, 0, none⟩ u).setCell ⟨B, 1, none⟩ v).cell? p = W.cell? p := by
  refine (World.cell?_setCell_other (w := W.setCell ⟨B, 0, none⟩ u) (a := ⟨B, 1, none⟩) (b := p) (v := v) (h := ?_)).trans (World.cell?_setCell_other (w := W) (a := ⟨B, 0, none⟩) (b := p) (v := u) (h := ?_))
  · intro e; exact hp (by rw [← e])
  · intro e; exact hp (by rw [← e])
end Go.Proofs.Ytfhknkppiidnkaa
