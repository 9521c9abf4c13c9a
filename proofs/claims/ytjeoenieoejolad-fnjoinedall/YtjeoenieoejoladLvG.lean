/- Claims joined one by one. -/
import Derived.Test.YtjeoenieoejoladLvF
namespace Go.Proofs.Ytjeoenieoejolad
open Go.RowKit

theorem M.allOk_one (c : M.Cl) : M.allOk [c] = M.clOk c := by
  unfold M.allOk M.chain
  rw [M.lnk_one]
  cases h : M.clOk c with
  | false => simp
  | true => have := M.clOk_n h; simp [M.tot]; omega
theorem M.fold_snoc {cs : List M.Cl} {j : Nat} (p : M.Cl × Bool) (h1 : 1 ≤ j) (h2 : j < cs.length) : ((cs.drop 1).take (j + 1 - 1)).foldl M.step p = M.step (((cs.drop 1).take (j - 1)).foldl M.step p) (cs.getD j M.c0) := by
  obtain ⟨i, rfl⟩ : ∃ i, j = i + 1 := ⟨j - 1, by omega⟩
  rw [show i + 1 + 1 - 1 = i + 1 by omega, show i + 1 - 1 = i by omega, List.take_succ_eq_append_getElem (by simp; omega), List.foldl_append]
  show M.step _ _ = _
  congr 1
  have e : (cs.drop 1)[i]? = cs[i + 1]? := by rw [List.getElem?_drop, Nat.add_comm]
  rw [List.getD_eq_getElem?_getD, ← e, List.getElem?_eq_getElem (by simp; omega)]; rfl
theorem M.fold_all {cs : List M.Cl} {j : Nat} {p q : M.Cl × Bool} (h : q = ((cs.drop 1).take (j - 1)).foldl M.step p) (he : q.2 = false ∨ j = cs.length) : (cs.drop 1).foldl M.step p = q := by
  rcases he with he | he
  · conv => lhs; rw [← List.take_append_drop (j - 1) (cs.drop 1)]
    rw [List.foldl_append, ← h, M.seq_bad _ he]
  · rw [h, List.take_of_length_le (by simp; omega)]
theorem CellsC.far {W : World} {g nb k i : Nat} {v : Value} {xs : List M.Cl} (h : CellsC W g k xs) (hn : g ≠ nb) : CellsC (W.setCell ⟨nb, i, none⟩ v) g k xs := fun j hj q hq =>
  (World.cell?_setCell_other (w := W) (a := ⟨nb, i, none⟩) (b := ⟨g, j * 5 + q, none⟩) (v := v) (h := by intro e; simp only [Addr.mk.injEq] at e; omega)).trans (h j hj q hq)
/-- one by one, in the law's loop -/
def FjR (cs : List M.Cl) (c0 q : M.Cl) (g ll nb cb : Nat) (w : World) (ok i : Value) (wr : World) : Prop := ∃ (j : Nat) (nw : M.Cl) (o : Bool), ok = .bool o ∧ i = .int .i64 (j : Int) ∧ 1 ≤ j ∧ j ≤ ll ∧ (nw, o) = ((cs.drop 1).take (j - 1)).foldl M.step (c0, M.clOk c0) ∧ Lies wr nb (cvs nw) ∧ Lies wr cb (cvs q) ∧ CellsC wr g ll cs ∧ g < wr.heap.size ∧ Below w.heap.size w wr
end Go.Proofs.Ytjeoenieoejolad
