/- Division with a rest in the model. -/
import Derived.Test.YtfhknkppiidnkaaDivMathB
import Derived.Test.YtfhknkppiidnkaaFieldA
import Derived.Test.YtfhknkppiidnkaaFieldMath
namespace Go.Proofs.Ytfhknkppiidnkaa
open Go.RowKit

theorem M.rest_start {f R g : List Int} {q : Int} {i : Nat} (h : R.length = f.length) : R = M.tab f.length (M.restAt R g q i 0) :=
  M.tab_ext h fun t _ => by unfold M.restAt; rw [if_neg (by omega)]
theorem M.rest_old (R g : List Int) (q : Int) (i j : Nat) : M.restAt R g q i j (i + j) = R.getD (i + j) 0 := by unfold M.restAt; rw [if_neg (by omega)]
theorem M.rest_step {R g : List Int} {q : Int} {N i j : Nat} : (M.tab N (M.restAt R g q i j)).set (i + j) ((R.getD (i + j) 0 + (65537 - q) * g.getD j 0) % 65537) = M.tab N (M.restAt R g q i (j + 1)) := by
  rw [M.tab_set]
  apply M.tab_congr
  intro t _
  unfold M.restAt
  by_cases e : t = i + j
  · subst e
    rw [if_pos rfl, if_pos (by omega), Nat.add_sub_cancel_left]
  · rw [if_neg e]
    by_cases h2 : i ≤ t ∧ t < i + j
    · rw [if_pos h2, if_pos (by omega)]
    · rw [if_neg h2, if_neg (by omega)]
theorem M.mul_bd2 {q y : Int} (q0 : 0 ≤ q) (q1 : q < 65537) (y0 : 0 ≤ y) (y1 : y < 65537) : 0 ≤ (65537 - q) * y ∧ (65537 - q) * y ≤ 4295032832 := by
  refine ⟨Int.mul_nonneg (by omega) y0, ?_⟩
  have h1 : (65537 - q) * y ≤ 65537 * y := Int.mul_le_mul_of_nonneg_right (by omega) y0
  omega
end Go.Proofs.Ytfhknkppiidnkaa
