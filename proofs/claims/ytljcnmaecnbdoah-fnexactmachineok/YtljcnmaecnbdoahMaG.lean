/- Runs whose machine, state and number are checked, in the program. -/
import Derived.Test.YtljcnmaecnbdoahMaF
namespace Go.Proofs.Ytljcnmaecnbdoah
open Go.RowKit

def M.runOk (m : M.Mc) (s : Int × Int) (n : Int) : Bool := m.ok && (M.sOk s && (decide (0 ≤ n) && decide (n ≤ 1000)))
theorem M.runOk_parts {m : M.Mc} {s : Int × Int} {n : Int} (h : M.runOk m s n = true) : m.ok = true ∧ M.sOk s = true ∧ 0 ≤ n ∧ n ≤ 1000 := by
  unfold M.runOk at h; simpa using h
theorem M.runOk_mk {m : M.Mc} {s : Int × Int} {n : Int} (h1 : m.ok = true) (h2 : M.sOk s = true) (h3 : 0 ≤ n) (h4 : n ≤ 1000) : M.runOk m s n = true := by
  unfold M.runOk; rw [h1, h2, decide_eq_true h3, decide_eq_true h4]; rfl
theorem M.runOk_no {m : M.Mc} {s : Int × Int} {n : Int} (h : M.runOk m s n = false) : m.ok = false ∨ (m.ok = true ∧ M.sOk s = false) ∨ (m.ok = true ∧ M.sOk s = true ∧ n < 0) ∨ (m.ok = true ∧ M.sOk s = true ∧ ¬ n < 0 ∧ 1000 < n) := by
  cases h1 : m.ok with
  | false => exact .inl rfl
  | true =>
    cases h2 : M.sOk s with
    | false => exact .inr (.inl ⟨rfl, rfl⟩)
    | true =>
      by_cases h3 : n < 0
      · exact .inr (.inr (.inl ⟨rfl, rfl, h3⟩))
      · by_cases h4 : 1000 < n
        · exact .inr (.inr (.inr ⟨rfl, rfl, h3, h4⟩))
        · rw [M.runOk_mk h1 h2 (by omega) (by omega)] at h; cases h
end Go.Proofs.Ytljcnmaecnbdoah
