/- What FnHolds says, in plain terms. -/
import Derived.Test.YtjibpapjfdjecacClH
namespace Go.Proofs.Ytjibpapjfdjecac
open Go.RowKit

theorem M.holds_after {m : M.Mc} {c : M.Cl} (hm : m.ok = true) : M.holds m c = (M.runOk m c.s c.n && ((decide ((M.aft m c.s c.n).1 = c.e.1) && decide ((M.aft m c.s c.n).2 = c.e.2)) && decide (1 ≤ c.n))) := by
  unfold M.holds
  rw [hm, Bool.true_and]
  cases hc : M.clOk c with
  | true =>
    have h1 := M.clOk_n hc
    rw [M.runOk_cl hc, hm, decide_eq_true h1.1]; simp
  | false =>
    cases hr : M.runOk m c.s c.n with
    | false => simp
    | true =>
      rw [Bool.false_and, Bool.true_and]
      obtain ⟨_, hs, h0, h1⟩ := M.runOk_parts hr
      symm
      by_cases he : (M.aft m c.s c.n).1 = c.e.1 ∧ (M.aft m c.s c.n).2 = c.e.2
      · by_cases hn : 1 ≤ c.n
        · have e : M.aft m c.s c.n = c.e := Prod.ext he.1 he.2
          have hse : M.sOk c.e = true := by rw [← e, M.aft_in hr]; exact M.sOk_rn m hs _
          unfold M.clOk at hc
          rw [hs, hse, decide_eq_true hn, decide_eq_true h1] at hc
          cases hc
        · rw [decide_eq_false hn, Bool.and_false]
      · by_cases h1 : (M.aft m c.s c.n).1 = c.e.1
        · have h2 : ¬ (M.aft m c.s c.n).2 = c.e.2 := fun h => he ⟨h1, h⟩
          rw [decide_eq_false h2]; simp
        · rw [decide_eq_false h1]; simp
end Go.Proofs.Ytjibpapjfdjecac
