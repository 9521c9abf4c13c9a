/- Claims: what is right, in the program and in the model. -/
import Derived.Test.YtfhknkppiidnkaaMaF
import Derived.Test.YtfhknkppiidnkaaMaJ
import Derived.Test.YtfhknkppiidnkaaMaO
import Derived.Test.YtfhknkppiidnkaaLiA
namespace Go.Proofs.Ytfhknkppiidnkaa
open Go.RowKit

structure M.Cl where
  s : Int × Int
  e : Int × Int
  n : Int
def clv (c : M.Cl) : Value := .agg #[.int .i64 c.s.1, .int .i64 c.s.2, .int .i64 c.e.1, .int .i64 c.e.2, .int .i64 c.n]
def M.clOk (c : M.Cl) : Bool := M.sOk c.s && (M.sOk c.e && (decide (1 ≤ c.n) && decide (c.n ≤ 1000)))
theorem l1InG_any (n lo hi : Int) (w : World) : Calls Try.prog 14 #[.int .i64 n, .int .i64 lo, .int .i64 hi] w fun e w' => e = .returned (.bool (decide (lo ≤ n) && decide (n ≤ hi))) ∧ w' = w := by
  by_cases h1 : lo ≤ n
  · go_enter Try.func14, Try.ntmps14
    go_wp2
    go_ret
    exact ⟨by simp [h1], rfl⟩
  · go_enter Try.func14, Try.ntmps14
    go_wp2
    go_ret
    exact ⟨by simp; omega, rfl⟩
theorem M.clOk_n {c : M.Cl} (h : M.clOk c = true) : 1 ≤ c.n ∧ c.n ≤ 1000 := by
  unfold M.clOk at h; simp only [Bool.and_eq_true, decide_eq_true_eq] at h; exact h.2.2
def M.joinOk (a b : M.Cl) : Bool := M.clOk a && (M.clOk b && ((decide (a.e.1 = b.s.1) && decide (a.e.2 = b.s.2)) && decide (a.n + b.n ≤ 1000)))
def M.joinv (a b : M.Cl) : M.Cl := if M.joinOk a b = true then ⟨a.s, b.e, a.n + b.n⟩ else ⟨(0, 0), (0, 0), 0⟩
theorem M.joinv_in {a b : M.Cl} (h : M.joinOk a b = true) : M.joinv a b = ⟨a.s, b.e, a.n + b.n⟩ := if_pos h
theorem M.joinv_out {a b : M.Cl} (h : M.joinOk a b = false) : M.joinv a b = ⟨(0, 0), (0, 0), 0⟩ := if_neg (by rw [h]; decide)
end Go.Proofs.Ytfhknkppiidnkaa
