/- Claims: what is right, in the program and in the model. -/
import Derived.Test.YtbcfjbkmkknmfaaDoorMaF
import Derived.Test.YtbcfjbkmkknmfaaDoorMaJ
import Derived.Test.YtbcfjbkmkknmfaaDoorMaO
import Derived.Test.YtbcfjbkmkknmfaaDoorLiA
namespace Go.Proofs.YtbcfjbkmkknmfaaDoor
open Go.RowKit

structure M.Cl where
  s : Int × Int
  e : Int × Int
  n : Int
def clv (c : M.Cl) : Value := .agg #[.int .i64 c.s.1, .int .i64 c.s.2, .int .i64 c.e.1, .int .i64 c.e.2, .int .i64 c.n]
def M.clOk (c : M.Cl) : Bool := M.sOk c.s && (M.sOk c.e && (decide (1 ≤ c.n) && decide (c.n ≤ 1000)))
theorem M.clOk_n {c : M.Cl} (h : M.clOk c = true) : 1 ≤ c.n ∧ c.n ≤ 1000 := by
  unfold M.clOk at h; simp only [Bool.and_eq_true, decide_eq_true_eq] at h; exact h.2.2
def M.joinOk (a b : M.Cl) : Bool := M.clOk a && (M.clOk b && ((decide (a.e.1 = b.s.1) && decide (a.e.2 = b.s.2)) && decide (a.n + b.n ≤ 1000)))
def M.joinv (a b : M.Cl) : M.Cl := if M.joinOk a b = true then ⟨a.s, b.e, a.n + b.n⟩ else ⟨(0, 0), (0, 0), 0⟩
theorem M.joinv_in {a b : M.Cl} (h : M.joinOk a b = true) : M.joinv a b = ⟨a.s, b.e, a.n + b.n⟩ := if_pos h
theorem M.joinv_out {a b : M.Cl} (h : M.joinOk a b = false) : M.joinv a b = ⟨(0, 0), (0, 0), 0⟩ := if_neg (by rw [h]; decide)
end Go.Proofs.YtbcfjbkmkknmfaaDoor
