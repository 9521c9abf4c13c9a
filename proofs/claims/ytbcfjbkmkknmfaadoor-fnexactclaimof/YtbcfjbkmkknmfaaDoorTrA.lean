/- Points: how many and where, in the program and in its model. -/
import Derived.Test.YtbcfjbkmkknmfaaDoorTrMathB
import Derived.Test.YtbcfjbkmkknmfaaDoorRootA
import Derived.Test.YtbcfjbkmkknmfaaDoorEvMath
namespace Go.Proofs.YtbcfjbkmkknmfaaDoor
open Go.RowKit

/-- a, a q, a q q .. k of them -/
def M.gp (a q : Int) (k : Nat) : List Int := M.tab k (fun i => a * q ^ i % 65537)
theorem M.gp_all (a q : Int) (k : Nat) : M.allEl (M.gp a q k) = true := M.all_tab fun i _ => (M.el_iff _).2 ⟨by omega, by omega⟩
theorem M.gp_snoc (a q : Int) (k : Nat) : M.gp a q k ++ [a * q ^ k % 65537] = M.gp a q (k + 1) := M.tab_snoc k _
theorem M.gp_len (a q : Int) (k : Nat) : (M.gp a q k).length = k := M.tab_len _ _
theorem M.gp_step (a q : Int) (k : Nat) : a * q ^ k % 65537 * q % 65537 = a * q ^ (k + 1) % 65537 := by
  rw [M.mm, Int.mul_assoc, Int.pow_succ]
theorem M.gp_zero {a : Int} (a0 : 0 ≤ a) (a1 : a < 65537) (q : Int) : a = a * q ^ 0 % 65537 := by
  rw [Int.pow_zero, Int.mul_one, Int.emod_eq_of_lt a0 a1]
def lenOf : Value → Nat
  | .slice _ n _ => n
  | _ => 0

/-- what Points answers -/
def M.ptv (n s : Int) : List Int := if M.ptOk n s = true then M.gp s (M.root n) n.toNat else []
theorem M.ptv_in {n s : Int} (h : M.ptOk n s = true) : M.ptv n s = M.gp s (M.root n) n.toNat := by unfold M.ptv; rw [if_pos h]
theorem M.ptv_out {n s : Int} (h : M.ptOk n s = false) : M.ptv n s = [] := by unfold M.ptv; rw [if_neg (by rw [h]; decide)]
theorem M.ptOk_nat {n s : Int} (h : M.ptOk n s = true) : ∃ N : Nat, n = (N : Int) ∧ N ≤ 64 ∧ 0 < N := by
  have hb := M.two64_bd (M.ptOk_parts h).1
  exact ⟨n.toNat, by omega, by omega, by omega⟩
end Go.Proofs.YtbcfjbkmkknmfaaDoor
