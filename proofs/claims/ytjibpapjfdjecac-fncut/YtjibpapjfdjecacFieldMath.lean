/- Plain facts on the numbers of the field of 65537 elements; no program in sight. -/
import Derived.WalkKit
namespace Go.Proofs.Ytjibpapjfdjecac
namespace M
/-- a number is an element -/
def el (a : Int) : Bool := decide (0 ≤ a ∧ a < 65537)
theorem el_iff (a : Int) : el a = true ↔ 0 ≤ a ∧ a < 65537 := by simp [el]
theorem el_not (a : Int) : el a = false ↔ a < 0 ∨ 65537 ≤ a := by simp [el]; omega
def add (a b : Int) : Int := if el a = true ∧ el b = true then (a + b) % 65537 else -1
def sub (a b : Int) : Int := if el a = true ∧ el b = true then (a + 65537 - b) % 65537 else -1
def mul (a b : Int) : Int := if el a = true ∧ el b = true then a * b % 65537 else -1
theorem add_in {a b : Int} (ha : el a = true) (hb : el b = true) : add a b = (a + b) % 65537 := by simp [add, ha, hb]
theorem sub_in {a b : Int} (ha : el a = true) (hb : el b = true) : sub a b = (a + 65537 - b) % 65537 := by simp [sub, ha, hb]
theorem mul_in {a b : Int} (ha : el a = true) (hb : el b = true) : mul a b = a * b % 65537 := by simp [mul, ha, hb]
theorem add_l {a b : Int} (h : el a = false) : add a b = -1 := by simp [add, h]
theorem add_r {a b : Int} (h : el b = false) : add a b = -1 := by simp [add, h]
theorem sub_l {a b : Int} (h : el a = false) : sub a b = -1 := by simp [sub, h]
theorem sub_r {a b : Int} (h : el b = false) : sub a b = -1 := by simp [sub, h]
theorem mul_l {a b : Int} (h : el a = false) : mul a b = -1 := by simp [mul, h]
theorem mul_r {a b : Int} (h : el b = false) : mul a b = -1 := by simp [mul, h]
theorem mul_bd {a b : Int} (ha : 0 ≤ a) (ha' : a < 65537) (hb : 0 ≤ b) (hb' : b < 65537) : 0 ≤ a * b ∧ a * b ≤ 4294967296 := by
  refine ⟨Int.mul_nonneg ha hb, ?_⟩
  have h1 : a * b ≤ 65536 * b := Int.mul_le_mul_of_nonneg_right (by omega) hb
  omega
end M
end Go.Proofs.Ytjibpapjfdjecac
