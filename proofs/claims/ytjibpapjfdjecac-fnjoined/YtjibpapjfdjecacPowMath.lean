/- Plain facts on powers modulo 65537; no program in sight. -/
import Derived.Test.YtjibpapjfdjecacFieldMath
namespace Go.Proofs.Ytjibpapjfdjecac
namespace M
/-- x to the n, modulo 65537 -/
def pw (x : Int) (n : Nat) : Int := x ^ n % 65537
theorem pw_bd (x : Int) (n : Nat) : 0 ≤ pw x n ∧ pw x n < 65537 := by unfold pw; omega
theorem pow_emod (a : Int) (n : Nat) : (a % 65537) ^ n % 65537 = a ^ n % 65537 := by
  induction n with
  | zero => simp
  | succ n ih => rw [Int.pow_succ, Int.pow_succ, Int.mul_emod, ih, Int.emod_emod_of_dvd _ (Int.dvd_refl _), ← Int.mul_emod]
/-- what a squaring loop keeps -/
def PInv (x : Int) (N : Nat) (out a : Int) (n : Nat) : Prop := out * a ^ n % 65537 = x ^ N % 65537
theorem pinv_start (x : Int) (N : Nat) : PInv x N 1 x N := by simp [PInv]
theorem sq_pow (a : Int) (k : Nat) : (a * a) ^ k = a ^ (2 * k) := by
  rw [Int.pow_mul, Int.pow_succ, Int.pow_succ, Int.pow_zero, Int.one_mul]
theorem pinv_even {x : Int} {N : Nat} {out a : Int} {n : Nat} (h : PInv x N out a n) (e : n % 2 = 0) : PInv x N out (a * a % 65537) (n / 2) := by
  unfold PInv at *
  rw [Int.mul_emod, pow_emod, sq_pow, show 2 * (n / 2) = n by omega, ← Int.mul_emod]; exact h
theorem pinv_odd {x : Int} {N : Nat} {out a : Int} {n : Nat} (h : PInv x N out a n) (e : n % 2 = 1) : PInv x N (out * a % 65537) (a * a % 65537) (n / 2) := by
  unfold PInv at *
  have hn : n = 2 * (n / 2) + 1 := by omega
  have ha : a ^ n = a * a ^ (2 * (n / 2)) := by
    conv => lhs; rw [hn]
    rw [Int.pow_succ, Int.mul_comm]
  rw [Int.mul_emod, pow_emod, sq_pow, Int.emod_emod_of_dvd _ (Int.dvd_refl _), ← Int.mul_emod, Int.mul_assoc, ← ha]; exact h
theorem pinv_end {x : Int} {N : Nat} {out a : Int} (h : PInv x N out a 0) (h0 : 0 ≤ out) (h1 : out < 65537) : out = pw x N := by
  unfold PInv at h; unfold pw
  rw [Int.pow_zero, Int.mul_one, Int.emod_eq_of_lt h0 h1] at h; exact h
def pow (a n : Int) : Int := if el a = true ∧ 0 ≤ n then pw a n.toNat else -1
theorem pow_in {a n : Int} (h : el a = true) (hn : 0 ≤ n) : pow a n = pw a n.toNat := by simp [pow, h, hn]
theorem pow_l {a n : Int} (h : el a = false) : pow a n = -1 := by simp [pow, h]
theorem pow_r {a n : Int} (hn : n < 0) : pow a n = -1 := by simp [pow]; omega
end M
end Go.Proofs.Ytjibpapjfdjecac
