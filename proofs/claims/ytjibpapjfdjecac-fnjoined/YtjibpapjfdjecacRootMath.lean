/- Plain facts on the powers of two up to 65536 and on roots; no program in sight. -/
import Derived.Test.YtjibpapjfdjecacPowMath
namespace Go.Proofs.Ytjibpapjfdjecac
namespace M
def inv (a : Int) : Int := if el a = true ∧ a ≠ 0 then pw a 65535 else -1
theorem inv_in {a : Int} (h : el a = true) (h0 : a ≠ 0) : inv a = pw a 65535 := by simp [inv, h, h0]
theorem inv_l {a : Int} (h : el a = false) : inv a = -1 := by simp [inv, h]
theorem inv_0 : inv 0 = -1 := by simp [inv]
/-- is n one of 1, 2, 4 .. 65536? -/
def two (n : Int) : Bool := (List.range 17).any fun i => n == (2 : Int) ^ i
theorem two_iff (n : Int) : two n = true ↔ ∃ i : Nat, i ≤ 16 ∧ n = (2 : Int) ^ i := by
  simp only [two, List.any_eq_true, List.mem_range, beq_iff_eq]
  constructor
  · rintro ⟨i, hi, e⟩; exact ⟨i, by omega, e⟩
  · rintro ⟨i, hi, e⟩; exact ⟨i, by omega, e⟩
theorem two_le {i : Nat} (h : i ≤ 17) : (1 : Int) ≤ 2 ^ i ∧ (2 : Int) ^ i ≤ 131072 := by
  have : i = 0 ∨ i = 1 ∨ i = 2 ∨ i = 3 ∨ i = 4 ∨ i = 5 ∨ i = 6 ∨ i = 7 ∨ i = 8 ∨ i = 9 ∨ i = 10 ∨ i = 11 ∨ i = 12 ∨ i = 13 ∨ i = 14 ∨ i = 15 ∨ i = 16 ∨ i = 17 := by omega
  rcases this with h | h | h | h | h | h | h | h | h | h | h | h | h | h | h | h | h | h <;> subst h <;> decide
theorem two_le16 {i : Nat} (h : i ≤ 16) : (1 : Int) ≤ 2 ^ i ∧ (2 : Int) ^ i ≤ 65536 := by
  have : i = 0 ∨ i = 1 ∨ i = 2 ∨ i = 3 ∨ i = 4 ∨ i = 5 ∨ i = 6 ∨ i = 7 ∨ i = 8 ∨ i = 9 ∨ i = 10 ∨ i = 11 ∨ i = 12 ∨ i = 13 ∨ i = 14 ∨ i = 15 ∨ i = 16 := by omega
  rcases this with h | h | h | h | h | h | h | h | h | h | h | h | h | h | h | h | h <;> subst h <;> decide
theorem two_bd {n : Int} (h : two n = true) : 1 ≤ n ∧ n ≤ 65536 := by
  obtain ⟨i, hi, rfl⟩ := (two_iff n).1 h; exact two_le16 hi
def TwoInv (n p : Int) : Prop := ∃ j : Nat, j ≤ 17 ∧ p = (2 : Int) ^ j ∧ ∀ i, i < j → n ≠ (2 : Int) ^ i
theorem tinv_start (n : Int) : TwoInv n 1 := ⟨0, by omega, by simp, fun i h => by omega⟩
theorem tinv_hit {n p : Int} (h : TwoInv n p) (hp : p ≤ 65536) (e : p = n) : two n = true := by
  obtain ⟨j, hj, rfl, _⟩ := h
  refine (two_iff n).2 ⟨j, ?_, e.symm⟩
  by_cases e17 : j = 17
  · subst e17; exact absurd hp (by decide)
  · omega
theorem tinv_step {n p : Int} (h : TwoInv n p) (hp : p ≤ 65536) (e : p ≠ n) : TwoInv n (2 * p) := by
  obtain ⟨j, hj, rfl, hn⟩ := h
  have hj' : j ≠ 17 := by intro e17; subst e17; exact absurd hp (by decide)
  refine ⟨j + 1, by omega, by rw [Int.pow_succ, Int.mul_comm], fun i hi => ?_⟩
  by_cases e2 : i = j
  · subst e2; exact fun h => e h.symm
  · exact hn i (by omega)
theorem tinv_end {n p : Int} (h : TwoInv n p) (hp : 65536 < p) : two n = false := by
  obtain ⟨j, hj, rfl, hn⟩ := h
  have hj' : j = 17 := by
    by_cases e : j ≤ 16
    · have := (two_le16 e).2; omega
    · omega
  subst hj'
  cases ht : two n with
  | false => rfl
  | true => obtain ⟨i, hi, e⟩ := (two_iff n).1 ht; exact absurd e (hn i (by omega))
theorem dvd_two_pow (m n : Nat) (h : n ∣ 2 ^ m) : ∃ i, i ≤ m ∧ n = 2 ^ i := by
  induction m generalizing n with
  | zero => exact ⟨0, Nat.le_refl _, by simpa using h⟩
  | succ m ih =>
    rcases Nat.mod_two_eq_zero_or_one n with e | e
    · obtain ⟨c, rfl⟩ := Nat.dvd_of_mod_eq_zero e
      rw [Nat.pow_succ, Nat.mul_comm] at h
      obtain ⟨i, hi, hc⟩ := ih c (Nat.dvd_of_mul_dvd_mul_right (k := 2) (by omega) (by first | exact h | (rw [Nat.mul_comm c 2, Nat.mul_comm (2 ^ m) 2]; exact h)))
      exact ⟨i + 1, by omega, by rw [hc, Nat.pow_succ, Nat.mul_comm]⟩
    · have hc : Nat.Coprime n 2 := by
        have h2 : Nat.gcd n 2 ∣ 2 := Nat.gcd_dvd_right n 2
        have h1 : Nat.gcd n 2 ∣ n := Nat.gcd_dvd_left n 2
        have hle := Nat.le_of_dvd (by omega) h2
        have hpos : 0 < Nat.gcd n 2 := Nat.gcd_pos_of_pos_right n (by omega)
        have hne : Nat.gcd n 2 ≠ 2 := by intro e2; rw [e2] at h1; omega
        show Nat.gcd n 2 = 1
        omega
      rw [Nat.pow_succ] at h
      obtain ⟨i, hi, e2⟩ := ih n (hc.dvd_of_dvd_mul_right h)
      exact ⟨i, by omega, e2⟩
theorem two_div {n : Int} (h0 : 1 ≤ n) : two n = true ↔ 65536 % n = 0 := by
  rw [two_iff]
  constructor
  · rintro ⟨i, hi, rfl⟩
    have : i = 0 ∨ i = 1 ∨ i = 2 ∨ i = 3 ∨ i = 4 ∨ i = 5 ∨ i = 6 ∨ i = 7 ∨ i = 8 ∨ i = 9 ∨ i = 10 ∨ i = 11 ∨ i = 12 ∨ i = 13 ∨ i = 14 ∨ i = 15 ∨ i = 16 := by omega
    rcases this with h | h | h | h | h | h | h | h | h | h | h | h | h | h | h | h | h <;> subst h <;> decide
  · intro h
    obtain ⟨m, rfl⟩ := Int.eq_ofNat_of_zero_le (show 0 ≤ n by omega)
    have h' : 65536 % m = 0 := by
      have : ((65536 % m : Nat) : Int) = 0 := by rw [Int.natCast_emod]; exact h
      omega
    obtain ⟨i, hi, e⟩ := dvd_two_pow 16 m (Nat.dvd_of_mod_eq_zero h')
    exact ⟨i, hi, by rw [e]; simp⟩
def root (n : Int) : Int := if two n = true then pw 3 (65536 / n).toNat else -1
theorem root_in {n : Int} (h : two n = true) : root n = pw 3 (65536 / n).toNat := by simp [root, h]
theorem root_out {n : Int} (h : two n = false) : root n = -1 := by simp [root, h]
end M
end Go.Proofs.Ytjibpapjfdjecac
