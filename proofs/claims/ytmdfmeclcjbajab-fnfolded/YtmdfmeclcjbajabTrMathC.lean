/- Numbers of points, and what their roots do; no program in sight. -/
import Derived.Test.YtmdfmeclcjbajabTrMathB
namespace Go.Proofs.Ytmdfmeclcjbajab
namespace M
/-- is n one of 1, 2, 4 .. 64? -/
def two64 (n : Int) : Bool := (List.range 7).any fun i => n == (2 : Int) ^ i
theorem two64_iff (n : Int) : two64 n = true ↔ ∃ i : Nat, i ≤ 6 ∧ n = (2 : Int) ^ i := by
  simp only [two64, List.any_eq_true, List.mem_range, beq_iff_eq]
  constructor
  · rintro ⟨i, hi, e⟩; exact ⟨i, by omega, e⟩
  · rintro ⟨i, hi, e⟩; exact ⟨i, by omega, e⟩
theorem two64_two {n : Int} (h : two64 n = true) : two n = true := by
  obtain ⟨i, hi, e⟩ := (two64_iff n).1 h; exact (two_iff n).2 ⟨i, by omega, e⟩
theorem two64_le {i : Nat} (h : i ≤ 6) : (1 : Int) ≤ 2 ^ i ∧ (2 : Int) ^ i ≤ 64 := by
  have : i = 0 ∨ i = 1 ∨ i = 2 ∨ i = 3 ∨ i = 4 ∨ i = 5 ∨ i = 6 := by omega
  rcases this with h | h | h | h | h | h | h <;> subst h <;> decide
theorem two64_bd {n : Int} (h : two64 n = true) : 1 ≤ n ∧ n ≤ 64 := by
  obtain ⟨i, hi, rfl⟩ := (two64_iff n).1 h; exact two64_le hi
theorem two64_div {n : Int} (h0 : 1 ≤ n) : two64 n = true ↔ 64 % n = 0 := by
  rw [two64_iff]
  constructor
  · rintro ⟨i, hi, rfl⟩
    have : i = 0 ∨ i = 1 ∨ i = 2 ∨ i = 3 ∨ i = 4 ∨ i = 5 ∨ i = 6 := by omega
    rcases this with h | h | h | h | h | h | h <;> subst h <;> decide
  · intro h
    obtain ⟨m, rfl⟩ := Int.eq_ofNat_of_zero_le (show 0 ≤ n by omega)
    have h' : 64 % m = 0 := by
      have : ((64 % m : Nat) : Int) = 0 := by rw [Int.natCast_emod]; exact h
      omega
    obtain ⟨i, hi, e⟩ := dvd_two_pow 6 m (Nat.dvd_of_mod_eq_zero h')
    exact ⟨i, hi, by rw [e]; simp⟩
def Two6 (n p : Int) : Prop := ∃ j : Nat, j ≤ 7 ∧ p = (2 : Int) ^ j ∧ ∀ i, i < j → n ≠ (2 : Int) ^ i
theorem t6_start (n : Int) : Two6 n 1 := ⟨0, by omega, by simp, fun i h => by omega⟩
theorem t6_hit {n p : Int} (h : Two6 n p) (hp : p ≤ 64) (e : p = n) : two64 n = true := by
  obtain ⟨j, hj, rfl, _⟩ := h
  refine (two64_iff n).2 ⟨j, ?_, e.symm⟩
  by_cases e7 : j = 7
  · subst e7; exact absurd hp (by decide)
  · omega
theorem t6_step {n p : Int} (h : Two6 n p) (hp : p ≤ 64) (e : p ≠ n) : Two6 n (2 * p) := by
  obtain ⟨j, hj, rfl, hn⟩ := h
  have hj' : j ≠ 7 := by intro e7; subst e7; exact absurd hp (by decide)
  refine ⟨j + 1, by omega, by rw [Int.pow_succ, Int.mul_comm], fun i hi => ?_⟩
  by_cases e2 : i = j
  · subst e2; exact fun h => e h.symm
  · exact hn i (by omega)
theorem t6_end {n p : Int} (h : Two6 n p) (hp : 64 < p) : two64 n = false := by
  obtain ⟨j, hj, rfl, hn⟩ := h
  have hj' : j = 7 := by
    by_cases e : j ≤ 6
    · have := (two64_le e).2; omega
    · omega
  subst hj'
  cases ht : two64 n with
  | false => rfl
  | true => obtain ⟨i, hi, e⟩ := (two64_iff n).1 ht; exact absurd e (hn i (by omega))
/-- are there points: so many, with this shift? -/
def ptOk (n s : Int) : Bool := two64 n && (el s && (s != 0))
theorem ptOk_parts {n s : Int} (h : ptOk n s = true) : two64 n = true ∧ el s = true ∧ s ≠ 0 := by
  unfold ptOk at h; simpa using h
theorem ptOk_el {n s : Int} (h : el s = false) : ptOk n s = false := by simp [ptOk, h]
theorem ptOk_0 {n : Int} : ptOk n 0 = false := by simp [ptOk]
theorem ptOk_n {n s : Int} (h : two64 n = false) : ptOk n s = false := by simp [ptOk, h]
theorem ptOk_mk {n s : Int} (h : two64 n = true) (h1 : el s = true) (h2 : s ≠ 0) : ptOk n s = true := by simp [ptOk, h, h1, h2]
theorem two64_small {n : Int} (h : n < 1) : two64 n = false := by
  cases ht : two64 n with
  | false => rfl
  | true => have := (two64_bd ht).1; omega
theorem two64_no {n : Int} (h0 : 1 ≤ n) (h : 64 % n ≠ 0) : two64 n = false := by
  cases ht : two64 n with
  | false => rfl
  | true => exact absurd ((two64_div h0).1 ht) h
theorem two_nat {n : Nat} (h : two (n : Int) = true) : ∃ i, i ≤ 16 ∧ n = 2 ^ i := by
  obtain ⟨i, hi, e⟩ := (two_iff _).1 h
  refine ⟨i, hi, ?_⟩
  have : ((2 ^ i : Nat) : Int) = (2 : Int) ^ i := by simp
  omega
/-- the root's power of its number is 1 -/
theorem root_n {n : Nat} (h : two (n : Int) = true) : cg (root n ^ n) 1 := by
  have h1 := root_pow h
  rw [pow_in (root_el h) (by omega), Int.toNat_natCast] at h1
  have h2 := cg_pw (root n) n
  rw [h1] at h2; exact h2.symm
theorem root_h {h n : Nat} (ht : two (n : Int) = true) (e : n = 2 * h) : cg (root n ^ h) (-1) := by
  have h1 := root_half ht (by omega)
  have e2 : ((n : Int) / 2).toNat = h := by omega
  rw [pow_in (root_el ht) (by omega), e2] at h1
  have h2 := cg_pw (root n) h
  rw [h1] at h2
  exact h2.symm.trans (by unfold cg; omega)
theorem neg_pow (k : Nat) : cg ((-1 : Int) ^ (2 * k + 1)) (-1) := cg_of_eq (odd_neg k)
/-- so, too, its inverse -/
theorem rinv_n {n : Nat} (h : two (n : Int) = true) : cg (pw (root n) 65535 ^ n) 1 := by
  have h1 := (cg_pw (root n) 65535).pow n
  have gen : ∀ k : Nat, cg ((root n ^ k) ^ n) 1 := by
    intro k
    rw [← Int.pow_mul, Nat.mul_comm, Int.pow_mul]
    have := (root_n h).pow k
    rw [Int.one_pow] at this; exact this
  exact h1.trans (gen 65535)
theorem rinv_h {h n : Nat} (ht : two (n : Int) = true) (e : n = 2 * h) : cg (pw (root n) 65535 ^ h) (-1) := by
  have h1 := (cg_pw (root n) 65535).pow h
  have gen : ∀ k : Nat, cg ((root n ^ (2 * k + 1)) ^ h) (-1) := by
    intro k
    rw [← Int.pow_mul, Nat.mul_comm, Int.pow_mul]
    exact ((root_h ht e).pow (2 * k + 1)).trans (neg_pow k)
  exact h1.trans (gen 32767)
theorem root_ord {n : Nat} (h : two (n : Int) = true) {d : Nat} (h0 : 0 < d) (h1 : d < n) : ¬ cg (root n ^ d) 1 := by
  intro hc
  obtain ⟨i, hi, e⟩ := two_nat h
  cases i with
  | zero => rw [Nat.pow_zero] at e; omega
  | succ i =>
    have e2 : n = 2 * 2 ^ i := by rw [e, Nat.pow_succ, Nat.mul_comm]
    have hd := order (root_h h e2) hc
    rw [← e] at hd
    have := Nat.le_of_dvd h0 hd
    omega
end M
end Go.Proofs.Ytmdfmeclcjbajab
