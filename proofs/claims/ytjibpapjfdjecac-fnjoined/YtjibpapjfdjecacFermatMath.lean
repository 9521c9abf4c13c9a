/- Every element of the field of 65537 elements but nought has 65536 as an exponent that leads to 1; no program in sight. -/
import Derived.Test.YtjibpapjfdjecacRootMath
import Derived.Test.YtjibpapjfdjecacFieldLaws
namespace Go.Proofs.Ytjibpapjfdjecac
namespace M
def sq (x : Nat) : Nat := x * x % 65537
def it : Nat → Nat → Nat
  | 0, x => x
  | k + 1, x => it k (sq x)
theorem natpow_mod (a n : Nat) : (a % 65537) ^ n % 65537 = a ^ n % 65537 := (Nat.pow_mod a n 65537).symm
theorem sq_pow' (x n : Nat) : sq x ^ n % 65537 = x ^ (2 * n) % 65537 := by
  unfold sq; rw [natpow_mod, Nat.pow_mul, Nat.pow_succ, Nat.pow_one]
theorem it_pow (k x : Nat) : it k x % 65537 = x ^ (2 ^ k) % 65537 := by
  induction k generalizing x with
  | zero => simp [it]
  | succ k ih =>
    show it k (sq x) % 65537 = _
    rw [ih, sq_pow', Nat.pow_succ, Nat.mul_comm]
theorem small_ok : (List.range 257).all (fun a => a == 0 || it 16 a % 65537 == 1) = true := by decide +kernel
theorem small_no : (List.range 257).all (fun q => q ≤ 1 || 65537 % q != 0) = true := by decide +kernel
theorem neg_one (k : Nat) (hk : k = 16) : 65536 ^ (2 ^ k) % 65537 = 1 := by
  rw [← it_pow, hk]; decide +kernel
theorem fermat_nat (k : Nat) (hk : k = 16) (a : Nat) (h0 : 0 < a) (h1 : a < 65537) : a ^ (2 ^ k) % 65537 = 1 := by
  induction a using Nat.strongRecOn with
  | _ a ih =>
    by_cases hs : a ≤ 256
    · have h := List.all_eq_true.1 small_ok a (List.mem_range.2 (by omega))
      simp only [Bool.or_eq_true, beq_iff_eq] at h
      rcases h with h | h
      · omega
      · rw [← it_pow, hk, h]
    · have hq : 65537 / a < 257 := (Nat.div_lt_iff_lt_mul h0).2 (by omega)
      have hq0 : 0 < 65537 / a := Nat.div_pos (by omega) h0
      have hd := Nat.div_add_mod 65537 a
      have hr : 65537 % a < a := Nat.mod_lt _ h0
      have hr0 : 0 < 65537 % a := by
        rcases Nat.eq_zero_or_pos (65537 % a) with e | e
        · exfalso
          rw [e, Nat.add_zero] at hd
          have h := List.all_eq_true.1 small_no (65537 / a) (List.mem_range.2 hq)
          simp only [Bool.or_eq_true, decide_eq_true_eq, bne_iff_ne] at h
          rcases h with h | h
          · have e1 : 65537 / a = 1 := by omega
            rw [e1] at hd; omega
          · apply h
            have : 65537 = 65537 / a * a := by rw [Nat.mul_comm]; exact hd.symm
            exact Nat.mod_eq_zero_of_dvd ⟨a, this⟩
        · exact e
      have ihr := ih (65537 % a) hr hr0 (by omega)
      have ihq := ih (65537 / a) (by omega) hq0 (by omega)
      have hn1 := neg_one k hk
      generalize 65537 / a = q at *
      generalize 65537 % a = r at *
      have hc : (a * q) % 65537 = (65536 * r) % 65537 := by
        have e1 : a * q + r * 65537 = 65536 * r + 65537 := by omega
        have e2 : (a * q + r * 65537) % 65537 = (a * q) % 65537 := by rw [Nat.add_mul_mod_self_right]
        rw [← e2, e1, Nat.add_mod_right]
      generalize 2 ^ k = E at *
      have hp : (a * q) ^ E % 65537 = (65536 * r) ^ E % 65537 := by rw [Nat.pow_mod, hc, ← Nat.pow_mod]
      rw [Nat.mul_pow, Nat.mul_pow, Nat.mul_mod, ihq, Nat.mul_one, Nat.mod_mod, Nat.mul_mod, hn1, ihr] at hp
      exact hp
theorem fermat_k (k : Nat) (hk : k = 16) {a : Int} (h0 : 0 < a) (h1 : a < 65537) : pw a (2 ^ k) = 1 := by
  obtain ⟨n, rfl⟩ := Int.eq_ofNat_of_zero_le (show 0 ≤ a by omega)
  have h := fermat_nat k hk n (by omega) (by omega)
  unfold pw
  have : (((n ^ (2 ^ k) % 65537 : Nat)) : Int) = 1 := by rw [h]; rfl
  rw [Int.natCast_emod, Int.natCast_pow] at this
  exact this
theorem fermat {a : Int} (h0 : 0 < a) (h1 : a < 65537) : pw a 65536 = 1 := fermat_k 16 rfl h0 h1
theorem el_pw (x : Int) (n : Nat) : el (pw x n) = true := (el_iff _).2 (pw_bd x n)
theorem pw_add (x : Int) (m n : Nat) : mul (pw x m) (pw x n) = pw x (m + n) := by
  rw [mul_in (el_pw x m) (el_pw x n)]; unfold pw
  rw [← Int.mul_emod, Int.pow_add]
theorem pw_pw (x : Int) (m n : Nat) : pw (pw x m) n = pw x (m * n) := by
  unfold pw; rw [pow_emod, Int.pow_mul]
theorem pw_zero (x : Int) : pw x 0 = 1 := by unfold pw; simp
theorem pw_one {x : Int} (h : el x = true) : pw x 1 = x := by
  have := (el_iff x).1 h
  unfold pw; rw [Int.pow_succ, Int.pow_zero, Int.one_mul, Int.emod_eq_of_lt this.1 this.2]
theorem mul_inv {a : Int} (h : el a = true) (h0 : a ≠ 0) : mul a (inv a) = 1 := by
  have hb := (el_iff a).1 h
  rw [inv_in h h0]
  conv => lhs; rw [← pw_one h]
  rw [pw_pw, pw_add]
  exact fermat (by omega) hb.2
theorem three_k (k : Nat) (hk : k = 15) : pw 3 (2 ^ k) = 65536 := by
  have h : (3 : Nat) ^ (2 ^ k) % 65537 = 65536 := by rw [← it_pow, hk]; decide +kernel
  unfold pw
  have : (((3 ^ (2 ^ k) % 65537 : Nat)) : Int) = 65536 := by rw [h]; rfl
  rw [Int.natCast_emod, Int.natCast_pow] at this
  exact this
theorem three_half : pw 3 32768 = 65536 := three_k 15 rfl
theorem pow_split {a n : Int} (h : el a = true) (h0 : 0 ≤ n) : mul (pow a (n / 3)) (pow a (n - n / 3)) = pow a n := by
  rw [pow_in h (by omega), pow_in h (by omega), pow_in h h0, pw_add]
  congr 1; omega
theorem two_cases {n : Int} (h : two n = true) : n = 1 ∨ (∃ i : Nat, i ≤ 15 ∧ n = 2 * (2 : Int) ^ i) := by
  obtain ⟨i, hi, rfl⟩ := (two_iff n).1 h
  cases i with
  | zero => left; simp
  | succ i => right; exact ⟨i, by omega, by rw [Int.pow_succ, Int.mul_comm]⟩
theorem div_mul_two {n : Int} (h : two n = true) : (65536 / n).toNat * n.toNat = 65536 := by
  have hb := two_bd h
  have hm := (two_div hb.1).1 h
  have h2 := Int.mul_ediv_add_emod 65536 n
  rw [hm, Int.add_zero] at h2
  have h0 : 0 ≤ 65536 / n := Int.ediv_nonneg (by omega) (by omega)
  apply Int.ofNat.inj
  show (((65536 / n).toNat * n.toNat : Nat) : Int) = 65536
  rw [Int.natCast_mul, Int.toNat_of_nonneg h0, Int.toNat_of_nonneg (by omega), Int.mul_comm]; exact h2
theorem root_el {n : Int} (h : two n = true) : el (root n) = true := by rw [root_in h]; exact el_pw _ _
theorem root_pow {n : Int} (h : two n = true) : pow (root n) n = 1 := by
  have hb := two_bd h
  rw [pow_in (root_el h) (by omega), root_in h, pw_pw, div_mul_two h]
  exact fermat (by omega) (by omega)
theorem root_half {n : Int} (h : two n = true) (h1 : n ≠ 1) : pow (root n) (n / 2) = 65536 := by
  have hb := two_bd h
  rw [pow_in (root_el h) (by omega), root_in h, pw_pw]
  have hd := div_mul_two h
  rcases two_cases h with e | ⟨i, hi, e⟩
  · exact absurd e h1
  · have e2 : n.toNat = 2 * (n / 2).toNat := by
      have : n = 2 * (n / 2) := by rw [e]; omega
      omega
    have e3 : (65536 / n).toNat * (n / 2).toNat = 32768 := by
      rw [e2] at hd
      have : 2 * ((65536 / n).toNat * (n / 2).toNat) = 65536 := by rw [← hd, Nat.mul_left_comm]
      omega
    rw [e3]; exact three_half
end M
end Go.Proofs.Ytjibpapjfdjecac
