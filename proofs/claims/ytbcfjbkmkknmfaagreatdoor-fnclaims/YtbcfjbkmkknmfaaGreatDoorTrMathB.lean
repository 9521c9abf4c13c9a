/- The order of a root, points that are unlike, and the way back from values to coefficients; no program in sight. Numbers of points, and what their roots do; no program in sight. -/
import Derived.Test.YtbcfjbkmkknmfaaGreatDoorFieldMath
namespace Go.Proofs.YtbcfjbkmkknmfaaGreatDoor
namespace M
/-- f 0 + .. + f (n - 1) -/
def sm : Nat → (Nat → Int) → Int
  | 0, _ => 0
  | n + 1, f => sm n f + f n
theorem sm_cg {f g : Nat → Int} : ∀ {n : Nat}, (∀ k, k < n → cg (f k) (g k)) → cg (sm n f) (sm n g) := by
  intro n
  induction n with
  | zero => intro _; exact cg.refl _
  | succ n ih => intro h; exact (ih fun k hk => h k (by omega)).add (h n (by omega))
theorem sm_add (f g : Nat → Int) (n : Nat) : sm n (fun k => f k + g k) = sm n f + sm n g := by
  induction n with
  | zero => rfl
  | succ n ih => simp only [sm]; rw [ih]; omega
theorem sm_mul (c : Int) (f : Nat → Int) (n : Nat) : sm n (fun k => c * f k) = c * sm n f := by
  induction n with
  | zero => simp [sm]
  | succ n ih => simp only [sm]; rw [ih, Int.mul_add]
theorem sm_zero (n : Nat) : sm n (fun _ => 0) = 0 := by
  induction n with
  | zero => rfl
  | succ n ih => simp only [sm]; rw [ih]; rfl
theorem sm_swap (f : Nat → Nat → Int) (m n : Nat) : sm m (fun k => sm n (fun i => f k i)) = sm n (fun i => sm m (fun k => f k i)) := by
  induction m with
  | zero => simp only [sm]; rw [sm_zero]
  | succ m ih => simp only [sm]; rw [ih, sm_add]
theorem sm_one (n : Nat) : sm n (fun _ => 1) = (n : Int) := by
  induction n with
  | zero => rfl
  | succ n ih => simp only [sm]; rw [ih]; omega
theorem sm_pick (v : Int) (j : Nat) : ∀ n, j < n → sm n (fun i => if i = j then v else 0) = v := by
  have h0 : ∀ n, n ≤ j → sm n (fun i => if i = j then v else 0) = 0 := by
    intro n
    induction n with
    | zero => intro _; rfl
    | succ n ih => intro h; simp only [sm]; rw [ih (by omega), if_neg (by omega)]; rfl
  intro n
  induction n with
  | zero => intro h; omega
  | succ n ih =>
    intro h
    simp only [sm]
    by_cases e : n = j
    · subst e; rw [h0 n (Nat.le_refl _), if_pos rfl]; omega
    · rw [ih (by omega), if_neg e]; omega
theorem pv_sm (zs : List Int) (x : Int) : ∀ n, n ≤ zs.length → pv (zs.take n) x = sm n (fun k => zs.getD k 0 * x ^ k) := by
  intro n
  induction n with
  | zero => intro _; rfl
  | succ n ih => intro h; rw [pv_take _ _ (by omega), ih (by omega)]; rfl
theorem pv_sm' (zs : List Int) (x : Int) : pv zs x = sm zs.length (fun k => zs.getD k 0 * x ^ k) := by
  rw [← pv_sm zs x _ (Nat.le_refl _), List.take_length]
theorem geo (r : Int) (n : Nat) : (r - 1) * sm n (fun k => r ^ k) = r ^ n - 1 := by
  induction n with
  | zero => simp [sm]
  | succ n ih => simp only [sm]; rw [Int.mul_add, ih, Int.pow_succ]; generalize r ^ n = y; grind
theorem cg_inv {a : Int} (h : ¬ cg a 0) : cg (a * pw a 65535) 1 := by
  have h0 : 0 < a % 65537 := by unfold cg at h; omega
  have h1 : a % 65537 < 65537 := by omega
  have hf := fermat h0 h1
  have e : cg (a * pw a 65535) ((a % 65537) ^ 65536) := by
    have hk : ∀ m : Nat, cg (a * pw a m) ((a % 65537) ^ (m + 1)) := by
      intro m
      rw [Int.pow_succ, Int.mul_comm ((a % 65537) ^ m)]
      exact (cg_mod a).symm.mul ((cg_pw a m).trans ((cg_mod a).symm.pow m))
    exact hk 65535
  refine e.trans ?_
  have := cg_pw (a % 65537) 65536
  rw [hf] at this; exact this.symm
theorem cg_zero {a b : Int} (h : cg (a * b) 0) (ha : ¬ cg a 0) : cg b 0 := by
  have h1 := cg_inv ha
  have h2 := (cg.refl (pw a 65535)).mul h
  rw [Int.mul_zero] at h2
  have h3 := h1.mul (cg.refl b)
  rw [Int.one_mul] at h3
  refine h3.symm.trans (cg.trans (cg_of_eq ?_) h2)
  grind
theorem cg_sub0 {a b : Int} (h : cg (a - b) 0) : cg a b := by unfold cg at *; omega
theorem cg_0sub {a b : Int} (h : cg a b) : cg (a - b) 0 := by unfold cg at *; omega
theorem geo0 {r : Int} {n : Nat} (h : cg (r ^ n) 1) (h1 : ¬ cg r 1) : cg (sm n (fun k => r ^ k)) 0 := by
  refine cg_zero (a := r - 1) ?_ (fun e => h1 (cg_sub0 e))
  rw [geo]; exact cg_0sub h
theorem odd_neg (k : Nat) : (-1 : Int) ^ (2 * k + 1) = -1 := by
  induction k with
  | zero => rfl
  | succ k ih => rw [show 2 * (k + 1) + 1 = 2 * k + 1 + 1 + 1 by omega, Int.pow_succ, Int.pow_succ, ih]; rfl
/-- where w to the 2^i is -1, only multiples of 2^(i+1) lead to 1 -/
theorem order {w : Int} : ∀ {i d : Nat}, cg (w ^ (2 ^ i)) (-1) → cg (w ^ d) 1 → 2 ^ (i + 1) ∣ d := by
  intro i
  induction i generalizing w with
  | zero =>
    intro d h h1
    rw [Nat.pow_zero, Int.pow_succ, Int.pow_zero, Int.one_mul] at h
    rcases Nat.mod_two_eq_zero_or_one d with e | e
    · exact Nat.dvd_of_mod_eq_zero (by simpa using e)
    · exfalso
      have h2 := (h.pow d).symm.trans h1
      rw [show d = 2 * (d / 2) + 1 by omega, odd_neg] at h2
      unfold cg at h2; omega
  | succ i ih =>
    intro d h h1
    rcases Nat.mod_two_eq_zero_or_one d with e | e
    · obtain ⟨c, rfl⟩ := Nat.dvd_of_mod_eq_zero e
      have h3 : cg ((w ^ 2) ^ (2 ^ i)) (-1) := by rw [← Int.pow_mul, Nat.mul_comm, ← Nat.pow_succ]; exact h
      have h4 : cg ((w ^ 2) ^ c) 1 := by rw [← Int.pow_mul]; exact h1
      obtain ⟨q, rfl⟩ := ih h3 h4
      exact ⟨q, by rw [Nat.pow_succ 2 (i + 1)]; grind⟩
    · exfalso
      have h2 := h.pow d
      rw [show ((w ^ (2 ^ (i + 1))) ^ d) = (w ^ d) ^ (2 ^ (i + 1)) by rw [← Int.pow_mul, ← Int.pow_mul, Nat.mul_comm]] at h2
      have h3 := (h1.pow (2 ^ (i + 1))).symm.trans h2
      rw [Int.one_pow, show d = 2 * (d / 2) + 1 by omega, odd_neg] at h3
      unfold cg at h3; omega
theorem pow_ne {a : Int} (h : ¬ cg a 0) (n : Nat) : ¬ cg (a ^ n) 0 := by
  induction n with
  | zero => rw [Int.pow_zero]; unfold cg; omega
  | succ n ih => rw [Int.pow_succ, Int.mul_comm]; exact fun e => ih (cg_zero e h)
theorem pow_inv {w wi : Int} (h : cg (w * wi) 1) (n : Nat) : cg (w ^ n * wi ^ n) 1 := by
  rw [← Int.mul_pow]; have := h.pow n; rw [Int.one_pow] at this; exact this
/-- the way back -/
theorem interp {n : Nat} {l out : List Int} {s si w wi ni : Int} (hl : l.length = n) (ho : out.length = n) (hs : cg (s * si) 1) (hw : cg (w * wi) 1) (hn : cg (ni * (n : Int)) 1) (hwn : cg (w ^ n) 1) (hord : ∀ d, 0 < d → d < n → ¬ cg (w ^ d) 1) (hout : ∀ k, k < n → cg (out.getD k 0) (ni * si ^ k * pv l (wi ^ k))) {j : Nat} (hj : j < n) : cg (pv out (s * w ^ j)) (l.getD j 0) := by
  rw [pv_sm', ho]
  have step1 : cg (sm n (fun k => out.getD k 0 * (s * w ^ j) ^ k)) (sm n (fun k => sm n (fun i => l.getD i 0 * ni * (wi ^ i * w ^ j) ^ k))) := by
    refine sm_cg fun k hk => ?_
    have e1 : sm n (fun i => l.getD i 0 * ni * (wi ^ i * w ^ j) ^ k) = ni * (w ^ j) ^ k * pv l (wi ^ k) := by
      rw [pv_sm', hl, ← sm_mul]
      congr 1; funext i
      rw [Int.mul_pow, ← Int.pow_mul, ← Int.pow_mul, ← Int.pow_mul, Nat.mul_comm k i]
      generalize wi ^ (i * k) = A
      generalize w ^ (j * k) = B
      grind
    rw [e1, Int.mul_pow]
    refine ((hout k hk).mul (cg.refl _)).trans ?_
    have h2 := (pow_inv hs k).mul (cg.refl (ni * (w ^ j) ^ k * pv l (wi ^ k)))
    rw [Int.one_mul] at h2
    refine cg.trans (cg_of_eq ?_) h2
    generalize pv l (wi ^ k) = A
    generalize (w ^ j) ^ k = B
    generalize s ^ k = C
    generalize si ^ k = D
    grind
  refine step1.trans ?_
  rw [sm_swap]
  have step2 : cg (sm n (fun i => sm n (fun k => l.getD i 0 * ni * (wi ^ i * w ^ j) ^ k))) (sm n (fun i => if i = j then l.getD j 0 else 0)) := by
    refine sm_cg fun i hi => ?_
    rw [sm_mul]
    by_cases e : i = j
    · subst e
      rw [if_pos rfl]
      have h1 : cg (wi ^ i * w ^ i) 1 := by rw [Int.mul_comm]; exact pow_inv hw i
      have h2 : cg (sm n (fun k => (wi ^ i * w ^ i) ^ k)) (n : Int) := by
        rw [← sm_one n]
        refine sm_cg fun k _ => ?_
        have := h1.pow k; rw [Int.one_pow] at this; exact this
      refine ((cg.refl _).mul h2).trans ?_
      have h3 := (cg.refl (l.getD i 0)).mul hn
      rw [Int.mul_one, ← Int.mul_assoc] at h3; exact h3
    · rw [if_neg e]
      have hwin : cg (wi ^ n) 1 := by
        have h1 := pow_inv hw n
        have h2 := hwn.mul (cg.refl (wi ^ n))
        rw [Int.one_mul] at h2; exact h2.symm.trans h1
      have hr : cg ((wi ^ i * w ^ j) ^ n) 1 := by
        rw [Int.mul_pow, ← Int.pow_mul, ← Int.pow_mul, Nat.mul_comm i n, Nat.mul_comm j n, Int.pow_mul, Int.pow_mul]
        have h1 := (hwin.pow i).mul (hwn.pow j)
        rw [Int.one_pow, Int.one_pow] at h1; exact h1
      have hne : ¬ cg (wi ^ i * w ^ j) 1 := by
        rcases Nat.lt_or_ge i j with h | h
        · obtain ⟨d, rfl⟩ : ∃ d, j = i + d := ⟨j - i, by omega⟩
          intro h1
          apply hord d (by omega) (by omega)
          rw [Int.pow_add, ← Int.mul_assoc, Int.mul_comm (wi ^ i)] at h1
          have h2 := (pow_inv hw i).mul (cg.refl (w ^ d))
          rw [Int.one_mul] at h2
          exact h2.symm.trans h1
        · obtain ⟨d, rfl⟩ : ∃ d, i = j + d := ⟨i - j, by omega⟩
          intro h1
          apply hord d (by omega) (by omega)
          have h2 := (pow_inv hw j).mul (cg.refl (wi ^ d))
          rw [Int.one_mul] at h2
          have h3 : cg (wi ^ d) 1 := by
            refine h2.symm.trans (cg.trans (cg_of_eq ?_) h1)
            rw [Int.pow_add]
            generalize wi ^ j = A
            generalize wi ^ d = B
            generalize w ^ j = C
            grind
          have h4 := (cg.refl (w ^ d)).mul h3
          rw [Int.mul_one] at h4
          exact h4.symm.trans (pow_inv hw d)
      have h5 := (cg.refl (l.getD i 0 * ni)).mul (geo0 hr hne)
      rw [Int.mul_zero] at h5; exact h5
  refine step2.trans ?_
  rw [sm_pick _ _ _ hj]; exact cg.refl _
end M
end Go.Proofs.YtbcfjbkmkknmfaaGreatDoor
namespace Go.Proofs.YtbcfjbkmkknmfaaGreatDoor
namespace M
/-- is n one of 1, 2, 4 .. 64? -/
def two64 (n : Int) : Bool := (List.range 7).any fun i => n == (2 : Int) ^ i
theorem two64_iff (n : Int) : two64 n = true ↔ ∃ i : Nat, i ≤ 6 ∧ n = (2 : Int) ^ i := by
  simp only [two64, List.any_eq_true, List.mem_range, beq_iff_eq]
  constructor
  · rintro ⟨i, hi, e⟩; exact ⟨i, by omega, e⟩
  · rintro ⟨i, hi, e⟩; exact ⟨i, by omega, e⟩
theorem two64_two {n : Int} (h : two64 n = true) : two n = true := by
  obtain ⟨i, hi, e⟩ := (two64_iff n).1 h; exact (two_iff n).2 ⟨i, by omega, e⟩
theorem two64_le {i : Nat} (h : i ≤ 6) : (1 : Int) ≤ 2 ^ i ∧ (2 : Int) ^ i ≤ 64 := by
  have : i = 0 ∨ i = 1 ∨ i = 2 ∨ i = 3 ∨ i = 4 ∨ i = 5 ∨ i = 6 := by omega
  rcases this with h | h | h | h | h | h | h <;> subst h <;> decide
theorem two64_bd {n : Int} (h : two64 n = true) : 1 ≤ n ∧ n ≤ 64 := by
  obtain ⟨i, hi, rfl⟩ := (two64_iff n).1 h; exact two64_le hi
theorem two64_div {n : Int} (h0 : 1 ≤ n) : two64 n = true ↔ 64 % n = 0 := by
  rw [two64_iff]
  constructor
  · rintro ⟨i, hi, rfl⟩
    have : i = 0 ∨ i = 1 ∨ i = 2 ∨ i = 3 ∨ i = 4 ∨ i = 5 ∨ i = 6 := by omega
    rcases this with h | h | h | h | h | h | h <;> subst h <;> decide
  · intro h
    obtain ⟨m, rfl⟩ := Int.eq_ofNat_of_zero_le (show 0 ≤ n by omega)
    have h' : 64 % m = 0 := by
      have : ((64 % m : Nat) : Int) = 0 := by rw [Int.natCast_emod]; exact h
      omega
    obtain ⟨i, hi, e⟩ := dvd_two_pow 6 m (Nat.dvd_of_mod_eq_zero h')
    exact ⟨i, hi, by rw [e]; simp⟩
/-- are there points: so many, with this shift? -/
def ptOk (n s : Int) : Bool := two64 n && (el s && (s != 0))
theorem ptOk_parts {n s : Int} (h : ptOk n s = true) : two64 n = true ∧ el s = true ∧ s ≠ 0 := by
  unfold ptOk at h; simpa using h
theorem ptOk_mk {n s : Int} (h : two64 n = true) (h1 : el s = true) (h2 : s ≠ 0) : ptOk n s = true := by simp [ptOk, h, h1, h2]
theorem two_nat {n : Nat} (h : two (n : Int) = true) : ∃ i, i ≤ 16 ∧ n = 2 ^ i := by
  obtain ⟨i, hi, e⟩ := (two_iff _).1 h
  refine ⟨i, hi, ?_⟩
  have : ((2 ^ i : Nat) : Int) = (2 : Int) ^ i := by simp
  omega
/-- the root's power of its number is 1 -/
theorem root_n {n : Nat} (h : two (n : Int) = true) : cg (root n ^ n) 1 := by
  have h1 := root_pow h
  rw [pow_in (root_el h) (by omega), Int.toNat_natCast] at h1
  have h2 := cg_pw (root n) n
  rw [h1] at h2; exact h2.symm
theorem root_h {h n : Nat} (ht : two (n : Int) = true) (e : n = 2 * h) : cg (root n ^ h) (-1) := by
  have h1 := root_half ht (by omega)
  have e2 : ((n : Int) / 2).toNat = h := by omega
  rw [pow_in (root_el ht) (by omega), e2] at h1
  have h2 := cg_pw (root n) h
  rw [h1] at h2
  exact h2.symm.trans (by unfold cg; omega)
theorem neg_pow (k : Nat) : cg ((-1 : Int) ^ (2 * k + 1)) (-1) := cg_of_eq (odd_neg k)
theorem rinv_h {h n : Nat} (ht : two (n : Int) = true) (e : n = 2 * h) : cg (pw (root n) 65535 ^ h) (-1) := by
  have h1 := (cg_pw (root n) 65535).pow h
  have gen : ∀ k : Nat, cg ((root n ^ (2 * k + 1)) ^ h) (-1) := by
    intro k
    rw [← Int.pow_mul, Nat.mul_comm, Int.pow_mul]
    exact ((root_h ht e).pow (2 * k + 1)).trans (neg_pow k)
  exact h1.trans (gen 32767)
theorem root_ord {n : Nat} (h : two (n : Int) = true) {d : Nat} (h0 : 0 < d) (h1 : d < n) : ¬ cg (root n ^ d) 1 := by
  intro hc
  obtain ⟨i, hi, e⟩ := two_nat h
  cases i with
  | zero => rw [Nat.pow_zero] at e; omega
  | succ i =>
    have e2 : n = 2 * 2 ^ i := by rw [e, Nat.pow_succ, Nat.mul_comm]
    have hd := order (root_h h e2) hc
    rw [← e] at hd
    have := Nat.le_of_dvd h0 hd
    omega
end M
end Go.Proofs.YtbcfjbkmkknmfaaGreatDoor
