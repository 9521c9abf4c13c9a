/- Sums of powers over lists, as fast transforms take them apart; no program in sight. -/
import Derived.Test.YtjibpapjfdjecacFermatMath
namespace Go.Proofs.Ytjibpapjfdjecac
namespace M
/-- alike modulo 65537 -/
def cg (a b : Int) : Prop := a % 65537 = b % 65537
theorem cg_iff {a b : Int} : cg a b ↔ ∃ k, a = b + 65537 * k := by
  unfold cg
  constructor
  · intro h; exact ⟨a / 65537 - b / 65537, by omega⟩
  · rintro ⟨k, rfl⟩; omega
theorem cg.refl (a : Int) : cg a a := rfl
theorem cg.symm {a b : Int} (h : cg a b) : cg b a := Eq.symm h
theorem cg.trans {a b c : Int} (h : cg a b) (h2 : cg b c) : cg a c := Eq.trans h h2
theorem cg.add {a b c d : Int} (h : cg a b) (h2 : cg c d) : cg (a + c) (b + d) := by
  rw [cg_iff] at *; obtain ⟨k, rfl⟩ := h; obtain ⟨l, rfl⟩ := h2; exact ⟨k + l, by grind⟩
theorem cg.sub {a b c d : Int} (h : cg a b) (h2 : cg c d) : cg (a - c) (b - d) := by
  rw [cg_iff] at *; obtain ⟨k, rfl⟩ := h; obtain ⟨l, rfl⟩ := h2; exact ⟨k - l, by grind⟩
theorem cg.mul {a b c d : Int} (h : cg a b) (h2 : cg c d) : cg (a * c) (b * d) := by
  rw [cg_iff] at *; obtain ⟨k, rfl⟩ := h; obtain ⟨l, rfl⟩ := h2; exact ⟨k * d + b * l + 65537 * k * l, by grind⟩
theorem cg.neg {a b : Int} (h : cg a b) : cg (-a) (-b) := by
  rw [cg_iff] at *; obtain ⟨k, rfl⟩ := h; exact ⟨-k, by grind⟩
theorem cg.pow {a b : Int} (h : cg a b) (n : Nat) : cg (a ^ n) (b ^ n) := by
  induction n with
  | zero => rw [Int.pow_zero, Int.pow_zero]; exact cg.refl _
  | succ n ih => rw [Int.pow_succ, Int.pow_succ]; exact ih.mul h
theorem cg_mod (a : Int) : cg (a % 65537) a := by unfold cg; omega
theorem cg_of_eq {a b : Int} (h : a = b) : cg a b := by rw [h]; exact cg.refl _
theorem cg_pw (x : Int) (n : Nat) : cg (pw x n) (x ^ n) := cg_mod _
theorem cg_eq {a b : Int} (h : cg a b) (a0 : 0 ≤ a) (a1 : a < 65537) (b0 : 0 ≤ b) (b1 : b < 65537) : a = b := by unfold cg at h; omega
/-- the sum of c + x times the rest -/
def pv : List Int → Int → Int
  | [], _ => 0
  | c :: r, x => c + x * pv r x
/-- z f, z (f + s), .. c of them, as coefficients at x -/
def ss (z : Nat → Int) (f s : Nat) : Nat → Int → Int
  | 0, _ => 0
  | c + 1, x => z f + x * ss z (f + s) s c x
theorem ss_cg {x y : Int} (h : cg x y) (z : Nat → Int) (s c : Nat) : ∀ f, cg (ss z f s c x) (ss z f s c y) := by
  induction c with
  | zero => intro f; exact cg.refl _
  | succ c ih => intro f; exact (cg.refl _).add (h.mul (ih _))
theorem ss_split (z : Nat → Int) (s c : Nat) (x : Int) : ∀ f, ss z f s (2 * c) x = ss z f (2 * s) c (x * x) + x * ss z (f + s) (2 * s) c (x * x) := by
  induction c with
  | zero => intro f; simp [ss]
  | succ c ih =>
    intro f
    have e := ih (f + s + s)
    rw [show 2 * (c + 1) = 2 * c + 1 + 1 by omega]
    simp only [ss]
    rw [e, show f + s + s = f + 2 * s by omega, show f + 2 * s + s = f + s + 2 * s by omega]
    generalize ss z (f + 2 * s) (2 * s) c (x * x) = A
    generalize ss z (f + s + 2 * s) (2 * s) c (x * x) = B
    grind
theorem pv_ss (l : List Int) (x : Int) : ∀ c f, f + c = l.length → ss (fun i => l.getD i 0) f 1 c x = pv (l.drop f) x := by
  intro c
  induction c with
  | zero => intro f h; rw [List.drop_of_length_le (by omega)]; rfl
  | succ c ih =>
    intro f h
    rw [List.drop_eq_getElem_cons (by omega)]
    simp only [ss, pv]
    rw [ih (f + 1) (by omega), List.getD_eq_getElem?_getD, List.getElem?_eq_getElem (by omega)]; rfl
theorem pv_all (l : List Int) (x : Int) : ss (fun i => l.getD i 0) 0 1 l.length x = pv l x := by
  have := pv_ss l x l.length 0 (by omega); simpa using this
theorem pv_cg {x y : Int} (h : cg x y) (l : List Int) : cg (pv l x) (pv l y) := by
  rw [← pv_all, ← pv_all]; exact ss_cg h _ _ _ _
/-- the j-th value of the transform of each s-th coefficient from f on, c of them -/
def fv (z : Nat → Int) (r : Int) (f s c j : Nat) : Int := ss z f s c (r ^ (s * j)) % 65537
theorem fv_bd (z : Nat → Int) (r : Int) (f s c j : Nat) : 0 ≤ fv z r f s c j ∧ fv z r f s c j < 65537 := by unfold fv; omega
theorem pw_two (r : Int) (s j : Nat) : r ^ (2 * s * j) = r ^ (s * j) * r ^ (s * j) := by
  rw [← Int.pow_add]; congr 1; grind
theorem fv_lo (z : Nat → Int) (r : Int) (f s c j : Nat) : (fv z r f (2 * s) c j + fv z r (f + s) (2 * s) c j * (r ^ (j * s) % 65537) % 65537) % 65537 = fv z r f s (2 * c) j := by
  unfold fv
  rw [ss_split, pw_two, Nat.mul_comm j s]
  generalize ss z f (2 * s) c (r ^ (s * j) * r ^ (s * j)) = A
  generalize ss z (f + s) (2 * s) c (r ^ (s * j) * r ^ (s * j)) = B
  generalize r ^ (s * j) = y
  have h : cg (A % 65537 + B % 65537 * (y % 65537) % 65537) (A + y * B) :=
    (cg_mod A).add ((cg_mod _).trans (((cg_mod B).mul (cg_mod y)).trans (cg_of_eq (Int.mul_comm _ _))))
  exact h
theorem fv_hi (z : Nat → Int) (r : Int) (f s c j : Nat) (h1 : cg (r ^ (s * c)) (-1)) : (fv z r f (2 * s) c j + 65537 - fv z r (f + s) (2 * s) c j * (r ^ (j * s) % 65537) % 65537) % 65537 = fv z r f s (2 * c) (j + c) := by
  unfold fv
  rw [ss_split, pw_two, Nat.mul_comm j s]
  have e : cg (r ^ (s * (j + c))) (-(r ^ (s * j))) := by
    rw [Nat.mul_add, Int.pow_add]
    have := (cg.refl (r ^ (s * j))).mul h1
    rw [Int.mul_neg, Int.mul_one] at this; exact this
  have e2 : cg (r ^ (s * (j + c)) * r ^ (s * (j + c))) (r ^ (s * j) * r ^ (s * j)) := by
    have := e.mul e
    rw [Int.neg_mul_neg] at this; exact this
  have hA := ss_cg e2 z (2 * s) c f
  have hB := ss_cg e2 z (2 * s) c (f + s)
  generalize ss z f (2 * s) c (r ^ (s * j) * r ^ (s * j)) = A at hA ⊢
  generalize ss z (f + s) (2 * s) c (r ^ (s * j) * r ^ (s * j)) = B at hB ⊢
  generalize ss z f (2 * s) c (r ^ (s * (j + c)) * r ^ (s * (j + c))) = A' at hA ⊢
  generalize ss z (f + s) (2 * s) c (r ^ (s * (j + c)) * r ^ (s * (j + c))) = B' at hB ⊢
  generalize r ^ (s * (j + c)) = y' at e ⊢
  generalize r ^ (s * j) = y at e ⊢
  have h : cg (A % 65537 + 65537 - B % 65537 * (y % 65537) % 65537) (A' + y' * B') := by
    have h2 : cg (A % 65537 + 65537) A := by unfold cg; omega
    refine (h2.sub ((cg_mod _).trans ((cg_mod B).mul (cg_mod y)))).trans ?_
    refine cg.trans ?_ (hA.symm.add (e.symm.mul hB.symm))
    exact cg_of_eq (by grind)
  exact h
theorem fv_one (z : Nat → Int) (r : Int) (f s : Nat) (h0 : 0 ≤ z f) (h1 : z f < 65537) : z f = fv z r f s 1 0 := by
  unfold fv; simp only [ss]; rw [Int.mul_zero, Int.add_zero, Int.emod_eq_of_lt h0 h1]
/-- taking the first i + 1 -/
theorem pv_append (a b : List Int) (x : Int) : pv (a ++ b) x = pv a x + x ^ a.length * pv b x := by
  induction a with
  | nil => simp [pv]
  | cons c r ih =>
    simp only [List.cons_append, pv, List.length_cons]
    rw [ih, Int.pow_succ]
    generalize x ^ r.length = y
    grind
theorem pv_take (zs : List Int) (x : Int) {i : Nat} (h : i < zs.length) : pv (zs.take (i + 1)) x = pv (zs.take i) x + zs.getD i 0 * x ^ i := by
  rw [List.take_succ_eq_append_getElem h, pv_append, List.length_take, Nat.min_eq_left (by omega), List.getD_eq_getElem?_getD, List.getElem?_eq_getElem h]
  simp only [pv, Option.getD_some]
  grind
theorem pv_set (zs : List Int) (x v : Int) : ∀ {k : Nat}, k < zs.length → pv (zs.set k v) x = pv zs x + (v - zs.getD k 0) * x ^ k := by
  induction zs with
  | nil => intro k h; simp at h
  | cons c r ih =>
    intro k h
    cases k with
    | zero => simp [pv]; grind
    | succ k =>
      rw [List.set_cons_succ]
      simp only [pv]
      rw [ih (by simpa using h), List.getD_cons_succ, Int.pow_succ]
      generalize x ^ k = y
      generalize r.getD k 0 = q
      grind
theorem pow_wrap {x : Int} {n : Nat} (h : cg (x ^ n) 1) (i : Nat) : cg (x ^ i) (x ^ (i % n)) := by
  have e : x ^ i = (x ^ n) ^ (i / n) * x ^ (i % n) := by
    rw [← Int.pow_mul, ← Int.pow_add, Nat.div_add_mod]
  rw [e]
  have h2 := (h.pow (i / n)).mul (cg.refl (x ^ (i % n)))
  rw [Int.one_pow, Int.one_mul] at h2; exact h2
/-- what the wrapping loop keeps -/
def Wr (n : Nat) (zs : List Int) (i : Nat) (out : List Int) : Prop :=
  out.length = n ∧ (∀ k, 0 ≤ out.getD k 0 ∧ out.getD k 0 < 65537) ∧ ∀ x, cg (x ^ n) 1 → cg (pv out x) (pv (zs.take i) x)
theorem pv_zeros (n : Nat) (x : Int) : pv (List.replicate n 0) x = 0 := by
  induction n with
  | zero => rfl
  | succ n ih => rw [List.replicate_succ]; simp [pv, ih]
theorem wr_start (n : Nat) (zs : List Int) : Wr n zs 0 (List.replicate n 0) := by
  refine ⟨by simp, fun k => ?_, fun x _ => ?_⟩
  · rw [List.getD_eq_getElem?_getD]
    by_cases h : k < n
    · rw [List.getElem?_eq_getElem (by simpa using h)]; simp
    · rw [List.getElem?_eq_none (by simp; omega)]; exact ⟨by decide, by decide⟩
  · rw [pv_zeros]; exact cg.refl _
theorem getD_set (l : List Int) (k i : Nat) (v : Int) : (l.set k v).getD i 0 = if k = i ∧ i < l.length then v else l.getD i 0 := by
  rw [List.getD_eq_getElem?_getD, List.getElem?_set, List.getD_eq_getElem?_getD]
  by_cases e : k = i
  · subst e
    by_cases h : k < l.length
    · simp [h]
    · simp [h]
  · simp [e]
theorem wr_step {n : Nat} {zs out : List Int} {i : Nat} (h : Wr n zs i out) (hi : i < zs.length) (hn : 0 < n) : Wr n zs (i + 1) (out.set (i % n) ((out.getD (i % n) 0 + zs.getD i 0) % 65537)) := by
  obtain ⟨hl, hb, hx⟩ := h
  refine ⟨by simpa using hl, fun k => ?_, fun x h1 => ?_⟩
  · rw [getD_set]
    split
    · omega
    · exact hb k
  · have hlt : i % n < out.length := by rw [hl]; exact Nat.mod_lt _ hn
    rw [pv_set _ _ _ hlt, pv_take _ _ hi]
    have h2 := hx x h1
    refine h2.add ?_
    refine cg.mul ?_ (pow_wrap h1 i).symm
    generalize out.getD (i % n) 0 = a
    generalize zs.getD i 0 = b
    unfold cg; omega
/-- coefficients times powers of s: at x they are what the coefficients are at s x -/
theorem pv_scale {zs ys : List Int} (s x : Int) (hl : ys.length = zs.length) (h : ∀ i, i < zs.length → cg (ys.getD i 0) (zs.getD i 0 * s ^ i)) : cg (pv ys x) (pv zs (s * x)) := by
  have key : ∀ i, i ≤ zs.length → cg (pv (ys.take i) x) (pv (zs.take i) (s * x)) := by
    intro i
    induction i with
    | zero => intro _; exact cg.refl _
    | succ i ih =>
      intro hi
      rw [pv_take _ _ (by omega), pv_take _ _ (by omega)]
      refine (ih (by omega)).add ?_
      have h2 := (h i (by omega)).mul (cg.refl (x ^ i))
      rw [Int.mul_pow, ← Int.mul_assoc]; exact h2
  have := key zs.length (Nat.le_refl _)
  rwa [List.take_of_length_le (by omega), List.take_length] at this
end M
end Go.Proofs.Ytjibpapjfdjecac
