/- The steps of a long division, and of one by Horner's rule, keep what a division is; no program in sight. -/
import Derived.Test.YtfhknkppiidnkaaGreatDivMath
import Derived.Test.YtfhknkppiidnkaaGreatSlL
namespace Go.Proofs.YtfhknkppiidnkaaGreat
namespace M
theorem pm_set {O : List Int} (g : List Int) {k : Nat} (q : Int) (hk : k < O.length) (h0 : O.getD k 0 = 0) (t : Nat) : pm (O.set k q) g t = (pm O g t + (if k ≤ t then q * g.getD (t - k) 0 else 0)) % 65537 := by
  induction O generalizing k t with
  | nil => simp at hk
  | cons c r ih =>
    cases k with
    | zero =>
      have hc : c = 0 := h0
      subst hc
      rw [List.set_cons_zero, if_pos (Nat.zero_le _), Nat.sub_zero]
      show (q * g.getD t 0 + (if t = 0 then 0 else pm r g (t - 1))) % 65537 = ((0 * g.getD t 0 + (if t = 0 then 0 else pm r g (t - 1))) % 65537 + q * g.getD t 0) % 65537
      generalize q * g.getD t 0 = p
      generalize (if t = 0 then 0 else pm r g (t - 1)) = s
      rw [Int.zero_mul]; omega
    | succ k =>
      rw [List.set_cons_succ]
      have h1 : r.getD k 0 = 0 := by rw [cons_getD, if_neg (by omega)] at h0; simpa using h0
      show (c * g.getD t 0 + (if t = 0 then 0 else pm (r.set k q) g (t - 1))) % 65537 = ((c * g.getD t 0 + (if t = 0 then 0 else pm r g (t - 1))) % 65537 + _) % 65537
      generalize c * g.getD t 0 = p
      by_cases ht : t = 0
      · rw [if_pos ht, if_pos ht, if_neg (by omega)]; omega
      · rw [if_neg ht, if_neg ht, ih (by simpa using hk) h1]
        by_cases h2 : k + 1 ≤ t
        · rw [if_pos (by omega), if_pos h2, show t - (k + 1) = t - 1 - k by omega]
          generalize q * g.getD (t - 1 - k) 0 = u
          omega
        · rw [if_neg (by omega), if_neg h2]; omega
structure DInv (f g R O : List Int) (k : Nat) : Prop where
  lr : R.length = f.length
  lo : O.length = f.length - g.length + 1
  ar : allEl R = true
  ao : allEl O = true
  eq : ∀ t, f.getD t 0 = (pm O g t + R.getD t 0) % 65537
  zero : ∀ t, k + g.length - 1 ≤ t → R.getD t 0 = 0
  oz : ∀ j, j < k → O.getD j 0 = 0
def restAt (R g : List Int) (q : Int) (i j t : Nat) : Int := if i ≤ t ∧ t < i + j then (R.getD t 0 + (65537 - q) * g.getD (t - i) 0) % 65537 else R.getD t 0
theorem pm_zeros (n : Nat) (g : List Int) (t : Nat) : pm (List.replicate n 0) g t = 0 := by
  induction n generalizing t with
  | zero => rfl
  | succ n ih =>
    rw [List.replicate_succ]
    show (0 * g.getD t 0 + (if t = 0 then 0 else pm (List.replicate n 0) g (t - 1))) % 65537 = 0
    by_cases h : t = 0
    · rw [if_pos h]; simp
    · rw [if_neg h, ih]; simp
theorem replicate_getD (n i : Nat) : (List.replicate n (0 : Int)).getD i 0 = 0 := by
  rw [List.getD_eq_getElem?_getD, List.getElem?_replicate]; split <;> rfl
theorem dinv_start {f g : List Int} (af : allEl f = true) : DInv f g f (List.replicate (f.length - g.length + 1) 0) (f.length - g.length + 1) := by
  refine ⟨rfl, by simp, af, ?_, fun t => ?_, fun t ht => getD_out (by omega), fun j _ => replicate_getD _ _⟩
  · unfold allEl; rw [List.all_eq_true]; intro x hx; rw [List.eq_of_mem_replicate hx]; decide
  · rw [pm_zeros, Int.zero_add]
    have := el_at af t
    rw [Int.emod_eq_of_lt this.1 this.2]
theorem lead_cancel {a b : Int} (ha : 0 ≤ a ∧ a < 65537) (hb : 0 ≤ b ∧ b < 65537) (b0 : b ≠ 0) : a * inv b % 65537 * b % 65537 = a := by
  have ea := (el_iff a).2 ha
  have eb := (el_iff b).2 hb
  have h : mul (mul a (inv b)) b = a := by
    rw [mul_assoc' ea (el_inv eb b0) eb, mul_comm' b (inv b), mul_inv eb b0, mul_one' ea]
  rw [mul_in (el_mul ea (el_inv eb b0)) eb, mul_in ea (el_inv eb b0)] at h
  exact h
theorem dinv_step {f g R O : List Int} {k : Nat} (ag : allEl g = true) (g0 : 0 < g.length) (gl : g.getD (g.length - 1) 0 ≠ 0) (h : DInv f g R O (k + 1)) (hk : k + g.length ≤ f.length) (q : Int) (hq : q = R.getD (k + g.length - 1) 0 * inv (g.getD (g.length - 1) 0) % 65537) :
    DInv f g (tab f.length (restAt R g q k g.length)) (O.set k q) k := by
  have hgd : ∀ t, (tab f.length (restAt R g q k g.length)).getD t 0 = restAt R g q k g.length t := fun t => by
    rw [tab_getD]
    by_cases ht : t < f.length
    · rw [if_pos ht]
    · rw [if_neg ht]; unfold restAt; rw [if_neg (by omega)]; exact (getD_out (by rw [h.lr]; omega)).symm
  have q01 : 0 ≤ q ∧ q < 65537 := by rw [hq]; omega
  have hkO : k < O.length := by rw [h.lo]; omega
  refine ⟨tab_len _ _, by rw [List.length_set]; exact h.lo, ?_, ?_, fun t => ?_, fun t ht => ?_, fun j hj => ?_⟩
  · apply all_tab
    intro t _
    unfold restAt
    split
    · exact el_mod _
    · exact (el_iff _).2 (el_at h.ar t)
  · unfold allEl; rw [List.all_eq_true]
    intro x hx
    rcases List.mem_or_eq_of_mem_set hx with hx | hx
    · exact List.all_eq_true.1 h.ao x hx
    · rw [hx]; exact (el_iff _).2 q01
  · rw [hgd, pm_set g q hkO (h.oz k (by omega)), h.eq t]
    unfold restAt
    by_cases h1 : k ≤ t
    · rw [if_pos h1]
      by_cases h2 : t < k + g.length
      · rw [if_pos ⟨h1, h2⟩, Int.sub_mul]
        generalize q * g.getD (t - k) 0 = u
        generalize pm O g t = v
        generalize g.getD (t - k) 0 = y
        generalize R.getD t 0 = x
        omega
      · rw [if_neg (by omega), getD_out (zs := g) (by omega), Int.mul_zero]; omega
    · rw [if_neg h1, if_neg (by omega)]; omega
  · rw [hgd]
    unfold restAt
    by_cases h2 : t < k + g.length
    · rw [if_pos ⟨by omega, h2⟩]
      have et : t = k + g.length - 1 := by omega
      rw [show t - k = g.length - 1 by omega, Int.sub_mul]
      have hc := lead_cancel (el_at h.ar (k + g.length - 1)) (el_at ag (g.length - 1)) gl
      rw [← hq, ← et] at hc
      have hb := el_at h.ar t
      generalize q * g.getD (g.length - 1) 0 = u at hc ⊢
      generalize g.getD (g.length - 1) 0 = y
      generalize R.getD t 0 = x at hc hb ⊢
      omega
    · rw [if_neg (by omega)]; exact h.zero t (by omega)
  · rw [List.getD_eq_getElem?_getD, List.getElem?_set, if_neg (by omega), ← List.getD_eq_getElem?_getD]; exact h.oz j (by omega)
theorem neat_short {L : List Int} {m : Nat} (hn : neat L) (h : ∀ t, m ≤ t → L.getD t 0 = 0) : L.length ≤ m := by
  rcases hn with e | e
  · omega
  · rcases Nat.lt_or_ge m L.length with h1 | h1
    · exfalso; exact e (h _ (by omega))
    · exact h1
theorem dinv_end {f g R O : List Int} (g0 : 0 < g.length) (h : DInv f g R O 0) : Div f g (trim O) (trim R) := by
  refine ⟨neat_trim _, neat_trim _, all_trim h.ao, all_trim h.ar, ?_, fun i => by rw [pm_trim, getD_trim]; exact h.eq i⟩
  have := neat_short (m := g.length - 1) (neat_trim R) (fun t ht => by rw [getD_trim]; exact h.zero t (by omega))
  omega
theorem div_short {f g : List Int} (nf : neat f) (af : allEl f = true) (hl : f.length < g.length) : Div f g [] f :=
  ⟨.inl rfl, nf, rfl, af, hl, fun i => by
    have := el_at af i
    show _ = (0 + _) % 65537
    rw [Int.zero_add, Int.emod_eq_of_lt this.1 this.2]⟩
/-- one step by Horner's rule, where the rest that grew is still short -/
theorem horner_short {f g q r : List Int} {c : Int} (hc : 0 ≤ c ∧ c < 65537) (h : Div f g q r) (hs : (trim (c :: r)).length < g.length) : Div (c :: f) g (trim (0 :: q)) (trim (c :: r)) := by
  refine ⟨neat_trim _, neat_trim _, all_trim (all_cons (by omega) h.aq), all_trim (all_cons hc h.ar), hs, fun i => ?_⟩
  rw [pm_trim, getD_trim, cons_getD, cons_getD]
  show _ = ((0 * g.getD i 0 + (if i = 0 then 0 else pm q g (i - 1))) % 65537 + _) % 65537
  rw [Int.zero_mul]
  by_cases h0 : i = 0
  · rw [if_pos h0, if_pos h0, if_pos h0]; omega
  · rw [if_neg h0, if_neg h0, if_neg h0, h.eq]
    have := pm_bd q g (i - 1)
    omega
theorem horner_full {f g q r : List Int} {c : Int} (ag : allEl g = true) (ng : neat g) (hc : 0 ≤ c ∧ c < 65537) (h : Div f g q r) (hs : (trim (c :: r)).length = g.length) (u : Int)
    (hu : u = (trim (c :: r)).getD ((trim (c :: r)).length - 1) 0 * inv (g.getD (g.length - 1) 0) % 65537) :
    Div (c :: f) g (trim (u :: q)) (trim (padd (trim (c :: r)) (trim (pscale (trim (pscale g u)) 65536)))) := by
  have g0 : 0 < g.length := by have := h.short; omega
  have gl : g.getD (g.length - 1) 0 ≠ 0 := by
    rcases ng with e | e
    · omega
    · exact e
  have u01 : 0 ≤ u ∧ u < 65537 := by rw [hu]; omega
  have ac : allEl (trim (c :: r)) = true := all_trim (all_cons hc h.ar)
  have hco : ∀ t, (trim (padd (trim (c :: r)) (trim (pscale (trim (pscale g u)) 65536)))).getD t 0 = ((trim (c :: r)).getD t 0 + g.getD t 0 * u % 65537 * 65536 % 65537) % 65537 := fun t => by
    rw [getD_trim, padd_getD, getD_trim (pscale _ _), pscale_getD, getD_trim (pscale g u), pscale_getD]
  have hz : ∀ t, g.length - 1 ≤ t → (trim (padd (trim (c :: r)) (trim (pscale (trim (pscale g u)) 65536)))).getD t 0 = 0 := fun t ht => by
    rw [hco]
    by_cases et : t = g.length - 1
    · have hcl := lead_cancel (el_at ac ((trim (c :: r)).length - 1)) (el_at ag (g.length - 1)) gl
      rw [← hu, hs, ← et, Int.mul_comm] at hcl
      have hb := el_at ac t
      generalize g.getD t 0 * u = v at hcl ⊢
      generalize (trim (c :: r)).getD t 0 = x at hcl hb ⊢
      omega
    · rw [getD_out (zs := trim (c :: r)) (by omega), getD_out (zs := g) (by omega)]; simp
  refine ⟨neat_trim _, neat_trim _, all_trim (all_cons u01 h.aq), all_trim (all_padd _ _), ?_, fun i => ?_⟩
  · have := neat_short (m := g.length - 1) (neat_trim _) hz; omega
  · rw [pm_trim, hco, getD_trim, cons_getD, cons_getD]
    show _ = ((u * g.getD i 0 + (if i = 0 then 0 else pm q g (i - 1))) % 65537 + _) % 65537
    rw [Int.mul_comm u]
    generalize g.getD i 0 * u = v
    by_cases h0 : i = 0
    · rw [if_pos h0, if_pos h0, if_pos h0]; omega
    · rw [if_neg h0, if_neg h0, if_neg h0, h.eq]
      have := pm_bd q g (i - 1)
      omega
def divOk (zs ys : List Int) : Bool := both zs ys && decide (ys.length ≠ 0)
def DivRes (zs ys q r : List Int) : Prop := (divOk zs ys = true ∧ Div zs ys q r) ∨ (divOk zs ys = false ∧ q = [] ∧ r = [])
theorem divRes_unique {zs ys q r q' r' : List Int} (h : DivRes zs ys q r) (h' : DivRes zs ys q' r') : q = q' ∧ r = r' := by
  rcases h with ⟨e, h⟩ | ⟨e, rfl, rfl⟩
  · rcases h' with ⟨_, h'⟩ | ⟨e', _⟩
    · have hb : both zs ys = true := by unfold divOk at e; simp only [Bool.and_eq_true] at e; exact e.1
      have h2 := (both_parts hb).2
      exact div_unique (neat_polyOk h2) (polyOk_parts h2).2 h h'
    · rw [e] at e'; cases e'
  · rcases h' with ⟨e', _⟩ | ⟨_, rfl, rfl⟩
    · rw [e] at e'; cases e'
    · exact ⟨rfl, rfl⟩
end M
end Go.Proofs.YtfhknkppiidnkaaGreat
