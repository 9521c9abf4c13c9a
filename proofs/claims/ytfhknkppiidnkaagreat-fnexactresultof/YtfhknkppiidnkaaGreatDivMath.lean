/- Division of polynomials with a rest: there is one quotient and one rest; no program in sight. -/
import Derived.Test.YtfhknkppiidnkaaGreatEvMath
namespace Go.Proofs.YtfhknkppiidnkaaGreat
namespace M
theorem pm_padd (zs ys g : List Int) (i : Nat) : pm (padd zs ys) g i = (pm zs g i + pm ys g i) % 65537 := by
  induction zs generalizing ys i with
  | nil =>
    induction ys generalizing i with
    | nil => rfl
    | cons b s ih =>
      have e : padd [] (b :: s) = (b % 65537) :: padd [] s := by
        unfold padd
        simp only [List.length_nil, List.length_cons, Nat.zero_max]
        rw [tab_succ]
        congr 1
        simp [sumAt]
      rw [e]
      show (b % 65537 * g.getD i 0 + (if i = 0 then 0 else pm (padd [] s) g (i - 1))) % 65537 = (0 + (b * g.getD i 0 + (if i = 0 then 0 else pm s g (i - 1))) % 65537) % 65537
      have h := mm b (g.getD i 0)
      generalize b % 65537 * g.getD i 0 = p at h ⊢
      generalize b * g.getD i 0 = q at h ⊢
      by_cases h0 : i = 0
      · rw [if_pos h0, if_pos h0]; omega
      · rw [if_neg h0, if_neg h0, ih]
        show (p + (0 + pm s g (i - 1)) % 65537) % 65537 = _
        omega
  | cons a r ih =>
    cases ys with
    | nil =>
      have hc : ∀ (l : List Int) (i : Nat), pm (padd l []) g i = pm l g i % 65537 := by
        intro l
        induction l with
        | nil => intro i; rfl
        | cons b s ih2 =>
          intro i
          have e : padd (b :: s) [] = (b % 65537) :: padd s [] := by
            unfold padd
            simp only [List.length_nil, List.length_cons, Nat.max_zero]
            rw [tab_succ]
            congr 1
            simp [sumAt]
          rw [e]
          show (b % 65537 * g.getD i 0 + (if i = 0 then 0 else pm (padd s []) g (i - 1))) % 65537 = (b * g.getD i 0 + (if i = 0 then 0 else pm s g (i - 1))) % 65537 % 65537
          have h := mm b (g.getD i 0)
          generalize b % 65537 * g.getD i 0 = p at h ⊢
          generalize b * g.getD i 0 = q at h ⊢
          by_cases h0 : i = 0
          · rw [if_pos h0, if_pos h0]; omega
          · rw [if_neg h0, if_neg h0, ih2]; omega
      rw [hc]
      show _ = (pm (a :: r) g i + 0) % 65537
      rw [Int.add_zero]
    | cons b s =>
      have e : padd (a :: r) (b :: s) = ((a + b) % 65537) :: padd r s := by
        unfold padd
        simp only [List.length_cons]
        rw [show max (r.length + 1) (s.length + 1) = max r.length s.length + 1 by omega, tab_succ]
        congr 1
      rw [e]
      show ((a + b) % 65537 * g.getD i 0 + (if i = 0 then 0 else pm (padd r s) g (i - 1))) % 65537 = ((a * g.getD i 0 + (if i = 0 then 0 else pm r g (i - 1))) % 65537 + (b * g.getD i 0 + (if i = 0 then 0 else pm s g (i - 1))) % 65537) % 65537
      have h := mm (a + b) (g.getD i 0)
      rw [Int.add_mul] at h
      generalize (a + b) % 65537 * g.getD i 0 = p at h ⊢
      generalize a * g.getD i 0 = q at h ⊢
      generalize b * g.getD i 0 = t at h ⊢
      by_cases h0 : i = 0
      · rw [if_pos h0, if_pos h0, if_pos h0]; omega
      · rw [if_neg h0, if_neg h0, if_neg h0, ih]; omega
theorem pm_pscale (ys g : List Int) (c : Int) (i : Nat) : pm (pscale ys c) g i = pm ys g i * c % 65537 := by
  induction ys generalizing i with
  | nil => show (0 : Int) = 0 * c % 65537; simp
  | cons b s ih =>
    show (b * c % 65537 * g.getD i 0 + (if i = 0 then 0 else pm (pscale s c) g (i - 1))) % 65537 = (b * g.getD i 0 + (if i = 0 then 0 else pm s g (i - 1))) % 65537 * c % 65537
    rw [mm, Int.add_mul]
    have h := mm (b * c) (g.getD i 0)
    have e : b * c * g.getD i 0 = b * g.getD i 0 * c := Int.mul_right_comm _ _ _
    rw [e] at h
    generalize b * c % 65537 * g.getD i 0 = p at h ⊢
    generalize b * g.getD i 0 * c = q at h ⊢
    by_cases h0 : i = 0
    · rw [if_pos h0, if_pos h0]; simp only [Int.zero_mul]; omega
    · rw [if_neg h0, if_neg h0, ih]
      generalize pm s g (i - 1) * c = t
      omega
theorem pm_snoc0 (zs g : List Int) (i : Nat) : pm (zs ++ [0]) g i = pm zs g i := by
  rw [pm_snoc]
  have := pm_bd zs g i
  have e : (if zs.length ≤ i then 0 * g.getD (i - zs.length) 0 else 0) = 0 := by split <;> simp
  rw [e, Int.add_zero, Int.emod_eq_of_lt this.1 this.2]
theorem pm_tl (zs g : List Int) (i k : Nat) (hk : k ≤ zs.length) : pm (zs.take (tl zs k)) g i = pm (zs.take k) g i := by
  induction k with
  | zero => rfl
  | succ k ih =>
    unfold tl
    by_cases h : zs.getD k 0 = 0
    · rw [if_pos h, ih (by omega), ← take_snoc (by omega), h, pm_snoc0]
    · rw [if_neg h]
theorem pm_trim (zs g : List Int) (i : Nat) : pm (trim zs) g i = pm zs g i := by
  unfold trim; rw [pm_tl zs g i _ (Nat.le_refl _), List.take_length]
theorem pm_ext {zs ys : List Int} (g : List Int) (h : ∀ i, zs.getD i 0 = ys.getD i 0) (i : Nat) : pm zs g i = pm ys g i := by
  rw [← pm_trim zs, ← pm_trim ys, trim_ext h]
/-- q and r are quotient and rest of f by g -/
structure Div (f g q r : List Int) : Prop where
  nq : neat q
  nr : neat r
  aq : allEl q = true
  ar : allEl r = true
  short : r.length < g.length
  eq : ∀ i, f.getD i 0 = (pm q g i + r.getD i 0) % 65537
theorem div_unique {f g q r q' r' : List Int} (ng : neat g) (ag : allEl g = true) (h : Div f g q r) (h' : Div f g q' r') : q = q' ∧ r = r' := by
  have hg : 0 < g.length := by have := h.short; omega
  have hD : trim (padd q (pscale q' 65536)) = [] := by
    rcases Nat.eq_zero_or_pos (trim (padd q (pscale q' 65536))).length with e | e
    · exact List.eq_nil_of_length_eq_zero e
    · exfalso
      have hn := neat_trim (padd q (pscale q' 65536))
      have ha : allEl (trim (padd q (pscale q' 65536))) = true := all_trim (all_padd _ _)
      have hc : ∀ i, pm (trim (padd q (pscale q' 65536))) g i = (pm q g i + pm q' g i * 65536 % 65537) % 65537 := fun i => by rw [pm_trim, pm_padd, pm_pscale]
      generalize trim (padd q (pscale q' 65536)) = D at *
      have hl := pm_lead D g e hg
      rw [hc] at hl
      have e1 : D.getD (D.length - 1) 0 ≠ 0 := by
        rcases hn with x | x
        · omega
        · exact x
      have e2 : g.getD (g.length - 1) 0 ≠ 0 := by
        rcases ng with x | x
        · omega
        · exact x
      have hne := prod_ne ((el_iff _).2 (el_at ha _)) ((el_iff _).2 (el_at ag _)) e1 e2
      rw [← hl] at hne
      have s1 := h.short
      have s2 := h'.short
      have f1 := h.eq (D.length + g.length - 2)
      have f2 := h'.eq (D.length + g.length - 2)
      rw [getD_out (zs := r) (by omega)] at f1
      rw [getD_out (zs := r') (by omega)] at f2
      have b1 := pm_bd q g (D.length + g.length - 2)
      have b2 := pm_bd q' g (D.length + g.length - 2)
      apply hne
      omega
  have hq : q = q' := by
    refine neat_ext h.nq h'.nq fun i => ?_
    have hi : (trim (padd q (pscale q' 65536))).getD i 0 = 0 := by rw [hD]; rfl
    rw [getD_trim, padd_getD, pscale_getD] at hi
    have a1 := el_at h.aq i
    have a2 := el_at h'.aq i
    omega
  refine ⟨hq, neat_ext h.nr h'.nr fun i => ?_⟩
  have f1 := h.eq i
  have f2 := h'.eq i
  rw [hq] at f1
  have a1 := el_at h.ar i
  have a2 := el_at h'.ar i
  have b2 := pm_bd q' g i
  omega
end M
end Go.Proofs.YtfhknkppiidnkaaGreat
