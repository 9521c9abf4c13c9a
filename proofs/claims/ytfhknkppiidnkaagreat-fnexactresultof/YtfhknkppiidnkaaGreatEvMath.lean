/- What sums and products of polynomials are at an element; the length of a product; no program in sight. -/
import Derived.Test.YtfhknkppiidnkaaGreatMulMath
import Derived.Test.YtfhknkppiidnkaaGreatFieldMath
namespace Go.Proofs.YtfhknkppiidnkaaGreat
namespace M
theorem mm (a x : Int) : (a % 65537 * x) % 65537 = a * x % 65537 := by
  rw [Int.mul_emod, Int.emod_emod_of_dvd _ (Int.dvd_refl _), ← Int.mul_emod]
theorem tab_succ (N : Nat) (f : Nat → Int) : tab (N + 1) f = f 0 :: tab N (fun i => f (i + 1)) := by
  simp [tab, List.range_succ_eq_map]
theorem ev_ext {zs ys : List Int} (x : Int) (h : ∀ i, zs.getD i 0 = ys.getD i 0) : ev zs x = ev ys x := by
  rw [← ev_trim zs, ← ev_trim ys, trim_ext h]
theorem ev_padd (zs ys : List Int) (x : Int) : ev (padd zs ys) x = (ev zs x + ev ys x) % 65537 := by
  induction zs generalizing ys with
  | nil =>
    induction ys with
    | nil => rfl
    | cons b s ih =>
      have e : padd [] (b :: s) = (b % 65537) :: padd [] s := by
        unfold padd
        simp only [List.length_nil, List.length_cons, Nat.zero_max]
        rw [tab_succ]
        congr 1
        simp [sumAt]
      rw [e, ev_cons, ih, ev_cons]
      show ((0 + ev s x) % 65537 * x + b % 65537) % 65537 = (0 + (ev s x * x + b) % 65537) % 65537
      have h := mm (0 + ev s x) x
      rw [Int.zero_add] at h ⊢
      generalize ev s x % 65537 * x = p at h ⊢
      generalize ev s x * x = q at h ⊢
      omega
  | cons a r ih =>
    cases ys with
    | nil =>
      have hc : ∀ l : List Int, ev (padd l []) x = ev l x % 65537 := by
        intro l
        induction l with
        | nil => rfl
        | cons b s ih2 =>
          have e : padd (b :: s) [] = (b % 65537) :: padd s [] := by
            unfold padd
            simp only [List.length_nil, List.length_cons, Nat.max_zero]
            rw [tab_succ]
            congr 1
            simp [sumAt]
          rw [e, ev_cons, ih2, ev_cons]
          have h := mm (ev s x) x
          generalize ev s x % 65537 * x = p at h ⊢
          generalize ev s x * x = q at h ⊢
          omega
      rw [hc]
      show _ = (ev (a :: r) x + 0) % 65537
      rw [Int.add_zero]
    | cons b s =>
      have e : padd (a :: r) (b :: s) = ((a + b) % 65537) :: padd r s := by
        unfold padd
        simp only [List.length_cons]
        rw [show max (r.length + 1) (s.length + 1) = max r.length s.length + 1 by omega, tab_succ]
        congr 1
      rw [e, ev_cons, ih, ev_cons, ev_cons]
      have h := mm (ev r x + ev s x) x
      rw [Int.add_mul] at h
      generalize (ev r x + ev s x) % 65537 * x = p at h ⊢
      generalize ev r x * x = q at h ⊢
      generalize ev s x * x = t at h ⊢
      omega
theorem ev_pscale (ys : List Int) (c x : Int) : ev (pscale ys c) x = ev ys x * c % 65537 := by
  induction ys with
  | nil => show (0 : Int) = 0 * c % 65537; simp
  | cons b s ih =>
    show ev ((b * c % 65537) :: pscale s c) x = _
    rw [ev_cons, ih, ev_cons, mm, Int.add_mul]
    have h := mm (ev s x * c) x
    have e : ev s x * c * x = ev s x * x * c := Int.mul_right_comm _ _ _
    rw [e] at h
    generalize ev s x * c % 65537 * x = p at h ⊢
    generalize ev s x * x * c = q at h ⊢
    generalize b * c = t
    omega
theorem ev_pmul (zs ys : List Int) (x : Int) : ev (pmul zs ys) x = ev zs x * ev ys x % 65537 := by
  induction zs with
  | nil =>
    have : pmul [] ys = [] := by unfold pmul; rw [if_pos (.inl rfl)]
    rw [this]; show (0 : Int) = 0 * ev ys x % 65537; simp
  | cons c r ih =>
    have e : ev (pmul (c :: r) ys) x = ev (padd (pscale ys c) (0 :: pmul r ys)) x := by
      apply ev_ext
      intro i
      rw [pmul_getD, padd_getD, pscale_getD, cons_getD]
      show (c * ys.getD i 0 + (if i = 0 then 0 else pm r ys (i - 1))) % 65537 = _
      rw [Int.mul_comm c]
      by_cases h0 : i = 0
      · rw [if_pos h0, if_pos h0]; omega
      · rw [if_neg h0, if_neg h0, pmul_getD]; omega
    rw [e, ev_padd, ev_pscale, ev_cons, ih, ev_cons, mm, Int.add_mul]
    have h := mm (ev r x * ev ys x) x
    have e2 : ev r x * ev ys x * x = ev r x * x * ev ys x := Int.mul_right_comm _ _ _
    rw [e2] at h
    rw [Int.mul_comm c]
    generalize ev r x * ev ys x % 65537 * x = p at h ⊢
    generalize ev r x * x * ev ys x = q at h ⊢
    generalize ev ys x * c = t
    omega
theorem polyOk_mk {zs : List Int} (h1 : zs.length ≤ 128) (h2 : allEl zs = true) (h3 : neat zs) : polyOk zs = true := by
  unfold polyOk
  simp only [Bool.and_eq_true, Bool.or_eq_true, decide_eq_true_eq, bne_iff_ne]
  exact ⟨h1, h2, h3⟩
theorem all_pmul (zs ys : List Int) : allEl (pmul zs ys) = true := by
  unfold pmul
  split
  · rfl
  · exact all_trim (all_tab fun i _ => (el_iff _).2 (pm_bd zs ys i))
theorem el_inv {a : Int} (h : el a = true) (h0 : a ≠ 0) : el (inv a) = true := by rw [inv_in h h0]; exact el_pw _ _
theorem prod_ne {a b : Int} (ha : el a = true) (hb : el b = true) (a0 : a ≠ 0) (b0 : b ≠ 0) : a * b % 65537 ≠ 0 := by
  intro h
  have h1 : mul (inv a) (mul a b) = 0 := by
    rw [mul_in ha hb, h, mul_in (el_inv ha a0) (by decide)]; simp
  rw [← mul_assoc' (el_inv ha a0) ha hb, mul_comm' a (inv a), mul_inv ha a0, mul_comm' b 1, mul_one' hb] at h1
  exact b0 h1
theorem pm_lead (zs ys : List Int) (h1 : 0 < zs.length) (h2 : 0 < ys.length) : pm zs ys (zs.length + ys.length - 2) = zs.getD (zs.length - 1) 0 * ys.getD (ys.length - 1) 0 % 65537 := by
  induction zs with
  | nil => simp at h1
  | cons c r ih =>
    cases r with
    | nil =>
      show (c * ys.getD (([c] : List Int).length + ys.length - 2) 0 + (if ([c] : List Int).length + ys.length - 2 = 0 then 0 else pm [] ys (([c] : List Int).length + ys.length - 2 - 1))) % 65537 = _
      have e : (if ([c] : List Int).length + ys.length - 2 = 0 then 0 else pm [] ys (([c] : List Int).length + ys.length - 2 - 1)) = 0 := by split <;> rfl
      rw [e, Int.add_zero, show ([c] : List Int).length + ys.length - 2 = ys.length - 1 by simp; omega]
      rfl
    | cons z t =>
      have hl : (c :: z :: t).length + ys.length - 2 = (z :: t).length + ys.length - 2 + 1 := by simp only [List.length_cons]; omega
      rw [hl]
      show (c * ys.getD ((z :: t).length + ys.length - 2 + 1) 0 + (if (z :: t).length + ys.length - 2 + 1 = 0 then 0 else pm (z :: t) ys ((z :: t).length + ys.length - 2 + 1 - 1))) % 65537 = _
      rw [getD_out (zs := ys) (by simp only [List.length_cons]; omega), if_neg (by omega), Nat.add_sub_cancel, ih (by simp), Int.mul_zero, Int.zero_add, Int.emod_emod_of_dvd _ (Int.dvd_refl _)]
      have : (c :: z :: t).getD ((c :: z :: t).length - 1) 0 = (z :: t).getD ((z :: t).length - 1) 0 := by
        rw [cons_getD, if_neg (by simp)]; rfl
      rw [this]
theorem pmul_full {zs ys : List Int} (h1 : allEl zs = true) (h2 : allEl ys = true) (n1 : neat zs) (n2 : neat ys) (p1 : 0 < zs.length) (p2 : 0 < ys.length) : (pmul zs ys).length = zs.length + ys.length - 1 := by
  have hle := pmul_len zs ys
  rcases Nat.lt_or_ge (pmul zs ys).length (zs.length + ys.length - 1) with h | h
  · exfalso
    have h3 := getD_out (zs := pmul zs ys) (i := zs.length + ys.length - 2) (by omega)
    rw [pmul_getD, pm_lead zs ys p1 p2] at h3
    have e1 : zs.getD (zs.length - 1) 0 ≠ 0 := by rcases n1 with e | e; · omega
                                                  · exact e
    have e2 : ys.getD (ys.length - 1) 0 ≠ 0 := by rcases n2 with e | e; · omega
                                                  · exact e
    exact prod_ne ((el_iff _).2 (el_at h1 _)) ((el_iff _).2 (el_at h2 _)) e1 e2 h3
  · omega
end M
end Go.Proofs.YtfhknkppiidnkaaGreat
