/- A polynomial that is not nought has fewer roots than coefficients, so there is at most one short polynomial through points; no program in sight. -/
import Derived.Test.YtfhknkppiidnkaaGreatDivMathB
import Derived.Test.YtfhknkppiidnkaaGreatEvMath
namespace Go.Proofs.YtfhknkppiidnkaaGreat
namespace M
theorem div_exists {g : List Int} (ag : allEl g = true) (ng : neat g) (g0 : 0 < g.length) (f : List Int) (af : allEl f = true) : ∃ q r, Div f g q r := by
  induction f with
  | nil => exact ⟨[], [], div_short (.inl rfl) rfl g0⟩
  | cons c f ih =>
    have hc : 0 ≤ c ∧ c < 65537 := (el_iff c).1 (by unfold allEl at af; rw [List.all_cons] at af; simp only [Bool.and_eq_true] at af; exact af.1)
    have hf : allEl f = true := by unfold allEl at af ⊢; rw [List.all_cons] at af; simp only [Bool.and_eq_true] at af; exact af.2
    obtain ⟨q, r, h⟩ := ih hf
    have hl : (trim (c :: r)).length ≤ g.length := by
      have h1 := len_trim (c :: r); rw [List.length_cons] at h1; have h2 := h.short; omega
    by_cases hs : (trim (c :: r)).length = g.length
    · exact ⟨_, _, horner_full ag ng hc h hs _ rfl⟩
    · exact ⟨_, _, horner_short hc h (by omega)⟩
theorem div_ev {f g q r : List Int} (h : Div f g q r) (x : Int) : ev f x = (ev q x * ev g x + ev r x) % 65537 := by
  have e : ev f x = ev (padd (pmul q g) r) x := ev_ext x fun i => by rw [padd_getD, pmul_getD]; exact h.eq i
  rw [e, ev_padd, ev_pmul]; omega
/-- x less a -/
def lin (a : Int) : List Int := [(65537 - a) % 65537, 1]
theorem lin_all (a : Int) : allEl (lin a) = true := by
  unfold lin allEl
  simp only [List.all_cons, List.all_nil, Bool.and_true, Bool.and_eq_true]
  exact ⟨el_mod _, by decide⟩
theorem lin_neat (a : Int) : neat (lin a) := .inr (by show (1 : Int) ≠ 0; decide)
theorem lin_ev (a x : Int) : ev (lin a) x = (x + (65537 - a)) % 65537 := by
  show ((0 * x + 1) % 65537 * x + (65537 - a) % 65537) % 65537 = _
  rw [Int.zero_mul]
  show (1 * x + (65537 - a) % 65537) % 65537 = _
  rw [Int.one_mul]; omega
theorem roots_few (L : Nat) : ∀ (D xs : List Int), neat D → allEl D = true → D.length = L + 1 → xs.Nodup → (∀ x ∈ xs, 0 ≤ x ∧ x < 65537 ∧ ev D x = 0) → xs.length ≤ L := by
  induction L with
  | zero =>
    intro D xs hn ha hl _ hr
    cases xs with
    | nil => exact Nat.le_refl _
    | cons a t =>
      exfalso
      have h := (hr a (by simp)).2.2
      match D, hl with
      | [c], _ =>
        have hc : c ≠ 0 := by
          rcases hn with e | e
          · simp at e
          · exact e
        have hb := el_at ha 0
        have hb' : 0 ≤ c ∧ c < 65537 := hb
        have h2 : (0 * a + c) % 65537 = 0 := h
        rw [Int.zero_mul] at h2
        omega
  | succ L ih =>
    intro D xs hn ha hl hd hr
    cases xs with
    | nil => exact Nat.zero_le _
    | cons a t =>
      have hra := hr a (by simp)
      obtain ⟨q, r, h⟩ := div_exists (lin_all a) (lin_neat a) (by simp [lin]) D ha
      have hrl : r.length < 2 := h.short
      have e0 := div_ev h a
      have l0 : ev (lin a) a = 0 := by rw [lin_ev]; omega
      rw [hra.2.2, l0, Int.mul_zero, Int.zero_add] at e0
      have hbr := ev_bd r a
      have er : ev r a = 0 := by omega
      have hr0 : r = [] := by
        match r, hrl, h.nr, h.ar, er with
        | [], _, _, _, _ => rfl
        | [c], _, nr, ar, er =>
          exfalso
          have hb : 0 ≤ c ∧ c < 65537 := el_at ar 0
          have h2 : (0 * a + c) % 65537 = 0 := er
          rw [Int.zero_mul] at h2
          rcases nr with e | e
          · simp at e
          · apply e; show c = 0; omega
      subst hr0
      have hq0 : 0 < q.length := by
        rcases Nat.eq_zero_or_pos q.length with e | e
        · exfalso
          have hq := List.eq_nil_of_length_eq_zero e
          subst hq
          rcases hn with e2 | e2
          · omega
          · apply e2; rw [h.eq]; rfl
        · exact e
      have hql : q.length = L + 1 := by
        have hp : D = pmul q (lin a) := neat_ext hn (neat_pmul _ _) fun i => by
          rw [pmul_getD, h.eq]
          have := pm_bd q (lin a) i
          show (pm q (lin a) i + 0) % 65537 = _
          omega
        have h1 := pmul_full h.aq (lin_all a) h.nq (lin_neat a) hq0 (by simp [lin])
        rw [← hp, hl] at h1
        simp only [lin, List.length_cons, List.length_nil] at h1
        omega
      have hd2 := List.nodup_cons.1 hd
      have hlen := ih q t h.nq h.aq hql hd2.2 fun x hx => by
        have hrx := hr x (by simp [hx])
        refine ⟨hrx.1, hrx.2.1, ?_⟩
        have e1 := div_ev h x
        have lx := lin_ev a x
        have hne : x ≠ a := fun e => hd2.1 (by rw [← e]; exact hx)
        have hb := ev_bd (lin a) x
        have l1 : ev (lin a) x ≠ 0 := by rw [lx]; omega
        have e2 : ev q x * ev (lin a) x % 65537 = 0 := by
          rw [hrx.2.2] at e1
          have e3 : ev ([] : List Int) x = 0 := rfl
          rw [e3, Int.add_zero] at e1; exact e1.symm
        rcases Int.lt_trichotomy (ev q x) 0 with hc | hc | hc
        · have := (ev_bd q x).1; omega
        · exact hc
        · exfalso
          exact prod_ne ((el_iff _).2 (ev_bd q x)) ((el_iff _).2 hb) (by omega) l1 e2
      simp only [List.length_cons]; omega
theorem pscale_len' (zs : List Int) (c : Int) : (pscale zs c).length = zs.length := by simp [pscale]
theorem interp_unique {f h xs : List Int} (nf : neat f) (nh : neat h) (af : allEl f = true) (ah : allEl h = true) (lf : f.length ≤ xs.length) (lh : h.length ≤ xs.length) (hd : xs.Nodup) (hx : ∀ x ∈ xs, 0 ≤ x ∧ x < 65537 ∧ ev f x = ev h x) : f = h := by
  have hD : trim (padd f (pscale h 65536)) = [] := by
    rcases Nat.eq_zero_or_pos (trim (padd f (pscale h 65536))).length with e | e
    · exact List.eq_nil_of_length_eq_zero e
    · exfalso
      obtain ⟨L, hL⟩ : ∃ L, (trim (padd f (pscale h 65536))).length = L + 1 := ⟨(trim (padd f (pscale h 65536))).length - 1, by omega⟩
      have h1 := roots_few L _ xs (neat_trim _) (all_trim (all_padd _ _)) hL hd fun x hxx => by
        obtain ⟨a, b, c⟩ := hx x hxx
        refine ⟨a, b, ?_⟩
        rw [ev_trim, ev_padd, ev_pscale, c]
        have := ev_bd h x
        omega
      have h2 := len_trim (padd f (pscale h 65536))
      rw [padd_len, pscale_len', hL] at h2
      omega
  refine neat_ext nf nh fun i => ?_
  have hi : (trim (padd f (pscale h 65536))).getD i 0 = 0 := by rw [hD]; rfl
  rw [getD_trim, padd_getD, pscale_getD] at hi
  have a1 := el_at af i
  have a2 := el_at ah i
  omega
end M
end Go.Proofs.YtfhknkppiidnkaaGreat
