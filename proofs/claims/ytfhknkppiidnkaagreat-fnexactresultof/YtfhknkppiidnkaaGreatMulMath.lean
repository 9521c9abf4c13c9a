/- Plain facts on lists of coefficients: what is left when the zeros at the end go, products by coefficients; no program in sight. -/
import Derived.Test.YtfhknkppiidnkaaGreatSlI
namespace Go.Proofs.YtfhknkppiidnkaaGreat
namespace M
theorem getD_take {zs : List Int} {k i : Nat} : (zs.take k).getD i 0 = if i < k then zs.getD i 0 else 0 := by
  rw [List.getD_eq_getElem?_getD, List.getD_eq_getElem?_getD]
  by_cases h : i < k
  · rw [List.getElem?_take_of_lt h, if_pos h]
  · rw [List.getElem?_eq_none (by rw [List.length_take]; omega), if_neg h]; rfl
theorem tl_zero {zs : List Int} {k i : Nat} (h1 : tl zs k ≤ i) (h2 : i < k) : zs.getD i 0 = 0 := by
  induction k with
  | zero => omega
  | succ k ih =>
    unfold tl at h1
    by_cases h : zs.getD k 0 = 0
    · rw [if_pos h] at h1
      by_cases e : i = k
      · subst e; exact h
      · exact ih h1 (by omega)
    · rw [if_neg h] at h1; omega
theorem getD_trim (zs : List Int) (i : Nat) : (trim zs).getD i 0 = zs.getD i 0 := by
  unfold trim
  rw [getD_take]
  by_cases h : i < tl zs zs.length
  · rw [if_pos h]
  · rw [if_neg h]
    by_cases h2 : i < zs.length
    · exact (tl_zero (by omega) h2).symm
    · exact (getD_out (by omega)).symm
/-- no zeros at the end -/
def neat (zs : List Int) : Prop := zs.length = 0 ∨ zs.getD (zs.length - 1) 0 ≠ 0
theorem tl_pos {zs : List Int} {k : Nat} (h : 0 < tl zs k) : zs.getD (tl zs k - 1) 0 ≠ 0 := by
  induction k with
  | zero => simp [tl] at h
  | succ k ih =>
    unfold tl at h ⊢
    by_cases e : zs.getD k 0 = 0
    · rw [if_pos e] at h ⊢; exact ih h
    · rw [if_neg e]; simpa using e
theorem trim_len (zs : List Int) : (trim zs).length = tl zs zs.length := by
  unfold trim; rw [List.length_take]; have := tl_le zs zs.length; omega
theorem neat_trim (zs : List Int) : neat (trim zs) := by
  unfold neat
  rw [trim_len]
  by_cases h : tl zs zs.length = 0
  · exact .inl h
  · right; rw [getD_trim]; exact tl_pos (by omega)
theorem neat_ext {zs ys : List Int} (h1 : neat zs) (h2 : neat ys) (h : ∀ i, zs.getD i 0 = ys.getD i 0) : zs = ys := by
  have hl : zs.length = ys.length := by
    rcases Nat.lt_trichotomy zs.length ys.length with hlt | e | hlt
    · rcases h2 with e | e
      · omega
      · exfalso; apply e; rw [← h]; exact getD_out (by omega)
    · exact e
    · rcases h1 with e | e
      · omega
      · exfalso; apply e; rw [h]; exact getD_out (by omega)
  apply List.ext_getElem hl
  intro i a b
  have := h i
  rw [List.getD_eq_getElem?_getD, List.getD_eq_getElem?_getD, List.getElem?_eq_getElem a, List.getElem?_eq_getElem b] at this
  exact this
theorem trim_ext {zs ys : List Int} (h : ∀ i, zs.getD i 0 = ys.getD i 0) : trim zs = trim ys :=
  neat_ext (neat_trim _) (neat_trim _) fun i => by rw [getD_trim, getD_trim]; exact h i
theorem neat_polyOk {zs : List Int} (h : polyOk zs = true) : neat zs := by
  unfold polyOk at h
  simp only [Bool.and_eq_true, Bool.or_eq_true, decide_eq_true_eq, bne_iff_ne] at h
  exact h.2.2
theorem trim_neat {zs : List Int} (h : neat zs) : trim zs = zs := neat_ext (neat_trim _) h (getD_trim zs)
theorem trim_trim (zs : List Int) : trim (trim zs) = trim zs := trim_neat (neat_trim _)
theorem tab_getD (N : Nat) (f : Nat → Int) (i : Nat) : (tab N f).getD i 0 = if i < N then f i else 0 := by
  by_cases h : i < N
  · rw [if_pos h, tab_get _ _ _ h]
  · rw [if_neg h]; exact getD_out (by rw [tab_len]; omega)
theorem padd_getD {zs ys : List Int} (i : Nat) : (padd zs ys).getD i 0 = (zs.getD i 0 + ys.getD i 0) % 65537 := by
  unfold padd
  rw [tab_getD]
  by_cases h : i < max zs.length ys.length
  · rw [if_pos h]; rfl
  · rw [if_neg h, getD_out (zs := zs) (by omega), getD_out (zs := ys) (by omega)]; rfl
/-- the coefficient of x to the i of the product, modulo 65537 -/
def pm : List Int → List Int → Nat → Int
  | [], _, _ => 0
  | c :: r, ys, i => (c * ys.getD i 0 + (if i = 0 then 0 else pm r ys (i - 1))) % 65537
theorem pm_bd (zs ys : List Int) (i : Nat) : 0 ≤ pm zs ys i ∧ pm zs ys i < 65537 := by
  cases zs with
  | nil => show 0 ≤ (0 : Int) ∧ (0 : Int) < 65537; omega
  | cons c r => unfold pm; omega
theorem pm_out {zs ys : List Int} {i : Nat} (h : zs.length + ys.length ≤ i + 1) : pm zs ys i = 0 := by
  induction zs generalizing i with
  | nil => rfl
  | cons c r ih =>
    unfold pm
    rw [List.length_cons] at h
    rw [getD_out (zs := ys) (by omega)]
    by_cases h0 : i = 0
    · subst h0; simp
    · rw [if_neg h0, ih (by omega)]; simp
theorem pm_nil (zs : List Int) (i : Nat) : pm zs [] i = 0 := by
  induction zs generalizing i with
  | nil => rfl
  | cons c r ih =>
    unfold pm
    by_cases h0 : i = 0
    · subst h0; simp
    · rw [if_neg h0, ih]; simp
theorem pm_snoc (zs ys : List Int) (c : Int) (t : Nat) : pm (zs ++ [c]) ys t = (pm zs ys t + (if zs.length ≤ t then c * ys.getD (t - zs.length) 0 else 0)) % 65537 := by
  induction zs generalizing t with
  | nil =>
    simp only [List.nil_append, List.length_nil, Nat.zero_le, if_true, Nat.sub_zero]
    show (c * ys.getD t 0 + (if t = 0 then 0 else pm [] ys (t - 1))) % 65537 = (0 + c * ys.getD t 0) % 65537
    have : (if t = 0 then 0 else pm [] ys (t - 1)) = 0 := by split <;> rfl
    rw [this, Int.add_zero, Int.zero_add]
  | cons z r ih =>
    rw [List.cons_append, List.length_cons]
    show (z * ys.getD t 0 + (if t = 0 then 0 else pm (r ++ [c]) ys (t - 1))) % 65537 = _
    by_cases h0 : t = 0
    · subst h0; rw [if_pos rfl, if_neg (by omega)]; unfold pm; rw [if_pos rfl]; omega
    · rw [if_neg h0, ih]
      have e : pm (z :: r) ys t = (z * ys.getD t 0 + pm r ys (t - 1)) % 65537 := by
        show (z * ys.getD t 0 + (if t = 0 then 0 else pm r ys (t - 1))) % 65537 = _; rw [if_neg h0]
      rw [e]
      by_cases h1 : r.length ≤ t - 1
      · rw [if_pos h1, if_pos (by omega), show t - (r.length + 1) = t - 1 - r.length by omega]
        generalize c * ys.getD (t - 1 - r.length) 0 = u
        generalize z * ys.getD t 0 = v
        omega
      · rw [if_neg h1, if_neg (by omega)]; omega
def pmul (zs ys : List Int) : List Int := if zs.length = 0 ∨ ys.length = 0 then [] else trim (tab (zs.length + ys.length - 1) (pm zs ys))
theorem pmul_getD (zs ys : List Int) (i : Nat) : (pmul zs ys).getD i 0 = pm zs ys i := by
  unfold pmul
  by_cases h : zs.length = 0 ∨ ys.length = 0
  · rw [if_pos h]
    have : pm zs ys i = 0 := by
      rcases h with h | h
      · rw [List.eq_nil_of_length_eq_zero h]; rfl
      · rw [List.eq_nil_of_length_eq_zero h]; exact pm_nil _ _
    rw [this]; rfl
  · rw [if_neg h, getD_trim, tab_getD]
    by_cases h2 : i < zs.length + ys.length - 1
    · rw [if_pos h2]
    · rw [if_neg h2, pm_out (by omega)]
theorem neat_pmul (zs ys : List Int) : neat (pmul zs ys) := by
  unfold pmul; split
  · exact .inl rfl
  · exact neat_trim _
theorem pmul_len (zs ys : List Int) : (pmul zs ys).length ≤ zs.length + ys.length - 1 := by
  unfold pmul; split
  · simp
  · have := len_trim (tab (zs.length + ys.length - 1) (pm zs ys)); rw [tab_len] at this; exact this
/-- times an element -/
def pscale (zs : List Int) (c : Int) : List Int := zs.map fun a => a * c % 65537
theorem pscale_getD (zs : List Int) (c : Int) (i : Nat) : (pscale zs c).getD i 0 = zs.getD i 0 * c % 65537 := by
  unfold pscale
  rw [List.getD_eq_getElem?_getD, List.getElem?_map, List.getD_eq_getElem?_getD]
  by_cases h : i < zs.length
  · rw [List.getElem?_eq_getElem h]; rfl
  · rw [List.getElem?_eq_none (by omega)]; simp
theorem cons_getD (c : Int) (zs : List Int) (i : Nat) : (c :: zs).getD i 0 = if i = 0 then c else zs.getD (i - 1) 0 := by
  cases i with
  | zero => rfl
  | succ i => simp
/-- one step of Horner's rule on coefficients -/
theorem horner_step (c : Int) (r ys L : List Int) (h : ∀ i, L.getD i 0 = pm r ys i) (i : Nat) :
    (trim (padd (trim (0 :: L)) (trim (pscale ys c)))).getD i 0 = pm (c :: r) ys i := by
  rw [getD_trim, padd_getD, getD_trim, getD_trim, cons_getD, pscale_getD]
  show _ = (c * ys.getD i 0 + (if i = 0 then 0 else pm r ys (i - 1))) % 65537
  rw [Int.mul_comm c]
  by_cases h0 : i = 0
  · rw [if_pos h0, if_pos h0]; omega
  · rw [if_neg h0, if_neg h0, h]; omega
theorem all_pscale (zs : List Int) (c : Int) : allEl (pscale zs c) = true := by
  unfold allEl pscale
  rw [List.all_eq_true]
  intro x hx
  obtain ⟨a, _, rfl⟩ := List.mem_map.1 hx
  exact (el_iff _).2 ⟨by omega, by omega⟩
theorem all_cons {c : Int} {zs : List Int} (hc : 0 ≤ c ∧ c < 65537) (h : allEl zs = true) : allEl (c :: zs) = true := by
  unfold allEl at *; rw [List.all_cons, h, (el_iff c).2 hc]; rfl
end M
end Go.Proofs.YtfhknkppiidnkaaGreat
