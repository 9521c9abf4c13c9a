/- Quotients of rules, and why what is checked at all points claims a run; no program in sight. What an honest one proves is accepted, and whatever is accepted claims what is true; no program in sight. -/
import Derived.Test.YtbcfjbkmkknmfaaGreatDoorMaMath
import Derived.Test.YtbcfjbkmkknmfaaGreatDoorTrLaw
namespace Go.Proofs.YtbcfjbkmkknmfaaGreatDoor
namespace M
theorem cg_lt' {a b : Int} (h : cg a b) (a0 : 0 ≤ a) (a1 : a < 65537) : a = b % 65537 := by unfold cg at h; omega
theorem len_padd_trim (a b : List Int) : (trim (padd a b)).length ≤ max a.length b.length := by
  have := len_trim (padd a b); rw [padd_len] at this; exact this
theorem len_pscale_trim (a : List Int) (c : Int) : (trim (pscale a c)).length ≤ a.length := by
  have := len_trim (pscale a c); rw [pscale_len'] at this; exact this
/-- f (g z) -/
def turn (f : List Int) (g : Int) : List Int := trim (tab f.length (fun i => f.getD i 0 * (g ^ i % 65537) % 65537))
theorem ev_turn (f : List Int) (g z : Int) : ev (turn f g) z = ev f (g * z % 65537) := by
  unfold turn
  rw [ev_trim, ev_pv, ev_pv]
  have h := pv_scale (zs := f) (ys := tab f.length (fun i => f.getD i 0 * (g ^ i % 65537) % 65537)) g z (tab_len _ _) (fun i hi => by
    rw [tab_get _ _ _ hi]
    exact (cg_mod _).trans ((cg.refl _).mul (cg_mod _)))
  exact h.trans (pv_cg (cg_mod _).symm f)
theorem len_turn (f : List Int) (g : Int) : (turn f g).length ≤ f.length := by
  have := len_trim (tab f.length (fun i => f.getD i 0 * (g ^ i % 65537) % 65537)); rw [tab_len] at this; exact this
theorem all_turn (f : List Int) (g : Int) : allEl (turn f g) = true := all_trim (all_tab fun i _ => (el_iff _).2 ⟨by omega, by omega⟩)
/-- a rule of two polynomials -/
def rl (r : Rl) (x y : List Int) : List Int :=
  trim (padd (trim (padd (trim (padd (trim (padd (trim (padd (trim (pscale (pmul x x) r.xx)) (trim (pscale (pmul x y) r.xy)))) (trim (pscale (pmul y y) r.yy)))) (trim (pscale x r.x)))) (trim (pscale y r.y)))) (trim [r.k]))
theorem ev_one (k z : Int) : ev [k] z = k % 65537 := by
  show (0 * z + k) % 65537 = _
  rw [Int.zero_mul, Int.zero_add]
theorem ev_rl (r : Rl) (x y : List Int) (z : Int) : ev (rl r x y) z = r.app (ev x z) (ev y z) := by
  unfold rl Rl.app
  simp only [ev_trim, ev_padd, ev_pscale, ev_pmul, ev_one]
  simp only [mL, aL, aR]
  congr 1
  grind
theorem all_rl (r : Rl) (x y : List Int) : allEl (rl r x y) = true := all_trim (all_padd _ _)
theorem len_rl (r : Rl) {x y : List Int} {n : Nat} (h0 : 1 ≤ n) (hx : x.length ≤ n) (hy : y.length ≤ n) : (rl r x y).length ≤ 2 * n - 1 := by
  unfold rl
  have a1 := len_pscale_trim (pmul x x) r.xx
  have a2 := len_pscale_trim (pmul x y) r.xy
  have a3 := len_pscale_trim (pmul y y) r.yy
  have b1 := pmul_len x x
  have b2 := pmul_len x y
  have b3 := pmul_len y y
  have a4 := len_pscale_trim x r.x
  have a5 := len_pscale_trim y r.y
  have a6 := len_trim [r.k]
  rw [List.length_singleton] at a6
  have c1 := len_padd_trim (trim (pscale (pmul x x) r.xx)) (trim (pscale (pmul x y) r.xy))
  generalize trim (padd (trim (pscale (pmul x x) r.xx)) (trim (pscale (pmul x y) r.xy))) = L1 at *
  have c2 := len_padd_trim L1 (trim (pscale (pmul y y) r.yy))
  generalize trim (padd L1 (trim (pscale (pmul y y) r.yy))) = L2 at *
  have c3 := len_padd_trim L2 (trim (pscale x r.x))
  generalize trim (padd L2 (trim (pscale x r.x))) = L3 at *
  have c4 := len_padd_trim L3 (trim (pscale y r.y))
  generalize trim (padd L3 (trim (pscale y r.y))) = L4 at *
  have c5 := len_padd_trim L4 (trim [r.k])
  omega
/-- what the next one is more than the rule says, times z less the last point -/
def left (f rule : List Int) (g last : Int) : List Int := pmul (trim (padd (turn f g) (trim (pscale rule 65536)))) [sub 0 last, 1]
theorem ev_left (f rule : List Int) (g last z : Int) (hl : el last = true) : ev (left f rule g last) z = (ev f (g * z % 65537) - ev rule z) * (z - last) % 65537 := by
  unfold left
  rw [ev_pmul, ev_trim, ev_padd, ev_trim, ev_pscale, ev_turn, sub_in (by decide) hl]
  show cg _ _
  refine cg.mul ((cg_mod _).trans (((cg.refl _).add ((cg_mod _).trans ((cg.refl _).mul (show cg 65536 (-1) by unfold cg; decide)))).trans (cg_of_eq (by omega)))) ?_
  show cg ((((0 * z + 1) % 65537) * z + (0 + 65537 - last) % 65537) % 65537) _
  rw [Int.zero_mul]
  show cg ((1 * z + (0 + 65537 - last) % 65537) % 65537) _
  unfold cg; omega
theorem len_left {f rule : List Int} {g last : Int} {n : Nat} (h0 : 1 ≤ n) (hf : f.length ≤ n) (hr : rule.length ≤ 2 * n - 1) : (left f rule g last).length ≤ 2 * n := by
  unfold left
  have h1 := pmul_len (trim (padd (turn f g) (trim (pscale rule 65536)))) [sub 0 last, 1]
  have h2 := len_padd_trim (turn f g) (trim (pscale rule 65536))
  have h3 := len_turn f g
  have h4 := len_pscale_trim rule 65536
  have h5 : [sub 0 last, 1].length = 2 := rfl
  omega
theorem all_left (f rule : List Int) (g last : Int) : allEl (left f rule g last) = true := all_pmul _ _
theorem neat_left (f rule : List Int) (g last : Int) : neat (left f rule g last) := neat_pmul _ _
/-- z to the n, less 1 -/
def zeroL (n : Nat) : List Int := ((List.replicate (n + 1) 0).set 0 65536).set n 1
theorem zeroL_len (n : Nat) : (zeroL n).length = n + 1 := by simp [zeroL]
theorem zeroL_get {n : Nat} (h : 0 < n) (i : Nat) : (zeroL n).getD i 0 = if i = n then 1 else if i = 0 then 65536 else 0 := by
  unfold zeroL
  rw [getD_set, getD_set, replicate_getD]
  simp only [List.length_set, List.length_replicate]
  by_cases h1 : i = n
  · rw [if_pos (by omega), if_pos h1]
  · rw [if_neg (by omega), if_neg h1]
    by_cases h2 : i = 0
    · rw [if_pos (by omega), if_pos h2]
    · rw [if_neg (by omega), if_neg h2]
theorem zeroL_all {n : Nat} (h : 0 < n) : allEl (zeroL n) = true := by
  rw [tab_ext (zeroL_len n) (fun i _ => zeroL_get h i)]
  refine all_tab fun i _ => ?_
  by_cases h1 : i = n
  · rw [if_pos h1]; decide
  · rw [if_neg h1]
    by_cases h2 : i = 0
    · rw [if_pos h2]; decide
    · rw [if_neg h2]; decide
theorem zeroL_neat {n : Nat} (h : 0 < n) : neat (zeroL n) := .inr (by rw [zeroL_len, zeroL_get h, if_pos (by omega)]; decide)
theorem ev_zeroL {n : Nat} (h : 0 < n) (z : Int) : cg (ev (zeroL n) z) (z ^ n - 1) := by
  refine (ev_cg _ _).trans ?_
  unfold zeroL
  rw [pv_set _ _ _ (by simp), pv_set _ _ _ (by simp), pv_zeros, getD_set, replicate_getD, replicate_getD, if_neg (by omega)]
  have : cg (0 + (65536 - 0) * z ^ 0 + (1 - 0) * z ^ n) (0 + (-1) * z ^ 0 + (1 - 0) * z ^ n) := ((cg.refl 0).add ((show cg (65536 - 0) (-1) by unfold cg; decide).mul (cg.refl _))).add (cg.refl _)
  refine this.trans (cg_of_eq ?_)
  rw [Int.pow_zero]; omega
def lst (n : Nat) : Int := pw (root n) (n - 1)
theorem el_lst (n : Nat) : el (lst n) = true := el_pw _ _
theorem row_pt {n : Nat} (h : two64 (n : Int) = true) : ptOk n 1 = true := ptOk_mk h (by decide) (by decide)
theorem row_one (n i : Nat) : root n ^ i % 65537 = 1 * root n ^ i % 65537 := by rw [Int.one_mul]
/-- what is nought at all rows and shorter than there are rows is nought -/
theorem rows_zero {n : Nat} {r : List Int} (h : two64 (n : Int) = true) (nr : neat r) (ar : allEl r = true) (lr : r.length ≤ n) (hz : ∀ i, i < n → ev r (root n ^ i % 65537) = 0) : r = [] := by
  refine interp_unique (xs := gp 1 (root n) n) nr (.inl rfl) ar rfl (by rw [gp_len]; exact lr) (by simp) (gp_nodup (row_pt h)) fun x hx => ?_
  obtain ⟨i, hi, rfl⟩ := List.mem_map.1 hx
  have hi' := List.mem_range.1 hi
  refine ⟨by omega, by omega, ?_⟩
  rw [← row_one, hz i hi']; rfl
theorem div_zeroL {n : Nat} {L q r : List Int} (h : two64 (n : Int) = true) (h0 : 0 < n) (hd : Div L (zeroL n) q r) (hL : ∀ i, i < n → ev L (root n ^ i % 65537) = 0) : r = [] := by
  have hs := hd.short
  rw [zeroL_len] at hs
  refine rows_zero h hd.nr hd.ar (by omega) fun i hi => ?_
  have e := div_ev hd (root n ^ i % 65537)
  rw [hL i hi] at e
  have z0 : cg (ev (zeroL n) (root n ^ i % 65537)) 0 := by
    refine (ev_zeroL h0 _).trans ?_
    have h1 : cg ((root n ^ i % 65537) ^ n) 1 := by
      refine ((cg_mod _).pow n).trans ?_
      rw [← Int.pow_mul, Nat.mul_comm, Int.pow_mul]
      refine ((root_n (two64_two h)).pow i).trans (cg_of_eq Int.one_pow)
    exact (h1.sub (cg.refl 1)).trans (cg_of_eq (by omega))
  have hb := ev_bd (zeroL n) (root n ^ i % 65537)
  have z1 : ev (zeroL n) (root n ^ i % 65537) = 0 := by unfold cg at z0; omega
  rw [z1, Int.mul_zero, Int.zero_add] at e
  have hb2 := ev_bd r (root n ^ i % 65537)
  omega
theorem div_len_le {n : Nat} {L q : List Int} (h0 : 0 < n) (hd : Div L (zeroL n) q []) (hL : L.length ≤ 2 * n) : q.length ≤ n := by
  rcases Nat.eq_zero_or_pos q.length with e | e
  · omega
  have hl := pm_lead q (zeroL n) e (by rw [zeroL_len]; omega)
  rw [zeroL_len, zeroL_get h0, if_pos (by omega), Int.mul_one] at hl
  have hq := el_at hd.aq (q.length - 1)
  have hne : q.getD (q.length - 1) 0 ≠ 0 := by
    rcases hd.nq with e' | e'
    · omega
    · exact e'
  have he := hd.eq (q.length + (n + 1) - 2)
  rw [hl] at he
  have hz : ([] : List Int).getD (q.length + (n + 1) - 2) 0 = 0 := rfl
  rw [hz] at he
  by_cases hc : q.length + (n + 1) - 2 < L.length
  · omega
  · rw [List.getD_eq_getElem?_getD, List.getElem?_eq_none (by omega)] at he
    have : (0 : Int) = (q.getD (q.length - 1) 0 % 65537 + 0) % 65537 := he
    omega
/-- the points of a proof -/
def zp (n i : Nat) : Int := 3 * root (4 * n : Nat) ^ i % 65537
theorem zp_bd (n i : Nat) : 0 ≤ zp n i ∧ zp n i < 65537 := by unfold zp; omega
def zer (n i : Nat) : Int := (pw (zp n i) n + 65537 - 1) % 65537
theorem zer_bd (n i : Nat) : 0 ≤ zer n i ∧ zer n i < 65537 := by unfold zer; omega
theorem zer_cg (n i : Nat) : cg (zer n i) (zp n i ^ n - 1) := by
  unfold zer
  refine (cg_mod _).trans ?_
  have := cg_pw (zp n i) n
  unfold cg at *; omega
def rowsN (n : Nat) : Bool := n == 2 || n == 4 || n == 8 || n == 16
theorem rowsN_cases {n : Nat} (h : rowsN n = true) : n = 2 ∨ n = 4 ∨ n = 8 ∨ n = 16 := by
  unfold rowsN at h; simp only [Bool.or_eq_true, beq_iff_eq] at h; omega
theorem rowsN_two {n : Nat} (h : rowsN n = true) : two64 (n : Int) = true := by
  rcases rowsN_cases h with rfl | rfl | rfl | rfl <;> decide
theorem rowsN_two4 {n : Nat} (h : rowsN n = true) : two64 ((4 * n : Nat) : Int) = true := by
  rcases rowsN_cases h with rfl | rfl | rfl | rfl <;> decide
theorem rowsN_pt {n : Nat} (h : rowsN n = true) : ptOk ((4 * n : Nat) : Int) 3 = true := ptOk_mk (rowsN_two4 h) (by decide) (by decide)
theorem rowsN_three {n : Nat} (h : rowsN n = true) : ¬ cg ((3 : Int) ^ (4 * n)) 1 := by
  rcases rowsN_cases h with rfl | rfl | rfl | rfl <;> (unfold cg; decide)
theorem zer_ne {n : Nat} (h : rowsN n = true) (i : Nat) : zer n i ≠ 0 := by
  intro e
  have h1 := zer_cg n i
  rw [e] at h1
  have h2 : cg (zp n i ^ n) 1 := cg_sub0 h1.symm
  have h3 : cg (zp n i ^ (4 * n)) 1 := by
    rw [Nat.mul_comm, Int.pow_mul]
    exact (h2.pow 4).trans (cg_of_eq (by decide))
  have h4 : cg (zp n i ^ (4 * n)) (3 ^ (4 * n)) := by
    unfold zp
    refine ((cg_mod _).pow _).trans ?_
    have e1 : root (4 * n : Nat) ^ (4 * n * i) = (root (4 * n : Nat) ^ (4 * n)) ^ i := Int.pow_mul
    rw [Int.mul_pow, ← Int.pow_mul, Nat.mul_comm i, e1]
    have := (cg.refl ((3 : Int) ^ (4 * n))).mul ((root_n (two64_two (rowsN_two4 h))).pow i)
    rw [Int.one_pow, Int.mul_one] at this
    exact this
  exact rowsN_three h (h4.symm.trans h3)
theorem root_four {n : Nat} (h : rowsN n = true) : cg (root (4 * n : Nat) ^ 4) (root n) := by
  have h1 := two64_two (rowsN_two h)
  have h2 := two64_two (rowsN_two4 h)
  rw [root_in h1, root_in h2]
  refine ((cg_pw _ _).pow 4).trans ?_
  rw [← Int.pow_mul]
  have e : (65536 / ((4 * n : Nat) : Int)).toNat * 4 = (65536 / (n : Int)).toNat := by
    rcases rowsN_cases h with rfl | rfl | rfl | rfl <;> decide
  rw [e]
  exact (cg_pw _ _).symm
theorem zp_next {n : Nat} (h : rowsN n = true) (i : Nat) : root n * zp n i % 65537 = zp n ((i + 4) % (4 * n)) := by
  show cg _ _
  unfold zp
  have h1 : cg (root (4 * n : Nat) ^ ((i + 4) % (4 * n))) (root (4 * n : Nat) ^ (i + 4)) := (pow_wrap (root_n (two64_two (rowsN_two4 h))) (i + 4)).symm
  refine cg.trans ?_ (((cg.refl 3).mul h1).symm)
  refine ((cg.refl _).mul (cg_mod _)).trans ?_
  rw [Int.pow_add]
  refine (((root_four h).symm.mul (cg.refl _))).trans (cg_of_eq ?_)
  generalize root (4 * n : Nat) ^ i = A
  generalize root (4 * n : Nat) ^ 4 = B
  grind
/-- by how much the values miss the rule at a point, times z less the last row -/
def mis (r : Rl) (X Y F : List Int) (n i : Nat) : Int := (F.getD ((i + 4) % (4 * n)) 0 + 65537 - r.app (X.getD i 0) (Y.getD i 0)) % 65537 * ((zp n i + 65537 - lst n) % 65537) % 65537
theorem mis_bd (r : Rl) (X Y F : List Int) (n i : Nat) : 0 ≤ mis r X Y F n i ∧ mis r X Y F n i < 65537 := by unfold mis; omega
def wide (f : List Int) (n : Nat) : List Int := evs f 3 (root (4 * n : Nat)) (4 * n)
theorem wide_len (f : List Int) (n : Nat) : (wide f n).length = 4 * n := evs_len _ _ _ _
theorem wide_all (f : List Int) (n : Nat) : allEl (wide f n) = true := evs_all _ _ _ _
theorem wide_get (f : List Int) {n i : Nat} (h : i < 4 * n) : (wide f n).getD i 0 = ev f (zp n i) := by
  unfold wide evs; rw [tab_get _ _ _ h]; rfl
theorem mis_left {r : Rl} {x y f : List Int} {n i : Nat} (h : rowsN n = true) (hi : i < 4 * n) : mis r (wide x n) (wide y n) (wide f n) n i = ev (left f (rl r x y) (root n) (lst n)) (zp n i) := by
  unfold mis
  rw [ev_left _ _ _ _ _ (el_lst n), wide_get _ hi, wide_get _ hi, wide_get _ (Nat.mod_lt _ (by omega)), ev_rl, zp_next h]
  show cg _ _
  refine cg.mul ?_ ?_
  · unfold cg; omega
  · unfold cg; omega
/-- the quotient's values -/
def quo (r : Rl) (X Y F : List Int) (n : Nat) : List Int := tab (4 * n) (fun i => mis r X Y F n i * pw (zer n i) 65535 % 65537)
theorem quo_of {n : Nat} {a b : Int} {i : Nat} (h : rowsN n = true) (ha : 0 ≤ a ∧ a < 65537) (e : cg (a * zer n i) b) : a = b * pw (zer n i) 65535 % 65537 := by
  have hz : ¬ cg (zer n i) 0 := by
    have := zer_bd n i
    have := zer_ne h i
    unfold cg; omega
  have h1 := cg_inv hz
  have h2 : cg a (b * pw (zer n i) 65535) := by
    have h3 := e.mul (cg.refl (pw (zer n i) 65535))
    have h4 := (cg.refl a).mul h1
    rw [Int.mul_one, ← Int.mul_assoc] at h4
    exact h4.symm.trans h3
  exact cg_lt' h2 ha.1 ha.2
end M
end Go.Proofs.YtbcfjbkmkknmfaaGreatDoor
namespace Go.Proofs.YtbcfjbkmkknmfaaGreatDoor
namespace M
/-- x and y go through the run at the rows -/
structure Thru (m : Mc) (s : Int × Int) (n : Nat) (x y : List Int) : Prop where
  ax : allEl x = true
  nx : neat x
  lx : x.length ≤ n
  vx : ∀ i, i < n → ev x (root n ^ i % 65537) = (m.rn s i).1
  ay : allEl y = true
  ny : neat y
  ly : y.length ≤ n
  vy : ∀ i, i < n → ev y (root n ^ i % 65537) = (m.rn s i).2
def xsR (m : Mc) (s : Int × Int) (n : Nat) : List Int := tab n (fun i => (m.rn s i).1)
def ysR (m : Mc) (s : Int × Int) (n : Nat) : List Int := tab n (fun i => (m.rn s i).2)
theorem xsR_all {m : Mc} {s : Int × Int} (hs : sOk s = true) (n : Nat) : allEl (xsR m s n) = true := all_tab fun i _ => (el_iff _).2 ((sOk_iff _).1 (sOk_rn m hs i)).1
theorem ysR_all {m : Mc} {s : Int × Int} (hs : sOk s = true) (n : Nat) : allEl (ysR m s n) = true := all_tab fun i _ => (el_iff _).2 ((sOk_iff _).1 (sOk_rn m hs i)).2
theorem frOk_rows {n : Nat} {v : List Int} (h : rowsN n = true) (hl : v.length = n) (ha : allEl v = true) : frOk v 1 = true := by
  unfold frOk; rw [hl, row_pt (rowsN_two h), ha]; rfl
theorem frOk_wide {n : Nat} {v : List Int} (h : rowsN n = true) (hl : v.length = 4 * n) (ha : allEl v = true) : frOk v 3 = true := by
  unfold frOk; rw [hl, rowsN_pt h, ha]; rfl
def fx (m : Mc) (s : Int × Int) (n : Nat) : List Int := frs (xsR m s n) 1
def fy (m : Mc) (s : Int × Int) (n : Nat) : List Int := frs (ysR m s n) 1
theorem fr_rows {n i : Nat} {v : List Int} (h : rowsN n = true) (hl : v.length = n) (ha : allEl v = true) (hi : i < n) : ev (frs v 1) (root n ^ i % 65537) = v.getD i 0 := by
  have := frs_ev (frOk_rows h hl ha) (j := i) (by omega)
  rw [hl, ← row_one] at this
  exact this
theorem thru_f (m : Mc) {s : Int × Int} {n : Nat} (hs : sOk s = true) (h : rowsN n = true) : Thru m s n (fx m s n) (fy m s n) where
  ax := frs_all _ _
  nx := frs_neat _ _
  lx := by have := frs_len (xsR m s n) 1; unfold xsR at this; rw [tab_len] at this; exact this
  vx := fun i hi => by rw [fx, fr_rows h (show (xsR m s n).length = n from tab_len _ _) (xsR_all hs n) hi, xsR, tab_get _ _ _ hi]
  ay := frs_all _ _
  ny := frs_neat _ _
  ly := by have := frs_len (ysR m s n) 1; unfold ysR at this; rw [tab_len] at this; exact this
  vy := fun i hi => by rw [fy, fr_rows h (show (ysR m s n).length = n from tab_len _ _) (ysR_all hs n) hi, ysR, tab_get _ _ _ hi]
theorem root_step (n i : Nat) : root n * (root n ^ i % 65537) % 65537 = root n ^ (i + 1) % 65537 := by
  rw [mR, Int.pow_succ, Int.mul_comm]
theorem left_rows {m : Mc} {s : Int × Int} {n : Nat} {x y : List Int} (ht : Thru m s n x y) : (∀ i, i < n → ev (left x (rl m.X x y) (root n) (lst n)) (root n ^ i % 65537) = 0) ∧ (∀ i, i < n → ev (left y (rl m.Y x y) (root n) (lst n)) (root n ^ i % 65537) = 0) := by
  constructor <;> intro i hi
  · rw [ev_left _ _ _ _ _ (el_lst n)]
    by_cases hl : i = n - 1
    · subst hl
      have : root n ^ (n - 1) % 65537 - lst n = 0 := by unfold lst pw; omega
      rw [this, Int.mul_zero]; rfl
    · rw [root_step, ht.vx (i + 1) (by omega), ev_rl, ht.vx i hi, ht.vy i hi]
      have : (m.rn s (i + 1)).1 - m.X.app (m.rn s i).1 (m.rn s i).2 = 0 := by
        show (m.nx (m.rn s i)).1 - _ = 0
        unfold Mc.nx; omega
      rw [this, Int.zero_mul]; rfl
  · rw [ev_left _ _ _ _ _ (el_lst n)]
    by_cases hl : i = n - 1
    · subst hl
      have : root n ^ (n - 1) % 65537 - lst n = 0 := by unfold lst pw; omega
      rw [this, Int.mul_zero]; rfl
    · rw [root_step, ht.vy (i + 1) (by omega), ev_rl, ht.vx i hi, ht.vy i hi]
      have : (m.rn s (i + 1)).2 - m.Y.app (m.rn s i).1 (m.rn s i).2 = 0 := by
        show (m.nx (m.rn s i)).2 - _ = 0
        unfold Mc.nx; omega
      rw [this, Int.zero_mul]; rfl
theorem rowsN_pos {n : Nat} (h : rowsN n = true) : 2 ≤ n ∧ n ≤ 16 := by rcases rowsN_cases h with rfl | rfl | rfl | rfl <;> omega
/-- the quotient by long division has the values that are reckoned point by point -/
theorem quo_div {n : Nat} {r : Rl} {x y f q rest : List Int} (h : rowsN n = true) (hL : ∀ i, i < n → ev (left f (rl r x y) (root n) (lst n)) (root n ^ i % 65537) = 0) (hd : Div (left f (rl r x y) (root n) (lst n)) (zeroL n) q rest) : wide q n = quo r (wide x n) (wide y n) (wide f n) n := by
  have hp := rowsN_pos h
  have h0 := div_zeroL (rowsN_two h) (by omega) hd hL
  refine tab_ext (wide_len _ _) fun i hi => ?_
  rw [wide_get _ hi]
  refine quo_of h (ev_bd _ _) ?_
  rw [mis_left h hi, div_ev hd, h0]
  refine cg.trans ?_ (cg_mod _).symm
  refine cg.trans ?_ (cg_of_eq (show ev q (zp n i) * ev (zeroL n) (zp n i) = ev q (zp n i) * ev (zeroL n) (zp n i) + ev [] (zp n i) by rw [show ev [] (zp n i) = 0 from rfl]; omega))
  exact (cg.refl _).mul ((zer_cg n i).trans (ev_zeroL (by omega) _).symm)
structure Pf where
  s : Int × Int
  e : Int × Int
  X : List Int
  Y : List Int
  QX : List Int
  QY : List Int
def Mc.pf (m : Mc) (s : Int × Int) (n : Nat) : Pf where
  s := s
  e := m.rn s (n - 1)
  X := wide (fx m s n) n
  Y := wide (fy m s n) n
  QX := quo m.X (wide (fx m s n) n) (wide (fy m s n) n) (wide (fx m s n) n) n
  QY := quo m.Y (wide (fx m s n) n) (wide (fy m s n) n) (wide (fy m s n) n) n
def lenEl (l : List Int) (n : Nat) : Bool := decide (l.length = 4 * n) && allEl l
def Pf.form (p : Pf) (n : Nat) : Bool := lenEl p.X n && (lenEl p.Y n && (lenEl p.QX n && (lenEl p.QY n && (sOk p.s && sOk p.e))))
def Pf.rows (p : Pf) : Nat := if p.form 2 = true then 2 else if p.form 4 = true then 4 else if p.form 8 = true then 8 else if p.form 16 = true then 16 else 0
theorem lenEl_iff (l : List Int) (n : Nat) : lenEl l n = true ↔ l.length = 4 * n ∧ allEl l = true := by unfold lenEl; rw [Bool.and_eq_true, decide_eq_true_iff]
theorem form_iff (p : Pf) (n : Nat) : p.form n = true ↔ (p.X.length = 4 * n ∧ allEl p.X = true) ∧ (p.Y.length = 4 * n ∧ allEl p.Y = true) ∧ (p.QX.length = 4 * n ∧ allEl p.QX = true) ∧ (p.QY.length = 4 * n ∧ allEl p.QY = true) ∧ sOk p.s = true ∧ sOk p.e = true := by
  unfold Pf.form; simp only [Bool.and_eq_true, lenEl_iff]
theorem rows_of {p : Pf} {n : Nat} (h : rowsN n = true) (hf : p.form n = true) : p.rows = n := by
  have hl := ((form_iff p n).1 hf).1.1
  have no : ∀ k, k ≠ n → ¬ p.form k = true := fun k hk hc => by have := ((form_iff p k).1 hc).1.1; omega
  unfold Pf.rows
  rcases rowsN_cases h with rfl | rfl | rfl | rfl
  · rw [if_pos hf]
  · rw [if_neg (no 2 (by omega)), if_pos hf]
  · rw [if_neg (no 2 (by omega)), if_neg (no 4 (by omega)), if_pos hf]
  · rw [if_neg (no 2 (by omega)), if_neg (no 4 (by omega)), if_neg (no 8 (by omega)), if_pos hf]
theorem rows_some {p : Pf} (h : p.rows ≠ 0) : rowsN p.rows = true ∧ p.form p.rows = true := by
  unfold Pf.rows at *
  by_cases h2 : p.form 2 = true
  · rw [if_pos h2]; exact ⟨rfl, h2⟩
  rw [if_neg h2] at *
  by_cases h4 : p.form 4 = true
  · rw [if_pos h4]; exact ⟨rfl, h4⟩
  rw [if_neg h4] at *
  by_cases h8 : p.form 8 = true
  · rw [if_pos h8]; exact ⟨rfl, h8⟩
  rw [if_neg h8] at *
  by_cases h16 : p.form 16 = true
  · rw [if_pos h16]; exact ⟨rfl, h16⟩
  rw [if_neg h16] at h; exact absurd rfl h
def qOk (r : Rl) (X Y F Q : List Int) (n k : Nat) : Bool := (List.range k).all fun i => Q.getD i 0 * zer n i % 65537 == mis r X Y F n i
theorem qOk_iff (r : Rl) (X Y F Q : List Int) (n k : Nat) : qOk r X Y F Q n k = true ↔ ∀ i, i < k → Q.getD i 0 * zer n i % 65537 = mis r X Y F n i := by
  unfold qOk; simp [List.all_eq_true]
def lenOk (l : List Int) (n : Nat) : Bool := decide ((frs l 3).length ≤ n)
def endOk (p : Pf) (n : Nat) : Bool := (decide (ev (frs p.X 3) 1 = p.s.1) && decide (ev (frs p.Y 3) 1 = p.s.2)) && (decide (ev (frs p.X 3) (lst n) = p.e.1) && decide (ev (frs p.Y 3) (lst n) = p.e.2))
def accN (m : Mc) (p : Pf) (n : Nat) : Bool := (lenOk p.X n && (lenOk p.Y n && (lenOk p.QX n && lenOk p.QY n))) && (endOk p n && (qOk m.X p.X p.Y p.X p.QX n (4 * n) && qOk m.Y p.X p.Y p.Y p.QY n (4 * n)))
def acc (m : Mc) (p : Pf) : Bool := m.ok && (decide (p.rows ≠ 0) && accN m p p.rows)
theorem fr_wide {n : Nat} {f : List Int} (h : rowsN n = true) (af : allEl f = true) (nf : neat f) (lf : f.length ≤ 4 * n) : frs (wide f n) 3 = f := by
  refine frs_unique (frOk_wide h (wide_len f n) (wide_all f n)) af nf (by rw [wide_len]; exact lf) fun j hj => ?_
  rw [wide_len] at hj ⊢
  rw [wide_get _ hj]; rfl
theorem quo_all (r : Rl) (X Y F : List Int) (n : Nat) : allEl (quo r X Y F n) = true := all_tab fun i _ => (el_iff _).2 ⟨by omega, by omega⟩
theorem quo_len (r : Rl) (X Y F : List Int) (n : Nat) : (quo r X Y F n).length = 4 * n := tab_len _ _
theorem pf_form (m : Mc) {s : Int × Int} {n : Nat} (hs : sOk s = true) : (m.pf s n).form n = true :=
  (form_iff _ _).2 ⟨⟨wide_len _ _, wide_all _ _⟩, ⟨wide_len _ _, wide_all _ _⟩, ⟨quo_len _ _ _ _ _, quo_all _ _ _ _ _⟩, ⟨quo_len _ _ _ _ _, quo_all _ _ _ _ _⟩, hs, sOk_rn m hs _⟩
theorem quo_short {n : Nat} {r : Rl} {x y f : List Int} (h : rowsN n = true) (hx : x.length ≤ n) (hy : y.length ≤ n) (hf : f.length ≤ n) (hL : ∀ i, i < n → ev (left f (rl r x y) (root n) (lst n)) (root n ^ i % 65537) = 0) : lenOk (quo r (wide x n) (wide y n) (wide f n) n) n = true := by
  have hp := rowsN_pos h
  obtain ⟨q, rest, hd⟩ := div_exists (zeroL_all (n := n) (by omega)) (zeroL_neat (by omega)) (by rw [zeroL_len]; omega) (left f (rl r x y) (root n) (lst n)) (all_left _ _ _ _)
  have e := quo_div h hL hd
  have h0 := div_zeroL (rowsN_two h) (by omega) hd hL
  subst h0
  have hl := div_len_le (by omega) hd (len_left (by omega) hf (len_rl r (by omega) hx hy))
  unfold lenOk
  rw [← e, fr_wide h hd.aq hd.nq (by omega)]
  exact decide_eq_true hl
theorem qOk_quo (r : Rl) (X Y F : List Int) {n : Nat} (h : rowsN n = true) : qOk r X Y F (quo r X Y F n) n (4 * n) = true := by
  refine (qOk_iff _ _ _ _ _ _ _).2 fun i hi => ?_
  unfold quo
  rw [tab_get _ _ _ hi]
  have hz : ¬ cg (zer n i) 0 := by
    have := zer_bd n i
    have := zer_ne h i
    unfold cg; omega
  have hb := mis_bd r X Y F n i
  have e : cg (mis r X Y F n i * pw (zer n i) 65535 % 65537 * zer n i) (mis r X Y F n i) := by
    refine ((cg_mod _).mul (cg.refl _)).trans ?_
    have := (cg.refl (mis r X Y F n i)).mul (cg_inv hz)
    rw [Int.mul_one] at this
    refine cg.trans (cg_of_eq ?_) this
    rw [Int.mul_assoc, Int.mul_comm (pw _ _)]
  unfold cg at e; omega
theorem root_zero (n : Nat) : root n ^ 0 % 65537 = 1 := by rw [Int.pow_zero]; rfl
/-- FnComplete -/
theorem complete {m : Mc} {s : Int × Int} {n : Nat} (hm : m.ok = true) (hs : sOk s = true) (h : rowsN n = true) : acc m (m.pf s n) = true ∧ (m.pf s n).rows = n := by
  have hr := rows_of h (pf_form m (n := n) hs)
  refine ⟨?_, hr⟩
  have hp := rowsN_pos h
  have ht := thru_f m hs h
  obtain ⟨l1, l2⟩ := left_rows ht
  unfold acc
  rw [hr, hm, decide_eq_true (show n ≠ 0 by omega), Bool.true_and, Bool.true_and]
  have e1 : frs (m.pf s n).X 3 = fx m s n := fr_wide h ht.ax ht.nx (by have := ht.lx; omega)
  have e2 : frs (m.pf s n).Y 3 = fy m s n := fr_wide h ht.ay ht.ny (by have := ht.ly; omega)
  have a1 : lenOk (m.pf s n).X n = true := by unfold lenOk; rw [e1]; exact decide_eq_true ht.lx
  have a2 : lenOk (m.pf s n).Y n = true := by unfold lenOk; rw [e2]; exact decide_eq_true ht.ly
  have a3 : lenOk (m.pf s n).QX n = true := quo_short h ht.lx ht.ly ht.lx l1
  have a4 : lenOk (m.pf s n).QY n = true := quo_short h ht.lx ht.ly ht.ly l2
  have b1 : endOk (m.pf s n) n = true := by
    unfold endOk
    rw [e1, e2]
    have v1 := ht.vx 0 (by omega)
    have v2 := ht.vy 0 (by omega)
    rw [root_zero] at v1 v2
    have v3 : ev (fx m s n) (lst n) = _ := ht.vx (n - 1) (by omega)
    have v4 : ev (fy m s n) (lst n) = _ := ht.vy (n - 1) (by omega)
    rw [v1, v2, v3, v4]
    show ((decide (s.1 = s.1) && decide (s.2 = s.2)) && (decide ((m.rn s (n - 1)).1 = (m.rn s (n - 1)).1) && decide ((m.rn s (n - 1)).2 = (m.rn s (n - 1)).2))) = true
    simp
  have c1 : qOk m.X (m.pf s n).X (m.pf s n).Y (m.pf s n).X (m.pf s n).QX n (4 * n) = true := qOk_quo _ _ _ _ h
  have c2 : qOk m.Y (m.pf s n).X (m.pf s n).Y (m.pf s n).Y (m.pf s n).QY n (4 * n) = true := qOk_quo _ _ _ _ h
  unfold accN
  rw [a1, a2, a3, a4, b1, c1, c2]; rfl
end M
end Go.Proofs.YtbcfjbkmkknmfaaGreatDoor
