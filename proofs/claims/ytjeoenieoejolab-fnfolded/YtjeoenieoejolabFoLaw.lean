/- What the laws of folds say, in plain terms; no program in sight. -/
import Derived.Test.YtjeoenieoejolabRdF
import Derived.Test.YtjeoenieoejolabTrE
import Derived.Test.YtjeoenieoejolabFoC
import Derived.Test.YtjeoenieoejolabHvLaw
import Derived.Test.YtjeoenieoejolabTrLaw
namespace Go.Proofs.Ytjeoenieoejolab
open Go.RowKit

set_option maxHeartbeats 1000000 in
theorem drawFolded_any {a : Option Addr} {len cap : Nat} {zs : List Int} (w0 w : World) (hrow : Row .u8 w0 a len cap zs) (hb0 : Below w0.heap.size w0 w) :
    Calls Try.prog 32 #[.slice a len cap] w fun e w' => ∃ (b : Option Addr) (l c : Nat) (zs : List Int) (s x : Int), e = .returned (.tuple #[.slice b l c, .int .i64 s, .int .i64 x]) ∧ l ≤ 70 ∧ Owns 2 w' w.heap.size b l c zs ∧ Below w.heap.size w w' := by
  have HR0 : Hid (Row .u8 w0 a len cap zs) := hrow
  have HB0 : Hid (Below w0.heap.size w0 w) := hb0
  clear hrow hb0
  go_enter Try.func32, Try.ntmps32
  go_wp2_with fail
  refine (drawFrom_any w0 w HR0.out HB0.out).mono ?_
  rintro e w1 ⟨b, l, c, ys, s, s0, s1, rfl, hl, ho, hbl⟩
  have HO1 : Hid (Owns 2 w1 w.heap.size b l c ys) := ho
  have HB1 : Hid (Below w.heap.size w w1) := hbl
  have HR : Hid (Row .u8 w1 a len cap zs) := HR0.out.below (HB0.out.trans (hbl.mono HB0.out.size))
  clear ho hbl
  go_wp2_with fail
  refine (open_any _).mono ?_
  rintro e w2 ⟨rfl, hr⟩
  have HR2 : Hid (Rd w1 w1.heap.size a len cap w2) := hr
  clear hr
  go_wp2_with fail
  refine (elem_any HR.out _ HR2.out).mono ?_
  rintro e w3 ⟨x, x0, x1, rfl, hr, hg⟩
  have HB3 : Hid (Below w1.heap.size w1 w3) := hr.below
  clear hr hg
  go_wp2
  go_ret3
  exact ⟨b, l, c, ys, s, x, rfl, hl, HO1.out.below HB3.out, HB1.out.trans (HB3.out.mono HB1.out.size)⟩
set_option maxHeartbeats 2000000 in
theorem drawBelow_any {a : Option Addr} {len cap : Nat} {zs : List Int} (w : World) (hrow : Row .u8 w a len cap zs) :
    Calls Try.prog 38 #[.slice a len cap] w fun e w' => ∃ (b : Option Addr) (l c : Nat) (zs : List Int) (s : Int) (k : Nat), k < 10 ∧ e = .returned (.tuple #[.slice b l c, .int .i64 s, .int .i64 k]) ∧ l ≤ 70 ∧ Owns 2 w' w.heap.size b l c zs ∧ Below w.heap.size w w' := by
  have HR : Hid (Row .u8 w a len cap zs) := hrow
  clear hrow
  go_enter Try.func38, Try.ntmps38
  go_wp2_with fail
  refine (open_any _).mono ?_
  rintro e w1 ⟨rfl, hr⟩
  have HR1 : Hid (Rd w w.heap.size a len cap w1) := hr
  clear hr
  go_wp2_with fail
  refine (poly_any HR.out 9 (by omega) _ HR1.out).mono ?_
  rintro e w2 ⟨b, l, c, ys, rfl, hl, ho, hr, hg⟩
  have HR2 : Hid (Rd w w.heap.size a len cap w2) := hr
  have HO2 : Hid (Owns 2 w2 w1.heap.size b l c ys) := ho
  clear hr hg ho
  go_wp2_with fail
  refine (points_any HR.out _ HR2.out).mono ?_
  rintro e w3 ⟨n, n0, n1, rfl, hr, hg⟩
  have HR3 : Hid (Rd w w.heap.size a len cap w3) := hr
  have HO3 : Hid (Owns 2 w3 w1.heap.size b l c ys) := HO2.out.keepR hg (HO2.out.past HR1.out.hi)
  clear hr hg
  go_wp2_with fail
  refine (shift_any HR.out _ HR3.out).mono ?_
  rintro e w4 ⟨s, s0, s1, rfl, hr, hg⟩
  have HR4 : Hid (Rd w w.heap.size a len cap w4) := hr
  have HO4 : Hid (Owns 2 w4 w1.heap.size b l c ys) := HO3.out.keepR hg (HO3.out.past HR1.out.hi)
  clear hr hg
  go_wp2_with fail
  refine (specEvals_any n s _ HO4.out.sees).mono ?_
  rintro e w5 ⟨la, m, lc, rfl, hm, ho, hbl⟩
  have HR5 : Hid (Rd w w.heap.size a len cap w5) := HR4.out.grow hbl
  have HO5 : Hid (Owns 2 w5 w4.heap.size la m lc (M.evv ys n s)) := ho
  have HL4 : Hid (w.heap.size < w4.heap.size) := HR4.out.hi
  clear ho hbl
  go_wp2_with fail
  refine (once_any HR.out 6 (by omega) (by omega) _ HR5.out).mono ?_
  rintro e w6 ⟨q, rfl, hr, hg⟩
  have HR6 : Hid (Rd w w.heap.size a len cap w6) := hr
  have HO6 : Hid (Owns 2 w6 w4.heap.size la m lc (M.evv ys n s)) := HO5.out.keepR hg (HO5.out.past HL4.out)
  clear hr hg
  cases q with
  | false =>
    go_wp2_with fail
    refine (below_any HR.out 10 (by omega) (by omega) _ HR6.out).mono ?_
    rintro e w7 ⟨v, v0, v1, rfl, hr, hg⟩
    have HR7 : Hid (Rd w w.heap.size a len cap w7) := hr
    have HO7 : Hid (Owns 2 w7 w.heap.size la m lc (M.evv ys n s)) := (HO6.out.keepR hg (HO6.out.past HL4.out)).mono (Nat.le_of_lt HL4.out)
    clear hr hg
    obtain ⟨k, rfl⟩ := Int.eq_ofNat_of_zero_le v0
    go_wp2
    go_ret3
    exact ⟨la, m, lc, _, s, k, by omega, rfl, by omega, HO7.out, HR7.out.below⟩
  | true =>
    by_cases hm0 : 0 < m
    · have hmI : (0 : Int) < (m : Int) := by omega
      go_wp2_with fail
      refine (below_any HR.out (m : Int) (by omega) (by omega) _ HR6.out).mono ?_
      rintro e w7 ⟨v, v0, v1, rfl, hr, hg⟩
      have HR7 : Hid (Rd w w.heap.size a len cap w7) := hr
      have HO7 : Hid (Owns 2 w7 w4.heap.size la m lc (M.evv ys n s)) := HO6.out.keepR hg (HO6.out.past HL4.out)
      clear hr hg
      obtain ⟨j, rfl⟩ := Int.eq_ofNat_of_zero_le v0
      go_wp2_with fail
      refine (elem_any HR.out _ HR7.out).mono ?_
      rintro e w8 ⟨x, x0, x1, rfl, hr, hg⟩
      have HR8 : Hid (Rd w w.heap.size a len cap w8) := hr
      have HO8 : Hid (Owns 2 w8 w4.heap.size la m lc (M.evv ys n s)) := HO7.out.keepR hg (HO7.out.past HL4.out)
      clear hr hg
      obtain ⟨g, rfl, hg1, hg2, hc, hf⟩ := HO8.out.block hm0
      have d1 := hc j (by omega)
      have f1 := hf j
      have HO9 : Hid (Owns 2 (w8.setCell ⟨g, j, none⟩ (.int .i64 x)) w4.heap.size (some ⟨g, 0, none⟩) m lc ((M.evv ys n s).set j x)) := HO8.out.set j x
      have HR9 : Hid (Rd w w.heap.size a len cap (w8.setCell ⟨g, j, none⟩ (.int .i64 x))) := HR8.out.keep (b := some ⟨g, 0, none⟩) (n := m) (c := lc) (grown_set (World.grownBy.refl _ _) ⟨g, j, none⟩ rfl _) (fun y hy => by have := HL4.out; cases hy; show g ≠ _; omega) (fun y hy => by have := HL4.out; cases hy; show _ ≤ g; omega)
      clear hc hf hg1 hg2
      go_wp2_with fail
      refine (below_any HR.out 10 (by omega) (by omega) _ HR9.out).mono ?_
      rintro e w9 ⟨v, v0, v1, rfl, hr, hg⟩
      have HR7 : Hid (Rd w w.heap.size a len cap w9) := hr
      have HO7 : Hid (Owns 2 w9 w.heap.size (some ⟨g, 0, none⟩) m lc ((M.evv ys n s).set j x)) := (HO9.out.keepR hg (HO9.out.past HL4.out)).mono (Nat.le_of_lt HL4.out)
      clear hr hg
      obtain ⟨k, rfl⟩ := Int.eq_ofNat_of_zero_le v0
      go_wp2
      go_ret3
      exact ⟨_, m, lc, _, s, k, by omega, rfl, by omega, HO7.out, HR7.out.below⟩
    · have hm1 : m = 0 := by omega
      subst hm1
      clear hm0
      go_wp2_with fail
      refine (below_any HR.out 10 (by omega) (by omega) _ HR6.out).mono ?_
      rintro e w7 ⟨v, v0, v1, rfl, hr, hg⟩
      have HR7 : Hid (Rd w w.heap.size a len cap w7) := hr
      have HO7 : Hid (Owns 2 w7 w.heap.size la 0 lc (M.evv ys n s)) := (HO6.out.keepR hg (HO6.out.past HL4.out)).mono (Nat.le_of_lt HL4.out)
      clear hr hg
      obtain ⟨k, rfl⟩ := Int.eq_ofNat_of_zero_le v0
      go_wp2
      go_ret3
      exact ⟨la, 0, lc, _, s, k, by omega, rfl, by omega, HO7.out, HR7.out.below⟩
end Go.Proofs.Ytjeoenieoejolab
namespace Go.Proofs.Ytjeoenieoejolab
theorem sees_one (v : World) (b : Int) (t : TypeId) : Sees (v.alloc (.cells #[Value.int .i64 b] t)) (some ⟨v.heap.size, 0, none⟩) 1 1 [b] := by
  refine ⟨rfl, Nat.le_refl _, by omega, (fun h => by cases h), .inr ⟨_, _, rfl, fun i hi => ?_⟩⟩
  obtain rfl : i = 0 := by omega
  rw [World.cell?_alloc_new]; rfl
namespace M
theorem two64_half {n m : Nat} (h : two64 (n : Int) = true) (e : n = 2 * m) : two64 (m : Int) = true := by
  obtain ⟨i, hi, e2⟩ := (two64_iff _).1 h
  match i, hi, e2 with
  | 0, _, e2 => simp at e2; omega
  | i + 1, hi, e2 => exact (two64_iff _).2 ⟨i, by omega, by rw [Int.pow_succ] at e2; omega⟩
theorem root_sq {n m : Nat} (h : two64 (n : Int) = true) (e : n = 2 * m) : cg (root n * root n) (root m) := by
  have hm := two64_half h e
  have h1 := (two64_bd hm).1
  have hd : (65536 : Int) % (n : Int) = 0 := (two_div (by omega)).1 (two64_two h)
  rw [root_in (two64_two h), root_in (two64_two hm)]
  obtain ⟨q, hq⟩ := Int.dvd_of_emod_eq_zero hd
  have e1 : (65536 : Int) / (n : Int) = q := by rw [hq]; exact Int.mul_ediv_cancel_left _ (by omega)
  have e2 : (65536 : Int) / (m : Int) = 2 * q := by
    rw [hq, show (n : Int) = (m : Int) * 2 by omega, Int.mul_assoc]; exact Int.mul_ediv_cancel_left _ (by omega)
  rw [e1, e2]
  have hq0 : 0 ≤ q := by
    rcases Int.lt_or_le q 0 with hlt | hle
    · have : (n : Int) * q ≤ (n : Int) * 0 := Int.mul_le_mul_of_nonneg_left (by omega) (by omega)
      rw [← hq] at this; omega
    · exact hle
  obtain ⟨k, rfl⟩ := Int.eq_ofNat_of_zero_le hq0
  rw [show (2 * (k : Int)).toNat = k + k by omega, Int.toNat_natCast]
  generalize (3 : Int) = t
  refine ((cg_pw t k).mul (cg_pw t k)).trans ?_
  rw [← Int.pow_add]
  exact (cg_pw t (k + k)).symm
theorem ptOk_half {n m : Nat} {s : Int} (h : ptOk n s = true) (e : n = 2 * m) : ptOk m (s * s % 65537) = true := by
  obtain ⟨h1, h2, h3⟩ := ptOk_parts h
  refine ptOk_mk (two64_half h1 e) (el_mod _) fun e0 => ?_
  exact cg_nz h2 h3 (cg_zero (a := s) (b := s) (by unfold cg; omega) (cg_nz h2 h3))
theorem sq_pt {n m : Nat} {s : Int} (h : ptOk n s = true) (e : n = 2 * m) (i : Nat) : (s * root n ^ i) * (s * root n ^ i) % 65537 = s * s % 65537 * root m ^ i % 65537 := by
  have hr := (root_sq (ptOk_parts h).1 e).pow i
  have e1 : (s * root n ^ i) * (s * root n ^ i) = s * s * (root n * root n) ^ i := by rw [Int.mul_pow]; grind
  rw [e1]
  exact ((cg_mod (s * s)).symm).mul hr
theorem opp_pt {n m : Nat} {s : Int} (h : ptOk n s = true) (e : n = 2 * m) (i : Nat) : cg (s * root n ^ (i + m)) (-(s * root n ^ i)) := by
  have hr := root_h (two64_two (ptOk_parts h).1) e
  rw [Int.pow_add, ← Int.mul_assoc]
  exact ((cg.refl (s * root n ^ i)).mul hr).trans (cg_of_eq (by omega))
/-- a folded value is the even half and b times the odd one -/
theorem fo_val {E O X y z b : Int} (hy : cg y (E + X * O)) (hz : cg z (E - X * O)) (hX : ¬ cg X 0) : fo b (E3.of X y z) = (E + b * O) % 65537 := by
  unfold fo E3.of
  dsimp only
  have ev1 : cg ((y % 65537 + z % 65537) % 65537 * 32769 % 65537) E := by unfold cg at *; generalize X * O = a at *; omega
  have od1 : cg ((y % 65537 + 65537 - z % 65537) % 65537 * 32769 % 65537) (X * O) := by unfold cg at *; generalize X * O = a at *; omega
  have od2 : cg ((y % 65537 + 65537 - z % 65537) % 65537 * 32769 % 65537 * pw (X % 65537) 65535 % 65537) O := by
    refine (cg_mod _).trans ((od1.mul (cg.refl _)).trans ?_)
    have hi : cg (X * pw (X % 65537) 65535) 1 := by
      have h0 : ¬ cg (X % 65537) 0 := fun h => hX ((cg_mod X).symm.trans h)
      exact (((cg_mod X).symm).mul (cg.refl _)).trans (cg_inv h0)
    generalize pw (X % 65537) 65535 = p at hi
    rw [show X * O * p = O * (X * p) by grind]
    exact ((cg.refl O).mul hi).trans (cg_of_eq (by omega))
  generalize (y % 65537 + z % 65537) % 65537 * 32769 % 65537 = A at ev1
  generalize (y % 65537 + 65537 - z % 65537) % 65537 * 32769 % 65537 * pw (X % 65537) 65535 % 65537 = B at od2
  exact ev1.add ((cg_mod _).trans ((cg.refl b).mul od2))
/-- what the even and the odd half have at the square of the i-th point -/
def fX (s : Int) (n i : Nat) : Int := (s * root n ^ i) * (s * root n ^ i) % 65537
def fE (l : List Int) (s : Int) (i : Nat) : Int := ev (sec (frs l s) 0) (fX s l.length i)
def fO (l : List Int) (s : Int) (i : Nat) : Int := ev (sec (frs l s) 1) (fX s l.length i)
theorem ev_split (zs : List Int) (x y : Int) (h : cg (x * x) (y * y)) : cg (ev zs x) (ev (sec zs 0) (y * y % 65537) + x * ev (sec zs 1) (y * y % 65537)) := by
  have e : x * x % 65537 = y * y % 65537 := h
  rw [halves_ev, e]
  exact (cg_mod _).trans ((cg.refl _).add (cg_mod _))
theorem foc_val {l : List Int} {s b : Int} {m : Nat} (h : frOk l s = true) (e : l.length = 2 * m) {i : Nat} (hi : i < m) : foc l s b i = (fE l s i + b * fO l s i) % 65537 := by
  obtain ⟨hp, al⟩ := frOk_parts h
  unfold foc fE fO fX
  rw [show l.length / 2 = m by omega]
  have hx : ¬ cg (s * root l.length ^ i) 0 := fun h0 => pt_nz hp i (by unfold cg at h0; omega)
  have y1 := frs_ev h (j := i) (by omega)
  have z1 := frs_ev h (j := i + m) (by omega)
  have ho := opp_pt hp e i
  generalize hX : s * root l.length ^ i = X at hx y1 ho ⊢
  generalize s * root l.length ^ (i + m) = Z at z1 ho
  have hyy := ev_split (frs l s) (X % 65537) X ((cg_mod X).mul (cg_mod X))
  have hzz := ev_split (frs l s) (Z % 65537) X (((cg_mod Z).trans ho).mul ((cg_mod Z).trans ho) |>.trans (cg_of_eq (by grind)))
  rw [y1] at hyy
  rw [z1] at hzz
  refine fo_val (hyy.trans ?_) (hzz.trans ?_) hx
  · exact (cg.refl _).add ((cg_mod X).mul (cg.refl _))
  · refine ((cg.refl _).add (((cg_mod Z).trans ho).mul (cg.refl _))).trans (cg_of_eq ?_)
    generalize ev (sec (frs l s) 1) (X * X % 65537) = O
    generalize ev (sec (frs l s) 0) (X * X % 65537) = E
    grind
theorem foOk_fr {l : List Int} {s b : Int} (h : foOk l s b = true) : frOk l s = true := by
  obtain ⟨h1, h2, _, _⟩ := foOk_parts h
  unfold frOk; rw [h1, h2]; rfl
theorem ev_one (b X : Int) (hb : el b = true) : ev (trim [b]) X = b := by
  obtain ⟨b0, b1⟩ := (el_iff b).1 hb
  rw [ev_trim]
  show ((0 * X + b) % 65537 : Int) = b
  rw [Int.zero_mul, Int.zero_add, Int.emod_eq_of_lt b0 b1]
theorem one_poly {b : Int} (hb : el b = true) : polyOk (trim [b]) = true := by
  have h := len_trim [b]
  refine polyOk_mk (by simp at h; omega) (all_trim ?_) (neat_trim _)
  have : [b] = tab 1 (fun _ => b) := rfl
  rw [this]; exact all_tab fun _ _ => hb
theorem trimv_one {b : Int} (hb : el b = true) : trimv [b] = trim [b] := by
  have : coefOk [b] = true := by simp [coefOk, allEl, hb]
  unfold trimv; rw [if_pos this]
/-- the polynomial whose values a fold has -/
def fpoly (l : List Int) (s b : Int) : List Int := addv (hv (frv l s) 0) (mulv (hv (frv l s) 1) (trim [b]))
theorem law_folded {l : List Int} {s b : Int} (h : foOk l s b = true) :
    evOk (fpoly l s b) (l.length / 2 : Nat) (mul s s) = true ∧ evv (fpoly l s b) (l.length / 2 : Nat) (mul s s) = fos l s b := by
  have hf := foOk_fr h
  obtain ⟨hp, al, h2, hb⟩ := foOk_parts h
  have hs := (ptOk_parts hp).2.1
  have e := two64_even (ptOk_parts hp).1 h2
  obtain ⟨m, hm⟩ : ∃ m, l.length / 2 = m := ⟨_, rfl⟩
  rw [hm] at e ⊢
  have hpf := frv_poly hf
  have hg := hv_poly hpf 0
  have hh := hv_poly hpf 1
  have ht := one_poly hb
  have hL : (hv (frv l s) 1).length + (trim [b]).length ≤ 129 := by
    have a1 := polyOk_parts hh
    have a2 := len_trim [b]
    simp at a2; omega
  have hmo : mulOk (hv (frv l s) 1) (trim [b]) = true := by
    unfold mulOk; rw [both_mk hh ht]; simpa using hL
  have hbm := law_mulOk hmo
  have hP : polyOk (fpoly l s b) = true := law_addOk hg hbm
  have hpt : ptOk m (mul s s) = true := by rw [mul_in hs hs]; exact ptOk_half hp e
  have hev : evOk (fpoly l s b) m (mul s s) = true := by unfold evOk; rw [hP, hpt]; rfl
  refine ⟨hev, ?_⟩
  unfold fos
  rw [hm]
  refine tab_ext (evv_len hev) fun i hi => ?_
  rw [ev_at hev hi, ptv_in hpt, Int.toNat_natCast, gp_get _ _ _ _ hi, mul_in hs hs, ← sq_pt hp e i, foc_val hf e hi]
  have hX : el ((s * root l.length ^ i) * (s * root l.length ^ i) % 65537) = true := el_mod _
  unfold fpoly
  rw [law_add hg hbm hX, law_mul hh ht hX hmo, atv_in hg hX, atv_in hh hX, atv_in ht hX, ev_one _ _ hb, hv_in hpf, hv_in hpf, ev_trim, ev_trim, frv_in hf, mul_in (el_ev _ _) hb, add_in (el_ev _ _) (el_mod _)]
  unfold fE fO fX
  exact (cg.refl _).add ((cg_mod _).trans (cg_of_eq (Int.mul_comm _ _)))
/-- the same polynomial, coefficient by coefficient -/
def fp (f : List Int) (b : Int) : List Int := trim (tab (f.length / 2 + 1) (fun i => (f.getD (2 * i) 0 + b * f.getD (2 * i + 1) 0) % 65537))
theorem fp_get (f : List Int) (b : Int) (i : Nat) : (fp f b).getD i 0 = (f.getD (2 * i) 0 + b * f.getD (2 * i + 1) 0) % 65537 := by
  unfold fp
  rw [getD_trim, tab_getD]
  by_cases h : i < f.length / 2 + 1
  · rw [if_pos h]
  · rw [if_neg h, getD_out (by omega), getD_out (by omega), Int.mul_zero]; rfl
theorem fp_neat (f : List Int) (b : Int) : neat (fp f b) := neat_trim _
theorem fp_all (f : List Int) (b : Int) : allEl (fp f b) = true := all_trim (all_tab fun _ _ => el_mod _)
theorem pv_pad (g : Nat → Int) (X : Int) {A B : Nat} (h : A ≤ B) (h0 : ∀ i, A ≤ i → g i = 0) : pv (tab B g) X = pv (tab A g) X := by
  induction h with
  | refl => rfl
  | step h ih =>
    rename_i B
    rw [← tab_snoc, pv_append, ih, show pv [g B] X = g B + X * 0 from rfl, h0 B h]; simp
theorem pv_lin (g k : Nat → Int) (b X : Int) (A : Nat) : cg (pv (tab A (fun i => (g i + b * k i) % 65537)) X) (pv (tab A g) X + b * pv (tab A k) X) := by
  induction A with
  | zero => exact cg_of_eq (by show (0 : Int) = 0 + b * 0; omega)
  | succ A ih =>
    rw [← tab_snoc, ← tab_snoc, ← tab_snoc, pv_append, pv_append, pv_append, tab_len, tab_len, tab_len]
    show cg (_ + X ^ A * ((g A + b * k A) % 65537 + X * 0)) (_ + X ^ A * (g A + X * 0) + b * (_ + X ^ A * (k A + X * 0)))
    rw [Int.mul_zero, Int.add_zero, Int.add_zero, Int.add_zero]
    refine (ih.add ((cg.refl (X ^ A)).mul (cg_mod _))).trans (cg_of_eq ?_)
    generalize pv (tab A g) X = P
    generalize pv (tab A k) X = Q
    generalize X ^ A = Y
    grind
theorem fp_ev (f : List Int) (b X : Int) : ev (fp f b) X = (ev (sec f 0) X + b * ev (sec f 1) X) % 65537 := by
  unfold fp
  rw [ev_trim, ev_pv]
  have h0 : pv (sec f 0) X = pv (tab (f.length / 2 + 1) (fun i => f.getD (2 * i) 0)) X := by
    unfold sec
    rw [show (fun i => f.getD (0 + 2 * i) 0) = (fun i => f.getD (2 * i) 0) from funext fun i => by rw [Nat.zero_add]]
    exact (pv_pad _ X (by unfold secN; omega) fun i hi => getD_out (by unfold secN at hi; omega)).symm
  have h1 : pv (sec f 1) X = pv (tab (f.length / 2 + 1) (fun i => f.getD (2 * i + 1) 0)) X := by
    unfold sec
    rw [show (fun i => f.getD (1 + 2 * i) 0) = (fun i => f.getD (2 * i + 1) 0) from funext fun i => by rw [Nat.add_comm]]
    exact (pv_pad _ X (by unfold secN; omega) fun i hi => getD_out (by unfold secN at hi; omega)).symm
  have hl := pv_lin (fun i => f.getD (2 * i) 0) (fun i => f.getD (2 * i + 1) 0) b X (f.length / 2 + 1)
  rw [← h0, ← h1] at hl
  exact hl.trans (((ev_cg _ X).symm).add ((cg.refl b).mul (ev_cg _ X).symm))
theorem fp_len {f : List Int} {b : Int} {k : Nat} (h : f.length ≤ 2 * k) : (fp f b).length ≤ k :=
  neat_short (fp_neat f b) fun t ht => by rw [fp_get, getD_out (by omega), getD_out (by omega), Int.mul_zero]; rfl
theorem fp_two {f : List Int} {b c : Int} {k : Nat} (nf : neat f) (af : allEl f = true) (hc : cg c (b + 1)) (h1 : (fp f b).length ≤ k) (h2 : (fp f c).length ≤ k) : f.length ≤ 2 * k := by
  refine neat_short nf fun t ht => ?_
  have a1 : (fp f b).getD (t / 2) 0 = 0 := getD_out (by omega)
  have a2 : (fp f c).getD (t / 2) 0 = 0 := getD_out (by omega)
  rw [fp_get] at a1 a2
  have x := el_at af (2 * (t / 2))
  have y := el_at af (2 * (t / 2) + 1)
  have hy : f.getD (2 * (t / 2) + 1) 0 = 0 := by
    have h3 : cg (c * f.getD (2 * (t / 2) + 1) 0) ((b + 1) * f.getD (2 * (t / 2) + 1) 0) := hc.mul (cg.refl _)
    rw [Int.add_mul, Int.one_mul] at h3
    generalize f.getD (2 * (t / 2) + 1) 0 = Y at *
    generalize f.getD (2 * (t / 2)) 0 = X at *
    generalize b * Y = B at *
    generalize c * Y = C at *
    unfold cg at h3; omega
  rw [hy, Int.mul_zero, Int.add_zero] at a1
  have hx : f.getD (2 * (t / 2)) 0 = 0 := by omega
  rcases Nat.mod_two_eq_zero_or_one t with e | e
  · rw [show t = 2 * (t / 2) by omega]; exact hx
  · rw [show t = 2 * (t / 2) + 1 by omega]; exact hy
theorem fos_all (l : List Int) (s b : Int) : allEl (fos l s b) = true := all_tab fun i _ => by unfold foc fo; exact el_mod _
theorem fos_ok {l : List Int} {s b : Int} (h : foOk l s b = true) : frOk (fos l s b) (mul s s) = true := by
  obtain ⟨hp, al, h2, hb⟩ := foOk_parts h
  have hs := (ptOk_parts hp).2.1
  unfold frOk
  rw [fos_len, fos_all, mul_in hs hs, ptOk_half hp (two64_even (ptOk_parts hp).1 h2)]; rfl
/-- the way back from a fold -/
theorem fold_back {l : List Int} {s b : Int} (h : foOk l s b = true) : frv (fov l s b) (mul s s) = fp (frv l s) b := by
  have hf := foOk_fr h
  have hok := fos_ok h
  obtain ⟨hp, al, h2, hb⟩ := foOk_parts h
  have hs := (ptOk_parts hp).2.1
  have e := two64_even (ptOk_parts hp).1 h2
  rw [fov_in h, frv_in hok, frv_in hf]
  refine frs_unique hok (fp_all _ _) (fp_neat _ _) ?_ fun j hj => ?_
  · rw [fos_len]; refine fp_len ?_
    have := frs_len l s; omega
  · rw [fos_len] at hj ⊢
    rw [fp_ev, mul_in hs hs, ← sq_pt hp e j]
    unfold fos
    rw [tab_get _ _ _ hj, foc_val hf e hj]; rfl
theorem law_two {l : List Int} {s b c : Int} {k : Nat} (h1 : foOk l s b = true) (h2 : foOk l s c = true) (hc : cg c (b + 1)) :
    blw l s ((2 * k : Nat) : Int) = (blw (fov l s b) (mul s s) (k : Int) && blw (fov l s c) (mul s s) (k : Int)) := by
  have hf := foOk_fr h1
  have hpf := frv_poly hf
  unfold blw
  rw [hf, fov_in h1, fov_in h2, fos_ok h1, fos_ok h2, ← fov_in h1, ← fov_in h2, fold_back h1, fold_back h2]
  simp only [Bool.true_and]
  rw [← Bool.decide_and, decide_eq_decide]
  constructor
  · intro h
    have h' : (frv l s).length ≤ 2 * k := by omega
    have a1 := fp_len (b := b) h'
    have a2 := fp_len (b := c) h'
    omega
  · rintro ⟨a1, a2⟩
    have := fp_two (k := k) (neat_polyOk hpf) (polyOk_parts hpf).2 hc (by omega) (by omega)
    omega
end M
end Go.Proofs.Ytjeoenieoejolab
