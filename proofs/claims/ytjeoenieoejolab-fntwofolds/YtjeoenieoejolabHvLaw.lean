/- What the law of halves says, in plain terms; no program in sight. -/
import Derived.Test.YtjeoenieoejolabHvC
import Derived.Test.YtjeoenieoejolabTrD
import Derived.Test.YtjeoenieoejolabLawMath
namespace Go.Proofs.Ytjeoenieoejolab
namespace M
theorem ss_snoc (z : Nat → Int) (s c : Nat) (x : Int) : ∀ f, ss z f s (c + 1) x = ss z f s c x + x ^ c * z (f + s * c) := by
  induction c with
  | zero => intro f; simp [ss]
  | succ c ih =>
    intro f
    have e := ih (f + s)
    rw [show ss z f s (c + 1 + 1) x = z f + x * ss z (f + s) s (c + 1) x from rfl, e, show ss z f s (c + 1) x = z f + x * ss z (f + s) s c x from rfl, Int.pow_succ, show f + s + s * c = f + s * (c + 1) by grind]
    generalize ss z (f + s) s c x = A
    generalize x ^ c = B
    generalize z (f + s * (c + 1)) = C
    grind
theorem pv_tab (z : Nat → Int) (s : Nat) (X : Int) (K : Nat) : ∀ f, pv (tab K (fun i => z (f + s * i))) X = ss z f s K X := by
  induction K with
  | zero => intro f; rfl
  | succ K ih =>
    intro f
    rw [tab_succ]
    show z (f + s * 0) + X * pv (tab K (fun i => z (f + s * (i + 1)))) X = z f + X * ss z (f + s) s K X
    rw [← ih (f + s), Nat.mul_zero, Nat.add_zero, show (fun i => z (f + s * (i + 1))) = (fun i => z (f + s + s * i)) from funext fun i => by rw [show f + s * (i + 1) = f + s + s * i by grind]]
theorem halves_pv (zs : List Int) (x : Int) : pv zs x = pv (sec zs 0) (x * x) + x * pv (sec zs 1) (x * x) := by
  unfold sec
  rw [pv_tab (fun i => zs.getD i 0) 2 (x * x) _ 0, pv_tab (fun i => zs.getD i 0) 2 (x * x) _ 1]
  have hsp := ss_split (fun i => zs.getD i 0) 1 ((zs.length + 1) / 2) x 0
  rw [show secN zs.length 0 = (zs.length + 1) / 2 by unfold secN; omega]
  rcases Nat.mod_two_eq_zero_or_one zs.length with e | e
  · rw [show 2 * ((zs.length + 1) / 2) = zs.length by omega, pv_all] at hsp
    rw [show secN zs.length 1 = (zs.length + 1) / 2 by unfold secN; omega]
    exact hsp
  · rw [show 2 * ((zs.length + 1) / 2) = zs.length + 1 by omega, ss_snoc, pv_all] at hsp
    rw [show secN zs.length 1 = zs.length / 2 by unfold secN; omega]
    rw [show (zs.length + 1) / 2 = zs.length / 2 + 1 by omega] at hsp ⊢
    rw [ss_snoc (fun i => zs.getD i 0) (2 * 1) (zs.length / 2) (x * x) (0 + 1)] at hsp
    have z1 : zs.getD (0 + 1 * zs.length) 0 = 0 := getD_out (by omega)
    have z2 : zs.getD (0 + 1 + 2 * 1 * (zs.length / 2)) 0 = 0 := getD_out (by omega)
    rw [z1, z2, Int.mul_zero, Int.mul_zero, Int.add_zero, Int.add_zero] at hsp
    exact hsp
theorem halves_ev (zs : List Int) (x : Int) : ev zs x = (ev (sec zs 0) (x * x % 65537) + x * ev (sec zs 1) (x * x % 65537) % 65537) % 65537 := by
  rw [ev_pv, halves_pv]
  have h0 := (pv_cg (cg_mod (x * x)) (sec zs 0)).symm.trans (ev_cg (sec zs 0) (x * x % 65537)).symm
  have h1 := (pv_cg (cg_mod (x * x)) (sec zs 1)).symm.trans (ev_cg (sec zs 1) (x * x % 65537)).symm
  exact h0.add (((cg.refl x).mul h1).trans (cg_mod _).symm)
theorem sec_all {zs : List Int} (h : allEl zs = true) (f : Nat) : allEl (sec zs f) = true := all_tab fun _ _ => (el_iff _).2 (el_at h _)
theorem hv_poly {zs : List Int} (h : polyOk zs = true) (f : Nat) : polyOk (hv zs f) = true := by
  rw [hv_in h]
  have h1 := polyOk_parts h
  have h2 := sec_le zs (f := f)
  exact polyOk_mk (by omega) (all_trim (sec_all h1.2 f)) (neat_trim _)
theorem law_halves {zs : List Int} {x : Int} (h : polyOk zs = true) (hx : el x = true) : atv zs x = add (atv (hv zs 0) (mul x x)) (mul x (atv (hv zs 1) (mul x x))) := by
  have hxx : el (mul x x) = true := by rw [mul_in hx hx]; exact (el_iff _).2 ⟨by omega, by omega⟩
  rw [atv_in h hx, atv_in (hv_poly h 0) hxx, atv_in (hv_poly h 1) hxx, hv_in h, hv_in h, ev_trim, ev_trim, mul_in hx (el_ev _ _), add_in (el_ev _ _) ((el_iff _).2 ⟨by omega, by omega⟩), mul_in hx hx]
  exact halves_ev zs x
end M
end Go.Proofs.Ytjeoenieoejolab
