/- The laws of sums and products, in the words of what the program answers; no program in sight. -/
import Derived.Test.YtbcfjbkmkknmfaaGreatDoorEvMath
import Derived.Test.YtbcfjbkmkknmfaaGreatDoorSlL
namespace Go.Proofs.YtbcfjbkmkknmfaaGreatDoor
namespace M
theorem both_mk {zs ys : List Int} (h1 : polyOk zs = true) (h2 : polyOk ys = true) : both zs ys = true := by unfold both; rw [h1, h2]; rfl
theorem coef_of {zs : List Int} (h : polyOk zs = true) : coefOk zs = true := by
  obtain ⟨a, b⟩ := polyOk_parts h
  unfold coefOk; rw [b]; simpa using a
theorem law_addOk {zs ys : List Int} (h1 : polyOk zs = true) (h2 : polyOk ys = true) : polyOk (addv zs ys) = true := by
  unfold addv; rw [if_pos (both_mk h1 h2)]
  have a := (polyOk_parts h1).1
  have b := (polyOk_parts h2).1
  refine polyOk_mk ?_ (all_trim (all_padd _ _)) (neat_trim _)
  have := len_trim (padd zs ys); rw [padd_len] at this; omega
theorem atv_in {zs : List Int} {x : Int} (h : polyOk zs = true) (hx : el x = true) : atv zs x = ev zs x := by
  unfold atv; rw [if_pos ⟨coef_of h, hx⟩]
theorem el_ev (zs : List Int) (x : Int) : el (ev zs x) = true := (el_iff _).2 (ev_bd zs x)
theorem law_add {zs ys : List Int} {x : Int} (h1 : polyOk zs = true) (h2 : polyOk ys = true) (hx : el x = true) : atv (addv zs ys) x = add (atv zs x) (atv ys x) := by
  rw [atv_in (law_addOk h1 h2) hx, atv_in h1 hx, atv_in h2 hx, add_in (el_ev _ _) (el_ev _ _)]
  unfold addv; rw [if_pos (both_mk h1 h2), ev_trim, ev_padd]
theorem mulOk_parts {zs ys : List Int} (h : mulOk zs ys = true) : polyOk zs = true ∧ polyOk ys = true ∧ zs.length + ys.length ≤ 129 := by
  unfold mulOk at h
  simp only [Bool.and_eq_true, decide_eq_true_eq] at h
  exact ⟨(both_parts h.1).1, (both_parts h.1).2, h.2⟩
theorem law_mulOk {zs ys : List Int} (h : mulOk zs ys = true) : polyOk (mulv zs ys) = true := by
  unfold mulv; rw [if_pos h]
  exact polyOk_mk (mulv_len h) (all_pmul _ _) (neat_pmul _ _)
theorem law_mul {zs ys : List Int} {x : Int} (h1 : polyOk zs = true) (h2 : polyOk ys = true) (hx : el x = true) (h : mulOk zs ys = true) : atv (mulv zs ys) x = mul (atv zs x) (atv ys x) := by
  rw [atv_in (law_mulOk h) hx, atv_in h1 hx, atv_in h2 hx, mul_in (el_ev _ _) (el_ev _ _)]
  unfold mulv; rw [if_pos h, ev_pmul]
theorem law_len {zs ys : List Int} (h1 : polyOk zs = true) (h2 : polyOk ys = true) (h : mulOk zs ys = true) (p1 : 0 < zs.length) (p2 : 0 < ys.length) : (mulv zs ys).length = zs.length + ys.length - 1 := by
  unfold mulv; rw [if_pos h]
  exact pmul_full (polyOk_parts h1).2 (polyOk_parts h2).2 (neat_polyOk h1) (neat_polyOk h2) p1 p2
end M
end Go.Proofs.YtbcfjbkmkknmfaaGreatDoor
