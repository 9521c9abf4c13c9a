/- What the laws of points and transforms say, in plain terms; no program in sight. -/
import Derived.Test.YtbcfjbkmkknmfaaGreatDoorTrH
import Derived.Test.YtbcfjbkmkknmfaaGreatDoorTrE
import Derived.Test.YtbcfjbkmkknmfaaGreatDoorRootsMath
import Derived.Test.YtbcfjbkmkknmfaaGreatDoorLawMath
namespace Go.Proofs.YtbcfjbkmkknmfaaGreatDoor
namespace M
theorem cg_ne {a : Int} (h : el a = true) (h0 : a ≠ 0) : ¬ cg a 0 := by
  have := (el_iff a).1 h
  unfold cg; omega
theorem ptOk_two {n : Nat} {s : Int} (h : ptOk n s = true) : two (n : Int) = true := two64_two (ptOk_parts h).1
theorem pt_inj {n : Nat} {s : Int} (h : ptOk n s = true) {i j : Nat} (hij : i < j) (hj : j < n) : s * root n ^ i % 65537 ≠ s * root n ^ j % 65537 := by
  intro e
  obtain ⟨h1, h2, h3⟩ := ptOk_parts h
  have hs := cg_ne h2 h3
  have h0 : 0 < n := by omega
  have hw : ¬ cg (root n) 0 := cg_ne (root_el (ptOk_two h)) (root_ne (ptOk_two h) h0)
  obtain ⟨d, rfl⟩ : ∃ d, j = i + d := ⟨j - i, by omega⟩
  have e2 : cg (s * root n ^ i) (s * root n ^ (i + d)) := e
  have e3 : cg (s * root n ^ i * (root n ^ d - 1)) 0 := by
    have := cg_0sub e2.symm
    rw [Int.pow_add] at this
    refine cg.trans (cg_of_eq ?_) this
    generalize root n ^ i = A
    generalize root n ^ d = B
    grind
  have hne : ¬ cg (s * root n ^ i) 0 := fun e => pow_ne hw i (cg_zero e hs)
  exact root_ord (ptOk_two h) (by omega) (by omega) (cg_sub0 (cg_zero e3 hne))
theorem nodup_tab {N : Nat} {f : Nat → Int} (h : ∀ i j, i < j → j < N → f i ≠ f j) : (tab N f).Nodup := by
  unfold tab List.Nodup
  rw [List.pairwise_map]
  exact (List.pairwise_lt_range (n := N)).imp_of_mem fun _ hj hlt => h _ _ hlt (List.mem_range.1 hj)
theorem gp_nodup {n : Nat} {s : Int} (h : ptOk n s = true) : (gp s (root n) n).Nodup := nodup_tab fun _ _ hij hj => pt_inj h hij hj
theorem gp_get (s q : Int) (n i : Nat) (h : i < n) : (gp s q n).getD i 0 = s * q ^ i % 65537 := tab_get _ _ _ h
/-- FnPoints: the same power -/
theorem pt_pow {n : Nat} {s : Int} (h : ptOk n s = true) {i : Nat} : pow (s * root n ^ i % 65537) n = pow s n := by
  obtain ⟨h1, h2, h3⟩ := ptOk_parts h
  rw [pow_in ((el_iff _).2 ⟨by omega, by omega⟩) (by omega), pow_in h2 (by omega), Int.toNat_natCast]
  have e : cg ((s * root n ^ i % 65537) ^ n) (s ^ n) := by
    refine ((cg_mod _).pow n).trans ?_
    rw [Int.mul_pow, ← Int.pow_mul, Nat.mul_comm, Int.pow_mul]
    have := (cg.refl (s ^ n)).mul ((root_n (ptOk_two h)).pow i)
    rw [Int.one_pow, Int.mul_one] at this; exact this
  exact e
/-- FnPoints: the other side -/
theorem pt_opp {n m i j : Nat} {s : Int} (h : ptOk n s = true) (e : n = 2 * m) (hj : j = (i + m) % n) : s * root n ^ j % 65537 = sub 0 (s * root n ^ i % 65537) := by
  rw [sub_in (by decide) ((el_iff _).2 ⟨by omega, by omega⟩)]
  have h1 : cg (root n ^ j) (root n ^ (i + m)) := by rw [hj]; exact (pow_wrap (root_n (ptOk_two h)) (i + m)).symm
  have h2 : cg (root n ^ (i + m)) (-(root n ^ i)) := by
    rw [Int.pow_add]
    have := (cg.refl (root n ^ i)).mul (root_h (ptOk_two h) e)
    rw [Int.mul_neg, Int.mul_one] at this; exact this
  have h3 := (cg.refl s).mul (h1.trans h2)
  rw [Int.mul_neg] at h3
  have h4 : cg (0 + 65537 - s * root n ^ i % 65537) (-(s * root n ^ i)) := by
    generalize s * root n ^ i = A
    unfold cg; omega
  exact h3.trans h4.symm
/-- the polynomial that FromEvals finds has the values -/
theorem frs_ev {v : List Int} {s : Int} (h : frOk v s = true) {j : Nat} (hj : j < v.length) : ev (frs v s) (s * root v.length ^ j % 65537) = v.getD j 0 := by
  obtain ⟨hp, ha⟩ : ptOk v.length s = true ∧ allEl v = true := by unfold frOk at h; simpa using h
  obtain ⟨h1, h2, h3⟩ := ptOk_parts hp
  have h0 : 0 < v.length := by omega
  have hb := two64_bd h1
  have hw : ¬ cg (root v.length) 0 := cg_ne (root_el (ptOk_two hp)) (root_ne (ptOk_two hp) h0)
  have hn : ¬ cg (v.length : Int) 0 := by unfold cg; omega
  have key := interp (n := v.length) (l := v) (out := tab v.length (frc v s)) (s := s) (si := pw s 65535) (w := root v.length) (wi := pw (root v.length) 65535) (ni := pw v.length 65535) rfl (tab_len _ _) (cg_inv (cg_ne h2 h3)) (cg_inv hw) (by rw [Int.mul_comm]; exact cg_inv hn) (root_n (ptOk_two hp)) (fun d a b => root_ord (ptOk_two hp) a b) (fun k hk => by
    rw [tab_get _ _ _ hk]
    unfold frc
    refine (cg_mod _).trans (((cg_mod _).mul (cg_mod _)).trans (cg_of_eq ?_))
    exact Int.mul_comm _ _) hj
  unfold frs
  rw [ev_trim, ev_pv]
  have e1 := pv_cg (cg_mod (s * root v.length ^ j)) (tab v.length (frc v s))
  have e2 := e1.trans key
  have hv := el_at ha j
  unfold cg at e2
  omega
theorem frs_all (v : List Int) (s : Int) : allEl (frs v s) = true := all_trim (all_tab fun i _ => (el_iff _).2 ⟨by unfold frc; omega, by unfold frc; omega⟩)
theorem frs_neat (v : List Int) (s : Int) : neat (frs v s) := neat_trim _
theorem frOk_parts {v : List Int} {s : Int} (h : frOk v s = true) : ptOk v.length s = true ∧ allEl v = true := by unfold frOk at h; simpa using h
theorem frv_poly {v : List Int} {s : Int} (h : frOk v s = true) : polyOk (frv v s) = true := by
  rw [frv_in h]
  have h1 := frs_len v s
  have h2 := two64_bd (ptOk_parts (frOk_parts h).1).1
  exact polyOk_mk (by omega) (frs_all _ _) (frs_neat _ _)
/-- FnTransforms: there and back -/
theorem fr_back {v : List Int} {s : Int} (h : frOk v s = true) : evv (frv v s) v.length s = v := by
  obtain ⟨hp, ha⟩ := frOk_parts h
  have hok : evOk (frv v s) v.length s = true := by unfold evOk; rw [frv_poly h, hp]; rfl
  rw [evv_in hok, Int.toNat_natCast, frv_in h]
  unfold evs
  symm
  exact tab_ext rfl fun j hj => (frs_ev h hj).symm
theorem fr_out {v : List Int} {s : Int} (h : frOk v s = false) : frv v s = [] := frv_out h
theorem evs_frOk {zs : List Int} {n : Nat} {s : Int} (h : evOk zs n s = true) : frOk (evv zs n s) s = true := by
  obtain ⟨h1, h2⟩ := evOk_parts h
  rw [evv_in h, Int.toNat_natCast]
  unfold frOk
  rw [evs_len, h2, evs_all]; rfl
theorem frs_unique {v f : List Int} {s : Int} (h : frOk v s = true) (af : allEl f = true) (nf : neat f) (lf : f.length ≤ v.length) (he : ∀ j, j < v.length → ev f (s * root v.length ^ j % 65537) = v.getD j 0) : frs v s = f := by
  refine interp_unique (xs := gp s (root v.length) v.length) (frs_neat _ _) nf (frs_all _ _) af (by rw [gp_len]; exact frs_len _ _) (by rw [gp_len]; exact lf) (gp_nodup (frOk_parts h).1) fun x hx => ?_
  obtain ⟨j, hj, rfl⟩ := List.mem_map.1 hx
  have hj' := List.mem_range.1 hj
  refine ⟨by omega, by omega, ?_⟩
  rw [frs_ev h hj', he j hj']
theorem ev_back {zs : List Int} {n : Nat} {s : Int} (h : evOk zs n s = true) (hl : zs.length ≤ n) : frv (evv zs n s) s = zs := by
  obtain ⟨h1, h2⟩ := evOk_parts h
  have hok := evs_frOk h
  rw [frv_in hok]
  have hlen : (evv zs n s).length = n := by rw [evv_in h, Int.toNat_natCast, evs_len]
  refine frs_unique hok (polyOk_parts h1).2 (neat_polyOk h1) (by omega) fun j hj => ?_
  rw [hlen] at hj ⊢
  rw [evv_in h, Int.toNat_natCast]
  unfold evs
  rw [tab_get _ _ _ hj]
theorem ev_at {zs : List Int} {n i : Nat} {s : Int} (h : evOk zs n s = true) (hi : i < n) : (evv zs n s).getD i 0 = atv zs ((ptv n s).getD i 0) := by
  obtain ⟨h1, h2⟩ := evOk_parts h
  rw [evv_in h, ptv_in h2, Int.toNat_natCast]
  unfold evs
  rw [tab_get _ _ _ hi, gp_get _ _ _ _ hi, atv_in h1 ((el_iff _).2 ⟨by omega, by omega⟩)]
theorem evv_len {zs : List Int} {n : Nat} {s : Int} (h : evOk zs n s = true) : (evv zs n s).length = n := by rw [evv_in h, Int.toNat_natCast, evs_len]
theorem ptv_len {n : Nat} {s : Int} (h : ptOk n s = true) : (ptv n s).length = n := by rw [ptv_in h, Int.toNat_natCast, gp_len]
end M
end Go.Proofs.YtbcfjbkmkknmfaaGreatDoor
