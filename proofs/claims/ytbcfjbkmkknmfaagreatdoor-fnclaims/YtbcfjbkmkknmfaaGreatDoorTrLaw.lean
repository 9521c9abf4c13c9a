/- What the laws of points and transforms say, in plain terms; no program in sight. -/
import Derived.Test.YtbcfjbkmkknmfaaGreatDoorTrH
import Derived.Test.YtbcfjbkmkknmfaaGreatDoorTrE
import Derived.Test.YtbcfjbkmkknmfaaGreatDoorRootsMath
import Derived.Test.YtbcfjbkmkknmfaaGreatDoorEvMath
import Derived.Test.YtbcfjbkmkknmfaaGreatDoorSlL
namespace Go.Proofs.YtbcfjbkmkknmfaaGreatDoor
namespace M
theorem cg_ne {a : Int} (h : el a = true) (h0 : a ≠ 0) : ¬ cg a 0 := by
  have := (el_iff a).1 h
  unfold cg; omega
theorem ptOk_two {n : Nat} {s : Int} (h : ptOk n s = true) : two (n : Int) = true := two64_two (ptOk_parts h).1
theorem pt_inj {n : Nat} {s : Int} (h : ptOk n s = true) {i j : Nat} (hij : i < j) (hj : j < n) : s * root n ^ i % 65537 ≠ s * root n ^ j % 65537 := by
  intro e
  obtain ⟨h1, h2, h3⟩ := ptOk_parts h
  have hs := cg_ne h2 h3
  have h0 : 0 < n := by omega
  have hw : ¬ cg (root n) 0 := cg_ne (root_el (ptOk_two h)) (root_ne (ptOk_two h) h0)
  obtain ⟨d, rfl⟩ : ∃ d, j = i + d := ⟨j - i, by omega⟩
  have e2 : cg (s * root n ^ i) (s * root n ^ (i + d)) := e
  have e3 : cg (s * root n ^ i * (root n ^ d - 1)) 0 := by
    have := cg_0sub e2.symm
    rw [Int.pow_add] at this
    refine cg.trans (cg_of_eq ?_) this
    generalize root n ^ i = A
    generalize root n ^ d = B
    grind
  have hne : ¬ cg (s * root n ^ i) 0 := fun e => pow_ne hw i (cg_zero e hs)
  exact root_ord (ptOk_two h) (by omega) (by omega) (cg_sub0 (cg_zero e3 hne))
theorem nodup_tab {N : Nat} {f : Nat → Int} (h : ∀ i j, i < j → j < N → f i ≠ f j) : (tab N f).Nodup := by
  unfold tab List.Nodup
  rw [List.pairwise_map]
  exact (List.pairwise_lt_range (n := N)).imp_of_mem fun _ hj hlt => h _ _ hlt (List.mem_range.1 hj)
theorem gp_nodup {n : Nat} {s : Int} (h : ptOk n s = true) : (gp s (root n) n).Nodup := nodup_tab fun _ _ hij hj => pt_inj h hij hj
theorem gp_get (s q : Int) (n i : Nat) (h : i < n) : (gp s q n).getD i 0 = s * q ^ i % 65537 := tab_get _ _ _ h
/-- the polynomial that FromEvals finds has the values -/
theorem frs_ev {v : List Int} {s : Int} (h : frOk v s = true) {j : Nat} (hj : j < v.length) : ev (frs v s) (s * root v.length ^ j % 65537) = v.getD j 0 := by
  obtain ⟨hp, ha⟩ : ptOk v.length s = true ∧ allEl v = true := by unfold frOk at h; simpa using h
  obtain ⟨h1, h2, h3⟩ := ptOk_parts hp
  have h0 : 0 < v.length := by omega
  have hb := two64_bd h1
  have hw : ¬ cg (root v.length) 0 := cg_ne (root_el (ptOk_two hp)) (root_ne (ptOk_two hp) h0)
  have hn : ¬ cg (v.length : Int) 0 := by unfold cg; omega
  have key := interp (n := v.length) (l := v) (out := tab v.length (frc v s)) (s := s) (si := pw s 65535) (w := root v.length) (wi := pw (root v.length) 65535) (ni := pw v.length 65535) rfl (tab_len _ _) (cg_inv (cg_ne h2 h3)) (cg_inv hw) (by rw [Int.mul_comm]; exact cg_inv hn) (root_n (ptOk_two hp)) (fun d a b => root_ord (ptOk_two hp) a b) (fun k hk => by
    rw [tab_get _ _ _ hk]
    unfold frc
    refine (cg_mod _).trans (((cg_mod _).mul (cg_mod _)).trans (cg_of_eq ?_))
    exact Int.mul_comm _ _) hj
  unfold frs
  rw [ev_trim, ev_pv]
  have e1 := pv_cg (cg_mod (s * root v.length ^ j)) (tab v.length (frc v s))
  have e2 := e1.trans key
  have hv := el_at ha j
  unfold cg at e2
  omega
theorem frs_all (v : List Int) (s : Int) : allEl (frs v s) = true := all_trim (all_tab fun i _ => (el_iff _).2 ⟨by unfold frc; omega, by unfold frc; omega⟩)
theorem frs_neat (v : List Int) (s : Int) : neat (frs v s) := neat_trim _
theorem frOk_parts {v : List Int} {s : Int} (h : frOk v s = true) : ptOk v.length s = true ∧ allEl v = true := by unfold frOk at h; simpa using h
theorem frs_unique {v f : List Int} {s : Int} (h : frOk v s = true) (af : allEl f = true) (nf : neat f) (lf : f.length ≤ v.length) (he : ∀ j, j < v.length → ev f (s * root v.length ^ j % 65537) = v.getD j 0) : frs v s = f := by
  refine interp_unique (xs := gp s (root v.length) v.length) (frs_neat _ _) nf (frs_all _ _) af (by rw [gp_len]; exact frs_len _ _) (by rw [gp_len]; exact lf) (gp_nodup (frOk_parts h).1) fun x hx => ?_
  obtain ⟨j, hj, rfl⟩ := List.mem_map.1 hx
  have hj' := List.mem_range.1 hj
  refine ⟨by omega, by omega, ?_⟩
  rw [frs_ev h hj', he j hj']
end M
end Go.Proofs.YtbcfjbkmkknmfaaGreatDoor
