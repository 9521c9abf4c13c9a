/- Two lists of numbers held against each other by the laws. -/
import Derived.Test.YtjeoenieoejolabSlA
namespace Go.Proofs.Ytjeoenieoejolab
open Go.RowKit
theorem same_ne {zs ys : List Int} {k : Nat} (h : zs.getD k 0 ≠ ys.getD k 0) : zs ≠ ys := fun e => h (by rw [e])
theorem same_all {zs ys : List Int} (hl : zs.length = ys.length) (h : ∀ i, i < zs.length → zs.getD i 0 = ys.getD i 0) : zs = ys := by
  apply List.ext_getElem hl
  intro i h1 h2
  have := h i h1
  simpa [List.getD_eq_getElem?_getD, List.getElem?_eq_getElem h1, List.getElem?_eq_getElem h2] using this
set_option maxHeartbeats 1000000 in
theorem sameS_any {a b : Option Addr} {n m c d : Nat} {zs ys : List Int} (w : World) (hz : Sees w a n c zs) (hy : Sees w b m d ys) :
    Calls Try.prog 13 #[.slice a n c, .slice b m d] w fun e w' => e = .returned (.bool (decide (zs = ys))) ∧ ∃ k, w' = w.drewN k := by
  have bn : (n : Int) ≤ 9223372036854775807 := by have := hz.big; have := hz.le; omega
  have bm : (m : Int) ≤ 9223372036854775807 := by have := hy.big; have := hy.le; omega
  by_cases hl : n = m
  · subst hl
    by_cases h0 : 0 < n
    · obtain ⟨b1, o1, rfl, hc1⟩ := hz.at h0
      obtain ⟨b2, o2, rfl, hc2⟩ := hy.at h0
      have L : Hid (zs.length = n ∧ ys.length = n) := ⟨hz.len, hy.len⟩
      have HC1 : Hid (∀ i, i < n → w.cell? ⟨b1, o1 + i, none⟩ = some (.int .i64 (zs.getD i 0))) := hc1
      have HC2 : Hid (∀ i, i < n → w.cell? ⟨b2, o2 + i, none⟩ = some (.int .i64 (ys.getD i 0))) := hc2
      have hne : ((n : Int) != (n : Int)) = false := by simp
      clear hz hy hc1 hc2
      go_enter Try.func13, Try.ntmps13
      go_wp2
      go_loopw [5] (fun i wr => ∃ k q : Nat, k ≤ n ∧ i = .int .i64 k ∧ wr = w.drewN q ∧ ∀ j, j < k → zs.getD j 0 = ys.getD j 0) (fun i _ => n - (intOf i).toNat)
      case atStart => exact ⟨0, 0, by omega, rfl, rfl, fun j h => by omega⟩
      case round =>
        obtain ⟨k, q, hk, rfl, rfl, hall⟩ := hrel
        have HA : Hid (∀ j, j < k → zs.getD j 0 = ys.getD j 0) := hall
        clear hall
        by_cases hlt : k < n
        · have c1 := HC1.out k hlt
          have c2 := HC2.out k hlt
          generalize hx : zs.getD k 0 = x at c1
          generalize hyy : ys.getD k 0 = y at c2
          have HX : Hid (zs.getD k 0 = x) := hx
          have HY : Hid (ys.getD k 0 = y) := hyy
          have hI : (k : Int) < (n : Int) := by omega
          clear hx hyy
          by_cases he : x = y
          · have hb : (x != y) = false := by simp [he]
            have HE : Hid (x = y) := he
            clear he
            go_wp2
            go_quiet (fail)
            go_wp2
            go_roundw
            case rel =>
              refine ⟨k + 1, _, by omega, by go_num, rfl, fun j hj => ?_⟩
              by_cases e : j = k
              · subst e; rw [HX.out, HY.out, HE.out]
              · exact HA.out j (by omega)
            case measure => simp [intOf]; omega
          · have hb : (x != y) = true := by simp [he]
            have HE : Hid (x ≠ y) := he
            clear he
            go_wp2
            go_quiet (fail)
            go_wp2
            go_ret
            refine ⟨ret_bool ?_, _, World.drewN_drewN _ _ _⟩
            exact (decide_eq_false (same_ne (k := k) (by rw [HX.out, HY.out]; exact HE.out))).symm
        · have hkn : k = n := by omega
          have HK : Hid (k = n) := hkn
          clear hkn
          go_wp2
          go_ret
          refine ⟨ret_bool ?_, _, rfl⟩
          exact (decide_eq_true (same_all (L.out.1.trans L.out.2.symm) (fun i hi => HA.out i (by rw [HK.out, ← L.out.1]; exact hi)))).symm
    · have e0 : n = 0 := by omega
      subst e0
      have e1 := hz.nil
      have e2 := hy.nil
      subst e1 e2
      clear hz hy
      go_enter Try.func13, Try.ntmps13
      go_wp2
      refine wp_loop_rounds 1 ?_
      rw [rounds_succ]
      go_wp2
      go_ret
      exact ⟨rfl, 0, rfl⟩
  · have hne : ((n : Int) != (m : Int)) = true := by simp; omega
    have E : Hid (zs ≠ ys) := by show zs ≠ ys; intro e; apply hl; rw [← hz.len, ← hy.len, e]
    clear hz hy
    go_enter Try.func13, Try.ntmps13
    go_wp2
    go_ret
    exact ⟨ret_bool (decide_eq_false E.out).symm, 0, rfl⟩
theorem sameS_same {a b : Option Addr} {n m c d : Nat} {zs : List Int} (w : World) (hz : Sees w a n c zs) (hy : Sees w b m d zs) :
    Calls Try.prog 13 #[.slice a n c, .slice b m d] w fun e w' => e = .returned (.bool true) ∧ ∃ k, w' = w.drewN k :=
  (sameS_any w hz hy).mono fun e w' ⟨he, hk⟩ => ⟨by rw [he]; simp, hk⟩
theorem sameS_yes {a b : Option Addr} {n m c d : Nat} {zs : List Int} (w : World) (hz : Sees w a n c zs) (hy : Sees w b m d zs) :
    Calls Try.prog 13 #[.slice a n c, .slice b m d] w fun e w' => e = .returned (.bool true) ∧ Below w.heap.size w w' :=
  (sameS_same w hz hy).mono fun e w' ⟨he, k, hk⟩ => ⟨he, by rw [hk]; exact Below.drewN' (Below.refl _ _) k⟩

end Go.Proofs.Ytjeoenieoejolab
