/- Slices of numbers that are read: what it means that a slice shows a list of numbers, and the small loops that only read one. -/
import Derived.Test.YtfhknkppiidnkaaGreatFieldA
import Derived.Deep.QuietTactic
import Derived.BigQuiet
import Derived.WalkSpells
import Derived.OpenShut
import Derived.Maps.AppendAt
namespace Go.Proofs.YtfhknkppiidnkaaGreat
open Go.RowKit

/-- the slice (a, n, cap) shows the numbers zs -/
structure Sees (w : World) (a : Option Addr) (n cap : Nat) (zs : List Int) : Prop where
  len : zs.length = n
  le : n ≤ cap
  big : (cap : Int) ≤ 9223372036854775807
  no : a = none → n = 0 ∧ cap = 0
  pos : n = 0 ∨ ∃ b off, a = some ⟨b, off, none⟩ ∧ ∀ i, i < n → w.cell? ⟨b, off + i, none⟩ = some (.int .i64 (zs.getD i 0))

theorem Below.drewN' {B : Nat} {a w : World} (h : Below B a w) (n : Nat) : Below B a (w.drewN n) := ⟨h.os, h.tape, h.output, h.size, h.block⟩
theorem Sees.of_cells {w w' : World} {a : Option Addr} {n cap : Nat} {zs : List Int} (h : Sees w a n cap zs) (hc : ∀ (p : Addr) (v : Value), w.cell? p = some v → (∃ x, a = some x ∧ x.block = p.block) → w'.cell? p = some v) : Sees w' a n cap zs := by
  refine ⟨h.len, h.le, h.big, h.no, ?_⟩
  rcases h.pos with e | ⟨b, off, e, hb⟩
  · exact .inl e
  · exact .inr ⟨b, off, e, fun i hi => hc _ _ (hb i hi) ⟨_, e, rfl⟩⟩
theorem Sees.below {w w' : World} {a : Option Addr} {n cap : Nat} {zs : List Int} (h : Sees w a n cap zs) (hb : Below w.heap.size w w') : Sees w' a n cap zs :=
  h.of_cells fun p _ hp _ => (hb.cell (p := p) (World.block_lt_of_cell? w p hp)).trans hp
theorem Sees.drewN {w : World} {a : Option Addr} {n cap : Nat} {zs : List Int} (h : Sees w a n cap zs) (k : Nat) : Sees (w.drewN k) a n cap zs :=
  h.of_cells fun _ _ hp _ => hp
theorem Sees.nil {w : World} {a : Option Addr} {cap : Nat} {zs : List Int} (h : Sees w a 0 cap zs) : zs = [] := List.eq_nil_of_length_eq_zero h.len
theorem Sees.at {w : World} {a : Option Addr} {n cap : Nat} {zs : List Int} (h : Sees w a n cap zs) (h0 : 0 < n) : ∃ b off, a = some ⟨b, off, none⟩ ∧ ∀ i, i < n → w.cell? ⟨b, off + i, none⟩ = some (.int .i64 (zs.getD i 0)) := by
  rcases h.pos with e | e
  · omega
  · exact e

theorem eq_ne {zs ys : List Int} {k : Nat} (h : zs.getD k 0 ≠ ys.getD k 0) : zs ≠ ys := fun e => h (by rw [e])
theorem eq_all {zs ys : List Int} (hl : zs.length = ys.length) (h : ∀ i, i < zs.length → zs.getD i 0 = ys.getD i 0) : zs = ys := by
  apply List.ext_getElem hl
  intro i h1 h2
  have := h i h1
  simpa [List.getD_eq_getElem?_getD, List.getElem?_eq_getElem h1, List.getElem?_eq_getElem h2] using this
set_option maxHeartbeats 1000000 in
theorem eqS_any {a b : Option Addr} {n m c d : Nat} {zs ys : List Int} (w : World) (hz : Sees w a n c zs) (hy : Sees w b m d ys) :
    Calls Tryz.prog 38 #[.slice a n c, .slice b m d] w fun e w' => e = .returned (.bool (decide (zs = ys))) ∧ ∃ k, w' = w.drewN k := by
  have bn : (n : Int) ≤ 9223372036854775807 := by have := hz.big; have := hz.le; omega
  have bm : (m : Int) ≤ 9223372036854775807 := by have := hy.big; have := hy.le; omega
  by_cases hl : n = m
  · subst hl
    by_cases h0 : 0 < n
    · obtain ⟨b1, o1, rfl, hc1⟩ := hz.at h0
      obtain ⟨b2, o2, rfl, hc2⟩ := hy.at h0
      have L : Hid (zs.length = n ∧ ys.length = n) := ⟨hz.len, hy.len⟩
      have HC1 : Hid (∀ i, i < n → w.cell? ⟨b1, o1 + i, none⟩ = some (.int .i64 (zs.getD i 0))) := hc1
      have HC2 : Hid (∀ i, i < n → w.cell? ⟨b2, o2 + i, none⟩ = some (.int .i64 (ys.getD i 0))) := hc2
      have hne : ((n : Int) != (n : Int)) = false := by simp
      clear hz hy hc1 hc2
      go_enter Tryz.func38, Tryz.ntmps38
      go_wp2
      go_loopw [5] (fun i wr => ∃ k q : Nat, k ≤ n ∧ i = .int .i64 k ∧ wr = w.drewN q ∧ ∀ j, j < k → zs.getD j 0 = ys.getD j 0) (fun i _ => n - (intOf i).toNat)
      case atStart => exact ⟨0, 0, by omega, rfl, rfl, fun j h => by omega⟩
      case round =>
        obtain ⟨k, q, hk, rfl, rfl, hall⟩ := hrel
        have HA : Hid (∀ j, j < k → zs.getD j 0 = ys.getD j 0) := hall
        clear hall
        by_cases hlt : k < n
        · have c1 := HC1.out k hlt
          have c2 := HC2.out k hlt
          generalize hx : zs.getD k 0 = x at c1
          generalize hyy : ys.getD k 0 = y at c2
          have HX : Hid (zs.getD k 0 = x) := hx
          have HY : Hid (ys.getD k 0 = y) := hyy
          have hI : (k : Int) < (n : Int) := by omega
          clear hx hyy
          by_cases he : x = y
          · have hb : (x != y) = false := by simp [he]
            have HE : Hid (x = y) := he
            clear he
            go_wp2
            go_quiet (fail)
            go_wp2
            go_roundw
            case rel =>
              refine ⟨k + 1, _, by omega, by go_num, rfl, fun j hj => ?_⟩
              by_cases e : j = k
              · subst e; rw [HX.out, HY.out, HE.out]
              · exact HA.out j (by omega)
            case measure => simp [intOf]; omega
          · have hb : (x != y) = true := by simp [he]
            have HE : Hid (x ≠ y) := he
            clear he
            go_wp2
            go_quiet (fail)
            go_wp2
            go_ret
            refine ⟨ret_bool ?_, _, World.drewN_drewN _ _ _⟩
            exact (decide_eq_false (eq_ne (k := k) (by rw [HX.out, HY.out]; exact HE.out))).symm
        · have hkn : k = n := by omega
          have HK : Hid (k = n) := hkn
          clear hkn
          go_wp2
          go_ret
          refine ⟨ret_bool ?_, _, rfl⟩
          exact (decide_eq_true (eq_all (L.out.1.trans L.out.2.symm) (fun i hi => HA.out i (by rw [HK.out, ← L.out.1]; exact hi)))).symm
    · have e0 : n = 0 := by omega
      subst e0
      have e1 := hz.nil
      have e2 := hy.nil
      subst e1 e2
      clear hz hy
      go_enter Tryz.func38, Tryz.ntmps38
      go_wp2
      refine wp_loop_rounds 1 ?_
      rw [rounds_succ]
      go_wp2
      go_ret
      exact ⟨rfl, 0, rfl⟩
  · have hne : ((n : Int) != (m : Int)) = true := by simp; omega
    have E : Hid (zs ≠ ys) := by show zs ≠ ys; intro e; apply hl; rw [← hz.len, ← hy.len, e]
    clear hz hy
    go_enter Tryz.func38, Tryz.ntmps38
    go_wp2
    go_ret
    exact ⟨ret_bool (decide_eq_false E.out).symm, 0, rfl⟩
theorem eqS_same {a b : Option Addr} {n m c d : Nat} {zs : List Int} (w : World) (hz : Sees w a n c zs) (hy : Sees w b m d zs) :
    Calls Tryz.prog 38 #[.slice a n c, .slice b m d] w fun e w' => e = .returned (.bool true) ∧ ∃ k, w' = w.drewN k :=
  (eqS_any w hz hy).mono fun e w' ⟨he, hk⟩ => ⟨by rw [he]; simp, hk⟩
theorem eqS_yes {a b : Option Addr} {n m c d : Nat} {zs : List Int} (w : World) (hz : Sees w a n c zs) (hy : Sees w b m d zs) :
    Calls Tryz.prog 38 #[.slice a n c, .slice b m d] w fun e w' => e = .returned (.bool true) ∧ Below w.heap.size w w' :=
  (eqS_same w hz hy).mono fun e w' ⟨he, k, hk⟩ => ⟨he, by rw [hk]; exact Below.drewN' (Below.refl _ _) k⟩

def M.allEl (zs : List Int) : Bool := zs.all M.el
theorem M.all_take {zs : List Int} {k : Nat} (h : (zs.take k).all M.el = true) (hk : k < zs.length) (he : M.el (zs.getD k 0) = true) : (zs.take (k + 1)).all M.el = true := by
  rw [List.take_succ_eq_append_getElem hk, List.all_append, h]
  simpa [List.getD_eq_getElem?_getD, List.getElem?_eq_getElem hk] using he
theorem M.all_no {zs : List Int} {k : Nat} (hk : k < zs.length) (he : M.el (zs.getD k 0) = false) : M.allEl zs = false := by
  unfold M.allEl
  rw [List.all_eq_false]
  refine ⟨zs.getD k 0, ?_, by rw [he]; simp⟩
  rw [List.getD_eq_getElem?_getD, List.getElem?_eq_getElem hk]; exact List.getElem_mem _
set_option maxHeartbeats 1000000 in
theorem l1All_any {a : Option Addr} {n c : Nat} {zs : List Int} (w : World) (hz : Sees w a n c zs) :
    Calls Tryz.prog 124 #[.slice a n c] w fun e w' => e = .returned (.bool (M.allEl zs)) ∧ w' = w := by
  have bn : (n : Int) ≤ 9223372036854775807 := by have := hz.big; have := hz.le; omega
  have HZ : Hid (Sees w a n c zs) := hz
  clear hz
  go_enter Tryz.func124, Tryz.ntmps124
  go_wp2
  go_loop [3] (fun i => ∃ k : Nat, k ≤ n ∧ i = .int .i64 k ∧ (zs.take k).all M.el = true) (fun i => n - (intOf i).toNat)
  case atStart => exact ⟨0, by omega, rfl, rfl⟩
  case round =>
    obtain ⟨k, hk, rfl, hall⟩ := hrel
    have HA : Hid ((zs.take k).all M.el = true) := hall
    clear hall
    by_cases hlt : k < n
    · obtain ⟨b1, o1, rfl, hc1⟩ := HZ.out.at (by omega)
      have c1 := hc1 k hlt
      clear hc1
      generalize hx : zs.getD k 0 = x at c1
      have HX : Hid (zs.getD k 0 = x) := hx
      clear hx
      cases he : M.el x with
      | true =>
        go_wp2_with fail
        refine (l1F_any _ _).mono ?_
        rintro e w' ⟨rfl, rfl⟩
        have HE : Hid (M.el x = true) := he
        go_wp2
        go_round
        case rel => exact ⟨k + 1, by omega, by go_num, M.all_take HA.out (by rw [HZ.out.len]; exact hlt) (by rw [HX.out]; exact HE.out)⟩
        case measure => simp [intOf]; omega
      | false =>
        go_wp2_with fail
        refine (l1F_any _ _).mono ?_
        rintro e w' ⟨rfl, rfl⟩
        have HE : Hid (M.el x = false) := he
        go_wp2
        go_ret
        exact ⟨ret_bool (M.all_no (by rw [HZ.out.len]; exact hlt) (by rw [HX.out]; exact HE.out)).symm, rfl⟩
    · go_wp2
      go_ret
      refine ⟨ret_bool ?_, rfl⟩
      have h := HA.out
      rw [List.take_of_length_le (by rw [HZ.out.len]; omega)] at h
      exact h.symm
end Go.Proofs.YtfhknkppiidnkaaGreat
