/- The law's marks, set in a slice of claims. -/
import Derived.Test.YtjeoenieoejolajClU
namespace Go.Proofs.Ytjeoenieoejolaj
open Go.RowKit

set_option maxHeartbeats 4000000 in
theorem markC_any {a : Option Addr} {n cap base : Nat} {cs : List M.Cl} (k : Int) (w : World) (ho : OwnsC 37 w base a n cap cs) (k0 : 0 ≤ k) (k1 : k ≤ 1000000) (hn : n ≤ 1000000) :
    Calls Try.prog 22 #[.slice a n cap, .int .i64 k] w fun e w' => e = .returned (.int .i64 (k + (n : Int) * 5)) ∧ SeesC w' a n cap (M.mkc k n) ∧ w.grownBy w' (Value.slice a n cap).ownBlock := by
  by_cases h0 : 0 < n
  · obtain ⟨g, rfl, hgb, hcap, hbig, hc⟩ := ho.block h0
    obtain ⟨vs0, hL, hlen⟩ := ho.lies
    have HL : Hid (Lies w g vs0 ∧ n * 5 ≤ vs0.length) := ⟨hL, hlen⟩
    have HCap : Hid (n ≤ cap ∧ (cap : Int) ≤ 9223372036854775807) := ⟨hcap, hbig⟩
    clear ho hc hbig hL hlen
    have hcI : (n : Int) ≤ cap := by omega
    go_enter Try.func22, Try.ntmps22
    go_wp2
    go_loopw [1, 5] (fun q i wr => ∃ (j : Nat) (vs : List Value), j ≤ n ∧ i = .int .i64 j ∧ q = .int .i64 (k + (j : Int) * 5) ∧ Lies wr g vs ∧ n * 5 ≤ vs.length ∧ (∀ i, i < j → ∀ q, q < 5 → vs[i * 5 + q]? = some (.int .i64 (k + (i : Int) * 5 + (q : Int)))) ∧ w.grownBy wr (some g)) (fun _ i _ => n - (intOf i).toNat)
    case atStart => exact ⟨0, vs0, by omega, rfl, by simp, HL.out.1, HL.out.2, fun i h => by omega, World.grownBy.refl _ _⟩
    case round =>
      obtain ⟨j, vs, hj, rfl, rfl, hL1, hl1, hm1, hg1⟩ := hrel
      have HL1 : Hid (Lies wr g vs) := hL1
      have HM1 : Hid (∀ i, i < j → ∀ q, q < 5 → vs[i * 5 + q]? = some (.int .i64 (k + (i : Int) * 5 + (q : Int)))) := hm1
      have HG1 : Hid (w.grownBy wr (some g)) := hg1
      clear hm1 hg1 HL
      by_cases hlt : j < n
      · have hI : (j : Int) < (n : Int) := by omega
        have hw0 : IntKind.i64.wrap (k + (j : Int) * 5) = k + (j : Int) * 5 := wrap_smallm (by omega) (by omega)
        have hw1 : IntKind.i64.wrap (k + (j : Int) * 5 + 1) = k + (j : Int) * 5 + 1 := wrap_smallm (by omega) (by omega)
        have hw2 : IntKind.i64.wrap (k + (j : Int) * 5 + 1 + 1) = k + (j : Int) * 5 + 1 + 1 := wrap_smallm (by omega) (by omega)
        have hw3 : IntKind.i64.wrap (k + (j : Int) * 5 + 1 + 1 + 1) = k + (j : Int) * 5 + 1 + 1 + 1 := wrap_smallm (by omega) (by omega)
        have hw4 : IntKind.i64.wrap (k + (j : Int) * 5 + 1 + 1 + 1 + 1) = k + (j : Int) * 5 + 1 + 1 + 1 + 1 := wrap_smallm (by omega) (by omega)
        have hw5 : IntKind.i64.wrap (k + (j : Int) * 5 + 1 + 1 + 1 + 1 + 1) = k + (j : Int) * 5 + 1 + 1 + 1 + 1 + 1 := wrap_smallm (by omega) (by omega)
        have e0 : wr.cell? ⟨g, j * 5, none⟩ = some (vs[j * 5 + 0]'(by omega)) := (hL1.at _).trans (List.getElem?_eq_getElem (by omega))
        have e1 : wr.cell? ⟨g, j * 5 + 1, none⟩ = some (vs[j * 5 + 1]'(by omega)) := (hL1.at _).trans (List.getElem?_eq_getElem (by omega))
        have e2 : wr.cell? ⟨g, j * 5 + 2, none⟩ = some (vs[j * 5 + 2]'(by omega)) := (hL1.at _).trans (List.getElem?_eq_getElem (by omega))
        have e3 : wr.cell? ⟨g, j * 5 + 2 + 1, none⟩ = some (vs[j * 5 + 3]'(by omega)) := (hL1.at _).trans (List.getElem?_eq_getElem (by omega))
        have e4 : wr.cell? ⟨g, j * 5 + 4, none⟩ = some (vs[j * 5 + 4]'(by omega)) := (hL1.at _).trans (List.getElem?_eq_getElem (by omega))
        have f0 : wr.frozen? ⟨g, j * 5, none⟩ = false := hL1.fr _
        have f1 : wr.frozen? ⟨g, j * 5 + 1, none⟩ = false := hL1.fr _
        have f2 : wr.frozen? ⟨g, j * 5 + 2, none⟩ = false := hL1.fr _
        have f3 : wr.frozen? ⟨g, j * 5 + 2 + 1, none⟩ = false := hL1.fr _
        have f4 : wr.frozen? ⟨g, j * 5 + 4, none⟩ = false := hL1.fr _
        generalize vs[j * 5 + 0]'(by omega) = u0 at e0
        generalize vs[j * 5 + 1]'(by omega) = u1 at e1
        generalize vs[j * 5 + 2]'(by omega) = u2 at e2
        generalize vs[j * 5 + 3]'(by omega) = u3 at e3
        generalize vs[j * 5 + 4]'(by omega) = u4 at e4
        have HL5 : Hid (n * 5 ≤ vs.length) := hl1
        clear hL1 hl1
        have e1_1 : (wr.setCell ⟨g, j * 5, none⟩ (.int .i64 (k + (j : Int) * 5))).cell? ⟨g, j * 5 + 1, none⟩ = some u1 := (set_ne _ _ _ _ _ (by omega)).trans e1
        have e2_1 : (wr.setCell ⟨g, j * 5, none⟩ (.int .i64 (k + (j : Int) * 5))).cell? ⟨g, j * 5 + 2, none⟩ = some u2 := (set_ne _ _ _ _ _ (by omega)).trans e2
        have e3_1 : (wr.setCell ⟨g, j * 5, none⟩ (.int .i64 (k + (j : Int) * 5))).cell? ⟨g, j * 5 + 2 + 1, none⟩ = some u3 := (set_ne _ _ _ _ _ (by omega)).trans e3
        have e4_1 : (wr.setCell ⟨g, j * 5, none⟩ (.int .i64 (k + (j : Int) * 5))).cell? ⟨g, j * 5 + 4, none⟩ = some u4 := (set_ne _ _ _ _ _ (by omega)).trans e4
        have f1_1 : (wr.setCell ⟨g, j * 5, none⟩ (.int .i64 (k + (j : Int) * 5))).frozen? ⟨g, j * 5 + 1, none⟩ = false := by simpa using f1
        have f2_1 : (wr.setCell ⟨g, j * 5, none⟩ (.int .i64 (k + (j : Int) * 5))).frozen? ⟨g, j * 5 + 2, none⟩ = false := by simpa using f2
        have f3_1 : (wr.setCell ⟨g, j * 5, none⟩ (.int .i64 (k + (j : Int) * 5))).frozen? ⟨g, j * 5 + 2 + 1, none⟩ = false := by simpa using f3
        have f4_1 : (wr.setCell ⟨g, j * 5, none⟩ (.int .i64 (k + (j : Int) * 5))).frozen? ⟨g, j * 5 + 4, none⟩ = false := by simpa using f4
        have e2_2 : ((wr.setCell ⟨g, j * 5, none⟩ (.int .i64 (k + (j : Int) * 5))).setCell ⟨g, j * 5 + 1, none⟩ (.int .i64 (k + (j : Int) * 5 + 1))).cell? ⟨g, j * 5 + 2, none⟩ = some u2 := (set_ne _ _ _ _ _ (by omega)).trans e2_1
        have e3_2 : ((wr.setCell ⟨g, j * 5, none⟩ (.int .i64 (k + (j : Int) * 5))).setCell ⟨g, j * 5 + 1, none⟩ (.int .i64 (k + (j : Int) * 5 + 1))).cell? ⟨g, j * 5 + 2 + 1, none⟩ = some u3 := (set_ne _ _ _ _ _ (by omega)).trans e3_1
        have e4_2 : ((wr.setCell ⟨g, j * 5, none⟩ (.int .i64 (k + (j : Int) * 5))).setCell ⟨g, j * 5 + 1, none⟩ (.int .i64 (k + (j : Int) * 5 + 1))).cell? ⟨g, j * 5 + 4, none⟩ = some u4 := (set_ne _ _ _ _ _ (by omega)).trans e4_1
        have f2_2 : ((wr.setCell ⟨g, j * 5, none⟩ (.int .i64 (k + (j : Int) * 5))).setCell ⟨g, j * 5 + 1, none⟩ (.int .i64 (k + (j : Int) * 5 + 1))).frozen? ⟨g, j * 5 + 2, none⟩ = false := by simpa using f2_1
        have f3_2 : ((wr.setCell ⟨g, j * 5, none⟩ (.int .i64 (k + (j : Int) * 5))).setCell ⟨g, j * 5 + 1, none⟩ (.int .i64 (k + (j : Int) * 5 + 1))).frozen? ⟨g, j * 5 + 2 + 1, none⟩ = false := by simpa using f3_1
        have f4_2 : ((wr.setCell ⟨g, j * 5, none⟩ (.int .i64 (k + (j : Int) * 5))).setCell ⟨g, j * 5 + 1, none⟩ (.int .i64 (k + (j : Int) * 5 + 1))).frozen? ⟨g, j * 5 + 4, none⟩ = false := by simpa using f4_1
        have e3_3 : (((wr.setCell ⟨g, j * 5, none⟩ (.int .i64 (k + (j : Int) * 5))).setCell ⟨g, j * 5 + 1, none⟩ (.int .i64 (k + (j : Int) * 5 + 1))).setCell ⟨g, j * 5 + 2, none⟩ (.int .i64 (k + (j : Int) * 5 + 1 + 1))).cell? ⟨g, j * 5 + 2 + 1, none⟩ = some u3 := (set_ne _ _ _ _ _ (by omega)).trans e3_2
        have e4_3 : (((wr.setCell ⟨g, j * 5, none⟩ (.int .i64 (k + (j : Int) * 5))).setCell ⟨g, j * 5 + 1, none⟩ (.int .i64 (k + (j : Int) * 5 + 1))).setCell ⟨g, j * 5 + 2, none⟩ (.int .i64 (k + (j : Int) * 5 + 1 + 1))).cell? ⟨g, j * 5 + 4, none⟩ = some u4 := (set_ne _ _ _ _ _ (by omega)).trans e4_2
        have f3_3 : (((wr.setCell ⟨g, j * 5, none⟩ (.int .i64 (k + (j : Int) * 5))).setCell ⟨g, j * 5 + 1, none⟩ (.int .i64 (k + (j : Int) * 5 + 1))).setCell ⟨g, j * 5 + 2, none⟩ (.int .i64 (k + (j : Int) * 5 + 1 + 1))).frozen? ⟨g, j * 5 + 2 + 1, none⟩ = false := by simpa using f3_2
        have f4_3 : (((wr.setCell ⟨g, j * 5, none⟩ (.int .i64 (k + (j : Int) * 5))).setCell ⟨g, j * 5 + 1, none⟩ (.int .i64 (k + (j : Int) * 5 + 1))).setCell ⟨g, j * 5 + 2, none⟩ (.int .i64 (k + (j : Int) * 5 + 1 + 1))).frozen? ⟨g, j * 5 + 4, none⟩ = false := by simpa using f4_2
        have e4_4 : ((((wr.setCell ⟨g, j * 5, none⟩ (.int .i64 (k + (j : Int) * 5))).setCell ⟨g, j * 5 + 1, none⟩ (.int .i64 (k + (j : Int) * 5 + 1))).setCell ⟨g, j * 5 + 2, none⟩ (.int .i64 (k + (j : Int) * 5 + 1 + 1))).setCell ⟨g, j * 5 + 2 + 1, none⟩ (.int .i64 (k + (j : Int) * 5 + 1 + 1 + 1))).cell? ⟨g, j * 5 + 4, none⟩ = some u4 := (set_ne _ _ _ _ _ (by omega)).trans e4_3
        have f4_4 : ((((wr.setCell ⟨g, j * 5, none⟩ (.int .i64 (k + (j : Int) * 5))).setCell ⟨g, j * 5 + 1, none⟩ (.int .i64 (k + (j : Int) * 5 + 1))).setCell ⟨g, j * 5 + 2, none⟩ (.int .i64 (k + (j : Int) * 5 + 1 + 1))).setCell ⟨g, j * 5 + 2 + 1, none⟩ (.int .i64 (k + (j : Int) * 5 + 1 + 1 + 1))).frozen? ⟨g, j * 5 + 4, none⟩ = false := by simpa using f4_3
        go_wp2
        go_roundw
        case rel =>
          obtain ⟨h5, hlo, hat⟩ := set5 (vs := vs) (p := j * 5) (by have := HL5.out; omega) (.int .i64 (k + (j : Int) * 5)) (.int .i64 (k + (j : Int) * 5 + 1)) (.int .i64 (k + (j : Int) * 5 + 1 + 1)) (.int .i64 (k + (j : Int) * 5 + 1 + 1 + 1)) (.int .i64 (k + (j : Int) * 5 + 1 + 1 + 1 + 1))
          have hl5 := HL5.out
          have hL2 := ((((HL1.out.set (j * 5) (by omega) (.int .i64 (k + (j : Int) * 5))).set (j * 5 + 1) (by simp; omega) (.int .i64 (k + (j : Int) * 5 + 1))).set (j * 5 + 2) (by simp; omega) (.int .i64 (k + (j : Int) * 5 + 1 + 1))).set (j * 5 + 3) (by simp; omega) (.int .i64 (k + (j : Int) * 5 + 1 + 1 + 1))).set (j * 5 + 4) (by simp; omega) (.int .i64 (k + (j : Int) * 5 + 1 + 1 + 1 + 1))
          refine ⟨j + 1, _, by omega, by go_num, congrArg (Value.int .i64) (by omega), hL2, by rw [h5]; exact hl5, fun i hi q hq => ?_, grown_set (grown_set (grown_set (grown_set (grown_set HG1.out))))⟩
          by_cases e : i = j
          · subst e
            rw [hat q hq]
            have : q = 0 ∨ q = 1 ∨ q = 2 ∨ q = 3 ∨ q = 4 := by omega
            rcases this with rfl | rfl | rfl | rfl | rfl <;> simp <;> omega
          · rw [hlo _ (by omega)]
            exact HM1.out i (by omega) q hq
        case measure => simp [intOf]; omega
      · have hjn : j = n := by omega
        subst hjn
        clear hL1 hl1
        go_wp2
        go_ret
        exact ⟨rfl, marks5 HL1.out HCap.out.1 HCap.out.2 HM1.out (k5 := 0) rfl, HG1.out⟩
  · obtain rfl : n = 0 := by omega
    have hs := ho.sees
    have HS : Hid (SeesC w a 0 cap (M.mkc k 0)) := ⟨rfl, hs.le, hs.big, hs.no, .inl rfl⟩
    clear ho hs
    go_enter Try.func22, Try.ntmps22
    go_wp2
    go_loop [1, 5] (fun q i => i = .int .i64 0 ∧ q = .int .i64 k) (fun _ _ => 0)
    case atStart => exact ⟨rfl, rfl⟩
    case round =>
      obtain ⟨rfl, rfl⟩ := hrel
      go_wp2
      go_ret
      exact ⟨by simp, HS.out, World.grownBy.refl _ _⟩
end Go.Proofs.Ytjeoenieoejolaj
