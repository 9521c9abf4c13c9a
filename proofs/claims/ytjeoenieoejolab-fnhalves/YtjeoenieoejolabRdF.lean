/- What is drawn for the laws of transforms and folds: numbers, shifts, lists in memory of their own. -/
import Derived.Test.YtjeoenieoejolabRdD
namespace Go.Proofs.Ytjeoenieoejolab
open Go.RowKit

theorem Row.below {w0 w : World} {a : Option Addr} {len cap : Nat} {zs : List Int} (h : Row .u8 w0 a len cap zs) (hb0 : Below w0.heap.size w0 w) : Row .u8 w a len cap zs := by
  rcases h with h | ⟨x, e, hl, hm, hz, hc, hw⟩
  · exact .inl h
  · exact .inr ⟨x, e, hl, hm, hz, fun i hi => (hb0.cell (p := x.add i) (World.block_lt_of_cell? w0 _ (hc i hi))).trans (hc i hi), hw⟩
theorem shl_bd (v : Int) (v0 : 0 ≤ v) (v1 : v < 5) : v = 0 ∨ v = 1 ∨ v = 2 ∨ v = 3 ∨ v = 4 := by omega
set_option maxHeartbeats 2000000 in
theorem points_any {w0 : World} {R : Nat} {a : Option Addr} {len cap : Nat} {zs : List Int} (hrow : Row .u8 w0 a len cap zs) (w : World) (h : Rd w0 R a len cap w) :
    Calls Try.prog 48 #[.pointer (some ⟨R, 0, none⟩)] w fun e w' => ∃ v : Int, -9223372036854775808 ≤ v ∧ v ≤ 9223372036854775807 ∧ e = .returned (.int .i64 v) ∧ Rd w0 R a len cap w' ∧ w.grownBy w' (some R) := by
  have HR : Hid (Row .u8 w0 a len cap zs) := hrow
  have H : Hid (Rd w0 R a len cap w) := h
  clear hrow h
  go_enter Try.func48, Try.ntmps48
  go_wp2_with fail
  refine (once_any HR.out 20 (by omega) (by omega) _ H.out).mono ?_
  rintro e w1 ⟨q, rfl, hr1, hg1⟩
  have HR1 : Hid (Rd w0 R a len cap w1) := hr1
  have HG1 : Hid (w.grownBy w1 (some R)) := hg1
  clear hr1 hg1
  cases q with
  | true =>
    go_wp2_with fail
    refine (off_any HR.out 0 65 (by omega) (by omega) (by omega) _ HR1.out).mono ?_
    rintro e w2 ⟨v, v0, v1, rfl, hr2, hg2⟩
    have HR2 : Hid (Rd w0 R a len cap w2) := hr2
    have HG2 : Hid (w.grownBy w2 (some R)) := HG1.out.trans hg2
    clear hr2 hg2
    go_wp2
    go_ret
    exact ⟨v, v0, v1, rfl, HR2.out, HG2.out⟩
  | false =>
    go_wp2_with fail
    refine (below_any HR.out 5 (by omega) (by omega) _ HR1.out).mono ?_
    rintro e w2 ⟨v, v0, v1, rfl, hr2, hg2⟩
    have HR2 : Hid (Rd w0 R a len cap w2) := hr2
    have HG2 : Hid (w.grownBy w2 (some R)) := HG1.out.trans hg2
    clear hr2 hg2
    rcases shl_bd v v0 v1 with e | e | e | e | e <;> subst e <;> clear v0 v1 <;> (go_wp2; go_ret; exact ⟨_, by omega, by omega, rfl, HR2.out, HG2.out⟩)
theorem six_bd (v : Int) (v0 : 0 ≤ v) (v1 : v < 6) : v = 0 ∨ v = 1 ∨ v = 2 ∨ v = 3 ∨ v = 4 ∨ v = 5 := by omega
set_option maxHeartbeats 2000000 in
theorem shift_any {w0 : World} {R : Nat} {a : Option Addr} {len cap : Nat} {zs : List Int} (hrow : Row .u8 w0 a len cap zs) (w : World) (h : Rd w0 R a len cap w) :
    Calls Try.prog 49 #[.pointer (some ⟨R, 0, none⟩)] w fun e w' => ∃ v : Int, 0 ≤ v ∧ v ≤ 65536 ∧ e = .returned (.int .i64 v) ∧ Rd w0 R a len cap w' ∧ w.grownBy w' (some R) := by
  have HR : Hid (Row .u8 w0 a len cap zs) := hrow
  have HRa : Hid (Rd w0 R a len cap (w.alloc (.cells #[.int .i64 1, .int .i64 3, .int .i64 9, .int .i64 5, .int .i64 65536, .int .i64 0] 2))) := h.alloc _
  have hRlt := h.hi
  clear hrow h
  go_enter Try.func49, Try.ntmps49
  go_wp2_with fail
  refine (below_any HR.out 6 (by omega) (by omega) _ HRa.out).mono ?_
  rintro e w1 ⟨v, v0, v1, rfl, hr1, hg1⟩
  have HR1 : Hid (Rd w0 R a len cap w1) := hr1
  have HG1 : Hid (w.grownBy w1 (some R)) := grown_alloc_then hg1
  have hk : ∀ j u, (#[Value.int .i64 1, .int .i64 3, .int .i64 9, .int .i64 5, .int .i64 65536, .int .i64 0] : Array Value)[j]? = some u → w1.cell? ⟨w.heap.size, j, none⟩ = some u := fun j u hj => hg1.cell (alloc_cell w _ 2 j u hj) (by simp; omega)
  have k0 := hk 0 _ rfl
  have k1 := hk 1 _ rfl
  have k2 := hk 2 _ rfl
  have k3 := hk 3 _ rfl
  have k4 := hk 4 _ rfl
  have k5 := hk 5 _ rfl
  clear hr1 hg1 hk
  rcases six_bd v v0 v1 with e | e | e | e | e | e <;> subst e <;> clear v0 v1 <;> (go_wp2; go_ret; exact ⟨_, by omega, by omega, rfl, HR1.out, HG1.out⟩)
set_option maxHeartbeats 1000000 in
theorem drawPoints_any {a : Option Addr} {len cap : Nat} {zs : List Int} (w0 w : World) (hrow : Row .u8 w0 a len cap zs) (hb0 : Below w0.heap.size w0 w) :
    Calls Try.prog 19 #[.slice a len cap] w fun e w' => ∃ n s : Int, -9223372036854775808 ≤ n ∧ n ≤ 9223372036854775807 ∧ 0 ≤ s ∧ s ≤ 65536 ∧ e = .returned (.tuple #[.int .i64 n, .int .i64 s]) ∧ Below w.heap.size w w' := by
  have HR : Hid (Row .u8 w a len cap zs) := hrow.below hb0
  clear hrow hb0
  go_enter Try.func19, Try.ntmps19
  go_wp2_with fail
  refine (open_any _).mono ?_
  rintro e w1 ⟨rfl, hr⟩
  have HR1 : Hid (Rd w w.heap.size a len cap w1) := hr
  clear hr
  go_wp2_with fail
  refine (points_any HR.out _ HR1.out).mono ?_
  rintro e w2 ⟨n, n0, n1, rfl, hr, hg⟩
  have HR2 : Hid (Rd w w.heap.size a len cap w2) := hr
  clear hr hg
  go_wp2_with fail
  refine (shift_any HR.out _ HR2.out).mono ?_
  rintro e w3 ⟨s, s0, s1, rfl, hr, hg⟩
  have HR3 : Hid (Rd w w.heap.size a len cap w3) := hr
  clear hr hg
  go_wp2
  go_ret2
  exact ⟨n, s, n0, n1, s0, s1, rfl, HR3.out.below⟩
set_option maxHeartbeats 1000000 in
theorem drawEvals_any {a : Option Addr} {len cap : Nat} {zs : List Int} (w0 w : World) (hrow : Row .u8 w0 a len cap zs) (hb0 : Below w0.heap.size w0 w) :
    Calls Try.prog 10 #[.slice a len cap] w fun e w' => ∃ (b : Option Addr) (l c : Nat) (zs : List Int) (n s : Int), -9223372036854775808 ≤ n ∧ n ≤ 9223372036854775807 ∧ 0 ≤ s ∧ s ≤ 65536 ∧ e = .returned (.tuple #[.slice b l c, .int .i64 n, .int .i64 s]) ∧ l ≤ 9 ∧ Owns 2 w' w.heap.size b l c zs ∧ Below w.heap.size w w' := by
  have HR : Hid (Row .u8 w a len cap zs) := hrow.below hb0
  clear hrow hb0
  go_enter Try.func10, Try.ntmps10
  go_wp2_with fail
  refine (open_any _).mono ?_
  rintro e w1 ⟨rfl, hr⟩
  have HR1 : Hid (Rd w w.heap.size a len cap w1) := hr
  clear hr
  go_wp2_with fail
  refine (poly_any HR.out 9 (by omega) _ HR1.out).mono ?_
  rintro e w2 ⟨b, l, c, ys, rfl, hl, ho, hr, hg⟩
  have HR2 : Hid (Rd w w.heap.size a len cap w2) := hr
  have HO2 : Hid (Owns 2 w2 w1.heap.size b l c ys) := ho
  clear hr hg ho
  go_wp2_with fail
  refine (points_any HR.out _ HR2.out).mono ?_
  rintro e w3 ⟨n, n0, n1, rfl, hr, hg⟩
  have HR3 : Hid (Rd w w.heap.size a len cap w3) := hr
  have HO3 : Hid (Owns 2 w3 w1.heap.size b l c ys) := HO2.out.keepR hg (HO2.out.past HR1.out.hi)
  clear hr hg
  go_wp2_with fail
  refine (shift_any HR.out _ HR3.out).mono ?_
  rintro e w4 ⟨s, s0, s1, rfl, hr, hg⟩
  have HR4 : Hid (Rd w w.heap.size a len cap w4) := hr
  have HO4 : Hid (Owns 2 w4 w.heap.size b l c ys) := (HO3.out.keepR hg (HO3.out.past HR1.out.hi)).mono HR1.out.below.size
  clear hr hg
  go_wp2
  go_ret3
  exact ⟨b, l, c, ys, n, s, n0, n1, s0, s1, rfl, hl, HO4.out, HR4.out.below⟩
set_option maxHeartbeats 1000000 in
theorem drawHalves_any {a : Option Addr} {len cap : Nat} {zs : List Int} (w0 w : World) (hrow : Row .u8 w0 a len cap zs) (hb0 : Below w0.heap.size w0 w) :
    Calls Try.prog 23 #[.slice a len cap] w fun e w' => ∃ b l c zs, e = .returned (.slice b l c) ∧ l ≤ 11 ∧ Owns 2 w' w.heap.size b l c zs ∧ Below w.heap.size w w' := by
  have HR : Hid (Row .u8 w a len cap zs) := hrow.below hb0
  clear hrow hb0
  go_enter Try.func23, Try.ntmps23
  go_wp2_with fail
  refine (open_any _).mono ?_
  rintro e w1 ⟨rfl, hr⟩
  have HR1 : Hid (Rd w w.heap.size a len cap w1) := hr
  clear hr
  go_wp2_with fail
  refine (poly_any HR.out 11 (by omega) _ HR1.out).mono ?_
  rintro e w2 ⟨b, l, c, ys, rfl, hl, ho, hr, hg⟩
  have HR2 : Hid (Rd w w.heap.size a len cap w2) := hr
  have HO2 : Hid (Owns 2 w2 w.heap.size b l c ys) := ho.mono HR1.out.below.size
  clear hr hg ho
  go_wp2
  go_ret
  exact ⟨b, l, c, ys, rfl, hl, HO2.out, HR2.out.below⟩
set_option maxHeartbeats 2000000 in
theorem drawFrom_any {a : Option Addr} {len cap : Nat} {zs : List Int} (w0 w : World) (hrow : Row .u8 w0 a len cap zs) (hb0 : Below w0.heap.size w0 w) :
    Calls Try.prog 17 #[.slice a len cap] w fun e w' => ∃ (b : Option Addr) (l c : Nat) (zs : List Int) (s : Int), 0 ≤ s ∧ s ≤ 65536 ∧ e = .returned (.tuple #[.slice b l c, .int .i64 s]) ∧ l ≤ 70 ∧ Owns 2 w' w.heap.size b l c zs ∧ Below w.heap.size w w' := by
  have HR : Hid (Row .u8 w a len cap zs) := hrow.below hb0
  obtain ⟨i0, hi, hz0, hz1, hz2⟩ := info_parts info_i64
  have HI : Hid (Try.prog.info? 2 = some i0 ∧ i0.zero = some (Value.int .i64 0) ∧ i0.size = 1 ∧ i0.bytes = 8) := ⟨hi, hz0, hz1, hz2⟩
  clear hrow hb0 hi hz0 hz1 hz2
  go_enter Try.func17, Try.ntmps17
  go_wp2_with fail
  refine (open_any _).mono ?_
  rintro e w1 ⟨rfl, hr⟩
  have HR1 : Hid (Rd w w.heap.size a len cap w1) := hr
  clear hr
  go_wp2_with fail
  refine (points_any HR.out _ HR1.out).mono ?_
  rintro e w2 ⟨n, n0, n1, rfl, hr, hg⟩
  have HR2 : Hid (Rd w w.heap.size a len cap w2) := hr
  have HR2a : Hid (Rd w w.heap.size a len cap (w2.alloc (.cells #[] 2))) := hr.alloc _
  have HO2 : Hid (Owns 2 (w2.alloc (.cells #[] 2)) w2.heap.size (some ⟨w2.heap.size, 0, none⟩) 0 0 []) := World.ownsRow_made w2 #[] 0 (Nat.le_refl _) (by unfold maxLen; omega) rfl
  have HLo : Hid (w.heap.size < w2.heap.size) := hr.hi
  clear hr hg
  go_wp2
  go_loopw [6, 7] (fun s i wr => ∃ (k : Nat) (b : Option Addr) (c : Nat) (l : List Int), k ≤ 70 ∧ i = .int .i64 k ∧ s = .slice b k c ∧ Owns 2 wr w2.heap.size b k c l ∧ Rd w w.heap.size a len cap wr ∧ w2.heap.size ≤ wr.heap.size) (fun _ i _ => 70 - (intOf i).toNat)
  case atStart => exact ⟨0, _, 0, [], by omega, rfl, rfl, HO2.out, HR2a.out, by simp⟩
  case round =>
    obtain ⟨k, b, c, l, hk, rfl, rfl, ho3, hr3, hsz⟩ := hrel
    have HO3 : Hid (Owns 2 wr w2.heap.size b k c l) := ho3
    have HR3 : Hid (Rd w w.heap.size a len cap wr) := hr3
    clear ho3 hr3 HO2 HR2a
    by_cases hgo : (k : Int) < n ∧ k < 70
    · obtain ⟨g1, g2⟩ := hgo
      have g3 : (k : Int) < 70 := by omega
      go_wp2_with fail
      refine (elem_any HR.out _ HR3.out).mono ?_
      rintro e w4 ⟨x, x0, x1, rfl, hr4, hg4⟩
      have HR4 : Hid (Rd w w.heap.size a len cap w4) := hr4
      have HO4 : Hid (Owns 2 w4 w2.heap.size b k c l) := HO3.out.keepR hg4 (HO3.out.past HLo.out)
      have hs4 : w2.heap.size ≤ w4.heap.size := Nat.le_trans hsz hg4.size
      clear hr4 hg4
      go_wp2_with (at_builtin; refine wpList_append_own _ rfl _ _ 24 rfl w2.heap.size 2 i0 (.int .i64 0) 1 8 Try.underlying24 HI.out.1 HI.out.2.1 HI.out.2.2.1 HI.out.2.2.2 rfl (by decide) _ k (l.map (Value.int .i64)) rfl (World.ownsRow.alloc HO4.out _) ⟨w4.heap.size, 0, none⟩ 1 1 [.int .i64 x] rfl rfl (cell_one w4 _ _) (one_int _) (by unfold maxLen; omega) (by omega) (by simp; omega) ?_)
      intro v' w5 hown hgrow _
      have hown' : w5.ownsRow w2.heap.size 2 1 v' (k + 1) ((l ++ [x]).map (Value.int .i64)) := by rw [List.map_append]; exact hown
      obtain ⟨b5, c5, rfl, ho5⟩ := Owns.form hown'
      have hg5 : w4.grownBy w5 (Value.slice b k c).ownBlock := (World.grownBy_alloc w4 _ _).trans hgrow
      have HO5 : Hid (Owns 2 w5 w2.heap.size b5 (k + 1) c5 (l ++ [x])) := ho5
      have HR5 : Hid (Rd w w.heap.size a len cap w5) := HR4.out.keep hg5 (HO4.out.past HLo.out) (fun x hx => Nat.le_trans (Nat.le_of_lt HLo.out) (HO4.out.lo x hx))
      have hs5 : w2.heap.size ≤ w5.heap.size := Nat.le_trans hs4 hg5.size
      clear hown hown' hgrow ho5 hg5
      go_wp2
      go_roundw
      case rel => exact ⟨k + 1, b5, c5, l ++ [x], by omega, by go_num, rfl, HO5.out, HR5.out, hs5⟩
      case measure => simp [intOf]; omega
    · by_cases h1 : (k : Int) < n
      · have h2 : ¬ (k : Int) < 70 := by omega
        clear hgo
        go_wp2_with fail
        refine (shift_any HR.out _ HR3.out).mono ?_
        rintro e w4 ⟨s, s0, s1, rfl, hr, hg⟩
        have HR4 : Hid (Rd w w.heap.size a len cap w4) := hr
        have HO4 : Hid (Owns 2 w4 w.heap.size b k c l) := (HO3.out.keepR hg (HO3.out.past HLo.out)).mono (Nat.le_of_lt HLo.out)
        clear hr hg
        go_wp2
        go_ret2
        exact ⟨b, k, c, l, s, s0, s1, rfl, hk, HO4.out, HR4.out.below⟩
      · have h2 : decide ((k : Int) < n) = false := by simpa using h1
        clear hgo
        go_wp2_with fail
        refine (shift_any HR.out _ HR3.out).mono ?_
        rintro e w4 ⟨s, s0, s1, rfl, hr, hg⟩
        have HR4 : Hid (Rd w w.heap.size a len cap w4) := hr
        have HO4 : Hid (Owns 2 w4 w.heap.size b k c l) := (HO3.out.keepR hg (HO3.out.past HLo.out)).mono (Nat.le_of_lt HLo.out)
        clear hr hg
        go_wp2
        go_ret2
        exact ⟨b, k, c, l, s, s0, s1, rfl, hk, HO4.out, HR4.out.below⟩
end Go.Proofs.Ytjeoenieoejolab
