/- The states of a run, in the program. -/
import Derived.Test.YtjibpapjfdjecacMaG
namespace Go.Proofs.Ytjibpapjfdjecac
open Go.RowKit

theorem info_state : (Try.prog.info? 35).map (fun i => (i.zero, i.size, i.bytes)) = some (some (.agg #[.int .i64 0, .int .i64 0]), 2, 16) := by kernel_rfl
set_option maxHeartbeats 2000000 in
theorem states1_any {a : Option Addr} {n cap base : Nat} {ps : List (Int × Int)} (s : Int × Int) (w : World) (ho : OwnsQ 35 w base a n cap ps) (hb : base ≤ w.heap.size) (hn : n ≤ 2000) :
    Calls Try.prog 55 #[.slice a n cap, stv s] w fun e w' => ∃ a' cap', e = .returned (.slice a' (n + 1) cap') ∧ OwnsQ 35 w' base a' (n + 1) cap' (ps ++ [s]) ∧ Below base w w' := by
  have HO : Hid (OwnsQ 35 w base a n cap ps) := ho
  obtain ⟨i0, hi, hz0, hz1, hz2⟩ := info_parts info_state
  have HI : Hid (Try.prog.info? 35 = some i0 ∧ i0.zero = some (.agg #[.int .i64 0, .int .i64 0]) ∧ i0.size = 2 ∧ i0.bytes = 16) := ⟨hi, hz0, hz1, hz2⟩
  have HL : Hid ((ps ++ [s]).length = n + 1) := by show _ = _; rw [List.length_append, ho.1]; rfl
  clear ho hi hz0 hz1 hz2
  have C1 := state_any s
  obtain ⟨x, y⟩ := s
  dsimp only [stv] at C1 ⊢
  go_enter Try.func55, Try.ntmps55
  go_wp2_with fail
  refine (C1 _).mono ?_
  rintro e w1 ⟨rfl, hb1⟩
  have HB1 : Hid (Below base w w1) := ((Below.refl _ _).alloc hb _).trans (hb1.mono (by simp; omega))
  have HO1 : Hid (OwnsQ 35 w1 base a n cap ps) := (HO.out.below ((Below.refl _ _).alloc (Nat.le_refl _) _)).below hb1
  have hb2 : base ≤ w1.heap.size := Nat.le_trans hb HB1.out.size
  clear hb1 HO
  go_wp2_with (at_builtin; refine wpList_append_own _ rfl _ _ 28 rfl base 35 i0 (.agg #[.int .i64 0, .int .i64 0]) 2 16 Try.underlying28 HI.out.1 HI.out.2.1 HI.out.2.2.1 HI.out.2.2.2 rfl (by decide) _ n (prs ps) rfl (World.ownsRow.alloc HO1.out.2 _) ⟨w1.heap.size, 0, none⟩ 1 1 [.int .i64 x, .int .i64 y] rfl rfl (cell_twoq w1 _ _ _) (two_intsq _ _) (by unfold maxLen; omega) (by omega) (by simp; omega) ?_)
  intro v' w4 hown hgrow _
  have hown' : w4.ownsRow base 35 2 v' (n + 1) (prs (ps ++ [(x, y)])) := by rw [← prs_snoc]; exact hown
  obtain ⟨b4, c4, rfl, ho4⟩ := OwnsQ.form HL.out hown'
  have HO4 : Hid (OwnsQ 35 w4 base b4 (n + 1) c4 (ps ++ [(x, y)])) := ho4
  have HB4 : Hid (Below base w w4) := (HB1.out.alloc hb2 _).grown hgrow (by simp; omega) HO1.out.row
  clear hown hown' hgrow ho4
  go_wp2
  go_ret
  exact ⟨b4, c4, rfl, HO4.out, HB4.out⟩
theorem take_snocq (ps : List (Int × Int)) {k : Nat} (h : k < ps.length) : ps.take k ++ [ps.getD k (0, 0)] = ps.take (k + 1) := by
  rw [List.getD_eq_getElem?_getD, List.getElem?_eq_getElem h, List.take_succ_eq_append_getElem h]; rfl
set_option maxHeartbeats 2000000 in
theorem foldStates_any {a b : Option Addr} {n c cap : Nat} {ps : List (Int × Int)} (w0 w : World) (hz : SeesQ w0 a n c ps) (hbl : Below w0.heap.size w0 w) (ho : OwnsQ 35 w w0.heap.size b 0 cap []) (hn : n ≤ 1001) :
    Calls Try.prog 54 #[.slice a n c, .slice b 0 cap, .func (.func 55) #[] #[]] w fun e w' => ∃ a' cap', e = .returned (.slice a' n cap') ∧ OwnsQ 35 w' w0.heap.size a' n cap' ps ∧ Below w0.heap.size w0 w' := by
  have HZ : Hid (SeesQ w0 a n c ps) := hz
  have HBl : Hid (Below w0.heap.size w0 w) := hbl
  have HO : Hid (OwnsQ 35 w w0.heap.size b 0 cap (ps.take 0)) := ho
  clear hz hbl ho
  go_enter Try.func54, Try.ntmps54
  go_wp2
  go_loopw [1, 11] (fun s i wr => ∃ (k : Nat) (a' : Option Addr) (cap' : Nat), k ≤ n ∧ i = .int .i64 k ∧ s = .slice a' k cap' ∧ OwnsQ 35 wr w0.heap.size a' k cap' (ps.take k) ∧ Below w0.heap.size w0 wr) (fun _ i _ => n - (intOf i).toNat)
  case atStart => exact ⟨0, _, _, by omega, rfl, rfl, HO.out, HBl.out⟩
  case round =>
    obtain ⟨k, a', cap', hk, rfl, rfl, ho1, hb1⟩ := hrel
    have HO1 : Hid (OwnsQ 35 wr w0.heap.size a' k cap' (ps.take k)) := ho1
    have HB1 : Hid (Below w0.heap.size w0 wr) := hb1
    clear ho1 hb1 HO HBl
    by_cases hlt : k < n
    · obtain ⟨b1, o1, rfl, hc1⟩ := (HZ.out.below HB1.out).at (by omega)
      obtain ⟨e1, e2⟩ := hc1 k hlt
      have hI : (k : Int) < (n : Int) := by omega
      have HS : Hid (ps.take k ++ [ps.getD k (0, 0)] = ps.take (k + 1)) := take_snocq ps (by rw [HZ.out.len]; exact hlt)
      clear hc1
      generalize ps.getD k (0, 0) = q at e1 e2 HS
      have C1 := states1_any (a := a') (n := k) (cap := cap') (base := w0.heap.size) (ps := ps.take k) q
      obtain ⟨x, y⟩ := q
      dsimp only [stv] at C1 e1 e2
      have HC1 : Hid _ := C1
      clear C1
      go_wp2_with fail
      refine (HC1.out _ (HO1.out.below ((Below.refl _ _).alloc (Nat.le_refl _) _)) (by have := HB1.out.size; simp; omega) (by omega)).mono ?_
      rintro e w4 ⟨b4, c4, rfl, ho4, hb4⟩
      have HO4 : Hid (OwnsQ 35 w4 w0.heap.size b4 (k + 1) c4 (ps.take (k + 1))) := by
        show OwnsQ _ _ _ _ _ _ _
        rw [← HS.out]; exact ho4
      have HB4 : Hid (Below w0.heap.size w0 w4) := (HB1.out.alloc HB1.out.size _).trans hb4
      clear ho4 hb4
      go_wp2
      go_roundw
      case rel => exact ⟨k + 1, b4, c4, by omega, by go_num, rfl, HO4.out, HB4.out⟩
      case measure => simp [intOf]; omega
    · have hkn : k = n := by omega
      subst hkn
      go_wp2
      go_ret
      refine ⟨a', cap', rfl, ?_, HB1.out⟩
      have := HO1.out
      rw [List.take_of_length_le (by rw [HZ.out.len]; exact Nat.le_refl _)] at this
      exact this
end Go.Proofs.Ytjibpapjfdjecac
