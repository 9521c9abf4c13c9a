/- What is drawn for the laws of polynomials: some lists of numbers in memory of their own. -/
import Derived.Test.YtjeoenieoejolabRdA
import Derived.Test.YtjeoenieoejolabSlF
import Derived.Maps.Range
namespace Go.Proofs.Ytjeoenieoejolab
open Go.RowKit

theorem Owns.keepR {t : TypeId} {w w' : World} {base R : Nat} {a : Option Addr} {n cap : Nat} {zs : List Int} (h : Owns t w base a n cap zs) (hg : w.grownBy w' (some R)) (hne : ∀ x, a = some x → x.block ≠ R) : Owns t w' base a n cap zs := by
  refine World.ownsRow.kept h hg ?_
  cases a with
  | none => exact .inl rfl
  | some x => exact .inr (by simpa [Value.ownBlock] using hne x rfl)
theorem Owns.past {t : TypeId} {w : World} {base R : Nat} {a : Option Addr} {n cap : Nat} {zs : List Int} (h : Owns t w base a n cap zs) (hR : R < base) : ∀ x, a = some x → x.block ≠ R := fun x hx => by
  have := h.lo x hx; omega
theorem Rd.keep {w0 w w' : World} {R : Nat} {a b : Option Addr} {len cap n c : Nat} (h : Rd w0 R a len cap w) (hg : w.grownBy w' (Value.slice b n c).ownBlock) (hne : ∀ x, b = some x → x.block ≠ R) (hlo : ∀ x, b = some x → w0.heap.size ≤ x.block) : Rd w0 R a len cap w' := by
  have hR : some R ≠ (Value.slice b n c).ownBlock := by
    cases b with
    | none => simp [Value.ownBlock]
    | some x => have := hne x rfl; simp [Value.ownBlock]; omega
  obtain ⟨p, hp, hcp⟩ := h.cp
  refine ⟨h.below.grown hg (Nat.le_trans h.lo (Nat.le_of_lt h.hi)) (fun k hk => ?_), h.lo, Nat.lt_of_lt_of_le h.hi hg.size, hg.cell h.cb hR, ⟨p, hp, hg.cell hcp hR⟩, ?_⟩
  · cases b with
    | none => simp [Value.ownBlock] at hk
    | some x => simp [Value.ownBlock] at hk; have := hlo x rfl; omega
  · exact (World.frozen?_of_block (a := ⟨R, 1, none⟩) (hg.block R h.hi hR)).trans h.fr
theorem Rd.grow {w0 w w' : World} {R : Nat} {a : Option Addr} {len cap : Nat} (h : Rd w0 R a len cap w) (hb : Below w.heap.size w w') : Rd w0 R a len cap w' := by
  have hg : w.grownBy w' none := ⟨hb.os, hb.tape, hb.output, hb.size, fun k hk _ => hb.block k hk⟩
  obtain ⟨p, hp, hcp⟩ := h.cp
  refine ⟨h.below.trans (hb.mono (Nat.le_trans h.lo (Nat.le_of_lt h.hi))), h.lo, Nat.lt_of_lt_of_le h.hi hb.size, hg.cell h.cb (by simp), ⟨p, hp, hg.cell hcp (by simp)⟩, ?_⟩
  exact (World.frozen?_of_block (a := ⟨R, 1, none⟩) (hg.block R h.hi (by simp))).trans h.fr
theorem grown_below {w w' w'' : World} {R : Nat} (h : w.grownBy w' (some R)) (hb : Below w'.heap.size w' w'') : w.grownBy w'' (some R) :=
  h.trans ⟨hb.os, hb.tape, hb.output, hb.size, fun k hk _ => hb.block k hk⟩

set_option maxHeartbeats 2000000 in
theorem poly_any {w0 : World} {R : Nat} {a : Option Addr} {len cap : Nat} {zs : List Int} (hrow : Row .u8 w0 a len cap zs) (most : Nat) (hmost : most ≤ 100) (w : World) (h : Rd w0 R a len cap w) :
    Calls Try.prog 47 #[.pointer (some ⟨R, 0, none⟩), .int .i64 most] w fun e w' => ∃ b n c l, e = .returned (.slice b n c) ∧ n ≤ most ∧ Owns 2 w' w.heap.size b n c l ∧ Rd w0 R a len cap w' ∧ w.grownBy w' (some R) := by
  have HR : Hid (Row .u8 w0 a len cap zs) := hrow
  have H : Hid (Rd w0 R a len cap w) := h
  have HRlt : Hid (R < w.heap.size) := h.hi
  have HLo : Hid (w0.heap.size ≤ w.heap.size) := Nat.le_trans h.lo (Nat.le_of_lt h.hi)
  obtain ⟨i0, hi, hz0, hz1, hz2⟩ := info_parts info_i64
  have HI : Hid (Try.prog.info? 2 = some i0 ∧ i0.zero = some (Value.int .i64 0) ∧ i0.size = 1 ∧ i0.bytes = 8) := ⟨hi, hz0, hz1, hz2⟩
  have HRa : Hid (Rd w0 R a len cap (w.alloc (.cells #[] 2))) := h.alloc _
  have HOa : Hid (Owns 2 (w.alloc (.cells #[] 2)) w.heap.size (some ⟨w.heap.size, 0, none⟩) 0 0 []) := World.ownsRow_made w #[] 0 (Nat.le_refl _) (by unfold maxLen; omega) rfl
  clear hrow h hi hz0 hz1 hz2
  go_enter Try.func47, Try.ntmps47
  go_wp2_with fail
  refine (below_any HR.out ((most : Int) + 1) (by omega) (by omega) _ HRa.out).mono ?_
  rintro e w1 ⟨v, v0, v1, rfl, hr, hg⟩
  have HR1 : Hid (Rd w0 R a len cap w1) := hr
  have HG1 : Hid (w.grownBy w1 (some R)) := (World.grownBy_alloc w _ _).trans hg
  have HO1 : Hid (Owns 2 w1 w.heap.size (some ⟨w.heap.size, 0, none⟩) 0 0 []) := HOa.out.keepR hg (HOa.out.past HRlt.out)
  obtain ⟨vn, rfl⟩ := Int.eq_ofNat_of_zero_le v0
  clear hr hg HRa HOa H
  go_wp2
  go_loopw [5, 6] (fun s i wr => ∃ (k j : Nat) (b : Option Addr) (c : Nat) (l : List Int), j + k ≤ most ∧ i = .int .i64 k ∧ s = .slice b j c ∧ Owns 2 wr w.heap.size b j c l ∧ Rd w0 R a len cap wr ∧ w.grownBy wr (some R)) (fun _ i _ => (intOf i).toNat)
  case atStart => exact ⟨vn, 0, _, 0, [], by omega, rfl, rfl, HO1.out, HR1.out, HG1.out⟩
  case round =>
    obtain ⟨k, j, b, c, l, hjk, rfl, rfl, ho2, hr2, hg2⟩ := hrel
    have HO2 : Hid (Owns 2 wr w.heap.size b j c l) := ho2
    have HR2 : Hid (Rd w0 R a len cap wr) := hr2
    have HG2 : Hid (w.grownBy wr (some R)) := hg2
    clear ho2 hr2 hg2 HO1 HR1 HG1
    by_cases hk : 0 < k
    · have hkI : (0 : Int) < (k : Int) := by omega
      go_wp2_with fail
      refine (elem_any HR.out _ HR2.out).mono ?_
      rintro e w3 ⟨x, x0, x1, rfl, hr3, hg3⟩
      have HR3 : Hid (Rd w0 R a len cap w3) := hr3
      have HG3 : Hid (w.grownBy w3 (some R)) := HG2.out.trans hg3
      have HO3 : Hid (Owns 2 w3 w.heap.size b j c l) := HO2.out.keepR hg3 (HO2.out.past HRlt.out)
      have hs3 : w.heap.size ≤ w3.heap.size := HG3.out.size
      clear hr3 hg3
      go_wp2_with (at_builtin; refine wpList_append_own _ rfl _ _ 24 rfl w.heap.size 2 i0 (.int .i64 0) 1 8 Try.underlying24 HI.out.1 HI.out.2.1 HI.out.2.2.1 HI.out.2.2.2 rfl (by decide) _ j (l.map (Value.int .i64)) rfl (World.ownsRow.alloc HO3.out _) ⟨w3.heap.size, 0, none⟩ 1 1 [.int .i64 x] rfl rfl (cell_one w3 _ _) (one_int _) (by unfold maxLen; omega) (by omega) (by simp; omega) ?_)
      intro v' w4 hown hgrow _
      have hown' : w4.ownsRow w.heap.size 2 1 v' (j + 1) ((l ++ [x]).map (Value.int .i64)) := by rw [List.map_append]; exact hown
      obtain ⟨b4, c4, rfl, ho4⟩ := Owns.form hown'
      have hg4 : w3.grownBy w4 (Value.slice b j c).ownBlock := (World.grownBy_alloc w3 _ _).trans hgrow
      have HO4 : Hid (Owns 2 w4 w.heap.size b4 (j + 1) c4 (l ++ [x])) := ho4
      have HR4 : Hid (Rd w0 R a len cap w4) := HR3.out.keep hg4 (HO3.out.past HRlt.out) (fun x hx => Nat.le_trans HLo.out (HO3.out.lo x hx))
      have HG4 : Hid (w.grownBy w4 (some R)) := HG3.out.andThen hg4 (fun q hq => .inl (HO3.out.row q hq))
      clear hown hown' hgrow ho4 hg4
      go_wp2
      go_roundw
      case rel => exact ⟨k - 1, j + 1, b4, c4, l ++ [x], by omega, by go_num, rfl, HO4.out, HR4.out, HG4.out⟩
      case measure => simp [intOf]; omega
    · have hk0 : k = 0 := by omega
      subst hk0
      go_wp2_with fail
      refine (once_any HR.out 30 (by omega) (by omega) _ HR2.out).mono ?_
      rintro e w3 ⟨q, rfl, hr3, hg3⟩
      have HR3 : Hid (Rd w0 R a len cap w3) := hr3
      have HG3 : Hid (w.grownBy w3 (some R)) := HG2.out.trans hg3
      have HO3 : Hid (Owns 2 w3 w.heap.size b j c l) := HO2.out.keepR hg3 (HO2.out.past HRlt.out)
      clear hr3 hg3 HO2 HR2 HG2
      cases q with
      | true =>
        go_wp2
        go_ret
        exact ⟨b, j, c, l, rfl, by omega, HO3.out, HR3.out, HG3.out⟩
      | false =>
        cases hall : M.allEl l with
        | false =>
          go_wp2_with fail
          refine (l1All_any _ HO3.out.sees).mono ?_
          rintro e w3 ⟨rfl, rfl⟩
          go_wp2
          go_ret
          exact ⟨b, j, c, l, rfl, by omega, HO3.out, HR3.out, HG3.out⟩
        | true =>
          have HM : Hid ((M.trim l).length ≤ most) := by show _ ≤ _; have := M.len_trim l; rw [HO3.out.len] at this; omega
          go_wp2_with fail
          refine (l1All_any _ HO3.out.sees).mono ?_
          rintro e w3 ⟨rfl, rfl⟩
          go_wp2_with fail
          refine (l2Trim_any _ HO3.out.sees (by omega)).mono ?_
          rintro e w4 ⟨b4, n4, c4, rfl, ho4, hb4⟩
          have HO4 : Hid (Owns 2 w4 w.heap.size b4 n4 c4 (M.trim l)) := ho4.mono HG3.out.size
          have HR4 : Hid (Rd w0 R a len cap w4) := HR3.out.grow hb4
          have HG4 : Hid (w.grownBy w4 (some R)) := grown_below HG3.out hb4
          clear ho4 hb4
          go_wp2
          go_ret
          exact ⟨b4, n4, c4, M.trim l, rfl, by rw [← HO4.out.len]; exact HM.out, HO4.out, HR4.out, HG4.out⟩
set_option maxHeartbeats 1000000 in
theorem drawAt_any {a : Option Addr} {len cap : Nat} {zs : List Int} (w0 w : World) (hrow : Row .u8 w0 a len cap zs) (hb0 : Below w0.heap.size w0 w) :
    Calls Try.prog 24 #[.slice a len cap] w fun e w' => ∃ b n c l x, e = .returned (.tuple #[.slice b n c, .int .i64 x]) ∧ n ≤ 9 ∧ Owns 2 w' w.heap.size b n c l ∧ Below w.heap.size w w' := by
  have hrow' : Row .u8 w a len cap zs := by
    rcases hrow with h | ⟨x, e, hl, hm, hz, hc, hw⟩
    · exact .inl h
    · exact .inr ⟨x, e, hl, hm, hz, fun i hi => (hb0.cell (p := x.add i) (World.block_lt_of_cell? w0 _ (hc i hi))).trans (hc i hi), hw⟩
  have HR : Hid (Row .u8 w a len cap zs) := hrow'
  clear hrow hrow' hb0
  go_enter Try.func24, Try.ntmps24
  go_wp2_with fail
  refine (open_any _).mono ?_
  rintro e w1 ⟨rfl, hr⟩
  have HR1 : Hid (Rd w w.heap.size a len cap w1) := hr
  clear hr
  go_wp2_with fail
  refine (poly_any HR.out 9 (by omega) _ HR1.out).mono ?_
  rintro e w2 ⟨b, n, c, l, rfl, hn, ho, hr, hg⟩
  have HR2 : Hid (Rd w w.heap.size a len cap w2) := hr
  have HO2 : Hid (Owns 2 w2 w1.heap.size b n c l) := ho
  clear hr hg ho
  go_wp2_with fail
  refine (elem_any HR.out _ HR2.out).mono ?_
  rintro e w3 ⟨x, x0, x1, rfl, hr, hg⟩
  have HR3 : Hid (Rd w w.heap.size a len cap w3) := hr
  have HO3 : Hid (Owns 2 w3 w.heap.size b n c l) := (HO2.out.keepR hg (HO2.out.past HR1.out.hi)).mono HR1.out.below.size
  clear hr hg
  go_wp2
  go_ret2
  exact ⟨b, n, c, l, x, rfl, hn, HO3.out, HR3.out.below⟩
end Go.Proofs.Ytjeoenieoejolab
