/- What is drawn for the law of polynomials through points. -/
import Derived.Test.YtjeoenieoejolaaRdD
namespace Go.Proofs.Ytjeoenieoejolaa
open Go.RowKit

theorem own_at3 {a b : Option Addr} {n c m d X : Nat} (h : (Value.slice b m d).ownBlock = (Value.slice a n c).ownBlock ∨ (Value.slice b m d).ownBlock = some X) : ∀ y, b = some y → (∃ x, a = some x ∧ x.block = y.block) ∨ y.block = X := by
  rintro y rfl
  rcases h with h | h
  · left
    cases a with
    | none => simp [Value.ownBlock] at h
    | some x => exact ⟨x, rfl, by simpa [Value.ownBlock] using h.symm⟩
  · right; simpa [Value.ownBlock] using h
set_option maxHeartbeats 4000000 in
theorem drawThrough_any {a : Option Addr} {len cap : Nat} {zs : List Int} (w : World) (hrow : Row .u8 w a len cap zs) :
    Calls Try.prog 41 #[.slice a len cap] w fun e w' => ∃ b n c l b2 n2 c2 l2, e = .returned (.tuple #[.slice b n c, .slice b2 n2 c2]) ∧ n ≤ 8 ∧ n2 ≤ 9 ∧ Owns 2 w' w.heap.size b n c l ∧ Owns 2 w' w.heap.size b2 n2 c2 l2 ∧ Below w.heap.size w w' := by
  have HR : Hid (Row .u8 w a len cap zs) := hrow
  obtain ⟨i0, hi, hz0, hz1, hz2⟩ := info_parts info_i64
  have HI : Hid (Try.prog.info? 2 = some i0 ∧ i0.zero = some (Value.int .i64 0) ∧ i0.size = 1 ∧ i0.bytes = 8) := ⟨hi, hz0, hz1, hz2⟩
  clear hrow hi hz0 hz1 hz2
  go_enter Try.func41, Try.ntmps41
  go_wp2_with fail
  refine (open_any _).mono ?_
  rintro e w1 ⟨rfl, hr⟩
  have HR1 : Hid (Rd w w.heap.size a len cap ((w1.alloc (.cells #[] 2)).alloc (.cells #[] 2))) := (hr.alloc _).alloc _
  have hs1 : w.heap.size < w1.heap.size := hr.hi
  have HOa : Hid (Owns 2 ((w1.alloc (.cells #[] 2)).alloc (.cells #[] 2)) w1.heap.size (some ⟨w1.heap.size, 0, none⟩) 0 0 []) := World.ownsRow.alloc (World.ownsRow_made w1 #[] 0 (Nat.le_refl _) (by unfold maxLen; omega) rfl) _
  have HOb : Hid (Owns 2 ((w1.alloc (.cells #[] 2)).alloc (.cells #[] 2)) w1.heap.size (some ⟨w1.heap.size + 1, 0, none⟩) 0 0 []) := by
    have h := World.ownsRow_made (w1.alloc (.cells #[] 2)) (e := 2) (size := 1) (base := w1.heap.size) #[] 0 (by simp) (by unfold maxLen; omega) rfl
    rw [World.size_alloc] at h; exact h
  clear hr
  go_wp2_with fail
  refine (below_any HR.out 8 (by omega) (by omega) _ HR1.out).mono ?_
  rintro e w2 ⟨v, v0, v1, rfl, hr, hg⟩
  have HR2 : Hid (Rd w w.heap.size a len cap w2) := hr
  have HO2 : Hid (Owns 2 w2 w1.heap.size (some ⟨w1.heap.size, 0, none⟩) 0 0 []) := HOa.out.keepR hg (HOa.out.past hs1)
  have HP2 : Hid (Owns 2 w2 w1.heap.size (some ⟨w1.heap.size + 1, 0, none⟩) 0 0 []) := HOb.out.keepR hg (HOb.out.past hs1)
  have hs2 : w1.heap.size ≤ w2.heap.size := by have := hg.size; simp at this; omega
  have HS2 : Hid (w1.heap.size ≤ w2.heap.size) := hs2
  obtain ⟨vn, rfl⟩ := Int.eq_ofNat_of_zero_le v0
  clear hr hg HR1 HOa HOb hs2
  go_wp2
  go_loopw [5, 6, 7] (fun s t i wr => ∃ (k j : Nat) (b : Option Addr) (c : Nat) (l : List Int) (b2 : Option Addr) (c2 : Nat) (l2 : List Int), j + k ≤ 8 ∧ i = .int .i64 k ∧ s = .slice b j c ∧ t = .slice b2 j c2 ∧ Owns 2 wr w1.heap.size b j c l ∧ Owns 2 wr w1.heap.size b2 j c2 l2 ∧ (∀ x y, b = some x → b2 = some y → x.block ≠ y.block) ∧ Rd w w.heap.size a len cap wr ∧ w1.heap.size ≤ wr.heap.size) (fun _ _ i _ => (intOf i).toNat)
  case atStart => exact ⟨vn + 1, 0, _, 0, [], _, 0, [], by omega, by go_num, rfl, rfl, HO2.out, HP2.out, (fun x y hx hy => by cases hx; cases hy; simp), HR2.out, HS2.out⟩
  case round =>
    obtain ⟨k, j, b, c, l, b2, c2, l2, hjk, rfl, rfl, rfl, ho, hp, hdj, hr, hsz⟩ := hrel
    have HO : Hid (Owns 2 wr w1.heap.size b j c l) := ho
    have HP : Hid (Owns 2 wr w1.heap.size b2 j c2 l2) := hp
    have HDJ : Hid (∀ x y, b = some x → b2 = some y → x.block ≠ y.block) := hdj
    have HRr : Hid (Rd w w.heap.size a len cap wr) := hr
    clear ho hp hdj hr HO2 HP2 HR2 HS2
    by_cases hk : 0 < k
    · have hkI : (0 : Int) < (k : Int) := by omega
      go_wp2_with fail
      refine (below_any HR.out 2000 (by omega) (by omega) _ HRr.out).mono ?_
      rintro e w3 ⟨x, x0, x1, rfl, hr3, hg3⟩
      have HR3 : Hid (Rd w w.heap.size a len cap w3) := hr3
      have HO3 : Hid (Owns 2 w3 w1.heap.size b j c l) := HO.out.keepR hg3 (HO.out.past hs1)
      have HP3 : Hid (Owns 2 w3 w1.heap.size b2 j c2 l2) := HP.out.keepR hg3 (HP.out.past hs1)
      have hs3 : w1.heap.size ≤ w3.heap.size := Nat.le_trans hsz hg3.size
      clear hr3 hg3
      go_wp2_with (at_builtin; refine wpList_append_own_at _ rfl _ _ 30 rfl w1.heap.size 2 i0 (.int .i64 0) 1 8 Try.underlying30 HI.out.1 HI.out.2.1 HI.out.2.2.1 HI.out.2.2.2 rfl (by decide) _ j (l.map (Value.int .i64)) rfl (World.ownsRow.alloc HO3.out _) ⟨w3.heap.size, 0, none⟩ 1 1 [.int .i64 x] rfl rfl (cell_one w3 _ _) (one_int _) (by unfold maxLen; omega) (by omega) (by simp; omega) ?_)
      intro v' w4 hown hgrow _ hat
      have hown' : w4.ownsRow w1.heap.size 2 1 v' (j + 1) ((l ++ [x]).map (Value.int .i64)) := by rw [List.map_append]; exact hown
      obtain ⟨b4, c4, rfl, ho4⟩ := Owns.form hown'
      have hg4 : w3.grownBy w4 (Value.slice b j c).ownBlock := (World.grownBy_alloc w3 _ _).trans hgrow
      have HO4 : Hid (Owns 2 w4 w1.heap.size b4 (j + 1) c4 (l ++ [x])) := ho4
      have HP4 : Hid (Owns 2 w4 w1.heap.size b2 j c2 l2) := HP3.out.keep hg4 (fun x y hx hy e => HDJ.out y x hy hx e.symm)
      have HDJ4 : Hid (∀ x y, b4 = some x → b2 = some y → x.block ≠ y.block) := fun x y hx hy => by
        rcases own_at3 (by simpa using hat) x hx with ⟨z, hz, e⟩ | e
        · rw [← e]; exact HDJ.out z y hz hy
        · have := HP3.out.hi y hy; omega
      have HR4 : Hid (Rd w w.heap.size a len cap w4) := HR3.out.keep hg4 (HO3.out.past hs1) (fun x hx => by have := HO3.out.lo x hx; omega)
      have hs4 : w1.heap.size ≤ w4.heap.size := Nat.le_trans hs3 hg4.size
      clear hown hown' hgrow ho4 hg4 hat HO3 HP3 HR3 HDJ
      go_wp2_with fail
      refine (elem_any HR.out _ HR4.out).mono ?_
      rintro e w5 ⟨y, y0, y1, rfl, hr5, hg5⟩
      have HR5 : Hid (Rd w w.heap.size a len cap w5) := hr5
      have HO5 : Hid (Owns 2 w5 w1.heap.size b4 (j + 1) c4 (l ++ [x])) := HO4.out.keepR hg5 (HO4.out.past hs1)
      have HP5 : Hid (Owns 2 w5 w1.heap.size b2 j c2 l2) := HP4.out.keepR hg5 (HP4.out.past hs1)
      have hs5 : w1.heap.size ≤ w5.heap.size := Nat.le_trans hs4 hg5.size
      clear hr5 hg5
      go_wp2_with (at_builtin; refine wpList_append_own_at _ rfl _ _ 30 rfl w1.heap.size 2 i0 (.int .i64 0) 1 8 Try.underlying30 HI.out.1 HI.out.2.1 HI.out.2.2.1 HI.out.2.2.2 rfl (by decide) _ j (l2.map (Value.int .i64)) rfl (World.ownsRow.alloc HP5.out _) ⟨w5.heap.size, 0, none⟩ 1 1 [.int .i64 y] rfl rfl (cell_one w5 _ _) (one_int _) (by unfold maxLen; omega) (by omega) (by simp; omega) ?_)
      intro v' w6 hown hgrow _ hat
      have hown' : w6.ownsRow w1.heap.size 2 1 v' (j + 1) ((l2 ++ [y]).map (Value.int .i64)) := by rw [List.map_append]; exact hown
      obtain ⟨b6, c6, rfl, ho6⟩ := Owns.form hown'
      have hg6 : w5.grownBy w6 (Value.slice b2 j c2).ownBlock := (World.grownBy_alloc w5 _ _).trans hgrow
      have HP6 : Hid (Owns 2 w6 w1.heap.size b6 (j + 1) c6 (l2 ++ [y])) := ho6
      have HO6 : Hid (Owns 2 w6 w1.heap.size b4 (j + 1) c4 (l ++ [x])) := HO5.out.keep hg6 (fun x y hx hy => HDJ4.out x y hx hy)
      have HDJ6 : Hid (∀ x y, b4 = some x → b6 = some y → x.block ≠ y.block) := fun x y hx hy => by
        rcases own_at3 (by simpa using hat) y hy with ⟨z, hz, e⟩ | e
        · rw [← e]; exact HDJ4.out x z hx hz
        · have := HO5.out.hi x hx; omega
      have HR6 : Hid (Rd w w.heap.size a len cap w6) := HR5.out.keep hg6 (HP5.out.past hs1) (fun x hx => by have := HP5.out.lo x hx; omega)
      have hs6 : w1.heap.size ≤ w6.heap.size := Nat.le_trans hs5 hg6.size
      clear hown hown' hgrow ho6 hg6 hat
      go_wp2
      go_roundw
      case rel => exact ⟨k - 1, j + 1, b4, c4, l ++ [x], b6, c6, l2 ++ [y], by omega, by go_num, rfl, rfl, HO6.out, HP6.out, HDJ6.out, HR6.out, hs6⟩
      case measure => simp [intOf]; omega
    · have hk0 : k = 0 := by omega
      subst hk0
      go_wp2_with fail
      refine (once_any HR.out 12 (by omega) (by omega) _ HRr.out).mono ?_
      rintro e w3 ⟨q, rfl, hr3, hg3⟩
      have HR3 : Hid (Rd w w.heap.size a len cap w3) := hr3
      have HO3 : Hid (Owns 2 w3 w1.heap.size b j c l) := HO.out.keepR hg3 (HO.out.past hs1)
      have HP3 : Hid (Owns 2 w3 w1.heap.size b2 j c2 l2) := HP.out.keepR hg3 (HP.out.past hs1)
      have hs3 : w1.heap.size ≤ w3.heap.size := Nat.le_trans hsz hg3.size
      clear hr3 hg3
      cases q with
      | true =>
        go_wp2_with (at_builtin; refine wpList_append_own_at _ rfl _ _ 30 rfl w1.heap.size 2 i0 (.int .i64 0) 1 8 Try.underlying30 HI.out.1 HI.out.2.1 HI.out.2.2.1 HI.out.2.2.2 rfl (by decide) _ j (l2.map (Value.int .i64)) rfl (World.ownsRow.alloc HP3.out _) ⟨w3.heap.size, 0, none⟩ 1 1 [.int .i64 1] rfl rfl (cell_one w3 _ _) (one_int _) (by unfold maxLen; omega) (by omega) (by simp; omega) ?_)
        intro v' w6 hown hgrow _ hat
        have hown' : w6.ownsRow w1.heap.size 2 1 v' (j + 1) ((l2 ++ [1]).map (Value.int .i64)) := by rw [List.map_append]; exact hown
        obtain ⟨b6, c6, rfl, ho6⟩ := Owns.form hown'
        have hg6 : w3.grownBy w6 (Value.slice b2 j c2).ownBlock := (World.grownBy_alloc w3 _ _).trans hgrow
        have HP6 : Hid (Owns 2 w6 w1.heap.size b6 (j + 1) c6 (l2 ++ [1])) := ho6
        have HO6 : Hid (Owns 2 w6 w1.heap.size b j c l) := HO3.out.keep hg6 (fun x y hx hy => HDJ.out x y hx hy)
        have HR6 : Hid (Rd w w.heap.size a len cap w6) := HR3.out.keep hg6 (HP3.out.past hs1) (fun x hx => by have := HP3.out.lo x hx; omega)
        clear hown hown' hgrow ho6 hg6 hat
        go_wp2
        go_ret2
        exact ⟨b, j, c, l, b6, j + 1, c6, l2 ++ [1], rfl, by omega, by omega, HO6.out.mono (by omega), HP6.out.mono (by omega), HR6.out.below⟩
      | false =>
        go_wp2
        go_ret2
        exact ⟨b, j, c, l, b2, j, c2, l2, rfl, by omega, by omega, HO3.out.mono (by omega), HP3.out.mono (by omega), HR3.out.below⟩
end Go.Proofs.Ytjeoenieoejolaa
