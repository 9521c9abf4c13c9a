/- What Halves answers, in the program and in its model. -/
import Derived.Test.YtjeoenieoejolahHvB
import Derived.Test.YtjeoenieoejolahSlI
namespace Go.Proofs.Ytjeoenieoejolah
open Go.RowKit

def M.hv (zs : List Int) (f : Nat) : List Int := if M.polyOk zs = true then M.trim (M.sec zs f) else []
theorem M.hv_in {zs : List Int} {f : Nat} (h : M.polyOk zs = true) : M.hv zs f = M.trim (M.sec zs f) := if_pos h
theorem M.hv_out {zs : List Int} {f : Nat} (h : M.polyOk zs = false) : M.hv zs f = [] := if_neg (by rw [h]; decide)
theorem M.sec_len (zs : List Int) (f : Nat) : (M.sec zs f).length = M.secN zs.length f := M.tab_len _ _
theorem M.sec_le (zs : List Int) {f : Nat} : (M.trim (M.sec zs f)).length ≤ (zs.length + 1) / 2 := by
  have := M.len_trim (M.sec zs f); rw [M.sec_len] at this; unfold M.secN at this; omega
/-- the part of it among the first i -/
def M.secAt (zs : List Int) (f i : Nat) : List Int := M.tab (M.secN i f) (fun j => zs.getD (f + 2 * j) 0)
theorem M.secAt_end (zs : List Int) (f : Nat) : M.secAt zs f zs.length = M.sec zs f := rfl
theorem M.secAt_hit (zs : List Int) {f i : Nat} (h : i % 2 = f) : M.secAt zs f i ++ [zs.getD i 0] = M.secAt zs f (i + 1) := by
  unfold M.secAt M.secN
  have e1 : (i + 1 + 1 - f) / 2 = (i + 1 - f) / 2 + 1 := by omega
  have e2 : f + 2 * ((i + 1 - f) / 2) = i := by omega
  rw [e1, ← M.tab_snoc, e2]
theorem M.secAt_miss (zs : List Int) {f i : Nat} (h : i % 2 ≠ f) (hf : f ≤ 1) : M.secAt zs f (i + 1) = M.secAt zs f i := by
  unfold M.secAt M.secN
  have e1 : (i + 1 + 1 - f) / 2 = (i + 1 - f) / 2 := by omega
  rw [e1]
theorem M.secAt_len (zs : List Int) (f i : Nat) : (M.secAt zs f i).length = M.secN i f := M.tab_len _ _
theorem own_at {a b : Option Addr} {n c m d X : Nat} (h : (Value.slice b m d).ownBlock = (Value.slice a n c).ownBlock ∨ (Value.slice b m d).ownBlock = some X) : ∀ y, b = some y → (∃ x, a = some x ∧ x.block = y.block) ∨ y.block = X := by
  rintro y rfl
  rcases h with h | h
  · left
    cases a with
    | none => simp [Value.ownBlock] at h
    | some x => exact ⟨x, rfl, by simpa [Value.ownBlock] using h.symm⟩
  · right; simpa [Value.ownBlock] using h
set_option maxHeartbeats 4000000 in
theorem l4Halves_any {la : Option Addr} {n lc : Nat} {zs : List Int} (w : World) (hz : Sees w la n lc zs) (hn : n ≤ 100000) :
    Calls Try.prog 34 #[.slice la n lc] w fun e w' => ∃ a1 l1 c1 a2 l2 c2, e = .returned (.tuple #[.slice a1 l1 c1, .slice a2 l2 c2]) ∧ Owns 2 w' w.heap.size a1 l1 c1 (M.trim (M.sec zs 0)) ∧ Owns 2 w' w.heap.size a2 l2 c2 (M.trim (M.sec zs 1)) ∧ (∀ x y, a1 = some x → a2 = some y → x.block ≠ y.block) ∧ Below w.heap.size w w' := by
  have HZ : Hid (Sees w la n lc zs) := hz
  obtain ⟨i0, hi, hz0, hz1, hz2⟩ := info_parts info_i64
  have HI : Hid (Try.prog.info? 2 = some i0 ∧ i0.zero = some (Value.int .i64 0) ∧ i0.size = 1 ∧ i0.bytes = 8) := ⟨hi, hz0, hz1, hz2⟩
  clear hz hi hz0 hz1 hz2
  have HO0 : Hid (Owns 2 ((w.alloc (.cells #[] 2)).alloc (.cells #[] 2)) w.heap.size (some ⟨w.heap.size, 0, none⟩) 0 0 []) := World.ownsRow.alloc (World.ownsRow_made w #[] 0 (Nat.le_refl _) (by unfold maxLen; omega) rfl) _
  have HO0' : Hid (Owns 2 ((w.alloc (.cells #[] 2)).alloc (.cells #[] 2)) w.heap.size (some ⟨w.heap.size + 1, 0, none⟩) 0 0 []) := by
    show Owns _ _ _ _ _ _ _
    have h := World.ownsRow_made (w.alloc (.cells #[] 2)) (e := 2) (size := 1) (base := w.heap.size) #[] 0 (by simp) (by unfold maxLen; omega) rfl
    rw [World.size_alloc] at h; exact h
  go_enter Try.func34, Try.ntmps34
  go_wp2
  go_loopw [4, 5, 6] (fun o1 o2 i wr => ∃ (k : Nat) (a1 : Option Addr) (c1 : Nat) (a2 : Option Addr) (c2 : Nat), k ≤ n ∧ i = .int .i64 k ∧ o1 = .slice a1 (M.secN k 0) c1 ∧ o2 = .slice a2 (M.secN k 1) c2 ∧ Owns 2 wr w.heap.size a1 (M.secN k 0) c1 (M.secAt zs 0 k) ∧ Owns 2 wr w.heap.size a2 (M.secN k 1) c2 (M.secAt zs 1 k) ∧ (∀ x y, a1 = some x → a2 = some y → x.block ≠ y.block) ∧ Below w.heap.size w wr) (fun _ _ i _ => n - (intOf i).toNat)
  case atStart => exact ⟨0, _, _, _, _, by omega, rfl, rfl, rfl, HO0.out, HO0'.out, (fun x y hx hy => by cases hx; cases hy; simp), ((Below.refl _ _).alloc (Nat.le_refl _) _).alloc (by simp) _⟩
  case round =>
    obtain ⟨k, a1, c1, a2, c2, hk, rfl, rfl, rfl, ho1, ho2, hdj, hbr⟩ := hrel
    have HO1 : Hid (Owns 2 wr w.heap.size a1 (M.secN k 0) c1 (M.secAt zs 0 k)) := ho1
    have HO2 : Hid (Owns 2 wr w.heap.size a2 (M.secN k 1) c2 (M.secAt zs 1 k)) := ho2
    have HDJ : Hid (∀ x y, a1 = some x → a2 = some y → x.block ≠ y.block) := hdj
    have HBR : Hid (Below w.heap.size w wr) := hbr
    have hsz := hbr.size
    have s0 : M.secN k 0 ≤ n := by unfold M.secN; omega
    have s1 : M.secN k 1 ≤ n := by unfold M.secN; omega
    clear ho1 ho2 hdj hbr HO0 HO0'
    by_cases hlt : k < n
    · obtain ⟨b1, o1, rfl, hc1⟩ := (HZ.out.below HBR.out).at (by omega)
      have d1 := hc1 k hlt
      have hI : (k : Int) < (n : Int) := by omega
      clear hc1
      by_cases hev : k % 2 = 0
      · have HH : Hid (M.secAt zs 0 k ++ [zs.getD k 0] = M.secAt zs 0 (k + 1)) := M.secAt_hit zs hev
        have HM : Hid (M.secAt zs 1 (k + 1) = M.secAt zs 1 k) := M.secAt_miss zs (by omega) (by omega)
        have HN0 : Hid (M.secN (k + 1) 0 = M.secN k 0 + 1) := by show _ = _; unfold M.secN; omega
        have HN1 : Hid (M.secN (k + 1) 1 = M.secN k 1) := by show _ = _; unfold M.secN; omega
        have hb : (((k : Int) % 2) == 0) = true := by simp; omega
        have hbt : (((k : Int).tmod 2) == 0) = true := by rw [Int.tmod_eq_emod_of_nonneg (by omega)]; exact hb
        generalize zs.getD k 0 = x at d1 HH
        generalize M.secN k 0 = p0 at HO1 s0 HN0 ⊢
        generalize M.secN k 1 = p1 at HO2 s1 HN1 ⊢
        clear hev
        go_wp2_with (at_builtin; refine wpList_append_own_at _ rfl _ _ 22 rfl w.heap.size 2 i0 (.int .i64 0) 1 8 Try.underlying22 HI.out.1 HI.out.2.1 HI.out.2.2.1 HI.out.2.2.2 rfl (by decide) _ p0 ((M.secAt zs 0 k).map (Value.int .i64)) rfl (World.ownsRow.alloc HO1.out _) ⟨wr.heap.size, 0, none⟩ 1 1 [.int .i64 x] rfl rfl (cell_one wr _ _) (one_int _) (by unfold maxLen; omega) (by omega) (by simp; omega) ?_)
        intro v' w1 hown hgrow _ hat
        have hown' : w1.ownsRow w.heap.size 2 1 v' (p0 + 1) ((M.secAt zs 0 (k + 1)).map (Value.int .i64)) := by rw [← HH.out, List.map_append]; exact hown
        obtain ⟨a3, c3, rfl, ho3⟩ := Owns.form hown'
        have hg1 := (World.grownBy_alloc wr _ _).trans hgrow
        have HO3 : Hid (Owns 2 w1 w.heap.size a3 (p0 + 1) c3 (M.secAt zs 0 (k + 1))) := ho3
        have HO4 : Hid (Owns 2 w1 w.heap.size a2 p1 c2 (M.secAt zs 1 (k + 1))) := by
          show Owns _ _ _ _ _ _ _
          rw [HM.out]; exact HO2.out.keep hg1 (fun x y hx hy e => HDJ.out y x hy hx e.symm)
        have HDJ3 : Hid (∀ x y, a3 = some x → a2 = some y → x.block ≠ y.block) := fun x y hx hy => by
          rcases own_at (by simpa using hat) x hx with ⟨z, hz, e⟩ | e
          · rw [← e]; exact HDJ.out z y hz hy
          · have := HO2.out.hi y hy; omega
        have HB3 : Hid (Below w.heap.size w w1) := HBR.out.grown hg1 hsz HO1.out.row
        clear hown hown' hgrow ho3 hat hg1
        go_wp2
        go_roundw
        case rel => exact ⟨k + 1, a3, c3, a2, c2, by omega, by go_num, by rw [HN0.out], by rw [HN1.out], by rw [HN0.out]; exact HO3.out, by rw [HN1.out]; exact HO4.out, HDJ3.out, HB3.out⟩
        case measure => simp [intOf]; omega
      · have HH : Hid (M.secAt zs 1 k ++ [zs.getD k 0] = M.secAt zs 1 (k + 1)) := M.secAt_hit zs (by omega)
        have HM : Hid (M.secAt zs 0 (k + 1) = M.secAt zs 0 k) := M.secAt_miss zs (by omega) (by omega)
        have HN0 : Hid (M.secN (k + 1) 0 = M.secN k 0) := by show _ = _; unfold M.secN; omega
        have HN1 : Hid (M.secN (k + 1) 1 = M.secN k 1 + 1) := by show _ = _; unfold M.secN; omega
        have hb : (((k : Int) % 2) == 0) = false := by simp; omega
        have hbt : (((k : Int).tmod 2) == 0) = false := by rw [Int.tmod_eq_emod_of_nonneg (by omega)]; exact hb
        generalize zs.getD k 0 = x at d1 HH
        generalize M.secN k 0 = p0 at HO1 s0 HN0 ⊢
        generalize M.secN k 1 = p1 at HO2 s1 HN1 ⊢
        clear hev
        go_wp2_with (at_builtin; refine wpList_append_own_at _ rfl _ _ 22 rfl w.heap.size 2 i0 (.int .i64 0) 1 8 Try.underlying22 HI.out.1 HI.out.2.1 HI.out.2.2.1 HI.out.2.2.2 rfl (by decide) _ p1 ((M.secAt zs 1 k).map (Value.int .i64)) rfl (World.ownsRow.alloc HO2.out _) ⟨wr.heap.size, 0, none⟩ 1 1 [.int .i64 x] rfl rfl (cell_one wr _ _) (one_int _) (by unfold maxLen; omega) (by omega) (by simp; omega) ?_)
        intro v' w1 hown hgrow _ hat
        have hown' : w1.ownsRow w.heap.size 2 1 v' (p1 + 1) ((M.secAt zs 1 (k + 1)).map (Value.int .i64)) := by rw [← HH.out, List.map_append]; exact hown
        obtain ⟨a3, c3, rfl, ho3⟩ := Owns.form hown'
        have hg1 := (World.grownBy_alloc wr _ _).trans hgrow
        have HO3 : Hid (Owns 2 w1 w.heap.size a3 (p1 + 1) c3 (M.secAt zs 1 (k + 1))) := ho3
        have HO4 : Hid (Owns 2 w1 w.heap.size a1 p0 c1 (M.secAt zs 0 (k + 1))) := by
          show Owns _ _ _ _ _ _ _
          rw [HM.out]; exact HO1.out.keep hg1 (fun x y hx hy => HDJ.out x y hx hy)
        have HDJ3 : Hid (∀ x y, a1 = some x → a3 = some y → x.block ≠ y.block) := fun x y hx hy => by
          rcases own_at (by simpa using hat) y hy with ⟨z, hz, e⟩ | e
          · rw [← e]; exact HDJ.out x z hx hz
          · have := HO1.out.hi x hx; omega
        have HB3 : Hid (Below w.heap.size w w1) := HBR.out.grown hg1 hsz HO2.out.row
        clear hown hown' hgrow ho3 hat hg1
        go_wp2
        go_roundw
        case rel => exact ⟨k + 1, a1, c1, a3, c3, by omega, by go_num, by rw [HN0.out], by rw [HN1.out], by rw [HN0.out]; exact HO4.out, by rw [HN1.out]; exact HO3.out, HDJ3.out, HB3.out⟩
        case measure => simp [intOf]; omega
    · have hkn : k = n := by omega
      subst hkn
      have E0 : Hid (M.secAt zs 0 k = M.sec zs 0) := by show _ = _; rw [← M.secAt_end, HZ.out.len]
      have E1 : Hid (M.secAt zs 1 k = M.sec zs 1) := by show _ = _; rw [← M.secAt_end, HZ.out.len]
      generalize M.secN k 0 = p0 at HO1 s0 ⊢
      generalize M.secN k 1 = p1 at HO2 s1 ⊢
      go_wp2_with fail
      refine (l2Trim_any _ HO1.out.sees (by omega)).mono ?_
      rintro e w2 ⟨a3, m3, c3, rfl, ho3, hb3⟩
      have HO3 : Hid (Owns 2 w2 w.heap.size a3 m3 c3 (M.trim (M.sec zs 0))) := by
        show Owns _ _ _ _ _ _ _
        rw [← E0.out]; exact ho3.mono hsz
      have HO22 : Hid (Sees w2 a2 p1 c2 (M.secAt zs 1 k)) := (HO2.out.below hb3).sees
      have HB3 : Hid (Below w.heap.size w w2) := HBR.out.trans (hb3.mono hsz)
      clear ho3 hb3
      go_wp2_with fail
      refine (l2Trim_any _ HO22.out (by omega)).mono ?_
      rintro e w3 ⟨a4, m4, c4, rfl, ho4, hb4⟩
      have HO33 : Hid (Owns 2 w3 w.heap.size a3 m3 c3 (M.trim (M.sec zs 0))) := HO3.out.below hb4
      have HDJ4 : Hid (∀ x y, a3 = some x → a4 = some y → x.block ≠ y.block) := fun x y hx hy => by
        have h1 := HO3.out.hi x hx; have h2 := ho4.lo y hy; omega
      have HO4 : Hid (Owns 2 w3 w.heap.size a4 m4 c4 (M.trim (M.sec zs 1))) := by
        show Owns _ _ _ _ _ _ _
        rw [← E1.out]; exact ho4.mono HB3.out.size
      have HB4 : Hid (Below w.heap.size w w3) := HB3.out.trans (hb4.mono HB3.out.size)
      clear ho4 hb4
      go_wp2
      go_ret2
      exact ⟨a3, m3, c3, a4, m4, c4, rfl, HO33.out, HO4.out, HDJ4.out, HB4.out⟩
set_option maxHeartbeats 2000000 in
theorem specHalves_any {la : Option Addr} {n lc : Nat} {zs : List Int} (w : World) (hz : Sees w la n lc zs) :
    Calls Try.prog 15 #[.slice la n lc] w fun e w' => ∃ a1 l1 c1 a2 l2 c2, e = .returned (.tuple #[.slice a1 l1 c1, .slice a2 l2 c2]) ∧ l1 ≤ 128 ∧ l2 ≤ 128 ∧ Owns 2 w' w.heap.size a1 l1 c1 (M.hv zs 0) ∧ Owns 2 w' w.heap.size a2 l2 c2 (M.hv zs 1) ∧ (∀ x y, a1 = some x → a2 = some y → x.block ≠ y.block) ∧ Below w.heap.size w w' := by
  have HZ : Hid (Sees w la n lc zs) := hz
  have hlen := hz.len
  clear hz
  cases h : M.polyOk zs with
  | false =>
    have E : Hid (M.polyOk zs = false) := h
    have HO0 : Hid (Owns 2 ((w.alloc (.cells #[] 2)).alloc (.cells #[] 2)) w.heap.size (some ⟨w.heap.size, 0, none⟩) 0 0 []) := World.ownsRow.alloc (World.ownsRow_made w #[] 0 (Nat.le_refl _) (by unfold maxLen; omega) rfl) _
    have HO0' : Hid (Owns 2 ((w.alloc (.cells #[] 2)).alloc (.cells #[] 2)) w.heap.size (some ⟨w.heap.size + 1, 0, none⟩) 0 0 []) := by
      show Owns _ _ _ _ _ _ _
      have h := World.ownsRow_made (w.alloc (.cells #[] 2)) (e := 2) (size := 1) (base := w.heap.size) #[] 0 (by simp) (by unfold maxLen; omega) rfl
      rw [World.size_alloc] at h; exact h
    clear hlen
    go_enter Try.func15, Try.ntmps15
    go_wp2_with fail
    refine (specPolyOk_any _ HZ.out).mono ?_
    rintro e w ⟨rfl, rfl⟩
    go_wp2
    go_ret2
    exact ⟨_, 0, _, _, 0, _, rfl, by omega, by omega, by rw [M.hv_out E.out]; exact HO0.out, by rw [M.hv_out E.out]; exact HO0'.out, (fun x y hx hy => by cases hx; cases hy; simp), ((Below.refl _ _).alloc (Nat.le_refl _) _).alloc (by simp) _⟩
  | true =>
    have E : Hid (M.polyOk zs = true) := h
    have hn : n ≤ 128 := by have := (M.polyOk_parts h).1; omega
    have HL0 : Hid ((M.trim (M.sec zs 0)).length ≤ 128) := by show _ ≤ _; have := M.sec_le zs (f := 0); omega
    have HL1 : Hid ((M.trim (M.sec zs 1)).length ≤ 128) := by show _ ≤ _; have := M.sec_le zs (f := 1); omega
    clear hlen
    go_enter Try.func15, Try.ntmps15
    go_wp2_with fail
    refine (specPolyOk_any _ HZ.out).mono ?_
    rintro e w ⟨rfl, rfl⟩
    go_wp2_with fail
    refine (l4Halves_any _ HZ.out (by omega)).mono ?_
    rintro e w1 ⟨a1, l1, c1, a2, l2, c2, rfl, ho1, ho2, hdj, hb1⟩
    have m1 : l1 ≤ 128 := by rw [← ho1.len]; exact HL0.out
    have m2 : l2 ≤ 128 := by rw [← ho2.len]; exact HL1.out
    have HO1 : Hid (Owns 2 w1 w.heap.size a1 l1 c1 (M.hv zs 0)) := by show Owns _ _ _ _ _ _ _; rw [M.hv_in E.out]; exact ho1
    have HO2 : Hid (Owns 2 w1 w.heap.size a2 l2 c2 (M.hv zs 1)) := by show Owns _ _ _ _ _ _ _; rw [M.hv_in E.out]; exact ho2
    have HDJ : Hid (∀ x y, a1 = some x → a2 = some y → x.block ≠ y.block) := hdj
    have HB1 : Hid (Below w.heap.size w w1) := hb1
    clear ho1 ho2 hdj hb1
    go_wp2
    go_ret2
    exact ⟨a1, l1, c1, a2, l2, c2, rfl, m1, m2, HO1.out, HO2.out, HDJ.out, HB1.out⟩
set_option maxHeartbeats 2000000 in
theorem implHalves_any {la : Option Addr} {n lc : Nat} {zs : List Int} (w : World) (hz : Sees w la n lc zs) :
    Calls Try.prog 16 #[.slice la n lc] w fun e w' => ∃ a1 l1 c1 a2 l2 c2, e = .returned (.tuple #[.slice a1 l1 c1, .slice a2 l2 c2]) ∧ l1 ≤ 128 ∧ l2 ≤ 128 ∧ Owns 2 w' w.heap.size a1 l1 c1 (M.hv zs 0) ∧ Owns 2 w' w.heap.size a2 l2 c2 (M.hv zs 1) ∧ (∀ x y, a1 = some x → a2 = some y → x.block ≠ y.block) ∧ Below w.heap.size w w' := by
  have HZ : Hid (Sees w la n lc zs) := hz
  have hlen := hz.len
  clear hz
  cases h : M.polyOk zs with
  | false =>
    have E : Hid (M.polyOk zs = false) := h
    clear hlen
    go_enter Try.func16, Try.ntmps16
    go_wp2_with fail
    refine (implPolyOk_any _ HZ.out).mono ?_
    rintro e w ⟨rfl, rfl⟩
    go_wp2
    go_ret2
    exact ⟨none, 0, 0, none, 0, 0, rfl, by omega, by omega, by rw [M.hv_out E.out]; exact Owns.empty _ _ _, by rw [M.hv_out E.out]; exact Owns.empty _ _ _, (fun x y hx => by cases hx), Below.refl _ _⟩
  | true =>
    have E : Hid (M.polyOk zs = true) := h
    have hn : n ≤ 128 := by have := (M.polyOk_parts h).1; omega
    have HL0 : Hid ((M.trim (M.sec zs 0)).length ≤ 128) := by show _ ≤ _; have := M.sec_le zs (f := 0); omega
    have HL1 : Hid ((M.trim (M.sec zs 1)).length ≤ 128) := by show _ ≤ _; have := M.sec_le zs (f := 1); omega
    clear hlen
    go_enter Try.func16, Try.ntmps16
    go_wp2_with fail
    refine (implPolyOk_any _ HZ.out).mono ?_
    rintro e w ⟨rfl, rfl⟩
    go_wp2_with fail
    refine (elementsOf_any _ HZ.out (by omega)).mono ?_
    rintro e w1 ⟨a1, c1, rfl, ho1, hb1⟩
    have HO1 : Hid (Owns 52 w1 w.heap.size a1 n c1 zs) := ho1
    have HB1 : Hid (Below w.heap.size w w1) := hb1
    clear ho1 hb1
    go_wp2_with fail
    refine (halfOf_pos 0 (by omega) _ HO1.out.sees (by omega) HO1.out.hi).mono ?_
    rintro e w2 ⟨a2, m2, c2, rfl, ho2, hb2⟩
    have k2 : m2 ≤ 128 := by rw [← ho2.len]; exact HL0.out
    have HO2 : Hid (Sees w2 a2 m2 c2 (M.trim (M.sec zs 0))) := ho2.sees
    have HO12 : Hid (Owns 52 w2 w.heap.size a1 n c1 zs) := HO1.out.below hb2
    have HB2 : Hid (Below w.heap.size w w2) := HB1.out.trans (hb2.mono HB1.out.size)
    clear ho2 hb2
    go_wp2_with fail
    refine (numbersOf_any _ HO2.out (by omega)).mono ?_
    rintro e w3 ⟨a3, c3, rfl, ho3, hb3⟩
    have HO3 : Hid (Owns 2 w3 w.heap.size a3 m2 c3 (M.trim (M.sec zs 0))) := ho3.mono HB2.out.size
    have HO13 : Hid (Owns 52 w3 w.heap.size a1 n c1 zs) := HO12.out.below hb3
    have HB3 : Hid (Below w.heap.size w w3) := HB2.out.trans (hb3.mono HB2.out.size)
    clear ho3 hb3
    go_wp2_with fail
    refine (halfOf_pos 1 (by omega) _ HO13.out.sees (by omega) HO13.out.hi).mono ?_
    rintro e w4 ⟨a4, m4, c4, rfl, ho4, hb4⟩
    have k4 : m4 ≤ 128 := by rw [← ho4.len]; exact HL1.out
    have HO4 : Hid (Sees w4 a4 m4 c4 (M.trim (M.sec zs 1))) := ho4.sees
    have HO34 : Hid (Owns 2 w4 w.heap.size a3 m2 c3 (M.trim (M.sec zs 0))) := HO3.out.below hb4
    have HB4 : Hid (Below w.heap.size w w4) := HB3.out.trans (hb4.mono HB3.out.size)
    clear ho4 hb4
    go_wp2_with fail
    refine (numbersOf_any _ HO4.out (by omega)).mono ?_
    rintro e w5 ⟨a5, c5, rfl, ho5, hb5⟩
    have HDJ : Hid (∀ x y, a3 = some x → a5 = some y → x.block ≠ y.block) := fun x y hx hy => by
      have h1 := HO34.out.hi x hx; have h2 := ho5.lo y hy; omega
    have HO5 : Hid (Owns 2 w5 w.heap.size a5 m4 c5 (M.hv zs 1)) := by
      show Owns _ _ _ _ _ _ _
      rw [M.hv_in E.out]; exact ho5.mono HB4.out.size
    have HO35 : Hid (Owns 2 w5 w.heap.size a3 m2 c3 (M.hv zs 0)) := by
      show Owns _ _ _ _ _ _ _
      rw [M.hv_in E.out]; exact HO34.out.below hb5
    have HB5 : Hid (Below w.heap.size w w5) := HB4.out.trans (hb5.mono HB4.out.size)
    clear ho5 hb5
    go_wp2
    go_ret2
    exact ⟨a3, m2, c3, a5, m4, c5, rfl, k2, k4, HO35.out, HO5.out, HDJ.out, HB5.out⟩
end Go.Proofs.Ytjeoenieoejolah
