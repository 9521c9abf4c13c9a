/- What Evals answers, in the program and in its model. -/
import Derived.Test.YtjeoenieoejolagTrD
namespace Go.Proofs.Ytjeoenieoejolag
open Go.RowKit

def M.evOk (zs : List Int) (n s : Int) : Bool := M.polyOk zs && M.ptOk n s
def M.evv (zs : List Int) (n s : Int) : List Int := if M.evOk zs n s = true then M.evs zs s (M.root n) n.toNat else []
theorem M.evv_in {zs : List Int} {n s : Int} (h : M.evOk zs n s = true) : M.evv zs n s = M.evs zs s (M.root n) n.toNat := if_pos h
theorem M.evv_out {zs : List Int} {n s : Int} (h : M.evOk zs n s = false) : M.evv zs n s = [] := if_neg (by rw [h]; decide)
theorem M.evOk_parts {zs : List Int} {n s : Int} (h : M.evOk zs n s = true) : M.polyOk zs = true ∧ M.ptOk n s = true := by
  unfold M.evOk at h; simpa using h
/-- the points while their values are laid over them -/
def M.evAt (zs : List Int) (s q : Int) (N k : Nat) : List Int := M.tab N (fun i => if i < k then M.ev zs (s * q ^ i % 65537) else s * q ^ i % 65537)
theorem M.evAt_zero (zs : List Int) (s q : Int) (N : Nat) : M.gp s q N = M.evAt zs s q N 0 := M.tab_congr fun _ _ => (if_neg (by omega)).symm
theorem M.evAt_end (zs : List Int) (s q : Int) (N : Nat) : M.evAt zs s q N N = M.evs zs s q N := M.tab_congr fun _ hi => if_pos hi
theorem M.evAt_step (zs : List Int) (s q : Int) {N k : Nat} : (M.evAt zs s q N k).set k (M.ev zs (s * q ^ k % 65537)) = M.evAt zs s q N (k + 1) := by
  unfold M.evAt
  rw [M.tab_set]
  refine M.tab_congr fun i _ => ?_
  by_cases e : i = k
  · subst e; rw [if_pos rfl, if_pos (by omega)]
  · rw [if_neg e]
    by_cases e2 : i < k
    · rw [if_pos e2, if_pos (by omega)]
    · rw [if_neg e2, if_neg (by omega)]

set_option maxHeartbeats 2000000 in
theorem l3Evals_any {la : Option Addr} {n lc : Nat} {zs : List Int} (N : Nat) (s : Int) (w : World) (hz : Sees w la n lc zs) (az : M.allEl zs = true) (hp : M.ptOk N s = true) :
    Calls Try.prog 47 #[.slice la n lc, .int .i64 N, .int .i64 s] w fun e w' => ∃ a' c', e = .returned (.slice a' N c') ∧ Owns 2 w' w.heap.size a' N c' (M.evs zs s (M.root N) N) ∧ Below w.heap.size w w' := by
  have HZ : Hid (Sees w la n lc zs) := hz
  have HA : Hid (M.allEl zs = true) := az
  have HP : Hid (M.ptOk N s = true) := hp
  have hN := (M.two64_bd (M.ptOk_parts hp).1).2
  clear hz az hp
  go_enter Try.func47, Try.ntmps47
  go_wp2_with fail
  refine (l3Points_any N s _ HP.out).mono ?_
  rintro e w1 ⟨a1, c1, rfl, ho1, hb1⟩
  generalize hq : M.root N = q at ho1
  have HQ : Hid (M.root N = q) := hq
  clear hq
  have HO1 : Hid (Owns 2 w1 w.heap.size a1 N c1 (M.evAt zs s q N 0)) := by
    show Owns _ _ _ _ _ _ _
    rw [← M.evAt_zero]; exact ho1
  have HB1 : Hid (Below w.heap.size w w1) := hb1
  clear ho1 hb1
  go_wp2
  go_loopw [8] (fun i wr => ∃ k : Nat, k ≤ N ∧ i = .int .i64 k ∧ Owns 2 wr w.heap.size a1 N c1 (M.evAt zs s q N k) ∧ Below w.heap.size w wr) (fun i _ => N - (intOf i).toNat)
  case atStart => exact ⟨0, by omega, rfl, HO1.out, HB1.out⟩
  case round =>
    obtain ⟨k, hk, rfl, hor, hbr⟩ := hrel
    have HOR : Hid (Owns 2 wr w.heap.size a1 N c1 (M.evAt zs s q N k)) := hor
    have HBR : Hid (Below w.heap.size w wr) := hbr
    clear hor hbr HO1 HB1
    by_cases hlt : k < N
    · obtain ⟨g, rfl, hg0, _, hc, hf⟩ := HOR.out.block (by omega)
      have d1 := hc k hlt
      have e1 := hf k
      have hx : (M.evAt zs s q N k).getD k 0 = s * q ^ k % 65537 := by
        unfold M.evAt; rw [M.tab_get _ _ _ hlt, if_neg (by omega)]
      rw [hx] at d1
      have HST : Hid ((M.evAt zs s q N k).set k (M.ev zs (s * q ^ k % 65537)) = M.evAt zs s q N (k + 1)) := M.evAt_step zs s q
      have x01 : 0 ≤ s * q ^ k % 65537 ∧ s * q ^ k % 65537 < 65537 := by omega
      have hI : (k : Int) < (N : Int) := by omega
      clear hc hf hx
      generalize s * q ^ k % 65537 = x at d1 x01 HST
      obtain ⟨x0, x1⟩ := x01
      go_wp2_with fail
      refine (l2At_any x _ (HZ.out.below HBR.out) HA.out x0 x1).mono ?_
      rintro e wr ⟨rfl, rfl⟩
      go_wp2
      go_roundw
      case rel => exact ⟨k + 1, by omega, by go_num, by rw [← HST.out]; exact HOR.out.set k _, HBR.out.setCell hg0 _⟩
      case measure => simp [intOf]; omega
    · have hkn : k = N := by omega
      subst hkn
      go_wp2
      go_ret
      refine ⟨a1, c1, rfl, ?_, HBR.out⟩
      rw [HQ.out, ← M.evAt_end]; exact HOR.out
set_option maxHeartbeats 1000000 in
theorem specEvals_any {la : Option Addr} {l lc : Nat} {zs : List Int} (n s : Int) (w : World) (hz : Sees w la l lc zs) :
    Calls Try.prog 23 #[.slice la l lc, .int .i64 n, .int .i64 s] w fun e w' => ∃ a' m c', e = .returned (.tuple #[.slice a' m c', .bool (M.evOk zs n s)]) ∧ m ≤ 64 ∧ Owns 2 w' w.heap.size a' m c' (M.evv zs n s) ∧ Below w.heap.size w w' := by
  have HZ : Hid (Sees w la l lc zs) := hz
  clear hz
  cases h1 : M.polyOk zs with
  | false =>
    have E : Hid (M.evOk zs n s = false) := by show _ = _; simp [M.evOk, h1]
    go_enter Try.func23, Try.ntmps23
    go_wp2_with fail
    refine (specPolyOk_any _ HZ.out).mono ?_
    rintro e w ⟨rfl, rfl⟩
    go_wp2
    go_ret2
    exact ⟨none, 0, 0, by rw [E.out]; rfl, by omega, by rw [M.evv_out E.out]; exact Owns.empty _ _ _, Below.refl _ _⟩
  | true =>
    cases h2 : M.ptOk n s with
    | false =>
      have E : Hid (M.evOk zs n s = false) := by show _ = _; simp [M.evOk, h2]
      go_enter Try.func23, Try.ntmps23
      go_wp2_with fail
      refine (specPolyOk_any _ HZ.out).mono ?_
      rintro e w ⟨rfl, rfl⟩
      go_wp2_with fail
      refine (l3Ok_any n s _).mono ?_
      rintro e w ⟨rfl, rfl⟩
      go_wp2
      go_ret2
      exact ⟨none, 0, 0, by rw [E.out]; rfl, by omega, by rw [M.evv_out E.out]; exact Owns.empty _ _ _, Below.refl _ _⟩
    | true =>
      have E : Hid (M.evOk zs n s = true) := by show _ = _; simp [M.evOk, h1, h2]
      obtain ⟨N, rfl, hN, _⟩ := M.ptOk_nat h2
      have HA : Hid (M.allEl zs = true) := (M.polyOk_parts h1).2
      have HP : Hid (M.ptOk N s = true) := h2
      go_enter Try.func23, Try.ntmps23
      go_wp2_with fail
      refine (specPolyOk_any _ HZ.out).mono ?_
      rintro e w ⟨rfl, rfl⟩
      go_wp2_with fail
      refine (l3Ok_any N s _).mono ?_
      rintro e w ⟨rfl, rfl⟩
      go_wp2_with fail
      refine (l3Evals_any N s _ HZ.out HA.out HP.out).mono ?_
      rintro e w1 ⟨a1, c1, rfl, ho1, hb1⟩
      have HO1 : Hid (Owns 2 w1 w.heap.size a1 N c1 (M.evv zs N s)) := by
        show Owns _ _ _ _ _ _ _
        rw [M.evv_in E.out, Int.toNat_natCast]; exact ho1
      have HB1 : Hid (Below w.heap.size w w1) := hb1
      clear ho1 hb1
      go_wp2
      go_ret2
      exact ⟨a1, N, c1, by rw [E.out]; rfl, hN, HO1.out, HB1.out⟩
set_option maxHeartbeats 2000000 in
theorem implEvals_any {la : Option Addr} {l lc : Nat} {zs : List Int} (n s : Int) (w : World) (hz : Sees w la l lc zs) :
    Calls Try.prog 24 #[.slice la l lc, .int .i64 n, .int .i64 s] w fun e w' => ∃ a' m c', e = .returned (.tuple #[.slice a' m c', .bool (M.evOk zs n s)]) ∧ m ≤ 64 ∧ Owns 2 w' w.heap.size a' m c' (M.evv zs n s) ∧ Below w.heap.size w w' := by
  have HZ : Hid (Sees w la l lc zs) := hz
  have hlen := hz.len
  clear hz
  cases h2 : M.ptOk n s with
  | false =>
    have E : Hid (M.evOk zs n s = false) := by show _ = _; simp [M.evOk, h2]
    have HP : Hid (M.ptOk n s = false) := h2
    clear hlen h2
    go_enter Try.func24, Try.ntmps24
    go_wp2_with fail
    refine (placesOf_out n s _ HP.out).mono ?_
    rintro e w1 ⟨rfl, hb1⟩
    have HB1 : Hid (Below w.heap.size w w1) := hb1
    clear hb1
    go_wp2
    go_ret2
    exact ⟨none, 0, 0, by rw [E.out]; rfl, by omega, by rw [M.evv_out E.out]; exact Owns.empty _ _ _, HB1.out.alloc HB1.out.size _⟩
  | true =>
    cases h1 : M.polyOk zs with
    | false =>
      have E : Hid (M.evOk zs n s = false) := by show _ = _; simp [M.evOk, h1]
      have HP : Hid (M.ptOk n s = true) := h2
      clear hlen h2
      go_enter Try.func24, Try.ntmps24
      go_wp2_with fail
      refine (placesOf_in n s _ HP.out).mono ?_
      rintro e w1 ⟨rfl, hb1⟩
      have HB1 : Hid (Below w.heap.size w w1) := hb1
      clear hb1
      go_wp2_with fail
      refine (implPolyOk_any _ (HZ.out.below (HB1.out.alloc HB1.out.size _))).mono ?_
      rintro e w2 ⟨rfl, rfl⟩
      go_wp2
      go_ret2
      exact ⟨none, 0, 0, by rw [E.out]; rfl, by omega, by rw [M.evv_out E.out]; exact Owns.empty _ _ _, HB1.out.alloc HB1.out.size _⟩
    | true =>
      have E : Hid (M.evOk zs n s = true) := by show _ = _; simp [M.evOk, h1, h2]
      obtain ⟨N, rfl, hN, _⟩ := M.ptOk_nat h2
      have HA : Hid (M.allEl zs = true) := (M.polyOk_parts h1).2
      have hl : l ≤ 128 := by have := (M.polyOk_parts h1).1; omega
      have HP : Hid (M.ptOk N s = true) := h2
      clear hlen h2
      go_enter Try.func24, Try.ntmps24
      go_wp2_with fail
      refine (placesOf_in N s _ HP.out).mono ?_
      rintro e w1 ⟨rfl, hb1⟩
      have HB1 : Hid (Below w.heap.size w w1) := hb1
      clear hb1
      go_wp2_with fail
      refine (implPolyOk_any _ (HZ.out.below (HB1.out.alloc HB1.out.size _))).mono ?_
      rintro e w2 ⟨rfl, rfl⟩
      generalize hq : M.root N = q
      have HQ : Hid (M.root N = q) := hq
      clear hq
      have HBA : Hid (Below w.heap.size w (w1.alloc (.cells #[Value.int .i64 N, Value.int .i64 s, Value.int .i64 q] 60))) := HB1.out.alloc HB1.out.size _
      have HBD : Hid (Below w.heap.size w (w1.alloc (.cells #[Value.int .i64 N, Value.int .i64 s, Value.int .i64 q] 60)).drew) := HBA.out.drew
      have HZD : Hid (Sees (w1.alloc (.cells #[Value.int .i64 N, Value.int .i64 s, Value.int .i64 q] 60)).drew la l lc zs) := HZ.out.below HBD.out
      have HCl : Hid (∀ W, Below (w1.alloc (.cells #[Value.int .i64 N, Value.int .i64 s, Value.int .i64 q] 60)).drew.heap.size (w1.alloc (.cells #[Value.int .i64 N, Value.int .i64 s, Value.int .i64 q] 60)).drew W → W.cell? ⟨w1.heap.size, 0, none⟩ = some (.int .i64 N) ∧ W.cell? ⟨w1.heap.size, 1, none⟩ = some (.int .i64 s) ∧ W.cell? ⟨w1.heap.size, 2, none⟩ = some (.int .i64 q)) := fun W hW => by
        have hs : w1.heap.size < (w1.alloc (.cells #[Value.int .i64 N, Value.int .i64 s, Value.int .i64 q] 60)).heap.size := by simp
        have hW' := (Below.refl (w1.alloc (.cells #[Value.int .i64 N, Value.int .i64 s, Value.int .i64 q] 60)).heap.size (w1.alloc (.cells #[Value.int .i64 N, Value.int .i64 s, Value.int .i64 q] 60))).drew.trans hW
        refine ⟨(hW'.cell (p := ⟨w1.heap.size, 0, none⟩) hs).trans (by rw [World.cell?_alloc_new]; rfl), (hW'.cell (p := ⟨w1.heap.size, 1, none⟩) hs).trans (by rw [World.cell?_alloc_new]; rfl), (hW'.cell (p := ⟨w1.heap.size, 2, none⟩) hs).trans (by rw [World.cell?_alloc_new]; rfl)⟩
      have HVal : Hid (∀ (ea : Option Addr) (ec : Nat) (W : World), Sees W ea l ec zs → Calls Try.prog 49 #[.agg #[.int .i64 N, .int .i64 s, .int .i64 q], .slice ea l ec] W fun e w' => ∃ a' c', e = .returned (.slice a' N c') ∧ Owns 50 w' W.heap.size a' N c' (M.evs zs s q N) ∧ Below W.heap.size W w') := fun ea ec W hW => by
        have := valuesOf_any (N := N) s W hW HA.out (by omega) HP.out
        rw [HQ.out] at this; exact this
      go_wp2
      go_region_with (first
        | (go_at_call 50; refine (elementsOf_any _ HZD.out (by omega)).mono ?_; rintro e w3 ⟨a3, c3, rfl, ho3, hb3⟩; obtain ⟨g0, g1, g2⟩ := HCl.out _ hb3)
        | (go_at_call 49; refine (HVal.out _ _ _ ho3.sees).mono ?_; rintro e w4 ⟨a4, c4, rfl, ho4, hb4⟩)
        | (go_at_call 28; refine (numbersOf_any _ ho4.sees (by omega)).mono ?_; rintro e w5 ⟨a5, c5, rfl, ho5, hb5⟩))
      all_goals
        have HB3 : Hid (Below w.heap.size w w3) := HBD.out.trans (hb3.mono HBD.out.size)
        have HB4 : Hid (Below w.heap.size w w4) := HB3.out.trans (hb4.mono HB3.out.size)
        have HB5 : Hid (Below w.heap.size w w5) := HB4.out.trans (hb5.mono HB4.out.size)
        have HO5 : Hid (Owns 2 w5 w.heap.size a5 N c5 (M.evv zs N s)) := by
          show Owns _ _ _ _ _ _ _
          rw [M.evv_in E.out, Int.toNat_natCast, HQ.out]; exact ho5.mono HB4.out.size
        clear ho3 hb3 ho4 hb4 ho5 hb5
        go_wp2
        go_ret2
        exact ⟨a5, N, c5, by rw [E.out]; rfl, hN, HO5.out, HB5.out⟩
end Go.Proofs.Ytjeoenieoejolag
