/- What FromEvals and Below answer, in the program and in its model. -/
import Derived.Test.YtbcfjbkmkknmfaaGreatDoorTrF
namespace Go.Proofs.YtbcfjbkmkknmfaaGreatDoor
open Go.RowKit

set_option maxHeartbeats 2000000 in
theorem placesVals_in {la : Option Addr} {lc N : Nat} {zs : List Int} (s : Int) (w : World) (hz : Sees w la N lc zs) (az : M.allEl zs = true) (hp : M.ptOk N s = true) :
    Calls Tryz.prog 149 #[.slice la N lc, .int .i64 s] w fun e w' => ∃ a' c', e = .returned (.tuple #[.agg #[.int .i64 N, .int .i64 s, .int .i64 (M.root N)], .slice a' N c', .bool true]) ∧ Owns 73 w' w.heap.size a' N c' zs ∧ Below w.heap.size w w' := by
  have HZ : Hid (Sees w la N lc zs) := hz
  have HP : Hid (M.ptOk N s = true) := hp
  have hN := (M.two64_bd (M.ptOk_parts hp).1).2
  have HBA : Hid (Below w.heap.size w (w.alloc (.cells #[Value.int .i64 0, Value.int .i64 0, Value.int .i64 0] 79))) := (Below.refl _ _).alloc (Nat.le_refl _) _
  clear hz hp
  go_enter Tryz.func149, Tryz.ntmps149
  go_wp2_with fail
  refine (placesOf_in N s _ HP.out).mono ?_
  rintro e w1 ⟨rfl, hb1⟩
  generalize hq : M.root N = q
  have HQ : Hid (M.root N = q) := hq
  clear hq
  have HB1 : Hid (Below w.heap.size w w1) := HBA.out.trans (hb1.mono (by simp))
  have HB1s : Hid (w.heap.size + 1 ≤ w1.heap.size) := by show _ ≤ _; have := hb1.size; simpa using this
  have HC1 : Hid (∀ W, Below w1.heap.size w1 W → W.cell? ⟨w.heap.size, 0, none⟩ = some (.int .i64 0) ∧ W.cell? ⟨w.heap.size, 1, none⟩ = some (.int .i64 0) ∧ W.cell? ⟨w.heap.size, 2, none⟩ = some (.int .i64 0) ∧ W.frozen? ⟨w.heap.size, 0, none⟩ = false ∧ W.frozen? ⟨w.heap.size, 1, none⟩ = false ∧ W.frozen? ⟨w.heap.size, 2, none⟩ = false) := fun W hW => by
    have hs : w.heap.size < w1.heap.size := by have := hb1.size; simp at this; omega
    refine ⟨(hW.cell (p := ⟨w.heap.size, 0, none⟩) hs).trans ((hb1.cell (p := ⟨w.heap.size, 0, none⟩) (by simp)).trans (by rw [World.cell?_alloc_new]; rfl)), (hW.cell (p := ⟨w.heap.size, 1, none⟩) hs).trans ((hb1.cell (p := ⟨w.heap.size, 1, none⟩) (by simp)).trans (by rw [World.cell?_alloc_new]; rfl)), (hW.cell (p := ⟨w.heap.size, 2, none⟩) hs).trans ((hb1.cell (p := ⟨w.heap.size, 2, none⟩) (by simp)).trans (by rw [World.cell?_alloc_new]; rfl)), (hW.frozen (p := ⟨w.heap.size, 0, none⟩) hs).trans ((hb1.frozen (p := ⟨w.heap.size, 0, none⟩) (by simp)).trans (by simp)), (hW.frozen (p := ⟨w.heap.size, 1, none⟩) hs).trans ((hb1.frozen (p := ⟨w.heap.size, 1, none⟩) (by simp)).trans (by simp)), (hW.frozen (p := ⟨w.heap.size, 2, none⟩) hs).trans ((hb1.frozen (p := ⟨w.heap.size, 2, none⟩) (by simp)).trans (by simp))⟩
  clear hb1
  have HBB : Hid (Below w1.heap.size w1 (w1.alloc (.cells #[Value.int .i64 N, Value.int .i64 s, Value.int .i64 q] 79))) := (Below.refl _ _).alloc (Nat.le_refl _) _
  have HBBd : Hid (Below w1.heap.size w1 (w1.alloc (.cells #[Value.int .i64 N, Value.int .i64 s, Value.int .i64 q] 79)).drew) := HBB.out.drew
  have HZB : Hid (Sees (w1.alloc (.cells #[Value.int .i64 N, Value.int .i64 s, Value.int .i64 q] 79)).drew la N lc zs) := (HZ.out.below HB1.out).below HBBd.out
  have HCl : Hid (∀ W, Below (w1.alloc (.cells #[Value.int .i64 N, Value.int .i64 s, Value.int .i64 q] 79)).drew.heap.size (w1.alloc (.cells #[Value.int .i64 N, Value.int .i64 s, Value.int .i64 q] 79)).drew W → W.cell? ⟨w1.heap.size, 0, none⟩ = some (.int .i64 N) ∧ W.cell? ⟨w1.heap.size, 1, none⟩ = some (.int .i64 s) ∧ W.cell? ⟨w1.heap.size, 2, none⟩ = some (.int .i64 q)) := fun W hW => by
    have hs : w1.heap.size < (w1.alloc (.cells #[Value.int .i64 N, Value.int .i64 s, Value.int .i64 q] 79)).heap.size := by simp
    have hW' := (Below.refl (w1.alloc (.cells #[Value.int .i64 N, Value.int .i64 s, Value.int .i64 q] 79)).heap.size (w1.alloc (.cells #[Value.int .i64 N, Value.int .i64 s, Value.int .i64 q] 79))).drew.trans hW
    refine ⟨(hW'.cell (p := ⟨w1.heap.size, 0, none⟩) hs).trans (by rw [World.cell?_alloc_new]; rfl), (hW'.cell (p := ⟨w1.heap.size, 1, none⟩) hs).trans (by rw [World.cell?_alloc_new]; rfl), (hW'.cell (p := ⟨w1.heap.size, 2, none⟩) hs).trans (by rw [World.cell?_alloc_new]; rfl)⟩
  go_wp2_with fail
  refine (allElements_any _ ((HZ.out.below HB1.out).below HBB.out)).mono ?_
  rintro e w2 ⟨rfl, rfl⟩
  rw [az]
  go_wp2
  go_region_with (go_at_call 112; refine (elementsOf_any _ HZB.out (by omega)).mono ?_; rintro e w3 ⟨a3, c3, rfl, ho3, hb3⟩; obtain ⟨g0, g1, g2⟩ := HCl.out _ hb3; obtain ⟨k0, k1, k2, k3, k4, k5⟩ := HC1.out _ (HBBd.out.trans (hb3.mono (by simp))))
  all_goals
    have HB3 : Hid (Below w.heap.size w w3) := HB1.out.trans ((HBBd.out.trans (hb3.mono (by simp))).mono HB1.out.size)
    have HLo : Hid (∀ x, a3 = some x → x.block ≠ w.heap.size) := fun x hx => by
      have h := ho3.lo x hx; have h2 := HB1s.out; simp at h; omega
    have HO3 : Hid (Owns 73 w3 w.heap.size a3 N c3 zs) := ho3.mono (by have h2 := HB1s.out; simp; omega)
    clear ho3 hb3 g0 g1 g2
    go_wp2
    refine bodyPost_ret (v := .tuple #[.agg #[.int .i64 N, .int .i64 s, .int .i64 q], .slice a3 N c3, .bool true]) (by simp [results, Tryz.results149, go_sem, k0, k1, k2]) rfl ⟨a3, c3, by rw [HQ.out], ?_, ((HB3.out.setCell (Nat.le_refl _) _).setCell (Nat.le_refl _) _).setCell (Nat.le_refl _) _⟩
    exact ((HO3.out.other ⟨w.heap.size, 0, none⟩ HLo.out _).other ⟨w.heap.size, 1, none⟩ HLo.out _).other ⟨w.heap.size, 2, none⟩ HLo.out _
set_option maxHeartbeats 2000000 in
theorem placesVals_out {la : Option Addr} {lc N : Nat} {zs : List Int} (s : Int) (w : World) (hz : Sees w la N lc zs) (hp : M.frOk zs s = false) :
    Calls Tryz.prog 149 #[.slice la N lc, .int .i64 s] w fun e w' => e = .returned (.tuple #[.agg #[.int .i64 0, .int .i64 0, .int .i64 0], .slice none 0 0, .bool false]) ∧ Below w.heap.size w w' := by
  have HZ : Hid (Sees w la N lc zs) := hz
  have HBA : Hid (Below w.heap.size w (w.alloc (.cells #[Value.int .i64 0, Value.int .i64 0, Value.int .i64 0] 79))) := (Below.refl _ _).alloc (Nat.le_refl _) _
  cases h : M.ptOk N s with
  | false =>
    have HP : Hid (M.ptOk N s = false) := h
    clear hz hp h
    go_enter Tryz.func149, Tryz.ntmps149
    go_wp2_with fail
    refine (placesOf_out N s _ HP.out).mono ?_
    rintro e w1 ⟨rfl, hb1⟩
    have HB1 : Hid (Below w.heap.size w w1) := HBA.out.trans (hb1.mono (by simp))
    have s0 := (hb1.cell (p := ⟨w.heap.size, 0, none⟩) (by simp)).trans (show _ = some (Value.int .i64 0) by rw [World.cell?_alloc_new]; rfl)
    have s1 := (hb1.cell (p := ⟨w.heap.size, 1, none⟩) (by simp)).trans (show _ = some (Value.int .i64 0) by rw [World.cell?_alloc_new]; rfl)
    have s2 := (hb1.cell (p := ⟨w.heap.size, 2, none⟩) (by simp)).trans (show _ = some (Value.int .i64 0) by rw [World.cell?_alloc_new]; rfl)
    have f0 := (hb1.frozen (p := ⟨w.heap.size, 0, none⟩) (by simp)).trans (show _ = false by simp)
    have f1 := (hb1.frozen (p := ⟨w.heap.size, 1, none⟩) (by simp)).trans (show _ = false by simp)
    have f2 := (hb1.frozen (p := ⟨w.heap.size, 2, none⟩) (by simp)).trans (show _ = false by simp)
    have hsz : w.heap.size < w1.heap.size := by have := hb1.size; simp at this; omega
    clear hb1
    go_wp2
    refine bodyPost_ret (v := .tuple #[.agg #[.int .i64 0, .int .i64 0, .int .i64 0], .slice none 0 0, .bool false]) (by simp [results, Tryz.results149, go_sem, hsz, s0, s1, s2]) rfl ⟨rfl, ?_⟩
    first | exact (((HB1.out.alloc HB1.out.size _).setCell (Nat.le_refl _) _).setCell (Nat.le_refl _) _).setCell (Nat.le_refl _) _ | exact (((HB1.out.setCell (Nat.le_refl _) _).setCell (Nat.le_refl _) _).setCell (Nat.le_refl _) _).alloc (by simpa using HB1.out.size) _
  | true =>
    have ha : M.allEl zs = false := by
      unfold M.frOk at hp; rw [hz.len, h] at hp; simpa using hp
    have HP : Hid (M.ptOk N s = true) := h
    clear hz hp h
    go_enter Tryz.func149, Tryz.ntmps149
    go_wp2_with fail
    refine (placesOf_in N s _ HP.out).mono ?_
    rintro e w1 ⟨rfl, hb1⟩
    generalize M.root N = q
    have HB1 : Hid (Below w.heap.size w w1) := HBA.out.trans (hb1.mono (by simp))
    have s0 := (hb1.cell (p := ⟨w.heap.size, 0, none⟩) (by simp)).trans (show _ = some (Value.int .i64 0) by rw [World.cell?_alloc_new]; rfl)
    have s1 := (hb1.cell (p := ⟨w.heap.size, 1, none⟩) (by simp)).trans (show _ = some (Value.int .i64 0) by rw [World.cell?_alloc_new]; rfl)
    have s2 := (hb1.cell (p := ⟨w.heap.size, 2, none⟩) (by simp)).trans (show _ = some (Value.int .i64 0) by rw [World.cell?_alloc_new]; rfl)
    have f0 := (hb1.frozen (p := ⟨w.heap.size, 0, none⟩) (by simp)).trans (show _ = false by simp)
    have f1 := (hb1.frozen (p := ⟨w.heap.size, 1, none⟩) (by simp)).trans (show _ = false by simp)
    have f2 := (hb1.frozen (p := ⟨w.heap.size, 2, none⟩) (by simp)).trans (show _ = false by simp)
    have hsz : w.heap.size < w1.heap.size := by have := hb1.size; simp at this; omega
    clear hb1
    go_wp2_with fail
    refine (allElements_any _ ((HZ.out.below HB1.out).below ((Below.refl _ _).alloc (Nat.le_refl _) _))).mono ?_
    rintro e w2 ⟨rfl, rfl⟩
    rw [ha]
    go_wp2
    refine bodyPost_ret (v := .tuple #[.agg #[.int .i64 0, .int .i64 0, .int .i64 0], .slice none 0 0, .bool false]) (by simp [results, Tryz.results149, go_sem, hsz, s0, s1, s2]) rfl ⟨rfl, ?_⟩
    first | exact (((HB1.out.alloc HB1.out.size _).setCell (Nat.le_refl _) _).setCell (Nat.le_refl _) _).setCell (Nat.le_refl _) _ | exact (((HB1.out.setCell (Nat.le_refl _) _).setCell (Nat.le_refl _) _).setCell (Nat.le_refl _) _).alloc (by simpa using HB1.out.size) _
set_option maxHeartbeats 2000000 in
theorem implFromEvals_any {la : Option Addr} {lc N : Nat} {zs : List Int} (s : Int) (w : World) (hz : Sees w la N lc zs) :
    Calls Tryz.prog 146 #[.slice la N lc, .int .i64 s] w fun e w' => ∃ a' m c', e = .returned (.tuple #[.slice a' m c', .bool (M.frOk zs s)]) ∧ m ≤ 64 ∧ Owns 2 w' w.heap.size a' m c' (M.frv zs s) ∧ Below w.heap.size w w' := by
  have HZ : Hid (Sees w la N lc zs) := hz
  cases h : M.frOk zs s with
  | false =>
    have E : Hid (M.frOk zs s = false) := h
    clear hz h
    go_enter Tryz.func146, Tryz.ntmps146
    go_wp2_with fail
    refine (placesVals_out s _ HZ.out E.out).mono ?_
    rintro e w1 ⟨rfl, hb1⟩
    have HB1 : Hid (Below w.heap.size w w1) := hb1
    clear hb1
    go_wp2
    go_ret2
    exact ⟨none, 0, 0, rfl, by omega, by rw [M.frv_out E.out]; exact Owns.empty _ _ _, HB1.out.alloc HB1.out.size _⟩
  | true =>
    have E : Hid (M.frOk zs s = true) := h
    obtain ⟨hp, az⟩ : M.ptOk N s = true ∧ M.allEl zs = true := by unfold M.frOk at h; rw [hz.len] at h; simpa using h
    have HP : Hid (M.ptOk N s = true) := hp
    have HA : Hid (M.allEl zs = true) := az
    have hN := (M.two64_bd (M.ptOk_parts hp).1).2
    have HLn : Hid ((M.frs zs s).length ≤ 64) := by show _ ≤ _; have := M.frs_len zs s; rw [hz.len] at this; omega
    clear hz h hp az
    go_enter Tryz.func146, Tryz.ntmps146
    go_wp2_with fail
    refine (placesVals_in s _ HZ.out HA.out HP.out).mono ?_
    rintro e w1 ⟨a1, c1, rfl, ho1, hb1⟩
    have HO1 : Hid (Owns 73 w1 w.heap.size a1 N c1 zs) := ho1
    have HB1 : Hid (Below w.heap.size w w1) := hb1
    clear ho1 hb1
    go_wp2_with fail
    refine (polyOf_any s _ (HO1.out.below ((Below.refl _ _).alloc (Nat.le_refl _) _)).sees HA.out HP.out).mono ?_
    rintro e w2 ⟨a2, m2, c2, rfl, ho2, hb2⟩
    have hm2 : m2 ≤ 64 := by rw [← ho2.len]; exact HLn.out
    have HB2 : Hid (Below w.heap.size w w2) := (HB1.out.alloc HB1.out.size _).trans (hb2.mono (by have := HB1.out.size; simp; omega))
    have HO2 : Hid (Sees w2 a2 m2 c2 (M.frs zs s)) := ho2.sees
    clear ho2 hb2
    go_wp2_with fail
    refine (numbersOf_any _ HO2.out (by omega)).mono ?_
    rintro e w3 ⟨a3, c3, rfl, ho3, hb3⟩
    have HO3 : Hid (Owns 2 w3 w.heap.size a3 m2 c3 (M.frv zs s)) := by
      show Owns _ _ _ _ _ _ _
      rw [M.frv_in E.out]; exact ho3.mono HB2.out.size
    have HB3 : Hid (Below w.heap.size w w3) := HB2.out.trans (hb3.mono HB2.out.size)
    clear ho3 hb3
    go_wp2
    go_ret2
    exact ⟨a3, m2, c3, rfl, hm2, HO3.out, HB3.out⟩
end Go.Proofs.YtbcfjbkmkknmfaaGreatDoor
