/- Rules and machines made of what is handed in, in the program. A machine behind an interface, in the program. -/
import Derived.Test.YtfhknkppiidnkaaGreatMaC
import Derived.Test.YtfhknkppiidnkaaGreatMaS
import Derived.BigRegion
namespace Go.Proofs.YtfhknkppiidnkaaGreat
open Go.RowKit

theorem frozen_new (w : World) (A B C : Array Value) (t1 t2 t3 : TypeId) (i : Nat) :
    (((w.alloc (.cells A t1)).alloc (.cells B t2)).alloc (.cells C t3)).frozen? ⟨w.heap.size + 1, i, none⟩ = false := by
  rw [frozen?_alloc_cells, frozen?_alloc_cells, frozen?_alloc_cells]; simp only [World.frozen?]; rw [Array.getElem?_eq_none (by omega)]
set_option maxHeartbeats 2000000 in
theorem ruleOf_any (r : M.Rl) (w : World) : Calls Tryz.prog 125 #[rlv r] w fun e w' => ∃ r' : M.Rl, e = .returned (.tuple #[rlv r', .bool r.ok]) ∧ (r.ok = true → r' = r) ∧ Below w.heap.size w w' := by
  have HS : Hid (∀ (W : World) (g : Nat), W.heap.size = g → Sees (W.alloc (.cells #[.int .i64 r.xx, .int .i64 r.xy, .int .i64 r.yy, .int .i64 r.x, .int .i64 r.y, .int .i64 r.k] 2)) (some ⟨g, 0, none⟩) 6 6 r.nums) := fun W g hg => rl_sees W g hg r _
  have HO : Hid (M.allEl r.nums = r.ok) := rfl
  have HN : Hid (r.nums = [r.xx, r.xy, r.yy, r.x, r.y, r.k]) := rfl
  cases hok : r.ok with
  | false =>
    rw [hok] at HO
    clear hok
    dsimp only [rlv]
    obtain ⟨a, b, c, d, f, k⟩ := r
    dsimp only at HS ⊢
    generalize M.Rl.nums ⟨a, b, c, d, f, k⟩ = zs at HS HO
    clear HN
    go_enter Tryz.func125, Tryz.ntmps125
    go_wp2_with fail
    refine (allElements_any _ (HS.out _ _ (by simp))).mono ?_
    rintro e w' ⟨rfl, rfl⟩
    rw [HO.out]
    go_wp2
    refine bodyPost_ret (v := .tuple #[rlv ⟨0, 0, 0, 0, 0, 0⟩, .bool false]) (by simp [results, Tryz.results125, go_sem]) rfl ⟨⟨0, 0, 0, 0, 0, 0⟩, rfl, fun h => by simp at h, ?_⟩
    exact (((Below.refl _ _).alloc (Nat.le_refl _) _).alloc (by simp) _).alloc (by simp; omega) _
  | true =>
    rw [hok] at HO
    clear hok
    dsimp only [rlv]
    obtain ⟨a, b, c, d, f, k⟩ := r
    dsimp only at HS HN ⊢
    generalize M.Rl.nums ⟨a, b, c, d, f, k⟩ = zs at HS HO HN
    go_enter Tryz.func125, Tryz.ntmps125
    go_wp2_with fail
    refine (allElements_any _ (HS.out _ _ (by simp))).mono ?_
    rintro e w' ⟨rfl, rfl⟩
    rw [HO.out]
    go_wp2_with fail
    refine (elementsOf_any _ (HS.out _ _ (by simp)) (by omega)).mono ?_
    rintro e w1 ⟨a1, c1, rfl, ho, hb⟩
    have HB : Hid (Below w.heap.size w w1) := ((((Below.refl _ _).alloc (Nat.le_refl _) _).alloc (by simp) _).alloc (by simp; omega) _).trans (hb.mono (by simp; omega))
    have hc : ∀ i, w1.cell? ⟨w.heap.size + 1, i, none⟩ = #[Value.int .i64 0, .int .i64 0, .int .i64 0, .int .i64 0, .int .i64 0, .int .i64 0][i]? := fun i => (hb.cell (p := ⟨w.heap.size + 1, i, none⟩) (by simp)).trans (chain3m w _ _ _ _ _ _ i).2.1
    have hf : ∀ i, w1.frozen? ⟨w.heap.size + 1, i, none⟩ = false := fun i => (frozen_kept hb (show w.heap.size + 1 < _ by simp)).trans (frozen_new w _ _ _ _ _ _ i)
    obtain ⟨g, rfl, hg, hlt, hcg, -⟩ := ho.block (by omega)
    have hgne : g ≠ w.heap.size + 1 := by simp at hg; omega
    rw [HN.out] at hcg
    have d0 : w1.cell? ⟨g, 0, none⟩ = some (.int .i64 a) := hcg 0 (by omega)
    have d1 : w1.cell? ⟨g, 1, none⟩ = some (.int .i64 b) := hcg 1 (by omega)
    have d2 : w1.cell? ⟨g, 2, none⟩ = some (.int .i64 c) := hcg 2 (by omega)
    have d3 : w1.cell? ⟨g, 3, none⟩ = some (.int .i64 d) := hcg 3 (by omega)
    have d4 : w1.cell? ⟨g, 4, none⟩ = some (.int .i64 f) := hcg 4 (by omega)
    have d5 : w1.cell? ⟨g, 5, none⟩ = some (.int .i64 k) := hcg 5 (by omega)
    have r0 : w1.cell? ⟨w.heap.size + 1, 0, none⟩ = some (.int .i64 0) := hc 0
    have r1 : w1.cell? ⟨w.heap.size + 1, 1, none⟩ = some (.int .i64 0) := hc 1
    have r2 : w1.cell? ⟨w.heap.size + 1, 2, none⟩ = some (.int .i64 0) := hc 2
    have r3 : w1.cell? ⟨w.heap.size + 1, 3, none⟩ = some (.int .i64 0) := hc 3
    have r4 : w1.cell? ⟨w.heap.size + 1, 4, none⟩ = some (.int .i64 0) := hc 4
    have r5 : w1.cell? ⟨w.heap.size + 1, 5, none⟩ = some (.int .i64 0) := hc 5
    have f0 := hf 0
    have f1 := hf 1
    have f2 := hf 2
    have f3 := hf 3
    have f4 := hf 4
    have f5 := hf 5
    have hcap : (6 : Int) ≤ c1 := by have := ho.cap_le; omega
    clear hc hf hcg ho hb HS HO HN hg hlt
    go_wp2
    go_region
    have hl : w.heap.size ≤ w.heap.size + 1 := by omega
    obtain ⟨w2, hw2⟩ : ∃ w2, w2 = sets w1 (w.heap.size + 1) 0 [.int .i64 a, .int .i64 b, .int .i64 c, .int .i64 d, .int .i64 f, .int .i64 k] := ⟨_, rfl⟩
    have HW : Hid (Below w.heap.size w w2) := by rw [hw2]; exact sets_below hl _ _ _ HB.out
    have ha := sets_at (w.heap.size + 1) [Value.int .i64 a, .int .i64 b, .int .i64 c, .int .i64 d, .int .i64 f, .int .i64 k] w1 0 (fun j hj => by
      match j, hj with
      | 0, _ => exact ⟨_, r0⟩
      | 1, _ => exact ⟨_, r1⟩
      | 2, _ => exact ⟨_, r2⟩
      | 3, _ => exact ⟨_, r3⟩
      | 4, _ => exact ⟨_, r4⟩
      | 5, _ => exact ⟨_, r5⟩)
    rw [← hw2] at ha
    have e0 := ha 0 _ rfl
    have e1 := ha 1 _ rfl
    have e2 := ha 2 _ rfl
    have e3 := ha 3 _ rfl
    have e4 := ha 4 _ rfl
    have e5 := ha 5 _ rfl
    unfold sets sets sets sets sets sets sets at hw2
    rw [← hw2]
    clear ha hw2 r0 r1 r2 r3 r4 r5 d0 d1 d2 d3 d4 d5 f0 f1 f2 f3 f4 f5
    simp only [Nat.zero_add] at e0 e1 e2 e3 e4 e5
    go_wp2
    refine bodyPost_ret (v := .tuple #[.agg #[.int .i64 a, .int .i64 b, .int .i64 c, .int .i64 d, .int .i64 f, .int .i64 k], .bool true]) (by simp [results, Tryz.results125, go_sem, e0, e1, e2, e3, e4, e5]) rfl ⟨⟨a, b, c, d, f, k⟩, rfl, fun _ => rfl, HW.out.drew⟩
end Go.Proofs.YtfhknkppiidnkaaGreat
namespace Go.Proofs.YtfhknkppiidnkaaGreat
open Go.RowKit

set_option maxHeartbeats 2000000 in
theorem stepperOf_any (m : M.Mc) (w : World) : Calls Tryz.prog 91 #[mcv m] w fun e w' => ∃ m' : M.Mc, e = .returned (.tuple #[.iface 190 (mcv m'), .bool m.ok]) ∧ (m.ok = true → m' = m) ∧ Below w.heap.size w w' := by
  have C1 : ∀ w, Calls Tryz.prog 125 #[rlv m.X] w fun e w' => ∃ r' : M.Rl, e = .returned (.tuple #[rlv r', .bool m.X.ok]) ∧ (m.X.ok = true → r' = m.X) ∧ Below w.heap.size w w' := ruleOf_any m.X
  have C2 : ∀ w, Calls Tryz.prog 125 #[rlv m.Y] w fun e w' => ∃ r' : M.Rl, e = .returned (.tuple #[rlv r', .bool m.Y.ok]) ∧ (m.Y.ok = true → r' = m.Y) ∧ Below w.heap.size w w' := ruleOf_any m.Y
  have HM : Hid (∀ r1 r2 : M.Rl, (m.X.ok = true → r1 = m.X) → (m.Y.ok = true → r2 = m.Y) → m.ok = true → (⟨r1, r2⟩ : M.Mc) = m) := fun r1 r2 h1 h2 h => by
    unfold M.Mc.ok at h; rw [Bool.and_eq_true] at h; rw [h1 h.1, h2 h.2]
  have HO : Hid (m.ok = (m.X.ok && m.Y.ok)) := rfl
  obtain ⟨⟨a, b, c, d, f, k⟩, ⟨a', b', c', d', f', k'⟩⟩ := m
  dsimp only [mcv, rlv] at C1 C2 HM HO ⊢
  generalize M.Rl.ok ⟨a, b, c, d, f, k⟩ = o1 at C1 HM HO ⊢
  generalize M.Rl.ok ⟨a', b', c', d', f', k'⟩ = o2 at C2 HM HO ⊢
  generalize M.Mc.ok ⟨⟨a, b, c, d, f, k⟩, ⟨a', b', c', d', f', k'⟩⟩ = o at HM HO ⊢
  have hT : ∀ W, Below (w.alloc (.cells #[.int .i64 a, .int .i64 b, .int .i64 c, .int .i64 d, .int .i64 f, .int .i64 k, .int .i64 a', .int .i64 b', .int .i64 c', .int .i64 d', .int .i64 f', .int .i64 k'] 41)).heap.size (w.alloc (.cells #[.int .i64 a, .int .i64 b, .int .i64 c, .int .i64 d, .int .i64 f, .int .i64 k, .int .i64 a', .int .i64 b', .int .i64 c', .int .i64 d', .int .i64 f', .int .i64 k'] 41)) W → ∀ i, W.cell? ⟨w.heap.size, i, none⟩ = #[Value.int .i64 a, .int .i64 b, .int .i64 c, .int .i64 d, .int .i64 f, .int .i64 k, .int .i64 a', .int .i64 b', .int .i64 c', .int .i64 d', .int .i64 f', .int .i64 k'][i]? := fun W hb i => (hb.cell (p := ⟨w.heap.size, i, none⟩) (by simp)).trans (World.cell?_alloc_new _ _ _ _)
  have HT : Hid _ := hT
  clear hT
  go_enter Tryz.func91, Tryz.ntmps91
  go_wp2_with fail
  refine (C1 _).mono ?_
  rintro e w1 ⟨⟨b1, b2, b3, b4, b5, b6⟩, rfl, hE1, hb1⟩
  have hc := HT.out _ hb1
  have h6 : w1.cell? ⟨w.heap.size, 6, none⟩ = some (.int .i64 a') := hc 6
  have h7 : w1.cell? ⟨w.heap.size, 7, none⟩ = some (.int .i64 b') := hc 7
  have h8 : w1.cell? ⟨w.heap.size, 8, none⟩ = some (.int .i64 c') := hc 8
  have h9 : w1.cell? ⟨w.heap.size, 9, none⟩ = some (.int .i64 d') := hc 9
  have h10 : w1.cell? ⟨w.heap.size, 10, none⟩ = some (.int .i64 f') := hc 10
  have h11 : w1.cell? ⟨w.heap.size, 11, none⟩ = some (.int .i64 k') := hc 11
  have HB1 : Hid (Below w.heap.size w w1) := ((Below.refl _ _).alloc (Nat.le_refl _) _).trans (hb1.mono (by simp))
  have hlt : w.heap.size < w1.heap.size := by have := hb1.size; simp at this; omega
  have HE1 : Hid (o1 = true → (⟨b1, b2, b3, b4, b5, b6⟩ : M.Rl) = ⟨a, b, c, d, f, k⟩) := hE1
  clear hc hb1 hE1
  go_wp2_with fail
  refine (C2 _).mono ?_
  rintro e w2 ⟨⟨d1, d2, d3, d4, d5, d6⟩, rfl, hE2, hb2⟩
  have hc : ∀ i, w2.cell? ⟨w1.heap.size, i, none⟩ = #[Value.int .i64 b1, .int .i64 b2, .int .i64 b3, .int .i64 b4, .int .i64 b5, .int .i64 b6][i]? := fun i => (hb2.cell (p := ⟨w1.heap.size, i, none⟩) (by simp)).trans (World.cell?_alloc_new _ _ _ _)
  have g0 : w2.cell? ⟨w1.heap.size, 0, none⟩ = some (.int .i64 b1) := hc 0
  have g1 : w2.cell? ⟨w1.heap.size, 1, none⟩ = some (.int .i64 b2) := hc 1
  have g2 : w2.cell? ⟨w1.heap.size, 2, none⟩ = some (.int .i64 b3) := hc 2
  have g3 : w2.cell? ⟨w1.heap.size, 3, none⟩ = some (.int .i64 b4) := hc 3
  have g4 : w2.cell? ⟨w1.heap.size, 4, none⟩ = some (.int .i64 b5) := hc 4
  have g5 : w2.cell? ⟨w1.heap.size, 5, none⟩ = some (.int .i64 b6) := hc 5
  have HB2 : Hid (Below w.heap.size w w2) := (HB1.out.alloc HB1.out.size _).trans (hb2.mono (by simp; omega))
  have hlt2 : w1.heap.size < w2.heap.size := by have := hb2.size; simp at this; omega
  have HE2 : Hid (o2 = true → (⟨d1, d2, d3, d4, d5, d6⟩ : M.Rl) = ⟨a', b', c', d', f', k'⟩) := hE2
  have HMM : Hid (o = true → (⟨⟨b1, b2, b3, b4, b5, b6⟩, ⟨d1, d2, d3, d4, d5, d6⟩⟩ : M.Mc) = ⟨⟨a, b, c, d, f, k⟩, ⟨a', b', c', d', f', k'⟩⟩) := HM.out _ _ HE1.out HE2.out
  have HO' : Hid (o = (o1 && o2)) := HO.out
  clear hc hb2 hE2 HM HE1 HE2 h6 h7 h8 h9 h10 h11 C1 C2 HT HO
  cases o1 <;> cases o2
  all_goals
    have ho := HO'.out
    simp at ho
    subst ho
    go_wp2
    go_ret2
    exact ⟨⟨⟨b1, b2, b3, b4, b5, b6⟩, ⟨d1, d2, d3, d4, d5, d6⟩⟩, rfl, by first | exact HMM.out | exact HMM.out trivial, HB2.out.alloc HB2.out.size _⟩
end Go.Proofs.YtfhknkppiidnkaaGreat
