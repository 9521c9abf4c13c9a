/- Rules and machines made of what is handed in, in the program. -/
import Derived.Test.YtjibpapjfdjecacMaC
import Derived.Test.YtjibpapjfdjecacMaS
import Derived.BigRegion
namespace Go.Proofs.Ytjibpapjfdjecac
open Go.RowKit

theorem frozen_new (w : World) (A B C : Array Value) (t1 t2 t3 : TypeId) (i : Nat) :
    (((w.alloc (.cells A t1)).alloc (.cells B t2)).alloc (.cells C t3)).frozen? ⟨w.heap.size + 1, i, none⟩ = false := by
  rw [frozen?_alloc_cells, frozen?_alloc_cells, frozen?_alloc_cells]; simp only [World.frozen?]; rw [Array.getElem?_eq_none (by omega)]
set_option maxHeartbeats 2000000 in
theorem ruleOf_any (r : M.Rl) (w : World) : Calls Try.prog 49 #[rlv r] w fun e w' => ∃ r' : M.Rl, e = .returned (.tuple #[rlv r', .bool r.ok]) ∧ (r.ok = true → r' = r) ∧ Below w.heap.size w w' := by
  have HS : Hid (∀ (W : World) (g : Nat), W.heap.size = g → Sees (W.alloc (.cells #[.int .i64 r.xx, .int .i64 r.xy, .int .i64 r.yy, .int .i64 r.x, .int .i64 r.y, .int .i64 r.k] 2)) (some ⟨g, 0, none⟩) 6 6 r.nums) := fun W g hg => rl_sees W g hg r _
  have HO : Hid (M.allEl r.nums = r.ok) := rfl
  have HN : Hid (r.nums = [r.xx, r.xy, r.yy, r.x, r.y, r.k]) := rfl
  cases hok : r.ok with
  | false =>
    rw [hok] at HO
    clear hok
    dsimp only [rlv]
    obtain ⟨a, b, c, d, f, k⟩ := r
    dsimp only at HS ⊢
    generalize M.Rl.nums ⟨a, b, c, d, f, k⟩ = zs at HS HO
    clear HN
    go_enter Try.func49, Try.ntmps49
    go_wp2_with fail
    refine (allElements_any _ (HS.out _ _ (by simp))).mono ?_
    rintro e w' ⟨rfl, rfl⟩
    rw [HO.out]
    go_wp2
    refine bodyPost_ret (v := .tuple #[rlv ⟨0, 0, 0, 0, 0, 0⟩, .bool false]) (by simp [results, Try.results49, go_sem]) rfl ⟨⟨0, 0, 0, 0, 0, 0⟩, rfl, fun h => by simp at h, ?_⟩
    exact (((Below.refl _ _).alloc (Nat.le_refl _) _).alloc (by simp) _).alloc (by simp; omega) _
  | true =>
    rw [hok] at HO
    clear hok
    dsimp only [rlv]
    obtain ⟨a, b, c, d, f, k⟩ := r
    dsimp only at HS HN ⊢
    generalize M.Rl.nums ⟨a, b, c, d, f, k⟩ = zs at HS HO HN
    go_enter Try.func49, Try.ntmps49
    go_wp2_with fail
    refine (allElements_any _ (HS.out _ _ (by simp))).mono ?_
    rintro e w' ⟨rfl, rfl⟩
    rw [HO.out]
    go_wp2_with fail
    refine (elementsOf_any _ (HS.out _ _ (by simp)) (by omega)).mono ?_
    rintro e w1 ⟨a1, c1, rfl, ho, hb⟩
    have HB : Hid (Below w.heap.size w w1) := ((((Below.refl _ _).alloc (Nat.le_refl _) _).alloc (by simp) _).alloc (by simp; omega) _).trans (hb.mono (by simp; omega))
    have hc : ∀ i, w1.cell? ⟨w.heap.size + 1, i, none⟩ = #[Value.int .i64 0, .int .i64 0, .int .i64 0, .int .i64 0, .int .i64 0, .int .i64 0][i]? := fun i => (hb.cell (p := ⟨w.heap.size + 1, i, none⟩) (by simp)).trans (chain3m w _ _ _ _ _ _ i).2.1
    have hf : ∀ i, w1.frozen? ⟨w.heap.size + 1, i, none⟩ = false := fun i => (frozen_kept hb (show w.heap.size + 1 < _ by simp)).trans (frozen_new w _ _ _ _ _ _ i)
    obtain ⟨g, rfl, hg, hlt, hcg, -⟩ := ho.block (by omega)
    have hgne : g ≠ w.heap.size + 1 := by simp at hg; omega
    rw [HN.out] at hcg
    have d0 : w1.cell? ⟨g, 0, none⟩ = some (.int .i64 a) := hcg 0 (by omega)
    have d1 : w1.cell? ⟨g, 1, none⟩ = some (.int .i64 b) := hcg 1 (by omega)
    have d2 : w1.cell? ⟨g, 2, none⟩ = some (.int .i64 c) := hcg 2 (by omega)
    have d3 : w1.cell? ⟨g, 3, none⟩ = some (.int .i64 d) := hcg 3 (by omega)
    have d4 : w1.cell? ⟨g, 4, none⟩ = some (.int .i64 f) := hcg 4 (by omega)
    have d5 : w1.cell? ⟨g, 5, none⟩ = some (.int .i64 k) := hcg 5 (by omega)
    have r0 : w1.cell? ⟨w.heap.size + 1, 0, none⟩ = some (.int .i64 0) := hc 0
    have r1 : w1.cell? ⟨w.heap.size + 1, 1, none⟩ = some (.int .i64 0) := hc 1
    have r2 : w1.cell? ⟨w.heap.size + 1, 2, none⟩ = some (.int .i64 0) := hc 2
    have r3 : w1.cell? ⟨w.heap.size + 1, 3, none⟩ = some (.int .i64 0) := hc 3
    have r4 : w1.cell? ⟨w.heap.size + 1, 4, none⟩ = some (.int .i64 0) := hc 4
    have r5 : w1.cell? ⟨w.heap.size + 1, 5, none⟩ = some (.int .i64 0) := hc 5
    have f0 := hf 0
    have f1 := hf 1
    have f2 := hf 2
    have f3 := hf 3
    have f4 := hf 4
    have f5 := hf 5
    have hcap : (6 : Int) ≤ c1 := by have := ho.cap_le; omega
    clear hc hf hcg ho hb HS HO HN hg hlt
    go_wp2
    go_region
    have hl : w.heap.size ≤ w.heap.size + 1 := by omega
    obtain ⟨w2, hw2⟩ : ∃ w2, w2 = sets w1 (w.heap.size + 1) 0 [.int .i64 a, .int .i64 b, .int .i64 c, .int .i64 d, .int .i64 f, .int .i64 k] := ⟨_, rfl⟩
    have HW : Hid (Below w.heap.size w w2) := by rw [hw2]; exact sets_below hl _ _ _ HB.out
    have ha := sets_at (w.heap.size + 1) [Value.int .i64 a, .int .i64 b, .int .i64 c, .int .i64 d, .int .i64 f, .int .i64 k] w1 0 (fun j hj => by
      match j, hj with
      | 0, _ => exact ⟨_, r0⟩
      | 1, _ => exact ⟨_, r1⟩
      | 2, _ => exact ⟨_, r2⟩
      | 3, _ => exact ⟨_, r3⟩
      | 4, _ => exact ⟨_, r4⟩
      | 5, _ => exact ⟨_, r5⟩)
    rw [← hw2] at ha
    have e0 := ha 0 _ rfl
    have e1 := ha 1 _ rfl
    have e2 := ha 2 _ rfl
    have e3 := ha 3 _ rfl
    have e4 := ha 4 _ rfl
    have e5 := ha 5 _ rfl
    unfold sets sets sets sets sets sets sets at hw2
    rw [← hw2]
    clear ha hw2 r0 r1 r2 r3 r4 r5 d0 d1 d2 d3 d4 d5 f0 f1 f2 f3 f4 f5
    simp only [Nat.zero_add] at e0 e1 e2 e3 e4 e5
    go_wp2
    refine bodyPost_ret (v := .tuple #[.agg #[.int .i64 a, .int .i64 b, .int .i64 c, .int .i64 d, .int .i64 f, .int .i64 k], .bool true]) (by simp [results, Try.results49, go_sem, e0, e1, e2, e3, e4, e5]) rfl ⟨⟨a, b, c, d, f, k⟩, rfl, fun _ => rfl, HW.out.drew⟩
end Go.Proofs.Ytjibpapjfdjecac
