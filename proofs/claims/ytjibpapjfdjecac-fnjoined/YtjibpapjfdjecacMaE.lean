/- A machine behind an interface, in the program. -/
import Derived.Test.YtjibpapjfdjecacMaD
namespace Go.Proofs.Ytjibpapjfdjecac
open Go.RowKit

set_option maxHeartbeats 2000000 in
theorem stepperOf_any (m : M.Mc) (w : World) : Calls Try.prog 28 #[mcv m] w fun e w' => ∃ m' : M.Mc, e = .returned (.tuple #[.iface 95 (mcv m'), .bool m.ok]) ∧ (m.ok = true → m' = m) ∧ Below w.heap.size w w' := by
  have C1 : ∀ w, Calls Try.prog 49 #[rlv m.X] w fun e w' => ∃ r' : M.Rl, e = .returned (.tuple #[rlv r', .bool m.X.ok]) ∧ (m.X.ok = true → r' = m.X) ∧ Below w.heap.size w w' := ruleOf_any m.X
  have C2 : ∀ w, Calls Try.prog 49 #[rlv m.Y] w fun e w' => ∃ r' : M.Rl, e = .returned (.tuple #[rlv r', .bool m.Y.ok]) ∧ (m.Y.ok = true → r' = m.Y) ∧ Below w.heap.size w w' := ruleOf_any m.Y
  have HM : Hid (∀ r1 r2 : M.Rl, (m.X.ok = true → r1 = m.X) → (m.Y.ok = true → r2 = m.Y) → m.ok = true → (⟨r1, r2⟩ : M.Mc) = m) := fun r1 r2 h1 h2 h => by
    unfold M.Mc.ok at h; rw [Bool.and_eq_true] at h; rw [h1 h.1, h2 h.2]
  have HO : Hid (m.ok = (m.X.ok && m.Y.ok)) := rfl
  obtain ⟨⟨a, b, c, d, f, k⟩, ⟨a', b', c', d', f', k'⟩⟩ := m
  dsimp only [mcv, rlv] at C1 C2 HM HO ⊢
  generalize M.Rl.ok ⟨a, b, c, d, f, k⟩ = o1 at C1 HM HO ⊢
  generalize M.Rl.ok ⟨a', b', c', d', f', k'⟩ = o2 at C2 HM HO ⊢
  generalize M.Mc.ok ⟨⟨a, b, c, d, f, k⟩, ⟨a', b', c', d', f', k'⟩⟩ = o at HM HO ⊢
  have hT : ∀ W, Below (w.alloc (.cells #[.int .i64 a, .int .i64 b, .int .i64 c, .int .i64 d, .int .i64 f, .int .i64 k, .int .i64 a', .int .i64 b', .int .i64 c', .int .i64 d', .int .i64 f', .int .i64 k'] 27)).heap.size (w.alloc (.cells #[.int .i64 a, .int .i64 b, .int .i64 c, .int .i64 d, .int .i64 f, .int .i64 k, .int .i64 a', .int .i64 b', .int .i64 c', .int .i64 d', .int .i64 f', .int .i64 k'] 27)) W → ∀ i, W.cell? ⟨w.heap.size, i, none⟩ = #[Value.int .i64 a, .int .i64 b, .int .i64 c, .int .i64 d, .int .i64 f, .int .i64 k, .int .i64 a', .int .i64 b', .int .i64 c', .int .i64 d', .int .i64 f', .int .i64 k'][i]? := fun W hb i => (hb.cell (p := ⟨w.heap.size, i, none⟩) (by simp)).trans (World.cell?_alloc_new _ _ _ _)
  have HT : Hid _ := hT
  clear hT
  go_enter Try.func28, Try.ntmps28
  go_wp2_with fail
  refine (C1 _).mono ?_
  rintro e w1 ⟨⟨b1, b2, b3, b4, b5, b6⟩, rfl, hE1, hb1⟩
  have hc := HT.out _ hb1
  have h6 : w1.cell? ⟨w.heap.size, 6, none⟩ = some (.int .i64 a') := hc 6
  have h7 : w1.cell? ⟨w.heap.size, 7, none⟩ = some (.int .i64 b') := hc 7
  have h8 : w1.cell? ⟨w.heap.size, 8, none⟩ = some (.int .i64 c') := hc 8
  have h9 : w1.cell? ⟨w.heap.size, 9, none⟩ = some (.int .i64 d') := hc 9
  have h10 : w1.cell? ⟨w.heap.size, 10, none⟩ = some (.int .i64 f') := hc 10
  have h11 : w1.cell? ⟨w.heap.size, 11, none⟩ = some (.int .i64 k') := hc 11
  have HB1 : Hid (Below w.heap.size w w1) := ((Below.refl _ _).alloc (Nat.le_refl _) _).trans (hb1.mono (by simp))
  have hlt : w.heap.size < w1.heap.size := by have := hb1.size; simp at this; omega
  have HE1 : Hid (o1 = true → (⟨b1, b2, b3, b4, b5, b6⟩ : M.Rl) = ⟨a, b, c, d, f, k⟩) := hE1
  clear hc hb1 hE1
  go_wp2_with fail
  refine (C2 _).mono ?_
  rintro e w2 ⟨⟨d1, d2, d3, d4, d5, d6⟩, rfl, hE2, hb2⟩
  have hc : ∀ i, w2.cell? ⟨w1.heap.size, i, none⟩ = #[Value.int .i64 b1, .int .i64 b2, .int .i64 b3, .int .i64 b4, .int .i64 b5, .int .i64 b6][i]? := fun i => (hb2.cell (p := ⟨w1.heap.size, i, none⟩) (by simp)).trans (World.cell?_alloc_new _ _ _ _)
  have g0 : w2.cell? ⟨w1.heap.size, 0, none⟩ = some (.int .i64 b1) := hc 0
  have g1 : w2.cell? ⟨w1.heap.size, 1, none⟩ = some (.int .i64 b2) := hc 1
  have g2 : w2.cell? ⟨w1.heap.size, 2, none⟩ = some (.int .i64 b3) := hc 2
  have g3 : w2.cell? ⟨w1.heap.size, 3, none⟩ = some (.int .i64 b4) := hc 3
  have g4 : w2.cell? ⟨w1.heap.size, 4, none⟩ = some (.int .i64 b5) := hc 4
  have g5 : w2.cell? ⟨w1.heap.size, 5, none⟩ = some (.int .i64 b6) := hc 5
  have HB2 : Hid (Below w.heap.size w w2) := (HB1.out.alloc HB1.out.size _).trans (hb2.mono (by simp; omega))
  have hlt2 : w1.heap.size < w2.heap.size := by have := hb2.size; simp at this; omega
  have HE2 : Hid (o2 = true → (⟨d1, d2, d3, d4, d5, d6⟩ : M.Rl) = ⟨a', b', c', d', f', k'⟩) := hE2
  have HMM : Hid (o = true → (⟨⟨b1, b2, b3, b4, b5, b6⟩, ⟨d1, d2, d3, d4, d5, d6⟩⟩ : M.Mc) = ⟨⟨a, b, c, d, f, k⟩, ⟨a', b', c', d', f', k'⟩⟩) := HM.out _ _ HE1.out HE2.out
  have HO' : Hid (o = (o1 && o2)) := HO.out
  clear hc hb2 hE2 HM HE1 HE2 h6 h7 h8 h9 h10 h11 C1 C2 HT HO
  cases o1 <;> cases o2
  all_goals
    have ho := HO'.out
    simp at ho
    subst ho
    go_wp2
    go_ret2
    exact ⟨⟨⟨b1, b2, b3, b4, b5, b6⟩, ⟨d1, d2, d3, d4, d5, d6⟩⟩, rfl, by first | exact HMM.out | exact HMM.out trivial, HB2.out.alloc HB2.out.size _⟩
end Go.Proofs.Ytjibpapjfdjecac
