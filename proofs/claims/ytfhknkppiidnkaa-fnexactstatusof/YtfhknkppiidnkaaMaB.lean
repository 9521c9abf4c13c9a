/- Rules, machines and states, in the model's text. -/
import Derived.Test.YtfhknkppiidnkaaMaA
import Derived.Test.YtfhknkppiidnkaaFieldA
namespace Go.Proofs.Ytfhknkppiidnkaa
open Go.RowKit

theorem rl_sees (w : World) (g : Nat) (hg : w.heap.size = g) (r : M.Rl) (t : TypeId) : Sees (w.alloc (.cells #[.int .i64 r.xx, .int .i64 r.xy, .int .i64 r.yy, .int .i64 r.x, .int .i64 r.y, .int .i64 r.k] t)) (some ⟨g, 0, none⟩) 6 6 r.nums := by
  subst hg
  refine ⟨rfl, Nat.le_refl _, by decide, fun h => by simp at h, .inr ⟨_, _, rfl, fun i hi => ?_⟩⟩
  rw [Nat.zero_add, World.cell?_alloc_new]
  match i, hi with
  | 0, _ => rfl
  | 1, _ => rfl
  | 2, _ => rfl
  | 3, _ => rfl
  | 4, _ => rfl
  | 5, _ => rfl
theorem l5Rule_any (r : M.Rl) (w : World) : Calls Try.prog 32 #[rlv r] w fun e w' => e = .returned (.bool r.ok) ∧ Below w.heap.size w w' := by
  have HS : Hid (∀ (W : World) (g : Nat), W.heap.size = g → Sees (W.alloc (.cells #[.int .i64 r.xx, .int .i64 r.xy, .int .i64 r.yy, .int .i64 r.x, .int .i64 r.y, .int .i64 r.k] 2)) (some ⟨g, 0, none⟩) 6 6 r.nums) := fun W g hg => rl_sees W g hg r _
  have HO : Hid (M.allEl r.nums = r.ok) := rfl
  dsimp only [rlv]
  obtain ⟨a, b, c, d, f, k⟩ := r
  dsimp only at HS ⊢
  generalize M.Rl.nums ⟨a, b, c, d, f, k⟩ = zs at HS HO
  generalize M.Rl.ok ⟨a, b, c, d, f, k⟩ = ok at HO
  go_enter Try.func32, Try.ntmps32
  go_wp2_with fail
  refine (l1All_any _ (HS.out _ _ (by simp))).mono ?_
  rintro e w' ⟨rfl, rfl⟩
  rw [HO.out]
  go_wp2
  go_ret
  exact ⟨rfl, ((Below.refl _ _).alloc (Nat.le_refl _) _).alloc (by simp) _⟩
theorem specMachineOk_any (m : M.Mc) (w : World) : Calls Try.prog 15 #[mcv m] w fun e w' => e = .returned (.bool m.ok) ∧ Below w.heap.size w w' := by
  have C1 : ∀ w, Calls Try.prog 32 #[rlv m.X] w fun e w' => e = .returned (.bool m.X.ok) ∧ Below w.heap.size w w' := l5Rule_any m.X
  have C2 : ∀ w, Calls Try.prog 32 #[rlv m.Y] w fun e w' => e = .returned (.bool m.Y.ok) ∧ Below w.heap.size w w' := l5Rule_any m.Y
  unfold M.Mc.ok
  obtain ⟨⟨a, b, c, d, f, k⟩, ⟨a', b', c', d', f', k'⟩⟩ := m
  dsimp only [mcv, rlv] at C1 C2 ⊢
  generalize M.Rl.ok ⟨a, b, c, d, f, k⟩ = o1 at C1 ⊢
  generalize M.Rl.ok ⟨a', b', c', d', f', k'⟩ = o2 at C2 ⊢
  cases o1 with
  | false =>
    go_enter Try.func15, Try.ntmps15
    go_wp2_with fail
    refine (C1 _).mono ?_
    rintro e w1 ⟨rfl, hb⟩
    have HB : Hid (Below w.heap.size w w1) := ((Below.refl _ _).alloc (Nat.le_refl _) _).trans (hb.mono (by simp))
    clear hb
    go_wp2
    go_ret
    exact ⟨rfl, HB.out⟩
  | true =>
    go_enter Try.func15, Try.ntmps15
    go_wp2_with fail
    refine (C1 _).mono ?_
    rintro e w1 ⟨rfl, hb⟩
    have HB : Hid (Below w.heap.size w w1) := ((Below.refl _ _).alloc (Nat.le_refl _) _).trans (hb.mono (by simp))
    have hc : ∀ i, w1.cell? ⟨w.heap.size, i, none⟩ = #[Value.int .i64 a, .int .i64 b, .int .i64 c, .int .i64 d, .int .i64 f, .int .i64 k, .int .i64 a', .int .i64 b', .int .i64 c', .int .i64 d', .int .i64 f', .int .i64 k'][i]? := fun i => (hb.cell (p := ⟨w.heap.size, i, none⟩) (by simp)).trans (World.cell?_alloc_new _ _ _ _)
    have h6 := hc 6
    have h7 := hc 7
    have h8 := hc 8
    have h9 := hc 9
    have h10 := hc 10
    have h11 := hc 11
    clear hc hb
    simp only [List.getElem?_toArray, List.getElem?_cons_succ, List.getElem?_cons_zero] at h6 h7 h8 h9 h10 h11
    go_wp2_with fail
    refine (C2 _).mono ?_
    rintro e w2 ⟨rfl, hb⟩
    have HB2 : Hid (Below w.heap.size w w2) := HB.out.trans (hb.mono HB.out.size)
    clear hb
    go_wp2
    go_ret
    exact ⟨rfl, HB2.out⟩
theorem specStateOk_any (s : Int × Int) (w : World) : Calls Try.prog 16 #[stv s] w fun e w' => e = .returned (.bool (M.sOk s)) ∧ Below w.heap.size w w' := by
  obtain ⟨x, y⟩ := s
  unfold M.sOk
  dsimp only [stv]
  have C1 : ∀ w, Calls Try.prog 33 #[.int .i64 x] w fun e w' => e = .returned (.bool (M.el x)) ∧ w' = w := l1F_any x
  have C2 : ∀ w, Calls Try.prog 33 #[.int .i64 y] w fun e w' => e = .returned (.bool (M.el y)) ∧ w' = w := l1F_any y
  generalize M.el x = o1 at C1 ⊢
  generalize M.el y = o2 at C2 ⊢
  cases o1 with
  | false =>
    go_enter Try.func16, Try.ntmps16
    go_wp2_with fail
    refine (C1 _).mono ?_
    rintro e w1 ⟨rfl, rfl⟩
    go_wp2
    go_ret
    exact ⟨rfl, (Below.refl _ _).alloc (Nat.le_refl _) _⟩
  | true =>
    go_enter Try.func16, Try.ntmps16
    go_wp2_with fail
    refine (C1 _).mono ?_
    rintro e w1 ⟨rfl, rfl⟩
    go_wp2_with fail
    refine (C2 _).mono ?_
    rintro e w1 ⟨rfl, rfl⟩
    go_wp2
    go_ret
    exact ⟨rfl, (Below.refl _ _).alloc (Nat.le_refl _) _⟩
end Go.Proofs.Ytfhknkppiidnkaa
