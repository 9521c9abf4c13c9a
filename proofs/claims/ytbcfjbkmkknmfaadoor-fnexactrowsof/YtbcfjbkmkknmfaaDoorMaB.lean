/- Rules, machines and states, in the model's text. -/
import Derived.Test.YtbcfjbkmkknmfaaDoorMaA
import Derived.Test.YtbcfjbkmkknmfaaDoorFieldA
namespace Go.Proofs.YtbcfjbkmkknmfaaDoor
open Go.RowKit

theorem rl_sees (w : World) (g : Nat) (hg : w.heap.size = g) (r : M.Rl) (t : TypeId) : Sees (w.alloc (.cells #[.int .i64 r.xx, .int .i64 r.xy, .int .i64 r.yy, .int .i64 r.x, .int .i64 r.y, .int .i64 r.k] t)) (some ⟨g, 0, none⟩) 6 6 r.nums := by
  subst hg
  refine ⟨rfl, Nat.le_refl _, by decide, fun h => by simp at h, .inr ⟨_, _, rfl, fun i hi => ?_⟩⟩
  rw [Nat.zero_add, World.cell?_alloc_new]
  match i, hi with
  | 0, _ => rfl
  | 1, _ => rfl
  | 2, _ => rfl
  | 3, _ => rfl
  | 4, _ => rfl
  | 5, _ => rfl
theorem specStateOk_any (s : Int × Int) (w : World) : Calls Tryd.prog 15 #[stv s] w fun e w' => e = .returned (.bool (M.sOk s)) ∧ Below w.heap.size w w' := by
  obtain ⟨x, y⟩ := s
  unfold M.sOk
  dsimp only [stv]
  have C1 : ∀ w, Calls Tryd.prog 23 #[.int .i64 x] w fun e w' => e = .returned (.bool (M.el x)) ∧ w' = w := l1F_any x
  have C2 : ∀ w, Calls Tryd.prog 23 #[.int .i64 y] w fun e w' => e = .returned (.bool (M.el y)) ∧ w' = w := l1F_any y
  generalize M.el x = o1 at C1 ⊢
  generalize M.el y = o2 at C2 ⊢
  cases o1 with
  | false =>
    go_enter Tryd.func15, Tryd.ntmps15
    go_wp2_with fail
    refine (C1 _).mono ?_
    rintro e w1 ⟨rfl, rfl⟩
    go_wp2
    go_ret
    exact ⟨rfl, (Below.refl _ _).alloc (Nat.le_refl _) _⟩
  | true =>
    go_enter Tryd.func15, Tryd.ntmps15
    go_wp2_with fail
    refine (C1 _).mono ?_
    rintro e w1 ⟨rfl, rfl⟩
    go_wp2_with fail
    refine (C2 _).mono ?_
    rintro e w1 ⟨rfl, rfl⟩
    go_wp2
    go_ret
    exact ⟨rfl, (Below.refl _ _).alloc (Nat.le_refl _) _⟩
end Go.Proofs.YtbcfjbkmkknmfaaDoor
