/- States and machines behind an interface, in the program. -/
import Derived.Test.YtfhknkppiidnkaaGreatMaB
import Derived.Test.YtfhknkppiidnkaaGreatSlD
namespace Go.Proofs.YtfhknkppiidnkaaGreat
open Go.RowKit

theorem ePair_any (a b : Int) (w : World) : Calls Tryz.prog 126 #[.int .i64 a, .int .i64 b] w fun e w' => ∃ p : Int × Int, e = .returned (.tuple #[.int .i64 p.1, .int .i64 p.2, .bool (M.sOk (a, b))]) ∧ M.sOk p = true ∧ (M.sOk (a, b) = true → p = (a, b)) ∧ w' = w := by
  unfold M.sOk
  dsimp only
  have C : ∀ (a : Int) (w : World), Calls Tryz.prog 142 #[.int .i64 a] w fun e w' => e = .returned (.tuple #[.int .i64 (if M.el a = true then a else 0), .bool (M.el a)]) ∧ w' = w := fun a w => by
    by_cases h : M.el a = true
    · rw [if_pos h, h]
      exact elementOf_in a w ((M.el_iff a).1 h).1 ((M.el_iff a).1 h).2
    · rw [if_neg h, eq_false_of_ne_true h]
      exact elementOf_out a w ((M.el_not a).1 (eq_false_of_ne_true h))
  have E : ∀ a : Int, M.el (if M.el a = true then a else 0) = true := fun a => by
    by_cases h : M.el a = true
    · rw [if_pos h, h]
    · rw [if_neg h]; decide
  have C1 := C a
  have C2 := C b
  have E1 : Hid (M.el (if M.el a = true then a else 0) = true) := E a
  have E2 : Hid (M.el (if M.el b = true then b else 0) = true) := E b
  have G1 : Hid (M.el a = true → (if M.el a = true then a else 0) = a) := fun h => if_pos h
  have G2 : Hid (M.el b = true → (if M.el b = true then b else 0) = b) := fun h => if_pos h
  generalize (if M.el a = true then a else 0) = x at *
  generalize (if M.el b = true then b else 0) = y at *
  generalize M.el a = o1 at *
  generalize M.el b = o2 at *
  clear C E
  cases o1 <;> cases o2
  all_goals
    go_enter Tryz.func126, Tryz.ntmps126
    go_wp2_with fail
    refine (C1 _).mono ?_
    rintro e w1 ⟨rfl, rfl⟩
    go_wp2_with fail
    refine (C2 _).mono ?_
    rintro e w1 ⟨rfl, rfl⟩
    go_wp2
    go_ret3
    exact ⟨(x, y), rfl, by rw [E1.out, E2.out]; rfl, fun h => by first | (exfalso; revert h; decide) | rw [G1.out trivial, G2.out trivial], rfl⟩
set_option maxHeartbeats 1000000 in
theorem statePair_any (s : Int × Int) (w : World) : Calls Tryz.prog 92 #[stv s] w fun e w' => ∃ p : Int × Int, e = .returned (.tuple #[stv p, .bool (M.sOk s)]) ∧ M.sOk p = true ∧ (M.sOk s = true → p = s) ∧ Below w.heap.size w w' := by
  have C1 := ePair_any s.1 s.2
  obtain ⟨x, y⟩ := s
  dsimp only [stv] at C1 ⊢
  generalize M.sOk (x, y) = o at C1 ⊢
  go_enter Tryz.func92, Tryz.ntmps92
  go_wp2_with fail
  refine (C1 _).mono ?_
  rintro e w1 ⟨p, rfl, hp, hE, rfl⟩
  have HP : Hid (M.sOk p = true) := hp
  have HE : Hid (o = true → p = (x, y)) := hE
  obtain ⟨u, v⟩ := p
  clear hp hE
  go_wp2
  refine bodyPost_ret (v := .tuple #[.agg #[.int .i64 u, .int .i64 v], .bool o]) (by simp [results, Tryz.results92, go_sem]) rfl ⟨(u, v), rfl, HP.out, HE.out, ?_⟩
  exact ((Below.refl _ _).alloc (Nat.le_refl _) _).alloc (by simp) _
theorem state_any (s : Int × Int) (w : World) : Calls Tryz.prog 63 #[stv s] w fun e w' => e = .returned (stv s) ∧ Below w.heap.size w w' := by
  obtain ⟨x, y⟩ := s
  dsimp only [stv]
  go_enter Tryz.func63, Tryz.ntmps63
  go_wp2
  refine bodyPost_ret (v := .agg #[.int .i64 x, .int .i64 y]) (by simp [results, Tryz.results63, go_sem]) rfl ⟨rfl, ?_⟩
  exact ((Below.refl _ _).alloc (Nat.le_refl _) _).alloc (by simp) _
end Go.Proofs.YtfhknkppiidnkaaGreat
