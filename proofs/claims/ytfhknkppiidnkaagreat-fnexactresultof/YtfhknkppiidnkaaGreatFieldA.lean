/- What the program's and the model's small functions of the field answer, a contract each: sums, differences, products of numbers that may be no elements. What Add, Sub and Mul answer, in the program and in its model, at every two numbers. -/
import Derived.Test.YtfhknkppiidnkaaGreatRows
import Derived.Test.YtfhknkppiidnkaaGreatFieldMath
import Derived.WalkKit
import Derived.WalkLawsBesides
namespace Go.Proofs.YtfhknkppiidnkaaGreat
open Go.RowKit

theorem ret_int {k : IntKind} {a b : Int} (h : a = b) : Ending.returned (.int k a) = .returned (.int k b) := by rw [h]
theorem ret_bool {a b : Bool} (h : a = b) : Ending.returned (.bool a) = .returned (.bool b) := by rw [h]

set_option maxHeartbeats 400000 in
theorem l1F_any (a : Int) (w : World) :
    Calls Tryz.prog 89 #[.int .i64 a] w fun e w' => e = .returned (.bool (M.el a)) ∧ w' = w := by
  by_cases h0 : 0 ≤ a
  · by_cases h1 : a < 65537
    · have e : M.el a = true := by simp [M.el, h0, h1]
      have E : Hid (M.el a = true) := e
      clear e
      go_enter Tryz.func89, Tryz.ntmps89
      go_wp2
      go_ret
      exact ⟨ret_bool E.out.symm, rfl⟩
    · have e : M.el a = false := by simp [M.el]; omega
      have E : Hid (M.el a = false) := e
      clear e
      go_enter Tryz.func89, Tryz.ntmps89
      go_wp2
      go_ret
      exact ⟨ret_bool E.out.symm, rfl⟩
  · have e : M.el a = false := by simp [M.el]; omega
    have E : Hid (M.el a = false) := e
    clear e
    go_enter Tryz.func89, Tryz.ntmps89
    go_wp2
    go_ret
    exact ⟨ret_bool E.out.symm, rfl⟩

set_option maxHeartbeats 400000 in
theorem elementOf_in (a : Int) (w : World) (h0 : 0 ≤ a) (h1 : a < 65537) :
    Calls Tryz.prog 142 #[.int .i64 a] w fun e w' => e = .returned (.tuple #[.int .i64 a, .bool true]) ∧ w' = w := by
  go_enter Tryz.func142, Tryz.ntmps142
  go_wp2
  go_ret2
  exact ⟨rfl, rfl⟩

set_option maxHeartbeats 400000 in
theorem elementOf_out (a : Int) (w : World) (h : a < 0 ∨ 65537 ≤ a) :
    Calls Tryz.prog 142 #[.int .i64 a] w fun e w' => e = .returned (.tuple #[.int .i64 0, .bool false]) ∧ w' = w := by
  rcases h with h | h
  · go_enter Tryz.func142, Tryz.ntmps142
    go_wp2
    go_ret2
    exact ⟨rfl, rfl⟩
  · have h' : ¬ a < 0 := by omega
    go_enter Tryz.func142, Tryz.ntmps142
    go_wp2
    go_ret2
    exact ⟨rfl, rfl⟩
end Go.Proofs.YtfhknkppiidnkaaGreat
namespace Go.Proofs.YtfhknkppiidnkaaGreat
open Go.RowKit

set_option maxHeartbeats 400000 in
theorem plus_any (a b : Int) (w : World) (a0 : 0 ≤ a) (a1 : a < 65537) (b0 : 0 ≤ b) (b1 : b < 65537) :
    Calls Tryz.prog 176 #[.int .i64 a, .int .i64 b] w fun e w' => e = .returned (.int .i64 ((a + b) % 65537)) ∧ w' = w := by
  go_enter Tryz.func176, Tryz.ntmps176
  go_wp2
  go_ret
  exact ⟨rfl, rfl⟩
set_option maxHeartbeats 400000 in
theorem times_any (a b : Int) (w : World) (a0 : 0 ≤ a) (a1 : a < 65537) (b0 : 0 ≤ b) (b1 : b < 65537) :
    Calls Tryz.prog 175 #[.int .i64 a, .int .i64 b] w fun e w' => e = .returned (.int .i64 (a * b % 65537)) ∧ w' = w := by
  have hb := M.mul_bd a0 a1 b0 b1
  obtain ⟨m0, m1⟩ := hb
  go_enter Tryz.func175, Tryz.ntmps175
  go_wp2
  go_ret
  exact ⟨rfl, rfl⟩
set_option maxHeartbeats 400000 in
theorem pairOf_in (a b : Int) (w : World) (a0 : 0 ≤ a) (a1 : a < 65537) (b0 : 0 ≤ b) (b1 : b < 65537) :
    Calls Tryz.prog 126 #[.int .i64 a, .int .i64 b] w fun e w' => e = .returned (.tuple #[.int .i64 a, .int .i64 b, .bool true]) ∧ w' = w := by
  go_enter Tryz.func126, Tryz.ntmps126
  go_wp2
  go_ret3
  exact ⟨rfl, rfl⟩

set_option maxHeartbeats 400000 in
theorem pairOf_out (a b : Int) (w : World) (h : M.el a = false ∨ M.el b = false) :
    Calls Tryz.prog 126 #[.int .i64 a, .int .i64 b] w fun e w' => (∃ x y, e = .returned (.tuple #[.int .i64 x, .int .i64 y, .bool false])) ∧ w' = w := by
  have H : Hid (M.el a = false ∨ M.el b = false) := h
  clear h
  by_cases ha : 0 ≤ a ∧ a < 65537
  · obtain ⟨a0, a1⟩ := ha
    have hb : b < 0 ∨ 65537 ≤ b := by
      rcases H.out with h | h
      · rw [M.el_not] at h; omega
      · exact (M.el_not b).1 h
    have HB : Hid (b < 0 ∨ 65537 ≤ b) := hb
    clear hb
    go_enter Tryz.func126, Tryz.ntmps126
    go_wp2_with fail
    refine (elementOf_in a _ a0 a1).mono ?_
    rintro e w' ⟨rfl, rfl⟩
    go_wp2_with fail
    refine (elementOf_out b _ HB.out).mono ?_
    rintro e w' ⟨rfl, rfl⟩
    go_wp2
    go_ret3
    exact ⟨⟨_, _, rfl⟩, rfl⟩
  · have HA : Hid (a < 0 ∨ 65537 ≤ a) := by show a < 0 ∨ 65537 ≤ a; omega
    clear ha
    by_cases hb : 0 ≤ b ∧ b < 65537
    · obtain ⟨b0, b1⟩ := hb
      go_enter Tryz.func126, Tryz.ntmps126
      go_wp2_with fail
      refine (elementOf_out a _ HA.out).mono ?_
      rintro e w' ⟨rfl, rfl⟩
      go_wp2_with fail
      refine (elementOf_in b _ b0 b1).mono ?_
      rintro e w' ⟨rfl, rfl⟩
      go_wp2
      go_ret3
      exact ⟨⟨_, _, rfl⟩, rfl⟩
    · have HB : Hid (b < 0 ∨ 65537 ≤ b) := by show b < 0 ∨ 65537 ≤ b; omega
      clear hb
      go_enter Tryz.func126, Tryz.ntmps126
      go_wp2_with fail
      refine (elementOf_out a _ HA.out).mono ?_
      rintro e w' ⟨rfl, rfl⟩
      go_wp2_with fail
      refine (elementOf_out b _ HB.out).mono ?_
      rintro e w' ⟨rfl, rfl⟩
      go_wp2
      go_ret3
      exact ⟨⟨_, _, rfl⟩, rfl⟩
set_option maxHeartbeats 400000 in
theorem specAdd_any (a b : Int) (w : World) :
    Calls Tryz.prog 143 #[.int .i64 a, .int .i64 b] w fun e w' => e = .returned (.int .i64 (M.add a b)) ∧ w' = w := by
  cases ha : M.el a with
  | true => cases hb : M.el b with
    | true =>
      have E : Hid (M.add a b = (a + b) % 65537) := M.add_in ha hb
      have ha' := ha
      have hb' := hb
      obtain ⟨a0, a1⟩ := (M.el_iff a).1 ha'
      obtain ⟨b0, b1⟩ := (M.el_iff b).1 hb'
      clear ha' hb'
      go_enter Tryz.func143, Tryz.ntmps143
      go_wp2_with fail
      refine (l1F_any a _).mono ?_
      rintro e w' ⟨rfl, rfl⟩
      go_wp2_with fail
      refine (l1F_any b _).mono ?_
      rintro e w' ⟨rfl, rfl⟩
      go_wp2
      go_ret
      exact ⟨ret_int E.out.symm, rfl⟩
    | false =>
      have E : Hid (M.add a b = -1) := M.add_r hb
      go_enter Tryz.func143, Tryz.ntmps143
      go_wp2_with fail
      refine (l1F_any a _).mono ?_
      rintro e w' ⟨rfl, rfl⟩
      go_wp2_with fail
      refine (l1F_any b _).mono ?_
      rintro e w' ⟨rfl, rfl⟩
      go_wp2
      go_ret
      exact ⟨ret_int E.out.symm, rfl⟩
  | false =>
    have E : Hid (M.add a b = -1) := M.add_l ha
    go_enter Tryz.func143, Tryz.ntmps143
    go_wp2_with fail
    refine (l1F_any a _).mono ?_
    rintro e w' ⟨rfl, rfl⟩
    go_wp2
    go_ret
    exact ⟨ret_int E.out.symm, rfl⟩
end Go.Proofs.YtfhknkppiidnkaaGreat
