/- What the program's and the model's small functions of the field answer, a contract each: sums, differences, products of numbers that may be no elements. What Add, Sub and Mul answer, in the program and in its model, at every two numbers. -/
import Derived.Test.YtbcfjbkmkknmfaaGreatDoorRows
import Derived.WalkKit
import Derived.WalkLawsBesides
import Derived.Test.YtbcfjbkmkknmfaaGreatDoorRows
import Derived.Test.YtbcfjbkmkknmfaaGreatDoorFieldMath
namespace Go.Proofs.YtbcfjbkmkknmfaaGreatDoor
open Go.RowKit

theorem ret_int {k : IntKind} {a b : Int} (h : a = b) : Ending.returned (.int k a) = .returned (.int k b) := by rw [h]
theorem ret_bool {a b : Bool} (h : a = b) : Ending.returned (.bool a) = .returned (.bool b) := by rw [h]

set_option maxHeartbeats 400000 in
theorem l1F_any (a : Int) (w : World) :
    Calls Tryz.prog 94 #[.int .i64 a] w fun e w' => e = .returned (.bool (M.el a)) ∧ w' = w := by
  by_cases h0 : 0 ≤ a
  · by_cases h1 : a < 65537
    · have e : M.el a = true := by simp [M.el, h0, h1]
      have E : Hid (M.el a = true) := e
      clear e
      go_enter Tryz.func94, Tryz.ntmps94
      go_wp2
      go_ret
      exact ⟨ret_bool E.out.symm, rfl⟩
    · have e : M.el a = false := by simp [M.el]; omega
      have E : Hid (M.el a = false) := e
      clear e
      go_enter Tryz.func94, Tryz.ntmps94
      go_wp2
      go_ret
      exact ⟨ret_bool E.out.symm, rfl⟩
  · have e : M.el a = false := by simp [M.el]; omega
    have E : Hid (M.el a = false) := e
    clear e
    go_enter Tryz.func94, Tryz.ntmps94
    go_wp2
    go_ret
    exact ⟨ret_bool E.out.symm, rfl⟩

set_option maxHeartbeats 400000 in
theorem elementOf_in (a : Int) (w : World) (h0 : 0 ≤ a) (h1 : a < 65537) :
    Calls Tryz.prog 113 #[.int .i64 a] w fun e w' => e = .returned (.tuple #[.int .i64 a, .bool true]) ∧ w' = w := by
  go_enter Tryz.func113, Tryz.ntmps113
  go_wp2
  go_ret2
  exact ⟨rfl, rfl⟩

set_option maxHeartbeats 400000 in
theorem elementOf_out (a : Int) (w : World) (h : a < 0 ∨ 65537 ≤ a) :
    Calls Tryz.prog 113 #[.int .i64 a] w fun e w' => e = .returned (.tuple #[.int .i64 0, .bool false]) ∧ w' = w := by
  rcases h with h | h
  · go_enter Tryz.func113, Tryz.ntmps113
    go_wp2
    go_ret2
    exact ⟨rfl, rfl⟩
  · have h' : ¬ a < 0 := by omega
    go_enter Tryz.func113, Tryz.ntmps113
    go_wp2
    go_ret2
    exact ⟨rfl, rfl⟩
end Go.Proofs.YtbcfjbkmkknmfaaGreatDoor
namespace Go.Proofs.YtbcfjbkmkknmfaaGreatDoor
open Go.RowKit

set_option maxHeartbeats 400000 in
theorem plus_any (a b : Int) (w : World) (a0 : 0 ≤ a) (a1 : a < 65537) (b0 : 0 ≤ b) (b1 : b < 65537) :
    Calls Tryz.prog 137 #[.int .i64 a, .int .i64 b] w fun e w' => e = .returned (.int .i64 ((a + b) % 65537)) ∧ w' = w := by
  go_enter Tryz.func137, Tryz.ntmps137
  go_wp2
  go_ret
  exact ⟨rfl, rfl⟩
set_option maxHeartbeats 400000 in
theorem minus_any (a b : Int) (w : World) (a0 : 0 ≤ a) (a1 : a < 65537) (b0 : 0 ≤ b) (b1 : b < 65537) :
    Calls Tryz.prog 122 #[.int .i64 a, .int .i64 b] w fun e w' => e = .returned (.int .i64 ((a + 65537 - b) % 65537)) ∧ w' = w := by
  go_enter Tryz.func122, Tryz.ntmps122
  go_wp2
  go_ret
  exact ⟨rfl, rfl⟩
set_option maxHeartbeats 400000 in
theorem times_any (a b : Int) (w : World) (a0 : 0 ≤ a) (a1 : a < 65537) (b0 : 0 ≤ b) (b1 : b < 65537) :
    Calls Tryz.prog 115 #[.int .i64 a, .int .i64 b] w fun e w' => e = .returned (.int .i64 (a * b % 65537)) ∧ w' = w := by
  have hb := M.mul_bd a0 a1 b0 b1
  obtain ⟨m0, m1⟩ := hb
  go_enter Tryz.func115, Tryz.ntmps115
  go_wp2
  go_ret
  exact ⟨rfl, rfl⟩
set_option maxHeartbeats 400000 in
theorem specAdd_any (a b : Int) (w : World) :
    Calls Tryz.prog 109 #[.int .i64 a, .int .i64 b] w fun e w' => e = .returned (.int .i64 (M.add a b)) ∧ w' = w := by
  cases ha : M.el a with
  | true => cases hb : M.el b with
    | true =>
      have E : Hid (M.add a b = (a + b) % 65537) := M.add_in ha hb
      have ha' := ha
      have hb' := hb
      obtain ⟨a0, a1⟩ := (M.el_iff a).1 ha'
      obtain ⟨b0, b1⟩ := (M.el_iff b).1 hb'
      clear ha' hb'
      go_enter Tryz.func109, Tryz.ntmps109
      go_wp2_with fail
      refine (l1F_any a _).mono ?_
      rintro e w' ⟨rfl, rfl⟩
      go_wp2_with fail
      refine (l1F_any b _).mono ?_
      rintro e w' ⟨rfl, rfl⟩
      go_wp2
      go_ret
      exact ⟨ret_int E.out.symm, rfl⟩
    | false =>
      have E : Hid (M.add a b = -1) := M.add_r hb
      go_enter Tryz.func109, Tryz.ntmps109
      go_wp2_with fail
      refine (l1F_any a _).mono ?_
      rintro e w' ⟨rfl, rfl⟩
      go_wp2_with fail
      refine (l1F_any b _).mono ?_
      rintro e w' ⟨rfl, rfl⟩
      go_wp2
      go_ret
      exact ⟨ret_int E.out.symm, rfl⟩
  | false =>
    have E : Hid (M.add a b = -1) := M.add_l ha
    go_enter Tryz.func109, Tryz.ntmps109
    go_wp2_with fail
    refine (l1F_any a _).mono ?_
    rintro e w' ⟨rfl, rfl⟩
    go_wp2
    go_ret
    exact ⟨ret_int E.out.symm, rfl⟩
end Go.Proofs.YtbcfjbkmkknmfaaGreatDoor
