/- What is drawn for the field's laws: some numbers that fit 64 bits; nothing that was there is turned. -/
import Derived.Test.YtmdfmeclcjbajaaRdB
namespace Go.Proofs.Ytmdfmeclcjbajaa
open Go.RowKit

set_option maxHeartbeats 400000 in
theorem in_any (a : Int) (w : World) :
    Calls Try.prog 17 #[.int .i64 a] w fun e w' => e = .returned (.bool (M.el a)) ∧ w' = w := by
  by_cases h0 : 0 ≤ a
  · by_cases h1 : a < 65537
    · have E : Hid (M.el a = true) := by show M.el a = true; simp [M.el, h0, h1]
      go_enter Try.func17, Try.ntmps17
      go_wp2
      go_ret
      exact ⟨ret_bool E.out.symm, rfl⟩
    · have E : Hid (M.el a = false) := by show M.el a = false; simp [M.el]; omega
      go_enter Try.func17, Try.ntmps17
      go_wp2
      go_ret
      exact ⟨ret_bool E.out.symm, rfl⟩
  · have E : Hid (M.el a = false) := by show M.el a = false; simp [M.el]; omega
    go_enter Try.func17, Try.ntmps17
    go_wp2
    go_ret
    exact ⟨ret_bool E.out.symm, rfl⟩
set_option maxHeartbeats 400000 in
theorem big_any (a : Option Addr) (len cap : Nat) (w : World) :
    Calls Try.prog 9 #[.slice a len cap] w fun e w' => e = .returned (.bool (decide ((1048576 : Int) < (len : Int)))) ∧ w' = w := by
  go_enter Try.func9, Try.ntmps9
  go_wp2
  go_ret
  exact ⟨rfl, rfl⟩
set_option maxHeartbeats 1000000 in
theorem drawAdd_any {a : Option Addr} {len cap : Nat} {zs : List Int} (w : World) (hrow : Row .u8 w a len cap zs) :
    Calls Try.prog 10 #[.slice a len cap] w fun e w' => ∃ x y : Int, -9223372036854775808 ≤ x ∧ x ≤ 9223372036854775807 ∧ -9223372036854775808 ≤ y ∧ y ≤ 9223372036854775807 ∧ e = .returned (.tuple #[.int .i64 x, .int .i64 y]) ∧ Below w.heap.size w w' := by
  have HR : Hid (Row .u8 w a len cap zs) := hrow
  clear hrow
  go_enter Try.func10, Try.ntmps10
  go_wp2_with fail
  refine (open_any _).mono ?_
  rintro e w1 ⟨rfl, hr⟩
  have HR1 : Hid (Rd w w.heap.size a len cap w1) := hr
  clear hr
  go_wp2_with fail
  refine (elem_any HR.out _ HR1.out).mono ?_
  rintro e w2 ⟨x, x0, x1, rfl, hr, hg⟩
  have HR2 : Hid (Rd w w.heap.size a len cap w2) := hr
  clear hr hg
  go_wp2_with fail
  refine (elem_any HR.out _ HR2.out).mono ?_
  rintro e w3 ⟨y, y0, y1, rfl, hr, hg⟩
  have HR3 : Hid (Rd w w.heap.size a len cap w3) := hr
  clear hr hg
  go_wp2
  go_ret2
  exact ⟨x, y, x0, x1, y0, y1, rfl, HR3.out.below⟩
set_option maxHeartbeats 1000000 in
theorem drawPow_any {a : Option Addr} {len cap : Nat} {zs : List Int} (w : World) (hrow : Row .u8 w a len cap zs) :
    Calls Try.prog 18 #[.slice a len cap] w fun e w' => ∃ x y : Int, -9223372036854775808 ≤ x ∧ x ≤ 9223372036854775807 ∧ -9223372036854775808 ≤ y ∧ y ≤ 9223372036854775807 ∧ e = .returned (.tuple #[.int .i64 x, .int .i64 y]) ∧ Below w.heap.size w w' := by
  have HR : Hid (Row .u8 w a len cap zs) := hrow
  clear hrow
  go_enter Try.func18, Try.ntmps18
  go_wp2_with fail
  refine (open_any _).mono ?_
  rintro e w1 ⟨rfl, hr⟩
  have HR1 : Hid (Rd w w.heap.size a len cap w1) := hr
  clear hr
  go_wp2_with fail
  refine (elem_any HR.out _ HR1.out).mono ?_
  rintro e w2 ⟨x, x0, x1, rfl, hr, hg⟩
  have HR2 : Hid (Rd w w.heap.size a len cap w2) := hr
  clear hr hg
  go_wp2_with fail
  refine (once_any HR.out 8 (by omega) (by omega) _ HR2.out).mono ?_
  rintro e w3 ⟨v, rfl, hr, hg⟩
  have HR3 : Hid (Rd w w.heap.size a len cap w3) := hr
  clear hr hg
  cases v with
  | true =>
    go_wp2_with fail
    refine (off_any HR.out 0 4611686018427387904 (by omega) (by omega) (by omega) _ HR3.out).mono ?_
    rintro e w4 ⟨y, y0, y1, rfl, hr, hg⟩
    have HR4 : Hid (Rd w w.heap.size a len cap w4) := hr
    clear hr hg
    go_wp2
    go_ret2
    exact ⟨x, y, x0, x1, y0, y1, rfl, HR4.out.below⟩
  | false =>
    go_wp2_with fail
    refine (below_any HR.out 200 (by omega) (by omega) _ HR3.out).mono ?_
    rintro e w4 ⟨y, y0, y1, rfl, hr, hg⟩
    have HR4 : Hid (Rd w w.heap.size a len cap w4) := hr
    clear hr hg
    go_wp2
    go_ret2
    exact ⟨x, y, x0, x1, by omega, by omega, rfl, HR4.out.below⟩
set_option maxHeartbeats 1000000 in
theorem drawRoot_any {a : Option Addr} {len cap : Nat} {zs : List Int} (w : World) (hrow : Row .u8 w a len cap zs) :
    Calls Try.prog 23 #[.slice a len cap] w fun e w' => ∃ x : Int, e = .returned (.int .i64 x) ∧ Below w.heap.size w w' := by
  have HR : Hid (Row .u8 w a len cap zs) := hrow
  clear hrow
  go_enter Try.func23, Try.ntmps23
  go_wp2_with fail
  refine (open_any _).mono ?_
  rintro e w1 ⟨rfl, hr⟩
  have HR1 : Hid (Rd w w.heap.size a len cap w1) := hr
  clear hr
  go_wp2_with fail
  refine (once_any HR.out 6 (by omega) (by omega) _ HR1.out).mono ?_
  rintro e w3 ⟨v, rfl, hr, hg⟩
  have HR3 : Hid (Rd w w.heap.size a len cap w3) := hr
  clear hr hg
  cases v with
  | true =>
    go_wp2_with fail
    refine (off_any HR.out 0 65537 (by omega) (by omega) (by omega) _ HR3.out).mono ?_
    rintro e w4 ⟨y, y0, y1, rfl, hr, hg⟩
    have HR4 : Hid (Rd w w.heap.size a len cap w4) := hr
    clear hr hg
    go_wp2
    go_ret
    exact ⟨y, rfl, HR4.out.below⟩
  | false =>
    go_wp2_with fail
    refine (below_any HR.out 18 (by omega) (by omega) _ HR3.out).mono ?_
    rintro e w4 ⟨y, y0, y1, rfl, hr, hg⟩
    have HR4 : Hid (Rd w w.heap.size a len cap w4) := hr
    clear hr hg
    go_wp2
    go_ret
    exact ⟨_, rfl, HR4.out.below⟩
end Go.Proofs.Ytmdfmeclcjbajaa
