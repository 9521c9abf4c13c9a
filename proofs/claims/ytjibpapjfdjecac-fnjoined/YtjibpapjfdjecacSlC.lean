/- What PolyOk answers, in the program and in its model, of every slice of numbers. -/
import Derived.Test.YtjibpapjfdjecacSlB
namespace Go.Proofs.Ytjibpapjfdjecac
open Go.RowKit

def M.polyOk (zs : List Int) : Bool := decide (zs.length ≤ 128) && (M.allEl zs && (decide (zs.length = 0) || (zs.getD (zs.length - 1) 0 != 0)))

set_option maxHeartbeats 1000000 in
theorem allEl1_any (ok : Bool) (x : Int) (w : World) :
    Calls Try.prog 66 #[.bool ok, .int .i64 x] w fun e w' => e = .returned (.bool (ok && M.el x)) ∧ w' = w := by
  cases he : M.el x with
  | true =>
    obtain ⟨x0, x1⟩ := (M.el_iff x).1 he
    clear he
    cases ok with
    | true =>
      go_enter Try.func66, Try.ntmps66
      go_wp2_with fail
      refine (elementOf_in x _ x0 x1).mono ?_
      rintro e w' ⟨rfl, rfl⟩
      go_wp2
      go_ret
      exact ⟨rfl, rfl⟩
    | false =>
      go_enter Try.func66, Try.ntmps66
      go_wp2_with fail
      refine (elementOf_in x _ x0 x1).mono ?_
      rintro e w' ⟨rfl, rfl⟩
      go_wp2
      go_ret
      exact ⟨rfl, rfl⟩
  | false =>
    have HX : Hid (x < 0 ∨ 65537 ≤ x) := (M.el_not x).1 he
    clear he
    cases ok with
    | true =>
      go_enter Try.func66, Try.ntmps66
      go_wp2_with fail
      refine (elementOf_out x _ HX.out).mono ?_
      rintro e w' ⟨rfl, rfl⟩
      go_wp2
      go_ret
      exact ⟨rfl, rfl⟩
    | false =>
      go_enter Try.func66, Try.ntmps66
      go_wp2_with fail
      refine (elementOf_out x _ HX.out).mono ?_
      rintro e w' ⟨rfl, rfl⟩
      go_wp2
      go_ret
      exact ⟨rfl, rfl⟩
theorem M.all_step {zs : List Int} {k : Nat} (hk : k < zs.length) : ((zs.take k).all M.el && M.el (zs.getD k 0)) = (zs.take (k + 1)).all M.el := by
  rw [List.take_succ_eq_append_getElem hk, List.all_append, List.getD_eq_getElem?_getD, List.getElem?_eq_getElem hk]
  simp
set_option maxHeartbeats 1000000 in
theorem foldAll_any {a : Option Addr} {n c : Nat} {zs : List Int} (w : World) (hz : Sees w a n c zs) :
    Calls Try.prog 65 #[.slice a n c, .bool true, .func (.func 66) #[] #[]] w fun e w' => e = .returned (.bool (M.allEl zs)) ∧ w' = w := by
  have bn : (n : Int) ≤ 9223372036854775807 := by have := hz.big; have := hz.le; omega
  have HZ : Hid (Sees w a n c zs) := hz
  clear hz
  go_enter Try.func65, Try.ntmps65
  go_wp2
  go_loop [1, 11] (fun s i => ∃ k : Nat, k ≤ n ∧ i = .int .i64 k ∧ s = .bool ((zs.take k).all M.el)) (fun _ i => n - (intOf i).toNat)
  case atStart => exact ⟨0, by omega, rfl, rfl⟩
  case round =>
    obtain ⟨k, hk, rfl, rfl⟩ := hrel
    by_cases hlt : k < n
    · obtain ⟨b1, o1, rfl, hc1⟩ := HZ.out.at (by omega)
      have c1 := hc1 k hlt
      have HS : Hid (((zs.take k).all M.el && M.el (zs.getD k 0)) = (zs.take (k + 1)).all M.el) := M.all_step (by rw [HZ.out.len]; exact hlt)
      clear hc1
      generalize hx : zs.getD k 0 = x at c1
      have HX : Hid (zs.getD k 0 = x) := hx
      generalize hs : (zs.take k).all M.el = s
      have HT : Hid ((zs.take k).all M.el = s) := hs
      have hI : (k : Int) < (n : Int) := by omega
      clear hx hs
      go_wp2_with fail
      refine (allEl1_any s x _).mono ?_
      rintro e w' ⟨rfl, rfl⟩
      go_wp2
      go_round
      case rel => exact ⟨k + 1, by omega, by go_num, by rw [← HS.out, HT.out, HX.out]⟩
      case measure => simp [intOf]; omega
    · go_wp2
      go_ret
      refine ⟨ret_bool ?_, rfl⟩
      rw [List.take_of_length_le (by rw [HZ.out.len]; omega)]; rfl
theorem allElements_any {a : Option Addr} {n c : Nat} {zs : List Int} (w : World) (hz : Sees w a n c zs) :
    Calls Try.prog 60 #[.slice a n c] w fun e w' => e = .returned (.bool (M.allEl zs)) ∧ w' = w := by
  have HZ : Hid (Sees w a n c zs) := hz
  clear hz
  go_enter Try.func60, Try.ntmps60
  go_wp2_with fail
  refine (foldAll_any _ HZ.out).mono ?_
  rintro e w' ⟨rfl, rfl⟩
  go_wp2
  go_ret
  exact ⟨rfl, rfl⟩
end Go.Proofs.Ytjibpapjfdjecac
