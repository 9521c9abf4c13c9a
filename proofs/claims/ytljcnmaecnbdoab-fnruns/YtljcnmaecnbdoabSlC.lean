/- What PolyOk answers, in the program and in its model, of every slice of numbers. -/
import Derived.Test.YtljcnmaecnbdoabSlB
namespace Go.Proofs.Ytljcnmaecnbdoab
open Go.RowKit

def M.polyOk (zs : List Int) : Bool := decide (zs.length ≤ 128) && (M.allEl zs && (decide (zs.length = 0) || (zs.getD (zs.length - 1) 0 != 0)))

set_option maxHeartbeats 1000000 in
theorem specPolyOk_any {a : Option Addr} {n c : Nat} {zs : List Int} (w : World) (hz : Sees w a n c zs) :
    Calls Try.prog 27 #[.slice a n c] w fun e w' => e = .returned (.bool (M.polyOk zs)) ∧ w' = w := by
  have bn : (n : Int) ≤ 9223372036854775807 := by have := hz.big; have := hz.le; omega
  have hlen := hz.len
  have HZ : Hid (Sees w a n c zs) := hz
  clear hz
  by_cases h1 : n ≤ 128
  · have h1I : (n : Int) ≤ 128 := by omega
    cases hall : M.allEl zs with
    | false =>
      have E : Hid (M.polyOk zs = false) := by show M.polyOk zs = false; simp [M.polyOk, hall]
      clear hlen
      go_enter Try.func27, Try.ntmps27
      go_wp2_with fail
      refine (l1All_any _ HZ.out).mono ?_
      rintro e w' ⟨rfl, rfl⟩
      go_wp2
      go_ret
      exact ⟨ret_bool E.out.symm, rfl⟩
    | true =>
      by_cases h0 : n = 0
      · have E : Hid (M.polyOk zs = true) := by show M.polyOk zs = true; simp [M.polyOk, hall, hlen, h0]
        have b0 : ((n : Int) == 0) = true := by simp [h0]
        clear hlen h0
        go_enter Try.func27, Try.ntmps27
        go_wp2_with fail
        refine (l1All_any _ HZ.out).mono ?_
        rintro e w' ⟨rfl, rfl⟩
        go_wp2
        go_ret
        exact ⟨ret_bool E.out.symm, rfl⟩
      · have b0 : ((n : Int) == 0) = false := by simp [h0]
        obtain ⟨b1, o1, rfl, hc1⟩ := HZ.out.at (by omega)
        have c1 := hc1 (n - 1) (by omega)
        have E : Hid (M.polyOk zs = (zs.getD (n - 1) 0 != 0)) := by
          show M.polyOk zs = (zs.getD (n - 1) 0 != 0)
          simp [M.polyOk, hall, hlen, h0, h1]
        have hI : (0 : Int) ≤ (n : Int) - 1 := by omega
        have hI2 : (n : Int) - 1 < (n : Int) := by omega
        generalize hx : zs.getD (n - 1) 0 = x at c1
        have HX : Hid (zs.getD (n - 1) 0 = x) := hx
        have hn1 : 1 ≤ n := by omega
        clear hlen h0 hc1 hx
        go_enter Try.func27, Try.ntmps27
        go_wp2_with fail
        refine (l1All_any _ HZ.out).mono ?_
        rintro e w' ⟨rfl, rfl⟩
        go_wp2
        go_ret
        exact ⟨ret_bool (by rw [E.out, HX.out]), rfl⟩
  · have h1I : ¬ (n : Int) ≤ 128 := by omega
    have E : Hid (M.polyOk zs = false) := by show M.polyOk zs = false; simp [M.polyOk, hlen]; omega
    clear hlen
    go_enter Try.func27, Try.ntmps27
    go_wp2
    go_ret
    exact ⟨ret_bool E.out.symm, rfl⟩
set_option maxHeartbeats 1000000 in
theorem allEl1_any (ok : Bool) (x : Int) (w : World) :
    Calls Try.prog 136 #[.bool ok, .int .i64 x] w fun e w' => e = .returned (.bool (ok && M.el x)) ∧ w' = w := by
  cases he : M.el x with
  | true =>
    obtain ⟨x0, x1⟩ := (M.el_iff x).1 he
    clear he
    cases ok with
    | true =>
      go_enter Try.func136, Try.ntmps136
      go_wp2_with fail
      refine (elementOf_in x _ x0 x1).mono ?_
      rintro e w' ⟨rfl, rfl⟩
      go_wp2
      go_ret
      exact ⟨rfl, rfl⟩
    | false =>
      go_enter Try.func136, Try.ntmps136
      go_wp2_with fail
      refine (elementOf_in x _ x0 x1).mono ?_
      rintro e w' ⟨rfl, rfl⟩
      go_wp2
      go_ret
      exact ⟨rfl, rfl⟩
  | false =>
    have HX : Hid (x < 0 ∨ 65537 ≤ x) := (M.el_not x).1 he
    clear he
    cases ok with
    | true =>
      go_enter Try.func136, Try.ntmps136
      go_wp2_with fail
      refine (elementOf_out x _ HX.out).mono ?_
      rintro e w' ⟨rfl, rfl⟩
      go_wp2
      go_ret
      exact ⟨rfl, rfl⟩
    | false =>
      go_enter Try.func136, Try.ntmps136
      go_wp2_with fail
      refine (elementOf_out x _ HX.out).mono ?_
      rintro e w' ⟨rfl, rfl⟩
      go_wp2
      go_ret
      exact ⟨rfl, rfl⟩
theorem M.all_step {zs : List Int} {k : Nat} (hk : k < zs.length) : ((zs.take k).all M.el && M.el (zs.getD k 0)) = (zs.take (k + 1)).all M.el := by
  rw [List.take_succ_eq_append_getElem hk, List.all_append, List.getD_eq_getElem?_getD, List.getElem?_eq_getElem hk]
  simp
set_option maxHeartbeats 1000000 in
theorem foldAll_any {a : Option Addr} {n c : Nat} {zs : List Int} (w : World) (hz : Sees w a n c zs) :
    Calls Try.prog 135 #[.slice a n c, .bool true, .func (.func 136) #[] #[]] w fun e w' => e = .returned (.bool (M.allEl zs)) ∧ w' = w := by
  have bn : (n : Int) ≤ 9223372036854775807 := by have := hz.big; have := hz.le; omega
  have HZ : Hid (Sees w a n c zs) := hz
  clear hz
  go_enter Try.func135, Try.ntmps135
  go_wp2
  go_loop [1, 11] (fun s i => ∃ k : Nat, k ≤ n ∧ i = .int .i64 k ∧ s = .bool ((zs.take k).all M.el)) (fun _ i => n - (intOf i).toNat)
  case atStart => exact ⟨0, by omega, rfl, rfl⟩
  case round =>
    obtain ⟨k, hk, rfl, rfl⟩ := hrel
    by_cases hlt : k < n
    · obtain ⟨b1, o1, rfl, hc1⟩ := HZ.out.at (by omega)
      have c1 := hc1 k hlt
      have HS : Hid (((zs.take k).all M.el && M.el (zs.getD k 0)) = (zs.take (k + 1)).all M.el) := M.all_step (by rw [HZ.out.len]; exact hlt)
      clear hc1
      generalize hx : zs.getD k 0 = x at c1
      have HX : Hid (zs.getD k 0 = x) := hx
      generalize hs : (zs.take k).all M.el = s
      have HT : Hid ((zs.take k).all M.el = s) := hs
      have hI : (k : Int) < (n : Int) := by omega
      clear hx hs
      go_wp2_with fail
      refine (allEl1_any s x _).mono ?_
      rintro e w' ⟨rfl, rfl⟩
      go_wp2
      go_round
      case rel => exact ⟨k + 1, by omega, by go_num, by rw [← HS.out, HT.out, HX.out]⟩
      case measure => simp [intOf]; omega
    · go_wp2
      go_ret
      refine ⟨ret_bool ?_, rfl⟩
      rw [List.take_of_length_le (by rw [HZ.out.len]; omega)]; rfl
theorem allElements_any {a : Option Addr} {n c : Nat} {zs : List Int} (w : World) (hz : Sees w a n c zs) :
    Calls Try.prog 111 #[.slice a n c] w fun e w' => e = .returned (.bool (M.allEl zs)) ∧ w' = w := by
  have HZ : Hid (Sees w a n c zs) := hz
  clear hz
  go_enter Try.func111, Try.ntmps111
  go_wp2_with fail
  refine (foldAll_any _ HZ.out).mono ?_
  rintro e w' ⟨rfl, rfl⟩
  go_wp2
  go_ret
  exact ⟨rfl, rfl⟩
def M.coefOk (zs : List Int) : Bool := decide (zs.length ≤ 128) && M.allEl zs
theorem coefOk_any {a : Option Addr} {n c : Nat} {zs : List Int} (w : World) (hz : Sees w a n c zs) :
    Calls Try.prog 58 #[.slice a n c] w fun e w' => e = .returned (.bool (M.coefOk zs)) ∧ w' = w := by
  have hlen := hz.len
  have HZ : Hid (Sees w a n c zs) := hz
  clear hz
  by_cases h1 : n ≤ 128
  · have h1I : (n : Int) ≤ 128 := by omega
    have E : Hid (M.coefOk zs = M.allEl zs) := by show M.coefOk zs = M.allEl zs; simp [M.coefOk, hlen, h1]
    clear hlen
    go_enter Try.func58, Try.ntmps58
    go_wp2_with fail
    refine (allElements_any _ HZ.out).mono ?_
    rintro e w' ⟨rfl, rfl⟩
    go_wp2
    go_ret
    exact ⟨ret_bool E.out.symm, rfl⟩
  · have h1I : ¬ (n : Int) ≤ 128 := by omega
    have E : Hid (M.coefOk zs = false) := by show M.coefOk zs = false; simp [M.coefOk, hlen]; omega
    clear hlen
    go_enter Try.func58, Try.ntmps58
    go_wp2
    go_ret
    exact ⟨ret_bool E.out.symm, rfl⟩
set_option maxHeartbeats 1000000 in
theorem implPolyOk_any {a : Option Addr} {n c : Nat} {zs : List Int} (w : World) (hz : Sees w a n c zs) :
    Calls Try.prog 31 #[.slice a n c] w fun e w' => e = .returned (.bool (M.polyOk zs)) ∧ w' = w := by
  have bn : (n : Int) ≤ 9223372036854775807 := by have := hz.big; have := hz.le; omega
  have hlen := hz.len
  have HZ : Hid (Sees w a n c zs) := hz
  clear hz
  cases hco : M.coefOk zs with
  | false =>
    have E : Hid (M.polyOk zs = false) := by
      show M.polyOk zs = false
      unfold M.coefOk at hco; unfold M.polyOk; rw [← Bool.and_assoc, hco]; rfl
    clear hlen
    go_enter Try.func31, Try.ntmps31
    go_wp2_with fail
    refine (coefOk_any _ HZ.out).mono ?_
    rintro e w' ⟨rfl, rfl⟩
    go_wp2
    go_ret
    exact ⟨ret_bool E.out.symm, rfl⟩
  | true =>
    have hE : M.polyOk zs = (decide (zs.length = 0) || (zs.getD (zs.length - 1) 0 != 0)) := by
      have h2 := hco
      unfold M.coefOk at h2; unfold M.polyOk; rw [← Bool.and_assoc, h2, Bool.true_and]
    by_cases h0 : n = 0
    · have E : Hid (M.polyOk zs = true) := by show M.polyOk zs = true; rw [hE]; simp [hlen, h0]
      have b0 : ((n : Int) == 0) = true := by simp [h0]
      clear hlen h0 hE
      go_enter Try.func31, Try.ntmps31
      go_wp2_with fail
      refine (coefOk_any _ HZ.out).mono ?_
      rintro e w' ⟨rfl, rfl⟩
      go_wp2
      go_ret
      exact ⟨ret_bool E.out.symm, rfl⟩
    · have b0 : ((n : Int) == 0) = false := by simp [h0]
      obtain ⟨b1, o1, rfl, hc1⟩ := HZ.out.at (by omega)
      have c1 := hc1 (n - 1) (by omega)
      have E : Hid (M.polyOk zs = (zs.getD (n - 1) 0 != 0)) := by
        show M.polyOk zs = (zs.getD (n - 1) 0 != 0)
        rw [hE]; simp [hlen, h0]
      have hI : (0 : Int) ≤ (n : Int) - 1 := by omega
      have hI2 : (n : Int) - 1 < (n : Int) := by omega
      generalize hx : zs.getD (n - 1) 0 = x at c1
      have HX : Hid (zs.getD (n - 1) 0 = x) := hx
      have hn1 : 1 ≤ n := by omega
      clear hlen h0 hc1 hx hE
      go_enter Try.func31, Try.ntmps31
      go_wp2_with fail
      refine (coefOk_any _ HZ.out).mono ?_
      rintro e w' ⟨rfl, rfl⟩
      go_wp2
      go_ret
      exact ⟨ret_bool (by rw [E.out, HX.out]), rfl⟩
end Go.Proofs.Ytljcnmaecnbdoab
