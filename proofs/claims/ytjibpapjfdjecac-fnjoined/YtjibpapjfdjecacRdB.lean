/- The reader of drawn bytes, continued: numbers below a bound, words, numbers near a range, elements. -/
import Derived.Test.YtjibpapjfdjecacRdA
namespace Go.Proofs.Ytjibpapjfdjecac
open Go.RowKit

set_option maxHeartbeats 1000000 in
theorem below_any {w0 : World} {R : Nat} {a : Option Addr} {len cap : Nat} {zs : List Int} (hrow : Row .u8 w0 a len cap zs) (n : Int) (n0 : 1 ≤ n) (n1 : n ≤ 65536) (w : World) (h : Rd w0 R a len cap w) :
    Calls Try.prog 26 #[.pointer (some ⟨R, 0, none⟩), .int .i64 n] w fun e w' => ∃ v : Int, 0 ≤ v ∧ v < n ∧ e = .returned (.int .i64 v) ∧ Rd w0 R a len cap w' ∧ w.grownBy w' (some R) := by
  have HR : Hid (Row .u8 w0 a len cap zs) := hrow
  have H : Hid (Rd w0 R a len cap w) := h
  clear hrow h
  by_cases h1 : n ≤ 1
  · go_enter Try.func26, Try.ntmps26
    go_wp2
    go_ret
    exact ⟨0, by omega, by omega, rfl, H.out, World.grownBy.refl _ _⟩
  · by_cases h2 : n ≤ 256
    · go_enter Try.func26, Try.ntmps26
      go_wp2_with fail
      refine (next_any HR.out _ H.out).mono ?_
      rintro e w1 ⟨v, v0, v1, rfl, hr, hg⟩
      have HR1 : Hid (Rd w0 R a len cap w1) := hr
      have HG1 : Hid (w.grownBy w1 (some R)) := hg
      clear hr hg
      go_wp2
      go_ret
      exact ⟨v % n, Int.emod_nonneg _ (by omega), Int.emod_lt_of_pos _ (by omega), rfl, HR1.out, HG1.out⟩
    · go_enter Try.func26, Try.ntmps26
      go_wp2_with fail
      refine (next_any HR.out _ H.out).mono ?_
      rintro e w1 ⟨v, v0, v1, rfl, hr, hg⟩
      have HR1 : Hid (Rd w0 R a len cap w1) := hr
      have HG1 : Hid (w.grownBy w1 (some R)) := hg
      clear hr hg
      go_wp2_with fail
      refine (next_any HR.out _ HR1.out).mono ?_
      rintro e w2 ⟨u, u0, u1, rfl, hr, hg⟩
      have HR2 : Hid (Rd w0 R a len cap w2) := hr
      have HG2 : Hid (w1.grownBy w2 (some R)) := hg
      clear hr hg
      go_wp2
      go_ret
      exact ⟨(v * 256 + u) % n, Int.emod_nonneg _ (by omega), Int.emod_lt_of_pos _ (by omega), rfl, HR2.out, HG1.out.trans HG2.out⟩

set_option maxHeartbeats 1000000 in
theorem once_any {w0 : World} {R : Nat} {a : Option Addr} {len cap : Nat} {zs : List Int} (hrow : Row .u8 w0 a len cap zs) (n : Int) (n0 : 1 ≤ n) (n1 : n ≤ 65536) (w : World) (h : Rd w0 R a len cap w) :
    Calls Try.prog 27 #[.pointer (some ⟨R, 0, none⟩), .int .i64 n] w fun e w' => ∃ v : Bool, e = .returned (.bool v) ∧ Rd w0 R a len cap w' ∧ w.grownBy w' (some R) := by
  have HR : Hid (Row .u8 w0 a len cap zs) := hrow
  have H : Hid (Rd w0 R a len cap w) := h
  clear hrow h
  go_enter Try.func27, Try.ntmps27
  go_wp2_with fail
  refine (below_any HR.out n n0 n1 _ H.out).mono ?_
  rintro e w1 ⟨v, v0, v1, rfl, hr, hg⟩
  have HR1 : Hid (Rd w0 R a len cap w1) := hr
  have HG1 : Hid (w.grownBy w1 (some R)) := hg
  clear hr hg
  go_wp2
  go_ret
  exact ⟨_, rfl, HR1.out, HG1.out⟩

set_option maxHeartbeats 1000000 in
theorem word_any {w0 : World} {R : Nat} {a : Option Addr} {len cap : Nat} {zs : List Int} (hrow : Row .u8 w0 a len cap zs) (w : World) (h : Rd w0 R a len cap w) :
    Calls Try.prog 59 #[.pointer (some ⟨R, 0, none⟩)] w fun e w' => ∃ v : Int, (Lit.int .u64 v).wf = true ∧ e = .returned (.int .u64 v) ∧ Rd w0 R a len cap w' ∧ w.grownBy w' (some R) := by
  have HR : Hid (Row .u8 w0 a len cap zs) := hrow
  have H : Hid (Rd w0 R a len cap w) := h
  clear hrow h
  go_enter Try.func59, Try.ntmps59
  go_wp2
  go_loopw [3, 4] (fun x i wr => ∃ (xv : Int) (k : Nat), k ≤ 8 ∧ x = .int .u64 xv ∧ i = .int .i64 k ∧ (Lit.int .u64 xv).wf = true ∧ Rd w0 R a len cap wr ∧ w.grownBy wr (some R)) (fun _ i _ => 8 - (intOf i).toNat)
  case atStart => exact ⟨0, 0, by omega, rfl, rfl, by decide, H.out, World.grownBy.refl _ _⟩
  case round =>
    obtain ⟨xv, k, hk, rfl, rfl, hwf, hr, hg⟩ := hrel
    have HW : Hid ((Lit.int .u64 xv).wf = true) := hwf
    have HR0 : Hid (Rd w0 R a len cap wr) := hr
    have HG0 : Hid (w.grownBy wr (some R)) := hg
    have hx := bounds_u64 hwf
    obtain ⟨x0, x1⟩ := hx
    clear hwf hr hg H
    by_cases hlt : k < 8
    · go_wp2_with fail
      refine (next_any HR.out _ HR0.out).mono ?_
      rintro e w1 ⟨v, v0, v1, rfl, hr, hg⟩
      have HR1 : Hid (Rd w0 R a len cap w1) := hr
      have HG1 : Hid (wr.grownBy w1 (some R)) := hg
      clear hr hg
      go_wp2
      go_roundw
      case rel => exact ⟨_, k + 1, by omega, rfl, by go_num, wf_bits _ _ _ _, HR1.out, HG0.out.trans HG1.out⟩
      case measure => simp [intOf]; omega
    · go_wp2
      go_ret
      exact ⟨_, HW.out, rfl, HR0.out, HG0.out⟩

set_option maxHeartbeats 1000000 in
theorem near_any {w0 : World} {R : Nat} {a : Option Addr} {len cap : Nat} {zs : List Int} (hrow : Row .u8 w0 a len cap zs) (lo hi : Int) (l0 : 0 ≤ lo) (lh : lo ≤ hi) (h1 : hi ≤ 4611686018427387904) (w : World) (h : Rd w0 R a len cap w) :
    Calls Try.prog 57 #[.pointer (some ⟨R, 0, none⟩), .int .i64 lo, .int .i64 hi] w fun e w' => ∃ v : Int, lo ≤ v ∧ v ≤ hi ∧ e = .returned (.int .i64 v) ∧ Rd w0 R a len cap w' ∧ w.grownBy w' (some R) := by
  have HR : Hid (Row .u8 w0 a len cap zs) := hrow
  have H : Hid (Rd w0 R a len cap w) := h
  clear hrow h
  have hlh : ¬ hi < lo := by omega
  go_enter Try.func57, Try.ntmps57
  go_wp2_with fail
  refine (below_any HR.out 8 (by omega) (by omega) _ H.out).mono ?_
  rintro e w1 ⟨v, v0, v1, rfl, hr, hg⟩
  have HR1 : Hid (Rd w0 R a len cap w1) := hr
  have HG1 : Hid (w.grownBy w1 (some R)) := hg
  clear hr hg
  by_cases e0 : v = 0
  · subst e0
    go_wp2
    go_ret
    exact ⟨lo, by omega, by omega, rfl, HR1.out, HG1.out⟩
  · by_cases e1 : v = 1
    · subst e1
      go_wp2
      go_ret
      exact ⟨hi, by omega, by omega, rfl, HR1.out, HG1.out⟩
    · have b0 : (v == 0) = false := by simp [e0]
      have b1 : (v == 1) = false := by simp [e1]
      clear e0 e1
      go_wp2_with fail
      refine (word_any HR.out _ HR1.out).mono ?_
      rintro e w2 ⟨x, hx, rfl, hr, hg⟩
      have HR2 : Hid (Rd w0 R a len cap w2) := hr
      have HG2 : Hid (w1.grownBy w2 (some R)) := hg
      obtain ⟨x0, x1⟩ := bounds_u64 hx
      clear hr hg hx
      have hm0 : 0 ≤ x / 2 % (hi - lo + 1) := Int.emod_nonneg _ (by omega)
      have hm1 : x / 2 % (hi - lo + 1) < hi - lo + 1 := Int.emod_lt_of_pos _ (by omega)
      have HM : Hid (0 ≤ x / 2 % (hi - lo + 1) ∧ x / 2 % (hi - lo + 1) < hi - lo + 1) := ⟨hm0, hm1⟩
      clear hm0 hm1
      go_wp2
      go_ret
      have hm := HM.out
      exact ⟨lo + x / 2 % (hi - lo + 1), by omega, by omega, ret_int (by rw [IntWalk.wrap64_in (x / 2 % (hi - lo + 1)) ⟨by omega, by omega⟩, IntWalk.wrap64_in _ ⟨by omega, by omega⟩]), HR2.out, HG1.out.trans HG2.out⟩

theorem Rd.alloc {w0 w : World} {R : Nat} {a : Option Addr} {len cap : Nat} (h : Rd w0 R a len cap w) (o : Obj) : Rd w0 R a len cap (w.alloc o) := by
  have hg := World.grownBy_alloc w o none
  obtain ⟨p, hp, hcp⟩ := h.cp
  have hs : R < (w.alloc o).heap.size := Nat.lt_of_lt_of_le h.hi hg.size
  refine ⟨h.below.alloc (Nat.le_trans h.lo (Nat.le_of_lt h.hi)) o, h.lo, hs, hg.cell h.cb (by simp), ⟨p, hp, hg.cell hcp (by simp)⟩, ?_⟩
  exact (World.frozen?_of_block (a := ⟨R, 1, none⟩) (hg.block R h.hi (by simp))).trans h.fr

theorem grown_alloc_then {w w' : World} {R : Nat} {o : Obj} (h : (w.alloc o).grownBy w' (some R)) : w.grownBy w' (some R) :=
  (World.grownBy_alloc w o (some R)).trans h

theorem alloc_cell (w : World) (cs : Array Value) (t : TypeId) (j : Nat) (u : Value) (h : cs[j]? = some u) : (w.alloc (.cells cs t)).cell? ⟨w.heap.size, j, none⟩ = some u := by
  rw [World.cell?_alloc_new]; exact h

set_option maxHeartbeats 1000000 in
theorem off_any {w0 : World} {R : Nat} {a : Option Addr} {len cap : Nat} {zs : List Int} (hrow : Row .u8 w0 a len cap zs) (lo hi : Int) (l0 : 0 ≤ lo) (lh : lo ≤ hi) (h1 : hi ≤ 4611686018427387904) (w : World) (h : Rd w0 R a len cap w) :
    Calls Try.prog 38 #[.pointer (some ⟨R, 0, none⟩), .int .i64 lo, .int .i64 hi] w fun e w' => ∃ v : Int, -9223372036854775808 ≤ v ∧ v ≤ 9223372036854775807 ∧ e = .returned (.int .i64 v) ∧ Rd w0 R a len cap w' ∧ w.grownBy w' (some R) := by
  have HR : Hid (Row .u8 w0 a len cap zs) := hrow
  have H : Hid (Rd w0 R a len cap w) := h
  clear hrow h
  go_enter Try.func38, Try.ntmps38
  go_wp2_with fail
  refine (once_any HR.out 24 (by omega) (by omega) _ H.out).mono ?_
  rintro e w1 ⟨v, rfl, hr, hg⟩
  have HR1 : Hid (Rd w0 R a len cap w1) := hr
  have HG1 : Hid (w.grownBy w1 (some R)) := hg
  clear hr hg
  cases v with
  | true =>
    go_wp2_with fail
    refine (below_any HR.out 4 (by omega) (by omega) _ (HR1.out.alloc _)).mono ?_
    rintro e w2 ⟨x, x0, x1, rfl, hr, hg⟩
    have hne : w1.heap.size ≠ R := by have := HR1.out.hi; omega
    have c0 := hg.cell (alloc_cell w1 _ _ 0 _ rfl) (by simpa using hne)
    have c1 := hg.cell (alloc_cell w1 _ _ 1 _ rfl) (by simpa using hne)
    have c2 := hg.cell (alloc_cell w1 _ _ 2 _ rfl) (by simpa using hne)
    have c3 := hg.cell (alloc_cell w1 _ _ 3 _ rfl) (by simpa using hne)
    have HR2 : Hid (Rd w0 R a len cap w2) := hr
    have HG2 : Hid (w1.grownBy w2 (some R)) := grown_alloc_then hg
    clear hr hg
    have hx : x = 0 ∨ x = 1 ∨ x = 2 ∨ x = 3 := by omega
    rcases hx with rfl | rfl | rfl | rfl
    all_goals
      go_wp2
      go_ret
      exact ⟨_, by omega, by omega, rfl, HR2.out, HG1.out.trans HG2.out⟩
  | false =>
    go_wp2_with fail
    refine (near_any HR.out lo hi l0 lh h1 _ HR1.out).mono ?_
    rintro e w2 ⟨x, x0, x1, rfl, hr, hg⟩
    have HR2 : Hid (Rd w0 R a len cap w2) := hr
    have HG2 : Hid (w1.grownBy w2 (some R)) := hg
    clear hr hg
    go_wp2
    go_ret
    exact ⟨x, by omega, by omega, rfl, HR2.out, HG1.out.trans HG2.out⟩

set_option maxHeartbeats 2000000 in
theorem elem_any {w0 : World} {R : Nat} {a : Option Addr} {len cap : Nat} {zs : List Int} (hrow : Row .u8 w0 a len cap zs) (w : World) (h : Rd w0 R a len cap w) :
    Calls Try.prog 47 #[.pointer (some ⟨R, 0, none⟩)] w fun e w' => ∃ v : Int, -9223372036854775808 ≤ v ∧ v ≤ 9223372036854775807 ∧ e = .returned (.int .i64 v) ∧ Rd w0 R a len cap w' ∧ w.grownBy w' (some R) := by
  have HR : Hid (Row .u8 w0 a len cap zs) := hrow
  have H : Hid (Rd w0 R a len cap w) := h
  clear hrow h
  go_enter Try.func47, Try.ntmps47
  go_wp2_with fail
  refine (below_any HR.out 6 (by omega) (by omega) _ H.out).mono ?_
  rintro e w1 ⟨v, v0, v1, rfl, hr, hg⟩
  have HR1 : Hid (Rd w0 R a len cap w1) := hr
  have HG1 : Hid (w.grownBy w1 (some R)) := hg
  clear hr hg
  by_cases e1 : v = 1
  · subst e1
    go_wp2_with fail
    refine (below_any HR.out 3 (by omega) (by omega) _ HR1.out).mono ?_
    rintro e w2 ⟨x, x0, x1, rfl, hr, hg⟩
    have HR2 : Hid (Rd w0 R a len cap w2) := hr
    have HG2 : Hid (w1.grownBy w2 (some R)) := hg
    clear hr hg
    go_wp2
    go_ret
    exact ⟨65536 - x, by omega, by omega, rfl, HR2.out, HG1.out.trans HG2.out⟩
  · by_cases e2 : v = 2
    · subst e2
      go_wp2_with fail
      refine (word_any HR.out _ HR1.out).mono ?_
      rintro e w2 ⟨x, hx, rfl, hr, hg⟩
      have HR2 : Hid (Rd w0 R a len cap w2) := hr
      have HG2 : Hid (w1.grownBy w2 (some R)) := hg
      obtain ⟨x0, x1⟩ := bounds_u64 hx
      clear hr hg hx
      go_wp2
      go_ret
      exact ⟨x % 65537, by omega, by omega, rfl, HR2.out, HG1.out.trans HG2.out⟩
    · by_cases e3 : v = 3
      · subst e3
        go_wp2_with fail
        refine (off_any HR.out 0 65536 (by omega) (by omega) (by omega) _ HR1.out).mono ?_
        rintro e w2 ⟨x, x0, x1, rfl, hr, hg⟩
        have HR2 : Hid (Rd w0 R a len cap w2) := hr
        have HG2 : Hid (w1.grownBy w2 (some R)) := hg
        clear hr hg
        go_wp2
        go_ret
        exact ⟨x, x0, x1, rfl, HR2.out, HG1.out.trans HG2.out⟩
      · have b1 : (v == 1) = false := by simp [e1]
        have b2 : (v == 2) = false := by simp [e2]
        have b3 : (v == 3) = false := by simp [e3]
        clear e1 e2 e3
        go_wp2_with fail
        refine (below_any HR.out 6 (by omega) (by omega) _ HR1.out).mono ?_
        rintro e w2 ⟨x, x0, x1, rfl, hr, hg⟩
        have HR2 : Hid (Rd w0 R a len cap w2) := hr
        have HG2 : Hid (w1.grownBy w2 (some R)) := hg
        clear hr hg
        go_wp2
        go_ret
        exact ⟨x, by omega, by omega, rfl, HR2.out, HG1.out.trans HG2.out⟩

set_option maxHeartbeats 1000000 in
theorem open_any {a : Option Addr} {len cap : Nat} (w : World) :
    Calls Try.prog 22 #[.slice a len cap] w fun e w' => e = .returned (.pointer (some ⟨w.heap.size, 0, none⟩)) ∧ Rd w w.heap.size a len cap w' := by
  go_enter Try.func22, Try.ntmps22
  go_wp2
  go_ret
  refine ⟨rfl, ⟨(Below.refl _ _).alloc (Nat.le_refl _) _, Nat.le_refl _, by simp, alloc_cell _ _ _ 0 _ rfl, ⟨0, Nat.zero_le _, alloc_cell _ _ _ 1 _ rfl⟩, ?_⟩⟩
  simp
end Go.Proofs.Ytjibpapjfdjecac
