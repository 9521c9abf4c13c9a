/- The reader of drawn bytes: each of its steps answers some number in its range and turns nothing but its own place in memory. The reader of drawn bytes, continued: numbers below a bound, words, numbers near a range, elements. What is drawn for the field's laws: some numbers that fit 64 bits; nothing that was there is turned. -/
import Derived.Test.YtbcfjbkmkknmfaaGreatDoorSlA
import Derived.Deep.QuietTactic
import Derived.BigQuiet
import Derived.WalkSpells
import Derived.OpenShut
import Derived.Maps.AppendAt
namespace Go.Proofs.YtbcfjbkmkknmfaaGreatDoor
open Go.RowKit

/-- a slice of integers that came in: nil, or a row of 'cap' cells that hold the numbers 'zs' -/
def Row (k : IntKind) (w : World) (a : Option Addr) (len cap : Nat) (zs : List Int) : Prop :=
  (a = none ∧ len = 0 ∧ cap = 0 ∧ zs = []) ∨
  ∃ x, a = some x ∧ len ≤ cap ∧ cap ≤ maxLen ∧ zs.length = cap ∧ (∀ i, i < zs.length → w.cell? (x.add i) = some (.int k (zs.getD i 0))) ∧ ∀ n ∈ zs, (Lit.int k n).wf = true

/-- the reader lies in block R: the code's slice and a place in it; below the law's first blocks all is as it was -/
structure Rd (w0 : World) (R : Nat) (a : Option Addr) (len cap : Nat) (w : World) : Prop where
  below : Below w0.heap.size w0 w
  lo : w0.heap.size ≤ R
  hi : R < w.heap.size
  cb : w.cell? ⟨R, 0, none⟩ = some (.slice a len cap)
  cp : ∃ p : Nat, p ≤ len ∧ w.cell? ⟨R, 1, none⟩ = some (.int .i64 p)
  fr : w.frozen? ⟨R, 1, none⟩ = false

theorem row_byte {w0 : World} {a : Option Addr} {len cap : Nat} {zs : List Int} (h : Row .u8 w0 a len cap zs) (p : Nat) (hp : p < len) :
    ∃ b off z, a = some ⟨b, off, none⟩ ∧ b < w0.heap.size ∧ 0 ≤ z ∧ z ≤ 255 ∧ w0.cell? ⟨b, off + p, none⟩ = some (.int .u8 z) ∧ len ≤ cap ∧ (len : Int) ≤ 9223372036854775807 := by
  rcases h with ⟨_, rfl, _, _⟩ | ⟨x, rfl, hl, hm, hz, hc, hw⟩
  · omega
  · obtain ⟨b, off, rfl, hc2⟩ := ints_at hc (by omega)
    have h2 := hc2 p (by omega)
    have hb := World.block_lt_of_cell? w0 ⟨b, off + p, none⟩ h2
    have hz2 := hw (zs.getD p 0) (by rw [List.getD_eq_getElem?_getD, List.getElem?_eq_getElem (by omega)]; exact List.getElem_mem _)
    have hbd := bounds_u8 hz2
    unfold maxLen at hm
    exact ⟨b, off, _, rfl, hb, hbd.1, hbd.2, h2, hl, by omega⟩

theorem grown_drewN {w w' : World} {row : Option Nat} (h : w.grownBy w' row) (n : Nat) : w.grownBy (w'.drewN n) row := ⟨h.os, h.tape, h.output, h.size, h.block⟩

theorem grown_set {w w' : World} {b : Nat} (h : w.grownBy w' (some b)) (a : Addr) (ha : a.block = b) (v : Value) : w.grownBy (w'.setCell a v) (some b) :=
  ⟨h.os, h.tape, h.output, by simpa [World.setCell] using h.size, fun k hk hne => (Below.heap_setCell _ _ _ _ (by intro e; exact hne (by rw [e, ha]))).trans (h.block k hk hne)⟩

theorem rd_step {w0 w : World} {R : Nat} {a : Option Addr} {len cap : Nat} (h : Rd w0 R a len cap w) (q : Nat) (hq : q ≤ len) (n m : Nat) :
    Rd w0 R a len cap (((w.drewN n).setCell ⟨R, 1, none⟩ (.int .i64 q)).drewN m) ∧ w.grownBy (((w.drewN n).setCell ⟨R, 1, none⟩ (.int .i64 q)).drewN m) (some R) := by
  obtain ⟨p, hp, hcp⟩ := h.cp
  have h1 : (w.drewN n).cell? ⟨R, 1, none⟩ = some (.int .i64 p) := hcp
  have h0 : (w.drewN n).cell? ⟨R, 0, none⟩ = some (.slice a len cap) := h.cb
  refine ⟨⟨Below.drewN' ((Below.drewN' h.below n).setCell h.lo _) m, h.lo, ?_, ?_, ⟨q, hq, ?_⟩, ?_⟩, ?_⟩
  · show R < ((w.drewN n).setCell ⟨R, 1, none⟩ (.int .i64 q)).heap.size
    rw [World.size_setCell]; exact h.hi
  · show ((w.drewN n).setCell ⟨R, 1, none⟩ (.int .i64 q)).cell? ⟨R, 0, none⟩ = _
    exact (World.cell?_setCell_other (w := w.drewN n) (a := ⟨R, 1, none⟩) (b := ⟨R, 0, none⟩) (v := .int .i64 q) (h := by simp)).trans h0
  · show ((w.drewN n).setCell ⟨R, 1, none⟩ (.int .i64 q)).cell? ⟨R, 1, none⟩ = _
    exact World.cell?_setCell_same (w := w.drewN n) (a := ⟨R, 1, none⟩) (v := .int .i64 q) (h := h1)
  · show ((w.drewN n).setCell ⟨R, 1, none⟩ (.int .i64 q)).frozen? ⟨R, 1, none⟩ = _
    rw [World.frozen?_setCell]; exact h.fr
  · exact grown_drewN (grown_set (grown_drewN (World.grownBy.refl _ _) n) _ rfl _) m

set_option maxHeartbeats 1000000 in
theorem next_any {w0 : World} {R : Nat} {a : Option Addr} {len cap : Nat} {zs : List Int} (hrow : Row .u8 w0 a len cap zs) (w : World) (h : Rd w0 R a len cap w) :
    Calls Tryz.prog 75 #[.pointer (some ⟨R, 0, none⟩)] w fun e w' => ∃ v : Int, 0 ≤ v ∧ v ≤ 255 ∧ e = .returned (.int .i64 v) ∧ Rd w0 R a len cap w' ∧ w.grownBy w' (some R) := by
  obtain ⟨hb, hlo, hhi, hcb, ⟨p, hp, hcp⟩, hfr⟩ := h
  by_cases hlt : p < len
  · obtain ⟨b, off, z, rfl, hbl, z0, z1, hc, hlc, hl⟩ := row_byte hrow p hlt
    have hc' : w.cell? ⟨b, off + p, none⟩ = some (.int .u8 z) := (hb.cell (p := ⟨b, off + p, none⟩) hbl).trans hc
    have HB : Hid (Below w0.heap.size w0 w) := hb
    have hne : b < R := by omega
    have hpI : (p : Int) < (len : Int) := by omega
    have hg : ¬ (len : Int) ≤ (p : Int) := by omega
    clear hb hrow hc hlt
    go_enter Tryz.func75, Tryz.ntmps75
    go_wp2
    go_quiet (fail)
    go_wp2
    go_quiet (fail)
    go_wp2
    go_ret
    exact ⟨z, z0, z1, rfl, rd_step ⟨HB.out, hlo, hhi, hcb, ⟨p, hp, hcp⟩, hfr⟩ (p + 1) (by omega) _ _⟩
  · have HB : Hid (Below w0.heap.size w0 w) := hb
    clear hb
    go_enter Tryz.func75, Tryz.ntmps75
    go_wp2
    go_quiet (fail)
    go_wp2
    go_ret
    exact ⟨0, by omega, by omega, rfl, ⟨Below.drewN' HB.out _, hlo, hhi, hcb, ⟨p, hp, hcp⟩, hfr⟩, grown_drewN (World.grownBy.refl _ _) _⟩
end Go.Proofs.YtbcfjbkmkknmfaaGreatDoor
namespace Go.Proofs.YtbcfjbkmkknmfaaGreatDoor
open Go.RowKit

set_option maxHeartbeats 1000000 in
theorem below_any {w0 : World} {R : Nat} {a : Option Addr} {len cap : Nat} {zs : List Int} (hrow : Row .u8 w0 a len cap zs) (n : Int) (n0 : 1 ≤ n) (n1 : n ≤ 65536) (w : World) (h : Rd w0 R a len cap w) :
    Calls Tryz.prog 31 #[.pointer (some ⟨R, 0, none⟩), .int .i64 n] w fun e w' => ∃ v : Int, 0 ≤ v ∧ v < n ∧ e = .returned (.int .i64 v) ∧ Rd w0 R a len cap w' ∧ w.grownBy w' (some R) := by
  have HR : Hid (Row .u8 w0 a len cap zs) := hrow
  have H : Hid (Rd w0 R a len cap w) := h
  clear hrow h
  by_cases h1 : n ≤ 1
  · go_enter Tryz.func31, Tryz.ntmps31
    go_wp2
    go_ret
    exact ⟨0, by omega, by omega, rfl, H.out, World.grownBy.refl _ _⟩
  · by_cases h2 : n ≤ 256
    · go_enter Tryz.func31, Tryz.ntmps31
      go_wp2_with fail
      refine (next_any HR.out _ H.out).mono ?_
      rintro e w1 ⟨v, v0, v1, rfl, hr, hg⟩
      have HR1 : Hid (Rd w0 R a len cap w1) := hr
      have HG1 : Hid (w.grownBy w1 (some R)) := hg
      clear hr hg
      go_wp2
      go_ret
      exact ⟨v % n, Int.emod_nonneg _ (by omega), Int.emod_lt_of_pos _ (by omega), rfl, HR1.out, HG1.out⟩
    · go_enter Tryz.func31, Tryz.ntmps31
      go_wp2_with fail
      refine (next_any HR.out _ H.out).mono ?_
      rintro e w1 ⟨v, v0, v1, rfl, hr, hg⟩
      have HR1 : Hid (Rd w0 R a len cap w1) := hr
      have HG1 : Hid (w.grownBy w1 (some R)) := hg
      clear hr hg
      go_wp2_with fail
      refine (next_any HR.out _ HR1.out).mono ?_
      rintro e w2 ⟨u, u0, u1, rfl, hr, hg⟩
      have HR2 : Hid (Rd w0 R a len cap w2) := hr
      have HG2 : Hid (w1.grownBy w2 (some R)) := hg
      clear hr hg
      go_wp2
      go_ret
      exact ⟨(v * 256 + u) % n, Int.emod_nonneg _ (by omega), Int.emod_lt_of_pos _ (by omega), rfl, HR2.out, HG1.out.trans HG2.out⟩

set_option maxHeartbeats 1000000 in
theorem once_any {w0 : World} {R : Nat} {a : Option Addr} {len cap : Nat} {zs : List Int} (hrow : Row .u8 w0 a len cap zs) (n : Int) (n0 : 1 ≤ n) (n1 : n ≤ 65536) (w : World) (h : Rd w0 R a len cap w) :
    Calls Tryz.prog 29 #[.pointer (some ⟨R, 0, none⟩), .int .i64 n] w fun e w' => ∃ v : Bool, e = .returned (.bool v) ∧ Rd w0 R a len cap w' ∧ w.grownBy w' (some R) := by
  have HR : Hid (Row .u8 w0 a len cap zs) := hrow
  have H : Hid (Rd w0 R a len cap w) := h
  clear hrow h
  go_enter Tryz.func29, Tryz.ntmps29
  go_wp2_with fail
  refine (below_any HR.out n n0 n1 _ H.out).mono ?_
  rintro e w1 ⟨v, v0, v1, rfl, hr, hg⟩
  have HR1 : Hid (Rd w0 R a len cap w1) := hr
  have HG1 : Hid (w.grownBy w1 (some R)) := hg
  clear hr hg
  go_wp2
  go_ret
  exact ⟨_, rfl, HR1.out, HG1.out⟩

set_option maxHeartbeats 1000000 in
theorem word_any {w0 : World} {R : Nat} {a : Option Addr} {len cap : Nat} {zs : List Int} (hrow : Row .u8 w0 a len cap zs) (w : World) (h : Rd w0 R a len cap w) :
    Calls Tryz.prog 108 #[.pointer (some ⟨R, 0, none⟩)] w fun e w' => ∃ v : Int, (Lit.int .u64 v).wf = true ∧ e = .returned (.int .u64 v) ∧ Rd w0 R a len cap w' ∧ w.grownBy w' (some R) := by
  have HR : Hid (Row .u8 w0 a len cap zs) := hrow
  have H : Hid (Rd w0 R a len cap w) := h
  clear hrow h
  go_enter Tryz.func108, Tryz.ntmps108
  go_wp2
  go_loopw [3, 4] (fun x i wr => ∃ (xv : Int) (k : Nat), k ≤ 8 ∧ x = .int .u64 xv ∧ i = .int .i64 k ∧ (Lit.int .u64 xv).wf = true ∧ Rd w0 R a len cap wr ∧ w.grownBy wr (some R)) (fun _ i _ => 8 - (intOf i).toNat)
  case atStart => exact ⟨0, 0, by omega, rfl, rfl, by decide, H.out, World.grownBy.refl _ _⟩
  case round =>
    obtain ⟨xv, k, hk, rfl, rfl, hwf, hr, hg⟩ := hrel
    have HW : Hid ((Lit.int .u64 xv).wf = true) := hwf
    have HR0 : Hid (Rd w0 R a len cap wr) := hr
    have HG0 : Hid (w.grownBy wr (some R)) := hg
    have hx := bounds_u64 hwf
    obtain ⟨x0, x1⟩ := hx
    clear hwf hr hg H
    by_cases hlt : k < 8
    · go_wp2_with fail
      refine (next_any HR.out _ HR0.out).mono ?_
      rintro e w1 ⟨v, v0, v1, rfl, hr, hg⟩
      have HR1 : Hid (Rd w0 R a len cap w1) := hr
      have HG1 : Hid (wr.grownBy w1 (some R)) := hg
      clear hr hg
      go_wp2
      go_roundw
      case rel => exact ⟨_, k + 1, by omega, rfl, by go_num, wf_bits _ _ _ _, HR1.out, HG0.out.trans HG1.out⟩
      case measure => simp [intOf]; omega
    · go_wp2
      go_ret
      exact ⟨_, HW.out, rfl, HR0.out, HG0.out⟩

set_option maxHeartbeats 1000000 in
theorem near_any {w0 : World} {R : Nat} {a : Option Addr} {len cap : Nat} {zs : List Int} (hrow : Row .u8 w0 a len cap zs) (lo hi : Int) (l0 : 0 ≤ lo) (lh : lo ≤ hi) (h1 : hi ≤ 4611686018427387904) (w : World) (h : Rd w0 R a len cap w) :
    Calls Tryz.prog 74 #[.pointer (some ⟨R, 0, none⟩), .int .i64 lo, .int .i64 hi] w fun e w' => ∃ v : Int, lo ≤ v ∧ v ≤ hi ∧ e = .returned (.int .i64 v) ∧ Rd w0 R a len cap w' ∧ w.grownBy w' (some R) := by
  have HR : Hid (Row .u8 w0 a len cap zs) := hrow
  have H : Hid (Rd w0 R a len cap w) := h
  clear hrow h
  have hlh : ¬ hi < lo := by omega
  go_enter Tryz.func74, Tryz.ntmps74
  go_wp2_with fail
  refine (below_any HR.out 8 (by omega) (by omega) _ H.out).mono ?_
  rintro e w1 ⟨v, v0, v1, rfl, hr, hg⟩
  have HR1 : Hid (Rd w0 R a len cap w1) := hr
  have HG1 : Hid (w.grownBy w1 (some R)) := hg
  clear hr hg
  by_cases e0 : v = 0
  · subst e0
    go_wp2
    go_ret
    exact ⟨lo, by omega, by omega, rfl, HR1.out, HG1.out⟩
  · by_cases e1 : v = 1
    · subst e1
      go_wp2
      go_ret
      exact ⟨hi, by omega, by omega, rfl, HR1.out, HG1.out⟩
    · have b0 : (v == 0) = false := by simp [e0]
      have b1 : (v == 1) = false := by simp [e1]
      clear e0 e1
      go_wp2_with fail
      refine (word_any HR.out _ HR1.out).mono ?_
      rintro e w2 ⟨x, hx, rfl, hr, hg⟩
      have HR2 : Hid (Rd w0 R a len cap w2) := hr
      have HG2 : Hid (w1.grownBy w2 (some R)) := hg
      obtain ⟨x0, x1⟩ := bounds_u64 hx
      clear hr hg hx
      have hm0 : 0 ≤ x / 2 % (hi - lo + 1) := Int.emod_nonneg _ (by omega)
      have hm1 : x / 2 % (hi - lo + 1) < hi - lo + 1 := Int.emod_lt_of_pos _ (by omega)
      have HM : Hid (0 ≤ x / 2 % (hi - lo + 1) ∧ x / 2 % (hi - lo + 1) < hi - lo + 1) := ⟨hm0, hm1⟩
      clear hm0 hm1
      go_wp2
      go_ret
      have hm := HM.out
      exact ⟨lo + x / 2 % (hi - lo + 1), by omega, by omega, ret_int (by rw [IntWalk.wrap64_in (x / 2 % (hi - lo + 1)) ⟨by omega, by omega⟩, IntWalk.wrap64_in _ ⟨by omega, by omega⟩]), HR2.out, HG1.out.trans HG2.out⟩

theorem Rd.alloc {w0 w : World} {R : Nat} {a : Option Addr} {len cap : Nat} (h : Rd w0 R a len cap w) (o : Obj) : Rd w0 R a len cap (w.alloc o) := by
  have hg := World.grownBy_alloc w o none
  obtain ⟨p, hp, hcp⟩ := h.cp
  have hs : R < (w.alloc o).heap.size := Nat.lt_of_lt_of_le h.hi hg.size
  refine ⟨h.below.alloc (Nat.le_trans h.lo (Nat.le_of_lt h.hi)) o, h.lo, hs, hg.cell h.cb (by simp), ⟨p, hp, hg.cell hcp (by simp)⟩, ?_⟩
  exact (World.frozen?_of_block (a := ⟨R, 1, none⟩) (hg.block R h.hi (by simp))).trans h.fr

theorem grown_alloc_then {w w' : World} {R : Nat} {o : Obj} (h : (w.alloc o).grownBy w' (some R)) : w.grownBy w' (some R) :=
  (World.grownBy_alloc w o (some R)).trans h

theorem alloc_cell (w : World) (cs : Array Value) (t : TypeId) (j : Nat) (u : Value) (h : cs[j]? = some u) : (w.alloc (.cells cs t)).cell? ⟨w.heap.size, j, none⟩ = some u := by
  rw [World.cell?_alloc_new]; exact h

set_option maxHeartbeats 1000000 in
theorem off_any {w0 : World} {R : Nat} {a : Option Addr} {len cap : Nat} {zs : List Int} (hrow : Row .u8 w0 a len cap zs) (lo hi : Int) (l0 : 0 ≤ lo) (lh : lo ≤ hi) (h1 : hi ≤ 4611686018427387904) (w : World) (h : Rd w0 R a len cap w) :
    Calls Tryz.prog 30 #[.pointer (some ⟨R, 0, none⟩), .int .i64 lo, .int .i64 hi] w fun e w' => ∃ v : Int, -9223372036854775808 ≤ v ∧ v ≤ 9223372036854775807 ∧ e = .returned (.int .i64 v) ∧ Rd w0 R a len cap w' ∧ w.grownBy w' (some R) := by
  have HR : Hid (Row .u8 w0 a len cap zs) := hrow
  have H : Hid (Rd w0 R a len cap w) := h
  clear hrow h
  go_enter Tryz.func30, Tryz.ntmps30
  go_wp2_with fail
  refine (once_any HR.out 24 (by omega) (by omega) _ H.out).mono ?_
  rintro e w1 ⟨v, rfl, hr, hg⟩
  have HR1 : Hid (Rd w0 R a len cap w1) := hr
  have HG1 : Hid (w.grownBy w1 (some R)) := hg
  clear hr hg
  cases v with
  | true =>
    go_wp2_with fail
    refine (below_any HR.out 4 (by omega) (by omega) _ (HR1.out.alloc _)).mono ?_
    rintro e w2 ⟨x, x0, x1, rfl, hr, hg⟩
    have hne : w1.heap.size ≠ R := by have := HR1.out.hi; omega
    have c0 := hg.cell (alloc_cell w1 _ _ 0 _ rfl) (by simpa using hne)
    have c1 := hg.cell (alloc_cell w1 _ _ 1 _ rfl) (by simpa using hne)
    have c2 := hg.cell (alloc_cell w1 _ _ 2 _ rfl) (by simpa using hne)
    have c3 := hg.cell (alloc_cell w1 _ _ 3 _ rfl) (by simpa using hne)
    have HR2 : Hid (Rd w0 R a len cap w2) := hr
    have HG2 : Hid (w1.grownBy w2 (some R)) := grown_alloc_then hg
    clear hr hg
    have hx : x = 0 ∨ x = 1 ∨ x = 2 ∨ x = 3 := by omega
    rcases hx with rfl | rfl | rfl | rfl
    all_goals
      go_wp2
      go_ret
      exact ⟨_, by omega, by omega, rfl, HR2.out, HG1.out.trans HG2.out⟩
  | false =>
    go_wp2_with fail
    refine (near_any HR.out lo hi l0 lh h1 _ HR1.out).mono ?_
    rintro e w2 ⟨x, x0, x1, rfl, hr, hg⟩
    have HR2 : Hid (Rd w0 R a len cap w2) := hr
    have HG2 : Hid (w1.grownBy w2 (some R)) := hg
    clear hr hg
    go_wp2
    go_ret
    exact ⟨x, by omega, by omega, rfl, HR2.out, HG1.out.trans HG2.out⟩

set_option maxHeartbeats 2000000 in
theorem elem_any {w0 : World} {R : Nat} {a : Option Addr} {len cap : Nat} {zs : List Int} (hrow : Row .u8 w0 a len cap zs) (w : World) (h : Rd w0 R a len cap w) :
    Calls Tryz.prog 56 #[.pointer (some ⟨R, 0, none⟩)] w fun e w' => ∃ v : Int, -9223372036854775808 ≤ v ∧ v ≤ 9223372036854775807 ∧ e = .returned (.int .i64 v) ∧ Rd w0 R a len cap w' ∧ w.grownBy w' (some R) := by
  have HR : Hid (Row .u8 w0 a len cap zs) := hrow
  have H : Hid (Rd w0 R a len cap w) := h
  clear hrow h
  go_enter Tryz.func56, Tryz.ntmps56
  go_wp2_with fail
  refine (below_any HR.out 6 (by omega) (by omega) _ H.out).mono ?_
  rintro e w1 ⟨v, v0, v1, rfl, hr, hg⟩
  have HR1 : Hid (Rd w0 R a len cap w1) := hr
  have HG1 : Hid (w.grownBy w1 (some R)) := hg
  clear hr hg
  by_cases e1 : v = 1
  · subst e1
    go_wp2_with fail
    refine (below_any HR.out 3 (by omega) (by omega) _ HR1.out).mono ?_
    rintro e w2 ⟨x, x0, x1, rfl, hr, hg⟩
    have HR2 : Hid (Rd w0 R a len cap w2) := hr
    have HG2 : Hid (w1.grownBy w2 (some R)) := hg
    clear hr hg
    go_wp2
    go_ret
    exact ⟨65536 - x, by omega, by omega, rfl, HR2.out, HG1.out.trans HG2.out⟩
  · by_cases e2 : v = 2
    · subst e2
      go_wp2_with fail
      refine (word_any HR.out _ HR1.out).mono ?_
      rintro e w2 ⟨x, hx, rfl, hr, hg⟩
      have HR2 : Hid (Rd w0 R a len cap w2) := hr
      have HG2 : Hid (w1.grownBy w2 (some R)) := hg
      obtain ⟨x0, x1⟩ := bounds_u64 hx
      clear hr hg hx
      go_wp2
      go_ret
      exact ⟨x % 65537, by omega, by omega, rfl, HR2.out, HG1.out.trans HG2.out⟩
    · by_cases e3 : v = 3
      · subst e3
        go_wp2_with fail
        refine (off_any HR.out 0 65536 (by omega) (by omega) (by omega) _ HR1.out).mono ?_
        rintro e w2 ⟨x, x0, x1, rfl, hr, hg⟩
        have HR2 : Hid (Rd w0 R a len cap w2) := hr
        have HG2 : Hid (w1.grownBy w2 (some R)) := hg
        clear hr hg
        go_wp2
        go_ret
        exact ⟨x, x0, x1, rfl, HR2.out, HG1.out.trans HG2.out⟩
      · have b1 : (v == 1) = false := by simp [e1]
        have b2 : (v == 2) = false := by simp [e2]
        have b3 : (v == 3) = false := by simp [e3]
        clear e1 e2 e3
        go_wp2_with fail
        refine (below_any HR.out 6 (by omega) (by omega) _ HR1.out).mono ?_
        rintro e w2 ⟨x, x0, x1, rfl, hr, hg⟩
        have HR2 : Hid (Rd w0 R a len cap w2) := hr
        have HG2 : Hid (w1.grownBy w2 (some R)) := hg
        clear hr hg
        go_wp2
        go_ret
        exact ⟨x, by omega, by omega, rfl, HR2.out, HG1.out.trans HG2.out⟩

set_option maxHeartbeats 1000000 in
theorem open_any {a : Option Addr} {len cap : Nat} (w : World) :
    Calls Tryz.prog 26 #[.slice a len cap] w fun e w' => e = .returned (.pointer (some ⟨w.heap.size, 0, none⟩)) ∧ Rd w w.heap.size a len cap w' := by
  go_enter Tryz.func26, Tryz.ntmps26
  go_wp2
  go_ret
  refine ⟨rfl, ⟨(Below.refl _ _).alloc (Nat.le_refl _) _, Nat.le_refl _, by simp, alloc_cell _ _ _ 0 _ rfl, ⟨0, Nat.zero_le _, alloc_cell _ _ _ 1 _ rfl⟩, ?_⟩⟩
  simp
end Go.Proofs.YtbcfjbkmkknmfaaGreatDoor
namespace Go.Proofs.YtbcfjbkmkknmfaaGreatDoor
open Go.RowKit

set_option maxHeartbeats 400000 in
theorem big_any (a : Option Addr) (len cap : Nat) (w : World) :
    Calls Tryz.prog 7 #[.slice a len cap] w fun e w' => e = .returned (.bool (decide ((1048576 : Int) < (len : Int)))) ∧ w' = w := by
  go_enter Tryz.func7, Tryz.ntmps7
  go_wp2
  go_ret
  exact ⟨rfl, rfl⟩
end Go.Proofs.YtbcfjbkmkknmfaaGreatDoor
