/- The reader of drawn bytes: each of its steps answers some number in its range and turns nothing but its own place in memory. -/
import Derived.Test.YtjibpapjfdjecacSlA
import Derived.Deep.QuietTactic
import Derived.BigQuiet
import Derived.WalkSpells
import Derived.OpenShut
import Derived.Maps.AppendAt
namespace Go.Proofs.Ytjibpapjfdjecac
open Go.RowKit

/-- a slice of integers that came in: nil, or a row of 'cap' cells that hold the numbers 'zs' -/
def Row (k : IntKind) (w : World) (a : Option Addr) (len cap : Nat) (zs : List Int) : Prop :=
  (a = none ∧ len = 0 ∧ cap = 0 ∧ zs = []) ∨
  ∃ x, a = some x ∧ len ≤ cap ∧ cap ≤ maxLen ∧ zs.length = cap ∧ (∀ i, i < zs.length → w.cell? (x.add i) = some (.int k (zs.getD i 0))) ∧ ∀ n ∈ zs, (Lit.int k n).wf = true

/-- the reader lies in block R: the code's slice and a place in it; below the law's first blocks all is as it was -/
structure Rd (w0 : World) (R : Nat) (a : Option Addr) (len cap : Nat) (w : World) : Prop where
  below : Below w0.heap.size w0 w
  lo : w0.heap.size ≤ R
  hi : R < w.heap.size
  cb : w.cell? ⟨R, 0, none⟩ = some (.slice a len cap)
  cp : ∃ p : Nat, p ≤ len ∧ w.cell? ⟨R, 1, none⟩ = some (.int .i64 p)
  fr : w.frozen? ⟨R, 1, none⟩ = false

theorem row_byte {w0 : World} {a : Option Addr} {len cap : Nat} {zs : List Int} (h : Row .u8 w0 a len cap zs) (p : Nat) (hp : p < len) :
    ∃ b off z, a = some ⟨b, off, none⟩ ∧ b < w0.heap.size ∧ 0 ≤ z ∧ z ≤ 255 ∧ w0.cell? ⟨b, off + p, none⟩ = some (.int .u8 z) ∧ len ≤ cap ∧ (len : Int) ≤ 9223372036854775807 := by
  rcases h with ⟨_, rfl, _, _⟩ | ⟨x, rfl, hl, hm, hz, hc, hw⟩
  · omega
  · obtain ⟨b, off, rfl, hc2⟩ := ints_at hc (by omega)
    have h2 := hc2 p (by omega)
    have hb := World.block_lt_of_cell? w0 ⟨b, off + p, none⟩ h2
    have hz2 := hw (zs.getD p 0) (by rw [List.getD_eq_getElem?_getD, List.getElem?_eq_getElem (by omega)]; exact List.getElem_mem _)
    have hbd := bounds_u8 hz2
    unfold maxLen at hm
    exact ⟨b, off, _, rfl, hb, hbd.1, hbd.2, h2, hl, by omega⟩

theorem grown_drewN {w w' : World} {row : Option Nat} (h : w.grownBy w' row) (n : Nat) : w.grownBy (w'.drewN n) row := ⟨h.os, h.tape, h.output, h.size, h.block⟩

theorem grown_set {w w' : World} {b : Nat} (h : w.grownBy w' (some b)) (a : Addr) (ha : a.block = b) (v : Value) : w.grownBy (w'.setCell a v) (some b) :=
  ⟨h.os, h.tape, h.output, by simpa [World.setCell] using h.size, fun k hk hne => (Below.heap_setCell _ _ _ _ (by intro e; exact hne (by rw [e, ha]))).trans (h.block k hk hne)⟩

theorem rd_step {w0 w : World} {R : Nat} {a : Option Addr} {len cap : Nat} (h : Rd w0 R a len cap w) (q : Nat) (hq : q ≤ len) (n m : Nat) :
    Rd w0 R a len cap (((w.drewN n).setCell ⟨R, 1, none⟩ (.int .i64 q)).drewN m) ∧ w.grownBy (((w.drewN n).setCell ⟨R, 1, none⟩ (.int .i64 q)).drewN m) (some R) := by
  obtain ⟨p, hp, hcp⟩ := h.cp
  have h1 : (w.drewN n).cell? ⟨R, 1, none⟩ = some (.int .i64 p) := hcp
  have h0 : (w.drewN n).cell? ⟨R, 0, none⟩ = some (.slice a len cap) := h.cb
  refine ⟨⟨Below.drewN' ((Below.drewN' h.below n).setCell h.lo _) m, h.lo, ?_, ?_, ⟨q, hq, ?_⟩, ?_⟩, ?_⟩
  · show R < ((w.drewN n).setCell ⟨R, 1, none⟩ (.int .i64 q)).heap.size
    rw [World.size_setCell]; exact h.hi
  · show ((w.drewN n).setCell ⟨R, 1, none⟩ (.int .i64 q)).cell? ⟨R, 0, none⟩ = _
    exact (World.cell?_setCell_other (w := w.drewN n) (a := ⟨R, 1, none⟩) (b := ⟨R, 0, none⟩) (v := .int .i64 q) (h := by simp)).trans h0
  · show ((w.drewN n).setCell ⟨R, 1, none⟩ (.int .i64 q)).cell? ⟨R, 1, none⟩ = _
    exact World.cell?_setCell_same (w := w.drewN n) (a := ⟨R, 1, none⟩) (v := .int .i64 q) (h := h1)
  · show ((w.drewN n).setCell ⟨R, 1, none⟩ (.int .i64 q)).frozen? ⟨R, 1, none⟩ = _
    rw [World.frozen?_setCell]; exact h.fr
  · exact grown_drewN (grown_set (grown_drewN (World.grownBy.refl _ _) n) _ rfl _) m

set_option maxHeartbeats 1000000 in
theorem next_any {w0 : World} {R : Nat} {a : Option Addr} {len cap : Nat} {zs : List Int} (hrow : Row .u8 w0 a len cap zs) (w : World) (h : Rd w0 R a len cap w) :
    Calls Try.prog 48 #[.pointer (some ⟨R, 0, none⟩)] w fun e w' => ∃ v : Int, 0 ≤ v ∧ v ≤ 255 ∧ e = .returned (.int .i64 v) ∧ Rd w0 R a len cap w' ∧ w.grownBy w' (some R) := by
  obtain ⟨hb, hlo, hhi, hcb, ⟨p, hp, hcp⟩, hfr⟩ := h
  by_cases hlt : p < len
  · obtain ⟨b, off, z, rfl, hbl, z0, z1, hc, hlc, hl⟩ := row_byte hrow p hlt
    have hc' : w.cell? ⟨b, off + p, none⟩ = some (.int .u8 z) := (hb.cell (p := ⟨b, off + p, none⟩) hbl).trans hc
    have HB : Hid (Below w0.heap.size w0 w) := hb
    have hne : b < R := by omega
    have hpI : (p : Int) < (len : Int) := by omega
    have hg : ¬ (len : Int) ≤ (p : Int) := by omega
    clear hb hrow hc hlt
    go_enter Try.func48, Try.ntmps48
    go_wp2
    go_quiet (fail)
    go_wp2
    go_quiet (fail)
    go_wp2
    go_ret
    exact ⟨z, z0, z1, rfl, rd_step ⟨HB.out, hlo, hhi, hcb, ⟨p, hp, hcp⟩, hfr⟩ (p + 1) (by omega) _ _⟩
  · have HB : Hid (Below w0.heap.size w0 w) := hb
    clear hb
    go_enter Try.func48, Try.ntmps48
    go_wp2
    go_quiet (fail)
    go_wp2
    go_ret
    exact ⟨0, by omega, by omega, rfl, ⟨Below.drewN' HB.out _, hlo, hhi, hcb, ⟨p, hp, hcp⟩, hfr⟩, grown_drewN (World.grownBy.refl _ _) _⟩
end Go.Proofs.Ytjibpapjfdjecac
