/- Slices of numbers that are read: what it means that a slice shows a list of numbers, and the small loops that only read one. -/
import Derived.Deep.QuietTactic
import Derived.BigQuiet
import Derived.WalkSpells
import Derived.OpenShut
import Derived.Maps.AppendAt
import Derived.Test.YtbcfjbkmkknmfaaGreatDoorFieldA
namespace Go.Proofs.YtbcfjbkmkknmfaaGreatDoor
open Go.RowKit

/-- the slice (a, n, cap) shows the numbers zs -/
structure Sees (w : World) (a : Option Addr) (n cap : Nat) (zs : List Int) : Prop where
  len : zs.length = n
  le : n ≤ cap
  big : (cap : Int) ≤ 9223372036854775807
  no : a = none → n = 0 ∧ cap = 0
  pos : n = 0 ∨ ∃ b off, a = some ⟨b, off, none⟩ ∧ ∀ i, i < n → w.cell? ⟨b, off + i, none⟩ = some (.int .i64 (zs.getD i 0))

theorem Below.drewN' {B : Nat} {a w : World} (h : Below B a w) (n : Nat) : Below B a (w.drewN n) := ⟨h.os, h.tape, h.output, h.size, h.block⟩
theorem Sees.of_cells {w w' : World} {a : Option Addr} {n cap : Nat} {zs : List Int} (h : Sees w a n cap zs) (hc : ∀ (p : Addr) (v : Value), w.cell? p = some v → (∃ x, a = some x ∧ x.block = p.block) → w'.cell? p = some v) : Sees w' a n cap zs := by
  refine ⟨h.len, h.le, h.big, h.no, ?_⟩
  rcases h.pos with e | ⟨b, off, e, hb⟩
  · exact .inl e
  · exact .inr ⟨b, off, e, fun i hi => hc _ _ (hb i hi) ⟨_, e, rfl⟩⟩
theorem Sees.below {w w' : World} {a : Option Addr} {n cap : Nat} {zs : List Int} (h : Sees w a n cap zs) (hb : Below w.heap.size w w') : Sees w' a n cap zs :=
  h.of_cells fun p _ hp _ => (hb.cell (p := p) (World.block_lt_of_cell? w p hp)).trans hp
theorem Sees.drewN {w : World} {a : Option Addr} {n cap : Nat} {zs : List Int} (h : Sees w a n cap zs) (k : Nat) : Sees (w.drewN k) a n cap zs :=
  h.of_cells fun _ _ hp _ => hp
theorem Sees.nil {w : World} {a : Option Addr} {cap : Nat} {zs : List Int} (h : Sees w a 0 cap zs) : zs = [] := List.eq_nil_of_length_eq_zero h.len
theorem Sees.at {w : World} {a : Option Addr} {n cap : Nat} {zs : List Int} (h : Sees w a n cap zs) (h0 : 0 < n) : ∃ b off, a = some ⟨b, off, none⟩ ∧ ∀ i, i < n → w.cell? ⟨b, off + i, none⟩ = some (.int .i64 (zs.getD i 0)) := by
  rcases h.pos with e | e
  · omega
  · exact e

def M.allEl (zs : List Int) : Bool := zs.all M.el
theorem M.all_take {zs : List Int} {k : Nat} (h : (zs.take k).all M.el = true) (hk : k < zs.length) (he : M.el (zs.getD k 0) = true) : (zs.take (k + 1)).all M.el = true := by
  rw [List.take_succ_eq_append_getElem hk, List.all_append, h]
  simpa [List.getD_eq_getElem?_getD, List.getElem?_eq_getElem hk] using he
theorem M.all_no {zs : List Int} {k : Nat} (hk : k < zs.length) (he : M.el (zs.getD k 0) = false) : M.allEl zs = false := by
  unfold M.allEl
  rw [List.all_eq_false]
  refine ⟨zs.getD k 0, ?_, by rw [he]; simp⟩
  rw [List.getD_eq_getElem?_getD, List.getElem?_eq_getElem hk]; exact List.getElem_mem _
set_option maxHeartbeats 1000000 in
theorem l1All_any {a : Option Addr} {n c : Nat} {zs : List Int} (w : World) (hz : Sees w a n c zs) :
    Calls Tryz.prog 64 #[.slice a n c] w fun e w' => e = .returned (.bool (M.allEl zs)) ∧ w' = w := by
  have bn : (n : Int) ≤ 9223372036854775807 := by have := hz.big; have := hz.le; omega
  have HZ : Hid (Sees w a n c zs) := hz
  clear hz
  go_enter Tryz.func64, Tryz.ntmps64
  go_wp2
  go_loop [3] (fun i => ∃ k : Nat, k ≤ n ∧ i = .int .i64 k ∧ (zs.take k).all M.el = true) (fun i => n - (intOf i).toNat)
  case atStart => exact ⟨0, by omega, rfl, rfl⟩
  case round =>
    obtain ⟨k, hk, rfl, hall⟩ := hrel
    have HA : Hid ((zs.take k).all M.el = true) := hall
    clear hall
    by_cases hlt : k < n
    · obtain ⟨b1, o1, rfl, hc1⟩ := HZ.out.at (by omega)
      have c1 := hc1 k hlt
      clear hc1
      generalize hx : zs.getD k 0 = x at c1
      have HX : Hid (zs.getD k 0 = x) := hx
      clear hx
      cases he : M.el x with
      | true =>
        go_wp2_with fail
        refine (l1F_any _ _).mono ?_
        rintro e w' ⟨rfl, rfl⟩
        have HE : Hid (M.el x = true) := he
        go_wp2
        go_round
        case rel => exact ⟨k + 1, by omega, by go_num, M.all_take HA.out (by rw [HZ.out.len]; exact hlt) (by rw [HX.out]; exact HE.out)⟩
        case measure => simp [intOf]; omega
      | false =>
        go_wp2_with fail
        refine (l1F_any _ _).mono ?_
        rintro e w' ⟨rfl, rfl⟩
        have HE : Hid (M.el x = false) := he
        go_wp2
        go_ret
        exact ⟨ret_bool (M.all_no (by rw [HZ.out.len]; exact hlt) (by rw [HX.out]; exact HE.out)).symm, rfl⟩
    · go_wp2
      go_ret
      refine ⟨ret_bool ?_, rfl⟩
      have h := HA.out
      rw [List.take_of_length_le (by rw [HZ.out.len]; omega)] at h
      exact h.symm
end Go.Proofs.YtbcfjbkmkknmfaaGreatDoor
