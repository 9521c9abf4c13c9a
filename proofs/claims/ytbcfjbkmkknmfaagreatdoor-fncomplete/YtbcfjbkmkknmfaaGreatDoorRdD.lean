/- What is drawn for the laws of polynomials: some lists of numbers in memory of their own. -/
import Derived.Test.YtbcfjbkmkknmfaaGreatDoorRdA
import Derived.Test.YtbcfjbkmkknmfaaGreatDoorSlF
import Derived.Maps.Range
namespace Go.Proofs.YtbcfjbkmkknmfaaGreatDoor
open Go.RowKit

theorem Owns.keepR {t : TypeId} {w w' : World} {base R : Nat} {a : Option Addr} {n cap : Nat} {zs : List Int} (h : Owns t w base a n cap zs) (hg : w.grownBy w' (some R)) (hne : ∀ x, a = some x → x.block ≠ R) : Owns t w' base a n cap zs := by
  refine World.ownsRow.kept h hg ?_
  cases a with
  | none => exact .inl rfl
  | some x => exact .inr (by simpa [Value.ownBlock] using hne x rfl)
theorem Owns.past {t : TypeId} {w : World} {base R : Nat} {a : Option Addr} {n cap : Nat} {zs : List Int} (h : Owns t w base a n cap zs) (hR : R < base) : ∀ x, a = some x → x.block ≠ R := fun x hx => by
  have := h.lo x hx; omega
theorem Rd.keep {w0 w w' : World} {R : Nat} {a b : Option Addr} {len cap n c : Nat} (h : Rd w0 R a len cap w) (hg : w.grownBy w' (Value.slice b n c).ownBlock) (hne : ∀ x, b = some x → x.block ≠ R) (hlo : ∀ x, b = some x → w0.heap.size ≤ x.block) : Rd w0 R a len cap w' := by
  have hR : some R ≠ (Value.slice b n c).ownBlock := by
    cases b with
    | none => simp [Value.ownBlock]
    | some x => have := hne x rfl; simp [Value.ownBlock]; omega
  obtain ⟨p, hp, hcp⟩ := h.cp
  refine ⟨h.below.grown hg (Nat.le_trans h.lo (Nat.le_of_lt h.hi)) (fun k hk => ?_), h.lo, Nat.lt_of_lt_of_le h.hi hg.size, hg.cell h.cb hR, ⟨p, hp, hg.cell hcp hR⟩, ?_⟩
  · cases b with
    | none => simp [Value.ownBlock] at hk
    | some x => simp [Value.ownBlock] at hk; have := hlo x rfl; omega
  · exact (World.frozen?_of_block (a := ⟨R, 1, none⟩) (hg.block R h.hi hR)).trans h.fr
theorem Rd.grow {w0 w w' : World} {R : Nat} {a : Option Addr} {len cap : Nat} (h : Rd w0 R a len cap w) (hb : Below w.heap.size w w') : Rd w0 R a len cap w' := by
  have hg : w.grownBy w' none := ⟨hb.os, hb.tape, hb.output, hb.size, fun k hk _ => hb.block k hk⟩
  obtain ⟨p, hp, hcp⟩ := h.cp
  refine ⟨h.below.trans (hb.mono (Nat.le_trans h.lo (Nat.le_of_lt h.hi))), h.lo, Nat.lt_of_lt_of_le h.hi hb.size, hg.cell h.cb (by simp), ⟨p, hp, hg.cell hcp (by simp)⟩, ?_⟩
  exact (World.frozen?_of_block (a := ⟨R, 1, none⟩) (hg.block R h.hi (by simp))).trans h.fr
theorem grown_below {w w' w'' : World} {R : Nat} (h : w.grownBy w' (some R)) (hb : Below w'.heap.size w' w'') : w.grownBy w'' (some R) :=
  h.trans ⟨hb.os, hb.tape, hb.output, hb.size, fun k hk _ => hb.block k hk⟩

end Go.Proofs.YtbcfjbkmkknmfaaGreatDoor
