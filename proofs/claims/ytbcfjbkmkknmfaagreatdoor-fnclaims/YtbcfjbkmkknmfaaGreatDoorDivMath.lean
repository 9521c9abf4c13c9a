/- Division of polynomials with a rest: there is one quotient and one rest; no program in sight. -/
import Derived.Test.YtbcfjbkmkknmfaaGreatDoorEvMath
namespace Go.Proofs.YtbcfjbkmkknmfaaGreatDoor
namespace M
theorem pm_snoc0 (zs g : List Int) (i : Nat) : pm (zs ++ [0]) g i = pm zs g i := by
  rw [pm_snoc]
  have := pm_bd zs g i
  have e : (if zs.length ≤ i then 0 * g.getD (i - zs.length) 0 else 0) = 0 := by split <;> simp
  rw [e, Int.add_zero, Int.emod_eq_of_lt this.1 this.2]
theorem pm_tl (zs g : List Int) (i k : Nat) (hk : k ≤ zs.length) : pm (zs.take (tl zs k)) g i = pm (zs.take k) g i := by
  induction k with
  | zero => rfl
  | succ k ih =>
    unfold tl
    by_cases h : zs.getD k 0 = 0
    · rw [if_pos h, ih (by omega), ← take_snoc (by omega), h, pm_snoc0]
    · rw [if_neg h]
theorem pm_trim (zs g : List Int) (i : Nat) : pm (trim zs) g i = pm zs g i := by
  unfold trim; rw [pm_tl zs g i _ (Nat.le_refl _), List.take_length]
/-- q and r are quotient and rest of f by g -/
structure Div (f g q r : List Int) : Prop where
  nq : neat q
  nr : neat r
  aq : allEl q = true
  ar : allEl r = true
  short : r.length < g.length
  eq : ∀ i, f.getD i 0 = (pm q g i + r.getD i 0) % 65537
end M
end Go.Proofs.YtbcfjbkmkknmfaaGreatDoor
