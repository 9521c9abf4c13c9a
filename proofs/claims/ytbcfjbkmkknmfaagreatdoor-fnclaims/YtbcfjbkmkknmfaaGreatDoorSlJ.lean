/- A polynomial times an element, a polynomial times x and an element, in the program. -/
import Derived.Test.YtbcfjbkmkknmfaaGreatDoorMulMath
namespace Go.Proofs.YtbcfjbkmkknmfaaGreatDoor
open Go.RowKit


theorem sees_all {w : World} {a : Option Addr} {n c : Nat} {zs : List Int} (h : Sees w a n c zs) : ∀ ad, a = some ad → ∀ j u, (zs.map (Value.int .i64))[j]? = some u → w.cell? (ad.add j) = some u := by
  have := sees_news h n (Nat.le_refl _)
  rw [List.take_of_length_le (by rw [h.len]; exact Nat.le_refl _)] at this
  exact this
end Go.Proofs.YtbcfjbkmkknmfaaGreatDoor
