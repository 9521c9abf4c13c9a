/- Runs, in the program. -/
import Derived.Test.YtljcnmaecnbdoahMaE
import Derived.Test.YtljcnmaecnbdoahMaP
import Derived.Test.YtljcnmaecnbdoahSlE
namespace Go.Proofs.Ytljcnmaecnbdoah
open Go.RowKit

theorem wrap_smallm {x : Int} (h0 : 0 ≤ x) (h1 : x < 9223372036854775808) : IntKind.i64.wrap x = x := by
  unfold IntKind.wrap
  have e : x % 2 ^ IntKind.i64.bits = x := Int.emod_eq_of_lt h0 (by show x < 18446744073709551616; omega)
  simp only [e]
  rw [if_neg]
  rw [Bool.and_eq_true, decide_eq_true_iff]
  rintro ⟨_, h⟩
  have h' : x ≥ 9223372036854775808 := h
  omega
end Go.Proofs.Ytljcnmaecnbdoah
