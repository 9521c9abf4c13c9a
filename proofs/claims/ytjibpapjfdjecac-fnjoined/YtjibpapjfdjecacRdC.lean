/- What is drawn for the field's laws: some numbers that fit 64 bits; nothing that was there is turned. -/
import Derived.Test.YtjibpapjfdjecacRdB
namespace Go.Proofs.Ytjibpapjfdjecac
open Go.RowKit

set_option maxHeartbeats 400000 in
theorem big_any (a : Option Addr) (len cap : Nat) (w : World) :
    Calls Try.prog 6 #[.slice a len cap] w fun e w' => e = .returned (.bool (decide ((1048576 : Int) < (len : Int)))) ∧ w' = w := by
  go_enter Try.func6, Try.ntmps6
  go_wp2
  go_ret
  exact ⟨rfl, rfl⟩
end Go.Proofs.Ytjibpapjfdjecac
