/- What is drawn for the law of division: two lists of numbers in memory of their own. -/
import Derived.Test.YtjeoenieoejolaaRdD
namespace Go.Proofs.Ytjeoenieoejolaa
open Go.RowKit
set_option maxHeartbeats 1000000 in
theorem drawDivided_any {a : Option Addr} {len cap : Nat} {zs : List Int} (w : World) (hrow : Row .u8 w a len cap zs) :
    Calls Try.prog 37 #[.slice a len cap] w fun e w' => ∃ b n c l b2 n2 c2 l2, e = .returned (.tuple #[.slice b n c, .slice b2 n2 c2]) ∧ n ≤ 12 ∧ n2 ≤ 5 ∧ Owns 2 w' w.heap.size b n c l ∧ Owns 2 w' w.heap.size b2 n2 c2 l2 ∧ Below w.heap.size w w' := by
  have HR : Hid (Row .u8 w a len cap zs) := hrow
  clear hrow
  go_enter Try.func37, Try.ntmps37
  go_wp2_with fail
  refine (open_any _).mono ?_
  rintro e w1 ⟨rfl, hr⟩
  have HR1 : Hid (Rd w w.heap.size a len cap w1) := hr
  clear hr
  go_wp2_with fail
  refine (poly_any HR.out 12 (by omega) _ HR1.out).mono ?_
  rintro e w2 ⟨b, n, c, l, rfl, hn, ho, hr, hg⟩
  have HR2 : Hid (Rd w w.heap.size a len cap w2) := hr
  have HO2 : Hid (Owns 2 w2 w1.heap.size b n c l) := ho
  clear hr hg ho
  go_wp2_with fail
  refine (poly_any HR.out 5 (by omega) _ HR2.out).mono ?_
  rintro e w3 ⟨b2, n2, c2, l2, rfl, hn2, ho2, hr, hg⟩
  have HR3 : Hid (Rd w w.heap.size a len cap w3) := hr
  have HO3 : Hid (Owns 2 w3 w.heap.size b n c l) := (HO2.out.keepR hg (HO2.out.past HR1.out.hi)).mono HR1.out.below.size
  have HO4 : Hid (Owns 2 w3 w.heap.size b2 n2 c2 l2) := ho2.mono HR2.out.below.size
  clear hr hg ho2
  go_wp2
  go_ret2
  exact ⟨b, n, c, l, b2, n2, c2, l2, rfl, hn, hn2, HO3.out, HO4.out, HR3.out.below⟩
end Go.Proofs.Ytjeoenieoejolaa
