/- What DrawJoinedAll draws: some claims, at most eight. -/
import Derived.Test.YtjeoenieoejoladRdU
namespace Go.Proofs.Ytjeoenieoejolad
open Go.RowKit

set_option maxHeartbeats 4000000 in
theorem drawJoinedAll_any {a : Option Addr} {len cap : Nat} {zs : List Int} (w : World) (hrow : Row .u8 w a len cap zs) :
    Calls Try.prog 6 #[.slice a len cap] w fun e w' => ∃ (la : Option Addr) (ll lc : Nat), e = .returned (.slice la ll lc) ∧ ll ≤ 8 ∧ (ll = 0 ∨ ∃ g cs, la = some ⟨g, 0, none⟩ ∧ 0 < ll ∧ SeesC w' (some ⟨g, 0, none⟩) ll lc cs) ∧ Below w.heap.size w w' := by
  have HR : Hid (Row .u8 w a len cap zs) := hrow
  clear hrow
  go_enter Try.func6, Try.ntmps6
  go_wp2_with fail
  refine (open_any _).mono ?_
  rintro e w1 ⟨rfl, hr1⟩
  have HR1 : Hid (Rd w w.heap.size a len cap w1) := hr1
  clear hr1
  go_wp2_with fail
  refine (machineR_any HR.out _ HR1.out).mono ?_
  rintro e w2 ⟨mm, rfl, hr2, hg2⟩
  have CC := claimsR_any HR.out mm w2 hr2
  clear hr2 hg2 HR1
  obtain ⟨⟨a1, b1, e1, d1, f1, k1⟩, ⟨a2, b2, e2, d2, f2, k2⟩⟩ := mm
  dsimp only [mcv] at CC ⊢
  go_wp2_with fail
  refine CC.mono ?_
  rintro e w3 ⟨la, ll, lc, rfl, hll, hcl, hr3, hg3⟩
  have HCL : Hid (ll = 0 ∨ ∃ g cs, la = some ⟨g, 0, none⟩ ∧ 0 < ll ∧ SeesC w3 (some ⟨g, 0, none⟩) ll lc cs) := by
    rcases hcl with h | ⟨g, h1, h2, h3⟩
    · exact .inl h
    · obtain ⟨cs, hs⟩ := h3.se
      exact .inr ⟨g, cs, h1, h2, hs⟩
  have HB3 : Hid (Below w.heap.size w w3) := hr3.below
  clear hcl hr3 hg3 CC
  go_wp2
  go_ret
  exact ⟨la, ll, lc, rfl, hll, HCL.out, HB3.out⟩
end Go.Proofs.Ytjeoenieoejolad
