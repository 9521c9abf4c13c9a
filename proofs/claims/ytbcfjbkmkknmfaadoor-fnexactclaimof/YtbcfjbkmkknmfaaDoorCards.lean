/-
  DERIVED. GIVEN WITH THE SEED: THE CARDS: each row of YtbcfjbkmkknmfaaDoorRows.lean that lists a variable, with what it lists TIED to the program's text (the seventh form; the later family's looks); each row that meets fmt, with fmt's text TOLD by the authors' own Lean function (tested against real Go, not proved from fmt's source: count such statements apart). THE CARD IS WHAT COUNTS. Prove the row's statement (the work); the ties are given (YtbcfjbkmkknmfaaDoorTie.lean); close each card by the builder's one call (the guide's Derived/Test/ToyasCard.lean, 'card_holds'). Laid BY PROGRAM, IN A SANDBOX (cutbox-door.mjs). By AI agents, Wed Nov 11 2026. No macro, syntax, notation, axiom, sorry.
-/
import Derived.Test.YtbcfjbkmkknmfaaDoorRows
import GoSem.ClaimSeven
namespace Go.Proofs.YtbcfjbkmkknmfaaDoor
namespace Rows

/-- THE TIED CARD OF 'laws.FnExactRowsOf'. -/
def fnExactRowsOfCard : Claim7 := { stood := { row := fnExactRowsOfRow, standIns := [], harness := (true, "ac09a0197f8cd216be9c00a72865211bfb79dbbf31838f323ec0a5cf19a7e663"), looks := true }, kinds := [], alts := [], laidByText := true, laidKinds := [.handle, .sentinel, .sentinel], laidTests := true, laidLooks := .later }
def FnExactRowsOfCardSaid : Prop := Claim7.holds Tryd.pinned (.plain (OpenSpec.ofChange fnExactRowsOfSpec)) fnExactRowsOfCard

/-- THE TIED CARD OF 'laws.FnExactClaimOf'. -/
def fnExactClaimOfCard : Claim7 := { stood := { row := fnExactClaimOfRow, standIns := [], harness := (true, "ac09a0197f8cd216be9c00a72865211bfb79dbbf31838f323ec0a5cf19a7e663"), looks := true }, kinds := [], alts := [], laidByText := true, laidKinds := [.handle, .sentinel, .sentinel], laidTests := true, laidLooks := .later }
def FnExactClaimOfCardSaid : Prop := Claim7.holds Tryd.pinned (.plain (OpenSpec.ofChange fnExactClaimOfSpec)) fnExactClaimOfCard

/-- THE SECOND FORM's CARD OF 'laws.FnExactRowsOf'. -/
def fnExactRowsOfUptoCard : Claim7 := { stood := { row := fnExactRowsOfUptoRow, standIns := [], harness := (true, "ac09a0197f8cd216be9c00a72865211bfb79dbbf31838f323ec0a5cf19a7e663"), looks := true }, kinds := [], alts := [], laidByText := true, laidKinds := [.handle, .sentinel, .sentinel], laidTests := true, laidLooks := .later }
def FnExactRowsOfUptoCardSaid : Prop := Claim7.holds Tryd.pinned (.plain (OpenSpec.upto fnExactRowsOfSpec)) fnExactRowsOfUptoCard

/-- THE SECOND FORM's CARD OF 'laws.FnExactClaimOf'. -/
def fnExactClaimOfUptoCard : Claim7 := { stood := { row := fnExactClaimOfUptoRow, standIns := [], harness := (true, "ac09a0197f8cd216be9c00a72865211bfb79dbbf31838f323ec0a5cf19a7e663"), looks := true }, kinds := [], alts := [], laidByText := true, laidKinds := [.handle, .sentinel, .sentinel], laidTests := true, laidLooks := .later }
def FnExactClaimOfUptoCardSaid : Prop := Claim7.holds Tryd.pinned (.plain (OpenSpec.upto fnExactClaimOfSpec)) fnExactClaimOfUptoCard
end Rows
end Go.Proofs.YtbcfjbkmkknmfaaDoor
