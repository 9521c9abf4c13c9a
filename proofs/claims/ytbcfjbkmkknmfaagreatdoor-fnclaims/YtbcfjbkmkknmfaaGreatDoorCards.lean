/-
  DERIVED. GIVEN WITH THE SEED: THE CARDS: each row of YtbcfjbkmkknmfaaGreatDoorRows.lean that lists a variable, with what it lists TIED to the program's text (the seventh form; the later family's looks); each row that meets fmt, with fmt's text TOLD by the authors' own Lean function (tested against real Go, not proved from fmt's source: count such statements apart). THE CARD IS WHAT COUNTS. Prove the row's statement (the work); the ties are given (YtbcfjbkmkknmfaaGreatDoorTie.lean); close each card by the builder's one call (the guide's Derived/Test/ToyasCard.lean, 'card_holds'). Laid BY PROGRAM, IN A SANDBOX (cutbox-door.mjs). By AI agents, Wed Nov 11 2026. No macro, syntax, notation, axiom, sorry.
-/
import Derived.Test.YtbcfjbkmkknmfaaGreatDoorRows
import GoSem.ClaimSeven
namespace Go.Proofs.YtbcfjbkmkknmfaaGreatDoor
namespace Rows

/-- THE TIED CARD OF 'laws.FnComplete'. -/
def fnCompleteCard : Claim7 := { stood := { row := fnCompleteRow, standIns := [], harness := (true, "d310b629fe912c119a871b207789081fcf06976d7d18db3bbfddf04b16d78024"), looks := true }, kinds := [], alts := [], laidByText := true, laidKinds := [.handle, .sentinel, .sentinel, .sentinel, .sentinel, .sentinel], laidTests := true, laidLooks := .later }
def FnCompleteCardSaid : Prop := Claim7.holds Tryz.pinned (.plain (OpenSpec.ofChange fnCompleteSpec)) fnCompleteCard

/-- THE TIED CARD OF 'laws.FnSound'. -/
def fnSoundCard : Claim7 := { stood := { row := fnSoundRow, standIns := [], harness := (true, "d310b629fe912c119a871b207789081fcf06976d7d18db3bbfddf04b16d78024"), looks := true }, kinds := [], alts := [], laidByText := true, laidKinds := [.handle, .sentinel, .sentinel, .sentinel, .sentinel, .sentinel], laidTests := true, laidLooks := .later }
def FnSoundCardSaid : Prop := Claim7.holds Tryz.pinned (.plain (OpenSpec.ofChange fnSoundSpec)) fnSoundCard

/-- THE TIED CARD OF 'laws.FnClaims'. -/
def fnClaimsCard : Claim7 := { stood := { row := fnClaimsRow, standIns := [], harness := (true, "d310b629fe912c119a871b207789081fcf06976d7d18db3bbfddf04b16d78024"), looks := true }, kinds := [], alts := [], laidByText := true, laidKinds := [.handle, .sentinel, .sentinel], laidTests := true, laidLooks := .later }
def FnClaimsCardSaid : Prop := Claim7.holds Tryz.pinned (.plain (OpenSpec.ofChange fnClaimsSpec)) fnClaimsCard

/-- THE TIED CARD OF 'laws.FnExactAccepted'. -/
def fnExactAcceptedCard : Claim7 := { stood := { row := fnExactAcceptedRow, standIns := [], harness := (true, "d310b629fe912c119a871b207789081fcf06976d7d18db3bbfddf04b16d78024"), looks := true }, kinds := [], alts := [], laidByText := true, laidKinds := [.handle, .sentinel, .sentinel, .sentinel, .sentinel, .sentinel], laidTests := true, laidLooks := .later }
def FnExactAcceptedCardSaid : Prop := Claim7.holds Tryz.pinned (.plain (OpenSpec.ofChange fnExactAcceptedSpec)) fnExactAcceptedCard

/-- THE SECOND FORM's CARD OF 'laws.FnComplete'. -/
def fnCompleteUptoCard : Claim7 := { stood := { row := fnCompleteUptoRow, standIns := [], harness := (true, "d310b629fe912c119a871b207789081fcf06976d7d18db3bbfddf04b16d78024"), looks := true }, kinds := [], alts := [], laidByText := true, laidKinds := [.handle, .sentinel, .sentinel, .sentinel, .sentinel, .sentinel], laidTests := true, laidLooks := .later }
def FnCompleteUptoCardSaid : Prop := Claim7.holds Tryz.pinned (.plain (OpenSpec.upto fnCompleteSpec)) fnCompleteUptoCard

/-- THE SECOND FORM's CARD OF 'laws.FnSound'. -/
def fnSoundUptoCard : Claim7 := { stood := { row := fnSoundUptoRow, standIns := [], harness := (true, "d310b629fe912c119a871b207789081fcf06976d7d18db3bbfddf04b16d78024"), looks := true }, kinds := [], alts := [], laidByText := true, laidKinds := [.handle, .sentinel, .sentinel, .sentinel, .sentinel, .sentinel], laidTests := true, laidLooks := .later }
def FnSoundUptoCardSaid : Prop := Claim7.holds Tryz.pinned (.plain (OpenSpec.upto fnSoundSpec)) fnSoundUptoCard

/-- THE SECOND FORM's CARD OF 'laws.FnClaims'. -/
def fnClaimsUptoCard : Claim7 := { stood := { row := fnClaimsUptoRow, standIns := [], harness := (true, "d310b629fe912c119a871b207789081fcf06976d7d18db3bbfddf04b16d78024"), looks := true }, kinds := [], alts := [], laidByText := true, laidKinds := [.handle, .sentinel, .sentinel], laidTests := true, laidLooks := .later }
def FnClaimsUptoCardSaid : Prop := Claim7.holds Tryz.pinned (.plain (OpenSpec.upto fnClaimsSpec)) fnClaimsUptoCard

/-- THE SECOND FORM's CARD OF 'laws.FnExactAccepted'. -/
def fnExactAcceptedUptoCard : Claim7 := { stood := { row := fnExactAcceptedUptoRow, standIns := [], harness := (true, "d310b629fe912c119a871b207789081fcf06976d7d18db3bbfddf04b16d78024"), looks := true }, kinds := [], alts := [], laidByText := true, laidKinds := [.handle, .sentinel, .sentinel, .sentinel, .sentinel, .sentinel], laidTests := true, laidLooks := .later }
def FnExactAcceptedUptoCardSaid : Prop := Claim7.holds Tryz.pinned (.plain (OpenSpec.upto fnExactAcceptedSpec)) fnExactAcceptedUptoCard
end Rows
end Go.Proofs.YtbcfjbkmkknmfaaGreatDoor
