/-
  DERIVED. GIVEN WITH THE SEED: THE CARDS: each row of YtobnifjhikoleaaGreatDoorRows.lean that lists a variable, with what it lists TIED to the program's text (the seventh form; the later family's looks); each row that meets fmt, with fmt's text TOLD by the authors' own Lean function (tested against real Go, not proved from fmt's source: count such statements apart). THE CARD IS WHAT COUNTS. Prove the row's statement (the work); the ties are given (YtobnifjhikoleaaGreatDoorTie.lean); close each card by the builder's one call (the guide's Derived/Test/ToyasCard.lean, 'card_holds'). Laid BY PROGRAM, IN A SANDBOX (cutbox-door.mjs). By AI agents, Wed Nov 11 2026. No macro, syntax, notation, axiom, sorry.
-/
import Derived.Test.YtobnifjhikoleaaGreatDoorRows
import GoSem.ClaimSeven
namespace Go.Proofs.YtobnifjhikoleaaGreatDoor
namespace Rows

/-- THE TIED CARD OF 'laws.FnMarket'. -/
def fnMarketCard : Claim7 := { stood := { row := fnMarketRow, standIns := [], harness := (true, "5bac705c578a52ba82dbd020d534fcf29a45d4bfb11293b3b8844a7f90a58efe"), looks := true }, kinds := [], alts := [], laidByText := true, laidKinds := [.handle, .sentinel, .sentinel, .sentinel, .sentinel, .sentinel], laidTests := true, laidLooks := .later }
def FnMarketCardSaid : Prop := Claim7.holds Tryz.pinned (.plain (OpenSpec.ofChange fnMarketSpec)) fnMarketCard

/-- THE SECOND FORM's CARD OF 'laws.FnMarket'. -/
def fnMarketUptoCard : Claim7 := { stood := { row := fnMarketUptoRow, standIns := [], harness := (true, "5bac705c578a52ba82dbd020d534fcf29a45d4bfb11293b3b8844a7f90a58efe"), looks := true }, kinds := [], alts := [], laidByText := true, laidKinds := [.handle, .sentinel, .sentinel, .sentinel, .sentinel, .sentinel], laidTests := true, laidLooks := .later }
def FnMarketUptoCardSaid : Prop := Claim7.holds Tryz.pinned (.plain (OpenSpec.upto fnMarketSpec)) fnMarketUptoCard
end Rows
end Go.Proofs.YtobnifjhikoleaaGreatDoor
