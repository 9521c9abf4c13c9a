/-
  DERIVED. GIVEN WITH THE SEED: THE CARDS: each row of YtjcjonncaknhnaaGreatDoorRows.lean that lists a variable, with what it lists TIED to the program's text (the seventh form; the later family's looks); each row that meets fmt, with fmt's text TOLD by the authors' own Lean function (tested against real Go, not proved from fmt's source: count such statements apart). THE CARD IS WHAT COUNTS. Prove the row's statement (the work); the ties are given (YtjcjonncaknhnaaGreatDoorTie.lean); close each card by the builder's one call (the guide's Derived/Test/ToyasCard.lean, 'card_holds'). Laid BY PROGRAM, IN A SANDBOX (cutbox-door.mjs). By AI agents, Wed Nov 11 2026. No macro, syntax, notation, axiom, sorry.
-/
import Derived.Test.YtjcjonncaknhnaaGreatDoorRows
import GoSem.ClaimSeven
namespace Go.Proofs.YtjcjonncaknhnaaGreatDoor
namespace Rows

/-- THE TIED CARD OF 'laws.FnMarket'. -/
def fnMarketCard : Claim7 := { stood := { row := fnMarketRow, standIns := [], harness := (true, "6713a07f88f1602c5b60689065992d9f61447f53c8f4f123837d7821884cec8d"), looks := true }, kinds := [], alts := [], goes := true, laidByText := true, laidKinds := [.handle, .sentinel, .sentinel, .sentinel, .sentinel, .sentinel], laidTests := true, laidLooks := .later }
def FnMarketCardSaid : Prop := Claim7.holds Tryz.pinned (.plain (OpenSpec.ofChange fnMarketSpec)) fnMarketCard

/-- THE TIED CARD OF 'laws.FnBanned'. -/
def fnBannedCard : Claim7 := { stood := { row := fnBannedRow, standIns := [], harness := (true, "6713a07f88f1602c5b60689065992d9f61447f53c8f4f123837d7821884cec8d"), looks := true }, kinds := [], alts := [], goes := true, laidByText := true, laidKinds := [.handle, .sentinel, .sentinel, .sentinel, .sentinel, .sentinel], laidTests := true, laidLooks := .later }
def FnBannedCardSaid : Prop := Claim7.holds Tryz.pinned (.plain (OpenSpec.ofChange fnBannedSpec)) fnBannedCard

/-- THE TIED CARD OF 'laws.FnCalmed'. -/
def fnCalmedCard : Claim7 := { stood := { row := fnCalmedRow, standIns := [], harness := (true, "6713a07f88f1602c5b60689065992d9f61447f53c8f4f123837d7821884cec8d"), looks := true }, kinds := [], alts := [], goes := true, laidByText := true, laidKinds := [.handle, .sentinel, .sentinel, .sentinel, .sentinel, .sentinel], laidTests := true, laidLooks := .later }
def FnCalmedCardSaid : Prop := Claim7.holds Tryz.pinned (.plain (OpenSpec.ofChange fnCalmedSpec)) fnCalmedCard

/-- THE TIED CARD OF 'laws.FnTwice'. -/
def fnTwiceCard : Claim7 := { stood := { row := fnTwiceRow, standIns := [], harness := (true, "6713a07f88f1602c5b60689065992d9f61447f53c8f4f123837d7821884cec8d"), looks := true }, kinds := [], alts := [], goes := true, laidByText := true, laidKinds := [.handle, .sentinel, .sentinel, .sentinel, .sentinel, .sentinel], laidTests := true, laidLooks := .later }
def FnTwiceCardSaid : Prop := Claim7.holds Tryz.pinned (.plain (OpenSpec.ofChange fnTwiceSpec)) fnTwiceCard

/-- THE TIED CARD OF 'laws.FnExactActed'. -/
def fnExactActedCard : Claim7 := { stood := { row := fnExactActedRow, standIns := [], harness := (true, "6713a07f88f1602c5b60689065992d9f61447f53c8f4f123837d7821884cec8d"), looks := true }, kinds := [], alts := [], goes := true, laidByText := true, laidKinds := [.handle, .sentinel, .sentinel, .sentinel, .sentinel, .sentinel], laidTests := true, laidLooks := .later }
def FnExactActedCardSaid : Prop := Claim7.holds Tryz.pinned (.plain (OpenSpec.ofChange fnExactActedSpec)) fnExactActedCard

/-- THE TIED CARD OF 'laws.FnExactCalmed'. -/
def fnExactCalmedCard : Claim7 := { stood := { row := fnExactCalmedRow, standIns := [], harness := (true, "6713a07f88f1602c5b60689065992d9f61447f53c8f4f123837d7821884cec8d"), looks := true }, kinds := [], alts := [], goes := true, laidByText := true, laidKinds := [.handle, .sentinel, .sentinel, .sentinel, .sentinel, .sentinel], laidTests := true, laidLooks := .later }
def FnExactCalmedCardSaid : Prop := Claim7.holds Tryz.pinned (.plain (OpenSpec.ofChange fnExactCalmedSpec)) fnExactCalmedCard

/-- THE SECOND FORM's CARD OF 'laws.FnMarket'. -/
def fnMarketUptoCard : Claim7 := { stood := { row := fnMarketUptoRow, standIns := [], harness := (true, "6713a07f88f1602c5b60689065992d9f61447f53c8f4f123837d7821884cec8d"), looks := true }, kinds := [], alts := [], goes := true, laidByText := true, laidKinds := [.handle, .sentinel, .sentinel, .sentinel, .sentinel, .sentinel], laidTests := true, laidLooks := .later }
def FnMarketUptoCardSaid : Prop := Claim7.holds Tryz.pinned (.plain (OpenSpec.upto fnMarketSpec)) fnMarketUptoCard

/-- THE SECOND FORM's CARD OF 'laws.FnBanned'. -/
def fnBannedUptoCard : Claim7 := { stood := { row := fnBannedUptoRow, standIns := [], harness := (true, "6713a07f88f1602c5b60689065992d9f61447f53c8f4f123837d7821884cec8d"), looks := true }, kinds := [], alts := [], goes := true, laidByText := true, laidKinds := [.handle, .sentinel, .sentinel, .sentinel, .sentinel, .sentinel], laidTests := true, laidLooks := .later }
def FnBannedUptoCardSaid : Prop := Claim7.holds Tryz.pinned (.plain (OpenSpec.upto fnBannedSpec)) fnBannedUptoCard

/-- THE SECOND FORM's CARD OF 'laws.FnCalmed'. -/
def fnCalmedUptoCard : Claim7 := { stood := { row := fnCalmedUptoRow, standIns := [], harness := (true, "6713a07f88f1602c5b60689065992d9f61447f53c8f4f123837d7821884cec8d"), looks := true }, kinds := [], alts := [], goes := true, laidByText := true, laidKinds := [.handle, .sentinel, .sentinel, .sentinel, .sentinel, .sentinel], laidTests := true, laidLooks := .later }
def FnCalmedUptoCardSaid : Prop := Claim7.holds Tryz.pinned (.plain (OpenSpec.upto fnCalmedSpec)) fnCalmedUptoCard

/-- THE SECOND FORM's CARD OF 'laws.FnTwice'. -/
def fnTwiceUptoCard : Claim7 := { stood := { row := fnTwiceUptoRow, standIns := [], harness := (true, "6713a07f88f1602c5b60689065992d9f61447f53c8f4f123837d7821884cec8d"), looks := true }, kinds := [], alts := [], goes := true, laidByText := true, laidKinds := [.handle, .sentinel, .sentinel, .sentinel, .sentinel, .sentinel], laidTests := true, laidLooks := .later }
def FnTwiceUptoCardSaid : Prop := Claim7.holds Tryz.pinned (.plain (OpenSpec.upto fnTwiceSpec)) fnTwiceUptoCard

/-- THE SECOND FORM's CARD OF 'laws.FnExactActed'. -/
def fnExactActedUptoCard : Claim7 := { stood := { row := fnExactActedUptoRow, standIns := [], harness := (true, "6713a07f88f1602c5b60689065992d9f61447f53c8f4f123837d7821884cec8d"), looks := true }, kinds := [], alts := [], goes := true, laidByText := true, laidKinds := [.handle, .sentinel, .sentinel, .sentinel, .sentinel, .sentinel], laidTests := true, laidLooks := .later }
def FnExactActedUptoCardSaid : Prop := Claim7.holds Tryz.pinned (.plain (OpenSpec.upto fnExactActedSpec)) fnExactActedUptoCard

/-- THE SECOND FORM's CARD OF 'laws.FnExactCalmed'. -/
def fnExactCalmedUptoCard : Claim7 := { stood := { row := fnExactCalmedUptoRow, standIns := [], harness := (true, "6713a07f88f1602c5b60689065992d9f61447f53c8f4f123837d7821884cec8d"), looks := true }, kinds := [], alts := [], goes := true, laidByText := true, laidKinds := [.handle, .sentinel, .sentinel, .sentinel, .sentinel, .sentinel], laidTests := true, laidLooks := .later }
def FnExactCalmedUptoCardSaid : Prop := Claim7.holds Tryz.pinned (.plain (OpenSpec.upto fnExactCalmedSpec)) fnExactCalmedUptoCard
end Rows
end Go.Proofs.YtjcjonncaknhnaaGreatDoor
