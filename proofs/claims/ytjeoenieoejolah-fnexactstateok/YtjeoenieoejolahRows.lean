/-
  No cell of these rows narrows 'for every input' (looked for: loops, veiled, ifaces, maps, wideKeys, modest, calm, conditions, laid).
  DERIVED. THE GIVEN ROWS OF THIS SEAT. 6 by the template 'for every input the law returns true; each argument reads behind the call as it read before'; 0 by the template 'total and deterministic' (their statements: YtjeoenieoejolahTotals.lean).
  GIVEN WITH THE SEED: the statements are not yours to turn. If you find one false, say at which input.
  Laid BY PROGRAM, IN A SANDBOX (cutbox-rows.mjs): the forced cells as the released guide's own fill.sh prints them over the translation f3f09830ad4f6915… (all of the seat's roots in one cut). By AI agents, Wed Nov 11 2026. No macro, syntax, notation, axiom, sorry.
-/
import Derived.Test.YtjeoenieoejolahChecked
import GoSem.Claim
import GoSem.ClaimJoined
import GoSem.ClaimMapViews
import Derived.JoinedTies
import Derived.KernelRfl
namespace Go.Proofs.Ytjeoenieoejolah
/- THE CELL 'sum', in the pinned program and in every row, IS THE sha256 OF THE DUMP (.gsa) THAT YtjeoenieoejolahProg.lean LOADS. Nothing in Lean hashes anything: it is a label: what it is worth is what the hold of that sum in a sandbox is worth. -/
noncomputable def Try.pinned : Pinned := { name := "ytjeoenieoejolah", sum := "f3f09830ad4f6915a39966f1b6a9ddb75df9966b54eb2b9fbeeda4da4276560a", checked := Try.checked }
namespace Rows
def none {H : Type} : Left H := { results := [], args := [] }

/-- 'laws.FnExactFromEvals': WHATEVER THE INPUT: true; the input reads as it did. -/
def fnExactFromEvalsSpec : ChangeSpec := { name := "fnExactFromEvals", fn := fun _ => fun
  | [d1, d2] => { results := [.lit (.bool true)], args := [d1, d2] }
  | _ => none }
def fnExactFromEvalsRow : OpenClaim := { program := "ytjeoenieoejolah", sum := "f3f09830ad4f6915a39966f1b6a9ddb75df9966b54eb2b9fbeeda4da4276560a", func := "loop.example/g00319/laws.FnExactFromEvals", spec := "fnExactFromEvals", unfollowed := true, recurses := true, apart := false }
def FnExactFromEvalsSaid : Prop := fnExactFromEvalsRow.holds Try.pinned (OpenSpec.ofChange fnExactFromEvalsSpec)

/-- ITS FALSE NEIGHBOUR: 'it returns false'. Refute it at one input. -/
def fnExactFromEvalsWrong : ChangeSpec := { name := "fnExactFromEvals", fn := fun _ => fun
  | [d1, d2] => { results := [.lit (.bool false)], args := [d1, d2] }
  | _ => none }
def FnExactFromEvalsWrongFalsely : Prop := fnExactFromEvalsRow.holds Try.pinned (OpenSpec.ofChange fnExactFromEvalsWrong)

/-- 'laws.FnExactHalves': WHATEVER THE INPUT: true; the input reads as it did. -/
def fnExactHalvesSpec : ChangeSpec := { name := "fnExactHalves", fn := fun _ => fun
  | [d] => { results := [.lit (.bool true)], args := [d] }
  | _ => none }
def fnExactHalvesRow : OpenClaim := { program := "ytjeoenieoejolah", sum := "f3f09830ad4f6915a39966f1b6a9ddb75df9966b54eb2b9fbeeda4da4276560a", func := "loop.example/g00319/laws.FnExactHalves", spec := "fnExactHalves", unfollowed := true, recurses := true, apart := false }
def FnExactHalvesSaid : Prop := fnExactHalvesRow.holds Try.pinned (OpenSpec.ofChange fnExactHalvesSpec)

/-- ITS FALSE NEIGHBOUR: 'it returns false'. Refute it at one input. -/
def fnExactHalvesWrong : ChangeSpec := { name := "fnExactHalves", fn := fun _ => fun
  | [d] => { results := [.lit (.bool false)], args := [d] }
  | _ => none }
def FnExactHalvesWrongFalsely : Prop := fnExactHalvesRow.holds Try.pinned (OpenSpec.ofChange fnExactHalvesWrong)

/-- 'laws.FnExactFolded': WHATEVER THE INPUT: true; the input reads as it did. -/
def fnExactFoldedSpec : ChangeSpec := { name := "fnExactFolded", fn := fun _ => fun
  | [d1, d2, d3] => { results := [.lit (.bool true)], args := [d1, d2, d3] }
  | _ => none }
def fnExactFoldedRow : OpenClaim := { program := "ytjeoenieoejolah", sum := "f3f09830ad4f6915a39966f1b6a9ddb75df9966b54eb2b9fbeeda4da4276560a", func := "loop.example/g00319/laws.FnExactFolded", spec := "fnExactFolded", unfollowed := true, recurses := true, apart := false }
def FnExactFoldedSaid : Prop := fnExactFoldedRow.holds Try.pinned (OpenSpec.ofChange fnExactFoldedSpec)

/-- ITS FALSE NEIGHBOUR: 'it returns false'. Refute it at one input. -/
def fnExactFoldedWrong : ChangeSpec := { name := "fnExactFolded", fn := fun _ => fun
  | [d1, d2, d3] => { results := [.lit (.bool false)], args := [d1, d2, d3] }
  | _ => none }
def FnExactFoldedWrongFalsely : Prop := fnExactFoldedRow.holds Try.pinned (OpenSpec.ofChange fnExactFoldedWrong)

/-- 'laws.FnExactBelow': WHATEVER THE INPUT: true; the input reads as it did. -/
def fnExactBelowSpec : ChangeSpec := { name := "fnExactBelow", fn := fun _ => fun
  | [d1, d2, d3] => { results := [.lit (.bool true)], args := [d1, d2, d3] }
  | _ => none }
def fnExactBelowRow : OpenClaim := { program := "ytjeoenieoejolah", sum := "f3f09830ad4f6915a39966f1b6a9ddb75df9966b54eb2b9fbeeda4da4276560a", func := "loop.example/g00319/laws.FnExactBelow", spec := "fnExactBelow", unfollowed := true, recurses := true, apart := false }
def FnExactBelowSaid : Prop := fnExactBelowRow.holds Try.pinned (OpenSpec.ofChange fnExactBelowSpec)

/-- ITS FALSE NEIGHBOUR: 'it returns false'. Refute it at one input. -/
def fnExactBelowWrong : ChangeSpec := { name := "fnExactBelow", fn := fun _ => fun
  | [d1, d2, d3] => { results := [.lit (.bool false)], args := [d1, d2, d3] }
  | _ => none }
def FnExactBelowWrongFalsely : Prop := fnExactBelowRow.holds Try.pinned (OpenSpec.ofChange fnExactBelowWrong)

/-- 'laws.FnExactMachineOk': WHATEVER THE INPUT: true; the input reads as it did. -/
def fnExactMachineOkSpec : ChangeSpec := { name := "fnExactMachineOk", fn := fun _ => fun
  | [d] => { results := [.lit (.bool true)], args := [d] }
  | _ => none }
def fnExactMachineOkRow : OpenClaim := { program := "ytjeoenieoejolah", sum := "f3f09830ad4f6915a39966f1b6a9ddb75df9966b54eb2b9fbeeda4da4276560a", func := "loop.example/g00319/laws.FnExactMachineOk", spec := "fnExactMachineOk", unfollowed := true, recurses := true, apart := false }
def FnExactMachineOkSaid : Prop := fnExactMachineOkRow.holds Try.pinned (OpenSpec.ofChange fnExactMachineOkSpec)

/-- ITS FALSE NEIGHBOUR: 'it returns false'. Refute it at one input. -/
def fnExactMachineOkWrong : ChangeSpec := { name := "fnExactMachineOk", fn := fun _ => fun
  | [d] => { results := [.lit (.bool false)], args := [d] }
  | _ => none }
def FnExactMachineOkWrongFalsely : Prop := fnExactMachineOkRow.holds Try.pinned (OpenSpec.ofChange fnExactMachineOkWrong)

/-- 'laws.FnExactStateOk': WHATEVER THE INPUT: true; the input reads as it did. -/
def fnExactStateOkSpec : ChangeSpec := { name := "fnExactStateOk", fn := fun _ => fun
  | [d] => { results := [.lit (.bool true)], args := [d] }
  | _ => none }
def fnExactStateOkRow : OpenClaim := { program := "ytjeoenieoejolah", sum := "f3f09830ad4f6915a39966f1b6a9ddb75df9966b54eb2b9fbeeda4da4276560a", func := "loop.example/g00319/laws.FnExactStateOk", spec := "fnExactStateOk", apart := false }
def FnExactStateOkSaid : Prop := fnExactStateOkRow.holds Try.pinned (OpenSpec.ofChange fnExactStateOkSpec)

/-- ITS FALSE NEIGHBOUR: 'it returns false'. Refute it at one input. -/
def fnExactStateOkWrong : ChangeSpec := { name := "fnExactStateOk", fn := fun _ => fun
  | [d] => { results := [.lit (.bool false)], args := [d] }
  | _ => none }
def FnExactStateOkWrongFalsely : Prop := fnExactStateOkRow.holds Try.pinned (OpenSpec.ofChange fnExactStateOkWrong)

/- THE SECOND FORM. 'bulk': how many values and letters a reading holds, each counted each time it is reached (what is shared counts as often as it is met; a slice's spare places count too). A statement '..UptoSaid' is the law's where the arguments, and the package variables that the reading takes, are together of bulk at most 1048576: NARROWER than '..Said'. Prove '..Said' where nothing that the law and all that it calls make is longer than what came in: it says more and counts as full. Else prove '..UptoSaid'. A law counts once. -/
mutual
def uptoBulk {H : Type} : DataW H → Nat
  | .lit (.string bytes) => bytes.length + 1
  | .lit _ => 1
  | .nil => 1
  | .ptr d => uptoBulk d + 1
  | .slice elems spare => uptoBulkAll elems + uptoBulkAll spare + 1
  | .agg parts => uptoBulkAll parts + 1
  | .iface _ d => uptoBulk d + 1
  | .map entries => uptoBulkEntries entries + 1
  | .held _ => 1
def uptoBulkAll {H : Type} : List (DataW H) → Nat
  | [] => 0
  | d :: r => uptoBulk d + uptoBulkAll r
def uptoBulkEntries {H : Type} : List (Lit × DataW H) → Nat
  | [] => 0
  | x :: r => uptoBulkEntry x + uptoBulkEntries r
def uptoBulkEntry {H : Type} : Lit × DataW H → Nat
  | (.string bytes, d) => bytes.length + uptoBulk d + 1
  | (_, d) => uptoBulk d + 1
 end
def uptoSmall : (H : Type) → List (DataW H) → Bool := fun _ ds => decide (uptoBulkAll ds ≤ 1048576)
def OpenSpec.upto (s : _root_.Go.ChangeSpec) : _root_.Go.OpenSpec := { _root_.Go.OpenSpec.ofChange s with cond := some uptoSmall }

/-- 'laws.FnExactFromEvals', WHERE WHAT IT READS IS OF BULK AT MOST 1048576: true; the input reads as it did. -/
def fnExactFromEvalsUptoRow : OpenClaim := { program := "ytjeoenieoejolah", sum := "f3f09830ad4f6915a39966f1b6a9ddb75df9966b54eb2b9fbeeda4da4276560a", func := "loop.example/g00319/laws.FnExactFromEvals", spec := "fnExactFromEvals", unfollowed := true, recurses := true, apart := false, narrowed := true }
def FnExactFromEvalsUptoSaid : Prop := fnExactFromEvalsUptoRow.holds Try.pinned (OpenSpec.upto fnExactFromEvalsSpec)

/-- 'laws.FnExactHalves', WHERE WHAT IT READS IS OF BULK AT MOST 1048576: true; the input reads as it did. -/
def fnExactHalvesUptoRow : OpenClaim := { program := "ytjeoenieoejolah", sum := "f3f09830ad4f6915a39966f1b6a9ddb75df9966b54eb2b9fbeeda4da4276560a", func := "loop.example/g00319/laws.FnExactHalves", spec := "fnExactHalves", unfollowed := true, recurses := true, apart := false, narrowed := true }
def FnExactHalvesUptoSaid : Prop := fnExactHalvesUptoRow.holds Try.pinned (OpenSpec.upto fnExactHalvesSpec)

/-- 'laws.FnExactFolded', WHERE WHAT IT READS IS OF BULK AT MOST 1048576: true; the input reads as it did. -/
def fnExactFoldedUptoRow : OpenClaim := { program := "ytjeoenieoejolah", sum := "f3f09830ad4f6915a39966f1b6a9ddb75df9966b54eb2b9fbeeda4da4276560a", func := "loop.example/g00319/laws.FnExactFolded", spec := "fnExactFolded", unfollowed := true, recurses := true, apart := false, narrowed := true }
def FnExactFoldedUptoSaid : Prop := fnExactFoldedUptoRow.holds Try.pinned (OpenSpec.upto fnExactFoldedSpec)

/-- 'laws.FnExactBelow', WHERE WHAT IT READS IS OF BULK AT MOST 1048576: true; the input reads as it did. -/
def fnExactBelowUptoRow : OpenClaim := { program := "ytjeoenieoejolah", sum := "f3f09830ad4f6915a39966f1b6a9ddb75df9966b54eb2b9fbeeda4da4276560a", func := "loop.example/g00319/laws.FnExactBelow", spec := "fnExactBelow", unfollowed := true, recurses := true, apart := false, narrowed := true }
def FnExactBelowUptoSaid : Prop := fnExactBelowUptoRow.holds Try.pinned (OpenSpec.upto fnExactBelowSpec)

/-- 'laws.FnExactMachineOk', WHERE WHAT IT READS IS OF BULK AT MOST 1048576: true; the input reads as it did. -/
def fnExactMachineOkUptoRow : OpenClaim := { program := "ytjeoenieoejolah", sum := "f3f09830ad4f6915a39966f1b6a9ddb75df9966b54eb2b9fbeeda4da4276560a", func := "loop.example/g00319/laws.FnExactMachineOk", spec := "fnExactMachineOk", unfollowed := true, recurses := true, apart := false, narrowed := true }
def FnExactMachineOkUptoSaid : Prop := fnExactMachineOkUptoRow.holds Try.pinned (OpenSpec.upto fnExactMachineOkSpec)

/-- 'laws.FnExactStateOk', WHERE WHAT IT READS IS OF BULK AT MOST 1048576: true; the input reads as it did. -/
def fnExactStateOkUptoRow : OpenClaim := { program := "ytjeoenieoejolah", sum := "f3f09830ad4f6915a39966f1b6a9ddb75df9966b54eb2b9fbeeda4da4276560a", func := "loop.example/g00319/laws.FnExactStateOk", spec := "fnExactStateOk", apart := false, narrowed := true }
def FnExactStateOkUptoSaid : Prop := fnExactStateOkUptoRow.holds Try.pinned (OpenSpec.upto fnExactStateOkSpec)

end Rows
end Go.Proofs.Ytjeoenieoejolah
