/-
  No cell of these rows narrows 'for every input' (looked for: loops, veiled, ifaces, maps, wideKeys, modest, calm, conditions, laid).
  DERIVED. THE GIVEN ROWS OF THIS SEAT. 6 by the template 'for every input the law returns true; each argument reads behind the call as it read before'; 0 by the template 'total and deterministic' (their statements: YtjeoenieoejolagTotals.lean).
  GIVEN WITH THE SEED: the statements are not yours to turn. If you find one false, say at which input.
  Laid BY PROGRAM, IN A SANDBOX (cutbox-rows.mjs): the forced cells as the released guide's own fill.sh prints them over the translation 827ed64453072d1a… (all of the seat's roots in one cut). By AI agents, Wed Nov 11 2026. No macro, syntax, notation, axiom, sorry.
-/
import Derived.Test.YtjeoenieoejolagChecked
import GoSem.Claim
import GoSem.ClaimJoined
import GoSem.ClaimMapViews
import Derived.JoinedTies
import Derived.KernelRfl
namespace Go.Proofs.Ytjeoenieoejolag
/- THE CELL 'sum', in the pinned program and in every row, IS THE sha256 OF THE DUMP (.gsa) THAT YtjeoenieoejolagProg.lean LOADS. Nothing in Lean hashes anything: it is a label: what it is worth is what the hold of that sum in a sandbox is worth. -/
noncomputable def Try.pinned : Pinned := { name := "ytjeoenieoejolag", sum := "827ed64453072d1a7fb998896f665e0a014eb2eb0bc766f1114976205f8280fe", checked := Try.checked }
namespace Rows
def none {H : Type} : Left H := { results := [], args := [] }

/-- 'laws.FnExactPolyAdd': WHATEVER THE INPUT: true; the input reads as it did. -/
def fnExactPolyAddSpec : ChangeSpec := { name := "fnExactPolyAdd", fn := fun _ => fun
  | [d1, d2] => { results := [.lit (.bool true)], args := [d1, d2] }
  | _ => none }
def fnExactPolyAddRow : OpenClaim := { program := "ytjeoenieoejolag", sum := "827ed64453072d1a7fb998896f665e0a014eb2eb0bc766f1114976205f8280fe", func := "loop.example/g00319/laws.FnExactPolyAdd", spec := "fnExactPolyAdd", unfollowed := true, recurses := true, apart := false }
def FnExactPolyAddSaid : Prop := fnExactPolyAddRow.holds Try.pinned (OpenSpec.ofChange fnExactPolyAddSpec)

/-- ITS FALSE NEIGHBOUR: 'it returns false'. Refute it at one input. -/
def fnExactPolyAddWrong : ChangeSpec := { name := "fnExactPolyAdd", fn := fun _ => fun
  | [d1, d2] => { results := [.lit (.bool false)], args := [d1, d2] }
  | _ => none }
def FnExactPolyAddWrongFalsely : Prop := fnExactPolyAddRow.holds Try.pinned (OpenSpec.ofChange fnExactPolyAddWrong)

/-- 'laws.FnExactPolyMul': WHATEVER THE INPUT: true; the input reads as it did. -/
def fnExactPolyMulSpec : ChangeSpec := { name := "fnExactPolyMul", fn := fun _ => fun
  | [d1, d2] => { results := [.lit (.bool true)], args := [d1, d2] }
  | _ => none }
def fnExactPolyMulRow : OpenClaim := { program := "ytjeoenieoejolag", sum := "827ed64453072d1a7fb998896f665e0a014eb2eb0bc766f1114976205f8280fe", func := "loop.example/g00319/laws.FnExactPolyMul", spec := "fnExactPolyMul", unfollowed := true, recurses := true, apart := false }
def FnExactPolyMulSaid : Prop := fnExactPolyMulRow.holds Try.pinned (OpenSpec.ofChange fnExactPolyMulSpec)

/-- ITS FALSE NEIGHBOUR: 'it returns false'. Refute it at one input. -/
def fnExactPolyMulWrong : ChangeSpec := { name := "fnExactPolyMul", fn := fun _ => fun
  | [d1, d2] => { results := [.lit (.bool false)], args := [d1, d2] }
  | _ => none }
def FnExactPolyMulWrongFalsely : Prop := fnExactPolyMulRow.holds Try.pinned (OpenSpec.ofChange fnExactPolyMulWrong)

/-- 'laws.FnExactDivided': WHATEVER THE INPUT: true; the input reads as it did. -/
def fnExactDividedSpec : ChangeSpec := { name := "fnExactDivided", fn := fun _ => fun
  | [d1, d2] => { results := [.lit (.bool true)], args := [d1, d2] }
  | _ => none }
def fnExactDividedRow : OpenClaim := { program := "ytjeoenieoejolag", sum := "827ed64453072d1a7fb998896f665e0a014eb2eb0bc766f1114976205f8280fe", func := "loop.example/g00319/laws.FnExactDivided", spec := "fnExactDivided", unfollowed := true, recurses := true, apart := false }
def FnExactDividedSaid : Prop := fnExactDividedRow.holds Try.pinned (OpenSpec.ofChange fnExactDividedSpec)

/-- ITS FALSE NEIGHBOUR: 'it returns false'. Refute it at one input. -/
def fnExactDividedWrong : ChangeSpec := { name := "fnExactDivided", fn := fun _ => fun
  | [d1, d2] => { results := [.lit (.bool false)], args := [d1, d2] }
  | _ => none }
def FnExactDividedWrongFalsely : Prop := fnExactDividedRow.holds Try.pinned (OpenSpec.ofChange fnExactDividedWrong)

/-- 'laws.FnExactThrough': WHATEVER THE INPUT: true; the input reads as it did. -/
def fnExactThroughSpec : ChangeSpec := { name := "fnExactThrough", fn := fun _ => fun
  | [d1, d2] => { results := [.lit (.bool true)], args := [d1, d2] }
  | _ => none }
def fnExactThroughRow : OpenClaim := { program := "ytjeoenieoejolag", sum := "827ed64453072d1a7fb998896f665e0a014eb2eb0bc766f1114976205f8280fe", func := "loop.example/g00319/laws.FnExactThrough", spec := "fnExactThrough", unfollowed := true, recurses := true, apart := false }
def FnExactThroughSaid : Prop := fnExactThroughRow.holds Try.pinned (OpenSpec.ofChange fnExactThroughSpec)

/-- ITS FALSE NEIGHBOUR: 'it returns false'. Refute it at one input. -/
def fnExactThroughWrong : ChangeSpec := { name := "fnExactThrough", fn := fun _ => fun
  | [d1, d2] => { results := [.lit (.bool false)], args := [d1, d2] }
  | _ => none }
def FnExactThroughWrongFalsely : Prop := fnExactThroughRow.holds Try.pinned (OpenSpec.ofChange fnExactThroughWrong)

/-- 'laws.FnExactPoints': WHATEVER THE INPUT: true; the input reads as it did. -/
def fnExactPointsSpec : ChangeSpec := { name := "fnExactPoints", fn := fun _ => fun
  | [d1, d2] => { results := [.lit (.bool true)], args := [d1, d2] }
  | _ => none }
def fnExactPointsRow : OpenClaim := { program := "ytjeoenieoejolag", sum := "827ed64453072d1a7fb998896f665e0a014eb2eb0bc766f1114976205f8280fe", func := "loop.example/g00319/laws.FnExactPoints", spec := "fnExactPoints", unfollowed := true, recurses := true, apart := false }
def FnExactPointsSaid : Prop := fnExactPointsRow.holds Try.pinned (OpenSpec.ofChange fnExactPointsSpec)

/-- ITS FALSE NEIGHBOUR: 'it returns false'. Refute it at one input. -/
def fnExactPointsWrong : ChangeSpec := { name := "fnExactPoints", fn := fun _ => fun
  | [d1, d2] => { results := [.lit (.bool false)], args := [d1, d2] }
  | _ => none }
def FnExactPointsWrongFalsely : Prop := fnExactPointsRow.holds Try.pinned (OpenSpec.ofChange fnExactPointsWrong)

/-- 'laws.FnExactEvals': WHATEVER THE INPUT: true; the input reads as it did. -/
def fnExactEvalsSpec : ChangeSpec := { name := "fnExactEvals", fn := fun _ => fun
  | [d1, d2, d3] => { results := [.lit (.bool true)], args := [d1, d2, d3] }
  | _ => none }
def fnExactEvalsRow : OpenClaim := { program := "ytjeoenieoejolag", sum := "827ed64453072d1a7fb998896f665e0a014eb2eb0bc766f1114976205f8280fe", func := "loop.example/g00319/laws.FnExactEvals", spec := "fnExactEvals", unfollowed := true, recurses := true, apart := false }
def FnExactEvalsSaid : Prop := fnExactEvalsRow.holds Try.pinned (OpenSpec.ofChange fnExactEvalsSpec)

/-- ITS FALSE NEIGHBOUR: 'it returns false'. Refute it at one input. -/
def fnExactEvalsWrong : ChangeSpec := { name := "fnExactEvals", fn := fun _ => fun
  | [d1, d2, d3] => { results := [.lit (.bool false)], args := [d1, d2, d3] }
  | _ => none }
def FnExactEvalsWrongFalsely : Prop := fnExactEvalsRow.holds Try.pinned (OpenSpec.ofChange fnExactEvalsWrong)

/- THE SECOND FORM. 'bulk': how many values and letters a reading holds, each counted each time it is reached (what is shared counts as often as it is met; a slice's spare places count too). A statement '..UptoSaid' is the law's where the arguments, and the package variables that the reading takes, are together of bulk at most 1048576: NARROWER than '..Said'. Prove '..Said' where nothing that the law and all that it calls make is longer than what came in: it says more and counts as full. Else prove '..UptoSaid'. A law counts once. -/
mutual
def uptoBulk {H : Type} : DataW H → Nat
  | .lit (.string bytes) => bytes.length + 1
  | .lit _ => 1
  | .nil => 1
  | .ptr d => uptoBulk d + 1
  | .slice elems spare => uptoBulkAll elems + uptoBulkAll spare + 1
  | .agg parts => uptoBulkAll parts + 1
  | .iface _ d => uptoBulk d + 1
  | .map entries => uptoBulkEntries entries + 1
  | .held _ => 1
def uptoBulkAll {H : Type} : List (DataW H) → Nat
  | [] => 0
  | d :: r => uptoBulk d + uptoBulkAll r
def uptoBulkEntries {H : Type} : List (Lit × DataW H) → Nat
  | [] => 0
  | x :: r => uptoBulkEntry x + uptoBulkEntries r
def uptoBulkEntry {H : Type} : Lit × DataW H → Nat
  | (.string bytes, d) => bytes.length + uptoBulk d + 1
  | (_, d) => uptoBulk d + 1
 end
def uptoSmall : (H : Type) → List (DataW H) → Bool := fun _ ds => decide (uptoBulkAll ds ≤ 1048576)
def OpenSpec.upto (s : _root_.Go.ChangeSpec) : _root_.Go.OpenSpec := { _root_.Go.OpenSpec.ofChange s with cond := some uptoSmall }

/-- 'laws.FnExactPolyAdd', WHERE WHAT IT READS IS OF BULK AT MOST 1048576: true; the input reads as it did. -/
def fnExactPolyAddUptoRow : OpenClaim := { program := "ytjeoenieoejolag", sum := "827ed64453072d1a7fb998896f665e0a014eb2eb0bc766f1114976205f8280fe", func := "loop.example/g00319/laws.FnExactPolyAdd", spec := "fnExactPolyAdd", unfollowed := true, recurses := true, apart := false, narrowed := true }
def FnExactPolyAddUptoSaid : Prop := fnExactPolyAddUptoRow.holds Try.pinned (OpenSpec.upto fnExactPolyAddSpec)

/-- 'laws.FnExactPolyMul', WHERE WHAT IT READS IS OF BULK AT MOST 1048576: true; the input reads as it did. -/
def fnExactPolyMulUptoRow : OpenClaim := { program := "ytjeoenieoejolag", sum := "827ed64453072d1a7fb998896f665e0a014eb2eb0bc766f1114976205f8280fe", func := "loop.example/g00319/laws.FnExactPolyMul", spec := "fnExactPolyMul", unfollowed := true, recurses := true, apart := false, narrowed := true }
def FnExactPolyMulUptoSaid : Prop := fnExactPolyMulUptoRow.holds Try.pinned (OpenSpec.upto fnExactPolyMulSpec)

/-- 'laws.FnExactDivided', WHERE WHAT IT READS IS OF BULK AT MOST 1048576: true; the input reads as it did. -/
def fnExactDividedUptoRow : OpenClaim := { program := "ytjeoenieoejolag", sum := "827ed64453072d1a7fb998896f665e0a014eb2eb0bc766f1114976205f8280fe", func := "loop.example/g00319/laws.FnExactDivided", spec := "fnExactDivided", unfollowed := true, recurses := true, apart := false, narrowed := true }
def FnExactDividedUptoSaid : Prop := fnExactDividedUptoRow.holds Try.pinned (OpenSpec.upto fnExactDividedSpec)

/-- 'laws.FnExactThrough', WHERE WHAT IT READS IS OF BULK AT MOST 1048576: true; the input reads as it did. -/
def fnExactThroughUptoRow : OpenClaim := { program := "ytjeoenieoejolag", sum := "827ed64453072d1a7fb998896f665e0a014eb2eb0bc766f1114976205f8280fe", func := "loop.example/g00319/laws.FnExactThrough", spec := "fnExactThrough", unfollowed := true, recurses := true, apart := false, narrowed := true }
def FnExactThroughUptoSaid : Prop := fnExactThroughUptoRow.holds Try.pinned (OpenSpec.upto fnExactThroughSpec)

/-- 'laws.FnExactPoints', WHERE WHAT IT READS IS OF BULK AT MOST 1048576: true; the input reads as it did. -/
def fnExactPointsUptoRow : OpenClaim := { program := "ytjeoenieoejolag", sum := "827ed64453072d1a7fb998896f665e0a014eb2eb0bc766f1114976205f8280fe", func := "loop.example/g00319/laws.FnExactPoints", spec := "fnExactPoints", unfollowed := true, recurses := true, apart := false, narrowed := true }
def FnExactPointsUptoSaid : Prop := fnExactPointsUptoRow.holds Try.pinned (OpenSpec.upto fnExactPointsSpec)

/-- 'laws.FnExactEvals', WHERE WHAT IT READS IS OF BULK AT MOST 1048576: true; the input reads as it did. -/
def fnExactEvalsUptoRow : OpenClaim := { program := "ytjeoenieoejolag", sum := "827ed64453072d1a7fb998896f665e0a014eb2eb0bc766f1114976205f8280fe", func := "loop.example/g00319/laws.FnExactEvals", spec := "fnExactEvals", unfollowed := true, recurses := true, apart := false, narrowed := true }
def FnExactEvalsUptoSaid : Prop := fnExactEvalsUptoRow.holds Try.pinned (OpenSpec.upto fnExactEvalsSpec)

end Rows
end Go.Proofs.Ytjeoenieoejolag
