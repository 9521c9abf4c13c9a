/-
  NARROWER THAN 'FOR EVERY INPUT', by the rows' own cells (each row's printed sentence says how): FnTwice: ifaces, laid.
  DERIVED. THE GIVEN ROWS OF THIS SEAT. 1 by the template 'for every input the law returns true; each argument reads behind the call as it read before'; 0 by the template 'total and deterministic' (their statements: YtbjalickbnpnkaaGreatDoorTotals.lean).
  GIVEN WITH THE SEED: the statements are not yours to turn. If you find one false, say at which input.
  Laid BY PROGRAM, IN A SANDBOX (cutbox-rows.mjs): the forced cells as the released guide's own fill.sh prints them over the translation ae1a02b3c1bb2bae… (all of the seat's roots in one cut). By AI agents, Wed Nov 11 2026. No macro, syntax, notation, axiom, sorry.
-/
import Derived.Test.YtbjalickbnpnkaaGreatDoorChecked
import GoSem.Claim
import GoSem.ClaimJoined
import GoSem.ClaimMapViews
import Derived.JoinedTies
import Derived.KernelRfl
namespace Go.Proofs.YtbjalickbnpnkaaGreatDoor
/- THE CELL 'sum', in the pinned program and in every row, IS THE sha256 OF THE DUMP (.gsa) THAT YtbjalickbnpnkaaGreatDoorProg.lean LOADS. Nothing in Lean hashes anything: it is a label: what it is worth is what the hold of that sum in a sandbox is worth. -/
noncomputable def Tryz.pinned : Pinned := { name := "ytbjalickbnpnkaagreatdoor", sum := "ae1a02b3c1bb2bae4943328eb90cded0bd32a69f6a0e0ffc650a4644543cf34a", checked := Tryz.checked }
namespace Rows
def none {H : Type} : Left H := { results := [], args := [] }

/- WHAT THE LISTED PACKAGE-LEVEL VARIABLES READ AS WHEN THE CALL BEGINS. Each datum BY PROGRAM (the guide's laid-datum.mjs) off the statement by which the dump's own 'gosem.cut.vars' lays the variable. In a bare row this is a premise. The card (YtbjalickbnpnkaaGreatDoorCards.lean) ties it to the program's text. -/
def laid_errors_errorType {H : Type} : DataW H := .iface "internal/reflectlite.rtype" (.agg [.ptr (.lit (.string [101, 114, 114, 111, 114]))])
def laid_loop_example_g00319_impl_errNoElement {H : Type} : DataW H := .iface "*errors.errorString" (.ptr (.agg [.lit (.string [110, 111, 116, 32, 97, 108, 108, 32, 110, 117, 109, 98, 101, 114, 115, 32, 97, 114, 101, 32, 101, 108, 101, 109, 101, 110, 116, 115])]))
def laid_loop_example_g00319_impl_errLength {H : Type} : DataW H := .iface "*errors.errorString" (.ptr (.agg [.lit (.string [110, 111, 116, 32, 97, 115, 32, 109, 97, 110, 121, 32, 118, 97, 108, 117, 101, 115, 32, 97, 115, 32, 116, 104, 101, 114, 101, 32, 97, 114, 101, 32, 112, 111, 105, 110, 116, 115])]))
def laid_loop_example_g00319_impl_errLong {H : Type} : DataW H := .iface "*errors.errorString" (.ptr (.agg [.lit (.string [116, 104, 101, 32, 112, 111, 108, 121, 110, 111, 109, 105, 97, 108, 32, 104, 97, 115, 32, 109, 111, 114, 101, 32, 99, 111, 101, 102, 102, 105, 99, 105, 101, 110, 116, 115, 32, 116, 104, 97, 110, 32, 116, 104, 101, 114, 101, 32, 97, 114, 101, 32, 114, 111, 119, 115])]))
def laid_loop_example_g00319_impl_errEnd {H : Type} : DataW H := .iface "*errors.errorString" (.ptr (.agg [.lit (.string [110, 111, 116, 32, 119, 104, 97, 116, 32, 116, 104, 101, 32, 112, 111, 108, 121, 110, 111, 109, 105, 97, 108, 115, 32, 104, 97, 118, 101, 32, 97, 116, 32, 116, 104, 105, 115, 32, 114, 111, 119])]))
def laid_loop_example_g00319_impl_errRule {H : Type} : DataW H := .iface "*errors.errorString" (.ptr (.agg [.lit (.string [116, 104, 101, 32, 113, 117, 111, 116, 105, 101, 110, 116, 32, 105, 115, 32, 110, 111, 116, 32, 116, 104, 97, 116, 32, 111, 102, 32, 116, 104, 101, 32, 114, 117, 108, 101])]))

/-- 'laws.FnTwice': WHATEVER THE INPUT: true; the input reads as it did. -/
def fnTwiceSpec : ChangeSpec := { name := "fnTwice", vars := ["loop.example/g00319/impl.errLength", "loop.example/g00319/impl.errNoElement", "loop.example/g00319/impl.errLong", "loop.example/g00319/impl.errEnd", "loop.example/g00319/impl.errRule"], fn := fun _ => fun
  | [d, g1, g2, g3, g4, g5] => { results := [.lit (.bool true)], args := [d], vars := [g1, g2, g3, g4, g5] }
  | _ => none }
def fnTwiceRow : OpenClaim := { program := "ytbjalickbnpnkaagreatdoor", sum := "ae1a02b3c1bb2bae4943328eb90cded0bd32a69f6a0e0ffc650a4644543cf34a", func := "loop.example/g00319/laws.FnTwice", spec := "fnTwice", inPlace := ["internal/reflectlite.ValueOf", "(internal/reflectlite.Value).Type", "(internal/reflectlite.Value).IsNil", "internal/reflectlite.TypeOf", "(internal/reflectlite.Value).Elem", "(internal/reflectlite.Value).Set"], unfollowed := true, recurses := true, named := ["loop.example/g00319/impl.errLength", "loop.example/g00319/impl.errNoElement", "errors.errorType", "loop.example/g00319/impl.errLong", "loop.example/g00319/impl.errEnd", "loop.example/g00319/impl.errRule"], ifaces := true, apart := false, laid := [("errors.errorType", laid_errors_errorType), ("loop.example/g00319/impl.errNoElement", laid_loop_example_g00319_impl_errNoElement), ("loop.example/g00319/impl.errLength", laid_loop_example_g00319_impl_errLength), ("loop.example/g00319/impl.errLong", laid_loop_example_g00319_impl_errLong), ("loop.example/g00319/impl.errEnd", laid_loop_example_g00319_impl_errEnd), ("loop.example/g00319/impl.errRule", laid_loop_example_g00319_impl_errRule)] }
def FnTwiceSaid : Prop := fnTwiceRow.holds Tryz.pinned (OpenSpec.ofChange fnTwiceSpec)

/-- ITS FALSE NEIGHBOUR: 'it returns false'. Refute it at one input. -/
def fnTwiceWrong : ChangeSpec := { name := "fnTwice", vars := ["loop.example/g00319/impl.errLength", "loop.example/g00319/impl.errNoElement", "loop.example/g00319/impl.errLong", "loop.example/g00319/impl.errEnd", "loop.example/g00319/impl.errRule"], fn := fun _ => fun
  | [d, g1, g2, g3, g4, g5] => { results := [.lit (.bool false)], args := [d], vars := [g1, g2, g3, g4, g5] }
  | _ => none }
def FnTwiceWrongFalsely : Prop := fnTwiceRow.holds Tryz.pinned (OpenSpec.ofChange fnTwiceWrong)

/- THE SECOND FORM. 'bulk': how many values and letters a reading holds, each counted each time it is reached (what is shared counts as often as it is met; a slice's spare places count too). A statement '..UptoSaid' is the law's where the arguments, and the package variables that the reading takes, are together of bulk at most 1048576: NARROWER than '..Said'. Prove '..Said' where nothing that the law and all that it calls make is longer than what came in: it says more and counts as full. Else prove '..UptoSaid'. A law counts once. -/
mutual
def uptoBulk {H : Type} : DataW H → Nat
  | .lit (.string bytes) => bytes.length + 1
  | .lit _ => 1
  | .nil => 1
  | .ptr d => uptoBulk d + 1
  | .slice elems spare => uptoBulkAll elems + uptoBulkAll spare + 1
  | .agg parts => uptoBulkAll parts + 1
  | .iface _ d => uptoBulk d + 1
  | .map entries => uptoBulkEntries entries + 1
  | .held _ => 1
def uptoBulkAll {H : Type} : List (DataW H) → Nat
  | [] => 0
  | d :: r => uptoBulk d + uptoBulkAll r
def uptoBulkEntries {H : Type} : List (Lit × DataW H) → Nat
  | [] => 0
  | x :: r => uptoBulkEntry x + uptoBulkEntries r
def uptoBulkEntry {H : Type} : Lit × DataW H → Nat
  | (.string bytes, d) => bytes.length + uptoBulk d + 1
  | (_, d) => uptoBulk d + 1
 end
def uptoSmall : (H : Type) → List (DataW H) → Bool := fun _ ds => decide (uptoBulkAll ds ≤ 1048576)
def OpenSpec.upto (s : _root_.Go.ChangeSpec) : _root_.Go.OpenSpec := { _root_.Go.OpenSpec.ofChange s with cond := some uptoSmall }

/-- 'laws.FnTwice', WHERE WHAT IT READS IS OF BULK AT MOST 1048576: true; the input reads as it did. -/
def fnTwiceUptoRow : OpenClaim := { program := "ytbjalickbnpnkaagreatdoor", sum := "ae1a02b3c1bb2bae4943328eb90cded0bd32a69f6a0e0ffc650a4644543cf34a", func := "loop.example/g00319/laws.FnTwice", spec := "fnTwice", inPlace := ["internal/reflectlite.ValueOf", "(internal/reflectlite.Value).Type", "(internal/reflectlite.Value).IsNil", "internal/reflectlite.TypeOf", "(internal/reflectlite.Value).Elem", "(internal/reflectlite.Value).Set"], unfollowed := true, recurses := true, named := ["loop.example/g00319/impl.errLength", "loop.example/g00319/impl.errNoElement", "errors.errorType", "loop.example/g00319/impl.errLong", "loop.example/g00319/impl.errEnd", "loop.example/g00319/impl.errRule"], ifaces := true, apart := false, laid := [("errors.errorType", laid_errors_errorType), ("loop.example/g00319/impl.errNoElement", laid_loop_example_g00319_impl_errNoElement), ("loop.example/g00319/impl.errLength", laid_loop_example_g00319_impl_errLength), ("loop.example/g00319/impl.errLong", laid_loop_example_g00319_impl_errLong), ("loop.example/g00319/impl.errEnd", laid_loop_example_g00319_impl_errEnd), ("loop.example/g00319/impl.errRule", laid_loop_example_g00319_impl_errRule)], narrowed := true }
def FnTwiceUptoSaid : Prop := fnTwiceUptoRow.holds Tryz.pinned (OpenSpec.upto fnTwiceSpec)

end Rows
end Go.Proofs.YtbjalickbnpnkaaGreatDoor
