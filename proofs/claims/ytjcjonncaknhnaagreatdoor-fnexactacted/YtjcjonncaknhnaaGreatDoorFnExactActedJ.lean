/- What is asked of the row of FnExactActed besides, a fact each. -/
import Derived.Test.YtjcjonncaknhnaaGreatDoorRows
import Derived.Conc.Holds
import Derived.RowKit
namespace Go.Proofs.YtjcjonncaknhnaaGreatDoor
open Go.RowKit
theorem and2 {a b : Bool} (h : a = true) (h2 : b = true) : (a && b) = true := by rw [h, h2]; rfl
theorem joined_of {P : Program} {f : FuncId} {fn : Func} {s : ChangeSpec} {c : OpenClaim} (k0 : (c.wf (OpenSpec.ofChange s)) = true) (k1 : (laidOutB P) = true) (k2 : (mapsRowed P) = true) (k3 : (fn.params.all (P.readableRec ·)) = true) (k4 : (namedTie P c.named s.vars) = true) (k5 : ((c.stops == [])) = true) (k6 : ((P.stops == [])) = true) (k7 : ((c.knobs == [])) = true) (k8 : ((P.stopKnobs == [])) = true) (k9 : ((c.inPlace == P.inPlace f)) = true) (k10 : ((c.unfollowed == P.unfollowed f)) = true) (k11 : ((c.recurses == P.recurses f)) = true) (k12 : ((c.named == P.varsNamed f)) = true) (k13 : ((c.maps == (fn.params.toList ++ s.plain.varTypes P).any (P.mapsRec ·))) = true) (k14 : ((c.ifaces == (fn.params.toList ++ s.plain.varTypes P).any (P.ifacesRec ·))) = true) (k15 : ((c.mapsOut == P.mapsAmong fn.resultTypes.toList)) = true) (k16 : ((c.loops == (fn.params.toList ++ s.plain.varTypes P).any (P.loopsFrom ·))) = true) (k17 : ((c.wideKeys == (fn.params.toList ++ s.plain.varTypes P ++ fn.resultTypes.toList).any (P.wideKeysFrom ·))) = true) (k18 : (s.vars.all (P.varReadable ·)) = true) (k19 : (fn.resultTypes.all (fun t => P.readableRec t && decide (t < P.types.size))) = true) (k20 : ((c.ifacesOut == fn.resultTypes.toList.any (P.ifacesRec ·))) = true) (k21 : ((c.loopsOut == fn.resultTypes.toList.any (P.loopsFrom ·))) = true) (k22 : ((c.plainKeys == P.plainKeys)) = true) (k23 : (c.shortTexts.isNone) = true) (k24 : (P.stopsHeard) = true) (k25 : (P.mayEnter) = true) (k26 : ((c.lifted == P.liftsFinal)) = true) (k27 : ((P.make == some c.make)) = true) (k28 : ((c.kinds == (if c.domain.isEmpty then [] else fn.params.toList.map fun t => match P.underlying t with | some (.int k) => some k | _ => none))) = true) (k29 : ((c.pinned == c.pinnedBy)) = true) (k30 : ((c.veiled == (fn.params.toList ++ s.plain.varTypes P ++ fn.resultTypes.toList).any (P.veiledRec ·))) = true) (k31 : (c.veiledFits P fn.params.toList (fn.params.toList ++ s.plain.varTypes P ++ fn.resultTypes.toList)) = true) : joinedFacts P f fn s c = true := by
  unfold joinedFacts
  exact and2 (and2 (and2 (and2 (and2 (and2 (and2 (and2 (and2 (and2 (and2 (and2 (and2 (and2 (and2 (and2 (and2 (and2 (and2 (and2 (and2 (and2 (and2 (and2 (and2 (and2 (and2 (and2 (and2 (and2 (and2 (k0) k1) k2) k3) k4) k5) k6) k7) k8) k9) k10) k11) k12) k13) k14) k15) k16) k17) k18) k19) k20) k21) k22) k23) k24) k25) k26) k27) k28) k29) k30) k31
theorem fnExactActed_j0 : (Rows.fnExactActedRow.wf (OpenSpec.ofChange Rows.fnExactActedSpec)) = true := by kernel_rfl
theorem fnExactActed_j1 : (laidOutB Tryz.checked.prog) = true := by kernel_rfl
theorem fnExactActed_j2 : (mapsRowed Tryz.checked.prog) = true := by kernel_rfl
theorem fnExactActed_j3 : (Tryz.f7.params.all (Tryz.checked.prog.readableRec ·)) = true := by kernel_rfl
theorem fnExactActed_j4 : (namedTie Tryz.checked.prog Rows.fnExactActedRow.named Rows.fnExactActedSpec.vars) = true := by kernel_rfl
theorem fnExactActed_j5 : ((Rows.fnExactActedRow.stops == [])) = true := by kernel_rfl
theorem fnExactActed_j6 : ((Tryz.checked.prog.stops == [])) = true := by kernel_rfl
theorem fnExactActed_j7 : ((Rows.fnExactActedRow.knobs == [])) = true := by kernel_rfl
theorem fnExactActed_j8 : ((Tryz.checked.prog.stopKnobs == [])) = true := by kernel_rfl
theorem fnExactActed_j9 : ((Rows.fnExactActedRow.inPlace == Tryz.checked.prog.inPlace 7)) = true := by kernel_rfl
theorem fnExactActed_j10 : ((Rows.fnExactActedRow.unfollowed == Tryz.checked.prog.unfollowed 7)) = true := by kernel_rfl
theorem fnExactActed_j11 : ((Rows.fnExactActedRow.recurses == Tryz.checked.prog.recurses 7)) = true := by kernel_rfl
theorem fnExactActed_j12 : ((Rows.fnExactActedRow.named == Tryz.checked.prog.varsNamed 7)) = true := by kernel_rfl
theorem fnExactActed_j13 : ((Rows.fnExactActedRow.maps == (Tryz.f7.params.toList ++ Rows.fnExactActedSpec.plain.varTypes Tryz.checked.prog).any (Tryz.checked.prog.mapsRec ·))) = true := by kernel_rfl
theorem fnExactActed_j14 : ((Rows.fnExactActedRow.ifaces == (Tryz.f7.params.toList ++ Rows.fnExactActedSpec.plain.varTypes Tryz.checked.prog).any (Tryz.checked.prog.ifacesRec ·))) = true := by kernel_rfl
theorem fnExactActed_j15 : ((Rows.fnExactActedRow.mapsOut == Tryz.checked.prog.mapsAmong Tryz.f7.resultTypes.toList)) = true := by kernel_rfl
theorem fnExactActed_j16 : ((Rows.fnExactActedRow.loops == (Tryz.f7.params.toList ++ Rows.fnExactActedSpec.plain.varTypes Tryz.checked.prog).any (Tryz.checked.prog.loopsFrom ·))) = true := by kernel_rfl
theorem fnExactActed_j17 : ((Rows.fnExactActedRow.wideKeys == (Tryz.f7.params.toList ++ Rows.fnExactActedSpec.plain.varTypes Tryz.checked.prog ++ Tryz.f7.resultTypes.toList).any (Tryz.checked.prog.wideKeysFrom ·))) = true := by kernel_rfl
theorem fnExactActed_j18 : (Rows.fnExactActedSpec.vars.all (Tryz.checked.prog.varReadable ·)) = true := by kernel_rfl
theorem fnExactActed_j19 : (Tryz.f7.resultTypes.all (fun t => Tryz.checked.prog.readableRec t && decide (t < Tryz.checked.prog.types.size))) = true := by kernel_rfl
theorem fnExactActed_j20 : ((Rows.fnExactActedRow.ifacesOut == Tryz.f7.resultTypes.toList.any (Tryz.checked.prog.ifacesRec ·))) = true := by kernel_rfl
theorem fnExactActed_j21 : ((Rows.fnExactActedRow.loopsOut == Tryz.f7.resultTypes.toList.any (Tryz.checked.prog.loopsFrom ·))) = true := by kernel_rfl
theorem fnExactActed_j22 : ((Rows.fnExactActedRow.plainKeys == Tryz.checked.prog.plainKeys)) = true := by kernel_rfl
theorem fnExactActed_j23 : (Rows.fnExactActedRow.shortTexts.isNone) = true := by kernel_rfl
theorem fnExactActed_j24 : (Tryz.checked.prog.stopsHeard) = true := by kernel_rfl
theorem fnExactActed_j25 : (Tryz.checked.prog.mayEnter) = true := by kernel_rfl
theorem fnExactActed_j26 : ((Rows.fnExactActedRow.lifted == Tryz.checked.prog.liftsFinal)) = true := by kernel_rfl
theorem fnExactActed_j27 : ((Tryz.checked.prog.make == some Rows.fnExactActedRow.make)) = true := by kernel_rfl
theorem fnExactActed_j28 : ((Rows.fnExactActedRow.kinds == (if Rows.fnExactActedRow.domain.isEmpty then [] else Tryz.f7.params.toList.map fun t => match Tryz.checked.prog.underlying t with | some (.int k) => some k | _ => none))) = true := by kernel_rfl
theorem fnExactActed_j29 : ((Rows.fnExactActedRow.pinned == Rows.fnExactActedRow.pinnedBy)) = true := by kernel_rfl
theorem fnExactActed_j30 : ((Rows.fnExactActedRow.veiled == (Tryz.f7.params.toList ++ Rows.fnExactActedSpec.plain.varTypes Tryz.checked.prog ++ Tryz.f7.resultTypes.toList).any (Tryz.checked.prog.veiledRec ·))) = true := by kernel_rfl
theorem fnExactActed_j31 : (Rows.fnExactActedRow.veiledFits Tryz.checked.prog Tryz.f7.params.toList (Tryz.f7.params.toList ++ Rows.fnExactActedSpec.plain.varTypes Tryz.checked.prog ++ Tryz.f7.resultTypes.toList)) = true := by kernel_rfl
theorem fnExactActed_closed : joinedFacts Tryz.checked.prog 7 Tryz.f7 Rows.fnExactActedSpec Rows.fnExactActedRow = true := joined_of fnExactActed_j0 fnExactActed_j1 fnExactActed_j2 fnExactActed_j3 fnExactActed_j4 fnExactActed_j5 fnExactActed_j6 fnExactActed_j7 fnExactActed_j8 fnExactActed_j9 fnExactActed_j10 fnExactActed_j11 fnExactActed_j12 fnExactActed_j13 fnExactActed_j14 fnExactActed_j15 fnExactActed_j16 fnExactActed_j17 fnExactActed_j18 fnExactActed_j19 fnExactActed_j20 fnExactActed_j21 fnExactActed_j22 fnExactActed_j23 fnExactActed_j24 fnExactActed_j25 fnExactActed_j26 fnExactActed_j27 fnExactActed_j28 fnExactActed_j29 fnExactActed_j30 fnExactActed_j31
end Go.Proofs.YtjcjonncaknhnaaGreatDoor
