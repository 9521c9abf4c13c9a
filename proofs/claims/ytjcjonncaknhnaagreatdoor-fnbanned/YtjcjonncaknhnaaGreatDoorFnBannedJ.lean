/- What is asked of the row of FnBanned besides, a fact each. -/
import Derived.Test.YtjcjonncaknhnaaGreatDoorRows
import Derived.Conc.Holds
import Derived.RowKit
namespace Go.Proofs.YtjcjonncaknhnaaGreatDoor
open Go.RowKit
theorem and2 {a b:Bool} (h:a=true) (h2:b=true):(a&&b)=true:=by rw[h,h2];rfl
theorem joined_of {P:Program} {f:FuncId} {fn:Func} {s:ChangeSpec} {c:OpenClaim} (k0:(c.wf (OpenSpec.ofChange s))=true) (k1:(laidOutB P)=true) (k2:(mapsRowed P)=true) (k3:(fn.params.all (P.readableRec ·))=true) (k4:(namedTie P c.named s.vars)=true) (k5:((c.stops==[]))=true) (k6:((P.stops==[]))=true) (k7:((c.knobs==[]))=true) (k8:((P.stopKnobs==[]))=true) (k9:((c.inPlace==P.inPlace f))=true) (k10:((c.unfollowed==P.unfollowed f))=true) (k11:((c.recurses==P.recurses f))=true) (k12:((c.named==P.varsNamed f))=true) (k13:((c.maps==(fn.params.toList++s.plain.varTypes P).any (P.mapsRec ·)))=true) (k14:((c.ifaces==(fn.params.toList++s.plain.varTypes P).any (P.ifacesRec ·)))=true) (k15:((c.mapsOut==P.mapsAmong fn.resultTypes.toList))=true) (k16:((c.loops==(fn.params.toList++s.plain.varTypes P).any (P.loopsFrom ·)))=true) (k17:((c.wideKeys==(fn.params.toList++s.plain.varTypes P++fn.resultTypes.toList).any (P.wideKeysFrom ·)))=true) (k18:(s.vars.all (P.varReadable ·))=true) (k19:(fn.resultTypes.all (fun t=>P.readableRec t&&decide (t<P.types.size)))=true) (k20:((c.ifacesOut==fn.resultTypes.toList.any (P.ifacesRec ·)))=true) (k21:((c.loopsOut==fn.resultTypes.toList.any (P.loopsFrom ·)))=true) (k22:((c.plainKeys==P.plainKeys))=true) (k23:(c.shortTexts.isNone)=true) (k24:(P.stopsHeard)=true) (k25:(P.mayEnter)=true) (k26:((c.lifted==P.liftsFinal))=true) (k27:((P.make==some c.make))=true) (k28:((c.kinds==(if c.domain.isEmpty then[]else fn.params.toList.map fun t=>match P.underlying t with | some (.int k)=>some k | _=>none)))=true) (k29:((c.pinned==c.pinnedBy))=true) (k30:((c.veiled==(fn.params.toList++s.plain.varTypes P++fn.resultTypes.toList).any (P.veiledRec ·)))=true) (k31:(c.veiledFits P fn.params.toList (fn.params.toList++s.plain.varTypes P++fn.resultTypes.toList))=true):joinedFacts P f fn s c=true:=by
  unfold joinedFacts
  exact and2 (and2 (and2 (and2 (and2 (and2 (and2 (and2 (and2 (and2 (and2 (and2 (and2 (and2 (and2 (and2 (and2 (and2 (and2 (and2 (and2 (and2 (and2 (and2 (and2 (and2 (and2 (and2 (and2 (and2 (and2 (k0) k1) k2) k3) k4) k5) k6) k7) k8) k9) k10) k11) k12) k13) k14) k15) k16) k17) k18) k19) k20) k21) k22) k23) k24) k25) k26) k27) k28) k29) k30) k31
theorem fnBanned_j0:(Rows.fnBannedRow.wf (OpenSpec.ofChange Rows.fnBannedSpec))=true:=by kernel_rfl
theorem fnBanned_j1:(laidOutB Tryz.checked.prog)=true:=by kernel_rfl
theorem fnBanned_j2:(mapsRowed Tryz.checked.prog)=true:=by kernel_rfl
theorem fnBanned_j3:(Tryz.f4.params.all (Tryz.checked.prog.readableRec ·))=true:=by kernel_rfl
theorem fnBanned_j4:(namedTie Tryz.checked.prog Rows.fnBannedRow.named Rows.fnBannedSpec.vars)=true:=by kernel_rfl
theorem fnBanned_j5:((Rows.fnBannedRow.stops==[]))=true:=by kernel_rfl
theorem fnBanned_j6:((Tryz.checked.prog.stops==[]))=true:=by kernel_rfl
theorem fnBanned_j7:((Rows.fnBannedRow.knobs==[]))=true:=by kernel_rfl
theorem fnBanned_j8:((Tryz.checked.prog.stopKnobs==[]))=true:=by kernel_rfl
theorem fnBanned_j9:((Rows.fnBannedRow.inPlace==Tryz.checked.prog.inPlace 4))=true:=by kernel_rfl
theorem fnBanned_j10:((Rows.fnBannedRow.unfollowed==Tryz.checked.prog.unfollowed 4))=true:=by kernel_rfl
theorem fnBanned_j11:((Rows.fnBannedRow.recurses==Tryz.checked.prog.recurses 4))=true:=by kernel_rfl
theorem fnBanned_j12:((Rows.fnBannedRow.named==Tryz.checked.prog.varsNamed 4))=true:=by kernel_rfl
theorem fnBanned_j13:((Rows.fnBannedRow.maps==(Tryz.f4.params.toList++Rows.fnBannedSpec.plain.varTypes Tryz.checked.prog).any (Tryz.checked.prog.mapsRec ·)))=true:=by kernel_rfl
theorem fnBanned_j14:((Rows.fnBannedRow.ifaces==(Tryz.f4.params.toList++Rows.fnBannedSpec.plain.varTypes Tryz.checked.prog).any (Tryz.checked.prog.ifacesRec ·)))=true:=by kernel_rfl
theorem fnBanned_j15:((Rows.fnBannedRow.mapsOut==Tryz.checked.prog.mapsAmong Tryz.f4.resultTypes.toList))=true:=by kernel_rfl
theorem fnBanned_j16:((Rows.fnBannedRow.loops==(Tryz.f4.params.toList++Rows.fnBannedSpec.plain.varTypes Tryz.checked.prog).any (Tryz.checked.prog.loopsFrom ·)))=true:=by kernel_rfl
theorem fnBanned_j17:((Rows.fnBannedRow.wideKeys==(Tryz.f4.params.toList++Rows.fnBannedSpec.plain.varTypes Tryz.checked.prog++Tryz.f4.resultTypes.toList).any (Tryz.checked.prog.wideKeysFrom ·)))=true:=by kernel_rfl
theorem fnBanned_j18:(Rows.fnBannedSpec.vars.all (Tryz.checked.prog.varReadable ·))=true:=by kernel_rfl
theorem fnBanned_j19:(Tryz.f4.resultTypes.all (fun t=>Tryz.checked.prog.readableRec t&&decide (t<Tryz.checked.prog.types.size)))=true:=by kernel_rfl
theorem fnBanned_j20:((Rows.fnBannedRow.ifacesOut==Tryz.f4.resultTypes.toList.any (Tryz.checked.prog.ifacesRec ·)))=true:=by kernel_rfl
theorem fnBanned_j21:((Rows.fnBannedRow.loopsOut==Tryz.f4.resultTypes.toList.any (Tryz.checked.prog.loopsFrom ·)))=true:=by kernel_rfl
theorem fnBanned_j22:((Rows.fnBannedRow.plainKeys==Tryz.checked.prog.plainKeys))=true:=by kernel_rfl
theorem fnBanned_j23:(Rows.fnBannedRow.shortTexts.isNone)=true:=by kernel_rfl
theorem fnBanned_j24:(Tryz.checked.prog.stopsHeard)=true:=by kernel_rfl
theorem fnBanned_j25:(Tryz.checked.prog.mayEnter)=true:=by kernel_rfl
theorem fnBanned_j26:((Rows.fnBannedRow.lifted==Tryz.checked.prog.liftsFinal))=true:=by kernel_rfl
theorem fnBanned_j27:((Tryz.checked.prog.make==some Rows.fnBannedRow.make))=true:=by kernel_rfl
theorem fnBanned_j28:((Rows.fnBannedRow.kinds==(if Rows.fnBannedRow.domain.isEmpty then[]else Tryz.f4.params.toList.map fun t=>match Tryz.checked.prog.underlying t with | some (.int k)=>some k | _=>none)))=true:=by kernel_rfl
theorem fnBanned_j29:((Rows.fnBannedRow.pinned==Rows.fnBannedRow.pinnedBy))=true:=by kernel_rfl
theorem fnBanned_j30:((Rows.fnBannedRow.veiled==(Tryz.f4.params.toList++Rows.fnBannedSpec.plain.varTypes Tryz.checked.prog++Tryz.f4.resultTypes.toList).any (Tryz.checked.prog.veiledRec ·)))=true:=by kernel_rfl
theorem fnBanned_j31:(Rows.fnBannedRow.veiledFits Tryz.checked.prog Tryz.f4.params.toList (Tryz.f4.params.toList++Rows.fnBannedSpec.plain.varTypes Tryz.checked.prog++Tryz.f4.resultTypes.toList))=true:=by kernel_rfl
theorem fnBanned_closed:joinedFacts Tryz.checked.prog 4 Tryz.f4 Rows.fnBannedSpec Rows.fnBannedRow=true:=joined_of fnBanned_j0 fnBanned_j1 fnBanned_j2 fnBanned_j3 fnBanned_j4 fnBanned_j5 fnBanned_j6 fnBanned_j7 fnBanned_j8 fnBanned_j9 fnBanned_j10 fnBanned_j11 fnBanned_j12 fnBanned_j13 fnBanned_j14 fnBanned_j15 fnBanned_j16 fnBanned_j17 fnBanned_j18 fnBanned_j19 fnBanned_j20 fnBanned_j21 fnBanned_j22 fnBanned_j23 fnBanned_j24 fnBanned_j25 fnBanned_j26 fnBanned_j27 fnBanned_j28 fnBanned_j29 fnBanned_j30 fnBanned_j31
end Go.Proofs.YtjcjonncaknhnaaGreatDoor
