-- MADE BY PROGRAM (checked-in-parts.mjs): THE WHOLE, out of the parts' theorems: the elder text of this name to the letter but for: '.._by_items' -> '.._from_items'; what stands in Pd and Pe comes from there.
import Derived.Test.YtbcfjbkmkknmfaaDoorProg
import Derived.KernelRfl
import Derived.Items
import Derived.PartsItems
import Derived.CheckFast
import Derived.HeadItems
import GoSem.Claims
import Derived.Shelf.ItemsParts
import Derived.Test.YtbcfjbkmkknmfaaDoorCheckedPd
import Derived.Test.YtbcfjbkmkknmfaaDoorCheckedP0
import Derived.Test.YtbcfjbkmkknmfaaDoorCheckedP1
import Derived.Test.YtbcfjbkmkknmfaaDoorCheckedP2
import Derived.Test.YtbcfjbkmkknmfaaDoorCheckedP3
import Derived.Test.YtbcfjbkmkknmfaaDoorCheckedPe
namespace Go.Proofs

-- (twenty-third state; an AI agent of the authors' house's law, Derived/PartsItems.lean) THE ONE GREAT EQUATION, ITEM BY ITEM: by 'kernel_rfl' in one declaration it made the kernel hold what the loader is told of EVERY function at once (15.2 GB at the testers' kernel's whole tower; 2.2 GB so: an AI agent of the authors' house's measure)
mapM_from_items Tryd.el.told : Tryd.bare.zipIdx.mapM (Elab.PartsItems.partAt Tryd.src) = .ok Tryd.parts
theorem Tryd.el.parts : (Elab.parts Tryd.src).toList = Tryd.parts := Elab.PartsItems.parts_by_items Tryd.el.bare Tryd.el.told
theorem Tryd.el.tables : Elab.tablesOf Tryd.src = Tryd.progTables := by kernel_rfl
mapM_from_items Tryd.el.funcs : Tryd.parts.mapM (Elab.one Tryd.progTables) = .ok Tryd.funcs.toList
theorem Tryd.elab_eq : Elab.program Tryd.src = .ok Tryd.prog := by
  unfold Elab.program
  rw [Tryd.el.parts, Tryd.el.tables, Tryd.el.funcs]
  kernel_rfl

forM_from_items Tryd.wf.types : (List.range Tryd.src.types.size).forM (Check.typeAt Tryd.src) = .ok ()
-- (twenty-third state; an AI agent of the authors' house's law, Derived/HeadItems.lean) THE SOURCE's HEAD: its last row, 'no two functions of one name', held every pair of names in one declaration (over 10 GB at the testers' kernel's whole tower): A NAME AN ITEM
theorem Tryd.wf.headBut : Check.HeadItems.headButNames Tryd.src = .ok () := by kernel_rfl
theorem Tryd.wf.count : (Tryd.src.decls.toList.map (·.name)).length = Tryd.src.decls.size := by kernel_rfl
forM_from_items Tryd.wf.names : (List.range Tryd.src.decls.size).forM (Check.HeadItems.nameAt (Tryd.src.decls.toList.map (·.name))) = .ok ()
theorem Tryd.wf.head : Check.head Tryd.src = .ok () := Check.HeadItems.head_by_items Tryd.wf.headBut Tryd.wf.count Tryd.wf.names
forM_from_items Tryd.wf.cutTypes : Tryd.src.cutTypes.toList.forM (Check.cutType Tryd.src) = .ok ()
forM_from_items Tryd.wf.globals : Tryd.src.globals.toList.forM (Check.global Tryd.src) = .ok ()
forM_from_items Tryd.wf.decls : Tryd.src.decls.toList.forM (Check.decl Tryd.src) = .ok ()
forM_from_items Tryd.wf.entries : (Tryd.src.inits.push Tryd.src.main).toList.forM (Check.entry Tryd.src) = .ok ()
theorem Tryd.wellFormed : Tryd.src.check = .ok () :=
  then_ok Tryd.wf.types (then_ok Tryd.wf.head (then_ok Tryd.wf.cutTypes (then_ok Tryd.wf.globals (then_ok Tryd.wf.decls Tryd.wf.entries))))

forM_from_items Tryd.wt.methods : (List.range Tryd.src.types.size).forM (Go.CheckTypes.methods Tryd.src) = .ok ()
forM_from_items Tryd.wt.decls : Tryd.src.decls.toList.forM (Go.CheckTypes.decl Tryd.src) = .ok ()
theorem Tryd.wellTyped : Tryd.src.checkTypes = .ok () := then_ok Tryd.wt.methods Tryd.wt.decls

-- (twenty-third state; an AI agent of the authors' house's law, Derived/CheckFast.lean) THE CODE's CHECK BY ITS FAST TWIN, which forces each number of a region's 'before' to a numeral as it is laid: a region of some 200 operations outgrew the kernel's memory without it; 'funcAt_eq' carries the result over
forM_from_items Tryd.co.funcsF : (List.range Tryd.prog.funcs.size).forM (CheckFast.funcAtF Tryd.prog) = .ok ()
theorem Tryd.co.funcs : (List.range Tryd.prog.funcs.size).forM (CheckCode.funcAt Tryd.prog) = .ok () := by
  rw [show CheckCode.funcAt Tryd.prog = CheckFast.funcAtF Tryd.prog from funext (CheckFast.funcAt_eq Tryd.prog)]
  exact Tryd.co.funcsF
forM_from_items Tryd.co.entries : (Tryd.prog.inits.push Tryd.prog.main).toList.forM (CheckCode.entry Tryd.prog) = .ok ()
theorem Tryd.codeOk : Tryd.prog.check = .ok () := then_ok Tryd.co.funcs Tryd.co.entries

noncomputable def Tryd.checked : Checked := ⟨Tryd.src, Tryd.prog, Tryd.wide, Tryd.wellFormed, Tryd.wellTyped, Tryd.elab_eq, Tryd.codeOk⟩

end Go.Proofs
