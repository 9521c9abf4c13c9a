-- MADE BY PROGRAM (checked-in-parts.mjs) out of YtbcfjbkmkknmfaaDoorChecked.lean: part 1 of 4: the items whose number leaves 1.
import Derived.Test.YtbcfjbkmkknmfaaDoorProg
import Derived.KernelRfl
import Derived.Items
import Derived.PartsItems
import Derived.CheckFast
import Derived.HeadItems
import GoSem.Claims
import Derived.Shelf.ItemsParts
import Derived.Test.YtbcfjbkmkknmfaaDoorCheckedPd
namespace Go.Proofs
mapM_items_part Tryd.el.told 1 4 : Tryd.bare.zipIdx.mapM (Elab.PartsItems.partAt Tryd.src) = .ok Tryd.parts
mapM_items_part Tryd.el.funcs 1 4 : Tryd.parts.mapM (Elab.one Tryd.progTables) = .ok Tryd.funcs.toList
forM_items_part Tryd.wf.types 1 4 : (List.range Tryd.src.types.size).forM (Check.typeAt Tryd.src) = .ok ()
forM_items_part Tryd.wf.names 1 4 : (List.range Tryd.src.decls.size).forM (Check.HeadItems.nameAt (Tryd.src.decls.toList.map (·.name))) = .ok ()
forM_items_part Tryd.wf.cutTypes 1 4 : Tryd.src.cutTypes.toList.forM (Check.cutType Tryd.src) = .ok ()
forM_items_part Tryd.wf.globals 1 4 : Tryd.src.globals.toList.forM (Check.global Tryd.src) = .ok ()
forM_items_part Tryd.wf.decls 1 4 : Tryd.src.decls.toList.forM (Check.decl Tryd.src) = .ok ()
forM_items_part Tryd.wf.entries 1 4 : (Tryd.src.inits.push Tryd.src.main).toList.forM (Check.entry Tryd.src) = .ok ()
forM_items_part Tryd.wt.methods 1 4 : (List.range Tryd.src.types.size).forM (Go.CheckTypes.methods Tryd.src) = .ok ()
forM_items_part Tryd.wt.decls 1 4 : Tryd.src.decls.toList.forM (Go.CheckTypes.decl Tryd.src) = .ok ()
forM_items_part Tryd.co.funcsF 1 4 : (List.range Tryd.prog.funcs.size).forM (CheckFast.funcAtF Tryd.prog) = .ok ()
forM_items_part Tryd.co.entries 1 4 : (Tryd.prog.inits.push Tryd.prog.main).toList.forM (CheckCode.entry Tryd.prog) = .ok ()
end Go.Proofs
