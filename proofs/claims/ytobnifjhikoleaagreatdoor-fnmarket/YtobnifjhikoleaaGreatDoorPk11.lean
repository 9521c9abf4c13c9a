import Derived.Stop.Asserts
import Derived.Test.YtobnifjhikoleaaGreatDoorPk05
import Derived.Test.YtobnifjhikoleaaGreatDoorPk04
namespace Go.Proofs.YtobnifjhikoleaaGreatDoor
open Go.RowKit Go.Proofs.Tryz
set_option linter.unusedSimpArgs false
set_option maxHeartbeats 32000000
set_option maxRecDepth 10000
variable {w:World}{aL aN:Addr}{zs l z1 z2 z3 z4:List Int}{n n1 n2 n3 n4 c1 c2 c3 c4:Nat}{s e:Int×Int}{a1 a2 a3 a4:Option Addr}{p:M.Pf}
section
open Go.Extern.Stop Go.Stop Go.Extern
theorem Tryz.isTypeOf(v:Value)(w:World):(Extern.ReflectliteType.typeOf #[.iface 293 v]).run prog w=.ok (.iface 246 (.agg #[.pointer (some ⟨6,293,none⟩)])) w:=by kernel_rfl
theorem Tryz.callComparable(w:World):(callFunc 239 #[.agg #[.pointer (some ⟨6,293,none⟩)]]).run prog w=.ok (.value (.bool true)) w:=by kernel_rfl
theorem Tryz.isMethodComparable(uL:Nat)(v:Value)(w:World):(Go.method (uL+1) 246 v "Comparable").run prog w=.ok (239,v) w:=by kernel_rfl
theorem Tryz.isComp:(prog.info? 293).map (·.comparable)=some true:=by kernel_rfl
theorem Tryz.isSize:(prog.info? 315).map (·.size)=some 1:=by kernel_rfl
theorem Tryz.noIsE(v:Value)(xT:TypeId)(w:World):(Instr.typeAssert (.iface 293 v) xT 258 true).run prog w=.ok (.tuple #[.nilIface,.bool false]) w:=run_typeAssert_lacksB underlying258 (by kernel_rfl) (by kernel_rfl) v xT w
theorem Tryz.noUnwrapE(v:Value)(xT:TypeId)(w:World):(Instr.typeAssert (.iface 293 v) xT 253 true).run prog w=.ok (.tuple #[.nilIface,.bool false]) w:=run_typeAssert_lacksB underlying253 (by kernel_rfl) (by kernel_rfl) v xT w
theorem Tryz.noUnwrapsE(v:Value)(xT:TypeId)(w:World):(Instr.typeAssert (.iface 293 v) xT 255 true).run prog w=.ok (.tuple #[.nilIface,.bool false]) w:=run_typeAssert_lacksB underlying255 (by kernel_rfl) (by kernel_rfl) v xT w
theorem Tryz.noIsR(v:Value)(xT:TypeId)(w:World):(Instr.typeAssert (.iface 167 v) xT 258 true).run prog w=.ok (.tuple #[.nilIface,.bool false]) w:=run_typeAssert_lacksB underlying258 (by kernel_rfl) (by kernel_rfl) v xT w
theorem Tryz.hasUnwrapR(v:Value)(xT:TypeId)(w:World):(Instr.typeAssert (.iface 167 v) xT 253 true).run prog w=.ok (.tuple #[.iface 167 v,.bool true]) w:=run_typeAssert_hasB underlying253 (by kernel_rfl) v xT w
theorem Tryz.methodUnwrap(uL:Nat)(a b c:Value)(w:World):(Go.method (uL+1) 167 (.agg #[a,b,c]) "Unwrap").run prog w=.ok (233,.agg #[a,b,c]) w:=by kernel_rfl
theorem qH(b:Addr)(w:World):
  Rq 102 #[.nilIface,.iface 293 (.pointer (some b))] w (.bool false):=by
 have hn:=run_eql_iface_nil_left (P:=prog) w 293 (.pointer (some b)) underlying73;go_enter func102,ntmps102;go_wp2;go_ret;exact⟨rfl,rfl⟩
theorem ge(s:ByteArray)(p:Int)(b:Addr)(w:World):
  Rt 102 #[.iface 167 (.agg #[.string s,.int .i64 p,.iface 293 (.pointer (some b))]),.iface 293 (.pointer (some b))] w (.bool true):=by
 obtain⟨i,hi,Aa⟩:=Option.map_eq_some_iff.1 Tryz.isComp;obtain⟨j,hj,Ba⟩:=Option.map_eq_some_iff.1 Tryz.isSize;have h8:=@run_callFunc_extern prog 144 _ Extern.ReflectliteType.typeOf func144 (by kernel_rfl) (by kernel_rfl) (by kernel_rfl) (by kernel_rfl);have Ca:=Tryz.callComparable;have tT:=Tryz.isTypeOf;have mR:=Tryz.isMethodComparable;have nR:=Tryz.noIsR;have uR:=Tryz.hasUnwrapR;have mU:=Tryz.methodUnwrap;have Da:=fun W=>run_eql_iface_ptr_same (P:=prog) W b underlying73 underlying293 hi Aa hj;have Ea:=fun W=>run_eql_iface_types (P:=prog) 167 293 (.agg #[.string s,it p,.iface 293 (.pointer (some b))]) (.pointer (some b)) underlying73 (by decide) W;have HB:H9 (m1 w (w.alloc (.cells #[.string s,it p,.iface 293 (.pointer (some b))] 167))):=(m5 _ _).alloc (m3 _) _;go_enter func102,ntmps102;go_wp2;refine wp_loop_rounds 2 ?_;rw[rounds_succ];go_wp2;rw[rounds_succ];go_wp2;go_ret;exact⟨rfl,HB.o⟩
theorem fI(s:ByteArray)(p:Int)(a b:Addr)(ca cb:Array Value)(ta tb:TypeId)(w:World)(hne:a≠b)(ha:w.heap[a.block]?=some (.cells ca ta (0,0)))(hb:w.heap[b.block]?=some (.cells cb tb (0,0))):
  Rt 102 #[.iface 167 (.agg #[.string s,.int .i64 p,.iface 293 (.pointer (some a))]),.iface 293 (.pointer (some b))] w (.bool false):=by
 obtain⟨i,hi,Aa⟩:=Option.map_eq_some_iff.1 Tryz.isComp;obtain⟨j,hj,Ba⟩:=Option.map_eq_some_iff.1 Tryz.isSize;have h8:=@run_callFunc_extern prog 144 _ Extern.ReflectliteType.typeOf func144 (by kernel_rfl) (by kernel_rfl) (by kernel_rfl) (by kernel_rfl);have Ca:=Tryz.callComparable;have tT:=Tryz.isTypeOf;have mR:=Tryz.isMethodComparable;have nR:=Tryz.noIsR;have uR:=Tryz.hasUnwrapR;have nE:=Tryz.noIsE;have uE:=Tryz.noUnwrapE;have vE:=Tryz.noUnwrapsE;have mU:=Tryz.methodUnwrap;have HB:H9 (m1 w (w.alloc (.cells #[.string s,it p,.iface 293 (.pointer (some a))] 167))):=(m5 _ _).alloc (m3 _) _
 have lt:∀{g:Nat} {o:Obj},w.heap[g]?=some o→g<w.heap.size:=fun{g o} h=>by
  rcases Nat.lt_or_ge g w.heap.size with h' | h'
  ·exact h'
  ·rw[Array.getElem?_eq_none h']at h;cases h
 have Da:=run_eql_iface_ptr_other (P:=prog) (w.alloc (.cells #[.string s,it p,.iface 293 (.pointer (some a))] 167)) underlying73 underlying293 hi Aa hj (by rw[Ba];decide) hne ((Below.heap_alloc w _ _ (lt ha)).trans ha) ((Below.heap_alloc w _ _ (lt hb)).trans hb);have Ea:=fun W=>run_eql_iface_types (P:=prog) 167 293 (.agg #[.string s,it p,.iface 293 (.pointer (some a))]) (.pointer (some b)) underlying73 (by decide) W;clear lt ha hb;go_enter func102,ntmps102;go_wp2;refine wp_loop_rounds 2 ?_;rw[rounds_succ];go_wp2;rw[rounds_succ];go_wp2;go_ret;exact⟨rfl,HB.o⟩
open Go.Extern.Stop Go.Stop Go.Extern
theorem Tryz.asValueOf(t:Addr)(w:World):(callFunc 138 #[.iface 169 (.pointer (some t))]).run prog w=.ok (.value (.agg #[.pointer (some ⟨6,169,none⟩),.pointer (some ⟨w.heap.size,0,none⟩),.int .u64 150])) (w.alloc (.cells #[.pointer (some t)] 169)):=by kernel_rfl
theorem Tryz.asType(a:Addr)(w:World):(callFunc 139 #[.agg #[.pointer (some ⟨6,169,none⟩),.pointer (some a),.int .u64 150]]).run prog w=.ok (.value (.iface 246 (.agg #[.pointer (some ⟨6,169,none⟩)]))) w:=by kernel_rfl
theorem Tryz.asMKind(uL:Nat)(h:Value)(w:World):(Go.method (uL+1) 246 (.agg #[h]) "Kind").run prog w=.ok (221,h) w:=by kernel_rfl
theorem Tryz.asKindP(w:World):(callFunc 221 #[.pointer (some ⟨6,169,none⟩)]).run prog w=.ok (.value (.int .u8 22)) w:=by kernel_rfl
theorem Tryz.asKindR(w:World):(callFunc 221 #[.pointer (some ⟨6,167,none⟩)]).run prog w=.ok (.value (.int .u8 25)) w:=by kernel_rfl
theorem Tryz.asMElem(uL:Nat)(h:Value)(w:World):(Go.method (uL+1) 246 (.agg #[h]) "Elem").run prog w=.ok (240,.agg #[h]) w:=by kernel_rfl
theorem Tryz.asElem(w:World):(callFunc 240 #[.agg #[.pointer (some ⟨6,169,none⟩)]]).run prog w=.ok (.value (.iface 246 (.agg #[.pointer (some ⟨6,167,none⟩)]))) w:=by kernel_rfl
theorem Tryz.asMImpl(uL:Nat)(h:Value)(w:World):(Go.method (uL+1) 246 (.agg #[h]) "Implements").run prog w=.ok (241,.agg #[h]) w:=by kernel_rfl
theorem Tryz.asImpl(w:World):(callFunc 241 #[.agg #[.pointer (some ⟨6,167,none⟩)],.iface 246 (.agg #[.pointer (some ⟨6,73,none⟩)])]).run prog w=.ok (.value (.bool true)) w:=by kernel_rfl
theorem Tryz.asTypeOfR(v:Value)(w:World):(callFunc 144 #[.iface 167 v]).run prog w=.ok (.value (.iface 246 (.agg #[.pointer (some ⟨6,167,none⟩)]))) w:=by kernel_rfl
theorem Tryz.asTypeOfE(v:Value)(w:World):(callFunc 144 #[.iface 293 v]).run prog w=.ok (.value (.iface 246 (.agg #[.pointer (some ⟨6,293,none⟩)]))) w:=by kernel_rfl
theorem Tryz.asMAsg(uL:Nat)(h:Value)(w:World):(Go.method (uL+1) 246 (.agg #[h]) "AssignableTo").run prog w=.ok (238,.agg #[h]) w:=by kernel_rfl
theorem Tryz.asAsgR(w:World):(callFunc 238 #[.agg #[.pointer (some ⟨6,167,none⟩)],.iface 246 (.agg #[.pointer (some ⟨6,167,none⟩)])]).run prog w=.ok (.value (.bool true)) w:=by kernel_rfl
theorem Tryz.asAsgE(w:World):(callFunc 238 #[.agg #[.pointer (some ⟨6,293,none⟩)],.iface 246 (.agg #[.pointer (some ⟨6,167,none⟩)])]).run prog w=.ok (.value (.bool false)) w:=by kernel_rfl
theorem Tryz.noAsE(v:Value)(xT:TypeId)(w:World):(Instr.typeAssert (.iface 293 v) xT 250 true).run prog w=.ok (.tuple #[.nilIface,.bool false]) w:=run_typeAssert_lacksB underlying250 (by kernel_rfl) (by kernel_rfl) v xT w
theorem uC(z:Sem Value)(f:TypeId→Addr→Nat→Nat→Sem Value)(v:Value):
  ReflectliteValue.method z f #[v]=(do match ←ReflectliteValue.parts v with | none=>z | some (t,a,fl)=>f t a fl (fl%32)):=rfl
theorem Tryz.asPartsP(a:Addr)(w:World):(ReflectliteValue.parts (.agg #[.pointer (some ⟨6,169,none⟩),.pointer (some a),.int .u64 150])).run prog w=.ok (some (169,a,150)) w:=by kernel_rfl
theorem Tryz.asIsNil(a p:Addr)(W:World)(ha:W.cell? a=some (.pointer (some p))):
  (callFunc 140 #[.agg #[.pointer (some ⟨6,169,none⟩),.pointer (some a),.int .u64 150]]).run prog W=.ok (.value (.bool false)) W:=by
 have h8:=@run_callFunc_extern prog 140 _ (ReflectliteValue.method (ReflectliteValue.valueError "reflectlite.Value.IsNil" 0) ReflectliteValue.isNil) func140 (by kernel_rfl) (by kernel_rfl) (by kernel_rfl) (by kernel_rfl)
 rw[h8,uC];simp only[Sem.run_bind,Tryz.asPartsP,Result.andThen];simp[ReflectliteValue.isNil,loadVar,isAgg,underlying,underlying169,ha,Result.andThen]
theorem Tryz.asElemT(w:World):(Rtype.elem? 169).run prog w=.ok (some 167) w:=by kernel_rfl
theorem Tryz.asMk(p:Addr)(w:World):(ReflectliteValue.mk 167 p ReflectliteValue.flagAddr).run prog w=.ok (.agg #[.pointer (some ⟨6,167,none⟩),.pointer (some p),.int .u64 409]) w:=by kernel_rfl
theorem Tryz.asElemV(a p:Addr)(W:World)(ha:W.cell? a=some (.pointer (some p))):
  (callFunc 176 #[.agg #[.pointer (some ⟨6,169,none⟩),.pointer (some a),.int .u64 150]]).run prog W=.ok (.value (.agg #[.pointer (some ⟨6,167,none⟩),.pointer (some p),.int .u64 409])) W:=by
 have h8:=@run_callFunc_extern prog 176 _ (ReflectliteValue.method (ReflectliteValue.valueError "reflectlite.Value.Elem" 0) ReflectliteValue.elem) func176 (by kernel_rfl) (by kernel_rfl) (by kernel_rfl) (by kernel_rfl)
 rw[h8,uC];simp only[Sem.run_bind,Tryz.asPartsP,Result.andThen];simp[ReflectliteValue.elem,loadVar,isAgg,underlying,underlying169,ha,Result.andThen,Tryz.asElemT,Tryz.asMk]
theorem Tryz.asValueOfR(s:ByteArray)(p:Int)(y:TypeId)(v:Value)(w:World):(callFunc 138 #[.iface 167 (.agg #[.string s,.int .i64 p,.iface y v])]).run prog w=.ok (.value (.agg #[.pointer (some ⟨6,167,none⟩),.pointer (some ⟨w.heap.size,0,none⟩),.int .u64 153])) (w.alloc (.cells #[.string s,.int .i64 p,.iface y v] 167)):=by kernel_rfl
theorem Tryz.asPartsA(a:Addr)(w:World):(ReflectliteValue.parts (.agg #[.pointer (some ⟨6,167,none⟩),.pointer (some a),.int .u64 409])).run prog w=.ok (some (167,a,409)) w:=by kernel_rfl
theorem Tryz.asPartsB(a:Addr)(w:World):(ReflectliteValue.parts (.agg #[.pointer (some ⟨6,167,none⟩),.pointer (some a),.int .u64 153])).run prog w=.ok (some (167,a,153)) w:=by kernel_rfl
theorem Tryz.asDirect(w:World):(Rtype.directlyAssignable 167 167).run prog w=.ok true w:=by kernel_rfl
theorem uH(v x:Value):ReflectliteValue.set #[v,x]=(do
  let (some (dst,a,fl),some (src,b,_)):=(←ReflectliteValue.parts v,←ReflectliteValue.parts x)
   | unsupported (.noEntry "extern/(internal/reflectlite.Value).Set.zeroValue")
  if fl/ReflectliteValue.flagAddr%2==0 then unsupported (.noEntry "extern/(internal/reflectlite.Value).Set.unaddressable")
  let val ←loadVar src b
  if←Rtype.directlyAssignable dst src then storeVar dst a val
  else if←Rtype.implements dst src then
   if(←Rtype.kind src)==20 then
    match val with
    | .nilIface=>unsupported (.noEntry "extern/reflectlite: a nil value of one interface type handed on as a value of another")
    | _=>storeVar dst a val
   else storeVar dst a (.iface src val)
  else panicString ("reflectlite.Set: value of type " ++(←Rtype.spelt src)++ " is not assignable to type " ++(←Rtype.spelt dst))
  pure (.tuple #[])):=rfl
theorem Tryz.asSet(tb b:Nat)(s:ByteArray)(p:Int)(y:TypeId)(v:Value)(olds:List Value)(W:World)(hb:au W b [.string s,.int .i64 p,.iface y v])(ht:au W tb olds)(hl:olds.length=3):
  (callFunc 177 #[.agg #[.pointer (some ⟨6,167,none⟩),.pointer (some ⟨tb,0,none⟩),.int .u64 409],.agg #[.pointer (some ⟨6,167,none⟩),.pointer (some ⟨b,0,none⟩),.int .u64 153]]).run prog W=.ok (.value (.tuple #[])) (W.setCells tb 0 [.string s,.int .i64 p,.iface y v]):=by
 have h8:=@run_callFunc_extern prog 177 _ ReflectliteValue.set func177 (by kernel_rfl) (by kernel_rfl) (by kernel_rfl) (by kernel_rfl);have Aa:=u' (P:=prog) W b 0 167 [.string s,it p,.iface y v] _ hb.row underlying167 rfl (by kernel_rfl);have Ba:=run_storeVar_mid (P:=prog) W tb 0 167 #[.string s,it p,.iface y v] (ht.there 0 3 (by omega)) (by kernel_rfl) (all_oneCell_toArray (cs:=[.string s,it p,.iface y v]) (fun u hu=>by simp at hu;rcases hu with rfl | rfl | rfl <;> rfl));rw[h8,uH];simp only[Sem.run_bind,Tryz.asPartsA,Tryz.asPartsB,Result.andThen];simp only[show((409/ReflectliteValue.flagAddr%2==0)=false) by decide,Bool.false_eq_true,if_false,Sem.run_bind,Aa,Result.andThen,Tryz.asDirect,if_true,Sem.run_pure];rw[Ba]
theorem tO(b t:Addr)(w:World)(hg:w.cell? ⟨2,0,none⟩=some (.iface 246 (.agg #[.pointer (some ⟨6,73,none⟩)]))):
  Rt 100 #[.iface 293 (.pointer (some b)),.iface 169 (.pointer (some t))] w (.bool false):=by
 have hn:=fun W=>run_eql_iface_nil_left (P:=prog) W 293 (.pointer (some b)) underlying73;have v1:=Tryz.asValueOf;have v2:=Tryz.asType;have v3:=Tryz.asMKind;have v4:=Tryz.asKindP;have v5:=Tryz.asKindR;have v6:=Tryz.asMElem;have v7:=Tryz.asElem;have v8:=Tryz.asMImpl;have v9:=Tryz.asImpl;have va:=Tryz.asTypeOfE;have vb:=Tryz.asMAsg;have vc:=Tryz.asAsgE;have vd:=Tryz.noAsE;have ve:=Tryz.noUnwrapE;have vf:=Tryz.noUnwrapsE;have vn:=Tryz.asIsNil ⟨w.heap.size,0,none⟩ t ((w.alloc (.cells #[.pointer (some t)] 169)).alloc (.cells #[.pointer (some ⟨6,169,none⟩),.pointer (some ⟨w.heap.size,0,none⟩),.int .u64 150] 201)) (by rw[World.cell?_alloc_lt _ _ ⟨w.heap.size,0,none⟩ (by simp)];exact uS _ _ _ _);have Aa:=vh w _ hg
 have Ba:((w.alloc (.cells #[.pointer (some t)] 169)).alloc (.cells #[.pointer (some ⟨6,169,none⟩),.pointer (some ⟨w.heap.size,0,none⟩),.int .u64 150] 201)).cell? ⟨2,0,none⟩=some (.iface 246 (.agg #[.pointer (some ⟨6,73,none⟩)])):=by
  rw[World.cell?_alloc_lt _ _ ⟨2,0,none⟩ (by simp;exact Nat.lt_succ_of_lt Aa),World.cell?_alloc_lt _ _ ⟨2,0,none⟩ Aa];exact hg
 have HB:H9 (m1 w (((w.alloc (.cells #[.pointer (some t)] 169)).alloc (.cells #[.pointer (some ⟨6,169,none⟩),.pointer (some ⟨w.heap.size,0,none⟩),.int .u64 150] 201)).alloc (.cells #[.pointer (some ⟨6,169,none⟩),.pointer (some ⟨w.heap.size,0,none⟩),.int .u64 150] 201))):=(((m5 _ _).alloc (m3 _) _).alloc (by simp) _).alloc (by simp;omega) _;clear hg;go_enter func100,ntmps100;go_wp2;refine wp_loop_rounds 1 ?_;rw[rounds_succ];go_wp2;go_ret;exact⟨rfl,HB.o⟩
open Go.Extern.Stop Go.Stop Go.Extern
theorem mC{a:World}{b:Nat}(h:a.grownBy w (some b))(o:Nat)(us:List Value):a.grownBy (w.setCells b o us) (some b):=by
 have hz:∀(us:List Value) (w:World) (o:Nat),w.grownBy (w.setCells b o us) (some b):=by
  intro us
  induction us with
  | nil=>exact fun w _=>World.grownBy.refl w _
  | cons u us ih=>
   intro w o;have h1:w.grownBy (w.setCell ⟨b,o,none⟩ u) (some b):=⟨rfl,rfl,rfl,by simp[World.setCell],fun k _ hk=>Below.heap_setCell w _ u k (fun e=>hk (by rw[e]))⟩;exact h1.trans (ih _ _)
 exact h.trans (hz us w o)
theorem uk(s:ByteArray)(p:Int)(b:Addr)(tb:Nat)(olds:List Value)(w:World)(hg:w.cell? ⟨2,0,none⟩=some (.iface 246 (.agg #[.pointer (some ⟨6,73,none⟩)])))(ht:au w tb olds)(hl:olds.length=3):
  Calls prog 100 #[.iface 167 (.agg #[.string s,.int .i64 p,.iface 293 (.pointer (some b))]),.iface 169 (.pointer (some ⟨tb,0,none⟩))] w fun e w'=>e=.returned (.bool true)∧au w' tb [.string s,.int .i64 p,.iface 293 (.pointer (some b))]∧w.grownBy w' (some tb):=by
 have hn:=fun W=>run_eql_iface_nil_left (P:=prog) W 167 (.agg #[.string s,it p,.iface 293 (.pointer (some b))]) underlying73;have v1:=Tryz.asValueOf;have v2:=Tryz.asType;have v3:=Tryz.asMKind;have v4:=Tryz.asKindP;have v5:=Tryz.asKindR;have v6:=Tryz.asMElem;have v7:=Tryz.asElem;have v8:=Tryz.asMImpl;have v9:=Tryz.asImpl;have va:=Tryz.asTypeOfR;have vb:=Tryz.asMAsg;have vc:=Tryz.asAsgR;have vr:=Tryz.asValueOfR;have vn:=Tryz.asIsNil ⟨w.heap.size,0,none⟩ ⟨tb,0,none⟩ ((w.alloc (.cells #[.pointer (some ⟨tb,0,none⟩)] 169)).alloc (.cells #[.pointer (some ⟨6,169,none⟩),.pointer (some ⟨w.heap.size,0,none⟩),.int .u64 150] 201)) (by rw[World.cell?_alloc_lt _ _ ⟨w.heap.size,0,none⟩ (by simp)];exact uS _ _ _ _);have vm:=Tryz.asElemV ⟨w.heap.size,0,none⟩ ⟨tb,0,none⟩ (((w.alloc (.cells #[.pointer (some ⟨tb,0,none⟩)] 169)).alloc (.cells #[.pointer (some ⟨6,169,none⟩),.pointer (some ⟨w.heap.size,0,none⟩),.int .u64 150] 201)).alloc (.cells #[.pointer (some ⟨6,169,none⟩),.pointer (some ⟨w.heap.size,0,none⟩),.int .u64 150] 201)) (by rw[World.cell?_alloc_lt _ _ ⟨w.heap.size,0,none⟩ (by simp;omega),World.cell?_alloc_lt _ _ ⟨w.heap.size,0,none⟩ (by simp)];exact uS _ _ _ _);have Ba:=vh w _ hg
 have Ga:((w.alloc (.cells #[.pointer (some ⟨tb,0,none⟩)] 169)).alloc (.cells #[.pointer (some ⟨6,169,none⟩),.pointer (some ⟨w.heap.size,0,none⟩),.int .u64 150] 201)).cell? ⟨2,0,none⟩=some (.iface 246 (.agg #[.pointer (some ⟨6,73,none⟩)])):=by
  rw[World.cell?_alloc_lt _ _ ⟨2,0,none⟩ (by simp;exact Nat.lt_succ_of_lt Ba),World.cell?_alloc_lt _ _ ⟨2,0,none⟩ Ba];exact hg
 have Ca:=su w (.cells #[.pointer (some ⟨tb,0,none⟩)] 169) (.cells #[.pointer (some ⟨6,169,none⟩),.pointer (some ⟨w.heap.size,0,none⟩),.int .u64 150] 201) (.cells #[.pointer (some ⟨6,169,none⟩),.pointer (some ⟨w.heap.size,0,none⟩),.int .u64 150] 201) #[.string s,it p,.iface 293 (.pointer (some b))] 167;have Aa:=(((ht.alloc (.cells #[.pointer (some ⟨tb,0,none⟩)] 169)).alloc (.cells #[.pointer (some ⟨6,169,none⟩),.pointer (some ⟨w.heap.size,0,none⟩),.int .u64 150] 201)).alloc (.cells #[.pointer (some ⟨6,169,none⟩),.pointer (some ⟨w.heap.size,0,none⟩),.int .u64 150] 201)).alloc (.cells #[.string s,it p,.iface 293 (.pointer (some b))] 167)
 have hG:w.grownBy ((((w.alloc (.cells #[.pointer (some ⟨tb,0,none⟩)] 169)).alloc (.cells #[.pointer (some ⟨6,169,none⟩),.pointer (some ⟨w.heap.size,0,none⟩),.int .u64 150] 201)).alloc (.cells #[.pointer (some ⟨6,169,none⟩),.pointer (some ⟨w.heap.size,0,none⟩),.int .u64 150] 201)).alloc (.cells #[.string s,it p,.iface 293 (.pointer (some b))] 167)) (some tb):=
  (((uX w _ _).trans (uX _ _ _)).trans (uX _ _ _)).trans (uX _ _ _)
 have Ea:=Tryz.asSet tb (w.heap.size+1+1+1) s p 293 (.pointer (some b)) olds _ Ca Aa hl
 have Da:H9 (au (((((w.alloc (.cells #[.pointer (some ⟨tb,0,none⟩)] 169)).alloc (.cells #[.pointer (some ⟨6,169,none⟩),.pointer (some ⟨w.heap.size,0,none⟩),.int .u64 150] 201)).alloc (.cells #[.pointer (some ⟨6,169,none⟩),.pointer (some ⟨w.heap.size,0,none⟩),.int .u64 150] 201)).alloc (.cells #[.string s,it p,.iface 293 (.pointer (some b))] 167)).setCells tb 0 [.string s,it p,.iface 293 (.pointer (some b))]) tb [.string s,it p,.iface 293 (.pointer (some b))]):=by
  have:=Aa.setCells [.string s,it p,.iface 293 (.pointer (some b))] 0 (by simp[hl]);rw[rK (by simp[hl])]at this;exact this
 have HG:H9 (w.grownBy (((((w.alloc (.cells #[.pointer (some ⟨tb,0,none⟩)] 169)).alloc (.cells #[.pointer (some ⟨6,169,none⟩),.pointer (some ⟨w.heap.size,0,none⟩),.int .u64 150] 201)).alloc (.cells #[.pointer (some ⟨6,169,none⟩),.pointer (some ⟨w.heap.size,0,none⟩),.int .u64 150] 201)).alloc (.cells #[.string s,it p,.iface 293 (.pointer (some b))] 167)).setCells tb 0 [.string s,it p,.iface 293 (.pointer (some b))]) (some tb)):=mC hG 0 _;clear hg Ca Aa hG ht;generalize Fa:((((w.alloc (.cells #[.pointer (some ⟨tb,0,none⟩)] 169)).alloc (.cells #[.pointer (some ⟨6,169,none⟩),.pointer (some ⟨w.heap.size,0,none⟩),.int .u64 150] 201)).alloc (.cells #[.pointer (some ⟨6,169,none⟩),.pointer (some ⟨w.heap.size,0,none⟩),.int .u64 150] 201)).alloc (.cells #[.string s,it p,.iface 293 (.pointer (some b))] 167)).setCells tb 0 [.string s,it p,.iface 293 (.pointer (some b))]=wz at Da HG Ea;clear Fa;go_enter func100,ntmps100;go_wp2;refine wp_loop_rounds 1 ?_;rw[rounds_succ];go_wp2;go_ret;exact⟨rfl,Da.o,HG.o⟩
open Go.Extern.Stop Go.Stop Go.Extern
def iB(s:ByteArray)(p:Int)(a:Addr):Value:=.iface 167 (.agg #[.string s,.int .i64 p,.iface 293 (.pointer (some a))])
def uD(a:Addr):Value:=.iface 293 (.pointer (some a))
structure Env(w:World)(aL aN:Addr):Prop where
 cL:w.cell? ⟨1,0,none⟩=some (.iface 293 (.pointer (some aL)))
 cN:w.cell? ⟨0,0,none⟩=some (.iface 293 (.pointer (some aN)))
 cT:w.cell? ⟨2,0,none⟩=some (.iface 246 (.agg #[.pointer (some ⟨6,73,none⟩)]))
 ne:aN≠aL
 hL:∃c t,w.heap[aL.block]?=some (.cells c t (0,0))
 hN:∃c t,w.heap[aN.block]?=some (.cells c t (0,0))
theorem Env.below{w':World}(h:Env w aL aN)(hb:m1 w w'):Env w' aL aN where
 cL:=(hb.cell (p:=⟨1,0,none⟩) (vh w _ h.cL)).trans h.cL
 cN:=(hb.cell (p:=⟨0,0,none⟩) (vh w _ h.cN)).trans h.cN
 cT:=(hb.cell (p:=⟨2,0,none⟩) (vh w _ h.cT)).trans h.cT
 ne:=h.ne
 hL:=by obtain⟨c,t,e⟩:=h.hL;exact⟨c,t,(hb.block _ (aD.grownR.lt_of_heap e)).trans e⟩
 hN:=by obtain⟨c,t,e⟩:=h.hN;exact⟨c,t,(hb.block _ (aD.grownR.lt_of_heap e)).trans e⟩
theorem bJ(s:ByteArray)(a:Addr)(w:World)(he:Env w aL aN):Rt 57 #[.string s,.iface 293 (.pointer (some a))] w (iB s (-1) a):=by
 have hn:=fun W=>run_eql_iface_nil_left (P:=prog) W 293 (.pointer (some a)) underlying73;have Ba:H9 (m1 w (w.alloc (.cells #[.string ByteArray.empty,it 0,.nilIface] 167))):=(m5 _ _).alloc (m3 _) _;have Da:=cC w [.string ByteArray.empty,it 0,.nilIface] 167;have CA:=tO a ⟨w.heap.size,0,none⟩ (w.alloc (.cells #[.string ByteArray.empty,it 0,.nilIface] 167)) (he.below Ba.o).cT;unfold iB;clear he;go_enter func57,ntmps57;(go_wp2_with fail);refine CA.mono ?_;rintro e w1 ⟨rfl,Ca⟩;have Aa:=Da.b Ca;have Ea:=Ba.t Ca;have t0:=Aa.c 0;have t1:=Aa.c 1;have t2:=Aa.c 2;have u0:=Aa.o.fr 0;have u1:=Aa.o.fr 1;have u2:=Aa.o.fr 2;have Fa:H9 (m1 w ((((w1.setCell ⟨w.heap.size,0,none⟩ (.string ByteArray.empty)).setCell ⟨w.heap.size,1,none⟩ (it (-1))).setCell ⟨w.heap.size,2,none⟩ (.iface 293 (.pointer (some a)))).setCell ⟨w.heap.size,0,none⟩ (.string s))):=(((Ea.o.setCell (m3 _) _).setCell (m3 _) _).setCell (m3 _) _).setCell (m3 _) _;clear Ca Da Ba;go_wp2;go_ret;exact⟨rfl,Fa.o⟩
theorem dK(s s0:ByteArray)(p:Int)(a:Addr)(w:World)(he:Env w aL aN):Rt 57 #[.string s,iB s0 p a] w (iB s p a):=by
 have hn:=fun W=>run_eql_iface_nil_left (P:=prog) W 167 (.agg #[.string s0,it p,.iface 293 (.pointer (some a))]) underlying73;have Ba:H9 (m1 w (w.alloc (.cells #[.string ByteArray.empty,it 0,.nilIface] 167))):=(m5 _ _).alloc (m3 _) _;have Ca:=cC w [.string ByteArray.empty,it 0,.nilIface] 167;have CA:=uk s0 p a w.heap.size [.string ByteArray.empty,it 0,.nilIface] (w.alloc (.cells #[.string ByteArray.empty,it 0,.nilIface] 167)) (he.below Ba.o).cT Ca.o rfl;unfold iB;clear he;go_enter func57,ntmps57;(go_wp2_with fail);refine CA.mono ?_;rintro e w1 ⟨rfl,Aa,Da⟩;have Ea:=Hd (Ba.o.grown Da Ba.o.size (fun q hq=>by injection hq with hq;omega));have t0:=Aa.c 0;have t1:=Aa.c 1;have t2:=Aa.c 2;have u0:=Aa.fr 0;have Fa:H9 (m1 w (w1.setCell ⟨w.heap.size,0,none⟩ (.string s))):=Ea.o.setCell (m3 _) _;clear Da Aa Ca Ba;go_wp2;go_ret;exact⟨rfl,Fa.o⟩
theorem nA{k:Nat}(hk:k<zs.length):((zs.take k).all M.el&&M.el (zs.getD k 0))=(zs.take (k+1)).all M.el:=by
 rw[uV hk,List.all_append,m4,m6 hk];simp
def uh(n:Nat)(tr:Int)(zs:List Int)(aL aN:Addr)(e:Ending):Prop:=((¬ (n:Int)=tr∧e=.returned (uD aL))∨((n:Int)=tr∧M.allEl zs=true∧e=.returned .nilIface)∨((n:Int)=tr∧M.allEl zs=false∧∃i:Int,e=.returned (iB ByteArray.empty i aN)))
theorem mw(a:Int)(w:World):Rq 146 #[.int .i64 a] w (.tuple #[.int .i64 (if M.el a=true then a else 0),.bool (M.el a)]):=by
 cases h:M.el a with
 | true=>exact dl a w ((M.el_iff a).1 h).1 ((M.el_iff a).1 h).2
 | false=>
  refine dp a w ?_
  rcases Int.lt_or_le a 0 with h0 | h0
  ·exact .inl h0
  ·
   rcases Int.lt_or_le a 65537 with h1 | h1
   ·rw[(M.el_iff a).2 ⟨h0,h1⟩]at h;cases h
   ·exact .inr h1
theorem dR{a:Option Addr}{c:Nat}(tr:Int)(w:World)(he:Env w aL aN)(hz:aw w a n c zs):Calls prog 143 #[.slice a n c,.int .i64 tr] w fun e w'=>uh n tr zs aL aN e∧w'=w:=by
 have gL:=he.cL;have gN:=he.cN;have bn:(n:Int)≤9223372036854775807:=(by have:=hz.big;have:=hz.le;omega);by_cases hm:(n:Int)=tr
 ·
  subst hm;have Da:((n:Int) != (n:Int))=false:=(by simp);have HZ:=Hd hz;clear gL he;go_enter func143,ntmps143;go_wp2
  go_loopw [16] (fun i wr=>∃k:Nat,k≤n∧i=it k∧wr=w∧(zs.take k).all M.el=true) (fun i _=>n-(intOf i).toNat)
  case atStart=>exact⟨0,by omega,rfl,rfl,rfl⟩
  case round=>
   obtain⟨k,hk,rfl,rfl,Aa⟩:=hrel;have HA:=Hd Aa;clear Aa;by_cases Ba:k<n
   ·
    obtain⟨b1,o1,rfl,Ca⟩:=HZ.o.at (by omega);have e1:=Ca k Ba;have hI:(k:Int)<(n:Int):=(by omega);have HS:=Hd (nA (by rw[HZ.o.len];exact Ba));have C1:=mw (zs.getD k 0);generalize hx:zs.getD k 0=x at e1 HS C1;clear Ca
    cases hel:M.el x with
    | true=>
     rw[hel]at C1 HS;have HS':H9 ((zs.take (k+1)).all M.el=true):=(by have h1:=HS.o;rw[HA.o]at h1;exact h1.symm);clear HS hx hel;(go_wp2_with fail);refine(C1 _).mono ?_;rintro e w ⟨rfl,rfl⟩;go_wp2;go_roundw
     case rel=>exact⟨k+1,by omega,by go_num,by simp,HS'.o⟩
     case measure=>simp[intOf];omega
    | false=>
     rw[hel]at C1 HS;have HS':H9 ((zs.take (k+1)).all M.el=false):=(by have h1:=HS.o;rw[HA.o]at h1;exact h1.symm);clear HS hx hel;(go_wp2_with fail);refine(C1 _).mono ?_;rintro e w ⟨rfl,rfl⟩;go_wp2;go_ret;refine⟨.inr (.inr ⟨rfl,?_,_,rfl⟩),rfl⟩;have h1:=HS'.o
     cases hz1:M.allEl zs with
     | false=>rfl
     | true=>
      exfalso
      have:(zs.take (k+1)).all M.el=true:=by
       rw[List.all_eq_true]at *;intro u hu;exact(List.all_eq_true.1 hz1) u (List.mem_of_mem_take hu)
      rw[this]at h1;cases h1
   ·
    have Ea:k=n:=by omega
    have Fa:H9 (M.allEl zs=true):=by
     have h1:=HA.o;rw[Ea,uQ (by rw[HZ.o.len];exact m3 _)]at h1;exact h1
    go_wp2;go_ret;exact⟨.inr (.inl ⟨rfl,Fa.o,rfl⟩),rfl⟩
 ·
  have Da:((n:Int) != tr)=true:=(by simp[hm]);clear hz he;go_enter func143,ntmps143;go_wp2;go_ret;exact⟨.inl ⟨hm,rfl⟩,rfl⟩
open Go.Extern.Stop Go.Stop Go.Extern
theorem aP{P:Program}{ti:TypeId}{ms:Array (String×TypeId)}(w:World)(tp:TypeId)(v:Value)(hi:P.underlying ti=some (.interface ms)):(binOp .neq ti (.iface tp v) .nilIface).run P w=.ok (.bool true) w:=by
 have h:∀d:Nat,(Op.equalIn (d+1) ti (.iface tp v) .nilIface).run P w=.ok false w:=fun d=>by simp[Op.equalIn,run_underlying hi]
 simp only[binOp];simp[Op.equal,Op.maxDepth,h 9999]
theorem fF(h:¬ (l.length:Int)=4*(n:Int)):M.lenEl l n=false:=by
 cases e:M.lenEl l n with
 | false=>rfl
 | true=>exact absurd ((M.lenEl_iff l n).1 e).1 (by omega)
theorem fE(h:M.allEl l=false)(n:Nat):M.lenEl l n=false:=by
 cases e:M.lenEl l n with
 | false=>rfl
 | true=>rw[((M.lenEl_iff l n).1 e).2]at h;cases h
theorem eO(h1:(l.length:Int)=4*(n:Int))(h2:M.allEl l=true):M.lenEl l n=true:=(M.lenEl_iff l n).2 ⟨by omega,h2⟩
theorem nF(h:¬ (z1.length:Int)=4*(n:Int)):M.Pf.form ⟨s,e,z1,z2,z3,z4⟩ n=false:=by
 unfold M.Pf.form;dsimp only;rw[fF h];simp
theorem pC(h:M.allEl z1=false)(n:Nat):M.Pf.form ⟨s,e,z1,z2,z3,z4⟩ n=false:=by
 unfold M.Pf.form;dsimp only;rw[fE h];simp
theorem nH(h:¬ (z2.length:Int)=4*(n:Int)):M.Pf.form ⟨s,e,z1,z2,z3,z4⟩ n=false:=by
 unfold M.Pf.form;dsimp only;rw[fF h];simp
theorem pD(h:M.allEl z2=false)(n:Nat):M.Pf.form ⟨s,e,z1,z2,z3,z4⟩ n=false:=by
 unfold M.Pf.form;dsimp only;rw[fE h];simp
theorem nI(h:¬ (z3.length:Int)=4*(n:Int)):M.Pf.form ⟨s,e,z1,z2,z3,z4⟩ n=false:=by
 unfold M.Pf.form;dsimp only;rw[fF h];simp
theorem pE(h:M.allEl z3=false)(n:Nat):M.Pf.form ⟨s,e,z1,z2,z3,z4⟩ n=false:=by
 unfold M.Pf.form;dsimp only;rw[fE h];simp
theorem nJ(h:¬ (z4.length:Int)=4*(n:Int)):M.Pf.form ⟨s,e,z1,z2,z3,z4⟩ n=false:=by
 unfold M.Pf.form;dsimp only;rw[fF h];simp
theorem pF(h:M.allEl z4=false)(n:Nat):M.Pf.form ⟨s,e,z1,z2,z3,z4⟩ n=false:=by
 unfold M.Pf.form;dsimp only;rw[fE h];simp
theorem sH(h:M.sOk s=false)(n:Nat):M.Pf.form ⟨s,e,z1,z2,z3,z4⟩ n=false:=by
 unfold M.Pf.form;dsimp only;rw[h];simp
theorem sG(h:M.sOk e=false)(n:Nat):M.Pf.form ⟨s,e,z1,z2,z3,z4⟩ n=false:=by
 unfold M.Pf.form;dsimp only;rw[h];simp
def ug(p:M.Pf)(N:Nat)(aL aN:Addr)(e:Ending):Prop:=
 (e=.returned .nilIface∧p.form N=true)∨((∃s q,e=.returned (iB s q aL))∧p.form N=false)∨((∃s q,e=.returned (iB s q aN))∧∀k,p.form k=false)
theorem jz(s1 s2 e1 e2:Int)(w:World):Calls prog 142 #[.agg #[.int .i64 s1,.int .i64 s2,.int .i64 e1,.int .i64 e2,.slice a1 n1 c1,.slice a2 n2 c2,.slice a3 n3 c3,.slice a4 n4 c4]] w fun e w'=>∃g,e=.returned (.slice (some ⟨g,0,none⟩) 4 4)∧au w' g [.string {data:=#[88]},.slice a1 n1 c1,.string {data:=#[89]},.slice a2 n2 c2,.string {data:=#[81,88]},.slice a3 n3 c3,.string {data:=#[81,89]},.slice a4 n4 c4]∧m1 w w':=by
 have HL:H9 (au ((w.alloc (.cells (bi s1 s2 e1 e2 a1 n1 c1 a2 n2 c2 a3 n3 c3 a4 n4 c4).toArray 35)).alloc (.cells #[.string {data:=#[88]},.slice a1 n1 c1,.string {data:=#[89]},.slice a2 n2 c2,.string {data:=#[81,88]},.slice a3 n3 c3,.string {data:=#[81,89]},.slice a4 n4 c4] 213)) (w.heap.size+1) [.string {data:=#[88]},.slice a1 n1 c1,.string {data:=#[89]},.slice a2 n2 c2,.string {data:=#[81,88]},.slice a3 n3 c3,.string {data:=#[81,89]},.slice a4 n4 c4]):=aZ _ _ _ _;have HB:H9 (m1 w ((w.alloc (.cells (bi s1 s2 e1 e2 a1 n1 c1 a2 n2 c2 a3 n3 c3 a4 n4 c4).toArray 35)).alloc (.cells #[.string {data:=#[88]},.slice a1 n1 c1,.string {data:=#[89]},.slice a2 n2 c2,.string {data:=#[81,88]},.slice a3 n3 c3,.string {data:=#[81,89]},.slice a4 n4 c4] 213))):=((m5 _ _).alloc (m3 _) _).alloc (by simp) _;go_enter func142,ntmps142;go_wp2;go_ret;exact⟨_,rfl,HL.o,HB.o⟩
theorem dP(s1 s2 e1 e2:Int)(N:Nat)(w:World)(hN:N≤16)(he:Env w aL aN)(h1:aw w a1 n1 c1 z1)(h2:aw w a2 n2 c2 z2)(h3:aw w a3 n3 c3 z3)(h4:aw w a4 n4 c4 z4):
  Calls prog 101 #[.agg #[.int .i64 s1,.int .i64 s2,.int .i64 e1,.int .i64 e2,.slice a1 n1 c1,.slice a2 n2 c2,.slice a3 n3 c3,.slice a4 n4 c4],.int .i64 N] w fun e w'=>ug (⟨(s1,s2),(e1,e2),z1,z2,z3,z4⟩:M.Pf) N aL aN e∧m1 w w':=by
 have C1:=dv (s1,s2);have C2:=dv (e1,e2);have Bb:H9 (M.sOk (s1,s2)=false→∀k,M.Pf.form (⟨(s1,s2),(e1,e2),z1,z2,z3,z4⟩:M.Pf) k=false):=fun h=>sH h;have Cb:H9 (M.sOk (e1,e2)=false→∀k,M.Pf.form (⟨(s1,s2),(e1,e2),z1,z2,z3,z4⟩:M.Pf) k=false):=fun h=>sG h
 have Xa:H9 (M.sOk (s1,s2)=true→M.sOk (e1,e2)=true→M.lenEl z1 N=true→M.lenEl z2 N=true→M.lenEl z3 N=true→M.lenEl z4 N=true→M.Pf.form (⟨(s1,s2),(e1,e2),z1,z2,z3,z4⟩:M.Pf) N=true):=fun g1 g2 g3 g4 g5 g6=>by
  show _=_;unfold M.Pf.form;dsimp only;rw[g1,g2,g3,g4,g5,g6];rfl
 generalize M.sOk (s1,s2)=o1 at C1 Bb Xa;generalize M.sOk (e1,e2)=o2 at C2 Cb Xa;dsimp only[cP]at C1 C2;have L1:=Hd h1.len;have L2:=Hd h2.len;have L3:=Hd h3.len;have L4:=Hd h4.len;have H1:=Hd h1;have H2:=Hd h2;have H3:=Hd h3;have H4:=Hd h4;have Qb:(N:Int)≤16:=(by omega);have Db:=cC w (bi s1 s2 e1 e2 a1 n1 c1 a2 n2 c2 a3 n3 c3 a4 n4 c4) 35;have Ta:H9 (m1 w (w.alloc (.cells (bi s1 s2 e1 e2 a1 n1 c1 a2 n2 c2 a3 n3 c3 a4 n4 c4).toArray 35))):=(m5 _ _).alloc (m3 _) _;have Eb:=Hd (he.below Ta.o);have CL:=jz (a1:=a1) (a2:=a2) (a3:=a3) (a4:=a4) (n1:=n1) (n2:=n2) (n3:=n3) (n4:=n4) (c1:=c1) (c2:=c2) (c3:=c3) (c4:=c4) s1 s2 e1 e2;clear he h1 h2 h3 h4;go_enter func101,ntmps101;(go_wp2_with fail);refine(CL _).mono ?_;rintro e w2 ⟨g,rfl,Fb,Ua⟩;have HA:=Db.b Ua;have Ca:=Hd Fb;have HB:=Ta.t Ua;have HE:=Hd (Eb.o.below Ua);clear Fb Ua Db Ta Eb CL;go_wp2;refine wp_loop_rounds 5 ?_;have x0:=Ca.c 0;have x1:=Ca.c 1;have Ga:H9 (au (w2.alloc (.cells #[.string {data:=#[88]},.slice a1 n1 c1] 213)) w.heap.size (bi s1 s2 e1 e2 a1 n1 c1 a2 n2 c2 a3 n3 c3 a4 n4 c4)):=HA.o.alloc _;have Ia:H9 (au (w2.alloc (.cells #[.string {data:=#[88]},.slice a1 n1 c1] 213)) g [.string {data:=#[88]},.slice a1 n1 c1,.string {data:=#[89]},.slice a2 n2 c2,.string {data:=#[81,88]},.slice a3 n3 c3,.string {data:=#[81,89]},.slice a4 n4 c4]):=Ca.o.alloc _;have Da:H9 (m1 w (w2.alloc (.cells #[.string {data:=#[88]},.slice a1 n1 c1] 213))):=HB.o.alloc HB.o.size _;have Ea:H9 (Env (w2.alloc (.cells #[.string {data:=#[88]},.slice a1 n1 c1] 213)) aL aN):=HE.o.below ((m5 _ _).alloc (m3 _) _);have Fa:=cC w2 [.string {data:=#[88]},.slice a1 n1 c1] 213;have Ha:=dR (4*N) (w2.alloc (.cells #[.string {data:=#[88]},.slice a1 n1 c1] 213)) Ea.o (H1.o.below Da.o);rw[rounds_succ];(go_wp2_with fail);refine Ha.mono ?_;rintro e Ja ⟨La,Na⟩;generalize(w2.alloc (.cells #[.string {data:=#[88]},.slice a1 n1 c1] 213))=wv at *;subst Na;generalize w2.heap.size=vb at Fa ⊢;clear x0 x1 HA Ca HB HE Ha;have HA:=Hd Ga.o;have Ca:=Hd Ia.o;have HB:=Hd Da.o;have HE:=Hd Ea.o;have y0:=Fa.c 0;clear Ga Ia Da Ea Fa
 rcases La with⟨hlen,rfl⟩ | ⟨hlen,hal,rfl⟩ | ⟨hlen,hal,i,rfl⟩
 ·
  have Oa:=Hd hlen;clear hlen;have Pa:=fun W=>aP (P:=prog) W 293 (.pointer (some aL)) underlying73;unfold uD;(go_wp2_with fail);refine(bJ _ aL _ HE.o).mono ?_;rintro e w9 ⟨rfl,Aa⟩;have Ba:=HB.t Aa;clear Aa;go_wp2;go_ret;exact⟨.inr (.inl ⟨⟨_,_,rfl⟩,nF (by rw[L1.o];exact Oa.o)⟩),Ba.o⟩
 rotate_left
 ·
  have Qa:=Hd hal;clear hlen hal;have Pa:=fun W=>aP (P:=prog) W 167 (.agg #[.string ByteArray.empty,it i,.iface 293 (.pointer (some aN))]) underlying73;unfold iB;(go_wp2_with fail);refine(dK _ ByteArray.empty i aN _ HE.o).mono ?_;rintro e w9 ⟨rfl,Aa⟩;have Ba:=HB.t Aa;clear Aa;go_wp2;go_ret;exact⟨.inr (.inr ⟨⟨_,_,rfl⟩,fun kk=>pC Qa.o kk⟩),Ba.o⟩
 have Hb:=Hd hlen;have Ib:=Hd hal;clear hlen hal y0;go_wp2;have x0:=Ca.c 2;have x1:=Ca.c 3;have Ga:H9 (au (Ja.alloc (.cells #[.string {data:=#[89]},.slice a2 n2 c2] 213)) w.heap.size (bi s1 s2 e1 e2 a1 n1 c1 a2 n2 c2 a3 n3 c3 a4 n4 c4)):=HA.o.alloc _;have Ia:H9 (au (Ja.alloc (.cells #[.string {data:=#[89]},.slice a2 n2 c2] 213)) g [.string {data:=#[88]},.slice a1 n1 c1,.string {data:=#[89]},.slice a2 n2 c2,.string {data:=#[81,88]},.slice a3 n3 c3,.string {data:=#[81,89]},.slice a4 n4 c4]):=Ca.o.alloc _;have Da:H9 (m1 w (Ja.alloc (.cells #[.string {data:=#[89]},.slice a2 n2 c2] 213))):=HB.o.alloc HB.o.size _;have Ea:H9 (Env (Ja.alloc (.cells #[.string {data:=#[89]},.slice a2 n2 c2] 213)) aL aN):=HE.o.below ((m5 _ _).alloc (m3 _) _);have Fa:=cC Ja [.string {data:=#[89]},.slice a2 n2 c2] 213;have Ha:=dR (4*N) (Ja.alloc (.cells #[.string {data:=#[89]},.slice a2 n2 c2] 213)) Ea.o (H2.o.below Da.o);rw[rounds_succ];(go_wp2_with fail);refine Ha.mono ?_;rintro e Ka ⟨La,Na⟩;generalize(Ja.alloc (.cells #[.string {data:=#[89]},.slice a2 n2 c2] 213))=wv at *;subst Na;generalize Ja.heap.size=vb at Fa ⊢;clear x0 x1 HA Ca HB HE Ha;have HA:=Hd Ga.o;have Ca:=Hd Ia.o;have HB:=Hd Da.o;have HE:=Hd Ea.o;have y0:=Fa.c 0;clear Ga Ia Da Ea Fa
 rcases La with⟨hlen,rfl⟩ | ⟨hlen,hal,rfl⟩ | ⟨hlen,hal,i,rfl⟩
 ·
  have Oa:=Hd hlen;clear hlen;have Pa:=fun W=>aP (P:=prog) W 293 (.pointer (some aL)) underlying73;unfold uD;(go_wp2_with fail);refine(bJ _ aL _ HE.o).mono ?_;rintro e w9 ⟨rfl,Aa⟩;have Ba:=HB.t Aa;clear Aa;go_wp2;go_ret;exact⟨.inr (.inl ⟨⟨_,_,rfl⟩,nH (by rw[L2.o];exact Oa.o)⟩),Ba.o⟩
 rotate_left
 ·
  have Qa:=Hd hal;clear hlen hal;have Pa:=fun W=>aP (P:=prog) W 167 (.agg #[.string ByteArray.empty,it i,.iface 293 (.pointer (some aN))]) underlying73;unfold iB;(go_wp2_with fail);refine(dK _ ByteArray.empty i aN _ HE.o).mono ?_;rintro e w9 ⟨rfl,Aa⟩;have Ba:=HB.t Aa;clear Aa;go_wp2;go_ret;exact⟨.inr (.inr ⟨⟨_,_,rfl⟩,fun kk=>pD Qa.o kk⟩),Ba.o⟩
 have Jb:=Hd hlen;have Kb:=Hd hal;clear hlen hal y0;go_wp2;have x0:=Ca.c 4;have x1:=Ca.c 5;have Ga:H9 (au (Ka.alloc (.cells #[.string {data:=#[81,88]},.slice a3 n3 c3] 213)) w.heap.size (bi s1 s2 e1 e2 a1 n1 c1 a2 n2 c2 a3 n3 c3 a4 n4 c4)):=HA.o.alloc _;have Ia:H9 (au (Ka.alloc (.cells #[.string {data:=#[81,88]},.slice a3 n3 c3] 213)) g [.string {data:=#[88]},.slice a1 n1 c1,.string {data:=#[89]},.slice a2 n2 c2,.string {data:=#[81,88]},.slice a3 n3 c3,.string {data:=#[81,89]},.slice a4 n4 c4]):=Ca.o.alloc _;have Da:H9 (m1 w (Ka.alloc (.cells #[.string {data:=#[81,88]},.slice a3 n3 c3] 213))):=HB.o.alloc HB.o.size _;have Ea:H9 (Env (Ka.alloc (.cells #[.string {data:=#[81,88]},.slice a3 n3 c3] 213)) aL aN):=HE.o.below ((m5 _ _).alloc (m3 _) _);have Fa:=cC Ka [.string {data:=#[81,88]},.slice a3 n3 c3] 213;have Ha:=dR (4*N) (Ka.alloc (.cells #[.string {data:=#[81,88]},.slice a3 n3 c3] 213)) Ea.o (H3.o.below Da.o);rw[rounds_succ];(go_wp2_with fail);refine Ha.mono ?_;rintro e Ra ⟨La,Na⟩;generalize(Ka.alloc (.cells #[.string {data:=#[81,88]},.slice a3 n3 c3] 213))=wv at *;subst Na;generalize Ka.heap.size=vb at Fa ⊢;clear x0 x1 HA Ca HB HE Ha;have HA:=Hd Ga.o;have Ca:=Hd Ia.o;have HB:=Hd Da.o;have HE:=Hd Ea.o;have y0:=Fa.c 0;clear Ga Ia Da Ea Fa
 rcases La with⟨hlen,rfl⟩ | ⟨hlen,hal,rfl⟩ | ⟨hlen,hal,i,rfl⟩
 ·
  have Oa:=Hd hlen;clear hlen;have Pa:=fun W=>aP (P:=prog) W 293 (.pointer (some aL)) underlying73;unfold uD;(go_wp2_with fail);refine(bJ _ aL _ HE.o).mono ?_;rintro e w9 ⟨rfl,Aa⟩;have Ba:=HB.t Aa;clear Aa;go_wp2;go_ret;exact⟨.inr (.inl ⟨⟨_,_,rfl⟩,nI (by rw[L3.o];exact Oa.o)⟩),Ba.o⟩
 rotate_left
 ·
  have Qa:=Hd hal;clear hlen hal;have Pa:=fun W=>aP (P:=prog) W 167 (.agg #[.string ByteArray.empty,it i,.iface 293 (.pointer (some aN))]) underlying73;unfold iB;(go_wp2_with fail);refine(dK _ ByteArray.empty i aN _ HE.o).mono ?_;rintro e w9 ⟨rfl,Aa⟩;have Ba:=HB.t Aa;clear Aa;go_wp2;go_ret;exact⟨.inr (.inr ⟨⟨_,_,rfl⟩,fun kk=>pE Qa.o kk⟩),Ba.o⟩
 have Lb:=Hd hlen;have Nb:=Hd hal;clear hlen hal y0;go_wp2;have x0:=Ca.c 6;have x1:=Ca.c 7;have Ga:H9 (au (Ra.alloc (.cells #[.string {data:=#[81,89]},.slice a4 n4 c4] 213)) w.heap.size (bi s1 s2 e1 e2 a1 n1 c1 a2 n2 c2 a3 n3 c3 a4 n4 c4)):=HA.o.alloc _;have Da:H9 (m1 w (Ra.alloc (.cells #[.string {data:=#[81,89]},.slice a4 n4 c4] 213))):=HB.o.alloc HB.o.size _;have Ea:H9 (Env (Ra.alloc (.cells #[.string {data:=#[81,89]},.slice a4 n4 c4] 213)) aL aN):=HE.o.below ((m5 _ _).alloc (m3 _) _);have Fa:=cC Ra [.string {data:=#[81,89]},.slice a4 n4 c4] 213;have Ha:=dR (4*N) (Ra.alloc (.cells #[.string {data:=#[81,89]},.slice a4 n4 c4] 213)) Ea.o (H4.o.below Da.o);rw[rounds_succ];(go_wp2_with fail);refine Ha.mono ?_;rintro e Rb ⟨La,Na⟩;generalize(Ra.alloc (.cells #[.string {data:=#[81,89]},.slice a4 n4 c4] 213))=wv at *;subst Na;generalize Ra.heap.size=vb at Fa ⊢;clear x0 x1 HA Ca HB HE Ha;have HA:=Hd Ga.o;have HB:=Hd Da.o;have HE:=Hd Ea.o;have y0:=Fa.c 0;clear Ga Da Ea Fa
 rcases La with⟨hlen,rfl⟩ | ⟨hlen,hal,rfl⟩ | ⟨hlen,hal,i,rfl⟩
 ·
  have Oa:=Hd hlen;clear hlen;have Pa:=fun W=>aP (P:=prog) W 293 (.pointer (some aL)) underlying73;unfold uD;(go_wp2_with fail);refine(bJ _ aL _ HE.o).mono ?_;rintro e w9 ⟨rfl,Aa⟩;have Ba:=HB.t Aa;clear Aa;go_wp2;go_ret;exact⟨.inr (.inl ⟨⟨_,_,rfl⟩,nJ (by rw[L4.o];exact Oa.o)⟩),Ba.o⟩
 rotate_left
 ·
  have Qa:=Hd hal;clear hlen hal;have Pa:=fun W=>aP (P:=prog) W 167 (.agg #[.string ByteArray.empty,it i,.iface 293 (.pointer (some aN))]) underlying73;unfold iB;(go_wp2_with fail);refine(dK _ ByteArray.empty i aN _ HE.o).mono ?_;rintro e w9 ⟨rfl,Aa⟩;have Ba:=HB.t Aa;clear Aa;go_wp2;go_ret;exact⟨.inr (.inr ⟨⟨_,_,rfl⟩,fun kk=>pF Qa.o kk⟩),Ba.o⟩
 have Ob:=Hd hlen;have Pb:=Hd hal;clear hlen hal y0;go_wp2;rw[rounds_succ];have s0:=HA.c 0;have s1':=HA.c 1;(go_wp2_with fail);refine(C1 _).mono ?_;rintro e w5 ⟨rfl,Va⟩;have Ya:=HA.b Va;have Sa:=HB.t Va;have Wa:=Hd (HE.o.below Va);clear Va s0 s1' HA HB HE
 cases o1 with
 | false=>
  have gN:=Wa.o.cN;(go_wp2_with fail);refine(bJ _ aN _ Wa.o).mono ?_;rintro e w9 ⟨rfl,Aa⟩;have Ba:=Sa.t Aa;clear Aa;go_wp2;go_ret;exact⟨.inr (.inr ⟨⟨_,_,rfl⟩,Bb.o (by simp)⟩),Ba.o⟩
 | true=>
  have s0:=Ya.c 2;have s1':=Ya.c 3;(go_wp2_with fail);refine(C2 _).mono ?_;rintro e w6 ⟨rfl,Za⟩;have Ab:=Sa.t Za;have Gb:=Hd (Wa.o.below Za);clear Za s0 s1' Ya Sa Wa
  cases o2 with
  | false=>
   have gN:=Gb.o.cN;(go_wp2_with fail);refine(bJ _ aN _ Gb.o).mono ?_;rintro e w9 ⟨rfl,Aa⟩;have Ba:=Ab.t Aa;clear Aa;go_wp2;go_ret;exact⟨.inr (.inr ⟨⟨_,_,rfl⟩,Cb.o (by simp)⟩),Ba.o⟩
  | true=>
   go_wp2;go_ret;exact⟨.inl ⟨rfl,Xa.o (by simp) (by simp) (eO (by rw[L1.o];exact Hb.o) Ib.o) (eO (by rw[L2.o];exact Jb.o) Kb.o) (eO (by rw[L3.o];exact Lb.o) Nb.o) (eO (by rw[L4.o];exact Ob.o) Pb.o)⟩,Ab.o⟩
open Go.Extern.Stop Go.Stop Go.Extern
theorem tH(h:p.form 2=true):p.rows=2:=M.rows_of rfl h
theorem tI(h:p.form 4=true):p.rows=4:=M.rows_of rfl h
theorem tJ(h:p.form 8=true):p.rows=8:=M.rows_of rfl h
theorem sN(h:p.form 16=true):p.rows=16:=M.rows_of rfl h
theorem tF(h2:p.form 2=false)(h4:p.form 4=false)(h8:p.form 8=false)(h16:p.form 16=false):p.rows=0:=by
 unfold M.Pf.rows;rw[h2,h4,h8,h16];simp
def sT(p:M.Pf)(e:Ending):Prop:=(p.rows≠0∧e=.returned (.tuple #[.int .i64 (p.rows:Nat),.nilIface]))∨(p.rows=0∧∃s q a,e=.returned (.tuple #[.int .i64 0,iB s q a]))
theorem ku(s1 s2 e1 e2:Int)(w:World)(he:Env w aL aN)(h1:aw w a1 n1 c1 z1)(h2:aw w a2 n2 c2 z2)(h3:aw w a3 n3 c3 z3)(h4:aw w a4 n4 c4 z4):
  Calls prog 58 #[.agg #[.int .i64 s1,.int .i64 s2,.int .i64 e1,.int .i64 e2,.slice a1 n1 c1,.slice a2 n2 c2,.slice a3 n3 c3,.slice a4 n4 c4]] w fun e w'=>sT (⟨(s1,s2),(e1,e2),z1,z2,z3,z4⟩:M.Pf) e∧m1 w w':=by
 generalize Ab:(⟨(s1,s2),(e1,e2),z1,z2,z3,z4⟩:M.Pf)=P;have Va:=Hd Ab;have Bb:H9 (P.form 2=true→P.rows=2):=tH;have Cb:H9 (P.form 4=true→P.form 2=false→P.rows=4):=fun h _=>tI h;have Db:H9 (P.form 8=true→P.form 2=false→P.form 4=false→P.rows=8):=fun h _ _=>tJ h;have Eb:H9 (P.form 16=true→P.form 2=false→P.form 4=false→P.form 8=false→P.rows=16):=fun h _ _ _=>sN h;have Qa:H9 (P.form 2=false→P.form 4=false→P.form 8=false→P.form 16=false→P.rows=0):=tF;have H1:=Hd h1;have H2:=Hd h2;have H3:=Hd h3;have H4:=Hd h4;have Fb:=cC w (bi s1 s2 e1 e2 a1 n1 c1 a2 n2 c2 a3 n3 c3 a4 n4 c4) 35;have Fa:H9 (m1 w (w.alloc (.cells (bi s1 s2 e1 e2 a1 n1 c1 a2 n2 c2 a3 n3 c3 a4 n4 c4).toArray 35))):=(m5 _ _).alloc (m3 _) _;have Xa:=Hd (he.below Fa.o);have Da:=dP (a1:=a1) (a2:=a2) (a3:=a3) (a4:=a4) (n1:=n1) (n2:=n2) (n3:=n3) (n4:=n4) (c1:=c1) (c2:=c2) (c3:=c3) (c4:=c4) s1 s2 e1 e2 2 (w.alloc (.cells (bi s1 s2 e1 e2 a1 n1 c1 a2 n2 c2 a3 n3 c3 a4 n4 c4).toArray 35)) (by decide) Xa.o (h1.below Fa.o) (h2.below Fa.o) (h3.below Fa.o) (h4.below Fa.o);clear he h1 h2 h3 h4 Ab;go_enter func58,ntmps58;(go_wp2_with fail);refine Da.mono ?_;rintro e w2 ⟨hp,hb⟩;have Gb:=Fb.b hb;have Na:=Fa.t hb;have Ga:=Hd (Xa.o.below hb);clear hb Da Fb Fa Xa;rw[Va.o]at hp
 rcases hp with⟨rfl,hf⟩ | ⟨⟨ps,pq,rfl⟩,hf⟩ | ⟨⟨ps,pq,rfl⟩,hf⟩
 ·
  have HF:=Hd hf;clear hf;have gL:=Ga.o.cL;go_wp2;refine wp_loop_rounds 4 ?_;rw[rounds_succ];(go_wp2_with fail);refine(qH aL _).mono ?_;rintro e wx ⟨rfl,Ra⟩;subst Ra;go_wp2
  go_ret2
  exact⟨.inl ⟨by rw[Bb.o HF.o];decide,by rw[Bb.o HF.o];rfl⟩,Na.o⟩
 ·
  have La:=Hd hf;clear hf;have gL:=Ga.o.cL;unfold iB;go_wp2;refine wp_loop_rounds 4 ?_;rw[rounds_succ];(go_wp2_with fail);refine(ge ps pq aL _).mono ?_;rintro e Jb ⟨rfl,Ca⟩;have Aa:=Gb.b Ca;have Ba:=Na.t Ca;have Ea:=Hd (Ga.o.below Ca);have x0:=Aa.c 0;have x1:=Aa.c 1;have x2:=Aa.c 2;have x3:=Aa.c 3;have x4:=Aa.c 4;have x5:=Aa.c 5;have x6:=Aa.c 6;have x7:=Aa.c 7;have Da:=dP (a1:=a1) (a2:=a2) (a3:=a3) (a4:=a4) (n1:=n1) (n2:=n2) (n3:=n3) (n4:=n4) (c1:=c1) (c2:=c2) (c3:=c3) (c4:=c4) s1 s2 e1 e2 4 Jb (by decide) Ea.o (H1.o.below Ba.o) (H2.o.below Ba.o) (H3.o.below Ba.o) (H4.o.below Ba.o);clear Ca gL Gb Na Ga;(go_wp2_with fail);refine Da.mono ?_;rintro e w4 ⟨hp,hb⟩;have Hb:=Aa.b hb;have Oa:=Ba.t hb;have Ha:=Hd (Ea.o.below hb);clear hb Da Aa Ba Ea x0 x1 x2 x3 x4 x5 x6 x7;rw[Va.o]at hp
  rcases hp with⟨rfl,hf⟩ | ⟨⟨ps,pq,rfl⟩,hf⟩ | ⟨⟨ps,pq,rfl⟩,hf⟩
  ·
   have HF:=Hd hf;clear hf;have gL:=Ha.o.cL;go_wp2;rw[rounds_succ];(go_wp2_with fail);refine(qH aL _).mono ?_;rintro e wx ⟨rfl,Ra⟩;subst Ra;go_wp2
   go_ret2
   exact⟨.inl ⟨by rw[Cb.o HF.o La.o];decide,by rw[Cb.o HF.o La.o];rfl⟩,Oa.o⟩
  ·
   have Sa:=Hd hf;clear hf;have gL:=Ha.o.cL;unfold iB;go_wp2;rw[rounds_succ];(go_wp2_with fail);refine(ge ps pq aL _).mono ?_;rintro e Kb ⟨rfl,Ca⟩;have Aa:=Hb.b Ca;have Ba:=Oa.t Ca;have Ea:=Hd (Ha.o.below Ca);have x0:=Aa.c 0;have x1:=Aa.c 1;have x2:=Aa.c 2;have x3:=Aa.c 3;have x4:=Aa.c 4;have x5:=Aa.c 5;have x6:=Aa.c 6;have x7:=Aa.c 7;have Da:=dP (a1:=a1) (a2:=a2) (a3:=a3) (a4:=a4) (n1:=n1) (n2:=n2) (n3:=n3) (n4:=n4) (c1:=c1) (c2:=c2) (c3:=c3) (c4:=c4) s1 s2 e1 e2 8 Kb (by decide) Ea.o (H1.o.below Ba.o) (H2.o.below Ba.o) (H3.o.below Ba.o) (H4.o.below Ba.o);clear Ca gL Hb Oa Ha;(go_wp2_with fail);refine Da.mono ?_;rintro e w8 ⟨hp,hb⟩;have Ib:=Aa.b hb;have Pa:=Ba.t hb;have Ia:=Hd (Ea.o.below hb);clear hb Da Aa Ba Ea x0 x1 x2 x3 x4 x5 x6 x7;rw[Va.o]at hp
   rcases hp with⟨rfl,hf⟩ | ⟨⟨ps,pq,rfl⟩,hf⟩ | ⟨⟨ps,pq,rfl⟩,hf⟩
   ·
    have HF:=Hd hf;clear hf;have gL:=Ia.o.cL;go_wp2;rw[rounds_succ];(go_wp2_with fail);refine(qH aL _).mono ?_;rintro e wx ⟨rfl,Ra⟩;subst Ra;go_wp2
    go_ret2
    exact⟨.inl ⟨by rw[Db.o HF.o La.o Sa.o];decide,by rw[Db.o HF.o La.o Sa.o];rfl⟩,Pa.o⟩
   ·
    have Ya:=Hd hf;clear hf;have gL:=Ia.o.cL;unfold iB;go_wp2;rw[rounds_succ];(go_wp2_with fail);refine(ge ps pq aL _).mono ?_;rintro e Lb ⟨rfl,Ca⟩;have Aa:=Ib.b Ca;have Ba:=Pa.t Ca;have Ea:=Hd (Ia.o.below Ca);have x0:=Aa.c 0;have x1:=Aa.c 1;have x2:=Aa.c 2;have x3:=Aa.c 3;have x4:=Aa.c 4;have x5:=Aa.c 5;have x6:=Aa.c 6;have x7:=Aa.c 7;have Da:=dP (a1:=a1) (a2:=a2) (a3:=a3) (a4:=a4) (n1:=n1) (n2:=n2) (n3:=n3) (n4:=n4) (c1:=c1) (c2:=c2) (c3:=c3) (c4:=c4) s1 s2 e1 e2 16 Lb (by decide) Ea.o (H1.o.below Ba.o) (H2.o.below Ba.o) (H3.o.below Ba.o) (H4.o.below Ba.o);clear Ca gL Ib Pa Ia;(go_wp2_with fail);refine Da.mono ?_;rintro e Ob ⟨hp,hb⟩;have Za:=Ba.t hb;clear hb Da Aa Ba Ea x0 x1 x2 x3 x4 x5 x6 x7;rw[Va.o]at hp
    rcases hp with⟨rfl,hf⟩ | ⟨⟨ps,pq,rfl⟩,hf⟩ | ⟨⟨ps,pq,rfl⟩,hf⟩
    ·
     have HF:=Hd hf;clear hf;go_wp2;rw[rounds_succ];go_wp2
     go_ret2
     exact⟨.inl ⟨by rw[Eb.o HF.o La.o Sa.o Ya.o];decide,by rw[Eb.o HF.o La.o Sa.o Ya.o];rfl⟩,Za.o⟩
    ·
     have Nb:=Hd hf;clear hf;have Wa:=fun W=>aP (P:=prog) W 167 (.agg #[.string ps,it pq,.iface 293 (.pointer (some aL))]) underlying73;unfold iB;go_wp2;rw[rounds_succ];go_wp2
     go_ret2
     exact⟨.inr ⟨Qa.o La.o Sa.o Ya.o Nb.o,_,_,_,rfl⟩,Za.o⟩
    ·
     have HF:=Hd hf;clear hf;have Wa:=fun W=>aP (P:=prog) W 167 (.agg #[.string ps,it pq,.iface 293 (.pointer (some aN))]) underlying73;unfold iB;go_wp2;rw[rounds_succ];go_wp2
     go_ret2
     exact⟨.inr ⟨Qa.o (HF.o 2) (HF.o 4) (HF.o 8) (HF.o 16),_,_,_,rfl⟩,Za.o⟩
   ·
    have HF:=Hd hf;clear hf;have Wa:=fun W=>aP (P:=prog) W 167 (.agg #[.string ps,it pq,.iface 293 (.pointer (some aN))]) underlying73;have gL:=Ia.o.cL;obtain⟨ca,ta,Ja⟩:=Ia.o.hN;obtain⟨cb,tb,Ka⟩:=Ia.o.hL;have Ta:=Hd Ja;have Ua:=Hd Ka;clear Ja Ka;unfold iB;go_wp2;rw[rounds_succ];(go_wp2_with fail);refine(fI ps pq aN aL ca cb ta tb _ Ia.o.ne Ta.o Ua.o).mono ?_;rintro e wx ⟨rfl,Ca⟩;have Ba:=Pa.t Ca;clear Ca;go_wp2
    go_ret2
    exact⟨.inr ⟨Qa.o (HF.o 2) (HF.o 4) (HF.o 8) (HF.o 16),_,_,_,rfl⟩,Ba.o⟩
  ·
   have HF:=Hd hf;clear hf;have Wa:=fun W=>aP (P:=prog) W 167 (.agg #[.string ps,it pq,.iface 293 (.pointer (some aN))]) underlying73;have gL:=Ha.o.cL;obtain⟨ca,ta,Ja⟩:=Ha.o.hN;obtain⟨cb,tb,Ka⟩:=Ha.o.hL;have Ta:=Hd Ja;have Ua:=Hd Ka;clear Ja Ka;unfold iB;go_wp2;rw[rounds_succ];(go_wp2_with fail);refine(fI ps pq aN aL ca cb ta tb _ Ha.o.ne Ta.o Ua.o).mono ?_;rintro e wx ⟨rfl,Ca⟩;have Ba:=Oa.t Ca;clear Ca;go_wp2
   go_ret2
   exact⟨.inr ⟨Qa.o (HF.o 2) (HF.o 4) (HF.o 8) (HF.o 16),_,_,_,rfl⟩,Ba.o⟩
 ·
  have HF:=Hd hf;clear hf;have Wa:=fun W=>aP (P:=prog) W 167 (.agg #[.string ps,it pq,.iface 293 (.pointer (some aN))]) underlying73;have gL:=Ga.o.cL;obtain⟨ca,ta,Ja⟩:=Ga.o.hN;obtain⟨cb,tb,Ka⟩:=Ga.o.hL;have Ta:=Hd Ja;have Ua:=Hd Ka;clear Ja Ka;unfold iB;go_wp2;refine wp_loop_rounds 4 ?_;rw[rounds_succ];(go_wp2_with fail);refine(fI ps pq aN aL ca cb ta tb _ Ga.o.ne Ta.o Ua.o).mono ?_;rintro e wx ⟨rfl,Ca⟩;have Ba:=Na.t Ca;clear Ca;go_wp2
  go_ret2
  exact⟨.inr ⟨Qa.o (HF.o 2) (HF.o 4) (HF.o 8) (HF.o 16),_,_,_,rfl⟩,Ba.o⟩
theorem kf(s1 s2 e1 e2:Int)(w:World)(he:Env w aL aN)(h1:aw w a1 n1 c1 z1)(h2:aw w a2 n2 c2 z2)(h3:aw w a3 n3 c3 z3)(h4:aw w a4 n4 c4 z4):
  Rt 134 #[.agg #[.int .i64 s1,.int .i64 s2,.int .i64 e1,.int .i64 e2,.slice a1 n1 c1,.slice a2 n2 c2,.slice a3 n3 c3,.slice a4 n4 c4]] w (.int .i64 (M.Pf.rows (⟨(s1,s2),(e1,e2),z1,z2,z3,z4⟩:M.Pf):Nat)):=by
 have Aa:H9 (m1 w (w.alloc (.cells (bi s1 s2 e1 e2 a1 n1 c1 a2 n2 c2 a3 n3 c3 a4 n4 c4).toArray 35))):=(m5 _ _).alloc (m3 _) _;have Ba:=ku (a1:=a1) (a2:=a2) (a3:=a3) (a4:=a4) (n1:=n1) (n2:=n2) (n3:=n3) (n4:=n4) (c1:=c1) (c2:=c2) (c3:=c3) (c4:=c4) s1 s2 e1 e2 (w.alloc (.cells (bi s1 s2 e1 e2 a1 n1 c1 a2 n2 c2 a3 n3 c3 a4 n4 c4).toArray 35)) (he.below Aa.o) (h1.below Aa.o) (h2.below Aa.o) (h3.below Aa.o) (h4.below Aa.o);generalize(⟨(s1,s2),(e1,e2),z1,z2,z3,z4⟩:M.Pf)=P at *;clear he h1 h2 h3 h4;go_enter func134,ntmps134;(go_wp2_with fail);refine Ba.mono ?_;rintro e w2 ⟨hp,hb⟩;have Ca:=Aa.t hb;clear hb Ba Aa
 rcases hp with⟨hr,rfl⟩ | ⟨hr,ps,pq,pa,rfl⟩
 ·
  clear hr;go_wp2;go_ret;exact⟨rfl,Ca.o⟩
 ·
  have Da:=fun W=>aP (P:=prog) W 167 (.agg #[.string ps,it pq,.iface 293 (.pointer (some pa))]) underlying73;have HR:=Hd hr;clear hr;unfold iB;go_wp2;go_ret;exact⟨by rw[HR.o];rfl,Ca.o⟩
end
end Go.Proofs.YtobnifjhikoleaaGreatDoor
