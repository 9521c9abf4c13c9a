import Derived.Test.YtbjalickbnpnkaaGreatDoorChecked
import Derived.Stop.Asserts
import Derived.Test.YtbjalickbnpnkaaGreatDoorPk05
import Derived.Test.YtbjalickbnpnkaaGreatDoorPk04
namespace Go.Proofs.YtbjalickbnpnkaaGreatDoor
open Go.RowKit Go.Proofs.Tryz
set_option linter.unusedSimpArgs false
set_option maxHeartbeats 32000000
set_option maxRecDepth 10000
variable {w:World}{aL aN:Addr}{zs l z1 z2 z3 z4:List Int}{n n1 n2 n3 n4 c1 c2 c3 c4:Nat}{s e:Int×Int}{a1 a2 a3 a4:Option Addr}{p:M.Pf}
section
open Go.Extern.Stop Go.Stop Go.Extern
theorem Tryz.isTypeOf(v:Value)(w:World):(Extern.ReflectliteType.typeOf #[.iface 309 v]).run prog w=.ok (.iface 262 (.agg #[.pointer (some ⟨6,309,none⟩)])) w:=by kernel_rfl
theorem Tryz.callComparable(w:World):(callFunc 255 #[.agg #[.pointer (some ⟨6,309,none⟩)]]).run prog w=.ok (.value (.bool true)) w:=by kernel_rfl
theorem Tryz.isMethodComparable(py:Nat)(v:Value)(w:World):(Go.method (py+1) 262 v "Comparable").run prog w=.ok (255,v) w:=by kernel_rfl
theorem Tryz.isComp:(prog.info? 309).map (·.comparable)=some true:=by kernel_rfl
theorem Tryz.isSize:(prog.info? 331).map (·.size)=some 1:=by kernel_rfl
theorem Tryz.noIsE(v:Value)(xT:TypeId)(w:World):(Instr.typeAssert (.iface 309 v) xT 276 true).run prog w=.ok (.tuple #[.nilIface,.bool false]) w:=run_typeAssert_lacksB underlying276 (by kernel_rfl) (by kernel_rfl) v xT w
theorem Tryz.noUnwrapE(v:Value)(xT:TypeId)(w:World):(Instr.typeAssert (.iface 309 v) xT 269 true).run prog w=.ok (.tuple #[.nilIface,.bool false]) w:=run_typeAssert_lacksB underlying269 (by kernel_rfl) (by kernel_rfl) v xT w
theorem Tryz.noUnwrapsE(v:Value)(xT:TypeId)(w:World):(Instr.typeAssert (.iface 309 v) xT 271 true).run prog w=.ok (.tuple #[.nilIface,.bool false]) w:=run_typeAssert_lacksB underlying271 (by kernel_rfl) (by kernel_rfl) v xT w
theorem Tryz.noIsR(v:Value)(xT:TypeId)(w:World):(Instr.typeAssert (.iface 196 v) xT 276 true).run prog w=.ok (.tuple #[.nilIface,.bool false]) w:=run_typeAssert_lacksB underlying276 (by kernel_rfl) (by kernel_rfl) v xT w
theorem Tryz.hasUnwrapR(v:Value)(xT:TypeId)(w:World):(Instr.typeAssert (.iface 196 v) xT 269 true).run prog w=.ok (.tuple #[.iface 196 v,.bool true]) w:=run_typeAssert_hasB underlying269 (by kernel_rfl) v xT w
theorem Tryz.methodUnwrap(py:Nat)(a b c:Value)(w:World):(Go.method (py+1) 196 (.agg #[a,b,c]) "Unwrap").run prog w=.ok (249,.agg #[a,b,c]) w:=by kernel_rfl
theorem se(b:Addr)(w:World):
  Rq 124 #[.nilIface,.iface 309 (.pointer (some b))] w (.bool false):=by
 have hn:=run_eql_iface_nil_left (P:=prog) w 309 (.pointer (some b)) underlying92;go_enter func124,ntmps124;go_wp2;go_ret;exact⟨rfl,rfl⟩
theorem gY(s:ByteArray)(p:Int)(b:Addr)(w:World):
  Rt 124 #[.iface 196 (.agg #[.string s,it p,.iface 309 (.pointer (some b))]),.iface 309 (.pointer (some b))] w (.bool true):=by
 obtain⟨i,hi,Aa⟩:=Option.map_eq_some_iff.1 Tryz.isComp;obtain⟨j,hj,Ba⟩:=Option.map_eq_some_iff.1 Tryz.isSize;have h8:=@run_callFunc_extern prog 166 _ Extern.ReflectliteType.typeOf func166 (by kernel_rfl) (by kernel_rfl) (by kernel_rfl) (by kernel_rfl);have Ca:=Tryz.callComparable;have tT:=Tryz.isTypeOf;have mR:=Tryz.isMethodComparable;have nR:=Tryz.noIsR;have uR:=Tryz.hasUnwrapR;have mU:=Tryz.methodUnwrap;have Da:=λW=>run_eql_iface_ptr_same (P:=prog) W b underlying92 underlying309 hi Aa hj;have Ea:=λW=>run_eql_iface_types (P:=prog) 196 309 (.agg #[.string s,it p,.iface 309 (.pointer (some b))]) (.pointer (some b)) underlying92 (by decide) W;have HB:H7 (m1 w (w.alloc (.cells #[.string s,it p,.iface 309 (.pointer (some b))] 196))):=(m8 _ _).alloc (m3 _) _;go_enter func124,ntmps124;go_wp2;refine wp_loop_rounds 2 ?_;rw[rounds_succ];go_wp2;rw[rounds_succ];go_wp2;go_ret;exact⟨rfl,HB.o⟩
theorem gu(s:ByteArray)(p:Int)(a b:Addr)(ca cb:Array Value)(ta tb:TypeId)(w:World)(hne:a≠b)(ha:w.heap[a.block]?=some (.cells ca ta (0,0)))(hb:w.heap[b.block]?=some (.cells cb tb (0,0))):
  Rt 124 #[.iface 196 (.agg #[.string s,it p,.iface 309 (.pointer (some a))]),.iface 309 (.pointer (some b))] w (.bool false):=by
 obtain⟨i,hi,Aa⟩:=Option.map_eq_some_iff.1 Tryz.isComp;obtain⟨j,hj,Ba⟩:=Option.map_eq_some_iff.1 Tryz.isSize;have h8:=@run_callFunc_extern prog 166 _ Extern.ReflectliteType.typeOf func166 (by kernel_rfl) (by kernel_rfl) (by kernel_rfl) (by kernel_rfl);have Ca:=Tryz.callComparable;have tT:=Tryz.isTypeOf;have mR:=Tryz.isMethodComparable;have nR:=Tryz.noIsR;have uR:=Tryz.hasUnwrapR;have nE:=Tryz.noIsE;have uE:=Tryz.noUnwrapE;have vE:=Tryz.noUnwrapsE;have mU:=Tryz.methodUnwrap;have HB:H7 (m1 w (w.alloc (.cells #[.string s,it p,.iface 309 (.pointer (some a))] 196))):=(m8 _ _).alloc (m3 _) _
 have lt:∀{g:Nat} {o:Obj},w.heap[g]?=some o->g<w.heap.size:=λ{g o} h=>by
  rcases Nat.lt_or_ge g w.heap.size with h' | h'
  .exact h'
  .rw[Array.getElem?_eq_none h']at h;cases h
 have Da:=run_eql_iface_ptr_other (P:=prog) (w.alloc (.cells #[.string s,it p,.iface 309 (.pointer (some a))] 196)) underlying92 underlying309 hi Aa hj (by rw[Ba];decide) hne ((Below.heap_alloc w _ _ (lt ha)).trans ha) ((Below.heap_alloc w _ _ (lt hb)).trans hb);have Ea:=λW=>run_eql_iface_types (P:=prog) 196 309 (.agg #[.string s,it p,.iface 309 (.pointer (some a))]) (.pointer (some b)) underlying92 (by decide) W;clear lt ha hb;go_enter func124,ntmps124;go_wp2;refine wp_loop_rounds 2 ?_;rw[rounds_succ];go_wp2;rw[rounds_succ];go_wp2;go_ret;exact⟨rfl,HB.o⟩
open Go.Extern.Stop Go.Stop Go.Extern
theorem Tryz.asValueOf(t:Addr)(w:World):(callFunc 159 #[.iface 198 (.pointer (some t))]).run prog w=.ok (.value (.agg #[.pointer (some ⟨6,198,none⟩),tG w.heap.size,.int .u64 150])) (w.alloc (.cells #[.pointer (some t)] 198)):=by kernel_rfl
theorem Tryz.asType(a:Addr)(w:World):(callFunc 160 #[.agg #[.pointer (some ⟨6,198,none⟩),.pointer (some a),.int .u64 150]]).run prog w=.ok (.value (.iface 262 (.agg #[.pointer (some ⟨6,198,none⟩)]))) w:=by kernel_rfl
theorem Tryz.asMKind(py:Nat)(h:Value)(w:World):(Go.method (py+1) 262 (.agg #[h]) "Kind").run prog w=.ok (237,h) w:=by kernel_rfl
theorem Tryz.asKindP(w:World):(callFunc 237 #[.pointer (some ⟨6,198,none⟩)]).run prog w=.ok (.value (.int .u8 22)) w:=by kernel_rfl
theorem Tryz.asKindR(w:World):(callFunc 237 #[.pointer (some ⟨6,196,none⟩)]).run prog w=.ok (.value (.int .u8 25)) w:=by kernel_rfl
theorem Tryz.asMElem(py:Nat)(h:Value)(w:World):(Go.method (py+1) 262 (.agg #[h]) "Elem").run prog w=.ok (256,.agg #[h]) w:=by kernel_rfl
theorem Tryz.asElem(w:World):(callFunc 256 #[.agg #[.pointer (some ⟨6,198,none⟩)]]).run prog w=.ok (.value (.iface 262 (.agg #[.pointer (some ⟨6,196,none⟩)]))) w:=by kernel_rfl
theorem Tryz.asMImpl(py:Nat)(h:Value)(w:World):(Go.method (py+1) 262 (.agg #[h]) "Implements").run prog w=.ok (257,.agg #[h]) w:=by kernel_rfl
theorem Tryz.asImpl(w:World):(callFunc 257 #[.agg #[.pointer (some ⟨6,196,none⟩)],.iface 262 (.agg #[.pointer (some ⟨6,92,none⟩)])]).run prog w=.ok (.value (.bool true)) w:=by kernel_rfl
theorem Tryz.asTypeOfR(v:Value)(w:World):(callFunc 166 #[.iface 196 v]).run prog w=.ok (.value (.iface 262 (.agg #[.pointer (some ⟨6,196,none⟩)]))) w:=by kernel_rfl
theorem Tryz.asTypeOfE(v:Value)(w:World):(callFunc 166 #[.iface 309 v]).run prog w=.ok (.value (.iface 262 (.agg #[.pointer (some ⟨6,309,none⟩)]))) w:=by kernel_rfl
theorem Tryz.asMAsg(py:Nat)(h:Value)(w:World):(Go.method (py+1) 262 (.agg #[h]) "AssignableTo").run prog w=.ok (254,.agg #[h]) w:=by kernel_rfl
theorem Tryz.asAsgR(w:World):(callFunc 254 #[.agg #[.pointer (some ⟨6,196,none⟩)],.iface 262 (.agg #[.pointer (some ⟨6,196,none⟩)])]).run prog w=.ok (.value (.bool true)) w:=by kernel_rfl
theorem Tryz.asAsgE(w:World):(callFunc 254 #[.agg #[.pointer (some ⟨6,309,none⟩)],.iface 262 (.agg #[.pointer (some ⟨6,196,none⟩)])]).run prog w=.ok (.value (.bool false)) w:=by kernel_rfl
theorem Tryz.noAsE(v:Value)(xT:TypeId)(w:World):(Instr.typeAssert (.iface 309 v) xT 266 true).run prog w=.ok (.tuple #[.nilIface,.bool false]) w:=run_typeAssert_lacksB underlying266 (by kernel_rfl) (by kernel_rfl) v xT w
theorem wY(z:Sem Value)(f:TypeId->Addr->Nat->Nat->Sem Value)(v:Value):
  ReflectliteValue.method z f #[v]=(do match <-ReflectliteValue.parts v with | none=>z | some (t,a,fl)=>f t a fl (fl%32)):=rfl
theorem Tryz.asPartsP(a:Addr)(w:World):(ReflectliteValue.parts (.agg #[.pointer (some ⟨6,198,none⟩),.pointer (some a),.int .u64 150])).run prog w=.ok (some (198,a,150)) w:=by kernel_rfl
theorem Tryz.asIsNil(a p:Addr)(W:World)(ha:W.cell? a=some (.pointer (some p))):
  (callFunc 161 #[.agg #[.pointer (some ⟨6,198,none⟩),.pointer (some a),.int .u64 150]]).run prog W=.ok (.value (.bool false)) W:=by
 have h8:=@run_callFunc_extern prog 161 _ (ReflectliteValue.method (ReflectliteValue.valueError "reflectlite.Value.IsNil" 0) ReflectliteValue.isNil) func161 (by kernel_rfl) (by kernel_rfl) (by kernel_rfl) (by kernel_rfl)
 rw[h8,wY];simp only[Sem.run_bind,Tryz.asPartsP,Result.andThen];simp[ReflectliteValue.isNil,loadVar,isAgg,underlying,underlying198,ha,Result.andThen]
theorem Tryz.asElemT(w:World):(Rtype.elem? 198).run prog w=.ok (some 196) w:=by kernel_rfl
theorem Tryz.asMk(p:Addr)(w:World):(ReflectliteValue.mk 196 p ReflectliteValue.flagAddr).run prog w=.ok (.agg #[.pointer (some ⟨6,196,none⟩),.pointer (some p),.int .u64 409]) w:=by kernel_rfl
theorem Tryz.asElemV(a p:Addr)(W:World)(ha:W.cell? a=some (.pointer (some p))):
  (callFunc 194 #[.agg #[.pointer (some ⟨6,198,none⟩),.pointer (some a),.int .u64 150]]).run prog W=.ok (.value (.agg #[.pointer (some ⟨6,196,none⟩),.pointer (some p),.int .u64 409])) W:=by
 have h8:=@run_callFunc_extern prog 194 _ (ReflectliteValue.method (ReflectliteValue.valueError "reflectlite.Value.Elem" 0) ReflectliteValue.elem) func194 (by kernel_rfl) (by kernel_rfl) (by kernel_rfl) (by kernel_rfl)
 rw[h8,wY];simp only[Sem.run_bind,Tryz.asPartsP,Result.andThen];simp[ReflectliteValue.elem,loadVar,isAgg,underlying,underlying198,ha,Result.andThen,Tryz.asElemT,Tryz.asMk]
theorem Tryz.asValueOfR(s:ByteArray)(p:Int)(y:TypeId)(v:Value)(w:World):(callFunc 159 #[.iface 196 (.agg #[.string s,it p,.iface y v])]).run prog w=.ok (.value (.agg #[.pointer (some ⟨6,196,none⟩),tG w.heap.size,.int .u64 153])) (w.alloc (.cells #[.string s,it p,.iface y v] 196)):=by kernel_rfl
theorem Tryz.asPartsA(a:Addr)(w:World):(ReflectliteValue.parts (.agg #[.pointer (some ⟨6,196,none⟩),.pointer (some a),.int .u64 409])).run prog w=.ok (some (196,a,409)) w:=by kernel_rfl
theorem Tryz.asPartsB(a:Addr)(w:World):(ReflectliteValue.parts (.agg #[.pointer (some ⟨6,196,none⟩),.pointer (some a),.int .u64 153])).run prog w=.ok (some (196,a,153)) w:=by kernel_rfl
theorem Tryz.asDirect(w:World):(Rtype.directlyAssignable 196 196).run prog w=.ok true w:=by kernel_rfl
theorem xg(v x:Value):ReflectliteValue.set #[v,x]=(do
  let (some (dst,a,fl),some (src,b,_)):=(<-ReflectliteValue.parts v,<-ReflectliteValue.parts x)
   | unsupported (.noEntry "extern/(internal/reflectlite.Value).Set.zeroValue")
  if fl/ReflectliteValue.flagAddr%2==0 then unsupported (.noEntry "extern/(internal/reflectlite.Value).Set.unaddressable")
  let val <-loadVar src b
  if<-Rtype.directlyAssignable dst src then storeVar dst a val
  else if<-Rtype.implements dst src then
   if(<-Rtype.kind src)==20 then
    match val with
    | .nilIface=>unsupported (.noEntry "extern/reflectlite: a nil value of one interface type handed on as a value of another")
    | _=>storeVar dst a val
   else storeVar dst a (.iface src val)
  else panicString ("reflectlite.Set: value of type " ++(<-Rtype.spelt src)++ " is not assignable to type " ++(<-Rtype.spelt dst))
  pure (.tuple #[])):=rfl
theorem Tryz.asSet(tb b:Nat)(s:ByteArray)(p:Int)(y:TypeId)(v:Value)(olds:List Value)(W:World)(hb:aw W b [.string s,it p,.iface y v])(ht:aw W tb olds)(hl:olds.length=3):
  (callFunc 195 #[.agg #[.pointer (some ⟨6,196,none⟩),tG tb,.int .u64 409],.agg #[.pointer (some ⟨6,196,none⟩),tG b,.int .u64 153]]).run prog W=.ok (.value (.tuple #[])) (W.setCells tb 0 [.string s,it p,.iface y v]):=by
 have h8:=@run_callFunc_extern prog 195 _ ReflectliteValue.set func195 (by kernel_rfl) (by kernel_rfl) (by kernel_rfl) (by kernel_rfl);have Aa:=xH (P:=prog) W b 0 196 [.string s,it p,.iface y v] _ hb.row underlying196 rfl (by kernel_rfl);have Ba:=run_storeVar_mid (P:=prog) W tb 0 196 #[.string s,it p,.iface y v] (ht.there 0 3 (by omega)) (by kernel_rfl) (all_oneCell_toArray (cs:=[.string s,it p,.iface y v]) (λu hu=>by simp at hu;rcases hu with rfl | rfl | rfl <;> rfl));rw[h8,xg];simp only[Sem.run_bind,Tryz.asPartsA,Tryz.asPartsB,Result.andThen];simp only[show((409/ReflectliteValue.flagAddr%2==0)=false) by decide,Bool.false_eq_true,if_false,Sem.run_bind,Aa,Result.andThen,Tryz.asDirect,if_true,Sem.run_pure];rw[Ba]
theorem vw(b t:Addr)(w:World)(hg:w.cell? ⟨2,0,none⟩=some (.iface 262 (.agg #[.pointer (some ⟨6,92,none⟩)]))):
  Rt 122 #[.iface 309 (.pointer (some b)),.iface 198 (.pointer (some t))] w (.bool false):=by
 have hn:=λW=>run_eql_iface_nil_left (P:=prog) W 309 (.pointer (some b)) underlying92;have v1:=Tryz.asValueOf;have v2:=Tryz.asType;have v3:=Tryz.asMKind;have v4:=Tryz.asKindP;have v5:=Tryz.asKindR;have v6:=Tryz.asMElem;have v7:=Tryz.asElem;have v8:=Tryz.asMImpl;have v9:=Tryz.asImpl;have va:=Tryz.asTypeOfE;have vb:=Tryz.asMAsg;have vc:=Tryz.asAsgE;have vd:=Tryz.noAsE;have ve:=Tryz.noUnwrapE;have vf:=Tryz.noUnwrapsE;have vn:=Tryz.asIsNil ⟨w.heap.size,0,none⟩ t ((w.alloc (.cells #[.pointer (some t)] 198)).alloc (.cells #[.pointer (some ⟨6,198,none⟩),tG w.heap.size,.int .u64 150] 222)) (by rw[World.cell?_alloc_lt _ _ ⟨w.heap.size,0,none⟩ (by simp)];exact xu _ _ _ _);have Aa:=xJ w _ hg
 have Ba:((w.alloc (.cells #[.pointer (some t)] 198)).alloc (.cells #[.pointer (some ⟨6,198,none⟩),tG w.heap.size,.int .u64 150] 222)).cell? ⟨2,0,none⟩=some (.iface 262 (.agg #[.pointer (some ⟨6,92,none⟩)])):=by
  rw[World.cell?_alloc_lt _ _ ⟨2,0,none⟩ (by simp;exact Nat.lt_succ_of_lt Aa),World.cell?_alloc_lt _ _ ⟨2,0,none⟩ Aa];exact hg
 have HB:H7 (m1 w (((w.alloc (.cells #[.pointer (some t)] 198)).alloc (.cells #[.pointer (some ⟨6,198,none⟩),tG w.heap.size,.int .u64 150] 222)).alloc (.cells #[.pointer (some ⟨6,198,none⟩),tG w.heap.size,.int .u64 150] 222))):=(((m8 _ _).alloc (m3 _) _).alloc (by simp) _).alloc (by simp;omega) _;clear hg;go_enter func122,ntmps122;go_wp2;refine wp_loop_rounds 1 ?_;rw[rounds_succ];go_wp2;go_ret;exact⟨rfl,HB.o⟩
open Go.Extern.Stop Go.Stop Go.Extern
theorem nT{a:World}{b:Nat}(h:a.grownBy w (some b))(o:Nat)(us:List Value):a.grownBy (w.setCells b o us) (some b):=by
 have hz:∀(us:List Value) (w:World) (o:Nat),w.grownBy (w.setCells b o us) (some b):=by
  intro us
  induction us with
  | nil=>exact λw _=>World.grownBy.refl w _
  | cons u us ih=>
   intro w o;have h1:w.grownBy (w.setCell ⟨b,o,none⟩ u) (some b):=⟨rfl,rfl,rfl,by simp[World.setCell],λk _ hk=>Below.heap_setCell w _ u k (λe=>hk (by rw[e]))⟩;exact h1.trans (ih _ _)
 exact h.trans (hz us w o)
theorem wC(s:ByteArray)(p:Int)(b:Addr)(tb:Nat)(olds:List Value)(w:World)(hg:w.cell? ⟨2,0,none⟩=some (.iface 262 (.agg #[.pointer (some ⟨6,92,none⟩)])))(ht:aw w tb olds)(hl:olds.length=3):
  Calls prog 122 #[.iface 196 (.agg #[.string s,it p,.iface 309 (.pointer (some b))]),.iface 198 (tG tb)] w λe w'=>e=.returned (.bool true)/\aw w' tb [.string s,it p,.iface 309 (.pointer (some b))]/\w.grownBy w' (some tb):=by
 have hn:=λW=>run_eql_iface_nil_left (P:=prog) W 196 (.agg #[.string s,it p,.iface 309 (.pointer (some b))]) underlying92;have v1:=Tryz.asValueOf;have v2:=Tryz.asType;have v3:=Tryz.asMKind;have v4:=Tryz.asKindP;have v5:=Tryz.asKindR;have v6:=Tryz.asMElem;have v7:=Tryz.asElem;have v8:=Tryz.asMImpl;have v9:=Tryz.asImpl;have va:=Tryz.asTypeOfR;have vb:=Tryz.asMAsg;have vc:=Tryz.asAsgR;have vr:=Tryz.asValueOfR;have vn:=Tryz.asIsNil ⟨w.heap.size,0,none⟩ ⟨tb,0,none⟩ ((w.alloc (.cells #[tG tb] 198)).alloc (.cells #[.pointer (some ⟨6,198,none⟩),tG w.heap.size,.int .u64 150] 222)) (by rw[World.cell?_alloc_lt _ _ ⟨w.heap.size,0,none⟩ (by simp)];exact xu _ _ _ _);have vm:=Tryz.asElemV ⟨w.heap.size,0,none⟩ ⟨tb,0,none⟩ (((w.alloc (.cells #[tG tb] 198)).alloc (.cells #[.pointer (some ⟨6,198,none⟩),tG w.heap.size,.int .u64 150] 222)).alloc (.cells #[.pointer (some ⟨6,198,none⟩),tG w.heap.size,.int .u64 150] 222)) (by rw[World.cell?_alloc_lt _ _ ⟨w.heap.size,0,none⟩ (by simp;omega),World.cell?_alloc_lt _ _ ⟨w.heap.size,0,none⟩ (by simp)];exact xu _ _ _ _);have Ba:=xJ w _ hg
 have Ga:((w.alloc (.cells #[tG tb] 198)).alloc (.cells #[.pointer (some ⟨6,198,none⟩),tG w.heap.size,.int .u64 150] 222)).cell? ⟨2,0,none⟩=some (.iface 262 (.agg #[.pointer (some ⟨6,92,none⟩)])):=by
  rw[World.cell?_alloc_lt _ _ ⟨2,0,none⟩ (by simp;exact Nat.lt_succ_of_lt Ba),World.cell?_alloc_lt _ _ ⟨2,0,none⟩ Ba];exact hg
 have Ca:=ud w (.cells #[tG tb] 198) (.cells #[.pointer (some ⟨6,198,none⟩),tG w.heap.size,.int .u64 150] 222) (.cells #[.pointer (some ⟨6,198,none⟩),tG w.heap.size,.int .u64 150] 222) #[.string s,it p,.iface 309 (.pointer (some b))] 196;have Aa:=(((ht.alloc (.cells #[tG tb] 198)).alloc (.cells #[.pointer (some ⟨6,198,none⟩),tG w.heap.size,.int .u64 150] 222)).alloc (.cells #[.pointer (some ⟨6,198,none⟩),tG w.heap.size,.int .u64 150] 222)).alloc (.cells #[.string s,it p,.iface 309 (.pointer (some b))] 196)
 have hG:w.grownBy ((((w.alloc (.cells #[tG tb] 198)).alloc (.cells #[.pointer (some ⟨6,198,none⟩),tG w.heap.size,.int .u64 150] 222)).alloc (.cells #[.pointer (some ⟨6,198,none⟩),tG w.heap.size,.int .u64 150] 222)).alloc (.cells #[.string s,it p,.iface 309 (.pointer (some b))] 196)) (some tb):=
  (((xC w _ _).trans (xC _ _ _)).trans (xC _ _ _)).trans (xC _ _ _)
 have Ea:=Tryz.asSet tb (w.heap.size+1+1+1) s p 309 (.pointer (some b)) olds _ Ca Aa hl
 have Da:H7 (aw (((((w.alloc (.cells #[tG tb] 198)).alloc (.cells #[.pointer (some ⟨6,198,none⟩),tG w.heap.size,.int .u64 150] 222)).alloc (.cells #[.pointer (some ⟨6,198,none⟩),tG w.heap.size,.int .u64 150] 222)).alloc (.cells #[.string s,it p,.iface 309 (.pointer (some b))] 196)).setCells tb 0 [.string s,it p,.iface 309 (.pointer (some b))]) tb [.string s,it p,.iface 309 (.pointer (some b))]):=by
  have:=Aa.setCells [.string s,it p,.iface 309 (.pointer (some b))] 0 (by simp[hl]);rw[tg (by simp[hl])]at this;exact this
 have HG:H7 (w.grownBy (((((w.alloc (.cells #[tG tb] 198)).alloc (.cells #[.pointer (some ⟨6,198,none⟩),tG w.heap.size,.int .u64 150] 222)).alloc (.cells #[.pointer (some ⟨6,198,none⟩),tG w.heap.size,.int .u64 150] 222)).alloc (.cells #[.string s,it p,.iface 309 (.pointer (some b))] 196)).setCells tb 0 [.string s,it p,.iface 309 (.pointer (some b))]) (some tb)):=nT hG 0 _;clear hg Ca Aa hG ht;generalize Fa:((((w.alloc (.cells #[tG tb] 198)).alloc (.cells #[.pointer (some ⟨6,198,none⟩),tG w.heap.size,.int .u64 150] 222)).alloc (.cells #[.pointer (some ⟨6,198,none⟩),tG w.heap.size,.int .u64 150] 222)).alloc (.cells #[.string s,it p,.iface 309 (.pointer (some b))] 196)).setCells tb 0 [.string s,it p,.iface 309 (.pointer (some b))]=wz at Da HG Ea;clear Fa;go_enter func122,ntmps122;go_wp2;refine wp_loop_rounds 1 ?_;rw[rounds_succ];go_wp2;go_ret;exact⟨rfl,Da.o,HG.o⟩
open Go.Extern.Stop Go.Stop Go.Extern
def jf(s:ByteArray)(p:Int)(a:Addr):Value:=.iface 196 (.agg #[.string s,it p,.iface 309 (.pointer (some a))])
def wZ(a:Addr):Value:=.iface 309 (.pointer (some a))
structure Env(w:World)(aL aN:Addr):Prop where
 cL:w.cell? ⟨1,0,none⟩=some (.iface 309 (.pointer (some aL)))
 cN:w.cell? ⟨0,0,none⟩=some (.iface 309 (.pointer (some aN)))
 cT:w.cell? ⟨2,0,none⟩=some (.iface 262 (.agg #[.pointer (some ⟨6,92,none⟩)]))
 ne:aN≠aL
 hL:∃c t,w.heap[aL.block]?=some (.cells c t (0,0))
 hN:∃c t,w.heap[aN.block]?=some (.cells c t (0,0))
theorem Env.below{w':World}(h:Env w aL aN)(hb:m1 w w'):Env w' aL aN where
 cL:=(hb.cell (p:=⟨1,0,none⟩) (xJ w _ h.cL)).trans h.cL
 cN:=(hb.cell (p:=⟨0,0,none⟩) (xJ w _ h.cN)).trans h.cN
 cT:=(hb.cell (p:=⟨2,0,none⟩) (xJ w _ h.cT)).trans h.cT
 ne:=h.ne
 hL:=by obtain⟨c,t,e⟩:=h.hL;exact⟨c,t,(hb.block _ (aA.grownR.lt_of_heap e)).trans e⟩
 hN:=by obtain⟨c,t,e⟩:=h.hN;exact⟨c,t,(hb.block _ (aA.grownR.lt_of_heap e)).trans e⟩
theorem bH(s:ByteArray)(a:Addr)(w:World)(he:Env w aL aN):Rt 76 #[.string s,.iface 309 (.pointer (some a))] w (jf s (-1) a):=by
 have hn:=λW=>run_eql_iface_nil_left (P:=prog) W 309 (.pointer (some a)) underlying92;have Ba:H7 (m1 w (w.alloc (.cells #[.string ByteArray.empty,it 0,.nilIface] 196))):=(m8 _ _).alloc (m3 _) _;have Da:=cQ w [.string ByteArray.empty,it 0,.nilIface] 196;have CA:=vw a ⟨w.heap.size,0,none⟩ (w.alloc (.cells #[.string ByteArray.empty,it 0,.nilIface] 196)) (he.below Ba.o).cT;unfold jf;clear he;go_enter func76,ntmps76;(go_wp2_with fail);refine CA.mono ?_;rintro e w1 ⟨rfl,Ca⟩;have Aa:=Da.b Ca;have Ea:=Ba.t Ca;have t0:=Aa.c 0;have t1:=Aa.c 1;have t2:=Aa.c 2;have u0:=Aa.o.fr 0;have u1:=Aa.o.fr 1;have u2:=Aa.o.fr 2;have Fa:H7 (m1 w ((((w1.setCell ⟨w.heap.size,0,none⟩ (.string ByteArray.empty)).setCell ⟨w.heap.size,1,none⟩ (it (-1))).setCell ⟨w.heap.size,2,none⟩ (.iface 309 (.pointer (some a)))).setCell ⟨w.heap.size,0,none⟩ (.string s))):=(((Ea.o.setCell (m3 _) _).setCell (m3 _) _).setCell (m3 _) _).setCell (m3 _) _;clear Ca Da Ba;go_wp2;go_ret;exact⟨rfl,Fa.o⟩
theorem ed(s s0:ByteArray)(p:Int)(a:Addr)(w:World)(he:Env w aL aN):Rt 76 #[.string s,jf s0 p a] w (jf s p a):=by
 have hn:=λW=>run_eql_iface_nil_left (P:=prog) W 196 (.agg #[.string s0,it p,.iface 309 (.pointer (some a))]) underlying92;have Ba:H7 (m1 w (w.alloc (.cells #[.string ByteArray.empty,it 0,.nilIface] 196))):=(m8 _ _).alloc (m3 _) _;have Ca:=cQ w [.string ByteArray.empty,it 0,.nilIface] 196;have CA:=wC s0 p a w.heap.size [.string ByteArray.empty,it 0,.nilIface] (w.alloc (.cells #[.string ByteArray.empty,it 0,.nilIface] 196)) (he.below Ba.o).cT Ca.o rfl;unfold jf;clear he;go_enter func76,ntmps76;(go_wp2_with fail);refine CA.mono ?_;rintro e w1 ⟨rfl,Aa,Da⟩;have Ea:=Hd (Ba.o.grown Da Ba.o.size (λq hq=>by injection hq with hq;omega));have t0:=Aa.c 0;have t1:=Aa.c 1;have t2:=Aa.c 2;have u0:=Aa.fr 0;have Fa:H7 (m1 w (w1.setCell ⟨w.heap.size,0,none⟩ (.string s))):=Ea.o.setCell (m3 _) _;clear Da Aa Ca Ba;go_wp2;go_ret;exact⟨rfl,Fa.o⟩
theorem oJ{k:Nat}(hk:k<zs.length):((zs.take k).all M.el&&M.el (zs.getD k 0))=(zs.take (k+1)).all M.el:=by
 rw[xA hk,List.all_append,m5,m9 hk];simp
def ww(n:Nat)(i':Int)(zs:List Int)(aL aN:Addr)(e:Ending):Prop:=((¬ (n:Int)=i'/\e=.returned (wZ aL))\/((n:Int)=i'/\M.allEl zs=true/\e=.returned .nilIface)\/((n:Int)=i'/\M.allEl zs=false/\∃i:Int,e=.returned (jf ByteArray.empty i aN)))
theorem nP(a:Int)(w:World):Rq 168 #[it a] w (.tuple #[it (if M.el a=true then a else 0),.bool (M.el a)]):=by
 cases h:M.el a with
 | true=>exact dF a w ((M.el_iff a).1 h).1 ((M.el_iff a).1 h).2
 | false=>
  refine dI a w ?_
  rcases Int.lt_or_le a 0 with h0 | h0
  .exact .inl h0
  ·
   rcases Int.lt_or_le a 65537 with h1 | h1
   .rw[(M.el_iff a).2 ⟨h0,h1⟩]at h;cases h
   .exact .inr h1
theorem es{a:Option Addr}{c:Nat}(i':Int)(w:World)(he:Env w aL aN)(hz:aC w a n c zs):Calls prog 164 #[.slice a n c,it i'] w λe w'=>ww n i' zs aL aN e/\w'=w:=by
 have gL:=he.cL;have gN:=he.cN;have bn:(n:Int)<=9223372036854775807:=(by have:=hz.big;have:=hz.le;omega);by_cases hm:(n:Int)=i'
 ·
  subst hm;have Da:((n:Int) != (n:Int))=false:=(by simp);have HZ:=Hd hz;clear gL he;go_enter func164,ntmps164;go_wp2
  go_loopw [16] (λi wr=>∃k:Nat,k<=n/\i=it k/\wr=w/\(zs.take k).all M.el=true) (λi _=>n-(intOf i).toNat)
  case atStart=>exact⟨0,by omega,rfl,rfl,rfl⟩
  case round=>
   obtain⟨k,hk,rfl,rfl,Aa⟩:=hrel;have HA:=Hd Aa;clear Aa;by_cases Ba:k<n
   ·
    obtain⟨b1,o1,rfl,Ca⟩:=HZ.o.at (by omega);have e1:=Ca k Ba;have hI:(k:Int)<(n:Int):=(by omega);have HS:=Hd (oJ (by rw[HZ.o.len];exact Ba));have C1:=nP (zs.getD k 0);generalize hx:zs.getD k 0=x at e1 HS C1;clear Ca
    cases hel:M.el x with
    | true=>
     rw[hel]at C1 HS;have HS':H7 ((zs.take (k+1)).all M.el=true):=(by have h1:=HS.o;rw[HA.o]at h1;exact h1.symm);clear HS hx hel;(go_wp2_with fail);refine(C1 _).mono ?_;rintro e w ⟨rfl,rfl⟩;go_wp2;go_roundw
     case rel=>exact⟨k+1,by omega,by go_num,by simp,HS'.o⟩
     case measure=>simp[intOf];omega
    | false=>
     rw[hel]at C1 HS;have HS':H7 ((zs.take (k+1)).all M.el=false):=(by have h1:=HS.o;rw[HA.o]at h1;exact h1.symm);clear HS hx hel;(go_wp2_with fail);refine(C1 _).mono ?_;rintro e w ⟨rfl,rfl⟩;go_wp2;go_ret;refine⟨.inr (.inr ⟨rfl,?_,_,rfl⟩),rfl⟩;have h1:=HS'.o
     cases hz1:M.allEl zs with
     | false=>rfl
     | true=>
      exfalso
      have:(zs.take (k+1)).all M.el=true:=by
       rw[List.all_eq_true]at *;intro u hu;exact(List.all_eq_true.1 hz1) u (List.mem_of_mem_take hu)
      rw[this]at h1;cases h1
   ·
    have Ea:k=n:=by omega
    have Fa:H7 (M.allEl zs=true):=by
     have h1:=HA.o;rw[Ea,xt (by rw[HZ.o.len];exact m3 _)]at h1;exact h1
    go_wp2;go_ret;exact⟨.inr (.inl ⟨rfl,Fa.o,rfl⟩),rfl⟩
 ·
  have Da:((n:Int) != i')=true:=(by simp[hm]);clear hz he;go_enter func164,ntmps164;go_wp2;go_ret;exact⟨.inl ⟨hm,rfl⟩,rfl⟩
open Go.Extern.Stop Go.Stop Go.Extern
theorem aS{P:Program}{ti:TypeId}{ms:Array (String×TypeId)}(w:World)(tp:TypeId)(v:Value)(hi:P.underlying ti=some (.interface ms)):(binOp .neq ti (.iface tp v) .nilIface).run P w=.ok (.bool true) w:=by
 have h:∀d:Nat,(Op.equalIn (d+1) ti (.iface tp v) .nilIface).run P w=.ok false w:=λd=>by simp[Op.equalIn,run_underlying hi]
 simp only[binOp];simp[Op.equal,Op.maxDepth,h 9999]
theorem gi(h:¬ (l.length:Int)=4*(n:Int)):M.lenEl l n=false:=by
 cases e:M.lenEl l n with
 | false=>rfl
 | true=>exact absurd ((M.lenEl_iff l n).1 e).1 (by omega)
theorem gh(h:M.allEl l=false)(n:Nat):M.lenEl l n=false:=by
 cases e:M.lenEl l n with
 | false=>rfl
 | true=>rw[((M.lenEl_iff l n).1 e).2]at h;cases h
theorem ft(h1:(l.length:Int)=4*(n:Int))(h2:M.allEl l=true):M.lenEl l n=true:=(M.lenEl_iff l n).2 ⟨by omega,h2⟩
theorem oQ(h:¬ (z1.length:Int)=4*(n:Int)):M.Pf.form ⟨s,e,z1,z2,z3,z4⟩ n=false:=by
 unfold M.Pf.form;dsimp only;rw[gi h];simp
theorem qU(h:M.allEl z1=false)(n:Nat):M.Pf.form ⟨s,e,z1,z2,z3,z4⟩ n=false:=by
 unfold M.Pf.form;dsimp only;rw[gh h];simp
theorem oT(h:¬ (z2.length:Int)=4*(n:Int)):M.Pf.form ⟨s,e,z1,z2,z3,z4⟩ n=false:=by
 unfold M.Pf.form;dsimp only;rw[gi h];simp
theorem qV(h:M.allEl z2=false)(n:Nat):M.Pf.form ⟨s,e,z1,z2,z3,z4⟩ n=false:=by
 unfold M.Pf.form;dsimp only;rw[gh h];simp
theorem oU(h:¬ (z3.length:Int)=4*(n:Int)):M.Pf.form ⟨s,e,z1,z2,z3,z4⟩ n=false:=by
 unfold M.Pf.form;dsimp only;rw[gi h];simp
theorem qW(h:M.allEl z3=false)(n:Nat):M.Pf.form ⟨s,e,z1,z2,z3,z4⟩ n=false:=by
 unfold M.Pf.form;dsimp only;rw[gh h];simp
theorem oV(h:¬ (z4.length:Int)=4*(n:Int)):M.Pf.form ⟨s,e,z1,z2,z3,z4⟩ n=false:=by
 unfold M.Pf.form;dsimp only;rw[gi h];simp
theorem qX(h:M.allEl z4=false)(n:Nat):M.Pf.form ⟨s,e,z1,z2,z3,z4⟩ n=false:=by
 unfold M.Pf.form;dsimp only;rw[gh h];simp
theorem uo(h:M.sOk s=false)(n:Nat):M.Pf.form ⟨s,e,z1,z2,z3,z4⟩ n=false:=by
 unfold M.Pf.form;dsimp only;rw[h];simp
theorem un(h:M.sOk e=false)(n:Nat):M.Pf.form ⟨s,e,z1,z2,z3,z4⟩ n=false:=by
 unfold M.Pf.form;dsimp only;rw[h];simp
def vZ(p:M.Pf)(N:Nat)(aL aN:Addr)(e:Ending):Prop:=
 (e=.returned .nilIface/\p.form N=true)\/((∃s q,e=.returned (jf s q aL))/\p.form N=false)\/((∃s q,e=.returned (jf s q aN))/\∀k,p.form k=false)
theorem kn(s1 s2 e1 e2:Int)(w:World):Calls prog 163 #[.agg #[it s1,it s2,it e1,it e2,.slice a1 n1 c1,.slice a2 n2 c2,.slice a3 n3 c3,.slice a4 n4 c4]] w λe w'=>∃g,e=.returned (.slice (some ⟨g,0,none⟩) 4 4)/\aw w' g [.string {data:=#[88]},.slice a1 n1 c1,.string {data:=#[89]},.slice a2 n2 c2,.string {data:=#[81,88]},.slice a3 n3 c3,.string {data:=#[81,89]},.slice a4 n4 c4]/\m1 w w':=by
 have HL:H7 (aw ((w.alloc (.cells (cX s1 s2 e1 e2 a1 n1 c1 a2 n2 c2 a3 n3 c3 a4 n4 c4).toArray 35)).alloc (.cells #[.string {data:=#[88]},.slice a1 n1 c1,.string {data:=#[89]},.slice a2 n2 c2,.string {data:=#[81,88]},.slice a3 n3 c3,.string {data:=#[81,89]},.slice a4 n4 c4] 234)) (w.heap.size+1) [.string {data:=#[88]},.slice a1 n1 c1,.string {data:=#[89]},.slice a2 n2 c2,.string {data:=#[81,88]},.slice a3 n3 c3,.string {data:=#[81,89]},.slice a4 n4 c4]):=aZ _ _ _ _;have HB:H7 (m1 w ((w.alloc (.cells (cX s1 s2 e1 e2 a1 n1 c1 a2 n2 c2 a3 n3 c3 a4 n4 c4).toArray 35)).alloc (.cells #[.string {data:=#[88]},.slice a1 n1 c1,.string {data:=#[89]},.slice a2 n2 c2,.string {data:=#[81,88]},.slice a3 n3 c3,.string {data:=#[81,89]},.slice a4 n4 c4] 234))):=((m8 _ _).alloc (m3 _) _).alloc (by simp) _;go_enter func163,ntmps163;go_wp2;go_ret;exact⟨_,rfl,HL.o,HB.o⟩
theorem ej(s1 s2 e1 e2:Int)(N:Nat)(w:World)(hN:N<=16)(he:Env w aL aN)(h1:aC w a1 n1 c1 z1)(h2:aC w a2 n2 c2 z2)(h3:aC w a3 n3 c3 z3)(h4:aC w a4 n4 c4 z4):
  Calls prog 123 #[.agg #[it s1,it s2,it e1,it e2,.slice a1 n1 c1,.slice a2 n2 c2,.slice a3 n3 c3,.slice a4 n4 c4],it N] w λe w'=>vZ (⟨(s1,s2),(e1,e2),z1,z2,z3,z4⟩:M.Pf) N aL aN e/\m1 w w':=by
 have C1:=dL (s1,s2);have C2:=dL (e1,e2);have Bb:H7 (M.sOk (s1,s2)=false->∀k,M.Pf.form (⟨(s1,s2),(e1,e2),z1,z2,z3,z4⟩:M.Pf) k=false):=λh=>uo h;have Cb:H7 (M.sOk (e1,e2)=false->∀k,M.Pf.form (⟨(s1,s2),(e1,e2),z1,z2,z3,z4⟩:M.Pf) k=false):=λh=>un h
 have Xa:H7 (M.sOk (s1,s2)=true->M.sOk (e1,e2)=true->M.lenEl z1 N=true->M.lenEl z2 N=true->M.lenEl z3 N=true->M.lenEl z4 N=true->M.Pf.form (⟨(s1,s2),(e1,e2),z1,z2,z3,z4⟩:M.Pf) N=true):=λg1 g2 g3 g4 g5 g6=>by
  show _=_;unfold M.Pf.form;dsimp only;rw[g1,g2,g3,g4,g5,g6];rfl
 generalize M.sOk (s1,s2)=o1 at C1 Bb Xa;generalize M.sOk (e1,e2)=o2 at C2 Cb Xa;dsimp only[dd]at C1 C2;have L1:=Hd h1.len;have L2:=Hd h2.len;have L3:=Hd h3.len;have L4:=Hd h4.len;have H1:=Hd h1;have H2:=Hd h2;have H3:=Hd h3;have H4:=Hd h4;have Qb:(N:Int)<=16:=(by omega);have Db:=cQ w (cX s1 s2 e1 e2 a1 n1 c1 a2 n2 c2 a3 n3 c3 a4 n4 c4) 35;have Ta:H7 (m1 w (w.alloc (.cells (cX s1 s2 e1 e2 a1 n1 c1 a2 n2 c2 a3 n3 c3 a4 n4 c4).toArray 35))):=(m8 _ _).alloc (m3 _) _;have Eb:=Hd (he.below Ta.o);have CL:=kn (a1:=a1) (a2:=a2) (a3:=a3) (a4:=a4) (n1:=n1) (n2:=n2) (n3:=n3) (n4:=n4) (c1:=c1) (c2:=c2) (c3:=c3) (c4:=c4) s1 s2 e1 e2;clear he h1 h2 h3 h4;go_enter func123,ntmps123;(go_wp2_with fail);refine(CL _).mono ?_;rintro e w2 ⟨g,rfl,Fb,Ua⟩;have HA:=Db.b Ua;have Ca:=Hd Fb;have HB:=Ta.t Ua;have HE:=Hd (Eb.o.below Ua);clear Fb Ua Db Ta Eb CL;go_wp2;refine wp_loop_rounds 5 ?_;have x0:=Ca.c 0;have x1:=Ca.c 1;have Ga:H7 (aw (w2.alloc (.cells #[.string {data:=#[88]},.slice a1 n1 c1] 234)) w.heap.size (cX s1 s2 e1 e2 a1 n1 c1 a2 n2 c2 a3 n3 c3 a4 n4 c4)):=HA.o.alloc _;have Ia:H7 (aw (w2.alloc (.cells #[.string {data:=#[88]},.slice a1 n1 c1] 234)) g [.string {data:=#[88]},.slice a1 n1 c1,.string {data:=#[89]},.slice a2 n2 c2,.string {data:=#[81,88]},.slice a3 n3 c3,.string {data:=#[81,89]},.slice a4 n4 c4]):=Ca.o.alloc _;have Da:H7 (m1 w (w2.alloc (.cells #[.string {data:=#[88]},.slice a1 n1 c1] 234))):=HB.o.alloc HB.o.size _;have Ea:H7 (Env (w2.alloc (.cells #[.string {data:=#[88]},.slice a1 n1 c1] 234)) aL aN):=HE.o.below ((m8 _ _).alloc (m3 _) _);have Fa:=cQ w2 [.string {data:=#[88]},.slice a1 n1 c1] 234;have Ha:=es (4*N) (w2.alloc (.cells #[.string {data:=#[88]},.slice a1 n1 c1] 234)) Ea.o (H1.o.below Da.o);rw[rounds_succ];(go_wp2_with fail);refine Ha.mono ?_;rintro e Ja ⟨La,Na⟩;generalize(w2.alloc (.cells #[.string {data:=#[88]},.slice a1 n1 c1] 234))=wv at *;subst Na;generalize w2.heap.size=vb at Fa |-;clear x0 x1 HA Ca HB HE Ha;have HA:=Hd Ga.o;have Ca:=Hd Ia.o;have HB:=Hd Da.o;have HE:=Hd Ea.o;have y0:=Fa.c 0;clear Ga Ia Da Ea Fa
 rcases La with⟨hlen,rfl⟩ | ⟨hlen,hal,rfl⟩ | ⟨hlen,hal,i,rfl⟩
 ·
  have Oa:=Hd hlen;clear hlen;have Pa:=λW=>aS (P:=prog) W 309 (.pointer (some aL)) underlying92;unfold wZ;(go_wp2_with fail);refine(bH _ aL _ HE.o).mono ?_;rintro e w9 ⟨rfl,Aa⟩;have Ba:=HB.t Aa;clear Aa;go_wp2;go_ret;exact⟨.inr (.inl ⟨⟨_,_,rfl⟩,oQ (by rw[L1.o];exact Oa.o)⟩),Ba.o⟩
 rotate_left
 ·
  have Qa:=Hd hal;clear hlen hal;have Pa:=λW=>aS (P:=prog) W 196 (.agg #[.string ByteArray.empty,it i,.iface 309 (.pointer (some aN))]) underlying92;unfold jf;(go_wp2_with fail);refine(ed _ ByteArray.empty i aN _ HE.o).mono ?_;rintro e w9 ⟨rfl,Aa⟩;have Ba:=HB.t Aa;clear Aa;go_wp2;go_ret;exact⟨.inr (.inr ⟨⟨_,_,rfl⟩,λkk=>qU Qa.o kk⟩),Ba.o⟩
 have Hb:=Hd hlen;have Ib:=Hd hal;clear hlen hal y0;go_wp2;have x0:=Ca.c 2;have x1:=Ca.c 3;have Ga:H7 (aw (Ja.alloc (.cells #[.string {data:=#[89]},.slice a2 n2 c2] 234)) w.heap.size (cX s1 s2 e1 e2 a1 n1 c1 a2 n2 c2 a3 n3 c3 a4 n4 c4)):=HA.o.alloc _;have Ia:H7 (aw (Ja.alloc (.cells #[.string {data:=#[89]},.slice a2 n2 c2] 234)) g [.string {data:=#[88]},.slice a1 n1 c1,.string {data:=#[89]},.slice a2 n2 c2,.string {data:=#[81,88]},.slice a3 n3 c3,.string {data:=#[81,89]},.slice a4 n4 c4]):=Ca.o.alloc _;have Da:H7 (m1 w (Ja.alloc (.cells #[.string {data:=#[89]},.slice a2 n2 c2] 234))):=HB.o.alloc HB.o.size _;have Ea:H7 (Env (Ja.alloc (.cells #[.string {data:=#[89]},.slice a2 n2 c2] 234)) aL aN):=HE.o.below ((m8 _ _).alloc (m3 _) _);have Fa:=cQ Ja [.string {data:=#[89]},.slice a2 n2 c2] 234;have Ha:=es (4*N) (Ja.alloc (.cells #[.string {data:=#[89]},.slice a2 n2 c2] 234)) Ea.o (H2.o.below Da.o);rw[rounds_succ];(go_wp2_with fail);refine Ha.mono ?_;rintro e Ka ⟨La,Na⟩;generalize(Ja.alloc (.cells #[.string {data:=#[89]},.slice a2 n2 c2] 234))=wv at *;subst Na;generalize Ja.heap.size=vb at Fa |-;clear x0 x1 HA Ca HB HE Ha;have HA:=Hd Ga.o;have Ca:=Hd Ia.o;have HB:=Hd Da.o;have HE:=Hd Ea.o;have y0:=Fa.c 0;clear Ga Ia Da Ea Fa
 rcases La with⟨hlen,rfl⟩ | ⟨hlen,hal,rfl⟩ | ⟨hlen,hal,i,rfl⟩
 ·
  have Oa:=Hd hlen;clear hlen;have Pa:=λW=>aS (P:=prog) W 309 (.pointer (some aL)) underlying92;unfold wZ;(go_wp2_with fail);refine(bH _ aL _ HE.o).mono ?_;rintro e w9 ⟨rfl,Aa⟩;have Ba:=HB.t Aa;clear Aa;go_wp2;go_ret;exact⟨.inr (.inl ⟨⟨_,_,rfl⟩,oT (by rw[L2.o];exact Oa.o)⟩),Ba.o⟩
 rotate_left
 ·
  have Qa:=Hd hal;clear hlen hal;have Pa:=λW=>aS (P:=prog) W 196 (.agg #[.string ByteArray.empty,it i,.iface 309 (.pointer (some aN))]) underlying92;unfold jf;(go_wp2_with fail);refine(ed _ ByteArray.empty i aN _ HE.o).mono ?_;rintro e w9 ⟨rfl,Aa⟩;have Ba:=HB.t Aa;clear Aa;go_wp2;go_ret;exact⟨.inr (.inr ⟨⟨_,_,rfl⟩,λkk=>qV Qa.o kk⟩),Ba.o⟩
 have Jb:=Hd hlen;have Kb:=Hd hal;clear hlen hal y0;go_wp2;have x0:=Ca.c 4;have x1:=Ca.c 5;have Ga:H7 (aw (Ka.alloc (.cells #[.string {data:=#[81,88]},.slice a3 n3 c3] 234)) w.heap.size (cX s1 s2 e1 e2 a1 n1 c1 a2 n2 c2 a3 n3 c3 a4 n4 c4)):=HA.o.alloc _;have Ia:H7 (aw (Ka.alloc (.cells #[.string {data:=#[81,88]},.slice a3 n3 c3] 234)) g [.string {data:=#[88]},.slice a1 n1 c1,.string {data:=#[89]},.slice a2 n2 c2,.string {data:=#[81,88]},.slice a3 n3 c3,.string {data:=#[81,89]},.slice a4 n4 c4]):=Ca.o.alloc _;have Da:H7 (m1 w (Ka.alloc (.cells #[.string {data:=#[81,88]},.slice a3 n3 c3] 234))):=HB.o.alloc HB.o.size _;have Ea:H7 (Env (Ka.alloc (.cells #[.string {data:=#[81,88]},.slice a3 n3 c3] 234)) aL aN):=HE.o.below ((m8 _ _).alloc (m3 _) _);have Fa:=cQ Ka [.string {data:=#[81,88]},.slice a3 n3 c3] 234;have Ha:=es (4*N) (Ka.alloc (.cells #[.string {data:=#[81,88]},.slice a3 n3 c3] 234)) Ea.o (H3.o.below Da.o);rw[rounds_succ];(go_wp2_with fail);refine Ha.mono ?_;rintro e Ra ⟨La,Na⟩;generalize(Ka.alloc (.cells #[.string {data:=#[81,88]},.slice a3 n3 c3] 234))=wv at *;subst Na;generalize Ka.heap.size=vb at Fa |-;clear x0 x1 HA Ca HB HE Ha;have HA:=Hd Ga.o;have Ca:=Hd Ia.o;have HB:=Hd Da.o;have HE:=Hd Ea.o;have y0:=Fa.c 0;clear Ga Ia Da Ea Fa
 rcases La with⟨hlen,rfl⟩ | ⟨hlen,hal,rfl⟩ | ⟨hlen,hal,i,rfl⟩
 ·
  have Oa:=Hd hlen;clear hlen;have Pa:=λW=>aS (P:=prog) W 309 (.pointer (some aL)) underlying92;unfold wZ;(go_wp2_with fail);refine(bH _ aL _ HE.o).mono ?_;rintro e w9 ⟨rfl,Aa⟩;have Ba:=HB.t Aa;clear Aa;go_wp2;go_ret;exact⟨.inr (.inl ⟨⟨_,_,rfl⟩,oU (by rw[L3.o];exact Oa.o)⟩),Ba.o⟩
 rotate_left
 ·
  have Qa:=Hd hal;clear hlen hal;have Pa:=λW=>aS (P:=prog) W 196 (.agg #[.string ByteArray.empty,it i,.iface 309 (.pointer (some aN))]) underlying92;unfold jf;(go_wp2_with fail);refine(ed _ ByteArray.empty i aN _ HE.o).mono ?_;rintro e w9 ⟨rfl,Aa⟩;have Ba:=HB.t Aa;clear Aa;go_wp2;go_ret;exact⟨.inr (.inr ⟨⟨_,_,rfl⟩,λkk=>qW Qa.o kk⟩),Ba.o⟩
 have Lb:=Hd hlen;have Nb:=Hd hal;clear hlen hal y0;go_wp2;have x0:=Ca.c 6;have x1:=Ca.c 7;have Ga:H7 (aw (Ra.alloc (.cells #[.string {data:=#[81,89]},.slice a4 n4 c4] 234)) w.heap.size (cX s1 s2 e1 e2 a1 n1 c1 a2 n2 c2 a3 n3 c3 a4 n4 c4)):=HA.o.alloc _;have Da:H7 (m1 w (Ra.alloc (.cells #[.string {data:=#[81,89]},.slice a4 n4 c4] 234))):=HB.o.alloc HB.o.size _;have Ea:H7 (Env (Ra.alloc (.cells #[.string {data:=#[81,89]},.slice a4 n4 c4] 234)) aL aN):=HE.o.below ((m8 _ _).alloc (m3 _) _);have Fa:=cQ Ra [.string {data:=#[81,89]},.slice a4 n4 c4] 234;have Ha:=es (4*N) (Ra.alloc (.cells #[.string {data:=#[81,89]},.slice a4 n4 c4] 234)) Ea.o (H4.o.below Da.o);rw[rounds_succ];(go_wp2_with fail);refine Ha.mono ?_;rintro e Rb ⟨La,Na⟩;generalize(Ra.alloc (.cells #[.string {data:=#[81,89]},.slice a4 n4 c4] 234))=wv at *;subst Na;generalize Ra.heap.size=vb at Fa |-;clear x0 x1 HA Ca HB HE Ha;have HA:=Hd Ga.o;have HB:=Hd Da.o;have HE:=Hd Ea.o;have y0:=Fa.c 0;clear Ga Da Ea Fa
 rcases La with⟨hlen,rfl⟩ | ⟨hlen,hal,rfl⟩ | ⟨hlen,hal,i,rfl⟩
 ·
  have Oa:=Hd hlen;clear hlen;have Pa:=λW=>aS (P:=prog) W 309 (.pointer (some aL)) underlying92;unfold wZ;(go_wp2_with fail);refine(bH _ aL _ HE.o).mono ?_;rintro e w9 ⟨rfl,Aa⟩;have Ba:=HB.t Aa;clear Aa;go_wp2;go_ret;exact⟨.inr (.inl ⟨⟨_,_,rfl⟩,oV (by rw[L4.o];exact Oa.o)⟩),Ba.o⟩
 rotate_left
 ·
  have Qa:=Hd hal;clear hlen hal;have Pa:=λW=>aS (P:=prog) W 196 (.agg #[.string ByteArray.empty,it i,.iface 309 (.pointer (some aN))]) underlying92;unfold jf;(go_wp2_with fail);refine(ed _ ByteArray.empty i aN _ HE.o).mono ?_;rintro e w9 ⟨rfl,Aa⟩;have Ba:=HB.t Aa;clear Aa;go_wp2;go_ret;exact⟨.inr (.inr ⟨⟨_,_,rfl⟩,λkk=>qX Qa.o kk⟩),Ba.o⟩
 have Ob:=Hd hlen;have Pb:=Hd hal;clear hlen hal y0;go_wp2;rw[rounds_succ];have s0:=HA.c 0;have s1':=HA.c 1;(go_wp2_with fail);refine(C1 _).mono ?_;rintro e w5 ⟨rfl,Va⟩;have Ya:=HA.b Va;have Sa:=HB.t Va;have Wa:=Hd (HE.o.below Va);clear Va s0 s1' HA HB HE
 cases o1 with
 | false=>
  have gN:=Wa.o.cN;(go_wp2_with fail);refine(bH _ aN _ Wa.o).mono ?_;rintro e w9 ⟨rfl,Aa⟩;have Ba:=Sa.t Aa;clear Aa;go_wp2;go_ret;exact⟨.inr (.inr ⟨⟨_,_,rfl⟩,Bb.o (by simp)⟩),Ba.o⟩
 | true=>
  have s0:=Ya.c 2;have s1':=Ya.c 3;(go_wp2_with fail);refine(C2 _).mono ?_;rintro e w6 ⟨rfl,Za⟩;have Ab:=Sa.t Za;have Gb:=Hd (Wa.o.below Za);clear Za s0 s1' Ya Sa Wa
  cases o2 with
  | false=>
   have gN:=Gb.o.cN;(go_wp2_with fail);refine(bH _ aN _ Gb.o).mono ?_;rintro e w9 ⟨rfl,Aa⟩;have Ba:=Ab.t Aa;clear Aa;go_wp2;go_ret;exact⟨.inr (.inr ⟨⟨_,_,rfl⟩,Cb.o (by simp)⟩),Ba.o⟩
  | true=>
   go_wp2;go_ret;exact⟨.inl ⟨rfl,Xa.o (by simp) (by simp) (ft (by rw[L1.o];exact Hb.o) Ib.o) (ft (by rw[L2.o];exact Jb.o) Kb.o) (ft (by rw[L3.o];exact Lb.o) Nb.o) (ft (by rw[L4.o];exact Ob.o) Pb.o)⟩,Ab.o⟩
open Go.Extern.Stop Go.Stop Go.Extern
theorem vo(h:p.form 2=true):p.rows=2:=M.rows_of rfl h
theorem vp(h:p.form 4=true):p.rows=4:=M.rows_of rfl h
theorem vq(h:p.form 8=true):p.rows=8:=M.rows_of rfl h
theorem uw(h:p.form 16=true):p.rows=16:=M.rows_of rfl h
theorem vl(h2:p.form 2=false)(h4:p.form 4=false)(h8:p.form 8=false)(h16:p.form 16=false):p.rows=0:=by
 unfold M.Pf.rows;rw[h2,h4,h8,h16];simp
def uF(p:M.Pf)(e:Ending):Prop:=(p.rows≠0/\e=.returned (.tuple #[it (p.rows:Nat),.nilIface]))\/(p.rows=0/\∃s q a,e=.returned (.tuple #[it 0,jf s q a]))
theorem lz(s1 s2 e1 e2:Int)(w:World)(he:Env w aL aN)(h1:aC w a1 n1 c1 z1)(h2:aC w a2 n2 c2 z2)(h3:aC w a3 n3 c3 z3)(h4:aC w a4 n4 c4 z4):
  Calls prog 77 #[.agg #[it s1,it s2,it e1,it e2,.slice a1 n1 c1,.slice a2 n2 c2,.slice a3 n3 c3,.slice a4 n4 c4]] w λe w'=>uF (⟨(s1,s2),(e1,e2),z1,z2,z3,z4⟩:M.Pf) e/\m1 w w':=by
 generalize Ab:(⟨(s1,s2),(e1,e2),z1,z2,z3,z4⟩:M.Pf)=P;have Va:=Hd Ab;have Bb:H7 (P.form 2=true->P.rows=2):=vo;have Cb:H7 (P.form 4=true->P.form 2=false->P.rows=4):=λh _=>vp h;have Db:H7 (P.form 8=true->P.form 2=false->P.form 4=false->P.rows=8):=λh _ _=>vq h;have Eb:H7 (P.form 16=true->P.form 2=false->P.form 4=false->P.form 8=false->P.rows=16):=λh _ _ _=>uw h;have Qa:H7 (P.form 2=false->P.form 4=false->P.form 8=false->P.form 16=false->P.rows=0):=vl;have H1:=Hd h1;have H2:=Hd h2;have H3:=Hd h3;have H4:=Hd h4;have Fb:=cQ w (cX s1 s2 e1 e2 a1 n1 c1 a2 n2 c2 a3 n3 c3 a4 n4 c4) 35;have Fa:H7 (m1 w (w.alloc (.cells (cX s1 s2 e1 e2 a1 n1 c1 a2 n2 c2 a3 n3 c3 a4 n4 c4).toArray 35))):=(m8 _ _).alloc (m3 _) _;have Xa:=Hd (he.below Fa.o);have Da:=ej (a1:=a1) (a2:=a2) (a3:=a3) (a4:=a4) (n1:=n1) (n2:=n2) (n3:=n3) (n4:=n4) (c1:=c1) (c2:=c2) (c3:=c3) (c4:=c4) s1 s2 e1 e2 2 (w.alloc (.cells (cX s1 s2 e1 e2 a1 n1 c1 a2 n2 c2 a3 n3 c3 a4 n4 c4).toArray 35)) (by decide) Xa.o (h1.below Fa.o) (h2.below Fa.o) (h3.below Fa.o) (h4.below Fa.o);clear he h1 h2 h3 h4 Ab;go_enter func77,ntmps77;(go_wp2_with fail);refine Da.mono ?_;rintro e w2 ⟨hp,hb⟩;have Gb:=Fb.b hb;have Na:=Fa.t hb;have Ga:=Hd (Xa.o.below hb);clear hb Da Fb Fa Xa;rw[Va.o]at hp
 rcases hp with⟨rfl,hf⟩ | ⟨⟨ps,pq,rfl⟩,hf⟩ | ⟨⟨ps,pq,rfl⟩,hf⟩
 ·
  have HF:=Hd hf;clear hf;have gL:=Ga.o.cL;go_wp2;refine wp_loop_rounds 4 ?_;rw[rounds_succ];(go_wp2_with fail);refine(se aL _).mono ?_;rintro e wx ⟨rfl,Ra⟩;subst Ra;go_wp2
  go_ret2
  exact⟨.inl ⟨by rw[Bb.o HF.o];decide,by rw[Bb.o HF.o];rfl⟩,Na.o⟩
 ·
  have La:=Hd hf;clear hf;have gL:=Ga.o.cL;unfold jf;go_wp2;refine wp_loop_rounds 4 ?_;rw[rounds_succ];(go_wp2_with fail);refine(gY ps pq aL _).mono ?_;rintro e Jb ⟨rfl,Ca⟩;have Aa:=Gb.b Ca;have Ba:=Na.t Ca;have Ea:=Hd (Ga.o.below Ca);have x0:=Aa.c 0;have x1:=Aa.c 1;have x2:=Aa.c 2;have x3:=Aa.c 3;have x4:=Aa.c 4;have x5:=Aa.c 5;have x6:=Aa.c 6;have x7:=Aa.c 7;have Da:=ej (a1:=a1) (a2:=a2) (a3:=a3) (a4:=a4) (n1:=n1) (n2:=n2) (n3:=n3) (n4:=n4) (c1:=c1) (c2:=c2) (c3:=c3) (c4:=c4) s1 s2 e1 e2 4 Jb (by decide) Ea.o (H1.o.below Ba.o) (H2.o.below Ba.o) (H3.o.below Ba.o) (H4.o.below Ba.o);clear Ca gL Gb Na Ga;(go_wp2_with fail);refine Da.mono ?_;rintro e w4 ⟨hp,hb⟩;have Hb:=Aa.b hb;have Oa:=Ba.t hb;have Ha:=Hd (Ea.o.below hb);clear hb Da Aa Ba Ea x0 x1 x2 x3 x4 x5 x6 x7;rw[Va.o]at hp
  rcases hp with⟨rfl,hf⟩ | ⟨⟨ps,pq,rfl⟩,hf⟩ | ⟨⟨ps,pq,rfl⟩,hf⟩
  ·
   have HF:=Hd hf;clear hf;have gL:=Ha.o.cL;go_wp2;rw[rounds_succ];(go_wp2_with fail);refine(se aL _).mono ?_;rintro e wx ⟨rfl,Ra⟩;subst Ra;go_wp2
   go_ret2
   exact⟨.inl ⟨by rw[Cb.o HF.o La.o];decide,by rw[Cb.o HF.o La.o];rfl⟩,Oa.o⟩
  ·
   have Sa:=Hd hf;clear hf;have gL:=Ha.o.cL;unfold jf;go_wp2;rw[rounds_succ];(go_wp2_with fail);refine(gY ps pq aL _).mono ?_;rintro e Kb ⟨rfl,Ca⟩;have Aa:=Hb.b Ca;have Ba:=Oa.t Ca;have Ea:=Hd (Ha.o.below Ca);have x0:=Aa.c 0;have x1:=Aa.c 1;have x2:=Aa.c 2;have x3:=Aa.c 3;have x4:=Aa.c 4;have x5:=Aa.c 5;have x6:=Aa.c 6;have x7:=Aa.c 7;have Da:=ej (a1:=a1) (a2:=a2) (a3:=a3) (a4:=a4) (n1:=n1) (n2:=n2) (n3:=n3) (n4:=n4) (c1:=c1) (c2:=c2) (c3:=c3) (c4:=c4) s1 s2 e1 e2 8 Kb (by decide) Ea.o (H1.o.below Ba.o) (H2.o.below Ba.o) (H3.o.below Ba.o) (H4.o.below Ba.o);clear Ca gL Hb Oa Ha;(go_wp2_with fail);refine Da.mono ?_;rintro e w8 ⟨hp,hb⟩;have Ib:=Aa.b hb;have Pa:=Ba.t hb;have Ia:=Hd (Ea.o.below hb);clear hb Da Aa Ba Ea x0 x1 x2 x3 x4 x5 x6 x7;rw[Va.o]at hp
   rcases hp with⟨rfl,hf⟩ | ⟨⟨ps,pq,rfl⟩,hf⟩ | ⟨⟨ps,pq,rfl⟩,hf⟩
   ·
    have HF:=Hd hf;clear hf;have gL:=Ia.o.cL;go_wp2;rw[rounds_succ];(go_wp2_with fail);refine(se aL _).mono ?_;rintro e wx ⟨rfl,Ra⟩;subst Ra;go_wp2
    go_ret2
    exact⟨.inl ⟨by rw[Db.o HF.o La.o Sa.o];decide,by rw[Db.o HF.o La.o Sa.o];rfl⟩,Pa.o⟩
   ·
    have Ya:=Hd hf;clear hf;have gL:=Ia.o.cL;unfold jf;go_wp2;rw[rounds_succ];(go_wp2_with fail);refine(gY ps pq aL _).mono ?_;rintro e Lb ⟨rfl,Ca⟩;have Aa:=Ib.b Ca;have Ba:=Pa.t Ca;have Ea:=Hd (Ia.o.below Ca);have x0:=Aa.c 0;have x1:=Aa.c 1;have x2:=Aa.c 2;have x3:=Aa.c 3;have x4:=Aa.c 4;have x5:=Aa.c 5;have x6:=Aa.c 6;have x7:=Aa.c 7;have Da:=ej (a1:=a1) (a2:=a2) (a3:=a3) (a4:=a4) (n1:=n1) (n2:=n2) (n3:=n3) (n4:=n4) (c1:=c1) (c2:=c2) (c3:=c3) (c4:=c4) s1 s2 e1 e2 16 Lb (by decide) Ea.o (H1.o.below Ba.o) (H2.o.below Ba.o) (H3.o.below Ba.o) (H4.o.below Ba.o);clear Ca gL Ib Pa Ia;(go_wp2_with fail);refine Da.mono ?_;rintro e Ob ⟨hp,hb⟩;have Za:=Ba.t hb;clear hb Da Aa Ba Ea x0 x1 x2 x3 x4 x5 x6 x7;rw[Va.o]at hp
    rcases hp with⟨rfl,hf⟩ | ⟨⟨ps,pq,rfl⟩,hf⟩ | ⟨⟨ps,pq,rfl⟩,hf⟩
    ·
     have HF:=Hd hf;clear hf;go_wp2;rw[rounds_succ];go_wp2
     go_ret2
     exact⟨.inl ⟨by rw[Eb.o HF.o La.o Sa.o Ya.o];decide,by rw[Eb.o HF.o La.o Sa.o Ya.o];rfl⟩,Za.o⟩
    ·
     have Nb:=Hd hf;clear hf;have Wa:=λW=>aS (P:=prog) W 196 (.agg #[.string ps,it pq,.iface 309 (.pointer (some aL))]) underlying92;unfold jf;go_wp2;rw[rounds_succ];go_wp2
     go_ret2
     exact⟨.inr ⟨Qa.o La.o Sa.o Ya.o Nb.o,_,_,_,rfl⟩,Za.o⟩
    ·
     have HF:=Hd hf;clear hf;have Wa:=λW=>aS (P:=prog) W 196 (.agg #[.string ps,it pq,.iface 309 (.pointer (some aN))]) underlying92;unfold jf;go_wp2;rw[rounds_succ];go_wp2
     go_ret2
     exact⟨.inr ⟨Qa.o (HF.o 2) (HF.o 4) (HF.o 8) (HF.o 16),_,_,_,rfl⟩,Za.o⟩
   ·
    have HF:=Hd hf;clear hf;have Wa:=λW=>aS (P:=prog) W 196 (.agg #[.string ps,it pq,.iface 309 (.pointer (some aN))]) underlying92;have gL:=Ia.o.cL;obtain⟨ca,ta,Ja⟩:=Ia.o.hN;obtain⟨cb,tb,Ka⟩:=Ia.o.hL;have Ta:=Hd Ja;have Ua:=Hd Ka;clear Ja Ka;unfold jf;go_wp2;rw[rounds_succ];(go_wp2_with fail);refine(gu ps pq aN aL ca cb ta tb _ Ia.o.ne Ta.o Ua.o).mono ?_;rintro e wx ⟨rfl,Ca⟩;have Ba:=Pa.t Ca;clear Ca;go_wp2
    go_ret2
    exact⟨.inr ⟨Qa.o (HF.o 2) (HF.o 4) (HF.o 8) (HF.o 16),_,_,_,rfl⟩,Ba.o⟩
  ·
   have HF:=Hd hf;clear hf;have Wa:=λW=>aS (P:=prog) W 196 (.agg #[.string ps,it pq,.iface 309 (.pointer (some aN))]) underlying92;have gL:=Ha.o.cL;obtain⟨ca,ta,Ja⟩:=Ha.o.hN;obtain⟨cb,tb,Ka⟩:=Ha.o.hL;have Ta:=Hd Ja;have Ua:=Hd Ka;clear Ja Ka;unfold jf;go_wp2;rw[rounds_succ];(go_wp2_with fail);refine(gu ps pq aN aL ca cb ta tb _ Ha.o.ne Ta.o Ua.o).mono ?_;rintro e wx ⟨rfl,Ca⟩;have Ba:=Oa.t Ca;clear Ca;go_wp2
   go_ret2
   exact⟨.inr ⟨Qa.o (HF.o 2) (HF.o 4) (HF.o 8) (HF.o 16),_,_,_,rfl⟩,Ba.o⟩
 ·
  have HF:=Hd hf;clear hf;have Wa:=λW=>aS (P:=prog) W 196 (.agg #[.string ps,it pq,.iface 309 (.pointer (some aN))]) underlying92;have gL:=Ga.o.cL;obtain⟨ca,ta,Ja⟩:=Ga.o.hN;obtain⟨cb,tb,Ka⟩:=Ga.o.hL;have Ta:=Hd Ja;have Ua:=Hd Ka;clear Ja Ka;unfold jf;go_wp2;refine wp_loop_rounds 4 ?_;rw[rounds_succ];(go_wp2_with fail);refine(gu ps pq aN aL ca cb ta tb _ Ga.o.ne Ta.o Ua.o).mono ?_;rintro e wx ⟨rfl,Ca⟩;have Ba:=Na.t Ca;clear Ca;go_wp2
  go_ret2
  exact⟨.inr ⟨Qa.o (HF.o 2) (HF.o 4) (HF.o 8) (HF.o 16),_,_,_,rfl⟩,Ba.o⟩
theorem k6(s1 s2 e1 e2:Int)(w:World)(he:Env w aL aN)(h1:aC w a1 n1 c1 z1)(h2:aC w a2 n2 c2 z2)(h3:aC w a3 n3 c3 z3)(h4:aC w a4 n4 c4 z4):
  Rt 154 #[.agg #[it s1,it s2,it e1,it e2,.slice a1 n1 c1,.slice a2 n2 c2,.slice a3 n3 c3,.slice a4 n4 c4]] w (it (M.Pf.rows (⟨(s1,s2),(e1,e2),z1,z2,z3,z4⟩:M.Pf):Nat)):=by
 have Aa:H7 (m1 w (w.alloc (.cells (cX s1 s2 e1 e2 a1 n1 c1 a2 n2 c2 a3 n3 c3 a4 n4 c4).toArray 35))):=(m8 _ _).alloc (m3 _) _;have Ba:=lz (a1:=a1) (a2:=a2) (a3:=a3) (a4:=a4) (n1:=n1) (n2:=n2) (n3:=n3) (n4:=n4) (c1:=c1) (c2:=c2) (c3:=c3) (c4:=c4) s1 s2 e1 e2 (w.alloc (.cells (cX s1 s2 e1 e2 a1 n1 c1 a2 n2 c2 a3 n3 c3 a4 n4 c4).toArray 35)) (he.below Aa.o) (h1.below Aa.o) (h2.below Aa.o) (h3.below Aa.o) (h4.below Aa.o);generalize(⟨(s1,s2),(e1,e2),z1,z2,z3,z4⟩:M.Pf)=P at *;clear he h1 h2 h3 h4;go_enter func154,ntmps154;(go_wp2_with fail);refine Ba.mono ?_;rintro e w2 ⟨hp,hb⟩;have Ca:=Aa.t hb;clear hb Ba Aa
 rcases hp with⟨hr,rfl⟩ | ⟨hr,ps,pq,pa,rfl⟩
 ·
  clear hr;go_wp2;go_ret;exact⟨rfl,Ca.o⟩
 ·
  have Da:=λW=>aS (P:=prog) W 196 (.agg #[.string ps,it pq,.iface 309 (.pointer (some pa))]) underlying92;have HR:=Hd hr;clear hr;unfold jf;go_wp2;go_ret;exact⟨by rw[HR.o];rfl,Ca.o⟩
end
end Go.Proofs.YtbjalickbnpnkaaGreatDoor
