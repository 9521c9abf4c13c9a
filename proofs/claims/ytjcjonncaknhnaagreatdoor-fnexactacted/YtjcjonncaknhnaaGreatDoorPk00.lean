import Derived.Test.YtjcjonncaknhnaaGreatDoorRows
import Derived.WalkLawsBesides
import Derived.Deep.RegionHeld3
import Derived.BigQuiet
import Derived.WalkSpells
import Derived.OpenShut
namespace Go.Proofs.YtjcjonncaknhnaaGreatDoor
open Go.RowKit Go.Proofs.Tryz
set_option linter.unusedSimpArgs false
set_option maxHeartbeats 32000000
variable {p a b x out y:Int}{P:Program}{md:Region.Mode}{ops:Array Oper}{Q:Exit→Act→World→Prop}{S:World→Prop}{oi:Oper}{tg N n i c d k B cap m i':Nat}{th:Array Bool}{w w' W W':World}{zs ys:List Int}{vs us:List Value}{rest:List Oper}{ty t:TypeId}{tmps:Array Value}{ad:Addr}{v:Value}
abbrev tm:=@Option.some.inj
abbrev tr:=@Nat.le_refl
abbrev tu:=@List.getD_eq_getElem?_getD
abbrev tv:=@Below.refl
abbrev tw:=@List.getElem?_eq_getElem
abbrev tx:=@bodyPost_ret
abbrev tB:=@Nat.le_trans
abbrev tC:=@List.drop_of_length_le
abbrev tD:=@AllReadyH.cons
abbrev tF:=@List.take_of_length_le
abbrev tH:=@World.cell?_alloc_new
abbrev tI:=@List.mem_append
abbrev tJ:=@World.ownsRow.lt
abbrev tK:=@List.take_succ_eq_append_getElem
abbrev tM:=@AllReadyH.nil
abbrev tO:=@World.grownBy_alloc
abbrev tP:=@Nat.lt_of_lt_of_le
abbrev tQ:=@yieldsIf_load_mid
abbrev tS:=@run_loadVar_mid
abbrev tU:=@List.mem_flatMap
abbrev tV:=@World.block_lt_of_cell?
abbrev tW:=@IntKind.wrap_i64
abbrev tX:=@List.length_replicate
abbrev tY:=@wpAnyH_ready
abbrev tZ:=@Bool.and_eq_true
abbrev t6:=@World.cell?_setCell_other
abbrev t7:=@List.length_append
abbrev t8:=@List.map_append
abbrev t':=@List.flatMap_cons
abbrev ua:=@List.length_take
abbrev ub:=@Int.toNat_natCast
abbrev uc:=@World.ownsRow.alloc
def H9(p:Prop):Prop:=p
theorem H9.o{p:Prop}(h:H9 p):p:=h
abbrev it(x:Int):Value:=.int .i64 x
theorem il(w:World)(o:Obj):Below w.heap.size w (w.alloc o):=(tv _ _).alloc (tr _) _
abbrev br(x0 x1 x2 x3 x4 x5 x6 x7 x8 x9 x10 x11 x12 x13 x14 x15:Int)(x16:Bool)(x17:Option Addr)(x18 x19:Nat):List Value:=[.int .i64 x0,.int .i64 x1,.int .i64 x2,.int .i64 x3,.int .i64 x4,.int .i64 x5,.int .i64 x6,.int .i64 x7,.int .i64 x8,.int .i64 x9,.int .i64 x10,.int .i64 x11,.int .i64 x12,.int .i64 x13,.int .i64 x14,.int .i64 x15,.bool x16,.slice x17 x18 x19]
abbrev bE(x0 x1 x2 x3 x4 x5 x6 x7 x8 x9 x10 x11 x12 x13 x14 x15 x16 x17 x18 x19 x20 x21 x22:Int)(x23:Option Addr)(x24 x25:Nat)(x26:Option Addr)(x27 x28:Nat)(x29:Option Addr)(x30 x31:Nat)(x32:Option Addr)(x33 x34:Nat):List Value:=[.int .i64 x0,.int .i64 x1,.int .i64 x2,.int .i64 x3,.int .i64 x4,.int .i64 x5,.int .i64 x6,.int .i64 x7,.int .i64 x8,.int .i64 x9,.int .i64 x10,.int .i64 x11,.int .i64 x12,.int .i64 x13,.int .i64 x14,.int .i64 x15,.int .i64 x16,.int .i64 x17,.int .i64 x18,.int .i64 x19,.int .i64 x20,.int .i64 x21,.int .i64 x22,.slice x23 x24 x25,.slice x26 x27 x28,.slice x29 x30 x31,.slice x32 x33 x34]
abbrev dZ:List Value:=[.int .i64 0,.int .i64 0,.int .i64 0,.int .i64 0,.int .i64 0,.int .i64 0,.int .i64 0,.int .i64 0,.int .i64 0,.int .i64 0,.int .i64 0,.int .i64 0,.int .i64 0,.int .i64 0,.int .i64 0,.int .i64 0,.int .i64 0,.int .i64 0,.int .i64 0,.int .i64 0,.int .i64 0,.int .i64 0,.int .i64 0,.slice none 0 0,.slice none 0 0,.slice none 0 0,.slice none 0 0]
abbrev bh(x0 x1 x2 x3:Int)(x4:Option Addr)(x5 x6:Nat)(x7:Option Addr)(x8 x9:Nat)(x10:Option Addr)(x11 x12:Nat)(x13:Option Addr)(x14 x15:Nat):List Value:=[.int .i64 x0,.int .i64 x1,.int .i64 x2,.int .i64 x3,.slice x4 x5 x6,.slice x7 x8 x9,.slice x10 x11 x12,.slice x13 x14 x15]
abbrev cu(x0 x1 x2 x3 x4 x5 x6 x7 x8 x9 x10 x11:Int):List Value:=[.int .i64 x0,.int .i64 x1,.int .i64 x2,.int .i64 x3,.int .i64 x4,.int .i64 x5,.int .i64 x6,.int .i64 x7,.int .i64 x8,.int .i64 x9,.int .i64 x10,.int .i64 x11]
abbrev au(x0 x1:Int)(x2:Option Addr)(x3 x4:Nat)(x5:Option Addr)(x6 x7:Nat):List Value:=[.int .i64 x0,.int .i64 x1,.slice x2 x3 x4,.slice x5 x6 x7]
abbrev dS:List Value:=[.int .i64 0,.int .i64 0,.int .i64 0,.int .i64 0,.int .i64 0,.int .i64 0,.int .i64 0,.int .i64 0,.int .i64 0,.int .i64 0,.int .i64 0,.int .i64 0,.int .i64 0,.int .i64 0,.int .i64 0,.int .i64 0,.bool false,.slice none 0 0]
abbrev gJ:List Value:=[.int .i64 0,.int .i64 0,.int .i64 0,.int .i64 0,.slice none 0 0,.slice none 0 0,.slice none 0 0,.slice none 0 0]
abbrev be:List Value:=[.int .i64 0,.int .i64 0,.slice none 0 0,.slice none 0 0]
abbrev db(x0 x1 x2 x3 x4:Int):List Value:=[.int .i64 x0,.int .i64 1,.int .i64 x1,.int .i64 x2,.int .i64 3,.int .i64 x3,.int .i64 x4]
abbrev bW(x0 x1 x2 x3 x4 x5 x6:Int)(x7:Option Addr)(x8 x9:Nat)(x10:Option Addr)(x11 x12:Nat)(x13:Option Addr)(x14 x15:Nat)(x16:Option Addr)(x17 x18:Nat):List Value:=[.int .i64 x0,.int .i64 x1,.int .i64 x2,.int .i64 x3,.int .i64 x4,.int .i64 x5,.int .i64 x6,.slice x7 x8 x9,.slice x10 x11 x12,.slice x13 x14 x15,.slice x16 x17 x18]
abbrev dY(x0 x1 x2 x3 x4 x5 x6 x7 x8 x9 x10 x11 x12 x13 x14 x15:Int):List Value:=[.int .i64 x0,.int .i64 x1,.int .i64 x2,.int .i64 x3,.int .i64 x4,.int .i64 x5,.int .i64 x6,.int .i64 x7,.int .i64 x8,.int .i64 x9,.int .i64 x10,.int .i64 x11,.int .i64 x12,.int .i64 x13,.int .i64 x14,.int .i64 x15]
abbrev iO(x0 x1 x2 x3 x4 x5 x6 x7 x8 x9 x10 x11 x12 x13 x14 x15 x16 x17 x18 x19 x20 x21:Int)(x22:Option Addr)(x23 x24:Nat)(x25:Option Addr)(x26 x27:Nat)(x28:Option Addr)(x29 x30:Nat)(x31:Option Addr)(x32 x33:Nat):List Value:=[.int .i64 3,.int .i64 x0,.int .i64 x1,.int .i64 x2,.int .i64 x3,.int .i64 x4,.int .i64 x5,.int .i64 x6,.int .i64 x7,.int .i64 x8,.int .i64 x9,.int .i64 x10,.int .i64 x11,.int .i64 x12,.int .i64 x13,.int .i64 x14,.int .i64 x15,.int .i64 x16,.int .i64 x17,.int .i64 x18,.int .i64 x19,.int .i64 x20,.int .i64 x21,.slice x22 x23 x24,.slice x25 x26 x27,.slice x28 x29 x30,.slice x31 x32 x33]
abbrev jx(x0 x1 x2 x3 x4 x5 x6 x7 x8 x9 x10 x11 x12 x13 x14 x15 x16 x17 x18 x19 x20 x21:Int)(x22:Option Addr)(x23 x24:Nat)(x25:Option Addr)(x26 x27:Nat)(x28:Option Addr)(x29 x30:Nat)(x31:Option Addr)(x32 x33:Nat):List Value:=[.int .i64 1,.int .i64 x0,.int .i64 x1,.int .i64 x2,.int .i64 x3,.int .i64 x4,.int .i64 x5,.int .i64 x6,.int .i64 x7,.int .i64 x8,.int .i64 x9,.int .i64 x10,.int .i64 x11,.int .i64 x12,.int .i64 x13,.int .i64 x14,.int .i64 x15,.int .i64 x16,.int .i64 x17,.int .i64 x18,.int .i64 x19,.int .i64 x20,.int .i64 x21,.slice x22 x23 x24,.slice x25 x26 x27,.slice x28 x29 x30,.slice x31 x32 x33]
abbrev jy(x0 x1 x2 x3 x4 x5 x6 x7 x8 x9 x10 x11 x12 x13 x14 x15 x16 x17 x18 x19 x20 x21:Int)(x22:Option Addr)(x23 x24:Nat)(x25:Option Addr)(x26 x27:Nat)(x28:Option Addr)(x29 x30:Nat)(x31:Option Addr)(x32 x33:Nat):List Value:=[.int .i64 4,.int .i64 x0,.int .i64 x1,.int .i64 x2,.int .i64 x3,.int .i64 x4,.int .i64 x5,.int .i64 x6,.int .i64 x7,.int .i64 x8,.int .i64 x9,.int .i64 x10,.int .i64 x11,.int .i64 x12,.int .i64 x13,.int .i64 x14,.int .i64 x15,.int .i64 x16,.int .i64 x17,.int .i64 x18,.int .i64 x19,.int .i64 x20,.int .i64 x21,.slice x22 x23 x24,.slice x25 x26 x27,.slice x28 x29 x30,.slice x31 x32 x33]
abbrev jz(x0 x1 x2 x3 x4 x5 x6 x7 x8 x9 x10 x11 x12 x13 x14 x15 x16 x17 x18 x19 x20 x21:Int)(x22:Option Addr)(x23 x24:Nat)(x25:Option Addr)(x26 x27:Nat)(x28:Option Addr)(x29 x30:Nat)(x31:Option Addr)(x32 x33:Nat):List Value:=[.int .i64 2,.int .i64 x0,.int .i64 x1,.int .i64 x2,.int .i64 x3,.int .i64 x4,.int .i64 x5,.int .i64 x6,.int .i64 x7,.int .i64 x8,.int .i64 x9,.int .i64 x10,.int .i64 x11,.int .i64 x12,.int .i64 x13,.int .i64 x14,.int .i64 x15,.int .i64 x16,.int .i64 x17,.int .i64 x18,.int .i64 x19,.int .i64 x20,.int .i64 x21,.slice x22 x23 x24,.slice x25 x26 x27,.slice x28 x29 x30,.slice x31 x32 x33]
abbrev jA(x0 x1 x2 x3 x4 x5 x6 x7 x8 x9 x10 x11 x12 x13 x14 x15 x16 x17 x18 x19 x20 x21:Int)(x22:Option Addr)(x23 x24:Nat)(x25:Option Addr)(x26 x27:Nat)(x28:Option Addr)(x29 x30:Nat)(x31:Option Addr)(x32 x33:Nat):List Value:=[.int .i64 5,.int .i64 x0,.int .i64 x1,.int .i64 x2,.int .i64 x3,.int .i64 x4,.int .i64 x5,.int .i64 x6,.int .i64 x7,.int .i64 x8,.int .i64 x9,.int .i64 x10,.int .i64 x11,.int .i64 x12,.int .i64 x13,.int .i64 x14,.int .i64 x15,.int .i64 x16,.int .i64 x17,.int .i64 x18,.int .i64 x19,.int .i64 x20,.int .i64 x21,.slice x22 x23 x24,.slice x25 x26 x27,.slice x28 x29 x30,.slice x31 x32 x33]
abbrev fI(x0 x1 x2 x3 x4 x5 x6 x7 x8 x9 x10 x11 x12 x13 x14 x15:Int)(x16:Option Addr)(x17 x18:Nat):List Value:=[.int .i64 x0,.int .i64 x1,.int .i64 x2,.int .i64 x3,.int .i64 x4,.int .i64 x5,.int .i64 x6,.int .i64 x7,.int .i64 x8,.int .i64 x9,.int .i64 x10,.int .i64 x11,.int .i64 x12,.int .i64 x13,.int .i64 x14,.int .i64 x15,.bool false,.slice x16 x17 x18]
abbrev eS(x0 x1 x2 x3 x4 x5 x6 x7 x8 x9 x10 x11 x12 x13 x14:Int):List Value:=[.int .i64 x0,.int .i64 x1,.int .i64 x2,.int .i64 x3,.int .i64 x4,.int .i64 x5,.int .i64 x6,.int .i64 x7,.int .i64 x8,.int .i64 x9,.int .i64 x10,.int .i64 x11,.int .i64 x12,.int .i64 x13,.int .i64 x14]
abbrev qM(x0:Int):List Value:=[.int .i64 x0,.int .i64 0,.int .i64 0,.int .i64 0,.int .i64 0,.int .i64 0,.int .i64 0,.int .i64 0,.int .i64 0,.int .i64 0,.int .i64 0,.int .i64 0,.int .i64 0,.int .i64 0,.int .i64 0,.int .i64 0,.bool false,.slice none 0 0]
abbrev jB:List Value:=[.int .i64 0,.int .i64 0,.int .i64 0,.int .i64 0,.int .i64 0,.int .i64 0,.int .i64 0,.int .i64 0,.int .i64 0,.int .i64 0,.int .i64 0,.int .i64 0]
abbrev dm(x0 x1:Int)(x2:Option Addr)(x3 x4:Nat):List Value:=[.int .i64 x0,.int .i64 x1,.slice x2 x3 x4,.slice none 0 0]
abbrev rG:List Value:=[.int .i64 0,.int .i64 0,.int .i64 0,.int .i64 0,.int .i64 0,.int .i64 0,.int .i64 0,.int .i64 0,.int .i64 0,.int .i64 0,.int .i64 0,.int .i64 0,.int .i64 0,.int .i64 0,.int .i64 0]
abbrev kd(x0 x1 x2 x3 x4 x5:Int):List Value:=[.int .i64 x0,.int .i64 x1,.int .i64 x2,.int .i64 x3,.int .i64 x4,.int .i64 x5]
abbrev sO(x0 x1 x2 x3 x4 x5 x6 x7 x8 x9 x10 x11 x12 x13 x14:Int):List Value:=[.int .i64 3,.int .i64 0,.int .i64 0,.int .i64 0,.int .i64 x0,.int .i64 x1,.int .i64 x2,.int .i64 x3,.int .i64 x4,.int .i64 x5,.int .i64 x6,.int .i64 x7,.int .i64 x8,.int .i64 x9,.int .i64 x10,.int .i64 x11,.int .i64 x12,.int .i64 x13,.int .i64 x14,.int .i64 0,.int .i64 0,.int .i64 0,.int .i64 0,.slice none 0 0,.slice none 0 0,.slice none 0 0,.slice none 0 0]
abbrev sP(x0 x1 x2 x3 x4 x5:Int)(x6:Option Addr)(x7 x8:Nat)(x9:Option Addr)(x10 x11:Nat)(x12:Option Addr)(x13 x14:Nat)(x15:Option Addr)(x16 x17:Nat):List Value:=[.int .i64 1,.int .i64 x0,.int .i64 0,.int .i64 x1,.int .i64 0,.int .i64 0,.int .i64 0,.int .i64 0,.int .i64 0,.int .i64 0,.int .i64 0,.int .i64 0,.int .i64 0,.int .i64 0,.int .i64 0,.int .i64 0,.int .i64 0,.int .i64 0,.int .i64 0,.int .i64 x2,.int .i64 x3,.int .i64 x4,.int .i64 x5,.slice x6 x7 x8,.slice x9 x10 x11,.slice x12 x13 x14,.slice x15 x16 x17]
abbrev dq(x0:Bool)(x1 x2:Int):List Value:=[.bool x0,.int .i64 x1,.int .i64 x2]
abbrev sg:List Value:=[.int .i64 0,.int .i64 0,.int .i64 0,.int .i64 0,.int .i64 0,.int .i64 0,.int .i64 0,.int .i64 0,.int .i64 0,.int .i64 0,.int .i64 0,.int .i64 0,.int .i64 0,.int .i64 0,.int .i64 0,.int .i64 0]
abbrev rH:List Value:=[.int .i64 0,.int .i64 0,.int .i64 0,.int .i64 0,.int .i64 0,.int .i64 0,.int .i64 0]
abbrev qN(x0 x1:Int):List Value:=[.int .i64 x0,.int .i64 x1,.slice none 0 0,.slice none 0 0]
abbrev kB(x0:Int)(x1:Option Addr)(x2 x3:Nat)(x4:Option Addr)(x5 x6:Nat):List Value:=[.int .i64 1000000000,.int .i64 x0,.slice x1 x2 x3,.slice x4 x5 x6]
abbrev kC(x0 x1:Int):List Value:=[.int .i64 x0,.int .i64 3,.int .i64 x1]
abbrev pH(x0 x1:Int):List Value:=[.int .i64 x0,.int .i64 1,.int .i64 x1]
abbrev nk:List Value:=[.bool false,.int .i64 0,.int .i64 0]
theorem Hd{p:Prop}(h:p):H9 p:=h
abbrev Rt(f:FuncId)(xs:Array Value)(w:World)(v:Value):Prop:=Calls prog f xs w fun e w'=>e=.returned v∧Below w.heap.size w w'
abbrev Rq(f:FuncId)(xs:Array Value)(w:World)(v:Value):Prop:=Calls prog f xs w fun e w'=>e=.returned v∧w'=w
theorem tk(i:Nat)(v:Value){a:Act}(hy:∀w,S w→(execOp a.eval oi).run P w=.ok (.value v) w)(h:wpAnyH P md ops (NoPanic Q) S tg (th.setIfInBounds i true) (a.put oi.dst v) w)(hi:ops[i]?=some oi:=by rfl)(hb:(Region.noSelect ops&&Region.free md ops th i&&(Region.ready md ops th).contains i&&Region.wanted oi (yielded ops a.tmps))=true:=by kernel_rfl)(hS:S w:=by assumption):wpAnyH P md ops (NoPanic Q) S (tg+1) th a w:=by
  simp only[tZ]at hb
  exact wpAnyH_take hi hb.1.1.1 hb.1.1.2 hb.1.2 (fun _ _ _ h=>h) (Or.inl ⟨hb.2,hy⟩) hS h
theorem sk(i:Nat){a:Act}(h:wpAnyH P md ops (NoPanic Q) S tg (th.setIfInBounds i true) (a.put oi.dst undef) w)(hi:ops[i]?=some oi:=by rfl)(hb:(Region.noSelect ops&&Region.free md ops th i&&(Region.ready md ops th).contains i&&!Region.wanted oi (yielded ops a.tmps))=true:=by kernel_rfl)(hS:S w:=by assumption):wpAnyH P md ops (NoPanic Q) S (tg+1) th a w:=by
  simp only[tZ,Bool.not_eq_true']at hb
  exact wpAnyH_take hi hb.1.1.1 hb.1.1.2 hb.1.2 (fun _ _ _ h=>h) (Or.inr ⟨hb.2,rfl⟩) hS h
theorem ba{a:Act}(i:Nat){o:Oper}(h:∀K':Act→World→Prop,Shut (∀a w,S w→(S w→wpAnyH P md ops Q S tg (th.setIfInBounds i true) a w)→K' a w)→if Region.wanted o (yielded ops a.tmps)=true then Oper.wp P o a w K' Q else K' (a.put o.dst undef) w)(ho:ops[i]?=some o:=by rfl)(hr:Region.ready md ops th=[i]:=by kernel_rfl):wpAnyH P md ops Q S (tg+1) th a w:=
  tY hr (by simp) (tD ho h tM)
theorem bt{a:Act}(h:Q .normal a w)(hr:Region.ready md ops th=[]:=by kernel_rfl):wpAnyH P md ops (NoPanic Q) S tg th a w:=wpAnyH_done hr (NoPanic.normal h) _
namespace M
def el(a:Int):Bool:=decide (0≤a∧a<65537)
theorem el_iff(a:Int):el a=true↔0≤a∧a<65537:=by simp[el]
theorem el_not(a:Int):el a=false↔a<0∨65537≤a:=by simp[el];omega
def add(a b:Int):Int:=if el a=true∧el b=true then(a+b)%65537 else -1
def sub(a b:Int):Int:=if el a=true∧el b=true then(a+65537-b)%65537 else -1
def mul(a b:Int):Int:=if el a=true∧el b=true then a*b%65537 else -1
theorem add_in(ha:el a=true)(hb:el b=true):add a b=(a+b)%65537:=by simp[add,ha,hb]
theorem sub_in(ha:el a=true)(hb:el b=true):sub a b=(a+65537-b)%65537:=by simp[sub,ha,hb]
theorem mul_in(ha:el a=true)(hb:el b=true):mul a b=a*b%65537:=by simp[mul,ha,hb]
theorem add_l(h:el a=false):add a b=-1:=by simp[add,h]
theorem add_r(h:el b=false):add a b=-1:=by simp[add,h]
theorem sub_l(h:el a=false):sub a b=-1:=by simp[sub,h]
theorem sub_r(h:el b=false):sub a b=-1:=by simp[sub,h]
theorem mul_l(h:el a=false):mul a b=-1:=by simp[mul,h]
theorem mul_r(h:el b=false):mul a b=-1:=by simp[mul,h]
theorem mul_bd(ha:0≤a)(ha':a<65537)(hb:0≤b)(hb':b<65537):0≤a*b∧a*b≤4294967296:=by
 refine⟨Int.mul_nonneg ha hb,?_⟩;have h1:a*b≤65536*b:=Int.mul_le_mul_of_nonneg_right (by omega) hb;omega
end M
namespace M
def pw(x:Int)(n:Nat):Int:=x ^ n%65537
theorem pw_bd(x:Int)(n:Nat):0≤pw x n∧pw x n<65537:=by unfold pw;omega
theorem pow_emod(a:Int)(n:Nat):(a%65537) ^ n%65537=a ^ n%65537:=by
 induction n with
 | zero=>simp
 | succ n ih=>rw[Int.pow_succ,Int.pow_succ,Int.mul_emod,ih,Int.emod_emod_of_dvd _ (Int.dvd_refl _),←Int.mul_emod]
def PInv(x:Int)(N:Nat)(out a:Int)(n:Nat):Prop:=out*a ^ n%65537=x ^ N%65537
theorem pinv_start(x:Int)(N:Nat):PInv x N 1 x N:=by simp[PInv]
theorem sq_pow(a:Int)(k:Nat):(a*a) ^ k=a ^ (2*k):=by
 rw[Int.pow_mul,Int.pow_succ,Int.pow_succ,Int.pow_zero,Int.one_mul]
theorem pinv_even(h:PInv x N out a n)(e:n%2=0):PInv x N out (a*a%65537) (n/2):=by
 unfold PInv at *;rw[Int.mul_emod,pow_emod,sq_pow,show 2*(n/2)=n by omega,←Int.mul_emod];exact h
theorem pinv_odd(h:PInv x N out a n)(e:n%2=1):PInv x N (out*a%65537) (a*a%65537) (n/2):=by
 unfold PInv at *;have hn:n=2*(n/2)+1:=by omega
 have ha:a ^ n=a*a ^ (2*(n/2)):=by
  conv=>lhs;rw[hn]
  rw[Int.pow_succ,Int.mul_comm]
 rw[Int.mul_emod,pow_emod,sq_pow,Int.emod_emod_of_dvd _ (Int.dvd_refl _),←Int.mul_emod,Int.mul_assoc,←ha];exact h
theorem pinv_end(h:PInv x N out a 0)(h0:0≤out)(h1:out<65537):out=pw x N:=by
 unfold PInv at h;unfold pw;rw[Int.pow_zero,Int.mul_one,Int.emod_eq_of_lt h0 h1]at h;exact h
def pow(a n:Int):Int:=if el a=true∧0≤n then pw a n.toNat else -1
theorem pow_in{n:Int}(h:el a=true)(hn:0≤n):pow a n=pw a n.toNat:=by simp[pow,h,hn]
end M
namespace M
def inv(a:Int):Int:=if el a=true∧a≠0 then pw a 65535 else -1
theorem inv_in(h:el a=true)(h0:a≠0):inv a=pw a 65535:=by simp[inv,h,h0]
theorem inv_l(h:el a=false):inv a=-1:=by simp[inv,h]
theorem inv_0:inv 0=-1:=by simp[inv]
def two(n:Int):Bool:=(List.range 17).any fun i=>n==(2:Int) ^ i
theorem two_iff(n:Int):two n=true↔∃i:Nat,i≤16∧n=(2:Int) ^ i:=by
 simp only[two,List.any_eq_true,List.mem_range,beq_iff_eq]
 constructor
 ·rintro⟨i,hi,e⟩;exact⟨i,by omega,e⟩
 ·rintro⟨i,hi,e⟩;exact⟨i,by omega,e⟩
theorem two_le16(h:i≤16):(1:Int)≤2 ^ i∧(2:Int) ^ i≤65536:=by
 have:i=0∨i=1∨i=2∨i=3∨i=4∨i=5∨i=6∨i=7∨i=8∨i=9∨i=10∨i=11∨i=12∨i=13∨i=14∨i=15∨i=16:=by omega
 rcases this with h | h | h | h | h | h | h | h | h | h | h | h | h | h | h | h | h <;> subst h <;> decide
theorem two_bd{n:Int}(h:two n=true):1≤n∧n≤65536:=by
 obtain⟨i,hi,rfl⟩:=(two_iff n).1 h;exact two_le16 hi
def TwoInv(n p:Int):Prop:=∃j:Nat,j≤17∧p=(2:Int) ^ j∧∀i,i<j→n≠(2:Int) ^ i
theorem tinv_start(n:Int):TwoInv n 1:=⟨0,by omega,by simp,fun i h=>by omega⟩
theorem tinv_hit{n:Int}(h:TwoInv n p)(hp:p≤65536)(e:p=n):two n=true:=by
 obtain⟨j,hj,rfl,_⟩:=h;refine(two_iff n).2 ⟨j,?_,e.symm⟩;by_cases Aa:j=17
 ·subst Aa;exact absurd hp (by decide)
 ·omega
theorem tinv_step{n:Int}(h:TwoInv n p)(hp:p≤65536)(e:p≠n):TwoInv n (2*p):=by
 obtain⟨j,hj,rfl,hn⟩:=h;have hj':j≠17:=(by intro e17;subst e17;exact absurd hp (by decide));refine⟨j+1,by omega,by rw[Int.pow_succ,Int.mul_comm],fun i hi=>?_⟩;by_cases e2:i=j
 ·subst e2;exact fun h=>e h.symm
 ·exact hn i (by omega)
theorem tinv_end{n:Int}(h:TwoInv n p)(hp:65536<p):two n=false:=by
 obtain⟨j,hj,rfl,hn⟩:=h
 have hj':j=17:=by
  by_cases e:j≤16
  ·have:=(two_le16 e).2;omega
  ·omega
 subst hj'
 cases ht:two n with
 | false=>rfl
 | true=>obtain⟨i,hi,e⟩:=(two_iff n).1 ht;exact absurd e (hn i (by omega))
theorem dvd_two_pow(m n:Nat)(h:n∣2 ^ m):∃i,i≤m∧n=2 ^ i:=by
 induction m generalizing n with
 | zero=>exact⟨0,tr _,by simpa using h⟩
 | succ m ih=>
  rcases Nat.mod_two_eq_zero_or_one n with e | e
  ·
   obtain⟨c,rfl⟩:=Nat.dvd_of_mod_eq_zero e;rw[Nat.pow_succ,Nat.mul_comm]at h;obtain⟨i,hi,hc⟩:=ih c (Nat.dvd_of_mul_dvd_mul_right (k:=2) (by omega) (by first | exact h | (rw[Nat.mul_comm c 2,Nat.mul_comm (2 ^ m) 2];exact h)))
   exact⟨i+1,by omega,by rw[hc,Nat.pow_succ,Nat.mul_comm]⟩
  ·
   have hc:Nat.Coprime n 2:=by
    have h2:Nat.gcd n 2∣2:=Nat.gcd_dvd_right n 2;have h1:Nat.gcd n 2∣n:=Nat.gcd_dvd_left n 2;have Aa:=Nat.le_of_dvd (by omega) h2;have Ba:0<Nat.gcd n 2:=Nat.gcd_pos_of_pos_right n (by omega);have Ca:Nat.gcd n 2≠2:=(by intro e2;rw[e2]at h1;omega);show Nat.gcd n 2=1;omega
   rw[Nat.pow_succ]at h;obtain⟨i,hi,e2⟩:=ih n (hc.dvd_of_dvd_mul_right h);exact⟨i,by omega,e2⟩
theorem two_div{n:Int}(h0:1≤n):two n=true↔65536%n=0:=by
 rw[two_iff]
 constructor
 ·
  rintro⟨i,hi,rfl⟩;have:i=0∨i=1∨i=2∨i=3∨i=4∨i=5∨i=6∨i=7∨i=8∨i=9∨i=10∨i=11∨i=12∨i=13∨i=14∨i=15∨i=16:=by omega
  rcases this with h | h | h | h | h | h | h | h | h | h | h | h | h | h | h | h | h <;> subst h <;> decide
 ·
  intro h;obtain⟨m,rfl⟩:=Int.eq_ofNat_of_zero_le (show 0≤n by omega)
  have h':65536%m=0:=by
   have:((65536%m:Nat):Int)=0:=(by rw[Int.natCast_emod];exact h);omega
  obtain⟨i,hi,e⟩:=dvd_two_pow 16 m (Nat.dvd_of_mod_eq_zero h');exact⟨i,hi,by rw[e];simp⟩
def root(n:Int):Int:=if two n=true then pw 3 (65536/n).toNat else -1
theorem root_in{n:Int}(h:two n=true):root n=pw 3 (65536/n).toNat:=by simp[root,h]
theorem root_out{n:Int}(h:two n=false):root n=-1:=by simp[root,h]
end M
namespace M
end M
namespace M
def sq(x:Nat):Nat:=x*x%65537
def it:Nat→Nat→Nat
 | 0,x=>x
 | k+1,x=>it k (sq x)
theorem natpow_mod(a n:Nat):(a%65537) ^ n%65537=a ^ n%65537:=(Nat.pow_mod a n 65537).symm
theorem sq_pow'(x n:Nat):sq x ^ n%65537=x ^ (2*n)%65537:=by
 unfold sq;rw[natpow_mod,Nat.pow_mul,Nat.pow_succ,Nat.pow_one]
theorem it_pow(k x:Nat):it k x%65537=x ^ (2 ^ k)%65537:=by
 induction k generalizing x with
 | zero=>simp[it]
 | succ k ih=>
  show it k (sq x)%65537=_;rw[ih,sq_pow',Nat.pow_succ,Nat.mul_comm]
theorem small_ok:(List.range 257).all (fun a=>a==0||it 16 a%65537==1)=true:=by decide +kernel
theorem small_no:(List.range 257).all (fun q=>q≤1||65537%q != 0)=true:=by decide +kernel
theorem neg_one(k:Nat)(hk:k=16):65536 ^ (2 ^ k)%65537=1:=by
 rw[←it_pow,hk];decide +kernel
theorem fermat_nat(k:Nat)(hk:k=16)(a:Nat)(h0:0<a)(h1:a<65537):a ^ (2 ^ k)%65537=1:=by
 induction a using Nat.strongRecOn with
 | _ a ih=>
  by_cases hs:a≤256
  ·
   have h:=List.all_eq_true.1 small_ok a (List.mem_range.2 (by omega));simp only[Bool.or_eq_true,beq_iff_eq]at h
   rcases h with h | h
   ·omega
   ·rw[←it_pow,hk,h]
  ·
   have hq:65537/a<257:=(Nat.div_lt_iff_lt_mul h0).2 (by omega);have Aa:0<65537/a:=Nat.div_pos (by omega) h0;have hd:=Nat.div_add_mod 65537 a;have hr:65537%a<a:=Nat.mod_lt _ h0
   have Ba:0<65537%a:=by
    rcases Nat.eq_zero_or_pos (65537%a)with e | e
    ·
     exfalso
     rw[e,Nat.add_zero]at hd;have h:=List.all_eq_true.1 small_no (65537/a) (List.mem_range.2 hq);simp only[Bool.or_eq_true,decide_eq_true_eq,bne_iff_ne]at h
     rcases h with h | h
     ·
      have e1:65537/a=1:=(by omega);rw[e1]at hd;omega
     ·
      apply h;have:65537=65537/a*a:=(by rw[Nat.mul_comm];exact hd.symm);exact Nat.mod_eq_zero_of_dvd ⟨a,this⟩
    ·exact e
   have Ca:=ih (65537%a) hr Ba (by omega);have Da:=ih (65537/a) (by omega) Aa (by omega);have Ea:=neg_one k hk;generalize 65537/a=q at *;generalize 65537%a=r at *
   have hc:(a*q)%65537=(65536*r)%65537:=by
    have e1:a*q+r*65537=65536*r+65537:=(by omega);have e2:(a*q+r*65537)%65537=(a*q)%65537:=(by rw[Nat.add_mul_mod_self_right]);rw[←e2,e1,Nat.add_mod_right]
   generalize 2 ^ k=E at *;have hp:(a*q) ^ E%65537=(65536*r) ^ E%65537:=(by rw[Nat.pow_mod,hc,←Nat.pow_mod]);rw[Nat.mul_pow,Nat.mul_pow,Nat.mul_mod,Da,Nat.mul_one,Nat.mod_mod,Nat.mul_mod,Ea,Ca]at hp;exact hp
theorem fermat_k(k:Nat)(hk:k=16)(h0:0<a)(h1:a<65537):pw a (2 ^ k)=1:=by
 obtain⟨n,rfl⟩:=Int.eq_ofNat_of_zero_le (show 0≤a by omega);have h:=fermat_nat k hk n (by omega) (by omega);unfold pw;have:(((n ^ (2 ^ k)%65537:Nat)):Int)=1:=(by rw[h];rfl);rw[Int.natCast_emod,Int.natCast_pow]at this;exact this
theorem fermat(h0:0<a)(h1:a<65537):pw a 65536=1:=fermat_k 16 rfl h0 h1
theorem el_pw(x:Int)(n:Nat):el (pw x n)=true:=(el_iff _).2 (pw_bd x n)
theorem pw_pw(x:Int)(m n:Nat):pw (pw x m) n=pw x (m*n):=by
 unfold pw;rw[pow_emod,Int.pow_mul]
theorem three_k(k:Nat)(hk:k=15):pw 3 (2 ^ k)=65536:=by
 have h:(3:Nat) ^ (2 ^ k)%65537=65536:=(by rw[←it_pow,hk];decide +kernel);unfold pw;have:(((3 ^ (2 ^ k)%65537:Nat)):Int)=65536:=(by rw[h];rfl);rw[Int.natCast_emod,Int.natCast_pow]at this;exact this
theorem three_half:pw 3 32768=65536:=three_k 15 rfl
theorem two_cases{n:Int}(h:two n=true):n=1∨(∃i:Nat,i≤15∧n=2*(2:Int) ^ i):=by
 obtain⟨i,hi,rfl⟩:=(two_iff n).1 h
 cases i with
 | zero=>left;simp
 | succ i=>right;exact⟨i,by omega,by rw[Int.pow_succ,Int.mul_comm]⟩
theorem div_mul_two{n:Int}(h:two n=true):(65536/n).toNat*n.toNat=65536:=by
 have hb:=two_bd h;have hm:=(two_div hb.1).1 h;have h2:=Int.mul_ediv_add_emod 65536 n;rw[hm,Int.add_zero]at h2;have h0:0≤65536/n:=Int.ediv_nonneg (by omega) (by omega);apply Int.ofNat.inj;show(((65536/n).toNat*n.toNat:Nat):Int)=65536;rw[Int.natCast_mul,Int.toNat_of_nonneg h0,Int.toNat_of_nonneg (by omega),Int.mul_comm];exact h2
theorem root_el{n:Int}(h:two n=true):el (root n)=true:=by rw[root_in h];exact el_pw _ _
theorem root_pow{n:Int}(h:two n=true):pow (root n) n=1:=by
 have hb:=two_bd h;rw[pow_in (root_el h) (by omega),root_in h,pw_pw,div_mul_two h];exact fermat (by omega) (by omega)
theorem root_half{n:Int}(h:two n=true)(h1:n≠1):pow (root n) (n/2)=65536:=by
 have hb:=two_bd h;rw[pow_in (root_el h) (by omega),root_in h,pw_pw];have hd:=div_mul_two h
 rcases two_cases h with e | ⟨i,hi,e⟩
 ·exact absurd e h1
 ·
  have e2:n.toNat=2*(n/2).toNat:=by
   have:n=2*(n/2):=(by rw[e];omega);omega
  have e3:(65536/n).toNat*(n/2).toNat=32768:=by
   rw[e2]at hd;have:2*((65536/n).toNat*(n/2).toNat)=65536:=(by rw[←hd,Nat.mul_left_comm]);omega
  rw[e3];exact three_half
end M
namespace M
def cg(a b:Int):Prop:=a%65537=b%65537
theorem cg_iff:cg a b↔∃k,a=b+65537*k:=by
 unfold cg
 constructor
 ·intro h;exact⟨a/65537-b/65537,by omega⟩
 ·rintro⟨k,rfl⟩;omega
theorem cg.refl(a:Int):cg a a:=rfl
theorem cg.symm(h:cg a b):cg b a:=Eq.symm h
theorem cg.trans{c:Int}(h:cg a b)(h2:cg b c):cg a c:=Eq.trans h h2
theorem cg.add{c d:Int}(h:cg a b)(h2:cg c d):cg (a+c) (b+d):=by
 rw[cg_iff]at *;obtain⟨k,rfl⟩:=h;obtain⟨l,rfl⟩:=h2;exact⟨k+l,by grind⟩
theorem cg.sub{c d:Int}(h:cg a b)(h2:cg c d):cg (a-c) (b-d):=by
 rw[cg_iff]at *;obtain⟨k,rfl⟩:=h;obtain⟨l,rfl⟩:=h2;exact⟨k-l,by grind⟩
theorem cg.mul{c d:Int}(h:cg a b)(h2:cg c d):cg (a*c) (b*d):=by
 rw[cg_iff]at *;obtain⟨k,rfl⟩:=h;obtain⟨l,rfl⟩:=h2;exact⟨k*d+b*l+65537*k*l,by grind⟩
theorem cg.pow(h:cg a b)(n:Nat):cg (a ^ n) (b ^ n):=by
 induction n with
 | zero=>rw[Int.pow_zero,Int.pow_zero];exact cg.refl _
 | succ n ih=>rw[Int.pow_succ,Int.pow_succ];exact ih.mul h
theorem cg_mod(a:Int):cg (a%65537) a:=by unfold cg;omega
theorem cg_of_eq(h:a=b):cg a b:=by rw[h];exact cg.refl _
theorem cg_pw(x:Int)(n:Nat):cg (pw x n) (x ^ n):=cg_mod _
def pv:List Int→Int→Int
 | [],_=>0
 | c::r,x=>c+x*pv r x
def ss(z:Nat→Int)(f s:Nat):Nat→Int→Int
 | 0,_=>0
 | c+1,x=>z f+x*ss z (f+s) s c x
theorem ss_cg(h:cg x y)(z:Nat→Int)(s c:Nat):∀f,cg (ss z f s c x) (ss z f s c y):=by
 induction c with
 | zero=>intro f;exact cg.refl _
 | succ c ih=>intro f;exact(cg.refl _).add (h.mul (ih _))
theorem ss_split(z:Nat→Int)(s c:Nat)(x:Int):∀f,ss z f s (2*c) x=ss z f (2*s) c (x*x)+x*ss z (f+s) (2*s) c (x*x):=by
 induction c with
 | zero=>intro f;simp[ss]
 | succ c ih=>
  intro f;have e:=ih (f+s+s);rw[show 2*(c+1)=2*c+1+1 by omega];simp only[ss];rw[e,show f+s+s=f+2*s by omega,show f+2*s+s=f+s+2*s by omega];generalize ss z (f+2*s) (2*s) c (x*x)=A;generalize ss z (f+s+2*s) (2*s) c (x*x)=B
  grind
theorem pv_ss(l:List Int)(x:Int):∀c f,f+c=l.length→ss (fun i=>l.getD i 0) f 1 c x=pv (l.drop f) x:=by
 intro c
 induction c with
 | zero=>intro f h;rw[tC (by omega)];rfl
 | succ c ih=>
  intro f h;rw[List.drop_eq_getElem_cons (by omega)];simp only[ss,pv];rw[ih (f+1) (by omega),tu,tw (by omega)];rfl
theorem pv_all(l:List Int)(x:Int):ss (fun i=>l.getD i 0) 0 1 l.length x=pv l x:=by
 have:=pv_ss l x l.length 0 (by omega);simpa using this
theorem pv_cg(h:cg x y)(l:List Int):cg (pv l x) (pv l y):=by
 rw[←pv_all,←pv_all];exact ss_cg h _ _ _ _
def fv(z:Nat→Int)(r:Int)(f s c j:Nat):Int:=ss z f s c (r ^ (s*j))%65537
theorem fv_bd(z:Nat→Int)(r:Int)(f s c j:Nat):0≤fv z r f s c j∧fv z r f s c j<65537:=by unfold fv;omega
theorem pw_two(r:Int)(s j:Nat):r ^ (2*s*j)=r ^ (s*j)*r ^ (s*j):=by
 rw[←Int.pow_add];congr 1;grind
theorem fv_lo(z:Nat→Int)(r:Int)(f s c j:Nat):(fv z r f (2*s) c j+fv z r (f+s) (2*s) c j*(r ^ (j*s)%65537)%65537)%65537=fv z r f s (2*c) j:=by
 unfold fv;rw[ss_split,pw_two,Nat.mul_comm j s];generalize ss z f (2*s) c (r ^ (s*j)*r ^ (s*j))=A;generalize ss z (f+s) (2*s) c (r ^ (s*j)*r ^ (s*j))=B;generalize r ^ (s*j)=y
 have h:cg (A%65537+B%65537*(y%65537)%65537) (A+y*B):=
  (cg_mod A).add ((cg_mod _).trans (((cg_mod B).mul (cg_mod y)).trans (cg_of_eq (Int.mul_comm _ _))))
 exact h
theorem fv_hi(z:Nat→Int)(r:Int)(f s c j:Nat)(h1:cg (r ^ (s*c)) (-1)):(fv z r f (2*s) c j+65537-fv z r (f+s) (2*s) c j*(r ^ (j*s)%65537)%65537)%65537=fv z r f s (2*c) (j+c):=by
 unfold fv;rw[ss_split,pw_two,Nat.mul_comm j s]
 have e:cg (r ^ (s*(j+c))) (-(r ^ (s*j))):=by
  rw[Nat.mul_add,Int.pow_add];have:=(cg.refl (r ^ (s*j))).mul h1;rw[Int.mul_neg,Int.mul_one]at this;exact this
 have e2:cg (r ^ (s*(j+c))*r ^ (s*(j+c))) (r ^ (s*j)*r ^ (s*j)):=by
  have:=e.mul e;rw[Int.neg_mul_neg]at this;exact this
 have hA:=ss_cg e2 z (2*s) c f;have hB:=ss_cg e2 z (2*s) c (f+s);generalize ss z f (2*s) c (r ^ (s*j)*r ^ (s*j))=A at *;generalize ss z (f+s) (2*s) c (r ^ (s*j)*r ^ (s*j))=B at *;generalize ss z f (2*s) c (r ^ (s*(j+c))*r ^ (s*(j+c)))=A' at hA ⊢;generalize ss z (f+s) (2*s) c (r ^ (s*(j+c))*r ^ (s*(j+c)))=B' at hB ⊢;generalize r ^ (s*(j+c))=y' at e ⊢;generalize r ^ (s*j)=y at *
 have h:cg (A%65537+65537-B%65537*(y%65537)%65537) (A'+y'*B'):=by
  have h2:cg (A%65537+65537) A:=(by unfold cg;omega);refine(h2.sub ((cg_mod _).trans ((cg_mod B).mul (cg_mod y)))).trans ?_;refine cg.trans ?_ (hA.symm.add (e.symm.mul hB.symm));exact cg_of_eq (by grind)
 exact h
theorem fv_one(z:Nat→Int)(r:Int)(f s:Nat)(h0:0≤z f)(h1:z f<65537):z f=fv z r f s 1 0:=by
 unfold fv;simp only[ss];rw[Int.mul_zero,Int.add_zero,Int.emod_eq_of_lt h0 h1]
theorem pv_append(a b:List Int)(x:Int):pv (a++b) x=pv a x+x ^ a.length*pv b x:=by
 induction a with
 | nil=>simp[pv]
 | cons c r ih=>
  simp only[List.cons_append,pv,List.length_cons];rw[ih,Int.pow_succ];generalize x ^ r.length=y
  grind
theorem pv_take(zs:List Int)(x:Int)(h:i<zs.length):pv (zs.take (i+1)) x=pv (zs.take i) x+zs.getD i 0*x ^ i:=by
 rw[tK h,pv_append,ua,Nat.min_eq_left (by omega),tu,tw h];simp only[pv,Option.getD_some]
 grind
end M
theorem bQ{k:IntKind}(h:a=b):Ending.returned (.int k a)=.returned (.int k b):=by rw[h]
theorem ag{a b:Bool}(h:a=b):Ending.returned (.bool a)=.returned (.bool b):=by rw[h]
theorem bD(a:Int)(w:World):
  Rq 163 #[.int .i64 a] w (.bool (M.el a)):=by
 by_cases h0:0≤a
 ·
  by_cases h1:a<65537
  ·
   have e:M.el a=true:=(by simp[M.el,h0,h1]);have E:=Hd (e);clear e;go_enter func163,ntmps163;go_wp2;go_ret;exact⟨ag E.o.symm,rfl⟩
  ·
   have e:M.el a=false:=(by simp[M.el];omega);have E:=Hd (e);clear e;go_enter func163,ntmps163;go_wp2;go_ret;exact⟨ag E.o.symm,rfl⟩
 ·
  have e:M.el a=false:=(by simp[M.el];omega);have E:=Hd (e);clear e;go_enter func163,ntmps163;go_wp2;go_ret;exact⟨ag E.o.symm,rfl⟩
theorem dc(a:Int)(w:World)(h0:0≤a)(h1:a<65537):
  Rq 245 #[.int .i64 a] w (.tuple #[.int .i64 a,.bool true]):=by
 go_enter func245,ntmps245;go_wp2
 go_ret2
 exact⟨rfl,rfl⟩
theorem dg(a:Int)(w:World)(h:a<0∨65537≤a):
  Rq 245 #[.int .i64 a] w (.tuple #[.int .i64 0,.bool false]):=by
 rcases h with h | h
 ·
  go_enter func245,ntmps245;go_wp2
  go_ret2
  exact⟨rfl,rfl⟩
 ·
  have h':¬ a<0:=(by omega);go_enter func245,ntmps245;go_wp2
  go_ret2
  exact⟨rfl,rfl⟩
theorem eh(a b:Int)(w:World)(a0:0≤a)(a1:a<65537)(b0:0≤b)(b1:b<65537):
  Rq 269 #[.int .i64 a,.int .i64 b] w (.int .i64 ((a+b)%65537)):=by
 go_enter func269,ntmps269;go_wp2;go_ret;exact⟨rfl,rfl⟩
theorem eQ(a b:Int)(w:World)(a0:0≤a)(a1:a<65537)(b0:0≤b)(b1:b<65537):
  Rq 224 #[.int .i64 a,.int .i64 b] w (.int .i64 ((a+65537-b)%65537)):=by
 go_enter func224,ntmps224;go_wp2;go_ret;exact⟨rfl,rfl⟩
theorem bM(a b:Int)(w:World)(a0:0≤a)(a1:a<65537)(b0:0≤b)(b1:b<65537):
  Rq 141 #[.int .i64 a,.int .i64 b] w (.int .i64 (a*b%65537)):=by
 have hb:=M.mul_bd a0 a1 b0 b1;obtain⟨m0,m1⟩:=hb;go_enter func141,ntmps141;go_wp2;go_ret;exact⟨rfl,rfl⟩
theorem dQ(a b:Int)(w:World):
  Rq 235 #[.int .i64 a,.int .i64 b] w (.int .i64 (M.add a b)):=by
 cases ha:M.el a with
 | true=>cases hb:M.el b with
  | true=>
   have E:H9 (M.add a b=(a+b)%65537):=M.add_in ha hb;have ha':=ha;have hb':=hb;obtain⟨a0,a1⟩:=(M.el_iff a).1 ha';obtain⟨b0,b1⟩:=(M.el_iff b).1 hb';clear ha' hb';go_enter func235,ntmps235;(go_wp2_with fail);refine(bD a _).mono ?_;rintro e w' ⟨rfl,rfl⟩;(go_wp2_with fail);refine(bD b _).mono ?_;rintro e w' ⟨rfl,rfl⟩;go_wp2;go_ret;exact⟨bQ E.o.symm,rfl⟩
  | false=>
   have E:H9 (M.add a b=-1):=M.add_r hb;go_enter func235,ntmps235;(go_wp2_with fail);refine(bD a _).mono ?_;rintro e w' ⟨rfl,rfl⟩;(go_wp2_with fail);refine(bD b _).mono ?_;rintro e w' ⟨rfl,rfl⟩;go_wp2;go_ret;exact⟨bQ E.o.symm,rfl⟩
 | false=>
  have E:H9 (M.add a b=-1):=M.add_l ha;go_enter func235,ntmps235;(go_wp2_with fail);refine(bD a _).mono ?_;rintro e w' ⟨rfl,rfl⟩;go_wp2;go_ret;exact⟨bQ E.o.symm,rfl⟩
structure ah(w:World)(a:Option Addr)(n cap:Nat)(zs:List Int):Prop where
 len:zs.length=n
 le:n≤cap
 big:(cap:Int)≤9223372036854775807
 no:a=none→n=0∧cap=0
 pos:n=0∨∃b off,a=some ⟨b,off,none⟩∧∀i,i<n→w.cell? ⟨b,off+i,none⟩=some (.int .i64 (zs.getD i 0))
theorem Below.drewN'{a:World}(h:Below B a w)(n:Nat):Below B a (w.drewN n):=⟨h.os,h.tape,h.output,h.size,h.block⟩
theorem ah.of_cells{a:Option Addr}(h:ah w a n cap zs)(hc:∀(p:Addr) (v:Value),w.cell? p=some v→(∃x,a=some x∧x.block=p.block)→w'.cell? p=some v):ah w' a n cap zs:=by
 refine⟨h.len,h.le,h.big,h.no,?_⟩
 rcases h.pos with e | ⟨b,off,e,hb⟩
 ·exact .inl e
 ·exact .inr ⟨b,off,e,fun i hi=>hc _ _ (hb i hi) ⟨_,e,rfl⟩⟩
theorem ah.below{a:Option Addr}(h:ah w a n cap zs)(hb:Below w.heap.size w w'):ah w' a n cap zs:=
 h.of_cells fun p _ hp _=>(hb.cell (p:=p) (tV w p hp)).trans hp
theorem ah.drewN{a:Option Addr}(h:ah w a n cap zs)(k:Nat):ah (w.drewN k) a n cap zs:=
 h.of_cells fun _ _ hp _=>hp
theorem ah.nil{a:Option Addr}(h:ah w a 0 cap zs):zs=[]:=List.eq_nil_of_length_eq_zero h.len
theorem ah.at{a:Option Addr}(h:ah w a n cap zs)(h0:0<n):∃b off,a=some ⟨b,off,none⟩∧∀i,i<n→w.cell? ⟨b,off+i,none⟩=some (.int .i64 (zs.getD i 0)):=by
 rcases h.pos with e | e
 ·omega
 ·exact e
theorem sU(h:zs.getD k 0≠ys.getD k 0):zs≠ys:=fun e=>h (by rw[e])
theorem sH(hl:zs.length=ys.length)(h:∀i,i<zs.length→zs.getD i 0=ys.getD i 0):zs=ys:=by
 apply List.ext_getElem hl;intro i h1 h2;have:=h i h1;simpa[tu,tw h1,tw h2]using this
theorem rZ{a b:Option Addr}(w:World)(hz:ah w a n c zs)(hy:ah w b m d ys):
  Calls prog 79 #[.slice a n c,.slice b m d] w fun e w'=>e=.returned (.bool (decide (zs=ys)))∧∃k,w'=w.drewN k:=by
 have bn:(n:Int)≤9223372036854775807:=(by have:=hz.big;have:=hz.le;omega);have bm:(m:Int)≤9223372036854775807:=(by have:=hy.big;have:=hy.le;omega);by_cases hl:n=m
 ·
  subst hl;by_cases h0:0<n
  ·
   obtain⟨b1,o1,rfl,Aa⟩:=hz.at h0;obtain⟨b2,o2,rfl,Ba⟩:=hy.at h0;have L:H9 (zs.length=n∧ys.length=n):=⟨hz.len,hy.len⟩;have Ga:=Hd (Aa);have Ha:=Hd (Ba);have Ia:((n:Int) != (n:Int))=false:=(by simp);clear hz hy Aa Ba;go_enter func79,ntmps79;go_wp2
   go_loopw [5] (fun i wr=>∃k q:Nat,k≤n∧i=it k∧wr=w.drewN q∧∀j,j<k→zs.getD j 0=ys.getD j 0) (fun i _=>n-(intOf i).toNat)
   case atStart=>exact⟨0,0,by omega,rfl,rfl,fun j h=>by omega⟩
   case round=>
    obtain⟨k,q,hk,rfl,rfl,Ca⟩:=hrel;have HA:=Hd (Ca);clear Ca;by_cases Da:k<n
    ·
     have c1:=Ga.o k Da;have c2:=Ha.o k Da;generalize hx:zs.getD k 0=x at c1;generalize Ea:ys.getD k 0=y at c2;have HX:=Hd (hx);have HY:=Hd (Ea);have hI:(k:Int)<(n:Int):=(by omega);clear hx Ea;by_cases he:x=y
     ·
      have hb:(x != y)=false:=(by simp[he]);have HE:H9 (x=y):=he;clear he;go_wp2
      go_quiet (fail)
      go_wp2;go_roundw
      case rel=>
       refine⟨k+1,_,by omega,by go_num,rfl,fun j hj=>?_⟩;by_cases e:j=k
       ·subst e;rw[HX.o,HY.o,HE.o]
       ·exact HA.o j (by omega)
      case measure=>simp[intOf];omega
     ·
      have hb:(x != y)=true:=(by simp[he]);have HE:H9 (x≠y):=he;clear he;go_wp2
      go_quiet (fail)
      go_wp2;go_ret;refine⟨ag ?_,_,World.drewN_drewN _ _ _⟩;exact(decide_eq_false (sU (k:=k) (by rw[HX.o,HY.o];exact HE.o))).symm
    ·
     have Fa:k=n:=(by omega);have HK:H9 (k=n):=Fa;clear Fa;go_wp2;go_ret;refine⟨ag ?_,_,rfl⟩;exact(decide_eq_true (sH (L.o.1.trans L.o.2.symm) (fun i hi=>HA.o i (by rw[HK.o,←L.o.1];exact hi)))).symm
  ·
   have e0:n=0:=(by omega);subst e0;have e1:=hz.nil;have e2:=hy.nil;subst e1 e2;clear hz hy;go_enter func79,ntmps79;go_wp2;refine wp_loop_rounds 1 ?_;rw[rounds_succ];go_wp2;go_ret;exact⟨rfl,0,rfl⟩
 ·
  have Ia:((n:Int) != (m:Int))=true:=(by simp;omega);have E:H9 (zs≠ys):=(by show zs≠ys;intro e;apply hl;rw[←hz.len,←hy.len,e]);clear hz hy;go_enter func79,ntmps79;go_wp2;go_ret;exact⟨ag (decide_eq_false E.o).symm,0,rfl⟩
theorem rq{a b:Option Addr}(w:World)(hz:ah w a n c zs)(hy:ah w b m d zs):
  Calls prog 79 #[.slice a n c,.slice b m d] w fun e w'=>e=.returned (.bool true)∧∃k,w'=w.drewN k:=
 (rZ w hz hy).mono fun e w' ⟨he,hk⟩=>⟨by rw[he];simp,hk⟩
theorem gV{a b:Option Addr}(w:World)(hz:ah w a n c zs)(hy:ah w b m d zs):
  Rt 79 #[.slice a n c,.slice b m d] w (.bool true):=
 (rq w hz hy).mono fun e w' ⟨he,k,hk⟩=>⟨he,by rw[hk];exact Below.drewN' (tv _ _) k⟩
def M.allEl(zs:List Int):Bool:=zs.all M.el
theorem nv(h:(zs.take k).all M.el=true)(hk:k<zs.length)(he:M.el (zs.getD k 0)=true):(zs.take (k+1)).all M.el=true:=by
 rw[tK hk,List.all_append,h];simpa[tu,tw hk]using he
theorem qR(hk:k<zs.length)(he:M.el (zs.getD k 0)=false):M.allEl zs=false:=by
 unfold M.allEl;rw[List.all_eq_false];refine⟨zs.getD k 0,?_,by rw[he];simp⟩;rw[tu,tw hk];exact List.getElem_mem _
theorem eO{a:Option Addr}(w:World)(hz:ah w a n c zs):
  Rq 133 #[.slice a n c] w (.bool (M.allEl zs)):=by
 have bn:(n:Int)≤9223372036854775807:=(by have:=hz.big;have:=hz.le;omega);have HZ:=Hd (hz);clear hz;go_enter func133,ntmps133;go_wp2
 go_loop [3] (fun i=>∃k:Nat,k≤n∧i=it k∧(zs.take k).all M.el=true) (fun i=>n-(intOf i).toNat)
 case atStart=>exact⟨0,by omega,rfl,rfl⟩
 case round=>
  obtain⟨k,hk,rfl,Ba⟩:=hrel;have HA:=Hd (Ba);clear Ba;by_cases Aa:k<n
  ·
   obtain⟨b1,o1,rfl,Ca⟩:=HZ.o.at (by omega);have c1:=Ca k Aa;clear Ca;generalize hx:zs.getD k 0=x at c1;have HX:=Hd (hx);clear hx
   cases he:M.el x with
   | true=>
    (go_wp2_with fail);refine(bD _ _).mono ?_;rintro e w' ⟨rfl,rfl⟩;have HE:=Hd (he);go_wp2
    go_round
    case rel=>exact⟨k+1,by omega,by go_num,nv HA.o (by rw[HZ.o.len];exact Aa) (by rw[HX.o];exact HE.o)⟩
    case measure=>simp[intOf];omega
   | false=>
    (go_wp2_with fail);refine(bD _ _).mono ?_;rintro e w' ⟨rfl,rfl⟩;have HE:=Hd (he);go_wp2;go_ret;exact⟨ag (qR (by rw[HZ.o.len];exact Aa) (by rw[HX.o];exact HE.o)).symm,rfl⟩
  ·
   go_wp2;go_ret;refine⟨ag ?_,rfl⟩;have h:=HA.o;rw[tF (by rw[HZ.o.len];omega)]at h;exact h.symm
def ae(W:World)(b:Nat)(vs:List Value):Prop:=(∀i,W.cell? ⟨b,i,none⟩=vs[i]?)∧(∀i,W.frozen? ⟨b,i,none⟩=false)∧b<W.heap.size
theorem aI(w:World)(vs:Array Value)(t:TypeId):ae (w.alloc (.cells vs t)) w.heap.size vs.toList:=by
  refine⟨fun i=>by rw[tH];simp,fun i=>?_,by simp⟩
  rw[frozen?_alloc_cells];simp only[World.frozen?];rw[Array.getElem?_eq_none (by simp)]
theorem aO(w:World)(o:Obj)(vs:Array Value)(t:TypeId):ae ((w.alloc o).alloc (.cells vs t)) (w.heap.size+1) vs.toList:=by
  have h:=aI (w.alloc o) vs t
  rwa[show(w.alloc o).heap.size=w.heap.size+1 by simp]at h
theorem cB(w:World)(o o':Obj)(vs:Array Value)(t:TypeId):ae (((w.alloc o).alloc o').alloc (.cells vs t)) (w.heap.size+1+1) vs.toList:=by
  have h:=aO (w.alloc o) o' vs t
  rwa[show(w.alloc o).heap.size=w.heap.size+1 by simp]at h
theorem qG(w:World)(o o' o2:Obj)(vs:Array Value)(t:TypeId):ae ((((w.alloc o).alloc o').alloc o2).alloc (.cells vs t)) (w.heap.size+1+1+1) vs.toList:=by
  have h:=cB (w.alloc o) o' o2 vs t
  rwa[show(w.alloc o).heap.size=w.heap.size+1 by simp]at h
theorem ae.at{b:Nat}(h:ae W b vs)(i:Nat):W.cell? ⟨b,i,none⟩=vs[i]?:=h.1 i
theorem ae.fr{b:Nat}(h:ae W b vs)(i:Nat):W.frozen? ⟨b,i,none⟩=false:=h.2.1 i
theorem ae.below{b:Nat}(h:ae W b vs)(hb:Below B W W')(hB:b<B):ae W' b vs:=
  ⟨fun i=>(hb.cell (p:=⟨b,i,none⟩) hB).trans (h.1 i),fun i=>(hb.frozen (p:=⟨b,i,none⟩) hB).trans (h.2.1 i),tP h.2.2 hb.size⟩
theorem ae.belowS{b:Nat}(h:ae W b vs)(hb:Below W.heap.size W W'):ae W' b vs:=h.below hb h.2.2
theorem ae.alloc{b:Nat}(h:ae W b vs)(o:Obj):ae (W.alloc o) b vs:=h.belowS ((tv _ _).alloc (tr _) o)
theorem ae.set{b:Nat}(h:ae W b vs)(i:Nat)(hi:i<vs.length)(v:Value):ae (W.setCell ⟨b,i,none⟩ v) b (vs.set i v):=by
  refine⟨fun j=>?_,fun j=>by simpa using h.2.1 j,by have:=h.2.2;simpa[World.setCell]using this⟩
  by_cases e:j=i
  · subst e
    rw[List.getElem?_set_self hi]
    exact World.cell?_setCell_same (w:=W) (a:=⟨b,j,none⟩) (v:=v) (h:=(h.1 j).trans (tw hi))
  · rw[List.getElem?_set_ne (fun h=>e h.symm)]
    exact(t6 (w:=W) (a:=⟨b,i,none⟩) (b:=⟨b,j,none⟩) (v:=v) (h:=by intro e2;simp only[Addr.mk.injEq]at e2;omega)).trans (h.1 j)
theorem ae.far{b b':Nat}(h:ae W b vs)(hb:b≠b')(i:Nat)(v:Value):ae (W.setCell ⟨b',i,none⟩ v) b vs:=
  ⟨fun j=>(t6 (w:=W) (a:=⟨b',i,none⟩) (b:=⟨b,j,none⟩) (v:=v) (h:=by intro e;simp only[Addr.mk.injEq]at e;omega)).trans (h.1 j),fun j=>by simpa using h.2.1 j,by have:=h.2.2;simpa[World.setCell]using this⟩
theorem ae.grown{b:Nat}{row:Option Nat}(h:ae w b vs)(hg:w.grownBy w' row)(hr:row≠some b):ae w' b vs:=by
  have hb:w'.heap[b]?=w.heap[b]?:=hg.block b h.2.2 (fun e'=>hr (by rw[e']))
  refine⟨fun i=>(World.cell?_of_block (a:=⟨b,i,none⟩) hb).trans (h.1 i),fun i=>(World.frozen?_of_block (a:=⟨b,i,none⟩) hb).trans (h.2.1 i),tP h.2.2 hg.size⟩
theorem ae.range{b:Nat}(h:ae W b vs)(o:Nat)(cs:List Value)(hc:∀j v,cs[j]?=some v→vs[o+j]?=some v):W.rangeAt b o cs:=
  fun j v hv=>(h.at (o+j)).trans (hc j v hv)
theorem ae.row{b:Nat}(h:ae W b vs):W.rangeAt b 0 vs:=h.range 0 vs fun j v hv=>by rw[Nat.zero_add];exact hv
theorem ae.there{b:Nat}(h:ae W b vs)(o n:Nat)(hn:o+n≤vs.length):W.there b o n:=
  fun j hj=>⟨by rw[h.at,tw (by omega)];rfl,h.fr _⟩
/-- a list with some of its cells written over -/
def j4(vs:List Value)(o:Nat)(us:List Value):List Value:=vs.take o++(us++vs.drop (o+us.length))
theorem mZ{o:Nat}{u:Value}(h:o<vs.length):j4 (vs.set o u) (o+1) us=j4 vs o (u::us):=by
  unfold j4
  rw[tK (by simpa using h),List.getElem_set_self,List.take_set_of_le (tr _),List.drop_set_of_lt (by omega),List.append_assoc]
  simp only[List.length_cons,List.cons_append,List.nil_append]
  rw[show o+(us.length+1)=o+1+us.length by omega]
theorem se(h:us.length=vs.length):j4 vs 0 us=us:=by
  unfold j4;rw[List.take_zero,List.nil_append,Nat.zero_add,h,List.drop_length,List.append_nil]
theorem ae.setCells:∀(us:List Value) {W:World} {b:Nat} {vs:List Value} (o:Nat),ae W b vs→o+us.length≤vs.length→ae (W.setCells b o us) b (j4 vs o us)
  | [],W,b,vs,o,h,_=>by
    have e:j4 vs o []=vs:=by unfold j4;rw[List.nil_append,List.length_nil,Nat.add_zero,List.take_append_drop]
    rw[e];exact h
  | u::us,W,b,vs,o,h,hl=>by
    have hl':o+(us.length+1)≤vs.length:=hl
    have:=ae.setCells us (o+1) (h.set o (by omega) u) (by rw[List.length_set];omega)
    rw[mZ (by omega)]at this
    exact this
theorem ae.farCells:∀(us:List Value) {W:World} {b b':Nat} {vs:List Value} (o:Nat),ae W b vs→b≠b'→ae (W.setCells b' o us) b vs
  | [],_,_,_,_,_,h,_=>h
  | u::us,_,_,_,_,o,h,hb=>ae.farCells us (o+1) (h.far hb o u) hb
theorem aD:∀(us:List Value) {w0 W:World} {B b:Nat} (o:Nat),Below B w0 W→B≤b→Below B w0 (W.setCells b o us)
  | [],_,_,_,_,_,h,_=>h
  | _::us,_,_,_,_,o,h,hb=>aD us (o+1) (h.setCell hb _) hb
/-- an operation whose run is known -/
theorem b9{o:Oper}{a:Act}(hgd:o.guard=none)(v:Value)(w':World)
   (hrun:(execOp a.eval o).run P w=.ok (.value v) w')(h:wpList P ops Q rest (a.put o.dst v) w'):wpList P ops Q (o::rest) a w:=by
  refine wpList_plain hgd fun K hK=>?_
  unfold Oper.wp
  rw[hrun]
  exact hK _ _ h
theorem bU{o:Oper}{a:Act}(hgd:o.guard=none)(t:TypeId)(ho:o.op=.alloc t)(cs:Array Value)
   (hrun:(Instr.alloc t true (.tuple #[])).run P w=.ok (.pointer (some ⟨w.heap.size,0,none⟩)) (w.alloc (.cells cs t)))
   (h:wpList P ops Q rest (a.put o.dst (.pointer (some ⟨w.heap.size,0,none⟩))) (w.alloc (.cells cs t))):wpList P ops Q (o::rest) a w:=by
  refine b9 hgd _ _ ?_ h
  unfold execOp
  simp only[ho,Sem.run_bind,hrun,Result.andThen_ok,Sem.run_pure]
/-- the walk is held ahead of the operation that writes the slot d -/
theorem af{o:Oper}{a:Act}(d:Tmp)(_hd:o.dst=some d)(h:H9 (wpList P ops Q (o::rest) a w)):wpList P ops Q (o::rest) a w:=h
theorem aw{o:Oper}{a:Act}(_hd:o.dst=none)(h:H9 (wpList P ops Q (o::rest) a w)):wpList P ops Q (o::rest) a w:=h
/-- results that lie in memory -/
theorem bX{fn:Func}{p:Tmp}(h:fn.results=#[.cell p ty])(hp:tmps.getD p undef=.pointer (some ad))
   (hl:(loadVar ty ad).run P w=.ok v w):(results fn tmps).run P w=.ok v w:=by
  have hp':tmps[p]?.getD undef=.pointer (some ad):=by simpa using hp
  simp[results,h,hp',asAddr,hl]
theorem iF{fn:Func}{p q:Tmp}(h:fn.results=#[.cell p ty,.tmp q])(hp:tmps.getD p undef=.pointer (some ad))
   (hl:(loadVar ty ad).run P w=.ok v w):(results fn tmps).run P w=.ok (.tuple #[v,tmps.getD q undef]) w:=by
  have hp':tmps[p]?.getD undef=.pointer (some ad):=by simpa using hp
  simp[results,h,hp',asAddr,hl]
theorem aA{fn:Func}{p q r:Tmp}(h:fn.results=#[.cell p ty,.tmp q,.tmp r])(hp:tmps.getD p undef=.pointer (some ad))
   (hl:(loadVar ty ad).run P w=.ok v w):(results fn tmps).run P w=.ok (.tuple #[v,tmps.getD q undef,tmps.getD r undef]) w:=by
  have hp':tmps[p]?.getD undef=.pointer (some ad):=by simpa using hp
  simp[results,h,hp',asAddr,hl]
theorem ey(a b:Int)(w:World):
  Rq 169 #[.int .i64 a,.int .i64 b] w (.int .i64 (M.sub a b)):=by
 cases ha:M.el a with
 | true=>cases hb:M.el b with
  | true=>
   have E:H9 (M.sub a b=(a+65537-b)%65537):=M.sub_in ha hb;have ha':=ha;have hb':=hb;obtain⟨a0,a1⟩:=(M.el_iff a).1 ha';obtain⟨b0,b1⟩:=(M.el_iff b).1 hb';clear ha' hb';go_enter func169,ntmps169;(go_wp2_with fail);refine(bD a _).mono ?_;rintro e w' ⟨rfl,rfl⟩;(go_wp2_with fail);refine(bD b _).mono ?_;rintro e w' ⟨rfl,rfl⟩;go_wp2;go_ret;exact⟨bQ (by rw[E.o];congr 1;omega),rfl⟩
  | false=>
   have E:H9 (M.sub a b=-1):=M.sub_r hb;go_enter func169,ntmps169;(go_wp2_with fail);refine(bD a _).mono ?_;rintro e w' ⟨rfl,rfl⟩;(go_wp2_with fail);refine(bD b _).mono ?_;rintro e w' ⟨rfl,rfl⟩;go_wp2;go_ret;exact⟨bQ E.o.symm,rfl⟩
 | false=>
  have E:H9 (M.sub a b=-1):=M.sub_l ha;go_enter func169,ntmps169;(go_wp2_with fail);refine(bD a _).mono ?_;rintro e w' ⟨rfl,rfl⟩;go_wp2;go_ret;exact⟨bQ E.o.symm,rfl⟩
theorem bG(a b:Int)(w:World):
  Rq 170 #[.int .i64 a,.int .i64 b] w (.int .i64 (M.mul a b)):=by
 cases ha:M.el a with
 | true=>cases hb:M.el b with
  | true=>
   have E:H9 (M.mul a b=a*b%65537):=M.mul_in ha hb;have ha':=ha;have hb':=hb;obtain⟨a0,a1⟩:=(M.el_iff a).1 ha';obtain⟨b0,b1⟩:=(M.el_iff b).1 hb';clear ha' hb';obtain⟨m0,m1⟩:=M.mul_bd a0 a1 b0 b1;go_enter func170,ntmps170;(go_wp2_with fail);refine(bD a _).mono ?_;rintro e w' ⟨rfl,rfl⟩;(go_wp2_with fail);refine(bD b _).mono ?_;rintro e w' ⟨rfl,rfl⟩;go_wp2;go_ret;exact⟨bQ E.o.symm,rfl⟩
  | false=>
   have E:H9 (M.mul a b=-1):=M.mul_r hb;go_enter func170,ntmps170;(go_wp2_with fail);refine(bD a _).mono ?_;rintro e w' ⟨rfl,rfl⟩;(go_wp2_with fail);refine(bD b _).mono ?_;rintro e w' ⟨rfl,rfl⟩;go_wp2;go_ret;exact⟨bQ E.o.symm,rfl⟩
 | false=>
  have E:H9 (M.mul a b=-1):=M.mul_l ha;go_enter func170,ntmps170;(go_wp2_with fail);refine(bD a _).mono ?_;rintro e w' ⟨rfl,rfl⟩;go_wp2;go_ret;exact⟨bQ E.o.symm,rfl⟩
namespace M
theorem mL(a b:Int):a%65537*b%65537=a*b%65537:=(cg_mod a).mul (cg.refl b)
theorem mR(a b:Int):a*(b%65537)%65537=a*b%65537:=(cg.refl a).mul (cg_mod b)
theorem aL(a b:Int):(a%65537+b)%65537=(a+b)%65537:=by omega
theorem aR(a b:Int):(a+b%65537)%65537=(a+b)%65537:=by omega
structure Rl where
 xx:Int
 xy:Int
 yy:Int
 x:Int
 y:Int
 k:Int
def Rl.nums(r:Rl):List Int:=[r.xx,r.xy,r.yy,r.x,r.y,r.k]
def Rl.ok(r:Rl):Bool:=allEl r.nums
def Rl.app(r:Rl)(x y:Int):Int:=(r.xx*(x*x)+r.xy*(x*y)+r.yy*(y*y)+r.x*x+r.y*y+r.k)%65537
structure Mc where
 X:Rl
 Y:Rl
def Mc.ok(m:Mc):Bool:=m.X.ok&&m.Y.ok
def Mc.nx(m:Mc)(s:Int×Int):Int×Int:=(m.X.app s.1 s.2,m.Y.app s.1 s.2)
def Mc.rn(m:Mc)(s:Int×Int):Nat→Int×Int
 | 0=>s
 | n+1=>m.nx (m.rn s n)
def sOk(s:Int×Int):Bool:=el s.1&&el s.2
theorem app_bd(r:Rl)(x y:Int):0≤r.app x y∧r.app x y<65537:=by unfold Rl.app;omega
theorem el_app(r:Rl)(x y:Int):el (r.app x y)=true:=(el_iff _).2 (app_bd r x y)
theorem sOk_iff(s:Int×Int):sOk s=true↔(0≤s.1∧s.1<65537)∧(0≤s.2∧s.2<65537):=by
 unfold sOk;rw[tZ,el_iff,el_iff]
theorem sOk_nx(m:Mc)(s:Int×Int):sOk (m.nx s)=true:=by unfold sOk Mc.nx;rw[el_app,el_app];rfl
theorem sOk_rn(m:Mc){s:Int×Int}(h:sOk s=true):∀n,sOk (m.rn s n)=true
 | 0=>h
 | _+1=>sOk_nx m _
theorem rl_bd{r:Rl}(h:r.ok=true):(0≤r.xx∧r.xx<65537)∧(0≤r.xy∧r.xy<65537)∧(0≤r.yy∧r.yy<65537)∧(0≤r.x∧r.x<65537)∧(0≤r.y∧r.y<65537)∧(0≤r.k∧r.k<65537):=by
 unfold Rl.ok allEl Rl.nums at h;simp only[List.all_cons,List.all_nil,Bool.and_true,tZ,el_iff]at h;exact h
theorem app_model(r:Rl)(x y:Int):((((((r.xx*(x*x%65537)%65537)+r.xy*(x*y%65537)%65537)%65537+r.yy*(y*y%65537)%65537)%65537+r.x*x%65537)%65537+r.y*y%65537)%65537+r.k)%65537=r.app x y:=by
 unfold Rl.app;simp only[mR,aL,aR]
theorem app_code(r:Rl)(x y:Int):((((r.xx*x%65537+r.xy*y%65537)%65537+r.x)%65537*x%65537+(r.yy*y%65537+r.y)%65537*y%65537)%65537+r.k)%65537=r.app x y:=by
 unfold Rl.app;simp only[mL,aL,aR]
 congr 1
 grind
def Mc.run(m:Mc)(s:Int×Int)(n:Nat):List (Int×Int):=(List.range (n+1)).map (m.rn s)
theorem run_len(m:Mc)(s:Int×Int)(n:Nat):(m.run s n).length=n+1:=by simp[Mc.run]
theorem run_snoc(m:Mc)(s:Int×Int)(n:Nat):m.run s n++[m.rn s (n+1)]=m.run s (n+1):=by
 unfold Mc.run;rw[List.range_succ (n:=n+1)];simp
theorem run_get(m:Mc)(s:Int×Int)(n i:Nat)(h:i≤n):(m.run s n).getD i (0,0)=m.rn s i:=by
 rw[tu,tw (by rw[run_len];omega)];simp[Mc.run]
end M
def ar(t:TypeId)(w:World)(i':Nat)(a:Option Addr)(n cap:Nat)(zs:List Int):Prop:=
 w.ownsRow i' t 1 (.slice a n cap) n (zs.map (Value.int .i64))
theorem ar.len{a:Option Addr}(h:ar t w i' a n cap zs):zs.length=n:=by
 have:=h.1;simpa using this
theorem ar.cap_le{a:Option Addr}(h:ar t w i' a n cap zs):n≤cap∧(cap:Int)≤9223372036854775807:=by
 rcases h.2 with⟨e,h0⟩ | ⟨g,c,cur,e,_,_,hn,hm,_,_⟩
 ·simp only[Value.slice.injEq]at e;omega
 ·
  simp only[Value.slice.injEq]at e;unfold maxLen at hm;omega
theorem ar.block{a:Option Addr}(h:ar t w i' a n cap zs)(h0:0<n):
  ∃g,a=some ⟨g,0,none⟩∧i'≤g∧g<w.heap.size∧(∀i,i<n→w.cell? ⟨g,i,none⟩=some (.int .i64 (zs.getD i 0)))∧∀i,w.frozen? ⟨g,i,none⟩=false:=by
 have hl:=h.len;have Aa:∀g,(Value.slice a n cap).ownBlock=some g→_:=fun g hg=>World.ownsRow.cells h hg
 rcases h.2 with⟨e,h0'⟩ | ⟨g,c,cur,e,hb,hh,hn,hm,_,_⟩
 ·omega
 ·
  simp only[Value.slice.injEq]at e;obtain⟨rfl,-,-⟩:=e
  have Ba:g<w.heap.size:=by
   rcases Nat.lt_or_ge g w.heap.size with h' | h'
   ·exact h'
   ·rw[Array.getElem?_eq_none h']at hh;cases hh
  refine⟨g,rfl,hb,Ba,fun i hi=>?_,fun i=>?_⟩
  ·
   have:=Aa g rfl i (it (zs.getD i 0)) (by rw[List.getElem?_map,tw (by omega)];simp[tu,tw (show i<zs.length by omega)]);simp only[Addr.add]at this
   split at this
   ·rename_i e;subst e;exact this
   ·simpa using this
  ·simp[World.frozen?,hh]
theorem ar.sees{a:Option Addr}(h:ar t w i' a n cap zs):ah w a n cap zs:=by
 refine⟨h.len,h.cap_le.1,h.cap_le.2,?_,?_⟩
 ·
  intro e;subst e
  rcases h.2 with⟨e,h0⟩ | ⟨g,c,cur,e,_⟩
  ·simp only[Value.slice.injEq]at e;exact⟨h0,e.2.2⟩
  ·simp at e
 by_cases h0:0<n
 ·
  obtain⟨g,rfl,_,_,hc,_⟩:=h.block h0;exact .inr ⟨g,0,rfl,fun i hi=>by rw[Nat.zero_add];exact hc i hi⟩
 ·exact .inl (by omega)
theorem ar.below{a:Option Addr}(h:ar t w i' a n cap zs)(hb:Below w.heap.size w w'):ar t w' i' a n cap zs:=
 World.ownsRow.kept h (w':=w') (row:=none) ⟨hb.os,hb.tape,hb.output,hb.size,fun k hk _=>hb.block k hk⟩ (by cases hv:(Value.slice a n cap).ownBlock <;> simp)
theorem ar.mono{base':Nat}{a:Option Addr}(h:ar t w i' a n cap zs)(hb:base'≤i'):ar t w base' a n cap zs:=by
 refine⟨h.1,?_⟩
 rcases h.2 with e | ⟨g,c,cur,e,hg,r⟩
 ·exact .inl e
 ·exact .inr ⟨g,c,cur,e,by omega,r⟩
theorem ar.set{g:Nat}(h:ar t w i' (some ⟨g,0,none⟩) n cap zs)(k:Nat)(x:Int):ar t (w.setCell ⟨g,k,none⟩ (.int .i64 x)) i' (some ⟨g,0,none⟩) n cap (zs.set k x):=by
 obtain⟨hl,h⟩:=h;refine⟨by simpa using hl,?_⟩
 rcases h with⟨e,_⟩ | ⟨g',c,cur,e,hb,hh,hn,hm,hs,ht⟩
 ·simp at e
 ·
  simp only[Value.slice.injEq,Option.some.injEq,Addr.mk.injEq]at e;obtain⟨⟨rfl,-,-⟩,-,rfl⟩:=e;refine .inr ⟨g,cap,cur.setIfInBounds k (it x),rfl,hb,?_,hn,hm,by simpa using hs,?_⟩
  ·simp[World.setCell,Array.getElem?_modify,hh]
  ·rw[Array.toList_setIfInBounds,List.take_set,ht,List.map_set]
theorem ar.other{a:Option Addr}(h:ar t w i' a n cap zs)(p:Addr)(hp:∀x,a=some x→x.block≠p.block)(v:Value):ar t (w.setCell p v) i' a n cap zs:=by
 refine World.ownsRow.kept h (w':=w.setCell p v) (row:=some p.block) ⟨rfl,rfl,rfl,by simp[World.setCell],fun k hk hne=>Below.heap_setCell _ _ _ _ (fun e=>hne (by rw[e]))⟩ ?_
 cases a with
 | none=>exact .inl rfl
 | some x=>exact .inr (by simpa[Value.ownBlock]using hp x rfl)
theorem bq(hg:w.grownBy w' none):Below w.heap.size w w':=
 (tv _ _).grown hg (tr _) (fun k hk=>by cases hk)
theorem iE(n:Nat):(madeCells #[Value.int .i64 0] n).toList=(List.replicate n (0:Int)).map (Value.int .i64):=by
 apply List.ext_getElem
 ·simp[madeCells]
 ·
  intro i h1 h2;simp[madeCells,Nat.mod_one]
theorem qK(h:k<zs.length):(zs.take k++List.replicate (zs.length-k) (0:Int)).set k (zs.getD k 0)=zs.take (k+1)++List.replicate (zs.length-(k+1)) 0:=by
 have e:zs.length-k=(zs.length-(k+1))+1:=(by omega);rw[e,List.replicate_succ,List.set_append_right _ _ (by simp;omega)];rw[ua,Nat.min_eq_left (Nat.le_of_lt h),Nat.sub_self,List.set_cons_zero,tK h,List.append_assoc,List.singleton_append];rw[tu,tw h];rfl
def s3(w:World)(a:Option Addr)(len cap:Nat)(zs:List Int):Prop:=
 (a=none∧len=0∧cap=0∧zs=[])∨
 ∃x,a=some x∧len≤cap∧cap≤maxLen∧zs.length=cap∧(∀i,i<zs.length→w.cell? (x.add i)=some (.int .i64 (zs.getD i 0)))∧∀n∈zs,(Lit.int .i64 n).wf=true
theorem mY{a:Option Addr}{len:Nat}(h:s3 w a len cap zs):ah w a len cap (zs.take len):=by
 rcases h with⟨rfl,rfl,rfl,rfl⟩ | ⟨x,rfl,hl,hm,hz,hc,_⟩
 ·exact⟨rfl,by omega,by omega,fun _=>⟨rfl,rfl⟩,.inl rfl⟩
 ·
  refine⟨by rw[ua];omega,hl,(by unfold maxLen at hm;omega),(fun h=>by cases h),?_⟩;by_cases h0:len=0
  ·exact .inl h0
  ·
   obtain⟨b,Aa,rfl,Ba⟩:=ints_at hc (by omega);refine .inr ⟨b,Aa,rfl,fun i hi=>?_⟩;have h1:=Ba i (by omega);rw[tu,List.getElem?_take_of_lt hi,←tu];exact h1
theorem cn:(prog.info? 2).map (fun i=>(i.zero,i.size,i.bytes))=some (some (.int .i64 0),1,8):=by kernel_rfl
theorem ib{a:Option Addr}(w:World)(hz:ah w a n c zs)(hb:n≤1048576):
  Calls prog 74 #[.slice a n c] w fun e w'=>∃a',e=.returned (.slice a' n n)∧ar 2 w' w.heap.size a' n n zs∧Below w.heap.size w w':=by
 have HZ:=Hd (hz);clear hz;obtain⟨i0,hi,Ea,Fa,Ga⟩:=info_parts cn;go_enter func74,ntmps74;(go_wp2_with(at_make;refine wpList_make_full _ rfl _ _ 24 rfl w.heap.size 2 i0 (it 0) 1 underlying24 hi Ea Fa .i64 .i64 _ _ n rfl rfl rfl rfl (by rw[Ga];omega) (by unfold maxLen;omega) (tr _) ?_));intro w1 Aa hg
 have HO:H9 (ar 2 w1 w.heap.size (some ⟨w.heap.size,0,none⟩) n n (List.replicate n 0)):=by
  show w1.ownsRow _ _ _ _ _ _;rw[iE]at Aa;exact Aa
 have HB:H9 (Below w.heap.size w w1):=bq hg;clear Aa hg hi Ea Fa Ga;go_wp2
 go_loopw [4] (fun i wr=>∃k:Nat,k≤n∧i=it k∧ar 2 wr w.heap.size (some ⟨w.heap.size,0,none⟩) n n (zs.take k++List.replicate (n-k) 0)∧Below w.heap.size w wr) (fun i _=>n-(intOf i).toNat)
 case atStart=>exact⟨0,by omega,rfl,HO.o,HB.o⟩
 case round=>
  obtain⟨k,hk,rfl,ho,Ha⟩:=hrel;have Ba:=Hd (ho);have Ca:=Hd (Ha);clear ho Ha HO HB;by_cases Da:k<n
  ·
   obtain⟨b1,o1,rfl,Ia⟩:=(HZ.o.below Ca.o).at (by omega);have c1:=Ia k Da;clear Ia;obtain⟨g,Ja,_,_,Ka,hf⟩:=Ba.o.block (by omega);simp only[Option.some.injEq,Addr.mk.injEq,and_true]at Ja;subst Ja;have c2:=Ka k Da;have f2:=hf k;generalize hx:zs.getD k 0=x at c1;have HX:=Hd (hx);generalize(zs.take k++List.replicate (n-k) 0).getD k 0=y at c2;have hI:(k:Int)<(n:Int):=(by omega);clear hx Ka hf;go_wp2;go_roundw
   case rel=>
    refine⟨k+1,by omega,by go_num,?_,Ca.o.setCell (tr _) _⟩;have h:=Ba.o.set k x;rw[←HX.o,←HZ.o.len,qK (by rw[HZ.o.len];exact Da),HZ.o.len]at h;rw[←HX.o];exact h
   case measure=>simp[intOf];omega
  ·
   have La:k=n:=(by omega);have HK:H9 (k=n):=La;clear La;go_wp2;go_ret;refine⟨_,rfl,?_,Ca.o⟩;have h:=Ba.o;rw[HK.o,Nat.sub_self,List.replicate_zero,List.append_nil,tF (by rw[HZ.o.len];exact tr _)]at h;exact h
theorem oq(ok:Bool)(x:Int)(w:World):
  Rq 275 #[.bool ok,.int .i64 x] w (.bool (ok&&M.el x)):=by
 cases he:M.el x with
 | true=>
  obtain⟨x0,x1⟩:=(M.el_iff x).1 he;clear he
  cases ok with
  | true=>
   go_enter func275,ntmps275;(go_wp2_with fail);refine(dc x _ x0 x1).mono ?_;rintro e w' ⟨rfl,rfl⟩;go_wp2;go_ret;exact⟨rfl,rfl⟩
  | false=>
   go_enter func275,ntmps275;(go_wp2_with fail);refine(dc x _ x0 x1).mono ?_;rintro e w' ⟨rfl,rfl⟩;go_wp2;go_ret;exact⟨rfl,rfl⟩
 | false=>
  have HX:H9 (x<0∨65537≤x):=(M.el_not x).1 he;clear he
  cases ok with
  | true=>
   go_enter func275,ntmps275;(go_wp2_with fail);refine(dg x _ HX.o).mono ?_;rintro e w' ⟨rfl,rfl⟩;go_wp2;go_ret;exact⟨rfl,rfl⟩
  | false=>
   go_enter func275,ntmps275;(go_wp2_with fail);refine(dg x _ HX.o).mono ?_;rintro e w' ⟨rfl,rfl⟩;go_wp2;go_ret;exact⟨rfl,rfl⟩
theorem nu(hk:k<zs.length):((zs.take k).all M.el&&M.el (zs.getD k 0))=(zs.take (k+1)).all M.el:=by
 rw[tK hk,List.all_append,tu,tw hk];simp
theorem mF{a:Option Addr}(w:World)(hz:ah w a n c zs):
  Rq 274 #[.slice a n c,.bool true,.func (.func 275) #[] #[]] w (.bool (M.allEl zs)):=by
 have bn:(n:Int)≤9223372036854775807:=(by have:=hz.big;have:=hz.le;omega);have HZ:=Hd (hz);clear hz;go_enter func274,ntmps274;go_wp2
 go_loop [1,11] (fun s i=>∃k:Nat,k≤n∧i=it k∧s=.bool ((zs.take k).all M.el)) (fun _ i=>n-(intOf i).toNat)
 case atStart=>exact⟨0,by omega,rfl,rfl⟩
 case round=>
  obtain⟨k,hk,rfl,rfl⟩:=hrel;by_cases Aa:k<n
  ·
   obtain⟨b1,o1,rfl,Ba⟩:=HZ.o.at (by omega);have c1:=Ba k Aa;have HS:H9 (((zs.take k).all M.el&&M.el (zs.getD k 0))=(zs.take (k+1)).all M.el):=nu (by rw[HZ.o.len];exact Aa);clear Ba;generalize hx:zs.getD k 0=x at c1;have HX:=Hd (hx);generalize hs:(zs.take k).all M.el=s;have HT:=Hd (hs);have hI:(k:Int)<(n:Int):=(by omega);clear hx hs;(go_wp2_with fail);refine(oq s x _).mono ?_;rintro e w' ⟨rfl,rfl⟩;go_wp2
   go_round
   case rel=>exact⟨k+1,by omega,by go_num,by rw[←HS.o,HT.o,HX.o]⟩
   case measure=>simp[intOf];omega
  ·
   go_wp2;go_ret;refine⟨ag ?_,rfl⟩;rw[tF (by rw[HZ.o.len];omega)];rfl
theorem di{a:Option Addr}(w:World)(hz:ah w a n c zs):
  Rq 236 #[.slice a n c] w (.bool (M.allEl zs)):=by
 have HZ:=Hd (hz);clear hz;go_enter func236,ntmps236;(go_wp2_with fail);refine(mF _ HZ.o).mono ?_;rintro e w' ⟨rfl,rfl⟩;go_wp2;go_ret;exact⟨rfl,rfl⟩
def dR(W:World)(B:Nat):Nat→List Value→World
 | _,[]=>W
 | i,v::vs=>dR (W.setCell ⟨B,i,none⟩ v) B (i+1) vs
theorem aT(B:Nat){p:Addr}(hp:p.block≠B):∀(vs:List Value) (W:World) (i:Nat),(dR W B i vs).cell? p=W.cell? p
 | [],_,_=>rfl
 | v::vs,W,i=>(aT B hp vs (W.setCell ⟨B,i,none⟩ v) (i+1)).trans (t6 (w:=W) (a:=⟨B,i,none⟩) (b:=p) (v:=v) (h:=fun e=>hp (by rw[←e])))
theorem dP(B j:Nat):∀(vs:List Value) (W:World) (i:Nat),j<i→(dR W B i vs).cell? ⟨B,j,none⟩=W.cell? ⟨B,j,none⟩
 | [],_,_,_=>rfl
 | v::vs,W,i,h=>(dP B j vs (W.setCell ⟨B,i,none⟩ v) (i+1) (by omega)).trans (t6 (w:=W) (a:=⟨B,i,none⟩) (b:=⟨B,j,none⟩) (v:=v) (h:=by intro e;simp only[Addr.mk.injEq]at e;omega))
theorem fP(B:Nat):∀(vs:List Value) (W:World) (i:Nat),(∀j,j<vs.length→∃u,W.cell? ⟨B,i+j,none⟩=some u)→∀j v,vs[j]?=some v→(dR W B i vs).cell? ⟨B,i+j,none⟩=some v
 | [],_,_,_,j,v,h=>by simp at h
 | x::vs,W,i,hc,0,v,h=>by
  have e:x=v:=(by simpa using h);subst e;obtain⟨u,hu⟩:=hc 0 (by simp);exact(dP B i vs (W.setCell ⟨B,i,none⟩ x) (i+1) (by omega)).trans (World.cell?_setCell_same (w:=W) (a:=⟨B,i,none⟩) (v:=x) (h:=hu))
 | x::vs,W,i,hc,j+1,v,h=>by
  have h':vs[j]?=some v:=by simpa using h
  have key:=fP B vs (W.setCell ⟨B,i,none⟩ x) (i+1) (fun j hj=>by
   obtain⟨u,hu⟩:=hc (j+1) (by simp;omega);refine⟨u,(t6 (w:=W) (a:=⟨B,i,none⟩) (b:=⟨B,i+1+j,none⟩) (v:=x) (h:=by intro e;simp only[Addr.mk.injEq]at e;omega)).trans ?_⟩;rw[show i+1+j=i+(j+1) by omega];exact hu) j v h'
  rw[show i+(j+1)=i+1+j by omega];exact key
theorem aC(B:Nat)(p:Addr):∀(vs:List Value) (W:World) (i:Nat),(dR W B i vs).frozen? p=W.frozen? p
 | [],_,_=>rfl
 | v::vs,W,i=>(aC B p vs (W.setCell ⟨B,i,none⟩ v) (i+1)).trans (by simp)
theorem fQ(B:Nat):∀(vs:List Value) (W:World) (i:Nat),(dR W B i vs).heap.size=W.heap.size
 | [],_,_=>rfl
 | v::vs,W,i=>(fQ B vs (W.setCell ⟨B,i,none⟩ v) (i+1)).trans (by simp)
theorem dz{B0:Nat}{a:World}(hB:B0≤B):∀(vs:List Value) (W:World) (i:Nat),Below B0 a W→Below B0 a (dR W B i vs)
 | [],_,_,h=>h
 | v::vs,W,i,h=>dz hB vs (W.setCell ⟨B,i,none⟩ v) (i+1) (h.setCell hB v)
end Go.Proofs.YtjcjonncaknhnaaGreatDoor
