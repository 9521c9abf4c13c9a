import Derived.Test.YtbjalickbnpnkaaGreatDoorRows
import Derived.WalkLawsBesides
import Derived.Deep.RegionHeld3
import Derived.BigQuiet
import Derived.WalkSpells
import Derived.OpenShut
import Derived.Sort.AtCall
import Derived.Deep.RegionLaw
import Derived.Deep.OwnRows
import Derived.Maps.Range
namespace Go.Proofs.YtbjalickbnpnkaaGreatDoor
open Go.RowKit Go.Proofs.Tryz
set_option linter.unusedSimpArgs false
set_option maxHeartbeats 32000000
variable {p py N n i k B cap dA m R:Nat}{P:Program}{md:Region.Mode}{ops:Array Oper}{Q:Exit->Act->World->Prop}{S:World->Prop}{oi op:Oper}{rr:Array Bool}{a:Option Addr}{w w' W W' w0:World}{x out d y:Int}{zs ys:List Int}{vs us:List Value}{rest:List Oper}{ty:TypeId}{tmps:Array Value}{ad:Addr}{v:Value}
abbrev m2:=@Option.some.inj
abbrev m3:=@Nat.le_refl
abbrev m5:=@List.getD_eq_getElem?_getD
abbrev m8:=@Below.refl
abbrev m9:=@List.getElem?_eq_getElem
abbrev s':=@bodyPost_ret
abbrev tr:=@Nat.le_trans
abbrev t':=@List.drop_of_length_le
abbrev u':=@AllReadyH.cons
abbrev xt:=@List.take_of_length_le
abbrev xu:=@World.cell?_alloc_new
abbrev xw:=@List.mem_append
abbrev xz:=@World.ownsRow.lt
abbrev xA:=@List.take_succ_eq_append_getElem
abbrev xB:=@AllReadyH.nil
abbrev xC:=@World.grownBy_alloc
abbrev xD:=@Nat.lt_of_lt_of_le
abbrev xF:=@yieldsIf_load_mid
abbrev xH:=@run_loadVar_mid
abbrev xI:=@List.mem_flatMap
abbrev xJ:=@World.block_lt_of_cell?
abbrev xK:=@IntKind.wrap_i64
abbrev xM:=@List.length_replicate
abbrev xO:=@wpAnyH_ready
abbrev xP:=@Bool.and_eq_true
abbrev xQ:=@World.cell?_setCell_other
abbrev xS:=@List.length_append
abbrev xU:=@List.map_append
abbrev xV:=@List.flatMap_cons
abbrev xW:=@List.length_take
abbrev xX:=@Int.toNat_natCast
abbrev xY:=@World.ownsRow.alloc
abbrev m1(w v:World):Prop:=Below w.heap.size w v
def H7(p:Prop):Prop:=p
theorem H7.o{p:Prop}(h:H7 p):p:=h
abbrev it(x:Int):Value:=.int .i64 x
abbrev tG(b:Nat):Value:=.pointer (some ⟨b,0,none⟩)
theorem gW(w:World)(o:Obj):m1 w (w.alloc o):=(m8 _ _).alloc (m3 _) _
abbrev bO(a b c d f g h i j k l m n o p q:Int)(r:Bool)(s:Option Addr)(t u:Nat):List Value:=[it a,it b,it c,it d,it f,it g,it h,it i,it j,it k,it l,it m,it n,it o,it p,it q,.bool r,.slice s t u]
abbrev cW(a b c d f g h i j k l m:Int):List Value:=[it a,it b,it c,it d,it f,it g,it h,it i,it j,it k,it l,it m]
abbrev gM:List Value:=[it 0,it 0,it 0,it 0,it 0,it 0,it 0,it 0,it 0,it 0,it 0,it 0,it 0,it 0,it 0,it 0,it 0,it 0,it 0,it 0,it 0,it 0,it 0,.slice none 0 0,.slice none 0 0,.slice none 0 0,.slice none 0 0]
abbrev eG:List Value:=[it 0,it 0,it 0,it 0,it 0,it 0,it 0,it 0,it 0,it 0,it 0,it 0,it 0,it 0,it 0,it 0,.bool false,.slice none 0 0]
abbrev cX(a b c d:Int)(f:Option Addr)(g h:Nat)(i:Option Addr)(j k:Nat)(l:Option Addr)(m n:Nat)(o:Option Addr)(p q:Nat):List Value:=[it a,it b,it c,it d,.slice f g h,.slice i j k,.slice l m n,.slice o p q]
abbrev df:List Value:=[it 0,it 0,it 0,it 0,.slice none 0 0,.slice none 0 0,.slice none 0 0,.slice none 0 0]
abbrev aJ(a b:Int)(c:Option Addr)(d f:Nat)(g:Option Addr)(h i:Nat):List Value:=[it a,it b,.slice c d f,.slice g h i]
abbrev b8(a b c d f g h i j k l m n o p q r s t u v w x:Int)(y:Option Addr)(z A:Nat)(B:Option Addr)(C D:Nat)(E:Option Addr)(F G:Nat)(H:Option Addr)(I J:Nat):List Value:=[it a,it b,it c,it d,it f,it g,it h,it i,it j,it k,it l,it m,it n,it o,it p,it q,it r,it s,it t,it u,it v,it w,it x,.slice y z A,.slice B C D,.slice E F G,.slice H I J]
abbrev fG(a b c d f:Int):List Value:=[it a,it 1,it b,it c,it 3,it d,it f]
abbrev cm:List Value:=[it 0,it 0,.slice none 0 0,.slice none 0 0]
abbrev f9:List Value:=[it 0,it 0,it 0,it 0,it 0,it 0,it 0,it 0,it 0,it 0,it 0,it 0]
abbrev dt(a b c d f g h:Int)(i:Option Addr)(j k:Nat)(l:Option Addr)(m n:Nat)(o:Option Addr)(p q:Nat)(r:Option Addr)(s t:Nat):List Value:=[it a,it b,it c,it d,it f,it g,it h,.slice i j k,.slice l m n,.slice o p q,.slice r s t]
abbrev fi(a b c d f g h i j k l m n o p q:Int):List Value:=[it a,it b,it c,it d,it f,it g,it h,it i,it j,it k,it l,it m,it n,it o,it p,it q]
abbrev fj(a b c d f g h i j k l m n o p:Int):List Value:=[it a,it b,it c,it d,it f,it g,it h,it i,it j,it k,it l,it m,it n,it o,it p]
abbrev dm(a b c d f g:Int):List Value:=[it a,it b,it c,it d,it f,it g]
abbrev eQ(a b:Int)(c:Option Addr)(d f:Nat):List Value:=[it a,it b,.slice c d f,.slice none 0 0]
abbrev fp(a:Bool)(b c:Int):List Value:=[.bool a,it b,it c]
abbrev vK:List Value:=[it 0,it 0,it 0,it 0,it 0,it 0,it 0]
abbrev mo(a b:Int):List Value:=[it a,it 3,it b]
abbrev sS(a b:Int):List Value:=[it a,it 1,it b]
abbrev ug:List Value:=[.bool false,it 0,it 0]
theorem Hd{p:Prop}(h:p):H7 p:=h
abbrev Rt(f:FuncId)(xs:Array Value)(w:World)(v:Value):Prop:=Calls prog f xs w λe w'=>e=.returned v/\m1 w w'
abbrev Rq(f:FuncId)(xs:Array Value)(w:World)(v:Value):Prop:=Calls prog f xs w λe w'=>e=.returned v/\w'=w
theorem tk(i:Nat)(v:Value){a:Act}(hy:∀w,S w->(execOp a.eval oi).run P w=.ok (.value v) w)(h:wpAnyH P md ops (NoPanic Q) S py (rr.setIfInBounds i true) (a.put oi.dst v) w)(hi:ops[i]?=some oi:=by rfl)(hb:(Region.noSelect ops&&Region.free md ops rr i&&(Region.ready md ops rr).contains i&&Region.wanted oi (yielded ops a.tmps))=true:=by kernel_rfl)(hS:S w:=by assumption):wpAnyH P md ops (NoPanic Q) S (py+1) rr a w:=by
  simp only[xP]at hb
  exact wpAnyH_take hi hb.1.1.1 hb.1.1.2 hb.1.2 (λ_ _ _ h=>h) (Or.inl ⟨hb.2,hy⟩) hS h
theorem tE(i:Nat)(v:Value){a:Act}(h:wpAnyH P md ops (NoPanic Q) S py (rr.setIfInBounds i true) (a.put oi.dst v) w)(hi:ops[i]?=some oi:=by rfl)(hy:∀w,S w->(execOp a.eval oi).run P w=.ok (.value v) w:=by intro wq hq;go_simp)(hb:(Region.noSelect ops&&Region.free md ops rr i&&(Region.ready md ops rr).contains i&&Region.wanted oi (yielded ops a.tmps))=true:=by kernel_rfl)(hS:S w:=by assumption):wpAnyH P md ops (NoPanic Q) S (py+1) rr a w:=tk i v hy h hi hb hS
theorem sk(i:Nat){a:Act}(h:wpAnyH P md ops (NoPanic Q) S py (rr.setIfInBounds i true) (a.put oi.dst undef) w)(hi:ops[i]?=some oi:=by rfl)(hb:(Region.noSelect ops&&Region.free md ops rr i&&(Region.ready md ops rr).contains i&&!Region.wanted oi (yielded ops a.tmps))=true:=by kernel_rfl)(hS:S w:=by assumption):wpAnyH P md ops (NoPanic Q) S (py+1) rr a w:=by
  simp only[xP,Bool.not_eq_true']at hb
  exact wpAnyH_take hi hb.1.1.1 hb.1.1.2 hb.1.2 (λ_ _ _ h=>h) (Or.inr ⟨hb.2,rfl⟩) hS h
theorem aT{a:Act}(i:Nat){o:Oper}(h:∀K':Act->World->Prop,Shut (∀a w,S w->(S w->wpAnyH P md ops Q S py (rr.setIfInBounds i true) a w)->K' a w)->if Region.wanted o (yielded ops a.tmps)=true then Oper.wp P o a w K' Q else K' (a.put o.dst undef) w)(ho:ops[i]?=some o:=by rfl)(hr:Region.ready md ops rr=[i]:=by kernel_rfl):wpAnyH P md ops Q S (py+1) rr a w:=
  xO hr (by simp) (u' ho h xB)
theorem bi{a:Act}(h:Q .normal a w)(hr:Region.ready md ops rr=[]:=by kernel_rfl):wpAnyH P md ops (NoPanic Q) S py rr a w:=wpAnyH_done hr (NoPanic.normal h) _
namespace M
def el(a:Int):Bool:=decide (0<=a/\a<65537)
theorem el_iff(a:Int):el a=true↔0<=a/\a<65537:=by simp[el]
theorem el_not(a:Int):el a=false↔a<0\/65537<=a:=by simp[el];omega
def add(a b:Int):Int:=if el a=true/\el b=true then(a+b)%65537 else -1
def sub(a b:Int):Int:=if el a=true/\el b=true then(a+65537-b)%65537 else -1
def mul(a b:Int):Int:=if el a=true/\el b=true then a*b%65537 else -1
theorem add_in{a b:Int}(ha:el a=true)(hb:el b=true):add a b=(a+b)%65537:=by simp[add,ha,hb]
theorem sub_in{a b:Int}(ha:el a=true)(hb:el b=true):sub a b=(a+65537-b)%65537:=by simp[sub,ha,hb]
theorem mul_in{a b:Int}(ha:el a=true)(hb:el b=true):mul a b=a*b%65537:=by simp[mul,ha,hb]
theorem add_l{a b:Int}(h:el a=false):add a b=-1:=by simp[add,h]
theorem add_r{a b:Int}(h:el b=false):add a b=-1:=by simp[add,h]
theorem sub_l{a b:Int}(h:el a=false):sub a b=-1:=by simp[sub,h]
theorem sub_r{a b:Int}(h:el b=false):sub a b=-1:=by simp[sub,h]
theorem mul_l{a b:Int}(h:el a=false):mul a b=-1:=by simp[mul,h]
theorem mul_r{a b:Int}(h:el b=false):mul a b=-1:=by simp[mul,h]
theorem mul_bd{a b:Int}(ha:0<=a)(ha':a<65537)(hb:0<=b)(hb':b<65537):0<=a*b/\a*b<=4294967296:=by
 refine⟨Int.mul_nonneg ha hb,?_⟩;have h1:a*b<=65536*b:=Int.mul_le_mul_of_nonneg_right (by omega) hb;omega
end M
namespace M
def pw(x:Int)(n:Nat):Int:=x ^ n%65537
theorem pw_bd(x:Int)(n:Nat):0<=pw x n/\pw x n<65537:=by unfold pw;omega
theorem pow_emod(a:Int)(n:Nat):(a%65537) ^ n%65537=a ^ n%65537:=by
 induction n with
 | zero=>simp
 | succ n ih=>rw[Int.pow_succ,Int.pow_succ,Int.mul_emod,ih,Int.emod_emod_of_dvd _ (Int.dvd_refl _),<-Int.mul_emod]
def PInv(x:Int)(N:Nat)(out a:Int)(n:Nat):Prop:=out*a ^ n%65537=x ^ N%65537
theorem pinv_start(x:Int)(N:Nat):PInv x N 1 x N:=by simp[PInv]
theorem sq_pow(a:Int)(k:Nat):(a*a) ^ k=a ^ (2*k):=by
 rw[Int.pow_mul,Int.pow_succ,Int.pow_succ,Int.pow_zero,Int.one_mul]
theorem pinv_even{a:Int}(h:PInv x N out a n)(e:n%2=0):PInv x N out (a*a%65537) (n/2):=by
 unfold PInv at *;rw[Int.mul_emod,pow_emod,sq_pow,show 2*(n/2)=n by omega,<-Int.mul_emod];exact h
theorem pinv_odd{a:Int}(h:PInv x N out a n)(e:n%2=1):PInv x N (out*a%65537) (a*a%65537) (n/2):=by
 unfold PInv at *;have hn:n=2*(n/2)+1:=by omega
 have ha:a ^ n=a*a ^ (2*(n/2)):=by
  conv=>lhs;rw[hn]
  rw[Int.pow_succ,Int.mul_comm]
 rw[Int.mul_emod,pow_emod,sq_pow,Int.emod_emod_of_dvd _ (Int.dvd_refl _),<-Int.mul_emod,Int.mul_assoc,<-ha];exact h
theorem pinv_end{a:Int}(h:PInv x N out a 0)(h0:0<=out)(h1:out<65537):out=pw x N:=by
 unfold PInv at h;unfold pw;rw[Int.pow_zero,Int.mul_one,Int.emod_eq_of_lt h0 h1]at h;exact h
def pow(a n:Int):Int:=if el a=true/\0<=n then pw a n.toNat else -1
theorem pow_in{a n:Int}(h:el a=true)(hn:0<=n):pow a n=pw a n.toNat:=by simp[pow,h,hn]
end M
namespace M
def inv(a:Int):Int:=if el a=true/\a≠0 then pw a 65535 else -1
theorem inv_in{a:Int}(h:el a=true)(h0:a≠0):inv a=pw a 65535:=by simp[inv,h,h0]
theorem inv_l{a:Int}(h:el a=false):inv a=-1:=by simp[inv,h]
theorem inv_0:inv 0=-1:=by simp[inv]
def two(n:Int):Bool:=(List.range 17).any λi=>n==(2:Int) ^ i
theorem two_iff(n:Int):two n=true↔∃i:Nat,i<=16/\n=(2:Int) ^ i:=by
 simp only[two,List.any_eq_true,List.mem_range,beq_iff_eq]
 constructor
 .rintro⟨i,hi,e⟩;exact⟨i,by omega,e⟩
 .rintro⟨i,hi,e⟩;exact⟨i,by omega,e⟩
theorem two_le16(h:i<=16):(1:Int)<=2 ^ i/\(2:Int) ^ i<=65536:=by
 have:i=0\/i=1\/i=2\/i=3\/i=4\/i=5\/i=6\/i=7\/i=8\/i=9\/i=10\/i=11\/i=12\/i=13\/i=14\/i=15\/i=16:=by omega
 rcases this with h | h | h | h | h | h | h | h | h | h | h | h | h | h | h | h | h <;> subst h <;> decide
theorem two_bd{n:Int}(h:two n=true):1<=n/\n<=65536:=by
 obtain⟨i,hi,rfl⟩:=(two_iff n).1 h;exact two_le16 hi
def TwoInv(n p:Int):Prop:=∃j:Nat,j<=17/\p=(2:Int) ^ j/\∀i,i<j->n≠(2:Int) ^ i
theorem tinv_start(n:Int):TwoInv n 1:=⟨0,by omega,by simp,λi h=>by omega⟩
theorem tinv_hit{n p:Int}(h:TwoInv n p)(hp:p<=65536)(e:p=n):two n=true:=by
 obtain⟨j,hj,rfl,_⟩:=h;refine(two_iff n).2 ⟨j,?_,e.symm⟩;by_cases Aa:j=17
 .subst Aa;exact absurd hp (by decide)
 .omega
theorem tinv_step{n p:Int}(h:TwoInv n p)(hp:p<=65536)(e:p≠n):TwoInv n (2*p):=by
 obtain⟨j,hj,rfl,hn⟩:=h;have hj':j≠17:=(by intro e17;subst e17;exact absurd hp (by decide));refine⟨j+1,by omega,by rw[Int.pow_succ,Int.mul_comm],λi hi=>?_⟩;by_cases e2:i=j
 .subst e2;exact λh=>e h.symm
 .exact hn i (by omega)
theorem tinv_end{n p:Int}(h:TwoInv n p)(hp:65536<p):two n=false:=by
 obtain⟨j,hj,rfl,hn⟩:=h
 have hj':j=17:=by
  by_cases e:j<=16
  .have:=(two_le16 e).2;omega
  .omega
 subst hj'
 cases ht:two n with
 | false=>rfl
 | true=>obtain⟨i,hi,e⟩:=(two_iff n).1 ht;exact absurd e (hn i (by omega))
theorem dvd_two_pow(m n:Nat)(h:n∣2 ^ m):∃i,i<=m/\n=2 ^ i:=by
 induction m generalizing n with
 | zero=>exact⟨0,m3 _,by simpa using h⟩
 | succ m ih=>
  rcases Nat.mod_two_eq_zero_or_one n with e | e
  ·
   obtain⟨c,rfl⟩:=Nat.dvd_of_mod_eq_zero e;rw[Nat.pow_succ,Nat.mul_comm]at h;obtain⟨i,hi,hc⟩:=ih c (Nat.dvd_of_mul_dvd_mul_right (k:=2) (by omega) (by first | exact h | (rw[Nat.mul_comm c 2,Nat.mul_comm (2 ^ m) 2];exact h)))
   exact⟨i+1,by omega,by rw[hc,Nat.pow_succ,Nat.mul_comm]⟩
  ·
   have hc:Nat.Coprime n 2:=by
    have h2:Nat.gcd n 2∣2:=Nat.gcd_dvd_right n 2;have h1:Nat.gcd n 2∣n:=Nat.gcd_dvd_left n 2;have Aa:=Nat.le_of_dvd (by omega) h2;have Ba:0<Nat.gcd n 2:=Nat.gcd_pos_of_pos_right n (by omega);have Ca:Nat.gcd n 2≠2:=(by intro e2;rw[e2]at h1;omega);show Nat.gcd n 2=1;omega
   rw[Nat.pow_succ]at h;obtain⟨i,hi,e2⟩:=ih n (hc.dvd_of_dvd_mul_right h);exact⟨i,by omega,e2⟩
theorem two_div{n:Int}(h0:1<=n):two n=true↔65536%n=0:=by
 rw[two_iff]
 constructor
 ·
  rintro⟨i,hi,rfl⟩;have:i=0\/i=1\/i=2\/i=3\/i=4\/i=5\/i=6\/i=7\/i=8\/i=9\/i=10\/i=11\/i=12\/i=13\/i=14\/i=15\/i=16:=by omega
  rcases this with h | h | h | h | h | h | h | h | h | h | h | h | h | h | h | h | h <;> subst h <;> decide
 ·
  intro h;obtain⟨m,rfl⟩:=Int.eq_ofNat_of_zero_le (show 0<=n by omega)
  have h':65536%m=0:=by
   have:((65536%m:Nat):Int)=0:=(by rw[Int.natCast_emod];exact h);omega
  obtain⟨i,hi,e⟩:=dvd_two_pow 16 m (Nat.dvd_of_mod_eq_zero h');exact⟨i,hi,by rw[e];simp⟩
def root(n:Int):Int:=if two n=true then pw 3 (65536/n).toNat else -1
theorem root_in{n:Int}(h:two n=true):root n=pw 3 (65536/n).toNat:=by simp[root,h]
theorem root_out{n:Int}(h:two n=false):root n=-1:=by simp[root,h]
end M
namespace M
theorem el_mod(x:Int):el (x%65537)=true:=(el_iff _).2 ⟨by omega,by omega⟩
theorem el_mul{a b:Int}(ha:el a=true)(hb:el b=true):el (mul a b)=true:=by rw[mul_in ha hb];exact el_mod _
theorem mul_comm'(a b:Int):mul b a=mul a b:=by
 unfold mul;by_cases h:el a=true/\el b=true
 .rw[if_pos h,if_pos h.symm,Int.mul_comm]
 .rw[if_neg h,if_neg (λh'=>h h'.symm)]
theorem mul_assoc'{a b c:Int}(ha:el a=true)(hb:el b=true)(hc:el c=true):mul (mul a b) c=mul a (mul b c):=by
 rw[mul_in (el_mul ha hb) hc,mul_in ha hb,mul_in ha (el_mul hb hc),mul_in hb hc];rw[Int.mul_emod,Int.emod_emod_of_dvd _ (Int.dvd_refl _),<-Int.mul_emod,Int.mul_emod a,Int.emod_emod_of_dvd _ (Int.dvd_refl _),<-Int.mul_emod,Int.mul_assoc]
theorem mul_one'{a:Int}(ha:el a=true):mul a 1=a:=by
 rw[mul_in ha (by decide)];have h1:=(el_iff a).1 ha;omega
end M
namespace M
def sq(x:Nat):Nat:=x*x%65537
def it:Nat->Nat->Nat
 | 0,x=>x
 | k+1,x=>it k (sq x)
theorem natpow_mod(a n:Nat):(a%65537) ^ n%65537=a ^ n%65537:=(Nat.pow_mod a n 65537).symm
theorem sq_pow'(x n:Nat):sq x ^ n%65537=x ^ (2*n)%65537:=by
 unfold sq;rw[natpow_mod,Nat.pow_mul,Nat.pow_succ,Nat.pow_one]
theorem it_pow(k x:Nat):it k x%65537=x ^ (2 ^ k)%65537:=by
 induction k generalizing x with
 | zero=>simp[it]
 | succ k ih=>
  show it k (sq x)%65537=_;rw[ih,sq_pow',Nat.pow_succ,Nat.mul_comm]
theorem small_ok:(List.range 257).all (λa=>a==0||it 16 a%65537==1)=true:=by decide +kernel
theorem small_no:(List.range 257).all (λq=>q<=1||65537%q != 0)=true:=by decide +kernel
theorem neg_one(k:Nat)(hk:k=16):65536 ^ (2 ^ k)%65537=1:=by
 rw[<-it_pow,hk];decide +kernel
theorem fermat_nat(k:Nat)(hk:k=16)(a:Nat)(h0:0<a)(h1:a<65537):a ^ (2 ^ k)%65537=1:=by
 induction a using Nat.strongRecOn with
 | _ a ih=>
  by_cases hs:a<=256
  ·
   have h:=List.all_eq_true.1 small_ok a (List.mem_range.2 (by omega));simp only[Bool.or_eq_true,beq_iff_eq]at h
   rcases h with h | h
   .omega
   .rw[<-it_pow,hk,h]
  ·
   have hq:65537/a<257:=(Nat.div_lt_iff_lt_mul h0).2 (by omega);have Aa:0<65537/a:=Nat.div_pos (by omega) h0;have hd:=Nat.div_add_mod 65537 a;have hr:65537%a<a:=Nat.mod_lt _ h0
   have Ba:0<65537%a:=by
    rcases Nat.eq_zero_or_pos (65537%a)with e | e
    ·
     exfalso
     rw[e,Nat.add_zero]at hd;have h:=List.all_eq_true.1 small_no (65537/a) (List.mem_range.2 hq);simp only[Bool.or_eq_true,decide_eq_true_eq,bne_iff_ne]at h
     rcases h with h | h
     ·
      have e1:65537/a=1:=(by omega);rw[e1]at hd;omega
     ·
      apply h;have:65537=65537/a*a:=(by rw[Nat.mul_comm];exact hd.symm);exact Nat.mod_eq_zero_of_dvd ⟨a,this⟩
    .exact e
   have Ca:=ih (65537%a) hr Ba (by omega);have Da:=ih (65537/a) (by omega) Aa (by omega);have Ea:=neg_one k hk;generalize 65537/a=q at *;generalize 65537%a=r at *
   have hc:(a*q)%65537=(65536*r)%65537:=by
    have e1:a*q+r*65537=65536*r+65537:=(by omega);have e2:(a*q+r*65537)%65537=(a*q)%65537:=(by rw[Nat.add_mul_mod_self_right]);rw[<-e2,e1,Nat.add_mod_right]
   generalize 2 ^ k=E at *;have hp:(a*q) ^ E%65537=(65536*r) ^ E%65537:=(by rw[Nat.pow_mod,hc,<-Nat.pow_mod]);rw[Nat.mul_pow,Nat.mul_pow,Nat.mul_mod,Da,Nat.mul_one,Nat.mod_mod,Nat.mul_mod,Ea,Ca]at hp;exact hp
theorem fermat_k(k:Nat)(hk:k=16){a:Int}(h0:0<a)(h1:a<65537):pw a (2 ^ k)=1:=by
 obtain⟨n,rfl⟩:=Int.eq_ofNat_of_zero_le (show 0<=a by omega);have h:=fermat_nat k hk n (by omega) (by omega);unfold pw;have:(((n ^ (2 ^ k)%65537:Nat)):Int)=1:=(by rw[h];rfl);rw[Int.natCast_emod,Int.natCast_pow]at this;exact this
theorem fermat{a:Int}(h0:0<a)(h1:a<65537):pw a 65536=1:=fermat_k 16 rfl h0 h1
theorem el_pw(x:Int)(n:Nat):el (pw x n)=true:=(el_iff _).2 (pw_bd x n)
theorem pw_add(x:Int)(m n:Nat):mul (pw x m) (pw x n)=pw x (m+n):=by
 rw[mul_in (el_pw x m) (el_pw x n)];unfold pw;rw[<-Int.mul_emod,Int.pow_add]
theorem pw_pw(x:Int)(m n:Nat):pw (pw x m) n=pw x (m*n):=by
 unfold pw;rw[pow_emod,Int.pow_mul]
theorem pw_one(h:el x=true):pw x 1=x:=by
 have:=(el_iff x).1 h;unfold pw;rw[Int.pow_succ,Int.pow_zero,Int.one_mul,Int.emod_eq_of_lt this.1 this.2]
theorem mul_inv{a:Int}(h:el a=true)(h0:a≠0):mul a (inv a)=1:=by
 have hb:=(el_iff a).1 h;rw[inv_in h h0]
 conv=>lhs;rw[<-pw_one h]
 rw[pw_pw,pw_add];exact fermat (by omega) hb.2
theorem three_k(k:Nat)(hk:k=15):pw 3 (2 ^ k)=65536:=by
 have h:(3:Nat) ^ (2 ^ k)%65537=65536:=(by rw[<-it_pow,hk];decide +kernel);unfold pw;have:(((3 ^ (2 ^ k)%65537:Nat)):Int)=65536:=(by rw[h];rfl);rw[Int.natCast_emod,Int.natCast_pow]at this;exact this
theorem three_half:pw 3 32768=65536:=three_k 15 rfl
theorem two_cases{n:Int}(h:two n=true):n=1\/(∃i:Nat,i<=15/\n=2*(2:Int) ^ i):=by
 obtain⟨i,hi,rfl⟩:=(two_iff n).1 h
 cases i with
 | zero=>left;simp
 | succ i=>right;exact⟨i,by omega,by rw[Int.pow_succ,Int.mul_comm]⟩
theorem div_mul_two{n:Int}(h:two n=true):(65536/n).toNat*n.toNat=65536:=by
 have hb:=two_bd h;have hm:=(two_div hb.1).1 h;have h2:=Int.mul_ediv_add_emod 65536 n;rw[hm,Int.add_zero]at h2;have h0:0<=65536/n:=Int.ediv_nonneg (by omega) (by omega);apply Int.ofNat.inj;show(((65536/n).toNat*n.toNat:Nat):Int)=65536;rw[Int.natCast_mul,Int.toNat_of_nonneg h0,Int.toNat_of_nonneg (by omega),Int.mul_comm];exact h2
theorem root_el{n:Int}(h:two n=true):el (root n)=true:=by rw[root_in h];exact el_pw _ _
theorem root_pow{n:Int}(h:two n=true):pow (root n) n=1:=by
 have hb:=two_bd h;rw[pow_in (root_el h) (by omega),root_in h,pw_pw,div_mul_two h];exact fermat (by omega) (by omega)
theorem root_half{n:Int}(h:two n=true)(h1:n≠1):pow (root n) (n/2)=65536:=by
 have hb:=two_bd h;rw[pow_in (root_el h) (by omega),root_in h,pw_pw];have hd:=div_mul_two h
 rcases two_cases h with e | ⟨i,hi,e⟩
 .exact absurd e h1
 ·
  have e2:n.toNat=2*(n/2).toNat:=by
   have:n=2*(n/2):=(by rw[e];omega);omega
  have e3:(65536/n).toNat*(n/2).toNat=32768:=by
   rw[e2]at hd;have:2*((65536/n).toNat*(n/2).toNat)=65536:=(by rw[<-hd,Nat.mul_left_comm]);omega
  rw[e3];exact three_half
end M
namespace M
def cg(a b:Int):Prop:=a%65537=b%65537
theorem cg_iff{a b:Int}:cg a b↔∃k,a=b+65537*k:=by
 unfold cg
 constructor
 .intro h;exact⟨a/65537-b/65537,by omega⟩
 .rintro⟨k,rfl⟩;omega
theorem cg.refl(a:Int):cg a a:=rfl
theorem cg.symm{a b:Int}(h:cg a b):cg b a:=Eq.symm h
theorem cg.trans{a b c:Int}(h:cg a b)(h2:cg b c):cg a c:=Eq.trans h h2
theorem cg.add{a b c:Int}(h:cg a b)(h2:cg c d):cg (a+c) (b+d):=by
 rw[cg_iff]at *;obtain⟨k,rfl⟩:=h;obtain⟨l,rfl⟩:=h2;exact⟨k+l,by grind⟩
theorem cg.sub{a b c:Int}(h:cg a b)(h2:cg c d):cg (a-c) (b-d):=by
 rw[cg_iff]at *;obtain⟨k,rfl⟩:=h;obtain⟨l,rfl⟩:=h2;exact⟨k-l,by grind⟩
theorem cg.mul{a b c:Int}(h:cg a b)(h2:cg c d):cg (a*c) (b*d):=by
 rw[cg_iff]at *;obtain⟨k,rfl⟩:=h;obtain⟨l,rfl⟩:=h2;exact⟨k*d+b*l+65537*k*l,by grind⟩
theorem cg.pow{a b:Int}(h:cg a b)(n:Nat):cg (a ^ n) (b ^ n):=by
 induction n with
 | zero=>rw[Int.pow_zero,Int.pow_zero];exact cg.refl _
 | succ n ih=>rw[Int.pow_succ,Int.pow_succ];exact ih.mul h
theorem cg_mod(a:Int):cg (a%65537) a:=by unfold cg;omega
theorem cg_of_eq{a b:Int}(h:a=b):cg a b:=by rw[h];exact cg.refl _
theorem cg_pw(x:Int)(n:Nat):cg (pw x n) (x ^ n):=cg_mod _
def pv:List Int->Int->Int
 | [],_=>0
 | c::r,x=>c+x*pv r x
def ss(z:Nat->Int)(f s:Nat):Nat->Int->Int
 | 0,_=>0
 | c+1,x=>z f+x*ss z (f+s) s c x
theorem ss_cg(h:cg x y)(z:Nat->Int)(s c:Nat):∀f,cg (ss z f s c x) (ss z f s c y):=by
 induction c with
 | zero=>intro f;exact cg.refl _
 | succ c ih=>intro f;exact(cg.refl _).add (h.mul (ih _))
theorem ss_split(z:Nat->Int)(s c:Nat)(x:Int):∀f,ss z f s (2*c) x=ss z f (2*s) c (x*x)+x*ss z (f+s) (2*s) c (x*x):=by
 induction c with
 | zero=>intro f;simp[ss]
 | succ c ih=>
  intro f;have e:=ih (f+s+s);rw[show 2*(c+1)=2*c+1+1 by omega];simp only[ss];rw[e,show f+s+s=f+2*s by omega,show f+2*s+s=f+s+2*s by omega];generalize ss z (f+2*s) (2*s) c (x*x)=A;generalize ss z (f+s+2*s) (2*s) c (x*x)=B
  grind
theorem pv_ss(l:List Int)(x:Int):∀c f,f+c=l.length->ss (λi=>l.getD i 0) f 1 c x=pv (l.drop f) x:=by
 intro c
 induction c with
 | zero=>intro f h;rw[t' (by omega)];rfl
 | succ c ih=>
  intro f h;rw[List.drop_eq_getElem_cons (by omega)];simp only[ss,pv];rw[ih (f+1) (by omega),m5,m9 (by omega)];rfl
theorem pv_all(l:List Int)(x:Int):ss (λi=>l.getD i 0) 0 1 l.length x=pv l x:=by
 have:=pv_ss l x l.length 0 (by omega);simpa using this
theorem pv_cg(h:cg x y)(l:List Int):cg (pv l x) (pv l y):=by
 rw[<-pv_all,<-pv_all];exact ss_cg h _ _ _ _
def fv(z:Nat->Int)(r:Int)(f s c j:Nat):Int:=ss z f s c (r ^ (s*j))%65537
theorem fv_bd(z:Nat->Int)(r:Int)(f s c j:Nat):0<=fv z r f s c j/\fv z r f s c j<65537:=by unfold fv;omega
theorem pw_two(r:Int)(s j:Nat):r ^ (2*s*j)=r ^ (s*j)*r ^ (s*j):=by
 rw[<-Int.pow_add];congr 1;grind
theorem fv_lo(z:Nat->Int)(r:Int)(f s c j:Nat):(fv z r f (2*s) c j+fv z r (f+s) (2*s) c j*(r ^ (j*s)%65537)%65537)%65537=fv z r f s (2*c) j:=by
 unfold fv;rw[ss_split,pw_two,Nat.mul_comm j s];generalize ss z f (2*s) c (r ^ (s*j)*r ^ (s*j))=A;generalize ss z (f+s) (2*s) c (r ^ (s*j)*r ^ (s*j))=B;generalize r ^ (s*j)=y
 have h:=
  (cg_mod A).add ((cg_mod _).trans (((cg_mod B).mul (cg_mod y)).trans (cg_of_eq (Int.mul_comm _ _))))
 exact h
theorem fv_hi(z:Nat->Int)(r:Int)(f s c j:Nat)(h1:cg (r ^ (s*c)) (-1)):(fv z r f (2*s) c j+65537-fv z r (f+s) (2*s) c j*(r ^ (j*s)%65537)%65537)%65537=fv z r f s (2*c) (j+c):=by
 unfold fv;rw[ss_split,pw_two,Nat.mul_comm j s]
 have e:cg (r ^ (s*(j+c))) (-(r ^ (s*j))):=by
  rw[Nat.mul_add,Int.pow_add];have:=(cg.refl (r ^ (s*j))).mul h1;rw[Int.mul_neg,Int.mul_one]at this;exact this
 have e2:cg (r ^ (s*(j+c))*r ^ (s*(j+c))) (r ^ (s*j)*r ^ (s*j)):=by
  have:=e.mul e;rw[Int.neg_mul_neg]at this;exact this
 have hA:=ss_cg e2 z (2*s) c f;have hB:=ss_cg e2 z (2*s) c (f+s);generalize ss z f (2*s) c (r ^ (s*j)*r ^ (s*j))=A at *;generalize ss z (f+s) (2*s) c (r ^ (s*j)*r ^ (s*j))=B at *;generalize ss z f (2*s) c (r ^ (s*(j+c))*r ^ (s*(j+c)))=A' at hA |-;generalize ss z (f+s) (2*s) c (r ^ (s*(j+c))*r ^ (s*(j+c)))=B' at hB |-;generalize r ^ (s*(j+c))=y' at e |-;generalize r ^ (s*j)=y at *
 have h:cg (A%65537+65537-B%65537*(y%65537)%65537) (A'+y'*B'):=by
  have h2:cg (A%65537+65537) A:=(by unfold cg;omega);refine(h2.sub ((cg_mod _).trans ((cg_mod B).mul (cg_mod y)))).trans ?_;refine cg.trans ?_ (hA.symm.add (e.symm.mul hB.symm));exact cg_of_eq (by grind)
 exact h
theorem fv_one(z:Nat->Int)(r:Int)(f s:Nat)(h0:0<=z f)(h1:z f<65537):z f=fv z r f s 1 0:=by
 unfold fv;simp only[ss];rw[Int.mul_zero,Int.add_zero,Int.emod_eq_of_lt h0 h1]
theorem pv_append(a b:List Int)(x:Int):pv (a++b) x=pv a x+x ^ a.length*pv b x:=by
 induction a with
 | nil=>simp[pv]
 | cons c r ih=>
  simp only[List.cons_append,pv,List.length_cons];rw[ih,Int.pow_succ];generalize x ^ r.length=y
  grind
theorem pv_take(zs:List Int)(x:Int)(h:i<zs.length):pv (zs.take (i+1)) x=pv (zs.take i) x+zs.getD i 0*x ^ i:=by
 rw[xA h,pv_append,xW,Nat.min_eq_left (by omega),m5,m9 h];simp only[pv,Option.getD_some]
 grind
theorem pv_set(zs:List Int)(x v:Int):∀{k:Nat},k<zs.length->pv (zs.set k v) x=pv zs x+(v-zs.getD k 0)*x ^ k:=by
 induction zs with
 | nil=>intro k h;simp at h
 | cons c r ih=>
  intro k h
  cases k with
  | zero=>simp[pv];grind
  | succ k=>
   rw[List.set_cons_succ];simp only[pv];rw[ih (by simpa using h),List.getD_cons_succ,Int.pow_succ];generalize x ^ k=y;generalize r.getD k 0=q
   grind
theorem pow_wrap(h:cg (x ^ n) 1)(i:Nat):cg (x ^ i) (x ^ (i%n)):=by
 have e:x ^ i=(x ^ n) ^ (i/n)*x ^ (i%n):=by
  rw[<-Int.pow_mul,<-Int.pow_add,Nat.div_add_mod]
 rw[e];have h2:=(h.pow (i/n)).mul (cg.refl (x ^ (i%n)));rw[Int.one_pow,Int.one_mul]at h2;exact h2
theorem pv_zeros(n:Nat)(x:Int):pv (List.replicate n 0) x=0:=by
 induction n with
 | zero=>rfl
 | succ n ih=>rw[List.replicate_succ];simp[pv,ih]
theorem getD_set(l:List Int)(k i:Nat)(v:Int):(l.set k v).getD i 0=if k=i/\i<l.length then v else l.getD i 0:=by
 rw[m5,List.getElem?_set,m5];by_cases e:k=i
 ·
  subst e;by_cases h:k<l.length
  .simp[h]
  .simp[h]
 .simp[e]
theorem pv_scale(s x:Int)(hl:ys.length=zs.length)(h:∀i,i<zs.length->cg (ys.getD i 0) (zs.getD i 0*s ^ i)):cg (pv ys x) (pv zs (s*x)):=by
 have key:∀i,i<=zs.length->cg (pv (ys.take i) x) (pv (zs.take i) (s*x)):=by
  intro i
  induction i with
  | zero=>intro _;exact cg.refl _
  | succ i ih=>
   intro hi;rw[pv_take _ _ (by omega),pv_take _ _ (by omega)];refine(ih (by omega)).add ?_;have h2:=(h i (by omega)).mul (cg.refl (x ^ i));rw[Int.mul_pow,<-Int.mul_assoc];exact h2
 have:=key zs.length (m3 _)
 rwa[xt (by omega),List.take_length]at this
end M
theorem bR{k:IntKind}{a b:Int}(h:a=b):Ending.returned (.int k a)=.returned (.int k b):=by rw[h]
theorem aB{a b:Bool}(h:a=b):Ending.returned (.bool a)=.returned (.bool b):=by rw[h]
theorem bM(a:Int)(w:World):
  Rq 103 #[it a] w (.bool (M.el a)):=by
 by_cases h0:0<=a
 ·
  by_cases h1:a<65537
  ·
   have e:M.el a=true:=(by simp[M.el,h0,h1]);have E:=Hd (e);clear e;go_enter func103,ntmps103;go_wp2;go_ret;exact⟨aB E.o.symm,rfl⟩
  ·
   have e:M.el a=false:=(by simp[M.el];omega);have E:=Hd (e);clear e;go_enter func103,ntmps103;go_wp2;go_ret;exact⟨aB E.o.symm,rfl⟩
 ·
  have e:M.el a=false:=(by simp[M.el];omega);have E:=Hd (e);clear e;go_enter func103,ntmps103;go_wp2;go_ret;exact⟨aB E.o.symm,rfl⟩
theorem dF(a:Int)(w:World)(h0:0<=a)(h1:a<65537):
  Rq 168 #[it a] w (.tuple #[it a,.bool true]):=by
 go_enter func168,ntmps168;go_wp2
 go_ret2
 exact⟨rfl,rfl⟩
theorem dI(a:Int)(w:World)(h:a<0\/65537<=a):
  Rq 168 #[it a] w (.tuple #[it 0,.bool false]):=by
 rcases h with h | h
 ·
  go_enter func168,ntmps168;go_wp2
  go_ret2
  exact⟨rfl,rfl⟩
 ·
  have h':¬ a<0:=(by omega);go_enter func168,ntmps168;go_wp2
  go_ret2
  exact⟨rfl,rfl⟩
theorem dV(a b:Int)(w:World)(a0:0<=a)(a1:a<65537)(b0:0<=b)(b1:b<65537):
  Rq 158 #[it a,it b] w (it ((a+b)%65537)):=by
 go_enter func158,ntmps158;go_wp2;go_ret;exact⟨rfl,rfl⟩
theorem eU(a b:Int)(w:World)(a0:0<=a)(a1:a<65537)(b0:0<=b)(b1:b<65537):
  Rq 118 #[it a,it b] w (it ((a+65537-b)%65537)):=by
 go_enter func118,ntmps118;go_wp2;go_ret;exact⟨rfl,rfl⟩
theorem bI(a b:Int)(w:World)(a0:0<=a)(a1:a<65537)(b0:0<=b)(b1:b<65537):
  Rq 68 #[it a,it b] w (it (a*b%65537)):=by
 have hb:=M.mul_bd a0 a1 b0 b1;obtain⟨m0,I⟩:=hb;go_enter func68,ntmps68;go_wp2;go_ret;exact⟨rfl,rfl⟩
theorem eC(a b:Int)(w:World):
  Rq 156 #[it a,it b] w (it (M.add a b)):=by
 cases ha:M.el a with
 | true=>cases hb:M.el b with
  | true=>
   have E:=Hd (M.add_in ha hb);have ha':=ha;have hb':=hb;obtain⟨a0,a1⟩:=(M.el_iff a).1 ha';obtain⟨b0,b1⟩:=(M.el_iff b).1 hb';clear ha' hb';go_enter func156,ntmps156;(go_wp2_with fail);refine(bM a _).mono ?_;rintro e w' ⟨rfl,rfl⟩;(go_wp2_with fail);refine(bM b _).mono ?_;rintro e w' ⟨rfl,rfl⟩;go_wp2;go_ret;exact⟨bR E.o.symm,rfl⟩
  | false=>
   have E:H7 (M.add a b=-1):=M.add_r hb;go_enter func156,ntmps156;(go_wp2_with fail);refine(bM a _).mono ?_;rintro e w' ⟨rfl,rfl⟩;(go_wp2_with fail);refine(bM b _).mono ?_;rintro e w' ⟨rfl,rfl⟩;go_wp2;go_ret;exact⟨bR E.o.symm,rfl⟩
 | false=>
  have E:H7 (M.add a b=-1):=M.add_l ha;go_enter func156,ntmps156;(go_wp2_with fail);refine(bM a _).mono ?_;rintro e w' ⟨rfl,rfl⟩;go_wp2;go_ret;exact⟨bR E.o.symm,rfl⟩
structure aC(w:World)(a:Option Addr)(n cap:Nat)(zs:List Int):Prop where
 len:zs.length=n
 le:n<=cap
 big:(cap:Int)<=9223372036854775807
 no:a=none->n=0/\cap=0
 pos:n=0\/∃b off,a=some ⟨b,off,none⟩/\∀i,i<n->w.cell? ⟨b,off+i,none⟩=some (it (zs.getD i 0))
theorem Below.drewN'{a:World}(h:Below B a w)(n:Nat):Below B a (w.drewN n):=⟨h.os,h.tape,h.output,h.size,h.block⟩
theorem aC.of_cells(h:aC w a n cap zs)(hc:∀(p:Addr) (v:Value),w.cell? p=some v->(∃x,a=some x/\x.block=p.block)->w'.cell? p=some v):aC w' a n cap zs:=by
 refine⟨h.len,h.le,h.big,h.no,?_⟩
 rcases h.pos with e | ⟨b,off,e,hb⟩
 .exact .inl e
 .exact .inr ⟨b,off,e,λi hi=>hc _ _ (hb i hi) ⟨_,e,rfl⟩⟩
theorem aC.below(h:aC w a n cap zs)(hb:m1 w w'):aC w' a n cap zs:=
 h.of_cells λp _ hp _=>(hb.cell (p:=p) (xJ w p hp)).trans hp
theorem aC.drewN(h:aC w a n cap zs)(k:Nat):aC (w.drewN k) a n cap zs:=
 h.of_cells λ_ _ hp _=>hp
theorem aC.nil(h:aC w a 0 cap zs):zs=[]:=List.eq_nil_of_length_eq_zero h.len
theorem aC.at(h:aC w a n cap zs)(h0:0<n):∃b off,a=some ⟨b,off,none⟩/\∀i,i<n->w.cell? ⟨b,off+i,none⟩=some (it (zs.getD i 0)):=by
 rcases h.pos with e | e
 .omega
 .exact e
def M.allEl(zs:List Int):Bool:=zs.all M.el
theorem qN(h:(zs.take k).all M.el=true)(hk:k<zs.length)(he:M.el (zs.getD k 0)=true):(zs.take (k+1)).all M.el=true:=by
 rw[xA hk,List.all_append,h];simpa[m5,m9 hk]using he
theorem um(hk:k<zs.length)(he:M.el (zs.getD k 0)=false):M.allEl zs=false:=by
 unfold M.allEl;rw[List.all_eq_false];refine⟨zs.getD k 0,?_,by rw[he];simp⟩;rw[m5,m9 hk];exact List.getElem_mem _
theorem ee{c:Nat}(w:World)(hz:aC w a n c zs):
  Rq 60 #[.slice a n c] w (.bool (M.allEl zs)):=by
 have bn:(n:Int)<=9223372036854775807:=(by have:=hz.big;have:=hz.le;omega);have HZ:=Hd (hz);clear hz;go_enter func60,ntmps60;go_wp2
 go_loop [3] (λi=>∃k:Nat,k<=n/\i=it k/\(zs.take k).all M.el=true) (λi=>n-(intOf i).toNat)
 case atStart=>exact⟨0,by omega,rfl,rfl⟩
 case round=>
  obtain⟨k,hk,rfl,Ba⟩:=hrel;have HA:=Hd (Ba);clear Ba;by_cases Aa:k<n
  ·
   obtain⟨b1,o1,rfl,Ca⟩:=HZ.o.at (by omega);have c1:=Ca k Aa;clear Ca;generalize hx:zs.getD k 0=x at c1;have HX:=Hd (hx);clear hx
   cases he:M.el x with
   | true=>
    (go_wp2_with fail);refine(bM _ _).mono ?_;rintro e w' ⟨rfl,rfl⟩;have HE:=Hd (he);go_wp2
    go_round
    case rel=>exact⟨k+1,by omega,by go_num,qN HA.o (by rw[HZ.o.len];exact Aa) (by rw[HX.o];exact HE.o)⟩
    case measure=>simp[intOf];omega
   | false=>
    (go_wp2_with fail);refine(bM _ _).mono ?_;rintro e w' ⟨rfl,rfl⟩;have HE:=Hd (he);go_wp2;go_ret;exact⟨aB (um (by rw[HZ.o.len];exact Aa) (by rw[HX.o];exact HE.o)).symm,rfl⟩
  ·
   go_wp2;go_ret;refine⟨aB ?_,rfl⟩;have h:=HA.o;rw[xt (by rw[HZ.o.len];omega)]at h;exact h.symm
def aw(W:World)(b:Nat)(vs:List Value):Prop:=(∀i,W.cell? ⟨b,i,none⟩=vs[i]?)/\(∀i,W.frozen? ⟨b,i,none⟩=false)/\b<W.heap.size
theorem aQ(w:World)(vs:Array Value)(t:TypeId):aw (w.alloc (.cells vs t)) w.heap.size vs.toList:=by
  refine⟨λi=>by rw[xu];simp,λi=>?_,by simp⟩
  rw[frozen?_alloc_cells];simp only[World.frozen?];rw[Array.getElem?_eq_none (by simp)]
theorem aZ(w:World)(o:Obj)(vs:Array Value)(t:TypeId):aw ((w.alloc o).alloc (.cells vs t)) (w.heap.size+1) vs.toList:=by
  have h:=aQ (w.alloc o) vs t
  rwa[show(w.alloc o).heap.size=w.heap.size+1 by simp]at h
theorem dG(w:World)(o o':Obj)(vs:Array Value)(t:TypeId):aw (((w.alloc o).alloc o').alloc (.cells vs t)) (w.heap.size+1+1) vs.toList:=by
  have h:=aZ (w.alloc o) o' vs t
  rwa[show(w.alloc o).heap.size=w.heap.size+1 by simp]at h
theorem ud(w:World)(o o' o2:Obj)(vs:Array Value)(t:TypeId):aw ((((w.alloc o).alloc o').alloc o2).alloc (.cells vs t)) (w.heap.size+1+1+1) vs.toList:=by
  have h:=dG (w.alloc o) o' o2 vs t
  rwa[show(w.alloc o).heap.size=w.heap.size+1 by simp]at h
theorem aw.at{b:Nat}(h:aw W b vs)(i:Nat):W.cell? ⟨b,i,none⟩=vs[i]?:=h.1 i
theorem aw.fr{b:Nat}(h:aw W b vs)(i:Nat):W.frozen? ⟨b,i,none⟩=false:=h.2.1 i
theorem aw.below{b:Nat}(h:aw W b vs)(hb:Below B W W')(hB:b<B):aw W' b vs:=
  ⟨λi=>(hb.cell (p:=⟨b,i,none⟩) hB).trans (h.1 i),λi=>(hb.frozen (p:=⟨b,i,none⟩) hB).trans (h.2.1 i),xD h.2.2 hb.size⟩
theorem aw.belowS{b:Nat}(h:aw W b vs)(hb:m1 W W'):aw W' b vs:=h.below hb h.2.2
theorem aw.alloc{b:Nat}(h:aw W b vs)(o:Obj):aw (W.alloc o) b vs:=h.belowS ((m8 _ _).alloc (m3 _) o)
theorem aw.set{b:Nat}(h:aw W b vs)(i:Nat)(hi:i<vs.length)(v:Value):aw (W.setCell ⟨b,i,none⟩ v) b (vs.set i v):=by
  refine⟨λj=>?_,λj=>by simpa using h.2.1 j,by have:=h.2.2;simpa[World.setCell]using this⟩
  by_cases e:j=i
  . subst e
    rw[List.getElem?_set_self hi]
    exact World.cell?_setCell_same (w:=W) (a:=⟨b,j,none⟩) (v:=v) (h:=(h.1 j).trans (m9 hi))
  . rw[List.getElem?_set_ne (λh=>e h.symm)]
    exact(xQ (w:=W) (a:=⟨b,i,none⟩) (b:=⟨b,j,none⟩) (v:=v) (h:=by intro e2;simp only[Addr.mk.injEq]at e2;omega)).trans (h.1 j)
theorem aw.far{b b':Nat}(h:aw W b vs)(hb:b≠b')(i:Nat)(v:Value):aw (W.setCell ⟨b',i,none⟩ v) b vs:=
  ⟨λj=>(xQ (w:=W) (a:=⟨b',i,none⟩) (b:=⟨b,j,none⟩) (v:=v) (h:=by intro e;simp only[Addr.mk.injEq]at e;omega)).trans (h.1 j),λj=>by simpa using h.2.1 j,by have:=h.2.2;simpa[World.setCell]using this⟩
theorem aw.grown{b:Nat}{row:Option Nat}(h:aw w b vs)(hg:w.grownBy w' row)(hr:row≠some b):aw w' b vs:=by
  have hb:w'.heap[b]?=w.heap[b]?:=hg.block b h.2.2 (λe'=>hr (by rw[e']))
  refine⟨λi=>(World.cell?_of_block (a:=⟨b,i,none⟩) hb).trans (h.1 i),λi=>(World.frozen?_of_block (a:=⟨b,i,none⟩) hb).trans (h.2.1 i),xD h.2.2 hg.size⟩
theorem aw.range{b:Nat}(h:aw W b vs)(o:Nat)(cs:List Value)(hc:∀j v,cs[j]?=some v->vs[o+j]?=some v):W.rangeAt b o cs:=
  λj v hv=>(h.at (o+j)).trans (hc j v hv)
theorem aw.row{b:Nat}(h:aw W b vs):W.rangeAt b 0 vs:=h.range 0 vs λj v hv=>by rw[Nat.zero_add];exact hv
theorem aw.there{b:Nat}(h:aw W b vs)(o n:Nat)(hn:o+n<=vs.length):W.there b o n:=
  λj hj=>⟨by rw[h.at,m9 (by omega)];rfl,h.fr _⟩
def mh(vs:List Value)(o:Nat)(us:List Value):List Value:=vs.take o++(us++vs.drop (o+us.length))
theorem qF{o:Nat}{u:Value}(h:o<vs.length):mh (vs.set o u) (o+1) us=mh vs o (u::us):=by
  unfold mh
  rw[xA (by simpa using h),List.getElem_set_self,List.take_set_of_le (m3 _),List.drop_set_of_lt (by omega),List.append_assoc]
  simp only[List.length_cons,List.cons_append,List.nil_append]
  rw[show o+(us.length+1)=o+1+us.length by omega]
theorem tg(h:us.length=vs.length):mh vs 0 us=us:=by
  unfold mh;rw[List.take_zero,List.nil_append,Nat.zero_add,h,List.drop_length,List.append_nil]
theorem aw.setCells:∀(us:List Value) {W:World} {b:Nat} {vs:List Value} (o:Nat),aw W b vs->o+us.length<=vs.length->aw (W.setCells b o us) b (mh vs o us)
  | [],W,b,vs,o,h,_=>by
    have e:mh vs o []=vs:=by unfold mh;rw[List.nil_append,List.length_nil,Nat.add_zero,List.take_append_drop]
    rw[e];exact h
  | u::us,W,b,vs,o,h,hl=>by
    have hl':o+(us.length+1)<=vs.length:=hl
    have:=aw.setCells us (o+1) (h.set o (by omega) u) (by rw[List.length_set];omega)
    rw[qF (by omega)]at this
    exact this
theorem aw.farCells:∀(us:List Value) {W:World} {b b':Nat} {vs:List Value} (o:Nat),aw W b vs->b≠b'->aw (W.setCells b' o us) b vs
  | [],_,_,_,_,_,h,_=>h
  | u::us,_,_,_,_,o,h,hb=>aw.farCells us (o+1) (h.far hb o u) hb
theorem aP:∀(us:List Value) {w0 W:World} {B b:Nat} (o:Nat),Below B w0 W->B<=b->Below B w0 (W.setCells b o us)
  | [],_,_,_,_,_,h,_=>h
  | _::us,_,_,_,_,o,h,hb=>aP us (o+1) (h.setCell hb _) hb
theorem cu{o:Oper}{a:Act}(hgd:o.guard=none)(v:Value)(w':World)
   (hrun:(execOp a.eval o).run P w=.ok (.value v) w')(h:wpList P ops Q rest (a.put o.dst v) w'):wpList P ops Q (o::rest) a w:=by
  refine wpList_plain hgd λK hK=>?_
  unfold Oper.wp
  rw[hrun]
  exact hK _ _ h
theorem ch{o:Oper}{a:Act}(hgd:o.guard=none)(t:TypeId)(ho:o.op=.alloc t)(cs:Array Value)
   (hrun:(Instr.alloc t true (.tuple #[])).run P w=.ok (tG w.heap.size) (w.alloc (.cells cs t)))
   (h:wpList P ops Q rest (a.put o.dst (tG w.heap.size)) (w.alloc (.cells cs t))):wpList P ops Q (o::rest) a w:=by
  refine cu hgd _ _ ?_ h
  unfold execOp
  simp only[ho,Sem.run_bind,hrun,Result.andThen_ok,Sem.run_pure]
theorem au{o:Oper}{a:Act}(d:Tmp)(_hd:o.dst=some d)(h:H7 (wpList P ops Q (o::rest) a w)):wpList P ops Q (o::rest) a w:=h
theorem aD{o:Oper}{a:Act}(_hd:o.dst=none)(h:H7 (wpList P ops Q (o::rest) a w)):wpList P ops Q (o::rest) a w:=h
theorem aM{fn:Func}{p:Tmp}(h:fn.results=#[.cell p ty])(hp:tmps.getD p undef=.pointer (some ad))
   (hl:(loadVar ty ad).run P w=.ok v w):(results fn tmps).run P w=.ok v w:=by
  have hp':tmps[p]?.getD undef=.pointer (some ad):=by simpa using hp
  simp[results,h,hp',asAddr,hl]
theorem ef{fn:Func}{p q:Tmp}(h:fn.results=#[.cell p ty,.tmp q])(hp:tmps.getD p undef=.pointer (some ad))
   (hl:(loadVar ty ad).run P w=.ok v w):(results fn tmps).run P w=.ok (.tuple #[v,tmps.getD q undef]) w:=by
  have hp':tmps[p]?.getD undef=.pointer (some ad):=by simpa using hp
  simp[results,h,hp',asAddr,hl]
theorem aK{fn:Func}{p q r:Tmp}(h:fn.results=#[.cell p ty,.tmp q,.tmp r])(hp:tmps.getD p undef=.pointer (some ad))
   (hl:(loadVar ty ad).run P w=.ok v w):(results fn tmps).run P w=.ok (.tuple #[v,tmps.getD q undef,tmps.getD r undef]) w:=by
  have hp':tmps[p]?.getD undef=.pointer (some ad):=by simpa using hp
  simp[results,h,hp',asAddr,hl]
theorem aw.c{b:Nat}(h:aw W b vs)(j:Nat)(e:vs[j]?=some v:=by exact rfl):W.cell? ⟨b,j,none⟩=some v:=(h.at j).trans e
theorem H7.t{u v:World}(h:H7 (m1 w u))(k:m1 u v):H7 (m1 w v):=h.o.trans (k.mono h.o.size)
theorem H7.b{U:World}{b:Nat}(h:H7 (aw W b vs))(k:m1 W U):H7 (aw U b vs):=h.o.belowS k
theorem H7.c{b:Nat}(h:H7 (aw W b vs))(j:Nat)(e:vs[j]?=some v:=by exact rfl):W.cell? ⟨b,j,none⟩=some v:=(h.o.at j).trans e
theorem dY{a:Act}(T:TypeId)(b o:Nat)(cs:List Value){d:TypeDesc}(hc:w.rangeAt b o cs)(hu:P.underlying T=some d)
   (hs:op.guard=none/\d.isRow=true/\(P.info? T).map (·.size)=some cs.length/\∃x,op.op=.load T x/\a.eval x=.pointer (some ⟨b,o,none⟩))
   (h:wpList P ops Q rest (a.put op.dst (.agg cs.toArray)) w):H7 (wpList P ops Q (op::rest) a w):=by
  obtain⟨h1,h2,h3,x,h4,h5⟩:=hs
  exact wpList_load_mid h1 T x h4 b o h5 cs d hc hu h2 h3 h
theorem eF{a:Act}(T:TypeId)(b o:Nat)(cs:List Value)(ht:w.there b o cs.length)
   (hs:op.guard=none/\(P.info? T).map (·.size)=some cs.length/\cs.toArray.all (·.oneCell')=true/\∃x y,op.op=.store T x y/\a.eval x=.pointer (some ⟨b,o,none⟩)/\a.eval y=.agg cs.toArray)
   (h:wpList P ops Q rest (a.put op.dst undef) (w.setCells b o cs)):H7 (wpList P ops Q (op::rest) a w):=by
  obtain⟨h1,h2,h3,x,y,h4,h5,h6⟩:=hs
  exact wpList_store_mid h1 T x y h4 b o cs.toArray h5 h6 (by simpa using ht) (by simpa using h2) h3 (by simpa using h)
theorem ui{a:Act}(T:TypeId)(cs:Array Value)
   (hs:op.guard=none/\op.op=.alloc T/\(Instr.alloc T true (.tuple #[])).run P w=.ok (tG w.heap.size) (w.alloc (.cells cs T)))
   (h:wpList P ops Q rest (a.put op.dst (tG w.heap.size)) (w.alloc (.cells cs T))):H7 (wpList P ops Q (op::rest) a w):=
  ch hs.1 T hs.2.1 cs hs.2.2 h
theorem cQ(w:World)(vs:List Value)(t:TypeId):H7 (aw (w.alloc (.cells vs.toArray t)) w.heap.size vs):=aQ _ _ _
theorem Hx{p:Prop}(h:H7 p):p:=h
theorem eE(a b:Int)(w:World):
  Rq 109 #[it a,it b] w (it (M.sub a b)):=by
 cases ha:M.el a with
 | true=>cases hb:M.el b with
  | true=>
   have E:=Hd (M.sub_in ha hb);have ha':=ha;have hb':=hb;obtain⟨a0,a1⟩:=(M.el_iff a).1 ha';obtain⟨b0,b1⟩:=(M.el_iff b).1 hb';clear ha' hb';go_enter func109,ntmps109;(go_wp2_with fail);refine(bM a _).mono ?_;rintro e w' ⟨rfl,rfl⟩;(go_wp2_with fail);refine(bM b _).mono ?_;rintro e w' ⟨rfl,rfl⟩;go_wp2;go_ret;exact⟨bR (by rw[E.o];congr 1;omega),rfl⟩
  | false=>
   have E:H7 (M.sub a b=-1):=M.sub_r hb;go_enter func109,ntmps109;(go_wp2_with fail);refine(bM a _).mono ?_;rintro e w' ⟨rfl,rfl⟩;(go_wp2_with fail);refine(bM b _).mono ?_;rintro e w' ⟨rfl,rfl⟩;go_wp2;go_ret;exact⟨bR E.o.symm,rfl⟩
 | false=>
  have E:H7 (M.sub a b=-1):=M.sub_l ha;go_enter func109,ntmps109;(go_wp2_with fail);refine(bM a _).mono ?_;rintro e w' ⟨rfl,rfl⟩;go_wp2;go_ret;exact⟨bR E.o.symm,rfl⟩
theorem bP(a b:Int)(w:World):
  Rq 110 #[it a,it b] w (it (M.mul a b)):=by
 cases ha:M.el a with
 | true=>cases hb:M.el b with
  | true=>
   have E:=Hd (M.mul_in ha hb);have ha':=ha;have hb':=hb;obtain⟨a0,a1⟩:=(M.el_iff a).1 ha';obtain⟨b0,b1⟩:=(M.el_iff b).1 hb';clear ha' hb';obtain⟨m0,I⟩:=M.mul_bd a0 a1 b0 b1;go_enter func110,ntmps110;(go_wp2_with fail);refine(bM a _).mono ?_;rintro e w' ⟨rfl,rfl⟩;(go_wp2_with fail);refine(bM b _).mono ?_;rintro e w' ⟨rfl,rfl⟩;go_wp2;go_ret;exact⟨bR E.o.symm,rfl⟩
  | false=>
   have E:H7 (M.mul a b=-1):=M.mul_r hb;go_enter func110,ntmps110;(go_wp2_with fail);refine(bM a _).mono ?_;rintro e w' ⟨rfl,rfl⟩;(go_wp2_with fail);refine(bM b _).mono ?_;rintro e w' ⟨rfl,rfl⟩;go_wp2;go_ret;exact⟨bR E.o.symm,rfl⟩
 | false=>
  have E:H7 (M.mul a b=-1):=M.mul_l ha;go_enter func110,ntmps110;(go_wp2_with fail);refine(bM a _).mono ?_;rintro e w' ⟨rfl,rfl⟩;go_wp2;go_ret;exact⟨bR E.o.symm,rfl⟩
namespace M
theorem mL(a b:Int):a%65537*b%65537=a*b%65537:=(cg_mod a).mul (cg.refl b)
theorem mR(a b:Int):a*(b%65537)%65537=a*b%65537:=(cg.refl a).mul (cg_mod b)
theorem aL(a b:Int):(a%65537+b)%65537=(a+b)%65537:=by omega
theorem aR(a b:Int):(a+b%65537)%65537=(a+b)%65537:=by omega
structure Rl where
 xx:Int
 xy:Int
 yy:Int
 x:Int
 y:Int
 k:Int
def Rl.nums(r:Rl):List Int:=[r.xx,r.xy,r.yy,r.x,r.y,r.k]
def Rl.ok(r:Rl):Bool:=allEl r.nums
def Rl.app(r:Rl)(x y:Int):Int:=(r.xx*(x*x)+r.xy*(x*y)+r.yy*(y*y)+r.x*x+r.y*y+r.k)%65537
structure Mc where
 X:Rl
 Y:Rl
def Mc.ok(m:Mc):Bool:=m.X.ok&&m.Y.ok
def Mc.nx(m:Mc)(s:Int×Int):Int×Int:=(m.X.app s.1 s.2,m.Y.app s.1 s.2)
def Mc.rn(m:Mc)(s:Int×Int):Nat->Int×Int
 | 0=>s
 | n+1=>m.nx (m.rn s n)
def sOk(s:Int×Int):Bool:=el s.1&&el s.2
theorem app_bd(r:Rl)(x y:Int):0<=r.app x y/\r.app x y<65537:=by unfold Rl.app;omega
theorem el_app(r:Rl)(x y:Int):el (r.app x y)=true:=(el_iff _).2 (app_bd r x y)
theorem sOk_iff(s:Int×Int):sOk s=true↔(0<=s.1/\s.1<65537)/\(0<=s.2/\s.2<65537):=by
 unfold sOk;rw[xP,el_iff,el_iff]
theorem sOk_nx(m:Mc)(s:Int×Int):sOk (m.nx s)=true:=by unfold sOk Mc.nx;rw[el_app,el_app];rfl
theorem sOk_rn(m:Mc){s:Int×Int}(h:sOk s=true):∀n,sOk (m.rn s n)=true
 | 0=>h
 | _+1=>sOk_nx m _
theorem rl_bd{r:Rl}(h:r.ok=true):(0<=r.xx/\r.xx<65537)/\(0<=r.xy/\r.xy<65537)/\(0<=r.yy/\r.yy<65537)/\(0<=r.x/\r.x<65537)/\(0<=r.y/\r.y<65537)/\(0<=r.k/\r.k<65537):=by
 unfold Rl.ok allEl Rl.nums at h;simp only[List.all_cons,List.all_nil,Bool.and_true,xP,el_iff]at h;exact h
theorem app_model(r:Rl)(x y:Int):((((((r.xx*(x*x%65537)%65537)+r.xy*(x*y%65537)%65537)%65537+r.yy*(y*y%65537)%65537)%65537+r.x*x%65537)%65537+r.y*y%65537)%65537+r.k)%65537=r.app x y:=by
 unfold Rl.app;simp only[mR,aL,aR]
theorem app_code(r:Rl)(x y:Int):((((r.xx*x%65537+r.xy*y%65537)%65537+r.x)%65537*x%65537+(r.yy*y%65537+r.y)%65537*y%65537)%65537+r.k)%65537=r.app x y:=by
 unfold Rl.app;simp only[mL,aL,aR]
 congr 1
 grind
def Mc.run(m:Mc)(s:Int×Int)(n:Nat):List (Int×Int):=(List.range (n+1)).map (m.rn s)
theorem run_len(m:Mc)(s:Int×Int)(n:Nat):(m.run s n).length=n+1:=by simp[Mc.run]
theorem run_snoc(m:Mc)(s:Int×Int)(n:Nat):m.run s n++[m.rn s (n+1)]=m.run s (n+1):=by
 unfold Mc.run;rw[List.range_succ (n:=n+1)];simp
theorem run_get(m:Mc)(s:Int×Int)(n i:Nat)(h:i<=n):(m.run s n).getD i (0,0)=m.rn s i:=by
 rw[m5,m9 (by rw[run_len];omega)];simp[Mc.run]
end M
theorem ce{f:FuncId}{args:Array Value}{q:Nat}
 (h:Calls P f args (w.drewN (q+n)) λe w'=>e=.returned v/\w'=w.drewN (q+n)):Calls P f args (w.drewN (q+n)) λe w''=>e=.returned v/\∃m,w''=w.drewN (q+m):=
 h.mono λ_ _ h'=>⟨h'.1,n,h'.2⟩
abbrev jI(r:M.Rl):Value:=.agg #[it r.xx,it r.xy,it r.yy,it r.x,it r.y,it r.k]
abbrev dp(m:M.Mc):Value:=.agg #[it m.X.xx,it m.X.xy,it m.X.yy,it m.X.x,it m.X.y,it m.X.k,it m.Y.xx,it m.Y.xy,it m.Y.yy,it m.Y.x,it m.Y.y,it m.Y.k]
abbrev dd(s:Int×Int):Value:=.agg #[it s.1,it s.2]
theorem sN(a b c d f k x y:Int)(w:World)(a0:0<=a)(a1:a<65537)(b0:0<=b)(b1:b<65537)(c0:0<=c)(c1:c<65537)(d0:0<=d)(d1:d<65537)(f0:0<=f)(f1:f<65537)(k0:0<=k)(k1:k<65537)(x0:0<=x)(x1:x<65537)(y0:0<=y)(y1:y<65537):
  Rt 246 #[.agg #[.int .i64 a,.int .i64 b,.int .i64 c,.int .i64 d,.int .i64 f,.int .i64 k],.agg #[.int .i64 x,.int .i64 y]] w (.int .i64 (((((a*x%65537+b*y%65537)%65537+d)%65537*x%65537+(c*y%65537+f)%65537*y%65537)%65537+k)%65537)):=by
 obtain⟨p1,Aa⟩:∃u,a*x%65537=u:=⟨_,rfl⟩;have Ka:0<=p1:=(by omega);have La:p1<65537:=(by omega);have Na:∀w,Rq 68 #[.int .i64 a,.int .i64 x] w (.int .i64 p1):=(by intro w;rw[<-Aa];exact bI a x w a0 a1 x0 x1);obtain⟨p2,Ba⟩:∃u,b*y%65537=u:=⟨_,rfl⟩;have Oa:0<=p2:=(by omega);have Pa:p2<65537:=(by omega);have Qa:∀w,Rq 68 #[.int .i64 b,.int .i64 y] w (.int .i64 p2):=(by intro w;rw[<-Ba];exact bI b y w b0 b1 y0 y1);obtain⟨p3,Ca⟩:∃u,(p1+p2)%65537=u:=⟨_,rfl⟩;have Ra:0<=p3:=(by omega);have Sa:p3<65537:=(by omega);have Ta:∀w,Rq 158 #[.int .i64 p1,.int .i64 p2] w (.int .i64 p3):=(by intro w;rw[<-Ca];exact dV p1 p2 w Ka La Oa Pa);obtain⟨p4,Da⟩:∃u,(p3+d)%65537=u:=⟨_,rfl⟩;have Ua:0<=p4:=(by omega);have Va:p4<65537:=(by omega);have Wa:∀w,Rq 158 #[.int .i64 p3,.int .i64 d] w (.int .i64 p4):=(by intro w;rw[<-Da];exact dV p3 d w Ra Sa d0 d1);obtain⟨p5,Ea⟩:∃u,c*y%65537=u:=⟨_,rfl⟩;have Xa:0<=p5:=(by omega);have Ya:p5<65537:=(by omega);have Za:∀w,Rq 68 #[.int .i64 c,.int .i64 y] w (.int .i64 p5):=(by intro w;rw[<-Ea];exact bI c y w c0 c1 y0 y1);obtain⟨p6,Fa⟩:∃u,(p5+f)%65537=u:=⟨_,rfl⟩;have Ab:0<=p6:=(by omega);have Bb:p6<65537:=(by omega);have Cb:∀w,Rq 158 #[.int .i64 p5,.int .i64 f] w (.int .i64 p6):=(by intro w;rw[<-Fa];exact dV p5 f w Xa Ya f0 f1);obtain⟨p7,Ga⟩:∃u,p4*x%65537=u:=⟨_,rfl⟩;have Db:0<=p7:=(by omega);have Eb:p7<65537:=(by omega);have Fb:∀w,Rq 68 #[.int .i64 p4,.int .i64 x] w (.int .i64 p7):=(by intro w;rw[<-Ga];exact bI p4 x w Ua Va x0 x1);obtain⟨p8,Ha⟩:∃u,p6*y%65537=u:=⟨_,rfl⟩;have Gb:0<=p8:=(by omega);have Hb:p8<65537:=(by omega);have Ib:∀w,Rq 68 #[.int .i64 p6,.int .i64 y] w (.int .i64 p8):=(by intro w;rw[<-Ha];exact bI p6 y w Ab Bb y0 y1);obtain⟨p9,Ia⟩:∃u,(p7+p8)%65537=u:=⟨_,rfl⟩;have Jb:0<=p9:=(by omega);have Kb:p9<65537:=(by omega);have Lb:∀w,Rq 158 #[.int .i64 p7,.int .i64 p8] w (.int .i64 p9):=(by intro w;rw[<-Ia];exact dV p7 p8 w Db Eb Gb Hb);obtain⟨q1,Ja⟩:∃u,(p9+k)%65537=u:=⟨_,rfl⟩;have Qb:0<=q1:=(by omega);have Rb:q1<65537:=(by omega);have Nb:∀w,Rq 158 #[.int .i64 p9,.int .i64 k] w (.int .i64 q1):=(by intro w;rw[<-Ja];exact dV p9 k w Jb Kb k0 k1);rw[Aa,Ba,Ca,Da,Ea,Fa,Ga,Ha,Ia,Ja];clear Aa Ba Ca Da Ea Fa Ga Ha Ia Ja;go_enter func246,ntmps246;go_wp2
 go_quiet (first
  | (go_at_call_of 68 (Value.int .i64 a);exact Calls.quiet_of_same (v:=.int .i64 p1) (Na _))
  | (go_at_call_of 68 (Value.int .i64 b);exact Calls.quiet_of_same (v:=.int .i64 p2) (Qa _))
  | (go_at_call_of 158 (Value.int .i64 p1);exact Calls.quiet_of_same (v:=.int .i64 p3) (Ta _))
  | (go_at_call_of 158 (Value.int .i64 p3);exact Calls.quiet_of_same (v:=.int .i64 p4) (Wa _)))
 obtain⟨n1,Ob⟩:∃n1,n1=nq:=⟨_,rfl⟩;subst Ob;go_wp2
 go_quiet (first
  | (go_at_call_of 68 (Value.int .i64 c);exact ce (v:=.int .i64 p5) (Za _))
  | (go_at_call_of 158 (Value.int .i64 p5);exact ce (v:=.int .i64 p6) (Cb _)))
 obtain⟨n2,Pb⟩:∃n2,n2=nq:=⟨_,rfl⟩;subst Pb;go_wp2
 go_quiet (first
  | (go_at_call_of 68 (Value.int .i64 p4);exact ce (v:=.int .i64 p7) (Fb _))
  | (go_at_call_of 68 (Value.int .i64 p6);exact ce (v:=.int .i64 p8) (Ib _))
  | (go_at_call_of 158 (Value.int .i64 p7);exact ce (v:=.int .i64 p9) (Lb _))
  | (go_at_call_of 158 (Value.int .i64 p9);exact ce (v:=.int .i64 q1) (Nb _)))
 go_wp2;go_ret;exact⟨rfl,Below.drewN' (Below.drewN' (Below.drewN' (((m8 _ _).alloc (m3 _) _).alloc (by simp) _) _) _) _⟩
theorem tf(r:M.Rl)(s:Int×Int){wc:World}(hr:r.ok=true)(hs:M.sOk s=true)(hb:Below B w wc)(hB:B<=w.heap.size):
  Calls prog 246 #[jI r,dd s] wc λe w'=>e=.returned (it (r.app s.1 s.2))/\Below B w w':=by
 obtain⟨⟨a0,a1⟩,⟨b0,b1⟩,⟨c0,c1⟩,⟨d0,d1⟩,⟨f0,f1⟩,k0,k1⟩:=M.rl_bd hr;obtain⟨⟨x0,x1⟩,y0,y1⟩:=(M.sOk_iff s).1 hs;refine(sN r.xx r.xy r.yy r.x r.y r.k s.1 s.2 wc a0 a1 b0 b1 c0 c1 d0 d1 f0 f1 k0 k1 x0 x1 y0 y1).mono ?_;rintro e w' ⟨rfl,Aa⟩;exact⟨by rw[M.app_code],hb.trans (Aa.mono (by have:=hb.size;omega))⟩
theorem bx{p:Addr}(hb:Below B w w')(hp:p.block<B):w'.frozen? p=w.frozen? p:=by
 simp only[World.frozen?];rw[hb.block p.block hp]
theorem aU(w:World)(A B C:Array Value)(t1 t2 t3:TypeId)(i:Nat):
  (((w.alloc (.cells A t1)).alloc (.cells B t2)).alloc (.cells C t3)).cell? ⟨w.heap.size,i,none⟩=A[i]?/\(((w.alloc (.cells A t1)).alloc (.cells B t2)).alloc (.cells C t3)).cell? ⟨w.heap.size+1,i,none⟩=B[i]?/\(((w.alloc (.cells A t1)).alloc (.cells B t2)).alloc (.cells C t3)).cell? ⟨w.heap.size+1+1,i,none⟩=C[i]?/\(((w.alloc (.cells A t1)).alloc (.cells B t2)).alloc (.cells C t3)).frozen? ⟨w.heap.size+1+1,i,none⟩=false:=by
 have s1:(w.alloc (.cells A t1)).heap.size=w.heap.size+1:=(by simp);have s2:((w.alloc (.cells A t1)).alloc (.cells B t2)).heap.size=w.heap.size+1+1:=(by simp);refine⟨?_,?_,?_,?_⟩
 ·
  refine(World.cell?_alloc_lt (w:=(w.alloc (.cells A t1)).alloc (.cells B t2)) (o:=.cells C t3) (a:=⟨w.heap.size,i,none⟩) (h:=by rw[s2];simp;omega)).trans ((World.cell?_alloc_lt (w:=w.alloc (.cells A t1)) (o:=.cells B t2) (a:=⟨w.heap.size,i,none⟩) (h:=by rw[s1];simp)).trans ?_);rw[xu]
 ·
  refine(World.cell?_alloc_lt (w:=(w.alloc (.cells A t1)).alloc (.cells B t2)) (o:=.cells C t3) (a:=⟨w.heap.size+1,i,none⟩) (h:=by rw[s2];simp)).trans ?_;rw[<-s1,xu]
 .rw[<-s2,xu]
 .rw[frozen?_alloc_cells,frozen?_alloc_cells,frozen?_alloc_cells];simp only[World.frozen?];rw[Array.getElem?_eq_none (by omega)]
theorem bf(W:World)(B:Nat)(p:Addr)(u v:Value)(hp:p.block≠B):((W.setCell ⟨B,0,none⟩ u).setCell ⟨B,1,none⟩ v).cell? p=W.cell? p:=by
 refine(xQ (w:=W.setCell ⟨B,0,none⟩ u) (a:=⟨B,1,none⟩) (b:=p) (v:=v) (h:=?_)).trans (xQ (w:=W) (a:=⟨B,0,none⟩) (b:=p) (v:=u) (h:=?_))
 .intro e;exact hp (by rw[<-e])
 .intro e;exact hp (by rw[<-e])
theorem np(m:M.Mc)(s:Int×Int)(w:World)(hm:m.ok=true)(hs:M.sOk s=true):
  Rt 247 #[dp m,dd s] w (dd (m.nx s)):=by
 obtain⟨hX,hY⟩:m.X.ok=true/\m.Y.ok=true:=by unfold M.Mc.ok at hm;simpa using hm
 have CX:∀{wa wc:World},Below (w.heap.size+3) wa wc->w.heap.size+3<=wa.heap.size->Calls prog 246 #[jI m.X,dd s] wc λe w'=>e=.returned (.int .i64 (m.X.app s.1 s.2))/\Below (w.heap.size+3) wa w':=λh hB=>tf m.X s hX hs h hB;have CY:∀{wa wc:World},Below (w.heap.size+3) wa wc->w.heap.size+3<=wa.heap.size->Calls prog 246 #[jI m.Y,dd s] wc λe w'=>e=.returned (.int .i64 (m.Y.app s.1 s.2))/\Below (w.heap.size+3) wa w':=λh hB=>tf m.Y s hY hs h hB;unfold M.Mc.nx;obtain⟨⟨a,b,c,d,f,k⟩,⟨a',b',c',d',f',k'⟩⟩:=m;obtain⟨x,y⟩:=s;dsimp only[dp,jI,dd]at CX CY |-;generalize M.Rl.app ⟨a,b,c,d,f,k⟩ x y=u at *;generalize M.Rl.app ⟨a',b',c',d',f',k'⟩ x y=v at *;clear hX hY hm hs;have Ba:H7 (m1 w (((w.alloc (.cells #[Value.int .i64 a,Value.int .i64 b,Value.int .i64 c,Value.int .i64 d,Value.int .i64 f,Value.int .i64 k,Value.int .i64 a',Value.int .i64 b',Value.int .i64 c',Value.int .i64 d',Value.int .i64 f',Value.int .i64 k'] 194)).alloc (.cells #[Value.int .i64 x,Value.int .i64 y] 242)).alloc (.cells #[Value.int .i64 0,Value.int .i64 0] 242))):=(((m8 _ _).alloc (m3 _) _).alloc (by simp) _).alloc (by simp;omega) _;have Ea:(((w.alloc (.cells #[Value.int .i64 a,Value.int .i64 b,Value.int .i64 c,Value.int .i64 d,Value.int .i64 f,Value.int .i64 k,Value.int .i64 a',Value.int .i64 b',Value.int .i64 c',Value.int .i64 d',Value.int .i64 f',Value.int .i64 k'] 194)).alloc (.cells #[Value.int .i64 x,Value.int .i64 y] 242)).alloc (.cells #[Value.int .i64 0,Value.int .i64 0] 242)).heap.size=w.heap.size+3:=by simp
 have HK:H7 (∀W,Below (w.heap.size+3) (((w.alloc (.cells #[Value.int .i64 a,Value.int .i64 b,Value.int .i64 c,Value.int .i64 d,Value.int .i64 f,Value.int .i64 k,Value.int .i64 a',Value.int .i64 b',Value.int .i64 c',Value.int .i64 d',Value.int .i64 f',Value.int .i64 k'] 194)).alloc (.cells #[Value.int .i64 x,Value.int .i64 y] 242)).alloc (.cells #[Value.int .i64 0,Value.int .i64 0] 242)) W->(W.cell? ⟨w.heap.size,0,none⟩=some (.int .i64 a)/\W.cell? ⟨w.heap.size,1,none⟩=some (.int .i64 b)/\W.cell? ⟨w.heap.size,2,none⟩=some (.int .i64 c)/\W.cell? ⟨w.heap.size,3,none⟩=some (.int .i64 d)/\W.cell? ⟨w.heap.size,4,none⟩=some (.int .i64 f)/\W.cell? ⟨w.heap.size,5,none⟩=some (.int .i64 k)/\W.cell? ⟨w.heap.size,6,none⟩=some (.int .i64 a')/\W.cell? ⟨w.heap.size,7,none⟩=some (.int .i64 b')/\W.cell? ⟨w.heap.size,8,none⟩=some (.int .i64 c')/\W.cell? ⟨w.heap.size,9,none⟩=some (.int .i64 d')/\W.cell? ⟨w.heap.size,10,none⟩=some (.int .i64 f')/\W.cell? ⟨w.heap.size,11,none⟩=some (.int .i64 k')/\W.cell? ⟨w.heap.size+1,0,none⟩=some (.int .i64 x)/\W.cell? ⟨w.heap.size+1,1,none⟩=some (.int .i64 y))/\(W.cell? ⟨w.heap.size+1+1,0,none⟩=some (.int .i64 0)/\W.frozen? ⟨w.heap.size+1+1,0,none⟩=false/\W.cell? ⟨w.heap.size+1+1,1,none⟩=some (.int .i64 0)/\W.frozen? ⟨w.heap.size+1+1,1,none⟩=false)):=by
  intro W hW;exact⟨⟨(hW.cell (p:=⟨w.heap.size,0,none⟩) (show w.heap.size<_ by omega)).trans (aU w _ _ _ _ _ _ 0).1,(hW.cell (p:=⟨w.heap.size,1,none⟩) (show w.heap.size<_ by omega)).trans (aU w _ _ _ _ _ _ 1).1,(hW.cell (p:=⟨w.heap.size,2,none⟩) (show w.heap.size<_ by omega)).trans (aU w _ _ _ _ _ _ 2).1,(hW.cell (p:=⟨w.heap.size,3,none⟩) (show w.heap.size<_ by omega)).trans (aU w _ _ _ _ _ _ 3).1,(hW.cell (p:=⟨w.heap.size,4,none⟩) (show w.heap.size<_ by omega)).trans (aU w _ _ _ _ _ _ 4).1,(hW.cell (p:=⟨w.heap.size,5,none⟩) (show w.heap.size<_ by omega)).trans (aU w _ _ _ _ _ _ 5).1,(hW.cell (p:=⟨w.heap.size,6,none⟩) (show w.heap.size<_ by omega)).trans (aU w _ _ _ _ _ _ 6).1,(hW.cell (p:=⟨w.heap.size,7,none⟩) (show w.heap.size<_ by omega)).trans (aU w _ _ _ _ _ _ 7).1,(hW.cell (p:=⟨w.heap.size,8,none⟩) (show w.heap.size<_ by omega)).trans (aU w _ _ _ _ _ _ 8).1,(hW.cell (p:=⟨w.heap.size,9,none⟩) (show w.heap.size<_ by omega)).trans (aU w _ _ _ _ _ _ 9).1,(hW.cell (p:=⟨w.heap.size,10,none⟩) (show w.heap.size<_ by omega)).trans (aU w _ _ _ _ _ _ 10).1,(hW.cell (p:=⟨w.heap.size,11,none⟩) (show w.heap.size<_ by omega)).trans (aU w _ _ _ _ _ _ 11).1,(hW.cell (p:=⟨w.heap.size+1,0,none⟩) (show w.heap.size+1<_ by omega)).trans (aU w _ _ _ _ _ _ 0).2.1,(hW.cell (p:=⟨w.heap.size+1,1,none⟩) (show w.heap.size+1<_ by omega)).trans (aU w _ _ _ _ _ _ 1).2.1⟩,⟨(hW.cell (p:=⟨w.heap.size+1+1,0,none⟩) (show w.heap.size+1+1<_ by omega)).trans (aU w _ _ _ _ _ _ 0).2.2.1,(bx hW (show w.heap.size+1+1<_ by omega)).trans (aU w _ _ _ _ _ _ 0).2.2.2,(hW.cell (p:=⟨w.heap.size+1+1,1,none⟩) (show w.heap.size+1+1<_ by omega)).trans (aU w _ _ _ _ _ _ 1).2.2.1,(bx hW (show w.heap.size+1+1<_ by omega)).trans (aU w _ _ _ _ _ _ 1).2.2.2⟩⟩
 generalize Ca:(((w.alloc (.cells #[Value.int .i64 a,Value.int .i64 b,Value.int .i64 c,Value.int .i64 d,Value.int .i64 f,Value.int .i64 k,Value.int .i64 a',Value.int .i64 b',Value.int .i64 c',Value.int .i64 d',Value.int .i64 f',Value.int .i64 k'] 194)).alloc (.cells #[Value.int .i64 x,Value.int .i64 y] 242)).alloc (.cells #[Value.int .i64 0,Value.int .i64 0] 242))=wa at Ba Ea HK;have Fa:=Hd Ca;clear Ca;have Da:Below (w.heap.size+3) wa wa.drew:=(m8 _ _).drew;have Ga:H7 (∀(W:World) (u v:Value),(W.cell? ⟨w.heap.size,0,none⟩=some (.int .i64 a)/\W.cell? ⟨w.heap.size,1,none⟩=some (.int .i64 b)/\W.cell? ⟨w.heap.size,2,none⟩=some (.int .i64 c)/\W.cell? ⟨w.heap.size,3,none⟩=some (.int .i64 d)/\W.cell? ⟨w.heap.size,4,none⟩=some (.int .i64 f)/\W.cell? ⟨w.heap.size,5,none⟩=some (.int .i64 k)/\W.cell? ⟨w.heap.size,6,none⟩=some (.int .i64 a')/\W.cell? ⟨w.heap.size,7,none⟩=some (.int .i64 b')/\W.cell? ⟨w.heap.size,8,none⟩=some (.int .i64 c')/\W.cell? ⟨w.heap.size,9,none⟩=some (.int .i64 d')/\W.cell? ⟨w.heap.size,10,none⟩=some (.int .i64 f')/\W.cell? ⟨w.heap.size,11,none⟩=some (.int .i64 k')/\W.cell? ⟨w.heap.size+1,0,none⟩=some (.int .i64 x)/\W.cell? ⟨w.heap.size+1,1,none⟩=some (.int .i64 y))->((W.setCell ⟨w.heap.size+1+1,0,none⟩ u).setCell ⟨w.heap.size+1+1,1,none⟩ v).cell? ⟨w.heap.size,0,none⟩=some (.int .i64 a)/\((W.setCell ⟨w.heap.size+1+1,0,none⟩ u).setCell ⟨w.heap.size+1+1,1,none⟩ v).cell? ⟨w.heap.size,1,none⟩=some (.int .i64 b)/\((W.setCell ⟨w.heap.size+1+1,0,none⟩ u).setCell ⟨w.heap.size+1+1,1,none⟩ v).cell? ⟨w.heap.size,2,none⟩=some (.int .i64 c)/\((W.setCell ⟨w.heap.size+1+1,0,none⟩ u).setCell ⟨w.heap.size+1+1,1,none⟩ v).cell? ⟨w.heap.size,3,none⟩=some (.int .i64 d)/\((W.setCell ⟨w.heap.size+1+1,0,none⟩ u).setCell ⟨w.heap.size+1+1,1,none⟩ v).cell? ⟨w.heap.size,4,none⟩=some (.int .i64 f)/\((W.setCell ⟨w.heap.size+1+1,0,none⟩ u).setCell ⟨w.heap.size+1+1,1,none⟩ v).cell? ⟨w.heap.size,5,none⟩=some (.int .i64 k)/\((W.setCell ⟨w.heap.size+1+1,0,none⟩ u).setCell ⟨w.heap.size+1+1,1,none⟩ v).cell? ⟨w.heap.size,6,none⟩=some (.int .i64 a')/\((W.setCell ⟨w.heap.size+1+1,0,none⟩ u).setCell ⟨w.heap.size+1+1,1,none⟩ v).cell? ⟨w.heap.size,7,none⟩=some (.int .i64 b')/\((W.setCell ⟨w.heap.size+1+1,0,none⟩ u).setCell ⟨w.heap.size+1+1,1,none⟩ v).cell? ⟨w.heap.size,8,none⟩=some (.int .i64 c')/\((W.setCell ⟨w.heap.size+1+1,0,none⟩ u).setCell ⟨w.heap.size+1+1,1,none⟩ v).cell? ⟨w.heap.size,9,none⟩=some (.int .i64 d')/\((W.setCell ⟨w.heap.size+1+1,0,none⟩ u).setCell ⟨w.heap.size+1+1,1,none⟩ v).cell? ⟨w.heap.size,10,none⟩=some (.int .i64 f')/\((W.setCell ⟨w.heap.size+1+1,0,none⟩ u).setCell ⟨w.heap.size+1+1,1,none⟩ v).cell? ⟨w.heap.size,11,none⟩=some (.int .i64 k')/\((W.setCell ⟨w.heap.size+1+1,0,none⟩ u).setCell ⟨w.heap.size+1+1,1,none⟩ v).cell? ⟨w.heap.size+1,0,none⟩=some (.int .i64 x)/\((W.setCell ⟨w.heap.size+1+1,0,none⟩ u).setCell ⟨w.heap.size+1+1,1,none⟩ v).cell? ⟨w.heap.size+1,1,none⟩=some (.int .i64 y)):=λW u v ⟨g0,g1,g2,g3,g4,g5,g6,g7,g8,g9,g10,g11,g12,g13⟩=>⟨(bf W _ _ u v (show w.heap.size≠w.heap.size+1+1 by omega)).trans g0,(bf W _ _ u v (show w.heap.size≠w.heap.size+1+1 by omega)).trans g1,(bf W _ _ u v (show w.heap.size≠w.heap.size+1+1 by omega)).trans g2,(bf W _ _ u v (show w.heap.size≠w.heap.size+1+1 by omega)).trans g3,(bf W _ _ u v (show w.heap.size≠w.heap.size+1+1 by omega)).trans g4,(bf W _ _ u v (show w.heap.size≠w.heap.size+1+1 by omega)).trans g5,(bf W _ _ u v (show w.heap.size≠w.heap.size+1+1 by omega)).trans g6,(bf W _ _ u v (show w.heap.size≠w.heap.size+1+1 by omega)).trans g7,(bf W _ _ u v (show w.heap.size≠w.heap.size+1+1 by omega)).trans g8,(bf W _ _ u v (show w.heap.size≠w.heap.size+1+1 by omega)).trans g9,(bf W _ _ u v (show w.heap.size≠w.heap.size+1+1 by omega)).trans g10,(bf W _ _ u v (show w.heap.size≠w.heap.size+1+1 by omega)).trans g11,(bf W _ _ u v (show w.heap.size+1≠w.heap.size+1+1 by omega)).trans g12,(bf W _ _ u v (show w.heap.size+1≠w.heap.size+1+1 by omega)).trans g13⟩;go_enter func247,ntmps247;go_wp2;rw[Fa.o]
 go_region_held3 (λW=>W.cell? ⟨w.heap.size,0,none⟩=some (.int .i64 a)/\W.cell? ⟨w.heap.size,1,none⟩=some (.int .i64 b)/\W.cell? ⟨w.heap.size,2,none⟩=some (.int .i64 c)/\W.cell? ⟨w.heap.size,3,none⟩=some (.int .i64 d)/\W.cell? ⟨w.heap.size,4,none⟩=some (.int .i64 f)/\W.cell? ⟨w.heap.size,5,none⟩=some (.int .i64 k)/\W.cell? ⟨w.heap.size,6,none⟩=some (.int .i64 a')/\W.cell? ⟨w.heap.size,7,none⟩=some (.int .i64 b')/\W.cell? ⟨w.heap.size,8,none⟩=some (.int .i64 c')/\W.cell? ⟨w.heap.size,9,none⟩=some (.int .i64 d')/\W.cell? ⟨w.heap.size,10,none⟩=some (.int .i64 f')/\W.cell? ⟨w.heap.size,11,none⟩=some (.int .i64 k')/\W.cell? ⟨w.heap.size+1,0,none⟩=some (.int .i64 x)/\W.cell? ⟨w.heap.size+1,1,none⟩=some (.int .i64 y)) (first | exact(HK.o _ Aa).1 | exact(HK.o _ Da).1 | exact Ga.o _ _ _ (by assumption))
  (first
   | (go_at_call_of 246 (Value.int .i64 a);refine(CX (by assumption) (by omega)).mono ?_;rintro e w1 ⟨rfl,Aa⟩;(try clear Da))
   | (go_at_call_of 246 (Value.int .i64 a');refine(CY (by assumption) (by omega)).mono ?_;rintro e w2 ⟨rfl,Aa⟩;obtain⟨-,t0,t1,t2,t3⟩:=HK.o _ Aa))
 all_goals
  have Ha:=Hd Aa;clear Aa;go_wp2;refine s' (v:=.agg #[.int .i64 u,.int .i64 v]) (by simp[results,results247,go_sem,t0,t2]) rfl ⟨rfl,?_⟩;exact((Ba.o.trans (Ha.o.mono (by omega))).setCell (by show w.heap.size<=w.heap.size+1+1;omega) _).setCell (by show w.heap.size<=w.heap.size+1+1;omega) _
def aA(t:TypeId)(w:World)(dA:Nat)(a:Option Addr)(n cap:Nat)(zs:List Int):Prop:=
 w.ownsRow dA t 1 (.slice a n cap) n (zs.map (Value.int .i64))
theorem aA.len{t:TypeId}(h:aA t w dA a n cap zs):zs.length=n:=by
 have:=h.1;simpa using this
theorem aA.cap_le{t:TypeId}(h:aA t w dA a n cap zs):n<=cap/\(cap:Int)<=9223372036854775807:=by
 rcases h.2 with⟨e,h0⟩ | ⟨g,c,cur,e,_,_,hn,hm,_,_⟩
 .simp only[Value.slice.injEq]at e;omega
 ·
  simp only[Value.slice.injEq]at e;unfold maxLen at hm;omega
theorem aA.block{t:TypeId}(h:aA t w dA a n cap zs)(h0:0<n):
  ∃g,a=some ⟨g,0,none⟩/\dA<=g/\g<w.heap.size/\(∀i,i<n->w.cell? ⟨g,i,none⟩=some (it (zs.getD i 0)))/\∀i,w.frozen? ⟨g,i,none⟩=false:=by
 have hl:=h.len;have Aa:∀g,(Value.slice a n cap).ownBlock=some g->_:=λg hg=>World.ownsRow.cells h hg
 rcases h.2 with⟨e,h0'⟩ | ⟨g,c,cur,e,hb,hh,hn,hm,_,_⟩
 .omega
 ·
  simp only[Value.slice.injEq]at e;obtain⟨rfl,-,-⟩:=e
  have Ba:g<w.heap.size:=by
   rcases Nat.lt_or_ge g w.heap.size with h' | h'
   .exact h'
   .rw[Array.getElem?_eq_none h']at hh;cases hh
  refine⟨g,rfl,hb,Ba,λi hi=>?_,λi=>?_⟩
  ·
   have:=Aa g rfl i (it (zs.getD i 0)) (by rw[List.getElem?_map,m9 (by omega)];simp[m5,m9 (show i<zs.length by omega)]);simp only[Addr.add]at this
   split at this
   .rename_i e;subst e;exact this
   .simpa using this
  .simp[World.frozen?,hh]
theorem aA.sees{t:TypeId}(h:aA t w dA a n cap zs):aC w a n cap zs:=by
 refine⟨h.len,h.cap_le.1,h.cap_le.2,?_,?_⟩
 ·
  intro e;subst e
  rcases h.2 with⟨e,h0⟩ | ⟨g,c,cur,e,_⟩
  .simp only[Value.slice.injEq]at e;exact⟨h0,e.2.2⟩
  .simp at e
 by_cases h0:0<n
 ·
  obtain⟨g,rfl,_,_,hc,_⟩:=h.block h0;exact .inr ⟨g,0,rfl,λi hi=>by rw[Nat.zero_add];exact hc i hi⟩
 .exact .inl (by omega)
theorem aA.below{t:TypeId}(h:aA t w dA a n cap zs)(hb:m1 w w'):aA t w' dA a n cap zs:=
 World.ownsRow.kept h (w':=w') (row:=none) ⟨hb.os,hb.tape,hb.output,hb.size,λk hk _=>hb.block k hk⟩ (by cases hv:(Value.slice a n cap).ownBlock <;> simp)
theorem aA.mono{t:TypeId}{base':Nat}(h:aA t w dA a n cap zs)(hb:base'<=dA):aA t w base' a n cap zs:=by
 refine⟨h.1,?_⟩
 rcases h.2 with e | ⟨g,c,cur,e,hg,r⟩
 .exact .inl e
 .exact .inr ⟨g,c,cur,e,by omega,r⟩
theorem aA.set{t:TypeId}{g:Nat}(h:aA t w dA (some ⟨g,0,none⟩) n cap zs)(k:Nat)(x:Int):aA t (w.setCell ⟨g,k,none⟩ (it x)) dA (some ⟨g,0,none⟩) n cap (zs.set k x):=by
 obtain⟨hl,h⟩:=h;refine⟨by simpa using hl,?_⟩
 rcases h with⟨e,_⟩ | ⟨g',c,cur,e,hb,hh,hn,hm,hs,ht⟩
 .simp at e
 ·
  simp only[Value.slice.injEq,Option.some.injEq,Addr.mk.injEq]at e;obtain⟨⟨rfl,-,-⟩,-,rfl⟩:=e;refine .inr ⟨g,cap,cur.setIfInBounds k (it x),rfl,hb,?_,hn,hm,by simpa using hs,?_⟩
  .simp[World.setCell,Array.getElem?_modify,hh]
  .rw[Array.toList_setIfInBounds,List.take_set,ht,List.map_set]
theorem aA.other{t:TypeId}(h:aA t w dA a n cap zs)(p:Addr)(hp:∀x,a=some x->x.block≠p.block)(v:Value):aA t (w.setCell p v) dA a n cap zs:=by
 refine World.ownsRow.kept h (w':=w.setCell p v) (row:=some p.block) ⟨rfl,rfl,rfl,by simp[World.setCell],λk hk hne=>Below.heap_setCell _ _ _ _ (λe=>hne (by rw[e]))⟩ ?_
 cases a with
 | none=>exact .inl rfl
 | some x=>exact .inr (by simpa[Value.ownBlock]using hp x rfl)
theorem ba(hg:w.grownBy w' none):m1 w w':=
 (m8 _ _).grown hg (m3 _) (λk hk=>by cases hk)
theorem dP(n:Nat):(madeCells #[it 0] n).toList=(List.replicate n (0:Int)).map (Value.int .i64):=by
 apply List.ext_getElem
 .simp[madeCells]
 ·
  intro i h1 h2;simp[madeCells,Nat.mod_one]
theorem bF:(prog.info? 2).map (λi=>(i.zero,i.size,i.bytes))=some (some (it 0),1,8):=by kernel_rfl
def M.polyOk(zs:List Int):Bool:=decide (zs.length<=128)&&(M.allEl zs&&(decide (zs.length=0)||(zs.getD (zs.length-1) 0 != 0)))
theorem rP(ok:Bool)(x:Int)(w:World):
  Rq 193 #[.bool ok,it x] w (.bool (ok&&M.el x)):=by
 cases he:M.el x with
 | true=>
  obtain⟨x0,x1⟩:=(M.el_iff x).1 he;clear he
  cases ok with
  | true=>
   go_enter func193,ntmps193;(go_wp2_with fail);refine(dF x _ x0 x1).mono ?_;rintro e w' ⟨rfl,rfl⟩;go_wp2;go_ret;exact⟨rfl,rfl⟩
  | false=>
   go_enter func193,ntmps193;(go_wp2_with fail);refine(dF x _ x0 x1).mono ?_;rintro e w' ⟨rfl,rfl⟩;go_wp2;go_ret;exact⟨rfl,rfl⟩
 | false=>
  have HX:=Hd ((M.el_not x).1 he);clear he
  cases ok with
  | true=>
   go_enter func193,ntmps193;(go_wp2_with fail);refine(dI x _ HX.o).mono ?_;rintro e w' ⟨rfl,rfl⟩;go_wp2;go_ret;exact⟨rfl,rfl⟩
  | false=>
   go_enter func193,ntmps193;(go_wp2_with fail);refine(dI x _ HX.o).mono ?_;rintro e w' ⟨rfl,rfl⟩;go_wp2;go_ret;exact⟨rfl,rfl⟩
theorem qM(hk:k<zs.length):((zs.take k).all M.el&&M.el (zs.getD k 0))=(zs.take (k+1)).all M.el:=by
 rw[xA hk,List.all_append,m5,m9 hk];simp
theorem pU{c:Nat}(w:World)(hz:aC w a n c zs):
  Rq 192 #[.slice a n c,.bool true,.func (.func 193) #[] #[]] w (.bool (M.allEl zs)):=by
 have bn:(n:Int)<=9223372036854775807:=(by have:=hz.big;have:=hz.le;omega);have HZ:=Hd hz;clear hz;go_enter func192,ntmps192;go_wp2
 go_loop [1,11] (λs i=>∃k:Nat,k<=n/\i=it k/\s=.bool ((zs.take k).all M.el)) (λ_ i=>n-(intOf i).toNat)
 case atStart=>exact⟨0,by omega,rfl,rfl⟩
 case round=>
  obtain⟨k,hk,rfl,rfl⟩:=hrel;by_cases Aa:k<n
  ·
   obtain⟨b1,o1,rfl,Ba⟩:=HZ.o.at (by omega);have c1:=Ba k Aa;have HS:=Hd (qM (by rw[HZ.o.len];exact Aa));clear Ba;generalize hx:zs.getD k 0=x at c1;have HX:=Hd hx;generalize hs:(zs.take k).all M.el=s;have HT:=Hd hs;have hI:(k:Int)<(n:Int):=(by omega);clear hx hs;(go_wp2_with fail);refine(rP s x _).mono ?_;rintro e w' ⟨rfl,rfl⟩;go_wp2
   go_round
   case rel=>exact⟨k+1,by omega,by go_num,by rw[<-HS.o,HT.o,HX.o]⟩
   case measure=>simp[intOf];omega
  ·
   go_wp2;go_ret;refine⟨aB ?_,rfl⟩;rw[xt (by rw[HZ.o.len];omega)];rfl
theorem dg{c:Nat}(w:World)(hz:aC w a n c zs):
  Rq 157 #[.slice a n c] w (.bool (M.allEl zs)):=by
 have HZ:=Hd hz;clear hz;go_enter func157,ntmps157;(go_wp2_with fail);refine(pU _ HZ.o).mono ?_;rintro e w' ⟨rfl,rfl⟩;go_wp2;go_ret;exact⟨rfl,rfl⟩
def dH(zs:List Int):Bool:=decide (zs.length<=128)&&M.allEl zs
theorem iV{c:Nat}(w:World)(hz:aC w a n c zs):
  Rq 112 #[.slice a n c] w (.bool (dH zs)):=by
 have Aa:=hz.len;have HZ:=Hd hz;clear hz;by_cases h1:n<=128
 ·
  have Ba:(n:Int)<=128:=(by omega);have E:H7 (dH zs=M.allEl zs):=(by show dH zs=M.allEl zs;simp[dH,Aa,h1]);clear Aa;go_enter func112,ntmps112;(go_wp2_with fail);refine(dg _ HZ.o).mono ?_;rintro e w' ⟨rfl,rfl⟩;go_wp2;go_ret;exact⟨aB E.o.symm,rfl⟩
 ·
  have Ba:¬ (n:Int)<=128:=(by omega);have E:H7 (dH zs=false):=(by show dH zs=false;simp[dH,Aa];omega);clear Aa;go_enter func112,ntmps112;go_wp2;go_ret;exact⟨aB E.o.symm,rfl⟩
theorem dB{c:Nat}(w:World)(hz:aC w a n c zs):
  Rq 62 #[.slice a n c] w (.bool (M.polyOk zs)):=by
 have bn:(n:Int)<=9223372036854775807:=(by have:=hz.big;have:=hz.le;omega);have Aa:=hz.len;have HZ:=Hd hz;clear hz
 cases hco:dH zs with
 | false=>
  have E:H7 (M.polyOk zs=false):=by
   show M.polyOk zs=false;unfold dH at hco;unfold M.polyOk;rw[<-Bool.and_assoc,hco];rfl
  clear Aa;go_enter func62,ntmps62;(go_wp2_with fail);refine(iV _ HZ.o).mono ?_;rintro e w' ⟨rfl,rfl⟩;go_wp2;go_ret;exact⟨aB E.o.symm,rfl⟩
 | true=>
  have hE:M.polyOk zs=(decide (zs.length=0)||(zs.getD (zs.length-1) 0 != 0)):=by
   have h2:=hco;unfold dH at h2;unfold M.polyOk;rw[<-Bool.and_assoc,h2,Bool.true_and]
  by_cases h0:n=0
  ·
   have E:H7 (M.polyOk zs=true):=(by show M.polyOk zs=true;rw[hE];simp[Aa,h0]);have b0:((n:Int)==0)=true:=(by simp[h0]);clear Aa h0 hE;go_enter func62,ntmps62;(go_wp2_with fail);refine(iV _ HZ.o).mono ?_;rintro e w' ⟨rfl,rfl⟩;go_wp2;go_ret;exact⟨aB E.o.symm,rfl⟩
  ·
   have b0:((n:Int)==0)=false:=(by simp[h0]);obtain⟨b1,o1,rfl,Ba⟩:=HZ.o.at (by omega);have c1:=Ba (n-1) (by omega)
   have E:H7 (M.polyOk zs=(zs.getD (n-1) 0 != 0)):=by
    show M.polyOk zs=(zs.getD (n-1) 0 != 0);rw[hE];simp[Aa,h0]
   have hI:(0:Int)<=(n:Int)-1:=(by omega);have Ca:(n:Int)-1<(n:Int):=(by omega);generalize hx:zs.getD (n-1) 0=x at c1;have HX:=Hd hx;have Da:1<=n:=(by omega);clear Aa h0 Ba hx hE;go_enter func62,ntmps62;(go_wp2_with fail);refine(iV _ HZ.o).mono ?_;rintro e w' ⟨rfl,rfl⟩;go_wp2;go_ret;exact⟨aB (by rw[E.o,HX.o]),rfl⟩
theorem aA.form{t:TypeId}(h:w.ownsRow dA t 1 v n (zs.map (Value.int .i64))):∃a cap,v=.slice a n cap/\aA t w dA a n cap zs:=by
 rcases h.2 with⟨e,h0⟩ | ⟨g,c,cur,e,_⟩
 .subst e h0;exact⟨none,0,rfl,h⟩
 .subst e;exact⟨_,c,rfl,h⟩
theorem aA.row{t:TypeId}(h:aA t w dA a n cap zs):∀k,(Value.slice a n cap).ownBlock=some k->dA<=k:=λk hk=>(xz h k hk).1
theorem cJ:(prog.info? 134).map (λi=>(i.zero,i.size,i.bytes))=some (some (it 0),1,8):=by kernel_rfl
theorem bL(x:Int):∀u∈[it x],u.oneCell'=true:=by intro u hu;simp at hu;subst hu;rfl
theorem cF(zs:List Int):∀u∈zs.map (Value.int .i64),u.oneCell'=true:=ints_oneCell .i64 zs
theorem br(w:World)(x:Int)(t:TypeId):∀j u,[it x][j]?=some u->(w.alloc (.cells #[it x] t)).cell? ((⟨w.heap.size,0,none⟩:Addr).add j)=some u:=by
 intro j u hj
 match j,hj with
 | 0,hj=>simp at hj;subst hj;simp[Addr.add]
theorem take_snoc(h:k<zs.length):zs.take k++[zs.getD k 0]=zs.take (k+1):=by
 rw[xA h,m5,m9 h];rfl
theorem kv(x:Int)(dA:Nat)(w:World)(ho:aA 134 w dA a n cap ys)(hb:dA<=w.heap.size)(hn:n<=2000000):
  Calls prog 114 #[.slice a n cap,it x] w λe w'=>∃a' cap',e=.returned (.slice a' (n+1) cap')/\aA 134 w' dA a' (n+1) cap' (ys++[x])/\w.grownBy w' (Value.slice a n cap).ownBlock:=by
 have HO:=Hd ho;obtain⟨i0,hi,Aa,Ba,Ca⟩:=info_parts cJ;clear ho;go_enter func114,ntmps114;(go_wp2_with(at_builtin;refine wpList_append_own _ rfl _ _ 79 rfl dA 134 i0 (it 0) 1 8 underlying79 hi Aa Ba Ca rfl (by decide) _ n (ys.map (Value.int .i64)) rfl (xY HO.o _) ⟨w.heap.size,0,none⟩ 1 1 [it x] rfl rfl (br w x _) (bL x) (by unfold maxLen;omega) (by omega) (by simp;omega) ?_));intro v' w1 Da Ea _;have hown':w1.ownsRow dA 134 1 v' (n+1) ((ys++[x]).map (Value.int .i64)):=(by rw[xU];exact Da);obtain⟨a',cap',rfl,Fa⟩:=aA.form hown';have HO':=Hd Fa;have HG:=Hd ((xC w _ _).trans Ea);clear Da hown' Ea Fa hi Aa Ba Ca;go_wp2;go_ret;exact⟨a',cap',rfl,HO'.o,HG.o⟩
theorem i3{b:Option Addr}{c:Nat}(w0 w:World)(hz:aC w0 a n c zs)(hbl:m1 w0 w)(ho:aA 134 w w0.heap.size b 0 cap [])(hn:n<=1048576):
  Calls prog 113 #[.slice a n c,.slice b 0 cap,.func (.func 114) #[] #[]] w λe w'=>∃a' cap',e=.returned (.slice a' n cap')/\aA 134 w' w0.heap.size a' n cap' zs/\m1 w0 w':=by
 have HZ:=Hd hz;have HB:=Hd hbl;have HO:=Hd ho;clear hz hbl ho;go_enter func113,ntmps113;go_wp2
 go_loopw [1,11] (λs i wr=>∃(k:Nat) (a':Option Addr) (cap':Nat),k<=n/\i=it k/\s=.slice a' k cap'/\aA 134 wr w0.heap.size a' k cap' (zs.take k)/\m1 w0 wr) (λ_ i _=>n-(intOf i).toNat)
 case atStart=>exact⟨0,b,cap,by omega,rfl,rfl,HO.o,HB.o⟩
 case round=>
  obtain⟨k,a',cap',hk,rfl,rfl,Ca,Da⟩:=hrel;have Ba:=Hd Ca;have Aa:=Hd Da;clear Ca Da HO HB;by_cases Ea:k<n
  ·
   obtain⟨b1,o1,rfl,Fa⟩:=(HZ.o.below Aa.o).at (by omega);have c1:=Fa k Ea;clear Fa;have HS:=Hd (take_snoc (by rw[HZ.o.len];exact Ea));generalize hx:zs.getD k 0=x at c1;have HX:=Hd hx;have hI:(k:Int)<(n:Int):=(by omega);clear hx;(go_wp2_with fail);refine(kv x w0.heap.size _ Ba.o Aa.o.size (by omega)).mono ?_;rintro e w1 ⟨a2,Ia,rfl,Ga,Ha⟩;have Ja:=Hd Ga;have Ka:=Hd (Aa.o.grown Ha Aa.o.size Ba.o.row);clear Ga Ha;go_wp2;go_roundw
   case rel=>exact⟨k+1,a2,Ia,by omega,by go_num,rfl,by rw[<-HS.o,HX.o];exact Ja.o,Ka.o⟩
   case measure=>simp[intOf];omega
  ·
   have La:k=n:=(by omega);subst La;go_wp2;go_ret;refine⟨a',cap',rfl,?_,Aa.o⟩;have h:=Ba.o;rw[xt (by rw[HZ.o.len];exact m3 _)]at h;exact h
theorem dx{c:Nat}(w:World)(hz:aC w a n c zs)(hn:n<=1048576):
  Calls prog 63 #[.slice a n c] w λe w'=>∃a' cap',e=.returned (.slice a' n cap')/\aA 134 w' w.heap.size a' n cap' zs/\m1 w w':=by
 have HZ:=Hd hz;obtain⟨i0,hi,Aa,Ba,Ca⟩:=info_parts cJ;clear hz;go_enter func63,ntmps63;(go_wp2_with(at_make;refine wpList_make_own _ rfl _ _ 79 rfl w.heap.size 134 i0 (it 0) 1 underlying79 hi Aa Ba .i64 .i64 _ n rfl rfl rfl (by rw[Ca];omega) (by unfold maxLen;omega) (m3 _) ?_));intro w1 Da hg;have HO:=Hd Da;have HB:=Hd (ba hg);clear Da hg hi Aa Ba Ca;(go_wp2_with fail);refine(i3 w _ HZ.o HB.o HO.o hn).mono ?_;rintro e w2 ⟨a',cap',rfl,ho,hb⟩;have Ea:=Hd ho;have Fa:=Hd hb;clear ho hb;go_wp2;go_ret;exact⟨a',cap',rfl,Ea.o,Fa.o⟩
theorem lk(x:Int)(dA:Nat)(w:World)(ho:aA 2 w dA a n cap ys)(hb:dA<=w.heap.size)(hn:n<=2000000):
  Calls prog 72 #[.slice a n cap,it x] w λe w'=>∃a' cap',e=.returned (.slice a' (n+1) cap')/\aA 2 w' dA a' (n+1) cap' (ys++[x])/\w.grownBy w' (Value.slice a n cap).ownBlock:=by
 have HO:=Hd ho;obtain⟨i0,hi,Aa,Ba,Ca⟩:=info_parts bF;clear ho;go_enter func72,ntmps72;(go_wp2_with(at_builtin;refine wpList_append_own _ rfl _ _ 24 rfl dA 2 i0 (it 0) 1 8 underlying24 hi Aa Ba Ca rfl (by decide) _ n (ys.map (Value.int .i64)) rfl (xY HO.o _) ⟨w.heap.size,0,none⟩ 1 1 [it x] rfl rfl (br w x _) (bL x) (by unfold maxLen;omega) (by omega) (by simp;omega) ?_));intro v' w1 Da Ea _;have hown':w1.ownsRow dA 2 1 v' (n+1) ((ys++[x]).map (Value.int .i64)):=(by rw[xU];exact Da);obtain⟨a',cap',rfl,Fa⟩:=aA.form hown';have HO':=Hd Fa;have HG:=Hd ((xC w _ _).trans Ea);clear Da hown' Ea Fa hi Aa Ba Ca;go_wp2;go_ret;exact⟨a',cap',rfl,HO'.o,HG.o⟩
theorem jv{b:Option Addr}{c:Nat}(w0 w:World)(hz:aC w0 a n c zs)(hbl:m1 w0 w)(ho:aA 2 w w0.heap.size b 0 cap [])(hn:n<=1048576):
  Calls prog 71 #[.slice a n c,.slice b 0 cap,.func (.func 72) #[] #[]] w λe w'=>∃a' cap',e=.returned (.slice a' n cap')/\aA 2 w' w0.heap.size a' n cap' zs/\m1 w0 w':=by
 have HZ:=Hd hz;have HB:=Hd hbl;have HO:=Hd ho;clear hz hbl ho;go_enter func71,ntmps71;go_wp2
 go_loopw [1,11] (λs i wr=>∃(k:Nat) (a':Option Addr) (cap':Nat),k<=n/\i=it k/\s=.slice a' k cap'/\aA 2 wr w0.heap.size a' k cap' (zs.take k)/\m1 w0 wr) (λ_ i _=>n-(intOf i).toNat)
 case atStart=>exact⟨0,b,cap,by omega,rfl,rfl,HO.o,HB.o⟩
 case round=>
  obtain⟨k,a',cap',hk,rfl,rfl,Ca,Da⟩:=hrel;have Ba:=Hd Ca;have Aa:=Hd Da;clear Ca Da HO HB;by_cases Ea:k<n
  ·
   obtain⟨b1,o1,rfl,Fa⟩:=(HZ.o.below Aa.o).at (by omega);have c1:=Fa k Ea;clear Fa;have HS:=Hd (take_snoc (by rw[HZ.o.len];exact Ea));generalize hx:zs.getD k 0=x at c1;have HX:=Hd hx;have hI:(k:Int)<(n:Int):=(by omega);clear hx;(go_wp2_with fail);refine(lk x w0.heap.size _ Ba.o Aa.o.size (by omega)).mono ?_;rintro e w1 ⟨a2,Ia,rfl,Ga,Ha⟩;have Ja:=Hd Ga;have Ka:=Hd (Aa.o.grown Ha Aa.o.size Ba.o.row);clear Ga Ha;go_wp2;go_roundw
   case rel=>exact⟨k+1,a2,Ia,by omega,by go_num,rfl,by rw[<-HS.o,HX.o];exact Ja.o,Ka.o⟩
   case measure=>simp[intOf];omega
  ·
   have La:k=n:=(by omega);subst La;go_wp2;go_ret;refine⟨a',cap',rfl,?_,Aa.o⟩;have h:=Ba.o;rw[xt (by rw[HZ.o.len];exact m3 _)]at h;exact h
theorem iK{c:Nat}(w:World)(hz:aC w a n c zs)(hn:n<=1048576):
  Calls prog 33 #[.slice a n c] w λe w'=>∃a' cap',e=.returned (.slice a' n cap')/\aA 2 w' w.heap.size a' n cap' zs/\m1 w w':=by
 have HZ:=Hd hz;obtain⟨i0,hi,Aa,Ba,Ca⟩:=info_parts bF;clear hz;go_enter func33,ntmps33;(go_wp2_with(at_make;refine wpList_make_own _ rfl _ _ 24 rfl w.heap.size 2 i0 (it 0) 1 underlying24 hi Aa Ba .i64 .i64 _ n rfl rfl rfl (by rw[Ca];omega) (by unfold maxLen;omega) (m3 _) ?_));intro w1 Da hg;have HO:=Hd Da;have HB:=Hd (ba hg);clear Da hg hi Aa Ba Ca;(go_wp2_with fail);refine(jv w _ HZ.o HB.o HO.o hn).mono ?_;rintro e w2 ⟨a',cap',rfl,ho,hb⟩;have Ea:=Hd ho;have Fa:=Hd hb;clear ho hb;go_wp2;go_ret;exact⟨a',cap',rfl,Ea.o,Fa.o⟩
def M.tl(zs:List Int):Nat->Nat
 | 0=>0
 | k+1=>if zs.getD k 0=0 then M.tl zs k else k+1
def M.trim(zs:List Int):List Int:=zs.take (M.tl zs zs.length)
def fq(zs:List Int)(n k:Nat):Prop:=M.tl zs k=M.tl zs n
theorem M.tl_le(zs:List Int)(k:Nat):M.tl zs k<=k:=by
 induction k with
 | zero=>exact m3 _
 | succ k ih=>unfold M.tl;split <;> omega
theorem jn(h:fq zs n k)(h0:0<k)(hz:zs.getD (k-1) 0=0):fq zs n (k-1):=by
 unfold fq at *;rw[<-h];obtain⟨j,rfl⟩:∃j,k=j+1:=⟨k-1,by omega⟩;rw[Nat.add_sub_cancel]at hz |-
 conv=>rhs;unfold M.tl
 rw[if_pos hz]
theorem jo(h:fq zs n k)(h0:0<k)(hz:zs.getD (k-1) 0≠0):M.tl zs n=k:=by
 unfold fq at h;rw[<-h];obtain⟨j,rfl⟩:∃j,k=j+1:=⟨k-1,by omega⟩;rw[Nat.add_sub_cancel]at hz;unfold M.tl;rw[if_neg hz]
theorem ki(h:fq zs n 0):M.tl zs n=0:=h.symm
theorem cB{c:Nat}(h:aC w a n c zs)(k:Nat)(hk:k<=n):
  ∀ad,a=some ad->∀j u,((zs.take k).map (Value.int .i64))[j]?=some u->w.cell? (ad.add j)=some u:=by
 intro ad e j u hj;have hl:=h.len
 have Aa:j<k:=by
  have:=(List.getElem?_eq_some_iff.1 hj).1;rw[List.length_map,xW]at this;omega
 obtain⟨b,Ba,e2,hc⟩:=h.at (by omega);rw[e]at e2;simp only[Option.some.injEq]at e2;subst e2;have h1:=hc j (by omega);rw[List.getElem?_map,List.getElem?_take_of_lt Aa,m9 (by omega)]at hj;simp only[Option.map_some,Option.some.injEq]at hj;subst hj;rw[m5,m9 (by omega)]at h1;simp only[Option.getD_some]at h1;unfold Addr.add
 split
 .rename_i e0;subst e0;exact h1
 .exact h1
theorem dr(w:World){o:Oper}{a:Act}(hgd:o.guard=none)(s x:Operand)(t:TypeId)
 (ho:o.op=.call {callee:=.builtin .append,args:=#[s,x],argTypes:=#[t,t]})
 (dA:Nat)(e:TypeId)(i:TypeInfo)(z:Value)(size bytes:Nat)(ht:P.underlying t=some (.slice e))(hi:P.info? e=some i)(hz:i.zero=some z)
 (hsize:i.size=size)(hby:i.bytes=bytes)(hzs:z.cells.size=size)(hsz:0<size)
 (v:Value)(n:Nat)(xs:List Value)(hs:a.eval s=v)(hown:w.ownsRow dA e size v n xs)
 (ao:Option Addr)(m c:Nat)(news:List Value)(hx:a.eval x=.slice ao m c)(hl:news.length=m*size)(hnone:ao=none->m=0/\c=0)
 (hnews:∀ad,ao=some ad->∀j u,news[j]?=some u->w.cell? (ad.add j)=some u)(h1:∀u∈news,u.oneCell'=true)
 (h63:n+m<=maxLen)(hbytes:(n+m)*bytes<=140737488355328)(mr:dA<=w.heap.size)
 (h:∀v' w',w'.ownsRow dA e size v' (n+m) (xs++news)->w.grownBy w' v.ownBlock->wpList P ops Q rest (a.put o.dst v') w'):wpList P ops Q (o::rest) a w:=by
 cases ao with
 | some ad=>exact wpList_append_own w hgd s x t ho dA e i z size bytes ht hi hz hsize hby hzs hsz v n xs hs hown ad m c news hx hl (hnews ad rfl) h1 h63 hbytes mr (λv' w' h2 h3 _=>h v' w' h2 h3)
 | none=>
  obtain⟨rfl,rfl⟩:=hnone rfl;have hn:=List.eq_nil_of_length_eq_zero (by simpa using hl);subst hn;refine wpList_plain hgd λK hK'=>?_;have Aa:=run_append_owned_none (P:=P) w dA t o.type e i size ht hi v n xs hown;unfold Oper.wp;simp[execOp,ho,resolve,invoke,builtin,hs,hx,Aa,Result.andThen];exact hK' _ _ (h v w (by simpa using hown) (World.grownBy.refl _ _))
theorem cr{c:Nat}(w:World)(hz:aC w a n c zs)(hn:n<=1048576):
  Calls prog 61 #[.slice a n c] w λe w'=>∃a' m cap',e=.returned (.slice a' m cap')/\aA 2 w' w.heap.size a' m cap' (M.trim zs)/\m1 w w':=by
 have HZ:=Hd hz;have HN:=Hd hz.no;have Ka:=hz.le;have La:=hz.big;obtain⟨i0,hi,Ea,Fa,Ga⟩:=info_parts bF;have HI:H7 (prog.info? 2=some i0/\i0.zero=some (it 0)/\i0.size=1/\i0.bytes=8):=⟨hi,Ea,Fa,Ga⟩;have HL:H7 (∀k,k<=n->((zs.take k).map (Value.int .i64)).length=k*1):=λk hk=>by rw[List.length_map,xW,hz.len];omega
 clear hz hi Ea Fa Ga;go_enter func61,ntmps61;go_wp2
 go_loop [3] (λs=>∃k:Nat,k<=n/\s=it k/\fq zs n k) (λs=>(intOf s).toNat)
 case atStart=>exact⟨n,m3 _,rfl,rfl⟩
 case round=>
  obtain⟨k,hk,rfl,Ha⟩:=hrel;have HV:=Hd Ha;clear Ha;by_cases h0:0<k
  ·
   obtain⟨b1,o1,rfl,Ia⟩:=HZ.o.at (by omega);have c1:=Ia (k-1) (by omega);clear Ia;generalize hx:zs.getD (k-1) 0=x at c1;have HX:=Hd hx;clear hx;have hI:(0:Int)<(k:Int):=(by omega);have Na:(0:Int)<=(k:Int)-1:=(by omega);have Oa:(k:Int)-1<(n:Int):=(by omega);by_cases he:x=0
   ·
    have hb:(x==0)=true:=(by simp[he]);have HE:=Hd (jn HV.o h0 (by rw[HX.o];exact he));clear he;go_wp2
    go_round
    case rel=>exact⟨k-1,by omega,by go_num,HE.o⟩
    case measure=>simp[intOf];omega
   ·
    have hb:(x==0)=false:=(by simp[he]);have HE:=Hd (jo HV.o h0 (by rw[HX.o];exact he));clear he;have Da:H7 (some (⟨b1,o1,none⟩:Addr)=none->k=0/\c=0):=λh=>by cases h
    (go_wp2_with(at_builtin;refine dr _ rfl _ _ 24 rfl w.heap.size 2 i0 (it 0) 1 8 underlying24 HI.o.1 HI.o.2.1 HI.o.2.2.1 HI.o.2.2.2 rfl (by decide) _ 0 [] rfl (World.ownsRow_made w #[] 0 (m3 _) (by unfold maxLen;omega) rfl) (some ⟨b1,o1,none⟩) k c ((zs.take k).map (Value.int .i64)) rfl (HL.o k hk) Da.o (cB (HZ.o.below ((m8 _ _).alloc (m3 _) _)) k hk) (cF _) (by unfold maxLen;omega) (by omega) (by simp) ?_));intro v' w1 Aa Ba;have hown':w1.ownsRow w.heap.size 2 1 v' k ((zs.take k).map (Value.int .i64)):=(by simpa using Aa);obtain⟨a',cap',rfl,Ca⟩:=aA.form hown'
    have HO':H7 (aA 2 w1 w.heap.size a' k cap' (M.trim zs)):=by
     show aA 2 w1 w.heap.size a' k cap' (M.trim zs);unfold M.trim;rw[HZ.o.len,HE.o];exact Ca
    have HG:=Hd (((m8 w.heap.size w).alloc (m3 _) _).grown Ba (by simp) (λj hj=>by simp[Value.ownBlock]at hj;omega));clear Aa hown' Ba Ca;go_wp2;go_ret;exact⟨a',_,cap',rfl,HO'.o,HG.o⟩
  ·
   have Ja:k=0:=(by omega);subst Ja;have HE:=Hd (ki HV.o);have Da:H7 (a=none->0=0/\c=0):=λh=>⟨rfl,(HN.o h).2⟩;(go_wp2_with(at_builtin;refine dr _ rfl _ _ 24 rfl w.heap.size 2 i0 (it 0) 1 8 underlying24 HI.o.1 HI.o.2.1 HI.o.2.2.1 HI.o.2.2.2 rfl (by decide) _ 0 [] rfl (World.ownsRow_made w #[] 0 (m3 _) (by unfold maxLen;omega) rfl) a 0 c ((zs.take 0).map (Value.int .i64)) rfl (HL.o 0 hk) Da.o (cB (HZ.o.below ((m8 _ _).alloc (m3 _) _)) 0 hk) (cF _) (by unfold maxLen;omega) (by omega) (by simp) ?_));intro v' w1 Aa Ba;have hown':w1.ownsRow w.heap.size 2 1 v' 0 ((zs.take 0).map (Value.int .i64)):=(by simpa using Aa);obtain⟨a',cap',rfl,Ca⟩:=aA.form hown'
   have HO':H7 (aA 2 w1 w.heap.size a' 0 cap' (M.trim zs)):=by
    show aA 2 w1 w.heap.size a' 0 cap' (M.trim zs);unfold M.trim;rw[HZ.o.len,HE.o];exact Ca
   have HG:=Hd (((m8 w.heap.size w).alloc (m3 _) _).grown Ba (by simp) (λj hj=>by simp[Value.ownBlock]at hj;omega));clear Aa hown' Ba Ca;go_wp2;go_ret;exact⟨a',_,cap',rfl,HO'.o,HG.o⟩
theorem dW(w:World)(t t2 e:TypeId)(ty:TypeId)(i:TypeInfo)(b b':Option Addr)(n m c d:Nat)(h1:P.underlying t=some (.slice e))(h2:P.underlying t2=some (.slice e))(hi:P.info? e=some i):
  (Builtin.append_ #[t,t2] ty #[.slice b n c,.slice b' m d]).run P w=(Builtin.append_ #[t,t] ty #[.slice b n c,.slice b' m d]).run P w:=by
 simp[Builtin.append_,run_underlying h1,run_underlying h2,sizeOf,typeInfo,hi]
theorem dk{o:Oper}{a:Act}{K:Act->World->Prop}{E:Prop}
 (hg:o.guard=none)(s x:Operand)(t t2:TypeId)(hop:o.op=Op.call {callee:=Callee.builtin Builtin.append,args:=#[s,x],argTypes:=#[t,t2]})
 (dA:Nat)(e:TypeId)(i:TypeInfo)(size:Nat)(h1:P.underlying t=some (.slice e))(h1':P.underlying t2=some (.slice e))(h2:P.info? e=some i)(h4:i.size=size)
 (g k cap:Nat)(xs:List Value)(hs:a.eval s=.slice (some ⟨g,0,none⟩) k cap)(hown:w.ownsRow dA e size (.slice (some ⟨g,0,none⟩) k cap) k xs)(ao:Option Addr)(m c:Nat)(news:List Value)(hx:a.eval x=.slice ao m c)(hn:news.length=m*size)
 (hnone:ao=none->m=0/\c=0)(hc:∀ad,ao=some ad->∀j u,news[j]?=some u->w.cell? (ad.add j)=some u)(h1c:∀u∈news,u.oneCell'=true)(b1:k+m<=cap)
 (hK:∀w',w'.ownsRow dA e size (.slice (some ⟨g,0,none⟩) (k+m) cap) (k+m) (xs++news)->w.grownBy w' (some g)->K (a.put o.dst (.slice (some ⟨g,0,none⟩) (k+m) cap)) w'):
  if Region.wanted o (yielded ops a.tmps)=true then Oper.wp P o a w K Q else E:=by
 have hw:Region.wanted o (yielded ops a.tmps)=true:=(by simp[Region.wanted,hg]);rw[if_pos hw]
 cases ao with
 | some ad=>
  obtain⟨w',Aa,r1,r2⟩:=run_append_fits (P:=P) w dA t o.type e i size h1 h2 h4 g k cap xs hown ad m c news hn (hc ad rfl) h1c b1;rw[<-dW (P:=P) w t t2 e o.type i _ _ _ _ _ _ h1 h1' h2]at Aa;unfold Oper.wp;simp[execOp,hop,resolve,invoke,builtin,hs,hx,Aa,Result.andThen];exact hK w' r1 r2
 | none=>
  obtain⟨rfl,rfl⟩:=hnone rfl;have Ba:=List.eq_nil_of_length_eq_zero (by simpa using hn);subst Ba;have Aa:=run_append_owned_none (P:=P) w dA t o.type e i size h1 h2 _ k xs hown;rw[<-dW (P:=P) w t t2 e o.type i _ _ _ _ _ _ h1 h1' h2]at Aa;unfold Oper.wp;simp[execOp,hop,resolve,invoke,builtin,hs,hx,Aa,Result.andThen];have h:=hK w (by simpa using hown) (World.grownBy.refl _ _);exact h
theorem jW{c n':Nat}(h:n=n'):Ending.returned (.slice a n c)=.returned (.slice a n' c):=by rw[h]
theorem kp(k:Nat)(hk:k<=2000000)(w:World):(Instr.makeSlice 80 (it 0) (it (k:Int))).run prog w=.ok (.slice (some ⟨w.heap.size,0,none⟩) 0 k) (w.alloc (.cells (madeCells #[it 0] k) 134)):=by
 obtain⟨i0,hi,Aa,Ba,Ca⟩:=info_parts cJ;have h:=run_make (P:=prog) w 80 134 i0 (it 0) underlying80 hi Aa .i64 .i64 0 (k:Int) (by omega) (by omega) (by rw[Ca];omega) (by omega);rw[Ba]at h;simpa[Value.cells]using h
theorem dl{c:Nat}(w:World)(hz:aC w a n c zs)(hn:n<=1048576):
  Calls prog 116 #[.slice a n c] w λe w'=>∃a' m cap',e=.returned (.slice a' m cap')/\aA 134 w' w.heap.size a' m cap' (M.trim zs)/\m1 w w':=by
 have HZ:=Hd hz;have HN:=Hd hz.no;have Ja:=hz.le;have Ka:=hz.big;obtain⟨i0,hi,Ca,Da,Ea⟩:=info_parts cJ;have HI:H7 (prog.info? 134=some i0/\i0.zero=some (it 0)/\i0.size=1/\i0.bytes=8):=⟨hi,Ca,Da,Ea⟩;have HL:H7 (∀k,k<=n->((zs.take k).map (Value.int .i64)).length=k*1):=λk hk=>by rw[List.length_map,xW,hz.len];omega
 clear hz hi Ca Da Ea;go_enter func116,ntmps116;go_wp2
 go_loop [3] (λs=>∃k:Nat,k<=n/\s=it k/\fq zs n k) (λs=>(intOf s).toNat)
 case atStart=>exact⟨n,m3 _,rfl,rfl⟩
 case round=>
  obtain⟨k,hk,rfl,Fa⟩:=hrel;have HV:=Hd Fa;clear Fa;by_cases h0:0<k
  ·
   obtain⟨b1,o1,rfl,Ga⟩:=HZ.o.at (by omega);have c1:=Ga (k-1) (by omega);clear Ga;generalize hx:zs.getD (k-1) 0=x at c1;have HX:=Hd hx;clear hx;have hI:(0:Int)<(k:Int):=(by omega);have La:(0:Int)<=(k:Int)-1:=(by omega);have Na:(k:Int)-1<(n:Int):=(by omega);by_cases he:x=0
   ·
    have hb:(x==0)=true:=(by simp[he]);have HE:=Hd (jn HV.o h0 (by rw[HX.o];exact he));clear he;go_wp2
    go_round
    case rel=>exact⟨k-1,by omega,by go_num,HE.o⟩
    case measure=>simp[intOf];omega
   ·
    have hb:(x==0)=false:=(by simp[he]);have HE:=Hd (jo HV.o h0 (by rw[HX.o];exact he));have Ha:H7 (some (⟨b1,o1,none⟩:Addr)=none->k=0/\c=0):=λh=>by cases h
    have Ba:=kp k (by omega);have Oa:k<=c:=(by omega);clear he;go_wp2
    go_region_law (refine dk rfl (.tmp 19) (.tmp 22) 80 79 rfl w.heap.size 134 i0 1 underlying80 underlying79 HI.o.1 HI.o.2.2.1 w.heap.size 0 k [] (by simp[Act.eval]) (World.ownsRow.drew (World.ownsRow_made w _ k (m3 _) (by unfold maxLen;omega) (by simp[size_madeCells]))) (some ⟨b1,o1,none⟩) k c ((zs.take k).map (Value.int .i64)) (by simp[Act.eval]) (HL.o k hk) Ha.o (cB (HZ.o.below ((m8 _ _).alloc (m3 _) _).drew) k hk) (cF _) (by omega) ?_;intro w1 Aa hgrow)
    have HO':H7 (aA 134 w1 w.heap.size (some ⟨w.heap.size,0,none⟩) k k (M.trim zs)):=by
     show aA 134 w1 w.heap.size _ k k (M.trim zs);unfold M.trim;rw[HZ.o.len,HE.o];have hown':w1.ownsRow w.heap.size 134 1 (.slice (some ⟨w.heap.size,0,none⟩) k k) k ((zs.take k).map (Value.int .i64)):=(by simpa using Aa);exact hown'
    have HG:=Hd (((m8 w.heap.size w).alloc (m3 _) _).drew.grown hgrow (by simp) (λj hj=>by simp at hj;omega));clear Aa hgrow Ba;go_wp2;go_ret;exact⟨_,_,_,jW (by simp),HO'.o,HG.o⟩
  ·
   have Ia:k=0:=(by omega);subst Ia;have HE:=Hd (ki HV.o);have Ba:∀w:World,(Instr.makeSlice 80 (it 0) (it 0)).run prog w=.ok (.slice (some ⟨w.heap.size,0,none⟩) 0 0) (w.alloc (.cells (madeCells #[it 0] 0) 134)):=λw=>kp 0 (by omega) w;have Pa:(0:Nat)<=c:=Nat.zero_le _
   cases a with
   | some x=>
    go_wp2
    go_region_law (refine dk rfl (.tmp 19) (.tmp 22) 80 79 rfl w.heap.size 134 i0 1 underlying80 underlying79 HI.o.1 HI.o.2.2.1 w.heap.size 0 0 [] (by simp[Act.eval]) (World.ownsRow.drew (World.ownsRow_made w _ 0 (m3 _) (by unfold maxLen;omega) (by simp[size_madeCells]))) (some x) 0 c ((zs.take 0).map (Value.int .i64)) (by simp[Act.eval]) (HL.o 0 hk) (λh=>by cases h) (cB (HZ.o.below ((m8 _ _).alloc (m3 _) _).drew) 0 hk) (cF _) (by omega) ?_;intro w1 Aa hgrow)
    have HO':H7 (aA 134 w1 w.heap.size (some ⟨w.heap.size,0,none⟩) 0 0 (M.trim zs)):=by
     show aA 134 w1 w.heap.size _ 0 0 (M.trim zs);unfold M.trim;rw[HZ.o.len,HE.o];have hown':w1.ownsRow w.heap.size 134 1 (.slice (some ⟨w.heap.size,0,none⟩) 0 0) 0 ((zs.take 0).map (Value.int .i64)):=(by simpa using Aa);exact hown'
    have HG:=Hd (((m8 w.heap.size w).alloc (m3 _) _).drew.grown hgrow (by simp) (λj hj=>by simp at hj;omega));clear Aa hgrow Ba;go_wp2;go_ret;exact⟨_,_,_,jW (by simp),HO'.o,HG.o⟩
   | none=>
    obtain⟨n0,c0⟩:=HN.o rfl;subst n0 c0;go_wp2
    go_region_law (refine dk rfl (.tmp 19) (.tmp 22) 80 79 rfl w.heap.size 134 i0 1 underlying80 underlying79 HI.o.1 HI.o.2.2.1 w.heap.size 0 0 [] (by simp[Act.eval]) (World.ownsRow.drew (World.ownsRow_made w _ 0 (m3 _) (by unfold maxLen;omega) (by simp[size_madeCells]))) none 0 0 ((zs.take 0).map (Value.int .i64)) (by simp[Act.eval]) (HL.o 0 hk) (λ_=>⟨rfl,rfl⟩) (cB (HZ.o.below ((m8 _ _).alloc (m3 _) _).drew) 0 hk) (cF _) (by omega) ?_;intro w1 Aa hgrow)
    have HO':H7 (aA 134 w1 w.heap.size (some ⟨w.heap.size,0,none⟩) 0 0 (M.trim zs)):=by
     show aA 134 w1 w.heap.size _ 0 0 (M.trim zs);unfold M.trim;rw[HZ.o.len,HE.o];have hown':w1.ownsRow w.heap.size 134 1 (.slice (some ⟨w.heap.size,0,none⟩) 0 0) 0 ((zs.take 0).map (Value.int .i64)):=(by simpa using Aa);exact hown'
    have HG:=Hd (((m8 w.heap.size w).alloc (m3 _) _).drew.grown hgrow (by simp) (λj hj=>by simp at hj;omega));clear Aa hgrow Ba;go_wp2;go_ret;exact⟨_,_,_,jW (by simp),HO'.o,HG.o⟩
def M.ev(zs:List Int)(x:Int):Int:=zs.foldr (λc y=>(y*x+c)%65537) 0
theorem M.ev_bd(zs:List Int)(x:Int):0<=M.ev zs x/\M.ev zs x<65537:=by
 cases zs with
 | nil=>show 0<=(0:Int)/\(0:Int)<65537;omega
 | cons c r=>unfold M.ev;rw[List.foldr_cons];omega
theorem M.ev_cons(c:Int)(r:List Int)(x:Int):M.ev (c::r) x=(M.ev r x*x+c)%65537:=rfl
theorem mw(h:k<zs.length)(x:Int):(M.ev (zs.drop (k+1)) x*x+zs.getD k 0)%65537=M.ev (zs.drop k) x:=by
 rw[List.drop_eq_getElem_cons h,M.ev_cons,m5,m9 h];rfl
theorem M.el_at(h:M.allEl zs=true)(k:Nat):0<=zs.getD k 0/\zs.getD k 0<65537:=by
 by_cases hk:k<zs.length
 ·
  rw[m5,m9 hk];exact(M.el_iff _).1 (List.all_eq_true.1 h _ (List.getElem_mem _))
 .rw[m5,List.getElem?_eq_none (by omega)];exact⟨by decide,by decide⟩
theorem k8{c:Nat}(x:Int)(w:World)(hz:aC w a n c zs)(hall:M.allEl zs=true)(x0:0<=x)(x1:x<65537):
  Rq 107 #[.slice a n c,it x] w (it (M.ev zs x)):=by
 have bn:(n:Int)<=9223372036854775807:=(by have:=hz.big;have:=hz.le;omega);have HZ:=Hd hz;have HA:=Hd hall;clear hz hall;go_enter func107,ntmps107;go_wp2
 go_loop [5,6] (λy i=>∃(k:Nat) (v:Int),k<=n/\0<=v/\v<65537/\i=it ((k:Int)-1)/\y=it v/\v=M.ev (zs.drop k) x) (λ_ i=>(intOf i+1).toNat)
 case atStart=>exact⟨n,0,m3 _,by omega,by omega,rfl,rfl,by rw[t' (by rw[HZ.o.len];exact m3 _)];rfl⟩
 case round=>
  obtain⟨k,v,hk,v0,v1,rfl,rfl,hv⟩:=hrel;have HV:=Hd hv;clear hv;by_cases h0:0<k
  ·
   obtain⟨b1,o1,rfl,Aa⟩:=HZ.o.at (by omega);have c1:=Aa (k-1) (by omega);have hd:=mw (zs:=zs) (k:=k-1) (by rw[HZ.o.len];omega) x;have Ba:=M.el_at HA.o (k-1);clear Aa;generalize hx:zs.getD (k-1) 0=z at c1 hd Ba;obtain⟨z0,z1⟩:=Ba;rw[show k-1+1=k by omega,<-HV.o]at hd;have HD:=Hd hd;clear hd hx;obtain⟨m0,I⟩:=M.mul_bd v0 v1 x0 x1;have Da:(0:Int)<=(k:Int)-1:=(by omega);have Ea:(k:Int)-1<(n:Int):=(by omega);go_wp2
   go_round
   case rel=>exact⟨k-1,(v*x+z)%65537,by omega,Int.emod_nonneg _ (by decide),Int.emod_lt_of_pos _ (by decide),by go_num,rfl,HD.o⟩
   case measure=>simp[intOf];omega
  ·
   have Ca:k=0:=(by omega);subst Ca;go_wp2;go_ret;exact⟨bR HV.o,rfl⟩
theorem rR{c:Nat}(x:Int)(R:Nat)(w:World)(hz:aC w a n c zs)(hall:M.allEl zs=true)(x0:0<=x)(x1:x<65537)(hx:w.cell? ⟨R,0,none⟩=some (it x)):
  Rq 198 #[.slice a n c,it 0,.func (.func 199) #[] #[tG R]] w (it (M.ev zs x)):=by
 have bn:(n:Int)<=9223372036854775807:=(by have:=hz.big;have:=hz.le;omega);have HZ:=Hd hz;have HA:=Hd hall;clear hz hall;go_enter func198,ntmps198;go_wp2
 go_loop [1,7] (λy i=>∃(k:Nat) (v:Int),k<=n/\0<=v/\v<65537/\i=it ((k:Int)-1)/\y=it v/\v=M.ev (zs.drop k) x) (λ_ i=>(intOf i+1).toNat)
 case atStart=>exact⟨n,0,m3 _,by omega,by omega,rfl,rfl,by rw[t' (by rw[HZ.o.len];exact m3 _)];rfl⟩
 case round=>
  obtain⟨k,v,hk,v0,v1,rfl,rfl,hv⟩:=hrel;have HV:=Hd hv;clear hv;by_cases h0:0<k
  ·
   obtain⟨b1,o1,rfl,Aa⟩:=HZ.o.at (by omega);have c1:=Aa (k-1) (by omega);have hd:=mw (zs:=zs) (k:=k-1) (by rw[HZ.o.len];omega) x;have Ba:=M.el_at HA.o (k-1);clear Aa;generalize hx:zs.getD (k-1) 0=z at c1 hd Ba;obtain⟨z0,z1⟩:=Ba;rw[show k-1+1=k by omega,<-HV.o]at hd;have HD:=Hd hd;clear hd hx;obtain⟨m0,I⟩:=M.mul_bd v0 v1 x0 x1;have p0:0<=v*x%65537:=Int.emod_nonneg _ (by decide);have p1:v*x%65537<65537:=Int.emod_lt_of_pos _ (by decide);have Da:(0:Int)<=(k:Int)-1:=(by omega);have Ea:(k:Int)-1<(n:Int):=(by omega);go_wp2_with(first | (go_at_call 68;refine(bI v x _ v0 v1 x0 x1).mono ?_;rintro e w' ⟨rfl,rfl⟩) | (go_at_call 158;refine(dV (v*x%65537) z _ p0 p1 z0 z1).mono ?_;rintro e w' ⟨rfl,rfl⟩) | go_in)
   go_round
   case rel=>exact⟨k-1,(v*x+z)%65537,by omega,Int.emod_nonneg _ (by decide),Int.emod_lt_of_pos _ (by decide),by go_num,rfl,HD.o⟩
   case measure=>simp[intOf];omega
  ·
   have Ca:k=0:=(by omega);subst Ca;go_wp2;go_ret;exact⟨bR HV.o,rfl⟩
theorem gF{c:Nat}(x:Int)(w:World)(hz:aC w a n c zs)(hall:M.allEl zs=true)(x0:0<=x)(x1:x<65537):
  Rt 171 #[.slice a n c,it x] w (it (M.ev zs x)):=by
 have HZ:=Hd hz;have HA:=Hd hall;clear hz hall;go_enter func171,ntmps171;(go_wp2_with fail);refine(rR x w.heap.size _ (HZ.o.below ((m8 _ _).alloc (m3 _) _)) HA.o x0 x1 (by rw[xu];rfl)).mono ?_;rintro e w' ⟨rfl,rfl⟩;go_wp2;go_ret;exact⟨rfl,(m8 _ _).alloc (m3 _) _⟩
theorem qT(l:List Int)(x:Int):M.ev (l++[0]) x=M.ev l x:=by
 induction l with
 | nil=>show(0*x+0)%65537=0;simp
 | cons c r ih=>rw[List.cons_append,M.ev_cons,M.ev_cons,ih]
theorem vj(zs:List Int)(x:Int)(k:Nat)(hk:k<=zs.length):M.ev (zs.take (M.tl zs k)) x=M.ev (zs.take k) x:=by
 induction k with
 | zero=>rfl
 | succ k ih=>
  unfold M.tl;by_cases h:zs.getD k 0=0
  .rw[if_pos h,ih (by omega),<-take_snoc (by omega),h,qT]
  .rw[if_neg h]
theorem M.ev_trim(zs:List Int)(x:Int):M.ev (M.trim zs) x=M.ev zs x:=by
 unfold M.trim;rw[vj zs x _ (m3 _),List.take_length]
theorem M.all_trim(h:M.allEl zs=true):M.allEl (M.trim zs)=true:=by
 unfold M.trim M.allEl at *;rw[List.all_eq_true]at *;exact λx hx=>h x (List.mem_of_mem_take hx)
theorem M.len_trim(zs:List Int):(M.trim zs).length<=zs.length:=by
 unfold M.trim;rw[xW];omega
theorem aA.lo{t:TypeId}(h:aA t w dA a n cap zs):∀x,a=some x->dA<=x.block:=by
 rintro x rfl;exact(xz h _ rfl).1
theorem aA.hi{t:TypeId}(h:aA t w dA a n cap zs):∀x,a=some x->x.block<w.heap.size:=by
 rintro x rfl;exact(xz h _ rfl).2
theorem aA.keep{t:TypeId}{b:Option Addr}{d:Nat}(h:aA t w dA a n cap zs)(hg:w.grownBy w' (Value.slice b m d).ownBlock)(hne:∀x y,a=some x->b=some y->x.block≠y.block):aA t w' dA a n cap zs:=by
 refine World.ownsRow.kept h hg ?_
 cases a with
 | none=>exact .inl rfl
 | some x=>
  refine .inr ?_
  cases b with
  | none=>simp[Value.ownBlock]
  | some y=>simpa[Value.ownBlock]using hne x y rfl rfl
theorem aC.keep{b:Option Addr}{d:Nat}(h:aC w a n cap zs)(hg:w.grownBy w' (Value.slice b m d).ownBlock)(hne:∀x y,a=some x->b=some y->x.block≠y.block):aC w' a n cap zs:=by
 refine h.of_cells λp v hp ⟨x,hx,hxp⟩=>hg.cell hp ?_
 cases b with
 | none=>simp[Value.ownBlock]
 | some y=>have:=hne x y hx rfl;simp[Value.ownBlock];omega
theorem aA.drewN{t:TypeId}(h:aA t w dA a n cap zs)(k:Nat):aA t (w.drewN k) dA a n cap zs:=h
theorem aA.empty(w:World)(t:TypeId)(dA:Nat):aA t w dA none 0 0 []:=World.ownsRow_nil w dA t 1
def Row(k:IntKind)(w:World)(a:Option Addr)(len cap:Nat)(zs:List Int):Prop:=
 (a=none/\len=0/\cap=0/\zs=[])\/
 ∃x,a=some x/\len<=cap/\cap<=maxLen/\zs.length=cap/\(∀i,i<zs.length->w.cell? (x.add i)=some (.int k (zs.getD i 0)))/\∀n∈zs,(Lit.int k n).wf=true
structure Rd(w0:World)(R:Nat)(a:Option Addr)(len cap p:Nat)(w:World):Prop where
 below:m1 w0 w
 lo:w0.heap.size<=R
 hi:R<w.heap.size
 cb:w.cell? ⟨R,0,none⟩=some (.slice a len cap)
 cp:p<=len/\w.cell? ⟨R,1,none⟩=some (it p)
 fr:w.frozen? ⟨R,1,none⟩=false
theorem aI{p:Prop}(h:p):H7 p:=h
def M.nx(zs:List Int)(len p:Nat):Int×Nat:=if p<len then(zs.getD p 0,p+1)else(0,p)
def cV(zs:List Int)(len:Nat)(n:Int)(p:Nat):Int×Nat:=if n<=1 then(0,p)else if n<=256 then((M.nx zs len p).1%n,(M.nx zs len p).2)else(((M.nx zs len p).1*256+(M.nx zs len (M.nx zs len p).2).1)%n,(M.nx zs len (M.nx zs len p).2).2)
def iR(zs:List Int)(len:Nat)(n:Int)(p:Nat):Bool×Nat:=((cV zs len n p).1==n-1,(cV zs len n p).2)
def wW(x v:Int):Int:=bits BinOp.or IntKind.u64 (IntKind.u64.wrap (x*256)) v
def jp(zs:List Int)(len:Nat):Nat->Int->Nat->Int×Nat
 | 0,x,p=>(x,p)
 | k+1,x,p=>jp zs len k (wW x (M.nx zs len p).1) (M.nx zs len p).2
def M.nr(zs:List Int)(len:Nat)(lo hi:Int)(p:Nat):Int×Nat:=if(cV zs len 8 p).1=0 then(lo,(cV zs len 8 p).2)else if(cV zs len 8 p).1=1 then(hi,(cV zs len 8 p).2)else(lo+(jp zs len 8 0 (cV zs len 8 p).2).1/2%(hi-lo+1),(jp zs len 8 0 (cV zs len 8 p).2).2)
def pp(zs:List Int)(len:Nat)(lo hi:Int)(p:Nat):Int×Nat:=if(iR zs len 24 p).1=true then([lo-1,hi+1,-9223372036854775808,9223372036854775807].getD (cV zs len 4 (iR zs len 24 p).2).1.toNat 0,(cV zs len 4 (iR zs len 24 p).2).2)else M.nr zs len lo hi (iR zs len 24 p).2
def fO(zs:List Int)(len:Nat)(p:Nat):Int×Nat:=
 if(cV zs len 6 p).1=1 then(65536-(cV zs len 3 (cV zs len 6 p).2).1,(cV zs len 3 (cV zs len 6 p).2).2)
 else if(cV zs len 6 p).1=2 then((jp zs len 8 0 (cV zs len 6 p).2).1%65537,(jp zs len 8 0 (cV zs len 6 p).2).2)
 else if(cV zs len 6 p).1=3 then pp zs len 0 65536 (cV zs len 6 p).2
 else cV zs len 6 (cV zs len 6 p).2
theorem uP{len:Nat}(h:Row .u8 w0 a len cap zs)(p:Nat)(hp:p<len):
  ∃b off z,z=zs.getD p 0/\a=some ⟨b,off,none⟩/\b<w0.heap.size/\0<=z/\z<=255/\w0.cell? ⟨b,off+p,none⟩=some (.int .u8 z)/\len<=cap/\(len:Int)<=9223372036854775807:=by
 rcases h with⟨_,rfl,_,_⟩ | ⟨x,rfl,hl,hm,hz,hc,hw⟩
 .omega
 ·
  obtain⟨b,off,rfl,Ba⟩:=ints_at hc (by omega);have h2:=Ba p (by omega);have hb:=xJ w0 ⟨b,off+p,none⟩ h2;have Ca:=hw (zs.getD p 0) (by rw[m5,m9 (by omega)];exact List.getElem_mem _);have Aa:=bounds_u8 Ca;unfold maxLen at hm;exact⟨b,off,_,rfl,rfl,hb,Aa.1,Aa.2,h2,hl,by omega⟩
theorem gX{row:Option Nat}(h:w.grownBy w' row)(n:Nat):w.grownBy (w'.drewN n) row:=⟨h.os,h.tape,h.output,h.size,h.block⟩
theorem bE{b:Nat}(h:w.grownBy w' (some b))(a:Addr)(ha:a.block=b)(v:Value):w.grownBy (w'.setCell a v) (some b):=
 ⟨h.os,h.tape,h.output,by simpa[World.setCell]using h.size,λk hk hne=>(Below.heap_setCell _ _ _ _ (by intro e;exact hne (by rw[e,ha]))).trans (h.block k hk hne)⟩
theorem s9{len:Nat}(h:Rd w0 R a len cap p w)(q:Nat)(hq:q<=len)(n m:Nat):
  Rd w0 R a len cap q (((w.drewN n).setCell ⟨R,1,none⟩ (it q)).drewN m)/\w.grownBy (((w.drewN n).setCell ⟨R,1,none⟩ (it q)).drewN m) (some R):=by
 obtain⟨hp,Aa⟩:=h.cp;have h1:(w.drewN n).cell? ⟨R,1,none⟩=some (it p):=Aa;have h0:(w.drewN n).cell? ⟨R,0,none⟩=some (.slice a len cap):=h.cb;refine⟨⟨Below.drewN' ((Below.drewN' h.below n).setCell h.lo _) m,h.lo,?_,?_,⟨hq,?_⟩,?_⟩,?_⟩
 ·
  show R<((w.drewN n).setCell ⟨R,1,none⟩ (it q)).heap.size;rw[World.size_setCell];exact h.hi
 ·
  show((w.drewN n).setCell ⟨R,1,none⟩ (it q)).cell? ⟨R,0,none⟩=_;exact(xQ (w:=w.drewN n) (a:=⟨R,1,none⟩) (b:=⟨R,0,none⟩) (v:=it q) (h:=by simp)).trans h0
 ·
  show((w.drewN n).setCell ⟨R,1,none⟩ (it q)).cell? ⟨R,1,none⟩=_;exact World.cell?_setCell_same (w:=w.drewN n) (a:=⟨R,1,none⟩) (v:=it q) (h:=h1)
 ·
  show((w.drewN n).setCell ⟨R,1,none⟩ (it q)).frozen? ⟨R,1,none⟩=_;rw[World.frozen?_setCell];exact h.fr
 .exact gX (bE (gX (World.grownBy.refl _ _) n) _ rfl _) m
theorem jD{len:Nat}(hrow:Row .u8 w0 a len cap zs)(w:World)(h:Rd w0 R a len cap p w):
  Calls prog 80 #[tG R] w λe w'=>∃(v:Int) (p':Nat),0<=v/\v<=255/\e=.returned (it v)/\Rd w0 R a len cap p' w'/\w.grownBy w' (some R)/\M.nx zs len p=(v,p'):=by
 obtain⟨hb,Ca,Da,Ea,⟨hp,Fa⟩,Ga⟩:=h;by_cases Aa:p<len
 ·
  obtain⟨b,Ba,z,hz,rfl,Ha,z0,z1,hc,Ia,hl⟩:=uP hrow p Aa;have HN:H7 (M.nx zs len p=(z,p+1)):=(by show _=_;unfold M.nx;rw[if_pos Aa,hz]);clear hz;have hc':=(hb.cell (p:=⟨b,Ba+p,none⟩) Ha).trans hc;have HB:=Hd hb;have Ja:b<R:=(by omega);have Ka:(p:Int)<(len:Int):=(by omega);have hg:¬ (len:Int)<=(p:Int):=(by omega);clear hb hrow hc Aa;go_enter func80,ntmps80;go_wp2
  go_quiet (fail)
  go_wp2
  go_quiet (fail)
  go_wp2;go_ret;have hs:Rd w0 R (some ⟨b,Ba,none⟩) len cap p w:=⟨HB.o,Ca,Da,Ea,⟨hp,Fa⟩,Ga⟩;exact⟨z,p+1,z0,z1,rfl,(s9 hs (p+1) (by omega) _ _).1,(s9 hs (p+1) (by omega) _ _).2,HN.o⟩
 ·
  have HB:=Hd hb;clear hb;go_enter func80,ntmps80;go_wp2
  go_quiet (fail)
  go_wp2;go_ret;exact⟨0,p,by omega,by omega,rfl,⟨Below.drewN' HB.o _,Ca,Da,Ea,⟨hp,Fa⟩,Ga⟩,gX (World.grownBy.refl _ _) _,by unfold M.nx;rw[if_neg (by omega)]⟩
theorem bh{len:Nat}(hrow:Row .u8 w0 a len cap zs)(n:Int)(n0:1<=n)(n1:n<=65536)(w:World)(h:Rd w0 R a len cap p w):
  Calls prog 39 #[tG R,it n] w λe w'=>∃(v:Int) (p':Nat),0<=v/\v<n/\e=.returned (it v)/\Rd w0 R a len cap p' w'/\w.grownBy w' (some R)/\cV zs len n p=(v,p'):=by
 have HR:=Hd hrow;have H:=Hd h;clear hrow h;by_cases h1:n<=1
 ·
  go_enter func39,ntmps39;go_wp2;go_ret;exact⟨0,p,by omega,by omega,rfl,H.o,World.grownBy.refl _ _,by unfold cV;rw[if_pos (by omega)]⟩
 ·
  by_cases h2:n<=256
  ·
   go_enter func39,ntmps39;(go_wp2_with fail);refine(jD HR.o _ H.o).mono ?_;rintro e w1 ⟨v,q1,v0,v1,rfl,hr,hg,hv⟩;have Aa:=Hd hr;have Ba:=aI hv;have Ca:=Hd hg;clear hr hg hv;go_wp2;go_ret;exact⟨v%n,q1,Int.emod_nonneg _ (by omega),Int.emod_lt_of_pos _ (by omega),rfl,Aa.o,Ca.o,by unfold cV;rw[if_neg (by omega),if_pos (by omega),Ba.o]⟩
  ·
   go_enter func39,ntmps39;(go_wp2_with fail);refine(jD HR.o _ H.o).mono ?_;rintro e w1 ⟨v,q1,v0,v1,rfl,hr,hg,hv⟩;have Aa:=Hd hr;have Ba:=aI hv;have Ca:=Hd hg;clear hr hg hv;(go_wp2_with fail);refine(jD HR.o _ Aa.o).mono ?_;rintro e w2 ⟨u,q2,u0,u1,rfl,hr,hg,hv⟩;have Da:=Hd hr;have Ea:=aI hv;have Fa:=Hd hg;clear hr hg hv;go_wp2;go_ret;exact⟨(v*256+u)%n,q2,Int.emod_nonneg _ (by omega),Int.emod_lt_of_pos _ (by omega),rfl,Da.o,Ca.o.trans Fa.o,by unfold cV;rw[if_neg (by omega),if_neg (by omega),Ba.o];dsimp only;rw[Ea.o]⟩
theorem di{len:Nat}(hrow:Row .u8 w0 a len cap zs)(n:Int)(n0:1<=n)(n1:n<=65536)(w:World)(h:Rd w0 R a len cap p w):
  Calls prog 36 #[tG R,it n] w λe w'=>∃(v:Bool) (p':Nat),e=.returned (.bool v)/\Rd w0 R a len cap p' w'/\w.grownBy w' (some R)/\iR zs len n p=(v,p'):=by
 have HR:=Hd hrow;have H:=Hd h;clear hrow h;go_enter func36,ntmps36;(go_wp2_with fail);refine(bh HR.o n n0 n1 _ H.o).mono ?_;rintro e w1 ⟨v,q1,v0,v1,rfl,hr,hg,hv⟩;have Aa:=Hd hr;have Ba:=aI hv;have Ca:=Hd hg;clear hr hg hv;go_wp2;go_ret;exact⟨_,q1,rfl,Aa.o,Ca.o,by unfold iR;rw[Ba.o]⟩
theorem qI{len:Nat}(hrow:Row .u8 w0 a len cap zs)(w:World)(h:Rd w0 R a len cap p w):
  Calls prog 74 #[tG R] w λe w'=>∃(v:Int) (p':Nat),(Lit.int .u64 v).wf=true/\e=.returned (.int .u64 v)/\Rd w0 R a len cap p' w'/\w.grownBy w' (some R)/\jp zs len 8 0 p=(v,p'):=by
 have HR:=Hd hrow;have H:=Hd h;clear hrow h;go_enter func74,ntmps74;go_wp2
 go_loopw [3,4] (λx i wr=>∃(xv:Int) (k:Nat),k<=8/\x=.int .u64 xv/\i=it k/\(Lit.int .u64 xv).wf=true/\∃q,Rd w0 R a len cap q wr/\w.grownBy wr (some R)/\jp zs len (8-k) xv q=jp zs len 8 0 p) (λ_ i _=>8-(intOf i).toNat)
 case atStart=>exact⟨0,0,by omega,rfl,rfl,by decide,p,H.o,World.grownBy.refl _ _,rfl⟩
 case round=>
  obtain⟨xv,k,hk,rfl,rfl,Aa,q,hr,hg,hw⟩:=hrel;have HQ:=Hd hw;clear hw;have HW:=Hd Aa;have Ba:=Hd hr;have Ca:=Hd hg;have hx:=bounds_u64 Aa;obtain⟨x0,x1⟩:=hx;clear Aa hr hg H;by_cases Ga:k<8
  ·
   (go_wp2_with fail);refine(jD HR.o _ Ba.o).mono ?_;rintro e w1 ⟨v,q1,v0,v1,rfl,hr,hg,hv⟩;have Da:=Hd hr;have Ea:=aI hv;have Fa:=Hd hg;clear hr hg hv;go_wp2;go_roundw
   case rel=>exact⟨_,k+1,by omega,rfl,by go_num,wf_bits _ _ _ _,q1,Da.o,Ca.o.trans Fa.o,by rw[<-HQ.o,show 8-k=(8-(k+1))+1 by omega];show _=jp zs len (8-(k+1)) (wW xv (M.nx zs len q).1) (M.nx zs len q).2;rw[Ea.o];rfl⟩
   case measure=>simp[intOf];omega
  ·
   go_wp2;go_ret;exact⟨_,q,HW.o,rfl,Ba.o,Ca.o,by rw[<-HQ.o,show 8-k=0 by omega];rfl⟩
theorem uO{len:Nat}(hrow:Row .u8 w0 a len cap zs)(lo hi:Int)(l0:0<=lo)(lh:lo<=hi)(h1:hi<=4611686018427387904)(w:World)(h:Rd w0 R a len cap p w):
  Calls prog 81 #[tG R,it lo,it hi] w λe w'=>∃(v:Int) (p':Nat),lo<=v/\v<=hi/\e=.returned (it v)/\Rd w0 R a len cap p' w'/\w.grownBy w' (some R)/\M.nr zs len lo hi p=(v,p'):=by
 have HR:=Hd hrow;have H:=Hd h;clear hrow h;have Ia:¬ hi<lo:=(by omega);go_enter func81,ntmps81;(go_wp2_with fail);refine(bh HR.o 8 (by omega) (by omega) _ H.o).mono ?_;rintro e w1 ⟨v,q1,v0,v1,rfl,hr,hg,hv⟩;have Aa:=Hd hr;have Ba:=aI hv;have Ca:=Hd hg;clear hr hg hv;by_cases e0:v=0
 ·
  subst e0;go_wp2;go_ret;exact⟨lo,q1,by omega,by omega,rfl,Aa.o,Ca.o,by unfold M.nr;rw[Ba.o];rfl⟩
 ·
  by_cases e1:v=1
  ·
   subst e1;go_wp2;go_ret;exact⟨hi,q1,by omega,by omega,rfl,Aa.o,Ca.o,by unfold M.nr;rw[Ba.o];rfl⟩
  ·
   have b0:(v==0)=false:=(by simp[e0]);have b1:(v==1)=false:=(by simp[e1]);have HE:H7 (¬ v=0/\¬ v=1):=⟨e0,e1⟩;clear e0 e1;(go_wp2_with fail);refine(qI HR.o _ Aa.o).mono ?_;rintro e w2 ⟨x,q2,hx,rfl,hr,hg,hv⟩;have Fa:=Hd hr;have Ga:=aI hv;have Ha:=Hd hg;obtain⟨x0,x1⟩:=bounds_u64 hx;clear hr hg hv hx;have Da:0<=x/2%(hi-lo+1):=Int.emod_nonneg _ (by omega);have Ea:x/2%(hi-lo+1)<hi-lo+1:=Int.emod_lt_of_pos _ (by omega);have HM:H7 (0<=x/2%(hi-lo+1)/\x/2%(hi-lo+1)<hi-lo+1):=⟨Da,Ea⟩;clear Da Ea;go_wp2;go_ret;have hm:=HM.o;exact⟨lo+x/2%(hi-lo+1),q2,by omega,by omega,bR (by rw[IntWalk.wrap64_in (x/2%(hi-lo+1)) ⟨by omega,by omega⟩,IntWalk.wrap64_in _ ⟨by omega,by omega⟩]),Fa.o,Ca.o.trans Ha.o,by unfold M.nr;rw[Ba.o];dsimp only;rw[if_neg HE.o.1,if_neg HE.o.2,Ga.o]⟩
theorem Rd.alloc{len:Nat}(h:Rd w0 R a len cap p w)(o:Obj):Rd w0 R a len cap p (w.alloc o):=by
 have hg:=xC w o none;obtain⟨hp,Aa⟩:=h.cp;have hs:=xD h.hi hg.size;refine⟨h.below.alloc (tr h.lo (Nat.le_of_lt h.hi)) o,h.lo,hs,hg.cell h.cb (by simp),⟨hp,hg.cell Aa (by simp)⟩,?_⟩;exact(World.frozen?_of_block (a:=⟨R,1,none⟩) (hg.block R h.hi (by simp))).trans h.fr
theorem jR{o:Obj}(h:(w.alloc o).grownBy w' (some R)):w.grownBy w' (some R):=
 (xC w o (some R)).trans h
theorem d9(w:World)(cs:Array Value)(t:TypeId)(j:Nat)(u:Value)(h:cs[j]?=some u):(w.alloc (.cells cs t)).cell? ⟨w.heap.size,j,none⟩=some u:=by
 rw[xu];exact h
theorem fB{len:Nat}(hrow:Row .u8 w0 a len cap zs)(lo hi:Int)(l0:0<=lo)(lh:lo<=hi)(h1:hi<=4611686018427387904)(w:World)(h:Rd w0 R a len cap p w):
  Calls prog 40 #[tG R,it lo,it hi] w λe w'=>∃(v:Int) (p':Nat),-9223372036854775808<=v/\v<=9223372036854775807/\e=.returned (it v)/\Rd w0 R a len cap p' w'/\w.grownBy w' (some R)/\pp zs len lo hi p=(v,p'):=by
 have HR:=Hd hrow;have H:=Hd h;clear hrow h;go_enter func40,ntmps40;(go_wp2_with fail);refine(di HR.o 24 (by omega) (by omega) _ H.o).mono ?_;rintro e w1 ⟨v,q1,rfl,hr,hg,hv⟩;have Ba:=Hd hr;have Fa:=aI hv;have Ga:=Hd hg;clear hr hg hv
 cases v with
 | true=>
  (go_wp2_with fail);refine(bh HR.o 4 (by omega) (by omega) _ (Ba.o.alloc _)).mono ?_;rintro e w2 ⟨x,q2,x0,x1,rfl,hr,hg,hv⟩;have Aa:w1.heap.size≠R:=(by have:=Ba.o.hi;omega);have c0:=hg.cell (d9 w1 _ _ 0 _ rfl) (by simpa using Aa);have c1:=hg.cell (d9 w1 _ _ 1 _ rfl) (by simpa using Aa);have c2:=hg.cell (d9 w1 _ _ 2 _ rfl) (by simpa using Aa);have c3:=hg.cell (d9 w1 _ _ 3 _ rfl) (by simpa using Aa);have Ca:=Hd hr;have Da:=aI hv;have Ea:=Hd (jR hg);clear hr hg hv;have hx:x=0\/x=1\/x=2\/x=3:=by omega
  rcases hx with rfl | rfl | rfl | rfl
  all_goals
   go_wp2;go_ret;exact⟨_,q2,by omega,by omega,rfl,Ca.o,Ga.o.trans Ea.o,by unfold pp;rw[Fa.o];dsimp only;rw[if_pos rfl,Da.o];rfl⟩
 | false=>
  (go_wp2_with fail);refine(uO HR.o lo hi l0 lh h1 _ Ba.o).mono ?_;rintro e w2 ⟨x,q2,x0,x1,rfl,hr,hg,hv⟩;have Ca:=Hd hr;have Da:=aI hv;have Ea:=Hd hg;clear hr hg hv;go_wp2;go_ret;exact⟨x,q2,by omega,by omega,rfl,Ca.o,Ga.o.trans Ea.o,by unfold pp;rw[Fa.o];dsimp only;rw[if_neg (by simp),Da.o]⟩
theorem dh{len:Nat}(hrow:Row .u8 w0 a len cap zs)(w:World)(h:Rd w0 R a len cap p w):
  Calls prog 37 #[tG R] w λe w'=>∃(v:Int) (p':Nat),-9223372036854775808<=v/\v<=9223372036854775807/\e=.returned (it v)/\Rd w0 R a len cap p' w'/\w.grownBy w' (some R)/\fO zs len p=(v,p'):=by
 have HR:=Hd hrow;have H:=Hd h;clear hrow h;go_enter func37,ntmps37;(go_wp2_with fail);refine(bh HR.o 6 (by omega) (by omega) _ H.o).mono ?_;rintro e w1 ⟨v,q1,v0,v1,rfl,hr,hg,hv⟩;have Da:=Hd hr;have Ea:=aI hv;have Fa:=Hd hg;clear hr hg hv;by_cases e1:v=1
 ·
  subst e1;(go_wp2_with fail);refine(bh HR.o 3 (by omega) (by omega) _ Da.o).mono ?_;rintro e w2 ⟨x,q2,x0,x1,rfl,hr,hg,hv⟩;have Aa:=Hd hr;have Ba:=aI hv;have Ca:=Hd hg;clear hr hg hv;go_wp2;go_ret;exact⟨65536-x,q2,by omega,by omega,rfl,Aa.o,Fa.o.trans Ca.o,by unfold fO;rw[Ea.o];dsimp only;rw[if_pos rfl,Ba.o]⟩
 ·
  by_cases e2:v=2
  ·
   subst e2;(go_wp2_with fail);refine(qI HR.o _ Da.o).mono ?_;rintro e w2 ⟨x,q2,hx,rfl,hr,hg,hv⟩;have Aa:=Hd hr;have Ba:=aI hv;have Ca:=Hd hg;obtain⟨x0,x1⟩:=bounds_u64 hx;clear hr hg hv hx;go_wp2;go_ret;exact⟨x%65537,q2,by omega,by omega,rfl,Aa.o,Fa.o.trans Ca.o,by unfold fO;rw[Ea.o];dsimp only;rw[if_neg (by omega),if_pos rfl,Ba.o]⟩
  ·
   by_cases e3:v=3
   ·
    subst e3;(go_wp2_with fail);refine(fB HR.o 0 65536 (by omega) (by omega) (by omega) _ Da.o).mono ?_;rintro e w2 ⟨x,q2,x0,x1,rfl,hr,hg,hv⟩;have Aa:=Hd hr;have Ba:=aI hv;have Ca:=Hd hg;clear hr hg hv;go_wp2;go_ret;exact⟨x,q2,x0,x1,rfl,Aa.o,Fa.o.trans Ca.o,by unfold fO;rw[Ea.o];dsimp only;rw[if_neg (by omega),if_neg (by omega),if_pos rfl,Ba.o]⟩
   ·
    have b1:(v==1)=false:=(by simp[e1]);have b2:(v==2)=false:=(by simp[e2]);have b3:(v==3)=false:=(by simp[e3]);have HE:H7 (¬ v=1/\¬ v=2/\¬ v=3):=⟨e1,e2,e3⟩;clear e1 e2 e3;(go_wp2_with fail);refine(bh HR.o 6 (by omega) (by omega) _ Da.o).mono ?_;rintro e w2 ⟨x,q2,x0,x1,rfl,hr,hg,hv⟩;have Aa:=Hd hr;have Ba:=aI hv;have Ca:=Hd hg;clear hr hg hv;go_wp2;go_ret;exact⟨x,q2,by omega,by omega,rfl,Aa.o,Fa.o.trans Ca.o,by unfold fO;rw[Ea.o];dsimp only;rw[if_neg HE.o.1,if_neg HE.o.2.1,if_neg HE.o.2.2,Ba.o]⟩
theorem lm{len:Nat}(w:World):
  Calls prog 14 #[.slice a len cap] w λe w'=>e=.returned (tG w.heap.size)/\Rd w w.heap.size a len cap 0 w':=by
 go_enter func14,ntmps14;go_wp2;go_ret;refine⟨rfl,⟨(m8 _ _).alloc (m3 _) _,m3 _,by simp,d9 _ _ _ 0 _ rfl,⟨Nat.zero_le _,d9 _ _ _ 1 _ rfl⟩,?_⟩⟩;simp
theorem sW(a:Option Addr)(len cap:Nat)(w:World):
  Rq 4 #[.slice a len cap] w (.bool (decide ((1048576:Int)<(len:Int)))):=by
 go_enter func4,ntmps4;go_wp2;go_ret;exact⟨rfl,rfl⟩
theorem aA.keepR{t:TypeId}(h:aA t w dA a n cap zs)(hg:w.grownBy w' (some R))(hne:∀x,a=some x->x.block≠R):aA t w' dA a n cap zs:=by
 refine World.ownsRow.kept h hg ?_
 cases a with
 | none=>exact .inl rfl
 | some x=>exact .inr (by simpa[Value.ownBlock]using hne x rfl)
theorem aA.past{t:TypeId}(h:aA t w dA a n cap zs)(hR:R<dA):∀x,a=some x->x.block≠R:=λx hx=>by
 have:=h.lo x hx;omega
theorem Rd.keep{b:Option Addr}{len c:Nat}(h:Rd w0 R a len cap p w)(hg:w.grownBy w' (Value.slice b n c).ownBlock)(hne:∀x,b=some x->x.block≠R)(hlo:∀x,b=some x->w0.heap.size<=x.block):Rd w0 R a len cap p w':=by
 have hR:some R≠(Value.slice b n c).ownBlock:=by
  cases b with
  | none=>simp[Value.ownBlock]
  | some x=>have:=hne x rfl;simp[Value.ownBlock];omega
 obtain⟨hp,Aa⟩:=h.cp;refine⟨h.below.grown hg (tr h.lo (Nat.le_of_lt h.hi)) (λk hk=>?_),h.lo,xD h.hi hg.size,hg.cell h.cb hR,⟨hp,hg.cell Aa hR⟩,?_⟩
 ·
  cases b with
  | none=>simp[Value.ownBlock]at hk
  | some x=>simp[Value.ownBlock]at hk;have:=hlo x rfl;omega
 .exact(World.frozen?_of_block (a:=⟨R,1,none⟩) (hg.block R h.hi hR)).trans h.fr
theorem Rd.grow{len:Nat}(h:Rd w0 R a len cap p w)(hb:m1 w w'):Rd w0 R a len cap p w':=by
 have hg:w.grownBy w' none:=⟨hb.os,hb.tape,hb.output,hb.size,λk hk _=>hb.block k hk⟩;obtain⟨hp,Aa⟩:=h.cp;refine⟨h.below.trans (hb.mono (tr h.lo (Nat.le_of_lt h.hi))),h.lo,xD h.hi hb.size,hg.cell h.cb (by simp),⟨hp,hg.cell Aa (by simp)⟩,?_⟩;exact(World.frozen?_of_block (a:=⟨R,1,none⟩) (hg.block R h.hi (by simp))).trans h.fr
theorem pW{w'':World}(h:w.grownBy w' (some R))(hb:m1 w' w''):w.grownBy w'' (some R):=
 h.trans ⟨hb.os,hb.tape,hb.output,hb.size,λk hk _=>hb.block k hk⟩
def pB(zs:List Int)(len:Nat):Nat->List Int->Nat->List Int×Nat
 | 0,l,p=>(l,p)
 | k+1,l,p=>pB zs len k (l++[(fO zs len p).1]) (fO zs len p).2
def iH(zs:List Int)(len:Nat)(r:List Int×Nat):List Int×Nat:=(if(iR zs len 30 r.2).1=true then r.1 else if M.allEl r.1=false then r.1 else M.trim r.1,(iR zs len 30 r.2).2)
def rx(zs:List Int)(len most p:Nat):List Int×Nat:=iH zs len (pB zs len (cV zs len ((most:Int)+1) p).1.toNat [] (cV zs len ((most:Int)+1) p).2)
theorem qA{len:Nat}(hrow:Row .u8 w0 a len cap zs)(most:Nat)(hmost:most<=100)(w:World)(h:Rd w0 R a len cap p w):
  Calls prog 30 #[tG R,it most] w λe w'=>∃b n c l p',e=.returned (.slice b n c)/\n<=most/\aA 2 w' w.heap.size b n c l/\Rd w0 R a len cap p' w'/\w.grownBy w' (some R)/\rx zs len most p=(l,p'):=by
 have HR:=Hd hrow;have Ja:=Hd h.hi;have Ib:=Hd (tr h.lo (Nat.le_of_lt h.hi));obtain⟨i0,hi,Va,Wa,Xa⟩:=info_parts bF;have HI:H7 (prog.info? 2=some i0/\i0.zero=some (it 0)/\i0.size=1/\i0.bytes=8):=⟨hi,Va,Wa,Xa⟩;have Ya:H7 (Rd w0 R a len cap p (w.alloc (.cells #[] 2))):=h.alloc _;have Na:H7 (aA 2 (w.alloc (.cells #[] 2)) w.heap.size (some ⟨w.heap.size,0,none⟩) 0 0 []):=World.ownsRow_made w #[] 0 (m3 _) (by unfold maxLen;omega) rfl;clear hrow h hi Va Wa Xa;go_enter func30,ntmps30;(go_wp2_with fail);refine(bh HR.o ((most:Int)+1) (by omega) (by omega) _ Ya.o).mono ?_;rintro e w1 ⟨v,q1,v0,v1,rfl,hr,hg,hv⟩;have Za:=Hd hr;have Ab:=Hd ((xC w _ _).trans hg);have Bb:=Hd (Na.o.keepR hg (Na.o.past Ja.o));obtain⟨vn,rfl⟩:=Int.eq_ofNat_of_zero_le v0;have HV:H7 (rx zs len most p=iH zs len (pB zs len vn [] q1)):=(by show _=_;unfold rx;rw[hv];rfl);clear hv hr hg Ya Na;go_wp2
 go_loopw [5,6] (λs i wr=>∃(k j:Nat) (b:Option Addr) (c:Nat) (l:List Int),j+k<=most/\i=it k/\s=.slice b j c/\aA 2 wr w.heap.size b j c l/\∃q,Rd w0 R a len cap q wr/\w.grownBy wr (some R)/\rx zs len most p=iH zs len (pB zs len k l q)) (λ_ i _=>(intOf i).toNat)
 case atStart=>exact⟨vn,0,_,0,[],by omega,rfl,rfl,Bb.o,q1,Za.o,Ab.o,HV.o⟩
 case round=>
  obtain⟨k,j,b,c,l,Kb,rfl,rfl,Cb,q2,Db,Eb,Fb⟩:=hrel;have Da:=Hd Cb;have Oa:=Hd Db;have Ka:=Hd Fb;have Pa:=Hd Eb;clear HV Fb Cb Db Eb Bb Za Ab;by_cases hk:0<k
  ·
   have Lb:(0:Int)<(k:Int):=(by omega);(go_wp2_with fail);refine(dh HR.o _ Oa.o).mono ?_;rintro e w3 ⟨x,q3,x0,x1,rfl,Ea,Ba,Fa⟩;have Ga:=Hd Ea;have Ha:=aI Fa;have Ca:=Hd (Pa.o.trans Ba);have Aa:=Hd (Da.o.keepR Ba (Da.o.past Ja.o));have Nb:=Ca.o.size;clear Fa Ea Ba;(go_wp2_with(at_builtin;refine wpList_append_own _ rfl _ _ 24 rfl w.heap.size 2 i0 (it 0) 1 8 underlying24 HI.o.1 HI.o.2.1 HI.o.2.2.1 HI.o.2.2.2 rfl (by decide) _ j (l.map (Value.int .i64)) rfl (xY Aa.o _) ⟨w3.heap.size,0,none⟩ 1 1 [it x] rfl rfl (br w3 _ _) (bL _) (by unfold maxLen;omega) (by omega) (by simp;omega) ?_));intro v' w4 Gb Hb _;have hown':w4.ownsRow w.heap.size 2 1 v' (j+1) ((l++[x]).map (Value.int .i64)):=(by rw[xU];exact Gb);obtain⟨b4,c4,rfl,Ia⟩:=aA.form hown';have Qa:=(xC w3 _ _).trans Hb;have La:=Hd Ia;have Ra:=Hd (Ga.o.keep Qa (Aa.o.past Ja.o) (λx hx=>tr Ib.o (Aa.o.lo x hx)));have Sa:=Hd (Ca.o.andThen Qa (λq hq=>.inl (Aa.o.row q hq)));clear Gb hown' Hb Ia Qa;go_wp2;go_roundw
   case rel=>exact⟨k-1,j+1,b4,c4,l++[x],by omega,by go_num,rfl,La.o,q3,Ra.o,Sa.o,by rw[Ka.o,show k=(k-1)+1 by omega];show iH zs len (pB zs len (k-1) (l++[(fO zs len q2).1]) (fO zs len q2).2)=_;rw[Ha.o];rfl⟩
   case measure=>simp[intOf];omega
  ·
   have Jb:k=0:=(by omega);subst Jb;(go_wp2_with fail);refine(di HR.o 30 (by omega) (by omega) _ Oa.o).mono ?_;rintro e w3 ⟨q,q3,rfl,Ea,Ba,Fa⟩;have Ga:=Hd Ea;have Ha:=aI Fa;have Ca:=Hd (Pa.o.trans Ba);have Aa:=Hd (Da.o.keepR Ba (Da.o.past Ja.o));clear Fa Ea Ba Da Oa Pa
   cases q with
   | true=>
    go_wp2;go_ret;exact⟨b,j,c,l,q3,rfl,by omega,Aa.o,Ga.o,Ca.o,by rw[Ka.o];show iH zs len (l,q2)=_;unfold iH;dsimp only;rw[Ha.o];rfl⟩
   | false=>
    cases hall:M.allEl l with
    | false=>
     have Ta:=Hd hall;(go_wp2_with fail);refine(ee _ Aa.o.sees).mono ?_;rintro e w3 ⟨rfl,rfl⟩;go_wp2;go_ret;exact⟨b,j,c,l,q3,rfl,by omega,Aa.o,Ga.o,Ca.o,by rw[Ka.o];show iH zs len (l,q2)=_;unfold iH;dsimp only;rw[Ha.o,if_neg (by simp),if_pos Ta.o]⟩
    | true=>
     have Ta:=Hd hall;have HM:H7 ((M.trim l).length<=most):=(by show _<=_;have:=M.len_trim l;rw[Aa.o.len]at this;omega);(go_wp2_with fail);refine(ee _ Aa.o.sees).mono ?_;rintro e w3 ⟨rfl,rfl⟩;(go_wp2_with fail);refine(cr _ Aa.o.sees (by omega)).mono ?_;rintro e w4 ⟨b4,n4,c4,rfl,Ia,Ua⟩;have La:=Hd (Ia.mono Ca.o.size);have Ra:=Hd (Ga.o.grow Ua);have Sa:=Hd (pW Ca.o Ua);clear Ia Ua;go_wp2;go_ret;exact⟨b4,n4,c4,M.trim l,q3,rfl,by rw[<-La.o.len];exact HM.o,La.o,Ra.o,Sa.o,by rw[Ka.o];show iH zs len (l,q2)=_;unfold iH;dsimp only;rw[Ha.o,if_neg (by simp),if_neg (by rw[Ta.o];simp)]⟩
end Go.Proofs.YtbjalickbnpnkaaGreatDoor
