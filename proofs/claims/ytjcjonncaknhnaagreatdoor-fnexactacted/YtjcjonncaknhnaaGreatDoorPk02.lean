import Derived.Deep.RegionLaw
import Derived.Deep.OwnRows
import Derived.Test.YtjcjonncaknhnaaGreatDoorPk00
namespace Go.Proofs.YtjcjonncaknhnaaGreatDoor
open Go.RowKit Go.Proofs.Tryz
set_option linter.unusedSimpArgs false
set_option maxHeartbeats 32000000
variable {t:TypeId}{w w':World}{i' n cap k c h:Nat}{v:Value}{zs ys:List Int}{a b:Option Addr}{P:Program}{ops:Array Oper}{o:Oper}{Q:Exit→Act→World→Prop}{ps:List (Int×Int)}{s:Int}
theorem ar.form(h:w.ownsRow i' t 1 v n (zs.map (Value.int .i64))):∃a cap,v=.slice a n cap∧ar t w i' a n cap zs:=by
 rcases h.2 with⟨e,h0⟩ | ⟨g,c,cur,e,_⟩
 ·subst e h0;exact⟨none,0,rfl,h⟩
 ·subst e;exact⟨_,c,rfl,h⟩
theorem ar.row(h:ar t w i' a n cap zs):∀k,(Value.slice a n cap).ownBlock=some k→i'≤k:=fun k hk=>(tJ h k hk).1
theorem dk:(prog.info? 182).map (fun i=>(i.zero,i.size,i.bytes))=some (some (.int .i64 0),1,8):=by kernel_rfl
theorem cJ(x:Int):∀u∈[Value.int .i64 x],u.oneCell'=true:=by intro u hu;simp at hu;subst hu;rfl
theorem du(zs:List Int):∀u∈zs.map (Value.int .i64),u.oneCell'=true:=ints_oneCell .i64 zs
theorem b7(w:World)(x:Int)(t:TypeId):∀j u,[Value.int .i64 x][j]?=some u→(w.alloc (.cells #[Value.int .i64 x] t)).cell? ((⟨w.heap.size,0,none⟩:Addr).add j)=some u:=by
 intro j u hj
 match j,hj with
 | 0,hj=>simp at hj;subst hj;simp[Addr.add]
theorem kZ(h:k<zs.length):zs.take k++[zs.getD k 0]=zs.take (k+1):=by
 rw[tK h,tu,tw h];rfl
theorem jk(x:Int)(i':Nat)(w:World)(ho:ar 182 w i' a n cap ys)(hb:i'≤w.heap.size)(hn:n≤2000000):
  Calls prog 221 #[.slice a n cap,.int .i64 x] w fun e w'=>∃a' cap',e=.returned (.slice a' (n+1) cap')∧ar 182 w' i' a' (n+1) cap' (ys++[x])∧w.grownBy w' (Value.slice a n cap).ownBlock:=by
 have HO:=Hd (ho);obtain⟨i0,hi,Aa,Ba,Ca⟩:=info_parts dk;clear ho;go_enter func221,ntmps221;(go_wp2_with(at_builtin;refine wpList_append_own _ rfl _ _ 125 rfl i' 182 i0 (it 0) 1 8 underlying125 hi Aa Ba Ca rfl (by decide) _ n (ys.map (Value.int .i64)) rfl (uc HO.o _) ⟨w.heap.size,0,none⟩ 1 1 [it x] rfl rfl (b7 w x _) (cJ x) (by unfold maxLen;omega) (by omega) (by simp;omega) ?_));intro v' w1 Da Ea _;have hown':w1.ownsRow i' 182 1 v' (n+1) ((ys++[x]).map (Value.int .i64)):=(by rw[t8];exact Da);obtain⟨a',cap',rfl,Fa⟩:=ar.form hown';have HO':H9 (ar 182 w1 i' a' (n+1) cap' (ys++[x])):=Fa;have HG:H9 (w.grownBy w1 (Value.slice a n cap).ownBlock):=(tO w _ _).trans Ea;clear Da hown' Ea Fa hi Aa Ba Ca;go_wp2;go_ret;exact⟨a',cap',rfl,HO'.o,HG.o⟩
theorem gi(w0 w:World)(hz:ah w0 a n c zs)(hbl:Below w0.heap.size w0 w)(ho:ar 182 w w0.heap.size b 0 cap [])(hn:n≤1048576):
  Calls prog 220 #[.slice a n c,.slice b 0 cap,.func (.func 221) #[] #[]] w fun e w'=>∃a' cap',e=.returned (.slice a' n cap')∧ar 182 w' w0.heap.size a' n cap' zs∧Below w0.heap.size w0 w':=by
 have HZ:=Hd (hz);have HB:=Hd (hbl);have HO:=Hd (ho);clear hz hbl ho;go_enter func220,ntmps220;go_wp2
 go_loopw [1,11] (fun s i wr=>∃(k:Nat) (a':Option Addr) (cap':Nat),k≤n∧i=it k∧s=.slice a' k cap'∧ar 182 wr w0.heap.size a' k cap' (zs.take k)∧Below w0.heap.size w0 wr) (fun _ i _=>n-(intOf i).toNat)
 case atStart=>exact⟨0,b,cap,by omega,rfl,rfl,HO.o,HB.o⟩
 case round=>
  obtain⟨k,a',cap',hk,rfl,rfl,Ca,Da⟩:=hrel;have Ba:=Hd (Ca);have Aa:=Hd (Da);clear Ca Da HO HB;by_cases Ea:k<n
  ·
   obtain⟨b1,o1,rfl,Fa⟩:=(HZ.o.below Aa.o).at (by omega);have c1:=Fa k Ea;clear Fa;have HS:H9 (zs.take k++[zs.getD k 0]=zs.take (k+1)):=kZ (by rw[HZ.o.len];exact Ea);generalize hx:zs.getD k 0=x at c1;have HX:=Hd (hx);have hI:(k:Int)<(n:Int):=(by omega);clear hx;(go_wp2_with fail);refine(jk x w0.heap.size _ Ba.o Aa.o.size (by omega)).mono ?_;rintro e w1 ⟨a2,Ia,rfl,Ga,Ha⟩;have Ja:=Hd (Ga);have Ka:H9 (Below w0.heap.size w0 w1):=Aa.o.grown Ha Aa.o.size Ba.o.row;clear Ga Ha;go_wp2;go_roundw
   case rel=>exact⟨k+1,a2,Ia,by omega,by go_num,rfl,by rw[←HS.o,HX.o];exact Ja.o,Ka.o⟩
   case measure=>simp[intOf];omega
  ·
   have La:k=n:=(by omega);subst La;go_wp2;go_ret;refine⟨a',cap',rfl,?_,Aa.o⟩;have h:=Ba.o;rw[tF (by rw[HZ.o.len];exact tr _)]at h;exact h
theorem ee(w:World)(hz:ah w a n c zs)(hn:n≤1048576):
  Calls prog 136 #[.slice a n c] w fun e w'=>∃a' cap',e=.returned (.slice a' n cap')∧ar 182 w' w.heap.size a' n cap' zs∧Below w.heap.size w w':=by
 have HZ:=Hd (hz);obtain⟨i0,hi,Aa,Ba,Ca⟩:=info_parts dk;clear hz;go_enter func136,ntmps136;(go_wp2_with(at_make;refine wpList_make_own _ rfl _ _ 125 rfl w.heap.size 182 i0 (it 0) 1 underlying125 hi Aa Ba .i64 .i64 _ n rfl rfl rfl (by rw[Ca];omega) (by unfold maxLen;omega) (tr _) ?_));intro w1 Da hg;have HO:=Hd (Da);have HB:H9 (Below w.heap.size w w1):=bq hg;clear Da hg hi Aa Ba Ca;(go_wp2_with fail);refine(gi w _ HZ.o HB.o HO.o hn).mono ?_;rintro e w2 ⟨a',cap',rfl,ho,hb⟩;have Ea:=Hd (ho);have Fa:=Hd (hb);clear ho hb;go_wp2;go_ret;exact⟨a',cap',rfl,Ea.o,Fa.o⟩
theorem jV(x:Int)(i':Nat)(w:World)(ho:ar 2 w i' a n cap ys)(hb:i'≤w.heap.size)(hn:n≤2000000):
  Calls prog 145 #[.slice a n cap,.int .i64 x] w fun e w'=>∃a' cap',e=.returned (.slice a' (n+1) cap')∧ar 2 w' i' a' (n+1) cap' (ys++[x])∧w.grownBy w' (Value.slice a n cap).ownBlock:=by
 have HO:=Hd (ho);obtain⟨i0,hi,Aa,Ba,Ca⟩:=info_parts cn;clear ho;go_enter func145,ntmps145;(go_wp2_with(at_builtin;refine wpList_append_own _ rfl _ _ 24 rfl i' 2 i0 (it 0) 1 8 underlying24 hi Aa Ba Ca rfl (by decide) _ n (ys.map (Value.int .i64)) rfl (uc HO.o _) ⟨w.heap.size,0,none⟩ 1 1 [it x] rfl rfl (b7 w x _) (cJ x) (by unfold maxLen;omega) (by omega) (by simp;omega) ?_));intro v' w1 Da Ea _;have hown':w1.ownsRow i' 2 1 v' (n+1) ((ys++[x]).map (Value.int .i64)):=(by rw[t8];exact Da);obtain⟨a',cap',rfl,Fa⟩:=ar.form hown';have HO':H9 (ar 2 w1 i' a' (n+1) cap' (ys++[x])):=Fa;have HG:H9 (w.grownBy w1 (Value.slice a n cap).ownBlock):=(tO w _ _).trans Ea;clear Da hown' Ea Fa hi Aa Ba Ca;go_wp2;go_ret;exact⟨a',cap',rfl,HO'.o,HG.o⟩
theorem gW(w0 w:World)(hz:ah w0 a n c zs)(hbl:Below w0.heap.size w0 w)(ho:ar 2 w w0.heap.size b 0 cap [])(hn:n≤1048576):
  Calls prog 144 #[.slice a n c,.slice b 0 cap,.func (.func 145) #[] #[]] w fun e w'=>∃a' cap',e=.returned (.slice a' n cap')∧ar 2 w' w0.heap.size a' n cap' zs∧Below w0.heap.size w0 w':=by
 have HZ:=Hd (hz);have HB:=Hd (hbl);have HO:=Hd (ho);clear hz hbl ho;go_enter func144,ntmps144;go_wp2
 go_loopw [1,11] (fun s i wr=>∃(k:Nat) (a':Option Addr) (cap':Nat),k≤n∧i=it k∧s=.slice a' k cap'∧ar 2 wr w0.heap.size a' k cap' (zs.take k)∧Below w0.heap.size w0 wr) (fun _ i _=>n-(intOf i).toNat)
 case atStart=>exact⟨0,b,cap,by omega,rfl,rfl,HO.o,HB.o⟩
 case round=>
  obtain⟨k,a',cap',hk,rfl,rfl,Ca,Da⟩:=hrel;have Ba:=Hd (Ca);have Aa:=Hd (Da);clear Ca Da HO HB;by_cases Ea:k<n
  ·
   obtain⟨b1,o1,rfl,Fa⟩:=(HZ.o.below Aa.o).at (by omega);have c1:=Fa k Ea;clear Fa;have HS:H9 (zs.take k++[zs.getD k 0]=zs.take (k+1)):=kZ (by rw[HZ.o.len];exact Ea);generalize hx:zs.getD k 0=x at c1;have HX:=Hd (hx);have hI:(k:Int)<(n:Int):=(by omega);clear hx;(go_wp2_with fail);refine(jV x w0.heap.size _ Ba.o Aa.o.size (by omega)).mono ?_;rintro e w1 ⟨a2,Ia,rfl,Ga,Ha⟩;have Ja:=Hd (Ga);have Ka:H9 (Below w0.heap.size w0 w1):=Aa.o.grown Ha Aa.o.size Ba.o.row;clear Ga Ha;go_wp2;go_roundw
   case rel=>exact⟨k+1,a2,Ia,by omega,by go_num,rfl,by rw[←HS.o,HX.o];exact Ja.o,Ka.o⟩
   case measure=>simp[intOf];omega
  ·
   have La:k=n:=(by omega);subst La;go_wp2;go_ret;refine⟨a',cap',rfl,?_,Aa.o⟩;have h:=Ba.o;rw[tF (by rw[HZ.o.len];exact tr _)]at h;exact h
theorem kq(w:World)(hz:ah w a n c zs)(hn:n≤1048576):
  Calls prog 66 #[.slice a n c] w fun e w'=>∃a' cap',e=.returned (.slice a' n cap')∧ar 2 w' w.heap.size a' n cap' zs∧Below w.heap.size w w':=by
 have HZ:=Hd (hz);obtain⟨i0,hi,Aa,Ba,Ca⟩:=info_parts cn;clear hz;go_enter func66,ntmps66;(go_wp2_with(at_make;refine wpList_make_own _ rfl _ _ 24 rfl w.heap.size 2 i0 (it 0) 1 underlying24 hi Aa Ba .i64 .i64 _ n rfl rfl rfl (by rw[Ca];omega) (by unfold maxLen;omega) (tr _) ?_));intro w1 Da hg;have HO:=Hd (Da);have HB:H9 (Below w.heap.size w w1):=bq hg;clear Da hg hi Aa Ba Ca;(go_wp2_with fail);refine(gW w _ HZ.o HB.o HO.o hn).mono ?_;rintro e w2 ⟨a',cap',rfl,ho,hb⟩;have Ea:=Hd (ho);have Fa:=Hd (hb);clear ho hb;go_wp2;go_ret;exact⟨a',cap',rfl,Ea.o,Fa.o⟩
def ja(zs:List Int):Nat→Nat
 | 0=>0
 | k+1=>if zs.getD k 0=0 then ja zs k else k+1
def M.trim(zs:List Int):List Int:=zs.take (ja zs zs.length)
def dD(zs:List Int)(n k:Nat):Prop:=ja zs k=ja zs n
theorem gQ(h:dD zs n k)(h0:0<k)(hz:zs.getD (k-1) 0=0):dD zs n (k-1):=by
 unfold dD at *;rw[←h];obtain⟨j,rfl⟩:∃j,k=j+1:=⟨k-1,by omega⟩;rw[Nat.add_sub_cancel]at hz ⊢
 conv=>rhs;unfold ja
 rw[if_pos hz]
theorem gS(h:dD zs n k)(h0:0<k)(hz:zs.getD (k-1) 0≠0):ja zs n=k:=by
 unfold dD at h;rw[←h];obtain⟨j,rfl⟩:∃j,k=j+1:=⟨k-1,by omega⟩;rw[Nat.add_sub_cancel]at hz;unfold ja;rw[if_neg hz]
theorem iV(h:dD zs n 0):ja zs n=0:=h.symm
theorem df(h:ah w a n c zs)(k:Nat)(hk:k≤n):
  ∀ad,a=some ad→∀j u,((zs.take k).map (Value.int .i64))[j]?=some u→w.cell? (ad.add j)=some u:=by
 intro ad e j u hj;have hl:=h.len
 have Aa:j<k:=by
  have:=(List.getElem?_eq_some_iff.1 hj).1;rw[List.length_map,ua]at this;omega
 obtain⟨b,Ba,e2,hc⟩:=h.at (by omega);rw[e]at e2;simp only[Option.some.injEq]at e2;subst e2;have h1:=hc j (by omega);rw[List.getElem?_map,List.getElem?_take_of_lt Aa,tw (by omega)]at hj;simp only[Option.map_some,Option.some.injEq]at hj;subst hj;rw[tu,tw (by omega)]at h1;simp only[Option.getD_some]at h1;unfold Addr.add
 split
 ·rename_i e0;subst e0;exact h1
 ·exact h1
theorem eB(w:World){rest:List Oper}{a:Act}(hgd:o.guard=none)(s x:Operand)(t:TypeId)
 (ho:o.op=.call {callee:=.builtin .append,args:=#[s,x],argTypes:=#[t,t]})
 (i':Nat)(e:TypeId)(i:TypeInfo)(z:Value)(size bytes:Nat)(ht:P.underlying t=some (.slice e))(hi:P.info? e=some i)(hz:i.zero=some z)
 (hsize:i.size=size)(hby:i.bytes=bytes)(hzs:z.cells.size=size)(hsz:0<size)
 (v:Value)(n:Nat)(xs:List Value)(hs:a.eval s=v)(hown:w.ownsRow i' e size v n xs)
 (ao:Option Addr)(m c:Nat)(news:List Value)(hx:a.eval x=.slice ao m c)(hl:news.length=m*size)(hnone:ao=none→m=0∧c=0)
 (hnews:∀ad,ao=some ad→∀j u,news[j]?=some u→w.cell? (ad.add j)=some u)(h1:∀u∈news,u.oneCell'=true)
 (h63:n+m≤maxLen)(hbytes:(n+m)*bytes≤140737488355328)(tf:i'≤w.heap.size)
 (h:∀v' w',w'.ownsRow i' e size v' (n+m) (xs++news)→w.grownBy w' v.ownBlock→wpList P ops Q rest (a.put o.dst v') w'):wpList P ops Q (o::rest) a w:=by
 cases ao with
 | some ad=>exact wpList_append_own w hgd s x t ho i' e i z size bytes ht hi hz hsize hby hzs hsz v n xs hs hown ad m c news hx hl (hnews ad rfl) h1 h63 hbytes tf (fun v' w' h2 h3 _=>h v' w' h2 h3)
 | none=>
  obtain⟨rfl,rfl⟩:=hnone rfl;have hn:news=[]:=List.eq_nil_of_length_eq_zero (by simpa using hl);subst hn;refine wpList_plain hgd fun K hK'=>?_;have Aa:=run_append_owned_none (P:=P) w i' t o.type e i size ht hi v n xs hown;unfold Oper.wp;simp[execOp,ho,resolve,invoke,builtin,hs,hx,Aa,Result.andThen];exact hK' _ _ (h v w (by simpa using hown) (World.grownBy.refl _ _))
theorem oT(w:World)(hz:ah w a n c zs)(hn:n≤1048576):
  Calls prog 134 #[.slice a n c] w fun e w'=>∃a' m cap',e=.returned (.slice a' m cap')∧ar 2 w' w.heap.size a' m cap' (M.trim zs)∧Below w.heap.size w w':=by
 have HZ:=Hd (hz);have HN:H9 (a=none→n=0∧c=0):=hz.no;have Ka:n≤c:=hz.le;have La:(c:Int)≤9223372036854775807:=hz.big;obtain⟨i0,hi,Ea,Fa,Ga⟩:=info_parts cn;have HI:H9 (prog.info? 2=some i0∧i0.zero=some (Value.int .i64 0)∧i0.size=1∧i0.bytes=8):=⟨hi,Ea,Fa,Ga⟩;have HL:H9 (∀k,k≤n→((zs.take k).map (Value.int .i64)).length=k*1):=fun k hk=>by rw[List.length_map,ua,hz.len];omega
 clear hz hi Ea Fa Ga;go_enter func134,ntmps134;go_wp2
 go_loop [3] (fun s=>∃k:Nat,k≤n∧s=it k∧dD zs n k) (fun s=>(intOf s).toNat)
 case atStart=>exact⟨n,tr _,rfl,rfl⟩
 case round=>
  obtain⟨k,hk,rfl,Ha⟩:=hrel;have HV:=Hd (Ha);clear Ha;by_cases h0:0<k
  ·
   obtain⟨b1,o1,rfl,Ia⟩:=HZ.o.at (by omega);have c1:=Ia (k-1) (by omega);clear Ia;generalize hx:zs.getD (k-1) 0=x at c1;have HX:=Hd (hx);clear hx;have hI:(0:Int)<(k:Int):=(by omega);have Na:(0:Int)≤(k:Int)-1:=(by omega);have Oa:(k:Int)-1<(n:Int):=(by omega);by_cases he:x=0
   ·
    have hb:(x==0)=true:=(by simp[he]);have HE:H9 (dD zs n (k-1)):=gQ HV.o h0 (by rw[HX.o];exact he);clear he;go_wp2
    go_round
    case rel=>exact⟨k-1,by omega,by go_num,HE.o⟩
    case measure=>simp[intOf];omega
   ·
    have hb:(x==0)=false:=(by simp[he]);have HE:H9 (ja zs n=k):=gS HV.o h0 (by rw[HX.o];exact he);clear he;have Da:H9 (some (⟨b1,o1,none⟩:Addr)=none→k=0∧c=0):=fun h=>by cases h
    (go_wp2_with(at_builtin;refine eB _ rfl _ _ 24 rfl w.heap.size 2 i0 (it 0) 1 8 underlying24 HI.o.1 HI.o.2.1 HI.o.2.2.1 HI.o.2.2.2 rfl (by decide) _ 0 [] rfl (World.ownsRow_made w #[] 0 (tr _) (by unfold maxLen;omega) rfl) (some ⟨b1,o1,none⟩) k c ((zs.take k).map (Value.int .i64)) rfl (HL.o k hk) Da.o (df (HZ.o.below ((tv _ _).alloc (tr _) _)) k hk) (du _) (by unfold maxLen;omega) (by omega) (by simp) ?_));intro v' w1 Aa Ba;have hown':w1.ownsRow w.heap.size 2 1 v' k ((zs.take k).map (Value.int .i64)):=(by simpa using Aa);obtain⟨a',cap',rfl,Ca⟩:=ar.form hown'
    have HO':H9 (ar 2 w1 w.heap.size a' k cap' (M.trim zs)):=by
     show ar 2 w1 w.heap.size a' k cap' (M.trim zs);unfold M.trim;rw[HZ.o.len,HE.o];exact Ca
    have HG:H9 (Below w.heap.size w w1):=((tv w.heap.size w).alloc (tr _) _).grown Ba (by simp) (fun j hj=>by simp[Value.ownBlock]at hj;omega);clear Aa hown' Ba Ca;go_wp2;go_ret;exact⟨a',_,cap',rfl,HO'.o,HG.o⟩
  ·
   have Ja:k=0:=(by omega);subst Ja;have HE:H9 (ja zs n=0):=iV HV.o;have Da:H9 (a=none→0=0∧c=0):=fun h=>⟨rfl,(HN.o h).2⟩;(go_wp2_with(at_builtin;refine eB _ rfl _ _ 24 rfl w.heap.size 2 i0 (it 0) 1 8 underlying24 HI.o.1 HI.o.2.1 HI.o.2.2.1 HI.o.2.2.2 rfl (by decide) _ 0 [] rfl (World.ownsRow_made w #[] 0 (tr _) (by unfold maxLen;omega) rfl) a 0 c ((zs.take 0).map (Value.int .i64)) rfl (HL.o 0 hk) Da.o (df (HZ.o.below ((tv _ _).alloc (tr _) _)) 0 hk) (du _) (by unfold maxLen;omega) (by omega) (by simp) ?_));intro v' w1 Aa Ba;have hown':w1.ownsRow w.heap.size 2 1 v' 0 ((zs.take 0).map (Value.int .i64)):=(by simpa using Aa);obtain⟨a',cap',rfl,Ca⟩:=ar.form hown'
   have HO':H9 (ar 2 w1 w.heap.size a' 0 cap' (M.trim zs)):=by
    show ar 2 w1 w.heap.size a' 0 cap' (M.trim zs);unfold M.trim;rw[HZ.o.len,HE.o];exact Ca
   have HG:H9 (Below w.heap.size w w1):=((tv w.heap.size w).alloc (tr _) _).grown Ba (by simp) (fun j hj=>by simp[Value.ownBlock]at hj;omega);clear Aa hown' Ba Ca;go_wp2;go_ret;exact⟨a',_,cap',rfl,HO'.o,HG.o⟩
theorem fF(w:World)(t t2 e:TypeId)(ty:TypeId)(i:TypeInfo)(b b':Option Addr)(n m c d:Nat)(h1:P.underlying t=some (.slice e))(h2:P.underlying t2=some (.slice e))(hi:P.info? e=some i):
  (Builtin.append_ #[t,t2] ty #[.slice b n c,.slice b' m d]).run P w=(Builtin.append_ #[t,t] ty #[.slice b n c,.slice b' m d]).run P w:=by
 simp[Builtin.append_,run_underlying h1,run_underlying h2,sizeOf,typeInfo,hi]
theorem cO{a:Act}{K:Act→World→Prop}{E:Prop}
 (hg:o.guard=none)(s x:Operand)(t t2:TypeId)(hop:o.op=Op.call {callee:=Callee.builtin Builtin.append,args:=#[s,x],argTypes:=#[t,t2]})
 (i':Nat)(e:TypeId)(i:TypeInfo)(size:Nat)(h1:P.underlying t=some (.slice e))(h1':P.underlying t2=some (.slice e))(h2:P.info? e=some i)(h4:i.size=size)
 (g k cap:Nat)(xs:List Value)(hs:a.eval s=.slice (some ⟨g,0,none⟩) k cap)(hown:w.ownsRow i' e size (.slice (some ⟨g,0,none⟩) k cap) k xs)(ao:Option Addr)(m c:Nat)(news:List Value)(hx:a.eval x=.slice ao m c)(hn:news.length=m*size)
 (hnone:ao=none→m=0∧c=0)(hc:∀ad,ao=some ad→∀j u,news[j]?=some u→w.cell? (ad.add j)=some u)(h1c:∀u∈news,u.oneCell'=true)(b1:k+m≤cap)
 (hK:∀w',w'.ownsRow i' e size (.slice (some ⟨g,0,none⟩) (k+m) cap) (k+m) (xs++news)→w.grownBy w' (some g)→K (a.put o.dst (.slice (some ⟨g,0,none⟩) (k+m) cap)) w'):
  if Region.wanted o (yielded ops a.tmps)=true then Oper.wp P o a w K Q else E:=by
 have hw:Region.wanted o (yielded ops a.tmps)=true:=(by simp[Region.wanted,hg]);rw[if_pos hw]
 cases ao with
 | some ad=>
  obtain⟨w',Aa,r1,r2⟩:=run_append_fits (P:=P) w i' t o.type e i size h1 h2 h4 g k cap xs hown ad m c news hn (hc ad rfl) h1c b1;rw[←fF (P:=P) w t t2 e o.type i _ _ _ _ _ _ h1 h1' h2]at Aa;unfold Oper.wp;simp[execOp,hop,resolve,invoke,builtin,hs,hx,Aa,Result.andThen];exact hK w' r1 r2
 | none=>
  obtain⟨rfl,rfl⟩:=hnone rfl;have Ba:news=[]:=List.eq_nil_of_length_eq_zero (by simpa using hn);subst Ba;have Aa:=run_append_owned_none (P:=P) w i' t o.type e i size h1 h2 _ k xs hown;rw[←fF (P:=P) w t t2 e o.type i _ _ _ _ _ _ h1 h1' h2]at Aa;unfold Oper.wp;simp[execOp,hop,resolve,invoke,builtin,hs,hx,Aa,Result.andThen];have h:=hK w (by simpa using hown) (World.grownBy.refl _ _);exact h
theorem iG{n':Nat}(h:n=n'):Ending.returned (.slice a n c)=.returned (.slice a n' c):=by rw[h]
theorem i9(k:Nat)(hk:k≤2000000)(w:World):(Instr.makeSlice 126 (.int .i64 0) (.int .i64 (k:Int))).run prog w=.ok (.slice (some ⟨w.heap.size,0,none⟩) 0 k) (w.alloc (.cells (madeCells #[.int .i64 0] k) 182)):=by
 obtain⟨i0,hi,Aa,Ba,Ca⟩:=info_parts dk;have h:=run_make (P:=prog) w 126 182 i0 (it 0) underlying126 hi Aa .i64 .i64 0 (k:Int) (by omega) (by omega) (by rw[Ca];omega) (by omega);rw[Ba]at h;simpa[Value.cells]using h
theorem jw(w:World)(hz:ah w a n c zs)(hn:n≤1048576):
  Calls prog 222 #[.slice a n c] w fun e w'=>∃a' m cap',e=.returned (.slice a' m cap')∧ar 182 w' w.heap.size a' m cap' (M.trim zs)∧Below w.heap.size w w':=by
 have HZ:=Hd (hz);have HN:H9 (a=none→n=0∧c=0):=hz.no;have Ja:n≤c:=hz.le;have Ka:(c:Int)≤9223372036854775807:=hz.big;obtain⟨i0,hi,Ca,Da,Ea⟩:=info_parts dk;have HI:H9 (prog.info? 182=some i0∧i0.zero=some (Value.int .i64 0)∧i0.size=1∧i0.bytes=8):=⟨hi,Ca,Da,Ea⟩;have HL:H9 (∀k,k≤n→((zs.take k).map (Value.int .i64)).length=k*1):=fun k hk=>by rw[List.length_map,ua,hz.len];omega
 clear hz hi Ca Da Ea;go_enter func222,ntmps222;go_wp2
 go_loop [3] (fun s=>∃k:Nat,k≤n∧s=it k∧dD zs n k) (fun s=>(intOf s).toNat)
 case atStart=>exact⟨n,tr _,rfl,rfl⟩
 case round=>
  obtain⟨k,hk,rfl,Fa⟩:=hrel;have HV:=Hd (Fa);clear Fa;by_cases h0:0<k
  ·
   obtain⟨b1,o1,rfl,Ga⟩:=HZ.o.at (by omega);have c1:=Ga (k-1) (by omega);clear Ga;generalize hx:zs.getD (k-1) 0=x at c1;have HX:=Hd (hx);clear hx;have hI:(0:Int)<(k:Int):=(by omega);have La:(0:Int)≤(k:Int)-1:=(by omega);have Na:(k:Int)-1<(n:Int):=(by omega);by_cases he:x=0
   ·
    have hb:(x==0)=true:=(by simp[he]);have HE:H9 (dD zs n (k-1)):=gQ HV.o h0 (by rw[HX.o];exact he);clear he;go_wp2
    go_round
    case rel=>exact⟨k-1,by omega,by go_num,HE.o⟩
    case measure=>simp[intOf];omega
   ·
    have hb:(x==0)=false:=(by simp[he]);have HE:H9 (ja zs n=k):=gS HV.o h0 (by rw[HX.o];exact he);have Ha:H9 (some (⟨b1,o1,none⟩:Addr)=none→k=0∧c=0):=fun h=>by cases h
    have Ba:=i9 k (by omega);have Oa:k≤c:=(by omega);clear he;go_wp2
    go_region_law (refine cO rfl (.tmp 19) (.tmp 22) 126 125 rfl w.heap.size 182 i0 1 underlying126 underlying125 HI.o.1 HI.o.2.2.1 w.heap.size 0 k [] (by simp[Act.eval]) (World.ownsRow.drew (World.ownsRow_made w _ k (tr _) (by unfold maxLen;omega) (by simp[size_madeCells]))) (some ⟨b1,o1,none⟩) k c ((zs.take k).map (Value.int .i64)) (by simp[Act.eval]) (HL.o k hk) Ha.o (df (HZ.o.below ((tv _ _).alloc (tr _) _).drew) k hk) (du _) (by omega) ?_;intro w1 Aa hgrow)
    have HO':H9 (ar 182 w1 w.heap.size (some ⟨w.heap.size,0,none⟩) k k (M.trim zs)):=by
     show ar 182 w1 w.heap.size _ k k (M.trim zs);unfold M.trim;rw[HZ.o.len,HE.o];have hown':w1.ownsRow w.heap.size 182 1 (.slice (some ⟨w.heap.size,0,none⟩) k k) k ((zs.take k).map (Value.int .i64)):=(by simpa using Aa);exact hown'
    have HG:H9 (Below w.heap.size w w1):=((tv w.heap.size w).alloc (tr _) _).drew.grown hgrow (by simp) (fun j hj=>by simp at hj;omega);clear Aa hgrow Ba;go_wp2;go_ret;exact⟨_,_,_,iG (by simp),HO'.o,HG.o⟩
  ·
   have Ia:k=0:=(by omega);subst Ia;have HE:H9 (ja zs n=0):=iV HV.o;have Ba:∀w:World,(Instr.makeSlice 126 (it 0) (it 0)).run prog w=.ok (.slice (some ⟨w.heap.size,0,none⟩) 0 0) (w.alloc (.cells (madeCells #[it 0] 0) 182)):=fun w=>i9 0 (by omega) w;have Pa:(0:Nat)≤c:=Nat.zero_le _
   cases a with
   | some x=>
    go_wp2
    go_region_law (refine cO rfl (.tmp 19) (.tmp 22) 126 125 rfl w.heap.size 182 i0 1 underlying126 underlying125 HI.o.1 HI.o.2.2.1 w.heap.size 0 0 [] (by simp[Act.eval]) (World.ownsRow.drew (World.ownsRow_made w _ 0 (tr _) (by unfold maxLen;omega) (by simp[size_madeCells]))) (some x) 0 c ((zs.take 0).map (Value.int .i64)) (by simp[Act.eval]) (HL.o 0 hk) (fun h=>by cases h) (df (HZ.o.below ((tv _ _).alloc (tr _) _).drew) 0 hk) (du _) (by omega) ?_;intro w1 Aa hgrow)
    have HO':H9 (ar 182 w1 w.heap.size (some ⟨w.heap.size,0,none⟩) 0 0 (M.trim zs)):=by
     show ar 182 w1 w.heap.size _ 0 0 (M.trim zs);unfold M.trim;rw[HZ.o.len,HE.o];have hown':w1.ownsRow w.heap.size 182 1 (.slice (some ⟨w.heap.size,0,none⟩) 0 0) 0 ((zs.take 0).map (Value.int .i64)):=(by simpa using Aa);exact hown'
    have HG:H9 (Below w.heap.size w w1):=((tv w.heap.size w).alloc (tr _) _).drew.grown hgrow (by simp) (fun j hj=>by simp at hj;omega);clear Aa hgrow Ba;go_wp2;go_ret;exact⟨_,_,_,iG (by simp),HO'.o,HG.o⟩
   | none=>
    obtain⟨n0,c0⟩:=HN.o rfl;subst n0 c0;go_wp2
    go_region_law (refine cO rfl (.tmp 19) (.tmp 22) 126 125 rfl w.heap.size 182 i0 1 underlying126 underlying125 HI.o.1 HI.o.2.2.1 w.heap.size 0 0 [] (by simp[Act.eval]) (World.ownsRow.drew (World.ownsRow_made w _ 0 (tr _) (by unfold maxLen;omega) (by simp[size_madeCells]))) none 0 0 ((zs.take 0).map (Value.int .i64)) (by simp[Act.eval]) (HL.o 0 hk) (fun _=>⟨rfl,rfl⟩) (df (HZ.o.below ((tv _ _).alloc (tr _) _).drew) 0 hk) (du _) (by omega) ?_;intro w1 Aa hgrow)
    have HO':H9 (ar 182 w1 w.heap.size (some ⟨w.heap.size,0,none⟩) 0 0 (M.trim zs)):=by
     show ar 182 w1 w.heap.size _ 0 0 (M.trim zs);unfold M.trim;rw[HZ.o.len,HE.o];have hown':w1.ownsRow w.heap.size 182 1 (.slice (some ⟨w.heap.size,0,none⟩) 0 0) 0 ((zs.take 0).map (Value.int .i64)):=(by simpa using Aa);exact hown'
    have HG:H9 (Below w.heap.size w w1):=((tv w.heap.size w).alloc (tr _) _).drew.grown hgrow (by simp) (fun j hj=>by simp at hj;omega);clear Aa hgrow Ba;go_wp2;go_ret;exact⟨_,_,_,iG (by simp),HO'.o,HG.o⟩
def kW(ps:List (Int×Int)):List Value:=ps.flatMap fun p=>[.int .i64 p.1,.int .i64 p.2]
theorem hU(ps:List (Int×Int))(p:Int×Int):kW ps++[.int .i64 p.1,.int .i64 p.2]=kW (ps++[p]):=by simp[kW]
theorem pP:∀(ps:List (Int×Int)) {i:Nat},i<ps.length→(kW ps)[i*2]?=some (.int .i64 (ps.getD i (0,0)).1)∧(kW ps)[i*2+1]?=some (.int .i64 (ps.getD i (0,0)).2)
 | [],_,h=>by simp at h
 | p::r,0,_=>⟨rfl,rfl⟩
 | p::r,i+1,h=>by
  have ih:=pP r (i:=i) (by simpa using h)
  have e1:(kW (p::r))[(i+1)*2]?=(kW r)[i*2]?:=by
   rw[show(i+1)*2=i*2+1+1 by omega];rfl
  have e2:(kW (p::r))[(i+1)*2+1]?=(kW r)[i*2+1]?:=by
   rw[show(i+1)*2+1=i*2+1+1+1 by omega];rfl
  rw[e1,e2];exact ih
def aU(t:TypeId)(w:World)(i':Nat)(a:Option Addr)(n cap:Nat)(ps:List (Int×Int)):Prop:=ps.length=n∧w.ownsRow i' t 2 (.slice a n cap) n (kW ps)
theorem aU.form(hl:ps.length=n)(h:w.ownsRow i' t 2 v n (kW ps)):∃a cap,v=.slice a n cap∧aU t w i' a n cap ps:=by
 rcases h.2 with⟨rfl,rfl⟩ | ⟨g,cap,cur,rfl,_⟩
 ·exact⟨none,0,rfl,hl,h⟩
 ·exact⟨_,cap,rfl,hl,h⟩
structure dt(w:World)(a:Option Addr)(n cap:Nat)(ps:List (Int×Int)):Prop where
 len:ps.length=n
 le:n≤cap
 big:(cap:Int)≤9223372036854775807
 no:a=none→n=0∧cap=0
 pos:n=0∨∃b off,a=some ⟨b,off,none⟩∧∀i,i<n→w.cell? ⟨b,off+i*2,none⟩=some (.int .i64 (ps.getD i (0,0)).1)∧w.cell? ⟨b,off+i*2+1,none⟩=some (.int .i64 (ps.getD i (0,0)).2)
theorem dt.below(h:dt w a n cap ps)(hb:Below w.heap.size w w'):dt w' a n cap ps:=by
 refine⟨h.len,h.le,h.big,h.no,?_⟩
 rcases h.pos with e | ⟨b,off,e,hc⟩
 ·exact .inl e
 ·
  by_cases h0:n=0
  ·exact .inl h0
  ·
   have Aa:b<w.heap.size:=by
    have:=(hc 0 (by omega)).1;simp only[World.cell?]at this
    rcases Nat.lt_or_ge b w.heap.size with hl | hl
    ·exact hl
    ·rw[Array.getElem?_eq_none hl]at this;simp at this
   exact .inr ⟨b,off,e,fun i hi=>⟨(hb.cell (p:=⟨b,off+i*2,none⟩) Aa).trans (hc i hi).1,(hb.cell (p:=⟨b,off+i*2+1,none⟩) Aa).trans (hc i hi).2⟩⟩
theorem dt.at(h:dt w a n cap ps)(h0:0<n):∃b off,a=some ⟨b,off,none⟩∧∀i,i<n→w.cell? ⟨b,off+i*2,none⟩=some (.int .i64 (ps.getD i (0,0)).1)∧w.cell? ⟨b,off+i*2+1,none⟩=some (.int .i64 (ps.getD i (0,0)).2):=by
 rcases h.pos with e | e
 ·omega
 ·exact e
theorem aU.block(h:aU t w i' a n cap ps)(h0:0<n):∃g,a=some ⟨g,0,none⟩∧i'≤g∧n≤cap∧(cap:Int)≤9223372036854775807∧∀i,i<n→w.cell? ⟨g,i*2,none⟩=some (.int .i64 (ps.getD i (0,0)).1)∧w.cell? ⟨g,i*2+1,none⟩=some (.int .i64 (ps.getD i (0,0)).2):=by
 obtain⟨hl,h⟩:=h;have Aa:∀g,(Value.slice a n cap).ownBlock=some g→_:=fun g hg=>World.ownsRow.cells h hg
 rcases h.2 with⟨_,h0'⟩ | ⟨g,c,cur,e,hb,hh,hn,hm,_,_⟩
 ·omega
 ·
  simp only[Value.slice.injEq]at e;obtain⟨rfl,-,rfl⟩:=e;have Ba:∀j,(⟨g,0,none⟩:Addr).add j=⟨g,j,none⟩:=fun j=>by unfold Addr.add;split <;> simp_all
  unfold maxLen at hm;refine⟨g,rfl,hb,hn,by omega,fun i hi=>?_⟩;obtain⟨h1,h2⟩:=pP ps (i:=i) (by omega);have c1:=Aa g rfl _ _ h1;have c2:=Aa g rfl _ _ h2;rw[Ba]at c1 c2;exact⟨c1,c2⟩
theorem aU.sees(h:aU t w i' a n cap ps)(h0:0<n):dt w a n cap ps:=by
 obtain⟨g,rfl,_,h1,h2,hc⟩:=h.block h0;exact⟨h.1,h1,h2,fun e=>by simp at e,.inr ⟨g,0,rfl,fun i hi=>by simpa using hc i hi⟩⟩
theorem aU.row(h:aU t w i' a n cap ps):∀q,(Value.slice a n cap).ownBlock=some q→i'≤q:=by
 intro q hq
 rcases h.2.2 with⟨e,_⟩ | ⟨g,c,cur,e,hb,_⟩
 ·simp only[Value.slice.injEq]at e;rw[e.1]at hq;simp[Value.ownBlock]at hq
 ·simp only[Value.slice.injEq]at e;rw[e.1]at hq;simp[Value.ownBlock]at hq;omega
theorem aU.below(h:aU t w i' a n cap ps)(hb:Below w.heap.size w w'):aU t w' i' a n cap ps:=
 ⟨h.1,World.ownsRow.kept h.2 (w':=w') (row:=none) ⟨hb.os,hb.tape,hb.output,hb.size,fun k hk _=>hb.block k hk⟩ (by cases hv:(Value.slice a n cap).ownBlock <;> simp)⟩
theorem aU.mono{base':Nat}(h:aU t w i' a n cap ps)(hb:base'≤i'):aU t w base' a n cap ps:=by
 refine⟨h.1,h.2.1,?_⟩
 rcases h.2.2 with e | ⟨g,c,cur,e,hg,r⟩
 ·exact .inl e
 ·exact .inr ⟨g,c,cur,e,by omega,r⟩
theorem aU.other(h:aU t w i' a n cap ps)(p:Addr)(hp:p.block<i')(v:Value):aU t (w.setCell p v) i' a n cap ps:=by
 refine⟨h.1,World.ownsRow.kept h.2 (w':=w.setCell p v) (row:=some p.block) ⟨rfl,rfl,rfl,by simp[World.setCell],fun k hk hne=>Below.heap_setCell _ _ _ _ (fun e=>hne (by rw[e]))⟩ ?_⟩;have hr:=h.row
 cases hv:(Value.slice a n cap).ownBlock with
 | none=>exact .inl rfl
 | some q=>exact .inr (by have:=hr q hv;simp;omega)
theorem aU.sets{B:Nat}(hB:B<i'):∀(vs:List Value) (w:World) (i:Nat),aU t w i' a n cap ps→aU t (dR w B i vs) i' a n cap ps
 | [],_,_,h=>h
 | v::vs,w,i,h=>aU.sets hB vs (w.setCell ⟨B,i,none⟩ v) (i+1) (h.other ⟨B,i,none⟩ hB v)
theorem d9(x y:Int):∀u∈[Value.int .i64 x,Value.int .i64 y],u.oneCell'=true:=by
 intro u hu;simp only[List.mem_cons,List.not_mem_nil,or_false]at hu
 rcases hu with rfl | rfl <;> rfl
theorem d8(w:World)(x y:Value)(t:TypeId):∀j u,[x,y][j]?=some u→(w.alloc (.cells #[x,y] t)).cell? ((⟨w.heap.size,0,none⟩:Addr).add j)=some u:=by
 intro j u hj;have e:((⟨w.heap.size,0,none⟩:Addr).add j)=⟨w.heap.size,j,none⟩:=(by unfold Addr.add;split <;> simp_all);rw[e,tH];simpa using hj
theorem fN(x:Int)(n:Nat)(w:World)(x0:0≤x)(x1:x<65537)(hn:(n:Int)≤9223372036854775807):
  Rq 178 #[.int .i64 x,.int .i64 n] w (.int .i64 (M.pw x n)):=by
 have HS:H9 (M.PInv x n 1 x n):=M.pinv_start x n;go_enter func178,ntmps178;go_wp2
 go_loop [0,1,5] (fun a m out=>∃(av ov:Int) (k:Nat),0≤av∧av<65537∧0≤ov∧ov<65537∧(k:Int)≤9223372036854775807∧a=it av∧m=it k∧out=it ov∧M.PInv x n ov av k) (fun _ m _=>(intOf m).toNat)
 case atStart=>exact⟨x,1,n,x0,x1,by omega,by omega,hn,rfl,rfl,rfl,HS.o⟩
 case round=>
  obtain⟨av,ov,k,a0,a1,o0,o1,hk,rfl,rfl,rfl,Aa⟩:=hrel;have HI:=Hd (Aa);clear Aa HS hn;by_cases hp:0<k
  ·
   by_cases ho:k%2=1
   ·
    have hb:((k:Int)%2==1)=true:=(by simp;omega);have HO:H9 (k%2=1):=ho;clear ho;obtain⟨m0,m1⟩:=M.mul_bd o0 o1 a0 a1;obtain⟨s0,s1⟩:=M.mul_bd a0 a1 a0 a1;(go_wp2_with fail);refine(bM ov av _ o0 o1 a0 a1).mono ?_;rintro e w' ⟨rfl,rfl⟩;(go_wp2_with fail);refine(bM av av _ a0 a1 a0 a1).mono ?_;rintro e w' ⟨rfl,rfl⟩;go_wp2
    go_round
    case rel=>exact⟨_,_,k/2,Int.emod_nonneg _ (by decide),Int.emod_lt_of_pos _ (by decide),Int.emod_nonneg _ (by decide),Int.emod_lt_of_pos _ (by decide),by omega,rfl,by go_num,rfl,M.pinv_odd HI.o HO.o⟩
    case measure=>simp[intOf];omega
   ·
    have hb:((k:Int)%2==1)=false:=(by simp;omega);have HO:H9 (k%2=0):=(by show k%2=0;omega);clear ho;obtain⟨s0,s1⟩:=M.mul_bd a0 a1 a0 a1;(go_wp2_with fail);refine(bM av av _ a0 a1 a0 a1).mono ?_;rintro e w' ⟨rfl,rfl⟩;go_wp2
    go_round
    case rel=>exact⟨_,_,k/2,Int.emod_nonneg _ (by decide),Int.emod_lt_of_pos _ (by decide),o0,o1,by omega,rfl,by go_num,rfl,M.pinv_even HI.o HO.o⟩
    case measure=>simp[intOf];omega
  ·
   have hz:k=0:=(by omega);subst hz;go_wp2;go_ret;exact⟨bQ (M.pinv_end HI.o o0 o1),rfl⟩
theorem dC(x:Int)(n:Nat)(w:World)(x0:0≤x)(x1:x<65537)(hn:(n:Int)≤9223372036854775807):
  Rq 165 #[.int .i64 x,.int .i64 n] w (.int .i64 (M.pw x n)):=by
 have HS:H9 (M.PInv x n 1 x n):=M.pinv_start x n;have Ba:M.el x=true:=(M.el_iff x).2 ⟨x0,x1⟩;go_enter func165,ntmps165;(go_wp2_with fail);refine(bD x _).mono ?_;rintro e w' ⟨rfl,rfl⟩;go_wp2
 go_loop [0,1,5] (fun a m out=>∃(av ov:Int) (k:Nat),0≤av∧av<65537∧0≤ov∧ov<65537∧(k:Int)≤9223372036854775807∧a=it av∧m=it k∧out=it ov∧M.PInv x n ov av k) (fun _ m _=>(intOf m).toNat)
 case atStart=>exact⟨x,1,n,x0,x1,by omega,by omega,hn,rfl,rfl,rfl,HS.o⟩
 case round=>
  obtain⟨av,ov,k,a0,a1,o0,o1,hk,rfl,rfl,rfl,Aa⟩:=hrel;have HI:=Hd (Aa);clear Aa HS hn;by_cases hp:0<k
  ·
   by_cases ho:k%2=1
   ·
    have hb:((k:Int)%2==1)=true:=(by simp;omega);have HO:H9 (k%2=1):=ho;clear ho;obtain⟨m0,m1⟩:=M.mul_bd o0 o1 a0 a1;obtain⟨s0,s1⟩:=M.mul_bd a0 a1 a0 a1;go_wp2
    go_round
    case rel=>exact⟨_,_,k/2,Int.emod_nonneg _ (by decide),Int.emod_lt_of_pos _ (by decide),Int.emod_nonneg _ (by decide),Int.emod_lt_of_pos _ (by decide),by omega,rfl,by go_num,rfl,M.pinv_odd HI.o HO.o⟩
    case measure=>simp[intOf];omega
   ·
    have hb:((k:Int)%2==1)=false:=(by simp;omega);have HO:H9 (k%2=0):=(by show k%2=0;omega);clear ho;obtain⟨s0,s1⟩:=M.mul_bd a0 a1 a0 a1;go_wp2
    go_round
    case rel=>exact⟨_,_,k/2,Int.emod_nonneg _ (by decide),Int.emod_lt_of_pos _ (by decide),o0,o1,by omega,rfl,by go_num,rfl,M.pinv_even HI.o HO.o⟩
    case measure=>simp[intOf];omega
  ·
   have hz:k=0:=(by omega);subst hz;go_wp2;go_ret;exact⟨bQ (M.pinv_end HI.o o0 o1),rfl⟩
theorem fB(a:Int)(w:World)(a0:0≤a)(a1:a<65537):
  Rq 137 #[.int .i64 a] w (.int .i64 (M.pw a 65535)):=by
 go_enter func137,ntmps137;(go_wp2_with fail);refine(fN a 65535 _ a0 a1 (by omega)).mono ?_;rintro e w' ⟨rfl,rfl⟩;go_wp2;go_ret;exact⟨rfl,rfl⟩
theorem fG(a:Int)(w:World):
  Rq 214 #[.int .i64 a] w (.int .i64 (M.inv a)):=by
 cases ha:M.el a with
 | true=>
  obtain⟨a0,a1⟩:=(M.el_iff a).1 ha;by_cases h0:a=0
  ·
   subst h0;have E:H9 (M.inv 0=-1):=M.inv_0;go_enter func214,ntmps214;(go_wp2_with fail);refine(bD 0 _).mono ?_;rintro e w' ⟨rfl,rfl⟩;go_wp2;go_ret;exact⟨bQ E.o.symm,rfl⟩
  ·
   have E:H9 (M.inv a=M.pw a 65535):=M.inv_in ha h0;have hb:(a==0)=false:=(by simp[h0]);clear h0;go_enter func214,ntmps214;(go_wp2_with fail);refine(bD a _).mono ?_;rintro e w' ⟨rfl,rfl⟩;(go_wp2_with fail);refine(dC a 65535 _ a0 a1 (by omega)).mono ?_;rintro e w' ⟨rfl,rfl⟩;go_wp2;go_ret;exact⟨bQ E.o.symm,rfl⟩
 | false=>
  have E:H9 (M.inv a=-1):=M.inv_l ha;go_enter func214,ntmps214;(go_wp2_with fail);refine(bD a _).mono ?_;rintro e w' ⟨rfl,rfl⟩;go_wp2;go_ret;exact⟨bQ E.o.symm,rfl⟩
theorem kT(n:Int)(w:World):
  Rq 164 #[.int .i64 n,.int .i64 65536] w (.bool (M.two n)):=by
 have HS:H9 (M.TwoInv n 1):=M.tinv_start n;go_enter func164,ntmps164;go_wp2
 go_loop [5] (fun k=>∃p:Int,1≤p∧p≤131072∧k=it p∧M.TwoInv n p) (fun k=>(131073-intOf k).toNat)
 case atStart=>exact⟨1,by omega,by omega,rfl,HS.o⟩
 case round=>
  obtain⟨p,p0,p1,rfl,Aa⟩:=hrel;have HI:=Hd (Aa);clear Aa HS;by_cases hp:p≤65536
  ·
   by_cases he:p=n
   ·
    have E:H9 (M.two n=true):=M.tinv_hit HI.o hp he;have hb:(p==n)=true:=(by simp[he]);clear he HI;go_wp2;go_ret;exact⟨ag E.o.symm,rfl⟩
   ·
    have E:H9 (M.TwoInv n (2*p)):=M.tinv_step HI.o hp he;have hb:(p==n)=false:=(by simp[he]);clear he HI;go_wp2
    go_round
    case rel=>exact⟨2*p,by omega,by omega,rfl,E.o⟩
    case measure=>simp[intOf];omega
  ·
   have E:H9 (M.two n=false):=M.tinv_end HI.o (by omega);clear HI;go_wp2;go_ret;exact⟨ag E.o.symm,rfl⟩
theorem rm{n:Int}(h:1≤n):0≤65536/n∧65536/n≤65536:=by
 refine⟨Int.ediv_nonneg (by omega) (by omega),?_⟩;exact Int.ediv_le_self n (by omega)
theorem fj(n:Int)(w:World):
  Rq 166 #[.int .i64 n] w (.int .i64 (M.root n)):=by
 cases ht:M.two n with
 | true=>
  have E:H9 (M.root n=M.pw 3 (65536/n).toNat):=M.root_in ht;obtain⟨n0,n1⟩:=M.two_bd ht;obtain⟨d0,d1⟩:=rm n0;obtain⟨m,hm⟩:=Int.eq_ofNat_of_zero_le d0;have HM:=Hd (hm);clear hm;go_enter func166,ntmps166;(go_wp2_with fail);refine(kT n _).mono ?_;rintro e w' ⟨rfl,rfl⟩;(go_wp2_with fail);rw[HM.o];refine(dC 3 m _ (by omega) (by omega) (by have:=HM.o;omega)).mono ?_;rintro e w' ⟨rfl,rfl⟩;go_wp2;go_ret;exact⟨bQ (by rw[E.o,HM.o,ub]),rfl⟩
 | false=>
  have E:H9 (M.root n=-1):=M.root_out ht;go_enter func166,ntmps166;(go_wp2_with fail);refine(kT n _).mono ?_;rintro e w' ⟨rfl,rfl⟩;go_wp2;go_ret;exact⟨bQ E.o.symm,rfl⟩
theorem ly(n:Int)(w:World):
  Rq 246 #[.int .i64 n] w (.int .i64 (M.root n)):=by
 by_cases n0:1≤n
 ·
  cases ht:M.two n with
  | true=>
   have E:H9 (M.root n=M.pw 3 (65536/n).toNat):=M.root_in ht;have hb:(65536%n != 0)=false:=(by simp[(M.two_div n0).1 ht]);obtain⟨d0,d1⟩:=rm n0;obtain⟨m,hm⟩:=Int.eq_ofNat_of_zero_le d0;have HM:=Hd (hm);clear hm ht;go_enter func246,ntmps246;(go_wp2_with fail);rw[HM.o];refine(fN 3 m _ (by omega) (by omega) (by have:=HM.o;omega)).mono ?_;rintro e w' ⟨rfl,rfl⟩;go_wp2;go_ret;exact⟨bQ (by rw[E.o,HM.o,ub]),rfl⟩
  | false=>
   have E:H9 (M.root n=-1):=M.root_out ht
   have hb:(65536%n != 0)=true:=by
    rw[bne_iff_ne];intro h;rw[(M.two_div n0).2 h]at ht;cases ht
   clear ht;go_enter func246,ntmps246;go_wp2;go_ret;exact⟨bQ E.o.symm,rfl⟩
 ·
  have ht:M.two n=false:=by
   cases h:M.two n with
   | false=>rfl
   | true=>exact absurd (M.two_bd h).1 n0
  have E:H9 (M.root n=-1):=M.root_out ht;clear ht;go_enter func246,ntmps246;go_wp2;go_ret;exact⟨bQ E.o.symm,rfl⟩
namespace M
def sm:Nat→(Nat→Int)→Int
 | 0,_=>0
 | n+1,f=>sm n f+f n
theorem odd_neg(k:Nat):(-1:Int) ^ (2*k+1)=-1:=by
 induction k with
 | zero=>rfl
 | succ k ih=>rw[show 2*(k+1)+1=2*k+1+1+1 by omega,Int.pow_succ,Int.pow_succ,ih];rfl
theorem order{w:Int}:∀{i d:Nat},cg (w ^ (2 ^ i)) (-1)→cg (w ^ d) 1→2 ^ (i+1)∣d:=by
 intro i
 induction i generalizing w with
 | zero=>
  intro d h h1;rw[Nat.pow_zero,Int.pow_succ,Int.pow_zero,Int.one_mul]at h
  rcases Nat.mod_two_eq_zero_or_one d with e | e
  ·exact Nat.dvd_of_mod_eq_zero (by simpa using e)
  ·
   exfalso
   have h2:=(h.pow d).symm.trans h1;rw[show d=2*(d/2)+1 by omega,odd_neg]at h2;unfold cg at h2;omega
 | succ i ih=>
  intro d h h1
  rcases Nat.mod_two_eq_zero_or_one d with e | e
  ·
   obtain⟨c,rfl⟩:=Nat.dvd_of_mod_eq_zero e;have h3:cg ((w ^ 2) ^ (2 ^ i)) (-1):=(by rw[←Int.pow_mul,Nat.mul_comm,←Nat.pow_succ];exact h);have h4:cg ((w ^ 2) ^ c) 1:=(by rw[←Int.pow_mul];exact h1);obtain⟨q,rfl⟩:=ih h3 h4;exact⟨q,by rw[Nat.pow_succ 2 (i+1)];grind⟩
  ·
   exfalso
   have h2:=h.pow d;rw[show((w ^ (2 ^ (i+1))) ^ d)=(w ^ d) ^ (2 ^ (i+1)) by rw[←Int.pow_mul,←Int.pow_mul,Nat.mul_comm]]at h2;have h3:=(h1.pow (2 ^ (i+1))).symm.trans h2;rw[Int.one_pow,show d=2*(d/2)+1 by omega,odd_neg]at h3;unfold cg at h3;omega
end M
namespace M
def two64(n:Int):Bool:=(List.range 7).any fun i=>n==(2:Int) ^ i
theorem two64_iff(n:Int):two64 n=true↔∃i:Nat,i≤6∧n=(2:Int) ^ i:=by
 simp only[two64,List.any_eq_true,List.mem_range,beq_iff_eq]
 constructor
 ·rintro⟨i,hi,e⟩;exact⟨i,by omega,e⟩
 ·rintro⟨i,hi,e⟩;exact⟨i,by omega,e⟩
theorem two64_two{n:Int}(h:two64 n=true):two n=true:=by
 obtain⟨i,hi,e⟩:=(two64_iff n).1 h;exact(two_iff n).2 ⟨i,by omega,e⟩
theorem two64_le{i:Nat}(h:i≤6):(1:Int)≤2 ^ i∧(2:Int) ^ i≤64:=by
 have:i=0∨i=1∨i=2∨i=3∨i=4∨i=5∨i=6:=by omega
 rcases this with h | h | h | h | h | h | h <;> subst h <;> decide
theorem two64_bd{n:Int}(h:two64 n=true):1≤n∧n≤64:=by
 obtain⟨i,hi,rfl⟩:=(two64_iff n).1 h;exact two64_le hi
theorem two64_div{n:Int}(h0:1≤n):two64 n=true↔64%n=0:=by
 rw[two64_iff]
 constructor
 ·
  rintro⟨i,hi,rfl⟩;have:i=0∨i=1∨i=2∨i=3∨i=4∨i=5∨i=6:=by omega
  rcases this with h | h | h | h | h | h | h <;> subst h <;> decide
 ·
  intro h;obtain⟨m,rfl⟩:=Int.eq_ofNat_of_zero_le (show 0≤n by omega)
  have h':64%m=0:=by
   have:((64%m:Nat):Int)=0:=(by rw[Int.natCast_emod];exact h);omega
  obtain⟨i,hi,e⟩:=dvd_two_pow 6 m (Nat.dvd_of_mod_eq_zero h');exact⟨i,hi,by rw[e];simp⟩
def ptOk(n s:Int):Bool:=two64 n&&(el s&&(s != 0))
theorem ptOk_parts{n:Int}(h:ptOk n s=true):two64 n=true∧el s=true∧s≠0:=by
 unfold ptOk at h;simpa using h
theorem ptOk_mk{n:Int}(h:two64 n=true)(h1:el s=true)(h2:s≠0):ptOk n s=true:=by simp[ptOk,h,h1,h2]
theorem root_n(h:two (n:Int)=true):cg (root n ^ n) 1:=by
 have h1:=root_pow h;rw[pow_in (root_el h) (by omega),ub]at h1;have h2:=cg_pw (root n) n;rw[h1]at h2;exact h2.symm
theorem root_h(ht:two (n:Int)=true)(e:n=2*h):cg (root n ^ h) (-1):=by
 have h1:=root_half ht (by omega);have e2:((n:Int)/2).toNat=h:=(by omega);rw[pow_in (root_el ht) (by omega),e2]at h1;have h2:=cg_pw (root n) h;rw[h1]at h2;exact h2.symm.trans (by unfold cg;omega)
theorem neg_pow(k:Nat):cg ((-1:Int) ^ (2*k+1)) (-1):=cg_of_eq (odd_neg k)
theorem rinv_h(ht:two (n:Int)=true)(e:n=2*h):cg (pw (root n) 65535 ^ h) (-1):=by
 have h1:=(cg_pw (root n) 65535).pow h
 have Aa:∀k:Nat,cg ((root n ^ (2*k+1)) ^ h) (-1):=by
  intro k;rw[←Int.pow_mul,Nat.mul_comm,Int.pow_mul];exact((root_h ht e).pow (2*k+1)).trans (neg_pow k)
 exact h1.trans (Aa 32767)
end M
end Go.Proofs.YtjcjonncaknhnaaGreatDoor
