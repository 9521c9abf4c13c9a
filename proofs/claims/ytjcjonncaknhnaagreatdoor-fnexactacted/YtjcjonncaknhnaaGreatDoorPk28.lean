import Derived.Test.YtjcjonncaknhnaaGreatDoorPk24
namespace Go.Proofs.YtjcjonncaknhnaaGreatDoor
open Go.RowKit Go.Proofs.Tryz
set_option linter.unusedSimpArgs false
set_option maxHeartbeats 32000000
variable {a ab aj:Option Addr}{w w':World}{k:Int}{i' g nb cb nj cj i j n cap:Nat}{bs:List Int}{qs:List MQ}{bl:List Nat}{ts:List M.Tk}
theorem j6{P:Program}{ops:Array Oper}{rest:List Oper}{op:Oper}{a:Act}{Q:Exit→Act→World→Prop}(T:TypeId)(b o:Nat)(v:Value)(ht:w.there b o 1)
   (hs:op.guard=none∧v.cells=#[v]∧v.oneCell'=true∧(P.info? T).map (·.size)=some 1∧∃x y,op.op=.store T x y∧a.eval x=.pointer (some ⟨b,o,none⟩)∧a.eval y=v)
   (h:wpList P ops Q rest (a.put op.dst undef) (w.setCells b o [v])):H9 (wpList P ops Q (op::rest) a w):=by
  obtain⟨h1,h2,h3,h4,x,y,h5,h6,h7⟩:=hs
  exact iP h1 T x y h5 b o v h2 h6 h7 ht h4 h3 h
theorem iw{α:Type}{f:α→List Value}{k:Nat}(hf:∀x,(f x).length=k)(d:α):∀(xs:List α) {i:Nat} (c:α) (o:Nat) (us:List Value),i<xs.length→o+us.length≤k→f c=j4 (f (xs.getD i d)) o us→j4 (xs.flatMap f) (i*k+o) us=(xs.set i c).flatMap f
 | [],_,_,_,_,h,_,_=>by simp at h
 | x::xs,0,c,o,us,_,ho,hc=>by
  have hc':f c=j4 (f x) o us:=hc;rw[List.set_cons_zero,t',t',hc'];unfold j4;rw[Nat.zero_mul,Nat.zero_add,List.take_append_of_le_length (by rw[hf];omega),List.drop_append_of_le_length (by rw[hf];omega)];simp only[List.append_assoc]
 | x::xs,i+1,c,o,us,h,ho,hc=>by
  have ih:=iw hf d xs (i:=i) c o us (by simpa using h) ho hc;unfold j4 at ih ⊢;rw[t',List.set_cons_succ,t',←ih,show(i+1)*k+o=k+(i*k+o) by rw[Nat.add_mul];omega];rw[List.take_append,List.drop_append,hf,tF (by rw[hf];omega),tC (by rw[hf];omega)];rw[show k+(i*k+o)-k=i*k+o by omega,show k+(i*k+o)+us.length-k=i*k+o+us.length by omega];simp
theorem aF.gone(H:aF w i' ab nb cb bs (some ⟨g,0,none⟩) nj cj qs)(hi:i<nj)(b:Bool):
  aF (w.setCells g (i*18+16) [.bool b]) i' ab nb cb bs (some ⟨g,0,none⟩) nj cj (qs.set i ({(qs.getD i q0).1 with gone:=b},(qs.getD i q0).2))∧w.grownBy (w.setCells g (i*18+16) [.bool b]) (some g):=by
 have hl:=H.jl;obtain⟨h1,h2⟩:=de [.bool b] (i*18+16) H.j (by rw[b8 co];show i*18+16+1≤_;omega)
 have hc:fu ({(qs.getD i q0).1 with gone:=b},(qs.getD i q0).2)=j4 (fu (qs.getD i q0)) 16 [.bool b]:=by
  generalize qs.getD i q0=q
  rfl
 rw[iw co q0 qs _ 16 [.bool b] (by omega) (by show 16+1≤18;omega) hc]at h1;obtain⟨c3,c2,c1⟩:=bK.1 H.d;have Aa:qs.getD i q0∈qs:=(by rw[tu,tw (by omega)];simp);have Ba:g∈ob (some (⟨g,0,none⟩:Addr)):=(by simp[ob]);have Ca:∀q∈qs,∀x∈ob q.2.1,some g≠some x:=fun q hq x hx e=>c2 g Ba (tm e ▸ tU.2 ⟨q,hq,hx⟩);refine⟨⟨H.b.grown h2 fun x hx e=>(c3 x hx).1 (tm e ▸ Ba),by rw[List.length_set];exact hl,h1,?_,?_⟩,h2⟩
 ·
  intro q hq
  rcases cU (d:=q0) hq with rfl | ⟨k',h3,h4,rfl⟩
  ·exact(H.t _ Aa).grown h2 (Ca _ Aa)
  ·
   have Da:qs.getD k' q0∈qs:=(by rw[tu,tw h4];simp);exact(H.t _ Da).grown h2 (Ca _ Da)
 ·
  have e:=dL (ab:=ab) (aj:=some ⟨g,0,none⟩) (qs:=qs) (i:=i) ({(qs.getD i q0).1 with gone:=b},(qs.getD i q0).2) (by omega) rfl;rw[e];exact H.d
theorem aF.jthere(H:aF w i' ab nb cb bs (some ⟨g,0,none⟩) nj cj qs)(hi:i<nj):w.there g (i*18+16) 1:=fun j hj=>by
 obtain rfl:j=0:=by omega
 refine⟨?_,H.j.frozenAt _⟩;rw[Nat.add_zero,H.jcell hi (by omega)]
 rfl
def bC(bl:List Nat)(w w':World):Prop:=∀P:World→Prop,(∀W W' row,W.grownBy W' row→(∀g,row=some g→g∈bl)→P W→P W')→P w→P w'
theorem bC.refl(bl:List Nat)(w:World):bC bl w w:=fun _ _ h=>h
theorem bC.trans{w1 w2:World}(h:bC bl w w1)(h':bC bl w1 w2):bC bl w w2:=fun P hP h0=>h' P hP (h P hP h0)
theorem bC.one{row:Option Nat}(hg:w.grownBy w' row)(hr:∀g,row=some g→g∈bl):bC bl w w':=fun _ hP h0=>hP _ _ _ hg hr h0
theorem bC.below{B:Nat}(h:bC bl w w')(hB:B≤w.heap.size)(hr:∀g∈bl,B≤g):Below B w w':=
 (h (fun W=>Below B w W∧B≤W.heap.size) (fun _ _ _ hg hb h0=>⟨h0.1.grown hg h0.2 (fun z e=>hr z (hb z e)),tB h0.2 hg.size⟩) ⟨tv _ _,hB⟩).1
theorem ae.steps{b:Nat}{vs:List Value}(h:ae w b vs)(hs:bC bl w w')(hb:b∉bl):ae w' b vs:=
 hs (fun W=>ae W b vs) (fun _ _ _ hg hr h0=>h0.grown hg (fun e=>hb (hr b e))) h
theorem aF.steps(h:aF w i' ab nb cb bs aj nj cj qs)(hs:bC bl w w')(hb:∀g∈bj ab aj qs,g∉bl):aF w' i' ab nb cb bs aj nj cj qs:=
 hs (fun W=>aF W i' ab nb cb bs aj nj cj qs) (fun _ _ _ hg hr h0=>h0.grown hg (fun g hm e=>hb g hm (hr g e))) h
namespace M
def mkt1(b:Bool)(k:Int):Tk:=⟨b,k+1,k+1+1⟩
def mkt(k:Int)(n:Nat):List Tk:=(List.range n).map fun i:Nat=>mkt1 (k%3==0) (k+(i:Int)*3)
theorem mkt_len(k:Int)(n:Nat):(mkt k n).length=n:=by simp[mkt]
theorem mkt_get(k:Int)(n i:Nat)(h:i<n):(mkt k n).getD i t0=mkt1 (k%3==0) (k+(i:Int)*3):=by
 rw[tu,tw (by rw[mkt_len];exact h)];simp[mkt]
theorem mkt_step{ts:List Tk}(h:j<ts.length):(mkt k j++ts.drop j).set j (mkt1 (k%3==0) (k+(j:Int)*3))=mkt k (j+1)++ts.drop (j+1):=by
 rw[List.set_append_right _ _ (by rw[mkt_len];exact tr _),mkt_len,Nat.sub_self,List.drop_eq_getElem_cons h,List.set_cons_zero];unfold mkt;rw[List.range_succ,t8,List.append_assoc]
 rfl
def up(k:Int):Nat→Int
 | 0=>k
 | n+1=>up k n+1
theorem up_eq(k:Int):∀n:Nat,up k n=k+n
 | 0=>by simp[up]
 | n+1=>by rw[up,up_eq k n];omega
def mkm(k:Int):Mc:=⟨⟨up k 1,up k 2,up k 3,up k 4,up k 5,up k 6⟩,⟨up k 7,up k 8,up k 9,up k 10,up k 11,up k 12⟩⟩
def mkh(k:Int)(ts:List Tk):Jb:=⟨k,mkm k,(up k 13,up k 14),up k 15,up k 16%3==0,ts⟩
def mk1(k:Int)(q:MQ):MQ:=(mkh k (mkt (up k 17) q.1.ts.length),q.2)
def mkN(k:Int)(q:MQ):Int:=up k 17+(q.1.ts.length:Int)*3
def mkJ(k:Int):List MQ→List MQ
 | []=>[]
 | q::l=>mk1 k q::mkJ (mkN k q) l
def endJ(k:Int):List MQ→Int
 | []=>k
 | q::l=>endJ (mkN k q) l
def ffJ(i:Nat)(k:Int)(qs:List MQ):List MQ:=qs.take i++mkJ k (qs.drop i)
theorem ffJ_end{qs:List MQ}(h:qs.length≤i):ffJ i k qs=qs:=by
 unfold ffJ;rw[tC h,tF h];exact List.append_nil _
theorem endJ_end{qs:List MQ}(h:qs.length≤i):endJ k (qs.drop i)=k:=by
 rw[tC h];rfl
theorem drop_at{qs:List MQ}(h:i<qs.length):qs.drop i=qs.getD i q0::qs.drop (i+1):=by
 rw[List.drop_eq_getElem_cons h,tu,tw h];rfl
theorem ffJ_in{qs:List MQ}(h:i<qs.length):ffJ (i+1) (mkN k (qs.getD i q0)) (qs.set i (mk1 k (qs.getD i q0)))=ffJ i k qs:=by
 unfold ffJ;rw[drop_at h,List.drop_set_of_lt (by omega),tK (by rw[List.length_set];exact h),List.take_set_of_le (tr _),List.getElem_set_self,List.append_assoc]
 rfl
theorem endJ_in{qs:List MQ}(h:i<qs.length)(q:MQ):endJ (mkN k (qs.getD i q0)) ((qs.set i q).drop (i+1))=endJ k (qs.drop i):=by
 rw[drop_at h,List.drop_set_of_lt (by omega)]
 rfl
theorem mkJ_in{qs:List MQ}(h:i<qs.length):mkJ k (qs.drop i)=mk1 k (qs.getD i q0)::mkJ (mkN k (qs.getD i q0)) (qs.drop (i+1)):=by rw[drop_at h];rfl
theorem mkJ_len:∀(k:Int) (qs:List MQ),(mkJ k qs).length=qs.length
 | _,[]=>rfl
 | k,q::l=>by show(mkJ _ l).length+1=l.length+1;rw[mkJ_len]
end M
theorem aF.tasks(H:aF w i' ab nb cb bs aj nj cj qs){c:Nat}(hi:i<nj)(hl:ts.length=(qs.getD i q0).1.ts.length)(hg:w.grownBy w' (Value.slice (qs.getD i q0).2.1 n c).ownBlock)(hO:aK w' i' (qs.getD i q0).2.1 ts.length (qs.getD i q0).2.2 ts):
  aF w' i' ab nb cb bs aj nj cj (qs.set i ({(qs.getD i q0).1 with ts:=ts},(qs.getD i q0).2)):=by
 have Ca:=H.jl;have Da:qs.getD i q0∈qs:=(by rw[tu,tw (by omega)];simp);obtain⟨c3,c2,c1⟩:=bK.1 H.d;have Aa:∀g,(Value.slice (qs.getD i q0).2.1 n c).ownBlock=some g→g∈ob (qs.getD i q0).2.1:=fun g e=>aZ e;have Ba:∀g,g∈ob (qs.getD i q0).2.1→g∈qs.flatMap fun q=>ob q.2.1:=fun g h=>tU.2 ⟨_,Da,h⟩;refine⟨H.b.grown hg fun x hx e=>(c3 x hx).2 (Ba x (Aa x e)),by rw[List.length_set];exact Ca,?_,?_,?_⟩
 ·
  rw[cV fu q0 qs i _ (by simp[fu,dJ,hl]) (by omega)];exact eg H.j hg fun x hx e=>c2 x hx (Ba x (Aa x e))
 ·
  intro q hq
  rcases cU (d:=q0) hq with rfl | ⟨k',h3,h4,rfl⟩
  ·exact hO
  ·
   have Ea:qs.getD k' q0∈qs:=(by rw[tu,tw h4];simp);exact(H.t _ Ea).grown hg fun x hx e=>eZ (f:=fun q:MQ=>ob q.2.1) (d:=q0) c1 (by omega) h4 h3 x (Aa x e) hx
 ·
  have e:=dL (ab:=ab) (aj:=aj) (qs:=qs) (i:=i) ({(qs.getD i q0).1 with ts:=ts},(qs.getD i q0).2) (by omega) rfl;rw[e];exact H.d
theorem aF.job(H:aF w i' ab nb cb bs (some ⟨g,0,none⟩) nj cj qs)(hi:i<nj)(j':M.Jb)(us:List Value)(hu:us.length=17)(hc:fu (j',(qs.getD i q0).2)=j4 (fu (qs.getD i q0)) 0 us)(ht:j'.ts=(qs.getD i q0).1.ts):
  aF (w.setCells g (i*18) us) i' ab nb cb bs (some ⟨g,0,none⟩) nj cj (qs.set i (j',(qs.getD i q0).2))∧w.grownBy (w.setCells g (i*18) us) (some g):=by
 have hl:=H.jl;obtain⟨h1,h2⟩:=de us (i*18) H.j (by rw[b8 co,hu];omega);have e:=iw co q0 qs _ 0 us (by omega) (by rw[hu];omega) hc;rw[Nat.add_zero]at e;rw[e]at h1;obtain⟨c3,c2,c1⟩:=bK.1 H.d;have Aa:qs.getD i q0∈qs:=(by rw[tu,tw (by omega)];simp);have Ba:g∈ob (some (⟨g,0,none⟩:Addr)):=(by simp[ob]);have Ca:∀q∈qs,∀x∈ob q.2.1,some g≠some x:=fun q hq x hx e=>c2 g Ba (tm e ▸ tU.2 ⟨q,hq,hx⟩);refine⟨⟨H.b.grown h2 fun x hx e=>(c3 x hx).1 (tm e ▸ Ba),by rw[List.length_set];exact hl,h1,?_,?_⟩,h2⟩
 ·
  intro q hq
  rcases cU (d:=q0) hq with rfl | ⟨k',h3,h4,rfl⟩
  ·
   have:=(H.t _ Aa).grown h2 (Ca _ Aa);dsimp only;rw[ht];exact this
  ·
   have Da:qs.getD k' q0∈qs:=(by rw[tu,tw h4];simp);exact(H.t _ Da).grown h2 (Ca _ Da)
 ·
  have e:=dL (ab:=ab) (aj:=some ⟨g,0,none⟩) (qs:=qs) (i:=i) (j',(qs.getD i q0).2) (by omega) rfl;rw[e];exact H.d
theorem aF.after(H:aF w i' ab nb cb bs (some ⟨g,0,none⟩) nj cj qs){p:Nat}(hi:i<nj)(hp:p<18)(o:Nat)(us:List Value):(w.setCells g o us).there g (i*18+p) 1:=by
 refine World.there_setCells (fun j hj=>?_) _ _ _;obtain rfl:j=0:=by omega
 refine⟨?_,H.j.frozenAt _⟩;rw[Nat.add_zero,H.jcell hi hp,tw (by rw[co];exact hp)]
 rfl
theorem iH(W:World)(g c d:Nat)(v:Value)(h:c≠d):(W.setCell ⟨g,c,none⟩ v).cell? ⟨g,d,none⟩=W.cell? ⟨g,d,none⟩:=t6 (w:=W) (a:=⟨g,c,none⟩) (b:=⟨g,d,none⟩) (v:=v) (h:=by intro e;simp only[Addr.mk.injEq]at e;omega)
theorem eF(g:Nat):∀(us:List Value) (w:World) (o:Nat) (v:Value),(w.setCells g o us).setCells g (o+us.length) [v]=w.setCells g o (us++[v])
 | [],_,_,_=>rfl
 | u::us,w,o,v=>by
  have:=eF g us (w.setCell ⟨g,o,none⟩ u) (o+1) v;rw[List.length_cons,show o+(us.length+1)=o+1+us.length by omega];exact this
theorem qI(k:Int)(w:World)(ho:aK w i' a n cap ts)(k0:0≤k)(k1:k≤10000000000000)(hn:n≤1048576):
  Calls prog 153 #[.slice a n cap,.int .i64 k] w fun e w'=>e=.returned (.int .i64 (k+(n:Int)*3))∧aK w' i' a n cap (M.mkt k n)∧w.grownBy w' (Value.slice a n cap).ownBlock:=by
 have HO:=Hd (ho);have HL:=Hd (ho.1);have La:(n:Int)≤cap:=(by have:=ho.sees.le;omega);clear ho;go_enter func153,ntmps153;go_wp2
 go_loopw [1,5] (fun q i wr=>∃j:Nat,j≤n∧i=it j∧q=it (k+(j:Int)*3)∧aK wr i' a n cap (M.mkt k j++ts.drop j)∧w.grownBy wr (Value.slice a n cap).ownBlock) (fun _ i _=>n-(intOf i).toNat)
 case atStart=>exact⟨0,by omega,rfl,by simp,HO.o,World.grownBy.refl _ _⟩
 case round=>
  obtain⟨j,hj,rfl,rfl,Fa,Ga⟩:=hrel;have Aa:=Hd (Fa);have Ha:=Hd (Ga);clear Fa Ga HO;by_cases Ba:j<n
  ·
   obtain⟨g,rfl⟩:=Aa.o.block (by omega);have hI:(j:Int)<(n:Int):=(by omega);have Ca:=Aa.o.cells Ba (show 0<3 by omega);have Da:=Aa.o.cells Ba (show 1<3 by omega);have Ea:=Aa.o.cells Ba (show 2<3 by omega);generalize(M.mkt k j++ts.drop j).getD j M.t0=tq at Ca Da Ea;obtain⟨d,x,y⟩:=tq;have Na:IntKind.i64.wrap (k+(j:Int)*3)=k+(j:Int)*3:=bg (by omega) (by omega);have Oa:IntKind.i64.wrap (k+(j:Int)*3+1)=k+(j:Int)*3+1:=bg (by omega) (by omega);have Pa:IntKind.i64.wrap (k+(j:Int)*3+1+1)=k+(j:Int)*3+1+1:=bg (by omega) (by omega);have Qa:IntKind.i64.wrap (k+(j:Int)*3+1+1+1)=k+(j:Int)*3+1+1+1:=bg (by omega) (by omega);have e0:wr.cell? ⟨g,j*3,none⟩=some (.bool d):=Ca;have f0:wr.frozen? ⟨g,j*3,none⟩=false:=Aa.o.2.frozenAt _;have e1:wr.cell? ⟨g,j*3+1,none⟩=some (it x):=Da;have f1:wr.frozen? ⟨g,j*3+1,none⟩=false:=Aa.o.2.frozenAt _;have e2:wr.cell? ⟨g,j*3+2,none⟩=some (it y):=Ea;have f2:wr.frozen? ⟨g,j*3+2,none⟩=false:=Aa.o.2.frozenAt _;clear Ca Da Ea;have Ra:(wr.setCell ⟨g,j*3,none⟩ (.bool (k%3==0))).cell? ⟨g,j*3+1,none⟩=some (it x):=(iH _ _ _ _ _ (by omega)).trans e1;have Sa:(wr.setCell ⟨g,j*3,none⟩ (.bool (k%3==0))).frozen? ⟨g,j*3+1,none⟩=false:=(by simpa using f1);have Ia:(wr.setCell ⟨g,j*3,none⟩ (.bool (k%3==0))).cell? ⟨g,j*3+2,none⟩=some (it y):=(iH _ _ _ _ _ (by omega)).trans e2;have Ja:(wr.setCell ⟨g,j*3,none⟩ (.bool (k%3==0))).frozen? ⟨g,j*3+2,none⟩=false:=(by simpa using f2);have Ta:((wr.setCell ⟨g,j*3,none⟩ (.bool (k%3==0))).setCell ⟨g,j*3+1,none⟩ (it (k+(j:Int)*3+1))).cell? ⟨g,j*3+2,none⟩=some (it y):=(iH _ _ _ _ _ (by omega)).trans Ia;have Ua:((wr.setCell ⟨g,j*3,none⟩ (.bool (k%3==0))).setCell ⟨g,j*3+1,none⟩ (it (k+(j:Int)*3+1))).frozen? ⟨g,j*3+2,none⟩=false:=(by simpa using Ja);go_wp2;go_roundw
   case rel=>
    have hp:=Aa.o.put Ba (M.mkt1 (k%3==0) (k+(j:Int)*3));rw[M.mkt_step (by rw[HL.o];exact Ba)]at hp;exact⟨j+1,by omega,by go_num,congrArg (Value.int .i64) (by omega),hp.1,Ha.o.trans hp.2⟩
   case measure=>simp[intOf];omega
  ·
   have Ka:j=n:=(by omega);subst Ka;go_wp2;go_ret;have h:=Aa.o;rw[tC (by rw[HL.o];exact tr _),List.append_nil]at h;exact⟨rfl,h,Ha.o⟩
theorem qB(k:Int)(w:World)(hz:aY w a n cap (M.mkt k n))(k0:0≤k)(k1:k≤10000000000000)(hn:n≤1048576):
  Rq 154 #[.slice a n cap,.int .i64 k] w (.int .i64 (k+(n:Int)*3)):=by
 have HZ:=Hd (hz);have Da:(n:Int)≤cap:=(by have:=hz.le;omega);clear hz;go_enter func154,ntmps154;go_wp2
 go_loop [1,5] (fun q i=>∃j:Nat,j≤n∧i=it j∧q=it (k+(j:Int)*3)) (fun _ i=>n-(intOf i).toNat)
 case atStart=>exact⟨0,by omega,rfl,by simp⟩
 case round=>
  obtain⟨j,hj,rfl,rfl⟩:=hrel;by_cases Aa:j<n
  ·
   obtain⟨b1,o1,rfl,Ba⟩:=HZ.o.at (by omega);have c0:w.cell? ⟨b1,o1+j*3,none⟩=some (.bool (k%3==0)):=(by have:=Ba j Aa 0 (by omega);rw[M.mkt_get k n j Aa]at this;exact this);have c1:w.cell? ⟨b1,o1+j*3+1,none⟩=some (it (k+(j:Int)*3+1)):=(by have:=Ba j Aa 1 (by omega);rw[M.mkt_get k n j Aa]at this;exact this);have c2:w.cell? ⟨b1,o1+j*3+2,none⟩=some (it (k+(j:Int)*3+1+1)):=(by have:=Ba j Aa 2 (by omega);rw[M.mkt_get k n j Aa]at this;exact this);have Ea:IntKind.i64.wrap (k+(j:Int)*3)=k+(j:Int)*3:=bg (by omega) (by omega);have Fa:IntKind.i64.wrap (k+(j:Int)*3+1)=k+(j:Int)*3+1:=bg (by omega) (by omega);have Ga:IntKind.i64.wrap (k+(j:Int)*3+1+1)=k+(j:Int)*3+1+1:=bg (by omega) (by omega);have Ha:((k%3==0) != (k%3==0))=false:=(by simp);have Ia:(k+(j:Int)*3+1 != k+(j:Int)*3+1)=false:=(by simp);have Ja:(k+(j:Int)*3+1+1 != k+(j:Int)*3+1+1)=false:=(by simp);have hI:(j:Int)<(n:Int):=(by omega);clear Ba;go_wp2
   go_round
   case rel=>exact⟨j+1,by omega,by go_num,congrArg (Value.int .i64) (by omega)⟩
   case measure=>simp[intOf];omega
  ·
   have Ca:j=n:=(by omega);subst Ca;go_wp2;go_ret;exact⟨rfl,rfl⟩
def s7(w:World)(i':Nat)(ab:Option Addr)(nb cb:Nat)(bs:List Int)(aj:Option Addr)(nj cj:Nat)(qs:List MQ)(k:Int)(j:Nat)(kj:Int)(wr:World):Prop:=
 0≤kj∧kj≤k+(j:Int)*3145745∧∃qs':List MQ,aF wr i' ab nb cb bs aj nj cj qs'∧M.ffJ j kj qs'=M.mkJ k qs∧M.endJ kj (qs'.drop j)=M.endJ k qs∧bj ab aj qs'=bj ab aj qs∧(∀i,j≤i→(qs'.getD i q0).1.ts.length≤1048576)∧bC (bj ab aj qs) w wr
def dw(k:Int):Nat→List Value
 | 0=>[]
 | n+1=>dw k n++[it (M.up k n)]
theorem mw(k:Int):∀n,(dw k n).length=n
 | 0=>rfl
 | n+1=>by rw[dw,t7,mw k n];rfl
theorem bF(g:Nat)(w:World)(o:Nat)(k:Int)(n:Nat):(w.setCells g o (dw k n)).setCells g (o+n) [.int .i64 (M.up k n)]=w.setCells g o (dw k (n+1)):=by
 have h:=eF g (dw k n) w o (it (M.up k n));rw[mw]at h;exact h
theorem aW(h0:0≤k)(h1:k≤5000000000000)(n:Nat)(hn:n≤20):IntKind.i64.wrap (M.up k n)=M.up k n:=by
 rw[M.up_eq];exact bg (by omega) (by omega)
theorem mH(q:MQ)(h:j≠i):(qs.set j q).getD i q0=qs.getD i q0:=by
 rw[tu,List.getElem?_set_ne h,←tu]
theorem iZ(q:MQ)(h:i<qs.length):(qs.set i q).getD i q0=q:=by
 rw[tu,List.getElem?_set_self h];rfl
theorem lI(h:i<qs.length)(q:MQ):q∈qs.set i q:=List.mem_iff_getElem.2 ⟨i,by simpa using h,by simp⟩
theorem aF.jblock(H:aF w i' ab nb cb bs aj nj cj qs)(h0:0<nj):∃g,aj=some ⟨g,0,none⟩:=by
 rcases H.j.2 with⟨_,e⟩ | ⟨g,cap,cur,e,_⟩
 ·omega
 ·simp only[Value.slice.injEq]at e;exact⟨g,e.1⟩
set_option maxRecDepth 10000 in
theorem qH(k:Int)(w:World)(H:aF w i' ab nb cb bs aj nj cj qs)(k0:0≤k)(k1:k≤1000000000000)(hn:nj≤1048576)(ht:∀i,(qs.getD i q0).1.ts.length≤1048576):
  Calls prog 85 #[.slice aj nj cj,.int .i64 k] w fun e w'=>e=.returned (.int .i64 (M.endJ k qs))∧aF w' i' ab nb cb bs aj nj cj (M.mkJ k qs)∧bC (bj ab aj qs) w w':=by
 have H0:H9 (s7 w i' ab nb cb bs aj nj cj qs k 0 k w):=⟨k0,by omega,qs,H,rfl,rfl,rfl,fun i _=>ht i,bC.refl _ _⟩;have Qc:(nj:Int)≤cj:=(by have:=H.sees.j.le;omega);clear ht H;go_enter func85,ntmps85;go_wp2
 go_loopw [1,5] (fun q i wr=>∃(j:Nat) (kj:Int),j≤nj∧i=it j∧q=it kj∧s7 w i' ab nb cb bs aj nj cj qs k j kj wr) (fun _ i _=>nj-(intOf i).toNat)
 case atStart=>exact⟨0,k,by omega,rfl,rfl,H0.o⟩
 case round=>
  clear H0;obtain⟨j,kj,hj,rfl,rfl,Da,Rc,Ba,hM,hF,hE,Hb,hT,hS⟩:=hrel;have HF:=Hd (hF);have HE:=Hd (hE);have HT:=Hd (hT);have HS:=Hd (hS);have Ib:=Hd (Hb);have Ca:=Hd (hM);have Ga:H9 (Ba.length=nj):=hM.jl;clear hM hF hE hT hS Hb;by_cases Aa:j<nj
  ·
   obtain⟨g,rfl⟩:=Ca.o.jblock (by omega);have hI:(j:Int)<(nj:Int):=(by omega);have Ea:kj≤5000000000000:=(by omega);have Vb:IntKind.i64.wrap (kj)=kj:=aW Da Ea 0 (by decide);have Wb:IntKind.i64.wrap (kj+1)=kj+1:=aW Da Ea 1 (by decide);have Xb:IntKind.i64.wrap (kj+1+1)=kj+1+1:=aW Da Ea 2 (by decide);have Yb:IntKind.i64.wrap (kj+1+1+1)=kj+1+1+1:=aW Da Ea 3 (by decide);have Zb:IntKind.i64.wrap (kj+1+1+1+1)=kj+1+1+1+1:=aW Da Ea 4 (by decide);have Ac:IntKind.i64.wrap (kj+1+1+1+1+1)=kj+1+1+1+1+1:=aW Da Ea 5 (by decide);have Bc:IntKind.i64.wrap (kj+1+1+1+1+1+1)=kj+1+1+1+1+1+1:=aW Da Ea 6 (by decide);have Cc:IntKind.i64.wrap (kj+1+1+1+1+1+1+1)=kj+1+1+1+1+1+1+1:=aW Da Ea 7 (by decide);have Dc:IntKind.i64.wrap (kj+1+1+1+1+1+1+1+1)=kj+1+1+1+1+1+1+1+1:=aW Da Ea 8 (by decide);have Ec:IntKind.i64.wrap (kj+1+1+1+1+1+1+1+1+1)=kj+1+1+1+1+1+1+1+1+1:=aW Da Ea 9 (by decide);have Fc:IntKind.i64.wrap (kj+1+1+1+1+1+1+1+1+1+1)=kj+1+1+1+1+1+1+1+1+1+1:=aW Da Ea 10 (by decide);have Gc:IntKind.i64.wrap (kj+1+1+1+1+1+1+1+1+1+1+1)=kj+1+1+1+1+1+1+1+1+1+1+1:=aW Da Ea 11 (by decide);have Hc:IntKind.i64.wrap (kj+1+1+1+1+1+1+1+1+1+1+1+1)=kj+1+1+1+1+1+1+1+1+1+1+1+1:=aW Da Ea 12 (by decide);have Ic:IntKind.i64.wrap (kj+1+1+1+1+1+1+1+1+1+1+1+1+1)=kj+1+1+1+1+1+1+1+1+1+1+1+1+1:=aW Da Ea 13 (by decide);have Jc:IntKind.i64.wrap (kj+1+1+1+1+1+1+1+1+1+1+1+1+1+1)=kj+1+1+1+1+1+1+1+1+1+1+1+1+1+1:=aW Da Ea 14 (by decide);have Kc:IntKind.i64.wrap (kj+1+1+1+1+1+1+1+1+1+1+1+1+1+1+1)=kj+1+1+1+1+1+1+1+1+1+1+1+1+1+1+1:=aW Da Ea 15 (by decide);have Lc:IntKind.i64.wrap (kj+1+1+1+1+1+1+1+1+1+1+1+1+1+1+1+1)=kj+1+1+1+1+1+1+1+1+1+1+1+1+1+1+1+1:=aW Da Ea 16 (by decide);have Nc:IntKind.i64.wrap (kj+1+1+1+1+1+1+1+1+1+1+1+1+1+1+1+1+1)=kj+1+1+1+1+1+1+1+1+1+1+1+1+1+1+1+1+1:=aW Da Ea 17 (by decide);have Ka:H9 (wr.setCells g (j*18) (dw kj 0)=wr):=rfl;(go_wp2_with(with_reducible refine aw ?_ ?_;rfl));refine j6 2 g (j*18) (it (M.up kj 0)) ?_ ⟨rfl,rfl,rfl,by kernel_rfl,_,_,rfl,by kernel_rfl,by kernel_rfl⟩ ?_;rw[←Ka.o];exact Ca.o.after (p:=0) Aa (by decide) _ _;generalize hv:wr.setCells g (j*18) [it (M.up kj 0)]=v1;have La:H9 (wr.setCells g (j*18) (dw kj 1)=v1):=(by rw[←hv,←Ka.o];exact(bF g wr (j*18) kj 0).symm);clear hv;clear Ka;(go_wp2_with(with_reducible refine aw ?_ ?_;rfl));refine j6 2 g (j*18+1) (it (M.up kj 1)) ?_ ⟨rfl,rfl,rfl,by kernel_rfl,_,_,rfl,by kernel_rfl,by kernel_rfl⟩ ?_;rw[←La.o];exact Ca.o.after (p:=1) Aa (by decide) _ _;generalize hv:v1.setCells g (j*18+1) [it (M.up kj 1)]=v2;have Na:H9 (wr.setCells g (j*18) (dw kj 2)=v2):=(by rw[←hv,←La.o];exact(bF g wr (j*18) kj 1).symm);clear hv;clear La;(go_wp2_with(with_reducible refine aw ?_ ?_;rfl));refine j6 2 g (j*18+2) (it (M.up kj 2)) ?_ ⟨rfl,rfl,rfl,by kernel_rfl,_,_,rfl,by kernel_rfl,by kernel_rfl⟩ ?_;rw[←Na.o];exact Ca.o.after (p:=2) Aa (by decide) _ _;generalize hv:v2.setCells g (j*18+2) [it (M.up kj 2)]=v3;have Oa:H9 (wr.setCells g (j*18) (dw kj 3)=v3):=(by rw[←hv,←Na.o];exact(bF g wr (j*18) kj 2).symm);clear hv;clear Na;(go_wp2_with(with_reducible refine aw ?_ ?_;rfl));refine j6 2 g (j*18+3) (it (M.up kj 3)) ?_ ⟨rfl,rfl,rfl,by kernel_rfl,_,_,rfl,by kernel_rfl,by kernel_rfl⟩ ?_;rw[←Oa.o];exact Ca.o.after (p:=3) Aa (by decide) _ _;generalize hv:v3.setCells g (j*18+3) [it (M.up kj 3)]=v4;have Pa:H9 (wr.setCells g (j*18) (dw kj 4)=v4):=(by rw[←hv,←Oa.o];exact(bF g wr (j*18) kj 3).symm);clear hv;clear Oa;(go_wp2_with(with_reducible refine aw ?_ ?_;rfl));refine j6 2 g (j*18+4) (it (M.up kj 4)) ?_ ⟨rfl,rfl,rfl,by kernel_rfl,_,_,rfl,by kernel_rfl,by kernel_rfl⟩ ?_;rw[←Pa.o];exact Ca.o.after (p:=4) Aa (by decide) _ _;generalize hv:v4.setCells g (j*18+4) [it (M.up kj 4)]=v5;have Qa:H9 (wr.setCells g (j*18) (dw kj 5)=v5):=(by rw[←hv,←Pa.o];exact(bF g wr (j*18) kj 4).symm);clear hv;clear Pa;(go_wp2_with(with_reducible refine aw ?_ ?_;rfl));refine j6 2 g (j*18+5) (it (M.up kj 5)) ?_ ⟨rfl,rfl,rfl,by kernel_rfl,_,_,rfl,by kernel_rfl,by kernel_rfl⟩ ?_;rw[←Qa.o];exact Ca.o.after (p:=5) Aa (by decide) _ _;generalize hv:v5.setCells g (j*18+5) [it (M.up kj 5)]=v6;have Ra:H9 (wr.setCells g (j*18) (dw kj 6)=v6):=(by rw[←hv,←Qa.o];exact(bF g wr (j*18) kj 5).symm);clear hv;clear Qa;(go_wp2_with(with_reducible refine aw ?_ ?_;rfl));refine j6 2 g (j*18+6) (it (M.up kj 6)) ?_ ⟨rfl,rfl,rfl,by kernel_rfl,_,_,rfl,by kernel_rfl,by kernel_rfl⟩ ?_;rw[←Ra.o];exact Ca.o.after (p:=6) Aa (by decide) _ _;generalize hv:v6.setCells g (j*18+6) [it (M.up kj 6)]=v7;have Sa:H9 (wr.setCells g (j*18) (dw kj 7)=v7):=(by rw[←hv,←Ra.o];exact(bF g wr (j*18) kj 6).symm);clear hv;clear Ra;(go_wp2_with(with_reducible refine aw ?_ ?_;rfl));refine j6 2 g (j*18+7) (it (M.up kj 7)) ?_ ⟨rfl,rfl,rfl,by kernel_rfl,_,_,rfl,by kernel_rfl,by kernel_rfl⟩ ?_;rw[←Sa.o];exact Ca.o.after (p:=7) Aa (by decide) _ _;generalize hv:v7.setCells g (j*18+7) [it (M.up kj 7)]=v8;have Ta:H9 (wr.setCells g (j*18) (dw kj 8)=v8):=(by rw[←hv,←Sa.o];exact(bF g wr (j*18) kj 7).symm);clear hv;clear Sa;(go_wp2_with(with_reducible refine aw ?_ ?_;rfl));refine j6 2 g (j*18+8) (it (M.up kj 8)) ?_ ⟨rfl,rfl,rfl,by kernel_rfl,_,_,rfl,by kernel_rfl,by kernel_rfl⟩ ?_;rw[←Ta.o];exact Ca.o.after (p:=8) Aa (by decide) _ _;generalize hv:v8.setCells g (j*18+8) [it (M.up kj 8)]=v9;have Ua:H9 (wr.setCells g (j*18) (dw kj 9)=v9):=(by rw[←hv,←Ta.o];exact(bF g wr (j*18) kj 8).symm);clear hv;clear Ta;(go_wp2_with(with_reducible refine aw ?_ ?_;rfl));refine j6 2 g (j*18+9) (it (M.up kj 9)) ?_ ⟨rfl,rfl,rfl,by kernel_rfl,_,_,rfl,by kernel_rfl,by kernel_rfl⟩ ?_;rw[←Ua.o];exact Ca.o.after (p:=9) Aa (by decide) _ _;generalize hv:v9.setCells g (j*18+9) [it (M.up kj 9)]=Jb;have Va:H9 (wr.setCells g (j*18) (dw kj 10)=Jb):=(by rw[←hv,←Ua.o];exact(bF g wr (j*18) kj 9).symm);clear hv;clear Ua;(go_wp2_with(with_reducible refine aw ?_ ?_;rfl));refine j6 2 g (j*18+10) (it (M.up kj 10)) ?_ ⟨rfl,rfl,rfl,by kernel_rfl,_,_,rfl,by kernel_rfl,by kernel_rfl⟩ ?_;rw[←Va.o];exact Ca.o.after (p:=10) Aa (by decide) _ _;generalize hv:Jb.setCells g (j*18+10) [it (M.up kj 10)]=Kb;have Wa:H9 (wr.setCells g (j*18) (dw kj 11)=Kb):=(by rw[←hv,←Va.o];exact(bF g wr (j*18) kj 10).symm);clear hv;clear Va;(go_wp2_with(with_reducible refine aw ?_ ?_;rfl));refine j6 2 g (j*18+11) (it (M.up kj 11)) ?_ ⟨rfl,rfl,rfl,by kernel_rfl,_,_,rfl,by kernel_rfl,by kernel_rfl⟩ ?_;rw[←Wa.o];exact Ca.o.after (p:=11) Aa (by decide) _ _;generalize hv:Kb.setCells g (j*18+11) [it (M.up kj 11)]=Lb;have Xa:H9 (wr.setCells g (j*18) (dw kj 12)=Lb):=(by rw[←hv,←Wa.o];exact(bF g wr (j*18) kj 11).symm);clear hv;clear Wa;(go_wp2_with(with_reducible refine aw ?_ ?_;rfl));refine j6 2 g (j*18+12) (it (M.up kj 12)) ?_ ⟨rfl,rfl,rfl,by kernel_rfl,_,_,rfl,by kernel_rfl,by kernel_rfl⟩ ?_;rw[←Xa.o];exact Ca.o.after (p:=12) Aa (by decide) _ _;generalize hv:Lb.setCells g (j*18+12) [it (M.up kj 12)]=Nb;have Ya:H9 (wr.setCells g (j*18) (dw kj 13)=Nb):=(by rw[←hv,←Xa.o];exact(bF g wr (j*18) kj 12).symm);clear hv;clear Xa;(go_wp2_with(with_reducible refine aw ?_ ?_;rfl));refine j6 2 g (j*18+13) (it (M.up kj 13)) ?_ ⟨rfl,rfl,rfl,by kernel_rfl,_,_,rfl,by kernel_rfl,by kernel_rfl⟩ ?_;rw[←Ya.o];exact Ca.o.after (p:=13) Aa (by decide) _ _;generalize hv:Nb.setCells g (j*18+13) [it (M.up kj 13)]=Ob;have Za:H9 (wr.setCells g (j*18) (dw kj 14)=Ob):=(by rw[←hv,←Ya.o];exact(bF g wr (j*18) kj 13).symm);clear hv;clear Ya;(go_wp2_with(with_reducible refine aw ?_ ?_;rfl));refine j6 2 g (j*18+14) (it (M.up kj 14)) ?_ ⟨rfl,rfl,rfl,by kernel_rfl,_,_,rfl,by kernel_rfl,by kernel_rfl⟩ ?_;rw[←Za.o];exact Ca.o.after (p:=14) Aa (by decide) _ _;generalize hv:Ob.setCells g (j*18+14) [it (M.up kj 14)]=Pb;have Ab:H9 (wr.setCells g (j*18) (dw kj 15)=Pb):=(by rw[←hv,←Za.o];exact(bF g wr (j*18) kj 14).symm);clear hv;clear Za;(go_wp2_with(with_reducible refine aw ?_ ?_;rfl));refine j6 2 g (j*18+15) (it (M.up kj 15)) ?_ ⟨rfl,rfl,rfl,by kernel_rfl,_,_,rfl,by kernel_rfl,by kernel_rfl⟩ ?_;rw[←Ab.o];exact Ca.o.after (p:=15) Aa (by decide) _ _;generalize hv:Pb.setCells g (j*18+15) [it (M.up kj 15)]=Qb;have Bb:H9 (wr.setCells g (j*18) (dw kj 16)=Qb):=(by rw[←hv,←Ab.o];exact(bF g wr (j*18) kj 15).symm);clear hv;clear Ab;generalize Rb:kj+1+1+1+1+1+1+1+1+1+1+1+1+1+1+1=Fa;have Ia:=Hd (Rb);clear Vb Wb Xb Yb Zb Ac Bc Cc Dc Ec Fc Gc Hc Ic Jc Kc Lc Nc;have Sc:0≤Fa:=(by clear Ia;omega);have Tc:Fa≤5000000000015:=(by clear Ia;omega);clear Rb;have Uc:IntKind.i64.wrap (Fa)=Fa:=bg (by omega) (by omega);have Vc:IntKind.i64.wrap (Fa+1)=Fa+1:=bg (by omega) (by omega);have Wc:IntKind.i64.wrap (Fa+1+1)=Fa+1+1:=bg (by omega) (by omega);(go_wp2_with(with_reducible refine aw ?_ ?_;rfl));refine j6 4 g (j*18+16) (.bool ((Fa+1)%3==0)) ?_ ⟨rfl,rfl,rfl,by kernel_rfl,_,_,rfl,by kernel_rfl,by kernel_rfl⟩ ?_;rw[←Bb.o];exact Ca.o.after (p:=16) Aa (by decide) _ _;generalize hv:Qb.setCells g (j*18+16) [.bool ((Fa+1)%3==0)]=Ha;have Sb:H9 (wr.setCells g (j*18) (dw kj 16++[.bool ((Fa+1)%3==0)])=Ha):=(by rw[←hv,←Bb.o];exact(eF g (dw kj 16) wr (j*18) _).symm);clear hv;clear Bb;have hJ:=Ca.o.job Aa (M.mkh kj (Ba.getD j q0).1.ts) (dw kj 16++[.bool ((M.up kj 15+1)%3==0)]) rfl (by generalize Ba.getD j q0=q;rfl) rfl;have Cb:=Sb.o;rw[←Ia.o]at Cb;rw[show wr.setCells g (j*18) (dw kj 16++[.bool ((M.up kj 15+1)%3==0)])=Ha from Cb]at hJ;clear Cb;have HJ:=Hd (hJ.1);have Oc:H9 (bC (bj ab (some ⟨g,0,none⟩) qs) w Ha):=HS.o.trans (bC.one hJ.2 (fun x e=>by have:=tm e;subst this;unfold bj;simp[ob]))
   have Ja:Ha.cell? ⟨g,j*18+17,none⟩=some (.slice (Ba.getD j q0).2.1 (Ba.getD j q0).1.ts.length (Ba.getD j q0).2.2):=by
    have:=HJ.o.jcell Aa (show 17<18 by omega);rw[iZ _ (by rw[Ga.o];exact Aa)]at this;exact this
   have Db:H9 (aK Ha i' (Ba.getD j q0).2.1 (Ba.getD j q0).1.ts.length (Ba.getD j q0).2.2 (Ba.getD j q0).1.ts):=HJ.o.t (M.mkh kj (Ba.getD j q0).1.ts,(Ba.getD j q0).2) (lI (by rw[Ga.o];exact Aa) _);have Eb:(Ba.getD j q0).1.ts.length≤1048576:=HT.o j (tr _);clear hJ Sb Ca HS;obtain⟨qj,HQ⟩:∃qj,H9 (Ba.getD j q0=qj):=⟨_,rfl⟩;rw[HQ.o]at Ja Db Eb HJ;obtain⟨jb,ta,tc⟩:=qj;generalize Tb:jb.ts.length=tn at Ja Eb Db;have Fb:=Hd (Tb);clear Tb;dsimp only at Ja;(go_wp2_with fail);refine(qI _ _ Db.o (by omega) (by omega) Eb).mono ?_;rintro e wx ⟨rfl,ho,hg⟩;have HO:=Hd (ho);have HG:=Hd (hg);have Xc:IntKind.i64.wrap (Fa+1+1+(tn:Int)*3)=Fa+1+1+(tn:Int)*3:=bg (by omega) (by omega);clear ho hg Ja;go_wp2;go_roundw
   case rel=>
    obtain rfl:=Ia.o;have hL:j<Ba.length:=(by rw[Ga.o];exact Aa);have Yc:j<(Ba.set j (M.mkh kj jb.ts,ta,tc)).length:=(by rw[List.length_set];exact hL);have e1:=iZ (qs:=Ba) (i:=j) (M.mkh kj jb.ts,ta,tc) hL
    have h1:aF wx i' ab nb cb bs (some ⟨g,0,none⟩) nj cj (Ba.set j (M.mk1 kj (jb,ta,tc))):=by
     have h:=HJ.o.tasks (w':=wx) (n:=tn) (c:=tc) Aa (ts:=M.mkt (kj+1+1+1+1+1+1+1+1+1+1+1+1+1+1+1+1+1) tn) (by rw[e1,M.mkt_len];exact Fb.o.symm) (by rw[e1];exact HG.o) (by rw[e1,M.mkt_len];exact HO.o);rw[e1,List.set_set]at h;have e2:M.mk1 kj (jb,ta,tc)=(M.mkh kj (M.mkt (kj+1+1+1+1+1+1+1+1+1+1+1+1+1+1+1+1+1) tn),ta,tc):=(by rw[←Fb.o];rfl);rw[e2];exact h
    have hN:M.mkN kj (Ba.getD j q0)=kj+1+1+1+1+1+1+1+1+1+1+1+1+1+1+1+1+1+(tn:Int)*3:=(by rw[HQ.o,←Fb.o];rfl);have Gb:=M.ffJ_in (k:=kj) hL;have Ub:=M.endJ_in (k:=kj) hL (M.mk1 kj (jb,ta,tc));rw[hN]at Gb Ub;rw[HQ.o]at Gb;refine⟨j+1,_,by omega,by go_num,rfl,by omega,by omega,Ba.set j (M.mk1 kj (jb,ta,tc)),h1,Gb.trans HF.o,Ub.trans HE.o,(dL _ hL (by rw[HQ.o];rfl)).trans Ib.o,fun i hi=>?_,Oc.o.trans (bC.one HG.o (fun x e=>?_))⟩
    ·rw[mH _ (by omega)];exact HT.o i (by omega)
    ·
     rw[←Ib.o];unfold bj;simp only[tI];refine .inr (.inr (tU.2 ⟨Ba.getD j q0,?_,?_⟩))
     ·rw[tu,tw hL];simp
     ·rw[HQ.o];exact aZ e
   case measure=>simp[intOf];omega
  ·
   have Pc:j=nj:=(by omega);subst Pc;go_wp2;go_ret;have h1:=HE.o;rw[M.endJ_end (by rw[Ga.o];exact tr _)]at h1;have h2:=HF.o;rw[M.ffJ_end (by rw[Ga.o];exact tr _)]at h2;exact⟨congrArg (fun x=>Ending.returned (it x)) h1,by rw[←h2];exact Ca.o,HS.o⟩
section
open Go.ChangeShapes Go.WideShapes
theorem sJ{l:List Value}(h:l.length=27):∃a0 a1 a2 a3 a4 a5 a6 a7 a8 a9 a10 a11 a12 a13 a14 a15 a16 a17 a18 a19 a20 a21 a22 a23 a24 a25 a26,l=[a0,a1,a2,a3,a4,a5,a6,a7,a8,a9,a10,a11,a12,a13,a14,a15,a16,a17,a18,a19,a20,a21,a22,a23,a24,a25,a26]:=by
 rcases l with _ | ⟨a0,l⟩
 ·simp at h
 rcases l with _ | ⟨a1,l⟩
 ·simp at h
 rcases l with _ | ⟨a2,l⟩
 ·simp at h
 rcases l with _ | ⟨a3,l⟩
 ·simp at h
 rcases l with _ | ⟨a4,l⟩
 ·simp at h
 rcases l with _ | ⟨a5,l⟩
 ·simp at h
 rcases l with _ | ⟨a6,l⟩
 ·simp at h
 rcases l with _ | ⟨a7,l⟩
 ·simp at h
 rcases l with _ | ⟨a8,l⟩
 ·simp at h
 rcases l with _ | ⟨a9,l⟩
 ·simp at h
 rcases l with _ | ⟨a10,l⟩
 ·simp at h
 rcases l with _ | ⟨a11,l⟩
 ·simp at h
 rcases l with _ | ⟨a12,l⟩
 ·simp at h
 rcases l with _ | ⟨a13,l⟩
 ·simp at h
 rcases l with _ | ⟨a14,l⟩
 ·simp at h
 rcases l with _ | ⟨a15,l⟩
 ·simp at h
 rcases l with _ | ⟨a16,l⟩
 ·simp at h
 rcases l with _ | ⟨a17,l⟩
 ·simp at h
 rcases l with _ | ⟨a18,l⟩
 ·simp at h
 rcases l with _ | ⟨a19,l⟩
 ·simp at h
 rcases l with _ | ⟨a20,l⟩
 ·simp at h
 rcases l with _ | ⟨a21,l⟩
 ·simp at h
 rcases l with _ | ⟨a22,l⟩
 ·simp at h
 rcases l with _ | ⟨a23,l⟩
 ·simp at h
 rcases l with _ | ⟨a24,l⟩
 ·simp at h
 rcases l with _ | ⟨a25,l⟩
 ·simp at h
 rcases l with _ | ⟨a26,l⟩
 ·simp at h
 rcases l with _ | ⟨z,l⟩
 ·exact⟨a0,a1,a2,a3,a4,a5,a6,a7,a8,a9,a10,a11,a12,a13,a14,a15,a16,a17,a18,a19,a20,a21,a22,a23,a24,a25,a26,rfl⟩
 ·simp at h
set_option maxRecDepth 10000 in
theorem open_mact{H:Type}{enc:TypeId×Value→H}{W:World}{v:Value}{d:DataW H}{p:List MemPlace}(ho:Value.okWide prog W .any i' 73 v)(h:DataW.Trod enc prog W 0 (fun _=>true) true 73 v d p):
  ∃(te id p' l' s' m0 m1 m2 m3 m4 m5 m6 m7 m8 m9 m10 m11 t1 t2 p1 p2 p3 p4:Int) (a1:Option Addr) (n1 c1:Nat) (z1:List Int) (a2:Option Addr) (n2 c2:Nat) (z2:List Int) (a3:Option Addr) (n3 c3:Nat) (z3:List Int) (a4:Option Addr) (n4 c4:Nat) (z4:List Int),
   v=.agg #[.int .i64 te,.int .i64 id,.int .i64 p',.int .i64 l',.int .i64 s',.int .i64 m0,.int .i64 m1,.int .i64 m2,.int .i64 m3,.int .i64 m4,.int .i64 m5,.int .i64 m6,.int .i64 m7,.int .i64 m8,.int .i64 m9,.int .i64 m10,.int .i64 m11,.int .i64 t1,.int .i64 t2,.int .i64 p1,.int .i64 p2,.int .i64 p3,.int .i64 p4,.slice a1 n1 c1,.slice a2 n2 c2,.slice a3 n3 c3,.slice a4 n4 c4]∧ah W a1 n1 c1 z1∧ah W a2 n2 c2 z2∧ah W a3 n3 c3 z3∧ah W a4 n4 c4 z4:=by
 simp only[Value.okWide,underlying73]at ho;obtain⟨cs,rfl,Aa,-⟩:=ho;have ce:prog.cellsOf 73=27:=(by kernel_rfl);rw[ce]at Aa;obtain⟨l⟩:=cs;obtain⟨Ba,hf⟩:=h;have hf:DataW.trod enc prog W 0 (fun _=>true) true Ba 73 l=some (d,p):=hf;have hl:l.length=27:=Aa;have P0:=hC hf 27 (by omega);obtain⟨te,g0,-⟩:=(P0.field underlying73 0 _ rfl 1 (by kernel_rfl) (by decide)).int underlying2;obtain⟨id,g1,-⟩:=(P0.field underlying73 1 _ rfl 1 (by kernel_rfl) (by decide)).int underlying2;obtain⟨p',g2,-⟩:=(P0.field underlying73 2 _ rfl 1 (by kernel_rfl) (by decide)).int underlying2;obtain⟨l',g3,-⟩:=(P0.field underlying73 3 _ rfl 1 (by kernel_rfl) (by decide)).int underlying2;obtain⟨s',g4,-⟩:=(P0.field underlying73 4 _ rfl 1 (by kernel_rfl) (by decide)).int underlying2;have PM:=(P0.field underlying73 5 _ rfl 12 (by kernel_rfl) (by decide));have PX:=(PM.field underlying68 0 _ rfl 6 (by kernel_rfl) (by decide));have PY:=(PM.field underlying68 1 _ rfl 6 (by kernel_rfl) (by decide));have PS:=(P0.field underlying73 6 _ rfl 2 (by kernel_rfl) (by decide));have PP:=(P0.field underlying73 7 _ rfl 8 (by kernel_rfl) (by decide));have PB:=(PP.field underlying71 0 _ rfl 2 (by kernel_rfl) (by decide));have PE:=(PP.field underlying71 1 _ rfl 2 (by kernel_rfl) (by decide));obtain⟨m0,g5,-⟩:=(PX.field underlying66 0 _ rfl 1 (by kernel_rfl) (by decide)).int underlying2;obtain⟨m1,g6,-⟩:=(PX.field underlying66 1 _ rfl 1 (by kernel_rfl) (by decide)).int underlying2;obtain⟨m2,g7,-⟩:=(PX.field underlying66 2 _ rfl 1 (by kernel_rfl) (by decide)).int underlying2;obtain⟨m3,g8,-⟩:=(PX.field underlying66 3 _ rfl 1 (by kernel_rfl) (by decide)).int underlying2;obtain⟨m4,g9,-⟩:=(PX.field underlying66 4 _ rfl 1 (by kernel_rfl) (by decide)).int underlying2;obtain⟨m5,Ca,-⟩:=(PX.field underlying66 5 _ rfl 1 (by kernel_rfl) (by decide)).int underlying2;obtain⟨m6,Da,-⟩:=(PY.field underlying66 0 _ rfl 1 (by kernel_rfl) (by decide)).int underlying2;obtain⟨m7,Ea,-⟩:=(PY.field underlying66 1 _ rfl 1 (by kernel_rfl) (by decide)).int underlying2;obtain⟨m8,Fa,-⟩:=(PY.field underlying66 2 _ rfl 1 (by kernel_rfl) (by decide)).int underlying2;obtain⟨m9,Ga,-⟩:=(PY.field underlying66 3 _ rfl 1 (by kernel_rfl) (by decide)).int underlying2;obtain⟨m10,Ha,-⟩:=(PY.field underlying66 4 _ rfl 1 (by kernel_rfl) (by decide)).int underlying2;obtain⟨m11,Ia,-⟩:=(PY.field underlying66 5 _ rfl 1 (by kernel_rfl) (by decide)).int underlying2;obtain⟨t1,Ja,-⟩:=(PS.field underlying69 0 _ rfl 1 (by kernel_rfl) (by decide)).int underlying2;obtain⟨t2,Ka,-⟩:=(PS.field underlying69 1 _ rfl 1 (by kernel_rfl) (by decide)).int underlying2;obtain⟨p1,La,-⟩:=(PB.field underlying69 0 _ rfl 1 (by kernel_rfl) (by decide)).int underlying2;obtain⟨p2,Na,-⟩:=(PB.field underlying69 1 _ rfl 1 (by kernel_rfl) (by decide)).int underlying2;obtain⟨p3,Oa,-⟩:=(PE.field underlying69 0 _ rfl 1 (by kernel_rfl) (by decide)).int underlying2;obtain⟨p4,Pa,-⟩:=(PE.field underlying69 1 _ rfl 1 (by kernel_rfl) (by decide)).int underlying2;obtain⟨v0,Qa,u0⟩:=(PP.field underlying71 2 _ rfl 1 (by kernel_rfl) (by decide)).whole (by rw[hl];decide);obtain⟨v1,Ra,u1⟩:=(PP.field underlying71 3 _ rfl 1 (by kernel_rfl) (by decide)).whole (by rw[hl];decide);obtain⟨v2,Sa,u2⟩:=(PP.field underlying71 4 _ rfl 1 (by kernel_rfl) (by decide)).whole (by rw[hl];decide);obtain⟨v3,Ta,u3⟩:=(PP.field underlying71 5 _ rfl 1 (by kernel_rfl) (by decide)).whole (by rw[hl];decide);obtain⟨a1,n1,c1,z1,rfl,h1⟩:=eN u0;obtain⟨a2,n2,c2,z2,rfl,h2⟩:=eN u1;obtain⟨a3,n3,c3,z3,rfl,h3⟩:=eN u2;obtain⟨a4,n4,c4,z4,rfl,h4⟩:=eN u3;clear u0 u1 u2 u3 PM PX PY PS PP PB PE P0 hf;obtain⟨x0,x1,x2,x3,x4,x5,x6,x7,x8,x9,Ua,Va,Wa,Xa,Ya,Za,Ab,Bb,Cb,Db,Eb,Fb,Gb,Hb,Ib,Jb,Kb,rfl⟩:=sJ hl;obtain rfl:=tm (show some x0=some _ from g0);obtain rfl:=tm (show some x1=some _ from g1);obtain rfl:=tm (show some x2=some _ from g2);obtain rfl:=tm (show some x3=some _ from g3);obtain rfl:=tm (show some x4=some _ from g4);obtain rfl:=tm (show some x5=some _ from g5);obtain rfl:=tm (show some x6=some _ from g6);obtain rfl:=tm (show some x7=some _ from g7);obtain rfl:=tm (show some x8=some _ from g8);obtain rfl:=tm (show some x9=some _ from g9);obtain rfl:=tm (show some Ua=some _ from Ca);obtain rfl:=tm (show some Va=some _ from Da);obtain rfl:=tm (show some Wa=some _ from Ea);obtain rfl:=tm (show some Xa=some _ from Fa);obtain rfl:=tm (show some Ya=some _ from Ga);obtain rfl:=tm (show some Za=some _ from Ha);obtain rfl:=tm (show some Ab=some _ from Ia);obtain rfl:=tm (show some Bb=some _ from Ja);obtain rfl:=tm (show some Cb=some _ from Ka);obtain rfl:=tm (show some Db=some _ from La);obtain rfl:=tm (show some Eb=some _ from Na);obtain rfl:=tm (show some Fb=some _ from Oa);obtain rfl:=tm (show some Gb=some _ from Pa);obtain rfl:=tm (show some Hb=some _ from Qa);obtain rfl:=tm (show some Ib=some _ from Ra);obtain rfl:=tm (show some Jb=some _ from Sa);obtain rfl:=tm (show some Kb=some _ from Ta);exact⟨te,id,p',l',s',m0,m1,m2,m3,m4,m5,m6,m7,m8,m9,m10,m11,t1,t2,p1,p2,p3,p4,a1,n1,c1,z1,a2,n2,c2,z2,a3,n3,c3,z3,a4,n4,c4,z4,rfl,h1,h2,h3,h4⟩
end
end Go.Proofs.YtjcjonncaknhnaaGreatDoor
