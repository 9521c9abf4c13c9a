import Derived.Deep.CutRange
import Derived.Test.YtobnifjhikoleaaGreatDoorPk25
import Derived.Test.YtobnifjhikoleaaGreatDoorPk24
import Derived.Test.YtobnifjhikoleaaGreatDoorPk29
import Derived.Test.YtobnifjhikoleaaGreatDoorPk32
namespace Go.Proofs.YtobnifjhikoleaaGreatDoor
open Go.RowKit Go.Proofs.Tryz
set_option linter.unusedSimpArgs false
set_option maxHeartbeats 32000000
variable {w:World}{len cap b o:Nat}{vs:List Value}{ca:Option Addr}{zs:List Int}{js:List M.Jb}
theorem gX:iX:=sU.h ⟨gC.h ⟨qp⟩ ⟨sV⟩ ⟨qj⟩ ⟨rU⟩ ⟨qn⟩⟩
theorem Rd.base{w0 w1:World}{R:Nat}{a:Option Addr}(h:Rd w1 R a len cap w)(hb:m1 w0 w1):Rd w0 R a len cap w:=⟨hb.trans (h.below.mono hb.size),m9 hb.size h.lo,h.hi,h.cb,h.cp,h.fr⟩
theorem li{P:Program}{fn:Func}{p q:Tmp}{ty tz:TypeId}(h:fn.results=#[.cell p ty,.cell q tz]){tmps:Array Value}{ad ae:Addr}{v u:Value}(hp:tmps.getD p undef=.pointer (some ad))(hq:tmps.getD q undef=.pointer (some ae))
 (hl:(loadVar ty ad).run P w=.ok v w)(hm:(loadVar tz ae).run P w=.ok u w):(results fn tmps).run P w=.ok (.tuple #[v,u]) w:=by
 have hp':tmps[p]?.getD undef=.pointer (some ad):=(by simpa using hp);have hq':tmps[q]?.getD undef=.pointer (some ae):=(by simpa using hq);simp[results,h,hp',hq',asAddr,hl,hm]
theorem au.whole{W:World}{us:List Value}(h:au W b vs)(hl:vs.length=us.length):au (W.setCells b 0 us) b us:=by
 have:=au.setCells us 0 h (by omega)
 rwa[rK hl.symm]at this
def uf(w:World)(e:Ending)(w':World):Prop:=∃(now uN:Int) (ab:Option Addr) (nb cb:Nat) (bs:List Int) (aj:Option Addr) (nj cj:Nat) (js:List M.Jb) (t' id s' l' tr m0 J L T Y U Z m7 Q V A I t1 t2 p1 p2 p3 p4:Int) (a1 a2 a3 a4:Option Addr) (n1 n2 n3 n4 c1 c2 c3 c4:Nat) (z1 z2 z3 z4:List Int),
 e=.returned (.tuple #[.agg #[.int .i64 now,.int .i64 uN,.slice ab nb cb,.slice aj nj cj],.agg #[.int .i64 t',.int .i64 id,.int .i64 s',.int .i64 l',.int .i64 tr,.int .i64 m0,.int .i64 J,.int .i64 L,.int .i64 T,.int .i64 Y,.int .i64 U,.int .i64 Z,.int .i64 m7,.int .i64 Q,.int .i64 V,.int .i64 A,.int .i64 I,.int .i64 t1,.int .i64 t2,.int .i64 p1,.int .i64 p2,.int .i64 p3,.int .i64 p4,.slice a1 n1 c1,.slice a2 n2 c2,.slice a3 n3 c3,.slice a4 n4 c4]])∧co w' ab nb cb aj nj cj bs js∧(aw w' a1 n1 c1 z1∧aw w' a2 n2 c2 z2∧aw w' a3 n3 c3 z3∧aw w' a4 n4 c4 z4)∧(n1≤64∧n2≤64∧n3≤64∧n4≤64)∧m1 w w'
set_option maxRecDepth 10000 in
theorem kO(w:World)(hrow:Row .u8 w ca len cap zs):
  Calls prog 5 #[.slice ca len cap] w (uf w):=by
 have Va:m1 w ((w.alloc (.cells aV.toArray 27)).alloc (.cells (bN 0).toArray 37)):=((m5 _ _).alloc (m3 _) _).alloc (by simp) _;have Wa:=Hd hrow;have Pa:=Hd Va;have Qa:H9 (au ((w.alloc (.cells aV.toArray 27)).alloc (.cells (bN 0).toArray 37)) w.heap.size aV):=(aM _ _ _).alloc _;have Ra:H9 (au ((w.alloc (.cells aV.toArray 27)).alloc (.cells (bN 0).toArray 37)) (w.heap.size+1) (bN 0)):=aZ _ _ _ _;have Oa:((w.alloc (.cells aV.toArray 27)).alloc (.cells (bN 0).toArray 37)).heap.size=w.heap.size+1+1:=(by simp);clear Va hrow;go_enter func5,ntmps5;(go_wp2_with fail);refine(s9 _).mono ?_;rintro e w1 ⟨rfl,Ja⟩;rw[Oa];rw[Oa]at Ja;generalize((w.alloc (.cells aV.toArray 27)).alloc (.cells (bN 0).toArray 37))=wb at Ja Pa Qa Ra Oa;have Xa:=Hd (Qa.o.belowS Ja.below);have Ya:=Hd (Ra.o.belowS Ja.below);have Sa:=Hd (Ja.base Pa.o);clear Ja Pa Qa Ra Oa;(go_wp2_with fail);refine(oT gX w (w.heap.size+1+1) ca len cap zs Wa.o 12 (by decide) (by decide) _ Sa.o).mono ?_;rintro e w2 ⟨Aa,Ba,ab,nb,cb,bs,aj,nj,cj,qs,rfl,hO,Za,Ib,hr,hg⟩;have Ab:=Sa.o.hi;have Bb:=Hd (Xa.o.grown hg (by simp;omega));have Cb:=Hd (Ya.o.grown hg (by simp));have Db:H9 (aW w2 ((w.heap.size+1+1)+1) ab nb cb bs aj nj cj qs):=hO.mono Ab;have Ta:=Hd hr;have Jb:=Hd Za;clear hO Za hr hg Xa Ya Sa Ab;have Ka:=fh w2 (.cells (aI Aa Ba ab nb cb aj nj cj).toArray 27);have Ua:=cC w2 (aI Aa Ba ab nb cb aj nj cj) 27;have Eb:=Bb.b Ka;have Fb:=Cb.b Ka;have Gb:=Hd (Db.o.below Ka);have Hb:=Hd (Ta.o.grow Ka);have Kb:=Ta.o.hi;clear Ka Bb Cb Db Ta;(go_wp2_with fail);generalize(w2.alloc (.cells (aI Aa Ba ab nb cb aj nj cj).toArray 27))=w3 at *;generalize w2.heap.size=mb at Ua Kb ⊢;obtain⟨TB,Ca⟩:∃TB:World→List Value→List Value→Prop,H9 (∀W x y,TB W x y↔(Rd w (w.heap.size+1+1) ca len cap W∧au W mb (aI Aa Ba ab nb cb aj nj cj)∧aW W ((w.heap.size+1+1)+1) ab nb cb bs aj nj cj qs∧au W w.heap.size x∧au W (w.heap.size+1) y)):=⟨_,fun _ _ _=>Iff.rfl⟩;have T3:=Hd ((Ca.o _ _ _).2 (by have hbd:m1 w3 w3.drew:=(m5 _ _).drew;exact⟨Hb.o.grow hbd,Ua.o.belowS hbd,Gb.o.below hbd,Eb.o.belowS hbd,Fb.o.belowS hbd⟩));clear Hb Ua Gb Eb Fb
 have CA:H9 (∀W x y,x.length=4→TB W x y→TB (W.setCells w.heap.size 0 (aI Aa Ba ab nb cb aj nj cj)) (aI Aa Ba ab nb cb aj nj cj) y):=fun W x y hx h=>by
  obtain⟨h1,h2,h3,h4,h5⟩:=(Ca.o _ _ _).1 h;have hg:=ct W w.heap.size 0 (aI Aa Ba ab nb cb aj nj cj);exact(Ca.o _ _ _).2 ⟨h1.cells (m3 _) (by omega) _,h2.grown hg (by simp;omega),h3.grown hg (fun g hm e=>by have:=(h3.lt g hm).1;have:=m2 e;omega),h4.whole hx,h5.grown hg (by simp)⟩
 have CV:H9 (∀W x y z,y.length=z.length→TB W x y→TB (W.setCells (w.heap.size+1) 0 z) x z):=fun W x y z hy h=>by
  obtain⟨h1,h2,h3,h4,h5⟩:=(Ca.o _ _ _).1 h;have hg:=ct W (w.heap.size+1) 0 z;exact(Ca.o _ _ _).2 ⟨h1.cells (by omega) (by omega) _,h2.grown hg (by simp;omega),h3.grown hg (fun g hm e=>by have:=(h3.lt g hm).1;have:=m2 e;omega),h4.grown hg (by simp),h5.whole hy⟩
 have CR:H9 (∀W W' x y,Rd w (w.heap.size+1+1) ca len cap W'→W.grownBy W' (some (w.heap.size+1+1))→TB W x y→TB W' x y):=fun W W' x y hr hg h=>by
  obtain⟨h1,h2,h3,h4,h5⟩:=(Ca.o _ _ _).1 h;exact(Ca.o _ _ _).2 ⟨hr,h2.grown hg (by simp;omega),h3.grown hg (fun g hm e=>by have:=(h3.lt g hm).1;have:=m2 e;omega),h4.grown hg (by simp;omega),h5.grown hg (by simp)⟩
 refine wp_region_noPanic ?_;refine wp_region_held_drew (S:=fun W=>au W mb (aI Aa Ba ab nb cb aj nj cj)) (by kernel_rfl) (((Ca.o _ _ _).1 T3.o).2.1) (fun hHeld=>?_);generalize w3.drew=wd at *
 refine wpAnyH_take (i:=0) (v:=.agg (aI Aa Ba ab nb cb aj nj cj).toArray) rfl (by kernel_rfl) (by kernel_rfl) (by kernel_rfl) (fun _ _ _ h=>h) (uZ (by kernel_rfl) 27 (.tmp 5) rfl mb 0 rfl (aI Aa Ba ab nb cb aj nj cj) _ (fun W h=>h.row) underlying27 rfl (by kernel_rfl)) (by assumption) ?_;refine tk 1 (.pointer (some ⟨w.heap.size+1+1,0,none⟩)) ?_ ?_
 ·intro wq Nb;go_simp
 refine wpAnyH_take (i:=2) (v:=.agg (aI Aa Ba ab nb cb aj nj cj).toArray) rfl (by kernel_rfl) (by kernel_rfl) (by kernel_rfl) (fun _ _ _ h=>h) (uZ (by kernel_rfl) 27 (.tmp 5) rfl mb 0 rfl (aI Aa Ba ab nb cb aj nj cj) _ (fun W h=>h.row) underlying27 rfl (by kernel_rfl)) (by assumption) ?_;refine aX 3 fun Kk hK=>?_;go_simp;refine(iP w (w.heap.size+1+1) ca len cap zs Wa.o ((w.heap.size+1+1)+1) ab aj nb cb nj cj bs qs Aa Ba _ (((Ca.o _ _ _).1 T3.o).2.2.1) (Nat.lt_succ_self _) Jb.o Ib (((Ca.o _ _ _).1 T3.o).1)).mono ?_;rintro e we ⟨Da,id,Ea,Fa,Ga,m0,J,L,T,Y,U,Z,m7,Q,V,Ha,Ia,t1,t2,p1,p2,p3,p4,a1,a2,a3,a4,n1,n2,n3,n4,c1,c2,c3,c4,z1,z2,z3,z4,rfl,hs,hl,La,hr,hg⟩;go_simp;have TC:=Hd (CR.o _ _ _ _ hr hg T3.o);have Lb:=(((Ca.o _ _ _).1 T3.o).1).hi;have HS:=Hd hs;have HL:=Hd hl;have HF:H9 (∀k,k<w.heap.size+1+1→(∀q,a1=some q→some k≠some q.block)∧(∀q,a2=some q→some k≠some q.block)∧(∀q,a3=some q→some k≠some q.block)∧(∀q,a4=some q→some k≠some q.block)):=fun k hk=>⟨fun q hq e=>by have:=La.1 q hq;have:=m2 e;omega,fun q hq e=>by have:=La.2.1 q hq;have:=m2 e;omega,fun q hq e=>by have:=La.2.2.1 q hq;have:=m2 e;omega,fun q hq e=>by have:=La.2.2.2 q hq;have:=m2 e;omega⟩;refine hK.out _ _ (((Ca.o _ _ _).1 TC.o).2.1) (fun hzz=>?_);clear hK Kk hs hl La hr hg Lb T3;refine aX 4 fun Kk hK=>?_;rw[if_pos (by kernel_rfl)];with_reducible refine wp_store_mid 27 (.tmp 2) (.tmp 10) ?_ w.heap.size 0 ((aI Aa Ba ab nb cb aj nj cj):List Value).toArray ?_ ?_ ?_ (by kernel_rfl) (by kernel_rfl) ?_
 ·exact rfl
 ·kernel_rfl
 ·kernel_rfl
 ·exact((Ca.o _ _ _).1 TC.o).2.2.2.1.there 0 4 (by simp)
 have TD:=Hd (CA.o _ aV _ rfl TC.o);have Na:H9 (aw (we.setCells w.heap.size 0 (aI Aa Ba ab nb cb aj nj cj)) a1 n1 c1 z1∧aw (we.setCells w.heap.size 0 (aI Aa Ba ab nb cb aj nj cj)) a2 n2 c2 z2∧aw (we.setCells w.heap.size 0 (aI Aa Ba ab nb cb aj nj cj)) a3 n3 c3 z3∧aw (we.setCells w.heap.size 0 (aI Aa Ba ab nb cb aj nj cj)) a4 n4 c4 z4):=(by have hg:we.grownBy (we.setCells w.heap.size 0 (aI Aa Ba ab nb cb aj nj cj)) (some w.heap.size):=a8 (World.grownBy.refl _ _) 0 _;have hf:=HF.o w.heap.size (by omega);exact⟨HS.o.1.grownR hg hf.1,HS.o.2.1.grownR hg hf.2.1,HS.o.2.2.1.grownR hg hf.2.2.1,HS.o.2.2.2.grownR hg hf.2.2.2⟩);clear HS;have HS:=Na;clear Na;refine hK.out _ _ (((Ca.o _ _ _).1 TD.o).2.1) (fun hzz=>?_);clear hK Kk TC;generalize(we.setCells w.heap.size 0 (aI Aa Ba ab nb cb aj nj cj))=wf at *;refine aX 5 fun Kk hK=>?_;rw[if_pos (by kernel_rfl)];with_reducible refine wp_store_mid 37 (.tmp 3) (.tmp 13) ?_ (w.heap.size+1) 0 ((bH Da id Ea Fa Ga m0 J L T Y U Z m7 Q V Ha Ia t1 t2 p1 p2 p3 p4 a1 n1 c1 a2 n2 c2 a3 n3 c3 a4 n4 c4):List Value).toArray ?_ ?_ ?_ (by kernel_rfl) (by kernel_rfl) ?_
 ·exact rfl
 ·kernel_rfl
 ·kernel_rfl
 ·exact((Ca.o _ _ _).1 TD.o).2.2.2.2.there 0 27 (by simp)
 have TE:H9 (TB (wf.setCells (w.heap.size+1) 0 (bH Da id Ea Fa Ga m0 J L T Y U Z m7 Q V Ha Ia t1 t2 p1 p2 p3 p4 a1 n1 c1 a2 n2 c2 a3 n3 c3 a4 n4 c4)) (aI Aa Ba ab nb cb aj nj cj) (bH Da id Ea Fa Ga m0 J L T Y U Z m7 Q V Ha Ia t1 t2 p1 p2 p3 p4 a1 n1 c1 a2 n2 c2 a3 n3 c3 a4 n4 c4)):=CV.o _ _ (bN 0) _ rfl TD.o;have Na:H9 (aw (wf.setCells (w.heap.size+1) 0 (bH Da id Ea Fa Ga m0 J L T Y U Z m7 Q V Ha Ia t1 t2 p1 p2 p3 p4 a1 n1 c1 a2 n2 c2 a3 n3 c3 a4 n4 c4)) a1 n1 c1 z1∧aw (wf.setCells (w.heap.size+1) 0 (bH Da id Ea Fa Ga m0 J L T Y U Z m7 Q V Ha Ia t1 t2 p1 p2 p3 p4 a1 n1 c1 a2 n2 c2 a3 n3 c3 a4 n4 c4)) a2 n2 c2 z2∧aw (wf.setCells (w.heap.size+1) 0 (bH Da id Ea Fa Ga m0 J L T Y U Z m7 Q V Ha Ia t1 t2 p1 p2 p3 p4 a1 n1 c1 a2 n2 c2 a3 n3 c3 a4 n4 c4)) a3 n3 c3 z3∧aw (wf.setCells (w.heap.size+1) 0 (bH Da id Ea Fa Ga m0 J L T Y U Z m7 Q V Ha Ia t1 t2 p1 p2 p3 p4 a1 n1 c1 a2 n2 c2 a3 n3 c3 a4 n4 c4)) a4 n4 c4 z4):=(by have hg:wf.grownBy (wf.setCells (w.heap.size+1) 0 (bH Da id Ea Fa Ga m0 J L T Y U Z m7 Q V Ha Ia t1 t2 p1 p2 p3 p4 a1 n1 c1 a2 n2 c2 a3 n3 c3 a4 n4 c4)) (some (w.heap.size+1)):=a8 (World.grownBy.refl _ _) 0 _;have hf:=HF.o (w.heap.size+1) (by omega);exact⟨HS.o.1.grownR hg hf.1,HS.o.2.1.grownR hg hf.2.1,HS.o.2.2.1.grownR hg hf.2.2.1,HS.o.2.2.2.grownR hg hf.2.2.2⟩);clear HS;have HS:=Na;clear Na;refine hK.out _ _ (((Ca.o _ _ _).1 TE.o).2.1) (fun hzz=>?_);clear hK Kk TD;generalize(wf.setCells (w.heap.size+1) 0 (bH Da id Ea Fa Ga m0 J L T Y U Z m7 Q V Ha Ia t1 t2 p1 p2 p3 p4 a1 n1 c1 a2 n2 c2 a3 n3 c3 a4 n4 c4))=wg at *;refine bg ?_;go_simp;(go_wp2_with fail);obtain⟨h1,h2,h3,h4,h5⟩:=(Ca.o _ _ _).1 TE.o;exact m8 (li rfl rfl rfl (u' wg w.heap.size 0 27 _ _ h4.row underlying27 rfl (by kernel_rfl)) (u' wg (w.heap.size+1) 0 37 _ _ h5.row underlying37 rfl (by kernel_rfl))) rfl ⟨Aa,Ba,ab,nb,cb,bs,aj,nj,cj,_,Da,id,Ea,Fa,Ga,m0,J,L,T,Y,U,Z,m7,Q,V,Ha,Ia,t1,t2,p1,p2,p3,p4,a1,a2,a3,a4,n1,n2,n3,n4,c1,c2,c3,c4,z1,z2,z3,z4,rfl,h3.sees,HS.o,HL.o,h1.below⟩
theorem aW.seesR{i':Nat}{ab:Option Addr}{nb cb:Nat}{bs:List Int}{aj:Option Addr}{nj cj:Nat}{qs:List MQ}(H:aW w i' ab nb cb bs aj nj cj qs)(hq:qs.map (·.1)=js):co w ab nb cb aj nj cj bs js:=by subst hq;exact H.sees
theorem eB.rowAt{n:Nat}(h:eB w (some ⟨b,o,none⟩) n cap js){i:Nat}(hi:i<n):∃(ta:Option Addr) (tc:Nat),w.rangeAt b (o+i*18) (ed (js.getD i M.j0) ta tc)∧bR w ta (js.getD i M.j0).ts.length tc (js.getD i M.j0).ts:=by
 obtain⟨b',o',e,hc⟩:=h.at (by omega);have e:=m2 e;injection e with e1 e2;subst e1 e2;obtain⟨ta,tc,h1,h2⟩:=hc i hi;exact⟨ta,tc,bF rfl h1,h2⟩
theorem sv(h:w.rangeAt b o vs)(k n:Nat):w.rangeAt b (o+k) ((vs.drop k).take n):=fun j v hv=>by
 rw[List.getElem?_take]at hv
 split at hv
 ·
  rw[List.getElem?_drop]at hv;have:=h _ v hv
  rwa[←Nat.add_assoc]at this
 ·cases hv
set_option maxRecDepth 10000 in
theorem fnMarket_any{aL aN aG aE aR:Addr}(w:World)(he:EnvX w aL aN aG aE aR)(hrow:Row .u8 w ca len cap zs):
  Rt 3 #[.slice ca len cap] w (.bool true):=by
 have Kc:(len:Int)≤9223372036854775807:=by
  rcases hrow with⟨_,rfl,_⟩ | ⟨x,_,h1,h2,_⟩
  ·simp
  ·unfold maxLen at h2;omega
 by_cases Sb:(1048576:Int)<(len:Int)
 ·
  go_enter func3,ntmps3;(go_wp2_with fail);refine(rC _ _ _ _).mono ?_;rintro e w' ⟨rfl,rfl⟩;go_wp2;go_ret;exact⟨rfl,m5 _ _⟩
 have Lc:decide ((1048576:Int)<(len:Int))=false:=(by simpa using Sb);have Tb:=Hd hrow;have HE:=Hd he;clear hrow Sb he;go_enter func3,ntmps3;(go_wp2_with fail);refine(rC _ _ _ _).mono ?_;rintro e wz ⟨rfl,Ub⟩;have Nc:=Ub.symm;clear Ub;subst Nc;(go_wp2_with fail);refine(kO w Tb.o).mono ?_;rintro e w1 ⟨Ea,Fa,ab,nb,cb,bs,aj,nj,cj,js,Ca,id,Da,Ga,Ha,m0,J,L,T,Y,U,Z,m7,Q,V,Ia,Ja,t1,t2,p1,p2,p3,p4,a1,a2,a3,a4,n1,n2,n3,n4,c1,c2,c3,c4,z1,z2,z3,z4,rfl,hM,hS,⟨l1,l2,l3,l4⟩,hb⟩;have Pa:=Hd hb;have Za:=Hd (HE.o.below hb);have Oa:=Hd hM;obtain⟨R,HR⟩:∃R,H9 (ba Ea Fa bs js Ca id Da Ga Ha m0 J L T Y U Z m7 Q V Ia Ja t1 t2 p1 p2 p3 p4 n1 n2 n3 n4 z1 z2 z3 z4=R):=⟨_,rfl⟩;obtain⟨⟨N,X,BS,JS⟩,rc,rd⟩:=R
 have CI:H9 (∀W,m1 w1 W→Calls prog 6 #[.agg #[.int .i64 Ea,.int .i64 Fa,.slice ab nb cb,.slice aj nj cj],.agg #[.int .i64 Ca,.int .i64 id,.int .i64 Da,.int .i64 Ga,.int .i64 Ha,.int .i64 m0,.int .i64 J,.int .i64 L,.int .i64 T,.int .i64 Y,.int .i64 U,.int .i64 Z,.int .i64 m7,.int .i64 Q,.int .i64 V,.int .i64 Ia,.int .i64 Ja,.int .i64 t1,.int .i64 t2,.int .i64 p1,.int .i64 p2,.int .i64 p3,.int .i64 p4,.slice a1 n1 c1,.slice a2 n2 c2,.slice a3 n3 c3,.slice a4 n4 c4]] W (fun e w'=>∃xb xc xj xd,e=.returned (.tuple #[.agg #[.int .i64 N,.int .i64 X,.slice xb BS.length xc,.slice xj JS.length xd],.int .i64 rc,.int .i64 rd])∧co w' xb BS.length xc xj JS.length xd BS JS∧m1 W w')):=fun W hb=>by
  have h:=kQ Ea Fa Ca id Da Ga Ha m0 J L T Y U Z m7 Q V Ia Ja t1 t2 p1 p2 p3 p4 W (hM.below hb) (by omega) (by omega) (by omega) (by omega) (Za.o.below hb) (hS.1.below hb) (hS.2.1.below hb) (hS.2.2.1.below hb) (hS.2.2.2.below hb);rw[HR.o]at h;exact h.mono (fun e w' ⟨v,he,xb,nx,xc,xj,mx,xd,qx,hv,hM,hq,hb⟩=>by have hs:=hM.seesR hq;have e1:=hs.b.len;have e2:=hs.j.len;subst hv;subst e1;subst e2;exact⟨xb,xc,xj,xd,he,hs,hb⟩)
 have CS:H9 (∀W,m1 w1 W→Calls prog 7 #[.agg #[.int .i64 Ea,.int .i64 Fa,.slice ab nb cb,.slice aj nj cj],.agg #[.int .i64 Ca,.int .i64 id,.int .i64 Da,.int .i64 Ga,.int .i64 Ha,.int .i64 m0,.int .i64 J,.int .i64 L,.int .i64 T,.int .i64 Y,.int .i64 U,.int .i64 Z,.int .i64 m7,.int .i64 Q,.int .i64 V,.int .i64 Ia,.int .i64 Ja,.int .i64 t1,.int .i64 t2,.int .i64 p1,.int .i64 p2,.int .i64 p3,.int .i64 p4,.slice a1 n1 c1,.slice a2 n2 c2,.slice a3 n3 c3,.slice a4 n4 c4]] W (fun e w'=>∃xb xc xj xd,e=.returned (.tuple #[.agg #[.int .i64 N,.int .i64 X,.slice xb BS.length xc,.slice xj JS.length xd],.int .i64 rc,.int .i64 rd])∧co w' xb BS.length xc xj JS.length xd BS JS∧m1 W w')):=fun W hb=>by
  have h:=gX ab aj nb cb nj cj bs js Ea Fa Ca id Da Ga Ha m0 J L T Y U Z m7 Q V Ia Ja t1 t2 p1 p2 p3 p4 a1 a2 a3 a4 n1 n2 n3 n4 c1 c2 c3 c4 z1 z2 z3 z4 W (hM.below hb) (hS.1.below hb) (hS.2.1.below hb) (hS.2.2.1.below hb) (hS.2.2.2.below hb) (by omega) (by omega) (by omega) (by omega);rw[HR.o]at h;exact h.mono (fun e w' ⟨v,he,xb,nx,xc,xj,mx,xd,qx,hv,hM,hq,hb⟩=>by have hs:=hM.seesR hq;have e1:=hs.b.len;have e2:=hs.j.len;subst hv;subst e1;subst e2;exact⟨xb,xc,xj,xd,he,hs,hb⟩)
 have Vb:H9 (rc≠1→∀W xb nx xc xj mx xd,co W xb nx xc xj mx xd BS JS→Rt 10 #[.agg (aI N X xb nx xc xj mx xd).toArray] W (.bool true)):=fun h W xb nx xc xj mx xd hs=>by
  have h1:=dJ N X W hs;rw[M.Right.ok (iy HR.o h).2]at h1;exact h1
 have Wb:H9 (rc≠1→∀i,i<js.length→(js.getD i M.j0).ts.length≤8):=fun h i hi=>((bQ (iy HR.o h).1).tasks _ (M.getD_mem hi)).2
 have Xb:H9 (rc≠1→(rc≠0→rc≠7→rd=0∧N=Ea∧X=Fa∧BS=bs∧JS=js)∧Ea≤N∧bs.length≤BS.length∧js.length≤JS.length∧∀i,i<js.length→(JS.getD i M.j0).ts.length=(js.getD i M.j0).ts.length∧∀k:Nat,k<(js.getD i M.j0).ts.length→((JS.getD i M.j0).ts.getD k M.t0).done=((js.getD i M.j0).ts.getD k M.t0).done∨(((js.getD i M.j0).ts.getD k M.t0).done=false∧((JS.getD i M.j0).ts.getD k M.t0).done=true)∧(Ca=3∧id=(js.getD i M.j0).id∧Da=k)∧rc=0∧∀W,m1 w1 W→Rt 9 #[cZ (js.getD i M.j0).m,.agg (bi p1 p2 p3 p4 a1 n1 c1 a2 n2 c2 a3 n3 c3 a4 n4 c4).toArray] W (.bool true)):=fun h=>by
  obtain⟨h1,h2,h3,h4,h5⟩:=sB HR.o h;refine⟨fun u v=>?_,h2,h3,h4,fun i hi=>⟨(h5 i hi).1,fun k hk=>?_⟩⟩
  ·
   have e:=h1 u v;injection e with e1 e2;injection e2 with _ e3;injection e1 with e4 e5 e6 e7;exact⟨e3,e4,e5,e6,e7⟩
  ·
   rcases(h5 i hi).2 k hk with e | ⟨e1,e2,e3,e4⟩
   ·exact .inl e
   ·
    refine .inr ⟨e1,e2,e3,fun W hb=>?_⟩;have:=fk (js.getD i M.j0).m p1 p2 p3 p4 W (Za.o.below hb) (hS.1.below hb) (hS.2.1.below hb) (hS.2.2.1.below hb) (hS.2.2.2.below hb);unfold cn at e4;simp only[vl]at e4;rw[e4.2.2]at this;exact this
 clear hM hS hb HE Tb Lc HR Za l1 l2 l3 l4 Kc;generalize Oc:BS.length=nx at CI CS;generalize Pc:JS.length=mx at CI CS;(go_wp2_with(with_reducible refine aA 3 ?_ ?_;rfl));refine rV 27 aV.toArray ⟨rfl,rfl,by kernel_rfl⟩ ?_;have La:=fh w1 (.cells aV.toArray 27);have LA:=cC w1 aV 27;have Ab:w1.heap.size<(w1.alloc (.cells aV.toArray 27)).heap.size:=(by simp);generalize(w1.alloc (.cells aV.toArray 27))=wa at *;have Bb:=Hd La;clear La;generalize Id:w1.heap.size=mb at LA Ab ⊢;(go_wp2_with(with_reducible refine aA 4 ?_ ?_;rfl));refine rV 37 (bN 0).toArray ⟨rfl,rfl,by kernel_rfl⟩ ?_;have La:=fh wa (.cells (bN 0).toArray 37);have LV:=cC wa (bN 0) 37;have Qc:wa.heap.size<(wa.alloc (.cells (bN 0).toArray 37)).heap.size:=(by simp);generalize(wa.alloc (.cells (bN 0).toArray 37))=wb at *;have Cb:=LA.b La;have Yb:=Bb.t La;clear La LA Bb;have Rc:mb<wa.heap.size:=Ab;generalize wa.heap.size=pb at LV Qc Rc ⊢;clear Ab;(go_wp2_with(with_reducible refine aF ?_ ?_;rfl));refine fB 27 mb 0 (aI Ea Fa ab nb cb aj nj cj) (Cb.o.there 0 4 (by simp)) ⟨rfl,by kernel_rfl,by kernel_rfl,_,_,rfl,by kernel_rfl,by kernel_rfl⟩ ?_;have Zb:H9 (au (wb.setCells mb 0 (aI Ea Fa ab nb cb aj nj cj)) mb (aI Ea Fa ab nb cb aj nj cj)):=Cb.o.setCells (aI Ea Fa ab nb cb aj nj cj) 0 (by simp);have Db:H9 (au (wb.setCells mb 0 (aI Ea Fa ab nb cb aj nj cj)) pb (bN 0)):=LV.o.farCells (aI Ea Fa ab nb cb aj nj cj) 0 (by omega);have Ac:H9 (m1 w1 (wb.setCells mb 0 (aI Ea Fa ab nb cb aj nj cj))):=aO _ 0 Yb.o (by omega);generalize wb.setCells mb 0 (aI Ea Fa ab nb cb aj nj cj)=wc at *;clear Cb LV Yb;(go_wp2_with(with_reducible refine aF ?_ ?_;rfl));refine fB 37 pb 0 (bH Ca id Da Ga Ha m0 J L T Y U Z m7 Q V Ia Ja t1 t2 p1 p2 p3 p4 a1 n1 c1 a2 n2 c2 a3 n3 c3 a4 n4 c4) (Db.o.there 0 27 (by simp)) ⟨rfl,by kernel_rfl,by kernel_rfl,_,_,rfl,by kernel_rfl,by kernel_rfl⟩ ?_;have Eb:H9 (au (wc.setCells pb 0 (bH Ca id Da Ga Ha m0 J L T Y U Z m7 Q V Ia Ja t1 t2 p1 p2 p3 p4 a1 n1 c1 a2 n2 c2 a3 n3 c3 a4 n4 c4)) mb (aI Ea Fa ab nb cb aj nj cj)):=Zb.o.farCells (bH Ca id Da Ga Ha m0 J L T Y U Z m7 Q V Ia Ja t1 t2 p1 p2 p3 p4 a1 n1 c1 a2 n2 c2 a3 n3 c3 a4 n4 c4) 0 (by omega);have Fb:H9 (au (wc.setCells pb 0 (bH Ca id Da Ga Ha m0 J L T Y U Z m7 Q V Ia Ja t1 t2 p1 p2 p3 p4 a1 n1 c1 a2 n2 c2 a3 n3 c3 a4 n4 c4)) pb (bH Ca id Da Ga Ha m0 J L T Y U Z m7 Q V Ia Ja t1 t2 p1 p2 p3 p4 a1 n1 c1 a2 n2 c2 a3 n3 c3 a4 n4 c4)):=Db.o.setCells (bH Ca id Da Ga Ha m0 J L T Y U Z m7 Q V Ia Ja t1 t2 p1 p2 p3 p4 a1 n1 c1 a2 n2 c2 a3 n3 c3 a4 n4 c4) 0 (by simp);have Va:H9 (m1 w1 (wc.setCells pb 0 (bH Ca id Da Ga Ha m0 J L T Y U Z m7 Q V Ia Ja t1 t2 p1 p2 p3 p4 a1 n1 c1 a2 n2 c2 a3 n3 c3 a4 n4 c4))):=aO _ 0 Ac.o (by omega);generalize wc.setCells pb 0 (bH Ca id Da Ga Ha m0 J L T Y U Z m7 Q V Ia Ja t1 t2 p1 p2 p3 p4 a1 n1 c1 a2 n2 c2 a3 n3 c3 a4 n4 c4)=wd at *;clear Zb Db Ac;(go_wp2_with(with_reducible refine aA 24 ?_ ?_;rfl));refine fu 27 mb 0 (aI Ea Fa ab nb cb aj nj cj) Eb.o.row underlying27 ⟨rfl,rfl,by kernel_rfl,_,rfl,by kernel_rfl⟩ ?_;(go_wp2_with(with_reducible refine aA 25 ?_ ?_;rfl));refine fu 37 pb 0 (bH Ca id Da Ga Ha m0 J L T Y U Z m7 Q V Ia Ja t1 t2 p1 p2 p3 p4 a1 n1 c1 a2 n2 c2 a3 n3 c3 a4 n4 c4) Fb.o.row underlying37 ⟨rfl,rfl,by kernel_rfl,_,rfl,by kernel_rfl⟩ ?_;(go_wp2_with fail);refine(CI.o _ Va.o).mono ?_;rintro e w2 ⟨xb,xc,xj,xd,rfl,hM,hb⟩;have SX:=Hd hM;have Bc:=Eb.b hb;have Cc:=Fb.b hb;have Gb:=Va.t hb;clear hM hb Eb Fb Va CI;(go_wp2_with(with_reducible refine aA 5 ?_ ?_;rfl));refine rV 27 aV.toArray ⟨rfl,rfl,by kernel_rfl⟩ ?_;have La:=fh w2 (.cells aV.toArray 27);have LX:=cC w2 aV 27;have Dc:w2.heap.size<(w2.alloc (.cells aV.toArray 27)).heap.size:=(by simp);generalize(w2.alloc (.cells aV.toArray 27))=Hb at *;(go_wp2_with(with_reducible refine aF ?_ ?_;rfl));refine fB 27 w2.heap.size 0 (aI N X xb nx xc xj mx xd) (LX.o.there 0 4 (by simp)) ⟨rfl,by kernel_rfl,by kernel_rfl,_,_,rfl,by kernel_rfl,by kernel_rfl⟩ ?_;have Na:m1 w2 (Hb.setCells w2.heap.size 0 (aI N X xb nx xc xj mx xd)):=aO _ 0 La (m3 _);have LN:H9 (au (Hb.setCells w2.heap.size 0 (aI N X xb nx xc xj mx xd)) w2.heap.size (aI N X xb nx xc xj mx xd)):=LX.o.setCells (aI N X xb nx xc xj mx xd) 0 (by simp);generalize Hb.setCells w2.heap.size 0 (aI N X xb nx xc xj mx xd)=w3 at *;clear LX La;have Ec:=Hd (SX.o.below Na);have Ib:=Bc.b Na;have Jb:=Cc.b Na;have Kb:=Gb.t Na;clear Na SX Bc Cc Gb;generalize w2.heap.size=nk at LN Dc ⊢;clear Dc;(go_wp2_with(with_reducible refine aA 31 ?_ ?_;rfl));refine fu 27 mb 0 (aI Ea Fa ab nb cb aj nj cj) Ib.o.row underlying27 ⟨rfl,rfl,by kernel_rfl,_,rfl,by kernel_rfl⟩ ?_;(go_wp2_with(with_reducible refine aA 32 ?_ ?_;rfl));refine fu 37 pb 0 (bH Ca id Da Ga Ha m0 J L T Y U Z m7 Q V Ia Ja t1 t2 p1 p2 p3 p4 a1 n1 c1 a2 n2 c2 a3 n3 c3 a4 n4 c4) Jb.o.row underlying37 ⟨rfl,rfl,by kernel_rfl,_,rfl,by kernel_rfl⟩ ?_;(go_wp2_with fail);obtain⟨TC,Aa⟩:∃TC:World→Prop,H9 (∀W,TC W↔(au W nk (aI N X xb nx xc xj mx xd)∧co W xb nx xc xj mx xd BS JS∧au W pb (bH Ca id Da Ga Ha m0 J L T Y U Z m7 Q V Ia Ja t1 t2 p1 p2 p3 p4 a1 n1 c1 a2 n2 c2 a3 n3 c3 a4 n4 c4)∧au W mb (aI Ea Fa ab nb cb aj nj cj)∧m1 w1 W)):=⟨_,fun _=>Iff.rfl⟩;have Ka:H9 (∀W W',TC W→m1 W W'→TC W'):=fun W W' h hb=>(Aa.o W').2 (by have h:=(Aa.o W).1 h;exact⟨h.1.belowS hb,h.2.1.below hb,h.2.2.1.belowS hb,h.2.2.2.1.belowS hb,h.2.2.2.2.trans (hb.mono h.2.2.2.2.size)⟩);have T3:H9 (TC w3):=(Aa.o _).2 ⟨LN.o,Ec.o,Jb.o,Ib.o,Kb.o⟩;refine(CS.o _ Kb.o).mono ?_;rintro e w4 ⟨yb,yc,yj,yd,rfl,hM,hb⟩;have SY:=Hd hM;have T4:H9 (TC w4):=Ka.o _ _ T3.o hb;clear hM hb LN Ec Jb Ib Kb T3 CS;(go_wp2_with(with_reducible refine aA 8 ?_ ?_;rfl));refine rV 27 aV.toArray ⟨rfl,rfl,by kernel_rfl⟩ ?_;have La:=fh w4 (.cells aV.toArray 27);have LX:=cC w4 aV 27;have Sc:w4.heap.size<(w4.alloc (.cells aV.toArray 27)).heap.size:=(by simp);generalize(w4.alloc (.cells aV.toArray 27))=Lb at *;(go_wp2_with(with_reducible refine aF ?_ ?_;rfl));refine fB 27 w4.heap.size 0 (aI N X yb nx yc yj mx yd) (LX.o.there 0 4 (by simp)) ⟨rfl,by kernel_rfl,by kernel_rfl,_,_,rfl,by kernel_rfl,by kernel_rfl⟩ ?_;have Na:m1 w4 (Lb.setCells w4.heap.size 0 (aI N X yb nx yc yj mx yd)):=aO _ 0 La (m3 _);have LY:H9 (au (Lb.setCells w4.heap.size 0 (aI N X yb nx yc yj mx yd)) w4.heap.size (aI N X yb nx yc yj mx yd)):=LX.o.setCells (aI N X yb nx yc yj mx yd) 0 (by simp);generalize Lb.setCells w4.heap.size 0 (aI N X yb nx yc yj mx yd)=w5 at *;clear LX La;have T5:H9 (TC w5):=Ka.o _ _ T4.o Na;have Nb:=Hd (SY.o.below Na);clear Na T4 SY Sc;generalize w4.heap.size=yk at LY ⊢;have Tc:(rc != rc)=false:=(by simp);have Uc:(rd != rd)=false:=(by simp);have hrc':(rc==rc)=true:=(by simp);have hrd':(rd==rd)=true:=(by simp);have x0:=((Aa.o _).1 T5.o).1.c 0;have x1:=((Aa.o _).1 T5.o).1.c 1;have x2:=((Aa.o _).1 T5.o).1.c 2;have x3:=((Aa.o _).1 T5.o).1.c 3;have y0:=LY.c 0;have y1:=LY.c 1;have y2:=LY.c 2;have y3:=LY.c 3;(go_wp2_with fail);refine(eH N X _ ((Aa.o _).1 T5.o).2.1 Nb.o).mono ?_;rintro e w6 ⟨rfl,hb⟩;have T6:H9 (TC w6):=Ka.o _ _ T5.o hb;have Sa:=LY.b hb;have Fc:=Hd (Nb.o.below hb);clear hb T5 LY Nb x0 x1 x2 x3 y0 y1 y2 y3;by_cases Qa:rc=1
 case pos=>
  have Vc:(rc==1)=true:=(by simp[Qa]);have x0:=((Aa.o _).1 T6.o).1.c 0;have x1:=((Aa.o _).1 T6.o).1.c 1;have x2:=((Aa.o _).1 T6.o).1.c 2;have x3:=((Aa.o _).1 T6.o).1.c 3;have y0:=Sa.c 0;have y1:=Sa.c 1;have y2:=Sa.c 2;have y3:=Sa.c 3;(go_wp2_with fail);refine(eH N X _ ((Aa.o _).1 T6.o).2.1 Fc.o).mono ?_;rintro e w7 ⟨rfl,hb⟩;have T7:H9 (TC w7):=Ka.o _ _ T6.o hb;go_wp2;go_ret;exact⟨by simp,Pa.o.trans (((Aa.o _).1 T7.o).2.2.2.2.mono Pa.o.size)⟩
 have Vc:(rc==1)=false:=(by simp[Qa]);obtain⟨KP,kN,kB,kJ,KK⟩:=Xb.o Qa;have Wc:=Vb.o Qa;have Xc:=Wb.o Qa;have HK:=Hd KK;clear Sa Fc Xb Vb Wb KK Qa Tc Uc hrc' hrd';by_cases Ta:rc≠0∧rc≠7
 case pos=>
  obtain⟨rfl,rfl,rfl,rfl,rfl⟩:=KP Ta.1 Ta.2;have hm:=Oa.o.below ((Aa.o _).1 T6.o).2.2.2.2;have e1:=hm.b.len;have e2:=hm.j.len;subst e1;subst e2;subst Oc;subst Pc;have h0:(rc != 0)=true:=(by simp[Ta.1]);have h7:(rc != 7)=true:=(by simp[Ta.2]);have x0:=((Aa.o _).1 T6.o).1.c 0;have x1:=((Aa.o _).1 T6.o).1.c 1;have x2:=((Aa.o _).1 T6.o).1.c 2;have x3:=((Aa.o _).1 T6.o).1.c 3;have y0:=((Aa.o _).1 T6.o).2.2.2.1.c 0;have y1:=((Aa.o _).1 T6.o).2.2.2.1.c 1;have y2:=((Aa.o _).1 T6.o).2.2.2.1.c 2;have y3:=((Aa.o _).1 T6.o).2.2.2.1.c 3;(go_wp2_with fail);refine(eH N X _ ((Aa.o _).1 T6.o).2.1 hm).mono ?_;rintro e w7 ⟨rfl,hb⟩;have T7:H9 (TC w7):=Ka.o _ _ T6.o hb;go_wp2;go_ret;exact⟨by simp,Pa.o.trans (((Aa.o _).1 T7.o).2.2.2.2.mono Pa.o.size)⟩
 have Yc:rc=0∨rc=7:=(by omega);clear KP Ta;have Jd:js.length=nj:=Oa.o.j.len;have Kd:bs.length=nb:=Oa.o.b.len;have Ld:(nj:Int)≤9223372036854775807:=(by have h:=Oa.o.j;have:=h.le;have:=h.big;omega);have Nd:(nj:Int)≤cj:=(by have h:=Oa.o.j.le;omega);have Od:(mx:Int)≤9223372036854775807:=(by have h:=((Aa.o _).1 T6.o).2.1.j;have:=h.le;have:=h.big;omega);have Pd:(mx:Int)≤xd:=(by have h:=((Aa.o _).1 T6.o).2.1.j.le;omega);have Qd:(nb:Int)≤9223372036854775807:=(by have h:=Oa.o.b;have:=h.le;have:=h.big;omega);have Rd:(nx:Int)≤9223372036854775807:=by have h:=((Aa.o _).1 T6.o).2.1.b;have:=h.le;have:=h.big;omega
 go_upto_region 8 with fail
 go_cut [73]from 68 to 187 (fun c wx=>c=.bool false∧wx=w6)
 case first=>
  rcases Yc with h | h
  ·
   have h0:(rc != 0)=false:=(by simp[h]);go_wp2
   go_meet
   case rel=>exact⟨rfl,rfl⟩
  ·
   have h0:(rc != 0)=true:=(by simp[h]);have h7:(rc != 7)=false:=(by simp[h]);go_wp2
   go_meet
   case rel=>exact⟨rfl,rfl⟩
 case rest=>
  obtain⟨rfl,rfl⟩:=hcut;go_wp2_with fail
  go_loopw [11] (fun x wr=>∃i:Nat,i≤nj∧x=it i∧TC wr) (fun x _=>nj-(intOf x).toNat)
  case atStart=>exact⟨0,by omega,rfl,T6.o⟩
  case round=>
   obtain⟨i,hi,rfl,hT⟩:=hrel;have HT:H9 (TC wr):=hT;clear hT T6;have T:=((Aa.o _).1 HT.o).2.2.2.1.c 3;by_cases Zc:i<nj
   case neg=>
    have Ad:¬ (i:Int)<(nj:Int):=(by omega);(go_wp2_with(with_reducible refine aA 170 ?_ ?_;rfl));refine fu 27 nk 0 (aI N X xb nx xc xj mx xd) ((Aa.o _).1 HT.o).1.row underlying27 ⟨rfl,rfl,by kernel_rfl,_,rfl,by kernel_rfl⟩ ?_;(go_wp2_with fail);refine(Wc wr xb nx xc xj mx xd ((Aa.o _).1 HT.o).2.1).mono ?_;rintro e ws ⟨rfl,hb⟩;have T7:H9 (TC ws):=Ka.o _ _ HT.o hb;clear hb HT T;have x0:=((Aa.o _).1 T7.o).1.c 0;have x2:=((Aa.o _).1 T7.o).1.c 2;have y0:=((Aa.o _).1 T7.o).2.2.2.1.c 0;have y2:=((Aa.o _).1 T7.o).2.2.2.1.c 2;have g1:decide (Ea≤N)=true:=(by simpa using kN);have g2:(nb:Int)≤(nx:Int):=(by omega);go_wp2;go_ret;exact⟨by simp,Pa.o.trans (((Aa.o _).1 T7.o).2.2.2.2.mono Pa.o.size)⟩
   case pos=>
    obtain⟨b1,o1,rfl,-⟩:=Oa.o.j.at (by omega);obtain⟨b3,o3,rfl,-⟩:=((Aa.o _).1 HT.o).2.1.j.at (by omega);obtain⟨ta,tc,hR,Ra⟩:=Oa.o.j.rowAt Zc;obtain⟨Wa,Xa⟩:=HK.o i (by omega);have h8:=Xc i (by omega);have Ad:(i:Int)<(nj:Int):=(by omega);have Sd:(0:Int)≤(i:Int):=(by omega);have Td:(i:Int)<(mx:Int):=(by omega);have Bd:i<mx:=(by omega);generalize js.getD i M.j0=cq at hR Ra Wa Xa h8;obtain⟨Ya,⟨⟨a,b,c',d,f,k⟩,⟨a',b',Ob,d',f',k'⟩⟩,⟨s1,s2⟩,jr,jg,tl⟩:=cq;dsimp only[ed,cZ,iV]at hR Ra Wa Xa h8;generalize Ud:tl.length=tn at hR Ra Wa Xa h8;have Gc:=Hd hR;have Hc:=Hd Ra
    have Vd:(tn:Int)≤tc:=(by have:=Ra.le;omega);have Wd:(tn:Int)≤9223372036854775807:=(by omega);clear hR Ra;(go_wp2_with fail);clear T
    go_loopw [12] (fun z wr=>∃k:Nat,k≤tn∧z=it k∧TC wr) (fun z _=>tn-(intOf z).toNat)
    case atStart=>exact⟨0,by omega,rfl,HT.o⟩
    case round=>
     obtain⟨q,hq,rfl,hT⟩:=hrel;clear HT;have HT:H9 (TC wr):=hT;clear hT;have T:=((Aa.o _).1 HT.o).2.2.2.1.c 3;have Pb:=dW Gc.o ((Aa.o _).1 HT.o).2.2.2.2;have Cd:=Pb 17 _ rfl;have c0:=Pb 0 _ rfl;simp only[Nat.add_zero]at c0;by_cases Qb:q<tn
     case neg=>
      have Dd:¬ (q:Int)<(tn:Int):=(by omega);go_wp2;go_roundw
      case rel=>exact⟨i+1,by omega,by go_num,HT.o⟩
      case measure=>simp[intOf];omega
     obtain⟨b2,o2,rfl,-⟩:=Hc.o.at (by omega);have cw:=((Hc.o.below ((Aa.o _).1 HT.o).2.2.2.2).three Qb).1;obtain⟨tb,td,Ic,Ua⟩:=((Aa.o _).1 HT.o).2.1.j.rowAt Bd;have Jc:=Ic 17 _ rfl;rw[Wa]at Ua Jc;obtain⟨b4,o4,rfl,-⟩:=Ua.at (by omega);have cv:=(Ua.three Qb).1;have Xd:(tn:Int)≤td:=(by have:=Ua.le;omega);have Dd:(q:Int)<(tn:Int):=(by omega);have Yd:(0:Int)≤(q:Int):=(by omega);have Rb:=Xa q Qb;clear Ic Ua;generalize(tl.getD q M.t0).done=D1 at cw Rb;generalize((JS.getD i M.j0).ts.getD q M.t0).done=D2 at cv Rb;have x3:=((Aa.o _).1 HT.o).1.c 3;have v0:=((Aa.o _).1 HT.o).2.2.1.c 0;have v1:=((Aa.o _).1 HT.o).2.2.1.c 1;have v2:=((Aa.o _).1 HT.o).2.2.1.c 2
     go_upto_region 18 with fail
     go_cut [15]from 88 to 169 (fun c wx=>(∃B,c=.bool B∧(Ca=3∧id=Ya∧Da=q→B=true))∧TC wx)
     case first=>
      by_cases e1:Ca=3
      case neg=>
       have f1:(Ca==3)=false:=by simp[e1]
       go_quiet (fail)
       go_wp2
       go_meet
       case rel=>exact⟨⟨_,rfl,fun h=>absurd h.1 e1⟩,Ka.o _ _ HT.o (Below.drewN' (m5 _ _) _)⟩
      have f1:(Ca==3)=true:=(by simp[e1]);by_cases e2:id=Ya
      case neg=>
       have f2:(id==Ya)=false:=by simp[e2]
       go_quiet (fail)
       go_wp2
       go_meet
       case rel=>exact⟨⟨_,rfl,fun h=>absurd h.2.1 e2⟩,Ka.o _ _ HT.o (Below.drewN' (m5 _ _) _)⟩
      have f2:(id==Ya)=true:=(by simp[e2]);by_cases e3:Da=q
      case neg=>
       have f3:(Da==(q:Int))=false:=by simp[e3]
       go_quiet (fail)
       go_wp2
       go_meet
       case rel=>exact⟨⟨_,rfl,fun h=>absurd h.2.2 e3⟩,Ka.o _ _ HT.o (Below.drewN' (m5 _ _) _)⟩
      have f3:(Da==(q:Int))=true:=by simp[e3]
      go_quiet (fail)
      go_wp2
      go_meet
      case rel=>exact⟨⟨_,rfl,fun _=>rfl⟩,Ka.o _ _ HT.o (Below.drewN' (m5 _ _) _)⟩
     case rest=>
      obtain⟨⟨B,rfl,hB⟩,hT⟩:=hcut;have T8:H9 (TC wc):=hT;clear hT HT T x3 v0 v1 v2 c0 Cd Jc cw cv Pb;go_wp2_with fail
      rcases Rb with rfl | ⟨⟨rfl,rfl⟩,hmi,hr0,CA⟩
      case inl=>
       have T9:∀n,TC (wc.drewN n):=fun n=>Ka.o _ _ T8.o (Below.drewN' (m5 _ _) _)
       cases D2
       all_goals
        go_quiet (fail)
        go_wp2;go_roundw
        case rel=>exact⟨q+1,by omega,by go_num,T9 _⟩
        case measure=>simp[intOf];omega
      case inr=>
       obtain rfl:B=true:=hB hmi;have Zd:(rc==0)=true:=(by simp[hr0]);clear hmi hr0 hB;refine wp_region_noPanic ?_;have T9:TC wc.drew:=Ka.o _ _ T8.o (m5 _ _).drew;refine wp_region_held_drew (S:=TC) (by kernel_rfl) T9 (fun hHeld=>?_);generalize wc.drew=wq at *;clear T8 T9;have Ed:H9 (∀W,TC W→W.rangeAt b1 (o1+i*18+1) (cr a b c' d f k a' b' Ob d' f' k')):=fun W h=>by have h2:=sv (dW Gc.o ((Aa.o _).1 h).2.2.2.2) 1 12;exact h2
       have Fd:H9 (∀W,TC W→W.rangeAt pb 19 (bi p1 p2 p3 p4 a1 n1 c1 a2 n2 c2 a3 n3 c3 a4 n4 c4)):=fun W h=>by have h2:=((Aa.o _).1 h).2.2.1.mid 19 8;exact h2
       refine tk 0 (.bool false) ?_ ?_
       ·intro wq Ba;go_simp
       refine tk 1 (.bool false) ?_ ?_
       ·intro wq Ba;go_simp
       refine sk 2 ?_;refine sk 3 ?_;refine tk 4 (.bool false) ?_ ?_
       ·intro wq Ba;go_simp
       refine tk 5 (.bool false) ?_ ?_
       ·intro wq Ba;go_simp
       refine tk 6 (.bool true) ?_ ?_
       ·intro wq Ba;go_simp
       refine tk 7 (.bool true) ?_ ?_
       ·intro wq Ba;go_simp
       refine tk 8 (.bool false) ?_ ?_
       ·intro wq Ba;go_simp
       refine tk 9 (.bool true) ?_ ?_
       ·intro wq Ba;go_simp
       refine tk 10 (.bool true) ?_ ?_
       ·intro wq Ba;go_simp
       refine tk 11 (.bool true) ?_ ?_
       ·intro wq Ba;go_simp
       refine tk 12 (.bool true) ?_ ?_
       ·intro wq Ba;go_simp
       refine tk 13 (.bool true) ?_ ?_
       ·intro wq Ba;go_simp
       refine tk 14 (it rc) ?_ ?_
       ·intro wq Ba;go_simp
       refine tk 15 (.bool true) ?_ ?_
       ·intro wq Ba;go_simp
       refine tk 16 (.bool true) ?_ ?_
       ·intro wq Ba;go_simp
       refine tk 17 (.bool true) ?_ ?_
       ·intro wq Ba;go_simp
       refine tk 18 (.pointer (some ⟨mb,3,none⟩)) ?_ ?_
       ·intro wq Ba;go_simp
       refine tk 19 (.slice (some ⟨b1,o1,none⟩) nj cj) ?_ ?_
       ·intro wp Gd;have c0:=((Aa.o _).1 Gd).2.2.2.1.c 3;go_simp
       refine tk 20 (it i) ?_ ?_
       ·intro wq Ba;go_simp
       refine tk 21 (.pointer (some ⟨b1,o1+i*18,none⟩)) ?_ ?_
       ·intro wq Ba;go_simp
       refine tk 22 (.pointer (some ⟨b1,o1+i*18+1,none⟩)) ?_ ?_
       ·intro wq Ba;go_simp
       refine wpAnyH_take (i:=23) (v:=.agg (cr a b c' d f k a' b' Ob d' f' k').toArray) rfl (by kernel_rfl) (by kernel_rfl) (by kernel_rfl) (fun _ _ _ h=>h) (uZ (by kernel_rfl) 31 (.tmp 161) rfl b1 (o1+i*18+1) (by kernel_rfl) (cr a b c' d f k a' b' Ob d' f' k') _ (Ed.o) underlying31 rfl (by kernel_rfl)) (by assumption) ?_;refine tk 24 (.pointer (some ⟨pb,19,none⟩)) ?_ ?_
       ·intro wq Ba;go_simp
       refine wpAnyH_take (i:=25) (v:=.agg (bi p1 p2 p3 p4 a1 n1 c1 a2 n2 c2 a3 n3 c3 a4 n4 c4).toArray) rfl (by kernel_rfl) (by kernel_rfl) (by kernel_rfl) (fun _ _ _ h=>h) (uZ (by kernel_rfl) 35 (.tmp 163) rfl pb 19 (by kernel_rfl) (bi p1 p2 p3 p4 a1 n1 c1 a2 n2 c2 a3 n3 c3 a4 n4 c4) _ (Fd.o) underlying35 rfl (by kernel_rfl)) (by assumption) ?_;refine aX 26 fun Kk hK=>?_;go_simp;refine(CA wq ((Aa.o _).1 hHeld).2.2.2.2).mono ?_;rintro e we ⟨rfl,hb⟩;go_simp;have T9:=Ka.o _ _ hHeld hb;refine hK.out _ _ T9 (fun _=>?_);clear hK Kk hb hHeld;refine tk 27 (.bool true) ?_ ?_
       ·intro wq Ba;go_simp
       refine tk 28 (.bool false) ?_ ?_
       ·intro wq Ba;go_simp
       refine tk 29 (.bool false) ?_ ?_
       ·intro wq Ba;go_simp
       refine tk 30 (.bool false) ?_ ?_
       ·intro wq Ba;go_simp
       refine bg ?_;go_simp;go_wp2;go_roundw
       case rel=>exact⟨q+1,by omega,by go_num,T9⟩
       case measure=>simp[intOf];omega
end Go.Proofs.YtobnifjhikoleaaGreatDoor
