import Derived.Test.YtjcjonncaknhnaaGreatDoorPk16
import Derived.Test.YtjcjonncaknhnaaGreatDoorPk17
import Derived.Test.YtjcjonncaknhnaaGreatDoorPk18
namespace Go.Proofs.YtjcjonncaknhnaaGreatDoor
open Go.RowKit Go.Proofs.Tryz
set_option linter.unusedSimpArgs false
set_option maxHeartbeats 32000000
variable {w:World}{len cap b i' nb cb n1 n2 n3 n4 c1 c2 c3 c4 nj cj o n i:Nat}{ca ab a1 a2 a3 a4 aj:Option Addr}{zs bs z1 z2 z3 z4:List Int}{now uB:Int}{aL aN aG aE aR:Addr}{js:List M.Jb}
theorem gS:iS:=sK.h ⟨gm.h ⟨pW⟩ ⟨sL⟩ ⟨pU⟩ ⟨rO⟩ ⟨pV⟩⟩
theorem Rd.base{w0 w1:World}{R:Nat}{a:Option Addr}(h:Rd w1 R a len cap w)(hb:m1 w0 w1):Rd w0 R a len cap w:=⟨hb.trans (h.below.mono hb.size),m8 hb.size h.lo,h.hi,h.cb,h.cp,h.fr⟩
theorem kT{P:Program}{fn:Func}{p q:Tmp}{ty tz:TypeId}(h:fn.results=#[.cell p ty,.cell q tz]){tmps:Array Value}{ad ae:Addr}{v u:Value}(hp:tmps.getD p undef=.pointer (some ad))(hq:tmps.getD q undef=.pointer (some ae))
 (hl:(loadVar ty ad).run P w=.ok v w)(hm:(loadVar tz ae).run P w=.ok u w):(results fn tmps).run P w=.ok (.tuple #[v,u]) w:=by
 have hp':tmps[p]?.getD undef=.pointer (some ad):=(by simpa using hp);have hq':tmps[q]?.getD undef=.pointer (some ae):=(by simpa using hq);simp[results,h,hp',hq',asAddr,hl,hm]
theorem au.whole{W:World}{vs us:List Value}(h:au W b vs)(hl:vs.length=us.length):au (W.setCells b 0 us) b us:=by
 have:=au.setCells us 0 h (by omega)
 rwa[rE hl.symm]at this
def tV(w:World)(e:Ending)(w':World):Prop:=∃(now uB:Int) (ab:Option Addr) (nb cb:Nat) (bs:List Int) (aj:Option Addr) (nj cj:Nat) (js:List M.Jb) (t' id s' l' tr m0 I J Q V T Y Z L U A B t1 t2 p1 p2 p3 p4:Int) (a1 a2 a3 a4:Option Addr) (n1 n2 n3 n4 c1 c2 c3 c4:Nat) (z1 z2 z3 z4:List Int),
 e=.returned (.tuple #[.agg #[.int .i64 now,.int .i64 uB,.slice ab nb cb,.slice aj nj cj],.agg #[.int .i64 t',.int .i64 id,.int .i64 s',.int .i64 l',.int .i64 tr,.int .i64 m0,.int .i64 I,.int .i64 J,.int .i64 Q,.int .i64 V,.int .i64 T,.int .i64 Y,.int .i64 Z,.int .i64 L,.int .i64 U,.int .i64 A,.int .i64 B,.int .i64 t1,.int .i64 t2,.int .i64 p1,.int .i64 p2,.int .i64 p3,.int .i64 p4,.slice a1 n1 c1,.slice a2 n2 c2,.slice a3 n3 c3,.slice a4 n4 c4]])∧cH w' ab nb cb aj nj cj bs js∧(aw w' a1 n1 c1 z1∧aw w' a2 n2 c2 z2∧aw w' a3 n3 c3 z3∧aw w' a4 n4 c4 z4)∧(n1≤64∧n2≤64∧n3≤64∧n4≤64)∧m1 w w'
set_option maxRecDepth 10000 in
theorem kH(w:World)(hrow:Row .u8 w ca len cap zs):
  Calls prog 10 #[.slice ca len cap] w (tV w):=by
 have Va:m1 w ((w.alloc (.cells aT.toArray 27)).alloc (.cells (bM 0).toArray 37)):=((m5 _ _).alloc (m3 _) _).alloc (by simp) _;have Wa:=Hd hrow;have Pa:=Hd Va;have Qa:H9 (au ((w.alloc (.cells aT.toArray 27)).alloc (.cells (bM 0).toArray 37)) w.heap.size aT):=(aO _ _ _).alloc _;have Ra:H9 (au ((w.alloc (.cells aT.toArray 27)).alloc (.cells (bM 0).toArray 37)) (w.heap.size+1) (bM 0)):=ba _ _ _ _;have Oa:((w.alloc (.cells aT.toArray 27)).alloc (.cells (bM 0).toArray 37)).heap.size=w.heap.size+1+1:=(by simp);clear Va hrow;go_enter func10,ntmps10;(go_wp2_with fail);refine(sT _).mono ?_;rintro e w1 ⟨rfl,Ja⟩;rw[Oa];rw[Oa]at Ja;generalize((w.alloc (.cells aT.toArray 27)).alloc (.cells (bM 0).toArray 37))=wb at Ja Pa Qa Ra Oa;have Xa:=Hd (Qa.o.belowS Ja.below);have Ya:=Hd (Ra.o.belowS Ja.below);have Sa:=Hd (Ja.base Pa.o);clear Ja Pa Qa Ra Oa;(go_wp2_with fail);refine(oG gS w (w.heap.size+1+1) ca len cap zs Wa.o 12 (by decide) (by decide) _ Sa.o).mono ?_;rintro e w2 ⟨Aa,Ba,ab,nb,cb,bs,aj,nj,cj,qs,rfl,hO,Za,Ib,hr,hg⟩;have Ab:=Sa.o.hi;have Bb:=Hd (Xa.o.grown hg (by simp;omega));have Cb:=Hd (Ya.o.grown hg (by simp));have Db:H9 (aV w2 ((w.heap.size+1+1)+1) ab nb cb bs aj nj cj qs):=hO.mono Ab;have Ta:=Hd hr;have Jb:=Hd Za;clear hO Za hr hg Xa Ya Sa Ab;have Ka:=eK w2 (.cells (aI Aa Ba ab nb cb aj nj cj).toArray 27);have Ua:=ct w2 (aI Aa Ba ab nb cb aj nj cj) 27;have Eb:=Bb.b Ka;have Fb:=Cb.b Ka;have Gb:=Hd (Db.o.below Ka);have Hb:=Hd (Ta.o.grow Ka);have Kb:=Ta.o.hi;clear Ka Bb Cb Db Ta;(go_wp2_with fail);generalize(w2.alloc (.cells (aI Aa Ba ab nb cb aj nj cj).toArray 27))=w3 at *;generalize w2.heap.size=mb at Ua Kb ⊢;obtain⟨TB,Ca⟩:∃TB:World→List Value→List Value→Prop,H9 (∀W x y,TB W x y↔(Rd w (w.heap.size+1+1) ca len cap W∧au W mb (aI Aa Ba ab nb cb aj nj cj)∧aV W ((w.heap.size+1+1)+1) ab nb cb bs aj nj cj qs∧au W w.heap.size x∧au W (w.heap.size+1) y)):=⟨_,fun _ _ _=>Iff.rfl⟩;have T3:=Hd ((Ca.o _ _ _).2 (by have hbd:m1 w3 w3.drew:=(m5 _ _).drew;exact⟨Hb.o.grow hbd,Ua.o.belowS hbd,Gb.o.below hbd,Eb.o.belowS hbd,Fb.o.belowS hbd⟩));clear Hb Ua Gb Eb Fb
 have CA:H9 (∀W x y,x.length=4→TB W x y→TB (W.setCells w.heap.size 0 (aI Aa Ba ab nb cb aj nj cj)) (aI Aa Ba ab nb cb aj nj cj) y):=fun W x y hx h=>by
  obtain⟨h1,h2,h3,h4,h5⟩:=(Ca.o _ _ _).1 h;have hg:=cm W w.heap.size 0 (aI Aa Ba ab nb cb aj nj cj);exact(Ca.o _ _ _).2 ⟨h1.cells (m3 _) (by omega) _,h2.grown hg (by simp;omega),h3.grown hg (fun g hm e=>by have:=(h3.lt g hm).1;have:=m2 e;omega),h4.whole hx,h5.grown hg (by simp)⟩
 have CV:H9 (∀W x y z,y.length=z.length→TB W x y→TB (W.setCells (w.heap.size+1) 0 z) x z):=fun W x y z hy h=>by
  obtain⟨h1,h2,h3,h4,h5⟩:=(Ca.o _ _ _).1 h;have hg:=cm W (w.heap.size+1) 0 z;exact(Ca.o _ _ _).2 ⟨h1.cells (by omega) (by omega) _,h2.grown hg (by simp;omega),h3.grown hg (fun g hm e=>by have:=(h3.lt g hm).1;have:=m2 e;omega),h4.grown hg (by simp),h5.whole hy⟩
 have CR:H9 (∀W W' x y,Rd w (w.heap.size+1+1) ca len cap W'→W.grownBy W' (some (w.heap.size+1+1))→TB W x y→TB W' x y):=fun W W' x y hr hg h=>by
  obtain⟨h1,h2,h3,h4,h5⟩:=(Ca.o _ _ _).1 h;exact(Ca.o _ _ _).2 ⟨hr,h2.grown hg (by simp;omega),h3.grown hg (fun g hm e=>by have:=(h3.lt g hm).1;have:=m2 e;omega),h4.grown hg (by simp;omega),h5.grown hg (by simp)⟩
 refine wp_region_noPanic ?_;refine wp_region_held_drew (S:=fun W=>au W mb (aI Aa Ba ab nb cb aj nj cj)) (by kernel_rfl) (((Ca.o _ _ _).1 T3.o).2.1) (fun hHeld=>?_);generalize w3.drew=wd at *
 refine wpAnyH_take (i:=0) (v:=.agg (aI Aa Ba ab nb cb aj nj cj).toArray) rfl (by kernel_rfl) (by kernel_rfl) (by kernel_rfl) (fun _ _ _ h=>h) (uM (by kernel_rfl) 27 (.tmp 5) rfl mb 0 rfl (aI Aa Ba ab nb cb aj nj cj) _ (fun W h=>h.row) underlying27 rfl (by kernel_rfl)) (by assumption) ?_;refine tk 1 (.pointer (some ⟨w.heap.size+1+1,0,none⟩)) ?_ ?_
 ·intro wq Nb;go_simp
 refine wpAnyH_take (i:=2) (v:=.agg (aI Aa Ba ab nb cb aj nj cj).toArray) rfl (by kernel_rfl) (by kernel_rfl) (by kernel_rfl) (fun _ _ _ h=>h) (uM (by kernel_rfl) 27 (.tmp 5) rfl mb 0 rfl (aI Aa Ba ab nb cb aj nj cj) _ (fun W h=>h.row) underlying27 rfl (by kernel_rfl)) (by assumption) ?_;refine aX 3 fun Kk hK=>?_;go_simp;refine(iJ w (w.heap.size+1+1) ca len cap zs Wa.o ((w.heap.size+1+1)+1) ab aj nb cb nj cj bs qs Aa Ba _ (((Ca.o _ _ _).1 T3.o).2.2.1) (Nat.lt_succ_self _) Jb.o Ib (((Ca.o _ _ _).1 T3.o).1)).mono ?_;rintro e we ⟨Da,id,Ea,Fa,Ga,m0,I,J,Q,V,T,Y,Z,L,U,Ha,Ia,t1,t2,p1,p2,p3,p4,a1,a2,a3,a4,n1,n2,n3,n4,c1,c2,c3,c4,z1,z2,z3,z4,rfl,hs,hl,La,hr,hg⟩;go_simp;have TC:=Hd (CR.o _ _ _ _ hr hg T3.o);have Lb:=(((Ca.o _ _ _).1 T3.o).1).hi;have HS:=Hd hs;have HL:=Hd hl;have HF:H9 (∀k,k<w.heap.size+1+1→(∀q,a1=some q→some k≠some q.block)∧(∀q,a2=some q→some k≠some q.block)∧(∀q,a3=some q→some k≠some q.block)∧(∀q,a4=some q→some k≠some q.block)):=fun k hk=>⟨fun q hq e=>by have:=La.1 q hq;have:=m2 e;omega,fun q hq e=>by have:=La.2.1 q hq;have:=m2 e;omega,fun q hq e=>by have:=La.2.2.1 q hq;have:=m2 e;omega,fun q hq e=>by have:=La.2.2.2 q hq;have:=m2 e;omega⟩;refine hK.out _ _ (((Ca.o _ _ _).1 TC.o).2.1) (fun hzz=>?_);clear hK Kk hs hl La hr hg Lb T3;refine aX 4 fun Kk hK=>?_;rw[if_pos (by kernel_rfl)];with_reducible refine wp_store_mid 27 (.tmp 2) (.tmp 10) ?_ w.heap.size 0 ((aI Aa Ba ab nb cb aj nj cj):List Value).toArray ?_ ?_ ?_ (by kernel_rfl) (by kernel_rfl) ?_
 ·exact rfl
 ·kernel_rfl
 ·kernel_rfl
 ·exact((Ca.o _ _ _).1 TC.o).2.2.2.1.there 0 4 (by simp)
 have TD:=Hd (CA.o _ aT _ rfl TC.o);have Na:H9 (aw (we.setCells w.heap.size 0 (aI Aa Ba ab nb cb aj nj cj)) a1 n1 c1 z1∧aw (we.setCells w.heap.size 0 (aI Aa Ba ab nb cb aj nj cj)) a2 n2 c2 z2∧aw (we.setCells w.heap.size 0 (aI Aa Ba ab nb cb aj nj cj)) a3 n3 c3 z3∧aw (we.setCells w.heap.size 0 (aI Aa Ba ab nb cb aj nj cj)) a4 n4 c4 z4):=(by have hg:we.grownBy (we.setCells w.heap.size 0 (aI Aa Ba ab nb cb aj nj cj)) (some w.heap.size):=a8 (World.grownBy.refl _ _) 0 _;have hf:=HF.o w.heap.size (by omega);exact⟨HS.o.1.grownR hg hf.1,HS.o.2.1.grownR hg hf.2.1,HS.o.2.2.1.grownR hg hf.2.2.1,HS.o.2.2.2.grownR hg hf.2.2.2⟩);clear HS;have HS:=Na;clear Na;refine hK.out _ _ (((Ca.o _ _ _).1 TD.o).2.1) (fun hzz=>?_);clear hK Kk TC;generalize(we.setCells w.heap.size 0 (aI Aa Ba ab nb cb aj nj cj))=wf at *;refine aX 5 fun Kk hK=>?_;rw[if_pos (by kernel_rfl)];with_reducible refine wp_store_mid 37 (.tmp 3) (.tmp 13) ?_ (w.heap.size+1) 0 ((bG Da id Ea Fa Ga m0 I J Q V T Y Z L U Ha Ia t1 t2 p1 p2 p3 p4 a1 n1 c1 a2 n2 c2 a3 n3 c3 a4 n4 c4):List Value).toArray ?_ ?_ ?_ (by kernel_rfl) (by kernel_rfl) ?_
 ·exact rfl
 ·kernel_rfl
 ·kernel_rfl
 ·exact((Ca.o _ _ _).1 TD.o).2.2.2.2.there 0 27 (by simp)
 have TE:H9 (TB (wf.setCells (w.heap.size+1) 0 (bG Da id Ea Fa Ga m0 I J Q V T Y Z L U Ha Ia t1 t2 p1 p2 p3 p4 a1 n1 c1 a2 n2 c2 a3 n3 c3 a4 n4 c4)) (aI Aa Ba ab nb cb aj nj cj) (bG Da id Ea Fa Ga m0 I J Q V T Y Z L U Ha Ia t1 t2 p1 p2 p3 p4 a1 n1 c1 a2 n2 c2 a3 n3 c3 a4 n4 c4)):=CV.o _ _ (bM 0) _ rfl TD.o;have Na:H9 (aw (wf.setCells (w.heap.size+1) 0 (bG Da id Ea Fa Ga m0 I J Q V T Y Z L U Ha Ia t1 t2 p1 p2 p3 p4 a1 n1 c1 a2 n2 c2 a3 n3 c3 a4 n4 c4)) a1 n1 c1 z1∧aw (wf.setCells (w.heap.size+1) 0 (bG Da id Ea Fa Ga m0 I J Q V T Y Z L U Ha Ia t1 t2 p1 p2 p3 p4 a1 n1 c1 a2 n2 c2 a3 n3 c3 a4 n4 c4)) a2 n2 c2 z2∧aw (wf.setCells (w.heap.size+1) 0 (bG Da id Ea Fa Ga m0 I J Q V T Y Z L U Ha Ia t1 t2 p1 p2 p3 p4 a1 n1 c1 a2 n2 c2 a3 n3 c3 a4 n4 c4)) a3 n3 c3 z3∧aw (wf.setCells (w.heap.size+1) 0 (bG Da id Ea Fa Ga m0 I J Q V T Y Z L U Ha Ia t1 t2 p1 p2 p3 p4 a1 n1 c1 a2 n2 c2 a3 n3 c3 a4 n4 c4)) a4 n4 c4 z4):=(by have hg:wf.grownBy (wf.setCells (w.heap.size+1) 0 (bG Da id Ea Fa Ga m0 I J Q V T Y Z L U Ha Ia t1 t2 p1 p2 p3 p4 a1 n1 c1 a2 n2 c2 a3 n3 c3 a4 n4 c4)) (some (w.heap.size+1)):=a8 (World.grownBy.refl _ _) 0 _;have hf:=HF.o (w.heap.size+1) (by omega);exact⟨HS.o.1.grownR hg hf.1,HS.o.2.1.grownR hg hf.2.1,HS.o.2.2.1.grownR hg hf.2.2.1,HS.o.2.2.2.grownR hg hf.2.2.2⟩);clear HS;have HS:=Na;clear Na;refine hK.out _ _ (((Ca.o _ _ _).1 TE.o).2.1) (fun hzz=>?_);clear hK Kk TD;generalize(wf.setCells (w.heap.size+1) 0 (bG Da id Ea Fa Ga m0 I J Q V T Y Z L U Ha Ia t1 t2 p1 p2 p3 p4 a1 n1 c1 a2 n2 c2 a3 n3 c3 a4 n4 c4))=wg at *;refine bg ?_;go_simp;(go_wp2_with fail);obtain⟨h1,h2,h3,h4,h5⟩:=(Ca.o _ _ _).1 TE.o;exact m7 (kT rfl rfl rfl (uN wg w.heap.size 0 27 _ _ h4.row underlying27 rfl (by kernel_rfl)) (uN wg (w.heap.size+1) 0 37 _ _ h5.row underlying37 rfl (by kernel_rfl))) rfl ⟨Aa,Ba,ab,nb,cb,bs,aj,nj,cj,_,Da,id,Ea,Fa,Ga,m0,I,J,Q,V,T,Y,Z,L,U,Ha,Ia,t1,t2,p1,p2,p3,p4,a1,a2,a3,a4,n1,n2,n3,n4,c1,c2,c3,c4,z1,z2,z3,z4,rfl,h3.sees,HS.o,HL.o,h1.below⟩
def te(m:M.Mt)(who:Int)(i pn:Nat)(og od:Bool):M.Mt×Int×Int:=
 if og=false then(⟨m.now,m.next,M.banned m.bs who,M.setT m.js i pn M.t0⟩,7,0)else(⟨m.now,m.next,m.bs,M.setT m.js i pn ⟨true,0,0⟩⟩,0,if od then 1 else 0)
set_option maxRecDepth 10000 in
theorem mP{h:Nat}{ai:Option Addr}{ni ci:Nat}{mb:Nat}{qs:List HJ}(who id:Int)(pn:Nat)(p1 p2 p3 p4:Int)(w:World)(H:bh w i' h now uB ab nb cb bs ai ni ci mb qs)(HRt:M.Right now uB bs (qs.map (fun q:HJ=>q.j)))(hw:M.wkOk who=true)(hp:pn≤7)(uy:i'≤w.heap.size)(he:EnvX w aL aN aG aE aR)(h1:aw w a1 n1 c1 z1)(h2:aw w a2 n2 c2 z2)(h3:aw w a3 n3 c3 z3)(h4:aw w a4 n4 c4 z4):
  Calls prog 97 #[.pointer (some ⟨h,0,none⟩),.agg (de who id (pn:Nat) p1 p2 p3 p4 a1 n1 c1 a2 n2 c2 a3 n3 c3 a4 n4 c4).toArray] w (fM w i' h (M.back (cr (pn:Nat) (⟨(p1,p2),(p3,p4),z1,z2,z3,z4⟩:M.Pf)) ⟨now,uB,bs,qs.map (fun q:HJ=>q.j)⟩ who id (pn:Nat))):=by
 have Ga:H9 (m1 w (w.alloc (.cells (de who id (pn:Nat) p1 p2 p3 p4 a1 n1 c1 a2 n2 c2 a3 n3 c3 a4 n4 c4).toArray 161))):=(m5 _ _).alloc (m3 _) _;have Na:=ct w (de who id (pn:Nat) p1 p2 p3 p4 a1 n1 c1 a2 n2 c2 a3 n3 c3 a4 n4 c4) 161;have Ea:=Hd (H.below Ga.o);have Ta:=Hd (he.below Ga.o);have S1:=Hd (h1.below Ga.o);have S2:=Hd (h2.below Ga.o);have S3:=Hd (h3.below Ga.o);have S4:=Hd (h4.below Ga.o);have Oa:=Hd (Ga.o.mono uy);have Ua:=m8 uy Ga.o.size;have t0:=Na.c 0;have t1:=Na.c 1;have x4:=Ea.o.l.c 4;have CB:=gM who (w.alloc (.cells (de who id (pn:Nat) p1 p2 p3 p4 a1 n1 c1 a2 n2 c2 a3 n3 c3 a4 n4 c4).toArray 161)) Ea.o;unfold M.back;dsimp only;have Zb:H9 (∀q∈qs,w.heap.size∉ob q.a):=fun q hq e=>by have:=H.lt w.heap.size (by unfold di;simp only[List.mem_cons,uG];exact .inr (.inr (.inr (.inr (uO.2 ⟨q,hq,by unfold HJ.bl;exact List.mem_cons_of_mem _ e⟩)))));omega
 cases hbn:bs.contains who with
 | true=>
  rw[hbn]at CB;rw[if_pos rfl];go_enter func97,ntmps97;(go_wp2_with fail);generalize(w.alloc (.cells (de who id (pn:Nat) p1 p2 p3 p4 a1 n1 c1 a2 n2 c2 a3 n3 c3 a4 n4 c4).toArray 161))=wa at *;refine CB.mono ?_;rintro e wz ⟨rfl,Da⟩;have Ka:=Da.symm;subst Ka;go_wp2;exact m7 (v:=.tuple #[it 5,it 0]) (by simp[results,results97,go_sem]) rfl ⟨rfl,⟨_,_,_,_,_,_,_,_,Ea.o,rfl⟩,Oa.o⟩
 | false=>
  rw[hbn]at CB;rw[if_neg (by simp)]
  rcases im id qs 0 with⟨i,hi,hlk,hat⟩ | ⟨hlk,hat⟩
  case inr=>
   rw[hat,if_pos (by simp)];have Rb:(zeroValue 120).run prog (w.alloc (.cells (de who id (pn:Nat) p1 p2 p3 p4 a1 n1 c1 a2 n2 c2 a3 n3 c3 a4 n4 c4).toArray 161)).drew=.ok (.pointer none) (w.alloc (.cells (de who id (pn:Nat) p1 p2 p3 p4 a1 n1 c1 a2 n2 c2 a3 n3 c3 a4 n4 c4).toArray 161)).drew:=(by kernel_rfl);have Pa:=(show bV (w.alloc (.cells (de who id (pn:Nat) p1 p2 p3 p4 a1 n1 c1 a2 n2 c2 a3 n3 c3 a4 n4 c4).toArray 161)).drew mb (qs.map HJ.ent)from Ea.o.m).miss (P:=prog) (t:=111) underlying111 underlying2 id Rb hlk true;simp only[if_true]at Pa;go_enter func97,ntmps97;(go_wp2_with fail);generalize(w.alloc (.cells (de who id (pn:Nat) p1 p2 p3 p4 a1 n1 c1 a2 n2 c2 a3 n3 c3 a4 n4 c4).toArray 161))=wa at *;refine CB.mono ?_;rintro e wz ⟨rfl,Da⟩;have Ka:=Da.symm;subst Ka;(go_wp2_with fail);apply eV
   case f=>
    intro key
    go_region_law (fail)
    all_goals exact key.out
   case h=>
    have Sb:=Hd (Ea.o.below (m5 _ _).drew);have Tb:=Hd Oa.o.drew;generalize wa.drew=wb at *;(go_wp2_with fail);refine cB wb none (by kernel_rfl) fun hHeld=>?_;have Ac:=Hd (Sb.o.below (m5 _ _).drew);have Bc:=Hd Tb.o.drew;generalize wb.drew=Ha at *;refine tk 0 (.bool false) ?_ ?_
    ·intro wq Aa;go_simp
    refine tk 1 (.bool true) ?_ ?_
    ·intro wq Aa;go_simp
    refine tk 2 (.bool true) ?_ ?_
    ·intro wq Aa;go_simp
    refine sk 3 ?_;refine sk 4 ?_;refine sk 5 ?_;refine sk 6 ?_;refine sk 7 ?_;refine sk 8 ?_;refine sk 9 ?_;refine sk 10 ?_;refine tk 11 (.bool true) ?_ ?_
    ·intro wq Aa;go_simp
    refine bg ?_;go_simp;go_wp2;exact m7 (v:=.tuple #[it 4,it 0]) (by simp[results,results97,go_sem]) rfl ⟨rfl,⟨_,_,_,_,_,_,_,_,Ac.o,rfl⟩,Bc.o⟩
  case inl=>
   rw[Nat.zero_add]at hat;obtain⟨q,hq⟩:∃q,qs.getD i df=q:=⟨_,rfl⟩;have Eb:=ox hi hat;rw[hq]at hlk Eb;have HA:H9 (bx (w.alloc (.cells (de who id (pn:Nat) p1 p2 p3 p4 a1 n1 c1 a2 n2 c2 a3 n3 c3 a4 n4 c4).toArray 161)).drew i' h now uB ab nb cb bs ai ni ci mb qs i q):=⟨Ea.o.below (m5 _ _).drew,hi,hq⟩;have Pa:=(show bV (w.alloc (.cells (de who id (pn:Nat) p1 p2 p3 p4 a1 n1 c1 a2 n2 c2 a3 n3 c3 a4 n4 c4).toArray 161)).drew mb (qs.map HJ.ent)from Ea.o.m).get (P:=prog) (t:=111) underlying111 underlying2 id _ hlk true;simp only[if_true]at Pa;rw[Eb,hat,u',u'];have Cc:=Hd (Zb.o q (by rw[←hq];exact dg hi));by_cases Fb:(q.j.ts.length:Int)≤((pn:Nat):Int)
   case pos=>
    rw[if_pos (by simp[Fb])];have gl:decide ((q.j.ts.length:Int)≤((pn:Nat):Int))=true:=(by simp[Fb]);have Pc:q.j.ts.length≤pn:=(by omega);obtain⟨TB,Ba⟩:∃TB:World→Prop,H9 (∀W,TB W↔(bx W i' h now uB ab nb cb bs ai ni ci mb qs i q∧au W w.heap.size (de who id (pn:Nat) p1 p2 p3 p4 a1 n1 c1 a2 n2 c2 a3 n3 c3 a4 n4 c4)∧EnvX W aL aN aG aE aR∧aw W a1 n1 c1 z1∧aw W a2 n2 c2 z2∧aw W a3 n3 c3 z3∧aw W a4 n4 c4 z4∧i'≤W.heap.size∧Below i' w W)):=⟨_,fun _=>Iff.rfl⟩
    have Ia:H9 (∀W W',TB W→m1 W W'→TB W'):=fun W W' hK hb=>by
     obtain⟨f0,f1,f2,f3,f4,f5,f6,f7,f8⟩:=(Ba.o W).1 hK;exact(Ba.o W').2 ⟨f0.below hb,f1.belowS hb,f2.below hb,f3.below hb,f4.below hb,f5.below hb,f6.below hb,m8 f7 hb.size,f8.trans (hb.mono f7)⟩
    have K0:=Hd ((Ba.o _).2 ⟨⟨Ea.o.below (m5 _ _).drew,hi,hq⟩,Na.o.belowS (m5 _ _).drew,Ta.o.below (m5 _ _).drew,S1.o.below (m5 _ _).drew,S2.o.below (m5 _ _).drew,S3.o.below (m5 _ _).drew,S4.o.below (m5 _ _).drew,Ua,Oa.o.drew⟩);go_enter func97,ntmps97;(go_wp2_with fail);generalize(w.alloc (.cells (de who id (pn:Nat) p1 p2 p3 p4 a1 n1 c1 a2 n2 c2 a3 n3 c3 a4 n4 c4).toArray 161))=wa at *;refine CB.mono ?_;rintro e wz ⟨rfl,Da⟩;have Ka:=Da.symm;subst Ka;(go_wp2_with fail);apply eV
    case f=>
     intro key
     go_region_law (fail)
     all_goals exact key.out
    case h=>
     generalize wa.drew=wb at *;(go_wp2_with fail);refine cB wb none (by kernel_rfl) fun hHeld=>?_;have K1:=Hd (Ia.o _ _ K0.o (m5 _ _).drew);generalize wb.drew=Ha at *;refine tk 0 (.bool true) ?_ ?_
     ·intro wq Aa;go_simp
     refine tk 1 (.bool false) ?_ ?_
     ·intro wq Aa;go_simp
     refine tk 2 (.bool false) ?_ ?_
     ·intro wq Aa;go_simp
     refine tk 3 (.pointer (some ⟨w.heap.size,2,none⟩)) ?_ ?_
     ·intro wq Aa;go_simp
     refine tk 4 (it (pn:Nat)) ?_ ?_
     ·intro wq Aa;have c0:=(((Ba.o _).1 K0.o).2.1.grown Aa (by simp)).c 2;go_simp
     refine tk 5 (.pointer (some ⟨q.b,0,none⟩)) ?_ ?_
     ·intro wq Aa;go_simp
     refine tk 6 (.pointer (some ⟨q.b,0,none⟩)) ?_ ?_
     ·intro wq Aa;go_simp
     refine tk 7 (.pointer (some ⟨q.b,17,none⟩)) ?_ ?_
     ·intro wq Aa;go_simp
     refine tk 8 (.slice q.a q.j.ts.length q.c) ?_ ?_
     ·intro wq Aa;have c0:=(((Ba.o _).1 K0.o).1.lies.grown Aa (by simp)).c 17;go_simp
     refine tk 9 (it (q.j.ts.length:Nat)) ?_ ?_
     ·intro wq Aa;go_simp
     refine tk 10 (.bool true) ?_ ?_
     ·intro wq Aa;go_simp
     refine tk 11 (.bool true) ?_ ?_
     ·intro wq Aa;go_simp
     refine bg ?_;go_simp;go_wp2;exact m7 (v:=.tuple #[it 4,it 0]) (by simp[results,results97,go_sem]) rfl ⟨rfl,⟨_,_,_,_,_,_,_,_,((Ba.o _).1 K1.o).1.1,rfl⟩,((Ba.o _).1 K1.o).2.2.2.2.2.2.2.2⟩
   case neg=>
    rw[if_neg (by simp;omega)];have gl:decide ((q.j.ts.length:Int)≤((pn:Nat):Int))=false:=(by simp;omega);by_cases Wa:(q.j.ts.getD pn M.t0).l'=who
    case neg=>
     rw[if_pos Wa];have Dc:((pn:Nat):Int)<(q.j.ts.length:Int):=(by omega);have Ec:(0:Int)≤((pn:Nat):Int):=(by omega);have Fc:IntKind.i64.wrap ((pn:Nat):Int)=(pn:Nat):=(by rw[uQ];omega);have Qa:=HA.o.owns;obtain⟨g,Ra⟩:=Qa.block (by omega);have Fa:=Hd Ra;have Gc:(q.j.ts.length:Int)≤q.c:=(by have:=Qa.sees.le;omega);obtain⟨wk,Sa⟩:∃wk,(q.j.ts.getD pn M.t0).l'=wk:=⟨_,rfl⟩;have Gb:H9 (∀W,bx W i' h now uB ab nb cb bs ai ni ci mb qs i q→W.cell? ⟨g,pn*3+1,none⟩=some (it wk)):=fun W hW=>by have h9:=hW.owns;rw[Ra]at h9;have h8:=h9.cells (k:=pn) (by omega) (j:=1) (by omega);rw[h8,←Sa];rfl
     rw[Sa]at Wa;obtain⟨TB,Ba⟩:∃TB:World→Prop,H9 (∀W,TB W↔(bx W i' h now uB ab nb cb bs ai ni ci mb qs i q∧au W w.heap.size (de who id (pn:Nat) p1 p2 p3 p4 a1 n1 c1 a2 n2 c2 a3 n3 c3 a4 n4 c4)∧EnvX W aL aN aG aE aR∧aw W a1 n1 c1 z1∧aw W a2 n2 c2 z2∧aw W a3 n3 c3 z3∧aw W a4 n4 c4 z4∧i'≤W.heap.size∧Below i' w W)):=⟨_,fun _=>Iff.rfl⟩
     have Ia:H9 (∀W W',TB W→m1 W W'→TB W'):=fun W W' hK hb=>by
      obtain⟨f0,f1,f2,f3,f4,f5,f6,f7,f8⟩:=(Ba.o W).1 hK;exact(Ba.o W').2 ⟨f0.below hb,f1.belowS hb,f2.below hb,f3.below hb,f4.below hb,f5.below hb,f6.below hb,m8 f7 hb.size,f8.trans (hb.mono f7)⟩
     have K0:=Hd ((Ba.o _).2 ⟨⟨Ea.o.below (m5 _ _).drew,hi,hq⟩,Na.o.belowS (m5 _ _).drew,Ta.o.below (m5 _ _).drew,S1.o.below (m5 _ _).drew,S2.o.below (m5 _ _).drew,S3.o.below (m5 _ _).drew,S4.o.below (m5 _ _).drew,Ua,Oa.o.drew⟩);go_enter func97,ntmps97;(go_wp2_with fail);generalize(w.alloc (.cells (de who id (pn:Nat) p1 p2 p3 p4 a1 n1 c1 a2 n2 c2 a3 n3 c3 a4 n4 c4).toArray 161))=wa at *;refine CB.mono ?_;rintro e wz ⟨rfl,Da⟩;have Ka:=Da.symm;subst Ka;(go_wp2_with fail);apply eV
     case f=>
      intro key
      go_region_law (fail)
      all_goals exact key.out
     case h=>
      generalize wa.drew=wb at *;(go_wp2_with fail);refine cB wb none (by kernel_rfl) fun hHeld=>?_;have K1:=Hd (Ia.o _ _ K0.o (m5 _ _).drew);generalize wb.drew=Ha at *;refine tk 0 (.bool true) ?_ ?_
      ·intro wq Aa;go_simp
      refine tk 1 (.bool false) ?_ ?_
      ·intro wq Aa;go_simp
      refine tk 2 (.bool false) ?_ ?_
      ·intro wq Aa;go_simp
      refine tk 3 (.pointer (some ⟨w.heap.size,2,none⟩)) ?_ ?_
      ·intro wq Aa;go_simp
      refine tk 4 (it (pn:Nat)) ?_ ?_
      ·intro wq Aa;have c0:=(((Ba.o _).1 K0.o).2.1.grown Aa (by simp)).c 2;go_simp
      refine tk 5 (.pointer (some ⟨q.b,0,none⟩)) ?_ ?_
      ·intro wq Aa;go_simp
      refine tk 6 (.pointer (some ⟨q.b,0,none⟩)) ?_ ?_
      ·intro wq Aa;go_simp
      refine tk 7 (.pointer (some ⟨q.b,17,none⟩)) ?_ ?_
      ·intro wq Aa;go_simp
      refine tk 8 (.slice q.a q.j.ts.length q.c) ?_ ?_
      ·intro wq Aa;have c0:=(((Ba.o _).1 K0.o).1.lies.grown Aa (by simp)).c 17;go_simp
      refine tk 9 (it (q.j.ts.length:Nat)) ?_ ?_
      ·intro wq Aa;go_simp
      refine tk 10 (.bool false) ?_ ?_
      ·intro wq Aa;go_simp;omega
      refine tk 11 (.bool false) ?_ ?_
      ·intro wq Aa;go_simp
      refine bg ?_;go_simp;(go_wp2_with fail);refine cB Ha none (by kernel_rfl) fun hHeld=>?_;have K2:=Hd (Ia.o _ _ K1.o (m5 _ _).drew);generalize Ha.drew=Va at *;refine tk 0 (.pointer (some ⟨q.b,0,none⟩)) ?_ ?_
      ·intro wq Aa;go_simp
      refine tk 1 (.pointer (some ⟨q.b,0,none⟩)) ?_ ?_
      ·intro wq Aa;go_simp
      refine tk 2 (.pointer (some ⟨q.b,17,none⟩)) ?_ ?_
      ·intro wq Aa;go_simp
      refine tk 3 (.slice (some ⟨g,0,none⟩) q.j.ts.length q.c) ?_ ?_
      ·intro wq Aa;have c0:=(((Ba.o _).1 K1.o).1.lies.grown Aa (by simp)).c 17;rw[Fa.o]at c0;go_simp
      refine tk 4 (.pointer (some ⟨w.heap.size,2,none⟩)) ?_ ?_
      ·intro wq Aa;go_simp
      refine tk 5 (it (pn:Nat)) ?_ ?_
      ·intro wq Aa;have c0:=(((Ba.o _).1 K1.o).2.1.grown Aa (by simp)).c 2;go_simp
      refine tk 6 (.pointer (some ⟨g,pn*3,none⟩)) ?_ ?_
      ·intro wq Aa;go_simp
      refine tk 7 (.pointer (some ⟨g,pn*3+1,none⟩)) ?_ ?_
      ·intro wq Aa;go_simp
      refine tk 8 (it wk) ?_ ?_
      ·intro wq Aa;have c0:=Aa.cell (Gb.o Ha ((Ba.o _).1 K1.o).1) (by simp);go_simp
      refine tk 9 (.pointer (some ⟨w.heap.size,0,none⟩)) ?_ ?_
      ·intro wq Aa;go_simp
      refine tk 10 (it who) ?_ ?_
      ·intro wq Aa;have c0:=(((Ba.o _).1 K1.o).2.1.grown Aa (by simp)).c 0;go_simp
      refine tk 11 (.bool true) ?_ ?_
      ·intro wq Aa;go_simp
      refine bg ?_;go_simp;go_wp2;exact m7 (v:=.tuple #[it 8,it 0]) (by simp[results,results97,go_sem]) rfl ⟨rfl,⟨_,_,_,_,_,_,_,_,((Ba.o _).1 K2.o).1.1,rfl⟩,((Ba.o _).1 K2.o).2.2.2.2.2.2.2.2⟩
    case pos=>
     rw[if_neg (fun hne=>hne Wa)];have Ub:q.j∈qs.map (fun q:HJ=>q.j):=(by rw[←hq,←lD hi];exact M.getD_mem (by simpa using hi));have Bb:=(HRt.job _ Ub).2.2;unfold M.jbOk at Bb;simp only[uU]at Bb;have Hc:=fA Bb.1.2.2.1;obtain⟨og,Hb⟩:∃og,cr ((pn:Nat):Int) (⟨(p1,p2),(p3,p4),z1,z2,z3,z4⟩:M.Pf) q.j=og:=⟨_,rfl⟩;rw[Hb]
     obtain⟨pv,Vb,Wb⟩:∃pv:Value,H9 (∀W,bx W i' h now uB ab nb cb bs ai ni ci mb qs i q→Rt 121 #[.pointer (some ⟨q.b,0,none⟩),it (pn:Nat)] W pv)∧H9 (∀W,EnvX W aL aN aG aE aR→aw W a1 n1 c1 z1→aw W a2 n2 c2 z2→aw W a3 n3 c3 z3→aw W a4 n4 c4 z4→Rt 160 #[pv,.agg (bp p1 p2 p3 p4 a1 n1 c1 a2 n2 c2 a3 n3 c3 a4 n4 c4).toArray] W (.bool og)):=by
      refine⟨.agg (eF q.j.m.X.xx q.j.m.X.xy q.j.m.X.yy q.j.m.X.x q.j.m.X.y q.j.m.X.k q.j.m.Y.xx q.j.m.Y.xy q.j.m.Y.yy q.j.m.Y.x q.j.m.Y.y q.j.m.Y.k ((ei q.j.m q.j.s ((pn:Nat)*(q.j.rows-1))).1) ((ei q.j.m q.j.s ((pn:Nat)*(q.j.rows-1))).2) q.j.rows).toArray,fun W hW=>oK q.j.id q.j.m.X.xx q.j.m.X.xy q.j.m.X.yy q.j.m.X.x q.j.m.X.y q.j.m.X.k q.j.m.Y.xx q.j.m.Y.xy q.j.m.Y.yy q.j.m.Y.x q.j.m.Y.y q.j.m.Y.k q.j.s.1 q.j.s.2 q.j.rows q.j.gone ((pn:Nat):Int) W hW.lies (by omega) (by omega) (by omega) (by omega),fun W hE g1 g2 g3 g4=>?_⟩;rw[←Hb];exact kd q.j.m.X.xx q.j.m.X.xy q.j.m.X.yy q.j.m.X.x q.j.m.X.y q.j.m.X.k q.j.m.Y.xx q.j.m.Y.xy q.j.m.Y.yy q.j.m.Y.x q.j.m.Y.y q.j.m.Y.k _ _ q.j.rows p1 p2 p3 p4 W hE g1 g2 g3 g4
     have Xa:H9 ((qs.map (fun q:HJ=>q.j)).getD i M.j0=q.j):=(by show _=_;rw[←hq];exact lD hi);have Ic:H9 ((qs.map (fun q:HJ=>q.j)).map (M.freeJ (M.mineT who))=M.setT (qs.map (fun q:HJ=>q.j)) i pn M.t0):=M.free_js (by unfold M.wkOk at hw;simp at hw;omega) HRt.nd (by simpa using hi) (by rw[Xa.o];omega) (by rw[Xa.o];exact Wa);obtain⟨od,Ib⟩:∃od,(q.j.ts.set pn ⟨true,0,0⟩).all (·.done)=od:=⟨_,rfl⟩;rw[Ic.o,Ib]
     change Calls _ _ _ _ (fM w i' h (te ⟨now,uB,bs,qs.map (fun q:HJ=>q.j)⟩ who i pn og od))
     have Jc:=Hd Ib;have Jb:H9 (M.bnGo 0 bs=true∧M.wkOk who=true∧bs.contains who=false):=⟨HRt.bn,hw,hbn⟩;have Dc:((pn:Nat):Int)<(q.j.ts.length:Int):=(by omega);have Ec:(0:Int)≤((pn:Nat):Int):=(by omega);have Fc:IntKind.i64.wrap ((pn:Nat):Int)=(pn:Nat):=(by rw[uQ];omega);have Qa:=HA.o.owns;obtain⟨g,Ra⟩:=Qa.block (by omega);have Fa:=Hd Ra;have Gc:(q.j.ts.length:Int)≤q.c:=(by have:=Qa.sees.le;omega);obtain⟨wk,Sa⟩:∃wk,(q.j.ts.getD pn M.t0).l'=wk:=⟨_,rfl⟩;have Gb:H9 (∀W,bx W i' h now uB ab nb cb bs ai ni ci mb qs i q→W.cell? ⟨g,pn*3+1,none⟩=some (it wk)):=fun W hW=>by have h9:=hW.owns;rw[Ra]at h9;have h8:=h9.cells (k:=pn) (by omega) (j:=1) (by omega);rw[h8,←Sa];rfl
     rw[Sa]at Wa;have Kc:H9 (∀W,bx W i' h now uB ab nb cb bs ai ni ci mb qs i q→w.heap.size∉ob q.a):=fun W _ e=>Cc.o e;obtain⟨TB,Ba⟩:∃TB:World→Prop,H9 (∀W,TB W↔(bx W i' h now uB ab nb cb bs ai ni ci mb qs i q∧au W w.heap.size (de who id (pn:Nat) p1 p2 p3 p4 a1 n1 c1 a2 n2 c2 a3 n3 c3 a4 n4 c4)∧EnvX W aL aN aG aE aR∧aw W a1 n1 c1 z1∧aw W a2 n2 c2 z2∧aw W a3 n3 c3 z3∧aw W a4 n4 c4 z4∧i'≤W.heap.size∧Below i' w W)):=⟨_,fun _=>Iff.rfl⟩
     have Ia:H9 (∀W W',TB W→m1 W W'→TB W'):=fun W W' hK hb=>by
      obtain⟨f0,f1,f2,f3,f4,f5,f6,f7,f8⟩:=(Ba.o W).1 hK;exact(Ba.o W').2 ⟨f0.below hb,f1.belowS hb,f2.below hb,f3.below hb,f4.below hb,f5.below hb,f6.below hb,m8 f7 hb.size,f8.trans (hb.mono f7)⟩
     have K0:=Hd ((Ba.o _).2 ⟨⟨Ea.o.below (m5 _ _).drew,hi,hq⟩,Na.o.belowS (m5 _ _).drew,Ta.o.below (m5 _ _).drew,S1.o.below (m5 _ _).drew,S2.o.below (m5 _ _).drew,S3.o.below (m5 _ _).drew,S4.o.below (m5 _ _).drew,Ua,Oa.o.drew⟩);go_enter func97,ntmps97;(go_wp2_with fail);generalize(w.alloc (.cells (de who id (pn:Nat) p1 p2 p3 p4 a1 n1 c1 a2 n2 c2 a3 n3 c3 a4 n4 c4).toArray 161))=wa at *;refine CB.mono ?_;rintro e wz ⟨rfl,Da⟩;have Ka:=Da.symm;subst Ka;(go_wp2_with fail);apply eV
     case f=>
      intro key
      go_region_law (fail)
      all_goals exact key.out
     case h=>
      generalize wa.drew=wb at *;(go_wp2_with fail);refine cB wb none (by kernel_rfl) fun hHeld=>?_;have K1:=Hd (Ia.o _ _ K0.o (m5 _ _).drew);generalize wb.drew=Ha at *;refine tk 0 (.bool true) ?_ ?_
      ·intro wq Aa;go_simp
      refine tk 1 (.bool false) ?_ ?_
      ·intro wq Aa;go_simp
      refine tk 2 (.bool false) ?_ ?_
      ·intro wq Aa;go_simp
      refine tk 3 (.pointer (some ⟨w.heap.size,2,none⟩)) ?_ ?_
      ·intro wq Aa;go_simp
      refine tk 4 (it (pn:Nat)) ?_ ?_
      ·intro wq Aa;have c0:=(((Ba.o _).1 K0.o).2.1.grown Aa (by simp)).c 2;go_simp
      refine tk 5 (.pointer (some ⟨q.b,0,none⟩)) ?_ ?_
      ·intro wq Aa;go_simp
      refine tk 6 (.pointer (some ⟨q.b,0,none⟩)) ?_ ?_
      ·intro wq Aa;go_simp
      refine tk 7 (.pointer (some ⟨q.b,17,none⟩)) ?_ ?_
      ·intro wq Aa;go_simp
      refine tk 8 (.slice q.a q.j.ts.length q.c) ?_ ?_
      ·intro wq Aa;have c0:=(((Ba.o _).1 K0.o).1.lies.grown Aa (by simp)).c 17;go_simp
      refine tk 9 (it (q.j.ts.length:Nat)) ?_ ?_
      ·intro wq Aa;go_simp
      refine tk 10 (.bool false) ?_ ?_
      ·intro wq Aa;go_simp;omega
      refine tk 11 (.bool false) ?_ ?_
      ·intro wq Aa;go_simp
      refine bg ?_;go_simp;(go_wp2_with fail);refine cB Ha none (by kernel_rfl) fun hHeld=>?_;have K2:=Hd (Ia.o _ _ K1.o (m5 _ _).drew);generalize Ha.drew=Va at *;refine tk 0 (.pointer (some ⟨q.b,0,none⟩)) ?_ ?_
      ·intro wq Aa;go_simp
      refine tk 1 (.pointer (some ⟨q.b,0,none⟩)) ?_ ?_
      ·intro wq Aa;go_simp
      refine tk 2 (.pointer (some ⟨q.b,17,none⟩)) ?_ ?_
      ·intro wq Aa;go_simp
      refine tk 3 (.slice (some ⟨g,0,none⟩) q.j.ts.length q.c) ?_ ?_
      ·intro wq Aa;have c0:=(((Ba.o _).1 K1.o).1.lies.grown Aa (by simp)).c 17;rw[Fa.o]at c0;go_simp
      refine tk 4 (.pointer (some ⟨w.heap.size,2,none⟩)) ?_ ?_
      ·intro wq Aa;go_simp
      refine tk 5 (it (pn:Nat)) ?_ ?_
      ·intro wq Aa;have c0:=(((Ba.o _).1 K1.o).2.1.grown Aa (by simp)).c 2;go_simp
      refine tk 6 (.pointer (some ⟨g,pn*3,none⟩)) ?_ ?_
      ·intro wq Aa;go_simp
      refine tk 7 (.pointer (some ⟨g,pn*3+1,none⟩)) ?_ ?_
      ·intro wq Aa;go_simp
      refine tk 8 (it wk) ?_ ?_
      ·intro wq Aa;have c0:=Aa.cell (Gb.o Ha ((Ba.o _).1 K1.o).1) (by simp);go_simp
      refine tk 9 (.pointer (some ⟨w.heap.size,0,none⟩)) ?_ ?_
      ·intro wq Aa;go_simp
      refine tk 10 (it who) ?_ ?_
      ·intro wq Aa;have c0:=(((Ba.o _).1 K1.o).2.1.grown Aa (by simp)).c 0;go_simp
      refine tk 11 (.bool false) ?_ ?_
      ·intro wq Aa;go_simp
      refine bg ?_;go_simp;(go_wp2_with fail);refine cB Va none (by kernel_rfl) fun hHeld=>?_;have K3:=Hd (Ia.o _ _ K2.o (m5 _ _).drew);generalize Va.drew=Lc at *;refine tk 0 (.pointer (some ⟨q.b,0,none⟩)) ?_ ?_
      ·intro wq Aa;go_simp
      refine tk 1 (.pointer (some ⟨w.heap.size,2,none⟩)) ?_ ?_
      ·intro wq Aa;go_simp
      refine tk 2 (it (pn:Nat)) ?_ ?_
      ·intro wq Aa;have c0:=(((Ba.o _).1 K2.o).2.1.grown Aa (by simp)).c 2;go_simp
      refine tk 4 (.pointer (some ⟨w.heap.size,3,none⟩)) ?_ ?_
      ·intro wq Aa;go_simp
      refine wpAnyH_take (i:=5) (v:=.agg ((bp p1 p2 p3 p4 a1 n1 c1 a2 n2 c2 a3 n3 c3 a4 n4 c4):List Value).toArray) rfl (by kernel_rfl) (by kernel_rfl) (by kernel_rfl) (fun _ _ _ h=>h) (uM (by kernel_rfl) 35 (.tmp 50) (by kernel_rfl) w.heap.size 3 (by kernel_rfl) ((bp p1 p2 p3 p4 a1 n1 c1 a2 n2 c2 a3 n3 c3 a4 n4 c4):List Value) _ (fun W hW=>au.mid (((Ba.o _).1 K2.o).2.1.grown hW (by simp)) 3 8) underlying35 rfl (by kernel_rfl)) (by assumption) ?_;refine aX 3 fun Kk hK=>?_;go_simp;refine(Vb.o Lc ((Ba.o _).1 K3.o).1).mono ?_;rintro e Kb ⟨rfl,hb⟩;go_simp;have Lb:=aH hHeld hb;have K4:=Hd (Ia.o _ _ K3.o hb);refine hK.out _ _ Lb (fun hzz=>?_);refine aX 6 fun Kk hK=>?_;go_simp;refine(Wb.o Kb ((Ba.o _).1 K4.o).2.2.1 ((Ba.o _).1 K4.o).2.2.2.1 ((Ba.o _).1 K4.o).2.2.2.2.1 ((Ba.o _).1 K4.o).2.2.2.2.2.1 ((Ba.o _).1 K4.o).2.2.2.2.2.2.1).mono ?_;rintro e Ca ⟨rfl,hb⟩;go_simp;have Xb:=aH Lb hb;have K5:=Hd (Ia.o _ _ K4.o hb);refine hK.out _ _ Xb (fun hzz=>?_);refine tk 7 (.bool (!og)) ?_ ?_
      ·intro wq Aa;go_simp
      refine bg ?_;go_simp
      cases og with
      | false=>
       have hO:=((Ba.o _).1 K5.o).1.owns;rw[Fa.o]at hO;have La:pn<q.j.ts.length:=(by omega);have Ya:=((Ba.o _).1 K5.o).1.lies.c 17;rw[Fa.o]at Ya;have t2:=((Ba.o _).1 K5.o).2.1.c 2;have y0:=hO.cells La (j:=0) (by omega);have Za:=hO.2.frozenAt (pn*3+0);have y1:=hO.cells La (j:=1) (by omega);have Nb:=hO.2.frozenAt (pn*3+1);have y2:=hO.cells La (j:=2) (by omega);have Ob:=hO.2.frozenAt (pn*3+2);rw[Nat.add_zero]at y0 Za;generalize q.j.ts.getD pn M.t0=zz at y0 y1 y2;obtain⟨u1,u2,u3⟩:=zz;simp only[dW,List.getElem?_cons_zero,List.getElem?_cons_succ]at y0 y1 y2;obtain⟨Ab,Ja⟩:=hO.put La M.t0;have Cb:g∈ob q.a:=(by rw[Fa.o];simp[ob]);have HF:H9 (bx (Ca.setCells g (pn*3) (dW M.t0)).drew i' h now uB ab nb cb bs ai ni ci mb (qs.set i ⟨{q.j with ts:=q.j.ts.set pn M.t0},q.b,q.a,q.c⟩) i ⟨{q.j with ts:=q.j.ts.set pn M.t0},q.b,q.a,q.c⟩):=(((Ba.o _).1 K5.o).1.tasks (n:=0) (c:=0) (ts:=q.j.ts.set pn M.t0) (by rw[List.length_set]) (by rw[Fa.o];exact Ja) (by rw[List.length_set,Fa.o];exact Ab)).below (m5 _ _).drew;have Pb:=Hd ((((Ba.o _).1 K5.o).2.2.2.2.2.2.2.2.trans (ap Ja ((Ba.o _).1 K5.o).2.2.2.2.2.2.2.1 (fun z e=>by rw[←m2 e];exact(((Ba.o _).1 K5.o).1.apart.1 g Cb).1))).drew);have Qb:i'≤(Ca.setCells g (pn*3) (dW M.t0)).drew.heap.size:=m8 ((Ba.o _).1 K5.o).2.2.2.2.2.2.2.1 Ja.size;have Nc:=Hd ((((Ba.o _).1 K5.o).2.1.grown Ja (fun e=>Kc.o Ca ((Ba.o _).1 K5.o).1 (by rw[←m2 e];exact Cb))).belowS (m5 _ _).drew);(go_wp2_with fail);apply eV
       case f=>
        intro key
        go_region_law (fail)
        all_goals exact key.out
       case h=>
        show Exit.then _ _ _ _ (Ca.setCells g (pn*3) (dW M.t0)).drew;generalize(Ca.setCells g (pn*3) (dW M.t0)).drew=w9 at *;have t0:=Nc.c 0;(go_wp2_with fail);refine(tB who w9 HF.o.1 Jb.o.1 Jb.o.2.1 Jb.o.2.2 Qb).mono ?_;rintro e wx ⟨rfl,Qc,Rc,hH,hB⟩;have Oc:=Hd hH;have Db:=Hd (Pb.o.trans hB);go_wp2;exact m7 (v:=.tuple #[it 7,it 0]) (by simp[results,results97,go_sem]) rfl ⟨rfl,⟨_,_,_,_,_,_,_,_,Oc.o,(by show _=M.setT _ _ _ _;rw[List.map_set];unfold M.setT;rw[Xa.o])⟩,Db.o⟩
      | true=>
       have hO:=((Ba.o _).1 K5.o).1.owns;rw[Fa.o]at hO;have La:pn<q.j.ts.length:=(by omega);have Ya:=((Ba.o _).1 K5.o).1.lies.c 17;rw[Fa.o]at Ya;have t2:=((Ba.o _).1 K5.o).2.1.c 2;have y0:=hO.cells La (j:=0) (by omega);have Za:=hO.2.frozenAt (pn*3+0);have y1:=hO.cells La (j:=1) (by omega);have Nb:=hO.2.frozenAt (pn*3+1);have y2:=hO.cells La (j:=2) (by omega);have Ob:=hO.2.frozenAt (pn*3+2);rw[Nat.add_zero]at y0 Za;generalize q.j.ts.getD pn M.t0=zz at y0 y1 y2;obtain⟨u1,u2,u3⟩:=zz;simp only[dW,List.getElem?_cons_zero,List.getElem?_cons_succ]at y0 y1 y2;obtain⟨Ab,Ja⟩:=hO.put La ⟨true,0,0⟩;have Cb:g∈ob q.a:=(by rw[Fa.o];simp[ob]);have HF:H9 (bx (Ca.setCells g (pn*3) (dW ⟨true,0,0⟩)).drew i' h now uB ab nb cb bs ai ni ci mb (qs.set i ⟨{q.j with ts:=q.j.ts.set pn ⟨true,0,0⟩},q.b,q.a,q.c⟩) i ⟨{q.j with ts:=q.j.ts.set pn ⟨true,0,0⟩},q.b,q.a,q.c⟩):=(((Ba.o _).1 K5.o).1.tasks (n:=0) (c:=0) (ts:=q.j.ts.set pn ⟨true,0,0⟩) (by rw[List.length_set]) (by rw[Fa.o];exact Ja) (by rw[List.length_set,Fa.o];exact Ab)).below (m5 _ _).drew;have Pb:=Hd ((((Ba.o _).1 K5.o).2.2.2.2.2.2.2.2.trans (ap Ja ((Ba.o _).1 K5.o).2.2.2.2.2.2.2.1 (fun z e=>by rw[←m2 e];exact(((Ba.o _).1 K5.o).1.apart.1 g Cb).1))).drew);have Qb:i'≤(Ca.setCells g (pn*3) (dW ⟨true,0,0⟩)).drew.heap.size:=m8 ((Ba.o _).1 K5.o).2.2.2.2.2.2.2.1 Ja.size;(go_wp2_with fail);apply eV
       case f=>
        intro key
        go_region_law (fail)
        all_goals exact key.out
       case h=>
        show Exit.then _ _ _ _ (Ca.setCells g (pn*3) (dW ⟨true,0,0⟩)).drew;generalize(Ca.setCells g (pn*3) (dW ⟨true,0,0⟩)).drew=w9 at *;have C9:=fU w9 (HF.o.lies.at 17) HF.o.owns.sees;dsimp only at C9;rw[Jc.o]at C9;(go_wp2_with fail);refine C9.mono ?_;rintro e wx ⟨rfl,hb⟩;have Yb:H9 (bh wx i' h now uB ab nb cb bs ai ni ci mb (qs.set i ⟨{q.j with ts:=q.j.ts.set pn ⟨true,0,0⟩},q.b,q.a,q.c⟩)):=HF.o.1.below hb;have Db:=Hd (Pb.o.trans (hb.mono Qb))
        cases od with
        | true=>
         go_wp2;exact m7 (v:=.tuple #[it 0,it 1]) (by simp[results,results97,go_sem]) rfl ⟨rfl,⟨_,_,_,_,_,_,_,_,Yb.o,(by show _=M.setT _ _ _ _;rw[List.map_set];unfold M.setT;rw[Xa.o])⟩,Db.o⟩
        | false=>
         go_wp2;exact m7 (v:=.tuple #[it 0,it 0]) (by simp[results,results97,go_sem]) rfl ⟨rfl,⟨_,_,_,_,_,_,_,_,Yb.o,(by show _=M.setT _ _ _ _;rw[List.map_set];unfold M.setT;rw[Xa.o])⟩,Db.o⟩
theorem gi(n1 n2 n3 n4:Nat):decide (n1+n2+n3+n4=0)=(decide (n1=0)&&(decide (n2=0)&&(decide (n3=0)&&decide (n4=0)))):=by
 rw[Bool.eq_iff_iff];simp only[uU,decide_eq_true_eq];omega
theorem pg.post{w':World}{r:M.Mt×Int×Int}{e:Ending}(h:pg w r e w'):bC w w.heap.size r e w':=by
 obtain⟨v,Aa,h1,rfl,ab,nb,cb,aj,nj,cj,qm,rfl,hM,hj,hb⟩:=h;exact⟨_,rfl,_,_,_,_,_,_,_,rfl,hM.mono h1,hj,hb⟩
theorem dJ{t' id s' l' tr m0 I J Q V T Y Z L U A B t1 t2 p1 p2 p3 p4:Int}(hok:M.mkOk now uB bs js=true)(F:Bool)(R:M.Mt×Int×Int)
 (hF:M.formB t' id s' l' tr (bQ m0 I J Q V T Y Z L U A B&&(decide (t1=0)&&decide (t2=0))) (M.Mc.ok ⟨⟨m0,I,J,Q,V,T⟩,⟨Y,Z,L,U,A,B⟩⟩) (M.sOk (t1,t2)) (M.rows s') (M.inB tr 1 8) (bD p1 p2 p3 p4 n1 n2 n3 n4) (M.inB l' 1 9) (M.inB id 1 1000000000) (M.inB s' 0 7) (M.inB tr 1 1000000000)=F)(hR:M.act (cr s' ⟨(p1,p2),(p3,p4),z1,z2,z3,z4⟩) ⟨now,uB,bs,js⟩ t' id s' l' tr ⟨⟨m0,I,J,Q,V,T⟩,⟨Y,Z,L,U,A,B⟩⟩ (t1,t2)=R):
  (F=false→aZ now uB bs js t' id s' l' tr m0 I J Q V T Y Z L U A B t1 t2 p1 p2 p3 p4 n1 n2 n3 n4 z1 z2 z3 z4=(⟨now,uB,bs,js⟩,2,0))∧(F=true→aZ now uB bs js t' id s' l' tr m0 I J Q V T Y Z L U A B t1 t2 p1 p2 p3 p4 n1 n2 n3 n4 z1 z2 z3 z4=R):=by
 have h0:¬ (M.Mt.ok ⟨now,uB,bs,js⟩=false):=(by show ¬ (M.mkOk now uB bs js=false);rw[hok];simp);unfold aZ M.acted;rw[if_neg h0,hF,hR];exact⟨fun h=>by rw[if_pos h],fun h=>by rw[h];rfl⟩
set_option maxRecDepth 10000 in
theorem gH(now uB:Int)(id s' l' tr m0 I J Q V T Y Z L U A B t1 t2 p1 p2 p3 p4:Int)(w:World)(hz:cH w ab nb cb aj nj cj bs js)(l1:n1≤1048576)(l2:n2≤1048576)(l3:n3≤1048576)(l4:n4≤1048576)(hok:M.mkOk now uB bs js=true):
  Calls prog 11 #[.agg (aI now uB ab nb cb aj nj cj).toArray,.agg (bG 1 id s' l' tr m0 I J Q V T Y Z L U A B t1 t2 p1 p2 p3 p4 a1 n1 c1 a2 n2 c2 a3 n3 c3 a4 n4 c4).toArray] w (bC w w.heap.size (aZ now uB bs js 1 id s' l' tr m0 I J Q V T Y Z L U A B t1 t2 p1 p2 p3 p4 n1 n2 n3 n4 z1 z2 z3 z4)):=by
 have Aa:=ck hok
 have HF:((M.Mc.ok ⟨⟨m0,I,J,Q,V,T⟩,⟨Y,Z,L,U,A,B⟩⟩&&(M.sOk (t1,t2)&&(M.rows s'&&M.inB tr 1 8)))&&(decide (id=0)&&(decide ((0:Int)=0)&&(decide (l'=0)&&(decide ((0:Int)=0)&&(bQ 0 0 0 0 0 0 0 0 0 0 0 0&&((decide ((0:Int)=0)&&decide ((0:Int)=0))&&((decide (p1=0)&&decide (p2=0))&&((decide (p3=0)&&decide (p4=0))&&(decide (n1=0)&&(decide (n2=0)&&(decide (n3=0)&&decide (n4=0)))))))))))))=true→M.Mc.ok ⟨⟨m0,I,J,Q,V,T⟩,⟨Y,Z,L,U,A,B⟩⟩=true∧M.sOk (t1,t2)=true∧M.rows s'=true∧(1≤tr∧tr≤8):=by
  intro h;rw[uU]at h;have h:=h.1;simp only[uU,M.inB,decide_eq_true_eq]at h;exact h
 have hS:=dJ (n1:=n1) (n2:=n2) (n3:=n3) (n4:=n4) (z1:=z1) (z2:=z2) (z3:=z3) (z4:=z4) (t':=1) (id:=id) (s':=s') (l':=l') (tr:=tr) (m0:=m0) (I:=I) (J:=J) (Q:=Q) (V:=V) (T:=T) (Y:=Y) (Z:=Z) (L:=L) (U:=U) (A:=A) (B:=B) (t1:=t1) (t2:=t2) (p1:=p1) (p2:=p2) (p3:=p3) (p4:=p4) hok ((M.Mc.ok ⟨⟨m0,I,J,Q,V,T⟩,⟨Y,Z,L,U,A,B⟩⟩&&(M.sOk (t1,t2)&&(M.rows s'&&M.inB tr 1 8)))&&(decide (id=0)&&(decide ((0:Int)=0)&&(decide (l'=0)&&(decide ((0:Int)=0)&&(bQ 0 0 0 0 0 0 0 0 0 0 0 0&&((decide ((0:Int)=0)&&decide ((0:Int)=0))&&((decide (p1=0)&&decide (p2=0))&&((decide (p3=0)&&decide (p4=0))&&(decide (n1=0)&&(decide (n2=0)&&(decide (n3=0)&&decide (n4=0))))))))))))) (M.submit ⟨now,uB,bs,js⟩ ⟨⟨m0,I,J,Q,V,T⟩,⟨Y,Z,L,U,A,B⟩⟩ (t1,t2) s' tr)
  (by
   show(M.Mc.ok ⟨⟨m0,I,J,Q,V,T⟩,⟨Y,Z,L,U,A,B⟩⟩&&(M.sOk (t1,t2)&&(M.rows s'&&(M.inB tr 1 8&&(decide (id=0)&&(decide (l'=0)&&bD p1 p2 p3 p4 n1 n2 n3 n4))))))=_;unfold bD;rw[gi];rw[show bQ 0 0 0 0 0 0 0 0 0 0 0 0=true from rfl];rw[decide_eq_true (rfl:(0:Int)=0)];simp only[Bool.true_and,Bool.and_true]
   ac_rfl)
  rfl
 generalize aZ now uB bs js 1 id s' l' tr m0 I J Q V T Y Z L U A B t1 t2 p1 p2 p3 p4 n1 n2 n3 n4 z1 z2 z3 z4=r at *
 refine(cw now uB 1 id s' l' tr m0 I J Q V T Y Z L U A B t1 t2 p1 p2 p3 p4 w hz hok (.iface 157 (.agg (eE m0 I J Q V T Y Z L U A B t1 t2 s' tr).toArray)) ((M.Mc.ok ⟨⟨m0,I,J,Q,V,T⟩,⟨Y,Z,L,U,A,B⟩⟩&&(M.sOk (t1,t2)&&(M.rows s'&&M.inB tr 1 8)))&&(decide (id=0)&&(decide ((0:Int)=0)&&(decide (l'=0)&&(decide ((0:Int)=0)&&(bQ 0 0 0 0 0 0 0 0 0 0 0 0&&((decide ((0:Int)=0)&&decide ((0:Int)=0))&&((decide (p1=0)&&decide (p2=0))&&((decide (p3=0)&&decide (p4=0))&&(decide (n1=0)&&(decide (n2=0)&&(decide (n3=0)&&decide (n4=0)))))))))))))
  (fun W=>jC id s' l' tr m0 I J Q V T Y Z L U A B t1 t2 p1 p2 p3 p4 _ (fun W2=>@eu 1 id 0 l' 0 0 0 0 0 0 0 0 0 0 0 0 0 0 0 p1 p2 p3 p4 a1 a2 a3 a4 n1 n2 n3 n4 c1 c2 c3 c4 l1 l2 l3 l4 W2) W) (M.submit ⟨now,uB,bs,js⟩ ⟨⟨m0,I,J,Q,V,T⟩,⟨Y,Z,L,U,A,B⟩⟩ (t1,t2) s' tr).1.now (M.submit ⟨now,uB,bs,js⟩ ⟨⟨m0,I,J,Q,V,T⟩,⟨Y,Z,L,U,A,B⟩⟩ (t1,t2) s' tr).1.next (M.submit ⟨now,uB,bs,js⟩ ⟨⟨m0,I,J,Q,V,T⟩,⟨Y,Z,L,U,A,B⟩⟩ (t1,t2) s' tr).1.bs (M.submit ⟨now,uB,bs,js⟩ ⟨⟨m0,I,J,Q,V,T⟩,⟨Y,Z,L,U,A,B⟩⟩ (t1,t2) s' tr).1.js (M.submit ⟨now,uB,bs,js⟩ ⟨⟨m0,I,J,Q,V,T⟩,⟨Y,Z,L,U,A,B⟩⟩ (t1,t2) s' tr).2.1 (M.submit ⟨now,uB,bs,js⟩ ⟨⟨m0,I,J,Q,V,T⟩,⟨Y,Z,L,U,A,B⟩⟩ (t1,t2) s' tr).2.2 (fun hof W i' h ab nb cb ai ni ci mb qs H hjs hb hbl=>by
   subst hjs;exact iV m0 I J Q V T Y Z L U A B t1 t2 s' tr W H _ (fun W2 H2 hb2 hbl2=>rg m0 I J Q V T Y Z L U A B t1 t2 s' tr W2 H2 Aa (HF hof).2.2.2.1 (HF hof).2.2.2.2 hb2) hb) (fun hof=>by
   obtain⟨hm,hs,hr,h8⟩:=HF hof;exact M.submit_right (m:=⟨now,uB,bs,js⟩) Aa hm hs hr h8.1 h8.2) r hS).mono (fun e w' h=>h.post)
set_option maxRecDepth 10000 in
theorem il(now uB:Int)(id s' l' tr m0 I J Q V T Y Z L U A B t1 t2 p1 p2 p3 p4:Int)(w:World)(hz:cH w ab nb cb aj nj cj bs js)(l1:n1≤1048576)(l2:n2≤1048576)(l3:n3≤1048576)(l4:n4≤1048576)(hok:M.mkOk now uB bs js=true):
  Calls prog 11 #[.agg (aI now uB ab nb cb aj nj cj).toArray,.agg (bG 2 id s' l' tr m0 I J Q V T Y Z L U A B t1 t2 p1 p2 p3 p4 a1 n1 c1 a2 n2 c2 a3 n3 c3 a4 n4 c4).toArray] w (bC w w.heap.size (aZ now uB bs js 2 id s' l' tr m0 I J Q V T Y Z L U A B t1 t2 p1 p2 p3 p4 n1 n2 n3 n4 z1 z2 z3 z4)):=by
 have Aa:=ck hok
 have HF:(M.wkOk l'&&(decide (id=0)&&(decide (s'=0)&&(decide ((0:Int)=0)&&(decide (tr=0)&&(bQ m0 I J Q V T Y Z L U A B&&((decide (t1=0)&&decide (t2=0))&&((decide (p1=0)&&decide (p2=0))&&((decide (p3=0)&&decide (p4=0))&&(decide (n1=0)&&(decide (n2=0)&&(decide (n3=0)&&decide (n4=0)))))))))))))=true→M.wkOk l'=true:=by
  intro h;rw[uU]at h;have h:=h.1;exact h
 have hS:=dJ (n1:=n1) (n2:=n2) (n3:=n3) (n4:=n4) (z1:=z1) (z2:=z2) (z3:=z3) (z4:=z4) (t':=2) (id:=id) (s':=s') (l':=l') (tr:=tr) (m0:=m0) (I:=I) (J:=J) (Q:=Q) (V:=V) (T:=T) (Y:=Y) (Z:=Z) (L:=L) (U:=U) (A:=A) (B:=B) (t1:=t1) (t2:=t2) (p1:=p1) (p2:=p2) (p3:=p3) (p4:=p4) hok (M.wkOk l'&&(decide (id=0)&&(decide (s'=0)&&(decide ((0:Int)=0)&&(decide (tr=0)&&(bQ m0 I J Q V T Y Z L U A B&&((decide (t1=0)&&decide (t2=0))&&((decide (p1=0)&&decide (p2=0))&&((decide (p3=0)&&decide (p4=0))&&(decide (n1=0)&&(decide (n2=0)&&(decide (n3=0)&&decide (n4=0))))))))))))) (M.lease ⟨now,uB,bs,js⟩ l')
  (by
   show((bQ m0 I J Q V T Y Z L U A B&&(decide (t1=0)&&decide (t2=0)))&&(M.wkOk l'&&(decide (id=0)&&(decide (s'=0)&&(decide (tr=0)&&bD p1 p2 p3 p4 n1 n2 n3 n4)))))=_;unfold bD;rw[gi];rw[decide_eq_true (rfl:(0:Int)=0)];simp only[Bool.true_and]
   ac_rfl)
  rfl
 generalize aZ now uB bs js 2 id s' l' tr m0 I J Q V T Y Z L U A B t1 t2 p1 p2 p3 p4 n1 n2 n3 n4 z1 z2 z3 z4=r at *
 refine(cw now uB 2 id s' l' tr m0 I J Q V T Y Z L U A B t1 t2 p1 p2 p3 p4 w hz hok (.iface 159 (.agg #[it l'])) (M.wkOk l'&&(decide (id=0)&&(decide (s'=0)&&(decide ((0:Int)=0)&&(decide (tr=0)&&(bQ m0 I J Q V T Y Z L U A B&&((decide (t1=0)&&decide (t2=0))&&((decide (p1=0)&&decide (p2=0))&&((decide (p3=0)&&decide (p4=0))&&(decide (n1=0)&&(decide (n2=0)&&(decide (n3=0)&&decide (n4=0)))))))))))))
  (fun W=>j3 id s' l' tr m0 I J Q V T Y Z L U A B t1 t2 p1 p2 p3 p4 _ (fun W2=>@eu 2 id s' 0 tr m0 I J Q V T Y Z L U A B t1 t2 p1 p2 p3 p4 a1 a2 a3 a4 n1 n2 n3 n4 c1 c2 c3 c4 l1 l2 l3 l4 W2) W) (M.lease ⟨now,uB,bs,js⟩ l').1.now (M.lease ⟨now,uB,bs,js⟩ l').1.next (M.lease ⟨now,uB,bs,js⟩ l').1.bs (M.lease ⟨now,uB,bs,js⟩ l').1.js (M.lease ⟨now,uB,bs,js⟩ l').2.1 (M.lease ⟨now,uB,bs,js⟩ l').2.2 (fun hof W i' h ab nb cb ai ni ci mb qs H hjs hb hbl=>by
   subst hjs;exact jD l' W H _ (fun W2 H2 hb2 hbl2=>rZ l' W2 H2 Aa hb2) hb) (fun hof=>M.lease_right (m:=⟨now,uB,bs,js⟩) Aa (HF hof)) r hS).mono (fun e w' h=>h.post)
set_option maxRecDepth 10000 in
theorem gF(now uB:Int)(id s' l' tr m0 I J Q V T Y Z L U A B t1 t2 p1 p2 p3 p4:Int)(w:World)(hz:cH w ab nb cb aj nj cj bs js)(he:EnvX w aL aN aG aE aR)(h1:aw w a1 n1 c1 z1)(h2:aw w a2 n2 c2 z2)(h3:aw w a3 n3 c3 z3)(h4:aw w a4 n4 c4 z4)(hok:M.mkOk now uB bs js=true):
  Calls prog 11 #[.agg (aI now uB ab nb cb aj nj cj).toArray,.agg (bG 3 id s' l' tr m0 I J Q V T Y Z L U A B t1 t2 p1 p2 p3 p4 a1 n1 c1 a2 n2 c2 a3 n3 c3 a4 n4 c4).toArray] w (bC w w.heap.size (aZ now uB bs js 3 id s' l' tr m0 I J Q V T Y Z L U A B t1 t2 p1 p2 p3 p4 n1 n2 n3 n4 z1 z2 z3 z4)):=by
 have Ba:=ck hok
 have HF:((M.wkOk l'&&(M.inB id 1 1000000000&&M.inB s' 0 7))&&(decide ((0:Int)=0)&&(decide ((0:Int)=0)&&(decide ((0:Int)=0)&&(decide (tr=0)&&(bQ m0 I J Q V T Y Z L U A B&&((decide (t1=0)&&decide (t2=0))&&((decide ((0:Int)=0)&&decide ((0:Int)=0))&&((decide ((0:Int)=0)&&decide ((0:Int)=0))&&(decide ((0:Nat)=0)&&(decide ((0:Nat)=0)&&(decide ((0:Nat)=0)&&decide ((0:Nat)=0)))))))))))))=true→M.wkOk l'=true∧(1≤id∧id≤1000000000)∧0≤s'∧s'≤7:=by
  intro h;rw[uU]at h;have h:=h.1;simp only[uU,M.inB,decide_eq_true_eq]at h;exact⟨h.1,h.2.1,h.2.2⟩
 have hS:=dJ (n1:=n1) (n2:=n2) (n3:=n3) (n4:=n4) (z1:=z1) (z2:=z2) (z3:=z3) (z4:=z4) (t':=3) (id:=id) (s':=s') (l':=l') (tr:=tr) (m0:=m0) (I:=I) (J:=J) (Q:=Q) (V:=V) (T:=T) (Y:=Y) (Z:=Z) (L:=L) (U:=U) (A:=A) (B:=B) (t1:=t1) (t2:=t2) (p1:=p1) (p2:=p2) (p3:=p3) (p4:=p4) hok ((M.wkOk l'&&(M.inB id 1 1000000000&&M.inB s' 0 7))&&(decide ((0:Int)=0)&&(decide ((0:Int)=0)&&(decide ((0:Int)=0)&&(decide (tr=0)&&(bQ m0 I J Q V T Y Z L U A B&&((decide (t1=0)&&decide (t2=0))&&((decide ((0:Int)=0)&&decide ((0:Int)=0))&&((decide ((0:Int)=0)&&decide ((0:Int)=0))&&(decide ((0:Nat)=0)&&(decide ((0:Nat)=0)&&(decide ((0:Nat)=0)&&decide ((0:Nat)=0))))))))))))) (M.back (cr s' ⟨(p1,p2),(p3,p4),z1,z2,z3,z4⟩) ⟨now,uB,bs,js⟩ l' id s')
  (by
   show((bQ m0 I J Q V T Y Z L U A B&&(decide (t1=0)&&decide (t2=0)))&&(M.wkOk l'&&(M.inB id 1 1000000000&&(M.inB s' 0 7&&decide (tr=0)))))=_;rw[decide_eq_true (rfl:(0:Nat)=0)];rw[decide_eq_true (rfl:(0:Int)=0)];simp only[Bool.true_and,Bool.and_true]
   ac_rfl)
  rfl
 generalize aZ now uB bs js 3 id s' l' tr m0 I J Q V T Y Z L U A B t1 t2 p1 p2 p3 p4 n1 n2 n3 n4 z1 z2 z3 z4=r at *
 refine(cw now uB 3 id s' l' tr m0 I J Q V T Y Z L U A B t1 t2 p1 p2 p3 p4 w hz hok (.iface 161 (.agg (de l' id s' p1 p2 p3 p4 a1 n1 c1 a2 n2 c2 a3 n3 c3 a4 n4 c4).toArray)) ((M.wkOk l'&&(M.inB id 1 1000000000&&M.inB s' 0 7))&&(decide ((0:Int)=0)&&(decide ((0:Int)=0)&&(decide ((0:Int)=0)&&(decide (tr=0)&&(bQ m0 I J Q V T Y Z L U A B&&((decide (t1=0)&&decide (t2=0))&&((decide ((0:Int)=0)&&decide ((0:Int)=0))&&((decide ((0:Int)=0)&&decide ((0:Int)=0))&&(decide ((0:Nat)=0)&&(decide ((0:Nat)=0)&&(decide ((0:Nat)=0)&&decide ((0:Nat)=0)))))))))))))
  (fun W=>jB id s' l' tr m0 I J Q V T Y Z L U A B t1 t2 p1 p2 p3 p4 _ (fun W2=>@eu 3 0 0 0 tr m0 I J Q V T Y Z L U A B t1 t2 0 0 0 0 none none none none 0 0 0 0 0 0 0 0 (Nat.zero_le _) (Nat.zero_le _) (Nat.zero_le _) (Nat.zero_le _) W2) W) (M.back (cr s' ⟨(p1,p2),(p3,p4),z1,z2,z3,z4⟩) ⟨now,uB,bs,js⟩ l' id s').1.now (M.back (cr s' ⟨(p1,p2),(p3,p4),z1,z2,z3,z4⟩) ⟨now,uB,bs,js⟩ l' id s').1.next (M.back (cr s' ⟨(p1,p2),(p3,p4),z1,z2,z3,z4⟩) ⟨now,uB,bs,js⟩ l' id s').1.bs (M.back (cr s' ⟨(p1,p2),(p3,p4),z1,z2,z3,z4⟩) ⟨now,uB,bs,js⟩ l' id s').1.js (M.back (cr s' ⟨(p1,p2),(p3,p4),z1,z2,z3,z4⟩) ⟨now,uB,bs,js⟩ l' id s').2.1 (M.back (cr s' ⟨(p1,p2),(p3,p4),z1,z2,z3,z4⟩) ⟨now,uB,bs,js⟩ l' id s').2.2 (fun hof W i' h ab nb cb ai ni ci mb qs H hjs hb hbl=>by
   subst hjs;exact iU l' id s' p1 p2 p3 p4 W H _ (fun W2 H2 hb2 hbl2=>by
   have Ca:=Int.toNat_of_nonneg (HF hof).2.2.1;have Aa:=hbl.trans (hbl2.mono hbl.size);have hc:=mP l' id s'.toNat p1 p2 p3 p4 W2 H2 Ba (HF hof).1 (by have:=(HF hof).2.2;omega) hb2 (he.below Aa) (h1.below Aa) (h2.below Aa) (h3.below Aa) (h4.below Aa);rw[Ca]at hc;exact hc) hb) (fun hof=>M.back_right (m:=⟨now,uB,bs,js⟩) Ba (HF hof).1 (HF hof).2.2.1) r hS).mono (fun e w' h=>h.post)
set_option maxRecDepth 10000 in
theorem iF(now uB:Int)(id s' l' tr m0 I J Q V T Y Z L U A B t1 t2 p1 p2 p3 p4:Int)(w:World)(hz:cH w ab nb cb aj nj cj bs js)(l1:n1≤1048576)(l2:n2≤1048576)(l3:n3≤1048576)(l4:n4≤1048576)(hok:M.mkOk now uB bs js=true):
  Calls prog 11 #[.agg (aI now uB ab nb cb aj nj cj).toArray,.agg (bG 4 id s' l' tr m0 I J Q V T Y Z L U A B t1 t2 p1 p2 p3 p4 a1 n1 c1 a2 n2 c2 a3 n3 c3 a4 n4 c4).toArray] w (bC w w.heap.size (aZ now uB bs js 4 id s' l' tr m0 I J Q V T Y Z L U A B t1 t2 p1 p2 p3 p4 n1 n2 n3 n4 z1 z2 z3 z4)):=by
 have Aa:=ck hok
 have HF:(M.inB tr 1 1000000000&&(decide (id=0)&&(decide (s'=0)&&(decide (l'=0)&&(decide ((0:Int)=0)&&(bQ m0 I J Q V T Y Z L U A B&&((decide (t1=0)&&decide (t2=0))&&((decide (p1=0)&&decide (p2=0))&&((decide (p3=0)&&decide (p4=0))&&(decide (n1=0)&&(decide (n2=0)&&(decide (n3=0)&&decide (n4=0)))))))))))))=true→1≤tr∧tr≤1000000000:=by
  intro h;rw[uU]at h;have h:=h.1;simp only[uU,M.inB,decide_eq_true_eq]at h;exact h
 have hS:=dJ (n1:=n1) (n2:=n2) (n3:=n3) (n4:=n4) (z1:=z1) (z2:=z2) (z3:=z3) (z4:=z4) (t':=4) (id:=id) (s':=s') (l':=l') (tr:=tr) (m0:=m0) (I:=I) (J:=J) (Q:=Q) (V:=V) (T:=T) (Y:=Y) (Z:=Z) (L:=L) (U:=U) (A:=A) (B:=B) (t1:=t1) (t2:=t2) (p1:=p1) (p2:=p2) (p3:=p3) (p4:=p4) hok (M.inB tr 1 1000000000&&(decide (id=0)&&(decide (s'=0)&&(decide (l'=0)&&(decide ((0:Int)=0)&&(bQ m0 I J Q V T Y Z L U A B&&((decide (t1=0)&&decide (t2=0))&&((decide (p1=0)&&decide (p2=0))&&((decide (p3=0)&&decide (p4=0))&&(decide (n1=0)&&(decide (n2=0)&&(decide (n3=0)&&decide (n4=0))))))))))))) (M.tick ⟨now,uB,bs,js⟩ tr)
  (by
   show((bQ m0 I J Q V T Y Z L U A B&&(decide (t1=0)&&decide (t2=0)))&&(decide (l'=0)&&(decide (id=0)&&(decide (s'=0)&&(M.inB tr 1 1000000000&&bD p1 p2 p3 p4 n1 n2 n3 n4)))))=_;unfold bD;rw[gi];rw[decide_eq_true (rfl:(0:Int)=0)];simp only[Bool.true_and]
   ac_rfl)
  rfl
 generalize aZ now uB bs js 4 id s' l' tr m0 I J Q V T Y Z L U A B t1 t2 p1 p2 p3 p4 n1 n2 n3 n4 z1 z2 z3 z4=r at *
 refine(cw now uB 4 id s' l' tr m0 I J Q V T Y Z L U A B t1 t2 p1 p2 p3 p4 w hz hok (.iface 115 (.agg #[it tr])) (M.inB tr 1 1000000000&&(decide (id=0)&&(decide (s'=0)&&(decide (l'=0)&&(decide ((0:Int)=0)&&(bQ m0 I J Q V T Y Z L U A B&&((decide (t1=0)&&decide (t2=0))&&((decide (p1=0)&&decide (p2=0))&&((decide (p3=0)&&decide (p4=0))&&(decide (n1=0)&&(decide (n2=0)&&(decide (n3=0)&&decide (n4=0)))))))))))))
  (fun W=>kE id s' l' tr m0 I J Q V T Y Z L U A B t1 t2 p1 p2 p3 p4 _ (fun W2=>@eu 4 id s' l' 0 m0 I J Q V T Y Z L U A B t1 t2 p1 p2 p3 p4 a1 a2 a3 a4 n1 n2 n3 n4 c1 c2 c3 c4 l1 l2 l3 l4 W2) W) (M.tick ⟨now,uB,bs,js⟩ tr).1.now (M.tick ⟨now,uB,bs,js⟩ tr).1.next (M.tick ⟨now,uB,bs,js⟩ tr).1.bs (M.tick ⟨now,uB,bs,js⟩ tr).1.js (M.tick ⟨now,uB,bs,js⟩ tr).2.1 (M.tick ⟨now,uB,bs,js⟩ tr).2.2 (fun hof W i' h ab nb cb ai ni ci mb qs H hjs hb hbl=>by
   subst hjs;exact j5 tr W H _ (fun W2 H2 hb2 hbl2=>sZ tr W2 H2 Aa (HF hof).1 (HF hof).2 hb2) hb) (fun hof=>M.tick_right (m:=⟨now,uB,bs,js⟩) Aa (HF hof).1) r hS).mono (fun e w' h=>h.post)
set_option maxRecDepth 10000 in
theorem gD(now uB:Int)(id s' l' tr m0 I J Q V T Y Z L U A B t1 t2 p1 p2 p3 p4:Int)(w:World)(hz:cH w ab nb cb aj nj cj bs js)(l1:n1≤1048576)(l2:n2≤1048576)(l3:n3≤1048576)(l4:n4≤1048576)(hok:M.mkOk now uB bs js=true):
  Calls prog 11 #[.agg (aI now uB ab nb cb aj nj cj).toArray,.agg (bG 5 id s' l' tr m0 I J Q V T Y Z L U A B t1 t2 p1 p2 p3 p4 a1 n1 c1 a2 n2 c2 a3 n3 c3 a4 n4 c4).toArray] w (bC w w.heap.size (aZ now uB bs js 5 id s' l' tr m0 I J Q V T Y Z L U A B t1 t2 p1 p2 p3 p4 n1 n2 n3 n4 z1 z2 z3 z4)):=by
 have Aa:=ck hok
 have HF:(M.inB id 1 1000000000&&(decide ((0:Int)=0)&&(decide (s'=0)&&(decide (l'=0)&&(decide (tr=0)&&(bQ m0 I J Q V T Y Z L U A B&&((decide (t1=0)&&decide (t2=0))&&((decide (p1=0)&&decide (p2=0))&&((decide (p3=0)&&decide (p4=0))&&(decide (n1=0)&&(decide (n2=0)&&(decide (n3=0)&&decide (n4=0)))))))))))))=true→1≤id∧id≤1000000000:=by
  intro h;rw[uU]at h;have h:=h.1;simp only[uU,M.inB,decide_eq_true_eq]at h;exact h
 have hS:=dJ (n1:=n1) (n2:=n2) (n3:=n3) (n4:=n4) (z1:=z1) (z2:=z2) (z3:=z3) (z4:=z4) (t':=5) (id:=id) (s':=s') (l':=l') (tr:=tr) (m0:=m0) (I:=I) (J:=J) (Q:=Q) (V:=V) (T:=T) (Y:=Y) (Z:=Z) (L:=L) (U:=U) (A:=A) (B:=B) (t1:=t1) (t2:=t2) (p1:=p1) (p2:=p2) (p3:=p3) (p4:=p4) hok (M.inB id 1 1000000000&&(decide ((0:Int)=0)&&(decide (s'=0)&&(decide (l'=0)&&(decide (tr=0)&&(bQ m0 I J Q V T Y Z L U A B&&((decide (t1=0)&&decide (t2=0))&&((decide (p1=0)&&decide (p2=0))&&((decide (p3=0)&&decide (p4=0))&&(decide (n1=0)&&(decide (n2=0)&&(decide (n3=0)&&decide (n4=0))))))))))))) (M.cancel ⟨now,uB,bs,js⟩ id)
  (by
   show((bQ m0 I J Q V T Y Z L U A B&&(decide (t1=0)&&decide (t2=0)))&&(decide (l'=0)&&(M.inB id 1 1000000000&&(decide (s'=0)&&(decide (tr=0)&&bD p1 p2 p3 p4 n1 n2 n3 n4)))))=_;unfold bD;rw[gi];rw[decide_eq_true (rfl:(0:Int)=0)];simp only[Bool.true_and]
   ac_rfl)
  rfl
 generalize aZ now uB bs js 5 id s' l' tr m0 I J Q V T Y Z L U A B t1 t2 p1 p2 p3 p4 n1 n2 n3 n4 z1 z2 z3 z4=r at *
 refine(cw now uB 5 id s' l' tr m0 I J Q V T Y Z L U A B t1 t2 p1 p2 p3 p4 w hz hok (.iface 163 (.agg #[it id])) (M.inB id 1 1000000000&&(decide ((0:Int)=0)&&(decide (s'=0)&&(decide (l'=0)&&(decide (tr=0)&&(bQ m0 I J Q V T Y Z L U A B&&((decide (t1=0)&&decide (t2=0))&&((decide (p1=0)&&decide (p2=0))&&((decide (p3=0)&&decide (p4=0))&&(decide (n1=0)&&(decide (n2=0)&&(decide (n3=0)&&decide (n4=0)))))))))))))
  (fun W=>jA id s' l' tr m0 I J Q V T Y Z L U A B t1 t2 p1 p2 p3 p4 _ (fun W2=>@eu 5 0 s' l' tr m0 I J Q V T Y Z L U A B t1 t2 p1 p2 p3 p4 a1 a2 a3 a4 n1 n2 n3 n4 c1 c2 c3 c4 l1 l2 l3 l4 W2) W) (M.cancel ⟨now,uB,bs,js⟩ id).1.now (M.cancel ⟨now,uB,bs,js⟩ id).1.next (M.cancel ⟨now,uB,bs,js⟩ id).1.bs (M.cancel ⟨now,uB,bs,js⟩ id).1.js (M.cancel ⟨now,uB,bs,js⟩ id).2.1 (M.cancel ⟨now,uB,bs,js⟩ id).2.2 (fun hof W i' h ab nb cb ai ni ci mb qs H hjs hb hbl=>by
   subst hjs;exact iT id W H _ (fun W2 H2 hb2 hbl2=>pY id W2 H2 Aa hb2) hb) (fun hof=>M.cancel_right (m:=⟨now,uB,bs,js⟩) Aa) r hS).mono (fun e w' h=>h.post)
set_option maxRecDepth 10000 in
theorem gK(now uB:Int)(t' id s' l' tr m0 I J Q V T Y Z L U A B t1 t2 p1 p2 p3 p4:Int)(w:World)(hz:cH w ab nb cb aj nj cj bs js)(l1:n1≤1048576)(l2:n2≤1048576)(l3:n3≤1048576)(l4:n4≤1048576)(he:EnvX w aL aN aG aE aR)(h1:aw w a1 n1 c1 z1)(h2:aw w a2 n2 c2 z2)(h3:aw w a3 n3 c3 z3)(h4:aw w a4 n4 c4 z4):
  Calls prog 11 #[.agg (aI now uB ab nb cb aj nj cj).toArray,.agg (bG t' id s' l' tr m0 I J Q V T Y Z L U A B t1 t2 p1 p2 p3 p4 a1 n1 c1 a2 n2 c2 a3 n3 c3 a4 n4 c4).toArray] w (bC w w.heap.size (aZ now uB bs js t' id s' l' tr m0 I J Q V T Y Z L U A B t1 t2 p1 p2 p3 p4 n1 n2 n3 n4 z1 z2 z3 z4)):=by
 cases hok:M.mkOk now uB bs js with
 | false=>
  have hS:aZ now uB bs js t' id s' l' tr m0 I J Q V T Y Z L U A B t1 t2 p1 p2 p3 p4 n1 n2 n3 n4 z1 z2 z3 z4=(M.Mt.zero,1,0):=by
   unfold aZ M.acted;rw[if_pos (show M.Mt.ok ⟨now,uB,bs,js⟩=false from hok)]
  rw[hS];refine(jF now uB t' id s' l' tr m0 I J Q V T Y Z L U A B t1 t2 p1 p2 p3 p4 w hz hok).mono ?_;rintro e w' ⟨rfl,hb⟩;exact⟨_,rfl,_,_,_,_,_,_,_,rfl,aV.zero _ _,rfl,hb⟩
 | true=>
  by_cases k1:t'=1
  ·subst k1;exact gH now uB id s' l' tr m0 I J Q V T Y Z L U A B t1 t2 p1 p2 p3 p4 w hz l1 l2 l3 l4 hok
  by_cases k2:t'=2
  ·subst k2;exact il now uB id s' l' tr m0 I J Q V T Y Z L U A B t1 t2 p1 p2 p3 p4 w hz l1 l2 l3 l4 hok
  by_cases k3:t'=3
  ·subst k3;exact gF now uB id s' l' tr m0 I J Q V T Y Z L U A B t1 t2 p1 p2 p3 p4 w hz he h1 h2 h3 h4 hok
  by_cases k4:t'=4
  ·subst k4;exact iF now uB id s' l' tr m0 I J Q V T Y Z L U A B t1 t2 p1 p2 p3 p4 w hz l1 l2 l3 l4 hok
  by_cases k5:t'=5
  ·subst k5;exact gD now uB id s' l' tr m0 I J Q V T Y Z L U A B t1 t2 p1 p2 p3 p4 w hz l1 l2 l3 l4 hok
  have hS:=dJ (n1:=n1) (n2:=n2) (n3:=n3) (n4:=n4) (z1:=z1) (z2:=z2) (z3:=z3) (z4:=z4) (t':=t') (id:=id) (s':=s') (l':=l') (tr:=tr) (m0:=m0) (I:=I) (J:=J) (Q:=Q) (V:=V) (T:=T) (Y:=Y) (Z:=Z) (L:=L) (U:=U) (A:=A) (B:=B) (t1:=t1) (t2:=t2) (p1:=p1) (p2:=p2) (p3:=p3) (p4:=p4) hok false _
   (by unfold M.formB;rw[if_neg k1,if_neg k2,if_neg k3,if_neg k4,if_neg k5]) rfl
  generalize aZ now uB bs js t' id s' l' tr m0 I J Q V T Y Z L U A B t1 t2 p1 p2 p3 p4 n1 n2 n3 n4 z1 z2 z3 z4=r at *;refine(cw now uB t' id s' l' tr m0 I J Q V T Y Z L U A B t1 t2 p1 p2 p3 p4 w hz hok .nilIface false (fun W=>pT t' id s' l' tr m0 I J Q V T Y Z L U A B t1 t2 p1 p2 p3 p4 (by omega) W) 0 0 [] [] 0 0 (fun h=>by cases h) (fun h=>by cases h) r ⟨hS.1,fun h=>by cases h⟩).mono (fun e w' h=>h.post)
theorem aV.seesR{qs:List MQ}(H:aV w i' ab nb cb bs aj nj cj qs)(hq:qs.map (·.1)=js):cH w ab nb cb aj nj cj bs js:=by subst hq;exact H.sees
theorem aw.cellAt(h:aw w (some ⟨b,o,none⟩) n cap zs)(hi:i<n):w.cell? ⟨b,o+i,none⟩=some (.int .i64 (zs.getD i 0)):=by
 obtain⟨b',o',e,hc⟩:=h.at (by omega);have e:=m2 e;injection e with e1 e2;subst e1 e2;exact hc i hi
theorem ep.tasksAt(h:ep w (some ⟨b,o,none⟩) n cap js)(hi:i<n):∃(ta:Option Addr) (tc:Nat),w.cell? ⟨b,o+i*18+17,none⟩=some (.slice ta (js.getD i M.j0).ts.length tc)∧bW w ta (js.getD i M.j0).ts.length tc (js.getD i M.j0).ts:=by
 obtain⟨b',o',e,hc⟩:=h.at (by omega);have e:=m2 e;injection e with e1 e2;subst e1 e2;obtain⟨ta,tc,h1,h2⟩:=hc i hi;exact⟨ta,tc,(h1 17 (by omega)).trans rfl,h2⟩
theorem bW.workerAt{ts:List M.Tk}(h:bW w (some ⟨b,o,none⟩) n cap ts)(hi:i<n):w.cell? ⟨b,o+i*3+1,none⟩=some (.int .i64 (ts.getD i M.t0).l'):=by
 obtain⟨b',o',e,hc⟩:=h.at (by omega);have e:=m2 e;injection e with e1 e2;subst e1 e2;exact(hc i hi 1 (by omega)).trans rfl
set_option maxRecDepth 10000 in
theorem fnBanned_any(w:World)(he:EnvX w aL aN aG aE aR)(hrow:Row .u8 w ca len cap zs):
  Rt 4 #[.slice ca len cap] w (.bool true):=by
 have Nc:(len:Int)≤9223372036854775807:=by
  rcases hrow with⟨_,rfl,_⟩ | ⟨x,_,h1,h2,_⟩
  ·simp
  ·unfold maxLen at h2;omega
 by_cases Rb:(1048576:Int)<(len:Int)
 ·
  go_enter func4,ntmps4;(go_wp2_with fail);refine(rv _ _ _ _).mono ?_;rintro e w' ⟨rfl,rfl⟩;go_wp2;go_ret;exact⟨rfl,m5 _ _⟩
 have Oc:decide ((1048576:Int)<(len:Int))=false:=(by simpa using Rb);have Sb:=Hd hrow;have HE:=Hd he;go_enter func4,ntmps4;(go_wp2_with fail);refine(rv _ _ _ _).mono ?_;rintro e wz ⟨rfl,Tb⟩;have Pc:=Tb.symm;subst Pc;(go_wp2_with fail);refine(kH w Sb.o).mono ?_;rintro e w1 ⟨Da,Ea,ab,nb,cb,bs,aj,nj,cj,js,Fa,id,Ga,Ca,Ha,m0,I,J,Q,V,T,Y,Z,L,U,Ia,Ja,t1,t2,p1,p2,p3,p4,a1,a2,a3,a4,n1,n2,n3,n4,c1,c2,c3,c4,z1,z2,z3,z4,rfl,hM,hS,⟨l1,l2,l3,l4⟩,hb⟩;have Pa:=Hd hb;have Xa:=Hd (HE.o.below hb);obtain⟨R,HR⟩:∃R,H9 (aZ Da Ea bs js Fa id Ga Ca Ha m0 I J Q V T Y Z L U Ia Ja t1 t2 p1 p2 p3 p4 n1 n2 n3 n4 z1 z2 z3 z4=R):=⟨_,rfl⟩;obtain⟨⟨N,X,BS,JS⟩,rc,rd⟩:=R
 have CI:H9 (∀W,m1 w1 W→Calls prog 11 #[.agg #[.int .i64 Da,.int .i64 Ea,.slice ab nb cb,.slice aj nj cj],.agg #[.int .i64 Fa,.int .i64 id,.int .i64 Ga,.int .i64 Ca,.int .i64 Ha,.int .i64 m0,.int .i64 I,.int .i64 J,.int .i64 Q,.int .i64 V,.int .i64 T,.int .i64 Y,.int .i64 Z,.int .i64 L,.int .i64 U,.int .i64 Ia,.int .i64 Ja,.int .i64 t1,.int .i64 t2,.int .i64 p1,.int .i64 p2,.int .i64 p3,.int .i64 p4,.slice a1 n1 c1,.slice a2 n2 c2,.slice a3 n3 c3,.slice a4 n4 c4]] W (fun e w'=>∃xb nx xc xj mx xd,∃qx:List MQ,e=.returned (.tuple #[.agg #[.int .i64 N,.int .i64 X,.slice xb nx xc,.slice xj mx xd],.int .i64 rc,.int .i64 rd])∧aV w' W.heap.size xb nx xc BS xj mx xd qx∧qx.map (·.1)=JS∧m1 W w')):=fun W hb=>by
  have h:=gK Da Ea Fa id Ga Ca Ha m0 I J Q V T Y Z L U Ia Ja t1 t2 p1 p2 p3 p4 W (hM.below hb) (by omega) (by omega) (by omega) (by omega) (Xa.o.below hb) (hS.1.below hb) (hS.2.1.below hb) (hS.2.2.1.below hb) (hS.2.2.2.below hb);rw[HR.o]at h;exact h.mono (fun e w' ⟨v,he,xb,nx,xc,xj,mx,xd,qx,hv,hM,hq,hb⟩=>⟨xb,nx,xc,xj,mx,xd,qx,by subst hv;exact he,hM,hq,hb⟩)
 have CS:H9 (∀W,m1 w1 W→Calls prog 12 #[.agg #[.int .i64 Da,.int .i64 Ea,.slice ab nb cb,.slice aj nj cj],.agg #[.int .i64 Fa,.int .i64 id,.int .i64 Ga,.int .i64 Ca,.int .i64 Ha,.int .i64 m0,.int .i64 I,.int .i64 J,.int .i64 Q,.int .i64 V,.int .i64 T,.int .i64 Y,.int .i64 Z,.int .i64 L,.int .i64 U,.int .i64 Ia,.int .i64 Ja,.int .i64 t1,.int .i64 t2,.int .i64 p1,.int .i64 p2,.int .i64 p3,.int .i64 p4,.slice a1 n1 c1,.slice a2 n2 c2,.slice a3 n3 c3,.slice a4 n4 c4]] W (fun e w'=>∃xb nx xc xj mx xd,∃qx:List MQ,e=.returned (.tuple #[.agg #[.int .i64 N,.int .i64 X,.slice xb nx xc,.slice xj mx xd],.int .i64 rc,.int .i64 rd])∧aV w' W.heap.size xb nx xc BS xj mx xd qx∧qx.map (·.1)=JS∧m1 W w')):=fun W hb=>by
  have h:=gS ab aj nb cb nj cj bs js Da Ea Fa id Ga Ca Ha m0 I J Q V T Y Z L U Ia Ja t1 t2 p1 p2 p3 p4 a1 a2 a3 a4 n1 n2 n3 n4 c1 c2 c3 c4 z1 z2 z3 z4 W (hM.below hb) (hS.1.below hb) (hS.2.1.below hb) (hS.2.2.1.below hb) (hS.2.2.2.below hb) (by omega) (by omega) (by omega) (by omega);rw[HR.o]at h;exact h.mono (fun e w' ⟨v,he,xb,nx,xc,xj,mx,xd,qx,hv,hM,hq,hb⟩=>⟨xb,nx,xc,xj,mx,xd,qx,by subst hv;exact he,hM,hq,hb⟩)
 have Ya:H9 (rc≠1→M.Right N X BS JS):=fun h=>(rf HR.o h).2;have Qc:H9 (rc=7→Ca∈BS):=fun h=>sX HR.o h
 have CL:H9 (rc≠1→∀x∈BS,∀W xb nx xc xj mx xd,m1 w1 W→cH W xb nx xc xj mx xd BS JS→Calls prog 11 #[.agg #[.int .i64 N,.int .i64 X,.slice xb nx xc,.slice xj mx xd],.agg #[.int .i64 2,.int .i64 0,.int .i64 0,.int .i64 x,.int .i64 0,.int .i64 0,.int .i64 0,.int .i64 0,.int .i64 0,.int .i64 0,.int .i64 0,.int .i64 0,.int .i64 0,.int .i64 0,.int .i64 0,.int .i64 0,.int .i64 0,.int .i64 0,.int .i64 0,.int .i64 0,.int .i64 0,.int .i64 0,.int .i64 0,.slice none 0 0,.slice none 0 0,.slice none 0 0,.slice none 0 0]] W (fun e w'=>∃xb nx xc xj mx xd,∃qx:List MQ,e=.returned (.tuple #[.agg #[.int .i64 N,.int .i64 X,.slice xb nx xc,.slice xj mx xd],.int .i64 5,.int .i64 0])∧aV w' W.heap.size xb nx xc BS xj mx xd qx∧qx.map (·.1)=JS∧m1 W w')):=fun hr x hx W xb nx xc xj mx xd hb hM=>by
  have h:=gK N X 2 0 0 x 0 0 0 0 0 0 0 0 0 0 0 0 0 0 0 0 0 0 0 W hM (by decide:(0:Nat)≤1048576) (by decide:(0:Nat)≤1048576) (by decide:(0:Nat)≤1048576) (by decide:(0:Nat)≤1048576) (Xa.o.below hb) (aP W) (aP W) (aP W) (aP W);rw[qZ (Ya.o hr) hx]at h;exact h.mono (fun e w' ⟨v,he,xb,nx,xc,xj,mx,xd,qx,hv,hM,hq,hb⟩=>⟨xb,nx,xc,xj,mx,xd,qx,by subst hv;exact he,hM,hq,hb⟩)
 (go_wp2_with(with_reducible refine aA 3 ?_ ?_;rfl));refine sn 27 aT.toArray ⟨rfl,rfl,by kernel_rfl⟩ ?_;have Ba:=eK w1 (.cells aT.toArray 27);have LA:=ct w1 aT 27;have Za:w1.heap.size<(w1.alloc (.cells aT.toArray 27)).heap.size:=(by simp);generalize(w1.alloc (.cells aT.toArray 27))=wa at *;have Ab:=Hd Ba;generalize Dd:w1.heap.size=mb at LA Za ⊢;(go_wp2_with(with_reducible refine aA 4 ?_ ?_;rfl));refine sn 37 (bM 0).toArray ⟨rfl,rfl,by kernel_rfl⟩ ?_;have Ba:=eK wa (.cells (bM 0).toArray 37);have LV:=ct wa (bM 0) 37;have Rc:wa.heap.size<(wa.alloc (.cells (bM 0).toArray 37)).heap.size:=(by simp);generalize(wa.alloc (.cells (bM 0).toArray 37))=wb at *;have Bb:=LA.b Ba;have Ub:=Ab.t Ba;have Sc:=Za;generalize wa.heap.size=pb at LV Rc Sc ⊢;(go_wp2_with(with_reducible refine aF ?_ ?_;rfl));refine fq 27 mb 0 (aI Da Ea ab nb cb aj nj cj) (Bb.o.there 0 4 (by simp)) ⟨rfl,by kernel_rfl,by kernel_rfl,_,_,rfl,by kernel_rfl,by kernel_rfl⟩ ?_;have Vb:H9 (au (wb.setCells mb 0 (aI Da Ea ab nb cb aj nj cj)) mb (aI Da Ea ab nb cb aj nj cj)):=Bb.o.setCells (aI Da Ea ab nb cb aj nj cj) 0 (by simp);have Cb:H9 (au (wb.setCells mb 0 (aI Da Ea ab nb cb aj nj cj)) pb (bM 0)):=LV.o.farCells (aI Da Ea ab nb cb aj nj cj) 0 (by omega);have Wb:H9 (m1 w1 (wb.setCells mb 0 (aI Da Ea ab nb cb aj nj cj))):=aM _ 0 Ub.o (by omega);generalize wb.setCells mb 0 (aI Da Ea ab nb cb aj nj cj)=wc at *;(go_wp2_with(with_reducible refine aF ?_ ?_;rfl));refine fq 37 pb 0 (bG Fa id Ga Ca Ha m0 I J Q V T Y Z L U Ia Ja t1 t2 p1 p2 p3 p4 a1 n1 c1 a2 n2 c2 a3 n3 c3 a4 n4 c4) (Cb.o.there 0 27 (by simp)) ⟨rfl,by kernel_rfl,by kernel_rfl,_,_,rfl,by kernel_rfl,by kernel_rfl⟩ ?_;have Db:H9 (au (wc.setCells pb 0 (bG Fa id Ga Ca Ha m0 I J Q V T Y Z L U Ia Ja t1 t2 p1 p2 p3 p4 a1 n1 c1 a2 n2 c2 a3 n3 c3 a4 n4 c4)) mb (aI Da Ea ab nb cb aj nj cj)):=Vb.o.farCells (bG Fa id Ga Ca Ha m0 I J Q V T Y Z L U Ia Ja t1 t2 p1 p2 p3 p4 a1 n1 c1 a2 n2 c2 a3 n3 c3 a4 n4 c4) 0 (by omega);have Eb:H9 (au (wc.setCells pb 0 (bG Fa id Ga Ca Ha m0 I J Q V T Y Z L U Ia Ja t1 t2 p1 p2 p3 p4 a1 n1 c1 a2 n2 c2 a3 n3 c3 a4 n4 c4)) pb (bG Fa id Ga Ca Ha m0 I J Q V T Y Z L U Ia Ja t1 t2 p1 p2 p3 p4 a1 n1 c1 a2 n2 c2 a3 n3 c3 a4 n4 c4)):=Cb.o.setCells (bG Fa id Ga Ca Ha m0 I J Q V T Y Z L U Ia Ja t1 t2 p1 p2 p3 p4 a1 n1 c1 a2 n2 c2 a3 n3 c3 a4 n4 c4) 0 (by simp);have Ta:H9 (m1 w1 (wc.setCells pb 0 (bG Fa id Ga Ca Ha m0 I J Q V T Y Z L U Ia Ja t1 t2 p1 p2 p3 p4 a1 n1 c1 a2 n2 c2 a3 n3 c3 a4 n4 c4))):=aM _ 0 Wb.o (by omega);generalize wc.setCells pb 0 (bG Fa id Ga Ca Ha m0 I J Q V T Y Z L U Ia Ja t1 t2 p1 p2 p3 p4 a1 n1 c1 a2 n2 c2 a3 n3 c3 a4 n4 c4)=wd at *;(go_wp2_with(with_reducible refine aA 28 ?_ ?_;rfl));refine fE 27 mb 0 (aI Da Ea ab nb cb aj nj cj) Db.o.row underlying27 ⟨rfl,rfl,by kernel_rfl,_,rfl,by kernel_rfl⟩ ?_;(go_wp2_with(with_reducible refine aA 29 ?_ ?_;rfl));refine fE 37 pb 0 (bG Fa id Ga Ca Ha m0 I J Q V T Y Z L U Ia Ja t1 t2 p1 p2 p3 p4 a1 n1 c1 a2 n2 c2 a3 n3 c3 a4 n4 c4) Eb.o.row underlying37 ⟨rfl,rfl,by kernel_rfl,_,rfl,by kernel_rfl⟩ ?_;(go_wp2_with fail);refine(CI.o _ Ta.o).mono ?_;rintro e w2 ⟨xb,nx,xc,xj,mx,xd,qx,rfl,hM,hq,hb⟩;have SX:=Hd (hM.seesR hq);have Xb:=Db.b hb;have Yb:=Eb.b hb;have Fb:=Ta.t hb;(go_wp2_with(with_reducible refine aA 5 ?_ ?_;rfl));refine sn 27 aT.toArray ⟨rfl,rfl,by kernel_rfl⟩ ?_;have Ba:=eK w2 (.cells aT.toArray 27);have LX:=ct w2 aT 27;have Zb:w2.heap.size<(w2.alloc (.cells aT.toArray 27)).heap.size:=(by simp);generalize(w2.alloc (.cells aT.toArray 27))=Gb at *;(go_wp2_with(with_reducible refine aF ?_ ?_;rfl));refine fq 27 w2.heap.size 0 (aI N X xb nx xc xj mx xd) (LX.o.there 0 4 (by simp)) ⟨rfl,by kernel_rfl,by kernel_rfl,_,_,rfl,by kernel_rfl,by kernel_rfl⟩ ?_;have Na:m1 w2 (Gb.setCells w2.heap.size 0 (aI N X xb nx xc xj mx xd)):=aM _ 0 Ba (m3 _);have LN:H9 (au (Gb.setCells w2.heap.size 0 (aI N X xb nx xc xj mx xd)) w2.heap.size (aI N X xb nx xc xj mx xd)):=LX.o.setCells (aI N X xb nx xc xj mx xd) 0 (by simp);generalize Gb.setCells w2.heap.size 0 (aI N X xb nx xc xj mx xd)=w3 at *;have Ac:=Hd (SX.o.below Na);have Bc:=Xb.b Na;have Hb:=Yb.b Na;have Ib:=Fb.t Na;generalize w2.heap.size=nk at LN Zb ⊢;(go_wp2_with(with_reducible refine aA 35 ?_ ?_;rfl));refine fE 27 mb 0 (aI Da Ea ab nb cb aj nj cj) Bc.o.row underlying27 ⟨rfl,rfl,by kernel_rfl,_,rfl,by kernel_rfl⟩ ?_;(go_wp2_with(with_reducible refine aA 36 ?_ ?_;rfl));refine fE 37 pb 0 (bG Fa id Ga Ca Ha m0 I J Q V T Y Z L U Ia Ja t1 t2 p1 p2 p3 p4 a1 n1 c1 a2 n2 c2 a3 n3 c3 a4 n4 c4) Hb.o.row underlying37 ⟨rfl,rfl,by kernel_rfl,_,rfl,by kernel_rfl⟩ ?_;(go_wp2_with fail);obtain⟨TC,Aa⟩:∃TC:World→Prop,H9 (∀W,TC W↔(au W nk (aI N X xb nx xc xj mx xd)∧cH W xb nx xc xj mx xd BS JS∧au W pb (bG Fa id Ga Ca Ha m0 I J Q V T Y Z L U Ia Ja t1 t2 p1 p2 p3 p4 a1 n1 c1 a2 n2 c2 a3 n3 c3 a4 n4 c4)∧m1 w1 W)):=⟨_,fun _=>Iff.rfl⟩;have La:=Hd (fun W W' h hb=>(Aa.o W').2 (by have h:=(Aa.o W).1 h;exact⟨h.1.belowS hb,h.2.1.below hb,h.2.2.1.belowS hb,h.2.2.2.trans (hb.mono h.2.2.2.size)⟩));have T3:=Hd ((Aa.o _).2 ⟨LN.o,Ac.o,Hb.o,Ib.o⟩);refine(CS.o _ Ib.o).mono ?_;rintro e w4 ⟨yb,ny,yc,yj,my,yd,qy,rfl,hM,hq,hb⟩;have T4:=Hd (La.o _ _ T3.o hb);(go_wp2_with(with_reducible refine aA 8 ?_ ?_;rfl));refine sn 27 aT.toArray ⟨rfl,rfl,by kernel_rfl⟩ ?_;have Ba:=eK w4 (.cells aT.toArray 27);have LX:=ct w4 aT 27;have Tc:w4.heap.size<(w4.alloc (.cells aT.toArray 27)).heap.size:=(by simp);generalize(w4.alloc (.cells aT.toArray 27))=Cc at *;(go_wp2_with(with_reducible refine aF ?_ ?_;rfl));refine fq 27 w4.heap.size 0 (aI N X yb ny yc yj my yd) (LX.o.there 0 4 (by simp)) ⟨rfl,by kernel_rfl,by kernel_rfl,_,_,rfl,by kernel_rfl,by kernel_rfl⟩ ?_;have Na:m1 w4 (Cc.setCells w4.heap.size 0 (aI N X yb ny yc yj my yd)):=aM _ 0 Ba (m3 _);generalize Cc.setCells w4.heap.size 0 (aI N X yb ny yc yj my yd)=w5 at *;have T5:=Hd (La.o _ _ T4.o Na);generalize w4.heap.size=yk;have Ed:(rc != rc)=false:=(by simp);have Fd:(rc==rc)=true:=(by simp);by_cases Ua:rc=1
 case pos=>
  have Uc:(rc==1)=true:=(by simp[Ua]);go_wp2;go_ret;exact⟨by simp,Pa.o.trans (((Aa.o _).1 T5.o).2.2.2.mono Pa.o.size)⟩
 have Uc:(rc==1)=false:=(by simp[Ua]);have Dc:=Hd (Ya.o Ua);have Jb:=CL.o Ua
 (go_wp2_with fail);have Gd:=((Aa.o _).1 T5.o).2.1.b.len;have Id:=((Aa.o _).1 T5.o).2.1.j.len;have Jd:(nx:Int)≤9223372036854775807:=(by have h:=((Aa.o _).1 T5.o).2.1.b;have:=h.le;have:=h.big;omega);have Kd:(mx:Int)≤9223372036854775807:=(by have h:=((Aa.o _).1 T5.o).2.1.j;have:=h.le;have:=h.big;omega);have Ld:(nx:Int)≤xc:=(by have h:=((Aa.o _).1 T5.o).2.1.b.le;omega);have Nd:(mx:Int)≤xd:=by have h:=((Aa.o _).1 T5.o).2.1.j.le;omega
 go_loopw [11] (fun x wr=>∃n:Nat,n≤nx∧x=it n∧TC wr) (fun x _=>nx-(intOf x).toNat)
 case atStart=>exact⟨0,by omega,rfl,T5.o⟩
 case round=>
  obtain⟨n,hn,rfl,hT⟩:=hrel;have HT:=Hd hT;have J:=((Aa.o _).1 HT.o).1.c 2;by_cases Ec:n<nx
  case neg=>
   have Vc:¬ (n:Int)<(nx:Int):=(by omega);by_cases h7:rc=7
   case neg=>
    have h8:(rc != 7)=true:=(by simp[h7]);go_wp2;go_ret;exact⟨rfl,Pa.o.trans (((Aa.o _).1 HT.o).2.2.2.mono Pa.o.size)⟩
   have h8:(rc != 7)=false:=(by simp[h7]);have Wc:=Qc.o h7;have p3:=((Aa.o _).1 HT.o).2.2.1.c 3;(go_wp2_with(with_reducible refine aA 109 ?_ ?_;rfl));refine fE 27 nk 0 (aI N X xb nx xc xj mx xd) ((Aa.o _).1 HT.o).1.row underlying27 ⟨rfl,rfl,by kernel_rfl,_,rfl,by kernel_rfl⟩ ?_;(go_wp2_with fail);refine(Jb Ca Wc wr xb nx xc xj mx xd ((Aa.o _).1 HT.o).2.2.2 ((Aa.o _).1 HT.o).2.1).mono ?_;rintro e ws ⟨yb,ny,yc,yj,my,yd,qy,rfl,hM,hq,hb⟩;have T6:=Hd (La.o _ _ HT.o hb);(go_wp2_with(with_reducible refine aA 17 ?_ ?_;rfl));refine sn 27 aT.toArray ⟨rfl,rfl,by kernel_rfl⟩ ?_;have Ba:=eK ws (.cells aT.toArray 27);have LX:=ct ws aT 27;have Od:ws.heap.size<(ws.alloc (.cells aT.toArray 27)).heap.size:=(by simp);generalize(ws.alloc (.cells aT.toArray 27))=Fc at *;(go_wp2_with(with_reducible refine aF ?_ ?_;rfl));refine fq 27 ws.heap.size 0 (aI N X yb ny yc yj my yd) (LX.o.there 0 4 (by simp)) ⟨rfl,by kernel_rfl,by kernel_rfl,_,_,rfl,by kernel_rfl,by kernel_rfl⟩ ?_;have Na:m1 ws (Fc.setCells ws.heap.size 0 (aI N X yb ny yc yj my yd)):=aM _ 0 Ba (m3 _);generalize Fc.setCells ws.heap.size 0 (aI N X yb ny yc yj my yd)=wt at *;have T7:=Hd (La.o _ _ T6.o Na);go_wp2;go_ret;exact⟨rfl,Pa.o.trans (((Aa.o _).1 T7.o).2.2.2.mono Pa.o.size)⟩
  case pos=>
   obtain⟨b0,o0,rfl,-⟩:=((Aa.o _).1 HT.o).2.1.b.at (by omega);have Va:BS.getD n 0∈BS:=(by rw[m4,m6 (by omega)];simp);obtain⟨x,HX⟩:∃x,H9 (BS.getD n 0=x):=⟨_,rfl⟩;rw[HX.o]at Va;have Vc:(n:Int)<(nx:Int):=(by omega);have Pd:(0:Int)≤(n:Int):=(by omega);(go_wp2_with fail)
   go_loopw [12] (fun y wr=>∃j:Nat,j≤mx∧y=it j∧TC wr) (fun y _=>mx-(intOf y).toNat)
   case atStart=>exact⟨0,by omega,rfl,HT.o⟩
   case round=>
    obtain⟨j,hj,rfl,hT⟩:=hrel;have HT:=Hd hT;have Q:=((Aa.o _).1 HT.o).1.c 3;by_cases Xc:j<mx
    case neg=>
     have Yc:¬ (j:Int)<(mx:Int):=(by omega);(go_wp2_with fail);refine wp_region_noPanic ?_;have T8:=La.o _ _ HT.o (m5 _ _).drew;refine wp_region_held_drew (S:=TC) (by kernel_rfl) T8 (fun hHeld=>?_);generalize wr.drew=wq at *;have Ra:m1 wq wq:=m5 _ _;refine wpAnyH_take (i:=0) (v:=.agg (aI N X (some ⟨b0,o0,none⟩) nx xc xj mx xd).toArray) rfl (by kernel_rfl) (by kernel_rfl) (by kernel_rfl) (fun _ _ _ h=>h) (uM (by kernel_rfl) 27 (.tmp 5) rfl nk 0 rfl (aI N X (some ⟨b0,o0,none⟩) nx xc xj mx xd) _ (fun W h=>((Aa.o _).1 h).1.row) underlying27 rfl (by kernel_rfl)) (by assumption) ?_;refine tk 1 (.pointer (some ⟨nk,2,none⟩)) ?_ ?_
     ·intro wq Ka;go_simp
     refine tk 2 (.slice (some ⟨b0,o0,none⟩) nx xc) ?_ ?_
     ·intro wp Kb;have c0:=((Aa.o _).1 Kb).1.c 2;go_simp
     refine tk 3 (it n) ?_ ?_
     ·intro wq Ka;go_simp
     refine tk 4 (.pointer (some ⟨b0,o0+n,none⟩)) ?_ ?_
     ·intro wq Ka;go_simp
     refine tk 5 (it x) ?_ ?_
     ·intro wp Kb;have c0:wp.cell? ⟨b0,o0+n,none⟩=some (it x):=(by rw[←HX.o];exact((Aa.o _).1 Kb).2.1.b.cellAt Ec);go_simp
     refine tk 6 (.agg (cW 2 x).toArray) ?_ ?_
     ·intro wq Ka;go_simp
     refine uT (rs:=[7,12]) (by kernel_rfl) (by simp) ?_;refine uC rfl (fun Kk hK=>?_) (uC rfl (fun Kk hK=>?_) (uJ));go_simp;refine(Jb x Va _ (some ⟨b0,o0,none⟩) nx xc xj mx xd ((Aa.o _).1 hHeld).2.2.2 ((Aa.o _).1 hHeld).2.1).mono ?_;rintro e we ⟨yb,ny,yc,yj,my,yd,qy,rfl,hM,hq,hb⟩;go_simp;have Oa:=La.o _ _ hHeld hb;have Qa:=Ra.trans (hb.mono Ra.size);refine hK.out _ _ Oa (fun hzz=>?_);refine tk 8 (.tuple #[.agg (aI N X yb ny yc yj my yd).toArray,it 5,it 0]) ?_ ?_
     ·intro wq Ka;go_simp
     refine tk 9 (.agg (aI N X yb ny yc yj my yd).toArray) ?_ ?_
     ·intro wq Ka;go_simp
     refine tk 10 (it 5) ?_ ?_
     ·intro wq Ka;go_simp
     refine tk 11 (it 0) ?_ ?_
     ·intro wq Ka;go_simp
     refine aX 12 fun Kk hK=>?_;rw[if_pos (by kernel_rfl)];refine bL 27 rfl aT.toArray (by kernel_rfl) ?_;have Ba:=eK we (.cells aT.toArray 27);have Lb:=La.o _ _ Oa Ba;have Nb:=Qa.trans (Ba.mono Qa.size);have LZ:=ct we aT 27;refine hK.out _ _ Lb (fun hzz=>?_);generalize(we.alloc (.cells aT.toArray 27))=wz at *;generalize Zc:we.heap.size=zk at LZ ⊢;have Ob:wq.heap.size≤zk:=(by have:=Qa.size;omega);refine aX 13 fun Kk hK=>?_;rw[if_pos (by kernel_rfl)];with_reducible refine wp_store_mid 27 (.tmp 14) (.tmp 101) ?_ zk 0 ((aI N X yb ny yc yj my yd):List Value).toArray ?_ ?_ ?_ (by kernel_rfl) (by kernel_rfl) ?_
     ·exact rfl
     ·kernel_rfl
     ·kernel_rfl
     ·exact LZ.o.there 0 4 (by simp)
     have Pb:m1 wq (wz.setCells zk 0 (aI N X yb ny yc yj my yd)):=aM _ 0 Nb Ob;have Wa:=La.o _ _ hHeld Pb;refine hK.out _ _ Wa (fun hzz=>?_);generalize(wz.setCells zk 0 (aI N X yb ny yc yj my yd))=wy at *
     rotate_left
     rw[if_pos (by kernel_rfl)];refine bL 27 rfl aT.toArray (by kernel_rfl) ?_;have Ba:=eK wq (.cells aT.toArray 27);have Oa:=La.o _ _ hHeld Ba;have Qa:=Ra.trans (Ba.mono Ra.size);have LZ:=ct wq aT 27;refine hK.out _ _ Oa (fun hzz=>?_);generalize(wq.alloc (.cells aT.toArray 27))=wz at *;generalize Zc:wq.heap.size=zk at LZ ⊢;have Ob:wq.heap.size≤zk:=(by have:=Ra.size;omega);refine aX 7 fun Kk hK=>?_;go_simp;refine(Jb x Va _ (some ⟨b0,o0,none⟩) nx xc xj mx xd ((Aa.o _).1 Oa).2.2.2 ((Aa.o _).1 Oa).2.1).mono ?_;rintro e we ⟨yb,ny,yc,yj,my,yd,qy,rfl,hM,hq,hb⟩;go_simp;have Lb:=La.o _ _ Oa hb;have Nb:=Qa.trans (hb.mono Qa.size);have Ad:=LZ.b hb;refine hK.out _ _ Lb (fun hzz=>?_);refine tk 8 (.tuple #[.agg (aI N X yb ny yc yj my yd).toArray,it 5,it 0]) ?_ ?_
     ·intro wq Ka;go_simp
     refine tk 9 (.agg (aI N X yb ny yc yj my yd).toArray) ?_ ?_
     ·intro wq Ka;go_simp
     refine tk 10 (it 5) ?_ ?_
     ·intro wq Ka;go_simp
     refine tk 11 (it 0) ?_ ?_
     ·intro wq Ka;go_simp
     refine aX 13 fun Kk hK=>?_;rw[if_pos (by kernel_rfl)];with_reducible refine wp_store_mid 27 (.tmp 14) (.tmp 101) ?_ zk 0 ((aI N X yb ny yc yj my yd):List Value).toArray ?_ ?_ ?_ (by kernel_rfl) (by kernel_rfl) ?_
     ·exact rfl
     ·kernel_rfl
     ·kernel_rfl
     ·exact Ad.o.there 0 4 (by simp)
     have Pb:m1 wq (we.setCells zk 0 (aI N X yb ny yc yj my yd)):=aM _ 0 Nb Ob;have Wa:=La.o _ _ hHeld Pb;refine hK.out _ _ Wa (fun hzz=>?_);generalize(we.setCells zk 0 (aI N X yb ny yc yj my yd))=wy at *
     rotate_left
     all_goals
      refine tk 14 (it 5) ?_ ?_
      ·intro wq Ka;go_simp
      refine tk 15 (it 0) ?_ ?_
      ·intro wq Ka;go_simp
      refine bg ?_;go_simp;go_wp2;go_roundw
      case rel=>exact⟨n+1,by omega,by go_num,Wa⟩
      case measure=>simp[intOf];omega
    case pos=>
     obtain⟨b1,o1,rfl,-⟩:=((Aa.o _).1 HT.o).2.1.j.at (by omega);have Gc:JS.getD j M.j0∈JS:=M.getD_mem (by omega);have Yc:(j:Int)<(mx:Int):=(by omega);have Qd:(0:Int)≤(j:Int):=(by omega);have Bd:=(Dc.o.tasks _ Gc).2;obtain⟨tn,Qb⟩:∃n,H9 ((JS.getD j M.j0).ts.length=n):=⟨_,rfl⟩;rw[Qb.o]at Bd;(go_wp2_with fail)
     go_loopw [13] (fun z wr=>∃k:Nat,k≤tn∧z=it k∧TC wr) (fun z _=>tn-(intOf z).toNat)
     case atStart=>exact⟨0,by omega,rfl,HT.o⟩
     case round=>
      obtain⟨k,hk,rfl,hT⟩:=hrel;have HT:=Hd hT;have Q:=((Aa.o _).1 HT.o).1.c 3;obtain⟨ta,tc,Hc,Sa⟩:=((Aa.o _).1 HT.o).2.1.j.tasksAt Xc;rw[Qb.o]at Hc Sa;have Rd:(tn:Int)≤9223372036854775807:=(by omega);by_cases Ic:k<tn
      case neg=>
       have Cd:¬ (k:Int)<(tn:Int):=(by omega);go_wp2;go_roundw
       case rel=>exact⟨j+1,by omega,by go_num,HT.o⟩
       case measure=>simp[intOf];omega
      case pos=>
       obtain⟨b2,o2,rfl,-⟩:=Sa.at (by omega);have Jc:=Sa.workerAt Ic;have Sd:(tn:Int)≤tc:=(by have:=Sa.le;omega);have Cd:(k:Int)<(tn:Int):=(by omega);have Td:(0:Int)≤(k:Int):=(by omega);have J:=((Aa.o _).1 HT.o).1.c 2;have Kc:=((Aa.o _).1 HT.o).2.1.b.cellAt Ec;rw[HX.o]at Kc;have Lc:=Dc.o.calm Va Gc (M.getD_mem (d:=M.t0) (by rw[Qb.o];exact Ic));generalize((JS.getD j M.j0).ts.getD k M.t0).l'=u at Jc Lc;have Ud:(u==x)=false:=(by simp[Lc]);(go_wp2_with fail);apply eV
       case f=>
        intro key
        go_region_law (fail)
        all_goals exact key.out
       case h=>
        have T9:=Hd (La.o _ _ HT.o (m5 _ _).drew);generalize wr.drew=wv at *;go_wp2;go_roundw
        case rel=>exact⟨k+1,by omega,by go_num,T9.o⟩
        case measure=>simp[intOf];omega
end Go.Proofs.YtjcjonncaknhnaaGreatDoor
