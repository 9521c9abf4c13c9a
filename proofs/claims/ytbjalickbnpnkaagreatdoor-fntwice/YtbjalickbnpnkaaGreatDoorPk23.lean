import Derived.ProofKit
import Derived.Stop.LaidTwo
import Derived.LaidMore
import Derived.Test.YtbjalickbnpnkaaGreatDoorPk21
import Derived.Test.YtbjalickbnpnkaaGreatDoorPk22
namespace Go.Proofs.YtbjalickbnpnkaaGreatDoor
open Go.RowKit Go.Proofs.Tryz
set_option linter.unusedSimpArgs false
set_option maxHeartbeats 32000000
variable {now sr dC id em l' i':Int}{w w' W:World}{dA nb cb nj cj n1 n2 n3 n4 c1 c2 c3 c4:Nat}{ab aj a1 a2 a3 a4:Option Addr}{bs:List Int}{qs:List MQ}{p:M.Pf}{bare mok sok rok L non wk idk p7 mt:Bool}{js:List M.Jb}
theorem nZ:kR:=vV.h ⟨fK.h ⟨sJ⟩ ⟨sK⟩ ⟨sL⟩ ⟨sM⟩ ⟨vH⟩⟩
theorem qZ{who:Int}(hw:who≠0):bt now who=M.mineT who:=by
 funext t
 unfold bt M.mineT M.leased;by_cases h:t.dC=who
 .simp[h,hw]
 .simp[h,hw]
theorem fu.back{e:Ending}(hw:dC≠0)(hbn:bs.contains dC=false)(h:fu w dA now sr ab nb cb bs aj nj cj qs dC id em p e w'):
  ∃v,e=.returned (.tuple #[v,it (M.back (cv em p) ⟨now,sr,bs,qs.map (·.1)⟩ dC id em).2.1,it (M.back (cv em p) ⟨now,sr,bs,qs.map (·.1)⟩ dC id em).2.2])/\nJ w dA v (M.back (cv em p) ⟨now,sr,bs,qs.map (·.1)⟩ dC id em).1.now (M.back (cv em p) ⟨now,sr,bs,qs.map (·.1)⟩ dC id em).1.next (M.back (cv em p) ⟨now,sr,bs,qs.map (·.1)⟩ dC id em).1.bs (M.back (cv em p) ⟨now,sr,bs,qs.map (·.1)⟩ dC id em).1.js w':=by
 obtain⟨hB,h⟩:=h;have h0:¬ (bs.contains dC=true):=by rw[hbn];simp
 rcases h with⟨h1,rfl,hM⟩ | ⟨h1,h2,rfl,hM⟩ | ⟨h1,h2,h3,ab',nb',cb',rfl,hM⟩ | ⟨h1,h2,h3,i,hi,rfl,hM⟩
 ·
  have e:M.back (cv em p) ⟨now,sr,bs,qs.map (·.1)⟩ dC id em=(⟨now,sr,bs,qs.map (·.1)⟩,4,0):=by
   unfold M.back;rw[if_neg h0,if_pos (by simpa using h1)]
  rw[e];exact⟨_,rfl,_,_,_,_,_,_,_,rfl,hM,rfl,hB⟩
 ·
  have e:M.back (cv em p) ⟨now,sr,bs,qs.map (·.1)⟩ dC id em=(⟨now,sr,bs,qs.map (·.1)⟩,8,0):=by
   unfold M.back;rw[if_neg h0,if_neg (by simpa using h1),if_pos h2]
  rw[e];exact⟨_,rfl,_,_,_,_,_,_,_,rfl,hM,rfl,hB⟩
 ·
  have e:M.back (cv em p) ⟨now,sr,bs,qs.map (·.1)⟩ dC id em=(⟨now,sr,M.banned bs dC,(qs.map (·.1)).map (M.freeJ (M.mineT dC))⟩,7,0):=by
   unfold M.back;rw[if_neg h0,if_neg (by simpa using h1),if_neg (by simpa using h2),if_pos h3]
  rw[e];rw[qZ hw]at hM;exact⟨_,rfl,_,_,_,_,_,_,_,rfl,hM,by simp[List.map_map,Function.comp_def],hB⟩
 ·
  have e:M.back (cv em p) ⟨now,sr,bs,qs.map (·.1)⟩ dC id em=(⟨now,sr,bs,M.setT (qs.map (·.1)) i em.toNat ⟨true,0,0⟩⟩,0,if((M.jobOf id (qs.map (·.1))).ts.set em.toNat ⟨true,0,0⟩).all (·.done)then 1 else 0):=by
   unfold M.back;rw[if_neg h0,if_neg (by simpa using h1),if_neg (by simpa using h2),if_neg (by simp[h3]),hi]
   rfl
  rw[e]
  have hj:M.jobOf id (qs.map (·.1))=(qs.getD i q0).1:=by
   rw[<-dU];unfold M.jobOf;rw[hi]
   rfl
  rw[hj];refine⟨_,rfl,_,_,_,_,_,_,_,rfl,hM,?_,hB⟩;unfold M.setT;rw[dU,List.map_set]
namespace M
def act(g:Jb->Bool)(m:Mt)(l' id em dC i':Int)(mc:Mc)(s:Int×Int):Mt×Int×Int:=
 if l'=1 then submit m mc s em i'
 else if l'=4 then tick m i'
 else if l'=5 then cancel m id
 else if l'=2 then lease m dC
 else back g m dC id em
def acted(g:Jb->Bool)(form:Bool)(m:Mt)(l' id em dC i':Int)(mc:Mc)(s:Int×Int):Mt×Int×Int:=
 if m.ok=false then(Mt.zero,1,0)
 else if form=false then(m,2,0)
 else act g m l' id em dC i' mc s
end M
def bp(w:World)(dA:Nat)(r:M.Mt×Int×Int)(e:Ending)(w':World):Prop:=
 ∃v,e=.returned (.tuple #[v,it r.2.1,it r.2.2])/\nJ w dA v r.1.now r.1.next r.1.bs r.1.js w'
theorem fu.act{e:Ending}(hw:dC≠0)(hbn:bs.contains dC=false)(h:fu w dA now sr ab nb cb bs aj nj cj qs dC id em p e w'):
  bp w dA (M.back (cv em p) ⟨now,sr,bs,qs.map (·.1)⟩ dC id em) e w':=h.back hw hbn
theorem qp(now sr who:Int)(w:World)(H:aW w dA ab nb cb bs aj nj cj qs)(mr:dA<=w.heap.size)(hf:M.Right now sr bs (qs.map (·.1)))(hbn:bs.contains who=false):
  Calls prog 28 #[.agg #[it now,it sr,.slice ab nb cb,.slice aj nj cj],it who] w (bp w dA (M.lease ⟨now,sr,bs,qs.map (·.1)⟩ who)):=by
 have h0:¬ (bs.contains who=true):=(by rw[hbn];simp);have hT:=λq hq=>(hf.tasks q.1 (List.mem_map.2 ⟨q,hq,rfl⟩)).2
 have Aa:∀q∈qs,0<q.1.id/\q.1.id<=1000000000:=λq hq=>by
  have h1:=hf.job q.1 (List.mem_map.2 ⟨q,hq,rfl⟩);have h2:=hf.next1;exact⟨h1.1,by have:=h1.2.1;omega⟩
 refine(qq now sr who w H mr hf.now0 hf.now1 Aa hT).mono ?_;intro e w' h;rw[M.scJ_eq]at h;by_cases ha:(qs.map (·.1)).any (λj=>j.ts.any (M.mineT who))=true
 ·
  rw[if_pos ha]at h;obtain⟨rfl,hM,hB⟩:=h
  have e:M.lease ⟨now,sr,bs,qs.map (·.1)⟩ who=(⟨now,sr,bs,qs.map (·.1)⟩,6,0):=by
   unfold M.lease;rw[if_neg h0,if_pos ha]
  rw[e];exact⟨_,rfl,_,_,_,_,_,_,_,rfl,hM,rfl,hB⟩
 ·
  rw[if_neg ha]at h
  cases hp:M.place 0 (qs.map (·.1))with
  | none=>
   rw[hp]at h;obtain⟨rfl,hM,hB⟩:=h
   have e:M.lease ⟨now,sr,bs,qs.map (·.1)⟩ who=(⟨now,sr,bs,qs.map (·.1)⟩,4,0):=by
    unfold M.lease;rw[if_neg h0,if_neg ha,hp]
   rw[e];exact⟨_,rfl,_,_,_,_,_,_,_,rfl,hM,rfl,hB⟩
  | some x=>
   obtain⟨i,k⟩:=x;rw[hp]at h;obtain⟨rfl,hM,hB⟩:=h
   have e:M.lease ⟨now,sr,bs,qs.map (·.1)⟩ who=(⟨now,sr,bs,M.setT (qs.map (·.1)) i k ⟨false,who,now+5⟩⟩,0,100*((qs.map (·.1)).getD i M.j0).id+k):=by
    unfold M.lease;rw[if_neg h0,if_neg ha,hp]
   rw[e];refine⟨_,by rw[dU],_,_,_,_,_,_,_,rfl,hM,?_,hB⟩;unfold M.setT;rw[dU,List.map_set]
theorem aW.mono{b2:Nat}(H:aW w b2 ab nb cb bs aj nj cj qs)(hb:dA<=b2):aW w dA ab nb cb bs aj nj cj qs:=
 ⟨jG H.b hb,H.jl,jG H.j hb,λq hq=>⟨(H.t q hq).1,jG (H.t q hq).2 hb⟩,H.d⟩
theorem aW.zero(w:World)(dA:Nat):aW w dA none 0 0 [] none 0 0 []:=
 ⟨World.ownsRow_nil _ _ _ _,rfl,World.ownsRow_nil _ _ _ _,by simp,by simp[b7,ob]⟩
def bu(now sr:Int)(bs:List Int)(js:List M.Jb)(l' id em dC i' m0 I J Q m4 Y m6 m7 L Z B D t1 t2 p1 p2 p3 p4:Int)(n1 n2 n3 n4:Nat)(z1 z2 z3 z4:List Int):M.Mt×Int×Int:=
 M.acted (cv em ⟨(p1,p2),(p3,p4),z1,z2,z3,z4⟩) (M.formB l' id em dC i' (bU m0 I J Q m4 Y m6 m7 L Z B D&&(decide (t1=0)&&decide (t2=0))) (M.Mc.ok ⟨⟨m0,I,J,Q,m4,Y⟩,⟨m6,m7,L,Z,B,D⟩⟩) (M.sOk (t1,t2)) (M.rows em) (M.inB i' 1 8) (bK p1 p2 p3 p4 n1 n2 n3 n4) (M.inB dC 1 9) (M.inB id 1 1000000000) (M.inB em 0 7) (M.inB i' 1 1000000000)) ⟨now,sr,bs,js⟩ l' id em dC i' ⟨⟨m0,I,J,Q,m4,Y⟩,⟨m6,m7,L,Z,B,D⟩⟩ (t1,t2)
set_option linter.unusedVariables false in
def fM:Prop:=∀(ab aj:Option Addr) (nb cb nj cj:Nat) (bs:List Int) (js:List M.Jb) (now sr:Int) (l' id em dC i' m0 I J Q m4 Y m6 m7 L Z B D t1 t2 p1 p2 p3 p4:Int) (a1 a2 a3 a4:Option Addr) (n1 n2 n3 n4 c1 c2 c3 c4:Nat) (z1 z2 z3 z4:List Int) (w:World) (hz:co w ab nb cb aj nj cj bs js) (h1:aC w a1 n1 c1 z1) (h2:aC w a2 n2 c2 z2) (h3:aC w a3 n3 c3 z3) (h4:aC w a4 n4 c4 z4) (l1:n1<=1048576) (l2:n2<=1048576) (l3:n3<=1048576) (l4:n4<=1048576),
  Calls prog 7 #[.agg (aJ now sr ab nb cb aj nj cj).toArray,.agg (b8 l' id em dC i' m0 I J Q m4 Y m6 m7 L Z B D t1 t2 p1 p2 p3 p4 a1 n1 c1 a2 n2 c2 a3 n3 c3 a4 n4 c4).toArray] w (bp w w.heap.size (bu now sr bs js l' id em dC i' m0 I J Q m4 Y m6 m7 L Z B D t1 t2 p1 p2 p3 p4 n1 n2 n3 n4 z1 z2 z3 z4))
set_option maxRecDepth 10000 in
def uG:wS fM:=by
 apply wS.mk
 case h=>
  intro key0 ab aj nb cb nj cj bs js Aa Ba Na id Ga Ia Ha m0 I J Q m4 Y m6 m7 L Z Ja Ka t1 t2 p1 p2 p3 p4 a1 a2 a3 a4 n1 n2 n3 n4 c1 c2 c3 c4 z1 z2 z3 z4 w hz h1 h2 h3 h4 l1 l2 l3 l4;have HM:=Hd hz;have S1:=Hd h1;have S2:=Hd h2;have S3:=Hd h3;have S4:=Hd h4;generalize HR:bu Aa Ba bs js Na id Ga Ia Ha m0 I J Q m4 Y m6 m7 L Z Ja Ka t1 t2 p1 p2 p3 p4 n1 n2 n3 n4 z1 z2 z3 z4=r;have Eb:=Hd HR;clear hz h1 h2 h3 h4 HR;have C1:=λW (h:co W ab nb cb aj nj cj bs js)=>jZ Aa Ba W h;generalize Qb:M.mkOk Aa Ba bs js=ok at C1;have Wa:=Hd Qb;clear Qb;go_enter func7,ntmps7;have Fb:H7 (aw (((w.alloc (.cells (aJ Aa Ba ab nb cb aj nj cj).toArray 27)).alloc (.cells (b8 Na id Ga Ia Ha m0 I J Q m4 Y m6 m7 L Z Ja Ka t1 t2 p1 p2 p3 p4 a1 n1 c1 a2 n2 c2 a3 n3 c3 a4 n4 c4).toArray 37)).alloc (.cells cm.toArray 27)) w.heap.size (aJ Aa Ba ab nb cb aj nj cj)):=((aQ _ _ _).alloc _).alloc _;have Gb:H7 (aw (((w.alloc (.cells (aJ Aa Ba ab nb cb aj nj cj).toArray 27)).alloc (.cells (b8 Na id Ga Ia Ha m0 I J Q m4 Y m6 m7 L Z Ja Ka t1 t2 p1 p2 p3 p4 a1 n1 c1 a2 n2 c2 a3 n3 c3 a4 n4 c4).toArray 37)).alloc (.cells cm.toArray 27)) (w.heap.size+1) (b8 Na id Ga Ia Ha m0 I J Q m4 Y m6 m7 L Z Ja Ka t1 t2 p1 p2 p3 p4 a1 n1 c1 a2 n2 c2 a3 n3 c3 a4 n4 c4)):=(aZ _ _ _ _).alloc _;have Hb:H7 (aw (((w.alloc (.cells (aJ Aa Ba ab nb cb aj nj cj).toArray 27)).alloc (.cells (b8 Na id Ga Ia Ha m0 I J Q m4 Y m6 m7 L Z Ja Ka t1 t2 p1 p2 p3 p4 a1 n1 c1 a2 n2 c2 a3 n3 c3 a4 n4 c4).toArray 37)).alloc (.cells cm.toArray 27)) (w.heap.size+1+1) cm):=dG _ _ _ _ _;have Sa:H7 (m1 w (((w.alloc (.cells (aJ Aa Ba ab nb cb aj nj cj).toArray 27)).alloc (.cells (b8 Na id Ga Ia Ha m0 I J Q m4 Y m6 m7 L Z Ja Ka t1 t2 p1 p2 p3 p4 a1 n1 c1 a2 n2 c2 a3 n3 c3 a4 n4 c4).toArray 37)).alloc (.cells cm.toArray 27))):=(((m8 _ _).alloc (m3 _) _).alloc (by simp) _).alloc (by simp;omega) _;(go_wp2_with fail);generalize(((w.alloc (.cells (aJ Aa Ba ab nb cb aj nj cj).toArray 27)).alloc (.cells (b8 Na id Ga Ia Ha m0 I J Q m4 Y m6 m7 L Z Ja Ka t1 t2 p1 p2 p3 p4 a1 n1 c1 a2 n2 c2 a3 n3 c3 a4 n4 c4).toArray 37)).alloc (.cells cm.toArray 27))=wa at Fb Gb Hb Sa |-;refine(C1 _ (HM.o.below Sa.o)).mono ?_;rintro e wb ⟨rfl,hb⟩;have Pa:=Fb.b hb;have Rb:=Gb.b hb;have La:=Hb.b hb;have Qa:=Sa.t hb;clear Fb Gb Hb Sa;clear hb
  cases ok with
  | false=>
   have r0:=La.c 0;have Bc:=La.o.fr 0;have r1:=La.c 1;have Cc:=La.o.fr 1;have r2:=La.c 2;have Dc:=La.o.fr 2;have r3:=La.c 3;have Ec:=La.o.fr 3;have hr:r=(M.Mt.zero,1,0):=(by rw[<-Eb.o];unfold bu M.acted;rw[if_pos (show M.Mt.ok ⟨Aa,Ba,bs,js⟩=false from Wa.o)]);subst hr;(go_wp2_with fail);show bodyPost _ _ _ _ _ (wb.setCells (w.heap.size+1+1) 0 cm);have Ta:aw (wb.setCells (w.heap.size+1+1) 0 cm) (w.heap.size+1+1) cm:=La.o.setCells cm 0 (by simp);have Xa:=dS wb (w.heap.size+1+1) 0 cm;have Ib:=Qa.o.trans (ap Xa Qa.o.size (λz e=>by have:=m2 e;omega));have Ua:bp w w.heap.size (M.Mt.zero,1,0) (.returned (.tuple #[.agg cm.toArray,it 1,it 0])) (wb.setCells (w.heap.size+1+1) 0 cm):=⟨_,rfl,_,_,_,_,_,_,_,rfl,aW.zero _ _,rfl,Ib⟩;generalize(wb.setCells (w.heap.size+1+1) 0 cm)=wf at Ta Ua |-;exact s' (aK rfl rfl (xH wf (w.heap.size+1+1) 0 27 _ _ Ta.row underlying27 rfl (by kernel_rfl))) rfl Ua
  | true=>
   have HF:=Hd (cC Wa.o);have Fc:=Pa.c 0;have Gc:=Pa.c 1;have Hc:=Pa.c 2;have Ic:=Pa.c 3;(go_wp2_with fail);clear Fc Gc Hc Ic;have Ya:=Hd La.o.2.2;refine(su Aa Ba _ (HM.o.below Qa.o) HF.o).mono ?_;rintro e wc ⟨v,rfl,bb,Ca,Da,jj,Ea,Fa,qs,rfl,Sb,Tb,hb⟩;have Za:=Hd hb.size;have Ub:=Pa.b hb;have Vb:=Rb.b hb;have Wb:=La.b hb;have Jb:=Qa.t hb;clear Pa Rb La Qa;have Ab:=Hd Sb;clear hb Sb;generalize wb.heap.size=bc at Ab Ya Za;have Xb:=Hd (λg hg=>(Ab.o.lt g hg).2);have Ra:=gW wc (.cells (aJ Aa Ba bb Ca Da jj Ea Fa).toArray 27);have Kb:=Ub.b Ra;have Bb:=Vb.b Ra;have Lb:=Wb.b Ra;have Cb:=Jb.t Ra;have Nb:=Hd (Ab.o.below Ra);clear Ub Vb Wb Jb Ab;clear Ra;have Db:=cQ wc (aJ Aa Ba bb Ca Da jj Ea Fa) 27;have hR:=Bb.o.row;(go_wp2_with(with_reducible refine au 16 ?_ ?_;rfl));with_reducible refine dY 37 (w.heap.size+1) 0 (b8 Na id Ga Ia Ha m0 I J Q m4 Y m6 m7 L Z Ja Ka t1 t2 p1 p2 p3 p4 a1 n1 c1 a2 n2 c2 a3 n3 c3 a4 n4 c4) hR underlying37 ?q5 ?_
   case q5=>exact⟨rfl,rfl,by kernel_rfl,_,rfl,by kernel_rfl⟩
   clear hR;have CF:=sv Na id Ga Ia Ha m0 I J Q m4 Y m6 m7 L Z Ja Ka t1 t2 p1 p2 p3 p4 (a1:=a1) (a2:=a2) (a3:=a3) (a4:=a4) (c1:=c1) (c2:=c2) (c3:=c3) (c4:=c4) l1 l2 l3 l4;generalize Yb:(M.formB Na id Ga Ia Ha (bU m0 I J Q m4 Y m6 m7 L Z Ja Ka&&(decide (t1=0)&&decide (t2=0))) (M.Mc.ok ⟨⟨m0,I,J,Q,m4,Y⟩,⟨m6,m7,L,Z,Ja,Ka⟩⟩) (M.sOk (t1,t2)) (M.rows Ga) (M.inB Ha 1 8) (bK p1 p2 p3 p4 n1 n2 n3 n4) (M.inB Ia 1 9) (M.inB id 1 1000000000) (M.inB Ga 0 7) (M.inB Ha 1 1000000000))=fo at CF;have Zb:=Hd Yb;clear Yb;(go_wp2_with fail);have Ac:=Hd Za.o;generalize(wc.alloc (.cells (aJ Aa Ba bb Ca Da jj Ea Fa).toArray 27))=wd at Kb Bb Lb Cb Nb Db |-;generalize wc.heap.size=bo at Db Za Ac Xb |-;refine(CF _).mono ?_;rintro e we ⟨rfl,hb⟩;have Jc:=Kb.b hb;have Kc:=Bb.b hb;have Oa:=Lb.b hb;have Ob:=Cb.t hb;have Pb:=Hd (Nb.o.below hb);have Va:=Db.b hb;clear Kb Bb Lb Cb Nb Db;clear hb;clear CF
   cases fo with
   | false=>
    have r0:=Oa.c 0;have Bc:=Oa.o.fr 0;have r1:=Oa.c 1;have Cc:=Oa.o.fr 1;have r2:=Oa.c 2;have Dc:=Oa.o.fr 2;have r3:=Oa.c 3;have Ec:=Oa.o.fr 3;have o0:=Va.c 0;have o1:=Va.c 1;have o2:=Va.c 2;have o3:=Va.c 3;have hr:r=(⟨Aa,Ba,bs,js⟩,2,0):=(by rw[<-Eb.o];unfold bu M.acted;rw[if_neg (show ¬ M.Mt.ok ⟨Aa,Ba,bs,js⟩=false by rw[show M.Mt.ok ⟨Aa,Ba,bs,js⟩=true from Wa.o];simp),if_pos Zb.o]);subst hr;(go_wp2_with fail);show bodyPost _ _ _ _ _ (we.setCells (w.heap.size+1+1) 0 (aJ Aa Ba bb Ca Da jj Ea Fa));have Ta:aw (we.setCells (w.heap.size+1+1) 0 (aJ Aa Ba bb Ca Da jj Ea Fa)) (w.heap.size+1+1) (aJ Aa Ba bb Ca Da jj Ea Fa):=Oa.o.setCells (aJ Aa Ba bb Ca Da jj Ea Fa) 0 (by simp);have Xa:=dS we (w.heap.size+1+1) 0 (aJ Aa Ba bb Ca Da jj Ea Fa);have Ib:=Ob.o.trans (ap Xa Ob.o.size (λz e=>by have:=m2 e;omega));have Lc:aW (we.setCells (w.heap.size+1+1) 0 (aJ Aa Ba bb Ca Da jj Ea Fa)) w.heap.size bb Ca Da bs jj Ea Fa qs:=(Pb.o.grown Xa (λg hg e=>by have:=(Pb.o.lt g hg).1;have:=m2 e;have:=Ya.o;omega)).mono (by have:=Ya.o;omega);have Ua:bp w w.heap.size (⟨Aa,Ba,bs,js⟩,2,0) (.returned (.tuple #[.agg (aJ Aa Ba bb Ca Da jj Ea Fa).toArray,it 2,it 0])) (we.setCells (w.heap.size+1+1) 0 (aJ Aa Ba bb Ca Da jj Ea Fa)):=⟨_,rfl,_,_,_,_,_,_,_,rfl,Lc,Tb,Ib⟩;generalize(we.setCells (w.heap.size+1+1) 0 (aJ Aa Ba bb Ca Da jj Ea Fa))=wf at Ta Ua |-;exact s' (aK rfl rfl (xH wf (w.heap.size+1+1) 0 27 _ _ Ta.row underlying27 rfl (by kernel_rfl))) rfl Ua
   | true=>
    rename_i Nc Oc Pc Qc Rc Sc;revert ab aj nb cb nj cj bs js Aa Ba Na id Ga Ia Ha m0 I J Q m4 Y m6 m7 L Z Ja Ka t1 t2 p1 p2 p3 p4 a1 a2 a3 a4 n1 n2 n3 n4 c1 c2 c3 c4 z1 z2 z3 z4 w l1 l2 l3 l4 HM S1 S2 S3 S4 r Eb wa wb C1 Wa HF wc bb Ca Da jj Ea Fa qs Tb bc Ya Nc Oc Pc Qc Rc Sc wd bo Za Ac Xb we Jc Kc Oa Ob Pb Va Zb;exact key0.out
theorem oW(h:M.formB l' id em dC i' bare mok sok rok L non wk idk p7 mt=true)(h1:¬ l'=1)(h4:¬ l'=4)(h5:¬ l'=5):wk=true/\(l'=2\/l'=3/\idk=true/\p7=true):=by
 unfold M.formB at h;rw[if_neg h1]at h;by_cases h2:l'=2
 ·
  rw[if_pos h2]at h;simp only[xP]at h;exact⟨h.2.1,.inl h2⟩
 ·
  rw[if_neg h2]at h;by_cases h3:l'=3
  ·
   rw[if_pos h3]at h;simp only[xP]at h;exact⟨h.2.1,.inr ⟨h3,h.2.2.1,h.2.2.2.1⟩⟩
  ·
   rw[if_neg h3,if_neg h4,if_neg h5]at h;simp at h
set_option maxRecDepth 10000 in
def ir:uZ uG.p:=by
 apply uZ.mk
 case h=>
  intro key1 key2 key3 key4 key5;intro ab aj nb cb nj cj bs js Aa Ba Ha id Va Ja Wa m0 I J Q m4 Y m6 m7 L Z Xa Ya t1 t2 p1 p2 p3 p4 a1 a2 a3 a4 n1 n2 n3 n4 c1 c2 c3 c4 z1 z2 z3 z4 w l1 l2 l3 l4 HM S1 S2 S3 S4 r Qa wa wb C1 Ra HF wc bb Ca Da jj Ea Fa qs Sa bc Ka Jb Kb Lb Nb Ob Pb wd bo Za Ab Bb we Ia La Cb Na Db Eb Oa;by_cases Pa:Ha=1
  case pos=>
   revert ab aj nb cb nj cj bs js Aa Ba Ha id Va Ja Wa m0 I J Q m4 Y m6 m7 L Z Xa Ya t1 t2 p1 p2 p3 p4 a1 a2 a3 a4 n1 n2 n3 n4 c1 c2 c3 c4 z1 z2 z3 z4 w l1 l2 l3 l4 HM S1 S2 S3 S4 r Qa wa wb C1 Ra HF wc bb Ca Da jj Ea Fa qs Sa bc Ka Jb Kb Lb Nb Ob Pb wd bo Za Ab Bb we Ia La Cb Na Db Eb Oa Pa;exact key1.out
  case neg=>
   by_cases Ta:Ha=4
   case pos=>
    revert ab aj nb cb nj cj bs js Aa Ba Ha id Va Ja Wa m0 I J Q m4 Y m6 m7 L Z Xa Ya t1 t2 p1 p2 p3 p4 a1 a2 a3 a4 n1 n2 n3 n4 c1 c2 c3 c4 z1 z2 z3 z4 w l1 l2 l3 l4 HM S1 S2 S3 S4 r Qa wa wb C1 Ra HF wc bb Ca Da jj Ea Fa qs Sa bc Ka Jb Kb Lb Nb Ob Pb wd bo Za Ab Bb we Ia La Cb Na Db Eb Oa Pa Ta;exact key2.out
   case neg=>
    by_cases Fb:Ha=5
    case pos=>
     revert ab aj nb cb nj cj bs js Aa Ba Ha id Va Ja Wa m0 I J Q m4 Y m6 m7 L Z Xa Ya t1 t2 p1 p2 p3 p4 a1 a2 a3 a4 n1 n2 n3 n4 c1 c2 c3 c4 z1 z2 z3 z4 w l1 l2 l3 l4 HM S1 S2 S3 S4 r Qa wa wb C1 Ra HF wc bb Ca Da jj Ea Fa qs Sa bc Ka Jb Kb Lb Nb Ob Pb wd bo Za Ab Bb we Ia La Cb Na Db Eb Oa Pa Ta Fb;exact key3.out
    case neg=>
     obtain⟨Qb,Rb⟩:=oW Oa.o Pa Ta Fb;have Sb:=Hd Qb;have Tb:=Hd Rb;clear Qb Rb;have CB:=λW (h:aC W ab nb cb bs)=>gv (aj:=aj) (nj:=nj) (cj:=cj) Aa Ba Ja W h;generalize Ub:bs.contains Ja=bn at CB;have Gb:=Hd Ub;clear Ub;have Zb:=Ia.c 0;have Ac:=Ia.c 1;have Bc:=Ia.c 2;have Cc:=Ia.c 3;have Dc:=La.c 0;have Ec:=La.c 3;(go_wp2_with fail);clear Zb Ac Bc Cc Dc Ec;refine(CB _ (HM.o.b.below Na.o)).mono ?_;rintro e wf ⟨rfl,hb⟩;have Vb:=Ia.b hb;have Wb:=La.b hb;have Ga:=Cb.b hb;have Hb:=Na.t hb;have Ib:=Hd (Db.o.below hb);have Ua:=Eb.b hb;clear Ia La Cb Na Db Eb;clear hb;clear CB
     cases bn with
     | true=>
      have r0:=Ga.c 0;have Cd:=Ga.o.fr 0;have r1:=Ga.c 1;have Dd:=Ga.o.fr 1;have r2:=Ga.c 2;have Ed:=Ga.o.fr 2;have r3:=Ga.c 3;have Fd:=Ga.o.fr 3;have o0:=Ua.c 0;have o1:=Ua.c 1;have o2:=Ua.c 2;have o3:=Ua.c 3
      have hr:r=(⟨Aa,Ba,bs,js⟩,5,0):=by
       rw[<-Qa.o];unfold bu M.acted;rw[if_neg (show ¬ M.Mt.ok ⟨Aa,Ba,bs,js⟩=false by rw[show M.Mt.ok ⟨Aa,Ba,bs,js⟩=true from Ra.o];simp),if_neg (by rw[Oa.o];simp)];unfold M.act;rw[if_neg Pa,if_neg Ta,if_neg Fb];by_cases h2:Ha=2
       ·
        rw[if_pos h2];unfold M.lease;rw[if_pos Gb.o]
       ·
        rw[if_neg h2];unfold M.back;rw[if_pos Gb.o]
      subst hr;(go_wp2_with fail);show bodyPost _ _ _ _ _ (wf.setCells (w.heap.size+1+1) 0 (aJ Aa Ba bb Ca Da jj Ea Fa));have Fc:aw (wf.setCells (w.heap.size+1+1) 0 (aJ Aa Ba bb Ca Da jj Ea Fa)) (w.heap.size+1+1) (aJ Aa Ba bb Ca Da jj Ea Fa):=Ga.o.setCells (aJ Aa Ba bb Ca Da jj Ea Fa) 0 (by simp);have Xb:=dS wf (w.heap.size+1+1) 0 (aJ Aa Ba bb Ca Da jj Ea Fa);have Gc:=Hb.o.trans (ap Xb Hb.o.size (λz e=>by have:=m2 e;omega));have Hc:aW (wf.setCells (w.heap.size+1+1) 0 (aJ Aa Ba bb Ca Da jj Ea Fa)) w.heap.size bb Ca Da bs jj Ea Fa qs:=(Ib.o.grown Xb (λg hg e=>by have:=(Ib.o.lt g hg).1;have:=m2 e;have:=Ka.o;omega)).mono (by have:=Ka.o;omega);have Ic:bp w w.heap.size (⟨Aa,Ba,bs,js⟩,5,0) (.returned (.tuple #[.agg (aJ Aa Ba bb Ca Da jj Ea Fa).toArray,it 5,it 0])) (wf.setCells (w.heap.size+1+1) 0 (aJ Aa Ba bb Ca Da jj Ea Fa)):=⟨_,rfl,_,_,_,_,_,_,_,rfl,Hc,Sa,Gc⟩;generalize(wf.setCells (w.heap.size+1+1) 0 (aJ Aa Ba bb Ca Da jj Ea Fa))=wz at *;exact s' (aK rfl rfl (xH wz (w.heap.size+1+1) 0 27 _ _ Fc.row underlying27 rfl (by kernel_rfl))) rfl Ic
     | false=>
      by_cases Yb:Ha=2
      case pos=>
       rename_i Jc Kc Lc Nc Oc Pc Qc Rc Sc;revert ab aj nb cb nj cj bs js Aa Ba Ha id Va Ja Wa m0 I J Q m4 Y m6 m7 L Z Xa Ya t1 t2 p1 p2 p3 p4 a1 a2 a3 a4 n1 n2 n3 n4 c1 c2 c3 c4 z1 z2 z3 z4 w l1 l2 l3 l4 HM S1 S2 S3 S4 r Qa wa wb C1 Ra HF wc bb Ca Da jj Ea Fa qs Sa bc Ka wd bo Za Ab Bb we Oa Pa Ta Fb Sb Tb Jc Kc Lc Nc Oc Pc Qc Rc Sc wf Vb Wb Ga Hb Ib Ua Gb Yb;exact key4.out
      case neg=>
       rename_i Tc Uc Vc Wc Xc Yc Zc Ad Bd;revert ab aj nb cb nj cj bs js Aa Ba Ha id Va Ja Wa m0 I J Q m4 Y m6 m7 L Z Xa Ya t1 t2 p1 p2 p3 p4 a1 a2 a3 a4 n1 n2 n3 n4 c1 c2 c3 c4 z1 z2 z3 z4 w l1 l2 l3 l4 HM S1 S2 S3 S4 r Qa wa wb C1 Ra HF wc bb Ca Da jj Ea Fa qs Sa bc Ka wd bo Za Ab Bb we Oa Pa Ta Fb Sb Tb Tc Uc Vc Wc Xc Yc Zc Ad Bd wf Vb Wb Ga Hb Ib Ua Gb Yb;exact key5.out
namespace M
theorem form_kinds(h:formB l' id em dC i' bare mok sok rok L non wk idk p7 mt=true):
  (l'=1/\mok=true/\sok=true/\rok=true/\L=true)\/(l'=2/\wk=true)\/(l'=3/\wk=true/\idk=true/\p7=true)\/(l'=4/\mt=true)\/(l'=5/\idk=true):=by
 unfold formB at h;by_cases h1:l'=1
 .rw[if_pos h1]at h;simp only[xP]at h;exact .inl ⟨h1,h.1,h.2.1,h.2.2.1,h.2.2.2.1⟩
 rw[if_neg h1]at h;by_cases h2:l'=2
 .rw[if_pos h2]at h;simp only[xP]at h;exact .inr (.inl ⟨h2,h.2.1⟩)
 rw[if_neg h2]at h;by_cases h3:l'=3
 .rw[if_pos h3]at h;simp only[xP]at h;exact .inr (.inr (.inl ⟨h3,h.2.1,h.2.2.1,h.2.2.2.1⟩))
 rw[if_neg h3]at h;by_cases h4:l'=4
 .rw[if_pos h4]at h;simp only[xP]at h;exact .inr (.inr (.inr (.inl ⟨h4,h.2.2.2.2.1⟩)))
 rw[if_neg h4]at h;by_cases h5:l'=5
 .rw[if_pos h5]at h;simp only[xP]at h;exact .inr (.inr (.inr (.inr ⟨h5,h.2.2.1⟩)))
 .rw[if_neg h5]at h;simp at h
theorem inB_iff{x lo hi:Int}:inB x lo hi=true↔lo<=x/\x<=hi:=by unfold inB;simp
def Mt.right(m:Mt):Prop:=Right m.now m.next m.bs m.js
theorem acted_right{g:Jb->Bool}{m:Mt}{mc:Mc}{s:Int×Int}(h:m.right):
  (acted g (formB l' id em dC i' bare mc.ok (M.sOk s) (M.rows em) (inB i' 1 8) non (inB dC 1 9) (inB id 1 1000000000) (inB em 0 7) (inB i' 1 1000000000)) m l' id em dC i' mc s).1.right:=by
 unfold acted;rw[if_neg (by rw[show m.ok=true from Right.ok h];simp)];by_cases hf:formB l' id em dC i' bare mc.ok (M.sOk s) (M.rows em) (inB i' 1 8) non (inB dC 1 9) (inB id 1 1000000000) (inB em 0 7) (inB i' 1 1000000000)=false
 .rw[if_pos hf];exact h
 ·
  rw[if_neg hf];have wk:∀{x},inB x 1 9=true->wkOk x=true:=λ{x} h=>h;unfold act
  rcases form_kinds (by simpa using hf)with⟨rfl,h1,h2,h3,h4⟩ | ⟨rfl,h1⟩ | ⟨rfl,h1,h2,h3⟩ | ⟨rfl,h1⟩ | ⟨rfl,h1⟩
  .rw[if_pos rfl];exact submit_right h h1 h2 h3 (inB_iff.1 h4).1 (inB_iff.1 h4).2
  .rw[if_neg (by decide),if_neg (by decide),if_neg (by decide),if_pos rfl];exact lease_right h (wk h1)
  .rw[if_neg (by decide),if_neg (by decide),if_neg (by decide),if_neg (by decide)];exact back_right h (wk h1) (inB_iff.1 h3).1
  .rw[if_neg (by decide),if_pos rfl];exact tick_right h (inB_iff.1 h1).1
  .rw[if_neg (by decide),if_neg (by decide),if_pos rfl];exact cancel_right h
end M
set_option maxRecDepth 10000 in
theorem kw(now sr:Int)(l' id em dC i' m0 I J Q m4 Y m6 m7 L Z B D t1 t2 p1 p2 p3 p4:Int)(w:World)(hz:co w ab nb cb aj nj cj bs js)(hf:M.mkOk now sr bs js=false):
  Rt 6 #[.agg #[it now,it sr,.slice ab nb cb,.slice aj nj cj],.agg #[it l',it id,it em,it dC,it i',it m0,it I,it J,it Q,it m4,it Y,it m6,it m7,it L,it Z,it B,it D,it t1,it t2,it p1,it p2,it p3,it p4,.slice a1 n1 c1,.slice a2 n2 c2,.slice a3 n3 c3,.slice a4 n4 c4]] w (.tuple #[.agg #[it 0,it 0,.slice none 0 0,.slice none 0 0],it 1,it 0]):=by
 have HB:H7 (m1 w (((w.alloc (.cells (aJ now sr ab nb cb aj nj cj).toArray 27)).alloc (.cells (b8 l' id em dC i' m0 I J Q m4 Y m6 m7 L Z B D t1 t2 p1 p2 p3 p4 a1 n1 c1 a2 n2 c2 a3 n3 c3 a4 n4 c4).toArray 37)).alloc (.cells cm.toArray 27))):=(((m8 _ _).alloc (m3 _) _).alloc (by simp) _).alloc (by simp;omega) _;have HZ:H7 (aw (((w.alloc (.cells (aJ now sr ab nb cb aj nj cj).toArray 27)).alloc (.cells (b8 l' id em dC i' m0 I J Q m4 Y m6 m7 L Z B D t1 t2 p1 p2 p3 p4 a1 n1 c1 a2 n2 c2 a3 n3 c3 a4 n4 c4).toArray 37)).alloc (.cells cm.toArray 27)) (w.heap.size+1+1) cm):=dG _ _ _ _ _;have HM:=Hd (hz.below HB.o);have C1:=tV now sr (((w.alloc (.cells (aJ now sr ab nb cb aj nj cj).toArray 27)).alloc (.cells (b8 l' id em dC i' m0 I J Q m4 Y m6 m7 L Z B D t1 t2 p1 p2 p3 p4 a1 n1 c1 a2 n2 c2 a3 n3 c3 a4 n4 c4).toArray 37)).alloc (.cells cm.toArray 27)) HM.o hf;clear hz hf;go_enter func6,ntmps6;(go_wp2_with fail);generalize(((w.alloc (.cells (aJ now sr ab nb cb aj nj cj).toArray 27)).alloc (.cells (b8 l' id em dC i' m0 I J Q m4 Y m6 m7 L Z B D t1 t2 p1 p2 p3 p4 a1 n1 c1 a2 n2 c2 a3 n3 c3 a4 n4 c4).toArray 37)).alloc (.cells cm.toArray 27))=wa at *;refine C1.mono ?_;rintro e wb ⟨rfl,hb⟩;have Aa:=HZ.b hb;have Ba:=HB.t hb;have r0:=Aa.c 0;have f0:=Aa.o.fr 0;have r1:=Aa.c 1;have f1:=Aa.o.fr 1;have r2:=Aa.c 2;have f2:=Aa.o.fr 2;have r3:=Aa.c 3;have f3:=Aa.o.fr 3;go_wp2;show bodyPost _ _ _ _ _ (wb.setCells (w.heap.size+1+1) 0 cm);have hL:=Aa.o.setCells cm 0 (by simp);have hB:=aP cm 0 Ba.o (show w.heap.size<=w.heap.size+1+1 by omega);generalize wb.setCells (w.heap.size+1+1) 0 cm=wf at *;exact s' (aK rfl rfl (xH wf (w.heap.size+1+1) 0 27 _ _ hL.row underlying27 rfl (by kernel_rfl))) rfl ⟨rfl,hB⟩
def qL(w:World)(r:M.Mt×Int×Int)(e:Ending)(w':World):Prop:=∃v dA,w.heap.size<=dA/\e=.returned (.tuple #[v,it r.2.1,it r.2.2])/\∃ab nb cb aj nj cj qm,v=.agg #[it r.1.now,it r.1.next,.slice ab nb cb,.slice aj nj cj]/\aW w' dA ab nb cb r.1.bs aj nj cj qm/\qm.map (·.1)=r.1.js/\m1 w w'
set_option maxRecDepth 10000 in
theorem cA(now sr:Int)(l' id em dC i' m0 I J Q m4 Y m6 m7 L Z B D t1 t2 p1 p2 p3 p4:Int)(w:World)(hz:co w ab nb cb aj nj cj bs js)(hf:M.mkOk now sr bs js=true)(iv:Value)(of:Bool)(CA:∀W,Rt 18 #[.agg #[it l',it id,it em,it dC,it i',it m0,it I,it J,it Q,it m4,it Y,it m6,it m7,it L,it Z,it B,it D,it t1,it t2,it p1,it p2,it p3,it p4,.slice a1 n1 c1,.slice a2 n2 c2,.slice a3 n3 c3,.slice a4 n4 c4]] W (.tuple #[iv,.bool of]))(N X:Int)(BS:List Int)(JS:List M.Jb)(c d:Int)
 (CD:of=true->∀W dA h ab nb cb ai ni ci mb qs,bq W dA h now sr ab nb cb bs ai ni ci mb qs->qs.map (λq:HJ=>q.j)=js->dA<=W.heap.size->m1 w W->Calls prog 20 #[tG h,iv] W (gO W dA h (⟨N,X,BS,JS⟩,c,d)))(HR:of=true->M.Right N X BS JS)(r:M.Mt×Int×Int)(hr:(of=false->r=(⟨now,sr,bs,js⟩,2,0))/\(of=true->r=(⟨N,X,BS,JS⟩,c,d))):
  Calls prog 6 #[.agg (aJ now sr ab nb cb aj nj cj).toArray,.agg (b8 l' id em dC i' m0 I J Q m4 Y m6 m7 L Z B D t1 t2 p1 p2 p3 p4 a1 n1 c1 a2 n2 c2 a3 n3 c3 a4 n4 c4).toArray] w (qL w r):=by
 have Va:=Hd hr;have Eb:=Hd CD;have Fb:=Hd HR;have HB:H7 (m1 w (((w.alloc (.cells (aJ now sr ab nb cb aj nj cj).toArray 27)).alloc (.cells (b8 l' id em dC i' m0 I J Q m4 Y m6 m7 L Z B D t1 t2 p1 p2 p3 p4 a1 n1 c1 a2 n2 c2 a3 n3 c3 a4 n4 c4).toArray 37)).alloc (.cells cm.toArray 27))):=(((m8 _ _).alloc (m3 _) _).alloc (by simp) _).alloc (by simp;omega) _;have HA:H7 (aw (((w.alloc (.cells (aJ now sr ab nb cb aj nj cj).toArray 27)).alloc (.cells (b8 l' id em dC i' m0 I J Q m4 Y m6 m7 L Z B D t1 t2 p1 p2 p3 p4 a1 n1 c1 a2 n2 c2 a3 n3 c3 a4 n4 c4).toArray 37)).alloc (.cells cm.toArray 27)) (w.heap.size+1) (b8 l' id em dC i' m0 I J Q m4 Y m6 m7 L Z B D t1 t2 p1 p2 p3 p4 a1 n1 c1 a2 n2 c2 a3 n3 c3 a4 n4 c4)):=(aZ _ _ _ _).alloc _;have HZ:H7 (aw (((w.alloc (.cells (aJ now sr ab nb cb aj nj cj).toArray 27)).alloc (.cells (b8 l' id em dC i' m0 I J Q m4 Y m6 m7 L Z B D t1 t2 p1 p2 p3 p4 a1 n1 c1 a2 n2 c2 a3 n3 c3 a4 n4 c4).toArray 37)).alloc (.cells cm.toArray 27)) (w.heap.size+1+1) cm):=dG _ _ _ _ _;have HM:=Hd (hz.below HB.o);have C1:=rW now sr (((w.alloc (.cells (aJ now sr ab nb cb aj nj cj).toArray 27)).alloc (.cells (b8 l' id em dC i' m0 I J Q m4 Y m6 m7 L Z B D t1 t2 p1 p2 p3 p4 a1 n1 c1 a2 n2 c2 a3 n3 c3 a4 n4 c4).toArray 37)).alloc (.cells cm.toArray 27)) HM.o hf;have Wa:=Hd (cC hf);have Na:=Hd HZ.o.2.2;have Oa:=Hd HB.o.size;clear hz hf;go_enter func6,ntmps6;(go_wp2_with fail);generalize(((w.alloc (.cells (aJ now sr ab nb cb aj nj cj).toArray 27)).alloc (.cells (b8 l' id em dC i' m0 I J Q m4 Y m6 m7 L Z B D t1 t2 p1 p2 p3 p4 a1 n1 c1 a2 n2 c2 a3 n3 c3 a4 n4 c4).toArray 37)).alloc (.cells cm.toArray 27))=wa at *;refine C1.mono ?_;rintro e wb ⟨hp,Ba,Ca,Da,ai,ni,ci,mb,qs,rfl,hh,Gb,hb⟩;have Xa:=HZ.b hb;have Ya:=HA.b hb;have Pa:=HB.t hb;have Za:=Hd hh;have Ha:=Hd Gb;have Ab:=hb.size;(go_wp2_with(with_reducible refine au 21 ?_ ?_;rfl));refine dY 37 (w.heap.size+1) 0 (b8 l' id em dC i' m0 I J Q m4 Y m6 m7 L Z B D t1 t2 p1 p2 p3 p4 a1 n1 c1 a2 n2 c2 a3 n3 c3 a4 n4 c4) Ya.o.row underlying37 ⟨rfl,rfl,by kernel_rfl,_,rfl,by kernel_rfl⟩ ?_;(go_wp2_with fail);refine(CA wb).mono ?_;rintro e wc ⟨rfl,hb⟩;have Ka:=Xa.b hb;have La:=Pa.t hb;have Qa:=Hd (Za.o.below hb);have Ra:=tr Ab hb.size;clear hb Xa Pa Za Ya CA Ab
 cases of with
 | false=>
  have Sa:(qs.map (λq:HJ=>q.j.id)).Pairwise (·< ·):=(by have:=Wa.o.rise;rw[<-Ha.o,List.pairwise_map]at this;exact List.pairwise_map.2 this);have Ta:ni<=1000:=(by have:=Wa.o.few;rw[<-Ha.o,List.length_map,Qa.o.count]at this;omega);obtain rfl:=Va.o.1 rfl;(go_wp2_with fail);refine(lj wc Qa.o Sa Ta Ra).mono ?_;rintro e wx ⟨Ea,Fa,Ga,qm,rfl,hM,hJ,Ja⟩;have Aa:=Ka.b Ja;have Ua:=La.t Ja;have Ia:H7 (aW wx wa.heap.size Ba Ca Da bs Ea Fa Ga qm/\qm.map (·.1)=js):=⟨hM,hJ.trans Ha.o⟩;have r0:=Aa.c 0;have f0:=Aa.o.fr 0;have r1:=Aa.c 1;have f1:=Aa.o.fr 1;have r2:=Aa.c 2;have f2:=Aa.o.fr 2;have r3:=Aa.c 3;have f3:=Aa.o.fr 3;go_wp2;show bodyPost _ _ _ _ _ (wx.setCells (w.heap.size+1+1) 0 (aJ now sr Ba Ca Da Ea Fa Ga));have hL:=Aa.o.setCells (aJ now sr Ba Ca Da Ea Fa Ga) 0 (by simp);have hg:=dS wx (w.heap.size+1+1) 0 (aJ now sr Ba Ca Da Ea Fa Ga);have hB:=aP (aJ now sr Ba Ca Da Ea Fa Ga) 0 Ua.o (show w.heap.size<=(w.heap.size+1+1) by omega);have hM:=Ia.o.1.grown hg (λg hg2 e=>by have:=(Ia.o.1.lt g hg2).1;have:=m2 e;have:=Na.o;omega);generalize(wx.setCells (w.heap.size+1+1) 0 (aJ now sr Ba Ca Da Ea Fa Ga))=wf at *;clear hg;exact s' (aK rfl rfl (xH wf (w.heap.size+1+1) 0 27 _ _ hL.row underlying27 rfl (by kernel_rfl))) rfl ⟨_,wa.heap.size,Oa.o,rfl,_,_,_,_,_,_,_,rfl,hM,Ia.o.2,hB⟩
 | true=>
  obtain rfl:=Va.o.2 rfl;have C2:=Eb.o rfl wc wa.heap.size hp Ba Ca Da ai ni ci mb qs Qa.o Ha.o Ra La.o;have Bb:=Hd (Fb.o rfl);(go_wp2_with fail);refine C2.mono ?_;rintro e wd ⟨rfl,⟨Ba,Ca,Da,ai,ni,ci,mb,qs,hH,Hb⟩,hb⟩;have Ha:H7 (qs.map (λq:HJ=>q.j)=JS):=Hb;have Cb:H7 (bq wd wa.heap.size hp N X Ba Ca Da BS ai ni ci mb qs):=hH;have Ib:=Hd (Ka.o.below hb Na.o);have Db:=Hd (La.o.trans (hb.mono Oa.o));have Kb:=tr Ra hb.size;have Ka:=Ib;have Sa:(qs.map (λq:HJ=>q.j.id)).Pairwise (·< ·):=(by have:=Bb.o.rise;rw[<-Ha.o,List.pairwise_map]at this;exact List.pairwise_map.2 this);have Ta:ni<=1000:=(by have:=Bb.o.few;rw[<-Ha.o,List.length_map,Cb.o.count]at this;omega);(go_wp2_with fail);refine(lj wd Cb.o Sa Ta Kb).mono ?_;rintro e wx ⟨Ea,Fa,Ga,qm,rfl,hM,hJ,Ja⟩;have Aa:=Ka.b Ja;have Ua:=Db.t Ja;have Ia:H7 (aW wx wa.heap.size Ba Ca Da BS Ea Fa Ga qm/\qm.map (·.1)=JS):=⟨hM,hJ.trans Ha.o⟩;have r0:=Aa.c 0;have f0:=Aa.o.fr 0;have r1:=Aa.c 1;have f1:=Aa.o.fr 1;have r2:=Aa.c 2;have f2:=Aa.o.fr 2;have r3:=Aa.c 3;have f3:=Aa.o.fr 3;go_wp2;show bodyPost _ _ _ _ _ (wx.setCells (w.heap.size+1+1) 0 (aJ N X Ba Ca Da Ea Fa Ga));have hL:=Aa.o.setCells (aJ N X Ba Ca Da Ea Fa Ga) 0 (by simp);have hg:=dS wx (w.heap.size+1+1) 0 (aJ N X Ba Ca Da Ea Fa Ga);have hB:=aP (aJ N X Ba Ca Da Ea Fa Ga) 0 Ua.o (show w.heap.size<=(w.heap.size+1+1) by omega);have hM:=Ia.o.1.grown hg (λg hg2 e=>by have:=(Ia.o.1.lt g hg2).1;have:=m2 e;have:=Na.o;omega);generalize(wx.setCells (w.heap.size+1+1) 0 (aJ N X Ba Ca Da Ea Fa Ga))=wf at *;exact s' (aK rfl rfl (xH wf (w.heap.size+1+1) 0 27 _ _ hL.row underlying27 rfl (by kernel_rfl))) rfl ⟨_,wa.heap.size,Oa.o,rfl,_,_,_,_,_,_,_,rfl,hM,Ia.o.2,hB⟩
section
open Go.ChangeShapes Go.WideShapes
namespace card
abbrev nL:String:= "loop.example/g00319/impl.errLength"
abbrev nN:String:= "loop.example/g00319/impl.errNoElement"
theorem gL:prog.globalNamed nL=some 1:=by kernel_rfl
theorem gN:prog.globalNamed nN=some 0:=by kernel_rfl
theorem gT:prog.globalNamed "errors.errorType" = some 2:=by kernel_rfl
theorem tL:(prog.globals[1]?).map (·.type)=some 92:=by kernel_rfl
theorem tN:(prog.globals[0]?).map (·.type)=some 92:=by kernel_rfl
theorem cE:prog.cellsOf 331=1:=by kernel_rfl
theorem cS:prog.cellsOf 9=1:=by kernel_rfl
theorem star: "*" ++ "errors.errorString" = "*errors.errorString" :=by decide
theorem rowE(u:TypeId)(h:prog.typeName? 3 u=some "*errors.errorString"):u=309:=
 typeName_ptr_named (nm:= "errors.errorString") (by rw[star];kernel_rfl) (by kernel_rfl) (by decide) u (by rw[star];exact h)
theorem rt:(prog.cutTypes.find? (·.1== "internal/reflectlite.rtype")).map (·.2)=some 262:=by kernel_rfl
theorem oneRow:((List.range prog.types.size).filter λt=>prog.rowNamed t [101,114,114,111,114])=[92]:=by kernel_rfl
abbrev laid:List (String×DataW Unit):=[("errors.errorType",Rows.laid_errors_errorType),(nN,Rows.laid_loop_example_g00319_impl_errNoElement),(nL,Rows.laid_loop_example_g00319_impl_errLength)]
theorem split(h:laidMetH prog laid W):laidMet prog [(nN,Rows.laid_loop_example_g00319_impl_errNoElement),(nL,Rows.laid_loop_example_g00319_impl_errLength)] W/\handlesMet prog [("errors.errorType",Rows.laid_errors_errorType)] W:=h
theorem handle(h':handlesMet prog [("errors.errorType",Rows.laid_errors_errorType)] W):W.cell? ⟨2,0,none⟩=some (.iface 262 (.agg #[.pointer (some ⟨6,92,none⟩)])):=by
 obtain⟨Aa,u,ty,e1,e2,e3,e4,e5⟩:=h' _ (List.mem_singleton.2 rfl);have en:Aa=[101,114,114,111,114]:=(m2 e1).symm;subst en;obtain rfl:=m2 (rt.symm.trans e2);have hm:ty∈(List.range prog.types.size).filter λt=>prog.rowNamed t [101,114,114,111,114]:=List.mem_filter.2 ⟨List.mem_range.2 e3,e4⟩;rw[oneRow]at hm;obtain rfl:=List.mem_singleton.1 hm;have hh:typeHandle prog 92=.pointer (some ⟨6,92,none⟩):=(by kernel_rfl);rw[hh]at e5;simpa using World.var?_cell gT e5 0
theorem env(h:laidMetH prog laid W):∃aL aN,Env W aL aN/\W.var? prog nL=some #[.iface 309 (.pointer (some aL))]/\W.var? prog nN=some #[.iface 309 (.pointer (some aN))]:=by
 obtain⟨hs,hh⟩:=split h;obtain⟨aN,aL,s0,s1,c0,c1,t0,t1,Aa,Ba,Fa,Ga,Ha,Ia,Ja,Ka,Ca,Da,Ea⟩:=laid_sentinels2 hs gN tN gL tL underlying92 rowE underlying309 underlying331 rfl rfl underlying9 cE cS;exact⟨aL,aN,⟨by simpa using World.var?_cell gL Ba 0,by simpa using World.var?_cell gN Aa 0,handle hh,Ca,⟨_,_,Ea⟩,⟨_,_,Da⟩⟩,Ba,Aa⟩
end card
end
end Go.Proofs.YtbjalickbnpnkaaGreatDoor
