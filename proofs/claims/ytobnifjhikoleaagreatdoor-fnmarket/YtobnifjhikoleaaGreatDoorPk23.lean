import Derived.ProofKit
import Derived.Stop.LaidTwo
import Derived.LaidMore
import Derived.Test.YtobnifjhikoleaaGreatDoorPk21
import Derived.Test.YtobnifjhikoleaaGreatDoorPk22
namespace Go.Proofs.YtobnifjhikoleaaGreatDoor
open Go.RowKit Go.Proofs.Tryz
set_option linter.unusedSimpArgs false
set_option maxHeartbeats 32000000
variable {now uN l' id s' t' tr:Int}{w w' W:World}{i' nb cb nj cj n1 n2 n3 n4 c1 c2 c3 c4:Nat}{ab aj a1 a2 a3 a4:Option Addr}{bs:List Int}{qs:List MQ}{p:M.Pf}{bare mok sok rok Q non wk idk p7 mt:Bool}{js:List M.Jb}
theorem mI:j5:=ue.h ⟨fd.h ⟨rg⟩ ⟨rh⟩ ⟨rj⟩ ⟨rm⟩ ⟨tW⟩⟩
theorem pH{who:Int}(hw:who≠0):bt now who=M.mineT who:=by
 funext t
 unfold bt M.mineT M.leased;by_cases h:t.l'=who
 ·simp[h,hw]
 ·simp[h,hw]
theorem eQ.back{e:Ending}(hw:l'≠0)(hbn:bs.contains l'=false)(h:eQ w i' now uN ab nb cb bs aj nj cj qs l' id s' p e w'):
  ∃v,e=.returned (.tuple #[v,.int .i64 (M.back (cn s' p) ⟨now,uN,bs,qs.map (·.1)⟩ l' id s').2.1,.int .i64 (M.back (cn s' p) ⟨now,uN,bs,qs.map (·.1)⟩ l' id s').2.2])∧mr w i' v (M.back (cn s' p) ⟨now,uN,bs,qs.map (·.1)⟩ l' id s').1.now (M.back (cn s' p) ⟨now,uN,bs,qs.map (·.1)⟩ l' id s').1.next (M.back (cn s' p) ⟨now,uN,bs,qs.map (·.1)⟩ l' id s').1.bs (M.back (cn s' p) ⟨now,uN,bs,qs.map (·.1)⟩ l' id s').1.js w':=by
 obtain⟨hB,h⟩:=h;have h0:¬ (bs.contains l'=true):=by rw[hbn];simp
 rcases h with⟨h1,rfl,hM⟩ | ⟨h1,h2,rfl,hM⟩ | ⟨h1,h2,h3,ab',nb',cb',rfl,hM⟩ | ⟨h1,h2,h3,i,hi,rfl,hM⟩
 ·
  have e:M.back (cn s' p) ⟨now,uN,bs,qs.map (·.1)⟩ l' id s'=(⟨now,uN,bs,qs.map (·.1)⟩,4,0):=by
   unfold M.back;rw[if_neg h0,if_pos (by simpa using h1)]
  rw[e];exact⟨_,rfl,_,_,_,_,_,_,_,rfl,hM,rfl,hB⟩
 ·
  have e:M.back (cn s' p) ⟨now,uN,bs,qs.map (·.1)⟩ l' id s'=(⟨now,uN,bs,qs.map (·.1)⟩,8,0):=by
   unfold M.back;rw[if_neg h0,if_neg (by simpa using h1),if_pos h2]
  rw[e];exact⟨_,rfl,_,_,_,_,_,_,_,rfl,hM,rfl,hB⟩
 ·
  have e:M.back (cn s' p) ⟨now,uN,bs,qs.map (·.1)⟩ l' id s'=(⟨now,uN,M.banned bs l',(qs.map (·.1)).map (M.freeJ (M.mineT l'))⟩,7,0):=by
   unfold M.back;rw[if_neg h0,if_neg (by simpa using h1),if_neg (by simpa using h2),if_pos h3]
  rw[e];rw[pH hw]at hM;exact⟨_,rfl,_,_,_,_,_,_,_,rfl,hM,by simp[List.map_map,Function.comp_def],hB⟩
 ·
  have e:M.back (cn s' p) ⟨now,uN,bs,qs.map (·.1)⟩ l' id s'=(⟨now,uN,bs,M.setT (qs.map (·.1)) i s'.toNat ⟨true,0,0⟩⟩,0,if((M.jobOf id (qs.map (·.1))).ts.set s'.toNat ⟨true,0,0⟩).all (·.done)then 1 else 0):=by
   unfold M.back;rw[if_neg h0,if_neg (by simpa using h1),if_neg (by simpa using h2),if_neg (by simp[h3]),hi]
   rfl
  rw[e]
  have hj:M.jobOf id (qs.map (·.1))=(qs.getD i q0).1:=by
   rw[←dC];unfold M.jobOf;rw[hi]
   rfl
  rw[hj];refine⟨_,rfl,_,_,_,_,_,_,_,rfl,hM,?_,hB⟩;unfold M.setT;rw[dC,List.map_set]
namespace M
def act(g:Jb→Bool)(m:Mt)(t' id s' l' tr:Int)(mc:Mc)(s:Int×Int):Mt×Int×Int:=
 if t'=1 then submit m mc s s' tr
 else if t'=4 then tick m tr
 else if t'=5 then cancel m id
 else if t'=2 then lease m l'
 else back g m l' id s'
def acted(g:Jb→Bool)(form:Bool)(m:Mt)(t' id s' l' tr:Int)(mc:Mc)(s:Int×Int):Mt×Int×Int:=
 if m.ok=false then(Mt.zero,1,0)
 else if form=false then(m,2,0)
 else act g m t' id s' l' tr mc s
end M
def bD(w:World)(i':Nat)(r:M.Mt×Int×Int)(e:Ending)(w':World):Prop:=
 ∃v,e=.returned (.tuple #[v,.int .i64 r.2.1,.int .i64 r.2.2])∧mr w i' v r.1.now r.1.next r.1.bs r.1.js w'
theorem eQ.act{e:Ending}(hw:l'≠0)(hbn:bs.contains l'=false)(h:eQ w i' now uN ab nb cb bs aj nj cj qs l' id s' p e w'):
  bD w i' (M.back (cn s' p) ⟨now,uN,bs,qs.map (·.1)⟩ l' id s') e w':=h.back hw hbn
theorem oP(now uN who:Int)(w:World)(H:aW w i' ab nb cb bs aj nj cj qs)(uK:i'≤w.heap.size)(hf:M.Right now uN bs (qs.map (·.1)))(hbn:bs.contains who=false):
  Calls prog 25 #[.agg #[.int .i64 now,.int .i64 uN,.slice ab nb cb,.slice aj nj cj],.int .i64 who] w (bD w i' (M.lease ⟨now,uN,bs,qs.map (·.1)⟩ who)):=by
 have h0:¬ (bs.contains who=true):=(by rw[hbn];simp);have hT:=fun q hq=>(hf.tasks q.1 (List.mem_map.2 ⟨q,hq,rfl⟩)).2
 have Aa:∀q∈qs,0<q.1.id∧q.1.id≤1000000000:=fun q hq=>by
  have h1:=hf.job q.1 (List.mem_map.2 ⟨q,hq,rfl⟩);have h2:=hf.next1;exact⟨h1.1,by have:=h1.2.1;omega⟩
 refine(oQ now uN who w H uK hf.now0 hf.now1 Aa hT).mono ?_;intro e w' h;rw[M.scJ_eq]at h;by_cases ha:(qs.map (·.1)).any (fun j=>j.ts.any (M.mineT who))=true
 ·
  rw[if_pos ha]at h;obtain⟨rfl,hM,hB⟩:=h
  have e:M.lease ⟨now,uN,bs,qs.map (·.1)⟩ who=(⟨now,uN,bs,qs.map (·.1)⟩,6,0):=by
   unfold M.lease;rw[if_neg h0,if_pos ha]
  rw[e];exact⟨_,rfl,_,_,_,_,_,_,_,rfl,hM,rfl,hB⟩
 ·
  rw[if_neg ha]at h
  cases hp:M.place 0 (qs.map (·.1))with
  | none=>
   rw[hp]at h;obtain⟨rfl,hM,hB⟩:=h
   have e:M.lease ⟨now,uN,bs,qs.map (·.1)⟩ who=(⟨now,uN,bs,qs.map (·.1)⟩,4,0):=by
    unfold M.lease;rw[if_neg h0,if_neg ha,hp]
   rw[e];exact⟨_,rfl,_,_,_,_,_,_,_,rfl,hM,rfl,hB⟩
  | some x=>
   obtain⟨i,k⟩:=x;rw[hp]at h;obtain⟨rfl,hM,hB⟩:=h
   have e:M.lease ⟨now,uN,bs,qs.map (·.1)⟩ who=(⟨now,uN,bs,M.setT (qs.map (·.1)) i k ⟨false,who,now+5⟩⟩,0,100*((qs.map (·.1)).getD i M.j0).id+k):=by
    unfold M.lease;rw[if_neg h0,if_neg ha,hp]
   rw[e];refine⟨_,by rw[dC],_,_,_,_,_,_,_,rfl,hM,?_,hB⟩;unfold M.setT;rw[dC,List.map_set]
theorem aW.mono{b2:Nat}(H:aW w b2 ab nb cb bs aj nj cj qs)(hb:i'≤b2):aW w i' ab nb cb bs aj nj cj qs:=
 ⟨iT H.b hb,H.jl,iT H.j hb,fun q hq=>⟨(H.t q hq).1,iT (H.t q hq).2 hb⟩,H.d⟩
theorem aW.zero(w:World)(i':Nat):aW w i' none 0 0 [] none 0 0 []:=
 ⟨World.ownsRow_nil _ _ _ _,rfl,World.ownsRow_nil _ _ _ _,by simp,by simp[b8,ob]⟩
def ba(now uN:Int)(bs:List Int)(js:List M.Jb)(t' id s' l' tr m0 J L T Y U Z m7 Q V A I t1 t2 p1 p2 p3 p4:Int)(n1 n2 n3 n4:Nat)(z1 z2 z3 z4:List Int):M.Mt×Int×Int:=
 M.acted (cn s' ⟨(p1,p2),(p3,p4),z1,z2,z3,z4⟩) (M.formB t' id s' l' tr (bV m0 J L T Y U Z m7 Q V A I&&(decide (t1=0)&&decide (t2=0))) (M.Mc.ok ⟨⟨m0,J,L,T,Y,U⟩,⟨Z,m7,Q,V,A,I⟩⟩) (M.sOk (t1,t2)) (M.rows s') (M.inB tr 1 8) (bM p1 p2 p3 p4 n1 n2 n3 n4) (M.inB l' 1 9) (M.inB id 1 1000000000) (M.inB s' 0 7) (M.inB tr 1 1000000000)) ⟨now,uN,bs,js⟩ t' id s' l' tr ⟨⟨m0,J,L,T,Y,U⟩,⟨Z,m7,Q,V,A,I⟩⟩ (t1,t2)
set_option linter.unusedVariables false in
def iX:Prop:=∀(ab aj:Option Addr) (nb cb nj cj:Nat) (bs:List Int) (js:List M.Jb) (now uN:Int) (t' id s' l' tr m0 J L T Y U Z m7 Q V A I t1 t2 p1 p2 p3 p4:Int) (a1 a2 a3 a4:Option Addr) (n1 n2 n3 n4 c1 c2 c3 c4:Nat) (z1 z2 z3 z4:List Int) (w:World) (hz:co w ab nb cb aj nj cj bs js) (h1:aw w a1 n1 c1 z1) (h2:aw w a2 n2 c2 z2) (h3:aw w a3 n3 c3 z3) (h4:aw w a4 n4 c4 z4) (l1:n1≤1048576) (l2:n2≤1048576) (l3:n3≤1048576) (l4:n4≤1048576),
  Calls prog 7 #[.agg (aI now uN ab nb cb aj nj cj).toArray,.agg (bH t' id s' l' tr m0 J L T Y U Z m7 Q V A I t1 t2 p1 p2 p3 p4 a1 n1 c1 a2 n2 c2 a3 n3 c3 a4 n4 c4).toArray] w (bD w w.heap.size (ba now uN bs js t' id s' l' tr m0 J L T Y U Z m7 Q V A I t1 t2 p1 p2 p3 p4 n1 n2 n3 n4 z1 z2 z3 z4))
set_option maxRecDepth 10000 in
def sU:uy iX:=by
 apply uy.mk
 case h=>
  intro key0 ab aj nb cb nj cj bs js Aa Ba Na id Ga Ia Ha m0 J L T Y U Z m7 Q V Ja Ka t1 t2 p1 p2 p3 p4 a1 a2 a3 a4 n1 n2 n3 n4 c1 c2 c3 c4 z1 z2 z3 z4 w hz h1 h2 h3 h4 l1 l2 l3 l4;have HM:=Hd hz;have S1:=Hd h1;have S2:=Hd h2;have S3:=Hd h3;have S4:=Hd h4;generalize HR:ba Aa Ba bs js Na id Ga Ia Ha m0 J L T Y U Z m7 Q V Ja Ka t1 t2 p1 p2 p3 p4 n1 n2 n3 n4 z1 z2 z3 z4=r;have Eb:=Hd HR;clear hz h1 h2 h3 h4 HR;have C1:=fun W (h:co W ab nb cb aj nj cj bs js)=>ji Aa Ba W h;generalize Qb:M.mkOk Aa Ba bs js=ok at C1;have Wa:=Hd Qb;clear Qb;go_enter func7,ntmps7;have Fb:H9 (au (((w.alloc (.cells (aI Aa Ba ab nb cb aj nj cj).toArray 27)).alloc (.cells (bH Na id Ga Ia Ha m0 J L T Y U Z m7 Q V Ja Ka t1 t2 p1 p2 p3 p4 a1 n1 c1 a2 n2 c2 a3 n3 c3 a4 n4 c4).toArray 37)).alloc (.cells aV.toArray 27)) w.heap.size (aI Aa Ba ab nb cb aj nj cj)):=((aM _ _ _).alloc _).alloc _;have Gb:H9 (au (((w.alloc (.cells (aI Aa Ba ab nb cb aj nj cj).toArray 27)).alloc (.cells (bH Na id Ga Ia Ha m0 J L T Y U Z m7 Q V Ja Ka t1 t2 p1 p2 p3 p4 a1 n1 c1 a2 n2 c2 a3 n3 c3 a4 n4 c4).toArray 37)).alloc (.cells aV.toArray 27)) (w.heap.size+1) (bH Na id Ga Ia Ha m0 J L T Y U Z m7 Q V Ja Ka t1 t2 p1 p2 p3 p4 a1 n1 c1 a2 n2 c2 a3 n3 c3 a4 n4 c4)):=(aZ _ _ _ _).alloc _;have Hb:H9 (au (((w.alloc (.cells (aI Aa Ba ab nb cb aj nj cj).toArray 27)).alloc (.cells (bH Na id Ga Ia Ha m0 J L T Y U Z m7 Q V Ja Ka t1 t2 p1 p2 p3 p4 a1 n1 c1 a2 n2 c2 a3 n3 c3 a4 n4 c4).toArray 37)).alloc (.cells aV.toArray 27)) (w.heap.size+1+1) aV):=dm _ _ _ _ _;have Sa:H9 (m1 w (((w.alloc (.cells (aI Aa Ba ab nb cb aj nj cj).toArray 27)).alloc (.cells (bH Na id Ga Ia Ha m0 J L T Y U Z m7 Q V Ja Ka t1 t2 p1 p2 p3 p4 a1 n1 c1 a2 n2 c2 a3 n3 c3 a4 n4 c4).toArray 37)).alloc (.cells aV.toArray 27))):=(((m5 _ _).alloc (m3 _) _).alloc (by simp) _).alloc (by simp;omega) _;(go_wp2_with fail);generalize(((w.alloc (.cells (aI Aa Ba ab nb cb aj nj cj).toArray 27)).alloc (.cells (bH Na id Ga Ia Ha m0 J L T Y U Z m7 Q V Ja Ka t1 t2 p1 p2 p3 p4 a1 n1 c1 a2 n2 c2 a3 n3 c3 a4 n4 c4).toArray 37)).alloc (.cells aV.toArray 27))=wa at Fb Gb Hb Sa ⊢;refine(C1 _ (HM.o.below Sa.o)).mono ?_;rintro e wb ⟨rfl,hb⟩;have Pa:=Fb.b hb;have Rb:=Gb.b hb;have La:=Hb.b hb;have Qa:=Sa.t hb;clear Fb Gb Hb Sa;clear hb
  cases ok with
  | false=>
   have r0:=La.c 0;have Bc:=La.o.fr 0;have r1:=La.c 1;have Cc:=La.o.fr 1;have r2:=La.c 2;have Dc:=La.o.fr 2;have r3:=La.c 3;have Ec:=La.o.fr 3;have hr:r=(M.Mt.zero,1,0):=(by rw[←Eb.o];unfold ba M.acted;rw[if_pos (show M.Mt.ok ⟨Aa,Ba,bs,js⟩=false from Wa.o)]);subst hr;(go_wp2_with fail);show bodyPost _ _ _ _ _ (wb.setCells (w.heap.size+1+1) 0 aV);have Ta:au (wb.setCells (w.heap.size+1+1) 0 aV) (w.heap.size+1+1) aV:=La.o.setCells aV 0 (by simp);have Xa:=ct wb (w.heap.size+1+1) 0 aV;have Ib:=Qa.o.trans (ap Xa Qa.o.size (fun z e=>by have:=m2 e;omega));have Ua:bD w w.heap.size (M.Mt.zero,1,0) (.returned (.tuple #[.agg aV.toArray,it 1,it 0])) (wb.setCells (w.heap.size+1+1) 0 aV):=⟨_,rfl,_,_,_,_,_,_,_,rfl,aW.zero _ _,rfl,Ib⟩;generalize(wb.setCells (w.heap.size+1+1) 0 aV)=wf at Ta Ua ⊢;exact m8 (aJ rfl rfl (u' wf (w.heap.size+1+1) 0 27 _ _ Ta.row underlying27 rfl (by kernel_rfl))) rfl Ua
  | true=>
   have HF:=Hd (bQ Wa.o);have Fc:=Pa.c 0;have Gc:=Pa.c 1;have Hc:=Pa.c 2;have Ic:=Pa.c 3;(go_wp2_with fail);clear Fc Gc Hc Ic;have Ya:=Hd La.o.2.2;refine(qL Aa Ba _ (HM.o.below Qa.o) HF.o).mono ?_;rintro e wc ⟨v,rfl,bb,Ca,Da,jj,Ea,Fa,qs,rfl,Sb,Tb,hb⟩;have Za:=Hd hb.size;have Ub:=Pa.b hb;have Vb:=Rb.b hb;have Wb:=La.b hb;have Jb:=Qa.t hb;clear Pa Rb La Qa;have Ab:=Hd Sb;clear hb Sb;generalize wb.heap.size=bc at Ab Ya Za;have Xb:=Hd (fun g hg=>(Ab.o.lt g hg).2);have Ra:=fh wc (.cells (aI Aa Ba bb Ca Da jj Ea Fa).toArray 27);have Kb:=Ub.b Ra;have Bb:=Vb.b Ra;have Lb:=Wb.b Ra;have Cb:=Jb.t Ra;have Nb:=Hd (Ab.o.below Ra);clear Ub Vb Wb Jb Ab;clear Ra;have Db:=cC wc (aI Aa Ba bb Ca Da jj Ea Fa) 27;have hR:=Bb.o.row;(go_wp2_with(with_reducible refine aA 16 ?_ ?_;rfl));with_reducible refine fu 37 (w.heap.size+1) 0 (bH Na id Ga Ia Ha m0 J L T Y U Z m7 Q V Ja Ka t1 t2 p1 p2 p3 p4 a1 n1 c1 a2 n2 c2 a3 n3 c3 a4 n4 c4) hR underlying37 ?q5 ?_
   case q5=>exact⟨rfl,rfl,by kernel_rfl,_,rfl,by kernel_rfl⟩
   clear hR;have CF:=qM Na id Ga Ia Ha m0 J L T Y U Z m7 Q V Ja Ka t1 t2 p1 p2 p3 p4 (a1:=a1) (a2:=a2) (a3:=a3) (a4:=a4) (c1:=c1) (c2:=c2) (c3:=c3) (c4:=c4) l1 l2 l3 l4;generalize Yb:(M.formB Na id Ga Ia Ha (bV m0 J L T Y U Z m7 Q V Ja Ka&&(decide (t1=0)&&decide (t2=0))) (M.Mc.ok ⟨⟨m0,J,L,T,Y,U⟩,⟨Z,m7,Q,V,Ja,Ka⟩⟩) (M.sOk (t1,t2)) (M.rows Ga) (M.inB Ha 1 8) (bM p1 p2 p3 p4 n1 n2 n3 n4) (M.inB Ia 1 9) (M.inB id 1 1000000000) (M.inB Ga 0 7) (M.inB Ha 1 1000000000))=fo at CF;have Zb:=Hd Yb;clear Yb;(go_wp2_with fail);have Ac:=Hd Za.o;generalize(wc.alloc (.cells (aI Aa Ba bb Ca Da jj Ea Fa).toArray 27))=wd at Kb Bb Lb Cb Nb Db ⊢;generalize wc.heap.size=bo at Db Za Ac Xb ⊢;refine(CF _).mono ?_;rintro e we ⟨rfl,hb⟩;have Jc:=Kb.b hb;have Kc:=Bb.b hb;have Oa:=Lb.b hb;have Ob:=Cb.t hb;have Pb:=Hd (Nb.o.below hb);have Va:=Db.b hb;clear Kb Bb Lb Cb Nb Db;clear hb;clear CF
   cases fo with
   | false=>
    have r0:=Oa.c 0;have Bc:=Oa.o.fr 0;have r1:=Oa.c 1;have Cc:=Oa.o.fr 1;have r2:=Oa.c 2;have Dc:=Oa.o.fr 2;have r3:=Oa.c 3;have Ec:=Oa.o.fr 3;have o0:=Va.c 0;have o1:=Va.c 1;have o2:=Va.c 2;have o3:=Va.c 3;have hr:r=(⟨Aa,Ba,bs,js⟩,2,0):=(by rw[←Eb.o];unfold ba M.acted;rw[if_neg (show ¬ M.Mt.ok ⟨Aa,Ba,bs,js⟩=false by rw[show M.Mt.ok ⟨Aa,Ba,bs,js⟩=true from Wa.o];simp),if_pos Zb.o]);subst hr;(go_wp2_with fail);show bodyPost _ _ _ _ _ (we.setCells (w.heap.size+1+1) 0 (aI Aa Ba bb Ca Da jj Ea Fa));have Ta:au (we.setCells (w.heap.size+1+1) 0 (aI Aa Ba bb Ca Da jj Ea Fa)) (w.heap.size+1+1) (aI Aa Ba bb Ca Da jj Ea Fa):=Oa.o.setCells (aI Aa Ba bb Ca Da jj Ea Fa) 0 (by simp);have Xa:=ct we (w.heap.size+1+1) 0 (aI Aa Ba bb Ca Da jj Ea Fa);have Ib:=Ob.o.trans (ap Xa Ob.o.size (fun z e=>by have:=m2 e;omega));have Lc:aW (we.setCells (w.heap.size+1+1) 0 (aI Aa Ba bb Ca Da jj Ea Fa)) w.heap.size bb Ca Da bs jj Ea Fa qs:=(Pb.o.grown Xa (fun g hg e=>by have:=(Pb.o.lt g hg).1;have:=m2 e;have:=Ya.o;omega)).mono (by have:=Ya.o;omega);have Ua:bD w w.heap.size (⟨Aa,Ba,bs,js⟩,2,0) (.returned (.tuple #[.agg (aI Aa Ba bb Ca Da jj Ea Fa).toArray,it 2,it 0])) (we.setCells (w.heap.size+1+1) 0 (aI Aa Ba bb Ca Da jj Ea Fa)):=⟨_,rfl,_,_,_,_,_,_,_,rfl,Lc,Tb,Ib⟩;generalize(we.setCells (w.heap.size+1+1) 0 (aI Aa Ba bb Ca Da jj Ea Fa))=wf at Ta Ua ⊢;exact m8 (aJ rfl rfl (u' wf (w.heap.size+1+1) 0 27 _ _ Ta.row underlying27 rfl (by kernel_rfl))) rfl Ua
   | true=>
    rename_i Nc Oc Pc Qc Rc Sc;revert ab aj nb cb nj cj bs js Aa Ba Na id Ga Ia Ha m0 J L T Y U Z m7 Q V Ja Ka t1 t2 p1 p2 p3 p4 a1 a2 a3 a4 n1 n2 n3 n4 c1 c2 c3 c4 z1 z2 z3 z4 w l1 l2 l3 l4 HM S1 S2 S3 S4 r Eb wa wb C1 Wa HF wc bb Ca Da jj Ea Fa qs Tb bc Ya Nc Oc Pc Qc Rc Sc wd bo Za Ac Xb we Jc Kc Oa Ob Pb Va Zb;exact key0.out
theorem nK(h:M.formB t' id s' l' tr bare mok sok rok Q non wk idk p7 mt=true)(h1:¬ t'=1)(h4:¬ t'=4)(h5:¬ t'=5):wk=true∧(t'=2∨t'=3∧idk=true∧p7=true):=by
 unfold M.formB at h;rw[if_neg h1]at h;by_cases h2:t'=2
 ·
  rw[if_pos h2]at h;simp only[vl]at h;exact⟨h.2.1,.inl h2⟩
 ·
  rw[if_neg h2]at h;by_cases h3:t'=3
  ·
   rw[if_pos h3]at h;simp only[vl]at h;exact⟨h.2.1,.inr ⟨h3,h.2.2.1,h.2.2.2.1⟩⟩
  ·
   rw[if_neg h3,if_neg h4,if_neg h5]at h;simp at h
set_option maxRecDepth 10000 in
def gC:tu sU.p:=by
 apply tu.mk
 case h=>
  intro key1 key2 key3 key4 key5;intro ab aj nb cb nj cj bs js Aa Ba Ha id Va Ja Wa m0 J L T Y U Z m7 Q V Xa Ya t1 t2 p1 p2 p3 p4 a1 a2 a3 a4 n1 n2 n3 n4 c1 c2 c3 c4 z1 z2 z3 z4 w l1 l2 l3 l4 HM S1 S2 S3 S4 r Qa wa wb C1 Ra HF wc bb Ca Da jj Ea Fa qs Sa bc Ka Jb Kb Lb Nb Ob Pb wd bo Za Ab Bb we Ia La Cb Na Db Eb Oa;by_cases Pa:Ha=1
  case pos=>
   revert ab aj nb cb nj cj bs js Aa Ba Ha id Va Ja Wa m0 J L T Y U Z m7 Q V Xa Ya t1 t2 p1 p2 p3 p4 a1 a2 a3 a4 n1 n2 n3 n4 c1 c2 c3 c4 z1 z2 z3 z4 w l1 l2 l3 l4 HM S1 S2 S3 S4 r Qa wa wb C1 Ra HF wc bb Ca Da jj Ea Fa qs Sa bc Ka Jb Kb Lb Nb Ob Pb wd bo Za Ab Bb we Ia La Cb Na Db Eb Oa Pa;exact key1.out
  case neg=>
   by_cases Ta:Ha=4
   case pos=>
    revert ab aj nb cb nj cj bs js Aa Ba Ha id Va Ja Wa m0 J L T Y U Z m7 Q V Xa Ya t1 t2 p1 p2 p3 p4 a1 a2 a3 a4 n1 n2 n3 n4 c1 c2 c3 c4 z1 z2 z3 z4 w l1 l2 l3 l4 HM S1 S2 S3 S4 r Qa wa wb C1 Ra HF wc bb Ca Da jj Ea Fa qs Sa bc Ka Jb Kb Lb Nb Ob Pb wd bo Za Ab Bb we Ia La Cb Na Db Eb Oa Pa Ta;exact key2.out
   case neg=>
    by_cases Fb:Ha=5
    case pos=>
     revert ab aj nb cb nj cj bs js Aa Ba Ha id Va Ja Wa m0 J L T Y U Z m7 Q V Xa Ya t1 t2 p1 p2 p3 p4 a1 a2 a3 a4 n1 n2 n3 n4 c1 c2 c3 c4 z1 z2 z3 z4 w l1 l2 l3 l4 HM S1 S2 S3 S4 r Qa wa wb C1 Ra HF wc bb Ca Da jj Ea Fa qs Sa bc Ka Jb Kb Lb Nb Ob Pb wd bo Za Ab Bb we Ia La Cb Na Db Eb Oa Pa Ta Fb;exact key3.out
    case neg=>
     obtain⟨Qb,Rb⟩:=nK Oa.o Pa Ta Fb;have Sb:=Hd Qb;have Tb:=Hd Rb;clear Qb Rb;have CB:=fun W (h:aw W ab nb cb bs)=>fJ (aj:=aj) (nj:=nj) (cj:=cj) Aa Ba Ja W h;generalize Ub:bs.contains Ja=bn at CB;have Gb:=Hd Ub;clear Ub;have Zb:=Ia.c 0;have Ac:=Ia.c 1;have Bc:=Ia.c 2;have Cc:=Ia.c 3;have Dc:=La.c 0;have Ec:=La.c 3;(go_wp2_with fail);clear Zb Ac Bc Cc Dc Ec;refine(CB _ (HM.o.b.below Na.o)).mono ?_;rintro e wf ⟨rfl,hb⟩;have Vb:=Ia.b hb;have Wb:=La.b hb;have Ga:=Cb.b hb;have Hb:=Na.t hb;have Ib:=Hd (Db.o.below hb);have Ua:=Eb.b hb;clear Ia La Cb Na Db Eb;clear hb;clear CB
     cases bn with
     | true=>
      have r0:=Ga.c 0;have Cd:=Ga.o.fr 0;have r1:=Ga.c 1;have Dd:=Ga.o.fr 1;have r2:=Ga.c 2;have Ed:=Ga.o.fr 2;have r3:=Ga.c 3;have Fd:=Ga.o.fr 3;have o0:=Ua.c 0;have o1:=Ua.c 1;have o2:=Ua.c 2;have o3:=Ua.c 3
      have hr:r=(⟨Aa,Ba,bs,js⟩,5,0):=by
       rw[←Qa.o];unfold ba M.acted;rw[if_neg (show ¬ M.Mt.ok ⟨Aa,Ba,bs,js⟩=false by rw[show M.Mt.ok ⟨Aa,Ba,bs,js⟩=true from Ra.o];simp),if_neg (by rw[Oa.o];simp)];unfold M.act;rw[if_neg Pa,if_neg Ta,if_neg Fb];by_cases h2:Ha=2
       ·
        rw[if_pos h2];unfold M.lease;rw[if_pos Gb.o]
       ·
        rw[if_neg h2];unfold M.back;rw[if_pos Gb.o]
      subst hr;(go_wp2_with fail);show bodyPost _ _ _ _ _ (wf.setCells (w.heap.size+1+1) 0 (aI Aa Ba bb Ca Da jj Ea Fa));have Fc:au (wf.setCells (w.heap.size+1+1) 0 (aI Aa Ba bb Ca Da jj Ea Fa)) (w.heap.size+1+1) (aI Aa Ba bb Ca Da jj Ea Fa):=Ga.o.setCells (aI Aa Ba bb Ca Da jj Ea Fa) 0 (by simp);have Xb:=ct wf (w.heap.size+1+1) 0 (aI Aa Ba bb Ca Da jj Ea Fa);have Gc:=Hb.o.trans (ap Xb Hb.o.size (fun z e=>by have:=m2 e;omega));have Hc:aW (wf.setCells (w.heap.size+1+1) 0 (aI Aa Ba bb Ca Da jj Ea Fa)) w.heap.size bb Ca Da bs jj Ea Fa qs:=(Ib.o.grown Xb (fun g hg e=>by have:=(Ib.o.lt g hg).1;have:=m2 e;have:=Ka.o;omega)).mono (by have:=Ka.o;omega);have Ic:bD w w.heap.size (⟨Aa,Ba,bs,js⟩,5,0) (.returned (.tuple #[.agg (aI Aa Ba bb Ca Da jj Ea Fa).toArray,it 5,it 0])) (wf.setCells (w.heap.size+1+1) 0 (aI Aa Ba bb Ca Da jj Ea Fa)):=⟨_,rfl,_,_,_,_,_,_,_,rfl,Hc,Sa,Gc⟩;generalize(wf.setCells (w.heap.size+1+1) 0 (aI Aa Ba bb Ca Da jj Ea Fa))=wz at *;exact m8 (aJ rfl rfl (u' wz (w.heap.size+1+1) 0 27 _ _ Fc.row underlying27 rfl (by kernel_rfl))) rfl Ic
     | false=>
      by_cases Yb:Ha=2
      case pos=>
       rename_i Jc Kc Lc Nc Oc Pc Qc Rc Sc;revert ab aj nb cb nj cj bs js Aa Ba Ha id Va Ja Wa m0 J L T Y U Z m7 Q V Xa Ya t1 t2 p1 p2 p3 p4 a1 a2 a3 a4 n1 n2 n3 n4 c1 c2 c3 c4 z1 z2 z3 z4 w l1 l2 l3 l4 HM S1 S2 S3 S4 r Qa wa wb C1 Ra HF wc bb Ca Da jj Ea Fa qs Sa bc Ka wd bo Za Ab Bb we Oa Pa Ta Fb Sb Tb Jc Kc Lc Nc Oc Pc Qc Rc Sc wf Vb Wb Ga Hb Ib Ua Gb Yb;exact key4.out
      case neg=>
       rename_i Tc Uc Vc Wc Xc Yc Zc Ad Bd;revert ab aj nb cb nj cj bs js Aa Ba Ha id Va Ja Wa m0 J L T Y U Z m7 Q V Xa Ya t1 t2 p1 p2 p3 p4 a1 a2 a3 a4 n1 n2 n3 n4 c1 c2 c3 c4 z1 z2 z3 z4 w l1 l2 l3 l4 HM S1 S2 S3 S4 r Qa wa wb C1 Ra HF wc bb Ca Da jj Ea Fa qs Sa bc Ka wd bo Za Ab Bb we Oa Pa Ta Fb Sb Tb Tc Uc Vc Wc Xc Yc Zc Ad Bd wf Vb Wb Ga Hb Ib Ua Gb Yb;exact key5.out
namespace M
theorem form_kinds(h:formB t' id s' l' tr bare mok sok rok Q non wk idk p7 mt=true):
  (t'=1∧mok=true∧sok=true∧rok=true∧Q=true)∨(t'=2∧wk=true)∨(t'=3∧wk=true∧idk=true∧p7=true)∨(t'=4∧mt=true)∨(t'=5∧idk=true):=by
 unfold formB at h;by_cases h1:t'=1
 ·rw[if_pos h1]at h;simp only[vl]at h;exact .inl ⟨h1,h.1,h.2.1,h.2.2.1,h.2.2.2.1⟩
 rw[if_neg h1]at h;by_cases h2:t'=2
 ·rw[if_pos h2]at h;simp only[vl]at h;exact .inr (.inl ⟨h2,h.2.1⟩)
 rw[if_neg h2]at h;by_cases h3:t'=3
 ·rw[if_pos h3]at h;simp only[vl]at h;exact .inr (.inr (.inl ⟨h3,h.2.1,h.2.2.1,h.2.2.2.1⟩))
 rw[if_neg h3]at h;by_cases h4:t'=4
 ·rw[if_pos h4]at h;simp only[vl]at h;exact .inr (.inr (.inr (.inl ⟨h4,h.2.2.2.2.1⟩)))
 rw[if_neg h4]at h;by_cases h5:t'=5
 ·rw[if_pos h5]at h;simp only[vl]at h;exact .inr (.inr (.inr (.inr ⟨h5,h.2.2.1⟩)))
 ·rw[if_neg h5]at h;simp at h
theorem inB_iff{x lo hi:Int}:inB x lo hi=true↔lo≤x∧x≤hi:=by unfold inB;simp
def Mt.right(m:Mt):Prop:=Right m.now m.next m.bs m.js
theorem acted_right{g:Jb→Bool}{m:Mt}{mc:Mc}{s:Int×Int}(h:m.right):
  (acted g (formB t' id s' l' tr bare mc.ok (M.sOk s) (M.rows s') (inB tr 1 8) non (inB l' 1 9) (inB id 1 1000000000) (inB s' 0 7) (inB tr 1 1000000000)) m t' id s' l' tr mc s).1.right:=by
 unfold acted;rw[if_neg (by rw[show m.ok=true from Right.ok h];simp)];by_cases hf:formB t' id s' l' tr bare mc.ok (M.sOk s) (M.rows s') (inB tr 1 8) non (inB l' 1 9) (inB id 1 1000000000) (inB s' 0 7) (inB tr 1 1000000000)=false
 ·rw[if_pos hf];exact h
 ·
  rw[if_neg hf];have wk:∀{x},inB x 1 9=true→wkOk x=true:=fun{x} h=>h;unfold act
  rcases form_kinds (by simpa using hf)with⟨rfl,h1,h2,h3,h4⟩ | ⟨rfl,h1⟩ | ⟨rfl,h1,h2,h3⟩ | ⟨rfl,h1⟩ | ⟨rfl,h1⟩
  ·rw[if_pos rfl];exact submit_right h h1 h2 h3 (inB_iff.1 h4).1 (inB_iff.1 h4).2
  ·rw[if_neg (by decide),if_neg (by decide),if_neg (by decide),if_pos rfl];exact lease_right h (wk h1)
  ·rw[if_neg (by decide),if_neg (by decide),if_neg (by decide),if_neg (by decide)];exact back_right h (wk h1) (inB_iff.1 h3).1
  ·rw[if_neg (by decide),if_pos rfl];exact tick_right h (inB_iff.1 h1).1
  ·rw[if_neg (by decide),if_neg (by decide),if_pos rfl];exact cancel_right h
end M
set_option maxRecDepth 10000 in
theorem jI(now uN:Int)(t' id s' l' tr m0 J L T Y U Z m7 Q V A I t1 t2 p1 p2 p3 p4:Int)(w:World)(hz:co w ab nb cb aj nj cj bs js)(hf:M.mkOk now uN bs js=false):
  Rt 6 #[.agg #[.int .i64 now,.int .i64 uN,.slice ab nb cb,.slice aj nj cj],.agg #[.int .i64 t',.int .i64 id,.int .i64 s',.int .i64 l',.int .i64 tr,.int .i64 m0,.int .i64 J,.int .i64 L,.int .i64 T,.int .i64 Y,.int .i64 U,.int .i64 Z,.int .i64 m7,.int .i64 Q,.int .i64 V,.int .i64 A,.int .i64 I,.int .i64 t1,.int .i64 t2,.int .i64 p1,.int .i64 p2,.int .i64 p3,.int .i64 p4,.slice a1 n1 c1,.slice a2 n2 c2,.slice a3 n3 c3,.slice a4 n4 c4]] w (.tuple #[.agg #[.int .i64 0,.int .i64 0,.slice none 0 0,.slice none 0 0],.int .i64 1,.int .i64 0]):=by
 have HB:H9 (m1 w (((w.alloc (.cells (aI now uN ab nb cb aj nj cj).toArray 27)).alloc (.cells (bH t' id s' l' tr m0 J L T Y U Z m7 Q V A I t1 t2 p1 p2 p3 p4 a1 n1 c1 a2 n2 c2 a3 n3 c3 a4 n4 c4).toArray 37)).alloc (.cells aV.toArray 27))):=(((m5 _ _).alloc (m3 _) _).alloc (by simp) _).alloc (by simp;omega) _;have HZ:H9 (au (((w.alloc (.cells (aI now uN ab nb cb aj nj cj).toArray 27)).alloc (.cells (bH t' id s' l' tr m0 J L T Y U Z m7 Q V A I t1 t2 p1 p2 p3 p4 a1 n1 c1 a2 n2 c2 a3 n3 c3 a4 n4 c4).toArray 37)).alloc (.cells aV.toArray 27)) (w.heap.size+1+1) aV):=dm _ _ _ _ _;have HM:=Hd (hz.below HB.o);have C1:=se now uN (((w.alloc (.cells (aI now uN ab nb cb aj nj cj).toArray 27)).alloc (.cells (bH t' id s' l' tr m0 J L T Y U Z m7 Q V A I t1 t2 p1 p2 p3 p4 a1 n1 c1 a2 n2 c2 a3 n3 c3 a4 n4 c4).toArray 37)).alloc (.cells aV.toArray 27)) HM.o hf;clear hz hf;go_enter func6,ntmps6;(go_wp2_with fail);generalize(((w.alloc (.cells (aI now uN ab nb cb aj nj cj).toArray 27)).alloc (.cells (bH t' id s' l' tr m0 J L T Y U Z m7 Q V A I t1 t2 p1 p2 p3 p4 a1 n1 c1 a2 n2 c2 a3 n3 c3 a4 n4 c4).toArray 37)).alloc (.cells aV.toArray 27))=wa at *;refine C1.mono ?_;rintro e wb ⟨rfl,hb⟩;have Aa:=HZ.b hb;have Ba:=HB.t hb;have r0:=Aa.c 0;have f0:=Aa.o.fr 0;have r1:=Aa.c 1;have f1:=Aa.o.fr 1;have r2:=Aa.c 2;have f2:=Aa.o.fr 2;have r3:=Aa.c 3;have f3:=Aa.o.fr 3;go_wp2;show bodyPost _ _ _ _ _ (wb.setCells (w.heap.size+1+1) 0 aV);have hL:=Aa.o.setCells aV 0 (by simp);have hB:=aO aV 0 Ba.o (show w.heap.size≤w.heap.size+1+1 by omega);generalize wb.setCells (w.heap.size+1+1) 0 aV=wf at *;exact m8 (aJ rfl rfl (u' wf (w.heap.size+1+1) 0 27 _ _ hL.row underlying27 rfl (by kernel_rfl))) rfl ⟨rfl,hB⟩
def pt(w:World)(r:M.Mt×Int×Int)(e:Ending)(w':World):Prop:=∃v i',w.heap.size≤i'∧e=.returned (.tuple #[v,.int .i64 r.2.1,.int .i64 r.2.2])∧∃ab nb cb aj nj cj qm,v=.agg #[.int .i64 r.1.now,.int .i64 r.1.next,.slice ab nb cb,.slice aj nj cj]∧aW w' i' ab nb cb r.1.bs aj nj cj qm∧qm.map (·.1)=r.1.js∧m1 w w'
set_option maxRecDepth 10000 in
theorem cB(now uN:Int)(t' id s' l' tr m0 J L T Y U Z m7 Q V A I t1 t2 p1 p2 p3 p4:Int)(w:World)(hz:co w ab nb cb aj nj cj bs js)(hf:M.mkOk now uN bs js=true)(iv:Value)(of:Bool)(CA:∀W,Rt 15 #[.agg #[.int .i64 t',.int .i64 id,.int .i64 s',.int .i64 l',.int .i64 tr,.int .i64 m0,.int .i64 J,.int .i64 L,.int .i64 T,.int .i64 Y,.int .i64 U,.int .i64 Z,.int .i64 m7,.int .i64 Q,.int .i64 V,.int .i64 A,.int .i64 I,.int .i64 t1,.int .i64 t2,.int .i64 p1,.int .i64 p2,.int .i64 p3,.int .i64 p4,.slice a1 n1 c1,.slice a2 n2 c2,.slice a3 n3 c3,.slice a4 n4 c4]] W (.tuple #[iv,.bool of]))(N X:Int)(BS:List Int)(JS:List M.Jb)(c d:Int)
 (CD:of=true→∀W i' h ab nb cb ai ni ci mb qs,bj W i' h now uN ab nb cb bs ai ni ci mb qs→qs.map (fun q:HJ=>q.j)=js→i'≤W.heap.size→m1 w W→Calls prog 17 #[.pointer (some ⟨h,0,none⟩),iv] W (fS W i' h (⟨N,X,BS,JS⟩,c,d)))(HR:of=true→M.Right N X BS JS)(r:M.Mt×Int×Int)(hr:(of=false→r=(⟨now,uN,bs,js⟩,2,0))∧(of=true→r=(⟨N,X,BS,JS⟩,c,d))):
  Calls prog 6 #[.agg (aI now uN ab nb cb aj nj cj).toArray,.agg (bH t' id s' l' tr m0 J L T Y U Z m7 Q V A I t1 t2 p1 p2 p3 p4 a1 n1 c1 a2 n2 c2 a3 n3 c3 a4 n4 c4).toArray] w (pt w r):=by
 have Va:=Hd hr;have Eb:=Hd CD;have Fb:=Hd HR;have HB:H9 (m1 w (((w.alloc (.cells (aI now uN ab nb cb aj nj cj).toArray 27)).alloc (.cells (bH t' id s' l' tr m0 J L T Y U Z m7 Q V A I t1 t2 p1 p2 p3 p4 a1 n1 c1 a2 n2 c2 a3 n3 c3 a4 n4 c4).toArray 37)).alloc (.cells aV.toArray 27))):=(((m5 _ _).alloc (m3 _) _).alloc (by simp) _).alloc (by simp;omega) _;have HA:H9 (au (((w.alloc (.cells (aI now uN ab nb cb aj nj cj).toArray 27)).alloc (.cells (bH t' id s' l' tr m0 J L T Y U Z m7 Q V A I t1 t2 p1 p2 p3 p4 a1 n1 c1 a2 n2 c2 a3 n3 c3 a4 n4 c4).toArray 37)).alloc (.cells aV.toArray 27)) (w.heap.size+1) (bH t' id s' l' tr m0 J L T Y U Z m7 Q V A I t1 t2 p1 p2 p3 p4 a1 n1 c1 a2 n2 c2 a3 n3 c3 a4 n4 c4)):=(aZ _ _ _ _).alloc _;have HZ:H9 (au (((w.alloc (.cells (aI now uN ab nb cb aj nj cj).toArray 27)).alloc (.cells (bH t' id s' l' tr m0 J L T Y U Z m7 Q V A I t1 t2 p1 p2 p3 p4 a1 n1 c1 a2 n2 c2 a3 n3 c3 a4 n4 c4).toArray 37)).alloc (.cells aV.toArray 27)) (w.heap.size+1+1) aV):=dm _ _ _ _ _;have HM:=Hd (hz.below HB.o);have C1:=qC now uN (((w.alloc (.cells (aI now uN ab nb cb aj nj cj).toArray 27)).alloc (.cells (bH t' id s' l' tr m0 J L T Y U Z m7 Q V A I t1 t2 p1 p2 p3 p4 a1 n1 c1 a2 n2 c2 a3 n3 c3 a4 n4 c4).toArray 37)).alloc (.cells aV.toArray 27)) HM.o hf;have Wa:=Hd (bQ hf);have Na:=Hd HZ.o.2.2;have Oa:=Hd HB.o.size;clear hz hf;go_enter func6,ntmps6;(go_wp2_with fail);generalize(((w.alloc (.cells (aI now uN ab nb cb aj nj cj).toArray 27)).alloc (.cells (bH t' id s' l' tr m0 J L T Y U Z m7 Q V A I t1 t2 p1 p2 p3 p4 a1 n1 c1 a2 n2 c2 a3 n3 c3 a4 n4 c4).toArray 37)).alloc (.cells aV.toArray 27))=wa at *;refine C1.mono ?_;rintro e wb ⟨hp,Ba,Ca,Da,ai,ni,ci,mb,qs,rfl,hh,Gb,hb⟩;have Xa:=HZ.b hb;have Ya:=HA.b hb;have Pa:=HB.t hb;have Za:=Hd hh;have Ha:=Hd Gb;have Ab:=hb.size;(go_wp2_with(with_reducible refine aA 21 ?_ ?_;rfl));refine fu 37 (w.heap.size+1) 0 (bH t' id s' l' tr m0 J L T Y U Z m7 Q V A I t1 t2 p1 p2 p3 p4 a1 n1 c1 a2 n2 c2 a3 n3 c3 a4 n4 c4) Ya.o.row underlying37 ⟨rfl,rfl,by kernel_rfl,_,rfl,by kernel_rfl⟩ ?_;(go_wp2_with fail);refine(CA wb).mono ?_;rintro e wc ⟨rfl,hb⟩;have Ka:=Xa.b hb;have La:=Pa.t hb;have Qa:=Hd (Za.o.below hb);have Ra:=m9 Ab hb.size;clear hb Xa Pa Za Ya CA Ab
 cases of with
 | false=>
  have Sa:(qs.map (fun q:HJ=>q.j.id)).Pairwise (·< ·):=(by have:=Wa.o.rise;rw[←Ha.o,List.pairwise_map]at this;exact List.pairwise_map.2 this);have Ta:ni≤1000:=(by have:=Wa.o.few;rw[←Ha.o,List.length_map,Qa.o.count]at this;omega);obtain rfl:=Va.o.1 rfl;(go_wp2_with fail);refine(ko wc Qa.o Sa Ta Ra).mono ?_;rintro e wx ⟨Ea,Fa,Ga,qm,rfl,hM,hJ,Ja⟩;have Aa:=Ka.b Ja;have Ua:=La.t Ja;have Ia:H9 (aW wx wa.heap.size Ba Ca Da bs Ea Fa Ga qm∧qm.map (·.1)=js):=⟨hM,hJ.trans Ha.o⟩;have r0:=Aa.c 0;have f0:=Aa.o.fr 0;have r1:=Aa.c 1;have f1:=Aa.o.fr 1;have r2:=Aa.c 2;have f2:=Aa.o.fr 2;have r3:=Aa.c 3;have f3:=Aa.o.fr 3;go_wp2;show bodyPost _ _ _ _ _ (wx.setCells (w.heap.size+1+1) 0 (aI now uN Ba Ca Da Ea Fa Ga));have hL:=Aa.o.setCells (aI now uN Ba Ca Da Ea Fa Ga) 0 (by simp);have hg:=ct wx (w.heap.size+1+1) 0 (aI now uN Ba Ca Da Ea Fa Ga);have hB:=aO (aI now uN Ba Ca Da Ea Fa Ga) 0 Ua.o (show w.heap.size≤(w.heap.size+1+1) by omega);have hM:=Ia.o.1.grown hg (fun g hg2 e=>by have:=(Ia.o.1.lt g hg2).1;have:=m2 e;have:=Na.o;omega);generalize(wx.setCells (w.heap.size+1+1) 0 (aI now uN Ba Ca Da Ea Fa Ga))=wf at *;clear hg;exact m8 (aJ rfl rfl (u' wf (w.heap.size+1+1) 0 27 _ _ hL.row underlying27 rfl (by kernel_rfl))) rfl ⟨_,wa.heap.size,Oa.o,rfl,_,_,_,_,_,_,_,rfl,hM,Ia.o.2,hB⟩
 | true=>
  obtain rfl:=Va.o.2 rfl;have C2:=Eb.o rfl wc wa.heap.size hp Ba Ca Da ai ni ci mb qs Qa.o Ha.o Ra La.o;have Bb:=Hd (Fb.o rfl);(go_wp2_with fail);refine C2.mono ?_;rintro e wd ⟨rfl,⟨Ba,Ca,Da,ai,ni,ci,mb,qs,hH,Hb⟩,hb⟩;have Ha:H9 (qs.map (fun q:HJ=>q.j)=JS):=Hb;have Cb:H9 (bj wd wa.heap.size hp N X Ba Ca Da BS ai ni ci mb qs):=hH;have Ib:=Hd (Ka.o.below hb Na.o);have Db:=Hd (La.o.trans (hb.mono Oa.o));have Kb:=m9 Ra hb.size;have Ka:=Ib;have Sa:(qs.map (fun q:HJ=>q.j.id)).Pairwise (·< ·):=(by have:=Bb.o.rise;rw[←Ha.o,List.pairwise_map]at this;exact List.pairwise_map.2 this);have Ta:ni≤1000:=(by have:=Bb.o.few;rw[←Ha.o,List.length_map,Cb.o.count]at this;omega);(go_wp2_with fail);refine(ko wd Cb.o Sa Ta Kb).mono ?_;rintro e wx ⟨Ea,Fa,Ga,qm,rfl,hM,hJ,Ja⟩;have Aa:=Ka.b Ja;have Ua:=Db.t Ja;have Ia:H9 (aW wx wa.heap.size Ba Ca Da BS Ea Fa Ga qm∧qm.map (·.1)=JS):=⟨hM,hJ.trans Ha.o⟩;have r0:=Aa.c 0;have f0:=Aa.o.fr 0;have r1:=Aa.c 1;have f1:=Aa.o.fr 1;have r2:=Aa.c 2;have f2:=Aa.o.fr 2;have r3:=Aa.c 3;have f3:=Aa.o.fr 3;go_wp2;show bodyPost _ _ _ _ _ (wx.setCells (w.heap.size+1+1) 0 (aI N X Ba Ca Da Ea Fa Ga));have hL:=Aa.o.setCells (aI N X Ba Ca Da Ea Fa Ga) 0 (by simp);have hg:=ct wx (w.heap.size+1+1) 0 (aI N X Ba Ca Da Ea Fa Ga);have hB:=aO (aI N X Ba Ca Da Ea Fa Ga) 0 Ua.o (show w.heap.size≤(w.heap.size+1+1) by omega);have hM:=Ia.o.1.grown hg (fun g hg2 e=>by have:=(Ia.o.1.lt g hg2).1;have:=m2 e;have:=Na.o;omega);generalize(wx.setCells (w.heap.size+1+1) 0 (aI N X Ba Ca Da Ea Fa Ga))=wf at *;exact m8 (aJ rfl rfl (u' wf (w.heap.size+1+1) 0 27 _ _ hL.row underlying27 rfl (by kernel_rfl))) rfl ⟨_,wa.heap.size,Oa.o,rfl,_,_,_,_,_,_,_,rfl,hM,Ia.o.2,hB⟩
section
open Go.ChangeShapes Go.WideShapes
namespace card
abbrev nL:String:= "loop.example/g00319/impl.errLength"
abbrev nN:String:= "loop.example/g00319/impl.errNoElement"
theorem gL:prog.globalNamed nL=some 1:=by kernel_rfl
theorem gN:prog.globalNamed nN=some 0:=by kernel_rfl
theorem gT:prog.globalNamed "errors.errorType" = some 2:=by kernel_rfl
theorem tL:(prog.globals[1]?).map (·.type)=some 73:=by kernel_rfl
theorem tN:(prog.globals[0]?).map (·.type)=some 73:=by kernel_rfl
theorem cE:prog.cellsOf 315=1:=by kernel_rfl
theorem cS:prog.cellsOf 9=1:=by kernel_rfl
theorem star: "*" ++ "errors.errorString" = "*errors.errorString" :=by decide
theorem rowE(u:TypeId)(h:prog.typeName? 3 u=some "*errors.errorString"):u=293:=
 typeName_ptr_named (nm:= "errors.errorString") (by rw[star];kernel_rfl) (by kernel_rfl) (by decide) u (by rw[star];exact h)
theorem rt:(prog.cutTypes.find? (·.1== "internal/reflectlite.rtype")).map (·.2)=some 246:=by kernel_rfl
theorem oneRow:((List.range prog.types.size).filter fun t=>prog.rowNamed t [101,114,114,111,114])=[73]:=by kernel_rfl
abbrev laid:List (String×DataW Unit):=[("errors.errorType",Rows.laid_errors_errorType),(nN,Rows.laid_loop_example_g00319_impl_errNoElement),(nL,Rows.laid_loop_example_g00319_impl_errLength)]
theorem split(h:laidMetH prog laid W):laidMet prog [(nN,Rows.laid_loop_example_g00319_impl_errNoElement),(nL,Rows.laid_loop_example_g00319_impl_errLength)] W∧handlesMet prog [("errors.errorType",Rows.laid_errors_errorType)] W:=h
theorem handle(h':handlesMet prog [("errors.errorType",Rows.laid_errors_errorType)] W):W.cell? ⟨2,0,none⟩=some (.iface 246 (.agg #[.pointer (some ⟨6,73,none⟩)])):=by
 obtain⟨Aa,u,ty,e1,e2,e3,e4,e5⟩:=h' _ (List.mem_singleton.2 rfl);have en:Aa=[101,114,114,111,114]:=(m2 e1).symm;subst en;obtain rfl:=m2 (rt.symm.trans e2);have hm:ty∈(List.range prog.types.size).filter fun t=>prog.rowNamed t [101,114,114,111,114]:=List.mem_filter.2 ⟨List.mem_range.2 e3,e4⟩;rw[oneRow]at hm;obtain rfl:=List.mem_singleton.1 hm;have hh:typeHandle prog 73=.pointer (some ⟨6,73,none⟩):=(by kernel_rfl);rw[hh]at e5;simpa using World.var?_cell gT e5 0
theorem env(h:laidMetH prog laid W):∃aL aN,Env W aL aN∧W.var? prog nL=some #[.iface 293 (.pointer (some aL))]∧W.var? prog nN=some #[.iface 293 (.pointer (some aN))]:=by
 obtain⟨hs,hh⟩:=split h;obtain⟨aN,aL,s0,s1,c0,c1,t0,t1,Aa,Ba,Fa,Ga,Ha,Ia,Ja,Ka,Ca,Da,Ea⟩:=laid_sentinels2 hs gN tN gL tL underlying73 rowE underlying293 underlying315 rfl rfl underlying9 cE cS;exact⟨aL,aN,⟨by simpa using World.var?_cell gL Ba 0,by simpa using World.var?_cell gN Aa 0,handle hh,Ca,⟨_,_,Ea⟩,⟨_,_,Da⟩⟩,Ba,Aa⟩
end card
end
end Go.Proofs.YtobnifjhikoleaaGreatDoor
