import Derived.Test.YtobnifjhikoleaaGreatDoorPk20
namespace Go.Proofs.YtobnifjhikoleaaGreatDoor
open Go.RowKit Go.Proofs.Tryz
set_option linter.unusedSimpArgs false
set_option maxHeartbeats 32000000
variable {w:World}{i' n:Nat}
set_option maxRecDepth 10000 in
theorem tW:fd.p5:=by
 intro Da ab nb cb nj cj bs qs Aa Ba Ed id Kb Fd m0 J L T Y U Z m7 Q V Gd Id t1 t2 p1 p2 p3 p4 a1 a2 a3 a4 n1 n2 n3 n4 c1 c2 c3 c4 z1 z2 z3 z4 w Ja l1 l2 l3 l4 Jd Kd Ld wa wb i hi Nd La gj Xa tn Od tc Pd Qd Rd Sd Td Ud Vd Wd Xd Na jr jg tl a b c' d f k a' b' Oa d' f' k' s1 s2 Ya Hc Lb P Yd Zd Ae gp Pa g Ia Be w2 jb x HX Ce De Qa Ra Ee gx Nb w3 nr Fe Ge He Ie Je Ke Ic Jc Le Kc Lc Ne Oe Pe u v Qe Nc Oc Re Fa Pc Qc Se Sa Za Ob Pb Ab Rc Sc Tc Uc Qb Vc;have hG:=Qb.o;have hT:=hG.jtask hi;have Ea:=Ia.o;rw[Ea.1,Ea.2.1,Ea.2.2]at hT;have Rb:Fa.cell? ⟨gj,i*18+17,none⟩=some (.slice (qs.getD i q0).2.1 (qs.getD i q0).1.ts.length (qs.getD i q0).2.2):=hG.jcell hi (by omega);rw[Ea.1,Ea.2.1,Ea.2.2]at Rb;have b0:=hT.cells Pa (j:=0) (by omega);have Sb:=hT.2.frozenAt (P*3+0);have b1:=hT.cells Pa (j:=1) (by omega);have Wc:=hT.2.frozenAt (P*3+1);have b2:=hT.cells Pa (j:=2) (by omega);have Xc:=hT.2.frozenAt (P*3+2);rw[Nat.add_zero]at b0 Sb;generalize(qs.getD i q0).1.ts.getD P M.t0=zz at b0 b1 b2;obtain⟨Te,Ue,Ve⟩:=zz;simp only[d7,List.getElem?_cons_zero,List.getElem?_cons_succ]at b0 b1 b2;have Tb:qs.getD i q0∈qs:=(by rw[m4,m6 (by omega)];simp);obtain⟨Ub,Vb⟩:=hG.task hi Ea.2.1 (k:=P) (by rw[Ea.1];exact Pa) ⟨true,0,0⟩
 have Wb:g∈b8 ab (some ⟨gj,0,none⟩) qs:=by
  unfold b8;simp only[uT];exact .inr (.inr (vg.2 ⟨_,Tb,by rw[Ea.2.1];simp[ob]⟩))
 have We:=Xa.o g Wb;have Xb:b8 ab (some ⟨gj,0,none⟩) (qs.set i ({(qs.getD i q0).1 with ts:=(qs.getD i q0).1.ts.set P ⟨true,0,0⟩},(qs.getD i q0).2))=b8 ab (some ⟨gj,0,none⟩) qs:=fL (qs:=qs) (i:=i) _ (by omega) (by rfl);have Yb:=Hd Xb;have Zb:=Hd Ub;have Ac:=Hd Vb;have x3:=Za.c 3;have v2:=Ob.c 2;(go_wp2_with fail);apply fi
 case f=>
  intro key
  go_region_law (fail)
  all_goals exact key.out
 case h=>
  show Exit.then _ _ Exit.normal _ (Fa.setCells g (P*3) (d7 ⟨true,0,0⟩)).drew;have Bc:Below (Fa.setCells g (P*3) (d7 ⟨true,0,0⟩)).heap.size (Fa.setCells g (P*3) (d7 ⟨true,0,0⟩)) (Fa.setCells g (P*3) (d7 ⟨true,0,0⟩)).drew:=(m5 _ _).drew;have Ta:=Ac.o.trans (cW _ _);have Ua:=Hd (Zb.o.below Bc);have Bb:=Hd (Za.o.grown Ta (fun e=>by have:=m2 e;omega));have Cc:=Hd (Pb.o.grown Ta (fun e=>by have:=m2 e;omega));have Dc:=Hd ((Ab.o.mono Ja).trans (ap Ta (m9 Ja Ab.o.size) (fun z e=>by have:=m2 e;omega)));generalize(Fa.setCells g (P*3) (d7 ⟨true,0,0⟩)).drew=w4 at *;have Yc:i<qs.length:=(by omega);have Cb:=b7 Yc ({(qs.getD i q0).1 with ts:=(qs.getD i q0).1.ts.set P ⟨true,0,0⟩},(qs.getD i q0).2)
  have hA:∀j,j<18→w4.cell? ⟨gj,i*18+j,none⟩=(ed ⟨Na,⟨⟨a,b,c',d,f,k⟩,⟨a',b',Oa,d',f',k'⟩⟩,(s1,s2),jr,jg,tl⟩ (some ⟨g,0,none⟩) tc)[j]?:=fun j hj=>by
   have h0:=Ua.o.jcell hi hj;rw[Cb]at h0;rw[h0];unfold iM;dsimp only;rw[Ia.o.2.1,Ia.o.2.2,Ya.o];unfold ed;dsimp only;rw[List.length_set]
  have hT:=Ua.o.jtask hi;rw[Cb]at hT;dsimp only at hT;rw[Ia.o.2.1,Ia.o.2.2,List.length_set,Ia.o.1,Ya.o]at hT;dsimp only at hT;have hR:w4.rangeAt gj (i*18) (ed ⟨Na,⟨⟨a,b,c',d,f,k⟩,⟨a',b',Oa,d',f',k'⟩⟩,(s1,s2),jr,jg,tl⟩ (some ⟨g,0,none⟩) tc):=bF rfl hA;dsimp only[ed]at hR;rw[Hc.o]at hR;have HS:=Hd hT.sees;have C3:=fun W (h:bR W (some ⟨g,0,none⟩) tn tc (tl.set P ⟨true,0,0⟩))=>i8 Na a b c' d f k a' b' Oa d' f' k' s1 s2 jr jg W h;have Ka:H9 (((qs.getD i q0).1.ts.set P ⟨true,0,0⟩).all (·.done)=(tl.set P ⟨true,0,0⟩).all (·.done)):=(by show _=_;rw[Ya.o]);generalize(tl.set P ⟨true,0,0⟩).all (·.done)=Zc at C3 Ka;have x3:=Bb.c 3;(go_wp2_with(with_reducible refine aA 109 ?_ ?_;rfl));with_reducible refine fu 45 gj (i*18) (bO Na a b c' d f k a' b' Oa d' f' k' s1 s2 jr jg (some ⟨g,0,none⟩) tn tc) hR underlying45 ?q5 ?_
  case q5=>exact⟨rfl,rfl,by kernel_rfl,_,rfl,by kernel_rfl⟩
  (go_wp2_with fail);have Ec:=Hd Ua.o;have Fc:=Hd Bb.o;have Gc:=Hd Cc.o;have Db:=Hd Dc.o;refine(C3 _ HS.o).mono ?_;rintro e w5 ⟨rfl,hb⟩;have Va:=Hd (Ec.o.below hb);have Ha:=Fc.b hb;have Ca:=Gc.b hb;have Wa:=Hd (Db.o.trans (hb.mono (m9 Ja Db.o.size)))
  cases Zc with
  | true=>
   have o0:=Ha.c 0;have o1:=Ha.c 1;have o2:=Ha.c 2;have o3:=Ha.c 3;have r0:=Ca.c 0;have Ad:=Ca.o.fr 0;have r1:=Ca.c 1;have Bd:=Ca.o.fr 1;have r2:=Ca.c 2;have Cd:=Ca.o.fr 2;have r3:=Ca.c 3;have Dd:=Ca.o.fr 3;have Eb:H9 (∀wf,w5.grownBy wf (some (w.heap.size+1+1))→aW wf Da ab nb cb bs (some ⟨gj,0,none⟩) nj cj (qs.set i ({(qs.getD i q0).1 with ts:=(qs.getD i q0).1.ts.set P ⟨true,0,0⟩},(qs.getD i q0).2))):=fun wf Ga=>Va.o.grown Ga (fun g hg e=>by rw[Yb.o]at hg;have:=Xa.o g hg;have:=m2 e;omega);have Fb:H9 (∀wf,aW wf Da ab nb cb bs (some ⟨gj,0,none⟩) nj cj (qs.set i ({(qs.getD i q0).1 with ts:=(qs.getD i q0).1.ts.set P ⟨true,0,0⟩},(qs.getD i q0).2))→Below Da w wf→eQ w Da Aa Ba ab nb cb bs (some ⟨gj,0,none⟩) nj cj qs Kb id (P:Int) ⟨(p1,p2),(p3,p4),z1,z2,z3,z4⟩ (.returned (.tuple #[.agg (aI Aa Ba ab nb cb (some ⟨gj,0,none⟩) nj cj).toArray,it 0,it 1])) wf):=fun wf hM hB=>⟨hB,.inr (.inr (.inr ⟨Qa.o,by rw[Ra.o];exact Nb.o,by rw[Lb.o];exact Sa.o,i,La.o,by rw[vv,Ka.o];rfl,by rw[vv];exact hM⟩))⟩;(go_wp2_with fail);show bodyPost _ _ _ _ _ (w5.setCells (w.heap.size+1+1) 0 (aI Aa Ba ab nb cb (some ⟨gj,0,none⟩) nj cj));have Gb:au (w5.setCells (w.heap.size+1+1) 0 (aI Aa Ba ab nb cb (some ⟨gj,0,none⟩) nj cj)) (w.heap.size+1+1) (aI Aa Ba ab nb cb (some ⟨gj,0,none⟩) nj cj):=Ca.o.setCells (aI Aa Ba ab nb cb (some ⟨gj,0,none⟩) nj cj) 0 (by simp);have Ga:=ct w5 (w.heap.size+1+1) 0 (aI Aa Ba ab nb cb (some ⟨gj,0,none⟩) nj cj);have Hb:=Eb.o _ Ga;have Ib:=Wa.o.trans (ap Ga (m9 Ja Wa.o.size) (fun z e=>by have:=m2 e;omega));have Jb:=Fb.o _ Hb Ib;generalize(w5.setCells (w.heap.size+1+1) 0 (aI Aa Ba ab nb cb (some ⟨gj,0,none⟩) nj cj))=wf at *;exact m8 (aJ rfl rfl (u' wf (w.heap.size+1+1) 0 27 _ _ Gb.row underlying27 rfl (by kernel_rfl))) rfl Jb
  | false=>
   have o0:=Ha.c 0;have o1:=Ha.c 1;have o2:=Ha.c 2;have o3:=Ha.c 3;have r0:=Ca.c 0;have Ad:=Ca.o.fr 0;have r1:=Ca.c 1;have Bd:=Ca.o.fr 1;have r2:=Ca.c 2;have Cd:=Ca.o.fr 2;have r3:=Ca.c 3;have Dd:=Ca.o.fr 3;have Eb:H9 (∀wf,w5.grownBy wf (some (w.heap.size+1+1))→aW wf Da ab nb cb bs (some ⟨gj,0,none⟩) nj cj (qs.set i ({(qs.getD i q0).1 with ts:=(qs.getD i q0).1.ts.set P ⟨true,0,0⟩},(qs.getD i q0).2))):=fun wf Ga=>Va.o.grown Ga (fun g hg e=>by rw[Yb.o]at hg;have:=Xa.o g hg;have:=m2 e;omega);have Fb:H9 (∀wf,aW wf Da ab nb cb bs (some ⟨gj,0,none⟩) nj cj (qs.set i ({(qs.getD i q0).1 with ts:=(qs.getD i q0).1.ts.set P ⟨true,0,0⟩},(qs.getD i q0).2))→Below Da w wf→eQ w Da Aa Ba ab nb cb bs (some ⟨gj,0,none⟩) nj cj qs Kb id (P:Int) ⟨(p1,p2),(p3,p4),z1,z2,z3,z4⟩ (.returned (.tuple #[.agg (aI Aa Ba ab nb cb (some ⟨gj,0,none⟩) nj cj).toArray,it 0,it 0])) wf):=fun wf hM hB=>⟨hB,.inr (.inr (.inr ⟨Qa.o,by rw[Ra.o];exact Nb.o,by rw[Lb.o];exact Sa.o,i,La.o,by rw[vv,Ka.o];rfl,by rw[vv];exact hM⟩))⟩;(go_wp2_with fail);show bodyPost _ _ _ _ _ (w5.setCells (w.heap.size+1+1) 0 (aI Aa Ba ab nb cb (some ⟨gj,0,none⟩) nj cj));have Gb:au (w5.setCells (w.heap.size+1+1) 0 (aI Aa Ba ab nb cb (some ⟨gj,0,none⟩) nj cj)) (w.heap.size+1+1) (aI Aa Ba ab nb cb (some ⟨gj,0,none⟩) nj cj):=Ca.o.setCells (aI Aa Ba ab nb cb (some ⟨gj,0,none⟩) nj cj) 0 (by simp);have Ga:=ct w5 (w.heap.size+1+1) 0 (aI Aa Ba ab nb cb (some ⟨gj,0,none⟩) nj cj);have Hb:=Eb.o _ Ga;have Ib:=Wa.o.trans (ap Ga (m9 Ja Wa.o.size) (fun z e=>by have:=m2 e;omega));have Jb:=Fb.o _ Hb Ib;generalize(w5.setCells (w.heap.size+1+1) 0 (aI Aa Ba ab nb cb (some ⟨gj,0,none⟩) nj cj))=wf at *;exact m8 (aJ rfl rfl (u' wf (w.heap.size+1+1) 0 27 _ _ Gb.row underlying27 rfl (by kernel_rfl))) rfl Jb
def oB(bs:List Int)(who:Int)(q:Nat):List Int:=(([1,2,3,4,5,6,7,8,9]:List Int).take (q-1)).filter fun x=>x==who||bs.contains x
theorem tQ(bs:List Int)(who:Int)(q:Nat):(oB bs who q).length≤9:=by
 unfold oB;refine m9 (List.length_filter_le _ _) ?_;rw[vu];simp;omega
theorem sW(bs:List Int)(who:Int){q:Nat}(h1:1≤q)(h9:q≤9):oB bs who (q+1)=oB bs who q++(if((q:Int)==who||bs.contains (q:Int))=true then[(q:Int)]else[]):=by
 have e:([1,2,3,4,5,6,7,8,9]:List Int).take (q+1-1)=([1,2,3,4,5,6,7,8,9]:List Int).take (q-1)++[(q:Int)]:=by
  rcases(by omega:q=1∨q=2∨q=3∨q=4∨q=5∨q=6∨q=7∨q=8∨q=9)with rfl | rfl | rfl | rfl | rfl | rfl | rfl | rfl | rfl <;> rfl
 unfold oB;rw[e,List.filter_append]
 congr 1
 unfold List.filter
 cases h:((q:Int)==who||bs.contains (q:Int)) <;> rfl
theorem iT{base':Nat}{e:TypeId}{size:Nat}{v:Value}{xs:List Value}(h:w.ownsRow i' e size v n xs)(hb:base'≤i'):w.ownsRow base' e size v n xs:=
 ⟨h.1,h.2.imp id fun⟨g,cap,cur,h1,h2,h3⟩=>⟨g,cap,cur,h1,m9 hb h2,h3⟩⟩
theorem aW.ban{b2:Nat}{ab al:Option Addr}{nb cb c:Nat}{bs xs:List Int}{aj:Option Addr}{nj cj:Nat}{qs:List MQ}(H:aW w i' ab nb cb bs aj nj cj qs)(ho:aD 2 w b2 al n c xs)(hb:i'≤b2)(hl:∀g∈b8 ab aj qs,g<b2):aW w i' al n c xs aj nj cj qs:=by
 refine⟨iT ho hb,H.jl,H.j,H.t,?_⟩;have hd:=cO.1 H.d;refine cO.2 ⟨fun g hg=>?_,hd.2.1,hd.2.2⟩;have h2:=(uU ho g (cA hg)).1
 constructor
 ·
  intro h;have:=hl g (by unfold b8;simp[h]);omega
 ·
  intro h;have:=hl g (by unfold b8;rw[uT,uT];exact .inr (.inr h));omega
set_option maxRecDepth 10000 in
theorem eW:fd.p1∧fd.p2∧fd.p3∧fd.p4:=by
 refine⟨?tax,?tbx,?tcx,?tdx⟩
 case' tax=>(intro i' ab nb cb nj cj bs qs now uN t' id l' tr m0 J L T Y U Z m7 Q V A I t1 t2 p1 p2 p3 p4 a1 a2 a3 a4 n1 n2 n3 n4 c1 c2 c3 c4 z1 z2 z3 z4 w uK l1 l2 l3 l4 hjl bnj hcj wa wb i hi rt1z1 HAT gj HLT tn hbt tc hbc HJO hiI hi0 gneg hnn rt2z1 rt2z2 rt2z3 jid jr jg tl a b c' d f k a' b' c'' d' f' k' s1 s2 HCQ HTL HJ2 P hp0 hp7 rt1z2 gp hPt g HTN hpt w2 jb x HX hPI hP0 HNO HWK rt2z4 gx HXW w3 nr hr16 oa rt2z5 rt2z6 rt2z7 rt2z8 wd0 hHeld HX0 wd9 hS1 HX1 rt2z9 HBAD HA_5 HV_5 HZ_5 HB_5 S1_5 S2_5 S3_5 S4_5 HG_5 HJ_5;clear hHeld HX0 hS1 HX1)
 case' tbx=>(intro i' ab nb cb nj cj bs qs now uN t' id l' tr m0 J L T Y U Z m7 Q V A I t1 t2 p1 p2 p3 p4 a1 a2 a3 a4 n1 n2 n3 n4 c1 c2 c3 c4 z1 z2 z3 z4 w uK l1 l2 l3 l4 hjl bnj hcj wa wb i hi rt1z1 HAT gj HLT tn hbt tc hbc HJO hiI hi0 gneg hnn rt3z1 rt3z2 rt3z3 jid jr jg tl a b c' d f k a' b' c'' d' f' k' s1 s2 HCQ HTL HJ2 P hp0 hp7 rt1z2 gp hPt g HTN hpt w2 jb x HX hPI hP0 HNO HWK rt3z4 gx HXW w3 nr hr16 oa rt3z5 rt3z6 rt3z7 rt3z8 wd0 hHeld HX0 wd1 hS1 HX1 rt3z9 hjr0 hjr1 u v wd9 hS2 HX2 rt3z10 HBAD HA_5 HV_5 HZ_5 HB_5 S1_5 S2_5 S3_5 S4_5 HG_5 HJ_5;clear hHeld HX0 hS1 HX1 hS2 HX2)
 case' tcx=>(intro i' ab nb cb nj cj bs qs now uN t' id l' tr m0 J L T Y U Z m7 Q V A I t1 t2 p1 p2 p3 p4 a1 a2 a3 a4 n1 n2 n3 n4 c1 c2 c3 c4 z1 z2 z3 z4 w uK l1 l2 l3 l4 hjl bnj hcj wa wb i hi rt1z1 HAT gj HLT tn hbt tc hbc HJO hiI hi0 gneg hnn rt4z1 rt4z2 rt4z3 jid jr jg tl a b c' d f k a' b' c'' d' f' k' s1 s2 HCQ HTL HJ2 P hp0 hp7 rt1z2 gp hPt g HTN hpt w2 jb x HX hPI hP0 HNO HWK rt4z4 gx HXW w3 nr hr16 oa rt4z5 rt4z6 rt4z7 rt4z8 wd0 hHeld HX0 wd1 hS1 HX1 rt4z9 hjr0 hjr1 u v wd9 hS2 HX2 rt4z10 HBAD HA_5 HV_5 HZ_5 HB_5 S1_5 S2_5 S3_5 S4_5 HG_5 HJ_5;clear hHeld HX0 hS1 HX1 hS2 HX2)
 case' tdx=>(intro i' ab nb cb nj cj bs qs now uN t' id l' tr m0 J L T Y U Z m7 Q V A I t1 t2 p1 p2 p3 p4 a1 a2 a3 a4 n1 n2 n3 n4 c1 c2 c3 c4 z1 z2 z3 z4 w uK l1 l2 l3 l4 hjl bnj hcj wa wb i hi rt1z1 HAT gj HLT tn hbt tc hbc HJO hiI hi0 gneg hnn rt5z1 rt5z2 rt5z3 jid jr jg tl a b c' d f k a' b' c'' d' f' k' s1 s2 HCQ HTL HJ2 P hp0 hp7 rt1z2 gp hPt g HTN hpt w2 jb x HX hPI hP0 HNO HWK rt5z4 gx HXW w3 nr hr16 rt5z5 rt5z6 rt5z7 rt5z8 wd0 hHeld HX0 wd1 hS1 HX1 rt5z9 hjr0 hjr1 u v wd2 hS2 HX2 rt5z10 wd9 hS3 HX3 rt5z11 HBAD HA_5 HV_5 HZ_5 HB_5 S1_5 S2_5 S3_5 S4_5 HG_5 HJ_5;clear hHeld HX0 hS1 HX1 hS2 HX2 hS3 HX3)
 all_goals
  have Zb:=HA_5.c 0;have Ac:=HA_5.c 1;have Lb:=HA_5.c 2;have Bc:=HA_5.c 3;have Fd:=HV_5.c 3;(go_wp2_with fail);have Cc:=m9 uK HB_5.o.size;refine(iw now uN l' _ HG_5.o Cc).mono ?_;rintro e w4 ⟨rfl,Dc,Va,Ec⟩;have Da:H9 (au w4 w.heap.size (aI now uN ab nb cb (some ⟨gj,0,none⟩) nj cj)):=Va _ _ HA_5.o (fun e=>by have:=HLT.o _ e;omega);have Nb:H9 (au w4 (w.heap.size+1) (bH t' id (P:Nat) l' tr m0 J L T Y U Z m7 Q V A I t1 t2 p1 p2 p3 p4 a1 n1 c1 a2 n2 c2 a3 n3 c3 a4 n4 c4)):=Va _ _ HV_5.o (fun e=>by have:=HLT.o _ e;omega);have Wa:H9 (au w4 (w.heap.size+1+1) aV):=Va _ _ HZ_5.o (fun e=>by have:=HLT.o _ e;omega);have Ob:=Hd Dc;have Qa:=Hd ((HB_5.o.mono uK).trans Ec);have Ba:=Hd Wa.o.2.2;have Fc:=Hd Qa.o.size;have o0:=Da.c 0;have Gd:=Da.o.fr 0;have o1:=Da.c 1;have Id:=Da.o.fr 1;have o2:=Da.c 2;have Jd:=Da.o.fr 2;have o3:=Da.c 3;have Kd:=Da.o.fr 3;(go_wp2_with fail);have Gc:b8 ab (some ⟨gj,0,none⟩) (qs.map fun q=>(M.freeJ (bt now l') q.1,q.2))=b8 ab (some ⟨gj,0,none⟩) qs:=(by simp[b8,List.flatMap_map]);have Ja:=Hd Gc;have Pb:=ct w4 w.heap.size 0 (aI now uN ab nb cb (some ⟨gj,0,none⟩) nj cj);have Ha:w4.grownBy ((w4.setCells w.heap.size 0 (aI now uN ab nb cb (some ⟨gj,0,none⟩) nj cj)).alloc (.cells #[] 2)) (some w.heap.size):=Pb.trans (uX _ _ _);have Xa:(w4.setCells w.heap.size 0 (aI now uN ab nb cb (some ⟨gj,0,none⟩) nj cj)).heap.size=w4.heap.size:=(by simp[World.setCells]);have Hc:H9 (au ((w4.setCells w.heap.size 0 (aI now uN ab nb cb (some ⟨gj,0,none⟩) nj cj)).alloc (.cells #[] 2)) w.heap.size (aI now uN ab nb cb (some ⟨gj,0,none⟩) nj cj)):=(Da.o.setCells (aI now uN ab nb cb (some ⟨gj,0,none⟩) nj cj) 0 (by simp)).alloc _;have Ic:=Hd (Nb.o.grown Ha (by simp));have Jc:=Hd (Wa.o.grown Ha (by simp;omega));have Kc:=Hd (Ob.o.grown Ha (fun g hg e=>by rw[Ja.o]at hg;have:=HLT.o g hg;have:=m2 e;omega));have Lc:=Hd (Qa.o.trans (ap Ha (m9 uK Qa.o.size) (fun z e=>by have:=m2 e;omega)));have Nc:H9 (aD 2 ((w4.setCells w.heap.size 0 (aI now uN ab nb cb (some ⟨gj,0,none⟩) nj cj)).alloc (.cells #[] 2)) w4.heap.size (some ⟨w4.heap.size,0,none⟩) 0 0 []):=(by have h0:=World.ownsRow_made (e:=2) (size:=1) (base:=w4.heap.size) (w4.setCells w.heap.size 0 (aI now uN ab nb cb (some ⟨gj,0,none⟩) nj cj)) #[] 0 (by rw[Xa];exact m3 _) (by unfold maxLen;omega) (by simp);rw[Xa]at h0;exact h0);have Qb:=Ha.size;show Code.wp _ _ _ _ ((w4.setCells w.heap.size 0 (aI now uN ab nb cb (some ⟨gj,0,none⟩) nj cj)).alloc (.cells #[] 2));generalize((w4.setCells w.heap.size 0 (aI now uN ab nb cb (some ⟨gj,0,none⟩) nj cj)).alloc (.cells #[] 2))=w5 at *;have Oc:=Hd Qb;clear Qb Pb Ha Xa Da Nb Wa Ob Qa
  go_loopw [9,10] (fun l i wr=>∃(q:Nat) (al:Option Addr) (n c:Nat),1≤q∧q≤10∧i=it q∧l=.slice al n c∧aD 2 wr w4.heap.size al n c (oB bs l' q)∧aW wr i' ab nb cb bs (some ⟨gj,0,none⟩) nj cj (qs.map fun q=>(M.freeJ (bt now l') q.1,q.2))∧au wr w.heap.size (aI now uN ab nb cb (some ⟨gj,0,none⟩) nj cj)∧au wr (w.heap.size+1) (bH t' id (P:Nat) l' tr m0 J L T Y U Z m7 Q V A I t1 t2 p1 p2 p3 p4 a1 n1 c1 a2 n2 c2 a3 n3 c3 a4 n4 c4)∧au wr (w.heap.size+1+1) aV∧Below i' w wr∧w4.heap.size≤wr.heap.size) (fun _ i _=>10-(intOf i).toNat)
  case atStart=>exact⟨1,_,0,0,by omega,by omega,rfl,rfl,Nc.o,Kc.o,Hc.o,Ic.o,Jc.o,Lc.o,Oc.o⟩
  case round=>
   obtain⟨q,al,n,c,Pc,Ld,rfl,rfl,ho,hM,hA,hV,hZ,hB,Qc⟩:=hrel;have Nd:n≤9:=(by rw[←ho.len];exact tQ _ _ _);have Ka:=Hd ho;have Ra:=Hd hM;have Ea:=Hd hA;have Ya:=Hd hV;have Za:=Hd hZ;have Ia:=Hd hB;by_cases Rc:q≤9
   case pos=>
    have Sc:(q:Int)≤9:=(by omega);have La:=sW bs l' Pc Rc;have v3:=Ya.c 3;have Ga:=Hd Qc;by_cases Na:(q:Int)=l'
    ·
     have gq:((q:Int)==l')=true:=(by simp[Na]);have Ab:=Hd Na;clear Na;have Oa:H9 (oB bs l' (q+1)=oB bs l' q++[(q:Int)]):=(by show _=_;rw[La];rw[if_pos (by simp[Ab.o])]);clear La;obtain⟨i0,Bb,Cb,Db,Eb⟩:=info_parts bK;have Ca:=fun z hz=>uU Ka.o z hz;(go_wp2_with(with_reducible refine aA 91 ?_ ?_;rfl));show wpList _ _ _ _ _ _;refine wpList_append_own_at _ rfl _ _ 24 rfl w4.heap.size 2 i0 (it 0) 1 8 underlying24 Bb Cb Db Eb rfl (by decide) _ n ((oB bs l' q).map (Value.int .i64)) rfl (vw Ka.o _) ⟨wr.heap.size,0,none⟩ 1 1 [it (q:Nat)] rfl rfl (bC wr _ _) (b9 _) (by unfold maxLen;omega) (by omega) ?hs ?hk
     case hs=>simp;exact Nat.le_succ_of_le Ga.o
     case hk=>
      intro v' w7 Fb Gb _ Tc;have hown':w7.ownsRow w4.heap.size 2 1 v' (n+1) ((oB bs l' (q+1)).map (Value.int .i64)):=(by rw[Oa.o,vq];exact Fb);obtain⟨Pa,cN,rfl,Hb⟩:=aD.form hown';have Aa:wr.grownBy w7 (Value.slice al n c).ownBlock:=(uX wr _ _).trans Gb;have HO':=Hd Hb;have HM':H9 (aW w7 i' ab nb cb bs (some ⟨gj,0,none⟩) nj cj (qs.map fun q=>(M.freeJ (bt now l') q.1,q.2))):=Ra.o.grown Aa (fun g hg e=>by rw[Ja.o]at hg;have:=HLT.o g hg;have:=(Ca g e).1;have:=Ba.o;omega);have HA':H9 (au w7 w.heap.size (aI now uN ab nb cb (some ⟨gj,0,none⟩) nj cj)):=Ea.o.grown Aa (fun e=>by have:=(Ca _ e).1;have:=Ba.o;omega);have HV':H9 (au w7 (w.heap.size+1) (bH t' id (P:Nat) l' tr m0 J L T Y U Z m7 Q V A I t1 t2 p1 p2 p3 p4 a1 n1 c1 a2 n2 c2 a3 n3 c3 a4 n4 c4)):=Ya.o.grown Aa (fun e=>by have:=(Ca _ e).1;have:=Ba.o;omega);have HZ':H9 (au w7 (w.heap.size+1+1) aV):=Za.o.grown Aa (fun e=>by have:=(Ca _ e).1;have:=Ba.o;omega);have HB':H9 (Below i' w w7):=Ia.o.trans (ap Aa (m9 uK Ia.o.size) (fun z e=>by have:=(Ca z e).1;have:=Ba.o;omega));have Ib:=Hd (m9 Ga.o Aa.size);go_wp2;go_roundw
      case rel=>exact⟨q+1,Pa,n+1,cN,by omega,by omega,by go_num,rfl,HO'.o,HM'.o,HA'.o,HV'.o,HZ'.o,HB'.o,Ib.o⟩
      case measure=>simp[intOf];omega
    have gq:((q:Int)==l')=false:=(by simp[Na]);have Ab:=Hd Na;have Zb:=Ea.c 0;have Ac:=Ea.c 1;have Lb:=Ea.c 2;have Bc:=Ea.c 3;have CB:=fJ (aj:=some ⟨gj,0,none⟩) (nj:=nj) (cj:=cj) now uN (q:Int) wr Ra.o.b.sees;generalize Uc:bs.contains (q:Int)=oc at CB;have Rb:=Hd Uc;(go_wp2_with fail);refine CB.mono ?_;rintro e w6 ⟨rfl,hb⟩;have Sb:=Hd (m9 Ga.o hb.size);have Jb:=Hd (Ka.o.below hb);have Tb:=Hd (Ra.o.below hb);have Ub:=Ea.b hb;have Vb:=Ya.b hb;have Wb:=Za.b hb;have Kb:=Hd (Ia.o.trans (hb.mono (m9 uK Ia.o.size)));clear hb CB Ga;have Ga:=Sb;clear Sb
    cases oc with
    | true=>
     have Oa:H9 (oB bs l' (q+1)=oB bs l' q++[(q:Int)]):=(by show _=_;rw[La];rw[if_pos (by rw[Rb.o];simp)]);clear La;obtain⟨i0,Bb,Cb,Db,Eb⟩:=info_parts bK;have Ca:=fun z hz=>uU Jb.o z hz;(go_wp2_with(with_reducible refine aA 91 ?_ ?_;rfl));show wpList _ _ _ _ _ _;refine wpList_append_own_at _ rfl _ _ 24 rfl w4.heap.size 2 i0 (it 0) 1 8 underlying24 Bb Cb Db Eb rfl (by decide) _ n ((oB bs l' q).map (Value.int .i64)) rfl (vw Jb.o _) ⟨w6.heap.size,0,none⟩ 1 1 [it (q:Nat)] rfl rfl (bC w6 _ _) (b9 _) (by unfold maxLen;omega) (by omega) ?hs ?hk
     case hs=>simp;exact Nat.le_succ_of_le Ga.o
     case hk=>
      intro v' w7 Fb Gb _ Tc;have hown':w7.ownsRow w4.heap.size 2 1 v' (n+1) ((oB bs l' (q+1)).map (Value.int .i64)):=(by rw[Oa.o,vq];exact Fb);obtain⟨Pa,cN,rfl,Hb⟩:=aD.form hown';have Aa:w6.grownBy w7 (Value.slice al n c).ownBlock:=(uX w6 _ _).trans Gb;have HO':=Hd Hb;have HM':H9 (aW w7 i' ab nb cb bs (some ⟨gj,0,none⟩) nj cj (qs.map fun q=>(M.freeJ (bt now l') q.1,q.2))):=Tb.o.grown Aa (fun g hg e=>by rw[Ja.o]at hg;have:=HLT.o g hg;have:=(Ca g e).1;have:=Ba.o;omega);have HA':H9 (au w7 w.heap.size (aI now uN ab nb cb (some ⟨gj,0,none⟩) nj cj)):=Ub.o.grown Aa (fun e=>by have:=(Ca _ e).1;have:=Ba.o;omega);have HV':H9 (au w7 (w.heap.size+1) (bH t' id (P:Nat) l' tr m0 J L T Y U Z m7 Q V A I t1 t2 p1 p2 p3 p4 a1 n1 c1 a2 n2 c2 a3 n3 c3 a4 n4 c4)):=Vb.o.grown Aa (fun e=>by have:=(Ca _ e).1;have:=Ba.o;omega);have HZ':H9 (au w7 (w.heap.size+1+1) aV):=Wb.o.grown Aa (fun e=>by have:=(Ca _ e).1;have:=Ba.o;omega);have HB':H9 (Below i' w w7):=Kb.o.trans (ap Aa (m9 uK Kb.o.size) (fun z e=>by have:=(Ca z e).1;have:=Ba.o;omega));have Ib:=Hd (m9 Ga.o Aa.size);go_wp2;go_roundw
      case rel=>exact⟨q+1,Pa,n+1,cN,by omega,by omega,by go_num,rfl,HO'.o,HM'.o,HA'.o,HV'.o,HZ'.o,HB'.o,Ib.o⟩
      case measure=>simp[intOf];omega
    | false=>
     have Oa:H9 (oB bs l' (q+1)=oB bs l' q):=(by show _=_;rw[La,if_neg (by rw[Rb.o];simpa using Ab.o)];simp);go_wp2;go_roundw
     case rel=>exact⟨q+1,al,n,c,by omega,by omega,by go_num,rfl,by rw[Oa.o];exact Jb.o,Tb.o,Ub.o,Vb.o,Wb.o,Kb.o,Ga.o⟩
     case measure=>simp[intOf];omega
   have Sc:¬ (q:Int)≤9:=(by omega);have Vc:H9 (oB bs l' q=M.banned bs l'):=(by show _=_;rw[show q=10 by omega];rfl);have Wc:H9 (aW wr i' al n c (M.banned bs l') (some ⟨gj,0,none⟩) nj cj (qs.map fun q=>(M.freeJ (bt now l') q.1,q.2))):=(by rw[←Vc.o];exact Ra.o.ban Ka.o (m9 uK Fc.o) (fun g hg=>by rw[Ja.o]at hg;have:=HLT.o g hg;have:=Ba.o;omega));have Xc:=fun g hg=>(uU Ka.o g (cA hg)).1
   have Xb:∀g∈b8 al (some ⟨gj,0,none⟩) (qs.map fun q=>(M.freeJ (bt now l') q.1,q.2)),g≠w.heap.size∧g≠(w.heap.size+1+1):=fun g hg=>by
    have h9:=Ba.o;unfold b8 at hg
    rcases uT.1 hg with h | h
    ·have:=Xc g h;omega
    ·
     have h7:g∈b8 ab (some ⟨gj,0,none⟩) (qs.map fun q=>(M.freeJ (bt now l') q.1,q.2)):=(by unfold b8;exact uT.2 (.inr h));rw[Ja.o]at h7;have:=HLT.o g h7;omega
   have Sa:wr.grownBy (wr.setCell ⟨w.heap.size,2,none⟩ (.slice al n c)) (some w.heap.size):=a8 (World.grownBy.refl _ _) 2 [.slice al n c];have Ta:H9 (au (wr.setCell ⟨w.heap.size,2,none⟩ (.slice al n c)) w.heap.size (aI now uN al n c (some ⟨gj,0,none⟩) nj cj)):=Ea.o.set 2 (by simp) _;have Fa:=Hd (Za.o.grown Sa (fun e=>by have:=m2 e;omega));have Od:=Sa;have Yc:=Wc.o.grown Sa (fun g hg e=>(Xb g hg).1 (m2 e).symm);have Yb:=Hd (Ia.o.trans (ap Sa (m9 uK Ia.o.size) (fun z e=>by have:=m2 e;omega)));have Zc:H9 (∀wf,(wr.setCell ⟨w.heap.size,2,none⟩ (.slice al n c)).grownBy wf (some (w.heap.size+1+1))→aW wf i' al n c (M.banned bs l') (some ⟨gj,0,none⟩) nj cj (qs.map fun q=>(M.freeJ (bt now l') q.1,q.2))):=fun wf Ua=>Yc.grown Ua (fun g hg e=>(Xb g hg).2 (m2 e).symm);have Ad:H9 (∀wf,aW wf i' al n c (M.banned bs l') (some ⟨gj,0,none⟩) nj cj (qs.map fun q=>(M.freeJ (bt now l') q.1,q.2))→Below i' w wf→eQ w i' now uN ab nb cb bs (some ⟨gj,0,none⟩) nj cj qs l' id (P:Int) ⟨(p1,p2),(p3,p4),z1,z2,z3,z4⟩ (.returned (.tuple #[.agg (aI now uN al n c (some ⟨gj,0,none⟩) nj cj).toArray,it 7,it 0])) wf):=fun wf hM hB=>⟨hB,.inr (.inr (.inl ⟨HNO.o,by rw[HWK.o];exact HXW.o,by rw[HJ2.o];exact HBAD.o,_,_,_,rfl,hM⟩))⟩;have Lb:=Ea.c 2;have Pd:=Ea.o.fr 2;have o0:=Ta.c 0;have o1:=Ta.c 1;have o2:=Ta.c 2;have o3:=Ta.c 3;have r0:=Fa.c 0;have Qd:=Fa.o.fr 0;have r1:=Fa.c 1;have Rd:=Fa.o.fr 1;have r2:=Fa.c 2;have Sd:=Fa.o.fr 2;have r3:=Fa.c 3;have Td:=Fa.o.fr 3;(go_wp2_with fail);show bodyPost _ _ _ _ _ ((wr.setCell ⟨w.heap.size,2,none⟩ (.slice al n c)).setCells (w.heap.size+1+1) 0 (aI now uN al n c (some ⟨gj,0,none⟩) nj cj));have Bd:au ((wr.setCell ⟨w.heap.size,2,none⟩ (.slice al n c)).setCells (w.heap.size+1+1) 0 (aI now uN al n c (some ⟨gj,0,none⟩) nj cj)) (w.heap.size+1+1) (aI now uN al n c (some ⟨gj,0,none⟩) nj cj):=Fa.o.setCells (aI now uN al n c (some ⟨gj,0,none⟩) nj cj) 0 (by simp);have Ua:=ct (wr.setCell ⟨w.heap.size,2,none⟩ (.slice al n c)) (w.heap.size+1+1) 0 (aI now uN al n c (some ⟨gj,0,none⟩) nj cj);have Cd:=Zc.o _ Ua;have Dd:=Yb.o.trans (ap Ua (m9 uK Yb.o.size) (fun z e=>by have:=m2 e;omega));have Ed:=Ad.o _ Cd Dd;generalize((wr.setCell ⟨w.heap.size,2,none⟩ (.slice al n c)).setCells (w.heap.size+1+1) 0 (aI now uN al n c (some ⟨gj,0,none⟩) nj cj))=wf at *;exact m8 (aJ rfl rfl (u' wf (w.heap.size+1+1) 0 27 _ _ Bd.row underlying27 rfl (by kernel_rfl))) rfl Ed
theorem rg:fd.p1:=eW.1
theorem rh:fd.p2:=eW.2.1
theorem rj:fd.p3:=eW.2.2.1
theorem rm:fd.p4:=eW.2.2.2
set_option maxRecDepth 10000 in
theorem kg{a1 a2 a3 a4:Option Addr}{n1 n2 n3 n4 c1 c2 c3 c4:Nat}{z1 z2 z3 z4:List Int}{aL aN aG aE aR:Addr}(e1 e2 e3 e4 e5 e6 e7 e8 e9 e10 e11 e12 y1 y2 jr p1 p2 p3 p4:Int)(w:World)(he:EnvX w aL aN aG aE aR)(h1:aw w a1 n1 c1 z1)(h2:aw w a2 n2 c2 z2)(h3:aw w a3 n3 c3 z3)(h4:aw w a4 n4 c4 z4):
  Rt 86 #[.agg #[.int .i64 e1,.int .i64 e2,.int .i64 e3,.int .i64 e4,.int .i64 e5,.int .i64 e6,.int .i64 e7,.int .i64 e8,.int .i64 e9,.int .i64 e10,.int .i64 e11,.int .i64 e12,.int .i64 y1,.int .i64 y2,.int .i64 jr],.agg #[.int .i64 p1,.int .i64 p2,.int .i64 p3,.int .i64 p4,.slice a1 n1 c1,.slice a2 n2 c2,.slice a3 n3 c3,.slice a4 n4 c4]] w (.bool (decide ((M.Pf.rows (⟨(p1,p2),(p3,p4),z1,z2,z3,z4⟩:M.Pf):Int)=jr)&&(decide ((p1,p2)=(y1,y2))&&M.acc ⟨⟨e1,e2,e3,e4,e5,e6⟩,⟨e7,e8,e9,e10,e11,e12⟩⟩ (⟨(p1,p2),(p3,p4),z1,z2,z3,z4⟩:M.Pf)))):=by
 have HB:H9 (m1 w ((w.alloc (.cells (eL e1 e2 e3 e4 e5 e6 e7 e8 e9 e10 e11 e12 y1 y2 jr).toArray 152)).alloc (.cells (bi p1 p2 p3 p4 a1 n1 c1 a2 n2 c2 a3 n3 c3 a4 n4 c4).toArray 35))):=((m5 _ _).alloc (m3 _) _).alloc (by simp) _;have HP:H9 (au ((w.alloc (.cells (eL e1 e2 e3 e4 e5 e6 e7 e8 e9 e10 e11 e12 y1 y2 jr).toArray 152)).alloc (.cells (bi p1 p2 p3 p4 a1 n1 c1 a2 n2 c2 a3 n3 c3 a4 n4 c4).toArray 35)) w.heap.size (eL e1 e2 e3 e4 e5 e6 e7 e8 e9 e10 e11 e12 y1 y2 jr)):=(aM _ _ _).alloc _;have HF:H9 (au ((w.alloc (.cells (eL e1 e2 e3 e4 e5 e6 e7 e8 e9 e10 e11 e12 y1 y2 jr).toArray 152)).alloc (.cells (bi p1 p2 p3 p4 a1 n1 c1 a2 n2 c2 a3 n3 c3 a4 n4 c4).toArray 35)) (w.heap.size+1) (bi p1 p2 p3 p4 a1 n1 c1 a2 n2 c2 a3 n3 c3 a4 n4 c4)):=aZ _ _ _ _;have C1:=fun W (hW:Below ((w.alloc (.cells (eL e1 e2 e3 e4 e5 e6 e7 e8 e9 e10 e11 e12 y1 y2 jr).toArray 152)).alloc (.cells (bi p1 p2 p3 p4 a1 n1 c1 a2 n2 c2 a3 n3 c3 a4 n4 c4).toArray 35)).heap.size ((w.alloc (.cells (eL e1 e2 e3 e4 e5 e6 e7 e8 e9 e10 e11 e12 y1 y2 jr).toArray 152)).alloc (.cells (bi p1 p2 p3 p4 a1 n1 c1 a2 n2 c2 a3 n3 c3 a4 n4 c4).toArray 35)) W)=>kf p1 p2 p3 p4 W ((he.env.below HB.o).below hW) ((h1.below HB.o).below hW) ((h2.below HB.o).below hW) ((h3.below HB.o).below hW) ((h4.below HB.o).below hW);have C2:=fun W (hW:Below ((w.alloc (.cells (eL e1 e2 e3 e4 e5 e6 e7 e8 e9 e10 e11 e12 y1 y2 jr).toArray 152)).alloc (.cells (bi p1 p2 p3 p4 a1 n1 c1 a2 n2 c2 a3 n3 c3 a4 n4 c4).toArray 35)).heap.size ((w.alloc (.cells (eL e1 e2 e3 e4 e5 e6 e7 e8 e9 e10 e11 e12 y1 y2 jr).toArray 152)).alloc (.cells (bi p1 p2 p3 p4 a1 n1 c1 a2 n2 c2 a3 n3 c3 a4 n4 c4).toArray 35)) W)=>fk ⟨⟨e1,e2,e3,e4,e5,e6⟩,⟨e7,e8,e9,e10,e11,e12⟩⟩ p1 p2 p3 p4 W ((he.below HB.o).below hW) ((h1.below HB.o).below hW) ((h2.below HB.o).below hW) ((h3.below HB.o).below hW) ((h4.below HB.o).below hW);generalize M.Pf.rows (⟨(p1,p2),(p3,p4),z1,z2,z3,z4⟩:M.Pf)=Ca at *;generalize M.acc ⟨⟨e1,e2,e3,e4,e5,e6⟩,⟨e7,e8,e9,e10,e11,e12⟩⟩ (⟨(p1,p2),(p3,p4),z1,z2,z3,z4⟩:M.Pf)=oa at *;dsimp only[cZ]at C2;clear he h1 h2 h3 h4;by_cases hr:(Ca:Int)=jr
 ·
  by_cases hs:p1=y1∧p2=y2
  ·
   obtain⟨rfl,rfl⟩:=hs;subst hr;have e9:(decide (((Ca:Nat):Int)=(Ca:Int))&&(decide ((p1,p2)=(p1,p2))&&oa))=oa:=(by simp);rw[e9];clear e9;go_enter func86,ntmps86;(go_wp2_with fail);generalize((w.alloc (.cells (eL e1 e2 e3 e4 e5 e6 e7 e8 e9 e10 e11 e12 p1 p2 (Ca:Nat)).toArray 152)).alloc (.cells (bi p1 p2 p3 p4 a1 n1 c1 a2 n2 c2 a3 n3 c3 a4 n4 c4).toArray 35))=wa at *;generalize w.heap.size+1=fb at *;generalize w.heap.size=pb at HP ⊢;refine cH wa none (by kernel_rfl) fun hHeld=>?_;have Ba:H9 (m1 wa wa.drew):=(m5 _ _).drew;generalize wa.drew=Ga at *;refine wpAnyH_take (i:=0) (v:=.agg ((bi p1 p2 p3 p4 a1 n1 c1 a2 n2 c2 a3 n3 c3 a4 n4 c4):List Value).toArray) rfl (by kernel_rfl) (by kernel_rfl) (by kernel_rfl) (fun _ _ _ h=>h) (uZ (by kernel_rfl) 35 (.tmp 3) (by kernel_rfl) fb 0 (by kernel_rfl) ((bi p1 p2 p3 p4 a1 n1 c1 a2 n2 c2 a3 n3 c3 a4 n4 c4):List Value) _ (fun W hW=>(HF.o.grown hW (by simp)).row) underlying35 rfl (by kernel_rfl)) (by assumption) ?_;refine tk 2 (.pointer (some ⟨pb,14,none⟩)) ?_ ?_
   ·intro wq Aa;go_simp
   refine tk 3 (it (Ca:Nat)) ?_ ?_
   ·intro wq Aa;have c0:=(HP.o.grown Aa (by simp)).c 14;go_simp
   refine aX 1 fun Kk hK=>?_;go_simp;refine(C1 Ga Ba.o).mono ?_;rintro e Ea ⟨rfl,hb⟩;go_simp;have Fa:=aH hHeld hb;have Da:=Ba.t hb;refine hK.out _ _ Fa (fun hzz=>?_);clear hzz hK Kk hb;refine tk 4 (.bool true) ?_ ?_
   ·intro wq Aa;go_simp
   refine tk 5 (.bool true) ?_ ?_
   ·intro wq Aa;go_simp
   refine tk 6 (.pointer (some ⟨fb,0,none⟩)) ?_ ?_
   ·intro wq Aa;go_simp
   refine tk 7 (.agg #[it p1,it p2]) ?_ ?_
   ·intro wq Aa;have c0:=(HF.o.grown Aa (by simp)).c 0;have c1:=(HF.o.grown Aa (by simp)).c 1;go_simp
   refine tk 8 (.pointer (some ⟨pb,12,none⟩)) ?_ ?_
   ·intro wq Aa;go_simp
   refine tk 9 (.agg #[it p1,it p2]) ?_ ?_
   ·intro wq Aa;have c0:=(HP.o.grown Aa (by simp)).c 12;have c1:=(HP.o.grown Aa (by simp)).c 13;go_simp
   refine tk 10 (.bool true) ?_ ?_
   ·intro wq Aa;go_simp
   refine tk 11 (.bool true) ?_ ?_
   ·intro wq Aa;go_simp
   refine tk 12 (.bool true) ?_ ?_
   ·intro wq Aa;go_simp
   refine tk 13 (.pointer (some ⟨pb,0,none⟩)) ?_ ?_
   ·intro wq Aa;go_simp
   refine wpAnyH_take (i:=14) (v:=.agg ((cr e1 e2 e3 e4 e5 e6 e7 e8 e9 e10 e11 e12):List Value).toArray) rfl (by kernel_rfl) (by kernel_rfl) (by kernel_rfl) (fun _ _ _ h=>h) (uZ (by kernel_rfl) 31 (.tmp 18) (by kernel_rfl) pb 0 (by kernel_rfl) ((cr e1 e2 e3 e4 e5 e6 e7 e8 e9 e10 e11 e12):List Value) _ (fun W hW=>au.mid (HP.o.grown hW (by simp)) 0 12) underlying31 rfl (by kernel_rfl)) (by assumption) ?_;refine wpAnyH_take (i:=15) (v:=.agg ((bi p1 p2 p3 p4 a1 n1 c1 a2 n2 c2 a3 n3 c3 a4 n4 c4):List Value).toArray) rfl (by kernel_rfl) (by kernel_rfl) (by kernel_rfl) (fun _ _ _ h=>h) (uZ (by kernel_rfl) 35 (.tmp 3) (by kernel_rfl) fb 0 (by kernel_rfl) ((bi p1 p2 p3 p4 a1 n1 c1 a2 n2 c2 a3 n3 c3 a4 n4 c4):List Value) _ (fun W hW=>(HF.o.grown hW (by simp)).row) underlying35 rfl (by kernel_rfl)) (by assumption) ?_;refine aX 16 fun Kk hK=>?_;go_simp;refine(C2 Ea Da.o).mono ?_;rintro e Ia ⟨rfl,hb⟩;go_simp;have Ja:=aH Fa hb;have Ka:=Da.t hb;refine hK.out _ _ Ja (fun hzz=>?_);clear hzz hK Kk hb;refine tk 17 (.bool oa) ?_ ?_
   ·intro wq Aa;go_simp
   refine tk 18 (.bool oa) ?_ ?_
   ·intro wq Aa;go_simp
   refine bg ?_;go_simp;have Ha:=Hd (HB.o.trans (Ka.o.mono HB.o.size));go_wp2;go_ret;exact⟨rfl,Ha.o⟩
  ·
   have e9:(decide (((Ca:Nat):Int)=jr)&&(decide ((p1,p2)=(y1,y2))&&oa))=false:=(by simp[Prod.mk.injEq,hs]);rw[e9];clear e9;subst hr;have La:=hs;clear hs;go_enter func86,ntmps86;(go_wp2_with fail);generalize((w.alloc (.cells (eL e1 e2 e3 e4 e5 e6 e7 e8 e9 e10 e11 e12 y1 y2 (Ca:Nat)).toArray 152)).alloc (.cells (bi p1 p2 p3 p4 a1 n1 c1 a2 n2 c2 a3 n3 c3 a4 n4 c4).toArray 35))=wa at *;generalize w.heap.size+1=fb at *;generalize w.heap.size=pb at HP ⊢;refine cH wa none (by kernel_rfl) fun hHeld=>?_;have Ba:H9 (m1 wa wa.drew):=(m5 _ _).drew;generalize wa.drew=Ga at *;refine wpAnyH_take (i:=0) (v:=.agg ((bi p1 p2 p3 p4 a1 n1 c1 a2 n2 c2 a3 n3 c3 a4 n4 c4):List Value).toArray) rfl (by kernel_rfl) (by kernel_rfl) (by kernel_rfl) (fun _ _ _ h=>h) (uZ (by kernel_rfl) 35 (.tmp 3) (by kernel_rfl) fb 0 (by kernel_rfl) ((bi p1 p2 p3 p4 a1 n1 c1 a2 n2 c2 a3 n3 c3 a4 n4 c4):List Value) _ (fun W hW=>(HF.o.grown hW (by simp)).row) underlying35 rfl (by kernel_rfl)) (by assumption) ?_;refine tk 2 (.pointer (some ⟨pb,14,none⟩)) ?_ ?_
   ·intro wq Aa;go_simp
   refine tk 3 (it (Ca:Nat)) ?_ ?_
   ·intro wq Aa;have c0:=(HP.o.grown Aa (by simp)).c 14;go_simp
   refine aX 1 fun Kk hK=>?_;go_simp;refine(C1 Ga Ba.o).mono ?_;rintro e Ea ⟨rfl,hb⟩;go_simp;have Fa:=aH hHeld hb;have Da:=Ba.t hb;refine hK.out _ _ Fa (fun hzz=>?_);clear hzz hK Kk hb;refine tk 4 (.bool true) ?_ ?_
   ·intro wq Aa;go_simp
   refine tk 5 (.bool true) ?_ ?_
   ·intro wq Aa;go_simp
   refine tk 6 (.pointer (some ⟨fb,0,none⟩)) ?_ ?_
   ·intro wq Aa;go_simp
   refine tk 7 (.agg #[it p1,it p2]) ?_ ?_
   ·intro wq Aa;have c0:=(HF.o.grown Aa (by simp)).c 0;have c1:=(HF.o.grown Aa (by simp)).c 1;go_simp
   refine tk 8 (.pointer (some ⟨pb,12,none⟩)) ?_ ?_
   ·intro wq Aa;go_simp
   refine tk 9 (.agg #[it y1,it y2]) ?_ ?_
   ·intro wq Aa;have c0:=(HP.o.grown Aa (by simp)).c 12;have c1:=(HP.o.grown Aa (by simp)).c 13;go_simp
   refine tk 10 (.bool false) ?_ ?_
   ·intro wq Aa;go_simp;exact fun q1 q2=>La ⟨q1,q2⟩
   refine tk 11 (.bool false) ?_ ?_
   ·intro wq Aa;go_simp
   refine tk 12 (.bool false) ?_ ?_
   ·intro wq Aa;go_simp
   refine sk 13 ?_;refine sk 14 ?_;refine sk 15 ?_;refine sk 16 ?_;refine tk 17 (.bool false) ?_ ?_
   ·intro wq Aa;go_simp
   refine tk 18 (.bool false) ?_ ?_
   ·intro wq Aa;go_simp
   refine bg ?_;go_simp;have Ha:=Hd (HB.o.trans (Da.o.mono HB.o.size));go_wp2;go_ret;exact⟨rfl,Ha.o⟩
 ·
  have e9:(decide (((Ca:Nat):Int)=jr)&&(decide ((p1,p2)=(y1,y2))&&oa))=false:=(by simp[hr]);rw[e9];have gr:((Ca:Int)==jr)=false:=(by simp[hr]);clear e9 hr;go_enter func86,ntmps86;(go_wp2_with fail);generalize((w.alloc (.cells (eL e1 e2 e3 e4 e5 e6 e7 e8 e9 e10 e11 e12 y1 y2 jr).toArray 152)).alloc (.cells (bi p1 p2 p3 p4 a1 n1 c1 a2 n2 c2 a3 n3 c3 a4 n4 c4).toArray 35))=wa at *;generalize w.heap.size+1=fb at *;generalize w.heap.size=pb at HP ⊢;refine cH wa none (by kernel_rfl) fun hHeld=>?_;have Ba:H9 (m1 wa wa.drew):=(m5 _ _).drew;generalize wa.drew=Ga at *;refine wpAnyH_take (i:=0) (v:=.agg ((bi p1 p2 p3 p4 a1 n1 c1 a2 n2 c2 a3 n3 c3 a4 n4 c4):List Value).toArray) rfl (by kernel_rfl) (by kernel_rfl) (by kernel_rfl) (fun _ _ _ h=>h) (uZ (by kernel_rfl) 35 (.tmp 3) (by kernel_rfl) fb 0 (by kernel_rfl) ((bi p1 p2 p3 p4 a1 n1 c1 a2 n2 c2 a3 n3 c3 a4 n4 c4):List Value) _ (fun W hW=>(HF.o.grown hW (by simp)).row) underlying35 rfl (by kernel_rfl)) (by assumption) ?_;refine tk 2 (.pointer (some ⟨pb,14,none⟩)) ?_ ?_
  ·intro wq Aa;go_simp
  refine tk 3 (it jr) ?_ ?_
  ·intro wq Aa;have c0:=(HP.o.grown Aa (by simp)).c 14;go_simp
  refine aX 1 fun Kk hK=>?_;go_simp;refine(C1 Ga Ba.o).mono ?_;rintro e Ea ⟨rfl,hb⟩;go_simp;have Fa:=aH hHeld hb;have Da:=Ba.t hb;refine hK.out _ _ Fa (fun hzz=>?_);clear hzz hK Kk hb;refine tk 4 (.bool false) ?_ ?_
  ·intro wq Aa;go_simp
  refine tk 5 (.bool false) ?_ ?_
  ·intro wq Aa;go_simp
  refine sk 6 ?_;refine sk 7 ?_;refine sk 8 ?_;refine sk 9 ?_;refine sk 10 ?_;refine tk 11 (.bool false) ?_ ?_
  ·intro wq Aa;go_simp
  refine tk 12 (.bool false) ?_ ?_
  ·intro wq Aa;go_simp
  refine sk 13 ?_;refine sk 14 ?_;refine sk 15 ?_;refine sk 16 ?_;refine tk 17 (.bool false) ?_ ?_
  ·intro wq Aa;go_simp
  refine tk 18 (.bool false) ?_ ?_
  ·intro wq Aa;go_simp
  refine bg ?_;go_simp;have Ha:=Hd (HB.o.trans (Da.o.mono HB.o.size));go_wp2;go_ret;exact⟨rfl,Ha.o⟩
end Go.Proofs.YtobnifjhikoleaaGreatDoor
