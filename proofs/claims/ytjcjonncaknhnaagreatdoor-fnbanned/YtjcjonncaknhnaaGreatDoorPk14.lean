import Derived.Test.YtjcjonncaknhnaaGreatDoorPk12
import Derived.Test.YtjcjonncaknhnaaGreatDoorPk13
namespace Go.Proofs.YtjcjonncaknhnaaGreatDoor
open Go.RowKit Go.Proofs.Tryz
set_option linter.unusedSimpArgs false
set_option maxHeartbeats 32000000
variable {w w':World}{i' n b2 nb cb nj cj n1 n2 n3 n4 c1 c2 c3 c4:Nat}{ab aj a1 a2 a3 a4:Option Addr}{bs z1 z2 z3 z4:List Int}{qs:List MQ}{now who uB l' id s' t' tr L x m0 I J Q V T Y Z U A B t1 t2 p1 p2 p3 p4:Int}{p:M.Pf}{bare mok sok rok non wk idk p7 mt:Bool}{s:Int×Int}{js:List M.Jb}{R:M.Mt×Int×Int}
set_option maxRecDepth 10000 in
theorem tI:eX.p5:=by
 intro Da ab nb cb nj cj bs qs Aa Ba Ed id Kb Fd m0 I J Q V T Y Z L U Gd Id t1 t2 p1 p2 p3 p4 a1 a2 a3 a4 n1 n2 n3 n4 c1 c2 c3 c4 z1 z2 z3 z4 w Ja l1 l2 l3 l4 Jd Kd Ld wa wb i hi Nd La gj Xa tn Od tc Pd Qd Rd Sd Td Ud Vd Wd Xd Na jr jg tl a b c' d f k a' b' Oa d' f' k' s1 s2 Ya Hc Lb P Yd Zd Ae gp Pa g Ia Be w2 jb x HX Ce De Qa Ra Ee gx Nb w3 nr Fe Ge He Ie Je Ke Ic Jc Le Kc Lc Ne Oe Pe u v Qe Nc Oc Re Fa Pc Qc Se Sa Za Ob Pb Ab Rc Sc Tc Uc Qb Vc;have hG:=Qb.o;have hT:=hG.jtask hi;have Ea:=Ia.o;rw[Ea.1,Ea.2.1,Ea.2.2]at hT;have Rb:Fa.cell? ⟨gj,i*18+17,none⟩=some (.slice (qs.getD i q0).2.1 (qs.getD i q0).1.ts.length (qs.getD i q0).2.2):=hG.jcell hi (by omega);rw[Ea.1,Ea.2.1,Ea.2.2]at Rb;have b0:=hT.cells Pa (j:=0) (by omega);have Sb:=hT.2.frozenAt (P*3+0);have b1:=hT.cells Pa (j:=1) (by omega);have Wc:=hT.2.frozenAt (P*3+1);have b2:=hT.cells Pa (j:=2) (by omega);have Xc:=hT.2.frozenAt (P*3+2);rw[Nat.add_zero]at b0 Sb;generalize(qs.getD i q0).1.ts.getD P M.t0=zz at b0 b1 b2;obtain⟨Te,Ue,Ve⟩:=zz;simp only[dW,List.getElem?_cons_zero,List.getElem?_cons_succ]at b0 b1 b2;have Tb:qs.getD i q0∈qs:=(by rw[m4,m6 (by omega)];simp);obtain⟨Ub,Vb⟩:=hG.task hi Ea.2.1 (k:=P) (by rw[Ea.1];exact Pa) ⟨true,0,0⟩
 have Wb:g∈bY ab (some ⟨gj,0,none⟩) qs:=by
  unfold bY;simp only[uG];exact .inr (.inr (uO.2 ⟨_,Tb,by rw[Ea.2.1];simp[ob]⟩))
 have We:=Xa.o g Wb;have Xb:bY ab (some ⟨gj,0,none⟩) (qs.set i ({(qs.getD i q0).1 with ts:=(qs.getD i q0).1.ts.set P ⟨true,0,0⟩},(qs.getD i q0).2))=bY ab (some ⟨gj,0,none⟩) qs:=fG (qs:=qs) (i:=i) _ (by omega) (by rfl);have Yb:=Hd Xb;have Zb:=Hd Ub;have Ac:=Hd Vb;have x3:=Za.c 3;have v2:=Ob.c 2;(go_wp2_with fail);apply eV
 case f=>
  intro key
  go_region_law (fail)
  all_goals exact key.out
 case h=>
  show Exit.then _ _ Exit.normal _ (Fa.setCells g (P*3) (dW ⟨true,0,0⟩)).drew;have Bc:Below (Fa.setCells g (P*3) (dW ⟨true,0,0⟩)).heap.size (Fa.setCells g (P*3) (dW ⟨true,0,0⟩)) (Fa.setCells g (P*3) (dW ⟨true,0,0⟩)).drew:=(m5 _ _).drew;have Ta:=Ac.o.trans (cU _ _);have Ua:=Hd (Zb.o.below Bc);have Bb:=Hd (Za.o.grown Ta (fun e=>by have:=m2 e;omega));have Cc:=Hd (Pb.o.grown Ta (fun e=>by have:=m2 e;omega));have Dc:=Hd ((Ab.o.mono Ja).trans (ap Ta (m8 Ja Ab.o.size) (fun z e=>by have:=m2 e;omega)));generalize(Fa.setCells g (P*3) (dW ⟨true,0,0⟩)).drew=w4 at *;have Yc:i<qs.length:=(by omega);have Cb:=bX Yc ({(qs.getD i q0).1 with ts:=(qs.getD i q0).1.ts.set P ⟨true,0,0⟩},(qs.getD i q0).2)
  have hA:∀j,j<18→w4.cell? ⟨gj,i*18+j,none⟩=(eN ⟨Na,⟨⟨a,b,c',d,f,k⟩,⟨a',b',Oa,d',f',k'⟩⟩,(s1,s2),jr,jg,tl⟩ (some ⟨g,0,none⟩) tc)[j]?:=fun j hj=>by
   have h0:=Ua.o.jcell hi hj;rw[Cb]at h0;rw[h0];unfold iG;dsimp only;rw[Ia.o.2.1,Ia.o.2.2,Ya.o];unfold eN;dsimp only;rw[List.length_set]
  have hT:=Ua.o.jtask hi;rw[Cb]at hT;dsimp only at hT;rw[Ia.o.2.1,Ia.o.2.2,List.length_set,Ia.o.1,Ya.o]at hT;dsimp only at hT;have hR:w4.rangeAt gj (i*18) (eN ⟨Na,⟨⟨a,b,c',d,f,k⟩,⟨a',b',Oa,d',f',k'⟩⟩,(s1,s2),jr,jg,tl⟩ (some ⟨g,0,none⟩) tc):=ch rfl hA;dsimp only[eN]at hR;rw[Hc.o]at hR;have HS:=Hd hT.sees;have C3:=fun W (h:bW W (some ⟨g,0,none⟩) tn tc (tl.set P ⟨true,0,0⟩))=>i4 Na a b c' d f k a' b' Oa d' f' k' s1 s2 jr jg W h;have Ka:H9 (((qs.getD i q0).1.ts.set P ⟨true,0,0⟩).all (·.done)=(tl.set P ⟨true,0,0⟩).all (·.done)):=(by show _=_;rw[Ya.o]);generalize(tl.set P ⟨true,0,0⟩).all (·.done)=Zc at C3 Ka;have x3:=Bb.c 3;(go_wp2_with(with_reducible refine aA 109 ?_ ?_;rfl));with_reducible refine fE 45 gj (i*18) (ce Na a b c' d f k a' b' Oa d' f' k' s1 s2 jr jg (some ⟨g,0,none⟩) tn tc) hR underlying45 ?q5 ?_
  case q5=>exact⟨rfl,rfl,by kernel_rfl,_,rfl,by kernel_rfl⟩
  (go_wp2_with fail);have Ec:=Hd Ua.o;have Fc:=Hd Bb.o;have Gc:=Hd Cc.o;have Db:=Hd Dc.o;refine(C3 _ HS.o).mono ?_;rintro e w5 ⟨rfl,hb⟩;have Va:=Hd (Ec.o.below hb);have Ha:=Fc.b hb;have Ca:=Gc.b hb;have Wa:=Hd (Db.o.trans (hb.mono (m8 Ja Db.o.size)))
  cases Zc with
  | true=>
   have o0:=Ha.c 0;have o1:=Ha.c 1;have o2:=Ha.c 2;have o3:=Ha.c 3;have r0:=Ca.c 0;have Ad:=Ca.o.fr 0;have r1:=Ca.c 1;have Bd:=Ca.o.fr 1;have r2:=Ca.c 2;have Cd:=Ca.o.fr 2;have r3:=Ca.c 3;have Dd:=Ca.o.fr 3;have Eb:H9 (∀wf,w5.grownBy wf (some (w.heap.size+1+1))→aV wf Da ab nb cb bs (some ⟨gj,0,none⟩) nj cj (qs.set i ({(qs.getD i q0).1 with ts:=(qs.getD i q0).1.ts.set P ⟨true,0,0⟩},(qs.getD i q0).2))):=fun wf Ga=>Va.o.grown Ga (fun g hg e=>by rw[Yb.o]at hg;have:=Xa.o g hg;have:=m2 e;omega);have Fb:H9 (∀wf,aV wf Da ab nb cb bs (some ⟨gj,0,none⟩) nj cj (qs.set i ({(qs.getD i q0).1 with ts:=(qs.getD i q0).1.ts.set P ⟨true,0,0⟩},(qs.getD i q0).2))→Below Da w wf→eJ w Da Aa Ba ab nb cb bs (some ⟨gj,0,none⟩) nj cj qs Kb id (P:Int) ⟨(p1,p2),(p3,p4),z1,z2,z3,z4⟩ (.returned (.tuple #[.agg (aI Aa Ba ab nb cb (some ⟨gj,0,none⟩) nj cj).toArray,it 0,it 1])) wf):=fun wf hM hB=>⟨hB,.inr (.inr (.inr ⟨Qa.o,by rw[Ra.o];exact Nb.o,by rw[Lb.o];exact Sa.o,i,La.o,by rw[u',Ka.o];rfl,by rw[u'];exact hM⟩))⟩;(go_wp2_with fail);show bodyPost _ _ _ _ _ (w5.setCells (w.heap.size+1+1) 0 (aI Aa Ba ab nb cb (some ⟨gj,0,none⟩) nj cj));have Gb:au (w5.setCells (w.heap.size+1+1) 0 (aI Aa Ba ab nb cb (some ⟨gj,0,none⟩) nj cj)) (w.heap.size+1+1) (aI Aa Ba ab nb cb (some ⟨gj,0,none⟩) nj cj):=Ca.o.setCells (aI Aa Ba ab nb cb (some ⟨gj,0,none⟩) nj cj) 0 (by simp);have Ga:=cm w5 (w.heap.size+1+1) 0 (aI Aa Ba ab nb cb (some ⟨gj,0,none⟩) nj cj);have Hb:=Eb.o _ Ga;have Ib:=Wa.o.trans (ap Ga (m8 Ja Wa.o.size) (fun z e=>by have:=m2 e;omega));have Jb:=Fb.o _ Hb Ib;generalize(w5.setCells (w.heap.size+1+1) 0 (aI Aa Ba ab nb cb (some ⟨gj,0,none⟩) nj cj))=wf at *;exact m7 (aJ rfl rfl (uN wf (w.heap.size+1+1) 0 27 _ _ Gb.row underlying27 rfl (by kernel_rfl))) rfl Jb
  | false=>
   have o0:=Ha.c 0;have o1:=Ha.c 1;have o2:=Ha.c 2;have o3:=Ha.c 3;have r0:=Ca.c 0;have Ad:=Ca.o.fr 0;have r1:=Ca.c 1;have Bd:=Ca.o.fr 1;have r2:=Ca.c 2;have Cd:=Ca.o.fr 2;have r3:=Ca.c 3;have Dd:=Ca.o.fr 3;have Eb:H9 (∀wf,w5.grownBy wf (some (w.heap.size+1+1))→aV wf Da ab nb cb bs (some ⟨gj,0,none⟩) nj cj (qs.set i ({(qs.getD i q0).1 with ts:=(qs.getD i q0).1.ts.set P ⟨true,0,0⟩},(qs.getD i q0).2))):=fun wf Ga=>Va.o.grown Ga (fun g hg e=>by rw[Yb.o]at hg;have:=Xa.o g hg;have:=m2 e;omega);have Fb:H9 (∀wf,aV wf Da ab nb cb bs (some ⟨gj,0,none⟩) nj cj (qs.set i ({(qs.getD i q0).1 with ts:=(qs.getD i q0).1.ts.set P ⟨true,0,0⟩},(qs.getD i q0).2))→Below Da w wf→eJ w Da Aa Ba ab nb cb bs (some ⟨gj,0,none⟩) nj cj qs Kb id (P:Int) ⟨(p1,p2),(p3,p4),z1,z2,z3,z4⟩ (.returned (.tuple #[.agg (aI Aa Ba ab nb cb (some ⟨gj,0,none⟩) nj cj).toArray,it 0,it 0])) wf):=fun wf hM hB=>⟨hB,.inr (.inr (.inr ⟨Qa.o,by rw[Ra.o];exact Nb.o,by rw[Lb.o];exact Sa.o,i,La.o,by rw[u',Ka.o];rfl,by rw[u'];exact hM⟩))⟩;(go_wp2_with fail);show bodyPost _ _ _ _ _ (w5.setCells (w.heap.size+1+1) 0 (aI Aa Ba ab nb cb (some ⟨gj,0,none⟩) nj cj));have Gb:au (w5.setCells (w.heap.size+1+1) 0 (aI Aa Ba ab nb cb (some ⟨gj,0,none⟩) nj cj)) (w.heap.size+1+1) (aI Aa Ba ab nb cb (some ⟨gj,0,none⟩) nj cj):=Ca.o.setCells (aI Aa Ba ab nb cb (some ⟨gj,0,none⟩) nj cj) 0 (by simp);have Ga:=cm w5 (w.heap.size+1+1) 0 (aI Aa Ba ab nb cb (some ⟨gj,0,none⟩) nj cj);have Hb:=Eb.o _ Ga;have Ib:=Wa.o.trans (ap Ga (m8 Ja Wa.o.size) (fun z e=>by have:=m2 e;omega));have Jb:=Fb.o _ Hb Ib;generalize(w5.setCells (w.heap.size+1+1) 0 (aI Aa Ba ab nb cb (some ⟨gj,0,none⟩) nj cj))=wf at *;exact m7 (aJ rfl rfl (uN wf (w.heap.size+1+1) 0 27 _ _ Gb.row underlying27 rfl (by kernel_rfl))) rfl Jb
def oe(bs:List Int)(who:Int)(q:Nat):List Int:=(([1,2,3,4,5,6,7,8,9]:List Int).take (q-1)).filter fun x=>x==who||bs.contains x
theorem tC(bs:List Int)(who:Int)(q:Nat):(oe bs who q).length≤9:=by
 unfold oe;refine m8 (List.length_filter_le _ _) ?_;rw[uZ];simp;omega
theorem sM(bs:List Int)(who:Int){q:Nat}(h1:1≤q)(h9:q≤9):oe bs who (q+1)=oe bs who q++(if((q:Int)==who||bs.contains (q:Int))=true then[(q:Int)]else[]):=by
 have e:([1,2,3,4,5,6,7,8,9]:List Int).take (q+1-1)=([1,2,3,4,5,6,7,8,9]:List Int).take (q-1)++[(q:Int)]:=by
  rcases(by omega:q=1∨q=2∨q=3∨q=4∨q=5∨q=6∨q=7∨q=8∨q=9)with rfl | rfl | rfl | rfl | rfl | rfl | rfl | rfl | rfl <;> rfl
 unfold oe;rw[e,List.filter_append]
 congr 1
 unfold List.filter
 cases h:((q:Int)==who||bs.contains (q:Int)) <;> rfl
theorem iO{base':Nat}{e:TypeId}{size:Nat}{v:Value}{xs:List Value}(h:w.ownsRow i' e size v n xs)(hb:base'≤i'):w.ownsRow base' e size v n xs:=
 ⟨h.1,h.2.imp id fun⟨g,cap,cur,h1,h2,h3⟩=>⟨g,cap,cur,h1,m8 hb h2,h3⟩⟩
theorem aV.ban{al:Option Addr}{c:Nat}{xs:List Int}(H:aV w i' ab nb cb bs aj nj cj qs)(ho:aC 2 w b2 al n c xs)(hb:i'≤b2)(hl:∀g∈bY ab aj qs,g<b2):aV w i' al n c xs aj nj cj qs:=by
 refine⟨iO ho hb,H.jl,H.j,H.t,?_⟩;have hd:=cK.1 H.d;refine cK.2 ⟨fun g hg=>?_,hd.2.1,hd.2.2⟩;have h2:=(uH ho g (cv hg)).1
 constructor
 ·
  intro h;have:=hl g (by unfold bY;simp[h]);omega
 ·
  intro h;have:=hl g (by unfold bY;rw[uG,uG];exact .inr (.inr h));omega
set_option maxRecDepth 10000 in
theorem eS:eX.p1∧eX.p2∧eX.p3∧eX.p4:=by
 refine⟨?tax,?tbx,?tcx,?tdx⟩
 case' tax=>(intro i' ab nb cb nj cj bs qs now uB t' id l' tr m0 I J Q V T Y Z L U A B t1 t2 p1 p2 p3 p4 a1 a2 a3 a4 n1 n2 n3 n4 c1 c2 c3 c4 z1 z2 z3 z4 w uy l1 l2 l3 l4 hjl bnj hcj wa wb i hi rt1z1 HAT gj HLT tn hbt tc hbc HJO hiI hi0 gneg hnn rt2z1 rt2z2 rt2z3 jid jr jg tl a b c' d f k a' b' c'' d' f' k' s1 s2 HCQ HTL HJ2 P hp0 hp7 rt1z2 gp hPt g HTN hpt w2 jb x HX hPI hP0 HNO HWK rt2z4 gx HXW w3 nr hr16 oa rt2z5 rt2z6 rt2z7 rt2z8 wd0 hHeld HX0 wd9 hS1 HX1 rt2z9 HBAD HA_5 HV_5 HZ_5 HB_5 S1_5 S2_5 S3_5 S4_5 HG_5 HJ_5;clear hHeld HX0 hS1 HX1)
 case' tbx=>(intro i' ab nb cb nj cj bs qs now uB t' id l' tr m0 I J Q V T Y Z L U A B t1 t2 p1 p2 p3 p4 a1 a2 a3 a4 n1 n2 n3 n4 c1 c2 c3 c4 z1 z2 z3 z4 w uy l1 l2 l3 l4 hjl bnj hcj wa wb i hi rt1z1 HAT gj HLT tn hbt tc hbc HJO hiI hi0 gneg hnn rt3z1 rt3z2 rt3z3 jid jr jg tl a b c' d f k a' b' c'' d' f' k' s1 s2 HCQ HTL HJ2 P hp0 hp7 rt1z2 gp hPt g HTN hpt w2 jb x HX hPI hP0 HNO HWK rt3z4 gx HXW w3 nr hr16 oa rt3z5 rt3z6 rt3z7 rt3z8 wd0 hHeld HX0 wd1 hS1 HX1 rt3z9 hjr0 hjr1 u v wd9 hS2 HX2 rt3z10 HBAD HA_5 HV_5 HZ_5 HB_5 S1_5 S2_5 S3_5 S4_5 HG_5 HJ_5;clear hHeld HX0 hS1 HX1 hS2 HX2)
 case' tcx=>(intro i' ab nb cb nj cj bs qs now uB t' id l' tr m0 I J Q V T Y Z L U A B t1 t2 p1 p2 p3 p4 a1 a2 a3 a4 n1 n2 n3 n4 c1 c2 c3 c4 z1 z2 z3 z4 w uy l1 l2 l3 l4 hjl bnj hcj wa wb i hi rt1z1 HAT gj HLT tn hbt tc hbc HJO hiI hi0 gneg hnn rt4z1 rt4z2 rt4z3 jid jr jg tl a b c' d f k a' b' c'' d' f' k' s1 s2 HCQ HTL HJ2 P hp0 hp7 rt1z2 gp hPt g HTN hpt w2 jb x HX hPI hP0 HNO HWK rt4z4 gx HXW w3 nr hr16 oa rt4z5 rt4z6 rt4z7 rt4z8 wd0 hHeld HX0 wd1 hS1 HX1 rt4z9 hjr0 hjr1 u v wd9 hS2 HX2 rt4z10 HBAD HA_5 HV_5 HZ_5 HB_5 S1_5 S2_5 S3_5 S4_5 HG_5 HJ_5;clear hHeld HX0 hS1 HX1 hS2 HX2)
 case' tdx=>(intro i' ab nb cb nj cj bs qs now uB t' id l' tr m0 I J Q V T Y Z L U A B t1 t2 p1 p2 p3 p4 a1 a2 a3 a4 n1 n2 n3 n4 c1 c2 c3 c4 z1 z2 z3 z4 w uy l1 l2 l3 l4 hjl bnj hcj wa wb i hi rt1z1 HAT gj HLT tn hbt tc hbc HJO hiI hi0 gneg hnn rt5z1 rt5z2 rt5z3 jid jr jg tl a b c' d f k a' b' c'' d' f' k' s1 s2 HCQ HTL HJ2 P hp0 hp7 rt1z2 gp hPt g HTN hpt w2 jb x HX hPI hP0 HNO HWK rt5z4 gx HXW w3 nr hr16 rt5z5 rt5z6 rt5z7 rt5z8 wd0 hHeld HX0 wd1 hS1 HX1 rt5z9 hjr0 hjr1 u v wd2 hS2 HX2 rt5z10 wd9 hS3 HX3 rt5z11 HBAD HA_5 HV_5 HZ_5 HB_5 S1_5 S2_5 S3_5 S4_5 HG_5 HJ_5;clear hHeld HX0 hS1 HX1 hS2 HX2 hS3 HX3)
 all_goals
  have Zb:=HA_5.c 0;have Ac:=HA_5.c 1;have Lb:=HA_5.c 2;have Bc:=HA_5.c 3;have Fd:=HV_5.c 3;(go_wp2_with fail);have Cc:=m8 uy HB_5.o.size;refine(ip now uB l' _ HG_5.o Cc).mono ?_;rintro e w4 ⟨rfl,Dc,Va,Ec⟩;have Da:H9 (au w4 w.heap.size (aI now uB ab nb cb (some ⟨gj,0,none⟩) nj cj)):=Va _ _ HA_5.o (fun e=>by have:=HLT.o _ e;omega);have Nb:H9 (au w4 (w.heap.size+1) (bG t' id (P:Nat) l' tr m0 I J Q V T Y Z L U A B t1 t2 p1 p2 p3 p4 a1 n1 c1 a2 n2 c2 a3 n3 c3 a4 n4 c4)):=Va _ _ HV_5.o (fun e=>by have:=HLT.o _ e;omega);have Wa:H9 (au w4 (w.heap.size+1+1) aT):=Va _ _ HZ_5.o (fun e=>by have:=HLT.o _ e;omega);have Ob:=Hd Dc;have Qa:=Hd ((HB_5.o.mono uy).trans Ec);have Ba:=Hd Wa.o.2.2;have Fc:=Hd Qa.o.size;have o0:=Da.c 0;have Gd:=Da.o.fr 0;have o1:=Da.c 1;have Id:=Da.o.fr 1;have o2:=Da.c 2;have Jd:=Da.o.fr 2;have o3:=Da.c 3;have Kd:=Da.o.fr 3;(go_wp2_with fail);have Gc:bY ab (some ⟨gj,0,none⟩) (qs.map fun q=>(M.freeJ (br now l') q.1,q.2))=bY ab (some ⟨gj,0,none⟩) qs:=(by simp[bY,List.flatMap_map]);have Ja:=Hd Gc;have Pb:=cm w4 w.heap.size 0 (aI now uB ab nb cb (some ⟨gj,0,none⟩) nj cj);have Ha:w4.grownBy ((w4.setCells w.heap.size 0 (aI now uB ab nb cb (some ⟨gj,0,none⟩) nj cj)).alloc (.cells #[] 2)) (some w.heap.size):=Pb.trans (uK _ _ _);have Xa:(w4.setCells w.heap.size 0 (aI now uB ab nb cb (some ⟨gj,0,none⟩) nj cj)).heap.size=w4.heap.size:=(by simp[World.setCells]);have Hc:H9 (au ((w4.setCells w.heap.size 0 (aI now uB ab nb cb (some ⟨gj,0,none⟩) nj cj)).alloc (.cells #[] 2)) w.heap.size (aI now uB ab nb cb (some ⟨gj,0,none⟩) nj cj)):=(Da.o.setCells (aI now uB ab nb cb (some ⟨gj,0,none⟩) nj cj) 0 (by simp)).alloc _;have Ic:=Hd (Nb.o.grown Ha (by simp));have Jc:=Hd (Wa.o.grown Ha (by simp;omega));have Kc:=Hd (Ob.o.grown Ha (fun g hg e=>by rw[Ja.o]at hg;have:=HLT.o g hg;have:=m2 e;omega));have Lc:=Hd (Qa.o.trans (ap Ha (m8 uy Qa.o.size) (fun z e=>by have:=m2 e;omega)));have Nc:H9 (aC 2 ((w4.setCells w.heap.size 0 (aI now uB ab nb cb (some ⟨gj,0,none⟩) nj cj)).alloc (.cells #[] 2)) w4.heap.size (some ⟨w4.heap.size,0,none⟩) 0 0 []):=(by have h0:=World.ownsRow_made (e:=2) (size:=1) (base:=w4.heap.size) (w4.setCells w.heap.size 0 (aI now uB ab nb cb (some ⟨gj,0,none⟩) nj cj)) #[] 0 (by rw[Xa];exact m3 _) (by unfold maxLen;omega) (by simp);rw[Xa]at h0;exact h0);have Qb:=Ha.size;show Code.wp _ _ _ _ ((w4.setCells w.heap.size 0 (aI now uB ab nb cb (some ⟨gj,0,none⟩) nj cj)).alloc (.cells #[] 2));generalize((w4.setCells w.heap.size 0 (aI now uB ab nb cb (some ⟨gj,0,none⟩) nj cj)).alloc (.cells #[] 2))=w5 at *;have Oc:=Hd Qb;clear Qb Pb Ha Xa Da Nb Wa Ob Qa
  go_loopw [9,10] (fun l i wr=>∃(q:Nat) (al:Option Addr) (n c:Nat),1≤q∧q≤10∧i=it q∧l=.slice al n c∧aC 2 wr w4.heap.size al n c (oe bs l' q)∧aV wr i' ab nb cb bs (some ⟨gj,0,none⟩) nj cj (qs.map fun q=>(M.freeJ (br now l') q.1,q.2))∧au wr w.heap.size (aI now uB ab nb cb (some ⟨gj,0,none⟩) nj cj)∧au wr (w.heap.size+1) (bG t' id (P:Nat) l' tr m0 I J Q V T Y Z L U A B t1 t2 p1 p2 p3 p4 a1 n1 c1 a2 n2 c2 a3 n3 c3 a4 n4 c4)∧au wr (w.heap.size+1+1) aT∧Below i' w wr∧w4.heap.size≤wr.heap.size) (fun _ i _=>10-(intOf i).toNat)
  case atStart=>exact⟨1,_,0,0,by omega,by omega,rfl,rfl,Nc.o,Kc.o,Hc.o,Ic.o,Jc.o,Lc.o,Oc.o⟩
  case round=>
   obtain⟨q,al,n,c,Pc,Ld,rfl,rfl,ho,hM,hA,hV,hZ,hB,Qc⟩:=hrel;have Nd:n≤9:=(by rw[←ho.len];exact tC _ _ _);have Ka:=Hd ho;have Ra:=Hd hM;have Ea:=Hd hA;have Ya:=Hd hV;have Za:=Hd hZ;have Ia:=Hd hB;by_cases Rc:q≤9
   case pos=>
    have Sc:(q:Int)≤9:=(by omega);have La:=sM bs l' Pc Rc;have v3:=Ya.c 3;have Ga:=Hd Qc;by_cases Na:(q:Int)=l'
    ·
     have gq:((q:Int)==l')=true:=(by simp[Na]);have Ab:=Hd Na;clear Na;have Oa:H9 (oe bs l' (q+1)=oe bs l' q++[(q:Int)]):=(by show _=_;rw[La];rw[if_pos (by simp[Ab.o])]);clear La;obtain⟨i0,Bb,Cb,Db,Eb⟩:=info_parts bJ;have Ca:=fun z hz=>uH Ka.o z hz;(go_wp2_with(with_reducible refine aA 91 ?_ ?_;rfl));show wpList _ _ _ _ _ _;refine wpList_append_own_at _ rfl _ _ 24 rfl w4.heap.size 2 i0 (it 0) 1 8 underlying24 Bb Cb Db Eb rfl (by decide) _ n ((oe bs l' q).map (Value.int .i64)) rfl (vg Ka.o _) ⟨wr.heap.size,0,none⟩ 1 1 [it (q:Nat)] rfl rfl (bB wr _ _) (bZ _) (by unfold maxLen;omega) (by omega) ?hs ?hk
     case hs=>simp;exact Nat.le_succ_of_le Ga.o
     case hk=>
      intro v' w7 Fb Gb _ Tc;have hown':w7.ownsRow w4.heap.size 2 1 v' (n+1) ((oe bs l' (q+1)).map (Value.int .i64)):=(by rw[Oa.o,uX];exact Fb);obtain⟨Pa,cN,rfl,Hb⟩:=aC.form hown';have Aa:wr.grownBy w7 (Value.slice al n c).ownBlock:=(uK wr _ _).trans Gb;have HO':=Hd Hb;have HM':H9 (aV w7 i' ab nb cb bs (some ⟨gj,0,none⟩) nj cj (qs.map fun q=>(M.freeJ (br now l') q.1,q.2))):=Ra.o.grown Aa (fun g hg e=>by rw[Ja.o]at hg;have:=HLT.o g hg;have:=(Ca g e).1;have:=Ba.o;omega);have HA':H9 (au w7 w.heap.size (aI now uB ab nb cb (some ⟨gj,0,none⟩) nj cj)):=Ea.o.grown Aa (fun e=>by have:=(Ca _ e).1;have:=Ba.o;omega);have HV':H9 (au w7 (w.heap.size+1) (bG t' id (P:Nat) l' tr m0 I J Q V T Y Z L U A B t1 t2 p1 p2 p3 p4 a1 n1 c1 a2 n2 c2 a3 n3 c3 a4 n4 c4)):=Ya.o.grown Aa (fun e=>by have:=(Ca _ e).1;have:=Ba.o;omega);have HZ':H9 (au w7 (w.heap.size+1+1) aT):=Za.o.grown Aa (fun e=>by have:=(Ca _ e).1;have:=Ba.o;omega);have HB':H9 (Below i' w w7):=Ia.o.trans (ap Aa (m8 uy Ia.o.size) (fun z e=>by have:=(Ca z e).1;have:=Ba.o;omega));have Ib:=Hd (m8 Ga.o Aa.size);go_wp2;go_roundw
      case rel=>exact⟨q+1,Pa,n+1,cN,by omega,by omega,by go_num,rfl,HO'.o,HM'.o,HA'.o,HV'.o,HZ'.o,HB'.o,Ib.o⟩
      case measure=>simp[intOf];omega
    have gq:((q:Int)==l')=false:=(by simp[Na]);have Ab:=Hd Na;have Zb:=Ea.c 0;have Ac:=Ea.c 1;have Lb:=Ea.c 2;have Bc:=Ea.c 3;have CB:=fD (aj:=some ⟨gj,0,none⟩) (nj:=nj) (cj:=cj) now uB (q:Int) wr Ra.o.b.sees;generalize Uc:bs.contains (q:Int)=oc at CB;have Rb:=Hd Uc;(go_wp2_with fail);refine CB.mono ?_;rintro e w6 ⟨rfl,hb⟩;have Sb:=Hd (m8 Ga.o hb.size);have Jb:=Hd (Ka.o.below hb);have Tb:=Hd (Ra.o.below hb);have Ub:=Ea.b hb;have Vb:=Ya.b hb;have Wb:=Za.b hb;have Kb:=Hd (Ia.o.trans (hb.mono (m8 uy Ia.o.size)));clear hb CB Ga;have Ga:=Sb;clear Sb
    cases oc with
    | true=>
     have Oa:H9 (oe bs l' (q+1)=oe bs l' q++[(q:Int)]):=(by show _=_;rw[La];rw[if_pos (by rw[Rb.o];simp)]);clear La;obtain⟨i0,Bb,Cb,Db,Eb⟩:=info_parts bJ;have Ca:=fun z hz=>uH Jb.o z hz;(go_wp2_with(with_reducible refine aA 91 ?_ ?_;rfl));show wpList _ _ _ _ _ _;refine wpList_append_own_at _ rfl _ _ 24 rfl w4.heap.size 2 i0 (it 0) 1 8 underlying24 Bb Cb Db Eb rfl (by decide) _ n ((oe bs l' q).map (Value.int .i64)) rfl (vg Jb.o _) ⟨w6.heap.size,0,none⟩ 1 1 [it (q:Nat)] rfl rfl (bB w6 _ _) (bZ _) (by unfold maxLen;omega) (by omega) ?hs ?hk
     case hs=>simp;exact Nat.le_succ_of_le Ga.o
     case hk=>
      intro v' w7 Fb Gb _ Tc;have hown':w7.ownsRow w4.heap.size 2 1 v' (n+1) ((oe bs l' (q+1)).map (Value.int .i64)):=(by rw[Oa.o,uX];exact Fb);obtain⟨Pa,cN,rfl,Hb⟩:=aC.form hown';have Aa:w6.grownBy w7 (Value.slice al n c).ownBlock:=(uK w6 _ _).trans Gb;have HO':=Hd Hb;have HM':H9 (aV w7 i' ab nb cb bs (some ⟨gj,0,none⟩) nj cj (qs.map fun q=>(M.freeJ (br now l') q.1,q.2))):=Tb.o.grown Aa (fun g hg e=>by rw[Ja.o]at hg;have:=HLT.o g hg;have:=(Ca g e).1;have:=Ba.o;omega);have HA':H9 (au w7 w.heap.size (aI now uB ab nb cb (some ⟨gj,0,none⟩) nj cj)):=Ub.o.grown Aa (fun e=>by have:=(Ca _ e).1;have:=Ba.o;omega);have HV':H9 (au w7 (w.heap.size+1) (bG t' id (P:Nat) l' tr m0 I J Q V T Y Z L U A B t1 t2 p1 p2 p3 p4 a1 n1 c1 a2 n2 c2 a3 n3 c3 a4 n4 c4)):=Vb.o.grown Aa (fun e=>by have:=(Ca _ e).1;have:=Ba.o;omega);have HZ':H9 (au w7 (w.heap.size+1+1) aT):=Wb.o.grown Aa (fun e=>by have:=(Ca _ e).1;have:=Ba.o;omega);have HB':H9 (Below i' w w7):=Kb.o.trans (ap Aa (m8 uy Kb.o.size) (fun z e=>by have:=(Ca z e).1;have:=Ba.o;omega));have Ib:=Hd (m8 Ga.o Aa.size);go_wp2;go_roundw
      case rel=>exact⟨q+1,Pa,n+1,cN,by omega,by omega,by go_num,rfl,HO'.o,HM'.o,HA'.o,HV'.o,HZ'.o,HB'.o,Ib.o⟩
      case measure=>simp[intOf];omega
    | false=>
     have Oa:H9 (oe bs l' (q+1)=oe bs l' q):=(by show _=_;rw[La,if_neg (by rw[Rb.o];simpa using Ab.o)];simp);go_wp2;go_roundw
     case rel=>exact⟨q+1,al,n,c,by omega,by omega,by go_num,rfl,by rw[Oa.o];exact Jb.o,Tb.o,Ub.o,Vb.o,Wb.o,Kb.o,Ga.o⟩
     case measure=>simp[intOf];omega
   have Sc:¬ (q:Int)≤9:=(by omega);have Vc:H9 (oe bs l' q=M.banned bs l'):=(by show _=_;rw[show q=10 by omega];rfl);have Wc:H9 (aV wr i' al n c (M.banned bs l') (some ⟨gj,0,none⟩) nj cj (qs.map fun q=>(M.freeJ (br now l') q.1,q.2))):=(by rw[←Vc.o];exact Ra.o.ban Ka.o (m8 uy Fc.o) (fun g hg=>by rw[Ja.o]at hg;have:=HLT.o g hg;have:=Ba.o;omega));have Xc:=fun g hg=>(uH Ka.o g (cv hg)).1
   have Xb:∀g∈bY al (some ⟨gj,0,none⟩) (qs.map fun q=>(M.freeJ (br now l') q.1,q.2)),g≠w.heap.size∧g≠(w.heap.size+1+1):=fun g hg=>by
    have h9:=Ba.o;unfold bY at hg
    rcases uG.1 hg with h | h
    ·have:=Xc g h;omega
    ·
     have h7:g∈bY ab (some ⟨gj,0,none⟩) (qs.map fun q=>(M.freeJ (br now l') q.1,q.2)):=(by unfold bY;exact uG.2 (.inr h));rw[Ja.o]at h7;have:=HLT.o g h7;omega
   have Sa:wr.grownBy (wr.setCell ⟨w.heap.size,2,none⟩ (.slice al n c)) (some w.heap.size):=a8 (World.grownBy.refl _ _) 2 [.slice al n c];have Ta:H9 (au (wr.setCell ⟨w.heap.size,2,none⟩ (.slice al n c)) w.heap.size (aI now uB al n c (some ⟨gj,0,none⟩) nj cj)):=Ea.o.set 2 (by simp) _;have Fa:=Hd (Za.o.grown Sa (fun e=>by have:=m2 e;omega));have Od:=Sa;have Yc:=Wc.o.grown Sa (fun g hg e=>(Xb g hg).1 (m2 e).symm);have Yb:=Hd (Ia.o.trans (ap Sa (m8 uy Ia.o.size) (fun z e=>by have:=m2 e;omega)));have Zc:H9 (∀wf,(wr.setCell ⟨w.heap.size,2,none⟩ (.slice al n c)).grownBy wf (some (w.heap.size+1+1))→aV wf i' al n c (M.banned bs l') (some ⟨gj,0,none⟩) nj cj (qs.map fun q=>(M.freeJ (br now l') q.1,q.2))):=fun wf Ua=>Yc.grown Ua (fun g hg e=>(Xb g hg).2 (m2 e).symm);have Ad:H9 (∀wf,aV wf i' al n c (M.banned bs l') (some ⟨gj,0,none⟩) nj cj (qs.map fun q=>(M.freeJ (br now l') q.1,q.2))→Below i' w wf→eJ w i' now uB ab nb cb bs (some ⟨gj,0,none⟩) nj cj qs l' id (P:Int) ⟨(p1,p2),(p3,p4),z1,z2,z3,z4⟩ (.returned (.tuple #[.agg (aI now uB al n c (some ⟨gj,0,none⟩) nj cj).toArray,it 7,it 0])) wf):=fun wf hM hB=>⟨hB,.inr (.inr (.inl ⟨HNO.o,by rw[HWK.o];exact HXW.o,by rw[HJ2.o];exact HBAD.o,_,_,_,rfl,hM⟩))⟩;have Lb:=Ea.c 2;have Pd:=Ea.o.fr 2;have o0:=Ta.c 0;have o1:=Ta.c 1;have o2:=Ta.c 2;have o3:=Ta.c 3;have r0:=Fa.c 0;have Qd:=Fa.o.fr 0;have r1:=Fa.c 1;have Rd:=Fa.o.fr 1;have r2:=Fa.c 2;have Sd:=Fa.o.fr 2;have r3:=Fa.c 3;have Td:=Fa.o.fr 3;(go_wp2_with fail);show bodyPost _ _ _ _ _ ((wr.setCell ⟨w.heap.size,2,none⟩ (.slice al n c)).setCells (w.heap.size+1+1) 0 (aI now uB al n c (some ⟨gj,0,none⟩) nj cj));have Bd:au ((wr.setCell ⟨w.heap.size,2,none⟩ (.slice al n c)).setCells (w.heap.size+1+1) 0 (aI now uB al n c (some ⟨gj,0,none⟩) nj cj)) (w.heap.size+1+1) (aI now uB al n c (some ⟨gj,0,none⟩) nj cj):=Fa.o.setCells (aI now uB al n c (some ⟨gj,0,none⟩) nj cj) 0 (by simp);have Ua:=cm (wr.setCell ⟨w.heap.size,2,none⟩ (.slice al n c)) (w.heap.size+1+1) 0 (aI now uB al n c (some ⟨gj,0,none⟩) nj cj);have Cd:=Zc.o _ Ua;have Dd:=Yb.o.trans (ap Ua (m8 uy Yb.o.size) (fun z e=>by have:=m2 e;omega));have Ed:=Ad.o _ Cd Dd;generalize((wr.setCell ⟨w.heap.size,2,none⟩ (.slice al n c)).setCells (w.heap.size+1+1) 0 (aI now uB al n c (some ⟨gj,0,none⟩) nj cj))=wf at *;exact m7 (aJ rfl rfl (uN wf (w.heap.size+1+1) 0 27 _ _ Bd.row underlying27 rfl (by kernel_rfl))) rfl Ed
theorem qU:eX.p1:=eS.1
theorem qV:eX.p2:=eS.2.1
theorem qW:eX.p3:=eS.2.2.1
theorem qX:eX.p4:=eS.2.2.2
theorem mB:j2:=tU.h ⟨eX.h ⟨qU⟩ ⟨qV⟩ ⟨qW⟩ ⟨qX⟩ ⟨tI⟩⟩
theorem pA(hw:who≠0):br now who=M.mineT who:=by
 funext t
 unfold br M.mineT M.leased;by_cases h:t.l'=who
 ·simp[h,hw]
 ·simp[h,hw]
theorem eJ.back{e:Ending}(hw:l'≠0)(hbn:bs.contains l'=false)(h:eJ w i' now uB ab nb cb bs aj nj cj qs l' id s' p e w'):
  ∃v,e=.returned (.tuple #[v,.int .i64 (M.back (cr s' p) ⟨now,uB,bs,qs.map (·.1)⟩ l' id s').2.1,.int .i64 (M.back (cr s' p) ⟨now,uB,bs,qs.map (·.1)⟩ l' id s').2.2])∧l9 w i' v (M.back (cr s' p) ⟨now,uB,bs,qs.map (·.1)⟩ l' id s').1.now (M.back (cr s' p) ⟨now,uB,bs,qs.map (·.1)⟩ l' id s').1.next (M.back (cr s' p) ⟨now,uB,bs,qs.map (·.1)⟩ l' id s').1.bs (M.back (cr s' p) ⟨now,uB,bs,qs.map (·.1)⟩ l' id s').1.js w':=by
 obtain⟨hB,h⟩:=h;have h0:¬ (bs.contains l'=true):=by rw[hbn];simp
 rcases h with⟨h1,rfl,hM⟩ | ⟨h1,h2,rfl,hM⟩ | ⟨h1,h2,h3,ab',nb',cb',rfl,hM⟩ | ⟨h1,h2,h3,i,hi,rfl,hM⟩
 ·
  have e:M.back (cr s' p) ⟨now,uB,bs,qs.map (·.1)⟩ l' id s'=(⟨now,uB,bs,qs.map (·.1)⟩,4,0):=by
   unfold M.back;rw[if_neg h0,if_pos (by simpa using h1)]
  rw[e];exact⟨_,rfl,_,_,_,_,_,_,_,rfl,hM,rfl,hB⟩
 ·
  have e:M.back (cr s' p) ⟨now,uB,bs,qs.map (·.1)⟩ l' id s'=(⟨now,uB,bs,qs.map (·.1)⟩,8,0):=by
   unfold M.back;rw[if_neg h0,if_neg (by simpa using h1),if_pos h2]
  rw[e];exact⟨_,rfl,_,_,_,_,_,_,_,rfl,hM,rfl,hB⟩
 ·
  have e:M.back (cr s' p) ⟨now,uB,bs,qs.map (·.1)⟩ l' id s'=(⟨now,uB,M.banned bs l',(qs.map (·.1)).map (M.freeJ (M.mineT l'))⟩,7,0):=by
   unfold M.back;rw[if_neg h0,if_neg (by simpa using h1),if_neg (by simpa using h2),if_pos h3]
  rw[e];rw[pA hw]at hM;exact⟨_,rfl,_,_,_,_,_,_,_,rfl,hM,by simp[List.map_map,Function.comp_def],hB⟩
 ·
  have e:M.back (cr s' p) ⟨now,uB,bs,qs.map (·.1)⟩ l' id s'=(⟨now,uB,bs,M.setT (qs.map (·.1)) i s'.toNat ⟨true,0,0⟩⟩,0,if((M.jobOf id (qs.map (·.1))).ts.set s'.toNat ⟨true,0,0⟩).all (·.done)then 1 else 0):=by
   unfold M.back;rw[if_neg h0,if_neg (by simpa using h1),if_neg (by simpa using h2),if_neg (by simp[h3]),hi]
   rfl
  rw[e]
  have hj:M.jobOf id (qs.map (·.1))=(qs.getD i q0).1:=by
   rw[←dB];unfold M.jobOf;rw[hi]
   rfl
  rw[hj];refine⟨_,rfl,_,_,_,_,_,_,_,rfl,hM,?_,hB⟩;unfold M.setT;rw[dB,List.map_set]
namespace M
def act(g:Jb→Bool)(m:Mt)(t' id s' l' tr:Int)(mc:Mc)(s:Int×Int):Mt×Int×Int:=
 if t'=1 then submit m mc s s' tr
 else if t'=4 then tick m tr
 else if t'=5 then cancel m id
 else if t'=2 then lease m l'
 else back g m l' id s'
def acted(g:Jb→Bool)(form:Bool)(m:Mt)(t' id s' l' tr:Int)(mc:Mc)(s:Int×Int):Mt×Int×Int:=
 if m.ok=false then(Mt.zero,1,0)
 else if form=false then(m,2,0)
 else act g m t' id s' l' tr mc s
end M
def bC(w:World)(i':Nat)(r:M.Mt×Int×Int)(e:Ending)(w':World):Prop:=
 ∃v,e=.returned (.tuple #[v,.int .i64 r.2.1,.int .i64 r.2.2])∧l9 w i' v r.1.now r.1.next r.1.bs r.1.js w'
theorem eJ.act{e:Ending}(hw:l'≠0)(hbn:bs.contains l'=false)(h:eJ w i' now uB ab nb cb bs aj nj cj qs l' id s' p e w'):
  bC w i' (M.back (cr s' p) ⟨now,uB,bs,qs.map (·.1)⟩ l' id s') e w':=h.back hw hbn
theorem oD(now uB who:Int)(w:World)(H:aV w i' ab nb cb bs aj nj cj qs)(uy:i'≤w.heap.size)(hf:M.Right now uB bs (qs.map (·.1)))(hbn:bs.contains who=false):
  Calls prog 47 #[.agg #[.int .i64 now,.int .i64 uB,.slice ab nb cb,.slice aj nj cj],.int .i64 who] w (bC w i' (M.lease ⟨now,uB,bs,qs.map (·.1)⟩ who)):=by
 have h0:¬ (bs.contains who=true):=(by rw[hbn];simp);have hT:=fun q hq=>(hf.tasks q.1 (List.mem_map.2 ⟨q,hq,rfl⟩)).2
 have Aa:∀q∈qs,0<q.1.id∧q.1.id≤1000000000:=fun q hq=>by
  have h1:=hf.job q.1 (List.mem_map.2 ⟨q,hq,rfl⟩);have h2:=hf.next1;exact⟨h1.1,by have:=h1.2.1;omega⟩
 refine(oF now uB who w H uy hf.now0 hf.now1 Aa hT).mono ?_;intro e w' h;rw[M.scJ_eq]at h;by_cases ha:(qs.map (·.1)).any (fun j=>j.ts.any (M.mineT who))=true
 ·
  rw[if_pos ha]at h;obtain⟨rfl,hM,hB⟩:=h
  have e:M.lease ⟨now,uB,bs,qs.map (·.1)⟩ who=(⟨now,uB,bs,qs.map (·.1)⟩,6,0):=by
   unfold M.lease;rw[if_neg h0,if_pos ha]
  rw[e];exact⟨_,rfl,_,_,_,_,_,_,_,rfl,hM,rfl,hB⟩
 ·
  rw[if_neg ha]at h
  cases hp:M.place 0 (qs.map (·.1))with
  | none=>
   rw[hp]at h;obtain⟨rfl,hM,hB⟩:=h
   have e:M.lease ⟨now,uB,bs,qs.map (·.1)⟩ who=(⟨now,uB,bs,qs.map (·.1)⟩,4,0):=by
    unfold M.lease;rw[if_neg h0,if_neg ha,hp]
   rw[e];exact⟨_,rfl,_,_,_,_,_,_,_,rfl,hM,rfl,hB⟩
  | some x=>
   obtain⟨i,k⟩:=x;rw[hp]at h;obtain⟨rfl,hM,hB⟩:=h
   have e:M.lease ⟨now,uB,bs,qs.map (·.1)⟩ who=(⟨now,uB,bs,M.setT (qs.map (·.1)) i k ⟨false,who,now+5⟩⟩,0,100*((qs.map (·.1)).getD i M.j0).id+k):=by
    unfold M.lease;rw[if_neg h0,if_neg ha,hp]
   rw[e];refine⟨_,by rw[dB],_,_,_,_,_,_,_,rfl,hM,?_,hB⟩;unfold M.setT;rw[dB,List.map_set]
namespace M
theorem form_kinds{L:Bool}(h:formB t' id s' l' tr bare mok sok rok L non wk idk p7 mt=true):
  (t'=1∧mok=true∧sok=true∧rok=true∧L=true)∨(t'=2∧wk=true)∨(t'=3∧wk=true∧idk=true∧p7=true)∨(t'=4∧mt=true)∨(t'=5∧idk=true):=by
 unfold formB at h;by_cases h1:t'=1
 ·rw[if_pos h1]at h;simp only[uU]at h;exact .inl ⟨h1,h.1,h.2.1,h.2.2.1,h.2.2.2.1⟩
 rw[if_neg h1]at h;by_cases h2:t'=2
 ·rw[if_pos h2]at h;simp only[uU]at h;exact .inr (.inl ⟨h2,h.2.1⟩)
 rw[if_neg h2]at h;by_cases h3:t'=3
 ·rw[if_pos h3]at h;simp only[uU]at h;exact .inr (.inr (.inl ⟨h3,h.2.1,h.2.2.1,h.2.2.2.1⟩))
 rw[if_neg h3]at h;by_cases h4:t'=4
 ·rw[if_pos h4]at h;simp only[uU]at h;exact .inr (.inr (.inr (.inl ⟨h4,h.2.2.2.2.1⟩)))
 rw[if_neg h4]at h;by_cases h5:t'=5
 ·rw[if_pos h5]at h;simp only[uU]at h;exact .inr (.inr (.inr (.inr ⟨h5,h.2.2.1⟩)))
 ·rw[if_neg h5]at h;simp at h
theorem inB_iff{lo hi:Int}:inB x lo hi=true↔lo≤x∧x≤hi:=by unfold inB;simp
def Mt.right(m:Mt):Prop:=Right m.now m.next m.bs m.js
theorem acted_right{g:Jb→Bool}{m:Mt}{mc:Mc}(h:m.right):
  (acted g (formB t' id s' l' tr bare mc.ok (M.sOk s) (M.rows s') (inB tr 1 8) non (inB l' 1 9) (inB id 1 1000000000) (inB s' 0 7) (inB tr 1 1000000000)) m t' id s' l' tr mc s).1.right:=by
 unfold acted;rw[if_neg (by rw[show m.ok=true from Right.ok h];simp)];by_cases hf:formB t' id s' l' tr bare mc.ok (M.sOk s) (M.rows s') (inB tr 1 8) non (inB l' 1 9) (inB id 1 1000000000) (inB s' 0 7) (inB tr 1 1000000000)=false
 ·rw[if_pos hf];exact h
 ·
  rw[if_neg hf];have wk:∀{x},inB x 1 9=true→wkOk x=true:=fun{x} h=>h;unfold act
  rcases form_kinds (by simpa using hf)with⟨rfl,h1,h2,h3,h4⟩ | ⟨rfl,h1⟩ | ⟨rfl,h1,h2,h3⟩ | ⟨rfl,h1⟩ | ⟨rfl,h1⟩
  ·rw[if_pos rfl];exact submit_right h h1 h2 h3 (inB_iff.1 h4).1 (inB_iff.1 h4).2
  ·rw[if_neg (by decide),if_neg (by decide),if_neg (by decide),if_pos rfl];exact lease_right h (wk h1)
  ·rw[if_neg (by decide),if_neg (by decide),if_neg (by decide),if_neg (by decide)];exact back_right h (wk h1) (inB_iff.1 h3).1
  ·rw[if_neg (by decide),if_pos rfl];exact tick_right h (inB_iff.1 h1).1
  ·rw[if_neg (by decide),if_neg (by decide),if_pos rfl];exact cancel_right h
end M
theorem aV.mono(H:aV w b2 ab nb cb bs aj nj cj qs)(hb:i'≤b2):aV w i' ab nb cb bs aj nj cj qs:=
 ⟨iO H.b hb,H.jl,iO H.j hb,fun q hq=>⟨(H.t q hq).1,iO (H.t q hq).2 hb⟩,H.d⟩
theorem aV.zero(w:World)(i':Nat):aV w i' none 0 0 [] none 0 0 []:=
 ⟨World.ownsRow_nil _ _ _ _,rfl,World.ownsRow_nil _ _ _ _,by simp,by simp[bY,ob]⟩
def aZ(now uB:Int)(bs:List Int)(js:List M.Jb)(t' id s' l' tr m0 I J Q V T Y Z L U A B t1 t2 p1 p2 p3 p4:Int)(n1 n2 n3 n4:Nat)(z1 z2 z3 z4:List Int):M.Mt×Int×Int:=
 M.acted (cr s' ⟨(p1,p2),(p3,p4),z1,z2,z3,z4⟩) (M.formB t' id s' l' tr (bQ m0 I J Q V T Y Z L U A B&&(decide (t1=0)&&decide (t2=0))) (M.Mc.ok ⟨⟨m0,I,J,Q,V,T⟩,⟨Y,Z,L,U,A,B⟩⟩) (M.sOk (t1,t2)) (M.rows s') (M.inB tr 1 8) (bD p1 p2 p3 p4 n1 n2 n3 n4) (M.inB l' 1 9) (M.inB id 1 1000000000) (M.inB s' 0 7) (M.inB tr 1 1000000000)) ⟨now,uB,bs,js⟩ t' id s' l' tr ⟨⟨m0,I,J,Q,V,T⟩,⟨Y,Z,L,U,A,B⟩⟩ (t1,t2)
set_option linter.unusedVariables false in
def iS:Prop:=∀(ab aj:Option Addr) (nb cb nj cj:Nat) (bs:List Int) (js:List M.Jb) (now uB:Int) (t' id s' l' tr m0 I J Q V T Y Z L U A B t1 t2 p1 p2 p3 p4:Int) (a1 a2 a3 a4:Option Addr) (n1 n2 n3 n4 c1 c2 c3 c4:Nat) (z1 z2 z3 z4:List Int) (w:World) (hz:cH w ab nb cb aj nj cj bs js) (h1:aw w a1 n1 c1 z1) (h2:aw w a2 n2 c2 z2) (h3:aw w a3 n3 c3 z3) (h4:aw w a4 n4 c4 z4) (l1:n1≤1048576) (l2:n2≤1048576) (l3:n3≤1048576) (l4:n4≤1048576),
  Calls prog 12 #[.agg (aI now uB ab nb cb aj nj cj).toArray,.agg (bG t' id s' l' tr m0 I J Q V T Y Z L U A B t1 t2 p1 p2 p3 p4 a1 n1 c1 a2 n2 c2 a3 n3 c3 a4 n4 c4).toArray] w (bC w w.heap.size (aZ now uB bs js t' id s' l' tr m0 I J Q V T Y Z L U A B t1 t2 p1 p2 p3 p4 n1 n2 n3 n4 z1 z2 z3 z4))
set_option maxRecDepth 10000 in
def sK:um iS:=by
 apply um.mk
 case h=>
  intro key0 ab aj nb cb nj cj bs js Aa Ba Na id Ga Ia Ha m0 I J Q V T Y Z L U Ja Ka t1 t2 p1 p2 p3 p4 a1 a2 a3 a4 n1 n2 n3 n4 c1 c2 c3 c4 z1 z2 z3 z4 w hz h1 h2 h3 h4 l1 l2 l3 l4;have HM:=Hd hz;have S1:=Hd h1;have S2:=Hd h2;have S3:=Hd h3;have S4:=Hd h4;generalize HR:aZ Aa Ba bs js Na id Ga Ia Ha m0 I J Q V T Y Z L U Ja Ka t1 t2 p1 p2 p3 p4 n1 n2 n3 n4 z1 z2 z3 z4=r;have Eb:=Hd HR;clear hz h1 h2 h3 h4 HR;have C1:=fun W (h:cH W ab nb cb aj nj cj bs js)=>jd Aa Ba W h;generalize Qb:M.mkOk Aa Ba bs js=ok at C1;have Wa:=Hd Qb;clear Qb;go_enter func12,ntmps12;have Fb:H9 (au (((w.alloc (.cells (aI Aa Ba ab nb cb aj nj cj).toArray 27)).alloc (.cells (bG Na id Ga Ia Ha m0 I J Q V T Y Z L U Ja Ka t1 t2 p1 p2 p3 p4 a1 n1 c1 a2 n2 c2 a3 n3 c3 a4 n4 c4).toArray 37)).alloc (.cells aT.toArray 27)) w.heap.size (aI Aa Ba ab nb cb aj nj cj)):=((aO _ _ _).alloc _).alloc _;have Gb:H9 (au (((w.alloc (.cells (aI Aa Ba ab nb cb aj nj cj).toArray 27)).alloc (.cells (bG Na id Ga Ia Ha m0 I J Q V T Y Z L U Ja Ka t1 t2 p1 p2 p3 p4 a1 n1 c1 a2 n2 c2 a3 n3 c3 a4 n4 c4).toArray 37)).alloc (.cells aT.toArray 27)) (w.heap.size+1) (bG Na id Ga Ia Ha m0 I J Q V T Y Z L U Ja Ka t1 t2 p1 p2 p3 p4 a1 n1 c1 a2 n2 c2 a3 n3 c3 a4 n4 c4)):=(ba _ _ _ _).alloc _;have Hb:H9 (au (((w.alloc (.cells (aI Aa Ba ab nb cb aj nj cj).toArray 27)).alloc (.cells (bG Na id Ga Ia Ha m0 I J Q V T Y Z L U Ja Ka t1 t2 p1 p2 p3 p4 a1 n1 c1 a2 n2 c2 a3 n3 c3 a4 n4 c4).toArray 37)).alloc (.cells aT.toArray 27)) (w.heap.size+1+1) aT):=dl _ _ _ _ _;have Sa:H9 (m1 w (((w.alloc (.cells (aI Aa Ba ab nb cb aj nj cj).toArray 27)).alloc (.cells (bG Na id Ga Ia Ha m0 I J Q V T Y Z L U Ja Ka t1 t2 p1 p2 p3 p4 a1 n1 c1 a2 n2 c2 a3 n3 c3 a4 n4 c4).toArray 37)).alloc (.cells aT.toArray 27))):=(((m5 _ _).alloc (m3 _) _).alloc (by simp) _).alloc (by simp;omega) _;(go_wp2_with fail);generalize(((w.alloc (.cells (aI Aa Ba ab nb cb aj nj cj).toArray 27)).alloc (.cells (bG Na id Ga Ia Ha m0 I J Q V T Y Z L U Ja Ka t1 t2 p1 p2 p3 p4 a1 n1 c1 a2 n2 c2 a3 n3 c3 a4 n4 c4).toArray 37)).alloc (.cells aT.toArray 27))=wa at Fb Gb Hb Sa ⊢;refine(C1 _ (HM.o.below Sa.o)).mono ?_;rintro e wb ⟨rfl,hb⟩;have Pa:=Fb.b hb;have Rb:=Gb.b hb;have La:=Hb.b hb;have Qa:=Sa.t hb;clear Fb Gb Hb Sa;clear hb
  cases ok with
  | false=>
   have r0:=La.c 0;have Bc:=La.o.fr 0;have r1:=La.c 1;have Cc:=La.o.fr 1;have r2:=La.c 2;have Dc:=La.o.fr 2;have r3:=La.c 3;have Ec:=La.o.fr 3;have hr:r=(M.Mt.zero,1,0):=(by rw[←Eb.o];unfold aZ M.acted;rw[if_pos (show M.Mt.ok ⟨Aa,Ba,bs,js⟩=false from Wa.o)]);subst hr;(go_wp2_with fail);show bodyPost _ _ _ _ _ (wb.setCells (w.heap.size+1+1) 0 aT);have Ta:au (wb.setCells (w.heap.size+1+1) 0 aT) (w.heap.size+1+1) aT:=La.o.setCells aT 0 (by simp);have Xa:=cm wb (w.heap.size+1+1) 0 aT;have Ib:=Qa.o.trans (ap Xa Qa.o.size (fun z e=>by have:=m2 e;omega));have Ua:bC w w.heap.size (M.Mt.zero,1,0) (.returned (.tuple #[.agg aT.toArray,it 1,it 0])) (wb.setCells (w.heap.size+1+1) 0 aT):=⟨_,rfl,_,_,_,_,_,_,_,rfl,aV.zero _ _,rfl,Ib⟩;generalize(wb.setCells (w.heap.size+1+1) 0 aT)=wf at Ta Ua ⊢;exact m7 (aJ rfl rfl (uN wf (w.heap.size+1+1) 0 27 _ _ Ta.row underlying27 rfl (by kernel_rfl))) rfl Ua
  | true=>
   have HF:=Hd (ck Wa.o);have Fc:=Pa.c 0;have Gc:=Pa.c 1;have Hc:=Pa.c 2;have Ic:=Pa.c 3;(go_wp2_with fail);clear Fc Gc Hc Ic;have Ya:=Hd La.o.2.2;refine(qE Aa Ba _ (HM.o.below Qa.o) HF.o).mono ?_;rintro e wc ⟨v,rfl,bb,Ca,Da,jj,Ea,Fa,qs,rfl,Sb,Tb,hb⟩;have Za:=Hd hb.size;have Ub:=Pa.b hb;have Vb:=Rb.b hb;have Wb:=La.b hb;have Jb:=Qa.t hb;clear Pa Rb La Qa;have Ab:=Hd Sb;clear hb Sb;generalize wb.heap.size=bc at Ab Ya Za;have Xb:=Hd (fun g hg=>(Ab.o.lt g hg).2);have Ra:=eK wc (.cells (aI Aa Ba bb Ca Da jj Ea Fa).toArray 27);have Kb:=Ub.b Ra;have Bb:=Vb.b Ra;have Lb:=Wb.b Ra;have Cb:=Jb.t Ra;have Nb:=Hd (Ab.o.below Ra);clear Ub Vb Wb Jb Ab;clear Ra;have Db:=ct wc (aI Aa Ba bb Ca Da jj Ea Fa) 27;have hR:=Bb.o.row;(go_wp2_with(with_reducible refine aA 16 ?_ ?_;rfl));with_reducible refine fE 37 (w.heap.size+1) 0 (bG Na id Ga Ia Ha m0 I J Q V T Y Z L U Ja Ka t1 t2 p1 p2 p3 p4 a1 n1 c1 a2 n2 c2 a3 n3 c3 a4 n4 c4) hR underlying37 ?q5 ?_
   case q5=>exact⟨rfl,rfl,by kernel_rfl,_,rfl,by kernel_rfl⟩
   clear hR;have CF:=qF Na id Ga Ia Ha m0 I J Q V T Y Z L U Ja Ka t1 t2 p1 p2 p3 p4 (a1:=a1) (a2:=a2) (a3:=a3) (a4:=a4) (c1:=c1) (c2:=c2) (c3:=c3) (c4:=c4) l1 l2 l3 l4;generalize Yb:(M.formB Na id Ga Ia Ha (bQ m0 I J Q V T Y Z L U Ja Ka&&(decide (t1=0)&&decide (t2=0))) (M.Mc.ok ⟨⟨m0,I,J,Q,V,T⟩,⟨Y,Z,L,U,Ja,Ka⟩⟩) (M.sOk (t1,t2)) (M.rows Ga) (M.inB Ha 1 8) (bD p1 p2 p3 p4 n1 n2 n3 n4) (M.inB Ia 1 9) (M.inB id 1 1000000000) (M.inB Ga 0 7) (M.inB Ha 1 1000000000))=fo at CF;have Zb:=Hd Yb;clear Yb;(go_wp2_with fail);have Ac:=Hd Za.o;generalize(wc.alloc (.cells (aI Aa Ba bb Ca Da jj Ea Fa).toArray 27))=wd at Kb Bb Lb Cb Nb Db ⊢;generalize wc.heap.size=bo at Db Za Ac Xb ⊢;refine(CF _).mono ?_;rintro e we ⟨rfl,hb⟩;have Jc:=Kb.b hb;have Kc:=Bb.b hb;have Oa:=Lb.b hb;have Ob:=Cb.t hb;have Pb:=Hd (Nb.o.below hb);have Va:=Db.b hb;clear Kb Bb Lb Cb Nb Db;clear hb;clear CF
   cases fo with
   | false=>
    have r0:=Oa.c 0;have Bc:=Oa.o.fr 0;have r1:=Oa.c 1;have Cc:=Oa.o.fr 1;have r2:=Oa.c 2;have Dc:=Oa.o.fr 2;have r3:=Oa.c 3;have Ec:=Oa.o.fr 3;have o0:=Va.c 0;have o1:=Va.c 1;have o2:=Va.c 2;have o3:=Va.c 3;have hr:r=(⟨Aa,Ba,bs,js⟩,2,0):=(by rw[←Eb.o];unfold aZ M.acted;rw[if_neg (show ¬ M.Mt.ok ⟨Aa,Ba,bs,js⟩=false by rw[show M.Mt.ok ⟨Aa,Ba,bs,js⟩=true from Wa.o];simp),if_pos Zb.o]);subst hr;(go_wp2_with fail);show bodyPost _ _ _ _ _ (we.setCells (w.heap.size+1+1) 0 (aI Aa Ba bb Ca Da jj Ea Fa));have Ta:au (we.setCells (w.heap.size+1+1) 0 (aI Aa Ba bb Ca Da jj Ea Fa)) (w.heap.size+1+1) (aI Aa Ba bb Ca Da jj Ea Fa):=Oa.o.setCells (aI Aa Ba bb Ca Da jj Ea Fa) 0 (by simp);have Xa:=cm we (w.heap.size+1+1) 0 (aI Aa Ba bb Ca Da jj Ea Fa);have Ib:=Ob.o.trans (ap Xa Ob.o.size (fun z e=>by have:=m2 e;omega));have Lc:aV (we.setCells (w.heap.size+1+1) 0 (aI Aa Ba bb Ca Da jj Ea Fa)) w.heap.size bb Ca Da bs jj Ea Fa qs:=(Pb.o.grown Xa (fun g hg e=>by have:=(Pb.o.lt g hg).1;have:=m2 e;have:=Ya.o;omega)).mono (by have:=Ya.o;omega);have Ua:bC w w.heap.size (⟨Aa,Ba,bs,js⟩,2,0) (.returned (.tuple #[.agg (aI Aa Ba bb Ca Da jj Ea Fa).toArray,it 2,it 0])) (we.setCells (w.heap.size+1+1) 0 (aI Aa Ba bb Ca Da jj Ea Fa)):=⟨_,rfl,_,_,_,_,_,_,_,rfl,Lc,Tb,Ib⟩;generalize(we.setCells (w.heap.size+1+1) 0 (aI Aa Ba bb Ca Da jj Ea Fa))=wf at Ta Ua ⊢;exact m7 (aJ rfl rfl (uN wf (w.heap.size+1+1) 0 27 _ _ Ta.row underlying27 rfl (by kernel_rfl))) rfl Ua
   | true=>
    rename_i Nc Oc Pc Qc Rc Sc;revert ab aj nb cb nj cj bs js Aa Ba Na id Ga Ia Ha m0 I J Q V T Y Z L U Ja Ka t1 t2 p1 p2 p3 p4 a1 a2 a3 a4 n1 n2 n3 n4 c1 c2 c3 c4 z1 z2 z3 z4 w l1 l2 l3 l4 HM S1 S2 S3 S4 r Eb wa wb C1 Wa HF wc bb Ca Da jj Ea Fa qs Tb bc Ya Nc Oc Pc Qc Rc Sc wd bo Za Ac Xb we Jc Kc Oa Ob Pb Va Zb;exact key0.out
namespace M
theorem Right.calm{js:List Jb}(h:Right now uB bs js)(hx:x∈bs){j:Jb}(hj:j∈js){t:Tk}(ht:t∈j.ts):t.l'≠x:=by
 intro e;have hk:=((bn_rise h.bn).1 x hx).2;have h0:x≠0:=(by unfold wkOk at hk;simp at hk;omega);have hm:x∈wks js:=uO.2 ⟨j,hj,List.mem_map.2 ⟨t,List.mem_filter.2 ⟨ht,by unfold leased;simp[e,h0]⟩,e⟩⟩;have:=h.bd x hm;simp at this;exact this hx
theorem act_bad{g:Jb→Bool}{form:Bool}{m:Mt}{mc:Mc}(hw:form=true→t'≠1→t'≠4→t'≠5→t'≠2→wkOk l'=true)(h:(acted g form m t' id s' l' tr mc s).2.1=7):
  (acted g form m t' id s' l' tr mc s).1.bs.contains l'=true:=by
 unfold acted at h ⊢;by_cases h1:m.ok=false
 ·rw[if_pos h1]at h;simp at h
 rw[if_neg h1]at h ⊢;by_cases h2:form=false
 ·rw[if_pos h2]at h;simp at h
 rw[if_neg h2]at h ⊢;unfold act at h ⊢;by_cases k1:t'=1
 ·rw[if_pos k1]at h;unfold submit at h;split at h <;> simp at h
 rw[if_neg k1]at h ⊢;by_cases k4:t'=4
 ·rw[if_pos k4]at h;simp[tick]at h
 rw[if_neg k4]at h ⊢;by_cases k5:t'=5
 ·
  rw[if_pos k5]at h;unfold cancel at h;split at h;·simp at h
  split at h <;> simp at h
 rw[if_neg k5]at h ⊢;by_cases k2:t'=2
 ·
  rw[if_pos k2]at h;unfold lease at h;split at h;·simp at h
  split at h;·simp at h
  split at h <;> simp at h
 rw[if_neg k2]at h ⊢;have hk:=hw (by simpa using h2) k1 k4 k5 k2;unfold back at h ⊢
 split at h;·simp at h
 split at h;·simp at h
 split at h;·simp at h
 split at h
 case isFalse=>simp at h
 rename_i b1 b2 b3 b4;rw[if_neg b1,if_neg b2,if_neg b3,if_pos b4];show(banned m.bs l').contains l'=true;unfold wkOk at hk;simp only[uU,decide_eq_true_eq]at hk;rw[List.contains_iff_mem];unfold banned;refine List.mem_filter.2 ⟨?_,by simp⟩;have:l'=1∨l'=2∨l'=3∨l'=4∨l'=5∨l'=6∨l'=7∨l'=8∨l'=9:=(by omega);simp[this]
end M
theorem qZ(h:M.Right now uB bs js)(hx:who∈bs):aZ now uB bs js 2 0 0 who 0 0 0 0 0 0 0 0 0 0 0 0 0 0 0 0 0 0 0 0 0 0 0 [] [] [] []=(⟨now,uB,bs,js⟩,5,0):=by
 have hk:M.inB who 1 9=true:=((M.bn_rise h.bn).1 who hx).2;have Aa:M.Mt.ok ⟨now,uB,bs,js⟩=true:=M.Right.ok h;unfold aZ M.acted;rw[if_neg (by rw[Aa];simp),hk];rw[if_neg (by simp[M.formB,bQ,bD])];unfold M.act;rw[if_neg (by decide),if_neg (by decide),if_neg (by decide),if_pos rfl];unfold M.lease;rw[if_pos (by simpa using hx)]
theorem sX(hR:aZ now uB bs js t' id s' l' tr m0 I J Q V T Y Z L U A B t1 t2 p1 p2 p3 p4 n1 n2 n3 n4 z1 z2 z3 z4=R)(h7:R.2.1=7):l'∈R.1.bs:=by
 subst hR;have:=M.act_bad (fun hf k1 k4 k5 k2=>?_) h7
 ·rw[List.contains_iff_mem]at this;exact this
 ·
  rcases M.form_kinds hf with h | h | h | h | h
  ·exact absurd h.1 k1
  ·exact absurd h.1 k2
  ·exact h.2.1
  ·exact absurd h.1 k4
  ·exact absurd h.1 k5
theorem rf(hR:aZ now uB bs js t' id s' l' tr m0 I J Q V T Y Z L U A B t1 t2 p1 p2 p3 p4 n1 n2 n3 n4 z1 z2 z3 z4=R)(h1:R.2.1≠1):M.mkOk now uB bs js=true∧R.1.right:=by
 subst hR
 cases hok:M.mkOk now uB bs js with
 | false=>exact absurd (by unfold aZ M.acted;rw[if_pos (show M.Mt.ok ⟨now,uB,bs,js⟩=false from hok)]) h1
 | true=>exact⟨rfl,M.acted_right (m:=⟨now,uB,bs,js⟩) (ck hok)⟩
theorem nB{L:Bool}(h:M.formB t' id s' l' tr bare mok sok rok L non wk idk p7 mt=true)(h1:¬ t'=1)(h4:¬ t'=4)(h5:¬ t'=5):wk=true∧(t'=2∨t'=3∧idk=true∧p7=true):=by
 unfold M.formB at h;rw[if_neg h1]at h;by_cases h2:t'=2
 ·
  rw[if_pos h2]at h;simp only[uU]at h;exact⟨h.2.1,.inl h2⟩
 ·
  rw[if_neg h2]at h;by_cases h3:t'=3
  ·
   rw[if_pos h3]at h;simp only[uU]at h;exact⟨h.2.1,.inr ⟨h3,h.2.2.1,h.2.2.2.1⟩⟩
  ·
   rw[if_neg h3,if_neg h4,if_neg h5]at h;simp at h
set_option maxRecDepth 10000 in
def gm:s8 sK.p:=by
 apply s8.mk
 case h=>
  intro key1 key2 key3 key4 key5;intro ab aj nb cb nj cj bs js Aa Ba Ha id Va Ja Wa m0 I J Q V T Y Z L U Xa Ya t1 t2 p1 p2 p3 p4 a1 a2 a3 a4 n1 n2 n3 n4 c1 c2 c3 c4 z1 z2 z3 z4 w l1 l2 l3 l4 HM S1 S2 S3 S4 r Qa wa wb C1 Ra HF wc bb Ca Da jj Ea Fa qs Sa bc Ka Jb Kb Lb Nb Ob Pb wd bo Za Ab Bb we Ia La Cb Na Db Eb Oa;by_cases Pa:Ha=1
  case pos=>
   revert ab aj nb cb nj cj bs js Aa Ba Ha id Va Ja Wa m0 I J Q V T Y Z L U Xa Ya t1 t2 p1 p2 p3 p4 a1 a2 a3 a4 n1 n2 n3 n4 c1 c2 c3 c4 z1 z2 z3 z4 w l1 l2 l3 l4 HM S1 S2 S3 S4 r Qa wa wb C1 Ra HF wc bb Ca Da jj Ea Fa qs Sa bc Ka Jb Kb Lb Nb Ob Pb wd bo Za Ab Bb we Ia La Cb Na Db Eb Oa Pa;exact key1.out
  case neg=>
   by_cases Ta:Ha=4
   case pos=>
    revert ab aj nb cb nj cj bs js Aa Ba Ha id Va Ja Wa m0 I J Q V T Y Z L U Xa Ya t1 t2 p1 p2 p3 p4 a1 a2 a3 a4 n1 n2 n3 n4 c1 c2 c3 c4 z1 z2 z3 z4 w l1 l2 l3 l4 HM S1 S2 S3 S4 r Qa wa wb C1 Ra HF wc bb Ca Da jj Ea Fa qs Sa bc Ka Jb Kb Lb Nb Ob Pb wd bo Za Ab Bb we Ia La Cb Na Db Eb Oa Pa Ta;exact key2.out
   case neg=>
    by_cases Fb:Ha=5
    case pos=>
     revert ab aj nb cb nj cj bs js Aa Ba Ha id Va Ja Wa m0 I J Q V T Y Z L U Xa Ya t1 t2 p1 p2 p3 p4 a1 a2 a3 a4 n1 n2 n3 n4 c1 c2 c3 c4 z1 z2 z3 z4 w l1 l2 l3 l4 HM S1 S2 S3 S4 r Qa wa wb C1 Ra HF wc bb Ca Da jj Ea Fa qs Sa bc Ka Jb Kb Lb Nb Ob Pb wd bo Za Ab Bb we Ia La Cb Na Db Eb Oa Pa Ta Fb;exact key3.out
    case neg=>
     obtain⟨Qb,Rb⟩:=nB Oa.o Pa Ta Fb;have Sb:=Hd Qb;have Tb:=Hd Rb;clear Qb Rb;have CB:=fun W (h:aw W ab nb cb bs)=>fD (aj:=aj) (nj:=nj) (cj:=cj) Aa Ba Ja W h;generalize Ub:bs.contains Ja=bn at CB;have Gb:=Hd Ub;clear Ub;have Zb:=Ia.c 0;have Ac:=Ia.c 1;have Bc:=Ia.c 2;have Cc:=Ia.c 3;have Dc:=La.c 0;have Ec:=La.c 3;(go_wp2_with fail);clear Zb Ac Bc Cc Dc Ec;refine(CB _ (HM.o.b.below Na.o)).mono ?_;rintro e wf ⟨rfl,hb⟩;have Vb:=Ia.b hb;have Wb:=La.b hb;have Ga:=Cb.b hb;have Hb:=Na.t hb;have Ib:=Hd (Db.o.below hb);have Ua:=Eb.b hb;clear Ia La Cb Na Db Eb;clear hb;clear CB
     cases bn with
     | true=>
      have r0:=Ga.c 0;have Cd:=Ga.o.fr 0;have r1:=Ga.c 1;have Dd:=Ga.o.fr 1;have r2:=Ga.c 2;have Ed:=Ga.o.fr 2;have r3:=Ga.c 3;have Fd:=Ga.o.fr 3;have o0:=Ua.c 0;have o1:=Ua.c 1;have o2:=Ua.c 2;have o3:=Ua.c 3
      have hr:r=(⟨Aa,Ba,bs,js⟩,5,0):=by
       rw[←Qa.o];unfold aZ M.acted;rw[if_neg (show ¬ M.Mt.ok ⟨Aa,Ba,bs,js⟩=false by rw[show M.Mt.ok ⟨Aa,Ba,bs,js⟩=true from Ra.o];simp),if_neg (by rw[Oa.o];simp)];unfold M.act;rw[if_neg Pa,if_neg Ta,if_neg Fb];by_cases h2:Ha=2
       ·
        rw[if_pos h2];unfold M.lease;rw[if_pos Gb.o]
       ·
        rw[if_neg h2];unfold M.back;rw[if_pos Gb.o]
      subst hr;(go_wp2_with fail);show bodyPost _ _ _ _ _ (wf.setCells (w.heap.size+1+1) 0 (aI Aa Ba bb Ca Da jj Ea Fa));have Fc:au (wf.setCells (w.heap.size+1+1) 0 (aI Aa Ba bb Ca Da jj Ea Fa)) (w.heap.size+1+1) (aI Aa Ba bb Ca Da jj Ea Fa):=Ga.o.setCells (aI Aa Ba bb Ca Da jj Ea Fa) 0 (by simp);have Xb:=cm wf (w.heap.size+1+1) 0 (aI Aa Ba bb Ca Da jj Ea Fa);have Gc:=Hb.o.trans (ap Xb Hb.o.size (fun z e=>by have:=m2 e;omega));have Hc:aV (wf.setCells (w.heap.size+1+1) 0 (aI Aa Ba bb Ca Da jj Ea Fa)) w.heap.size bb Ca Da bs jj Ea Fa qs:=(Ib.o.grown Xb (fun g hg e=>by have:=(Ib.o.lt g hg).1;have:=m2 e;have:=Ka.o;omega)).mono (by have:=Ka.o;omega);have Ic:bC w w.heap.size (⟨Aa,Ba,bs,js⟩,5,0) (.returned (.tuple #[.agg (aI Aa Ba bb Ca Da jj Ea Fa).toArray,it 5,it 0])) (wf.setCells (w.heap.size+1+1) 0 (aI Aa Ba bb Ca Da jj Ea Fa)):=⟨_,rfl,_,_,_,_,_,_,_,rfl,Hc,Sa,Gc⟩;generalize(wf.setCells (w.heap.size+1+1) 0 (aI Aa Ba bb Ca Da jj Ea Fa))=wz at *;exact m7 (aJ rfl rfl (uN wz (w.heap.size+1+1) 0 27 _ _ Fc.row underlying27 rfl (by kernel_rfl))) rfl Ic
     | false=>
      by_cases Yb:Ha=2
      case pos=>
       rename_i Jc Kc Lc Nc Oc Pc Qc Rc Sc;revert ab aj nb cb nj cj bs js Aa Ba Ha id Va Ja Wa m0 I J Q V T Y Z L U Xa Ya t1 t2 p1 p2 p3 p4 a1 a2 a3 a4 n1 n2 n3 n4 c1 c2 c3 c4 z1 z2 z3 z4 w l1 l2 l3 l4 HM S1 S2 S3 S4 r Qa wa wb C1 Ra HF wc bb Ca Da jj Ea Fa qs Sa bc Ka wd bo Za Ab Bb we Oa Pa Ta Fb Sb Tb Jc Kc Lc Nc Oc Pc Qc Rc Sc wf Vb Wb Ga Hb Ib Ua Gb Yb;exact key4.out
      case neg=>
       rename_i Tc Uc Vc Wc Xc Yc Zc Ad Bd;revert ab aj nb cb nj cj bs js Aa Ba Ha id Va Ja Wa m0 I J Q V T Y Z L U Xa Ya t1 t2 p1 p2 p3 p4 a1 a2 a3 a4 n1 n2 n3 n4 c1 c2 c3 c4 z1 z2 z3 z4 w l1 l2 l3 l4 HM S1 S2 S3 S4 r Qa wa wb C1 Ra HF wc bb Ca Da jj Ea Fa qs Sa bc Ka wd bo Za Ab Bb we Oa Pa Ta Fb Sb Tb Tc Uc Vc Wc Xc Yc Zc Ad Bd wf Vb Wb Ga Hb Ib Ua Gb Yb;exact key5.out
set_option maxRecDepth 10000 in
theorem jF(now uB:Int)(t' id s' l' tr m0 I J Q V T Y Z L U A B t1 t2 p1 p2 p3 p4:Int)(w:World)(hz:cH w ab nb cb aj nj cj bs js)(hf:M.mkOk now uB bs js=false):
  Rt 11 #[.agg #[.int .i64 now,.int .i64 uB,.slice ab nb cb,.slice aj nj cj],.agg #[.int .i64 t',.int .i64 id,.int .i64 s',.int .i64 l',.int .i64 tr,.int .i64 m0,.int .i64 I,.int .i64 J,.int .i64 Q,.int .i64 V,.int .i64 T,.int .i64 Y,.int .i64 Z,.int .i64 L,.int .i64 U,.int .i64 A,.int .i64 B,.int .i64 t1,.int .i64 t2,.int .i64 p1,.int .i64 p2,.int .i64 p3,.int .i64 p4,.slice a1 n1 c1,.slice a2 n2 c2,.slice a3 n3 c3,.slice a4 n4 c4]] w (.tuple #[.agg #[.int .i64 0,.int .i64 0,.slice none 0 0,.slice none 0 0],.int .i64 1,.int .i64 0]):=by
 have HB:H9 (m1 w (((w.alloc (.cells (aI now uB ab nb cb aj nj cj).toArray 27)).alloc (.cells (bG t' id s' l' tr m0 I J Q V T Y Z L U A B t1 t2 p1 p2 p3 p4 a1 n1 c1 a2 n2 c2 a3 n3 c3 a4 n4 c4).toArray 37)).alloc (.cells aT.toArray 27))):=(((m5 _ _).alloc (m3 _) _).alloc (by simp) _).alloc (by simp;omega) _;have HZ:H9 (au (((w.alloc (.cells (aI now uB ab nb cb aj nj cj).toArray 27)).alloc (.cells (bG t' id s' l' tr m0 I J Q V T Y Z L U A B t1 t2 p1 p2 p3 p4 a1 n1 c1 a2 n2 c2 a3 n3 c3 a4 n4 c4).toArray 37)).alloc (.cells aT.toArray 27)) (w.heap.size+1+1) aT):=dl _ _ _ _ _;have HM:=Hd (hz.below HB.o);have C1:=rU now uB (((w.alloc (.cells (aI now uB ab nb cb aj nj cj).toArray 27)).alloc (.cells (bG t' id s' l' tr m0 I J Q V T Y Z L U A B t1 t2 p1 p2 p3 p4 a1 n1 c1 a2 n2 c2 a3 n3 c3 a4 n4 c4).toArray 37)).alloc (.cells aT.toArray 27)) HM.o hf;clear hz hf;go_enter func11,ntmps11;(go_wp2_with fail);generalize(((w.alloc (.cells (aI now uB ab nb cb aj nj cj).toArray 27)).alloc (.cells (bG t' id s' l' tr m0 I J Q V T Y Z L U A B t1 t2 p1 p2 p3 p4 a1 n1 c1 a2 n2 c2 a3 n3 c3 a4 n4 c4).toArray 37)).alloc (.cells aT.toArray 27))=wa at *;refine C1.mono ?_;rintro e wb ⟨rfl,hb⟩;have Aa:=HZ.b hb;have Ba:=HB.t hb;have r0:=Aa.c 0;have f0:=Aa.o.fr 0;have r1:=Aa.c 1;have f1:=Aa.o.fr 1;have r2:=Aa.c 2;have f2:=Aa.o.fr 2;have r3:=Aa.c 3;have f3:=Aa.o.fr 3;go_wp2;show bodyPost _ _ _ _ _ (wb.setCells (w.heap.size+1+1) 0 aT);have hL:=Aa.o.setCells aT 0 (by simp);have hB:=aM aT 0 Ba.o (show w.heap.size≤w.heap.size+1+1 by omega);generalize wb.setCells (w.heap.size+1+1) 0 aT=wf at *;exact m7 (aJ rfl rfl (uN wf (w.heap.size+1+1) 0 27 _ _ hL.row underlying27 rfl (by kernel_rfl))) rfl ⟨rfl,hB⟩
def pg(w:World)(r:M.Mt×Int×Int)(e:Ending)(w':World):Prop:=∃v i',w.heap.size≤i'∧e=.returned (.tuple #[v,.int .i64 r.2.1,.int .i64 r.2.2])∧∃ab nb cb aj nj cj qm,v=.agg #[.int .i64 r.1.now,.int .i64 r.1.next,.slice ab nb cb,.slice aj nj cj]∧aV w' i' ab nb cb r.1.bs aj nj cj qm∧qm.map (·.1)=r.1.js∧m1 w w'
set_option maxRecDepth 10000 in
theorem cw(now uB:Int)(t' id s' l' tr m0 I J Q V T Y Z L U A B t1 t2 p1 p2 p3 p4:Int)(w:World)(hz:cH w ab nb cb aj nj cj bs js)(hf:M.mkOk now uB bs js=true)(iv:Value)(of:Bool)(CA:∀W,Rt 37 #[.agg #[.int .i64 t',.int .i64 id,.int .i64 s',.int .i64 l',.int .i64 tr,.int .i64 m0,.int .i64 I,.int .i64 J,.int .i64 Q,.int .i64 V,.int .i64 T,.int .i64 Y,.int .i64 Z,.int .i64 L,.int .i64 U,.int .i64 A,.int .i64 B,.int .i64 t1,.int .i64 t2,.int .i64 p1,.int .i64 p2,.int .i64 p3,.int .i64 p4,.slice a1 n1 c1,.slice a2 n2 c2,.slice a3 n3 c3,.slice a4 n4 c4]] W (.tuple #[iv,.bool of]))(N X:Int)(BS:List Int)(JS:List M.Jb)(c d:Int)
 (CD:of=true→∀W i' h ab nb cb ai ni ci mb qs,bh W i' h now uB ab nb cb bs ai ni ci mb qs→qs.map (fun q:HJ=>q.j)=js→i'≤W.heap.size→m1 w W→Calls prog 39 #[.pointer (some ⟨h,0,none⟩),iv] W (fM W i' h (⟨N,X,BS,JS⟩,c,d)))(HR:of=true→M.Right N X BS JS)(r:M.Mt×Int×Int)(hr:(of=false→r=(⟨now,uB,bs,js⟩,2,0))∧(of=true→r=(⟨N,X,BS,JS⟩,c,d))):
  Calls prog 11 #[.agg (aI now uB ab nb cb aj nj cj).toArray,.agg (bG t' id s' l' tr m0 I J Q V T Y Z L U A B t1 t2 p1 p2 p3 p4 a1 n1 c1 a2 n2 c2 a3 n3 c3 a4 n4 c4).toArray] w (pg w r):=by
 have Va:=Hd hr;have Eb:=Hd CD;have Fb:=Hd HR;have HB:H9 (m1 w (((w.alloc (.cells (aI now uB ab nb cb aj nj cj).toArray 27)).alloc (.cells (bG t' id s' l' tr m0 I J Q V T Y Z L U A B t1 t2 p1 p2 p3 p4 a1 n1 c1 a2 n2 c2 a3 n3 c3 a4 n4 c4).toArray 37)).alloc (.cells aT.toArray 27))):=(((m5 _ _).alloc (m3 _) _).alloc (by simp) _).alloc (by simp;omega) _;have HA:H9 (au (((w.alloc (.cells (aI now uB ab nb cb aj nj cj).toArray 27)).alloc (.cells (bG t' id s' l' tr m0 I J Q V T Y Z L U A B t1 t2 p1 p2 p3 p4 a1 n1 c1 a2 n2 c2 a3 n3 c3 a4 n4 c4).toArray 37)).alloc (.cells aT.toArray 27)) (w.heap.size+1) (bG t' id s' l' tr m0 I J Q V T Y Z L U A B t1 t2 p1 p2 p3 p4 a1 n1 c1 a2 n2 c2 a3 n3 c3 a4 n4 c4)):=(ba _ _ _ _).alloc _;have HZ:H9 (au (((w.alloc (.cells (aI now uB ab nb cb aj nj cj).toArray 27)).alloc (.cells (bG t' id s' l' tr m0 I J Q V T Y Z L U A B t1 t2 p1 p2 p3 p4 a1 n1 c1 a2 n2 c2 a3 n3 c3 a4 n4 c4).toArray 37)).alloc (.cells aT.toArray 27)) (w.heap.size+1+1) aT):=dl _ _ _ _ _;have HM:=Hd (hz.below HB.o);have C1:=qr now uB (((w.alloc (.cells (aI now uB ab nb cb aj nj cj).toArray 27)).alloc (.cells (bG t' id s' l' tr m0 I J Q V T Y Z L U A B t1 t2 p1 p2 p3 p4 a1 n1 c1 a2 n2 c2 a3 n3 c3 a4 n4 c4).toArray 37)).alloc (.cells aT.toArray 27)) HM.o hf;have Wa:=Hd (ck hf);have Na:=Hd HZ.o.2.2;have Oa:=Hd HB.o.size;clear hz hf;go_enter func11,ntmps11;(go_wp2_with fail);generalize(((w.alloc (.cells (aI now uB ab nb cb aj nj cj).toArray 27)).alloc (.cells (bG t' id s' l' tr m0 I J Q V T Y Z L U A B t1 t2 p1 p2 p3 p4 a1 n1 c1 a2 n2 c2 a3 n3 c3 a4 n4 c4).toArray 37)).alloc (.cells aT.toArray 27))=wa at *;refine C1.mono ?_;rintro e wb ⟨hp,Ba,Ca,Da,ai,ni,ci,mb,qs,rfl,hh,Gb,hb⟩;have Xa:=HZ.b hb;have Ya:=HA.b hb;have Pa:=HB.t hb;have Za:=Hd hh;have Ha:=Hd Gb;have Ab:=hb.size;(go_wp2_with(with_reducible refine aA 21 ?_ ?_;rfl));refine fE 37 (w.heap.size+1) 0 (bG t' id s' l' tr m0 I J Q V T Y Z L U A B t1 t2 p1 p2 p3 p4 a1 n1 c1 a2 n2 c2 a3 n3 c3 a4 n4 c4) Ya.o.row underlying37 ⟨rfl,rfl,by kernel_rfl,_,rfl,by kernel_rfl⟩ ?_;(go_wp2_with fail);refine(CA wb).mono ?_;rintro e wc ⟨rfl,hb⟩;have Ka:=Xa.b hb;have La:=Pa.t hb;have Qa:=Hd (Za.o.below hb);have Ra:=m8 Ab hb.size;clear hb Xa Pa Za Ya CA Ab
 cases of with
 | false=>
  have Sa:(qs.map (fun q:HJ=>q.j.id)).Pairwise (·< ·):=(by have:=Wa.o.rise;rw[←Ha.o,List.pairwise_map]at this;exact List.pairwise_map.2 this);have Ta:ni≤1000:=(by have:=Wa.o.few;rw[←Ha.o,List.length_map,Qa.o.count]at this;omega);obtain rfl:=Va.o.1 rfl;(go_wp2_with fail);refine(kj wc Qa.o Sa Ta Ra).mono ?_;rintro e wx ⟨Ea,Fa,Ga,qm,rfl,hM,hJ,Ja⟩;have Aa:=Ka.b Ja;have Ua:=La.t Ja;have Ia:H9 (aV wx wa.heap.size Ba Ca Da bs Ea Fa Ga qm∧qm.map (·.1)=js):=⟨hM,hJ.trans Ha.o⟩;have r0:=Aa.c 0;have f0:=Aa.o.fr 0;have r1:=Aa.c 1;have f1:=Aa.o.fr 1;have r2:=Aa.c 2;have f2:=Aa.o.fr 2;have r3:=Aa.c 3;have f3:=Aa.o.fr 3;go_wp2;show bodyPost _ _ _ _ _ (wx.setCells (w.heap.size+1+1) 0 (aI now uB Ba Ca Da Ea Fa Ga));have hL:=Aa.o.setCells (aI now uB Ba Ca Da Ea Fa Ga) 0 (by simp);have hg:=cm wx (w.heap.size+1+1) 0 (aI now uB Ba Ca Da Ea Fa Ga);have hB:=aM (aI now uB Ba Ca Da Ea Fa Ga) 0 Ua.o (show w.heap.size≤(w.heap.size+1+1) by omega);have hM:=Ia.o.1.grown hg (fun g hg2 e=>by have:=(Ia.o.1.lt g hg2).1;have:=m2 e;have:=Na.o;omega);generalize(wx.setCells (w.heap.size+1+1) 0 (aI now uB Ba Ca Da Ea Fa Ga))=wf at *;clear hg;exact m7 (aJ rfl rfl (uN wf (w.heap.size+1+1) 0 27 _ _ hL.row underlying27 rfl (by kernel_rfl))) rfl ⟨_,wa.heap.size,Oa.o,rfl,_,_,_,_,_,_,_,rfl,hM,Ia.o.2,hB⟩
 | true=>
  obtain rfl:=Va.o.2 rfl;have C2:=Eb.o rfl wc wa.heap.size hp Ba Ca Da ai ni ci mb qs Qa.o Ha.o Ra La.o;have Bb:=Hd (Fb.o rfl);(go_wp2_with fail);refine C2.mono ?_;rintro e wd ⟨rfl,⟨Ba,Ca,Da,ai,ni,ci,mb,qs,hH,Hb⟩,hb⟩;have Ha:H9 (qs.map (fun q:HJ=>q.j)=JS):=Hb;have Cb:H9 (bh wd wa.heap.size hp N X Ba Ca Da BS ai ni ci mb qs):=hH;have Ib:=Hd (Ka.o.below hb Na.o);have Db:=Hd (La.o.trans (hb.mono Oa.o));have Kb:=m8 Ra hb.size;have Ka:=Ib;have Sa:(qs.map (fun q:HJ=>q.j.id)).Pairwise (·< ·):=(by have:=Bb.o.rise;rw[←Ha.o,List.pairwise_map]at this;exact List.pairwise_map.2 this);have Ta:ni≤1000:=(by have:=Bb.o.few;rw[←Ha.o,List.length_map,Cb.o.count]at this;omega);(go_wp2_with fail);refine(kj wd Cb.o Sa Ta Kb).mono ?_;rintro e wx ⟨Ea,Fa,Ga,qm,rfl,hM,hJ,Ja⟩;have Aa:=Ka.b Ja;have Ua:=Db.t Ja;have Ia:H9 (aV wx wa.heap.size Ba Ca Da BS Ea Fa Ga qm∧qm.map (·.1)=JS):=⟨hM,hJ.trans Ha.o⟩;have r0:=Aa.c 0;have f0:=Aa.o.fr 0;have r1:=Aa.c 1;have f1:=Aa.o.fr 1;have r2:=Aa.c 2;have f2:=Aa.o.fr 2;have r3:=Aa.c 3;have f3:=Aa.o.fr 3;go_wp2;show bodyPost _ _ _ _ _ (wx.setCells (w.heap.size+1+1) 0 (aI N X Ba Ca Da Ea Fa Ga));have hL:=Aa.o.setCells (aI N X Ba Ca Da Ea Fa Ga) 0 (by simp);have hg:=cm wx (w.heap.size+1+1) 0 (aI N X Ba Ca Da Ea Fa Ga);have hB:=aM (aI N X Ba Ca Da Ea Fa Ga) 0 Ua.o (show w.heap.size≤(w.heap.size+1+1) by omega);have hM:=Ia.o.1.grown hg (fun g hg2 e=>by have:=(Ia.o.1.lt g hg2).1;have:=m2 e;have:=Na.o;omega);generalize(wx.setCells (w.heap.size+1+1) 0 (aI N X Ba Ca Da Ea Fa Ga))=wf at *;exact m7 (aJ rfl rfl (uN wf (w.heap.size+1+1) 0 27 _ _ hL.row underlying27 rfl (by kernel_rfl))) rfl ⟨_,wa.heap.size,Oa.o,rfl,_,_,_,_,_,_,_,rfl,hM,Ia.o.2,hB⟩
end Go.Proofs.YtjcjonncaknhnaaGreatDoor
