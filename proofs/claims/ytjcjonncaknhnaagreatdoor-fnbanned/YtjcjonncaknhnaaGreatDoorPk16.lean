import Derived.Test.YtjcjonncaknhnaaGreatDoorPk14
import Derived.Test.YtjcjonncaknhnaaGreatDoorPk15
namespace Go.Proofs.YtjcjonncaknhnaaGreatDoor
open Go.RowKit Go.Proofs.Tryz
set_option linter.unusedSimpArgs false
set_option maxHeartbeats 32000000
set_option maxRecDepth 10000
variable {id s' l' tr now uB:Int}{bare mok sok rok non wk idk p7:Bool}{bs:List Int}
theorem rO:gm.p4:=by
 intro ab aj nb cb nj cj bs js Ca Da Ib id Jb Fa Kb m0 I J Q V T Y Z L U Lb Nb t1 t2 p1 p2 p3 p4 a1 a2 a3 a4 n1 n2 n3 n4 c1 c2 c3 c4 z1 z2 z3 z4 w l1 l2 l3 l4 HM S1 S2 S3 S4 r Na wa wb C1 Oa HF wc bb Ob Pb jj Qb Rb qs Ga bc Ea wd bo Sb Pa Tb we Qa Ub Vb Wb Xb Yb Zb Ac Bc Cc Dc Ec Fc Gc Hc wf Ic Ha Ra Sa Ta Ba Ua Va;subst Va
 have hr:r=M.lease ⟨Ca,Da,bs,js⟩ Fa:=by
  rw[←Na.o];unfold aZ M.acted;rw[if_neg (show ¬ M.Mt.ok ⟨Ca,Da,bs,js⟩=false by rw[show M.Mt.ok ⟨Ca,Da,bs,js⟩=true from Oa.o];simp),if_neg (by rw[Qa.o];simp)];unfold M.act;rw[if_neg (by decide),if_neg (by decide),if_neg (by decide),if_pos rfl]
 have Wa:=Ha.c 0;have Xa:=Ha.c 3;have o0:=Ba.c 0;have o1:=Ba.c 1;have o2:=Ba.c 2;have o3:=Ba.c 3;(go_wp2_with fail);clear o0 o1 o2 o3 Wa Xa;have Ya:H9 (bc≤wf.heap.size):=(by have h9:=Ba.o.2.2;have:=Pa.o;show bc≤_;omega);refine(oD Ca Da Fa _ Ta.o Ya.o (by rw[Ga];exact HF.o) Ua.o).mono ?_;rw[Ga,←hr];rintro e wg ⟨v,rfl,eb,en,ec,fb,fn,fc,Ia,rfl,hM,Za,hb⟩;have Ja:=Sa.o.trans (hb.mono (by have:=Ea.o;omega));have Aa:=Ra.o.below hb Ea.o;have Ka:=Hd hM;generalize Ab:r.1.now=nw;generalize Bb:r.1.next=nx;generalize Cb:r.2.1=cd;generalize Db:r.2.2=td;clear hr hM;have r0:=Aa.c 0;have Jc:=Aa.fr 0;have r1:=Aa.c 1;have Kc:=Aa.fr 1;have r2:=Aa.c 2;have Lc:=Aa.fr 2;have r3:=Aa.c 3;have Nc:=Aa.fr 3;(go_wp2_with fail);show bodyPost _ _ _ _ _ (wg.setCells (w.heap.size+1+1) 0 (aI nw nx eb en ec fb fn fc));have Eb:au (wg.setCells (w.heap.size+1+1) 0 (aI nw nx eb en ec fb fn fc)) (w.heap.size+1+1) (aI nw nx eb en ec fb fn fc):=Aa.setCells (aI nw nx eb en ec fb fn fc) 0 (by simp);have La:=cm wg (w.heap.size+1+1) 0 (aI nw nx eb en ec fb fn fc);have Fb:=Ja.trans (ap La Ja.size (fun z e=>by have:=m2 e;omega));have Gb:aV (wg.setCells (w.heap.size+1+1) 0 (aI nw nx eb en ec fb fn fc)) w.heap.size eb en ec r.1.bs fb fn fc Ia:=(Ka.o.grown La (fun g hg e=>by have:=(Ka.o.lt g hg).1;have:=m2 e;have:=Ea.o;omega)).mono (by have:=Ea.o;omega);have Hb:bC w w.heap.size r (.returned (.tuple #[.agg (aI nw nx eb en ec fb fn fc).toArray,it cd,it td])) (wg.setCells (w.heap.size+1+1) 0 (aI nw nx eb en ec fb fn fc)):=⟨.agg (aI nw nx eb en ec fb fn fc).toArray,by rw[Cb,Db],eb,en,ec,fb,fn,fc,Ia,by rw[Ab,Bb],Gb,Za,Fb⟩;generalize(wg.setCells (w.heap.size+1+1) 0 (aI nw nx eb en ec fb fn fc))=wz at *;exact m7 (aJ rfl rfl (uN wz (w.heap.size+1+1) 0 27 _ _ Eb.row underlying27 rfl (by kernel_rfl))) rfl Hb
theorem pV:gm.p5:=by
 intro ab aj nb cb nj cj bs js Ea Fa Ua id Ba Ga Ja m0 I J Q V T Y Z L U Ka La t1 t2 p1 p2 p3 p4 a1 a2 a3 a4 n1 n2 n3 n4 c1 c2 c3 c4 z1 z2 z3 z4 w l1 l2 l3 l4 HM S1 S2 S3 S4 r Va wa wb C1 Wa HF wc bb Xa Ya jj Za Ab qs Bb bc Ha wd bo Wb Cb Xb we Db Yb Zb Ac Eb Fb Bc Cc Dc Ec Fc Gc Hc Ic Jc wf Kc Na Gb Ca Hb Da Ib Jb;obtain⟨rfl,Lc,Ia⟩:Ua=3∧M.inB id 1 1000000000=true∧M.inB Ba 0 7=true:=Fb.o.resolve_left Jb;unfold M.inB at Ia;simp only[uU,decide_eq_true_eq]at Ia;have Kb:Ga≠0:=by have h9:=Eb.o;unfold M.inB at h9;simp only[uU,decide_eq_true_eq]at h9;omega
 have hr:r=M.back (cr Ba ⟨(p1,p2),(p3,p4),z1,z2,z3,z4⟩) ⟨Ea,Fa,bs,js⟩ Ga id Ba:=by
  rw[←Va.o];unfold aZ M.acted;rw[if_neg (show ¬ M.Mt.ok ⟨Ea,Fa,bs,js⟩=false by rw[show M.Mt.ok ⟨Ea,Fa,bs,js⟩=true from Wa.o];simp),if_neg (by rw[Db.o];simp)];unfold M.act;rw[if_neg (by decide),if_neg (by decide),if_neg (by decide),if_neg (by decide)]
 have Nc:=Na.c 0;have o0:=Da.c 0;have o1:=Da.c 1;have o2:=Da.c 2;have o3:=Da.c 3;have hR:=Na.o.row;(go_wp2_with(with_reducible refine aA 146 ?_ ?_;rfl));with_reducible refine fE 37 (w.heap.size+1) 0 (bG 3 id Ba Ga Ja m0 I J Q V T Y Z L U Ka La t1 t2 p1 p2 p3 p4 a1 n1 c1 a2 n2 c2 a3 n3 c3 a4 n4 c4) hR underlying37 ?q5 ?_
 case q5=>exact⟨rfl,rfl,by kernel_rfl,_,rfl,by kernel_rfl⟩
 (go_wp2_with fail);have Lb:H9 (bc≤wf.heap.size):=(by have h9:=Da.o.2.2;have:=Cb.o;show bc≤_;omega);refine(mB bc bb jj Xa Ya Za Ab bs qs Ea Fa 3 id Ba Ga Ja m0 I J Q V T Y Z L U Ka La t1 t2 p1 p2 p3 p4 a1 a2 a3 a4 n1 n2 n3 n4 c1 c2 c3 c4 z1 z2 z3 z4 _ Hb.o Lb.o (S1.o.below Ca.o) (S2.o.below Ca.o) (S3.o.below Ca.o) (S4.o.below Ca.o) l1 l2 l3 l4 Ia.1 Ia.2).mono ?_;intro e wg Oa;have Pa:=Oa.act Kb Ib.o;clear Oa;rw[Bb,←hr]at Pa;obtain⟨v,rfl,eb,en,ec,fb,fn,fc,Qa,rfl,hM,Nb,hb⟩:=Pa;have Ra:=Ca.o.trans (hb.mono (by have:=Ha.o;omega));have Aa:=Gb.o.below hb Ha.o;have Sa:=Hd hM;generalize Ob:r.1.now=nw;generalize Pb:r.1.next=nx;generalize Qb:r.2.1=cd;generalize Rb:r.2.2=td;have r0:=Aa.c 0;have Oc:=Aa.fr 0;have r1:=Aa.c 1;have Pc:=Aa.fr 1;have r2:=Aa.c 2;have Qc:=Aa.fr 2;have r3:=Aa.c 3;have Rc:=Aa.fr 3;(go_wp2_with fail);show bodyPost _ _ _ _ _ (wg.setCells (w.heap.size+1+1) 0 (aI nw nx eb en ec fb fn fc));have Sb:au (wg.setCells (w.heap.size+1+1) 0 (aI nw nx eb en ec fb fn fc)) (w.heap.size+1+1) (aI nw nx eb en ec fb fn fc):=Aa.setCells (aI nw nx eb en ec fb fn fc) 0 (by simp);have Ta:=cm wg (w.heap.size+1+1) 0 (aI nw nx eb en ec fb fn fc);have Tb:=Ra.trans (ap Ta Ra.size (fun z e=>by have:=m2 e;omega));have Ub:aV (wg.setCells (w.heap.size+1+1) 0 (aI nw nx eb en ec fb fn fc)) w.heap.size eb en ec r.1.bs fb fn fc Qa:=(Sa.o.grown Ta (fun g hg e=>by have:=(Sa.o.lt g hg).1;have:=m2 e;have:=Ha.o;omega)).mono (by have:=Ha.o;omega);have Vb:bC w w.heap.size r (.returned (.tuple #[.agg (aI nw nx eb en ec fb fn fc).toArray,it cd,it td])) (wg.setCells (w.heap.size+1+1) 0 (aI nw nx eb en ec fb fn fc)):=⟨.agg (aI nw nx eb en ec fb fn fc).toArray,by rw[Qb,Rb],eb,en,ec,fb,fn,fc,Qa,by rw[Ob,Pb],Ub,Nb,Tb⟩;generalize(wg.setCells (w.heap.size+1+1) 0 (aI nw nx eb en ec fb fn fc))=wz at *;exact m7 (aJ rfl rfl (uN wz (w.heap.size+1+1) 0 27 _ _ Sb.row underlying27 rfl (by kernel_rfl))) rfl Vb
theorem nC{L:Bool}(h:M.formB 4 id s' l' tr bare mok sok rok L non wk idk p7 (M.inB tr 1 1000000000)=true):1≤tr∧tr≤1000000000:=by
 unfold M.formB at h;simp only[show ¬ (4:Int)=1 by decide,show ¬ (4:Int)=2 by decide,show ¬ (4:Int)=3 by decide,if_false,if_true,uU]at h;have h9:M.inB tr 1 1000000000=true:=(by simp_all);unfold M.inB at h9;simp only[uU,decide_eq_true_eq]at h9;exact h9
theorem ln(n:Int):br n 0=M.dueT n:=by
 funext t
 unfold br M.dueT M.leased;by_cases h:t.l'=0 <;> simp[h]
theorem sL:gm.p2:=by
 intro ab aj nb cb nj cj bs js Ba Aa Ub id Vb Wb Ca m0 I J Q V T Y Z L U Xb Yb t1 t2 p1 p2 p3 p4 a1 a2 a3 a4 n1 n2 n3 n4 c1 c2 c3 c4 z1 z2 z3 z4 w l1 l2 l3 l4 HM S1 S2 S3 S4 r Gb wa wb C1 Hb HF wc bb Da Ea jj Fa Ga qs Xa bc Ia Zb Ac Bc Cc Dc Ec wd bo Fc La Ya we Ib Za Ab Qa Bb Ka Cb Gc Jb;subst Jb;obtain⟨Hc,Ic⟩:=nC Cb.o;have Jc:=HF.o.now0;have Kc:=HF.o.now1
 have hr:r=M.tick ⟨Ba,Aa,bs,js⟩ Ca:=by
  rw[←Gb.o];unfold aZ M.acted;rw[if_neg (show ¬ M.Mt.ok ⟨Ba,Aa,bs,js⟩=false by rw[show M.Mt.ok ⟨Ba,Aa,bs,js⟩=true from Hb.o];simp),if_neg (by rw[Cb.o];simp)];unfold M.act;rw[if_neg (by decide),if_pos rfl]
 have Db:=Hd hr;have Kb:=Za.c 0;have Lb:=Za.c 4;have Nb:=Ib.c 0;have o0:=Ka.c 0;have o1:=Ka.c 1;have o2:=Ka.c 2;have o3:=Ka.c 3;have Ob:=Ka.o.fr 0;have Pb:IntKind.i64.wrap (Ba+Ca)=Ba+Ca:=(by rw[uQ];omega);(go_wp2_with fail);clear o0 o1 o2 o3 Kb Lb Nb Ob Pb
 have hr:r=(⟨(Ba+Ca),Aa,bs,js.map (M.freeJ (M.dueT (Ba+Ca)))⟩,0,0):=(by rw[Db.o];unfold M.tick M.tickN;dsimp only;rw[if_pos (by omega)]);subst hr;have Ja:we.grownBy (we.setCell ⟨bo,0,none⟩ (it (Ba+Ca))) (some bo):=aU _ _ _;have Ra:=Bb.o.grown Ja (fun g hg e=>by have:=Ya.o g hg;have:=m2 e;omega);have Sa:=Ab.o.grown Ja (fun e=>by have:=m2 e;have:=Ia.o;have:=La.o;omega);have Ta:=Qa.o.trans (ap Ja Qa.o.size (fun z e=>by have:=m2 e;have:=Ia.o;have:=La.o;omega));have Ua:bc≤(we.setCell ⟨bo,0,none⟩ (it (Ba+Ca))).heap.size:=(by have h9:=Ka.o.2.2;have h8:=Ja.size;have:=La.o;omega);generalize(we.setCell ⟨bo,0,none⟩ (it (Ba+Ca)))=wg at *;refine(ip (Ba+Ca) Aa 0 _ Ra Ua).mono ?_;rintro e wh ⟨rfl,hM,_,hb⟩;have Na:=Ta.trans (hb.mono (by have:=Ia.o;omega));have Ha:=Sa.below hb Ia.o;have Oa:=Hd hM;have hq':(qs.map (MQ.fr (br (Ba+Ca) 0))).map (·.1)=js.map (M.freeJ (M.dueT (Ba+Ca))):=(by rw[ln,←Xa,List.map_map,List.map_map];rfl);have r0:=Ha.c 0;have Qb:=Ha.fr 0;have r1:=Ha.c 1;have Rb:=Ha.fr 1;have r2:=Ha.c 2;have Sb:=Ha.fr 2;have r3:=Ha.c 3;have Tb:=Ha.fr 3;(go_wp2_with fail);show bodyPost _ _ _ _ _ (wh.setCells (w.heap.size+1+1) 0 (aI (Ba+Ca) Aa bb Da Ea jj Fa Ga));have Eb:au (wh.setCells (w.heap.size+1+1) 0 (aI (Ba+Ca) Aa bb Da Ea jj Fa Ga)) (w.heap.size+1+1) (aI (Ba+Ca) Aa bb Da Ea jj Fa Ga):=Ha.setCells (aI (Ba+Ca) Aa bb Da Ea jj Fa Ga) 0 (by simp);have Pa:=cm wh (w.heap.size+1+1) 0 (aI (Ba+Ca) Aa bb Da Ea jj Fa Ga);have Va:=Na.trans (ap Pa Na.size (fun z e=>by have:=m2 e;omega));have Wa:aV (wh.setCells (w.heap.size+1+1) 0 (aI (Ba+Ca) Aa bb Da Ea jj Fa Ga)) w.heap.size bb Da Ea bs jj Fa Ga (qs.map (MQ.fr (br (Ba+Ca) 0))):=(Oa.o.grown Pa (fun g hg e=>by have:=(Oa.o.lt g hg).1;have:=m2 e;have:=Ia.o;omega)).mono (by have:=Ia.o;omega);have Fb:bC w w.heap.size (⟨(Ba+Ca),Aa,bs,js.map (M.freeJ (M.dueT (Ba+Ca)))⟩,0,0) (.returned (.tuple #[.agg (aI (Ba+Ca) Aa bb Da Ea jj Fa Ga).toArray,it 0,it 0])) (wh.setCells (w.heap.size+1+1) 0 (aI (Ba+Ca) Aa bb Da Ea jj Fa Ga)):=⟨_,rfl,_,_,_,_,_,_,_,rfl,Wa,hq',Va⟩;generalize(wh.setCells (w.heap.size+1+1) 0 (aI (Ba+Ca) Aa bb Da Ea jj Fa Ga))=wz at *
 rotate_left
 have hr:r=(⟨1000000000,Aa,bs,js.map (M.freeJ (M.dueT 1000000000))⟩,0,0):=(by rw[Db.o];unfold M.tick M.tickN;dsimp only;rw[if_neg (by omega)]);subst hr;have Ja:we.grownBy (we.setCell ⟨bo,0,none⟩ (it 1000000000)) (some bo):=aU _ _ _;have Ra:=Bb.o.grown Ja (fun g hg e=>by have:=Ya.o g hg;have:=m2 e;omega);have Sa:=Ab.o.grown Ja (fun e=>by have:=m2 e;have:=Ia.o;have:=La.o;omega);have Ta:=Qa.o.trans (ap Ja Qa.o.size (fun z e=>by have:=m2 e;have:=Ia.o;have:=La.o;omega));have Ua:bc≤(we.setCell ⟨bo,0,none⟩ (it 1000000000)).heap.size:=(by have h9:=Ka.o.2.2;have h8:=Ja.size;have:=La.o;omega);generalize(we.setCell ⟨bo,0,none⟩ (it 1000000000))=wg at *;refine(ip 1000000000 Aa 0 _ Ra Ua).mono ?_;rintro e wh ⟨rfl,hM,_,hb⟩;have Na:=Ta.trans (hb.mono (by have:=Ia.o;omega));have Ha:=Sa.below hb Ia.o;have Oa:=Hd hM;have hq':(qs.map (MQ.fr (br 1000000000 0))).map (·.1)=js.map (M.freeJ (M.dueT 1000000000)):=(by rw[ln,←Xa,List.map_map,List.map_map];rfl);have r0:=Ha.c 0;have Qb:=Ha.fr 0;have r1:=Ha.c 1;have Rb:=Ha.fr 1;have r2:=Ha.c 2;have Sb:=Ha.fr 2;have r3:=Ha.c 3;have Tb:=Ha.fr 3;(go_wp2_with fail);show bodyPost _ _ _ _ _ (wh.setCells (w.heap.size+1+1) 0 (aI 1000000000 Aa bb Da Ea jj Fa Ga));have Eb:au (wh.setCells (w.heap.size+1+1) 0 (aI 1000000000 Aa bb Da Ea jj Fa Ga)) (w.heap.size+1+1) (aI 1000000000 Aa bb Da Ea jj Fa Ga):=Ha.setCells (aI 1000000000 Aa bb Da Ea jj Fa Ga) 0 (by simp);have Pa:=cm wh (w.heap.size+1+1) 0 (aI 1000000000 Aa bb Da Ea jj Fa Ga);have Va:=Na.trans (ap Pa Na.size (fun z e=>by have:=m2 e;omega));have Wa:aV (wh.setCells (w.heap.size+1+1) 0 (aI 1000000000 Aa bb Da Ea jj Fa Ga)) w.heap.size bb Da Ea bs jj Fa Ga (qs.map (MQ.fr (br 1000000000 0))):=(Oa.o.grown Pa (fun g hg e=>by have:=(Oa.o.lt g hg).1;have:=m2 e;have:=Ia.o;omega)).mono (by have:=Ia.o;omega);have Fb:bC w w.heap.size (⟨1000000000,Aa,bs,js.map (M.freeJ (M.dueT 1000000000))⟩,0,0) (.returned (.tuple #[.agg (aI 1000000000 Aa bb Da Ea jj Fa Ga).toArray,it 0,it 0])) (wh.setCells (w.heap.size+1+1) 0 (aI 1000000000 Aa bb Da Ea jj Fa Ga)):=⟨_,rfl,_,_,_,_,_,_,_,rfl,Wa,hq',Va⟩;generalize(wh.setCells (w.heap.size+1+1) 0 (aI 1000000000 Aa bb Da Ea jj Fa Ga))=wz at *
 rotate_left
 all_goals
  exact m7 (aJ rfl rfl (uN wz (w.heap.size+1+1) 0 27 _ _ Eb.row underlying27 rfl (by kernel_rfl))) rfl Fb
theorem kC{mt:Bool}(h:M.formB 1 id s' l' tr bare mok sok rok (M.inB tr 1 8) non wk idk p7 mt=true):1≤tr∧tr≤8:=by
 rcases M.form_kinds h with⟨_,_,_,_,h⟩ | ⟨h,_⟩ | ⟨h,_⟩ | ⟨h,_⟩ | ⟨h,_⟩
 ·exact M.inB_iff.1 h
 all_goals exact absurd h (by decide)
theorem pW:gm.p1:=by
 obtain⟨i0,hi,Gd,Id,Xd⟩:=info_parts fB;obtain⟨i1,Je,Ke,Le,Ne⟩:=info_parts fg;intro ab aj nb cb nj cj bs js Ca Aa Oe id Ja Pe Zc m0 I J Q V T Y Z L U Ha Ia t1 t2 p1 p2 p3 p4 a1 a2 a3 a4 n1 n2 n3 n4 c1 c2 c3 c4 z1 z2 z3 z4 w l1 l2 l3 l4 HM S1 S2 S3 S4 r Yd wa wb C1 Zd HF wc bb Da Ea jj Ba Ka qs Wb bc Hb Qe Re Se Te Ue Ve wd bo We Jd Wc we Ib Xb Ua Yb Dc Zb Kd Ae;subst Ae;obtain⟨Be,Ce⟩:=kC Kd.o;have Ad:=HM.o.j.len;have Xe:=HF.o.few;have Ye:=HF.o.next1;have Ze:=HF.o.next0
 have hr:r=M.submit ⟨Ca,Aa,bs,js⟩ ⟨⟨m0,I,J,Q,V,T⟩,⟨Y,Z,L,U,Ha,Ia⟩⟩ (t1,t2) Ja Zc:=by
  rw[←Yd.o];unfold aZ M.acted;rw[if_neg (show ¬ M.Mt.ok ⟨Ca,Aa,bs,js⟩=false by rw[show M.Mt.ok ⟨Ca,Aa,bs,js⟩=true from Zd.o];simp),if_neg (by rw[Kd.o];simp)];unfold M.act;rw[if_pos rfl]
 have Bd:=Hd hr;clear hr;have De:=Xb.c 0;have Cd:=Ib.c 1;have Ee:=Ib.c 3;by_cases Ac:nj=6∨Aa=1000000000
 case pos=>
  have hr:r=(⟨Ca,Aa,bs,js⟩,3,0):=(by rw[Bd.o];unfold M.submit;dsimp only;rw[if_pos (by simp only[Bool.or_eq_true,decide_eq_true_eq];rw[Ad];exact Ac)]);subst hr;have o0:=Zb.c 0;have o1:=Zb.c 1;have o2:=Zb.c 2;have o3:=Zb.c 3;have r0:=Ua.c 0;have Ld:=Ua.o.fr 0;have r1:=Ua.c 1;have Nd:=Ua.o.fr 1;have r2:=Ua.c 2;have Od:=Ua.o.fr 2;have r3:=Ua.c 3;have Pd:=Ua.o.fr 3;by_cases h6:nj=6
  case pos=>
   have g6:((nj:Int)==6)=true:=(by rw[h6];decide);clear h6;(go_wp2_with fail);show bodyPost _ _ _ _ _ (we.setCells (w.heap.size+1+1) 0 (aI Ca Aa bb Da Ea jj Ba Ka));have Jb:au (we.setCells (w.heap.size+1+1) 0 (aI Ca Aa bb Da Ea jj Ba Ka)) (w.heap.size+1+1) (aI Ca Aa bb Da Ea jj Ba Ka):=Ua.o.setCells (aI Ca Aa bb Da Ea jj Ba Ka) 0 (by simp);have Ra:=cm we (w.heap.size+1+1) 0 (aI Ca Aa bb Da Ea jj Ba Ka);have Za:=Yb.o.trans (ap Ra Yb.o.size (fun z e=>by have:=m2 e;omega));have Ab:aV (we.setCells (w.heap.size+1+1) 0 (aI Ca Aa bb Da Ea jj Ba Ka)) w.heap.size bb Da Ea bs jj Ba Ka qs:=(Dc.o.grown Ra (fun g hg e=>by have:=(Dc.o.lt g hg).1;have:=m2 e;have:=Hb.o;omega)).mono (by have:=Hb.o;omega);have Kb:bC w w.heap.size (⟨Ca,Aa,bs,js⟩,3,0) (.returned (.tuple #[.agg (aI Ca Aa bb Da Ea jj Ba Ka).toArray,it 3,it 0])) (we.setCells (w.heap.size+1+1) 0 (aI Ca Aa bb Da Ea jj Ba Ka)):=⟨_,rfl,_,_,_,_,_,_,_,rfl,Ab,Wb,Za⟩;generalize(we.setCells (w.heap.size+1+1) 0 (aI Ca Aa bb Da Ea jj Ba Ka))=wz at *;exact m7 (aJ rfl rfl (uN wz (w.heap.size+1+1) 0 27 _ _ Jb.row underlying27 rfl (by kernel_rfl))) rfl Kb
  case neg=>
   have Qd:=Ac.resolve_left h6;have g6:((nj:Int)==6)=false:=(by simp;omega);have g9:(Aa==1000000000)=true:=(by simp[Qd]);clear Qd Ac;(go_wp2_with fail);show bodyPost _ _ _ _ _ (we.setCells (w.heap.size+1+1) 0 (aI Ca Aa bb Da Ea jj Ba Ka));have Jb:au (we.setCells (w.heap.size+1+1) 0 (aI Ca Aa bb Da Ea jj Ba Ka)) (w.heap.size+1+1) (aI Ca Aa bb Da Ea jj Ba Ka):=Ua.o.setCells (aI Ca Aa bb Da Ea jj Ba Ka) 0 (by simp);have Ra:=cm we (w.heap.size+1+1) 0 (aI Ca Aa bb Da Ea jj Ba Ka);have Za:=Yb.o.trans (ap Ra Yb.o.size (fun z e=>by have:=m2 e;omega));have Ab:aV (we.setCells (w.heap.size+1+1) 0 (aI Ca Aa bb Da Ea jj Ba Ka)) w.heap.size bb Da Ea bs jj Ba Ka qs:=(Dc.o.grown Ra (fun g hg e=>by have:=(Dc.o.lt g hg).1;have:=m2 e;have:=Hb.o;omega)).mono (by have:=Hb.o;omega);have Kb:bC w w.heap.size (⟨Ca,Aa,bs,js⟩,3,0) (.returned (.tuple #[.agg (aI Ca Aa bb Da Ea jj Ba Ka).toArray,it 3,it 0])) (we.setCells (w.heap.size+1+1) 0 (aI Ca Aa bb Da Ea jj Ba Ka)):=⟨_,rfl,_,_,_,_,_,_,_,rfl,Ab,Wb,Za⟩;generalize(we.setCells (w.heap.size+1+1) 0 (aI Ca Aa bb Da Ea jj Ba Ka))=wz at *;exact m7 (aJ rfl rfl (uN wz (w.heap.size+1+1) 0 27 _ _ Jb.row underlying27 rfl (by kernel_rfl))) rfl Kb
 case neg=>
  have g6:((nj:Int)==6)=false:=(by simp;omega);have g9:(Aa==1000000000)=false:=(by simp;omega);have h6:¬ nj=6:=fun e=>Ac (.inl e);have h9:¬ Aa=1000000000:=fun e=>Ac (.inr e);clear Ac;obtain⟨mq,hM⟩:∃mq:Nat,Zc=(mq:Int):=⟨Zc.toNat,by omega⟩;subst hM;have Af:1≤mq:=(by omega);have Rd:mq≤8:=(by omega);clear Be Ce;(go_wp2_with fail);clear De Cd Ee g6 g9;have Pa:bc≤we.heap.size:=(by have h8:=Zb.o.2.2;have:=Jd.o;omega);have Bf:=Hb.o;have Cf:=Jd.o;refine wp_region_noPanic ?_;refine wp_region_held_drew (S:=fun W=>Below bc we W) (by kernel_rfl) ((m5 _ _).drew) (fun hHeld=>?_);have Sa:m1 we we.drew:=(m5 _ _).drew;have Qa:=Hd (Dc.o.below Sa);have Ta:=Zb.b Sa;have Oa:=Hd hHeld;clear Sa;generalize we.drew=Dd at *;refine tk 0 (.pointer (some ⟨bo,3,none⟩)) ?_ ?_
  ·intro wq Bb;go_simp
  refine tk 2 (.pointer (some ⟨w.heap.size,1,none⟩)) ?_ ?_
  ·intro wq Bb;go_simp
  refine tk 3 (it Aa) ?_ ?_
  ·intro wp Wa;have c0:=(Ib.o.below Wa (by omega)).c 1;go_simp
  refine tk 4 (.pointer (some ⟨w.heap.size+1,5,none⟩)) ?_ ?_
  ·intro wq Bb;go_simp
  have Sd:∀W:World,Below bc we W→W.rangeAt (w.heap.size+1) 5 (co m0 I J Q V T Y Z L U Ha Ia):=fun W Wa=>(Xb.o.below Wa (by omega)).mid 5 12;refine wpAnyH_take (i:=5) (v:=.agg (co m0 I J Q V T Y Z L U Ha Ia).toArray) rfl (by kernel_rfl) (by kernel_rfl) (by kernel_rfl) (fun _ _ _ h=>h) (uM (by kernel_rfl) 31 (.tmp 38) rfl (w.heap.size+1) 5 rfl (co m0 I J Q V T Y Z L U Ha Ia) _ (Sd) underlying31 rfl (by kernel_rfl)) (by assumption) ?_;clear Sd;refine tk 6 (.pointer (some ⟨w.heap.size+1,17,none⟩)) ?_ ?_
  ·intro wq Bb;go_simp
  refine tk 7 (.agg #[it t1,it t2]) ?_ ?_
  ·intro wp Wa;have c0:=(Xb.o.below Wa (by omega)).c 17;have c1:=(Xb.o.below Wa (by omega)).c 18;go_simp
  refine tk 8 (.pointer (some ⟨w.heap.size+1,2,none⟩)) ?_ ?_
  ·intro wq Bb;go_simp
  refine tk 9 (it Ja) ?_ ?_
  ·intro wp Wa;have c0:=(Xb.o.below Wa (by omega)).c 2;go_simp
  refine tk 10 (.pointer (some ⟨w.heap.size+1,4,none⟩)) ?_ ?_
  ·intro wq Bb;go_simp
  refine tk 11 (it (mq:Nat)) ?_ ?_
  ·intro wp Wa;have c0:=(Xb.o.below Wa (by omega)).c 4;go_simp
  have Td:i0.bytes*mq≤281474976710656:=(by rw[Xd];omega);have Ud:mq*3≤16777216:=(by omega);have Vd:mq≤maxLen:=(by unfold maxLen;omega);have Wd:=m8 Pa Oa.o.size;refine uT (rs:=[1,12]) (by kernel_rfl) (by simp) ?_;apply uC
  case ho=>exact rfl
  case h=>
   intro Kk hK;have c3:=Ta.c 3;with_reducible refine dc ?qg 25 (.tmp 34) ?qo ⟨bo,3,none⟩ ?qxz (.slice jj Ba Ka) (i6 c3) ?_
   case qg | qo=>exact rfl
   case qxz=>kernel_rfl
   refine hK.out _ _ Oa.o (fun hzz=>?_);clear hK Kk hzz c3;refine uT (rs:=[12]) (by kernel_rfl) (by simp) ?_;apply uC
   case ho=>exact rfl
   case hs=>exact uJ
   intro Kk hK;with_reducible refine eD ?qg (.tmp 45) 43 ?qo bc 47 i0 (.agg sf.toArray) 3 underlying43 hi Gd Id mq ?qm Ud Td Vd Wd ?_
   case qg | qo=>exact rfl
   case qm=>kernel_rfl
   intro g wm Lb Ec hg;have Ed:wm.heap.size≥Dd.heap.size:=hg.size;have Xc:=Hd (mH Rd Ec rfl);have Nb:H9 ((∀x∈bY bb jj qs,x<g)∧bo<g):=⟨fun x hx=>Lb ▸ (Qa.o.lt x hx).2,Lb ▸ Ta.o.2.2⟩;have Yc:=Hd (Qa.o.grown hg (fun _ _=>by simp));have Fc:=Hd (Ta.o.grown hg (by simp));have Xa:=Hd (Oa.o.trans (ap hg (m8 Pa Oa.o.size) (by simp)));refine hK.out _ _ Xa.o (fun hzz=>?_);clear hK Kk hzz Ec hg Ed Lb;refine tk 13 (.agg (ce Aa m0 I J Q V T Y Z L U Ha Ia t1 t2 Ja false (some ⟨g,0,none⟩) mq mq).toArray) ?_ ?_
   ·intro wq Bb;go_simp
   refine uT (rs:=[14]) (by kernel_rfl) (by simp) ?_;apply uC
   case ho=>exact rfl
   case hs=>exact uJ
   intro Kk hK;with_reducible refine dz ?qg (fun x=>.slice (some ⟨x,0,none⟩) 1 1) (wm.alloc (.cells (ce Aa m0 I J Q V T Y Z L U Ha Ia t1 t2 Ja false (some ⟨g,0,none⟩) mq mq).toArray 45)) ?qrun ?_
   case qg=>exact rfl
   case qrun=>kernel_rfl
   intro gb wn Gb Va;have La:=eK wm (.cells (ce Aa m0 I J Q V T Y Z L U Ha Ia t1 t2 Ja false (some ⟨g,0,none⟩) mq mq).toArray 45);rw[Va]at La;have Bc:=Hd (Yc.o.below La);have Ob:=Fc.b La;have Cc:=Hd (Xc.o.grown (bv La none) (fun _ _=>by simp));have Ya:=Hd (Xa.o.trans (La.mono (m8 Pa Xa.o.size)));have LJ:H9 (au wn gb (ce Aa m0 I J Q V T Y Z L U Ha Ia t1 t2 Ja false (some ⟨g,0,none⟩) mq mq)):=(by show au wn gb _;rw[←Va,←Gb];exact aO _ _ _);refine hK.out _ _ Ya.o (fun hzz=>?_);clear hK Kk hzz La Va Gb;have Qa:H9 _:=Bc;have Ta:H9 _:=Ob;have Gc:H9 _:=Cc;have Oa:H9 _:=Ya;clear Bc Ob Cc Ya;refine uT (rs:=[15]) (by kernel_rfl) (by simp) ?_;apply uC
   case ho=>exact rfl
   case hs=>exact uJ
   intro Kk hK;have Fe:qs.length=js.length:=(by rw[←Wb,List.length_map]);have Ge:Ba≤6:=(by rw[←Qa.o.jl];omega);have Hc:(ce Aa m0 I J Q V T Y Z L U Ha Ia t1 t2 Ja false (some ⟨g,0,none⟩) mq mq)=iG (⟨Aa,⟨⟨m0,I,J,Q,V,T⟩,⟨Y,Z,L,U,Ha,Ia⟩⟩,(t1,t2),Ja,false,List.replicate mq M.t0⟩,some ⟨g,0,none⟩,mq):=(by dsimp only[iG,eN];rw[uS]);have Ic:bw wn bc (some ⟨g,0,none⟩) (List.replicate mq M.t0).length mq (List.replicate mq M.t0):=(by rw[uS];exact Gc.o);have Jc:au wn gb (iG (⟨Aa,⟨⟨m0,I,J,Q,V,T⟩,⟨Y,Z,L,U,Ha,Ia⟩⟩,(t1,t2),Ja,false,List.replicate mq M.t0⟩,some ⟨g,0,none⟩,mq)):=(by rw[←Hc];exact LJ.o);have Kc:∀x∈ob (some (⟨g,0,none⟩:Addr)),x∉bY bb jj qs:=fun x hx e=>by simp[ob]at hx;have:=Nb.o.1 x e;omega
   have Lc:Ba≤1000:=(by omega);have Nc:=m8 Pa Oa.o.size;with_reducible refine lN ?qg (.tmp 35) (.tmp 48) ?qo ?qsl gb ?qnw Qa.o (⟨Aa,⟨⟨m0,I,J,Q,V,T⟩,⟨Y,Z,L,U,Ha,Ia⟩⟩,(t1,t2),Ja,false,List.replicate mq M.t0⟩,some ⟨g,0,none⟩,mq) Jc Ic Kc Lc Nc ?_
   case qg | qo=>exact rfl
   case qsl | qnw=>kernel_rfl
   intro Fa Ga w8 hP Oc Pb;have Pc:=Hd hP;have Qc:H9 (bo∉bY bb Fa (qs++[(⟨Aa,⟨⟨m0,I,J,Q,V,T⟩,⟨Y,Z,L,U,Ha,Ia⟩⟩,(t1,t2),Ja,false,List.replicate mq M.t0⟩,some ⟨g,0,none⟩,mq)])):=Oc bo Ta.o.2.2 (fun e=>by have:=Wc.o _ e;omega) (fun e=>by simp[ob]at e;have:=Nb.o.2;omega);have Cb:=Hd (Ta.o.grown Pb (fun e=>by have:=Wc.o bo (by simp[bY,bq e]);omega));have Db:=Hd (Oa.o.trans (ap Pb (m8 Pa Oa.o.size) (fun z e=>(Qa.o.lt z (by simp[bY,bq e])).1)));refine hK.out _ _ Db.o (fun _=>?_);clear hK Kk Pb hP Oc Hc Ic Jc Kc Lc Nc Qa Ta Oa Gc LJ Nb;refine tk 16 (.pointer (some ⟨bo,3,none⟩)) ?_ ?_
   ·intro wq Bb;go_simp
   refine uT (rs:=[17]) (by kernel_rfl) (by simp) ?_;apply uC
   case ho=>exact rfl
   case hs=>exact uJ
   intro Kk hK;have c3:=Cb.c 3;have f3:=Cb.o.fr 3;go_simp;have Qb:w8.grownBy (w8.setCell ⟨bo,3,none⟩ (.slice Fa (Ba+1) Ga)) (some bo):=aU _ _ _;have Rb:H9 (au (w8.setCell ⟨bo,3,none⟩ (.slice Fa (Ba+1) Ga)) bo (aI Ca Aa bb Da Ea Fa (Ba+1) Ga)):=Cb.o.set 3 (by simp) _;have Fd:=Hd (Pc.o.grown Qb (fun g hg e=>Qc.o (m2 e ▸ hg)));have Eb:=Hd (Db.o.trans (ap Qb (m8 Pa Db.o.size) (fun z e=>by have:=m2 e;omega)));refine hK.out _ _ Eb.o (fun _=>?_);clear hK Kk Qb c3 f3 Cb Pc Db;refine bg ?_;go_simp;generalize(w8.setCell ⟨bo,3,none⟩ (.slice Fa (Ba+1) Ga))=w9 at *;have Rc:=Ib.o.below Eb.o (by omega);have Cd:=Rc.c 1;have o1:=Rb.c 1;have He:=Rb.o.fr 1;have Ie:IntKind.i64.wrap (Aa+1)=Aa+1:=(by rw[uQ];omega);clear Rc;have Sb:w9.grownBy (w9.setCell ⟨bo,1,none⟩ (it (Aa+1))) (some bo):=aU _ _ _;have Fb:H9 (au (w9.setCell ⟨bo,1,none⟩ (it (Aa+1))) bo (aI Ca (Aa+1) bb Da Ea Fa (Ba+1) Ga)):=Rb.o.set 1 (by simp) _;have Sc:=Hd (Fd.o.grown Sb (fun g hg e=>Qc.o (m2 e ▸ hg)));have Tb:=Hd (Eb.o.trans (ap Sb (m8 Pa Eb.o.size) (fun z e=>by have:=m2 e;omega)));clear Sb;have Na:H9 (au (w9.setCell ⟨bo,1,none⟩ (it (Aa+1))) (w.heap.size+1+1) aT):=Ua.o.below Tb.o Hb.o;have Tc:=Ib.o.below Tb.o (by omega);have m_1':=Tc.c 1;clear Tc;have o0':=Fb.c 0;have o1':=Fb.c 1;have o2':=Fb.c 2;have o3':=Fb.c 3;have r0:=Na.c 0;have Ld:=Na.o.fr 0;have r1:=Na.c 1;have Nd:=Na.o.fr 1;have r2:=Na.c 2;have Od:=Na.o.fr 2;have r3:=Na.c 3;have Pd:=Na.o.fr 3;have hr:r=(⟨Ca,Aa+1,bs,js++[⟨Aa,⟨⟨m0,I,J,Q,V,T⟩,⟨Y,Z,L,U,Ha,Ia⟩⟩,(t1,t2),Ja,false,List.replicate mq M.t0⟩]⟩,0,Aa):=(by rw[Bd.o];unfold M.submit;dsimp only;rw[if_neg (by simp only[Bool.or_eq_true,decide_eq_true_eq];rw[Ad];exact fun e=>e.elim h6 h9),u']);subst hr;(go_wp2_with fail);apply eV
   case f=>
    intro key
    go_region_law (fail)
    all_goals exact key.out
   case h=>
    (go_wp2_with fail);show bodyPost _ _ _ _ _ ((w9.setCell ⟨bo,1,none⟩ (it (Aa+1))).setCells (w.heap.size+1+1) 0 (aI Ca (Aa+1) bb Da Ea Fa (Ba+1) Ga)).drew;have Uc:au ((w9.setCell ⟨bo,1,none⟩ (it (Aa+1))).setCells (w.heap.size+1+1) 0 (aI Ca (Aa+1) bb Da Ea Fa (Ba+1) Ga)) (w.heap.size+1+1) (aI Ca (Aa+1) bb Da Ea Fa (Ba+1) Ga):=Na.o.setCells (aI Ca (Aa+1) bb Da Ea Fa (Ba+1) Ga) 0 (by simp);have Ra:=cm (w9.setCell ⟨bo,1,none⟩ (it (Aa+1))) (w.heap.size+1+1) 0 (aI Ca (Aa+1) bb Da Ea Fa (Ba+1) Ga);have Ub:=Yb.o.trans (Tb.o.mono (by omega));have Vb:=Ub.trans (ap Ra Ub.size (fun z e=>by have:=m2 e;omega));have Vc:aV ((w9.setCell ⟨bo,1,none⟩ (it (Aa+1))).setCells (w.heap.size+1+1) 0 (aI Ca (Aa+1) bb Da Ea Fa (Ba+1) Ga)) w.heap.size bb Da Ea bs Fa (Ba+1) Ga (qs++[(⟨Aa,⟨⟨m0,I,J,Q,V,T⟩,⟨Y,Z,L,U,Ha,Ia⟩⟩,(t1,t2),Ja,false,List.replicate mq M.t0⟩,some ⟨g,0,none⟩,mq)]):=(Sc.o.grown Ra (fun g hg e=>by have:=(Sc.o.lt g hg).1;have:=m2 e;omega)).mono (by omega);have Sa:Below ((w9.setCell ⟨bo,1,none⟩ (it (Aa+1))).setCells (w.heap.size+1+1) 0 (aI Ca (Aa+1) bb Da Ea Fa (Ba+1) Ga)).heap.size ((w9.setCell ⟨bo,1,none⟩ (it (Aa+1))).setCells (w.heap.size+1+1) 0 (aI Ca (Aa+1) bb Da Ea Fa (Ba+1) Ga)) ((w9.setCell ⟨bo,1,none⟩ (it (Aa+1))).setCells (w.heap.size+1+1) 0 (aI Ca (Aa+1) bb Da Ea Fa (Ba+1) Ga)).drew:=(m5 _ _).drew;have Jb:=Uc.belowS Sa;have Ab:=Vc.below Sa;have Za:=Vb.trans (Sa.mono Vb.size);have Kb:bC w w.heap.size (⟨Ca,Aa+1,bs,js++[⟨Aa,⟨⟨m0,I,J,Q,V,T⟩,⟨Y,Z,L,U,Ha,Ia⟩⟩,(t1,t2),Ja,false,List.replicate mq M.t0⟩]⟩,0,Aa) (.returned (.tuple #[.agg (aI Ca (Aa+1) bb Da Ea Fa (Ba+1) Ga).toArray,it 0,it Aa])) ((w9.setCell ⟨bo,1,none⟩ (it (Aa+1))).setCells (w.heap.size+1+1) 0 (aI Ca (Aa+1) bb Da Ea Fa (Ba+1) Ga)).drew:=⟨_,rfl,_,_,_,_,_,_,_,rfl,Ab,by rw[uX,Wb];rfl,Za⟩;clear Uc Ra Ub Vb Vc Sa Ab Za;generalize((w9.setCell ⟨bo,1,none⟩ (it (Aa+1))).setCells (w.heap.size+1+1) 0 (aI Ca (Aa+1) bb Da Ea Fa (Ba+1) Ga)).drew=wz at *;exact m7 (aJ rfl rfl (uN wz (w.heap.size+1+1) 0 27 _ _ Jb.row underlying27 rfl (by kernel_rfl))) rfl Kb
  case hs=>
   apply uC
   case ho=>exact rfl
   case hs=>exact uJ
   intro Kk hK;with_reducible refine eD ?qg (.tmp 45) 43 ?qo bc 47 i0 (.agg sf.toArray) 3 underlying43 hi Gd Id mq ?qm Ud Td Vd Wd ?_
   case qg | qo=>exact rfl
   case qm=>kernel_rfl
   intro g wm Lb Ec hg;have Ed:wm.heap.size≥Dd.heap.size:=hg.size;have Xc:=Hd (mH Rd Ec rfl);have Nb:H9 ((∀x∈bY bb jj qs,x<g)∧bo<g):=⟨fun x hx=>Lb ▸ (Qa.o.lt x hx).2,Lb ▸ Ta.o.2.2⟩;have Yc:=Hd (Qa.o.grown hg (fun _ _=>by simp));have Fc:=Hd (Ta.o.grown hg (by simp));have Xa:=Hd (Oa.o.trans (ap hg (m8 Pa Oa.o.size) (by simp)));refine hK.out _ _ Xa.o (fun hzz=>?_);clear hK Kk hzz Ec hg Ed Lb;refine tk 13 (.agg (ce Aa m0 I J Q V T Y Z L U Ha Ia t1 t2 Ja false (some ⟨g,0,none⟩) mq mq).toArray) ?_ ?_
   ·intro wq Bb;go_simp
   refine uT (rs:=[1,14]) (by kernel_rfl) (by simp) ?_;apply uC
   case ho=>exact rfl
   case' h=>
    intro Kk hK;have c3:=Fc.c 3;with_reducible refine dc ?qg 25 (.tmp 34) ?qo ⟨bo,3,none⟩ ?qxz (.slice jj Ba Ka) (i6 c3) ?_
    case qg | qo=>exact rfl
    case qxz=>kernel_rfl
    refine hK.out _ _ Xa.o (fun hzz=>?_);clear hK Kk hzz c3;refine uT (rs:=[14]) (by kernel_rfl) (by simp) ?_;apply uC
    case ho=>exact rfl
    case hs=>exact uJ
    intro Kk hK;with_reducible refine dz ?qg (fun x=>.slice (some ⟨x,0,none⟩) 1 1) (wm.alloc (.cells (ce Aa m0 I J Q V T Y Z L U Ha Ia t1 t2 Ja false (some ⟨g,0,none⟩) mq mq).toArray 45)) ?qrun ?_
    case qg=>exact rfl
    case qrun=>kernel_rfl
    intro gb wn Gb Va;have La:=eK wm (.cells (ce Aa m0 I J Q V T Y Z L U Ha Ia t1 t2 Ja false (some ⟨g,0,none⟩) mq mq).toArray 45);rw[Va]at La;have Bc:=Hd (Yc.o.below La);have Ob:=Fc.b La;have Cc:=Hd (Xc.o.grown (bv La none) (fun _ _=>by simp));have Ya:=Hd (Xa.o.trans (La.mono (m8 Pa Xa.o.size)));have LJ:H9 (au wn gb (ce Aa m0 I J Q V T Y Z L U Ha Ia t1 t2 Ja false (some ⟨g,0,none⟩) mq mq)):=(by show au wn gb _;rw[←Va,←Gb];exact aO _ _ _);refine hK.out _ _ Ya.o (fun hzz=>?_);clear hK Kk hzz La Va Gb
   case' hs=>
    apply uC
    case ho=>exact rfl
    case hs=>exact uJ
    intro Kk hK;with_reducible refine dz ?qg (fun x=>.slice (some ⟨x,0,none⟩) 1 1) (wm.alloc (.cells (ce Aa m0 I J Q V T Y Z L U Ha Ia t1 t2 Ja false (some ⟨g,0,none⟩) mq mq).toArray 45)) ?qrun ?_
    case qg=>exact rfl
    case qrun=>kernel_rfl
    intro gb wn Gb Va;have La:=eK wm (.cells (ce Aa m0 I J Q V T Y Z L U Ha Ia t1 t2 Ja false (some ⟨g,0,none⟩) mq mq).toArray 45);rw[Va]at La;have Bc:=Hd (Yc.o.below La);have Ob:=Fc.b La;have Cc:=Hd (Xc.o.grown (bv La none) (fun _ _=>by simp));have Ya:=Hd (Xa.o.trans (La.mono (m8 Pa Xa.o.size)));have LJ:H9 (au wn gb (ce Aa m0 I J Q V T Y Z L U Ha Ia t1 t2 Ja false (some ⟨g,0,none⟩) mq mq)):=(by show au wn gb _;rw[←Va,←Gb];exact aO _ _ _);refine hK.out _ _ Ya.o (fun hzz=>?_);clear hK Kk hzz La Va Gb;refine uT (rs:=[1]) (by kernel_rfl) (by simp) ?_;apply uC
    case ho=>exact rfl
    case hs=>exact uJ
    intro Kk hK;have c3:=Ob.c 3;with_reducible refine dc ?qg 25 (.tmp 34) ?qo ⟨bo,3,none⟩ ?qxz (.slice jj Ba Ka) (i6 c3) ?_
    case qg | qo=>exact rfl
    case qxz=>kernel_rfl
    refine hK.out _ _ Ya.o (fun hzz=>?_);clear hK Kk hzz c3
   all_goals
    have Qa:H9 _:=Bc;have Ta:H9 _:=Ob;have Gc:H9 _:=Cc;have Oa:H9 _:=Ya;clear Bc Ob Cc Ya;refine uT (rs:=[15]) (by kernel_rfl) (by simp) ?_;apply uC
    case ho=>exact rfl
    case hs=>exact uJ
    intro Kk hK;have Fe:qs.length=js.length:=(by rw[←Wb,List.length_map]);have Ge:Ba≤6:=(by rw[←Qa.o.jl];omega);have Hc:(ce Aa m0 I J Q V T Y Z L U Ha Ia t1 t2 Ja false (some ⟨g,0,none⟩) mq mq)=iG (⟨Aa,⟨⟨m0,I,J,Q,V,T⟩,⟨Y,Z,L,U,Ha,Ia⟩⟩,(t1,t2),Ja,false,List.replicate mq M.t0⟩,some ⟨g,0,none⟩,mq):=(by dsimp only[iG,eN];rw[uS]);have Ic:bw wn bc (some ⟨g,0,none⟩) (List.replicate mq M.t0).length mq (List.replicate mq M.t0):=(by rw[uS];exact Gc.o);have Jc:au wn gb (iG (⟨Aa,⟨⟨m0,I,J,Q,V,T⟩,⟨Y,Z,L,U,Ha,Ia⟩⟩,(t1,t2),Ja,false,List.replicate mq M.t0⟩,some ⟨g,0,none⟩,mq)):=(by rw[←Hc];exact LJ.o);have Kc:∀x∈ob (some (⟨g,0,none⟩:Addr)),x∉bY bb jj qs:=fun x hx e=>by simp[ob]at hx;have:=Nb.o.1 x e;omega
    have Lc:Ba≤1000:=(by omega);have Nc:=m8 Pa Oa.o.size;with_reducible refine lN ?qg (.tmp 35) (.tmp 48) ?qo ?qsl gb ?qnw Qa.o (⟨Aa,⟨⟨m0,I,J,Q,V,T⟩,⟨Y,Z,L,U,Ha,Ia⟩⟩,(t1,t2),Ja,false,List.replicate mq M.t0⟩,some ⟨g,0,none⟩,mq) Jc Ic Kc Lc Nc ?_
    case qg | qo=>exact rfl
    case qsl | qnw=>kernel_rfl
    intro Fa Ga w8 hP Oc Pb;have Pc:=Hd hP;have Qc:H9 (bo∉bY bb Fa (qs++[(⟨Aa,⟨⟨m0,I,J,Q,V,T⟩,⟨Y,Z,L,U,Ha,Ia⟩⟩,(t1,t2),Ja,false,List.replicate mq M.t0⟩,some ⟨g,0,none⟩,mq)])):=Oc bo Ta.o.2.2 (fun e=>by have:=Wc.o _ e;omega) (fun e=>by simp[ob]at e;have:=Nb.o.2;omega);have Cb:=Hd (Ta.o.grown Pb (fun e=>by have:=Wc.o bo (by simp[bY,bq e]);omega));have Db:=Hd (Oa.o.trans (ap Pb (m8 Pa Oa.o.size) (fun z e=>(Qa.o.lt z (by simp[bY,bq e])).1)));refine hK.out _ _ Db.o (fun _=>?_);clear hK Kk Pb hP Oc Hc Ic Jc Kc Lc Nc Qa Ta Oa Gc LJ Nb;refine tk 16 (.pointer (some ⟨bo,3,none⟩)) ?_ ?_
    ·intro wq Bb;go_simp
    refine uT (rs:=[17]) (by kernel_rfl) (by simp) ?_;apply uC
    case ho=>exact rfl
    case hs=>exact uJ
    intro Kk hK;have c3:=Cb.c 3;have f3:=Cb.o.fr 3;go_simp;have Qb:w8.grownBy (w8.setCell ⟨bo,3,none⟩ (.slice Fa (Ba+1) Ga)) (some bo):=aU _ _ _;have Rb:H9 (au (w8.setCell ⟨bo,3,none⟩ (.slice Fa (Ba+1) Ga)) bo (aI Ca Aa bb Da Ea Fa (Ba+1) Ga)):=Cb.o.set 3 (by simp) _;have Fd:=Hd (Pc.o.grown Qb (fun g hg e=>Qc.o (m2 e ▸ hg)));have Eb:=Hd (Db.o.trans (ap Qb (m8 Pa Db.o.size) (fun z e=>by have:=m2 e;omega)));refine hK.out _ _ Eb.o (fun _=>?_);clear hK Kk Qb c3 f3 Cb Pc Db;refine bg ?_;go_simp;generalize(w8.setCell ⟨bo,3,none⟩ (.slice Fa (Ba+1) Ga))=w9 at *;have Rc:=Ib.o.below Eb.o (by omega);have Cd:=Rc.c 1;have o1:=Rb.c 1;have He:=Rb.o.fr 1;have Ie:IntKind.i64.wrap (Aa+1)=Aa+1:=(by rw[uQ];omega);clear Rc;have Sb:w9.grownBy (w9.setCell ⟨bo,1,none⟩ (it (Aa+1))) (some bo):=aU _ _ _;have Fb:H9 (au (w9.setCell ⟨bo,1,none⟩ (it (Aa+1))) bo (aI Ca (Aa+1) bb Da Ea Fa (Ba+1) Ga)):=Rb.o.set 1 (by simp) _;have Sc:=Hd (Fd.o.grown Sb (fun g hg e=>Qc.o (m2 e ▸ hg)));have Tb:=Hd (Eb.o.trans (ap Sb (m8 Pa Eb.o.size) (fun z e=>by have:=m2 e;omega)));clear Sb;have Na:H9 (au (w9.setCell ⟨bo,1,none⟩ (it (Aa+1))) (w.heap.size+1+1) aT):=Ua.o.below Tb.o Hb.o;have Tc:=Ib.o.below Tb.o (by omega);have m_1':=Tc.c 1;clear Tc;have o0':=Fb.c 0;have o1':=Fb.c 1;have o2':=Fb.c 2;have o3':=Fb.c 3;have r0:=Na.c 0;have Ld:=Na.o.fr 0;have r1:=Na.c 1;have Nd:=Na.o.fr 1;have r2:=Na.c 2;have Od:=Na.o.fr 2;have r3:=Na.c 3;have Pd:=Na.o.fr 3;have hr:r=(⟨Ca,Aa+1,bs,js++[⟨Aa,⟨⟨m0,I,J,Q,V,T⟩,⟨Y,Z,L,U,Ha,Ia⟩⟩,(t1,t2),Ja,false,List.replicate mq M.t0⟩]⟩,0,Aa):=(by rw[Bd.o];unfold M.submit;dsimp only;rw[if_neg (by simp only[Bool.or_eq_true,decide_eq_true_eq];rw[Ad];exact fun e=>e.elim h6 h9),u']);subst hr;(go_wp2_with fail);apply eV
    case f=>
     intro key
     go_region_law (fail)
     all_goals exact key.out
    case h=>
     (go_wp2_with fail);show bodyPost _ _ _ _ _ ((w9.setCell ⟨bo,1,none⟩ (it (Aa+1))).setCells (w.heap.size+1+1) 0 (aI Ca (Aa+1) bb Da Ea Fa (Ba+1) Ga)).drew;have Uc:au ((w9.setCell ⟨bo,1,none⟩ (it (Aa+1))).setCells (w.heap.size+1+1) 0 (aI Ca (Aa+1) bb Da Ea Fa (Ba+1) Ga)) (w.heap.size+1+1) (aI Ca (Aa+1) bb Da Ea Fa (Ba+1) Ga):=Na.o.setCells (aI Ca (Aa+1) bb Da Ea Fa (Ba+1) Ga) 0 (by simp);have Ra:=cm (w9.setCell ⟨bo,1,none⟩ (it (Aa+1))) (w.heap.size+1+1) 0 (aI Ca (Aa+1) bb Da Ea Fa (Ba+1) Ga);have Ub:=Yb.o.trans (Tb.o.mono (by omega));have Vb:=Ub.trans (ap Ra Ub.size (fun z e=>by have:=m2 e;omega));have Vc:aV ((w9.setCell ⟨bo,1,none⟩ (it (Aa+1))).setCells (w.heap.size+1+1) 0 (aI Ca (Aa+1) bb Da Ea Fa (Ba+1) Ga)) w.heap.size bb Da Ea bs Fa (Ba+1) Ga (qs++[(⟨Aa,⟨⟨m0,I,J,Q,V,T⟩,⟨Y,Z,L,U,Ha,Ia⟩⟩,(t1,t2),Ja,false,List.replicate mq M.t0⟩,some ⟨g,0,none⟩,mq)]):=(Sc.o.grown Ra (fun g hg e=>by have:=(Sc.o.lt g hg).1;have:=m2 e;omega)).mono (by omega);have Sa:Below ((w9.setCell ⟨bo,1,none⟩ (it (Aa+1))).setCells (w.heap.size+1+1) 0 (aI Ca (Aa+1) bb Da Ea Fa (Ba+1) Ga)).heap.size ((w9.setCell ⟨bo,1,none⟩ (it (Aa+1))).setCells (w.heap.size+1+1) 0 (aI Ca (Aa+1) bb Da Ea Fa (Ba+1) Ga)) ((w9.setCell ⟨bo,1,none⟩ (it (Aa+1))).setCells (w.heap.size+1+1) 0 (aI Ca (Aa+1) bb Da Ea Fa (Ba+1) Ga)).drew:=(m5 _ _).drew;have Jb:=Uc.belowS Sa;have Ab:=Vc.below Sa;have Za:=Vb.trans (Sa.mono Vb.size);have Kb:bC w w.heap.size (⟨Ca,Aa+1,bs,js++[⟨Aa,⟨⟨m0,I,J,Q,V,T⟩,⟨Y,Z,L,U,Ha,Ia⟩⟩,(t1,t2),Ja,false,List.replicate mq M.t0⟩]⟩,0,Aa) (.returned (.tuple #[.agg (aI Ca (Aa+1) bb Da Ea Fa (Ba+1) Ga).toArray,it 0,it Aa])) ((w9.setCell ⟨bo,1,none⟩ (it (Aa+1))).setCells (w.heap.size+1+1) 0 (aI Ca (Aa+1) bb Da Ea Fa (Ba+1) Ga)).drew:=⟨_,rfl,_,_,_,_,_,_,_,rfl,Ab,by rw[uX,Wb];rfl,Za⟩;clear Uc Ra Ub Vb Vc Sa Ab Za;generalize((w9.setCell ⟨bo,1,none⟩ (it (Aa+1))).setCells (w.heap.size+1+1) 0 (aI Ca (Aa+1) bb Da Ea Fa (Ba+1) Ga)).drew=wz at *;exact m7 (aJ rfl rfl (uN wz (w.heap.size+1+1) 0 27 _ _ Jb.row underlying27 rfl (by kernel_rfl))) rfl Kb
theorem pU:gm.p3:=by
 intro ab aj nb cb nj cj bs js Aa Ba Ce id De Ee Fe m0 I J Q V T Y Z L U Ge He t1 t2 p1 p2 p3 p4 a1 a2 a3 a4 n1 n2 n3 n4 c1 c2 c3 c4 z1 z2 z3 z4 w l1 l2 l3 l4 HM S1 S2 S3 S4 r Yc wa wb C1 Zc HF wc bb Da Ea jj Ca Fa qs Ua bc Ad Ie Je Ke Le Ne Oe wd bo Pe Bd Fc we Za Gc Cd Rb Dd Ed Fd Qe Re Gd;subst Gd;have Se:=HM.o.j.len;have Te:=HF.o.few;have Ue:=Ad.o;have Ve:=Bd.o
 have hr:r=M.cancel ⟨Aa,Ba,bs,js⟩ id:=by
  rw[←Yc.o];unfold aZ M.acted;rw[if_neg (show ¬ M.Mt.ok ⟨Aa,Ba,bs,js⟩=false by rw[show M.Mt.ok ⟨Aa,Ba,bs,js⟩=true from Zc.o];simp),if_neg (by rw[Fd.o];simp)];unfold M.act;rw[if_neg (by decide),if_neg (by decide),if_pos rfl]
 have Gb:=Hd hr;clear hr;have CJ:=fun W (h:ep W aj nj cj js)=>lF (ab:=ab) (nb:=nb) (cb:=cb) Aa Ba id W h;have Hc:=M.jobAt_some id js 0;generalize Ab:M.jobAt id 0 js=Id at CJ Hc;have Va:=Hd Ab;have Jd:=Hd Hc;have We:=Gc.c 0;have Xe:=Gc.c 1;have Ye:=Za.c 0;have Ze:=Za.c 1;have Af:=Za.c 2;have Kd:=Za.c 3;(go_wp2_with fail);refine(CJ _ (HM.o.j.below Rb.o)).mono ?_;rintro e wf ⟨rfl,hb⟩;have Ic:=Za.b hb;have Ha:=Cd.b hb;have Na:=Rb.t hb;have Wa:=Hd (Dd.o.below hb);have La:=Ed.b hb;by_cases Ld:Id<0
 case pos=>
  have r0:=Ha.c 0;have Sb:=Ha.o.fr 0;have r1:=Ha.c 1;have Tb:=Ha.o.fr 1;have r2:=Ha.c 2;have Ub:=Ha.o.fr 2;have r3:=Ha.c 3;have Vb:=Ha.o.fr 3;have o0:=La.c 0;have o1:=La.c 1;have o2:=La.c 2;have o3:=La.c 3;have hr:r=(⟨Aa,Ba,bs,js⟩,4,0):=(by rw[Gb.o];unfold M.cancel;dsimp only;rw[if_pos (by rw[Va.o];exact Ld)]);subst hr;(go_wp2_with fail);show bodyPost _ _ _ _ _ (wf.setCells (w.heap.size+1+1) 0 (aI Aa Ba bb Da Ea jj Ca Fa));have Pa:au (wf.setCells (w.heap.size+1+1) 0 (aI Aa Ba bb Da Ea jj Ca Fa)) (w.heap.size+1+1) (aI Aa Ba bb Da Ea jj Ca Fa):=Ha.o.setCells (aI Aa Ba bb Da Ea jj Ca Fa) 0 (by simp);have Ia:=cm wf (w.heap.size+1+1) 0 (aI Aa Ba bb Da Ea jj Ca Fa);have Qa:=Na.o.trans (ap Ia Na.o.size (fun z e=>by have:=m2 e;omega));have Ra:aV (wf.setCells (w.heap.size+1+1) 0 (aI Aa Ba bb Da Ea jj Ca Fa)) w.heap.size bb Da Ea bs jj Ca Fa qs:=(Wa.o.grown Ia (fun g hg e=>by have:=(Wa.o.lt g hg).1;have:=m2 e;omega)).mono (by omega);have Sa:bC w w.heap.size (⟨Aa,Ba,bs,js⟩,4,0) (.returned (.tuple #[.agg (aI Aa Ba bb Da Ea jj Ca Fa).toArray,it 4,it 0])) (wf.setCells (w.heap.size+1+1) 0 (aI Aa Ba bb Da Ea jj Ca Fa)):=⟨_,rfl,_,_,_,_,_,_,_,rfl,Ra,Ua,Qa⟩;generalize(wf.setCells (w.heap.size+1+1) 0 (aI Aa Ba bb Da Ea jj Ca Fa))=wz at *;exact m7 (aJ rfl rfl (uN wz (w.heap.size+1+1) 0 27 _ _ Pa.row underlying27 rfl (by kernel_rfl))) rfl Sa
 case neg=>
  obtain⟨i,hi,Jc,Bf⟩:=Jd.o (by omega);rw[Nat.zero_add]at Jc;subst Jc;have Nd:M.jobOf id js=js.getD i M.j0:=(by unfold M.jobOf;rw[Va.o,u']);have Wb:=Hd Nd;have hq:(qs.getD i q0).1=js.getD i M.j0:=(by rw[←dB,Ua]);have HQ:=Hd hq;have Cf:(i:Int)<(nj:Int):=(by omega);have Df:(0:Int)≤(i:Int):=(by omega);have Ef:¬ (i:Int)<0:=(by omega);have Ff:decide ((i:Int)<0)=false:=(by simp);obtain⟨b1,o1,rfl,Kc⟩:=(HM.o.j.below Na.o).at (by omega);obtain⟨ta,tc,hA,hT⟩:=Kc i (by omega);generalize Hb:js.getD i M.j0=cq at hA hT;have Bb:=Hd Hb;clear Hb Kc;obtain⟨Ib,⟨⟨a,b,c',d,f,k⟩,⟨a',b',Jb,d',f',k'⟩⟩,⟨s1,s2⟩,jr,jg,tl⟩:=cq;dsimp only at hT;have hR:wf.rangeAt b1 (o1+i*18) (eN ⟨Ib,⟨⟨a,b,c',d,f,k⟩,⟨a',b',Jb,d',f',k'⟩⟩,(s1,s2),jr,jg,tl⟩ ta tc):=ch rfl hA;have HT:=Hd hT;have C3:=fun W (h:bW W ta tl.length tc tl)=>i4 Ib a b c' d f k a' b' Jb d' f' k' s1 s2 jr jg W h;dsimp only[eN]at hR;generalize Lc:tl.length=tn at hR HT C3;have Nc:=Hd Lc;generalize Oc:tl.all (·.done)=al at C3;have Pc:=Hd Oc;clear hA hT Lc Oc;have Gf:=hR 16 _ rfl;have Kd:=Ic.c 3
  cases jg with
  | true=>
   have r0:=Ha.c 0;have Sb:=Ha.o.fr 0;have r1:=Ha.c 1;have Tb:=Ha.o.fr 1;have r2:=Ha.c 2;have Ub:=Ha.o.fr 2;have r3:=Ha.c 3;have Vb:=Ha.o.fr 3;have o0:=La.c 0;have o1:=La.c 1;have o2:=La.c 2;have o3:=La.c 3;have hr:r=(⟨Aa,Ba,bs,js⟩,8,0):=(by rw[Gb.o];unfold M.cancel;dsimp only;rw[if_neg (by rw[Va.o];omega),Wb.o,Bb.o];dsimp only;rw[if_pos (by simp)]);subst hr;(go_wp2_with fail);show bodyPost _ _ _ _ _ (wf.setCells (w.heap.size+1+1) 0 (aI Aa Ba bb Da Ea jj Ca Fa));have Pa:au (wf.setCells (w.heap.size+1+1) 0 (aI Aa Ba bb Da Ea jj Ca Fa)) (w.heap.size+1+1) (aI Aa Ba bb Da Ea jj Ca Fa):=Ha.o.setCells (aI Aa Ba bb Da Ea jj Ca Fa) 0 (by simp);have Ia:=cm wf (w.heap.size+1+1) 0 (aI Aa Ba bb Da Ea jj Ca Fa);have Qa:=Na.o.trans (ap Ia Na.o.size (fun z e=>by have:=m2 e;omega));have Ra:aV (wf.setCells (w.heap.size+1+1) 0 (aI Aa Ba bb Da Ea jj Ca Fa)) w.heap.size bb Da Ea bs jj Ca Fa qs:=(Wa.o.grown Ia (fun g hg e=>by have:=(Wa.o.lt g hg).1;have:=m2 e;omega)).mono (by omega);have Sa:bC w w.heap.size (⟨Aa,Ba,bs,js⟩,8,0) (.returned (.tuple #[.agg (aI Aa Ba bb Da Ea jj Ca Fa).toArray,it 8,it 0])) (wf.setCells (w.heap.size+1+1) 0 (aI Aa Ba bb Da Ea jj Ca Fa)):=⟨_,rfl,_,_,_,_,_,_,_,rfl,Ra,Ua,Qa⟩;generalize(wf.setCells (w.heap.size+1+1) 0 (aI Aa Ba bb Da Ea jj Ca Fa))=wz at *;exact m7 (aJ rfl rfl (uN wz (w.heap.size+1+1) 0 27 _ _ Pa.row underlying27 rfl (by kernel_rfl))) rfl Sa
  | false=>
   (go_wp2_with(with_reducible refine aA 89 ?_ ?_;rfl));show wpList _ _ _ _ _ _;have iL:(prog.info? 45).map (·.size)=some ((ce Ib a b c' d f k a' b' Jb d' f' k' s1 s2 jr false ta tn tc):List Value).length:=(show(prog.info? 45).map (·.size)=some 18 by kernel_rfl);with_reducible refine bK ?qw 45 ?qlw ?qo b1 (o1+i*18) ?qhx (ce Ib a b c' d f k a' b' Jb d' f' k' s1 s2 jr false ta tn tc) _ hR underlying45 ?qd iL ?_
   case qw=>kernel_rfl
   case qo=>exact rfl
   case qhx=>kernel_rfl
   case qd=>exact rfl
   show wpList _ _ _ _ _ _;(go_wp2_with fail);refine(C3 _ HT.o).mono ?_;rintro e wg ⟨rfl,hb⟩;have Ja:=Ha.b hb;have Cb:=Na.t hb;have Oa:=Hd (Wa.o.below hb);have Ta:=La.b hb;clear Ic Ha Na Wa La;clear hb;clear C3 HT
   cases al with
   | true=>
    have r0:=Ja.c 0;have Sb:=Ja.o.fr 0;have r1:=Ja.c 1;have Tb:=Ja.o.fr 1;have r2:=Ja.c 2;have Ub:=Ja.o.fr 2;have r3:=Ja.c 3;have Vb:=Ja.o.fr 3;have o0:=Ta.c 0;have o1:=Ta.c 1;have o2:=Ta.c 2;have o3:=Ta.c 3;have hr:r=(⟨Aa,Ba,bs,js⟩,8,0):=(by rw[Gb.o];unfold M.cancel;dsimp only;rw[if_neg (by rw[Va.o];omega),Wb.o,Bb.o];dsimp only;rw[if_pos (by rw[Pc.o];rfl)]);subst hr;(go_wp2_with fail);show bodyPost _ _ _ _ _ (wg.setCells (w.heap.size+1+1) 0 (aI Aa Ba bb Da Ea jj Ca Fa));have Pa:au (wg.setCells (w.heap.size+1+1) 0 (aI Aa Ba bb Da Ea jj Ca Fa)) (w.heap.size+1+1) (aI Aa Ba bb Da Ea jj Ca Fa):=Ja.o.setCells (aI Aa Ba bb Da Ea jj Ca Fa) 0 (by simp);have Ia:=cm wg (w.heap.size+1+1) 0 (aI Aa Ba bb Da Ea jj Ca Fa);have Qa:=Cb.o.trans (ap Ia Cb.o.size (fun z e=>by have:=m2 e;omega));have Ra:aV (wg.setCells (w.heap.size+1+1) 0 (aI Aa Ba bb Da Ea jj Ca Fa)) w.heap.size bb Da Ea bs jj Ca Fa qs:=(Oa.o.grown Ia (fun g hg e=>by have:=(Oa.o.lt g hg).1;have:=m2 e;omega)).mono (by omega);have Sa:bC w w.heap.size (⟨Aa,Ba,bs,js⟩,8,0) (.returned (.tuple #[.agg (aI Aa Ba bb Da Ea jj Ca Fa).toArray,it 8,it 0])) (wg.setCells (w.heap.size+1+1) 0 (aI Aa Ba bb Da Ea jj Ca Fa)):=⟨_,rfl,_,_,_,_,_,_,_,rfl,Ra,Ua,Qa⟩;generalize(wg.setCells (w.heap.size+1+1) 0 (aI Aa Ba bb Da Ea jj Ca Fa))=wz at *;exact m7 (aJ rfl rfl (uN wz (w.heap.size+1+1) 0 27 _ _ Pa.row underlying27 rfl (by kernel_rfl))) rfl Sa
   | false=>
    have hr:r=(⟨Aa,Ba,bs,js.set i {M.freeJ M.leased (js.getD i M.j0)with gone:=true}⟩,0,0):=(by rw[Gb.o];unfold M.cancel;dsimp only;rw[if_neg (by rw[Va.o];omega),Wb.o,Bb.o];dsimp only;rw[if_neg (by rw[Pc.o];simp),Va.o,u']);subst hr;have Hf:tn≤8:=(by have h:=(HF.o.tasks (js.getD i M.j0) (M.getD_mem hi)).2;rw[Bb.o]at h;dsimp only at h;rw[Nc.o]at h;exact h);have If:=Oa.o.jl;have Jf:qs.length=js.length:=(by rw[←Ua,List.length_map]);have Db:i<Ca:=(by omega);have Kf:(i:Int)<(Ca:Int):=(by omega);obtain⟨gj,rfl⟩:=Oa.o.block (by omega);have o3:=Ta.c 3;(go_wp2_with(with_reducible refine aF ?_ ?_;rfl));with_reducible refine mO 4 gj (i*18+16) (.bool true) ?q6 ?q5 ?_
    case q6=>exact Oa.o.jthere Db
    case q5=>exact⟨rfl,rfl,rfl,by kernel_rfl,_,_,rfl,by kernel_rfl,by kernel_rfl⟩
    obtain⟨Qc,Kb⟩:=Oa.o.gone Db true;have Eb:gj∈bY bb (some ⟨gj,0,none⟩) qs:=(by simp[bY,ob]);have Lf:=(Oa.o.lt gj Eb).1;have Nf:=Fc.o gj Eb;have Rc:bY bb (some ⟨gj,0,none⟩) (qs.set i ({(qs.getD i q0).1 with gone:=true},(qs.getD i q0).2))=bY bb (some ⟨gj,0,none⟩) qs:=fG _ (by omega) rfl;have GA:=Hd Qc;have GZ:=Hd (Ja.o.grown Kb (fun e=>by have:=m2 e;omega));have GO:=Hd (Ta.o.grown Kb (fun e=>by have:=m2 e;omega));have GB:=Hd (Cb.o.trans (ap Kb Cb.o.size (fun z e=>by have:=m2 e;omega)));have GM:=Hd Rc;clear Qc Kb Rc Ja Cb Oa Ta;generalize(wg.setCells gj (i*18+16) [.bool true])=wh at *;obtain⟨RQ,Xb⟩:∃RQ,(qs.set i ({(qs.getD i q0).1 with gone:=true},(qs.getD i q0).2)).set i (MQ.at M.leased 0 ((qs.set i ({(qs.getD i q0).1 with gone:=true},(qs.getD i q0).2)).getD i q0))=RQ:=⟨_,rfl⟩
    have Od:H9 (RQ.map (·.1)=js.set i {M.freeJ M.leased (js.getD i M.j0)with gone:=true}):=by
     show _=_;rw[←Xb,bX (by omega),List.set_set,List.map_set,Ua];unfold MQ.at M.freeJ;rw[jR,HQ.o]
    have Sc:=Hd Xb;clear Xb;have Xa:H9 (((qs.set i ({(qs.getD i q0).1 with gone:=true},(qs.getD i q0).2)).getD i q0).1.ts.length=tn):=(by show _=_;rw[bX (by omega)];dsimp only;rw[HQ.o,Bb.o];exact Nc.o);generalize(qs.set i ({(qs.getD i q0).1 with gone:=true},(qs.getD i q0).2))=Pd at GA GM Sc Xa;go_wp2_with fail
    go_loopw [9] (fun x wr=>∃(p:Nat) (Ga:List MQ),p≤tn∧x=it p∧aV wr bc bb Da Ea bs (some ⟨gj,0,none⟩) Ca Fa Ga∧bY bb (some ⟨gj,0,none⟩) Ga=bY bb (some ⟨gj,0,none⟩) qs∧Ga.set i (MQ.at M.leased p (Ga.getD i q0))=RQ∧(Ga.getD i q0).1.ts.length=tn∧au wr (w.heap.size+1+1) aT∧au wr bo (aI Aa Ba bb Da Ea (some ⟨gj,0,none⟩) Ca Fa)∧m1 w wr) (fun x _=>tn-(intOf x).toNat)
    case atStart=>exact⟨0,Pd,by omega,rfl,GA.o,GM.o,Sc.o,Xa.o,GZ.o,GO.o,GB.o⟩
    case round=>
     obtain⟨p,Ga,hp,rfl,hG,Tc,hR,Lb,Ka,Ya,Yb⟩:=hrel;have o3:=Ya.c 3;have Fb:wr.cell? ⟨gj,i*18+17,none⟩=some (.slice (Ga.getD i q0).2.1 (Ga.getD i q0).1.ts.length (Ga.getD i q0).2.2):=hG.jcell Db (by omega);rw[Lb]at Fb;by_cases Nb:p<tn
     case neg=>
      have Qd:¬ (p:Int)<(tn:Int):=(by omega);have Rd:Ga=RQ:=(by rw[←hR,MQ.at_end (by have:=hG.jl;omega) (by omega)]);subst Rd;have Uc:=Hd hG;have Vc:=Hd Yb;have Ob:=Hd Ka;generalize(Ga.getD i q0).2.1=Of at Fb;generalize(Ga.getD i q0).2.2=Sd at Fb;have o0:=Ya.c 0;have o1:=Ya.c 1;have o2:=Ya.c 2;have r0:=Ka.c 0;have Sb:=Ka.fr 0;have r1:=Ka.c 1;have Tb:=Ka.fr 1;have r2:=Ka.c 2;have Ub:=Ka.fr 2;have r3:=Ka.c 3;have Vb:=Ka.fr 3;(go_wp2_with fail);show bodyPost _ _ _ _ _ (wr.setCells (w.heap.size+1+1) 0 (aI Aa Ba bb Da Ea (some ⟨gj,0,none⟩) Ca Fa));have Pa:au (wr.setCells (w.heap.size+1+1) 0 (aI Aa Ba bb Da Ea (some ⟨gj,0,none⟩) Ca Fa)) (w.heap.size+1+1) (aI Aa Ba bb Da Ea (some ⟨gj,0,none⟩) Ca Fa):=Ob.o.setCells (aI Aa Ba bb Da Ea (some ⟨gj,0,none⟩) Ca Fa) 0 (by simp);have Ia:=cm wr (w.heap.size+1+1) 0 (aI Aa Ba bb Da Ea (some ⟨gj,0,none⟩) Ca Fa);have Qa:=Vc.o.trans (ap Ia Vc.o.size (fun z e=>by have:=m2 e;omega));have Ra:aV (wr.setCells (w.heap.size+1+1) 0 (aI Aa Ba bb Da Ea (some ⟨gj,0,none⟩) Ca Fa)) w.heap.size bb Da Ea bs (some ⟨gj,0,none⟩) Ca Fa Ga:=(Uc.o.grown Ia (fun g hg e=>by have:=(Uc.o.lt g hg).1;have:=m2 e;omega)).mono (by omega);have Sa:bC w w.heap.size (⟨Aa,Ba,bs,js.set i {M.freeJ M.leased (js.getD i M.j0)with gone:=true}⟩,0,0) (.returned (.tuple #[.agg (aI Aa Ba bb Da Ea (some ⟨gj,0,none⟩) Ca Fa).toArray,it 0,it 0])) (wr.setCells (w.heap.size+1+1) 0 (aI Aa Ba bb Da Ea (some ⟨gj,0,none⟩) Ca Fa)):=⟨_,rfl,_,_,_,_,_,_,_,rfl,Ra,Od.o,Qa⟩;generalize(wr.setCells (w.heap.size+1+1) 0 (aI Aa Ba bb Da Ea (some ⟨gj,0,none⟩) Ca Fa))=wz at *;exact m7 (aJ rfl rfl (uN wz (w.heap.size+1+1) 0 27 _ _ Pa.row underlying27 rfl (by kernel_rfl))) rfl Sa
     case pos=>
      have hT:=hG.jtask Db;rw[Lb]at hT;obtain⟨g,Zb⟩:=hT.block (by omega);rw[Zb]at hT Fb;have Ab:=fun h=>MQ.at_keep (f:=M.leased) (q:=Ga.getD i q0) (k:=p) (by omega) h;have Ac:=fun h=>MQ.at_set (f:=M.leased) (q:=Ga.getD i q0) (k:=p) (by omega) h;have b0:=hT.cells Nb (j:=0) (by omega);have Td:=hT.2.frozenAt (p*3+0);have b1:=hT.cells Nb (j:=1) (by omega);have Pf:=hT.2.frozenAt (p*3+1);have b2:=hT.cells Nb (j:=2) (by omega);have Qf:=hT.2.frozenAt (p*3+2);rw[Nat.add_zero]at b0 Td;generalize Hb:(Ga.getD i q0).1.ts.getD p M.t0=cq at b0 b1 b2 Ab Ac;obtain⟨td,x,y⟩:=cq;simp only[dW,List.getElem?_cons_zero,List.getElem?_cons_succ]at b0 b1 b2;have Qd:(p:Int)<(tn:Int):=(by omega);have Rf:(0:Int)≤(p:Int):=(by omega);have Ud:(tn:Int)≤(Ga.getD i q0).2.2:=(by have:=hT.sees.le;omega);have Vd:=Hd Ab;have Wd:=Hd Ac;have HG:=Hd hG;have Pb:=Hd Tc;have HR:=Hd hR;have Xa:=Hd Lb;have Ob:=Hd Ka;have Wc:=Hd Ya;have Bc:=Hd Yb;have Xc:=Hd Zb;clear hT Ab Ac Hb hG Tc hR Lb Ka Ya Yb Zb;generalize(Ga.getD i q0).2.2=Sd at Fb Ud;by_cases Qb:x=0
      case pos=>
       have g1:(x != 0)=false:=(by simp[Qb]);have Cc:M.leased ⟨td,x,y⟩=false:=(by unfold M.leased;simp[Qb]);have Dc:H9 (Ga.set i (MQ.at M.leased (p+1) (Ga.getD i q0))=RQ):=(by show _=_;rw[Vd.o Cc];exact HR.o);go_wp2;go_roundw
       case rel=>exact⟨p+1,Ga,by omega,by go_num,HG.o,Pb.o,Dc.o,Xa.o,Ob.o,Wc.o,Bc.o⟩
       case measure=>simp[intOf];omega
      case neg=>
       have g1:(x != 0)=true:=(by simp[Qb]);have Cc:M.leased ⟨td,x,y⟩=true:=(by unfold M.leased;simp[Qb]);obtain⟨Xd,Yd⟩:=HG.o.task Db Xc.o (k:=p) (by rw[Xa.o];exact Nb) M.t0;have Zd:=Hd Xd;have Ec:=Hd Yd
       have Eb:g∈bY bb (some ⟨gj,0,none⟩) qs:=by
        rw[←Pb.o];have hm:Ga.getD i q0∈Ga:=(by have:=HG.o.jl;rw[m4,m6 (by omega)];simp);unfold bY;simp only[uG];exact .inr (.inr (uO.2 ⟨_,hm,by rw[Xc.o];simp[ob]⟩))
       have Sf:=Fc.o g Eb;have Tf:bc≤g:=(by have h9:=HG.o.lt g (by rw[Pb.o];exact Eb);exact h9.1);have HZ':=Hd (Ob.o.grown Ec.o (fun e=>by have:=m2 e;omega));have HO':=Hd (Wc.o.grown Ec.o (fun e=>by have:=m2 e;omega));have HB':=Hd (Bc.o.trans (ap Ec.o Bc.o.size (fun z e=>by have:=m2 e;omega)));have Dc:H9 ((Ga.set i ({(Ga.getD i q0).1 with ts:=(Ga.getD i q0).1.ts.set p M.t0},(Ga.getD i q0).2)).set i (MQ.at M.leased (p+1) ((Ga.set i ({(Ga.getD i q0).1 with ts:=(Ga.getD i q0).1.ts.set p M.t0},(Ga.getD i q0).2)).getD i q0))=RQ):=(by show _=_;rw[bX (by have:=HG.o.jl;omega),Wd.o Cc,List.set_set];exact HR.o);have Ae:H9 (((Ga.set i ({(Ga.getD i q0).1 with ts:=(Ga.getD i q0).1.ts.set p M.t0},(Ga.getD i q0).2)).getD i q0).1.ts.length=tn):=(by show _=_;rw[bX (by have:=HG.o.jl;omega)];dsimp only;rw[List.length_set];exact Xa.o);have Be:H9 (bY bb (some ⟨gj,0,none⟩) (Ga.set i ({(Ga.getD i q0).1 with ts:=(Ga.getD i q0).1.ts.set p M.t0},(Ga.getD i q0).2))=bY bb (some ⟨gj,0,none⟩) qs):=(fG (qs:=Ga) (i:=i) _ (by have:=HG.o.jl;omega) (by rfl)).trans Pb.o;go_wp2;go_roundw
       case rel=>exact⟨p+1,_,by omega,by go_num,Zd.o,Be.o,Dc.o,Ae.o,HZ'.o,HO'.o,HB'.o⟩
       case measure=>simp[intOf];omega
theorem M.Right.shape{qs:List MQ}(h:M.Right now uB bs (qs.map (·.1))):(∀q∈qs,0≤q.1.rows∧q.1.rows≤16∧q.1.ts.length≤8):=fun q hq=>by
 have hm:q.1∈qs.map (·.1):=List.mem_map.2 ⟨q,hq,rfl⟩;have h1:=(h.jok hm);have h2:=(h.tasks _ hm).2;have h3:=fA h1.r;exact⟨by omega,by omega,h2⟩
def sI(w0 w:World)(R:Nat)(ca:Option Addr)(len cap:Nat)(e:Ending)(W:World):Prop:=∃(now uB:Int) (ab:Option Addr) (nb cb:Nat) (bs:List Int) (aj:Option Addr) (nj cj:Nat) (qs:List MQ),
 e=.returned (.agg #[.int .i64 now,.int .i64 uB,.slice ab nb cb,.slice aj nj cj])∧aV W w.heap.size ab nb cb bs aj nj cj qs∧(∀q∈qs,0≤q.1.rows∧q.1.rows≤16∧q.1.ts.length≤8)∧nj≤6∧Rd w0 R ca len cap W∧w.grownBy W (some R)
theorem gQ{js:List M.Jb}(t' id s' l' tr m0 I J Q V T Y Z L U A B t1 t2 p1 p2 p3 p4:Int)(n1 n2 n3 n4:Nat)(z1 z2 z3 z4:List Int)(h:M.Right now uB bs js):(aZ now uB bs js t' id s' l' tr m0 I J Q V T Y Z L U A B t1 t2 p1 p2 p3 p4 n1 n2 n3 n4 z1 z2 z3 z4).1.right:=M.acted_right (m:=⟨now,uB,bs,js⟩) h
set_option linter.unusedVariables false in
def j1:Prop:=∀(_:iS) (w0:World) (R:Nat) (ca:Option Addr) (len cap:Nat) (zs:List Int) (hrow:Row .u8 w0 ca len cap zs) (most:Int) (hm0:0≤most) (hm1:most≤99) (w:World) (h:Rd w0 R ca len cap w),Calls prog 34 #[.pointer (some ⟨R,0,none⟩),.int .i64 most] w (sI w0 w R ca len cap)
def i7:mV j1:=by
 apply mV.mk
 case h=>
 intro key1 key2 Eb w0 R ca Ha Ia zs Fb Ra Gb Hb w h;have Ib:=Hd Eb;clear Eb;have Sa:=Hd Fb;have Jb:=h.hi;have Kb:=h.below.size;have Lb:m1 w ((w.alloc (.cells aT.toArray 27)).alloc (.cells mQ.toArray 27)):=((m5 _ _).alloc (m3 _) _).alloc (by simp) _;have Oa:H9 (au ((w.alloc (.cells aT.toArray 27)).alloc (.cells mQ.toArray 27)) w.heap.size aT):=(aO _ _ _).alloc _;have Ja:H9 (au ((w.alloc (.cells aT.toArray 27)).alloc (.cells mQ.toArray 27)) (w.heap.size+1) mQ):=ba _ _ _ _;have Pa:H9 (Rd w0 R ca Ha Ia ((w.alloc (.cells aT.toArray 27)).alloc (.cells mQ.toArray 27))):=(h.alloc _).alloc _;have Qa:H9 (w.grownBy ((w.alloc (.cells aT.toArray 27)).alloc (.cells mQ.toArray 27)) (some R)):=aB Lb _;have Ga:H9 (aV ((w.alloc (.cells aT.toArray 27)).alloc (.cells mQ.toArray 27)) (w.heap.size+2) none 0 0 [] none 0 0 []):=aV.zero _ _;have Nb:((w.alloc (.cells aT.toArray 27)).alloc (.cells mQ.toArray 27)).heap.size=w.heap.size+2:=(by simp);have Ob:IntKind.i64.wrap (Ra+1)=Ra+1:=(by rw[uQ];omega);clear Lb h Fb;go_enter func34,ntmps34;(go_wp2_with fail);generalize((w.alloc (.cells aT.toArray 27)).alloc (.cells mQ.toArray 27))=wq at *;refine(bi Sa.o (Ra+1) (by omega) (by omega) _ Pa.o).mono ?_;rintro e w1 ⟨v,v0,v1,rfl,hr,hg⟩;have Ba:=Hd (Oa.o.grown hg (by simp;omega));have Da:=Hd (Ja.o.grown hg (by simp;omega));have Ka:=Hd hr;have La:=Hd (Qa.o.trans hg);have Ea:=Hd (Ga.o.grown hg (fun g hg e=>by have:=(Ga.o.lt g hg).1;have:=m2 e;omega));clear Oa Ja Pa Qa Ga;clear hg hr;obtain⟨n0,Yb⟩:∃n:Nat,v=(n:Int):=⟨v.toNat,by omega⟩;subst Yb;have Pb:H9 (M.Right 0 1 [] []):=ck (by decide);go_wp2_with fail
 go_loopw [6] (fun x wr=>∃(n:Nat) (Ca Aa:Int) (ab:Option Addr) (nb cb:Nat) (bs:List Int) (aj:Option Addr) (nj cj:Nat) (qs:List MQ),n≤100∧x=it n∧au wr w.heap.size aT∧au wr (w.heap.size+1) (aI Ca Aa ab nb cb aj nj cj)∧Rd w0 R ca Ha Ia wr∧w.grownBy wr (some R)∧aV wr (w.heap.size+2) ab nb cb bs aj nj cj qs∧M.Right Ca Aa bs (qs.map (·.1))) (fun x _=>(intOf x).toNat)
 case atStart=>exact⟨n0,0,1,none,0,0,[],none,0,0,[],by omega,rfl,Ba.o,Da.o,Ka.o,La.o,Ea.o,Pb.o⟩
 case round=>
  obtain⟨n,Ca,Aa,ab,nb,cb,bs,aj,nj,cj,qs,hn,rfl,hZ,hM,Qb,Rb,hO,hF⟩:=hrel;clear Ba Da Ka La Ea;have HF:=Hd hF;have HS:=Hd hF.shape;have Ua:nj≤6:=(by have h1:=hF.few;have h2:=hO.jl;rw[List.length_map]at h1;omega);clear hF Pb;have Oa:=Hd hZ;have Ja:=Hd hM;have Pa:=Hd Qb;have Qa:=Hd Rb;have Ga:=Hd hO;clear hZ hM Qb Rb hO;have Sb:w.heap.size+2≤wr.heap.size:=(by have:=Ja.o;have:=this.2.2;omega);by_cases hp:0<n
  case neg=>
   have Xa:¬ (0:Int)<(n:Int):=(by omega);(go_wp2_with fail);refine(bi Sa.o 40 (by decide) (by decide) _ Pa.o).mono ?_;rintro e wa ⟨y,y0,y1,rfl,hr,hg⟩;have Ba:=Hd (Oa.o.grown hg (by simp;omega));have Da:=Hd (Ja.o.grown hg (by simp;omega));have Ka:=Hd hr;have La:=Hd (Qa.o.trans hg);have Ea:=Hd (Ga.o.grown hg (fun g hg e=>by have:=(Ga.o.lt g hg).1;have:=m2 e;omega));clear Oa Ja Pa Qa Ga;clear hg hr;by_cases Ya:y=38
   case pos=>
    subst Ya;(go_wp2_with fail);refine(eO Sa.o 0 9 (by decide) (by decide) (by decide) _ Ka.o).mono ?_;rintro e wb ⟨z,z0,z1,rfl,hr,hg⟩;have Tb:=Hd (Ba.o.grown hg (by simp;omega));have Ta:=Hd (Da.o.grown hg (by simp;omega));have Ub:=Hd hr;have Vb:=Hd (La.o.trans hg);have Za:=Hd (Ea.o.grown hg (fun g hg e=>by have:=(Ea.o.lt g hg).1;have:=m2 e;omega));clear Ba Da Ka La Ea;clear hg hr;clear z0 z1;have o0:=Ta.c 0;have Zb:=Ta.o.fr 0;clear o0 Zb;(go_wp2_with(with_reducible refine aF ?_ ?_;rfl));with_reducible refine mO 2 (w.heap.size+1) 0 (it z) ?q6 ?q5 ?_
    case q6=>exact Ta.o.there 0 1 (by simp)
    case q5=>exact⟨rfl,rfl,rfl,by kernel_rfl,_,_,rfl,by kernel_rfl,by kernel_rfl⟩
    have Va:=cm wb (w.heap.size+1) 0 [it z];have Fa:=Hd (Tb.o.grown Va (by simp));have Wa:H9 (au (wb.setCells (w.heap.size+1) 0 [it z]) (w.heap.size+1) (aI z Aa ab nb cb aj nj cj)):=Ta.o.setCells [it z] 0 (by simp);have Ac:H9 (Rd w0 R ca Ha Ia (wb.setCells (w.heap.size+1) 0 [it z])):=Ub.o.cells (by omega) (by omega) _;have Bc:=Hd (aK Vb.o Va (by omega));have Wb:=Hd (Za.o.grown Va (fun g hg e=>by have:=(Za.o.lt g hg).1;have:=m2 e;omega));clear Va Tb Ta Ub Vb Za;generalize(wb.setCells (w.heap.size+1) 0 [it z])=wc at *;have r0:=Fa.c 0;have Cc:=Fa.o.fr 0;have r1:=Fa.c 1;have Dc:=Fa.o.fr 1;have r2:=Fa.c 2;have Ec:=Fa.o.fr 2;have r3:=Fa.c 3;have Fc:=Fa.o.fr 3;have o0:=Wa.c 0;have o1:=Wa.c 1;have o2:=Wa.c 2;have o3:=Wa.c 3;(go_wp2_with fail);show bodyPost _ _ _ _ _ (wc.setCells w.heap.size 0 (aI z Aa ab nb cb aj nj cj));have Ab:au (wc.setCells w.heap.size 0 (aI z Aa ab nb cb aj nj cj)) w.heap.size (aI z Aa ab nb cb aj nj cj):=Fa.o.setCells (aI z Aa ab nb cb aj nj cj) 0 (by simp);have Na:=cm wc w.heap.size 0 (aI z Aa ab nb cb aj nj cj);have Bb:Rd w0 R ca Ha Ia (wc.setCells w.heap.size 0 (aI z Aa ab nb cb aj nj cj)):=Ac.o.cells (by omega) (by omega) _;have Cb:=aK Bc.o Na (m3 _);have Db:=(Wb.o.grown Na (fun g hg e=>by have:=(Wb.o.lt g hg).1;have:=m2 e;omega)).mono (show w.heap.size≤w.heap.size+2 by omega);generalize(wc.setCells w.heap.size 0 (aI z Aa ab nb cb aj nj cj))=wf at *;clear Na;exact m7 (aS rfl rfl (uN wf w.heap.size 0 27 _ _ Ab.row underlying27 rfl (by kernel_rfl))) rfl ⟨_,_,_,_,_,_,_,_,_,_,rfl,Db,HS.o,Ua,Bb,Cb⟩
   case neg=>
    have Gc:(y==38)=false:=(by simp[Ya]);by_cases Xb:y=39
    case pos=>
     rename_i Hc Ic Jc Kc Lc Nc Oc Pc Qc Rc;revert w0 R ca Ha Ia zs Ra Gb Hb w Ib Sa Jb Kb Ob Hc wq Nb w1 n0 v0 v1 wr u12 u13 u14 u15 u16 u17 u18 u19 u20 u21 u22 u23 u24 n Ca Aa ab nb cb bs aj nj cj qs hn HF HS Ua Sb hp Ic Jc Kc Lc Nc Oc Pc Qc Rc Xa wa y y0 y1 Ba Da Ka La Ea Ya Gc Xb;exact key1.out
    case neg=>
     have Xc:(y==39)=false:=(by simp[Xb]);have r0:=Ba.c 0;have Cc:=Ba.o.fr 0;have r1:=Ba.c 1;have Dc:=Ba.o.fr 1;have r2:=Ba.c 2;have Ec:=Ba.o.fr 2;have r3:=Ba.c 3;have Fc:=Ba.o.fr 3;have o0:=Da.c 0;have o1:=Da.c 1;have o2:=Da.c 2;have o3:=Da.c 3;(go_wp2_with fail);show bodyPost _ _ _ _ _ (wa.setCells w.heap.size 0 (aI Ca Aa ab nb cb aj nj cj));have Ab:au (wa.setCells w.heap.size 0 (aI Ca Aa ab nb cb aj nj cj)) w.heap.size (aI Ca Aa ab nb cb aj nj cj):=Ba.o.setCells (aI Ca Aa ab nb cb aj nj cj) 0 (by simp);have Na:=cm wa w.heap.size 0 (aI Ca Aa ab nb cb aj nj cj);have Bb:Rd w0 R ca Ha Ia (wa.setCells w.heap.size 0 (aI Ca Aa ab nb cb aj nj cj)):=Ka.o.cells (by omega) (by omega) _;have Cb:=aK La.o Na (m3 _);have Db:=(Ea.o.grown Na (fun g hg e=>by have:=(Ea.o.lt g hg).1;have:=m2 e;omega)).mono (show w.heap.size≤w.heap.size+2 by omega);generalize(wa.setCells w.heap.size 0 (aI Ca Aa ab nb cb aj nj cj))=wf at *;clear Na;exact m7 (aS rfl rfl (uN wf w.heap.size 0 27 _ _ Ab.row underlying27 rfl (by kernel_rfl))) rfl ⟨_,_,_,_,_,_,_,_,_,_,rfl,Db,HS.o,Ua,Bb,Cb⟩
  case pos=>
   have Xa:(0:Int)<(n:Int):=(by omega);(go_wp2_with fail);rename_i Sc Tc Uc Vc Wc;revert w0 R ca Ha Ia zs Ra Gb Hb w Ib Sa Jb Kb Ob Sc Tc wq Nb w1 n0 v0 v1 wr u12 u13 u14 u15 u16 u17 u18 u19 u20 u21 u22 u23 u24 n Ca Aa ab nb cb bs aj nj cj qs hn HF HS Ua Oa Ja Pa Qa Ga Sb hp Xa Uc Vc Wc;exact key2.out
theorem mF:i7.q:=by
 intro w0 R ca Ua Va zs Gc Hc Ic w Yb Ib Jc Kc Lc Nc Oc wq Pc w1 n0 v0 v1 wr Qc Rc Sc Tc Uc Vc Wc Xc Yc Zc Ad Bd Cd n Ba Ca ab nb cb bs aj nj cj qs hn HF HS Jb Zb Ac Bc Cc Dc Fc hp Dd Ed Fd Gd;have Ec:IntKind.i64.wrap ((n:Int)-1)=((n-1:Nat):Int):=(by rw[uQ];omega);have Kb:R<w.heap.size+2:=(by omega);refine wp_region_noPanic ?_;refine wp_region_held_drew (S:=fun _=>True) (by kernel_rfl) (trivial) (fun hHeld=>?_);have Ta:m1 wr wr.drew:=(m5 _ _).drew;have Lb:=Zb.b Ta;have Na:=Ac.b Ta;have Nb:=Hd (Bc.o.grow Ta);have Ob:=Hd (Cc.o.trans (aB Ta _));have Da:=Hd (Dc.o.below Ta);have Id:=trivial;have Pb:w.heap.size+2≤wr.drew.heap.size:=Fc;generalize wr.drew=Jd at *;have iL:(prog.info? 27).map (·.size)=some ((aI Ba Ca ab nb cb aj nj cj):List Value).length:=(show(prog.info? 27).map (·.size)=some 4 by kernel_rfl);refine tk 1 (.pointer (some ⟨R,0,none⟩)) ?_ ?_
 ·intro wq Fa;go_simp
 refine uT (rs:=[0,2]) (by kernel_rfl) (by simp) ?_;apply uC
 case ho=>exact rfl
 case h=>
  intro Kk hK;with_reducible refine dr ?qg 27 (.tmp 5) ?qo (w.heap.size+1) 0 ?qxz (aI Ba Ca ab nb cb aj nj cj) _ Na.o.row underlying27 ?qd iL ?_
  case qg | qo=>exact rfl
  case qxz=>kernel_rfl
  case qd=>exact rfl
  refine hK.out _ _ trivial (fun hzz=>?_);refine uT (rs:=[2]) (by kernel_rfl) (by simp) ?_;apply uC
  case ho=>exact rfl
  case hs=>exact uJ
  intro Kk hK;with_reducible refine dr ?qg 27 (.tmp 5) ?qo (w.heap.size+1) 0 ?qxz (aI Ba Ca ab nb cb aj nj cj) _ Na.o.row underlying27 ?qd iL ?_
  case qg | qo=>exact rfl
  case qxz=>kernel_rfl
  case qd=>exact rfl
  refine hK.out _ _ trivial (fun hzz=>?_);refine uT (rs:=[3]) (by kernel_rfl) (by simp) ?_;apply uC
  case ho=>exact rfl
  case hs=>exact uJ
  intro Kk hK;go_simp;refine(iJ w0 R ca Ua Va zs Ib.o (w.heap.size+2) ab aj nb cb nj cj bs qs Ba Ca _ Da.o Kb HS.o Jb Nb.o).mono ?_;rintro e Oa ⟨Ga,id,Ha,Ia,Ja,m0,I,J,Q,V,T,Y,Z,L,U,Ka,La,t1,t2,p1,p2,p3,p4,a1,a2,a3,a4,n1,n2,n3,n4,c1,c2,c3,c4,z1,z2,z3,z4,rfl,⟨x1,x2,x3,x4⟩,⟨f1,f2,f3,f4⟩,Wa,hr,hg⟩;go_simp;have Db:=Hd (Lb.o.grown hg (by simp;omega));have Xa:=Hd (Na.o.grown hg (by simp;omega));have Eb:=Hd hr;have Fb:=Hd (Ob.o.trans hg);have Gb:=Hd (Da.o.grown hg (fun g hg e=>by have:=(Da.o.lt g hg).1;have:=m2 e;omega));have S1:=Hd x1;have S2:=Hd x2;have S3:=Hd x3;have S4:=Hd x4;have Hb:=m8 Pb hg.size;refine hK.out _ _ trivial (fun hzz=>?_);refine uT (rs:=[4]) (by kernel_rfl) (by simp) ?_;apply uC
  case ho=>exact rfl
  case hs=>exact uJ
  intro Kk hK;have hC:=Yb.o ab aj nb cb nj cj bs (qs.map (·.1)) Ba Ca Ga id Ha Ia Ja m0 I J Q V T Y Z L U Ka La t1 t2 p1 p2 p3 p4 a1 a2 a3 a4 n1 n2 n3 n4 c1 c2 c3 c4 z1 z2 z3 z4 Oa Gb.o.sees S1.o S2.o S3.o S4.o (by omega) (by omega) (by omega) (by omega);have Pa:=gQ Ga id Ha Ia Ja m0 I J Q V T Y Z L U Ka La t1 t2 p1 p2 p3 p4 n1 n2 n3 n4 z1 z2 z3 z4 HF.o;generalize aZ Ba Ca bs (qs.map (·.1)) Ga id Ha Ia Ja m0 I J Q V T Y Z L U Ka La t1 t2 p1 p2 p3 p4 n1 n2 n3 n4 z1 z2 z3 z4=r at hC Pa;have Qb:=Hd Pa;go_simp;refine hC.mono ?_;rintro e Aa ⟨v2,rfl,eb,en,ec,fb,fn,fc,Qa,rfl,Ya,Za,hb⟩;go_simp;have Ab:=Db.b hb;have Ra:=Xa.b hb;have Bb:=Hd (Eb.o.grow hb);have Cb:=Hd (Fb.o.trans (aB hb _));have Sa:=Hd (Ya.mono Hb);have Rb:=Hd Za;refine hK.out _ _ trivial (fun hzz=>?_);refine tk 5 (.tuple #[.agg (aI r.1.now r.1.next eb en ec fb fn fc).toArray,it r.2.1,it r.2.2]) ?_ ?_
  ·intro wq Fa;go_simp
  refine tk 6 (.agg (aI r.1.now r.1.next eb en ec fb fn fc).toArray) ?_ ?_
  ·intro wq Fa;go_simp
  refine tk 7 (it r.2.1) ?_ ?_
  ·intro wq Fa;go_simp
  refine tk 8 (it r.2.2) ?_ ?_
  ·intro wq Fa;go_simp
  refine uT (rs:=[9]) (by kernel_rfl) (by simp) ?_;apply uC
  case ho=>exact rfl
  case hs=>exact uJ
  intro Kk hK;have tA:Aa.there (w.heap.size+1) 0 ((aI r.1.now r.1.next eb en ec fb fn fc):List Value).toArray.size:=Ra.o.there _ 4 (by simp);have iA:(prog.info? 27).map (·.size)=some ((aI r.1.now r.1.next eb en ec fb fn fc):List Value).toArray.size:=(show(prog.info? 27).map (·.size)=some 4 by kernel_rfl);with_reducible refine gg ?qg 27 (.tmp 5) (.tmp 22) ?qo (w.heap.size+1) 0 ((aI r.1.now r.1.next eb en ec fb fn fc):List Value).toArray ?qxz ?qyz tA iA ?q1 ?_
  case qg | qo=>exact rfl
  case qxz | qyz | q1=>kernel_rfl
  show Kk _ (Aa.setCells (w.heap.size+1) 0 (aI r.1.now r.1.next eb en ec fb fn fc));have Ea:=cm Aa (w.heap.size+1) 0 (aI r.1.now r.1.next eb en ec fb fn fc);have Sb:H9 (au (Aa.setCells (w.heap.size+1) 0 (aI r.1.now r.1.next eb en ec fb fn fc)) (w.heap.size+1) (aI r.1.now r.1.next eb en ec fb fn fc)):=Ra.o.setCells (aI r.1.now r.1.next eb en ec fb fn fc) 0 (by simp);have Tb:=Hd (Ab.o.grown Ea (by simp));have Ub:H9 (Rd w0 R ca Ua Va (Aa.setCells (w.heap.size+1) 0 (aI r.1.now r.1.next eb en ec fb fn fc))):=Bb.o.cells (by omega) (by omega) _;have Vb:=Hd (aK Cb.o Ea (by omega));have Wb:=Hd (Sa.o.grown Ea (fun g hg e=>by have:=(Sa.o.lt g hg).1;have:=m2 e;omega));refine hK.out _ _ trivial (fun hzz=>?_);refine bg ?_;go_simp;generalize(Aa.setCells (w.heap.size+1) 0 (aI r.1.now r.1.next eb en ec fb fn fc))=we at *;have Xb:H9 (M.Right r.1.now r.1.next r.1.bs (Qa.map (·.1))):=(by show M.Right _ _ _ _;rw[Rb.o];exact Qb.o);go_wp2;go_roundw
  case rel=>exact⟨n-1,r.1.now,r.1.next,eb,en,ec,r.1.bs,fb,fn,fc,Qa,by omega,by first | rw[Ec] | rfl | go_num,Tb.o,Sb.o,Ub.o,Vb.o,Wb.o,Xb.o⟩
  case measure=>simp[intOf];omega
 case hs=>
  apply uC
  case ho=>exact rfl
  case hs=>exact uJ
  intro Kk hK;with_reducible refine dr ?qg 27 (.tmp 5) ?qo (w.heap.size+1) 0 ?qxz (aI Ba Ca ab nb cb aj nj cj) _ Na.o.row underlying27 ?qd iL ?_
  case qg | qo=>exact rfl
  case qxz=>kernel_rfl
  case qd=>exact rfl
  refine hK.out _ _ trivial (fun hzz=>?_);refine uT (rs:=[0,3]) (by kernel_rfl) (by simp) ?_;apply uC
  case ho=>exact rfl
  case' h=>
   intro Kk hK;with_reducible refine dr ?qg 27 (.tmp 5) ?qo (w.heap.size+1) 0 ?qxz (aI Ba Ca ab nb cb aj nj cj) _ Na.o.row underlying27 ?qd iL ?_
   case qg | qo=>exact rfl
   case qxz=>kernel_rfl
   case qd=>exact rfl
   refine hK.out _ _ trivial (fun hzz=>?_);refine uT (rs:=[3]) (by kernel_rfl) (by simp) ?_;apply uC
   case ho=>exact rfl
   case hs=>exact uJ
   intro Kk hK;go_simp;refine(iJ w0 R ca Ua Va zs Ib.o (w.heap.size+2) ab aj nb cb nj cj bs qs Ba Ca _ Da.o Kb HS.o Jb Nb.o).mono ?_;rintro e Oa ⟨Ga,id,Ha,Ia,Ja,m0,I,J,Q,V,T,Y,Z,L,U,Ka,La,t1,t2,p1,p2,p3,p4,a1,a2,a3,a4,n1,n2,n3,n4,c1,c2,c3,c4,z1,z2,z3,z4,rfl,⟨x1,x2,x3,x4⟩,⟨f1,f2,f3,f4⟩,Wa,hr,hg⟩;go_simp;have Db:=Hd (Lb.o.grown hg (by simp;omega));have Xa:=Hd (Na.o.grown hg (by simp;omega));have Eb:=Hd hr;have Fb:=Hd (Ob.o.trans hg);have Gb:=Hd (Da.o.grown hg (fun g hg e=>by have:=(Da.o.lt g hg).1;have:=m2 e;omega));have S1:=Hd x1;have S2:=Hd x2;have S3:=Hd x3;have S4:=Hd x4;have Hb:=m8 Pb hg.size
  case' hs=>
   apply uC
   case ho=>exact rfl
   case hs=>exact uJ
   intro Kk hK;go_simp;refine(iJ w0 R ca Ua Va zs Ib.o (w.heap.size+2) ab aj nb cb nj cj bs qs Ba Ca _ Da.o Kb HS.o Jb Nb.o).mono ?_;rintro e Oa ⟨Ga,id,Ha,Ia,Ja,m0,I,J,Q,V,T,Y,Z,L,U,Ka,La,t1,t2,p1,p2,p3,p4,a1,a2,a3,a4,n1,n2,n3,n4,c1,c2,c3,c4,z1,z2,z3,z4,rfl,⟨x1,x2,x3,x4⟩,⟨f1,f2,f3,f4⟩,Wa,hr,hg⟩;go_simp;have Db:=Hd (Lb.o.grown hg (by simp;omega));have Xa:=Hd (Na.o.grown hg (by simp;omega));have Eb:=Hd hr;have Fb:=Hd (Ob.o.trans hg);have Gb:=Hd (Da.o.grown hg (fun g hg e=>by have:=(Da.o.lt g hg).1;have:=m2 e;omega));have S1:=Hd x1;have S2:=Hd x2;have S3:=Hd x3;have S4:=Hd x4;have Hb:=m8 Pb hg.size;refine hK.out _ _ trivial (fun hzz=>?_);refine uT (rs:=[0]) (by kernel_rfl) (by simp) ?_;apply uC
   case ho=>exact rfl
   case hs=>exact uJ
   intro Kk hK;with_reducible refine dr ?qg 27 (.tmp 5) ?qo (w.heap.size+1) 0 ?qxz (aI Ba Ca ab nb cb aj nj cj) _ Xa.o.row underlying27 ?qd iL ?_
   case qg | qo=>exact rfl
   case qxz=>kernel_rfl
   case qd=>exact rfl
  all_goals
   refine hK.out _ _ trivial (fun hzz=>?_);refine uT (rs:=[4]) (by kernel_rfl) (by simp) ?_;apply uC
   case ho=>exact rfl
   case hs=>exact uJ
   intro Kk hK;have hC:=Yb.o ab aj nb cb nj cj bs (qs.map (·.1)) Ba Ca Ga id Ha Ia Ja m0 I J Q V T Y Z L U Ka La t1 t2 p1 p2 p3 p4 a1 a2 a3 a4 n1 n2 n3 n4 c1 c2 c3 c4 z1 z2 z3 z4 Oa Gb.o.sees S1.o S2.o S3.o S4.o (by omega) (by omega) (by omega) (by omega);have Pa:=gQ Ga id Ha Ia Ja m0 I J Q V T Y Z L U Ka La t1 t2 p1 p2 p3 p4 n1 n2 n3 n4 z1 z2 z3 z4 HF.o;generalize aZ Ba Ca bs (qs.map (·.1)) Ga id Ha Ia Ja m0 I J Q V T Y Z L U Ka La t1 t2 p1 p2 p3 p4 n1 n2 n3 n4 z1 z2 z3 z4=r at hC Pa;have Qb:=Hd Pa;go_simp;refine hC.mono ?_;rintro e Aa ⟨v2,rfl,eb,en,ec,fb,fn,fc,Qa,rfl,Ya,Za,hb⟩;go_simp;have Ab:=Db.b hb;have Ra:=Xa.b hb;have Bb:=Hd (Eb.o.grow hb);have Cb:=Hd (Fb.o.trans (aB hb _));have Sa:=Hd (Ya.mono Hb);have Rb:=Hd Za;refine hK.out _ _ trivial (fun hzz=>?_);refine tk 5 (.tuple #[.agg (aI r.1.now r.1.next eb en ec fb fn fc).toArray,it r.2.1,it r.2.2]) ?_ ?_
   ·intro wq Fa;go_simp
   refine tk 6 (.agg (aI r.1.now r.1.next eb en ec fb fn fc).toArray) ?_ ?_
   ·intro wq Fa;go_simp
   refine tk 7 (it r.2.1) ?_ ?_
   ·intro wq Fa;go_simp
   refine tk 8 (it r.2.2) ?_ ?_
   ·intro wq Fa;go_simp
   refine uT (rs:=[9]) (by kernel_rfl) (by simp) ?_;apply uC
   case ho=>exact rfl
   case hs=>exact uJ
   intro Kk hK;have tA:Aa.there (w.heap.size+1) 0 ((aI r.1.now r.1.next eb en ec fb fn fc):List Value).toArray.size:=Ra.o.there _ 4 (by simp);have iA:(prog.info? 27).map (·.size)=some ((aI r.1.now r.1.next eb en ec fb fn fc):List Value).toArray.size:=(show(prog.info? 27).map (·.size)=some 4 by kernel_rfl);with_reducible refine gg ?qg 27 (.tmp 5) (.tmp 22) ?qo (w.heap.size+1) 0 ((aI r.1.now r.1.next eb en ec fb fn fc):List Value).toArray ?qxz ?qyz tA iA ?q1 ?_
   case qg | qo=>exact rfl
   case qxz | qyz | q1=>kernel_rfl
   show Kk _ (Aa.setCells (w.heap.size+1) 0 (aI r.1.now r.1.next eb en ec fb fn fc));have Ea:=cm Aa (w.heap.size+1) 0 (aI r.1.now r.1.next eb en ec fb fn fc);have Sb:H9 (au (Aa.setCells (w.heap.size+1) 0 (aI r.1.now r.1.next eb en ec fb fn fc)) (w.heap.size+1) (aI r.1.now r.1.next eb en ec fb fn fc)):=Ra.o.setCells (aI r.1.now r.1.next eb en ec fb fn fc) 0 (by simp);have Tb:=Hd (Ab.o.grown Ea (by simp));have Ub:H9 (Rd w0 R ca Ua Va (Aa.setCells (w.heap.size+1) 0 (aI r.1.now r.1.next eb en ec fb fn fc))):=Bb.o.cells (by omega) (by omega) _;have Vb:=Hd (aK Cb.o Ea (by omega));have Wb:=Hd (Sa.o.grown Ea (fun g hg e=>by have:=(Sa.o.lt g hg).1;have:=m2 e;omega));refine hK.out _ _ trivial (fun hzz=>?_);refine bg ?_;go_simp;generalize(Aa.setCells (w.heap.size+1) 0 (aI r.1.now r.1.next eb en ec fb fn fc))=we at *;have Xb:H9 (M.Right r.1.now r.1.next r.1.bs (Qa.map (·.1))):=(by show M.Right _ _ _ _;rw[Rb.o];exact Qb.o);go_wp2;go_roundw
   case rel=>exact⟨n-1,r.1.now,r.1.next,eb,en,ec,r.1.bs,fb,fn,fc,Qa,by omega,by first | rw[Ec] | rfl | go_num,Tb.o,Sb.o,Ub.o,Vb.o,Wb.o,Xb.o⟩
   case measure=>simp[intOf];omega
theorem qL:i7.p:=by
 intro w0 R ca Wa Xa zs Sc Tc Uc w Vc Bc Wc Xc Yc Zc wq Ad w1 n0 v0 v1 wr Bd Cd Dd Ed Fd Gd Id Jd Kd Ld Nd Od Pd n Fa Ga ab nb cb bs aj nj cj qs hn HF HS Cc Qd hp Sd Td Ud Vd Wd Xd Yd Zd Ae Be wa y y0 y1 Dc Ec Fc Gc Qb Ce De Nc;subst Nc;have Ee:R<w.heap.size+2:=(by omega);have Fe:nb≤9:=(by have h1:=iw HF.o.bn;have h2:=Qb.o.b.len;omega);(go_wp2_with fail);refine wp_region_noPanic ?_;refine wp_region_held_drew (S:=fun _=>True) (by kernel_rfl) (trivial) (fun hHeld=>?_);have Ya:m1 wa wa.drew:=(m5 _ _).drew;have Hc:=Dc.b Ya;have Hb:=Ec.b Ya;have Ic:=Hd (Fc.o.grow Ya);have Jc:=Hd (Gc.o.trans (aB Ya _));have Ib:=Hd (Qb.o.below Ya);have Ge:=trivial;generalize wa.drew=Kc at *;have Lc:w.heap.size+2≤Kc.heap.size:=(by have h9:=Hb.o.2.2;omega);refine tk 0 (.pointer (some ⟨w.heap.size+1,2,none⟩)) ?_ ?_
 ·intro wq Rb;go_simp
 refine tk 2 (.pointer (some ⟨R,0,none⟩)) ?_ ?_
 ·intro wq Rb;go_simp
 refine uT (rs:=[1,3]) (by kernel_rfl) (by simp) ?_;apply uC
 case ho=>exact rfl
 case h=>
  intro Kk hK;have c2:=Hb.o.at 2;have c2':Kc.cell? ⟨w.heap.size+1,2,none⟩=some (.slice ab nb cb):=c2;with_reducible refine dc ?qg 24 (.tmp 34) ?qo ⟨w.heap.size+1,2,none⟩ ?qxz (.slice ab nb cb) (i5 c2') ?_
  case qg | qo=>exact rfl
  case qxz=>kernel_rfl
  refine hK.out _ _ trivial (fun hzz=>?_);refine uT (rs:=[3]) (by kernel_rfl) (by simp) ?_;apply uC
  case ho=>exact rfl
  case hs=>exact uJ
  intro Kk hK;go_simp;refine(eO Bc.o 1 9 (by decide) (by decide) (by decide) _ Ic.o).mono ?_;rintro e Na ⟨z,Sb,Tb,rfl,hr,hg⟩;go_simp;have Jb:=Hd (Hc.o.grown hg (by simp;omega));have Bb:=Hd (Hb.o.grown hg (by simp;omega));have Kb:=Hd hr;have Lb:=Hd (Jc.o.trans hg);have Nb:=Hd (Ib.o.grown hg (fun g hg e=>by have:=(Ib.o.lt g hg).1;have:=m2 e;omega));have Ob:=m8 Lc hg.size;refine hK.out _ _ trivial (fun hzz=>?_);refine uT (rs:=[4]) (by kernel_rfl) (by simp) ?_;apply uC
  case ho=>exact rfl
  case hs=>exact uJ
  intro Kk hK;with_reducible refine dz ?qg (fun x=>.slice (some ⟨x,0,none⟩) 1 1) (Na.alloc (.cells #[it z] 2)) ?qrun ?_
  case qg=>exact rfl
  case qrun=>kernel_rfl
  intro gb Ka Ra La;have Ca:=eK Na (.cells #[it z] 2);rw[La]at Ca;have Za:=Jb.b Ca;have Ta:=Bb.b Ca;have Ab:=Hd (Kb.o.grow Ca);have Ha:=Hd (Lb.o.trans (aB Ca _));have Sa:=Hd (Nb.o.below Ca);have LJ:H9 (au Ka gb [it z]):=(by show au Ka gb _;rw[←La,←Ra];exact aO _ _ _);have Pb:=m8 Ob Ca.size;refine hK.out _ _ trivial (fun hzz=>?_);refine uT (rs:=[5]) (by kernel_rfl) (by simp) ?_;apply uC
  case ho=>exact rfl
  case hs=>exact uJ
  intro Kk hK;have Ub:nb≤1000:=(by omega);with_reducible refine oU ?qg (.tmp 35) (.tmp 38) ?qo ?qsz gb ?qnz Sa.o z LJ.o Ub Pb ?_
  case qg | qo=>exact rfl
  case qsz | qnz=>kernel_rfl
  intro Aa Ba Ia Cb Da;have Ja:∀g,(Value.slice ab nb cb).ownBlock=some g→w.heap.size+2≤g:=fun g e=>(Sa.o.lt g (by simp[bY,bq e])).1;have Db:=Hd (Za.o.grown Da (fun e=>by have:=Ja _ e;omega));have Oa:=Hd (Ta.o.grown Da (fun e=>by have:=Ja _ e;omega));have Ua:=Hd Cb;have Eb:H9 (Rd w0 R ca Wa Xa Ia):=Ab.o.keep Da (fun x hx=>by have:=Ja x.block (by rw[hx];rfl);omega) (fun x hx=>by have:=Ja x.block (by rw[hx];rfl);omega);have Fb:H9 (w.grownBy Ia (some R)):=⟨Da.os.trans Ha.o.os,Da.tape.trans Ha.o.tape,Da.output.trans Ha.o.output,m8 Ha.o.size Da.size,fun i hi hr=>(Da.block i (uL hi Ha.o.size) (fun e=>by have:=Ja i e.symm;omega)).trans (Ha.o.block i hi hr)⟩;refine hK.out _ _ trivial (fun hzz=>?_);refine tk 6 (.pointer (some ⟨w.heap.size+1,2,none⟩)) ?_ ?_
  ·intro wq Rb;go_simp
  refine uT (rs:=[7]) (by kernel_rfl) (by simp) ?_;apply uC
  case ho=>exact rfl
  case hs=>exact uJ
  intro Kk hK;have c2:=Oa.c 2;have f2:=Oa.o.fr 2;go_simp;have Pa:Ia.grownBy (Ia.setCell ⟨w.heap.size+1,2,none⟩ (.slice Aa (nb+1) Ba)) (some (w.heap.size+1)):=aU _ _ _;have Qa:H9 (au (Ia.setCell ⟨w.heap.size+1,2,none⟩ (.slice Aa (nb+1) Ba)) (w.heap.size+1) (aI Fa Ga Aa (nb+1) Ba aj nj cj)):=Oa.o.set 2 (by simp) _;have Ea:=Hd (Db.o.grown Pa (by simp));have Vb:H9 (Rd w0 R ca Wa Xa (Ia.setCell ⟨w.heap.size+1,2,none⟩ (.slice Aa (nb+1) Ba))):=Eb.o.setS (by omega) (by omega);have Wb:=Hd (aK Fb.o Pa (by omega));have Gb:=Hd (Ua.o.grown Pa (fun g hg e=>by have:=(Ua.o.lt g hg).1;have:=m2 e;omega));refine hK.out _ _ trivial (fun hzz=>?_);refine bg ?_;go_simp;generalize(Ia.setCell ⟨w.heap.size+1,2,none⟩ (.slice Aa (nb+1) Ba))=wg at *;have r0:=Ea.c 0;have Oc:=Ea.o.fr 0;have r1:=Ea.c 1;have Pc:=Ea.o.fr 1;have r2:=Ea.c 2;have Qc:=Ea.o.fr 2;have r3:=Ea.c 3;have Rc:=Ea.o.fr 3;have o0:=Qa.c 0;have o1:=Qa.c 1;have o2:=Qa.c 2;have o3:=Qa.c 3;(go_wp2_with fail);show bodyPost _ _ _ _ _ (wg.setCells w.heap.size 0 (aI Fa Ga Aa (nb+1) Ba aj nj cj));have Xb:au (wg.setCells w.heap.size 0 (aI Fa Ga Aa (nb+1) Ba aj nj cj)) w.heap.size (aI Fa Ga Aa (nb+1) Ba aj nj cj):=Ea.o.setCells (aI Fa Ga Aa (nb+1) Ba aj nj cj) 0 (by simp);have Va:=cm wg w.heap.size 0 (aI Fa Ga Aa (nb+1) Ba aj nj cj);have Yb:Rd w0 R ca Wa Xa (wg.setCells w.heap.size 0 (aI Fa Ga Aa (nb+1) Ba aj nj cj)):=Vb.o.cells (by omega) (by omega) _;have Zb:=aK Wb.o Va (m3 _);have Ac:=(Gb.o.grown Va (fun g hg e=>by have:=(Gb.o.lt g hg).1;have:=m2 e;omega)).mono (show w.heap.size≤w.heap.size+2 by omega);generalize(wg.setCells w.heap.size 0 (aI Fa Ga Aa (nb+1) Ba aj nj cj))=wf at *;exact m7 (aS rfl rfl (uN wf w.heap.size 0 27 _ _ Xb.row underlying27 rfl (by kernel_rfl))) rfl ⟨_,_,_,_,_,_,_,_,_,_,rfl,Ac,HS.o,Cc,Yb,Zb⟩
 case hs=>
  apply uC
  case ho=>exact rfl
  case hs=>exact uJ
  intro Kk hK;go_simp;refine(eO Bc.o 1 9 (by decide) (by decide) (by decide) _ Ic.o).mono ?_;rintro e Na ⟨z,Sb,Tb,rfl,hr,hg⟩;go_simp;have Jb:=Hd (Hc.o.grown hg (by simp;omega));have Bb:=Hd (Hb.o.grown hg (by simp;omega));have Kb:=Hd hr;have Lb:=Hd (Jc.o.trans hg);have Nb:=Hd (Ib.o.grown hg (fun g hg e=>by have:=(Ib.o.lt g hg).1;have:=m2 e;omega));have Ob:=m8 Lc hg.size;refine hK.out _ _ trivial (fun hzz=>?_);refine uT (rs:=[1,4]) (by kernel_rfl) (by simp) ?_;apply uC
  case ho=>exact rfl
  case' h=>
   intro Kk hK;have c2:=Bb.o.at 2;have c2':Na.cell? ⟨w.heap.size+1,2,none⟩=some (.slice ab nb cb):=c2;with_reducible refine dc ?qg 24 (.tmp 34) ?qo ⟨w.heap.size+1,2,none⟩ ?qxz (.slice ab nb cb) (i5 c2') ?_
   case qg | qo=>exact rfl
   case qxz=>kernel_rfl
   refine hK.out _ _ trivial (fun hzz=>?_);refine uT (rs:=[4]) (by kernel_rfl) (by simp) ?_;apply uC
   case ho=>exact rfl
   case hs=>exact uJ
   intro Kk hK;with_reducible refine dz ?qg (fun x=>.slice (some ⟨x,0,none⟩) 1 1) (Na.alloc (.cells #[it z] 2)) ?qrun ?_
   case qg=>exact rfl
   case qrun=>kernel_rfl
   intro gb Ka Ra La;have Ca:=eK Na (.cells #[it z] 2);rw[La]at Ca;have Za:=Jb.b Ca;have Ta:=Bb.b Ca;have Ab:=Hd (Kb.o.grow Ca);have Ha:=Hd (Lb.o.trans (aB Ca _));have Sa:=Hd (Nb.o.below Ca);have LJ:H9 (au Ka gb [it z]):=(by show au Ka gb _;rw[←La,←Ra];exact aO _ _ _);have Pb:=m8 Ob Ca.size
  case' hs=>
   apply uC
   case ho=>exact rfl
   case hs=>exact uJ
   intro Kk hK;with_reducible refine dz ?qg (fun x=>.slice (some ⟨x,0,none⟩) 1 1) (Na.alloc (.cells #[it z] 2)) ?qrun ?_
   case qg=>exact rfl
   case qrun=>kernel_rfl
   intro gb Ka Ra La;have Ca:=eK Na (.cells #[it z] 2);rw[La]at Ca;have Za:=Jb.b Ca;have Ta:=Bb.b Ca;have Ab:=Hd (Kb.o.grow Ca);have Ha:=Hd (Lb.o.trans (aB Ca _));have Sa:=Hd (Nb.o.below Ca);have LJ:H9 (au Ka gb [it z]):=(by show au Ka gb _;rw[←La,←Ra];exact aO _ _ _);have Pb:=m8 Ob Ca.size;refine hK.out _ _ trivial (fun hzz=>?_);refine uT (rs:=[1]) (by kernel_rfl) (by simp) ?_;apply uC
   case ho=>exact rfl
   case hs=>exact uJ
   intro Kk hK;have c2:=Ta.o.at 2;have c2':Ka.cell? ⟨w.heap.size+1,2,none⟩=some (.slice ab nb cb):=c2;with_reducible refine dc ?qg 24 (.tmp 34) ?qo ⟨w.heap.size+1,2,none⟩ ?qxz (.slice ab nb cb) (i5 c2') ?_
   case qg | qo=>exact rfl
   case qxz=>kernel_rfl
  all_goals
   refine hK.out _ _ trivial (fun hzz=>?_);refine uT (rs:=[5]) (by kernel_rfl) (by simp) ?_;apply uC
   case ho=>exact rfl
   case hs=>exact uJ
   intro Kk hK;have Ub:nb≤1000:=(by omega);with_reducible refine oU ?qg (.tmp 35) (.tmp 38) ?qo ?qsz gb ?qnz Sa.o z LJ.o Ub Pb ?_
   case qg | qo=>exact rfl
   case qsz | qnz=>kernel_rfl
   intro Aa Ba Ia Cb Da;have Ja:∀g,(Value.slice ab nb cb).ownBlock=some g→w.heap.size+2≤g:=fun g e=>(Sa.o.lt g (by simp[bY,bq e])).1;have Db:=Hd (Za.o.grown Da (fun e=>by have:=Ja _ e;omega));have Oa:=Hd (Ta.o.grown Da (fun e=>by have:=Ja _ e;omega));have Ua:=Hd Cb;have Eb:H9 (Rd w0 R ca Wa Xa Ia):=Ab.o.keep Da (fun x hx=>by have:=Ja x.block (by rw[hx];rfl);omega) (fun x hx=>by have:=Ja x.block (by rw[hx];rfl);omega);have Fb:H9 (w.grownBy Ia (some R)):=⟨Da.os.trans Ha.o.os,Da.tape.trans Ha.o.tape,Da.output.trans Ha.o.output,m8 Ha.o.size Da.size,fun i hi hr=>(Da.block i (uL hi Ha.o.size) (fun e=>by have:=Ja i e.symm;omega)).trans (Ha.o.block i hi hr)⟩;refine hK.out _ _ trivial (fun hzz=>?_);refine tk 6 (.pointer (some ⟨w.heap.size+1,2,none⟩)) ?_ ?_
   ·intro wq Rb;go_simp
   refine uT (rs:=[7]) (by kernel_rfl) (by simp) ?_;apply uC
   case ho=>exact rfl
   case hs=>exact uJ
   intro Kk hK;have c2:=Oa.c 2;have f2:=Oa.o.fr 2;go_simp;have Pa:Ia.grownBy (Ia.setCell ⟨w.heap.size+1,2,none⟩ (.slice Aa (nb+1) Ba)) (some (w.heap.size+1)):=aU _ _ _;have Qa:H9 (au (Ia.setCell ⟨w.heap.size+1,2,none⟩ (.slice Aa (nb+1) Ba)) (w.heap.size+1) (aI Fa Ga Aa (nb+1) Ba aj nj cj)):=Oa.o.set 2 (by simp) _;have Ea:=Hd (Db.o.grown Pa (by simp));have Vb:H9 (Rd w0 R ca Wa Xa (Ia.setCell ⟨w.heap.size+1,2,none⟩ (.slice Aa (nb+1) Ba))):=Eb.o.setS (by omega) (by omega);have Wb:=Hd (aK Fb.o Pa (by omega));have Gb:=Hd (Ua.o.grown Pa (fun g hg e=>by have:=(Ua.o.lt g hg).1;have:=m2 e;omega));refine hK.out _ _ trivial (fun hzz=>?_);refine bg ?_;go_simp;generalize(Ia.setCell ⟨w.heap.size+1,2,none⟩ (.slice Aa (nb+1) Ba))=wg at *;have r0:=Ea.c 0;have Oc:=Ea.o.fr 0;have r1:=Ea.c 1;have Pc:=Ea.o.fr 1;have r2:=Ea.c 2;have Qc:=Ea.o.fr 2;have r3:=Ea.c 3;have Rc:=Ea.o.fr 3;have o0:=Qa.c 0;have o1:=Qa.c 1;have o2:=Qa.c 2;have o3:=Qa.c 3;(go_wp2_with fail);show bodyPost _ _ _ _ _ (wg.setCells w.heap.size 0 (aI Fa Ga Aa (nb+1) Ba aj nj cj));have Xb:au (wg.setCells w.heap.size 0 (aI Fa Ga Aa (nb+1) Ba aj nj cj)) w.heap.size (aI Fa Ga Aa (nb+1) Ba aj nj cj):=Ea.o.setCells (aI Fa Ga Aa (nb+1) Ba aj nj cj) 0 (by simp);have Va:=cm wg w.heap.size 0 (aI Fa Ga Aa (nb+1) Ba aj nj cj);have Yb:Rd w0 R ca Wa Xa (wg.setCells w.heap.size 0 (aI Fa Ga Aa (nb+1) Ba aj nj cj)):=Vb.o.cells (by omega) (by omega) _;have Zb:=aK Wb.o Va (m3 _);have Ac:=(Gb.o.grown Va (fun g hg e=>by have:=(Gb.o.lt g hg).1;have:=m2 e;omega)).mono (show w.heap.size≤w.heap.size+2 by omega);generalize(wg.setCells w.heap.size 0 (aI Fa Ga Aa (nb+1) Ba aj nj cj))=wf at *;exact m7 (aS rfl rfl (uN wf w.heap.size 0 27 _ _ Xb.row underlying27 rfl (by kernel_rfl))) rfl ⟨_,_,_,_,_,_,_,_,_,_,rfl,Ac,HS.o,Cc,Yb,Zb⟩
theorem oG:j1:=i7.h ⟨qL⟩ ⟨mF⟩
end Go.Proofs.YtjcjonncaknhnaaGreatDoor
