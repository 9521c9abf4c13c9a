import Derived.Test.YtobnifjhikoleaaGreatDoorPk23
namespace Go.Proofs.YtobnifjhikoleaaGreatDoor
open Go.RowKit Go.Proofs.Tryz
set_option linter.unusedSimpArgs false
set_option maxHeartbeats 32000000
variable {id s' l' tr Q now uN t' m0 J L T Y U Z m7 V A I t1 t2 p1 p2 p3 p4 c:Int}{bs z1 z2 z3 z4:List Int}{js:List M.Jb}{n1 n2 n3 n4 k i:Nat}{R:M.Mt×Int×Int}
set_option maxRecDepth 10000 in
theorem rU:gC.p4:=by
 intro ab aj nb cb nj cj bs js Ca Da Ib id Jb Fa Kb m0 J L T Y U Z m7 Q V Lb Nb t1 t2 p1 p2 p3 p4 a1 a2 a3 a4 n1 n2 n3 n4 c1 c2 c3 c4 z1 z2 z3 z4 w l1 l2 l3 l4 HM S1 S2 S3 S4 r Na wa wb C1 Oa HF wc bb Ob Pb jj Qb Rb qs Ga bc Ea wd bo Sb Pa Tb we Qa Ub Vb Wb Xb Yb Zb Ac Bc Cc Dc Ec Fc Gc Hc wf Ic Ha Ra Sa Ta Ba Ua Va;subst Va
 have hr:r=M.lease ⟨Ca,Da,bs,js⟩ Fa:=by
  rw[←Na.o];unfold ba M.acted;rw[if_neg (show ¬ M.Mt.ok ⟨Ca,Da,bs,js⟩=false by rw[show M.Mt.ok ⟨Ca,Da,bs,js⟩=true from Oa.o];simp),if_neg (by rw[Qa.o];simp)];unfold M.act;rw[if_neg (by decide),if_neg (by decide),if_neg (by decide),if_pos rfl]
 have Wa:=Ha.c 0;have Xa:=Ha.c 3;have o0:=Ba.c 0;have o1:=Ba.c 1;have o2:=Ba.c 2;have o3:=Ba.c 3;(go_wp2_with fail);clear o0 o1 o2 o3 Wa Xa;have Ya:H9 (bc≤wf.heap.size):=(by have h9:=Ba.o.2.2;have:=Pa.o;show bc≤_;omega);refine(oP Ca Da Fa _ Ta.o Ya.o (by rw[Ga];exact HF.o) Ua.o).mono ?_;rw[Ga,←hr];rintro e wg ⟨v,rfl,eb,en,ec,fb,fn,fc,Ia,rfl,hM,Za,hb⟩;have Ja:=Sa.o.trans (hb.mono (by have:=Ea.o;omega));have Aa:=Ra.o.below hb Ea.o;have Ka:=Hd hM;generalize Ab:r.1.now=nw;generalize Bb:r.1.next=nx;generalize Cb:r.2.1=cd;generalize Db:r.2.2=td;clear hr hM;have r0:=Aa.c 0;have Jc:=Aa.fr 0;have r1:=Aa.c 1;have Kc:=Aa.fr 1;have r2:=Aa.c 2;have Lc:=Aa.fr 2;have r3:=Aa.c 3;have Nc:=Aa.fr 3;(go_wp2_with fail);show bodyPost _ _ _ _ _ (wg.setCells (w.heap.size+1+1) 0 (aI nw nx eb en ec fb fn fc));have Eb:au (wg.setCells (w.heap.size+1+1) 0 (aI nw nx eb en ec fb fn fc)) (w.heap.size+1+1) (aI nw nx eb en ec fb fn fc):=Aa.setCells (aI nw nx eb en ec fb fn fc) 0 (by simp);have La:=ct wg (w.heap.size+1+1) 0 (aI nw nx eb en ec fb fn fc);have Fb:=Ja.trans (ap La Ja.size (fun z e=>by have:=m2 e;omega));have Gb:aW (wg.setCells (w.heap.size+1+1) 0 (aI nw nx eb en ec fb fn fc)) w.heap.size eb en ec r.1.bs fb fn fc Ia:=(Ka.o.grown La (fun g hg e=>by have:=(Ka.o.lt g hg).1;have:=m2 e;have:=Ea.o;omega)).mono (by have:=Ea.o;omega);have Hb:bD w w.heap.size r (.returned (.tuple #[.agg (aI nw nx eb en ec fb fn fc).toArray,it cd,it td])) (wg.setCells (w.heap.size+1+1) 0 (aI nw nx eb en ec fb fn fc)):=⟨.agg (aI nw nx eb en ec fb fn fc).toArray,by rw[Cb,Db],eb,en,ec,fb,fn,fc,Ia,by rw[Ab,Bb],Gb,Za,Fb⟩;generalize(wg.setCells (w.heap.size+1+1) 0 (aI nw nx eb en ec fb fn fc))=wz at *;exact m8 (aJ rfl rfl (u' wz (w.heap.size+1+1) 0 27 _ _ Eb.row underlying27 rfl (by kernel_rfl))) rfl Hb
set_option maxRecDepth 10000 in
theorem qn:gC.p5:=by
 intro ab aj nb cb nj cj bs js Ea Fa Ua id Ba Ga Ja m0 J L T Y U Z m7 Q V Ka La t1 t2 p1 p2 p3 p4 a1 a2 a3 a4 n1 n2 n3 n4 c1 c2 c3 c4 z1 z2 z3 z4 w l1 l2 l3 l4 HM S1 S2 S3 S4 r Va wa wb C1 Wa HF wc bb Xa Ya jj Za Ab qs Bb bc Ha wd bo Wb Cb Xb we Db Yb Zb Ac Eb Fb Bc Cc Dc Ec Fc Gc Hc Ic Jc wf Kc Na Gb Ca Hb Da Ib Jb;obtain⟨rfl,Lc,Ia⟩:Ua=3∧M.inB id 1 1000000000=true∧M.inB Ba 0 7=true:=Fb.o.resolve_left Jb;unfold M.inB at Ia;simp only[vl,decide_eq_true_eq]at Ia;have Kb:Ga≠0:=by have h9:=Eb.o;unfold M.inB at h9;simp only[vl,decide_eq_true_eq]at h9;omega
 have hr:r=M.back (cn Ba ⟨(p1,p2),(p3,p4),z1,z2,z3,z4⟩) ⟨Ea,Fa,bs,js⟩ Ga id Ba:=by
  rw[←Va.o];unfold ba M.acted;rw[if_neg (show ¬ M.Mt.ok ⟨Ea,Fa,bs,js⟩=false by rw[show M.Mt.ok ⟨Ea,Fa,bs,js⟩=true from Wa.o];simp),if_neg (by rw[Db.o];simp)];unfold M.act;rw[if_neg (by decide),if_neg (by decide),if_neg (by decide),if_neg (by decide)]
 have Nc:=Na.c 0;have o0:=Da.c 0;have o1:=Da.c 1;have o2:=Da.c 2;have o3:=Da.c 3;have hR:=Na.o.row;(go_wp2_with(with_reducible refine aA 146 ?_ ?_;rfl));with_reducible refine fu 37 (w.heap.size+1) 0 (bH 3 id Ba Ga Ja m0 J L T Y U Z m7 Q V Ka La t1 t2 p1 p2 p3 p4 a1 n1 c1 a2 n2 c2 a3 n3 c3 a4 n4 c4) hR underlying37 ?q5 ?_
 case q5=>exact⟨rfl,rfl,by kernel_rfl,_,rfl,by kernel_rfl⟩
 (go_wp2_with fail);have Lb:H9 (bc≤wf.heap.size):=(by have h9:=Da.o.2.2;have:=Cb.o;show bc≤_;omega);refine(mI bc bb jj Xa Ya Za Ab bs qs Ea Fa 3 id Ba Ga Ja m0 J L T Y U Z m7 Q V Ka La t1 t2 p1 p2 p3 p4 a1 a2 a3 a4 n1 n2 n3 n4 c1 c2 c3 c4 z1 z2 z3 z4 _ Hb.o Lb.o (S1.o.below Ca.o) (S2.o.below Ca.o) (S3.o.below Ca.o) (S4.o.below Ca.o) l1 l2 l3 l4 Ia.1 Ia.2).mono ?_;intro e wg Oa;have Pa:=Oa.act Kb Ib.o;clear Oa;rw[Bb,←hr]at Pa;obtain⟨v,rfl,eb,en,ec,fb,fn,fc,Qa,rfl,hM,Nb,hb⟩:=Pa;have Ra:=Ca.o.trans (hb.mono (by have:=Ha.o;omega));have Aa:=Gb.o.below hb Ha.o;have Sa:=Hd hM;generalize Ob:r.1.now=nw;generalize Pb:r.1.next=nx;generalize Qb:r.2.1=cd;generalize Rb:r.2.2=td;have r0:=Aa.c 0;have Oc:=Aa.fr 0;have r1:=Aa.c 1;have Pc:=Aa.fr 1;have r2:=Aa.c 2;have Qc:=Aa.fr 2;have r3:=Aa.c 3;have Rc:=Aa.fr 3;(go_wp2_with fail);show bodyPost _ _ _ _ _ (wg.setCells (w.heap.size+1+1) 0 (aI nw nx eb en ec fb fn fc));have Sb:au (wg.setCells (w.heap.size+1+1) 0 (aI nw nx eb en ec fb fn fc)) (w.heap.size+1+1) (aI nw nx eb en ec fb fn fc):=Aa.setCells (aI nw nx eb en ec fb fn fc) 0 (by simp);have Ta:=ct wg (w.heap.size+1+1) 0 (aI nw nx eb en ec fb fn fc);have Tb:=Ra.trans (ap Ta Ra.size (fun z e=>by have:=m2 e;omega));have Ub:aW (wg.setCells (w.heap.size+1+1) 0 (aI nw nx eb en ec fb fn fc)) w.heap.size eb en ec r.1.bs fb fn fc Qa:=(Sa.o.grown Ta (fun g hg e=>by have:=(Sa.o.lt g hg).1;have:=m2 e;have:=Ha.o;omega)).mono (by have:=Ha.o;omega);have Vb:bD w w.heap.size r (.returned (.tuple #[.agg (aI nw nx eb en ec fb fn fc).toArray,it cd,it td])) (wg.setCells (w.heap.size+1+1) 0 (aI nw nx eb en ec fb fn fc)):=⟨.agg (aI nw nx eb en ec fb fn fc).toArray,by rw[Qb,Rb],eb,en,ec,fb,fn,fc,Qa,by rw[Ob,Pb],Ub,Nb,Tb⟩;generalize(wg.setCells (w.heap.size+1+1) 0 (aI nw nx eb en ec fb fn fc))=wz at *;exact m8 (aJ rfl rfl (u' wz (w.heap.size+1+1) 0 27 _ _ Sb.row underlying27 rfl (by kernel_rfl))) rfl Vb
theorem nM{bare mok sok rok Q non wk idk p7:Bool}(h:M.formB 4 id s' l' tr bare mok sok rok Q non wk idk p7 (M.inB tr 1 1000000000)=true):1≤tr∧tr≤1000000000:=by
 unfold M.formB at h;simp only[show ¬ (4:Int)=1 by decide,show ¬ (4:Int)=2 by decide,show ¬ (4:Int)=3 by decide,if_false,if_true,vl]at h;have h9:M.inB tr 1 1000000000=true:=(by simp_all);unfold M.inB at h9;simp only[vl,decide_eq_true_eq]at h9;exact h9
theorem lB(n:Int):bt n 0=M.dueT n:=by
 funext t
 unfold bt M.dueT M.leased;by_cases h:t.l'=0 <;> simp[h]
set_option maxRecDepth 10000 in
theorem sV:gC.p2:=by
 intro ab aj nb cb nj cj bs js Ba Aa Ub id Vb Wb Ca m0 J L T Y U Z m7 Q V Xb Yb t1 t2 p1 p2 p3 p4 a1 a2 a3 a4 n1 n2 n3 n4 c1 c2 c3 c4 z1 z2 z3 z4 w l1 l2 l3 l4 HM S1 S2 S3 S4 r Gb wa wb C1 Hb HF wc bb Da Ea jj Fa Ga qs Xa bc Ia Zb Ac Bc Cc Dc Ec wd bo Fc La Ya we Ib Za Ab Qa Bb Ka Cb Gc Jb;subst Jb;obtain⟨Hc,Ic⟩:=nM Cb.o;have Jc:=HF.o.now0;have Kc:=HF.o.now1
 have hr:r=M.tick ⟨Ba,Aa,bs,js⟩ Ca:=by
  rw[←Gb.o];unfold ba M.acted;rw[if_neg (show ¬ M.Mt.ok ⟨Ba,Aa,bs,js⟩=false by rw[show M.Mt.ok ⟨Ba,Aa,bs,js⟩=true from Hb.o];simp),if_neg (by rw[Cb.o];simp)];unfold M.act;rw[if_neg (by decide),if_pos rfl]
 have Db:=Hd hr;have Kb:=Za.c 0;have Lb:=Za.c 4;have Nb:=Ib.c 0;have o0:=Ka.c 0;have o1:=Ka.c 1;have o2:=Ka.c 2;have o3:=Ka.c 3;have Ob:=Ka.o.fr 0;have Pb:IntKind.i64.wrap (Ba+Ca)=Ba+Ca:=(by rw[vi];omega);(go_wp2_with fail);clear o0 o1 o2 o3 Kb Lb Nb Ob Pb
 have hr:r=(⟨(Ba+Ca),Aa,bs,js.map (M.freeJ (M.dueT (Ba+Ca)))⟩,0,0):=(by rw[Db.o];unfold M.tick M.tickN;dsimp only;rw[if_pos (by omega)]);subst hr;have Ja:we.grownBy (we.setCell ⟨bo,0,none⟩ (it (Ba+Ca))) (some bo):=aT _ _ _;have Ra:=Bb.o.grown Ja (fun g hg e=>by have:=Ya.o g hg;have:=m2 e;omega);have Sa:=Ab.o.grown Ja (fun e=>by have:=m2 e;have:=Ia.o;have:=La.o;omega);have Ta:=Qa.o.trans (ap Ja Qa.o.size (fun z e=>by have:=m2 e;have:=Ia.o;have:=La.o;omega));have Ua:bc≤(we.setCell ⟨bo,0,none⟩ (it (Ba+Ca))).heap.size:=(by have h9:=Ka.o.2.2;have h8:=Ja.size;have:=La.o;omega);generalize(we.setCell ⟨bo,0,none⟩ (it (Ba+Ca)))=wg at *;refine(iw (Ba+Ca) Aa 0 _ Ra Ua).mono ?_;rintro e wh ⟨rfl,hM,_,hb⟩;have Na:=Ta.trans (hb.mono (by have:=Ia.o;omega));have Ha:=Sa.below hb Ia.o;have Oa:=Hd hM;have hq':(qs.map (MQ.fr (bt (Ba+Ca) 0))).map (·.1)=js.map (M.freeJ (M.dueT (Ba+Ca))):=(by rw[lB,←Xa,List.map_map,List.map_map];rfl);have r0:=Ha.c 0;have Qb:=Ha.fr 0;have r1:=Ha.c 1;have Rb:=Ha.fr 1;have r2:=Ha.c 2;have Sb:=Ha.fr 2;have r3:=Ha.c 3;have Tb:=Ha.fr 3;(go_wp2_with fail);show bodyPost _ _ _ _ _ (wh.setCells (w.heap.size+1+1) 0 (aI (Ba+Ca) Aa bb Da Ea jj Fa Ga));have Eb:au (wh.setCells (w.heap.size+1+1) 0 (aI (Ba+Ca) Aa bb Da Ea jj Fa Ga)) (w.heap.size+1+1) (aI (Ba+Ca) Aa bb Da Ea jj Fa Ga):=Ha.setCells (aI (Ba+Ca) Aa bb Da Ea jj Fa Ga) 0 (by simp);have Pa:=ct wh (w.heap.size+1+1) 0 (aI (Ba+Ca) Aa bb Da Ea jj Fa Ga);have Va:=Na.trans (ap Pa Na.size (fun z e=>by have:=m2 e;omega));have Wa:aW (wh.setCells (w.heap.size+1+1) 0 (aI (Ba+Ca) Aa bb Da Ea jj Fa Ga)) w.heap.size bb Da Ea bs jj Fa Ga (qs.map (MQ.fr (bt (Ba+Ca) 0))):=(Oa.o.grown Pa (fun g hg e=>by have:=(Oa.o.lt g hg).1;have:=m2 e;have:=Ia.o;omega)).mono (by have:=Ia.o;omega);have Fb:bD w w.heap.size (⟨(Ba+Ca),Aa,bs,js.map (M.freeJ (M.dueT (Ba+Ca)))⟩,0,0) (.returned (.tuple #[.agg (aI (Ba+Ca) Aa bb Da Ea jj Fa Ga).toArray,it 0,it 0])) (wh.setCells (w.heap.size+1+1) 0 (aI (Ba+Ca) Aa bb Da Ea jj Fa Ga)):=⟨_,rfl,_,_,_,_,_,_,_,rfl,Wa,hq',Va⟩;generalize(wh.setCells (w.heap.size+1+1) 0 (aI (Ba+Ca) Aa bb Da Ea jj Fa Ga))=wz at *
 rotate_left
 have hr:r=(⟨1000000000,Aa,bs,js.map (M.freeJ (M.dueT 1000000000))⟩,0,0):=(by rw[Db.o];unfold M.tick M.tickN;dsimp only;rw[if_neg (by omega)]);subst hr;have Ja:we.grownBy (we.setCell ⟨bo,0,none⟩ (it 1000000000)) (some bo):=aT _ _ _;have Ra:=Bb.o.grown Ja (fun g hg e=>by have:=Ya.o g hg;have:=m2 e;omega);have Sa:=Ab.o.grown Ja (fun e=>by have:=m2 e;have:=Ia.o;have:=La.o;omega);have Ta:=Qa.o.trans (ap Ja Qa.o.size (fun z e=>by have:=m2 e;have:=Ia.o;have:=La.o;omega));have Ua:bc≤(we.setCell ⟨bo,0,none⟩ (it 1000000000)).heap.size:=(by have h9:=Ka.o.2.2;have h8:=Ja.size;have:=La.o;omega);generalize(we.setCell ⟨bo,0,none⟩ (it 1000000000))=wg at *;refine(iw 1000000000 Aa 0 _ Ra Ua).mono ?_;rintro e wh ⟨rfl,hM,_,hb⟩;have Na:=Ta.trans (hb.mono (by have:=Ia.o;omega));have Ha:=Sa.below hb Ia.o;have Oa:=Hd hM;have hq':(qs.map (MQ.fr (bt 1000000000 0))).map (·.1)=js.map (M.freeJ (M.dueT 1000000000)):=(by rw[lB,←Xa,List.map_map,List.map_map];rfl);have r0:=Ha.c 0;have Qb:=Ha.fr 0;have r1:=Ha.c 1;have Rb:=Ha.fr 1;have r2:=Ha.c 2;have Sb:=Ha.fr 2;have r3:=Ha.c 3;have Tb:=Ha.fr 3;(go_wp2_with fail);show bodyPost _ _ _ _ _ (wh.setCells (w.heap.size+1+1) 0 (aI 1000000000 Aa bb Da Ea jj Fa Ga));have Eb:au (wh.setCells (w.heap.size+1+1) 0 (aI 1000000000 Aa bb Da Ea jj Fa Ga)) (w.heap.size+1+1) (aI 1000000000 Aa bb Da Ea jj Fa Ga):=Ha.setCells (aI 1000000000 Aa bb Da Ea jj Fa Ga) 0 (by simp);have Pa:=ct wh (w.heap.size+1+1) 0 (aI 1000000000 Aa bb Da Ea jj Fa Ga);have Va:=Na.trans (ap Pa Na.size (fun z e=>by have:=m2 e;omega));have Wa:aW (wh.setCells (w.heap.size+1+1) 0 (aI 1000000000 Aa bb Da Ea jj Fa Ga)) w.heap.size bb Da Ea bs jj Fa Ga (qs.map (MQ.fr (bt 1000000000 0))):=(Oa.o.grown Pa (fun g hg e=>by have:=(Oa.o.lt g hg).1;have:=m2 e;have:=Ia.o;omega)).mono (by have:=Ia.o;omega);have Fb:bD w w.heap.size (⟨1000000000,Aa,bs,js.map (M.freeJ (M.dueT 1000000000))⟩,0,0) (.returned (.tuple #[.agg (aI 1000000000 Aa bb Da Ea jj Fa Ga).toArray,it 0,it 0])) (wh.setCells (w.heap.size+1+1) 0 (aI 1000000000 Aa bb Da Ea jj Fa Ga)):=⟨_,rfl,_,_,_,_,_,_,_,rfl,Wa,hq',Va⟩;generalize(wh.setCells (w.heap.size+1+1) 0 (aI 1000000000 Aa bb Da Ea jj Fa Ga))=wz at *
 rotate_left
 all_goals
  exact m8 (aJ rfl rfl (u' wz (w.heap.size+1+1) 0 27 _ _ Eb.row underlying27 rfl (by kernel_rfl))) rfl Fb
set_option maxRecDepth 10000 in
theorem qj:gC.p3:=by
 intro ab aj nb cb nj cj bs js Aa Ba Ce id De Ee Fe m0 J L T Y U Z m7 Q V Ge He t1 t2 p1 p2 p3 p4 a1 a2 a3 a4 n1 n2 n3 n4 c1 c2 c3 c4 z1 z2 z3 z4 w l1 l2 l3 l4 HM S1 S2 S3 S4 r Yc wa wb C1 Zc HF wc bb Da Ea jj Ca Fa qs Ua bc Ad Ie Je Ke Le Ne Oe wd bo Pe Bd Fc we Za Gc Cd Rb Dd Ed Fd Qe Re Gd;subst Gd;have Se:=HM.o.j.len;have Te:=HF.o.few;have Ue:=Ad.o;have Ve:=Bd.o
 have hr:r=M.cancel ⟨Aa,Ba,bs,js⟩ id:=by
  rw[←Yc.o];unfold ba M.acted;rw[if_neg (show ¬ M.Mt.ok ⟨Aa,Ba,bs,js⟩=false by rw[show M.Mt.ok ⟨Aa,Ba,bs,js⟩=true from Zc.o];simp),if_neg (by rw[Fd.o];simp)];unfold M.act;rw[if_neg (by decide),if_neg (by decide),if_pos rfl]
 have Gb:=Hd hr;clear hr;have CJ:=fun W (h:eB W aj nj cj js)=>lN (ab:=ab) (nb:=nb) (cb:=cb) Aa Ba id W h;have Hc:=M.jobAt_some id js 0;generalize Ab:M.jobAt id 0 js=Id at CJ Hc;have Va:=Hd Ab;have Jd:=Hd Hc;have We:=Gc.c 0;have Xe:=Gc.c 1;have Ye:=Za.c 0;have Ze:=Za.c 1;have Af:=Za.c 2;have Kd:=Za.c 3;(go_wp2_with fail);refine(CJ _ (HM.o.j.below Rb.o)).mono ?_;rintro e wf ⟨rfl,hb⟩;have Ic:=Za.b hb;have Ha:=Cd.b hb;have Na:=Rb.t hb;have Wa:=Hd (Dd.o.below hb);have La:=Ed.b hb;by_cases Ld:Id<0
 case pos=>
  have r0:=Ha.c 0;have Sb:=Ha.o.fr 0;have r1:=Ha.c 1;have Tb:=Ha.o.fr 1;have r2:=Ha.c 2;have Ub:=Ha.o.fr 2;have r3:=Ha.c 3;have Vb:=Ha.o.fr 3;have o0:=La.c 0;have o1:=La.c 1;have o2:=La.c 2;have o3:=La.c 3;have hr:r=(⟨Aa,Ba,bs,js⟩,4,0):=(by rw[Gb.o];unfold M.cancel;dsimp only;rw[if_pos (by rw[Va.o];exact Ld)]);subst hr;(go_wp2_with fail);show bodyPost _ _ _ _ _ (wf.setCells (w.heap.size+1+1) 0 (aI Aa Ba bb Da Ea jj Ca Fa));have Pa:au (wf.setCells (w.heap.size+1+1) 0 (aI Aa Ba bb Da Ea jj Ca Fa)) (w.heap.size+1+1) (aI Aa Ba bb Da Ea jj Ca Fa):=Ha.o.setCells (aI Aa Ba bb Da Ea jj Ca Fa) 0 (by simp);have Ia:=ct wf (w.heap.size+1+1) 0 (aI Aa Ba bb Da Ea jj Ca Fa);have Qa:=Na.o.trans (ap Ia Na.o.size (fun z e=>by have:=m2 e;omega));have Ra:aW (wf.setCells (w.heap.size+1+1) 0 (aI Aa Ba bb Da Ea jj Ca Fa)) w.heap.size bb Da Ea bs jj Ca Fa qs:=(Wa.o.grown Ia (fun g hg e=>by have:=(Wa.o.lt g hg).1;have:=m2 e;omega)).mono (by omega);have Sa:bD w w.heap.size (⟨Aa,Ba,bs,js⟩,4,0) (.returned (.tuple #[.agg (aI Aa Ba bb Da Ea jj Ca Fa).toArray,it 4,it 0])) (wf.setCells (w.heap.size+1+1) 0 (aI Aa Ba bb Da Ea jj Ca Fa)):=⟨_,rfl,_,_,_,_,_,_,_,rfl,Ra,Ua,Qa⟩;generalize(wf.setCells (w.heap.size+1+1) 0 (aI Aa Ba bb Da Ea jj Ca Fa))=wz at *;exact m8 (aJ rfl rfl (u' wz (w.heap.size+1+1) 0 27 _ _ Pa.row underlying27 rfl (by kernel_rfl))) rfl Sa
 case neg=>
  obtain⟨i,hi,Jc,Bf⟩:=Jd.o (by omega);rw[Nat.zero_add]at Jc;subst Jc;have Nd:M.jobOf id js=js.getD i M.j0:=(by unfold M.jobOf;rw[Va.o,vv]);have Wb:=Hd Nd;have hq:(qs.getD i q0).1=js.getD i M.j0:=(by rw[←dC,Ua]);have HQ:=Hd hq;have Cf:(i:Int)<(nj:Int):=(by omega);have Df:(0:Int)≤(i:Int):=(by omega);have Ef:¬ (i:Int)<0:=(by omega);have Ff:decide ((i:Int)<0)=false:=(by simp);obtain⟨b1,o1,rfl,Kc⟩:=(HM.o.j.below Na.o).at (by omega);obtain⟨ta,tc,hA,hT⟩:=Kc i (by omega);generalize Hb:js.getD i M.j0=cq at hA hT;have Bb:=Hd Hb;clear Hb Kc;obtain⟨Ib,⟨⟨a,b,c',d,f,k⟩,⟨a',b',Jb,d',f',k'⟩⟩,⟨s1,s2⟩,jr,jg,tl⟩:=cq;dsimp only at hT;have hR:wf.rangeAt b1 (o1+i*18) (ed ⟨Ib,⟨⟨a,b,c',d,f,k⟩,⟨a',b',Jb,d',f',k'⟩⟩,(s1,s2),jr,jg,tl⟩ ta tc):=bF rfl hA;have HT:=Hd hT;have C3:=fun W (h:bR W ta tl.length tc tl)=>i8 Ib a b c' d f k a' b' Jb d' f' k' s1 s2 jr jg W h;dsimp only[ed]at hR;generalize Lc:tl.length=tn at hR HT C3;have Nc:=Hd Lc;generalize Oc:tl.all (·.done)=al at C3;have Pc:=Hd Oc;clear hA hT Lc Oc;have Gf:=hR 16 _ rfl;have Kd:=Ic.c 3
  cases jg with
  | true=>
   have r0:=Ha.c 0;have Sb:=Ha.o.fr 0;have r1:=Ha.c 1;have Tb:=Ha.o.fr 1;have r2:=Ha.c 2;have Ub:=Ha.o.fr 2;have r3:=Ha.c 3;have Vb:=Ha.o.fr 3;have o0:=La.c 0;have o1:=La.c 1;have o2:=La.c 2;have o3:=La.c 3;have hr:r=(⟨Aa,Ba,bs,js⟩,8,0):=(by rw[Gb.o];unfold M.cancel;dsimp only;rw[if_neg (by rw[Va.o];omega),Wb.o,Bb.o];dsimp only;rw[if_pos (by simp)]);subst hr;(go_wp2_with fail);show bodyPost _ _ _ _ _ (wf.setCells (w.heap.size+1+1) 0 (aI Aa Ba bb Da Ea jj Ca Fa));have Pa:au (wf.setCells (w.heap.size+1+1) 0 (aI Aa Ba bb Da Ea jj Ca Fa)) (w.heap.size+1+1) (aI Aa Ba bb Da Ea jj Ca Fa):=Ha.o.setCells (aI Aa Ba bb Da Ea jj Ca Fa) 0 (by simp);have Ia:=ct wf (w.heap.size+1+1) 0 (aI Aa Ba bb Da Ea jj Ca Fa);have Qa:=Na.o.trans (ap Ia Na.o.size (fun z e=>by have:=m2 e;omega));have Ra:aW (wf.setCells (w.heap.size+1+1) 0 (aI Aa Ba bb Da Ea jj Ca Fa)) w.heap.size bb Da Ea bs jj Ca Fa qs:=(Wa.o.grown Ia (fun g hg e=>by have:=(Wa.o.lt g hg).1;have:=m2 e;omega)).mono (by omega);have Sa:bD w w.heap.size (⟨Aa,Ba,bs,js⟩,8,0) (.returned (.tuple #[.agg (aI Aa Ba bb Da Ea jj Ca Fa).toArray,it 8,it 0])) (wf.setCells (w.heap.size+1+1) 0 (aI Aa Ba bb Da Ea jj Ca Fa)):=⟨_,rfl,_,_,_,_,_,_,_,rfl,Ra,Ua,Qa⟩;generalize(wf.setCells (w.heap.size+1+1) 0 (aI Aa Ba bb Da Ea jj Ca Fa))=wz at *;exact m8 (aJ rfl rfl (u' wz (w.heap.size+1+1) 0 27 _ _ Pa.row underlying27 rfl (by kernel_rfl))) rfl Sa
  | false=>
   (go_wp2_with(with_reducible refine aA 89 ?_ ?_;rfl));show wpList _ _ _ _ _ _;have iL:(prog.info? 45).map (·.size)=some ((bO Ib a b c' d f k a' b' Jb d' f' k' s1 s2 jr false ta tn tc):List Value).length:=(show(prog.info? 45).map (·.size)=some 18 by kernel_rfl);with_reducible refine bL ?qw 45 ?qlw ?qo b1 (o1+i*18) ?qhx (bO Ib a b c' d f k a' b' Jb d' f' k' s1 s2 jr false ta tn tc) _ hR underlying45 ?qd iL ?_
   case qw=>kernel_rfl
   case qo=>exact rfl
   case qhx=>kernel_rfl
   case qd=>exact rfl
   show wpList _ _ _ _ _ _;(go_wp2_with fail);refine(C3 _ HT.o).mono ?_;rintro e wg ⟨rfl,hb⟩;have Ja:=Ha.b hb;have Cb:=Na.t hb;have Oa:=Hd (Wa.o.below hb);have Ta:=La.b hb;clear Ic Ha Na Wa La;clear hb;clear C3 HT
   cases al with
   | true=>
    have r0:=Ja.c 0;have Sb:=Ja.o.fr 0;have r1:=Ja.c 1;have Tb:=Ja.o.fr 1;have r2:=Ja.c 2;have Ub:=Ja.o.fr 2;have r3:=Ja.c 3;have Vb:=Ja.o.fr 3;have o0:=Ta.c 0;have o1:=Ta.c 1;have o2:=Ta.c 2;have o3:=Ta.c 3;have hr:r=(⟨Aa,Ba,bs,js⟩,8,0):=(by rw[Gb.o];unfold M.cancel;dsimp only;rw[if_neg (by rw[Va.o];omega),Wb.o,Bb.o];dsimp only;rw[if_pos (by rw[Pc.o];rfl)]);subst hr;(go_wp2_with fail);show bodyPost _ _ _ _ _ (wg.setCells (w.heap.size+1+1) 0 (aI Aa Ba bb Da Ea jj Ca Fa));have Pa:au (wg.setCells (w.heap.size+1+1) 0 (aI Aa Ba bb Da Ea jj Ca Fa)) (w.heap.size+1+1) (aI Aa Ba bb Da Ea jj Ca Fa):=Ja.o.setCells (aI Aa Ba bb Da Ea jj Ca Fa) 0 (by simp);have Ia:=ct wg (w.heap.size+1+1) 0 (aI Aa Ba bb Da Ea jj Ca Fa);have Qa:=Cb.o.trans (ap Ia Cb.o.size (fun z e=>by have:=m2 e;omega));have Ra:aW (wg.setCells (w.heap.size+1+1) 0 (aI Aa Ba bb Da Ea jj Ca Fa)) w.heap.size bb Da Ea bs jj Ca Fa qs:=(Oa.o.grown Ia (fun g hg e=>by have:=(Oa.o.lt g hg).1;have:=m2 e;omega)).mono (by omega);have Sa:bD w w.heap.size (⟨Aa,Ba,bs,js⟩,8,0) (.returned (.tuple #[.agg (aI Aa Ba bb Da Ea jj Ca Fa).toArray,it 8,it 0])) (wg.setCells (w.heap.size+1+1) 0 (aI Aa Ba bb Da Ea jj Ca Fa)):=⟨_,rfl,_,_,_,_,_,_,_,rfl,Ra,Ua,Qa⟩;generalize(wg.setCells (w.heap.size+1+1) 0 (aI Aa Ba bb Da Ea jj Ca Fa))=wz at *;exact m8 (aJ rfl rfl (u' wz (w.heap.size+1+1) 0 27 _ _ Pa.row underlying27 rfl (by kernel_rfl))) rfl Sa
   | false=>
    have hr:r=(⟨Aa,Ba,bs,js.set i {M.freeJ M.leased (js.getD i M.j0)with gone:=true}⟩,0,0):=(by rw[Gb.o];unfold M.cancel;dsimp only;rw[if_neg (by rw[Va.o];omega),Wb.o,Bb.o];dsimp only;rw[if_neg (by rw[Pc.o];simp),Va.o,vv]);subst hr;have Hf:tn≤8:=(by have h:=(HF.o.tasks (js.getD i M.j0) (M.getD_mem hi)).2;rw[Bb.o]at h;dsimp only at h;rw[Nc.o]at h;exact h);have If:=Oa.o.jl;have Jf:qs.length=js.length:=(by rw[←Ua,List.length_map]);have Db:i<Ca:=(by omega);have Kf:(i:Int)<(Ca:Int):=(by omega);obtain⟨gj,rfl⟩:=Oa.o.block (by omega);have o3:=Ta.c 3;(go_wp2_with(with_reducible refine aF ?_ ?_;rfl));with_reducible refine mX 4 gj (i*18+16) (.bool true) ?q6 ?q5 ?_
    case q6=>exact Oa.o.jthere Db
    case q5=>exact⟨rfl,rfl,rfl,by kernel_rfl,_,_,rfl,by kernel_rfl,by kernel_rfl⟩
    obtain⟨Qc,Kb⟩:=Oa.o.gone Db true;have Eb:gj∈b8 bb (some ⟨gj,0,none⟩) qs:=(by simp[b8,ob]);have Lf:=(Oa.o.lt gj Eb).1;have Nf:=Fc.o gj Eb;have Rc:b8 bb (some ⟨gj,0,none⟩) (qs.set i ({(qs.getD i q0).1 with gone:=true},(qs.getD i q0).2))=b8 bb (some ⟨gj,0,none⟩) qs:=fL _ (by omega) rfl;have GA:=Hd Qc;have GZ:=Hd (Ja.o.grown Kb (fun e=>by have:=m2 e;omega));have GO:=Hd (Ta.o.grown Kb (fun e=>by have:=m2 e;omega));have GB:=Hd (Cb.o.trans (ap Kb Cb.o.size (fun z e=>by have:=m2 e;omega)));have GM:=Hd Rc;clear Qc Kb Rc Ja Cb Oa Ta;generalize(wg.setCells gj (i*18+16) [.bool true])=wh at *;obtain⟨RQ,Xb⟩:∃RQ,(qs.set i ({(qs.getD i q0).1 with gone:=true},(qs.getD i q0).2)).set i (MQ.at M.leased 0 ((qs.set i ({(qs.getD i q0).1 with gone:=true},(qs.getD i q0).2)).getD i q0))=RQ:=⟨_,rfl⟩
    have Od:H9 (RQ.map (·.1)=js.set i {M.freeJ M.leased (js.getD i M.j0)with gone:=true}):=by
     show _=_;rw[←Xb,b7 (by omega),List.set_set,List.map_set,Ua];unfold MQ.at M.freeJ;rw[jU,HQ.o]
    have Sc:=Hd Xb;clear Xb;have Xa:H9 (((qs.set i ({(qs.getD i q0).1 with gone:=true},(qs.getD i q0).2)).getD i q0).1.ts.length=tn):=(by show _=_;rw[b7 (by omega)];dsimp only;rw[HQ.o,Bb.o];exact Nc.o);generalize(qs.set i ({(qs.getD i q0).1 with gone:=true},(qs.getD i q0).2))=Pd at GA GM Sc Xa;go_wp2_with fail
    go_loopw [9] (fun x wr=>∃(p:Nat) (Ga:List MQ),p≤tn∧x=it p∧aW wr bc bb Da Ea bs (some ⟨gj,0,none⟩) Ca Fa Ga∧b8 bb (some ⟨gj,0,none⟩) Ga=b8 bb (some ⟨gj,0,none⟩) qs∧Ga.set i (MQ.at M.leased p (Ga.getD i q0))=RQ∧(Ga.getD i q0).1.ts.length=tn∧au wr (w.heap.size+1+1) aV∧au wr bo (aI Aa Ba bb Da Ea (some ⟨gj,0,none⟩) Ca Fa)∧m1 w wr) (fun x _=>tn-(intOf x).toNat)
    case atStart=>exact⟨0,Pd,by omega,rfl,GA.o,GM.o,Sc.o,Xa.o,GZ.o,GO.o,GB.o⟩
    case round=>
     obtain⟨p,Ga,hp,rfl,hG,Tc,hR,Lb,Ka,Ya,Yb⟩:=hrel;have o3:=Ya.c 3;have Fb:wr.cell? ⟨gj,i*18+17,none⟩=some (.slice (Ga.getD i q0).2.1 (Ga.getD i q0).1.ts.length (Ga.getD i q0).2.2):=hG.jcell Db (by omega);rw[Lb]at Fb;by_cases Nb:p<tn
     case neg=>
      have Qd:¬ (p:Int)<(tn:Int):=(by omega);have Rd:Ga=RQ:=(by rw[←hR,MQ.at_end (by have:=hG.jl;omega) (by omega)]);subst Rd;have Uc:=Hd hG;have Vc:=Hd Yb;have Ob:=Hd Ka;generalize(Ga.getD i q0).2.1=Of at Fb;generalize(Ga.getD i q0).2.2=Sd at Fb;have o0:=Ya.c 0;have o1:=Ya.c 1;have o2:=Ya.c 2;have r0:=Ka.c 0;have Sb:=Ka.fr 0;have r1:=Ka.c 1;have Tb:=Ka.fr 1;have r2:=Ka.c 2;have Ub:=Ka.fr 2;have r3:=Ka.c 3;have Vb:=Ka.fr 3;(go_wp2_with fail);show bodyPost _ _ _ _ _ (wr.setCells (w.heap.size+1+1) 0 (aI Aa Ba bb Da Ea (some ⟨gj,0,none⟩) Ca Fa));have Pa:au (wr.setCells (w.heap.size+1+1) 0 (aI Aa Ba bb Da Ea (some ⟨gj,0,none⟩) Ca Fa)) (w.heap.size+1+1) (aI Aa Ba bb Da Ea (some ⟨gj,0,none⟩) Ca Fa):=Ob.o.setCells (aI Aa Ba bb Da Ea (some ⟨gj,0,none⟩) Ca Fa) 0 (by simp);have Ia:=ct wr (w.heap.size+1+1) 0 (aI Aa Ba bb Da Ea (some ⟨gj,0,none⟩) Ca Fa);have Qa:=Vc.o.trans (ap Ia Vc.o.size (fun z e=>by have:=m2 e;omega));have Ra:aW (wr.setCells (w.heap.size+1+1) 0 (aI Aa Ba bb Da Ea (some ⟨gj,0,none⟩) Ca Fa)) w.heap.size bb Da Ea bs (some ⟨gj,0,none⟩) Ca Fa Ga:=(Uc.o.grown Ia (fun g hg e=>by have:=(Uc.o.lt g hg).1;have:=m2 e;omega)).mono (by omega);have Sa:bD w w.heap.size (⟨Aa,Ba,bs,js.set i {M.freeJ M.leased (js.getD i M.j0)with gone:=true}⟩,0,0) (.returned (.tuple #[.agg (aI Aa Ba bb Da Ea (some ⟨gj,0,none⟩) Ca Fa).toArray,it 0,it 0])) (wr.setCells (w.heap.size+1+1) 0 (aI Aa Ba bb Da Ea (some ⟨gj,0,none⟩) Ca Fa)):=⟨_,rfl,_,_,_,_,_,_,_,rfl,Ra,Od.o,Qa⟩;generalize(wr.setCells (w.heap.size+1+1) 0 (aI Aa Ba bb Da Ea (some ⟨gj,0,none⟩) Ca Fa))=wz at *;exact m8 (aJ rfl rfl (u' wz (w.heap.size+1+1) 0 27 _ _ Pa.row underlying27 rfl (by kernel_rfl))) rfl Sa
     case pos=>
      have hT:=hG.jtask Db;rw[Lb]at hT;obtain⟨g,Zb⟩:=hT.block (by omega);rw[Zb]at hT Fb;have Ab:=fun h=>MQ.at_keep (f:=M.leased) (q:=Ga.getD i q0) (k:=p) (by omega) h;have Ac:=fun h=>MQ.at_set (f:=M.leased) (q:=Ga.getD i q0) (k:=p) (by omega) h;have b0:=hT.cells Nb (j:=0) (by omega);have Td:=hT.2.frozenAt (p*3+0);have b1:=hT.cells Nb (j:=1) (by omega);have Pf:=hT.2.frozenAt (p*3+1);have b2:=hT.cells Nb (j:=2) (by omega);have Qf:=hT.2.frozenAt (p*3+2);rw[Nat.add_zero]at b0 Td;generalize Hb:(Ga.getD i q0).1.ts.getD p M.t0=cq at b0 b1 b2 Ab Ac;obtain⟨td,x,y⟩:=cq;simp only[d7,List.getElem?_cons_zero,List.getElem?_cons_succ]at b0 b1 b2;have Qd:(p:Int)<(tn:Int):=(by omega);have Rf:(0:Int)≤(p:Int):=(by omega);have Ud:(tn:Int)≤(Ga.getD i q0).2.2:=(by have:=hT.sees.le;omega);have Vd:=Hd Ab;have Wd:=Hd Ac;have HG:=Hd hG;have Pb:=Hd Tc;have HR:=Hd hR;have Xa:=Hd Lb;have Ob:=Hd Ka;have Wc:=Hd Ya;have Bc:=Hd Yb;have Xc:=Hd Zb;clear hT Ab Ac Hb hG Tc hR Lb Ka Ya Yb Zb;generalize(Ga.getD i q0).2.2=Sd at Fb Ud;by_cases Qb:x=0
      case pos=>
       have g1:(x != 0)=false:=(by simp[Qb]);have Cc:M.leased ⟨td,x,y⟩=false:=(by unfold M.leased;simp[Qb]);have Dc:H9 (Ga.set i (MQ.at M.leased (p+1) (Ga.getD i q0))=RQ):=(by show _=_;rw[Vd.o Cc];exact HR.o);go_wp2;go_roundw
       case rel=>exact⟨p+1,Ga,by omega,by go_num,HG.o,Pb.o,Dc.o,Xa.o,Ob.o,Wc.o,Bc.o⟩
       case measure=>simp[intOf];omega
      case neg=>
       have g1:(x != 0)=true:=(by simp[Qb]);have Cc:M.leased ⟨td,x,y⟩=true:=(by unfold M.leased;simp[Qb]);obtain⟨Xd,Yd⟩:=HG.o.task Db Xc.o (k:=p) (by rw[Xa.o];exact Nb) M.t0;have Zd:=Hd Xd;have Ec:=Hd Yd
       have Eb:g∈b8 bb (some ⟨gj,0,none⟩) qs:=by
        rw[←Pb.o];have hm:Ga.getD i q0∈Ga:=(by have:=HG.o.jl;rw[m4,m6 (by omega)];simp);unfold b8;simp only[uT];exact .inr (.inr (vg.2 ⟨_,hm,by rw[Xc.o];simp[ob]⟩))
       have Sf:=Fc.o g Eb;have Tf:bc≤g:=(by have h9:=HG.o.lt g (by rw[Pb.o];exact Eb);exact h9.1);have HZ':=Hd (Ob.o.grown Ec.o (fun e=>by have:=m2 e;omega));have HO':=Hd (Wc.o.grown Ec.o (fun e=>by have:=m2 e;omega));have HB':=Hd (Bc.o.trans (ap Ec.o Bc.o.size (fun z e=>by have:=m2 e;omega)));have Dc:H9 ((Ga.set i ({(Ga.getD i q0).1 with ts:=(Ga.getD i q0).1.ts.set p M.t0},(Ga.getD i q0).2)).set i (MQ.at M.leased (p+1) ((Ga.set i ({(Ga.getD i q0).1 with ts:=(Ga.getD i q0).1.ts.set p M.t0},(Ga.getD i q0).2)).getD i q0))=RQ):=(by show _=_;rw[b7 (by have:=HG.o.jl;omega),Wd.o Cc,List.set_set];exact HR.o);have Ae:H9 (((Ga.set i ({(Ga.getD i q0).1 with ts:=(Ga.getD i q0).1.ts.set p M.t0},(Ga.getD i q0).2)).getD i q0).1.ts.length=tn):=(by show _=_;rw[b7 (by have:=HG.o.jl;omega)];dsimp only;rw[List.length_set];exact Xa.o);have Be:H9 (b8 bb (some ⟨gj,0,none⟩) (Ga.set i ({(Ga.getD i q0).1 with ts:=(Ga.getD i q0).1.ts.set p M.t0},(Ga.getD i q0).2))=b8 bb (some ⟨gj,0,none⟩) qs):=(fL (qs:=Ga) (i:=i) _ (by have:=HG.o.jl;omega) (by rfl)).trans Pb.o;go_wp2;go_roundw
       case rel=>exact⟨p+1,_,by omega,by go_num,Zd.o,Be.o,Dc.o,Ae.o,HZ'.o,HO'.o,HB'.o⟩
       case measure=>simp[intOf];omega
namespace M
end M
theorem iy(hR:ba now uN bs js t' id s' l' tr m0 J L T Y U Z m7 Q V A I t1 t2 p1 p2 p3 p4 n1 n2 n3 n4 z1 z2 z3 z4=R)(h1:R.2.1≠1):M.mkOk now uN bs js=true∧R.1.right:=by
 subst hR
 cases hok:M.mkOk now uN bs js with
 | false=>exact absurd (by unfold ba M.acted;rw[if_pos (show M.Mt.ok ⟨now,uN,bs,js⟩=false from hok)]) h1
 | true=>exact⟨rfl,M.acted_right (m:=⟨now,uN,bs,js⟩) (bQ hok)⟩
namespace M
def Kept(g:Jb→Bool)(t' id s' c:Int)(a b:List Jb):Prop:=∀i<a.length,(b.getD i j0).ts.length=(a.getD i j0).ts.length∧∀k<(a.getD i j0).ts.length,((b.getD i j0).ts.getD k t0).done=((a.getD i j0).ts.getD k t0).done∨((((a.getD i j0).ts.getD k t0).done=false∧((b.getD i j0).ts.getD k t0).done=true)∧(t'=3∧id=(a.getD i j0).id∧s'=k)∧c=0∧g (a.getD i j0)=true)
theorem free_done{f:Tk→Bool}{ts:List Tk}(h:∀t∈ts,f t=true→t.done=false)(hk:k<ts.length):((free f ts).getD k t0).done=(ts.getD k t0).done:=by
 have:=h (ts.getD k t0) (getD_mem hk);unfold free;rw[m4,List.getElem?_map,m6 hk];rw[m4,m6 hk]at this ⊢;simp only[Option.map_some,Option.getD_some]at this ⊢
 split
 ·rename_i e;rw[this e];rfl
 ·rfl
theorem map_at{f:Jb→Jb}{js:List Jb}(hi:i<js.length):(js.map f).getD i j0=f (js.getD i j0):=by
 rw[m4,List.getElem?_map,m4,m6 hi];rfl
theorem set_at{α:Type}{l:List α}{x d:α}(hk:k<l.length):(l.set i x).getD k d=if i=k then x else l.getD k d:=by
 rw[m4,List.getElem?_set]
 split
 ·rename_i e;subst e;rw[if_pos hk];rfl
 ·rw[←m4]
theorem kept_free{g:Jb→Bool}{f:Tk→Bool}{js:List Jb}(h:∀j∈js,∀t∈j.ts,f t=true→t.done=false):Kept g t' id s' c js (js.map (freeJ f)):=by
 intro i hi;rw[map_at hi];exact⟨free_len _ _,fun k hk=>.inl (free_done (h _ (getD_mem hi)) hk)⟩
theorem Right.calmT{js:List Jb}(h:Right now uN bs js){j:Jb}(hj:j∈js){t:Tk}(ht:t∈j.ts)(hl:leased t=true):t.done=false:=by
 have:=h.tk hj ht;unfold leased at hl;simp only[decide_eq_true_eq]at hl;unfold tkOk at this
 cases hd:t.done <;> simp_all
theorem banned_len{who:Int}(hb:bnGo 0 bs=true)(hw:wkOk who=true)(hn:bs.contains who=false):bs.length≤(banned bs who).length:=by
 rw[←banned_sorted hb hw hn (srt:=(bs++[who]).mergeSort) ?_ (List.mergeSort_perm _ _)]
 ·rw[List.length_mergeSort];simp
 ·exact(List.pairwise_mergeSort (le:=fun a b=>decide (a≤b)) (by simp;omega) (by simp;omega) (bs++[who])).imp (by simp)
theorem kept_same{g:Jb→Bool}{js:List Jb}:Kept g t' id s' c js js:=fun _ _=>⟨rfl,fun _ _=>.inl rfl⟩
theorem act_kept{g:Jb→Bool}{form:Bool}{m:Mt}{mc:Mc}{s:Int×Int}{R:Mt×Int×Int}(hR:acted g form m t' id s' l' tr mc s=R)(h:m.right)(hf:form=true→t'=1∨t'=2∨t'=3∧wkOk l'=true∧0≤s'∨t'=4∧1≤tr∨t'=5)(h1:R.2.1≠1):
  (R.2.1≠0→R.2.1≠7→R=(m,R.2.1,0))∧m.now≤R.1.now∧m.bs.length≤R.1.bs.length∧m.js.length≤R.1.js.length∧Kept g t' id s' R.2.1 m.js R.1.js:=by
 have hs:∀c,(c≠0→c≠7→((m,c,0):Mt×Int×Int)=(m,c,0))∧m.now≤m.now∧m.bs.length≤m.bs.length∧m.js.length≤m.js.length∧Kept g t' id s' c m.js m.js:=fun c=>⟨fun _ _=>rfl,Int.le_refl _,m3 _,m3 _,kept_same⟩;subst hR;unfold acted at h1 ⊢;by_cases e1:m.ok=false
 ·rw[if_pos e1]at h1;exact absurd rfl h1
 rw[if_neg e1];clear e1 h1;by_cases e2:form=false
 ·rw[if_pos e2];exact hs 2
 rw[if_neg e2];have hf:=hf (by simpa using e2);unfold act
 split
 ·
  unfold submit
  split
  ·exact hs 3
  ·
   refine⟨fun h=>absurd rfl h,Int.le_refl _,m3 _,by simp,fun i hi=>?_⟩;have e:(m.js++[(⟨m.next,mc,s,s',false,List.replicate tr.toNat t0⟩:Jb)]).getD i j0=m.js.getD i j0:=(by rw[m4,List.getElem?_append_left hi,←m4]);show((m.js++[_]).getD i j0).ts.length=_∧_;rw[e];exact kept_same i hi
 split
 ·
  rename_i n1 n4;have:=h.now1;exact⟨fun h=>absurd rfl h,by show m.now≤tickN m.now tr;unfold tickN;split <;> omega,m3 _,by simp[tick],kept_free fun j hj t ht e=>h.calmT hj ht (by unfold dueT at e;rw[vl]at e;exact e.1)⟩
 split
 ·
  unfold cancel
  split
  ·exact hs 4
  split
  ·exact hs 8
  ·
   rename_i e _;obtain⟨h1,h2,h3⟩:=jobAt_lt e;refine⟨fun h=>absurd rfl h,Int.le_refl _,m3 _,by simp,fun i hi=>?_⟩;rw[set_at hi]
   split
   ·
    rename_i e;subst e;exact⟨free_len _ _,fun k hk=>.inl (free_done (fun t ht=>h.calmT h2 ht) hk)⟩
   ·exact kept_same i hi
 split
 ·
  unfold lease
  split
  ·exact hs 5
  split
  ·exact hs 6
  split
  ·exact hs 4
  ·
   rename_i i k e;obtain⟨n,rfl,h2,h3⟩:=place_some e;rw[Nat.zero_add];obtain⟨h4,h5,h6⟩:=open_some h3;refine⟨fun h=>absurd rfl h,Int.le_refl _,m3 _,by simp[setT],fun i hi=>?_⟩;show((setT m.js n k _).getD i j0).ts.length=_∧_;unfold setT;rw[set_at hi]
   split
   ·
    rename_i e;subst e;refine⟨by simp,fun k' hk=>.inl ?_⟩;rw[set_at hk]
    split
    ·
     rename_i e;subst e;unfold isFree at h6;simp only[vl,Bool.not_eq_true']at h6;exact h6.1.symm
    ·rfl
   ·exact kept_same i hi
 rename_i n1 n4 n5 n2;have hw:t'=3∧wkOk l'=true∧0≤s':=(by rcases hf with h | h | h | h | h;exact absurd h n1;exact absurd h n2;exact h;exact absurd h.1 n4;exact absurd h n5);unfold back
 split
 ·exact hs 5
 split
 ·exact hs 4
 split
 ·exact hs 8
 rename_i b1 b2 b3
 split
 ·
  refine⟨fun _ h=>absurd rfl h,Int.le_refl _,banned_len h.bn hw.2.1 (by simpa using b1),by simp,kept_free fun j hj t ht e=>h.calmT hj ht ?_⟩;have:=hw.2.1;unfold wkOk at this;unfold mineT at e;unfold leased;simp at this e ⊢;omega
 ·
  rename_i b4;simp only[Bool.or_eq_true,decide_eq_true_eq,not_or]at b2;obtain⟨h1,h2,h3⟩:=jobAt_lt b2.1;refine⟨fun h=>absurd rfl h,Int.le_refl _,m3 _,by simp[setT],fun i hi=>?_⟩;show((setT m.js _ _ _).getD i j0).ts.length=_∧_;unfold setT;rw[set_at hi]
  split
  ·
   rename_i e;subst e;refine⟨by simp,fun k' hk=>?_⟩;rw[set_at hk]
   split
   ·
    rename_i e;subst e
    cases hd:((m.js.getD (jobAt id 0 m.js).toNat j0).ts.getD s'.toNat t0).done
    ·exact .inr ⟨⟨rfl,rfl⟩,⟨hw.1,h3.symm,by omega⟩,rfl,by unfold jobOf at b4;simpa using b4⟩
    ·exact .inl rfl
   ·exact .inl rfl
  ·exact kept_same i hi
end M
theorem sB(hR:ba now uN bs js t' id s' l' tr m0 J L T Y U Z m7 Q V A I t1 t2 p1 p2 p3 p4 n1 n2 n3 n4 z1 z2 z3 z4=R)(h1:R.2.1≠1):
  (R.2.1≠0→R.2.1≠7→R=(⟨now,uN,bs,js⟩,R.2.1,0))∧now≤R.1.now∧bs.length≤R.1.bs.length∧js.length≤R.1.js.length∧M.Kept (cn s' ⟨(p1,p2),(p3,p4),z1,z2,z3,z4⟩) t' id s' R.2.1 js R.1.js:=by
 refine M.act_kept (m:=⟨now,uN,bs,js⟩) hR (bQ (iy hR h1).1) (fun hf=>?_) h1
 rcases M.form_kinds hf with h | h | h | h | h
 ·exact .inl h.1
 ·exact .inr (.inl h.1)
 ·exact .inr (.inr (.inl ⟨h.1,h.2.1,(M.inB_iff.1 h.2.2.2).1⟩))
 ·exact .inr (.inr (.inr (.inl ⟨h.1,(M.inB_iff.1 h.2).1⟩)))
 ·exact .inr (.inr (.inr (.inr h.1)))
end Go.Proofs.YtobnifjhikoleaaGreatDoor
