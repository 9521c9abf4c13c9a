import Derived.Test.YtobnifjhikoleaaGreatDoorPk23
namespace Go.Proofs.YtobnifjhikoleaaGreatDoor
open Go.RowKit Go.Proofs.Tryz
set_option linter.unusedSimpArgs false
set_option maxHeartbeats 32000000
set_option maxRecDepth 10000
theorem kG{id s' l' tr:Int}{bare mok sok rok non wk idk p7 mt:Bool}(h:M.formB 1 id s' l' tr bare mok sok rok (M.inB tr 1 8) non wk idk p7 mt=true):1≤tr∧tr≤8:=by
 rcases M.form_kinds h with⟨_,_,_,_,h⟩ | ⟨h,_⟩ | ⟨h,_⟩ | ⟨h,_⟩ | ⟨h,_⟩
 ·exact M.inB_iff.1 h
 all_goals exact absurd h (by decide)
theorem qp:gC.p1:=by
 obtain⟨i0,hi,Gd,Id,Xd⟩:=info_parts fH;obtain⟨i1,Je,Ke,Le,Ne⟩:=info_parts fp;intro ab aj nb cb nj cj bs js Ca Aa Oe id Ja Pe Zc m0 J L T Y U Z m7 Q V Ha Ia t1 t2 p1 p2 p3 p4 a1 a2 a3 a4 n1 n2 n3 n4 c1 c2 c3 c4 z1 z2 z3 z4 w l1 l2 l3 l4 HM S1 S2 S3 S4 r Yd wa wb C1 Zd HF wc bb Da Ea jj Ba Ka qs Wb bc Hb Qe Re Se Te Ue Ve wd bo We Jd Wc we Ib Xb Ua Yb Dc Zb Kd Ae;subst Ae;obtain⟨Be,Ce⟩:=kG Kd.o;have Ad:=HM.o.j.len;have Xe:=HF.o.few;have Ye:=HF.o.next1;have Ze:=HF.o.next0
 have hr:r=M.submit ⟨Ca,Aa,bs,js⟩ ⟨⟨m0,J,L,T,Y,U⟩,⟨Z,m7,Q,V,Ha,Ia⟩⟩ (t1,t2) Ja Zc:=by
  rw[←Yd.o];unfold ba M.acted;rw[if_neg (show ¬ M.Mt.ok ⟨Ca,Aa,bs,js⟩=false by rw[show M.Mt.ok ⟨Ca,Aa,bs,js⟩=true from Zd.o];simp),if_neg (by rw[Kd.o];simp)];unfold M.act;rw[if_pos rfl]
 have Bd:=Hd hr;clear hr;have De:=Xb.c 0;have Cd:=Ib.c 1;have Ee:=Ib.c 3;by_cases Ac:nj=6∨Aa=1000000000
 case pos=>
  have hr:r=(⟨Ca,Aa,bs,js⟩,3,0):=(by rw[Bd.o];unfold M.submit;dsimp only;rw[if_pos (by simp only[Bool.or_eq_true,decide_eq_true_eq];rw[Ad];exact Ac)]);subst hr;have o0:=Zb.c 0;have o1:=Zb.c 1;have o2:=Zb.c 2;have o3:=Zb.c 3;have r0:=Ua.c 0;have Ld:=Ua.o.fr 0;have r1:=Ua.c 1;have Nd:=Ua.o.fr 1;have r2:=Ua.c 2;have Od:=Ua.o.fr 2;have r3:=Ua.c 3;have Pd:=Ua.o.fr 3;by_cases h6:nj=6
  case pos=>
   have g6:((nj:Int)==6)=true:=(by rw[h6];decide);clear h6;(go_wp2_with fail);show bodyPost _ _ _ _ _ (we.setCells (w.heap.size+1+1) 0 (aI Ca Aa bb Da Ea jj Ba Ka));have Jb:au (we.setCells (w.heap.size+1+1) 0 (aI Ca Aa bb Da Ea jj Ba Ka)) (w.heap.size+1+1) (aI Ca Aa bb Da Ea jj Ba Ka):=Ua.o.setCells (aI Ca Aa bb Da Ea jj Ba Ka) 0 (by simp);have Ra:=ct we (w.heap.size+1+1) 0 (aI Ca Aa bb Da Ea jj Ba Ka);have Za:=Yb.o.trans (ap Ra Yb.o.size (fun z e=>by have:=m2 e;omega));have Ab:aW (we.setCells (w.heap.size+1+1) 0 (aI Ca Aa bb Da Ea jj Ba Ka)) w.heap.size bb Da Ea bs jj Ba Ka qs:=(Dc.o.grown Ra (fun g hg e=>by have:=(Dc.o.lt g hg).1;have:=m2 e;have:=Hb.o;omega)).mono (by have:=Hb.o;omega);have Kb:bD w w.heap.size (⟨Ca,Aa,bs,js⟩,3,0) (.returned (.tuple #[.agg (aI Ca Aa bb Da Ea jj Ba Ka).toArray,it 3,it 0])) (we.setCells (w.heap.size+1+1) 0 (aI Ca Aa bb Da Ea jj Ba Ka)):=⟨_,rfl,_,_,_,_,_,_,_,rfl,Ab,Wb,Za⟩;generalize(we.setCells (w.heap.size+1+1) 0 (aI Ca Aa bb Da Ea jj Ba Ka))=wz at *;exact m8 (aJ rfl rfl (u' wz (w.heap.size+1+1) 0 27 _ _ Jb.row underlying27 rfl (by kernel_rfl))) rfl Kb
  case neg=>
   have Qd:=Ac.resolve_left h6;have g6:((nj:Int)==6)=false:=(by simp;omega);have g9:(Aa==1000000000)=true:=(by simp[Qd]);clear Qd Ac;(go_wp2_with fail);show bodyPost _ _ _ _ _ (we.setCells (w.heap.size+1+1) 0 (aI Ca Aa bb Da Ea jj Ba Ka));have Jb:au (we.setCells (w.heap.size+1+1) 0 (aI Ca Aa bb Da Ea jj Ba Ka)) (w.heap.size+1+1) (aI Ca Aa bb Da Ea jj Ba Ka):=Ua.o.setCells (aI Ca Aa bb Da Ea jj Ba Ka) 0 (by simp);have Ra:=ct we (w.heap.size+1+1) 0 (aI Ca Aa bb Da Ea jj Ba Ka);have Za:=Yb.o.trans (ap Ra Yb.o.size (fun z e=>by have:=m2 e;omega));have Ab:aW (we.setCells (w.heap.size+1+1) 0 (aI Ca Aa bb Da Ea jj Ba Ka)) w.heap.size bb Da Ea bs jj Ba Ka qs:=(Dc.o.grown Ra (fun g hg e=>by have:=(Dc.o.lt g hg).1;have:=m2 e;have:=Hb.o;omega)).mono (by have:=Hb.o;omega);have Kb:bD w w.heap.size (⟨Ca,Aa,bs,js⟩,3,0) (.returned (.tuple #[.agg (aI Ca Aa bb Da Ea jj Ba Ka).toArray,it 3,it 0])) (we.setCells (w.heap.size+1+1) 0 (aI Ca Aa bb Da Ea jj Ba Ka)):=⟨_,rfl,_,_,_,_,_,_,_,rfl,Ab,Wb,Za⟩;generalize(we.setCells (w.heap.size+1+1) 0 (aI Ca Aa bb Da Ea jj Ba Ka))=wz at *;exact m8 (aJ rfl rfl (u' wz (w.heap.size+1+1) 0 27 _ _ Jb.row underlying27 rfl (by kernel_rfl))) rfl Kb
 case neg=>
  have g6:((nj:Int)==6)=false:=(by simp;omega);have g9:(Aa==1000000000)=false:=(by simp;omega);have h6:¬ nj=6:=fun e=>Ac (.inl e);have h9:¬ Aa=1000000000:=fun e=>Ac (.inr e);clear Ac;obtain⟨mq,hM⟩:∃mq:Nat,Zc=(mq:Int):=⟨Zc.toNat,by omega⟩;subst hM;have Af:1≤mq:=(by omega);have Rd:mq≤8:=(by omega);clear Be Ce;(go_wp2_with fail);clear De Cd Ee g6 g9;have Pa:bc≤we.heap.size:=(by have h8:=Zb.o.2.2;have:=Jd.o;omega);have Bf:=Hb.o;have Cf:=Jd.o;refine wp_region_noPanic ?_;refine wp_region_held_drew (S:=fun W=>Below bc we W) (by kernel_rfl) ((m5 _ _).drew) (fun hHeld=>?_);have Sa:m1 we we.drew:=(m5 _ _).drew;have Qa:=Hd (Dc.o.below Sa);have Ta:=Zb.b Sa;have Oa:=Hd hHeld;clear Sa;generalize we.drew=Dd at *;refine tk 0 (.pointer (some ⟨bo,3,none⟩)) ?_ ?_
  ·intro wq Bb;go_simp
  refine tk 2 (.pointer (some ⟨w.heap.size,1,none⟩)) ?_ ?_
  ·intro wq Bb;go_simp
  refine tk 3 (it Aa) ?_ ?_
  ·intro wp Wa;have c0:=(Ib.o.below Wa (by omega)).c 1;go_simp
  refine tk 4 (.pointer (some ⟨w.heap.size+1,5,none⟩)) ?_ ?_
  ·intro wq Bb;go_simp
  have Sd:∀W:World,Below bc we W→W.rangeAt (w.heap.size+1) 5 (cr m0 J L T Y U Z m7 Q V Ha Ia):=fun W Wa=>(Xb.o.below Wa (by omega)).mid 5 12;refine wpAnyH_take (i:=5) (v:=.agg (cr m0 J L T Y U Z m7 Q V Ha Ia).toArray) rfl (by kernel_rfl) (by kernel_rfl) (by kernel_rfl) (fun _ _ _ h=>h) (uZ (by kernel_rfl) 31 (.tmp 38) rfl (w.heap.size+1) 5 rfl (cr m0 J L T Y U Z m7 Q V Ha Ia) _ (Sd) underlying31 rfl (by kernel_rfl)) (by assumption) ?_;clear Sd;refine tk 6 (.pointer (some ⟨w.heap.size+1,17,none⟩)) ?_ ?_
  ·intro wq Bb;go_simp
  refine tk 7 (.agg #[it t1,it t2]) ?_ ?_
  ·intro wp Wa;have c0:=(Xb.o.below Wa (by omega)).c 17;have c1:=(Xb.o.below Wa (by omega)).c 18;go_simp
  refine tk 8 (.pointer (some ⟨w.heap.size+1,2,none⟩)) ?_ ?_
  ·intro wq Bb;go_simp
  refine tk 9 (it Ja) ?_ ?_
  ·intro wp Wa;have c0:=(Xb.o.below Wa (by omega)).c 2;go_simp
  refine tk 10 (.pointer (some ⟨w.heap.size+1,4,none⟩)) ?_ ?_
  ·intro wq Bb;go_simp
  refine tk 11 (it (mq:Nat)) ?_ ?_
  ·intro wp Wa;have c0:=(Xb.o.below Wa (by omega)).c 4;go_simp
  have Td:i0.bytes*mq≤281474976710656:=(by rw[Xd];omega);have Ud:mq*3≤16777216:=(by omega);have Vd:mq≤maxLen:=(by unfold maxLen;omega);have Wd:=m9 Pa Oa.o.size;refine vk (rs:=[1,12]) (by kernel_rfl) (by simp) ?_;apply uP
  case ho=>exact rfl
  case h=>
   intro Kk hK;have c3:=Ta.c 3;with_reducible refine dd ?qg 25 (.tmp 34) ?qo ⟨bo,3,none⟩ ?qxz (.slice jj Ba Ka) (ja c3) ?_
   case qg | qo=>exact rfl
   case qxz=>kernel_rfl
   refine hK.out _ _ Oa.o (fun hzz=>?_);clear hK Kk hzz c3;refine vk (rs:=[12]) (by kernel_rfl) (by simp) ?_;apply uP
   case ho=>exact rfl
   case hs=>exact uW
   intro Kk hK;with_reducible refine eJ ?qg (.tmp 45) 43 ?qo bc 47 i0 (.agg sC.toArray) 3 underlying43 hi Gd Id mq ?qm Ud Td Vd Wd ?_
   case qg | qo=>exact rfl
   case qm=>kernel_rfl
   intro g wm Lb Ec hg;have Ed:wm.heap.size≥Dd.heap.size:=hg.size;have Xc:=Hd (mP Rd Ec rfl);have Nb:H9 ((∀x∈b8 bb jj qs,x<g)∧bo<g):=⟨fun x hx=>Lb ▸ (Qa.o.lt x hx).2,Lb ▸ Ta.o.2.2⟩;have Yc:=Hd (Qa.o.grown hg (fun _ _=>by simp));have Fc:=Hd (Ta.o.grown hg (by simp));have Xa:=Hd (Oa.o.trans (ap hg (m9 Pa Oa.o.size) (by simp)));refine hK.out _ _ Xa.o (fun hzz=>?_);clear hK Kk hzz Ec hg Ed Lb;refine tk 13 (.agg (bO Aa m0 J L T Y U Z m7 Q V Ha Ia t1 t2 Ja false (some ⟨g,0,none⟩) mq mq).toArray) ?_ ?_
   ·intro wq Bb;go_simp
   refine vk (rs:=[14]) (by kernel_rfl) (by simp) ?_;apply uP
   case ho=>exact rfl
   case hs=>exact uW
   intro Kk hK;with_reducible refine dA ?qg (fun x=>.slice (some ⟨x,0,none⟩) 1 1) (wm.alloc (.cells (bO Aa m0 J L T Y U Z m7 Q V Ha Ia t1 t2 Ja false (some ⟨g,0,none⟩) mq mq).toArray 45)) ?qrun ?_
   case qg=>exact rfl
   case qrun=>kernel_rfl
   intro gb wn Gb Va;have La:=fh wm (.cells (bO Aa m0 J L T Y U Z m7 Q V Ha Ia t1 t2 Ja false (some ⟨g,0,none⟩) mq mq).toArray 45);rw[Va]at La;have Bc:=Hd (Yc.o.below La);have Ob:=Fc.b La;have Cc:=Hd (Xc.o.grown (bw La none) (fun _ _=>by simp));have Ya:=Hd (Xa.o.trans (La.mono (m9 Pa Xa.o.size)));have LJ:H9 (au wn gb (bO Aa m0 J L T Y U Z m7 Q V Ha Ia t1 t2 Ja false (some ⟨g,0,none⟩) mq mq)):=(by show au wn gb _;rw[←Va,←Gb];exact aM _ _ _);refine hK.out _ _ Ya.o (fun hzz=>?_);clear hK Kk hzz La Va Gb;have Qa:H9 _:=Bc;have Ta:H9 _:=Ob;have Gc:H9 _:=Cc;have Oa:H9 _:=Ya;clear Bc Ob Cc Ya;refine vk (rs:=[15]) (by kernel_rfl) (by simp) ?_;apply uP
   case ho=>exact rfl
   case hs=>exact uW
   intro Kk hK;have Fe:qs.length=js.length:=(by rw[←Wb,List.length_map]);have Ge:Ba≤6:=(by rw[←Qa.o.jl];omega);have Hc:(bO Aa m0 J L T Y U Z m7 Q V Ha Ia t1 t2 Ja false (some ⟨g,0,none⟩) mq mq)=iM (⟨Aa,⟨⟨m0,J,L,T,Y,U⟩,⟨Z,m7,Q,V,Ha,Ia⟩⟩,(t1,t2),Ja,false,List.replicate mq M.t0⟩,some ⟨g,0,none⟩,mq):=(by dsimp only[iM,ed];rw[vj]);have Ic:bx wn bc (some ⟨g,0,none⟩) (List.replicate mq M.t0).length mq (List.replicate mq M.t0):=(by rw[vj];exact Gc.o);have Jc:au wn gb (iM (⟨Aa,⟨⟨m0,J,L,T,Y,U⟩,⟨Z,m7,Q,V,Ha,Ia⟩⟩,(t1,t2),Ja,false,List.replicate mq M.t0⟩,some ⟨g,0,none⟩,mq)):=(by rw[←Hc];exact LJ.o);have Kc:∀x∈ob (some (⟨g,0,none⟩:Addr)),x∉b8 bb jj qs:=fun x hx e=>by simp[ob]at hx;have:=Nb.o.1 x e;omega
   have Lc:Ba≤1000:=(by omega);have Nc:=m9 Pa Oa.o.size;with_reducible refine lY ?qg (.tmp 35) (.tmp 48) ?qo ?qsl gb ?qnw Qa.o (⟨Aa,⟨⟨m0,J,L,T,Y,U⟩,⟨Z,m7,Q,V,Ha,Ia⟩⟩,(t1,t2),Ja,false,List.replicate mq M.t0⟩,some ⟨g,0,none⟩,mq) Jc Ic Kc Lc Nc ?_
   case qg | qo=>exact rfl
   case qsl | qnw=>kernel_rfl
   intro Fa Ga w8 hP Oc Pb;have Pc:=Hd hP;have Qc:H9 (bo∉b8 bb Fa (qs++[(⟨Aa,⟨⟨m0,J,L,T,Y,U⟩,⟨Z,m7,Q,V,Ha,Ia⟩⟩,(t1,t2),Ja,false,List.replicate mq M.t0⟩,some ⟨g,0,none⟩,mq)])):=Oc bo Ta.o.2.2 (fun e=>by have:=Wc.o _ e;omega) (fun e=>by simp[ob]at e;have:=Nb.o.2;omega);have Cb:=Hd (Ta.o.grown Pb (fun e=>by have:=Wc.o bo (by simp[b8,br e]);omega));have Db:=Hd (Oa.o.trans (ap Pb (m9 Pa Oa.o.size) (fun z e=>(Qa.o.lt z (by simp[b8,br e])).1)));refine hK.out _ _ Db.o (fun _=>?_);clear hK Kk Pb hP Oc Hc Ic Jc Kc Lc Nc Qa Ta Oa Gc LJ Nb;refine tk 16 (.pointer (some ⟨bo,3,none⟩)) ?_ ?_
   ·intro wq Bb;go_simp
   refine vk (rs:=[17]) (by kernel_rfl) (by simp) ?_;apply uP
   case ho=>exact rfl
   case hs=>exact uW
   intro Kk hK;have c3:=Cb.c 3;have f3:=Cb.o.fr 3;go_simp;have Qb:w8.grownBy (w8.setCell ⟨bo,3,none⟩ (.slice Fa (Ba+1) Ga)) (some bo):=aT _ _ _;have Rb:H9 (au (w8.setCell ⟨bo,3,none⟩ (.slice Fa (Ba+1) Ga)) bo (aI Ca Aa bb Da Ea Fa (Ba+1) Ga)):=Cb.o.set 3 (by simp) _;have Fd:=Hd (Pc.o.grown Qb (fun g hg e=>Qc.o (m2 e ▸ hg)));have Eb:=Hd (Db.o.trans (ap Qb (m9 Pa Db.o.size) (fun z e=>by have:=m2 e;omega)));refine hK.out _ _ Eb.o (fun _=>?_);clear hK Kk Qb c3 f3 Cb Pc Db;refine bg ?_;go_simp;generalize(w8.setCell ⟨bo,3,none⟩ (.slice Fa (Ba+1) Ga))=w9 at *;have Rc:=Ib.o.below Eb.o (by omega);have Cd:=Rc.c 1;have o1:=Rb.c 1;have He:=Rb.o.fr 1;have Ie:IntKind.i64.wrap (Aa+1)=Aa+1:=(by rw[vi];omega);clear Rc;have Sb:w9.grownBy (w9.setCell ⟨bo,1,none⟩ (it (Aa+1))) (some bo):=aT _ _ _;have Fb:H9 (au (w9.setCell ⟨bo,1,none⟩ (it (Aa+1))) bo (aI Ca (Aa+1) bb Da Ea Fa (Ba+1) Ga)):=Rb.o.set 1 (by simp) _;have Sc:=Hd (Fd.o.grown Sb (fun g hg e=>Qc.o (m2 e ▸ hg)));have Tb:=Hd (Eb.o.trans (ap Sb (m9 Pa Eb.o.size) (fun z e=>by have:=m2 e;omega)));clear Sb;have Na:H9 (au (w9.setCell ⟨bo,1,none⟩ (it (Aa+1))) (w.heap.size+1+1) aV):=Ua.o.below Tb.o Hb.o;have Tc:=Ib.o.below Tb.o (by omega);have m_1':=Tc.c 1;clear Tc;have o0':=Fb.c 0;have o1':=Fb.c 1;have o2':=Fb.c 2;have o3':=Fb.c 3;have r0:=Na.c 0;have Ld:=Na.o.fr 0;have r1:=Na.c 1;have Nd:=Na.o.fr 1;have r2:=Na.c 2;have Od:=Na.o.fr 2;have r3:=Na.c 3;have Pd:=Na.o.fr 3;have hr:r=(⟨Ca,Aa+1,bs,js++[⟨Aa,⟨⟨m0,J,L,T,Y,U⟩,⟨Z,m7,Q,V,Ha,Ia⟩⟩,(t1,t2),Ja,false,List.replicate mq M.t0⟩]⟩,0,Aa):=(by rw[Bd.o];unfold M.submit;dsimp only;rw[if_neg (by simp only[Bool.or_eq_true,decide_eq_true_eq];rw[Ad];exact fun e=>e.elim h6 h9),vv]);subst hr;(go_wp2_with fail);apply fi
   case f=>
    intro key
    go_region_law (fail)
    all_goals exact key.out
   case h=>
    (go_wp2_with fail);show bodyPost _ _ _ _ _ ((w9.setCell ⟨bo,1,none⟩ (it (Aa+1))).setCells (w.heap.size+1+1) 0 (aI Ca (Aa+1) bb Da Ea Fa (Ba+1) Ga)).drew;have Uc:au ((w9.setCell ⟨bo,1,none⟩ (it (Aa+1))).setCells (w.heap.size+1+1) 0 (aI Ca (Aa+1) bb Da Ea Fa (Ba+1) Ga)) (w.heap.size+1+1) (aI Ca (Aa+1) bb Da Ea Fa (Ba+1) Ga):=Na.o.setCells (aI Ca (Aa+1) bb Da Ea Fa (Ba+1) Ga) 0 (by simp);have Ra:=ct (w9.setCell ⟨bo,1,none⟩ (it (Aa+1))) (w.heap.size+1+1) 0 (aI Ca (Aa+1) bb Da Ea Fa (Ba+1) Ga);have Ub:=Yb.o.trans (Tb.o.mono (by omega));have Vb:=Ub.trans (ap Ra Ub.size (fun z e=>by have:=m2 e;omega));have Vc:aW ((w9.setCell ⟨bo,1,none⟩ (it (Aa+1))).setCells (w.heap.size+1+1) 0 (aI Ca (Aa+1) bb Da Ea Fa (Ba+1) Ga)) w.heap.size bb Da Ea bs Fa (Ba+1) Ga (qs++[(⟨Aa,⟨⟨m0,J,L,T,Y,U⟩,⟨Z,m7,Q,V,Ha,Ia⟩⟩,(t1,t2),Ja,false,List.replicate mq M.t0⟩,some ⟨g,0,none⟩,mq)]):=(Sc.o.grown Ra (fun g hg e=>by have:=(Sc.o.lt g hg).1;have:=m2 e;omega)).mono (by omega);have Sa:Below ((w9.setCell ⟨bo,1,none⟩ (it (Aa+1))).setCells (w.heap.size+1+1) 0 (aI Ca (Aa+1) bb Da Ea Fa (Ba+1) Ga)).heap.size ((w9.setCell ⟨bo,1,none⟩ (it (Aa+1))).setCells (w.heap.size+1+1) 0 (aI Ca (Aa+1) bb Da Ea Fa (Ba+1) Ga)) ((w9.setCell ⟨bo,1,none⟩ (it (Aa+1))).setCells (w.heap.size+1+1) 0 (aI Ca (Aa+1) bb Da Ea Fa (Ba+1) Ga)).drew:=(m5 _ _).drew;have Jb:=Uc.belowS Sa;have Ab:=Vc.below Sa;have Za:=Vb.trans (Sa.mono Vb.size);have Kb:bD w w.heap.size (⟨Ca,Aa+1,bs,js++[⟨Aa,⟨⟨m0,J,L,T,Y,U⟩,⟨Z,m7,Q,V,Ha,Ia⟩⟩,(t1,t2),Ja,false,List.replicate mq M.t0⟩]⟩,0,Aa) (.returned (.tuple #[.agg (aI Ca (Aa+1) bb Da Ea Fa (Ba+1) Ga).toArray,it 0,it Aa])) ((w9.setCell ⟨bo,1,none⟩ (it (Aa+1))).setCells (w.heap.size+1+1) 0 (aI Ca (Aa+1) bb Da Ea Fa (Ba+1) Ga)).drew:=⟨_,rfl,_,_,_,_,_,_,_,rfl,Ab,by rw[vq,Wb];rfl,Za⟩;clear Uc Ra Ub Vb Vc Sa Ab Za;generalize((w9.setCell ⟨bo,1,none⟩ (it (Aa+1))).setCells (w.heap.size+1+1) 0 (aI Ca (Aa+1) bb Da Ea Fa (Ba+1) Ga)).drew=wz at *;exact m8 (aJ rfl rfl (u' wz (w.heap.size+1+1) 0 27 _ _ Jb.row underlying27 rfl (by kernel_rfl))) rfl Kb
  case hs=>
   apply uP
   case ho=>exact rfl
   case hs=>exact uW
   intro Kk hK;with_reducible refine eJ ?qg (.tmp 45) 43 ?qo bc 47 i0 (.agg sC.toArray) 3 underlying43 hi Gd Id mq ?qm Ud Td Vd Wd ?_
   case qg | qo=>exact rfl
   case qm=>kernel_rfl
   intro g wm Lb Ec hg;have Ed:wm.heap.size≥Dd.heap.size:=hg.size;have Xc:=Hd (mP Rd Ec rfl);have Nb:H9 ((∀x∈b8 bb jj qs,x<g)∧bo<g):=⟨fun x hx=>Lb ▸ (Qa.o.lt x hx).2,Lb ▸ Ta.o.2.2⟩;have Yc:=Hd (Qa.o.grown hg (fun _ _=>by simp));have Fc:=Hd (Ta.o.grown hg (by simp));have Xa:=Hd (Oa.o.trans (ap hg (m9 Pa Oa.o.size) (by simp)));refine hK.out _ _ Xa.o (fun hzz=>?_);clear hK Kk hzz Ec hg Ed Lb;refine tk 13 (.agg (bO Aa m0 J L T Y U Z m7 Q V Ha Ia t1 t2 Ja false (some ⟨g,0,none⟩) mq mq).toArray) ?_ ?_
   ·intro wq Bb;go_simp
   refine vk (rs:=[1,14]) (by kernel_rfl) (by simp) ?_;apply uP
   case ho=>exact rfl
   case' h=>
    intro Kk hK;have c3:=Fc.c 3;with_reducible refine dd ?qg 25 (.tmp 34) ?qo ⟨bo,3,none⟩ ?qxz (.slice jj Ba Ka) (ja c3) ?_
    case qg | qo=>exact rfl
    case qxz=>kernel_rfl
    refine hK.out _ _ Xa.o (fun hzz=>?_);clear hK Kk hzz c3;refine vk (rs:=[14]) (by kernel_rfl) (by simp) ?_;apply uP
    case ho=>exact rfl
    case hs=>exact uW
    intro Kk hK;with_reducible refine dA ?qg (fun x=>.slice (some ⟨x,0,none⟩) 1 1) (wm.alloc (.cells (bO Aa m0 J L T Y U Z m7 Q V Ha Ia t1 t2 Ja false (some ⟨g,0,none⟩) mq mq).toArray 45)) ?qrun ?_
    case qg=>exact rfl
    case qrun=>kernel_rfl
    intro gb wn Gb Va;have La:=fh wm (.cells (bO Aa m0 J L T Y U Z m7 Q V Ha Ia t1 t2 Ja false (some ⟨g,0,none⟩) mq mq).toArray 45);rw[Va]at La;have Bc:=Hd (Yc.o.below La);have Ob:=Fc.b La;have Cc:=Hd (Xc.o.grown (bw La none) (fun _ _=>by simp));have Ya:=Hd (Xa.o.trans (La.mono (m9 Pa Xa.o.size)));have LJ:H9 (au wn gb (bO Aa m0 J L T Y U Z m7 Q V Ha Ia t1 t2 Ja false (some ⟨g,0,none⟩) mq mq)):=(by show au wn gb _;rw[←Va,←Gb];exact aM _ _ _);refine hK.out _ _ Ya.o (fun hzz=>?_);clear hK Kk hzz La Va Gb
   case' hs=>
    apply uP
    case ho=>exact rfl
    case hs=>exact uW
    intro Kk hK;with_reducible refine dA ?qg (fun x=>.slice (some ⟨x,0,none⟩) 1 1) (wm.alloc (.cells (bO Aa m0 J L T Y U Z m7 Q V Ha Ia t1 t2 Ja false (some ⟨g,0,none⟩) mq mq).toArray 45)) ?qrun ?_
    case qg=>exact rfl
    case qrun=>kernel_rfl
    intro gb wn Gb Va;have La:=fh wm (.cells (bO Aa m0 J L T Y U Z m7 Q V Ha Ia t1 t2 Ja false (some ⟨g,0,none⟩) mq mq).toArray 45);rw[Va]at La;have Bc:=Hd (Yc.o.below La);have Ob:=Fc.b La;have Cc:=Hd (Xc.o.grown (bw La none) (fun _ _=>by simp));have Ya:=Hd (Xa.o.trans (La.mono (m9 Pa Xa.o.size)));have LJ:H9 (au wn gb (bO Aa m0 J L T Y U Z m7 Q V Ha Ia t1 t2 Ja false (some ⟨g,0,none⟩) mq mq)):=(by show au wn gb _;rw[←Va,←Gb];exact aM _ _ _);refine hK.out _ _ Ya.o (fun hzz=>?_);clear hK Kk hzz La Va Gb;refine vk (rs:=[1]) (by kernel_rfl) (by simp) ?_;apply uP
    case ho=>exact rfl
    case hs=>exact uW
    intro Kk hK;have c3:=Ob.c 3;with_reducible refine dd ?qg 25 (.tmp 34) ?qo ⟨bo,3,none⟩ ?qxz (.slice jj Ba Ka) (ja c3) ?_
    case qg | qo=>exact rfl
    case qxz=>kernel_rfl
    refine hK.out _ _ Ya.o (fun hzz=>?_);clear hK Kk hzz c3
   all_goals
    have Qa:H9 _:=Bc;have Ta:H9 _:=Ob;have Gc:H9 _:=Cc;have Oa:H9 _:=Ya;clear Bc Ob Cc Ya;refine vk (rs:=[15]) (by kernel_rfl) (by simp) ?_;apply uP
    case ho=>exact rfl
    case hs=>exact uW
    intro Kk hK;have Fe:qs.length=js.length:=(by rw[←Wb,List.length_map]);have Ge:Ba≤6:=(by rw[←Qa.o.jl];omega);have Hc:(bO Aa m0 J L T Y U Z m7 Q V Ha Ia t1 t2 Ja false (some ⟨g,0,none⟩) mq mq)=iM (⟨Aa,⟨⟨m0,J,L,T,Y,U⟩,⟨Z,m7,Q,V,Ha,Ia⟩⟩,(t1,t2),Ja,false,List.replicate mq M.t0⟩,some ⟨g,0,none⟩,mq):=(by dsimp only[iM,ed];rw[vj]);have Ic:bx wn bc (some ⟨g,0,none⟩) (List.replicate mq M.t0).length mq (List.replicate mq M.t0):=(by rw[vj];exact Gc.o);have Jc:au wn gb (iM (⟨Aa,⟨⟨m0,J,L,T,Y,U⟩,⟨Z,m7,Q,V,Ha,Ia⟩⟩,(t1,t2),Ja,false,List.replicate mq M.t0⟩,some ⟨g,0,none⟩,mq)):=(by rw[←Hc];exact LJ.o);have Kc:∀x∈ob (some (⟨g,0,none⟩:Addr)),x∉b8 bb jj qs:=fun x hx e=>by simp[ob]at hx;have:=Nb.o.1 x e;omega
    have Lc:Ba≤1000:=(by omega);have Nc:=m9 Pa Oa.o.size;with_reducible refine lY ?qg (.tmp 35) (.tmp 48) ?qo ?qsl gb ?qnw Qa.o (⟨Aa,⟨⟨m0,J,L,T,Y,U⟩,⟨Z,m7,Q,V,Ha,Ia⟩⟩,(t1,t2),Ja,false,List.replicate mq M.t0⟩,some ⟨g,0,none⟩,mq) Jc Ic Kc Lc Nc ?_
    case qg | qo=>exact rfl
    case qsl | qnw=>kernel_rfl
    intro Fa Ga w8 hP Oc Pb;have Pc:=Hd hP;have Qc:H9 (bo∉b8 bb Fa (qs++[(⟨Aa,⟨⟨m0,J,L,T,Y,U⟩,⟨Z,m7,Q,V,Ha,Ia⟩⟩,(t1,t2),Ja,false,List.replicate mq M.t0⟩,some ⟨g,0,none⟩,mq)])):=Oc bo Ta.o.2.2 (fun e=>by have:=Wc.o _ e;omega) (fun e=>by simp[ob]at e;have:=Nb.o.2;omega);have Cb:=Hd (Ta.o.grown Pb (fun e=>by have:=Wc.o bo (by simp[b8,br e]);omega));have Db:=Hd (Oa.o.trans (ap Pb (m9 Pa Oa.o.size) (fun z e=>(Qa.o.lt z (by simp[b8,br e])).1)));refine hK.out _ _ Db.o (fun _=>?_);clear hK Kk Pb hP Oc Hc Ic Jc Kc Lc Nc Qa Ta Oa Gc LJ Nb;refine tk 16 (.pointer (some ⟨bo,3,none⟩)) ?_ ?_
    ·intro wq Bb;go_simp
    refine vk (rs:=[17]) (by kernel_rfl) (by simp) ?_;apply uP
    case ho=>exact rfl
    case hs=>exact uW
    intro Kk hK;have c3:=Cb.c 3;have f3:=Cb.o.fr 3;go_simp;have Qb:w8.grownBy (w8.setCell ⟨bo,3,none⟩ (.slice Fa (Ba+1) Ga)) (some bo):=aT _ _ _;have Rb:H9 (au (w8.setCell ⟨bo,3,none⟩ (.slice Fa (Ba+1) Ga)) bo (aI Ca Aa bb Da Ea Fa (Ba+1) Ga)):=Cb.o.set 3 (by simp) _;have Fd:=Hd (Pc.o.grown Qb (fun g hg e=>Qc.o (m2 e ▸ hg)));have Eb:=Hd (Db.o.trans (ap Qb (m9 Pa Db.o.size) (fun z e=>by have:=m2 e;omega)));refine hK.out _ _ Eb.o (fun _=>?_);clear hK Kk Qb c3 f3 Cb Pc Db;refine bg ?_;go_simp;generalize(w8.setCell ⟨bo,3,none⟩ (.slice Fa (Ba+1) Ga))=w9 at *;have Rc:=Ib.o.below Eb.o (by omega);have Cd:=Rc.c 1;have o1:=Rb.c 1;have He:=Rb.o.fr 1;have Ie:IntKind.i64.wrap (Aa+1)=Aa+1:=(by rw[vi];omega);clear Rc;have Sb:w9.grownBy (w9.setCell ⟨bo,1,none⟩ (it (Aa+1))) (some bo):=aT _ _ _;have Fb:H9 (au (w9.setCell ⟨bo,1,none⟩ (it (Aa+1))) bo (aI Ca (Aa+1) bb Da Ea Fa (Ba+1) Ga)):=Rb.o.set 1 (by simp) _;have Sc:=Hd (Fd.o.grown Sb (fun g hg e=>Qc.o (m2 e ▸ hg)));have Tb:=Hd (Eb.o.trans (ap Sb (m9 Pa Eb.o.size) (fun z e=>by have:=m2 e;omega)));clear Sb;have Na:H9 (au (w9.setCell ⟨bo,1,none⟩ (it (Aa+1))) (w.heap.size+1+1) aV):=Ua.o.below Tb.o Hb.o;have Tc:=Ib.o.below Tb.o (by omega);have m_1':=Tc.c 1;clear Tc;have o0':=Fb.c 0;have o1':=Fb.c 1;have o2':=Fb.c 2;have o3':=Fb.c 3;have r0:=Na.c 0;have Ld:=Na.o.fr 0;have r1:=Na.c 1;have Nd:=Na.o.fr 1;have r2:=Na.c 2;have Od:=Na.o.fr 2;have r3:=Na.c 3;have Pd:=Na.o.fr 3;have hr:r=(⟨Ca,Aa+1,bs,js++[⟨Aa,⟨⟨m0,J,L,T,Y,U⟩,⟨Z,m7,Q,V,Ha,Ia⟩⟩,(t1,t2),Ja,false,List.replicate mq M.t0⟩]⟩,0,Aa):=(by rw[Bd.o];unfold M.submit;dsimp only;rw[if_neg (by simp only[Bool.or_eq_true,decide_eq_true_eq];rw[Ad];exact fun e=>e.elim h6 h9),vv]);subst hr;(go_wp2_with fail);apply fi
    case f=>
     intro key
     go_region_law (fail)
     all_goals exact key.out
    case h=>
     (go_wp2_with fail);show bodyPost _ _ _ _ _ ((w9.setCell ⟨bo,1,none⟩ (it (Aa+1))).setCells (w.heap.size+1+1) 0 (aI Ca (Aa+1) bb Da Ea Fa (Ba+1) Ga)).drew;have Uc:au ((w9.setCell ⟨bo,1,none⟩ (it (Aa+1))).setCells (w.heap.size+1+1) 0 (aI Ca (Aa+1) bb Da Ea Fa (Ba+1) Ga)) (w.heap.size+1+1) (aI Ca (Aa+1) bb Da Ea Fa (Ba+1) Ga):=Na.o.setCells (aI Ca (Aa+1) bb Da Ea Fa (Ba+1) Ga) 0 (by simp);have Ra:=ct (w9.setCell ⟨bo,1,none⟩ (it (Aa+1))) (w.heap.size+1+1) 0 (aI Ca (Aa+1) bb Da Ea Fa (Ba+1) Ga);have Ub:=Yb.o.trans (Tb.o.mono (by omega));have Vb:=Ub.trans (ap Ra Ub.size (fun z e=>by have:=m2 e;omega));have Vc:aW ((w9.setCell ⟨bo,1,none⟩ (it (Aa+1))).setCells (w.heap.size+1+1) 0 (aI Ca (Aa+1) bb Da Ea Fa (Ba+1) Ga)) w.heap.size bb Da Ea bs Fa (Ba+1) Ga (qs++[(⟨Aa,⟨⟨m0,J,L,T,Y,U⟩,⟨Z,m7,Q,V,Ha,Ia⟩⟩,(t1,t2),Ja,false,List.replicate mq M.t0⟩,some ⟨g,0,none⟩,mq)]):=(Sc.o.grown Ra (fun g hg e=>by have:=(Sc.o.lt g hg).1;have:=m2 e;omega)).mono (by omega);have Sa:Below ((w9.setCell ⟨bo,1,none⟩ (it (Aa+1))).setCells (w.heap.size+1+1) 0 (aI Ca (Aa+1) bb Da Ea Fa (Ba+1) Ga)).heap.size ((w9.setCell ⟨bo,1,none⟩ (it (Aa+1))).setCells (w.heap.size+1+1) 0 (aI Ca (Aa+1) bb Da Ea Fa (Ba+1) Ga)) ((w9.setCell ⟨bo,1,none⟩ (it (Aa+1))).setCells (w.heap.size+1+1) 0 (aI Ca (Aa+1) bb Da Ea Fa (Ba+1) Ga)).drew:=(m5 _ _).drew;have Jb:=Uc.belowS Sa;have Ab:=Vc.below Sa;have Za:=Vb.trans (Sa.mono Vb.size);have Kb:bD w w.heap.size (⟨Ca,Aa+1,bs,js++[⟨Aa,⟨⟨m0,J,L,T,Y,U⟩,⟨Z,m7,Q,V,Ha,Ia⟩⟩,(t1,t2),Ja,false,List.replicate mq M.t0⟩]⟩,0,Aa) (.returned (.tuple #[.agg (aI Ca (Aa+1) bb Da Ea Fa (Ba+1) Ga).toArray,it 0,it Aa])) ((w9.setCell ⟨bo,1,none⟩ (it (Aa+1))).setCells (w.heap.size+1+1) 0 (aI Ca (Aa+1) bb Da Ea Fa (Ba+1) Ga)).drew:=⟨_,rfl,_,_,_,_,_,_,_,rfl,Ab,by rw[vq,Wb];rfl,Za⟩;clear Uc Ra Ub Vb Vc Sa Ab Za;generalize((w9.setCell ⟨bo,1,none⟩ (it (Aa+1))).setCells (w.heap.size+1+1) 0 (aI Ca (Aa+1) bb Da Ea Fa (Ba+1) Ga)).drew=wz at *;exact m8 (aJ rfl rfl (u' wz (w.heap.size+1+1) 0 27 _ _ Jb.row underlying27 rfl (by kernel_rfl))) rfl Kb
end Go.Proofs.YtobnifjhikoleaaGreatDoor
