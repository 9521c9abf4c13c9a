import Derived.Test.YtbjalickbnpnkaaGreatDoorPk23
namespace Go.Proofs.YtbjalickbnpnkaaGreatDoor
open Go.RowKit Go.Proofs.Tryz
set_option linter.unusedSimpArgs false
set_option maxHeartbeats 32000000
set_option maxRecDepth 10000
theorem lK{id em dC i':Int}{bare mok sok rok non wk idk p7 mt:Bool}(h:M.formB 1 id em dC i' bare mok sok rok (M.inB i' 1 8) non wk idk p7 mt=true):1<=i'/\i'<=8:=by
 rcases M.form_kinds h with⟨_,_,_,_,h⟩ | ⟨h,_⟩ | ⟨h,_⟩ | ⟨h,_⟩ | ⟨h,_⟩
 .exact M.inB_iff.1 h
 all_goals exact absurd h (by decide)
theorem rO:ir.p1:=by
 obtain⟨i0,hi,Gd,Id,Xd⟩:=info_parts gm;obtain⟨i1,Je,Ke,Le,Ne⟩:=info_parts fV;intro ab aj nb cb nj cj bs js Ca Aa Oe id Ja Pe Zc m0 I J Q m4 Y m6 m7 L Z Ha Ia t1 t2 p1 p2 p3 p4 a1 a2 a3 a4 n1 n2 n3 n4 c1 c2 c3 c4 z1 z2 z3 z4 w l1 l2 l3 l4 HM S1 S2 S3 S4 r Yd wa wb C1 Zd HF wc bb Da Ea jj Ba Ka qs Wb bc Hb Qe Re Se Te Ue Ve wd bo We Jd Wc we Ib Xb Ua Yb Dc Zb Kd Ae;subst Ae;obtain⟨Be,Ce⟩:=lK Kd.o;have Ad:=HM.o.j.len;have Xe:=HF.o.few;have Ye:=HF.o.next1;have Ze:=HF.o.next0
 have hr:r=M.submit ⟨Ca,Aa,bs,js⟩ ⟨⟨m0,I,J,Q,m4,Y⟩,⟨m6,m7,L,Z,Ha,Ia⟩⟩ (t1,t2) Ja Zc:=by
  rw[<-Yd.o];unfold bu M.acted;rw[if_neg (show ¬ M.Mt.ok ⟨Ca,Aa,bs,js⟩=false by rw[show M.Mt.ok ⟨Ca,Aa,bs,js⟩=true from Zd.o];simp),if_neg (by rw[Kd.o];simp)];unfold M.act;rw[if_pos rfl]
 have Bd:=Hd hr;clear hr;have De:=Xb.c 0;have Cd:=Ib.c 1;have Ee:=Ib.c 3;by_cases Ac:nj=6\/Aa=1000000000
 case pos=>
  have hr:r=(⟨Ca,Aa,bs,js⟩,3,0):=(by rw[Bd.o];unfold M.submit;dsimp only;rw[if_pos (by simp only[Bool.or_eq_true,decide_eq_true_eq];rw[Ad];exact Ac)]);subst hr;have o0:=Zb.c 0;have o1:=Zb.c 1;have o2:=Zb.c 2;have o3:=Zb.c 3;have r0:=Ua.c 0;have Ld:=Ua.o.fr 0;have r1:=Ua.c 1;have Nd:=Ua.o.fr 1;have r2:=Ua.c 2;have Od:=Ua.o.fr 2;have r3:=Ua.c 3;have Pd:=Ua.o.fr 3;by_cases h6:nj=6
  case pos=>
   have g6:((nj:Int)==6)=true:=(by rw[h6];decide);clear h6;(go_wp2_with fail);show bodyPost _ _ _ _ _ (we.setCells (w.heap.size+1+1) 0 (aJ Ca Aa bb Da Ea jj Ba Ka));have Jb:aw (we.setCells (w.heap.size+1+1) 0 (aJ Ca Aa bb Da Ea jj Ba Ka)) (w.heap.size+1+1) (aJ Ca Aa bb Da Ea jj Ba Ka):=Ua.o.setCells (aJ Ca Aa bb Da Ea jj Ba Ka) 0 (by simp);have Ra:=dS we (w.heap.size+1+1) 0 (aJ Ca Aa bb Da Ea jj Ba Ka);have Za:=Yb.o.trans (ap Ra Yb.o.size (λz e=>by have:=m2 e;omega));have Ab:aW (we.setCells (w.heap.size+1+1) 0 (aJ Ca Aa bb Da Ea jj Ba Ka)) w.heap.size bb Da Ea bs jj Ba Ka qs:=(Dc.o.grown Ra (λg hg e=>by have:=(Dc.o.lt g hg).1;have:=m2 e;have:=Hb.o;omega)).mono (by have:=Hb.o;omega);have Kb:bp w w.heap.size (⟨Ca,Aa,bs,js⟩,3,0) (.returned (.tuple #[.agg (aJ Ca Aa bb Da Ea jj Ba Ka).toArray,it 3,it 0])) (we.setCells (w.heap.size+1+1) 0 (aJ Ca Aa bb Da Ea jj Ba Ka)):=⟨_,rfl,_,_,_,_,_,_,_,rfl,Ab,Wb,Za⟩;generalize(we.setCells (w.heap.size+1+1) 0 (aJ Ca Aa bb Da Ea jj Ba Ka))=wz at *;exact s' (aK rfl rfl (xH wz (w.heap.size+1+1) 0 27 _ _ Jb.row underlying27 rfl (by kernel_rfl))) rfl Kb
  case neg=>
   have Qd:=Ac.resolve_left h6;have g6:((nj:Int)==6)=false:=(by simp;omega);have g9:(Aa==1000000000)=true:=(by simp[Qd]);clear Qd Ac;(go_wp2_with fail);show bodyPost _ _ _ _ _ (we.setCells (w.heap.size+1+1) 0 (aJ Ca Aa bb Da Ea jj Ba Ka));have Jb:aw (we.setCells (w.heap.size+1+1) 0 (aJ Ca Aa bb Da Ea jj Ba Ka)) (w.heap.size+1+1) (aJ Ca Aa bb Da Ea jj Ba Ka):=Ua.o.setCells (aJ Ca Aa bb Da Ea jj Ba Ka) 0 (by simp);have Ra:=dS we (w.heap.size+1+1) 0 (aJ Ca Aa bb Da Ea jj Ba Ka);have Za:=Yb.o.trans (ap Ra Yb.o.size (λz e=>by have:=m2 e;omega));have Ab:aW (we.setCells (w.heap.size+1+1) 0 (aJ Ca Aa bb Da Ea jj Ba Ka)) w.heap.size bb Da Ea bs jj Ba Ka qs:=(Dc.o.grown Ra (λg hg e=>by have:=(Dc.o.lt g hg).1;have:=m2 e;have:=Hb.o;omega)).mono (by have:=Hb.o;omega);have Kb:bp w w.heap.size (⟨Ca,Aa,bs,js⟩,3,0) (.returned (.tuple #[.agg (aJ Ca Aa bb Da Ea jj Ba Ka).toArray,it 3,it 0])) (we.setCells (w.heap.size+1+1) 0 (aJ Ca Aa bb Da Ea jj Ba Ka)):=⟨_,rfl,_,_,_,_,_,_,_,rfl,Ab,Wb,Za⟩;generalize(we.setCells (w.heap.size+1+1) 0 (aJ Ca Aa bb Da Ea jj Ba Ka))=wz at *;exact s' (aK rfl rfl (xH wz (w.heap.size+1+1) 0 27 _ _ Jb.row underlying27 rfl (by kernel_rfl))) rfl Kb
 case neg=>
  have g6:((nj:Int)==6)=false:=(by simp;omega);have g9:(Aa==1000000000)=false:=(by simp;omega);have h6:¬ nj=6:=λe=>Ac (.inl e);have h9:¬ Aa=1000000000:=λe=>Ac (.inr e);clear Ac;obtain⟨mq,hM⟩:∃mq:Nat,Zc=(mq:Int):=⟨Zc.toNat,by omega⟩;subst hM;have Af:1<=mq:=(by omega);have Rd:mq<=8:=(by omega);clear Be Ce;(go_wp2_with fail);clear De Cd Ee g6 g9;have Pa:bc<=we.heap.size:=(by have h8:=Zb.o.2.2;have:=Jd.o;omega);have Bf:=Hb.o;have Cf:=Jd.o;refine wp_region_noPanic ?_;refine wp_region_held_drew (S:=λW=>Below bc we W) (by kernel_rfl) ((m8 _ _).drew) (λhHeld=>?_);have Sa:m1 we we.drew:=(m8 _ _).drew;have Qa:=Hd (Dc.o.below Sa);have Ta:=Zb.b Sa;have Oa:=Hd hHeld;clear Sa;generalize we.drew=Dd at *;refine tE 0 (.pointer (some ⟨bo,3,none⟩)) ?_;refine tE 2 (.pointer (some ⟨w.heap.size,1,none⟩)) ?_;refine tk 3 (it Aa) ?_ ?_
  .intro wp Wa;have c0:=(Ib.o.below Wa (by omega)).c 1;go_simp
  refine tE 4 (.pointer (some ⟨w.heap.size+1,5,none⟩)) ?_;have Sd:∀W:World,Below bc we W->W.rangeAt (w.heap.size+1) 5 (cW m0 I J Q m4 Y m6 m7 L Z Ha Ia):=λW Wa=>(Xb.o.below Wa (by omega)).mid 5 12;refine wpAnyH_take (i:=5) (v:=.agg (cW m0 I J Q m4 Y m6 m7 L Z Ha Ia).toArray) rfl (by kernel_rfl) (by kernel_rfl) (by kernel_rfl) (λ_ _ _ h=>h) (xF (by kernel_rfl) 31 (.tmp 38) rfl (w.heap.size+1) 5 rfl (cW m0 I J Q m4 Y m6 m7 L Z Ha Ia) _ (Sd) underlying31 rfl (by kernel_rfl)) (by assumption) ?_;clear Sd;refine tE 6 (.pointer (some ⟨w.heap.size+1,17,none⟩)) ?_;refine tk 7 (.agg #[it t1,it t2]) ?_ ?_
  .intro wp Wa;have c0:=(Xb.o.below Wa (by omega)).c 17;have c1:=(Xb.o.below Wa (by omega)).c 18;go_simp
  refine tE 8 (.pointer (some ⟨w.heap.size+1,2,none⟩)) ?_;refine tk 9 (it Ja) ?_ ?_
  .intro wp Wa;have c0:=(Xb.o.below Wa (by omega)).c 2;go_simp
  refine tE 10 (.pointer (some ⟨w.heap.size+1,4,none⟩)) ?_;refine tk 11 (it (mq:Nat)) ?_ ?_
  .intro wp Wa;have c0:=(Xb.o.below Wa (by omega)).c 4;go_simp
  have Td:i0.bytes*mq<=281474976710656:=(by rw[Xd];omega);have Ud:mq*3<=16777216:=(by omega);have Vd:mq<=maxLen:=(by unfold maxLen;omega);have Wd:=tr Pa Oa.o.size;refine xO (rs:=[1,12]) (by kernel_rfl) (by simp) ?_;apply u'
  case ho=>exact rfl
  case h=>
   intro Kk hK;have c3:=Ta.c 3;with_reducible refine dq ?qg 25 (.tmp 34) ?qo ⟨bo,3,none⟩ ?qxz (.slice jj Ba Ka) (jV c3) ?_
   case qg | qo=>exact rfl
   case qxz=>kernel_rfl
   refine hK.out _ _ Oa.o (λhzz=>?_);clear hK Kk hzz c3;refine xO (rs:=[12]) (by kernel_rfl) (by simp) ?_;apply u'
   case ho=>exact rfl
   case hs=>exact xB
   intro Kk hK;with_reducible refine fh ?qg (.tmp 45) 68 ?qo bc 75 i0 (.agg ug.toArray) 3 underlying68 hi Gd Id mq ?qm Ud Td Vd Wd ?_
   case qg | qo=>exact rfl
   case qm=>kernel_rfl
   intro g wm Lb Ec hg;have Ed:wm.heap.size≥Dd.heap.size:=hg.size;have Xc:=Hd (oh Rd Ec rfl);have Nb:H7 ((∀x∈b7 bb jj qs,x<g)/\bo<g):=⟨λx hx=>Lb ▸ (Qa.o.lt x hx).2,Lb ▸ Ta.o.2.2⟩;have Yc:=Hd (Qa.o.grown hg (λ_ _=>by simp));have Fc:=Hd (Ta.o.grown hg (by simp));have Xa:=Hd (Oa.o.trans (ap hg (tr Pa Oa.o.size) (by simp)));refine hK.out _ _ Xa.o (λhzz=>?_);clear hK Kk hzz Ec hg Ed Lb;refine tE 13 (.agg (bO Aa m0 I J Q m4 Y m6 m7 L Z Ha Ia t1 t2 Ja false (some ⟨g,0,none⟩) mq mq).toArray) ?_;refine xO (rs:=[14]) (by kernel_rfl) (by simp) ?_;apply u'
   case ho=>exact rfl
   case hs=>exact xB
   intro Kk hK;with_reducible refine dR ?qg (λx=>.slice (some ⟨x,0,none⟩) 1 1) (wm.alloc (.cells (bO Aa m0 I J Q m4 Y m6 m7 L Z Ha Ia t1 t2 Ja false (some ⟨g,0,none⟩) mq mq).toArray 70)) ?qrun ?_
   case qg=>exact rfl
   case qrun=>kernel_rfl
   intro gb wn Gb Va;have La:=gW wm (.cells (bO Aa m0 I J Q m4 Y m6 m7 L Z Ha Ia t1 t2 Ja false (some ⟨g,0,none⟩) mq mq).toArray 70);rw[Va]at La;have Bc:=Hd (Yc.o.below La);have Ob:=Fc.b La;have Cc:=Hd (Xc.o.grown (bB La none) (λ_ _=>by simp));have Ya:=Hd (Xa.o.trans (La.mono (tr Pa Xa.o.size)));have LJ:H7 (aw wn gb (bO Aa m0 I J Q m4 Y m6 m7 L Z Ha Ia t1 t2 Ja false (some ⟨g,0,none⟩) mq mq)):=(by show aw wn gb _;rw[<-Va,<-Gb];exact aQ _ _ _);refine hK.out _ _ Ya.o (λhzz=>?_);clear hK Kk hzz La Va Gb;have Qa:H7 _:=Bc;have Ta:H7 _:=Ob;have Gc:H7 _:=Cc;have Oa:H7 _:=Ya;clear Bc Ob Cc Ya;refine xO (rs:=[15]) (by kernel_rfl) (by simp) ?_;apply u'
   case ho=>exact rfl
   case hs=>exact xB
   intro Kk hK;have Fe:qs.length=js.length:=(by rw[<-Wb,List.length_map]);have Ge:Ba<=6:=(by rw[<-Qa.o.jl];omega);have Hc:(bO Aa m0 I J Q m4 Y m6 m7 L Z Ha Ia t1 t2 Ja false (some ⟨g,0,none⟩) mq mq)=jy (⟨Aa,⟨⟨m0,I,J,Q,m4,Y⟩,⟨m6,m7,L,Z,Ha,Ia⟩⟩,(t1,t2),Ja,false,List.replicate mq M.t0⟩,some ⟨g,0,none⟩,mq):=(by dsimp only[jy,fk];rw[xM]);have Ic:bw wn bc (some ⟨g,0,none⟩) (List.replicate mq M.t0).length mq (List.replicate mq M.t0):=(by rw[xM];exact Gc.o);have Jc:aw wn gb (jy (⟨Aa,⟨⟨m0,I,J,Q,m4,Y⟩,⟨m6,m7,L,Z,Ha,Ia⟩⟩,(t1,t2),Ja,false,List.replicate mq M.t0⟩,some ⟨g,0,none⟩,mq)):=(by rw[<-Hc];exact LJ.o);have Kc:∀x∈ob (some (⟨g,0,none⟩:Addr)),x∉b7 bb jj qs:=λx hx e=>by simp[ob]at hx;have:=Nb.o.1 x e;omega
   have Lc:Ba<=1000:=(by omega);have Nc:=tr Pa Oa.o.size;with_reducible refine ns ?qg (.tmp 35) (.tmp 48) ?qo ?qsl gb ?qnw Qa.o (⟨Aa,⟨⟨m0,I,J,Q,m4,Y⟩,⟨m6,m7,L,Z,Ha,Ia⟩⟩,(t1,t2),Ja,false,List.replicate mq M.t0⟩,some ⟨g,0,none⟩,mq) Jc Ic Kc Lc Nc ?_
   case qg | qo=>exact rfl
   case qsl | qnw=>kernel_rfl
   intro Fa Ga w8 hP Oc Pb;have Pc:=Hd hP;have Qc:H7 (bo∉b7 bb Fa (qs++[(⟨Aa,⟨⟨m0,I,J,Q,m4,Y⟩,⟨m6,m7,L,Z,Ha,Ia⟩⟩,(t1,t2),Ja,false,List.replicate mq M.t0⟩,some ⟨g,0,none⟩,mq)])):=Oc bo Ta.o.2.2 (λe=>by have:=Wc.o _ e;omega) (λe=>by simp[ob]at e;have:=Nb.o.2;omega);have Cb:=Hd (Ta.o.grown Pb (λe=>by have:=Wc.o bo (by simp[b7,bA e]);omega));have Db:=Hd (Oa.o.trans (ap Pb (tr Pa Oa.o.size) (λz e=>(Qa.o.lt z (by simp[b7,bA e])).1)));refine hK.out _ _ Db.o (λ_=>?_);clear hK Kk Pb hP Oc Hc Ic Jc Kc Lc Nc Qa Ta Oa Gc LJ Nb;refine tE 16 (.pointer (some ⟨bo,3,none⟩)) ?_;refine xO (rs:=[17]) (by kernel_rfl) (by simp) ?_;apply u'
   case ho=>exact rfl
   case hs=>exact xB
   intro Kk hK;have c3:=Cb.c 3;have f3:=Cb.o.fr 3;go_simp;have Qb:w8.grownBy (w8.setCell ⟨bo,3,none⟩ (.slice Fa (Ba+1) Ga)) (some bo):=aV _ _ _;have Rb:H7 (aw (w8.setCell ⟨bo,3,none⟩ (.slice Fa (Ba+1) Ga)) bo (aJ Ca Aa bb Da Ea Fa (Ba+1) Ga)):=Cb.o.set 3 (by simp) _;have Fd:=Hd (Pc.o.grown Qb (λg hg e=>Qc.o (m2 e ▸ hg)));have Eb:=Hd (Db.o.trans (ap Qb (tr Pa Db.o.size) (λz e=>by have:=m2 e;omega)));refine hK.out _ _ Eb.o (λ_=>?_);clear hK Kk Qb c3 f3 Cb Pc Db;refine bi ?_;go_simp;generalize(w8.setCell ⟨bo,3,none⟩ (.slice Fa (Ba+1) Ga))=w9 at *;have Rc:=Ib.o.below Eb.o (by omega);have Cd:=Rc.c 1;have o1:=Rb.c 1;have He:=Rb.o.fr 1;have Ie:IntKind.i64.wrap (Aa+1)=Aa+1:=(by rw[xK];omega);clear Rc;have Sb:w9.grownBy (w9.setCell ⟨bo,1,none⟩ (it (Aa+1))) (some bo):=aV _ _ _;have Fb:H7 (aw (w9.setCell ⟨bo,1,none⟩ (it (Aa+1))) bo (aJ Ca (Aa+1) bb Da Ea Fa (Ba+1) Ga)):=Rb.o.set 1 (by simp) _;have Sc:=Hd (Fd.o.grown Sb (λg hg e=>Qc.o (m2 e ▸ hg)));have Tb:=Hd (Eb.o.trans (ap Sb (tr Pa Eb.o.size) (λz e=>by have:=m2 e;omega)));clear Sb;have Na:H7 (aw (w9.setCell ⟨bo,1,none⟩ (it (Aa+1))) (w.heap.size+1+1) cm):=Ua.o.below Tb.o Hb.o;have Tc:=Ib.o.below Tb.o (by omega);have m_1':=Tc.c 1;clear Tc;have o0':=Fb.c 0;have o1':=Fb.c 1;have o2':=Fb.c 2;have o3':=Fb.c 3;have r0:=Na.c 0;have Ld:=Na.o.fr 0;have r1:=Na.c 1;have Nd:=Na.o.fr 1;have r2:=Na.c 2;have Od:=Na.o.fr 2;have r3:=Na.c 3;have Pd:=Na.o.fr 3;have hr:r=(⟨Ca,Aa+1,bs,js++[⟨Aa,⟨⟨m0,I,J,Q,m4,Y⟩,⟨m6,m7,L,Z,Ha,Ia⟩⟩,(t1,t2),Ja,false,List.replicate mq M.t0⟩]⟩,0,Aa):=(by rw[Bd.o];unfold M.submit;dsimp only;rw[if_neg (by simp only[Bool.or_eq_true,decide_eq_true_eq];rw[Ad];exact λe=>e.elim h6 h9),xX]);subst hr;(go_wp2_with fail);apply fR
   case f=>
    intro key
    go_region_law (fail)
    all_goals exact key.out
   case h=>
    (go_wp2_with fail);show bodyPost _ _ _ _ _ ((w9.setCell ⟨bo,1,none⟩ (it (Aa+1))).setCells (w.heap.size+1+1) 0 (aJ Ca (Aa+1) bb Da Ea Fa (Ba+1) Ga)).drew;have Uc:aw ((w9.setCell ⟨bo,1,none⟩ (it (Aa+1))).setCells (w.heap.size+1+1) 0 (aJ Ca (Aa+1) bb Da Ea Fa (Ba+1) Ga)) (w.heap.size+1+1) (aJ Ca (Aa+1) bb Da Ea Fa (Ba+1) Ga):=Na.o.setCells (aJ Ca (Aa+1) bb Da Ea Fa (Ba+1) Ga) 0 (by simp);have Ra:=dS (w9.setCell ⟨bo,1,none⟩ (it (Aa+1))) (w.heap.size+1+1) 0 (aJ Ca (Aa+1) bb Da Ea Fa (Ba+1) Ga);have Ub:=Yb.o.trans (Tb.o.mono (by omega));have Vb:=Ub.trans (ap Ra Ub.size (λz e=>by have:=m2 e;omega));have Vc:aW ((w9.setCell ⟨bo,1,none⟩ (it (Aa+1))).setCells (w.heap.size+1+1) 0 (aJ Ca (Aa+1) bb Da Ea Fa (Ba+1) Ga)) w.heap.size bb Da Ea bs Fa (Ba+1) Ga (qs++[(⟨Aa,⟨⟨m0,I,J,Q,m4,Y⟩,⟨m6,m7,L,Z,Ha,Ia⟩⟩,(t1,t2),Ja,false,List.replicate mq M.t0⟩,some ⟨g,0,none⟩,mq)]):=(Sc.o.grown Ra (λg hg e=>by have:=(Sc.o.lt g hg).1;have:=m2 e;omega)).mono (by omega);have Sa:Below ((w9.setCell ⟨bo,1,none⟩ (it (Aa+1))).setCells (w.heap.size+1+1) 0 (aJ Ca (Aa+1) bb Da Ea Fa (Ba+1) Ga)).heap.size ((w9.setCell ⟨bo,1,none⟩ (it (Aa+1))).setCells (w.heap.size+1+1) 0 (aJ Ca (Aa+1) bb Da Ea Fa (Ba+1) Ga)) ((w9.setCell ⟨bo,1,none⟩ (it (Aa+1))).setCells (w.heap.size+1+1) 0 (aJ Ca (Aa+1) bb Da Ea Fa (Ba+1) Ga)).drew:=(m8 _ _).drew;have Jb:=Uc.belowS Sa;have Ab:=Vc.below Sa;have Za:=Vb.trans (Sa.mono Vb.size);have Kb:bp w w.heap.size (⟨Ca,Aa+1,bs,js++[⟨Aa,⟨⟨m0,I,J,Q,m4,Y⟩,⟨m6,m7,L,Z,Ha,Ia⟩⟩,(t1,t2),Ja,false,List.replicate mq M.t0⟩]⟩,0,Aa) (.returned (.tuple #[.agg (aJ Ca (Aa+1) bb Da Ea Fa (Ba+1) Ga).toArray,it 0,it Aa])) ((w9.setCell ⟨bo,1,none⟩ (it (Aa+1))).setCells (w.heap.size+1+1) 0 (aJ Ca (Aa+1) bb Da Ea Fa (Ba+1) Ga)).drew:=⟨_,rfl,_,_,_,_,_,_,_,rfl,Ab,by rw[xU,Wb];rfl,Za⟩;clear Uc Ra Ub Vb Vc Sa Ab Za;generalize((w9.setCell ⟨bo,1,none⟩ (it (Aa+1))).setCells (w.heap.size+1+1) 0 (aJ Ca (Aa+1) bb Da Ea Fa (Ba+1) Ga)).drew=wz at *;exact s' (aK rfl rfl (xH wz (w.heap.size+1+1) 0 27 _ _ Jb.row underlying27 rfl (by kernel_rfl))) rfl Kb
  case hs=>
   apply u'
   case ho=>exact rfl
   case hs=>exact xB
   intro Kk hK;with_reducible refine fh ?qg (.tmp 45) 68 ?qo bc 75 i0 (.agg ug.toArray) 3 underlying68 hi Gd Id mq ?qm Ud Td Vd Wd ?_
   case qg | qo=>exact rfl
   case qm=>kernel_rfl
   intro g wm Lb Ec hg;have Ed:wm.heap.size≥Dd.heap.size:=hg.size;have Xc:=Hd (oh Rd Ec rfl);have Nb:H7 ((∀x∈b7 bb jj qs,x<g)/\bo<g):=⟨λx hx=>Lb ▸ (Qa.o.lt x hx).2,Lb ▸ Ta.o.2.2⟩;have Yc:=Hd (Qa.o.grown hg (λ_ _=>by simp));have Fc:=Hd (Ta.o.grown hg (by simp));have Xa:=Hd (Oa.o.trans (ap hg (tr Pa Oa.o.size) (by simp)));refine hK.out _ _ Xa.o (λhzz=>?_);clear hK Kk hzz Ec hg Ed Lb;refine tE 13 (.agg (bO Aa m0 I J Q m4 Y m6 m7 L Z Ha Ia t1 t2 Ja false (some ⟨g,0,none⟩) mq mq).toArray) ?_;refine xO (rs:=[1,14]) (by kernel_rfl) (by simp) ?_;apply u'
   case ho=>exact rfl
   case' h=>
    intro Kk hK;have c3:=Fc.c 3;with_reducible refine dq ?qg 25 (.tmp 34) ?qo ⟨bo,3,none⟩ ?qxz (.slice jj Ba Ka) (jV c3) ?_
    case qg | qo=>exact rfl
    case qxz=>kernel_rfl
    refine hK.out _ _ Xa.o (λhzz=>?_);clear hK Kk hzz c3;refine xO (rs:=[14]) (by kernel_rfl) (by simp) ?_;apply u'
    case ho=>exact rfl
    case hs=>exact xB
    intro Kk hK;with_reducible refine dR ?qg (λx=>.slice (some ⟨x,0,none⟩) 1 1) (wm.alloc (.cells (bO Aa m0 I J Q m4 Y m6 m7 L Z Ha Ia t1 t2 Ja false (some ⟨g,0,none⟩) mq mq).toArray 70)) ?qrun ?_
    case qg=>exact rfl
    case qrun=>kernel_rfl
    intro gb wn Gb Va;have La:=gW wm (.cells (bO Aa m0 I J Q m4 Y m6 m7 L Z Ha Ia t1 t2 Ja false (some ⟨g,0,none⟩) mq mq).toArray 70);rw[Va]at La;have Bc:=Hd (Yc.o.below La);have Ob:=Fc.b La;have Cc:=Hd (Xc.o.grown (bB La none) (λ_ _=>by simp));have Ya:=Hd (Xa.o.trans (La.mono (tr Pa Xa.o.size)));have LJ:H7 (aw wn gb (bO Aa m0 I J Q m4 Y m6 m7 L Z Ha Ia t1 t2 Ja false (some ⟨g,0,none⟩) mq mq)):=(by show aw wn gb _;rw[<-Va,<-Gb];exact aQ _ _ _);refine hK.out _ _ Ya.o (λhzz=>?_);clear hK Kk hzz La Va Gb
   case' hs=>
    apply u'
    case ho=>exact rfl
    case hs=>exact xB
    intro Kk hK;with_reducible refine dR ?qg (λx=>.slice (some ⟨x,0,none⟩) 1 1) (wm.alloc (.cells (bO Aa m0 I J Q m4 Y m6 m7 L Z Ha Ia t1 t2 Ja false (some ⟨g,0,none⟩) mq mq).toArray 70)) ?qrun ?_
    case qg=>exact rfl
    case qrun=>kernel_rfl
    intro gb wn Gb Va;have La:=gW wm (.cells (bO Aa m0 I J Q m4 Y m6 m7 L Z Ha Ia t1 t2 Ja false (some ⟨g,0,none⟩) mq mq).toArray 70);rw[Va]at La;have Bc:=Hd (Yc.o.below La);have Ob:=Fc.b La;have Cc:=Hd (Xc.o.grown (bB La none) (λ_ _=>by simp));have Ya:=Hd (Xa.o.trans (La.mono (tr Pa Xa.o.size)));have LJ:H7 (aw wn gb (bO Aa m0 I J Q m4 Y m6 m7 L Z Ha Ia t1 t2 Ja false (some ⟨g,0,none⟩) mq mq)):=(by show aw wn gb _;rw[<-Va,<-Gb];exact aQ _ _ _);refine hK.out _ _ Ya.o (λhzz=>?_);clear hK Kk hzz La Va Gb;refine xO (rs:=[1]) (by kernel_rfl) (by simp) ?_;apply u'
    case ho=>exact rfl
    case hs=>exact xB
    intro Kk hK;have c3:=Ob.c 3;with_reducible refine dq ?qg 25 (.tmp 34) ?qo ⟨bo,3,none⟩ ?qxz (.slice jj Ba Ka) (jV c3) ?_
    case qg | qo=>exact rfl
    case qxz=>kernel_rfl
    refine hK.out _ _ Ya.o (λhzz=>?_);clear hK Kk hzz c3
   all_goals
    have Qa:H7 _:=Bc;have Ta:H7 _:=Ob;have Gc:H7 _:=Cc;have Oa:H7 _:=Ya;clear Bc Ob Cc Ya;refine xO (rs:=[15]) (by kernel_rfl) (by simp) ?_;apply u'
    case ho=>exact rfl
    case hs=>exact xB
    intro Kk hK;have Fe:qs.length=js.length:=(by rw[<-Wb,List.length_map]);have Ge:Ba<=6:=(by rw[<-Qa.o.jl];omega);have Hc:(bO Aa m0 I J Q m4 Y m6 m7 L Z Ha Ia t1 t2 Ja false (some ⟨g,0,none⟩) mq mq)=jy (⟨Aa,⟨⟨m0,I,J,Q,m4,Y⟩,⟨m6,m7,L,Z,Ha,Ia⟩⟩,(t1,t2),Ja,false,List.replicate mq M.t0⟩,some ⟨g,0,none⟩,mq):=(by dsimp only[jy,fk];rw[xM]);have Ic:bw wn bc (some ⟨g,0,none⟩) (List.replicate mq M.t0).length mq (List.replicate mq M.t0):=(by rw[xM];exact Gc.o);have Jc:aw wn gb (jy (⟨Aa,⟨⟨m0,I,J,Q,m4,Y⟩,⟨m6,m7,L,Z,Ha,Ia⟩⟩,(t1,t2),Ja,false,List.replicate mq M.t0⟩,some ⟨g,0,none⟩,mq)):=(by rw[<-Hc];exact LJ.o);have Kc:∀x∈ob (some (⟨g,0,none⟩:Addr)),x∉b7 bb jj qs:=λx hx e=>by simp[ob]at hx;have:=Nb.o.1 x e;omega
    have Lc:Ba<=1000:=(by omega);have Nc:=tr Pa Oa.o.size;with_reducible refine ns ?qg (.tmp 35) (.tmp 48) ?qo ?qsl gb ?qnw Qa.o (⟨Aa,⟨⟨m0,I,J,Q,m4,Y⟩,⟨m6,m7,L,Z,Ha,Ia⟩⟩,(t1,t2),Ja,false,List.replicate mq M.t0⟩,some ⟨g,0,none⟩,mq) Jc Ic Kc Lc Nc ?_
    case qg | qo=>exact rfl
    case qsl | qnw=>kernel_rfl
    intro Fa Ga w8 hP Oc Pb;have Pc:=Hd hP;have Qc:H7 (bo∉b7 bb Fa (qs++[(⟨Aa,⟨⟨m0,I,J,Q,m4,Y⟩,⟨m6,m7,L,Z,Ha,Ia⟩⟩,(t1,t2),Ja,false,List.replicate mq M.t0⟩,some ⟨g,0,none⟩,mq)])):=Oc bo Ta.o.2.2 (λe=>by have:=Wc.o _ e;omega) (λe=>by simp[ob]at e;have:=Nb.o.2;omega);have Cb:=Hd (Ta.o.grown Pb (λe=>by have:=Wc.o bo (by simp[b7,bA e]);omega));have Db:=Hd (Oa.o.trans (ap Pb (tr Pa Oa.o.size) (λz e=>(Qa.o.lt z (by simp[b7,bA e])).1)));refine hK.out _ _ Db.o (λ_=>?_);clear hK Kk Pb hP Oc Hc Ic Jc Kc Lc Nc Qa Ta Oa Gc LJ Nb;refine tE 16 (.pointer (some ⟨bo,3,none⟩)) ?_;refine xO (rs:=[17]) (by kernel_rfl) (by simp) ?_;apply u'
    case ho=>exact rfl
    case hs=>exact xB
    intro Kk hK;have c3:=Cb.c 3;have f3:=Cb.o.fr 3;go_simp;have Qb:w8.grownBy (w8.setCell ⟨bo,3,none⟩ (.slice Fa (Ba+1) Ga)) (some bo):=aV _ _ _;have Rb:H7 (aw (w8.setCell ⟨bo,3,none⟩ (.slice Fa (Ba+1) Ga)) bo (aJ Ca Aa bb Da Ea Fa (Ba+1) Ga)):=Cb.o.set 3 (by simp) _;have Fd:=Hd (Pc.o.grown Qb (λg hg e=>Qc.o (m2 e ▸ hg)));have Eb:=Hd (Db.o.trans (ap Qb (tr Pa Db.o.size) (λz e=>by have:=m2 e;omega)));refine hK.out _ _ Eb.o (λ_=>?_);clear hK Kk Qb c3 f3 Cb Pc Db;refine bi ?_;go_simp;generalize(w8.setCell ⟨bo,3,none⟩ (.slice Fa (Ba+1) Ga))=w9 at *;have Rc:=Ib.o.below Eb.o (by omega);have Cd:=Rc.c 1;have o1:=Rb.c 1;have He:=Rb.o.fr 1;have Ie:IntKind.i64.wrap (Aa+1)=Aa+1:=(by rw[xK];omega);clear Rc;have Sb:w9.grownBy (w9.setCell ⟨bo,1,none⟩ (it (Aa+1))) (some bo):=aV _ _ _;have Fb:H7 (aw (w9.setCell ⟨bo,1,none⟩ (it (Aa+1))) bo (aJ Ca (Aa+1) bb Da Ea Fa (Ba+1) Ga)):=Rb.o.set 1 (by simp) _;have Sc:=Hd (Fd.o.grown Sb (λg hg e=>Qc.o (m2 e ▸ hg)));have Tb:=Hd (Eb.o.trans (ap Sb (tr Pa Eb.o.size) (λz e=>by have:=m2 e;omega)));clear Sb;have Na:H7 (aw (w9.setCell ⟨bo,1,none⟩ (it (Aa+1))) (w.heap.size+1+1) cm):=Ua.o.below Tb.o Hb.o;have Tc:=Ib.o.below Tb.o (by omega);have m_1':=Tc.c 1;clear Tc;have o0':=Fb.c 0;have o1':=Fb.c 1;have o2':=Fb.c 2;have o3':=Fb.c 3;have r0:=Na.c 0;have Ld:=Na.o.fr 0;have r1:=Na.c 1;have Nd:=Na.o.fr 1;have r2:=Na.c 2;have Od:=Na.o.fr 2;have r3:=Na.c 3;have Pd:=Na.o.fr 3;have hr:r=(⟨Ca,Aa+1,bs,js++[⟨Aa,⟨⟨m0,I,J,Q,m4,Y⟩,⟨m6,m7,L,Z,Ha,Ia⟩⟩,(t1,t2),Ja,false,List.replicate mq M.t0⟩]⟩,0,Aa):=(by rw[Bd.o];unfold M.submit;dsimp only;rw[if_neg (by simp only[Bool.or_eq_true,decide_eq_true_eq];rw[Ad];exact λe=>e.elim h6 h9),xX]);subst hr;(go_wp2_with fail);apply fR
    case f=>
     intro key
     go_region_law (fail)
     all_goals exact key.out
    case h=>
     (go_wp2_with fail);show bodyPost _ _ _ _ _ ((w9.setCell ⟨bo,1,none⟩ (it (Aa+1))).setCells (w.heap.size+1+1) 0 (aJ Ca (Aa+1) bb Da Ea Fa (Ba+1) Ga)).drew;have Uc:aw ((w9.setCell ⟨bo,1,none⟩ (it (Aa+1))).setCells (w.heap.size+1+1) 0 (aJ Ca (Aa+1) bb Da Ea Fa (Ba+1) Ga)) (w.heap.size+1+1) (aJ Ca (Aa+1) bb Da Ea Fa (Ba+1) Ga):=Na.o.setCells (aJ Ca (Aa+1) bb Da Ea Fa (Ba+1) Ga) 0 (by simp);have Ra:=dS (w9.setCell ⟨bo,1,none⟩ (it (Aa+1))) (w.heap.size+1+1) 0 (aJ Ca (Aa+1) bb Da Ea Fa (Ba+1) Ga);have Ub:=Yb.o.trans (Tb.o.mono (by omega));have Vb:=Ub.trans (ap Ra Ub.size (λz e=>by have:=m2 e;omega));have Vc:aW ((w9.setCell ⟨bo,1,none⟩ (it (Aa+1))).setCells (w.heap.size+1+1) 0 (aJ Ca (Aa+1) bb Da Ea Fa (Ba+1) Ga)) w.heap.size bb Da Ea bs Fa (Ba+1) Ga (qs++[(⟨Aa,⟨⟨m0,I,J,Q,m4,Y⟩,⟨m6,m7,L,Z,Ha,Ia⟩⟩,(t1,t2),Ja,false,List.replicate mq M.t0⟩,some ⟨g,0,none⟩,mq)]):=(Sc.o.grown Ra (λg hg e=>by have:=(Sc.o.lt g hg).1;have:=m2 e;omega)).mono (by omega);have Sa:Below ((w9.setCell ⟨bo,1,none⟩ (it (Aa+1))).setCells (w.heap.size+1+1) 0 (aJ Ca (Aa+1) bb Da Ea Fa (Ba+1) Ga)).heap.size ((w9.setCell ⟨bo,1,none⟩ (it (Aa+1))).setCells (w.heap.size+1+1) 0 (aJ Ca (Aa+1) bb Da Ea Fa (Ba+1) Ga)) ((w9.setCell ⟨bo,1,none⟩ (it (Aa+1))).setCells (w.heap.size+1+1) 0 (aJ Ca (Aa+1) bb Da Ea Fa (Ba+1) Ga)).drew:=(m8 _ _).drew;have Jb:=Uc.belowS Sa;have Ab:=Vc.below Sa;have Za:=Vb.trans (Sa.mono Vb.size);have Kb:bp w w.heap.size (⟨Ca,Aa+1,bs,js++[⟨Aa,⟨⟨m0,I,J,Q,m4,Y⟩,⟨m6,m7,L,Z,Ha,Ia⟩⟩,(t1,t2),Ja,false,List.replicate mq M.t0⟩]⟩,0,Aa) (.returned (.tuple #[.agg (aJ Ca (Aa+1) bb Da Ea Fa (Ba+1) Ga).toArray,it 0,it Aa])) ((w9.setCell ⟨bo,1,none⟩ (it (Aa+1))).setCells (w.heap.size+1+1) 0 (aJ Ca (Aa+1) bb Da Ea Fa (Ba+1) Ga)).drew:=⟨_,rfl,_,_,_,_,_,_,_,rfl,Ab,by rw[xU,Wb];rfl,Za⟩;clear Uc Ra Ub Vb Vc Sa Ab Za;generalize((w9.setCell ⟨bo,1,none⟩ (it (Aa+1))).setCells (w.heap.size+1+1) 0 (aJ Ca (Aa+1) bb Da Ea Fa (Ba+1) Ga)).drew=wz at *;exact s' (aK rfl rfl (xH wz (w.heap.size+1+1) 0 27 _ _ Jb.row underlying27 rfl (by kernel_rfl))) rfl Kb
end Go.Proofs.YtbjalickbnpnkaaGreatDoor
