import Derived.Test.YtbjalickbnpnkaaGreatDoorPk33
import Derived.Test.YtbjalickbnpnkaaGreatDoorPk23
import Derived.Test.YtbjalickbnpnkaaGreatDoorPk32
import Derived.Test.YtbjalickbnpnkaaGreatDoorPk26
namespace Go.Proofs.YtbjalickbnpnkaaGreatDoor
open Go.RowKit Go.Proofs.Tryz
set_option linter.unusedSimpArgs false
set_option maxHeartbeats 32000000
variable {now sr:Int}{ab a1 a2 a3 a4 aj:Option Addr}{nb cb n1 n2 n3 n4 c1 c2 c3 c4 nj cj:Nat}{bs z1 z2 z3 z4:List Int}{aL aN aG aE aR:Addr}{js:List M.Jb}
def vh(m:M.Mt)(who:Int)(i pn:Nat)(og od:Bool):M.Mt×Int×Int:=
 if og=false then(⟨m.now,m.next,M.banned m.bs who,M.setT m.js i pn M.t0⟩,7,0)else(⟨m.now,m.next,m.bs,M.setT m.js i pn ⟨true,0,0⟩⟩,0,if od then 1 else 0)
set_option maxRecDepth 10000 in
theorem oD{dA h:Nat}{ai:Option Addr}{ni ci:Nat}{mb:Nat}{qs:List HJ}(who id:Int)(pn:Nat)(p1 p2 p3 p4:Int)(w:World)(H:bq w dA h now sr ab nb cb bs ai ni ci mb qs)(HRt:M.Right now sr bs (qs.map (λq:HJ=>q.j)))(hw:M.wkOk who=true)(hp:pn<=7)(mr:dA<=w.heap.size)(he:EnvX w aL aN aG aE aR)(h1:aC w a1 n1 c1 z1)(h2:aC w a2 n2 c2 z2)(h3:aC w a3 n3 c3 z3)(h4:aC w a4 n4 c4 z4):
  Calls prog 51 #[tG h,.agg (dt who id (pn:Nat) p1 p2 p3 p4 a1 n1 c1 a2 n2 c2 a3 n3 c3 a4 n4 c4).toArray] w (gO w dA h (M.back (cv (pn:Nat) (⟨(p1,p2),(p3,p4),z1,z2,z3,z4⟩:M.Pf)) ⟨now,sr,bs,qs.map (λq:HJ=>q.j)⟩ who id (pn:Nat))):=by
 have Ga:H7 (m1 w (w.alloc (.cells (dt who id (pn:Nat) p1 p2 p3 p4 a1 n1 c1 a2 n2 c2 a3 n3 c3 a4 n4 c4).toArray 112))):=(m8 _ _).alloc (m3 _) _;have Na:=cQ w (dt who id (pn:Nat) p1 p2 p3 p4 a1 n1 c1 a2 n2 c2 a3 n3 c3 a4 n4 c4) 112;have Ea:=Hd (H.below Ga.o);have Ta:=Hd (he.below Ga.o);have S1:=Hd (h1.below Ga.o);have S2:=Hd (h2.below Ga.o);have S3:=Hd (h3.below Ga.o);have S4:=Hd (h4.below Ga.o);have Oa:=Hd (Ga.o.mono mr);have Ua:=tr mr Ga.o.size;have t0:=Na.c 0;have t1:=Na.c 1;have x4:=Ea.o.l.c 4;have CB:=iJ who (w.alloc (.cells (dt who id (pn:Nat) p1 p2 p3 p4 a1 n1 c1 a2 n2 c2 a3 n3 c3 a4 n4 c4).toArray 112)) Ea.o;unfold M.back;dsimp only;have Zb:H7 (∀q∈qs,w.heap.size∉ob q.a):=λq hq e=>by have:=H.lt w.heap.size (by unfold dD;simp only[List.mem_cons,xw];exact .inr (.inr (.inr (.inr (xI.2 ⟨q,hq,by unfold HJ.bl;exact List.mem_cons_of_mem _ e⟩)))));omega
 cases hbn:bs.contains who with
 | true=>
  rw[hbn]at CB;rw[if_pos rfl];go_enter func51,ntmps51;(go_wp2_with fail);generalize(w.alloc (.cells (dt who id (pn:Nat) p1 p2 p3 p4 a1 n1 c1 a2 n2 c2 a3 n3 c3 a4 n4 c4).toArray 112))=wa at *;refine CB.mono ?_;rintro e wz ⟨rfl,Da⟩;have Ka:=Da.symm;subst Ka;go_wp2;exact s' (v:=.tuple #[it 5,it 0]) (by simp[results,results51,go_sem]) rfl ⟨rfl,⟨_,_,_,_,_,_,_,_,Ea.o,rfl⟩,Oa.o⟩
 | false=>
  rw[hbn]at CB;rw[if_neg (by simp)]
  rcases i8 id qs 0 with⟨i,hi,hlk,hat⟩ | ⟨hlk,hat⟩
  case inr=>
   rw[hat,if_pos (by simp)];have Rb:(zeroValue 118).run prog (w.alloc (.cells (dt who id (pn:Nat) p1 p2 p3 p4 a1 n1 c1 a2 n2 c2 a3 n3 c3 a4 n4 c4).toArray 112)).drew=.ok (.pointer none) (w.alloc (.cells (dt who id (pn:Nat) p1 p2 p3 p4 a1 n1 c1 a2 n2 c2 a3 n3 c3 a4 n4 c4).toArray 112)).drew:=(by kernel_rfl);have Pa:=(show bY (w.alloc (.cells (dt who id (pn:Nat) p1 p2 p3 p4 a1 n1 c1 a2 n2 c2 a3 n3 c3 a4 n4 c4).toArray 112)).drew mb (qs.map HJ.ent)from Ea.o.m).miss (P:=prog) (t:=103) underlying103 underlying2 id Rb hlk true;simp only[if_true]at Pa;go_enter func51,ntmps51;(go_wp2_with fail);generalize(w.alloc (.cells (dt who id (pn:Nat) p1 p2 p3 p4 a1 n1 c1 a2 n2 c2 a3 n3 c3 a4 n4 c4).toArray 112))=wa at *;refine CB.mono ?_;rintro e wz ⟨rfl,Da⟩;have Ka:=Da.symm;subst Ka;(go_wp2_with fail);apply fR
   case f=>
    intro key
    go_region_law (fail)
    all_goals exact key.out
   case h=>
    have Sb:=Hd (Ea.o.below (m8 _ _).drew);have Tb:=Hd Oa.o.drew;generalize wa.drew=wb at *;(go_wp2_with fail);refine cP wb none (by kernel_rfl) λhHeld=>?_;have Ac:=Hd (Sb.o.below (m8 _ _).drew);have Bc:=Hd Tb.o.drew;generalize wb.drew=Ha at *;refine tE 0 (.bool false) ?_;refine tE 1 (.bool true) ?_;refine tE 2 (.bool true) ?_;refine sk 3 ?_;refine sk 4 ?_;refine sk 5 ?_;refine sk 6 ?_;refine sk 7 ?_;refine sk 8 ?_;refine sk 9 ?_;refine sk 10 ?_;refine tE 11 (.bool true) ?_;refine bi ?_;go_simp;go_wp2;exact s' (v:=.tuple #[it 4,it 0]) (by simp[results,results51,go_sem]) rfl ⟨rfl,⟨_,_,_,_,_,_,_,_,Ac.o,rfl⟩,Bc.o⟩
  case inl=>
   rw[Nat.zero_add]at hat;obtain⟨q,hq⟩:∃q,qs.getD i du=q:=⟨_,rfl⟩;have Eb:=pZ hi hat;rw[hq]at hlk Eb;have HA:H7 (bC (w.alloc (.cells (dt who id (pn:Nat) p1 p2 p3 p4 a1 n1 c1 a2 n2 c2 a3 n3 c3 a4 n4 c4).toArray 112)).drew dA h now sr ab nb cb bs ai ni ci mb qs i q):=⟨Ea.o.below (m8 _ _).drew,hi,hq⟩;have Pa:=(show bY (w.alloc (.cells (dt who id (pn:Nat) p1 p2 p3 p4 a1 n1 c1 a2 n2 c2 a3 n3 c3 a4 n4 c4).toArray 112)).drew mb (qs.map HJ.ent)from Ea.o.m).get (P:=prog) (t:=103) underlying103 underlying2 id _ hlk true;simp only[if_true]at Pa;rw[Eb,hat,xX,xX];have Cc:=Hd (Zb.o q (by rw[<-hq];exact dz hi));by_cases Fb:(q.j.ts.length:Int)<=((pn:Nat):Int)
   case pos=>
    rw[if_pos (by simp[Fb])];have gl:decide ((q.j.ts.length:Int)<=((pn:Nat):Int))=true:=(by simp[Fb]);have Pc:q.j.ts.length<=pn:=(by omega);obtain⟨TB,Ba⟩:∃TB:World->Prop,H7 (∀W,TB W↔(bC W dA h now sr ab nb cb bs ai ni ci mb qs i q/\aw W w.heap.size (dt who id (pn:Nat) p1 p2 p3 p4 a1 n1 c1 a2 n2 c2 a3 n3 c3 a4 n4 c4)/\EnvX W aL aN aG aE aR/\aC W a1 n1 c1 z1/\aC W a2 n2 c2 z2/\aC W a3 n3 c3 z3/\aC W a4 n4 c4 z4/\dA<=W.heap.size/\Below dA w W)):=⟨_,λ_=>Iff.rfl⟩
    have Ia:H7 (∀W W',TB W->m1 W W'->TB W'):=λW W' hK hb=>by
     obtain⟨f0,f1,f2,f3,f4,f5,f6,f7,f8⟩:=(Ba.o W).1 hK;exact(Ba.o W').2 ⟨f0.below hb,f1.belowS hb,f2.below hb,f3.below hb,f4.below hb,f5.below hb,f6.below hb,tr f7 hb.size,f8.trans (hb.mono f7)⟩
    have K0:=Hd ((Ba.o _).2 ⟨⟨Ea.o.below (m8 _ _).drew,hi,hq⟩,Na.o.belowS (m8 _ _).drew,Ta.o.below (m8 _ _).drew,S1.o.below (m8 _ _).drew,S2.o.below (m8 _ _).drew,S3.o.below (m8 _ _).drew,S4.o.below (m8 _ _).drew,Ua,Oa.o.drew⟩);go_enter func51,ntmps51;(go_wp2_with fail);generalize(w.alloc (.cells (dt who id (pn:Nat) p1 p2 p3 p4 a1 n1 c1 a2 n2 c2 a3 n3 c3 a4 n4 c4).toArray 112))=wa at *;refine CB.mono ?_;rintro e wz ⟨rfl,Da⟩;have Ka:=Da.symm;subst Ka;(go_wp2_with fail);apply fR
    case f=>
     intro key
     go_region_law (fail)
     all_goals exact key.out
    case h=>
     generalize wa.drew=wb at *;(go_wp2_with fail);refine cP wb none (by kernel_rfl) λhHeld=>?_;have K1:=Hd (Ia.o _ _ K0.o (m8 _ _).drew);generalize wb.drew=Ha at *;refine tE 0 (.bool true) ?_;refine tE 1 (.bool false) ?_;refine tE 2 (.bool false) ?_;refine tE 3 (.pointer (some ⟨w.heap.size,2,none⟩)) ?_;refine tk 4 (it (pn:Nat)) ?_ ?_
     .intro wq Aa;have c0:=(((Ba.o _).1 K0.o).2.1.grown Aa (by simp)).c 2;go_simp
     refine tE 5 (tG q.b) ?_;refine tE 6 (tG q.b) ?_;refine tE 7 (.pointer (some ⟨q.b,17,none⟩)) ?_;refine tk 8 (.slice q.a q.j.ts.length q.c) ?_ ?_
     .intro wq Aa;have c0:=(((Ba.o _).1 K0.o).1.lies.grown Aa (by simp)).c 17;go_simp
     refine tE 9 (it (q.j.ts.length:Nat)) ?_;refine tE 10 (.bool true) ?_;refine tE 11 (.bool true) ?_;refine bi ?_;go_simp;go_wp2;exact s' (v:=.tuple #[it 4,it 0]) (by simp[results,results51,go_sem]) rfl ⟨rfl,⟨_,_,_,_,_,_,_,_,((Ba.o _).1 K1.o).1.1,rfl⟩,((Ba.o _).1 K1.o).2.2.2.2.2.2.2.2⟩
   case neg=>
    rw[if_neg (by simp;omega)];have gl:decide ((q.j.ts.length:Int)<=((pn:Nat):Int))=false:=(by simp;omega);by_cases Wa:(q.j.ts.getD pn M.t0).dC=who
    case neg=>
     rw[if_pos Wa];have Dc:((pn:Nat):Int)<(q.j.ts.length:Int):=(by omega);have Ec:(0:Int)<=((pn:Nat):Int):=(by omega);have Fc:IntKind.i64.wrap ((pn:Nat):Int)=(pn:Nat):=(by rw[xK];omega);have Qa:=HA.o.owns;obtain⟨g,Ra⟩:=Qa.block (by omega);have Fa:=Hd Ra;have Gc:(q.j.ts.length:Int)<=q.c:=(by have:=Qa.sees.le;omega);obtain⟨wk,Sa⟩:∃wk,(q.j.ts.getD pn M.t0).dC=wk:=⟨_,rfl⟩;have Gb:H7 (∀W,bC W dA h now sr ab nb cb bs ai ni ci mb qs i q->W.cell? ⟨g,pn*3+1,none⟩=some (it wk)):=λW hW=>by have h9:=hW.owns;rw[Ra]at h9;have h8:=h9.cells (k:=pn) (by omega) (j:=1) (by omega);rw[h8,<-Sa];rfl
     rw[Sa]at Wa;obtain⟨TB,Ba⟩:∃TB:World->Prop,H7 (∀W,TB W↔(bC W dA h now sr ab nb cb bs ai ni ci mb qs i q/\aw W w.heap.size (dt who id (pn:Nat) p1 p2 p3 p4 a1 n1 c1 a2 n2 c2 a3 n3 c3 a4 n4 c4)/\EnvX W aL aN aG aE aR/\aC W a1 n1 c1 z1/\aC W a2 n2 c2 z2/\aC W a3 n3 c3 z3/\aC W a4 n4 c4 z4/\dA<=W.heap.size/\Below dA w W)):=⟨_,λ_=>Iff.rfl⟩
     have Ia:H7 (∀W W',TB W->m1 W W'->TB W'):=λW W' hK hb=>by
      obtain⟨f0,f1,f2,f3,f4,f5,f6,f7,f8⟩:=(Ba.o W).1 hK;exact(Ba.o W').2 ⟨f0.below hb,f1.belowS hb,f2.below hb,f3.below hb,f4.below hb,f5.below hb,f6.below hb,tr f7 hb.size,f8.trans (hb.mono f7)⟩
     have K0:=Hd ((Ba.o _).2 ⟨⟨Ea.o.below (m8 _ _).drew,hi,hq⟩,Na.o.belowS (m8 _ _).drew,Ta.o.below (m8 _ _).drew,S1.o.below (m8 _ _).drew,S2.o.below (m8 _ _).drew,S3.o.below (m8 _ _).drew,S4.o.below (m8 _ _).drew,Ua,Oa.o.drew⟩);go_enter func51,ntmps51;(go_wp2_with fail);generalize(w.alloc (.cells (dt who id (pn:Nat) p1 p2 p3 p4 a1 n1 c1 a2 n2 c2 a3 n3 c3 a4 n4 c4).toArray 112))=wa at *;refine CB.mono ?_;rintro e wz ⟨rfl,Da⟩;have Ka:=Da.symm;subst Ka;(go_wp2_with fail);apply fR
     case f=>
      intro key
      go_region_law (fail)
      all_goals exact key.out
     case h=>
      generalize wa.drew=wb at *;(go_wp2_with fail);refine cP wb none (by kernel_rfl) λhHeld=>?_;have K1:=Hd (Ia.o _ _ K0.o (m8 _ _).drew);generalize wb.drew=Ha at *;refine tE 0 (.bool true) ?_;refine tE 1 (.bool false) ?_;refine tE 2 (.bool false) ?_;refine tE 3 (.pointer (some ⟨w.heap.size,2,none⟩)) ?_;refine tk 4 (it (pn:Nat)) ?_ ?_
      .intro wq Aa;have c0:=(((Ba.o _).1 K0.o).2.1.grown Aa (by simp)).c 2;go_simp
      refine tE 5 (tG q.b) ?_;refine tE 6 (tG q.b) ?_;refine tE 7 (.pointer (some ⟨q.b,17,none⟩)) ?_;refine tk 8 (.slice q.a q.j.ts.length q.c) ?_ ?_
      .intro wq Aa;have c0:=(((Ba.o _).1 K0.o).1.lies.grown Aa (by simp)).c 17;go_simp
      refine tE 9 (it (q.j.ts.length:Nat)) ?_;refine tk 10 (.bool false) ?_ ?_
      .intro wq Aa;go_simp;omega
      refine tE 11 (.bool false) ?_;refine bi ?_;go_simp;(go_wp2_with fail);refine cP Ha none (by kernel_rfl) λhHeld=>?_;have K2:=Hd (Ia.o _ _ K1.o (m8 _ _).drew);generalize Ha.drew=Va at *;refine tE 0 (tG q.b) ?_;refine tE 1 (tG q.b) ?_;refine tE 2 (.pointer (some ⟨q.b,17,none⟩)) ?_;refine tk 3 (.slice (some ⟨g,0,none⟩) q.j.ts.length q.c) ?_ ?_
      .intro wq Aa;have c0:=(((Ba.o _).1 K1.o).1.lies.grown Aa (by simp)).c 17;rw[Fa.o]at c0;go_simp
      refine tE 4 (.pointer (some ⟨w.heap.size,2,none⟩)) ?_;refine tk 5 (it (pn:Nat)) ?_ ?_
      .intro wq Aa;have c0:=(((Ba.o _).1 K1.o).2.1.grown Aa (by simp)).c 2;go_simp
      refine tE 6 (.pointer (some ⟨g,pn*3,none⟩)) ?_;refine tE 7 (.pointer (some ⟨g,pn*3+1,none⟩)) ?_;refine tk 8 (it wk) ?_ ?_
      .intro wq Aa;have c0:=Aa.cell (Gb.o Ha ((Ba.o _).1 K1.o).1) (by simp);go_simp
      refine tE 9 (tG w.heap.size) ?_;refine tk 10 (it who) ?_ ?_
      .intro wq Aa;have c0:=(((Ba.o _).1 K1.o).2.1.grown Aa (by simp)).c 0;go_simp
      refine tE 11 (.bool true) ?_;refine bi ?_;go_simp;go_wp2;exact s' (v:=.tuple #[it 8,it 0]) (by simp[results,results51,go_sem]) rfl ⟨rfl,⟨_,_,_,_,_,_,_,_,((Ba.o _).1 K2.o).1.1,rfl⟩,((Ba.o _).1 K2.o).2.2.2.2.2.2.2.2⟩
    case pos=>
     rw[if_neg (λhne=>hne Wa)];have Ub:q.j∈qs.map (λq:HJ=>q.j):=(by rw[<-hq,<-mQ hi];exact M.getD_mem (by simpa using hi));have Bb:=(HRt.job _ Ub).2.2;unfold M.jbOk at Bb;simp only[xP]at Bb;have Hc:=gk Bb.1.2.2.1;obtain⟨og,Hb⟩:∃og,cv ((pn:Nat):Int) (⟨(p1,p2),(p3,p4),z1,z2,z3,z4⟩:M.Pf) q.j=og:=⟨_,rfl⟩;rw[Hb]
     obtain⟨pv,Vb,Wb⟩:∃pv:Value,H7 (∀W,bC W dA h now sr ab nb cb bs ai ni ci mb qs i q->Rt 99 #[tG q.b,it (pn:Nat)] W pv)/\H7 (∀W,EnvX W aL aN aG aE aR->aC W a1 n1 c1 z1->aC W a2 n2 c2 z2->aC W a3 n3 c3 z3->aC W a4 n4 c4 z4->Rt 100 #[pv,.agg (cX p1 p2 p3 p4 a1 n1 c1 a2 n2 c2 a3 n3 c3 a4 n4 c4).toArray] W (.bool og)):=by
      refine⟨.agg (fj q.j.m.X.xx q.j.m.X.xy q.j.m.X.yy q.j.m.X.x q.j.m.X.y q.j.m.X.k q.j.m.Y.xx q.j.m.Y.xy q.j.m.Y.yy q.j.m.Y.x q.j.m.Y.y q.j.m.Y.k ((eH q.j.m q.j.s ((pn:Nat)*(q.j.rows-1))).1) ((eH q.j.m q.j.s ((pn:Nat)*(q.j.rows-1))).2) q.j.rows).toArray,λW hW=>qz q.j.id q.j.m.X.xx q.j.m.X.xy q.j.m.X.yy q.j.m.X.x q.j.m.X.y q.j.m.X.k q.j.m.Y.xx q.j.m.Y.xy q.j.m.Y.yy q.j.m.Y.x q.j.m.Y.y q.j.m.Y.k q.j.s.1 q.j.s.2 q.j.rows q.j.gone ((pn:Nat):Int) W hW.lies (by omega) (by omega) (by omega) (by omega),λW hE g1 g2 g3 g4=>?_⟩;rw[<-Hb];exact k7 q.j.m.X.xx q.j.m.X.xy q.j.m.X.yy q.j.m.X.x q.j.m.X.y q.j.m.X.k q.j.m.Y.xx q.j.m.Y.xy q.j.m.Y.yy q.j.m.Y.x q.j.m.Y.y q.j.m.Y.k _ _ q.j.rows p1 p2 p3 p4 W hE g1 g2 g3 g4
     have Xa:H7 ((qs.map (λq:HJ=>q.j)).getD i M.j0=q.j):=(by show _=_;rw[<-hq];exact mQ hi);have Ic:H7 ((qs.map (λq:HJ=>q.j)).map (M.freeJ (M.mineT who))=M.setT (qs.map (λq:HJ=>q.j)) i pn M.t0):=M.free_js (by unfold M.wkOk at hw;simp at hw;omega) HRt.nd (by simpa using hi) (by rw[Xa.o];omega) (by rw[Xa.o];exact Wa);obtain⟨od,Ib⟩:∃od,(q.j.ts.set pn ⟨true,0,0⟩).all (·.done)=od:=⟨_,rfl⟩;rw[Ic.o,Ib]
     change Calls _ _ _ _ (gO w dA h (vh ⟨now,sr,bs,qs.map (λq:HJ=>q.j)⟩ who i pn og od))
     have Jc:=Hd Ib;have Jb:H7 (M.bnGo 0 bs=true/\M.wkOk who=true/\bs.contains who=false):=⟨HRt.bn,hw,hbn⟩;have Dc:((pn:Nat):Int)<(q.j.ts.length:Int):=(by omega);have Ec:(0:Int)<=((pn:Nat):Int):=(by omega);have Fc:IntKind.i64.wrap ((pn:Nat):Int)=(pn:Nat):=(by rw[xK];omega);have Qa:=HA.o.owns;obtain⟨g,Ra⟩:=Qa.block (by omega);have Fa:=Hd Ra;have Gc:(q.j.ts.length:Int)<=q.c:=(by have:=Qa.sees.le;omega);obtain⟨wk,Sa⟩:∃wk,(q.j.ts.getD pn M.t0).dC=wk:=⟨_,rfl⟩;have Gb:H7 (∀W,bC W dA h now sr ab nb cb bs ai ni ci mb qs i q->W.cell? ⟨g,pn*3+1,none⟩=some (it wk)):=λW hW=>by have h9:=hW.owns;rw[Ra]at h9;have h8:=h9.cells (k:=pn) (by omega) (j:=1) (by omega);rw[h8,<-Sa];rfl
     rw[Sa]at Wa;have Kc:H7 (∀W,bC W dA h now sr ab nb cb bs ai ni ci mb qs i q->w.heap.size∉ob q.a):=λW _ e=>Cc.o e;obtain⟨TB,Ba⟩:∃TB:World->Prop,H7 (∀W,TB W↔(bC W dA h now sr ab nb cb bs ai ni ci mb qs i q/\aw W w.heap.size (dt who id (pn:Nat) p1 p2 p3 p4 a1 n1 c1 a2 n2 c2 a3 n3 c3 a4 n4 c4)/\EnvX W aL aN aG aE aR/\aC W a1 n1 c1 z1/\aC W a2 n2 c2 z2/\aC W a3 n3 c3 z3/\aC W a4 n4 c4 z4/\dA<=W.heap.size/\Below dA w W)):=⟨_,λ_=>Iff.rfl⟩
     have Ia:H7 (∀W W',TB W->m1 W W'->TB W'):=λW W' hK hb=>by
      obtain⟨f0,f1,f2,f3,f4,f5,f6,f7,f8⟩:=(Ba.o W).1 hK;exact(Ba.o W').2 ⟨f0.below hb,f1.belowS hb,f2.below hb,f3.below hb,f4.below hb,f5.below hb,f6.below hb,tr f7 hb.size,f8.trans (hb.mono f7)⟩
     have K0:=Hd ((Ba.o _).2 ⟨⟨Ea.o.below (m8 _ _).drew,hi,hq⟩,Na.o.belowS (m8 _ _).drew,Ta.o.below (m8 _ _).drew,S1.o.below (m8 _ _).drew,S2.o.below (m8 _ _).drew,S3.o.below (m8 _ _).drew,S4.o.below (m8 _ _).drew,Ua,Oa.o.drew⟩);go_enter func51,ntmps51;(go_wp2_with fail);generalize(w.alloc (.cells (dt who id (pn:Nat) p1 p2 p3 p4 a1 n1 c1 a2 n2 c2 a3 n3 c3 a4 n4 c4).toArray 112))=wa at *;refine CB.mono ?_;rintro e wz ⟨rfl,Da⟩;have Ka:=Da.symm;subst Ka;(go_wp2_with fail);apply fR
     case f=>
      intro key
      go_region_law (fail)
      all_goals exact key.out
     case h=>
      generalize wa.drew=wb at *;(go_wp2_with fail);refine cP wb none (by kernel_rfl) λhHeld=>?_;have K1:=Hd (Ia.o _ _ K0.o (m8 _ _).drew);generalize wb.drew=Ha at *;refine tE 0 (.bool true) ?_;refine tE 1 (.bool false) ?_;refine tE 2 (.bool false) ?_;refine tE 3 (.pointer (some ⟨w.heap.size,2,none⟩)) ?_;refine tk 4 (it (pn:Nat)) ?_ ?_
      .intro wq Aa;have c0:=(((Ba.o _).1 K0.o).2.1.grown Aa (by simp)).c 2;go_simp
      refine tE 5 (tG q.b) ?_;refine tE 6 (tG q.b) ?_;refine tE 7 (.pointer (some ⟨q.b,17,none⟩)) ?_;refine tk 8 (.slice q.a q.j.ts.length q.c) ?_ ?_
      .intro wq Aa;have c0:=(((Ba.o _).1 K0.o).1.lies.grown Aa (by simp)).c 17;go_simp
      refine tE 9 (it (q.j.ts.length:Nat)) ?_;refine tk 10 (.bool false) ?_ ?_
      .intro wq Aa;go_simp;omega
      refine tE 11 (.bool false) ?_;refine bi ?_;go_simp;(go_wp2_with fail);refine cP Ha none (by kernel_rfl) λhHeld=>?_;have K2:=Hd (Ia.o _ _ K1.o (m8 _ _).drew);generalize Ha.drew=Va at *;refine tE 0 (tG q.b) ?_;refine tE 1 (tG q.b) ?_;refine tE 2 (.pointer (some ⟨q.b,17,none⟩)) ?_;refine tk 3 (.slice (some ⟨g,0,none⟩) q.j.ts.length q.c) ?_ ?_
      .intro wq Aa;have c0:=(((Ba.o _).1 K1.o).1.lies.grown Aa (by simp)).c 17;rw[Fa.o]at c0;go_simp
      refine tE 4 (.pointer (some ⟨w.heap.size,2,none⟩)) ?_;refine tk 5 (it (pn:Nat)) ?_ ?_
      .intro wq Aa;have c0:=(((Ba.o _).1 K1.o).2.1.grown Aa (by simp)).c 2;go_simp
      refine tE 6 (.pointer (some ⟨g,pn*3,none⟩)) ?_;refine tE 7 (.pointer (some ⟨g,pn*3+1,none⟩)) ?_;refine tk 8 (it wk) ?_ ?_
      .intro wq Aa;have c0:=Aa.cell (Gb.o Ha ((Ba.o _).1 K1.o).1) (by simp);go_simp
      refine tE 9 (tG w.heap.size) ?_;refine tk 10 (it who) ?_ ?_
      .intro wq Aa;have c0:=(((Ba.o _).1 K1.o).2.1.grown Aa (by simp)).c 0;go_simp
      refine tE 11 (.bool false) ?_;refine bi ?_;go_simp;(go_wp2_with fail);refine cP Va none (by kernel_rfl) λhHeld=>?_;have K3:=Hd (Ia.o _ _ K2.o (m8 _ _).drew);generalize Va.drew=Lc at *;refine tE 0 (tG q.b) ?_;refine tE 1 (.pointer (some ⟨w.heap.size,2,none⟩)) ?_;refine tk 2 (it (pn:Nat)) ?_ ?_
      .intro wq Aa;have c0:=(((Ba.o _).1 K2.o).2.1.grown Aa (by simp)).c 2;go_simp
      refine tE 4 (.pointer (some ⟨w.heap.size,3,none⟩)) ?_;refine wpAnyH_take (i:=5) (v:=.agg ((cX p1 p2 p3 p4 a1 n1 c1 a2 n2 c2 a3 n3 c3 a4 n4 c4):List Value).toArray) rfl (by kernel_rfl) (by kernel_rfl) (by kernel_rfl) (λ_ _ _ h=>h) (xF (by kernel_rfl) 35 (.tmp 50) (by kernel_rfl) w.heap.size 3 (by kernel_rfl) ((cX p1 p2 p3 p4 a1 n1 c1 a2 n2 c2 a3 n3 c3 a4 n4 c4):List Value) _ (λW hW=>aw.mid (((Ba.o _).1 K2.o).2.1.grown hW (by simp)) 3 8) underlying35 rfl (by kernel_rfl)) (by assumption) ?_;refine aT 3 λKk hK=>?_;go_simp;refine(Vb.o Lc ((Ba.o _).1 K3.o).1).mono ?_;rintro e Kb ⟨rfl,hb⟩;go_simp;have Lb:=aH hHeld hb;have K4:=Hd (Ia.o _ _ K3.o hb);refine hK.out _ _ Lb (λhzz=>?_);refine aT 6 λKk hK=>?_;go_simp;refine(Wb.o Kb ((Ba.o _).1 K4.o).2.2.1 ((Ba.o _).1 K4.o).2.2.2.1 ((Ba.o _).1 K4.o).2.2.2.2.1 ((Ba.o _).1 K4.o).2.2.2.2.2.1 ((Ba.o _).1 K4.o).2.2.2.2.2.2.1).mono ?_;rintro e Ca ⟨rfl,hb⟩;go_simp;have Xb:=aH Lb hb;have K5:=Hd (Ia.o _ _ K4.o hb);refine hK.out _ _ Xb (λhzz=>?_);refine tE 7 (.bool (!og)) ?_;refine bi ?_;go_simp
      cases og with
      | false=>
       have hO:=((Ba.o _).1 K5.o).1.owns;rw[Fa.o]at hO;have La:pn<q.j.ts.length:=(by omega);have Ya:=((Ba.o _).1 K5.o).1.lies.c 17;rw[Fa.o]at Ya;have t2:=((Ba.o _).1 K5.o).2.1.c 2;have y0:=hO.cells La (j:=0) (by omega);have Za:=hO.2.frozenAt (pn*3+0);have y1:=hO.cells La (j:=1) (by omega);have Nb:=hO.2.frozenAt (pn*3+1);have y2:=hO.cells La (j:=2) (by omega);have Ob:=hO.2.frozenAt (pn*3+2);rw[Nat.add_zero]at y0 Za;generalize q.j.ts.getD pn M.t0=zz at y0 y1 y2;obtain⟨u1,u2,u3⟩:=zz;simp only[eK,List.getElem?_cons_zero,List.getElem?_cons_succ]at y0 y1 y2;obtain⟨Ab,Ja⟩:=hO.put La M.t0;have Cb:g∈ob q.a:=(by rw[Fa.o];simp[ob]);have HF:H7 (bC (Ca.setCells g (pn*3) (eK M.t0)).drew dA h now sr ab nb cb bs ai ni ci mb (qs.set i ⟨{q.j with ts:=q.j.ts.set pn M.t0},q.b,q.a,q.c⟩) i ⟨{q.j with ts:=q.j.ts.set pn M.t0},q.b,q.a,q.c⟩):=(((Ba.o _).1 K5.o).1.tasks (n:=0) (c:=0) (ts:=q.j.ts.set pn M.t0) (by rw[List.length_set]) (by rw[Fa.o];exact Ja) (by rw[List.length_set,Fa.o];exact Ab)).below (m8 _ _).drew;have Pb:=Hd ((((Ba.o _).1 K5.o).2.2.2.2.2.2.2.2.trans (ap Ja ((Ba.o _).1 K5.o).2.2.2.2.2.2.2.1 (λz e=>by rw[<-m2 e];exact(((Ba.o _).1 K5.o).1.apart.1 g Cb).1))).drew);have Qb:dA<=(Ca.setCells g (pn*3) (eK M.t0)).drew.heap.size:=tr ((Ba.o _).1 K5.o).2.2.2.2.2.2.2.1 Ja.size;have Nc:=Hd ((((Ba.o _).1 K5.o).2.1.grown Ja (λe=>Kc.o Ca ((Ba.o _).1 K5.o).1 (by rw[<-m2 e];exact Cb))).belowS (m8 _ _).drew);(go_wp2_with fail);apply fR
       case f=>
        intro key
        go_region_law (fail)
        all_goals exact key.out
       case h=>
        show Exit.then _ _ _ _ (Ca.setCells g (pn*3) (eK M.t0)).drew;generalize(Ca.setCells g (pn*3) (eK M.t0)).drew=w9 at *;have t0:=Nc.c 0;(go_wp2_with fail);refine(vA who w9 HF.o.1 Jb.o.1 Jb.o.2.1 Jb.o.2.2 Qb).mono ?_;rintro e wx ⟨rfl,Qc,Rc,hH,hB⟩;have Oc:=Hd hH;have Db:=Hd (Pb.o.trans hB);go_wp2;exact s' (v:=.tuple #[it 7,it 0]) (by simp[results,results51,go_sem]) rfl ⟨rfl,⟨_,_,_,_,_,_,_,_,Oc.o,(by show _=M.setT _ _ _ _;rw[List.map_set];unfold M.setT;rw[Xa.o])⟩,Db.o⟩
      | true=>
       have hO:=((Ba.o _).1 K5.o).1.owns;rw[Fa.o]at hO;have La:pn<q.j.ts.length:=(by omega);have Ya:=((Ba.o _).1 K5.o).1.lies.c 17;rw[Fa.o]at Ya;have t2:=((Ba.o _).1 K5.o).2.1.c 2;have y0:=hO.cells La (j:=0) (by omega);have Za:=hO.2.frozenAt (pn*3+0);have y1:=hO.cells La (j:=1) (by omega);have Nb:=hO.2.frozenAt (pn*3+1);have y2:=hO.cells La (j:=2) (by omega);have Ob:=hO.2.frozenAt (pn*3+2);rw[Nat.add_zero]at y0 Za;generalize q.j.ts.getD pn M.t0=zz at y0 y1 y2;obtain⟨u1,u2,u3⟩:=zz;simp only[eK,List.getElem?_cons_zero,List.getElem?_cons_succ]at y0 y1 y2;obtain⟨Ab,Ja⟩:=hO.put La ⟨true,0,0⟩;have Cb:g∈ob q.a:=(by rw[Fa.o];simp[ob]);have HF:H7 (bC (Ca.setCells g (pn*3) (eK ⟨true,0,0⟩)).drew dA h now sr ab nb cb bs ai ni ci mb (qs.set i ⟨{q.j with ts:=q.j.ts.set pn ⟨true,0,0⟩},q.b,q.a,q.c⟩) i ⟨{q.j with ts:=q.j.ts.set pn ⟨true,0,0⟩},q.b,q.a,q.c⟩):=(((Ba.o _).1 K5.o).1.tasks (n:=0) (c:=0) (ts:=q.j.ts.set pn ⟨true,0,0⟩) (by rw[List.length_set]) (by rw[Fa.o];exact Ja) (by rw[List.length_set,Fa.o];exact Ab)).below (m8 _ _).drew;have Pb:=Hd ((((Ba.o _).1 K5.o).2.2.2.2.2.2.2.2.trans (ap Ja ((Ba.o _).1 K5.o).2.2.2.2.2.2.2.1 (λz e=>by rw[<-m2 e];exact(((Ba.o _).1 K5.o).1.apart.1 g Cb).1))).drew);have Qb:dA<=(Ca.setCells g (pn*3) (eK ⟨true,0,0⟩)).drew.heap.size:=tr ((Ba.o _).1 K5.o).2.2.2.2.2.2.2.1 Ja.size;(go_wp2_with fail);apply fR
       case f=>
        intro key
        go_region_law (fail)
        all_goals exact key.out
       case h=>
        show Exit.then _ _ _ _ (Ca.setCells g (pn*3) (eK ⟨true,0,0⟩)).drew;generalize(Ca.setCells g (pn*3) (eK ⟨true,0,0⟩)).drew=w9 at *;have C9:=gV w9 (HF.o.lies.at 17) HF.o.owns.sees;dsimp only at C9;rw[Jc.o]at C9;(go_wp2_with fail);refine C9.mono ?_;rintro e wx ⟨rfl,hb⟩;have Yb:H7 (bq wx dA h now sr ab nb cb bs ai ni ci mb (qs.set i ⟨{q.j with ts:=q.j.ts.set pn ⟨true,0,0⟩},q.b,q.a,q.c⟩)):=HF.o.1.below hb;have Db:=Hd (Pb.o.trans (hb.mono Qb))
        cases od with
        | true=>
         go_wp2;exact s' (v:=.tuple #[it 0,it 1]) (by simp[results,results51,go_sem]) rfl ⟨rfl,⟨_,_,_,_,_,_,_,_,Yb.o,(by show _=M.setT _ _ _ _;rw[List.map_set];unfold M.setT;rw[Xa.o])⟩,Db.o⟩
        | false=>
         go_wp2;exact s' (v:=.tuple #[it 0,it 0]) (by simp[results,results51,go_sem]) rfl ⟨rfl,⟨_,_,_,_,_,_,_,_,Yb.o,(by show _=M.setT _ _ _ _;rw[List.map_set];unfold M.setT;rw[Xa.o])⟩,Db.o⟩
theorem ip(n1 n2 n3 n4:Nat):decide (n1+n2+n3+n4=0)=(decide (n1=0)&&(decide (n2=0)&&(decide (n3=0)&&decide (n4=0)))):=by
 rw[Bool.eq_iff_iff];simp only[xP,decide_eq_true_eq];omega
theorem qL.post{w w':World}{r:M.Mt×Int×Int}{e:Ending}(h:qL w r e w'):bp w w.heap.size r e w':=by
 obtain⟨v,Aa,h1,rfl,ab,nb,cb,aj,nj,cj,qm,rfl,hM,hj,hb⟩:=h;exact⟨_,rfl,_,_,_,_,_,_,_,rfl,hM.mono h1,hj,hb⟩
theorem eg{l' id em dC i' m0 I J Q m4 Y m6 m7 L Z B D t1 t2 p1 p2 p3 p4:Int}(hok:M.mkOk now sr bs js=true)(F:Bool)(R:M.Mt×Int×Int)
 (hF:M.formB l' id em dC i' (bU m0 I J Q m4 Y m6 m7 L Z B D&&(decide (t1=0)&&decide (t2=0))) (M.Mc.ok ⟨⟨m0,I,J,Q,m4,Y⟩,⟨m6,m7,L,Z,B,D⟩⟩) (M.sOk (t1,t2)) (M.rows em) (M.inB i' 1 8) (bK p1 p2 p3 p4 n1 n2 n3 n4) (M.inB dC 1 9) (M.inB id 1 1000000000) (M.inB em 0 7) (M.inB i' 1 1000000000)=F)(hR:M.act (cv em ⟨(p1,p2),(p3,p4),z1,z2,z3,z4⟩) ⟨now,sr,bs,js⟩ l' id em dC i' ⟨⟨m0,I,J,Q,m4,Y⟩,⟨m6,m7,L,Z,B,D⟩⟩ (t1,t2)=R):
  (F=false->bu now sr bs js l' id em dC i' m0 I J Q m4 Y m6 m7 L Z B D t1 t2 p1 p2 p3 p4 n1 n2 n3 n4 z1 z2 z3 z4=(⟨now,sr,bs,js⟩,2,0))/\(F=true->bu now sr bs js l' id em dC i' m0 I J Q m4 Y m6 m7 L Z B D t1 t2 p1 p2 p3 p4 n1 n2 n3 n4 z1 z2 z3 z4=R):=by
 have h0:¬ (M.Mt.ok ⟨now,sr,bs,js⟩=false):=(by show ¬ (M.mkOk now sr bs js=false);rw[hok];simp);unfold bu M.acted;rw[if_neg h0,hF,hR];exact⟨λh=>by rw[if_pos h],λh=>by rw[h];rfl⟩
set_option maxRecDepth 10000 in
theorem iD(now sr:Int)(id em dC i' m0 I J Q m4 Y m6 m7 L Z B D t1 t2 p1 p2 p3 p4:Int)(w:World)(hz:co w ab nb cb aj nj cj bs js)(l1:n1<=1048576)(l2:n2<=1048576)(l3:n3<=1048576)(l4:n4<=1048576)(hok:M.mkOk now sr bs js=true):
  Calls prog 6 #[.agg (aJ now sr ab nb cb aj nj cj).toArray,.agg (b8 1 id em dC i' m0 I J Q m4 Y m6 m7 L Z B D t1 t2 p1 p2 p3 p4 a1 n1 c1 a2 n2 c2 a3 n3 c3 a4 n4 c4).toArray] w (bp w w.heap.size (bu now sr bs js 1 id em dC i' m0 I J Q m4 Y m6 m7 L Z B D t1 t2 p1 p2 p3 p4 n1 n2 n3 n4 z1 z2 z3 z4)):=by
 have Aa:=cC hok
 have HF:((M.Mc.ok ⟨⟨m0,I,J,Q,m4,Y⟩,⟨m6,m7,L,Z,B,D⟩⟩&&(M.sOk (t1,t2)&&(M.rows em&&M.inB i' 1 8)))&&(decide (id=0)&&(decide ((0:Int)=0)&&(decide (dC=0)&&(decide ((0:Int)=0)&&(bU 0 0 0 0 0 0 0 0 0 0 0 0&&((decide ((0:Int)=0)&&decide ((0:Int)=0))&&((decide (p1=0)&&decide (p2=0))&&((decide (p3=0)&&decide (p4=0))&&(decide (n1=0)&&(decide (n2=0)&&(decide (n3=0)&&decide (n4=0)))))))))))))=true->M.Mc.ok ⟨⟨m0,I,J,Q,m4,Y⟩,⟨m6,m7,L,Z,B,D⟩⟩=true/\M.sOk (t1,t2)=true/\M.rows em=true/\(1<=i'/\i'<=8):=by
  intro h;rw[xP]at h;have h:=h.1;simp only[xP,M.inB,decide_eq_true_eq]at h;exact h
 have hS:=eg (n1:=n1) (n2:=n2) (n3:=n3) (n4:=n4) (z1:=z1) (z2:=z2) (z3:=z3) (z4:=z4) (l':=1) (id:=id) (em:=em) (dC:=dC) (i':=i') (m0:=m0) (I:=I) (J:=J) (Q:=Q) (m4:=m4) (Y:=Y) (m6:=m6) (m7:=m7) (L:=L) (Z:=Z) (B:=B) (D:=D) (t1:=t1) (t2:=t2) (p1:=p1) (p2:=p2) (p3:=p3) (p4:=p4) hok ((M.Mc.ok ⟨⟨m0,I,J,Q,m4,Y⟩,⟨m6,m7,L,Z,B,D⟩⟩&&(M.sOk (t1,t2)&&(M.rows em&&M.inB i' 1 8)))&&(decide (id=0)&&(decide ((0:Int)=0)&&(decide (dC=0)&&(decide ((0:Int)=0)&&(bU 0 0 0 0 0 0 0 0 0 0 0 0&&((decide ((0:Int)=0)&&decide ((0:Int)=0))&&((decide (p1=0)&&decide (p2=0))&&((decide (p3=0)&&decide (p4=0))&&(decide (n1=0)&&(decide (n2=0)&&(decide (n3=0)&&decide (n4=0))))))))))))) (M.submit ⟨now,sr,bs,js⟩ ⟨⟨m0,I,J,Q,m4,Y⟩,⟨m6,m7,L,Z,B,D⟩⟩ (t1,t2) em i')
  (by
   show(M.Mc.ok ⟨⟨m0,I,J,Q,m4,Y⟩,⟨m6,m7,L,Z,B,D⟩⟩&&(M.sOk (t1,t2)&&(M.rows em&&(M.inB i' 1 8&&(decide (id=0)&&(decide (dC=0)&&bK p1 p2 p3 p4 n1 n2 n3 n4))))))=_;unfold bK;rw[ip];rw[show bU 0 0 0 0 0 0 0 0 0 0 0 0=true from rfl];rw[decide_eq_true (rfl:(0:Int)=0)];simp only[Bool.true_and,Bool.and_true]
   ac_rfl)
  rfl
 generalize bu now sr bs js 1 id em dC i' m0 I J Q m4 Y m6 m7 L Z B D t1 t2 p1 p2 p3 p4 n1 n2 n3 n4 z1 z2 z3 z4=r at *
 refine(cA now sr 1 id em dC i' m0 I J Q m4 Y m6 m7 L Z B D t1 t2 p1 p2 p3 p4 w hz hok (.iface 108 (.agg (fi m0 I J Q m4 Y m6 m7 L Z B D t1 t2 em i').toArray)) ((M.Mc.ok ⟨⟨m0,I,J,Q,m4,Y⟩,⟨m6,m7,L,Z,B,D⟩⟩&&(M.sOk (t1,t2)&&(M.rows em&&M.inB i' 1 8)))&&(decide (id=0)&&(decide ((0:Int)=0)&&(decide (dC=0)&&(decide ((0:Int)=0)&&(bU 0 0 0 0 0 0 0 0 0 0 0 0&&((decide ((0:Int)=0)&&decide ((0:Int)=0))&&((decide (p1=0)&&decide (p2=0))&&((decide (p3=0)&&decide (p4=0))&&(decide (n1=0)&&(decide (n2=0)&&(decide (n3=0)&&decide (n4=0)))))))))))))
  (λW=>ks id em dC i' m0 I J Q m4 Y m6 m7 L Z B D t1 t2 p1 p2 p3 p4 _ (λW2=>@eZ 1 id 0 dC 0 0 0 0 0 0 0 0 0 0 0 0 0 0 0 p1 p2 p3 p4 a1 a2 a3 a4 n1 n2 n3 n4 c1 c2 c3 c4 l1 l2 l3 l4 W2) W) (M.submit ⟨now,sr,bs,js⟩ ⟨⟨m0,I,J,Q,m4,Y⟩,⟨m6,m7,L,Z,B,D⟩⟩ (t1,t2) em i').1.now (M.submit ⟨now,sr,bs,js⟩ ⟨⟨m0,I,J,Q,m4,Y⟩,⟨m6,m7,L,Z,B,D⟩⟩ (t1,t2) em i').1.next (M.submit ⟨now,sr,bs,js⟩ ⟨⟨m0,I,J,Q,m4,Y⟩,⟨m6,m7,L,Z,B,D⟩⟩ (t1,t2) em i').1.bs (M.submit ⟨now,sr,bs,js⟩ ⟨⟨m0,I,J,Q,m4,Y⟩,⟨m6,m7,L,Z,B,D⟩⟩ (t1,t2) em i').1.js (M.submit ⟨now,sr,bs,js⟩ ⟨⟨m0,I,J,Q,m4,Y⟩,⟨m6,m7,L,Z,B,D⟩⟩ (t1,t2) em i').2.1 (M.submit ⟨now,sr,bs,js⟩ ⟨⟨m0,I,J,Q,m4,Y⟩,⟨m6,m7,L,Z,B,D⟩⟩ (t1,t2) em i').2.2 (λhof W dA h ab nb cb ai ni ci mb qs H hjs hb hbl=>by
   subst hjs;exact jN m0 I J Q m4 Y m6 m7 L Z B D t1 t2 em i' W H _ (λW2 H2 hb2 hbl2=>sP m0 I J Q m4 Y m6 m7 L Z B D t1 t2 em i' W2 H2 Aa (HF hof).2.2.2.1 (HF hof).2.2.2.2 hb2) hb) (λhof=>by
   obtain⟨hm,hs,hr,h8⟩:=HF hof;exact M.submit_right (m:=⟨now,sr,bs,js⟩) Aa hm hs hr h8.1 h8.2) r hS).mono (λe w' h=>h.post)
set_option maxRecDepth 10000 in
theorem i7(now sr:Int)(id em dC i' m0 I J Q m4 Y m6 m7 L Z B D t1 t2 p1 p2 p3 p4:Int)(w:World)(hz:co w ab nb cb aj nj cj bs js)(l1:n1<=1048576)(l2:n2<=1048576)(l3:n3<=1048576)(l4:n4<=1048576)(hok:M.mkOk now sr bs js=true):
  Calls prog 6 #[.agg (aJ now sr ab nb cb aj nj cj).toArray,.agg (b8 2 id em dC i' m0 I J Q m4 Y m6 m7 L Z B D t1 t2 p1 p2 p3 p4 a1 n1 c1 a2 n2 c2 a3 n3 c3 a4 n4 c4).toArray] w (bp w w.heap.size (bu now sr bs js 2 id em dC i' m0 I J Q m4 Y m6 m7 L Z B D t1 t2 p1 p2 p3 p4 n1 n2 n3 n4 z1 z2 z3 z4)):=by
 have Aa:=cC hok
 have HF:(M.wkOk dC&&(decide (id=0)&&(decide (em=0)&&(decide ((0:Int)=0)&&(decide (i'=0)&&(bU m0 I J Q m4 Y m6 m7 L Z B D&&((decide (t1=0)&&decide (t2=0))&&((decide (p1=0)&&decide (p2=0))&&((decide (p3=0)&&decide (p4=0))&&(decide (n1=0)&&(decide (n2=0)&&(decide (n3=0)&&decide (n4=0)))))))))))))=true->M.wkOk dC=true:=by
  intro h;rw[xP]at h;have h:=h.1;exact h
 have hS:=eg (n1:=n1) (n2:=n2) (n3:=n3) (n4:=n4) (z1:=z1) (z2:=z2) (z3:=z3) (z4:=z4) (l':=2) (id:=id) (em:=em) (dC:=dC) (i':=i') (m0:=m0) (I:=I) (J:=J) (Q:=Q) (m4:=m4) (Y:=Y) (m6:=m6) (m7:=m7) (L:=L) (Z:=Z) (B:=B) (D:=D) (t1:=t1) (t2:=t2) (p1:=p1) (p2:=p2) (p3:=p3) (p4:=p4) hok (M.wkOk dC&&(decide (id=0)&&(decide (em=0)&&(decide ((0:Int)=0)&&(decide (i'=0)&&(bU m0 I J Q m4 Y m6 m7 L Z B D&&((decide (t1=0)&&decide (t2=0))&&((decide (p1=0)&&decide (p2=0))&&((decide (p3=0)&&decide (p4=0))&&(decide (n1=0)&&(decide (n2=0)&&(decide (n3=0)&&decide (n4=0))))))))))))) (M.lease ⟨now,sr,bs,js⟩ dC)
  (by
   show((bU m0 I J Q m4 Y m6 m7 L Z B D&&(decide (t1=0)&&decide (t2=0)))&&(M.wkOk dC&&(decide (id=0)&&(decide (em=0)&&(decide (i'=0)&&bK p1 p2 p3 p4 n1 n2 n3 n4)))))=_;unfold bK;rw[ip];rw[decide_eq_true (rfl:(0:Int)=0)];simp only[Bool.true_and]
   ac_rfl)
  rfl
 generalize bu now sr bs js 2 id em dC i' m0 I J Q m4 Y m6 m7 L Z B D t1 t2 p1 p2 p3 p4 n1 n2 n3 n4 z1 z2 z3 z4=r at *
 refine(cA now sr 2 id em dC i' m0 I J Q m4 Y m6 m7 L Z B D t1 t2 p1 p2 p3 p4 w hz hok (.iface 110 (.agg #[it dC])) (M.wkOk dC&&(decide (id=0)&&(decide (em=0)&&(decide ((0:Int)=0)&&(decide (i'=0)&&(bU m0 I J Q m4 Y m6 m7 L Z B D&&((decide (t1=0)&&decide (t2=0))&&((decide (p1=0)&&decide (p2=0))&&((decide (p3=0)&&decide (p4=0))&&(decide (n1=0)&&(decide (n2=0)&&(decide (n3=0)&&decide (n4=0)))))))))))))
  (λW=>kS id em dC i' m0 I J Q m4 Y m6 m7 L Z B D t1 t2 p1 p2 p3 p4 _ (λW2=>@eZ 2 id em 0 i' m0 I J Q m4 Y m6 m7 L Z B D t1 t2 p1 p2 p3 p4 a1 a2 a3 a4 n1 n2 n3 n4 c1 c2 c3 c4 l1 l2 l3 l4 W2) W) (M.lease ⟨now,sr,bs,js⟩ dC).1.now (M.lease ⟨now,sr,bs,js⟩ dC).1.next (M.lease ⟨now,sr,bs,js⟩ dC).1.bs (M.lease ⟨now,sr,bs,js⟩ dC).1.js (M.lease ⟨now,sr,bs,js⟩ dC).2.1 (M.lease ⟨now,sr,bs,js⟩ dC).2.2 (λhof W dA h ab nb cb ai ni ci mb qs H hjs hb hbl=>by
   subst hjs;exact kt dC W H _ (λW2 H2 hb2 hbl2=>ub dC W2 H2 Aa hb2) hb) (λhof=>M.lease_right (m:=⟨now,sr,bs,js⟩) Aa (HF hof)) r hS).mono (λe w' h=>h.post)
set_option maxRecDepth 10000 in
theorem iC(now sr:Int)(id em dC i' m0 I J Q m4 Y m6 m7 L Z B D t1 t2 p1 p2 p3 p4:Int)(w:World)(hz:co w ab nb cb aj nj cj bs js)(he:EnvX w aL aN aG aE aR)(h1:aC w a1 n1 c1 z1)(h2:aC w a2 n2 c2 z2)(h3:aC w a3 n3 c3 z3)(h4:aC w a4 n4 c4 z4)(hok:M.mkOk now sr bs js=true):
  Calls prog 6 #[.agg (aJ now sr ab nb cb aj nj cj).toArray,.agg (b8 3 id em dC i' m0 I J Q m4 Y m6 m7 L Z B D t1 t2 p1 p2 p3 p4 a1 n1 c1 a2 n2 c2 a3 n3 c3 a4 n4 c4).toArray] w (bp w w.heap.size (bu now sr bs js 3 id em dC i' m0 I J Q m4 Y m6 m7 L Z B D t1 t2 p1 p2 p3 p4 n1 n2 n3 n4 z1 z2 z3 z4)):=by
 have Ba:=cC hok
 have HF:((M.wkOk dC&&(M.inB id 1 1000000000&&M.inB em 0 7))&&(decide ((0:Int)=0)&&(decide ((0:Int)=0)&&(decide ((0:Int)=0)&&(decide (i'=0)&&(bU m0 I J Q m4 Y m6 m7 L Z B D&&((decide (t1=0)&&decide (t2=0))&&((decide ((0:Int)=0)&&decide ((0:Int)=0))&&((decide ((0:Int)=0)&&decide ((0:Int)=0))&&(decide ((0:Nat)=0)&&(decide ((0:Nat)=0)&&(decide ((0:Nat)=0)&&decide ((0:Nat)=0)))))))))))))=true->M.wkOk dC=true/\(1<=id/\id<=1000000000)/\0<=em/\em<=7:=by
  intro h;rw[xP]at h;have h:=h.1;simp only[xP,M.inB,decide_eq_true_eq]at h;exact⟨h.1,h.2.1,h.2.2⟩
 have hS:=eg (n1:=n1) (n2:=n2) (n3:=n3) (n4:=n4) (z1:=z1) (z2:=z2) (z3:=z3) (z4:=z4) (l':=3) (id:=id) (em:=em) (dC:=dC) (i':=i') (m0:=m0) (I:=I) (J:=J) (Q:=Q) (m4:=m4) (Y:=Y) (m6:=m6) (m7:=m7) (L:=L) (Z:=Z) (B:=B) (D:=D) (t1:=t1) (t2:=t2) (p1:=p1) (p2:=p2) (p3:=p3) (p4:=p4) hok ((M.wkOk dC&&(M.inB id 1 1000000000&&M.inB em 0 7))&&(decide ((0:Int)=0)&&(decide ((0:Int)=0)&&(decide ((0:Int)=0)&&(decide (i'=0)&&(bU m0 I J Q m4 Y m6 m7 L Z B D&&((decide (t1=0)&&decide (t2=0))&&((decide ((0:Int)=0)&&decide ((0:Int)=0))&&((decide ((0:Int)=0)&&decide ((0:Int)=0))&&(decide ((0:Nat)=0)&&(decide ((0:Nat)=0)&&(decide ((0:Nat)=0)&&decide ((0:Nat)=0))))))))))))) (M.back (cv em ⟨(p1,p2),(p3,p4),z1,z2,z3,z4⟩) ⟨now,sr,bs,js⟩ dC id em)
  (by
   show((bU m0 I J Q m4 Y m6 m7 L Z B D&&(decide (t1=0)&&decide (t2=0)))&&(M.wkOk dC&&(M.inB id 1 1000000000&&(M.inB em 0 7&&decide (i'=0)))))=_;rw[decide_eq_true (rfl:(0:Nat)=0)];rw[decide_eq_true (rfl:(0:Int)=0)];simp only[Bool.true_and,Bool.and_true]
   ac_rfl)
  rfl
 generalize bu now sr bs js 3 id em dC i' m0 I J Q m4 Y m6 m7 L Z B D t1 t2 p1 p2 p3 p4 n1 n2 n3 n4 z1 z2 z3 z4=r at *
 refine(cA now sr 3 id em dC i' m0 I J Q m4 Y m6 m7 L Z B D t1 t2 p1 p2 p3 p4 w hz hok (.iface 112 (.agg (dt dC id em p1 p2 p3 p4 a1 n1 c1 a2 n2 c2 a3 n3 c3 a4 n4 c4).toArray)) ((M.wkOk dC&&(M.inB id 1 1000000000&&M.inB em 0 7))&&(decide ((0:Int)=0)&&(decide ((0:Int)=0)&&(decide ((0:Int)=0)&&(decide (i'=0)&&(bU m0 I J Q m4 Y m6 m7 L Z B D&&((decide (t1=0)&&decide (t2=0))&&((decide ((0:Int)=0)&&decide ((0:Int)=0))&&((decide ((0:Int)=0)&&decide ((0:Int)=0))&&(decide ((0:Nat)=0)&&(decide ((0:Nat)=0)&&(decide ((0:Nat)=0)&&decide ((0:Nat)=0)))))))))))))
  (λW=>kr id em dC i' m0 I J Q m4 Y m6 m7 L Z B D t1 t2 p1 p2 p3 p4 _ (λW2=>@eZ 3 0 0 0 i' m0 I J Q m4 Y m6 m7 L Z B D t1 t2 0 0 0 0 none none none none 0 0 0 0 0 0 0 0 (Nat.zero_le _) (Nat.zero_le _) (Nat.zero_le _) (Nat.zero_le _) W2) W) (M.back (cv em ⟨(p1,p2),(p3,p4),z1,z2,z3,z4⟩) ⟨now,sr,bs,js⟩ dC id em).1.now (M.back (cv em ⟨(p1,p2),(p3,p4),z1,z2,z3,z4⟩) ⟨now,sr,bs,js⟩ dC id em).1.next (M.back (cv em ⟨(p1,p2),(p3,p4),z1,z2,z3,z4⟩) ⟨now,sr,bs,js⟩ dC id em).1.bs (M.back (cv em ⟨(p1,p2),(p3,p4),z1,z2,z3,z4⟩) ⟨now,sr,bs,js⟩ dC id em).1.js (M.back (cv em ⟨(p1,p2),(p3,p4),z1,z2,z3,z4⟩) ⟨now,sr,bs,js⟩ dC id em).2.1 (M.back (cv em ⟨(p1,p2),(p3,p4),z1,z2,z3,z4⟩) ⟨now,sr,bs,js⟩ dC id em).2.2 (λhof W dA h ab nb cb ai ni ci mb qs H hjs hb hbl=>by
   subst hjs;exact jM dC id em p1 p2 p3 p4 W H _ (λW2 H2 hb2 hbl2=>by
   have Ca:=Int.toNat_of_nonneg (HF hof).2.2.1;have Aa:=hbl.trans (hbl2.mono hbl.size);have hc:=oD dC id em.toNat p1 p2 p3 p4 W2 H2 Ba (HF hof).1 (by have:=(HF hof).2.2;omega) hb2 (he.below Aa) (h1.below Aa) (h2.below Aa) (h3.below Aa) (h4.below Aa);rw[Ca]at hc;exact hc) hb) (λhof=>M.back_right (m:=⟨now,sr,bs,js⟩) Ba (HF hof).1 (HF hof).2.2.1) r hS).mono (λe w' h=>h.post)
set_option maxRecDepth 10000 in
theorem jx(now sr:Int)(id em dC i' m0 I J Q m4 Y m6 m7 L Z B D t1 t2 p1 p2 p3 p4:Int)(w:World)(hz:co w ab nb cb aj nj cj bs js)(l1:n1<=1048576)(l2:n2<=1048576)(l3:n3<=1048576)(l4:n4<=1048576)(hok:M.mkOk now sr bs js=true):
  Calls prog 6 #[.agg (aJ now sr ab nb cb aj nj cj).toArray,.agg (b8 4 id em dC i' m0 I J Q m4 Y m6 m7 L Z B D t1 t2 p1 p2 p3 p4 a1 n1 c1 a2 n2 c2 a3 n3 c3 a4 n4 c4).toArray] w (bp w w.heap.size (bu now sr bs js 4 id em dC i' m0 I J Q m4 Y m6 m7 L Z B D t1 t2 p1 p2 p3 p4 n1 n2 n3 n4 z1 z2 z3 z4)):=by
 have Aa:=cC hok
 have HF:(M.inB i' 1 1000000000&&(decide (id=0)&&(decide (em=0)&&(decide (dC=0)&&(decide ((0:Int)=0)&&(bU m0 I J Q m4 Y m6 m7 L Z B D&&((decide (t1=0)&&decide (t2=0))&&((decide (p1=0)&&decide (p2=0))&&((decide (p3=0)&&decide (p4=0))&&(decide (n1=0)&&(decide (n2=0)&&(decide (n3=0)&&decide (n4=0)))))))))))))=true->1<=i'/\i'<=1000000000:=by
  intro h;rw[xP]at h;have h:=h.1;simp only[xP,M.inB,decide_eq_true_eq]at h;exact h
 have hS:=eg (n1:=n1) (n2:=n2) (n3:=n3) (n4:=n4) (z1:=z1) (z2:=z2) (z3:=z3) (z4:=z4) (l':=4) (id:=id) (em:=em) (dC:=dC) (i':=i') (m0:=m0) (I:=I) (J:=J) (Q:=Q) (m4:=m4) (Y:=Y) (m6:=m6) (m7:=m7) (L:=L) (Z:=Z) (B:=B) (D:=D) (t1:=t1) (t2:=t2) (p1:=p1) (p2:=p2) (p3:=p3) (p4:=p4) hok (M.inB i' 1 1000000000&&(decide (id=0)&&(decide (em=0)&&(decide (dC=0)&&(decide ((0:Int)=0)&&(bU m0 I J Q m4 Y m6 m7 L Z B D&&((decide (t1=0)&&decide (t2=0))&&((decide (p1=0)&&decide (p2=0))&&((decide (p3=0)&&decide (p4=0))&&(decide (n1=0)&&(decide (n2=0)&&(decide (n3=0)&&decide (n4=0))))))))))))) (M.tick ⟨now,sr,bs,js⟩ i')
  (by
   show((bU m0 I J Q m4 Y m6 m7 L Z B D&&(decide (t1=0)&&decide (t2=0)))&&(decide (dC=0)&&(decide (id=0)&&(decide (em=0)&&(M.inB i' 1 1000000000&&bK p1 p2 p3 p4 n1 n2 n3 n4)))))=_;unfold bK;rw[ip];rw[decide_eq_true (rfl:(0:Int)=0)];simp only[Bool.true_and]
   ac_rfl)
  rfl
 generalize bu now sr bs js 4 id em dC i' m0 I J Q m4 Y m6 m7 L Z B D t1 t2 p1 p2 p3 p4 n1 n2 n3 n4 z1 z2 z3 z4=r at *
 refine(cA now sr 4 id em dC i' m0 I J Q m4 Y m6 m7 L Z B D t1 t2 p1 p2 p3 p4 w hz hok (.iface 114 (.agg #[it i'])) (M.inB i' 1 1000000000&&(decide (id=0)&&(decide (em=0)&&(decide (dC=0)&&(decide ((0:Int)=0)&&(bU m0 I J Q m4 Y m6 m7 L Z B D&&((decide (t1=0)&&decide (t2=0))&&((decide (p1=0)&&decide (p2=0))&&((decide (p3=0)&&decide (p4=0))&&(decide (n1=0)&&(decide (n2=0)&&(decide (n3=0)&&decide (n4=0)))))))))))))
  (λW=>lO id em dC i' m0 I J Q m4 Y m6 m7 L Z B D t1 t2 p1 p2 p3 p4 _ (λW2=>@eZ 4 id em dC 0 m0 I J Q m4 Y m6 m7 L Z B D t1 t2 p1 p2 p3 p4 a1 a2 a3 a4 n1 n2 n3 n4 c1 c2 c3 c4 l1 l2 l3 l4 W2) W) (M.tick ⟨now,sr,bs,js⟩ i').1.now (M.tick ⟨now,sr,bs,js⟩ i').1.next (M.tick ⟨now,sr,bs,js⟩ i').1.bs (M.tick ⟨now,sr,bs,js⟩ i').1.js (M.tick ⟨now,sr,bs,js⟩ i').2.1 (M.tick ⟨now,sr,bs,js⟩ i').2.2 (λhof W dA h ab nb cb ai ni ci mb qs H hjs hb hbl=>by
   subst hjs;exact kV i' W H _ (λW2 H2 hb2 hbl2=>uW i' W2 H2 Aa (HF hof).1 (HF hof).2 hb2) hb) (λhof=>M.tick_right (m:=⟨now,sr,bs,js⟩) Aa (HF hof).1) r hS).mono (λe w' h=>h.post)
set_option maxRecDepth 10000 in
theorem iB(now sr:Int)(id em dC i' m0 I J Q m4 Y m6 m7 L Z B D t1 t2 p1 p2 p3 p4:Int)(w:World)(hz:co w ab nb cb aj nj cj bs js)(l1:n1<=1048576)(l2:n2<=1048576)(l3:n3<=1048576)(l4:n4<=1048576)(hok:M.mkOk now sr bs js=true):
  Calls prog 6 #[.agg (aJ now sr ab nb cb aj nj cj).toArray,.agg (b8 5 id em dC i' m0 I J Q m4 Y m6 m7 L Z B D t1 t2 p1 p2 p3 p4 a1 n1 c1 a2 n2 c2 a3 n3 c3 a4 n4 c4).toArray] w (bp w w.heap.size (bu now sr bs js 5 id em dC i' m0 I J Q m4 Y m6 m7 L Z B D t1 t2 p1 p2 p3 p4 n1 n2 n3 n4 z1 z2 z3 z4)):=by
 have Aa:=cC hok
 have HF:(M.inB id 1 1000000000&&(decide ((0:Int)=0)&&(decide (em=0)&&(decide (dC=0)&&(decide (i'=0)&&(bU m0 I J Q m4 Y m6 m7 L Z B D&&((decide (t1=0)&&decide (t2=0))&&((decide (p1=0)&&decide (p2=0))&&((decide (p3=0)&&decide (p4=0))&&(decide (n1=0)&&(decide (n2=0)&&(decide (n3=0)&&decide (n4=0)))))))))))))=true->1<=id/\id<=1000000000:=by
  intro h;rw[xP]at h;have h:=h.1;simp only[xP,M.inB,decide_eq_true_eq]at h;exact h
 have hS:=eg (n1:=n1) (n2:=n2) (n3:=n3) (n4:=n4) (z1:=z1) (z2:=z2) (z3:=z3) (z4:=z4) (l':=5) (id:=id) (em:=em) (dC:=dC) (i':=i') (m0:=m0) (I:=I) (J:=J) (Q:=Q) (m4:=m4) (Y:=Y) (m6:=m6) (m7:=m7) (L:=L) (Z:=Z) (B:=B) (D:=D) (t1:=t1) (t2:=t2) (p1:=p1) (p2:=p2) (p3:=p3) (p4:=p4) hok (M.inB id 1 1000000000&&(decide ((0:Int)=0)&&(decide (em=0)&&(decide (dC=0)&&(decide (i'=0)&&(bU m0 I J Q m4 Y m6 m7 L Z B D&&((decide (t1=0)&&decide (t2=0))&&((decide (p1=0)&&decide (p2=0))&&((decide (p3=0)&&decide (p4=0))&&(decide (n1=0)&&(decide (n2=0)&&(decide (n3=0)&&decide (n4=0))))))))))))) (M.cancel ⟨now,sr,bs,js⟩ id)
  (by
   show((bU m0 I J Q m4 Y m6 m7 L Z B D&&(decide (t1=0)&&decide (t2=0)))&&(decide (dC=0)&&(M.inB id 1 1000000000&&(decide (em=0)&&(decide (i'=0)&&bK p1 p2 p3 p4 n1 n2 n3 n4)))))=_;unfold bK;rw[ip];rw[decide_eq_true (rfl:(0:Int)=0)];simp only[Bool.true_and]
   ac_rfl)
  rfl
 generalize bu now sr bs js 5 id em dC i' m0 I J Q m4 Y m6 m7 L Z B D t1 t2 p1 p2 p3 p4 n1 n2 n3 n4 z1 z2 z3 z4=r at *
 refine(cA now sr 5 id em dC i' m0 I J Q m4 Y m6 m7 L Z B D t1 t2 p1 p2 p3 p4 w hz hok (.iface 116 (.agg #[it id])) (M.inB id 1 1000000000&&(decide ((0:Int)=0)&&(decide (em=0)&&(decide (dC=0)&&(decide (i'=0)&&(bU m0 I J Q m4 Y m6 m7 L Z B D&&((decide (t1=0)&&decide (t2=0))&&((decide (p1=0)&&decide (p2=0))&&((decide (p3=0)&&decide (p4=0))&&(decide (n1=0)&&(decide (n2=0)&&(decide (n3=0)&&decide (n4=0)))))))))))))
  (λW=>kq id em dC i' m0 I J Q m4 Y m6 m7 L Z B D t1 t2 p1 p2 p3 p4 _ (λW2=>@eZ 5 0 em dC i' m0 I J Q m4 Y m6 m7 L Z B D t1 t2 p1 p2 p3 p4 a1 a2 a3 a4 n1 n2 n3 n4 c1 c2 c3 c4 l1 l2 l3 l4 W2) W) (M.cancel ⟨now,sr,bs,js⟩ id).1.now (M.cancel ⟨now,sr,bs,js⟩ id).1.next (M.cancel ⟨now,sr,bs,js⟩ id).1.bs (M.cancel ⟨now,sr,bs,js⟩ id).1.js (M.cancel ⟨now,sr,bs,js⟩ id).2.1 (M.cancel ⟨now,sr,bs,js⟩ id).2.2 (λhof W dA h ab nb cb ai ni ci mb qs H hjs hb hbl=>by
   subst hjs;exact jL id W H _ (λW2 H2 hb2 hbl2=>rQ id W2 H2 Aa hb2) hb) (λhof=>M.cancel_right (m:=⟨now,sr,bs,js⟩) Aa) r hS).mono (λe w' h=>h.post)
set_option maxRecDepth 10000 in
theorem lU(now sr:Int)(l' id em dC i' m0 I J Q m4 Y m6 m7 L Z B D t1 t2 p1 p2 p3 p4:Int)(w:World)(hz:co w ab nb cb aj nj cj bs js)(l1:n1<=1048576)(l2:n2<=1048576)(l3:n3<=1048576)(l4:n4<=1048576)(he:EnvX w aL aN aG aE aR)(h1:aC w a1 n1 c1 z1)(h2:aC w a2 n2 c2 z2)(h3:aC w a3 n3 c3 z3)(h4:aC w a4 n4 c4 z4):
  Calls prog 6 #[.agg (aJ now sr ab nb cb aj nj cj).toArray,.agg (b8 l' id em dC i' m0 I J Q m4 Y m6 m7 L Z B D t1 t2 p1 p2 p3 p4 a1 n1 c1 a2 n2 c2 a3 n3 c3 a4 n4 c4).toArray] w (bp w w.heap.size (bu now sr bs js l' id em dC i' m0 I J Q m4 Y m6 m7 L Z B D t1 t2 p1 p2 p3 p4 n1 n2 n3 n4 z1 z2 z3 z4)):=by
 cases hok:M.mkOk now sr bs js with
 | false=>
  have hS:bu now sr bs js l' id em dC i' m0 I J Q m4 Y m6 m7 L Z B D t1 t2 p1 p2 p3 p4 n1 n2 n3 n4 z1 z2 z3 z4=(M.Mt.zero,1,0):=by
   unfold bu M.acted;rw[if_pos (show M.Mt.ok ⟨now,sr,bs,js⟩=false from hok)]
  rw[hS];refine(kw now sr l' id em dC i' m0 I J Q m4 Y m6 m7 L Z B D t1 t2 p1 p2 p3 p4 w hz hok).mono ?_;rintro e w' ⟨rfl,hb⟩;exact⟨_,rfl,_,_,_,_,_,_,_,rfl,aW.zero _ _,rfl,hb⟩
 | true=>
  by_cases k1:l'=1
  .subst k1;exact iD now sr id em dC i' m0 I J Q m4 Y m6 m7 L Z B D t1 t2 p1 p2 p3 p4 w hz l1 l2 l3 l4 hok
  by_cases k2:l'=2
  .subst k2;exact i7 now sr id em dC i' m0 I J Q m4 Y m6 m7 L Z B D t1 t2 p1 p2 p3 p4 w hz l1 l2 l3 l4 hok
  by_cases k3:l'=3
  .subst k3;exact iC now sr id em dC i' m0 I J Q m4 Y m6 m7 L Z B D t1 t2 p1 p2 p3 p4 w hz he h1 h2 h3 h4 hok
  by_cases k4:l'=4
  .subst k4;exact jx now sr id em dC i' m0 I J Q m4 Y m6 m7 L Z B D t1 t2 p1 p2 p3 p4 w hz l1 l2 l3 l4 hok
  by_cases k5:l'=5
  .subst k5;exact iB now sr id em dC i' m0 I J Q m4 Y m6 m7 L Z B D t1 t2 p1 p2 p3 p4 w hz l1 l2 l3 l4 hok
  have hS:=eg (n1:=n1) (n2:=n2) (n3:=n3) (n4:=n4) (z1:=z1) (z2:=z2) (z3:=z3) (z4:=z4) (l':=l') (id:=id) (em:=em) (dC:=dC) (i':=i') (m0:=m0) (I:=I) (J:=J) (Q:=Q) (m4:=m4) (Y:=Y) (m6:=m6) (m7:=m7) (L:=L) (Z:=Z) (B:=B) (D:=D) (t1:=t1) (t2:=t2) (p1:=p1) (p2:=p2) (p3:=p3) (p4:=p4) hok false _
   (by unfold M.formB;rw[if_neg k1,if_neg k2,if_neg k3,if_neg k4,if_neg k5]) rfl
  generalize bu now sr bs js l' id em dC i' m0 I J Q m4 Y m6 m7 L Z B D t1 t2 p1 p2 p3 p4 n1 n2 n3 n4 z1 z2 z3 z4=r at *;refine(cA now sr l' id em dC i' m0 I J Q m4 Y m6 m7 L Z B D t1 t2 p1 p2 p3 p4 w hz hok .nilIface false (λW=>rL l' id em dC i' m0 I J Q m4 Y m6 m7 L Z B D t1 t2 p1 p2 p3 p4 (by omega) W) 0 0 [] [] 0 0 (λh=>by cases h) (λh=>by cases h) r ⟨hS.1,λh=>by cases h⟩).mono (λe w' h=>h.post)
end Go.Proofs.YtbjalickbnpnkaaGreatDoor
