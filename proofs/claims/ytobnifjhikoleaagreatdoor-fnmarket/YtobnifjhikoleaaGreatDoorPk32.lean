import Derived.Test.YtobnifjhikoleaaGreatDoorPk31
import Derived.Test.YtobnifjhikoleaaGreatDoorPk23
import Derived.Test.YtobnifjhikoleaaGreatDoorPk30
import Derived.Test.YtobnifjhikoleaaGreatDoorPk26
namespace Go.Proofs.YtobnifjhikoleaaGreatDoor
open Go.RowKit Go.Proofs.Tryz
set_option linter.unusedSimpArgs false
set_option maxHeartbeats 32000000
variable {now uN:Int}{ab a1 a2 a3 a4 aj:Option Addr}{nb cb n1 n2 n3 n4 c1 c2 c3 c4 nj cj:Nat}{bs z1 z2 z3 z4:List Int}{aL aN aG aE aR:Addr}{js:List M.Jb}
def tB(m:M.Mt)(who:Int)(i pn:Nat)(og od:Bool):M.Mt×Int×Int:=
 if og=false then(⟨m.now,m.next,M.banned m.bs who,M.setT m.js i pn M.t0⟩,7,0)else(⟨m.now,m.next,m.bs,M.setT m.js i pn ⟨true,0,0⟩⟩,0,if od then 1 else 0)
set_option maxRecDepth 10000 in
theorem mY{i' h:Nat}{ai:Option Addr}{ni ci:Nat}{mb:Nat}{qs:List HJ}(who id:Int)(pn:Nat)(p1 p2 p3 p4:Int)(w:World)(H:bj w i' h now uN ab nb cb bs ai ni ci mb qs)(HRt:M.Right now uN bs (qs.map (fun q:HJ=>q.j)))(hw:M.wkOk who=true)(hp:pn≤7)(uK:i'≤w.heap.size)(he:EnvX w aL aN aG aE aR)(h1:aw w a1 n1 c1 z1)(h2:aw w a2 n2 c2 z2)(h3:aw w a3 n3 c3 z3)(h4:aw w a4 n4 c4 z4):
  Calls prog 47 #[.pointer (some ⟨h,0,none⟩),.agg (df who id (pn:Nat) p1 p2 p3 p4 a1 n1 c1 a2 n2 c2 a3 n3 c3 a4 n4 c4).toArray] w (fS w i' h (M.back (cn (pn:Nat) (⟨(p1,p2),(p3,p4),z1,z2,z3,z4⟩:M.Pf)) ⟨now,uN,bs,qs.map (fun q:HJ=>q.j)⟩ who id (pn:Nat))):=by
 have Ga:H9 (m1 w (w.alloc (.cells (df who id (pn:Nat) p1 p2 p3 p4 a1 n1 c1 a2 n2 c2 a3 n3 c3 a4 n4 c4).toArray 98))):=(m5 _ _).alloc (m3 _) _;have Na:=cC w (df who id (pn:Nat) p1 p2 p3 p4 a1 n1 c1 a2 n2 c2 a3 n3 c3 a4 n4 c4) 98;have Ea:=Hd (H.below Ga.o);have Ta:=Hd (he.below Ga.o);have S1:=Hd (h1.below Ga.o);have S2:=Hd (h2.below Ga.o);have S3:=Hd (h3.below Ga.o);have S4:=Hd (h4.below Ga.o);have Oa:=Hd (Ga.o.mono uK);have Ua:=m9 uK Ga.o.size;have t0:=Na.c 0;have t1:=Na.c 1;have x4:=Ea.o.l.c 4;have CB:=gU who (w.alloc (.cells (df who id (pn:Nat) p1 p2 p3 p4 a1 n1 c1 a2 n2 c2 a3 n3 c3 a4 n4 c4).toArray 98)) Ea.o;unfold M.back;dsimp only;have Zb:H9 (∀q∈qs,w.heap.size∉ob q.a):=fun q hq e=>by have:=H.lt w.heap.size (by unfold dj;simp only[List.mem_cons,uT];exact .inr (.inr (.inr (.inr (vg.2 ⟨q,hq,by unfold HJ.bl;exact List.mem_cons_of_mem _ e⟩)))));omega
 cases hbn:bs.contains who with
 | true=>
  rw[hbn]at CB;rw[if_pos rfl];go_enter func47,ntmps47;(go_wp2_with fail);generalize(w.alloc (.cells (df who id (pn:Nat) p1 p2 p3 p4 a1 n1 c1 a2 n2 c2 a3 n3 c3 a4 n4 c4).toArray 98))=wa at *;refine CB.mono ?_;rintro e wz ⟨rfl,Da⟩;have Ka:=Da.symm;subst Ka;go_wp2;exact m8 (v:=.tuple #[it 5,it 0]) (by simp[results,results47,go_sem]) rfl ⟨rfl,⟨_,_,_,_,_,_,_,_,Ea.o,rfl⟩,Oa.o⟩
 | false=>
  rw[hbn]at CB;rw[if_neg (by simp)]
  rcases ir id qs 0 with⟨i,hi,hlk,hat⟩ | ⟨hlk,hat⟩
  case inr=>
   rw[hat,if_pos (by simp)];have Rb:(zeroValue 104).run prog (w.alloc (.cells (df who id (pn:Nat) p1 p2 p3 p4 a1 n1 c1 a2 n2 c2 a3 n3 c3 a4 n4 c4).toArray 98)).drew=.ok (.pointer none) (w.alloc (.cells (df who id (pn:Nat) p1 p2 p3 p4 a1 n1 c1 a2 n2 c2 a3 n3 c3 a4 n4 c4).toArray 98)).drew:=(by kernel_rfl);have Pa:=(show bZ (w.alloc (.cells (df who id (pn:Nat) p1 p2 p3 p4 a1 n1 c1 a2 n2 c2 a3 n3 c3 a4 n4 c4).toArray 98)).drew mb (qs.map HJ.ent)from Ea.o.m).miss (P:=prog) (t:=89) underlying89 underlying2 id Rb hlk true;simp only[if_true]at Pa;go_enter func47,ntmps47;(go_wp2_with fail);generalize(w.alloc (.cells (df who id (pn:Nat) p1 p2 p3 p4 a1 n1 c1 a2 n2 c2 a3 n3 c3 a4 n4 c4).toArray 98))=wa at *;refine CB.mono ?_;rintro e wz ⟨rfl,Da⟩;have Ka:=Da.symm;subst Ka;(go_wp2_with fail);apply fi
   case f=>
    intro key
    go_region_law (fail)
    all_goals exact key.out
   case h=>
    have Sb:=Hd (Ea.o.below (m5 _ _).drew);have Tb:=Hd Oa.o.drew;generalize wa.drew=wb at *;(go_wp2_with fail);refine cH wb none (by kernel_rfl) fun hHeld=>?_;have Ac:=Hd (Sb.o.below (m5 _ _).drew);have Bc:=Hd Tb.o.drew;generalize wb.drew=Ha at *;refine tk 0 (.bool false) ?_ ?_
    ·intro wq Aa;go_simp
    refine tk 1 (.bool true) ?_ ?_
    ·intro wq Aa;go_simp
    refine tk 2 (.bool true) ?_ ?_
    ·intro wq Aa;go_simp
    refine sk 3 ?_;refine sk 4 ?_;refine sk 5 ?_;refine sk 6 ?_;refine sk 7 ?_;refine sk 8 ?_;refine sk 9 ?_;refine sk 10 ?_;refine tk 11 (.bool true) ?_ ?_
    ·intro wq Aa;go_simp
    refine bg ?_;go_simp;go_wp2;exact m8 (v:=.tuple #[it 4,it 0]) (by simp[results,results47,go_sem]) rfl ⟨rfl,⟨_,_,_,_,_,_,_,_,Ac.o,rfl⟩,Bc.o⟩
  case inl=>
   rw[Nat.zero_add]at hat;obtain⟨q,hq⟩:∃q,qs.getD i dg=q:=⟨_,rfl⟩;have Eb:=oJ hi hat;rw[hq]at hlk Eb;have HA:H9 (bA (w.alloc (.cells (df who id (pn:Nat) p1 p2 p3 p4 a1 n1 c1 a2 n2 c2 a3 n3 c3 a4 n4 c4).toArray 98)).drew i' h now uN ab nb cb bs ai ni ci mb qs i q):=⟨Ea.o.below (m5 _ _).drew,hi,hq⟩;have Pa:=(show bZ (w.alloc (.cells (df who id (pn:Nat) p1 p2 p3 p4 a1 n1 c1 a2 n2 c2 a3 n3 c3 a4 n4 c4).toArray 98)).drew mb (qs.map HJ.ent)from Ea.o.m).get (P:=prog) (t:=89) underlying89 underlying2 id _ hlk true;simp only[if_true]at Pa;rw[Eb,hat,vv,vv];have Cc:=Hd (Zb.o q (by rw[←hq];exact dh hi));by_cases Fb:(q.j.ts.length:Int)≤((pn:Nat):Int)
   case pos=>
    rw[if_pos (by simp[Fb])];have gl:decide ((q.j.ts.length:Int)≤((pn:Nat):Int))=true:=(by simp[Fb]);have Pc:q.j.ts.length≤pn:=(by omega);obtain⟨TB,Ba⟩:∃TB:World→Prop,H9 (∀W,TB W↔(bA W i' h now uN ab nb cb bs ai ni ci mb qs i q∧au W w.heap.size (df who id (pn:Nat) p1 p2 p3 p4 a1 n1 c1 a2 n2 c2 a3 n3 c3 a4 n4 c4)∧EnvX W aL aN aG aE aR∧aw W a1 n1 c1 z1∧aw W a2 n2 c2 z2∧aw W a3 n3 c3 z3∧aw W a4 n4 c4 z4∧i'≤W.heap.size∧Below i' w W)):=⟨_,fun _=>Iff.rfl⟩
    have Ia:H9 (∀W W',TB W→m1 W W'→TB W'):=fun W W' hK hb=>by
     obtain⟨f0,f1,f2,f3,f4,f5,f6,f7,f8⟩:=(Ba.o W).1 hK;exact(Ba.o W').2 ⟨f0.below hb,f1.belowS hb,f2.below hb,f3.below hb,f4.below hb,f5.below hb,f6.below hb,m9 f7 hb.size,f8.trans (hb.mono f7)⟩
    have K0:=Hd ((Ba.o _).2 ⟨⟨Ea.o.below (m5 _ _).drew,hi,hq⟩,Na.o.belowS (m5 _ _).drew,Ta.o.below (m5 _ _).drew,S1.o.below (m5 _ _).drew,S2.o.below (m5 _ _).drew,S3.o.below (m5 _ _).drew,S4.o.below (m5 _ _).drew,Ua,Oa.o.drew⟩);go_enter func47,ntmps47;(go_wp2_with fail);generalize(w.alloc (.cells (df who id (pn:Nat) p1 p2 p3 p4 a1 n1 c1 a2 n2 c2 a3 n3 c3 a4 n4 c4).toArray 98))=wa at *;refine CB.mono ?_;rintro e wz ⟨rfl,Da⟩;have Ka:=Da.symm;subst Ka;(go_wp2_with fail);apply fi
    case f=>
     intro key
     go_region_law (fail)
     all_goals exact key.out
    case h=>
     generalize wa.drew=wb at *;(go_wp2_with fail);refine cH wb none (by kernel_rfl) fun hHeld=>?_;have K1:=Hd (Ia.o _ _ K0.o (m5 _ _).drew);generalize wb.drew=Ha at *;refine tk 0 (.bool true) ?_ ?_
     ·intro wq Aa;go_simp
     refine tk 1 (.bool false) ?_ ?_
     ·intro wq Aa;go_simp
     refine tk 2 (.bool false) ?_ ?_
     ·intro wq Aa;go_simp
     refine tk 3 (.pointer (some ⟨w.heap.size,2,none⟩)) ?_ ?_
     ·intro wq Aa;go_simp
     refine tk 4 (it (pn:Nat)) ?_ ?_
     ·intro wq Aa;have c0:=(((Ba.o _).1 K0.o).2.1.grown Aa (by simp)).c 2;go_simp
     refine tk 5 (.pointer (some ⟨q.b,0,none⟩)) ?_ ?_
     ·intro wq Aa;go_simp
     refine tk 6 (.pointer (some ⟨q.b,0,none⟩)) ?_ ?_
     ·intro wq Aa;go_simp
     refine tk 7 (.pointer (some ⟨q.b,17,none⟩)) ?_ ?_
     ·intro wq Aa;go_simp
     refine tk 8 (.slice q.a q.j.ts.length q.c) ?_ ?_
     ·intro wq Aa;have c0:=(((Ba.o _).1 K0.o).1.lies.grown Aa (by simp)).c 17;go_simp
     refine tk 9 (it (q.j.ts.length:Nat)) ?_ ?_
     ·intro wq Aa;go_simp
     refine tk 10 (.bool true) ?_ ?_
     ·intro wq Aa;go_simp
     refine tk 11 (.bool true) ?_ ?_
     ·intro wq Aa;go_simp
     refine bg ?_;go_simp;go_wp2;exact m8 (v:=.tuple #[it 4,it 0]) (by simp[results,results47,go_sem]) rfl ⟨rfl,⟨_,_,_,_,_,_,_,_,((Ba.o _).1 K1.o).1.1,rfl⟩,((Ba.o _).1 K1.o).2.2.2.2.2.2.2.2⟩
   case neg=>
    rw[if_neg (by simp;omega)];have gl:decide ((q.j.ts.length:Int)≤((pn:Nat):Int))=false:=(by simp;omega);by_cases Wa:(q.j.ts.getD pn M.t0).l'=who
    case neg=>
     rw[if_pos Wa];have Dc:((pn:Nat):Int)<(q.j.ts.length:Int):=(by omega);have Ec:(0:Int)≤((pn:Nat):Int):=(by omega);have Fc:IntKind.i64.wrap ((pn:Nat):Int)=(pn:Nat):=(by rw[vi];omega);have Qa:=HA.o.owns;obtain⟨g,Ra⟩:=Qa.block (by omega);have Fa:=Hd Ra;have Gc:(q.j.ts.length:Int)≤q.c:=(by have:=Qa.sees.le;omega);obtain⟨wk,Sa⟩:∃wk,(q.j.ts.getD pn M.t0).l'=wk:=⟨_,rfl⟩;have Gb:H9 (∀W,bA W i' h now uN ab nb cb bs ai ni ci mb qs i q→W.cell? ⟨g,pn*3+1,none⟩=some (it wk)):=fun W hW=>by have h9:=hW.owns;rw[Ra]at h9;have h8:=h9.cells (k:=pn) (by omega) (j:=1) (by omega);rw[h8,←Sa];rfl
     rw[Sa]at Wa;obtain⟨TB,Ba⟩:∃TB:World→Prop,H9 (∀W,TB W↔(bA W i' h now uN ab nb cb bs ai ni ci mb qs i q∧au W w.heap.size (df who id (pn:Nat) p1 p2 p3 p4 a1 n1 c1 a2 n2 c2 a3 n3 c3 a4 n4 c4)∧EnvX W aL aN aG aE aR∧aw W a1 n1 c1 z1∧aw W a2 n2 c2 z2∧aw W a3 n3 c3 z3∧aw W a4 n4 c4 z4∧i'≤W.heap.size∧Below i' w W)):=⟨_,fun _=>Iff.rfl⟩
     have Ia:H9 (∀W W',TB W→m1 W W'→TB W'):=fun W W' hK hb=>by
      obtain⟨f0,f1,f2,f3,f4,f5,f6,f7,f8⟩:=(Ba.o W).1 hK;exact(Ba.o W').2 ⟨f0.below hb,f1.belowS hb,f2.below hb,f3.below hb,f4.below hb,f5.below hb,f6.below hb,m9 f7 hb.size,f8.trans (hb.mono f7)⟩
     have K0:=Hd ((Ba.o _).2 ⟨⟨Ea.o.below (m5 _ _).drew,hi,hq⟩,Na.o.belowS (m5 _ _).drew,Ta.o.below (m5 _ _).drew,S1.o.below (m5 _ _).drew,S2.o.below (m5 _ _).drew,S3.o.below (m5 _ _).drew,S4.o.below (m5 _ _).drew,Ua,Oa.o.drew⟩);go_enter func47,ntmps47;(go_wp2_with fail);generalize(w.alloc (.cells (df who id (pn:Nat) p1 p2 p3 p4 a1 n1 c1 a2 n2 c2 a3 n3 c3 a4 n4 c4).toArray 98))=wa at *;refine CB.mono ?_;rintro e wz ⟨rfl,Da⟩;have Ka:=Da.symm;subst Ka;(go_wp2_with fail);apply fi
     case f=>
      intro key
      go_region_law (fail)
      all_goals exact key.out
     case h=>
      generalize wa.drew=wb at *;(go_wp2_with fail);refine cH wb none (by kernel_rfl) fun hHeld=>?_;have K1:=Hd (Ia.o _ _ K0.o (m5 _ _).drew);generalize wb.drew=Ha at *;refine tk 0 (.bool true) ?_ ?_
      ·intro wq Aa;go_simp
      refine tk 1 (.bool false) ?_ ?_
      ·intro wq Aa;go_simp
      refine tk 2 (.bool false) ?_ ?_
      ·intro wq Aa;go_simp
      refine tk 3 (.pointer (some ⟨w.heap.size,2,none⟩)) ?_ ?_
      ·intro wq Aa;go_simp
      refine tk 4 (it (pn:Nat)) ?_ ?_
      ·intro wq Aa;have c0:=(((Ba.o _).1 K0.o).2.1.grown Aa (by simp)).c 2;go_simp
      refine tk 5 (.pointer (some ⟨q.b,0,none⟩)) ?_ ?_
      ·intro wq Aa;go_simp
      refine tk 6 (.pointer (some ⟨q.b,0,none⟩)) ?_ ?_
      ·intro wq Aa;go_simp
      refine tk 7 (.pointer (some ⟨q.b,17,none⟩)) ?_ ?_
      ·intro wq Aa;go_simp
      refine tk 8 (.slice q.a q.j.ts.length q.c) ?_ ?_
      ·intro wq Aa;have c0:=(((Ba.o _).1 K0.o).1.lies.grown Aa (by simp)).c 17;go_simp
      refine tk 9 (it (q.j.ts.length:Nat)) ?_ ?_
      ·intro wq Aa;go_simp
      refine tk 10 (.bool false) ?_ ?_
      ·intro wq Aa;go_simp;omega
      refine tk 11 (.bool false) ?_ ?_
      ·intro wq Aa;go_simp
      refine bg ?_;go_simp;(go_wp2_with fail);refine cH Ha none (by kernel_rfl) fun hHeld=>?_;have K2:=Hd (Ia.o _ _ K1.o (m5 _ _).drew);generalize Ha.drew=Va at *;refine tk 0 (.pointer (some ⟨q.b,0,none⟩)) ?_ ?_
      ·intro wq Aa;go_simp
      refine tk 1 (.pointer (some ⟨q.b,0,none⟩)) ?_ ?_
      ·intro wq Aa;go_simp
      refine tk 2 (.pointer (some ⟨q.b,17,none⟩)) ?_ ?_
      ·intro wq Aa;go_simp
      refine tk 3 (.slice (some ⟨g,0,none⟩) q.j.ts.length q.c) ?_ ?_
      ·intro wq Aa;have c0:=(((Ba.o _).1 K1.o).1.lies.grown Aa (by simp)).c 17;rw[Fa.o]at c0;go_simp
      refine tk 4 (.pointer (some ⟨w.heap.size,2,none⟩)) ?_ ?_
      ·intro wq Aa;go_simp
      refine tk 5 (it (pn:Nat)) ?_ ?_
      ·intro wq Aa;have c0:=(((Ba.o _).1 K1.o).2.1.grown Aa (by simp)).c 2;go_simp
      refine tk 6 (.pointer (some ⟨g,pn*3,none⟩)) ?_ ?_
      ·intro wq Aa;go_simp
      refine tk 7 (.pointer (some ⟨g,pn*3+1,none⟩)) ?_ ?_
      ·intro wq Aa;go_simp
      refine tk 8 (it wk) ?_ ?_
      ·intro wq Aa;have c0:=Aa.cell (Gb.o Ha ((Ba.o _).1 K1.o).1) (by simp);go_simp
      refine tk 9 (.pointer (some ⟨w.heap.size,0,none⟩)) ?_ ?_
      ·intro wq Aa;go_simp
      refine tk 10 (it who) ?_ ?_
      ·intro wq Aa;have c0:=(((Ba.o _).1 K1.o).2.1.grown Aa (by simp)).c 0;go_simp
      refine tk 11 (.bool true) ?_ ?_
      ·intro wq Aa;go_simp
      refine bg ?_;go_simp;go_wp2;exact m8 (v:=.tuple #[it 8,it 0]) (by simp[results,results47,go_sem]) rfl ⟨rfl,⟨_,_,_,_,_,_,_,_,((Ba.o _).1 K2.o).1.1,rfl⟩,((Ba.o _).1 K2.o).2.2.2.2.2.2.2.2⟩
    case pos=>
     rw[if_neg (fun hne=>hne Wa)];have Ub:q.j∈qs.map (fun q:HJ=>q.j):=(by rw[←hq,←lK hi];exact M.getD_mem (by simpa using hi));have Bb:=(HRt.job _ Ub).2.2;unfold M.jbOk at Bb;simp only[vl]at Bb;have Hc:=fG Bb.1.2.2.1;obtain⟨og,Hb⟩:∃og,cn ((pn:Nat):Int) (⟨(p1,p2),(p3,p4),z1,z2,z3,z4⟩:M.Pf) q.j=og:=⟨_,rfl⟩;rw[Hb]
     obtain⟨pv,Vb,Wb⟩:∃pv:Value,H9 (∀W,bA W i' h now uN ab nb cb bs ai ni ci mb qs i q→Rt 85 #[.pointer (some ⟨q.b,0,none⟩),it (pn:Nat)] W pv)∧H9 (∀W,EnvX W aL aN aG aE aR→aw W a1 n1 c1 z1→aw W a2 n2 c2 z2→aw W a3 n3 c3 z3→aw W a4 n4 c4 z4→Rt 86 #[pv,.agg (bi p1 p2 p3 p4 a1 n1 c1 a2 n2 c2 a3 n3 c3 a4 n4 c4).toArray] W (.bool og)):=by
      refine⟨.agg (eL q.j.m.X.xx q.j.m.X.xy q.j.m.X.yy q.j.m.X.x q.j.m.X.y q.j.m.X.k q.j.m.Y.xx q.j.m.Y.xy q.j.m.Y.yy q.j.m.Y.x q.j.m.Y.y q.j.m.Y.k ((eu q.j.m q.j.s ((pn:Nat)*(q.j.rows-1))).1) ((eu q.j.m q.j.s ((pn:Nat)*(q.j.rows-1))).2) q.j.rows).toArray,fun W hW=>oW q.j.id q.j.m.X.xx q.j.m.X.xy q.j.m.X.yy q.j.m.X.x q.j.m.X.y q.j.m.X.k q.j.m.Y.xx q.j.m.Y.xy q.j.m.Y.yy q.j.m.Y.x q.j.m.Y.y q.j.m.Y.k q.j.s.1 q.j.s.2 q.j.rows q.j.gone ((pn:Nat):Int) W hW.lies (by omega) (by omega) (by omega) (by omega),fun W hE g1 g2 g3 g4=>?_⟩;rw[←Hb];exact kg q.j.m.X.xx q.j.m.X.xy q.j.m.X.yy q.j.m.X.x q.j.m.X.y q.j.m.X.k q.j.m.Y.xx q.j.m.Y.xy q.j.m.Y.yy q.j.m.Y.x q.j.m.Y.y q.j.m.Y.k _ _ q.j.rows p1 p2 p3 p4 W hE g1 g2 g3 g4
     have Xa:H9 ((qs.map (fun q:HJ=>q.j)).getD i M.j0=q.j):=(by show _=_;rw[←hq];exact lK hi);have Ic:H9 ((qs.map (fun q:HJ=>q.j)).map (M.freeJ (M.mineT who))=M.setT (qs.map (fun q:HJ=>q.j)) i pn M.t0):=M.free_js (by unfold M.wkOk at hw;simp at hw;omega) HRt.nd (by simpa using hi) (by rw[Xa.o];omega) (by rw[Xa.o];exact Wa);obtain⟨od,Ib⟩:∃od,(q.j.ts.set pn ⟨true,0,0⟩).all (·.done)=od:=⟨_,rfl⟩;rw[Ic.o,Ib]
     change Calls _ _ _ _ (fS w i' h (tB ⟨now,uN,bs,qs.map (fun q:HJ=>q.j)⟩ who i pn og od))
     have Jc:=Hd Ib;have Jb:H9 (M.bnGo 0 bs=true∧M.wkOk who=true∧bs.contains who=false):=⟨HRt.bn,hw,hbn⟩;have Dc:((pn:Nat):Int)<(q.j.ts.length:Int):=(by omega);have Ec:(0:Int)≤((pn:Nat):Int):=(by omega);have Fc:IntKind.i64.wrap ((pn:Nat):Int)=(pn:Nat):=(by rw[vi];omega);have Qa:=HA.o.owns;obtain⟨g,Ra⟩:=Qa.block (by omega);have Fa:=Hd Ra;have Gc:(q.j.ts.length:Int)≤q.c:=(by have:=Qa.sees.le;omega);obtain⟨wk,Sa⟩:∃wk,(q.j.ts.getD pn M.t0).l'=wk:=⟨_,rfl⟩;have Gb:H9 (∀W,bA W i' h now uN ab nb cb bs ai ni ci mb qs i q→W.cell? ⟨g,pn*3+1,none⟩=some (it wk)):=fun W hW=>by have h9:=hW.owns;rw[Ra]at h9;have h8:=h9.cells (k:=pn) (by omega) (j:=1) (by omega);rw[h8,←Sa];rfl
     rw[Sa]at Wa;have Kc:H9 (∀W,bA W i' h now uN ab nb cb bs ai ni ci mb qs i q→w.heap.size∉ob q.a):=fun W _ e=>Cc.o e;obtain⟨TB,Ba⟩:∃TB:World→Prop,H9 (∀W,TB W↔(bA W i' h now uN ab nb cb bs ai ni ci mb qs i q∧au W w.heap.size (df who id (pn:Nat) p1 p2 p3 p4 a1 n1 c1 a2 n2 c2 a3 n3 c3 a4 n4 c4)∧EnvX W aL aN aG aE aR∧aw W a1 n1 c1 z1∧aw W a2 n2 c2 z2∧aw W a3 n3 c3 z3∧aw W a4 n4 c4 z4∧i'≤W.heap.size∧Below i' w W)):=⟨_,fun _=>Iff.rfl⟩
     have Ia:H9 (∀W W',TB W→m1 W W'→TB W'):=fun W W' hK hb=>by
      obtain⟨f0,f1,f2,f3,f4,f5,f6,f7,f8⟩:=(Ba.o W).1 hK;exact(Ba.o W').2 ⟨f0.below hb,f1.belowS hb,f2.below hb,f3.below hb,f4.below hb,f5.below hb,f6.below hb,m9 f7 hb.size,f8.trans (hb.mono f7)⟩
     have K0:=Hd ((Ba.o _).2 ⟨⟨Ea.o.below (m5 _ _).drew,hi,hq⟩,Na.o.belowS (m5 _ _).drew,Ta.o.below (m5 _ _).drew,S1.o.below (m5 _ _).drew,S2.o.below (m5 _ _).drew,S3.o.below (m5 _ _).drew,S4.o.below (m5 _ _).drew,Ua,Oa.o.drew⟩);go_enter func47,ntmps47;(go_wp2_with fail);generalize(w.alloc (.cells (df who id (pn:Nat) p1 p2 p3 p4 a1 n1 c1 a2 n2 c2 a3 n3 c3 a4 n4 c4).toArray 98))=wa at *;refine CB.mono ?_;rintro e wz ⟨rfl,Da⟩;have Ka:=Da.symm;subst Ka;(go_wp2_with fail);apply fi
     case f=>
      intro key
      go_region_law (fail)
      all_goals exact key.out
     case h=>
      generalize wa.drew=wb at *;(go_wp2_with fail);refine cH wb none (by kernel_rfl) fun hHeld=>?_;have K1:=Hd (Ia.o _ _ K0.o (m5 _ _).drew);generalize wb.drew=Ha at *;refine tk 0 (.bool true) ?_ ?_
      ·intro wq Aa;go_simp
      refine tk 1 (.bool false) ?_ ?_
      ·intro wq Aa;go_simp
      refine tk 2 (.bool false) ?_ ?_
      ·intro wq Aa;go_simp
      refine tk 3 (.pointer (some ⟨w.heap.size,2,none⟩)) ?_ ?_
      ·intro wq Aa;go_simp
      refine tk 4 (it (pn:Nat)) ?_ ?_
      ·intro wq Aa;have c0:=(((Ba.o _).1 K0.o).2.1.grown Aa (by simp)).c 2;go_simp
      refine tk 5 (.pointer (some ⟨q.b,0,none⟩)) ?_ ?_
      ·intro wq Aa;go_simp
      refine tk 6 (.pointer (some ⟨q.b,0,none⟩)) ?_ ?_
      ·intro wq Aa;go_simp
      refine tk 7 (.pointer (some ⟨q.b,17,none⟩)) ?_ ?_
      ·intro wq Aa;go_simp
      refine tk 8 (.slice q.a q.j.ts.length q.c) ?_ ?_
      ·intro wq Aa;have c0:=(((Ba.o _).1 K0.o).1.lies.grown Aa (by simp)).c 17;go_simp
      refine tk 9 (it (q.j.ts.length:Nat)) ?_ ?_
      ·intro wq Aa;go_simp
      refine tk 10 (.bool false) ?_ ?_
      ·intro wq Aa;go_simp;omega
      refine tk 11 (.bool false) ?_ ?_
      ·intro wq Aa;go_simp
      refine bg ?_;go_simp;(go_wp2_with fail);refine cH Ha none (by kernel_rfl) fun hHeld=>?_;have K2:=Hd (Ia.o _ _ K1.o (m5 _ _).drew);generalize Ha.drew=Va at *;refine tk 0 (.pointer (some ⟨q.b,0,none⟩)) ?_ ?_
      ·intro wq Aa;go_simp
      refine tk 1 (.pointer (some ⟨q.b,0,none⟩)) ?_ ?_
      ·intro wq Aa;go_simp
      refine tk 2 (.pointer (some ⟨q.b,17,none⟩)) ?_ ?_
      ·intro wq Aa;go_simp
      refine tk 3 (.slice (some ⟨g,0,none⟩) q.j.ts.length q.c) ?_ ?_
      ·intro wq Aa;have c0:=(((Ba.o _).1 K1.o).1.lies.grown Aa (by simp)).c 17;rw[Fa.o]at c0;go_simp
      refine tk 4 (.pointer (some ⟨w.heap.size,2,none⟩)) ?_ ?_
      ·intro wq Aa;go_simp
      refine tk 5 (it (pn:Nat)) ?_ ?_
      ·intro wq Aa;have c0:=(((Ba.o _).1 K1.o).2.1.grown Aa (by simp)).c 2;go_simp
      refine tk 6 (.pointer (some ⟨g,pn*3,none⟩)) ?_ ?_
      ·intro wq Aa;go_simp
      refine tk 7 (.pointer (some ⟨g,pn*3+1,none⟩)) ?_ ?_
      ·intro wq Aa;go_simp
      refine tk 8 (it wk) ?_ ?_
      ·intro wq Aa;have c0:=Aa.cell (Gb.o Ha ((Ba.o _).1 K1.o).1) (by simp);go_simp
      refine tk 9 (.pointer (some ⟨w.heap.size,0,none⟩)) ?_ ?_
      ·intro wq Aa;go_simp
      refine tk 10 (it who) ?_ ?_
      ·intro wq Aa;have c0:=(((Ba.o _).1 K1.o).2.1.grown Aa (by simp)).c 0;go_simp
      refine tk 11 (.bool false) ?_ ?_
      ·intro wq Aa;go_simp
      refine bg ?_;go_simp;(go_wp2_with fail);refine cH Va none (by kernel_rfl) fun hHeld=>?_;have K3:=Hd (Ia.o _ _ K2.o (m5 _ _).drew);generalize Va.drew=Lc at *;refine tk 0 (.pointer (some ⟨q.b,0,none⟩)) ?_ ?_
      ·intro wq Aa;go_simp
      refine tk 1 (.pointer (some ⟨w.heap.size,2,none⟩)) ?_ ?_
      ·intro wq Aa;go_simp
      refine tk 2 (it (pn:Nat)) ?_ ?_
      ·intro wq Aa;have c0:=(((Ba.o _).1 K2.o).2.1.grown Aa (by simp)).c 2;go_simp
      refine tk 4 (.pointer (some ⟨w.heap.size,3,none⟩)) ?_ ?_
      ·intro wq Aa;go_simp
      refine wpAnyH_take (i:=5) (v:=.agg ((bi p1 p2 p3 p4 a1 n1 c1 a2 n2 c2 a3 n3 c3 a4 n4 c4):List Value).toArray) rfl (by kernel_rfl) (by kernel_rfl) (by kernel_rfl) (fun _ _ _ h=>h) (uZ (by kernel_rfl) 35 (.tmp 50) (by kernel_rfl) w.heap.size 3 (by kernel_rfl) ((bi p1 p2 p3 p4 a1 n1 c1 a2 n2 c2 a3 n3 c3 a4 n4 c4):List Value) _ (fun W hW=>au.mid (((Ba.o _).1 K2.o).2.1.grown hW (by simp)) 3 8) underlying35 rfl (by kernel_rfl)) (by assumption) ?_;refine aX 3 fun Kk hK=>?_;go_simp;refine(Vb.o Lc ((Ba.o _).1 K3.o).1).mono ?_;rintro e Kb ⟨rfl,hb⟩;go_simp;have Lb:=aH hHeld hb;have K4:=Hd (Ia.o _ _ K3.o hb);refine hK.out _ _ Lb (fun hzz=>?_);refine aX 6 fun Kk hK=>?_;go_simp;refine(Wb.o Kb ((Ba.o _).1 K4.o).2.2.1 ((Ba.o _).1 K4.o).2.2.2.1 ((Ba.o _).1 K4.o).2.2.2.2.1 ((Ba.o _).1 K4.o).2.2.2.2.2.1 ((Ba.o _).1 K4.o).2.2.2.2.2.2.1).mono ?_;rintro e Ca ⟨rfl,hb⟩;go_simp;have Xb:=aH Lb hb;have K5:=Hd (Ia.o _ _ K4.o hb);refine hK.out _ _ Xb (fun hzz=>?_);refine tk 7 (.bool (!og)) ?_ ?_
      ·intro wq Aa;go_simp
      refine bg ?_;go_simp
      cases og with
      | false=>
       have hO:=((Ba.o _).1 K5.o).1.owns;rw[Fa.o]at hO;have La:pn<q.j.ts.length:=(by omega);have Ya:=((Ba.o _).1 K5.o).1.lies.c 17;rw[Fa.o]at Ya;have t2:=((Ba.o _).1 K5.o).2.1.c 2;have y0:=hO.cells La (j:=0) (by omega);have Za:=hO.2.frozenAt (pn*3+0);have y1:=hO.cells La (j:=1) (by omega);have Nb:=hO.2.frozenAt (pn*3+1);have y2:=hO.cells La (j:=2) (by omega);have Ob:=hO.2.frozenAt (pn*3+2);rw[Nat.add_zero]at y0 Za;generalize q.j.ts.getD pn M.t0=zz at y0 y1 y2;obtain⟨u1,u2,u3⟩:=zz;simp only[d7,List.getElem?_cons_zero,List.getElem?_cons_succ]at y0 y1 y2;obtain⟨Ab,Ja⟩:=hO.put La M.t0;have Cb:g∈ob q.a:=(by rw[Fa.o];simp[ob]);have HF:H9 (bA (Ca.setCells g (pn*3) (d7 M.t0)).drew i' h now uN ab nb cb bs ai ni ci mb (qs.set i ⟨{q.j with ts:=q.j.ts.set pn M.t0},q.b,q.a,q.c⟩) i ⟨{q.j with ts:=q.j.ts.set pn M.t0},q.b,q.a,q.c⟩):=(((Ba.o _).1 K5.o).1.tasks (n:=0) (c:=0) (ts:=q.j.ts.set pn M.t0) (by rw[List.length_set]) (by rw[Fa.o];exact Ja) (by rw[List.length_set,Fa.o];exact Ab)).below (m5 _ _).drew;have Pb:=Hd ((((Ba.o _).1 K5.o).2.2.2.2.2.2.2.2.trans (ap Ja ((Ba.o _).1 K5.o).2.2.2.2.2.2.2.1 (fun z e=>by rw[←m2 e];exact(((Ba.o _).1 K5.o).1.apart.1 g Cb).1))).drew);have Qb:i'≤(Ca.setCells g (pn*3) (d7 M.t0)).drew.heap.size:=m9 ((Ba.o _).1 K5.o).2.2.2.2.2.2.2.1 Ja.size;have Nc:=Hd ((((Ba.o _).1 K5.o).2.1.grown Ja (fun e=>Kc.o Ca ((Ba.o _).1 K5.o).1 (by rw[←m2 e];exact Cb))).belowS (m5 _ _).drew);(go_wp2_with fail);apply fi
       case f=>
        intro key
        go_region_law (fail)
        all_goals exact key.out
       case h=>
        show Exit.then _ _ _ _ (Ca.setCells g (pn*3) (d7 M.t0)).drew;generalize(Ca.setCells g (pn*3) (d7 M.t0)).drew=w9 at *;have t0:=Nc.c 0;(go_wp2_with fail);refine(tP who w9 HF.o.1 Jb.o.1 Jb.o.2.1 Jb.o.2.2 Qb).mono ?_;rintro e wx ⟨rfl,Qc,Rc,hH,hB⟩;have Oc:=Hd hH;have Db:=Hd (Pb.o.trans hB);go_wp2;exact m8 (v:=.tuple #[it 7,it 0]) (by simp[results,results47,go_sem]) rfl ⟨rfl,⟨_,_,_,_,_,_,_,_,Oc.o,(by show _=M.setT _ _ _ _;rw[List.map_set];unfold M.setT;rw[Xa.o])⟩,Db.o⟩
      | true=>
       have hO:=((Ba.o _).1 K5.o).1.owns;rw[Fa.o]at hO;have La:pn<q.j.ts.length:=(by omega);have Ya:=((Ba.o _).1 K5.o).1.lies.c 17;rw[Fa.o]at Ya;have t2:=((Ba.o _).1 K5.o).2.1.c 2;have y0:=hO.cells La (j:=0) (by omega);have Za:=hO.2.frozenAt (pn*3+0);have y1:=hO.cells La (j:=1) (by omega);have Nb:=hO.2.frozenAt (pn*3+1);have y2:=hO.cells La (j:=2) (by omega);have Ob:=hO.2.frozenAt (pn*3+2);rw[Nat.add_zero]at y0 Za;generalize q.j.ts.getD pn M.t0=zz at y0 y1 y2;obtain⟨u1,u2,u3⟩:=zz;simp only[d7,List.getElem?_cons_zero,List.getElem?_cons_succ]at y0 y1 y2;obtain⟨Ab,Ja⟩:=hO.put La ⟨true,0,0⟩;have Cb:g∈ob q.a:=(by rw[Fa.o];simp[ob]);have HF:H9 (bA (Ca.setCells g (pn*3) (d7 ⟨true,0,0⟩)).drew i' h now uN ab nb cb bs ai ni ci mb (qs.set i ⟨{q.j with ts:=q.j.ts.set pn ⟨true,0,0⟩},q.b,q.a,q.c⟩) i ⟨{q.j with ts:=q.j.ts.set pn ⟨true,0,0⟩},q.b,q.a,q.c⟩):=(((Ba.o _).1 K5.o).1.tasks (n:=0) (c:=0) (ts:=q.j.ts.set pn ⟨true,0,0⟩) (by rw[List.length_set]) (by rw[Fa.o];exact Ja) (by rw[List.length_set,Fa.o];exact Ab)).below (m5 _ _).drew;have Pb:=Hd ((((Ba.o _).1 K5.o).2.2.2.2.2.2.2.2.trans (ap Ja ((Ba.o _).1 K5.o).2.2.2.2.2.2.2.1 (fun z e=>by rw[←m2 e];exact(((Ba.o _).1 K5.o).1.apart.1 g Cb).1))).drew);have Qb:i'≤(Ca.setCells g (pn*3) (d7 ⟨true,0,0⟩)).drew.heap.size:=m9 ((Ba.o _).1 K5.o).2.2.2.2.2.2.2.1 Ja.size;(go_wp2_with fail);apply fi
       case f=>
        intro key
        go_region_law (fail)
        all_goals exact key.out
       case h=>
        show Exit.then _ _ _ _ (Ca.setCells g (pn*3) (d7 ⟨true,0,0⟩)).drew;generalize(Ca.setCells g (pn*3) (d7 ⟨true,0,0⟩)).drew=w9 at *;have C9:=fZ w9 (HF.o.lies.at 17) HF.o.owns.sees;dsimp only at C9;rw[Jc.o]at C9;(go_wp2_with fail);refine C9.mono ?_;rintro e wx ⟨rfl,hb⟩;have Yb:H9 (bj wx i' h now uN ab nb cb bs ai ni ci mb (qs.set i ⟨{q.j with ts:=q.j.ts.set pn ⟨true,0,0⟩},q.b,q.a,q.c⟩)):=HF.o.1.below hb;have Db:=Hd (Pb.o.trans (hb.mono Qb))
        cases od with
        | true=>
         go_wp2;exact m8 (v:=.tuple #[it 0,it 1]) (by simp[results,results47,go_sem]) rfl ⟨rfl,⟨_,_,_,_,_,_,_,_,Yb.o,(by show _=M.setT _ _ _ _;rw[List.map_set];unfold M.setT;rw[Xa.o])⟩,Db.o⟩
        | false=>
         go_wp2;exact m8 (v:=.tuple #[it 0,it 0]) (by simp[results,results47,go_sem]) rfl ⟨rfl,⟨_,_,_,_,_,_,_,_,Yb.o,(by show _=M.setT _ _ _ _;rw[List.map_set];unfold M.setT;rw[Xa.o])⟩,Db.o⟩
theorem gv(n1 n2 n3 n4:Nat):decide (n1+n2+n3+n4=0)=(decide (n1=0)&&(decide (n2=0)&&(decide (n3=0)&&decide (n4=0)))):=by
 rw[Bool.eq_iff_iff];simp only[vl,decide_eq_true_eq];omega
theorem pt.post{w w':World}{r:M.Mt×Int×Int}{e:Ending}(h:pt w r e w'):bD w w.heap.size r e w':=by
 obtain⟨v,Aa,h1,rfl,ab,nb,cb,aj,nj,cj,qm,rfl,hM,hj,hb⟩:=h;exact⟨_,rfl,_,_,_,_,_,_,_,rfl,hM.mono h1,hj,hb⟩
theorem dM{t' id s' l' tr m0 J L T Y U Z m7 Q V A I t1 t2 p1 p2 p3 p4:Int}(hok:M.mkOk now uN bs js=true)(F:Bool)(R:M.Mt×Int×Int)
 (hF:M.formB t' id s' l' tr (bV m0 J L T Y U Z m7 Q V A I&&(decide (t1=0)&&decide (t2=0))) (M.Mc.ok ⟨⟨m0,J,L,T,Y,U⟩,⟨Z,m7,Q,V,A,I⟩⟩) (M.sOk (t1,t2)) (M.rows s') (M.inB tr 1 8) (bM p1 p2 p3 p4 n1 n2 n3 n4) (M.inB l' 1 9) (M.inB id 1 1000000000) (M.inB s' 0 7) (M.inB tr 1 1000000000)=F)(hR:M.act (cn s' ⟨(p1,p2),(p3,p4),z1,z2,z3,z4⟩) ⟨now,uN,bs,js⟩ t' id s' l' tr ⟨⟨m0,J,L,T,Y,U⟩,⟨Z,m7,Q,V,A,I⟩⟩ (t1,t2)=R):
  (F=false→ba now uN bs js t' id s' l' tr m0 J L T Y U Z m7 Q V A I t1 t2 p1 p2 p3 p4 n1 n2 n3 n4 z1 z2 z3 z4=(⟨now,uN,bs,js⟩,2,0))∧(F=true→ba now uN bs js t' id s' l' tr m0 J L T Y U Z m7 Q V A I t1 t2 p1 p2 p3 p4 n1 n2 n3 n4 z1 z2 z3 z4=R):=by
 have h0:¬ (M.Mt.ok ⟨now,uN,bs,js⟩=false):=(by show ¬ (M.mkOk now uN bs js=false);rw[hok];simp);unfold ba M.acted;rw[if_neg h0,hF,hR];exact⟨fun h=>by rw[if_pos h],fun h=>by rw[h];rfl⟩
set_option maxRecDepth 10000 in
theorem gO(now uN:Int)(id s' l' tr m0 J L T Y U Z m7 Q V A I t1 t2 p1 p2 p3 p4:Int)(w:World)(hz:co w ab nb cb aj nj cj bs js)(l1:n1≤1048576)(l2:n2≤1048576)(l3:n3≤1048576)(l4:n4≤1048576)(hok:M.mkOk now uN bs js=true):
  Calls prog 6 #[.agg (aI now uN ab nb cb aj nj cj).toArray,.agg (bH 1 id s' l' tr m0 J L T Y U Z m7 Q V A I t1 t2 p1 p2 p3 p4 a1 n1 c1 a2 n2 c2 a3 n3 c3 a4 n4 c4).toArray] w (bD w w.heap.size (ba now uN bs js 1 id s' l' tr m0 J L T Y U Z m7 Q V A I t1 t2 p1 p2 p3 p4 n1 n2 n3 n4 z1 z2 z3 z4)):=by
 have Aa:=bQ hok
 have HF:((M.Mc.ok ⟨⟨m0,J,L,T,Y,U⟩,⟨Z,m7,Q,V,A,I⟩⟩&&(M.sOk (t1,t2)&&(M.rows s'&&M.inB tr 1 8)))&&(decide (id=0)&&(decide ((0:Int)=0)&&(decide (l'=0)&&(decide ((0:Int)=0)&&(bV 0 0 0 0 0 0 0 0 0 0 0 0&&((decide ((0:Int)=0)&&decide ((0:Int)=0))&&((decide (p1=0)&&decide (p2=0))&&((decide (p3=0)&&decide (p4=0))&&(decide (n1=0)&&(decide (n2=0)&&(decide (n3=0)&&decide (n4=0)))))))))))))=true→M.Mc.ok ⟨⟨m0,J,L,T,Y,U⟩,⟨Z,m7,Q,V,A,I⟩⟩=true∧M.sOk (t1,t2)=true∧M.rows s'=true∧(1≤tr∧tr≤8):=by
  intro h;rw[vl]at h;have h:=h.1;simp only[vl,M.inB,decide_eq_true_eq]at h;exact h
 have hS:=dM (n1:=n1) (n2:=n2) (n3:=n3) (n4:=n4) (z1:=z1) (z2:=z2) (z3:=z3) (z4:=z4) (t':=1) (id:=id) (s':=s') (l':=l') (tr:=tr) (m0:=m0) (J:=J) (L:=L) (T:=T) (Y:=Y) (U:=U) (Z:=Z) (m7:=m7) (Q:=Q) (V:=V) (A:=A) (I:=I) (t1:=t1) (t2:=t2) (p1:=p1) (p2:=p2) (p3:=p3) (p4:=p4) hok ((M.Mc.ok ⟨⟨m0,J,L,T,Y,U⟩,⟨Z,m7,Q,V,A,I⟩⟩&&(M.sOk (t1,t2)&&(M.rows s'&&M.inB tr 1 8)))&&(decide (id=0)&&(decide ((0:Int)=0)&&(decide (l'=0)&&(decide ((0:Int)=0)&&(bV 0 0 0 0 0 0 0 0 0 0 0 0&&((decide ((0:Int)=0)&&decide ((0:Int)=0))&&((decide (p1=0)&&decide (p2=0))&&((decide (p3=0)&&decide (p4=0))&&(decide (n1=0)&&(decide (n2=0)&&(decide (n3=0)&&decide (n4=0))))))))))))) (M.submit ⟨now,uN,bs,js⟩ ⟨⟨m0,J,L,T,Y,U⟩,⟨Z,m7,Q,V,A,I⟩⟩ (t1,t2) s' tr)
  (by
   show(M.Mc.ok ⟨⟨m0,J,L,T,Y,U⟩,⟨Z,m7,Q,V,A,I⟩⟩&&(M.sOk (t1,t2)&&(M.rows s'&&(M.inB tr 1 8&&(decide (id=0)&&(decide (l'=0)&&bM p1 p2 p3 p4 n1 n2 n3 n4))))))=_;unfold bM;rw[gv];rw[show bV 0 0 0 0 0 0 0 0 0 0 0 0=true from rfl];rw[decide_eq_true (rfl:(0:Int)=0)];simp only[Bool.true_and,Bool.and_true]
   ac_rfl)
  rfl
 generalize ba now uN bs js 1 id s' l' tr m0 J L T Y U Z m7 Q V A I t1 t2 p1 p2 p3 p4 n1 n2 n3 n4 z1 z2 z3 z4=r at *
 refine(cB now uN 1 id s' l' tr m0 J L T Y U Z m7 Q V A I t1 t2 p1 p2 p3 p4 w hz hok (.iface 94 (.agg (eK m0 J L T Y U Z m7 Q V A I t1 t2 s' tr).toArray)) ((M.Mc.ok ⟨⟨m0,J,L,T,Y,U⟩,⟨Z,m7,Q,V,A,I⟩⟩&&(M.sOk (t1,t2)&&(M.rows s'&&M.inB tr 1 8)))&&(decide (id=0)&&(decide ((0:Int)=0)&&(decide (l'=0)&&(decide ((0:Int)=0)&&(bV 0 0 0 0 0 0 0 0 0 0 0 0&&((decide ((0:Int)=0)&&decide ((0:Int)=0))&&((decide (p1=0)&&decide (p2=0))&&((decide (p3=0)&&decide (p4=0))&&(decide (n1=0)&&(decide (n2=0)&&(decide (n3=0)&&decide (n4=0)))))))))))))
  (fun W=>jF id s' l' tr m0 J L T Y U Z m7 Q V A I t1 t2 p1 p2 p3 p4 _ (fun W2=>@eD 1 id 0 l' 0 0 0 0 0 0 0 0 0 0 0 0 0 0 0 p1 p2 p3 p4 a1 a2 a3 a4 n1 n2 n3 n4 c1 c2 c3 c4 l1 l2 l3 l4 W2) W) (M.submit ⟨now,uN,bs,js⟩ ⟨⟨m0,J,L,T,Y,U⟩,⟨Z,m7,Q,V,A,I⟩⟩ (t1,t2) s' tr).1.now (M.submit ⟨now,uN,bs,js⟩ ⟨⟨m0,J,L,T,Y,U⟩,⟨Z,m7,Q,V,A,I⟩⟩ (t1,t2) s' tr).1.next (M.submit ⟨now,uN,bs,js⟩ ⟨⟨m0,J,L,T,Y,U⟩,⟨Z,m7,Q,V,A,I⟩⟩ (t1,t2) s' tr).1.bs (M.submit ⟨now,uN,bs,js⟩ ⟨⟨m0,J,L,T,Y,U⟩,⟨Z,m7,Q,V,A,I⟩⟩ (t1,t2) s' tr).1.js (M.submit ⟨now,uN,bs,js⟩ ⟨⟨m0,J,L,T,Y,U⟩,⟨Z,m7,Q,V,A,I⟩⟩ (t1,t2) s' tr).2.1 (M.submit ⟨now,uN,bs,js⟩ ⟨⟨m0,J,L,T,Y,U⟩,⟨Z,m7,Q,V,A,I⟩⟩ (t1,t2) s' tr).2.2 (fun hof W i' h ab nb cb ai ni ci mb qs H hjs hb hbl=>by
   subst hjs;exact i4 m0 J L T Y U Z m7 Q V A I t1 t2 s' tr W H _ (fun W2 H2 hb2 hbl2=>rr m0 J L T Y U Z m7 Q V A I t1 t2 s' tr W2 H2 Aa (HF hof).2.2.2.1 (HF hof).2.2.2.2 hb2) hb) (fun hof=>by
   obtain⟨hm,hs,hr,h8⟩:=HF hof;exact M.submit_right (m:=⟨now,uN,bs,js⟩) Aa hm hs hr h8.1 h8.2) r hS).mono (fun e w' h=>h.post)
set_option maxRecDepth 10000 in
theorem iq(now uN:Int)(id s' l' tr m0 J L T Y U Z m7 Q V A I t1 t2 p1 p2 p3 p4:Int)(w:World)(hz:co w ab nb cb aj nj cj bs js)(l1:n1≤1048576)(l2:n2≤1048576)(l3:n3≤1048576)(l4:n4≤1048576)(hok:M.mkOk now uN bs js=true):
  Calls prog 6 #[.agg (aI now uN ab nb cb aj nj cj).toArray,.agg (bH 2 id s' l' tr m0 J L T Y U Z m7 Q V A I t1 t2 p1 p2 p3 p4 a1 n1 c1 a2 n2 c2 a3 n3 c3 a4 n4 c4).toArray] w (bD w w.heap.size (ba now uN bs js 2 id s' l' tr m0 J L T Y U Z m7 Q V A I t1 t2 p1 p2 p3 p4 n1 n2 n3 n4 z1 z2 z3 z4)):=by
 have Aa:=bQ hok
 have HF:(M.wkOk l'&&(decide (id=0)&&(decide (s'=0)&&(decide ((0:Int)=0)&&(decide (tr=0)&&(bV m0 J L T Y U Z m7 Q V A I&&((decide (t1=0)&&decide (t2=0))&&((decide (p1=0)&&decide (p2=0))&&((decide (p3=0)&&decide (p4=0))&&(decide (n1=0)&&(decide (n2=0)&&(decide (n3=0)&&decide (n4=0)))))))))))))=true→M.wkOk l'=true:=by
  intro h;rw[vl]at h;have h:=h.1;exact h
 have hS:=dM (n1:=n1) (n2:=n2) (n3:=n3) (n4:=n4) (z1:=z1) (z2:=z2) (z3:=z3) (z4:=z4) (t':=2) (id:=id) (s':=s') (l':=l') (tr:=tr) (m0:=m0) (J:=J) (L:=L) (T:=T) (Y:=Y) (U:=U) (Z:=Z) (m7:=m7) (Q:=Q) (V:=V) (A:=A) (I:=I) (t1:=t1) (t2:=t2) (p1:=p1) (p2:=p2) (p3:=p3) (p4:=p4) hok (M.wkOk l'&&(decide (id=0)&&(decide (s'=0)&&(decide ((0:Int)=0)&&(decide (tr=0)&&(bV m0 J L T Y U Z m7 Q V A I&&((decide (t1=0)&&decide (t2=0))&&((decide (p1=0)&&decide (p2=0))&&((decide (p3=0)&&decide (p4=0))&&(decide (n1=0)&&(decide (n2=0)&&(decide (n3=0)&&decide (n4=0))))))))))))) (M.lease ⟨now,uN,bs,js⟩ l')
  (by
   show((bV m0 J L T Y U Z m7 Q V A I&&(decide (t1=0)&&decide (t2=0)))&&(M.wkOk l'&&(decide (id=0)&&(decide (s'=0)&&(decide (tr=0)&&bM p1 p2 p3 p4 n1 n2 n3 n4)))))=_;unfold bM;rw[gv];rw[decide_eq_true (rfl:(0:Int)=0)];simp only[Bool.true_and]
   ac_rfl)
  rfl
 generalize ba now uN bs js 2 id s' l' tr m0 J L T Y U Z m7 Q V A I t1 t2 p1 p2 p3 p4 n1 n2 n3 n4 z1 z2 z3 z4=r at *
 refine(cB now uN 2 id s' l' tr m0 J L T Y U Z m7 Q V A I t1 t2 p1 p2 p3 p4 w hz hok (.iface 96 (.agg #[it l'])) (M.wkOk l'&&(decide (id=0)&&(decide (s'=0)&&(decide ((0:Int)=0)&&(decide (tr=0)&&(bV m0 J L T Y U Z m7 Q V A I&&((decide (t1=0)&&decide (t2=0))&&((decide (p1=0)&&decide (p2=0))&&((decide (p3=0)&&decide (p4=0))&&(decide (n1=0)&&(decide (n2=0)&&(decide (n3=0)&&decide (n4=0)))))))))))))
  (fun W=>j6 id s' l' tr m0 J L T Y U Z m7 Q V A I t1 t2 p1 p2 p3 p4 _ (fun W2=>@eD 2 id s' 0 tr m0 J L T Y U Z m7 Q V A I t1 t2 p1 p2 p3 p4 a1 a2 a3 a4 n1 n2 n3 n4 c1 c2 c3 c4 l1 l2 l3 l4 W2) W) (M.lease ⟨now,uN,bs,js⟩ l').1.now (M.lease ⟨now,uN,bs,js⟩ l').1.next (M.lease ⟨now,uN,bs,js⟩ l').1.bs (M.lease ⟨now,uN,bs,js⟩ l').1.js (M.lease ⟨now,uN,bs,js⟩ l').2.1 (M.lease ⟨now,uN,bs,js⟩ l').2.2 (fun hof W i' h ab nb cb ai ni ci mb qs H hjs hb hbl=>by
   subst hjs;exact jG l' W H _ (fun W2 H2 hb2 hbl2=>sr l' W2 H2 Aa hb2) hb) (fun hof=>M.lease_right (m:=⟨now,uN,bs,js⟩) Aa (HF hof)) r hS).mono (fun e w' h=>h.post)
set_option maxRecDepth 10000 in
theorem gM(now uN:Int)(id s' l' tr m0 J L T Y U Z m7 Q V A I t1 t2 p1 p2 p3 p4:Int)(w:World)(hz:co w ab nb cb aj nj cj bs js)(he:EnvX w aL aN aG aE aR)(h1:aw w a1 n1 c1 z1)(h2:aw w a2 n2 c2 z2)(h3:aw w a3 n3 c3 z3)(h4:aw w a4 n4 c4 z4)(hok:M.mkOk now uN bs js=true):
  Calls prog 6 #[.agg (aI now uN ab nb cb aj nj cj).toArray,.agg (bH 3 id s' l' tr m0 J L T Y U Z m7 Q V A I t1 t2 p1 p2 p3 p4 a1 n1 c1 a2 n2 c2 a3 n3 c3 a4 n4 c4).toArray] w (bD w w.heap.size (ba now uN bs js 3 id s' l' tr m0 J L T Y U Z m7 Q V A I t1 t2 p1 p2 p3 p4 n1 n2 n3 n4 z1 z2 z3 z4)):=by
 have Ba:=bQ hok
 have HF:((M.wkOk l'&&(M.inB id 1 1000000000&&M.inB s' 0 7))&&(decide ((0:Int)=0)&&(decide ((0:Int)=0)&&(decide ((0:Int)=0)&&(decide (tr=0)&&(bV m0 J L T Y U Z m7 Q V A I&&((decide (t1=0)&&decide (t2=0))&&((decide ((0:Int)=0)&&decide ((0:Int)=0))&&((decide ((0:Int)=0)&&decide ((0:Int)=0))&&(decide ((0:Nat)=0)&&(decide ((0:Nat)=0)&&(decide ((0:Nat)=0)&&decide ((0:Nat)=0)))))))))))))=true→M.wkOk l'=true∧(1≤id∧id≤1000000000)∧0≤s'∧s'≤7:=by
  intro h;rw[vl]at h;have h:=h.1;simp only[vl,M.inB,decide_eq_true_eq]at h;exact⟨h.1,h.2.1,h.2.2⟩
 have hS:=dM (n1:=n1) (n2:=n2) (n3:=n3) (n4:=n4) (z1:=z1) (z2:=z2) (z3:=z3) (z4:=z4) (t':=3) (id:=id) (s':=s') (l':=l') (tr:=tr) (m0:=m0) (J:=J) (L:=L) (T:=T) (Y:=Y) (U:=U) (Z:=Z) (m7:=m7) (Q:=Q) (V:=V) (A:=A) (I:=I) (t1:=t1) (t2:=t2) (p1:=p1) (p2:=p2) (p3:=p3) (p4:=p4) hok ((M.wkOk l'&&(M.inB id 1 1000000000&&M.inB s' 0 7))&&(decide ((0:Int)=0)&&(decide ((0:Int)=0)&&(decide ((0:Int)=0)&&(decide (tr=0)&&(bV m0 J L T Y U Z m7 Q V A I&&((decide (t1=0)&&decide (t2=0))&&((decide ((0:Int)=0)&&decide ((0:Int)=0))&&((decide ((0:Int)=0)&&decide ((0:Int)=0))&&(decide ((0:Nat)=0)&&(decide ((0:Nat)=0)&&(decide ((0:Nat)=0)&&decide ((0:Nat)=0))))))))))))) (M.back (cn s' ⟨(p1,p2),(p3,p4),z1,z2,z3,z4⟩) ⟨now,uN,bs,js⟩ l' id s')
  (by
   show((bV m0 J L T Y U Z m7 Q V A I&&(decide (t1=0)&&decide (t2=0)))&&(M.wkOk l'&&(M.inB id 1 1000000000&&(M.inB s' 0 7&&decide (tr=0)))))=_;rw[decide_eq_true (rfl:(0:Nat)=0)];rw[decide_eq_true (rfl:(0:Int)=0)];simp only[Bool.true_and,Bool.and_true]
   ac_rfl)
  rfl
 generalize ba now uN bs js 3 id s' l' tr m0 J L T Y U Z m7 Q V A I t1 t2 p1 p2 p3 p4 n1 n2 n3 n4 z1 z2 z3 z4=r at *
 refine(cB now uN 3 id s' l' tr m0 J L T Y U Z m7 Q V A I t1 t2 p1 p2 p3 p4 w hz hok (.iface 98 (.agg (df l' id s' p1 p2 p3 p4 a1 n1 c1 a2 n2 c2 a3 n3 c3 a4 n4 c4).toArray)) ((M.wkOk l'&&(M.inB id 1 1000000000&&M.inB s' 0 7))&&(decide ((0:Int)=0)&&(decide ((0:Int)=0)&&(decide ((0:Int)=0)&&(decide (tr=0)&&(bV m0 J L T Y U Z m7 Q V A I&&((decide (t1=0)&&decide (t2=0))&&((decide ((0:Int)=0)&&decide ((0:Int)=0))&&((decide ((0:Int)=0)&&decide ((0:Int)=0))&&(decide ((0:Nat)=0)&&(decide ((0:Nat)=0)&&(decide ((0:Nat)=0)&&decide ((0:Nat)=0)))))))))))))
  (fun W=>jE id s' l' tr m0 J L T Y U Z m7 Q V A I t1 t2 p1 p2 p3 p4 _ (fun W2=>@eD 3 0 0 0 tr m0 J L T Y U Z m7 Q V A I t1 t2 0 0 0 0 none none none none 0 0 0 0 0 0 0 0 (Nat.zero_le _) (Nat.zero_le _) (Nat.zero_le _) (Nat.zero_le _) W2) W) (M.back (cn s' ⟨(p1,p2),(p3,p4),z1,z2,z3,z4⟩) ⟨now,uN,bs,js⟩ l' id s').1.now (M.back (cn s' ⟨(p1,p2),(p3,p4),z1,z2,z3,z4⟩) ⟨now,uN,bs,js⟩ l' id s').1.next (M.back (cn s' ⟨(p1,p2),(p3,p4),z1,z2,z3,z4⟩) ⟨now,uN,bs,js⟩ l' id s').1.bs (M.back (cn s' ⟨(p1,p2),(p3,p4),z1,z2,z3,z4⟩) ⟨now,uN,bs,js⟩ l' id s').1.js (M.back (cn s' ⟨(p1,p2),(p3,p4),z1,z2,z3,z4⟩) ⟨now,uN,bs,js⟩ l' id s').2.1 (M.back (cn s' ⟨(p1,p2),(p3,p4),z1,z2,z3,z4⟩) ⟨now,uN,bs,js⟩ l' id s').2.2 (fun hof W i' h ab nb cb ai ni ci mb qs H hjs hb hbl=>by
   subst hjs;exact iZ l' id s' p1 p2 p3 p4 W H _ (fun W2 H2 hb2 hbl2=>by
   have Ca:=Int.toNat_of_nonneg (HF hof).2.2.1;have Aa:=hbl.trans (hbl2.mono hbl.size);have hc:=mY l' id s'.toNat p1 p2 p3 p4 W2 H2 Ba (HF hof).1 (by have:=(HF hof).2.2;omega) hb2 (he.below Aa) (h1.below Aa) (h2.below Aa) (h3.below Aa) (h4.below Aa);rw[Ca]at hc;exact hc) hb) (fun hof=>M.back_right (m:=⟨now,uN,bs,js⟩) Ba (HF hof).1 (HF hof).2.2.1) r hS).mono (fun e w' h=>h.post)
set_option maxRecDepth 10000 in
theorem iK(now uN:Int)(id s' l' tr m0 J L T Y U Z m7 Q V A I t1 t2 p1 p2 p3 p4:Int)(w:World)(hz:co w ab nb cb aj nj cj bs js)(l1:n1≤1048576)(l2:n2≤1048576)(l3:n3≤1048576)(l4:n4≤1048576)(hok:M.mkOk now uN bs js=true):
  Calls prog 6 #[.agg (aI now uN ab nb cb aj nj cj).toArray,.agg (bH 4 id s' l' tr m0 J L T Y U Z m7 Q V A I t1 t2 p1 p2 p3 p4 a1 n1 c1 a2 n2 c2 a3 n3 c3 a4 n4 c4).toArray] w (bD w w.heap.size (ba now uN bs js 4 id s' l' tr m0 J L T Y U Z m7 Q V A I t1 t2 p1 p2 p3 p4 n1 n2 n3 n4 z1 z2 z3 z4)):=by
 have Aa:=bQ hok
 have HF:(M.inB tr 1 1000000000&&(decide (id=0)&&(decide (s'=0)&&(decide (l'=0)&&(decide ((0:Int)=0)&&(bV m0 J L T Y U Z m7 Q V A I&&((decide (t1=0)&&decide (t2=0))&&((decide (p1=0)&&decide (p2=0))&&((decide (p3=0)&&decide (p4=0))&&(decide (n1=0)&&(decide (n2=0)&&(decide (n3=0)&&decide (n4=0)))))))))))))=true→1≤tr∧tr≤1000000000:=by
  intro h;rw[vl]at h;have h:=h.1;simp only[vl,M.inB,decide_eq_true_eq]at h;exact h
 have hS:=dM (n1:=n1) (n2:=n2) (n3:=n3) (n4:=n4) (z1:=z1) (z2:=z2) (z3:=z3) (z4:=z4) (t':=4) (id:=id) (s':=s') (l':=l') (tr:=tr) (m0:=m0) (J:=J) (L:=L) (T:=T) (Y:=Y) (U:=U) (Z:=Z) (m7:=m7) (Q:=Q) (V:=V) (A:=A) (I:=I) (t1:=t1) (t2:=t2) (p1:=p1) (p2:=p2) (p3:=p3) (p4:=p4) hok (M.inB tr 1 1000000000&&(decide (id=0)&&(decide (s'=0)&&(decide (l'=0)&&(decide ((0:Int)=0)&&(bV m0 J L T Y U Z m7 Q V A I&&((decide (t1=0)&&decide (t2=0))&&((decide (p1=0)&&decide (p2=0))&&((decide (p3=0)&&decide (p4=0))&&(decide (n1=0)&&(decide (n2=0)&&(decide (n3=0)&&decide (n4=0))))))))))))) (M.tick ⟨now,uN,bs,js⟩ tr)
  (by
   show((bV m0 J L T Y U Z m7 Q V A I&&(decide (t1=0)&&decide (t2=0)))&&(decide (l'=0)&&(decide (id=0)&&(decide (s'=0)&&(M.inB tr 1 1000000000&&bM p1 p2 p3 p4 n1 n2 n3 n4)))))=_;unfold bM;rw[gv];rw[decide_eq_true (rfl:(0:Int)=0)];simp only[Bool.true_and]
   ac_rfl)
  rfl
 generalize ba now uN bs js 4 id s' l' tr m0 J L T Y U Z m7 Q V A I t1 t2 p1 p2 p3 p4 n1 n2 n3 n4 z1 z2 z3 z4=r at *
 refine(cB now uN 4 id s' l' tr m0 J L T Y U Z m7 Q V A I t1 t2 p1 p2 p3 p4 w hz hok (.iface 100 (.agg #[it tr])) (M.inB tr 1 1000000000&&(decide (id=0)&&(decide (s'=0)&&(decide (l'=0)&&(decide ((0:Int)=0)&&(bV m0 J L T Y U Z m7 Q V A I&&((decide (t1=0)&&decide (t2=0))&&((decide (p1=0)&&decide (p2=0))&&((decide (p3=0)&&decide (p4=0))&&(decide (n1=0)&&(decide (n2=0)&&(decide (n3=0)&&decide (n4=0)))))))))))))
  (fun W=>kI id s' l' tr m0 J L T Y U Z m7 Q V A I t1 t2 p1 p2 p3 p4 _ (fun W2=>@eD 4 id s' l' 0 m0 J L T Y U Z m7 Q V A I t1 t2 p1 p2 p3 p4 a1 a2 a3 a4 n1 n2 n3 n4 c1 c2 c3 c4 l1 l2 l3 l4 W2) W) (M.tick ⟨now,uN,bs,js⟩ tr).1.now (M.tick ⟨now,uN,bs,js⟩ tr).1.next (M.tick ⟨now,uN,bs,js⟩ tr).1.bs (M.tick ⟨now,uN,bs,js⟩ tr).1.js (M.tick ⟨now,uN,bs,js⟩ tr).2.1 (M.tick ⟨now,uN,bs,js⟩ tr).2.2 (fun hof W i' h ab nb cb ai ni ci mb qs H hjs hb hbl=>by
   subst hjs;exact j9 tr W H _ (fun W2 H2 hb2 hbl2=>tm tr W2 H2 Aa (HF hof).1 (HF hof).2 hb2) hb) (fun hof=>M.tick_right (m:=⟨now,uN,bs,js⟩) Aa (HF hof).1) r hS).mono (fun e w' h=>h.post)
set_option maxRecDepth 10000 in
theorem gK(now uN:Int)(id s' l' tr m0 J L T Y U Z m7 Q V A I t1 t2 p1 p2 p3 p4:Int)(w:World)(hz:co w ab nb cb aj nj cj bs js)(l1:n1≤1048576)(l2:n2≤1048576)(l3:n3≤1048576)(l4:n4≤1048576)(hok:M.mkOk now uN bs js=true):
  Calls prog 6 #[.agg (aI now uN ab nb cb aj nj cj).toArray,.agg (bH 5 id s' l' tr m0 J L T Y U Z m7 Q V A I t1 t2 p1 p2 p3 p4 a1 n1 c1 a2 n2 c2 a3 n3 c3 a4 n4 c4).toArray] w (bD w w.heap.size (ba now uN bs js 5 id s' l' tr m0 J L T Y U Z m7 Q V A I t1 t2 p1 p2 p3 p4 n1 n2 n3 n4 z1 z2 z3 z4)):=by
 have Aa:=bQ hok
 have HF:(M.inB id 1 1000000000&&(decide ((0:Int)=0)&&(decide (s'=0)&&(decide (l'=0)&&(decide (tr=0)&&(bV m0 J L T Y U Z m7 Q V A I&&((decide (t1=0)&&decide (t2=0))&&((decide (p1=0)&&decide (p2=0))&&((decide (p3=0)&&decide (p4=0))&&(decide (n1=0)&&(decide (n2=0)&&(decide (n3=0)&&decide (n4=0)))))))))))))=true→1≤id∧id≤1000000000:=by
  intro h;rw[vl]at h;have h:=h.1;simp only[vl,M.inB,decide_eq_true_eq]at h;exact h
 have hS:=dM (n1:=n1) (n2:=n2) (n3:=n3) (n4:=n4) (z1:=z1) (z2:=z2) (z3:=z3) (z4:=z4) (t':=5) (id:=id) (s':=s') (l':=l') (tr:=tr) (m0:=m0) (J:=J) (L:=L) (T:=T) (Y:=Y) (U:=U) (Z:=Z) (m7:=m7) (Q:=Q) (V:=V) (A:=A) (I:=I) (t1:=t1) (t2:=t2) (p1:=p1) (p2:=p2) (p3:=p3) (p4:=p4) hok (M.inB id 1 1000000000&&(decide ((0:Int)=0)&&(decide (s'=0)&&(decide (l'=0)&&(decide (tr=0)&&(bV m0 J L T Y U Z m7 Q V A I&&((decide (t1=0)&&decide (t2=0))&&((decide (p1=0)&&decide (p2=0))&&((decide (p3=0)&&decide (p4=0))&&(decide (n1=0)&&(decide (n2=0)&&(decide (n3=0)&&decide (n4=0))))))))))))) (M.cancel ⟨now,uN,bs,js⟩ id)
  (by
   show((bV m0 J L T Y U Z m7 Q V A I&&(decide (t1=0)&&decide (t2=0)))&&(decide (l'=0)&&(M.inB id 1 1000000000&&(decide (s'=0)&&(decide (tr=0)&&bM p1 p2 p3 p4 n1 n2 n3 n4)))))=_;unfold bM;rw[gv];rw[decide_eq_true (rfl:(0:Int)=0)];simp only[Bool.true_and]
   ac_rfl)
  rfl
 generalize ba now uN bs js 5 id s' l' tr m0 J L T Y U Z m7 Q V A I t1 t2 p1 p2 p3 p4 n1 n2 n3 n4 z1 z2 z3 z4=r at *
 refine(cB now uN 5 id s' l' tr m0 J L T Y U Z m7 Q V A I t1 t2 p1 p2 p3 p4 w hz hok (.iface 102 (.agg #[it id])) (M.inB id 1 1000000000&&(decide ((0:Int)=0)&&(decide (s'=0)&&(decide (l'=0)&&(decide (tr=0)&&(bV m0 J L T Y U Z m7 Q V A I&&((decide (t1=0)&&decide (t2=0))&&((decide (p1=0)&&decide (p2=0))&&((decide (p3=0)&&decide (p4=0))&&(decide (n1=0)&&(decide (n2=0)&&(decide (n3=0)&&decide (n4=0)))))))))))))
  (fun W=>jD id s' l' tr m0 J L T Y U Z m7 Q V A I t1 t2 p1 p2 p3 p4 _ (fun W2=>@eD 5 0 s' l' tr m0 J L T Y U Z m7 Q V A I t1 t2 p1 p2 p3 p4 a1 a2 a3 a4 n1 n2 n3 n4 c1 c2 c3 c4 l1 l2 l3 l4 W2) W) (M.cancel ⟨now,uN,bs,js⟩ id).1.now (M.cancel ⟨now,uN,bs,js⟩ id).1.next (M.cancel ⟨now,uN,bs,js⟩ id).1.bs (M.cancel ⟨now,uN,bs,js⟩ id).1.js (M.cancel ⟨now,uN,bs,js⟩ id).2.1 (M.cancel ⟨now,uN,bs,js⟩ id).2.2 (fun hof W i' h ab nb cb ai ni ci mb qs H hjs hb hbl=>by
   subst hjs;exact iY id W H _ (fun W2 H2 hb2 hbl2=>qr id W2 H2 Aa hb2) hb) (fun hof=>M.cancel_right (m:=⟨now,uN,bs,js⟩) Aa) r hS).mono (fun e w' h=>h.post)
set_option maxRecDepth 10000 in
theorem kQ(now uN:Int)(t' id s' l' tr m0 J L T Y U Z m7 Q V A I t1 t2 p1 p2 p3 p4:Int)(w:World)(hz:co w ab nb cb aj nj cj bs js)(l1:n1≤1048576)(l2:n2≤1048576)(l3:n3≤1048576)(l4:n4≤1048576)(he:EnvX w aL aN aG aE aR)(h1:aw w a1 n1 c1 z1)(h2:aw w a2 n2 c2 z2)(h3:aw w a3 n3 c3 z3)(h4:aw w a4 n4 c4 z4):
  Calls prog 6 #[.agg (aI now uN ab nb cb aj nj cj).toArray,.agg (bH t' id s' l' tr m0 J L T Y U Z m7 Q V A I t1 t2 p1 p2 p3 p4 a1 n1 c1 a2 n2 c2 a3 n3 c3 a4 n4 c4).toArray] w (bD w w.heap.size (ba now uN bs js t' id s' l' tr m0 J L T Y U Z m7 Q V A I t1 t2 p1 p2 p3 p4 n1 n2 n3 n4 z1 z2 z3 z4)):=by
 cases hok:M.mkOk now uN bs js with
 | false=>
  have hS:ba now uN bs js t' id s' l' tr m0 J L T Y U Z m7 Q V A I t1 t2 p1 p2 p3 p4 n1 n2 n3 n4 z1 z2 z3 z4=(M.Mt.zero,1,0):=by
   unfold ba M.acted;rw[if_pos (show M.Mt.ok ⟨now,uN,bs,js⟩=false from hok)]
  rw[hS];refine(jI now uN t' id s' l' tr m0 J L T Y U Z m7 Q V A I t1 t2 p1 p2 p3 p4 w hz hok).mono ?_;rintro e w' ⟨rfl,hb⟩;exact⟨_,rfl,_,_,_,_,_,_,_,rfl,aW.zero _ _,rfl,hb⟩
 | true=>
  by_cases k1:t'=1
  ·subst k1;exact gO now uN id s' l' tr m0 J L T Y U Z m7 Q V A I t1 t2 p1 p2 p3 p4 w hz l1 l2 l3 l4 hok
  by_cases k2:t'=2
  ·subst k2;exact iq now uN id s' l' tr m0 J L T Y U Z m7 Q V A I t1 t2 p1 p2 p3 p4 w hz l1 l2 l3 l4 hok
  by_cases k3:t'=3
  ·subst k3;exact gM now uN id s' l' tr m0 J L T Y U Z m7 Q V A I t1 t2 p1 p2 p3 p4 w hz he h1 h2 h3 h4 hok
  by_cases k4:t'=4
  ·subst k4;exact iK now uN id s' l' tr m0 J L T Y U Z m7 Q V A I t1 t2 p1 p2 p3 p4 w hz l1 l2 l3 l4 hok
  by_cases k5:t'=5
  ·subst k5;exact gK now uN id s' l' tr m0 J L T Y U Z m7 Q V A I t1 t2 p1 p2 p3 p4 w hz l1 l2 l3 l4 hok
  have hS:=dM (n1:=n1) (n2:=n2) (n3:=n3) (n4:=n4) (z1:=z1) (z2:=z2) (z3:=z3) (z4:=z4) (t':=t') (id:=id) (s':=s') (l':=l') (tr:=tr) (m0:=m0) (J:=J) (L:=L) (T:=T) (Y:=Y) (U:=U) (Z:=Z) (m7:=m7) (Q:=Q) (V:=V) (A:=A) (I:=I) (t1:=t1) (t2:=t2) (p1:=p1) (p2:=p2) (p3:=p3) (p4:=p4) hok false _
   (by unfold M.formB;rw[if_neg k1,if_neg k2,if_neg k3,if_neg k4,if_neg k5]) rfl
  generalize ba now uN bs js t' id s' l' tr m0 J L T Y U Z m7 Q V A I t1 t2 p1 p2 p3 p4 n1 n2 n3 n4 z1 z2 z3 z4=r at *;refine(cB now uN t' id s' l' tr m0 J L T Y U Z m7 Q V A I t1 t2 p1 p2 p3 p4 w hz hok .nilIface false (fun W=>qe t' id s' l' tr m0 J L T Y U Z m7 Q V A I t1 t2 p1 p2 p3 p4 (by omega) W) 0 0 [] [] 0 0 (fun h=>by cases h) (fun h=>by cases h) r ⟨hS.1,fun h=>by cases h⟩).mono (fun e w' h=>h.post)
end Go.Proofs.YtobnifjhikoleaaGreatDoor
