import Derived.Test.YtjcjonncaknhnaaGreatDoorPk23
import Derived.Test.YtjcjonncaknhnaaGreatDoorPk34
namespace Go.Proofs.YtjcjonncaknhnaaGreatDoor
open Go.RowKit Go.Proofs.Tryz
set_option linter.unusedSimpArgs false
set_option maxHeartbeats 32000000
def rO(m:M.Mt)(who:Int)(i pn:Nat)(og od:Bool):M.Mt×Int×Int:=
 if og=false then(⟨m.now,m.next,M.banned m.bs who,M.setT m.js i pn M.t0⟩,7,0)else(⟨m.now,m.next,m.bs,M.setT m.js i pn ⟨true,0,0⟩⟩,0,if od then 1 else 0)
set_option maxRecDepth 10000 in
theorem lO{i' h:Nat}{now tj:Int}{ab:Option Addr}{nb cb:Nat}{bs:List Int}{ai:Option Addr}{ni ci:Nat}{mb:Nat}{qs:List HJ}{a1 a2 a3 a4:Option Addr}{n1 n2 n3 n4 c1 c2 c3 c4:Nat}{z1 z2 z3 z4:List Int}{aL aN aG aE aR:Addr}(who id:Int)(pn:Nat)(p1 p2 p3 p4:Int)(w:World)(H:aP w i' h now tj ab nb cb bs ai ni ci mb qs)(HRt:M.Right now tj bs (qs.map (fun q:HJ=>q.j)))(hw:M.wkOk who=true)(hp:pn≤7)(tf:i'≤w.heap.size)(he:EnvX w aL aN aG aE aR)(h1:ah w a1 n1 c1 z1)(h2:ah w a2 n2 c2 z2)(h3:ah w a3 n3 c3 z3)(h4:ah w a4 n4 c4 z4):
  Calls prog 97 #[.pointer (some ⟨h,0,none⟩),.agg (bW who id (pn:Nat) p1 p2 p3 p4 a1 n1 c1 a2 n2 c2 a3 n3 c3 a4 n4 c4).toArray] w (eT w i' h (M.back (cf (pn:Nat) (⟨(p1,p2),(p3,p4),z1,z2,z3,z4⟩:M.Pf)) ⟨now,tj,bs,qs.map (fun q:HJ=>q.j)⟩ who id (pn:Nat))):=by
 have Ga:H9 (Below w.heap.size w (w.alloc (.cells (bW who id (pn:Nat) p1 p2 p3 p4 a1 n1 c1 a2 n2 c2 a3 n3 c3 a4 n4 c4).toArray 161))):=(tv _ _).alloc (tr _) _;have Na:=cz w (bW who id (pn:Nat) p1 p2 p3 p4 a1 n1 c1 a2 n2 c2 a3 n3 c3 a4 n4 c4) 161;have Ea:H9 (aP (w.alloc (.cells (bW who id (pn:Nat) p1 p2 p3 p4 a1 n1 c1 a2 n2 c2 a3 n3 c3 a4 n4 c4).toArray 161)) i' h now tj ab nb cb bs ai ni ci mb qs):=H.below Ga.o;have Ta:H9 (EnvX (w.alloc (.cells (bW who id (pn:Nat) p1 p2 p3 p4 a1 n1 c1 a2 n2 c2 a3 n3 c3 a4 n4 c4).toArray 161)) aL aN aG aE aR):=he.below Ga.o;have S1:H9 (ah (w.alloc (.cells (bW who id (pn:Nat) p1 p2 p3 p4 a1 n1 c1 a2 n2 c2 a3 n3 c3 a4 n4 c4).toArray 161)) a1 n1 c1 z1):=h1.below Ga.o;have S2:H9 (ah (w.alloc (.cells (bW who id (pn:Nat) p1 p2 p3 p4 a1 n1 c1 a2 n2 c2 a3 n3 c3 a4 n4 c4).toArray 161)) a2 n2 c2 z2):=h2.below Ga.o;have S3:H9 (ah (w.alloc (.cells (bW who id (pn:Nat) p1 p2 p3 p4 a1 n1 c1 a2 n2 c2 a3 n3 c3 a4 n4 c4).toArray 161)) a3 n3 c3 z3):=h3.below Ga.o;have S4:H9 (ah (w.alloc (.cells (bW who id (pn:Nat) p1 p2 p3 p4 a1 n1 c1 a2 n2 c2 a3 n3 c3 a4 n4 c4).toArray 161)) a4 n4 c4 z4):=h4.below Ga.o;have Oa:=Hd (Ga.o.mono tf);have Ua:i'≤(w.alloc (.cells (bW who id (pn:Nat) p1 p2 p3 p4 a1 n1 c1 a2 n2 c2 a3 n3 c3 a4 n4 c4).toArray 161)).heap.size:=tB tf Ga.o.size;have t0:(w.alloc (.cells (bW who id (pn:Nat) p1 p2 p3 p4 a1 n1 c1 a2 n2 c2 a3 n3 c3 a4 n4 c4).toArray 161)).cell? ⟨w.heap.size,0,none⟩=some (it who):=Na.o.at 0;have t1:(w.alloc (.cells (bW who id (pn:Nat) p1 p2 p3 p4 a1 n1 c1 a2 n2 c2 a3 n3 c3 a4 n4 c4).toArray 161)).cell? ⟨w.heap.size,1,none⟩=some (it id):=Na.o.at 1;have x4:(w.alloc (.cells (bW who id (pn:Nat) p1 p2 p3 p4 a1 n1 c1 a2 n2 c2 a3 n3 c3 a4 n4 c4).toArray 161)).cell? ⟨h,4,none⟩=some (.map (some mb)):=Ea.o.l.at 4;have CB:=fX who (w.alloc (.cells (bW who id (pn:Nat) p1 p2 p3 p4 a1 n1 c1 a2 n2 c2 a3 n3 c3 a4 n4 c4).toArray 161)) Ea.o;unfold M.back;dsimp only;have Zb:H9 (∀q∈qs,w.heap.size∉ob q.a):=fun q hq e=>by have:=H.lt w.heap.size (by unfold cW;simp only[List.mem_cons,tI];exact .inr (.inr (.inr (.inr (tU.2 ⟨q,hq,by unfold HJ.bl;exact List.mem_cons_of_mem _ e⟩)))));omega
 clear H he h1 h2 h3 h4
 cases hbn:bs.contains who with
 | true=>
  rw[hbn]at CB;rw[if_pos rfl];clear hbn HRt;go_enter func97,ntmps97;(go_wp2_with fail);generalize(w.alloc (.cells (bW who id (pn:Nat) p1 p2 p3 p4 a1 n1 c1 a2 n2 c2 a3 n3 c3 a4 n4 c4).toArray 161))=wa at *;refine CB.mono ?_;rintro e wz ⟨rfl,Da⟩;have Ka:=Da.symm;clear Da;subst Ka;go_wp2;exact tx (v:=.tuple #[it 5,it 0]) (by simp[results,results97,go_sem]) rfl ⟨rfl,⟨_,_,_,_,_,_,_,_,Ea.o,rfl⟩,Oa.o⟩
 | false=>
  rw[hbn]at CB;rw[if_neg (by simp)]
  rcases gw id qs 0 with⟨i,hi,hlk,hat⟩ | ⟨hlk,hat⟩
  case inr=>
   rw[hat,if_pos (by simp)];clear hbn HRt hat;have Rb:(zeroValue 120).run prog (w.alloc (.cells (bW who id (pn:Nat) p1 p2 p3 p4 a1 n1 c1 a2 n2 c2 a3 n3 c3 a4 n4 c4).toArray 161)).drew=.ok (.pointer none) (w.alloc (.cells (bW who id (pn:Nat) p1 p2 p3 p4 a1 n1 c1 a2 n2 c2 a3 n3 c3 a4 n4 c4).toArray 161)).drew:=(by kernel_rfl);have Pa:=(show bN (w.alloc (.cells (bW who id (pn:Nat) p1 p2 p3 p4 a1 n1 c1 a2 n2 c2 a3 n3 c3 a4 n4 c4).toArray 161)).drew mb (qs.map HJ.ent)from Ea.o.m).miss (P:=prog) (t:=111) underlying111 underlying2 id Rb hlk true;simp only[if_true]at Pa;clear Rb hlk;go_enter func97,ntmps97;(go_wp2_with fail);generalize(w.alloc (.cells (bW who id (pn:Nat) p1 p2 p3 p4 a1 n1 c1 a2 n2 c2 a3 n3 c3 a4 n4 c4).toArray 161))=wa at *;refine CB.mono ?_;rintro e wz ⟨rfl,Da⟩;have Ka:=Da.symm;clear Da;subst Ka;(go_wp2_with fail);apply dU
   case f=>
    intro key
    go_region_law (fail)
    all_goals exact key.out
   case h=>
    clear Pa x4 t1 t0 CB;have Sb:H9 (aP wa.drew i' h now tj ab nb cb bs ai ni ci mb qs):=Ea.o.below (tv _ _).drew;have Tb:H9 (Below i' w wa.drew):=Oa.o.drew;generalize wa.drew=wb at *;(go_wp2_with fail);refine cw wb none (by kernel_rfl) fun hHeld=>?_;have Ac:H9 (aP wb.drew i' h now tj ab nb cb bs ai ni ci mb qs):=Sb.o.below (tv _ _).drew;have Bc:H9 (Below i' w wb.drew):=Tb.o.drew;generalize wb.drew=Ha at *;refine tk 0 (.bool false) ?_ ?_
    ·intro wq Aa;go_simp
    refine tk 1 (.bool true) ?_ ?_
    ·intro wq Aa;go_simp
    refine tk 2 (.bool true) ?_ ?_
    ·intro wq Aa;go_simp
    refine sk 3 ?_;refine sk 4 ?_;refine sk 5 ?_;refine sk 6 ?_;refine sk 7 ?_;refine sk 8 ?_;refine sk 9 ?_;refine sk 10 ?_;refine tk 11 (.bool true) ?_ ?_
    ·intro wq Aa;go_simp
    refine bt ?_;go_simp;clear Sb Tb hHeld;go_wp2;exact tx (v:=.tuple #[it 4,it 0]) (by simp[results,results97,go_sem]) rfl ⟨rfl,⟨_,_,_,_,_,_,_,_,Ac.o,rfl⟩,Bc.o⟩
  case inl=>
   rw[Nat.zero_add]at hat;obtain⟨q,hq⟩:∃q,qs.getD i cX=q:=⟨_,rfl⟩;have Eb:=mJ hi hat;rw[hq]at hlk Eb;have HA:H9 (bp (w.alloc (.cells (bW who id (pn:Nat) p1 p2 p3 p4 a1 n1 c1 a2 n2 c2 a3 n3 c3 a4 n4 c4).toArray 161)).drew i' h now tj ab nb cb bs ai ni ci mb qs i q):=⟨Ea.o.below (tv _ _).drew,hi,hq⟩;have Pa:=(show bN (w.alloc (.cells (bW who id (pn:Nat) p1 p2 p3 p4 a1 n1 c1 a2 n2 c2 a3 n3 c3 a4 n4 c4).toArray 161)).drew mb (qs.map HJ.ent)from Ea.o.m).get (P:=prog) (t:=111) underlying111 underlying2 id _ hlk true;simp only[if_true]at Pa;rw[Eb,hat,ub,ub];have Cc:H9 (w.heap.size∉ob q.a):=Zb.o q (by rw[←hq];exact cZ hi);clear Eb hlk;by_cases Fb:(q.j.ts.length:Int)≤((pn:Nat):Int)
   case pos=>
    rw[if_pos (by simp[Fb])];have gl:decide ((q.j.ts.length:Int)≤((pn:Nat):Int))=true:=(by simp[Fb]);have Pc:q.j.ts.length≤pn:=(by omega);clear hbn HRt hat Fb;obtain⟨TB,Ba⟩:∃TB:World→Prop,H9 (∀W,TB W↔(bp W i' h now tj ab nb cb bs ai ni ci mb qs i q∧ae W w.heap.size (bW who id (pn:Nat) p1 p2 p3 p4 a1 n1 c1 a2 n2 c2 a3 n3 c3 a4 n4 c4)∧EnvX W aL aN aG aE aR∧ah W a1 n1 c1 z1∧ah W a2 n2 c2 z2∧ah W a3 n3 c3 z3∧ah W a4 n4 c4 z4∧i'≤W.heap.size∧Below i' w W)):=⟨_,fun _=>Iff.rfl⟩
    have Ia:H9 (∀W W',TB W→Below W.heap.size W W'→TB W'):=fun W W' hK hb=>by
     obtain⟨f0,f1,f2,f3,f4,f5,f6,f7,f8⟩:=(Ba.o W).1 hK;exact(Ba.o W').2 ⟨f0.below hb,f1.belowS hb,f2.below hb,f3.below hb,f4.below hb,f5.below hb,f6.below hb,tB f7 hb.size,f8.trans (hb.mono f7)⟩
    have K0:H9 (TB (w.alloc (.cells (bW who id (pn:Nat) p1 p2 p3 p4 a1 n1 c1 a2 n2 c2 a3 n3 c3 a4 n4 c4).toArray 161)).drew):=(Ba.o _).2 ⟨⟨Ea.o.below (tv _ _).drew,hi,hq⟩,Na.o.belowS (tv _ _).drew,Ta.o.below (tv _ _).drew,S1.o.below (tv _ _).drew,S2.o.below (tv _ _).drew,S3.o.below (tv _ _).drew,S4.o.below (tv _ _).drew,Ua,Oa.o.drew⟩;clear HA;go_enter func97,ntmps97;(go_wp2_with fail);generalize(w.alloc (.cells (bW who id (pn:Nat) p1 p2 p3 p4 a1 n1 c1 a2 n2 c2 a3 n3 c3 a4 n4 c4).toArray 161))=wa at *;refine CB.mono ?_;rintro e wz ⟨rfl,Da⟩;have Ka:=Da.symm;clear Da;subst Ka;(go_wp2_with fail);apply dU
    case f=>
     intro key
     go_region_law (fail)
     all_goals exact key.out
    case h=>
     clear Pa x4 t1 t0 CB Ea Na Ga Ta S1 S2 S3 S4 Oa Ua;generalize wa.drew=wb at *;(go_wp2_with fail);refine cw wb none (by kernel_rfl) fun hHeld=>?_;have K1:H9 (TB wb.drew):=Ia.o _ _ K0.o (tv _ _).drew;generalize wb.drew=Ha at *;refine tk 0 (.bool true) ?_ ?_
     ·intro wq Aa;go_simp
     refine tk 1 (.bool false) ?_ ?_
     ·intro wq Aa;go_simp
     refine tk 2 (.bool false) ?_ ?_
     ·intro wq Aa;go_simp
     refine tk 3 (.pointer (some ⟨w.heap.size,2,none⟩)) ?_ ?_
     ·intro wq Aa;go_simp
     refine tk 4 (it (pn:Nat)) ?_ ?_
     ·intro wq Aa;have c0:wq.cell? ⟨w.heap.size,2,none⟩=some (it (pn:Nat)):=(((Ba.o _).1 K0.o).2.1.grown Aa (by simp)).at 2;go_simp
     refine tk 5 (.pointer (some ⟨q.b,0,none⟩)) ?_ ?_
     ·intro wq Aa;go_simp
     refine tk 6 (.pointer (some ⟨q.b,0,none⟩)) ?_ ?_
     ·intro wq Aa;go_simp
     refine tk 7 (.pointer (some ⟨q.b,17,none⟩)) ?_ ?_
     ·intro wq Aa;go_simp
     refine tk 8 (.slice q.a q.j.ts.length q.c) ?_ ?_
     ·intro wq Aa;have c0:wq.cell? ⟨q.b,17,none⟩=some (.slice q.a q.j.ts.length q.c):=(((Ba.o _).1 K0.o).1.lies.grown Aa (by simp)).at 17;go_simp
     refine tk 9 (it (q.j.ts.length:Nat)) ?_ ?_
     ·intro wq Aa;go_simp
     refine tk 10 (.bool true) ?_ ?_
     ·intro wq Aa;go_simp
     refine tk 11 (.bool true) ?_ ?_
     ·intro wq Aa;go_simp
     refine bt ?_;go_simp;clear K0 hHeld;go_wp2;exact tx (v:=.tuple #[it 4,it 0]) (by simp[results,results97,go_sem]) rfl ⟨rfl,⟨_,_,_,_,_,_,_,_,((Ba.o _).1 K1.o).1.1,rfl⟩,((Ba.o _).1 K1.o).2.2.2.2.2.2.2.2⟩
   case neg=>
    rw[if_neg (by simp;omega)];have gl:decide ((q.j.ts.length:Int)≤((pn:Nat):Int))=false:=(by simp;omega);by_cases Wa:(q.j.ts.getD pn M.t0).l'=who
    case neg=>
     rw[if_pos Wa];clear hbn HRt hat;have Dc:((pn:Nat):Int)<(q.j.ts.length:Int):=(by omega);have Ec:(0:Int)≤((pn:Nat):Int):=(by omega);have Fc:IntKind.i64.wrap ((pn:Nat):Int)=(pn:Nat):=(by rw[tW];omega);have Qa:=HA.o.owns;obtain⟨g,Ra⟩:=Qa.block (by omega);have Fa:=Hd (Ra);have Gc:(q.j.ts.length:Int)≤q.c:=(by have:=Qa.sees.le;omega);obtain⟨wk,Sa⟩:∃wk,(q.j.ts.getD pn M.t0).l'=wk:=⟨_,rfl⟩;have Gb:H9 (∀W,bp W i' h now tj ab nb cb bs ai ni ci mb qs i q→W.cell? ⟨g,pn*3+1,none⟩=some (it wk)):=fun W hW=>by have h9:=hW.owns;rw[Ra]at h9;have h8:=h9.cells (k:=pn) (by omega) (j:=1) (by omega);rw[h8,←Sa];rfl
     rw[Sa]at Wa;clear Qa Ra Sa;obtain⟨TB,Ba⟩:∃TB:World→Prop,H9 (∀W,TB W↔(bp W i' h now tj ab nb cb bs ai ni ci mb qs i q∧ae W w.heap.size (bW who id (pn:Nat) p1 p2 p3 p4 a1 n1 c1 a2 n2 c2 a3 n3 c3 a4 n4 c4)∧EnvX W aL aN aG aE aR∧ah W a1 n1 c1 z1∧ah W a2 n2 c2 z2∧ah W a3 n3 c3 z3∧ah W a4 n4 c4 z4∧i'≤W.heap.size∧Below i' w W)):=⟨_,fun _=>Iff.rfl⟩
     have Ia:H9 (∀W W',TB W→Below W.heap.size W W'→TB W'):=fun W W' hK hb=>by
      obtain⟨f0,f1,f2,f3,f4,f5,f6,f7,f8⟩:=(Ba.o W).1 hK;exact(Ba.o W').2 ⟨f0.below hb,f1.belowS hb,f2.below hb,f3.below hb,f4.below hb,f5.below hb,f6.below hb,tB f7 hb.size,f8.trans (hb.mono f7)⟩
     have K0:H9 (TB (w.alloc (.cells (bW who id (pn:Nat) p1 p2 p3 p4 a1 n1 c1 a2 n2 c2 a3 n3 c3 a4 n4 c4).toArray 161)).drew):=(Ba.o _).2 ⟨⟨Ea.o.below (tv _ _).drew,hi,hq⟩,Na.o.belowS (tv _ _).drew,Ta.o.below (tv _ _).drew,S1.o.below (tv _ _).drew,S2.o.below (tv _ _).drew,S3.o.below (tv _ _).drew,S4.o.below (tv _ _).drew,Ua,Oa.o.drew⟩;clear HA;go_enter func97,ntmps97;(go_wp2_with fail);generalize(w.alloc (.cells (bW who id (pn:Nat) p1 p2 p3 p4 a1 n1 c1 a2 n2 c2 a3 n3 c3 a4 n4 c4).toArray 161))=wa at *;refine CB.mono ?_;rintro e wz ⟨rfl,Da⟩;have Ka:=Da.symm;clear Da;subst Ka;(go_wp2_with fail);apply dU
     case f=>
      intro key
      go_region_law (fail)
      all_goals exact key.out
     case h=>
      clear Pa x4 t1 t0 CB Ea Na Ga Ta S1 S2 S3 S4 Oa Ua;generalize wa.drew=wb at *;(go_wp2_with fail);refine cw wb none (by kernel_rfl) fun hHeld=>?_;have K1:H9 (TB wb.drew):=Ia.o _ _ K0.o (tv _ _).drew;generalize wb.drew=Ha at *;refine tk 0 (.bool true) ?_ ?_
      ·intro wq Aa;go_simp
      refine tk 1 (.bool false) ?_ ?_
      ·intro wq Aa;go_simp
      refine tk 2 (.bool false) ?_ ?_
      ·intro wq Aa;go_simp
      refine tk 3 (.pointer (some ⟨w.heap.size,2,none⟩)) ?_ ?_
      ·intro wq Aa;go_simp
      refine tk 4 (it (pn:Nat)) ?_ ?_
      ·intro wq Aa;have c0:wq.cell? ⟨w.heap.size,2,none⟩=some (it (pn:Nat)):=(((Ba.o _).1 K0.o).2.1.grown Aa (by simp)).at 2;go_simp
      refine tk 5 (.pointer (some ⟨q.b,0,none⟩)) ?_ ?_
      ·intro wq Aa;go_simp
      refine tk 6 (.pointer (some ⟨q.b,0,none⟩)) ?_ ?_
      ·intro wq Aa;go_simp
      refine tk 7 (.pointer (some ⟨q.b,17,none⟩)) ?_ ?_
      ·intro wq Aa;go_simp
      refine tk 8 (.slice q.a q.j.ts.length q.c) ?_ ?_
      ·intro wq Aa;have c0:wq.cell? ⟨q.b,17,none⟩=some (.slice q.a q.j.ts.length q.c):=(((Ba.o _).1 K0.o).1.lies.grown Aa (by simp)).at 17;go_simp
      refine tk 9 (it (q.j.ts.length:Nat)) ?_ ?_
      ·intro wq Aa;go_simp
      refine tk 10 (.bool false) ?_ ?_
      ·intro wq Aa;go_simp;omega
      refine tk 11 (.bool false) ?_ ?_
      ·intro wq Aa;go_simp
      refine bt ?_;go_simp;clear K0 hHeld;(go_wp2_with fail);refine cw Ha none (by kernel_rfl) fun hHeld=>?_;have K2:H9 (TB Ha.drew):=Ia.o _ _ K1.o (tv _ _).drew;generalize Ha.drew=Va at *;refine tk 0 (.pointer (some ⟨q.b,0,none⟩)) ?_ ?_
      ·intro wq Aa;go_simp
      refine tk 1 (.pointer (some ⟨q.b,0,none⟩)) ?_ ?_
      ·intro wq Aa;go_simp
      refine tk 2 (.pointer (some ⟨q.b,17,none⟩)) ?_ ?_
      ·intro wq Aa;go_simp
      refine tk 3 (.slice (some ⟨g,0,none⟩) q.j.ts.length q.c) ?_ ?_
      ·intro wq Aa;have c0:wq.cell? ⟨q.b,17,none⟩=some (.slice q.a q.j.ts.length q.c):=(((Ba.o _).1 K1.o).1.lies.grown Aa (by simp)).at 17;rw[Fa.o]at c0;go_simp
      refine tk 4 (.pointer (some ⟨w.heap.size,2,none⟩)) ?_ ?_
      ·intro wq Aa;go_simp
      refine tk 5 (it (pn:Nat)) ?_ ?_
      ·intro wq Aa;have c0:wq.cell? ⟨w.heap.size,2,none⟩=some (it (pn:Nat)):=(((Ba.o _).1 K1.o).2.1.grown Aa (by simp)).at 2;go_simp
      refine tk 6 (.pointer (some ⟨g,pn*3,none⟩)) ?_ ?_
      ·intro wq Aa;go_simp
      refine tk 7 (.pointer (some ⟨g,pn*3+1,none⟩)) ?_ ?_
      ·intro wq Aa;go_simp
      refine tk 8 (it wk) ?_ ?_
      ·intro wq Aa;have c0:wq.cell? ⟨g,pn*3+1,none⟩=some (it wk):=Aa.cell (Gb.o Ha ((Ba.o _).1 K1.o).1) (by simp);go_simp
      refine tk 9 (.pointer (some ⟨w.heap.size,0,none⟩)) ?_ ?_
      ·intro wq Aa;go_simp
      refine tk 10 (it who) ?_ ?_
      ·intro wq Aa;have c0:wq.cell? ⟨w.heap.size,0,none⟩=some (it who):=(((Ba.o _).1 K1.o).2.1.grown Aa (by simp)).at 0;go_simp
      refine tk 11 (.bool true) ?_ ?_
      ·intro wq Aa;go_simp
      refine bt ?_;go_simp;clear K1 hHeld;go_wp2;exact tx (v:=.tuple #[it 8,it 0]) (by simp[results,results97,go_sem]) rfl ⟨rfl,⟨_,_,_,_,_,_,_,_,((Ba.o _).1 K2.o).1.1,rfl⟩,((Ba.o _).1 K2.o).2.2.2.2.2.2.2.2⟩
    case pos=>
     rw[if_neg (fun hne=>hne Wa)];have Ub:q.j∈qs.map (fun q:HJ=>q.j):=(by rw[←hq,←kS hi];exact M.getD_mem (by simpa using hi));have Bb:=(HRt.job _ Ub).2.2;unfold M.jbOk at Bb;simp only[tZ]at Bb;have Hc:=jH Bb.1.2.2.1;clear Bb Ub;obtain⟨og,Hb⟩:∃og,cf ((pn:Nat):Int) (⟨(p1,p2),(p3,p4),z1,z2,z3,z4⟩:M.Pf) q.j=og:=⟨_,rfl⟩;rw[Hb]
     obtain⟨pv,Vb,Wb⟩:∃pv:Value,H9 (∀W,bp W i' h now tj ab nb cb bs ai ni ci mb qs i q→Rt 121 #[.pointer (some ⟨q.b,0,none⟩),it (pn:Nat)] W pv)∧H9 (∀W,EnvX W aL aN aG aE aR→ah W a1 n1 c1 z1→ah W a2 n2 c2 z2→ah W a3 n3 c3 z3→ah W a4 n4 c4 z4→Rt 160 #[pv,.agg (bh p1 p2 p3 p4 a1 n1 c1 a2 n2 c2 a3 n3 c3 a4 n4 c4).toArray] W (.bool og)):=by
      refine⟨.agg (eS q.j.m.X.xx q.j.m.X.xy q.j.m.X.yy q.j.m.X.x q.j.m.X.y q.j.m.X.k q.j.m.Y.xx q.j.m.Y.xy q.j.m.Y.yy q.j.m.Y.x q.j.m.Y.y q.j.m.Y.k ((ep q.j.m q.j.s ((pn:Nat)*(q.j.rows-1))).1) ((ep q.j.m q.j.s ((pn:Nat)*(q.j.rows-1))).2) q.j.rows).toArray,fun W hW=>mW q.j.id q.j.m.X.xx q.j.m.X.xy q.j.m.X.yy q.j.m.X.x q.j.m.X.y q.j.m.X.k q.j.m.Y.xx q.j.m.Y.xy q.j.m.Y.yy q.j.m.Y.x q.j.m.Y.y q.j.m.Y.k q.j.s.1 q.j.s.2 q.j.rows q.j.gone ((pn:Nat):Int) W hW.lies (by omega) (by omega) (by omega) (by omega),fun W hE g1 g2 g3 g4=>?_⟩;rw[←Hb];exact jS q.j.m.X.xx q.j.m.X.xy q.j.m.X.yy q.j.m.X.x q.j.m.X.y q.j.m.X.k q.j.m.Y.xx q.j.m.Y.xy q.j.m.Y.yy q.j.m.Y.x q.j.m.Y.y q.j.m.Y.k _ _ q.j.rows p1 p2 p3 p4 W hE g1 g2 g3 g4
     have Xa:H9 ((qs.map (fun q:HJ=>q.j)).getD i M.j0=q.j):=(by show _=_;rw[←hq];exact kS hi);have Ic:H9 ((qs.map (fun q:HJ=>q.j)).map (M.freeJ (M.mineT who))=M.setT (qs.map (fun q:HJ=>q.j)) i pn M.t0):=M.free_js (by unfold M.wkOk at hw;simp at hw;omega) HRt.nd (by simpa using hi) (by rw[Xa.o];omega) (by rw[Xa.o];exact Wa);obtain⟨od,Ib⟩:∃od,(q.j.ts.set pn ⟨true,0,0⟩).all (·.done)=od:=⟨_,rfl⟩;rw[Ic.o,Ib]
     change Calls _ _ _ _ (eT w i' h (rO ⟨now,tj,bs,qs.map (fun q:HJ=>q.j)⟩ who i pn og od))
     have Jc:=Hd (Ib);have Jb:H9 (M.bnGo 0 bs=true∧M.wkOk who=true∧bs.contains who=false):=⟨HRt.bn,hw,hbn⟩;clear Hb Hc HRt hbn hat Ib;have Dc:((pn:Nat):Int)<(q.j.ts.length:Int):=(by omega);have Ec:(0:Int)≤((pn:Nat):Int):=(by omega);have Fc:IntKind.i64.wrap ((pn:Nat):Int)=(pn:Nat):=(by rw[tW];omega);have Qa:=HA.o.owns;obtain⟨g,Ra⟩:=Qa.block (by omega);have Fa:=Hd (Ra);have Gc:(q.j.ts.length:Int)≤q.c:=(by have:=Qa.sees.le;omega);obtain⟨wk,Sa⟩:∃wk,(q.j.ts.getD pn M.t0).l'=wk:=⟨_,rfl⟩;have Gb:H9 (∀W,bp W i' h now tj ab nb cb bs ai ni ci mb qs i q→W.cell? ⟨g,pn*3+1,none⟩=some (it wk)):=fun W hW=>by have h9:=hW.owns;rw[Ra]at h9;have h8:=h9.cells (k:=pn) (by omega) (j:=1) (by omega);rw[h8,←Sa];rfl
     rw[Sa]at Wa;clear Qa Ra Sa;have Kc:H9 (∀W,bp W i' h now tj ab nb cb bs ai ni ci mb qs i q→w.heap.size∉ob q.a):=fun W _ e=>Cc.o e;obtain⟨TB,Ba⟩:∃TB:World→Prop,H9 (∀W,TB W↔(bp W i' h now tj ab nb cb bs ai ni ci mb qs i q∧ae W w.heap.size (bW who id (pn:Nat) p1 p2 p3 p4 a1 n1 c1 a2 n2 c2 a3 n3 c3 a4 n4 c4)∧EnvX W aL aN aG aE aR∧ah W a1 n1 c1 z1∧ah W a2 n2 c2 z2∧ah W a3 n3 c3 z3∧ah W a4 n4 c4 z4∧i'≤W.heap.size∧Below i' w W)):=⟨_,fun _=>Iff.rfl⟩
     have Ia:H9 (∀W W',TB W→Below W.heap.size W W'→TB W'):=fun W W' hK hb=>by
      obtain⟨f0,f1,f2,f3,f4,f5,f6,f7,f8⟩:=(Ba.o W).1 hK;exact(Ba.o W').2 ⟨f0.below hb,f1.belowS hb,f2.below hb,f3.below hb,f4.below hb,f5.below hb,f6.below hb,tB f7 hb.size,f8.trans (hb.mono f7)⟩
     have K0:H9 (TB (w.alloc (.cells (bW who id (pn:Nat) p1 p2 p3 p4 a1 n1 c1 a2 n2 c2 a3 n3 c3 a4 n4 c4).toArray 161)).drew):=(Ba.o _).2 ⟨⟨Ea.o.below (tv _ _).drew,hi,hq⟩,Na.o.belowS (tv _ _).drew,Ta.o.below (tv _ _).drew,S1.o.below (tv _ _).drew,S2.o.below (tv _ _).drew,S3.o.below (tv _ _).drew,S4.o.below (tv _ _).drew,Ua,Oa.o.drew⟩;clear HA;go_enter func97,ntmps97;(go_wp2_with fail);generalize(w.alloc (.cells (bW who id (pn:Nat) p1 p2 p3 p4 a1 n1 c1 a2 n2 c2 a3 n3 c3 a4 n4 c4).toArray 161))=wa at *;refine CB.mono ?_;rintro e wz ⟨rfl,Da⟩;have Ka:=Da.symm;clear Da;subst Ka;(go_wp2_with fail);apply dU
     case f=>
      intro key
      go_region_law (fail)
      all_goals exact key.out
     case h=>
      clear Pa x4 t1 t0 CB Ea Na Ga Ta S1 S2 S3 S4 Oa Ua;generalize wa.drew=wb at *;(go_wp2_with fail);refine cw wb none (by kernel_rfl) fun hHeld=>?_;have K1:H9 (TB wb.drew):=Ia.o _ _ K0.o (tv _ _).drew;generalize wb.drew=Ha at *;refine tk 0 (.bool true) ?_ ?_
      ·intro wq Aa;go_simp
      refine tk 1 (.bool false) ?_ ?_
      ·intro wq Aa;go_simp
      refine tk 2 (.bool false) ?_ ?_
      ·intro wq Aa;go_simp
      refine tk 3 (.pointer (some ⟨w.heap.size,2,none⟩)) ?_ ?_
      ·intro wq Aa;go_simp
      refine tk 4 (it (pn:Nat)) ?_ ?_
      ·intro wq Aa;have c0:wq.cell? ⟨w.heap.size,2,none⟩=some (it (pn:Nat)):=(((Ba.o _).1 K0.o).2.1.grown Aa (by simp)).at 2;go_simp
      refine tk 5 (.pointer (some ⟨q.b,0,none⟩)) ?_ ?_
      ·intro wq Aa;go_simp
      refine tk 6 (.pointer (some ⟨q.b,0,none⟩)) ?_ ?_
      ·intro wq Aa;go_simp
      refine tk 7 (.pointer (some ⟨q.b,17,none⟩)) ?_ ?_
      ·intro wq Aa;go_simp
      refine tk 8 (.slice q.a q.j.ts.length q.c) ?_ ?_
      ·intro wq Aa;have c0:wq.cell? ⟨q.b,17,none⟩=some (.slice q.a q.j.ts.length q.c):=(((Ba.o _).1 K0.o).1.lies.grown Aa (by simp)).at 17;go_simp
      refine tk 9 (it (q.j.ts.length:Nat)) ?_ ?_
      ·intro wq Aa;go_simp
      refine tk 10 (.bool false) ?_ ?_
      ·intro wq Aa;go_simp;omega
      refine tk 11 (.bool false) ?_ ?_
      ·intro wq Aa;go_simp
      refine bt ?_;go_simp;clear K0 hHeld;(go_wp2_with fail);refine cw Ha none (by kernel_rfl) fun hHeld=>?_;have K2:H9 (TB Ha.drew):=Ia.o _ _ K1.o (tv _ _).drew;generalize Ha.drew=Va at *;refine tk 0 (.pointer (some ⟨q.b,0,none⟩)) ?_ ?_
      ·intro wq Aa;go_simp
      refine tk 1 (.pointer (some ⟨q.b,0,none⟩)) ?_ ?_
      ·intro wq Aa;go_simp
      refine tk 2 (.pointer (some ⟨q.b,17,none⟩)) ?_ ?_
      ·intro wq Aa;go_simp
      refine tk 3 (.slice (some ⟨g,0,none⟩) q.j.ts.length q.c) ?_ ?_
      ·intro wq Aa;have c0:wq.cell? ⟨q.b,17,none⟩=some (.slice q.a q.j.ts.length q.c):=(((Ba.o _).1 K1.o).1.lies.grown Aa (by simp)).at 17;rw[Fa.o]at c0;go_simp
      refine tk 4 (.pointer (some ⟨w.heap.size,2,none⟩)) ?_ ?_
      ·intro wq Aa;go_simp
      refine tk 5 (it (pn:Nat)) ?_ ?_
      ·intro wq Aa;have c0:wq.cell? ⟨w.heap.size,2,none⟩=some (it (pn:Nat)):=(((Ba.o _).1 K1.o).2.1.grown Aa (by simp)).at 2;go_simp
      refine tk 6 (.pointer (some ⟨g,pn*3,none⟩)) ?_ ?_
      ·intro wq Aa;go_simp
      refine tk 7 (.pointer (some ⟨g,pn*3+1,none⟩)) ?_ ?_
      ·intro wq Aa;go_simp
      refine tk 8 (it wk) ?_ ?_
      ·intro wq Aa;have c0:wq.cell? ⟨g,pn*3+1,none⟩=some (it wk):=Aa.cell (Gb.o Ha ((Ba.o _).1 K1.o).1) (by simp);go_simp
      refine tk 9 (.pointer (some ⟨w.heap.size,0,none⟩)) ?_ ?_
      ·intro wq Aa;go_simp
      refine tk 10 (it who) ?_ ?_
      ·intro wq Aa;have c0:wq.cell? ⟨w.heap.size,0,none⟩=some (it who):=(((Ba.o _).1 K1.o).2.1.grown Aa (by simp)).at 0;go_simp
      refine tk 11 (.bool false) ?_ ?_
      ·intro wq Aa;go_simp
      refine bt ?_;go_simp;clear K1 hHeld;(go_wp2_with fail);refine cw Va none (by kernel_rfl) fun hHeld=>?_;have K3:H9 (TB Va.drew):=Ia.o _ _ K2.o (tv _ _).drew;generalize Va.drew=Lc at *;refine tk 0 (.pointer (some ⟨q.b,0,none⟩)) ?_ ?_
      ·intro wq Aa;go_simp
      refine tk 1 (.pointer (some ⟨w.heap.size,2,none⟩)) ?_ ?_
      ·intro wq Aa;go_simp
      refine tk 2 (it (pn:Nat)) ?_ ?_
      ·intro wq Aa;have c0:wq.cell? ⟨w.heap.size,2,none⟩=some (it (pn:Nat)):=(((Ba.o _).1 K2.o).2.1.grown Aa (by simp)).at 2;go_simp
      refine tk 4 (.pointer (some ⟨w.heap.size,3,none⟩)) ?_ ?_
      ·intro wq Aa;go_simp
      refine wpAnyH_take (i:=5) (v:=.agg ((bh p1 p2 p3 p4 a1 n1 c1 a2 n2 c2 a3 n3 c3 a4 n4 c4):List Value).toArray) rfl (by kernel_rfl) (by kernel_rfl) (by kernel_rfl) (fun _ _ _ h=>h) (tQ (by kernel_rfl) 35 (.tmp 50) (by kernel_rfl) w.heap.size 3 (by kernel_rfl) ((bh p1 p2 p3 p4 a1 n1 c1 a2 n2 c2 a3 n3 c3 a4 n4 c4):List Value) _ (fun W hW=>ae.mid (((Ba.o _).1 K2.o).2.1.grown hW (by simp)) 3 8) underlying35 rfl (by kernel_rfl)) (by assumption) ?_;refine ba 3 fun Kk hK=>?_;go_simp;refine(Vb.o Lc ((Ba.o _).1 K3.o).1).mono ?_;rintro e Kb ⟨rfl,hb⟩;go_simp;have Lb:Va.grownBy Kb none:=ap hHeld hb;have K4:H9 (TB Kb):=Ia.o _ _ K3.o hb;refine hK.out _ _ Lb (fun hzz=>?_);clear hzz hK Kk hb;refine ba 6 fun Kk hK=>?_;go_simp;refine(Wb.o Kb ((Ba.o _).1 K4.o).2.2.1 ((Ba.o _).1 K4.o).2.2.2.1 ((Ba.o _).1 K4.o).2.2.2.2.1 ((Ba.o _).1 K4.o).2.2.2.2.2.1 ((Ba.o _).1 K4.o).2.2.2.2.2.2.1).mono ?_;rintro e Ca ⟨rfl,hb⟩;go_simp;have Xb:Va.grownBy Ca none:=ap Lb hb;have K5:H9 (TB Ca):=Ia.o _ _ K4.o hb;refine hK.out _ _ Xb (fun hzz=>?_);clear hzz hK Kk hb;refine tk 7 (.bool (!og)) ?_ ?_
      ·intro wq Aa;go_simp
      refine bt ?_;go_simp;clear K2 K3 K4 hHeld Lb Xb Vb Wb
      cases og with
      | false=>
       have hO:=((Ba.o _).1 K5.o).1.owns;rw[Fa.o]at hO;have La:pn<q.j.ts.length:=(by omega);have Ya:Ca.cell? ⟨q.b,17,none⟩=some (.slice q.a q.j.ts.length q.c):=((Ba.o _).1 K5.o).1.lies.at 17;rw[Fa.o]at Ya;have t2:Ca.cell? ⟨w.heap.size,2,none⟩=some (it (pn:Nat)):=((Ba.o _).1 K5.o).2.1.at 2;have y0:=hO.cells La (j:=0) (by omega);have Za:=hO.2.frozenAt (pn*3+0);have y1:=hO.cells La (j:=1) (by omega);have Nb:=hO.2.frozenAt (pn*3+1);have y2:=hO.cells La (j:=2) (by omega);have Ob:=hO.2.frozenAt (pn*3+2);rw[Nat.add_zero]at y0 Za;generalize q.j.ts.getD pn M.t0=zz at y0 y1 y2;obtain⟨u1,u2,u3⟩:=zz;simp only[bO,List.getElem?_cons_zero,List.getElem?_cons_succ]at y0 y1 y2;obtain⟨Ab,Ja⟩:=hO.put La M.t0;have Cb:g∈ob q.a:=(by rw[Fa.o];simp[ob]);have HF:H9 (bp (Ca.setCells g (pn*3) (bO M.t0)).drew i' h now tj ab nb cb bs ai ni ci mb (qs.set i ⟨{q.j with ts:=q.j.ts.set pn M.t0},q.b,q.a,q.c⟩) i ⟨{q.j with ts:=q.j.ts.set pn M.t0},q.b,q.a,q.c⟩):=(((Ba.o _).1 K5.o).1.tasks (n:=0) (c:=0) (ts:=q.j.ts.set pn M.t0) (by rw[List.length_set]) (by rw[Fa.o];exact Ja) (by rw[List.length_set,Fa.o];exact Ab)).below (tv _ _).drew;have Pb:H9 (Below i' w (Ca.setCells g (pn*3) (bO M.t0)).drew):=(((Ba.o _).1 K5.o).2.2.2.2.2.2.2.2.trans (ac Ja ((Ba.o _).1 K5.o).2.2.2.2.2.2.2.1 (fun z e=>by rw[←tm e];exact(((Ba.o _).1 K5.o).1.apart.1 g Cb).1))).drew;have Qb:i'≤(Ca.setCells g (pn*3) (bO M.t0)).drew.heap.size:=tB ((Ba.o _).1 K5.o).2.2.2.2.2.2.2.1 Ja.size;have Nc:H9 (ae (Ca.setCells g (pn*3) (bO M.t0)).drew w.heap.size (bW who id (pn:Nat) p1 p2 p3 p4 a1 n1 c1 a2 n2 c2 a3 n3 c3 a4 n4 c4)):=(((Ba.o _).1 K5.o).2.1.grown Ja (fun e=>Kc.o Ca ((Ba.o _).1 K5.o).1 (by rw[←tm e];exact Cb))).belowS (tv _ _).drew;clear hO Ab Ja;(go_wp2_with fail);apply dU
       case f=>
        intro key
        go_region_law (fail)
        all_goals exact key.out
       case h=>
        clear Ya t2 y0 y1 y2 Za Nb Ob;show Exit.then _ _ _ _ (Ca.setCells g (pn*3) (bO M.t0)).drew;generalize(Ca.setCells g (pn*3) (bO M.t0)).drew=w9 at *;have t0:=Nc.o.c 0;(go_wp2_with fail);refine(rX who w9 HF.o.1 Jb.o.1 Jb.o.2.1 Jb.o.2.2 Qb).mono ?_;rintro e wx ⟨rfl,Qc,Rc,hH,hB⟩;have Oc:=Hd (hH);have Db:=Hd (Pb.o.trans hB);clear hH hB t0;go_wp2;exact tx (v:=.tuple #[it 7,it 0]) (by simp[results,results97,go_sem]) rfl ⟨rfl,⟨_,_,_,_,_,_,_,_,Oc.o,(by show _=M.setT _ _ _ _;rw[List.map_set];unfold M.setT;rw[Xa.o])⟩,Db.o⟩
      | true=>
       have hO:=((Ba.o _).1 K5.o).1.owns;rw[Fa.o]at hO;have La:pn<q.j.ts.length:=(by omega);have Ya:Ca.cell? ⟨q.b,17,none⟩=some (.slice q.a q.j.ts.length q.c):=((Ba.o _).1 K5.o).1.lies.at 17;rw[Fa.o]at Ya;have t2:Ca.cell? ⟨w.heap.size,2,none⟩=some (it (pn:Nat)):=((Ba.o _).1 K5.o).2.1.at 2;have y0:=hO.cells La (j:=0) (by omega);have Za:=hO.2.frozenAt (pn*3+0);have y1:=hO.cells La (j:=1) (by omega);have Nb:=hO.2.frozenAt (pn*3+1);have y2:=hO.cells La (j:=2) (by omega);have Ob:=hO.2.frozenAt (pn*3+2);rw[Nat.add_zero]at y0 Za;generalize q.j.ts.getD pn M.t0=zz at y0 y1 y2;obtain⟨u1,u2,u3⟩:=zz;simp only[bO,List.getElem?_cons_zero,List.getElem?_cons_succ]at y0 y1 y2;obtain⟨Ab,Ja⟩:=hO.put La ⟨true,0,0⟩;have Cb:g∈ob q.a:=(by rw[Fa.o];simp[ob]);have HF:H9 (bp (Ca.setCells g (pn*3) (bO ⟨true,0,0⟩)).drew i' h now tj ab nb cb bs ai ni ci mb (qs.set i ⟨{q.j with ts:=q.j.ts.set pn ⟨true,0,0⟩},q.b,q.a,q.c⟩) i ⟨{q.j with ts:=q.j.ts.set pn ⟨true,0,0⟩},q.b,q.a,q.c⟩):=(((Ba.o _).1 K5.o).1.tasks (n:=0) (c:=0) (ts:=q.j.ts.set pn ⟨true,0,0⟩) (by rw[List.length_set]) (by rw[Fa.o];exact Ja) (by rw[List.length_set,Fa.o];exact Ab)).below (tv _ _).drew;have Pb:H9 (Below i' w (Ca.setCells g (pn*3) (bO ⟨true,0,0⟩)).drew):=(((Ba.o _).1 K5.o).2.2.2.2.2.2.2.2.trans (ac Ja ((Ba.o _).1 K5.o).2.2.2.2.2.2.2.1 (fun z e=>by rw[←tm e];exact(((Ba.o _).1 K5.o).1.apart.1 g Cb).1))).drew;have Qb:i'≤(Ca.setCells g (pn*3) (bO ⟨true,0,0⟩)).drew.heap.size:=tB ((Ba.o _).1 K5.o).2.2.2.2.2.2.2.1 Ja.size;clear hO Ab Ja;(go_wp2_with fail);apply dU
       case f=>
        intro key
        go_region_law (fail)
        all_goals exact key.out
       case h=>
        clear Ya t2 y0 y1 y2 Za Nb Ob;show Exit.then _ _ _ _ (Ca.setCells g (pn*3) (bO ⟨true,0,0⟩)).drew;generalize(Ca.setCells g (pn*3) (bO ⟨true,0,0⟩)).drew=w9 at *;have C9:=fy w9 (HF.o.lies.at 17) HF.o.owns.sees;dsimp only at C9;rw[Jc.o]at C9;(go_wp2_with fail);refine C9.mono ?_;rintro e wx ⟨rfl,hb⟩;have Yb:H9 (aP wx i' h now tj ab nb cb bs ai ni ci mb (qs.set i ⟨{q.j with ts:=q.j.ts.set pn ⟨true,0,0⟩},q.b,q.a,q.c⟩)):=HF.o.1.below hb;have Db:H9 (Below i' w wx):=Pb.o.trans (hb.mono Qb);clear hb C9
        cases od with
        | true=>
         go_wp2;exact tx (v:=.tuple #[it 0,it 1]) (by simp[results,results97,go_sem]) rfl ⟨rfl,⟨_,_,_,_,_,_,_,_,Yb.o,(by show _=M.setT _ _ _ _;rw[List.map_set];unfold M.setT;rw[Xa.o])⟩,Db.o⟩
        | false=>
         go_wp2;exact tx (v:=.tuple #[it 0,it 0]) (by simp[results,results97,go_sem]) rfl ⟨rfl,⟨_,_,_,_,_,_,_,_,Yb.o,(by show _=M.setT _ _ _ _;rw[List.map_set];unfold M.setT;rw[Xa.o])⟩,Db.o⟩
end Go.Proofs.YtjcjonncaknhnaaGreatDoor
