import Derived.Test.YtobnifjhikoleaaGreatDoorPk28
import Derived.Test.YtobnifjhikoleaaGreatDoorPk23
import Derived.Test.YtobnifjhikoleaaGreatDoorPk26
namespace Go.Proofs.YtobnifjhikoleaaGreatDoor
open Go.RowKit Go.Proofs.Tryz
set_option linter.unusedSimpArgs false
set_option maxHeartbeats 32000000
set_option maxRecDepth 10000
variable {now uN:Int}{bs:List Int}
theorem M.Right.shape{qs:List MQ}(h:M.Right now uN bs (qs.map (·.1))):(∀q∈qs,0≤q.1.rows∧q.1.rows≤16∧q.1.ts.length≤8):=fun q hq=>by
 have hm:q.1∈qs.map (·.1):=List.mem_map.2 ⟨q,hq,rfl⟩;have h1:=(h.jok hm);have h2:=(h.tasks _ hm).2;have h3:=fG h1.r;exact⟨by omega,by omega,h2⟩
def sS(w0 w:World)(R:Nat)(ca:Option Addr)(len cap:Nat)(e:Ending)(W:World):Prop:=∃(now uN:Int) (ab:Option Addr) (nb cb:Nat) (bs:List Int) (aj:Option Addr) (nj cj:Nat) (qs:List MQ),
 e=.returned (.agg #[.int .i64 now,.int .i64 uN,.slice ab nb cb,.slice aj nj cj])∧aW W w.heap.size ab nb cb bs aj nj cj qs∧(∀q∈qs,0≤q.1.rows∧q.1.rows≤16∧q.1.ts.length≤8)∧nj≤6∧Rd w0 R ca len cap W∧w.grownBy W (some R)
theorem gW{js:List M.Jb}(t' id s' l' tr m0 J L T Y U Z m7 Q V A I t1 t2 p1 p2 p3 p4:Int)(n1 n2 n3 n4:Nat)(z1 z2 z3 z4:List Int)(h:M.Right now uN bs js):(ba now uN bs js t' id s' l' tr m0 J L T Y U Z m7 Q V A I t1 t2 p1 p2 p3 p4 n1 n2 n3 n4 z1 z2 z3 z4).1.right:=M.acted_right (m:=⟨now,uN,bs,js⟩) h
set_option linter.unusedVariables false in
def j4:Prop:=∀(_:iX) (w0:World) (R:Nat) (ca:Option Addr) (len cap:Nat) (zs:List Int) (hrow:Row .u8 w0 ca len cap zs) (most:Int) (hm0:0≤most) (hm1:most≤99) (w:World) (h:Rd w0 R ca len cap w),Calls prog 12 #[.pointer (some ⟨R,0,none⟩),.int .i64 most] w (sS w0 w R ca len cap)
def jd:nt j4:=by
 apply nt.mk
 case h=>
 intro key1 key2 Eb w0 R ca Ha Ia zs Fb Ra Gb Hb w h;have Ib:=Hd Eb;clear Eb;have Sa:=Hd Fb;have Jb:=h.hi;have Kb:=h.below.size;have Lb:m1 w ((w.alloc (.cells aV.toArray 27)).alloc (.cells mZ.toArray 27)):=((m5 _ _).alloc (m3 _) _).alloc (by simp) _;have Oa:H9 (au ((w.alloc (.cells aV.toArray 27)).alloc (.cells mZ.toArray 27)) w.heap.size aV):=(aM _ _ _).alloc _;have Ja:H9 (au ((w.alloc (.cells aV.toArray 27)).alloc (.cells mZ.toArray 27)) (w.heap.size+1) mZ):=aZ _ _ _ _;have Pa:H9 (Rd w0 R ca Ha Ia ((w.alloc (.cells aV.toArray 27)).alloc (.cells mZ.toArray 27))):=(h.alloc _).alloc _;have Qa:H9 (w.grownBy ((w.alloc (.cells aV.toArray 27)).alloc (.cells mZ.toArray 27)) (some R)):=aB Lb _;have Ga:H9 (aW ((w.alloc (.cells aV.toArray 27)).alloc (.cells mZ.toArray 27)) (w.heap.size+2) none 0 0 [] none 0 0 []):=aW.zero _ _;have Nb:((w.alloc (.cells aV.toArray 27)).alloc (.cells mZ.toArray 27)).heap.size=w.heap.size+2:=(by simp);have Ob:IntKind.i64.wrap (Ra+1)=Ra+1:=(by rw[vi];omega);clear Lb h Fb;go_enter func12,ntmps12;(go_wp2_with fail);generalize((w.alloc (.cells aV.toArray 27)).alloc (.cells mZ.toArray 27))=wq at *;refine(bp Sa.o (Ra+1) (by omega) (by omega) _ Pa.o).mono ?_;rintro e w1 ⟨v,v0,v1,rfl,hr,hg⟩;have Ba:=Hd (Oa.o.grown hg (by simp;omega));have Da:=Hd (Ja.o.grown hg (by simp;omega));have Ka:=Hd hr;have La:=Hd (Qa.o.trans hg);have Ea:=Hd (Ga.o.grown hg (fun g hg e=>by have:=(Ga.o.lt g hg).1;have:=m2 e;omega));clear Oa Ja Pa Qa Ga;clear hg hr;obtain⟨n0,Yb⟩:∃n:Nat,v=(n:Int):=⟨v.toNat,by omega⟩;subst Yb;have Pb:H9 (M.Right 0 1 [] []):=bQ (by decide);go_wp2_with fail
 go_loopw [6] (fun x wr=>∃(n:Nat) (Ca Aa:Int) (ab:Option Addr) (nb cb:Nat) (bs:List Int) (aj:Option Addr) (nj cj:Nat) (qs:List MQ),n≤100∧x=it n∧au wr w.heap.size aV∧au wr (w.heap.size+1) (aI Ca Aa ab nb cb aj nj cj)∧Rd w0 R ca Ha Ia wr∧w.grownBy wr (some R)∧aW wr (w.heap.size+2) ab nb cb bs aj nj cj qs∧M.Right Ca Aa bs (qs.map (·.1))) (fun x _=>(intOf x).toNat)
 case atStart=>exact⟨n0,0,1,none,0,0,[],none,0,0,[],by omega,rfl,Ba.o,Da.o,Ka.o,La.o,Ea.o,Pb.o⟩
 case round=>
  obtain⟨n,Ca,Aa,ab,nb,cb,bs,aj,nj,cj,qs,hn,rfl,hZ,hM,Qb,Rb,hO,hF⟩:=hrel;clear Ba Da Ka La Ea;have HF:=Hd hF;have HS:=Hd hF.shape;have Ua:nj≤6:=(by have h1:=hF.few;have h2:=hO.jl;rw[List.length_map]at h1;omega);clear hF Pb;have Oa:=Hd hZ;have Ja:=Hd hM;have Pa:=Hd Qb;have Qa:=Hd Rb;have Ga:=Hd hO;clear hZ hM Qb Rb hO;have Sb:w.heap.size+2≤wr.heap.size:=(by have:=Ja.o;have:=this.2.2;omega);by_cases hp:0<n
  case neg=>
   have Xa:¬ (0:Int)<(n:Int):=(by omega);(go_wp2_with fail);refine(bp Sa.o 40 (by decide) (by decide) _ Pa.o).mono ?_;rintro e wa ⟨y,y0,y1,rfl,hr,hg⟩;have Ba:=Hd (Oa.o.grown hg (by simp;omega));have Da:=Hd (Ja.o.grown hg (by simp;omega));have Ka:=Hd hr;have La:=Hd (Qa.o.trans hg);have Ea:=Hd (Ga.o.grown hg (fun g hg e=>by have:=(Ga.o.lt g hg).1;have:=m2 e;omega));clear Oa Ja Pa Qa Ga;clear hg hr;by_cases Ya:y=38
   case pos=>
    subst Ya;(go_wp2_with fail);refine(eT Sa.o 0 9 (by decide) (by decide) (by decide) _ Ka.o).mono ?_;rintro e wb ⟨z,z0,z1,rfl,hr,hg⟩;have Tb:=Hd (Ba.o.grown hg (by simp;omega));have Ta:=Hd (Da.o.grown hg (by simp;omega));have Ub:=Hd hr;have Vb:=Hd (La.o.trans hg);have Za:=Hd (Ea.o.grown hg (fun g hg e=>by have:=(Ea.o.lt g hg).1;have:=m2 e;omega));clear Ba Da Ka La Ea;clear hg hr;clear z0 z1;have o0:=Ta.c 0;have Zb:=Ta.o.fr 0;clear o0 Zb;(go_wp2_with(with_reducible refine aF ?_ ?_;rfl));with_reducible refine mX 2 (w.heap.size+1) 0 (it z) ?q6 ?q5 ?_
    case q6=>exact Ta.o.there 0 1 (by simp)
    case q5=>exact⟨rfl,rfl,rfl,by kernel_rfl,_,_,rfl,by kernel_rfl,by kernel_rfl⟩
    have Va:=ct wb (w.heap.size+1) 0 [it z];have Fa:=Hd (Tb.o.grown Va (by simp));have Wa:H9 (au (wb.setCells (w.heap.size+1) 0 [it z]) (w.heap.size+1) (aI z Aa ab nb cb aj nj cj)):=Ta.o.setCells [it z] 0 (by simp);have Ac:H9 (Rd w0 R ca Ha Ia (wb.setCells (w.heap.size+1) 0 [it z])):=Ub.o.cells (by omega) (by omega) _;have Bc:=Hd (aK Vb.o Va (by omega));have Wb:=Hd (Za.o.grown Va (fun g hg e=>by have:=(Za.o.lt g hg).1;have:=m2 e;omega));clear Va Tb Ta Ub Vb Za;generalize(wb.setCells (w.heap.size+1) 0 [it z])=wc at *;have r0:=Fa.c 0;have Cc:=Fa.o.fr 0;have r1:=Fa.c 1;have Dc:=Fa.o.fr 1;have r2:=Fa.c 2;have Ec:=Fa.o.fr 2;have r3:=Fa.c 3;have Fc:=Fa.o.fr 3;have o0:=Wa.c 0;have o1:=Wa.c 1;have o2:=Wa.c 2;have o3:=Wa.c 3;(go_wp2_with fail);show bodyPost _ _ _ _ _ (wc.setCells w.heap.size 0 (aI z Aa ab nb cb aj nj cj));have Ab:au (wc.setCells w.heap.size 0 (aI z Aa ab nb cb aj nj cj)) w.heap.size (aI z Aa ab nb cb aj nj cj):=Fa.o.setCells (aI z Aa ab nb cb aj nj cj) 0 (by simp);have Na:=ct wc w.heap.size 0 (aI z Aa ab nb cb aj nj cj);have Bb:Rd w0 R ca Ha Ia (wc.setCells w.heap.size 0 (aI z Aa ab nb cb aj nj cj)):=Ac.o.cells (by omega) (by omega) _;have Cb:=aK Bc.o Na (m3 _);have Db:=(Wb.o.grown Na (fun g hg e=>by have:=(Wb.o.lt g hg).1;have:=m2 e;omega)).mono (show w.heap.size≤w.heap.size+2 by omega);generalize(wc.setCells w.heap.size 0 (aI z Aa ab nb cb aj nj cj))=wf at *;clear Na;exact m8 (aQ rfl rfl (u' wf w.heap.size 0 27 _ _ Ab.row underlying27 rfl (by kernel_rfl))) rfl ⟨_,_,_,_,_,_,_,_,_,_,rfl,Db,HS.o,Ua,Bb,Cb⟩
   case neg=>
    have Gc:(y==38)=false:=(by simp[Ya]);by_cases Xb:y=39
    case pos=>
     rename_i Hc Ic Jc Kc Lc Nc Oc Pc Qc Rc;revert w0 R ca Ha Ia zs Ra Gb Hb w Ib Sa Jb Kb Ob Hc wq Nb w1 n0 v0 v1 wr u12 u13 u14 u15 u16 u17 u18 u19 u20 u21 u22 u23 u24 n Ca Aa ab nb cb bs aj nj cj qs hn HF HS Ua Sb hp Ic Jc Kc Lc Nc Oc Pc Qc Rc Xa wa y y0 y1 Ba Da Ka La Ea Ya Gc Xb;exact key1.out
    case neg=>
     have Xc:(y==39)=false:=(by simp[Xb]);have r0:=Ba.c 0;have Cc:=Ba.o.fr 0;have r1:=Ba.c 1;have Dc:=Ba.o.fr 1;have r2:=Ba.c 2;have Ec:=Ba.o.fr 2;have r3:=Ba.c 3;have Fc:=Ba.o.fr 3;have o0:=Da.c 0;have o1:=Da.c 1;have o2:=Da.c 2;have o3:=Da.c 3;(go_wp2_with fail);show bodyPost _ _ _ _ _ (wa.setCells w.heap.size 0 (aI Ca Aa ab nb cb aj nj cj));have Ab:au (wa.setCells w.heap.size 0 (aI Ca Aa ab nb cb aj nj cj)) w.heap.size (aI Ca Aa ab nb cb aj nj cj):=Ba.o.setCells (aI Ca Aa ab nb cb aj nj cj) 0 (by simp);have Na:=ct wa w.heap.size 0 (aI Ca Aa ab nb cb aj nj cj);have Bb:Rd w0 R ca Ha Ia (wa.setCells w.heap.size 0 (aI Ca Aa ab nb cb aj nj cj)):=Ka.o.cells (by omega) (by omega) _;have Cb:=aK La.o Na (m3 _);have Db:=(Ea.o.grown Na (fun g hg e=>by have:=(Ea.o.lt g hg).1;have:=m2 e;omega)).mono (show w.heap.size≤w.heap.size+2 by omega);generalize(wa.setCells w.heap.size 0 (aI Ca Aa ab nb cb aj nj cj))=wf at *;clear Na;exact m8 (aQ rfl rfl (u' wf w.heap.size 0 27 _ _ Ab.row underlying27 rfl (by kernel_rfl))) rfl ⟨_,_,_,_,_,_,_,_,_,_,rfl,Db,HS.o,Ua,Bb,Cb⟩
  case pos=>
   have Xa:(0:Int)<(n:Int):=(by omega);(go_wp2_with fail);rename_i Sc Tc Uc Vc Wc;revert w0 R ca Ha Ia zs Ra Gb Hb w Ib Sa Jb Kb Ob Sc Tc wq Nb w1 n0 v0 v1 wr u12 u13 u14 u15 u16 u17 u18 u19 u20 u21 u22 u23 u24 n Ca Aa ab nb cb bs aj nj cj qs hn HF HS Ua Oa Ja Pa Qa Ga Sb hp Xa Uc Vc Wc;exact key2.out
theorem mN:jd.q:=by
 intro w0 R ca Ua Va zs Gc Hc Ic w Yb Ib Jc Kc Lc Nc Oc wq Pc w1 n0 v0 v1 wr Qc Rc Sc Tc Uc Vc Wc Xc Yc Zc Ad Bd Cd n Ba Ca ab nb cb bs aj nj cj qs hn HF HS Jb Zb Ac Bc Cc Dc Fc hp Dd Ed Fd Gd;have Ec:IntKind.i64.wrap ((n:Int)-1)=((n-1:Nat):Int):=(by rw[vi];omega);have Kb:R<w.heap.size+2:=(by omega);refine wp_region_noPanic ?_;refine wp_region_held_drew (S:=fun _=>True) (by kernel_rfl) (trivial) (fun hHeld=>?_);have Ta:m1 wr wr.drew:=(m5 _ _).drew;have Lb:=Zb.b Ta;have Na:=Ac.b Ta;have Nb:=Hd (Bc.o.grow Ta);have Ob:=Hd (Cc.o.trans (aB Ta _));have Da:=Hd (Dc.o.below Ta);have Id:=trivial;have Pb:w.heap.size+2≤wr.drew.heap.size:=Fc;generalize wr.drew=Jd at *;have iL:(prog.info? 27).map (·.size)=some ((aI Ba Ca ab nb cb aj nj cj):List Value).length:=(show(prog.info? 27).map (·.size)=some 4 by kernel_rfl);refine tk 1 (.pointer (some ⟨R,0,none⟩)) ?_ ?_
 ·intro wq Fa;go_simp
 refine vk (rs:=[0,2]) (by kernel_rfl) (by simp) ?_;apply uP
 case ho=>exact rfl
 case h=>
  intro Kk hK;with_reducible refine dt ?qg 27 (.tmp 5) ?qo (w.heap.size+1) 0 ?qxz (aI Ba Ca ab nb cb aj nj cj) _ Na.o.row underlying27 ?qd iL ?_
  case qg | qo=>exact rfl
  case qxz=>kernel_rfl
  case qd=>exact rfl
  refine hK.out _ _ trivial (fun hzz=>?_);refine vk (rs:=[2]) (by kernel_rfl) (by simp) ?_;apply uP
  case ho=>exact rfl
  case hs=>exact uW
  intro Kk hK;with_reducible refine dt ?qg 27 (.tmp 5) ?qo (w.heap.size+1) 0 ?qxz (aI Ba Ca ab nb cb aj nj cj) _ Na.o.row underlying27 ?qd iL ?_
  case qg | qo=>exact rfl
  case qxz=>kernel_rfl
  case qd=>exact rfl
  refine hK.out _ _ trivial (fun hzz=>?_);refine vk (rs:=[3]) (by kernel_rfl) (by simp) ?_;apply uP
  case ho=>exact rfl
  case hs=>exact uW
  intro Kk hK;go_simp;refine(iP w0 R ca Ua Va zs Ib.o (w.heap.size+2) ab aj nb cb nj cj bs qs Ba Ca _ Da.o Kb HS.o Jb Nb.o).mono ?_;rintro e Oa ⟨Ga,id,Ha,Ia,Ja,m0,J,L,T,Y,U,Z,m7,Q,V,Ka,La,t1,t2,p1,p2,p3,p4,a1,a2,a3,a4,n1,n2,n3,n4,c1,c2,c3,c4,z1,z2,z3,z4,rfl,⟨x1,x2,x3,x4⟩,⟨f1,f2,f3,f4⟩,Wa,hr,hg⟩;go_simp;have Db:=Hd (Lb.o.grown hg (by simp;omega));have Xa:=Hd (Na.o.grown hg (by simp;omega));have Eb:=Hd hr;have Fb:=Hd (Ob.o.trans hg);have Gb:=Hd (Da.o.grown hg (fun g hg e=>by have:=(Da.o.lt g hg).1;have:=m2 e;omega));have S1:=Hd x1;have S2:=Hd x2;have S3:=Hd x3;have S4:=Hd x4;have Hb:=m9 Pb hg.size;refine hK.out _ _ trivial (fun hzz=>?_);refine vk (rs:=[4]) (by kernel_rfl) (by simp) ?_;apply uP
  case ho=>exact rfl
  case hs=>exact uW
  intro Kk hK;have hC:=Yb.o ab aj nb cb nj cj bs (qs.map (·.1)) Ba Ca Ga id Ha Ia Ja m0 J L T Y U Z m7 Q V Ka La t1 t2 p1 p2 p3 p4 a1 a2 a3 a4 n1 n2 n3 n4 c1 c2 c3 c4 z1 z2 z3 z4 Oa Gb.o.sees S1.o S2.o S3.o S4.o (by omega) (by omega) (by omega) (by omega);have Pa:=gW Ga id Ha Ia Ja m0 J L T Y U Z m7 Q V Ka La t1 t2 p1 p2 p3 p4 n1 n2 n3 n4 z1 z2 z3 z4 HF.o;generalize ba Ba Ca bs (qs.map (·.1)) Ga id Ha Ia Ja m0 J L T Y U Z m7 Q V Ka La t1 t2 p1 p2 p3 p4 n1 n2 n3 n4 z1 z2 z3 z4=r at hC Pa;have Qb:=Hd Pa;go_simp;refine hC.mono ?_;rintro e Aa ⟨v2,rfl,eb,en,ec,fb,fn,fc,Qa,rfl,Ya,Za,hb⟩;go_simp;have Ab:=Db.b hb;have Ra:=Xa.b hb;have Bb:=Hd (Eb.o.grow hb);have Cb:=Hd (Fb.o.trans (aB hb _));have Sa:=Hd (Ya.mono Hb);have Rb:=Hd Za;refine hK.out _ _ trivial (fun hzz=>?_);refine tk 5 (.tuple #[.agg (aI r.1.now r.1.next eb en ec fb fn fc).toArray,it r.2.1,it r.2.2]) ?_ ?_
  ·intro wq Fa;go_simp
  refine tk 6 (.agg (aI r.1.now r.1.next eb en ec fb fn fc).toArray) ?_ ?_
  ·intro wq Fa;go_simp
  refine tk 7 (it r.2.1) ?_ ?_
  ·intro wq Fa;go_simp
  refine tk 8 (it r.2.2) ?_ ?_
  ·intro wq Fa;go_simp
  refine vk (rs:=[9]) (by kernel_rfl) (by simp) ?_;apply uP
  case ho=>exact rfl
  case hs=>exact uW
  intro Kk hK;have tA:Aa.there (w.heap.size+1) 0 ((aI r.1.now r.1.next eb en ec fb fn fc):List Value).toArray.size:=Ra.o.there _ 4 (by simp);have iA:(prog.info? 27).map (·.size)=some ((aI r.1.now r.1.next eb en ec fb fn fc):List Value).toArray.size:=(show(prog.info? 27).map (·.size)=some 4 by kernel_rfl);with_reducible refine gt ?qg 27 (.tmp 5) (.tmp 22) ?qo (w.heap.size+1) 0 ((aI r.1.now r.1.next eb en ec fb fn fc):List Value).toArray ?qxz ?qyz tA iA ?q1 ?_
  case qg | qo=>exact rfl
  case qxz | qyz | q1=>kernel_rfl
  show Kk _ (Aa.setCells (w.heap.size+1) 0 (aI r.1.now r.1.next eb en ec fb fn fc));have Ea:=ct Aa (w.heap.size+1) 0 (aI r.1.now r.1.next eb en ec fb fn fc);have Sb:H9 (au (Aa.setCells (w.heap.size+1) 0 (aI r.1.now r.1.next eb en ec fb fn fc)) (w.heap.size+1) (aI r.1.now r.1.next eb en ec fb fn fc)):=Ra.o.setCells (aI r.1.now r.1.next eb en ec fb fn fc) 0 (by simp);have Tb:=Hd (Ab.o.grown Ea (by simp));have Ub:H9 (Rd w0 R ca Ua Va (Aa.setCells (w.heap.size+1) 0 (aI r.1.now r.1.next eb en ec fb fn fc))):=Bb.o.cells (by omega) (by omega) _;have Vb:=Hd (aK Cb.o Ea (by omega));have Wb:=Hd (Sa.o.grown Ea (fun g hg e=>by have:=(Sa.o.lt g hg).1;have:=m2 e;omega));refine hK.out _ _ trivial (fun hzz=>?_);refine bg ?_;go_simp;generalize(Aa.setCells (w.heap.size+1) 0 (aI r.1.now r.1.next eb en ec fb fn fc))=we at *;have Xb:H9 (M.Right r.1.now r.1.next r.1.bs (Qa.map (·.1))):=(by show M.Right _ _ _ _;rw[Rb.o];exact Qb.o);go_wp2;go_roundw
  case rel=>exact⟨n-1,r.1.now,r.1.next,eb,en,ec,r.1.bs,fb,fn,fc,Qa,by omega,by first | rw[Ec] | rfl | go_num,Tb.o,Sb.o,Ub.o,Vb.o,Wb.o,Xb.o⟩
  case measure=>simp[intOf];omega
 case hs=>
  apply uP
  case ho=>exact rfl
  case hs=>exact uW
  intro Kk hK;with_reducible refine dt ?qg 27 (.tmp 5) ?qo (w.heap.size+1) 0 ?qxz (aI Ba Ca ab nb cb aj nj cj) _ Na.o.row underlying27 ?qd iL ?_
  case qg | qo=>exact rfl
  case qxz=>kernel_rfl
  case qd=>exact rfl
  refine hK.out _ _ trivial (fun hzz=>?_);refine vk (rs:=[0,3]) (by kernel_rfl) (by simp) ?_;apply uP
  case ho=>exact rfl
  case' h=>
   intro Kk hK;with_reducible refine dt ?qg 27 (.tmp 5) ?qo (w.heap.size+1) 0 ?qxz (aI Ba Ca ab nb cb aj nj cj) _ Na.o.row underlying27 ?qd iL ?_
   case qg | qo=>exact rfl
   case qxz=>kernel_rfl
   case qd=>exact rfl
   refine hK.out _ _ trivial (fun hzz=>?_);refine vk (rs:=[3]) (by kernel_rfl) (by simp) ?_;apply uP
   case ho=>exact rfl
   case hs=>exact uW
   intro Kk hK;go_simp;refine(iP w0 R ca Ua Va zs Ib.o (w.heap.size+2) ab aj nb cb nj cj bs qs Ba Ca _ Da.o Kb HS.o Jb Nb.o).mono ?_;rintro e Oa ⟨Ga,id,Ha,Ia,Ja,m0,J,L,T,Y,U,Z,m7,Q,V,Ka,La,t1,t2,p1,p2,p3,p4,a1,a2,a3,a4,n1,n2,n3,n4,c1,c2,c3,c4,z1,z2,z3,z4,rfl,⟨x1,x2,x3,x4⟩,⟨f1,f2,f3,f4⟩,Wa,hr,hg⟩;go_simp;have Db:=Hd (Lb.o.grown hg (by simp;omega));have Xa:=Hd (Na.o.grown hg (by simp;omega));have Eb:=Hd hr;have Fb:=Hd (Ob.o.trans hg);have Gb:=Hd (Da.o.grown hg (fun g hg e=>by have:=(Da.o.lt g hg).1;have:=m2 e;omega));have S1:=Hd x1;have S2:=Hd x2;have S3:=Hd x3;have S4:=Hd x4;have Hb:=m9 Pb hg.size
  case' hs=>
   apply uP
   case ho=>exact rfl
   case hs=>exact uW
   intro Kk hK;go_simp;refine(iP w0 R ca Ua Va zs Ib.o (w.heap.size+2) ab aj nb cb nj cj bs qs Ba Ca _ Da.o Kb HS.o Jb Nb.o).mono ?_;rintro e Oa ⟨Ga,id,Ha,Ia,Ja,m0,J,L,T,Y,U,Z,m7,Q,V,Ka,La,t1,t2,p1,p2,p3,p4,a1,a2,a3,a4,n1,n2,n3,n4,c1,c2,c3,c4,z1,z2,z3,z4,rfl,⟨x1,x2,x3,x4⟩,⟨f1,f2,f3,f4⟩,Wa,hr,hg⟩;go_simp;have Db:=Hd (Lb.o.grown hg (by simp;omega));have Xa:=Hd (Na.o.grown hg (by simp;omega));have Eb:=Hd hr;have Fb:=Hd (Ob.o.trans hg);have Gb:=Hd (Da.o.grown hg (fun g hg e=>by have:=(Da.o.lt g hg).1;have:=m2 e;omega));have S1:=Hd x1;have S2:=Hd x2;have S3:=Hd x3;have S4:=Hd x4;have Hb:=m9 Pb hg.size;refine hK.out _ _ trivial (fun hzz=>?_);refine vk (rs:=[0]) (by kernel_rfl) (by simp) ?_;apply uP
   case ho=>exact rfl
   case hs=>exact uW
   intro Kk hK;with_reducible refine dt ?qg 27 (.tmp 5) ?qo (w.heap.size+1) 0 ?qxz (aI Ba Ca ab nb cb aj nj cj) _ Xa.o.row underlying27 ?qd iL ?_
   case qg | qo=>exact rfl
   case qxz=>kernel_rfl
   case qd=>exact rfl
  all_goals
   refine hK.out _ _ trivial (fun hzz=>?_);refine vk (rs:=[4]) (by kernel_rfl) (by simp) ?_;apply uP
   case ho=>exact rfl
   case hs=>exact uW
   intro Kk hK;have hC:=Yb.o ab aj nb cb nj cj bs (qs.map (·.1)) Ba Ca Ga id Ha Ia Ja m0 J L T Y U Z m7 Q V Ka La t1 t2 p1 p2 p3 p4 a1 a2 a3 a4 n1 n2 n3 n4 c1 c2 c3 c4 z1 z2 z3 z4 Oa Gb.o.sees S1.o S2.o S3.o S4.o (by omega) (by omega) (by omega) (by omega);have Pa:=gW Ga id Ha Ia Ja m0 J L T Y U Z m7 Q V Ka La t1 t2 p1 p2 p3 p4 n1 n2 n3 n4 z1 z2 z3 z4 HF.o;generalize ba Ba Ca bs (qs.map (·.1)) Ga id Ha Ia Ja m0 J L T Y U Z m7 Q V Ka La t1 t2 p1 p2 p3 p4 n1 n2 n3 n4 z1 z2 z3 z4=r at hC Pa;have Qb:=Hd Pa;go_simp;refine hC.mono ?_;rintro e Aa ⟨v2,rfl,eb,en,ec,fb,fn,fc,Qa,rfl,Ya,Za,hb⟩;go_simp;have Ab:=Db.b hb;have Ra:=Xa.b hb;have Bb:=Hd (Eb.o.grow hb);have Cb:=Hd (Fb.o.trans (aB hb _));have Sa:=Hd (Ya.mono Hb);have Rb:=Hd Za;refine hK.out _ _ trivial (fun hzz=>?_);refine tk 5 (.tuple #[.agg (aI r.1.now r.1.next eb en ec fb fn fc).toArray,it r.2.1,it r.2.2]) ?_ ?_
   ·intro wq Fa;go_simp
   refine tk 6 (.agg (aI r.1.now r.1.next eb en ec fb fn fc).toArray) ?_ ?_
   ·intro wq Fa;go_simp
   refine tk 7 (it r.2.1) ?_ ?_
   ·intro wq Fa;go_simp
   refine tk 8 (it r.2.2) ?_ ?_
   ·intro wq Fa;go_simp
   refine vk (rs:=[9]) (by kernel_rfl) (by simp) ?_;apply uP
   case ho=>exact rfl
   case hs=>exact uW
   intro Kk hK;have tA:Aa.there (w.heap.size+1) 0 ((aI r.1.now r.1.next eb en ec fb fn fc):List Value).toArray.size:=Ra.o.there _ 4 (by simp);have iA:(prog.info? 27).map (·.size)=some ((aI r.1.now r.1.next eb en ec fb fn fc):List Value).toArray.size:=(show(prog.info? 27).map (·.size)=some 4 by kernel_rfl);with_reducible refine gt ?qg 27 (.tmp 5) (.tmp 22) ?qo (w.heap.size+1) 0 ((aI r.1.now r.1.next eb en ec fb fn fc):List Value).toArray ?qxz ?qyz tA iA ?q1 ?_
   case qg | qo=>exact rfl
   case qxz | qyz | q1=>kernel_rfl
   show Kk _ (Aa.setCells (w.heap.size+1) 0 (aI r.1.now r.1.next eb en ec fb fn fc));have Ea:=ct Aa (w.heap.size+1) 0 (aI r.1.now r.1.next eb en ec fb fn fc);have Sb:H9 (au (Aa.setCells (w.heap.size+1) 0 (aI r.1.now r.1.next eb en ec fb fn fc)) (w.heap.size+1) (aI r.1.now r.1.next eb en ec fb fn fc)):=Ra.o.setCells (aI r.1.now r.1.next eb en ec fb fn fc) 0 (by simp);have Tb:=Hd (Ab.o.grown Ea (by simp));have Ub:H9 (Rd w0 R ca Ua Va (Aa.setCells (w.heap.size+1) 0 (aI r.1.now r.1.next eb en ec fb fn fc))):=Bb.o.cells (by omega) (by omega) _;have Vb:=Hd (aK Cb.o Ea (by omega));have Wb:=Hd (Sa.o.grown Ea (fun g hg e=>by have:=(Sa.o.lt g hg).1;have:=m2 e;omega));refine hK.out _ _ trivial (fun hzz=>?_);refine bg ?_;go_simp;generalize(Aa.setCells (w.heap.size+1) 0 (aI r.1.now r.1.next eb en ec fb fn fc))=we at *;have Xb:H9 (M.Right r.1.now r.1.next r.1.bs (Qa.map (·.1))):=(by show M.Right _ _ _ _;rw[Rb.o];exact Qb.o);go_wp2;go_roundw
   case rel=>exact⟨n-1,r.1.now,r.1.next,eb,en,ec,r.1.bs,fb,fn,fc,Qa,by omega,by first | rw[Ec] | rfl | go_num,Tb.o,Sb.o,Ub.o,Vb.o,Wb.o,Xb.o⟩
   case measure=>simp[intOf];omega
theorem qU:jd.p:=by
 intro w0 R ca Wa Xa zs Sc Tc Uc w Vc Bc Wc Xc Yc Zc wq Ad w1 n0 v0 v1 wr Bd Cd Dd Ed Fd Gd Id Jd Kd Ld Nd Od Pd n Fa Ga ab nb cb bs aj nj cj qs hn HF HS Cc Qd hp Sd Td Ud Vd Wd Xd Yd Zd Ae Be wa y y0 y1 Dc Ec Fc Gc Qb Ce De Nc;subst Nc;have Ee:R<w.heap.size+2:=(by omega);have Fe:nb≤9:=(by have h1:=iC HF.o.bn;have h2:=Qb.o.b.len;omega);(go_wp2_with fail);refine wp_region_noPanic ?_;refine wp_region_held_drew (S:=fun _=>True) (by kernel_rfl) (trivial) (fun hHeld=>?_);have Ya:m1 wa wa.drew:=(m5 _ _).drew;have Hc:=Dc.b Ya;have Hb:=Ec.b Ya;have Ic:=Hd (Fc.o.grow Ya);have Jc:=Hd (Gc.o.trans (aB Ya _));have Ib:=Hd (Qb.o.below Ya);have Ge:=trivial;generalize wa.drew=Kc at *;have Lc:w.heap.size+2≤Kc.heap.size:=(by have h9:=Hb.o.2.2;omega);refine tk 0 (.pointer (some ⟨w.heap.size+1,2,none⟩)) ?_ ?_
 ·intro wq Rb;go_simp
 refine tk 2 (.pointer (some ⟨R,0,none⟩)) ?_ ?_
 ·intro wq Rb;go_simp
 refine vk (rs:=[1,3]) (by kernel_rfl) (by simp) ?_;apply uP
 case ho=>exact rfl
 case h=>
  intro Kk hK;have c2:=Hb.o.at 2;have c2':Kc.cell? ⟨w.heap.size+1,2,none⟩=some (.slice ab nb cb):=c2;with_reducible refine dd ?qg 24 (.tmp 34) ?qo ⟨w.heap.size+1,2,none⟩ ?qxz (.slice ab nb cb) (i9 c2') ?_
  case qg | qo=>exact rfl
  case qxz=>kernel_rfl
  refine hK.out _ _ trivial (fun hzz=>?_);refine vk (rs:=[3]) (by kernel_rfl) (by simp) ?_;apply uP
  case ho=>exact rfl
  case hs=>exact uW
  intro Kk hK;go_simp;refine(eT Bc.o 1 9 (by decide) (by decide) (by decide) _ Ic.o).mono ?_;rintro e Na ⟨z,Sb,Tb,rfl,hr,hg⟩;go_simp;have Jb:=Hd (Hc.o.grown hg (by simp;omega));have Bb:=Hd (Hb.o.grown hg (by simp;omega));have Kb:=Hd hr;have Lb:=Hd (Jc.o.trans hg);have Nb:=Hd (Ib.o.grown hg (fun g hg e=>by have:=(Ib.o.lt g hg).1;have:=m2 e;omega));have Ob:=m9 Lc hg.size;refine hK.out _ _ trivial (fun hzz=>?_);refine vk (rs:=[4]) (by kernel_rfl) (by simp) ?_;apply uP
  case ho=>exact rfl
  case hs=>exact uW
  intro Kk hK;with_reducible refine dA ?qg (fun x=>.slice (some ⟨x,0,none⟩) 1 1) (Na.alloc (.cells #[it z] 2)) ?qrun ?_
  case qg=>exact rfl
  case qrun=>kernel_rfl
  intro gb Ka Ra La;have Ca:=fh Na (.cells #[it z] 2);rw[La]at Ca;have Za:=Jb.b Ca;have Ta:=Bb.b Ca;have Ab:=Hd (Kb.o.grow Ca);have Ha:=Hd (Lb.o.trans (aB Ca _));have Sa:=Hd (Nb.o.below Ca);have LJ:H9 (au Ka gb [it z]):=(by show au Ka gb _;rw[←La,←Ra];exact aM _ _ _);have Pb:=m9 Ob Ca.size;refine hK.out _ _ trivial (fun hzz=>?_);refine vk (rs:=[5]) (by kernel_rfl) (by simp) ?_;apply uP
  case ho=>exact rfl
  case hs=>exact uW
  intro Kk hK;have Ub:nb≤1000:=(by omega);with_reducible refine ph ?qg (.tmp 35) (.tmp 38) ?qo ?qsz gb ?qnz Sa.o z LJ.o Ub Pb ?_
  case qg | qo=>exact rfl
  case qsz | qnz=>kernel_rfl
  intro Aa Ba Ia Cb Da;have Ja:∀g,(Value.slice ab nb cb).ownBlock=some g→w.heap.size+2≤g:=fun g e=>(Sa.o.lt g (by simp[b8,br e])).1;have Db:=Hd (Za.o.grown Da (fun e=>by have:=Ja _ e;omega));have Oa:=Hd (Ta.o.grown Da (fun e=>by have:=Ja _ e;omega));have Ua:=Hd Cb;have Eb:H9 (Rd w0 R ca Wa Xa Ia):=Ab.o.keep Da (fun x hx=>by have:=Ja x.block (by rw[hx];rfl);omega) (fun x hx=>by have:=Ja x.block (by rw[hx];rfl);omega);have Fb:H9 (w.grownBy Ia (some R)):=⟨Da.os.trans Ha.o.os,Da.tape.trans Ha.o.tape,Da.output.trans Ha.o.output,m9 Ha.o.size Da.size,fun i hi hr=>(Da.block i (uY hi Ha.o.size) (fun e=>by have:=Ja i e.symm;omega)).trans (Ha.o.block i hi hr)⟩;refine hK.out _ _ trivial (fun hzz=>?_);refine tk 6 (.pointer (some ⟨w.heap.size+1,2,none⟩)) ?_ ?_
  ·intro wq Rb;go_simp
  refine vk (rs:=[7]) (by kernel_rfl) (by simp) ?_;apply uP
  case ho=>exact rfl
  case hs=>exact uW
  intro Kk hK;have c2:=Oa.c 2;have f2:=Oa.o.fr 2;go_simp;have Pa:Ia.grownBy (Ia.setCell ⟨w.heap.size+1,2,none⟩ (.slice Aa (nb+1) Ba)) (some (w.heap.size+1)):=aT _ _ _;have Qa:H9 (au (Ia.setCell ⟨w.heap.size+1,2,none⟩ (.slice Aa (nb+1) Ba)) (w.heap.size+1) (aI Fa Ga Aa (nb+1) Ba aj nj cj)):=Oa.o.set 2 (by simp) _;have Ea:=Hd (Db.o.grown Pa (by simp));have Vb:H9 (Rd w0 R ca Wa Xa (Ia.setCell ⟨w.heap.size+1,2,none⟩ (.slice Aa (nb+1) Ba))):=Eb.o.setS (by omega) (by omega);have Wb:=Hd (aK Fb.o Pa (by omega));have Gb:=Hd (Ua.o.grown Pa (fun g hg e=>by have:=(Ua.o.lt g hg).1;have:=m2 e;omega));refine hK.out _ _ trivial (fun hzz=>?_);refine bg ?_;go_simp;generalize(Ia.setCell ⟨w.heap.size+1,2,none⟩ (.slice Aa (nb+1) Ba))=wg at *;have r0:=Ea.c 0;have Oc:=Ea.o.fr 0;have r1:=Ea.c 1;have Pc:=Ea.o.fr 1;have r2:=Ea.c 2;have Qc:=Ea.o.fr 2;have r3:=Ea.c 3;have Rc:=Ea.o.fr 3;have o0:=Qa.c 0;have o1:=Qa.c 1;have o2:=Qa.c 2;have o3:=Qa.c 3;(go_wp2_with fail);show bodyPost _ _ _ _ _ (wg.setCells w.heap.size 0 (aI Fa Ga Aa (nb+1) Ba aj nj cj));have Xb:au (wg.setCells w.heap.size 0 (aI Fa Ga Aa (nb+1) Ba aj nj cj)) w.heap.size (aI Fa Ga Aa (nb+1) Ba aj nj cj):=Ea.o.setCells (aI Fa Ga Aa (nb+1) Ba aj nj cj) 0 (by simp);have Va:=ct wg w.heap.size 0 (aI Fa Ga Aa (nb+1) Ba aj nj cj);have Yb:Rd w0 R ca Wa Xa (wg.setCells w.heap.size 0 (aI Fa Ga Aa (nb+1) Ba aj nj cj)):=Vb.o.cells (by omega) (by omega) _;have Zb:=aK Wb.o Va (m3 _);have Ac:=(Gb.o.grown Va (fun g hg e=>by have:=(Gb.o.lt g hg).1;have:=m2 e;omega)).mono (show w.heap.size≤w.heap.size+2 by omega);generalize(wg.setCells w.heap.size 0 (aI Fa Ga Aa (nb+1) Ba aj nj cj))=wf at *;exact m8 (aQ rfl rfl (u' wf w.heap.size 0 27 _ _ Xb.row underlying27 rfl (by kernel_rfl))) rfl ⟨_,_,_,_,_,_,_,_,_,_,rfl,Ac,HS.o,Cc,Yb,Zb⟩
 case hs=>
  apply uP
  case ho=>exact rfl
  case hs=>exact uW
  intro Kk hK;go_simp;refine(eT Bc.o 1 9 (by decide) (by decide) (by decide) _ Ic.o).mono ?_;rintro e Na ⟨z,Sb,Tb,rfl,hr,hg⟩;go_simp;have Jb:=Hd (Hc.o.grown hg (by simp;omega));have Bb:=Hd (Hb.o.grown hg (by simp;omega));have Kb:=Hd hr;have Lb:=Hd (Jc.o.trans hg);have Nb:=Hd (Ib.o.grown hg (fun g hg e=>by have:=(Ib.o.lt g hg).1;have:=m2 e;omega));have Ob:=m9 Lc hg.size;refine hK.out _ _ trivial (fun hzz=>?_);refine vk (rs:=[1,4]) (by kernel_rfl) (by simp) ?_;apply uP
  case ho=>exact rfl
  case' h=>
   intro Kk hK;have c2:=Bb.o.at 2;have c2':Na.cell? ⟨w.heap.size+1,2,none⟩=some (.slice ab nb cb):=c2;with_reducible refine dd ?qg 24 (.tmp 34) ?qo ⟨w.heap.size+1,2,none⟩ ?qxz (.slice ab nb cb) (i9 c2') ?_
   case qg | qo=>exact rfl
   case qxz=>kernel_rfl
   refine hK.out _ _ trivial (fun hzz=>?_);refine vk (rs:=[4]) (by kernel_rfl) (by simp) ?_;apply uP
   case ho=>exact rfl
   case hs=>exact uW
   intro Kk hK;with_reducible refine dA ?qg (fun x=>.slice (some ⟨x,0,none⟩) 1 1) (Na.alloc (.cells #[it z] 2)) ?qrun ?_
   case qg=>exact rfl
   case qrun=>kernel_rfl
   intro gb Ka Ra La;have Ca:=fh Na (.cells #[it z] 2);rw[La]at Ca;have Za:=Jb.b Ca;have Ta:=Bb.b Ca;have Ab:=Hd (Kb.o.grow Ca);have Ha:=Hd (Lb.o.trans (aB Ca _));have Sa:=Hd (Nb.o.below Ca);have LJ:H9 (au Ka gb [it z]):=(by show au Ka gb _;rw[←La,←Ra];exact aM _ _ _);have Pb:=m9 Ob Ca.size
  case' hs=>
   apply uP
   case ho=>exact rfl
   case hs=>exact uW
   intro Kk hK;with_reducible refine dA ?qg (fun x=>.slice (some ⟨x,0,none⟩) 1 1) (Na.alloc (.cells #[it z] 2)) ?qrun ?_
   case qg=>exact rfl
   case qrun=>kernel_rfl
   intro gb Ka Ra La;have Ca:=fh Na (.cells #[it z] 2);rw[La]at Ca;have Za:=Jb.b Ca;have Ta:=Bb.b Ca;have Ab:=Hd (Kb.o.grow Ca);have Ha:=Hd (Lb.o.trans (aB Ca _));have Sa:=Hd (Nb.o.below Ca);have LJ:H9 (au Ka gb [it z]):=(by show au Ka gb _;rw[←La,←Ra];exact aM _ _ _);have Pb:=m9 Ob Ca.size;refine hK.out _ _ trivial (fun hzz=>?_);refine vk (rs:=[1]) (by kernel_rfl) (by simp) ?_;apply uP
   case ho=>exact rfl
   case hs=>exact uW
   intro Kk hK;have c2:=Ta.o.at 2;have c2':Ka.cell? ⟨w.heap.size+1,2,none⟩=some (.slice ab nb cb):=c2;with_reducible refine dd ?qg 24 (.tmp 34) ?qo ⟨w.heap.size+1,2,none⟩ ?qxz (.slice ab nb cb) (i9 c2') ?_
   case qg | qo=>exact rfl
   case qxz=>kernel_rfl
  all_goals
   refine hK.out _ _ trivial (fun hzz=>?_);refine vk (rs:=[5]) (by kernel_rfl) (by simp) ?_;apply uP
   case ho=>exact rfl
   case hs=>exact uW
   intro Kk hK;have Ub:nb≤1000:=(by omega);with_reducible refine ph ?qg (.tmp 35) (.tmp 38) ?qo ?qsz gb ?qnz Sa.o z LJ.o Ub Pb ?_
   case qg | qo=>exact rfl
   case qsz | qnz=>kernel_rfl
   intro Aa Ba Ia Cb Da;have Ja:∀g,(Value.slice ab nb cb).ownBlock=some g→w.heap.size+2≤g:=fun g e=>(Sa.o.lt g (by simp[b8,br e])).1;have Db:=Hd (Za.o.grown Da (fun e=>by have:=Ja _ e;omega));have Oa:=Hd (Ta.o.grown Da (fun e=>by have:=Ja _ e;omega));have Ua:=Hd Cb;have Eb:H9 (Rd w0 R ca Wa Xa Ia):=Ab.o.keep Da (fun x hx=>by have:=Ja x.block (by rw[hx];rfl);omega) (fun x hx=>by have:=Ja x.block (by rw[hx];rfl);omega);have Fb:H9 (w.grownBy Ia (some R)):=⟨Da.os.trans Ha.o.os,Da.tape.trans Ha.o.tape,Da.output.trans Ha.o.output,m9 Ha.o.size Da.size,fun i hi hr=>(Da.block i (uY hi Ha.o.size) (fun e=>by have:=Ja i e.symm;omega)).trans (Ha.o.block i hi hr)⟩;refine hK.out _ _ trivial (fun hzz=>?_);refine tk 6 (.pointer (some ⟨w.heap.size+1,2,none⟩)) ?_ ?_
   ·intro wq Rb;go_simp
   refine vk (rs:=[7]) (by kernel_rfl) (by simp) ?_;apply uP
   case ho=>exact rfl
   case hs=>exact uW
   intro Kk hK;have c2:=Oa.c 2;have f2:=Oa.o.fr 2;go_simp;have Pa:Ia.grownBy (Ia.setCell ⟨w.heap.size+1,2,none⟩ (.slice Aa (nb+1) Ba)) (some (w.heap.size+1)):=aT _ _ _;have Qa:H9 (au (Ia.setCell ⟨w.heap.size+1,2,none⟩ (.slice Aa (nb+1) Ba)) (w.heap.size+1) (aI Fa Ga Aa (nb+1) Ba aj nj cj)):=Oa.o.set 2 (by simp) _;have Ea:=Hd (Db.o.grown Pa (by simp));have Vb:H9 (Rd w0 R ca Wa Xa (Ia.setCell ⟨w.heap.size+1,2,none⟩ (.slice Aa (nb+1) Ba))):=Eb.o.setS (by omega) (by omega);have Wb:=Hd (aK Fb.o Pa (by omega));have Gb:=Hd (Ua.o.grown Pa (fun g hg e=>by have:=(Ua.o.lt g hg).1;have:=m2 e;omega));refine hK.out _ _ trivial (fun hzz=>?_);refine bg ?_;go_simp;generalize(Ia.setCell ⟨w.heap.size+1,2,none⟩ (.slice Aa (nb+1) Ba))=wg at *;have r0:=Ea.c 0;have Oc:=Ea.o.fr 0;have r1:=Ea.c 1;have Pc:=Ea.o.fr 1;have r2:=Ea.c 2;have Qc:=Ea.o.fr 2;have r3:=Ea.c 3;have Rc:=Ea.o.fr 3;have o0:=Qa.c 0;have o1:=Qa.c 1;have o2:=Qa.c 2;have o3:=Qa.c 3;(go_wp2_with fail);show bodyPost _ _ _ _ _ (wg.setCells w.heap.size 0 (aI Fa Ga Aa (nb+1) Ba aj nj cj));have Xb:au (wg.setCells w.heap.size 0 (aI Fa Ga Aa (nb+1) Ba aj nj cj)) w.heap.size (aI Fa Ga Aa (nb+1) Ba aj nj cj):=Ea.o.setCells (aI Fa Ga Aa (nb+1) Ba aj nj cj) 0 (by simp);have Va:=ct wg w.heap.size 0 (aI Fa Ga Aa (nb+1) Ba aj nj cj);have Yb:Rd w0 R ca Wa Xa (wg.setCells w.heap.size 0 (aI Fa Ga Aa (nb+1) Ba aj nj cj)):=Vb.o.cells (by omega) (by omega) _;have Zb:=aK Wb.o Va (m3 _);have Ac:=(Gb.o.grown Va (fun g hg e=>by have:=(Gb.o.lt g hg).1;have:=m2 e;omega)).mono (show w.heap.size≤w.heap.size+2 by omega);generalize(wg.setCells w.heap.size 0 (aI Fa Ga Aa (nb+1) Ba aj nj cj))=wf at *;exact m8 (aQ rfl rfl (u' wf w.heap.size 0 27 _ _ Xb.row underlying27 rfl (by kernel_rfl))) rfl ⟨_,_,_,_,_,_,_,_,_,_,rfl,Ac,HS.o,Cc,Yb,Zb⟩
theorem oT:j4:=jd.h ⟨qU⟩ ⟨mN⟩
end Go.Proofs.YtobnifjhikoleaaGreatDoor
