import Derived.Test.YtfhknkppiidnkaaGreatPk00
import Derived.Test.YtfhknkppiidnkaaGreatPk01
import Derived.Test.YtfhknkppiidnkaaGreatPk03
import Derived.Test.YtfhknkppiidnkaaGreatPk08
import Derived.Test.YtfhknkppiidnkaaGreatPk15
import Derived.Test.YtfhknkppiidnkaaGreatPk19
namespace Go.Proofs.YtfhknkppiidnkaaGreat
open Go.RowKit
set_option maxHeartbeats 32000000
set_option maxRecDepth 10000
theorem M.Right.shape {now next:Int} {bs:List Int} {qs:List MQ} (h:M.Right now next bs (qs.map (·.1))):(∀ q∈qs,0≤q.1.rows∧q.1.rows≤16∧q.1.ts.length≤8):=fun q hq=>by
 have hm:q.1∈qs.map (·.1):=List.mem_map.2 ⟨q,hq,rfl⟩;have h1:=(h.jok hm);have h2:=(h.tasks _ hm).2;have h3:=M.rows_yes h1.r;exact ⟨by omega,by omega,h2⟩
def MarkPost (w0 w:World) (R:Nat) (ca:Option Addr) (len cap:Nat) (e:Ending) (W:World):Prop:=∃ (now next:Int) (ab:Option Addr) (nb cb:Nat) (bs:List Int) (aj:Option Addr) (nj cj:Nat) (qs:List MQ),
 e=.returned (.agg #[.int .i64 now,.int .i64 next,.slice ab nb cb,.slice aj nj cj])∧MktO W w.heap.size ab nb cb bs aj nj cj qs∧(∀ q∈qs,0≤q.1.rows∧q.1.rows≤16∧q.1.ts.length≤8)∧nj≤6∧Rd w0 R ca len cap W∧w.grownBy W (some R)
theorem specAct_right {now next:Int} {bs:List Int} {js:List M.Jb} (kind id part worker many m0 m1 m2 m3 m4 m5 m6 m7 m8 m9 m10 m11 t1 t2 p1 p2 p3 p4:Int) (n1 n2 n3 n4:Nat) (z1 z2 z3 z4:List Int) (h:M.Right now next bs js):(specAct now next bs js kind id part worker many m0 m1 m2 m3 m4 m5 m6 m7 m8 m9 m10 m11 t1 t2 p1 p2 p3 p4 n1 n2 n3 n4 z1 z2 z3 z4).1.right:=M.acted_right (m:=⟨now,next,bs,js⟩) h
set_option linter.unusedVariables false in
def MarketGoal : Prop:=∀ (_:ActedGoal) (w0:World) (R:Nat) (ca:Option Addr) (len cap:Nat) (zs:List Int) (hrow:Row .u8 w0 ca len cap zs) (most:Int) (hm0:0≤most) (hm1:most≤99) (w:World) (h:Rd w0 R ca len cap w),Calls Tryz.prog 17 #[.pointer (some ⟨R,0,none⟩),.int .i64 most] w (MarkPost w0 w R ca len cap)
def marketCut : Cut2 MarketGoal:=by
 apply Cut2.mk
 case h =>
 intro key1 key2 Gb w0 R ca Ja Ka zs Hb Ra Ib Jb w h;have Kb:H9 ActedGoal:=Gb;clear Gb;have Sa:=Hd (Hb);have Lb:R<w.heap.size:=h.hi;have Nb:w0.heap.size≤w.heap.size:=h.below.size;have Ob:Below w.heap.size w ((w.alloc (.cells v10'.toArray 27)).alloc (.cells v29'.toArray 27)):=((Below.refl _ _).alloc (Nat.le_refl _) _).alloc (by simp) _;have La:H9 (Lies ((w.alloc (.cells v10'.toArray 27)).alloc (.cells v29'.toArray 27)) w.heap.size v10'):=(lies_new _ _ _).alloc _;have Ia:H9 (Lies ((w.alloc (.cells v10'.toArray 27)).alloc (.cells v29'.toArray 27)) (w.heap.size+1) v29'):=lies_new2 _ _ _ _;have Na:H9 (Rd w0 R ca Ja Ka ((w.alloc (.cells v10'.toArray 27)).alloc (.cells v29'.toArray 27))):=(h.alloc _).alloc _;have Oa:H9 (w.grownBy ((w.alloc (.cells v10'.toArray 27)).alloc (.cells v29'.toArray 27)) (some R)):=grown_of_below Ob _;have Fa:H9 (MktO ((w.alloc (.cells v10'.toArray 27)).alloc (.cells v29'.toArray 27)) (w.heap.size+2) none 0 0 [] none 0 0 []):=MktO.zero _ _;have Bb:((w.alloc (.cells v10'.toArray 27)).alloc (.cells v29'.toArray 27)).heap.size=w.heap.size+2:=(by simp);have Pb:IntKind.i64.wrap (Ra+1)=Ra+1:=(by rw [IntKind.wrap_i64];omega);clear Ob h Hb;go_enter Tryz.func17,Tryz.ntmps17;(go_wp2_with fail);generalize ((w.alloc (.cells v10'.toArray 27)).alloc (.cells v29'.toArray 27))=wq at Bb La Ia Na Oa Fa ⊢;refine (below_any Sa.o (Ra+1) (by omega) (by omega) _ Na.o).mono ?_;rintro e w1 ⟨v,v0,v1,rfl,hr,hg⟩;have Ba:=Hd (La.o.grown hg (by simp;omega));have Da:=Hd (Ia.o.grown hg (by simp;omega));have Pa:=Hd (hr);have Qa:=Hd (Oa.o.trans hg);have Ga:=Hd (Fa.o.grown hg (fun g hg e=>by have:=(Fa.o.lt g hg).1;have:=Option.some.inj e;omega));clear La Ia Na Oa Fa;clear hg hr;obtain ⟨n0,Ac⟩:∃ n:Nat,v=(n:Int):=⟨v.toNat,by omega⟩;subst Ac;have Qb:H9 (M.Right 0 1 [] []):=M.right_iff (by decide);go_wp2_with fail
 go_loopw [6] (fun x wr=>∃ (n:Nat) (Ca Aa:Int) (ab:Option Addr) (nb cb:Nat) (bs:List Int) (aj:Option Addr) (nj cj:Nat) (qs:List MQ),n≤100∧x=it n∧Lies wr w.heap.size v10'∧Lies wr (w.heap.size+1) (v4' Ca Aa ab nb cb aj nj cj)∧Rd w0 R ca Ja Ka wr∧w.grownBy wr (some R)∧MktO wr (w.heap.size+2) ab nb cb bs aj nj cj qs∧M.Right Ca Aa bs (qs.map (·.1))) (fun x _=>(intOf x).toNat)
 case atStart=>exact ⟨n0,0,1,none,0,0,[],none,0,0,[],by omega,rfl,Ba.o,Da.o,Pa.o,Qa.o,Ga.o,Qb.o⟩
 case round =>
  obtain ⟨n,Ca,Aa,ab,nb,cb,bs,aj,nj,cj,qs,hn,rfl,hZ,hM,Rb,Sb,hO,hF⟩:=hrel;clear Ba Da Pa Qa Ga;have HF:=Hd (hF);have HS:H9 (∀ q∈qs,0≤q.1.rows∧q.1.rows≤16∧q.1.ts.length≤8):=hF.shape;have Za:nj≤6:=(by have h1:=hF.few;have h2:=hO.jl;rw [List.length_map] at h1;omega);clear hF Qb;have La:=Hd (hZ);have Ia:=Hd (hM);have Na:=Hd (Rb);have Oa:=Hd (Sb);have Fa:=Hd (hO);clear hZ hM Rb Sb hO;have Tb:w.heap.size+2≤wr.heap.size:=(by have:=Ia.o;have:=this.2.2;omega);by_cases hp:0<n
  case neg =>
   have Cb:¬ (0:Int)<(n:Int):=(by omega);(go_wp2_with fail);refine (below_any Sa.o 40 (by decide) (by decide) _ Na.o).mono ?_;rintro e wa ⟨y,y0,y1,rfl,hr,hg⟩;have Ba:=Hd (La.o.grown hg (by simp;omega));have Da:=Hd (Ia.o.grown hg (by simp;omega));have Pa:=Hd (hr);have Qa:=Hd (Oa.o.trans hg);have Ga:=Hd (Fa.o.grown hg (fun g hg e=>by have:=(Fa.o.lt g hg).1;have:=Option.some.inj e;omega));clear La Ia Na Oa Fa;clear hg hr;by_cases Db:y=38
   case pos =>
    subst Db;(go_wp2_with fail);refine (off_any Sa.o 0 9 (by decide) (by decide) (by decide) _ Pa.o).mono ?_;rintro e wb ⟨z,z0,z1,rfl,hr,hg⟩;have Ub:=Hd (Ba.o.grown hg (by simp;omega));have Ta:=Hd (Da.o.grown hg (by simp;omega));have Vb:=Hd (hr);have Wb:=Hd (Qa.o.trans hg);have Eb:=Hd (Ga.o.grown hg (fun g hg e=>by have:=(Ga.o.lt g hg).1;have:=Option.some.inj e;omega));clear Ba Da Pa Qa Ga;clear hg hr;clear z0 z1;have o0:=Ta.o.c 0 rfl;have Bc:=Ta.o.fr 0;clear o0 Bc;(go_wp2_with (with_reducible refine wpList_stopn ?_ ?_;rfl));with_reducible refine svl 2 (w.heap.size+1) 0 (it z) ?q6 ?q5 ?_
    case q6=>exact Ta.o.there 0 1 (by simp)
    case q5=>exact ⟨rfl,rfl,rfl,by kernel_rfl,_,_,rfl,by kernel_rfl,by kernel_rfl⟩
    have Ab:=gcs wb (w.heap.size+1) 0 [it z];have Ea:=Hd (Ub.o.grown Ab (by simp));have Ua:H9 (Lies (wb.setCells (w.heap.size+1) 0 [it z]) (w.heap.size+1) (v4' z Aa ab nb cb aj nj cj)):=Ta.o.setCells [it z] 0 (by simp);have Xb:H9 (Rd w0 R ca Ja Ka (wb.setCells (w.heap.size+1) 0 [it z])):=Vb.o.cells (by omega) (by omega) _;have Yb:=Hd (grown_new Wb.o Ab (by omega));have Fb:=Hd (Eb.o.grown Ab (fun g hg e=>by have:=(Eb.o.lt g hg).1;have:=Option.some.inj e;omega));clear Ab Ub Ta Vb Wb Eb;generalize (wb.setCells (w.heap.size+1) 0 [it z])=wc at Ea Ua Xb Yb Fb  ⊢;have r0:=Ea.o.c 0 rfl;have Cc:=Ea.o.fr 0;have r1:=Ea.o.c 1 rfl;have Dc:=Ea.o.fr 1;have r2:=Ea.o.c 2 rfl;have Ec:=Ea.o.fr 2;have r3:=Ea.o.c 3 rfl;have Fc:=Ea.o.fr 3;have o0:=Ua.o.c 0 rfl;have o1:=Ua.o.c 1 rfl;have o2:=Ua.o.c 2 rfl;have o3:=Ua.o.c 3 rfl;(go_wp2_with fail);show bodyPost _ _ _ _ _ (wc.setCells w.heap.size 0 (v4' z Aa ab nb cb aj nj cj));have Va:Lies (wc.setCells w.heap.size 0 (v4' z Aa ab nb cb aj nj cj)) w.heap.size (v4' z Aa ab nb cb aj nj cj):=Ea.o.setCells (v4' z Aa ab nb cb aj nj cj) 0 (by simp);have Ha:=gcs wc w.heap.size 0 (v4' z Aa ab nb cb aj nj cj);have Wa:Rd w0 R ca Ja Ka (wc.setCells w.heap.size 0 (v4' z Aa ab nb cb aj nj cj)):=Xb.o.cells (by omega) (by omega) _;have Xa:w.grownBy (wc.setCells w.heap.size 0 (v4' z Aa ab nb cb aj nj cj)) (some R):=grown_new Yb.o Ha (Nat.le_refl _);have Ya:=(Fb.o.grown Ha (fun g hg e=>by have:=(Fb.o.lt g hg).1;have:=Option.some.inj e;omega)).mono (show w.heap.size≤w.heap.size+2 by omega);generalize (wc.setCells w.heap.size 0 (v4' z Aa ab nb cb aj nj cj))=wf at Va Wa Xa Ya Ha ⊢;clear Ha;exact bodyPost_ret (results_cell rfl rfl (run_loadVar_mid wf w.heap.size 0 27 _ _ Va.row Tryz.underlying27 rfl (by kernel_rfl))) rfl ⟨_,_,_,_,_,_,_,_,_,_,rfl,Ya,HS.o,Za,Wa,Xa⟩
   case neg =>
    have Gc:(y == 38)=false:=(by simp [Db]);by_cases Zb:y=39
    case pos =>
     rename_i Hc Ic Jc Kc Lc Nc Oc Pc Qc Rc;revert w0 R ca Ja Ka zs Ra Ib Jb w Kb Sa Lb Nb Pb Hc wq Bb w1 n0 v0 v1 wr u12 u13 u14 u15 u16 u17 u18 u19 u20 u21 u22 u23 u24 n Ca Aa ab nb cb bs aj nj cj qs hn HF HS Za Tb hp Ic Jc Kc Lc Nc Oc Pc Qc Rc Cb wa y y0 y1 Ba Da Pa Qa Ga Db Gc Zb;exact key1.out
    case neg =>
     have Xc:(y == 39)=false:=(by simp [Zb]);have r0:=Ba.o.c 0 rfl;have Cc:=Ba.o.fr 0;have r1:=Ba.o.c 1 rfl;have Dc:=Ba.o.fr 1;have r2:=Ba.o.c 2 rfl;have Ec:=Ba.o.fr 2;have r3:=Ba.o.c 3 rfl;have Fc:=Ba.o.fr 3;have o0:=Da.o.c 0 rfl;have o1:=Da.o.c 1 rfl;have o2:=Da.o.c 2 rfl;have o3:=Da.o.c 3 rfl;(go_wp2_with fail);show bodyPost _ _ _ _ _ (wa.setCells w.heap.size 0 (v4' Ca Aa ab nb cb aj nj cj));have Va:Lies (wa.setCells w.heap.size 0 (v4' Ca Aa ab nb cb aj nj cj)) w.heap.size (v4' Ca Aa ab nb cb aj nj cj):=Ba.o.setCells (v4' Ca Aa ab nb cb aj nj cj) 0 (by simp);have Ha:=gcs wa w.heap.size 0 (v4' Ca Aa ab nb cb aj nj cj);have Wa:Rd w0 R ca Ja Ka (wa.setCells w.heap.size 0 (v4' Ca Aa ab nb cb aj nj cj)):=Pa.o.cells (by omega) (by omega) _;have Xa:w.grownBy (wa.setCells w.heap.size 0 (v4' Ca Aa ab nb cb aj nj cj)) (some R):=grown_new Qa.o Ha (Nat.le_refl _);have Ya:=(Ga.o.grown Ha (fun g hg e=>by have:=(Ga.o.lt g hg).1;have:=Option.some.inj e;omega)).mono (show w.heap.size≤w.heap.size+2 by omega);generalize (wa.setCells w.heap.size 0 (v4' Ca Aa ab nb cb aj nj cj))=wf at Va Wa Xa Ya Ha ⊢;clear Ha;exact bodyPost_ret (results_cell rfl rfl (run_loadVar_mid wf w.heap.size 0 27 _ _ Va.row Tryz.underlying27 rfl (by kernel_rfl))) rfl ⟨_,_,_,_,_,_,_,_,_,_,rfl,Ya,HS.o,Za,Wa,Xa⟩
  case pos =>
   have Cb:(0:Int)<(n:Int):=(by omega);(go_wp2_with fail);rename_i Sc Tc Uc Vc Wc;revert w0 R ca Ja Ka zs Ra Ib Jb w Kb Sa Lb Nb Pb Sc Tc wq Bb w1 n0 v0 v1 wr u12 u13 u14 u15 u16 u17 u18 u19 u20 u21 u22 u23 u24 n Ca Aa ab nb cb bs aj nj cj qs hn HF HS Za La Ia Na Oa Fa Tb hp Cb Uc Vc Wc;exact key2.out
theorem market_round : marketCut.q:=by
 intro w0 R ca Ua Va zs Gc Hc Ic w Yb Sb Jc Kc Lc Nc Oc wq Pc w1 n0 v0 v1 wr Qc Rc Sc Tc Uc Vc Wc Xc Yc Zc Ad Bd Cd n Ca Da ab nb cb bs aj nj cj qs hn HF HS Tb Zb Ac Bc Cc Dc Fc hp Dd Ed Fd Gd;have Ec:IntKind.i64.wrap ((n:Int)-1)=((n-1:Nat):Int):=(by rw [IntKind.wrap_i64];omega);have Ub:R<w.heap.size+2:=(by omega);refine wp_region_noPanic ?_;refine wp_region_held_drew (S:=fun _=>True) (by kernel_rfl) (trivial) (fun hHeld=>?_);have Ta:Below wr.heap.size wr wr.drew:=(Below.refl _ _).drew;have Ib:=Hd (Zb.o.belowS Ta);have Ga:=Hd (Ac.o.belowS Ta);have Jb:=Hd (Bc.o.grow Ta);have Kb:=Hd (Cc.o.trans (grown_of_below Ta _));have Ea:=Hd (Dc.o.below Ta);have Id:True:=trivial;clear Ta hHeld Zb Ac Bc Cc Dc;have Lb:w.heap.size+2≤wr.drew.heap.size:=Fc;generalize wr.drew=Jd at Ib Ga Jb Kb Ea Lb ⊢;have iL:(Tryz.prog.info? 27).map (·.size)=some ((v4' Ca Da ab nb cb aj nj cj):List Value).length:=(show (Tryz.prog.info? 27).map (·.size)=some 4 by kernel_rfl);refine tk 1 (.pointer (some ⟨R,0,none⟩)) ?_ ?_
 · intro wq Ha;go_simp
 (try simp only [Act.put]);refine wpAnyH_ready (rs:=[0,2]) (by kernel_rfl) (by simp) ?_;apply AllReadyH.cons
 case ho=>exact rfl
 case h =>
  intro Kk hK;with_reducible refine step_load_mid ?qg 27 (.tmp 5) ?qo (w.heap.size+1) 0 ?qxz (v4' Ca Da ab nb cb aj nj cj) _ Ga.o.row Tryz.underlying27 ?qd iL ?_
  case qg | qo=>exact rfl
  case qxz=>kernel_rfl
  case qd=>exact rfl
  refine hK.out _ _ trivial (fun hzz=>?_);clear hK Kk hzz;(try simp only [Act.put]);refine wpAnyH_ready (rs:=[2]) (by kernel_rfl) (by simp) ?_;apply AllReadyH.cons
  case ho=>exact rfl
  case hs=>exact AllReadyH.nil
  intro Kk hK;with_reducible refine step_load_mid ?qg 27 (.tmp 5) ?qo (w.heap.size+1) 0 ?qxz (v4' Ca Da ab nb cb aj nj cj) _ Ga.o.row Tryz.underlying27 ?qd iL ?_
  case qg | qo=>exact rfl
  case qxz=>kernel_rfl
  case qd=>exact rfl
  refine hK.out _ _ trivial (fun hzz=>?_);clear hK Kk hzz;(try simp only [Act.put]);refine wpAnyH_ready (rs:=[3]) (by kernel_rfl) (by simp) ?_;apply AllReadyH.cons
  case ho=>exact rfl
  case hs=>exact AllReadyH.nil
  intro Kk hK;go_simp;refine (mact_any w0 R ca Ua Va zs Sb.o (w.heap.size+2) ab aj nb cb nj cj bs qs Ca Da _ Ea.o Ub HS.o Tb Jb.o).mono ?_;rintro e Aa ⟨Ia,id,Ja,Ka,La,m0,m1,m2,m3,m4,m5,m6,m7,m8,m9,Na,Oa,t1,t2,p1,p2,p3,p4,a1,a2,a3,a4,n1,n2,n3,n4,c1,c2,c3,c4,z1,z2,z3,z4,rfl,⟨x1,x2,x3,x4⟩,⟨f1,f2,f3,f4⟩,Wa,hr,hg⟩;clear Wa;go_simp;have Nb:=Hd (Ib.o.grown hg (by simp;omega));have Xa:=Hd (Ga.o.grown hg (by simp;omega));have Ob:=Hd (hr);have Pb:=Hd (Kb.o.trans hg);have Qb:=Hd (Ea.o.grown hg (fun g hg e=>by have:=(Ea.o.lt g hg).1;have:=Option.some.inj e;omega));have S1:H9 (Sees Aa a1 n1 c1 z1):=x1;have S2:H9 (Sees Aa a2 n2 c2 z2):=x2;have S3:H9 (Sees Aa a3 n3 c3 z3):=x3;have S4:H9 (Sees Aa a4 n4 c4 z4):=x4;have Rb:w.heap.size+2≤Aa.heap.size:=Nat.le_trans Lb hg.size;clear hr hg x1 x2 x3 x4;refine hK.out _ _ trivial (fun hzz=>?_);clear hK Kk hzz;(try simp only [Act.put]);refine wpAnyH_ready (rs:=[4]) (by kernel_rfl) (by simp) ?_;apply AllReadyH.cons
  case ho=>exact rfl
  case hs=>exact AllReadyH.nil
  intro Kk hK;have hC:=Yb.o ab aj nb cb nj cj bs (qs.map (·.1)) Ca Da Ia id Ja Ka La m0 m1 m2 m3 m4 m5 m6 m7 m8 m9 Na Oa t1 t2 p1 p2 p3 p4 a1 a2 a3 a4 n1 n2 n3 n4 c1 c2 c3 c4 z1 z2 z3 z4 Aa Qb.o.sees S1.o S2.o S3.o S4.o (by omega) (by omega) (by omega) (by omega);have Pa:=specAct_right Ia id Ja Ka La m0 m1 m2 m3 m4 m5 m6 m7 m8 m9 Na Oa t1 t2 p1 p2 p3 p4 n1 n2 n3 n4 z1 z2 z3 z4 HF.o;generalize specAct Ca Da bs (qs.map (·.1)) Ia id Ja Ka La m0 m1 m2 m3 m4 m5 m6 m7 m8 m9 Na Oa t1 t2 p1 p2 p3 p4 n1 n2 n3 n4 z1 z2 z3 z4=r at hC Pa;have Vb:H9 r.1.right:=Pa;clear Pa;go_simp;refine hC.mono ?_;clear hC;rintro e Ba ⟨v2,rfl,eb,en,ec,fb,fn,fc,Qa,rfl,Ya,Za,hb⟩;go_simp;have Ab:=Hd (Nb.o.belowS hb);have Ra:=Hd (Xa.o.belowS hb);have Bb:=Hd (Ob.o.grow hb);have Cb:=Hd (Pb.o.trans (grown_of_below hb _));have Sa:H9 (MktO Ba (w.heap.size+2) eb en ec r.1.bs fb fn fc Qa):=Ya.mono Rb;have Wb:=Hd (Za);clear Ya Za hb;refine hK.out _ _ trivial (fun hzz=>?_);clear hK Kk hzz;(try simp only [Act.put]);refine tk 5 (.tuple #[.agg (v4' r.1.now r.1.next eb en ec fb fn fc).toArray,it r.2.1,it r.2.2]) ?_ ?_
  · intro wq Ha;go_simp
  (try simp only [Act.put]);refine tk 6 (.agg (v4' r.1.now r.1.next eb en ec fb fn fc).toArray) ?_ ?_
  · intro wq Ha;go_simp
  (try simp only [Act.put]);refine tk 7 (it r.2.1) ?_ ?_
  · intro wq Ha;go_simp
  (try simp only [Act.put]);refine tk 8 (it r.2.2) ?_ ?_
  · intro wq Ha;go_simp
  (try simp only [Act.put]);refine wpAnyH_ready (rs:=[9]) (by kernel_rfl) (by simp) ?_;apply AllReadyH.cons
  case ho=>exact rfl
  case hs=>exact AllReadyH.nil
  intro Kk hK;have tA:Ba.there (w.heap.size+1) 0 ((v4' r.1.now r.1.next eb en ec fb fn fc):List Value).toArray.size:=Ra.o.there _ 4 (by simp);have iA:(Tryz.prog.info? 27).map (·.size)=some ((v4' r.1.now r.1.next eb en ec fb fn fc):List Value).toArray.size:=(show (Tryz.prog.info? 27).map (·.size)=some 4 by kernel_rfl);with_reducible refine step_store_mid ?qg 27 (.tmp 5) (.tmp 22) ?qo (w.heap.size+1) 0 ((v4' r.1.now r.1.next eb en ec fb fn fc):List Value).toArray ?qxz ?qyz tA iA ?q1 ?_
  case qg | qo=>exact rfl
  case qxz | qyz | q1=>kernel_rfl
  show Kk _ (Ba.setCells (w.heap.size+1) 0 (v4' r.1.now r.1.next eb en ec fb fn fc));have Fa:=gcs Ba (w.heap.size+1) 0 (v4' r.1.now r.1.next eb en ec fb fn fc);have Db:H9 (Lies (Ba.setCells (w.heap.size+1) 0 (v4' r.1.now r.1.next eb en ec fb fn fc)) (w.heap.size+1) (v4' r.1.now r.1.next eb en ec fb fn fc)):=Ra.o.setCells (v4' r.1.now r.1.next eb en ec fb fn fc) 0 (by simp);have Eb:=Hd (Ab.o.grown Fa (by simp));have Fb:H9 (Rd w0 R ca Ua Va (Ba.setCells (w.heap.size+1) 0 (v4' r.1.now r.1.next eb en ec fb fn fc))):=Bb.o.cells (by omega) (by omega) _;have Gb:=Hd (grown_new Cb.o Fa (by omega));have Hb:=Hd (Sa.o.grown Fa (fun g hg e=>by have:=(Sa.o.lt g hg).1;have:=Option.some.inj e;omega));clear tA iA Fa Ra Ab Bb Cb Sa;refine hK.out _ _ trivial (fun hzz=>?_);clear hK Kk hzz;(try simp only [Act.put]);refine dne' ?_;go_simp;generalize (Ba.setCells (w.heap.size+1) 0 (v4' r.1.now r.1.next eb en ec fb fn fc))=we at Db Eb Fb Gb Hb ⊢;have Xb:H9 (M.Right r.1.now r.1.next r.1.bs (Qa.map (·.1))):=(by show M.Right _ _ _ _;rw [Wb.o];exact Vb.o);go_wp2;go_roundw
  case rel=>exact ⟨n-1,r.1.now,r.1.next,eb,en,ec,r.1.bs,fb,fn,fc,Qa,by omega,by first | rw [Ec] | rfl | go_num,Eb.o,Db.o,Fb.o,Gb.o,Hb.o,Xb.o⟩
  case measure=>simp [intOf];omega
 case hs =>
  apply AllReadyH.cons
  case ho=>exact rfl
  case hs=>exact AllReadyH.nil
  intro Kk hK;with_reducible refine step_load_mid ?qg 27 (.tmp 5) ?qo (w.heap.size+1) 0 ?qxz (v4' Ca Da ab nb cb aj nj cj) _ Ga.o.row Tryz.underlying27 ?qd iL ?_
  case qg | qo=>exact rfl
  case qxz=>kernel_rfl
  case qd=>exact rfl
  refine hK.out _ _ trivial (fun hzz=>?_);clear hK Kk hzz;(try simp only [Act.put]);refine wpAnyH_ready (rs:=[0,3]) (by kernel_rfl) (by simp) ?_;apply AllReadyH.cons
  case ho=>exact rfl
  case' h =>
   intro Kk hK;with_reducible refine step_load_mid ?qg 27 (.tmp 5) ?qo (w.heap.size+1) 0 ?qxz (v4' Ca Da ab nb cb aj nj cj) _ Ga.o.row Tryz.underlying27 ?qd iL ?_
   case qg | qo=>exact rfl
   case qxz=>kernel_rfl
   case qd=>exact rfl
   refine hK.out _ _ trivial (fun hzz=>?_);clear hK Kk hzz;(try simp only [Act.put]);refine wpAnyH_ready (rs:=[3]) (by kernel_rfl) (by simp) ?_;apply AllReadyH.cons
   case ho=>exact rfl
   case hs=>exact AllReadyH.nil
   intro Kk hK;go_simp;refine (mact_any w0 R ca Ua Va zs Sb.o (w.heap.size+2) ab aj nb cb nj cj bs qs Ca Da _ Ea.o Ub HS.o Tb Jb.o).mono ?_;rintro e Aa ⟨Ia,id,Ja,Ka,La,m0,m1,m2,m3,m4,m5,m6,m7,m8,m9,Na,Oa,t1,t2,p1,p2,p3,p4,a1,a2,a3,a4,n1,n2,n3,n4,c1,c2,c3,c4,z1,z2,z3,z4,rfl,⟨x1,x2,x3,x4⟩,⟨f1,f2,f3,f4⟩,Wa,hr,hg⟩;clear Wa;go_simp;have Nb:=Hd (Ib.o.grown hg (by simp;omega));have Xa:=Hd (Ga.o.grown hg (by simp;omega));have Ob:=Hd (hr);have Pb:=Hd (Kb.o.trans hg);have Qb:=Hd (Ea.o.grown hg (fun g hg e=>by have:=(Ea.o.lt g hg).1;have:=Option.some.inj e;omega));have S1:H9 (Sees Aa a1 n1 c1 z1):=x1;have S2:H9 (Sees Aa a2 n2 c2 z2):=x2;have S3:H9 (Sees Aa a3 n3 c3 z3):=x3;have S4:H9 (Sees Aa a4 n4 c4 z4):=x4;have Rb:w.heap.size+2≤Aa.heap.size:=Nat.le_trans Lb hg.size;clear hr hg x1 x2 x3 x4
  case' hs =>
   apply AllReadyH.cons
   case ho=>exact rfl
   case hs=>exact AllReadyH.nil
   intro Kk hK;go_simp;refine (mact_any w0 R ca Ua Va zs Sb.o (w.heap.size+2) ab aj nb cb nj cj bs qs Ca Da _ Ea.o Ub HS.o Tb Jb.o).mono ?_;rintro e Aa ⟨Ia,id,Ja,Ka,La,m0,m1,m2,m3,m4,m5,m6,m7,m8,m9,Na,Oa,t1,t2,p1,p2,p3,p4,a1,a2,a3,a4,n1,n2,n3,n4,c1,c2,c3,c4,z1,z2,z3,z4,rfl,⟨x1,x2,x3,x4⟩,⟨f1,f2,f3,f4⟩,Wa,hr,hg⟩;clear Wa;go_simp;have Nb:=Hd (Ib.o.grown hg (by simp;omega));have Xa:=Hd (Ga.o.grown hg (by simp;omega));have Ob:=Hd (hr);have Pb:=Hd (Kb.o.trans hg);have Qb:=Hd (Ea.o.grown hg (fun g hg e=>by have:=(Ea.o.lt g hg).1;have:=Option.some.inj e;omega));have S1:H9 (Sees Aa a1 n1 c1 z1):=x1;have S2:H9 (Sees Aa a2 n2 c2 z2):=x2;have S3:H9 (Sees Aa a3 n3 c3 z3):=x3;have S4:H9 (Sees Aa a4 n4 c4 z4):=x4;have Rb:w.heap.size+2≤Aa.heap.size:=Nat.le_trans Lb hg.size;clear hr hg x1 x2 x3 x4;refine hK.out _ _ trivial (fun hzz=>?_);clear hK Kk hzz;(try simp only [Act.put]);refine wpAnyH_ready (rs:=[0]) (by kernel_rfl) (by simp) ?_;apply AllReadyH.cons
   case ho=>exact rfl
   case hs=>exact AllReadyH.nil
   intro Kk hK;with_reducible refine step_load_mid ?qg 27 (.tmp 5) ?qo (w.heap.size+1) 0 ?qxz (v4' Ca Da ab nb cb aj nj cj) _ Xa.o.row Tryz.underlying27 ?qd iL ?_
   case qg | qo=>exact rfl
   case qxz=>kernel_rfl
   case qd=>exact rfl
  all_goals
   refine hK.out _ _ trivial (fun hzz=>?_);clear hK Kk hzz;(try simp only [Act.put]);refine wpAnyH_ready (rs:=[4]) (by kernel_rfl) (by simp) ?_;apply AllReadyH.cons
   case ho=>exact rfl
   case hs=>exact AllReadyH.nil
   intro Kk hK;have hC:=Yb.o ab aj nb cb nj cj bs (qs.map (·.1)) Ca Da Ia id Ja Ka La m0 m1 m2 m3 m4 m5 m6 m7 m8 m9 Na Oa t1 t2 p1 p2 p3 p4 a1 a2 a3 a4 n1 n2 n3 n4 c1 c2 c3 c4 z1 z2 z3 z4 Aa Qb.o.sees S1.o S2.o S3.o S4.o (by omega) (by omega) (by omega) (by omega);have Pa:=specAct_right Ia id Ja Ka La m0 m1 m2 m3 m4 m5 m6 m7 m8 m9 Na Oa t1 t2 p1 p2 p3 p4 n1 n2 n3 n4 z1 z2 z3 z4 HF.o;generalize specAct Ca Da bs (qs.map (·.1)) Ia id Ja Ka La m0 m1 m2 m3 m4 m5 m6 m7 m8 m9 Na Oa t1 t2 p1 p2 p3 p4 n1 n2 n3 n4 z1 z2 z3 z4=r at hC Pa;have Vb:H9 r.1.right:=Pa;clear Pa;go_simp;refine hC.mono ?_;clear hC;rintro e Ba ⟨v2,rfl,eb,en,ec,fb,fn,fc,Qa,rfl,Ya,Za,hb⟩;go_simp;have Ab:=Hd (Nb.o.belowS hb);have Ra:=Hd (Xa.o.belowS hb);have Bb:=Hd (Ob.o.grow hb);have Cb:=Hd (Pb.o.trans (grown_of_below hb _));have Sa:H9 (MktO Ba (w.heap.size+2) eb en ec r.1.bs fb fn fc Qa):=Ya.mono Rb;have Wb:=Hd (Za);clear Ya Za hb;refine hK.out _ _ trivial (fun hzz=>?_);clear hK Kk hzz;(try simp only [Act.put]);refine tk 5 (.tuple #[.agg (v4' r.1.now r.1.next eb en ec fb fn fc).toArray,it r.2.1,it r.2.2]) ?_ ?_
   · intro wq Ha;go_simp
   (try simp only [Act.put]);refine tk 6 (.agg (v4' r.1.now r.1.next eb en ec fb fn fc).toArray) ?_ ?_
   · intro wq Ha;go_simp
   (try simp only [Act.put]);refine tk 7 (it r.2.1) ?_ ?_
   · intro wq Ha;go_simp
   (try simp only [Act.put]);refine tk 8 (it r.2.2) ?_ ?_
   · intro wq Ha;go_simp
   (try simp only [Act.put]);refine wpAnyH_ready (rs:=[9]) (by kernel_rfl) (by simp) ?_;apply AllReadyH.cons
   case ho=>exact rfl
   case hs=>exact AllReadyH.nil
   intro Kk hK;have tA:Ba.there (w.heap.size+1) 0 ((v4' r.1.now r.1.next eb en ec fb fn fc):List Value).toArray.size:=Ra.o.there _ 4 (by simp);have iA:(Tryz.prog.info? 27).map (·.size)=some ((v4' r.1.now r.1.next eb en ec fb fn fc):List Value).toArray.size:=(show (Tryz.prog.info? 27).map (·.size)=some 4 by kernel_rfl);with_reducible refine step_store_mid ?qg 27 (.tmp 5) (.tmp 22) ?qo (w.heap.size+1) 0 ((v4' r.1.now r.1.next eb en ec fb fn fc):List Value).toArray ?qxz ?qyz tA iA ?q1 ?_
   case qg | qo=>exact rfl
   case qxz | qyz | q1=>kernel_rfl
   show Kk _ (Ba.setCells (w.heap.size+1) 0 (v4' r.1.now r.1.next eb en ec fb fn fc));have Fa:=gcs Ba (w.heap.size+1) 0 (v4' r.1.now r.1.next eb en ec fb fn fc);have Db:H9 (Lies (Ba.setCells (w.heap.size+1) 0 (v4' r.1.now r.1.next eb en ec fb fn fc)) (w.heap.size+1) (v4' r.1.now r.1.next eb en ec fb fn fc)):=Ra.o.setCells (v4' r.1.now r.1.next eb en ec fb fn fc) 0 (by simp);have Eb:=Hd (Ab.o.grown Fa (by simp));have Fb:H9 (Rd w0 R ca Ua Va (Ba.setCells (w.heap.size+1) 0 (v4' r.1.now r.1.next eb en ec fb fn fc))):=Bb.o.cells (by omega) (by omega) _;have Gb:=Hd (grown_new Cb.o Fa (by omega));have Hb:=Hd (Sa.o.grown Fa (fun g hg e=>by have:=(Sa.o.lt g hg).1;have:=Option.some.inj e;omega));clear tA iA Fa Ra Ab Bb Cb Sa;refine hK.out _ _ trivial (fun hzz=>?_);clear hK Kk hzz;(try simp only [Act.put]);refine dne' ?_;go_simp;generalize (Ba.setCells (w.heap.size+1) 0 (v4' r.1.now r.1.next eb en ec fb fn fc))=we at Db Eb Fb Gb Hb ⊢;have Xb:H9 (M.Right r.1.now r.1.next r.1.bs (Qa.map (·.1))):=(by show M.Right _ _ _ _;rw [Wb.o];exact Vb.o);go_wp2;go_roundw
   case rel=>exact ⟨n-1,r.1.now,r.1.next,eb,en,ec,r.1.bs,fb,fn,fc,Qa,by omega,by first | rw [Ec] | rfl | go_num,Eb.o,Db.o,Fb.o,Gb.o,Hb.o,Xb.o⟩
   case measure=>simp [intOf];omega
theorem market_ban : marketCut.p:=by
 intro w0 R ca Xa Ya zs Sc Tc Uc w Vc Ec Wc Xc Yc Zc wq Ad w1 n0 v0 v1 wr Bd Cd Dd Ed Fd Gd Id Jd Kd Ld Nd Od Pd n Fa Ga ab nb cb bs aj nj cj qs hn HF HS Fc Qd hp Sd Td Ud Vd Wd Xd Yd Zd Ae Be wa y y0 y1 Gc Hc Ic Jc Wb Ce De Nc;subst Nc;have Ee:R<w.heap.size+2:=(by omega);have Fe:nb≤9:=(by have h1:=M.bn_few HF.o.bn;have h2:=Wb.o.b.len;omega);(go_wp2_with fail);refine wp_region_noPanic ?_;refine wp_region_held_drew (S:=fun _=>True) (by kernel_rfl) (trivial) (fun hHeld=>?_);have Za:Below wa.heap.size wa wa.drew:=(Below.refl _ _).drew;have Xb:=Hd (Gc.o.belowS Za);have Cb:=Hd (Hc.o.belowS Za);have Yb:=Hd (Ic.o.grow Za);have Zb:=Hd (Jc.o.trans (grown_of_below Za _));have Db:=Hd (Wb.o.below Za);have Ge:True:=trivial;clear Za hHeld Gc Hc Ic Jc Wb;generalize wa.drew=Kc at Xb Cb Yb Zb Db ⊢;have Lc:w.heap.size+2≤Kc.heap.size:=(by have h9:=Cb.o.2.2;omega);refine tk 0 (.pointer (some ⟨w.heap.size+1,2,none⟩)) ?_ ?_
 · intro wq Ac;go_simp
 (try simp only [Act.put]);refine tk 2 (.pointer (some ⟨R,0,none⟩)) ?_ ?_
 · intro wq Ac;go_simp
 (try simp only [Act.put]);refine wpAnyH_ready (rs:=[1,3]) (by kernel_rfl) (by simp) ?_;apply AllReadyH.cons
 case ho=>exact rfl
 case h =>
  intro Kk hK;have c2:=Cb.o.at 2;have c2':Kc.cell? ⟨w.heap.size+1,2,none⟩=some (.slice ab nb cb):=c2;with_reducible refine step_load_val ?qg 24 (.tmp 34) ?qo ⟨w.heap.size+1,2,none⟩ ?qxz (.slice ab nb cb) (load_ints c2') ?_
  case qg | qo=>exact rfl
  case qxz=>kernel_rfl
  clear c2 c2';refine hK.out _ _ trivial (fun hzz=>?_);clear hK Kk hzz;(try simp only [Act.put]);refine wpAnyH_ready (rs:=[3]) (by kernel_rfl) (by simp) ?_;apply AllReadyH.cons
  case ho=>exact rfl
  case hs=>exact AllReadyH.nil
  intro Kk hK;go_simp;refine (off_any Ec.o 1 9 (by decide) (by decide) (by decide) _ Yb.o).mono ?_;rintro e Oa ⟨z,Bc,Cc,rfl,hr,hg⟩;clear Bc Cc;go_simp;have Qb:=Hd (Xb.o.grown hg (by simp;omega));have Eb:=Hd (Cb.o.grown hg (by simp;omega));have Rb:=Hd (hr);have Sb:=Hd (Zb.o.trans hg);have Tb:=Hd (Db.o.grown hg (fun g hg e=>by have:=(Db.o.lt g hg).1;have:=Option.some.inj e;omega));have Ub:w.heap.size+2≤Oa.heap.size:=Nat.le_trans Lc hg.size;clear hr hg;refine hK.out _ _ trivial (fun hzz=>?_);clear hK Kk hzz;(try simp only [Act.put]);refine wpAnyH_ready (rs:=[4]) (by kernel_rfl) (by simp) ?_;apply AllReadyH.cons
  case ho=>exact rfl
  case hs=>exact AllReadyH.nil
  intro Kk hK;with_reducible refine step_run_as ?qg (fun x=>.slice (some ⟨x,0,none⟩) 1 1) (Oa.alloc (.cells #[it z] 2)) ?qrun ?_
  case qg=>exact rfl
  case qrun=>kernel_rfl
  intro gb Ka Sa La;have Ca:=bal Oa (.cells #[it z] 2);rw [La] at Ca;have Ab:=Hd (Qb.o.belowS Ca);have Ua:=Hd (Eb.o.belowS Ca);have Bb:=Hd (Rb.o.grow Ca);have Ha:=Hd (Sb.o.trans (grown_of_below Ca _));have Ta:=Hd (Tb.o.below Ca);have LJ:H9 (Lies Ka gb [it z]):=(by show Lies Ka gb _;rw [← La,← Sa];exact lies_new _ _ _);have Vb:w.heap.size+2≤Ka.heap.size:=Nat.le_trans Ub Ca.size;clear Ca La Sa;refine hK.out _ _ trivial (fun hzz=>?_);clear hK Kk hzz;(try simp only [Act.put]);refine wpAnyH_ready (rs:=[5]) (by kernel_rfl) (by simp) ?_;apply AllReadyH.cons
  case ho=>exact rfl
  case hs=>exact AllReadyH.nil
  intro Kk hK;have Dc:nb≤1000:=(by omega);with_reducible refine step_ban ?qg (.tmp 35) (.tmp 38) ?qo ?qsz gb ?qnz Ta.o z LJ.o Dc Vb ?_
  case qg | qo=>exact rfl
  case qsz | qnz=>kernel_rfl
  intro Aa Ba Ia Fb Ea;have Ja:∀ g,(Value.slice ab nb cb).ownBlock=some g→w.heap.size+2≤g:=fun g e=>(Ta.o.lt g (by simp [mbl,own_ob e])).1;have Gb:=Hd (Ab.o.grown Ea (fun e=>by have:=Ja _ e;omega));have Pa:=Hd (Ua.o.grown Ea (fun e=>by have:=Ja _ e;omega));have Va:=Hd (Fb);have Hb:H9 (Rd w0 R ca Xa Ya Ia):=Bb.o.keep Ea (fun x hx=>by have:=Ja x.block (by rw [hx];rfl);omega) (fun x hx=>by have:=Ja x.block (by rw [hx];rfl);omega);have Ib:H9 (w.grownBy Ia (some R)):=⟨Ea.os.trans Ha.o.os,Ea.tape.trans Ha.o.tape,Ea.output.trans Ha.o.output,Nat.le_trans Ha.o.size Ea.size,fun i hi hr=>(Ea.block i (Nat.lt_of_lt_of_le hi Ha.o.size) (fun e=>by have:=Ja i e.symm;omega)).trans (Ha.o.block i hi hr)⟩;clear Fb Ea Ja Ab Ua Ta Bb Ha LJ;refine hK.out _ _ trivial (fun hzz=>?_);clear hK Kk hzz;(try simp only [Act.put]);refine tk 6 (.pointer (some ⟨w.heap.size+1,2,none⟩)) ?_ ?_
  · intro wq Ac;go_simp
  (try simp only [Act.put]);refine wpAnyH_ready (rs:=[7]) (by kernel_rfl) (by simp) ?_;apply AllReadyH.cons
  case ho=>exact rfl
  case hs=>exact AllReadyH.nil
  intro Kk hK;have c2:=Pa.o.c 2 rfl;have f2:=Pa.o.fr 2;go_simp;have Qa:Ia.grownBy (Ia.setCell ⟨w.heap.size+1,2,none⟩ (.slice Aa (nb+1) Ba)) (some (w.heap.size+1)):=grown_setCell _ _ _;have Na:H9 (Lies (Ia.setCell ⟨w.heap.size+1,2,none⟩ (.slice Aa (nb+1) Ba)) (w.heap.size+1) (v4' Fa Ga Aa (nb+1) Ba aj nj cj)):=Pa.o.set 2 (by simp) _;have Da:=Hd (Gb.o.grown Qa (by simp));have Jb:H9 (Rd w0 R ca Xa Ya (Ia.setCell ⟨w.heap.size+1,2,none⟩ (.slice Aa (nb+1) Ba))):=Hb.o.setS (by omega) (by omega);have Kb:=Hd (grown_new Ib.o Qa (by omega));have Wa:=Hd (Va.o.grown Qa (fun g hg e=>by have:=(Va.o.lt g hg).1;have:=Option.some.inj e;omega));clear Qa c2 f2 Pa Gb Hb Ib Va;refine hK.out _ _ trivial (fun hzz=>?_);clear hK Kk hzz;(try simp only [Act.put]);refine dne' ?_;go_simp;generalize (Ia.setCell ⟨w.heap.size+1,2,none⟩ (.slice Aa (nb+1) Ba))=wg at Na Da Jb Kb Wa ⊢;have r0:=Da.o.c 0 rfl;have Oc:=Da.o.fr 0;have r1:=Da.o.c 1 rfl;have Pc:=Da.o.fr 1;have r2:=Da.o.c 2 rfl;have Qc:=Da.o.fr 2;have r3:=Da.o.c 3 rfl;have Rc:=Da.o.fr 3;have o0:=Na.o.c 0 rfl;have o1:=Na.o.c 1 rfl;have o2:=Na.o.c 2 rfl;have o3:=Na.o.c 3 rfl;(go_wp2_with fail);show bodyPost _ _ _ _ _ (wg.setCells w.heap.size 0 (v4' Fa Ga Aa (nb+1) Ba aj nj cj));have Lb:Lies (wg.setCells w.heap.size 0 (v4' Fa Ga Aa (nb+1) Ba aj nj cj)) w.heap.size (v4' Fa Ga Aa (nb+1) Ba aj nj cj):=Da.o.setCells (v4' Fa Ga Aa (nb+1) Ba aj nj cj) 0 (by simp);have Ra:=gcs wg w.heap.size 0 (v4' Fa Ga Aa (nb+1) Ba aj nj cj);have Nb:Rd w0 R ca Xa Ya (wg.setCells w.heap.size 0 (v4' Fa Ga Aa (nb+1) Ba aj nj cj)):=Jb.o.cells (by omega) (by omega) _;have Ob:w.grownBy (wg.setCells w.heap.size 0 (v4' Fa Ga Aa (nb+1) Ba aj nj cj)) (some R):=grown_new Kb.o Ra (Nat.le_refl _);have Pb:=(Wa.o.grown Ra (fun g hg e=>by have:=(Wa.o.lt g hg).1;have:=Option.some.inj e;omega)).mono (show w.heap.size≤w.heap.size+2 by omega);generalize (wg.setCells w.heap.size 0 (v4' Fa Ga Aa (nb+1) Ba aj nj cj))=wf at Lb Nb Ob Pb Ra ⊢;clear Ra;exact bodyPost_ret (results_cell rfl rfl (run_loadVar_mid wf w.heap.size 0 27 _ _ Lb.row Tryz.underlying27 rfl (by kernel_rfl))) rfl ⟨_,_,_,_,_,_,_,_,_,_,rfl,Pb,HS.o,Fc,Nb,Ob⟩
 case hs =>
  apply AllReadyH.cons
  case ho=>exact rfl
  case hs=>exact AllReadyH.nil
  intro Kk hK;go_simp;refine (off_any Ec.o 1 9 (by decide) (by decide) (by decide) _ Yb.o).mono ?_;rintro e Oa ⟨z,Bc,Cc,rfl,hr,hg⟩;clear Bc Cc;go_simp;have Qb:=Hd (Xb.o.grown hg (by simp;omega));have Eb:=Hd (Cb.o.grown hg (by simp;omega));have Rb:=Hd (hr);have Sb:=Hd (Zb.o.trans hg);have Tb:=Hd (Db.o.grown hg (fun g hg e=>by have:=(Db.o.lt g hg).1;have:=Option.some.inj e;omega));have Ub:w.heap.size+2≤Oa.heap.size:=Nat.le_trans Lc hg.size;clear hr hg;refine hK.out _ _ trivial (fun hzz=>?_);clear hK Kk hzz;(try simp only [Act.put]);refine wpAnyH_ready (rs:=[1,4]) (by kernel_rfl) (by simp) ?_;apply AllReadyH.cons
  case ho=>exact rfl
  case' h =>
   intro Kk hK;have c2:=Eb.o.at 2;have c2':Oa.cell? ⟨w.heap.size+1,2,none⟩=some (.slice ab nb cb):=c2;with_reducible refine step_load_val ?qg 24 (.tmp 34) ?qo ⟨w.heap.size+1,2,none⟩ ?qxz (.slice ab nb cb) (load_ints c2') ?_
   case qg | qo=>exact rfl
   case qxz=>kernel_rfl
   clear c2 c2';refine hK.out _ _ trivial (fun hzz=>?_);clear hK Kk hzz;(try simp only [Act.put]);refine wpAnyH_ready (rs:=[4]) (by kernel_rfl) (by simp) ?_;apply AllReadyH.cons
   case ho=>exact rfl
   case hs=>exact AllReadyH.nil
   intro Kk hK;with_reducible refine step_run_as ?qg (fun x=>.slice (some ⟨x,0,none⟩) 1 1) (Oa.alloc (.cells #[it z] 2)) ?qrun ?_
   case qg=>exact rfl
   case qrun=>kernel_rfl
   intro gb Ka Sa La;have Ca:=bal Oa (.cells #[it z] 2);rw [La] at Ca;have Ab:=Hd (Qb.o.belowS Ca);have Ua:=Hd (Eb.o.belowS Ca);have Bb:=Hd (Rb.o.grow Ca);have Ha:=Hd (Sb.o.trans (grown_of_below Ca _));have Ta:=Hd (Tb.o.below Ca);have LJ:H9 (Lies Ka gb [it z]):=(by show Lies Ka gb _;rw [← La,← Sa];exact lies_new _ _ _);have Vb:w.heap.size+2≤Ka.heap.size:=Nat.le_trans Ub Ca.size;clear Ca La Sa
  case' hs =>
   apply AllReadyH.cons
   case ho=>exact rfl
   case hs=>exact AllReadyH.nil
   intro Kk hK;with_reducible refine step_run_as ?qg (fun x=>.slice (some ⟨x,0,none⟩) 1 1) (Oa.alloc (.cells #[it z] 2)) ?qrun ?_
   case qg=>exact rfl
   case qrun=>kernel_rfl
   intro gb Ka Sa La;have Ca:=bal Oa (.cells #[it z] 2);rw [La] at Ca;have Ab:=Hd (Qb.o.belowS Ca);have Ua:=Hd (Eb.o.belowS Ca);have Bb:=Hd (Rb.o.grow Ca);have Ha:=Hd (Sb.o.trans (grown_of_below Ca _));have Ta:=Hd (Tb.o.below Ca);have LJ:H9 (Lies Ka gb [it z]):=(by show Lies Ka gb _;rw [← La,← Sa];exact lies_new _ _ _);have Vb:w.heap.size+2≤Ka.heap.size:=Nat.le_trans Ub Ca.size;clear Ca La Sa;refine hK.out _ _ trivial (fun hzz=>?_);clear hK Kk hzz;(try simp only [Act.put]);refine wpAnyH_ready (rs:=[1]) (by kernel_rfl) (by simp) ?_;apply AllReadyH.cons
   case ho=>exact rfl
   case hs=>exact AllReadyH.nil
   intro Kk hK;have c2:=Ua.o.at 2;have c2':Ka.cell? ⟨w.heap.size+1,2,none⟩=some (.slice ab nb cb):=c2;with_reducible refine step_load_val ?qg 24 (.tmp 34) ?qo ⟨w.heap.size+1,2,none⟩ ?qxz (.slice ab nb cb) (load_ints c2') ?_
   case qg | qo=>exact rfl
   case qxz=>kernel_rfl
   clear c2 c2'
  all_goals
   refine hK.out _ _ trivial (fun hzz=>?_);clear hK Kk hzz;(try simp only [Act.put]);refine wpAnyH_ready (rs:=[5]) (by kernel_rfl) (by simp) ?_;apply AllReadyH.cons
   case ho=>exact rfl
   case hs=>exact AllReadyH.nil
   intro Kk hK;have Dc:nb≤1000:=(by omega);with_reducible refine step_ban ?qg (.tmp 35) (.tmp 38) ?qo ?qsz gb ?qnz Ta.o z LJ.o Dc Vb ?_
   case qg | qo=>exact rfl
   case qsz | qnz=>kernel_rfl
   intro Aa Ba Ia Fb Ea;have Ja:∀ g,(Value.slice ab nb cb).ownBlock=some g→w.heap.size+2≤g:=fun g e=>(Ta.o.lt g (by simp [mbl,own_ob e])).1;have Gb:=Hd (Ab.o.grown Ea (fun e=>by have:=Ja _ e;omega));have Pa:=Hd (Ua.o.grown Ea (fun e=>by have:=Ja _ e;omega));have Va:=Hd (Fb);have Hb:H9 (Rd w0 R ca Xa Ya Ia):=Bb.o.keep Ea (fun x hx=>by have:=Ja x.block (by rw [hx];rfl);omega) (fun x hx=>by have:=Ja x.block (by rw [hx];rfl);omega);have Ib:H9 (w.grownBy Ia (some R)):=⟨Ea.os.trans Ha.o.os,Ea.tape.trans Ha.o.tape,Ea.output.trans Ha.o.output,Nat.le_trans Ha.o.size Ea.size,fun i hi hr=>(Ea.block i (Nat.lt_of_lt_of_le hi Ha.o.size) (fun e=>by have:=Ja i e.symm;omega)).trans (Ha.o.block i hi hr)⟩;clear Fb Ea Ja Ab Ua Ta Bb Ha LJ;refine hK.out _ _ trivial (fun hzz=>?_);clear hK Kk hzz;(try simp only [Act.put]);refine tk 6 (.pointer (some ⟨w.heap.size+1,2,none⟩)) ?_ ?_
   · intro wq Ac;go_simp
   (try simp only [Act.put]);refine wpAnyH_ready (rs:=[7]) (by kernel_rfl) (by simp) ?_;apply AllReadyH.cons
   case ho=>exact rfl
   case hs=>exact AllReadyH.nil
   intro Kk hK;have c2:=Pa.o.c 2 rfl;have f2:=Pa.o.fr 2;go_simp;have Qa:Ia.grownBy (Ia.setCell ⟨w.heap.size+1,2,none⟩ (.slice Aa (nb+1) Ba)) (some (w.heap.size+1)):=grown_setCell _ _ _;have Na:H9 (Lies (Ia.setCell ⟨w.heap.size+1,2,none⟩ (.slice Aa (nb+1) Ba)) (w.heap.size+1) (v4' Fa Ga Aa (nb+1) Ba aj nj cj)):=Pa.o.set 2 (by simp) _;have Da:=Hd (Gb.o.grown Qa (by simp));have Jb:H9 (Rd w0 R ca Xa Ya (Ia.setCell ⟨w.heap.size+1,2,none⟩ (.slice Aa (nb+1) Ba))):=Hb.o.setS (by omega) (by omega);have Kb:=Hd (grown_new Ib.o Qa (by omega));have Wa:=Hd (Va.o.grown Qa (fun g hg e=>by have:=(Va.o.lt g hg).1;have:=Option.some.inj e;omega));clear Qa c2 f2 Pa Gb Hb Ib Va;refine hK.out _ _ trivial (fun hzz=>?_);clear hK Kk hzz;(try simp only [Act.put]);refine dne' ?_;go_simp;generalize (Ia.setCell ⟨w.heap.size+1,2,none⟩ (.slice Aa (nb+1) Ba))=wg at Na Da Jb Kb Wa ⊢;have r0:=Da.o.c 0 rfl;have Oc:=Da.o.fr 0;have r1:=Da.o.c 1 rfl;have Pc:=Da.o.fr 1;have r2:=Da.o.c 2 rfl;have Qc:=Da.o.fr 2;have r3:=Da.o.c 3 rfl;have Rc:=Da.o.fr 3;have o0:=Na.o.c 0 rfl;have o1:=Na.o.c 1 rfl;have o2:=Na.o.c 2 rfl;have o3:=Na.o.c 3 rfl;(go_wp2_with fail);show bodyPost _ _ _ _ _ (wg.setCells w.heap.size 0 (v4' Fa Ga Aa (nb+1) Ba aj nj cj));have Lb:Lies (wg.setCells w.heap.size 0 (v4' Fa Ga Aa (nb+1) Ba aj nj cj)) w.heap.size (v4' Fa Ga Aa (nb+1) Ba aj nj cj):=Da.o.setCells (v4' Fa Ga Aa (nb+1) Ba aj nj cj) 0 (by simp);have Ra:=gcs wg w.heap.size 0 (v4' Fa Ga Aa (nb+1) Ba aj nj cj);have Nb:Rd w0 R ca Xa Ya (wg.setCells w.heap.size 0 (v4' Fa Ga Aa (nb+1) Ba aj nj cj)):=Jb.o.cells (by omega) (by omega) _;have Ob:w.grownBy (wg.setCells w.heap.size 0 (v4' Fa Ga Aa (nb+1) Ba aj nj cj)) (some R):=grown_new Kb.o Ra (Nat.le_refl _);have Pb:=(Wa.o.grown Ra (fun g hg e=>by have:=(Wa.o.lt g hg).1;have:=Option.some.inj e;omega)).mono (show w.heap.size≤w.heap.size+2 by omega);generalize (wg.setCells w.heap.size 0 (v4' Fa Ga Aa (nb+1) Ba aj nj cj))=wf at Lb Nb Ob Pb Ra ⊢;clear Ra;exact bodyPost_ret (results_cell rfl rfl (run_loadVar_mid wf w.heap.size 0 27 _ _ Lb.row Tryz.underlying27 rfl (by kernel_rfl))) rfl ⟨_,_,_,_,_,_,_,_,_,_,rfl,Pb,HS.o,Fc,Nb,Ob⟩
theorem marketR_any : MarketGoal:=marketCut.h ⟨market_ban⟩ ⟨market_round⟩
theorem M.form_rest {kind id part worker many:Int} {bare mok sok rok m8 non wk idk p7 mt:Bool} (h:M.formB kind id part worker many bare mok sok rok m8 non wk idk p7 mt=true) (h1:¬ kind=1) (h4:¬ kind=4) (h5:¬ kind=5):wk=true∧(kind=2∨kind=3∧idk=true∧p7=true):=by
 unfold M.formB at h;rw [if_neg h1] at h;by_cases h2:kind=2
 ·
  rw [if_pos h2] at h;simp only [Bool.and_eq_true] at h;exact ⟨h.2.1,.inl h2⟩
 ·
  rw [if_neg h2] at h;by_cases h3:kind=3
  ·
   rw [if_pos h3] at h;simp only [Bool.and_eq_true] at h;exact ⟨h.2.1,.inr ⟨h3,h.2.2.1,h.2.2.2.1⟩⟩
  ·
   rw [if_neg h3,if_neg h4,if_neg h5] at h;simp at h
def actCutB : Cut5 actCut.p:=by
 apply Cut5.mk
 case h =>
  intro key1 key2 key3 key4 key5;intro ab aj nb cb nj cj bs js Aa Ba Ha id Va Ja Wa m0 m1 m2 m3 m4 m5 m6 m7 m8 m9 Xa Ya t1 t2 p1 p2 p3 p4 a1 a2 a3 a4 n1 n2 n3 n4 c1 c2 c3 c4 z1 z2 z3 z4 w l1 l2 l3 l4 HM S1 S2 S3 S4 r Qa wa wb C1 Ra HF wc bb Ca Da jj Ea Fa qs Sa bc Ka Jb Kb Lb Nb Ob Pb wd bo Za Ab Bb we Ia La Cb Na Db Eb Oa;by_cases Pa:Ha=1
  case pos =>
   revert ab aj nb cb nj cj bs js Aa Ba Ha id Va Ja Wa m0 m1 m2 m3 m4 m5 m6 m7 m8 m9 Xa Ya t1 t2 p1 p2 p3 p4 a1 a2 a3 a4 n1 n2 n3 n4 c1 c2 c3 c4 z1 z2 z3 z4 w l1 l2 l3 l4 HM S1 S2 S3 S4 r Qa wa wb C1 Ra HF wc bb Ca Da jj Ea Fa qs Sa bc Ka Jb Kb Lb Nb Ob Pb wd bo Za Ab Bb we Ia La Cb Na Db Eb Oa Pa;exact key1.out
  case neg =>
   by_cases Ta:Ha=4
   case pos =>
    revert ab aj nb cb nj cj bs js Aa Ba Ha id Va Ja Wa m0 m1 m2 m3 m4 m5 m6 m7 m8 m9 Xa Ya t1 t2 p1 p2 p3 p4 a1 a2 a3 a4 n1 n2 n3 n4 c1 c2 c3 c4 z1 z2 z3 z4 w l1 l2 l3 l4 HM S1 S2 S3 S4 r Qa wa wb C1 Ra HF wc bb Ca Da jj Ea Fa qs Sa bc Ka Jb Kb Lb Nb Ob Pb wd bo Za Ab Bb we Ia La Cb Na Db Eb Oa Pa Ta;exact key2.out
   case neg =>
    by_cases Fb:Ha=5
    case pos =>
     revert ab aj nb cb nj cj bs js Aa Ba Ha id Va Ja Wa m0 m1 m2 m3 m4 m5 m6 m7 m8 m9 Xa Ya t1 t2 p1 p2 p3 p4 a1 a2 a3 a4 n1 n2 n3 n4 c1 c2 c3 c4 z1 z2 z3 z4 w l1 l2 l3 l4 HM S1 S2 S3 S4 r Qa wa wb C1 Ra HF wc bb Ca Da jj Ea Fa qs Sa bc Ka Jb Kb Lb Nb Ob Pb wd bo Za Ab Bb we Ia La Cb Na Db Eb Oa Pa Ta Fb;exact key3.out
    case neg =>
     obtain ⟨Qb,Rb⟩:=M.form_rest Oa.o Pa Ta Fb;have Sb:=Hd (Qb);have Tb:=Hd (Rb);clear Qb Rb;have CB:=fun W (h:Sees W ab nb cb bs)=>l8Banned_any (aj:=aj) (nj:=nj) (cj:=cj) Aa Ba Ja W h;generalize Ub:bs.contains Ja=bn at CB;have Gb:=Hd (Ub);clear Ub;have Bc:=Ia.o.c 0 rfl;have Cc:=Ia.o.c 1 rfl;have Dc:=Ia.o.c 2 rfl;have Ec:=Ia.o.c 3 rfl;have Fc:=La.o.c 0 rfl;have Gc:=La.o.c 3 rfl;(go_wp2_with fail);clear Bc Cc Dc Ec Fc Gc;refine (CB _ (HM.o.b.below Na.o)).mono ?_;rintro e wf ⟨rfl,hb⟩;have Vb:=Hd (Ia.o.belowS hb);have Wb:=Hd (La.o.belowS hb);have Ga:=Hd (Cb.o.belowS hb);have Hb:=Hd (Na.o.trans (hb.mono Na.o.size));have Ib:=Hd (Db.o.below hb);have Ua:=Hd (Eb.o.belowS hb);clear Ia La Cb Na Db Eb;clear hb;clear CB
     cases bn with
     | true =>
      have r0:=Ga.o.c 0 rfl;have Cd:=Ga.o.fr 0;have r1:=Ga.o.c 1 rfl;have Dd:=Ga.o.fr 1;have r2:=Ga.o.c 2 rfl;have Ed:=Ga.o.fr 2;have r3:=Ga.o.c 3 rfl;have Fd:=Ga.o.fr 3;have o0:=Ua.o.c 0 rfl;have o1:=Ua.o.c 1 rfl;have o2:=Ua.o.c 2 rfl;have o3:=Ua.o.c 3 rfl
      have hr:r=(⟨Aa,Ba,bs,js⟩,5,0):=by
       rw [← Qa.o];unfold specAct M.acted;rw [if_neg (show ¬ M.Mt.ok ⟨Aa,Ba,bs,js⟩=false by rw [show M.Mt.ok ⟨Aa,Ba,bs,js⟩=true from Ra.o];simp),if_neg (by rw [Oa.o];simp)];unfold M.act;rw [if_neg Pa,if_neg Ta,if_neg Fb];by_cases h2:Ha=2
       ·
        rw [if_pos h2];unfold M.lease;rw [if_pos Gb.o]
       ·
        rw [if_neg h2];unfold M.back;rw [if_pos Gb.o]
      subst hr;(go_wp2_with fail);show bodyPost _ _ _ _ _ (wf.setCells (w.heap.size+1+1) 0 (v4' Aa Ba bb Ca Da jj Ea Fa));have Xb:Lies (wf.setCells (w.heap.size+1+1) 0 (v4' Aa Ba bb Ca Da jj Ea Fa)) (w.heap.size+1+1) (v4' Aa Ba bb Ca Da jj Ea Fa):=Ga.o.setCells (v4' Aa Ba bb Ca Da jj Ea Fa) 0 (by simp);have Yb:=gcs wf (w.heap.size+1+1) 0 (v4' Aa Ba bb Ca Da jj Ea Fa);have Hc:Below w.heap.size w (wf.setCells (w.heap.size+1+1) 0 (v4' Aa Ba bb Ca Da jj Ea Fa)):=Hb.o.trans (below_of_grown Yb Hb.o.size (fun z e=>by have:=Option.some.inj e;omega));have Ic:MktO (wf.setCells (w.heap.size+1+1) 0 (v4' Aa Ba bb Ca Da jj Ea Fa)) w.heap.size bb Ca Da bs jj Ea Fa qs:=(Ib.o.grown Yb (fun g hg e=>by have:=(Ib.o.lt g hg).1;have:=Option.some.inj e;have:=Ka.o;omega)).mono (by have:=Ka.o;omega);have Zb:ActPost w w.heap.size (⟨Aa,Ba,bs,js⟩,5,0) (.returned (.tuple #[.agg (v4' Aa Ba bb Ca Da jj Ea Fa).toArray,it 5,it 0])) (wf.setCells (w.heap.size+1+1) 0 (v4' Aa Ba bb Ca Da jj Ea Fa)):=⟨_,rfl,_,_,_,_,_,_,_,rfl,Ic,Sa,Hc⟩;generalize (wf.setCells (w.heap.size+1+1) 0 (v4' Aa Ba bb Ca Da jj Ea Fa))=wz at Xb Zb ⊢;exact bodyPost_ret (results_cell_tmp2 rfl rfl (run_loadVar_mid wz (w.heap.size+1+1) 0 27 _ _ Xb.row Tryz.underlying27 rfl (by kernel_rfl))) rfl Zb
     | false =>
      by_cases Ac:Ha=2
      case pos =>
       rename_i Jc Kc Lc Nc Oc Pc Qc Rc Sc;revert ab aj nb cb nj cj bs js Aa Ba Ha id Va Ja Wa m0 m1 m2 m3 m4 m5 m6 m7 m8 m9 Xa Ya t1 t2 p1 p2 p3 p4 a1 a2 a3 a4 n1 n2 n3 n4 c1 c2 c3 c4 z1 z2 z3 z4 w l1 l2 l3 l4 HM S1 S2 S3 S4 r Qa wa wb C1 Ra HF wc bb Ca Da jj Ea Fa qs Sa bc Ka wd bo Za Ab Bb we Oa Pa Ta Fb Sb Tb Jc Kc Lc Nc Oc Pc Qc Rc Sc wf Vb Wb Ga Hb Ib Ua Gb Ac;exact key4.out
      case neg =>
       rename_i Tc Uc Vc Wc Xc Yc Zc Ad Bd;revert ab aj nb cb nj cj bs js Aa Ba Ha id Va Ja Wa m0 m1 m2 m3 m4 m5 m6 m7 m8 m9 Xa Ya t1 t2 p1 p2 p3 p4 a1 a2 a3 a4 n1 n2 n3 n4 c1 c2 c3 c4 z1 z2 z3 z4 w l1 l2 l3 l4 HM S1 S2 S3 S4 r Qa wa wb C1 Ra HF wc bb Ca Da jj Ea Fa qs Sa bc Ka wd bo Za Ab Bb we Oa Pa Ta Fb Sb Tb Tc Uc Vc Wc Xc Yc Zc Ad Bd wf Vb Wb Ga Hb Ib Ua Gb Ac;exact key5.out
theorem act_lease : actCutB.p4:=by
 intro ab aj nb cb nj cj bs js Ca Da Ib id Jb Fa Kb m0 m1 m2 m3 m4 m5 m6 m7 m8 m9 Lb Nb t1 t2 p1 p2 p3 p4 a1 a2 a3 a4 n1 n2 n3 n4 c1 c2 c3 c4 z1 z2 z3 z4 w l1 l2 l3 l4 HM S1 S2 S3 S4 r Pa wa wb C1 Qa HF wc bb Ob Pb jj Qb Rb qs Ga bc Ea wd bo Sb Ra Tb we Sa Ub Vb Wb Xb Yb Zb Ac Bc Cc Dc Ec Fc Gc Hc wf Ic Ha Ta Ua Va Ba Wa Xa;subst Xa
 have hr:r=M.lease ⟨Ca,Da,bs,js⟩ Fa:=by
  rw [← Pa.o];unfold specAct M.acted;rw [if_neg (show ¬ M.Mt.ok ⟨Ca,Da,bs,js⟩=false by rw [show M.Mt.ok ⟨Ca,Da,bs,js⟩=true from Qa.o];simp),if_neg (by rw [Sa.o];simp)];unfold M.act;rw [if_neg (by decide),if_neg (by decide),if_neg (by decide),if_pos rfl]
 have Ya:=Ha.o.c 0 rfl;have Za:=Ha.o.c 3 rfl;have o0:=Ba.o.c 0 rfl;have o1:=Ba.o.c 1 rfl;have o2:=Ba.o.c 2 rfl;have o3:=Ba.o.c 3 rfl;(go_wp2_with fail);clear o0 o1 o2 o3 Ya Za;have Ab:H9 (bc≤wf.heap.size):=(by have h9:=Ba.o.2.2;have:=Ra.o;show bc≤_;omega);refine (l8Lease_act Ca Da Fa _ Va.o Ab.o (by rw [Ga];exact HF.o) Wa.o).mono ?_;rw [Ga,← hr];rintro e wg ⟨v,rfl,eb,en,ec,fb,fn,fc,Ia,rfl,hM,Bb,hb⟩;have Ja:Below w.heap.size w wg:=Ua.o.trans (hb.mono (by have:=Ea.o;omega));have Aa:=Ta.o.below hb Ea.o;have Ka:=Hd (hM);generalize Cb:r.1.now=nw;generalize Db:r.1.next=nx;generalize Eb:r.2.1=cd;generalize Fb:r.2.2=td;clear hr hM;have r0:=Aa.c 0 rfl;have Jc:=Aa.fr 0;have r1:=Aa.c 1 rfl;have Kc:=Aa.fr 1;have r2:=Aa.c 2 rfl;have Lc:=Aa.fr 2;have r3:=Aa.c 3 rfl;have Nc:=Aa.fr 3;(go_wp2_with fail);show bodyPost _ _ _ _ _ (wg.setCells (w.heap.size+1+1) 0 (v4' nw nx eb en ec fb fn fc));have La:Lies (wg.setCells (w.heap.size+1+1) 0 (v4' nw nx eb en ec fb fn fc)) (w.heap.size+1+1) (v4' nw nx eb en ec fb fn fc):=Aa.setCells (v4' nw nx eb en ec fb fn fc) 0 (by simp);have Na:=gcs wg (w.heap.size+1+1) 0 (v4' nw nx eb en ec fb fn fc);have Gb:Below w.heap.size w (wg.setCells (w.heap.size+1+1) 0 (v4' nw nx eb en ec fb fn fc)):=Ja.trans (below_of_grown Na Ja.size (fun z e=>by have:=Option.some.inj e;omega));have Hb:MktO (wg.setCells (w.heap.size+1+1) 0 (v4' nw nx eb en ec fb fn fc)) w.heap.size eb en ec r.1.bs fb fn fc Ia:=(Ka.o.grown Na (fun g hg e=>by have:=(Ka.o.lt g hg).1;have:=Option.some.inj e;have:=Ea.o;omega)).mono (by have:=Ea.o;omega);have Oa:ActPost w w.heap.size r (.returned (.tuple #[.agg (v4' nw nx eb en ec fb fn fc).toArray,it cd,it td])) (wg.setCells (w.heap.size+1+1) 0 (v4' nw nx eb en ec fb fn fc)):=⟨.agg (v4' nw nx eb en ec fb fn fc).toArray,by rw [Eb,Fb],eb,en,ec,fb,fn,fc,Ia,by rw [Cb,Db],Hb,Bb,Gb⟩;generalize (wg.setCells (w.heap.size+1+1) 0 (v4' nw nx eb en ec fb fn fc))=wz at La Oa ⊢;exact bodyPost_ret (results_cell_tmp2 rfl rfl (run_loadVar_mid wz (w.heap.size+1+1) 0 27 _ _ La.row Tryz.underlying27 rfl (by kernel_rfl))) rfl Oa
theorem act_return : actCutB.p5:=by
 intro ab aj nb cb nj cj bs js Ea Fa Wa id Ba Ga Ja m0 m1 m2 m3 m4 m5 m6 m7 m8 m9 Ka La t1 t2 p1 p2 p3 p4 a1 a2 a3 a4 n1 n2 n3 n4 c1 c2 c3 c4 z1 z2 z3 z4 w l1 l2 l3 l4 HM S1 S2 S3 S4 r Xa wa wb C1 Ya HF wc bb Za Ab jj Bb Cb qs Db bc Ha wd bo Xb Eb Yb we Fb Zb Ac Bc Gb Hb Cc Dc Ec Fc Gc Hc Ic Jc Kc wf Lc Na Ib Ca Jb Da Kb Lb;obtain ⟨rfl,Nc,Ia⟩:Wa=3∧M.inB id 1 1000000000=true∧M.inB Ba 0 7=true:=Hb.o.resolve_left Lb;unfold M.inB at Ia;simp only [Bool.and_eq_true,decide_eq_true_eq] at Ia;have Nb:Ga≠0:=by have h9:=Gb.o;unfold M.inB at h9;simp only [Bool.and_eq_true,decide_eq_true_eq] at h9;omega
 have hr:r=M.back (M.pok Ba ⟨(p1,p2),(p3,p4),z1,z2,z3,z4⟩) ⟨Ea,Fa,bs,js⟩ Ga id Ba:=by
  rw [← Xa.o];unfold specAct M.acted;rw [if_neg (show ¬ M.Mt.ok ⟨Ea,Fa,bs,js⟩=false by rw [show M.Mt.ok ⟨Ea,Fa,bs,js⟩=true from Ya.o];simp),if_neg (by rw [Fb.o];simp)];unfold M.act;rw [if_neg (by decide),if_neg (by decide),if_neg (by decide),if_neg (by decide)]
 have Ob:=Na.o.c 0 rfl;have o0:=Da.o.c 0 rfl;have o1:=Da.o.c 1 rfl;have o2:=Da.o.c 2 rfl;have o3:=Da.o.c 3 rfl;have hR:=Na.o.row;(go_wp2_with (with_reducible refine wpList_stop 146 ?_ ?_;rfl));clear o0 o1 o2 o3 Ob;with_reducible refine ldm 92 (w.heap.size+1) 0 [it 3,it id,it Ba,it Ga,it Ja,it m0,it m1,it m2,it m3,it m4,it m5,it m6,it m7,it m8,it m9,it Ka,it La,it t1,it t2,it p1,it p2,it p3,it p4,.slice a1 n1 c1,.slice a2 n2 c2,.slice a3 n3 c3,.slice a4 n4 c4] hR Tryz.underlying92 ?q5 ?_
 case q5=>exact ⟨rfl,rfl,by kernel_rfl,_,rfl,by kernel_rfl⟩
 clear hR;(go_wp2_with fail);have Pb:H9 (bc≤wf.heap.size):=(by have h9:=Da.o.2.2;have:=Eb.o;show bc≤_;omega);refine (l8Return_any bc bb jj Za Ab Bb Cb bs qs Ea Fa 3 id Ba Ga Ja m0 m1 m2 m3 m4 m5 m6 m7 m8 m9 Ka La t1 t2 p1 p2 p3 p4 a1 a2 a3 a4 n1 n2 n3 n4 c1 c2 c3 c4 z1 z2 z3 z4 _ Jb.o Pb.o (S1.o.below Ca.o) (S2.o.below Ca.o) (S3.o.below Ca.o) (S4.o.below Ca.o) l1 l2 l3 l4 Ia.1 Ia.2).mono ?_;intro e wg Oa;have Pa:=Oa.act Nb Kb.o;clear Oa;rw [Db,← hr] at Pa;obtain ⟨v,rfl,eb,en,ec,fb,fn,fc,Qa,rfl,hM,Qb,hb⟩:=Pa;have Ra:Below w.heap.size w wg:=Ca.o.trans (hb.mono (by have:=Ha.o;omega));have Aa:=Ib.o.below hb Ha.o;have Sa:=Hd (hM);generalize Rb:r.1.now=nw;generalize Sb:r.1.next=nx;generalize Tb:r.2.1=cd;generalize Ub:r.2.2=td;clear hr hM;have r0:=Aa.c 0 rfl;have Oc:=Aa.fr 0;have r1:=Aa.c 1 rfl;have Pc:=Aa.fr 1;have r2:=Aa.c 2 rfl;have Qc:=Aa.fr 2;have r3:=Aa.c 3 rfl;have Rc:=Aa.fr 3;(go_wp2_with fail);show bodyPost _ _ _ _ _ (wg.setCells (w.heap.size+1+1) 0 (v4' nw nx eb en ec fb fn fc));have Ta:Lies (wg.setCells (w.heap.size+1+1) 0 (v4' nw nx eb en ec fb fn fc)) (w.heap.size+1+1) (v4' nw nx eb en ec fb fn fc):=Aa.setCells (v4' nw nx eb en ec fb fn fc) 0 (by simp);have Ua:=gcs wg (w.heap.size+1+1) 0 (v4' nw nx eb en ec fb fn fc);have Vb:Below w.heap.size w (wg.setCells (w.heap.size+1+1) 0 (v4' nw nx eb en ec fb fn fc)):=Ra.trans (below_of_grown Ua Ra.size (fun z e=>by have:=Option.some.inj e;omega));have Wb:MktO (wg.setCells (w.heap.size+1+1) 0 (v4' nw nx eb en ec fb fn fc)) w.heap.size eb en ec r.1.bs fb fn fc Qa:=(Sa.o.grown Ua (fun g hg e=>by have:=(Sa.o.lt g hg).1;have:=Option.some.inj e;have:=Ha.o;omega)).mono (by have:=Ha.o;omega);have Va:ActPost w w.heap.size r (.returned (.tuple #[.agg (v4' nw nx eb en ec fb fn fc).toArray,it cd,it td])) (wg.setCells (w.heap.size+1+1) 0 (v4' nw nx eb en ec fb fn fc)):=⟨.agg (v4' nw nx eb en ec fb fn fc).toArray,by rw [Tb,Ub],eb,en,ec,fb,fn,fc,Qa,by rw [Rb,Sb],Wb,Qb,Vb⟩;generalize (wg.setCells (w.heap.size+1+1) 0 (v4' nw nx eb en ec fb fn fc))=wz at Ta Va ⊢;exact bodyPost_ret (results_cell_tmp2 rfl rfl (run_loadVar_mid wz (w.heap.size+1+1) 0 27 _ _ Ta.row Tryz.underlying27 rfl (by kernel_rfl))) rfl Va
theorem M.form_tick {id part worker many:Int} {bare mok sok rok m8 non wk idk p7:Bool} (h:M.formB 4 id part worker many bare mok sok rok m8 non wk idk p7 (M.inB many 1 1000000000)=true):1≤many∧many≤1000000000:=by
 unfold M.formB at h;simp only [show ¬ (4:Int)=1 by decide,show ¬ (4:Int)=2 by decide,show ¬ (4:Int)=3 by decide,if_false,if_true,Bool.and_eq_true] at h;have h9:M.inB many 1 1000000000=true:=(by simp_all);unfold M.inB at h9;simp only [Bool.and_eq_true,decide_eq_true_eq] at h9;exact h9
theorem M.frT_due (n:Int):M.frT n 0=M.dueT n:=by
 funext t
 unfold M.frT M.dueT M.leased;by_cases h:t.worker=0 <;> simp [h]
theorem act_tick : actCutB.p2:=by
 intro ab aj nb cb nj cj bs js Ba Aa Ub id Vb Wb Ca m0 m1 m2 m3 m4 m5 m6 m7 m8 m9 Xb Yb t1 t2 p1 p2 p3 p4 a1 a2 a3 a4 n1 n2 n3 n4 c1 c2 c3 c4 z1 z2 z3 z4 w l1 l2 l3 l4 HM S1 S2 S3 S4 r Gb wa wb C1 Hb HF wc bb Da Ea jj Fa Ga qs Za bc Ia Zb Ac Bc Cc Dc Ec wd bo Fc Na Ab we Ib Bb Cb Ua Db Ka Eb Gc Jb;subst Jb;obtain ⟨Hc,Ic⟩:=M.form_tick Eb.o;have Jc:=HF.o.now0;have Kc:=HF.o.now1
 have hr:r=M.tick ⟨Ba,Aa,bs,js⟩ Ca:=by
  rw [← Gb.o];unfold specAct M.acted;rw [if_neg (show ¬ M.Mt.ok ⟨Ba,Aa,bs,js⟩=false by rw [show M.Mt.ok ⟨Ba,Aa,bs,js⟩=true from Hb.o];simp),if_neg (by rw [Eb.o];simp)];unfold M.act;rw [if_neg (by decide),if_pos rfl]
 have Fb:=Hd (hr);clear hr;have Kb:=Bb.o.c 0 rfl;have Lb:=Bb.o.c 4 rfl;have Nb:=Ib.o.c 0 rfl;have o0:=Ka.o.c 0 rfl;have o1:=Ka.o.c 1 rfl;have o2:=Ka.o.c 2 rfl;have o3:=Ka.o.c 3 rfl;have Ob:=Ka.o.fr 0;have Pb:IntKind.i64.wrap (Ba+Ca)=Ba+Ca:=(by rw [IntKind.wrap_i64];omega);(go_wp2_with fail);clear o0 o1 o2 o3 Kb Lb Nb Ob Pb
 skip
 have hr:r=(⟨(Ba+Ca),Aa,bs,js.map (M.freeJ (M.dueT (Ba+Ca)))⟩,0,0):=(by rw [Fb.o];unfold M.tick M.tickN;dsimp only;rw [if_pos (by omega)]);subst hr;have Ja:we.grownBy (we.setCell ⟨bo,0,none⟩ (it (Ba+Ca))) (some bo):=grown_setCell _ _ _;have La:=Db.o.grown Ja (fun g hg e=>by have:=Ab.o g hg;have:=Option.some.inj e;omega);have Oa:=Cb.o.grown Ja (fun e=>by have:=Option.some.inj e;have:=Ia.o;have:=Na.o;omega);have Pa:Below w.heap.size w (we.setCell ⟨bo,0,none⟩ (it (Ba+Ca))):=Ua.o.trans (below_of_grown Ja Ua.o.size (fun z e=>by have:=Option.some.inj e;have:=Ia.o;have:=Na.o;omega));have Qa:bc≤(we.setCell ⟨bo,0,none⟩ (it (Ba+Ca))).heap.size:=(by have h9:=Ka.o.2.2;have h8:=Ja.size;have:=Na.o;omega);generalize (we.setCell ⟨bo,0,none⟩ (it (Ba+Ca)))=wg at Ja La Oa Pa Qa ⊢;refine (l8Free_any (Ba+Ca) Aa 0 _ La Qa).mono ?_;rintro e wh ⟨rfl,hM,_,hb⟩;have Ra:Below w.heap.size w wh:=Pa.trans (hb.mono (by have:=Ia.o;omega));have Ha:=Oa.below hb Ia.o;have Sa:=Hd (hM);have hq':(qs.map (MQ.fr (M.frT (Ba+Ca) 0))).map (·.1)=js.map (M.freeJ (M.dueT (Ba+Ca))):=(by rw [M.frT_due,← Za,List.map_map,List.map_map];rfl);clear hM La;have r0:=Ha.c 0 rfl;have Qb:=Ha.fr 0;have r1:=Ha.c 1 rfl;have Rb:=Ha.fr 1;have r2:=Ha.c 2 rfl;have Sb:=Ha.fr 2;have r3:=Ha.c 3 rfl;have Tb:=Ha.fr 3;(go_wp2_with fail);show bodyPost _ _ _ _ _ (wh.setCells (w.heap.size+1+1) 0 (v4' (Ba+Ca) Aa bb Da Ea jj Fa Ga));have Va:Lies (wh.setCells (w.heap.size+1+1) 0 (v4' (Ba+Ca) Aa bb Da Ea jj Fa Ga)) (w.heap.size+1+1) (v4' (Ba+Ca) Aa bb Da Ea jj Fa Ga):=Ha.setCells (v4' (Ba+Ca) Aa bb Da Ea jj Fa Ga) 0 (by simp);have Ta:=gcs wh (w.heap.size+1+1) 0 (v4' (Ba+Ca) Aa bb Da Ea jj Fa Ga);have Xa:Below w.heap.size w (wh.setCells (w.heap.size+1+1) 0 (v4' (Ba+Ca) Aa bb Da Ea jj Fa Ga)):=Ra.trans (below_of_grown Ta Ra.size (fun z e=>by have:=Option.some.inj e;omega));have Ya:MktO (wh.setCells (w.heap.size+1+1) 0 (v4' (Ba+Ca) Aa bb Da Ea jj Fa Ga)) w.heap.size bb Da Ea bs jj Fa Ga (qs.map (MQ.fr (M.frT (Ba+Ca) 0))):=(Sa.o.grown Ta (fun g hg e=>by have:=(Sa.o.lt g hg).1;have:=Option.some.inj e;have:=Ia.o;omega)).mono (by have:=Ia.o;omega);have Wa:ActPost w w.heap.size (⟨(Ba+Ca),Aa,bs,js.map (M.freeJ (M.dueT (Ba+Ca)))⟩,0,0) (.returned (.tuple #[.agg (v4' (Ba+Ca) Aa bb Da Ea jj Fa Ga).toArray,it 0,it 0])) (wh.setCells (w.heap.size+1+1) 0 (v4' (Ba+Ca) Aa bb Da Ea jj Fa Ga)):=⟨_,rfl,_,_,_,_,_,_,_,rfl,Ya,hq',Xa⟩;generalize (wh.setCells (w.heap.size+1+1) 0 (v4' (Ba+Ca) Aa bb Da Ea jj Fa Ga))=wz at Va Wa ⊢
 rotate_left
 skip
 have hr:r=(⟨1000000000,Aa,bs,js.map (M.freeJ (M.dueT 1000000000))⟩,0,0):=(by rw [Fb.o];unfold M.tick M.tickN;dsimp only;rw [if_neg (by omega)]);subst hr;have Ja:we.grownBy (we.setCell ⟨bo,0,none⟩ (it 1000000000)) (some bo):=grown_setCell _ _ _;have La:=Db.o.grown Ja (fun g hg e=>by have:=Ab.o g hg;have:=Option.some.inj e;omega);have Oa:=Cb.o.grown Ja (fun e=>by have:=Option.some.inj e;have:=Ia.o;have:=Na.o;omega);have Pa:Below w.heap.size w (we.setCell ⟨bo,0,none⟩ (it 1000000000)):=Ua.o.trans (below_of_grown Ja Ua.o.size (fun z e=>by have:=Option.some.inj e;have:=Ia.o;have:=Na.o;omega));have Qa:bc≤(we.setCell ⟨bo,0,none⟩ (it 1000000000)).heap.size:=(by have h9:=Ka.o.2.2;have h8:=Ja.size;have:=Na.o;omega);generalize (we.setCell ⟨bo,0,none⟩ (it 1000000000))=wg at Ja La Oa Pa Qa ⊢;refine (l8Free_any 1000000000 Aa 0 _ La Qa).mono ?_;rintro e wh ⟨rfl,hM,_,hb⟩;have Ra:Below w.heap.size w wh:=Pa.trans (hb.mono (by have:=Ia.o;omega));have Ha:=Oa.below hb Ia.o;have Sa:=Hd (hM);have hq':(qs.map (MQ.fr (M.frT 1000000000 0))).map (·.1)=js.map (M.freeJ (M.dueT 1000000000)):=(by rw [M.frT_due,← Za,List.map_map,List.map_map];rfl);clear hM La;have r0:=Ha.c 0 rfl;have Qb:=Ha.fr 0;have r1:=Ha.c 1 rfl;have Rb:=Ha.fr 1;have r2:=Ha.c 2 rfl;have Sb:=Ha.fr 2;have r3:=Ha.c 3 rfl;have Tb:=Ha.fr 3;(go_wp2_with fail);show bodyPost _ _ _ _ _ (wh.setCells (w.heap.size+1+1) 0 (v31' Aa bb Da Ea jj Fa Ga));have Va:Lies (wh.setCells (w.heap.size+1+1) 0 (v31' Aa bb Da Ea jj Fa Ga)) (w.heap.size+1+1) (v31' Aa bb Da Ea jj Fa Ga):=Ha.setCells (v31' Aa bb Da Ea jj Fa Ga) 0 (by simp);have Ta:=gcs wh (w.heap.size+1+1) 0 (v31' Aa bb Da Ea jj Fa Ga);have Xa:Below w.heap.size w (wh.setCells (w.heap.size+1+1) 0 (v31' Aa bb Da Ea jj Fa Ga)):=Ra.trans (below_of_grown Ta Ra.size (fun z e=>by have:=Option.some.inj e;omega));have Ya:MktO (wh.setCells (w.heap.size+1+1) 0 (v31' Aa bb Da Ea jj Fa Ga)) w.heap.size bb Da Ea bs jj Fa Ga (qs.map (MQ.fr (M.frT 1000000000 0))):=(Sa.o.grown Ta (fun g hg e=>by have:=(Sa.o.lt g hg).1;have:=Option.some.inj e;have:=Ia.o;omega)).mono (by have:=Ia.o;omega);have Wa:ActPost w w.heap.size (⟨1000000000,Aa,bs,js.map (M.freeJ (M.dueT 1000000000))⟩,0,0) (.returned (.tuple #[.agg (v31' Aa bb Da Ea jj Fa Ga).toArray,it 0,it 0])) (wh.setCells (w.heap.size+1+1) 0 (v31' Aa bb Da Ea jj Fa Ga)):=⟨_,rfl,_,_,_,_,_,_,_,rfl,Ya,hq',Xa⟩;generalize (wh.setCells (w.heap.size+1+1) 0 (v31' Aa bb Da Ea jj Fa Ga))=wz at Va Wa ⊢
 rotate_left
 all_goals
  exact bodyPost_ret (results_cell_tmp2 rfl rfl (run_loadVar_mid wz (w.heap.size+1+1) 0 27 _ _ Va.row Tryz.underlying27 rfl (by kernel_rfl))) rfl Wa
end Go.Proofs.YtfhknkppiidnkaaGreat
