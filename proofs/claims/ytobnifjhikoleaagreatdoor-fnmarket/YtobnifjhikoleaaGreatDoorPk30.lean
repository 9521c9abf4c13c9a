import Derived.Test.YtobnifjhikoleaaGreatDoorPk09
import Derived.Test.YtobnifjhikoleaaGreatDoorPk11
namespace Go.Proofs.YtobnifjhikoleaaGreatDoor
open Go.RowKit Go.Proofs.Tryz
set_option linter.unusedSimpArgs false
set_option maxHeartbeats 32000000
set_option linter.unusedSimpArgs false in
set_option maxRecDepth 10000 in
theorem eD(t' id s' l' tr m0 J L T Y U Z m7 Q V A I t1 t2 p1 p2 p3 p4:Int){a1 a2 a3 a4:Option Addr}{n1 n2 n3 n4 c1 c2 c3 c4:Nat}(l1:n1≤1048576)(l2:n2≤1048576)(l3:n3≤1048576)(l4:n4≤1048576)(w:World):
  Rt 42 #[.agg #[.int .i64 t',.int .i64 id,.int .i64 s',.int .i64 l',.int .i64 tr,.int .i64 m0,.int .i64 J,.int .i64 L,.int .i64 T,.int .i64 Y,.int .i64 U,.int .i64 Z,.int .i64 m7,.int .i64 Q,.int .i64 V,.int .i64 A,.int .i64 I,.int .i64 t1,.int .i64 t2,.int .i64 p1,.int .i64 p2,.int .i64 p3,.int .i64 p4,.slice a1 n1 c1,.slice a2 n2 c2,.slice a3 n3 c3,.slice a4 n4 c4]] w (.bool (decide (id=0)&&(decide (s'=0)&&(decide (l'=0)&&(decide (tr=0)&&(bV m0 J L T Y U Z m7 Q V A I&&((decide (t1=0)&&decide (t2=0))&&((decide (p1=0)&&decide (p2=0))&&((decide (p3=0)&&decide (p4=0))&&(decide (n1=0)&&(decide (n2=0)&&(decide (n3=0)&&decide (n4=0))))))))))))):=by
 have HB:H9 (m1 w (w.alloc (.cells (bH t' id s' l' tr m0 J L T Y U Z m7 Q V A I t1 t2 p1 p2 p3 p4 a1 n1 c1 a2 n2 c2 a3 n3 c3 a4 n4 c4).toArray 37))):=(m5 _ _).alloc (m3 _) _;have HA:=cC w (bH t' id s' l' tr m0 J L T Y U Z m7 Q V A I t1 t2 p1 p2 p3 p4 a1 n1 c1 a2 n2 c2 a3 n3 c3 a4 n4 c4) 37;go_enter func42,ntmps42;(go_wp2_with(with_reducible refine aA 5 ?_ ?_;rfl));refine fu 35 w.heap.size 19 (bi p1 p2 p3 p4 a1 n1 c1 a2 n2 c2 a3 n3 c3 a4 n4 c4) (HA.o.mid 19 8) underlying35 ⟨rfl,rfl,by kernel_rfl,_,rfl,by kernel_rfl⟩ ?_;(go_wp2_with(with_reducible refine aA 3 ?_ ?_;rfl));generalize(w.alloc (.cells (bH t' id s' l' tr m0 J L T Y U Z m7 Q V A I t1 t2 p1 p2 p3 p4 a1 n1 c1 a2 n2 c2 a3 n3 c3 a4 n4 c4).toArray 37))=wa at *;refine rV 35 cK.toArray ⟨rfl,rfl,by kernel_rfl⟩ ?_;have Ib:=HA.o.2.2;have Ea:=(m5 wa.heap.size wa).alloc (m3 _) (.cells cK.toArray 35);have Fa:=HB.t Ea;have Jb:=HA.b Ea;have Da:=cC wa cK 35;generalize(wa.alloc (.cells cK.toArray 35))=wb at *;clear Ea HB HA;generalize wa.heap.size=pb at Ib Da ⊢;(go_wp2_with(with_reducible refine aF ?_ ?_;rfl));refine fB 35 pb 0 (bi p1 p2 p3 p4 a1 n1 c1 a2 n2 c2 a3 n3 c3 a4 n4 c4) (Da.o.there 0 8 (by simp)) ⟨rfl,by kernel_rfl,by kernel_rfl,_,_,rfl,rfl,rfl⟩ ?_;have Ga:=ct wb pb 0 (bi p1 p2 p3 p4 a1 n1 c1 a2 n2 c2 a3 n3 c3 a4 n4 c4);have Aa:=Hd (Fa.o.trans (ap Ga Fa.o.size (fun z e=>by have:=m2 e;omega)));have Ba:=Hd (Jb.o.grown Ga (fun e=>by have:=m2 e;omega));have Ca:H9 (au (wb.setCells pb 0 (bi p1 p2 p3 p4 a1 n1 c1 a2 n2 c2 a3 n3 c3 a4 n4 c4)) pb (bi p1 p2 p3 p4 a1 n1 c1 a2 n2 c2 a3 n3 c3 a4 n4 c4)):=Da.o.setCells (bi p1 p2 p3 p4 a1 n1 c1 a2 n2 c2 a3 n3 c3 a4 n4 c4) 0 (by simp);generalize wb.setCells pb 0 (bi p1 p2 p3 p4 a1 n1 c1 a2 n2 c2 a3 n3 c3 a4 n4 c4)=wc at *;clear Ga Fa Jb Da Ib;have x1:=Ba.c 1;have x2:=Ba.c 2;have x3:=Ba.c 3;have x4:=Ba.c 4;have x5:=Ba.c 5;have x6:=Ba.c 6;have x7:=Ba.c 7;have x8:=Ba.c 8;have x9:=Ba.c 9;have Kb:=Ba.c 10;have Lb:=Ba.c 11;have Nb:=Ba.c 12;have Ob:=Ba.c 13;have Pb:=Ba.c 14;have Qb:=Ba.c 15;have Rb:=Ba.c 16;have Sb:=Ba.c 17;have Tb:=Ba.c 18;have y0:=Ca.c 0;have y1:=Ca.c 1;have y2:=Ca.c 2;have y3:=Ca.c 3;have y4:=Ca.c 4;have y5:=Ca.c 5;have y6:=Ca.c 6;have y7:=Ca.c 7;have Ub:((n1:Nat):Int)≤9223372036854775807:=(by have:=l1;omega);have Vb:((n2:Nat):Int)≤9223372036854775807:=(by have:=l2;omega);have Wb:((n3:Nat):Int)≤9223372036854775807:=(by have:=l3;omega);have Xb:((n4:Nat):Int)≤9223372036854775807:=(by have:=l4;omega);by_cases Ha:id=0
 case neg=>
  have Yb:(id==0)=false:=(by simp[Ha]);go_wp2;go_ret;exact⟨by simp[Ha,bV],Aa.o⟩
 subst Ha;by_cases Ia:s'=0
 case neg=>
  have Zb:(s'==0)=false:=(by simp[Ia]);go_wp2;go_ret;exact⟨by simp[Ia,bV],Aa.o⟩
 subst Ia;by_cases Ja:l'=0
 case neg=>
  have Ac:(l'==0)=false:=(by simp[Ja]);go_wp2;go_ret;exact⟨by simp[Ja,bV],Aa.o⟩
 subst Ja;by_cases Ka:tr=0
 case neg=>
  have Bc:(tr==0)=false:=(by simp[Ka]);go_wp2;go_ret;exact⟨by simp[Ka,bV],Aa.o⟩
 subst Ka;by_cases La:m0=0
 case neg=>
  have Cc:(m0==0)=false:=(by simp[La]);go_wp2;go_ret;exact⟨by simp[La,bV],Aa.o⟩
 subst La;by_cases Na:J=0
 case neg=>
  have Dc:(J==0)=false:=(by simp[Na]);go_wp2;go_ret;exact⟨by simp[Na,bV],Aa.o⟩
 subst Na;by_cases Oa:L=0
 case neg=>
  have Ec:(L==0)=false:=(by simp[Oa]);go_wp2;go_ret;exact⟨by simp[Oa,bV],Aa.o⟩
 subst Oa;by_cases Pa:T=0
 case neg=>
  have Fc:(T==0)=false:=(by simp[Pa]);go_wp2;go_ret;exact⟨by simp[Pa,bV],Aa.o⟩
 subst Pa;by_cases Qa:Y=0
 case neg=>
  have Gc:(Y==0)=false:=(by simp[Qa]);go_wp2;go_ret;exact⟨by simp[Qa,bV],Aa.o⟩
 subst Qa;by_cases Ra:U=0
 case neg=>
  have Hc:(U==0)=false:=(by simp[Ra]);go_wp2;go_ret;exact⟨by simp[Ra,bV],Aa.o⟩
 subst Ra;by_cases Sa:Z=0
 case neg=>
  have Ic:(Z==0)=false:=(by simp[Sa]);go_wp2;go_ret;exact⟨by simp[Sa,bV],Aa.o⟩
 subst Sa;by_cases Ta:m7=0
 case neg=>
  have Jc:(m7==0)=false:=(by simp[Ta]);go_wp2;go_ret;exact⟨by simp[Ta,bV],Aa.o⟩
 subst Ta;by_cases Ua:Q=0
 case neg=>
  have Kc:(Q==0)=false:=(by simp[Ua]);go_wp2;go_ret;exact⟨by simp[Ua,bV],Aa.o⟩
 subst Ua;by_cases Va:V=0
 case neg=>
  have Lc:(V==0)=false:=(by simp[Va]);go_wp2;go_ret;exact⟨by simp[Va,bV],Aa.o⟩
 subst Va;by_cases Wa:A=0
 case neg=>
  have Nc:(A==0)=false:=(by simp[Wa]);go_wp2;go_ret;exact⟨by simp[Wa,bV],Aa.o⟩
 subst Wa;by_cases Xa:I=0
 case neg=>
  have Oc:(I==0)=false:=(by simp[Xa]);go_wp2;go_ret;exact⟨by simp[Xa,bV],Aa.o⟩
 subst Xa;by_cases Ya:t1=0
 case neg=>
  have Pc:(t1==0)=false:=(by simp[Ya]);go_wp2;go_ret;exact⟨by simp[Ya,bV],Aa.o⟩
 subst Ya;by_cases Za:t2=0
 case neg=>
  have Qc:(t2==0)=false:=(by simp[Za]);go_wp2;go_ret;exact⟨by simp[Za,bV],Aa.o⟩
 subst Za;by_cases Ab:p1=0
 case neg=>
  have Rc:(p1==0)=false:=(by simp[Ab]);go_wp2;go_ret;exact⟨by simp[Ab,bV],Aa.o⟩
 subst Ab;by_cases Bb:p2=0
 case neg=>
  have Sc:(p2==0)=false:=(by simp[Bb]);go_wp2;go_ret;exact⟨by simp[Bb,bV],Aa.o⟩
 subst Bb;by_cases Cb:p3=0
 case neg=>
  have Tc:(p3==0)=false:=(by simp[Cb]);go_wp2;go_ret;exact⟨by simp[Cb,bV],Aa.o⟩
 subst Cb;by_cases Db:p4=0
 case neg=>
  have Uc:(p4==0)=false:=(by simp[Db]);go_wp2;go_ret;exact⟨by simp[Db,bV],Aa.o⟩
 subst Db;by_cases Eb:n1=0
 case neg=>
  have Vc:(((n1:Nat):Int)==0)=false:=(by simp[Eb]);go_wp2;go_ret;exact⟨by simp[Eb,bV],Aa.o⟩
 subst Eb;by_cases Fb:n2=0
 case neg=>
  have Wc:(((n2:Nat):Int)==0)=false:=(by simp[Fb]);go_wp2;go_ret;exact⟨by simp[Fb,bV],Aa.o⟩
 subst Fb;by_cases Gb:n3=0
 case neg=>
  have Xc:(((n3:Nat):Int)==0)=false:=(by simp[Gb]);go_wp2;go_ret;exact⟨by simp[Gb,bV],Aa.o⟩
 subst Gb;by_cases Hb:n4=0
 case neg=>
  have Yc:(((n4:Nat):Int)==0)=false:=(by simp[Hb]);go_wp2;go_ret;exact⟨by simp[Hb,bV],Aa.o⟩
 subst Hb;go_wp2;go_ret;exact⟨by simp[bV],Aa.o⟩
end Go.Proofs.YtobnifjhikoleaaGreatDoor
