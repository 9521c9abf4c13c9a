import Derived.Test.YtjcjonncaknhnaaGreatDoorPk17
import Derived.Test.YtjcjonncaknhnaaGreatDoorPk11
namespace Go.Proofs.YtjcjonncaknhnaaGreatDoor
open Go.RowKit Go.Proofs.Tryz
set_option linter.unusedSimpArgs false
set_option maxHeartbeats 32000000
set_option linter.unusedSimpArgs false in
set_option maxRecDepth 10000 in
theorem ef(te id p' l' s' m0 m1 m2 m3 m4 m5 m6 m7 m8 m9 m10 m11 t1 t2 p1 p2 p3 p4:Int){a1 a2 a3 a4:Option Addr}{n1 n2 n3 n4 c1 c2 c3 c4:Nat}(l1:n1≤1048576)(l2:n2≤1048576)(l3:n3≤1048576)(l4:n4≤1048576)(w:World):
  Rt 92 #[.agg #[.int .i64 te,.int .i64 id,.int .i64 p',.int .i64 l',.int .i64 s',.int .i64 m0,.int .i64 m1,.int .i64 m2,.int .i64 m3,.int .i64 m4,.int .i64 m5,.int .i64 m6,.int .i64 m7,.int .i64 m8,.int .i64 m9,.int .i64 m10,.int .i64 m11,.int .i64 t1,.int .i64 t2,.int .i64 p1,.int .i64 p2,.int .i64 p3,.int .i64 p4,.slice a1 n1 c1,.slice a2 n2 c2,.slice a3 n3 c3,.slice a4 n4 c4]] w (.bool (decide (id=0)&&(decide (p'=0)&&(decide (l'=0)&&(decide (s'=0)&&(bI m0 m1 m2 m3 m4 m5 m6 m7 m8 m9 m10 m11&&((decide (t1=0)&&decide (t2=0))&&((decide (p1=0)&&decide (p2=0))&&((decide (p3=0)&&decide (p4=0))&&(decide (n1=0)&&(decide (n2=0)&&(decide (n3=0)&&decide (n4=0))))))))))))):=by
 have HB:H9 (Below w.heap.size w (w.alloc (.cells (bE te id p' l' s' m0 m1 m2 m3 m4 m5 m6 m7 m8 m9 m10 m11 t1 t2 p1 p2 p3 p4 a1 n1 c1 a2 n2 c2 a3 n3 c3 a4 n4 c4).toArray 37))):=(tv _ _).alloc (tr _) _;have HA:=cz w (bE te id p' l' s' m0 m1 m2 m3 m4 m5 m6 m7 m8 m9 m10 m11 t1 t2 p1 p2 p3 p4 a1 n1 c1 a2 n2 c2 a3 n3 c3 a4 n4 c4) 37;go_enter func92,ntmps92;(go_wp2_with(with_reducible refine af 5 ?_ ?_;rfl));refine dO 35 w.heap.size 19 (bh p1 p2 p3 p4 a1 n1 c1 a2 n2 c2 a3 n3 c3 a4 n4 c4) (HA.o.mid 19 8) underlying35 ⟨rfl,rfl,by kernel_rfl,_,rfl,by kernel_rfl⟩ ?_;(go_wp2_with(with_reducible refine af 3 ?_ ?_;rfl));generalize(w.alloc (.cells (bE te id p' l' s' m0 m1 m2 m3 m4 m5 m6 m7 m8 m9 m10 m11 t1 t2 p1 p2 p3 p4 a1 n1 c1 a2 n2 c2 a3 n3 c3 a4 n4 c4).toArray 37))=wa at *;refine rK 35 gJ.toArray ⟨rfl,rfl,by kernel_rfl⟩ ?_;have Ib:w.heap.size<wa.heap.size:=HA.o.2.2;have Ea:=(tv wa.heap.size wa).alloc (tr _) (.cells gJ.toArray 35);have Fa:=Hd (HB.o.trans (Ea.mono HB.o.size));have Jb:=Hd (HA.o.belowS Ea);have Da:=cz wa gJ 35;generalize(wa.alloc (.cells gJ.toArray 35))=wb at *;clear Ea HB HA;generalize wa.heap.size=pb at Ib Da ⊢;(go_wp2_with(with_reducible refine aw ?_ ?_;rfl));refine iN 35 pb 0 (bh p1 p2 p3 p4 a1 n1 c1 a2 n2 c2 a3 n3 c3 a4 n4 c4) (Da.o.there 0 8 (by simp)) ⟨rfl,by kernel_rfl,by kernel_rfl,_,_,rfl,rfl,rfl⟩ ?_;have Ga:=dv wb pb 0 (bh p1 p2 p3 p4 a1 n1 c1 a2 n2 c2 a3 n3 c3 a4 n4 c4);have Aa:H9 (Below w.heap.size w (wb.setCells pb 0 (bh p1 p2 p3 p4 a1 n1 c1 a2 n2 c2 a3 n3 c3 a4 n4 c4))):=Fa.o.trans (ac Ga Fa.o.size (fun z e=>by have:=tm e;omega));have Ba:=Hd (Jb.o.grown Ga (fun e=>by have:=tm e;omega));have Ca:H9 (ae (wb.setCells pb 0 (bh p1 p2 p3 p4 a1 n1 c1 a2 n2 c2 a3 n3 c3 a4 n4 c4)) pb (bh p1 p2 p3 p4 a1 n1 c1 a2 n2 c2 a3 n3 c3 a4 n4 c4)):=Da.o.setCells (bh p1 p2 p3 p4 a1 n1 c1 a2 n2 c2 a3 n3 c3 a4 n4 c4) 0 (by simp);generalize wb.setCells pb 0 (bh p1 p2 p3 p4 a1 n1 c1 a2 n2 c2 a3 n3 c3 a4 n4 c4)=wc at *;clear Ga Fa Jb Da Ib;have x1:=Ba.o.c 1;have x2:=Ba.o.c 2;have x3:=Ba.o.c 3;have x4:=Ba.o.c 4;have x5:=Ba.o.c 5;have x6:=Ba.o.c 6;have x7:=Ba.o.c 7;have x8:=Ba.o.c 8;have x9:=Ba.o.c 9;have Kb:=Ba.o.c 10;have Lb:=Ba.o.c 11;have Nb:=Ba.o.c 12;have Ob:=Ba.o.c 13;have Pb:=Ba.o.c 14;have Qb:=Ba.o.c 15;have Rb:=Ba.o.c 16;have Sb:=Ba.o.c 17;have Tb:=Ba.o.c 18;have y0:=Ca.o.c 0;have y1:=Ca.o.c 1;have y2:=Ca.o.c 2;have y3:=Ca.o.c 3;have y4:=Ca.o.c 4;have y5:=Ca.o.c 5;have y6:=Ca.o.c 6;have y7:=Ca.o.c 7;have Ub:((n1:Nat):Int)≤9223372036854775807:=(by have:=l1;omega);have Vb:((n2:Nat):Int)≤9223372036854775807:=(by have:=l2;omega);have Wb:((n3:Nat):Int)≤9223372036854775807:=(by have:=l3;omega);have Xb:((n4:Nat):Int)≤9223372036854775807:=(by have:=l4;omega);by_cases Ha:id=0
 case neg=>
  have Yb:(id==0)=false:=(by simp[Ha]);go_wp2;go_ret;exact⟨by simp[Ha,bI],Aa.o⟩
 subst Ha;by_cases Ia:p'=0
 case neg=>
  have Zb:(p'==0)=false:=(by simp[Ia]);go_wp2;go_ret;exact⟨by simp[Ia,bI],Aa.o⟩
 subst Ia;by_cases Ja:l'=0
 case neg=>
  have Ac:(l'==0)=false:=(by simp[Ja]);go_wp2;go_ret;exact⟨by simp[Ja,bI],Aa.o⟩
 subst Ja;by_cases Ka:s'=0
 case neg=>
  have Bc:(s'==0)=false:=(by simp[Ka]);go_wp2;go_ret;exact⟨by simp[Ka,bI],Aa.o⟩
 subst Ka;by_cases La:m0=0
 case neg=>
  have Cc:(m0==0)=false:=(by simp[La]);go_wp2;go_ret;exact⟨by simp[La,bI],Aa.o⟩
 subst La;by_cases Na:m1=0
 case neg=>
  have Dc:(m1==0)=false:=(by simp[Na]);go_wp2;go_ret;exact⟨by simp[Na,bI],Aa.o⟩
 subst Na;by_cases Oa:m2=0
 case neg=>
  have Ec:(m2==0)=false:=(by simp[Oa]);go_wp2;go_ret;exact⟨by simp[Oa,bI],Aa.o⟩
 subst Oa;by_cases Pa:m3=0
 case neg=>
  have Fc:(m3==0)=false:=(by simp[Pa]);go_wp2;go_ret;exact⟨by simp[Pa,bI],Aa.o⟩
 subst Pa;by_cases Qa:m4=0
 case neg=>
  have Gc:(m4==0)=false:=(by simp[Qa]);go_wp2;go_ret;exact⟨by simp[Qa,bI],Aa.o⟩
 subst Qa;by_cases Ra:m5=0
 case neg=>
  have Hc:(m5==0)=false:=(by simp[Ra]);go_wp2;go_ret;exact⟨by simp[Ra,bI],Aa.o⟩
 subst Ra;by_cases Sa:m6=0
 case neg=>
  have Ic:(m6==0)=false:=(by simp[Sa]);go_wp2;go_ret;exact⟨by simp[Sa,bI],Aa.o⟩
 subst Sa;by_cases Ta:m7=0
 case neg=>
  have Jc:(m7==0)=false:=(by simp[Ta]);go_wp2;go_ret;exact⟨by simp[Ta,bI],Aa.o⟩
 subst Ta;by_cases Ua:m8=0
 case neg=>
  have Kc:(m8==0)=false:=(by simp[Ua]);go_wp2;go_ret;exact⟨by simp[Ua,bI],Aa.o⟩
 subst Ua;by_cases Va:m9=0
 case neg=>
  have Lc:(m9==0)=false:=(by simp[Va]);go_wp2;go_ret;exact⟨by simp[Va,bI],Aa.o⟩
 subst Va;by_cases Wa:m10=0
 case neg=>
  have Nc:(m10==0)=false:=(by simp[Wa]);go_wp2;go_ret;exact⟨by simp[Wa,bI],Aa.o⟩
 subst Wa;by_cases Xa:m11=0
 case neg=>
  have Oc:(m11==0)=false:=(by simp[Xa]);go_wp2;go_ret;exact⟨by simp[Xa,bI],Aa.o⟩
 subst Xa;by_cases Ya:t1=0
 case neg=>
  have Pc:(t1==0)=false:=(by simp[Ya]);go_wp2;go_ret;exact⟨by simp[Ya,bI],Aa.o⟩
 subst Ya;by_cases Za:t2=0
 case neg=>
  have Qc:(t2==0)=false:=(by simp[Za]);go_wp2;go_ret;exact⟨by simp[Za,bI],Aa.o⟩
 subst Za;by_cases Ab:p1=0
 case neg=>
  have Rc:(p1==0)=false:=(by simp[Ab]);go_wp2;go_ret;exact⟨by simp[Ab,bI],Aa.o⟩
 subst Ab;by_cases Bb:p2=0
 case neg=>
  have Sc:(p2==0)=false:=(by simp[Bb]);go_wp2;go_ret;exact⟨by simp[Bb,bI],Aa.o⟩
 subst Bb;by_cases Cb:p3=0
 case neg=>
  have Tc:(p3==0)=false:=(by simp[Cb]);go_wp2;go_ret;exact⟨by simp[Cb,bI],Aa.o⟩
 subst Cb;by_cases Db:p4=0
 case neg=>
  have Uc:(p4==0)=false:=(by simp[Db]);go_wp2;go_ret;exact⟨by simp[Db,bI],Aa.o⟩
 subst Db;by_cases Eb:n1=0
 case neg=>
  have Vc:(((n1:Nat):Int)==0)=false:=(by simp[Eb]);go_wp2;go_ret;exact⟨by simp[Eb,bI],Aa.o⟩
 subst Eb;by_cases Fb:n2=0
 case neg=>
  have Wc:(((n2:Nat):Int)==0)=false:=(by simp[Fb]);go_wp2;go_ret;exact⟨by simp[Fb,bI],Aa.o⟩
 subst Fb;by_cases Gb:n3=0
 case neg=>
  have Xc:(((n3:Nat):Int)==0)=false:=(by simp[Gb]);go_wp2;go_ret;exact⟨by simp[Gb,bI],Aa.o⟩
 subst Gb;by_cases Hb:n4=0
 case neg=>
  have Yc:(((n4:Nat):Int)==0)=false:=(by simp[Hb]);go_wp2;go_ret;exact⟨by simp[Hb,bI],Aa.o⟩
 subst Hb;go_wp2;go_ret;exact⟨by simp[bI],Aa.o⟩
end Go.Proofs.YtjcjonncaknhnaaGreatDoor
