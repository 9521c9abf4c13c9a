import Derived.Test.YtbjalickbnpnkaaGreatDoorPk09
import Derived.Test.YtbjalickbnpnkaaGreatDoorPk11
namespace Go.Proofs.YtbjalickbnpnkaaGreatDoor
open Go.RowKit Go.Proofs.Tryz
set_option linter.unusedSimpArgs false
set_option maxHeartbeats 32000000
set_option linter.unusedSimpArgs false in
set_option maxRecDepth 10000 in
theorem eZ(l' id em dC i' m0 I J Q m4 Y m6 m7 L Z B D t1 t2 p1 p2 p3 p4:Int){a1 a2 a3 a4:Option Addr}{n1 n2 n3 n4 c1 c2 c3 c4:Nat}(l1:n1<=1048576)(l2:n2<=1048576)(l3:n3<=1048576)(l4:n4<=1048576)(w:World):
  Rt 46 #[.agg #[it l',it id,it em,it dC,it i',it m0,it I,it J,it Q,it m4,it Y,it m6,it m7,it L,it Z,it B,it D,it t1,it t2,it p1,it p2,it p3,it p4,.slice a1 n1 c1,.slice a2 n2 c2,.slice a3 n3 c3,.slice a4 n4 c4]] w (.bool (decide (id=0)&&(decide (em=0)&&(decide (dC=0)&&(decide (i'=0)&&(bU m0 I J Q m4 Y m6 m7 L Z B D&&((decide (t1=0)&&decide (t2=0))&&((decide (p1=0)&&decide (p2=0))&&((decide (p3=0)&&decide (p4=0))&&(decide (n1=0)&&(decide (n2=0)&&(decide (n3=0)&&decide (n4=0))))))))))))):=by
 have HB:H7 (m1 w (w.alloc (.cells (b8 l' id em dC i' m0 I J Q m4 Y m6 m7 L Z B D t1 t2 p1 p2 p3 p4 a1 n1 c1 a2 n2 c2 a3 n3 c3 a4 n4 c4).toArray 37))):=(m8 _ _).alloc (m3 _) _;have HA:=cQ w (b8 l' id em dC i' m0 I J Q m4 Y m6 m7 L Z B D t1 t2 p1 p2 p3 p4 a1 n1 c1 a2 n2 c2 a3 n3 c3 a4 n4 c4) 37;go_enter func46,ntmps46;(go_wp2_with(with_reducible refine au 5 ?_ ?_;rfl));refine dY 35 w.heap.size 19 (cX p1 p2 p3 p4 a1 n1 c1 a2 n2 c2 a3 n3 c3 a4 n4 c4) (HA.o.mid 19 8) underlying35 ⟨rfl,rfl,by kernel_rfl,_,rfl,by kernel_rfl⟩ ?_;(go_wp2_with(with_reducible refine au 3 ?_ ?_;rfl));generalize(w.alloc (.cells (b8 l' id em dC i' m0 I J Q m4 Y m6 m7 L Z B D t1 t2 p1 p2 p3 p4 a1 n1 c1 a2 n2 c2 a3 n3 c3 a4 n4 c4).toArray 37))=wa at *;refine ui 35 df.toArray ⟨rfl,rfl,by kernel_rfl⟩ ?_;have Ib:=HA.o.2.2;have Ea:=(m8 wa.heap.size wa).alloc (m3 _) (.cells df.toArray 35);have Fa:=HB.t Ea;have Jb:=HA.b Ea;have Da:=cQ wa df 35;generalize(wa.alloc (.cells df.toArray 35))=wb at *;clear Ea HB HA;generalize wa.heap.size=pb at Ib Da |-;(go_wp2_with(with_reducible refine aD ?_ ?_;rfl));refine eF 35 pb 0 (cX p1 p2 p3 p4 a1 n1 c1 a2 n2 c2 a3 n3 c3 a4 n4 c4) (Da.o.there 0 8 (by simp)) ⟨rfl,by kernel_rfl,by kernel_rfl,_,_,rfl,rfl,rfl⟩ ?_;have Ga:=dS wb pb 0 (cX p1 p2 p3 p4 a1 n1 c1 a2 n2 c2 a3 n3 c3 a4 n4 c4);have Aa:=Hd (Fa.o.trans (ap Ga Fa.o.size (λz e=>by have:=m2 e;omega)));have Ba:=Hd (Jb.o.grown Ga (λe=>by have:=m2 e;omega));have Ca:H7 (aw (wb.setCells pb 0 (cX p1 p2 p3 p4 a1 n1 c1 a2 n2 c2 a3 n3 c3 a4 n4 c4)) pb (cX p1 p2 p3 p4 a1 n1 c1 a2 n2 c2 a3 n3 c3 a4 n4 c4)):=Da.o.setCells (cX p1 p2 p3 p4 a1 n1 c1 a2 n2 c2 a3 n3 c3 a4 n4 c4) 0 (by simp);generalize wb.setCells pb 0 (cX p1 p2 p3 p4 a1 n1 c1 a2 n2 c2 a3 n3 c3 a4 n4 c4)=wc at *;clear Ga Fa Jb Da Ib;have x1:=Ba.c 1;have x2:=Ba.c 2;have x3:=Ba.c 3;have x4:=Ba.c 4;have x5:=Ba.c 5;have x6:=Ba.c 6;have x7:=Ba.c 7;have x8:=Ba.c 8;have x9:=Ba.c 9;have Kb:=Ba.c 10;have Lb:=Ba.c 11;have Nb:=Ba.c 12;have Ob:=Ba.c 13;have Pb:=Ba.c 14;have Qb:=Ba.c 15;have Rb:=Ba.c 16;have Sb:=Ba.c 17;have Tb:=Ba.c 18;have y0:=Ca.c 0;have y1:=Ca.c 1;have y2:=Ca.c 2;have y3:=Ca.c 3;have y4:=Ca.c 4;have y5:=Ca.c 5;have y6:=Ca.c 6;have y7:=Ca.c 7;have Ub:((n1:Nat):Int)<=9223372036854775807:=(by have:=l1;omega);have Vb:((n2:Nat):Int)<=9223372036854775807:=(by have:=l2;omega);have Wb:((n3:Nat):Int)<=9223372036854775807:=(by have:=l3;omega);have Xb:((n4:Nat):Int)<=9223372036854775807:=(by have:=l4;omega);by_cases Ha:id=0
 case neg=>
  have Yb:(id==0)=false:=(by simp[Ha]);go_wp2;go_ret;exact⟨by simp[Ha,bU],Aa.o⟩
 subst Ha;by_cases Ia:em=0
 case neg=>
  have Zb:(em==0)=false:=(by simp[Ia]);go_wp2;go_ret;exact⟨by simp[Ia,bU],Aa.o⟩
 subst Ia;by_cases Ja:dC=0
 case neg=>
  have Ac:(dC==0)=false:=(by simp[Ja]);go_wp2;go_ret;exact⟨by simp[Ja,bU],Aa.o⟩
 subst Ja;by_cases Ka:i'=0
 case neg=>
  have Bc:(i'==0)=false:=(by simp[Ka]);go_wp2;go_ret;exact⟨by simp[Ka,bU],Aa.o⟩
 subst Ka;by_cases La:m0=0
 case neg=>
  have Cc:(m0==0)=false:=(by simp[La]);go_wp2;go_ret;exact⟨by simp[La,bU],Aa.o⟩
 subst La;by_cases Na:I=0
 case neg=>
  have Dc:(I==0)=false:=(by simp[Na]);go_wp2;go_ret;exact⟨by simp[Na,bU],Aa.o⟩
 subst Na;by_cases Oa:J=0
 case neg=>
  have Ec:(J==0)=false:=(by simp[Oa]);go_wp2;go_ret;exact⟨by simp[Oa,bU],Aa.o⟩
 subst Oa;by_cases Pa:Q=0
 case neg=>
  have Fc:(Q==0)=false:=(by simp[Pa]);go_wp2;go_ret;exact⟨by simp[Pa,bU],Aa.o⟩
 subst Pa;by_cases Qa:m4=0
 case neg=>
  have Gc:(m4==0)=false:=(by simp[Qa]);go_wp2;go_ret;exact⟨by simp[Qa,bU],Aa.o⟩
 subst Qa;by_cases Ra:Y=0
 case neg=>
  have Hc:(Y==0)=false:=(by simp[Ra]);go_wp2;go_ret;exact⟨by simp[Ra,bU],Aa.o⟩
 subst Ra;by_cases Sa:m6=0
 case neg=>
  have Ic:(m6==0)=false:=(by simp[Sa]);go_wp2;go_ret;exact⟨by simp[Sa,bU],Aa.o⟩
 subst Sa;by_cases Ta:m7=0
 case neg=>
  have Jc:(m7==0)=false:=(by simp[Ta]);go_wp2;go_ret;exact⟨by simp[Ta,bU],Aa.o⟩
 subst Ta;by_cases Ua:L=0
 case neg=>
  have Kc:(L==0)=false:=(by simp[Ua]);go_wp2;go_ret;exact⟨by simp[Ua,bU],Aa.o⟩
 subst Ua;by_cases Va:Z=0
 case neg=>
  have Lc:(Z==0)=false:=(by simp[Va]);go_wp2;go_ret;exact⟨by simp[Va,bU],Aa.o⟩
 subst Va;by_cases Wa:B=0
 case neg=>
  have Nc:(B==0)=false:=(by simp[Wa]);go_wp2;go_ret;exact⟨by simp[Wa,bU],Aa.o⟩
 subst Wa;by_cases Xa:D=0
 case neg=>
  have Oc:(D==0)=false:=(by simp[Xa]);go_wp2;go_ret;exact⟨by simp[Xa,bU],Aa.o⟩
 subst Xa;by_cases Ya:t1=0
 case neg=>
  have Pc:(t1==0)=false:=(by simp[Ya]);go_wp2;go_ret;exact⟨by simp[Ya,bU],Aa.o⟩
 subst Ya;by_cases Za:t2=0
 case neg=>
  have Qc:(t2==0)=false:=(by simp[Za]);go_wp2;go_ret;exact⟨by simp[Za,bU],Aa.o⟩
 subst Za;by_cases Ab:p1=0
 case neg=>
  have Rc:(p1==0)=false:=(by simp[Ab]);go_wp2;go_ret;exact⟨by simp[Ab,bU],Aa.o⟩
 subst Ab;by_cases Bb:p2=0
 case neg=>
  have Sc:(p2==0)=false:=(by simp[Bb]);go_wp2;go_ret;exact⟨by simp[Bb,bU],Aa.o⟩
 subst Bb;by_cases Cb:p3=0
 case neg=>
  have Tc:(p3==0)=false:=(by simp[Cb]);go_wp2;go_ret;exact⟨by simp[Cb,bU],Aa.o⟩
 subst Cb;by_cases Db:p4=0
 case neg=>
  have Uc:(p4==0)=false:=(by simp[Db]);go_wp2;go_ret;exact⟨by simp[Db,bU],Aa.o⟩
 subst Db;by_cases Eb:n1=0
 case neg=>
  have Vc:(((n1:Nat):Int)==0)=false:=(by simp[Eb]);go_wp2;go_ret;exact⟨by simp[Eb,bU],Aa.o⟩
 subst Eb;by_cases Fb:n2=0
 case neg=>
  have Wc:(((n2:Nat):Int)==0)=false:=(by simp[Fb]);go_wp2;go_ret;exact⟨by simp[Fb,bU],Aa.o⟩
 subst Fb;by_cases Gb:n3=0
 case neg=>
  have Xc:(((n3:Nat):Int)==0)=false:=(by simp[Gb]);go_wp2;go_ret;exact⟨by simp[Gb,bU],Aa.o⟩
 subst Gb;by_cases Hb:n4=0
 case neg=>
  have Yc:(((n4:Nat):Int)==0)=false:=(by simp[Hb]);go_wp2;go_ret;exact⟨by simp[Hb,bU],Aa.o⟩
 subst Hb;go_wp2;go_ret;exact⟨by simp[bU],Aa.o⟩
end Go.Proofs.YtbjalickbnpnkaaGreatDoor
