import Derived.Test.YtfhknkppiidnkaaGreatPk00
import Derived.Test.YtfhknkppiidnkaaGreatPk01
import Derived.Test.YtfhknkppiidnkaaGreatPk03
import Derived.Test.YtfhknkppiidnkaaGreatPk18
import Derived.Test.YtfhknkppiidnkaaGreatPk14
import Derived.Test.YtfhknkppiidnkaaGreatPk16
import Derived.Test.YtfhknkppiidnkaaGreatPk08
namespace Go.Proofs.YtfhknkppiidnkaaGreat
open Go.RowKit
set_option maxHeartbeats 32000000
set_option maxRecDepth 10000
def bnd (bs:List Int) (who:Int) (q:Nat):List Int:=(([1,2,3,4,5,6,7,8,9]:List Int).take (q-1)).filter fun x=>x == who || bs.contains x
theorem bnd_len (bs:List Int) (who:Int) (q:Nat):(bnd bs who q).length≤9:=by
 unfold bnd;refine Nat.le_trans (List.length_filter_le _ _) ?_;rw [List.length_take];simp;omega
theorem bnd_step (bs:List Int) (who:Int) {q:Nat} (h1:1≤q) (h9:q≤9):bnd bs who (q+1)=bnd bs who q++(if ((q:Int) == who || bs.contains (q:Int))=true then [(q:Int)] else []):=by
 have e:([1,2,3,4,5,6,7,8,9]:List Int).take (q+1-1)=([1,2,3,4,5,6,7,8,9]:List Int).take (q-1)++[(q:Int)]:=by
  rcases (by omega:q=1∨q=2∨q=3∨q=4∨q=5∨q=6∨q=7∨q=8∨q=9) with rfl | rfl | rfl | rfl | rfl | rfl | rfl | rfl | rfl <;> rfl
 unfold bnd;rw [e,List.filter_append]
 congr 1
 unfold List.filter
 cases h:((q:Int) == who || bs.contains (q:Int)) <;> rfl
theorem own_mono {w:World} {base base':Nat} {e:TypeId} {size:Nat} {v:Value} {n:Nat} {xs:List Value} (h:w.ownsRow base e size v n xs) (hb:base'≤base):w.ownsRow base' e size v n xs:=
 ⟨h.1,h.2.imp id fun ⟨g,cap,cur,h1,h2,h3⟩=>⟨g,cap,cur,h1,Nat.le_trans hb h2,h3⟩⟩
theorem MktO.ban {w:World} {base b2:Nat} {ab al:Option Addr} {nb cb n c:Nat} {bs xs:List Int} {aj:Option Addr} {nj cj:Nat} {qs:List MQ} (H:MktO w base ab nb cb bs aj nj cj qs) (ho:Owns 2 w b2 al n c xs) (hb:base≤b2) (hl:∀ g∈mbl ab aj qs,g<b2):MktO w base al n c xs aj nj cj qs:=by
 refine ⟨own_mono ho hb,H.jl,H.j,H.t,?_⟩;have hd:=mbl_nodup.1 H.d;refine mbl_nodup.2 ⟨fun g hg=>?_,hd.2.1,hd.2.2⟩;have h2:=(World.ownsRow.lt ho g (ob_own hg)).1
 constructor
 ·
  intro h;have:=hl g (by unfold mbl;simp [h]);omega
 ·
  intro h;have:=hl g (by unfold mbl;rw [List.mem_append,List.mem_append];exact .inr (.inr h));omega
theorem rt_bad_rt2T : rtCutB.p1∧rtCutB.p2∧rtCutB.p3∧rtCutB.p4:=by
 refine ⟨?tax,?tbx,?tcx,?tdx⟩
 case' tax=>(intro base ab nb cb nj cj bs qs now next kind id worker many m0 m1 m2 m3 m4 m5 m6 m7 m8 m9 m10 m11 t1 t2 p1 p2 p3 p4 a1 a2 a3 a4 n1 n2 n3 n4 c1 c2 c3 c4 z1 z2 z3 z4 w hbase l1 l2 l3 l4 hjl bnj hcj wa wb i hi rt1z1 HAT gj HLT tn hbt tc hbc HJO hiI hi0 gneg hnn rt2z1 rt2z2 rt2z3 jid jr jg tl a b c' d f k a' b' c'' d' f' k' s1 s2 HCQ HTL HJ2 P hp0 hp7 rt1z2 gp hPt g HTN hpt w2 jb x HX hPI hP0 HNO HWK rt2z4 gx HXW w3 nr hr16 oa rt2z5 rt2z6 rt2z7 rt2z8 wd0 hHeld HX0 wd9 hS1 HX1 rt2z9 HBAD HA_5 HV_5 HZ_5 HB_5 S1_5 S2_5 S3_5 S4_5 HG_5 HJ_5;clear hHeld HX0 hS1 HX1)
 case' tbx=>(intro base ab nb cb nj cj bs qs now next kind id worker many m0 m1 m2 m3 m4 m5 m6 m7 m8 m9 m10 m11 t1 t2 p1 p2 p3 p4 a1 a2 a3 a4 n1 n2 n3 n4 c1 c2 c3 c4 z1 z2 z3 z4 w hbase l1 l2 l3 l4 hjl bnj hcj wa wb i hi rt1z1 HAT gj HLT tn hbt tc hbc HJO hiI hi0 gneg hnn rt3z1 rt3z2 rt3z3 jid jr jg tl a b c' d f k a' b' c'' d' f' k' s1 s2 HCQ HTL HJ2 P hp0 hp7 rt1z2 gp hPt g HTN hpt w2 jb x HX hPI hP0 HNO HWK rt3z4 gx HXW w3 nr hr16 oa rt3z5 rt3z6 rt3z7 rt3z8 wd0 hHeld HX0 wd1 hS1 HX1 rt3z9 hjr0 hjr1 u v wd9 hS2 HX2 rt3z10 HBAD HA_5 HV_5 HZ_5 HB_5 S1_5 S2_5 S3_5 S4_5 HG_5 HJ_5;clear hHeld HX0 hS1 HX1 hS2 HX2)
 case' tcx=>(intro base ab nb cb nj cj bs qs now next kind id worker many m0 m1 m2 m3 m4 m5 m6 m7 m8 m9 m10 m11 t1 t2 p1 p2 p3 p4 a1 a2 a3 a4 n1 n2 n3 n4 c1 c2 c3 c4 z1 z2 z3 z4 w hbase l1 l2 l3 l4 hjl bnj hcj wa wb i hi rt1z1 HAT gj HLT tn hbt tc hbc HJO hiI hi0 gneg hnn rt4z1 rt4z2 rt4z3 jid jr jg tl a b c' d f k a' b' c'' d' f' k' s1 s2 HCQ HTL HJ2 P hp0 hp7 rt1z2 gp hPt g HTN hpt w2 jb x HX hPI hP0 HNO HWK rt4z4 gx HXW w3 nr hr16 oa rt4z5 rt4z6 rt4z7 rt4z8 wd0 hHeld HX0 wd1 hS1 HX1 rt4z9 hjr0 hjr1 u v wd9 hS2 HX2 rt4z10 HBAD HA_5 HV_5 HZ_5 HB_5 S1_5 S2_5 S3_5 S4_5 HG_5 HJ_5;clear hHeld HX0 hS1 HX1 hS2 HX2)
 case' tdx=>(intro base ab nb cb nj cj bs qs now next kind id worker many m0 m1 m2 m3 m4 m5 m6 m7 m8 m9 m10 m11 t1 t2 p1 p2 p3 p4 a1 a2 a3 a4 n1 n2 n3 n4 c1 c2 c3 c4 z1 z2 z3 z4 w hbase l1 l2 l3 l4 hjl bnj hcj wa wb i hi rt1z1 HAT gj HLT tn hbt tc hbc HJO hiI hi0 gneg hnn rt5z1 rt5z2 rt5z3 jid jr jg tl a b c' d f k a' b' c'' d' f' k' s1 s2 HCQ HTL HJ2 P hp0 hp7 rt1z2 gp hPt g HTN hpt w2 jb x HX hPI hP0 HNO HWK rt5z4 gx HXW w3 nr hr16 rt5z5 rt5z6 rt5z7 rt5z8 wd0 hHeld HX0 wd1 hS1 HX1 rt5z9 hjr0 hjr1 u v wd2 hS2 HX2 rt5z10 wd9 hS3 HX3 rt5z11 HBAD HA_5 HV_5 HZ_5 HB_5 S1_5 S2_5 S3_5 S4_5 HG_5 HJ_5;clear hHeld HX0 hS1 HX1 hS2 HX2 hS3 HX3)
 all_goals
  have Gb:=HA_5.o.c 0 rfl;have Hb:=HA_5.o.c 1 rfl;have Bb:=HA_5.o.c 2 rfl;have Ib:=HA_5.o.c 3 rfl;have Tc:=HV_5.o.c 3 rfl;(go_wp2_with fail);clear Gb Hb Bb Ib Tc;have Uc:base≤wd9.heap.size:=Nat.le_trans hbase HB_5.o.size;refine (l8Free_any now next worker _ HG_5.o Uc).mono ?_;rintro e w4 ⟨rfl,Zb,Cb,Ac⟩;have Ea:H9 (Lies w4 w.heap.size (v4' now next ab nb cb (some ⟨gj,0,none⟩) nj cj)):=Cb _ _ HA_5.o (fun e=>by have:=HLT.o _ e;omega);have Bc:H9 (Lies w4 (w.heap.size+1) (v12' kind id (P:Nat) worker many m0 m1 m2 m3 m4 m5 m6 m7 m8 m9 m10 m11 t1 t2 p1 p2 p3 p4 a1 n1 c1 a2 n2 c2 a3 n3 c3 a4 n4 c4)):=Cb _ _ HV_5.o (fun e=>by have:=HLT.o _ e;omega);have Jb:H9 (Lies w4 (w.heap.size+1+1) v10'):=Cb _ _ HZ_5.o (fun e=>by have:=HLT.o _ e;omega);have Cc:=Hd (Zb);have Db:H9 (Below base w w4):=(HB_5.o.mono hbase).trans Ac;have Ca:H9 (w.heap.size+1+1<w4.heap.size):=Jb.o.2.2;have Vc:=Hd (Db.o.size);clear Zb Cb Ac HA_5 HV_5 HZ_5 HB_5 S1_5 S2_5 S3_5 S4_5 HG_5 HJ_5;have o0:=Ea.o.c 0 rfl;have Wc:=Ea.o.fr 0;have o1:=Ea.o.c 1 rfl;have Xc:=Ea.o.fr 1;have o2:=Ea.o.c 2 rfl;have Yc:=Ea.o.fr 2;have o3:=Ea.o.c 3 rfl;have Zc:=Ea.o.fr 3;(go_wp2_with fail);clear o0 o1 o2 o3 Wc Xc Yc Zc;have Dc:mbl ab (some ⟨gj,0,none⟩) (qs.map fun q=>(M.freeJ (M.frT now worker) q.1,q.2))=mbl ab (some ⟨gj,0,none⟩) qs:=(by simp [mbl,List.flatMap_map]);have Oa:=Hd (Dc);clear Dc;have Ec:=gcs w4 w.heap.size 0 (v4' now next ab nb cb (some ⟨gj,0,none⟩) nj cj);have Ja:w4.grownBy ((w4.setCells w.heap.size 0 (v4' now next ab nb cb (some ⟨gj,0,none⟩) nj cj)).alloc (.cells #[] 2)) (some w.heap.size):=Ec.trans (World.grownBy_alloc _ _ _);have Kb:(w4.setCells w.heap.size 0 (v4' now next ab nb cb (some ⟨gj,0,none⟩) nj cj)).heap.size=w4.heap.size:=(by simp [World.setCells]);have Lb:H9 (Lies ((w4.setCells w.heap.size 0 (v4' now next ab nb cb (some ⟨gj,0,none⟩) nj cj)).alloc (.cells #[] 2)) w.heap.size (v4' now next ab nb cb (some ⟨gj,0,none⟩) nj cj)):=(Ea.o.setCells (v4' now next ab nb cb (some ⟨gj,0,none⟩) nj cj) 0 (by simp)).alloc _;have Nb:=Hd (Bc.o.grown Ja (by simp));have Ob:=Hd (Jb.o.grown Ja (by simp;omega));have Pb:=Hd (Cc.o.grown Ja (fun g hg e=>by rw [Oa.o] at hg;have:=HLT.o g hg;have:=Option.some.inj e;omega));have Qb:H9 (Below base w ((w4.setCells w.heap.size 0 (v4' now next ab nb cb (some ⟨gj,0,none⟩) nj cj)).alloc (.cells #[] 2))):=Db.o.trans (below_of_grown Ja (Nat.le_trans hbase Db.o.size) (fun z e=>by have:=Option.some.inj e;omega));have Rb:H9 (Owns 2 ((w4.setCells w.heap.size 0 (v4' now next ab nb cb (some ⟨gj,0,none⟩) nj cj)).alloc (.cells #[] 2)) w4.heap.size (some ⟨w4.heap.size,0,none⟩) 0 0 []):=(by have h0:=World.ownsRow_made (e:=2) (size:=1) (base:=w4.heap.size) (w4.setCells w.heap.size 0 (v4' now next ab nb cb (some ⟨gj,0,none⟩) nj cj)) #[] 0 (by rw [Kb];exact Nat.le_refl _) (by unfold maxLen;omega) (by simp);rw [Kb] at h0;exact h0);have Sb:w4.heap.size≤((w4.setCells w.heap.size 0 (v4' now next ab nb cb (some ⟨gj,0,none⟩) nj cj)).alloc (.cells #[] 2)).heap.size:=Ja.size;show Code.wp _ _ _ _ ((w4.setCells w.heap.size 0 (v4' now next ab nb cb (some ⟨gj,0,none⟩) nj cj)).alloc (.cells #[] 2));generalize ((w4.setCells w.heap.size 0 (v4' now next ab nb cb (some ⟨gj,0,none⟩) nj cj)).alloc (.cells #[] 2))=w5 at Lb Nb Ob Pb Qb Rb Sb ⊢;have Ad:=Hd (Sb);clear Sb Ec Ja Kb Ea Bc Jb Cc Db
  go_loopw [9,10] (fun l i wr=>∃ (q:Nat) (al:Option Addr) (n c:Nat),1≤q∧q≤10∧i=it q∧l=.slice al n c∧Owns 2 wr w4.heap.size al n c (bnd bs worker q)∧MktO wr base ab nb cb bs (some ⟨gj,0,none⟩) nj cj (qs.map fun q=>(M.freeJ (M.frT now worker) q.1,q.2))∧Lies wr w.heap.size (v4' now next ab nb cb (some ⟨gj,0,none⟩) nj cj)∧Lies wr (w.heap.size+1) (v12' kind id (P:Nat) worker many m0 m1 m2 m3 m4 m5 m6 m7 m8 m9 m10 m11 t1 t2 p1 p2 p3 p4 a1 n1 c1 a2 n2 c2 a3 n3 c3 a4 n4 c4)∧Lies wr (w.heap.size+1+1) v10'∧Below base w wr∧w4.heap.size≤wr.heap.size) (fun _ i _=>10-(intOf i).toNat)
  case atStart=>exact ⟨1,_,0,0,by omega,by omega,rfl,rfl,Rb.o,Pb.o,Lb.o,Nb.o,Ob.o,Qb.o,Ad.o⟩
  case round =>
   obtain ⟨q,al,n,c,Bd,Nd,rfl,rfl,ho,hM,hA,hV,hZ,hB,Cd⟩:=hrel;clear Rb Pb Lb Nb Ob Qb;have Od:n≤9:=(by rw [← ho.len];exact bnd_len _ _ _);have Ia:H9 (Owns 2 wr w4.heap.size al n c (bnd bs worker q)):=ho;have Ka:=Hd (hM);have Da:=Hd (hA);have Pa:=Hd (hV);have Qa:=Hd (hZ);have Ga:=Hd (hB);clear ho hM hA hV hZ hB;by_cases Dd:q≤9
   case pos =>
    have Ed:(q:Int)≤9:=(by omega);have La:=bnd_step bs worker Bd Dd;have v3:=Pa.o.c 3 rfl;have Ha:=Hd (Cd);by_cases Na:(q:Int)=worker
    ·
     skip
     have gq:((q:Int) == worker)=true:=(by simp [Na]);have Tb:=Hd (Na);clear Na;have Ra:H9 (bnd bs worker (q+1)=bnd bs worker q++[(q:Int)]):=(by show _=_;rw [La];rw [if_pos (by simp [Tb.o])]);clear La;obtain ⟨i0,Sa,Ta,Ua,Va⟩:=info_parts info_i64;have Ba:∀ z,(Value.slice al n c).ownBlock=some z→w4.heap.size≤z∧z<wr.heap.size:=fun z hz=>World.ownsRow.lt Ia.o z hz;(go_wp2_with (with_reducible refine wpList_stop 91 ?_ ?_;rfl));show wpList _ _ _ _ _ _;refine wpList_append_own_at _ rfl _ _ 24 rfl w4.heap.size 2 i0 (it 0) 1 8 Tryz.underlying24 Sa Ta Ua Va rfl (by decide) _ n ((bnd bs worker q).map (Value.int .i64)) rfl (World.ownsRow.alloc Ia.o _) ⟨wr.heap.size,0,none⟩ 1 1 [it (q:Nat)] rfl rfl (cell_one wr _ _) (one_int _) (by unfold maxLen;omega) (by omega) ?hs ?hk
     case hs=>simp;exact Nat.le_succ_of_le Ha.o
     case hk =>
      intro v' w7 Wa Xa _ Ub;have hown':w7.ownsRow w4.heap.size 2 1 v' (n+1) ((bnd bs worker (q+1)).map (Value.int .i64)):=(by rw [Ra.o,List.map_append];exact Wa);obtain ⟨Ya,cN,rfl,Za⟩:=Owns.form hown';have Aa:wr.grownBy w7 (Value.slice al n c).ownBlock:=(World.grownBy_alloc wr _ _).trans Xa;have HO':H9 (Owns 2 w7 w4.heap.size Ya (n+1) cN (bnd bs worker (q+1))):=Za;have HM':H9 (MktO w7 base ab nb cb bs (some ⟨gj,0,none⟩) nj cj (qs.map fun q=>(M.freeJ (M.frT now worker) q.1,q.2))):=Ka.o.grown Aa (fun g hg e=>by rw [Oa.o] at hg;have:=HLT.o g hg;have:=(Ba g e).1;have:=Ca.o;omega);have HA':H9 (Lies w7 w.heap.size (v4' now next ab nb cb (some ⟨gj,0,none⟩) nj cj)):=Da.o.grown Aa (fun e=>by have:=(Ba _ e).1;have:=Ca.o;omega);have HV':H9 (Lies w7 (w.heap.size+1) (v12' kind id (P:Nat) worker many m0 m1 m2 m3 m4 m5 m6 m7 m8 m9 m10 m11 t1 t2 p1 p2 p3 p4 a1 n1 c1 a2 n2 c2 a3 n3 c3 a4 n4 c4)):=Pa.o.grown Aa (fun e=>by have:=(Ba _ e).1;have:=Ca.o;omega);have HZ':H9 (Lies w7 (w.heap.size+1+1) v10'):=Qa.o.grown Aa (fun e=>by have:=(Ba _ e).1;have:=Ca.o;omega);have HB':H9 (Below base w w7):=Ga.o.trans (below_of_grown Aa (Nat.le_trans hbase Ga.o.size) (fun z e=>by have:=(Ba z e).1;have:=Ca.o;omega));have Vb:H9 (w4.heap.size≤w7.heap.size):=Nat.le_trans Ha.o Aa.size;clear Wa hown' Xa Ub Za Aa Sa Ta Ua Va Ba;go_wp2;go_roundw
      case rel=>exact ⟨q+1,Ya,n+1,cN,by omega,by omega,by go_num,rfl,HO'.o,HM'.o,HA'.o,HV'.o,HZ'.o,HB'.o,Vb.o⟩
      case measure=>simp [intOf];omega
    have gq:((q:Int) == worker)=false:=(by simp [Na]);have Tb:=Hd (Na);clear Na;have Gb:=Da.o.c 0 rfl;have Hb:=Da.o.c 1 rfl;have Bb:=Da.o.c 2 rfl;have Ib:=Da.o.c 3 rfl;have CB:=l8Banned_any (aj:=some ⟨gj,0,none⟩) (nj:=nj) (cj:=cj) now next (q:Int) wr Ka.o.b.sees;generalize Fc:bs.contains (q:Int)=oc at CB;have Gc:=Hd (Fc);clear Fc;(go_wp2_with fail);clear Gb Hb Bb Ib v3;refine CB.mono ?_;rintro e w6 ⟨rfl,hb⟩;have Hc:H9 (w4.heap.size≤w6.heap.size):=Nat.le_trans Ha.o hb.size;have Wb:=Hd (Ia.o.below hb);have Ic:=Hd (Ka.o.below hb);have Jc:=Hd (Da.o.belowS hb);have Kc:=Hd (Pa.o.belowS hb);have Lc:=Hd (Qa.o.belowS hb);have Xb:H9 (Below base w w6):=Ga.o.trans (hb.mono (Nat.le_trans hbase Ga.o.size));clear Ia Ka Da Pa Qa Ga;clear hb CB Ha;have Ha:=Hc;clear Hc
    cases oc with
    | true =>
     have Ra:H9 (bnd bs worker (q+1)=bnd bs worker q++[(q:Int)]):=(by show _=_;rw [La];rw [if_pos (by rw [Gc.o];simp)]);clear La;obtain ⟨i0,Sa,Ta,Ua,Va⟩:=info_parts info_i64;have Ba:∀ z,(Value.slice al n c).ownBlock=some z→w4.heap.size≤z∧z<w6.heap.size:=fun z hz=>World.ownsRow.lt Wb.o z hz;(go_wp2_with (with_reducible refine wpList_stop 91 ?_ ?_;rfl));show wpList _ _ _ _ _ _;refine wpList_append_own_at _ rfl _ _ 24 rfl w4.heap.size 2 i0 (it 0) 1 8 Tryz.underlying24 Sa Ta Ua Va rfl (by decide) _ n ((bnd bs worker q).map (Value.int .i64)) rfl (World.ownsRow.alloc Wb.o _) ⟨w6.heap.size,0,none⟩ 1 1 [it (q:Nat)] rfl rfl (cell_one w6 _ _) (one_int _) (by unfold maxLen;omega) (by omega) ?hs ?hk
     case hs=>simp;exact Nat.le_succ_of_le Ha.o
     case hk =>
      intro v' w7 Wa Xa _ Ub;have hown':w7.ownsRow w4.heap.size 2 1 v' (n+1) ((bnd bs worker (q+1)).map (Value.int .i64)):=(by rw [Ra.o,List.map_append];exact Wa);obtain ⟨Ya,cN,rfl,Za⟩:=Owns.form hown';have Aa:w6.grownBy w7 (Value.slice al n c).ownBlock:=(World.grownBy_alloc w6 _ _).trans Xa;have HO':H9 (Owns 2 w7 w4.heap.size Ya (n+1) cN (bnd bs worker (q+1))):=Za;have HM':H9 (MktO w7 base ab nb cb bs (some ⟨gj,0,none⟩) nj cj (qs.map fun q=>(M.freeJ (M.frT now worker) q.1,q.2))):=Ic.o.grown Aa (fun g hg e=>by rw [Oa.o] at hg;have:=HLT.o g hg;have:=(Ba g e).1;have:=Ca.o;omega);have HA':H9 (Lies w7 w.heap.size (v4' now next ab nb cb (some ⟨gj,0,none⟩) nj cj)):=Jc.o.grown Aa (fun e=>by have:=(Ba _ e).1;have:=Ca.o;omega);have HV':H9 (Lies w7 (w.heap.size+1) (v12' kind id (P:Nat) worker many m0 m1 m2 m3 m4 m5 m6 m7 m8 m9 m10 m11 t1 t2 p1 p2 p3 p4 a1 n1 c1 a2 n2 c2 a3 n3 c3 a4 n4 c4)):=Kc.o.grown Aa (fun e=>by have:=(Ba _ e).1;have:=Ca.o;omega);have HZ':H9 (Lies w7 (w.heap.size+1+1) v10'):=Lc.o.grown Aa (fun e=>by have:=(Ba _ e).1;have:=Ca.o;omega);have HB':H9 (Below base w w7):=Xb.o.trans (below_of_grown Aa (Nat.le_trans hbase Xb.o.size) (fun z e=>by have:=(Ba z e).1;have:=Ca.o;omega));have Vb:H9 (w4.heap.size≤w7.heap.size):=Nat.le_trans Ha.o Aa.size;clear Wa hown' Xa Ub Za Aa Sa Ta Ua Va Ba;go_wp2;go_roundw
      case rel=>exact ⟨q+1,Ya,n+1,cN,by omega,by omega,by go_num,rfl,HO'.o,HM'.o,HA'.o,HV'.o,HZ'.o,HB'.o,Vb.o⟩
      case measure=>simp [intOf];omega
    | false =>
     have Ra:H9 (bnd bs worker (q+1)=bnd bs worker q):=(by show _=_;rw [La,if_neg (by rw [Gc.o];simpa using Tb.o)];simp);clear La;go_wp2;go_roundw
     case rel=>exact ⟨q+1,al,n,c,by omega,by omega,by go_num,rfl,by rw [Ra.o];exact Wb.o,Ic.o,Jc.o,Kc.o,Lc.o,Xb.o,Ha.o⟩
     case measure=>simp [intOf];omega
   have Ed:¬ (q:Int)≤9:=(by omega);have Nc:H9 (bnd bs worker q=M.banned bs worker):=(by show _=_;rw [show q=10 by omega];rfl);have Fd:H9 (MktO wr base al n c (M.banned bs worker) (some ⟨gj,0,none⟩) nj cj (qs.map fun q=>(M.freeJ (M.frT now worker) q.1,q.2))):=(by rw [← Nc.o];exact Ka.o.ban Ia.o (Nat.le_trans hbase Vc.o) (fun g hg=>by rw [Oa.o] at hg;have:=HLT.o g hg;have:=Ca.o;omega));have Oc:∀ g∈ob al,w4.heap.size≤g:=fun g hg=>(World.ownsRow.lt Ia.o g (ob_own hg)).1
   have Yb:∀ g∈mbl al (some ⟨gj,0,none⟩) (qs.map fun q=>(M.freeJ (M.frT now worker) q.1,q.2)),g≠w.heap.size∧g≠(w.heap.size+1+1):=fun g hg=>by
    have h9:=Ca.o;unfold mbl at hg
    rcases List.mem_append.1 hg with h | h
    · have:=Oc g h;omega
    ·
     have h7:g∈mbl ab (some ⟨gj,0,none⟩) (qs.map fun q=>(M.freeJ (M.frT now worker) q.1,q.2)):=(by unfold mbl;exact List.mem_append.2 (.inr h));rw [Oa.o] at h7;have:=HLT.o g h7;omega
   have Ab:wr.grownBy (wr.setCell ⟨w.heap.size,2,none⟩ (.slice al n c)) (some w.heap.size):=grown_cells (World.grownBy.refl _ _) 2 [.slice al n c];have Eb:H9 (Lies (wr.setCell ⟨w.heap.size,2,none⟩ (.slice al n c)) w.heap.size (v4' now next al n c (some ⟨gj,0,none⟩) nj cj)):=Da.o.set 2 (by simp) _;have Fa:=Hd (Qa.o.grown Ab (fun e=>by have:=Option.some.inj e;omega));have Gd:wr.grownBy (wr.setCell ⟨w.heap.size,2,none⟩ (.slice al n c)) (some w.heap.size):=Ab;have Pc:MktO (wr.setCell ⟨w.heap.size,2,none⟩ (.slice al n c)) base al n c (M.banned bs worker) (some ⟨gj,0,none⟩) nj cj (qs.map fun q=>(M.freeJ (M.frT now worker) q.1,q.2)):=Fd.o.grown Ab (fun g hg e=>(Yb g hg).1 (Option.some.inj e).symm);have Qc:H9 (Below base w (wr.setCell ⟨w.heap.size,2,none⟩ (.slice al n c))):=Ga.o.trans (below_of_grown Ab (Nat.le_trans hbase Ga.o.size) (fun z e=>by have:=Option.some.inj e;omega));have Id:H9 (∀ wf,(wr.setCell ⟨w.heap.size,2,none⟩ (.slice al n c)).grownBy wf (some (w.heap.size+1+1))→MktO wf base al n c (M.banned bs worker) (some ⟨gj,0,none⟩) nj cj (qs.map fun q=>(M.freeJ (M.frT now worker) q.1,q.2))):=fun wf Fb=>Pc.grown Fb (fun g hg e=>(Yb g hg).2 (Option.some.inj e).symm);have Jd:H9 (∀ wf,MktO wf base al n c (M.banned bs worker) (some ⟨gj,0,none⟩) nj cj (qs.map fun q=>(M.freeJ (M.frT now worker) q.1,q.2))→Below base w wf→RetPost w base now next ab nb cb bs (some ⟨gj,0,none⟩) nj cj qs worker id (P:Int) ⟨(p1,p2),(p3,p4),z1,z2,z3,z4⟩ (.returned (.tuple #[.agg (v4' now next al n c (some ⟨gj,0,none⟩) nj cj).toArray,it 7,it 0])) wf):=fun wf hM hB=>⟨hB,.inr (.inr (.inl ⟨HNO.o,by rw [HWK.o];exact HXW.o,by rw [HJ2.o];exact HBAD.o,_,_,_,rfl,hM⟩))⟩;have Bb:=Da.o.c 2 rfl;have Pd:=Da.o.fr 2;have o0:(wr.setCell ⟨w.heap.size,2,none⟩ (.slice al n c)).cell? ⟨w.heap.size,0,none⟩=some (it now):=Eb.o.at 0;have o1:(wr.setCell ⟨w.heap.size,2,none⟩ (.slice al n c)).cell? ⟨w.heap.size,1,none⟩=some (it next):=Eb.o.at 1;have o2:(wr.setCell ⟨w.heap.size,2,none⟩ (.slice al n c)).cell? ⟨w.heap.size,2,none⟩=some (.slice al n c):=Eb.o.at 2;have o3:(wr.setCell ⟨w.heap.size,2,none⟩ (.slice al n c)).cell? ⟨w.heap.size,3,none⟩=some (.slice (some ⟨gj,0,none⟩) nj cj):=Eb.o.at 3;have r0:(wr.setCell ⟨w.heap.size,2,none⟩ (.slice al n c)).cell? ⟨w.heap.size+1+1,0,none⟩=some (it 0):=Fa.o.at 0;have Qd:(wr.setCell ⟨w.heap.size,2,none⟩ (.slice al n c)).frozen? ⟨w.heap.size+1+1,0,none⟩=false:=Fa.o.fr 0;have r1:(wr.setCell ⟨w.heap.size,2,none⟩ (.slice al n c)).cell? ⟨w.heap.size+1+1,1,none⟩=some (it 0):=Fa.o.at 1;have Rd:(wr.setCell ⟨w.heap.size,2,none⟩ (.slice al n c)).frozen? ⟨w.heap.size+1+1,1,none⟩=false:=Fa.o.fr 1;have r2:(wr.setCell ⟨w.heap.size,2,none⟩ (.slice al n c)).cell? ⟨w.heap.size+1+1,2,none⟩=some (.slice none 0 0):=Fa.o.at 2;have Sd:(wr.setCell ⟨w.heap.size,2,none⟩ (.slice al n c)).frozen? ⟨w.heap.size+1+1,2,none⟩=false:=Fa.o.fr 2;have r3:(wr.setCell ⟨w.heap.size,2,none⟩ (.slice al n c)).cell? ⟨w.heap.size+1+1,3,none⟩=some (.slice none 0 0):=Fa.o.at 3;have Td:(wr.setCell ⟨w.heap.size,2,none⟩ (.slice al n c)).frozen? ⟨w.heap.size+1+1,3,none⟩=false:=Fa.o.fr 3;clear HNO HWK HBAD Nc Ab Gd Pc Oc Yb Ia Ka Da Pa Qa Ga;(go_wp2_with fail);show bodyPost _ _ _ _ _ ((wr.setCell ⟨w.heap.size,2,none⟩ (.slice al n c)).setCells (w.heap.size+1+1) 0 (v4' now next al n c (some ⟨gj,0,none⟩) nj cj));have Rc:Lies ((wr.setCell ⟨w.heap.size,2,none⟩ (.slice al n c)).setCells (w.heap.size+1+1) 0 (v4' now next al n c (some ⟨gj,0,none⟩) nj cj)) (w.heap.size+1+1) (v4' now next al n c (some ⟨gj,0,none⟩) nj cj):=Fa.o.setCells (v4' now next al n c (some ⟨gj,0,none⟩) nj cj) 0 (by simp);have Fb:=gcs (wr.setCell ⟨w.heap.size,2,none⟩ (.slice al n c)) (w.heap.size+1+1) 0 (v4' now next al n c (some ⟨gj,0,none⟩) nj cj);have Kd:=Id.o _ Fb;have Ld:Below base w ((wr.setCell ⟨w.heap.size,2,none⟩ (.slice al n c)).setCells (w.heap.size+1+1) 0 (v4' now next al n c (some ⟨gj,0,none⟩) nj cj)):=Qc.o.trans (below_of_grown Fb (Nat.le_trans hbase Qc.o.size) (fun z e=>by have:=Option.some.inj e;omega));have Sc:=Jd.o _ Kd Ld;generalize ((wr.setCell ⟨w.heap.size,2,none⟩ (.slice al n c)).setCells (w.heap.size+1+1) 0 (v4' now next al n c (some ⟨gj,0,none⟩) nj cj))=wf at Rc Sc ⊢;exact bodyPost_ret (results_cell_tmp2 rfl rfl (run_loadVar_mid wf (w.heap.size+1+1) 0 27 _ _ Rc.row Tryz.underlying27 rfl (by kernel_rfl))) rfl Sc
theorem rt_bad_rt2 : rtCutB.p1:=rt_bad_rt2T.1
theorem rt_bad_rt3 : rtCutB.p2:=rt_bad_rt2T.2.1
theorem rt_bad_rt4 : rtCutB.p3:=rt_bad_rt2T.2.2.1
theorem rt_bad_rt5 : rtCutB.p4:=rt_bad_rt2T.2.2.2
theorem l8Return_any : ReturnGoal:=rtCut.h ⟨rtCutB.h ⟨rt_bad_rt2⟩ ⟨rt_bad_rt3⟩ ⟨rt_bad_rt4⟩ ⟨rt_bad_rt5⟩ ⟨rt_good⟩⟩
namespace M
theorem jsGo_mk {now next:Int}:∀ {js:List Jb} {last:Int},(∀ j∈js,last<j.id∧j.id<next∧jbOk now j=true)→js.Pairwise (fun a b=>a.id<b.id)→jsGo now next last js=true
 | [],_,_,_=>rfl
 | x::l,last,h,hp=>by
  obtain ⟨h1,h2,h3⟩:=h x (by simp);rw [List.pairwise_cons] at hp;unfold jsGo;rw [decide_eq_true (show last+1≤x.id by omega),decide_eq_true (show x.id≤next-1 by omega),h3,jsGo_mk (fun j hj=>⟨hp.1 j hj,(h j (by simp [hj])).2⟩) hp.2]
  rfl
theorem Right.ok {now next:Int} {bs:List Int} {js:List Jb} (h:Right now next bs js):mkOk now next bs js=true:=by
 unfold mkOk;have h9:(wks js).any (fun x=>bs.contains x)=false:=(by rw [List.any_eq_false];intro x hx;rw [h.bd x hx];simp);rw [decide_eq_true h.now0,decide_eq_true h.now1,decide_eq_true h.next0,decide_eq_true h.next1,h.bn,decide_eq_true h.few,jsGo_mk h.job h.rise,decide_eq_true h.nd,h9]
 rfl
structure JOk (now : Int) (j : Jb) : Prop where
 m:j.m.ok=true
 s:M.sOk j.s=true
 r:M.rows j.rows=true
 l1:1≤j.ts.length
 l8:j.ts.length≤8
 t:∀ t∈j.ts,tkOk now t=true
 g:j.gone=true→(∀ t∈j.ts,leased t=false)∧j.ts.all (·.done)=false
theorem jok_iff {now:Int} {j:Jb}:jbOk now j=true↔JOk now j:=by
 unfold jbOk;simp only [Bool.and_eq_true,decide_eq_true_eq,List.all_eq_true,Bool.or_eq_true,Bool.not_eq_true',List.any_eq_false]
 constructor
 ·
  rintro ⟨⟨a,b,c,d,e,f⟩,g⟩;exact ⟨a,b,c,d,e,f,fun hg=>by rcases g with g | g;rw [hg] at g;simp at g;exact ⟨fun t ht=>by simpa using g.1 t ht,g.2⟩⟩
 ·
  intro h;refine ⟨⟨h.m,h.s,h.r,h.l1,h.l8,h.t⟩,?_⟩
  cases hg:j.gone with
  | false=>exact .inl rfl
  | true=>exact .inr ⟨fun t ht=>by simp [(h.g hg).1 t ht],(h.g hg).2⟩
theorem tk0_ok (now:Int):tkOk now t0=true:=by simp [tkOk,t0]
theorem wkT_free (f:Tk→Bool):∀ ts:List Tk,(wkT (free f ts)).Sublist (wkT ts)
 | []=>List.Sublist.slnil
 | t::l=>by
  have ih:=wkT_free f l
  have e1:wkT (free f (t::l))=(if leased (if f t then t0 else t) then [(if f t then t0 else t).worker] else [])++wkT (free f l):=by
   unfold wkT free;rw [List.map_cons,List.filter_cons];generalize (if f t=true then t0 else t)=u
   cases leased u <;> rfl
  have e2:wkT (t::l)=(if leased t then [t.worker] else [])++wkT l:=by
   unfold wkT;rw [List.filter_cons]
   cases leased t <;> rfl
  rw [e1,e2];refine List.Sublist.append ?_ ih
  cases hf:f t with
  | true=>simp [leased,t0]
  | false=>simp
theorem wks_free (f:Tk→Bool):∀ js:List Jb,(wks (js.map (freeJ f))).Sublist (wks js)
 | []=>List.Sublist.slnil
 | j::l=>by
  rw [List.map_cons,wks_cons,wks_cons];exact List.Sublist.append (wkT_free f j.ts) (wks_free f l)
theorem free_none {f:Tk→Bool} {ts:List Tk} (h:∀ t∈ts,f t=false):free f ts=ts:=by
 unfold free
 conv=>rhs;rw [← List.map_id ts]
 exact List.map_congr_left fun t ht=>by simp [h t ht]
theorem mem_free {f:Tk→Bool} {ts:List Tk} {t:Tk} (h:t∈free f ts):t=t0∨(t∈ts∧f t=false):=by
 unfold free at h;obtain ⟨x,hx,rfl⟩:=List.mem_map.1 h
 cases hf:f x with
 | true=>exact .inl (by simp)
 | false=>exact .inr (by simp [hx,hf])
theorem JOk.freed {now now':Int} {j:Jb} (h:JOk now j) (f:Tk→Bool) (hl:∀ t,f t=true→leased t=true) (ht:∀ t∈j.ts,f t=false→tkOk now t=true→tkOk now' t=true):JOk now' (freeJ f j):=by
 refine ⟨h.m,h.s,h.r,by show 1≤(free f j.ts).length;rw [free_len];exact h.l1,by show (free f j.ts).length≤8;rw [free_len];exact h.l8,fun t hm=>?_,fun hg=>?_⟩
 ·
  rcases mem_free hm with rfl | ⟨h1,h2⟩
  · exact tk0_ok _
  · exact ht t h1 h2 (h.t t h1)
 ·
  have hg':=h.g hg
  have e:free f j.ts=j.ts:=free_none fun t hm=>by
   cases hf:f t with
   | false=>rfl
   | true=>have:=hl t hf;rw [hg'.1 t hm] at this;simp at this
  show (∀ t∈free f j.ts,leased t=false)∧(free f j.ts).all (·.done)=false;rw [e];exact hg'
theorem Right.jok {now next:Int} {bs:List Int} {js:List Jb} (h:Right now next bs js) {j:Jb} (hj:j∈js):JOk now j:=jok_iff.1 (h.job j hj).2.2
theorem rise_map {f:Jb→Jb} (hf:∀ j,(f j).id=j.id) {js:List Jb} (h:js.Pairwise (fun a b=>a.id<b.id)):(js.map f).Pairwise (fun a b=>a.id<b.id):=by
 rw [List.pairwise_map];exact h.imp (fun hab=>by rw [hf,hf];exact hab)
theorem due_leased {now:Int} {t:Tk} (h:dueT now t=true):leased t=true:=by unfold dueT at h;rw [Bool.and_eq_true] at h;exact h.1
theorem tick_right {m:Mt} {many:Int} (h:Right m.now m.next m.bs m.js) (h1:1≤many):Right (tick m many).1.now (tick m many).1.next (tick m many).1.bs (tick m many).1.js:=by
 have hn:m.now≤tickN m.now many:=(by unfold tickN;have:=h.now1;split <;> omega);have Aa:tickN m.now many≤1000000000:=(by unfold tickN;split <;> omega);refine ⟨Int.le_trans h.now0 hn,Aa,h.next0,h.next1,by show (m.js.map _).length≤6;rw [List.length_map];exact h.few,h.bn,fun j hj=>?_,rise_map (f:=freeJ (dueT (tickN m.now many))) (fun _=>rfl) h.rise,(wks_free _ _).nodup h.nd,fun x hx=>h.bd x ((wks_free _ _).subset hx)⟩;obtain ⟨x,hx,rfl⟩:=List.mem_map.1 hj;refine ⟨(h.job x hx).1,(h.job x hx).2.1,jok_iff.2 ((h.jok hx).freed _ (fun t ht=>due_leased ht) fun t _ hf ht=>?_)⟩;show tkOk (tickN m.now many) t=true;unfold tkOk at ht ⊢;by_cases hw:t.worker=0
 ·
  simp only [hw,decide_true,Bool.true_and] at ht ⊢;by_cases hd:t.due=0
  · simp [hd]
  · simp [hd,wkOk] at ht
 ·
  simp only [hw,decide_false,Bool.false_and,Bool.false_or,Bool.and_eq_true,decide_eq_true_eq] at ht ⊢;unfold dueT leased at hf;simp only [hw,ne_eq,not_false_eq_true,decide_true,Bool.true_and,decide_eq_false_iff_not] at hf;exact ⟨ht.1,ht.2.1,by omega,by omega⟩
theorem wkT_rep (n:Nat):wkT (List.replicate n t0)=[]:=by
 unfold wkT;rw [List.map_eq_nil_iff,List.filter_eq_nil_iff];intro t ht;rw [(List.mem_replicate.1 ht).2];simp [leased,t0]
theorem submit_right {m:Mt} {mc:Mc} {s:Int×Int} {rows many:Int} (h:Right m.now m.next m.bs m.js) (hm:mc.ok=true) (hs:M.sOk s=true) (hr:M.rows rows=true) (h1:1≤many) (h8:many≤8):Right (submit m mc s rows many).1.now (submit m mc s rows many).1.next (submit m mc s rows many).1.bs (submit m mc s rows many).1.js:=by
 unfold submit
 split
 · exact h
 ·
  rename_i hc;simp only [Bool.or_eq_true,decide_eq_true_eq,not_or] at hc;have hf:=h.few;have hn:=h.next1;have hw:wks (m.js++[⟨m.next,mc,s,rows,false,List.replicate many.toNat t0⟩])=wks m.js:=(by unfold wks;rw [List.flatMap_append];simp [wkT_rep]);refine ⟨h.now0,h.now1,by show 1≤m.next+1;have:=h.next0;omega,by show m.next+1≤_;omega,by show (m.js++_).length≤6;rw [List.length_append,List.length_singleton];omega,h.bn,fun j hj=>?_,?_,by show (wks (m.js++_)).Nodup;rw [hw];exact h.nd,fun x hx=>h.bd x (by have hx':x∈wks (m.js++[⟨m.next,mc,s,rows,false,List.replicate many.toNat t0⟩]):=hx;rwa [hw] at hx')⟩
  ·
   rcases List.mem_append.1 hj with hj | hj
   ·
    obtain ⟨a,b,c⟩:=h.job j hj;exact ⟨a,by show j.id<m.next+1;omega,c⟩
   ·
    simp only [List.mem_singleton] at hj;subst hj;refine ⟨by show 0<m.next;have:=h.next0;omega,by show m.next<m.next+1;omega,jok_iff.2 ⟨hm,hs,hr,by show 1≤(List.replicate many.toNat t0).length;rw [List.length_replicate];omega,by show (List.replicate many.toNat t0).length≤8;rw [List.length_replicate];omega,fun t ht=>?_,fun hg=>by simp at hg⟩⟩;rw [(List.mem_replicate.1 ht).2];exact tk0_ok _
  ·
   rw [List.pairwise_append];refine ⟨h.rise,by simp,fun a ha b hb=>?_⟩;simp only [List.mem_singleton] at hb;subst hb;exact (h.job a ha).2.1
theorem rise_set {js:List Jb} {i:Nat} {j:Jb} (hi:i<js.length) (he:j.id=(js.getD i j0).id) (h:js.Pairwise (fun a b=>a.id<b.id)):(js.set i j).Pairwise (fun a b=>a.id<b.id):=by
 have e:(js.set i j).map (·.id)=js.map (·.id):=by
  rw [List.map_set,he];have e2:(js.getD i j0).id=(js.map (·.id))[i]'(by simpa using hi):=(by rw [List.getElem_map,List.getD_eq_getElem?_getD,List.getElem?_eq_getElem hi];rfl);rw [e2,List.set_getElem_self]
 have h2:(js.map (·.id)).Pairwise (· < ·):=(by rw [List.pairwise_map];exact h);rw [← e,List.pairwise_map] at h2;exact h2
theorem mem_setJ {js:List Jb} {i:Nat} {j x:Jb} (h:x∈js.set i j):x=j∨x∈js:=(List.mem_or_eq_of_mem_set h).symm
theorem wks_set : ∀ {js:List Jb} {i:Nat} {j:Jb},i<js.length→∃ a b,wks js=a++(wkT (js.getD i j0).ts++b)∧wks (js.set i j)=a++(wkT j.ts++b)
 | [],_,_,h=>by simp at h
 | x::l,0,j,_=>⟨[],wks l,by rw [wks_cons];rfl,by rw [List.set_cons_zero,wks_cons];rfl⟩
 | x::l,i+1,j,h=>by
  obtain ⟨a,b,h1,h2⟩:=wks_set (js:=l) (i:=i) (j:=j) (by simpa using h);exact ⟨wkT x.ts++a,b,by rw [wks_cons,h1,List.append_assoc];rfl,by rw [List.set_cons_succ,wks_cons,h2,List.append_assoc]⟩
theorem jobAt_lt {id:Int} {js:List Jb} (h:¬ jobAt id 0 js<0):(jobAt id 0 js).toNat<js.length∧jobOf id js∈js∧(jobOf id js).id=id:=by
 obtain ⟨i,h1,h2,h3⟩:=jobAt_some id js 0 (by omega);have e:(jobAt id 0 js).toNat=i:=(by rw [h2];simp);refine ⟨by omega,?_,?_⟩ <;> unfold jobOf <;> rw [e]
 · exact getD_mem h1
 · exact h3
theorem cancel_right {m:Mt} {id:Int} (h:Right m.now m.next m.bs m.js):Right (cancel m id).1.now (cancel m id).1.next (cancel m id).1.bs (cancel m id).1.js:=by
 unfold cancel
 split
 · exact h
 ·
  rename_i Da;obtain ⟨hi,Aa,_⟩:=jobAt_lt Da
  split
  · exact h
  ·
   rename_i hc;simp only [Bool.or_eq_true,not_or] at hc;obtain ⟨wa,wb,e1,e2⟩:=wks_set (js:=m.js) (i:=(jobAt id 0 m.js).toNat) (j:={ freeJ leased (jobOf id m.js) with gone:=true }) hi
   have Ba:(wks (m.js.set (jobAt id 0 m.js).toNat { freeJ leased (jobOf id m.js) with gone:=true })).Sublist (wks m.js):=by
    rw [e1,e2];exact List.Sublist.append (List.Sublist.refl _) (List.Sublist.append (wkT_free _ _) (List.Sublist.refl _))
   refine ⟨h.now0,h.now1,h.next0,h.next1,by show (m.js.set _ _).length≤6;rw [List.length_set];exact h.few,h.bn,fun j hj=>?_,rise_set hi rfl h.rise,Ba.nodup h.nd,fun x hx=>h.bd x (Ba.subset hx)⟩
   rcases mem_setJ hj with rfl | hj
   ·
    refine ⟨(h.job _ Aa).1,(h.job _ Aa).2.1,jok_iff.2 ?_⟩;have hj:=(h.jok Aa).freed (now':=m.now) leased (fun t ht=>ht) (fun t _ _ ht=>ht);refine ⟨hj.m,hj.s,hj.r,hj.l1,hj.l8,hj.t,fun _=>⟨fun t ht=>?_,?_⟩⟩
    ·
     rcases mem_free ht with rfl | ⟨_,h2⟩
     · simp [leased,t0]
     · exact h2
    ·
     show (free leased (jobOf id m.js).ts).all (·.done)=false;have Ca:(jobOf id m.js).ts.all (·.done)=false:=(by simpa using hc.2);rw [List.all_eq_false] at Ca ⊢;obtain ⟨t,ht,hd⟩:=Ca;refine ⟨if leased t then t0 else t,List.mem_map.2 ⟨t,ht,rfl⟩,?_⟩
     split
     · simp [t0]
     · exact hd
   · exact h.job j hj
theorem place_some : ∀ {js:List Jb} {i a b:Nat},place i js=some (a,b)→∃ n,a=i+n∧n<js.length∧openP (js.getD n j0)=some b
 | [],_,_,_,h=>by simp [place] at h
 | j::l,i,a,b,h=>by
  have e:place i (j::l)=(match openP j with | some k=>some (i,k) | none=>place (i+1) l):=rfl
  rw [e] at h
  cases ho:openP j with
  | some k =>
   rw [ho] at h;simp only [Option.some.injEq,Prod.mk.injEq] at h;exact ⟨0,by omega,by simp,by rw [← h.2];exact ho⟩
  | none =>
   rw [ho] at h;obtain ⟨n,h1,h2,h3⟩:=place_some h;exact ⟨n+1,by omega,by simpa using h2,h3⟩
theorem open_some {j:Jb} {b:Nat} (h:openP j=some b):j.gone=false∧b<j.ts.length∧isFree (j.ts.getD b t0)=true:=by
 unfold openP at h
 cases hg:j.gone with
 | true=>rw [hg] at h;simp at h
 | false =>
  rw [hg] at h;simp only [Bool.false_eq_true,if_false] at h;rw [List.findIdx?_eq_some_iff_getElem] at h;obtain ⟨h1,h2,_⟩:=h;exact ⟨rfl,h1,by rw [List.getD_eq_getElem?_getD,List.getElem?_eq_getElem h1];exact h2⟩
theorem wkT_app (t:Tk) (l:List Tk):wkT (t::l)=(if leased t then [t.worker] else [])++wkT l:=by
 unfold wkT;rw [List.filter_cons]
 cases leased t <;> rfl
theorem wkT_set_in {t:Tk} (ht:leased t=true):∀ {ts:List Tk} {k:Nat},k<ts.length→leased (ts.getD k t0)=false→(wkT (ts.set k t)).Perm (t.worker::wkT ts)
 | [],_,h,_=>by simp at h
 | x::l,0,_,hx=>by
  have hx':leased x=false:=hx;rw [List.set_cons_zero,wkT_app,wkT_app,ht,hx'];exact List.Perm.refl _
 | x::l,k+1,h,hx=>by
  have ih:=wkT_set_in ht (ts:=l) (k:=k) (by simpa using h) hx;rw [List.set_cons_succ,wkT_app,wkT_app];exact (ih.append_left _).trans (List.perm_middle)
theorem wkT_set_out {t:Tk} (ht:leased t=false):∀ {ts:List Tk} {k:Nat},(wkT (ts.set k t)).Sublist (wkT ts)
 | [],_=>by simp
 | x::l,0=>by
  rw [List.set_cons_zero,wkT_app,wkT_app,ht];exact List.sublist_append_right _ _
 | x::l,k+1=>by
  rw [List.set_cons_succ,wkT_app,wkT_app];exact (List.Sublist.refl _).append (wkT_set_out ht)
theorem JOk.set {now:Int} {j:Jb} (h:JOk now j) (hg:j.gone=false) {t:Tk} (ht:tkOk now t=true) (k:Nat):JOk now { j with ts:=j.ts.set k t }:=
 ⟨h.m,h.s,h.r,by show 1≤(j.ts.set k t).length;rw [List.length_set];exact h.l1,by show (j.ts.set k t).length≤8;rw [List.length_set];exact h.l8,fun x hx=>by rcases List.mem_or_eq_of_mem_set hx with hx | rfl;exact h.t x hx;exact ht,fun hg'=>by have:j.gone=true:=hg';rw [hg] at this;simp at this⟩
theorem lease_right {m:Mt} {who:Int} (h:Right m.now m.next m.bs m.js) (hw:wkOk who=true):Right (lease m who).1.now (lease m who).1.next (lease m who).1.bs (lease m who).1.js:=by
 unfold lease
 split
 · exact h
 ·
  rename_i hb
  split
  · exact h
  ·
   rename_i Ea
   cases hp:place 0 m.js with
   | none=>exact h
   | some x =>
    obtain ⟨i,k⟩:=x;obtain ⟨n,hn,Aa,ho⟩:=place_some hp;obtain rfl:i=n:=by omega
    obtain ⟨hg,hk,hf⟩:=open_some ho;have Ba:m.js.getD i j0∈m.js:=getD_mem Aa;have Ca:who≠0:=fun e=>by rw [e] at hw;simp [wkOk] at hw
    have hl:leased (⟨false,who,m.now+5⟩:Tk)=true:=(by simp [leased,Ca]);have Fa:leased ((m.js.getD i j0).ts.getD k t0)=false:=by unfold isFree at hf;rw [Bool.and_eq_true] at hf;simpa using hf.2
    have Ga:tkOk m.now ⟨false,who,m.now+5⟩=true:=by
     unfold tkOk;simp only [Ca,decide_false,Bool.false_and,Bool.false_or,Bool.not_false,Bool.true_and,hw];simp
    have Ha:who∉wks m.js:=fun hx=>by
     obtain ⟨j,hj,t,ht,e⟩:=(mem_wks Ca).1 hx;apply Ea;rw [List.any_eq_true];exact ⟨j,hj,by rw [List.any_eq_true];exact ⟨t,ht,by simp [mineT,e]⟩⟩
    obtain ⟨wa,wb,e1,e2⟩:=wks_set (js:=m.js) (i:=i) (j:={ m.js.getD i j0 with ts:=(m.js.getD i j0).ts.set k ⟨false,who,m.now+5⟩ }) Aa
    have Da:(wks (setT m.js i k ⟨false,who,m.now+5⟩)).Perm (who::wks m.js):=by
     unfold setT;rw [e1,e2];refine (List.Perm.append_left wa ((wkT_set_in hl hk Fa).append_right wb)).trans ?_;exact List.perm_middle
    refine ⟨h.now0,h.now1,h.next0,h.next1,by show (setT _ _ _ _).length≤6;unfold setT;rw [List.length_set];exact h.few,h.bn,fun j hj=>?_,?_,?_,fun x hx=>?_⟩
    ·
     have hj':j∈m.js.set i { m.js.getD i j0 with ts:=(m.js.getD i j0).ts.set k ⟨false,who,m.now+5⟩ }:=hj
     rcases mem_setJ hj' with rfl | hj'
     · exact ⟨(h.job _ Ba).1,(h.job _ Ba).2.1,jok_iff.2 ((h.jok Ba).set hg Ga k)⟩
     · exact h.job j hj'
    · exact rise_set Aa rfl h.rise
    · exact Da.nodup_iff.2 (List.nodup_cons.2 ⟨Ha,h.nd⟩)
    ·
     have hx':=Da.mem_iff.1 hx
     rcases List.mem_cons.1 hx' with rfl | hx'
     · simpa using hb
     · exact h.bd x hx'
theorem wks_pos {js:List Jb} {x:Int} (h:x∈wks js):x≠0:=by
 unfold wks wkT at h;obtain ⟨j,_,hx⟩:=List.mem_flatMap.1 h;obtain ⟨t,ht,rfl⟩:=List.mem_map.1 hx;have:=(List.mem_filter.1 ht).2;simpa [leased] using this
theorem bn_mk : ∀ {bs:List Int} {last:Int},(∀ x∈bs,last<x∧wkOk x=true)→bs.Pairwise (· < ·)→bnGo last bs=true
 | [],_,_,_=>rfl
 | y::l,last,h,hp=>by
  rw [List.pairwise_cons] at hp;obtain ⟨h1,h2⟩:=h y (by simp);unfold bnGo;rw [decide_eq_true h1,h2,bn_mk (fun x hx=>⟨hp.1 x hx,(h x (by simp [hx])).2⟩) hp.2]
  rfl
theorem back_right {g:Jb→Bool} {m:Mt} {who id part:Int} (h:Right m.now m.next m.bs m.js) (hw:wkOk who=true) (hp:0≤part):Right (back g m who id part).1.now (back g m who id part).1.next (back g m who id part).1.bs (back g m who id part).1.js:=by
 have Ca:who≠0:=fun e=>by rw [e] at hw;simp [wkOk] at hw
 unfold back
 split
 · exact h
 ·
  split
  · exact h
  ·
   rename_i hc;simp only [Bool.or_eq_true,decide_eq_true_eq,not_or] at hc;obtain ⟨hi,Ba,_⟩:=jobAt_lt hc.1
   split
   · exact h
   ·
    rename_i Ea;have hwk':((jobOf id m.js).ts.getD part.toNat t0).worker=who:=(by simpa using Ea);have Fa:part.toNat<(jobOf id m.js).ts.length:=(by omega);have Ga:leased ((jobOf id m.js).ts.getD part.toNat t0)=true:=by unfold leased;rw [hwk'];exact decide_eq_true Ca
    split
    ·
     have Aa:=wks_free (mineT who) m.js
     have Ha:∀ x∈wks (m.js.map (freeJ (mineT who))),x≠who:=fun x hx e=>by
      obtain ⟨j,hj,t,ht,e2⟩:=(mem_wks (wks_pos hx)).1 hx;obtain ⟨j',_,rfl⟩:=List.mem_map.1 hj
      rcases mem_free ht with rfl | ⟨_,h2⟩
      · exact wks_pos hx e2.symm
      · simp [mineT] at h2;exact h2 (e2.trans e)
     refine ⟨h.now0,h.now1,h.next0,h.next1,by show (m.js.map _).length≤6;rw [List.length_map];exact h.few,?_,fun j hj=>?_,rise_map (f:=freeJ (mineT who)) (fun _=>rfl) h.rise,Aa.nodup h.nd,fun x hx=>?_⟩
     ·
      refine bn_mk (fun x hx=>?_) (banned_pw _ _);have:=(mem_banned.1 hx).1;exact ⟨by unfold wkOk at this;simp at this;omega,this⟩
     ·
      obtain ⟨x,hx,rfl⟩:=List.mem_map.1 hj;exact ⟨(h.job x hx).1,(h.job x hx).2.1,jok_iff.2 ((h.jok hx).freed _ (fun t ht=>by simp [mineT] at ht;simp [leased,ht,Ca]) (fun t _ _ ht=>ht))⟩
     ·
      have h1:=h.bd x (Aa.subset hx);have h2:=Ha x hx;show (banned m.bs who).contains x=false;rw [Bool.eq_false_iff];intro Da;rw [List.contains_iff_mem] at Da
      rcases (mem_banned.1 Da).2 with e | e
      · exact h2 e
      · rw [← List.contains_iff_mem,h1] at e;simp at e
    ·
     have hg:(jobOf id m.js).gone=false:=by
      cases hgg:(jobOf id m.js).gone with
      | false=>rfl
      | true=>have:=((h.jok Ba).g hgg).1 _ (getD_mem (d:=t0) Fa);rw [Ga] at this;simp at this
     obtain ⟨wa,wb,e1,e2⟩:=wks_set (js:=m.js) (i:=(jobAt id 0 m.js).toNat) (j:={ jobOf id m.js with ts:=(jobOf id m.js).ts.set part.toNat ⟨true,0,0⟩ }) hi
     have Aa:(wks (setT m.js (jobAt id 0 m.js).toNat part.toNat ⟨true,0,0⟩)).Sublist (wks m.js):=by
      unfold setT;rw [show m.js.getD (jobAt id 0 m.js).toNat j0=jobOf id m.js from rfl,e2,e1];exact List.Sublist.append (List.Sublist.refl _) (List.Sublist.append (wkT_set_out (by simp [leased])) (List.Sublist.refl _))
     refine ⟨h.now0,h.now1,h.next0,h.next1,by show (setT _ _ _ _).length≤6;unfold setT;rw [List.length_set];exact h.few,h.bn,fun j hj=>?_,rise_set hi rfl h.rise,Aa.nodup h.nd,fun x hx=>h.bd x (Aa.subset hx)⟩;have hj':j∈m.js.set (jobAt id 0 m.js).toNat { jobOf id m.js with ts:=(jobOf id m.js).ts.set part.toNat ⟨true,0,0⟩ }:=hj
     rcases mem_setJ hj' with rfl | hj'
     · exact ⟨(h.job _ Ba).1,(h.job _ Ba).2.1,jok_iff.2 ((h.jok Ba).set hg (by simp [tkOk]) _)⟩
     · exact h.job j hj'
end M
theorem M.frT_mine {now who:Int} (hw:who≠0):M.frT now who=M.mineT who:=by
 funext t
 unfold M.frT M.mineT M.leased;by_cases h:t.worker=who
 · simp [h,hw]
 · simp [h,hw]
theorem RetPost.back {w w':World} {base:Nat} {now next:Int} {ab aj:Option Addr} {nb cb nj cj:Nat} {bs:List Int} {qs:List MQ} {worker id part:Int} {p:M.Pf} {e:Ending} (hw:worker≠0) (hbn:bs.contains worker=false) (h:RetPost w base now next ab nb cb bs aj nj cj qs worker id part p e w') :
  ∃ v,e=.returned (.tuple #[v,.int .i64 (M.back (M.pok part p) ⟨now,next,bs,qs.map (·.1)⟩ worker id part).2.1,.int .i64 (M.back (M.pok part p) ⟨now,next,bs,qs.map (·.1)⟩ worker id part).2.2])∧MktPost w base v (M.back (M.pok part p) ⟨now,next,bs,qs.map (·.1)⟩ worker id part).1.now (M.back (M.pok part p) ⟨now,next,bs,qs.map (·.1)⟩ worker id part).1.next (M.back (M.pok part p) ⟨now,next,bs,qs.map (·.1)⟩ worker id part).1.bs (M.back (M.pok part p) ⟨now,next,bs,qs.map (·.1)⟩ worker id part).1.js w':=by
 obtain ⟨hB,h⟩:=h;have h0:¬ (bs.contains worker=true):=by rw [hbn];simp
 rcases h with ⟨h1,rfl,hM⟩ | ⟨h1,h2,rfl,hM⟩ | ⟨h1,h2,h3,ab',nb',cb',rfl,hM⟩ | ⟨h1,h2,h3,i,hi,rfl,hM⟩
 ·
  have e:M.back (M.pok part p) ⟨now,next,bs,qs.map (·.1)⟩ worker id part=(⟨now,next,bs,qs.map (·.1)⟩,4,0):=by
   unfold M.back;rw [if_neg h0,if_pos (by simpa using h1)]
  rw [e];exact ⟨_,rfl,_,_,_,_,_,_,_,rfl,hM,rfl,hB⟩
 ·
  have e:M.back (M.pok part p) ⟨now,next,bs,qs.map (·.1)⟩ worker id part=(⟨now,next,bs,qs.map (·.1)⟩,8,0):=by
   unfold M.back;rw [if_neg h0,if_neg (by simpa using h1),if_pos h2]
  rw [e];exact ⟨_,rfl,_,_,_,_,_,_,_,rfl,hM,rfl,hB⟩
 ·
  have e:M.back (M.pok part p) ⟨now,next,bs,qs.map (·.1)⟩ worker id part=(⟨now,next,M.banned bs worker,(qs.map (·.1)).map (M.freeJ (M.mineT worker))⟩,7,0):=by
   unfold M.back;rw [if_neg h0,if_neg (by simpa using h1),if_neg (by simpa using h2),if_pos h3]
  rw [e];rw [M.frT_mine hw] at hM;exact ⟨_,rfl,_,_,_,_,_,_,_,rfl,hM,by simp [List.map_map,Function.comp_def],hB⟩
 ·
  have e:M.back (M.pok part p) ⟨now,next,bs,qs.map (·.1)⟩ worker id part=(⟨now,next,bs,M.setT (qs.map (·.1)) i part.toNat ⟨true,0,0⟩⟩,0,if ((M.jobOf id (qs.map (·.1))).ts.set part.toNat ⟨true,0,0⟩).all (·.done) then 1 else 0):=by
   unfold M.back;rw [if_neg h0,if_neg (by simpa using h1),if_neg (by simpa using h2),if_neg (by simp [h3]),hi]
   rfl
  rw [e]
  have hj:M.jobOf id (qs.map (·.1))=(qs.getD i q0).1:=by
   rw [← map_getD];unfold M.jobOf;rw [hi]
   rfl
  rw [hj];refine ⟨_,rfl,_,_,_,_,_,_,_,rfl,hM,?_,hB⟩;unfold M.setT;rw [map_getD,List.map_set]
namespace M
def accO (i k:Nat) (gone:Bool) (ts:List Tk):Option (Nat×Nat)→Option (Nat×Nat)
 | some x=>some x
 | none=>if gone then none else (ts.findIdx? isFree).map fun m=>(i,k+m)
theorem free_eq (t:Tk):isFree t=(!t.done && decide (t.worker=0)):=by
 unfold isFree leased;by_cases h:t.worker=0 <;> simp [h]
theorem scT_eq (who:Int) (gone:Bool) (i:Nat):∀ (ts:List Tk) (k:Nat) (acc:Option (Nat×Nat)),scT who gone i k acc ts=if ts.any (mineT who) then none else some (accO i k gone ts acc)
 | [],k,acc=>by cases acc <;> cases gone <;> rfl
 | t::l,k,acc=>by
  unfold scT;by_cases hw:t.worker=who
  · rw [if_pos hw];simp [mineT,hw]
  ·
   rw [if_neg hw,scT_eq who gone i l (k+1),List.any_cons,show mineT who t=false by simp [mineT,hw],Bool.false_or];by_cases ha:l.any (mineT who)=true
   · rw [if_pos ha,if_pos ha]
   ·
    rw [if_neg ha,if_neg ha]
    congr 1
    cases acc with
    | some x=>rfl
    | none =>
     cases gone with
     | true=>rfl
     | false =>
      simp only [Option.isNone_none,Bool.true_and,Bool.not_false,← free_eq];unfold accO;rw [List.findIdx?_cons]
      cases hf:isFree t with
      | true=>simp
      | false =>
       simp only [Bool.false_eq_true,if_false,Option.map_map]
       cases l.findIdx? isFree with
       | none=>rfl
       | some m=>simp;omega
theorem scJ_eq (who:Int):∀ (js:List Jb) (i:Nat) (acc:Option (Nat×Nat)),scJ who i acc js=if js.any (fun j=>j.ts.any (mineT who)) then none else some (match acc with | some x=>some x | none=>place i js)
 | [],i,acc=>by cases acc <;> rfl
 | j::l,i,acc=>by
  unfold scJ;rw [scT_eq,List.any_cons];by_cases ha:j.ts.any (mineT who)=true
  · rw [if_pos ha,ha];rfl
  ·
   rw [if_neg ha];have hf:j.ts.any (mineT who)=false:=(by simpa using ha);rw [hf,Bool.false_or];show scJ who (i+1) (accO i 0 j.gone j.ts acc) l=_;rw [scJ_eq who l (i+1)];by_cases hb:l.any (fun j=>j.ts.any (mineT who))=true
   · rw [if_pos hb,if_pos hb]
   ·
    rw [if_neg hb,if_neg hb]
    congr 1
    cases acc with
    | some x=>rfl
    | none =>
     have e:place i (j::l)=(match openP j with | some k=>some (i,k) | none=>place (i+1) l):=rfl
     rw [e];unfold openP accO;generalize place (i+1) l=pl
     cases j.gone with
     | true=>rfl
     | false =>
      simp only [Bool.false_eq_true,if_false]
      cases j.ts.findIdx? isFree with
      | none=>rfl
      | some m=>simp
end M
namespace M
def act (g:Jb→Bool) (m:Mt) (kind id part worker many:Int) (mc:Mc) (s:Int×Int):Mt×Int×Int:=
 if kind=1 then submit m mc s part many
 else if kind=4 then tick m many
 else if kind=5 then cancel m id
 else if kind=2 then lease m worker
 else back g m worker id part
def acted (g:Jb→Bool) (form:Bool) (m:Mt) (kind id part worker many:Int) (mc:Mc) (s:Int×Int):Mt×Int×Int:=
 if m.ok=false then (Mt.zero,1,0)
 else if form=false then (m,2,0)
 else act g m kind id part worker many mc s
end M
def ActPost (w:World) (base:Nat) (r:M.Mt×Int×Int) (e:Ending) (w':World):Prop:=
 ∃ v,e=.returned (.tuple #[v,.int .i64 r.2.1,.int .i64 r.2.2])∧MktPost w base v r.1.now r.1.next r.1.bs r.1.js w'
theorem RetPost.act {w w':World} {base:Nat} {now next:Int} {ab aj:Option Addr} {nb cb nj cj:Nat} {bs:List Int} {qs:List MQ} {worker id part:Int} {p:M.Pf} {e:Ending} (hw:worker≠0) (hbn:bs.contains worker=false) (h:RetPost w base now next ab nb cb bs aj nj cj qs worker id part p e w') :
  ActPost w base (M.back (M.pok part p) ⟨now,next,bs,qs.map (·.1)⟩ worker id part) e w':=h.back hw hbn
theorem l8Lease_act {base:Nat} {ab aj:Option Addr} {nb cb nj cj:Nat} {bs:List Int} {qs:List MQ} (now next who:Int) (w:World) (H:MktO w base ab nb cb bs aj nj cj qs) (hbase:base≤w.heap.size) (hf:M.Right now next bs (qs.map (·.1))) (hbn:bs.contains who=false) :
  Calls Tryz.prog 71 #[.agg #[.int .i64 now,.int .i64 next,.slice ab nb cb,.slice aj nj cj],.int .i64 who] w (ActPost w base (M.lease ⟨now,next,bs,qs.map (·.1)⟩ who)):=by
 have h0:¬ (bs.contains who=true):=(by rw [hbn];simp);have hT:∀ q∈qs,q.1.ts.length≤8:=fun q hq=>(hf.tasks q.1 (List.mem_map.2 ⟨q,hq,rfl⟩)).2
 have Aa:∀ q∈qs,0<q.1.id∧q.1.id≤1000000000:=fun q hq=>by
  have h1:=hf.job q.1 (List.mem_map.2 ⟨q,hq,rfl⟩);have h2:=hf.next1;exact ⟨h1.1,by have:=h1.2.1;omega⟩
 refine (l8Lease_any now next who w H hbase hf.now0 hf.now1 Aa hT).mono ?_;intro e w' h;rw [M.scJ_eq] at h;by_cases ha:(qs.map (·.1)).any (fun j=>j.ts.any (M.mineT who))=true
 ·
  rw [if_pos ha] at h;obtain ⟨rfl,hM,hB⟩:=h
  have e:M.lease ⟨now,next,bs,qs.map (·.1)⟩ who=(⟨now,next,bs,qs.map (·.1)⟩,6,0):=by
   unfold M.lease;rw [if_neg h0,if_pos ha]
  rw [e];exact ⟨_,rfl,_,_,_,_,_,_,_,rfl,hM,rfl,hB⟩
 ·
  rw [if_neg ha] at h
  cases hp:M.place 0 (qs.map (·.1)) with
  | none =>
   rw [hp] at h;obtain ⟨rfl,hM,hB⟩:=h
   have e:M.lease ⟨now,next,bs,qs.map (·.1)⟩ who=(⟨now,next,bs,qs.map (·.1)⟩,4,0):=by
    unfold M.lease;rw [if_neg h0,if_neg ha,hp]
   rw [e];exact ⟨_,rfl,_,_,_,_,_,_,_,rfl,hM,rfl,hB⟩
  | some x =>
   obtain ⟨i,k⟩:=x;rw [hp] at h;obtain ⟨rfl,hM,hB⟩:=h
   have e:M.lease ⟨now,next,bs,qs.map (·.1)⟩ who=(⟨now,next,bs,M.setT (qs.map (·.1)) i k ⟨false,who,now+5⟩⟩,0,100*((qs.map (·.1)).getD i M.j0).id+k):=by
    unfold M.lease;rw [if_neg h0,if_neg ha,hp]
   rw [e];refine ⟨_,by rw [map_getD],_,_,_,_,_,_,_,rfl,hM,?_,hB⟩;unfold M.setT;rw [map_getD,List.map_set]
theorem MktO.mono {w:World} {base b2:Nat} {ab:Option Addr} {nb cb:Nat} {bs:List Int} {aj:Option Addr} {nj cj:Nat} {qs:List MQ} (H:MktO w b2 ab nb cb bs aj nj cj qs) (hb:base≤b2):MktO w base ab nb cb bs aj nj cj qs:=
 ⟨own_mono H.b hb,H.jl,own_mono H.j hb,fun q hq=>⟨(H.t q hq).1,own_mono (H.t q hq).2 hb⟩,H.d⟩
theorem MktO.zero (w:World) (base:Nat):MktO w base none 0 0 [] none 0 0 []:=
 ⟨World.ownsRow_nil _ _ _ _,rfl,World.ownsRow_nil _ _ _ _,by simp,by simp [mbl,ob]⟩
def specAct (now next:Int) (bs:List Int) (js:List M.Jb) (kind id part worker many m0 m1 m2 m3 m4 m5 m6 m7 m8 m9 m10 m11 t1 t2 p1 p2 p3 p4:Int) (n1 n2 n3 n4:Nat) (z1 z2 z3 z4:List Int):M.Mt×Int×Int:=
 M.acted (M.pok part ⟨(p1,p2),(p3,p4),z1,z2,z3,z4⟩) (M.formB kind id part worker many (M.mz m0 m1 m2 m3 m4 m5 m6 m7 m8 m9 m10 m11 && (decide (t1=0) && decide (t2=0))) (M.Mc.ok ⟨⟨m0,m1,m2,m3,m4,m5⟩,⟨m6,m7,m8,m9,m10,m11⟩⟩) (M.sOk (t1,t2)) (M.rows part) (M.inB many 1 8) (M.noneP p1 p2 p3 p4 n1 n2 n3 n4) (M.inB worker 1 9) (M.inB id 1 1000000000) (M.inB part 0 7) (M.inB many 1 1000000000)) ⟨now,next,bs,js⟩ kind id part worker many ⟨⟨m0,m1,m2,m3,m4,m5⟩,⟨m6,m7,m8,m9,m10,m11⟩⟩ (t1,t2)
set_option linter.unusedVariables false in
def ActedGoal : Prop:=∀ (ab aj:Option Addr) (nb cb nj cj:Nat) (bs:List Int) (js:List M.Jb) (now next:Int) (kind id part worker many m0 m1 m2 m3 m4 m5 m6 m7 m8 m9 m10 m11 t1 t2 p1 p2 p3 p4:Int) (a1 a2 a3 a4:Option Addr) (n1 n2 n3 n4 c1 c2 c3 c4:Nat) (z1 z2 z3 z4:List Int) (w:World) (hz:SeesM w ab nb cb aj nj cj bs js) (h1:Sees w a1 n1 c1 z1) (h2:Sees w a2 n2 c2 z2) (h3:Sees w a3 n3 c3 z3) (h4:Sees w a4 n4 c4 z4) (l1:n1≤1048576) (l2:n2≤1048576) (l3:n3≤1048576) (l4:n4≤1048576),
  Calls Tryz.prog 40 #[.agg #[.int .i64 now,.int .i64 next,.slice ab nb cb,.slice aj nj cj],.agg #[.int .i64 kind,.int .i64 id,.int .i64 part,.int .i64 worker,.int .i64 many,.int .i64 m0,.int .i64 m1,.int .i64 m2,.int .i64 m3,.int .i64 m4,.int .i64 m5,.int .i64 m6,.int .i64 m7,.int .i64 m8,.int .i64 m9,.int .i64 m10,.int .i64 m11,.int .i64 t1,.int .i64 t2,.int .i64 p1,.int .i64 p2,.int .i64 p3,.int .i64 p4,.slice a1 n1 c1,.slice a2 n2 c2,.slice a3 n3 c3,.slice a4 n4 c4]] w (ActPost w w.heap.size (specAct now next bs js kind id part worker many m0 m1 m2 m3 m4 m5 m6 m7 m8 m9 m10 m11 t1 t2 p1 p2 p3 p4 n1 n2 n3 n4 z1 z2 z3 z4))
def actCut : Cut ActedGoal:=by
 apply Cut.mk
 case h =>
  intro key0 ab aj nb cb nj cj bs js Aa Ba La id Ga Ia Ha m0 m1 m2 m3 m4 m5 m6 m7 m8 m9 Ja Ka t1 t2 p1 p2 p3 p4 a1 a2 a3 a4 n1 n2 n3 n4 c1 c2 c3 c4 z1 z2 z3 z4 w hz h1 h2 h3 h4 l1 l2 l3 l4;have HM:=Hd (hz);have S1:=Hd (h1);have S2:=Hd (h2);have S3:=Hd (h3);have S4:=Hd (h4);generalize HR:specAct Aa Ba bs js La id Ga Ia Ha m0 m1 m2 m3 m4 m5 m6 m7 m8 m9 Ja Ka t1 t2 p1 p2 p3 p4 n1 n2 n3 n4 z1 z2 z3 z4=r;have Eb:H9 (specAct Aa Ba bs js La id Ga Ia Ha m0 m1 m2 m3 m4 m5 m6 m7 m8 m9 Ja Ka t1 t2 p1 p2 p3 p4 n1 n2 n3 n4 z1 z2 z3 z4=r):=HR;clear hz h1 h2 h3 h4 HR;have C1:=fun W (h:SeesM W ab nb cb aj nj cj bs js)=>specMarketOk_any Aa Ba W h;generalize Qb:M.mkOk Aa Ba bs js=ok at C1;have Wa:=Hd (Qb);clear Qb;go_enter Tryz.func40,Tryz.ntmps40;have Fb:H9 (Lies (((w.alloc (.cells (v4' Aa Ba ab nb cb aj nj cj).toArray 27)).alloc (.cells (v12' La id Ga Ia Ha m0 m1 m2 m3 m4 m5 m6 m7 m8 m9 Ja Ka t1 t2 p1 p2 p3 p4 a1 n1 c1 a2 n2 c2 a3 n3 c3 a4 n4 c4).toArray 92)).alloc (.cells v10'.toArray 27)) w.heap.size (v4' Aa Ba ab nb cb aj nj cj)):=((lies_new _ _ _).alloc _).alloc _;have Gb:H9 (Lies (((w.alloc (.cells (v4' Aa Ba ab nb cb aj nj cj).toArray 27)).alloc (.cells (v12' La id Ga Ia Ha m0 m1 m2 m3 m4 m5 m6 m7 m8 m9 Ja Ka t1 t2 p1 p2 p3 p4 a1 n1 c1 a2 n2 c2 a3 n3 c3 a4 n4 c4).toArray 92)).alloc (.cells v10'.toArray 27)) (w.heap.size+1) (v12' La id Ga Ia Ha m0 m1 m2 m3 m4 m5 m6 m7 m8 m9 Ja Ka t1 t2 p1 p2 p3 p4 a1 n1 c1 a2 n2 c2 a3 n3 c3 a4 n4 c4)):=(lies_new2 _ _ _ _).alloc _;have Hb:H9 (Lies (((w.alloc (.cells (v4' Aa Ba ab nb cb aj nj cj).toArray 27)).alloc (.cells (v12' La id Ga Ia Ha m0 m1 m2 m3 m4 m5 m6 m7 m8 m9 Ja Ka t1 t2 p1 p2 p3 p4 a1 n1 c1 a2 n2 c2 a3 n3 c3 a4 n4 c4).toArray 92)).alloc (.cells v10'.toArray 27)) (w.heap.size+1+1) v10'):=lies_new3 _ _ _ _ _;have Sa:H9 (Below w.heap.size w (((w.alloc (.cells (v4' Aa Ba ab nb cb aj nj cj).toArray 27)).alloc (.cells (v12' La id Ga Ia Ha m0 m1 m2 m3 m4 m5 m6 m7 m8 m9 Ja Ka t1 t2 p1 p2 p3 p4 a1 n1 c1 a2 n2 c2 a3 n3 c3 a4 n4 c4).toArray 92)).alloc (.cells v10'.toArray 27))):=(((Below.refl _ _).alloc (Nat.le_refl _) _).alloc (by simp) _).alloc (by simp;omega) _;(go_wp2_with fail);generalize (((w.alloc (.cells (v4' Aa Ba ab nb cb aj nj cj).toArray 27)).alloc (.cells (v12' La id Ga Ia Ha m0 m1 m2 m3 m4 m5 m6 m7 m8 m9 Ja Ka t1 t2 p1 p2 p3 p4 a1 n1 c1 a2 n2 c2 a3 n3 c3 a4 n4 c4).toArray 92)).alloc (.cells v10'.toArray 27))=wa at Fb Gb Hb Sa  ⊢;refine (C1 _ (HM.o.below Sa.o)).mono ?_;rintro e wb ⟨rfl,hb⟩;have Pa:=Hd (Fb.o.belowS hb);have Rb:=Hd (Gb.o.belowS hb);have Na:=Hd (Hb.o.belowS hb);have Qa:=Hd (Sa.o.trans (hb.mono Sa.o.size));clear Fb Gb Hb Sa;clear hb
  cases ok with
  | false =>
   have r0:=Na.o.c 0 rfl;have Bc:=Na.o.fr 0;have r1:=Na.o.c 1 rfl;have Cc:=Na.o.fr 1;have r2:=Na.o.c 2 rfl;have Dc:=Na.o.fr 2;have r3:=Na.o.c 3 rfl;have Ec:=Na.o.fr 3;have hr:r=(M.Mt.zero,1,0):=(by rw [← Eb.o];unfold specAct M.acted;rw [if_pos (show M.Mt.ok ⟨Aa,Ba,bs,js⟩=false from Wa.o)]);subst hr;(go_wp2_with fail);show bodyPost _ _ _ _ _ (wb.setCells (w.heap.size+1+1) 0 v10');have Ta:Lies (wb.setCells (w.heap.size+1+1) 0 v10') (w.heap.size+1+1) v10':=Na.o.setCells v10' 0 (by simp);have Xa:=gcs wb (w.heap.size+1+1) 0 v10';have Ib:Below w.heap.size w (wb.setCells (w.heap.size+1+1) 0 v10'):=Qa.o.trans (below_of_grown Xa Qa.o.size (fun z e=>by have:=Option.some.inj e;omega));have Ua:ActPost w w.heap.size (M.Mt.zero,1,0) (.returned (.tuple #[.agg v10'.toArray,it 1,it 0])) (wb.setCells (w.heap.size+1+1) 0 v10'):=⟨_,rfl,_,_,_,_,_,_,_,rfl,MktO.zero _ _,rfl,Ib⟩;generalize (wb.setCells (w.heap.size+1+1) 0 v10')=wf at Ta Ua ⊢;exact bodyPost_ret (results_cell_tmp2 rfl rfl (run_loadVar_mid wf (w.heap.size+1+1) 0 27 _ _ Ta.row Tryz.underlying27 rfl (by kernel_rfl))) rfl Ua
  | true =>
   have HF:H9 (M.Right Aa Ba bs js):=M.right_iff Wa.o;have Fc:=Pa.o.c 0 rfl;have Gc:=Pa.o.c 1 rfl;have Hc:=Pa.o.c 2 rfl;have Ic:=Pa.o.c 3 rfl;(go_wp2_with fail);clear Fc Gc Hc Ic;have Ya:H9 (w.heap.size+1+1<wb.heap.size):=Na.o.2.2;refine (l8Copy_any Aa Ba _ (HM.o.below Qa.o) HF.o).mono ?_;rintro e wc ⟨v,rfl,bb,Ca,Da,jj,Ea,Fa,qs,rfl,Sb,Tb,hb⟩;have Za:H9 (wb.heap.size≤wc.heap.size):=hb.size;have Ub:=Hd (Pa.o.belowS hb);have Vb:=Hd (Rb.o.belowS hb);have Wb:=Hd (Na.o.belowS hb);have Jb:=Hd (Qa.o.trans (hb.mono Qa.o.size));clear Pa Rb Na Qa;have Ab:=Hd (Sb);clear hb Sb;generalize wb.heap.size=bc at Ab Ya Za;have Xb:H9 (∀ g∈mbl bb jj qs,g<wc.heap.size):=fun g hg=>(Ab.o.lt g hg).2;have Ra:=bal wc (.cells (v4' Aa Ba bb Ca Da jj Ea Fa).toArray 27);have Kb:=Hd (Ub.o.belowS Ra);have Bb:=Hd (Vb.o.belowS Ra);have Lb:=Hd (Wb.o.belowS Ra);have Cb:=Hd (Jb.o.trans (Ra.mono Jb.o.size));have Nb:=Hd (Ab.o.below Ra);clear Ub Vb Wb Jb Ab;clear Ra;have Db:=lnw wc (v4' Aa Ba bb Ca Da jj Ea Fa) 27;have hR:=Bb.o.row;(go_wp2_with (with_reducible refine wpList_stop 16 ?_ ?_;rfl));with_reducible refine ldm 92 (w.heap.size+1) 0 (v12' La id Ga Ia Ha m0 m1 m2 m3 m4 m5 m6 m7 m8 m9 Ja Ka t1 t2 p1 p2 p3 p4 a1 n1 c1 a2 n2 c2 a3 n3 c3 a4 n4 c4) hR Tryz.underlying92 ?q5 ?_
   case q5=>exact ⟨rfl,rfl,by kernel_rfl,_,rfl,by kernel_rfl⟩
   clear hR;have CF:=l8Form_any La id Ga Ia Ha m0 m1 m2 m3 m4 m5 m6 m7 m8 m9 Ja Ka t1 t2 p1 p2 p3 p4 (a1:=a1) (a2:=a2) (a3:=a3) (a4:=a4) (c1:=c1) (c2:=c2) (c3:=c3) (c4:=c4) l1 l2 l3 l4;generalize Yb:(M.formB La id Ga Ia Ha (M.mz m0 m1 m2 m3 m4 m5 m6 m7 m8 m9 Ja Ka && (decide (t1=0) && decide (t2=0))) (M.Mc.ok ⟨⟨m0,m1,m2,m3,m4,m5⟩,⟨m6,m7,m8,m9,Ja,Ka⟩⟩) (M.sOk (t1,t2)) (M.rows Ga) (M.inB Ha 1 8) (M.noneP p1 p2 p3 p4 n1 n2 n3 n4) (M.inB Ia 1 9) (M.inB id 1 1000000000) (M.inB Ga 0 7) (M.inB Ha 1 1000000000))=fo at CF;have Zb:=Hd (Yb);clear Yb;(go_wp2_with fail);have Ac:=Hd (Za.o);generalize (wc.alloc (.cells (v4' Aa Ba bb Ca Da jj Ea Fa).toArray 27))=wd at Kb Bb Lb Cb Nb Db  ⊢;generalize wc.heap.size=bo at Db Za Ac Xb ⊢;refine (CF _).mono ?_;rintro e we ⟨rfl,hb⟩;have Jc:=Hd (Kb.o.belowS hb);have Kc:=Hd (Bb.o.belowS hb);have Oa:=Hd (Lb.o.belowS hb);have Ob:=Hd (Cb.o.trans (hb.mono Cb.o.size));have Pb:=Hd (Nb.o.below hb);have Va:=Hd (Db.o.belowS hb);clear Kb Bb Lb Cb Nb Db;clear hb;clear CF
   cases fo with
   | false =>
    have r0:=Oa.o.c 0 rfl;have Bc:=Oa.o.fr 0;have r1:=Oa.o.c 1 rfl;have Cc:=Oa.o.fr 1;have r2:=Oa.o.c 2 rfl;have Dc:=Oa.o.fr 2;have r3:=Oa.o.c 3 rfl;have Ec:=Oa.o.fr 3;have o0:=Va.o.c 0 rfl;have o1:=Va.o.c 1 rfl;have o2:=Va.o.c 2 rfl;have o3:=Va.o.c 3 rfl;have hr:r=(⟨Aa,Ba,bs,js⟩,2,0):=(by rw [← Eb.o];unfold specAct M.acted;rw [if_neg (show ¬ M.Mt.ok ⟨Aa,Ba,bs,js⟩=false by rw [show M.Mt.ok ⟨Aa,Ba,bs,js⟩=true from Wa.o];simp),if_pos Zb.o]);subst hr;(go_wp2_with fail);show bodyPost _ _ _ _ _ (we.setCells (w.heap.size+1+1) 0 (v4' Aa Ba bb Ca Da jj Ea Fa));have Ta:Lies (we.setCells (w.heap.size+1+1) 0 (v4' Aa Ba bb Ca Da jj Ea Fa)) (w.heap.size+1+1) (v4' Aa Ba bb Ca Da jj Ea Fa):=Oa.o.setCells (v4' Aa Ba bb Ca Da jj Ea Fa) 0 (by simp);have Xa:=gcs we (w.heap.size+1+1) 0 (v4' Aa Ba bb Ca Da jj Ea Fa);have Ib:Below w.heap.size w (we.setCells (w.heap.size+1+1) 0 (v4' Aa Ba bb Ca Da jj Ea Fa)):=Ob.o.trans (below_of_grown Xa Ob.o.size (fun z e=>by have:=Option.some.inj e;omega));have Lc:MktO (we.setCells (w.heap.size+1+1) 0 (v4' Aa Ba bb Ca Da jj Ea Fa)) w.heap.size bb Ca Da bs jj Ea Fa qs:=(Pb.o.grown Xa (fun g hg e=>by have:=(Pb.o.lt g hg).1;have:=Option.some.inj e;have:=Ya.o;omega)).mono (by have:=Ya.o;omega);have Ua:ActPost w w.heap.size (⟨Aa,Ba,bs,js⟩,2,0) (.returned (.tuple #[.agg (v4' Aa Ba bb Ca Da jj Ea Fa).toArray,it 2,it 0])) (we.setCells (w.heap.size+1+1) 0 (v4' Aa Ba bb Ca Da jj Ea Fa)):=⟨_,rfl,_,_,_,_,_,_,_,rfl,Lc,Tb,Ib⟩;generalize (we.setCells (w.heap.size+1+1) 0 (v4' Aa Ba bb Ca Da jj Ea Fa))=wf at Ta Ua ⊢;exact bodyPost_ret (results_cell_tmp2 rfl rfl (run_loadVar_mid wf (w.heap.size+1+1) 0 27 _ _ Ta.row Tryz.underlying27 rfl (by kernel_rfl))) rfl Ua
   | true =>
    rename_i Nc Oc Pc Qc Rc Sc;revert ab aj nb cb nj cj bs js Aa Ba La id Ga Ia Ha m0 m1 m2 m3 m4 m5 m6 m7 m8 m9 Ja Ka t1 t2 p1 p2 p3 p4 a1 a2 a3 a4 n1 n2 n3 n4 c1 c2 c3 c4 z1 z2 z3 z4 w l1 l2 l3 l4 HM S1 S2 S3 S4 r Eb wa wb C1 Wa HF wc bb Ca Da jj Ea Fa qs Tb bc Ya Nc Oc Pc Qc Rc Sc wd bo Za Ac Xb we Jc Kc Oa Ob Pb Va Zb;exact key0.out
namespace M
theorem form_kinds {kind id part worker many:Int} {bare mok sok rok m8 non wk idk p7 mt:Bool} (h:formB kind id part worker many bare mok sok rok m8 non wk idk p7 mt=true) :
  (kind=1∧mok=true∧sok=true∧rok=true∧m8=true)∨(kind=2∧wk=true)∨(kind=3∧wk=true∧idk=true∧p7=true)∨(kind=4∧mt=true)∨(kind=5∧idk=true):=by
 unfold formB at h;by_cases h1:kind=1
 · rw [if_pos h1] at h;simp only [Bool.and_eq_true] at h;exact .inl ⟨h1,h.1,h.2.1,h.2.2.1,h.2.2.2.1⟩
 rw [if_neg h1] at h;by_cases h2:kind=2
 · rw [if_pos h2] at h;simp only [Bool.and_eq_true] at h;exact .inr (.inl ⟨h2,h.2.1⟩)
 rw [if_neg h2] at h;by_cases h3:kind=3
 · rw [if_pos h3] at h;simp only [Bool.and_eq_true] at h;exact .inr (.inr (.inl ⟨h3,h.2.1,h.2.2.1,h.2.2.2.1⟩))
 rw [if_neg h3] at h;by_cases h4:kind=4
 · rw [if_pos h4] at h;simp only [Bool.and_eq_true] at h;exact .inr (.inr (.inr (.inl ⟨h4,h.2.2.2.2.1⟩)))
 rw [if_neg h4] at h;by_cases h5:kind=5
 · rw [if_pos h5] at h;simp only [Bool.and_eq_true] at h;exact .inr (.inr (.inr (.inr ⟨h5,h.2.2.1⟩)))
 · rw [if_neg h5] at h;simp at h
theorem inB_iff {x lo hi:Int}:inB x lo hi=true↔lo≤x∧x≤hi:=by unfold inB;simp
def Mt.right (m:Mt):Prop:=Right m.now m.next m.bs m.js
theorem acted_right {g:Jb→Bool} {m:Mt} {kind id part worker many:Int} {mc:Mc} {s:Int×Int} {bare non:Bool} (h:m.right) :
  (acted g (formB kind id part worker many bare mc.ok (M.sOk s) (M.rows part) (inB many 1 8) non (inB worker 1 9) (inB id 1 1000000000) (inB part 0 7) (inB many 1 1000000000)) m kind id part worker many mc s).1.right:=by
 unfold acted;rw [if_neg (by rw [show m.ok=true from Right.ok h];simp)];by_cases hf:formB kind id part worker many bare mc.ok (M.sOk s) (M.rows part) (inB many 1 8) non (inB worker 1 9) (inB id 1 1000000000) (inB part 0 7) (inB many 1 1000000000)=false
 · rw [if_pos hf];exact h
 ·
  rw [if_neg hf];have wk:∀ {x},inB x 1 9=true→wkOk x=true:=fun {x} h=>h;unfold act
  rcases form_kinds (by simpa using hf) with ⟨rfl,h1,h2,h3,h4⟩ | ⟨rfl,h1⟩ | ⟨rfl,h1,h2,h3⟩ | ⟨rfl,h1⟩ | ⟨rfl,h1⟩
  · rw [if_pos rfl];exact submit_right h h1 h2 h3 (inB_iff.1 h4).1 (inB_iff.1 h4).2
  · rw [if_neg (by decide),if_neg (by decide),if_neg (by decide),if_pos rfl];exact lease_right h (wk h1)
  · rw [if_neg (by decide),if_neg (by decide),if_neg (by decide),if_neg (by decide)];exact back_right h (wk h1) (inB_iff.1 h3).1
  · rw [if_neg (by decide),if_pos rfl];exact tick_right h (inB_iff.1 h1).1
  · rw [if_neg (by decide),if_neg (by decide),if_pos rfl];exact cancel_right h
def dn (t:Tk):Nat:=if t.done then 0 else 1
def unT : List Tk→Nat
 | []=>0
 | t::l=>dn t+unT l
def unJ (js:List Jb):Nat:=(js.map (fun j=>unT j.ts)).sum
theorem unT_set : ∀ {ts:List Tk} {k:Nat} (t:Tk),k<ts.length→unT (ts.set k t)+dn (ts.getD k t0)=unT ts+dn t
 | [],_,_,h=>by simp at h
 | x::l,0,t,_=>by
  have e:(x::l).getD 0 t0=x:=rfl;rw [e,List.set_cons_zero];show dn t+unT l+dn x=dn x+unT l+dn t;omega
 | x::l,k+1,t,h=>by
  have ih:=unT_set (ts:=l) (k:=k) t (by simpa using h);have e:(x::l).getD (k+1) t0=l.getD k t0:=rfl;rw [e,List.set_cons_succ];show dn x+unT (l.set k t)+dn (l.getD k t0)=dn x+unT l+dn t;omega
theorem unJ_set : ∀ {js:List Jb} {i:Nat} (j:Jb),i<js.length→unJ (js.set i j)+unT (js.getD i j0).ts=unJ js+unT j.ts
 | [],_,_,h=>by simp at h
 | x::l,0,j,_=>by
  have e:(x::l).getD 0 j0=x:=rfl;rw [e,List.set_cons_zero];unfold unJ;simp only [List.map_cons,List.sum_cons];omega
 | x::l,i+1,j,h=>by
  have ih:=unJ_set (js:=l) (i:=i) j (by simpa using h);have e:(x::l).getD (i+1) j0=l.getD i j0:=rfl;rw [e,List.set_cons_succ];unfold unJ at *;simp only [List.map_cons,List.sum_cons];omega
theorem unJ_setT {js:List Jb} {i k:Nat} (t:Tk) (hi:i<js.length) (hk:k<(js.getD i j0).ts.length):unJ (setT js i k t)+dn ((js.getD i j0).ts.getD k t0)=unJ js+dn t:=by
 have h1:unJ (setT js i k t)+unT (js.getD i j0).ts=unJ js+unT ((js.getD i j0).ts.set k t):=unJ_set (js:=js) (i:=i) { js.getD i j0 with ts:=(js.getD i j0).ts.set k t } hi;have h2:=unT_set t hk;omega
theorem lease_done {m:Mt} {who:Int} (h0:m.right) (h:(lease m who).2.1=0):∃ i k,m.bs.contains who=false∧i<m.js.length∧k<(m.js.getD i j0).ts.length∧k<8∧isFree ((m.js.getD i j0).ts.getD k t0)=true∧(m.js.getD i j0).gone=false ∧
  lease m who=(⟨m.now,m.next,m.bs,setT m.js i k ⟨false,who,m.now+5⟩⟩,0,100*(m.js.getD i j0).id+k):=by
 unfold lease at h ⊢;by_cases h1:m.bs.contains who=true
 · rw [if_pos h1] at h;simp at h
 rw [if_neg h1] at h ⊢;by_cases h2:m.js.any (fun j=>j.ts.any (mineT who))=true
 · rw [if_pos h2] at h;simp at h
 rw [if_neg h2] at h ⊢
 cases hp:place 0 m.js with
 | none=>rw [hp] at h;simp at h
 | some x =>
  obtain ⟨i,k⟩:=x;obtain ⟨n,e,hn,ho⟩:=place_some hp;have e:i=n:=(by omega);subst e;obtain ⟨hg,hk,hf⟩:=open_some ho;have h8:=(Right.tasks h0 _ (getD_mem (d:=j0) hn)).2;exact ⟨i,k,by simpa using h1,hn,hk,by omega,hf,hg,rfl⟩
theorem jobAt_at : ∀ {js:List Jb} {i:Nat} (k:Nat),js.Pairwise (fun a b=>a.id<b.id)→i<js.length→jobAt (js.getD i j0).id k js=((k+i:Nat):Int)
 | [],_,_,_,h=>by simp at h
 | x::l,0,k,_,_=>by
  show jobAt x.id k (x::l)=_;unfold jobAt;rw [if_pos rfl];rfl
 | x::l,i+1,k,hp,h=>by
  have hi:i<l.length:=(by simpa using h);have e:(x::l).getD (i+1) j0=l.getD i j0:=rfl;rw [e];rw [List.pairwise_cons] at hp;have Aa:¬ x.id=(l.getD i j0).id:=(by have:=hp.1 _ (getD_mem (d:=j0) hi);omega);unfold jobAt;rw [if_neg Aa,jobAt_at (k+1) hp.2 hi]
  congr 1;omega
theorem setT_len {js:List Jb} {i k:Nat} {t:Tk}:(setT js i k t).length=js.length:=by unfold setT;simp
theorem setT_at {js:List Jb} {i k:Nat} {t:Tk} (hi:i<js.length):(setT js i k t).getD i j0={ js.getD i j0 with ts:=(js.getD i j0).ts.set k t }:=by
 unfold setT;rw [List.getD_eq_getElem?_getD,List.getElem?_set_self hi];rfl
def togo (m:Mt) (who:Int):Nat:=if m.bs.contains who then 0 else unJ m.js+1
theorem lease_back {g:Jb→Bool} {m:Mt} {who:Int} (h0:m.right) (hw:wkOk who=true) (h:(lease m who).2.1=0) :
  ∃ i k:Nat,i<m.js.length∧k<8∧(lease m who).2.2=100*(m.js.getD i j0).id+k∧1≤(m.js.getD i j0).id∧(m.js.getD i j0).id≤1000000000∧jobAt (m.js.getD i j0).id 0 (lease m who).1.js=(i:Int)∧i<(lease m who).1.js.length ∧
   (jobOf (m.js.getD i j0).id (lease m who).1.js).m=(m.js.getD i j0).m∧(jobOf (m.js.getD i j0).id (lease m who).1.js).s=(m.js.getD i j0).s∧(jobOf (m.js.getD i j0).id (lease m who).1.js).rows=(m.js.getD i j0).rows ∧
   togo (back g (lease m who).1 who (m.js.getD i j0).id k).1 who<togo m who:=by
 obtain ⟨i,k,hb,hi,hk,h8,hf,hg,e⟩:=lease_done h0 h;have hr:=lease_right h0 hw;rw [e] at hr ⊢;dsimp only at hr ⊢;have hj:=h0.job _ (getD_mem (d:=j0) hi);have hn:=h0.next1
 have Ba:jobAt (m.js.getD i j0).id 0 (setT m.js i k ⟨false,who,m.now+5⟩)=(i:Int):=by
  have h1:=jobAt_at 0 hr.rise (i:=i) (by rw [setT_len];exact hi);rw [setT_at hi] at h1;dsimp only at h1;rw [h1];simp
 have Aa:jobOf (m.js.getD i j0).id (setT m.js i k ⟨false,who,m.now+5⟩)={ m.js.getD i j0 with ts:=(m.js.getD i j0).ts.set k ⟨false,who,m.now+5⟩ }:=by
  unfold jobOf;rw [Ba];exact setT_at hi
 refine ⟨i,k,hi,h8,rfl,by omega,by omega,Ba,by rw [setT_len];exact hi,by rw [Aa],by rw [Aa],by rw [Aa],?_⟩;have Ea:((m.js.getD i j0).ts.getD k t0).done=false:=by unfold isFree at hf;simp only [Bool.and_eq_true,Bool.not_eq_true'] at hf;exact hf.1
 have Fa:unJ (setT m.js i k ⟨false,who,m.now+5⟩)=unJ m.js:=by
  have:=unJ_setT (js:=m.js) (i:=i) (k:=k) ⟨false,who,m.now+5⟩ hi hk;unfold dn at this;rw [Ea] at this;simpa using this
 have Ca:(((m.js.getD i j0).ts.set k ⟨false,who,m.now+5⟩).getD k t0)=⟨false,who,m.now+5⟩:=(by rw [List.getD_eq_getElem?_getD,List.getElem?_set_self hk];rfl);have hl:togo m who=unJ m.js+1:=(by unfold togo;rw [hb];simp);rw [hl];unfold back;dsimp only;rw [if_neg (by rw [hb];simp),if_neg (by rw [Ba,Aa];dsimp only;rw [List.length_set];simp only [Bool.or_eq_true,decide_eq_true_eq,not_or];exact ⟨by omega,by omega⟩),if_neg (by rw [Aa];dsimp only;rw [Int.toNat_natCast,Ca];simp)];by_cases Da:g (jobOf (m.js.getD i j0).id (setT m.js i k ⟨false,who,m.now+5⟩))=false
 ·
  rw [if_pos Da];unfold togo;dsimp only;have:(banned m.bs who).contains who=true:=(by rw [List.contains_iff_mem];exact mem_banned.2 ⟨hw,.inl rfl⟩);rw [this];simp
 ·
  rw [if_neg Da];unfold togo;dsimp only;rw [hb,Ba,Int.toNat_natCast,Int.toNat_natCast];have:=unJ_setT (js:=setT m.js i k ⟨false,who,m.now+5⟩) (i:=i) (k:=k) ⟨true,0,0⟩ (by rw [setT_len];exact hi) (by rw [setT_at hi];dsimp only;rw [List.length_set];exact hk);rw [setT_at hi] at this;dsimp only at this;rw [Ca,Fa] at this;unfold dn at this;simp at this;simp;omega
end M
theorem flat_part {α:Type} {f:α→List Value} {k:Nat} (hf:∀ x,(f x).length=k) (d:α):∀ (xs:List α) {i:Nat} (c:α) (o:Nat) (us:List Value),i<xs.length→o+us.length≤k→f c=spl (f (xs.getD i d)) o us→spl (xs.flatMap f) (i*k+o) us=(xs.set i c).flatMap f
 | [],_,_,_,_,h,_,_=>by simp at h
 | x::xs,0,c,o,us,_,ho,hc=>by
  have hc':f c=spl (f x) o us:=hc;rw [List.set_cons_zero,List.flatMap_cons,List.flatMap_cons,hc'];unfold spl;rw [Nat.zero_mul,Nat.zero_add,List.take_append_of_le_length (by rw [hf];omega),List.drop_append_of_le_length (by rw [hf];omega)];simp only [List.append_assoc]
 | x::xs,i+1,c,o,us,h,ho,hc=>by
  have ih:=flat_part hf d xs (i:=i) c o us (by simpa using h) ho hc;unfold spl at ih ⊢;rw [List.flatMap_cons,List.set_cons_succ,List.flatMap_cons,← ih,show (i+1)*k+o=k+(i*k+o) by rw [Nat.add_mul];omega];rw [List.take_append,List.drop_append,hf,List.take_of_length_le (by rw [hf];omega),List.drop_of_length_le (by rw [hf];omega)];rw [show k+(i*k+o)-k=i*k+o by omega,show k+(i*k+o)+us.length-k=i*k+o+us.length by omega];simp
theorem MktO.gone {w:World} {base g:Nat} {ab:Option Addr} {nb cb:Nat} {bs:List Int} {nj cj:Nat} {qs:List MQ} (H:MktO w base ab nb cb bs (some ⟨g,0,none⟩) nj cj qs) {i:Nat} (hi:i<nj) (b:Bool) :
  MktO (w.setCells g (i*18+16) [.bool b]) base ab nb cb bs (some ⟨g,0,none⟩) nj cj (qs.set i ({ (qs.getD i q0).1 with gone:=b },(qs.getD i q0).2))∧w.grownBy (w.setCells g (i*18+16) [.bool b]) (some g):=by
 have hl:=H.jl;obtain ⟨h1,h2⟩:=own_setCells [.bool b] (i*18+16) H.j (by rw [flat_len jrv_len];show i*18+16+1≤_;omega)
 have hc:jrv ({ (qs.getD i q0).1 with gone:=b },(qs.getD i q0).2)=spl (jrv (qs.getD i q0)) 16 [.bool b]:=by
  generalize qs.getD i q0=q
  rfl
 rw [flat_part jrv_len q0 qs _ 16 [.bool b] (by omega) (by show 16+1≤18;omega) hc] at h1;obtain ⟨c3,c2,c1⟩:=mbl_nodup.1 H.d;have Aa:qs.getD i q0∈qs:=(by rw [List.getD_eq_getElem?_getD,List.getElem?_eq_getElem (by omega)];simp);have Ba:g∈ob (some (⟨g,0,none⟩:Addr)):=(by simp [ob]);have Ca:∀ q∈qs,∀ x∈ob q.2.1,some g≠some x:=fun q hq x hx e=>c2 g Ba (Option.some.inj e ▸ List.mem_flatMap.2 ⟨q,hq,hx⟩);refine ⟨⟨H.b.grown h2 fun x hx e=>(c3 x hx).1 (Option.some.inj e ▸ Ba),by rw [List.length_set];exact hl,h1,?_,?_⟩,h2⟩
 ·
  intro q hq
  rcases mem_set_cases (d:=q0) hq with rfl | ⟨k',h3,h4,rfl⟩
  · exact (H.t _ Aa).grown h2 (Ca _ Aa)
  ·
   have Da:qs.getD k' q0∈qs:=(by rw [List.getD_eq_getElem?_getD,List.getElem?_eq_getElem h4];simp);exact (H.t _ Da).grown h2 (Ca _ Da)
 ·
  have e:=mbl_set (ab:=ab) (aj:=some ⟨g,0,none⟩) (qs:=qs) (i:=i) ({ (qs.getD i q0).1 with gone:=b },(qs.getD i q0).2) (by omega) rfl;rw [e];exact H.d
theorem MktO.jthere {w:World} {base g:Nat} {ab:Option Addr} {nb cb:Nat} {bs:List Int} {nj cj:Nat} {qs:List MQ} (H:MktO w base ab nb cb bs (some ⟨g,0,none⟩) nj cj qs) {i:Nat} (hi:i<nj):w.there g (i*18+16) 1:=fun j hj=>by
 obtain rfl:j=0:=by omega
 refine ⟨?_,H.j.frozenAt _⟩;rw [Nat.add_zero,H.jcell hi (by omega)]
 rfl
theorem step_load_mid {P:Program} {ops:Array Oper} {op:Oper} {a:Act} {w:World} {K:Act→World→Prop} {Q:Exit→Act→World→Prop} {E:Prop} (hg:op.guard=none) (ty:TypeId) (x:Operand) (ho:op.op=.load ty x) (b o:Nat) (hx:a.eval x=.pointer (some ⟨b,o,none⟩)) (cs:List Value) (d:TypeDesc) (hc:w.rangeAt b o cs)
  (hu:P.underlying ty=some d) (hd:d.isRow=true) (hi:(P.info? ty).map (·.size)=some cs.length) (hK:K (a.put op.dst (.agg cs.toArray)) w):if Region.wanted op (yielded ops a.tmps)=true then Oper.wp P op a w K Q else E:=by
 have hw:Region.wanted op (yielded ops a.tmps)=true:=(by simp [Region.wanted,hg]);rw [if_pos hw];exact wp_load_mid ty x ho b o hx cs d hc hu hd hi hK
theorem step_store_mid {P:Program} {ops:Array Oper} {op:Oper} {a:Act} {w:World} {K:Act→World→Prop} {Q:Exit→Act→World→Prop} {E:Prop} (hg:op.guard=none) (ty:TypeId) (x y:Operand) (ho:op.op=.store ty x y) (b o:Nat) (cells:Array Value) (hx:a.eval x=.pointer (some ⟨b,o,none⟩)) (hy:a.eval y=.agg cells)
  (ht:w.there b o cells.size) (hi:(P.info? ty).map (·.size)=some cells.size) (h1:cells.all (·.oneCell')=true) (hK:K (a.put op.dst undef) (w.setCells b o cells.toList)):if Region.wanted op (yielded ops a.tmps)=true then Oper.wp P op a w K Q else E:=by
 have hw:Region.wanted op (yielded ops a.tmps)=true:=(by simp [Region.wanted,hg]);rw [if_pos hw];exact wp_store_mid ty x y ho b o cells hx hy ht hi h1 hK
theorem info_i64K : (Tryz.prog.info? 2).map (fun i=>(i.zero,i.size,i.bytes))=some (some (.int .i64 0),1,8):=by kernel_rfl
theorem step_ban {ops:Array Oper} {o:Oper} {a:Act} {w:World} {K:Act→World→Prop} {Q:Exit→Act→World→Prop} {E:Prop} {base:Nat} {ab:Option Addr} {nb cb:Nat} {bs:List Int} {aj:Option Addr} {nj cj:Nat} {qs:List MQ}
  (hg:o.guard=none) (s x:Operand) (hop:o.op=Op.call { callee:=Callee.builtin Builtin.append,args:=#[s,x],argTypes:=#[24,24] }) (hs:a.eval s=.slice ab nb cb) (gb:Nat) (hx:a.eval x=.slice (some ⟨gb,0,none⟩) 1 1) (H:MktO w base ab nb cb bs aj nj cj qs) (z:Int) (hL:Lies w gb [.int .i64 z])
  (hn:nb≤1000) (hbase:base≤w.heap.size)
  (hK:∀ ab' cb' w7,MktO w7 base ab' (nb+1) cb' (bs++[z]) aj nj cj qs→w.grownBy w7 (Value.slice ab nb cb).ownBlock→K (a.put o.dst (.slice ab' (nb+1) cb')) w7) :
  if Region.wanted o (yielded ops a.tmps)=true then Oper.wp Tryz.prog o a w K Q else E:=by
 obtain ⟨i1,Fa,Ga,Ha,Ia⟩:=info_parts info_i64K;refine step_append_at hg s x 24 hop base 2 i1 (it 0) 1 8 Tryz.underlying24 Fa Ga Ha Ia rfl (by decide) (.slice ab nb cb) nb (bs.map (Value.int .i64)) hs H.b ⟨gb,0,none⟩ 1 1 [it z] hx rfl (lies_news hL) (by simp [Value.oneCell']) (by unfold maxLen;omega) (by omega) hbase ?_;intro v' w8 Aa Ba Ja;obtain ⟨Ca,Da,rfl⟩:=own_form Aa;obtain ⟨c3,c2,c1⟩:=mbl_nodup.1 H.d;have Ea:=H.lt
 have ha:∀ {g},g∈ob Ca→g∈ob ab∨w.heap.size≤g:=fun {g} hg=>by
  have e:=ob_own (n:=nb+1) (c:=Da) hg
  rcases Ja with e2 | e2
  · exact .inl (own_ob (e2.symm.trans e))
  · rw [e2] at e;injection e with e;exact .inr (by omega)
 have n7:∀ {g},g∉ob ab→(Value.slice ab nb cb).ownBlock≠some g:=fun hn e=>hn (own_ob e)
 have Ka:Owns 2 w8 base Ca (nb+1) Da (bs++[z]):=by
  have e:bs.map (Value.int .i64)++[it z]=(bs++[z]).map (Value.int .i64):=(by simp);rw [e] at Aa;exact Aa
 refine hK _ _ _ ⟨Ka,H.jl,own_keep H.j Ba (fun g hg=>n7 fun e=>(c3 g e).1 hg),fun q hq=>(H.t q hq).grown Ba (fun g hg=>n7 fun e=>(c3 g e).2 (List.mem_flatMap.2 ⟨q,hq,hg⟩)),?_⟩ Ba;refine mbl_nodup.2 ⟨fun g hg=>⟨fun e=>?_,fun e=>?_⟩,c2,c1⟩
 ·
  rcases ha hg with h1 | h1
  · exact (c3 g h1).1 e
  · have:=(Ea g (by simp [mbl,e])).2;omega
 ·
  rcases ha hg with h1 | h1
  · exact (c3 g h1).2 e
  · have:=(Ea g (by unfold mbl;rw [List.mem_append,List.mem_append];exact .inr (.inr e))).2;omega
theorem load_ints {w:World} {ad:Addr} {v:Value} (h:w.cell? ad=some v):(loadVar 24 ad).run Tryz.prog w=.ok v w:=by go_simp
end Go.Proofs.YtfhknkppiidnkaaGreat
