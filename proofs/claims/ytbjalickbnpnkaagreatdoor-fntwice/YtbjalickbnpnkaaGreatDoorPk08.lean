import Derived.Test.YtbjalickbnpnkaaGreatDoorPk07
namespace Go.Proofs.YtbjalickbnpnkaaGreatDoor
open Go.RowKit Go.Proofs.Tryz
set_option linter.unusedSimpArgs false
set_option maxHeartbeats 32000000
set_option maxRecDepth 10000
theorem sI{t:TypeId}(w:World){dA:Nat}(hb:dA<=w.heap.size):aA t (w.alloc (.cells #[] t)) dA (some ⟨w.heap.size,0,none⟩) 0 0 []:=by
 refine⟨rfl,.inr ⟨w.heap.size,0,#[],rfl,hb,?_,m3 _,Nat.zero_le _,rfl,rfl⟩⟩;show(w.heap.push _)[w.heap.size]?=_;simp
def xp(now:Int)(bs:List Int)(jg:Bool)(tl:List M.Tk)(R SN:Bool)(WF:List Int)(w1:World)(jb:Nat)(JQ:List Value)(p:Nat)(us:List Int)(l:Value)(wr:World):Prop:=
 ((M.spT now bs jg us (tl.drop p)&&!(jg&&tl.all (·.done)))&&SN)=R/\us++(tl.drop p).map (·.dC)=WF/\aw wr jb JQ/\l.ownBlock≠some jb/\xe w1 us l wr
def vu:Prop:=∀(ab aj:Option Addr) (nb cb nj cj:Nat) (bs:List Int) (js:List M.Jb) (now sr:Int) (w:World),co w ab nb cb aj nj cj bs js->
  Rt 21 #[.agg #[it now,it sr,.slice ab nb cb,.slice aj nj cj]] w (.bool (M.mkOk now sr bs js))
set_option maxRecDepth 100000 in
def wM:tm vu:=by
 apply tm.mk;intro key1 key2 ab aj nb cb nj cj bs js Aa Ba w hz;rw[<-M.spOk_eq];have Ka:=hz.j.len;have La:=hz.b.len;have Ua:(nb:Int)<=9223372036854775807:=(by have:=hz.b.big;have:=hz.b.le;omega);have Va:(nj:Int)<=9223372036854775807:=(by have:=hz.j.big;have:=hz.j.le;omega);have Wa:(nb:Int)<=cb:=(by have:=hz.b.le;omega);have Xa:(nj:Int)<=cj:=(by have:=hz.j.le;omega);have Ea:=cQ w (aJ Aa Ba ab nb cb aj nj cj) 27;have Ca:H7 (m1 w (w.alloc (.cells (aJ Aa Ba ab nb cb aj nj cj).toArray 27))):=(m8 _ _).alloc (m3 _) _;have Ya:=Hd (hz.below Ca.o)
 have HI:H7 (∃i0,prog.info? 2=some i0/\i0.zero=some (it 0)/\i0.size=1/\i0.bytes=8):=by
  obtain⟨i0,h1,h2,h3,h4⟩:=info_parts bF;exact⟨i0,h1,h2,h3,h4⟩
 have C1:=dn Aa 0 1000000000;have C2:=dn Ba 1 1000000000;generalize hR:M.spOk Aa Ba bs js=R;unfold M.spOk at hR;rw[Ka,La]at hR;have HN:H7 ((decide (0<=Aa)&&decide (Aa<=1000000000))=true->0<=Aa/\Aa<=1000000000):=λh=>by simpa using h
 have HX:H7 ((decide (1<=Ba)&&decide (Ba<=1000000000))=true->1<=Ba/\Ba<=1000000000):=λh=>by simpa using h
 generalize(decide (1<=Ba)&&decide (Ba<=1000000000))=o2 at C2 hR HX;generalize(decide (0<=Aa)&&decide (Aa<=1000000000))=o1 at C1 hR HN;have HR:=Hd hR;clear hz hR;go_enter func21,ntmps21;(go_wp2_with fail);generalize(w.alloc (.cells (aJ Aa Ba ab nb cb aj nj cj).toArray 27))=w1 at *;refine(C1 _).mono ?_;rintro e wz ⟨rfl,Fa⟩;have Na:=Fa.symm;clear Fa;subst Na
 cases o1 with
 | false=>
  go_wp2;go_ret;exact⟨aB HR.o,Ca.o⟩
 | true=>
  have x1:=Ea.c 1;(go_wp2_with fail);clear x1;refine(C2 _).mono ?_;rintro e wz ⟨rfl,Fa⟩;have Na:=Fa.symm;clear Fa;subst Na
  cases o2 with
  | false=>
   go_wp2;go_ret;exact⟨aB HR.o,Ca.o⟩
  | true=>
   obtain⟨Za,Ab⟩:=HN.o (by simp);obtain⟨Bb,Cb⟩:=HX.o (by simp);clear HN HX;have x3:=Ea.c 3;have x2:=Ea.c 2;by_cases h6:nj<=6
   case neg=>
    have Oa:(6:Int)<(nj:Int):=(by omega);have HF:H7 (false=R):=(by show _=_;have:=HR.o;rw[show decide (nj<=6)=false by simpa using h6]at this;simpa using this);go_wp2;go_ret;exact⟨aB HF.o,Ca.o⟩
   have Oa:(nj:Int)<=6:=(by omega);by_cases h9:nb<=9
   case neg=>
    have Pa:(9:Int)<(nb:Int):=(by omega);have HF:H7 (false=R):=(by show _=_;have:=HR.o;rw[show decide (nb<=9)=false by simpa using h9]at this;simpa using this);go_wp2;go_ret;exact⟨aB HF.o,Ca.o⟩
   have Pa:(nb:Int)<=9:=(by omega);have Qa:H7 ((M.bnGo 0 bs&&M.spJ Aa Ba bs 0 [] js)=R):=(by show _=_;have:=HR.o;rw[show decide (nj<=6)=true by simpa using h6,show decide (nb<=9)=true by simpa using h9]at this;simpa using this);clear HR;go_wp2;generalize Db:M.spJ Aa Ba bs 0 [] js=SJ at Qa;have Ra:=Hd Db;clear Db x3 x2
   go_loopw [3] (λi wr=>∃(q:Nat) (l:Int),q<=nb/\i=it q/\(q=0->l=0)/\(∀q',q=q'+1->l=bs.getD q' 0)/\(M.bnGo l (bs.drop q)&&SJ)=R/\m1 w1 wr) (λi _=>nb-(intOf i).toNat)
   case atStart=>exact⟨0,0,by omega,rfl,λ_=>rfl,(λq' h=>by omega),Qa.o,m8 _ _⟩
   case round=>
    obtain⟨q,l,hq,rfl,Ga,Ha,hg,Da⟩:=hrel;clear Qa;by_cases Sa:q<nb
    case pos=>
     rename_i Hb Ib Jb Kb;revert ab aj nb cb nj cj bs js Aa Ba w Ka La Ua Va Wa Xa HI R Hb w1 Ea Ca Ya C1 C2 Za Ab Bb Cb h6 Oa h9 Pa Ib Jb Kb SJ Ra wr u2 u32 u33 u34 u35 u36 u37 u38 u39 u40 u41 u42 u43 u44 u45 u46 u47 u48 u49 u50 u51 u52 u53 u54 u55 u56 u57 u58 u59 u60 u61 u62 u63 q l hq Ga Ha hg Da Sa;exact key1.out
    have Lb:q=nb:=(by omega);subst Lb;have Eb:H7 (SJ=R):=(by show _=_;have:=hg;rw[t' (by omega)]at this;simpa[M.bnGo]using this);have Ja:=Hd Da;have x2:=(Ea.o.belowS Da).c 2;clear hg Da Ga Ha;(go_wp2_with fail);clear x2;have Ta:H7 (aA 2 (wr.alloc (.cells #[] 2)) w1.heap.size (some ⟨wr.heap.size,0,none⟩) 0 0 []):=sI _ Ja.o.size;have Fb:H7 (m1 w1 (wr.alloc (.cells #[] 2))):=Ja.o.alloc Ja.o.size _;clear Ja;generalize wr.alloc (.cells #[] 2)=we at *;generalize wr.heap.size=eb at Ta |-
    go_loopw [4,5] (λl i wr=>∃(j:Nat) (Ia:Int) (ws:List Int),j<=nj/\i=it j/\(j=0->Ia=0)/\(∀j',j=j'+1->Ia=(js.getD j' M.j0).id)/\M.spJ Aa Ba bs Ia ws (js.drop j)=R/\ws.length<=8*j/\xe w1 ws l wr) (λ_ i _=>nj-(intOf i).toNat)
    case atStart=>exact⟨0,0,[],by omega,rfl,λ_=>rfl,(λq' h=>by omega),Ra.o.trans Eb.o,Nat.zero_le _,_,0,0,rfl,Ta.o,Fb.o⟩
    case round=>
     obtain⟨j,Ia,ws,hj,rfl,Ga,Ha,hg,Nb,al,ml,cl,rfl,Gb,Da⟩:=hrel;clear Ta Fb Ra Eb;by_cases Sa:j<nj
     case pos=>
      rename_i Ob Pb Qb Rb Sb Tb Ub Vb Wb Xb Yb;revert ab aj cb nj cj bs js Aa Ba w Ka Va Xa HI R Ob w1 Ca C1 C2 Za Ab Bb Cb h6 Oa Pb SJ Qb Rb u32 u33 u34 u35 u36 u37 u38 u39 u40 u41 u42 u43 u44 u45 u46 u47 u48 u49 u50 u51 u52 u53 u54 u55 u56 u57 u58 u59 u60 u61 u62 u63 q l La Ua Wa Ea Ya h9 Pa Sb hq Tb Ub Vb Wb Xb Yb we eb wr u2 u6 u7 u8 u9 u65 u66 u67 u68 u69 u70 u71 u72 u73 u74 u75 u76 u77 u78 u79 u80 u81 u82 u83 u84 u85 u86 u87 u88 u89 u90 u91 u92 u93 u94 u95 u96 u97 u98 u99 u100 u101 u102 u103 u104 u105 u106 u107 u108 u109 u110 u111 u112 u113 u114 u115 u116 u117 u118 u119 u120 u121 u122 u123 u124 u125 u126 u127 u128 u129 u130 u131 u132 u133 u134 u135 u136 u137 u138 u139 u140 u141 u142 u143 u144 u145 u146 u147 u148 u149 u150 u151 u152 u153 u154 u155 u156 u157 u158 u159 u160 u161 u162 u163 u164 u165 u166 u167 u168 u169 u170 u171 u172 u173 u174 u175 u176 u177 u178 u179 u180 u181 u182 u183 u184 u185 u186 u187 j Ia ws hj Ga Ha hg Nb al ml cl Gb Da Sa;exact key2.out
     have Zb:j=nj:=(by omega);subst Zb;have Ac:H7 (true=R):=(by show _=_;have:=hg;rw[t' (by omega)]at this;exact this);have x3:=(Ea.o.belowS Da).c 3;have Bc:=Ca.t Da;clear hg Da Gb Ga Ha;go_wp2;go_ret;exact⟨aB Ac.o,Bc.o⟩
set_option maxRecDepth 100000 in
theorem wN:wM.p:=by
     intro ab aj nb cb nj cj bs js Cb Db w Eb Wa Fb Gb Hb Ib HI R Jb w1 Xa Ea Ya C1 C2 Kb Lb Nb Ob h6 Pb h9 Qb Rb Sb Tb SJ Ub wr u2 Vb Wb Xb Yb Zb Ac Bc Cc Dc Ec Fc Gc Hc Ic Jc Kc Lc Nc Oc Pc Qc Rc Sc Tc Uc Vc Wc Xc Yc Zc Ad Bd q l hq La Na hg Ia Ua;obtain⟨b1,o1,rfl,Ja⟩:=(Ya.o.b.below Ia).at (by omega);have c1:=Ja q Ua;have hG:(((decide (l<bs.getD q 0)&&M.wkOk (bs.getD q 0))&&M.bnGo (bs.getD q 0) (bs.drop (q+1)))&&SJ)=R:=(by rw[<-hg,aX 0 Wa Ua];rfl);have Cd:(q:Int)<(nb:Int):=(by omega);have C3:=dn (bs.getD q 0) 1 9
     change∀w,Rq 52 #[it (bs.getD q 0),it 1,it 9] w (.bool (M.wkOk (bs.getD q 0)))at C3
     have Oa:H7 (M.wkOk (bs.getD q 0)=true->1<=bs.getD q 0):=λh=>by unfold M.wkOk at h;simp at h;exact h.1
     have Va:∀q',q+1=q'+1->bs.getD q 0=bs.getD q' 0:=λq' h=>by rw[Nat.succ.inj h]
     have Pa:=Hd Va;clear Va hg;have Ca:=Hd Ia;have Da:=Xa.b Ia;clear Ia;have x2:=Da.c 2;(go_wp2_with fail);clear x2;generalize bs.getD q 0=x at c1 hG C3 Oa Pa;generalize M.wkOk x=ow at hG C3 Oa;have HG:=Hd hG;clear hG;by_cases Ka:q=0
     case pos=>
      obtain rfl:=La Ka;have Dd:¬ (0:Int)<(q:Int):=(by omega);have Za:=Hd Ka;clear La Na Ja Ka;refine cP wr none (by kernel_rfl) λhHeld=>?_;generalize wr.drew=Qa at *;have Fa:H7 (m1 wr Qa):=⟨hHeld.os,hHeld.tape,hHeld.output,hHeld.size,λk hk=>hHeld.block k hk (by simp)⟩;refine tE 0 (.pointer (some ⟨w.heap.size,2,none⟩)) ?_;refine tk 1 (.slice (some ⟨b1,o1,none⟩) nb cb) ?_ ?_
      .intro wp Ba;have c0:=(Da.o.grown Ba (by simp)).c 2;go_simp
      refine tE 2 (it (q:Nat)) ?_;refine tE 3 (.pointer (some ⟨b1,o1+q,none⟩)) ?_;refine tk 4 (it x) ?_ ?_
      .intro wp Ba;have c0:wp.cell? ⟨b1,o1+q,none⟩=some (it x):=Ba.cell c1 (by simp);go_simp
      refine aT 5 λKk hK=>?_;go_simp;refine(C3 _).mono ?_;rintro e wn ⟨rfl,Ga⟩;have Ra:=Ga.symm;clear Ga;subst Ra;go_simp;refine hK.out _ _ (by assumption) (λhHeld1=>?_);clear hK Kk;refine tE 6 (.bool (!ow)) ?_;refine tE 7 (.bool (!ow)) ?_;cases ow with
      | false=>
       refine sk 8 ?_;refine sk 9 ?_;refine sk 10 ?_;refine sk 11 ?_;refine sk 12 ?_;refine sk 13 ?_;refine sk 14 ?_;refine sk 15 ?_;refine sk 16 ?_;refine sk 17 ?_;refine sk 18 ?_;refine sk 19 ?_;refine sk 20 ?_;refine sk 21 ?_;refine sk 22 ?_;refine sk 23 ?_;refine tE 24 (.bool true) ?_;refine bi ?_;go_simp;have HF:H7 (false=R):=(by show _=_;have:=HG.o;simpa using this);have Ha:=Hd (Ea.o.trans ((Ca.o.trans (Fa.o.mono Ca.o.size)).mono Ea.o.size));go_wp2;go_ret;exact⟨aB HF.o,Ha.o⟩
      | true=>
       refine tE 8 (it (q:Nat)) ?_;refine tk 9 (.bool false) ?_ ?_
       .intro wq Aa;go_simp;exact Za.o
       refine tE 10 (.bool false) ?_;refine sk 11 ?_;refine sk 12 ?_;refine sk 13 ?_;refine sk 14 ?_;refine sk 15 ?_;refine sk 16 ?_;refine sk 17 ?_;refine sk 18 ?_;refine sk 19 ?_;refine sk 20 ?_;refine sk 21 ?_;refine sk 22 ?_;refine tE 23 (.bool false) ?_;refine tE 24 (.bool false) ?_;refine bi ?_;go_simp;have Sa:=Hd (Ca.o.trans (Fa.o.mono Ca.o.size));clear Ca Da;have Ed:=Oa.o rfl;have Ta:H7 ((M.bnGo x (bs.drop (q+1))&&SJ)=R):=(by show _=_;have:=HG.o;rw[show decide ((0:Int)<x)=true by simp;omega]at this;simpa using this);go_wp2;go_roundw
       case rel=>exact⟨q+1,x,by omega,by go_num,(λh=>by omega),Pa.o,Ta.o,Sa.o⟩
       case measure=>simp[intOf];omega
     obtain⟨p,hp⟩:∃p,q=p+1:=⟨q-1,by omega⟩;have c0:=Ja p (by omega);obtain rfl:=Na p hp;generalize bs.getD p 0=l at c0 HG;clear La Na Ja Ka;have Fd:(q:Int)-1=(p:Int):=(by omega);have Gd:IntKind.i64.wrap (p:Int)=(p:Int):=(by rw[xK];omega);have Id:(0:Int)<(q:Int):=(by omega);have Jd:(p:Int)<(nb:Int):=(by omega);have Kd:(0:Int)<=(p:Int):=(by omega);have Ab:=Hd (by omega:0<q);clear hp;refine cP wr none (by kernel_rfl) λhHeld=>?_;generalize wr.drew=Qa at *;have Fa:H7 (m1 wr Qa):=⟨hHeld.os,hHeld.tape,hHeld.output,hHeld.size,λk hk=>hHeld.block k hk (by simp)⟩;refine tE 0 (.pointer (some ⟨w.heap.size,2,none⟩)) ?_;refine tk 1 (.slice (some ⟨b1,o1,none⟩) nb cb) ?_ ?_
     .intro wp Ba;have c0:=(Da.o.grown Ba (by simp)).c 2;go_simp
     refine tE 2 (it (q:Nat)) ?_;refine tE 3 (.pointer (some ⟨b1,o1+q,none⟩)) ?_;refine tk 4 (it x) ?_ ?_
     .intro wp Ba;have c0:wp.cell? ⟨b1,o1+q,none⟩=some (it x):=Ba.cell c1 (by simp);go_simp
     refine aT 5 λKk hK=>?_;go_simp;refine(C3 _).mono ?_;rintro e wn ⟨rfl,Ga⟩;have Ra:=Ga.symm;clear Ga;subst Ra;go_simp;refine hK.out _ _ (by assumption) (λhHeld1=>?_);clear hK Kk;refine tE 6 (.bool (!ow)) ?_;refine tE 7 (.bool (!ow)) ?_;cases ow with
     | false=>
      refine sk 8 ?_;refine sk 9 ?_;refine sk 10 ?_;refine sk 11 ?_;refine sk 12 ?_;refine sk 13 ?_;refine sk 14 ?_;refine sk 15 ?_;refine sk 16 ?_;refine sk 17 ?_;refine sk 18 ?_;refine sk 19 ?_;refine sk 20 ?_;refine sk 21 ?_;refine sk 22 ?_;refine sk 23 ?_;refine tE 24 (.bool true) ?_;refine bi ?_;go_simp;have HF:H7 (false=R):=(by show _=_;have:=HG.o;simpa using this);have Ha:=Hd (Ea.o.trans ((Ca.o.trans (Fa.o.mono Ca.o.size)).mono Ea.o.size));go_wp2;go_ret;exact⟨aB HF.o,Ha.o⟩
     | true=>
      refine tE 8 (it (q:Nat)) ?_;refine tk 9 (.bool true) ?_ ?_
      .intro wq Aa;go_simp;exact Ab.o
      refine tE 10 (.bool true) ?_;refine tE 11 (.pointer (some ⟨w.heap.size,2,none⟩)) ?_;refine tk 12 (.slice (some ⟨b1,o1,none⟩) nb cb) ?_ ?_
      .intro wp Ba;have c0:=(Da.o.grown Ba (by simp)).c 2;go_simp
      refine tE 13 (it (q:Nat)) ?_;refine tE 14 (it p) ?_;refine tE 15 (.pointer (some ⟨b1,o1+p,none⟩)) ?_;refine tk 16 (it l) ?_ ?_
      .intro wp Ba;have c0:wp.cell? ⟨b1,o1+p,none⟩=some (it l):=Ba.cell c0 (by simp);go_simp
      refine tE 17 (.pointer (some ⟨w.heap.size,2,none⟩)) ?_;refine tk 18 (.slice (some ⟨b1,o1,none⟩) nb cb) ?_ ?_
      .intro wp Ba;have c0:=(Da.o.grown Ba (by simp)).c 2;go_simp
      refine tE 19 (it (q:Nat)) ?_;refine tE 20 (.pointer (some ⟨b1,o1+q,none⟩)) ?_;refine tk 21 (it x) ?_ ?_
      .intro wp Ba;have c0:wp.cell? ⟨b1,o1+q,none⟩=some (it x):=Ba.cell c1 (by simp);go_simp
      by_cases Bb:x<=l
      ·
       have hd:decide (x<=l)=true:=(by simp[Bb]);refine tE 22 (.bool true) ?_;refine tE 23 (.bool true) ?_;refine tE 24 (.bool true) ?_;refine bi ?_;go_simp;have HF:H7 (false=R):=(by show _=_;have:=HG.o;rw[show decide (l<x)=false by simp;omega]at this;simpa using this);have Ha:=Hd (Ea.o.trans ((Ca.o.trans (Fa.o.mono Ca.o.size)).mono Ea.o.size));go_wp2;go_ret;exact⟨aB HF.o,Ha.o⟩
      ·
       have hd:decide (x<=l)=false:=(by simp;omega);refine tE 22 (.bool false) ?_;refine tE 23 (.bool false) ?_;refine tE 24 (.bool false) ?_;refine bi ?_;go_simp;have Sa:=Hd (Ca.o.trans (Fa.o.mono Ca.o.size));clear Ca Da;have Ta:H7 ((M.bnGo x (bs.drop (q+1))&&SJ)=R):=(by show _=_;have:=HG.o;rw[show decide (l<x)=true by simp;omega]at this;simpa using this);go_wp2;go_roundw
       case rel=>exact⟨q+1,x,by omega,by go_num,(λh=>by omega),Pa.o,Ta.o,Sa.o⟩
       case measure=>simp[intOf];omega
set_option maxRecDepth 100000 in
def wO:tm wM.q:=by
      apply tm.mk;intro key1 key2;intro ab aj cb nj cj bs js Wa Xa w Ia Ya Za HI R Ab w1 Bb C1 C2 Cb Db Eb Fb h6 Gb Hb SJ Ib Jb Kb Lb Nb Ob Pb Qb Rb Sb Tb Ub Vb Wb Xb Yb Zb Ac Bc Cc Dc Ec Fc Gc Hc Ic Jc Kc Lc Nc Oc Pc Qc Rc q l Sc Tc Uc Ja Ka h9 Vc Wc hq Xc Yc Zc Ad Bd Cd we eb wr u2 u6 u7 u8 u9 Dd Ed Fd Gd Id Jd Kd Ld Nd Od Pd Qd Rd Sd Td Ud Vd Wd Xd Yd Zd Ae Be Ce De Ee Fe Ge He Ie Je Ke Le Ne Oe Pe Qe Re Se Te Ue Ve We Xe Ye Ze Af Bf Cf Df Ef Ff Gf Hf If Jf Kf Lf Nf Of Pf Qf Rf Sf Tf Uf Vf Wf Xf Yf Zf Ag Bg Cg Dg Eg Fg Gg Hg Ig Jg Kg Lg Ng Og Pg Qg Rg Sg Tg Ug Vg Wg Xg Yg Zg Ah Bh Ch Dh Eh Fh Gh Hh Ih Jh Kh Lh Nh Oh Ph Qh Rh Sh Th Uh Vh Wh Xh Yh Zh Ai Bi j La ws hj Na Ci hg Di al ml cl Oa Ca Da;obtain⟨b1,o1,rfl,Pa⟩:=Ka.o.j.at (by omega);obtain⟨ta,tc,hA,hT⟩:=Pa j Da;have Ei:(j:Int)<(nj:Int):=(by omega);have hG:=hg;rw[aX M.j0 Ia Da]at hG;unfold M.spJ M.spH at hG;have Ea:∀j',j+1=j'+1->(js.getD j M.j0).id=(js.getD j' M.j0).id:=λj' h=>by rw[Nat.succ.inj h]
      have Fa:H7 (∀p,j=p+1->w1.cell? ⟨b1,o1+p*18,none⟩=some (it La)):=λp hp=>by
       obtain⟨Oj,Pj,Qi,_⟩:=Pa p (by omega);have:=Qi 0 (by omega);rw[Ci p hp];exact this
      generalize js.getD j M.j0=cq at hA hT hG Ea;obtain⟨Aa,⟨⟨a,b,c',d,f,k⟩,⟨a',b',Ba,d',f',k'⟩⟩,⟨s1,s2⟩,jr,jg,tl⟩:=cq;dsimp only at hT hG Ea;have hR:wr.rangeAt b1 (o1+j*18) (fk ⟨Aa,⟨⟨a,b,c',d,f,k⟩,⟨a',b',Ba,d',f',k'⟩⟩,(s1,s2),jr,jg,tl⟩ ta tc):=ig (bN rfl hA) Ca;have HT:=Hd hT;dsimp only[fk]at hR;generalize Fi:tl.length=tn at hR HT hG;have Gi:=Hd Fi;have Hi:=Hd Ea;have Ii:(tn:Int)<=tc:=(by have:=HT.o.le;omega);have Ji:(tn:Int)<=9223372036854775807:=(by have:=HT.o.le;have:=HT.o.big;omega);have C3:=dn Aa 1 1000000000;have CM:=bD ⟨⟨a,b,c',d,f,k⟩,⟨a',b',Ba,d',f',k'⟩⟩;have CS:=cf (s1,s2);have CR:=fd jr;dsimp only[dp,dd]at CM CS;generalize M.rows jr=oR at CR hG;generalize M.sOk (s1,s2)=oS at CS hG;generalize M.Mc.ok ⟨⟨a,b,c',d,f,k⟩,⟨a',b',Ba,d',f',k'⟩⟩=oM at CM hG;have Qa:H7 ((decide (1<=Aa)&&decide (Aa<=1000000000))=true->1<=Aa):=λh=>by simp at h;exact h.1
      generalize(decide (1<=Aa)&&decide (Aa<=1000000000))=oI at C3 hG Qa;have HG:H7 (_=R):=hG;clear Pa hA hT hg hG Fi Ea Ci;have Ra:=Hd Ca;have Sa:=Ja.b Ca;have Ki:=Hd Oa;have Li:=λz hz=>(xz Oa z hz).2;have Ta:(Value.slice al ml cl).ownBlock≠some wr.heap.size:=λe=>absurd (Li _ e) (by omega);clear Li Ca Oa;have Q:=Sa.c 3;(go_wp2_with(with_reducible refine au 76 ?_ ?_;rfl));clear Q;with_reducible refine dY 70 b1 (o1+j*18) (bO Aa a b c' d f k a' b' Ba d' f' k' s1 s2 jr jg ta tn tc) hR underlying70 ?q5 ?_
      case q5=>exact⟨rfl,rfl,by kernel_rfl,_,rfl,by kernel_rfl⟩
      clear hR;(go_wp2_with(with_reducible refine au 6 ?_ ?_;rfl));show wpList _ _ _ _ _ _;have Ni:(Instr.alloc 70 true (.tuple #[])).run prog wr=.ok (tG wr.heap.size) (wr.alloc (.cells eG.toArray 70)):=(by kernel_rfl);with_reducible refine ch ?qg 70 ?qo eG.toArray Ni ?_
      case qg | qo=>exact rfl
      clear Ni;show wpList _ _ _ _ _ _;with_reducible refine Hx (eF 70 wr.heap.size 0 (bO Aa a b c' d f k a' b' Ba d' f' k' s1 s2 jr jg ta tn tc) ?q6 ?q5 ?_)
      case q6=>exact(aQ _ _ _).there _ 18 (by simp)
      case q5=>exact⟨rfl,by kernel_rfl,by kernel_rfl,_,_,rfl,by kernel_rfl,by kernel_rfl⟩
      have Ga:m1 wr ((wr.alloc (.cells eG.toArray 70)).setCells wr.heap.size 0 (bO Aa a b c' d f k a' b' Ba d' f' k' s1 s2 jr jg ta tn tc)):=aP _ _ ((m8 _ _).alloc (m3 _) _) (m3 _);have Ua:=Ra.t Ga;have Oi:=Sa.b Ga;have Pi:=Hd (Ki.o.below Ga);clear Ra Sa Ki;clear Ga;have Va:H7 (aw ((wr.alloc (.cells eG.toArray 70)).setCells wr.heap.size 0 (bO Aa a b c' d f k a' b' Ba d' f' k' s1 s2 jr jg ta tn tc)) wr.heap.size (bO Aa a b c' d f k a' b' Ba d' f' k' s1 s2 jr jg ta tn tc)):=(aQ wr eG.toArray 70).setCells (bO Aa a b c' d f k a' b' Ba d' f' k' s1 s2 jr jg ta tn tc) 0 (by simp);generalize((wr.alloc (.cells eG.toArray 70)).setCells wr.heap.size 0 (bO Aa a b c' d f k a' b' Ba d' f' k' s1 s2 jr jg ta tn tc))=w2 at *;generalize wr.heap.size=jb at Va Ta |-;(go_wp2_with fail);by_cases Ha:j=0
      case pos=>
       obtain rfl:=Na Ha;have Ri:¬ (0:Int)<(j:Int):=(by omega);have Si:=Hd Ha;clear Na Ha Fa;rename_i Ti Ui Vi Wi Xi Yi Zi;revert ab cb nj cj bs js Wa Xa w Ia Ya Za HI R Ab w1 Bb C1 C2 Cb Db Eb Fb h6 Gb Hb SJ Ib Jb Kb Lb Nb Ob Pb Qb Rb Sb Tb Ub Vb Wb Xb Yb Zb Ac Bc Cc Dc Ec Fc Gc Hc Ic Jc Kc Lc Nc Oc Pc Qc Rc q l Sc Tc Uc h9 Vc Wc hq Xc Zc Bd Cd we eb wr u2 u6 u7 u8 u9 Dd Ed Fd Gd Id Jd Kd Ld Nd Od Pd Qd Rd Sd Td Ud Vd Wd Xd Yd Zd Ae Be Ce De Ee Fe Ge He Ie Je Ke Le Ne Oe Pe Qe Re Se Te Ue Ve We Xe Ye Ze Af Bf Cf Df Ef Ff Gf Hf If Jf Kf Lf Nf Of Pf Qf Rf Sf Tf Uf Vf Wf Xf Yf Zf Ag Bg Cg Dg Eg Fg Gg Hg Ig Jg Kg Lg Ng Og Pg Qg Rg Sg Tg Ug Vg Wg Xg Yg Zg Ah Bh Ch Dh Eh Fh Gh Hh Ih Jh Kh Lh Nh Oh Ph Qh Rh Sh Th Uh Vh Wh Xh Yh Zh Ai Bi j ws hj Di al ml cl Da b1 o1 Ja Ka Yc Ad ta tc Ei Aa jr jg tl a b c' d f k a' b' Ba d' f' k' s1 s2 tn HT Gi Hi Ii Ji oR CR oS CS oM CM oI C3 Qa Ti Ui Vi w2 Ua Oi Pi jb Va Ta Wi Xi Yi Zi HG Ri Si;exact key1.out
      obtain⟨p,hp⟩:∃p,j=p+1:=⟨j-1,by omega⟩;have c0:=(Ua.o.cell (p:=⟨b1,o1+p*18,none⟩) (xJ w1 _ (Fa.o p hp))).trans (Fa.o p hp);have Aj:(j:Int)-1=(p:Int):=(by omega);have Bj:IntKind.i64.wrap (p:Int)=(p:Int):=(by rw[xK];omega);have Cj:(0:Int)<(j:Int):=(by omega);have Dj:(p:Int)<(nj:Int):=(by omega);have Ej:(0:Int)<=(p:Int):=(by omega);have Fj:=Hd (by omega:0<j);clear hp Na Ha Fa;rename_i Gj Hj Ij Jj Kj Lj Nj;revert ab cb nj cj bs js Wa Xa w Ia Ya Za HI R Ab w1 Bb C1 C2 Cb Db Eb Fb h6 Gb Hb SJ Ib Jb Kb Lb Nb Ob Pb Qb Rb Sb Tb Ub Vb Wb Xb Yb Zb Ac Bc Cc Dc Ec Fc Gc Hc Ic Jc Kc Lc Nc Oc Pc Qc Rc q l Sc Tc Uc h9 Vc Wc hq Xc Zc Bd Cd we eb wr u2 u6 u7 u8 u9 Dd Ed Fd Gd Id Jd Kd Ld Nd Od Pd Qd Rd Sd Td Ud Vd Wd Xd Yd Zd Ae Be Ce De Ee Fe Ge He Ie Je Ke Le Ne Oe Pe Qe Re Se Te Ue Ve We Xe Ye Ze Af Bf Cf Df Ef Ff Gf Hf If Jf Kf Lf Nf Of Pf Qf Rf Sf Tf Uf Vf Wf Xf Yf Zf Ag Bg Cg Dg Eg Fg Gg Hg Ig Jg Kg Lg Ng Og Pg Qg Rg Sg Tg Ug Vg Wg Xg Yg Zg Ah Bh Ch Dh Eh Fh Gh Hh Ih Jh Kh Lh Nh Oh Ph Qh Rh Sh Th Uh Vh Wh Xh Yh Zh Ai Bi j La ws hj Di al ml cl Da b1 o1 Ja Ka Yc Ad ta tc Ei Aa jr jg tl a b c' d f k a' b' Ba d' f' k' s1 s2 tn HT Gi Hi Ii Ji oR CR oS CS oM CM oI C3 Qa HG Gj Hj Ij w2 Ua Oi Pi jb Va Ta Jj Kj Lj Nj p c0 Aj Bj Cj Dj Ej Fj;exact key2.out
set_option maxRecDepth 100000 in
def vF:tm (wO.p/\wO.q):=by
 apply tm.mk
 case h=>
 intro key1 key2;refine⟨?tax,?tbx⟩
 case' tax=>(intro ab cb nj cj bs js now sr w hlen bnj hcj HI R mkx2z1 w1 HB0 C1 C2 now0 now1 next0 next1 h6 h6I mkx2z2 SJ mkx2z3 mkx2z4 u32 u33 u34 u35 u36 u37 u38 u39 u40 u41 u42 u43 u44 u45 u46 u47 u48 u49 u50 u51 u52 u53 u54 u55 u56 u57 u58 u59 u60 u61 u62 u63 q l hlb bnb hcb h9 h9I mkx2z5 hq mkx2z6 mkx2z8 mkx2z10 mkx2z11 we eb wr u2 u6 u7 u8 u9 u65 u66 u67 u68 u69 u70 u71 u72 u73 u74 u75 u76 u77 u78 u79 u80 u81 u82 u83 u84 u85 u86 u87 u88 u89 u90 u91 u92 u93 u94 u95 u96 u97 u98 u99 u100 u101 u102 u103 u104 u105 u106 u107 u108 u109 u110 u111 u112 u113 u114 u115 u116 u117 u118 u119 u120 u121 u122 u123 u124 u125 u126 u127 u128 u129 u130 u131 u132 u133 u134 u135 u136 u137 u138 u139 u140 u141 u142 u143 u144 u145 u146 u147 u148 u149 u150 u151 u152 u153 u154 u155 u156 u157 u158 u159 u160 u161 u162 u163 u164 u165 u166 u167 u168 u169 u170 u171 u172 u173 u174 u175 u176 u177 u178 u179 u180 u181 u182 u183 u184 u185 u186 u187 j ws hj hws al ml cl hlt b1 o1 HL0 HM0 mkx2z7 mkx2z9 ta tc hjI jid jr jg tl a b c' d f k a' b' c'' d' f' k' s1 s2 tn HT HTL HNI htcI htnb oR CR oS CS oM CM oI C3 HI1 mkx3z1 mkx3z2 mkx3z3 w2 HB_1 HL_1 HO_1 jb HJ_1 hne0 mkx3z4 mkx3z5 mkx3z6 mkx3z7 HG hgt HQ0)
 case' tbx=>(intro ab cb nj cj bs js now sr w hlen bnj hcj HI R mkx2z1 w1 HB0 C1 C2 now0 now1 next0 next1 h6 h6I mkx2z2 SJ mkx2z3 mkx2z4 u32 u33 u34 u35 u36 u37 u38 u39 u40 u41 u42 u43 u44 u45 u46 u47 u48 u49 u50 u51 u52 u53 u54 u55 u56 u57 u58 u59 u60 u61 u62 u63 q l hlb bnb hcb h9 h9I mkx2z5 hq mkx2z6 mkx2z8 mkx2z10 mkx2z11 we eb wr u2 u6 u7 u8 u9 u65 u66 u67 u68 u69 u70 u71 u72 u73 u74 u75 u76 u77 u78 u79 u80 u81 u82 u83 u84 u85 u86 u87 u88 u89 u90 u91 u92 u93 u94 u95 u96 u97 u98 u99 u100 u101 u102 u103 u104 u105 u106 u107 u108 u109 u110 u111 u112 u113 u114 u115 u116 u117 u118 u119 u120 u121 u122 u123 u124 u125 u126 u127 u128 u129 u130 u131 u132 u133 u134 u135 u136 u137 u138 u139 u140 u141 u142 u143 u144 u145 u146 u147 u148 u149 u150 u151 u152 u153 u154 u155 u156 u157 u158 u159 u160 u161 u162 u163 u164 u165 u166 u167 u168 u169 u170 u171 u172 u173 u174 u175 u176 u177 u178 u179 u180 u181 u182 u183 u184 u185 u186 u187 j lst ws hj hws al ml cl hlt b1 o1 HL0 HM0 mkx2z7 mkx2z9 ta tc hjI jid jr jg tl a b c' d f k a' b' c'' d' f' k' s1 s2 tn HT HTL HNI htcI htnb oR CR oS CS oM CM oI C3 HI1 HG mkx4z1 mkx4z2 mkx4z3 w2 HB_1 HL_1 HO_1 jb HJ_1 hne0 mkx4z4 mkx4z5 mkx4z6 mkx4z7 p c0 hsb2 hwp hpos hpn hp0 HQP)
 all_goals
  have hX:=trivial;clear hX;refine cP w2 none (by kernel_rfl) λhHeld=>?_;generalize w2.drew=Ka at *;have Ga:H7 (m1 w2 Ka):=⟨hHeld.os,hHeld.tape,hHeld.output,hHeld.size,λk hk=>hHeld.block k hk (by simp)⟩;refine tE 0 (tG jb) ?_;refine tk 1 (it jid) ?_ ?_
  .intro wp Ba;have c0:=(HJ_1.o.grown Ba (by simp)).c 0;go_simp
  refine aT 2 λKk hK=>?_;go_simp;refine(C3 _).mono ?_;rintro e wn ⟨rfl,Ha⟩;have La:=Ha.symm;clear Ha;subst La;go_simp;refine hK.out _ _ (by assumption) (λhHeld1=>?_);clear hK Kk;refine tE 3 (.bool (!oI)) ?_;refine tE 4 (.bool (!oI)) ?_;cases oI with
  | false=>
   with_reducible refine cY [5,6,7,8,9,10,11,12,13,14,15,16,17,18,19,20,21,22,23,24,25,26,27,28,29,30,31,32,33,34,35,36,37,38,39,40,41,42,43,44,45,46,47,48,49,50,51,52,53,54,55,56] [(82,undef),(83,undef),(84,undef),(85,undef),(86,undef),(87,.bool true),(88,.bool true),(89,undef),(90,undef),(91,undef),(92,undef),(93,undef),(94,undef),(95,undef),(96,undef),(97,undef),(98,undef),(99,undef),(100,undef),(101,undef),(102,undef),(103,.bool true),(104,.bool true),(105,undef),(106,undef),(107,undef),(108,undef),(109,.bool true),(110,.bool true),(111,undef),(112,undef),(113,undef),(114,undef),(115,.bool true),(116,.bool true),(117,undef),(118,undef),(119,undef),(120,undef),(121,.bool true),(122,.bool true),(123,undef),(124,undef),(125,undef),(126,undef),(127,.bool true),(128,.bool true),(129,undef),(130,undef),(131,undef),(132,undef),(133,.bool true)] ?qs ?qQ ?qS ?qf ?qh ?qk
   case qs=>kernel_rfl
   case qQ=>exact λ_ _ _ _ h=>h
   case qS=>assumption
   case qf=>decide
   case qh=>as_aux_lemma=>kernel_rfl
   case qk=>
    dsimp only[List.foldl];refine NoPanic.normal ?_;go_simp;have HF:H7 (false=R):=(by show _=_;have:=HG.o;simpa using this);have Ca:=Hd (HB0.o.trans ((HB_1.o.trans (Ga.o.mono HB_1.o.size)).mono HB0.o.size));clear HG;go_wp2;go_ret;exact⟨aB HF.o,Ca.o⟩
  | true=>
   refine tE 5 (tG jb) ?_;refine tk 6 (it jid) ?_ ?_
   .intro wp Ba;have c0:=(HJ_1.o.grown Ba (by simp)).c 0;go_simp
   refine tE 7 (.pointer (some ⟨w.heap.size,1,none⟩)) ?_;refine tk 8 (it sr) ?_ ?_
   .intro wp Ba;have c0:=(HL_1.o.grown Ba (by simp)).c 1;go_simp
   by_cases Oa:sr<=jid
   ·
    refine tE 9 (.bool true) ?_;with_reducible refine cY [10,11,12,13,14,15,16,17,18,19,20,21,22,23,24,25,26,27,28,29,30,31,32,33,34,35,36,37,38,39,40,41,42,43,44,45,46,47,48,49,50,51,52,53,54,55,56] [(87,.bool true),(88,.bool true),(89,undef),(90,undef),(91,undef),(92,undef),(93,undef),(94,undef),(95,undef),(96,undef),(97,undef),(98,undef),(99,undef),(100,undef),(101,undef),(102,undef),(103,.bool true),(104,.bool true),(105,undef),(106,undef),(107,undef),(108,undef),(109,.bool true),(110,.bool true),(111,undef),(112,undef),(113,undef),(114,undef),(115,.bool true),(116,.bool true),(117,undef),(118,undef),(119,undef),(120,undef),(121,.bool true),(122,.bool true),(123,undef),(124,undef),(125,undef),(126,undef),(127,.bool true),(128,.bool true),(129,undef),(130,undef),(131,undef),(132,undef),(133,.bool true)] ?qs ?qQ ?qS ?qf ?qh ?qk
    case qs=>kernel_rfl
    case qQ=>exact λ_ _ _ _ h=>h
    case qS=>assumption
    case qf=>decide
    case qh=>as_aux_lemma=>kernel_rfl
    case qk=>
     dsimp only[List.foldl];refine NoPanic.normal ?_;go_simp;have HF:H7 (false=R):=(by show _=_;have:=HG.o;rw[show decide (jid<sr)=false by simp;omega]at this;simpa using this);have Ca:=Hd (HB0.o.trans ((HB_1.o.trans (Ga.o.mono HB_1.o.size)).mono HB0.o.size));clear HG;go_wp2;go_ret;exact⟨aB HF.o,Ca.o⟩
   have Pa:jid<sr:=(by omega);refine tE 9 (.bool false) ?_;refine tE 10 (.bool false) ?_;refine tE 11 (.bool false) ?_;refine tE 12 (it (j:Nat)) ?_;first
   | (
    refine tk 13 (.bool false) ?_ ?_
    .intro wq Aa;go_simp;exact HQ0.o
    refine tE 14 (.bool false) ?_;refine sk 15 ?_;refine sk 16 ?_;refine sk 17 ?_;refine sk 18 ?_;refine sk 19 ?_;refine sk 20 ?_;refine sk 21 ?_;refine sk 22 ?_;refine sk 23 ?_;refine sk 24 ?_;refine tE 25 (.bool false) ?_;)
   | (
    refine tk 13 (.bool true) ?_ ?_
    .intro wq Aa;go_simp;exact HQP.o
    refine tE 14 (.bool true) ?_;refine tE 15 (.pointer (some ⟨w.heap.size,3,none⟩)) ?_;refine tk 16 (.slice (some ⟨b1,o1,none⟩) nj cj) ?_ ?_
    .intro wp Ba;have c0:=(HL_1.o.grown Ba (by simp)).c 3;go_simp
    refine tE 17 (it (j:Nat)) ?_;refine tE 18 (it p) ?_;refine tE 19 (.pointer (some ⟨b1,o1+p*18,none⟩)) ?_;refine tE 20 (.pointer (some ⟨b1,o1+p*18,none⟩)) ?_;refine tk 21 (it lst) ?_ ?_
    .intro wp Ba;have c0:wp.cell? ⟨b1,o1+p*18,none⟩=some (it lst):=Ba.cell c0 (by simp);go_simp
    refine tE 22 (tG jb) ?_;refine tk 23 (it jid) ?_ ?_
    .intro wp Ba;have c0:=(HJ_1.o.grown Ba (by simp)).c 0;go_simp
    by_cases Bb:jid<=lst
    ·
     refine tE 24 (.bool true) ?_;refine tE 25 (.bool true) ?_;with_reducible refine cY [26,27,28,29,30,31,32,33,34,35,36,37,38,39,40,41,42,43,44,45,46,47,48,49,50,51,52,53,54,55,56] [(103,.bool true),(104,.bool true),(105,undef),(106,undef),(107,undef),(108,undef),(109,.bool true),(110,.bool true),(111,undef),(112,undef),(113,undef),(114,undef),(115,.bool true),(116,.bool true),(117,undef),(118,undef),(119,undef),(120,undef),(121,.bool true),(122,.bool true),(123,undef),(124,undef),(125,undef),(126,undef),(127,.bool true),(128,.bool true),(129,undef),(130,undef),(131,undef),(132,undef),(133,.bool true)] ?qs ?qQ ?qS ?qf ?qh ?qk
     case qs=>kernel_rfl
     case qQ=>exact λ_ _ _ _ h=>h
     case qS=>assumption
     case qf=>decide
     case qh=>as_aux_lemma=>kernel_rfl
     case qk=>
      dsimp only[List.foldl];refine NoPanic.normal ?_;go_simp;have HF:H7 (false=R):=(by show _=_;have:=HG.o;rw[show decide (lst<jid)=false by simp;omega]at this;simpa using this);have Ca:=Hd (HB0.o.trans ((HB_1.o.trans (Ga.o.mono HB_1.o.size)).mono HB0.o.size));clear HG;go_wp2;go_ret;exact⟨aB HF.o,Ca.o⟩
    have Cb:lst<jid:=(by omega);refine tE 24 (.bool false) ?_;refine tE 25 (.bool false) ?_;)
   refine tE 26 (.bool false) ?_;refine tE 27 (.bool false) ?_;refine tE 28 (.pointer (some ⟨jb,1,none⟩)) ?_;have Qa:∀W:World,w2.grownBy W none->W.rangeAt jb 1 (cW a b c' d f k a' b' c'' d' f' k'):=λW h=>(HJ_1.o.grown h (by simp)).mid 1 12;refine wpAnyH_take (i:=29) (v:=.agg ((cW a b c' d f k a' b' c'' d' f' k'):List Value).toArray) rfl (by kernel_rfl) (by kernel_rfl) (by kernel_rfl) (λ_ _ _ h=>h) (xF (by kernel_rfl) 31 (.tmp 105) rfl jb 1 (by kernel_rfl) ((cW a b c' d f k a' b' c'' d' f' k'):List Value) _ Qa underlying31 rfl (by kernel_rfl)) (by assumption) ?_;clear Qa;refine aT 30 λKk hK=>?_;go_simp;refine(CM _).mono ?_;rintro e Ia ⟨rfl,Ra⟩;go_simp;have Ea:=aH hHeld Ra;have Na:H7 (m1 w2 Ia):=⟨Ea.os,Ea.tape,Ea.output,Ea.size,λk hk=>Ea.block k hk (by simp)⟩;refine hK.out _ _ Ea (λ_=>?_);clear hK Kk Ra;refine tE 31 (.bool (!oM)) ?_;refine tE 32 (.bool (!oM)) ?_;refine tE 33 (.bool (!oM)) ?_;cases oM with
   | false=>
    with_reducible refine cY [34,35,36,37,38,39,40,41,42,43,44,45,46,47,48,49,50,51,52,53,54,55,56] [(111,undef),(112,undef),(113,undef),(114,undef),(115,.bool true),(116,.bool true),(117,undef),(118,undef),(119,undef),(120,undef),(121,.bool true),(122,.bool true),(123,undef),(124,undef),(125,undef),(126,undef),(127,.bool true),(128,.bool true),(129,undef),(130,undef),(131,undef),(132,undef),(133,.bool true)] ?qs ?qQ ?qS ?qf ?qh ?qk
    case qs=>kernel_rfl
    case qQ=>exact λ_ _ _ _ h=>h
    case qS=>assumption
    case qf=>decide
    case qh=>as_aux_lemma=>kernel_rfl
    case qk=>
     dsimp only[List.foldl];refine NoPanic.normal ?_;go_simp;have HF:H7 (false=R):=(by show _=_;have:=HG.o;simpa using this);have Ca:=Hd (HB0.o.trans ((HB_1.o.trans (Na.o.mono HB_1.o.size)).mono HB0.o.size));clear HG;go_wp2;go_ret;exact⟨aB HF.o,Ca.o⟩
   | true=>
    refine tE 34 (.pointer (some ⟨jb,13,none⟩)) ?_;refine tk 35 (.agg #[it s1,it s2]) ?_ ?_
    .intro wp Ba;have c0:=(HJ_1.o.grown Ba (by simp)).c 13;have c1:=(HJ_1.o.grown Ba (by simp)).c 14;go_simp
    refine aT 36 λKk hK=>?_;go_simp;refine(CS _).mono ?_;rintro e Ja ⟨rfl,Sa⟩;go_simp;have Fa:=aH Ea Sa;have Da:H7 (m1 w2 Ja):=⟨Fa.os,Fa.tape,Fa.output,Fa.size,λk hk=>Fa.block k hk (by simp)⟩;refine hK.out _ _ Fa (λ_=>?_);clear hK Kk Sa;refine tE 37 (.bool (!oS)) ?_;refine tE 38 (.bool (!oS)) ?_;refine tE 39 (.bool (!oS)) ?_;cases oS with
    | false=>
     with_reducible refine cY [40,41,42,43,44,45,46,47,48,49,50,51,52,53,54,55,56] [(117,undef),(118,undef),(119,undef),(120,undef),(121,.bool true),(122,.bool true),(123,undef),(124,undef),(125,undef),(126,undef),(127,.bool true),(128,.bool true),(129,undef),(130,undef),(131,undef),(132,undef),(133,.bool true)] ?qs ?qQ ?qS ?qf ?qh ?qk
     case qs=>kernel_rfl
     case qQ=>exact λ_ _ _ _ h=>h
     case qS=>assumption
     case qf=>decide
     case qh=>as_aux_lemma=>kernel_rfl
     case qk=>
      dsimp only[List.foldl];refine NoPanic.normal ?_;go_simp;have HF:H7 (false=R):=(by show _=_;have:=HG.o;simpa using this);have Ca:=Hd (HB0.o.trans ((HB_1.o.trans (Da.o.mono HB_1.o.size)).mono HB0.o.size));clear HG;go_wp2;go_ret;exact⟨aB HF.o,Ca.o⟩
    | true=>
     refine tE 40 (.pointer (some ⟨jb,15,none⟩)) ?_;refine tk 41 (it jr) ?_ ?_
     .intro wp Ba;have c0:=(HJ_1.o.grown Ba (by simp)).c 15;go_simp
     refine aT 42 λKk hK=>?_;go_simp;refine(CR _).mono ?_;rintro e wn ⟨rfl,Ha⟩;have La:=Ha.symm;clear Ha;subst La;go_simp;refine hK.out _ _ (by assumption) (λhHeld1=>?_);clear hK Kk;refine tE 43 (.bool (!oR)) ?_;refine tE 44 (.bool (!oR)) ?_;refine tE 45 (.bool (!oR)) ?_;cases oR with
     | false=>
      with_reducible refine cY [46,47,48,49,50,51,52,53,54,55,56] [(123,undef),(124,undef),(125,undef),(126,undef),(127,.bool true),(128,.bool true),(129,undef),(130,undef),(131,undef),(132,undef),(133,.bool true)] ?qs ?qQ ?qS ?qf ?qh ?qk
      case qs=>kernel_rfl
      case qQ=>exact λ_ _ _ _ h=>h
      case qS=>assumption
      case qf=>decide
      case qh=>as_aux_lemma=>kernel_rfl
      case qk=>
       dsimp only[List.foldl];refine NoPanic.normal ?_;go_simp;have HF:H7 (false=R):=(by show _=_;have:=HG.o;simpa using this);have Ca:=Hd (HB0.o.trans ((HB_1.o.trans (Da.o.mono HB_1.o.size)).mono HB0.o.size));clear HG;go_wp2;go_ret;exact⟨aB HF.o,Ca.o⟩
     | true=>
      refine tE 46 (.pointer (some ⟨jb,17,none⟩)) ?_;refine tk 47 (.slice ta tn tc) ?_ ?_
      .intro wp Ba;have c0:=(HJ_1.o.grown Ba (by simp)).c 17;go_simp
      refine tE 48 (it tn) ?_;by_cases Ta:(tn:Int)<1
      ·
       refine tE 49 (.bool true) ?_;with_reducible refine cY [50,51,52,53,54,55,56] [(127,.bool true),(128,.bool true),(129,undef),(130,undef),(131,undef),(132,undef),(133,.bool true)] ?qs ?qQ ?qS ?qf ?qh ?qk
       case qs=>kernel_rfl
       case qQ=>exact λ_ _ _ _ h=>h
       case qS=>assumption
       case qf=>decide
       case qh=>as_aux_lemma=>kernel_rfl
       case qk=>
        dsimp only[List.foldl];refine NoPanic.normal ?_;go_simp;have HF:H7 (false=R):=(by show _=_;have:=HG.o;rw[show decide (1<=tn)=false by simp;omega]at this;simpa using this);have Ca:=Hd (HB0.o.trans ((HB_1.o.trans (Da.o.mono HB_1.o.size)).mono HB0.o.size));clear HG;go_wp2;go_ret;exact⟨aB HF.o,Ca.o⟩
      have Ua:(1:Int)<=(tn:Int):=(by omega);refine tE 49 (.bool false) ?_;refine tE 50 (.bool false) ?_;refine tE 51 (.bool false) ?_;refine tE 52 (.pointer (some ⟨jb,17,none⟩)) ?_;refine tk 53 (.slice ta tn tc) ?_ ?_
      .intro wp Ba;have c0:=(HJ_1.o.grown Ba (by simp)).c 17;go_simp
      refine tE 54 (it tn) ?_;by_cases Va:(8:Int)<(tn:Int)
      ·
       refine tE 55 (.bool true) ?_;with_reducible refine cY [56] [(133,.bool true)] ?qs ?qQ ?qS ?qf ?qh ?qk
       case qs=>kernel_rfl
       case qQ=>exact λ_ _ _ _ h=>h
       case qS=>assumption
       case qf=>decide
       case qh=>as_aux_lemma=>kernel_rfl
       case qk=>
        dsimp only[List.foldl];refine NoPanic.normal ?_;go_simp;have HF:H7 (false=R):=(by show _=_;have:=HG.o;rw[show decide (tn<=8)=false by simp;omega]at this;simpa using this);have Ca:=Hd (HB0.o.trans ((HB_1.o.trans (Da.o.mono HB_1.o.size)).mono HB0.o.size));clear HG;go_wp2;go_ret;exact⟨aB HF.o,Ca.o⟩
      have Wa:(tn:Int)<=8:=(by omega);refine tE 55 (.bool false) ?_;refine tE 56 (.bool false) ?_;refine bi ?_;go_simp;have Xa:=Hd (HB_1.o.trans (Da.o.mono HB_1.o.size));have Ya:=Hd (HL_1.o.belowS Da.o);have Za:=Hd (HO_1.o.below Da.o);have Ab:=Hd (HJ_1.o.belowS Da.o);clear HB_1 HL_1 HO_1 HJ_1
      first
      | (
       have Db:=HQ0.o;clear Db;rename_i Eb Fb Gb;revert ab cb nj cj bs js now sr w hlen bnj hcj HI R mkx2z1 w1 HB0 C1 C2 now0 now1 next0 next1 h6 h6I mkx2z2 SJ mkx2z3 mkx2z4 u32 u33 u34 u35 u36 u37 u38 u39 u40 u41 u42 u43 u44 u45 u46 u47 u48 u49 u50 u51 u52 u53 u54 u55 u56 u57 u58 u59 u60 u61 u62 u63 q l hlb bnb hcb h9 h9I mkx2z5 hq mkx2z6 mkx2z8 mkx2z10 mkx2z11 we eb wr u2 u6 u7 u8 u9 u65 u66 u67 u68 u69 u70 u71 u72 u73 u74 u75 u76 u77 u78 u79 u80 u81 u82 u83 u84 u85 u86 u87 u88 u89 u90 u91 u92 u93 u94 u95 u96 u97 u98 u99 u100 u101 u102 u103 u104 u105 u106 u107 u108 u109 u110 u111 u112 u113 u114 u115 u116 u117 u118 u119 u120 u121 u122 u123 u124 u125 u126 u127 u128 u129 u130 u131 u132 u133 u134 u135 u136 u137 u138 u139 u140 u141 u142 u143 u144 u145 u146 u147 u148 u149 u150 u151 u152 u153 u154 u155 u156 u157 u158 u159 u160 u161 u162 u163 u164 u165 u166 u167 u168 u169 u170 u171 u172 u173 u174 u175 u176 u177 u178 u179 u180 u181 u182 u183 u184 u185 u186 u187 j ws hj hws al ml cl hlt b1 o1 HL0 HM0 mkx2z7 mkx2z9 ta tc hjI jid jr jg tl a b c' d f k a' b' c'' d' f' k' s1 s2 tn HT HTL HNI htcI htnb mkx3z1 mkx3z2 mkx3z3 w2 jb hne0 mkx3z4 mkx3z5 mkx3z6 mkx3z7 hgt HQ0 Ka hHeld Ga Eb C3 HI1 Oa Pa Ia Ea Na Fb CM Ja Fa Da Gb CS hHeld1 CR HG Ta Ua Va Wa Xa Ya Za Ab;exact key1.out
       )
      | (
       rename_i Hb Ib Jb;revert ab cb nj cj bs js now sr w hlen bnj hcj HI R mkx2z1 w1 HB0 C1 C2 now0 now1 next0 next1 h6 h6I mkx2z2 SJ mkx2z3 mkx2z4 u32 u33 u34 u35 u36 u37 u38 u39 u40 u41 u42 u43 u44 u45 u46 u47 u48 u49 u50 u51 u52 u53 u54 u55 u56 u57 u58 u59 u60 u61 u62 u63 q l hlb bnb hcb h9 h9I mkx2z5 hq mkx2z6 mkx2z8 mkx2z10 mkx2z11 we eb wr u2 u6 u7 u8 u9 u65 u66 u67 u68 u69 u70 u71 u72 u73 u74 u75 u76 u77 u78 u79 u80 u81 u82 u83 u84 u85 u86 u87 u88 u89 u90 u91 u92 u93 u94 u95 u96 u97 u98 u99 u100 u101 u102 u103 u104 u105 u106 u107 u108 u109 u110 u111 u112 u113 u114 u115 u116 u117 u118 u119 u120 u121 u122 u123 u124 u125 u126 u127 u128 u129 u130 u131 u132 u133 u134 u135 u136 u137 u138 u139 u140 u141 u142 u143 u144 u145 u146 u147 u148 u149 u150 u151 u152 u153 u154 u155 u156 u157 u158 u159 u160 u161 u162 u163 u164 u165 u166 u167 u168 u169 u170 u171 u172 u173 u174 u175 u176 u177 u178 u179 u180 u181 u182 u183 u184 u185 u186 u187 j lst ws hj hws al ml cl hlt b1 o1 HL0 HM0 mkx2z7 mkx2z9 ta tc hjI jid jr jg tl a b c' d f k a' b' c'' d' f' k' s1 s2 tn HT HTL HNI htcI htnb mkx4z1 mkx4z2 mkx4z3 w2 jb hne0 mkx4z4 mkx4z5 mkx4z6 mkx4z7 p c0 hsb2 hwp hpos hpn hp0 HQP Ka hHeld Ga Hb C3 HI1 Oa Pa Bb Cb Ia Ea Na Ib CM Ja Fa Da Jb CS hHeld1 CR HG Ta Ua Va Wa Xa Ya Za Ab;exact key2.out
       )
end Go.Proofs.YtbjalickbnpnkaaGreatDoor
