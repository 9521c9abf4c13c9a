import Derived.Test.YtbjalickbnpnkaaGreatDoorPk08
import Derived.Test.YtbjalickbnpnkaaGreatDoorPk09
namespace Go.Proofs.YtbjalickbnpnkaaGreatDoor
open Go.RowKit Go.Proofs.Tryz
set_option linter.unusedSimpArgs false
set_option maxHeartbeats 32000000
variable {ab aj a b:Option Addr}{nb cb nj cj dA size g n c k d m:Nat}{bs zs ys:List Int}{js:List M.Jb}{e:TypeId}{w w':World}{ts:List M.Tk}{xs:List Value}{row:Option Nat}
set_option maxRecDepth 100000 in
theorem oe:vF.p/\vF.q:=by
 refine⟨?tax,?tbx⟩
 case' tax=>
  intro ab cb nj cj bs js Fa Va w Vd Wd Xd HI R Yd w1 Qa C1 C2 Fd Gd Zd Ae h6 Be Ce SJ De Ee Fe Ge He Ie Je Ke Le Ne Oe Pe Qe Re Se Te Ue Ve We Xe Ye Ze Af Bf Cf Df Ef Ff Gf Hf If Jf Kf Lf q l Nf Of Pf h9 Qf Rf hq Sf Tf Uf Vf we eb wr u2 u6 u7 u8 u9 Wf Xf Yf Zf Ag Bg Cg Dg Eg Fg Gg Hg Ig Jg Kg Lg Ng Og Pg Qg Rg Sg Tg Ug Vg Wg Xg Yg Zg Ah Bh Ch Dh Eh Fh Gh Hh Ih Jh Kh Lh Nh Oh Ph Qh Rh Sh Th Uh Vh Wh Xh Yh Zh Ai Bi Ci Di Ei Fi Gi Hi Ii Ji Ki Li Ni Oi Pi Qi Ri Si Ti Ui Vi Wi Xi Yi Zi Aj Bj Cj Dj Ej Fj Gj Hj Ij Jj Kj Lj Nj Oj Pj Qj Rj Sj Tj Uj Vj Wj Xj Yj Zj Ak Bk Ck Dk Ek Fk Gk Hk Ik Jk Kk Lk Nk Ok Pk Qk Rk Sk Tk j ws hj Uk al ml cl Vk b1 o1 Id Jd Wk Xk ta tc Yk Da jr jg tl a b c' d f k a' b' Wa d' f' k' s1 s2 tn HT Ib Lc Zk Al Vl Wl Xl w2 jb Nc Yl Zl Am Bm Cm Dm Xa Ba La Em C3 Oc Bl Cl Dl El Ya Fm CM Fl Gl Hl Gm CS Il CR HG Jl Kl Ll Nl Ga Kd Na Oa
 case' tbx=>
  intro ab cb nj cj bs js Fa Va w Vd Wd Xd HI R Yd w1 Qa C1 C2 Fd Gd Zd Ae h6 Be Ce SJ De Ee Fe Ge He Ie Je Ke Le Ne Oe Pe Qe Re Se Te Ue Ve We Xe Ye Ze Af Bf Cf Df Ef Ff Gf Hf If Jf Kf Lf q l Nf Of Pf h9 Qf Rf hq Sf Tf Uf Vf we eb wr u2 u6 u7 u8 u9 Wf Xf Yf Zf Ag Bg Cg Dg Eg Fg Gg Hg Ig Jg Kg Lg Ng Og Pg Qg Rg Sg Tg Ug Vg Wg Xg Yg Zg Ah Bh Ch Dh Eh Fh Gh Hh Ih Jh Kh Lh Nh Oh Ph Qh Rh Sh Th Uh Vh Wh Xh Yh Zh Ai Bi Ci Di Ei Fi Gi Hi Ii Ji Ki Li Ni Oi Pi Qi Ri Si Ti Ui Vi Wi Xi Yi Zi Aj Bj Cj Dj Ej Fj Gj Hj Ij Jj Kj Lj Nj Oj Pj Qj Rj Sj Tj Uj Vj Wj Xj Yj Zj Ak Bk Ck Dk Ek Fk Gk Hk Ik Jk Kk Lk Nk Ok Pk Qk Rk Sk Tk j Ol ws hj Uk al ml cl Vk b1 o1 Id Jd Wk Xk ta tc Yk Da jr jg tl a b c' d f k a' b' Wa d' f' k' s1 s2 tn HT Ib Lc Zk Al Hm Im Jm w2 jb Nc Km Lm Nm Om p c0 Pm Qm Rm Sm Tm Um Xa Ba La Vm C3 Oc Bl Cl Pc Wm Dl El Ya Xm CM Fl Gl Hl Ym CS Il CR HG Jl Kl Ll Nl Ga Kd Na Oa
 all_goals
  have Zm:=Oc.o rfl;have Qc:H7 (((M.spT Fa bs jg ws tl&&!(jg&&tl.all (·.done)))&&M.spJ Fa Va bs Da (ws++tl.map (·.dC)) (js.drop (j+1)))=R):=by first | (show _=_;have:=HG.o;rw[show decide (Da<Va)=true by simp;omega,show decide ((0:Int)<Da)=true by simp;omega,show decide (1<=tn)=true by simp;omega,show decide (tn<=8)=true by simp;omega]at this;simpa using this) | (show _=_;have:=HG.o;rw[show decide (Da<Va)=true by simp;omega,show decide (Ol<Da)=true by simp;omega,show decide (1<=tn)=true by simp;omega,show decide (tn<=8)=true by simp;omega]at this;simpa using this)
  clear HG Oc C3 CM CS CR;generalize Ld:M.spJ Fa Va bs Da (ws++tl.map (·.dC)) (js.drop (j+1))=SN at Qc;have Rc:=Hd Ld;generalize Nd:ws++tl.map (·.dC)=WF at Rc;have Od:=Hd Nd;clear Ld Nd;have Pd:WF.length<=8*(j+1):=(by rw[<-Od.o,xS,List.length_map,Ib.o];omega);clear Kd;go_wp2
  go_loopw [4,7] (λl i wr=>∃(p:Nat) (us:List Int),p<=tn/\i=it p/\xp Fa bs jg tl R SN WF w1 jb (bO Da a b c' d f k a' b' Wa d' f' k' s1 s2 jr jg ta tn tc) p us l wr) (λ_ i _=>tn-(intOf i).toNat)
  case atStart=>exact⟨0,ws,by omega,rfl,Qc.o,Od.o,Oa.o,Nc,_,_,_,rfl,Na.o,Ga.o⟩
  case round=>
   obtain⟨p,us,hp,rfl,Jb,Sc,Qd,Rd,ai,mi,ci,rfl,Tc,Ec⟩:=hrel;clear Qc Nc Ga Na Oa;have Uc:=Hd Sc;have An:us.length<=64:=(by have:=congrArg List.length Sc;rw[xS]at this;omega);have Bn:=Tc.count;have Fc:=Hd Rd;clear Sc Rd;have Za:=Hd Ec;have Vc:=Id.b Ec;have Ra:=Hd Qd;have Kb:=Hd Tc;have Wc:=HT.o.below Ec;clear Ec Qd Tc;by_cases Xc:p<tn
   case pos=>
    obtain⟨b2,o2,rfl,Pc⟩:=Wc.at (by omega);have hA:=Pc p Xc;have Cn:(p:Int)<(tn:Int):=(by omega);have Sa:=Jb;rw[aX M.t0 Ib.o Xc]at Sa;have Gb:=Uc.o;rw[aX M.t0 Ib.o Xc]at Gb;unfold M.spT at Sa;have C4:∀W,aC W ab q cb bs->Rt 56 #[.agg (aJ Fa Va ab q cb (some ⟨b1,o1,none⟩) nj cj).toArray,nt (tl.getD p M.t0)] W (.bool (M.spK Fa bs (tl.getD p M.t0))):=λW h=>sz Fa Va _ Fd Gd W h;generalize tl.getD p M.t0=x at hA Sa Gb C4;obtain⟨td,x,y⟩:=x;dsimp only[nt]at C4;rw[List.map_cons]at Gb;dsimp only at Gb Sa;generalize M.spK Fa bs ⟨td,x,y⟩=o4 at C4 Sa;generalize Sd:(M.leased ⟨td,x,y⟩&&us.contains x)=oc at Sa;have Lb:=Hd Sd;have Ab:H7 (M.leased ⟨td,x,y⟩=(x != 0)):=(by show _=_;unfold M.leased;by_cases e:x=0 <;> simp[e]);generalize M.leased ⟨td,x,y⟩=ol at Sa Lb Ab;have Pa:H7 (_=R):=Sa;have Td:=Hd Gb;clear Jb Sa Sd Gb Pc Wc;have Gc:=Ra.c 17;have a0:wr.cell? ⟨b2,o2+p*3,none⟩=some (.bool td):=hA 0 (by omega);have a1:wr.cell? ⟨b2,o2+p*3+1,none⟩=some (it x):=hA 1 (by omega);have a2:wr.cell? ⟨b2,o2+p*3+2,none⟩=some (it y):=hA 2 (by omega);clear hA;have Nb:=gW wr (.cells (fp td x y).toArray 75);have Bb:=Za.t Nb;have Ob:=Vc.b Nb;have Ud:=Ra.b Nb;have Hc:=Hd (Kb.o.below Nb);clear Za Vc Ra Kb;clear Nb;have Yc:=cQ wr (fp td x y) 75;have m0:=Ob.c 0;have I:=Ob.c 1;have J:=Ob.c 2;have Q:=Ob.c 3;(go_wp2_with fail);clear Gc a0 a1 a2 m0 I J Q;generalize(wr.alloc (.cells (fp td x y).toArray 75))=w5 at *;generalize wr.heap.size=tb at Yc |-;refine(C4 _ (Jd.o.b.below Bb.o)).mono ?_;rintro e w6 ⟨rfl,hb⟩;have Ga:=Bb.t hb;have Oa:=Ud.b hb;have Na:=Hd (Hc.o.below hb);have Pb:=Yc.b hb;clear Bb Ob Ud Hc Yc;clear hb;clear C4
    cases o4 with
    | false=>
     have HF:H7 (false=R):=(by show _=_;have:=Pa.o;simpa using this);clear Pa;go_wp2;go_ret;exact⟨aB HF.o,(Qa.o.trans (Ga.o.mono Qa.o.size))⟩
    | true=>
     cases jg with
     | false=>
      have Hb:=Oa.c 16;go_wp2;clear Hb;have Cb:=Na.o.sees;have Pl:(mi:Int)<=9223372036854775807:=(by omega);have Ql:(mi:Int)<=ci:=(by have:=Cb.le;omega);have Qb:=Cb.len;clear Cb
      go_loopw [9] (λi wr=>∃n:Nat,n<=mi/\i=it n/\((x != 0)&&(us.drop n).contains x)=oc/\m1 w6 wr) (λi _=>mi-(intOf i).toNat)
      case atStart=>exact⟨0,by omega,rfl,by rw[<-Ab.o];exact Lb.o,m8 _ _⟩
      case round=>
       obtain⟨n,hn,rfl,Aa,Ea⟩:=hrel;have Ha:=Ga.t Ea;have Ta:=Oa.b Ea;have Ia:=Hd (Na.o.below Ea);have Ja:=Pb.b Ea;clear Ga Oa Na Pb;have Db:=Hd Ea;clear Ea;have Eb:=Ia.o.sees;by_cases Rb:n<mi
       case pos=>
        obtain⟨b3,o3,rfl,Sb⟩:=Eb.at (by omega);have c3:=Sb n Rb;have Rl:(n:Int)<(mi:Int):=(by omega);rw[aX 0 Qb Rb,List.contains_cons]at Aa;generalize us.getD n 0=z at c3 Aa;clear Sb Eb;(go_wp2_with fail);by_cases Ka:x=0
        ·
         have Tb:(x != 0)=false:=(by simp[Ka]);have Ub:H7 (((x != 0)&&(us.drop (n+1)).contains x)=oc):=(by show _=_;rw[Tb]at Aa |-;exact Aa);have Ya:=Hd Ka;clear Aa Ka;refine cP wr none (by kernel_rfl) λBa=>?_;generalize wr.drew=Xa at *;have La:H7 (m1 wr Xa):=⟨Ba.os,Ba.tape,Ba.output,Ba.size,λk hk=>Ba.block k hk (by simp)⟩;refine tE 0 (.pointer (some ⟨tb,1,none⟩)) ?_;refine tk 1 (it x) ?_ ?_
         .intro wp Ua;have c0:=(Ja.o.grown Ua (by simp)).c 1;go_simp
         refine tk 2 (.bool false) ?_ ?_
         .intro wq Ca;go_simp;first | done | exact Ya.o
         refine tE 3 (.bool false) ?_;refine sk 4 ?_;refine sk 5 ?_;refine sk 6 ?_;refine sk 7 ?_;refine sk 8 ?_;refine sk 9 ?_;refine sk 10 ?_;refine tE 11 (.bool false) ?_;refine bi ?_;go_simp;clear Ha Ta Ia Ja;have Vb:=Hd (Db.o.trans (La.o.mono Db.o.size));go_wp2;go_roundw
         case rel=>exact⟨n+1,by omega,by go_num,Ub.o,Vb.o⟩
         case measure=>simp[intOf];omega
        have Tb:(x != 0)=true:=(by simp[Ka]);have Ya:=Hd Ka;clear Ka;refine cP wr none (by kernel_rfl) λBa=>?_;generalize wr.drew=Xa at *;have La:H7 (m1 wr Xa):=⟨Ba.os,Ba.tape,Ba.output,Ba.size,λk hk=>Ba.block k hk (by simp)⟩;refine tE 0 (.pointer (some ⟨tb,1,none⟩)) ?_;refine tk 1 (it x) ?_ ?_
        .intro wp Ua;have c0:=(Ja.o.grown Ua (by simp)).c 1;go_simp
        refine tk 2 (.bool true) ?_ ?_
        .intro wq Ca;go_simp;first | done | exact Ya.o
        refine tE 3 (.bool true) ?_;refine tE 4 (.slice (some ⟨b3,o3,none⟩) mi ci) ?_;refine tE 5 (it (n:Nat)) ?_;refine tE 6 (.pointer (some ⟨b3,o3+n,none⟩)) ?_;refine tk 7 (it z) ?_ ?_
        .intro wp Ua;have c0:wp.cell? ⟨b3,o3+n,none⟩=some (it z):=Ua.cell c3 (by simp);go_simp
        refine tE 8 (.pointer (some ⟨tb,1,none⟩)) ?_;refine tk 9 (it x) ?_ ?_
        .intro wp Ua;have c0:=(Ja.o.grown Ua (by simp)).c 1;go_simp
        by_cases hz:z=x
        ·
         have gz:(z==x)=true:=(by simp[hz]);have Zc:(x==z)=true:=(by simp[hz]);have HF:H7 (false=R):=(by show _=_;have h1:=Pa.o;rw[Tb,Zc]at Aa;rw[<-Aa]at h1;simpa using h1);have HZ:=Hd hz;clear Pa Aa hz;refine tk 10 (.bool true) ?_ ?_
         .intro wq Ca;go_simp;first | done | exact HZ.o
         refine tE 11 (.bool true) ?_;refine bi ?_;go_simp;have Sl:=Hd (Ha.o.trans (La.o.mono Ha.o.size));clear Ha Ta Ia Ja;go_wp2;go_ret;exact⟨aB HF.o,(Qa.o.trans (Sl.o.mono Qa.o.size))⟩
        ·
         have gz:(z==x)=false:=(by simp[hz]);have Zc:(x==z)=false:=(by simp;exact λe=>hz e.symm);have Ub:H7 (((x != 0)&&(us.drop (n+1)).contains x)=oc):=(by show _=_;rw[Zc,Bool.false_or]at Aa;exact Aa);have HZ:=Hd hz;clear Aa hz;refine tk 10 (.bool false) ?_ ?_
         .intro wq Ca;go_simp;first | done | exact HZ.o
         refine tE 11 (.bool false) ?_;refine bi ?_;go_simp;clear Ha Ta Ia Ja;have Vb:=Hd (Db.o.trans (La.o.mono Db.o.size));go_wp2;go_roundw
         case rel=>exact⟨n+1,by omega,by go_num,Ub.o,Vb.o⟩
         case measure=>simp[intOf];omega
       rw[t' (by rw[Qb];omega)]at Aa;have Ad:oc=false:=(by rw[<-Aa];simp);have Bd:H7 (((M.spT Fa bs false (us++[x]) (tl.drop (p+1))&&!(false&&tl.all (·.done)))&&SN)=R):=(by show _=_;have h1:=Pa.o;rw[Ad]at h1;simpa using h1);clear Pa Aa Lb Ab Eb;have Cd:H7 ((us++[x])++(tl.drop (p+1)).map (·.dC)=WF):=(by show _=_;rw[List.append_assoc];exact Td.o);obtain⟨i0,hi,Wb,Xb,Yb⟩:=HI.o;have Zb:=Ha.o.size;have Dd:=Ta.o.2.2;have t1:=Ja.c 1;(go_wp2_with(at_builtin;refine wpList_append_own_at _ rfl _ _ 24 rfl w1.heap.size 2 i0 (it 0) 1 8 underlying24 hi Wb Xb Yb rfl (by decide) _ mi (us.map (Value.int .i64)) rfl (xY Ia.o _) ⟨wr.heap.size,0,none⟩ 1 1 [it x] rfl rfl (br wr x _) (bL x) (by unfold maxLen;omega) (by omega) (by simp;omega) ?_));intro v' w7 Ac Fb _ Bc;have hown':w7.ownsRow w1.heap.size 2 1 v' (mi+1) ((us++[x]).map (Value.int .i64)):=(by rw[xU];exact Ac);have HN':=Hd (kW (w:=wr.alloc (.cells #[it x] 2)) (by simpa using Bc) (by simp;omega) Fc.o);obtain⟨a9,Cc,rfl,Dc⟩:=aA.form hown';have HO':=Hd Dc;have HB':=Hd (fH Ha.o ((xC wr _ _).trans Fb) Zb (λz hz=>(xz Ia.o z hz).1));have HJ':H7 (aw w7 jb (bO Da a b c' d f k a' b' Wa d' f' k' s1 s2 jr false (some ⟨b2,o2,none⟩) tn tc)):=Ta.o.grown ((xC wr _ _).trans Fb) Fc.o;clear Ac hown' Fb Bc Dc hi Wb Xb Yb Zb Dd;go_wp2;go_roundw
       case rel=>exact⟨p+1,us++[x],by omega,by go_num,Bd.o,Cd.o,HJ'.o,HN'.o,a9,mi+1,Cc,rfl,HO'.o,HB'.o⟩
       case measure=>simp[intOf];omega
     | true=>
      have Hb:=Oa.c 16;have Tl:=Pb.c 1;by_cases Ic:x=0
      ·
       have gx:(x != 0)=false:=(by simp[Ic]);go_wp2;clear Hb Tl;have La:=Hd Ic;clear Ic;have Cb:=Na.o.sees;have Pl:(mi:Int)<=9223372036854775807:=(by omega);have Ql:(mi:Int)<=ci:=(by have:=Cb.le;omega);have Qb:=Cb.len;clear Cb
       go_loopw [9] (λi wr=>∃n:Nat,n<=mi/\i=it n/\((x != 0)&&(us.drop n).contains x)=oc/\m1 w6 wr) (λi _=>mi-(intOf i).toNat)
       case atStart=>exact⟨0,by omega,rfl,by rw[<-Ab.o];exact Lb.o,m8 _ _⟩
       case round=>
        obtain⟨n,hn,rfl,Aa,Ea⟩:=hrel;have Ha:=Ga.t Ea;have Ta:=Oa.b Ea;have Ia:=Hd (Na.o.below Ea);have Ja:=Pb.b Ea;clear Ga Oa Na Pb;have Db:=Hd Ea;clear Ea;have Eb:=Ia.o.sees;by_cases Rb:n<mi
        case pos=>
         obtain⟨b3,o3,rfl,Sb⟩:=Eb.at (by omega);have c3:=Sb n Rb;have Rl:(n:Int)<(mi:Int):=(by omega);rw[aX 0 Qb Rb,List.contains_cons]at Aa;generalize us.getD n 0=z at c3 Aa;clear Sb Eb;(go_wp2_with fail);by_cases Ka:x=0
         ·
          have Tb:(x != 0)=false:=(by simp[Ka]);have Ub:H7 (((x != 0)&&(us.drop (n+1)).contains x)=oc):=(by show _=_;rw[Tb]at Aa |-;exact Aa);have Ya:=Hd Ka;clear Aa Ka;refine cP wr none (by kernel_rfl) λBa=>?_;generalize wr.drew=Xa at *;have La:H7 (m1 wr Xa):=⟨Ba.os,Ba.tape,Ba.output,Ba.size,λk hk=>Ba.block k hk (by simp)⟩;refine tE 0 (.pointer (some ⟨tb,1,none⟩)) ?_;refine tk 1 (it x) ?_ ?_
          .intro wp Ua;have c0:=(Ja.o.grown Ua (by simp)).c 1;go_simp
          refine tk 2 (.bool false) ?_ ?_
          .intro wq Ca;go_simp;first | done | exact Ya.o
          refine tE 3 (.bool false) ?_;refine sk 4 ?_;refine sk 5 ?_;refine sk 6 ?_;refine sk 7 ?_;refine sk 8 ?_;refine sk 9 ?_;refine sk 10 ?_;refine tE 11 (.bool false) ?_;refine bi ?_;go_simp;clear Ha Ta Ia Ja;have Vb:=Hd (Db.o.trans (La.o.mono Db.o.size));go_wp2;go_roundw
          case rel=>exact⟨n+1,by omega,by go_num,Ub.o,Vb.o⟩
          case measure=>simp[intOf];omega
         exact absurd La.o Ka
        rw[t' (by rw[Qb];omega)]at Aa;have Ad:oc=false:=(by rw[<-Aa];simp);have Bd:H7 (((M.spT Fa bs true (us++[x]) (tl.drop (p+1))&&!(true&&tl.all (·.done)))&&SN)=R):=(by show _=_;have h1:=Pa.o;rw[Ad,Ab.o,gx]at h1;simpa using h1);clear Pa Aa Lb Ab Eb;have Cd:H7 ((us++[x])++(tl.drop (p+1)).map (·.dC)=WF):=(by show _=_;rw[List.append_assoc];exact Td.o);obtain⟨i0,hi,Wb,Xb,Yb⟩:=HI.o;have Zb:=Ha.o.size;have Dd:=Ta.o.2.2;have t1:=Ja.c 1;(go_wp2_with(at_builtin;refine wpList_append_own_at _ rfl _ _ 24 rfl w1.heap.size 2 i0 (it 0) 1 8 underlying24 hi Wb Xb Yb rfl (by decide) _ mi (us.map (Value.int .i64)) rfl (xY Ia.o _) ⟨wr.heap.size,0,none⟩ 1 1 [it x] rfl rfl (br wr x _) (bL x) (by unfold maxLen;omega) (by omega) (by simp;omega) ?_));intro v' w7 Ac Fb _ Bc;have hown':w7.ownsRow w1.heap.size 2 1 v' (mi+1) ((us++[x]).map (Value.int .i64)):=(by rw[xU];exact Ac);have HN':=Hd (kW (w:=wr.alloc (.cells #[it x] 2)) (by simpa using Bc) (by simp;omega) Fc.o);obtain⟨a9,Cc,rfl,Dc⟩:=aA.form hown';have HO':=Hd Dc;have HB':=Hd (fH Ha.o ((xC wr _ _).trans Fb) Zb (λz hz=>(xz Ia.o z hz).1));have HJ':H7 (aw w7 jb [it Da,it a,it b,it c',it d,it f,it k,it a',it b',it Wa,it d',it f',it k',it s1,it s2,it jr,.bool true,.slice (some ⟨b2,o2,none⟩) tn tc]):=Ta.o.grown ((xC wr _ _).trans Fb) Fc.o;clear Ac hown' Fb Bc Dc hi Wb Xb Yb Zb Dd;go_wp2;go_roundw
        case rel=>exact⟨p+1,us++[x],by omega,by go_num,Bd.o,Cd.o,HJ'.o,HN'.o,a9,mi+1,Cc,rfl,HO'.o,HB'.o⟩
        case measure=>simp[intOf];omega
      ·
       have gx:(x != 0)=true:=(by simp[Ic]);have HF:H7 (false=R):=(by show _=_;have:=Pa.o;rw[Ab.o,gx]at this;simpa using this);clear Pa;go_wp2;go_ret;exact⟨aB HF.o,(Qa.o.trans (Ga.o.mono Qa.o.size))⟩
   have Ul:tn=p:=(by omega);subst Ul;have e0:=t' (Nat.le_of_eq Ib.o);have Jc:H7 (us=WF):=(by show _=_;have:=Uc.o;rw[e0]at this;simpa using this);rw[e0]at Jb;have Kc:H7 ((!(jg&&tl.all (·.done))&&SN)=R):=(by show _=_;have:=Jb;unfold M.spT at this;simpa using this);clear Jb e0 Uc;have Dn:(j:Int)+1<=9223372036854775807:=by omega
   cases jg with
   | false=>
    have Hb:=Ra.c 16;have Gc:=Ra.c 17;have Ed:H7 (SN=R):=(by show _=_;have:=Kc.o;simpa using this);go_wp2;go_roundw
    case rel=>exact⟨j+1,Da,us,by omega,by go_num,(λh=>by omega),Lc.o,by rw[Jc.o];exact Rc.o.trans Ed.o,by rw[Jc.o];exact Pd,ai,mi,ci,rfl,Kb.o,Za.o⟩
    case measure=>simp[intOf];omega
   | true=>
    have C7:∀W,bS W ta tn tc tl->Rt 26 #[.agg #[it Da,it a,it b,it c',it d,it f,it k,it a',it b',it Wa,it d',it f',it k',it s1,it s2,it jr,.bool true,.slice ta tn tc]] W (.bool (tl.all (·.done))):=λW h=>jT Da a b c' d f k a' b' Wa d' f' k' s1 s2 jr true W h;generalize tl.all (·.done)=o7 at C7 Kc;have Gc:=Ra.c 17;(go_wp2_with(with_reducible refine au 183 ?_ ?_;rfl));show wpList _ _ _ _ _ _;clear Gc;have Hb:=Ra.c 16;with_reducible refine cu ?qg (.bool true) wr ?qrun ?_
    case qg=>exact rfl
    case qrun=>go_simp
    show wpList _ _ _ _ _ _;with_reducible refine cu ?qg (.bool true) wr ?qrun ?_
    case qg | qrun=>exact rfl
    show wpList _ _ _ _ _ _;have iL:(prog.info? 70).map (·.size)=some ([it Da,it a,it b,it c',it d,it f,it k,it a',it b',it Wa,it d',it f',it k',it s1,it s2,it jr,.bool true,.slice ta tn tc]:List Value).length:=(show(prog.info? 70).map (·.size)=some 18 by kernel_rfl);with_reducible refine bJ ?qw 70 ?qlw ?qo jb 0 ?qhx [it Da,it a,it b,it c',it d,it f,it k,it a',it b',it Wa,it d',it f',it k',it s1,it s2,it jr,.bool true,.slice ta tn tc] _ Ra.o.row underlying70 ?qd iL ?_
    case qw=>kernel_rfl
    case qo=>exact rfl
    case qhx=>kernel_rfl
    case qd=>exact rfl
    clear iL;show wpList _ _ _ _ _ _;clear Hb;(go_wp2_with fail);refine(C7 _ Wc).mono ?_;rintro e w8 ⟨rfl,hb⟩;have Bb:=Za.t hb;have Hc:=Hd (Kb.o.below hb);clear Za Vc Ra Kb;clear hb
    cases o7 with
    | true=>
     have HF:H7 (false=R):=(by show _=_;have:=Kc.o;simpa using this);go_wp2;go_ret;exact⟨aB HF.o,(Qa.o.trans (Bb.o.mono Qa.o.size))⟩
    | false=>
     have Ed:H7 (SN=R):=(by show _=_;have:=Kc.o;simpa using this);go_wp2;go_roundw
     case rel=>exact⟨j+1,Da,us,by omega,by go_num,(λh=>by omega),Lc.o,by rw[Jc.o];exact Rc.o.trans Ed.o,by rw[Jc.o];exact Pd,ai,mi,ci,rfl,Hc.o,Bb.o⟩
     case measure=>simp[intOf];omega
theorem jZ(now sr:Int)(w:World)(hz:co w ab nb cb aj nj cj bs js):
  Rt 21 #[.agg #[it now,it sr,.slice ab nb cb,.slice aj nj cj]] w (.bool (M.mkOk now sr bs js)):=
 wM.h ⟨wN⟩ ⟨wO.h ⟨(vF.h ⟨oe.1⟩ ⟨oe.2⟩).1⟩ ⟨(vF.h ⟨oe.1⟩ ⟨oe.2⟩).2⟩⟩ ab aj nb cb nj cj bs js now sr w hz
theorem gD{cap:Nat}:∀(us:List Value) {w:World} {xs:List Value} (o:Nat),w.ownsRow dA e size (.slice (some ⟨g,0,none⟩) n cap) n xs->o+us.length<=xs.length->(w.setCells g o us).ownsRow dA e size (.slice (some ⟨g,0,none⟩) n cap) n (mh xs o us)/\w.grownBy (w.setCells g o us) (some g)
 | [],w,xs,o,h,_=>by
  have e:mh xs o []=xs:=(by unfold mh;rw[List.nil_append,List.length_nil,Nat.add_zero,List.take_append_drop]);rw[e];exact⟨h,World.grownBy.refl _ _⟩
 | u::us,w,xs,o,h,hl=>by
  have hl':o+(us.length+1)<=xs.length:=hl;obtain⟨h1,h2⟩:=h.stored o u;obtain⟨h3,h4⟩:=gD us (o+1) h1 (by rw[List.length_set];omega);rw[qF (by omega)]at h3;exact⟨h3,h2.trans h4⟩
theorem bw.block(h:bw w dA a n c ts)(h0:0<n):∃g,a=some ⟨g,0,none⟩:=by
 rcases h.2.2 with⟨_,e⟩ | ⟨g,cap,cur,e,_⟩
 .omega
 .simp only[Value.slice.injEq]at e;exact⟨g,e.1⟩
theorem bw.put(h:bw w dA (some ⟨g,0,none⟩) n c ts)(hk:k<n)(t:M.Tk):bw (w.setCells g (k*3) (eK t)) dA (some ⟨g,0,none⟩) n c (ts.set k t)/\w.grownBy (w.setCells g (k*3) (eK t)) (some g):=by
 have hl:=h.1;have hx:k*3+(eK t).length<=(ts.flatMap eK).length:=(by rw[eB ew,ew];omega);obtain⟨h1,h2⟩:=gD (eK t) (k*3) h.2 hx;rw[pT ew ts t (by omega)]at h1;exact⟨⟨by rw[List.length_set];exact hl,h1⟩,h2⟩
theorem bw.there(h:bw w dA (some ⟨g,0,none⟩) n c ts)(hk:k<n):w.there g (k*3) 3:=λj hj=>by
 have hl:=h.1;refine⟨?_,h.2.frozenAt _⟩;rw[h.2.cellAt _ (by omega),m9 (by rw[eB ew];omega)]
 rfl
theorem bw.cells(h:bw w dA (some ⟨g,0,none⟩) n c ts){j:Nat}(hk:k<n)(hj:j<3):w.cell? ⟨g,k*3+j,none⟩=(eK (ts.getD k M.t0))[j]?:=by
 have hl:=h.1;rw[h.2.cellAt _ (by omega),fS ew M.t0 ts (by omega) hj]
abbrev MQ:=M.Jb×Option Addr×Nat
def q0:MQ:=(M.j0,none,0)
def b7(ab aj:Option Addr)(qs:List MQ):List Nat:=ob ab++(ob aj++qs.flatMap λq=>ob q.2.1)
structure aW(w:World)(dA:Nat)(ab:Option Addr)(nb cb:Nat)(bs:List Int)(aj:Option Addr)(nj cj:Nat)(qs:List MQ):Prop where
 b:aA 2 w dA ab nb cb bs
 jl:qs.length=nj
 j:w.ownsRow dA 70 18 (.slice aj nj cj) nj (qs.flatMap jy)
 t:∀q∈qs,bw w dA q.2.1 q.1.ts.length q.2.2 q.1.ts
 d:(b7 ab aj qs).Nodup
theorem jF(h:w.ownsRow dA e size (.slice a n c) n xs)(hg:w.grownBy w' row)(hr:∀g∈ob a,row≠some g):w'.ownsRow dA e size (.slice a n c) n xs:=by
 refine h.kept hg ?_
 cases e:(Value.slice a n c).ownBlock with
 | none=>exact .inl rfl
 | some g=>exact .inr (λe2=>hr g (bA e) e2.symm)
theorem cU{qs:List MQ}:(b7 ab aj qs).Nodup↔(∀g∈ob ab,g∉ob aj/\g∉qs.flatMap λq=>ob q.2.1)/\(∀g∈ob aj,g∉qs.flatMap λq=>ob q.2.1)/\(qs.flatMap λq=>ob q.2.1).Nodup:=by
 have h1:∀a:Option Addr,(ob a).Nodup:=λa=>by cases a <;> simp[ob]
 unfold b7;rw[List.nodup_append,List.nodup_append]
 constructor
 ·
  rintro⟨_,⟨_,c1,c2⟩,c3⟩;exact⟨λg hg=>⟨λe=>c3 g hg g (xw.2 (.inl e)) rfl,λe=>c3 g hg g (xw.2 (.inr e)) rfl⟩,λg hg e=>c2 g hg g e rfl,c1⟩
 ·
  rintro⟨c3,c2,c1⟩;exact⟨h1 _,⟨h1 _,c1,λg hg g' hg' e=>c2 g hg (e ▸ hg')⟩,λg hg g' hg' e=>(xw.1 hg').elim (λx=>(c3 g hg).1 (e ▸ x)) (λx=>(c3 g hg).2 (e ▸ x))⟩
section
variable {w w':World} {dA:Nat} {ab:Option Addr} {nb cb:Nat} {bs:List Int} {aj:Option Addr} {nj cj:Nat} {qs:List MQ}
theorem aW.grown(H:aW w dA ab nb cb bs aj nj cj qs)(hg:w.grownBy w' row)(hr:∀g∈b7 ab aj qs,row≠some g):aW w' dA ab nb cb bs aj nj cj qs:=
 ⟨H.b.grown hg λg hg=>hr g (by simp[b7,hg]),H.jl,jF H.j hg λg hg=>hr g (by simp[b7,hg]),λq hq=>(H.t q hq).grown hg λg hg=>hr g (by unfold b7;simp only[xw];exact .inr (.inr (xI.2 ⟨q,hq,hg⟩))),H.d⟩
theorem aW.below(H:aW w dA ab nb cb bs aj nj cj qs)(hb:m1 w w'):aW w' dA ab nb cb bs aj nj cj qs:=H.grown (bB hb none) (λ_ _=>by simp)
theorem aW.lt(H:aW w dA ab nb cb bs aj nj cj qs):∀g∈b7 ab aj qs,dA<=g/\g<w.heap.size:=by
 intro g hg;unfold b7 at hg;simp only[xw]at hg
 rcases hg with hg | hg | hg
 .exact xz H.b g (cz hg)
 .exact xz H.j g (cz hg)
 ·
  obtain⟨q,hq,hg⟩:=xI.1 hg;exact(H.t q hq).lt g hg
theorem dU(qs:List MQ)(i:Nat):(qs.map (·.1)).getD i M.j0=(qs.getD i q0).1:=by
 rw[m5,m5,List.getElem?_map]
 cases qs[i]? <;> rfl
theorem aW.sees(H:aW w dA ab nb cb bs aj nj cj qs):co w ab nb cb aj nj cj bs (qs.map (·.1)):=by
 refine⟨H.b.sees,?_⟩;have hx:=H.j;have hl:=H.jl
 rcases hx.2 with⟨e,h0⟩ | ⟨g,cap,cur,e,hb,hh,hn,hm,hs,ht⟩
 ·
  simp only[Value.slice.injEq]at e;obtain⟨rfl,rfl,rfl⟩:=e;exact⟨by simpa using hl,m3 _,by decide,λ_=>⟨rfl,rfl⟩,.inl rfl⟩
 ·
  simp only[Value.slice.injEq,true_and]at e;obtain⟨rfl,rfl⟩:=e;refine⟨by simpa using hl,hn,by unfold maxLen at hm;omega,λe=>by simp at e,?_⟩;refine .inr ⟨g,0,rfl,λi hi=>⟨(qs.getD i q0).2.1,(qs.getD i q0).2.2,λj hj=>?_,?_⟩⟩
  ·
   rw[Nat.zero_add,World.ownsRow.cellAt hx (i*18+j) (by omega),fS iw q0 qs (by omega) hj,dU]
   rfl
  ·
   rw[dU];have Aa:qs.getD i q0∈qs:=(by rw[m5,m9 (by omega)];simp);exact(H.t _ Aa).sees
theorem dJ{α β:Type}(f:α->List β)(d:α):∀(qs:List α) (i:Nat) (q:α),f q=f (qs.getD i d)->i<qs.length->(qs.set i q).flatMap f=qs.flatMap f
 | [],_,_,_,h=>by simp at h
 | x::l,0,q,h,_=>by
  have h':f q=f x:=h;rw[List.set_cons_zero,xV,xV,h']
 | x::l,i+1,q,h,hi=>by
  rw[List.set_cons_succ,xV,xV,dJ f d l i q h (by simpa using hi)]
theorem eu{α:Type}{d:α}:∀{qs:List α} {i:Nat} {q x:α},x∈qs.set i q->x=q\/∃k,k≠i/\k<qs.length/\x=qs.getD k d
 | [],_,_,_,h=>by simp at h
 | y::l,0,q,x,h=>by
  rw[List.set_cons_zero,List.mem_cons]at h
  rcases h with h | h
  .exact .inl h
  ·
   obtain⟨k,hk,e⟩:=List.mem_iff_getElem.1 h;exact .inr ⟨k+1,by omega,by simpa using hk,by rw[<-e];simp[m5,hk]⟩
 | y::l,i+1,q,x,h=>by
  rw[List.set_cons_succ,List.mem_cons]at h
  rcases h with h | h
  .exact .inr ⟨0,by omega,by simp,h⟩
  ·
   rcases eu (d:=d) h with h | ⟨k,h1,h2,h3⟩
   .exact .inl h
   .exact .inr ⟨k+1,by omega,by simpa using h2,h3⟩
theorem i2{α:Type}{f:α->List Nat}{d:α}:∀{qs:List α},(qs.flatMap f).Nodup->∀{i k:Nat},i<qs.length->k<qs.length->k≠i->∀g∈f (qs.getD i d),g∉f (qs.getD k d)
 | [],_,_,_,h,_,_=>by simp at h
 | x::l,hn,i,k,hi,hk,hne=>by
  rw[xV,List.nodup_append]at hn;have mem:∀{j:Nat} {g:Nat},j<l.length->g∈f (l.getD j d)->g∈l.flatMap f:=λ{j g} hj hg=>xI.2 ⟨l.getD j d,by rw[m5,m9 hj];simp,hg⟩
  match i,k with
  | 0,0=>exact absurd rfl hne
  | 0,k+1=>exact λg hg hg'=>hn.2.2 g hg g (mem (by simpa using hk) hg') rfl
  | i+1,0=>exact λg hg hg'=>hn.2.2 g hg' g (mem (by simpa using hi) hg) rfl
  | i+1,k+1=>exact i2 (d:=d) hn.2.1 (by simpa using hi) (by simpa using hk) (by omega)
theorem aW.task(H:aW w dA ab nb cb bs aj nj cj qs){i:Nat}(hi:i<nj)(hg:(qs.getD i q0).2.1=some ⟨g,0,none⟩)(hk:k<(qs.getD i q0).1.ts.length)(t:M.Tk):
  aW (w.setCells g (k*3) (eK t)) dA ab nb cb bs aj nj cj (qs.set i ({(qs.getD i q0).1 with ts:=(qs.getD i q0).1.ts.set k t},(qs.getD i q0).2))/\w.grownBy (w.setCells g (k*3) (eK t)) (some g):=by
 have hl:=H.jl;have Aa:qs.getD i q0∈qs:=(by rw[m5,m9 (by omega)];simp);have hT:=H.t _ Aa;rw[hg]at hT;obtain⟨h1,h2⟩:=hT.put hk t;obtain⟨c3,c2,c1⟩:=cU.1 H.d;have Ba:g∈ob (qs.getD i q0).2.1:=(by rw[hg];simp[ob]);have Ca:g∈qs.flatMap λq=>ob q.2.1:=xI.2 ⟨_,Aa,Ba⟩;refine⟨⟨H.b.grown h2 λx hx e=>(c3 x hx).2 (m2 e ▸ Ca),by rw[List.length_set];exact hl,?_,?_,?_⟩,h2⟩
 ·
  rw[dJ jy q0 qs i _ (by simp[jy,fk]) (by omega)];exact jF H.j h2 λx hx e=>c2 x hx (m2 e ▸ Ca)
 ·
  intro q hq
  rcases eu (d:=q0) hq with rfl | ⟨k',h3,h4,rfl⟩
  ·
   dsimp only;rw[hg,List.length_set];exact h1
  ·
   have Da:qs.getD k' q0∈qs:=(by rw[m5,m9 h4];simp);exact(H.t _ Da).grown h2 λx hx e=>i2 (f:=λq:MQ=>ob q.2.1) (d:=q0) c1 (by omega) h4 h3 g Ba (m2 e ▸ hx)
 ·
  unfold b7;have e:=dJ (λq:MQ=>ob q.2.1) q0 qs i ({(qs.getD i q0).1 with ts:=(qs.getD i q0).1.ts.set k t},(qs.getD i q0).2) rfl (by omega);rw[e];exact H.d
end
theorem cO{a:World}{b:Nat}(h:a.grownBy w row)(hg:w.grownBy w' (some b))(hb:a.heap.size<=b):a.grownBy w' row:=
 ⟨hg.os.trans h.os,hg.tape.trans h.tape,hg.output.trans h.output,tr h.size hg.size,λi hi hr=>(hg.block i (xD hi h.size) (λe=>by have:=m2 e;omega)).trans (h.block i hi hr)⟩
theorem aW.push{w7:World}{qs:List MQ}(H:aW w dA ab nb cb bs aj nj cj qs)(q:MQ)
 (hT:bw w dA q.2.1 q.1.ts.length q.2.2 q.1.ts)(hqa:∀g∈ob q.2.1,g∉b7 ab aj qs){aj':Option Addr}{cj' z:Nat}(g7:w.grownBy w7 (Value.slice aj nj cj).ownBlock)(o7:w7.ownsRow dA 70 18 (.slice aj' (nj+1) cj') (nj+1) (qs.flatMap jy++jy q))(hz:w.heap.size<=z)
 (a7:(Value.slice aj' (nj+1) cj').ownBlock=(Value.slice aj nj cj).ownBlock\/(Value.slice aj' (nj+1) cj').ownBlock=some z):
  aW w7 dA ab nb cb bs aj' (nj+1) cj' (qs++[q])/\∀g,g<w.heap.size->g∉b7 ab aj qs->g∉ob q.2.1->g∉b7 ab aj' (qs++[q]):=by
 obtain⟨c3,c2,c1⟩:=cU.1 H.d;have Ba:=H.lt;have sj:∀{g},g∈(qs.flatMap λq=>ob q.2.1)->g∈b7 ab aj qs:=λ{g} hg=>by unfold b7;simp only[xw];exact .inr (.inr hg)
 have sb:∀{g},g∈ob ab->g∈b7 ab aj qs:=λ{g} hg=>by simp[b7,hg]
 have si:∀{g},g∈ob aj->g∈b7 ab aj qs:=λ{g} hg=>by simp[b7,hg]
 have ha:∀{g},g∈ob aj'->g∈ob aj\/w.heap.size<=g:=λ{g} hg=>by
  have e:=cz (n:=nj+1) (c:=cj') hg
  rcases a7 with e2 | e2
  .exact .inl (bA (e2.symm.trans e))
  .rw[e2]at e;injection e with e;exact .inr (by omega)
 have n7:∀{g},g∉ob aj->(Value.slice aj nj cj).ownBlock≠some g:=λhn e=>hn (bA e);have Da:=λg hg=>(hT.lt g hg).2;have fm:∀{g},g∈((qs++[q]).flatMap λq=>ob q.2.1)↔g∈(qs.flatMap λq=>ob q.2.1)\/g∈ob q.2.1:=λ{g}=>by simp[List.flatMap_append]
 have Aa:∀{g},g<w.heap.size->g∉ob aj->g∉ob aj':=λ{g} hg hn hi=>(ha hi).elim hn (λh1=>by omega);refine⟨⟨H.b.grown g7 λg hg=>n7 (c3 g hg).1,by rw[xS,H.jl];rfl,?_,?_,?_⟩,?_⟩
 .rw[List.flatMap_append,xV,List.flatMap_nil,List.append_nil];exact o7
 ·
  intro x hx
  rcases xw.1 hx with hx | hx
  .exact(H.t x hx).grown g7 λg hg=>n7 λe=>c2 g e (xI.2 ⟨x,hx,hg⟩)
  ·
   simp only[List.mem_singleton]at hx;subst hx;exact hT.grown g7 λg hg=>n7 λe=>hqa g hg (si e)
 ·
  refine cU.2 ⟨λg hg=>⟨Aa (Ba g (sb hg)).2 (c3 g hg).1,λe=>?_⟩,λg hg e=>?_,?_⟩
  ·
   rcases fm.1 e with e | e
   .exact(c3 g hg).2 e
   .exact hqa g e (sb hg)
  ·
   rcases fm.1 e with e | e
   .exact Aa (Ba g (sj e)).2 (λh1=>c2 g h1 e) hg
   .exact Aa (Da g e) (λh1=>hqa g e (si h1)) hg
  ·
   rw[List.flatMap_append,List.nodup_append];refine⟨c1,?_,?_⟩
   ·
    have h1:(ob q.2.1).Nodup:=(by cases q.2.1 <;> simp[ob]);simpa using h1
   ·
    intro g hg g' Ca e;subst e;simp only[xV,List.flatMap_nil,List.append_nil]at Ca;exact hqa g Ca (sj hg)
 ·
  intro g hg hn hq hm;unfold b7 at hm;simp only[xw]at hm
  rcases hm with e | e | e
  .exact hn (sb e)
  .exact Aa hg (λh1=>hn (si h1)) e
  ·
   rcases fm.1 e with e | e
   .exact hn (sj e)
   .exact hq e
theorem fV:(prog.info? 70).map (λi=>(i.zero,i.size,i.bytes))=some (some (.agg #[it 0,it 0,it 0,it 0,it 0,it 0,it 0,it 0,it 0,it 0,it 0,it 0,it 0,it 0,it 0,it 0,.bool false,.slice none 0 0]),18,160):=by kernel_rfl
theorem ix{W:World}{b:Nat}{vs:List Value}(h:aw W b vs):∀j u,vs[j]?=some u->W.cell? ((⟨b,0,none⟩:Addr).add j)=some u:=by
 intro j u hj;have h1:=h.at j;rw[hj]at h1;unfold Addr.add
 split
 .rename_i e;subst e;exact h1
 .rw[Nat.zero_add];exact h1
theorem nY(j:M.Jb)(a:Option Addr)(c:Nat):∀u∈fk j a c,u.oneCell'=true:=by
 intro u hu;simp only[fk,List.mem_cons,List.not_mem_nil,or_false]at hu
 rcases hu with rfl | rfl | rfl | rfl | rfl | rfl | rfl | rfl | rfl | rfl | rfl | rfl | rfl | rfl | rfl | rfl | rfl | rfl <;> rfl
theorem jE{v:Value}(h:w.ownsRow dA e size v n xs):∃a cap,v=.slice a n cap:=by
 rcases h.2 with⟨rfl,rfl⟩ | ⟨g,cap,cur,rfl,_⟩
 .exact⟨none,0,rfl⟩
 .exact⟨_,cap,rfl⟩
def nJ(w:World)(dA:Nat)(m:Value)(now sr:Int)(bs:List Int)(js:List M.Jb)(w':World):Prop:=
 ∃ab nb cb aj nj cj qs,m=.agg #[it now,it sr,.slice ab nb cb,.slice aj nj cj]/\aW w' dA ab nb cb bs aj nj cj qs/\qs.map (·.1)=js/\Below dA w w'
set_option maxRecDepth 10000 in
theorem su(now sr:Int)(w:World)(hz:co w ab nb cb aj nj cj bs js)(hf:M.Right now sr bs js):
  Calls prog 22 #[.agg #[it now,it sr,.slice ab nb cb,.slice aj nj cj]] w λe w'=>∃v,e=.returned v/\nJ w w.heap.size v now sr bs js w':=by
 have HM:=Hd hz;have HR:=Hd hf;have Lc:=Hd hz.b.len;have Ae:=Hd hz.b.no;have Ri:nb<=9:=(by have:=jh hf.bn;rw[Lc.o]at this;exact this);have Si:=hz.j.len;have Ti:nj<=6:=(by have:=hf.few;omega);have Ui:(nj:Int)<=9223372036854775807:=(by omega);have Vi:(nj:Int)<=cj:=(by have:=hz.j.le;omega);have Vc:H7 (((bs.take nb).map (Value.int .i64)).length=nb*1):=(by show _=_;have:=Lc.o;simp;omega);clear hz hf;obtain⟨i0,hi,Eb,Fb,Gb⟩:=info_parts bF;go_enter func22,ntmps22;have Gc:=cQ w (aJ now sr ab nb cb aj nj cj) 27;have Ac:H7 (m1 w (w.alloc (.cells (aJ now sr ab nb cb aj nj cj).toArray 27))):=(m8 _ _).alloc (m3 _) _;have Xe:H7 ((w.alloc (.cells (aJ now sr ab nb cb aj nj cj).toArray 27)).heap.size=w.heap.size+1):=(by show _=_;simp);(go_wp2_with fail);generalize(w.alloc (.cells (aJ now sr ab nb cb aj nj cj).toArray 27))=wa at *;have Be:=gW wa (.cells cm.toArray 27);have Ye:=Xe.o;have Qb:=Gc.b Be;have Hc:=Ac.t Be;clear Gc Ac;clear Be;have Wc:H7 (aw (wa.alloc (.cells cm.toArray 27)) (w.heap.size+1) cm):=(by rw[<-Ye];exact aQ _ _ _);have Sa:H7 (w.heap.size+1<(wa.alloc (.cells cm.toArray 27)).heap.size):=(by show _<_;simp;omega);generalize(wa.alloc (.cells cm.toArray 27))=wq at *;clear Ye Xe;have Ze:=Hd Qb.o.2.2;have Ab:=Hd (Nat.le_of_lt Ze.o);apply fR
 case f=>
  intro key;refine cP wq none (by kernel_rfl) λhHeld=>?_;have Xc:m1 wq wq.drew:=(m8 _ _).drew;have Yc:=Qb.b Xc;have Bc:=Hc.t Xc;have Zc:=Wc.b Xc;generalize wq.drew=Pa at *;clear Xc;have Ad:=Hd (HM.o.b.below Bc.o);refine tE 0 (tG w.heap.size) ?_;(try simp only[Act.put]);refine tk 1 (it now) ?_ ?_
  .intro wp Oc;have c0:=(Qb.o.grown Oc (by simp)).c 0;go_simp
  (try simp only[Act.put]);refine tE 2 (.pointer (some ⟨w.heap.size,1,none⟩)) ?_;(try simp only[Act.put]);refine tk 3 (it sr) ?_ ?_
  .intro wp Oc;have c0:=(Qb.o.grown Oc (by simp)).c 1;go_simp
  (try simp only[Act.put]);refine tE 5 (.pointer (some ⟨w.heap.size,2,none⟩)) ?_;(try simp only[Act.put]);refine tk 6 (.slice ab nb cb) ?_ ?_
  .intro wp Oc;have c0:=(Qb.o.grown Oc (by simp)).c 2;go_simp
  (try simp only[Act.put]);refine xO (rs:=[4,9]) (by kernel_rfl) (by simp) ?_;refine u' rfl (λKk hK=>?_) (u' rfl (λKk hK=>?_) (xB));go_simp;have Ba:=gW Pa (.cells #[] 2);have Bb:wq.grownBy (Pa.alloc (.cells #[] 2)) none:=cD hHeld _;have Rb:=Yc.b Ba;have Hb:=Bc.t Ba;have Sb:=Zc.b Ba;have Cc:=Hd (Ad.o.below Ba);have Ua:H7 (wq.heap.size<=Pa.heap.size/\Pa.heap.size<(Pa.alloc (.cells #[] 2)).heap.size):=⟨hHeld.size,by simp⟩;have Pc:H7 ((Pa.alloc (.cells #[] 2)).ownsRow w.heap.size 2 1 (.slice (some ⟨Pa.heap.size,0,none⟩) 0 0) 0 []):=World.ownsRow_made _ #[] 0 (tr Ab.o hHeld.size) (by unfold maxLen;omega) (by simp);clear Yc Bc Zc Ad;refine hK.out _ _ Bb (λhzz=>?_);clear hK Kk hzz Ba;(try simp only[Act.put]);generalize(Pa.alloc (.cells #[] 2))=Ga at *;generalize Pa.heap.size=sl at Rb Sb Ua Pc |-;refine xO (rs:=[7,9]) (by kernel_rfl) (by simp) ?_;refine u' rfl (λKk hK=>?_) (u' rfl (λKk hK=>?_) (xB));refine dM rfl (.tmp 10) (.tmp 12) 24 rfl w.heap.size 2 i0 (it 0) 1 8 underlying24 hi Eb Fb Gb rfl (by decide) (.slice (some ⟨sl,0,none⟩) 0 0) 0 [] (by simp[Act.eval]) Pc.o ab nb cb ((bs.take nb).map (Value.int .i64)) (by simp[Act.eval]) Vc.o Ae.o (cB (Cc.o) nb (m3 _)) (cF _) (by unfold maxLen;omega) (by omega) (tr Ab.o Bb.size) ?_;intro v' Ka Oa Qa Ta;have hown':Ka.ownsRow w.heap.size 2 1 v' nb (bs.map (Value.int .i64)):=(by rw[Nat.zero_add,List.nil_append,xt (Nat.le_of_eq Lc.o)]at Oa;exact Oa);obtain⟨Aa,Ca,rfl,ho⟩:=aA.form hown';have Ea:Ga.grownBy Ka (some sl):=Qa;have Va:=cO Bb Ea Ua.o.1;clear Pc;have Ib:∀g∈ob Aa,g=sl\/g=Ga.heap.size:=λg hg=>by have e:=cz (n:=nb) (c:=Ca) hg;rcases Ta with e2 | e2 <;> rw[e2]at e <;> have e:=m2 e <;> first | exact .inl e.symm | exact .inr e.symm
  have Nb:=Hd (Rb.o.grown Ea (λe=>by have:=m2 e;have:=Ua.o.1;have:=Sa.o;omega));have Cb:=Hd (Hb.o.trans (ap Ea Hb.o.size (λz e=>by have:=m2 e;have:=Ua.o.1;have:=Ab.o;omega)));have Ob:=Hd (Sb.o.grown Ea (λe=>by have:=m2 e;have:=Ua.o.1;have:=Sa.o;omega));have Ra:H7 (wq.heap.size<=sl/\sl<Ka.heap.size):=⟨Ua.o.1,xD Ua.o.2 Ea.size⟩;have Af:=Hd ho;have Bf:=Hd (λg hg=>(xz ho g (cz hg)).2);have Cf:H7 (∀g∈ob Aa,wq.heap.size<=g):=λg hg=>by rcases Ib g hg with h1 | h1;have:=Ua.o.1;omega;have:=Bb.size;omega
  clear Rb Hb Sb Ua;refine hK.out _ _ Va (λhzz=>?_);clear hK Kk hzz Oa hown' Qa Ta ho Ea Ib Cc;(try simp only[Act.put]);refine tE 8 (.agg (eQ now sr Aa nb Ca).toArray) ?_;(try simp only[Act.put]);refine aT 9 λKk hK=>?_;rw[if_pos (by kernel_rfl)];refine b9 27 rfl cm.toArray (by kernel_rfl) ?_;have Ba:=gW Ka (.cells cm.toArray 27);have Tb:wq.grownBy (Ka.alloc (.cells cm.toArray 27)) none:=cD Va _;have Bd:sl≠Ka.heap.size:=λe=>by have:=Ra.o.2;omega
  have Ub:=Nb.b Ba;have Db:=Cb.t Ba;have Vb:=Ob.b Ba;have Wb:=Hd (Af.o.below Ba);have Xb:=Hd Cf.o;have Xa:=cQ Ka cm 27;have Ha:H7 (wq.heap.size<=Ka.heap.size/\Ka.heap.size<(Ka.alloc (.cells cm.toArray 27)).heap.size):=⟨Va.size,by simp⟩;have Ya:H7 (∀g∈ob Aa,g≠Ka.heap.size):=λg hg e=>by have:=Bf.o g hg;omega
  clear Nb Cb Ob Ra Af Bf Cf;refine hK.out _ _ Tb (λhzz=>?_);clear hK Kk hzz Ba Bd;(try simp only[Act.put]);generalize(Ka.alloc (.cells cm.toArray 27))=Da at *;generalize Ka.heap.size=ou at Xa Ha Ya |-;refine aT 10 λKk hK=>?_;rw[if_pos (by kernel_rfl)];with_reducible refine wp_store_mid 27 (.tmp 3) (.tmp 14) ?_ ou 0 ((eQ now sr Aa nb Ca):List Value).toArray ?_ ?_ ?_ (by kernel_rfl) (by kernel_rfl) ?_
  .exact rfl
  .exact rfl
  .exact rfl
  .exact Xa.o.there 0 4 (by simp)
  have La:=dS Da ou 0 (eQ now sr Aa nb Ca);have Ic:=cO Tb La Ha.o.1;have Yb:aw (Da.setCells ou 0 (eQ now sr Aa nb Ca)) ou (eQ now sr Aa nb Ca):=Xa.o.setCells (eQ now sr Aa nb Ca) 0 (by simp);clear Xa;have Cd:=Hd (Ub.o.grown La (λe=>by have:=m2 e;have:=Ha.o.1;have:=Sa.o;omega));have Dd:=Hd (Db.o.trans (ap La Db.o.size (λz e=>by have:=m2 e;have:=Ha.o.1;have:=Ab.o;omega)));have Ed:=Hd (Vb.o.grown La (λe=>by have:=m2 e;have:=Ha.o.1;have:=Sa.o;omega));have Fd:=Hd (Wb.o.grown La (λg hg e=>Ya.o g hg (m2 e).symm));have Gd:=Hd Xb.o;have Id:H7 (wq.heap.size<=ou/\ou<(Da.setCells ou 0 (eQ now sr Aa nb Ca)).heap.size):=⟨Ha.o.1,xD Ha.o.2 La.size⟩;have Jd:=Hd Ya.o;have Kd:=Hd Yb;clear Ub Db Vb Wb Xb Ha Ya;refine hK.out _ _ Ic (λhzz=>?_);clear hK Kk hzz La Yb;(try simp only[Act.put]);generalize(Da.setCells ou 0 (eQ now sr Aa nb Ca))=Ce at *
  rotate_left
  rw[if_pos (by kernel_rfl)];refine b9 27 rfl cm.toArray (by kernel_rfl) ?_;have Ba:=gW Ga (.cells cm.toArray 27);have Va:wq.grownBy (Ga.alloc (.cells cm.toArray 27)) none:=cD Bb _;have Bd:sl≠Ga.heap.size:=λe=>by have:=Ua.o.2;omega
  have Nb:=Rb.b Ba;have Cb:=Hb.t Ba;have Ob:=Sb.b Ba;have Qc:=Hd (Cc.o.below Ba);have Ra:H7 (wq.heap.size<=sl/\sl<(Ga.alloc (.cells cm.toArray 27)).heap.size):=⟨Ua.o.1,xD Ua.o.2 Ba.size⟩;have Jc:=Hd (jF Pc.o (bB Ba none) (λ_ _=>by simp));have Dc:=cQ Ga cm 27;have Kb:H7 (wq.heap.size<=Ga.heap.size/\Ga.heap.size<(Ga.alloc (.cells cm.toArray 27)).heap.size):=⟨Bb.size,by simp⟩;have Ld:=Hd Bd;clear Rb Hb Sb Cc Ua Pc;refine hK.out _ _ Va (λhzz=>?_);clear hK Kk hzz Ba Bd;(try simp only[Act.put]);generalize(Ga.alloc (.cells cm.toArray 27))=Ka at *;generalize Ga.heap.size=ou at Dc Kb Ld |-;refine aT 7 λKk hK=>?_;refine dM rfl (.tmp 10) (.tmp 12) 24 rfl w.heap.size 2 i0 (it 0) 1 8 underlying24 hi Eb Fb Gb rfl (by decide) (.slice (some ⟨sl,0,none⟩) 0 0) 0 [] (by simp[Act.eval]) Jc.o ab nb cb ((bs.take nb).map (Value.int .i64)) (by simp[Act.eval]) Vc.o Ae.o (cB (Qc.o) nb (m3 _)) (cF _) (by unfold maxLen;omega) (by omega) (tr Ab.o Va.size) ?_;intro v' Da Oa Qa Ta;have hown':Da.ownsRow w.heap.size 2 1 v' nb (bs.map (Value.int .i64)):=(by rw[Nat.zero_add,List.nil_append,xt (Nat.le_of_eq Lc.o)]at Oa;exact Oa);obtain⟨Aa,Ca,rfl,ho⟩:=aA.form hown';have Ea:Ka.grownBy Da (some sl):=Qa;have Tb:=cO Va Ea Ra.o.1;clear Jc;have Ib:∀g∈ob Aa,g=sl\/g=Ka.heap.size:=λg hg=>by have e:=cz (n:=nb) (c:=Ca) hg;rcases Ta with e2 | e2 <;> rw[e2]at e <;> have e:=m2 e <;> first | exact .inl e.symm | exact .inr e.symm
  have Ub:=Hd (Nb.o.grown Ea (λe=>by have:=m2 e;have:=Ra.o.1;have:=Sa.o;omega));have Db:=Hd (Cb.o.trans (ap Ea Cb.o.size (λz e=>by have:=m2 e;have:=Ra.o.1;have:=Ab.o;omega)));have Vb:=Hd (Ob.o.grown Ea (λe=>by have:=m2 e;have:=Ra.o.1;have:=Sa.o;omega));have Xa:=Hd (Dc.o.grown Ea (λe=>Ld.o (m2 e)));have Ha:H7 (wq.heap.size<=ou/\ou<Da.heap.size):=⟨Kb.o.1,xD Kb.o.2 Ea.size⟩;have Wb:=Hd ho;have Ya:H7 (∀g∈ob Aa,g≠ou):=λg hg e=>by rcases Ib g hg with h1 | h1;exact Ld.o (h1.symm.trans e);have:=Kb.o.2;omega
  have Xb:H7 (∀g∈ob Aa,wq.heap.size<=g):=λg hg=>by rcases Ib g hg with h1 | h1;have:=Ra.o.1;omega;have:=Va.size;omega
  clear Nb Cb Ob Ra Dc Kb Ld;refine hK.out _ _ Tb (λhzz=>?_);clear hK Kk hzz Oa hown' Qa Ta ho Ea Ib Qc;(try simp only[Act.put]);refine tE 8 (.agg (eQ now sr Aa nb Ca).toArray) ?_;(try simp only[Act.put]);refine aT 10 λKk hK=>?_;rw[if_pos (by kernel_rfl)];with_reducible refine wp_store_mid 27 (.tmp 3) (.tmp 14) ?_ ou 0 ((eQ now sr Aa nb Ca):List Value).toArray ?_ ?_ ?_ (by kernel_rfl) (by kernel_rfl) ?_
  .exact rfl
  .exact rfl
  .exact rfl
  .exact Xa.o.there 0 4 (by simp)
  have La:=dS Da ou 0 (eQ now sr Aa nb Ca);have Ic:=cO Tb La Ha.o.1;have Yb:aw (Da.setCells ou 0 (eQ now sr Aa nb Ca)) ou (eQ now sr Aa nb Ca):=Xa.o.setCells (eQ now sr Aa nb Ca) 0 (by simp);clear Xa;have Cd:=Hd (Ub.o.grown La (λe=>by have:=m2 e;have:=Ha.o.1;have:=Sa.o;omega));have Dd:=Hd (Db.o.trans (ap La Db.o.size (λz e=>by have:=m2 e;have:=Ha.o.1;have:=Ab.o;omega)));have Ed:=Hd (Vb.o.grown La (λe=>by have:=m2 e;have:=Ha.o.1;have:=Sa.o;omega));have Id:H7 (wq.heap.size<=ou/\ou<(Da.setCells ou 0 (eQ now sr Aa nb Ca)).heap.size):=⟨Ha.o.1,xD Ha.o.2 La.size⟩;have Fd:=Hd (Wb.o.grown La (λg hg e=>Ya.o g hg (m2 e).symm));have Jd:=Hd Ya.o;have Gd:=Hd Xb.o;have Kd:=Hd Yb;clear Ub Db Vb Ha Wb Ya Xb;refine hK.out _ _ Ic (λhzz=>?_);clear hK Kk hzz La Yb;(try simp only[Act.put]);generalize(Da.setCells ou 0 (eQ now sr Aa nb Ca))=Ce at *
  rotate_left
  rw[if_pos (by kernel_rfl)];refine b9 27 rfl cm.toArray (by kernel_rfl) ?_;have Ba:=gW Pa (.cells cm.toArray 27);have Bb:wq.grownBy (Pa.alloc (.cells cm.toArray 27)) none:=cD hHeld _;have Rb:=Yc.b Ba;have Hb:=Bc.t Ba;have Sb:=Zc.b Ba;have Cc:=Hd (Ad.o.below Ba);have De:=cQ Pa cm 27;have Rc:H7 (wq.heap.size<=Pa.heap.size/\Pa.heap.size<(Pa.alloc (.cells cm.toArray 27)).heap.size):=⟨hHeld.size,by simp⟩;clear Yc Bc Zc Ad;refine hK.out _ _ Bb (λhzz=>?_);clear hK Kk hzz Ba;(try simp only[Act.put]);generalize(Pa.alloc (.cells cm.toArray 27))=Ga at *;generalize Pa.heap.size=ou at De Rc |-;refine aT 4 λKk hK=>?_;go_simp;have Ba:=gW Ga (.cells #[] 2);have Va:wq.grownBy (Ga.alloc (.cells #[] 2)) none:=cD Bb _;have Df:ou≠Ga.heap.size:=λe=>by have:=Rc.o.2;omega
  have Nb:=Rb.b Ba;have Cb:=Hb.t Ba;have Ob:=Sb.b Ba;have Qc:=Hd (Cc.o.below Ba);have Dc:=De.b Ba;have Kb:H7 (wq.heap.size<=ou/\ou<(Ga.alloc (.cells #[] 2)).heap.size):=⟨Rc.o.1,xD Rc.o.2 Ba.size⟩;have Ra:H7 (wq.heap.size<=Ga.heap.size/\Ga.heap.size<(Ga.alloc (.cells #[] 2)).heap.size):=⟨Bb.size,by simp⟩;have Nd:=Hd Df;have Jc:H7 ((Ga.alloc (.cells #[] 2)).ownsRow w.heap.size 2 1 (.slice (some ⟨Ga.heap.size,0,none⟩) 0 0) 0 []):=World.ownsRow_made _ #[] 0 (tr Ab.o Bb.size) (by unfold maxLen;omega) (by simp);clear Rb Hb Sb Cc De Rc;refine hK.out _ _ Va (λhzz=>?_);clear hK Kk hzz Ba Df;(try simp only[Act.put]);generalize(Ga.alloc (.cells #[] 2))=Ka at *;generalize Ga.heap.size=sl at Nb Ob Dc Ra Nd Jc |-;refine aT 7 λKk hK=>?_;refine dM rfl (.tmp 10) (.tmp 12) 24 rfl w.heap.size 2 i0 (it 0) 1 8 underlying24 hi Eb Fb Gb rfl (by decide) (.slice (some ⟨sl,0,none⟩) 0 0) 0 [] (by simp[Act.eval]) Jc.o ab nb cb ((bs.take nb).map (Value.int .i64)) (by simp[Act.eval]) Vc.o Ae.o (cB (Qc.o) nb (m3 _)) (cF _) (by unfold maxLen;omega) (by omega) (tr Ab.o Va.size) ?_;intro v' Da Oa Qa Ta;have hown':Da.ownsRow w.heap.size 2 1 v' nb (bs.map (Value.int .i64)):=(by rw[Nat.zero_add,List.nil_append,xt (Nat.le_of_eq Lc.o)]at Oa;exact Oa);obtain⟨Aa,Ca,rfl,ho⟩:=aA.form hown';have Ea:Ka.grownBy Da (some sl):=Qa;have Tb:=cO Va Ea Ra.o.1;clear Jc;have Ib:∀g∈ob Aa,g=sl\/g=Ka.heap.size:=λg hg=>by have e:=cz (n:=nb) (c:=Ca) hg;rcases Ta with e2 | e2 <;> rw[e2]at e <;> have e:=m2 e <;> first | exact .inl e.symm | exact .inr e.symm
  have Ub:=Hd (Nb.o.grown Ea (λe=>by have:=m2 e;have:=Ra.o.1;have:=Sa.o;omega));have Db:=Hd (Cb.o.trans (ap Ea Cb.o.size (λz e=>by have:=m2 e;have:=Ra.o.1;have:=Ab.o;omega)));have Vb:=Hd (Ob.o.grown Ea (λe=>by have:=m2 e;have:=Ra.o.1;have:=Sa.o;omega));have Xa:=Hd (Dc.o.grown Ea (λe=>Nd.o (m2 e).symm));have Ha:H7 (wq.heap.size<=ou/\ou<Da.heap.size):=⟨Kb.o.1,xD Kb.o.2 Ea.size⟩;have Wb:=Hd ho;have Ya:H7 (∀g∈ob Aa,g≠ou):=λg hg e=>by rcases Ib g hg with h1 | h1;exact Nd.o (e.symm.trans h1);have:=Kb.o.2;omega
  have Xb:H7 (∀g∈ob Aa,wq.heap.size<=g):=λg hg=>by rcases Ib g hg with h1 | h1;have:=Ra.o.1;omega;have:=Va.size;omega
  clear Nb Cb Ob Dc Kb Ra Nd;refine hK.out _ _ Tb (λhzz=>?_);clear hK Kk hzz Oa hown' Qa Ta ho Ea Ib Qc;(try simp only[Act.put]);refine tE 8 (.agg (eQ now sr Aa nb Ca).toArray) ?_;(try simp only[Act.put]);refine aT 10 λKk hK=>?_;rw[if_pos (by kernel_rfl)];with_reducible refine wp_store_mid 27 (.tmp 3) (.tmp 14) ?_ ou 0 ((eQ now sr Aa nb Ca):List Value).toArray ?_ ?_ ?_ (by kernel_rfl) (by kernel_rfl) ?_
  .exact rfl
  .exact rfl
  .exact rfl
  .exact Xa.o.there 0 4 (by simp)
  have La:=dS Da ou 0 (eQ now sr Aa nb Ca);have Ic:=cO Tb La Ha.o.1;have Yb:aw (Da.setCells ou 0 (eQ now sr Aa nb Ca)) ou (eQ now sr Aa nb Ca):=Xa.o.setCells (eQ now sr Aa nb Ca) 0 (by simp);clear Xa;have Cd:=Hd (Ub.o.grown La (λe=>by have:=m2 e;have:=Ha.o.1;have:=Sa.o;omega));have Dd:=Hd (Db.o.trans (ap La Db.o.size (λz e=>by have:=m2 e;have:=Ha.o.1;have:=Ab.o;omega)));have Ed:=Hd (Vb.o.grown La (λe=>by have:=m2 e;have:=Ha.o.1;have:=Sa.o;omega));have Id:H7 (wq.heap.size<=ou/\ou<(Da.setCells ou 0 (eQ now sr Aa nb Ca)).heap.size):=⟨Ha.o.1,xD Ha.o.2 La.size⟩;have Fd:=Hd (Wb.o.grown La (λg hg e=>Ya.o g hg (m2 e).symm));have Jd:=Hd Ya.o;have Gd:=Hd Xb.o;have Kd:=Hd Yb;clear Ub Db Vb Ha Wb Ya Xb;refine hK.out _ _ Ic (λhzz=>?_);clear hK Kk hzz La Yb;(try simp only[Act.put]);generalize(Da.setCells ou 0 (eQ now sr Aa nb Ca))=Ce at *
  rotate_left
  all_goals
   refine bi ?_;go_simp;have Hh:=Cd;clear Cd;have Ih:=Dd;clear Dd;have Jh:=Fd;clear Fd;have Kh:=Kd;clear Kd;have Lh:=Jd;clear Jd;have Nh:=Gd;clear Gd;have Oh:=Id;clear Id;have Ph:=Ed;clear Ed;clear Ic;generalize Ce=wz at *;revert Ph;revert Oh;revert Nh;revert Lh;revert Kh;revert Jh;revert Ih;revert Hh;revert wz;revert ou;revert Ca;revert Aa;revert sl;exact key.out
 case h=>
  intro sl Aa Ca ou wz Ee Ef Ff Gf Hf Fe If Jf;have x3:=Ee.c 3;(go_wp2_with fail);clear x3;have Kf:H7 (aW wz w.heap.size Aa nb Ca bs none 0 0 []):=⟨Ff.o,rfl,World.ownsRow_nil _ _ _ _,λq hq=>by simp at hq,cU.2 ⟨λg hg=>⟨by simp[ob],by simp⟩,λg hg=>by simp[ob]at hg,by simp⟩⟩;have Lf:H7 (ou∉b7 Aa none []):=λe=>by unfold b7 at e;simp only[ob,List.flatMap_nil,List.append_nil]at e;exact Hf.o ou e rfl
  have Nf:H7 (w.heap.size∉b7 Aa none []):=λe=>by unfold b7 at e;simp only[ob,List.flatMap_nil,List.append_nil]at e;have:=Fe.o _ e;have:=Ze.o;omega
  have Of:H7 (w.heap.size+1∉b7 Aa none []):=λe=>by unfold b7 at e;simp only[ob,List.flatMap_nil,List.append_nil]at e;have:=Fe.o _ e;have:=Sa.o;omega
  have Ge:H7 (w.heap.size+1<ou):=by have:=If.o.1;have:=Sa.o;show _<_;omega
  go_loopw [4] (λi wr=>∃(k:Nat) (aj':Option Addr) (cj':Nat) (qs:List MQ),k<=nj/\i=it k/\aW wr w.heap.size Aa nb Ca bs aj' k cj' qs/\qs.map (·.1)=js.take k/\aw wr ou (aJ now sr Aa nb Ca aj' k cj')/\ou∉b7 Aa aj' qs/\w.heap.size∉b7 Aa aj' qs/\w.heap.size+1∉b7 Aa aj' qs/\aw wr (w.heap.size+1) cm/\aw wr w.heap.size (aJ now sr ab nb cb aj nj cj)/\m1 w wr) (λi _=>nj-(intOf i).toNat)
  case atStart=>exact⟨0,none,0,[],by omega,rfl,Kf.o,rfl,Gf.o,Lf.o,Nf.o,Of.o,Jf.o,Ee.o,Ef.o⟩
  case round=>
   obtain⟨kk,aq,Lb,qs,hk,rfl,hh,Od,Zb,He,Ie,Pd,Wa,Sc,Tc⟩:=hrel;clear Kf Lf Nf Of Jf Ee Ef Ff Gf Hf Fe If hi Eb Fb Gb i0 Vc;by_cases Qh:kk<nj
   case pos=>
    obtain⟨b1,o1,rfl,Pf⟩:=(HM.o.j.below Tc).at (by omega);obtain⟨ta,tc,hA,hT⟩:=Pf kk Qh;have Rh:(kk:Int)<(nj:Int):=(by omega);have Qf:js.getD kk M.j0∈js:=(by rw[m5,m9 (by omega)];simp);have Qd:js.take (kk+1)=js.take kk++[js.getD kk M.j0]:=(by rw[List.take_add_one,m5,m9 (by omega)];simp);have Je:=HR.o.tasks _ Qf;generalize js.getD kk M.j0=cq at hA hT Qd Je;obtain⟨Ia,⟨⟨a,b,c',d,f,k⟩,⟨a',b',Ja,d',f',k'⟩⟩,⟨s1,s2⟩,jr,jg,tl⟩:=cq;dsimp only at hT Qd Je;have hR:wr.rangeAt b1 (o1+kk*18) (fk ⟨Ia,⟨⟨a,b,c',d,f,k⟩,⟨a',b',Ja,d',f',k'⟩⟩,(s1,s2),jr,jg,tl⟩ ta tc):=bN rfl hA;have HT:=Hd hT;dsimp only[fk]at hR;generalize Rf:tl.length=tn at hR HT Je;have Uc:=Hd Rf;have Sh:H7 (qs.map (·.1)++[⟨Ia,⟨⟨a,b,c',d,f,k⟩,⟨a',b',Ja,d',f',k'⟩⟩,(s1,s2),jr,jg,tl⟩]=js.take (kk+1)):=(by show _=_;rw[Od];exact Qd.symm);clear Pf hA hT Qf Qd Od Rf;have Ac:=Hd Tc;have Sf:=Hd hh;have Tf:=Hd HT.o;have Uf:=Hd Zb;have Gc:=Hd Sc;have Vf:=Hd Wa;have Rd:=Hd Pd;have Sd:=Hd Wa.2.2;clear Wa Pd;have Wf:=Hd He;have Ke:=Hd (λg hg=>(hh.lt g hg).2);have Th:=Hd (λg hg=>(hh.lt g hg).1);have Ec:=Hd Sc.2.2;have Td:=Hd Zb.2.2;clear Tc hh HT Zb He Sc;have Xf:=Hd Ie;clear Ie;have Q:=Gc.c 3;(go_wp2_with(with_reducible refine au 26 ?_ ?_;rfl));clear Q;with_reducible refine dY 70 b1 (o1+kk*18) (bO Ia a b c' d f k a' b' Ja d' f' k' s1 s2 jr jg ta tn tc) hR underlying70 ?q5 ?_
    case q5=>exact⟨rfl,rfl,by kernel_rfl,_,rfl,by kernel_rfl⟩
    clear hR;(go_wp2_with(with_reducible refine au 5 ?_ ?_;rfl));show wpList _ _ _ _ _ _;have Yf:(Instr.alloc 70 true (.tuple #[])).run prog wr=.ok (tG wr.heap.size) (wr.alloc (.cells eG.toArray 70)):=(by kernel_rfl);with_reducible refine ch ?qg 70 ?qo eG.toArray Yf ?_
    case qg | qo=>exact rfl
    clear Yf;show wpList _ _ _ _ _ _;with_reducible refine Hx (eF 70 wr.heap.size 0 (bO Ia a b c' d f k a' b' Ja d' f' k' s1 s2 jr jg ta tn tc) ?q6 ?q5 ?_)
    case q6=>exact(aQ _ _ _).there _ 18 (by simp)
    case q5=>exact⟨rfl,by kernel_rfl,by kernel_rfl,_,_,rfl,by kernel_rfl,by kernel_rfl⟩
    have Ba:m1 wr ((wr.alloc (.cells eG.toArray 70)).setCells wr.heap.size 0 (bO Ia a b c' d f k a' b' Ja d' f' k' s1 s2 jr jg ta tn tc)):=aP _ _ ((m8 _ _).alloc (m3 _) _) (m3 _);have Hc:=Ac.t Ba;have Zf:=Hd (Sf.o.below Ba);have Ag:=Hd (Tf.o.below Ba);have Bg:=Uf.b Ba;have Qb:=Gc.b Ba;have Wc:=Vf.b Ba;clear Ac Sf Tf Uf Gc Vf;clear Ba;have Ud:H7 (aw ((wr.alloc (.cells eG.toArray 70)).setCells wr.heap.size 0 (bO Ia a b c' d f k a' b' Ja d' f' k' s1 s2 jr jg ta tn tc)) wr.heap.size (bO Ia a b c' d f k a' b' Ja d' f' k' s1 s2 jr jg ta tn tc)):=(aQ wr eG.toArray 70).setCells (bO Ia a b c' d f k a' b' Ja d' f' k' s1 s2 jr jg ta tn tc) 0 (by simp);generalize((wr.alloc (.cells eG.toArray 70)).setCells wr.heap.size 0 (bO Ia a b c' d f k a' b' Ja d' f' k' s1 s2 jr jg ta tn tc))=w2 at *;generalize wr.heap.size=jb at Ud Ke Ec Td Sd |-;have Cg:=Ud.o.2.2;have Ba:=gW w2 (.cells #[] 75);have Le:=Hc.t Ba;have Dg:=Hd (Zf.o.below Ba);have Ne:=Hd (Ag.o.below Ba);have Eg:=Bg.b Ba;have Fg:=Qb.b Ba;have Gg:=Wc.b Ba;have Oe:=Ud.b Ba;clear Hc Zf Ag Bg Qb Wc Ud;clear Ba;have Uh:=Oe.c 17;obtain⟨i0,hi,Eb,Fb,Gb⟩:=info_parts gm;have Hg:(w2.alloc (.cells #[] 75)).heap.size=w2.heap.size+1:=(by simp);have Ig:=Le.o.size;have Jg:H7 ((tl.flatMap eK).length=tn*3):=(by show _=_;rw[eB ew,Uc.o]);(go_wp2_with(with_reducible refine au 30 ?_ ?_;rfl));show wpList _ _ _ _ _ _;refine eL _ rfl _ _ 68 rfl w.heap.size 75 i0 (.agg ug.toArray) 3 24 underlying68 hi Eb Fb Gb rfl (by decide) _ 0 [] rfl (World.ownsRow_made w2 #[] 0 (tr (Nat.le_of_lt Ec.o) (Nat.le_of_lt Cg)) (by unfold maxLen;omega) (by simp)) ta tn tc (tl.flatMap eK) rfl Jg.o Ne.o.no Ne.o.news (th tl) (by unfold maxLen;omega) (by omega) Ig ?_;intro v' w7 Oa Qa Ta;rw[Nat.zero_add,List.nil_append]at Oa;obtain⟨Fa,Na,rfl,Kg⟩:=bw.form Uc.o Oa;have Lg:=Hd Kg;have Kc:∀g∈ob Fa,w2.heap.size<=g:=λg hg=>by have e:=cz (n:=tn) (c:=Na) hg;rcases Ta with e2 | e2 <;> (rw[e2]at e;have e:=m2 e;first | exact Nat.le_of_eq e | (rw[Hg]at e;omega))
    have Ea:(w2.alloc (.cells #[] 75)).grownBy w7 (some w2.heap.size):=Qa;have Ng:H7 (∀g∈b7 Aa aq qs,g<w2.heap.size):=λg hg=>by have:=Ke.o g hg;omega
    have Og:=Hd (Dg.o.grown Ea (λg hg e=>by have:=Ng.o g hg;have:=m2 e;omega));have Vd:=Hd (Oe.o.grown Ea (λe=>by have:=m2 e;omega));have Pe:=Hd (Le.o.trans (ap Ea Ig (λz e=>by have:=m2 e;have:=Ec.o;have:=Cg;omega)));have Qe:=Hd (Eg.o.grown Ea (λe=>by have:=m2 e;have:=Td.o;omega));have Pg:=Hd (Fg.o.grown Ea (λe=>by have:=m2 e;have:=Ec.o;omega));have Qg:=Hd (Gg.o.grown Ea (λe=>by have:=m2 e;have:=Sd.o;omega));have Vh:=Ea.size;have Wh:H7 (∀g∈ob Fa,g∉b7 Aa aq qs):=λg hg hx=>by have:=Kc g hg;have:=Ng.o g hx;omega
    have Xh:H7 (∀g∈ob Fa,g≠jb):=λg hg e=>by have:=Kc g hg;omega
    have Yh:H7 (∀g∈ob Fa,g≠w.heap.size):=λg hg e=>by have:=Kc g hg;have:=Ec.o;omega
    have Zh:H7 (∀g∈ob Fa,g≠w.heap.size+1):=λg hg e=>by have:=Kc g hg;have:=Sd.o;omega
    have Ai:H7 (∀g∈ob Fa,g≠ou):=λg hg e=>by have:=Kc g hg;have:=Td.o;omega
    have Bi:H7 (∀g∈b7 Aa aq qs,g≠jb):=λg hg e=>by have:=Ke.o g hg;omega
    have Ci:=Vd.c 17;have Di:=Vd.o.fr 17;have o3:=Qe.c 3;clear Oa Qa Ta Kg Kc Ea Vh hi Eb Fb Gb i0 Hg Jg Uh Le Dg Ne Eg Fg Gg Oe;(go_wp2_with(with_reducible refine au 33 ?_ ?_;rfl));show wpList _ _ _ _ _ _;have Rg:H7 (aw (w7.setCell ⟨jb,17,none⟩ (.slice Fa tn Na)) jb (bO Ia a b c' d f k a' b' Ja d' f' k' s1 s2 jr jg Fa tn Na)):=Vd.o.set 17 (by simp) _;have Fc:w7.grownBy (w7.setCell ⟨jb,17,none⟩ (.slice Fa tn Na)) (some jb):=aV _ _ _;have Sg:=Hd (Og.o.grown Fc (λg hg e=>Bi.o g hg (m2 e).symm));have Tg:=Hd (Lg.o.grown Fc (λg hg e=>Xh.o g hg (m2 e).symm));have Re:=Hd (Pe.o.trans (ap Fc Pe.o.size (λz e=>by have:=m2 e;have:=Ec.o;omega)));have Se:=Hd (Qe.o.grown Fc (λe=>by have:=m2 e;have:=Td.o;omega));have Ug:=Hd (Pg.o.grown Fc (λe=>by have:=m2 e;have:=Ec.o;omega));have Vg:=Hd (Qg.o.grown Fc (λe=>by have:=m2 e;have:=Sd.o;omega));generalize(w7.setCell ⟨jb,17,none⟩ (.slice Fa tn Na))=w9 at *;clear Og Vd Pe Lg Qe Pg Qg Fc Ci Di o3;have o3:=Se.c 3;(go_wp2_with(with_reducible refine au 34 ?_ ?_;rfl));have Wg:=Rg.o.row;with_reducible refine dY 70 jb 0 (bO Ia a b c' d f k a' b' Ja d' f' k' s1 s2 jr jg Fa tn Na) Wg underlying70 ?q5 ?_
    case q5=>exact⟨rfl,rfl,by kernel_rfl,_,rfl,by kernel_rfl⟩
    clear Wg o3;(go_wp2_with(with_reducible refine au 36 ?_ ?_;rfl));show wpList _ _ _ _ _ _;have Ba:=gW w9 (.cells (bO Ia a b c' d f k a' b' Ja d' f' k' s1 s2 jr jg Fa tn Na).toArray 70);have Wd:=Hd (Sg.o.below Ba);have Xg:=Hd (Tg.o.grown (bB Ba none) (λ_ _=>by simp));have Te:=Se.b Ba;have Ue:=Ug.b Ba;have Ve:=Vg.b Ba;have Xd:=Re.t Ba;have Yg:=cQ w9 (bO Ia a b c' d f k a' b' Ja d' f' k' s1 s2 jr jg Fa tn Na) 70;generalize(w9.alloc (.cells (bO Ia a b c' d f k a' b' Ja d' f' k' s1 s2 jr jg Fa tn Na).toArray 70))=wn at *;clear Ba Sg Tg Se Ug Vg Re Rg;obtain⟨i0,hi,Eb,Fb,Gb⟩:=info_parts fV;have Wi:=Wd.o.jl;refine wpList_append_own_at _ rfl _ _ 25 rfl w.heap.size 70 i0 (.agg eG.toArray) 18 160 underlying25 hi Eb Fb Gb rfl (by decide) _ kk (qs.flatMap jy) rfl Wd.o.j ⟨w9.heap.size,0,none⟩ 1 1 (bO Ia a b c' d f k a' b' Ja d' f' k' s1 s2 jr jg Fa tn Na) rfl rfl (ix Yg.o) (by have h1:=nY ⟨Ia,⟨⟨a,b,c',d,f,k⟩,⟨a',b',Ja,d',f',k'⟩⟩,(s1,s2),jr,jg,tl⟩ Fa Na;dsimp only[fk]at h1;rw[Uc.o]at h1;exact h1) (by unfold maxLen;omega) (by omega) Xd.o.size ?_;intro v' w8 Oa Qa _ Ta;obtain⟨Za,Pb,rfl⟩:=jE Oa;have Zg:(bO Ia a b c' d f k a' b' Ja d' f' k' s1 s2 jr jg Fa tn Na)=jy (⟨Ia,⟨⟨a,b,c',d,f,k⟩,⟨a',b',Ja,d',f',k'⟩⟩,(s1,s2),jr,jg,tl⟩,Fa,Na):=(by dsimp only[jy,fk];rw[Uc.o]);rw[Zg]at Oa;obtain⟨hP,Yd⟩:=Wd.o.push (⟨Ia,⟨⟨a,b,c',d,f,k⟩,⟨a',b',Ja,d',f',k'⟩⟩,(s1,s2),jr,jg,tl⟩,Fa,Na) (by show bw _ _ _ tl.length _ _;rw[Uc.o];exact Xg.o) Wh.o Qa Oa (m3 _) Ta;have Ah:=Te.o.2.2;have Bh:=Ue.o.2.2;have Ch:=Ve.o.2.2;have We:=Hd (Te.o.grown Qa (λe=>Wf.o (by simp[b7,bA e])));have Ei:=Hd (Ue.o.grown Qa (λe=>Xf.o (by simp[b7,bA e])));have Fi:=Hd (Ve.o.grown Qa (λe=>Rd.o (by simp[b7,bA e])));have Dh:=Hd (Xd.o.trans (ap Qa Xd.o.size (λz e=>Th.o z (by simp[b7,bA e]))));have Gi:=Hd hP;have Eh:H7 (ou∉b7 Aa Za (qs++[(⟨Ia,⟨⟨a,b,c',d,f,k⟩,⟨a',b',Ja,d',f',k'⟩⟩,(s1,s2),jr,jg,tl⟩,Fa,Na)])):=Yd ou Ah Wf.o (λe=>Ai.o _ e rfl);have Hi:H7 (w.heap.size∉b7 Aa Za (qs++[(⟨Ia,⟨⟨a,b,c',d,f,k⟩,⟨a',b',Ja,d',f',k'⟩⟩,(s1,s2),jr,jg,tl⟩,Fa,Na)])):=Yd _ Bh Xf.o (λe=>Yh.o _ e rfl);have Ii:H7 (w.heap.size+1∉b7 Aa Za (qs++[(⟨Ia,⟨⟨a,b,c',d,f,k⟩,⟨a',b',Ja,d',f',k'⟩⟩,(s1,s2),jr,jg,tl⟩,Fa,Na)])):=Yd _ Ch Rd.o (λe=>Zh.o _ e rfl);have c3:=We.c 3;have f3:=We.o.fr 3;clear Oa Qa Ta hP Yd hi Eb Fb Gb Zg Ah Bh Ch Wd Xg Te Ue Ve Xd Yg;go_wp2;have HO':H7 (aw (w8.setCell ⟨ou,3,none⟩ (.slice Za (kk+1) Pb)) ou (aJ now sr Aa nb Ca Za (kk+1) Pb)):=We.o.set 3 (by simp) _;have Zd:w8.grownBy (w8.setCell ⟨ou,3,none⟩ (.slice Za (kk+1) Pb)) (some ou):=aV _ _ _;have HP':H7 (aW (w8.setCell ⟨ou,3,none⟩ (.slice Za (kk+1) Pb)) w.heap.size Aa nb Ca bs Za (kk+1) Pb (qs++[(⟨Ia,⟨⟨a,b,c',d,f,k⟩,⟨a',b',Ja,d',f',k'⟩⟩,(s1,s2),jr,jg,tl⟩,Fa,Na)])):=Gi.o.grown Zd (λg hg e=>Eh.o (m2 e ▸ hg));have HA':=Hd (Ei.o.grown Zd (λe=>by have:=m2 e;have:=Ge.o;omega));have HZ':=Hd (Fi.o.grown Zd (λe=>by have:=m2 e;have:=Ge.o;omega));have HB':=Hd (Dh.o.trans (ap Zd Dh.o.size (λz e=>by have:=m2 e;have:=Ge.o;omega)));go_roundw
    case rel=>exact⟨kk+1,Za,Pb,_,by omega,by go_num,HP'.o,by rw[xU];exact Sh.o,HO'.o,Eh.o,Hi.o,Ii.o,HZ'.o,HA'.o,HB'.o⟩
    case measure=>simp[intOf];omega
   have Ji:kk=nj:=(by omega);have Ki:=Hd hh;have Li:H7 (qs.map (·.1)=js):=(by show _=_;rw[Od,xt (by omega)]);have Fh:=Hd Tc;have Rh:¬ (kk:Int)<(nj:Int):=(by omega);have x3:=Sc.c 3;have o0:=Zb.c 0;have o1:=Zb.c 1;have o2:=Zb.c 2;have o3:=Zb.c 3;have r0:=Wa.c 0;have Xi:=Wa.fr 0;have r1:=Wa.c 1;have Yi:=Wa.fr 1;have r2:=Wa.c 2;have Zi:=Wa.fr 2;have r3:=Wa.c 3;have Aj:=Wa.fr 3;have Ni:=Hd Wa;have Rd:=Hd Pd;clear hh Od Tc Zb Sc He Ie Wa Pd;subst Ji;(go_wp2_with fail);show bodyPost _ _ _ _ _ (wr.setCells (w.heap.size+1) 0 (aJ now sr Aa nb Ca aq kk Lb));have Oi:aw (wr.setCells (w.heap.size+1) 0 (aJ now sr Aa nb Ca aq kk Lb)) (w.heap.size+1) (aJ now sr Aa nb Ca aq kk Lb):=Ni.o.setCells (aJ now sr Aa nb Ca aq kk Lb) 0 (by simp);have Gh:=dS wr (w.heap.size+1) 0 (aJ now sr Aa nb Ca aq kk Lb);have Pi:=Ki.o.grown Gh (λg hg e=>Rd.o (m2 e ▸ hg));have Qi:=Fh.o.trans (ap Gh Fh.o.size (λz e=>by have:=m2 e;omega));generalize(wr.setCells (w.heap.size+1) 0 (aJ now sr Aa nb Ca aq kk Lb))=wf at *;exact s' (aM rfl rfl (xH wf (w.heap.size+1) 0 27 _ _ Oi.row underlying27 rfl (by kernel_rfl))) rfl ⟨_,rfl,Aa,nb,Ca,aq,kk,Lb,qs,rfl,Pi,Li.o,Qi⟩
theorem vI(h:zs.getD k 0≠ys.getD k 0):zs≠ys:=λe=>h (by rw[e])
theorem uQ(hl:zs.length=ys.length)(h:∀i,i<zs.length->zs.getD i 0=ys.getD i 0):zs=ys:=by
 apply List.ext_getElem hl;intro i h1 h2;have:=h i h1;simpa[m5,m9 h1,m9 h2]using this
theorem ue(w:World)(hz:aC w a n c zs)(hy:aC w b m d ys):
  Calls prog 9 #[.slice a n c,.slice b m d] w λe w'=>e=.returned (.bool (decide (zs=ys)))/\∃k,w'=w.drewN k:=by
 have bn:(n:Int)<=9223372036854775807:=(by have:=hz.big;have:=hz.le;omega);have bm:(m:Int)<=9223372036854775807:=(by have:=hy.big;have:=hy.le;omega);by_cases hl:n=m
 ·
  subst hl;by_cases h0:0<n
  ·
   obtain⟨b1,o1,rfl,Aa⟩:=hz.at h0;obtain⟨b2,o2,rfl,Ba⟩:=hy.at h0;have L:H7 (zs.length=n/\ys.length=n):=⟨hz.len,hy.len⟩;have Ga:=Hd Aa;have Ha:=Hd Ba;have Ia:((n:Int) != (n:Int))=false:=(by simp);clear hz hy Aa Ba;go_enter func9,ntmps9;go_wp2
   go_loopw [5] (λi wr=>∃k q:Nat,k<=n/\i=it k/\wr=w.drewN q/\∀j,j<k->zs.getD j 0=ys.getD j 0) (λi _=>n-(intOf i).toNat)
   case atStart=>exact⟨0,0,by omega,rfl,rfl,λj h=>by omega⟩
   case round=>
    obtain⟨k,q,hk,rfl,rfl,Ca⟩:=hrel;have HA:=Hd Ca;clear Ca;by_cases Da:k<n
    ·
     have c1:=Ga.o k Da;have c2:=Ha.o k Da;generalize hx:zs.getD k 0=x at c1;generalize Ea:ys.getD k 0=y at c2;have HX:=Hd hx;have HY:=Hd Ea;have hI:(k:Int)<(n:Int):=(by omega);clear hx Ea;by_cases he:x=y
     ·
      have hb:(x != y)=false:=(by simp[he]);have HE:H7 (x=y):=he;clear he;go_wp2
      go_quiet (fail)
      go_wp2;go_roundw
      case rel=>
       refine⟨k+1,_,by omega,by go_num,rfl,λj hj=>?_⟩;by_cases e:j=k
       .subst e;rw[HX.o,HY.o,HE.o]
       .exact HA.o j (by omega)
      case measure=>simp[intOf];omega
     ·
      have hb:(x != y)=true:=(by simp[he]);have HE:H7 (x≠y):=he;clear he;go_wp2
      go_quiet (fail)
      go_wp2;go_ret;refine⟨aB ?_,_,World.drewN_drewN _ _ _⟩;exact(decide_eq_false (vI (k:=k) (by rw[HX.o,HY.o];exact HE.o))).symm
    ·
     have Fa:k=n:=(by omega);have HK:H7 (k=n):=Fa;clear Fa;go_wp2;go_ret;refine⟨aB ?_,_,rfl⟩;exact(decide_eq_true (uQ (L.o.1.trans L.o.2.symm) (λi hi=>HA.o i (by rw[HK.o,<-L.o.1];exact hi)))).symm
  ·
   have e0:n=0:=(by omega);subst e0;have e1:=hz.nil;have e2:=hy.nil;subst e1 e2;clear hz hy;go_enter func9,ntmps9;go_wp2;refine wp_loop_rounds 1 ?_;rw[rounds_succ];go_wp2;go_ret;exact⟨rfl,0,rfl⟩
 ·
  have Ia:((n:Int) != (m:Int))=true:=(by simp;omega);have E:H7 (zs≠ys):=(by show zs≠ys;intro e;apply hl;rw[<-hz.len,<-hy.len,e]);clear hz hy;go_enter func9,ntmps9;go_wp2;go_ret;exact⟨aB (decide_eq_false E.o).symm,0,rfl⟩
theorem sO(w:World)(hz:aC w a n c zs)(hy:aC w b m d zs):
  Calls prog 9 #[.slice a n c,.slice b m d] w λe w'=>e=.returned (.bool true)/\∃k,w'=w.drewN k:=
 (ue w hz hy).mono λe w' ⟨he,hk⟩=>⟨by rw[he];simp,hk⟩
theorem dQ(w:World)(hz:aC w a n c zs)(hy:aC w b m d zs):
  Rt 9 #[.slice a n c,.slice b m d] w (.bool true):=
 (sO w hz hy).mono λe w' ⟨he,k,hk⟩=>⟨he,by rw[hk];exact Below.drewN' (m8 _ _) k⟩
end Go.Proofs.YtbjalickbnpnkaaGreatDoor
