import Derived.Test.YtbjalickbnpnkaaGreatDoorPk06
namespace Go.Proofs.YtbjalickbnpnkaaGreatDoor
open Go.RowKit Go.Proofs.Tryz
set_option linter.unusedSimpArgs false
set_option maxHeartbeats 32000000
set_option maxRecDepth 10000
variable {p:M.Pf}{q:Nat}{P:Program}{w:World}{ops:Array Oper}{rest:List Oper}{a:Act}{Q:Exit->Act->World->Prop}
theorem pG(hq:q=p.X.length/4)(h:p.rows≠0):M.rows (q:Int)=true/\(p.X.length:Int)=4*(q:Int)/\p.Y.length=p.X.length/\p.QX.length=p.X.length/\p.QY.length=p.X.length/\M.sOk p.s=true/\M.sOk p.e=true/\M.allEl p.X=true/\M.allEl p.Y=true/\M.allEl p.QX=true/\M.allEl p.QY=true:=by
 obtain⟨h1,h2⟩:=M.rows_some h;obtain⟨⟨a1,b1⟩,⟨a2,b2⟩,⟨a3,b3⟩,⟨a4,b4⟩,c1,c2⟩:=(M.form_iff _ _).1 h2;have Aa:q=p.rows:=(by omega);refine⟨?_,by omega,by omega,by omega,by omega,c1,c2,b1,b2,b3,b4⟩;rw[Aa]
 rcases M.rowsN_cases h1 with e | e | e | e <;> rw[e] <;> rfl
theorem pF(h0:M.rows (q:Int)=true)(h1:(p.X.length:Int)=4*(q:Int))(h2:p.Y.length=p.X.length)(h3:p.QX.length=p.X.length)(h4:p.QY.length=p.X.length)(h5:M.sOk p.s=true)(h6:M.sOk p.e=true)(h7:M.allEl p.X=true)(h8:M.allEl p.Y=true)(h9:M.allEl p.QX=true)(hA:M.allEl p.QY=true):p.rows=q:=by
 refine M.rows_of ?_ ((M.form_iff _ _).2 ⟨⟨by omega,h7⟩,⟨by omega,h8⟩,⟨by omega,h9⟩,⟨by omega,hA⟩,h5,h6⟩)
 rcases gk h0 with e | e | e | e
 ·
  have:q=2:=(by omega);subst this;rfl
 ·
  have:q=4:=(by omega);subst this;rfl
 ·
  have:q=8:=(by omega);subst this;rfl
 ·
  have:q=16:=(by omega);subst this;rfl
theorem qJ{o:Oper}(hw:Region.wanted o (yielded ops a.tmps)=true)(v:Value)(w':World)
 (hrun:(execOp a.eval o).run P w=.ok (.value v) w')(h:wpList P ops Q rest (a.put o.dst v) w'):wpList P ops Q (o::rest) a w:=by
 refine wpList_step λK hK=>?_;rw[if_pos hw];unfold Oper.wp;rw[hrun];exact hK _ _ h
def jP(P:Program)(ops:Array Oper):List Oper->Act->World->Option (Act×World)
 | [],a,w=>some (a,w)
 | o::rest,a,w=>
  if Region.wanted o (yielded ops a.tmps)then
   match (execOp a.eval o).run P w with
   | .ok (.value v) w'=>jP P ops rest (a.put o.dst v) w'
   | _=>none
  else jP P ops rest (a.put o.dst undef) w
theorem io:∀(rest:List Oper) (a:Act) (w:World) {a':Act} {w':World},jP P ops rest a w=some (a',w')->Q .normal a' w'->wpList P ops Q rest a w
 | [],a,w,a',w',h,k=>by
  simp only[jP,Option.some.injEq,Prod.mk.injEq]at h;obtain⟨rfl,rfl⟩:=h;exact k
 | o::rest,a,w,a',w',h,k=>by
  unfold jP at h
  split at h
  ·
   rename_i hw
   split at h
   ·
    rename_i v w1 hr;exact qJ hw v w1 hr (io rest _ _ h k)
   .cases h
  ·
   rename_i hw;exact wpList_skip (by simpa using hw) (io rest _ _ h k)
theorem de(js:List Nat)(h:jP P ops rest a w=some (js.foldl (λa j=>a.put (some j) (.bool true)) a,w))
 (k:Q .normal (js.foldl (λa j=>a.put (some j) (.bool true)) a) w):wpList P ops Q rest a w:=io rest a w h k
theorem cM{R:Nat}{P:Prop}(h:R≠0->P)(hn:¬ P):R=0:=Classical.byContradiction λh0=>hn (h h0)
theorem fg{a1 a2 a3 a4:Option Addr}{n1 n2 n3 n4 c1 c2 c3 c4:Nat}{z1 z2 z3 z4:List Int}(s1 s2 e1 e2:Int)(w:World)(h1:aC w a1 n1 c1 z1)(h2:aC w a2 n2 c2 z2)(h3:aC w a3 n3 c3 z3)(h4:aC w a4 n4 c4 z4)(l1:n1<=1048576)(l2:n2<=1048576)(l3:n3<=1048576)(l4:n4<=1048576):
  Rt 58 #[.agg #[it s1,it s2,it e1,it e2,.slice a1 n1 c1,.slice a2 n2 c2,.slice a3 n3 c3,.slice a4 n4 c4]] w (it (M.Pf.rows (⟨(s1,s2),(e1,e2),z1,z2,z3,z4⟩:M.Pf):Nat)):=by
 obtain⟨q,hq⟩:∃q,q=n1/4:=⟨_,rfl⟩;have Da:=pG (p:=(⟨(s1,s2),(e1,e2),z1,z2,z3,z4⟩:M.Pf)) (q:=q) (by rw[hq];exact congrArg (·/ 4) h1.len.symm);have Ea:=pF (p:=(⟨(s1,s2),(e1,e2),z1,z2,z3,z4⟩:M.Pf)) (q:=q);dsimp only at Da Ea;rw[h1.len,h2.len,h3.len,h4.len]at Da Ea;have C1:=fd (q:Int);have C2:=cf (s1,s2);have C3:=cf (e1,e2);have D1:∀W,aC W a1 n1 c1 z1->Rq 60 #[.slice a1 n1 c1] W (.bool (M.allEl z1)):=λW hW=>ee W hW;have D2:∀W,aC W a2 n2 c2 z2->Rq 60 #[.slice a2 n2 c2] W (.bool (M.allEl z2)):=λW hW=>ee W hW;have D3:∀W,aC W a3 n3 c3 z3->Rq 60 #[.slice a3 n3 c3] W (.bool (M.allEl z3)):=λW hW=>ee W hW;have D4:∀W,aC W a4 n4 c4 z4->Rq 60 #[.slice a4 n4 c4] W (.bool (M.allEl z4)):=λW hW=>ee W hW;generalize M.Pf.rows (⟨(s1,s2),(e1,e2),z1,z2,z3,z4⟩:M.Pf)=R at *;generalize M.sOk (s1,s2)=o1 at C2 Da Ea;generalize M.sOk (e1,e2)=o2 at C3 Da Ea;generalize M.rows (q:Int)=o0 at C1 Da Ea;generalize M.allEl z1=p1 at D1 Da Ea;generalize M.allEl z2=p2 at D2 Da Ea;generalize M.allEl z3=p3 at D3 Da Ea;generalize M.allEl z4=p4 at D4 Da Ea;have Ba:=Hd Da;have Fa:=Hd Ea;have HQ:=Hd hq;have Ga:=Hd D1;have Ha:=Hd D2;have Ia:=Hd D3;have Ja:=Hd D4;have Ka:=Hd C1;have La:=Hd C2;have Na:=Hd C3;have H1:=Hd h1;have H2:=Hd h2;have H3:=Hd h3;have H4:=Hd h4;have Sa:(n1:Int).tdiv 4=(q:Int):=(by rw[Int.tdiv_eq_ediv_of_nonneg (by omega)];omega);have Ta:(n1:Int)<=1048576:=(by omega);have Ua:(n2:Int)<=1048576:=(by omega);have Va:(n3:Int)<=1048576:=(by omega);have Wa:(n4:Int)<=1048576:=(by omega);have Xa:(q:Int)<=262144:=(by omega);have HA:=cQ w (cX s1 s2 e1 e2 a1 n1 c1 a2 n2 c2 a3 n3 c3 a4 n4 c4) 35;have HB:H7 (m1 w (w.alloc (.cells (cX s1 s2 e1 e2 a1 n1 c1 a2 n2 c2 a3 n3 c3 a4 n4 c4).toArray 35))):=(m8 _ _).alloc (m3 _) _;clear Da Ea hq D1 D2 D3 D4 C1 C2 C3 h1 h2 h3 h4;go_enter func58,ntmps58;(go_wp2_with fail);refine(Ka.o _).mono ?_;rintro e wa ⟨rfl,Cb⟩;generalize(w.alloc (.cells (cX s1 s2 e1 e2 a1 n1 c1 a2 n2 c2 a3 n3 c3 a4 n4 c4).toArray 35))=wv at *;subst Cb;have x0:=HA.c 0;have x1:=HA.c 1;have x2:=HA.c 2;have x3:=HA.c 3;have x4:=HA.c 4;have x5:=HA.c 5;have x6:=HA.c 6;have x7:=HA.c 7
 cases o0 with
 | false=>
  have Aa:=Hd (cM Ba.o (λh=>absurd h.1 (by simp)));(try clear Ba);(try clear Fa);(try clear HQ);(try clear Ga);(try clear Ha);(try clear Ia);(try clear Ja);(try clear Ka);(try clear La);(try clear Na);(try clear H1);(try clear H2);(try clear H3);(try clear H4);(try clear HA);(try clear x0);(try clear x1);(try clear x2);(try clear x3);(try clear x4);(try clear x5);(try clear x6);(try clear x7);(try clear Sa);(try clear Ta);(try clear Ua);(try clear Va);(try clear Wa);(try clear Xa);(try clear l1);(try clear l2);(try clear l3);(try clear l4);(try clear Oa);(try clear Pa);(try clear Qa);(try clear Ra);rename_i Ca;refine Ca _ _ ?_;clear Ca;with_reducible refine de [10,11,18,19,27,28,36,37,45,46,51,52,57,58,63,64,69,70,75,76,81] ?_ ?_
  .kernel_rfl
  dsimp only[List.foldl];go_simp;go_wp2;go_ret;exact⟨by rw[Aa.o];rfl,HB.o⟩
 | true=>
  go_wp2_with fail
  rotate_left 1
  ·
   have Aa:=Hd (cM Ba.o (λh=>by have k1:=h.2.1;have k2:=h.2.2.1;have k3:=h.2.2.2.1;have k4:=h.2.2.2.2.1;omega));go_ret;exact⟨by rw[Aa.o];rfl,HB.o⟩
  ·
   have Aa:=Hd (cM Ba.o (λh=>by have k1:=h.2.1;have k2:=h.2.2.1;have k3:=h.2.2.2.1;have k4:=h.2.2.2.2.1;omega));go_ret;exact⟨by rw[Aa.o];rfl,HB.o⟩
  ·
   have Aa:=Hd (cM Ba.o (λh=>by have k1:=h.2.1;have k2:=h.2.2.1;have k3:=h.2.2.2.1;have k4:=h.2.2.2.2.1;omega));go_ret;exact⟨by rw[Aa.o];rfl,HB.o⟩
  ·
   have Aa:=Hd (cM Ba.o (λh=>by have k1:=h.2.1;have k2:=h.2.2.1;have k3:=h.2.2.2.1;have k4:=h.2.2.2.2.1;omega));go_ret;exact⟨by rw[Aa.o];rfl,HB.o⟩
  rename_i y1 y2 y3 y4 kk ak;have Oa:=Hd y1;have Pa:H7 (n2=n1):=(by show n2=n1;omega);have Qa:H7 (n3=n1):=(by show n3=n1;omega);have Ra:H7 (n4=n1):=(by show n4=n1;omega);refine(La.o _).mono ?_;rintro e wb ⟨rfl,Ya⟩;have Ab:=HA.b Ya;have Bb:=HB.t Ya;clear Ya HA HB;clear x0 x1 x2 x3 x4 x5 x6 x7;have HA:=Hd Ab.o;have HB:=Hd Bb.o;clear Ab Bb;have x0:=HA.c 0;have x1:=HA.c 1;have x2:=HA.c 2;have x3:=HA.c 3;have x4:=HA.c 4;have x5:=HA.c 5;have x6:=HA.c 6;have x7:=HA.c 7
  cases o1 with
  | false=>
   have Aa:=Hd (cM Ba.o (λh=>absurd h.2.2.2.2.2.1 (by simp)));(try clear Ba);(try clear Fa);(try clear HQ);(try clear Ga);(try clear Ha);(try clear Ia);(try clear Ja);(try clear Ka);(try clear La);(try clear Na);(try clear H1);(try clear H2);(try clear H3);(try clear H4);(try clear HA);(try clear x0);(try clear x1);(try clear x2);(try clear x3);(try clear x4);(try clear x5);(try clear x6);(try clear x7);(try clear Sa);(try clear Ta);(try clear Ua);(try clear Va);(try clear Wa);(try clear Xa);(try clear l1);(try clear l2);(try clear l3);(try clear l4);(try clear Oa);(try clear Pa);(try clear Qa);(try clear Ra);refine ak _ _ ?_;clear ak;with_reducible refine de [50,51,52,57,58,63,64,69,70,75,76,81] ?_ ?_
   .kernel_rfl
   dsimp only[List.foldl];go_simp;go_wp2;go_ret;exact⟨by rw[Aa.o];rfl,HB.o⟩
  | true=>
   (go_wp2_with fail);refine(Na.o _).mono ?_;rintro e wc ⟨rfl,Ya⟩;have Ab:=HA.b Ya;have Bb:=HB.t Ya;clear Ya HA HB;clear x0 x1 x2 x3 x4 x5 x6 x7;have HA:=Hd Ab.o;have HB:=Hd Bb.o;clear Ab Bb;have x0:=HA.c 0;have x1:=HA.c 1;have x2:=HA.c 2;have x3:=HA.c 3;have x4:=HA.c 4;have x5:=HA.c 5;have x6:=HA.c 6;have x7:=HA.c 7
   cases o2 with
   | false=>
    have Aa:=Hd (cM Ba.o (λh=>absurd h.2.2.2.2.2.2.1 (by simp)));(try clear Ba);(try clear Fa);(try clear HQ);(try clear Ga);(try clear Ha);(try clear Ia);(try clear Ja);(try clear Ka);(try clear La);(try clear Na);(try clear H1);(try clear H2);(try clear H3);(try clear H4);(try clear HA);(try clear x0);(try clear x1);(try clear x2);(try clear x3);(try clear x4);(try clear x5);(try clear x6);(try clear x7);(try clear Sa);(try clear Ta);(try clear Ua);(try clear Va);(try clear Wa);(try clear Xa);(try clear l1);(try clear l2);(try clear l3);(try clear l4);(try clear Oa);(try clear Pa);(try clear Qa);(try clear Ra);rename_i Ca;refine Ca _ _ ?_;clear Ca;with_reducible refine de [56,57,58,63,64,69,70,75,76,81] ?_ ?_
    .kernel_rfl
    dsimp only[List.foldl];go_simp;go_wp2;go_ret;exact⟨by rw[Aa.o];rfl,HB.o⟩
   | true=>
    (go_wp2_with fail);refine(Ga.o _ (H1.o.below HB.o)).mono ?_;rintro e wd ⟨rfl,Za⟩;subst Za
    cases p1 with
    | false=>
     have Aa:=Hd (cM Ba.o (λh=>absurd h.2.2.2.2.2.2.2.1 (by simp)));(try clear Ba);(try clear Fa);(try clear HQ);(try clear Ga);(try clear Ha);(try clear Ia);(try clear Ja);(try clear Ka);(try clear La);(try clear Na);(try clear H1);(try clear H2);(try clear H3);(try clear H4);(try clear HA);(try clear x0);(try clear x1);(try clear x2);(try clear x3);(try clear x4);(try clear x5);(try clear x6);(try clear x7);(try clear Sa);(try clear Ta);(try clear Ua);(try clear Va);(try clear Wa);(try clear Xa);(try clear l1);(try clear l2);(try clear l3);(try clear l4);(try clear Oa);(try clear Pa);(try clear Qa);(try clear Ra);rename_i Ca;refine Ca _ _ ?_;clear Ca;with_reducible refine de [62,63,64,69,70,75,76,81] ?_ ?_
     .kernel_rfl
     dsimp only[List.foldl];go_simp;go_wp2;go_ret;exact⟨by rw[Aa.o];rfl,HB.o⟩
    | true=>
     (go_wp2_with fail);refine(Ha.o _ (H2.o.below HB.o)).mono ?_;rintro e wd ⟨rfl,Za⟩;subst Za
     cases p2 with
     | false=>
      have Aa:=Hd (cM Ba.o (λh=>absurd h.2.2.2.2.2.2.2.2.1 (by simp)));(try clear Ba);(try clear Fa);(try clear HQ);(try clear Ga);(try clear Ha);(try clear Ia);(try clear Ja);(try clear Ka);(try clear La);(try clear Na);(try clear H1);(try clear H2);(try clear H3);(try clear H4);(try clear HA);(try clear x0);(try clear x1);(try clear x2);(try clear x3);(try clear x4);(try clear x5);(try clear x6);(try clear x7);(try clear Sa);(try clear Ta);(try clear Ua);(try clear Va);(try clear Wa);(try clear Xa);(try clear l1);(try clear l2);(try clear l3);(try clear l4);(try clear Oa);(try clear Pa);(try clear Qa);(try clear Ra);rename_i Ca;refine Ca _ _ ?_;clear Ca;with_reducible refine de [68,69,70,75,76,81] ?_ ?_
      .kernel_rfl
      dsimp only[List.foldl];go_simp;go_wp2;go_ret;exact⟨by rw[Aa.o];rfl,HB.o⟩
     | true=>
      (go_wp2_with fail);refine(Ia.o _ (H3.o.below HB.o)).mono ?_;rintro e wd ⟨rfl,Za⟩;subst Za
      cases p3 with
      | false=>
       have Aa:=Hd (cM Ba.o (λh=>absurd h.2.2.2.2.2.2.2.2.2.1 (by simp)));(try clear Ba);(try clear Fa);(try clear HQ);(try clear Ga);(try clear Ha);(try clear Ia);(try clear Ja);(try clear Ka);(try clear La);(try clear Na);(try clear H1);(try clear H2);(try clear H3);(try clear H4);(try clear HA);(try clear x0);(try clear x1);(try clear x2);(try clear x3);(try clear x4);(try clear x5);(try clear x6);(try clear x7);(try clear Sa);(try clear Ta);(try clear Ua);(try clear Va);(try clear Wa);(try clear Xa);(try clear l1);(try clear l2);(try clear l3);(try clear l4);(try clear Oa);(try clear Pa);(try clear Qa);(try clear Ra);rename_i Ca;refine Ca _ _ ?_;clear Ca;with_reducible refine de [74,75,76,81] ?_ ?_
       .kernel_rfl
       dsimp only[List.foldl];go_simp;go_wp2;go_ret;exact⟨by rw[Aa.o];rfl,HB.o⟩
      | true=>
       (go_wp2_with fail);refine(Ja.o _ (H4.o.below HB.o)).mono ?_;rintro e wd ⟨rfl,Za⟩;subst Za
       cases p4 with
       | false=>
        have Aa:=Hd (cM Ba.o (λh=>absurd h.2.2.2.2.2.2.2.2.2.2 (by simp)));(try clear Ba);(try clear Fa);(try clear HQ);(try clear Ga);(try clear Ha);(try clear Ia);(try clear Ja);(try clear Ka);(try clear La);(try clear Na);(try clear H1);(try clear H2);(try clear H3);(try clear H4);(try clear HA);(try clear x0);(try clear x1);(try clear x2);(try clear x3);(try clear x4);(try clear x5);(try clear x6);(try clear x7);(try clear Sa);(try clear Ta);(try clear Ua);(try clear Va);(try clear Wa);(try clear Xa);(try clear l1);(try clear l2);(try clear l3);(try clear l4);(try clear Oa);(try clear Pa);(try clear Qa);(try clear Ra);rename_i Ca;refine Ca _ _ ?_;clear Ca;with_reducible refine de [80,81] ?_ ?_
        .kernel_rfl
        dsimp only[List.foldl];go_simp;go_wp2;go_ret;exact⟨by rw[Aa.o];rfl,HB.o⟩
       | true=>
        go_wp2;go_ret;exact⟨by rw[Fa.o (by simp) Oa.o Pa.o Qa.o Ra.o (by simp) (by simp) (by simp) (by simp) (by simp) (by simp)];rfl,HB.o⟩
end Go.Proofs.YtbjalickbnpnkaaGreatDoor
