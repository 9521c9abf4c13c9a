import Derived.Test.YtbjalickbnpnkaaGreatDoorPk06
namespace Go.Proofs.YtbjalickbnpnkaaGreatDoor
open Go.RowKit Go.Proofs.Tryz
set_option linter.unusedSimpArgs false
set_option maxHeartbeats 32000000
variable {a g:Option Addr}{cap n cc m d c:Nat}{zs ys:List Int}{w:World}
theorem ku{len:Nat}(w:World)(hrow:Row .u8 w a len cap zs):
  Calls prog 10 #[.slice a len cap] w λe w'=>∃b n c l b2 n2 c2 l2,e=.returned (.tuple #[.slice b n c,.slice b2 n2 c2])/\n<=12/\n2<=5/\aA 2 w' w.heap.size b n c l/\aA 2 w' w.heap.size b2 n2 c2 l2/\m1 w w'/\l=(rx zs len 12 0).1/\l2=(rx zs len 5 (rx zs len 12 0).2).1:=by
 have HR:=Hd hrow;clear hrow;go_enter func10,ntmps10;(go_wp2_with fail);refine(lm _).mono ?_;rintro e w1 ⟨rfl,hr⟩;have Aa:=Hd hr;clear hr;(go_wp2_with fail);refine(qA HR.o 12 (by omega) _ Aa.o).mono ?_;rintro e w2 ⟨b,n,c,l,q2,rfl,hn,ho,hr,hg,hv⟩;have Ba:=Hd hr;have Ca:=Hd ho;have Da:=aI hv;clear hr hg ho hv;(go_wp2_with fail);refine(qA HR.o 5 (by omega) _ Ba.o).mono ?_;rintro e w3 ⟨b2,n2,c2,l2,q3,rfl,Fa,Ea,hr,hg,hv⟩;have Ga:=Hd hr;have Ha:=Hd ((Ca.o.keepR hg (Ca.o.past Aa.o.hi)).mono Aa.o.below.size);have Ia:=Hd (Ea.mono Ba.o.below.size);have Ja:=aI hv;clear hr hg Ea hv;go_wp2
 go_ret2
 exact⟨b,n,c,l,b2,n2,c2,l2,rfl,hn,Fa,Ha.o,Ia.o,Ga.o.below,by rw[Da.o],by rw[Da.o];dsimp only;rw[Ja.o]⟩
theorem aC.drew(h:aC w a n cap zs):aC w.drew a n cap zs:=h.of_cells λ_ _ hp _=>hp
theorem tj(w:World)(B:Nat)(u v x y:Value)(h0:w.cell? ⟨B,0,none⟩=some x)(h1:w.cell? ⟨B,1,none⟩=some y):
  ((w.setCell ⟨B,0,none⟩ u).setCell ⟨B,1,none⟩ v).cell? ⟨B,0,none⟩=some u/\((w.setCell ⟨B,0,none⟩ u).setCell ⟨B,1,none⟩ v).cell? ⟨B,1,none⟩=some v/\(∀p:Addr,p.block≠B->((w.setCell ⟨B,0,none⟩ u).setCell ⟨B,1,none⟩ v).cell? p=w.cell? p)/\(∀p,((w.setCell ⟨B,0,none⟩ u).setCell ⟨B,1,none⟩ v).frozen? p=w.frozen? p)/\((w.setCell ⟨B,0,none⟩ u).setCell ⟨B,1,none⟩ v).heap.size=w.heap.size:=by
 have a1:=(xQ (w:=w) (a:=⟨B,0,none⟩) (b:=⟨B,1,none⟩) (v:=u) (h:=by simp)).trans h1;have a0:=World.cell?_setCell_same (w:=w) (a:=⟨B,0,none⟩) (v:=u) (h:=h0);refine⟨?_,World.cell?_setCell_same (w:=w.setCell ⟨B,0,none⟩ u) (a:=⟨B,1,none⟩) (v:=v) (h:=a1),λp hp=>?_,λp=>by simp,by simp⟩
 .exact(xQ (w:=w.setCell ⟨B,0,none⟩ u) (a:=⟨B,1,none⟩) (b:=⟨B,0,none⟩) (v:=v) (h:=by simp)).trans a0
 ·
  refine(xQ (w:=w.setCell ⟨B,0,none⟩ u) (a:=⟨B,1,none⟩) (b:=p) (v:=v) (h:=?_)).trans (xQ (w:=w) (a:=⟨B,0,none⟩) (b:=p) (v:=u) (h:=?_))
  .intro e;exact hp (by rw[<-e])
  .intro e;exact hp (by rw[<-e])
theorem qO{Q R:List Int}{k:Nat}(hk:k<zs.length)(h:M.Div (zs.getD k 0::zs.drop (k+1)) ys Q R):M.Div (zs.drop k) ys Q R:=by
 rw[List.drop_eq_getElem_cons hk];rw[m5,m9 hk]at h;exact h
theorem qP{f g q r:List Int}(h:M.Div f g q r)(ag:M.allEl g=true)(ng:M.neat g):q.length<=f.length+1:=by
 rcases Nat.lt_or_ge (f.length+1) q.length with hl | hl
 ·
  exfalso
  have g0:0<g.length:=by have:=h.short;omega
  have e1:q.getD (q.length-1) 0≠0:=by
   rcases h.nq with x | x
   .omega
   .exact x
  have e2:g.getD (g.length-1) 0≠0:=by
   rcases ng with x | x
   .omega
   .exact x
  have Aa:=M.prod_ne ((M.el_iff _).2 (M.el_at h.aq _)) ((M.el_iff _).2 (M.el_at ag _)) e1 e2;rw[<-M.pm_lead q g (by omega) g0]at Aa;have he:=h.eq (q.length+g.length-2);have hs:=h.short;rw[M.getD_out (zs:=f) (by omega),M.getD_out (zs:=r) (by omega)]at he;have hb:=M.pm_bd q g (q.length+g.length-2);omega
 .exact hl
theorem pV(iv:Int)(RG RL:Nat)(w:World)(hz:aC w a n cc zs)(hg:aC w g m d ys)(az:M.allEl zs=true)(ay:M.allEl ys=true)(ny:M.neat ys)(hn:n<=128)(hm:m<=128)(hm0:0<m)(hiv:iv=M.inv (ys.getD (ys.length-1) 0))
 (hRG:w.cell? ⟨RG,0,none⟩=some (.slice g m d))(hRL:w.cell? ⟨RL,0,none⟩=some (it iv)):
  Calls prog 65 #[.slice a n cc,.agg #[.slice none 0 0,.slice none 0 0],.func (.func 66) #[] #[tG RG,tG RL]] w λe w'=>∃a1 l1 c1 a2 l2 c2 Q R,e=.returned (.agg #[.slice a1 l1 c1,.slice a2 l2 c2])/\aA 134 w' w.heap.size a1 l1 c1 Q/\aA 134 w' w.heap.size a2 l2 c2 R/\M.Div zs ys Q R/\m1 w w':=by
 have HZ:=Hd hz;have HG:=Hd hg;have Ta:=Hd az;have Fa:=Hd ay;have Ga:=Hd ny;have Ua:=Hd hiv;have Va:H7 (∀w',m1 w w'->w'.cell? ⟨RG,0,none⟩=some (.slice g m d)):=λw' hb=>(hb.cell (p:=⟨RG,0,none⟩) (xJ w _ hRG)).trans hRG;have Wa:H7 (∀w',m1 w w'->w'.cell? ⟨RL,0,none⟩=some (it iv)):=λw' hb=>(hb.cell (p:=⟨RL,0,none⟩) (xJ w _ hRL)).trans hRL
 have Ha:H7 (M.Div (zs.drop n) ys [] []):=by
  show M.Div _ _ _ _;rw[t' (by rw[hz.len];exact m3 _)];exact M.div_short (.inl rfl) rfl (by rw[hg.len];exact hm0)
 have Ia:H7 (m1 w ((w.alloc (.cells #[Value.slice none 0 0,Value.slice none 0 0] 84)).alloc (.cells #[Value.slice none 0 0,Value.slice none 0 0] 84))):=((m8 _ _).alloc (m3 _) _).alloc (by simp) _;clear hz hg az ay ny hiv hRG hRL;go_enter func65,ntmps65;go_wp2
 go_loopw [7] (λi wr=>∃(k:Nat) (qa:Option Addr) (qn qc:Nat) (ra:Option Addr) (rn rc:Nat) (Q R:List Int),k<=n/\i=it ((k:Int)-1)/\w.heap.size+2<=wr.heap.size/\wr.cell? ⟨w.heap.size,0,none⟩=some (.slice qa qn qc)/\wr.cell? ⟨w.heap.size,1,none⟩=some (.slice ra rn rc)/\wr.frozen? ⟨w.heap.size,0,none⟩=false/\wr.frozen? ⟨w.heap.size,1,none⟩=false/\
   wr.cell? ⟨w.heap.size+1,0,none⟩=some (.slice none 0 0)/\wr.cell? ⟨w.heap.size+1,1,none⟩=some (.slice none 0 0)/\wr.frozen? ⟨w.heap.size+1,0,none⟩=false/\wr.frozen? ⟨w.heap.size+1,1,none⟩=false/\
   aA 134 wr (w.heap.size+2) qa qn qc Q/\aA 134 wr (w.heap.size+2) ra rn rc R/\M.Div (zs.drop k) ys Q R/\m1 w wr) (λi _=>(intOf i+1).toNat)
 case atStart=>exact⟨n,none,0,0,none,0,0,[],[],m3 _,rfl,by simp,by simp,by simp,by simp,by simp,by simp,by simp,by simp,by simp,aA.empty _ _ _,aA.empty _ _ _,Ha.o,Ia.o⟩
 case round=>
  obtain⟨k,qa,qn,qc,ra,rn,rc,Q,R,hk,rfl,Ca,s0,s1,s2,s3,t0,t1,t2,t3,Ja,Ka,hd,hb⟩:=hrel;have Aa:=Hd Ja;have Da:=Hd Ka;have HD:=Hd hd;have HB:=Hd hb;clear Ja Ka hd hb Ha Ia;by_cases h0:0<k
  ·
   obtain⟨b1,o1,rfl,La⟩:=(HZ.o.below HB.o).at (by omega);have e1:=La (k-1) (by omega);have Na:=M.el_at Ta.o (k-1)
   have Xa:H7 (∀x Q' R',zs.getD (k-1) 0=x->M.Div (x::zs.drop k) ys Q' R'->M.Div (zs.drop (k-1)) ys Q' R'):=by
    intro x Q' R' hx h;refine qO (by rw[HZ.o.len];omega) ?_;rw[hx,show k-1+1=k by omega];exact h
   have Ya:qn<=1000:=by
    have h:=qP HD.o Fa.o Ga.o;rw[Aa.o.len,List.length_drop,HZ.o.len]at h;omega
   clear La;generalize hx:zs.getD (k-1) 0=x at e1 Na;have HX:=Hd hx;obtain⟨x0,x1⟩:=Na;have Gb:(0:Int)<=(k:Int)-1:=(by omega);have Hb:(k:Int)-1<(n:Int):=(by omega);have Za:H7 (∀W,m1 w W->aC W qa qn qc Q->aC W ra rn rc R->Calls prog 66 #[.agg #[.slice qa qn qc,.slice ra rn rc],it x,tG RG,tG RL] W λe w'=>∃a1 l1 c1 a2 l2 c2 Q' R',e=.returned (.agg #[.slice a1 l1 c1,.slice a2 l2 c2])/\aA 134 w' W.heap.size a1 l1 c1 Q'/\aA 134 w' W.heap.size a2 l2 c2 R'/\M.Div (x::zs.drop k) ys Q' R'/\m1 W w'):=λW hW h1 h2=>kU x iv RG RL W (HG.o.below hW) h1 h2 HD.o Fa.o Ga.o hm Ya x0 x1 Ua.o (Va.o W hW) (Wa.o W hW)
   have Ab:H7 (∀W,Below wr.drew.heap.size wr.drew W->W.cell? ⟨w.heap.size,0,none⟩=some (.slice qa qn qc)/\W.cell? ⟨w.heap.size,1,none⟩=some (.slice ra rn rc)/\W.frozen? ⟨w.heap.size,0,none⟩=false/\W.frozen? ⟨w.heap.size,1,none⟩=false/\W.cell? ⟨w.heap.size+1,0,none⟩=some (.slice none 0 0)/\W.cell? ⟨w.heap.size+1,1,none⟩=some (.slice none 0 0)/\W.frozen? ⟨w.heap.size+1,0,none⟩=false/\W.frozen? ⟨w.heap.size+1,1,none⟩=false):=by
    intro W hW;have hW':m1 wr W:=(m8 _ _).drew.trans hW;exact⟨(hW'.cell (p:=⟨w.heap.size,0,none⟩) (show w.heap.size<_ by omega)).trans s0,(hW'.cell (p:=⟨w.heap.size,1,none⟩) (show w.heap.size<_ by omega)).trans s1,(hW'.frozen (p:=⟨w.heap.size,0,none⟩) (show w.heap.size<_ by omega)).trans s2,(hW'.frozen (p:=⟨w.heap.size,1,none⟩) (show w.heap.size<_ by omega)).trans s3,(hW'.cell (p:=⟨w.heap.size+1,0,none⟩) (show w.heap.size+1<_ by omega)).trans t0,(hW'.cell (p:=⟨w.heap.size+1,1,none⟩) (show w.heap.size+1<_ by omega)).trans t1,(hW'.frozen (p:=⟨w.heap.size+1,0,none⟩) (show w.heap.size+1<_ by omega)).trans t2,(hW'.frozen (p:=⟨w.heap.size+1,1,none⟩) (show w.heap.size+1<_ by omega)).trans t3⟩
   clear hx;go_wp2
   go_region_with ((go_at_call 66;refine(Za.o _ HB.o.drew Aa.o.sees.drew Da.o.sees.drew).mono ?_;rintro e w2 ⟨a1,l1,c1,a2,l2,c2,Q',R',rfl,Oa,Pa,Qa,Ba⟩;obtain⟨g0,g1,g2,g3,g4,g5,g6,g7⟩:=Ab.o _ Ba))
   all_goals
    have Ra:=Hd (Oa.mono Ca);have Sa:=Hd (Pa.mono Ca);have Bb:=Hd (Xa.o x Q' R' HX.o Qa);have Cb:=Hd (HB.o.drew.trans (Ba.mono (show w.heap.size<=wr.heap.size by omega)));have Db:=Hd (tr Ca Ba.size);have Ea:H7 (_/\_/\_/\_/\_):=tj w2 w.heap.size (.slice a1 l1 c1) (.slice a2 l2 c2) _ _ g0 g1;have HF:H7 (w2.frozen? ⟨w.heap.size,0,none⟩=false/\w2.frozen? ⟨w.heap.size,1,none⟩=false/\w2.cell? ⟨w.heap.size+1,0,none⟩=some (.slice none 0 0)/\w2.cell? ⟨w.heap.size+1,1,none⟩=some (.slice none 0 0)/\w2.frozen? ⟨w.heap.size+1,0,none⟩=false/\w2.frozen? ⟨w.heap.size+1,1,none⟩=false):=⟨g2,g3,g4,g5,g6,g7⟩;clear Oa Pa Qa Ba g0 g1 g2 g3 g4 g5 g6 g7;go_wp2;go_roundw
    case rel=>
     obtain⟨u0,u1,u2,u3,u4⟩:=Ea.o;obtain⟨f0,f1,f2,f3,f4,f5⟩:=HF.o;refine⟨k-1,a1,l1,c1,a2,l2,c2,Q',R',by omega,by go_num,?_,u0,u1,(u3 _).trans f0,(u3 _).trans f1,(u2 _ (by simp)).trans f2,(u2 _ (by simp)).trans f3,(u3 _).trans f4,(u3 _).trans f5,?_,?_,Bb.o,(Cb.o.setCell (m3 _) _).setCell (m3 _) _⟩
     .rw[u4];exact Db.o
     ·
      have h:=Ra.o.lo;exact(Ra.o.other ⟨w.heap.size,0,none⟩ (λx hx=>by have:=h x hx;simp;omega) _).other ⟨w.heap.size,1,none⟩ (λx hx=>by have:=h x hx;simp;omega) _
     ·
      have h:=Sa.o.lo;exact(Sa.o.other ⟨w.heap.size,0,none⟩ (λx hx=>by have:=h x hx;simp;omega) _).other ⟨w.heap.size,1,none⟩ (λx hx=>by have:=h x hx;simp;omega) _
    case measure=>simp[intOf] <;> omega
  ·
   have Eb:k=0:=(by omega);subst Eb;have Fb:=Hd HD.o;have Ea:H7 (_/\_/\_/\_/\_):=tj wr (w.heap.size+1) (.slice qa qn qc) (.slice ra rn rc) _ _ t0 t1;go_wp2;obtain⟨u0,u1,u2,u3,u4⟩:=Ea.o;refine s' (v:=.agg #[.slice qa qn qc,.slice ra rn rc]) (by simp[results,results65,go_sem,t0,t1]) rfl ⟨qa,qn,qc,ra,rn,rc,Q,R,rfl,?_,?_,Fb.o,(HB.o.setCell (Nat.le_succ _) _).setCell (Nat.le_succ _) _⟩
   ·
    have h:=Aa.o.lo;exact((Aa.o.other ⟨w.heap.size+1,0,none⟩ (λx hx=>by have:=h x hx;simp;omega) _).other ⟨w.heap.size+1,1,none⟩ (λx hx=>by have:=h x hx;simp;omega) _).mono (by omega)
   ·
    have h:=Da.o.lo;exact((Da.o.other ⟨w.heap.size+1,0,none⟩ (λx hx=>by have:=h x hx;simp;omega) _).other ⟨w.heap.size+1,1,none⟩ (λx hx=>by have:=h x hx;simp;omega) _).mono (by omega)
theorem jK(w:World)(A B C:Array Value)(t1 t2 t3:TypeId)(i:Nat):
  (((w.alloc (.cells A t1)).alloc (.cells B t2)).alloc (.cells C t3)).cell? ⟨w.heap.size,i,none⟩=A[i]?/\(((w.alloc (.cells A t1)).alloc (.cells B t2)).alloc (.cells C t3)).cell? ⟨w.heap.size+1,i,none⟩=B[i]?/\(((w.alloc (.cells A t1)).alloc (.cells B t2)).alloc (.cells C t3)).cell? ⟨w.heap.size+1+1,i,none⟩=C[i]?/\(((w.alloc (.cells A t1)).alloc (.cells B t2)).alloc (.cells C t3)).frozen? ⟨w.heap.size+1,i,none⟩=false:=by
 have s1:(w.alloc (.cells A t1)).heap.size=w.heap.size+1:=(by simp);have s2:((w.alloc (.cells A t1)).alloc (.cells B t2)).heap.size=w.heap.size+1+1:=(by simp);refine⟨?_,?_,?_,?_⟩
 ·
  refine(World.cell?_alloc_lt (w:=(w.alloc (.cells A t1)).alloc (.cells B t2)) (o:=.cells C t3) (a:=⟨w.heap.size,i,none⟩) (h:=by rw[s2];simp;omega)).trans ((World.cell?_alloc_lt (w:=w.alloc (.cells A t1)) (o:=.cells B t2) (a:=⟨w.heap.size,i,none⟩) (h:=by rw[s1];simp)).trans ?_);rw[xu]
 ·
  refine(World.cell?_alloc_lt (w:=(w.alloc (.cells A t1)).alloc (.cells B t2)) (o:=.cells C t3) (a:=⟨w.heap.size+1,i,none⟩) (h:=by rw[s2];simp)).trans ?_;rw[<-s1,xu]
 .rw[<-s2,xu]
 .rw[frozen?_alloc_cells,frozen?_alloc_cells,frozen?_alloc_cells];simp[World.frozen?]
theorem lQ(w:World)(hz:aC w a n cc zs)(hg:aC w g m d ys)(az:M.allEl zs=true)(ay:M.allEl ys=true)(ny:M.neat ys)(hn:n<=128)(hm:m<=128)(hm0:0<m):
  Calls prog 32 #[.slice a n cc,.slice g m d] w λe w'=>∃a1 l1 c1 a2 l2 c2 Q R,e=.returned (.agg #[.slice a1 l1 c1,.slice a2 l2 c2])/\aA 134 w' w.heap.size a1 l1 c1 Q/\aA 134 w' w.heap.size a2 l2 c2 R/\M.Div zs ys Q R/\m1 w w':=by
 obtain⟨b2,o2,rfl,Ea⟩:=hg.at hm0;have l2:b2<w.heap.size:=xJ w _ (Ea 0 hm0);have cl:=Ea (m-1) (by omega);have Fa:=M.el_at ay (m-1)
 have gl:ys.getD (m-1) 0≠0:=by
  rcases ny with e | e
  .rw[hg.len]at e;omega
  .rw[hg.len]at e;exact e
 have Ia:H7 (M.pw (ys.getD (m-1) 0) 65535=M.inv (ys.getD (ys.length-1) 0)):=by
  show _=_;rw[hg.len,M.inv_in ((M.el_iff _).2 Fa) gl]
 have HZ:=Hd hz;have HG:=Hd hg;have Qa:=Hd az;have Ra:=Hd ay;have Sa:=Hd ny;generalize ys.getD (m-1) 0=x at cl Fa Ia;obtain⟨x0,x1⟩:=Fa;have Ua:1<=m:=(by omega);have Va:(0:Int)<=(m:Int)-1:=(by omega);have Wa:(m:Int)-1<(m:Int):=(by omega);clear hz hg az ay ny Ea gl;have Ba:H7 (m1 w (((w.alloc (.cells #[Value.slice (some ⟨b2,o2,none⟩) m d] 80)).alloc (.cells #[Value.slice none 0 0,Value.slice none 0 0] 84)).alloc (.cells #[it (M.pw x 65535)] 134))):=(((m8 _ _).alloc (m3 _) _).alloc (by simp) _).alloc (by simp;omega) _;have Ga:H7 ((((w.alloc (.cells #[Value.slice (some ⟨b2,o2,none⟩) m d] 80)).alloc (.cells #[Value.slice none 0 0,Value.slice none 0 0] 84)).alloc (.cells #[it (M.pw x 65535)] 134)).cell? ⟨w.heap.size,0,none⟩=some (.slice (some ⟨b2,o2,none⟩) m d)):=(jK w _ _ _ _ _ _ 0).1;have Ha:H7 ((((w.alloc (.cells #[Value.slice (some ⟨b2,o2,none⟩) m d] 80)).alloc (.cells #[Value.slice none 0 0,Value.slice none 0 0] 84)).alloc (.cells #[it (M.pw x 65535)] 134)).cell? ⟨w.heap.size+1+1,0,none⟩=some (it (M.pw x 65535))):=(jK w _ _ _ _ _ _ 0).2.2.1;have Ca:H7 ((((w.alloc (.cells #[Value.slice (some ⟨b2,o2,none⟩) m d] 80)).alloc (.cells #[Value.slice none 0 0,Value.slice none 0 0] 84)).alloc (.cells #[it (M.pw x 65535)] 134)).cell? ⟨w.heap.size+1,0,none⟩=some (.slice none 0 0)/\(((w.alloc (.cells #[Value.slice (some ⟨b2,o2,none⟩) m d] 80)).alloc (.cells #[Value.slice none 0 0,Value.slice none 0 0] 84)).alloc (.cells #[it (M.pw x 65535)] 134)).cell? ⟨w.heap.size+1,1,none⟩=some (.slice none 0 0)/\(((w.alloc (.cells #[Value.slice (some ⟨b2,o2,none⟩) m d] 80)).alloc (.cells #[Value.slice none 0 0,Value.slice none 0 0] 84)).alloc (.cells #[it (M.pw x 65535)] 134)).frozen? ⟨w.heap.size+1,0,none⟩=false/\(((w.alloc (.cells #[Value.slice (some ⟨b2,o2,none⟩) m d] 80)).alloc (.cells #[Value.slice none 0 0,Value.slice none 0 0] 84)).alloc (.cells #[it (M.pw x 65535)] 134)).frozen? ⟨w.heap.size+1,1,none⟩=false):=⟨(jK w _ _ _ _ _ _ 0).2.1,(jK w _ _ _ _ _ _ 1).2.1,(jK w _ _ _ _ _ _ 0).2.2.2,(jK w _ _ _ _ _ _ 1).2.2.2⟩;have Aa:H7 ((((w.alloc (.cells #[Value.slice (some ⟨b2,o2,none⟩) m d] 80)).alloc (.cells #[Value.slice none 0 0,Value.slice none 0 0] 84)).alloc (.cells #[it (M.pw x 65535)] 134)).heap.size=w.heap.size+3):=(by show _=_;simp);generalize Ja:(((w.alloc (.cells #[Value.slice (some ⟨b2,o2,none⟩) m d] 80)).alloc (.cells #[Value.slice none 0 0,Value.slice none 0 0] 84)).alloc (.cells #[it (M.pw x 65535)] 134))=wa at Ba Ga Ha Ca Aa;have Ka:=Hd Ja;clear Ja;go_enter func32,ntmps32;(go_wp2_with fail);refine(fA x _ x0 x1).mono ?_;rintro e w1 ⟨rfl,rfl⟩;(go_wp2_with fail);rw[Ka.o];refine(pV (M.pw x 65535) w.heap.size (w.heap.size+1+1) _ (HZ.o.below Ba.o) (HG.o.below Ba.o) Qa.o Ra.o Sa.o hn hm hm0 Ia.o Ga.o Ha.o).mono ?_;rintro e w2 ⟨a1,l1,c1,a2,l2,c2,Q,R,rfl,La,Na,hd,Da⟩;have Oa:H7 (aA 134 w2 (w.heap.size+3) a1 l1 c1 Q):=(by show aA _ _ _ _ _ _ _;rw[<-Aa.o];exact La);have Pa:H7 (aA 134 w2 (w.heap.size+3) a2 l2 c2 R):=(by show aA _ _ _ _ _ _ _;rw[<-Aa.o];exact Na);have HD:=Hd hd;have Ta:=Ba.t Da;have t0:=(Da.cell (p:=⟨w.heap.size+1,0,none⟩) (show w.heap.size+1<_ by rw[Aa.o];omega)).trans Ca.o.1;have t1:=(Da.cell (p:=⟨w.heap.size+1,1,none⟩) (show w.heap.size+1<_ by rw[Aa.o];omega)).trans Ca.o.2.1;have t2:=(Da.frozen (p:=⟨w.heap.size+1,0,none⟩) (show w.heap.size+1<_ by rw[Aa.o];omega)).trans Ca.o.2.2.1;have t3:=(Da.frozen (p:=⟨w.heap.size+1,1,none⟩) (show w.heap.size+1<_ by rw[Aa.o];omega)).trans Ca.o.2.2.2;clear La Na hd Da Ga Ha Ca Ka Ba;go_wp2;refine s' (v:=.agg #[.slice a1 l1 c1,.slice a2 l2 c2]) (by simp[results,results32,go_sem,t0,t1]) rfl ⟨a1,l1,c1,a2,l2,c2,Q,R,rfl,?_,?_,HD.o,(Ta.o.setCell (Nat.le_succ _) _).setCell (Nat.le_succ _) _⟩
 ·
  have h:=Oa.o.lo;exact((Oa.o.other ⟨w.heap.size+1,0,none⟩ (λx hx=>by have:=h x hx;simp;omega) _).other ⟨w.heap.size+1,1,none⟩ (λx hx=>by have:=h x hx;simp;omega) _).mono (by omega)
 ·
  have h:=Pa.o.lo;exact((Pa.o.other ⟨w.heap.size+1,0,none⟩ (λx hx=>by have:=h x hx;simp;omega) _).other ⟨w.heap.size+1,1,none⟩ (λx hx=>by have:=h x hx;simp;omega) _).mono (by omega)
theorem ll{wc:World}(hb:m1 w wc)(hz:aC w a n c zs)(hn:n<=1048576):
  Calls prog 33 #[.slice a n c] wc λe w'=>∃a' cap',e=.returned (.slice a' n cap')/\aA 2 w' wc.heap.size a' n cap' zs/\m1 w w'/\m1 wc w':=
 (iK wc (hz.below hb) hn).mono λ_ _ ⟨a',cap',he,ho,hbl⟩=>⟨a',cap',he,ho,hb.trans (hbl.mono hb.size),hbl⟩
theorem gK{b:Option Addr}(w:World)(hz:aC w a n c zs)(hy:aC w b m d ys):
  Calls prog 11 #[.slice a n c,.slice b m d] w λe w'=>∃a1 l1 c1 a2 l2 c2 q r,e=.returned (.tuple #[.slice a1 l1 c1,.slice a2 l2 c2,.bool (M.divOk zs ys)])/\l1<=128/\l2<=128/\M.DivRes zs ys q r/\aA 2 w' w.heap.size a1 l1 c1 q/\aA 2 w' w.heap.size a2 l2 c2 r/\(∀x y,a1=some x->a2=some y->x.block≠y.block)/\m1 w w':=by
 have Na:=hz.len;have Da:=hy.len;have HZ:=Hd hz;have HY:=Hd hy;clear hz hy
 cases hb:M.both zs ys with
 | false=>
  have E:H7 (M.divOk zs ys=false):=(by show _=_;simp[M.divOk,hb]);have Ha:=Hd hb;clear Na Da hb;go_enter func11,ntmps11;(go_wp2_with fail);refine(qB _ HZ.o HY.o Ha.o).mono ?_;rintro e w ⟨rfl,rfl⟩;go_wp2
  go_ret3
  exact⟨none,0,0,none,0,0,[],[],by rw[E.o];rfl,by omega,by omega,.inr ⟨E.o,rfl,rfl⟩,aA.empty _ _ _,aA.empty _ _ _,(λx y h=>by cases h),m8 _ _⟩
 | true=>
  have Ha:=Hd hb;obtain⟨h1,h2⟩:=M.both_parts hb;have Oa:=Hd (M.polyOk_parts h1);have Ia:=Hd (M.polyOk_parts h2);have Ua:=Hd (M.neat_polyOk h2);have hn:n<=128:=(by have:=Oa.o.1;omega);have hm:m<=128:=(by have:=Ia.o.1;omega);by_cases h0:m=0
  ·
   have E:H7 (M.divOk zs ys=false):=(by show _=_;simp[M.divOk,Da,h0]);have bm:((m:Int)==0)=true:=(by simp[h0]);clear Na Da hb h1 h2 h0;go_enter func11,ntmps11;(go_wp2_with fail);refine(lv _ HZ.o HY.o Ha.o).mono ?_;rintro e w1 ⟨a1,b1,c1,d1,rfl,Ja,Ka,Ea⟩;have La:=Hd Ea;clear Ja Ka Ea;go_wp2
   go_ret3
   exact⟨none,0,0,none,0,0,[],[],by rw[E.o];rfl,by omega,by omega,.inr ⟨E.o,rfl,rfl⟩,aA.empty _ _ _,aA.empty _ _ _,(λx y h=>by cases h),La.o⟩
  ·
   have E:H7 (M.divOk zs ys=true):=(by show _=_;simp[M.divOk,hb,Da,h0]);have bm:((m:Int)==0)=false:=(by simp[h0]);have Fb:0<m:=(by omega);clear Na Da hb h1 h2 h0;go_enter func11,ntmps11;(go_wp2_with fail);refine(lv _ HZ.o HY.o Ha.o).mono ?_;rintro e w1 ⟨a1,b1,c1,d1,rfl,Ja,Ka,Ea⟩;have Gb:=Hd Ja;have Hb:=Hd Ka;have La:=Hd Ea;clear Ja Ka Ea;(go_wp2_with fail);refine(lQ _ Gb.o.sees Hb.o.sees Oa.o.2 Ia.o.2 Ua.o hn hm Fb).mono ?_;rintro e w2 ⟨qa,qn,qc,ra,rn,rc,Q,R,rfl,Pa,Qa,hd,Va⟩;have hl:=tv hd Oa.o.1 Ia.o.1 Ia.o.2 Ua.o;have Wa:qn<=128:=(by rw[<-Pa.len];exact hl.1);have Xa:rn<=128:=(by rw[<-Qa.len];exact hl.2);have Ib:=Hd Pa;have Jb:=Hd Qa;have HD:=Hd hd;have Ya:=La.t Va;clear Pa Qa hd Va hl;have Nb:Below (w2.alloc (.cells #[Value.slice qa qn qc,Value.slice ra rn rc] 84)).heap.size (w2.alloc (.cells #[Value.slice qa qn qc,Value.slice ra rn rc] 84)) (w2.alloc (.cells #[Value.slice qa qn qc,Value.slice ra rn rc] 84)).drew:=(m8 _ _).drew;have Kb:H7 (aC (w2.alloc (.cells #[Value.slice qa qn qc,Value.slice ra rn rc] 84)) qa qn qc Q):=(Ib.o.below ((m8 _ _).alloc (m3 _) _)).sees;have Lb:H7 (aC (w2.alloc (.cells #[Value.slice qa qn qc,Value.slice ra rn rc] 84)) ra rn rc R):=(Jb.o.below ((m8 _ _).alloc (m3 _) _)).sees;have Aa:H7 (m1 w (w2.alloc (.cells #[Value.slice qa qn qc,Value.slice ra rn rc] 84))):=Ya.o.alloc Ya.o.size _
   have Za:H7 (∀W,Below (w2.alloc (.cells #[Value.slice qa qn qc,Value.slice ra rn rc] 84)).heap.size (w2.alloc (.cells #[Value.slice qa qn qc,Value.slice ra rn rc] 84)) W->W.cell? ⟨w2.heap.size,0,none⟩=some (.slice qa qn qc)/\W.cell? ⟨w2.heap.size,1,none⟩=some (.slice ra rn rc)):=λW hW=>by
    have hs:w2.heap.size<(w2.alloc (.cells #[Value.slice qa qn qc,Value.slice ra rn rc] 84)).heap.size:=(by simp);refine⟨(hW.cell (p:=⟨w2.heap.size,0,none⟩) hs).trans ?_,(hW.cell (p:=⟨w2.heap.size,1,none⟩) hs).trans ?_⟩
    .rw[xu];rfl
    .rw[xu];rfl
   go_wp2
   go_region_with (first
    | (go_at_call_of 33 (Value.slice qa qn qc);refine(ll (by assumption) Kb.o (by omega)).mono ?_;rintro e wq ⟨ea,ec,rfl,Ba,Fa,Ra⟩;(try have hof2:=Ca.below Ra);have zq:=Za.o _ Fa;obtain⟨Ab,Bb⟩:=zq)
    | (go_at_call_of 33 (Value.slice ra rn rc);refine(ll (by assumption) Lb.o (by omega)).mono ?_;rintro e wf ⟨fa,fc,rfl,Ca,Ga,Sa⟩;(try have hoe2:=Ba.below Sa);have zr:=Za.o _ Ga;obtain⟨Cb,Db⟩:=zr))
   all_goals
    have Eb:H7 (∀x y,ea=some x->fa=some y->x.block≠y.block):=λx y hx hy=>by
     have h1:=Ba.hi x hx;have h2:=Ca.lo y hy;have h3:=Ba.lo x hx;have h4:=Ca.hi y hy;omega
    first
     | (have HE:=Hd (hoe2.mono Aa.o.size);have HF:=Hd (Ca.mono (tr Aa.o.size Fa.size));have Ta:=Aa.t Ga;clear Ba Ca Fa Ga Ra Sa hoe2 Ab Bb Cb Db;go_wp2;go_ret3;exact⟨ea,qn,ec,fa,rn,fc,Q,R,by rw[E.o];rfl,Wa,Xa,.inl ⟨E.o,HD.o⟩,HE.o,HF.o,Eb.o,Ta.o⟩)
     | (have HF:H7 (aA 2 wq w.heap.size fa rn fc R):=hof2.mono Aa.o.size;have HE:H7 (aA 2 wq w.heap.size ea qn ec Q):=Ba.mono (tr Aa.o.size Ga.size);have Ta:H7 (m1 w wq):=Aa.o.trans (Fa.mono Aa.o.size);clear Ba Ca Fa Ga Ra Sa hof2 Ab Bb Cb Db;go_wp2;go_ret3;exact⟨ea,qn,ec,fa,rn,fc,Q,R,by rw[E.o];rfl,Wa,Xa,.inl ⟨E.o,HD.o⟩,HE.o,HF.o,Eb.o,Ta.o⟩)
end Go.Proofs.YtbjalickbnpnkaaGreatDoor
