import Derived.Laws.EntriesVeiled
import Derived.Test.YtbjalickbnpnkaaGreatDoorPk03
namespace Go.Proofs.YtbjalickbnpnkaaGreatDoor
open Go.RowKit Go.Proofs.Tryz
set_option linter.unusedSimpArgs false
set_option maxHeartbeats 32000000
variable {g f q r zs v x y:List Int}{a b s:Int}{n c j lc pc N RL RF RP k i:Nat}{la pa:Option Addr}
namespace M
theorem div_exists(ag:allEl g=true)(ng:neat g)(g0:0<g.length)(f:List Int)(af:allEl f=true):∃q r,Div f g q r:=by
 induction f with
 | nil=>exact⟨[],[],div_short (.inl rfl) rfl g0⟩
 | cons c f ih=>
  have hc:=(el_iff c).1 (by unfold allEl at af;rw[List.all_cons]at af;simp only[xP]at af;exact af.1);have hf:allEl f=true:=(by unfold allEl at af |-;rw[List.all_cons]at af;simp only[xP]at af;exact af.2);obtain⟨q,r,h⟩:=ih hf
  have hl:(trim (c::r)).length<=g.length:=by
   have h1:=len_trim (c::r);rw[List.length_cons]at h1;have h2:=h.short;omega
  by_cases hs:(trim (c::r)).length=g.length
  .exact⟨_,_,horner_full ag ng hc h hs _ rfl⟩
  .exact⟨_,_,horner_short hc h (by omega)⟩
theorem div_ev(h:Div f g q r)(x:Int):ev f x=(ev q x*ev g x+ev r x)%65537:=by
 have e:ev f x=ev (padd (pmul q g) r) x:=ev_ext x λi=>by rw[padd_getD,pmul_getD];exact h.eq i
 rw[e,ev_padd,ev_pmul];omega
def lin(a:Int):List Int:=[(65537-a)%65537,1]
theorem lin_all(a:Int):allEl (lin a)=true:=by
 unfold lin allEl;simp only[List.all_cons,List.all_nil,Bool.and_true,xP];exact⟨el_mod _,by decide⟩
theorem lin_neat(a:Int):neat (lin a):=.inr (by show(1:Int)≠0;decide)
theorem lin_ev(a x:Int):ev (lin a) x=(x+(65537-a))%65537:=by
 show((0*x+1)%65537*x+(65537-a)%65537)%65537=_;rw[Int.zero_mul];show(1*x+(65537-a)%65537)%65537=_;rw[Int.one_mul];omega
theorem roots_few(L:Nat):∀(D xs:List Int),neat D->allEl D=true->D.length=L+1->xs.Nodup->(∀x∈xs,0<=x/\x<65537/\ev D x=0)->xs.length<=L:=by
 induction L with
 | zero=>
  intro D xs hn ha hl _ hr
  cases xs with
  | nil=>exact m3 _
  | cons a t=>
   exfalso
   have h:=(hr a (by simp)).2.2
   match D,hl with
   | [c],_=>
    have hc:c≠0:=by
     rcases hn with e | e
     .simp at e
     .exact e
    have hb:=el_at ha 0;have hb':0<=c/\c<65537:=hb;have h2:(0*a+c)%65537=0:=h;rw[Int.zero_mul]at h2;omega
 | succ L ih=>
  intro D xs hn ha hl hd hr
  cases xs with
  | nil=>exact Nat.zero_le _
  | cons a t=>
   have Ca:=hr a (by simp);obtain⟨q,r,h⟩:=div_exists (lin_all a) (lin_neat a) (by simp[lin]) D ha;have Da:r.length<2:=h.short;have e0:=div_ev h a;have l0:ev (lin a) a=0:=(by rw[lin_ev];omega);rw[Ca.2.2,l0,Int.mul_zero,Int.zero_add]at e0;have Ha:=ev_bd r a;have er:ev r a=0:=by omega
   have Ea:r=[]:=by
    match r,Da,h.nr,h.ar,er with
    | [],_,_,_,_=>rfl
    | [c],_,nr,ar,er=>
     exfalso
     have hb:0<=c/\c<65537:=el_at ar 0;have h2:(0*a+c)%65537=0:=er;rw[Int.zero_mul]at h2
     rcases nr with e | e
     .simp at e
     .apply e;show c=0;omega
   subst Ea
   have Fa:0<q.length:=by
    rcases Nat.eq_zero_or_pos q.length with e | e
    ·
     exfalso
     have hq:=List.eq_nil_of_length_eq_zero e;subst hq
     rcases hn with e2 | e2
     .omega
     .apply e2;rw[h.eq];rfl
    .exact e
   have Ga:q.length=L+1:=by
    have hp:D=pmul q (lin a):=neat_ext hn (neat_pmul _ _) λi=>by
     rw[pmul_getD,h.eq];have:=pm_bd q (lin a) i;show(pm q (lin a) i+0)%65537=_;omega
    have h1:=pmul_full h.aq (lin_all a) h.nq (lin_neat a) Fa (by simp[lin]);rw[<-hp,hl]at h1;simp only[lin,List.length_cons,List.length_nil]at h1;omega
   have Ba:=List.nodup_cons.1 hd
   have Ia:=ih q t h.nq h.aq Ga Ba.2 λx hx=>by
    have Aa:=hr x (by simp[hx]);refine⟨Aa.1,Aa.2.1,?_⟩;have e1:=div_ev h x;have lx:=lin_ev a x;have Ja:x≠a:=λe=>Ba.1 (by rw[<-e];exact hx);have hb:=ev_bd (lin a) x;have l1:ev (lin a) x≠0:=by rw[lx];omega
    have e2:ev q x*ev (lin a) x%65537=0:=by
     rw[Aa.2.2]at e1;have e3:ev ([]:List Int) x=0:=rfl;rw[e3,Int.add_zero]at e1;exact e1.symm
    rcases Int.lt_trichotomy (ev q x) 0 with hc | hc | hc
    .have:=(ev_bd q x).1;omega
    .exact hc
    ·
     exfalso
     exact prod_ne ((el_iff _).2 (ev_bd q x)) ((el_iff _).2 hb) (by omega) l1 e2
   simp only[List.length_cons];omega
theorem pscale_len'(zs:List Int)(c:Int):(pscale zs c).length=zs.length:=by simp[pscale]
theorem interp_unique{h xs:List Int}(nf:neat f)(nh:neat h)(af:allEl f=true)(ah:allEl h=true)(lf:f.length<=xs.length)(lh:h.length<=xs.length)(hd:xs.Nodup)(hx:∀x∈xs,0<=x/\x<65537/\ev f x=ev h x):f=h:=by
 have hD:trim (padd f (pscale h 65536))=[]:=by
  rcases Nat.eq_zero_or_pos (trim (padd f (pscale h 65536))).length with e | e
  .exact List.eq_nil_of_length_eq_zero e
  ·
   exfalso
   obtain⟨L,hL⟩:∃L,(trim (padd f (pscale h 65536))).length=L+1:=⟨(trim (padd f (pscale h 65536))).length-1,by omega⟩
   have h1:=roots_few L _ xs (neat_trim _) (all_trim (all_padd _ _)) hL hd λx hxx=>by
    obtain⟨a,b,c⟩:=hx x hxx;refine⟨a,b,?_⟩;rw[ev_trim,ev_padd,ev_pscale,c];have:=ev_bd h x;omega
   have h2:=len_trim (padd f (pscale h 65536));rw[padd_len,pscale_len',hL]at h2;omega
 refine neat_ext nf nh λi=>?_;have hi:(trim (padd f (pscale h 65536))).getD i 0=0:=(by rw[hD];rfl);rw[getD_trim,padd_getD,pscale_getD]at hi;have a1:=el_at af i;have a2:=el_at ah i;omega
end M
def kF(zs ys:List Int):List Int:=M.tab zs.length (λi=>zs.getD i 0*ys.getD i 0%65537)
theorem mj{a b:Option Addr}{m d:Nat}{ys:List Int}(w:World)(hz:aC w a n c zs)(hy:aC w b m d ys)(az:M.allEl zs=true)(ay:M.allEl ys=true)(hm:m=n)(hn:n<=1048576):
  Calls prog 175 #[.slice a n c,.slice b m d] w λe w'=>∃a' c',e=.returned (.slice a' n c')/\aA 134 w' w.heap.size a' n c' (kF zs ys)/\m1 w w':=by
 subst hm;have HZ:=Hd hz;have HY:=Hd hy;have HA:=Hd az;have HB:=Hd ay;obtain⟨i0,hi,Da,Ea,Fa⟩:=info_parts cJ;have HI:H7 (prog.info? 134=some i0/\i0.zero=some (it 0)/\i0.size=1/\i0.bytes=8):=⟨hi,Da,Ea,Fa⟩;clear hz hy az ay;go_enter func175,ntmps175;(go_wp2_with(at_make;refine wpList_make_own _ rfl _ _ 79 rfl w.heap.size 134 i0 (it 0) 1 underlying79 hi Da Ea .i64 .i64 _ m rfl rfl rfl (by rw[Fa];omega) (by unfold maxLen;omega) (m3 _) ?_));intro w1 Aa hg;have HO:=Hd Aa;have Ia:=Hd (ba hg);clear Aa hg hi Da Ea Fa;go_wp2
 go_loopw [5,13] (λs i wr=>∃(k:Nat) (a':Option Addr) (Ba:Nat),k<=m/\i=it k/\s=.slice a' k Ba/\aA 134 wr w.heap.size a' k Ba (M.tab k (λi=>zs.getD i 0*ys.getD i 0%65537))/\m1 w wr) (λ_ i _=>m-(intOf i).toNat)
 case atStart=>exact⟨0,_,_,by omega,rfl,rfl,HO.o,Ia.o⟩
 case round=>
  obtain⟨k,a',Ba,hk,rfl,rfl,Ja,Ga⟩:=hrel;have Ha:=Hd Ja;have Ca:=Hd Ga;have Sa:=Ga.size;clear Ja Ga HO Ia;by_cases Ka:k<m
  ·
   obtain⟨b1,o1,rfl,La⟩:=(HZ.o.below Ca.o).at (by omega);obtain⟨b2,o2,rfl,Na⟩:=(HY.o.below Ca.o).at (by omega);have c1:=La k Ka;have c2:=Na k Ka;have Oa:=M.el_at HA.o k;have Pa:=M.el_at HB.o k;have HS:=Hd (dN k (λi=>zs.getD i 0*ys.getD i 0%65537));generalize zs.getD k 0=x at c1 Oa HS;generalize ys.getD k 0=y at c2 Pa HS;obtain⟨x0,x1⟩:=Oa;obtain⟨y0,y1⟩:=Pa;have hI:(k:Int)<(m:Int):=(by omega);clear La Na;(go_wp2_with fail);refine(bI x y _ x0 x1 y0 y1).mono ?_;rintro e wr ⟨rfl,rfl⟩;(go_wp2_with(at_builtin;refine wpList_append_own _ rfl _ _ 79 rfl w.heap.size 134 i0 (it 0) 1 8 underlying79 HI.o.1 HI.o.2.1 HI.o.2.2.1 HI.o.2.2.2 rfl (by decide) _ k ((M.tab k (λi=>zs.getD i 0*ys.getD i 0%65537)).map (Value.int .i64)) rfl (xY Ha.o _) ⟨wr.heap.size,0,none⟩ 1 1 [it (x*y%65537)] rfl rfl (br wr _ _) (bL _) (by unfold maxLen;omega) (by omega) (by simp;omega) ?_));intro v' w1 Aa Qa _;have hown':w1.ownsRow w.heap.size 134 1 v' (k+1) ((M.tab (k+1) (λi=>zs.getD i 0*ys.getD i 0%65537)).map (Value.int .i64)):=(by rw[<-HS.o,xU];exact Aa);obtain⟨a2,Ta,rfl,Ra⟩:=aA.form hown';have Ua:=Hd Ra;have Va:=Hd (Ca.o.grown ((xC wr _ _).trans Qa) Sa Ha.o.row);clear Aa hown' Qa Ra;go_wp2;go_roundw
   case rel=>exact⟨k+1,a2,Ta,by omega,by go_num,rfl,Ua.o,Va.o⟩
   case measure=>simp[intOf];omega
  ·
   have Wa:k=m:=(by omega);subst Wa;go_wp2;go_ret;exact⟨a',Ba,rfl,by unfold kF;rw[HZ.o.len];exact Ha.o,Ca.o⟩
theorem aA.one(t:TypeId)(w:World)(x:Int):aA t (w.alloc (.cells #[it x] t)) w.heap.size (some ⟨w.heap.size,0,none⟩) 1 1 [x]:=by
 refine⟨by simp,.inr ⟨w.heap.size,1,#[it x],rfl,m3 _,?_,m3 _,by unfold maxLen;omega,by simp,by simp⟩⟩;unfold World.alloc;simp
def dT(X:Nat->Int)(c j:Nat):List Int:=M.tab (2*c) (λi=>if i<j\/(c<=i/\i<c+j)then X i else 0)
theorem nF(X:Nat->Int)(c:Nat):List.replicate (2*c) 0=dT X c 0:=by
 refine M.tab_ext (by simp) λi hi=>?_;rw[if_neg (by omega),m5,m9 (by simpa using hi)];simp
theorem nD(X:Nat->Int)(h:j<c):((dT X c j).set j (X j)).set (j+c) (X (j+c))=dT X c (j+1):=by
 unfold dT;rw[d7,d7];refine bv λi hi=>?_;by_cases e1:i=j+c
 .subst e1;rw[if_pos rfl,if_pos (by omega)]
 ·
  rw[if_neg e1];by_cases e2:i=j
  .subst e2;rw[if_pos rfl,if_pos (by omega)]
  ·
   rw[if_neg e2];by_cases e3:i<j\/(c<=i/\i<c+j)
   .rw[if_pos e3,if_pos (by omega)]
   .rw[if_neg e3,if_neg (by omega)]
theorem pt(X:Nat->Int)(c:Nat):dT X c c=M.tab (2*c) X:=bv λi hi=>if_pos (by omega)
def pM(w:World)(la:Option Addr)(lc:Nat)(pa:Option Addr)(pc N RL RF RP:Nat)(zs:List Int)(r:Int):Prop:=
 aC w la N lc zs/\aC w pa N pc (M.gp 1 r N)/\w.cell? ⟨RL,0,none⟩=some (.slice la N lc)/\w.cell? ⟨RF,0,none⟩=some (.func (.func 200) #[] #[tG RL,tG RF,tG RP])/\w.cell? ⟨RP,0,none⟩=some (.slice pa N pc)
theorem pM.below{w w':World}{r:Int}(h:pM w la lc pa pc N RL RF RP zs r)(hb:m1 w w'):pM w' la lc pa pc N RL RF RP zs r:=by
 obtain⟨h1,h2,h3,h4,h5⟩:=h;exact⟨h1.below hb,h2.below hb,(hb.cell (p:=⟨RL,0,none⟩) (xJ w _ h3)).trans h3,(hb.cell (p:=⟨RF,0,none⟩) (xJ w _ h4)).trans h4,(hb.cell (p:=⟨RP,0,none⟩) (xJ w _ h5)).trans h5⟩
theorem vJ{r:Int}(hN:N<=1000)(az:M.allEl zs=true)(hr:∀h,N=2*h->M.cg (r ^ h) (-1))(k:Nat):
  ∀(c:Nat),c=2 ^ k->∀(f s:Nat) (w:World),s*c=N->f<s->pM w la lc pa pc N RL RF RP zs r->
  Calls prog 200 #[.int .i64 f,.int .i64 s,.pointer (some ⟨RL,0,none⟩),.pointer (some ⟨RF,0,none⟩),.pointer (some ⟨RP,0,none⟩)] w λe w'=>∃a' c',e=.returned (.slice a' c c')/\aA 134 w' w.heap.size a' c c' (M.tab c (M.fv (λi=>zs.getD i 0) r f s c))/\m1 w w':=by
 induction k with
 | zero=>
  intro c hc f s w hs hf Ca;rw[Nat.pow_zero]at hc;subst hc;rw[Nat.mul_one]at hs;subst hs;obtain⟨h1,h2,h3,h4,h5⟩:=Ca;obtain⟨b1,o1,rfl,Da⟩:=h1.at (by omega);have c1:=Da f hf;have Ba:=M.el_at az f
  have HV:H7 ([zs.getD f 0]=M.tab 1 (M.fv (λi=>zs.getD i 0) r f s 1)):=by
   show _=_;have:=M.fv_one (λi=>zs.getD i 0) r f s Ba.1 Ba.2;rw[show M.tab 1 (M.fv (λi=>zs.getD i 0) r f s 1)=[M.fv (λi=>zs.getD i 0) r f s 1 0]from rfl,<-this]
  generalize zs.getD f 0=x at c1 HV;have Ga:((s:Int)==(s:Int))=true:=(by simp);have hI:(f:Int)<(s:Int):=(by omega);clear Da h1 h2 h4 h5 Ba;go_enter func200,ntmps200;go_wp2;go_ret;refine⟨_,1,rfl,?_,(m8 _ _).alloc (m3 _) _⟩;rw[<-HV.o];exact aA.one _ _ _
 | succ k ih=>
  intro c2 Ja f s w hs hf Ca;obtain⟨c,hc⟩:∃c,c=2 ^ k:=⟨_,rfl⟩;have Ka:0<c:=(by rw[hc];exact Nat.pow_pos (by omega));have e2:c2=2*c:=(by rw[Ja,hc,Nat.pow_succ,Nat.mul_comm]);subst e2;obtain⟨s2,Ha⟩:∃s2,s2=2*s:=⟨_,rfl⟩;obtain⟨f2,La⟩:∃f2,f2=f+s:=⟨_,rfl⟩;have Za:s2*c=N:=(by rw[Ha,<-hs];grind);have Qb:s*c*2=N:=by rw[<-hs];grind
  have Yb:s<N:=by
   have:=Nat.mul_le_mul_left s Ka;omega
  have Rb:H7 (∀j,j<c->(M.fv (λi=>zs.getD i 0) r f s2 c j+M.fv (λi=>zs.getD i 0) r f2 s2 c j*(1*r ^ (j*s)%65537)%65537)%65537=M.fv (λi=>zs.getD i 0) r f s (2*c) j):=λj _=>by
   rw[Ha,La,Int.one_mul];exact M.fv_lo _ r f s c j
  have Sb:H7 (∀j,j<c->(M.fv (λi=>zs.getD i 0) r f s2 c j+65537-M.fv (λi=>zs.getD i 0) r f2 s2 c j*(1*r ^ (j*s)%65537)%65537)%65537=M.fv (λi=>zs.getD i 0) r f s (2*c) (j+c)):=λj _=>by
   rw[Ha,La,Int.one_mul];exact M.fv_hi _ r f s c j (hr _ (by omega))
  have Na:H7 (∀(f s:Nat) (w:World),s*c=N->f<s->pM w la lc pa pc N RL RF RP zs r->
   Calls prog 200 #[.int .i64 f,.int .i64 s,.pointer (some ⟨RL,0,none⟩),.pointer (some ⟨RF,0,none⟩),.pointer (some ⟨RP,0,none⟩)] w λe w'=>∃a' c',e=.returned (.slice a' c c')/\aA 134 w' w.heap.size a' c c' (M.tab c (M.fv (λi=>zs.getD i 0) r f s c))/\m1 w w'):=ih c hc
  have HE:=Hd Ca;have Ea:H7 (s2*c=N/\f<s2/\f2<s2):=⟨Za,by omega,by omega⟩
  have Tb:H7 (2*c<=N):=by
   show _<=_;have h0:1<=s:=(by omega);have:=Nat.mul_le_mul_right (2*c) h0;omega
  have Oa:H7 (∀j,j<c->j*s<N):=λj hj=>by
   have h0:1<=s:=(by omega);have h1:=Nat.mul_le_mul_right s (show j+1<=c by omega);have h2:c*s=s*c:=Nat.mul_comm _ _;rw[Nat.add_mul]at h1;omega
  have hE:=Ca;obtain⟨h1,h2,h3,h4,h5⟩:=hE;have Ga:((s:Int)==(N:Int))=false:=(by simp;omega);have Zb:(2:Int)*(s:Int)=(s2:Int):=(by omega);have Ac:(f:Int)+(s:Int)=(f2:Int):=(by omega);have w2s':IntKind.i64.wrap (s2:Int)=(s2:Int):=(by rw[xK];omega);have wfs':IntKind.i64.wrap (f2:Int)=(f2:Int):=(by rw[xK];omega);clear h1 h2 hs hc Ja Ha La Qb Za ih Ca hr;have Pa:H7 (∀W,m1 w W->W.cell? ⟨RL,0,none⟩=some (.slice la N lc)/\W.cell? ⟨RF,0,none⟩=some (.func (.func 200) #[] #[.pointer (some ⟨RL,0,none⟩),.pointer (some ⟨RF,0,none⟩),.pointer (some ⟨RP,0,none⟩)])/\W.cell? ⟨RP,0,none⟩=some (.slice pa N pc)):=λW hW=>(HE.o.below hW).2.2;have Ab:=Hd (HE.o.below (m8 _ _).drew);have Bb:H7 (m1 w w.drew):=(m8 _ _).drew;go_enter func200,ntmps200;go_wp2
  go_region_with (first
   | (go_at_call_of 200 (Value.int .i64 (f:Int));refine(Na.o f s2 _ Ea.o.1 Ea.o.2.1 Ab.o).mono ?_;rintro e w1 ⟨a1,c1,rfl,Cb,Ga⟩;have hb1':=Bb.o.trans Ga;obtain⟨g1,g2,g3⟩:=Pa.o _ hb1')
   | (go_at_call 200;refine(Na.o f2 s2 _ Ea.o.1 Ea.o.2.2 (HE.o.below hb1')).mono ?_;rintro e w3 ⟨a3,c3,rfl,Db,Qa⟩;have hb3':=hb1'.trans (Qa.mono hb1'.size);obtain⟨g4,g5,g6⟩:=Pa.o _ hb3'))
  all_goals
   have Ub:H7 (aA 134 w3 w.heap.size a1 c c1 (M.tab c (M.fv (λi=>zs.getD i 0) r f s2 c))):=Cb.below Qa;have Vb:=Hd Db;have Ra:=Hd hb3';clear Cb Ga hb1' Db Qa hb3' g1 g2 g3 h3 h4 h5 g4 g5 g6 Na Ab Bb Ea;obtain⟨i0,hi,Eb,Fb,Gb⟩:=info_parts cJ;have Ja:2*c<=1000:=(by have:=Tb.o;omega);go_wp2_with(at_make;refine wpList_make_full _ rfl _ _ 79 rfl w3.heap.size 134 i0 (.int .i64 0) 1 underlying79 hi Eb Fb .i64 .i64 _ _ (2*c) rfl rfl (by first | omega | simp) (by first | omega | simp) (by rw[Gb];omega) (by unfold maxLen;omega) (m3 _) ?_)
   intro w4 Sa hg
   have Hb:H7 (aA 134 w4 w3.heap.size (some ⟨w3.heap.size,0,none⟩) (2*c) (2*c) (dT (M.fv (λi=>zs.getD i 0) r f s (2*c)) c 0)):=by
    show w4.ownsRow _ _ _ _ _ _;rw[dP,nF (M.fv (λi=>zs.getD i 0) r f s (2*c))]at Sa;exact Sa
   have Ib:=Hd (ba hg);clear Sa hg hi Eb Fb Gb;go_wp2
   go_loopw [41] (λi wr=>∃j:Nat,j<=c/\i=.int .i64 j/\aA 134 wr w3.heap.size (some ⟨w3.heap.size,0,none⟩) (2*c) (2*c) (dT (M.fv (λi=>zs.getD i 0) r f s (2*c)) c j)/\m1 w3 wr) (λi _=>c-(intOf i).toNat)
   case atStart=>exact⟨0,by omega,rfl,Hb.o,Ib.o⟩
   case round=>
    obtain⟨j,hj,rfl,Jb,Ta⟩:=hrel;have Ua:=Hd Jb;have Va:=Hd Ta;have Wa:=Ra.t Ta;clear Jb Ta Hb Ib;by_cases Aa:j<c
    ·
     obtain⟨b1,o1,rfl,Da⟩:=(Ub.o.sees.below Va.o).at Ka;obtain⟨b2,o2,rfl,Kb⟩:=(Vb.o.sees.below Va.o).at Ka;obtain⟨b3,o3,rfl,Lb⟩:=(HE.o.2.1.below Wa.o).at (by omega);have d1:=Da j Aa;have d2:=Kb j Aa;have d3:=Lb (j*s) (Oa.o j Aa);obtain⟨g,Nb,_,_,Xa,Ya⟩:=Ua.o.block (by omega);simp only[Option.some.injEq,Addr.mk.injEq,and_true]at Nb;subst Nb;have d4:=Xa j (by omega);have d5:=Xa (j+c) (by omega);have e4:=Ya j;have e5:=Ya (j+c);have d6:=(Pa.o _ Wa.o).2.2;rw[M.tab_get _ _ _ Aa]at d1 d2;unfold M.gp at d3;rw[M.tab_get _ _ _ (Oa.o j Aa)]at d3
     have Fa:H7 (((dT (M.fv (λi=>zs.getD i 0) r f s (2*c)) c j).set j ((M.fv (λi=>zs.getD i 0) r f s2 c j+M.fv (λi=>zs.getD i 0) r f2 s2 c j*(1*r ^ (j*s)%65537)%65537)%65537)).set (j+c) ((M.fv (λi=>zs.getD i 0) r f s2 c j+65537-M.fv (λi=>zs.getD i 0) r f2 s2 c j*(1*r ^ (j*s)%65537)%65537)%65537)=dT (M.fv (λi=>zs.getD i 0) r f s (2*c)) c (j+1)):=by
      show _=_;rw[Rb.o j Aa,Sb.o j Aa];exact nD _ Aa
     have Ba:=M.fv_bd (λi=>zs.getD i 0) r f s2 c j;have Ob:=M.fv_bd (λi=>zs.getD i 0) r f2 s2 c j;have Pb:0<=1*r ^ (j*s)%65537/\1*r ^ (j*s)%65537<65537:=(by omega);have Wb:=Oa.o j Aa;have Xb:(j:Int)*(s:Int)=((j*s:Nat):Int):=(by rw[Int.natCast_mul]);generalize M.fv (λi=>zs.getD i 0) r f s2 c j=x at d1 Ba Fa;generalize M.fv (λi=>zs.getD i 0) r f2 s2 c j=y at d2 Ob Fa;generalize 1*r ^ (j*s)%65537=pz at d3 Pb Fa;generalize j*s=js at d3 Wb Xb;generalize(dT (M.fv (λi=>zs.getD i 0) r f s (2*c)) c j).getD j 0=q4 at d4;generalize(dT (M.fv (λi=>zs.getD i 0) r f s (2*c)) c j).getD (j+c) 0=q5 at d5;obtain⟨jc,Ia⟩:∃jc,jc=j+c:=⟨_,rfl⟩;rw[<-Ia]at d5 e5 Fa;have Bc:(j:Int)+(c:Int)=(jc:Int):=(by omega);have Cc:(jc:Int)<2*(c:Int):=(by omega);have Dc:jc<2*c:=(by omega);have Ec:(j:Int)<2*(c:Int):=(by omega);have Fc:j≠jc:=(by omega);have hne':jc≠j:=(by omega);have Gc:IntKind.i64.wrap (js:Int)=(js:Int):=(by rw[xK];omega);have Hc:(js:Int)<(N:Int):=(by omega);obtain⟨x0,x1⟩:=Ba;obtain⟨y0,y1⟩:=Ob;obtain⟨p0,p1⟩:=Pb;have hI:(j:Int)<(c:Int):=(by omega);clear Da Kb Lb Xa Ya Ia;go_wp2
     go_quiet ((go_at_call 68;exact Calls.quiet_of_same (bI y pz _ y0 y1 p0 p1)))
     have t0:0<=y*pz%65537:=Int.emod_nonneg _ (by decide);have t1:y*pz%65537<65537:=Int.emod_lt_of_pos _ (by decide);generalize y*pz%65537=t at *;go_wp2_with(first | (go_at_call 158;refine(dV x t _ x0 x1 t0 t1).mono ?_;rintro e w' ⟨rfl,rfl⟩) | (go_at_call 118;refine(eU x t _ x0 x1 t0 t1).mono ?_;rintro e w' ⟨rfl,rfl⟩))
     go_roundw
     case rel=>
      refine⟨j+1,by omega,by go_num,?_,((Below.drewN' Va.o _).setCell (m3 _) _).setCell (m3 _) _⟩;rw[<-Fa.o];exact((Ua.o.drewN _).set j _).set jc _
     case measure=>simp[intOf];omega
    ·
     have Ia:j=c:=(by omega);subst Ia;go_wp2;go_ret;refine⟨_,_,rfl,?_,Wa.o⟩;rw[<-pt];exact Ua.o.mono Ra.o.size
theorem M.ev_pv(zs:List Int)(x:Int):M.ev zs x=M.pv zs x%65537:=by
 induction zs with
 | nil=>rfl
 | cons c r ih=>
  rw[M.ev_cons,ih];show _=(c+x*M.pv r x)%65537;have h:=M.mm (M.pv r x) x;rw[Int.mul_comm x];generalize M.pv r x%65537*x=A at *;generalize M.pv r x*x=B at *;omega
theorem M.ev_cg(zs:List Int)(x:Int):M.cg (M.ev zs x) (M.pv zs x):=by rw[M.ev_pv];exact M.cg_mod _
def lN(zs:List Int)(r:Int):List Int:=M.tab zs.length (λj=>M.pv zs (r ^ j)%65537)
theorem uA(zs:List Int)(r:Int):M.allEl (lN zs r)=true:=M.all_tab λi _=>(M.el_iff _).2 ⟨by omega,by omega⟩
theorem uB(zs:List Int)(r:Int):(lN zs r).length=zs.length:=M.tab_len _ _
theorem vt(zs:List Int)(r:Int)(N:Nat)(h:zs.length=N):M.tab N (M.fv (λi=>zs.getD i 0) r 0 1 N)=lN zs r:=by
 unfold lN;rw[h];refine bv λj _=>?_;unfold M.fv;rw[Nat.one_mul,<-h,M.pv_all]
def M.evs(zs:List Int)(s q:Int)(N:Nat):List Int:=M.tab N (λj=>M.ev zs (s*q ^ j%65537))
theorem M.evs_len(zs:List Int)(s q:Int)(N:Nat):(M.evs zs s q N).length=N:=M.tab_len _ _
theorem sZ(h:M.two64 (n:Int)=true):∃k,n=2 ^ k/\n<=64/\0<n:=by
 obtain⟨i,hi,e⟩:=(M.two64_iff _).1 h;have hb:=M.two64_le hi;refine⟨i,?_,by omega,by omega⟩;have:((2 ^ i:Nat):Int)=(2:Int) ^ i:=(by simp);omega
theorem kC(r:Int)(w:World)(hz:aC w la N lc zs)(az:M.allEl zs=true)(hN:N=2 ^ k)(hN1:N<=1000)(r0:0<=r)(r1:r<65537)(hr:∀h,N=2*h->M.cg (r ^ h) (-1)):
  Calls prog 173 #[.slice la N lc,it r] w λe w'=>∃a' c',e=.returned (.slice a' N c')/\aA 134 w' w.heap.size a' N c' (lN zs r)/\m1 w w':=by
 have HZ:=Hd hz;have HA:=Hd az;have HN:=Hd hN;have HR:=Hd hr;have HT:=Hd (vt zs r N hz.len);clear hz az hN hr;go_enter func173,ntmps173;(go_wp2_with fail);refine(fe 1 r N _ (by omega) (by omega) r0 r1 (by omega)).mono ?_;rintro e w1 ⟨pa,pc,rfl,Ea,Aa⟩;have Ia:H7 (aA 134 w1 (w.heap.size+1) pa N pc (M.gp 1 r N)):=(by show aA _ _ _ _ _ _ _;simpa using Ea);have Ba:H7 (w.heap.size+1<=w1.heap.size):=(by show _<=_;have:=Aa.size;simpa using this);have Ca:=Hd (((m8 _ _).alloc (m3 _) _).trans (Aa.mono (by simp)));have Fa:H7 (w1.cell? ⟨w.heap.size,0,none⟩=some (.slice la N lc)):=(Aa.cell (p:=⟨w.heap.size,0,none⟩) (by simp)).trans (by rw[xu];rfl);have La:=Fa.o;clear Ea Aa;(go_wp2_with fail);refine(vJ (la:=la) (lc:=lc) (pa:=pa) (pc:=pc) (N:=N) (RL:=w.heap.size) (RF:=w1.heap.size+1) (RP:=w1.heap.size) (zs:=zs) (r:=r) hN1 HA.o HR.o k N HN.o 0 1 _ (by omega) (by omega) ?env).mono ?_
 case env=>
  have Da:m1 w1 ((w1.alloc (.cells #[Value.slice pa N pc] 79)).alloc (.cells #[Value.func (.func 200) #[] #[tG w.heap.size,tG (w1.heap.size+1),tG w1.heap.size]] 283)):=((m8 _ _).alloc (m3 _) _).alloc (by simp) _;refine⟨HZ.o.below (Ca.o.trans (Da.mono Ca.o.size)),Ia.o.sees.below Da,(Da.cell (p:=⟨w.heap.size,0,none⟩) (by have:=Ba.o;show w.heap.size<_;omega)).trans Fa.o,?_,?_⟩ <;> simp
 rintro e w2 ⟨a2,c2,rfl,Ga,Ha⟩
 have Ja:H7 (aA 134 w2 w.heap.size a2 N c2 (lN zs r)):=by
  show aA _ _ _ _ _ _ _;rw[<-HT.o];exact Ga.mono (by have:=Ba.o;simp;omega)
 have Ka:=Hd (((Ca.o.alloc Ca.o.size _).alloc (by have:=Ba.o;simp;omega) _).trans (Ha.mono (by have:=Ba.o;simp;omega)));clear Ga Ha;go_wp2;go_ret;exact⟨a2,c2,rfl,Ja.o,Ka.o⟩
def eX(zs:List Int)(s q:Int)(N k:Nat):List Int:=M.tab N (λi=>if i<k then M.ev zs (s*q ^ i%65537)else s*q ^ i%65537)
theorem oP(zs:List Int)(s q:Int)(N:Nat):M.gp s q N=eX zs s q N 0:=bv λ_ _=>(if_neg (by omega)).symm
theorem qR(zs:List Int)(s q:Int)(N:Nat):eX zs s q N N=M.evs zs s q N:=bv λ_ hi=>if_pos hi
theorem oO(zs:List Int)(s q:Int):(eX zs s q N k).set k (M.ev zs (s*q ^ k%65537))=eX zs s q N (k+1):=by
 unfold eX;rw[d7];refine bv λi _=>?_;by_cases e:i=k
 .subst e;rw[if_pos rfl,if_pos (by omega)]
 ·
  rw[if_neg e];by_cases e2:i<k
  .rw[if_pos e2,if_pos (by omega)]
  .rw[if_neg e2,if_neg (by omega)]
theorem qj(N:Nat)(s:Int)(w:World)(hz:aC w la n lc zs)(az:M.allEl zs=true)(hp:M.ptOk N s=true):
  Calls prog 88 #[.slice la n lc,it N,it s] w λe w'=>∃a' c',e=.returned (.slice a' N c')/\aA 2 w' w.heap.size a' N c' (M.evs zs s (M.root N) N)/\m1 w w':=by
 have HZ:=Hd hz;have HA:=Hd az;have HP:=Hd hp;have hN:=(M.two64_bd (M.ptOk_parts hp).1).2;clear hz az hp;go_enter func88,ntmps88;(go_wp2_with fail);refine(jA N s _ HP.o).mono ?_;rintro e w1 ⟨a1,c1,rfl,Aa,Da⟩;generalize hq:M.root N=q at Aa;have HQ:=Hd hq;clear hq
 have Ea:H7 (aA 2 w1 w.heap.size a1 N c1 (eX zs s q N 0)):=by
  show aA _ _ _ _ _ _ _;rw[<-oP];exact Aa
 have Fa:=Hd Da;clear Aa Da;go_wp2
 go_loopw [8] (λi wr=>∃k:Nat,k<=N/\i=it k/\aA 2 wr w.heap.size a1 N c1 (eX zs s q N k)/\m1 w wr) (λi _=>N-(intOf i).toNat)
 case atStart=>exact⟨0,by omega,rfl,Ea.o,Fa.o⟩
 case round=>
  obtain⟨k,hk,rfl,Ga,Ha⟩:=hrel;have Ba:=Hd Ga;have Ca:=Hd Ha;clear Ga Ha Ea Fa;by_cases Ia:k<N
  ·
   obtain⟨g,rfl,La,_,hc,hf⟩:=Ba.o.block (by omega);have d1:=hc k Ia;have e1:=hf k
   have hx:(eX zs s q N k).getD k 0=s*q ^ k%65537:=by
    unfold eX;rw[M.tab_get _ _ _ Ia,if_neg (by omega)]
   rw[hx]at d1;have Ja:H7 ((eX zs s q N k).set k (M.ev zs (s*q ^ k%65537))=eX zs s q N (k+1)):=oO zs s q;have Ka:0<=s*q ^ k%65537/\s*q ^ k%65537<65537:=(by omega);have hI:(k:Int)<(N:Int):=(by omega);clear hc hf hx;generalize s*q ^ k%65537=x at d1 Ka Ja;obtain⟨x0,x1⟩:=Ka;(go_wp2_with fail);refine(k8 x _ (HZ.o.below Ca.o) HA.o x0 x1).mono ?_;rintro e wr ⟨rfl,rfl⟩;go_wp2;go_roundw
   case rel=>exact⟨k+1,by omega,by go_num,by rw[<-Ja.o];exact Ba.o.set k _,Ca.o.setCell La _⟩
   case measure=>simp[intOf];omega
  ·
   have Na:k=N:=(by omega);subst Na;go_wp2;go_ret;refine⟨a1,c1,rfl,?_,Ca.o⟩;rw[HQ.o,<-qR];exact Ba.o
def M.frc(zs:List Int)(s:Int)(k:Nat):Int:=M.pv zs (M.pw (M.root zs.length) 65535 ^ k)%65537*(M.pw zs.length 65535*M.pw s 65535 ^ k%65537)%65537
def M.frs(zs:List Int)(s:Int):List Int:=M.trim (M.tab zs.length (M.frc zs s))
def M.frOk(zs:List Int)(s:Int):Bool:=M.ptOk zs.length s&&M.allEl zs
def kI(zs:List Int)(s:Int):List Int:=if M.frOk zs s=true then M.frs zs s else[]
theorem up(h:M.frOk zs s=true):kI zs s=M.frs zs s:=if_pos h
theorem tB(h:M.frOk zs s=false):kI zs s=[]:=if_neg (by rw[h];decide)
theorem M.frs_len(zs:List Int)(s:Int):(M.frs zs s).length<=zs.length:=by
 have:=M.len_trim (M.tab zs.length (M.frc zs s));rw[M.tab_len]at this;exact this
theorem rf(zs:List Int)(s:Int):M.trim (kF (lN zs (M.pw (M.root zs.length) 65535)) (M.gp (M.pw zs.length 65535) (M.pw s 65535) zs.length))=M.frs zs s:=by
 unfold M.frs kF;rw[uB]
 congr 1
 refine bv λk hk=>?_;unfold lN M.gp;rw[M.tab_get _ _ _ hk,M.tab_get _ _ _ hk];rfl
theorem pg(zs:List Int)(s:Int)(k:Nat):M.pv zs (M.pw (M.pw (M.root zs.length) 65535) k)%65537*M.pw zs.length 65535%65537*M.pw (M.pw s 65535) k%65537=M.frc zs s k:=by
 unfold M.frc
 have h1:M.cg (M.pv zs (M.pw (M.pw (M.root zs.length) 65535) k)%65537) (M.pv zs (M.pw (M.root zs.length) 65535 ^ k)%65537):=
  (M.cg_mod _).trans ((M.pv_cg (M.cg_pw _ _) zs).trans (M.cg_mod _).symm)
 have h2:=M.cg_pw (M.pw s 65535) k;generalize M.pv zs (M.pw (M.pw (M.root zs.length) 65535) k)%65537=A at *;generalize M.pv zs (M.pw (M.root zs.length) 65535 ^ k)%65537=B at *;generalize M.pw (M.pw s 65535) k=C at *;generalize M.pw s 65535 ^ k=D at *;generalize M.pw (zs.length:Int) 65535=n
 have h3:M.cg (A*n%65537*C) (B*(n*D%65537)):=by
  refine(((M.cg_mod _).trans (h1.mul (M.cg.refl n))).mul h2).trans ?_;refine(M.cg_of_eq (Int.mul_assoc B n D)).trans ?_;exact(M.cg.refl B).mul (M.cg_mod _).symm
 exact h3
theorem lu(s:Int)(w:World)(hz:aC w la N lc zs)(az:M.allEl zs=true)(hp:M.ptOk N s=true):
  Calls prog 129 #[.agg #[.int .i64 N,.int .i64 s,.int .i64 (M.root N)],.slice la N lc] w λe w'=>∃a' m c',e=.returned (.slice a' m c')/\aA 134 w' w.heap.size a' m c' (M.frs zs s)/\m1 w w':=by
 have HZ:=Hd hz;have HA:=Hd az;obtain⟨h1,h2,h3⟩:=M.ptOk_parts hp;obtain⟨s0,s1⟩:=(M.el_iff s).1 h2;obtain⟨q0,q1⟩:=(M.el_iff _).1 (M.root_el (M.two64_two h1));obtain⟨k,hk,hN,Db⟩:=sZ h1;have HK:=Hd hk;have Da:H7 (∀h,N=2*h->M.cg (M.pw (M.root N) 65535 ^ h) (-1)):=λh e=>M.rinv_h (M.two64_two h1) e
 have HF:H7 (M.trim (kF (lN zs (M.pw (M.root N) 65535)) (M.gp (M.pw N 65535) (M.pw s 65535) N))=M.frs zs s):=by
  show _=_;have:=rf zs s;rw[hz.len]at this;exact this
 obtain⟨r0,r1⟩:=M.pw_bd (M.root N) 65535;obtain⟨n0,n1⟩:=M.pw_bd (N:Int) 65535;obtain⟨i0,i1⟩:=M.pw_bd s 65535;clear hz az h1 h2 h3 hp hk;generalize M.root N=q at *;generalize Ea:M.pw q 65535=ri at Da HF r0 r1;have Qa:=Hd Ea;generalize Fa:M.pw (N:Int) 65535=ni at HF n0 n1;have Ra:=Hd Fa;generalize Ga:M.pw s 65535=si at HF i0 i1;have Sa:=Hd Ga;clear Ea Fa Ga;have Ta:(N:Int)<65537:=(by omega);have Ua:(0:Int)<=(N:Int):=(by omega);go_enter func129,ntmps129;(go_wp2_with fail);refine(fA q _ q0 q1).mono ?_;rintro e w0 ⟨rfl,rfl⟩;rw[Qa.o];have Ha:H7 (m1 w (w.alloc (.cells #[Value.int .i64 N,Value.int .i64 s,Value.int .i64 q] 154))):=(m8 _ _).alloc (m3 _) _;(go_wp2_with fail);refine(kC ri _ (HZ.o.below Ha.o) HA.o HK.o (by omega) r0 r1 Da.o).mono ?_;rintro e w1 ⟨a1,c1,rfl,Ia,Aa⟩;have Va:H7 (aA 134 w1 w.heap.size a1 N c1 (lN zs ri)):=Ia.mono (by simp);have Ja:=Hd (Ha.o.trans (Aa.mono (by simp)))
 have Wa:H7 (∀W,m1 w1 W->W.cell? ⟨w.heap.size,0,none⟩=some (.int .i64 N)/\W.cell? ⟨w.heap.size,1,none⟩=some (.int .i64 s)/\W.cell? ⟨w.heap.size,2,none⟩=some (.int .i64 q)):=λW hW=>by
  have hs:w.heap.size<w1.heap.size:=(by have:=Aa.size;simp at this;omega);refine⟨(hW.cell (p:=⟨w.heap.size,0,none⟩) hs).trans ((Aa.cell (p:=⟨w.heap.size,0,none⟩) (by simp)).trans (by rw[xu];rfl)),(hW.cell (p:=⟨w.heap.size,1,none⟩) hs).trans ((Aa.cell (p:=⟨w.heap.size,1,none⟩) (by simp)).trans (by rw[xu];rfl)),(hW.cell (p:=⟨w.heap.size,2,none⟩) hs).trans ((Aa.cell (p:=⟨w.heap.size,2,none⟩) (by simp)).trans (by rw[xu];rfl))⟩
 obtain⟨k0,k1,k2⟩:=Wa.o _ (m8 _ _);have Xa:H7 (m1 w1 w1.drew):=(m8 _ _).drew;clear Ia Aa;go_wp2
 go_region_with (first
  | (go_at_call_of 64 (Value.int .i64 (N:Int));refine(fA (N:Int) _ Ua Ta).mono ?_;rintro e w2 ⟨rfl,rfl⟩;rw[Ra.o])
  | (go_at_call_of 64 (Value.int .i64 s);refine(fA s _ s0 s1).mono ?_;rintro e w2 ⟨rfl,rfl⟩;rw[Sa.o])
  | (go_at_call 174;refine(fe ni si N _ n0 n1 i0 i1 (by omega)).mono ?_;rintro e w3 ⟨a3,c3,rfl,ho3,hb3⟩))
 all_goals
  have Ka:=Hd (Xa.o.trans hb3);have Ya:=Hd ho3;have Za:=Hd (Va.o.below Ka.o);have Ba:=Hd (Ja.o.trans (Ka.o.mono Ja.o.size));clear ho3 hb3;(go_wp2_with fail);refine(mj _ Za.o.sees Ya.o.sees (uA _ _) (uq _ _ _) rfl (by omega)).mono ?_;rintro e w4 ⟨a4,c4,rfl,La,Na⟩;have Ab:=Hd (La.mono Ba.o.size);have Ca:=Ba.t Na;clear La Na;(go_wp2_with fail);refine(dl _ Ab.o.sees (by omega)).mono ?_;rintro e w5 ⟨a5,Y,c5,rfl,Oa,Pa⟩
  have Bb:H7 (aA 134 w5 w.heap.size a5 Y c5 (M.frs zs s)):=by
   show aA _ _ _ _ _ _ _;rw[<-HF.o];exact Oa.mono Ca.o.size
  have Cb:=Ca.t Pa;clear Oa Pa;go_wp2;go_ret;exact⟨a5,Y,c5,rfl,Bb.o,Cb.o⟩
theorem l5(s:Int)(w:World)(hz:aC w la N lc zs)(az:M.allEl zs=true)(hp:M.ptOk N s=true):
  Calls prog 215 #[.slice la N lc,it s] w λe w'=>∃a' c',e=.returned (.tuple #[.agg #[it N,it s,it (M.root N)],.slice a' N c',.bool true])/\aA 134 w' w.heap.size a' N c' zs/\m1 w w':=by
 have HZ:=Hd hz;have HP:=Hd hp;have hN:=(M.two64_bd (M.ptOk_parts hp).1).2;have Ia:H7 (m1 w (w.alloc (.cells #[it 0,it 0,it 0] 154))):=(m8 _ _).alloc (m3 _) _;clear hz hp;go_enter func215,ntmps215;(go_wp2_with fail);refine(fC N s _ HP.o).mono ?_;rintro e w1 ⟨rfl,Aa⟩;generalize hq:M.root N=q;have HQ:=Hd hq;clear hq;have Ba:=Hd (Ia.o.trans (Aa.mono (by simp)));have Ga:H7 (w.heap.size+1<=w1.heap.size):=by show _<=_;have:=Aa.size;simpa using this
 have Ja:H7 (∀W,m1 w1 W->W.cell? ⟨w.heap.size,0,none⟩=some (it 0)/\W.cell? ⟨w.heap.size,1,none⟩=some (it 0)/\W.cell? ⟨w.heap.size,2,none⟩=some (it 0)/\W.frozen? ⟨w.heap.size,0,none⟩=false/\W.frozen? ⟨w.heap.size,1,none⟩=false/\W.frozen? ⟨w.heap.size,2,none⟩=false):=λW hW=>by
  have hs:w.heap.size<w1.heap.size:=(by have:=Aa.size;simp at this;omega);refine⟨(hW.cell (p:=⟨w.heap.size,0,none⟩) hs).trans ((Aa.cell (p:=⟨w.heap.size,0,none⟩) (by simp)).trans (by rw[xu];rfl)),(hW.cell (p:=⟨w.heap.size,1,none⟩) hs).trans ((Aa.cell (p:=⟨w.heap.size,1,none⟩) (by simp)).trans (by rw[xu];rfl)),(hW.cell (p:=⟨w.heap.size,2,none⟩) hs).trans ((Aa.cell (p:=⟨w.heap.size,2,none⟩) (by simp)).trans (by rw[xu];rfl)),(hW.frozen (p:=⟨w.heap.size,0,none⟩) hs).trans ((Aa.frozen (p:=⟨w.heap.size,0,none⟩) (by simp)).trans (by simp)),(hW.frozen (p:=⟨w.heap.size,1,none⟩) hs).trans ((Aa.frozen (p:=⟨w.heap.size,1,none⟩) (by simp)).trans (by simp)),(hW.frozen (p:=⟨w.heap.size,2,none⟩) hs).trans ((Aa.frozen (p:=⟨w.heap.size,2,none⟩) (by simp)).trans (by simp))⟩
 clear Aa;have Ha:H7 (m1 w1 (w1.alloc (.cells #[it N,it s,it q] 154))):=(m8 _ _).alloc (m3 _) _;have Da:=Hd Ha.o.drew;have Ka:=Hd ((HZ.o.below Ba.o).below Da.o)
 have La:H7 (∀W,Below (w1.alloc (.cells #[it N,it s,it q] 154)).drew.heap.size (w1.alloc (.cells #[it N,it s,it q] 154)).drew W->W.cell? ⟨w1.heap.size,0,none⟩=some (it N)/\W.cell? ⟨w1.heap.size,1,none⟩=some (it s)/\W.cell? ⟨w1.heap.size,2,none⟩=some (it q)):=λW hW=>by
  have hs:w1.heap.size<(w1.alloc (.cells #[it N,it s,it q] 154)).heap.size:=(by simp);have hW':=(m8 (w1.alloc (.cells #[it N,it s,it q] 154)).heap.size (w1.alloc (.cells #[it N,it s,it q] 154))).drew.trans hW;refine⟨(hW'.cell (p:=⟨w1.heap.size,0,none⟩) hs).trans (by rw[xu];rfl),(hW'.cell (p:=⟨w1.heap.size,1,none⟩) hs).trans (by rw[xu];rfl),(hW'.cell (p:=⟨w1.heap.size,2,none⟩) hs).trans (by rw[xu];rfl)⟩
 (go_wp2_with fail);refine(dg _ ((HZ.o.below Ba.o).below Ha.o)).mono ?_;rintro e w2 ⟨rfl,rfl⟩;rw[az];go_wp2
 go_region_with (go_at_call 63;refine(dx _ Ka.o (by omega)).mono ?_;rintro e w3 ⟨a3,c3,rfl,Ea,Ca⟩;obtain⟨g0,g1,g2⟩:=La.o _ Ca;obtain⟨k0,k1,k2,k3,k4,k5⟩:=Ja.o _ (Da.o.trans (Ca.mono (by simp))))
 all_goals
  have Na:=Hd (Ba.o.trans ((Da.o.trans (Ca.mono (by simp))).mono Ba.o.size))
  have Fa:H7 (∀x,a3=some x->x.block≠w.heap.size):=λx hx=>by
   have h:=Ea.lo x hx;have h2:=Ga.o;simp at h;omega
  have Oa:H7 (aA 134 w3 w.heap.size a3 N c3 zs):=Ea.mono (by have h2:=Ga.o;simp;omega);clear Ea Ca g0 g1 g2;go_wp2;refine s' (v:=.tuple #[.agg #[it N,it s,it q],.slice a3 N c3,.bool true]) (by simp[results,results215,go_sem,k0,k1,k2]) rfl ⟨a3,c3,by rw[HQ.o],?_,((Na.o.setCell (m3 _) _).setCell (m3 _) _).setCell (m3 _) _⟩;exact((Oa.o.other ⟨w.heap.size,0,none⟩ Fa.o _).other ⟨w.heap.size,1,none⟩ Fa.o _).other ⟨w.heap.size,2,none⟩ Fa.o _
theorem ls(s:Int)(w:World)(hz:aC w la N lc zs)(hp:M.frOk zs s=false):
  Rt 215 #[.slice la N lc,it s] w (.tuple #[.agg #[it 0,it 0,it 0],.slice none 0 0,.bool false]):=by
 have HZ:=Hd hz;have Da:H7 (m1 w (w.alloc (.cells #[it 0,it 0,it 0] 154))):=(m8 _ _).alloc (m3 _) _
 cases h:M.ptOk N s with
 | false=>
  have HP:=Hd h;clear hz hp h;go_enter func215,ntmps215;(go_wp2_with fail);refine(oj N s _ HP.o).mono ?_;rintro e w1 ⟨rfl,Aa⟩;have Ba:=Hd (Da.o.trans (Aa.mono (by simp)));have s0:=(Aa.cell (p:=⟨w.heap.size,0,none⟩) (by simp)).trans (show _=some (it 0) by rw[xu];rfl);have s1:=(Aa.cell (p:=⟨w.heap.size,1,none⟩) (by simp)).trans (show _=some (it 0) by rw[xu];rfl);have s2:=(Aa.cell (p:=⟨w.heap.size,2,none⟩) (by simp)).trans (show _=some (it 0) by rw[xu];rfl);have f0:=(Aa.frozen (p:=⟨w.heap.size,0,none⟩) (by simp)).trans (show _=false by simp);have f1:=(Aa.frozen (p:=⟨w.heap.size,1,none⟩) (by simp)).trans (show _=false by simp);have f2:=(Aa.frozen (p:=⟨w.heap.size,2,none⟩) (by simp)).trans (show _=false by simp);have Ca:w.heap.size<w1.heap.size:=(by have:=Aa.size;simp at this;omega);clear Aa;go_wp2;refine s' (v:=.tuple #[.agg #[it 0,it 0,it 0],.slice none 0 0,.bool false]) (by simp[results,results215,go_sem,Ca,s0,s1,s2]) rfl ⟨rfl,?_⟩
  first | exact(((Ba.o.alloc Ba.o.size _).setCell (m3 _) _).setCell (m3 _) _).setCell (m3 _) _ | exact(((Ba.o.setCell (m3 _) _).setCell (m3 _) _).setCell (m3 _) _).alloc (by simpa using Ba.o.size) _
 | true=>
  have ha:M.allEl zs=false:=by
   unfold M.frOk at hp;rw[hz.len,h]at hp;simpa using hp
  have HP:=Hd h;clear hz hp h;go_enter func215,ntmps215;(go_wp2_with fail);refine(fC N s _ HP.o).mono ?_;rintro e w1 ⟨rfl,Aa⟩;generalize M.root N=q;have Ba:=Hd (Da.o.trans (Aa.mono (by simp)));have s0:=(Aa.cell (p:=⟨w.heap.size,0,none⟩) (by simp)).trans (show _=some (it 0) by rw[xu];rfl);have s1:=(Aa.cell (p:=⟨w.heap.size,1,none⟩) (by simp)).trans (show _=some (it 0) by rw[xu];rfl);have s2:=(Aa.cell (p:=⟨w.heap.size,2,none⟩) (by simp)).trans (show _=some (it 0) by rw[xu];rfl);have f0:=(Aa.frozen (p:=⟨w.heap.size,0,none⟩) (by simp)).trans (show _=false by simp);have f1:=(Aa.frozen (p:=⟨w.heap.size,1,none⟩) (by simp)).trans (show _=false by simp);have f2:=(Aa.frozen (p:=⟨w.heap.size,2,none⟩) (by simp)).trans (show _=false by simp);have Ca:w.heap.size<w1.heap.size:=(by have:=Aa.size;simp at this;omega);clear Aa;(go_wp2_with fail);refine(dg _ ((HZ.o.below Ba.o).below ((m8 _ _).alloc (m3 _) _))).mono ?_;rintro e w2 ⟨rfl,rfl⟩;rw[ha];go_wp2;refine s' (v:=.tuple #[.agg #[it 0,it 0,it 0],.slice none 0 0,.bool false]) (by simp[results,results215,go_sem,Ca,s0,s1,s2]) rfl ⟨rfl,?_⟩
  first | exact(((Ba.o.alloc Ba.o.size _).setCell (m3 _) _).setCell (m3 _) _).setCell (m3 _) _ | exact(((Ba.o.setCell (m3 _) _).setCell (m3 _) _).setCell (m3 _) _).alloc (by simpa using Ba.o.size) _
theorem fw(s:Int)(w:World)(hz:aC w la N lc zs):
  Calls prog 197 #[.slice la N lc,it s] w λe w'=>∃a' m c',e=.returned (.tuple #[.slice a' m c',.bool (M.frOk zs s)])/\m<=64/\aA 2 w' w.heap.size a' m c' (kI zs s)/\m1 w w':=by
 have HZ:=Hd hz
 cases h:M.frOk zs s with
 | false=>
  have E:=Hd h;clear hz h;go_enter func197,ntmps197;(go_wp2_with fail);refine(ls s _ HZ.o E.o).mono ?_;rintro e w1 ⟨rfl,Ba⟩;have Aa:=Hd Ba;clear Ba;go_wp2
  go_ret2
  exact⟨none,0,0,rfl,by omega,by rw[tB E.o];exact aA.empty _ _ _,Aa.o.alloc Aa.o.size _⟩
 | true=>
  have E:=Hd h;obtain⟨hp,az⟩:M.ptOk N s=true/\M.allEl zs=true:=by unfold M.frOk at h;rw[hz.len]at h;simpa using h
  have HP:=Hd hp;have HA:=Hd az;have hN:=(M.two64_bd (M.ptOk_parts hp).1).2;have Ia:H7 ((M.frs zs s).length<=64):=(by show _<=_;have:=M.frs_len zs s;rw[hz.len]at this;omega);clear hz h hp az;go_enter func197,ntmps197;(go_wp2_with fail);refine(l5 s _ HZ.o HA.o HP.o).mono ?_;rintro e w1 ⟨a1,c1,rfl,Ea,Ba⟩;have Ja:=Hd Ea;have Aa:=Hd Ba;clear Ea Ba;(go_wp2_with fail);refine(lu s _ (Ja.o.below ((m8 _ _).alloc (m3 _) _)).sees HA.o HP.o).mono ?_;rintro e w2 ⟨a2,J,c2,rfl,Ca,Fa⟩;have Ka:J<=64:=(by rw[<-Ca.len];exact Ia.o);have Da:=Hd ((Aa.o.alloc Aa.o.size _).trans (Fa.mono (by have:=Aa.o.size;simp;omega)));have La:=Hd Ca.sees;clear Ca Fa;(go_wp2_with fail);refine(iK _ La.o (by omega)).mono ?_;rintro e w3 ⟨a3,c3,rfl,Ga,Ha⟩
  have Na:H7 (aA 2 w3 w.heap.size a3 J c3 (kI zs s)):=by
   show aA _ _ _ _ _ _ _;rw[up E.o];exact Ga.mono Da.o.size
  have Oa:=Da.t Ha;clear Ga Ha;go_wp2
  go_ret2
  exact⟨a3,J,c3,rfl,Ka,Na.o,Oa.o⟩
theorem M.root_ne(h:M.two (n:Int)=true)(h0:0<n):M.root n≠0:=by
 intro e;have h1:=M.root_n h;rw[e]at h1;obtain⟨k,rfl⟩:∃k,n=k+1:=⟨n-1,by omega⟩;rw[Int.pow_succ,Int.mul_zero]at h1;unfold M.cg at h1;omega
theorem tC(st:Int)(h:i<zs.length):(M.pv (zs.take i) st%65537+zs.getD i 0*(st ^ i%65537))%65537=M.pv (zs.take (i+1)) st%65537:=by
 rw[M.pv_take _ _ h];exact(M.cg_mod _).add ((M.cg.refl _).mul (M.cg_mod _))
theorem ur(st:Int)(i:Nat):st ^ i%65537*st%65537=st ^ (i+1)%65537:=by
 rw[M.mm,Int.pow_succ]
def gg(zs:List Int)(s:Int)(N k:Nat):List Int:=M.tab N (λi=>if i<k then M.frc zs s i else 0)
theorem pe(zs:List Int)(s:Int)(N:Nat):List.replicate N 0=gg zs s N 0:=by
 refine M.tab_ext (by simp) λi hi=>?_;rw[if_neg (by omega),m5,m9 (by simpa using hi)];simp
theorem qY(zs:List Int)(s:Int)(N:Nat):gg zs s N N=M.tab N (M.frc zs s):=bv λ_ hi=>if_pos hi
theorem pd(zs:List Int)(s:Int):(gg zs s N k).set k (M.frc zs s k)=gg zs s N (k+1):=by
 unfold gg;rw[d7];refine bv λi _=>?_;by_cases e:i=k
 .subst e;rw[if_pos rfl,if_pos (by omega)]
 ·
  rw[if_neg e];by_cases e2:i<k
  .rw[if_pos e2,if_pos (by omega)]
  .rw[if_neg e2,if_neg (by omega)]
theorem i9(s:Int)(w:World)(hz:aC w la N lc zs)(az:M.allEl zs=true)(hp:M.ptOk N s=true):
  Calls prog 83 #[.slice la N lc,it s] w λe w'=>∃a' m c',e=.returned (.slice a' m c')/\aA 2 w' w.heap.size a' m c' (M.frs zs s)/\m1 w w':=by
 have HZ:=Hd hz;have HA:=Hd az;obtain⟨h1,h2,h3⟩:=M.ptOk_parts hp;obtain⟨s0,s1⟩:=(M.el_iff s).1 h2;obtain⟨kk,Ua,hN,Va⟩:=sZ h1;clear Ua;have Wa:=Hd (M.inv_in (M.root_el (M.two64_two h1)) (M.root_ne (M.two64_two h1) Va));have Xa:H7 (M.inv (N:Int)=M.pw (N:Int) 65535):=M.inv_in ((M.el_iff _).2 ⟨by omega,by omega⟩) (by omega);have Ya:=Hd (M.inv_in h2 h3)
 have HM:H7 (∀k,M.pv zs (M.pw (M.pw (M.root N) 65535) k)%65537*M.pw N 65535%65537*M.pw (M.pw s 65535) k%65537=M.frc zs s k):=λk=>by
  have:=pg zs s k;rw[hz.len]at this;exact this
 have HF:H7 (M.trim (M.tab N (M.frc zs s))=M.frs zs s):=(by show _=_;unfold M.frs;rw[hz.len]);obtain⟨r0,r1⟩:=M.pw_bd (M.root N) 65535;obtain⟨n0,n1⟩:=M.pw_bd (N:Int) 65535;obtain⟨u0,u1⟩:=M.pw_bd s 65535;clear hz az h1 h2 h3 hp;go_enter func83,ntmps83;(go_wp2_with fail);refine(eO N _).mono ?_;rintro e w ⟨rfl,rfl⟩;(go_wp2_with fail);refine(eD (M.root N) _).mono ?_;rintro e w ⟨rfl,rfl⟩;rw[Wa.o];(go_wp2_with fail);refine(eD (N:Int) _).mono ?_;rintro e w ⟨rfl,rfl⟩;rw[Xa.o];(go_wp2_with fail);refine(eD s _).mono ?_;rintro e w ⟨rfl,rfl⟩;rw[Ya.o];generalize M.pw (M.root N) 65535=bk at *;generalize M.pw (N:Int) 65535=sl at *;generalize M.pw s 65535=us at *;obtain⟨i0,hi,Ea,Fa,Ga⟩:=info_parts bF;(go_wp2_with(at_make;refine wpList_make_full _ rfl _ _ 24 rfl w.heap.size 2 i0 (it 0) 1 underlying24 hi Ea Fa .i64 .i64 _ _ N rfl rfl rfl rfl (by rw[Ga];omega) (by unfold maxLen;omega) (m3 _) ?_));intro w1 Ba hg
 have HO:H7 (aA 2 w1 w.heap.size (some ⟨w.heap.size,0,none⟩) N N (gg zs s N 0)):=by
  show w1.ownsRow _ _ _ _ _ _;rw[dP,pe zs s]at Ba;exact Ba
 have HB:=Hd (ba hg);clear Ba hg hi Ea Fa Ga;go_wp2
 go_loopw [10] (λi wr=>∃k:Nat,k<=N/\i=it k/\aA 2 wr w.heap.size (some ⟨w.heap.size,0,none⟩) N N (gg zs s N k)/\m1 w wr) (λi _=>N-(intOf i).toNat)
 case atStart=>exact⟨0,by omega,rfl,HO.o,HB.o⟩
 case round=>
  obtain⟨k,hk,rfl,Ha,Ia⟩:=hrel;have Ca:=Hd Ha;have Aa:=Hd Ia;clear Ha Ia HO HB;by_cases Za:k<N
  ·
   have hI:(k:Int)<(N:Int):=(by omega);have Ja:=Hd (HM.o k);obtain⟨t0,t1⟩:=M.pw_bd bk k;obtain⟨v0,v1⟩:=M.pw_bd us k;(go_wp2_with fail);refine(dO bk k _ r0 r1 (by omega)).mono ?_;rintro e wr ⟨rfl,rfl⟩;generalize M.pw bk k=st at *;generalize Ka:M.pw us k=pu at Ja v0 v1;have Ab:=Hd Ka;clear Ka;have Bb:=Hd (HZ.o.below Aa.o);go_wp2
   go_loop [11,12,14] (λa x i=>∃j:Nat,j<=N/\i=it j/\a=it (M.pv (zs.take j) st%65537)/\x=it (st ^ j%65537)) (λ_ _ i=>N-(intOf i).toNat)
   case atStart=>exact⟨0,by omega,rfl,rfl,by rw[Int.pow_zero];rfl⟩
   case round=>
    obtain⟨j,hj,rfl,rfl,rfl⟩:=hrel;by_cases La:j<N
    ·
     obtain⟨b1,o1,rfl,Na⟩:=Bb.o.at (by omega);have d1:=Na j La;have Oa:=M.el_at HA.o j;have Pa:=Hd (tC st (by rw[HZ.o.len];exact La));have Cb:=Hd (ur st j);have Da:0<=M.pv (zs.take j) st%65537/\M.pv (zs.take j) st%65537<65537:=(by omega);have Db:0<=st ^ j%65537/\st ^ j%65537<65537:=(by omega);generalize zs.getD j 0=x at d1 Oa Pa;generalize M.pv (zs.take j) st%65537=a at *;generalize st ^ j%65537=y at *;obtain⟨x0,x1⟩:=Oa;obtain⟨a0,a1⟩:=Da;obtain⟨y0,y1⟩:=Db;obtain⟨m0,I⟩:=M.mul_bd x0 x1 y0 y1;obtain⟨J,Q⟩:=M.mul_bd y0 y1 t0 t1;have hJ:(j:Int)<(N:Int):=(by omega);clear Na;go_wp2
     go_round
     case rel=>exact⟨j+1,by omega,by go_num,by rw[Pa.o],by rw[Cb.o]⟩
     case measure=>simp[intOf];omega
    ·
     have Eb:j=N:=(by omega);subst Eb;have HT:H7 (M.pv (zs.take j) st=M.pv zs st):=(by show _=_;rw[xt (by rw[HZ.o.len];exact m3 _)]);have Da:0<=M.pv (zs.take j) st%65537/\M.pv (zs.take j) st%65537<65537:=(by omega);have HV:H7 (M.pv (zs.take j) st%65537*sl%65537*pu%65537=M.frc zs s k):=(by show _=_;rw[HT.o];exact Ja.o);generalize M.pv (zs.take j) st%65537=a at *;obtain⟨a0,a1⟩:=Da;obtain⟨m0,I⟩:=M.mul_bd a0 a1 n0 n1;have b0:0<=a*sl%65537:=Int.emod_nonneg _ (by decide);have b1:a*sl%65537<65537:=Int.emod_lt_of_pos _ (by decide);obtain⟨J,Q⟩:=M.mul_bd b0 b1 v0 v1;obtain⟨g,Qa,_,_,Ra,hf⟩:=Ca.o.block (by omega);simp only[Option.some.injEq,Addr.mk.injEq,and_true]at Qa;subst Qa;have d2:=Ra k Za;have f2:=hf k;have Fb:H7 ((gg zs s j k).set k (M.frc zs s k)=gg zs s j (k+1)):=pd zs s;clear Ra hf;(go_wp2_with fail);refine(dO us k _ u0 u1 (by omega)).mono ?_;rintro e wr ⟨rfl,rfl⟩;rw[Ab.o];go_wp2;go_roundw
     case rel=>exact⟨k+1,by omega,by go_num,by rw[<-Fb.o,<-HV.o];exact Ca.o.set k _,Aa.o.setCell (m3 _) _⟩
     case measure=>simp[intOf];omega
  ·
   have Gb:k=N:=(by omega);subst Gb;(go_wp2_with fail);refine(cr _ Ca.o.sees (by omega)).mono ?_;rintro e w2 ⟨a2,J,c2,rfl,Sa,Ta⟩
   have Hb:H7 (aA 2 w2 w.heap.size a2 J c2 (M.frs zs s)):=by
    show aA _ _ _ _ _ _ _;rw[<-HF.o,<-qY];exact Sa.mono Aa.o.size
   have Ib:=Aa.t Ta;clear Sa Ta;go_wp2;go_ret;exact⟨a2,J,c2,rfl,Hb.o,Ib.o⟩
def kE(zs:List Int)(s m:Int):Bool:=M.frOk zs s&&decide (((kI zs s).length:Int)<=m)
theorem ep(s m:Int)(w:World)(hz:aC w la N lc zs):
  Rt 170 #[.slice la N lc,it s,it m] w (.bool (kE zs s m)):=by
 have HZ:=Hd hz;clear hz
 cases h:M.frOk zs s with
 | false=>
  have E:H7 (kE zs s m=false):=(by show _=_;simp[kE,h]);go_enter func170,ntmps170;(go_wp2_with fail);refine(fw s _ HZ.o).mono ?_;rintro e w1 ⟨a1,I,c1,rfl,hm,Ba,Aa⟩;have Ca:=Hd Aa;clear Ba Aa;go_wp2;go_ret;exact⟨aB E.o.symm,Ca.o⟩
 | true=>
  have E:H7 (kE zs s m=decide (((kI zs s).length:Int)<=m)):=(by show _=_;simp[kE,h]);go_enter func170,ntmps170;(go_wp2_with fail);refine(fw s _ HZ.o).mono ?_;rintro e w1 ⟨a1,I,c1,rfl,hm,Ba,Aa⟩;have HL:=Hd Ba.len;have Ca:=Hd Aa;clear Ba Aa;go_wp2;go_ret;exact⟨aB (by rw[E.o,HL.o]),Ca.o⟩
namespace M
theorem cg_ne(h:el a=true)(h0:a≠0):¬ cg a 0:=by
 have:=(el_iff a).1 h;unfold cg;omega
theorem ptOk_two(h:ptOk n s=true):two (n:Int)=true:=two64_two (ptOk_parts h).1
theorem pt_inj(h:ptOk n s=true)(hij:i<j)(hj:j<n):s*root n ^ i%65537≠s*root n ^ j%65537:=by
 intro e;obtain⟨h1,h2,h3⟩:=ptOk_parts h;have hs:=cg_ne h2 h3;have h0:0<n:=(by omega);have hw:=cg_ne (root_el (ptOk_two h)) (root_ne (ptOk_two h) h0);obtain⟨d,rfl⟩:∃d,j=i+d:=⟨j-i,by omega⟩;have e2:cg (s*root n ^ i) (s*root n ^ (i+d)):=e
 have e3:cg (s*root n ^ i*(root n ^ d-1)) 0:=by
  have:=cg_0sub e2.symm;rw[Int.pow_add]at this;refine cg.trans (cg_of_eq ?_) this;generalize root n ^ i=A;generalize root n ^ d=B
  grind
 have Aa:¬ cg (s*root n ^ i) 0:=λe=>pow_ne hw i (cg_zero e hs);exact root_ord (ptOk_two h) (by omega) (by omega) (cg_sub0 (cg_zero e3 Aa))
theorem nodup_tab{f:Nat->Int}(h:∀i j,i<j->j<N->f i≠f j):(tab N f).Nodup:=by
 unfold tab List.Nodup;rw[List.pairwise_map];exact(List.pairwise_lt_range (n:=N)).imp_of_mem λ_ hj hlt=>h _ _ hlt (List.mem_range.1 hj)
theorem gp_nodup(h:ptOk n s=true):(gp s (root n) n).Nodup:=nodup_tab λ_ _ hij hj=>pt_inj h hij hj
theorem gp_get(s q:Int)(n i:Nat)(h:i<n):(gp s q n).getD i 0=s*q ^ i%65537:=tab_get _ _ _ h
theorem frs_ev(h:frOk v s=true)(hj:j<v.length):ev (frs v s) (s*root v.length ^ j%65537)=v.getD j 0:=by
 obtain⟨hp,ha⟩:ptOk v.length s=true/\allEl v=true:=by unfold frOk at h;simpa using h
 obtain⟨h1,h2,h3⟩:=ptOk_parts hp;have h0:0<v.length:=(by omega);have hb:=two64_bd h1;have hw:=cg_ne (root_el (ptOk_two hp)) (root_ne (ptOk_two hp) h0);have hn:¬ cg (v.length:Int) 0:=by unfold cg;omega
 have key:=interp (n:=v.length) (l:=v) (out:=tab v.length (frc v s)) (s:=s) (si:=pw s 65535) (w:=root v.length) (wi:=pw (root v.length) 65535) (ni:=pw v.length 65535) rfl (tab_len _ _) (cg_inv (cg_ne h2 h3)) (cg_inv hw) (by rw[Int.mul_comm];exact cg_inv hn) (root_n (ptOk_two hp)) (λd a b=>root_ord (ptOk_two hp) a b) (λk hk=>by
  rw[tab_get _ _ _ hk];unfold frc;refine(cg_mod _).trans (((cg_mod _).mul (cg_mod _)).trans (cg_of_eq ?_));exact Int.mul_comm _ _) hj
 unfold frs;rw[ev_trim,ev_pv];have e1:=pv_cg (cg_mod (s*root v.length ^ j)) (tab v.length (frc v s));have e2:=e1.trans key;have hv:=el_at ha j;unfold cg at e2;omega
theorem frs_all(v:List Int)(s:Int):allEl (frs v s)=true:=all_trim (all_tab λi _=>(el_iff _).2 ⟨by unfold frc;omega,by unfold frc;omega⟩)
theorem frs_neat(v:List Int)(s:Int):neat (frs v s):=neat_trim _
end M
namespace M
theorem cg_lt'(h:cg a b)(a0:0<=a)(a1:a<65537):a=b%65537:=by unfold cg at h;omega
theorem len_padd_trim(a b:List Int):(trim (padd a b)).length<=max a.length b.length:=by
 have:=len_trim (padd a b);rw[padd_len]at this;exact this
theorem len_pscale_trim(a:List Int)(c:Int):(trim (pscale a c)).length<=a.length:=by
 have:=len_trim (pscale a c);rw[pscale_len']at this;exact this
def turn(f:List Int)(g:Int):List Int:=trim (tab f.length (λi=>f.getD i 0*(g ^ i%65537)%65537))
theorem ev_turn(f:List Int)(g z:Int):ev (turn f g) z=ev f (g*z%65537):=by
 unfold turn;rw[ev_trim,ev_pv,ev_pv]
 have h:=pv_scale (zs:=f) (ys:=tab f.length (λi=>f.getD i 0*(g ^ i%65537)%65537)) g z (tab_len _ _) (λi hi=>by
  rw[tab_get _ _ _ hi];exact(cg_mod _).trans ((cg.refl _).mul (cg_mod _)))
 exact h.trans (pv_cg (cg_mod _).symm f)
theorem len_turn(f:List Int)(g:Int):(turn f g).length<=f.length:=by
 have:=len_trim (tab f.length (λi=>f.getD i 0*(g ^ i%65537)%65537));rw[tab_len]at this;exact this
theorem all_turn(f:List Int)(g:Int):allEl (turn f g)=true:=all_trim (all_tab λi _=>(el_iff _).2 ⟨by omega,by omega⟩)
def rl(r:Rl)(x y:List Int):List Int:=
 trim (padd (trim (padd (trim (padd (trim (padd (trim (padd (trim (pscale (pmul x x) r.xx)) (trim (pscale (pmul x y) r.xy)))) (trim (pscale (pmul y y) r.yy)))) (trim (pscale x r.x)))) (trim (pscale y r.y)))) (trim [r.k]))
theorem ev_one(k z:Int):ev [k] z=k%65537:=by
 show(0*z+k)%65537=_;rw[Int.zero_mul,Int.zero_add]
theorem ev_rl(r:Rl)(x y:List Int)(z:Int):ev (rl r x y) z=r.app (ev x z) (ev y z):=by
 unfold rl Rl.app;simp only[ev_trim,ev_padd,ev_pscale,ev_pmul,ev_one];simp only[mL,aL,aR]
 congr 1
 grind
theorem all_rl(r:Rl)(x y:List Int):allEl (rl r x y)=true:=all_trim (all_padd _ _)
theorem len_rl(r:Rl)(h0:1<=n)(hx:x.length<=n)(hy:y.length<=n):(rl r x y).length<=2*n-1:=by
 unfold rl;have a1:=len_pscale_trim (pmul x x) r.xx;have a2:=len_pscale_trim (pmul x y) r.xy;have a3:=len_pscale_trim (pmul y y) r.yy;have b1:=pmul_len x x;have b2:=pmul_len x y;have b3:=pmul_len y y;have a4:=len_pscale_trim x r.x;have a5:=len_pscale_trim y r.y;have a6:=len_trim [r.k];rw[List.length_singleton]at a6;have c1:=len_padd_trim (trim (pscale (pmul x x) r.xx)) (trim (pscale (pmul x y) r.xy));generalize trim (padd (trim (pscale (pmul x x) r.xx)) (trim (pscale (pmul x y) r.xy)))=L1 at *;have c2:=len_padd_trim L1 (trim (pscale (pmul y y) r.yy));generalize trim (padd L1 (trim (pscale (pmul y y) r.yy)))=L2 at *;have c3:=len_padd_trim L2 (trim (pscale x r.x));generalize trim (padd L2 (trim (pscale x r.x)))=L3 at *;have c4:=len_padd_trim L3 (trim (pscale y r.y));generalize trim (padd L3 (trim (pscale y r.y)))=L4 at *;have c5:=len_padd_trim L4 (trim [r.k]);omega
def left(f rule:List Int)(g last:Int):List Int:=pmul (trim (padd (turn f g) (trim (pscale rule 65536)))) [sub 0 last,1]
theorem ev_left(f rule:List Int)(g last z:Int)(hl:el last=true):ev (left f rule g last) z=(ev f (g*z%65537)-ev rule z)*(z-last)%65537:=by
 unfold left;rw[ev_pmul,ev_trim,ev_padd,ev_trim,ev_pscale,ev_turn,sub_in (by decide) hl];show cg _ _;refine cg.mul ((cg_mod _).trans (((cg.refl _).add ((cg_mod _).trans ((cg.refl _).mul (show cg 65536 (-1) by unfold cg;decide)))).trans (cg_of_eq (by omega)))) ?_;show cg ((((0*z+1)%65537)*z+(0+65537-last)%65537)%65537) _;rw[Int.zero_mul];show cg ((1*z+(0+65537-last)%65537)%65537) _;unfold cg;omega
theorem len_left{rule:List Int}{g last:Int}(h0:1<=n)(hf:f.length<=n)(hr:rule.length<=2*n-1):(left f rule g last).length<=2*n:=by
 unfold left;have h1:=pmul_len (trim (padd (turn f g) (trim (pscale rule 65536)))) [sub 0 last,1];have h2:=len_padd_trim (turn f g) (trim (pscale rule 65536));have h3:=len_turn f g;have h4:=len_pscale_trim rule 65536;have h5:[sub 0 last,1].length=2:=rfl;omega
theorem all_left(f rule:List Int)(g last:Int):allEl (left f rule g last)=true:=all_pmul _ _
theorem neat_left(f rule:List Int)(g last:Int):neat (left f rule g last):=neat_pmul _ _
def zeroL(n:Nat):List Int:=((List.replicate (n+1) 0).set 0 65536).set n 1
theorem zeroL_len(n:Nat):(zeroL n).length=n+1:=by simp[zeroL]
theorem zeroL_get(h:0<n)(i:Nat):(zeroL n).getD i 0=if i=n then 1 else if i=0 then 65536 else 0:=by
 unfold zeroL;rw[getD_set,getD_set,replicate_getD];simp only[List.length_set,xM];by_cases h1:i=n
 .rw[if_pos (by omega),if_pos h1]
 ·
  rw[if_neg (by omega),if_neg h1];by_cases h2:i=0
  .rw[if_pos (by omega),if_pos h2]
  .rw[if_neg (by omega),if_neg h2]
theorem zeroL_all(h:0<n):allEl (zeroL n)=true:=by
 rw[tab_ext (zeroL_len n) (λi _=>zeroL_get h i)];refine all_tab λi _=>?_;by_cases h1:i=n
 .rw[if_pos h1];decide
 ·
  rw[if_neg h1];by_cases h2:i=0
  .rw[if_pos h2];decide
  .rw[if_neg h2];decide
theorem zeroL_neat(h:0<n):neat (zeroL n):=.inr (by rw[zeroL_len,zeroL_get h,if_pos (by omega)];decide)
theorem ev_zeroL(h:0<n)(z:Int):cg (ev (zeroL n) z) (z ^ n-1):=by
 refine(ev_cg _ _).trans ?_;unfold zeroL;rw[pv_set _ _ _ (by simp),pv_set _ _ _ (by simp),pv_zeros,getD_set,replicate_getD,replicate_getD,if_neg (by omega)];have:cg (0+(65536-0)*z ^ 0+(1-0)*z ^ n) (0+(-1)*z ^ 0+(1-0)*z ^ n):=((cg.refl 0).add ((show cg (65536-0) (-1) by unfold cg;decide).mul (cg.refl _))).add (cg.refl _);refine this.trans (cg_of_eq ?_);rw[Int.pow_zero];omega
def lst(n:Nat):Int:=pw (root n) (n-1)
theorem el_lst(n:Nat):el (lst n)=true:=el_pw _ _
theorem row_pt(h:two64 (n:Int)=true):ptOk n 1=true:=ptOk_mk h (by decide) (by decide)
theorem row_one(n i:Nat):root n ^ i%65537=1*root n ^ i%65537:=by rw[Int.one_mul]
theorem rows_zero(h:two64 (n:Int)=true)(nr:neat r)(ar:allEl r=true)(lr:r.length<=n)(hz:∀i,i<n->ev r (root n ^ i%65537)=0):r=[]:=by
 refine interp_unique (xs:=gp 1 (root n) n) nr (.inl rfl) ar rfl (by rw[gp_len];exact lr) (by simp) (gp_nodup (row_pt h)) λx hx=>?_;obtain⟨i,hi,rfl⟩:=List.mem_map.1 hx;have hi':=List.mem_range.1 hi;refine⟨by omega,by omega,?_⟩;rw[<-row_one,hz i hi'];rfl
theorem div_zeroL{L:List Int}(h:two64 (n:Int)=true)(h0:0<n)(hd:Div L (zeroL n) q r)(hL:∀i,i<n->ev L (root n ^ i%65537)=0):r=[]:=by
 have hs:=hd.short;rw[zeroL_len]at hs;refine rows_zero h hd.nr hd.ar (by omega) λi hi=>?_;have e:=div_ev hd (root n ^ i%65537);rw[hL i hi]at e
 have z0:cg (ev (zeroL n) (root n ^ i%65537)) 0:=by
  refine(ev_zeroL h0 _).trans ?_
  have h1:cg ((root n ^ i%65537) ^ n) 1:=by
   refine((cg_mod _).pow n).trans ?_;rw[<-Int.pow_mul,Nat.mul_comm,Int.pow_mul];refine((root_n (two64_two h)).pow i).trans (cg_of_eq Int.one_pow)
  exact(h1.sub (cg.refl 1)).trans (cg_of_eq (by omega))
 have hb:=ev_bd (zeroL n) (root n ^ i%65537);have z1:ev (zeroL n) (root n ^ i%65537)=0:=(by unfold cg at z0;omega);rw[z1,Int.mul_zero,Int.zero_add]at e;have Aa:=ev_bd r (root n ^ i%65537);omega
def zp(n i:Nat):Int:=3*root (4*n:Nat) ^ i%65537
theorem zp_bd(n i:Nat):0<=zp n i/\zp n i<65537:=by unfold zp;omega
theorem el_zp(n i:Nat):el (zp n i)=true:=(el_iff _).2 (zp_bd n i)
def zer(n i:Nat):Int:=(pw (zp n i) n+65537-1)%65537
theorem zer_bd(n i:Nat):0<=zer n i/\zer n i<65537:=by unfold zer;omega
theorem zer_cg(n i:Nat):cg (zer n i) (zp n i ^ n-1):=by
 unfold zer;refine(cg_mod _).trans ?_;have:=cg_pw (zp n i) n;unfold cg at *;omega
def rowsN(n:Nat):Bool:=n==2||n==4||n==8||n==16
theorem rowsN_cases(h:rowsN n=true):n=2\/n=4\/n=8\/n=16:=by
 unfold rowsN at h;simp only[Bool.or_eq_true,beq_iff_eq]at h;omega
theorem rowsN_two(h:rowsN n=true):two64 (n:Int)=true:=by
 rcases rowsN_cases h with rfl | rfl | rfl | rfl <;> decide
theorem rowsN_two4(h:rowsN n=true):two64 ((4*n:Nat):Int)=true:=by
 rcases rowsN_cases h with rfl | rfl | rfl | rfl <;> decide
theorem rowsN_pt(h:rowsN n=true):ptOk ((4*n:Nat):Int) 3=true:=ptOk_mk (rowsN_two4 h) (by decide) (by decide)
theorem rowsN_three(h:rowsN n=true):¬ cg ((3:Int) ^ (4*n)) 1:=by
 rcases rowsN_cases h with rfl | rfl | rfl | rfl <;> (unfold cg;decide)
theorem zer_ne(h:rowsN n=true)(i:Nat):zer n i≠0:=by
 intro e;have h1:=zer_cg n i;rw[e]at h1;have h2:=cg_sub0 h1.symm
 have h3:cg (zp n i ^ (4*n)) 1:=by
  rw[Nat.mul_comm,Int.pow_mul];exact(h2.pow 4).trans (cg_of_eq (by decide))
 have h4:cg (zp n i ^ (4*n)) (3 ^ (4*n)):=by
  unfold zp;refine((cg_mod _).pow _).trans ?_;have e1:root (4*n:Nat) ^ (4*n*i)=(root (4*n:Nat) ^ (4*n)) ^ i:=Int.pow_mul;rw[Int.mul_pow,<-Int.pow_mul,Nat.mul_comm i,e1];have:=(cg.refl ((3:Int) ^ (4*n))).mul ((root_n (two64_two (rowsN_two4 h))).pow i);rw[Int.one_pow,Int.mul_one]at this;exact this
 exact rowsN_three h (h4.symm.trans h3)
theorem root_four(h:rowsN n=true):cg (root (4*n:Nat) ^ 4) (root n):=by
 have h1:=two64_two (rowsN_two h);have h2:=two64_two (rowsN_two4 h);rw[root_in h1,root_in h2];refine((cg_pw _ _).pow 4).trans ?_;rw[<-Int.pow_mul]
 have e:(65536/((4*n:Nat):Int)).toNat*4=(65536/(n:Int)).toNat:=by
  rcases rowsN_cases h with rfl | rfl | rfl | rfl <;> decide
 rw[e];exact(cg_pw _ _).symm
theorem zp_next(h:rowsN n=true)(i:Nat):root n*zp n i%65537=zp n ((i+4)%(4*n)):=by
 show cg _ _;unfold zp;have h1:=(pow_wrap (root_n (two64_two (rowsN_two4 h))) (i+4)).symm;refine cg.trans ?_ (((cg.refl 3).mul h1).symm);refine((cg.refl _).mul (cg_mod _)).trans ?_;rw[Int.pow_add];refine(((root_four h).symm.mul (cg.refl _))).trans (cg_of_eq ?_);generalize root (4*n:Nat) ^ i=A;generalize root (4*n:Nat) ^ 4=B
 grind
def mis(r:Rl)(X Y F:List Int)(n i:Nat):Int:=(F.getD ((i+4)%(4*n)) 0+65537-r.app (X.getD i 0) (Y.getD i 0))%65537*((zp n i+65537-lst n)%65537)%65537
def wide(f:List Int)(n:Nat):List Int:=evs f 3 (root (4*n:Nat)) (4*n)
theorem wide_len(f:List Int)(n:Nat):(wide f n).length=4*n:=evs_len _ _ _ _
theorem wide_get(f:List Int)(h:i<4*n):(wide f n).getD i 0=ev f (zp n i):=by
 unfold wide evs;rw[tab_get _ _ _ h];rfl
theorem mis_left{r:Rl}(h:rowsN n=true)(hi:i<4*n):mis r (wide x n) (wide y n) (wide f n) n i=ev (left f (rl r x y) (root n) (lst n)) (zp n i):=by
 unfold mis;rw[ev_left _ _ _ _ _ (el_lst n),wide_get _ hi,wide_get _ hi,wide_get _ (Nat.mod_lt _ (by omega)),ev_rl,zp_next h];show cg _ _;refine cg.mul ?_ ?_
 .unfold cg;omega
 .unfold cg;omega
def quo(r:Rl)(X Y F:List Int)(n:Nat):List Int:=tab (4*n) (λi=>mis r X Y F n i*pw (zer n i) 65535%65537)
theorem quo_of(h:rowsN n=true)(ha:0<=a/\a<65537)(e:cg (a*zer n i) b):a=b*pw (zer n i) 65535%65537:=by
 have hz:¬ cg (zer n i) 0:=by
  have:=zer_bd n i;have:=zer_ne h i;unfold cg;omega
 have h1:=cg_inv hz
 have h2:cg a (b*pw (zer n i) 65535):=by
  have h3:=e.mul (cg.refl (pw (zer n i) 65535));have h4:=(cg.refl a).mul h1;rw[Int.mul_one,<-Int.mul_assoc]at h4;exact h4.symm.trans h3
 exact cg_lt' h2 ha.1 ha.2
end M
namespace M
structure Thru(m:Mc)(s:Int×Int)(n:Nat)(x y:List Int):Prop where
 ax:allEl x=true
 nx:neat x
 lx:x.length<=n
 vx:∀i,i<n->ev x (root n ^ i%65537)=(m.rn s i).1
 ay:allEl y=true
 ny:neat y
 ly:y.length<=n
 vy:∀i,i<n->ev y (root n ^ i%65537)=(m.rn s i).2
def xsR(m:Mc)(s:Int×Int)(n:Nat):List Int:=tab n (λi=>(m.rn s i).1)
def ysR(m:Mc)(s:Int×Int)(n:Nat):List Int:=tab n (λi=>(m.rn s i).2)
theorem xsR_all{m:Mc}{s:Int×Int}(hs:sOk s=true)(n:Nat):allEl (xsR m s n)=true:=all_tab λi _=>(el_iff _).2 ((sOk_iff _).1 (sOk_rn m hs i)).1
theorem ysR_all{m:Mc}{s:Int×Int}(hs:sOk s=true)(n:Nat):allEl (ysR m s n)=true:=all_tab λi _=>(el_iff _).2 ((sOk_iff _).1 (sOk_rn m hs i)).2
theorem frOk_rows(h:rowsN n=true)(hl:v.length=n)(ha:allEl v=true):frOk v 1=true:=by
 unfold frOk;rw[hl,row_pt (rowsN_two h),ha];rfl
theorem frOk_wide(h:rowsN n=true)(hl:v.length=4*n)(ha:allEl v=true):frOk v 3=true:=by
 unfold frOk;rw[hl,rowsN_pt h,ha];rfl
def fx(m:Mc)(s:Int×Int)(n:Nat):List Int:=frs (xsR m s n) 1
def fy(m:Mc)(s:Int×Int)(n:Nat):List Int:=frs (ysR m s n) 1
theorem fr_rows(h:rowsN n=true)(hl:v.length=n)(ha:allEl v=true)(hi:i<n):ev (frs v 1) (root n ^ i%65537)=v.getD i 0:=by
 have:=frs_ev (frOk_rows h hl ha) (j:=i) (by omega);rw[hl,<-row_one]at this;exact this
theorem thru_f(m:Mc){s:Int×Int}(hs:sOk s=true)(h:rowsN n=true):Thru m s n (fx m s n) (fy m s n) where
 ax:=frs_all _ _
 nx:=frs_neat _ _
 lx:=by have:=frs_len (xsR m s n) 1;unfold xsR at this;rw[tab_len]at this;exact this
 vx:=λi hi=>by rw[fx,fr_rows h (show(xsR m s n).length=n from tab_len _ _) (xsR_all hs n) hi,xsR,tab_get _ _ _ hi]
 ay:=frs_all _ _
 ny:=frs_neat _ _
 ly:=by have:=frs_len (ysR m s n) 1;unfold ysR at this;rw[tab_len]at this;exact this
 vy:=λi hi=>by rw[fy,fr_rows h (show(ysR m s n).length=n from tab_len _ _) (ysR_all hs n) hi,ysR,tab_get _ _ _ hi]
theorem root_step(n i:Nat):root n*(root n ^ i%65537)%65537=root n ^ (i+1)%65537:=by
 rw[mR,Int.pow_succ,Int.mul_comm]
theorem left_rows{m:Mc}{s:Int×Int}(ht:Thru m s n x y):(∀i,i<n->ev (left x (rl m.X x y) (root n) (lst n)) (root n ^ i%65537)=0)/\(∀i,i<n->ev (left y (rl m.Y x y) (root n) (lst n)) (root n ^ i%65537)=0):=by
 constructor <;> intro i hi
 ·
  rw[ev_left _ _ _ _ _ (el_lst n)];by_cases hl:i=n-1
  ·
   subst hl;have:root n ^ (n-1)%65537-lst n=0:=(by unfold lst pw;omega);rw[this,Int.mul_zero];rfl
  ·
   rw[root_step,ht.vx (i+1) (by omega),ev_rl,ht.vx i hi,ht.vy i hi]
   have:(m.rn s (i+1)).1-m.X.app (m.rn s i).1 (m.rn s i).2=0:=by
    show(m.nx (m.rn s i)).1-_=0;unfold Mc.nx;omega
   rw[this,Int.zero_mul];rfl
 ·
  rw[ev_left _ _ _ _ _ (el_lst n)];by_cases hl:i=n-1
  ·
   subst hl;have:root n ^ (n-1)%65537-lst n=0:=(by unfold lst pw;omega);rw[this,Int.mul_zero];rfl
  ·
   rw[root_step,ht.vy (i+1) (by omega),ev_rl,ht.vx i hi,ht.vy i hi]
   have:(m.rn s (i+1)).2-m.Y.app (m.rn s i).1 (m.rn s i).2=0:=by
    show(m.nx (m.rn s i)).2-_=0;unfold Mc.nx;omega
   rw[this,Int.zero_mul];rfl
theorem rowsN_pos(h:rowsN n=true):2<=n/\n<=16:=by rcases rowsN_cases h with rfl | rfl | rfl | rfl <;> omega
theorem quo_div{r:Rl}{rest:List Int}(h:rowsN n=true)(hL:∀i,i<n->ev (left f (rl r x y) (root n) (lst n)) (root n ^ i%65537)=0)(hd:Div (left f (rl r x y) (root n) (lst n)) (zeroL n) q rest):wide q n=quo r (wide x n) (wide y n) (wide f n) n:=by
 have hp:=rowsN_pos h;have h0:=div_zeroL (rowsN_two h) (by omega) hd hL;refine tab_ext (wide_len _ _) λi hi=>?_;rw[wide_get _ hi];refine quo_of h (ev_bd _ _) ?_;rw[mis_left h hi,div_ev hd,h0];refine cg.trans ?_ (cg_mod _).symm;refine cg.trans ?_ (cg_of_eq (show ev q (zp n i)*ev (zeroL n) (zp n i)=ev q (zp n i)*ev (zeroL n) (zp n i)+ev [] (zp n i) by rw[show ev [] (zp n i)=0 from rfl];omega));exact(cg.refl _).mul ((zer_cg n i).trans (ev_zeroL (by omega) _).symm)
structure Pf where
 s:Int×Int
 e:Int×Int
 X:List Int
 Y:List Int
 QX:List Int
 QY:List Int
def Mc.pf(m:Mc)(s:Int×Int)(n:Nat):Pf where
 s:=s
 e:=m.rn s (n-1)
 X:=wide (fx m s n) n
 Y:=wide (fy m s n) n
 QX:=quo m.X (wide (fx m s n) n) (wide (fy m s n) n) (wide (fx m s n) n) n
 QY:=quo m.Y (wide (fx m s n) n) (wide (fy m s n) n) (wide (fy m s n) n) n
def lenEl(l:List Int)(n:Nat):Bool:=decide (l.length=4*n)&&allEl l
def Pf.form(p:Pf)(n:Nat):Bool:=lenEl p.X n&&(lenEl p.Y n&&(lenEl p.QX n&&(lenEl p.QY n&&(sOk p.s&&sOk p.e))))
def Pf.rows(p:Pf):Nat:=if p.form 2=true then 2 else if p.form 4=true then 4 else if p.form 8=true then 8 else if p.form 16=true then 16 else 0
theorem lenEl_iff(l:List Int)(n:Nat):lenEl l n=true↔l.length=4*n/\allEl l=true:=by unfold lenEl;rw[xP,decide_eq_true_iff]
theorem form_iff(p:Pf)(n:Nat):p.form n=true↔(p.X.length=4*n/\allEl p.X=true)/\(p.Y.length=4*n/\allEl p.Y=true)/\(p.QX.length=4*n/\allEl p.QX=true)/\(p.QY.length=4*n/\allEl p.QY=true)/\sOk p.s=true/\sOk p.e=true:=by
 unfold Pf.form;simp only[xP,lenEl_iff]
theorem rows_of{p:Pf}(h:rowsN n=true)(hf:p.form n=true):p.rows=n:=by
 have hl:=((form_iff p n).1 hf).1.1;have no:∀k,k≠n->¬ p.form k=true:=λk hk hc=>by have:=((form_iff p k).1 hc).1.1;omega
 unfold Pf.rows
 rcases rowsN_cases h with rfl | rfl | rfl | rfl
 .rw[if_pos hf]
 .rw[if_neg (no 2 (by omega)),if_pos hf]
 .rw[if_neg (no 2 (by omega)),if_neg (no 4 (by omega)),if_pos hf]
 .rw[if_neg (no 2 (by omega)),if_neg (no 4 (by omega)),if_neg (no 8 (by omega)),if_pos hf]
theorem rows_some{p:Pf}(h:p.rows≠0):rowsN p.rows=true/\p.form p.rows=true:=by
 unfold Pf.rows at *;by_cases h2:p.form 2=true
 .rw[if_pos h2];exact⟨rfl,h2⟩
 rw[if_neg h2]at *;by_cases h4:p.form 4=true
 .rw[if_pos h4];exact⟨rfl,h4⟩
 rw[if_neg h4]at *;by_cases h8:p.form 8=true
 .rw[if_pos h8];exact⟨rfl,h8⟩
 rw[if_neg h8]at *;by_cases Aa:p.form 16=true
 .rw[if_pos Aa];exact⟨rfl,Aa⟩
 rw[if_neg Aa]at h;exact absurd rfl h
def qOk(r:Rl)(X Y F Q:List Int)(n k:Nat):Bool:=(List.range k).all λi=>Q.getD i 0*zer n i%65537==mis r X Y F n i
def lenOk(l:List Int)(n:Nat):Bool:=decide ((frs l 3).length<=n)
def endOk(p:Pf)(n:Nat):Bool:=(decide (ev (frs p.X 3) 1=p.s.1)&&decide (ev (frs p.Y 3) 1=p.s.2))&&(decide (ev (frs p.X 3) (lst n)=p.e.1)&&decide (ev (frs p.Y 3) (lst n)=p.e.2))
def accN(m:Mc)(p:Pf)(n:Nat):Bool:=(lenOk p.X n&&(lenOk p.Y n&&(lenOk p.QX n&&lenOk p.QY n)))&&(endOk p n&&(qOk m.X p.X p.Y p.X p.QX n (4*n)&&qOk m.Y p.X p.Y p.Y p.QY n (4*n)))
def acc(m:Mc)(p:Pf):Bool:=m.ok&&(decide (p.rows≠0)&&accN m p p.rows)
end M
end Go.Proofs.YtbjalickbnpnkaaGreatDoor
