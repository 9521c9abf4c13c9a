import Derived.Deep.Slices
import Derived.Test.YtbjalickbnpnkaaGreatDoorPk00
namespace Go.Proofs.YtbjalickbnpnkaaGreatDoor
open Go.RowKit Go.Proofs.Tryz
set_option linter.unusedSimpArgs false
set_option maxHeartbeats 32000000
variable {B dA n cap h o:Nat}{w w':World}{a:Option Addr}{t:TypeId}{v:Value}{ps:List (Int×Int)}{b wi s:Int}{cs:List Value}
theorem pN(a b c d f k x y:Int)(w:World)(a0:0<=a)(a1:a<65537)(b0:0<=b)(b1:b<65537)(c0:0<=c)(c1:c<65537)(d0:0<=d)(d1:d<65537)(f0:0<=f)(f1:f<65537)(k0:0<=k)(k1:k<65537)(x0:0<=x)(x1:x<65537)(y0:0<=y)(y1:y<65537):
  Rt 111 #[.agg #[.int .i64 a,.int .i64 b,.int .i64 c,.int .i64 d,.int .i64 f,.int .i64 k],.int .i64 x,.int .i64 y] w (.int .i64 (((((((a*(x*x%65537)%65537)+b*(x*y%65537)%65537)%65537+c*(y*y%65537)%65537)%65537+d*x%65537)%65537+f*y%65537)%65537+k)%65537)):=by
 obtain⟨p1,Aa⟩:∃u,x*x%65537=u:=⟨_,rfl⟩;have Oa:0<=p1:=(by omega);have Pa:p1<65537:=by omega
 have Qa:∀w,Rq 110 #[.int .i64 x,.int .i64 x] w (.int .i64 p1):=by
  intro w;rw[<-Aa,<-M.mul_in ((M.el_iff x).2 ⟨x0,x1⟩) ((M.el_iff x).2 ⟨x0,x1⟩)];exact bP x x w
 obtain⟨p2,Ba⟩:∃u,a*p1%65537=u:=⟨_,rfl⟩;have Ra:0<=p2:=(by omega);have Sa:p2<65537:=by omega
 have Ta:∀w,Rq 110 #[.int .i64 a,.int .i64 p1] w (.int .i64 p2):=by
  intro w;rw[<-Ba,<-M.mul_in ((M.el_iff a).2 ⟨a0,a1⟩) ((M.el_iff p1).2 ⟨Oa,Pa⟩)];exact bP a p1 w
 obtain⟨q1,Ca⟩:∃u,x*y%65537=u:=⟨_,rfl⟩;have Ua:0<=q1:=(by omega);have Va:q1<65537:=by omega
 have Wa:∀w,Rq 110 #[.int .i64 x,.int .i64 y] w (.int .i64 q1):=by
  intro w;rw[<-Ca,<-M.mul_in ((M.el_iff x).2 ⟨x0,x1⟩) ((M.el_iff y).2 ⟨y0,y1⟩)];exact bP x y w
 obtain⟨q2,Da⟩:∃u,b*q1%65537=u:=⟨_,rfl⟩;have Xa:0<=q2:=(by omega);have Ya:q2<65537:=by omega
 have Za:∀w,Rq 110 #[.int .i64 b,.int .i64 q1] w (.int .i64 q2):=by
  intro w;rw[<-Da,<-M.mul_in ((M.el_iff b).2 ⟨b0,b1⟩) ((M.el_iff q1).2 ⟨Ua,Va⟩)];exact bP b q1 w
 obtain⟨n2,Ea⟩:∃u,(p2+q2)%65537=u:=⟨_,rfl⟩;have Ab:0<=n2:=(by omega);have Bb:n2<65537:=by omega
 have Cb:∀w,Rq 156 #[.int .i64 p2,.int .i64 q2] w (.int .i64 n2):=by
  intro w;rw[<-Ea,<-M.add_in ((M.el_iff p2).2 ⟨Ra,Sa⟩) ((M.el_iff q2).2 ⟨Xa,Ya⟩)];exact eC p2 q2 w
 obtain⟨r1,Fa⟩:∃u,y*y%65537=u:=⟨_,rfl⟩;have Db:0<=r1:=(by omega);have Eb:r1<65537:=by omega
 have Fb:∀w,Rq 110 #[.int .i64 y,.int .i64 y] w (.int .i64 r1):=by
  intro w;rw[<-Fa,<-M.mul_in ((M.el_iff y).2 ⟨y0,y1⟩) ((M.el_iff y).2 ⟨y0,y1⟩)];exact bP y y w
 obtain⟨r2,Ga⟩:∃u,c*r1%65537=u:=⟨_,rfl⟩;have Gb:0<=r2:=(by omega);have Hb:r2<65537:=by omega
 have Ib:∀w,Rq 110 #[.int .i64 c,.int .i64 r1] w (.int .i64 r2):=by
  intro w;rw[<-Ga,<-M.mul_in ((M.el_iff c).2 ⟨c0,c1⟩) ((M.el_iff r1).2 ⟨Db,Eb⟩)];exact bP c r1 w
 obtain⟨n3,Ha⟩:∃u,(n2+r2)%65537=u:=⟨_,rfl⟩;have Jb:0<=n3:=(by omega);have Kb:n3<65537:=by omega
 have Lb:∀w,Rq 156 #[.int .i64 n2,.int .i64 r2] w (.int .i64 n3):=by
  intro w;rw[<-Ha,<-M.add_in ((M.el_iff n2).2 ⟨Ab,Bb⟩) ((M.el_iff r2).2 ⟨Gb,Hb⟩)];exact eC n2 r2 w
 obtain⟨s1,Ia⟩:∃u,d*x%65537=u:=⟨_,rfl⟩;have Nb:0<=s1:=(by omega);have Ob:s1<65537:=by omega
 have Pb:∀w,Rq 110 #[.int .i64 d,.int .i64 x] w (.int .i64 s1):=by
  intro w;rw[<-Ia,<-M.mul_in ((M.el_iff d).2 ⟨d0,d1⟩) ((M.el_iff x).2 ⟨x0,x1⟩)];exact bP d x w
 obtain⟨n4,Ja⟩:∃u,(n3+s1)%65537=u:=⟨_,rfl⟩;have Qb:0<=n4:=(by omega);have Rb:n4<65537:=by omega
 have Sb:∀w,Rq 156 #[.int .i64 n3,.int .i64 s1] w (.int .i64 n4):=by
  intro w;rw[<-Ja,<-M.add_in ((M.el_iff n3).2 ⟨Jb,Kb⟩) ((M.el_iff s1).2 ⟨Nb,Ob⟩)];exact eC n3 s1 w
 obtain⟨t1,Ka⟩:∃u,f*y%65537=u:=⟨_,rfl⟩;have Tb:0<=t1:=(by omega);have Ub:t1<65537:=by omega
 have Vb:∀w,Rq 110 #[.int .i64 f,.int .i64 y] w (.int .i64 t1):=by
  intro w;rw[<-Ka,<-M.mul_in ((M.el_iff f).2 ⟨f0,f1⟩) ((M.el_iff y).2 ⟨y0,y1⟩)];exact bP f y w
 obtain⟨n5,La⟩:∃u,(n4+t1)%65537=u:=⟨_,rfl⟩;have Wb:0<=n5:=(by omega);have Xb:n5<65537:=by omega
 have Yb:∀w,Rq 156 #[.int .i64 n4,.int .i64 t1] w (.int .i64 n5):=by
  intro w;rw[<-La,<-M.add_in ((M.el_iff n4).2 ⟨Qb,Rb⟩) ((M.el_iff t1).2 ⟨Tb,Ub⟩)];exact eC n4 t1 w
 obtain⟨n6,Na⟩:∃u,(n5+k)%65537=u:=⟨_,rfl⟩;have Dc:0<=n6:=(by omega);have Ec:n6<65537:=by omega
 have Zb:∀w,Rq 156 #[.int .i64 n5,.int .i64 k] w (.int .i64 n6):=by
  intro w;rw[<-Na,<-M.add_in ((M.el_iff n5).2 ⟨Wb,Xb⟩) ((M.el_iff k).2 ⟨k0,k1⟩)];exact eC n5 k w
 rw[Aa,Ba,Ca,Da,Ea,Fa,Ga,Ha,Ia,Ja,Ka,La,Na];clear Aa Ba Ca Da Ea Fa Ga Ha Ia Ja Ka La Na;go_enter func111,ntmps111;go_wp2
 go_quiet (first
  | (go_at_call_of 110 (Value.int .i64 p1);exact Calls.quiet_of_same (v:=.int .i64 p2) (Ta _))
  | (go_at_call 110;exact Calls.quiet_of_same (v:=.int .i64 p1) (Qa _)))
 obtain⟨k1,Ac⟩:∃u,u=nq:=⟨_,rfl⟩;subst Ac;go_wp2
 go_quiet (first
  | (go_at_call_of 110 (Value.int .i64 q1);exact ce (v:=.int .i64 q2) (Za _))
  | (go_at_call 110;exact ce (v:=.int .i64 q1) (Wa _))
  | (go_at_call 156;exact ce (v:=.int .i64 n2) (Cb _)))
 obtain⟨k2,Bc⟩:∃u,u=nq:=⟨_,rfl⟩;subst Bc;go_wp2
 go_quiet (first
  | (go_at_call_of 110 (Value.int .i64 r1);exact ce (v:=.int .i64 r2) (Ib _))
  | (go_at_call 110;exact ce (v:=.int .i64 r1) (Fb _))
  | (go_at_call 156;exact ce (v:=.int .i64 n3) (Lb _)))
 obtain⟨k3,Cc⟩:∃u,u=nq:=⟨_,rfl⟩;subst Cc;(go_wp2_with fail);refine(Pb _).mono ?_;rintro e wz ⟨rfl,rfl⟩;(go_wp2_with fail);refine(Sb _).mono ?_;rintro e wz ⟨rfl,rfl⟩;(go_wp2_with fail);refine(Vb _).mono ?_;rintro e wz ⟨rfl,rfl⟩;(go_wp2_with fail);refine(Yb _).mono ?_;rintro e wz ⟨rfl,rfl⟩;(go_wp2_with fail);refine(Zb _).mono ?_;rintro e wz ⟨rfl,rfl⟩;go_wp2;go_ret;exact⟨rfl,Below.drewN' ((m8 _ _).alloc (m3 _) _) _⟩
theorem ju(r:M.Rl)(s:Int×Int){wc:World}(hr:r.ok=true)(hs:M.sOk s=true)(hb:Below B w wc)(hB:B<=w.heap.size):
  Calls prog 111 #[jI r,it s.1,it s.2] wc λe w'=>e=.returned (it (r.app s.1 s.2))/\Below B w w':=by
 obtain⟨⟨a0,a1⟩,⟨b0,b1⟩,⟨c0,c1⟩,⟨d0,d1⟩,⟨f0,f1⟩,k0,k1⟩:=M.rl_bd hr;obtain⟨⟨x0,x1⟩,y0,y1⟩:=(M.sOk_iff s).1 hs;refine(pN r.xx r.xy r.yy r.x r.y r.k s.1 s.2 wc a0 a1 b0 b1 c0 c1 d0 d1 f0 f1 k0 k1 x0 x1 y0 y1).mono ?_;rintro e w' ⟨rfl,Aa⟩;exact⟨by rw[M.app_model],hb.trans (Aa.mono (by have:=hb.size;omega))⟩
theorem oC(m:M.Mc)(s:Int×Int)(w:World)(hm:m.ok=true)(hs:M.sOk s=true):
  Rt 135 #[dp m,dd s] w (dd (m.nx s)):=by
 obtain⟨hX,hY⟩:m.X.ok=true/\m.Y.ok=true:=by unfold M.Mc.ok at hm;simpa using hm
 have CX:∀{wa wc:World},Below (w.heap.size+3) wa wc->w.heap.size+3<=wa.heap.size->Calls prog 111 #[jI m.X,.int .i64 s.1,.int .i64 s.2] wc λe w'=>e=.returned (.int .i64 (m.X.app s.1 s.2))/\Below (w.heap.size+3) wa w':=λh hB=>ju m.X s hX hs h hB;have CY:∀{wa wc:World},Below (w.heap.size+3) wa wc->w.heap.size+3<=wa.heap.size->Calls prog 111 #[jI m.Y,.int .i64 s.1,.int .i64 s.2] wc λe w'=>e=.returned (.int .i64 (m.Y.app s.1 s.2))/\Below (w.heap.size+3) wa w':=λh hB=>ju m.Y s hY hs h hB;unfold M.Mc.nx;obtain⟨⟨a,b,c,d,f,k⟩,⟨a',b',c',d',f',k'⟩⟩:=m;obtain⟨x,y⟩:=s;dsimp only[dp,jI,dd]at CX CY |-;generalize M.Rl.app ⟨a,b,c,d,f,k⟩ x y=u at *;generalize M.Rl.app ⟨a',b',c',d',f',k'⟩ x y=v at *;clear hX hY hm hs;have Ba:H7 (m1 w (((w.alloc (.cells #[Value.int .i64 a,Value.int .i64 b,Value.int .i64 c,Value.int .i64 d,Value.int .i64 f,Value.int .i64 k,Value.int .i64 a',Value.int .i64 b',Value.int .i64 c',Value.int .i64 d',Value.int .i64 f',Value.int .i64 k'] 31)).alloc (.cells #[Value.int .i64 x,Value.int .i64 y] 33)).alloc (.cells #[Value.int .i64 0,Value.int .i64 0] 33))):=(((m8 _ _).alloc (m3 _) _).alloc (by simp) _).alloc (by simp;omega) _;have Ea:(((w.alloc (.cells #[Value.int .i64 a,Value.int .i64 b,Value.int .i64 c,Value.int .i64 d,Value.int .i64 f,Value.int .i64 k,Value.int .i64 a',Value.int .i64 b',Value.int .i64 c',Value.int .i64 d',Value.int .i64 f',Value.int .i64 k'] 31)).alloc (.cells #[Value.int .i64 x,Value.int .i64 y] 33)).alloc (.cells #[Value.int .i64 0,Value.int .i64 0] 33)).heap.size=w.heap.size+3:=by simp
 have HK:H7 (∀W,Below (w.heap.size+3) (((w.alloc (.cells #[Value.int .i64 a,Value.int .i64 b,Value.int .i64 c,Value.int .i64 d,Value.int .i64 f,Value.int .i64 k,Value.int .i64 a',Value.int .i64 b',Value.int .i64 c',Value.int .i64 d',Value.int .i64 f',Value.int .i64 k'] 31)).alloc (.cells #[Value.int .i64 x,Value.int .i64 y] 33)).alloc (.cells #[Value.int .i64 0,Value.int .i64 0] 33)) W->(W.cell? ⟨w.heap.size,0,none⟩=some (.int .i64 a)/\W.cell? ⟨w.heap.size,1,none⟩=some (.int .i64 b)/\W.cell? ⟨w.heap.size,2,none⟩=some (.int .i64 c)/\W.cell? ⟨w.heap.size,3,none⟩=some (.int .i64 d)/\W.cell? ⟨w.heap.size,4,none⟩=some (.int .i64 f)/\W.cell? ⟨w.heap.size,5,none⟩=some (.int .i64 k)/\W.cell? ⟨w.heap.size,6,none⟩=some (.int .i64 a')/\W.cell? ⟨w.heap.size,7,none⟩=some (.int .i64 b')/\W.cell? ⟨w.heap.size,8,none⟩=some (.int .i64 c')/\W.cell? ⟨w.heap.size,9,none⟩=some (.int .i64 d')/\W.cell? ⟨w.heap.size,10,none⟩=some (.int .i64 f')/\W.cell? ⟨w.heap.size,11,none⟩=some (.int .i64 k')/\W.cell? ⟨w.heap.size+1,0,none⟩=some (.int .i64 x)/\W.cell? ⟨w.heap.size+1,1,none⟩=some (.int .i64 y))/\(W.cell? ⟨w.heap.size+1+1,0,none⟩=some (.int .i64 0)/\W.frozen? ⟨w.heap.size+1+1,0,none⟩=false/\W.cell? ⟨w.heap.size+1+1,1,none⟩=some (.int .i64 0)/\W.frozen? ⟨w.heap.size+1+1,1,none⟩=false)):=by
  intro W hW;exact⟨⟨(hW.cell (p:=⟨w.heap.size,0,none⟩) (show w.heap.size<_ by omega)).trans (aU w _ _ _ _ _ _ 0).1,(hW.cell (p:=⟨w.heap.size,1,none⟩) (show w.heap.size<_ by omega)).trans (aU w _ _ _ _ _ _ 1).1,(hW.cell (p:=⟨w.heap.size,2,none⟩) (show w.heap.size<_ by omega)).trans (aU w _ _ _ _ _ _ 2).1,(hW.cell (p:=⟨w.heap.size,3,none⟩) (show w.heap.size<_ by omega)).trans (aU w _ _ _ _ _ _ 3).1,(hW.cell (p:=⟨w.heap.size,4,none⟩) (show w.heap.size<_ by omega)).trans (aU w _ _ _ _ _ _ 4).1,(hW.cell (p:=⟨w.heap.size,5,none⟩) (show w.heap.size<_ by omega)).trans (aU w _ _ _ _ _ _ 5).1,(hW.cell (p:=⟨w.heap.size,6,none⟩) (show w.heap.size<_ by omega)).trans (aU w _ _ _ _ _ _ 6).1,(hW.cell (p:=⟨w.heap.size,7,none⟩) (show w.heap.size<_ by omega)).trans (aU w _ _ _ _ _ _ 7).1,(hW.cell (p:=⟨w.heap.size,8,none⟩) (show w.heap.size<_ by omega)).trans (aU w _ _ _ _ _ _ 8).1,(hW.cell (p:=⟨w.heap.size,9,none⟩) (show w.heap.size<_ by omega)).trans (aU w _ _ _ _ _ _ 9).1,(hW.cell (p:=⟨w.heap.size,10,none⟩) (show w.heap.size<_ by omega)).trans (aU w _ _ _ _ _ _ 10).1,(hW.cell (p:=⟨w.heap.size,11,none⟩) (show w.heap.size<_ by omega)).trans (aU w _ _ _ _ _ _ 11).1,(hW.cell (p:=⟨w.heap.size+1,0,none⟩) (show w.heap.size+1<_ by omega)).trans (aU w _ _ _ _ _ _ 0).2.1,(hW.cell (p:=⟨w.heap.size+1,1,none⟩) (show w.heap.size+1<_ by omega)).trans (aU w _ _ _ _ _ _ 1).2.1⟩,⟨(hW.cell (p:=⟨w.heap.size+1+1,0,none⟩) (show w.heap.size+1+1<_ by omega)).trans (aU w _ _ _ _ _ _ 0).2.2.1,(bx hW (show w.heap.size+1+1<_ by omega)).trans (aU w _ _ _ _ _ _ 0).2.2.2,(hW.cell (p:=⟨w.heap.size+1+1,1,none⟩) (show w.heap.size+1+1<_ by omega)).trans (aU w _ _ _ _ _ _ 1).2.2.1,(bx hW (show w.heap.size+1+1<_ by omega)).trans (aU w _ _ _ _ _ _ 1).2.2.2⟩⟩
 generalize Ca:(((w.alloc (.cells #[Value.int .i64 a,Value.int .i64 b,Value.int .i64 c,Value.int .i64 d,Value.int .i64 f,Value.int .i64 k,Value.int .i64 a',Value.int .i64 b',Value.int .i64 c',Value.int .i64 d',Value.int .i64 f',Value.int .i64 k'] 31)).alloc (.cells #[Value.int .i64 x,Value.int .i64 y] 33)).alloc (.cells #[Value.int .i64 0,Value.int .i64 0] 33))=wa at Ba Ea HK;have Fa:=Hd Ca;clear Ca;have Da:Below (w.heap.size+3) wa wa.drew:=(m8 _ _).drew;have Ga:H7 (∀(W:World) (u v:Value),(W.cell? ⟨w.heap.size,0,none⟩=some (.int .i64 a)/\W.cell? ⟨w.heap.size,1,none⟩=some (.int .i64 b)/\W.cell? ⟨w.heap.size,2,none⟩=some (.int .i64 c)/\W.cell? ⟨w.heap.size,3,none⟩=some (.int .i64 d)/\W.cell? ⟨w.heap.size,4,none⟩=some (.int .i64 f)/\W.cell? ⟨w.heap.size,5,none⟩=some (.int .i64 k)/\W.cell? ⟨w.heap.size,6,none⟩=some (.int .i64 a')/\W.cell? ⟨w.heap.size,7,none⟩=some (.int .i64 b')/\W.cell? ⟨w.heap.size,8,none⟩=some (.int .i64 c')/\W.cell? ⟨w.heap.size,9,none⟩=some (.int .i64 d')/\W.cell? ⟨w.heap.size,10,none⟩=some (.int .i64 f')/\W.cell? ⟨w.heap.size,11,none⟩=some (.int .i64 k')/\W.cell? ⟨w.heap.size+1,0,none⟩=some (.int .i64 x)/\W.cell? ⟨w.heap.size+1,1,none⟩=some (.int .i64 y))->((W.setCell ⟨w.heap.size+1+1,0,none⟩ u).setCell ⟨w.heap.size+1+1,1,none⟩ v).cell? ⟨w.heap.size,0,none⟩=some (.int .i64 a)/\((W.setCell ⟨w.heap.size+1+1,0,none⟩ u).setCell ⟨w.heap.size+1+1,1,none⟩ v).cell? ⟨w.heap.size,1,none⟩=some (.int .i64 b)/\((W.setCell ⟨w.heap.size+1+1,0,none⟩ u).setCell ⟨w.heap.size+1+1,1,none⟩ v).cell? ⟨w.heap.size,2,none⟩=some (.int .i64 c)/\((W.setCell ⟨w.heap.size+1+1,0,none⟩ u).setCell ⟨w.heap.size+1+1,1,none⟩ v).cell? ⟨w.heap.size,3,none⟩=some (.int .i64 d)/\((W.setCell ⟨w.heap.size+1+1,0,none⟩ u).setCell ⟨w.heap.size+1+1,1,none⟩ v).cell? ⟨w.heap.size,4,none⟩=some (.int .i64 f)/\((W.setCell ⟨w.heap.size+1+1,0,none⟩ u).setCell ⟨w.heap.size+1+1,1,none⟩ v).cell? ⟨w.heap.size,5,none⟩=some (.int .i64 k)/\((W.setCell ⟨w.heap.size+1+1,0,none⟩ u).setCell ⟨w.heap.size+1+1,1,none⟩ v).cell? ⟨w.heap.size,6,none⟩=some (.int .i64 a')/\((W.setCell ⟨w.heap.size+1+1,0,none⟩ u).setCell ⟨w.heap.size+1+1,1,none⟩ v).cell? ⟨w.heap.size,7,none⟩=some (.int .i64 b')/\((W.setCell ⟨w.heap.size+1+1,0,none⟩ u).setCell ⟨w.heap.size+1+1,1,none⟩ v).cell? ⟨w.heap.size,8,none⟩=some (.int .i64 c')/\((W.setCell ⟨w.heap.size+1+1,0,none⟩ u).setCell ⟨w.heap.size+1+1,1,none⟩ v).cell? ⟨w.heap.size,9,none⟩=some (.int .i64 d')/\((W.setCell ⟨w.heap.size+1+1,0,none⟩ u).setCell ⟨w.heap.size+1+1,1,none⟩ v).cell? ⟨w.heap.size,10,none⟩=some (.int .i64 f')/\((W.setCell ⟨w.heap.size+1+1,0,none⟩ u).setCell ⟨w.heap.size+1+1,1,none⟩ v).cell? ⟨w.heap.size,11,none⟩=some (.int .i64 k')/\((W.setCell ⟨w.heap.size+1+1,0,none⟩ u).setCell ⟨w.heap.size+1+1,1,none⟩ v).cell? ⟨w.heap.size+1,0,none⟩=some (.int .i64 x)/\((W.setCell ⟨w.heap.size+1+1,0,none⟩ u).setCell ⟨w.heap.size+1+1,1,none⟩ v).cell? ⟨w.heap.size+1,1,none⟩=some (.int .i64 y)):=λW u v ⟨g0,g1,g2,g3,g4,g5,g6,g7,g8,g9,g10,g11,g12,g13⟩=>⟨(bf W _ _ u v (show w.heap.size≠w.heap.size+1+1 by omega)).trans g0,(bf W _ _ u v (show w.heap.size≠w.heap.size+1+1 by omega)).trans g1,(bf W _ _ u v (show w.heap.size≠w.heap.size+1+1 by omega)).trans g2,(bf W _ _ u v (show w.heap.size≠w.heap.size+1+1 by omega)).trans g3,(bf W _ _ u v (show w.heap.size≠w.heap.size+1+1 by omega)).trans g4,(bf W _ _ u v (show w.heap.size≠w.heap.size+1+1 by omega)).trans g5,(bf W _ _ u v (show w.heap.size≠w.heap.size+1+1 by omega)).trans g6,(bf W _ _ u v (show w.heap.size≠w.heap.size+1+1 by omega)).trans g7,(bf W _ _ u v (show w.heap.size≠w.heap.size+1+1 by omega)).trans g8,(bf W _ _ u v (show w.heap.size≠w.heap.size+1+1 by omega)).trans g9,(bf W _ _ u v (show w.heap.size≠w.heap.size+1+1 by omega)).trans g10,(bf W _ _ u v (show w.heap.size≠w.heap.size+1+1 by omega)).trans g11,(bf W _ _ u v (show w.heap.size+1≠w.heap.size+1+1 by omega)).trans g12,(bf W _ _ u v (show w.heap.size+1≠w.heap.size+1+1 by omega)).trans g13⟩;go_enter func135,ntmps135;go_wp2;rw[Fa.o]
 go_region_held3 (λW=>W.cell? ⟨w.heap.size,0,none⟩=some (.int .i64 a)/\W.cell? ⟨w.heap.size,1,none⟩=some (.int .i64 b)/\W.cell? ⟨w.heap.size,2,none⟩=some (.int .i64 c)/\W.cell? ⟨w.heap.size,3,none⟩=some (.int .i64 d)/\W.cell? ⟨w.heap.size,4,none⟩=some (.int .i64 f)/\W.cell? ⟨w.heap.size,5,none⟩=some (.int .i64 k)/\W.cell? ⟨w.heap.size,6,none⟩=some (.int .i64 a')/\W.cell? ⟨w.heap.size,7,none⟩=some (.int .i64 b')/\W.cell? ⟨w.heap.size,8,none⟩=some (.int .i64 c')/\W.cell? ⟨w.heap.size,9,none⟩=some (.int .i64 d')/\W.cell? ⟨w.heap.size,10,none⟩=some (.int .i64 f')/\W.cell? ⟨w.heap.size,11,none⟩=some (.int .i64 k')/\W.cell? ⟨w.heap.size+1,0,none⟩=some (.int .i64 x)/\W.cell? ⟨w.heap.size+1,1,none⟩=some (.int .i64 y)) (first | exact(HK.o _ Aa).1 | exact(HK.o _ Da).1 | exact Ga.o _ _ _ (by assumption))
  (first
   | (go_at_call_of 111 (Value.int .i64 a);refine(CX (by assumption) (by omega)).mono ?_;rintro e w1 ⟨rfl,Aa⟩;(try clear Da))
   | (go_at_call_of 111 (Value.int .i64 a');refine(CY (by assumption) (by omega)).mono ?_;rintro e w2 ⟨rfl,Aa⟩;obtain⟨-,t0,t1,t2,t3⟩:=HK.o _ Aa))
 all_goals
  have Ha:=Hd Aa;clear Aa;go_wp2;refine s' (v:=.agg #[.int .i64 u,.int .i64 v]) (by simp[results,results135,go_sem,t0,t2]) rfl ⟨rfl,?_⟩;exact((Ba.o.trans (Ha.o.mono (by omega))).setCell (by show w.heap.size<=w.heap.size+1+1;omega) _).setCell (by show w.heap.size<=w.heap.size+1+1;omega) _
theorem te(w:World)(g:Nat)(hg:w.heap.size=g)(r:M.Rl)(t:TypeId):aC (w.alloc (.cells #[it r.xx,it r.xy,it r.yy,it r.x,it r.y,it r.k] t)) (some ⟨g,0,none⟩) 6 6 r.nums:=by
 subst hg;refine⟨rfl,m3 _,by decide,λh=>by simp at h,.inr ⟨_,_,rfl,λi hi=>?_⟩⟩;rw[Nat.zero_add,xu]
 match i,hi with
 | 0,_=>rfl
 | 1,_=>rfl
 | 2,_=>rfl
 | 3,_=>rfl
 | 4,_=>rfl
 | 5,_=>rfl
theorem ld(r:M.Rl)(w:World):Rt 102 #[jI r] w (.bool r.ok):=by
 have HS:H7 (∀(W:World) (g:Nat),W.heap.size=g->aC (W.alloc (.cells (dm r.xx r.xy r.yy r.x r.y r.k).toArray 2)) (some ⟨g,0,none⟩) 6 6 r.nums):=λW g hg=>te W g hg r _;have HO:H7 (M.allEl r.nums=r.ok):=rfl;dsimp only[jI];obtain⟨a,b,c,d,f,k⟩:=r;dsimp only at HS |-;generalize M.Rl.nums ⟨a,b,c,d,f,k⟩=zs at HS HO;generalize M.Rl.ok ⟨a,b,c,d,f,k⟩=ok at HO;go_enter func102,ntmps102;(go_wp2_with fail);refine(ee _ (HS.o _ _ (by simp))).mono ?_;rintro e w' ⟨rfl,rfl⟩;rw[HO.o];go_wp2;go_ret;exact⟨rfl,((m8 _ _).alloc (m3 _) _).alloc (by simp) _⟩
theorem bD(m:M.Mc)(w:World):Rt 53 #[dp m] w (.bool m.ok):=by
 have C1:=ld m.X;have C2:=ld m.Y;unfold M.Mc.ok;obtain⟨⟨a,b,c,d,f,k⟩,⟨a',b',c',d',f',k'⟩⟩:=m;dsimp only[dp,jI]at C1 C2 |-;generalize M.Rl.ok ⟨a,b,c,d,f,k⟩=o1 at *;generalize M.Rl.ok ⟨a',b',c',d',f',k'⟩=o2 at *
 cases o1 with
 | false=>
  go_enter func53,ntmps53;(go_wp2_with fail);refine(C1 _).mono ?_;rintro e w1 ⟨rfl,hb⟩;have HB:=Hd (((m8 _ _).alloc (m3 _) _).trans (hb.mono (by simp)));clear hb;go_wp2;go_ret;exact⟨rfl,HB.o⟩
 | true=>
  go_enter func53,ntmps53;(go_wp2_with fail);refine(C1 _).mono ?_;rintro e w1 ⟨rfl,hb⟩;have HB:=Hd (((m8 _ _).alloc (m3 _) _).trans (hb.mono (by simp)));have hc:=λi=>(hb.cell (p:=⟨w.heap.size,i,none⟩) (by simp)).trans (xu _ _ _ _);have h6:=hc 6;have h7:=hc 7;have h8:=hc 8;have h9:=hc 9;have Aa:=hc 10;have Ba:=hc 11;clear hc hb;simp only[List.getElem?_toArray,List.getElem?_cons_succ,List.getElem?_cons_zero]at h6 h7 h8 h9 Aa Ba;(go_wp2_with fail);refine(C2 _).mono ?_;rintro e w2 ⟨rfl,hb⟩;have Ca:=HB.t hb;clear hb;go_wp2;go_ret;exact⟨rfl,Ca.o⟩
theorem cf(s:Int×Int)(w:World):Rt 54 #[dd s] w (.bool (M.sOk s)):=by
 obtain⟨x,y⟩:=s;unfold M.sOk;dsimp only[dd];have C1:∀w,Rq 103 #[it x] w (.bool (M.el x)):=bM x;have C2:∀w,Rq 103 #[it y] w (.bool (M.el y)):=bM y;generalize M.el x=o1 at *;generalize M.el y=o2 at *
 cases o1 with
 | false=>
  go_enter func54,ntmps54;(go_wp2_with fail);refine(C1 _).mono ?_;rintro e w1 ⟨rfl,rfl⟩;go_wp2;go_ret;exact⟨rfl,(m8 _ _).alloc (m3 _) _⟩
 | true=>
  go_enter func54,ntmps54;(go_wp2_with fail);refine(C1 _).mono ?_;rintro e w1 ⟨rfl,rfl⟩;(go_wp2_with fail);refine(C2 _).mono ?_;rintro e w1 ⟨rfl,rfl⟩;go_wp2;go_ret;exact⟨rfl,(m8 _ _).alloc (m3 _) _⟩
def gS(W:World)(B:Nat):Nat->List Value->World
 | _,[]=>W
 | i,v::vs=>gS (W.setCell ⟨B,i,none⟩ v) B (i+1) vs
theorem lD(B:Nat){p:Addr}(hp:p.block≠B):∀(vs:List Value) (W:World) (i:Nat),(gS W B i vs).cell? p=W.cell? p
 | [],_,_=>rfl
 | v::vs,W,i=>(lD B hp vs (W.setCell ⟨B,i,none⟩ v) (i+1)).trans (xQ (w:=W) (a:=⟨B,i,none⟩) (b:=p) (v:=v) (h:=λe=>hp (by rw[<-e])))
theorem qE(B j:Nat):∀(vs:List Value) (W:World) (i:Nat),j<i->(gS W B i vs).cell? ⟨B,j,none⟩=W.cell? ⟨B,j,none⟩
 | [],_,_,_=>rfl
 | v::vs,W,i,h=>(qE B j vs (W.setCell ⟨B,i,none⟩ v) (i+1) (by omega)).trans (xQ (w:=W) (a:=⟨B,i,none⟩) (b:=⟨B,j,none⟩) (v:=v) (h:=by intro e;simp only[Addr.mk.injEq]at e;omega))
theorem ox(B:Nat):∀(vs:List Value) (W:World) (i:Nat),(∀j,j<vs.length->∃u,W.cell? ⟨B,i+j,none⟩=some u)->∀j v,vs[j]?=some v->(gS W B i vs).cell? ⟨B,i+j,none⟩=some v
 | [],_,_,_,j,v,h=>by simp at h
 | x::vs,W,i,hc,0,v,h=>by
  have e:x=v:=(by simpa using h);subst e;obtain⟨u,hu⟩:=hc 0 (by simp);exact(qE B i vs (W.setCell ⟨B,i,none⟩ x) (i+1) (by omega)).trans (World.cell?_setCell_same (w:=W) (a:=⟨B,i,none⟩) (v:=x) (h:=hu))
 | x::vs,W,i,hc,j+1,v,h=>by
  have h':vs[j]?=some v:=by simpa using h
  have key:=ox B vs (W.setCell ⟨B,i,none⟩ x) (i+1) (λj hj=>by
   obtain⟨u,hu⟩:=hc (j+1) (by simp;omega);refine⟨u,(xQ (w:=W) (a:=⟨B,i,none⟩) (b:=⟨B,i+1+j,none⟩) (v:=x) (h:=by intro e;simp only[Addr.mk.injEq]at e;omega)).trans ?_⟩;rw[show i+1+j=i+(j+1) by omega];exact hu) j v h'
  rw[show i+(j+1)=i+1+j by omega];exact key
theorem fF(B:Nat)(p:Addr):∀(vs:List Value) (W:World) (i:Nat),(gS W B i vs).frozen? p=W.frozen? p
 | [],_,_=>rfl
 | v::vs,W,i=>(fF B p vs (W.setCell ⟨B,i,none⟩ v) (i+1)).trans (by simp)
theorem jX(B:Nat):∀(vs:List Value) (W:World) (i:Nat),(gS W B i vs).heap.size=W.heap.size
 | [],_,_=>rfl
 | v::vs,W,i=>(jX B vs (W.setCell ⟨B,i,none⟩ v) (i+1)).trans (by simp)
theorem gH{B0:Nat}{a:World}(hB:B0<=B):∀(vs:List Value) (W:World) (i:Nat),Below B0 a W->Below B0 a (gS W B i vs)
 | [],_,_,h=>h
 | v::vs,W,i,h=>gH hB vs (W.setCell ⟨B,i,none⟩ v) (i+1) (h.setCell hB v)
def mX(ps:List (Int×Int)):List Value:=ps.flatMap λp=>[it p.1,it p.2]
theorem jH(ps:List (Int×Int))(p:Int×Int):mX ps++[it p.1,it p.2]=mX (ps++[p]):=by simp[mX]
theorem s8:∀(ps:List (Int×Int)) {i:Nat},i<ps.length->(mX ps)[i*2]?=some (it (ps.getD i (0,0)).1)/\(mX ps)[i*2+1]?=some (it (ps.getD i (0,0)).2)
 | [],_,h=>by simp at h
 | p::r,0,_=>⟨rfl,rfl⟩
 | p::r,i+1,h=>by
  have ih:=s8 r (i:=i) (by simpa using h)
  have e1:(mX (p::r))[(i+1)*2]?=(mX r)[i*2]?:=by
   rw[show(i+1)*2=i*2+1+1 by omega];rfl
  have e2:(mX (p::r))[(i+1)*2+1]?=(mX r)[i*2+1]?:=by
   rw[show(i+1)*2+1=i*2+1+1+1 by omega];rfl
  rw[e1,e2];exact ih
def bg(t:TypeId)(w:World)(dA:Nat)(a:Option Addr)(n cap:Nat)(ps:List (Int×Int)):Prop:=ps.length=n/\w.ownsRow dA t 2 (.slice a n cap) n (mX ps)
theorem bg.form(hl:ps.length=n)(h:w.ownsRow dA t 2 v n (mX ps)):∃a cap,v=.slice a n cap/\bg t w dA a n cap ps:=by
 rcases h.2 with⟨rfl,rfl⟩ | ⟨g,cap,cur,rfl,_⟩
 .exact⟨none,0,rfl,hl,h⟩
 .exact⟨_,cap,rfl,hl,h⟩
structure ez(w:World)(a:Option Addr)(n cap:Nat)(ps:List (Int×Int)):Prop where
 len:ps.length=n
 le:n<=cap
 big:(cap:Int)<=9223372036854775807
 no:a=none->n=0/\cap=0
 pos:n=0\/∃b off,a=some ⟨b,off,none⟩/\∀i,i<n->w.cell? ⟨b,off+i*2,none⟩=some (it (ps.getD i (0,0)).1)/\w.cell? ⟨b,off+i*2+1,none⟩=some (it (ps.getD i (0,0)).2)
theorem ez.below(h:ez w a n cap ps)(hb:m1 w w'):ez w' a n cap ps:=by
 refine⟨h.len,h.le,h.big,h.no,?_⟩
 rcases h.pos with e | ⟨b,off,e,hc⟩
 .exact .inl e
 ·
  by_cases h0:n=0
  .exact .inl h0
  ·
   have Aa:b<w.heap.size:=by
    have:=(hc 0 (by omega)).1;simp only[World.cell?]at this
    rcases Nat.lt_or_ge b w.heap.size with hl | hl
    .exact hl
    .rw[Array.getElem?_eq_none hl]at this;simp at this
   exact .inr ⟨b,off,e,λi hi=>⟨(hb.cell (p:=⟨b,off+i*2,none⟩) Aa).trans (hc i hi).1,(hb.cell (p:=⟨b,off+i*2+1,none⟩) Aa).trans (hc i hi).2⟩⟩
theorem ez.at(h:ez w a n cap ps)(h0:0<n):∃b off,a=some ⟨b,off,none⟩/\∀i,i<n->w.cell? ⟨b,off+i*2,none⟩=some (it (ps.getD i (0,0)).1)/\w.cell? ⟨b,off+i*2+1,none⟩=some (it (ps.getD i (0,0)).2):=by
 rcases h.pos with e | e
 .omega
 .exact e
theorem bg.block(h:bg t w dA a n cap ps)(h0:0<n):∃g,a=some ⟨g,0,none⟩/\dA<=g/\n<=cap/\(cap:Int)<=9223372036854775807/\∀i,i<n->w.cell? ⟨g,i*2,none⟩=some (it (ps.getD i (0,0)).1)/\w.cell? ⟨g,i*2+1,none⟩=some (it (ps.getD i (0,0)).2):=by
 obtain⟨hl,h⟩:=h;have Aa:∀g,(Value.slice a n cap).ownBlock=some g->_:=λg hg=>World.ownsRow.cells h hg
 rcases h.2 with⟨_,h0'⟩ | ⟨g,c,cur,e,hb,hh,hn,hm,_,_⟩
 .omega
 ·
  simp only[Value.slice.injEq]at e;obtain⟨rfl,-,rfl⟩:=e;have Ba:∀j,(⟨g,0,none⟩:Addr).add j=⟨g,j,none⟩:=λj=>by unfold Addr.add;split <;> simp_all
  unfold maxLen at hm;refine⟨g,rfl,hb,hn,by omega,λi hi=>?_⟩;obtain⟨h1,h2⟩:=s8 ps (i:=i) (by omega);have c1:=Aa g rfl _ _ h1;have c2:=Aa g rfl _ _ h2;rw[Ba]at c1 c2;exact⟨c1,c2⟩
theorem bg.sees(h:bg t w dA a n cap ps)(h0:0<n):ez w a n cap ps:=by
 obtain⟨g,rfl,_,h1,h2,hc⟩:=h.block h0;exact⟨h.1,h1,h2,λe=>by simp at e,.inr ⟨g,0,rfl,λi hi=>by simpa using hc i hi⟩⟩
theorem bg.row(h:bg t w dA a n cap ps):∀q,(Value.slice a n cap).ownBlock=some q->dA<=q:=by
 intro q hq
 rcases h.2.2 with⟨e,_⟩ | ⟨g,c,cur,e,hb,_⟩
 .simp only[Value.slice.injEq]at e;rw[e.1]at hq;simp[Value.ownBlock]at hq
 .simp only[Value.slice.injEq]at e;rw[e.1]at hq;simp[Value.ownBlock]at hq;omega
theorem bg.below(h:bg t w dA a n cap ps)(hb:m1 w w'):bg t w' dA a n cap ps:=
 ⟨h.1,World.ownsRow.kept h.2 (w':=w') (row:=none) ⟨hb.os,hb.tape,hb.output,hb.size,λk hk _=>hb.block k hk⟩ (by cases hv:(Value.slice a n cap).ownBlock <;> simp)⟩
theorem bg.mono{base':Nat}(h:bg t w dA a n cap ps)(hb:base'<=dA):bg t w base' a n cap ps:=by
 refine⟨h.1,h.2.1,?_⟩
 rcases h.2.2 with e | ⟨g,c,cur,e,hg,r⟩
 .exact .inl e
 .exact .inr ⟨g,c,cur,e,by omega,r⟩
theorem bg.other(h:bg t w dA a n cap ps)(p:Addr)(hp:p.block<dA)(v:Value):bg t (w.setCell p v) dA a n cap ps:=by
 refine⟨h.1,World.ownsRow.kept h.2 (w':=w.setCell p v) (row:=some p.block) ⟨rfl,rfl,rfl,by simp[World.setCell],λk hk hne=>Below.heap_setCell _ _ _ _ (λe=>hne (by rw[e]))⟩ ?_⟩;have hr:=h.row
 cases hv:(Value.slice a n cap).ownBlock with
 | none=>exact .inl rfl
 | some q=>exact .inr (by have:=hr q hv;simp;omega)
theorem bg.sets(hB:B<dA):∀(vs:List Value) (w:World) (i:Nat),bg t w dA a n cap ps->bg t (gS w B i vs) dA a n cap ps
 | [],_,_,h=>h
 | v::vs,w,i,h=>bg.sets hB vs (w.setCell ⟨B,i,none⟩ v) (i+1) (h.other ⟨B,i,none⟩ hB v)
theorem eW(x y:Int):∀u∈[it x,it y],u.oneCell'=true:=by
 intro u hu;simp only[List.mem_cons,List.not_mem_nil,or_false]at hu
 rcases hu with rfl | rfl <;> rfl
theorem eS(w:World)(x y:Value)(t:TypeId):∀j u,[x,y][j]?=some u->(w.alloc (.cells #[x,y] t)).cell? ((⟨w.heap.size,0,none⟩:Addr).add j)=some u:=by
 intro j u hj;have e:((⟨w.heap.size,0,none⟩:Addr).add j)=⟨w.heap.size,j,none⟩:=(by unfold Addr.add;split <;> simp_all);rw[e,xu];simpa using hj
namespace M
def sm:Nat->(Nat->Int)->Int
 | 0,_=>0
 | n+1,f=>sm n f+f n
theorem sm_cg{f g:Nat->Int}:∀{n:Nat},(∀k,k<n->cg (f k) (g k))->cg (sm n f) (sm n g):=by
 intro n
 induction n with
 | zero=>intro _;exact cg.refl _
 | succ n ih=>intro h;exact(ih λk hk=>h k (by omega)).add (h n (by omega))
theorem sm_add(f g:Nat->Int)(n:Nat):sm n (λk=>f k+g k)=sm n f+sm n g:=by
 induction n with
 | zero=>rfl
 | succ n ih=>simp only[sm];rw[ih];omega
theorem sm_mul(c:Int)(f:Nat->Int)(n:Nat):sm n (λk=>c*f k)=c*sm n f:=by
 induction n with
 | zero=>simp[sm]
 | succ n ih=>simp only[sm];rw[ih,Int.mul_add]
theorem sm_zero(n:Nat):sm n (λ_=>0)=0:=by
 induction n with
 | zero=>rfl
 | succ n ih=>simp only[sm];rw[ih];rfl
theorem sm_swap(f:Nat->Nat->Int)(m n:Nat):sm m (λk=>sm n (λi=>f k i))=sm n (λi=>sm m (λk=>f k i)):=by
 induction m with
 | zero=>simp only[sm];rw[sm_zero]
 | succ m ih=>simp only[sm];rw[ih,sm_add]
theorem sm_one(n:Nat):sm n (λ_=>1)=(n:Int):=by
 induction n with
 | zero=>rfl
 | succ n ih=>simp only[sm];rw[ih];omega
theorem sm_pick(v:Int)(j:Nat):∀n,j<n->sm n (λi=>if i=j then v else 0)=v:=by
 have h0:∀n,n<=j->sm n (λi=>if i=j then v else 0)=0:=by
  intro n
  induction n with
  | zero=>intro _;rfl
  | succ n ih=>intro h;simp only[sm];rw[ih (by omega),if_neg (by omega)];rfl
 intro n
 induction n with
 | zero=>intro h;omega
 | succ n ih=>
  intro h;simp only[sm];by_cases e:n=j
  .subst e;rw[h0 n (m3 _),if_pos rfl];omega
  .rw[ih (by omega),if_neg e];omega
theorem pv_sm(zs:List Int)(x:Int):∀n,n<=zs.length->pv (zs.take n) x=sm n (λk=>zs.getD k 0*x ^ k):=by
 intro n
 induction n with
 | zero=>intro _;rfl
 | succ n ih=>intro h;rw[pv_take _ _ (by omega),ih (by omega)];rfl
theorem pv_sm'(zs:List Int)(x:Int):pv zs x=sm zs.length (λk=>zs.getD k 0*x ^ k):=by
 rw[<-pv_sm zs x _ (m3 _),List.take_length]
theorem geo(r:Int)(n:Nat):(r-1)*sm n (λk=>r ^ k)=r ^ n-1:=by
 induction n with
 | zero=>simp[sm]
 | succ n ih=>simp only[sm];rw[Int.mul_add,ih,Int.pow_succ];generalize r ^ n=y;grind
theorem cg_inv{a:Int}(h:¬ cg a 0):cg (a*pw a 65535) 1:=by
 have h0:0<a%65537:=(by unfold cg at h;omega);have h1:a%65537<65537:=(by omega);have hf:=fermat h0 h1
 have e:cg (a*pw a 65535) ((a%65537) ^ 65536):=by
  have hk:∀m:Nat,cg (a*pw a m) ((a%65537) ^ (m+1)):=by
   intro m;rw[Int.pow_succ,Int.mul_comm ((a%65537) ^ m)];exact(cg_mod a).symm.mul ((cg_pw a m).trans ((cg_mod a).symm.pow m))
  exact hk 65535
 refine e.trans ?_;have:=cg_pw (a%65537) 65536;rw[hf]at this;exact this.symm
theorem cg_zero{a:Int}(h:cg (a*b) 0)(ha:¬ cg a 0):cg b 0:=by
 have h1:=cg_inv ha;have h2:=(cg.refl (pw a 65535)).mul h;rw[Int.mul_zero]at h2;have h3:=h1.mul (cg.refl b);rw[Int.one_mul]at h3;refine h3.symm.trans (cg.trans (cg_of_eq ?_) h2)
 grind
theorem cg_sub0{a:Int}(h:cg (a-b) 0):cg a b:=by unfold cg at *;omega
theorem cg_0sub{a:Int}(h:cg a b):cg (a-b) 0:=by unfold cg at *;omega
theorem geo0{r:Int}(h:cg (r ^ n) 1)(h1:¬ cg r 1):cg (sm n (λk=>r ^ k)) 0:=by
 refine cg_zero (a:=r-1) ?_ (λe=>h1 (cg_sub0 e));rw[geo];exact cg_0sub h
theorem odd_neg(k:Nat):(-1:Int) ^ (2*k+1)=-1:=by
 induction k with
 | zero=>rfl
 | succ k ih=>rw[show 2*(k+1)+1=2*k+1+1+1 by omega,Int.pow_succ,Int.pow_succ,ih];rfl
theorem order{w:Int}:∀{i d:Nat},cg (w ^ (2 ^ i)) (-1)->cg (w ^ d) 1->2 ^ (i+1)∣d:=by
 intro i
 induction i generalizing w with
 | zero=>
  intro d h h1;rw[Nat.pow_zero,Int.pow_succ,Int.pow_zero,Int.one_mul]at h
  rcases Nat.mod_two_eq_zero_or_one d with e | e
  .exact Nat.dvd_of_mod_eq_zero (by simpa using e)
  ·
   exfalso
   have h2:=(h.pow d).symm.trans h1;rw[show d=2*(d/2)+1 by omega,odd_neg]at h2;unfold cg at h2;omega
 | succ i ih=>
  intro d h h1
  rcases Nat.mod_two_eq_zero_or_one d with e | e
  ·
   obtain⟨c,rfl⟩:=Nat.dvd_of_mod_eq_zero e;have h3:cg ((w ^ 2) ^ (2 ^ i)) (-1):=(by rw[<-Int.pow_mul,Nat.mul_comm,<-Nat.pow_succ];exact h);have h4:cg ((w ^ 2) ^ c) 1:=(by rw[<-Int.pow_mul];exact h1);obtain⟨q,rfl⟩:=ih h3 h4;exact⟨q,by rw[Nat.pow_succ 2 (i+1)];grind⟩
  ·
   exfalso
   have h2:=h.pow d;rw[show((w ^ (2 ^ (i+1))) ^ d)=(w ^ d) ^ (2 ^ (i+1)) by rw[<-Int.pow_mul,<-Int.pow_mul,Nat.mul_comm]]at h2;have h3:=(h1.pow (2 ^ (i+1))).symm.trans h2;rw[Int.one_pow,show d=2*(d/2)+1 by omega,odd_neg]at h3;unfold cg at h3;omega
theorem pow_ne{a:Int}(h:¬ cg a 0)(n:Nat):¬ cg (a ^ n) 0:=by
 induction n with
 | zero=>rw[Int.pow_zero];unfold cg;omega
 | succ n ih=>rw[Int.pow_succ,Int.mul_comm];exact λe=>ih (cg_zero e h)
theorem pow_inv{w:Int}(h:cg (w*wi) 1)(n:Nat):cg (w ^ n*wi ^ n) 1:=by
 rw[<-Int.mul_pow];have:=h.pow n;rw[Int.one_pow]at this;exact this
theorem interp{l out:List Int}{si w ni:Int}(hl:l.length=n)(ho:out.length=n)(hs:cg (s*si) 1)(hw:cg (w*wi) 1)(hn:cg (ni*(n:Int)) 1)(hwn:cg (w ^ n) 1)(hord:∀d,0<d->d<n->¬ cg (w ^ d) 1)(hout:∀k,k<n->cg (out.getD k 0) (ni*si ^ k*pv l (wi ^ k))){j:Nat}(hj:j<n):cg (pv out (s*w ^ j)) (l.getD j 0):=by
 rw[pv_sm',ho]
 have Aa:cg (sm n (λk=>out.getD k 0*(s*w ^ j) ^ k)) (sm n (λk=>sm n (λi=>l.getD i 0*ni*(wi ^ i*w ^ j) ^ k))):=by
  refine sm_cg λk hk=>?_
  have e1:sm n (λi=>l.getD i 0*ni*(wi ^ i*w ^ j) ^ k)=ni*(w ^ j) ^ k*pv l (wi ^ k):=by
   rw[pv_sm',hl,<-sm_mul]
   congr 1;funext i
   rw[Int.mul_pow,<-Int.pow_mul,<-Int.pow_mul,<-Int.pow_mul,Nat.mul_comm k i];generalize wi ^ (i*k)=A;generalize w ^ (j*k)=B
   grind
  rw[e1,Int.mul_pow];refine((hout k hk).mul (cg.refl _)).trans ?_;have h2:=(pow_inv hs k).mul (cg.refl (ni*(w ^ j) ^ k*pv l (wi ^ k)));rw[Int.one_mul]at h2;refine cg.trans (cg_of_eq ?_) h2;generalize pv l (wi ^ k)=A;generalize(w ^ j) ^ k=B;generalize s ^ k=C;generalize si ^ k=D
  grind
 refine Aa.trans ?_;rw[sm_swap]
 have Ba:cg (sm n (λi=>sm n (λk=>l.getD i 0*ni*(wi ^ i*w ^ j) ^ k))) (sm n (λi=>if i=j then l.getD j 0 else 0)):=by
  refine sm_cg λi hi=>?_;rw[sm_mul];by_cases e:i=j
  ·
   subst e;rw[if_pos rfl];have h1:cg (wi ^ i*w ^ i) 1:=by rw[Int.mul_comm];exact pow_inv hw i
   have h2:cg (sm n (λk=>(wi ^ i*w ^ i) ^ k)) (n:Int):=by
    rw[<-sm_one n];refine sm_cg λk _=>?_;have:=h1.pow k;rw[Int.one_pow]at this;exact this
   refine((cg.refl _).mul h2).trans ?_;have h3:=(cg.refl (l.getD i 0)).mul hn;rw[Int.mul_one,<-Int.mul_assoc]at h3;exact h3
  ·
   rw[if_neg e]
   have Ca:cg (wi ^ n) 1:=by
    have h1:=pow_inv hw n;have h2:=hwn.mul (cg.refl (wi ^ n));rw[Int.one_mul]at h2;exact h2.symm.trans h1
   have hr:cg ((wi ^ i*w ^ j) ^ n) 1:=by
    rw[Int.mul_pow,<-Int.pow_mul,<-Int.pow_mul,Nat.mul_comm i n,Nat.mul_comm j n,Int.pow_mul,Int.pow_mul];have h1:=(Ca.pow i).mul (hwn.pow j);rw[Int.one_pow,Int.one_pow]at h1;exact h1
   have Da:¬ cg (wi ^ i*w ^ j) 1:=by
    rcases Nat.lt_or_ge i j with h | h
    ·
     obtain⟨d,rfl⟩:∃d,j=i+d:=⟨j-i,by omega⟩;intro h1;apply hord d (by omega) (by omega);rw[Int.pow_add,<-Int.mul_assoc,Int.mul_comm (wi ^ i)]at h1;have h2:=(pow_inv hw i).mul (cg.refl (w ^ d));rw[Int.one_mul]at h2;exact h2.symm.trans h1
    ·
     obtain⟨d,rfl⟩:∃d,i=j+d:=⟨i-j,by omega⟩;intro h1;apply hord d (by omega) (by omega);have h2:=(pow_inv hw j).mul (cg.refl (wi ^ d));rw[Int.one_mul]at h2
     have h3:cg (wi ^ d) 1:=by
      refine h2.symm.trans (cg.trans (cg_of_eq ?_) h1);rw[Int.pow_add];generalize wi ^ j=A;generalize wi ^ d=B;generalize w ^ j=C
      grind
     have h4:=(cg.refl (w ^ d)).mul h3;rw[Int.mul_one]at h4;exact h4.symm.trans (pow_inv hw d)
   have h5:=(cg.refl (l.getD i 0*ni)).mul (geo0 hr Da);rw[Int.mul_zero]at h5;exact h5
 refine Ba.trans ?_;rw[sm_pick _ _ _ hj];exact cg.refl _
end M
namespace M
def two64(n:Int):Bool:=(List.range 7).any λi=>n==(2:Int) ^ i
theorem two64_iff(n:Int):two64 n=true↔∃i:Nat,i<=6/\n=(2:Int) ^ i:=by
 simp only[two64,List.any_eq_true,List.mem_range,beq_iff_eq]
 constructor
 .rintro⟨i,hi,e⟩;exact⟨i,by omega,e⟩
 .rintro⟨i,hi,e⟩;exact⟨i,by omega,e⟩
theorem two64_two{n:Int}(h:two64 n=true):two n=true:=by
 obtain⟨i,hi,e⟩:=(two64_iff n).1 h;exact(two_iff n).2 ⟨i,by omega,e⟩
theorem two64_le{i:Nat}(h:i<=6):(1:Int)<=2 ^ i/\(2:Int) ^ i<=64:=by
 have:i=0\/i=1\/i=2\/i=3\/i=4\/i=5\/i=6:=by omega
 rcases this with h | h | h | h | h | h | h <;> subst h <;> decide
theorem two64_bd{n:Int}(h:two64 n=true):1<=n/\n<=64:=by
 obtain⟨i,hi,rfl⟩:=(two64_iff n).1 h;exact two64_le hi
theorem two64_div{n:Int}(h0:1<=n):two64 n=true↔64%n=0:=by
 rw[two64_iff]
 constructor
 ·
  rintro⟨i,hi,rfl⟩;have:i=0\/i=1\/i=2\/i=3\/i=4\/i=5\/i=6:=by omega
  rcases this with h | h | h | h | h | h | h <;> subst h <;> decide
 ·
  intro h;obtain⟨m,rfl⟩:=Int.eq_ofNat_of_zero_le (show 0<=n by omega)
  have h':64%m=0:=by
   have:((64%m:Nat):Int)=0:=(by rw[Int.natCast_emod];exact h);omega
  obtain⟨i,hi,e⟩:=dvd_two_pow 6 m (Nat.dvd_of_mod_eq_zero h');exact⟨i,hi,by rw[e];simp⟩
def ptOk(n s:Int):Bool:=two64 n&&(el s&&(s != 0))
theorem ptOk_parts{n:Int}(h:ptOk n s=true):two64 n=true/\el s=true/\s≠0:=by
 unfold ptOk at h;simpa using h
theorem ptOk_mk{n:Int}(h:two64 n=true)(h1:el s=true)(h2:s≠0):ptOk n s=true:=by simp[ptOk,h,h1,h2]
theorem two_nat(h:two (n:Int)=true):∃i,i<=16/\n=2 ^ i:=by
 obtain⟨i,hi,e⟩:=(two_iff _).1 h;refine⟨i,hi,?_⟩;have:((2 ^ i:Nat):Int)=(2:Int) ^ i:=(by simp);omega
theorem root_n(h:two (n:Int)=true):cg (root n ^ n) 1:=by
 have h1:=root_pow h;rw[pow_in (root_el h) (by omega),xX]at h1;have h2:=cg_pw (root n) n;rw[h1]at h2;exact h2.symm
theorem root_h(ht:two (n:Int)=true)(e:n=2*h):cg (root n ^ h) (-1):=by
 have h1:=root_half ht (by omega);have e2:((n:Int)/2).toNat=h:=(by omega);rw[pow_in (root_el ht) (by omega),e2]at h1;have h2:=cg_pw (root n) h;rw[h1]at h2;exact h2.symm.trans (by unfold cg;omega)
theorem neg_pow(k:Nat):cg ((-1:Int) ^ (2*k+1)) (-1):=cg_of_eq (odd_neg k)
theorem rinv_h(ht:two (n:Int)=true)(e:n=2*h):cg (pw (root n) 65535 ^ h) (-1):=by
 have h1:=(cg_pw (root n) 65535).pow h
 have Aa:∀k:Nat,cg ((root n ^ (2*k+1)) ^ h) (-1):=by
  intro k;rw[<-Int.pow_mul,Nat.mul_comm,Int.pow_mul];exact((root_h ht e).pow (2*k+1)).trans (neg_pow k)
 exact h1.trans (Aa 32767)
theorem root_ord(h:two (n:Int)=true){d:Nat}(h0:0<d)(h1:d<n):¬ cg (root n ^ d) 1:=by
 intro hc;obtain⟨i,hi,e⟩:=two_nat h
 cases i with
 | zero=>rw[Nat.pow_zero]at e;omega
 | succ i=>
  have e2:n=2*2 ^ i:=(by rw[e,Nat.pow_succ,Nat.mul_comm]);have hd:=order (root_h h e2) hc;rw[<-e]at hd;have:=Nat.le_of_dvd h0 hd;omega
end M
section
open Go.ChangeShapes Go.WideShapes
section
variable {H:Type} {enc:TypeId×Value->H} {P:Program} {w:World} {dA:Nat} {spare:Nat->Bool} {held:Bool}
def nK(enc:TypeId×Value->H)(P:Program)(w:World)(dA:Nat)(spare:Nat->Bool)(held:Bool)(t:TypeId)(cs:List Value)(o n:Nat):Prop:=
 ∃py y,DataW.trod enc P w dA spare held py t ((cs.drop o).take n)=some y
theorem nK.cell(h:(cs.drop o).take 1=[v]):cs[o]?=some v:=by
 have h1:((cs.drop o).take 1)[0]?=some v:=(by rw[h];rfl);rw[List.getElem?_take]at h1;simpa using h1
theorem nK.int{k:IntKind}(h:nK enc P w dA spare held t cs o 1)(ht:P.underlying t=some (.int k)):∃z,cs[o]?=some (.int k z)/\(Lit.int k z).wf=true:=by
 obtain⟨Aa,y,h⟩:=h;obtain⟨z,h1,-,h3⟩:=DataW.trod_int ht h;exact⟨z,nK.cell h1,h3⟩
theorem nK.bool(h:nK enc P w dA spare held t cs o 1)(ht:P.underlying t=some .bool):∃z,cs[o]?=some (.bool z):=by
 obtain⟨Aa,y,h⟩:=h;obtain⟨z,h1,-⟩:=DataW.trod_bool ht h;exact⟨z,nK.cell h1⟩
theorem nK.whole(h:nK enc P w dA spare held t cs o 1)(hl:o<cs.length):∃v,cs[o]?=some v/\∃py y,DataW.trod enc P w dA spare held py t [v]=some y:=by
 obtain⟨py,y,h⟩:=h;refine⟨cs[o],m9 hl,py,y,?_⟩;rw[<-h]
 congr 1
 rw[List.drop_eq_getElem_cons hl];rfl
end
end
end Go.Proofs.YtbjalickbnpnkaaGreatDoor
