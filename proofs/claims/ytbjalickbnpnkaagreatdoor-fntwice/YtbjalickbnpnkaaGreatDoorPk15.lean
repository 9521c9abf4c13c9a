import Derived.Test.YtbjalickbnpnkaaGreatDoorPk14
import Derived.Test.YtbjalickbnpnkaaGreatDoorPk13
namespace Go.Proofs.YtbjalickbnpnkaaGreatDoor
open Go.RowKit Go.Proofs.Tryz
set_option linter.unusedSimpArgs false
set_option maxHeartbeats 32000000
set_option maxRecDepth 10000
variable {a1 a2 a3 a4:Option Addr}{n1 n2 n3 n4 c1 c2 c3 c4:Nat}{z1 z2 z3 z4:List Int}
theorem kM(r:M.Rl)(X Y F Q:List Int)(n k:Nat):M.qOk r X Y F Q n (k+1)=(M.qOk r X Y F Q n k&&(Q.getD k 0*M.zer n k%65537==M.mis r X Y F n k)):=by
 unfold M.qOk;rw[List.range_succ,List.all_append];simp
theorem pC{r:M.Rl}{X Y F Q:List Int}{n k t:Nat}(hk:k<t)(h:(Q.getD k 0*M.zer n k%65537==M.mis r X Y F n k)=false):M.qOk r X Y F Q n t=false:=by
 cases e:M.qOk r X Y F Q n t with
 | false=>rfl
 | true=>
  unfold M.qOk at e;have:=List.all_eq_true.1 e k (List.mem_range.2 hk);rw[h]at this;cases this
theorem fZ(m:M.Mc)(s1 s2 e1 e2:Int)(w:World)(h1:aC w a1 n1 c1 z1)(h2:aC w a2 n2 c2 z2)(h3:aC w a3 n3 c3 z3)(h4:aC w a4 n4 c4 z4)(l1:n1<=1048576)(l2:n2<=1048576)(l3:n3<=1048576)(l4:n4<=1048576)(hno:m.ok=false\/(m.ok=true/\(⟨(s1,s2),(e1,e2),z1,z2,z3,z4⟩:M.Pf).rows=0)):
  Rt 59 #[dp m,.agg #[it s1,it s2,it e1,it e2,.slice a1 n1 c1,.slice a2 n2 c2,.slice a3 n3 c3,.slice a4 n4 c4]] w (.bool false):=by
 have CR:∀W,aC W a1 n1 c1 z1->aC W a2 n2 c2 z2->aC W a3 n3 c3 z3->aC W a4 n4 c4 z4->Rt 58 #[.agg (cX s1 s2 e1 e2 a1 n1 c1 a2 n2 c2 a3 n3 c3 a4 n4 c4).toArray] W (it ((⟨(s1,s2),(e1,e2),z1,z2,z3,z4⟩:M.Pf).rows:Nat)):=λW g1 g2 g3 g4=>fg s1 s2 e1 e2 W g1 g2 g3 g4 l1 l2 l3 l4;have CM:=bD m
 have Ka:(⟨(s1,s2),(e1,e2),z1,z2,z3,z4⟩:M.Pf).rows<=16:=by
  by_cases h:(⟨(s1,s2),(e1,e2),z1,z2,z3,z4⟩:M.Pf).rows=0
  .omega
  .exact(M.rowsN_pos (M.rows_some h).1).2
 generalize(⟨(s1,s2),(e1,e2),z1,z2,z3,z4⟩:M.Pf).rows=R at CR hno Ka;generalize m.ok=om at CM hno;obtain⟨⟨a,b,c,d,f,k⟩,⟨a',b',c',d',f',k'⟩⟩:=m;dsimp only[dp]at CM |-;have Ba:m1 w ((w.alloc (.cells (cW a b c d f k a' b' c' d' f' k').toArray 31)).alloc (.cells (cX s1 s2 e1 e2 a1 n1 c1 a2 n2 c2 a3 n3 c3 a4 n4 c4).toArray 35)):=((m8 _ _).alloc (m3 _) _).alloc (by simp) _;have Ea:H7 (aw ((w.alloc (.cells (cW a b c d f k a' b' c' d' f' k').toArray 31)).alloc (.cells (cX s1 s2 e1 e2 a1 n1 c1 a2 n2 c2 a3 n3 c3 a4 n4 c4).toArray 35)) w.heap.size (cW a b c d f k a' b' c' d' f' k')):=(aQ _ _ _).alloc _;have Ca:=Hd Ba;have Fa:=Hd (h1.below Ba);have Ga:=Hd (h2.below Ba);have Ha:=Hd (h3.below Ba);have Ia:=Hd (h4.below Ba);clear Ba h1 h2 h3 h4;go_enter func59,ntmps59;(go_wp2_with fail);refine(CR _ Fa.o Ga.o Ha.o Ia.o).mono ?_;rintro e w1 ⟨rfl,hb⟩;have Aa:=Ea.b hb;have Da:=Ca.t hb;clear Ea Ca Fa Ga Ha Ia;clear hb;have m0:=Aa.c 0;have I:=Aa.c 1;have J:=Aa.c 2;have Q:=Aa.c 3;have m4:=Aa.c 4;have Y:=Aa.c 5;have m6:=Aa.c 6;have m7:=Aa.c 7;have L:=Aa.c 8;have Z:=Aa.c 9;have La:=Aa.c 10;have Na:=Aa.c 11;(go_wp2_with fail);refine(CM _).mono ?_;rintro e w2 ⟨rfl,hb⟩;have Ja:=Da.t hb;clear Aa Da;clear hb;clear m0 I J Q m4 Y m6 m7 L Z La Na
 rcases hno with rfl | ⟨rfl,rfl⟩
 ·
  go_wp2;go_ret;exact⟨rfl,Ja.o⟩
 ·
  go_wp2;go_ret;exact⟨rfl,Ja.o⟩
theorem kB(m:M.Mc)(s1 s2 e1 e2:Int)(N:Nat)(w:World)(h:M.rowsN N=true)(hm:m.ok=true)(hr:(⟨(s1,s2),(e1,e2),z1,z2,z3,z4⟩:M.Pf).rows=N)(h1:aC w a1 (4*N) c1 z1)(h2:aC w a2 (4*N) c2 z2)(h3:aC w a3 (4*N) c3 z3)(h4:aC w a4 (4*N) c4 z4)(ha1:M.allEl z1=true)(ha2:M.allEl z2=true)(ha3:M.allEl z3=true)(ha4:M.allEl z4=true):
  Rt 59 #[dp m,.agg #[it s1,it s2,it e1,it e2,.slice a1 (4*N) c1,.slice a2 (4*N) c2,.slice a3 (4*N) c3,.slice a4 (4*N) c4]] w (.bool (M.accN m (⟨(s1,s2),(e1,e2),z1,z2,z3,z4⟩:M.Pf) N)):=by
 have Fh:=M.rowsN_pos h;obtain⟨K,hK⟩:∃K:Nat,K=4*N:=⟨_,rfl⟩;have Li:4*(N:Int)=(K:Int):=(by omega);have Ni:K<=64:=(by omega);have Gh:0<K:=(by omega);have hg:=(M.el_iff _).1 (M.root_el (M.two64_two (M.rowsN_two h)));have hl:=(M.el_iff _).1 (M.el_lst N);obtain⟨Ge,He⟩:m.X.ok=true/\m.Y.ok=true:=by have:=hm;unfold M.Mc.ok at this;exact(xP _ _).mp this
 have CR:∀W,aC W a1 (4*N) c1 z1->aC W a2 (4*N) c2 z2->aC W a3 (4*N) c3 z3->aC W a4 (4*N) c4 z4->Rt 58 #[.agg (cX s1 s2 e1 e2 a1 (4*N) c1 a2 (4*N) c2 a3 (4*N) c3 a4 (4*N) c4).toArray] W (it (N:Nat)):=λW g1 g2 g3 g4=>by
  have:=fg s1 s2 e1 e2 W g1 g2 g3 g4 (by omega) (by omega) (by omega) (by omega);rw[hr]at this;exact this
 have CM:∀W,Rt 53 #[dp m] W (.bool true):=λW=>by rw[<-hm];exact bD m W
 have CF:∀{a:Option Addr} {c:Nat} {z:List Int} (W:World),M.allEl z=true->aC W a (4*N) c z->Calls prog 83 #[.slice a (4*N) c,it 3] W λe w'=>∃a' l c',e=.returned (.slice a' l c')/\aA 2 w' W.heap.size a' l c' (M.frs z 3)/\m1 W w':=λW hz hW=>i9 3 W hW hz (M.rowsN_pt h);have Hc:=eO (N:Int)
 have Qb:∀W,Rq 105 #[it (M.root N),it ((N:Int)-1)] W (it (M.lst N)):=λW=>by
  have:=dO (M.root N) (N-1) W hg.1 hg.2 (by omega);rw[show((N-1:Nat):Int)=(N:Int)-1 by omega]at this;exact this
 have Rb:=λW=>jA (4*N) 3 W (M.rowsN_pt h)
 have Db:H7 (∀i,i<4*N->(M.gp 3 (M.root ((4*N:Nat):Int)) (4*N)).getD i 0=M.zp N i):=λi hi=>by
  have:=nI (N:=N) hi;rw[show((4*N:Nat):Int)=4*(N:Int) by omega];exact this
 have Ic:H7 (∀(i:Nat) (W:World),Rq 105 #[it (M.zp N i),it (N:Int)] W (it (M.pw (M.zp N i) N))):=λi W=>dO _ N W (M.zp_bd N i).1 (M.zp_bd N i).2 (by omega)
 have Sb:H7 (∀(i:Nat) (W:World),Rq 109 #[it (M.pw (M.zp N i) N),it 1] W (it (M.zer N i))):=λi W=>by
  have:=eE (M.pw (M.zp N i) N) 1 W;rw[M.sub_in (M.el_pw _ _) (by decide)]at this;exact this
 have Tb:H7 (∀(i:Nat) (W:World),Rq 109 #[it (M.zp N i),it (M.lst N)] W (it ((M.zp N i+65537-M.lst N)%65537))):=λi W=>by
  have:=eE (M.zp N i) (M.lst N) W;rw[M.sub_in (M.el_zp _ _) (M.el_lst _)]at this;exact this
 have Jc:H7 (∀(i:Nat) (W:World),Rq 110 #[it (z3.getD i 0),it (M.zer N i)] W (it ((z3.getD i 0)*M.zer N i%65537))):=λi W=>by
  have:=bP (z3.getD i 0) (M.zer N i) W;rw[M.mul_in ((M.el_iff _).2 (M.el_at ha3 i)) ((M.el_iff _).2 (M.zer_bd N i))]at this;exact this
 have Ub:H7 (∀(i:Nat) (W:World),Rt 111 #[jI m.X,it (z1.getD i 0),it (z2.getD i 0)] W (it (m.X.app (z1.getD i 0) (z2.getD i 0)))):=λi W=>ju m.X ((z1.getD i 0),(z2.getD i 0)) Ge ((M.sOk_iff _).2 ⟨M.el_at ha1 i,M.el_at ha2 i⟩) (m8 _ _) (m3 _)
 have Vb:H7 (∀(i:Nat) (W:World),Rq 109 #[it (z1.getD ((i+4)%(4*N)) 0),it (m.X.app (z1.getD i 0) (z2.getD i 0))] W (it (((z1.getD ((i+4)%(4*N)) 0)+65537-m.X.app (z1.getD i 0) (z2.getD i 0))%65537))):=λi W=>by
  have:=eE (z1.getD ((i+4)%(4*N)) 0) (m.X.app (z1.getD i 0) (z2.getD i 0)) W;rw[M.sub_in ((M.el_iff _).2 (M.el_at ha1 _)) (M.el_app _ _ _)]at this;exact this
 have Qa:H7 (∀(i:Nat) (W:World),Rq 110 #[it (((z1.getD ((i+4)%(4*N)) 0)+65537-m.X.app (z1.getD i 0) (z2.getD i 0))%65537),it ((M.zp N i+65537-M.lst N)%65537)] W (it (M.mis m.X z1 z2 z1 N i))):=λi W=>by
  have:=bP (((z1.getD ((i+4)%(4*N)) 0)+65537-m.X.app (z1.getD i 0) (z2.getD i 0))%65537) ((M.zp N i+65537-M.lst N)%65537) W;rw[M.mul_in ((M.el_iff _).2 ⟨by omega,by omega⟩) ((M.el_iff _).2 ⟨by omega,by omega⟩)]at this;exact this
 have Kc:H7 (∀(i:Nat) (W:World),Rq 110 #[it (z4.getD i 0),it (M.zer N i)] W (it ((z4.getD i 0)*M.zer N i%65537))):=λi W=>by
  have:=bP (z4.getD i 0) (M.zer N i) W;rw[M.mul_in ((M.el_iff _).2 (M.el_at ha4 i)) ((M.el_iff _).2 (M.zer_bd N i))]at this;exact this
 have Wb:H7 (∀(i:Nat) (W:World),Rt 111 #[jI m.Y,it (z1.getD i 0),it (z2.getD i 0)] W (it (m.Y.app (z1.getD i 0) (z2.getD i 0)))):=λi W=>ju m.Y ((z1.getD i 0),(z2.getD i 0)) He ((M.sOk_iff _).2 ⟨M.el_at ha1 i,M.el_at ha2 i⟩) (m8 _ _) (m3 _)
 have Xb:H7 (∀(i:Nat) (W:World),Rq 109 #[it (z2.getD ((i+4)%(4*N)) 0),it (m.Y.app (z1.getD i 0) (z2.getD i 0))] W (it (((z2.getD ((i+4)%(4*N)) 0)+65537-m.Y.app (z1.getD i 0) (z2.getD i 0))%65537))):=λi W=>by
  have:=eE (z2.getD ((i+4)%(4*N)) 0) (m.Y.app (z1.getD i 0) (z2.getD i 0)) W;rw[M.sub_in ((M.el_iff _).2 (M.el_at ha2 _)) (M.el_app _ _ _)]at this;exact this
 have Ra:H7 (∀(i:Nat) (W:World),Rq 110 #[it (((z2.getD ((i+4)%(4*N)) 0)+65537-m.Y.app (z1.getD i 0) (z2.getD i 0))%65537),it ((M.zp N i+65537-M.lst N)%65537)] W (it (M.mis m.Y z1 z2 z2 N i))):=λi W=>by
  have:=bP (((z2.getD ((i+4)%(4*N)) 0)+65537-m.Y.app (z1.getD i 0) (z2.getD i 0))%65537) ((M.zp N i+65537-M.lst N)%65537) W;rw[M.mul_in ((M.el_iff _).2 ⟨by omega,by omega⟩) ((M.el_iff _).2 ⟨by omega,by omega⟩)]at this;exact this
 have Lc:∀{a:Option Addr} {n c:Nat} {z:List Int} (W:World),M.allEl z=true->aC W a n c z->Rq 107 #[.slice a n c,it 1] W (it (M.ev z 1)):=λW hz hW=>k8 1 W hW hz (by omega) (by omega);have Nc:∀{a:Option Addr} {n c:Nat} {z:List Int} (W:World),M.allEl z=true->aC W a n c z->Rq 107 #[.slice a n c,it (M.lst N)] W (it (M.ev z (M.lst N))):=λW hz hW=>k8 _ W hW hz hl.1 hl.2;have Ie:M.accN m (⟨(s1,s2),(e1,e2),z1,z2,z3,z4⟩:M.Pf) N=((decide ((M.frs z1 3).length<=N)&&(decide ((M.frs z2 3).length<=N)&&(decide ((M.frs z3 3).length<=N)&&decide ((M.frs z4 3).length<=N))))&&(((decide (M.ev (M.frs z1 3) 1=s1)&&decide (M.ev (M.frs z2 3) 1=s2))&&(decide (M.ev (M.frs z1 3) (M.lst N)=e1)&&decide (M.ev (M.frs z2 3) (M.lst N)=e2)))&&(M.qOk m.X z1 z2 z1 z3 N (4*N)&&M.qOk m.Y z1 z2 z2 z4 N (4*N)))):=rfl;rw[Ie];clear Ie;have Oc:=λW=>@CF a1 c1 z1 W ha1;have Pc:=λW=>@CF a2 c2 z2 W ha2;have Qc:=λW=>@CF a3 c3 z3 W ha3;have Rc:=λW=>@CF a4 c4 z4 W ha4;have Je:H7 (M.qOk m.X z1 z2 z1 z3 N 0=true):=rfl;have Ke:H7 (M.qOk m.Y z1 z2 z2 z4 N 0=true):=rfl;have Yb:H7 (∀k,M.qOk m.X z1 z2 z1 z3 N k=true->(z3.getD k 0*M.zer N k%65537==M.mis m.X z1 z2 z1 N k)=true->M.qOk m.X z1 z2 z1 z3 N (k+1)=true):=λk p q=>by rw[kM,p,q];rfl
 have Zb:H7 (∀k,M.qOk m.Y z1 z2 z2 z4 N k=true->(z4.getD k 0*M.zer N k%65537==M.mis m.Y z1 z2 z2 N k)=true->M.qOk m.Y z1 z2 z2 z4 N (k+1)=true):=λk p q=>by rw[kM,p,q];rfl
 have Eb:H7 (∀k,k<4*N->(z3.getD k 0*M.zer N k%65537==M.mis m.X z1 z2 z1 N k)=false->M.qOk m.X z1 z2 z1 z3 N (4*N)=false):=λk p q=>pC p q;have Fb:H7 (∀k,k<4*N->(z4.getD k 0*M.zer N k%65537==M.mis m.Y z1 z2 z2 N k)=false->M.qOk m.Y z1 z2 z2 z4 N (4*N)=false):=λk p q=>pC p q;simp only[<-hK]at CR Oc Pc Qc Rc Rb Db Vb Xb Qa Ra Eb Fb h1 h2 h3 h4 |-;have Le:=λ{a n c} W=>@Lc a n c (M.frs z1 3) W (M.frs_all _ _);have Ne:=λ{a n c} W=>@Lc a n c (M.frs z2 3) W (M.frs_all _ _);have Sc:=λ{a n c} W=>@Nc a n c (M.frs z1 3) W (M.frs_all _ _);have Tc:=λ{a n c} W=>@Nc a n c (M.frs z2 3) W (M.frs_all _ _);generalize M.ev (M.frs z1 3) 1=x1 at *;generalize M.ev (M.frs z2 3) 1=y1 at *;generalize M.ev (M.frs z1 3) (M.lst N)=x2 at *;generalize M.ev (M.frs z2 3) (M.lst N)=y2 at *;generalize M.frs z1 3=F1 at *;generalize M.frs z2 3=F2 at *;generalize M.frs z3 3=F3 at *;generalize M.frs z4 3=F4 at *;generalize M.gp 3 (M.root (K:Int)) K=GP at Rb Db;generalize M.root (N:Int)=R1 at Hc Qb;generalize Hh:M.qOk m.X z1 z2 z1 z3 N=QX at *;generalize Ih:M.qOk m.Y z1 z2 z2 z4 N=QY at *;generalize Jh:M.mis m.X z1 z2 z1 N=MX at Yb Eb Qa;generalize Kh:M.mis m.Y z1 z2 z2 N=MY at Zb Fb Ra;generalize Lh:M.zer N=ZE at Yb Eb Zb Fb Sb Jc Kc;generalize Nh:M.zp N=ZP at Db Ic Sb Tb Qa Ra;generalize M.lst N=la at Qb Tb Sc Tc Qa Ra;generalize Oe:(λi=>m.X.app (z1.getD i 0) (z2.getD i 0))=AX;generalize Pe:(λi=>m.Y.app (z1.getD i 0) (z2.getD i 0))=AY;have hAX':=λi=>congrFun Oe i;have hAY':=λi=>congrFun Pe i;simp only[hAX']at Ub Vb Qa;simp only[hAY']at Wb Xb Ra;obtain⟨oA,Uc⟩:∃o,o=((decide (F1.length<=N)&&(decide (F2.length<=N)&&(decide (F3.length<=N)&&decide (F4.length<=N))))&&(((decide (x1=s1)&&decide (y1=s2))&&(decide (x2=e1)&&decide (y2=e2)))&&(QX K&&QY K))):=⟨_,rfl⟩;rw[<-Uc];have Xa:=Hd Uc;clear Uc;have Oi:((N:Int)==0)=false:=(by simp;omega);have Pi:(N:Int)<=16:=(by omega);have Qi:(2:Int)<=(N:Int):=(by omega);clear Hh Ih Jh Kh Lh Nh Oe Pe hAX' hAY' Lc Nc CF hg hl Ge He hm hr h ha1 ha2 ha3 ha4 Fh;clear hK;obtain⟨⟨a,b,c,d,f,k⟩,⟨a',b',c',d',f',k'⟩⟩:=m;dsimp only[dp,jI]at CM Ub Wb |-;have Ya:m1 w ((w.alloc (.cells (cW a b c d f k a' b' c' d' f' k').toArray 31)).alloc (.cells (cX s1 s2 e1 e2 a1 K c1 a2 K c2 a3 K c3 a4 K c4).toArray 35)):=((m8 _ _).alloc (m3 _) _).alloc (by simp) _;have Qe:H7 (aw ((w.alloc (.cells (cW a b c d f k a' b' c' d' f' k').toArray 31)).alloc (.cells (cX s1 s2 e1 e2 a1 K c1 a2 K c2 a3 K c3 a4 K c4).toArray 35)) w.heap.size (cW a b c d f k a' b' c' d' f' k')):=(aQ _ _ _).alloc _;have Re:H7 (aw ((w.alloc (.cells (cW a b c d f k a' b' c' d' f' k').toArray 31)).alloc (.cells (cX s1 s2 e1 e2 a1 K c1 a2 K c2 a3 K c3 a4 K c4).toArray 35)) (w.heap.size+1) (cX s1 s2 e1 e2 a1 K c1 a2 K c2 a3 K c3 a4 K c4)):=aZ _ _ _ _;have Vc:=Hd Ya;have Wc:=Hd (h1.below Ya);have Xc:=Hd (h2.below Ya);have Yc:=Hd (h3.below Ya);have Zc:=Hd (h4.below Ya);clear Ya h1 h2 h3 h4;go_enter func59,ntmps59;(go_wp2_with fail);refine(CR _ Wc.o Xc.o Yc.o Zc.o).mono ?_;rintro e w1 ⟨rfl,hb⟩;have Ga:=Qe.b hb;have Se:=Re.b hb;have Ad:=Vc.t hb;have Te:=Hd (Wc.o.below hb);have Ue:=Hd (Xc.o.below hb);have Ve:=Hd (Yc.o.below hb);have We:=Hd (Zc.o.below hb);clear Qe Re Vc Wc Xc Yc Zc;clear hb;have m0:=Ga.c 0;have I:=Ga.c 1;have J:=Ga.c 2;have Q:=Ga.c 3;have m4:=Ga.c 4;have Y:=Ga.c 5;have m6:=Ga.c 6;have m7:=Ga.c 7;have L:=Ga.c 8;have Z:=Ga.c 9;have Oh:=Ga.c 10;have Ph:=Ga.c 11;(go_wp2_with fail);refine(CM _).mono ?_;rintro e w2 ⟨rfl,hb⟩;have Xe:=Ga.b hb;have Bd:=Se.b hb;have Cd:=Ad.t hb;have Dd:=Hd (Te.o.below hb);have Ye:=Hd (Ue.o.below hb);have Ze:=Hd (Ve.o.below hb);have Af:=Hd (We.o.below hb);clear Ga Se Ad Te Ue Ve We;clear hb;clear m0 I J Q m4 Y m6 m7 L Z Oh Ph CR CM;have p4:=Bd.c 4;(go_wp2_with fail);refine(Oc _ Dd.o).mono ?_;rintro e w3 ⟨Ed,Sa,Fd,rfl,ho,hb⟩;have Bf:=Xe.b hb;have Gd:=Bd.b hb;have Id:=Cd.t hb;have Cf:=Hd (Dd.o.below hb);have Jd:=Hd (Ye.o.below hb);have Df:=Hd (Ze.o.below hb);have Ef:=Hd (Af.o.below hb);clear Xe Bd Cd Dd Ye Ze Af;have Ff:=Hd ho.sees;clear hb;clear p4 ho Oc;have p5:=Gd.c 5;(go_wp2_with fail);refine(Pc _ Jd.o).mono ?_;rintro e w4 ⟨Kd,Ta,Ld,rfl,ho,hb⟩;have Gf:=Bf.b hb;have Nd:=Gd.b hb;have Od:=Id.t hb;have Hf:=Hd (Cf.o.below hb);have If:=Hd (Jd.o.below hb);have Pd:=Hd (Df.o.below hb);have Jf:=Hd (Ef.o.below hb);have Kf:=Hd (Ff.o.below hb);clear Bf Gd Id Cf Jd Df Ef Ff;have Lf:=Hd ho.sees;clear hb;clear p5 ho Pc;have p6:=Nd.c 6;(go_wp2_with fail);refine(Qc _ Pd.o).mono ?_;rintro e w5 ⟨Qh,Gb,Rh,rfl,ho,hb⟩;have Nf:=Gf.b hb;have Qd:=Nd.b hb;have Rd:=Od.t hb;have Of:=Hd (Hf.o.below hb);have Qf:=Hd (If.o.below hb);have Rf:=Hd (Pd.o.below hb);have Sd:=Hd (Jf.o.below hb);have Sf:=Hd (Kf.o.below hb);have Tf:=Hd (Lf.o.below hb);clear Gf Nd Od Hf If Pd Jf Kf Lf;have Uf:=Hd ho.sees;clear hb;clear p6 ho Qc;have p7:=Qd.c 7;(go_wp2_with fail);refine(Rc _ Sd.o).mono ?_;rintro e w6 ⟨Sh,Hb,Th,rfl,ho,hb⟩;have Vf:=Nf.b hb;have Ka:=Qd.b hb;have Ea:=Rd.t hb;have Wf:=Hd (Of.o.below hb);have Xf:=Hd (Qf.o.below hb);have Yf:=Hd (Rf.o.below hb);have Zf:=Hd (Sd.o.below hb);have Za:=Hd (Sf.o.below hb);have Ab:=Hd (Tf.o.below hb);have Ac:=Hd (Uf.o.below hb);clear Nf Qd Rd Of Qf Rf Sd Sf Tf Uf;have Bc:=Hd ho.sees;clear hb;clear p7 ho Rc;have Td:=Hd Za.o.len;have Uh:(Sa:Int)<=9223372036854775807:=(by have:=Za.o.big;have:=Za.o.le;omega);have Ud:=Hd Ab.o.len;have Vh:(Ta:Int)<=9223372036854775807:=(by have:=Ab.o.big;have:=Ab.o.le;omega);have Vd:=Hd Ac.o.len;have Wh:(Gb:Int)<=9223372036854775807:=(by have:=Ac.o.big;have:=Ac.o.le;omega);have Wd:=Hd Bc.o.len;have Xh:(Hb:Int)<=9223372036854775807:=(by have:=Bc.o.big;have:=Bc.o.le;omega);have Ib:H7 (¬ Sa<=N->oA=false):=λh=>by show _=_;rw[Xa.o,Td.o,decide_eq_false h];simp
 have Jb:H7 (¬ Ta<=N->oA=false):=λh=>by show _=_;rw[Xa.o,Ud.o,decide_eq_false h];simp
 have Kb:H7 (¬ Gb<=N->oA=false):=λh=>by show _=_;rw[Xa.o,Vd.o,decide_eq_false h];simp
 have Lb:H7 (¬ Hb<=N->oA=false):=λh=>by show _=_;rw[Xa.o,Wd.o,decide_eq_false h];simp
 have Ag:H7 (Sa<=N->Ta<=N->Gb<=N->Hb<=N->oA=(((decide (x1=s1)&&decide (y1=s2))&&(decide (x2=e1)&&decide (y2=e2)))&&(QX K&&QY K))):=λq1 q2 q3 q4=>by show _=_;rw[Xa.o,Td.o,Ud.o,Vd.o,Wd.o,decide_eq_true q1,decide_eq_true q2,decide_eq_true q3,decide_eq_true q4];rfl
 clear Xa Td Ud Vd Wd;go_wp2_with fail
 ·
  go_ret;have Ua:oA=false:=by first | exact Ib.o (by omega) | exact Jb.o (by omega) | exact Kb.o (by omega) | exact Lb.o (by omega)
  exact⟨aB Ua.symm,Ea.o⟩
 rotate_left 1
 ·
  go_ret;have Ua:oA=false:=by first | exact Ib.o (by omega) | exact Jb.o (by omega) | exact Kb.o (by omega) | exact Lb.o (by omega)
  exact⟨aB Ua.symm,Ea.o⟩
 ·
  go_ret;have Ua:oA=false:=by first | exact Ib.o (by omega) | exact Jb.o (by omega) | exact Kb.o (by omega) | exact Lb.o (by omega)
  exact⟨aB Ua.symm,Ea.o⟩
 ·
  go_ret;have Ua:oA=false:=by first | exact Ib.o (by omega) | exact Jb.o (by omega) | exact Kb.o (by omega) | exact Lb.o (by omega)
  exact⟨aB Ua.symm,Ea.o⟩
 have Bb:=Hd (Ag.o (by omega) (by omega) (by omega) (by omega));clear Ag Ib Jb Kb Lb Uh Vh Wh Xh;clear Ac;clear Bc;refine(Hc _).mono ?_;rintro e wz ⟨rfl,Ha⟩;have Na:=Ha.symm;clear Ha;subst Na;have Ri:IntKind.i64.wrap ((N:Int)-1)=(N:Int)-1:=(by rw[xK];omega);(go_wp2_with fail);refine(Qb _).mono ?_;rintro e wz ⟨rfl,Ha⟩;have Na:=Ha.symm;clear Ha;subst Na;clear Hc Qb;have p0:=Ka.c 0;have p1:=Ka.c 1;have p2:=Ka.c 2;have p3:=Ka.c 3;(go_wp2_with fail);clear p0 p1 p2 p3;generalize w6=wq at *;refine cP wq none (by kernel_rfl) λhHeld=>?_;generalize wq.drew=Bg at *;have Fa:H7 (m1 wq Bg):=⟨hHeld.os,hHeld.tape,hHeld.output,hHeld.size,λk hk=>hHeld.block k hk (by simp)⟩;refine tE 0 (.slice Ed Sa Fd) ?_;refine tE 2 (tG (w.heap.size+1)) ?_;refine tE 3 (tG (w.heap.size+1)) ?_;refine tk 4 (it s1) ?_ ?_
 .intro wp Ba;have c0:=(Ka.o.grown Ba (by simp)).c 0;go_simp
 refine aT 1 λKk hK=>?_;go_simp;refine(Le _ (Za.o.below Fa.o)).mono ?_;rintro e wn ⟨rfl,Ca⟩;have Da:=Ca.symm;clear Ca;subst Da;go_simp;refine hK.out _ _ (by assumption) (λhHeld1=>?_);clear hK Kk;refine tE 5 (.bool (x1 != s1)) ?_;by_cases g0:x1=s1
 rotate_left
 ·
  have Cc:(x1 != s1)=true:=(by simp[g0]);rw[Cc];have Va:H7 (oA=false):=(by show _=_;rw[Bb.o,decide_eq_false g0];simp);clear g0;refine tE 6 (.bool true) ?_;refine sk 7 ?_;refine sk 8 ?_;refine sk 9 ?_;refine sk 10 ?_;refine sk 11 ?_;refine sk 12 ?_;refine tE 13 (.bool true) ?_;refine tE 14 (.bool true) ?_;refine sk 15 ?_;refine sk 16 ?_;refine sk 17 ?_;refine sk 18 ?_;refine sk 19 ?_;refine sk 20 ?_;refine sk 21 ?_;refine tE 22 (.bool true) ?_;refine tE 23 (.bool true) ?_;refine sk 24 ?_;refine sk 25 ?_;refine sk 26 ?_;refine sk 27 ?_;refine sk 28 ?_;refine sk 29 ?_;refine sk 30 ?_;refine tE 31 (.bool true) ?_;refine bi ?_;go_simp;have Ia:=Hd (Ea.o.trans (Fa.o.mono Ea.o.size));go_wp2;go_ret;exact⟨aB Va.o.symm,Ia.o⟩
 have Cc:(x1 != s1)=false:=(by simp[g0]);have Cg:=Hd g0;rw[Cc];clear g0;refine tE 6 (.bool false) ?_;refine tE 7 (.slice Kd Ta Ld) ?_;refine tE 9 (tG (w.heap.size+1)) ?_;refine tE 10 (.pointer (some ⟨w.heap.size+1,1,none⟩)) ?_;refine tk 11 (it s2) ?_ ?_
 .intro wp Ba;have c0:=(Ka.o.grown Ba (by simp)).c 1;go_simp
 refine aT 8 λKk hK=>?_;go_simp;refine(Ne _ (Ab.o.below Fa.o)).mono ?_;rintro e wn ⟨rfl,Ca⟩;have Da:=Ca.symm;clear Ca;subst Da;go_simp;refine hK.out _ _ (by assumption) (λhHeld1=>?_);clear hK Kk;refine tE 12 (.bool (y1 != s2)) ?_;by_cases g1:y1=s2
 rotate_left
 ·
  have Dc:(y1 != s2)=true:=(by simp[g1]);rw[Dc];have Va:H7 (oA=false):=(by show _=_;rw[Bb.o,decide_eq_false g1];simp);clear g1;refine tE 13 (.bool true) ?_;refine tE 14 (.bool true) ?_;refine sk 15 ?_;refine sk 16 ?_;refine sk 17 ?_;refine sk 18 ?_;refine sk 19 ?_;refine sk 20 ?_;refine sk 21 ?_;refine tE 22 (.bool true) ?_;refine tE 23 (.bool true) ?_;refine sk 24 ?_;refine sk 25 ?_;refine sk 26 ?_;refine sk 27 ?_;refine sk 28 ?_;refine sk 29 ?_;refine sk 30 ?_;refine tE 31 (.bool true) ?_;refine bi ?_;go_simp;have Ia:=Hd (Ea.o.trans (Fa.o.mono Ea.o.size));go_wp2;go_ret;exact⟨aB Va.o.symm,Ia.o⟩
 have Dc:(y1 != s2)=false:=(by simp[g1]);have Dg:=Hd g1;rw[Dc];clear g1;refine tE 13 (.bool false) ?_;refine tE 14 (.bool false) ?_;refine tE 15 (.slice Ed Sa Fd) ?_;refine tE 16 (it la) ?_;refine tE 18 (.pointer (some ⟨w.heap.size+1,2,none⟩)) ?_;refine tE 19 (.pointer (some ⟨w.heap.size+1,2,none⟩)) ?_;refine tk 20 (it e1) ?_ ?_
 .intro wp Ba;have c0:=(Ka.o.grown Ba (by simp)).c 2;go_simp
 refine aT 17 λKk hK=>?_;go_simp;refine(Sc _ (Za.o.below Fa.o)).mono ?_;rintro e wn ⟨rfl,Ca⟩;have Da:=Ca.symm;clear Ca;subst Da;go_simp;refine hK.out _ _ (by assumption) (λhHeld1=>?_);clear hK Kk;refine tE 21 (.bool (x2 != e1)) ?_;by_cases g2:x2=e1
 rotate_left
 ·
  have Ec:(x2 != e1)=true:=(by simp[g2]);rw[Ec];have Va:H7 (oA=false):=(by show _=_;rw[Bb.o,decide_eq_false g2];simp);clear g2;refine tE 22 (.bool true) ?_;refine tE 23 (.bool true) ?_;refine sk 24 ?_;refine sk 25 ?_;refine sk 26 ?_;refine sk 27 ?_;refine sk 28 ?_;refine sk 29 ?_;refine sk 30 ?_;refine tE 31 (.bool true) ?_;refine bi ?_;go_simp;have Ia:=Hd (Ea.o.trans (Fa.o.mono Ea.o.size));go_wp2;go_ret;exact⟨aB Va.o.symm,Ia.o⟩
 have Ec:(x2 != e1)=false:=(by simp[g2]);have Eg:=Hd g2;rw[Ec];clear g2;refine tE 22 (.bool false) ?_;refine tE 23 (.bool false) ?_;refine tE 24 (.slice Kd Ta Ld) ?_;refine tE 25 (it la) ?_;refine tE 27 (.pointer (some ⟨w.heap.size+1,2,none⟩)) ?_;refine tE 28 (.pointer (some ⟨w.heap.size+1,3,none⟩)) ?_;refine tk 29 (it e2) ?_ ?_
 .intro wp Ba;have c0:=(Ka.o.grown Ba (by simp)).c 3;go_simp
 refine aT 26 λKk hK=>?_;go_simp;refine(Tc _ (Ab.o.below Fa.o)).mono ?_;rintro e wn ⟨rfl,Ca⟩;have Da:=Ca.symm;clear Ca;subst Da;go_simp;refine hK.out _ _ (by assumption) (λhHeld1=>?_);clear hK Kk;refine tE 30 (.bool (y2 != e2)) ?_;by_cases g3:y2=e2
 rotate_left
 ·
  have Fc:(y2 != e2)=true:=(by simp[g3]);rw[Fc];have Va:H7 (oA=false):=(by show _=_;rw[Bb.o,decide_eq_false g3];simp);clear g3;refine tE 31 (.bool true) ?_;refine bi ?_;go_simp;have Ia:=Hd (Ea.o.trans (Fa.o.mono Ea.o.size));go_wp2;go_ret;exact⟨aB Va.o.symm,Ia.o⟩
 have Fc:(y2 != e2)=false:=(by simp[g3]);have Fg:=Hd g3;rw[Fc];clear g3;refine tE 31 (.bool false) ?_;refine bi ?_;go_simp;have Gg:=Hd (Vf.o.belowS Fa.o);have Hg:=Hd (Ka.o.belowS Fa.o);have Xd:=Hd (Ea.o.trans (Fa.o.mono Ea.o.size));have Ig:=Hd (Wf.o.below Fa.o);have Jg:=Hd (Xf.o.below Fa.o);have Kg:=Hd (Yf.o.below Fa.o);have Lg:=Hd (Zf.o.below Fa.o);clear Vf Ka Ea Wf Xf Yf Zf Za Ab;have Yd:H7 (oA=(QX K&&QY K)):=(by show _=_;rw[Bb.o,decide_eq_true Cg.o,decide_eq_true Dg.o,decide_eq_true Eg.o,decide_eq_true Fg.o];rfl);clear Bb Cg Dg Eg Fg Le Ne Sc Tc;(go_wp2_with fail);refine(Rb _).mono ?_;rintro e w7 ⟨ta,tc,rfl,ho,hb⟩;have Ng:=Gg.b hb;have Og:=Hg.b hb;have Zd:=Xd.t hb;have Pg:=Hd (Ig.o.below hb);have Qg:=Hd (Jg.o.below hb);have Rg:=Hd (Kg.o.below hb);have Sg:=Hd (Lg.o.below hb);clear Gg Hg Xd Ig Jg Kg Lg;have Tg:=Hd ho.sees;clear hb;clear ho Rb Cc Dc Ec Fc;(go_wp2_with fail);generalize w7=w7 at *
 go_loopw [12] (λi wr=>∃k:Nat,k<=K/\i=it k/\m1 w7 wr/\QX k=true/\QY k=true) (λi _=>K-(intOf i).toNat)
 case atStart=>exact⟨0,by omega,rfl,m8 _ _,Je.o,Ke.o⟩
 case round=>
  obtain⟨i,hi,rfl,La,Ug,Vg⟩:=hrel;have Wg:=Hd Ug;have Xg:=Hd Vg;clear Ug Vg;have Ja:=Ng.b La;have Oa:=Og.b La;have Nb:=Zd.t La;have Yh:=Hd (Pg.o.below La);have Zh:=Hd (Qg.o.below La);have Ai:=Hd (Rg.o.below La);have Bi:=Hd (Sg.o.below La);have Ci:=Hd (Tg.o.below La);clear Ng Og Zd Pg Qg Rg Sg Tg;have Yg:=Hd La;clear La;by_cases Pa:i<K
  rotate_left
  ·
   have Di:i=K:=(by omega);subst Di;have hI:¬ (i:Int)<(i:Int):=(by omega);go_wp2;go_ret;exact⟨aB (by rw[Yd.o,Wg.o,Xg.o];rfl),Nb.o⟩
  obtain⟨j,hj⟩:∃j:Nat,j=(i+4)%K:=⟨_,rfl⟩;have Gc:j<K:=(by rw[hj];exact Nat.mod_lt _ Gh);have Si:((i:Int)+4).tmod (K:Int)=(j:Int):=(by rw[hj,Int.tmod_eq_emod_of_nonneg (by omega)];simp);have Ti:IntKind.i64.wrap ((i:Int)+4)=(i:Int)+4:=(by rw[xK];omega);have hI:(i:Int)<(K:Int):=(by omega);have Ui:(0:Int)<=(i:Int):=(by omega);have Vi:(0:Int)<=(j:Int):=(by omega);have hJ:(j:Int)<(K:Int):=(by omega);have Wi:¬ (K:Int)=0:=(by omega);have HJ:=Hd hj;clear hj;obtain⟨tb,to,rfl,Zg⟩:=Ci.o.at (by omega);have rt:=Zg i Pa;rw[Db.o i Pa]at rt;clear Zg;have D1:=Ic.o i;have D2:=Sb.o i;have D3:=Tb.o i;have D4:=Jc.o i;have D5:=Ub.o i;have D6:=Vb.o i;have D7:=Qa.o i;have D8:=Kc.o i;have D9:=Wb.o i;have Ob:=Xb.o i;have Pb:=Ra.o i;have E1:=Yb.o i;have E2:=Zb.o i;have E3:=Eb.o i Pa;have E4:=Fb.o i Pa;rw[<-HJ.o]at D6 D7 Ob Pb;obtain⟨b1,o1,rfl,Ae⟩:=Yh.o.at (by omega);have v1:=Ae i Pa;have u1:=Ae j Gc;clear Ae;obtain⟨b2,o2,rfl,Be⟩:=Zh.o.at (by omega);have v2:=Be i Pa;have u2:=Be j Gc;clear Be;obtain⟨b3,o3,rfl,Ce⟩:=Ai.o.at (by omega);have v3:=Ce i Pa;have u3:=Ce j Gc;clear Ce;obtain⟨b4,o4,rfl,De⟩:=Bi.o.at (by omega);have v4:=De i Pa;have u4:=De j Gc;clear De;clear u3 u4;generalize(ZP i+65537-la)%65537=en at D3 D7 Pb;generalize M.pw (ZP i) N=pz at D1 D2;generalize ZP i=zi at rt D1 D3;generalize z3.getD i 0*ZE i%65537=q3 at D4 E1 E3;generalize z4.getD i 0*ZE i%65537=q4 at D8 E2 E4;generalize ZE i=ze at D2 D4 D8;generalize(z1.getD j 0+65537-AX i)%65537=sx at D6 D7;generalize(z2.getD j 0+65537-AY i)%65537=sy at Ob Pb;generalize AX i=ax at D5 D6;generalize AY i=ay at D9 Ob;generalize MX i=mx at D7 E1 E3;generalize MY i=my at Pb E2 E4;generalize z1.getD j 0=xj at u1 D6;generalize z2.getD j 0=yj at u2 Ob;generalize z1.getD i 0=xi at v1 D5 D9;generalize z2.getD i 0=yi at v2 D5 D9;generalize z3.getD i 0=qi at v3 D4;generalize z4.getD i 0=ri at v4 D8;have V1:H7 _:=v1;clear v1;have V2:H7 _:=v2;clear v2;have V3:H7 _:=v3;clear v3;have V4:H7 _:=v4;clear v4;have U1:H7 _:=u1;clear u1;have U2:H7 _:=u2;clear u2;have G1:H7 _:=E1;clear E1;have G2:H7 _:=E2;clear E2;have G3:H7 _:=E3;clear E3;have G4:H7 _:=E4;clear E4;clear Ic Sb Tb Jc Ub Vb Qa Kc Wb Xb Ra Yb Zb Eb Fb Db Je Ke;(go_wp2_with fail);refine(D1 _).mono ?_;rintro e wz ⟨rfl,Ha⟩;have Na:=Ha.symm;clear Ha;subst Na;(go_wp2_with fail);refine(D2 _).mono ?_;rintro e wz ⟨rfl,Ha⟩;have Na:=Ha.symm;clear Ha;subst Na;(go_wp2_with fail);refine(D3 _).mono ?_;rintro e wz ⟨rfl,Ha⟩;have Na:=Ha.symm;clear Ha;subst Na;(go_wp2_with fail);refine cP wr none (by kernel_rfl) λhHeld=>?_;generalize wr.drew=Bg at *;refine tE 0 (.pointer (some ⟨w.heap.size+1,6,none⟩)) ?_;refine tk 1 (.slice (some ⟨b3,o3,none⟩) K c3) ?_ ?_
  .intro wp Ba;have c0:=(Oa.o.grown Ba (by simp)).c 6;go_simp
  refine tE 2 (it (i:Int)) ?_;refine tE 3 (.pointer (some ⟨b3,o3+i,none⟩)) ?_;refine tk 4 (it qi) ?_ ?_
  .intro wp Ba;have c0:wp.cell? ⟨b3,o3+i,none⟩=some (it qi):=Ba.cell V3.o (by simp);go_simp
  refine tE 5 (it ze) ?_;refine tE 7 (.pointer (some ⟨w.heap.size+1,4,none⟩)) ?_;refine tk 8 (.slice (some ⟨b1,o1,none⟩) K c1) ?_ ?_
  .intro wp Ba;have c0:=(Oa.o.grown Ba (by simp)).c 4;go_simp
  refine tE 9 (it (j:Int)) ?_;refine tE 10 (.pointer (some ⟨b1,o1+j,none⟩)) ?_;refine tk 11 (it xj) ?_ ?_
  .intro wp Ba;have c0:wp.cell? ⟨b1,o1+j,none⟩=some (it xj):=Ba.cell U1.o (by simp);go_simp
  refine tE 12 (tG w.heap.size) ?_;refine tk 13 (.agg (dm a b c d f k).toArray) ?_ ?_
  .intro wp Ba;have c0:=(Ja.o.grown Ba (by simp)).c 0;have c1:=(Ja.o.grown Ba (by simp)).c 1;have c2:=(Ja.o.grown Ba (by simp)).c 2;have c3:=(Ja.o.grown Ba (by simp)).c 3;have c4:=(Ja.o.grown Ba (by simp)).c 4;have c5:=(Ja.o.grown Ba (by simp)).c 5;go_simp
  refine tE 14 (.pointer (some ⟨w.heap.size+1,4,none⟩)) ?_;refine tk 15 (.slice (some ⟨b1,o1,none⟩) K c1) ?_ ?_
  .intro wp Ba;have c0:=(Oa.o.grown Ba (by simp)).c 4;go_simp
  refine tE 16 (it (i:Int)) ?_;refine tE 17 (.pointer (some ⟨b1,o1+i,none⟩)) ?_;refine tk 18 (it xi) ?_ ?_
  .intro wp Ba;have c0:wp.cell? ⟨b1,o1+i,none⟩=some (it xi):=Ba.cell V1.o (by simp);go_simp
  refine tE 19 (.pointer (some ⟨w.heap.size+1,5,none⟩)) ?_;refine tk 20 (.slice (some ⟨b2,o2,none⟩) K c2) ?_ ?_
  .intro wp Ba;have c0:=(Oa.o.grown Ba (by simp)).c 5;go_simp
  refine tE 21 (it (i:Int)) ?_;refine tE 22 (.pointer (some ⟨b2,o2+i,none⟩)) ?_;refine tk 23 (it yi) ?_ ?_
  .intro wp Ba;have c0:wp.cell? ⟨b2,o2+i,none⟩=some (it yi):=Ba.cell V2.o (by simp);go_simp
  refine tE 26 (it en) ?_;refine aT 6 λKk hK=>?_;go_simp;refine(D4 _).mono ?_;rintro e wn ⟨rfl,Ca⟩;have Da:=Ca.symm;clear Ca;subst Da;go_simp;refine hK.out _ _ (by assumption) (λhHeld1=>?_);clear hK Kk;refine aT 24 λKk hK=>?_;go_simp;refine(D5 _).mono ?_;rintro e Ah ⟨rfl,Bh⟩;go_simp;have Wa:=aH hHeld Bh;have Ei:H7 (m1 wr Ah):=⟨Wa.os,Wa.tape,Wa.output,Wa.size,λk hk=>Wa.block k hk (by simp)⟩;refine hK.out _ _ Wa (λ_=>?_);clear hK Kk Bh;refine aT 25 λKk hK=>?_;go_simp;refine(D6 _).mono ?_;rintro e wn ⟨rfl,Ca⟩;have Da:=Ca.symm;clear Ca;subst Da;go_simp;refine hK.out _ _ (by assumption) (λhHeld1=>?_);clear hK Kk;refine aT 27 λKk hK=>?_;go_simp;refine(D7 _).mono ?_;rintro e wn ⟨rfl,Ca⟩;have Da:=Ca.symm;clear Ca;subst Da;go_simp;refine hK.out _ _ (by assumption) (λhHeld1=>?_);clear hK Kk;refine tE 28 (.bool (q3 != mx)) ?_;cases hda:(q3==mx)with
  | false=>
   have Ee:(q3 != mx)=true:=(by simp[bne,hda]);rw[Ee];have Fe:H7 (oA=false):=(by show _=_;rw[Yd.o,G3.o hda];simp);clear hda;refine tE 29 (.bool true) ?_;refine sk 30 ?_;refine sk 31 ?_;refine sk 32 ?_;refine sk 33 ?_;refine sk 34 ?_;refine sk 35 ?_;refine sk 36 ?_;refine sk 37 ?_;refine sk 38 ?_;refine sk 39 ?_;refine sk 40 ?_;refine sk 41 ?_;refine sk 42 ?_;refine sk 43 ?_;refine sk 44 ?_;refine sk 45 ?_;refine sk 46 ?_;refine sk 47 ?_;refine sk 48 ?_;refine sk 49 ?_;refine sk 50 ?_;refine sk 51 ?_;refine sk 52 ?_;refine sk 53 ?_;refine sk 54 ?_;refine sk 55 ?_;refine sk 56 ?_;refine sk 57 ?_;refine sk 58 ?_;refine tE 59 (.bool true) ?_;refine bi ?_;go_simp;have Ia:=Hd (Nb.o.trans (Ei.o.mono Nb.o.size));go_wp2;go_ret;exact⟨aB Fe.o.symm,Ia.o⟩
  | true=>
  have Fi:(q3 != mx)=false:=(by simp[bne,hda]);rw[Fi];have Gi:=Hd hda;clear hda;refine tE 29 (.bool false) ?_;refine tE 30 (.pointer (some ⟨w.heap.size+1,7,none⟩)) ?_;refine tk 31 (.slice (some ⟨b4,o4,none⟩) K c4) ?_ ?_
  .intro wp Ba;have c0:=(Oa.o.grown Ba (by simp)).c 7;go_simp
  refine tE 32 (it (i:Int)) ?_;refine tE 33 (.pointer (some ⟨b4,o4+i,none⟩)) ?_;refine tk 34 (it ri) ?_ ?_
  .intro wp Ba;have c0:wp.cell? ⟨b4,o4+i,none⟩=some (it ri):=Ba.cell V4.o (by simp);go_simp
  refine tE 35 (it ze) ?_;refine tE 37 (.pointer (some ⟨w.heap.size+1,5,none⟩)) ?_;refine tk 38 (.slice (some ⟨b2,o2,none⟩) K c2) ?_ ?_
  .intro wp Ba;have c0:=(Oa.o.grown Ba (by simp)).c 5;go_simp
  refine tE 39 (it (j:Int)) ?_;refine tE 40 (.pointer (some ⟨b2,o2+j,none⟩)) ?_;refine tk 41 (it yj) ?_ ?_
  .intro wp Ba;have c0:wp.cell? ⟨b2,o2+j,none⟩=some (it yj):=Ba.cell U2.o (by simp);go_simp
  refine tE 42 (.pointer (some ⟨w.heap.size,6,none⟩)) ?_;refine tk 43 (.agg (dm a' b' c' d' f' k').toArray) ?_ ?_
  .intro wp Ba;have c0:=(Ja.o.grown Ba (by simp)).c 6;have c1:=(Ja.o.grown Ba (by simp)).c 7;have c2:=(Ja.o.grown Ba (by simp)).c 8;have c3:=(Ja.o.grown Ba (by simp)).c 9;have c4:=(Ja.o.grown Ba (by simp)).c 10;have c5:=(Ja.o.grown Ba (by simp)).c 11;go_simp
  refine tE 44 (.pointer (some ⟨w.heap.size+1,4,none⟩)) ?_;refine tk 45 (.slice (some ⟨b1,o1,none⟩) K c1) ?_ ?_
  .intro wp Ba;have c0:=(Oa.o.grown Ba (by simp)).c 4;go_simp
  refine tE 46 (it (i:Int)) ?_;refine tE 47 (.pointer (some ⟨b1,o1+i,none⟩)) ?_;refine tk 48 (it xi) ?_ ?_
  .intro wp Ba;have c0:wp.cell? ⟨b1,o1+i,none⟩=some (it xi):=Ba.cell V1.o (by simp);go_simp
  refine tE 49 (.pointer (some ⟨w.heap.size+1,5,none⟩)) ?_;refine tk 50 (.slice (some ⟨b2,o2,none⟩) K c2) ?_ ?_
  .intro wp Ba;have c0:=(Oa.o.grown Ba (by simp)).c 5;go_simp
  refine tE 51 (it (i:Int)) ?_;refine tE 52 (.pointer (some ⟨b2,o2+i,none⟩)) ?_;refine tk 53 (it yi) ?_ ?_
  .intro wp Ba;have c0:wp.cell? ⟨b2,o2+i,none⟩=some (it yi):=Ba.cell V2.o (by simp);go_simp
  refine tE 56 (it en) ?_;refine aT 36 λKk hK=>?_;go_simp;refine(D8 _).mono ?_;rintro e wn ⟨rfl,Ca⟩;have Da:=Ca.symm;clear Ca;subst Da;go_simp;refine hK.out _ _ (by assumption) (λhHeld1=>?_);clear hK Kk;refine aT 54 λKk hK=>?_;go_simp;refine(D9 _).mono ?_;rintro e Ch ⟨rfl,Dh⟩;go_simp;have Cb:=aH Wa Dh;have Eh:H7 (m1 wr Ch):=⟨Cb.os,Cb.tape,Cb.output,Cb.size,λk hk=>Cb.block k hk (by simp)⟩;refine hK.out _ _ Cb (λ_=>?_);clear hK Kk Dh;refine aT 55 λKk hK=>?_;go_simp;refine(Ob _).mono ?_;rintro e wn ⟨rfl,Ca⟩;have Da:=Ca.symm;clear Ca;subst Da;go_simp;refine hK.out _ _ (by assumption) (λhHeld1=>?_);clear hK Kk;refine aT 57 λKk hK=>?_;go_simp;refine(Pb _).mono ?_;rintro e wn ⟨rfl,Ca⟩;have Da:=Ca.symm;clear Ca;subst Da;go_simp;refine hK.out _ _ (by assumption) (λhHeld1=>?_);clear hK Kk;refine tE 58 (.bool (q4 != my)) ?_;cases hdb:(q4==my)with
  | false=>
   have Ee:(q4 != my)=true:=(by simp[bne,hdb]);rw[Ee];have Fe:H7 (oA=false):=(by show _=_;rw[Yd.o,G4.o hdb];simp);clear hdb;refine tE 59 (.bool true) ?_;refine bi ?_;go_simp;have Ia:=Hd (Nb.o.trans (Eh.o.mono Nb.o.size));go_wp2;go_ret;exact⟨aB Fe.o.symm,Ia.o⟩
  | true=>
  have Hi:(q4 != my)=false:=(by simp[bne,hdb]);rw[Hi];have Ii:=Hd hdb;clear hdb;refine tE 59 (.bool false) ?_;refine bi ?_;go_simp;have Ia:=Hd (Yg.o.trans (Eh.o.mono Yg.o.size));have Ji:=Hd (G1.o Wg.o Gi.o);have Ki:=Hd (G2.o Xg.o Ii.o);go_wp2;go_roundw
  case rel=>exact⟨i+1,by omega,by go_num,Ia.o,Ji.o,Ki.o⟩
  case measure=>simp[intOf];omega
theorem jY(m:M.Mc)(s1 s2 e1 e2:Int)(w:World)(h1:aC w a1 n1 c1 z1)(h2:aC w a2 n2 c2 z2)(h3:aC w a3 n3 c3 z3)(h4:aC w a4 n4 c4 z4)(l1:n1<=1048576)(l2:n2<=1048576)(l3:n3<=1048576)(l4:n4<=1048576):
  Rt 59 #[dp m,.agg #[it s1,it s2,it e1,it e2,.slice a1 n1 c1,.slice a2 n2 c2,.slice a3 n3 c3,.slice a4 n4 c4]] w (.bool (M.acc m (⟨(s1,s2),(e1,e2),z1,z2,z3,z4⟩:M.Pf))):=by
 cases hm:m.ok with
 | false=>rw[sU hm];exact fZ m s1 s2 e1 e2 w h1 h2 h3 h4 l1 l2 l3 l4 (.inl hm)
 | true=>
  by_cases hr:(⟨(s1,s2),(e1,e2),z1,z2,z3,z4⟩:M.Pf).rows=0
  .rw[sV hr];exact fZ m s1 s2 e1 e2 w h1 h2 h3 h4 l1 l2 l3 l4 (.inr ⟨hm,hr⟩)
  ·
   rw[oG hm hr];obtain⟨hN,hf⟩:=M.rows_some hr;generalize hR:(⟨(s1,s2),(e1,e2),z1,z2,z3,z4⟩:M.Pf).rows=R at *;obtain⟨⟨q1,r1⟩,⟨q2,r2⟩,⟨q3,r3⟩,⟨q4,r4⟩,_,_⟩:=(M.form_iff _ _).1 hf;dsimp only at q1 q2 q3 q4 r1 r2 r3 r4;have u1:=h1.len.symm.trans q1;have u2:=h2.len.symm.trans q2;have u3:=h3.len.symm.trans q3;have u4:=h4.len.symm.trans q4;subst u1 u2 u3 u4;exact kB m s1 s2 e1 e2 R w hN hm hR h1 h2 h3 h4 r1 r2 r3 r4
end Go.Proofs.YtbjalickbnpnkaaGreatDoor
