import Derived.Test.YtfhknkppiidnkaaGreatPk00
import Derived.Test.YtfhknkppiidnkaaGreatPk01
import Derived.Test.YtfhknkppiidnkaaGreatPk03
import Derived.Test.YtfhknkppiidnkaaGreatPk16
import Derived.Test.YtfhknkppiidnkaaGreatPk08
import Derived.Test.YtfhknkppiidnkaaGreatPk02
namespace Go.Proofs.YtfhknkppiidnkaaGreat
open Go.RowKit
set_option maxHeartbeats 32000000
set_option maxRecDepth 10000
theorem M.qOk_succ (r:M.Rl) (X Y F Q:List Int) (n k:Nat):M.qOk r X Y F Q n (k+1)=(M.qOk r X Y F Q n k && (Q.getD k 0*M.zer n k % 65537 == M.mis r X Y F n k)):=by
 unfold M.qOk;rw [List.range_succ,List.all_append];simp
theorem M.qOk_no {r:M.Rl} {X Y F Q:List Int} {n k t:Nat} (hk:k<t) (h:(Q.getD k 0*M.zer n k % 65537 == M.mis r X Y F n k)=false):M.qOk r X Y F Q n t=false:=by
 cases e:M.qOk r X Y F Q n t with
 | false=>rfl
 | true =>
  unfold M.qOk at e;have:=List.all_eq_true.1 e k (List.mem_range.2 hk);rw [h] at this;cases this
theorem specAccepted_out {a1 a2 a3 a4:Option Addr} {n1 n2 n3 n4 c1 c2 c3 c4:Nat} {z1 z2 z3 z4:List Int} (m:M.Mc) (s1 s2 e1 e2:Int) (w:World) (h1:Sees w a1 n1 c1 z1) (h2:Sees w a2 n2 c2 z2) (h3:Sees w a3 n3 c3 z3) (h4:Sees w a4 n4 c4 z4) (l1:n1≤1048576) (l2:n2≤1048576) (l3:n3≤1048576) (l4:n4≤1048576) (hno:m.ok=false∨(m.ok=true∧(⟨(s1,s2),(e1,e2),z1,z2,z3,z4⟩:M.Pf).rows=0)) :
  Calls Tryz.prog 102 #[mcv m,.agg #[.int .i64 s1,.int .i64 s2,.int .i64 e1,.int .i64 e2,.slice a1 n1 c1,.slice a2 n2 c2,.slice a3 n3 c3,.slice a4 n4 c4]] w fun e w'=>e=.returned (.bool false)∧Below w.heap.size w w':=by
 have CR:∀ W,Sees W a1 n1 c1 z1→Sees W a2 n2 c2 z2→Sees W a3 n3 c3 z3→Sees W a4 n4 c4 z4→Calls Tryz.prog 101 #[.agg #[.int .i64 s1,.int .i64 s2,.int .i64 e1,.int .i64 e2,.slice a1 n1 c1,.slice a2 n2 c2,.slice a3 n3 c3,.slice a4 n4 c4]] W fun e w'=>e=.returned (.int .i64 ((⟨(s1,s2),(e1,e2),z1,z2,z3,z4⟩:M.Pf).rows:Nat))∧Below W.heap.size W w':=fun W g1 g2 g3 g4=>specRowsOf_any s1 s2 e1 e2 W g1 g2 g3 g4 l1 l2 l3 l4;have CM:=specMachineOk_any m
 have Ka:(⟨(s1,s2),(e1,e2),z1,z2,z3,z4⟩:M.Pf).rows≤16:=by
  by_cases h:(⟨(s1,s2),(e1,e2),z1,z2,z3,z4⟩:M.Pf).rows=0
  · omega
  · exact (M.rowsN_pos (M.rows_some h).1).2
 generalize (⟨(s1,s2),(e1,e2),z1,z2,z3,z4⟩:M.Pf).rows=R at CR hno Ka;generalize m.ok=om at CM hno;obtain ⟨⟨a,b,c,d,f,k⟩,⟨a',b',c',d',f',k'⟩⟩:=m;dsimp only [mcv] at CM ⊢;have Ba:Below w.heap.size w ((w.alloc (.cells (v1' a b c d f k a' b' c' d' f' k').toArray 41)).alloc (.cells (v3' s1 s2 e1 e2 a1 n1 c1 a2 n2 c2 a3 n3 c3 a4 n4 c4).toArray 90)):=((Below.refl _ _).alloc (Nat.le_refl _) _).alloc (by simp) _;have Ea:H9 (Lies ((w.alloc (.cells (v1' a b c d f k a' b' c' d' f' k').toArray 41)).alloc (.cells (v3' s1 s2 e1 e2 a1 n1 c1 a2 n2 c2 a3 n3 c3 a4 n4 c4).toArray 90)) w.heap.size (v1' a b c d f k a' b' c' d' f' k')):=(lies_new _ _ _).alloc _;have Ca:H9 (Below w.heap.size w ((w.alloc (.cells (v1' a b c d f k a' b' c' d' f' k').toArray 41)).alloc (.cells (v3' s1 s2 e1 e2 a1 n1 c1 a2 n2 c2 a3 n3 c3 a4 n4 c4).toArray 90))):=Ba;have Fa:H9 (Sees ((w.alloc (.cells (v1' a b c d f k a' b' c' d' f' k').toArray 41)).alloc (.cells (v3' s1 s2 e1 e2 a1 n1 c1 a2 n2 c2 a3 n3 c3 a4 n4 c4).toArray 90)) a1 n1 c1 z1):=h1.below Ba;have Ga:H9 (Sees ((w.alloc (.cells (v1' a b c d f k a' b' c' d' f' k').toArray 41)).alloc (.cells (v3' s1 s2 e1 e2 a1 n1 c1 a2 n2 c2 a3 n3 c3 a4 n4 c4).toArray 90)) a2 n2 c2 z2):=h2.below Ba;have Ha:H9 (Sees ((w.alloc (.cells (v1' a b c d f k a' b' c' d' f' k').toArray 41)).alloc (.cells (v3' s1 s2 e1 e2 a1 n1 c1 a2 n2 c2 a3 n3 c3 a4 n4 c4).toArray 90)) a3 n3 c3 z3):=h3.below Ba;have Ia:H9 (Sees ((w.alloc (.cells (v1' a b c d f k a' b' c' d' f' k').toArray 41)).alloc (.cells (v3' s1 s2 e1 e2 a1 n1 c1 a2 n2 c2 a3 n3 c3 a4 n4 c4).toArray 90)) a4 n4 c4 z4):=h4.below Ba;clear Ba h1 h2 h3 h4;go_enter Tryz.func102,Tryz.ntmps102;(go_wp2_with fail);refine (CR _ Fa.o Ga.o Ha.o Ia.o).mono ?_;rintro e w1 ⟨rfl,hb⟩;have Aa:=Hd (Ea.o.belowS hb);have Da:=Hd (Ca.o.trans (hb.mono Ca.o.size));clear Ea Ca Fa Ga Ha Ia;clear hb;have m0:=Aa.o.c 0 rfl;have m1:=Aa.o.c 1 rfl;have m2:=Aa.o.c 2 rfl;have m3:=Aa.o.c 3 rfl;have m4:=Aa.o.c 4 rfl;have m5:=Aa.o.c 5 rfl;have m6:=Aa.o.c 6 rfl;have m7:=Aa.o.c 7 rfl;have m8:=Aa.o.c 8 rfl;have m9:=Aa.o.c 9 rfl;have La:=Aa.o.c 10 rfl;have Na:=Aa.o.c 11 rfl;(go_wp2_with fail);refine (CM _).mono ?_;rintro e w2 ⟨rfl,hb⟩;have Ja:=Hd (Da.o.trans (hb.mono Da.o.size));clear Aa Da;clear hb;clear m0 m1 m2 m3 m4 m5 m6 m7 m8 m9 La Na
 rcases hno with rfl | ⟨rfl,rfl⟩
 ·
  go_wp2;go_ret;exact ⟨rfl,Ja.o⟩
 ·
  go_wp2;go_ret;exact ⟨rfl,Ja.o⟩
theorem specAccepted_in {a1 a2 a3 a4:Option Addr} {c1 c2 c3 c4:Nat} {z1 z2 z3 z4:List Int} (m:M.Mc) (s1 s2 e1 e2:Int) (N:Nat) (w:World) (h:M.rowsN N=true) (hm:m.ok=true) (hr:(⟨(s1,s2),(e1,e2),z1,z2,z3,z4⟩:M.Pf).rows=N) (h1:Sees w a1 (4*N) c1 z1) (h2:Sees w a2 (4*N) c2 z2) (h3:Sees w a3 (4*N) c3 z3) (h4:Sees w a4 (4*N) c4 z4) (ha1:M.allEl z1=true) (ha2:M.allEl z2=true) (ha3:M.allEl z3=true) (ha4:M.allEl z4=true) :
  Calls Tryz.prog 102 #[mcv m,.agg #[.int .i64 s1,.int .i64 s2,.int .i64 e1,.int .i64 e2,.slice a1 (4*N) c1,.slice a2 (4*N) c2,.slice a3 (4*N) c3,.slice a4 (4*N) c4]] w fun e w'=>e=.returned (.bool (M.accN m (⟨(s1,s2),(e1,e2),z1,z2,z3,z4⟩:M.Pf) N))∧Below w.heap.size w w':=by
 have Fh:=M.rowsN_pos h;obtain ⟨K,hK⟩:∃ K:Nat,K=4*N:=⟨_,rfl⟩;have Li:4*(N:Int)=(K:Int):=(by omega);have Ni:K≤64:=(by omega);have Gh:0<K:=(by omega);have hg:=(M.el_iff _).1 (M.root_el (M.two64_two (M.rowsN_two h)));have hl:=(M.el_iff _).1 (M.el_lst N);obtain ⟨Xe,Ye⟩:m.X.ok=true∧m.Y.ok=true:=by have:=hm;unfold M.Mc.ok at this;exact (Bool.and_eq_true _ _).mp this
 have CR:∀ W,Sees W a1 (4*N) c1 z1→Sees W a2 (4*N) c2 z2→Sees W a3 (4*N) c3 z3→Sees W a4 (4*N) c4 z4→Calls Tryz.prog 101 #[.agg #[.int .i64 s1,.int .i64 s2,.int .i64 e1,.int .i64 e2,.slice a1 (4*N) c1,.slice a2 (4*N) c2,.slice a3 (4*N) c3,.slice a4 (4*N) c4]] W fun e w'=>e=.returned (.int .i64 (N:Nat))∧Below W.heap.size W w':=fun W g1 g2 g3 g4=>by
  have:=specRowsOf_any s1 s2 e1 e2 W g1 g2 g3 g4 (by omega) (by omega) (by omega) (by omega);rw [hr] at this;exact this
 have CM:∀ W,Calls Tryz.prog 53 #[mcv m] W fun e w'=>e=.returned (.bool true)∧Below W.heap.size W w':=fun W=>by rw [← hm];exact specMachineOk_any m W
 have CF:∀ {a:Option Addr} {c:Nat} {z:List Int} (W:World),M.allEl z=true→Sees W a (4*N) c z→Calls Tryz.prog 78 #[.slice a (4*N) c,.int .i64 3] W fun e w'=>∃ a' l c',e=.returned (.slice a' l c')∧Owns 2 w' W.heap.size a' l c' (M.frs z 3)∧Below W.heap.size W w':=fun W hz hW=>l3From_any 3 W hW hz (M.rowsN_pt h);have Rc:=specRoot_any (N:Int)
 have Ub:∀ W,Calls Tryz.prog 109 #[.int .i64 (M.root N),.int .i64 ((N:Int)-1)] W fun e w'=>e=.returned (.int .i64 (M.lst N))∧w'=W:=fun W=>by
  have:=specPow_in (M.root N) (N-1) W hg.1 hg.2 (by omega);rw [show ((N-1:Nat):Int)=(N:Int)-1 by omega] at this;exact this
 have Vb:∀ W,Calls Tryz.prog 116 #[.int .i64 ((4*N:Nat):Int),.int .i64 3] W fun e w'=>∃ a' c',e=.returned (.slice a' (4*N) c')∧Owns 2 w' W.heap.size a' (4*N) c' (M.gp 3 (M.root ((4*N:Nat):Int)) (4*N))∧Below W.heap.size W w':=fun W=>l3Points_any (4*N) 3 W (M.rowsN_pt h)
 have Fb:H9 (∀ i,i<4*N→(M.gp 3 (M.root ((4*N:Nat):Int)) (4*N)).getD i 0=M.zp N i):=fun i hi=>by
  have:=M.zp_gp (N:=N) hi;rw [show ((4*N:Nat):Int)=4*(N:Int) by omega];exact this
 have Sc:H9 (∀ (i:Nat) (W:World),Calls Tryz.prog 109 #[.int .i64 (M.zp N i),.int .i64 (N:Int)] W fun e w'=>e=.returned (.int .i64 (M.pw (M.zp N i) N))∧w'=W):=fun i W=>specPow_in _ N W (M.zp_bd N i).1 (M.zp_bd N i).2 (by omega)
 have Wb:H9 (∀ (i:Nat) (W:World),Calls Tryz.prog 115 #[.int .i64 (M.pw (M.zp N i) N),.int .i64 1] W fun e w'=>e=.returned (.int .i64 (M.zer N i))∧w'=W):=fun i W=>by
  have:=specSub_any (M.pw (M.zp N i) N) 1 W;rw [M.sub_in (M.el_pw _ _) (by decide)] at this;exact this
 have Xb:H9 (∀ (i:Nat) (W:World),Calls Tryz.prog 115 #[.int .i64 (M.zp N i),.int .i64 (M.lst N)] W fun e w'=>e=.returned (.int .i64 ((M.zp N i+65537-M.lst N) % 65537))∧w'=W):=fun i W=>by
  have:=specSub_any (M.zp N i) (M.lst N) W;rw [M.sub_in (M.el_zp _ _) (M.el_lst _)] at this;exact this
 have Tc:H9 (∀ (i:Nat) (W:World),Calls Tryz.prog 131 #[.int .i64 (z3.getD i 0),.int .i64 (M.zer N i)] W fun e w'=>e=.returned (.int .i64 ((z3.getD i 0)*M.zer N i % 65537))∧w'=W):=fun i W=>by
  have:=specMul_any (z3.getD i 0) (M.zer N i) W;rw [M.mul_in ((M.el_iff _).2 (M.el_at ha3 i)) ((M.el_iff _).2 (M.zer_bd N i))] at this;exact this
 have Yb:H9 (∀ (i:Nat) (W:World),Calls Tryz.prog 132 #[rlv m.X,.int .i64 (z1.getD i 0),.int .i64 (z2.getD i 0)] W fun e w'=>e=.returned (.int .i64 (m.X.app (z1.getD i 0) (z2.getD i 0)))∧Below W.heap.size W w'):=fun i W=>apply_in m.X ((z1.getD i 0),(z2.getD i 0)) Xe ((M.sOk_iff _).2 ⟨M.el_at ha1 i,M.el_at ha2 i⟩) (Below.refl _ _) (Nat.le_refl _)
 have Zb:H9 (∀ (i:Nat) (W:World),Calls Tryz.prog 115 #[.int .i64 (z1.getD ((i+4) % (4*N)) 0),.int .i64 (m.X.app (z1.getD i 0) (z2.getD i 0))] W fun e w'=>e=.returned (.int .i64 (((z1.getD ((i+4) % (4*N)) 0)+65537-m.X.app (z1.getD i 0) (z2.getD i 0)) % 65537))∧w'=W):=fun i W=>by
  have:=specSub_any (z1.getD ((i+4) % (4*N)) 0) (m.X.app (z1.getD i 0) (z2.getD i 0)) W;rw [M.sub_in ((M.el_iff _).2 (M.el_at ha1 _)) (M.el_app _ _ _)] at this;exact this
 have Qa:H9 (∀ (i:Nat) (W:World),Calls Tryz.prog 131 #[.int .i64 (((z1.getD ((i+4) % (4*N)) 0)+65537-m.X.app (z1.getD i 0) (z2.getD i 0)) % 65537),.int .i64 ((M.zp N i+65537-M.lst N) % 65537)] W fun e w'=>e=.returned (.int .i64 (M.mis m.X z1 z2 z1 N i))∧w'=W):=fun i W=>by
  have:=specMul_any (((z1.getD ((i+4) % (4*N)) 0)+65537-m.X.app (z1.getD i 0) (z2.getD i 0)) % 65537) ((M.zp N i+65537-M.lst N) % 65537) W;rw [M.mul_in ((M.el_iff _).2 ⟨by omega,by omega⟩) ((M.el_iff _).2 ⟨by omega,by omega⟩)] at this;exact this
 have Uc:H9 (∀ (i:Nat) (W:World),Calls Tryz.prog 131 #[.int .i64 (z4.getD i 0),.int .i64 (M.zer N i)] W fun e w'=>e=.returned (.int .i64 ((z4.getD i 0)*M.zer N i % 65537))∧w'=W):=fun i W=>by
  have:=specMul_any (z4.getD i 0) (M.zer N i) W;rw [M.mul_in ((M.el_iff _).2 (M.el_at ha4 i)) ((M.el_iff _).2 (M.zer_bd N i))] at this;exact this
 have Ac:H9 (∀ (i:Nat) (W:World),Calls Tryz.prog 132 #[rlv m.Y,.int .i64 (z1.getD i 0),.int .i64 (z2.getD i 0)] W fun e w'=>e=.returned (.int .i64 (m.Y.app (z1.getD i 0) (z2.getD i 0)))∧Below W.heap.size W w'):=fun i W=>apply_in m.Y ((z1.getD i 0),(z2.getD i 0)) Ye ((M.sOk_iff _).2 ⟨M.el_at ha1 i,M.el_at ha2 i⟩) (Below.refl _ _) (Nat.le_refl _)
 have Bc:H9 (∀ (i:Nat) (W:World),Calls Tryz.prog 115 #[.int .i64 (z2.getD ((i+4) % (4*N)) 0),.int .i64 (m.Y.app (z1.getD i 0) (z2.getD i 0))] W fun e w'=>e=.returned (.int .i64 (((z2.getD ((i+4) % (4*N)) 0)+65537-m.Y.app (z1.getD i 0) (z2.getD i 0)) % 65537))∧w'=W):=fun i W=>by
  have:=specSub_any (z2.getD ((i+4) % (4*N)) 0) (m.Y.app (z1.getD i 0) (z2.getD i 0)) W;rw [M.sub_in ((M.el_iff _).2 (M.el_at ha2 _)) (M.el_app _ _ _)] at this;exact this
 have Ra:H9 (∀ (i:Nat) (W:World),Calls Tryz.prog 131 #[.int .i64 (((z2.getD ((i+4) % (4*N)) 0)+65537-m.Y.app (z1.getD i 0) (z2.getD i 0)) % 65537),.int .i64 ((M.zp N i+65537-M.lst N) % 65537)] W fun e w'=>e=.returned (.int .i64 (M.mis m.Y z1 z2 z2 N i))∧w'=W):=fun i W=>by
  have:=specMul_any (((z2.getD ((i+4) % (4*N)) 0)+65537-m.Y.app (z1.getD i 0) (z2.getD i 0)) % 65537) ((M.zp N i+65537-M.lst N) % 65537) W;rw [M.mul_in ((M.el_iff _).2 ⟨by omega,by omega⟩) ((M.el_iff _).2 ⟨by omega,by omega⟩)] at this;exact this
 have Vc:∀ {a:Option Addr} {n c:Nat} {z:List Int} (W:World),M.allEl z=true→Sees W a n c z→Calls Tryz.prog 117 #[.slice a n c,.int .i64 1] W fun e w'=>e=.returned (.int .i64 (M.ev z 1))∧w'=W:=fun W hz hW=>l2At_any 1 W hW hz (by omega) (by omega);have Wc:∀ {a:Option Addr} {n c:Nat} {z:List Int} (W:World),M.allEl z=true→Sees W a n c z→Calls Tryz.prog 117 #[.slice a n c,.int .i64 (M.lst N)] W fun e w'=>e=.returned (.int .i64 (M.ev z (M.lst N)))∧w'=W:=fun W hz hW=>l2At_any _ W hW hz hl.1 hl.2;have Ze:M.accN m (⟨(s1,s2),(e1,e2),z1,z2,z3,z4⟩:M.Pf) N=((decide ((M.frs z1 3).length≤N) && (decide ((M.frs z2 3).length≤N) && (decide ((M.frs z3 3).length≤N) && decide ((M.frs z4 3).length≤N)))) && (((decide (M.ev (M.frs z1 3) 1=s1) && decide (M.ev (M.frs z2 3) 1=s2)) && (decide (M.ev (M.frs z1 3) (M.lst N)=e1) && decide (M.ev (M.frs z2 3) (M.lst N)=e2))) && (M.qOk m.X z1 z2 z1 z3 N (4*N) && M.qOk m.Y z1 z2 z2 z4 N (4*N)))):=rfl;rw [Ze];clear Ze;have Cc:=fun W=>@CF a1 c1 z1 W ha1;have Dc:=fun W=>@CF a2 c2 z2 W ha2;have Ec:=fun W=>@CF a3 c3 z3 W ha3;have Fc:=fun W=>@CF a4 c4 z4 W ha4;have Xc:H9 (M.qOk m.X z1 z2 z1 z3 N 0=true):=rfl;have Yc:H9 (M.qOk m.Y z1 z2 z2 z4 N 0=true):=rfl;have Gb:H9 (∀ k,M.qOk m.X z1 z2 z1 z3 N k=true→(z3.getD k 0*M.zer N k % 65537 == M.mis m.X z1 z2 z1 N k)=true→M.qOk m.X z1 z2 z1 z3 N (k+1)=true):=fun k p q=>by rw [M.qOk_succ,p,q];rfl
 have Hb:H9 (∀ k,M.qOk m.Y z1 z2 z2 z4 N k=true→(z4.getD k 0*M.zer N k % 65537 == M.mis m.Y z1 z2 z2 N k)=true→M.qOk m.Y z1 z2 z2 z4 N (k+1)=true):=fun k p q=>by rw [M.qOk_succ,p,q];rfl
 have Za:H9 (∀ k,k<4*N→(z3.getD k 0*M.zer N k % 65537 == M.mis m.X z1 z2 z1 N k)=false→M.qOk m.X z1 z2 z1 z3 N (4*N)=false):=fun k p q=>M.qOk_no p q;have Ab:H9 (∀ k,k<4*N→(z4.getD k 0*M.zer N k % 65537 == M.mis m.Y z1 z2 z2 N k)=false→M.qOk m.Y z1 z2 z2 z4 N (4*N)=false):=fun k p q=>M.qOk_no p q;simp only [← hK] at CR Cc Dc Ec Fc Vb Fb Zb Bc Qa Ra Za Ab h1 h2 h3 h4 ⊢;have Gc:=fun {a n c} W=>@Vc a n c (M.frs z1 3) W (M.frs_all _ _);have Hc:=fun {a n c} W=>@Vc a n c (M.frs z2 3) W (M.frs_all _ _);have Ib:=fun {a n c} W=>@Wc a n c (M.frs z1 3) W (M.frs_all _ _);have Jb:=fun {a n c} W=>@Wc a n c (M.frs z2 3) W (M.frs_all _ _);generalize M.ev (M.frs z1 3) 1=x1 at Gc ⊢;generalize M.ev (M.frs z2 3) 1=y1 at Hc ⊢;generalize M.ev (M.frs z1 3) (M.lst N)=x2 at Ib ⊢;generalize M.ev (M.frs z2 3) (M.lst N)=y2 at Jb ⊢;generalize M.frs z1 3=F1 at Cc Gc Ib ⊢;generalize M.frs z2 3=F2 at Dc Hc Jb ⊢;generalize M.frs z3 3=F3 at Ec ⊢;generalize M.frs z4 3=F4 at Fc ⊢;generalize M.gp 3 (M.root (K:Int)) K=GP at Vb Fb;generalize M.root (N:Int)=R1 at Rc Ub;generalize Hh:M.qOk m.X z1 z2 z1 z3 N=QX at Xc Gb Za ⊢;generalize Ih:M.qOk m.Y z1 z2 z2 z4 N=QY at Yc Hb Ab ⊢;generalize Jh:M.mis m.X z1 z2 z1 N=MX at Gb Za Qa;generalize Kh:M.mis m.Y z1 z2 z2 N=MY at Hb Ab Ra;generalize Lh:M.zer N=ZE at Gb Za Hb Ab Wb Tc Uc;generalize Nh:M.zp N=ZP at Fb Sc Wb Xb Qa Ra;generalize M.lst N=la at Ub Xb Ib Jb Qa Ra;generalize Af:(fun i=>m.X.app (z1.getD i 0) (z2.getD i 0))=AX;generalize Bf:(fun i=>m.Y.app (z1.getD i 0) (z2.getD i 0))=AY;have hAX':∀ i,m.X.app (z1.getD i 0) (z2.getD i 0)=AX i:=fun i=>congrFun Af i;have hAY':∀ i,m.Y.app (z1.getD i 0) (z2.getD i 0)=AY i:=fun i=>congrFun Bf i;simp only [hAX'] at Yb Zb Qa;simp only [hAY'] at Ac Bc Ra;obtain ⟨oA,Zc⟩:∃ o,o=((decide (F1.length≤N) && (decide (F2.length≤N) && (decide (F3.length≤N) && decide (F4.length≤N)))) && (((decide (x1=s1) && decide (y1=s2)) && (decide (x2=e1) && decide (y2=e2))) && (QX K && QY K))):=⟨_,rfl⟩;rw [← Zc];have Bb:=Hd (Zc);clear Zc;have Oi:((N:Int) == 0)=false:=(by simp;omega);have Pi:(N:Int)≤16:=(by omega);have Qi:(2:Int)≤(N:Int):=(by omega);clear Hh Ih Jh Kh Lh Nh Af Bf hAX' hAY' Vc Wc CF hg hl Xe Ye hm hr h ha1 ha2 ha3 ha4 Fh;clear hK;obtain ⟨⟨a,b,c,d,f,k⟩,⟨a',b',c',d',f',k'⟩⟩:=m;dsimp only [mcv,rlv] at CM Yb Ac ⊢;have Cb:Below w.heap.size w ((w.alloc (.cells (v1' a b c d f k a' b' c' d' f' k').toArray 41)).alloc (.cells (v3' s1 s2 e1 e2 a1 K c1 a2 K c2 a3 K c3 a4 K c4).toArray 90)):=((Below.refl _ _).alloc (Nat.le_refl _) _).alloc (by simp) _;have Cf:H9 (Lies ((w.alloc (.cells (v1' a b c d f k a' b' c' d' f' k').toArray 41)).alloc (.cells (v3' s1 s2 e1 e2 a1 K c1 a2 K c2 a3 K c3 a4 K c4).toArray 90)) w.heap.size (v1' a b c d f k a' b' c' d' f' k')):=(lies_new _ _ _).alloc _;have Df:H9 (Lies ((w.alloc (.cells (v1' a b c d f k a' b' c' d' f' k').toArray 41)).alloc (.cells (v3' s1 s2 e1 e2 a1 K c1 a2 K c2 a3 K c3 a4 K c4).toArray 90)) (w.heap.size+1) (v3' s1 s2 e1 e2 a1 K c1 a2 K c2 a3 K c3 a4 K c4)):=lies_new2 _ _ _ _;have Ad:H9 (Below w.heap.size w ((w.alloc (.cells (v1' a b c d f k a' b' c' d' f' k').toArray 41)).alloc (.cells (v3' s1 s2 e1 e2 a1 K c1 a2 K c2 a3 K c3 a4 K c4).toArray 90))):=Cb;have Bd:H9 (Sees ((w.alloc (.cells (v1' a b c d f k a' b' c' d' f' k').toArray 41)).alloc (.cells (v3' s1 s2 e1 e2 a1 K c1 a2 K c2 a3 K c3 a4 K c4).toArray 90)) a1 K c1 z1):=h1.below Cb;have Cd:H9 (Sees ((w.alloc (.cells (v1' a b c d f k a' b' c' d' f' k').toArray 41)).alloc (.cells (v3' s1 s2 e1 e2 a1 K c1 a2 K c2 a3 K c3 a4 K c4).toArray 90)) a2 K c2 z2):=h2.below Cb;have Dd:H9 (Sees ((w.alloc (.cells (v1' a b c d f k a' b' c' d' f' k').toArray 41)).alloc (.cells (v3' s1 s2 e1 e2 a1 K c1 a2 K c2 a3 K c3 a4 K c4).toArray 90)) a3 K c3 z3):=h3.below Cb;have Ed:H9 (Sees ((w.alloc (.cells (v1' a b c d f k a' b' c' d' f' k').toArray 41)).alloc (.cells (v3' s1 s2 e1 e2 a1 K c1 a2 K c2 a3 K c3 a4 K c4).toArray 90)) a4 K c4 z4):=h4.below Cb;clear Cb h1 h2 h3 h4;go_enter Tryz.func102,Tryz.ntmps102;(go_wp2_with fail);refine (CR _ Bd.o Cd.o Dd.o Ed.o).mono ?_;rintro e w1 ⟨rfl,hb⟩;have Ga:=Hd (Cf.o.belowS hb);have Ef:=Hd (Df.o.belowS hb);have Fd:=Hd (Ad.o.trans (hb.mono Ad.o.size));have Ff:=Hd (Bd.o.below hb);have Gf:=Hd (Cd.o.below hb);have Hf:=Hd (Dd.o.below hb);have If:=Hd (Ed.o.below hb);clear Cf Df Ad Bd Cd Dd Ed;clear hb;have m0:=Ga.o.c 0 rfl;have m1:=Ga.o.c 1 rfl;have m2:=Ga.o.c 2 rfl;have m3:=Ga.o.c 3 rfl;have m4:=Ga.o.c 4 rfl;have m5:=Ga.o.c 5 rfl;have m6:=Ga.o.c 6 rfl;have m7:=Ga.o.c 7 rfl;have m8:=Ga.o.c 8 rfl;have m9:=Ga.o.c 9 rfl;have Oh:=Ga.o.c 10 rfl;have Ph:=Ga.o.c 11 rfl;(go_wp2_with fail);refine (CM _).mono ?_;rintro e w2 ⟨rfl,hb⟩;have Jf:=Hd (Ga.o.belowS hb);have Gd:=Hd (Ef.o.belowS hb);have Id:=Hd (Fd.o.trans (hb.mono Fd.o.size));have Jd:=Hd (Ff.o.below hb);have Kf:=Hd (Gf.o.below hb);have Lf:=Hd (Hf.o.below hb);have Nf:=Hd (If.o.below hb);clear Ga Ef Fd Ff Gf Hf If;clear hb;clear m0 m1 m2 m3 m4 m5 m6 m7 m8 m9 Oh Ph CR CM;have p4:=Gd.o.c 4 rfl;(go_wp2_with fail);refine (Cc _ Jd.o).mono ?_;rintro e w3 ⟨Kd,Sa,Ld,rfl,ho,hb⟩;have Of:=Hd (Jf.o.belowS hb);have Nd:=Hd (Gd.o.belowS hb);have Od:=Hd (Id.o.trans (hb.mono Id.o.size));have Qf:=Hd (Jd.o.below hb);have Pd:=Hd (Kf.o.below hb);have Rf:=Hd (Lf.o.below hb);have Sf:=Hd (Nf.o.below hb);clear Jf Gd Id Jd Kf Lf Nf;have Tf:H9 (Sees w3 Kd Sa Ld F1):=ho.sees;clear hb;clear p4 ho Cc;have p5:=Nd.o.c 5 rfl;(go_wp2_with fail);refine (Dc _ Pd.o).mono ?_;rintro e w4 ⟨Qd,Ta,Rd,rfl,ho,hb⟩;have Uf:=Hd (Of.o.belowS hb);have Sd:=Hd (Nd.o.belowS hb);have Td:=Hd (Od.o.trans (hb.mono Od.o.size));have Vf:=Hd (Qf.o.below hb);have Wf:=Hd (Pd.o.below hb);have Ud:=Hd (Rf.o.below hb);have Xf:=Hd (Sf.o.below hb);have Yf:=Hd (Tf.o.below hb);clear Of Nd Od Qf Pd Rf Sf Tf;have Zf:H9 (Sees w4 Qd Ta Rd F2):=ho.sees;clear hb;clear p5 ho Dc;have p6:=Sd.o.c 6 rfl;(go_wp2_with fail);refine (Ec _ Ud.o).mono ?_;rintro e w5 ⟨Qh,Kb,Rh,rfl,ho,hb⟩;have Ag:=Hd (Uf.o.belowS hb);have Vd:=Hd (Sd.o.belowS hb);have Wd:=Hd (Td.o.trans (hb.mono Td.o.size));have Bg:=Hd (Vf.o.below hb);have Cg:=Hd (Wf.o.below hb);have Dg:=Hd (Ud.o.below hb);have Xd:=Hd (Xf.o.below hb);have Eg:=Hd (Yf.o.below hb);have Fg:=Hd (Zf.o.below hb);clear Uf Sd Td Vf Wf Ud Xf Yf Zf;have Gg:H9 (Sees w5 Qh Kb Rh F3):=ho.sees;clear hb;clear p6 ho Ec;have p7:=Vd.o.c 7 rfl;(go_wp2_with fail);refine (Fc _ Xd.o).mono ?_;rintro e w6 ⟨Sh,Lb,Th,rfl,ho,hb⟩;have Yd:=Hd (Ag.o.belowS hb);have Ka:=Hd (Vd.o.belowS hb);have Ea:=Hd (Wd.o.trans (hb.mono Wd.o.size));have Zd:=Hd (Bg.o.below hb);have Ae:=Hd (Cg.o.below hb);have Be:=Hd (Dg.o.below hb);have Ce:=Hd (Xd.o.below hb);have Ua:=Hd (Eg.o.below hb);have Va:=Hd (Fg.o.below hb);have Ic:=Hd (Gg.o.below hb);clear Ag Vd Wd Bg Cg Dg Xd Eg Fg Gg;have Jc:H9 (Sees w6 Sh Lb Th F4):=ho.sees;clear hb;clear p7 ho Fc;have De:H9 (F1.length=Sa):=Ua.o.len;have Uh:(Sa:Int)≤9223372036854775807:=(by have:=Ua.o.big;have:=Ua.o.le;omega);have Ee:H9 (F2.length=Ta):=Va.o.len;have Vh:(Ta:Int)≤9223372036854775807:=(by have:=Va.o.big;have:=Va.o.le;omega);have Fe:H9 (F3.length=Kb):=Ic.o.len;have Wh:(Kb:Int)≤9223372036854775807:=(by have:=Ic.o.big;have:=Ic.o.le;omega);have Ge:H9 (F4.length=Lb):=Jc.o.len;have Xh:(Lb:Int)≤9223372036854775807:=(by have:=Jc.o.big;have:=Jc.o.le;omega);have Nb:H9 (¬ Sa≤N→oA=false):=fun h=>by show _=_;rw [Bb.o,De.o,decide_eq_false h];simp
 have Ob:H9 (¬ Ta≤N→oA=false):=fun h=>by show _=_;rw [Bb.o,Ee.o,decide_eq_false h];simp
 have Pb:H9 (¬ Kb≤N→oA=false):=fun h=>by show _=_;rw [Bb.o,Fe.o,decide_eq_false h];simp
 have Qb:H9 (¬ Lb≤N→oA=false):=fun h=>by show _=_;rw [Bb.o,Ge.o,decide_eq_false h];simp
 have Hg:H9 (Sa≤N→Ta≤N→Kb≤N→Lb≤N→oA=(((decide (x1=s1) && decide (y1=s2)) && (decide (x2=e1) && decide (y2=e2))) && (QX K && QY K))):=fun q1 q2 q3 q4=>by show _=_;rw [Bb.o,De.o,Ee.o,Fe.o,Ge.o,decide_eq_true q1,decide_eq_true q2,decide_eq_true q3,decide_eq_true q4];rfl
 clear Bb De Ee Fe Ge;go_wp2_with fail
 ·
  go_ret;have Wa:oA=false:=by first | exact Nb.o (by omega) | exact Ob.o (by omega) | exact Pb.o (by omega) | exact Qb.o (by omega)
  exact ⟨ret_bool Wa.symm,Ea.o⟩
 rotate_left 1
 ·
  go_ret;have Wa:oA=false:=by first | exact Nb.o (by omega) | exact Ob.o (by omega) | exact Pb.o (by omega) | exact Qb.o (by omega)
  exact ⟨ret_bool Wa.symm,Ea.o⟩
 ·
  go_ret;have Wa:oA=false:=by first | exact Nb.o (by omega) | exact Ob.o (by omega) | exact Pb.o (by omega) | exact Qb.o (by omega)
  exact ⟨ret_bool Wa.symm,Ea.o⟩
 ·
  go_ret;have Wa:oA=false:=by first | exact Nb.o (by omega) | exact Ob.o (by omega) | exact Pb.o (by omega) | exact Qb.o (by omega)
  exact ⟨ret_bool Wa.symm,Ea.o⟩
 have Db:H9 (oA=(((decide (x1=s1) && decide (y1=s2)) && (decide (x2=e1) && decide (y2=e2))) && (QX K && QY K))):=Hg.o (by omega) (by omega) (by omega) (by omega);clear Hg Nb Ob Pb Qb Uh Vh Wh Xh;clear Ic;clear Jc;refine (Rc _).mono ?_;rintro e wz ⟨rfl,Ha⟩;have Na:=Ha.symm;clear Ha;subst Na;have Ri:IntKind.i64.wrap ((N:Int)-1)=(N:Int)-1:=(by rw [IntKind.wrap_i64];omega);(go_wp2_with fail);refine (Ub _).mono ?_;rintro e wz ⟨rfl,Ha⟩;have Na:=Ha.symm;clear Ha;subst Na;clear Rc Ub;have p0:=Ka.o.c 0 rfl;have p1:=Ka.o.c 1 rfl;have p2:=Ka.o.c 2 rfl;have p3:=Ka.o.c 3 rfl;(go_wp2_with fail);clear p0 p1 p2 p3;generalize w6=wq at Yd Ka Ea Zd Ae Be Ce Ua Va  ⊢;refine hst' wq none (by kernel_rfl) fun hHeld=>?_;generalize wq.drew=Ig at hHeld ⊢;have Fa:H9 (Below wq.heap.size wq Ig):=⟨hHeld.os,hHeld.tape,hHeld.output,hHeld.size,fun k hk=>hHeld.block k hk (by simp)⟩;refine tk 0 (.slice Kd Sa Ld) ?_ ?_
 · intro wq Aa;go_simp
 (try simp only [Act.put]);refine tk 2 (.pointer (some ⟨w.heap.size+1,0,none⟩)) ?_ ?_
 · intro wq Aa;go_simp
 (try simp only [Act.put]);refine tk 3 (.pointer (some ⟨w.heap.size+1,0,none⟩)) ?_ ?_
 · intro wq Aa;go_simp
 (try simp only [Act.put]);refine tk 4 (it s1) ?_ ?_
 · intro wp Ba;have c0:=(Ka.o.grown Ba (by simp)).c 0 rfl;go_simp
 (try simp only [Act.put]);refine rdy' 1 fun Kk hK=>?_;go_simp;refine (Gc _ (Ua.o.below Fa.o)).mono ?_;rintro e wn ⟨rfl,Ca⟩;have Da:=Ca.symm;clear Ca;subst Da;go_simp;refine hK.out _ _ (by assumption) (fun hHeld1=>?_);clear hK Kk;(try simp only [Act.put]);refine tk 5 (.bool (x1 != s1)) ?_ ?_
 · intro wq Aa;go_simp
 (try simp only [Act.put]);by_cases g0:x1=s1
 rotate_left
 ·
  have Kc:(x1 != s1)=true:=(by simp [g0]);rw [Kc];have Xa:H9 (oA=false):=(by show _=_;rw [Db.o,decide_eq_false g0];simp);clear g0;refine tk 6 (.bool true) ?_ ?_
  · intro wq Aa;go_simp
  (try simp only [Act.put]);refine sk 7 ?_;(try simp only [Act.put]);refine sk 8 ?_;(try simp only [Act.put]);refine sk 9 ?_;(try simp only [Act.put]);refine sk 10 ?_;(try simp only [Act.put]);refine sk 11 ?_;(try simp only [Act.put]);refine sk 12 ?_;(try simp only [Act.put]);refine tk 13 (.bool true) ?_ ?_
  · intro wq Aa;go_simp
  (try simp only [Act.put]);refine tk 14 (.bool true) ?_ ?_
  · intro wq Aa;go_simp
  (try simp only [Act.put]);refine sk 15 ?_;(try simp only [Act.put]);refine sk 16 ?_;(try simp only [Act.put]);refine sk 17 ?_;(try simp only [Act.put]);refine sk 18 ?_;(try simp only [Act.put]);refine sk 19 ?_;(try simp only [Act.put]);refine sk 20 ?_;(try simp only [Act.put]);refine sk 21 ?_;(try simp only [Act.put]);refine tk 22 (.bool true) ?_ ?_
  · intro wq Aa;go_simp
  (try simp only [Act.put]);refine tk 23 (.bool true) ?_ ?_
  · intro wq Aa;go_simp
  (try simp only [Act.put]);refine sk 24 ?_;(try simp only [Act.put]);refine sk 25 ?_;(try simp only [Act.put]);refine sk 26 ?_;(try simp only [Act.put]);refine sk 27 ?_;(try simp only [Act.put]);refine sk 28 ?_;(try simp only [Act.put]);refine sk 29 ?_;(try simp only [Act.put]);refine sk 30 ?_;(try simp only [Act.put]);refine tk 31 (.bool true) ?_ ?_
  · intro wq Aa;go_simp
  (try simp only [Act.put]);refine dne' ?_;go_simp;have Ia:=Hd (Ea.o.trans (Fa.o.mono Ea.o.size));go_wp2;go_ret;exact ⟨ret_bool Xa.o.symm,Ia.o⟩
 have Kc:(x1 != s1)=false:=(by simp [g0]);have Jg:H9 (x1=s1):=g0;rw [Kc];clear g0;refine tk 6 (.bool false) ?_ ?_
 · intro wq Aa;go_simp
 (try simp only [Act.put]);refine tk 7 (.slice Qd Ta Rd) ?_ ?_
 · intro wq Aa;go_simp
 (try simp only [Act.put]);refine tk 9 (.pointer (some ⟨w.heap.size+1,0,none⟩)) ?_ ?_
 · intro wq Aa;go_simp
 (try simp only [Act.put]);refine tk 10 (.pointer (some ⟨w.heap.size+1,1,none⟩)) ?_ ?_
 · intro wq Aa;go_simp
 (try simp only [Act.put]);refine tk 11 (it s2) ?_ ?_
 · intro wp Ba;have c0:=(Ka.o.grown Ba (by simp)).c 1 rfl;go_simp
 (try simp only [Act.put]);refine rdy' 8 fun Kk hK=>?_;go_simp;refine (Hc _ (Va.o.below Fa.o)).mono ?_;rintro e wn ⟨rfl,Ca⟩;have Da:=Ca.symm;clear Ca;subst Da;go_simp;refine hK.out _ _ (by assumption) (fun hHeld1=>?_);clear hK Kk;(try simp only [Act.put]);refine tk 12 (.bool (y1 != s2)) ?_ ?_
 · intro wq Aa;go_simp
 (try simp only [Act.put]);by_cases g1:y1=s2
 rotate_left
 ·
  have Lc:(y1 != s2)=true:=(by simp [g1]);rw [Lc];have Xa:H9 (oA=false):=(by show _=_;rw [Db.o,decide_eq_false g1];simp);clear g1;refine tk 13 (.bool true) ?_ ?_
  · intro wq Aa;go_simp
  (try simp only [Act.put]);refine tk 14 (.bool true) ?_ ?_
  · intro wq Aa;go_simp
  (try simp only [Act.put]);refine sk 15 ?_;(try simp only [Act.put]);refine sk 16 ?_;(try simp only [Act.put]);refine sk 17 ?_;(try simp only [Act.put]);refine sk 18 ?_;(try simp only [Act.put]);refine sk 19 ?_;(try simp only [Act.put]);refine sk 20 ?_;(try simp only [Act.put]);refine sk 21 ?_;(try simp only [Act.put]);refine tk 22 (.bool true) ?_ ?_
  · intro wq Aa;go_simp
  (try simp only [Act.put]);refine tk 23 (.bool true) ?_ ?_
  · intro wq Aa;go_simp
  (try simp only [Act.put]);refine sk 24 ?_;(try simp only [Act.put]);refine sk 25 ?_;(try simp only [Act.put]);refine sk 26 ?_;(try simp only [Act.put]);refine sk 27 ?_;(try simp only [Act.put]);refine sk 28 ?_;(try simp only [Act.put]);refine sk 29 ?_;(try simp only [Act.put]);refine sk 30 ?_;(try simp only [Act.put]);refine tk 31 (.bool true) ?_ ?_
  · intro wq Aa;go_simp
  (try simp only [Act.put]);refine dne' ?_;go_simp;have Ia:=Hd (Ea.o.trans (Fa.o.mono Ea.o.size));go_wp2;go_ret;exact ⟨ret_bool Xa.o.symm,Ia.o⟩
 have Lc:(y1 != s2)=false:=(by simp [g1]);have Kg:H9 (y1=s2):=g1;rw [Lc];clear g1;refine tk 13 (.bool false) ?_ ?_
 · intro wq Aa;go_simp
 (try simp only [Act.put]);refine tk 14 (.bool false) ?_ ?_
 · intro wq Aa;go_simp
 (try simp only [Act.put]);refine tk 15 (.slice Kd Sa Ld) ?_ ?_
 · intro wq Aa;go_simp
 (try simp only [Act.put]);refine tk 16 (it la) ?_ ?_
 · intro wq Aa;go_simp
 (try simp only [Act.put]);refine tk 18 (.pointer (some ⟨w.heap.size+1,2,none⟩)) ?_ ?_
 · intro wq Aa;go_simp
 (try simp only [Act.put]);refine tk 19 (.pointer (some ⟨w.heap.size+1,2,none⟩)) ?_ ?_
 · intro wq Aa;go_simp
 (try simp only [Act.put]);refine tk 20 (it e1) ?_ ?_
 · intro wp Ba;have c0:=(Ka.o.grown Ba (by simp)).c 2 rfl;go_simp
 (try simp only [Act.put]);refine rdy' 17 fun Kk hK=>?_;go_simp;refine (Ib _ (Ua.o.below Fa.o)).mono ?_;rintro e wn ⟨rfl,Ca⟩;have Da:=Ca.symm;clear Ca;subst Da;go_simp;refine hK.out _ _ (by assumption) (fun hHeld1=>?_);clear hK Kk;(try simp only [Act.put]);refine tk 21 (.bool (x2 != e1)) ?_ ?_
 · intro wq Aa;go_simp
 (try simp only [Act.put]);by_cases g2:x2=e1
 rotate_left
 ·
  have Nc:(x2 != e1)=true:=(by simp [g2]);rw [Nc];have Xa:H9 (oA=false):=(by show _=_;rw [Db.o,decide_eq_false g2];simp);clear g2;refine tk 22 (.bool true) ?_ ?_
  · intro wq Aa;go_simp
  (try simp only [Act.put]);refine tk 23 (.bool true) ?_ ?_
  · intro wq Aa;go_simp
  (try simp only [Act.put]);refine sk 24 ?_;(try simp only [Act.put]);refine sk 25 ?_;(try simp only [Act.put]);refine sk 26 ?_;(try simp only [Act.put]);refine sk 27 ?_;(try simp only [Act.put]);refine sk 28 ?_;(try simp only [Act.put]);refine sk 29 ?_;(try simp only [Act.put]);refine sk 30 ?_;(try simp only [Act.put]);refine tk 31 (.bool true) ?_ ?_
  · intro wq Aa;go_simp
  (try simp only [Act.put]);refine dne' ?_;go_simp;have Ia:=Hd (Ea.o.trans (Fa.o.mono Ea.o.size));go_wp2;go_ret;exact ⟨ret_bool Xa.o.symm,Ia.o⟩
 have Nc:(x2 != e1)=false:=(by simp [g2]);have Lg:H9 (x2=e1):=g2;rw [Nc];clear g2;refine tk 22 (.bool false) ?_ ?_
 · intro wq Aa;go_simp
 (try simp only [Act.put]);refine tk 23 (.bool false) ?_ ?_
 · intro wq Aa;go_simp
 (try simp only [Act.put]);refine tk 24 (.slice Qd Ta Rd) ?_ ?_
 · intro wq Aa;go_simp
 (try simp only [Act.put]);refine tk 25 (it la) ?_ ?_
 · intro wq Aa;go_simp
 (try simp only [Act.put]);refine tk 27 (.pointer (some ⟨w.heap.size+1,2,none⟩)) ?_ ?_
 · intro wq Aa;go_simp
 (try simp only [Act.put]);refine tk 28 (.pointer (some ⟨w.heap.size+1,3,none⟩)) ?_ ?_
 · intro wq Aa;go_simp
 (try simp only [Act.put]);refine tk 29 (it e2) ?_ ?_
 · intro wp Ba;have c0:=(Ka.o.grown Ba (by simp)).c 3 rfl;go_simp
 (try simp only [Act.put]);refine rdy' 26 fun Kk hK=>?_;go_simp;refine (Jb _ (Va.o.below Fa.o)).mono ?_;rintro e wn ⟨rfl,Ca⟩;have Da:=Ca.symm;clear Ca;subst Da;go_simp;refine hK.out _ _ (by assumption) (fun hHeld1=>?_);clear hK Kk;(try simp only [Act.put]);refine tk 30 (.bool (y2 != e2)) ?_ ?_
 · intro wq Aa;go_simp
 (try simp only [Act.put]);by_cases g3:y2=e2
 rotate_left
 ·
  have Oc:(y2 != e2)=true:=(by simp [g3]);rw [Oc];have Xa:H9 (oA=false):=(by show _=_;rw [Db.o,decide_eq_false g3];simp);clear g3;refine tk 31 (.bool true) ?_ ?_
  · intro wq Aa;go_simp
  (try simp only [Act.put]);refine dne' ?_;go_simp;have Ia:=Hd (Ea.o.trans (Fa.o.mono Ea.o.size));go_wp2;go_ret;exact ⟨ret_bool Xa.o.symm,Ia.o⟩
 have Oc:(y2 != e2)=false:=(by simp [g3]);have Ng:H9 (y2=e2):=g3;rw [Oc];clear g3;refine tk 31 (.bool false) ?_ ?_
 · intro wq Aa;go_simp
 (try simp only [Act.put]);refine dne' ?_;go_simp;have Og:=Hd (Yd.o.belowS Fa.o);have Pg:=Hd (Ka.o.belowS Fa.o);have He:=Hd (Ea.o.trans (Fa.o.mono Ea.o.size));have Qg:=Hd (Zd.o.below Fa.o);have Rg:=Hd (Ae.o.below Fa.o);have Sg:=Hd (Be.o.below Fa.o);have Tg:=Hd (Ce.o.below Fa.o);clear Yd Ka Ea Zd Ae Be Ce Ua Va;have Ie:H9 (oA=(QX K && QY K)):=(by show _=_;rw [Db.o,decide_eq_true Jg.o,decide_eq_true Kg.o,decide_eq_true Lg.o,decide_eq_true Ng.o];rfl);clear Db Jg Kg Lg Ng Gc Hc Ib Jb;(go_wp2_with fail);refine (Vb _).mono ?_;rintro e w7 ⟨ta,tc,rfl,ho,hb⟩;have Je:=Hd (Og.o.belowS hb);have Ke:=Hd (Pg.o.belowS hb);have Pc:=Hd (He.o.trans (hb.mono He.o.size));have Le:=Hd (Qg.o.below hb);have Ne:=Hd (Rg.o.below hb);have Oe:=Hd (Sg.o.below hb);have Pe:=Hd (Tg.o.below hb);clear Og Pg He Qg Rg Sg Tg;have Qe:H9 (Sees w7 ta K tc GP):=ho.sees;clear hb;clear ho Vb Kc Lc Nc Oc;(go_wp2_with fail);generalize w7=w7 at Je Ke Pc Le Ne Oe Pe Qe  ⊢
 go_loopw [12] (fun i wr=>∃ k:Nat,k≤K∧i=it k∧Below w7.heap.size w7 wr∧QX k=true∧QY k=true) (fun i _=>K-(intOf i).toNat)
 case atStart=>exact ⟨0,by omega,rfl,Below.refl _ _,Xc.o,Yc.o⟩
 case round =>
  obtain ⟨i,hi,rfl,La,Ug,Vg⟩:=hrel;have Wg:H9 (QX i=true):=Ug;have Xg:H9 (QY i=true):=Vg;clear Ug Vg;have Ja:=Hd (Je.o.belowS La);have Oa:=Hd (Ke.o.belowS La);have Rb:=Hd (Pc.o.trans (La.mono Pc.o.size));have Yh:=Hd (Le.o.below La);have Zh:=Hd (Ne.o.below La);have Ai:=Hd (Oe.o.below La);have Bi:=Hd (Pe.o.below La);have Ci:=Hd (Qe.o.below La);clear Je Ke Pc Le Ne Oe Pe Qe;have Yg:=Hd (La);clear La;by_cases Pa:i<K
  rotate_left
  ·
   have Di:i=K:=(by omega);subst Di;have hI:¬ (i:Int)<(i:Int):=(by omega);go_wp2;go_ret;exact ⟨ret_bool (by rw [Ie.o,Wg.o,Xg.o];rfl),Rb.o⟩
  obtain ⟨j,hj⟩:∃ j:Nat,j=(i+4) % K:=⟨_,rfl⟩;have Qc:j<K:=(by rw [hj];exact Nat.mod_lt _ Gh);have Si:((i:Int)+4).tmod (K:Int)=(j:Int):=(by rw [hj,Int.tmod_eq_emod_of_nonneg (by omega)];simp);have Ti:IntKind.i64.wrap ((i:Int)+4)=(i:Int)+4:=(by rw [IntKind.wrap_i64];omega);have hI:(i:Int)<(K:Int):=(by omega);have Ui:(0:Int)≤(i:Int):=(by omega);have Vi:(0:Int)≤(j:Int):=(by omega);have hJ:(j:Int)<(K:Int):=(by omega);have Wi:¬ (K:Int)=0:=(by omega);have HJ:=Hd (hj);clear hj;obtain ⟨tb,to,rfl,Zg⟩:=Ci.o.at (by omega);have rt:=Zg i Pa;rw [Fb.o i Pa] at rt;clear Zg;have D1:=Sc.o i;have D2:=Wb.o i;have D3:=Xb.o i;have D4:=Tc.o i;have D5:=Yb.o i;have D6:=Zb.o i;have D7:=Qa.o i;have D8:=Uc.o i;have D9:=Ac.o i;have Sb:=Bc.o i;have Tb:=Ra.o i;have E1:=Gb.o i;have E2:=Hb.o i;have E3:=Za.o i Pa;have E4:=Ab.o i Pa;rw [← HJ.o] at D6 D7 Sb Tb;obtain ⟨b1,o1,rfl,Re⟩:=Yh.o.at (by omega);have v1:=Re i Pa;have u1:=Re j Qc;clear Re;obtain ⟨b2,o2,rfl,Se⟩:=Zh.o.at (by omega);have v2:=Se i Pa;have u2:=Se j Qc;clear Se;obtain ⟨b3,o3,rfl,Te⟩:=Ai.o.at (by omega);have v3:=Te i Pa;have u3:=Te j Qc;clear Te;obtain ⟨b4,o4,rfl,Ue⟩:=Bi.o.at (by omega);have v4:=Ue i Pa;have u4:=Ue j Qc;clear Ue;clear u3 u4;generalize (ZP i+65537-la) % 65537=en at D3 D7 Tb;generalize M.pw (ZP i) N=pz at D1 D2;generalize ZP i=zi at rt D1 D3;generalize z3.getD i 0*ZE i % 65537=q3 at D4 E1 E3;generalize z4.getD i 0*ZE i % 65537=q4 at D8 E2 E4;generalize ZE i=ze at D2 D4 D8;generalize (z1.getD j 0+65537-AX i) % 65537=sx at D6 D7;generalize (z2.getD j 0+65537-AY i) % 65537=sy at Sb Tb;generalize AX i=ax at D5 D6;generalize AY i=ay at D9 Sb;generalize MX i=mx at D7 E1 E3;generalize MY i=my at Tb E2 E4;generalize z1.getD j 0=xj at u1 D6;generalize z2.getD j 0=yj at u2 Sb;generalize z1.getD i 0=xi at v1 D5 D9;generalize z2.getD i 0=yi at v2 D5 D9;generalize z3.getD i 0=qi at v3 D4;generalize z4.getD i 0=ri at v4 D8;have V1:H9 _:=v1;clear v1;have V2:H9 _:=v2;clear v2;have V3:H9 _:=v3;clear v3;have V4:H9 _:=v4;clear v4;have U1:H9 _:=u1;clear u1;have U2:H9 _:=u2;clear u2;have G1:H9 _:=E1;clear E1;have G2:H9 _:=E2;clear E2;have G3:H9 _:=E3;clear E3;have G4:H9 _:=E4;clear E4;clear Sc Wb Xb Tc Yb Zb Qa Uc Ac Bc Ra Gb Hb Za Ab Fb Xc Yc;(go_wp2_with fail);refine (D1 _).mono ?_;rintro e wz ⟨rfl,Ha⟩;have Na:=Ha.symm;clear Ha;subst Na;(go_wp2_with fail);refine (D2 _).mono ?_;rintro e wz ⟨rfl,Ha⟩;have Na:=Ha.symm;clear Ha;subst Na;(go_wp2_with fail);refine (D3 _).mono ?_;rintro e wz ⟨rfl,Ha⟩;have Na:=Ha.symm;clear Ha;subst Na;(go_wp2_with fail);refine hst' wr none (by kernel_rfl) fun hHeld=>?_;generalize wr.drew=Ig at hHeld ⊢;refine tk 0 (.pointer (some ⟨w.heap.size+1,6,none⟩)) ?_ ?_
  · intro wq Aa;go_simp
  (try simp only [Act.put]);refine tk 1 (.slice (some ⟨b3,o3,none⟩) K c3) ?_ ?_
  · intro wp Ba;have c0:=(Oa.o.grown Ba (by simp)).c 6 rfl;go_simp
  (try simp only [Act.put]);refine tk 2 (it (i:Int)) ?_ ?_
  · intro wq Aa;go_simp
  (try simp only [Act.put]);refine tk 3 (.pointer (some ⟨b3,o3+i,none⟩)) ?_ ?_
  · intro wq Aa;go_simp
  (try simp only [Act.put]);refine tk 4 (it qi) ?_ ?_
  · intro wp Ba;have c0:wp.cell? ⟨b3,o3+i,none⟩=some (it qi):=Ba.cell V3.o (by simp);go_simp
  (try simp only [Act.put]);refine tk 5 (it ze) ?_ ?_
  · intro wq Aa;go_simp
  (try simp only [Act.put]);refine tk 7 (.pointer (some ⟨w.heap.size+1,4,none⟩)) ?_ ?_
  · intro wq Aa;go_simp
  (try simp only [Act.put]);refine tk 8 (.slice (some ⟨b1,o1,none⟩) K c1) ?_ ?_
  · intro wp Ba;have c0:=(Oa.o.grown Ba (by simp)).c 4 rfl;go_simp
  (try simp only [Act.put]);refine tk 9 (it (j:Int)) ?_ ?_
  · intro wq Aa;go_simp
  (try simp only [Act.put]);refine tk 10 (.pointer (some ⟨b1,o1+j,none⟩)) ?_ ?_
  · intro wq Aa;go_simp
  (try simp only [Act.put]);refine tk 11 (it xj) ?_ ?_
  · intro wp Ba;have c0:wp.cell? ⟨b1,o1+j,none⟩=some (it xj):=Ba.cell U1.o (by simp);go_simp
  (try simp only [Act.put]);refine tk 12 (.pointer (some ⟨w.heap.size,0,none⟩)) ?_ ?_
  · intro wq Aa;go_simp
  (try simp only [Act.put]);refine tk 13 (.agg (v21' a b c d f k).toArray) ?_ ?_
  · intro wp Ba;have c0:=(Ja.o.grown Ba (by simp)).c 0 rfl;have c1:=(Ja.o.grown Ba (by simp)).c 1 rfl;have c2:=(Ja.o.grown Ba (by simp)).c 2 rfl;have c3:=(Ja.o.grown Ba (by simp)).c 3 rfl;have c4:=(Ja.o.grown Ba (by simp)).c 4 rfl;have c5:=(Ja.o.grown Ba (by simp)).c 5 rfl;go_simp
  (try simp only [Act.put]);refine tk 14 (.pointer (some ⟨w.heap.size+1,4,none⟩)) ?_ ?_
  · intro wq Aa;go_simp
  (try simp only [Act.put]);refine tk 15 (.slice (some ⟨b1,o1,none⟩) K c1) ?_ ?_
  · intro wp Ba;have c0:=(Oa.o.grown Ba (by simp)).c 4 rfl;go_simp
  (try simp only [Act.put]);refine tk 16 (it (i:Int)) ?_ ?_
  · intro wq Aa;go_simp
  (try simp only [Act.put]);refine tk 17 (.pointer (some ⟨b1,o1+i,none⟩)) ?_ ?_
  · intro wq Aa;go_simp
  (try simp only [Act.put]);refine tk 18 (it xi) ?_ ?_
  · intro wp Ba;have c0:wp.cell? ⟨b1,o1+i,none⟩=some (it xi):=Ba.cell V1.o (by simp);go_simp
  (try simp only [Act.put]);refine tk 19 (.pointer (some ⟨w.heap.size+1,5,none⟩)) ?_ ?_
  · intro wq Aa;go_simp
  (try simp only [Act.put]);refine tk 20 (.slice (some ⟨b2,o2,none⟩) K c2) ?_ ?_
  · intro wp Ba;have c0:=(Oa.o.grown Ba (by simp)).c 5 rfl;go_simp
  (try simp only [Act.put]);refine tk 21 (it (i:Int)) ?_ ?_
  · intro wq Aa;go_simp
  (try simp only [Act.put]);refine tk 22 (.pointer (some ⟨b2,o2+i,none⟩)) ?_ ?_
  · intro wq Aa;go_simp
  (try simp only [Act.put]);refine tk 23 (it yi) ?_ ?_
  · intro wp Ba;have c0:wp.cell? ⟨b2,o2+i,none⟩=some (it yi):=Ba.cell V2.o (by simp);go_simp
  (try simp only [Act.put]);refine tk 26 (it en) ?_ ?_
  · intro wq Aa;go_simp
  (try simp only [Act.put]);refine rdy' 6 fun Kk hK=>?_;go_simp;refine (D4 _).mono ?_;rintro e wn ⟨rfl,Ca⟩;have Da:=Ca.symm;clear Ca;subst Da;go_simp;refine hK.out _ _ (by assumption) (fun hHeld1=>?_);clear hK Kk;(try simp only [Act.put]);refine rdy' 24 fun Kk hK=>?_;go_simp;refine (D5 _).mono ?_;rintro e Ah ⟨rfl,Bh⟩;go_simp;have Ya:wr.grownBy Ah none:=grown_step hHeld Bh;have Ei:H9 (Below wr.heap.size wr Ah):=⟨Ya.os,Ya.tape,Ya.output,Ya.size,fun k hk=>Ya.block k hk (by simp)⟩;refine hK.out _ _ Ya (fun _=>?_);clear hK Kk Bh;(try simp only [Act.put]);refine rdy' 25 fun Kk hK=>?_;go_simp;refine (D6 _).mono ?_;rintro e wn ⟨rfl,Ca⟩;have Da:=Ca.symm;clear Ca;subst Da;go_simp;refine hK.out _ _ (by assumption) (fun hHeld1=>?_);clear hK Kk;(try simp only [Act.put]);refine rdy' 27 fun Kk hK=>?_;go_simp;refine (D7 _).mono ?_;rintro e wn ⟨rfl,Ca⟩;have Da:=Ca.symm;clear Ca;subst Da;go_simp;refine hK.out _ _ (by assumption) (fun hHeld1=>?_);clear hK Kk;(try simp only [Act.put]);refine tk 28 (.bool (q3 != mx)) ?_ ?_
  · intro wq Aa;go_simp
  try simp only [Act.put]
  cases hda:(q3 == mx) with
  | false =>
   have Ve:(q3 != mx)=true:=(by simp [bne,hda]);rw [Ve];have We:H9 (oA=false):=(by show _=_;rw [Ie.o,G3.o hda];simp);clear hda;refine tk 29 (.bool true) ?_ ?_
   · intro wq Aa;go_simp
   (try simp only [Act.put]);refine sk 30 ?_;(try simp only [Act.put]);refine sk 31 ?_;(try simp only [Act.put]);refine sk 32 ?_;(try simp only [Act.put]);refine sk 33 ?_;(try simp only [Act.put]);refine sk 34 ?_;(try simp only [Act.put]);refine sk 35 ?_;(try simp only [Act.put]);refine sk 36 ?_;(try simp only [Act.put]);refine sk 37 ?_;(try simp only [Act.put]);refine sk 38 ?_;(try simp only [Act.put]);refine sk 39 ?_;(try simp only [Act.put]);refine sk 40 ?_;(try simp only [Act.put]);refine sk 41 ?_;(try simp only [Act.put]);refine sk 42 ?_;(try simp only [Act.put]);refine sk 43 ?_;(try simp only [Act.put]);refine sk 44 ?_;(try simp only [Act.put]);refine sk 45 ?_;(try simp only [Act.put]);refine sk 46 ?_;(try simp only [Act.put]);refine sk 47 ?_;(try simp only [Act.put]);refine sk 48 ?_;(try simp only [Act.put]);refine sk 49 ?_;(try simp only [Act.put]);refine sk 50 ?_;(try simp only [Act.put]);refine sk 51 ?_;(try simp only [Act.put]);refine sk 52 ?_;(try simp only [Act.put]);refine sk 53 ?_;(try simp only [Act.put]);refine sk 54 ?_;(try simp only [Act.put]);refine sk 55 ?_;(try simp only [Act.put]);refine sk 56 ?_;(try simp only [Act.put]);refine sk 57 ?_;(try simp only [Act.put]);refine sk 58 ?_;(try simp only [Act.put]);refine tk 59 (.bool true) ?_ ?_
   · intro wq Aa;go_simp
   (try simp only [Act.put]);refine dne' ?_;go_simp;have Ia:=Hd (Rb.o.trans (Ei.o.mono Rb.o.size));go_wp2;go_ret;exact ⟨ret_bool We.o.symm,Ia.o⟩
  | true =>
  have Fi:(q3 != mx)=false:=(by simp [bne,hda]);rw [Fi];have Gi:=Hd (hda);clear hda;refine tk 29 (.bool false) ?_ ?_
  · intro wq Aa;go_simp
  (try simp only [Act.put]);refine tk 30 (.pointer (some ⟨w.heap.size+1,7,none⟩)) ?_ ?_
  · intro wq Aa;go_simp
  (try simp only [Act.put]);refine tk 31 (.slice (some ⟨b4,o4,none⟩) K c4) ?_ ?_
  · intro wp Ba;have c0:=(Oa.o.grown Ba (by simp)).c 7 rfl;go_simp
  (try simp only [Act.put]);refine tk 32 (it (i:Int)) ?_ ?_
  · intro wq Aa;go_simp
  (try simp only [Act.put]);refine tk 33 (.pointer (some ⟨b4,o4+i,none⟩)) ?_ ?_
  · intro wq Aa;go_simp
  (try simp only [Act.put]);refine tk 34 (it ri) ?_ ?_
  · intro wp Ba;have c0:wp.cell? ⟨b4,o4+i,none⟩=some (it ri):=Ba.cell V4.o (by simp);go_simp
  (try simp only [Act.put]);refine tk 35 (it ze) ?_ ?_
  · intro wq Aa;go_simp
  (try simp only [Act.put]);refine tk 37 (.pointer (some ⟨w.heap.size+1,5,none⟩)) ?_ ?_
  · intro wq Aa;go_simp
  (try simp only [Act.put]);refine tk 38 (.slice (some ⟨b2,o2,none⟩) K c2) ?_ ?_
  · intro wp Ba;have c0:=(Oa.o.grown Ba (by simp)).c 5 rfl;go_simp
  (try simp only [Act.put]);refine tk 39 (it (j:Int)) ?_ ?_
  · intro wq Aa;go_simp
  (try simp only [Act.put]);refine tk 40 (.pointer (some ⟨b2,o2+j,none⟩)) ?_ ?_
  · intro wq Aa;go_simp
  (try simp only [Act.put]);refine tk 41 (it yj) ?_ ?_
  · intro wp Ba;have c0:wp.cell? ⟨b2,o2+j,none⟩=some (it yj):=Ba.cell U2.o (by simp);go_simp
  (try simp only [Act.put]);refine tk 42 (.pointer (some ⟨w.heap.size,6,none⟩)) ?_ ?_
  · intro wq Aa;go_simp
  (try simp only [Act.put]);refine tk 43 (.agg (v21' a' b' c' d' f' k').toArray) ?_ ?_
  · intro wp Ba;have c0:=(Ja.o.grown Ba (by simp)).c 6 rfl;have c1:=(Ja.o.grown Ba (by simp)).c 7 rfl;have c2:=(Ja.o.grown Ba (by simp)).c 8 rfl;have c3:=(Ja.o.grown Ba (by simp)).c 9 rfl;have c4:=(Ja.o.grown Ba (by simp)).c 10 rfl;have c5:=(Ja.o.grown Ba (by simp)).c 11 rfl;go_simp
  (try simp only [Act.put]);refine tk 44 (.pointer (some ⟨w.heap.size+1,4,none⟩)) ?_ ?_
  · intro wq Aa;go_simp
  (try simp only [Act.put]);refine tk 45 (.slice (some ⟨b1,o1,none⟩) K c1) ?_ ?_
  · intro wp Ba;have c0:=(Oa.o.grown Ba (by simp)).c 4 rfl;go_simp
  (try simp only [Act.put]);refine tk 46 (it (i:Int)) ?_ ?_
  · intro wq Aa;go_simp
  (try simp only [Act.put]);refine tk 47 (.pointer (some ⟨b1,o1+i,none⟩)) ?_ ?_
  · intro wq Aa;go_simp
  (try simp only [Act.put]);refine tk 48 (it xi) ?_ ?_
  · intro wp Ba;have c0:wp.cell? ⟨b1,o1+i,none⟩=some (it xi):=Ba.cell V1.o (by simp);go_simp
  (try simp only [Act.put]);refine tk 49 (.pointer (some ⟨w.heap.size+1,5,none⟩)) ?_ ?_
  · intro wq Aa;go_simp
  (try simp only [Act.put]);refine tk 50 (.slice (some ⟨b2,o2,none⟩) K c2) ?_ ?_
  · intro wp Ba;have c0:=(Oa.o.grown Ba (by simp)).c 5 rfl;go_simp
  (try simp only [Act.put]);refine tk 51 (it (i:Int)) ?_ ?_
  · intro wq Aa;go_simp
  (try simp only [Act.put]);refine tk 52 (.pointer (some ⟨b2,o2+i,none⟩)) ?_ ?_
  · intro wq Aa;go_simp
  (try simp only [Act.put]);refine tk 53 (it yi) ?_ ?_
  · intro wp Ba;have c0:wp.cell? ⟨b2,o2+i,none⟩=some (it yi):=Ba.cell V2.o (by simp);go_simp
  (try simp only [Act.put]);refine tk 56 (it en) ?_ ?_
  · intro wq Aa;go_simp
  (try simp only [Act.put]);refine rdy' 36 fun Kk hK=>?_;go_simp;refine (D8 _).mono ?_;rintro e wn ⟨rfl,Ca⟩;have Da:=Ca.symm;clear Ca;subst Da;go_simp;refine hK.out _ _ (by assumption) (fun hHeld1=>?_);clear hK Kk;(try simp only [Act.put]);refine rdy' 54 fun Kk hK=>?_;go_simp;refine (D9 _).mono ?_;rintro e Ch ⟨rfl,Dh⟩;go_simp;have Eb:wr.grownBy Ch none:=grown_step Ya Dh;have Eh:H9 (Below wr.heap.size wr Ch):=⟨Eb.os,Eb.tape,Eb.output,Eb.size,fun k hk=>Eb.block k hk (by simp)⟩;refine hK.out _ _ Eb (fun _=>?_);clear hK Kk Dh;(try simp only [Act.put]);refine rdy' 55 fun Kk hK=>?_;go_simp;refine (Sb _).mono ?_;rintro e wn ⟨rfl,Ca⟩;have Da:=Ca.symm;clear Ca;subst Da;go_simp;refine hK.out _ _ (by assumption) (fun hHeld1=>?_);clear hK Kk;(try simp only [Act.put]);refine rdy' 57 fun Kk hK=>?_;go_simp;refine (Tb _).mono ?_;rintro e wn ⟨rfl,Ca⟩;have Da:=Ca.symm;clear Ca;subst Da;go_simp;refine hK.out _ _ (by assumption) (fun hHeld1=>?_);clear hK Kk;(try simp only [Act.put]);refine tk 58 (.bool (q4 != my)) ?_ ?_
  · intro wq Aa;go_simp
  try simp only [Act.put]
  cases hdb:(q4 == my) with
  | false =>
   have Ve:(q4 != my)=true:=(by simp [bne,hdb]);rw [Ve];have We:H9 (oA=false):=(by show _=_;rw [Ie.o,G4.o hdb];simp);clear hdb;refine tk 59 (.bool true) ?_ ?_
   · intro wq Aa;go_simp
   (try simp only [Act.put]);refine dne' ?_;go_simp;have Ia:=Hd (Rb.o.trans (Eh.o.mono Rb.o.size));go_wp2;go_ret;exact ⟨ret_bool We.o.symm,Ia.o⟩
  | true =>
  have Hi:(q4 != my)=false:=(by simp [bne,hdb]);rw [Hi];have Ii:=Hd (hdb);clear hdb;refine tk 59 (.bool false) ?_ ?_
  · intro wq Aa;go_simp
  (try simp only [Act.put]);refine dne' ?_;go_simp;have Ia:=Hd (Yg.o.trans (Eh.o.mono Yg.o.size));have Ji:H9 (QX (i+1)=true):=G1.o Wg.o Gi.o;have Ki:H9 (QY (i+1)=true):=G2.o Xg.o Ii.o;go_wp2;go_roundw
  case rel=>exact ⟨i+1,by omega,by go_num,Ia.o,Ji.o,Ki.o⟩
  case measure=>simp [intOf];omega
theorem specAccepted_any {a1 a2 a3 a4:Option Addr} {n1 n2 n3 n4 c1 c2 c3 c4:Nat} {z1 z2 z3 z4:List Int} (m:M.Mc) (s1 s2 e1 e2:Int) (w:World) (h1:Sees w a1 n1 c1 z1) (h2:Sees w a2 n2 c2 z2) (h3:Sees w a3 n3 c3 z3) (h4:Sees w a4 n4 c4 z4) (l1:n1≤1048576) (l2:n2≤1048576) (l3:n3≤1048576) (l4:n4≤1048576) :
  Calls Tryz.prog 102 #[mcv m,.agg #[.int .i64 s1,.int .i64 s2,.int .i64 e1,.int .i64 e2,.slice a1 n1 c1,.slice a2 n2 c2,.slice a3 n3 c3,.slice a4 n4 c4]] w fun e w'=>e=.returned (.bool (M.acc m (⟨(s1,s2),(e1,e2),z1,z2,z3,z4⟩:M.Pf)))∧Below w.heap.size w w':=by
 cases hm:m.ok with
 | false=>rw [M.acc_m hm];exact specAccepted_out m s1 s2 e1 e2 w h1 h2 h3 h4 l1 l2 l3 l4 (.inl hm)
 | true =>
  by_cases hr:(⟨(s1,s2),(e1,e2),z1,z2,z3,z4⟩:M.Pf).rows=0
  · rw [M.acc_r hr];exact specAccepted_out m s1 s2 e1 e2 w h1 h2 h3 h4 l1 l2 l3 l4 (.inr ⟨hm,hr⟩)
  ·
   rw [M.acc_in hm hr];obtain ⟨hN,hf⟩:=M.rows_some hr;generalize hR:(⟨(s1,s2),(e1,e2),z1,z2,z3,z4⟩:M.Pf).rows=R at hN hf ⊢;obtain ⟨⟨q1,r1⟩,⟨q2,r2⟩,⟨q3,r3⟩,⟨q4,r4⟩,_,_⟩:=(M.form_iff _ _).1 hf;dsimp only at q1 q2 q3 q4 r1 r2 r3 r4;have u1:=h1.len.symm.trans q1;have u2:=h2.len.symm.trans q2;have u3:=h3.len.symm.trans q3;have u4:=h4.len.symm.trans q4;subst u1 u2 u3 u4;exact specAccepted_in m s1 s2 e1 e2 R w hN hm hR h1 h2 h3 h4 r1 r2 r3 r4
end Go.Proofs.YtfhknkppiidnkaaGreat
