import Derived.Deep.RegionHeld3
import Derived.Test.YtfhknkppiidnkaaGreatPk00
import Derived.Test.YtfhknkppiidnkaaGreatPk04
import Derived.Test.YtfhknkppiidnkaaGreatPk01
import Derived.Test.YtfhknkppiidnkaaGreatPk03
namespace Go.Proofs.YtfhknkppiidnkaaGreat
open Go.RowKit
theorem M.rest_start {f R g:List Int} {q:Int} {i:Nat} (h:R.length=f.length):R=M.tab f.length (M.restAt R g q i 0):=
 M.tab_ext h fun t _=>by unfold M.restAt;rw [if_neg (by omega)]
theorem M.rest_old (R g:List Int) (q:Int) (i j:Nat):M.restAt R g q i j (i+j)=R.getD (i+j) 0:=by unfold M.restAt;rw [if_neg (by omega)]
theorem M.rest_step {R g:List Int} {q:Int} {N i j:Nat}:(M.tab N (M.restAt R g q i j)).set (i+j) ((R.getD (i+j) 0+(65537-q)*g.getD j 0) % 65537)=M.tab N (M.restAt R g q i (j+1)):=by
 rw [M.tab_set];apply M.tab_congr;intro t _;unfold M.restAt;by_cases e:t=i+j
 ·
  subst e;rw [if_pos rfl,if_pos (by omega),Nat.add_sub_cancel_left]
 ·
  rw [if_neg e];by_cases h2:i≤t∧t<i+j
  · rw [if_pos h2,if_pos (by omega)]
  · rw [if_neg h2,if_neg (by omega)]
theorem M.mul_bd2 {q y:Int} (q0:0≤q) (q1:q<65537) (y0:0≤y) (y1:y<65537):0≤(65537-q)*y∧(65537-q)*y≤4295032832:=by
 refine ⟨Int.mul_nonneg (by omega) y0,?_⟩;have h1:(65537-q)*y≤65537*y:=Int.mul_le_mul_of_nonneg_right (by omega) y0;omega
set_option maxHeartbeats 4000000 in
theorem l2Divide_long {a b:Option Addr} {n m c d:Nat} {zs ys:List Int} (w:World) (hz:Sees w a n c zs) (hy:Sees w b m d ys) (ha:M.allEl zs=true) (hb:M.allEl ys=true) (ny:M.neat ys) (hn:n≤128) (h1:0<m) (hmn:m≤n) :
  Calls Tryz.prog 79 #[.slice a n c,.slice b m d] w fun e w'=>∃ a1 l1 c1 a2 l2 c2 q r,e=.returned (.tuple #[.slice a1 l1 c1,.slice a2 l2 c2])∧Owns 2 w' w.heap.size a1 l1 c1 q∧Owns 2 w' w.heap.size a2 l2 c2 r∧M.Div zs ys q r∧(∀ x y,a1=some x→a2=some y→x.block≠y.block)∧Below w.heap.size w w':=by
 obtain ⟨b1,o1,rfl,Qc⟩:=hz.at (by omega);obtain ⟨b2,o2,rfl,Fa⟩:=hy.at h1;have l2:b2<w.heap.size:=World.block_lt_of_cell? w _ (Fa 0 h1);have Wa:=Hd (Fa);have HZ:=Hd (hz);have Ba:H9 (zs.length=n):=hz.len;have Aa:H9 (ys.length=m):=hy.len;have HA:=Hd (ha);have HB:=Hd (hb)
 have gl:ys.getD (m-1) 0≠0:=by
  rcases ny with e | e
  · rw [hy.len] at e;omega
  · rw [hy.len] at e;exact e
 have Xa:H9 (ys.getD (m-1) 0≠0):=gl;have HL:H9 ((zs.map (Value.int .i64)).length=n*1):=(by show _=_;rw [List.length_map,hz.len,Nat.mul_one]);obtain ⟨i0,hi,Ya,Za,Ab⟩:=info_parts info_i64;have HI:H9 (Tryz.prog.info? 2 = some i0∧i0.zero=some (Value.int .i64 0)∧i0.size=1∧i0.bytes=8):=⟨hi,Ya,Za,Ab⟩;obtain ⟨N,hN⟩:∃ N,N=n-m+1:=⟨_,rfl⟩;have Bb:(n:Int)-(m:Int)+1=(N:Int):=(by omega);have Ld:(0:Int)<(n:Int)-(m:Int)+1:=(by omega);have HN:=Hd (hN);have Ga:=Hd (Bb);clear hz hy ha hb Qc Fa hi Ya Za Ab hN Bb gl ny;go_enter Tryz.func79,Tryz.ntmps79;(go_wp2_with (at_builtin;refine wpList_append_opt _ rfl (.tmp 12) (.tmp 13) 24 rfl w.heap.size 2 i0 (it 0) 1 8 Tryz.underlying24 HI.o.1 HI.o.2.1 HI.o.2.2.1 HI.o.2.2.2 rfl (by decide) _ 0 [] rfl (World.ownsRow_made w #[] 0 (Nat.le_refl _) (by unfold maxLen;omega) rfl) (some ⟨b1,o1,none⟩) n c (zs.map (Value.int .i64)) rfl HL.o (fun h=>by cases h) (sees_all (HZ.o.below ((Below.refl _ _).alloc (Nat.le_refl _) _))) (ints_int _) (by unfold maxLen;omega) (by omega) (by simp) ?_));intro v1 w1 Cb Db;have hown':w1.ownsRow w.heap.size 2 1 v1 n (zs.map (Value.int .i64)):=(by simpa using Cb);obtain ⟨ra,rc,rfl,Eb⟩:=Owns.form hown';have Fb:H9 (Owns 2 w1 w.heap.size ra n rc zs):=Eb;have Gb:H9 (Below w.heap.size w w1):=((Below.refl w.heap.size w).alloc (Nat.le_refl _) _).grown Db (by simp) (fun j hj=>by simp [Value.ownBlock] at hj;omega);have Hb:w.heap.size≤w1.heap.size:=Gb.o.size;clear Cb hown' Db Eb;(go_wp2_with (at_make;refine wpList_make_full _ rfl _ _ 24 rfl w1.heap.size 2 i0 (it 0) 1 Tryz.underlying24 HI.o.1 HI.o.2.1 HI.o.2.2.1 .i64 .i64 _ _ N rfl rfl Ga.o Ga.o (by rw [HI.o.2.2.2];have:=HN.o;omega) (by unfold maxLen;have:=HN.o;omega) (Nat.le_refl _) ?_));intro w2 Ha Ib
 have Jb:H9 (Owns 2 w2 w1.heap.size (some ⟨w1.heap.size,0,none⟩) N N (List.replicate N 0)):=by
  show w2.ownsRow _ _ _ _ _ _;rw [made_ints] at Ha;exact Ha
 have Ia:Below w1.heap.size w1 w2:=below_grown Ib;have Kb:=Hd (Fb.o.below Ia);have Ja:H9 (Below w.heap.size w w2):=Gb.o.trans (Ia.mono Hb);obtain ⟨ga,rfl,Rc,Nd,_,_⟩:=Fb.o.block (by omega);have cl:w2.cell? ⟨b2,o2+(m-1),none⟩=some (it (ys.getD (m-1) 0)):=(Ja.o.cell (p:=⟨b2,o2+(m-1),none⟩) l2).trans (Wa.o (m-1) (by omega))
 have Lb:H9 (M.DInv zs ys zs (List.replicate N 0) N):=by
  have h:=M.dinv_start (g:=ys) HA.o;rw [Ba.o,Aa.o,← HN.o] at h;exact h
 clear Ha Ib Ia;have Od:1≤m:=(by omega);have Pd:(0:Int)≤(m:Int)-1:=(by omega);have Qd:(m:Int)-1<(m:Int):=(by omega);generalize Nb:ys.getD (m-1) 0=Da at cl;have Ka:=Hd (Nb);clear Nb;(go_wp2_with fail);refine (specInv_any Da _).mono ?_;rintro e w2 ⟨rfl,rfl⟩
 have Sc:H9 (0≤M.inv Da∧M.inv Da<65537):=by
  show _∧_;rw [← M.el_iff];have h:=M.el_at HB.o (m-1);rw [Ka.o] at h;exact M.el_inv ((M.el_iff _).2 h) (by rw [← Ka.o];exact Xa.o)
 have iv:=Sc.o;generalize hiv:M.inv Da=iv' at iv;have Tc:=Hd (hiv);obtain ⟨Uc,Vc⟩:=iv;clear hiv;have Ob:(n:Int)-(m:Int)=(N:Int)-1:=(by have:=Ga.o;omega);have Wc:=Hd (Ob);clear Ob cl;go_wp2
 go_loopw [9] (fun i wr=>∃ (k:Nat) (R O:List Int),k≤N∧i=it ((k:Int)-1)∧Owns 2 wr w.heap.size (some ⟨ga,0,none⟩) n rc R∧Owns 2 wr w1.heap.size (some ⟨w1.heap.size,0,none⟩) N N O∧M.DInv zs ys R O k∧Below w.heap.size w wr) (fun i _=>(intOf i+1).toNat)
 case atStart=>exact ⟨N,zs,List.replicate N 0,Nat.le_refl _,congrArg (Value.int .i64) Wc.o,Kb.o,Jb.o,Lb.o,Ja.o⟩
 case round =>
  obtain ⟨k,R,O,hk,rfl,Pb,Qb,Rb,Sb⟩:=hrel;have La:H9 (Owns 2 wr w.heap.size (some ⟨ga,0,none⟩) n rc R):=Pb;have Na:H9 (Owns 2 wr w1.heap.size (some ⟨w1.heap.size,0,none⟩) N N O):=Qb;have Ca:=Hd (Rb);have Ea:=Hd (Sb);clear Pb Qb Rb Sb Jb Kb Ja Lb;by_cases Rd:0<k
  ·
   obtain ⟨i,rfl⟩:∃ i,k=i+1:=⟨k-1,by omega⟩;have Xc:i+m≤n:=(by have:=HN.o;omega);rw [show ((i+1:Nat):Int)-1=(i:Int) by omega];obtain ⟨g',Tb,_,_,Ub,Yc⟩:=La.o.block (by omega);simp only [Option.some.injEq,Addr.mk.injEq,and_true] at Tb;subst Tb;have er:=Ub (i+m-1) (by omega);obtain ⟨g2,Oa,_,_,Vb,Wb⟩:=Na.o.block (by omega);simp only [Option.some.injEq,Addr.mk.injEq,and_true] at Oa;have eo:=Vb i (by omega);have fo:=Wb i;rw [← Oa] at eo fo;have Xb:=M.el_at Ca.o.ar (i+m-1);generalize hx:R.getD (i+m-1) 0=x at er Xb;have HX:=Hd (hx);obtain ⟨x0,x1⟩:=Xb;obtain ⟨m0,m1⟩:=M.mul_bd x0 x1 Uc Vc
   have Yb:H9 (M.DInv zs ys (M.tab zs.length (M.restAt R ys (x*iv' % 65537) i ys.length)) (O.set i (x*iv' % 65537)) i):=by
    refine M.dinv_step HB.o (by rw [Aa.o];omega) (by rw [Aa.o];exact Xa.o) Ca.o (by rw [Aa.o,Ba.o];exact Xc) _ ?_;rw [Aa.o,HX.o,Ka.o,Tc.o]
   have Zc:H9 (R.length=zs.length):=Ca.o.lr;have q0:0≤x*iv' % 65537:=Int.emod_nonneg _ (by decide);have q1:x*iv' % 65537<65537:=Int.emod_lt_of_pos _ (by decide);have Sd:(i:Int)+(m:Int)-1<(n:Int):=(by omega);have Td:(0:Int)≤(i:Int)+(m:Int)-1:=(by omega);have Ud:(i:Int)<(N:Int):=(by omega);generalize O.getD i 0=oy at eo;have Zb:ga≠w1.heap.size:=(by omega);clear hx Ub Yc Vb Wb Oa;generalize hq:x*iv' % 65537=q at Yb q0 q1;have Ad:=Hd (hq);clear hq;have Ac:H9 (Owns 2 (wr.setCell ⟨w1.heap.size,i,none⟩ (it q)) w1.heap.size (some ⟨w1.heap.size,0,none⟩) N N (O.set i q)):=Na.o.set i q
   have Bc:H9 (Owns 2 (wr.setCell ⟨w1.heap.size,i,none⟩ (it q)) w.heap.size (some ⟨ga,0,none⟩) n rc (M.tab n (M.restAt R ys q i 0))):=by
    show Owns _ _ _ _ _ _ _;rw [← Ba.o,← M.rest_start Zc.o,Ba.o];exact La.o.other ⟨w1.heap.size,i,none⟩ (fun x hx=>by simp only [Option.some.injEq] at hx;subst hx;exact Zb) _
   have Cc:H9 (Below w.heap.size w (wr.setCell ⟨w1.heap.size,i,none⟩ (it q))):=Ea.o.setCell Hb _;have Bd:H9 (M.allEl R=true):=Ca.o.ar;go_wp2;rw [Ad.o]
   go_loopw [11] (fun z wv=>∃ j:Nat,j≤m∧z=it j∧Owns 2 wv w.heap.size (some ⟨ga,0,none⟩) n rc (M.tab n (M.restAt R ys q i j))∧Owns 2 wv w1.heap.size (some ⟨w1.heap.size,0,none⟩) N N (O.set i q)∧Below w.heap.size w wv) (fun z _=>m-(intOf z).toNat)
   case atStart=>exact ⟨0,by omega,rfl,Bc.o,Ac.o,Cc.o⟩
   case round =>
    obtain ⟨j,hj,rfl,Dc,Ec,Fc⟩:=hrel;have Pa:H9 (Owns 2 wr w.heap.size (some ⟨ga,0,none⟩) n rc (M.tab n (M.restAt R ys q i j))):=Dc;have Gc:H9 (Owns 2 wr w1.heap.size (some ⟨w1.heap.size,0,none⟩) N N (O.set i q)):=Ec;have Qa:=Hd (Fc);clear Dc Ec Fc Ac Bc Cc;by_cases Cd:j<m
    ·
     have Hc:i+j<n:=(by omega);have e2:wr.cell? ⟨b2,o2+j,none⟩=some (it (ys.getD j 0)):=(Qa.o.cell (p:=⟨b2,o2+j,none⟩) l2).trans (Wa.o j Cd);obtain ⟨g3,Ic,_,_,Jc,Kc⟩:=Pa.o.block (by omega);simp only [Option.some.injEq,Addr.mk.injEq,and_true] at Ic;subst Ic;have e3:=Jc (i+j) Hc;have f3:=Kc (i+j);rw [M.tab_get _ _ _ Hc,M.rest_old] at e3;have Ra:H9 ((M.tab n (M.restAt R ys q i j)).set (i+j) ((R.getD (i+j) 0+(65537-q)*ys.getD j 0) % 65537)=M.tab n (M.restAt R ys q i (j+1))):=M.rest_step;have Lc:=M.el_at HB.o j;have Nc:=M.el_at Bd.o (i+j);generalize ys.getD j 0=y at e2 Lc Ra;generalize R.getD (i+j) 0=v at e3 Nc Ra;obtain ⟨y0,y1⟩:=Lc;obtain ⟨v0,v1⟩:=Nc;obtain ⟨p0,p1⟩:=M.mul_bd2 q0 q1 y0 y1;have hJ:(j:Int)<(m:Int):=(by omega);have hK:(i:Int)+(j:Int)<(n:Int):=(by omega);have Vd:(0:Int)≤(i:Int)+(j:Int):=(by omega);have Wd:b2≠ga:=(by omega);clear Jc Kc er eo fo;go_wp2
     go_region
     go_wp2;go_roundw
     case rel =>
      refine ⟨j+1,by omega,by go_num,?_,?_,(Qa.o.setCell Rc _).drew⟩
      ·
       rw [← Ra.o];exact World.ownsRow.drew (Pa.o.set (i+j) _)
      · exact World.ownsRow.drew (Gc.o.other ⟨ga,i+j,none⟩ (fun x hx=>by simp only [Option.some.injEq] at hx;subst hx;exact fun e=>Zb e.symm) _)
     case measure=>simp [intOf];omega
    ·
     have hjm':j=m:=by omega
     have HF:H9 (Owns 2 wr w.heap.size (some ⟨ga,0,none⟩) n rc (M.tab zs.length (M.restAt R ys q i ys.length))):=by
      show Owns _ _ _ _ _ _ _;have h:=Pa.o;rw [hjm',← Aa.o] at h;rw [Ba.o];exact h
     clear hjm';go_wp2;go_roundw
     case rel=>exact ⟨i,_,_,by omega,by go_num,HF.o,Gc.o,Yb.o,Qa.o⟩
     case measure=>simp [intOf] <;> omega
  ·
   have hk0':k=0:=(by omega);subst hk0';have Dd:H9 (M.Div zs ys (M.trim O) (M.trim R)):=M.dinv_end (by rw [Aa.o];omega) Ca.o;have Ed:N≤1048576:=(by have:=HN.o;omega);(go_wp2_with fail);refine (l2Trim_any _ Na.o.sees Ed).mono ?_;rintro e w6 ⟨a6,l6,c6,rfl,Oc,Sa⟩;have Pc:H9 (Owns 2 w6 wr.heap.size a6 l6 c6 (M.trim O)):=Oc;have Fd:=Hd (La.o.below Sa);have Ta:=Hd (Ea.o.trans (Sa.mono Ea.o.size));clear Oc Sa;(go_wp2_with fail);refine (l2Trim_any _ Fd.o.sees (by omega)).mono ?_;rintro e w7 ⟨a7,l7,c7,rfl,Ua,Va⟩;have Gd:H9 (Owns 2 w7 w.heap.size a6 l6 c6 (M.trim O)):=(Pc.o.below Va).mono Ea.o.size;have Id:H9 (Owns 2 w7 w.heap.size a7 l7 c7 (M.trim R)):=Ua.mono Ta.o.size
   have Jd:H9 (∀ x y,a6=some x→a7=some y→x.block≠y.block):=fun x y hx hy=>by
    have h1:=Pc.o.hi x hx;have h2:=Ua.lo y hy;omega
   have Kd:=Hd (Ta.o.trans (Va.mono Ta.o.size));clear Ua Va;go_wp2
   go_ret2
   exact ⟨a6,l6,c6,a7,l7,c7,_,_,rfl,Gd.o,Id.o,Dd.o,Jd.o,Kd.o⟩
set_option maxHeartbeats 4000000 in
theorem l2Divide_short {a b:Option Addr} {n m c d:Nat} {zs ys:List Int} (w:World) (hz:Sees w a n c zs) (hy:Sees w b m d ys) (ha:M.allEl zs=true) (nz:M.neat zs) (hn:n≤128) (hm:m≤128) (h1:0<m) (hmn:n<m) :
  Calls Tryz.prog 79 #[.slice a n c,.slice b m d] w fun e w'=>∃ a1 l1 c1 a2 l2 c2 q r,e=.returned (.tuple #[.slice a1 l1 c1,.slice a2 l2 c2])∧Owns 2 w' w.heap.size a1 l1 c1 q∧Owns 2 w' w.heap.size a2 l2 c2 r∧M.Div zs ys q r∧(∀ x y,a1=some x→a2=some y→x.block≠y.block)∧Below w.heap.size w w':=by
 obtain ⟨b2,o2,rfl,Ca⟩:=hy.at h1;have l2:b2<w.heap.size:=World.block_lt_of_cell? w _ (Ca 0 h1);have Ta:=Hd (Ca);have HZ:=Hd (hz);have HD:H9 (M.Div zs ys [] zs):=M.div_short nz ha (by rw [hz.len,hy.len];exact hmn);have Ua:H9 (M.trim zs=zs):=M.trim_neat nz;have HL:H9 ((zs.map (Value.int .i64)).length=n*1):=(by show _=_;rw [List.length_map,hz.len,Nat.mul_one]);obtain ⟨i0,hi,Ia,Ja,Ka⟩:=info_parts info_i64;have HI:H9 (Tryz.prog.info? 2 = some i0∧i0.zero=some (Value.int .i64 0)∧i0.size=1∧i0.bytes=8):=⟨hi,Ia,Ja,Ka⟩;have Fb:¬ (0:Int)<(n:Int)-(m:Int)+1:=(by omega);have Gb:¬ (0:Int)≤(n:Int)-(m:Int):=(by omega);clear hz hy ha nz Ca hi Ia Ja Ka;go_enter Tryz.func79,Tryz.ntmps79;(go_wp2_with (at_builtin;refine wpList_append_opt _ rfl (.tmp 12) (.tmp 13) 24 rfl w.heap.size 2 i0 (it 0) 1 8 Tryz.underlying24 HI.o.1 HI.o.2.1 HI.o.2.2.1 HI.o.2.2.2 rfl (by decide) _ 0 [] rfl (World.ownsRow_made w #[] 0 (Nat.le_refl _) (by unfold maxLen;omega) rfl) a n c (zs.map (Value.int .i64)) rfl HL.o HZ.o.no (sees_all (HZ.o.below ((Below.refl _ _).alloc (Nat.le_refl _) _))) (ints_int _) (by unfold maxLen;omega) (by omega) (by simp) ?_));intro v1 w1 La Na;have hown':w1.ownsRow w.heap.size 2 1 v1 n (zs.map (Value.int .i64)):=(by simpa using La);obtain ⟨ra,rc,rfl,Oa⟩:=Owns.form hown';have Va:H9 (Owns 2 w1 w.heap.size ra n rc zs):=Oa;have Pa:H9 (Below w.heap.size w w1):=((Below.refl w.heap.size w).alloc (Nat.le_refl _) _).grown Na (by simp) (fun j hj=>by simp [Value.ownBlock] at hj;omega);have Wa:w.heap.size≤w1.heap.size:=Pa.o.size;clear La hown' Na Oa;(go_wp2_with (at_make;refine wpList_make_full _ rfl _ _ 24 rfl w1.heap.size 2 i0 (it 0) 1 Tryz.underlying24 HI.o.1 HI.o.2.1 HI.o.2.2.1 .i64 .i64 _ _ 0 rfl rfl (by omega) (by omega) (by rw [HI.o.2.2.2];omega) (by unfold maxLen;omega) (Nat.le_refl _) ?_));intro w2 Da Qa
 have Xa:H9 (Owns 2 w2 w1.heap.size (some ⟨w1.heap.size,0,none⟩) 0 0 []):=by
  show w2.ownsRow _ _ _ _ _ _;rw [made_ints] at Da;exact Da
 have Ea:Below w1.heap.size w1 w2:=below_grown Qa;have Ya:=Hd (Va.o.below Ea);have Aa:H9 (Below w.heap.size w w2):=Pa.o.trans (Ea.mono Wa);have cl:w2.cell? ⟨b2,o2+(m-1),none⟩=some (it (ys.getD (m-1) 0)):=(Aa.o.cell (p:=⟨b2,o2+(m-1),none⟩) l2).trans (Ta.o (m-1) (by omega));clear Da Qa Ea;have Hb:1≤m:=(by omega);have Ib:(0:Int)≤(m:Int)-1:=(by omega);have Jb:(m:Int)-1<(m:Int):=(by omega);generalize ys.getD (m-1) 0=Za at cl;(go_wp2_with fail);refine (specInv_any Za _).mono ?_;rintro e w2 ⟨rfl,rfl⟩;clear cl;go_wp2;refine wp_loop_rounds 1 ?_;rw [rounds_succ];(go_wp2_with fail);refine (l2Trim_any _ Xa.o.sees (by omega)).mono ?_;rintro e w6 ⟨a6,l6,c6,rfl,Ra,Fa⟩;have Sa:H9 (Owns 2 w6 w2.heap.size a6 l6 c6 []):=Ra;have Ab:=Hd (Ya.o.below Fa);have Ga:=Hd (Aa.o.trans (Fa.mono Aa.o.size));clear Ra Fa;(go_wp2_with fail);refine (l2Trim_any _ Ab.o.sees (by omega)).mono ?_;rintro e w7 ⟨a7,l7,c7,rfl,Ba,Ha⟩;rw [Ua.o] at Ba;have Bb:H9 (Owns 2 w7 w.heap.size a6 l6 c6 []):=(Sa.o.below Ha).mono Aa.o.size;have Cb:H9 (Owns 2 w7 w.heap.size a7 l7 c7 zs):=Ba.mono Ga.o.size
 have Db:H9 (∀ x y,a6=some x→a7=some y→x.block≠y.block):=fun x y hx hy=>by
  have h1:=Sa.o.hi x hx;have h2:=Ba.lo y hy;omega
 have Eb:=Hd (Ga.o.trans (Ha.mono Ga.o.size));clear Ba Ha;go_wp2
 go_ret2
 exact ⟨a6,l6,c6,a7,l7,c7,_,_,rfl,Bb.o,Cb.o,HD.o,Db.o,Eb.o⟩
theorem M.nodup_no {zs:List Int} {i k:Nat} (hi:i<zs.length) (hk:k<i) (e:zs.getD i 0=zs.getD k 0):decide zs.Nodup=false:=
 decide_eq_false fun h=>(M.nodup_iff zs).1 h k i hk hi e.symm
theorem M.nodup_yes {zs:List Int} (h:∀ i k,i<zs.length→k<i→zs.getD i 0≠zs.getD k 0):decide zs.Nodup=true:=
 decide_eq_true ((M.nodup_iff zs).2 fun i j hij hj e=>h j i hj hij e.symm)
set_option maxHeartbeats 2000000 in
theorem allUnlike_any {a:Option Addr} {n c:Nat} {zs:List Int} (w:World) (hz:Sees w a n c zs) :
  Calls Tryz.prog 138 #[.slice a n c] w fun e w'=>e=.returned (.bool (decide zs.Nodup))∧w'=w:=by
 have bn:(n:Int)≤9223372036854775807:=(by have:=hz.big;have:=hz.le;omega);have Fa:(n:Int)≤(c:Int):=(by have:=hz.le;omega);have HZ:=Hd (hz);clear hz;go_enter Tryz.func138,Tryz.ntmps138;go_wp2
 go_loop [9] (fun i=>∃ k:Nat,k≤n∧i=it k∧∀ i j,i<k→j<i→zs.getD i 0≠zs.getD j 0) (fun i=>n-(intOf i).toNat)
 case atStart=>exact ⟨0,by omega,rfl,fun i j h=>by omega⟩
 case round =>
  obtain ⟨i,hi,rfl,Ba⟩:=hrel;have HA:=Hd (Ba);clear Ba;by_cases Ca:i<n
  ·
   obtain ⟨b1,o1,rfl,Aa⟩:=HZ.o.at (by omega);have c1:=Aa i Ca;have HC:=Hd (Aa);clear Aa;generalize hx:zs.getD i 0=x at c1;have HX:=Hd (hx);have hI:(i:Int)<(n:Int):=(by omega);have Ga:(i:Int)≤(c:Int):=(by omega);have Ha:i≤c:=(by omega);clear hx;go_wp2
   go_loop [18] (fun q=>∃ k:Nat,k≤i∧q=it k∧∀ j,j<k→x≠zs.getD j 0) (fun q=>i-(intOf q).toNat)
   case atStart=>exact ⟨0,by omega,rfl,fun j h=>by omega⟩
   case round =>
    obtain ⟨k,hk,rfl,Da⟩:=hrel;have HN:=Hd (Da);clear Da;by_cases Ea:k<i
    ·
     have c2:=HC.o k (by omega);generalize hy:zs.getD k 0=y at c2;have HY:=Hd (hy);have hK:(k:Int)<(i:Int):=(by omega);clear hy;by_cases he:x=y
     ·
      have hb:(x == y)=true:=(by simp [he]);have HE:H9 (x=y):=he;clear he;go_wp2;go_ret;exact ⟨ret_bool (M.nodup_no (by rw [HZ.o.len];exact Ca) Ea (by rw [HX.o,HY.o];exact HE.o)).symm,rfl⟩
     ·
      have hb:(x == y)=false:=(by simp [he]);have HE:H9 (x≠y):=he;clear he;go_wp2
      go_round
      case rel =>
       refine ⟨k+1,by omega,by go_num,fun j hj=>?_⟩;by_cases e:j=k
       · subst e;rw [HY.o];exact HE.o
       · exact HN.o j (by omega)
      case measure=>simp [intOf];omega
    ·
     have hki':k=i:=(by omega);have HK:H9 (k=i):=hki';clear hki';go_wp2
     go_round
     case rel =>
      refine ⟨i+1,by omega,by go_num,fun j m hj hm=>?_⟩;by_cases e:j=i
      · subst e;rw [HX.o];exact HN.o m (by rw [HK.o];exact hm)
      · exact HA.o j m (by omega) hm
     case measure=>simp [intOf];omega
  ·
   go_wp2;go_ret;exact ⟨ret_bool (M.nodup_yes fun j k hj hk=>HA.o j k (by rw [HZ.o.len] at hj;omega) hk).symm,rfl⟩
set_option maxHeartbeats 8000000 in
set_option maxRecDepth 10000 in
theorem jobsOk_any {ab aj:Option Addr} {nb cb nj cj:Nat} {js:List M.Jb} (now next:Int) (h0:0≤now) (h1:now≤1000000000) (g0:1≤next) (g1:next≤1000000000) (w:World) (hz:SeesJ w aj nj cj js) :
  Calls Tryz.prog 120 #[.agg #[.int .i64 now,.int .i64 next,.slice ab nb cb,.slice aj nj cj]] w fun e w'=>e=.returned (.bool (decide (nj≤6) && M.jsGo now next 0 js))∧Below w.heap.size w w':=by
 have bn:(nj:Int)≤9223372036854775807:=(by have:=hz.big;have:=hz.le;omega);have HZ:=Hd (hz);have La:=lnw w (v4' now next ab nb cb aj nj cj) 27;have Ia:H9 (Below w.heap.size w (w.alloc (.cells (v4' now next ab nb cb aj nj cj).toArray 27))):=(Below.refl _ _).alloc (Nat.le_refl _) _;clear hz;by_cases hs:nj≤6
 ·
  have Xa:(nj:Int)≤6:=(by omega);rw [show decide (nj≤6)=true by simpa using hs,Bool.true_and];generalize hR:M.jsGo now next 0 js=R;have HR:=Hd (hR);clear hR;go_enter Tryz.func120,Tryz.ntmps120;go_wp2
  go_loopw [3,13] (fun l i wr=>∃ (j:Nat) (q:Int),j≤nj∧i=it j∧l=it q∧0≤q∧q≤1000000000∧M.jsGo now next q (js.drop j)=R∧Lies wr w.heap.size (v4' now next ab nb cb aj nj cj)∧Below w.heap.size w wr) (fun _ i _=>nj-(intOf i).toNat)
  case atStart=>exact ⟨0,0,by omega,rfl,rfl,by omega,by omega,HR.o,La.o,Ia.o⟩
  case round =>
   obtain ⟨j,q,hj,rfl,rfl,Fb,Gb,hg,Na,Oa⟩:=hrel;have Ga:=Hd (Oa);have Pa:=Hd (Na);clear Oa Na La Ia HR;by_cases Qa:j<nj
   ·
    obtain ⟨b1,o1,rfl,Ra⟩:=(HZ.o.below Ga.o).at (by omega);obtain ⟨ta,tc,hA,hT⟩:=Ra j Qa;have hI:(j:Int)<(nj:Int):=by omega
    have hG:(((decide (q+1≤(js.getD j M.j0).id) && decide ((js.getD j M.j0).id≤next-1)) && M.jbOk now (js.getD j M.j0)) && M.jsGo now next (js.getD j M.j0).id (js.drop (j+1)))=R:=by
     rw [← hg,drop_step M.j0 HZ.o.len Qa];rfl
    generalize js.getD j M.j0=cq at hA hT hG;obtain ⟨Aa,⟨⟨a,b,c',d,f,k⟩,⟨a',b',Ba,d',f',k'⟩⟩,⟨s1,s2⟩,jr,jg,tl⟩:=cq;dsimp only at hT hG;have hR:wr.rangeAt b1 (o1+j*18) (jvs ⟨Aa,⟨⟨a,b,c',d,f,k⟩,⟨a',b',Ba,d',f',k'⟩⟩,(s1,s2),jr,jg,tl⟩ ta tc):=row_of_cells rfl hA;have HT:=Hd (hT);have C2:∀ W,SeesT W ta tl.length tc tl→Calls Tryz.prog 134 #[.agg (jvs ⟨Aa,⟨⟨a,b,c',d,f,k⟩,⟨a',b',Ba,d',f',k'⟩⟩,(s1,s2),jr,jg,tl⟩ ta tc).toArray,.int .i64 now] W fun e w'=>e=.returned (.bool (M.jbOk now ⟨Aa,⟨⟨a,b,c',d,f,k⟩,⟨a',b',Ba,d',f',k'⟩⟩,(s1,s2),jr,jg,tl⟩))∧Below W.heap.size W w':=fun W h=>jobOk_any Aa a b c' d f k a' b' Ba d' f' k' s1 s2 jr jg now h0 h1 W h;have C1:=within_any Aa (q+1) (next-1);dsimp only [jvs] at hR C2;generalize M.jbOk now ⟨Aa,⟨⟨a,b,c',d,f,k⟩,⟨a',b',Ba,d',f',k'⟩⟩,(s1,s2),jr,jg,tl⟩=Ya at hG C2;generalize tl.length=tn at hR HT C2;generalize Da:(decide (q+1≤Aa) && decide (Aa≤next-1))=Za at hG C1;have Ab:=Hd (Da);have HG:=Hd (hG);clear Ra hA hT hg hG Da;(go_wp2_with (with_reducible refine wpList_stop 16 ?_ ?_;rfl));with_reducible refine ldm 44 b1 (o1+j*18) (v0' Aa a b c' d f k a' b' Ba d' f' k' s1 s2 jr jg ta tn tc) hR Tryz.underlying44 ?q5 ?_
    case q5=>exact ⟨rfl,rfl,by kernel_rfl,_,rfl,by kernel_rfl⟩
    have Sa:=Hd (Pa.o);have Ja:=Hd (Ga.o);have Ta:=Hd (HT.o);clear Pa Ga HT hR;(go_wp2_with (with_reducible refine wpList_stop 5 ?_ ?_;rfl));show wpList _ _ _ _ _ _;have Ua:(Instr.alloc 44 true (.tuple #[])).run Tryz.prog wr=.ok (.pointer (some ⟨wr.heap.size,0,none⟩)) (wr.alloc (.cells v2'.toArray 44)):=(by kernel_rfl);with_reducible refine wpList_alloc_as ?qg 44 ?qo v2'.toArray Ua ?_
    case qg | qo=>exact rfl
    clear Ua;show wpList _ _ _ _ _ _;with_reducible refine Hx (stm 44 wr.heap.size 0 (v0' Aa a b c' d f k a' b' Ba d' f' k' s1 s2 jr jg ta tn tc) ?q6 ?q5 ?_)
    case q6=>exact (lies_new _ _ _).there _ 18 (by simp)
    case q5=>exact ⟨rfl,by kernel_rfl,by kernel_rfl,_,_,rfl,by kernel_rfl,by kernel_rfl⟩
    have Ha:Below wr.heap.size wr ((wr.alloc (.cells v2'.toArray 44)).setCells wr.heap.size 0 (v0' Aa a b c' d f k a' b' Ba d' f' k' s1 s2 jr jg ta tn tc)):=below_setCells _ _ ((Below.refl _ _).alloc (Nat.le_refl _) _) (Nat.le_refl _);have Ea:=Hd (Sa.o.belowS Ha);have Fa:=Hd (Ja.o.trans (Ha.mono Ja.o.size));have Ka:=Hd (Ta.o.below Ha);clear Sa Ja Ta;clear Ha;have Ca:H9 (Lies ((wr.alloc (.cells v2'.toArray 44)).setCells wr.heap.size 0 (v0' Aa a b c' d f k a' b' Ba d' f' k' s1 s2 jr jg ta tn tc)) wr.heap.size (v0' Aa a b c' d f k a' b' Ba d' f' k' s1 s2 jr jg ta tn tc)):=(lies_new wr v2'.toArray 44).setCells (v0' Aa a b c' d f k a' b' Ba d' f' k' s1 s2 jr jg ta tn tc) 0 (by simp);generalize ((wr.alloc (.cells v2'.toArray 44)).setCells wr.heap.size 0 (v0' Aa a b c' d f k a' b' Ba d' f' k' s1 s2 jr jg ta tn tc))=w2 at Ea Fa Ka Ca  ⊢;generalize wr.heap.size=jb at Ca  ⊢;have m1:=Ea.o.c 1 rfl;have x0:=Ca.o.c 0 rfl;(go_wp2_with fail);clear m1 x0;refine (C1 _).mono ?_;rintro e wz ⟨rfl,Va⟩;have Bb:=Va.symm;clear Va;subst Bb
    cases Za with
    | false =>
     go_wp2;go_ret;exact ⟨ret_bool HG.o,Fa.o⟩
    | true =>
     have Da:=Ab.o;simp only [Bool.and_eq_true,decide_eq_true_eq] at Da;obtain ⟨Hb,Ib⟩:=Da;(go_wp2_with (with_reducible refine wpList_stop 25 ?_ ?_;rfl));show wpList _ _ _ _ _ _;with_reducible refine wpList_run ?qg (.bool false) w2 ?qrun ?_
     case qg | qrun=>exact rfl
     show wpList _ _ _ _ _ _;with_reducible refine wpList_run ?qg (.bool false) w2 ?qrun ?_
     case qg | qrun=>exact rfl
     show wpList _ _ _ _ _ _;have iL:(Tryz.prog.info? 44).map (·.size)=some ((v0' Aa a b c' d f k a' b' Ba d' f' k' s1 s2 jr jg ta tn tc):List Value).length:=(show (Tryz.prog.info? 44).map (·.size)=some 18 by kernel_rfl);with_reducible refine wpList_load_want ?qw 44 ?qlw ?qo jb 0 ?qhx (v0' Aa a b c' d f k a' b' Ba d' f' k' s1 s2 jr jg ta tn tc) _ Ca.o.row Tryz.underlying44 ?qd iL ?_
     case qw | qo | qhx | qd=>exact rfl
     clear iL;show wpList _ _ _ _ _ _;have m0:=Ea.o.c 0 rfl;(go_wp2_with fail);clear m0;refine (C2 _ Ka.o).mono ?_;rintro e w3 ⟨rfl,hb⟩;have Cb:=Hd (Ea.o.belowS hb);have Wa:=Hd (Fa.o.trans (hb.mono Fa.o.size));have Db:=Hd (Ca.o.belowS hb);clear Ea Fa Ka Ca;clear hb
     cases Ya with
     | false =>
      go_wp2;go_ret;exact ⟨ret_bool HG.o,Wa.o⟩
     | true =>
      have Eb:H9 (M.jsGo now next Aa (js.drop (j+1))=R):=(by show _=_;have:=HG.o;simpa using this);have x0:=Db.o.c 0 rfl;go_wp2;go_roundw
      case rel=>exact ⟨j+1,Aa,by omega,by go_num,rfl,by omega,by omega,Eb.o,Cb.o,Wa.o⟩
      case measure=>simp [intOf];omega
   ·
    go_wp2;go_ret;refine ⟨ret_bool ?_,Ga.o⟩;rw [List.drop_of_length_le (by rw [HZ.o.len];omega)] at hg;exact hg
 ·
  have Xa:(6:Int)<(nj:Int):=(by omega);rw [show decide (nj≤6)=false by simpa using hs,Bool.false_and];go_enter Tryz.func120,Tryz.ntmps120;go_wp2;go_ret;exact ⟨rfl,Ia.o⟩
theorem indexInt_any {a:Option Addr} {n c:Nat} {zs:List Int} (v:Int) (w:World) (hz:Sees w a n c zs) :
  Calls Tryz.prog 147 #[.slice a n c,.int .i64 v] w fun e w'=>∃ r:Int,e=.returned (.int .i64 r)∧decide (0≤r)=zs.contains v∧w'=w:=by
 have bn:(n:Int)≤9223372036854775807:=(by have:=hz.big;have:=hz.le;omega);have Ea:(n:Int)≤c:=(by have:=hz.le;omega);have HZ:=Hd (hz);generalize hR:zs.contains v=R;have HR:=Hd (hR);clear hR hz;go_enter Tryz.func147,Tryz.ntmps147;go_wp2
 go_loop [8] (fun i=>∃ k:Nat,k≤n∧i=it k∧(zs.drop k).contains v=R) (fun i=>n-(intOf i).toNat)
 case atStart=>exact ⟨0,by omega,rfl,HR.o⟩
 case round =>
  obtain ⟨k,hk,rfl,hg⟩:=hrel;by_cases Aa:k<n
  ·
   obtain ⟨b1,o1,rfl,Ba⟩:=HZ.o.at (by omega);have c1:=Ba k Aa
   have hG:(v == zs.getD k 0 || (zs.drop (k+1)).contains v)=R:=by
    rw [← hg,drop_step 0 HZ.o.len Aa,List.contains_cons]
   generalize zs.getD k 0=x at c1 hG;have HG:=Hd (hG);clear Ba hg hG;have hI:(k:Int)<(n:Int):=(by omega);by_cases hx:v=x
   ·
    have hb:(v == x)=true:=(by simp [hx]);have Ca:(x == v)=true:=(by simp [hx]);clear hx;go_wp2;go_ret;refine ⟨_,rfl,?_,rfl⟩;have:=HG.o;rw [hb,Bool.true_or] at this;rw [← this];simp
   ·
    have hb:(v == x)=false:=(by simp [hx]);have Ca:(x == v)=false:=(by simp;exact fun e=>hx e.symm);have Da:H9 ((zs.drop (k+1)).contains v=R):=(by show _=_;have:=HG.o;rw [hb,Bool.false_or] at this;exact this);clear hx;go_wp2
    go_round
    case rel=>exact ⟨k+1,by omega,by go_num,Da.o⟩
    case measure=>simp [intOf];omega
  ·
   go_wp2;go_ret;refine ⟨_,rfl,?_,rfl⟩;rw [List.drop_of_length_le (by rw [HZ.o.len];omega)] at hg;rw [← hg];rfl
theorem containsInt_any {a:Option Addr} {n c:Nat} {zs:List Int} (v:Int) (w:World) (hz:Sees w a n c zs) :
  Calls Tryz.prog 137 #[.slice a n c,.int .i64 v] w fun e w'=>e=.returned (.bool (zs.contains v))∧w'=w:=by
 have HZ:=Hd (hz);clear hz;go_enter Tryz.func137,Tryz.ntmps137;(go_wp2_with fail);refine (indexInt_any v _ HZ.o).mono ?_;rintro e wz ⟨r,rfl,hr,rfl⟩;have HR:=Hd (hr);clear hr;go_wp2;go_ret;exact ⟨ret_bool HR.o,rfl⟩
theorem isBanned_any {mb:Nat} {a:Option Addr} {n c:Nat} {zs:List Int} (v:Int) (w:World) (hc:w.cell? ⟨mb,2,none⟩=some (.slice a n c)) (hz:Sees w a n c zs) :
  Calls Tryz.prog 136 #[.int .i64 v,.pointer (some ⟨mb,0,none⟩)] w fun e w'=>e=.returned (.bool (zs.contains v))∧w'=w:=by
 have CC:=containsInt_any v w hz;generalize zs.contains v=o at CC ⊢;clear hz;go_enter Tryz.func136,Tryz.ntmps136;(go_wp2_with fail);refine CC.mono ?_;rintro e wz ⟨rfl,rfl⟩;go_wp2;go_ret;exact ⟨rfl,rfl⟩
theorem indexBanned_any {mb:Nat} {a:Option Addr} {n c:Nat} {zs:List Int} {ab:Option Addr} {nb cb:Nat} {bs:List Int} (w:World) (hc:w.cell? ⟨mb,2,none⟩=some (.slice ab nb cb)) (hb:Sees w ab nb cb bs) (hz:Sees w a n c zs) :
  Calls Tryz.prog 148 #[.slice a n c,.func (.func 136) #[] #[.pointer (some ⟨mb,0,none⟩)]] w fun e w'=>∃ r:Int,e=.returned (.int .i64 r)∧decide (0≤r)=zs.any (fun x=>bs.contains x)∧w'=w:=by
 have bn:(n:Int)≤9223372036854775807:=(by have:=hz.big;have:=hz.le;omega);have Fa:(n:Int)≤c:=(by have:=hz.le;omega);have HZ:=Hd (hz);have HC:H9 (∀ v,Calls Tryz.prog 136 #[.int .i64 v,.pointer (some ⟨mb,0,none⟩)] w fun e w'=>e=.returned (.bool (bs.contains v))∧w'=w):=fun v=>isBanned_any v w hc hb;generalize hR:zs.any (fun x=>bs.contains x)=R;have HR:=Hd (hR);clear hR hz hb hc;go_enter Tryz.func148,Tryz.ntmps148;go_wp2
 go_loop [8] (fun i=>∃ k:Nat,k≤n∧i=it k∧(zs.drop k).any (fun x=>bs.contains x)=R) (fun i=>n-(intOf i).toNat)
 case atStart=>exact ⟨0,by omega,rfl,HR.o⟩
 case round =>
  obtain ⟨k,hk,rfl,hg⟩:=hrel;by_cases Aa:k<n
  ·
   obtain ⟨b1,o1,rfl,Ba⟩:=HZ.o.at (by omega);have c1:=Ba k Aa
   have hG:(bs.contains (zs.getD k 0) || (zs.drop (k+1)).any (fun x=>bs.contains x))=R:=by
    rw [← hg,drop_step 0 HZ.o.len Aa,List.any_cons]
   have C1:=HC.o (zs.getD k 0);generalize zs.getD k 0=x at c1 hG C1;generalize bs.contains x=ob at hG C1;have HG:=Hd (hG);clear Ba hg hG;have hI:(k:Int)<(n:Int):=(by omega);(go_wp2_with fail);refine C1.mono ?_;rintro e wz ⟨rfl,Ca⟩;have Da:=Ca.symm;clear Ca;subst Da
   cases ob with
   | true =>
    go_wp2;go_ret;refine ⟨_,rfl,?_,rfl⟩;have:=HG.o;rw [Bool.true_or] at this;rw [← this];simp
   | false =>
    have Ea:H9 ((zs.drop (k+1)).any (fun x=>bs.contains x)=R):=(by show _=_;have:=HG.o;rw [Bool.false_or] at this;exact this);go_wp2
    go_round
    case rel=>exact ⟨k+1,by omega,by go_num,Ea.o⟩
    case measure=>simp [intOf];omega
  ·
   go_wp2;go_ret;refine ⟨_,rfl,?_,rfl⟩;rw [List.drop_of_length_le (by rw [HZ.o.len];omega)] at hg;rw [← hg];rfl
theorem containsBanned_any {mb:Nat} {a:Option Addr} {n c:Nat} {zs:List Int} {ab:Option Addr} {nb cb:Nat} {bs:List Int} (w:World) (hc:w.cell? ⟨mb,2,none⟩=some (.slice ab nb cb)) (hb:Sees w ab nb cb bs) (hz:Sees w a n c zs) :
  Calls Tryz.prog 139 #[.slice a n c,.func (.func 136) #[] #[.pointer (some ⟨mb,0,none⟩)]] w fun e w'=>e=.returned (.bool (zs.any (fun x=>bs.contains x)))∧w'=w:=by
 have CI:=indexBanned_any w hc hb hz;generalize zs.any (fun x=>bs.contains x)=o at CI ⊢;clear hc hb hz;go_enter Tryz.func139,Tryz.ntmps139;(go_wp2_with fail);refine CI.mono ?_;rintro e wz ⟨r,rfl,hr,rfl⟩;have HR:=Hd (hr);clear hr;go_wp2;go_ret;exact ⟨ret_bool HR.o,rfl⟩
theorem M.wkT_len (ts:List M.Tk):(M.wkT ts).length≤ts.length:=by unfold M.wkT;rw [List.length_map];exact List.length_filter_le _ _
theorem M.wks_len : ∀ js:List M.Jb,(∀ j∈js,j.ts.length≤8)→(M.wks js).length≤8*js.length
 | [],_=>by simp [M.wks]
 | j::js,h=>by
  have h1:=M.wks_len js fun q hq=>h q (List.mem_cons_of_mem _ hq);have h2:=M.wkT_len j.ts;have h3:=h j List.mem_cons_self;have e:M.wks (j::js)=M.wkT j.ts++M.wks js:=(by simp [M.wks]);rw [e,List.length_append,List.length_cons];omega
theorem M.jsGo_small {now next:Int}:∀ {js:List M.Jb} {last:Int},M.jsGo now next last js=true→∀ j∈js,j.ts.length≤8
 | [],_,_,_,h=>by cases h
 | q::js,last,h,j,hj=>by
  unfold M.jsGo M.jbOk at h;simp only [Bool.and_eq_true,decide_eq_true_eq] at h
  rcases List.mem_cons.1 hj with e | e
  · rw [e];exact h.1.2.1.2.2.2.2.1
  · exact M.jsGo_small h.2 j e
theorem M.wks_step {js:List M.Jb} {j n:Nat} (hl:js.length=n) (h:j<n):M.wks (js.take (j+1))=M.wks (js.take j)++M.wkT (js.getD j M.j0).ts:=by
 unfold M.wks;rw [List.take_succ_eq_append_getElem (by omega),List.flatMap_append,List.getD_eq_getElem?_getD,List.getElem?_eq_getElem (by omega)]
 congr 1
 rw [List.flatMap_cons,List.flatMap_nil,List.append_nil];rfl
theorem range_below {w w':World} {b o:Nat} {cs:List Value} (h:w.rangeAt b o cs) (hb:Below w.heap.size w w'):w'.rangeAt b o cs:=fun j v hv=>(hb.cell (p:=⟨b,o+j,none⟩) (World.block_lt_of_cell? w _ (h j v hv))).trans (h j v hv)
theorem M.wkT_step {ts:List M.Tk} {k n:Nat} (hl:ts.length=n) (h:k<n):M.wkT (ts.take (k+1))=M.wkT (ts.take k)++(if M.leased (ts.getD k M.t0)=true then [(ts.getD k M.t0).worker] else []):=by
 rw [List.take_succ_eq_append_getElem (by omega),List.getD_eq_getElem?_getD,List.getElem?_eq_getElem (by omega)];unfold M.wkT;rw [List.filter_append,List.map_append]
 congr 1
 by_cases e:M.leased ts[k]=true <;> simp [e]
theorem Owns.count {t:TypeId} {w:World} {base n cap:Nat} {a:Option Addr} {zs:List Int} (h:Owns t w base a n cap zs):zs.length=n:=by
 have:=h.1;rw [List.length_map] at this;omega
def LsR (w1:World) (ws:List Int) (l:Value) (wr:World):Prop:=∃ (a:Option Addr) (m c:Nat),l=.slice a m c∧Owns 2 wr w1.heap.size a m c ws∧Below w1.heap.size w1 wr
set_option maxHeartbeats 8000000 in
set_option maxRecDepth 10000 in
theorem leasesOk_any {ab aj:Option Addr} {nb cb nj cj:Nat} {bs:List Int} {js:List M.Jb} (now next:Int) (w:World) (hz:SeesM w ab nb cb aj nj cj bs js) (hj6:nj≤6) (ht8:∀ j∈js,j.ts.length≤8) :
  Calls Tryz.prog 121 #[.agg #[.int .i64 now,.int .i64 next,.slice ab nb cb,.slice aj nj cj]] w fun e w'=>e=.returned (.bool (decide (M.wks js).Nodup && !(M.wks js).any (fun x=>bs.contains x)))∧Below w.heap.size w w':=by
 have bn:(nj:Int)≤9223372036854775807:=(by omega);have Ub:js.length=nj:=hz.j.len;have Wa:=lnw w (v4' now next ab nb cb aj nj cj) 27;have La:H9 (Below w.heap.size w (w.alloc (.cells (v4' now next ab nb cb aj nj cj).toArray 27))):=(Below.refl _ _).alloc (Nat.le_refl _) _;have Ra:H9 (SeesM (w.alloc (.cells (v4' now next ab nb cb aj nj cj).toArray 27)) ab nb cb aj nj cj bs js):=hz.below La.o
 have Vb:H9 (∀ j,j≤nj→(M.wks (js.take j)).length≤8*j):=fun j hj=>by
  have:=M.wks_len (js.take j) fun q hq=>ht8 q (List.mem_of_mem_take hq);rw [List.length_take] at this;omega
 have Wb:H9 (∀ j,(js.getD j M.j0).ts.length≤8):=fun j=>by
  rw [List.getD_eq_getElem?_getD];by_cases h:j<js.length
  · rw [List.getElem?_eq_getElem h];exact ht8 _ (List.getElem_mem h)
  · rw [List.getElem?_eq_none (by omega)];exact Nat.zero_le _
 have HI:H9 (∃ i0,Tryz.prog.info? 2 = some i0∧i0.zero=some (it 0)∧i0.size=1∧i0.bytes=8):=by
  obtain ⟨i0,h1,h2,h3,h4⟩:=info_parts info_i64;exact ⟨i0,h1,h2,h3,h4⟩
 generalize hN:decide (M.wks js).Nodup=oN;have HN:=Hd (hN);generalize hAn:(M.wks js).any (fun x=>bs.contains x)=oA;have Xb:=Hd (hAn);clear hz ht8 hN hAn;go_enter Tryz.func121,Tryz.ntmps121;go_wp2;generalize (w.alloc (.cells (v4' now next ab nb cb aj nj cj).toArray 27))=w1 at Wa La Ra ⊢
 go_loopw [3,12] (fun l i wr=>∃ j:Nat,j≤nj∧i=it j∧LsR w1 (M.wks (js.take j)) l wr) (fun _ i _=>nj-(intOf i).toNat)
 case atStart=>exact ⟨0,by omega,rfl,none,0,0,rfl,⟨rfl,.inl ⟨rfl,rfl⟩⟩,Below.refl _ _⟩
 case round =>
  obtain ⟨j,hj,rfl,al,ml,cl,rfl,Xa,Ya⟩:=hrel;have Ea:=Hd (Ya);have Ha:H9 (Owns 2 wr w1.heap.size al ml cl (M.wks (js.take j))):=Xa;clear Ya Xa;by_cases Za:j<nj
  ·
   obtain ⟨b1,o1,rfl,Ab⟩:=Ra.o.j.at (by omega);obtain ⟨ta,tc,hA,hT⟩:=Ab j Za;have hI:(j:Int)<(nj:Int):=(by omega);have HW:H9 (M.wks (js.take (j+1))=M.wks (js.take j)++M.wkT (js.getD j M.j0).ts):=M.wks_step Ub Za;have h9:=Wb.o j;have h8:=Vb.o j hj;generalize js.getD j M.j0=cq at hA hT HW h9;obtain ⟨Aa,⟨⟨a,b,c',d,f,k⟩,⟨a',b',Ba,d',f',k'⟩⟩,⟨s1,s2⟩,jr,jg,tl⟩:=cq;dsimp only at hT HW h9;have hR:wr.rangeAt b1 (o1+j*18) (jvs ⟨Aa,⟨⟨a,b,c',d,f,k⟩,⟨a',b',Ba,d',f',k'⟩⟩,(s1,s2),jr,jg,tl⟩ ta tc):=range_below (row_of_cells rfl hA) Ea.o;have HT:=Hd (hT);dsimp only [jvs] at hR;generalize Bb:tl.length=tn at hR HT h9;have Cb:=Hd (Bb);clear Ab hA hT Bb;(go_wp2_with (with_reducible refine wpList_stop 15 ?_ ?_;rfl));with_reducible refine ldm 44 b1 (o1+j*18) (v0' Aa a b c' d f k a' b' Ba d' f' k' s1 s2 jr jg ta tn tc) hR Tryz.underlying44 ?q5 ?_
   case q5=>exact ⟨rfl,rfl,by kernel_rfl,_,rfl,by kernel_rfl⟩
   have Ca:=Hd (Ea.o);have Ia:H9 (Owns 2 wr w1.heap.size al ml cl (M.wks (js.take j))):=Ha.o;clear Ea Ha hR;(go_wp2_with (with_reducible refine wpList_stop 5 ?_ ?_;rfl));show wpList _ _ _ _ _ _;have Db:(Instr.alloc 44 true (.tuple #[])).run Tryz.prog wr=.ok (.pointer (some ⟨wr.heap.size,0,none⟩)) (wr.alloc (.cells v2'.toArray 44)):=(by kernel_rfl);with_reducible refine wpList_alloc_as ?qg 44 ?qo v2'.toArray Db ?_
   case qg | qo=>exact rfl
   clear Db;show wpList _ _ _ _ _ _;with_reducible refine Hx (stm 44 wr.heap.size 0 (v0' Aa a b c' d f k a' b' Ba d' f' k' s1 s2 jr jg ta tn tc) ?q6 ?q5 ?_)
   case q6=>exact (lies_new _ _ _).there _ 18 (by simp)
   case q5=>exact ⟨rfl,by kernel_rfl,by kernel_rfl,_,_,rfl,by kernel_rfl,by kernel_rfl⟩
   have Fa:Below wr.heap.size wr ((wr.alloc (.cells v2'.toArray 44)).setCells wr.heap.size 0 (v0' Aa a b c' d f k a' b' Ba d' f' k' s1 s2 jr jg ta tn tc)):=below_setCells _ _ ((Below.refl _ _).alloc (Nat.le_refl _) _) (Nat.le_refl _);have Da:=Hd (Ca.o.trans (Fa.mono Ca.o.size));have Ga:=Hd (Ia.o.below Fa);clear Ca Ia;clear Fa;have Na:H9 (Lies ((wr.alloc (.cells v2'.toArray 44)).setCells wr.heap.size 0 (v0' Aa a b c' d f k a' b' Ba d' f' k' s1 s2 jr jg ta tn tc)) wr.heap.size (v0' Aa a b c' d f k a' b' Ba d' f' k' s1 s2 jr jg ta tn tc)):=(lies_new wr v2'.toArray 44).setCells (v0' Aa a b c' d f k a' b' Ba d' f' k' s1 s2 jr jg ta tn tc) 0 (by simp);generalize ((wr.alloc (.cells v2'.toArray 44)).setCells wr.heap.size 0 (v0' Aa a b c' d f k a' b' Ba d' f' k' s1 s2 jr jg ta tn tc))=w2 at Da Ga Na  ⊢;generalize wr.heap.size=jb at Na  ⊢;have Yb:=Na.o.c 17 rfl;have Ec:(tn:Int)≤8:=(by omega);go_wp2;clear Yb;clear Na
   go_loopw [3,19] (fun l i wr=>∃ p:Nat,p≤tn∧i=it p∧LsR w1 (M.wks (js.take j)++M.wkT (tl.take p)) l wr) (fun _ i _=>tn-(intOf i).toNat)
   case atStart=>exact ⟨0,by omega,rfl,al,ml,cl,rfl,by rw [List.take_zero,show M.wkT []=[] from rfl,List.append_nil];exact Ga.o,Da.o⟩
   case round =>
    obtain ⟨p,hp,rfl,ai,mi,ci,rfl,Sa,Ta⟩:=hrel;clear Ga Da;have Ca:=Hd (Ta);have Ia:H9 (Owns 2 wr w1.heap.size ai mi ci (M.wks (js.take j)++M.wkT (tl.take p))):=Sa;have Eb:=HT.o.below Ta;have Fb:=Sa.count;rw [List.length_append] at Fb;have Gb:=M.wkT_len (tl.take p);rw [List.length_take] at Gb;clear Sa Ta;have Fc:mi≤100:=(by omega);clear Fb Gb;by_cases Hb:p<tn
    ·
     obtain ⟨b2,o2,rfl,Ib⟩:=Eb.at (by omega);have hA:=Ib p Hb;have Gc:(p:Int)<(tn:Int):=(by omega);have Ja:H9 (M.wkT (tl.take (p+1))=M.wkT (tl.take p)++(if M.leased (tl.getD p M.t0)=true then [(tl.getD p M.t0).worker] else [])):=M.wkT_step Cb.o Hb;have C1:=isLeased_any (tl.getD p M.t0);generalize tl.getD p M.t0=x at hA Ja C1;obtain ⟨td,x,y⟩:=x;dsimp only [tkv] at C1 Ja;generalize M.leased ⟨td,x,y⟩=ow at C1 Ja;have a0:wr.cell? ⟨b2,o2+p*3,none⟩=some (.bool td):=hA 0 (by omega);have a1:wr.cell? ⟨b2,o2+p*3+1,none⟩=some (it x):=hA 1 (by omega);have a2:wr.cell? ⟨b2,o2+p*3+2,none⟩=some (it y):=hA 2 (by omega);clear Ib hA Eb;have Fa:=bal wr (.cells (v27' td x y).toArray 74);have Da:=Hd (Ca.o.trans (Fa.mono Ca.o.size));have Ga:=Hd (Ia.o.below Fa);clear Ca Ia;clear Fa;have Oa:=lnw wr (v27' td x y) 74;(go_wp2_with fail);clear a0 a1 a2;generalize (wr.alloc (.cells (v27' td x y).toArray 74))=w3 at Da Ga Oa  ⊢;generalize wr.heap.size=tb at Oa  ⊢;refine (C1 _).mono ?_;rintro e w5 ⟨rfl,hb⟩;have Ua:=Hd (Da.o.trans (hb.mono Da.o.size));have Pa:=Hd (Ga.o.below hb);have Zb:=Hd (Oa.o.belowS hb);clear Da Ga Oa;clear hb
     cases ow with
     | false =>
      have Qa:H9 (M.wks (js.take j)++M.wkT (tl.take p)=M.wks (js.take j)++M.wkT (tl.take (p+1))):=(by show _=_;rw [Ja.o,if_neg (by decide),List.append_nil]);go_wp2;go_roundw
      case rel=>exact ⟨p+1,by omega,by go_num,ai,mi,ci,rfl,by rw [← Qa.o];exact Pa.o,Ua.o⟩
      case measure=>simp [intOf];omega
     | true =>
      have Qa:H9 (M.wks (js.take j)++M.wkT (tl.take p)++[x]=M.wks (js.take j)++M.wkT (tl.take (p+1))):=(by show _=_;rw [Ja.o,if_pos rfl,List.append_assoc]);generalize M.wks (js.take j)++M.wkT (tl.take p)=ws at Qa Pa;obtain ⟨i0,hi,Kb,Lb,Nb⟩:=HI.o;have Ob:=Ua.o.size;have Ac:=Zb.o.c 1 rfl;(go_wp2_with (at_builtin;refine wpList_append_own _ rfl _ _ 24 rfl w1.heap.size 2 i0 (it 0) 1 8 Tryz.underlying24 hi Kb Lb Nb rfl (by decide) _ mi (ws.map (Value.int .i64)) rfl (World.ownsRow.alloc Pa.o _) ⟨w5.heap.size,0,none⟩ 1 1 [it x] rfl rfl (cell_one w5 x _) (one_int x) (by unfold maxLen;omega) (by omega) (by simp;omega) ?_));intro v' w6 Pb Qb _;have hown':w6.ownsRow w1.heap.size 2 1 v' (mi+1) ((ws++[x]).map (Value.int .i64)):=(by rw [List.map_append];exact Pb);obtain ⟨a',Rb,rfl,Sb⟩:=Owns.form hown';have HO':H9 (Owns 2 w6 w1.heap.size a' (mi+1) Rb (ws++[x])):=Sb;have HB':H9 (Below w1.heap.size w1 w6):=below_grownBy Ua.o ((World.grownBy_alloc w5 _ _).trans Qb) Ob (fun q hq=>(World.ownsRow.lt Pa.o q hq).1);clear Pb hown' Qb Sb hi Kb Lb Nb Ac Ob;rw [Qa.o] at HO';go_wp2;go_roundw
      case rel=>exact ⟨p+1,by omega,by go_num,a',mi+1,Rb,rfl,HO'.o,HB'.o⟩
      case measure=>simp [intOf];omega
    ·
     have Bc:p=tn:=(by omega);subst Bc;have Cc:H9 (M.wks (js.take j)++M.wkT (tl.take p)=M.wks (js.take (j+1))):=(by have e:tl.take p=tl:=List.take_of_length_le (Nat.le_of_eq Cb.o);show _=_;rw [HW.o,e]);go_wp2;go_roundw
     case rel=>exact ⟨j+1,by omega,by go_num,ai,mi,ci,rfl,by rw [← Cc.o];exact Ia.o,Ca.o⟩
     case measure=>simp [intOf];omega
  ·
   have Dc:j=nj:=(by omega);subst Dc;have hW:M.wks (js.take j)=M.wks js:=(by rw [List.take_of_length_le (by omega)]);rw [hW] at Ha;have C1:=allUnlike_any wr Ha.o.sees;have C2:=containsBanned_any wr ((Wa.o.belowS Ea.o).at 2) (Ra.o.b.below Ea.o) Ha.o.sees;rw [HN.o] at C1;rw [Xb.o] at C2;have Tb:=Hd (La.o.trans (Ea.o.mono La.o.size));clear hW Ha Ea;(go_wp2_with fail);refine C1.mono ?_;rintro e wz ⟨rfl,Ka⟩;have Va:=Ka.symm;clear Ka;subst Va
   cases oN with
   | false =>
    go_wp2;go_ret;exact ⟨rfl,Tb.o⟩
   | true =>
    (go_wp2_with fail);refine C2.mono ?_;rintro e wz ⟨rfl,Ka⟩;have Va:=Ka.symm;clear Ka;subst Va;go_wp2;go_ret;exact ⟨rfl,Tb.o⟩
set_option maxHeartbeats 8000000 in
set_option maxRecDepth 10000 in
theorem implMarketOk_any {ab aj:Option Addr} {nb cb nj cj:Nat} {bs:List Int} {js:List M.Jb} (now next:Int) (w:World) (hz:SeesM w ab nb cb aj nj cj bs js) :
  Calls Tryz.prog 84 #[.agg #[.int .i64 now,.int .i64 next,.slice ab nb cb,.slice aj nj cj]] w fun e w'=>e=.returned (.bool (M.mkOk now next bs js))∧Below w.heap.size w w':=by
 have Ga:js.length=nj:=hz.j.len;have HM:=Hd (hz);have C1:=within_any now 0 1000000000;have C2:=within_any next 1 1000000000;have C3:∀ W,Sees W ab nb cb bs→Calls Tryz.prog 119 #[.slice ab nb cb] W fun e w'=>e=.returned (.bool (M.bnGo 0 bs))∧w'=W:=fun W h=>bannedOk_any W h
 have C4:H9 ((decide (0≤now) && decide (now≤1000000000))=true→(decide (1≤next) && decide (next≤1000000000))=true→∀ W,SeesJ W aj nj cj js→Calls Tryz.prog 120 #[.agg #[.int .i64 now,.int .i64 next,.slice ab nb cb,.slice aj nj cj]] W fun e w'=>e=.returned (.bool (decide (nj≤6) && M.jsGo now next 0 js))∧Below W.heap.size W w'):=fun h1 h2 W h=>by
  simp only [Bool.and_eq_true,decide_eq_true_eq] at h1 h2;exact jobsOk_any now next h1.1 h1.2 h2.1 h2.2 W h
 have C5:H9 ((decide (nj≤6) && M.jsGo now next 0 js)=true→∀ W,SeesM W ab nb cb aj nj cj bs js→Calls Tryz.prog 121 #[.agg #[.int .i64 now,.int .i64 next,.slice ab nb cb,.slice aj nj cj]] W fun e w'=>e=.returned (.bool (decide (M.wks js).Nodup && !(M.wks js).any (fun x=>bs.contains x)))∧Below W.heap.size W w'):=fun h1 W h=>by
  simp only [Bool.and_eq_true,decide_eq_true_eq] at h1;exact leasesOk_any now next W h h1.1 (M.jsGo_small h1.2)
 unfold M.mkOk;rw [Ga];generalize (decide (M.wks js).Nodup && !(M.wks js).any (fun x=>bs.contains x))=o5 at C5 ⊢;generalize (decide (nj≤6) && M.jsGo now next 0 js)=o4 at C4 C5 ⊢;generalize M.bnGo 0 bs=o3 at C3 ⊢;generalize (decide (1≤next) && decide (next≤1000000000))=o2 at C2 C4 ⊢;generalize (decide (0≤now) && decide (now≤1000000000))=o1 at C1 C4 ⊢;clear hz;go_enter Tryz.func84,Tryz.ntmps84;have Aa:=lnw w (v4' now next ab nb cb aj nj cj) 27;have Ba:H9 (Below w.heap.size w (w.alloc (.cells (v4' now next ab nb cb aj nj cj).toArray 27))):=(Below.refl _ _).alloc (Nat.le_refl _) _;(go_wp2_with fail);generalize (w.alloc (.cells (v4' now next ab nb cb aj nj cj).toArray 27))=wa at Aa Ba  ⊢;refine (C1 _).mono ?_;rintro e wz ⟨rfl,Ca⟩;have Da:=Ca.symm;clear Ca;subst Da
 cases o1 with
 | false =>
  go_wp2;go_ret;exact ⟨by simp,Ba.o⟩
 | true =>
  have x1:=Aa.o.c 1 rfl;(go_wp2_with fail);clear x1;refine (C2 _).mono ?_;rintro e wz ⟨rfl,Ca⟩;have Da:=Ca.symm;clear Ca;subst Da
  cases o2 with
  | false =>
   go_wp2;go_ret;exact ⟨by simp,Ba.o⟩
  | true =>
   have x2:=Aa.o.c 2 rfl;(go_wp2_with fail);clear x2;refine (C3 _ (HM.o.b.below Ba.o)).mono ?_;rintro e wz ⟨rfl,Ca⟩;have Da:=Ca.symm;clear Ca;subst Da
   cases o3 with
   | false =>
    go_wp2;go_ret;exact ⟨by simp,Ba.o⟩
   | true =>
    have x0:=Aa.o.c 0 rfl;have x1:=Aa.o.c 1 rfl;have x2:=Aa.o.c 2 rfl;have x3:=Aa.o.c 3 rfl;(go_wp2_with fail);clear x0 x1 x2 x3;refine (C4.o (by simp) (by simp) _ (HM.o.j.below Ba.o)).mono ?_;rintro e wb ⟨rfl,hb⟩;have Ea:=Hd (Aa.o.belowS hb);have Fa:=Hd (Ba.o.trans (hb.mono Ba.o.size));clear Aa Ba;clear hb
    cases o4 with
    | false =>
     go_wp2;go_ret;exact ⟨by simp,Fa.o⟩
    | true =>
     have x0:=Ea.o.c 0 rfl;have x1:=Ea.o.c 1 rfl;have x2:=Ea.o.c 2 rfl;have x3:=Ea.o.c 3 rfl;(go_wp2_with fail);clear x0 x1 x2 x3;refine (C5.o (by simp) _ (HM.o.below Fa.o)).mono ?_;rintro e wc ⟨rfl,hb⟩;have Ha:=Hd (Fa.o.trans (hb.mono Fa.o.size));clear Ea Fa;clear hb;go_wp2;go_ret;exact ⟨by simp,Ha.o⟩
end Go.Proofs.YtfhknkppiidnkaaGreat
