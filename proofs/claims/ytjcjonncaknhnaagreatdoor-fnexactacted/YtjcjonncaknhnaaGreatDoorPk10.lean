import Derived.Test.YtjcjonncaknhnaaGreatDoorPk09
namespace Go.Proofs.YtjcjonncaknhnaaGreatDoor
open Go.RowKit Go.Proofs.Tryz
set_option linter.unusedSimpArgs false
set_option maxHeartbeats 32000000
variable {N i k:Nat}
def km(N:Nat):Value:=.agg #[.int .i64 (N:Int),.int .i64 1,.int .i64 (M.root (N:Int)),.int .i64 (4*(N:Int)),.int .i64 3,.int .i64 (M.root (4*(N:Int))),.int .i64 (M.lst N)]
theorem nS(h:M.rowsN N=true):M.rows (N:Int)=true:=by
 rcases M.rowsN_cases h with rfl | rfl | rfl | rfl <;> rfl
theorem oD(N:Nat)(w:World)(h:M.rowsN N=true):Rt 108 #[.int .i64 N] w (.tuple #[km N,.bool true]):=by
 have C1:=gF N;rw[nS h]at C1;have Fa:M.ptOk (N:Int) 1=true:=M.row_pt (M.rowsN_two h);have Ga:M.ptOk (4*(N:Int)) 3=true:=(by have:=M.rowsN_pt h;rwa[show((4*N:Nat):Int)=4*(N:Int) by omega]at this);have C2:=fun W=>eu (N:Int) 1 W Fa;have C3:=fun W=>eu (4*(N:Int)) 3 W Ga;have La:=M.rowsN_pos h;have hr:=(M.el_iff _).1 (M.root_el (M.two64_two (M.rowsN_two h)));have C4:=fun W=>fN (M.root (N:Int)) (N-1) W hr.1 hr.2 (by omega);have HL:H9 (M.lst N=M.pw (M.root (N:Int)) (N-1)):=rfl;unfold km;rw[HL.o];generalize M.pw (M.root (N:Int)) (N-1)=la at C4;generalize M.root (N:Int)=R1 at C2 C4;generalize M.root (4*(N:Int))=R4 at C3;have Ha:((N-1:Nat):Int)=(N:Int)-1:=(by omega);rw[Ha]at C4;have Ua:IntKind.i64.wrap ((N:Int)-1)=(N:Int)-1:=(by rw[tW];omega);have Va:(N:Int)≤16:=(by omega);have Wa:(2:Int)≤(N:Int):=(by omega);have LZ:=cz w rH 186;have HB:H9 (Below w.heap.size w (w.alloc (.cells rH.toArray 186))):=(tv _ _).alloc (tr _) _;clear Fa Ga hr HL Ha h La;go_enter func108,ntmps108;(go_wp2_with fail);refine(C1 _).mono ?_;rintro e w1 ⟨rfl,rfl⟩;(go_wp2_with fail);refine(C2 _).mono ?_;rintro e w1 ⟨rfl,Ca⟩;have Ea:H9 (ae (w1.alloc (.cells (pH (N:Int) R1).toArray 184)) w.heap.size rH):=(LZ.o.belowS Ca).alloc _;have Ia:=cz w1 (pH (N:Int) R1) 184;have Da:H9 (Below w.heap.size w (w1.alloc (.cells (pH (N:Int) R1).toArray 184))):=(HB.o.trans (Ca.mono HB.o.size)).alloc (tB HB.o.size Ca.size) _;have Na:H9 (w1.heap.size≠w.heap.size):=Nat.ne_of_gt (LZ.o.belowS Ca).2.2;clear Ca LZ HB;(go_wp2_with fail);refine(C3 _).mono ?_;rintro e w2 ⟨rfl,Aa⟩;have Oa:H9 (w2.heap.size≠w.heap.size):=Nat.ne_of_gt (Ea.o.belowS Aa).2.2;have Ja:H9 (ae (w2.alloc (.cells (kC (4*(N:Int)) R4).toArray 184)) w.heap.size rH):=(Ea.o.belowS Aa).alloc _;have Pa:H9 (ae (w2.alloc (.cells (kC (4*(N:Int)) R4).toArray 184)) w1.heap.size (pH (N:Int) R1)):=(Ia.o.belowS Aa).alloc _;have Qa:=cz w2 (kC (4*(N:Int)) R4) 184;have Ra:H9 (Below w.heap.size w (w2.alloc (.cells (kC (4*(N:Int)) R4).toArray 184))):=(Da.o.trans (Aa.mono Da.o.size)).alloc (tB Da.o.size Aa.size) _;clear Aa Ea Ia Da;go_wp2;generalize w2.alloc (.cells (kC (4*(N:Int)) R4).toArray 184)=wa at *;have HN:=Hd (Pa.o);have HW:=Hd (Qa.o);have HZ:H9 (ae wa.drew w.heap.size rH):=Ja.o.below (tv _ _).drew Ja.o.2.2;refine wp_region_noPanic ?_;refine wp_region_held_drew (S:=fun W=>ae W w1.heap.size (pH (N:Int) R1)∧ae W w2.heap.size (kC (4*(N:Int)) R4)) (by kernel_rfl) (⟨HN.o.below (tv _ _).drew HN.o.2.2,HW.o.below (tv _ _).drew HW.o.2.2⟩) (fun hHeld=>?_);refine wpAnyH_take (i:=0) (v:=.agg (pH (N:Int) R1).toArray) rfl (by kernel_rfl) (by kernel_rfl) (by kernel_rfl) (fun _ _ _ h=>h) (tQ (by kernel_rfl) 184 (.tmp 4) rfl w1.heap.size 0 rfl (pH (N:Int) R1) _ (fun W h=>h.1.row) underlying184 rfl (by kernel_rfl)) (by assumption) ?_;refine wpAnyH_take (i:=1) (v:=.agg (kC (4*(N:Int)) R4).toArray) rfl (by kernel_rfl) (by kernel_rfl) (by kernel_rfl) (fun _ _ _ h=>h) (tQ (by kernel_rfl) 184 (.tmp 6) rfl w2.heap.size 0 rfl (kC (4*(N:Int)) R4) _ (fun W h=>h.2.row) underlying184 rfl (by kernel_rfl)) (by assumption) ?_;refine tk 2 (.pointer (some ⟨w1.heap.size,2,none⟩)) ?_ ?_
 ·intro wq Ba;go_simp
 refine tk 3 (it R1) ?_ ?_
 ·intro wq Ba;have hq:wq.cell? ⟨w1.heap.size,2,none⟩=some (it R1):=Ba.1.at 2;go_simp
 refine tk 4 (it (N:Int)) ?_ ?_
 ·intro wq Ba;go_simp
 refine tk 5 (it ((N:Int)-1)) ?_ ?_
 ·intro wq Ba;go_simp
 refine tY (rs:=[6]) (by kernel_rfl) (by simp) ?_;refine tD rfl (fun K hK=>?_) tM;go_simp;refine(C4 _).mono ?_;rintro e wn ⟨rfl,rfl⟩;go_simp;refine hK.out _ _ (by assumption) (fun hHeld1=>?_);clear hK K;refine tk 7 (.agg (db (N:Int) R1 (4*(N:Int)) R4 la).toArray) ?_ ?_
 ·intro wq Ba;go_simp
 refine tY (rs:=[8]) (by kernel_rfl) (by simp) ?_;refine tD rfl (fun K hK=>?_) tM;rw[if_pos (by kernel_rfl)];with_reducible refine wp_store_mid 186 (.tmp 2) (.tmp 37) ?_ w.heap.size 0 (db (N:Int) R1 (4*(N:Int)) R4 la).toArray ?_ ?_ ?_ (by kernel_rfl) (by kernel_rfl) ?_
 ·exact rfl
 ·exact rfl
 ·exact rfl
 ·exact HZ.o.there 0 7 (by simp)
 refine hK.out _ _ (⟨hHeld.1.farCells _ 0 Na.o,hHeld.2.farCells _ 0 Oa.o⟩) (fun hHeld2=>?_);clear hK K;refine tk 9 (.bool true) ?_ ?_
 ·intro wq Ba;go_simp
 refine bt ?_;go_simp;have L7:ae (wa.drew.setCells w.heap.size 0 (db (N:Int) R1 (4*(N:Int)) R4 la)) w.heap.size (db (N:Int) R1 (4*(N:Int)) R4 la):=HZ.o.setCells (db (N:Int) R1 (4*(N:Int)) R4 la) 0 (by simp);have Ka:Below w.heap.size w (wa.drew.setCells w.heap.size 0 (db (N:Int) R1 (4*(N:Int)) R4 la)):=aD _ 0 Ra.o.drew (tr _);generalize wa.drew.setCells w.heap.size 0 (db (N:Int) R1 (4*(N:Int)) R4 la)=wz at *;have Sa:H9 (ae wz w.heap.size (db (N:Int) R1 (4*(N:Int)) R4 la)):=L7;have Ta:H9 (Below w.heap.size w wz):=Ka;clear L7 Ka;go_wp2;exact tx (iF rfl rfl (tS wz w.heap.size 0 186 _ _ Sa.o.row underlying186 rfl (by kernel_rfl))) rfl ⟨rfl,Ta.o⟩
theorem ll(h:i<4*N):(M.gp 3 (M.root (4*(N:Int))) (4*N)).getD i 0=M.zp N i:=by
 rw[M.gp_get _ _ _ _ h];unfold M.zp;rw[show((4*N:Nat):Int)=4*(N:Int) by omega]
set_option maxRecDepth 10000 in
theorem qO(N:Nat)(w:World)(h:M.rowsN N=true):Calls prog 256 #[km N] w fun e w'=>∃a' c',e=.returned (.slice a' (4*N) c')∧ar 182 w' w.heap.size a' (4*N) c' (M.tab (4*N) (M.zer N))∧Below w.heap.size w w':=by
 have Tb:=M.rowsN_pos h;obtain⟨K,hK⟩:∃K:Nat,K=4*N:=⟨_,rfl⟩;have Ja:4*(N:Int)=(K:Int):=(by omega);have Da:=(M.el_iff _).1 (M.root_el (M.two64_two (M.rowsN_two4 h)));rw[show((4*N:Nat):Int)=4*(N:Int) by omega]at Da;have CA:=fun W=>fY K 3 (M.root (4*(N:Int))) W (by omega) (by omega) Da.1 Da.2 (by omega);have CP:H9 (∀i W,Rq 178 #[it (M.zp N i),it (N:Int)] W (it (M.pw (M.zp N i) N))):=fun i W=>fN (M.zp N i) N W (M.zp_bd N i).1 (M.zp_bd N i).2 (by omega);have CM:H9 (∀i W,Rq 224 #[it (M.pw (M.zp N i) N),it 1] W (it (M.zer N i))):=fun i W=>eQ _ 1 W ((M.el_iff _).1 (M.el_pw _ _)).1 ((M.el_iff _).1 (M.el_pw _ _)).2 (by omega) (by omega);have HG:H9 (∀i,i<K→(M.gp 3 (M.root (4*(N:Int))) K).getD i 0=M.zp N i):=fun i hi=>by subst hK;exact ll hi
 have HS:H9 (∀k,M.tab k (M.zer N)++[M.zer N k]=M.tab (k+1) (M.zer N)):=fun k=>ge k _;obtain⟨i0,hi,Qa,Ra,Sa⟩:=info_parts dk;have HI:H9 (prog.info? 182=some i0∧i0.zero=some (Value.int .i64 0)∧i0.size=1∧i0.bytes=8):=⟨hi,Qa,Ra,Sa⟩;unfold km;rw[Ja,←hK];rw[Ja]at CA HG;have Ub:K≤64:=(by omega);generalize M.gp 3 (M.root (K:Int)) K=G at CA HG;generalize M.root (N:Int)=R1;generalize M.root (K:Int)=R4 at CA;generalize M.lst N=la;clear hi Qa Ra Sa Da h hK Ja;have LF:=cz w (db (N:Int) R1 (K:Int) R4 la) 186;have Ta:H9 (Below w.heap.size w (w.alloc (.cells (db (N:Int) R1 (K:Int) R4 la).toArray 186))):=(tv _ _).alloc (tr _) _;have Vb:(N:Int)≤16:=(by omega);have Wb:(2:Int)≤(N:Int):=(by omega);go_enter func256,ntmps256;(go_wp2_with(at_make;refine wpList_make_own _ rfl _ _ 125 rfl (w.heap.size+1) 182 i0 (it 0) 1 underlying125 HI.o.1 HI.o.2.1 HI.o.2.2.1 .i64 .i64 _ K rfl rfl rfl (by rw[HI.o.2.2.2];omega) (by unfold maxLen;omega) (by simp) ?_));intro w1 Aa hg;have HO:H9 (ar 182 w1 (w.heap.size+1) (some ⟨w.heap.size+1,0,none⟩) 0 K []):=Aa;have Ba:=Hd (LF.o.grown hg (by simp));have Ka:H9 (Below w.heap.size w w1):=Ta.o.trans ((bq hg).mono (by simp));have f3:=Ba.o.c 3;have f4:=Ba.o.c 4;have f5:=Ba.o.c 5;clear Aa hg LF Ta;(go_wp2_with fail);refine(CA _).mono ?_;rintro e w2 ⟨pa,pc,rfl,La,Ea⟩;have Ua:H9 (ar 182 w2 w1.heap.size pa K pc G):=La;have Va:=Hd (HO.o.below Ea);have Wa:=Hd (Ba.o.belowS Ea);have Xa:=Hd (Ka.o.trans (Ea.mono Ka.o.size));have HX:H9 (∀x,pa=some x→w1.heap.size≤x.block):=La.lo;have Jb:H9 (w.heap.size+1<w1.heap.size):=HO.o.hi _ rfl;clear La Ea f3 f4 f5 HO Ba Ka CA;go_wp2
 go_loopw [3,14] (fun s i wr=>∃(k:Nat) (a':Option Addr) (Ca:Nat),k≤K∧i=it k∧s=.slice a' k Ca∧ar 182 wr (w.heap.size+1) a' k Ca (M.tab k (M.zer N))∧ah wr pa K pc G∧(∀x y,pa=some x→a'=some y→y.block≠x.block)∧ae wr w.heap.size (db (N:Int) R1 (K:Int) R4 la)∧Below w.heap.size w wr) (fun _ i _=>K-(intOf i).toNat)
 case atStart=>exact⟨0,_,K,by omega,rfl,rfl,Va.o,Ua.o.sees,fun x y hx hy e=>by have:=HX.o x hx;have:=Jb.o;injection hy with hy;subst hy;simp at e;omega,Wa.o,Xa.o⟩
 case round=>
  obtain⟨k,a',Ca,hk,rfl,rfl,Ya,Za,Ab,Bb,Cb⟩:=hrel;have Fa:H9 (ar 182 wr (w.heap.size+1) a' k Ca (M.tab k (M.zer N))):=Ya;have Db:=Hd (Za);have Kb:=Hd (Ab);have Na:=Hd (Bb);have Ga:=Hd (Cb);clear Ya Za Ab Bb Cb Va Ua Wa Xa;by_cases Eb:k<K
  ·
   obtain⟨b1,o1,rfl,Fb⟩:=Db.o.at (by omega);have e1:=Fb k Eb;rw[HG.o k Eb]at e1;have f0:=Na.o.c 0;have hI:(k:Int)<(K:Int):=(by omega);have Lb:H9 (b1<wr.heap.size):=tV wr _ e1;have Oa:H9 _:=CP.o k;have Ha:H9 _:=CM.o k;have Gb:H9 (M.tab k (M.zer N)++[M.zer N k]=M.tab (k+1) (M.zer N)):=HS.o k;clear Fb;generalize M.zp N k=z at e1 Oa Ha;generalize M.pw z N=pz at Oa Ha;generalize M.zer N k=zk at Ha Gb;(go_wp2_with fail);refine(Oa.o _).mono ?_;rintro e wn ⟨rfl,rfl⟩;(go_wp2_with fail);refine(Ha.o _).mono ?_;rintro e wn ⟨rfl,rfl⟩;(go_wp2_with(at_builtin;refine wpList_append_own_at _ rfl _ _ 125 rfl (w.heap.size+1) 182 i0 (it 0) 1 8 underlying125 HI.o.1 HI.o.2.1 HI.o.2.2.1 HI.o.2.2.2 rfl (by decide) _ k ((M.tab k (M.zer N)).map (Value.int .i64)) rfl (uc Fa.o _) ⟨wn.heap.size,0,none⟩ 1 1 [it zk] rfl rfl (b7 _ _ _) (cJ _) (by unfold maxLen;omega) (by omega) (by have:=Na.o.2.2;simp;omega) ?_));intro v' w4 Aa Ia _ Hb;have hown':w4.ownsRow (w.heap.size+1) 182 1 v' (k+1) ((M.tab (k+1) (M.zer N)).map (Value.int .i64)):=(by rw[←Gb.o,t8];exact Aa);obtain⟨b4,c4,rfl,Ib⟩:=ar.form hown';have Nb:H9 (ar 182 w4 (w.heap.size+1) b4 (k+1) c4 (M.tab (k+1) (M.zer N))):=Ib;have Pa:∀y,a'=some y→y.block≠b1:=fun y hy=>Kb.o _ y rfl hy
   have Ob:H9 (ah w4 (some ⟨b1,o1,none⟩) K pc G):=(Db.o.below ((tv _ _).alloc (tr _) _)).grownR Ia (fun x hx=>by
    injection hx with hx;subst hx;intro e
    cases a' with
    | none=>simp[Value.ownBlock]at e
    | some y=>simp[Value.ownBlock]at e;exact Pa y rfl e)
   have Pb:H9 (ae w4 w.heap.size (db (N:Int) R1 (K:Int) R4 la)):=(Na.o.alloc _).grown Ia (fun e=>by
    cases a' with
    | none=>simp[Value.ownBlock]at e
    | some y=>simp[Value.ownBlock]at e;have:=Fa.o.lo y rfl;omega)
   have Qb:H9 (∀x y,some (⟨b1,o1,none⟩:Addr)=some x→b4=some y→y.block≠x.block):=fun x y hx hy=>by
    injection hx with hx;subst hx;subst hy;have:=Lb.o
    rcases Hb with e | e
    ·
     cases a' with
     | none=>simp[Value.ownBlock]at e
     | some z=>simp[Value.ownBlock]at e;rw[e];exact Pa z rfl
    ·simp[Value.ownBlock]at e;simp;omega
   have Rb:H9 (Below w.heap.size w w4):=(Ga.o.alloc Ga.o.size _).grown Ia (by have:=Ga.o.size;simp;omega) (fun q hq=>by
    cases a' with
    | none=>simp[Value.ownBlock]at hq
    | some y=>simp[Value.ownBlock]at hq;have:=Fa.o.lo y rfl;omega)
   clear Aa hown' Ia Ib Hb Pa;go_wp2;go_roundw
   case rel=>exact⟨k+1,b4,c4,by omega,by go_num,rfl,Nb.o,Ob.o,Qb.o,Pb.o,Rb.o⟩
   case measure=>simp[intOf];omega
  ·
   have Sb:k=K:=(by omega);subst Sb;go_wp2;go_ret;exact⟨a',Ca,rfl,Fa.o.mono (by omega),Ga.o⟩
def bV(m:M.Mc)(ps:List (Int×Int))(N i:Nat):Int×Int:=
 (((ps.getD ((i+4)%(4*N)) (0,0)).1+65537-(m.nx (ps.getD i (0,0))).1)%65537*((M.zp N i+65537-M.lst N)%65537)%65537,((ps.getD ((i+4)%(4*N)) (0,0)).2+65537-(m.nx (ps.getD i (0,0))).2)%65537*((M.zp N i+65537-M.lst N)%65537)%65537)
def bR(k:Nat)(f:Nat→Int×Int):List (Int×Int):=(List.range k).map f
theorem nZ(k:Nat)(f:Nat→Int×Int):(bR k f).length=k:=by simp[bR]
theorem mv(k:Nat)(f:Nat→Int×Int):bR k f++[f k]=bR (k+1) f:=by simp[bR,List.range_succ]
theorem jI(f:Nat→Int×Int)(h:i<k):(bR k f).getD i (0,0)=f i:=by simp[bR,tu,h]
set_option maxRecDepth 10000 in
theorem pe{la0:Option Addr}{lc:Nat}{ps:List (Int×Int)}(m:M.Mc)(N:Nat)(w:World)(h:M.rowsN N=true)(hm:m.ok=true)(hz:dt w la0 (4*N) lc ps)(hps:∀i,i<4*N→M.sOk (ps.getD i (0,0))=true):
  Calls prog 182 #[km N,.iface 255 (cQ m),.slice la0 (4*N) lc] w fun e w'=>∃a' c',e=.returned (.slice a' (4*N) c')∧aU 328 w' w.heap.size a' (4*N) c' (bR (4*N) (bV m ps N))∧Below w.heap.size w w':=by
 have Ue:=M.rowsN_pos h;obtain⟨K,hK⟩:∃K:Nat,K=4*N:=⟨_,rfl⟩;have Hb:4*(N:Int)=(K:Int):=(by omega);have Za:=(M.el_iff _).1 (M.root_el (M.two64_two (M.rowsN_two4 h)));rw[show((4*N:Nat):Int)=4*(N:Int) by omega]at Za;have CA:=fun W=>fY K 3 (M.root (4*(N:Int))) W (by omega) (by omega) Za.1 Za.2 (by omega);have HG:H9 (∀i,i<K→(M.gp 3 (M.root (4*(N:Int))) K).getD i 0=M.zp N i):=fun i hi=>by subst hK;exact ll hi
 have HS:H9 (∀k,bR k (bV m ps N)++[bV m ps N k]=bR (k+1) (bV m ps N)):=fun k=>mv k _;have Ib:=(M.el_iff _).1 (M.el_lst N)
 have Jb:H9 (∀k,k<K→∃j,j<K∧((k:Int)+4).tmod (K:Int)=(j:Int)∧(∀W,Rt 330 #[cQ m,cC (ps.getD k (0,0))] W (cC (m.nx (ps.getD k (0,0)))))∧(∃t,M.sOk t=true∧(∀W,Rt 254 #[cC (ps.getD j (0,0)),cC (m.nx (ps.getD k (0,0)))] W (cC t))∧(∀W,Rq 224 #[it (M.zp N k),it (M.lst N)] W (it ((M.zp N k+65537-M.lst N)%65537)))∧(∀W,Rt 255 #[cC t,it ((M.zp N k+65537-M.lst N)%65537)] W (cC (bV m ps N k))))):=fun k hk=>by
  have hj:(k+4)%K<K:=Nat.mod_lt _ (by omega);refine⟨(k+4)%K,hj,?_,fun W=>kX m _ W hm (hps k (by omega)),((((ps.getD ((k+4)%K) (0,0)).1+65537-(m.nx (ps.getD k (0,0))).1)%65537,((ps.getD ((k+4)%K) (0,0)).2+65537-(m.nx (ps.getD k (0,0))).2)%65537)),?_,fun W=>ks _ _ W (hps _ (by omega)) (M.sOk_nx m _),fun W=>eQ _ _ W (M.zp_bd N k).1 (M.zp_bd N k).2 Ib.1 Ib.2,fun W=>?_⟩
  ·rw[Int.tmod_eq_emod_of_nonneg (by omega),show(k:Int)+4=((k+4:Nat):Int) by omega];exact(Int.natCast_emod _ _).symm
  ·exact(M.sOk_iff _).2 ⟨⟨by simp only;omega,by simp only;omega⟩,⟨by simp only;omega,by simp only;omega⟩⟩
  ·
   have:=jY ((((ps.getD ((k+4)%K) (0,0)).1+65537-(m.nx (ps.getD k (0,0))).1)%65537,((ps.getD ((k+4)%K) (0,0)).2+65537-(m.nx (ps.getD k (0,0))).2)%65537)) ((M.zp N k+65537-M.lst N)%65537) W ((M.sOk_iff _).2 ⟨⟨by simp only;omega,by simp only;omega⟩,⟨by simp only;omega,by simp only;omega⟩⟩) (by omega) (by omega);unfold bV;rw[←hK];exact this
 obtain⟨i0,hi,Bc,Cc,Dc⟩:=info_parts fM;have HI:H9 (prog.info? 328=some i0∧i0.zero=some (.agg #[it 0,it 0])∧i0.size=2∧i0.bytes=16):=⟨hi,Bc,Cc,Dc⟩;rw[←hK]at hz;unfold km;rw[Hb,←hK];rw[Hb]at CA HG;have Ve:K≤64:=(by omega);have We:8≤K:=(by omega);have HZ:=Hd (hz);generalize M.gp 3 (M.root (K:Int)) K=G at CA HG;generalize M.root (N:Int)=R1;generalize M.root (K:Int)=R4 at CA;generalize bV m ps N=MA at Jb HS;generalize M.lst N=la at Jb;clear hi Bc Cc Dc Za h hK Hb hz hps hm Ib;obtain⟨lb,lo,rfl,-⟩:=HZ.o.at (by omega);have LF:=cz w (db (N:Int) R1 (K:Int) R4 la) 186;have Ec:H9 (Below w.heap.size w (w.alloc (.cells (db (N:Int) R1 (K:Int) R4 la).toArray 186))):=(tv _ _).alloc (tr _) _;go_enter func182,ntmps182;(go_wp2_with(at_make;refine wpList_make_own _ rfl _ _ 268 rfl (w.heap.size+1) 328 i0 (.agg #[it 0,it 0]) 2 underlying268 HI.o.1 HI.o.2.1 HI.o.2.2.1 .i64 .i64 _ K rfl rfl rfl (by rw[HI.o.2.2.2];omega) (by unfold maxLen;omega) (by simp) ?_));intro w1 Ta hg;have HO:H9 (aU 328 w1 (w.heap.size+1) (some ⟨w.heap.size+1,0,none⟩) 0 K []):=⟨rfl,Ta⟩;have Ua:=Hd (LF.o.grown hg (by simp));have Kb:H9 (Below w.heap.size w w1):=Ec.o.trans ((bq hg).mono (by simp));have f3:=Ua.o.c 3;have f4:=Ua.o.c 4;have f5:=Ua.o.c 5;clear Ta hg LF Ec;(go_wp2_with fail);refine(CA _).mono ?_;rintro e w2 ⟨pa,pc,rfl,Lb,Ha⟩;have Fc:H9 (ar 182 w2 w1.heap.size pa K pc G):=Lb;have Gc:=Hd (HO.o.below Ha);have Hc:=Hd (Ua.o.belowS Ha);have Ic:=Hd (Kb.o.trans (Ha.mono Kb.o.size));have HX:H9 (∀x,pa=some x→w1.heap.size≤x.block):=Lb.lo
 have Vd:H9 (w.heap.size+1<w1.heap.size):=by
  rcases HO.o.2.2 with e | ⟨g,cp,cur,e,hb,hc,r⟩
  ·simp at e
  ·
   injection e with e1;injection e1 with e1;injection e1 with e1 e2;subst e1;exact ar.grownR.lt_of_heap hc
 clear Lb Ha f3 f4 f5 HO Ua Kb CA;go_wp2
 go_loopw [7,19] (fun s i wr=>∃(k:Nat) (a':Option Addr) (Aa:Nat),k≤K∧i=it k∧s=.slice a' k Aa∧aU 328 wr (w.heap.size+1) a' k Aa (bR k MA)∧ah wr pa K pc G∧(∀x y,pa=some x→a'=some y→y.block≠x.block)∧ae wr w.heap.size (db (N:Int) R1 (K:Int) R4 la)∧Below w.heap.size w wr) (fun _ i _=>K-(intOf i).toNat)
 case atStart=>exact⟨0,_,K,by omega,rfl,rfl,Gc.o,Fc.o.sees,fun x y hx hy e=>by have:=HX.o x hx;have:=Vd.o;injection hy with hy;subst hy;simp at e;omega,Hc.o,Ic.o⟩
 case round=>
  obtain⟨k,a',Aa,hk,rfl,rfl,Jc,Kc,Lc,Nc,Oc⟩:=hrel;have La:H9 (aU 328 wr (w.heap.size+1) a' k Aa (bR k MA)):=Jc;have Nb:=Hd (Kc);have Pc:=Hd (Lc);have Qc:=Hd (Nc);have Va:=Hd (Oc);clear Jc Kc Lc Nc Oc Gc Fc Hc Ic;by_cases Ab:k<K
  ·
   obtain⟨b1,o1,rfl,Rc⟩:=Nb.o.at (by omega);have e1:=Rc k Ab;rw[HG.o k Ab]at e1;have hI:(k:Int)<(K:Int):=(by omega);obtain⟨j,hj,Xe,D1,t,Wd,D2,D3,D4⟩:=Jb.o k Ab;obtain⟨Xd,Yd,Bb,Ob⟩:=(HZ.o.below Va.o).at (by omega);obtain⟨rfl,rfl⟩:lb=Xd∧lo=Yd:=by injection Bb with Bb;injection Bb with h1 h2;exact⟨h1,h2⟩
   obtain⟨Pb,Qb⟩:=Ob j hj;obtain⟨Cb,Db⟩:=Ob k Ab;have Ye:(j:Int)<(K:Int):=(by omega);have Sc:H9 (bR k MA++[MA k]=bR (k+1) MA):=HS.o k;have Zd:H9 (b1<wr.heap.size):=tV wr _ e1;generalize ps.getD j (0,0)=q2 at Pb Qb D2;generalize ps.getD k (0,0)=q1 at Cb Db D1 D2;generalize m.nx q1=n1 at D1 D2;generalize M.zp N k=z at e1 D3 D4;generalize(z+65537-la)%65537=zl at D3 D4;generalize MA k=mk at D4 Sc;obtain⟨x2,y2⟩:=q2;obtain⟨x1,y1⟩:=q1;obtain⟨u1,v1⟩:=n1;obtain⟨t1,t2⟩:=t;obtain⟨m1,m2⟩:=mk;dsimp only[cC]at Pb Qb Cb Db D1 D2 D4;have E1:H9 (wr.cell? ⟨lb,lo+k*2,none⟩=some (it x1)∧wr.cell? ⟨lb,lo+k*2+1,none⟩=some (it y1)):=⟨Cb,Db⟩;have Tc:H9 _:=D1;have Rb:H9 _:=D2;have Ae:H9 _:=D3;have Be:H9 _:=D4;have Ze:IntKind.i64.wrap ((k:Int)+4)=(k:Int)+4:=(by rw[tW];omega);clear Rc Ob Bb Cb Db D1 D2 D3 D4 Wd;go_wp2;have Uc:=cz wr [it x2,it y2] 328;have Vc:H9 (aU 328 (wr.alloc (.cells #[it x2,it y2] 328)) (w.heap.size+1) a' k Aa (bR k MA)):=La.o.below ((tv _ _).alloc (tr _) _);have Wc:H9 (ah (wr.alloc (.cells #[it x2,it y2] 328)) (some ⟨b1,o1,none⟩) K pc G):=Nb.o.below ((tv _ _).alloc (tr _) _);have Xc:H9 (ae (wr.alloc (.cells #[it x2,it y2] 328)) w.heap.size (db (N:Int) R1 (K:Int) R4 la)):=Qc.o.alloc _;have Yc:H9 (Below w.heap.size w (wr.alloc (.cells #[it x2,it y2] 328))):=Va.o.alloc Va.o.size _;have Zc:H9 ((wr.alloc (.cells #[it x2,it y2] 328)).cell? ⟨lb,lo+k*2,none⟩=some (it x1)∧(wr.alloc (.cells #[it x2,it y2] 328)).cell? ⟨lb,lo+k*2+1,none⟩=some (it y1)):=⟨(tO wr _ none).cell E1.o.1 (by simp),(tO wr _ none).cell E1.o.2 (by simp)⟩;have Ad:H9 (wr.heap.size≤(wr.alloc (.cells #[it x2,it y2] 328)).heap.size):=(by show _≤_;simp);have Bd:H9 (∀b,wr.heap.size≤b→(Value.slice a' k Aa).ownBlock≠some b):=fun b hb e=>by have:=(tJ La.o.2 b e).2;omega
   have Ce:H9 (∀q,(Value.slice a' k Aa).ownBlock=some q→w.heap.size+1≤q):=fun q e=>(tJ La.o.2 q e).1;have Cd:H9 ((Value.slice a' k Aa).ownBlock≠some w.heap.size):=fun e=>by have:=(tJ La.o.2 _ e).1;omega
   have Dd:H9 ((Value.slice a' k Aa).ownBlock≠some b1):=mQ (fun y hy=>Pc.o _ y rfl hy);generalize wr.alloc (.cells #[it x2,it y2] 328)=wq at *;have HQ:=Hd (Uc.o);have De:H9 (aU 328 wq (w.heap.size+1) a' k Aa (bR k MA)):=Vc.o;have Ee:=Hd (Wc.o);have Fe:=Hd (Xc.o);have Ed:=Hd (Yc.o);have EQ:=Hd (Zc.o);have Fd:=Hd (Ad.o);clear Uc Vc Wc Xc Yc Zc Ad La Nb Pc Qc Va E1 Pb Qb e1;have Af:=i6 m;have Bf:(0:Int)≤(k:Int):=(by omega);apply sG
   case f=>
     intro key;refine cw wq none (by kernel_rfl) fun hHeld=>?_;generalize wq.drew=Wa at *;refine tk 0 (.agg #[it x2,it y2]) ?_ ?_
     ·intro wp Ca;have c0:=(HQ.o.grown Ca (by simp)).c 0;have c1:=(HQ.o.grown Ca (by simp)).c 1;go_simp
     refine tk 1 (.iface 255 (cQ m)) ?_ ?_
     ·intro wq Ea;go_simp
     refine tk 2 (.slice (some ⟨lb,lo,none⟩) K lc) ?_ ?_
     ·intro wq Ea;go_simp
     refine tk 3 (it (k:Int)) ?_ ?_
     ·intro wq Ea;go_simp
     refine tk 4 (.pointer (some ⟨lb,lo+k*2,none⟩)) ?_ ?_
     ·intro wq Ea;go_simp
     refine tk 5 (.agg #[it x1,it y1]) ?_ ?_
     ·intro wp Ca;have c0:wp.cell? ⟨lb,lo+k*2,none⟩=some (it x1):=Ca.cell EQ.o.1 (by simp);have c1:wp.cell? ⟨lb,lo+k*2+1,none⟩=some (it y1):=Ca.cell EQ.o.2 (by simp);go_simp
     refine tk 6 (.func (.method "loop.example/g00319/impl.next") #[.iface 255 (cQ m)] #[]) ?_ ?_
     ·intro wq Ea;go_simp
     refine tk 7 (.func (.method "loop.example/g00319/impl.next") #[.iface 255 (cQ m)] #[]) ?_ ?_
     ·intro wp Ca;kernel_rfl
     refine tk 8 (.iface 255 (cQ m)) ?_ ?_
     ·intro wq Ea;go_simp
     refine tY (rs:=[9,11]) (by kernel_rfl) (by simp) ?_;refine tD rfl (fun K hK=>?_) (tD rfl (fun K hK=>?_) tM)
     ·
      go_simp;refine(Tc.o _).mono ?_;rintro e Na ⟨rfl,Gd⟩;go_simp;have Eb:wq.grownBy Na none:=ap hHeld Gd;refine hK.out _ _ Eb (fun _=>?_);clear hK K Gd;refine tY (rs:=[10,11]) (by kernel_rfl) (by simp) ?_;refine tD rfl (fun K hK=>?_) (tD rfl (fun K hK=>?_) tM)
      ·
       go_simp;refine(Rb.o _).mono ?_;rintro e Oa ⟨rfl,Ha⟩;go_simp;have Sb:wq.grownBy Oa none:=ap Eb Ha;refine hK.out _ _ Sb (fun _=>?_);clear hK K Ha;refine tY (rs:=[11]) (by kernel_rfl) (by simp) ?_;refine tD rfl (fun K hK=>?_) tM
       ·
        go_simp;have Id:wq.grownBy (Oa.alloc (.cells #[it 0,it 0] 328)) none:=bf Sb _;have Tb:=cz Oa [it 0,it 0] 328;have Ub:H9 (wq.heap.size≤Oa.heap.size):=Sb.size;refine hK.out _ _ Id (fun _=>?_);clear hK K;generalize Oa.alloc (.cells #[it 0,it 0] 328)=Vb at *;generalize Oa.heap.size=Pa at Tb Ub ⊢;refine tY (rs:=[12]) (by kernel_rfl) (by simp) ?_;refine tD rfl (fun K hK=>?_) tM;rw[if_pos (by kernel_rfl)];with_reducible refine wp_store_mid 328 (.tmp 11) (.tmp 42) ?_ Pa 0 ([it t1,it t2]).toArray ?_ ?_ ?_ (by kernel_rfl) (by kernel_rfl) ?_
        ·exact rfl
        ·exact rfl
        ·exact rfl
        ·exact Tb.o.there 0 2 (by simp)
        have Ba:wq.grownBy (Vb.setCells Pa 0 [it t1,it t2]) none:=iy Id Ub.o 0 _;have Da:H9 (ae (Vb.setCells Pa 0 [it t1,it t2]) Pa [it t1,it t2]):=Tb.o.setCells [it t1,it t2] 0 (by simp);refine hK.out _ _ Ba (fun _=>?_);clear hK K;generalize Xa:Vb.setCells Pa 0 [it t1,it t2]=wz at Ba Da;clear Xa;refine bt ?_;go_simp;have Ia:=Hd (Ba);have Ja:=Hd (Ub.o);clear Ba;revert Ja Ia Da;generalize Pa=mb;revert mb;revert wz;exact key
      ·
       go_simp;have Jd:wq.grownBy (Na.alloc (.cells #[it 0,it 0] 328)) none:=bf Eb _;have Kd:=cz Na [it 0,it 0] 328;have Wb:H9 (wq.heap.size≤Na.heap.size):=Eb.size;refine hK.out _ _ Jd (fun _=>?_);clear hK K;generalize Na.alloc (.cells #[it 0,it 0] 328)=Cf at *;generalize Na.heap.size=Qa at Kd Wb ⊢;refine tY (rs:=[10]) (by kernel_rfl) (by simp) ?_;refine tD rfl (fun K hK=>?_) tM
       ·
        go_simp;refine(Rb.o _).mono ?_;rintro e Fb ⟨rfl,Ka⟩;go_simp;have Fa:wq.grownBy Fb none:=ap Jd Ka;have Ld:=Hd (Kd.o.belowS Ka);refine hK.out _ _ Fa (fun _=>?_);clear hK K Ka;refine tY (rs:=[12]) (by kernel_rfl) (by simp) ?_;refine tD rfl (fun K hK=>?_) tM;rw[if_pos (by kernel_rfl)];with_reducible refine wp_store_mid 328 (.tmp 11) (.tmp 42) ?_ Qa 0 ([it t1,it t2]).toArray ?_ ?_ ?_ (by kernel_rfl) (by kernel_rfl) ?_
        ·exact rfl
        ·exact rfl
        ·exact rfl
        ·exact Ld.o.there 0 2 (by simp)
        have Ba:wq.grownBy (Fb.setCells Qa 0 [it t1,it t2]) none:=iy Fa Wb.o 0 _;have Da:H9 (ae (Fb.setCells Qa 0 [it t1,it t2]) Qa [it t1,it t2]):=Ld.o.setCells [it t1,it t2] 0 (by simp);refine hK.out _ _ Ba (fun _=>?_);clear hK K;generalize Xa:Fb.setCells Qa 0 [it t1,it t2]=wz at Ba Da;clear Xa;refine bt ?_;go_simp;have Ia:=Hd (Ba);have Ja:=Hd (Wb.o);clear Ba;revert Ja Ia Da;generalize Qa=mb;revert mb;revert wz;exact key
     ·
      go_simp;have Ra:wq.grownBy (Wa.alloc (.cells #[it 0,it 0] 328)) none:=bf hHeld _;have Nd:=cz Wa [it 0,it 0] 328;have Xb:H9 (wq.heap.size≤Wa.heap.size):=hHeld.size;refine hK.out _ _ Ra (fun _=>?_);clear hK K;generalize Wa.alloc (.cells #[it 0,it 0] 328)=Df at *;generalize Wa.heap.size=Sa at Nd Xb ⊢;refine tY (rs:=[9]) (by kernel_rfl) (by simp) ?_;refine tD rfl (fun K hK=>?_) tM
      ·
       go_simp;refine(Tc.o _).mono ?_;rintro e Ge ⟨rfl,Yb⟩;go_simp;have Ga:wq.grownBy Ge none:=ap Ra Yb;have He:=Hd (Nd.o.belowS Yb);refine hK.out _ _ Ga (fun _=>?_);clear hK K Yb;refine tY (rs:=[10]) (by kernel_rfl) (by simp) ?_;refine tD rfl (fun K hK=>?_) tM
       ·
        go_simp;refine(Rb.o _).mono ?_;rintro e Gb ⟨rfl,Zb⟩;go_simp;have Od:wq.grownBy Gb none:=ap Ga Zb;have Pd:=Hd (He.o.belowS Zb);refine hK.out _ _ Od (fun _=>?_);clear hK K Zb;refine tY (rs:=[12]) (by kernel_rfl) (by simp) ?_;refine tD rfl (fun K hK=>?_) tM;rw[if_pos (by kernel_rfl)];with_reducible refine wp_store_mid 328 (.tmp 11) (.tmp 42) ?_ Sa 0 ([it t1,it t2]).toArray ?_ ?_ ?_ (by kernel_rfl) (by kernel_rfl) ?_
        ·exact rfl
        ·exact rfl
        ·exact rfl
        ·exact Pd.o.there 0 2 (by simp)
        have Ba:wq.grownBy (Gb.setCells Sa 0 [it t1,it t2]) none:=iy Od Xb.o 0 _;have Da:H9 (ae (Gb.setCells Sa 0 [it t1,it t2]) Sa [it t1,it t2]):=Pd.o.setCells [it t1,it t2] 0 (by simp);refine hK.out _ _ Ba (fun _=>?_);clear hK K;generalize Xa:Gb.setCells Sa 0 [it t1,it t2]=wz at Ba Da;clear Xa;refine bt ?_;go_simp;have Ia:=Hd (Ba);have Ja:=Hd (Xb.o);clear Ba;revert Ja Ia Da;generalize Sa=mb;revert mb;revert wz;exact key
   case h=>
     intro wz mb Da Ya Ja;have Ie:=True.intro;clear Ie;have Je:H9 (aU 328 wz (w.heap.size+1) a' k Aa (bR k MA)):=(De.o.grownR Ya.o (by simp));have Ia:=Hd (Ee.o.grownR Ya.o (by simp));have Ac:=Hd (Fe.o.grown Ya.o (by simp));have Qd:H9 (Below w.heap.size w wz):=Ed.o.grown Ya.o Ed.o.size (by simp);have Rd:H9 (wr.heap.size≤mb):=tB Fd.o Ja.o;have Ke:H9 (b1<wz.heap.size):=tP Zd.o (tB Fd.o Ya.o.size);go_wp2;refine wp_region_noPanic ?_;refine wp_region_held_drew (S:=fun W=>wz.grownBy W (Value.slice a' k Aa).ownBlock) (by kernel_rfl) (cY _ _) (fun hHeld=>?_);have Le:H9 (aU 328 wz.drew (w.heap.size+1) a' k Aa (bR k MA)):=Je.o.below (tv _ _).drew;generalize wz.drew=Ef at *;refine tk 0 (.slice a' k Aa) ?_ ?_
     ·intro wq Ea;go_simp
     refine tk 1 (.agg #[it t1,it t2]) ?_ ?_
     ·intro wp Ca;have c0:=(Da.o.grown Ca (Bd.o _ Rd.o)).c 0;have c1:=(Da.o.grown Ca (Bd.o _ Rd.o)).c 1;go_simp
     refine tk 2 (it z) ?_ ?_
     ·intro wq Ea;go_simp
     refine tk 3 (.pointer (some ⟨w.heap.size,6,none⟩)) ?_ ?_
     ·intro wq Ea;go_simp
     refine tk 4 (it la) ?_ ?_
     ·intro wp Ca;have c0:=(Ac.o.grown Ca Cd.o).c 6;go_simp
     refine tY (rs:=[5]) (by kernel_rfl) (by simp) ?_;refine tD rfl (fun K hK=>?_) tM;go_simp;refine(Ae.o _).mono ?_;rintro e wn ⟨rfl,rfl⟩;go_simp;refine hK.out _ _ (by assumption) (fun hHeld1=>?_);clear hK K;refine tY (rs:=[6]) (by kernel_rfl) (by simp) ?_;refine tD rfl (fun K hK=>?_) tM;go_simp;refine(Be.o _).mono ?_;rintro e w5 ⟨rfl,Ka⟩;go_simp;have Fa:wz.grownBy w5 (Value.slice a' k Aa).ownBlock:=ap hHeld Ka;have Ne:=Hd (Le.o.below Ka);refine hK.out _ _ Fa (fun _=>?_);clear hK K Ka;refine tY (rs:=[7]) (by kernel_rfl) (by simp) ?_;refine tD rfl (fun K hK=>?_) tM;go_simp;have Ra:wz.grownBy (w5.alloc (.cells #[it m1,it m2] 328)) (Value.slice a' k Aa).ownBlock:=bf Fa _;refine hK.out _ _ Ra (fun _=>?_);clear hK K;refine tY (rs:=[8]) (by kernel_rfl) (by simp) ?_;refine tD rfl (fun K hK=>?_) tM;rw[if_pos (by kernel_rfl)];refine lP (.tmp 43) (.tmp 50) 268 rfl (w.heap.size+1) 328 i0 (.agg #[it 0,it 0]) 2 16 underlying268 HI.o.1 HI.o.2.1 HI.o.2.2.1 HI.o.2.2.2 rfl (by decide) (.slice a' k Aa) k (kW (bR k MA)) rfl (uc Ne.o.2 _) ⟨w5.heap.size,0,none⟩ 1 1 [it m1,it m2] rfl rfl (d8 w5 _ _ _) (d9 _ _) (by unfold maxLen;omega) (by omega) (by have:=Ac.o.2.2;have:=Fa.size;simp;omega) ?_;intro v' w6 Ta Sd Td;have Ga:wz.grownBy w6 (Value.slice a' k Aa).ownBlock:=Ra.trans Sd;refine hK.out _ _ Ga (fun _=>?_);clear hK K;have hown':w6.ownsRow (w.heap.size+1) 328 2 v' (k+1) (kW (bR (k+1) MA)):=(by rw[←Sc.o,←hU];exact Ta);obtain⟨b6,c6,rfl,Ud⟩:=aU.form (nZ (k+1) MA) hown';have Oe:H9 (aU 328 w6 (w.heap.size+1) b6 (k+1) c6 (bR (k+1) MA)):=Ud;have Pe:=Hd (Ia.o.grownR Ga (fun x hx=>by injection hx with hx;subst hx;exact Dd.o));have Qe:=Hd (Ac.o.grown Ga Cd.o);have Re:H9 (∀x y,some (⟨b1,o1,none⟩:Addr)=some x→b6=some y→y.block≠x.block):=fun x y hx hy=>by injection hx with hx;subst hx;exact sI Td (by have:=Ke.o;have:=Fa.size;simp;omega) (mS Dd.o) y hy
     have Se:H9 (Below w.heap.size w w6):=Qd.o.grown Ga Qd.o.size (fun q hq=>tB (Nat.le_succ _) (Ce.o q hq));clear Ta hown' Sd Ud Td Ga Ra Fa;refine tk 9 (.slice b6 (k+1) c6) ?_ ?_
     ·intro wp Ca;go_simp
     refine bt ?_;go_simp;go_wp2;go_roundw
     case rel=>exact⟨k+1,b6,c6,by omega,by go_num,rfl,Oe.o,Pe.o,Re.o,Qe.o,Se.o⟩
     case measure=>simp[intOf];omega
  ·
   have Te:k=K:=(by omega);subst Te;go_wp2;go_ret;exact⟨a',Aa,rfl,La.o.mono (by omega),Va.o⟩
theorem nI(ps:List (Int×Int))(i:Nat):(cF ps).getD i 0=(ps.getD i (0,0)).1:=by
 unfold cF;rw[tu,tu,List.getElem?_map]
 cases ps[i]? <;> rfl
theorem nX(ps:List (Int×Int))(i:Nat):(cI ps).getD i 0=(ps.getD i (0,0)).2:=by
 unfold cI;rw[tu,tu,List.getElem?_map]
 cases ps[i]? <;> rfl
theorem lg(m:M.Mc)(X Y:List Int)(h:i<4*N):(bV m (ch X Y (4*N)) N i).1=M.mis m.X X Y X N i:=by
 unfold bV M.mis M.Mc.nx;rw[dx X Y h,dx X Y (Nat.mod_lt _ (by omega))]
theorem lh(m:M.Mc)(X Y:List Int)(h:i<4*N):(bV m (ch X Y (4*N)) N i).2=M.mis m.Y X Y Y N i:=by
 unfold bV M.mis M.Mc.nx;rw[dx X Y h,dx X Y (Nat.mod_lt _ (by omega))]
theorem re{X Y:List Int}(hx:M.allEl X=true)(hy:M.allEl Y=true):∀i,i<k→M.sOk ((ch X Y k).getD i (0,0))=true:=fun i hi=>by
 rw[dx X Y hi];exact(M.sOk_iff _).2 ⟨cc hx i,cc hy i⟩
theorem lu{a1 a2 a3 a4:Option Addr}{n1 n2 n3 n4 c1 c2 c3 c4:Nat}{b1 b2 b3 b4:Option Addr}{d1 d2 d3 d4:Nat}{z1 z2 z3 z4:List Int}(s1 s2 e1 e2:Int)(w:World)(h1:ah w a1 n1 c1 z1)(h2:ah w a2 n2 c2 z2)(h3:ah w a3 n3 c3 z3)(h4:ah w a4 n4 c4 z4)(g1:ah w b1 n1 d1 z1)(g2:ah w b2 n2 d2 z2)(g3:ah w b3 n3 d3 z3)(g4:ah w b4 n4 d4 z4):
  Rt 83 #[.agg #[.int .i64 s1,.int .i64 s2,.int .i64 e1,.int .i64 e2,.slice a1 n1 c1,.slice a2 n2 c2,.slice a3 n3 c3,.slice a4 n4 c4],.agg #[.int .i64 s1,.int .i64 s2,.int .i64 e1,.int .i64 e2,.slice b1 n1 d1,.slice b2 n2 d2,.slice b3 n3 d3,.slice b4 n4 d4]] w (.bool true):=by
 have C1:=dV (s1,s2);have C2:=dV (e1,e2);dsimp only[cC]at C1 C2;have HA:H9 (ae ((w.alloc (.cells (bh s1 s2 e1 e2 a1 n1 c1 a2 n2 c2 a3 n3 c3 a4 n4 c4).toArray 35)).alloc (.cells (bh s1 s2 e1 e2 b1 n1 d1 b2 n2 d2 b3 n3 d3 b4 n4 d4).toArray 35)) w.heap.size (bh s1 s2 e1 e2 a1 n1 c1 a2 n2 c2 a3 n3 c3 a4 n4 c4)):=(aI _ _ _).alloc _;have HB:H9 (ae ((w.alloc (.cells (bh s1 s2 e1 e2 a1 n1 c1 a2 n2 c2 a3 n3 c3 a4 n4 c4).toArray 35)).alloc (.cells (bh s1 s2 e1 e2 b1 n1 d1 b2 n2 d2 b3 n3 d3 b4 n4 d4).toArray 35)) (w.heap.size+1) (bh s1 s2 e1 e2 b1 n1 d1 b2 n2 d2 b3 n3 d3 b4 n4 d4)):=aO _ _ _ _;have HW:H9 (Below w.heap.size w ((w.alloc (.cells (bh s1 s2 e1 e2 a1 n1 c1 a2 n2 c2 a3 n3 c3 a4 n4 c4).toArray 35)).alloc (.cells (bh s1 s2 e1 e2 b1 n1 d1 b2 n2 d2 b3 n3 d3 b4 n4 d4).toArray 35))):=((tv _ _).alloc (tr _) _).alloc (by simp) _;have H1:=Hd (h1);have G1:=Hd (g1);have H2:=Hd (h2);have G2:=Hd (g2);have H3:=Hd (h3);have G3:=Hd (g3);have H4:=Hd (h4);have G4:=Hd (g4);clear h1 h2 h3 h4 g1 g2 g3 g4;go_enter func83,ntmps83;(go_wp2_with fail);refine(C1 _).mono ?_;rintro e w1 ⟨rfl,Fa⟩;have Ga:=Hd (HA.o.belowS Fa);have Ha:=Hd (HB.o.belowS Fa);have Ja:=Hd (HW.o.trans (Fa.mono HW.o.size));have x2:=Ga.o.c 2;have x3:=Ga.o.c 3;have y2:=Ha.o.c 2;have y3:=Ha.o.c 3;clear Fa HA HB HW;(go_wp2_with fail);refine(C2 _).mono ?_;rintro e w2 ⟨rfl,Ia⟩;have Ka:=Hd (Ga.o.belowS Ia);have La:=Hd (Ha.o.belowS Ia);have Ba:=Hd (Ja.o.trans (Ia.mono Ja.o.size));clear Ia Ga Ha Ja x2 x3 y2 y3;have p:=Ka.o.c 4;have q:=La.o.c 4;(go_wp2_with fail);refine(gV _ (H1.o.below Ba.o) (G1.o.below Ba.o)).mono ?_;rintro e w3 ⟨rfl,Aa⟩;have HK:=Hd (Aa);have Na:=Hd (Ka.o.belowS HK.o);have Oa:=Hd (La.o.belowS HK.o);have Ca:=Hd (Ba.o.trans (HK.o.mono Ba.o.size));clear Aa HK Ka La Ba p q;have p:=Na.o.c 5;have q:=Oa.o.c 5;(go_wp2_with fail);refine(gV _ (H2.o.below Ca.o) (G2.o.below Ca.o)).mono ?_;rintro e w4 ⟨rfl,Aa⟩;have HK:=Hd (Aa);have Pa:=Hd (Na.o.belowS HK.o);have Qa:=Hd (Oa.o.belowS HK.o);have Da:=Hd (Ca.o.trans (HK.o.mono Ca.o.size));clear Aa HK Na Oa Ca p q;have p:=Pa.o.c 6;have q:=Qa.o.c 6;(go_wp2_with fail);refine(gV _ (H3.o.below Da.o) (G3.o.below Da.o)).mono ?_;rintro e w5 ⟨rfl,Aa⟩;have HK:=Hd (Aa);have Ra:=Hd (Pa.o.belowS HK.o);have Sa:=Hd (Qa.o.belowS HK.o);have Ea:=Hd (Da.o.trans (HK.o.mono Da.o.size));clear Aa HK Pa Qa Da p q;have p:=Ra.o.c 7;have q:=Sa.o.c 7;(go_wp2_with fail);refine(gV _ (H4.o.below Ea.o) (G4.o.below Ea.o)).mono ?_;rintro e w6 ⟨rfl,Aa⟩;have HK:=Hd (Aa);have Ta:=Hd (Ea.o.trans (HK.o.mono Ea.o.size));clear Aa HK Ra Sa Ea p q;go_wp2;go_ret;exact⟨rfl,Ta.o⟩
end Go.Proofs.YtjcjonncaknhnaaGreatDoor
