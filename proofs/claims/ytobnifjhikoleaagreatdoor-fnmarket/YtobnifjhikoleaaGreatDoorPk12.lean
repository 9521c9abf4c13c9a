import Derived.Test.YtobnifjhikoleaaGreatDoorPk06
namespace Go.Proofs.YtobnifjhikoleaaGreatDoor
open Go.RowKit Go.Proofs.Tryz
set_option linter.unusedSimpArgs false
set_option maxHeartbeats 32000000
variable {N i k n R b len cap:Nat}{ps:List (Int×Int)}{f:Nat→Int}{w0 w:World}{ca a:Option Addr}{row:Option Nat}{v:Value}{zs:List Int}
def kP(N:Nat):Value:=.agg #[.int .i64 (N:Int),.int .i64 1,.int .i64 (M.root (N:Int)),.int .i64 (4*(N:Int)),.int .i64 3,.int .i64 (M.root (4*(N:Int))),.int .i64 (M.lst N)]
theorem jZ(h:M.rowsN N=true):M.rows (N:Int)=true:=by
 rcases M.rowsN_cases h with rfl | rfl | rfl | rfl <;> rfl
theorem qA(N:Nat)(w:World)(h:M.rowsN N=true):Rt 59 #[.int .i64 N] w (.tuple #[kP N,.bool true]):=by
 have C1:=ix N;rw[jZ h]at C1;have Fa:=M.row_pt (M.rowsN_two h);have Ga:M.ptOk (4*(N:Int)) 3=true:=(by have:=M.rowsN_pt h;rwa[show((4*N:Nat):Int)=4*(N:Int) by omega]at this);have C2:=fun W=>eU (N:Int) 1 W Fa;have C3:=fun W=>eU (4*(N:Int)) 3 W Ga;have La:=M.rowsN_pos h;have hr:=(M.el_iff _).1 (M.root_el (M.two64_two (M.rowsN_two h)));have C4:=fun W=>gI (M.root (N:Int)) (N-1) W hr.1 hr.2 (by omega);have HL:H9 (M.lst N=M.pw (M.root (N:Int)) (N-1)):=rfl;unfold kP;rw[HL.o];generalize M.pw (M.root (N:Int)) (N-1)=la at C4;generalize M.root (N:Int)=R1 at C2 C4;generalize M.root (4*(N:Int))=R4 at C3;have Ha:((N-1:Nat):Int)=(N:Int)-1:=(by omega);rw[Ha]at C4;have Ua:IntKind.i64.wrap ((N:Int)-1)=(N:Int)-1:=(by rw[vi];omega);have Va:(N:Int)≤16:=(by omega);have Wa:(2:Int)≤(N:Int):=(by omega);have LZ:=cC w tZ 127;have HB:H9 (m1 w (w.alloc (.cells tZ.toArray 127))):=(m5 _ _).alloc (m3 _) _;clear Fa Ga hr HL Ha h La;go_enter func59,ntmps59;(go_wp2_with fail);refine(C1 _).mono ?_;rintro e w1 ⟨rfl,rfl⟩;(go_wp2_with fail);refine(C2 _).mono ?_;rintro e w1 ⟨rfl,Ca⟩;have Ea:H9 (au (w1.alloc (.cells (rx (N:Int) R1).toArray 125)) w.heap.size tZ):=(LZ.o.belowS Ca).alloc _;have Ia:=cC w1 (rx (N:Int) R1) 125;have Da:H9 (m1 w (w1.alloc (.cells (rx (N:Int) R1).toArray 125))):=(HB.o.trans (Ca.mono HB.o.size)).alloc (m9 HB.o.size Ca.size) _;have Na:=Hd (Nat.ne_of_gt (LZ.o.belowS Ca).2.2);clear Ca LZ HB;(go_wp2_with fail);refine(C3 _).mono ?_;rintro e w2 ⟨rfl,Aa⟩;have Oa:=Hd (Nat.ne_of_gt (Ea.o.belowS Aa).2.2);have Ja:H9 (au (w2.alloc (.cells (lq (4*(N:Int)) R4).toArray 125)) w.heap.size tZ):=(Ea.o.belowS Aa).alloc _;have Pa:H9 (au (w2.alloc (.cells (lq (4*(N:Int)) R4).toArray 125)) w1.heap.size (rx (N:Int) R1)):=(Ia.o.belowS Aa).alloc _;have Qa:=cC w2 (lq (4*(N:Int)) R4) 125;have Ra:H9 (m1 w (w2.alloc (.cells (lq (4*(N:Int)) R4).toArray 125))):=(Da.o.trans (Aa.mono Da.o.size)).alloc (m9 Da.o.size Aa.size) _;clear Aa Ea Ia Da;go_wp2;generalize w2.alloc (.cells (lq (4*(N:Int)) R4).toArray 125)=wa at *;have HN:=Hd Pa.o;have HW:=Hd Qa.o;have HZ:=Hd (Ja.o.below (m5 _ _).drew Ja.o.2.2);refine wp_region_noPanic ?_;refine wp_region_held_drew (S:=fun W=>au W w1.heap.size (rx (N:Int) R1)∧au W w2.heap.size (lq (4*(N:Int)) R4)) (by kernel_rfl) (⟨HN.o.below (m5 _ _).drew HN.o.2.2,HW.o.below (m5 _ _).drew HW.o.2.2⟩) (fun hHeld=>?_);refine wpAnyH_take (i:=0) (v:=.agg (rx (N:Int) R1).toArray) rfl (by kernel_rfl) (by kernel_rfl) (by kernel_rfl) (fun _ _ _ h=>h) (uZ (by kernel_rfl) 125 (.tmp 4) rfl w1.heap.size 0 rfl (rx (N:Int) R1) _ (fun W h=>h.1.row) underlying125 rfl (by kernel_rfl)) (by assumption) ?_;refine wpAnyH_take (i:=1) (v:=.agg (lq (4*(N:Int)) R4).toArray) rfl (by kernel_rfl) (by kernel_rfl) (by kernel_rfl) (fun _ _ _ h=>h) (uZ (by kernel_rfl) 125 (.tmp 6) rfl w2.heap.size 0 rfl (lq (4*(N:Int)) R4) _ (fun W h=>h.2.row) underlying125 rfl (by kernel_rfl)) (by assumption) ?_;refine tk 2 (.pointer (some ⟨w1.heap.size,2,none⟩)) ?_ ?_
 ·intro wq Ba;go_simp
 refine tk 3 (it R1) ?_ ?_
 ·intro wq Ba;have hq:=Ba.1.c 2;go_simp
 refine tk 4 (it (N:Int)) ?_ ?_
 ·intro wq Ba;go_simp
 refine tk 5 (it ((N:Int)-1)) ?_ ?_
 ·intro wq Ba;go_simp
 refine vk (rs:=[6]) (by kernel_rfl) (by simp) ?_;refine uP rfl (fun K hK=>?_) uW;go_simp;refine(C4 _).mono ?_;rintro e wn ⟨rfl,rfl⟩;go_simp;refine hK.out _ _ (by assumption) (fun hHeld1=>?_);clear hK K;refine tk 7 (.agg (cF (N:Int) R1 (4*(N:Int)) R4 la).toArray) ?_ ?_
 ·intro wq Ba;go_simp
 refine vk (rs:=[8]) (by kernel_rfl) (by simp) ?_;refine uP rfl (fun K hK=>?_) uW;rw[if_pos (by kernel_rfl)];with_reducible refine wp_store_mid 127 (.tmp 2) (.tmp 37) ?_ w.heap.size 0 (cF (N:Int) R1 (4*(N:Int)) R4 la).toArray ?_ ?_ ?_ (by kernel_rfl) (by kernel_rfl) ?_
 ·exact rfl
 ·exact rfl
 ·exact rfl
 ·exact HZ.o.there 0 7 (by simp)
 refine hK.out _ _ (⟨hHeld.1.farCells _ 0 Na.o,hHeld.2.farCells _ 0 Oa.o⟩) (fun hHeld2=>?_);clear hK K;refine tk 9 (.bool true) ?_ ?_
 ·intro wq Ba;go_simp
 refine bg ?_;go_simp;have L7:au (wa.drew.setCells w.heap.size 0 (cF (N:Int) R1 (4*(N:Int)) R4 la)) w.heap.size (cF (N:Int) R1 (4*(N:Int)) R4 la):=HZ.o.setCells (cF (N:Int) R1 (4*(N:Int)) R4 la) 0 (by simp);have Ka:m1 w (wa.drew.setCells w.heap.size 0 (cF (N:Int) R1 (4*(N:Int)) R4 la)):=aO _ 0 Ra.o.drew (m3 _);generalize wa.drew.setCells w.heap.size 0 (cF (N:Int) R1 (4*(N:Int)) R4 la)=wz at *;have Sa:=Hd L7;have Ta:=Hd Ka;clear L7 Ka;go_wp2;exact m8 (dL rfl rfl (u' wz w.heap.size 0 127 _ _ Sa.o.row underlying127 rfl (by kernel_rfl))) rfl ⟨rfl,Ta.o⟩
theorem mo(h:i<4*N):(M.gp 3 (M.root (4*(N:Int))) (4*N)).getD i 0=M.zp N i:=by
 rw[M.gp_get _ _ _ _ h];unfold M.zp;rw[show((4*N:Nat):Int)=4*(N:Int) by omega]
set_option maxRecDepth 10000 in
theorem sD(N:Nat)(w:World)(h:M.rowsN N=true):Calls prog 163 #[kP N] w fun e w'=>∃a' c',e=.returned (.slice a' (4*N) c')∧aD 123 w' w.heap.size a' (4*N) c' (M.tab (4*N) (M.zer N))∧m1 w w':=by
 have Tb:=M.rowsN_pos h;obtain⟨K,hK⟩:∃K:Nat,K=4*N:=⟨_,rfl⟩;have Ja:4*(N:Int)=(K:Int):=(by omega);have Da:=(M.el_iff _).1 (M.root_el (M.two64_two (M.rowsN_two4 h)));rw[show((4*N:Nat):Int)=4*(N:Int) by omega]at Da;have CA:=fun W=>gV K 3 (M.root (4*(N:Int))) W (by omega) (by omega) Da.1 Da.2 (by omega);have CP:H9 (∀i W,Rq 105 #[it (M.zp N i),it (N:Int)] W (it (M.pw (M.zp N i) N))):=fun i W=>gI (M.zp N i) N W (M.zp_bd N i).1 (M.zp_bd N i).2 (by omega);have CM:H9 (∀i W,Rq 162 #[it (M.pw (M.zp N i) N),it 1] W (it (M.zer N i))):=fun i W=>fw _ 1 W ((M.el_iff _).1 (M.el_pw _ _)).1 ((M.el_iff _).1 (M.el_pw _ _)).2 (by omega) (by omega);have HG:H9 (∀i,i<K→(M.gp 3 (M.root (4*(N:Int))) K).getD i 0=M.zp N i):=fun i hi=>by subst hK;exact mo hi
 have HS:H9 (∀k,M.tab k (M.zer N)++[M.zer N k]=M.tab (k+1) (M.zer N)):=fun k=>dy k _;obtain⟨i0,hi,Qa,Ra,Sa⟩:=info_parts dw;have HI:H9 (prog.info? 123=some i0∧i0.zero=some (Value.int .i64 0)∧i0.size=1∧i0.bytes=8):=⟨hi,Qa,Ra,Sa⟩;unfold kP;rw[Ja,←hK];rw[Ja]at CA HG;have Ub:K≤64:=(by omega);generalize M.gp 3 (M.root (K:Int)) K=G at CA HG;generalize M.root (N:Int)=R1;generalize M.root (K:Int)=R4 at CA;generalize M.lst N=la;clear hi Qa Ra Sa Da h hK Ja;have LF:=cC w (cF (N:Int) R1 (K:Int) R4 la) 127;have Ta:H9 (m1 w (w.alloc (.cells (cF (N:Int) R1 (K:Int) R4 la).toArray 127))):=(m5 _ _).alloc (m3 _) _;have Vb:(N:Int)≤16:=(by omega);have Wb:(2:Int)≤(N:Int):=(by omega);go_enter func163,ntmps163;(go_wp2_with(at_make;refine wpList_make_own _ rfl _ _ 175 rfl (w.heap.size+1) 123 i0 (it 0) 1 underlying175 HI.o.1 HI.o.2.1 HI.o.2.2.1 .i64 .i64 _ K rfl rfl rfl (by rw[HI.o.2.2.2];omega) (by unfold maxLen;omega) (by simp) ?_));intro w1 Aa hg;have HO:H9 (aD 123 w1 (w.heap.size+1) (some ⟨w.heap.size+1,0,none⟩) 0 K []):=Aa;have Ba:=Hd (LF.o.grown hg (by simp));have Ka:=Hd (Ta.o.trans ((bu hg).mono (by simp)));have f3:=Ba.c 3;have f4:=Ba.c 4;have f5:=Ba.c 5;clear Aa hg LF Ta;(go_wp2_with fail);refine(CA _).mono ?_;rintro e w2 ⟨pa,pc,rfl,La,Ea⟩;have Ua:=Hd La;have Va:=Hd (HO.o.below Ea);have Wa:=Ba.b Ea;have Xa:=Ka.t Ea;have HX:=Hd La.lo;have Jb:H9 (w.heap.size+1<w1.heap.size):=HO.o.hi _ rfl;clear La Ea f3 f4 f5 HO Ba Ka CA;go_wp2
 go_loopw [3,14] (fun s i wr=>∃(k:Nat) (a':Option Addr) (Ca:Nat),k≤K∧i=it k∧s=.slice a' k Ca∧aD 123 wr (w.heap.size+1) a' k Ca (M.tab k (M.zer N))∧aw wr pa K pc G∧(∀x y,pa=some x→a'=some y→y.block≠x.block)∧au wr w.heap.size (cF (N:Int) R1 (K:Int) R4 la)∧m1 w wr) (fun _ i _=>K-(intOf i).toNat)
 case atStart=>exact⟨0,_,K,by omega,rfl,rfl,Va.o,Ua.o.sees,fun x y hx hy e=>by have:=HX.o x hx;have:=Jb.o;injection hy with hy;subst hy;simp at e;omega,Wa.o,Xa.o⟩
 case round=>
  obtain⟨k,a',Ca,hk,rfl,rfl,Ya,Za,Ab,Bb,Cb⟩:=hrel;have Fa:=Hd Ya;have Db:=Hd Za;have Kb:=Hd Ab;have Na:=Hd Bb;have Ga:=Hd Cb;clear Ya Za Ab Bb Cb Va Ua Wa Xa;by_cases Eb:k<K
  ·
   obtain⟨b1,o1,rfl,Fb⟩:=Db.o.at (by omega);have e1:=Fb k Eb;rw[HG.o k Eb]at e1;have f0:=Na.c 0;have hI:(k:Int)<(K:Int):=(by omega);have Lb:H9 (b1<wr.heap.size):=vh wr _ e1;have Oa:H9 _:=CP.o k;have Ha:H9 _:=CM.o k;have Gb:=Hd (HS.o k);clear Fb;generalize M.zp N k=z at e1 Oa Ha;generalize M.pw z N=pz at Oa Ha;generalize M.zer N k=zk at Ha Gb;(go_wp2_with fail);refine(Oa.o _).mono ?_;rintro e wn ⟨rfl,rfl⟩;(go_wp2_with fail);refine(Ha.o _).mono ?_;rintro e wn ⟨rfl,rfl⟩;(go_wp2_with(at_builtin;refine wpList_append_own_at _ rfl _ _ 175 rfl (w.heap.size+1) 123 i0 (it 0) 1 8 underlying175 HI.o.1 HI.o.2.1 HI.o.2.2.1 HI.o.2.2.2 rfl (by decide) _ k ((M.tab k (M.zer N)).map (Value.int .i64)) rfl (vw Fa.o _) ⟨wn.heap.size,0,none⟩ 1 1 [it zk] rfl rfl (bC _ _ _) (b9 _) (by unfold maxLen;omega) (by omega) (by have:=Na.o.2.2;simp;omega) ?_));intro v' w4 Aa Ia _ Hb;have hown':w4.ownsRow (w.heap.size+1) 123 1 v' (k+1) ((M.tab (k+1) (M.zer N)).map (Value.int .i64)):=(by rw[←Gb.o,vq];exact Aa);obtain⟨b4,c4,rfl,Ib⟩:=aD.form hown';have Nb:=Hd Ib;have Pa:∀y,a'=some y→y.block≠b1:=fun y hy=>Kb.o _ y rfl hy
   have Ob:H9 (aw w4 (some ⟨b1,o1,none⟩) K pc G):=(Db.o.below ((m5 _ _).alloc (m3 _) _)).grownR Ia (fun x hx=>by
    injection hx with hx;subst hx;intro e
    cases a' with
    | none=>simp[Value.ownBlock]at e
    | some y=>simp[Value.ownBlock]at e;exact Pa y rfl e)
   have Pb:H9 (au w4 w.heap.size (cF (N:Int) R1 (K:Int) R4 la)):=(Na.o.alloc _).grown Ia (fun e=>by
    cases a' with
    | none=>simp[Value.ownBlock]at e
    | some y=>simp[Value.ownBlock]at e;have:=Fa.o.lo y rfl;omega)
   have Qb:H9 (∀x y,some (⟨b1,o1,none⟩:Addr)=some x→b4=some y→y.block≠x.block):=fun x y hx hy=>by
    injection hx with hx;subst hx;subst hy;have:=Lb.o
    rcases Hb with e | e
    ·
     cases a' with
     | none=>simp[Value.ownBlock]at e
     | some z=>simp[Value.ownBlock]at e;rw[e];exact Pa z rfl
    ·simp[Value.ownBlock]at e;simp;omega
   have Rb:H9 (m1 w w4):=(Ga.o.alloc Ga.o.size _).grown Ia (by have:=Ga.o.size;simp;omega) (fun q hq=>by
    cases a' with
    | none=>simp[Value.ownBlock]at hq
    | some y=>simp[Value.ownBlock]at hq;have:=Fa.o.lo y rfl;omega)
   clear Aa hown' Ia Ib Hb Pa;go_wp2;go_roundw
   case rel=>exact⟨k+1,b4,c4,by omega,by go_num,rfl,Nb.o,Ob.o,Qb.o,Pb.o,Rb.o⟩
   case measure=>simp[intOf];omega
  ·
   have Sb:k=K:=(by omega);subst Sb;go_wp2;go_ret;exact⟨a',Ca,rfl,Fa.o.mono (by omega),Ga.o⟩
def cm(m:M.Mc)(ps:List (Int×Int))(N i:Nat):Int×Int:=
 (((ps.getD ((i+4)%(4*N)) (0,0)).1+65537-(m.nx (ps.getD i (0,0))).1)%65537*((M.zp N i+65537-M.lst N)%65537)%65537,((ps.getD ((i+4)%(4*N)) (0,0)).2+65537-(m.nx (ps.getD i (0,0))).2)%65537*((M.zp N i+65537-M.lst N)%65537)%65537)
def cV(k:Nat)(f:Nat→Int×Int):List (Int×Int):=(List.range k).map f
theorem pW(k:Nat)(f:Nat→Int×Int):(cV k f).length=k:=by simp[cV]
theorem oj(k:Nat)(f:Nat→Int×Int):cV k f++[f k]=cV (k+1) f:=by simp[cV,List.range_succ]
theorem j3(f:Nat→Int×Int)(h:i<k):(cV k f).getD i (0,0)=f i:=by simp[cV,m4,h]
set_option maxRecDepth 10000 in
theorem qX{la0:Option Addr}{lc:Nat}(m:M.Mc)(N:Nat)(w:World)(h:M.rowsN N=true)(hm:m.ok=true)(hz:dU w la0 (4*N) lc ps)(hps:∀i,i<4*N→M.sOk (ps.getD i (0,0))=true):
  Calls prog 110 #[kP N,.iface 165 (cZ m),.slice la0 (4*N) lc] w fun e w'=>∃a' c',e=.returned (.slice a' (4*N) c')∧bf 224 w' w.heap.size a' (4*N) c' (cV (4*N) (cm m ps N))∧m1 w w':=by
 have Ue:=M.rowsN_pos h;obtain⟨K,hK⟩:∃K:Nat,K=4*N:=⟨_,rfl⟩;have Hb:4*(N:Int)=(K:Int):=(by omega);have Za:=(M.el_iff _).1 (M.root_el (M.two64_two (M.rowsN_two4 h)));rw[show((4*N:Nat):Int)=4*(N:Int) by omega]at Za;have CA:=fun W=>gV K 3 (M.root (4*(N:Int))) W (by omega) (by omega) Za.1 Za.2 (by omega);have HG:H9 (∀i,i<K→(M.gp 3 (M.root (4*(N:Int))) K).getD i 0=M.zp N i):=fun i hi=>by subst hK;exact mo hi
 have HS:H9 (∀k,cV k (cm m ps N)++[cm m ps N k]=cV (k+1) (cm m ps N)):=fun k=>oj k _;have Ib:=(M.el_iff _).1 (M.el_lst N)
 have Jb:H9 (∀k,k<K→∃j,j<K∧((k:Int)+4).tmod (K:Int)=(j:Int)∧(∀W,Rt 231 #[cZ m,cP (ps.getD k (0,0))] W (cP (m.nx (ps.getD k (0,0)))))∧(∃t,M.sOk t=true∧(∀W,Rt 160 #[cP (ps.getD j (0,0)),cP (m.nx (ps.getD k (0,0)))] W (cP t))∧(∀W,Rq 162 #[it (M.zp N k),it (M.lst N)] W (it ((M.zp N k+65537-M.lst N)%65537)))∧(∀W,Rt 161 #[cP t,it ((M.zp N k+65537-M.lst N)%65537)] W (cP (cm m ps N k))))):=fun k hk=>by
  have hj:(k+4)%K<K:=Nat.mod_lt _ (by omega);refine⟨(k+4)%K,hj,?_,fun W=>lX m _ W hm (hps k (by omega)),((((ps.getD ((k+4)%K) (0,0)).1+65537-(m.nx (ps.getD k (0,0))).1)%65537,((ps.getD ((k+4)%K) (0,0)).2+65537-(m.nx (ps.getD k (0,0))).2)%65537)),?_,fun W=>ld _ _ W (hps _ (by omega)) (M.sOk_nx m _),fun W=>fw _ _ W (M.zp_bd N k).1 (M.zp_bd N k).2 Ib.1 Ib.2,fun W=>?_⟩
  ·rw[Int.tmod_eq_emod_of_nonneg (by omega),show(k:Int)+4=((k+4:Nat):Int) by omega];exact(Int.natCast_emod _ _).symm
  ·exact(M.sOk_iff _).2 ⟨⟨by simp only;omega,by simp only;omega⟩,⟨by simp only;omega,by simp only;omega⟩⟩
  ·
   have:=kr ((((ps.getD ((k+4)%K) (0,0)).1+65537-(m.nx (ps.getD k (0,0))).1)%65537,((ps.getD ((k+4)%K) (0,0)).2+65537-(m.nx (ps.getD k (0,0))).2)%65537)) ((M.zp N k+65537-M.lst N)%65537) W ((M.sOk_iff _).2 ⟨⟨by simp only;omega,by simp only;omega⟩,⟨by simp only;omega,by simp only;omega⟩⟩) (by omega) (by omega);unfold cm;rw[←hK];exact this
 obtain⟨i0,hi,Bc,Cc,Dc⟩:=info_parts gD;have HI:H9 (prog.info? 224=some i0∧i0.zero=some (.agg #[it 0,it 0])∧i0.size=2∧i0.bytes=16):=⟨hi,Bc,Cc,Dc⟩;rw[←hK]at hz;unfold kP;rw[Hb,←hK];rw[Hb]at CA HG;have Ve:K≤64:=(by omega);have We:8≤K:=(by omega);have HZ:=Hd hz;generalize M.gp 3 (M.root (K:Int)) K=G at CA HG;generalize M.root (N:Int)=R1;generalize M.root (K:Int)=R4 at CA;generalize cm m ps N=MA at Jb HS;generalize M.lst N=la at Jb;clear hi Bc Cc Dc Za h hK Hb hz hps hm Ib;obtain⟨lb,lo,rfl,-⟩:=HZ.o.at (by omega);have LF:=cC w (cF (N:Int) R1 (K:Int) R4 la) 127;have Ec:H9 (m1 w (w.alloc (.cells (cF (N:Int) R1 (K:Int) R4 la).toArray 127))):=(m5 _ _).alloc (m3 _) _;go_enter func110,ntmps110;(go_wp2_with(at_make;refine wpList_make_own _ rfl _ _ 181 rfl (w.heap.size+1) 224 i0 (.agg #[it 0,it 0]) 2 underlying181 HI.o.1 HI.o.2.1 HI.o.2.2.1 .i64 .i64 _ K rfl rfl rfl (by rw[HI.o.2.2.2];omega) (by unfold maxLen;omega) (by simp) ?_));intro w1 Ta hg;have HO:H9 (bf 224 w1 (w.heap.size+1) (some ⟨w.heap.size+1,0,none⟩) 0 K []):=⟨rfl,Ta⟩;have Ua:=Hd (LF.o.grown hg (by simp));have Kb:=Hd (Ec.o.trans ((bu hg).mono (by simp)));have f3:=Ua.c 3;have f4:=Ua.c 4;have f5:=Ua.c 5;clear Ta hg LF Ec;(go_wp2_with fail);refine(CA _).mono ?_;rintro e w2 ⟨pa,pc,rfl,Lb,Ha⟩;have Fc:=Hd Lb;have Gc:=Hd (HO.o.below Ha);have Hc:=Ua.b Ha;have Ic:=Kb.t Ha;have HX:=Hd Lb.lo
 have Vd:H9 (w.heap.size+1<w1.heap.size):=by
  rcases HO.o.2.2 with e | ⟨g,cp,cur,e,hb,hc,r⟩
  ·simp at e
  ·
   injection e with e1;injection e1 with e1;injection e1 with e1 e2;subst e1;exact aD.grownR.lt_of_heap hc
 clear Lb Ha f3 f4 f5 HO Ua Kb CA;go_wp2
 go_loopw [7,19] (fun s i wr=>∃(k:Nat) (a':Option Addr) (Aa:Nat),k≤K∧i=it k∧s=.slice a' k Aa∧bf 224 wr (w.heap.size+1) a' k Aa (cV k MA)∧aw wr pa K pc G∧(∀x y,pa=some x→a'=some y→y.block≠x.block)∧au wr w.heap.size (cF (N:Int) R1 (K:Int) R4 la)∧m1 w wr) (fun _ i _=>K-(intOf i).toNat)
 case atStart=>exact⟨0,_,K,by omega,rfl,rfl,Gc.o,Fc.o.sees,fun x y hx hy e=>by have:=HX.o x hx;have:=Vd.o;injection hy with hy;subst hy;simp at e;omega,Hc.o,Ic.o⟩
 case round=>
  obtain⟨k,a',Aa,hk,rfl,rfl,Jc,Kc,Lc,Nc,Oc⟩:=hrel;have La:=Hd Jc;have Nb:=Hd Kc;have Pc:=Hd Lc;have Qc:=Hd Nc;have Va:=Hd Oc;clear Jc Kc Lc Nc Oc Gc Fc Hc Ic;by_cases Ab:k<K
  ·
   obtain⟨b1,o1,rfl,Rc⟩:=Nb.o.at (by omega);have e1:=Rc k Ab;rw[HG.o k Ab]at e1;have hI:(k:Int)<(K:Int):=(by omega);obtain⟨j,hj,Xe,D1,t,Wd,D2,D3,D4⟩:=Jb.o k Ab;obtain⟨Xd,Yd,Bb,Ob⟩:=(HZ.o.below Va.o).at (by omega);obtain⟨rfl,rfl⟩:lb=Xd∧lo=Yd:=by injection Bb with Bb;injection Bb with h1 h2;exact⟨h1,h2⟩
   obtain⟨Pb,Qb⟩:=Ob j hj;obtain⟨Cb,Db⟩:=Ob k Ab;have Ye:(j:Int)<(K:Int):=(by omega);have Sc:=Hd (HS.o k);have Zd:H9 (b1<wr.heap.size):=vh wr _ e1;generalize ps.getD j (0,0)=q2 at Pb Qb D2;generalize ps.getD k (0,0)=q1 at Cb Db D1 D2;generalize m.nx q1=n1 at D1 D2;generalize M.zp N k=z at e1 D3 D4;generalize(z+65537-la)%65537=zl at D3 D4;generalize MA k=mk at D4 Sc;obtain⟨x2,y2⟩:=q2;obtain⟨x1,y1⟩:=q1;obtain⟨u1,v1⟩:=n1;obtain⟨t1,t2⟩:=t;obtain⟨J,L⟩:=mk;dsimp only[cP]at Pb Qb Cb Db D1 D2 D4;have E1:H9 (wr.cell? ⟨lb,lo+k*2,none⟩=some (it x1)∧wr.cell? ⟨lb,lo+k*2+1,none⟩=some (it y1)):=⟨Cb,Db⟩;have Tc:H9 _:=D1;have Rb:H9 _:=D2;have Ae:H9 _:=D3;have Be:H9 _:=D4;have Ze:IntKind.i64.wrap ((k:Int)+4)=(k:Int)+4:=(by rw[vi];omega);clear Rc Ob Bb Cb Db D1 D2 D3 D4 Wd;go_wp2;have Uc:=cC wr [it x2,it y2] 224;have Vc:H9 (bf 224 (wr.alloc (.cells #[it x2,it y2] 224)) (w.heap.size+1) a' k Aa (cV k MA)):=La.o.below ((m5 _ _).alloc (m3 _) _);have Wc:H9 (aw (wr.alloc (.cells #[it x2,it y2] 224)) (some ⟨b1,o1,none⟩) K pc G):=Nb.o.below ((m5 _ _).alloc (m3 _) _);have Xc:H9 (au (wr.alloc (.cells #[it x2,it y2] 224)) w.heap.size (cF (N:Int) R1 (K:Int) R4 la)):=Qc.o.alloc _;have Yc:H9 (m1 w (wr.alloc (.cells #[it x2,it y2] 224))):=Va.o.alloc Va.o.size _;have Zc:H9 ((wr.alloc (.cells #[it x2,it y2] 224)).cell? ⟨lb,lo+k*2,none⟩=some (it x1)∧(wr.alloc (.cells #[it x2,it y2] 224)).cell? ⟨lb,lo+k*2+1,none⟩=some (it y1)):=⟨(uX wr _ none).cell E1.o.1 (by simp),(uX wr _ none).cell E1.o.2 (by simp)⟩;have Ad:H9 (wr.heap.size≤(wr.alloc (.cells #[it x2,it y2] 224)).heap.size):=(by show _≤_;simp);have Bd:H9 (∀b,wr.heap.size≤b→(Value.slice a' k Aa).ownBlock≠some b):=fun b hb e=>by have:=(uU La.o.2 b e).2;omega
   have Ce:=Hd (fun q e=>(uU La.o.2 q e).1);have Cd:H9 ((Value.slice a' k Aa).ownBlock≠some w.heap.size):=fun e=>by have:=(uU La.o.2 _ e).1;omega
   have Dd:H9 ((Value.slice a' k Aa).ownBlock≠some b1):=gi (fun y hy=>Pc.o _ y rfl hy);generalize wr.alloc (.cells #[it x2,it y2] 224)=wq at *;have HQ:=Hd Uc.o;have De:=Hd Vc.o;have Ee:=Hd Wc.o;have Fe:=Hd Xc.o;have Ed:=Hd Yc.o;have EQ:=Hd Zc.o;have Fd:=Hd Ad.o;clear Uc Vc Wc Xc Yc Zc Ad La Nb Pc Qc Va E1 Pb Qb e1;have Af:=jA m;have Bf:(0:Int)≤(k:Int):=(by omega);apply qt
   case f=>
     intro key;refine cH wq none (by kernel_rfl) fun hHeld=>?_;generalize wq.drew=Wa at *;refine tk 0 (.agg #[it x2,it y2]) ?_ ?_
     ·intro wp Ca;have c0:=(HQ.o.grown Ca (by simp)).c 0;have c1:=(HQ.o.grown Ca (by simp)).c 1;go_simp
     refine tk 1 (.iface 165 (cZ m)) ?_ ?_
     ·intro wq Ea;go_simp
     refine tk 2 (.slice (some ⟨lb,lo,none⟩) K lc) ?_ ?_
     ·intro wq Ea;go_simp
     refine tk 3 (it (k:Int)) ?_ ?_
     ·intro wq Ea;go_simp
     refine tk 4 (.pointer (some ⟨lb,lo+k*2,none⟩)) ?_ ?_
     ·intro wq Ea;go_simp
     refine tk 5 (.agg #[it x1,it y1]) ?_ ?_
     ·intro wp Ca;have c0:=Ca.cell EQ.o.1 (by simp);have c1:=Ca.cell EQ.o.2 (by simp);go_simp
     refine tk 6 (.func (.method "loop.example/g00319/impl.next") #[.iface 165 (cZ m)] #[]) ?_ ?_
     ·intro wq Ea;go_simp
     refine tk 7 (.func (.method "loop.example/g00319/impl.next") #[.iface 165 (cZ m)] #[]) ?_ ?_
     ·intro wp Ca;kernel_rfl
     refine tk 8 (.iface 165 (cZ m)) ?_ ?_
     ·intro wq Ea;go_simp
     refine vk (rs:=[9,11]) (by kernel_rfl) (by simp) ?_;refine uP rfl (fun K hK=>?_) (uP rfl (fun K hK=>?_) uW)
     ·
      go_simp;refine(Tc.o _).mono ?_;rintro e Na ⟨rfl,Gd⟩;go_simp;have Eb:=aH hHeld Gd;refine hK.out _ _ Eb (fun _=>?_);clear hK K Gd;refine vk (rs:=[10,11]) (by kernel_rfl) (by simp) ?_;refine uP rfl (fun K hK=>?_) (uP rfl (fun K hK=>?_) uW)
      ·
       go_simp;refine(Rb.o _).mono ?_;rintro e Oa ⟨rfl,Ha⟩;go_simp;have Sb:=aH Eb Ha;refine hK.out _ _ Sb (fun _=>?_);clear hK K Ha;refine vk (rs:=[11]) (by kernel_rfl) (by simp) ?_;refine uP rfl (fun K hK=>?_) uW
       ·
        go_simp;have Id:wq.grownBy (Oa.alloc (.cells #[it 0,it 0] 224)) none:=bq Sb _;have Tb:=cC Oa [it 0,it 0] 224;have Ub:=Hd Sb.size;refine hK.out _ _ Id (fun _=>?_);clear hK K;generalize Oa.alloc (.cells #[it 0,it 0] 224)=Vb at *;generalize Oa.heap.size=Pa at Tb Ub ⊢;refine vk (rs:=[12]) (by kernel_rfl) (by simp) ?_;refine uP rfl (fun K hK=>?_) uW;rw[if_pos (by kernel_rfl)];with_reducible refine wp_store_mid 224 (.tmp 11) (.tmp 42) ?_ Pa 0 ([it t1,it t2]).toArray ?_ ?_ ?_ (by kernel_rfl) (by kernel_rfl) ?_
        ·exact rfl
        ·exact rfl
        ·exact rfl
        ·exact Tb.o.there 0 2 (by simp)
        have Ba:wq.grownBy (Vb.setCells Pa 0 [it t1,it t2]) none:=dH Id Ub.o 0 _;have Da:H9 (au (Vb.setCells Pa 0 [it t1,it t2]) Pa [it t1,it t2]):=Tb.o.setCells [it t1,it t2] 0 (by simp);refine hK.out _ _ Ba (fun _=>?_);clear hK K;generalize Xa:Vb.setCells Pa 0 [it t1,it t2]=wz at Ba Da;clear Xa;refine bg ?_;go_simp;have Ia:=Hd Ba;have Ja:=Hd Ub.o;clear Ba;revert Ja Ia Da;generalize Pa=mb;revert mb;revert wz;exact key
      ·
       go_simp;have Jd:wq.grownBy (Na.alloc (.cells #[it 0,it 0] 224)) none:=bq Eb _;have Kd:=cC Na [it 0,it 0] 224;have Wb:=Hd Eb.size;refine hK.out _ _ Jd (fun _=>?_);clear hK K;generalize Na.alloc (.cells #[it 0,it 0] 224)=Cf at *;generalize Na.heap.size=Qa at Kd Wb ⊢;refine vk (rs:=[10]) (by kernel_rfl) (by simp) ?_;refine uP rfl (fun K hK=>?_) uW
       ·
        go_simp;refine(Rb.o _).mono ?_;rintro e Fb ⟨rfl,Ka⟩;go_simp;have Fa:=aH Jd Ka;have Ld:=Kd.b Ka;refine hK.out _ _ Fa (fun _=>?_);clear hK K Ka;refine vk (rs:=[12]) (by kernel_rfl) (by simp) ?_;refine uP rfl (fun K hK=>?_) uW;rw[if_pos (by kernel_rfl)];with_reducible refine wp_store_mid 224 (.tmp 11) (.tmp 42) ?_ Qa 0 ([it t1,it t2]).toArray ?_ ?_ ?_ (by kernel_rfl) (by kernel_rfl) ?_
        ·exact rfl
        ·exact rfl
        ·exact rfl
        ·exact Ld.o.there 0 2 (by simp)
        have Ba:wq.grownBy (Fb.setCells Qa 0 [it t1,it t2]) none:=dH Fa Wb.o 0 _;have Da:H9 (au (Fb.setCells Qa 0 [it t1,it t2]) Qa [it t1,it t2]):=Ld.o.setCells [it t1,it t2] 0 (by simp);refine hK.out _ _ Ba (fun _=>?_);clear hK K;generalize Xa:Fb.setCells Qa 0 [it t1,it t2]=wz at Ba Da;clear Xa;refine bg ?_;go_simp;have Ia:=Hd Ba;have Ja:=Hd Wb.o;clear Ba;revert Ja Ia Da;generalize Qa=mb;revert mb;revert wz;exact key
     ·
      go_simp;have Ra:wq.grownBy (Wa.alloc (.cells #[it 0,it 0] 224)) none:=bq hHeld _;have Nd:=cC Wa [it 0,it 0] 224;have Xb:=Hd hHeld.size;refine hK.out _ _ Ra (fun _=>?_);clear hK K;generalize Wa.alloc (.cells #[it 0,it 0] 224)=Df at *;generalize Wa.heap.size=Sa at Nd Xb ⊢;refine vk (rs:=[9]) (by kernel_rfl) (by simp) ?_;refine uP rfl (fun K hK=>?_) uW
      ·
       go_simp;refine(Tc.o _).mono ?_;rintro e Ge ⟨rfl,Yb⟩;go_simp;have Ga:=aH Ra Yb;have He:=Nd.b Yb;refine hK.out _ _ Ga (fun _=>?_);clear hK K Yb;refine vk (rs:=[10]) (by kernel_rfl) (by simp) ?_;refine uP rfl (fun K hK=>?_) uW
       ·
        go_simp;refine(Rb.o _).mono ?_;rintro e Gb ⟨rfl,Zb⟩;go_simp;have Od:=aH Ga Zb;have Pd:=He.b Zb;refine hK.out _ _ Od (fun _=>?_);clear hK K Zb;refine vk (rs:=[12]) (by kernel_rfl) (by simp) ?_;refine uP rfl (fun K hK=>?_) uW;rw[if_pos (by kernel_rfl)];with_reducible refine wp_store_mid 224 (.tmp 11) (.tmp 42) ?_ Sa 0 ([it t1,it t2]).toArray ?_ ?_ ?_ (by kernel_rfl) (by kernel_rfl) ?_
        ·exact rfl
        ·exact rfl
        ·exact rfl
        ·exact Pd.o.there 0 2 (by simp)
        have Ba:wq.grownBy (Gb.setCells Sa 0 [it t1,it t2]) none:=dH Od Xb.o 0 _;have Da:H9 (au (Gb.setCells Sa 0 [it t1,it t2]) Sa [it t1,it t2]):=Pd.o.setCells [it t1,it t2] 0 (by simp);refine hK.out _ _ Ba (fun _=>?_);clear hK K;generalize Xa:Gb.setCells Sa 0 [it t1,it t2]=wz at Ba Da;clear Xa;refine bg ?_;go_simp;have Ia:=Hd Ba;have Ja:=Hd Xb.o;clear Ba;revert Ja Ia Da;generalize Sa=mb;revert mb;revert wz;exact key
   case h=>
     intro wz mb Da Ya Ja;have Ie:=True.intro;clear Ie;have Je:=Hd (De.o.grownR Ya.o (by simp));have Ia:=Hd (Ee.o.grownR Ya.o (by simp));have Ac:=Hd (Fe.o.grown Ya.o (by simp));have Qd:=Hd (Ed.o.grown Ya.o Ed.o.size (by simp));have Rd:=Hd (m9 Fd.o Ja.o);have Ke:=Hd (uY Zd.o (m9 Fd.o Ya.o.size));go_wp2;refine wp_region_noPanic ?_;refine wp_region_held_drew (S:=fun W=>wz.grownBy W (Value.slice a' k Aa).ownBlock) (by kernel_rfl) (cW _ _) (fun hHeld=>?_);have Le:=Hd (Je.o.below (m5 _ _).drew);generalize wz.drew=Ef at *;refine tk 0 (.slice a' k Aa) ?_ ?_
     ·intro wq Ea;go_simp
     refine tk 1 (.agg #[it t1,it t2]) ?_ ?_
     ·intro wp Ca;have c0:=(Da.o.grown Ca (Bd.o _ Rd.o)).c 0;have c1:=(Da.o.grown Ca (Bd.o _ Rd.o)).c 1;go_simp
     refine tk 2 (it z) ?_ ?_
     ·intro wq Ea;go_simp
     refine tk 3 (.pointer (some ⟨w.heap.size,6,none⟩)) ?_ ?_
     ·intro wq Ea;go_simp
     refine tk 4 (it la) ?_ ?_
     ·intro wp Ca;have c0:=(Ac.o.grown Ca Cd.o).c 6;go_simp
     refine vk (rs:=[5]) (by kernel_rfl) (by simp) ?_;refine uP rfl (fun K hK=>?_) uW;go_simp;refine(Ae.o _).mono ?_;rintro e wn ⟨rfl,rfl⟩;go_simp;refine hK.out _ _ (by assumption) (fun hHeld1=>?_);clear hK K;refine vk (rs:=[6]) (by kernel_rfl) (by simp) ?_;refine uP rfl (fun K hK=>?_) uW;go_simp;refine(Be.o _).mono ?_;rintro e w5 ⟨rfl,Ka⟩;go_simp;have Fa:=aH hHeld Ka;have Ne:=Hd (Le.o.below Ka);refine hK.out _ _ Fa (fun _=>?_);clear hK K Ka;refine vk (rs:=[7]) (by kernel_rfl) (by simp) ?_;refine uP rfl (fun K hK=>?_) uW;go_simp;have Ra:wz.grownBy (w5.alloc (.cells #[it J,it L] 224)) (Value.slice a' k Aa).ownBlock:=bq Fa _;refine hK.out _ _ Ra (fun _=>?_);clear hK K;refine vk (rs:=[8]) (by kernel_rfl) (by simp) ?_;refine uP rfl (fun K hK=>?_) uW;rw[if_pos (by kernel_rfl)];refine np (.tmp 43) (.tmp 50) 181 rfl (w.heap.size+1) 224 i0 (.agg #[it 0,it 0]) 2 16 underlying181 HI.o.1 HI.o.2.1 HI.o.2.2.1 HI.o.2.2.2 rfl (by decide) (.slice a' k Aa) k (lQ (cV k MA)) rfl (vw Ne.o.2 _) ⟨w5.heap.size,0,none⟩ 1 1 [it J,it L] rfl rfl (ei w5 _ _ _) (es _ _) (by unfold maxLen;omega) (by omega) (by have:=Ac.o.2.2;have:=Fa.size;simp;omega) ?_;intro v' w6 Ta Sd Td;have Ga:=Ra.trans Sd;refine hK.out _ _ Ga (fun _=>?_);clear hK K;have hown':w6.ownsRow (w.heap.size+1) 224 2 v' (k+1) (lQ (cV (k+1) MA)):=(by rw[←Sc.o,←iU];exact Ta);obtain⟨b6,c6,rfl,Ud⟩:=bf.form (pW (k+1) MA) hown';have Oe:=Hd Ud;have Pe:=Hd (Ia.o.grownR Ga (fun x hx=>by injection hx with hx;subst hx;exact Dd.o));have Qe:=Hd (Ac.o.grown Ga Cd.o);have Re:H9 (∀x y,some (⟨b1,o1,none⟩:Addr)=some x→b6=some y→y.block≠x.block):=fun x y hx hy=>by injection hx with hx;subst hx;exact ul Td (by have:=Ke.o;have:=Fa.size;simp;omega) (kq Dd.o) y hy
     have Se:=Hd (Qd.o.grown Ga Qd.o.size (fun q hq=>m9 (Nat.le_succ _) (Ce.o q hq)));clear Ta hown' Sd Ud Td Ga Ra Fa;refine tk 9 (.slice b6 (k+1) c6) ?_ ?_
     ·intro wp Ca;go_simp
     refine bg ?_;go_simp;go_wp2;go_roundw
     case rel=>exact⟨k+1,b6,c6,by omega,by go_num,rfl,Oe.o,Pe.o,Re.o,Qe.o,Se.o⟩
     case measure=>simp[intOf];omega
  ·
   have Te:k=K:=(by omega);subst Te;go_wp2;go_ret;exact⟨a',Aa,rfl,La.o.mono (by omega),Va.o⟩
theorem jW(ps:List (Int×Int))(i:Nat):(bU ps).getD i 0=(ps.getD i (0,0)).1:=by
 unfold bU;rw[m4,m4,List.getElem?_map]
 cases ps[i]? <;> rfl
theorem j2(ps:List (Int×Int))(i:Nat):(bW ps).getD i 0=(ps.getD i (0,0)).2:=by
 unfold bW;rw[m4,m4,List.getElem?_map]
 cases ps[i]? <;> rfl
theorem pJ(hl:ps.length=k)(h:∀i,i<k→(ps.getD i (0,0)).1=f i):bU ps=M.tab k f:=
 M.tab_ext (by rw[hU,hl]) fun i hi=>by rw[jW,h i hi]
theorem pV(hl:ps.length=k)(h:∀i,i<k→(ps.getD i (0,0)).2=f i):bW ps=M.tab k f:=
 M.tab_ext (by rw[ic,hl]) fun i hi=>by rw[j2,h i hi]
theorem ia(m:M.Mc)(s:Int×Int)(h:i≤n):(m.run s n).getD i (0,0)=m.rn s i:=by
 unfold M.Mc.run;simp[m4,show i<n+1 by omega]
theorem pS(m:M.Mc)(s:Int×Int)(h:0<N):bU (m.run s (N-1))=M.xsR m s N:=
 pJ (by rw[M.run_len];omega) fun i hi=>by rw[ia m s (by omega)]
theorem pT(m:M.Mc)(s:Int×Int)(h:0<N):bW (m.run s (N-1))=M.ysR m s N:=
 pV (by rw[M.run_len];omega) fun i hi=>by rw[ia m s (by omega)]
theorem me(m:M.Mc)(X Y:List Int)(h:i<4*N):(cm m (cz X Y (4*N)) N i).1=M.mis m.X X Y X N i:=by
 unfold cm M.mis M.Mc.nx;rw[dF X Y h,dF X Y (Nat.mod_lt _ (by omega))]
theorem mf(m:M.Mc)(X Y:List Int)(h:i<4*N):(cm m (cz X Y (4*N)) N i).2=M.mis m.Y X Y Y N i:=by
 unfold cm M.mis M.Mc.nx;rw[dF X Y h,dF X Y (Nat.mod_lt _ (by omega))]
theorem sQ{X Y:List Int}(hx:M.allEl X=true)(hy:M.allEl Y=true):∀i,i<k→M.sOk ((cz X Y k).getD i (0,0))=true:=fun i hi=>by
 rw[dF X Y hi];exact(M.sOk_iff _).2 ⟨M.el_at hx i,M.el_at hy i⟩
theorem Rd.cells{o:Nat}(h:Rd w0 R ca len cap w)(hb:w0.heap.size≤b)(hne:b≠R)(us:List Value):Rd w0 R ca len cap (w.setCells b o us):=
 h.keep (b:=some ⟨b,0,none⟩) (n:=1) (c:=1) (a8 (World.grownBy.refl _ _) o us) (fun x hx=>by injection hx with hx;subst hx;exact hne) (fun x hx=>by injection hx with hx;subst hx;exact hb)
theorem cf{a:World}(h:a.grownBy w row)(hb:a.heap.size≤b):a.grownBy (w.setCell ⟨b,i,none⟩ v) row:=
 ⟨h.os,h.tape,h.output,by simpa[World.setCell]using h.size,fun j hj hne=>(Below.heap_setCell _ _ _ _ (by show j≠b;omega)).trans (h.block j hj hne)⟩
theorem Rd.setS(h:Rd w0 R ca len cap w)(hb:w0.heap.size≤b)(hne:b≠R):Rd w0 R ca len cap (w.setCell ⟨b,i,none⟩ v):=
 h.keep (b:=some ⟨b,0,none⟩) (n:=1) (c:=1) (dI (World.grownBy.refl _ _) ⟨b,i,none⟩ rfl v) (fun x hx=>by injection hx with hx;subst hx;exact hne) (fun x hx=>by injection hx with hx;subst hx;exact hb)
theorem aw.setS{c:Nat}{z:List Int}(h:aw w a n c z)(hb:∀x,a=some x→x.block≠b):aw (w.setCell ⟨b,i,none⟩ v) a n c z:=
 h.grownR (dI (World.grownBy.refl _ _) ⟨b,i,none⟩ rfl v) (fun x hx e=>hb x hx (m2 e).symm)
theorem cX{a w':World}(h:a.grownBy w row)(hg:w.grownBy w' (some b))(hb:a.heap.size≤b):a.grownBy w' row:=
 ⟨hg.os.trans h.os,hg.tape.trans h.tape,hg.output.trans h.output,m9 h.size hg.size,fun i hi hr=>(hg.block i (uY hi h.size) (fun e=>by have:=m2 e;omega)).trans (h.block i hi hr)⟩
set_option maxRecDepth 10000 in
theorem dN(hrow:Row .u8 w0 a len cap zs)(w:World)(h:Rd w0 R a len cap w):
  Calls prog 36 #[.pointer (some ⟨R,0,none⟩)] w fun e w'=>∃s:Int×Int,e=.returned (cP s)∧Rd w0 R a len cap w'∧w.grownBy w' (some R):=by
 have Fa:=Hd hrow;have Db:=h.hi;have Eb:=h.below.size;have Aa:=fh w (.cells #[it 0,it 0] 33);have Ga:=cC w [it 0,it 0] 33;have Ha:H9 (Rd w0 R a len cap (w.alloc (.cells #[it 0,it 0] 33))):=h.alloc _;have Ia:H9 (w.grownBy (w.alloc (.cells #[it 0,it 0] 33)) (some R)):=aB Aa _;clear Aa h hrow;go_enter func36,ntmps36;(go_wp2_with fail);generalize(w.alloc (.cells #[it 0,it 0] 33))=wq at *;refine(dn Fa.o _ Ha.o).mono ?_;rintro e w1 ⟨x,-,-,rfl,hr,hg⟩;have Ea:=Hd (Ga.o.grown hg (by simp;omega));have Ja:=Hd hr;have Ka:=Hd (Ia.o.trans hg);clear Ga Ha Ia;clear hg hr;have La:=Ea.o.2.2;have Aa:=fh w1 (.cells #[it x,it 0] 33);have Na:=Ea.b Aa;have Oa:=Hd (Ja.o.grow Aa);have Pa:=Hd (Ka.o.trans (aB Aa _));clear Ea Ja Ka;clear Aa;have Ca:=cC w1 [it x,it 0] 33;(go_wp2_with fail);have Va:=La;have Wa:R<w1.heap.size:=(by omega);generalize(w1.alloc (.cells #[it x,it 0] 33))=w2 at *;generalize w1.heap.size=xb at Ca Va Wa La ⊢;have Fb:=Ca.o.2.2;refine(dn Fa.o _ Oa.o).mono ?_;rintro e w3 ⟨y,-,-,rfl,hr,hg⟩;have Qa:=Hd (Na.o.grown hg (by simp;omega));have Ra:=Hd hr;have Sa:=Hd (Pa.o.trans hg);have Da:=Hd (Ca.o.grown hg (by simp;omega));clear Na Oa Pa Ca;clear hg hr;have c0:=Da.c 1;have f0:=Da.o.fr 1;have Ta:w3.grownBy (w3.setCell ⟨xb,1,none⟩ (it y)) (some xb):=dI (World.grownBy.refl _ _) ⟨xb,1,none⟩ rfl _;have Ba:=Hd (Qa.o.grown Ta (by simp;omega));have Xa:H9 (Rd w0 R a len cap (w3.setCell ⟨xb,1,none⟩ (it y))):=Rd.setS Ra.o (by omega) (by omega);have Ya:H9 (w.grownBy (w3.setCell ⟨xb,1,none⟩ (it y)) (some R)):=cf Sa.o (by omega);have Ua:H9 (au (w3.setCell ⟨xb,1,none⟩ (it y)) xb [it x,it y]):=Da.o.set 1 (by simp) _;clear Ta Qa Ra Sa Da;have r0:=Ba.c 0;have s0:=Ba.o.fr 0;have o0:=Ua.c 0;have r1:=Ba.c 1;have s1:=Ba.o.fr 1;have o1:=Ua.c 1;(go_wp2_with fail);show bodyPost _ _ _ _ _ ((w3.setCell ⟨xb,1,none⟩ (it y)).setCells w.heap.size 0 [it x,it y]);have Za:au ((w3.setCell ⟨xb,1,none⟩ (it y)).setCells w.heap.size 0 [it x,it y]) w.heap.size [it x,it y]:=Ba.o.setCells [it x,it y] 0 (by simp);have Ab:=ct (w3.setCell ⟨xb,1,none⟩ (it y)) w.heap.size 0 [it x,it y];have Bb:Rd w0 R a len cap ((w3.setCell ⟨xb,1,none⟩ (it y)).setCells w.heap.size 0 [it x,it y]):=Xa.o.cells (by omega) (by omega) _;have Cb:=cX Ya.o Ab (m3 _);generalize((w3.setCell ⟨xb,1,none⟩ (it y)).setCells w.heap.size 0 [it x,it y])=wf at *;exact m8 (aQ rfl rfl (u' wf w.heap.size 0 33 _ _ Za.row underlying33 rfl (by kernel_rfl))) rfl ⟨(x,y),rfl,Bb,Cb⟩
set_option maxRecDepth 10000 in
theorem lT(hrow:Row .u8 w0 a len cap zs)(w:World)(h:Rd w0 R a len cap w):
  Calls prog 70 #[.pointer (some ⟨R,0,none⟩)] w fun e w'=>∃r:M.Rl,e=.returned (iV r)∧Rd w0 R a len cap w'∧w.grownBy w' (some R):=by
 have Fa:=Hd hrow;have Hc:=h.hi;have Ic:=h.below.size;have Ga:=fh w (.cells (da 0 0 0 0 0 0).toArray 29);have Wa:=cC w (da 0 0 0 0 0 0) 29;have Xa:H9 (Rd w0 R a len cap (w.alloc (.cells (da 0 0 0 0 0 0).toArray 29))):=h.alloc _;have Ya:H9 (w.grownBy (w.alloc (.cells (da 0 0 0 0 0 0).toArray 29)) (some R)):=aB Ga _;clear Ga h hrow;go_enter func70,ntmps70;(go_wp2_with fail);generalize(w.alloc (.cells (da 0 0 0 0 0 0).toArray 29))=wq at *;refine(dn Fa.o _ Xa.o).mono ?_;rintro e w1 ⟨x,-,-,rfl,hr,hg⟩;have Za:=Hd (Wa.o.grown hg (by simp;omega));have Ab:=Hd hr;have Bb:=Hd (Ya.o.trans hg);clear Wa Xa Ya;clear hg hr;(go_wp2_with fail);refine(dn Fa.o _ Ab.o).mono ?_;rintro e w2 ⟨y,-,-,rfl,hr,hg⟩;have Cb:=Hd (Za.o.grown hg (by simp;omega));have Db:=Hd hr;have Eb:=Hd (Bb.o.trans hg);clear Za Ab Bb;clear hg hr;(go_wp2_with fail);refine(dn Fa.o _ Db.o).mono ?_;rintro e w3 ⟨z,-,-,rfl,hr,hg⟩;have Oa:=Hd (Cb.o.grown hg (by simp;omega));have Fb:=Hd hr;have Gb:=Hd (Eb.o.trans hg);clear Cb Db Eb;clear hg hr;have Hb:=Oa.o.2.2;have Ga:=fh w3 (.cells (da 0 0 0 x y z).toArray 29);have Ib:=Oa.b Ga;have Jb:=Hd (Fb.o.grow Ga);have Kb:=Hd (Gb.o.trans (aB Ga _));clear Oa Fb Gb;clear Ga;have Pa:=cC w3 (da 0 0 0 x y z) 29;(go_wp2_with fail);have Dc:=Hb;have Ec:R<w3.heap.size:=(by omega);generalize(w3.alloc (.cells (da 0 0 0 x y z).toArray 29))=w4 at *;generalize w3.heap.size=xb at Pa Dc Ec Hb ⊢;refine(dq Fa.o 2 (by decide) (by decide) _ Jb.o).mono ?_;rintro e w5 ⟨o,rfl,hr,hg⟩;have Ba:=Hd (Ib.o.grown hg (by simp;omega));have Qa:=Hd hr;have Ra:=Hd (Kb.o.trans hg);have Ea:=Hd (Pa.o.grown hg (by simp;omega));clear Ib Jb Kb Pa;clear hg hr
 cases o with
 | false=>
  have r0:=Ba.c 0;have s0:=Ba.o.fr 0;have o0:=Ea.c 0;have r1:=Ba.c 1;have s1:=Ba.o.fr 1;have o1:=Ea.c 1;have r2:=Ba.c 2;have s2:=Ba.o.fr 2;have o2:=Ea.c 2;have r3:=Ba.c 3;have s3:=Ba.o.fr 3;have o3:=Ea.c 3;have r4:=Ba.c 4;have s4:=Ba.o.fr 4;have o4:=Ea.c 4;have r5:=Ba.c 5;have s5:=Ba.o.fr 5;have o5:=Ea.c 5;(go_wp2_with fail);show bodyPost _ _ _ _ _ (w5.setCells w.heap.size 0 (da 0 0 0 x y z));have Sa:au (w5.setCells w.heap.size 0 (da 0 0 0 x y z)) w.heap.size (da 0 0 0 x y z):=Ba.o.setCells (da 0 0 0 x y z) 0 (by simp);have Ta:=ct w5 w.heap.size 0 (da 0 0 0 x y z);have Ua:Rd w0 R a len cap (w5.setCells w.heap.size 0 (da 0 0 0 x y z)):=Qa.o.cells (by omega) (by omega) _;have Va:=cX Ra.o Ta (m3 _);generalize(w5.setCells w.heap.size 0 (da 0 0 0 x y z))=wf at *;exact m8 (aQ rfl rfl (u' wf w.heap.size 0 29 _ _ Sa.row underlying29 rfl (by kernel_rfl))) rfl ⟨⟨0,0,0,x,y,z⟩,rfl,Ua,Va⟩
 | true=>
  (go_wp2_with fail);refine(dn Fa.o _ Qa.o).mono ?_;rintro e Ha ⟨p,-,-,rfl,hr,hg⟩;have Lb:=Hd (Ba.o.grown hg (by simp;omega));have Nb:=Hd hr;have Ob:=Hd (Ra.o.trans hg);have Ka:=Hd (Ea.o.grown hg (by simp;omega));clear Ba Qa Ra Ea;clear hg hr;have c0:=Ka.c 0;have f0:=Ka.o.fr 0;(go_wp2_with fail);clear c0 f0;have Da:Ha.grownBy (Ha.setCell ⟨xb,0,none⟩ (it p)) (some xb):=dI (World.grownBy.refl _ _) ⟨xb,0,none⟩ rfl _;have Pb:=Hd (Lb.o.grown Da (by simp;omega));have Qb:H9 (Rd w0 R a len cap (Ha.setCell ⟨xb,0,none⟩ (it p))):=Rd.setS Nb.o (by omega) (by omega);have Rb:=Hd (cX Ob.o Da (by omega));have Sb:H9 (au (Ha.setCell ⟨xb,0,none⟩ (it p)) xb [it p,it 0,it 0,it x,it y,it z]):=Ka.o.set 0 (by simp) _;clear Da Lb Nb Ob Ka;generalize(Ha.setCell ⟨xb,0,none⟩ (it p))=Jc at *;(go_wp2_with fail);refine(dn Fa.o _ Qb.o).mono ?_;rintro e Ia ⟨q,-,-,rfl,hr,hg⟩;have Tb:=Hd (Pb.o.grown hg (by simp;omega));have Ub:=Hd hr;have Vb:=Hd (Rb.o.trans hg);have La:=Hd (Sb.o.grown hg (by simp;omega));clear Pb Qb Rb Sb;clear hg hr;have c0:=La.c 1;have f0:=La.o.fr 1;(go_wp2_with fail);clear c0 f0;have Da:Ia.grownBy (Ia.setCell ⟨xb,1,none⟩ (it q)) (some xb):=dI (World.grownBy.refl _ _) ⟨xb,1,none⟩ rfl _;have Wb:=Hd (Tb.o.grown Da (by simp;omega));have Xb:H9 (Rd w0 R a len cap (Ia.setCell ⟨xb,1,none⟩ (it q))):=Rd.setS Ub.o (by omega) (by omega);have Yb:=Hd (cX Vb.o Da (by omega));have Zb:H9 (au (Ia.setCell ⟨xb,1,none⟩ (it q)) xb [it p,it q,it 0,it x,it y,it z]):=La.o.set 1 (by simp) _;clear Da Tb Ub Vb La;generalize(Ia.setCell ⟨xb,1,none⟩ (it q))=Kc at *;(go_wp2_with fail);refine(dn Fa.o _ Xb.o).mono ?_;rintro e Aa ⟨r',-,-,rfl,hr,hg⟩;have Ac:=Hd (Wb.o.grown hg (by simp;omega));have Bc:=Hd hr;have Cc:=Hd (Yb.o.trans hg);have Na:=Hd (Zb.o.grown hg (by simp;omega));clear Wb Xb Yb Zb;clear hg hr;have c0:=Na.c 2;have f0:=Na.o.fr 2;have Da:Aa.grownBy (Aa.setCell ⟨xb,2,none⟩ (it r')) (some xb):=dI (World.grownBy.refl _ _) ⟨xb,2,none⟩ rfl _;have Ca:=Hd (Ac.o.grown Da (by simp;omega));have Fc:H9 (Rd w0 R a len cap (Aa.setCell ⟨xb,2,none⟩ (it r'))):=Rd.setS Bc.o (by omega) (by omega);have Gc:H9 (w.grownBy (Aa.setCell ⟨xb,2,none⟩ (it r')) (some R)):=cf Cc.o (by omega);have Ja:H9 (au (Aa.setCell ⟨xb,2,none⟩ (it r')) xb (da p q r' x y z)):=Na.o.set 2 (by simp) _;clear Da Ac Bc Cc Na;have r0:=Ca.c 0;have s0:=Ca.o.fr 0;have o0:=Ja.c 0;have r1:=Ca.c 1;have s1:=Ca.o.fr 1;have o1:=Ja.c 1;have r2:=Ca.c 2;have s2:=Ca.o.fr 2;have o2:=Ja.c 2;have r3:=Ca.c 3;have s3:=Ca.o.fr 3;have o3:=Ja.c 3;have r4:=Ca.c 4;have s4:=Ca.o.fr 4;have o4:=Ja.c 4;have r5:=Ca.c 5;have s5:=Ca.o.fr 5;have o5:=Ja.c 5;(go_wp2_with fail);show bodyPost _ _ _ _ _ ((Aa.setCell ⟨xb,2,none⟩ (it r')).setCells w.heap.size 0 (da p q r' x y z));have Sa:au ((Aa.setCell ⟨xb,2,none⟩ (it r')).setCells w.heap.size 0 (da p q r' x y z)) w.heap.size (da p q r' x y z):=Ca.o.setCells (da p q r' x y z) 0 (by simp);have Ta:=ct (Aa.setCell ⟨xb,2,none⟩ (it r')) w.heap.size 0 (da p q r' x y z);have Ua:Rd w0 R a len cap ((Aa.setCell ⟨xb,2,none⟩ (it r')).setCells w.heap.size 0 (da p q r' x y z)):=Fc.o.cells (by omega) (by omega) _;have Va:=cX Gc.o Ta (m3 _);generalize((Aa.setCell ⟨xb,2,none⟩ (it r')).setCells w.heap.size 0 (da p q r' x y z))=wf at *;exact m8 (aQ rfl rfl (u' wf w.heap.size 0 29 _ _ Sa.row underlying29 rfl (by kernel_rfl))) rfl ⟨⟨p,q,r',x,y,z⟩,rfl,Ua,Va⟩
set_option maxRecDepth 10000 in
theorem mM(hrow:Row .u8 w0 a len cap zs)(w:World)(h:Rd w0 R a len cap w):
  Calls prog 35 #[.pointer (some ⟨R,0,none⟩)] w fun e w'=>∃m:M.Mc,e=.returned (cZ m)∧Rd w0 R a len cap w'∧w.grownBy w' (some R):=by
 have Ta:=Hd hrow;have Kb:=h.hi;have Lb:=h.below.size;have Da:=fh w (.cells (iW 0 0 0 0 0 0).toArray 31);have Ea:=cC w (iW 0 0 0 0 0 0) 31;have Ga:H9 (Rd w0 R a len cap (w.alloc (.cells (iW 0 0 0 0 0 0).toArray 31))):=h.alloc _;have Ha:H9 (w.grownBy (w.alloc (.cells (iW 0 0 0 0 0 0).toArray 31)) (some R)):=aB Da _;clear Da h hrow;go_enter func35,ntmps35;(go_wp2_with fail);generalize(w.alloc (.cells (iW 0 0 0 0 0 0).toArray 31))=wq at *;refine(lT Ta.o _ Ga.o).mono ?_;rintro e w1 ⟨⟨a1,b1,c1,d1,f1,k1⟩,rfl,hr,hg⟩;have Fa:=Hd (Ea.o.grown hg (by simp;omega));have Ja:=Hd hr;have Ka:=Hd (Ha.o.trans hg);clear Ea Ga Ha;clear hg hr;dsimp only[iV];have Ua:=Fa.o.2.2;have Da:=fh w1 (.cells (iW a1 b1 c1 d1 f1 k1).toArray 31);have Va:=Fa.b Da;have Wa:=Hd (Ja.o.grow Da);have Xa:=Hd (Ka.o.trans (aB Da _));clear Fa Ja Ka;clear Da;have La:=cC w1 (iW a1 b1 c1 d1 f1 k1) 31;(go_wp2_with fail);have Fb:=Ua;have Gb:R<w1.heap.size:=(by omega);generalize(w1.alloc (.cells (iW a1 b1 c1 d1 f1 k1).toArray 31))=w2 at *;generalize w1.heap.size=xb at La Fb Gb Ua ⊢;refine(lT Ta.o _ Wa.o).mono ?_;rintro e w3 ⟨⟨a2,b2,c2,d2,f2,k2⟩,rfl,hr,hg⟩;have Ya:=Hd (Va.o.grown hg (by simp;omega));have Za:=Hd hr;have Ab:=Hd (Xa.o.trans hg);have Ba:=Hd (La.o.grown hg (by simp;omega));clear Va Wa Xa La;clear hg hr;dsimp only[iV];have c0:=Ba.c 6;have f0:=Ba.o.fr 6;have c1:=Ba.c 7;have f1:=Ba.o.fr 7;have c2:=Ba.c 8;have f2:=Ba.o.fr 8;have c3:=Ba.c 9;have f3:=Ba.o.fr 9;have c4:=Ba.c 10;have f4:=Ba.o.fr 10;have c5:=Ba.c 11;have f5:=Ba.o.fr 11;(go_wp2_with fail);clear c0 f0 c1 f1 c2 f2 c3 f3 c4 f4 c5 f5;have Ia:=ct w3 xb 6 (da a2 b2 c2 d2 f2 k2);have Bb:=Hd (Ya.o.grown Ia (by simp;omega));have Cb:H9 (Rd w0 R a len cap (w3.setCells xb 6 (da a2 b2 c2 d2 f2 k2))):=Za.o.cells (by omega) (by omega) _;have Db:=Hd (cX Ab.o Ia (by omega));have Eb:H9 (au (w3.setCells xb 6 (da a2 b2 c2 d2 f2 k2)) xb (cr a1 b1 c1 d1 f1 k1 a2 b2 c2 d2 f2 k2)):=Ba.o.setCells (da a2 b2 c2 d2 f2 k2) 6 (by simp);clear Ia Ya Za Ab Ba;show Code.wp _ _ _ _ (w3.setCells xb 6 (da a2 b2 c2 d2 f2 k2));generalize(w3.setCells xb 6 (da a2 b2 c2 d2 f2 k2))=w4 at *;go_wp2_with fail
 go_loopw [4] (fun i wr=>∃(n:Nat) (a1 b1 c1 d1 f1 k1 a2 b2 c2 d2 f2 k2:Int),n≤9∧i=it n∧au wr w.heap.size (iW 0 0 0 0 0 0)∧au wr xb (cr a1 b1 c1 d1 f1 k1 a2 b2 c2 d2 f2 k2)∧Rd w0 R a len cap wr∧w.grownBy wr (some R)) (fun i _=>9-(intOf i).toNat)
 case atStart=>exact⟨0,_,_,_,_,_,_,_,_,_,_,_,_,by omega,rfl,Bb.o,Eb.o,Cb.o,Db.o⟩
 case round=>
  clear Bb Cb Db Eb;obtain⟨n,a1,b1,c1,d1,f1,k1,a2,b2,c2,d2,f2,k2,hn,rfl,hZ,hX,hR,hG⟩:=hrel;have Ea:=Hd hZ;have Aa:=Hd hX;have Ga:=Hd hR;have Ha:=Hd hG;clear hZ hX hR hG;by_cases Nb:n<9
  case neg=>
   have Hb:¬ (n:Int)<9:=(by omega);have o0:=Aa.c 0;have o1:=Aa.c 1;have o2:=Aa.c 2;have o3:=Aa.c 3;have o4:=Aa.c 4;have o5:=Aa.c 5;have o6:=Aa.c 6;have o7:=Aa.c 7;have o8:=Aa.c 8;have o9:=Aa.c 9;have Na:=Aa.c 10;have Oa:=Aa.c 11;(go_wp2_with(with_reducible refine aF ?_ ?_;rfl));clear o0 o1 o2 o3 o4 o5 o6 o7 o8 o9 Na Oa;with_reducible refine fB 31 w.heap.size 0 (cr a1 b1 c1 d1 f1 k1 a2 b2 c2 d2 f2 k2) ?q6 ?q5 ?_
   case q6=>exact Ea.o.there _ 12 (by simp)
   case q5=>exact⟨rfl,by kernel_rfl,by kernel_rfl,_,_,rfl,by kernel_rfl,by kernel_rfl⟩
   (go_wp2_with fail);show bodyPost _ _ _ _ _ (wr.setCells w.heap.size 0 (cr a1 b1 c1 d1 f1 k1 a2 b2 c2 d2 f2 k2));have Pa:au (wr.setCells w.heap.size 0 (cr a1 b1 c1 d1 f1 k1 a2 b2 c2 d2 f2 k2)) w.heap.size (cr a1 b1 c1 d1 f1 k1 a2 b2 c2 d2 f2 k2):=Ea.o.setCells (cr a1 b1 c1 d1 f1 k1 a2 b2 c2 d2 f2 k2) 0 (by simp);have Qa:=ct wr w.heap.size 0 (cr a1 b1 c1 d1 f1 k1 a2 b2 c2 d2 f2 k2);have Ra:Rd w0 R a len cap (wr.setCells w.heap.size 0 (cr a1 b1 c1 d1 f1 k1 a2 b2 c2 d2 f2 k2)):=Ga.o.cells (by omega) (by omega) _;have Sa:=cX Ha.o Qa (m3 _);generalize(wr.setCells w.heap.size 0 (cr a1 b1 c1 d1 f1 k1 a2 b2 c2 d2 f2 k2))=wf at *;exact m8 (aQ rfl rfl (u' wf w.heap.size 0 31 _ _ Pa.row underlying31 rfl (by kernel_rfl))) rfl ⟨⟨⟨a1,b1,c1,d1,f1,k1⟩,⟨a2,b2,c2,d2,f2,k2⟩⟩,rfl,Ra,Sa⟩
  case pos=>
   have Hb:(n:Int)<9:=(by omega);have CM:=fun W=>bB ⟨⟨a1,b1,c1,d1,f1,k1⟩,⟨a2,b2,c2,d2,f2,k2⟩⟩ W;generalize M.Mc.ok ⟨⟨a1,b1,c1,d1,f1,k1⟩,⟨a2,b2,c2,d2,f2,k2⟩⟩=ok at CM;dsimp only[cZ]at CM;have m0:=Aa.c 0;have J:=Aa.c 1;have L:=Aa.c 2;have T:=Aa.c 3;have Y:=Aa.c 4;have U:=Aa.c 5;have Z:=Aa.c 6;have m7:=Aa.c 7;have Q:=Aa.c 8;have V:=Aa.c 9;have Ib:=Aa.c 10;have Jb:=Aa.c 11;(go_wp2_with fail);clear m0 J L T Y U Z m7 Q V Ib Jb;refine(CM _).mono ?_;rintro e wm ⟨rfl,hb⟩;have Fa:=Ea.b hb;have Ca:=Aa.b hb;have Ja:=Hd (Ga.o.grow hb);have Ka:=Hd (Ha.o.trans (aB hb _));clear Ea Aa Ga Ha;clear hb CM
   cases ok with
   | true=>
    have o0:=Ca.c 0;have o1:=Ca.c 1;have o2:=Ca.c 2;have o3:=Ca.c 3;have o4:=Ca.c 4;have o5:=Ca.c 5;have o6:=Ca.c 6;have o7:=Ca.c 7;have o8:=Ca.c 8;have o9:=Ca.c 9;have Na:=Ca.c 10;have Oa:=Ca.c 11;(go_wp2_with(with_reducible refine aF ?_ ?_;rfl));clear o0 o1 o2 o3 o4 o5 o6 o7 o8 o9 Na Oa;with_reducible refine fB 31 w.heap.size 0 (cr a1 b1 c1 d1 f1 k1 a2 b2 c2 d2 f2 k2) ?q6 ?q5 ?_
    case q6=>exact Fa.o.there _ 12 (by simp)
    case q5=>exact⟨rfl,by kernel_rfl,by kernel_rfl,_,_,rfl,by kernel_rfl,by kernel_rfl⟩
    (go_wp2_with fail);show bodyPost _ _ _ _ _ (wm.setCells w.heap.size 0 (cr a1 b1 c1 d1 f1 k1 a2 b2 c2 d2 f2 k2));have Pa:au (wm.setCells w.heap.size 0 (cr a1 b1 c1 d1 f1 k1 a2 b2 c2 d2 f2 k2)) w.heap.size (cr a1 b1 c1 d1 f1 k1 a2 b2 c2 d2 f2 k2):=Fa.o.setCells (cr a1 b1 c1 d1 f1 k1 a2 b2 c2 d2 f2 k2) 0 (by simp);have Qa:=ct wm w.heap.size 0 (cr a1 b1 c1 d1 f1 k1 a2 b2 c2 d2 f2 k2);have Ra:Rd w0 R a len cap (wm.setCells w.heap.size 0 (cr a1 b1 c1 d1 f1 k1 a2 b2 c2 d2 f2 k2)):=Ja.o.cells (by omega) (by omega) _;have Sa:=cX Ka.o Qa (m3 _);generalize(wm.setCells w.heap.size 0 (cr a1 b1 c1 d1 f1 k1 a2 b2 c2 d2 f2 k2))=wf at *;exact m8 (aQ rfl rfl (u' wf w.heap.size 0 31 _ _ Pa.row underlying31 rfl (by kernel_rfl))) rfl ⟨⟨⟨a1,b1,c1,d1,f1,k1⟩,⟨a2,b2,c2,d2,f2,k2⟩⟩,rfl,Ra,Sa⟩
   | false=>
    have Ob:IntKind.i64.wrap ((n:Int)+1)=(n:Int)+1:=(by rw[vi];omega);(go_wp2_with(with_reducible refine aF ?_ ?_;rfl));with_reducible refine fB 31 xb 0 (cr 0 0 0 0 1 0 0 0 0 1 ((n:Int)+1) 0) ?q6 ?q5 ?_
    case q6=>exact Ca.o.there _ 12 (by simp)
    case q5=>exact⟨rfl,by kernel_rfl,by kernel_rfl,_,_,rfl,by kernel_rfl,by kernel_rfl⟩
    have Ia:=ct wm xb 0 (cr 0 0 0 0 1 0 0 0 0 1 ((n:Int)+1) 0);have hZ:=Fa.o.grown Ia (by simp;omega);have hX:au (wm.setCells xb 0 (cr 0 0 0 0 1 0 0 0 0 1 ((n:Int)+1) 0)) xb (cr 0 0 0 0 1 0 0 0 0 1 ((n:Int)+1) 0):=Ca.o.setCells (cr 0 0 0 0 1 0 0 0 0 1 ((n:Int)+1) 0) 0 (by simp);have hR:Rd w0 R a len cap (wm.setCells xb 0 (cr 0 0 0 0 1 0 0 0 0 1 ((n:Int)+1) 0)):=Ja.o.cells (by omega) (by omega) _;have hG:=cX Ka.o Ia (by omega);generalize(wm.setCells xb 0 (cr 0 0 0 0 1 0 0 0 0 1 ((n:Int)+1) 0))=wn at *;go_wp2;go_roundw
    case rel=>exact⟨n+1,_,_,_,_,_,_,_,_,_,_,_,_,by omega,by go_num,hZ,hX,hR,hG⟩
    case measure=>simp[intOf];omega
theorem Rd.sets{B:Nat}(hB:B≠R)(hlo:w0.heap.size≤B):∀(vs:List Value) (w:World) (i:Nat),Rd w0 R a len cap w→Rd w0 R a len cap (fU w B i vs):=by
 intro vs w i h;obtain⟨p,hp,Aa⟩:=h.cp;exact⟨fP hlo vs w i h.below,h.lo,by rw[jf];exact h.hi,(kx B (show R≠B from fun e=>hB e.symm) vs w i).trans h.cb,⟨p,hp,(kx B (show R≠B from fun e=>hB e.symm) vs w i).trans Aa⟩,by rw[eX];exact h.fr⟩
end Go.Proofs.YtobnifjhikoleaaGreatDoor
