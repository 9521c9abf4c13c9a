import Derived.Laws.CopyOwn
import Derived.Test.YtbjalickbnpnkaaGreatDoorPk01
namespace Go.Proofs.YtbjalickbnpnkaaGreatDoor
open Go.RowKit Go.Proofs.Tryz
set_option linter.unusedSimpArgs false
set_option maxHeartbeats 32000000
variable {N i n m c d dA k cap cc:Nat}{zs f g ys q r q' r' O R:List Int}{a b:Option Addr}{t:TypeId}{w:World}
def M.tab(N:Nat)(f:Nat->Int):List Int:=(List.range N).map f
theorem M.tab_len(N:Nat)(f:Nat->Int):(M.tab N f).length=N:=by simp[M.tab]
theorem M.tab_get(N:Nat)(f:Nat->Int)(i:Nat)(h:i<N):(M.tab N f).getD i 0=f i:=by
 rw[m5,m9 (by rw[M.tab_len];exact h)];simp[M.tab]
theorem M.tab_ext{f:Nat->Int}(hl:zs.length=N)(h:∀i,i<N->zs.getD i 0=f i):zs=M.tab N f:=by
 apply List.ext_getElem (by rw[hl,M.tab_len]);intro i h1 h2;have:=h i (by omega);rw[m5,m9 h1]at this;simpa[M.tab]using this
theorem bv{f g:Nat->Int}(h:∀i,i<N->f i=g i):M.tab N f=M.tab N g:=
 M.tab_ext (M.tab_len _ _) λi hi=>by rw[M.tab_get _ _ _ hi];exact h i hi
theorem d7(N:Nat)(f:Nat->Int)(k:Nat)(v:Int):(M.tab N f).set k v=M.tab N (λi=>if i=k then v else f i):=by
 apply List.ext_getElem (by simp[M.tab]);intro i h1 h2;simp only[M.tab,List.getElem_set,List.getElem_map,List.getElem_range];by_cases e:k=i
 .subst e;simp
 .rw[if_neg e,if_neg (λh=>e h.symm)]
theorem dN(k:Nat)(f:Nat->Int):M.tab k f++[f k]=M.tab (k+1) f:=by
 simp[M.tab,List.range_succ]
def M.sumAt(zs ys:List Int)(i:Nat):Int:=(zs.getD i 0+ys.getD i 0)%65537
def M.padd(zs ys:List Int):List Int:=M.tab (max zs.length ys.length) (M.sumAt zs ys)
theorem M.getD_out(h:zs.length<=i):zs.getD i 0=0:=by
 rw[m5,List.getElem?_eq_none h];rfl
theorem M.all_tab{f:Nat->Int}(h:∀i,i<N->M.el (f i)=true):M.allEl (M.tab N f)=true:=by
 unfold M.allEl M.tab;rw[List.all_eq_true];intro x hx;obtain⟨i,hi,rfl⟩:=List.mem_map.1 hx;exact h i (List.mem_range.1 hi)
theorem M.all_padd(zs ys:List Int):M.allEl (M.padd zs ys)=true:=
 M.all_tab λi _=>(M.el_iff _).2 ⟨by unfold M.sumAt;omega,by unfold M.sumAt;omega⟩
theorem eT(w:World)(hz:aC w a n c zs)(hy:aC w b m d ys)(ha:M.allEl zs=true)(hb:M.allEl ys=true)(hn:n<=100000)(hm:m<=100000):
  Calls prog 137 #[.slice a n c,.slice b m d] w λe w'=>∃a' l c',e=.returned (.slice a' l c')/\aA 2 w' w.heap.size a' l c' (M.trim (M.padd zs ys))/\m1 w w':=by
 have HZ:=Hd hz;have HY:=Hd hy;have HA:=Hd ha;have HB:=Hd hb;obtain⟨i0,hi,Ta,Ua,Va⟩:=info_parts bF;have HI:H7 (prog.info? 2=some i0/\i0.zero=some (it 0)/\i0.size=1/\i0.bytes=8):=⟨hi,Ta,Ua,Va⟩;clear hz hy ha hb hi Ta Ua Va;go_enter func137,ntmps137;go_wp2
 go_loopw [5,6] (λs i wr=>∃(k:Nat) (a':Option Addr) (Na:Nat),k<=max n m/\i=it k/\s=.slice a' k Na/\aA 2 wr w.heap.size a' k Na (M.tab k (M.sumAt zs ys))/\m1 w wr) (λ_ i _=>max n m-(intOf i).toNat)
 case atStart=>exact⟨0,_,_,by omega,rfl,rfl,World.ownsRow_made w #[] 0 (m3 _) (by unfold maxLen;omega) rfl,(m8 _ _).alloc (m3 _) _⟩
 case round=>
  obtain⟨k,a',Na,hk,rfl,rfl,Wa,Oa⟩:=hrel;have Da:=Hd Wa;have Ea:=Hd Oa;have Ia:=Oa.size;clear Wa Oa;have Pa:=M.el_at HA.o k;have Ha:=M.el_at HB.o k;have Qa:H7 (M.sumAt zs ys k=(zs.getD k 0+ys.getD k 0)%65537):=rfl;by_cases Ab:k<n
  ·
   obtain⟨b1,o1,rfl,Xa⟩:=(HZ.o.below Ea.o).at (by omega);have c1:=Xa k Ab;clear Xa;generalize hx:zs.getD k 0=x at c1 Pa;have HX:=Hd hx;obtain⟨x0,x1⟩:=Pa;have hI:(k:Int)<(n:Int):=(by omega);clear hx;by_cases Ra:k<m
   ·
    obtain⟨b2,o2,rfl,Ja⟩:=(HY.o.below Ea.o).at (by omega);have c2:=Ja k Ra;clear Ja;generalize Ka:ys.getD k 0=y at c2 Ha;have Sa:=Hd Ka;obtain⟨y0,y1⟩:=Ha;have hJ:(k:Int)<(m:Int):=(by omega);have HV:H7 (M.sumAt zs ys k=(x+y)%65537):=(by show M.sumAt zs ys k=_;rw[Qa.o,HX.o,Sa.o]);clear Ka;(go_wp2_with(at_builtin;refine wpList_append_own _ rfl _ _ 24 rfl w.heap.size 2 i0 (it 0) 1 8 underlying24 HI.o.1 HI.o.2.1 HI.o.2.2.1 HI.o.2.2.2 rfl (by decide) _ k ((M.tab k (M.sumAt zs ys)).map (Value.int .i64)) rfl (xY Da.o _) ⟨wr.heap.size,0,none⟩ 1 1 [it ((x+y)%65537)] rfl rfl (br wr _ _) (bL _) (by unfold maxLen;omega) (by omega) (by simp;omega) ?_));intro v' w1 Ba Ca _;have hown':w1.ownsRow w.heap.size 2 1 v' (k+1) ((M.tab (k+1) (M.sumAt zs ys)).map (Value.int .i64)):=(by rw[<-dN,HV.o,xU];exact Ba);obtain⟨a2,La,rfl,Aa⟩:=aA.form hown';have Fa:=Hd Aa;have Ga:=Hd (Ea.o.grown ((xC wr _ _).trans Ca) Ia Da.o.row);clear Ba hown' Ca Aa;go_wp2;go_roundw
    case rel=>exact⟨k+1,a2,La,by omega,by go_num,rfl,Fa.o,Ga.o⟩
    case measure=>simp[intOf];omega
   ·
    have hJ:¬ (k:Int)<(m:Int):=(by omega);have HV:H7 (M.sumAt zs ys k=x%65537):=(by show M.sumAt zs ys k=_;rw[Qa.o,HX.o,M.getD_out (by rw[HY.o.len];omega),Int.add_zero]);clear Ha;(go_wp2_with(at_builtin;refine wpList_append_own _ rfl _ _ 24 rfl w.heap.size 2 i0 (it 0) 1 8 underlying24 HI.o.1 HI.o.2.1 HI.o.2.2.1 HI.o.2.2.2 rfl (by decide) _ k ((M.tab k (M.sumAt zs ys)).map (Value.int .i64)) rfl (xY Da.o _) ⟨wr.heap.size,0,none⟩ 1 1 [it (x%65537)] rfl rfl (br wr _ _) (bL _) (by unfold maxLen;omega) (by omega) (by simp;omega) ?_));intro v' w1 Ba Ca _;have hown':w1.ownsRow w.heap.size 2 1 v' (k+1) ((M.tab (k+1) (M.sumAt zs ys)).map (Value.int .i64)):=(by rw[<-dN,HV.o,xU];exact Ba);obtain⟨a2,La,rfl,Aa⟩:=aA.form hown';have Fa:=Hd Aa;have Ga:=Hd (Ea.o.grown ((xC wr _ _).trans Ca) Ia Da.o.row);clear Ba hown' Ca Aa;go_wp2;go_roundw
    case rel=>exact⟨k+1,a2,La,by omega,by go_num,rfl,Fa.o,Ga.o⟩
    case measure=>simp[intOf];omega
  ·
   have hI:¬ (k:Int)<(n:Int):=(by omega);have Cb:decide ((k:Int)<(n:Int))=false:=(by simpa using hI);clear Pa;by_cases Ra:k<m
   ·
    obtain⟨b2,o2,rfl,Ja⟩:=(HY.o.below Ea.o).at (by omega);have c2:=Ja k Ra;clear Ja;generalize Ka:ys.getD k 0=y at c2 Ha;have Sa:=Hd Ka;obtain⟨y0,y1⟩:=Ha;have hJ:(k:Int)<(m:Int):=(by omega);have HV:H7 (M.sumAt zs ys k=y%65537):=(by show M.sumAt zs ys k=_;rw[Qa.o,Sa.o,M.getD_out (zs:=zs) (by rw[HZ.o.len];omega),Int.zero_add]);clear Ka;(go_wp2_with(at_builtin;refine wpList_append_own _ rfl _ _ 24 rfl w.heap.size 2 i0 (it 0) 1 8 underlying24 HI.o.1 HI.o.2.1 HI.o.2.2.1 HI.o.2.2.2 rfl (by decide) _ k ((M.tab k (M.sumAt zs ys)).map (Value.int .i64)) rfl (xY Da.o _) ⟨wr.heap.size,0,none⟩ 1 1 [it (y%65537)] rfl rfl (br wr _ _) (bL _) (by unfold maxLen;omega) (by omega) (by simp;omega) ?_));intro v' w1 Ba Ca _;have hown':w1.ownsRow w.heap.size 2 1 v' (k+1) ((M.tab (k+1) (M.sumAt zs ys)).map (Value.int .i64)):=(by rw[<-dN,HV.o,xU];exact Ba);obtain⟨a2,La,rfl,Aa⟩:=aA.form hown';have Fa:=Hd Aa;have Ga:=Hd (Ea.o.grown ((xC wr _ _).trans Ca) Ia Da.o.row);clear Ba hown' Ca Aa;go_wp2;go_roundw
    case rel=>exact⟨k+1,a2,La,by omega,by go_num,rfl,Fa.o,Ga.o⟩
    case measure=>simp[intOf];omega
   ·
    have hJ:¬ (k:Int)<(m:Int):=(by omega);have Ya:k=max n m:=(by omega);have HP:H7 (M.tab k (M.sumAt zs ys)=M.padd zs ys):=(by show _=_;unfold M.padd;rw[HZ.o.len,HY.o.len,<-Ya]);have Bb:k<=1048576:=(by omega);clear Ha Ya;(go_wp2_with fail);refine(cr _ Da.o.sees Bb).mono ?_;rintro e w1 ⟨a2,l2,c2,rfl,Aa,Za⟩
    have Fa:H7 (aA 2 w1 w.heap.size a2 l2 c2 (M.trim (M.padd zs ys))):=by
     show aA _ _ _ _ _ _ _;rw[<-HP.o];exact Aa.mono Ia
    have Ga:=Hd (Ea.o.trans (Za.mono Ia));clear Aa Za;go_wp2;go_ret;exact⟨a2,l2,c2,rfl,Fa.o,Ga.o⟩
theorem aA.whole{g:Nat}(h:aA t w dA (some ⟨g,0,none⟩) n n zs):w.heap[g]?=some (.cells (zs.map (Value.int .i64)).toArray t (0,0)):=by
 rcases h.2 with⟨e,_⟩ | ⟨g',c,cur,e,_,hh,_,_,hs,ht⟩
 .simp at e
 ·
  simp only[Value.slice.injEq,Option.some.injEq,Addr.mk.injEq]at e;obtain⟨⟨rfl,-,-⟩,-,rfl⟩:=e;rw[hh]
  have:cur.toList=zs.map (Value.int .i64):=by
   rw[xt (by rw[Array.length_toList,hs];exact m3 _)]at ht;exact ht
  congr 2
  rw[<-this]
theorem aA.of_whole{g:Nat}(hl:zs.length=n)(hb:dA<=g)(hn:n<=2000000)(h:w.heap[g]?=some (.cells (zs.map (Value.int .i64)).toArray t (0,0))):aA t w dA (some ⟨g,0,none⟩) n n zs:=by
 refine⟨by simpa using hl,.inr ⟨g,n,_,rfl,hb,h,m3 _,by unfold maxLen;omega,by simpa using hl,?_⟩⟩;rw[xt (by simp[hl])]
def M.part(zs ys:List Int)(k i:Nat):Int:=if i<k then M.sumAt zs ys i else zs.getD i 0
theorem kg(ys:List Int)(h:zs.length<=N):zs++List.replicate (N-zs.length) 0=M.tab N (M.part zs ys 0):=by
 apply M.tab_ext (by simp;omega);intro i hi;unfold M.part;rw[if_neg (by omega),m5,m5];by_cases h1:i<zs.length
 .rw[List.getElem?_append_left h1]
 .rw[List.getElem?_append_right (by omega),List.getElem?_replicate,if_pos (by omega),List.getElem?_eq_none (by omega)];rfl
theorem kf:(M.tab N (M.part zs ys k)).set k (M.sumAt zs ys k)=M.tab N (M.part zs ys (k+1)):=by
 rw[d7];apply bv;intro i _;unfold M.part;by_cases e:i=k
 .subst e;rw[if_pos rfl,if_pos (by omega)]
 ·
  rw[if_neg e];by_cases h:i<k
  .rw[if_pos h,if_pos (by omega)]
  .rw[if_neg h,if_neg (by omega)]
theorem rv(ha:M.allEl zs=true):M.tab (max zs.length ys.length) (M.part zs ys ys.length)=M.padd zs ys:=by
 apply bv;intro i _;unfold M.part;by_cases h:i<ys.length
 .rw[if_pos h]
 ·
  rw[if_neg h];unfold M.sumAt;have:=M.el_at ha i;rw[M.getD_out (zs:=ys) (by omega),Int.add_zero,Int.emod_eq_of_lt this.1 this.2]
theorem ke(ha:M.allEl zs=true)(h1:max zs.length ys.length=N)(h2:ys.length=k):M.tab N (M.part zs ys k)=M.padd zs ys:=by
 rw[<-h1,<-h2];exact rv ha
theorem pQ(h:zs.length=n)(hN:n<=N):(zs.map (Value.int .i64)).length=Nat.min n N:=by
 rw[List.length_map,h];exact(Nat.min_eq_left hN).symm
theorem pP(h:zs.length=n)(hN:n<=N):0+(zs.map (Value.int .i64)).length<=((List.replicate N (0:Int)).map (Value.int .i64)).length:=by
 simp[h];exact hN
theorem pX:(prog.info? 134).map (·.size)=some 1:=by kernel_rfl
theorem oq(w:World)(hz:aC w a n c zs)(hy:aC w b m d ys)(ha:M.allEl zs=true)(hb:M.allEl ys=true)(hn:n<=100000)(hm:m<=100000):
  Calls prog 117 #[.slice a n c,.slice b m d] w λe w'=>∃a' l c',e=.returned (.slice a' l c')/\aA 134 w' w.heap.size a' l c' (M.trim (M.padd zs ys))/\m1 w w':=by
 have HZ:=Hd hz;have HY:=Hd hy;have HA:=Hd ha;have HB:=Hd hb;obtain⟨i0,hi,Ya,Za,Ab⟩:=info_parts cJ;clear hz hy ha hb;by_cases Kb:n<m
 ·
  have Hb:(n:Int)<(m:Int):=(by omega);have Ba:n<=m:=(by omega);have Ib:m<=m:=(by omega);have Jb:m<=100000:=(by omega);have Bb:H7 (max zs.length ys.length=m):=(by show _=_;rw[HZ.o.len,HY.o.len];omega);go_enter func117,ntmps117;(go_wp2_with(at_make;refine wpList_make_full _ rfl _ _ 79 rfl w.heap.size 134 i0 (it 0) 1 underlying79 hi Ya Za .i64 .i64 _ _ m rfl rfl rfl rfl (by rw[Ab];omega) (by unfold maxLen;omega) (m3 _) ?_));intro w1 Ca hg
  have Ea:aA 134 w1 w.heap.size (some ⟨w.heap.size,0,none⟩) m m (List.replicate m 0):=by
   show w1.ownsRow _ _ _ _ _ _;rw[dP]at Ca;exact Ca
  have Cb:=Hd Ea;have Fa:H7 (m1 w w1):=ba hg
  have Ga:H7 (∀hz:aC w1 a n c zs,0<(zs.map (Value.int .i64)).length->some (⟨w.heap.size,0,none⟩:Addr)=some ⟨w.heap.size,0,none⟩/\∃ad,a=some ad/\∀j v,(zs.map (Value.int .i64))[j]?=some v->w1.cell? (ad.add j)=some v):=by
   intro hz hp;obtain⟨b1,o1,e,_⟩:=hz.at (by rw[List.length_map,hz.len]at hp;exact hp);refine⟨rfl,_,e,?_⟩;have:=cB hz n (m3 _) _ e;rw[xt (by rw[hz.len];exact m3 _)]at this;exact this
  clear Ca hg Ea hi Ya Za Ab;(go_wp2_with(refine wpList_copy_splice rfl _ _ 79 80 rfl 134 underlying79 pX _ _ _ _ _ _ rfl rfl w.heap.size 0 ((List.replicate m (0:Int)).map (Value.int .i64)) 134 Cb.o.whole (zs.map (Value.int .i64)) (pQ HZ.o.len Ba) (Ga.o (HZ.o.below Fa.o)) (pP HZ.o.len Ba) (cF _) w.heap.size w Fa.o (m3 _) ?_));intro w2 Ha Ia
  have Ja:aA 134 w2 w.heap.size (some ⟨w.heap.size,0,none⟩) m m (M.tab m (M.part zs ys 0)):=by
   refine aA.of_whole (M.tab_len _ _) (m3 _) (by omega) ?_;rw[<-kg ys (by rw[HZ.o.len];exact Ba)];have h:=Ha.out;simp[splice]at h;rw[h];simp[HZ.o.len]
  have Ka:=Hd Ja;have La:=Hd Ia;clear Ha Ia Ja Ga;go_wp2
  go_loopw [19] (λi wr=>∃k:Nat,k<=m/\i=it k/\aA 134 wr w.heap.size (some ⟨w.heap.size,0,none⟩) m m (M.tab m (M.part zs ys k))/\m1 w wr) (λi _=>m-(intOf i).toNat)
  case atStart=>exact⟨0,by omega,rfl,Ka.o,La.o⟩
  case round=>
   obtain⟨k,hk,rfl,Na,Oa⟩:=hrel;have Da:=Hd Na;have Aa:=Hd Oa;clear Na Oa Ka La;by_cases Db:k<m
   ·
    obtain⟨b1,o1,rfl,Pa⟩:=(HY.o.below Aa.o).at (by omega);have c1:=Pa k Db;obtain⟨g,Qa,_,_,Ra,hf⟩:=Da.o.block (by omega);simp only[Option.some.injEq,Addr.mk.injEq,and_true]at Qa;subst Qa;have c2:=Ra k (by omega);rw[M.tab_get _ _ _ (by omega),show M.part zs ys k k=zs.getD k 0 by unfold M.part;rw[if_neg (by omega)]]at c2;have f2:=hf k;have Sa:=M.el_at HB.o k;have Ta:=M.el_at HA.o k;have HV:H7 (M.sumAt zs ys k=(zs.getD k 0+ys.getD k 0)%65537):=rfl;generalize hx:zs.getD k 0=x at c2 Ta;generalize Ua:ys.getD k 0=y at c1 Sa;have Eb:H7 (M.sumAt zs ys k=(x+y)%65537):=(by show _=_;rw[HV.o,hx,Ua]);obtain⟨x0,x1⟩:=Ta;obtain⟨y0,y1⟩:=Sa;have hI:(k:Int)<(m:Int):=(by omega);have hJ:(k:Int)<(m:Int):=(by omega);clear hx Ua Pa Ra hf HV;(go_wp2_with fail);refine(dV x y _ x0 x1 y0 y1).mono ?_;rintro e wr ⟨rfl,rfl⟩;go_wp2;go_roundw
    case rel=>
     refine⟨k+1,by omega,by go_num,?_,Aa.o.setCell (m3 _) _⟩;rw[<-kf,Eb.o];exact Da.o.set k _
    case measure=>simp[intOf];omega
   ·
    have Va:k=m:=(by omega);have HP:H7 (M.tab m (M.part zs ys k)=M.padd zs ys):=ke HA.o Bb.o (HY.o.len.trans Va.symm);clear Va;(go_wp2_with fail);refine(dl _ Da.o.sees (by omega)).mono ?_;rintro e w4 ⟨a4,l4,c4,rfl,Wa,Xa⟩
    have Fb:H7 (aA 134 w4 w.heap.size a4 l4 c4 (M.trim (M.padd zs ys))):=by
     show aA _ _ _ _ _ _ _;rw[<-HP.o];exact Wa.mono Aa.o.size
    have Gb:=Aa.t Xa;clear Wa Xa;go_wp2;go_ret;exact⟨a4,l4,c4,rfl,Fb.o,Gb.o⟩
 ·
  have Hb:¬ (n:Int)<(m:Int):=(by omega);have Ba:n<=n:=(by omega);have Ib:m<=n:=(by omega);have Jb:n<=100000:=(by omega);have Bb:H7 (max zs.length ys.length=n):=(by show _=_;rw[HZ.o.len,HY.o.len];omega);go_enter func117,ntmps117;(go_wp2_with(at_make;refine wpList_make_full _ rfl _ _ 79 rfl w.heap.size 134 i0 (it 0) 1 underlying79 hi Ya Za .i64 .i64 _ _ n rfl rfl rfl rfl (by rw[Ab];omega) (by unfold maxLen;omega) (m3 _) ?_));intro w1 Ca hg
  have Ea:aA 134 w1 w.heap.size (some ⟨w.heap.size,0,none⟩) n n (List.replicate n 0):=by
   show w1.ownsRow _ _ _ _ _ _;rw[dP]at Ca;exact Ca
  have Cb:=Hd Ea;have Fa:H7 (m1 w w1):=ba hg
  have Ga:H7 (∀hz:aC w1 a n c zs,0<(zs.map (Value.int .i64)).length->some (⟨w.heap.size,0,none⟩:Addr)=some ⟨w.heap.size,0,none⟩/\∃ad,a=some ad/\∀j v,(zs.map (Value.int .i64))[j]?=some v->w1.cell? (ad.add j)=some v):=by
   intro hz hp;obtain⟨b1,o1,e,_⟩:=hz.at (by rw[List.length_map,hz.len]at hp;exact hp);refine⟨rfl,_,e,?_⟩;have:=cB hz n (m3 _) _ e;rw[xt (by rw[hz.len];exact m3 _)]at this;exact this
  clear Ca hg Ea hi Ya Za Ab;(go_wp2_with(refine wpList_copy_splice rfl _ _ 79 80 rfl 134 underlying79 pX _ _ _ _ _ _ rfl rfl w.heap.size 0 ((List.replicate n (0:Int)).map (Value.int .i64)) 134 Cb.o.whole (zs.map (Value.int .i64)) (pQ HZ.o.len Ba) (Ga.o (HZ.o.below Fa.o)) (pP HZ.o.len Ba) (cF _) w.heap.size w Fa.o (m3 _) ?_));intro w2 Ha Ia
  have Ja:aA 134 w2 w.heap.size (some ⟨w.heap.size,0,none⟩) n n (M.tab n (M.part zs ys 0)):=by
   refine aA.of_whole (M.tab_len _ _) (m3 _) (by omega) ?_;rw[<-kg ys (by rw[HZ.o.len];exact Ba)];have h:=Ha.out;simp[splice]at h;rw[h];simp[HZ.o.len]
  have Ka:=Hd Ja;have La:=Hd Ia;clear Ha Ia Ja Ga;go_wp2
  go_loopw [19] (λi wr=>∃k:Nat,k<=m/\i=it k/\aA 134 wr w.heap.size (some ⟨w.heap.size,0,none⟩) n n (M.tab n (M.part zs ys k))/\m1 w wr) (λi _=>m-(intOf i).toNat)
  case atStart=>exact⟨0,by omega,rfl,Ka.o,La.o⟩
  case round=>
   obtain⟨k,hk,rfl,Na,Oa⟩:=hrel;have Da:=Hd Na;have Aa:=Hd Oa;clear Na Oa Ka La;by_cases Db:k<m
   ·
    obtain⟨b1,o1,rfl,Pa⟩:=(HY.o.below Aa.o).at (by omega);have c1:=Pa k Db;obtain⟨g,Qa,_,_,Ra,hf⟩:=Da.o.block (by omega);simp only[Option.some.injEq,Addr.mk.injEq,and_true]at Qa;subst Qa;have c2:=Ra k (by omega);rw[M.tab_get _ _ _ (by omega),show M.part zs ys k k=zs.getD k 0 by unfold M.part;rw[if_neg (by omega)]]at c2;have f2:=hf k;have Sa:=M.el_at HB.o k;have Ta:=M.el_at HA.o k;have HV:H7 (M.sumAt zs ys k=(zs.getD k 0+ys.getD k 0)%65537):=rfl;generalize hx:zs.getD k 0=x at c2 Ta;generalize Ua:ys.getD k 0=y at c1 Sa;have Eb:H7 (M.sumAt zs ys k=(x+y)%65537):=(by show _=_;rw[HV.o,hx,Ua]);obtain⟨x0,x1⟩:=Ta;obtain⟨y0,y1⟩:=Sa;have hI:(k:Int)<(m:Int):=(by omega);have hJ:(k:Int)<(n:Int):=(by omega);clear hx Ua Pa Ra hf HV;(go_wp2_with fail);refine(dV x y _ x0 x1 y0 y1).mono ?_;rintro e wr ⟨rfl,rfl⟩;go_wp2;go_roundw
    case rel=>
     refine⟨k+1,by omega,by go_num,?_,Aa.o.setCell (m3 _) _⟩;rw[<-kf,Eb.o];exact Da.o.set k _
    case measure=>simp[intOf];omega
   ·
    have Va:k=m:=(by omega);have HP:H7 (M.tab n (M.part zs ys k)=M.padd zs ys):=ke HA.o Bb.o (HY.o.len.trans Va.symm);clear Va;(go_wp2_with fail);refine(dl _ Da.o.sees (by omega)).mono ?_;rintro e w4 ⟨a4,l4,c4,rfl,Wa,Xa⟩
    have Fb:H7 (aA 134 w4 w.heap.size a4 l4 c4 (M.trim (M.padd zs ys))):=by
     show aA _ _ _ _ _ _ _;rw[<-HP.o];exact Wa.mono Aa.o.size
    have Gb:=Aa.t Xa;clear Wa Xa;go_wp2;go_ret;exact⟨a4,l4,c4,rfl,Fb.o,Gb.o⟩
theorem M.polyOk_parts(h:M.polyOk zs=true):zs.length<=128/\M.allEl zs=true:=by
 unfold M.polyOk at h;simp only[xP,decide_eq_true_eq]at h;exact⟨h.1,h.2.1⟩
def M.both(zs ys:List Int):Bool:=M.polyOk zs&&M.polyOk ys
theorem M.both_parts(h:M.both zs ys=true):M.polyOk zs=true/\M.polyOk ys=true:=by
 unfold M.both at h;simpa using h
theorem M.padd_len(zs ys:List Int):(M.padd zs ys).length=max zs.length ys.length:=M.tab_len _ _
theorem lv(w:World)(hz:aC w a n c zs)(hy:aC w b m d ys)(hb:M.both zs ys=true):
  Calls prog 31 #[.slice a n c,.slice b m d] w λe w'=>∃a' b' c' d',e=.returned (.tuple #[.slice a' n c',.slice b' m d',.bool true])/\aA 134 w' w.heap.size a' n c' zs/\aA 134 w' w.heap.size b' m d' ys/\m1 w w':=by
 obtain⟨h1,h2⟩:=M.both_parts hb;have hn:n<=1048576:=(by have:=(M.polyOk_parts h1).1;rw[hz.len]at this;omega);have hm:m<=1048576:=(by have:=(M.polyOk_parts h2).1;rw[hy.len]at this;omega);have HZ:=Hd hz;have HY:=Hd hy;clear hz hy hb;go_enter func31,ntmps31;(go_wp2_with fail);refine(dB _ HZ.o).mono ?_;rintro e w ⟨rfl,rfl⟩;(go_wp2_with fail);refine(dB _ HY.o).mono ?_;rintro e w ⟨rfl,rfl⟩;(go_wp2_with fail);refine(dx _ HZ.o hn).mono ?_;rintro e w1 ⟨a1,c1,rfl,Ca,Da⟩;have Fa:=Hd Ca;have Aa:=Hd Da;clear Ca Da;(go_wp2_with fail);refine(dx _ (HY.o.below Aa.o) hm).mono ?_;rintro e w2 ⟨a2,c2,rfl,Ea,Ba⟩;have Ga:H7 (aA 134 w2 w.heap.size a2 m c2 ys):=Ea.mono Aa.o.size;have Ha:=Hd (Fa.o.below Ba);have Ia:=Aa.t Ba;clear Ea Ba;go_wp2
 go_ret3
 exact⟨a1,a2,c1,c2,rfl,Ha.o,Ga.o,Ia.o⟩
theorem qB(w:World)(hz:aC w a n c zs)(hy:aC w b m d ys)(hb:M.both zs ys=false):
  Rq 31 #[.slice a n c,.slice b m d] w (.tuple #[.slice none 0 0,.slice none 0 0,.bool false]):=by
 have HZ:=Hd hz;have HY:=Hd hy;clear hz hy
 cases h1:M.polyOk zs with
 | false=>
  go_enter func31,ntmps31;(go_wp2_with fail);refine(dB _ HZ.o).mono ?_;rintro e w ⟨rfl,rfl⟩;go_wp2
  go_ret3
  exact⟨rfl,rfl⟩
 | true=>
  have h2:M.polyOk ys=false:=(by unfold M.both at hb;rw[h1,Bool.true_and]at hb;exact hb);clear hb;go_enter func31,ntmps31;(go_wp2_with fail);refine(dB _ HZ.o).mono ?_;rintro e w ⟨rfl,rfl⟩;(go_wp2_with fail);refine(dB _ HY.o).mono ?_;rintro e w ⟨rfl,rfl⟩;go_wp2
  go_ret3
  exact⟨rfl,rfl⟩
namespace M
theorem getD_take:(zs.take k).getD i 0=if i<k then zs.getD i 0 else 0:=by
 rw[m5,m5];by_cases h:i<k
 .rw[List.getElem?_take_of_lt h,if_pos h]
 .rw[List.getElem?_eq_none (by rw[xW];omega),if_neg h];rfl
theorem tl_zero(h1:tl zs k<=i)(h2:i<k):zs.getD i 0=0:=by
 induction k with
 | zero=>omega
 | succ k ih=>
  unfold tl at h1;by_cases h:zs.getD k 0=0
  ·
   rw[if_pos h]at h1;by_cases e:i=k
   .subst e;exact h
   .exact ih h1 (by omega)
  .rw[if_neg h]at h1;omega
theorem getD_trim(zs:List Int)(i:Nat):(trim zs).getD i 0=zs.getD i 0:=by
 unfold trim;rw[getD_take];by_cases h:i<tl zs zs.length
 .rw[if_pos h]
 ·
  rw[if_neg h];by_cases h2:i<zs.length
  .exact(tl_zero (by omega) h2).symm
  .exact(getD_out (by omega)).symm
def neat(zs:List Int):Prop:=zs.length=0\/zs.getD (zs.length-1) 0≠0
theorem tl_pos(h:0<tl zs k):zs.getD (tl zs k-1) 0≠0:=by
 induction k with
 | zero=>simp[tl]at h
 | succ k ih=>
  unfold tl at h |-;by_cases e:zs.getD k 0=0
  .rw[if_pos e]at h |-;exact ih h
  .rw[if_neg e];simpa using e
theorem trim_len(zs:List Int):(trim zs).length=tl zs zs.length:=by
 unfold trim;rw[xW];have:=tl_le zs zs.length;omega
theorem neat_trim(zs:List Int):neat (trim zs):=by
 unfold neat;rw[trim_len];by_cases h:tl zs zs.length=0
 .exact .inl h
 .right;rw[getD_trim];exact tl_pos (by omega)
theorem neat_ext(h1:neat zs)(h2:neat ys)(h:∀i,zs.getD i 0=ys.getD i 0):zs=ys:=by
 have hl:zs.length=ys.length:=by
  rcases Nat.lt_trichotomy zs.length ys.length with hlt | e | hlt
  ·
   rcases h2 with e | e
   .omega
   .exfalso;apply e;rw[<-h];exact getD_out (by omega)
  .exact e
  ·
   rcases h1 with e | e
   .omega
   .exfalso;apply e;rw[h];exact getD_out (by omega)
 apply List.ext_getElem hl;intro i a b;have:=h i;rw[m5,m5,m9 a,m9 b]at this;exact this
theorem trim_ext(h:∀i,zs.getD i 0=ys.getD i 0):trim zs=trim ys:=
 neat_ext (neat_trim _) (neat_trim _) λi=>by rw[getD_trim,getD_trim];exact h i
theorem neat_polyOk(h:polyOk zs=true):neat zs:=by
 unfold polyOk at h;simp only[xP,Bool.or_eq_true,decide_eq_true_eq,bne_iff_ne]at h;exact h.2.2
theorem trim_neat(h:neat zs):trim zs=zs:=neat_ext (neat_trim _) h (getD_trim zs)
theorem tab_getD(N:Nat)(f:Nat->Int)(i:Nat):(tab N f).getD i 0=if i<N then f i else 0:=by
 by_cases h:i<N
 .rw[if_pos h,tab_get _ _ _ h]
 .rw[if_neg h];exact getD_out (by rw[tab_len];omega)
theorem padd_getD(i:Nat):(padd zs ys).getD i 0=(zs.getD i 0+ys.getD i 0)%65537:=by
 unfold padd;rw[tab_getD];by_cases h:i<max zs.length ys.length
 .rw[if_pos h];rfl
 .rw[if_neg h,getD_out (zs:=zs) (by omega),getD_out (zs:=ys) (by omega)];rfl
def pm:List Int->List Int->Nat->Int
 | [],_,_=>0
 | c::r,ys,i=>(c*ys.getD i 0+(if i=0 then 0 else pm r ys (i-1)))%65537
theorem pm_bd(zs ys:List Int)(i:Nat):0<=pm zs ys i/\pm zs ys i<65537:=by
 cases zs with
 | nil=>show 0<=(0:Int)/\(0:Int)<65537;omega
 | cons c r=>unfold pm;omega
theorem pm_out(h:zs.length+ys.length<=i+1):pm zs ys i=0:=by
 induction zs generalizing i with
 | nil=>rfl
 | cons c r ih=>
  unfold pm;rw[List.length_cons]at h;rw[getD_out (zs:=ys) (by omega)];by_cases h0:i=0
  .subst h0;simp
  .rw[if_neg h0,ih (by omega)];simp
theorem pm_nil(zs:List Int)(i:Nat):pm zs [] i=0:=by
 induction zs generalizing i with
 | nil=>rfl
 | cons c r ih=>
  unfold pm;by_cases h0:i=0
  .subst h0;simp
  .rw[if_neg h0,ih];simp
theorem pm_snoc(zs ys:List Int)(c:Int)(t:Nat):pm (zs++[c]) ys t=(pm zs ys t+(if zs.length<=t then c*ys.getD (t-zs.length) 0 else 0))%65537:=by
 induction zs generalizing t with
 | nil=>
  simp only[List.nil_append,List.length_nil,Nat.zero_le,if_true,Nat.sub_zero];show(c*ys.getD t 0+(if t=0 then 0 else pm [] ys (t-1)))%65537=(0+c*ys.getD t 0)%65537;have:(if t=0 then 0 else pm [] ys (t-1))=0:=(by split <;> rfl);rw[this,Int.add_zero,Int.zero_add]
 | cons z r ih=>
  rw[List.cons_append,List.length_cons];show(z*ys.getD t 0+(if t=0 then 0 else pm (r++[c]) ys (t-1)))%65537=_;by_cases h0:t=0
  .subst h0;rw[if_pos rfl,if_neg (by omega)];unfold pm;rw[if_pos rfl];omega
  ·
   rw[if_neg h0,ih]
   have e:pm (z::r) ys t=(z*ys.getD t 0+pm r ys (t-1))%65537:=by
    show(z*ys.getD t 0+(if t=0 then 0 else pm r ys (t-1)))%65537=_;rw[if_neg h0]
   rw[e];by_cases h1:r.length<=t-1
   ·
    rw[if_pos h1,if_pos (by omega),show t-(r.length+1)=t-1-r.length by omega];generalize c*ys.getD (t-1-r.length) 0=u;generalize z*ys.getD t 0=v;omega
   .rw[if_neg h1,if_neg (by omega)];omega
def pmul(zs ys:List Int):List Int:=if zs.length=0\/ys.length=0 then[]else trim (tab (zs.length+ys.length-1) (pm zs ys))
theorem pmul_getD(zs ys:List Int)(i:Nat):(pmul zs ys).getD i 0=pm zs ys i:=by
 unfold pmul;by_cases h:zs.length=0\/ys.length=0
 ·
  rw[if_pos h]
  have:pm zs ys i=0:=by
   rcases h with h | h
   .rw[List.eq_nil_of_length_eq_zero h];rfl
   .rw[List.eq_nil_of_length_eq_zero h];exact pm_nil _ _
  rw[this];rfl
 ·
  rw[if_neg h,getD_trim,tab_getD];by_cases h2:i<zs.length+ys.length-1
  .rw[if_pos h2]
  .rw[if_neg h2,pm_out (by omega)]
theorem neat_pmul(zs ys:List Int):neat (pmul zs ys):=by
 unfold pmul;split
 .exact .inl rfl
 .exact neat_trim _
theorem pmul_len(zs ys:List Int):(pmul zs ys).length<=zs.length+ys.length-1:=by
 unfold pmul;split
 .simp
 .have:=len_trim (tab (zs.length+ys.length-1) (pm zs ys));rw[tab_len]at this;exact this
def pscale(zs:List Int)(c:Int):List Int:=zs.map λa=>a*c%65537
theorem pscale_getD(zs:List Int)(c:Int)(i:Nat):(pscale zs c).getD i 0=zs.getD i 0*c%65537:=by
 unfold pscale;rw[m5,List.getElem?_map,m5];by_cases h:i<zs.length
 .rw[m9 h];rfl
 .rw[List.getElem?_eq_none (by omega)];simp
theorem cons_getD(c:Int)(zs:List Int)(i:Nat):(c::zs).getD i 0=if i=0 then c else zs.getD (i-1) 0:=by
 cases i with
 | zero=>rfl
 | succ i=>simp
theorem all_pscale(zs:List Int)(c:Int):allEl (pscale zs c)=true:=by
 unfold allEl pscale;rw[List.all_eq_true];intro x hx;obtain⟨a,_,rfl⟩:=List.mem_map.1 hx;exact(el_iff _).2 ⟨by omega,by omega⟩
theorem all_cons{c:Int}(hc:0<=c/\c<65537)(h:allEl zs=true):allEl (c::zs)=true:=by
 unfold allEl at *;rw[List.all_cons,h,(el_iff c).2 hc];rfl
end M
namespace M
theorem mm(a x:Int):(a%65537*x)%65537=a*x%65537:=by
  rw[Int.mul_emod,Int.emod_emod_of_dvd _ (Int.dvd_refl _),<-Int.mul_emod]
theorem tab_succ(N:Nat)(f:Nat->Int):tab (N+1) f=f 0::tab N (λi=>f (i+1)):=by
  simp[tab,List.range_succ_eq_map]
theorem ev_ext(x:Int)(h:∀i,zs.getD i 0=ys.getD i 0):ev zs x=ev ys x:=by
  rw[<-ev_trim zs,<-ev_trim ys,trim_ext h]
theorem ev_padd(zs ys:List Int)(x:Int):ev (padd zs ys) x=(ev zs x+ev ys x)%65537:=by
  induction zs generalizing ys with
  | nil=>
    induction ys with
    | nil=>rfl
    | cons b s ih=>
      have e:padd [] (b::s)=(b%65537)::padd [] s:=by
        unfold padd
        simp only[List.length_nil,List.length_cons,Nat.zero_max]
        rw[tab_succ]
        congr 1
        simp[sumAt]
      rw[e,ev_cons,ih,ev_cons]
      show((0+ev s x)%65537*x+b%65537)%65537=(0+(ev s x*x+b)%65537)%65537
      have h:=mm (0+ev s x) x
      rw[Int.zero_add]at h |-
      generalize ev s x%65537*x=p at *
      generalize ev s x*x=q at *
      omega
  | cons a r ih=>
    cases ys with
    | nil=>
      have hc:∀l:List Int,ev (padd l []) x=ev l x%65537:=by
        intro l
        induction l with
        | nil=>rfl
        | cons b s ih2=>
          have e:padd (b::s) []=(b%65537)::padd s []:=by
            unfold padd
            simp only[List.length_nil,List.length_cons,Nat.max_zero]
            rw[tab_succ]
            congr 1
            simp[sumAt]
          rw[e,ev_cons,ih2,ev_cons]
          have h:=mm (ev s x) x
          generalize ev s x%65537*x=p at *
          generalize ev s x*x=q at *
          omega
      rw[hc]
      show _=(ev (a::r) x+0)%65537
      rw[Int.add_zero]
    | cons b s=>
      have e:padd (a::r) (b::s)=((a+b)%65537)::padd r s:=by
        unfold padd
        simp only[List.length_cons]
        rw[show max (r.length+1) (s.length+1)=max r.length s.length+1 by omega,tab_succ]
        congr 1
      rw[e,ev_cons,ih,ev_cons,ev_cons]
      have h:=mm (ev r x+ev s x) x
      rw[Int.add_mul]at h
      generalize(ev r x+ev s x)%65537*x=p at *
      generalize ev r x*x=q at *
      generalize ev s x*x=t at *
      omega
theorem ev_pscale(ys:List Int)(c x:Int):ev (pscale ys c) x=ev ys x*c%65537:=by
  induction ys with
  | nil=>show(0:Int)=0*c%65537;simp
  | cons b s ih=>
    show ev ((b*c%65537)::pscale s c) x=_
    rw[ev_cons,ih,ev_cons,mm,Int.add_mul]
    have h:=mm (ev s x*c) x
    have e:ev s x*c*x=ev s x*x*c:=Int.mul_right_comm _ _ _
    rw[e]at h
    generalize ev s x*c%65537*x=p at *
    generalize ev s x*x*c=q at *
    generalize b*c=t
    omega
theorem ev_pmul(zs ys:List Int)(x:Int):ev (pmul zs ys) x=ev zs x*ev ys x%65537:=by
  induction zs with
  | nil=>
    have:pmul [] ys=[]:=by unfold pmul;rw[if_pos (.inl rfl)]
    rw[this];show(0:Int)=0*ev ys x%65537;simp
  | cons c r ih=>
    have e:ev (pmul (c::r) ys) x=ev (padd (pscale ys c) (0::pmul r ys)) x:=by
      apply ev_ext
      intro i
      rw[pmul_getD,padd_getD,pscale_getD,cons_getD]
      show(c*ys.getD i 0+(if i=0 then 0 else pm r ys (i-1)))%65537=_
      rw[Int.mul_comm c]
      by_cases h0:i=0
      .rw[if_pos h0,if_pos h0];omega
      .rw[if_neg h0,if_neg h0,pmul_getD];omega
    rw[e,ev_padd,ev_pscale,ev_cons,ih,ev_cons,mm,Int.add_mul]
    have h:=mm (ev r x*ev ys x) x
    have e2:ev r x*ev ys x*x=ev r x*x*ev ys x:=Int.mul_right_comm _ _ _
    rw[e2]at h
    rw[Int.mul_comm c]
    generalize ev r x*ev ys x%65537*x=p at *
    generalize ev r x*x*ev ys x=q at *
    generalize ev ys x*c=t
    omega
theorem all_pmul(zs ys:List Int):allEl (pmul zs ys)=true:=by
  unfold pmul
  split
  .rfl
  .exact all_trim (all_tab λi _=>(el_iff _).2 (pm_bd zs ys i))
theorem el_inv{a:Int}(h:el a=true)(h0:a≠0):el (inv a)=true:=by rw[inv_in h h0];exact el_pw _ _
theorem prod_ne{a b:Int}(ha:el a=true)(hb:el b=true)(a0:a≠0)(b0:b≠0):a*b%65537≠0:=by
  intro h
  have h1:mul (inv a) (mul a b)=0:=by
    rw[mul_in ha hb,h,mul_in (el_inv ha a0) (by decide)];simp
  rw[<-mul_assoc' (el_inv ha a0) ha hb,mul_comm' a (inv a),mul_inv ha a0,mul_comm' b 1,mul_one' hb]at h1
  exact b0 h1
theorem pm_lead(zs ys:List Int)(h1:0<zs.length)(h2:0<ys.length):pm zs ys (zs.length+ys.length-2)=zs.getD (zs.length-1) 0*ys.getD (ys.length-1) 0%65537:=by
  induction zs with
  | nil=>simp at h1
  | cons c r ih=>
    cases r with
    | nil=>
      show(c*ys.getD (([c]:List Int).length+ys.length-2) 0+(if([c]:List Int).length+ys.length-2=0 then 0 else pm [] ys (([c]:List Int).length+ys.length-2-1)))%65537=_
      have e:(if([c]:List Int).length+ys.length-2=0 then 0 else pm [] ys (([c]:List Int).length+ys.length-2-1))=0:=by split <;> rfl
      rw[e,Int.add_zero,show([c]:List Int).length+ys.length-2=ys.length-1 by simp;omega]
      rfl
    | cons z t=>
      have hl:(c::z::t).length+ys.length-2=(z::t).length+ys.length-2+1:=by simp only[List.length_cons];omega
      rw[hl]
      show(c*ys.getD ((z::t).length+ys.length-2+1) 0+(if(z::t).length+ys.length-2+1=0 then 0 else pm (z::t) ys ((z::t).length+ys.length-2+1-1)))%65537=_
      rw[getD_out (zs:=ys) (by simp only[List.length_cons];omega),if_neg (by omega),Nat.add_sub_cancel,ih (by simp),Int.mul_zero,Int.zero_add,Int.emod_emod_of_dvd _ (Int.dvd_refl _)]
      have:(c::z::t).getD ((c::z::t).length-1) 0=(z::t).getD ((z::t).length-1) 0:=by
        rw[cons_getD,if_neg (by simp)];rfl
      rw[this]
theorem pmul_full(h1:allEl zs=true)(h2:allEl ys=true)(n1:neat zs)(n2:neat ys)(p1:0<zs.length)(p2:0<ys.length):(pmul zs ys).length=zs.length+ys.length-1:=by
  have Aa:=pmul_len zs ys
  rcases Nat.lt_or_ge (pmul zs ys).length (zs.length+ys.length-1)with h | h
  . exfalso
    have h3:=getD_out (zs:=pmul zs ys) (i:=zs.length+ys.length-2) (by omega)
    rw[pmul_getD,pm_lead zs ys p1 p2]at h3
    have e1 : zs.getD (zs.length - 1) 0 ≠ 0 := by rcases n1 with e | e; · omega
                                                  . exact e
    have e2 : ys.getD (ys.length - 1) 0 ≠ 0 := by rcases n2 with e | e; · omega
                                                  . exact e
    exact prod_ne ((el_iff _).2 (el_at h1 _)) ((el_iff _).2 (el_at h2 _)) e1 e2 h3
  .omega
end M
namespace M
theorem pm_padd(zs ys g:List Int)(i:Nat):pm (padd zs ys) g i=(pm zs g i+pm ys g i)%65537:=by
 induction zs generalizing ys i with
 | nil=>
  induction ys generalizing i with
  | nil=>rfl
  | cons b s ih=>
   have e:padd [] (b::s)=(b%65537)::padd [] s:=by
    unfold padd;simp only[List.length_nil,List.length_cons,Nat.zero_max];rw[tab_succ]
    congr 1
    simp[sumAt]
   rw[e];show(b%65537*g.getD i 0+(if i=0 then 0 else pm (padd [] s) g (i-1)))%65537=(0+(b*g.getD i 0+(if i=0 then 0 else pm s g (i-1)))%65537)%65537;have h:=mm b (g.getD i 0);generalize b%65537*g.getD i 0=p at *;generalize b*g.getD i 0=q at *;by_cases h0:i=0
   .rw[if_pos h0,if_pos h0];omega
   ·
    rw[if_neg h0,if_neg h0,ih];show(p+(0+pm s g (i-1))%65537)%65537=_;omega
 | cons a r ih=>
  cases ys with
  | nil=>
   have hc:∀(l:List Int) (i:Nat),pm (padd l []) g i=pm l g i%65537:=by
    intro l
    induction l with
    | nil=>intro i;rfl
    | cons b s ih2=>
     intro i
     have e:padd (b::s) []=(b%65537)::padd s []:=by
      unfold padd;simp only[List.length_nil,List.length_cons,Nat.max_zero];rw[tab_succ]
      congr 1
      simp[sumAt]
     rw[e];show(b%65537*g.getD i 0+(if i=0 then 0 else pm (padd s []) g (i-1)))%65537=(b*g.getD i 0+(if i=0 then 0 else pm s g (i-1)))%65537%65537;have h:=mm b (g.getD i 0);generalize b%65537*g.getD i 0=p at *;generalize b*g.getD i 0=q at *;by_cases h0:i=0
     .rw[if_pos h0,if_pos h0];omega
     .rw[if_neg h0,if_neg h0,ih2];omega
   rw[hc];show _=(pm (a::r) g i+0)%65537;rw[Int.add_zero]
  | cons b s=>
   have e:padd (a::r) (b::s)=((a+b)%65537)::padd r s:=by
    unfold padd;simp only[List.length_cons];rw[show max (r.length+1) (s.length+1)=max r.length s.length+1 by omega,tab_succ]
    congr 1
   rw[e];show((a+b)%65537*g.getD i 0+(if i=0 then 0 else pm (padd r s) g (i-1)))%65537=((a*g.getD i 0+(if i=0 then 0 else pm r g (i-1)))%65537+(b*g.getD i 0+(if i=0 then 0 else pm s g (i-1)))%65537)%65537;have h:=mm (a+b) (g.getD i 0);rw[Int.add_mul]at h;generalize(a+b)%65537*g.getD i 0=p at *;generalize a*g.getD i 0=q at *;generalize b*g.getD i 0=t at *;by_cases h0:i=0
   .rw[if_pos h0,if_pos h0,if_pos h0];omega
   .rw[if_neg h0,if_neg h0,if_neg h0,ih];omega
theorem pm_pscale(ys g:List Int)(c:Int)(i:Nat):pm (pscale ys c) g i=pm ys g i*c%65537:=by
 induction ys generalizing i with
 | nil=>show(0:Int)=0*c%65537;simp
 | cons b s ih=>
  show(b*c%65537*g.getD i 0+(if i=0 then 0 else pm (pscale s c) g (i-1)))%65537=(b*g.getD i 0+(if i=0 then 0 else pm s g (i-1)))%65537*c%65537;rw[mm,Int.add_mul];have h:=mm (b*c) (g.getD i 0);have e:b*c*g.getD i 0=b*g.getD i 0*c:=Int.mul_right_comm _ _ _;rw[e]at h;generalize b*c%65537*g.getD i 0=p at *;generalize b*g.getD i 0*c=q at *;by_cases h0:i=0
  .rw[if_pos h0,if_pos h0];simp only[Int.zero_mul];omega
  ·
   rw[if_neg h0,if_neg h0,ih];generalize pm s g (i-1)*c=t;omega
theorem pm_snoc0(zs g:List Int)(i:Nat):pm (zs++[0]) g i=pm zs g i:=by
 rw[pm_snoc];have:=pm_bd zs g i;have e:(if zs.length<=i then 0*g.getD (i-zs.length) 0 else 0)=0:=(by split <;> simp);rw[e,Int.add_zero,Int.emod_eq_of_lt this.1 this.2]
theorem pm_tl(zs g:List Int)(i k:Nat)(hk:k<=zs.length):pm (zs.take (tl zs k)) g i=pm (zs.take k) g i:=by
 induction k with
 | zero=>rfl
 | succ k ih=>
  unfold tl;by_cases h:zs.getD k 0=0
  .rw[if_pos h,ih (by omega),<-take_snoc (by omega),h,pm_snoc0]
  .rw[if_neg h]
theorem pm_trim(zs g:List Int)(i:Nat):pm (trim zs) g i=pm zs g i:=by
 unfold trim;rw[pm_tl zs g i _ (m3 _),List.take_length]
structure Div(f g q r:List Int):Prop where
 nq:neat q
 nr:neat r
 aq:allEl q=true
 ar:allEl r=true
 short:r.length<g.length
 eq:∀i,f.getD i 0=(pm q g i+r.getD i 0)%65537
theorem div_unique(ng:neat g)(ag:allEl g=true)(h:Div f g q r)(h':Div f g q' r'):q=q'/\r=r':=by
 have hg:0<g.length:=by have:=h.short;omega
 have hD:trim (padd q (pscale q' 65536))=[]:=by
  rcases Nat.eq_zero_or_pos (trim (padd q (pscale q' 65536))).length with e | e
  .exact List.eq_nil_of_length_eq_zero e
  ·
   exfalso
   have hn:=neat_trim (padd q (pscale q' 65536));have ha:allEl (trim (padd q (pscale q' 65536)))=true:=all_trim (all_padd _ _);have hc:∀i,pm (trim (padd q (pscale q' 65536))) g i=(pm q g i+pm q' g i*65536%65537)%65537:=λi=>by rw[pm_trim,pm_padd,pm_pscale]
   generalize trim (padd q (pscale q' 65536))=D at *;have hl:=pm_lead D g e hg;rw[hc]at hl
   have e1:D.getD (D.length-1) 0≠0:=by
    rcases hn with x | x
    .omega
    .exact x
   have e2:g.getD (g.length-1) 0≠0:=by
    rcases ng with x | x
    .omega
    .exact x
   have Aa:=prod_ne ((el_iff _).2 (el_at ha _)) ((el_iff _).2 (el_at ag _)) e1 e2;rw[<-hl]at Aa;have s1:=h.short;have s2:=h'.short;have f1:=h.eq (D.length+g.length-2);have f2:=h'.eq (D.length+g.length-2);rw[getD_out (zs:=r) (by omega)]at f1;rw[getD_out (zs:=r') (by omega)]at f2;have b1:=pm_bd q g (D.length+g.length-2);have b2:=pm_bd q' g (D.length+g.length-2);apply Aa;omega
 have hq:q=q':=by
  refine neat_ext h.nq h'.nq λi=>?_;have hi:(trim (padd q (pscale q' 65536))).getD i 0=0:=(by rw[hD];rfl);rw[getD_trim,padd_getD,pscale_getD]at hi;have a1:=el_at h.aq i;have a2:=el_at h'.aq i;omega
 refine⟨hq,neat_ext h.nr h'.nr λi=>?_⟩;have f1:=h.eq i;have f2:=h'.eq i;rw[hq]at f1;have a1:=el_at h.ar i;have a2:=el_at h'.ar i;have b2:=pm_bd q' g i;omega
end M
theorem qD(x c:Int)(R dA:Nat)(w:World)(ho:aA 134 w dA a n cap ys)(hb:dA<=w.heap.size)(hn:n<=2000000)(x0:0<=x)(x1:x<65537)(c0:0<=c)(c1:c<65537)(hc:w.cell? ⟨R,0,none⟩=some (it c)):
  Calls prog 120 #[.slice a n cap,it x,tG R] w λe w'=>∃a' cap',e=.returned (.slice a' (n+1) cap')/\aA 134 w' dA a' (n+1) cap' (ys++[x*c%65537])/\w.grownBy w' (Value.slice a n cap).ownBlock:=by
 have HO:=Hd ho;obtain⟨i0,hi,Aa,Ba,Ca⟩:=info_parts cJ;clear ho;go_enter func120,ntmps120;(go_wp2_with fail);refine(bI x c _ x0 x1 c0 c1).mono ?_;rintro e w ⟨rfl,rfl⟩;(go_wp2_with(at_builtin;refine wpList_append_own _ rfl _ _ 79 rfl dA 134 i0 (it 0) 1 8 underlying79 hi Aa Ba Ca rfl (by decide) _ n (ys.map (Value.int .i64)) rfl (xY HO.o _) ⟨w.heap.size,0,none⟩ 1 1 [it (x*c%65537)] rfl rfl (br w _ _) (bL _) (by unfold maxLen;omega) (by omega) (by simp;omega) ?_));intro v' w1 Da Ea _;have hown':w1.ownsRow dA 134 1 v' (n+1) ((ys++[x*c%65537]).map (Value.int .i64)):=(by rw[xU];exact Da);obtain⟨a',cap',rfl,Fa⟩:=aA.form hown';have HO':=Hd Fa;have HG:=Hd ((xC w _ _).trans Ea);clear Da hown' Ea Fa hi Aa Ba Ca;go_wp2;go_ret;exact⟨a',cap',rfl,HO'.o,HG.o⟩
theorem eM(zs:List Int)(c:Int):(M.pscale zs c).length=zs.length:=by simp[M.pscale]
theorem lL{c:Int}(h:k<zs.length):(M.pscale zs c).take k++[zs.getD k 0*c%65537]=(M.pscale zs c).take (k+1):=by
 rw[<-take_snoc (by rw[eM];exact h),M.pscale_getD]
theorem kX(c:Int)(R:Nat)(w0 w:World)(hz:aC w0 a n cc zs)(hall:M.allEl zs=true)(hbl:m1 w0 w)(ho:aA 134 w w0.heap.size b 0 cap [])(hn:n<=1048576)(c0:0<=c)(c1:c<65537)(hR:R<w0.heap.size)(hc:w0.cell? ⟨R,0,none⟩=some (it c)):
  Calls prog 119 #[.slice a n cc,.slice b 0 cap,.func (.func 120) #[] #[tG R]] w λe w'=>∃a' cap',e=.returned (.slice a' n cap')/\aA 134 w' w0.heap.size a' n cap' (M.pscale zs c)/\m1 w0 w':=by
 have HZ:=Hd hz;have HA:=Hd hall;have HB:=Hd hbl;have HO:=Hd ho;have HC:=Hd hc;clear hz hbl ho hc hall;go_enter func119,ntmps119;go_wp2
 go_loopw [1,11] (λs i wr=>∃(k:Nat) (a':Option Addr) (cap':Nat),k<=n/\i=it k/\s=.slice a' k cap'/\aA 134 wr w0.heap.size a' k cap' ((M.pscale zs c).take k)/\m1 w0 wr) (λ_ i _=>n-(intOf i).toNat)
 case atStart=>exact⟨0,b,cap,by omega,rfl,rfl,HO.o,HB.o⟩
 case round=>
  obtain⟨k,a',cap',hk,rfl,rfl,Ca,Da⟩:=hrel;have Ba:=Hd Ca;have Aa:=Hd Da;clear Ca Da HO HB;by_cases Ea:k<n
  ·
   obtain⟨b1,o1,rfl,Fa⟩:=(HZ.o.below Aa.o).at (by omega);have e1:=Fa k Ea;clear Fa;have HS:H7 ((M.pscale zs c).take k++[zs.getD k 0*c%65537]=(M.pscale zs c).take (k+1)):=lL (by rw[HZ.o.len];exact Ea);have Ga:=M.el_at HA.o k;generalize hx:zs.getD k 0=x at e1 Ga;have HX:=Hd hx;obtain⟨x0,x1⟩:=Ga;have hI:(k:Int)<(n:Int):=(by omega);have Ka:H7 (wr.cell? ⟨R,0,none⟩=some (it c)):=(Aa.o.cell (p:=⟨R,0,none⟩) hR).trans HC.o;clear hx;(go_wp2_with fail);refine(qD x c R w0.heap.size _ Ba.o Aa.o.size (by omega) x0 x1 c0 c1 Ka.o).mono ?_;rintro e w1 ⟨a2,Ha,rfl,Ia,Ja⟩;have La:=Hd Ia;have Na:=Hd (Aa.o.grown Ja Aa.o.size Ba.o.row);clear Ia Ja;go_wp2;go_roundw
   case rel=>exact⟨k+1,a2,Ha,by omega,by go_num,rfl,by rw[<-HS.o,HX.o];exact La.o,Na.o⟩
   case measure=>simp[intOf];omega
  ·
   have Oa:k=n:=(by omega);subst Oa;go_wp2;go_ret;refine⟨a',cap',rfl,?_,Aa.o⟩;have h:=Ba.o;rw[xt (by rw[eM,HZ.o.len];exact m3 _)]at h;exact h
theorem lB(c:Int)(w:World)(hz:aC w a n cc zs)(hall:M.allEl zs=true)(hn:n<=1000000)(c0:0<=c)(c1:c<65537):
  Calls prog 70 #[.slice a n cc,it c] w λe w'=>∃a' l cap',e=.returned (.slice a' l cap')/\aA 134 w' w.heap.size a' l cap' (M.trim (M.pscale zs c))/\m1 w w':=by
 have HZ:=Hd hz;have HA:=Hd hall;obtain⟨i0,hi,Da,Ea,Fa⟩:=info_parts cJ;clear hz hall;go_enter func70,ntmps70;(go_wp2_with(at_make;refine wpList_make_own _ rfl _ _ 79 rfl (w.heap.size+1) 134 i0 (it 0) 1 underlying79 hi Da Ea .i64 .i64 _ n rfl rfl rfl (by rw[Fa];omega) (by unfold maxLen;omega) (by simp) ?_));intro w1 Ga hg;have Ba:(w.alloc (.cells #[it c] 134)).heap.size=w.heap.size+1:=by simp
 have HO:H7 (aA 134 w1 (w.alloc (.cells #[it c] 134)).heap.size (some ⟨w.heap.size+1,0,none⟩) 0 n []):=by
  show aA _ _ _ _ _ _ _;rw[Ba];exact Ga
 have Aa:H7 (m1 w (w.alloc (.cells #[it c] 134))):=(m8 _ _).alloc (m3 _) _;have HB:H7 (Below (w.alloc (.cells #[it c] 134)).heap.size (w.alloc (.cells #[it c] 134)) w1):=ba hg;have HR:H7 (w.heap.size<(w.alloc (.cells #[it c] 134)).heap.size):=(by show _<_;rw[Ba];omega);have HC:H7 ((w.alloc (.cells #[it c] 134)).cell? ⟨w.heap.size,0,none⟩=some (it c)):=(by show _=_;rw[xu];rfl);clear Ga hg hi Da Ea Fa Ba;(go_wp2_with fail);refine(kX c w.heap.size _ _ (HZ.o.below Aa.o) HA.o HB.o HO.o (by omega) c0 c1 HR.o HC.o).mono ?_;rintro e w2 ⟨a2,Ja,rfl,ho,hb⟩;have Ka:H7 (aA 134 w2 w.heap.size a2 n Ja (M.pscale zs c)):=ho.mono (by simp);have Ca:=Aa.t hb;clear ho hb HO Aa HB HR HC;(go_wp2_with fail);refine(dl _ Ka.o.sees (by omega)).mono ?_;rintro e w3 ⟨a3,l3,c3,rfl,Ha,Ia⟩;have La:=Hd (Ha.mono Ca.o.size);have Na:=Ca.t Ia;clear Ha Ia;go_wp2;go_ret;exact⟨a3,l3,c3,rfl,La.o,Na.o⟩
theorem im{P:Program}(w:World){ops:Array Oper}{rest:List Oper}{o:Oper}{a:Act}{Q:Exit->Act->World->Prop}(hgd:o.guard=none)(s x:Operand)(t t2:TypeId)
 (ho:o.op=.call {callee:=.builtin .append,args:=#[s,x],argTypes:=#[t,t2]})
 (dA:Nat)(e:TypeId)(i:TypeInfo)(z:Value)(size bytes:Nat)(ht:P.underlying t=some (.slice e))(ht2:P.underlying t2=some (.slice e))(hi:P.info? e=some i)(hz:i.zero=some z)
 (hsize:i.size=size)(hby:i.bytes=bytes)(hzs:z.cells.size=size)(hsz:0<size)
 (b:Option Addr)(n cb:Nat)(xs:List Value)(hs:a.eval s=.slice b n cb)(hown:w.ownsRow dA e size (.slice b n cb) n xs)
 (ao:Option Addr)(m c:Nat)(news:List Value)(hx:a.eval x=.slice ao m c)(hl:news.length=m*size)(hnone:ao=none->m=0/\c=0)
 (hnews:∀ad,ao=some ad->∀j u,news[j]?=some u->w.cell? (ad.add j)=some u)(h1:∀u∈news,u.oneCell'=true)
 (h63:n+m<=maxLen)(hbytes:(n+m)*bytes<=140737488355328)(mr:dA<=w.heap.size)
 (h:∀v' w',w'.ownsRow dA e size v' (n+m) (xs++news)->w.grownBy w' (Value.slice b n cb).ownBlock->wpList P ops Q rest (a.put o.dst v') w'):wpList P ops Q (o::rest) a w:=by
 cases ao with
 | some ad=>
  obtain⟨v',w',Aa,h2,h3,_⟩:=run_append_own (P:=P) w dA t o.type e i z size bytes ht hi hz hsize hby hzs hsz _ n xs hown ad m c news hl (hnews ad rfl) h1 h63 hbytes mr;rw[<-dW (P:=P) w t t2 e o.type i _ _ _ _ _ _ ht ht2 hi]at Aa;refine wpList_plain hgd λK hK'=>?_;unfold Oper.wp;simp[execOp,ho,resolve,invoke,builtin,hs,hx,Aa,Result.andThen];exact hK' _ _ (h v' w' h2 h3)
 | none=>
  obtain⟨rfl,rfl⟩:=hnone rfl;have hn:=List.eq_nil_of_length_eq_zero (by simpa using hl);subst hn;refine wpList_plain hgd λK hK'=>?_;have Aa:=run_append_owned_none (P:=P) w dA t o.type e i size ht hi _ n xs hown;rw[<-dW (P:=P) w t t2 e o.type i _ _ _ _ _ _ ht ht2 hi]at Aa;unfold Oper.wp;simp[execOp,ho,resolve,invoke,builtin,hs,hx,Aa,Result.andThen];exact hK' _ _ (h _ w (by simpa using hown) (World.grownBy.refl _ _))
theorem lC(h:aC w a n c zs):∀ad,a=some ad->∀j u,(zs.map (Value.int .i64))[j]?=some u->w.cell? (ad.add j)=some u:=by
 have:=cB h n (m3 _);rw[xt (by rw[h.len];exact m3 _)]at this;exact this
theorem ij(c:Int)(w:World)(hz:aC w a n cc zs)(hn:n<=1000000):
  Calls prog 67 #[.slice a n cc,it c] w λe w'=>∃a' l cap',e=.returned (.slice a' l cap')/\aA 134 w' w.heap.size a' l cap' (M.trim (c::zs))/\m1 w w':=by
 have HZ:=Hd hz;obtain⟨i0,hi,Ea,Fa,Ga⟩:=info_parts cJ;have HI:H7 (prog.info? 134=some i0/\i0.zero=some (it 0)/\i0.size=1/\i0.bytes=8):=⟨hi,Ea,Fa,Ga⟩;have HL:H7 ((zs.map (Value.int .i64)).length=n*1):=(by show _=_;rw[List.length_map,hz.len,Nat.mul_one]);clear hz hi Ea Fa Ga;go_enter func67,ntmps67;(go_wp2_with(at_make;refine wpList_make_own _ rfl _ _ 79 rfl w.heap.size 134 i0 (it 0) 1 underlying79 HI.o.1 HI.o.2.1 HI.o.2.2.1 .i64 .i64 _ (n+1) rfl rfl (by omega) (by rw[HI.o.2.2.2];omega) (by unfold maxLen;omega) (m3 _) ?_));intro w1 Ha hg;have Ba:H7 (aA 134 w1 w.heap.size (some ⟨w.heap.size,0,none⟩) 0 (n+1) []):=Ha;have Ia:=Hd (ba hg);have Ja:=hg.size;clear Ha hg;(go_wp2_with(at_builtin;refine wpList_append_own _ rfl (.tmp 9) (.tmp 11) 79 rfl w.heap.size 134 i0 (it 0) 1 8 underlying79 HI.o.1 HI.o.2.1 HI.o.2.2.1 HI.o.2.2.2 rfl (by decide) _ 0 (([]:List Int).map (Value.int .i64)) rfl (xY Ba.o _) ⟨w1.heap.size,0,none⟩ 1 1 [it c] rfl rfl (br w1 _ _) (bL _) (by unfold maxLen;omega) (by omega) (by simp;omega) ?_));intro v2 w2 Ka La _;have hown2':w2.ownsRow w.heap.size 134 1 v2 1 (([c]:List Int).map (Value.int .i64)):=(by simpa using Ka);obtain⟨a2,Na,rfl,Oa⟩:=aA.form hown2';have Ca:=Hd Oa;have Aa:=Hd (Ia.o.grown ((xC w1 _ _).trans La) Ja Ba.o.row);clear Ka hown2' La Oa Ba Ia Ja;(go_wp2_with(at_builtin;refine im _ rfl (.tmp 13) (.tmp 14) 79 80 rfl w.heap.size 134 i0 (it 0) 1 8 underlying79 underlying80 HI.o.1 HI.o.2.1 HI.o.2.2.1 HI.o.2.2.2 rfl (by decide) a2 1 Na (([c]:List Int).map (Value.int .i64)) rfl Ca.o a n cc (zs.map (Value.int .i64)) rfl HL.o HZ.o.no (lC (HZ.o.below Aa.o)) (cF _) (by unfold maxLen;omega) (by omega) Aa.o.size ?_));intro v3 w3 Pa Qa;have hown3':w3.ownsRow w.heap.size 134 1 v3 (1+n) ((c::zs).map (Value.int .i64)):=(by simpa using Pa);obtain⟨a3,Ua,rfl,Ra⟩:=aA.form hown3';have Va:=Hd Ra;have Da:=Hd (Aa.o.grown Qa Aa.o.size Ca.o.row);clear Pa hown3' Qa Ra Ca Aa;(go_wp2_with fail);refine(dl _ Va.o.sees (by omega)).mono ?_;rintro e w4 ⟨a4,l4,c4,rfl,Sa,Ta⟩;have Wa:=Hd (Sa.mono Da.o.size);have Xa:=Da.t Ta;clear Sa Ta;go_wp2;go_ret;exact⟨a4,l4,c4,rfl,Wa.o,Xa.o⟩
def dE(zs ys:List Int)(i k t:Nat):Int:=if i<=t/\t<i+k then M.pm (zs.take (i+1)) ys t else M.pm (zs.take i) ys t
theorem mK(ys:List Int)(h:i<zs.length)(t:Nat):M.pm (zs.take (i+1)) ys t=(M.pm (zs.take i) ys t+(if i<=t then zs.getD i 0*ys.getD (t-i) 0 else 0))%65537:=by
 rw[<-take_snoc h,M.pm_snoc,xW,Nat.min_eq_left (Nat.le_of_lt h)]
theorem pE(zs ys:List Int)(N i:Nat):M.tab N (M.pm (zs.take i) ys)=M.tab N (dE zs ys i 0):=
 bv λt _=>by unfold dE;rw[if_neg (by omega)]
theorem tJ(zs ys:List Int)(i k:Nat):dE zs ys i k (i+k)=M.pm (zs.take i) ys (i+k):=by unfold dE;rw[if_neg (by omega)]
theorem rz(h:i<zs.length):(M.tab N (dE zs ys i k)).set (i+k) ((M.pm (zs.take i) ys (i+k)+zs.getD i 0*ys.getD k 0)%65537)=M.tab N (dE zs ys i (k+1)):=by
 rw[d7];apply bv;intro t _;unfold dE;by_cases e:t=i+k
 ·
  subst e;rw[if_pos rfl,if_pos (by omega),mK ys h,if_pos (by omega),Nat.add_sub_cancel_left]
 ·
  rw[if_neg e];by_cases h2:i<=t/\t<i+k
  .rw[if_pos h2,if_pos (by omega)]
  .rw[if_neg h2,if_neg (by omega)]
theorem tI(h:i<zs.length):M.tab N (dE zs ys i ys.length)=M.tab N (M.pm (zs.take (i+1)) ys):=by
 apply bv;intro t _;unfold dE;by_cases h2:i<=t/\t<i+ys.length
 .rw[if_pos h2]
 ·
  rw[if_neg h2,mK ys h];have hb:=M.pm_bd (zs.take i) ys t;by_cases h3:i<=t
  .rw[if_pos h3,M.getD_out (zs:=ys) (by omega),Int.mul_zero,Int.add_zero,Int.emod_eq_of_lt hb.1 hb.2]
  .rw[if_neg h3,Int.add_zero,Int.emod_eq_of_lt hb.1 hb.2]
theorem tZ(w:World)(hz:aC w a n c zs)(hy:aC w b m d ys)(ha:M.allEl zs=true)(hb:M.allEl ys=true)(hn:n<=20000)(hm:m<=20000)(h0:0<n)(h1:0<m):
  Calls prog 140 #[.slice a n c,.slice b m d] w λe w'=>∃a' l c',e=.returned (.slice a' l c')/\aA 2 w' w.heap.size a' l c' (M.pmul zs ys)/\m1 w w':=by
 obtain⟨b1,o1,rfl,Ea⟩:=hz.at h0;obtain⟨b2,o2,rfl,Fa⟩:=hy.at h1;have l1:b1<w.heap.size:=xJ w _ (Ea 0 h0);have l2:b2<w.heap.size:=xJ w _ (Fa 0 h1);have Gb:=Hd Ea;have Hb:=Hd Fa;have Ga:=Hd hz.len;have Ib:=Hd hy.len;have HA:=Hd ha;have HB:=Hd hb
 have HE:H7 (M.pmul zs ys=M.trim (M.tab (n+m-1) (M.pm zs ys))):=by
  show _=_;unfold M.pmul;rw[hz.len,hy.len,if_neg (by omega)]
 obtain⟨i0,hi,La,Na,Oa⟩:=info_parts bF;obtain⟨N,hN⟩:∃N,N=n+m-1:=⟨_,rfl⟩;have HN:=Hd hN;have Pa:n+m=N+1:=(by omega);have bz:((n:Int)==0)=false:=(by simp;omega);have bm:((m:Int)==0)=false:=(by simp;omega);clear hz hy ha hb Ea Fa hN;have Aa:=Hd Pa;clear Pa;go_enter func140,ntmps140;(go_wp2_with(at_make;refine wpList_make_full _ rfl _ _ 24 rfl w.heap.size 2 i0 (it 0) 1 underlying24 hi La Na .i64 .i64 _ _ N rfl rfl (by have:=Aa.o;omega) (by have:=Aa.o;omega) (by rw[Oa];have:=Aa.o;omega) (by unfold maxLen;have:=Aa.o;omega) (m3 _) ?_));intro w1 Ha hg
 have Qa:H7 (aA 2 w1 w.heap.size (some ⟨w.heap.size,0,none⟩) N N (M.tab N (M.pm (zs.take 0) ys))):=by
  show w1.ownsRow _ _ _ _ _ _;rw[dP]at Ha
  have e:M.tab N (M.pm (zs.take 0) ys)=List.replicate N 0:=by
   apply List.ext_getElem (by simp[M.tab]);intro i h1 h2;simp[M.tab,M.pm]
  rw[e];exact Ha
 have Ra:=Hd (ba hg);clear Ha hg hi La Na Oa;go_wp2
 go_loopw [6] (λi wr=>∃k:Nat,k<=n/\i=it k/\aA 2 wr w.heap.size (some ⟨w.heap.size,0,none⟩) N N (M.tab N (M.pm (zs.take k) ys))/\m1 w wr) (λi _=>n-(intOf i).toNat)
 case atStart=>exact⟨0,by omega,rfl,Qa.o,Ra.o⟩
 case round=>
  obtain⟨i,hi,rfl,Sa,Ta⟩:=hrel;have Ua:=Hd Sa;have Ba:=Hd Ta;clear Sa Ta Qa Ra;by_cases Ia:i<n
  ·
   have HS:H7 (aA 2 wr w.heap.size (some ⟨w.heap.size,0,none⟩) N N (M.tab N (dE zs ys i 0))):=(by show aA _ _ _ _ _ _ _;rw[<-pE];exact Ua.o);have hI:(i:Int)<(n:Int):=(by omega);go_wp2
   go_loopw [7] (λq wv=>∃k:Nat,k<=m/\q=it k/\aA 2 wv w.heap.size (some ⟨w.heap.size,0,none⟩) N N (M.tab N (dE zs ys i k))/\m1 w wv) (λq _=>m-(intOf q).toNat)
   case atStart=>exact⟨0,by omega,rfl,HS.o,Ba.o⟩
   case round=>
    obtain⟨k,hk,rfl,Va,Wa⟩:=hrel;have Ja:=Hd Va;have Ca:=Hd Wa;clear Va Wa;by_cases Jb:k<m
    ·
     have Xa:i+k<N:=(by have:=Aa.o;omega);have e1:wr.cell? ⟨b1,o1+i,none⟩=some (it (zs.getD i 0)):=(Ca.o.cell (p:=⟨b1,o1+i,none⟩) l1).trans (Gb.o i Ia);have e2:wr.cell? ⟨b2,o2+k,none⟩=some (it (ys.getD k 0)):=(Ca.o.cell (p:=⟨b2,o2+k,none⟩) l2).trans (Hb.o k Jb);obtain⟨g,Ka,_,_,Ya,Za⟩:=Ja.o.block (by omega);simp only[Option.some.injEq,Addr.mk.injEq,and_true]at Ka;have e3:=Ya (i+k) Xa;have f3:=Za (i+k);rw[<-Ka]at e3 f3;rw[M.tab_get _ _ _ Xa,tJ]at e3;have Da:H7 ((M.tab N (dE zs ys i k)).set (i+k) ((M.pm (zs.take i) ys (i+k)+zs.getD i 0*ys.getD k 0)%65537)=M.tab N (dE zs ys i (k+1))):=rz (by rw[Ga.o];exact Ia);have Ab:=M.el_at HA.o i;have Bb:=M.el_at HB.o k;have Cb:=M.pm_bd (zs.take i) ys (i+k);generalize zs.getD i 0=x at e1 Ab Da;generalize ys.getD k 0=y at e2 Bb Da;generalize M.pm (zs.take i) ys (i+k)=v at e3 Cb Da;obtain⟨x0,x1⟩:=Ab;obtain⟨y0,y1⟩:=Bb;obtain⟨v0,v1⟩:=Cb;obtain⟨m0,I⟩:=M.mul_bd x0 x1 y0 y1;have hJ:(k:Int)<(m:Int):=(by omega);have hK:(i:Int)+(k:Int)<(N:Int):=(by omega);have Ob:(0:Int)<=(i:Int)+(k:Int):=(by omega);have Pb:b1≠w.heap.size:=(by omega);have Qb:b2≠w.heap.size:=(by omega);clear Ka Ya Za;go_wp2
     go_region
     go_wp2;go_roundw
     case rel=>
      refine⟨k+1,by omega,by go_num,?_,(Ca.o.setCell (m3 _) _).drew⟩;rw[<-Da.o];exact World.ownsRow.drew (Ja.o.set (i+k) _)
     case measure=>simp[intOf];omega
    ·
     have hkm':k=m:=by omega
     have HF:H7 (aA 2 wr w.heap.size (some ⟨w.heap.size,0,none⟩) N N (M.tab N (M.pm (zs.take (i+1)) ys))):=by
      show aA _ _ _ _ _ _ _;have h:=Ja.o;rw[hkm',<-Ib.o,tI (by rw[Ga.o];exact Ia)]at h;exact h
     clear hkm';go_wp2;go_roundw
     case rel=>exact⟨i+1,by omega,by go_num,HF.o,Ca.o⟩
     case measure=>simp[intOf];omega
  ·
   have Db:i=n:=by omega
   have HF:H7 (aA 2 wr w.heap.size (some ⟨w.heap.size,0,none⟩) N N (M.tab N (M.pm zs ys))):=by
    show aA _ _ _ _ _ _ _;have h:=Ua.o;rw[xt (by rw[Ga.o,Db];exact m3 _)]at h;exact h
   have Kb:N<=1048576:=(by have:=Aa.o;omega);clear Db;(go_wp2_with fail);refine(cr _ HF.o.sees Kb).mono ?_;rintro e w4 ⟨a4,l4,c4,rfl,Eb,Fb⟩
   have Lb:H7 (aA 2 w4 w.heap.size a4 l4 c4 (M.pmul zs ys)):=by
    show aA _ _ _ _ _ _ _;rw[HE.o,<-HN.o];exact Eb.mono Ba.o.size
   have Nb:=Ba.t Fb;clear Eb Fb;go_wp2;go_ret;exact⟨a4,l4,c4,rfl,Lb.o,Nb.o⟩
theorem fW(w:World)(hz:aC w a n c zs)(hy:aC w b m d ys)(ha:M.allEl zs=true)(hb:M.allEl ys=true)(hn:n<=20000)(hm:m<=20000):
  Calls prog 140 #[.slice a n c,.slice b m d] w λe w'=>∃a' l c',e=.returned (.slice a' l c')/\aA 2 w' w.heap.size a' l c' (M.pmul zs ys)/\m1 w w':=by
 by_cases h0:n=0
 ·
  have E:H7 (M.pmul zs ys=[]):=(by show _=_;unfold M.pmul;rw[if_pos (.inl (hz.len.trans h0))]);have bz:((n:Int)==0)=true:=(by simp[h0]);clear hz hy ha hb h0;go_enter func140,ntmps140;go_wp2;go_ret;refine⟨_,0,_,rfl,?_,(m8 _ _).alloc (m3 _) _⟩;rw[E.o];exact World.ownsRow_made w #[] 0 (m3 _) (by unfold maxLen;omega) rfl
 ·
  by_cases h1:m=0
  ·
   have E:H7 (M.pmul zs ys=[]):=(by show _=_;unfold M.pmul;rw[if_pos (.inr (hy.len.trans h1))]);have bz:((n:Int)==0)=false:=(by simp[h0]);have bm:((m:Int)==0)=true:=(by simp[h1]);clear hz hy ha hb h0 h1;go_enter func140,ntmps140;go_wp2;go_ret;refine⟨_,0,_,rfl,?_,(m8 _ _).alloc (m3 _) _⟩;rw[E.o];exact World.ownsRow_made w #[] 0 (m3 _) (by unfold maxLen;omega) rfl
  .exact tZ w hz hy ha hb hn hm (by omega) (by omega)
namespace M
theorem pm_set(g:List Int)(q:Int)(hk:k<O.length)(h0:O.getD k 0=0)(t:Nat):pm (O.set k q) g t=(pm O g t+(if k<=t then q*g.getD (t-k) 0 else 0))%65537:=by
 induction O generalizing k t with
 | nil=>simp at hk
 | cons c r ih=>
  cases k with
  | zero=>
   have hc:c=0:=h0;subst hc;rw[List.set_cons_zero,if_pos (Nat.zero_le _),Nat.sub_zero];show(q*g.getD t 0+(if t=0 then 0 else pm r g (t-1)))%65537=((0*g.getD t 0+(if t=0 then 0 else pm r g (t-1)))%65537+q*g.getD t 0)%65537;generalize q*g.getD t 0=p;generalize(if t=0 then 0 else pm r g (t-1))=s;rw[Int.zero_mul];omega
  | succ k=>
   rw[List.set_cons_succ];have h1:r.getD k 0=0:=(by rw[cons_getD,if_neg (by omega)]at h0;simpa using h0);show(c*g.getD t 0+(if t=0 then 0 else pm (r.set k q) g (t-1)))%65537=((c*g.getD t 0+(if t=0 then 0 else pm r g (t-1)))%65537+_)%65537;generalize c*g.getD t 0=p;by_cases ht:t=0
   .rw[if_pos ht,if_pos ht,if_neg (by omega)];omega
   ·
    rw[if_neg ht,if_neg ht,ih (by simpa using hk) h1];by_cases h2:k+1<=t
    ·
     rw[if_pos (by omega),if_pos h2,show t-(k+1)=t-1-k by omega];generalize q*g.getD (t-1-k) 0=u;omega
    .rw[if_neg (by omega),if_neg h2];omega
structure DInv(f g R O:List Int)(k:Nat):Prop where
 lr:R.length=f.length
 lo:O.length=f.length-g.length+1
 ar:allEl R=true
 ao:allEl O=true
 eq:∀t,f.getD t 0=(pm O g t+R.getD t 0)%65537
 zero:∀t,k+g.length-1<=t->R.getD t 0=0
 oz:∀j,j<k->O.getD j 0=0
def restAt(R g:List Int)(q:Int)(i j t:Nat):Int:=if i<=t/\t<i+j then(R.getD t 0+(65537-q)*g.getD (t-i) 0)%65537 else R.getD t 0
theorem pm_zeros(n:Nat)(g:List Int)(t:Nat):pm (List.replicate n 0) g t=0:=by
 induction n generalizing t with
 | zero=>rfl
 | succ n ih=>
  rw[List.replicate_succ];show(0*g.getD t 0+(if t=0 then 0 else pm (List.replicate n 0) g (t-1)))%65537=0;by_cases h:t=0
  .rw[if_pos h];simp
  .rw[if_neg h,ih];simp
theorem replicate_getD(n i:Nat):(List.replicate n (0:Int)).getD i 0=0:=by
 rw[m5,List.getElem?_replicate];split <;> rfl
theorem dinv_start(af:allEl f=true):DInv f g f (List.replicate (f.length-g.length+1) 0) (f.length-g.length+1):=by
 refine⟨rfl,by simp,af,?_,λt=>?_,λt ht=>getD_out (by omega),λj _=>replicate_getD _ _⟩
 .unfold allEl;rw[List.all_eq_true];intro x hx;rw[List.eq_of_mem_replicate hx];decide
 ·
  rw[pm_zeros,Int.zero_add];have:=el_at af t;rw[Int.emod_eq_of_lt this.1 this.2]
theorem lead_cancel{a b:Int}(ha:0<=a/\a<65537)(hb:0<=b/\b<65537)(b0:b≠0):a*inv b%65537*b%65537=a:=by
 have ea:=(el_iff a).2 ha;have eb:=(el_iff b).2 hb
 have h:mul (mul a (inv b)) b=a:=by
  rw[mul_assoc' ea (el_inv eb b0) eb,mul_comm' b (inv b),mul_inv eb b0,mul_one' ea]
 rw[mul_in (el_mul ea (el_inv eb b0)) eb,mul_in ea (el_inv eb b0)]at h;exact h
theorem dinv_step(ag:allEl g=true)(g0:0<g.length)(gl:g.getD (g.length-1) 0≠0)(h:DInv f g R O (k+1))(hk:k+g.length<=f.length)(q:Int)(hq:q=R.getD (k+g.length-1) 0*inv (g.getD (g.length-1) 0)%65537):
  DInv f g (tab f.length (restAt R g q k g.length)) (O.set k q) k:=by
 have Aa:∀t,(tab f.length (restAt R g q k g.length)).getD t 0=restAt R g q k g.length t:=λt=>by
  rw[tab_getD];by_cases ht:t<f.length
  .rw[if_pos ht]
  .rw[if_neg ht];unfold restAt;rw[if_neg (by omega)];exact(getD_out (by rw[h.lr];omega)).symm
 have Ba:0<=q/\q<65537:=(by rw[hq];omega);have Ca:k<O.length:=(by rw[h.lo];omega);refine⟨tab_len _ _,by rw[List.length_set];exact h.lo,?_,?_,λt=>?_,λt ht=>?_,λj hj=>?_⟩
 ·
  apply all_tab;intro t _;unfold restAt
  split
  .exact el_mod _
  .exact(el_iff _).2 (el_at h.ar t)
 ·
  unfold allEl;rw[List.all_eq_true];intro x hx
  rcases List.mem_or_eq_of_mem_set hx with hx | hx
  .exact List.all_eq_true.1 h.ao x hx
  .rw[hx];exact(el_iff _).2 Ba
 ·
  rw[Aa,pm_set g q Ca (h.oz k (by omega)),h.eq t];unfold restAt;by_cases h1:k<=t
  ·
   rw[if_pos h1];by_cases h2:t<k+g.length
   ·
    rw[if_pos ⟨h1,h2⟩,Int.sub_mul];generalize q*g.getD (t-k) 0=u;generalize pm O g t=v;generalize g.getD (t-k) 0=y;generalize R.getD t 0=x;omega
   .rw[if_neg (by omega),getD_out (zs:=g) (by omega),Int.mul_zero];omega
  .rw[if_neg h1,if_neg (by omega)];omega
 ·
  rw[Aa];unfold restAt;by_cases h2:t<k+g.length
  ·
   rw[if_pos ⟨by omega,h2⟩];have et:t=k+g.length-1:=(by omega);rw[show t-k=g.length-1 by omega,Int.sub_mul];have hc:=lead_cancel (el_at h.ar (k+g.length-1)) (el_at ag (g.length-1)) gl;rw[<-hq,<-et]at hc;have hb:=el_at h.ar t;generalize q*g.getD (g.length-1) 0=u at *;generalize g.getD (g.length-1) 0=y;generalize R.getD t 0=x at *;omega
  .rw[if_neg (by omega)];exact h.zero t (by omega)
 .rw[m5,List.getElem?_set,if_neg (by omega),<-m5];exact h.oz j (by omega)
theorem neat_short{L:List Int}(hn:neat L)(h:∀t,m<=t->L.getD t 0=0):L.length<=m:=by
 rcases hn with e | e
 .omega
 ·
  rcases Nat.lt_or_ge m L.length with h1 | h1
  .exfalso;exact e (h _ (by omega))
  .exact h1
theorem dinv_end(g0:0<g.length)(h:DInv f g R O 0):Div f g (trim O) (trim R):=by
 refine⟨neat_trim _,neat_trim _,all_trim h.ao,all_trim h.ar,?_,λi=>by rw[pm_trim,getD_trim];exact h.eq i⟩;have:=neat_short (m:=g.length-1) (neat_trim R) (λt ht=>by rw[getD_trim];exact h.zero t (by omega));omega
theorem div_short(nf:neat f)(af:allEl f=true)(hl:f.length<g.length):Div f g [] f:=
 ⟨.inl rfl,nf,rfl,af,hl,λi=>by
  have:=el_at af i;show _=(0+_)%65537;rw[Int.zero_add,Int.emod_eq_of_lt this.1 this.2]⟩
theorem horner_short{c:Int}(hc:0<=c/\c<65537)(h:Div f g q r)(hs:(trim (c::r)).length<g.length):Div (c::f) g (trim (0::q)) (trim (c::r)):=by
 refine⟨neat_trim _,neat_trim _,all_trim (all_cons (by omega) h.aq),all_trim (all_cons hc h.ar),hs,λi=>?_⟩;rw[pm_trim,getD_trim,cons_getD,cons_getD];show _=((0*g.getD i 0+(if i=0 then 0 else pm q g (i-1)))%65537+_)%65537;rw[Int.zero_mul];by_cases h0:i=0
 .rw[if_pos h0,if_pos h0,if_pos h0];omega
 ·
  rw[if_neg h0,if_neg h0,if_neg h0,h.eq];have:=pm_bd q g (i-1);omega
theorem horner_full{c:Int}(ag:allEl g=true)(ng:neat g)(hc:0<=c/\c<65537)(h:Div f g q r)(hs:(trim (c::r)).length=g.length)(u:Int)
 (hu:u=(trim (c::r)).getD ((trim (c::r)).length-1) 0*inv (g.getD (g.length-1) 0)%65537):
  Div (c::f) g (trim (u::q)) (trim (padd (trim (c::r)) (trim (pscale (trim (pscale g u)) 65536)))):=by
 have g0:0<g.length:=by have:=h.short;omega
 have gl:g.getD (g.length-1) 0≠0:=by
  rcases ng with e | e
  .omega
  .exact e
 have Ba:0<=u/\u<65537:=(by rw[hu];omega);have ac:=all_trim (all_cons hc h.ar)
 have Aa:∀t,(trim (padd (trim (c::r)) (trim (pscale (trim (pscale g u)) 65536)))).getD t 0=((trim (c::r)).getD t 0+g.getD t 0*u%65537*65536%65537)%65537:=λt=>by
  rw[getD_trim,padd_getD,getD_trim (pscale _ _),pscale_getD,getD_trim (pscale g u),pscale_getD]
 have hz:∀t,g.length-1<=t->(trim (padd (trim (c::r)) (trim (pscale (trim (pscale g u)) 65536)))).getD t 0=0:=λt ht=>by
  rw[Aa];by_cases et:t=g.length-1
  ·
   have Ca:=lead_cancel (el_at ac ((trim (c::r)).length-1)) (el_at ag (g.length-1)) gl;rw[<-hu,hs,<-et,Int.mul_comm]at Ca;have hb:=el_at ac t;generalize g.getD t 0*u=v at *;generalize(trim (c::r)).getD t 0=x at *;omega
  .rw[getD_out (zs:=trim (c::r)) (by omega),getD_out (zs:=g) (by omega)];simp
 refine⟨neat_trim _,neat_trim _,all_trim (all_cons Ba h.aq),all_trim (all_padd _ _),?_,λi=>?_⟩
 .have:=neat_short (m:=g.length-1) (neat_trim _) hz;omega
 ·
  rw[pm_trim,Aa,getD_trim,cons_getD,cons_getD];show _=((u*g.getD i 0+(if i=0 then 0 else pm q g (i-1)))%65537+_)%65537;rw[Int.mul_comm u];generalize g.getD i 0*u=v;by_cases h0:i=0
  .rw[if_pos h0,if_pos h0,if_pos h0];omega
  ·
   rw[if_neg h0,if_neg h0,if_neg h0,h.eq];have:=pm_bd q g (i-1);omega
def divOk(zs ys:List Int):Bool:=both zs ys&&decide (ys.length≠0)
def DivRes(zs ys q r:List Int):Prop:=(divOk zs ys=true/\Div zs ys q r)\/(divOk zs ys=false/\q=[]/\r=[])
theorem divRes_unique(h:DivRes zs ys q r)(h':DivRes zs ys q' r'):q=q'/\r=r':=by
 rcases h with⟨e,h⟩ | ⟨e,rfl,rfl⟩
 ·
  rcases h' with⟨_,h'⟩ | ⟨e',_⟩
  ·
   have hb:both zs ys=true:=(by unfold divOk at e;simp only[xP]at e;exact e.1);have h2:=(both_parts hb).2;exact div_unique (neat_polyOk h2) (polyOk_parts h2).2 h h'
  .rw[e]at e';cases e'
 ·
  rcases h' with⟨e',_⟩ | ⟨_,rfl,rfl⟩
  .rw[e]at e';cases e'
  .exact⟨rfl,rfl⟩
end M
theorem iy(x:Int)(n:Nat)(w:World)(x0:0<=x)(x1:x<65537)(hn:(n:Int)<=9223372036854775807):
  Rq 115 #[it x,it n] w (it (M.pw x n)):=by
 have HS:=Hd (M.pinv_start x n);go_enter func115,ntmps115;go_wp2
 go_loop [0,1,5] (λa m out=>∃(av ov:Int) (k:Nat),0<=av/\av<65537/\0<=ov/\ov<65537/\(k:Int)<=9223372036854775807/\a=it av/\m=it k/\out=it ov/\M.PInv x n ov av k) (λ_ m _=>(intOf m).toNat)
 case atStart=>exact⟨x,1,n,x0,x1,by omega,by omega,hn,rfl,rfl,rfl,HS.o⟩
 case round=>
  obtain⟨av,ov,k,a0,a1,o0,o1,hk,rfl,rfl,rfl,Aa⟩:=hrel;have HI:=Hd Aa;clear Aa HS hn;by_cases hp:0<k
  ·
   by_cases ho:k%2=1
   ·
    have hb:((k:Int)%2==1)=true:=(by simp;omega);have HO:=Hd ho;clear ho;obtain⟨m0,I⟩:=M.mul_bd o0 o1 a0 a1;obtain⟨s0,s1⟩:=M.mul_bd a0 a1 a0 a1;(go_wp2_with fail);refine(bI ov av _ o0 o1 a0 a1).mono ?_;rintro e w' ⟨rfl,rfl⟩;(go_wp2_with fail);refine(bI av av _ a0 a1 a0 a1).mono ?_;rintro e w' ⟨rfl,rfl⟩;go_wp2
    go_round
    case rel=>exact⟨_,_,k/2,Int.emod_nonneg _ (by decide),Int.emod_lt_of_pos _ (by decide),Int.emod_nonneg _ (by decide),Int.emod_lt_of_pos _ (by decide),by omega,rfl,by go_num,rfl,M.pinv_odd HI.o HO.o⟩
    case measure=>simp[intOf];omega
   ·
    have hb:((k:Int)%2==1)=false:=(by simp;omega);have HO:H7 (k%2=0):=(by show k%2=0;omega);clear ho;obtain⟨s0,s1⟩:=M.mul_bd a0 a1 a0 a1;(go_wp2_with fail);refine(bI av av _ a0 a1 a0 a1).mono ?_;rintro e w' ⟨rfl,rfl⟩;go_wp2
    go_round
    case rel=>exact⟨_,_,k/2,Int.emod_nonneg _ (by decide),Int.emod_lt_of_pos _ (by decide),o0,o1,by omega,rfl,by go_num,rfl,M.pinv_even HI.o HO.o⟩
    case measure=>simp[intOf];omega
  ·
   have hz:k=0:=(by omega);subst hz;go_wp2;go_ret;exact⟨bR (M.pinv_end HI.o o0 o1),rfl⟩
theorem dO(x:Int)(n:Nat)(w:World)(x0:0<=x)(x1:x<65537)(hn:(n:Int)<=9223372036854775807):
  Rq 105 #[it x,it n] w (it (M.pw x n)):=by
 have HS:=Hd (M.pinv_start x n);have Ba:=(M.el_iff x).2 ⟨x0,x1⟩;go_enter func105,ntmps105;(go_wp2_with fail);refine(bM x _).mono ?_;rintro e w' ⟨rfl,rfl⟩;go_wp2
 go_loop [0,1,5] (λa m out=>∃(av ov:Int) (k:Nat),0<=av/\av<65537/\0<=ov/\ov<65537/\(k:Int)<=9223372036854775807/\a=it av/\m=it k/\out=it ov/\M.PInv x n ov av k) (λ_ m _=>(intOf m).toNat)
 case atStart=>exact⟨x,1,n,x0,x1,by omega,by omega,hn,rfl,rfl,rfl,HS.o⟩
 case round=>
  obtain⟨av,ov,k,a0,a1,o0,o1,hk,rfl,rfl,rfl,Aa⟩:=hrel;have HI:=Hd Aa;clear Aa HS hn;by_cases hp:0<k
  ·
   by_cases ho:k%2=1
   ·
    have hb:((k:Int)%2==1)=true:=(by simp;omega);have HO:=Hd ho;clear ho;obtain⟨m0,I⟩:=M.mul_bd o0 o1 a0 a1;obtain⟨s0,s1⟩:=M.mul_bd a0 a1 a0 a1;go_wp2
    go_round
    case rel=>exact⟨_,_,k/2,Int.emod_nonneg _ (by decide),Int.emod_lt_of_pos _ (by decide),Int.emod_nonneg _ (by decide),Int.emod_lt_of_pos _ (by decide),by omega,rfl,by go_num,rfl,M.pinv_odd HI.o HO.o⟩
    case measure=>simp[intOf];omega
   ·
    have hb:((k:Int)%2==1)=false:=(by simp;omega);have HO:H7 (k%2=0):=(by show k%2=0;omega);clear ho;obtain⟨s0,s1⟩:=M.mul_bd a0 a1 a0 a1;go_wp2
    go_round
    case rel=>exact⟨_,_,k/2,Int.emod_nonneg _ (by decide),Int.emod_lt_of_pos _ (by decide),o0,o1,by omega,rfl,by go_num,rfl,M.pinv_even HI.o HO.o⟩
    case measure=>simp[intOf];omega
  ·
   have hz:k=0:=(by omega);subst hz;go_wp2;go_ret;exact⟨bR (M.pinv_end HI.o o0 o1),rfl⟩
theorem fA(a:Int)(w:World)(a0:0<=a)(a1:a<65537):
  Rq 64 #[it a] w (it (M.pw a 65535)):=by
 go_enter func64,ntmps64;(go_wp2_with fail);refine(iy a 65535 _ a0 a1 (by omega)).mono ?_;rintro e w' ⟨rfl,rfl⟩;go_wp2;go_ret;exact⟨rfl,rfl⟩
theorem eD(a:Int)(w:World):
  Rq 136 #[it a] w (it (M.inv a)):=by
 cases ha:M.el a with
 | true=>
  obtain⟨a0,a1⟩:=(M.el_iff a).1 ha;by_cases h0:a=0
  ·
   subst h0;have E:=Hd M.inv_0;go_enter func136,ntmps136;(go_wp2_with fail);refine(bM 0 _).mono ?_;rintro e w' ⟨rfl,rfl⟩;go_wp2;go_ret;exact⟨bR E.o.symm,rfl⟩
  ·
   have E:=Hd (M.inv_in ha h0);have hb:(a==0)=false:=(by simp[h0]);clear h0;go_enter func136,ntmps136;(go_wp2_with fail);refine(bM a _).mono ?_;rintro e w' ⟨rfl,rfl⟩;(go_wp2_with fail);refine(dO a 65535 _ a0 a1 (by omega)).mono ?_;rintro e w' ⟨rfl,rfl⟩;go_wp2;go_ret;exact⟨bR E.o.symm,rfl⟩
 | false=>
  have E:=Hd (M.inv_l ha);go_enter func136,ntmps136;(go_wp2_with fail);refine(bM a _).mono ?_;rintro e w' ⟨rfl,rfl⟩;go_wp2;go_ret;exact⟨bR E.o.symm,rfl⟩
theorem mS(n:Int)(w:World):
  Rq 104 #[it n,it 65536] w (.bool (M.two n)):=by
 have HS:=Hd (M.tinv_start n);go_enter func104,ntmps104;go_wp2
 go_loop [5] (λk=>∃p:Int,1<=p/\p<=131072/\k=it p/\M.TwoInv n p) (λk=>(131073-intOf k).toNat)
 case atStart=>exact⟨1,by omega,by omega,rfl,HS.o⟩
 case round=>
  obtain⟨p,p0,p1,rfl,Aa⟩:=hrel;have HI:=Hd Aa;clear Aa HS;by_cases hp:p<=65536
  ·
   by_cases he:p=n
   ·
    have E:=Hd (M.tinv_hit HI.o hp he);have hb:(p==n)=true:=(by simp[he]);clear he HI;go_wp2;go_ret;exact⟨aB E.o.symm,rfl⟩
   ·
    have E:=Hd (M.tinv_step HI.o hp he);have hb:(p==n)=false:=(by simp[he]);clear he HI;go_wp2
    go_round
    case rel=>exact⟨2*p,by omega,by omega,rfl,E.o⟩
    case measure=>simp[intOf];omega
  ·
   have E:=Hd (M.tinv_end HI.o (by omega));clear HI;go_wp2;go_ret;exact⟨aB E.o.symm,rfl⟩
theorem uJ{n:Int}(h:1<=n):0<=65536/n/\65536/n<=65536:=by
 refine⟨Int.ediv_nonneg (by omega) (by omega),?_⟩;exact Int.ediv_le_self n (by omega)
theorem eO(n:Int)(w:World):
  Rq 106 #[it n] w (it (M.root n)):=by
 cases ht:M.two n with
 | true=>
  have E:=Hd (M.root_in ht);obtain⟨n0,n1⟩:=M.two_bd ht;obtain⟨d0,d1⟩:=uJ n0;obtain⟨m,hm⟩:=Int.eq_ofNat_of_zero_le d0;have HM:=Hd hm;clear hm;go_enter func106,ntmps106;(go_wp2_with fail);refine(mS n _).mono ?_;rintro e w' ⟨rfl,rfl⟩;(go_wp2_with fail);rw[HM.o];refine(dO 3 m _ (by omega) (by omega) (by have:=HM.o;omega)).mono ?_;rintro e w' ⟨rfl,rfl⟩;go_wp2;go_ret;exact⟨bR (by rw[E.o,HM.o,xX]),rfl⟩
 | false=>
  have E:=Hd (M.root_out ht);go_enter func106,ntmps106;(go_wp2_with fail);refine(mS n _).mono ?_;rintro e w' ⟨rfl,rfl⟩;go_wp2;go_ret;exact⟨bR E.o.symm,rfl⟩
theorem nV(n:Int)(w:World):
  Rq 169 #[it n] w (it (M.root n)):=by
 by_cases n0:1<=n
 ·
  cases ht:M.two n with
  | true=>
   have E:=Hd (M.root_in ht);have hb:(65536%n != 0)=false:=(by simp[(M.two_div n0).1 ht]);obtain⟨d0,d1⟩:=uJ n0;obtain⟨m,hm⟩:=Int.eq_ofNat_of_zero_le d0;have HM:=Hd hm;clear hm ht;go_enter func169,ntmps169;(go_wp2_with fail);rw[HM.o];refine(iy 3 m _ (by omega) (by omega) (by have:=HM.o;omega)).mono ?_;rintro e w' ⟨rfl,rfl⟩;go_wp2;go_ret;exact⟨bR (by rw[E.o,HM.o,xX]),rfl⟩
  | false=>
   have E:=Hd (M.root_out ht)
   have hb:(65536%n != 0)=true:=by
    rw[bne_iff_ne];intro h;rw[(M.two_div n0).2 h]at ht;cases ht
   clear ht;go_enter func169,ntmps169;go_wp2;go_ret;exact⟨bR E.o.symm,rfl⟩
 ·
  have ht:M.two n=false:=by
   cases h:M.two n with
   | false=>rfl
   | true=>exact absurd (M.two_bd h).1 n0
  have E:=Hd (M.root_out ht);clear ht;go_enter func169,ntmps169;go_wp2;go_ret;exact⟨bR E.o.symm,rfl⟩
def M.gp(a q:Int)(k:Nat):List Int:=M.tab k (λi=>a*q ^ i%65537)
theorem uq(a q:Int)(k:Nat):M.allEl (M.gp a q k)=true:=M.all_tab λi _=>(M.el_iff _).2 ⟨by omega,by omega⟩
theorem mD(a q:Int)(k:Nat):M.gp a q k++[a*q ^ k%65537]=M.gp a q (k+1):=dN k _
theorem M.gp_len(a q:Int)(k:Nat):(M.gp a q k).length=k:=M.tab_len _ _
theorem mE(a q:Int)(k:Nat):a*q ^ k%65537*q%65537=a*q ^ (k+1)%65537:=by
 rw[M.mm,Int.mul_assoc,Int.pow_succ]
theorem mF{a:Int}(a0:0<=a)(a1:a<65537)(q:Int):a=a*q ^ 0%65537:=by
 rw[Int.pow_zero,Int.mul_one,Int.emod_eq_of_lt a0 a1]
def vS:Value->Nat
 | .slice _ n _=>n
 | _=>0
theorem fe(a q:Int)(K:Nat)(w:World)(a0:0<=a)(a1:a<65537)(q0:0<=q)(q1:q<65537)(hK:K<=1048576):
  Calls prog 174 #[it a,it q,it K] w λe w'=>∃a' c',e=.returned (.slice a' K c')/\aA 134 w' w.heap.size a' K c' (M.gp a q K)/\m1 w w':=by
 obtain⟨i0,hi,Ca,Da,Ea⟩:=info_parts cJ;have HI:H7 (prog.info? 134=some i0/\i0.zero=some (it 0)/\i0.size=1/\i0.bytes=8):=⟨hi,Ca,Da,Ea⟩;have La:=Hd (mF a0 a1 q);go_enter func174,ntmps174;(go_wp2_with(at_make;refine wpList_make_own _ rfl _ _ 79 rfl w.heap.size 134 i0 (it 0) 1 underlying79 hi Ca Da .i64 .i64 _ K rfl rfl rfl (by rw[Ea];omega) (by unfold maxLen;omega) (m3 _) ?_));intro w1 Aa hg;have HO:=Hd Aa;have HB:=Hd (ba hg);clear Aa hg hi Ca Da Ea;go_wp2
 go_loopw [7,8] (λs v wr=>∃(k:Nat) (a':Option Addr) (Ba:Nat),k<=K/\s=.slice a' k Ba/\v=it (a*q ^ k%65537)/\aA 134 wr w.heap.size a' k Ba (M.gp a q k)/\m1 w wr) (λs _ _=>K-vS s)
 case atStart=>exact⟨0,_,_,by omega,rfl,by rw[<-La.o],HO.o,HB.o⟩
 case round=>
  obtain⟨k,a',Ba,hk,rfl,rfl,Ha,Fa⟩:=hrel;have Ga:=Hd Ha;have Ia:=Hd Fa;have Na:=Fa.size;clear Ha Fa HO HB;have HS:=Hd (mD a q k);have HT:=Hd (mE a q k);by_cases Sa:k<K
  ·
   have hI:(k:Int)<(K:Int):=(by omega);have y0:0<=a*q ^ k%65537:=(by omega);have y1:a*q ^ k%65537<65537:=(by omega);generalize hy:a*q ^ k%65537=y at HS HT y0 y1;clear hy;(go_wp2_with(at_builtin;refine wpList_append_own _ rfl _ _ 79 rfl w.heap.size 134 i0 (it 0) 1 8 underlying79 HI.o.1 HI.o.2.1 HI.o.2.2.1 HI.o.2.2.2 rfl (by decide) _ k ((M.gp a q k).map (Value.int .i64)) rfl (xY Ga.o _) ⟨wr.heap.size,0,none⟩ 1 1 [it y] rfl rfl (br wr _ _) (bL _) (by unfold maxLen;omega) (by omega) (by simp;omega) ?_));intro v' w1 Aa Ja _;have hown':w1.ownsRow w.heap.size 134 1 v' (k+1) ((M.gp a q (k+1)).map (Value.int .i64)):=(by rw[<-HS.o,xU];exact Aa);obtain⟨a2,Oa,rfl,Ka⟩:=aA.form hown';have Pa:=Hd Ka;have Qa:=Hd (Ia.o.grown ((xC wr _ _).trans Ja) Na Ga.o.row);clear Aa hown' Ja Ka;(go_wp2_with fail);refine(bI y q _ y0 y1 q0 q1).mono ?_;rintro e w' ⟨rfl,rfl⟩;go_wp2;go_roundw
   case rel=>exact⟨k+1,a2,Oa,by omega,rfl,by rw[HT.o],Pa.o,Qa.o⟩
   case measure=>simp[vS];omega
  ·
   have Ra:k=K:=(by omega);subst Ra;go_wp2;go_ret;exact⟨a',Ba,rfl,Ga.o,Ia.o⟩
theorem fC(n s:Int)(w:World)(h:M.ptOk n s=true):
  Rt 126 #[it n,it s] w (.tuple #[.agg #[it n,it s,it (M.root n)],.bool true]):=by
 obtain⟨h1,h2,h3⟩:=M.ptOk_parts h;obtain⟨s0,s1⟩:=(M.el_iff s).1 h2;obtain⟨n0,n1⟩:=M.two64_bd h1;have Aa:(s==0)=false:=(by simp[h3]);have Ba:(64%n != 0)=false:=(by simp[(M.two64_div n0).1 h1]);have Ca:¬ n<1:=(by omega);clear h h1 h2 h3;go_enter func126,ntmps126;go_wp2_with(first | (go_at_call 168;refine(dF s _ s0 s1).mono ?_;rintro e w' ⟨rfl,rfl⟩) | (go_at_call 169;refine(nV n _).mono ?_;rintro e w' ⟨rfl,rfl⟩))
 refine s' (v:=.tuple #[.agg #[it n,it s,it (M.root n)],.bool true]) (by simp[results,results126,go_sem]) rfl ⟨rfl,?_⟩;exact(m8 _ _).alloc (m3 _) _
theorem oj(n s:Int)(w:World)(h:M.ptOk n s=false):
  Rt 126 #[it n,it s] w (.tuple #[.agg #[it 0,it 0,it 0],.bool false]):=by
 cases he:M.el s with
 | false=>
  have HX:=Hd ((M.el_not s).1 he);clear h he;go_enter func126,ntmps126;(go_wp2_with(go_at_call 168;refine(dI s _ HX.o).mono ?_;rintro e w' ⟨rfl,rfl⟩));refine s' (v:=.tuple #[.agg #[it 0,it 0,it 0],.bool false]) (by simp[results,results126,go_sem]) rfl ⟨rfl,?_⟩;exact(m8 _ _).alloc (m3 _) _
 | true=>
  obtain⟨s0,s1⟩:=(M.el_iff s).1 he;by_cases hs:s=0;have Aa:(s==0)=true:=by simp[hs]
  rotate_left
  have Aa:(s==0)=false:=(by simp[hs]);by_cases hn:n<1
  rotate_left
  have Ba:(64%n != 0)=true:=by
   rw[bne_iff_ne];intro e;rw[M.ptOk_mk ((M.two64_div (by omega)).2 e) he hs]at h;cases h
  rotate_left
  all_goals
   clear h he hs;go_enter func126,ntmps126;(go_wp2_with(go_at_call 168;refine(dF s _ s0 s1).mono ?_;rintro e w' ⟨rfl,rfl⟩));refine s' (v:=.tuple #[.agg #[it 0,it 0,it 0],.bool false]) (by simp[results,results126,go_sem]) rfl ⟨rfl,?_⟩;exact(m8 _ _).alloc (m3 _) _
theorem jA(N:Nat)(s:Int)(w:World)(h:M.ptOk N s=true):
  Calls prog 108 #[it N,it s] w λe w'=>∃a' c',e=.returned (.slice a' N c')/\aA 2 w' w.heap.size a' N c' (M.gp s (M.root N) N)/\m1 w w':=by
 obtain⟨i0,hi,Da,Ea,Fa⟩:=info_parts bF;have HI:H7 (prog.info? 2=some i0/\i0.zero=some (it 0)/\i0.size=1/\i0.bytes=8):=⟨hi,Da,Ea,Fa⟩;obtain⟨h1,h2,h3⟩:=M.ptOk_parts h;obtain⟨s0,s1⟩:=(M.el_iff s).1 h2;obtain⟨n0,n1⟩:=M.two64_bd h1;obtain⟨q0,q1⟩:=(M.el_iff _).1 (M.root_el (M.two64_two h1));have La:H7 (s=s*M.root N ^ 0%65537):=mF s0 s1 _;clear h h1 h2 h3 hi Da Ea Fa;go_enter func108,ntmps108;(go_wp2_with fail);refine(eO N _).mono ?_;rintro e w' ⟨rfl,rfl⟩;generalize hq:M.root N=q at *;have HQ:=Hd hq;clear hq;go_wp2
 go_loopw [5,7,8] (λo v i wr=>∃(k:Nat) (a':Option Addr) (Aa:Nat),k<=N/\i=it k/\o=.slice a' k Aa/\v=it (s*q ^ k%65537)/\aA 2 wr w.heap.size a' k Aa (M.gp s q k)/\m1 w wr) (λ_ _ i _=>N-(intOf i).toNat)
 case atStart=>exact⟨0,_,_,by omega,rfl,rfl,by rw[<-La.o],World.ownsRow_made w #[] 0 (m3 _) (by unfold maxLen;omega) rfl,(m8 _ _).alloc (m3 _) _⟩
 case round=>
  obtain⟨k,a',Aa,hk,rfl,rfl,rfl,Ga,Ba⟩:=hrel;have Ca:=Hd Ga;have Ha:=Hd Ba;have Na:=Ba.size;clear Ga Ba;have HS:=Hd (mD s q k);have HT:=Hd (mE s q k);by_cases Sa:k<N
  ·
   have hI:(k:Int)<(N:Int):=(by omega);have y0:0<=s*q ^ k%65537:=(by omega);have y1:s*q ^ k%65537<65537:=(by omega);generalize hy:s*q ^ k%65537=y at HS HT y0 y1;obtain⟨m0,I⟩:=M.mul_bd y0 y1 q0 q1;clear hy;(go_wp2_with(at_builtin;refine wpList_append_own _ rfl _ _ 24 rfl w.heap.size 2 i0 (it 0) 1 8 underlying24 HI.o.1 HI.o.2.1 HI.o.2.2.1 HI.o.2.2.2 rfl (by decide) _ k ((M.gp s q k).map (Value.int .i64)) rfl (xY Ca.o _) ⟨wr.heap.size,0,none⟩ 1 1 [it y] rfl rfl (br wr _ _) (bL _) (by unfold maxLen;omega) (by omega) (by simp;omega) ?_));intro v' w1 Ia Ja _;have hown':w1.ownsRow w.heap.size 2 1 v' (k+1) ((M.gp s q (k+1)).map (Value.int .i64)):=(by rw[<-HS.o,xU];exact Ia);obtain⟨a2,Oa,rfl,Ka⟩:=aA.form hown';have Pa:=Hd Ka;have Qa:=Hd (Ha.o.grown ((xC wr _ _).trans Ja) Na Ca.o.row);clear Ia hown' Ja Ka;go_wp2;go_roundw
   case rel=>exact⟨k+1,a2,Oa,by omega,by go_num,rfl,by rw[HT.o],Pa.o,Qa.o⟩
   case measure=>simp[intOf];omega
  ·
   have Ra:k=N:=(by omega);subst Ra;go_wp2;go_ret;exact⟨a',Aa,rfl,by rw[HQ.o];exact Ca.o,Ha.o⟩
theorem iM(N:Nat)(s q:Int)(w:World)(s0:0<=s)(s1:s<65537)(q0:0<=q)(q1:q<65537)(hN:N<=1048576):
  Calls prog 176 #[.agg #[it N,it s,it q]] w λe w'=>∃a' c',e=.returned (.slice a' N c')/\aA 134 w' w.heap.size a' N c' (M.gp s q N)/\m1 w w':=by
 go_enter func176,ntmps176;(go_wp2_with fail);refine(fe s q N _ s0 s1 q0 q1 hN).mono ?_;rintro e w1 ⟨a1,c1,rfl,Aa,Ba⟩;have Ca:H7 (aA 134 w1 w.heap.size a1 N c1 (M.gp s q N)):=Aa.mono (by simp);have Da:=Hd (((m8 _ _).alloc (m3 _) _).trans (Ba.mono (by simp)));clear Aa Ba;go_wp2;go_ret;exact⟨a1,c1,rfl,Ca.o,Da.o⟩
end Go.Proofs.YtbjalickbnpnkaaGreatDoor
