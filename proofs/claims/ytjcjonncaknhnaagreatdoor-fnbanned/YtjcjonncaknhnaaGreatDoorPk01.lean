import Derived.Laws.CopyOwn
import Derived.Laws.EntriesVeiled
import Derived.Deep.Slices
import Derived.Test.YtjcjonncaknhnaaGreatDoorPk00
namespace Go.Proofs.YtjcjonncaknhnaaGreatDoor
open Go.RowKit Go.Proofs.Tryz
set_option linter.unusedSimpArgs false
set_option maxHeartbeats 32000000
variable {B i' n cap N i m c d k j h lc pc RL RF RP o:Nat}{a la pa:Option Addr}{t:TypeId}{w w':World}{v:Value}{ps:List (Int×Int)}{zs ys:List Int}{f g:Nat→Int}{b r wi s:Int}{cs:List Value}
def fP(W:World)(B:Nat):Nat→List Value→World
 | _,[]=>W
 | i,v::vs=>fP (W.setCell ⟨B,i,none⟩ v) B (i+1) vs
theorem kt(B:Nat){p:Addr}(hp:p.block≠B):∀(vs:List Value) (W:World) (i:Nat),(fP W B i vs).cell? p=W.cell? p
 | [],_,_=>rfl
 | v::vs,W,i=>(kt B hp vs (W.setCell ⟨B,i,none⟩ v) (i+1)).trans (uV (w:=W) (a:=⟨B,i,none⟩) (b:=p) (v:=v) (h:=fun e=>hp (by rw[←e])))
theorem oQ(B j:Nat):∀(vs:List Value) (W:World) (i:Nat),j<i→(fP W B i vs).cell? ⟨B,j,none⟩=W.cell? ⟨B,j,none⟩
 | [],_,_,_=>rfl
 | v::vs,W,i,h=>(oQ B j vs (W.setCell ⟨B,i,none⟩ v) (i+1) (by omega)).trans (uV (w:=W) (a:=⟨B,i,none⟩) (b:=⟨B,j,none⟩) (v:=v) (h:=by intro e;simp only[Addr.mk.injEq]at e;omega))
theorem mK(B:Nat):∀(vs:List Value) (W:World) (i:Nat),(∀j,j<vs.length→∃u,W.cell? ⟨B,i+j,none⟩=some u)→∀j v,vs[j]?=some v→(fP W B i vs).cell? ⟨B,i+j,none⟩=some v
 | [],_,_,_,j,v,h=>by simp at h
 | x::vs,W,i,hc,0,v,h=>by
  have e:x=v:=(by simpa using h);subst e;obtain⟨u,hu⟩:=hc 0 (by simp);exact(oQ B i vs (W.setCell ⟨B,i,none⟩ x) (i+1) (by omega)).trans (World.cell?_setCell_same (w:=W) (a:=⟨B,i,none⟩) (v:=x) (h:=hu))
 | x::vs,W,i,hc,j+1,v,h=>by
  have h':vs[j]?=some v:=by simpa using h
  have key:=mK B vs (W.setCell ⟨B,i,none⟩ x) (i+1) (fun j hj=>by
   obtain⟨u,hu⟩:=hc (j+1) (by simp;omega);refine⟨u,(uV (w:=W) (a:=⟨B,i,none⟩) (b:=⟨B,i+1+j,none⟩) (v:=x) (h:=by intro e;simp only[Addr.mk.injEq]at e;omega)).trans ?_⟩;rw[show i+1+j=i+(j+1) by omega];exact hu) j v h'
  rw[show i+(j+1)=i+1+j by omega];exact key
theorem eT(B:Nat)(p:Addr):∀(vs:List Value) (W:World) (i:Nat),(fP W B i vs).frozen? p=W.frozen? p
 | [],_,_=>rfl
 | v::vs,W,i=>(eT B p vs (W.setCell ⟨B,i,none⟩ v) (i+1)).trans (by simp)
theorem i9(B:Nat):∀(vs:List Value) (W:World) (i:Nat),(fP W B i vs).heap.size=W.heap.size
 | [],_,_=>rfl
 | v::vs,W,i=>(i9 B vs (W.setCell ⟨B,i,none⟩ v) (i+1)).trans (by simp)
theorem fJ{B0:Nat}{a:World}(hB:B0≤B):∀(vs:List Value) (W:World) (i:Nat),Below B0 a W→Below B0 a (fP W B i vs)
 | [],_,_,h=>h
 | v::vs,W,i,h=>fJ hB vs (W.setCell ⟨B,i,none⟩ v) (i+1) (h.setCell hB v)
def lH(ps:List (Int×Int)):List Value:=ps.flatMap fun p=>[.int .i64 p.1,.int .i64 p.2]
theorem iP(ps:List (Int×Int))(p:Int×Int):lH ps++[.int .i64 p.1,.int .i64 p.2]=lH (ps++[p]):=by simp[lH]
theorem rB:∀(ps:List (Int×Int)) {i:Nat},i<ps.length→(lH ps)[i*2]?=some (.int .i64 (ps.getD i (0,0)).1)∧(lH ps)[i*2+1]?=some (.int .i64 (ps.getD i (0,0)).2)
 | [],_,h=>by simp at h
 | p::r,0,_=>⟨rfl,rfl⟩
 | p::r,i+1,h=>by
  have ih:=rB r (i:=i) (by simpa using h)
  have e1:(lH (p::r))[(i+1)*2]?=(lH r)[i*2]?:=by
   rw[show(i+1)*2=i*2+1+1 by omega];rfl
  have e2:(lH (p::r))[(i+1)*2+1]?=(lH r)[i*2+1]?:=by
   rw[show(i+1)*2+1=i*2+1+1+1 by omega];rfl
  rw[e1,e2];exact ih
def bf(t:TypeId)(w:World)(i':Nat)(a:Option Addr)(n cap:Nat)(ps:List (Int×Int)):Prop:=ps.length=n∧w.ownsRow i' t 2 (.slice a n cap) n (lH ps)
theorem bf.form(hl:ps.length=n)(h:w.ownsRow i' t 2 v n (lH ps)):∃a cap,v=.slice a n cap∧bf t w i' a n cap ps:=by
 rcases h.2 with⟨rfl,rfl⟩ | ⟨g,cap,cur,rfl,_⟩
 ·exact⟨none,0,rfl,hl,h⟩
 ·exact⟨_,cap,rfl,hl,h⟩
structure dR(w:World)(a:Option Addr)(n cap:Nat)(ps:List (Int×Int)):Prop where
 len:ps.length=n
 le:n≤cap
 big:(cap:Int)≤9223372036854775807
 no:a=none→n=0∧cap=0
 pos:n=0∨∃b off,a=some ⟨b,off,none⟩∧∀i,i<n→w.cell? ⟨b,off+i*2,none⟩=some (.int .i64 (ps.getD i (0,0)).1)∧w.cell? ⟨b,off+i*2+1,none⟩=some (.int .i64 (ps.getD i (0,0)).2)
theorem dR.below(h:dR w a n cap ps)(hb:m1 w w'):dR w' a n cap ps:=by
 refine⟨h.len,h.le,h.big,h.no,?_⟩
 rcases h.pos with e | ⟨b,off,e,hc⟩
 ·exact .inl e
 ·
  by_cases h0:n=0
  ·exact .inl h0
  ·
   have Aa:b<w.heap.size:=by
    have:=(hc 0 (by omega)).1;simp only[World.cell?]at this
    rcases Nat.lt_or_ge b w.heap.size with hl | hl
    ·exact hl
    ·rw[Array.getElem?_eq_none hl]at this;simp at this
   exact .inr ⟨b,off,e,fun i hi=>⟨(hb.cell (p:=⟨b,off+i*2,none⟩) Aa).trans (hc i hi).1,(hb.cell (p:=⟨b,off+i*2+1,none⟩) Aa).trans (hc i hi).2⟩⟩
theorem dR.at(h:dR w a n cap ps)(h0:0<n):∃b off,a=some ⟨b,off,none⟩∧∀i,i<n→w.cell? ⟨b,off+i*2,none⟩=some (.int .i64 (ps.getD i (0,0)).1)∧w.cell? ⟨b,off+i*2+1,none⟩=some (.int .i64 (ps.getD i (0,0)).2):=by
 rcases h.pos with e | e
 ·omega
 ·exact e
theorem bf.block(h:bf t w i' a n cap ps)(h0:0<n):∃g,a=some ⟨g,0,none⟩∧i'≤g∧n≤cap∧(cap:Int)≤9223372036854775807∧∀i,i<n→w.cell? ⟨g,i*2,none⟩=some (.int .i64 (ps.getD i (0,0)).1)∧w.cell? ⟨g,i*2+1,none⟩=some (.int .i64 (ps.getD i (0,0)).2):=by
 obtain⟨hl,h⟩:=h;have Aa:∀g,(Value.slice a n cap).ownBlock=some g→_:=fun g hg=>World.ownsRow.cells h hg
 rcases h.2 with⟨_,h0'⟩ | ⟨g,c,cur,e,hb,hh,hn,hm,_,_⟩
 ·omega
 ·
  simp only[Value.slice.injEq]at e;obtain⟨rfl,-,rfl⟩:=e;have Ba:∀j,(⟨g,0,none⟩:Addr).add j=⟨g,j,none⟩:=fun j=>by unfold Addr.add;split <;> simp_all
  unfold maxLen at hm;refine⟨g,rfl,hb,hn,by omega,fun i hi=>?_⟩;obtain⟨h1,h2⟩:=rB ps (i:=i) (by omega);have c1:=Aa g rfl _ _ h1;have c2:=Aa g rfl _ _ h2;rw[Ba]at c1 c2;exact⟨c1,c2⟩
theorem bf.sees(h:bf t w i' a n cap ps)(h0:0<n):dR w a n cap ps:=by
 obtain⟨g,rfl,_,h1,h2,hc⟩:=h.block h0;exact⟨h.1,h1,h2,fun e=>by simp at e,.inr ⟨g,0,rfl,fun i hi=>by simpa using hc i hi⟩⟩
theorem bf.row(h:bf t w i' a n cap ps):∀q,(Value.slice a n cap).ownBlock=some q→i'≤q:=by
 intro q hq
 rcases h.2.2 with⟨e,_⟩ | ⟨g,c,cur,e,hb,_⟩
 ·simp only[Value.slice.injEq]at e;rw[e.1]at hq;simp[Value.ownBlock]at hq
 ·simp only[Value.slice.injEq]at e;rw[e.1]at hq;simp[Value.ownBlock]at hq;omega
theorem bf.below(h:bf t w i' a n cap ps)(hb:m1 w w'):bf t w' i' a n cap ps:=
 ⟨h.1,World.ownsRow.kept h.2 (w':=w') (row:=none) ⟨hb.os,hb.tape,hb.output,hb.size,fun k hk _=>hb.block k hk⟩ (by cases hv:(Value.slice a n cap).ownBlock <;> simp)⟩
theorem bf.mono{base':Nat}(h:bf t w i' a n cap ps)(hb:base'≤i'):bf t w base' a n cap ps:=by
 refine⟨h.1,h.2.1,?_⟩
 rcases h.2.2 with e | ⟨g,c,cur,e,hg,r⟩
 ·exact .inl e
 ·exact .inr ⟨g,c,cur,e,by omega,r⟩
theorem bf.other(h:bf t w i' a n cap ps)(p:Addr)(hp:p.block<i')(v:Value):bf t (w.setCell p v) i' a n cap ps:=by
 refine⟨h.1,World.ownsRow.kept h.2 (w':=w.setCell p v) (row:=some p.block) ⟨rfl,rfl,rfl,by simp[World.setCell],fun k hk hne=>Below.heap_setCell _ _ _ _ (fun e=>hne (by rw[e]))⟩ ?_⟩;have hr:=h.row
 cases hv:(Value.slice a n cap).ownBlock with
 | none=>exact .inl rfl
 | some q=>exact .inr (by have:=hr q hv;simp;omega)
theorem bf.sets(hB:B<i'):∀(vs:List Value) (w:World) (i:Nat),bf t w i' a n cap ps→bf t (fP w B i vs) i' a n cap ps
 | [],_,_,h=>h
 | v::vs,w,i,h=>bf.sets hB vs (w.setCell ⟨B,i,none⟩ v) (i+1) (h.other ⟨B,i,none⟩ hB v)
theorem eh(x y:Int):∀u∈[Value.int .i64 x,Value.int .i64 y],u.oneCell'=true:=by
 intro u hu;simp only[List.mem_cons,List.not_mem_nil,or_false]at hu
 rcases hu with rfl | rfl <;> rfl
theorem ed(w:World)(x y:Value)(t:TypeId):∀j u,[x,y][j]?=some u→(w.alloc (.cells #[x,y] t)).cell? ((⟨w.heap.size,0,none⟩:Addr).add j)=some u:=by
 intro j u hj;have e:((⟨w.heap.size,0,none⟩:Addr).add j)=⟨w.heap.size,j,none⟩:=(by unfold Addr.add;split <;> simp_all);rw[e,uF];simpa using hj
def M.tab(N:Nat)(f:Nat→Int):List Int:=(List.range N).map f
theorem M.tab_len(N:Nat)(f:Nat→Int):(M.tab N f).length=N:=by simp[M.tab]
theorem M.tab_get(N:Nat)(f:Nat→Int)(i:Nat)(h:i<N):(M.tab N f).getD i 0=f i:=by
 rw[m4,m6 (by rw[M.tab_len];exact h)];simp[M.tab]
theorem M.tab_ext(hl:zs.length=N)(h:∀i,i<N→zs.getD i 0=f i):zs=M.tab N f:=by
 apply List.ext_getElem (by rw[hl,M.tab_len]);intro i h1 h2;have:=h i (by omega);rw[m4,m6 h1]at this;simpa[M.tab]using this
theorem bH(h:∀i,i<N→f i=g i):M.tab N f=M.tab N g:=
 M.tab_ext (M.tab_len _ _) fun i hi=>by rw[M.tab_get _ _ _ hi];exact h i hi
theorem d9(N:Nat)(f:Nat→Int)(k:Nat)(v:Int):(M.tab N f).set k v=M.tab N (fun i=>if i=k then v else f i):=by
 apply List.ext_getElem (by simp[M.tab]);intro i h1 h2;simp only[M.tab,List.getElem_set,List.getElem_map,List.getElem_range];by_cases e:k=i
 ·subst e;simp
 ·rw[if_neg e,if_neg (fun h=>e h.symm)]
theorem dx(k:Nat)(f:Nat→Int):M.tab k f++[f k]=M.tab (k+1) f:=by
 simp[M.tab,List.range_succ]
def M.sumAt(zs ys:List Int)(i:Nat):Int:=(zs.getD i 0+ys.getD i 0)%65537
def M.padd(zs ys:List Int):List Int:=M.tab (max zs.length ys.length) (M.sumAt zs ys)
theorem M.getD_out(h:zs.length≤i):zs.getD i 0=0:=by
 rw[m4,List.getElem?_eq_none h];rfl
theorem M.all_tab(h:∀i,i<N→M.el (f i)=true):M.allEl (M.tab N f)=true:=by
 unfold M.allEl M.tab;rw[List.all_eq_true];intro x hx;obtain⟨i,hi,rfl⟩:=List.mem_map.1 hx;exact h i (List.mem_range.1 hi)
theorem M.all_padd(zs ys:List Int):M.allEl (M.padd zs ys)=true:=
 M.all_tab fun i _=>(M.el_iff _).2 ⟨by unfold M.sumAt;omega,by unfold M.sumAt;omega⟩
theorem ee{b:Option Addr}(w:World)(hz:aw w a n c zs)(hy:aw w b m d ys)(ha:M.allEl zs=true)(hb:M.allEl ys=true)(hn:n≤100000)(hm:m≤100000):
  Calls prog 215 #[.slice a n c,.slice b m d] w fun e w'=>∃a' l c',e=.returned (.slice a' l c')∧aC 2 w' w.heap.size a' l c' (M.trim (M.padd zs ys))∧m1 w w':=by
 have HZ:=Hd hz;have HY:=Hd hy;have HA:=Hd ha;have HB:=Hd hb;obtain⟨i0,hi,Ta,Ua,Va⟩:=info_parts bJ;have HI:H9 (prog.info? 2=some i0∧i0.zero=some (Value.int .i64 0)∧i0.size=1∧i0.bytes=8):=⟨hi,Ta,Ua,Va⟩;clear hz hy ha hb hi Ta Ua Va;go_enter func215,ntmps215;go_wp2
 go_loopw [5,6] (fun s i wr=>∃(k:Nat) (a':Option Addr) (Na:Nat),k≤max n m∧i=it k∧s=.slice a' k Na∧aC 2 wr w.heap.size a' k Na (M.tab k (M.sumAt zs ys))∧m1 w wr) (fun _ i _=>max n m-(intOf i).toNat)
 case atStart=>exact⟨0,_,_,by omega,rfl,rfl,World.ownsRow_made w #[] 0 (m3 _) (by unfold maxLen;omega) rfl,(m5 _ _).alloc (m3 _) _⟩
 case round=>
  obtain⟨k,a',Na,hk,rfl,rfl,Wa,Oa⟩:=hrel;have Da:=Hd Wa;have Ea:=Hd Oa;have Ia:=Oa.size;clear Wa Oa;have Pa:=M.el_at HA.o k;have Ha:=M.el_at HB.o k;have Qa:H9 (M.sumAt zs ys k=(zs.getD k 0+ys.getD k 0)%65537):=rfl;by_cases Ab:k<n
  ·
   obtain⟨b1,o1,rfl,Xa⟩:=(HZ.o.below Ea.o).at (by omega);have c1:=Xa k Ab;clear Xa;generalize hx:zs.getD k 0=x at c1 Pa;have HX:=Hd hx;obtain⟨x0,x1⟩:=Pa;have hI:(k:Int)<(n:Int):=(by omega);clear hx;by_cases Ra:k<m
   ·
    obtain⟨b2,o2,rfl,Ja⟩:=(HY.o.below Ea.o).at (by omega);have c2:=Ja k Ra;clear Ja;generalize Ka:ys.getD k 0=y at c2 Ha;have Sa:=Hd Ka;obtain⟨y0,y1⟩:=Ha;have hJ:(k:Int)<(m:Int):=(by omega);have HV:H9 (M.sumAt zs ys k=(x+y)%65537):=(by show M.sumAt zs ys k=_;rw[Qa.o,HX.o,Sa.o]);clear Ka;(go_wp2_with(at_builtin;refine wpList_append_own _ rfl _ _ 24 rfl w.heap.size 2 i0 (it 0) 1 8 underlying24 HI.o.1 HI.o.2.1 HI.o.2.2.1 HI.o.2.2.2 rfl (by decide) _ k ((M.tab k (M.sumAt zs ys)).map (Value.int .i64)) rfl (vg Da.o _) ⟨wr.heap.size,0,none⟩ 1 1 [it ((x+y)%65537)] rfl rfl (bB wr _ _) (bZ _) (by unfold maxLen;omega) (by omega) (by simp;omega) ?_));intro v' w1 Ba Ca _;have hown':w1.ownsRow w.heap.size 2 1 v' (k+1) ((M.tab (k+1) (M.sumAt zs ys)).map (Value.int .i64)):=(by rw[←dx,HV.o,uX];exact Ba);obtain⟨a2,La,rfl,Aa⟩:=aC.form hown';have Fa:=Hd Aa;have Ga:=Hd (Ea.o.grown ((uK wr _ _).trans Ca) Ia Da.o.row);clear Ba hown' Ca Aa;go_wp2;go_roundw
    case rel=>exact⟨k+1,a2,La,by omega,by go_num,rfl,Fa.o,Ga.o⟩
    case measure=>simp[intOf];omega
   ·
    have hJ:¬ (k:Int)<(m:Int):=(by omega);have HV:H9 (M.sumAt zs ys k=x%65537):=(by show M.sumAt zs ys k=_;rw[Qa.o,HX.o,M.getD_out (by rw[HY.o.len];omega),Int.add_zero]);clear Ha;(go_wp2_with(at_builtin;refine wpList_append_own _ rfl _ _ 24 rfl w.heap.size 2 i0 (it 0) 1 8 underlying24 HI.o.1 HI.o.2.1 HI.o.2.2.1 HI.o.2.2.2 rfl (by decide) _ k ((M.tab k (M.sumAt zs ys)).map (Value.int .i64)) rfl (vg Da.o _) ⟨wr.heap.size,0,none⟩ 1 1 [it (x%65537)] rfl rfl (bB wr _ _) (bZ _) (by unfold maxLen;omega) (by omega) (by simp;omega) ?_));intro v' w1 Ba Ca _;have hown':w1.ownsRow w.heap.size 2 1 v' (k+1) ((M.tab (k+1) (M.sumAt zs ys)).map (Value.int .i64)):=(by rw[←dx,HV.o,uX];exact Ba);obtain⟨a2,La,rfl,Aa⟩:=aC.form hown';have Fa:=Hd Aa;have Ga:=Hd (Ea.o.grown ((uK wr _ _).trans Ca) Ia Da.o.row);clear Ba hown' Ca Aa;go_wp2;go_roundw
    case rel=>exact⟨k+1,a2,La,by omega,by go_num,rfl,Fa.o,Ga.o⟩
    case measure=>simp[intOf];omega
  ·
   have hI:¬ (k:Int)<(n:Int):=(by omega);have Cb:decide ((k:Int)<(n:Int))=false:=(by simpa using hI);clear Pa;by_cases Ra:k<m
   ·
    obtain⟨b2,o2,rfl,Ja⟩:=(HY.o.below Ea.o).at (by omega);have c2:=Ja k Ra;clear Ja;generalize Ka:ys.getD k 0=y at c2 Ha;have Sa:=Hd Ka;obtain⟨y0,y1⟩:=Ha;have hJ:(k:Int)<(m:Int):=(by omega);have HV:H9 (M.sumAt zs ys k=y%65537):=(by show M.sumAt zs ys k=_;rw[Qa.o,Sa.o,M.getD_out (zs:=zs) (by rw[HZ.o.len];omega),Int.zero_add]);clear Ka;(go_wp2_with(at_builtin;refine wpList_append_own _ rfl _ _ 24 rfl w.heap.size 2 i0 (it 0) 1 8 underlying24 HI.o.1 HI.o.2.1 HI.o.2.2.1 HI.o.2.2.2 rfl (by decide) _ k ((M.tab k (M.sumAt zs ys)).map (Value.int .i64)) rfl (vg Da.o _) ⟨wr.heap.size,0,none⟩ 1 1 [it (y%65537)] rfl rfl (bB wr _ _) (bZ _) (by unfold maxLen;omega) (by omega) (by simp;omega) ?_));intro v' w1 Ba Ca _;have hown':w1.ownsRow w.heap.size 2 1 v' (k+1) ((M.tab (k+1) (M.sumAt zs ys)).map (Value.int .i64)):=(by rw[←dx,HV.o,uX];exact Ba);obtain⟨a2,La,rfl,Aa⟩:=aC.form hown';have Fa:=Hd Aa;have Ga:=Hd (Ea.o.grown ((uK wr _ _).trans Ca) Ia Da.o.row);clear Ba hown' Ca Aa;go_wp2;go_roundw
    case rel=>exact⟨k+1,a2,La,by omega,by go_num,rfl,Fa.o,Ga.o⟩
    case measure=>simp[intOf];omega
   ·
    have hJ:¬ (k:Int)<(m:Int):=(by omega);have Ya:k=max n m:=(by omega);have HP:H9 (M.tab k (M.sumAt zs ys)=M.padd zs ys):=(by show _=_;unfold M.padd;rw[HZ.o.len,HY.o.len,←Ya]);have Bb:k≤1048576:=(by omega);clear Ha Ya;(go_wp2_with fail);refine(cC _ Da.o.sees Bb).mono ?_;rintro e w1 ⟨a2,l2,c2,rfl,Aa,Za⟩
    have Fa:H9 (aC 2 w1 w.heap.size a2 l2 c2 (M.trim (M.padd zs ys))):=by
     show aC _ _ _ _ _ _ _;rw[←HP.o];exact Aa.mono Ia
    have Ga:=Hd (Ea.o.trans (Za.mono Ia));clear Aa Za;go_wp2;go_ret;exact⟨a2,l2,c2,rfl,Fa.o,Ga.o⟩
theorem aC.whole{g:Nat}(h:aC t w i' (some ⟨g,0,none⟩) n n zs):w.heap[g]?=some (.cells (zs.map (Value.int .i64)).toArray t (0,0)):=by
 rcases h.2 with⟨e,_⟩ | ⟨g',c,cur,e,_,hh,_,_,hs,ht⟩
 ·simp at e
 ·
  simp only[Value.slice.injEq,Option.some.injEq,Addr.mk.injEq]at e;obtain⟨⟨rfl,-,-⟩,-,rfl⟩:=e;rw[hh]
  have:cur.toList=zs.map (Value.int .i64):=by
   rw[uD (by rw[Array.length_toList,hs];exact m3 _)]at ht;exact ht
  congr 2
  rw[←this]
def M.part(zs ys:List Int)(k i:Nat):Int:=if i<k then M.sumAt zs ys i else zs.getD i 0
theorem M.padd_len(zs ys:List Int):(M.padd zs ys).length=max zs.length ys.length:=M.tab_len _ _
namespace M
theorem getD_take:(zs.take k).getD i 0=if i<k then zs.getD i 0 else 0:=by
 rw[m4,m4];by_cases h:i<k
 ·rw[List.getElem?_take_of_lt h,if_pos h]
 ·rw[List.getElem?_eq_none (by rw[uZ];omega),if_neg h];rfl
theorem tl_zero(h1:tl zs k≤i)(h2:i<k):zs.getD i 0=0:=by
 induction k with
 | zero=>omega
 | succ k ih=>
  unfold tl at h1;by_cases h:zs.getD k 0=0
  ·
   rw[if_pos h]at h1;by_cases e:i=k
   ·subst e;exact h
   ·exact ih h1 (by omega)
  ·rw[if_neg h]at h1;omega
theorem getD_trim(zs:List Int)(i:Nat):(trim zs).getD i 0=zs.getD i 0:=by
 unfold trim;rw[getD_take];by_cases h:i<tl zs zs.length
 ·rw[if_pos h]
 ·
  rw[if_neg h];by_cases h2:i<zs.length
  ·exact(tl_zero (by omega) h2).symm
  ·exact(getD_out (by omega)).symm
def neat(zs:List Int):Prop:=zs.length=0∨zs.getD (zs.length-1) 0≠0
theorem tl_pos(h:0<tl zs k):zs.getD (tl zs k-1) 0≠0:=by
 induction k with
 | zero=>simp[tl]at h
 | succ k ih=>
  unfold tl at h ⊢;by_cases e:zs.getD k 0=0
  ·rw[if_pos e]at h ⊢;exact ih h
  ·rw[if_neg e];simpa using e
theorem trim_len(zs:List Int):(trim zs).length=tl zs zs.length:=by
 unfold trim;rw[uZ];have:=tl_le zs zs.length;omega
theorem neat_trim(zs:List Int):neat (trim zs):=by
 unfold neat;rw[trim_len];by_cases h:tl zs zs.length=0
 ·exact .inl h
 ·right;rw[getD_trim];exact tl_pos (by omega)
theorem neat_ext(h1:neat zs)(h2:neat ys)(h:∀i,zs.getD i 0=ys.getD i 0):zs=ys:=by
 have hl:zs.length=ys.length:=by
  rcases Nat.lt_trichotomy zs.length ys.length with hlt | e | hlt
  ·
   rcases h2 with e | e
   ·omega
   ·exfalso;apply e;rw[←h];exact getD_out (by omega)
  ·exact e
  ·
   rcases h1 with e | e
   ·omega
   ·exfalso;apply e;rw[h];exact getD_out (by omega)
 apply List.ext_getElem hl;intro i a b;have:=h i;rw[m4,m4,m6 a,m6 b]at this;exact this
theorem trim_ext(h:∀i,zs.getD i 0=ys.getD i 0):trim zs=trim ys:=
 neat_ext (neat_trim _) (neat_trim _) fun i=>by rw[getD_trim,getD_trim];exact h i
theorem trim_neat(h:neat zs):trim zs=zs:=neat_ext (neat_trim _) h (getD_trim zs)
theorem tab_getD(N:Nat)(f:Nat→Int)(i:Nat):(tab N f).getD i 0=if i<N then f i else 0:=by
 by_cases h:i<N
 ·rw[if_pos h,tab_get _ _ _ h]
 ·rw[if_neg h];exact getD_out (by rw[tab_len];omega)
theorem padd_getD(i:Nat):(padd zs ys).getD i 0=(zs.getD i 0+ys.getD i 0)%65537:=by
 unfold padd;rw[tab_getD];by_cases h:i<max zs.length ys.length
 ·rw[if_pos h];rfl
 ·rw[if_neg h,getD_out (zs:=zs) (by omega),getD_out (zs:=ys) (by omega)];rfl
def pm:List Int→List Int→Nat→Int
 | [],_,_=>0
 | c::r,ys,i=>(c*ys.getD i 0+(if i=0 then 0 else pm r ys (i-1)))%65537
theorem pm_bd(zs ys:List Int)(i:Nat):0≤pm zs ys i∧pm zs ys i<65537:=by
 cases zs with
 | nil=>show 0≤(0:Int)∧(0:Int)<65537;omega
 | cons c r=>unfold pm;omega
theorem pm_out(h:zs.length+ys.length≤i+1):pm zs ys i=0:=by
 induction zs generalizing i with
 | nil=>rfl
 | cons c r ih=>
  unfold pm;rw[List.length_cons]at h;rw[getD_out (zs:=ys) (by omega)];by_cases h0:i=0
  ·subst h0;simp
  ·rw[if_neg h0,ih (by omega)];simp
theorem pm_nil(zs:List Int)(i:Nat):pm zs [] i=0:=by
 induction zs generalizing i with
 | nil=>rfl
 | cons c r ih=>
  unfold pm;by_cases h0:i=0
  ·subst h0;simp
  ·rw[if_neg h0,ih];simp
theorem pm_snoc(zs ys:List Int)(c:Int)(t:Nat):pm (zs++[c]) ys t=(pm zs ys t+(if zs.length≤t then c*ys.getD (t-zs.length) 0 else 0))%65537:=by
 induction zs generalizing t with
 | nil=>
  simp only[List.nil_append,List.length_nil,Nat.zero_le,if_true,Nat.sub_zero];show(c*ys.getD t 0+(if t=0 then 0 else pm [] ys (t-1)))%65537=(0+c*ys.getD t 0)%65537;have:(if t=0 then 0 else pm [] ys (t-1))=0:=(by split <;> rfl);rw[this,Int.add_zero,Int.zero_add]
 | cons z r ih=>
  rw[List.cons_append,List.length_cons];show(z*ys.getD t 0+(if t=0 then 0 else pm (r++[c]) ys (t-1)))%65537=_;by_cases h0:t=0
  ·subst h0;rw[if_pos rfl,if_neg (by omega)];unfold pm;rw[if_pos rfl];omega
  ·
   rw[if_neg h0,ih]
   have e:pm (z::r) ys t=(z*ys.getD t 0+pm r ys (t-1))%65537:=by
    show(z*ys.getD t 0+(if t=0 then 0 else pm r ys (t-1)))%65537=_;rw[if_neg h0]
   rw[e];by_cases h1:r.length≤t-1
   ·
    rw[if_pos h1,if_pos (by omega),show t-(r.length+1)=t-1-r.length by omega];generalize c*ys.getD (t-1-r.length) 0=u;generalize z*ys.getD t 0=v;omega
   ·rw[if_neg h1,if_neg (by omega)];omega
def pmul(zs ys:List Int):List Int:=if zs.length=0∨ys.length=0 then[]else trim (tab (zs.length+ys.length-1) (pm zs ys))
theorem pmul_getD(zs ys:List Int)(i:Nat):(pmul zs ys).getD i 0=pm zs ys i:=by
 unfold pmul;by_cases h:zs.length=0∨ys.length=0
 ·
  rw[if_pos h]
  have:pm zs ys i=0:=by
   rcases h with h | h
   ·rw[List.eq_nil_of_length_eq_zero h];rfl
   ·rw[List.eq_nil_of_length_eq_zero h];exact pm_nil _ _
  rw[this];rfl
 ·
  rw[if_neg h,getD_trim,tab_getD];by_cases h2:i<zs.length+ys.length-1
  ·rw[if_pos h2]
  ·rw[if_neg h2,pm_out (by omega)]
theorem neat_pmul(zs ys:List Int):neat (pmul zs ys):=by
 unfold pmul;split
 ·exact .inl rfl
 ·exact neat_trim _
theorem pmul_len(zs ys:List Int):(pmul zs ys).length≤zs.length+ys.length-1:=by
 unfold pmul;split
 ·simp
 ·have:=len_trim (tab (zs.length+ys.length-1) (pm zs ys));rw[tab_len]at this;exact this
def pscale(zs:List Int)(c:Int):List Int:=zs.map fun a=>a*c%65537
theorem pscale_getD(zs:List Int)(c:Int)(i:Nat):(pscale zs c).getD i 0=zs.getD i 0*c%65537:=by
 unfold pscale;rw[m4,List.getElem?_map,m4];by_cases h:i<zs.length
 ·rw[m6 h];rfl
 ·rw[List.getElem?_eq_none (by omega)];simp
theorem cons_getD(c:Int)(zs:List Int)(i:Nat):(c::zs).getD i 0=if i=0 then c else zs.getD (i-1) 0:=by
 cases i with
 | zero=>rfl
 | succ i=>simp
theorem all_pscale(zs:List Int)(c:Int):allEl (pscale zs c)=true:=by
 unfold allEl pscale;rw[List.all_eq_true];intro x hx;obtain⟨a,_,rfl⟩:=List.mem_map.1 hx;exact(el_iff _).2 ⟨by omega,by omega⟩
theorem all_cons{c:Int}(hc:0≤c∧c<65537)(h:allEl zs=true):allEl (c::zs)=true:=by
 unfold allEl at *;rw[List.all_cons,h,(el_iff c).2 hc];rfl
end M
namespace M
theorem mm(a x:Int):(a%65537*x)%65537=a*x%65537:=by
  rw[Int.mul_emod,Int.emod_emod_of_dvd _ (Int.dvd_refl _),←Int.mul_emod]
theorem tab_succ(N:Nat)(f:Nat→Int):tab (N+1) f=f 0::tab N (fun i=>f (i+1)):=by
  simp[tab,List.range_succ_eq_map]
theorem ev_ext(x:Int)(h:∀i,zs.getD i 0=ys.getD i 0):ev zs x=ev ys x:=by
  rw[←ev_trim zs,←ev_trim ys,trim_ext h]
theorem ev_padd(zs ys:List Int)(x:Int):ev (padd zs ys) x=(ev zs x+ev ys x)%65537:=by
  induction zs generalizing ys with
  | nil=>
    induction ys with
    | nil=>rfl
    | cons b s ih=>
      have e:padd [] (b::s)=(b%65537)::padd [] s:=by
        unfold padd
        simp only[List.length_nil,List.length_cons,Nat.zero_max]
        rw[tab_succ]
        congr 1
        simp[sumAt]
      rw[e,ev_cons,ih,ev_cons]
      show((0+ev s x)%65537*x+b%65537)%65537=(0+(ev s x*x+b)%65537)%65537
      have h:=mm (0+ev s x) x
      rw[Int.zero_add]at h ⊢
      generalize ev s x%65537*x=p at *
      generalize ev s x*x=q at *
      omega
  | cons a r ih=>
    cases ys with
    | nil=>
      have hc:∀l:List Int,ev (padd l []) x=ev l x%65537:=by
        intro l
        induction l with
        | nil=>rfl
        | cons b s ih2=>
          have e:padd (b::s) []=(b%65537)::padd s []:=by
            unfold padd
            simp only[List.length_nil,List.length_cons,Nat.max_zero]
            rw[tab_succ]
            congr 1
            simp[sumAt]
          rw[e,ev_cons,ih2,ev_cons]
          have h:=mm (ev s x) x
          generalize ev s x%65537*x=p at *
          generalize ev s x*x=q at *
          omega
      rw[hc]
      show _=(ev (a::r) x+0)%65537
      rw[Int.add_zero]
    | cons b s=>
      have e:padd (a::r) (b::s)=((a+b)%65537)::padd r s:=by
        unfold padd
        simp only[List.length_cons]
        rw[show max (r.length+1) (s.length+1)=max r.length s.length+1 by omega,tab_succ]
        congr 1
      rw[e,ev_cons,ih,ev_cons,ev_cons]
      have h:=mm (ev r x+ev s x) x
      rw[Int.add_mul]at h
      generalize(ev r x+ev s x)%65537*x=p at *
      generalize ev r x*x=q at *
      generalize ev s x*x=t at *
      omega
theorem ev_pscale(ys:List Int)(c x:Int):ev (pscale ys c) x=ev ys x*c%65537:=by
  induction ys with
  | nil=>show(0:Int)=0*c%65537;simp
  | cons b s ih=>
    show ev ((b*c%65537)::pscale s c) x=_
    rw[ev_cons,ih,ev_cons,mm,Int.add_mul]
    have h:=mm (ev s x*c) x
    have e:ev s x*c*x=ev s x*x*c:=Int.mul_right_comm _ _ _
    rw[e]at h
    generalize ev s x*c%65537*x=p at *
    generalize ev s x*x*c=q at *
    generalize b*c=t
    omega
theorem ev_pmul(zs ys:List Int)(x:Int):ev (pmul zs ys) x=ev zs x*ev ys x%65537:=by
  induction zs with
  | nil=>
    have:pmul [] ys=[]:=by unfold pmul;rw[if_pos (.inl rfl)]
    rw[this];show(0:Int)=0*ev ys x%65537;simp
  | cons c r ih=>
    have e:ev (pmul (c::r) ys) x=ev (padd (pscale ys c) (0::pmul r ys)) x:=by
      apply ev_ext
      intro i
      rw[pmul_getD,padd_getD,pscale_getD,cons_getD]
      show(c*ys.getD i 0+(if i=0 then 0 else pm r ys (i-1)))%65537=_
      rw[Int.mul_comm c]
      by_cases h0:i=0
      ·rw[if_pos h0,if_pos h0];omega
      ·rw[if_neg h0,if_neg h0,pmul_getD];omega
    rw[e,ev_padd,ev_pscale,ev_cons,ih,ev_cons,mm,Int.add_mul]
    have h:=mm (ev r x*ev ys x) x
    have e2:ev r x*ev ys x*x=ev r x*x*ev ys x:=Int.mul_right_comm _ _ _
    rw[e2]at h
    rw[Int.mul_comm c]
    generalize ev r x*ev ys x%65537*x=p at *
    generalize ev r x*x*ev ys x=q at *
    generalize ev ys x*c=t
    omega
theorem all_pmul(zs ys:List Int):allEl (pmul zs ys)=true:=by
  unfold pmul
  split
  ·rfl
  ·exact all_trim (all_tab fun i _=>(el_iff _).2 (pm_bd zs ys i))
theorem el_inv{a:Int}(h:el a=true)(h0:a≠0):el (inv a)=true:=by rw[inv_in h h0];exact el_pw _ _
theorem prod_ne{a:Int}(ha:el a=true)(hb:el b=true)(a0:a≠0)(b0:b≠0):a*b%65537≠0:=by
  intro h
  have h1:mul (inv a) (mul a b)=0:=by
    rw[mul_in ha hb,h,mul_in (el_inv ha a0) (by decide)];simp
  rw[←mul_assoc' (el_inv ha a0) ha hb,mul_comm' a (inv a),mul_inv ha a0,mul_comm' b 1,mul_one' hb]at h1
  exact b0 h1
theorem pm_lead(zs ys:List Int)(h1:0<zs.length)(h2:0<ys.length):pm zs ys (zs.length+ys.length-2)=zs.getD (zs.length-1) 0*ys.getD (ys.length-1) 0%65537:=by
  induction zs with
  | nil=>simp at h1
  | cons c r ih=>
    cases r with
    | nil=>
      show(c*ys.getD (([c]:List Int).length+ys.length-2) 0+(if([c]:List Int).length+ys.length-2=0 then 0 else pm [] ys (([c]:List Int).length+ys.length-2-1)))%65537=_
      have e:(if([c]:List Int).length+ys.length-2=0 then 0 else pm [] ys (([c]:List Int).length+ys.length-2-1))=0:=by split <;> rfl
      rw[e,Int.add_zero,show([c]:List Int).length+ys.length-2=ys.length-1 by simp;omega]
      rfl
    | cons z t=>
      have hl:(c::z::t).length+ys.length-2=(z::t).length+ys.length-2+1:=by simp only[List.length_cons];omega
      rw[hl]
      show(c*ys.getD ((z::t).length+ys.length-2+1) 0+(if(z::t).length+ys.length-2+1=0 then 0 else pm (z::t) ys ((z::t).length+ys.length-2+1-1)))%65537=_
      rw[getD_out (zs:=ys) (by simp only[List.length_cons];omega),if_neg (by omega),Nat.add_sub_cancel,ih (by simp),Int.mul_zero,Int.zero_add,Int.emod_emod_of_dvd _ (Int.dvd_refl _)]
      have:(c::z::t).getD ((c::z::t).length-1) 0=(z::t).getD ((z::t).length-1) 0:=by
        rw[cons_getD,if_neg (by simp)];rfl
      rw[this]
theorem pmul_full(h1:allEl zs=true)(h2:allEl ys=true)(n1:neat zs)(n2:neat ys)(p1:0<zs.length)(p2:0<ys.length):(pmul zs ys).length=zs.length+ys.length-1:=by
  have Aa:=pmul_len zs ys
  rcases Nat.lt_or_ge (pmul zs ys).length (zs.length+ys.length-1)with h | h
  · exfalso
    have h3:=getD_out (zs:=pmul zs ys) (i:=zs.length+ys.length-2) (by omega)
    rw[pmul_getD,pm_lead zs ys p1 p2]at h3
    have e1 : zs.getD (zs.length - 1) 0 ≠ 0 := by rcases n1 with e | e; · omega
                                                  · exact e
    have e2 : ys.getD (ys.length - 1) 0 ≠ 0 := by rcases n2 with e | e; · omega
                                                  · exact e
    exact prod_ne ((el_iff _).2 (el_at h1 _)) ((el_iff _).2 (el_at h2 _)) e1 e2 h3
  ·omega
end M
namespace M
theorem pm_snoc0(zs g:List Int)(i:Nat):pm (zs++[0]) g i=pm zs g i:=by
 rw[pm_snoc];have:=pm_bd zs g i;have e:(if zs.length≤i then 0*g.getD (i-zs.length) 0 else 0)=0:=(by split <;> simp);rw[e,Int.add_zero,Int.emod_eq_of_lt this.1 this.2]
theorem pm_tl(zs g:List Int)(i k:Nat)(hk:k≤zs.length):pm (zs.take (tl zs k)) g i=pm (zs.take k) g i:=by
 induction k with
 | zero=>rfl
 | succ k ih=>
  unfold tl;by_cases h:zs.getD k 0=0
  ·rw[if_pos h,ih (by omega),←take_snoc (by omega),h,pm_snoc0]
  ·rw[if_neg h]
theorem pm_trim(zs g:List Int)(i:Nat):pm (trim zs) g i=pm zs g i:=by
 unfold trim;rw[pm_tl zs g i _ (m3 _),List.take_length]
structure Div(f g q r:List Int):Prop where
 nq:neat q
 nr:neat r
 aq:allEl q=true
 ar:allEl r=true
 short:r.length<g.length
 eq:∀i,f.getD i 0=(pm q g i+r.getD i 0)%65537
end M
theorem oP(h:aw w a n c zs):∀ad,a=some ad→∀j u,(zs.map (Value.int .i64))[j]?=some u→w.cell? (ad.add j)=some u:=by
 have:=db h n (m3 _);rw[uD (by rw[h.len];exact m3 _)]at this;exact this
theorem gB(x:Int)(n:Nat)(w:World)(x0:0≤x)(x1:x<65537)(hn:(n:Int)≤9223372036854775807):
  Rq 178 #[.int .i64 x,.int .i64 n] w (.int .i64 (M.pw x n)):=by
 have HS:=Hd (M.pinv_start x n);go_enter func178,ntmps178;go_wp2
 go_loop [0,1,5] (fun a m out=>∃(av ov:Int) (k:Nat),0≤av∧av<65537∧0≤ov∧ov<65537∧(k:Int)≤9223372036854775807∧a=it av∧m=it k∧out=it ov∧M.PInv x n ov av k) (fun _ m _=>(intOf m).toNat)
 case atStart=>exact⟨x,1,n,x0,x1,by omega,by omega,hn,rfl,rfl,rfl,HS.o⟩
 case round=>
  obtain⟨av,ov,k,a0,a1,o0,o1,hk,rfl,rfl,rfl,Aa⟩:=hrel;have HI:=Hd Aa;clear Aa HS hn;by_cases hp:0<k
  ·
   by_cases ho:k%2=1
   ·
    have hb:((k:Int)%2==1)=true:=(by simp;omega);have HO:=Hd ho;clear ho;obtain⟨m0,I⟩:=M.mul_bd o0 o1 a0 a1;obtain⟨s0,s1⟩:=M.mul_bd a0 a1 a0 a1;(go_wp2_with fail);refine(bU ov av _ o0 o1 a0 a1).mono ?_;rintro e w' ⟨rfl,rfl⟩;(go_wp2_with fail);refine(bU av av _ a0 a1 a0 a1).mono ?_;rintro e w' ⟨rfl,rfl⟩;go_wp2
    go_round
    case rel=>exact⟨_,_,k/2,Int.emod_nonneg _ (by decide),Int.emod_lt_of_pos _ (by decide),Int.emod_nonneg _ (by decide),Int.emod_lt_of_pos _ (by decide),by omega,rfl,by go_num,rfl,M.pinv_odd HI.o HO.o⟩
    case measure=>simp[intOf];omega
   ·
    have hb:((k:Int)%2==1)=false:=(by simp;omega);have HO:H9 (k%2=0):=(by show k%2=0;omega);clear ho;obtain⟨s0,s1⟩:=M.mul_bd a0 a1 a0 a1;(go_wp2_with fail);refine(bU av av _ a0 a1 a0 a1).mono ?_;rintro e w' ⟨rfl,rfl⟩;go_wp2
    go_round
    case rel=>exact⟨_,_,k/2,Int.emod_nonneg _ (by decide),Int.emod_lt_of_pos _ (by decide),o0,o1,by omega,rfl,by go_num,rfl,M.pinv_even HI.o HO.o⟩
    case measure=>simp[intOf];omega
  ·
   have hz:k=0:=(by omega);subst hz;go_wp2;go_ret;exact⟨bP (M.pinv_end HI.o o0 o1),rfl⟩
theorem dy(x:Int)(n:Nat)(w:World)(x0:0≤x)(x1:x<65537)(hn:(n:Int)≤9223372036854775807):
  Rq 165 #[.int .i64 x,.int .i64 n] w (.int .i64 (M.pw x n)):=by
 have HS:=Hd (M.pinv_start x n);have Ba:=(M.el_iff x).2 ⟨x0,x1⟩;go_enter func165,ntmps165;(go_wp2_with fail);refine(bN x _).mono ?_;rintro e w' ⟨rfl,rfl⟩;go_wp2
 go_loop [0,1,5] (fun a m out=>∃(av ov:Int) (k:Nat),0≤av∧av<65537∧0≤ov∧ov<65537∧(k:Int)≤9223372036854775807∧a=it av∧m=it k∧out=it ov∧M.PInv x n ov av k) (fun _ m _=>(intOf m).toNat)
 case atStart=>exact⟨x,1,n,x0,x1,by omega,by omega,hn,rfl,rfl,rfl,HS.o⟩
 case round=>
  obtain⟨av,ov,k,a0,a1,o0,o1,hk,rfl,rfl,rfl,Aa⟩:=hrel;have HI:=Hd Aa;clear Aa HS hn;by_cases hp:0<k
  ·
   by_cases ho:k%2=1
   ·
    have hb:((k:Int)%2==1)=true:=(by simp;omega);have HO:=Hd ho;clear ho;obtain⟨m0,I⟩:=M.mul_bd o0 o1 a0 a1;obtain⟨s0,s1⟩:=M.mul_bd a0 a1 a0 a1;go_wp2
    go_round
    case rel=>exact⟨_,_,k/2,Int.emod_nonneg _ (by decide),Int.emod_lt_of_pos _ (by decide),Int.emod_nonneg _ (by decide),Int.emod_lt_of_pos _ (by decide),by omega,rfl,by go_num,rfl,M.pinv_odd HI.o HO.o⟩
    case measure=>simp[intOf];omega
   ·
    have hb:((k:Int)%2==1)=false:=(by simp;omega);have HO:H9 (k%2=0):=(by show k%2=0;omega);clear ho;obtain⟨s0,s1⟩:=M.mul_bd a0 a1 a0 a1;go_wp2
    go_round
    case rel=>exact⟨_,_,k/2,Int.emod_nonneg _ (by decide),Int.emod_lt_of_pos _ (by decide),o0,o1,by omega,rfl,by go_num,rfl,M.pinv_even HI.o HO.o⟩
    case measure=>simp[intOf];omega
  ·
   have hz:k=0:=(by omega);subst hz;go_wp2;go_ret;exact⟨bP (M.pinv_end HI.o o0 o1),rfl⟩
theorem fW(a:Int)(w:World)(a0:0≤a)(a1:a<65537):
  Rq 137 #[.int .i64 a] w (.int .i64 (M.pw a 65535)):=by
 go_enter func137,ntmps137;(go_wp2_with fail);refine(gB a 65535 _ a0 a1 (by omega)).mono ?_;rintro e w' ⟨rfl,rfl⟩;go_wp2;go_ret;exact⟨rfl,rfl⟩
theorem dU(a:Int)(w:World):
  Rq 214 #[.int .i64 a] w (.int .i64 (M.inv a)):=by
 cases ha:M.el a with
 | true=>
  obtain⟨a0,a1⟩:=(M.el_iff a).1 ha;by_cases h0:a=0
  ·
   subst h0;have E:=Hd M.inv_0;go_enter func214,ntmps214;(go_wp2_with fail);refine(bN 0 _).mono ?_;rintro e w' ⟨rfl,rfl⟩;go_wp2;go_ret;exact⟨bP E.o.symm,rfl⟩
  ·
   have E:=Hd (M.inv_in ha h0);have hb:(a==0)=false:=(by simp[h0]);clear h0;go_enter func214,ntmps214;(go_wp2_with fail);refine(bN a _).mono ?_;rintro e w' ⟨rfl,rfl⟩;(go_wp2_with fail);refine(dy a 65535 _ a0 a1 (by omega)).mono ?_;rintro e w' ⟨rfl,rfl⟩;go_wp2;go_ret;exact⟨bP E.o.symm,rfl⟩
 | false=>
  have E:=Hd (M.inv_l ha);go_enter func214,ntmps214;(go_wp2_with fail);refine(bN a _).mono ?_;rintro e w' ⟨rfl,rfl⟩;go_wp2;go_ret;exact⟨bP E.o.symm,rfl⟩
theorem lE(n:Int)(w:World):
  Rq 164 #[.int .i64 n,.int .i64 65536] w (.bool (M.two n)):=by
 have HS:=Hd (M.tinv_start n);go_enter func164,ntmps164;go_wp2
 go_loop [5] (fun k=>∃p:Int,1≤p∧p≤131072∧k=it p∧M.TwoInv n p) (fun k=>(131073-intOf k).toNat)
 case atStart=>exact⟨1,by omega,by omega,rfl,HS.o⟩
 case round=>
  obtain⟨p,p0,p1,rfl,Aa⟩:=hrel;have HI:=Hd Aa;clear Aa HS;by_cases hp:p≤65536
  ·
   by_cases he:p=n
   ·
    have E:=Hd (M.tinv_hit HI.o hp he);have hb:(p==n)=true:=(by simp[he]);clear he HI;go_wp2;go_ret;exact⟨aD E.o.symm,rfl⟩
   ·
    have E:=Hd (M.tinv_step HI.o hp he);have hb:(p==n)=false:=(by simp[he]);clear he HI;go_wp2
    go_round
    case rel=>exact⟨2*p,by omega,by omega,rfl,E.o⟩
    case measure=>simp[intOf];omega
  ·
   have E:=Hd (M.tinv_end HI.o (by omega));clear HI;go_wp2;go_ret;exact⟨aD E.o.symm,rfl⟩
theorem sN{n:Int}(h:1≤n):0≤65536/n∧65536/n≤65536:=by
 refine⟨Int.ediv_nonneg (by omega) (by omega),?_⟩;exact Int.ediv_le_self n (by omega)
theorem dZ(n:Int)(w:World):
  Rq 166 #[.int .i64 n] w (.int .i64 (M.root n)):=by
 cases ht:M.two n with
 | true=>
  have E:=Hd (M.root_in ht);obtain⟨n0,n1⟩:=M.two_bd ht;obtain⟨d0,d1⟩:=sN n0;obtain⟨m,hm⟩:=Int.eq_ofNat_of_zero_le d0;have HM:=Hd hm;clear hm;go_enter func166,ntmps166;(go_wp2_with fail);refine(lE n _).mono ?_;rintro e w' ⟨rfl,rfl⟩;(go_wp2_with fail);rw[HM.o];refine(dy 3 m _ (by omega) (by omega) (by have:=HM.o;omega)).mono ?_;rintro e w' ⟨rfl,rfl⟩;go_wp2;go_ret;exact⟨bP (by rw[E.o,HM.o,u']),rfl⟩
 | false=>
  have E:=Hd (M.root_out ht);go_enter func166,ntmps166;(go_wp2_with fail);refine(lE n _).mono ?_;rintro e w' ⟨rfl,rfl⟩;go_wp2;go_ret;exact⟨bP E.o.symm,rfl⟩
theorem mu(n:Int)(w:World):
  Rq 246 #[.int .i64 n] w (.int .i64 (M.root n)):=by
 by_cases n0:1≤n
 ·
  cases ht:M.two n with
  | true=>
   have E:=Hd (M.root_in ht);have hb:(65536%n != 0)=false:=(by simp[(M.two_div n0).1 ht]);obtain⟨d0,d1⟩:=sN n0;obtain⟨m,hm⟩:=Int.eq_ofNat_of_zero_le d0;have HM:=Hd hm;clear hm ht;go_enter func246,ntmps246;(go_wp2_with fail);rw[HM.o];refine(gB 3 m _ (by omega) (by omega) (by have:=HM.o;omega)).mono ?_;rintro e w' ⟨rfl,rfl⟩;go_wp2;go_ret;exact⟨bP (by rw[E.o,HM.o,u']),rfl⟩
  | false=>
   have E:=Hd (M.root_out ht)
   have hb:(65536%n != 0)=true:=by
    rw[bne_iff_ne];intro h;rw[(M.two_div n0).2 h]at ht;cases ht
   clear ht;go_enter func246,ntmps246;go_wp2;go_ret;exact⟨bP E.o.symm,rfl⟩
 ·
  have ht:M.two n=false:=by
   cases h:M.two n with
   | false=>rfl
   | true=>exact absurd (M.two_bd h).1 n0
  have E:=Hd (M.root_out ht);clear ht;go_enter func246,ntmps246;go_wp2;go_ret;exact⟨bP E.o.symm,rfl⟩
namespace M
def sm:Nat→(Nat→Int)→Int
 | 0,_=>0
 | n+1,f=>sm n f+f n
theorem sm_cg:∀{n:Nat},(∀k,k<n→cg (f k) (g k))→cg (sm n f) (sm n g):=by
 intro n
 induction n with
 | zero=>intro _;exact cg.refl _
 | succ n ih=>intro h;exact(ih fun k hk=>h k (by omega)).add (h n (by omega))
theorem sm_add(f g:Nat→Int)(n:Nat):sm n (fun k=>f k+g k)=sm n f+sm n g:=by
 induction n with
 | zero=>rfl
 | succ n ih=>simp only[sm];rw[ih];omega
theorem sm_mul(c:Int)(f:Nat→Int)(n:Nat):sm n (fun k=>c*f k)=c*sm n f:=by
 induction n with
 | zero=>simp[sm]
 | succ n ih=>simp only[sm];rw[ih,Int.mul_add]
theorem sm_zero(n:Nat):sm n (fun _=>0)=0:=by
 induction n with
 | zero=>rfl
 | succ n ih=>simp only[sm];rw[ih];rfl
theorem sm_swap(f:Nat→Nat→Int)(m n:Nat):sm m (fun k=>sm n (fun i=>f k i))=sm n (fun i=>sm m (fun k=>f k i)):=by
 induction m with
 | zero=>simp only[sm];rw[sm_zero]
 | succ m ih=>simp only[sm];rw[ih,sm_add]
theorem sm_one(n:Nat):sm n (fun _=>1)=(n:Int):=by
 induction n with
 | zero=>rfl
 | succ n ih=>simp only[sm];rw[ih];omega
theorem sm_pick(v:Int)(j:Nat):∀n,j<n→sm n (fun i=>if i=j then v else 0)=v:=by
 have h0:∀n,n≤j→sm n (fun i=>if i=j then v else 0)=0:=by
  intro n
  induction n with
  | zero=>intro _;rfl
  | succ n ih=>intro h;simp only[sm];rw[ih (by omega),if_neg (by omega)];rfl
 intro n
 induction n with
 | zero=>intro h;omega
 | succ n ih=>
  intro h;simp only[sm];by_cases e:n=j
  ·subst e;rw[h0 n (m3 _),if_pos rfl];omega
  ·rw[ih (by omega),if_neg e];omega
theorem pv_sm(zs:List Int)(x:Int):∀n,n≤zs.length→pv (zs.take n) x=sm n (fun k=>zs.getD k 0*x ^ k):=by
 intro n
 induction n with
 | zero=>intro _;rfl
 | succ n ih=>intro h;rw[pv_take _ _ (by omega),ih (by omega)];rfl
theorem pv_sm'(zs:List Int)(x:Int):pv zs x=sm zs.length (fun k=>zs.getD k 0*x ^ k):=by
 rw[←pv_sm zs x _ (m3 _),List.take_length]
theorem geo(r:Int)(n:Nat):(r-1)*sm n (fun k=>r ^ k)=r ^ n-1:=by
 induction n with
 | zero=>simp[sm]
 | succ n ih=>simp only[sm];rw[Int.mul_add,ih,Int.pow_succ];generalize r ^ n=y;grind
theorem cg_inv{a:Int}(h:¬ cg a 0):cg (a*pw a 65535) 1:=by
 have h0:0<a%65537:=(by unfold cg at h;omega);have h1:a%65537<65537:=(by omega);have hf:=fermat h0 h1
 have e:cg (a*pw a 65535) ((a%65537) ^ 65536):=by
  have hk:∀m:Nat,cg (a*pw a m) ((a%65537) ^ (m+1)):=by
   intro m;rw[Int.pow_succ,Int.mul_comm ((a%65537) ^ m)];exact(cg_mod a).symm.mul ((cg_pw a m).trans ((cg_mod a).symm.pow m))
  exact hk 65535
 refine e.trans ?_;have:=cg_pw (a%65537) 65536;rw[hf]at this;exact this.symm
theorem cg_zero{a:Int}(h:cg (a*b) 0)(ha:¬ cg a 0):cg b 0:=by
 have h1:=cg_inv ha;have h2:=(cg.refl (pw a 65535)).mul h;rw[Int.mul_zero]at h2;have h3:=h1.mul (cg.refl b);rw[Int.one_mul]at h3;refine h3.symm.trans (cg.trans (cg_of_eq ?_) h2)
 grind
theorem cg_sub0{a:Int}(h:cg (a-b) 0):cg a b:=by unfold cg at *;omega
theorem cg_0sub{a:Int}(h:cg a b):cg (a-b) 0:=by unfold cg at *;omega
theorem geo0(h:cg (r ^ n) 1)(h1:¬ cg r 1):cg (sm n (fun k=>r ^ k)) 0:=by
 refine cg_zero (a:=r-1) ?_ (fun e=>h1 (cg_sub0 e));rw[geo];exact cg_0sub h
theorem odd_neg(k:Nat):(-1:Int) ^ (2*k+1)=-1:=by
 induction k with
 | zero=>rfl
 | succ k ih=>rw[show 2*(k+1)+1=2*k+1+1+1 by omega,Int.pow_succ,Int.pow_succ,ih];rfl
theorem order{w:Int}:∀{i d:Nat},cg (w ^ (2 ^ i)) (-1)→cg (w ^ d) 1→2 ^ (i+1)∣d:=by
 intro i
 induction i generalizing w with
 | zero=>
  intro d h h1;rw[Nat.pow_zero,Int.pow_succ,Int.pow_zero,Int.one_mul]at h
  rcases Nat.mod_two_eq_zero_or_one d with e | e
  ·exact Nat.dvd_of_mod_eq_zero (by simpa using e)
  ·
   exfalso
   have h2:=(h.pow d).symm.trans h1;rw[show d=2*(d/2)+1 by omega,odd_neg]at h2;unfold cg at h2;omega
 | succ i ih=>
  intro d h h1
  rcases Nat.mod_two_eq_zero_or_one d with e | e
  ·
   obtain⟨c,rfl⟩:=Nat.dvd_of_mod_eq_zero e;have h3:cg ((w ^ 2) ^ (2 ^ i)) (-1):=(by rw[←Int.pow_mul,Nat.mul_comm,←Nat.pow_succ];exact h);have h4:cg ((w ^ 2) ^ c) 1:=(by rw[←Int.pow_mul];exact h1);obtain⟨q,rfl⟩:=ih h3 h4;exact⟨q,by rw[Nat.pow_succ 2 (i+1)];grind⟩
  ·
   exfalso
   have h2:=h.pow d;rw[show((w ^ (2 ^ (i+1))) ^ d)=(w ^ d) ^ (2 ^ (i+1)) by rw[←Int.pow_mul,←Int.pow_mul,Nat.mul_comm]]at h2;have h3:=(h1.pow (2 ^ (i+1))).symm.trans h2;rw[Int.one_pow,show d=2*(d/2)+1 by omega,odd_neg]at h3;unfold cg at h3;omega
theorem pow_ne{a:Int}(h:¬ cg a 0)(n:Nat):¬ cg (a ^ n) 0:=by
 induction n with
 | zero=>rw[Int.pow_zero];unfold cg;omega
 | succ n ih=>rw[Int.pow_succ,Int.mul_comm];exact fun e=>ih (cg_zero e h)
theorem pow_inv{w:Int}(h:cg (w*wi) 1)(n:Nat):cg (w ^ n*wi ^ n) 1:=by
 rw[←Int.mul_pow];have:=h.pow n;rw[Int.one_pow]at this;exact this
theorem interp{l out:List Int}{si w ni:Int}(hl:l.length=n)(ho:out.length=n)(hs:cg (s*si) 1)(hw:cg (w*wi) 1)(hn:cg (ni*(n:Int)) 1)(hwn:cg (w ^ n) 1)(hord:∀d,0<d→d<n→¬ cg (w ^ d) 1)(hout:∀k,k<n→cg (out.getD k 0) (ni*si ^ k*pv l (wi ^ k)))(hj:j<n):cg (pv out (s*w ^ j)) (l.getD j 0):=by
 rw[pv_sm',ho]
 have Aa:cg (sm n (fun k=>out.getD k 0*(s*w ^ j) ^ k)) (sm n (fun k=>sm n (fun i=>l.getD i 0*ni*(wi ^ i*w ^ j) ^ k))):=by
  refine sm_cg fun k hk=>?_
  have e1:sm n (fun i=>l.getD i 0*ni*(wi ^ i*w ^ j) ^ k)=ni*(w ^ j) ^ k*pv l (wi ^ k):=by
   rw[pv_sm',hl,←sm_mul]
   congr 1;funext i
   rw[Int.mul_pow,←Int.pow_mul,←Int.pow_mul,←Int.pow_mul,Nat.mul_comm k i];generalize wi ^ (i*k)=A;generalize w ^ (j*k)=B
   grind
  rw[e1,Int.mul_pow];refine((hout k hk).mul (cg.refl _)).trans ?_;have h2:=(pow_inv hs k).mul (cg.refl (ni*(w ^ j) ^ k*pv l (wi ^ k)));rw[Int.one_mul]at h2;refine cg.trans (cg_of_eq ?_) h2;generalize pv l (wi ^ k)=A;generalize(w ^ j) ^ k=B;generalize s ^ k=C;generalize si ^ k=D
  grind
 refine Aa.trans ?_;rw[sm_swap]
 have Ba:cg (sm n (fun i=>sm n (fun k=>l.getD i 0*ni*(wi ^ i*w ^ j) ^ k))) (sm n (fun i=>if i=j then l.getD j 0 else 0)):=by
  refine sm_cg fun i hi=>?_;rw[sm_mul];by_cases e:i=j
  ·
   subst e;rw[if_pos rfl];have h1:cg (wi ^ i*w ^ i) 1:=by rw[Int.mul_comm];exact pow_inv hw i
   have h2:cg (sm n (fun k=>(wi ^ i*w ^ i) ^ k)) (n:Int):=by
    rw[←sm_one n];refine sm_cg fun k _=>?_;have:=h1.pow k;rw[Int.one_pow]at this;exact this
   refine((cg.refl _).mul h2).trans ?_;have h3:=(cg.refl (l.getD i 0)).mul hn;rw[Int.mul_one,←Int.mul_assoc]at h3;exact h3
  ·
   rw[if_neg e]
   have Ca:cg (wi ^ n) 1:=by
    have h1:=pow_inv hw n;have h2:=hwn.mul (cg.refl (wi ^ n));rw[Int.one_mul]at h2;exact h2.symm.trans h1
   have hr:cg ((wi ^ i*w ^ j) ^ n) 1:=by
    rw[Int.mul_pow,←Int.pow_mul,←Int.pow_mul,Nat.mul_comm i n,Nat.mul_comm j n,Int.pow_mul,Int.pow_mul];have h1:=(Ca.pow i).mul (hwn.pow j);rw[Int.one_pow,Int.one_pow]at h1;exact h1
   have Da:¬ cg (wi ^ i*w ^ j) 1:=by
    rcases Nat.lt_or_ge i j with h | h
    ·
     obtain⟨d,rfl⟩:∃d,j=i+d:=⟨j-i,by omega⟩;intro h1;apply hord d (by omega) (by omega);rw[Int.pow_add,←Int.mul_assoc,Int.mul_comm (wi ^ i)]at h1;have h2:=(pow_inv hw i).mul (cg.refl (w ^ d));rw[Int.one_mul]at h2;exact h2.symm.trans h1
    ·
     obtain⟨d,rfl⟩:∃d,i=j+d:=⟨i-j,by omega⟩;intro h1;apply hord d (by omega) (by omega);have h2:=(pow_inv hw j).mul (cg.refl (wi ^ d));rw[Int.one_mul]at h2
     have h3:cg (wi ^ d) 1:=by
      refine h2.symm.trans (cg.trans (cg_of_eq ?_) h1);rw[Int.pow_add];generalize wi ^ j=A;generalize wi ^ d=B;generalize w ^ j=C
      grind
     have h4:=(cg.refl (w ^ d)).mul h3;rw[Int.mul_one]at h4;exact h4.symm.trans (pow_inv hw d)
   have h5:=(cg.refl (l.getD i 0*ni)).mul (geo0 hr Da);rw[Int.mul_zero]at h5;exact h5
 refine Ba.trans ?_;rw[sm_pick _ _ _ hj];exact cg.refl _
end M
namespace M
def two64(n:Int):Bool:=(List.range 7).any fun i=>n==(2:Int) ^ i
theorem two64_iff(n:Int):two64 n=true↔∃i:Nat,i≤6∧n=(2:Int) ^ i:=by
 simp only[two64,List.any_eq_true,List.mem_range,beq_iff_eq]
 constructor
 ·rintro⟨i,hi,e⟩;exact⟨i,by omega,e⟩
 ·rintro⟨i,hi,e⟩;exact⟨i,by omega,e⟩
theorem two64_two{n:Int}(h:two64 n=true):two n=true:=by
 obtain⟨i,hi,e⟩:=(two64_iff n).1 h;exact(two_iff n).2 ⟨i,by omega,e⟩
theorem two64_le(h:i≤6):(1:Int)≤2 ^ i∧(2:Int) ^ i≤64:=by
 have:i=0∨i=1∨i=2∨i=3∨i=4∨i=5∨i=6:=by omega
 rcases this with h | h | h | h | h | h | h <;> subst h <;> decide
theorem two64_bd{n:Int}(h:two64 n=true):1≤n∧n≤64:=by
 obtain⟨i,hi,rfl⟩:=(two64_iff n).1 h;exact two64_le hi
theorem two64_div{n:Int}(h0:1≤n):two64 n=true↔64%n=0:=by
 rw[two64_iff]
 constructor
 ·
  rintro⟨i,hi,rfl⟩;have:i=0∨i=1∨i=2∨i=3∨i=4∨i=5∨i=6:=by omega
  rcases this with h | h | h | h | h | h | h <;> subst h <;> decide
 ·
  intro h;obtain⟨m,rfl⟩:=Int.eq_ofNat_of_zero_le (show 0≤n by omega)
  have h':64%m=0:=by
   have:((64%m:Nat):Int)=0:=(by rw[Int.natCast_emod];exact h);omega
  obtain⟨i,hi,e⟩:=dvd_two_pow 6 m (Nat.dvd_of_mod_eq_zero h');exact⟨i,hi,by rw[e];simp⟩
def ptOk(n s:Int):Bool:=two64 n&&(el s&&(s != 0))
theorem ptOk_parts{n:Int}(h:ptOk n s=true):two64 n=true∧el s=true∧s≠0:=by
 unfold ptOk at h;simpa using h
theorem ptOk_mk{n:Int}(h:two64 n=true)(h1:el s=true)(h2:s≠0):ptOk n s=true:=by simp[ptOk,h,h1,h2]
theorem two_nat(h:two (n:Int)=true):∃i,i≤16∧n=2 ^ i:=by
 obtain⟨i,hi,e⟩:=(two_iff _).1 h;refine⟨i,hi,?_⟩;have:((2 ^ i:Nat):Int)=(2:Int) ^ i:=(by simp);omega
theorem root_n(h:two (n:Int)=true):cg (root n ^ n) 1:=by
 have h1:=root_pow h;rw[pow_in (root_el h) (by omega),u']at h1;have h2:=cg_pw (root n) n;rw[h1]at h2;exact h2.symm
theorem root_h(ht:two (n:Int)=true)(e:n=2*h):cg (root n ^ h) (-1):=by
 have h1:=root_half ht (by omega);have e2:((n:Int)/2).toNat=h:=(by omega);rw[pow_in (root_el ht) (by omega),e2]at h1;have h2:=cg_pw (root n) h;rw[h1]at h2;exact h2.symm.trans (by unfold cg;omega)
theorem neg_pow(k:Nat):cg ((-1:Int) ^ (2*k+1)) (-1):=cg_of_eq (odd_neg k)
theorem rinv_h(ht:two (n:Int)=true)(e:n=2*h):cg (pw (root n) 65535 ^ h) (-1):=by
 have h1:=(cg_pw (root n) 65535).pow h
 have Aa:∀k:Nat,cg ((root n ^ (2*k+1)) ^ h) (-1):=by
  intro k;rw[←Int.pow_mul,Nat.mul_comm,Int.pow_mul];exact((root_h ht e).pow (2*k+1)).trans (neg_pow k)
 exact h1.trans (Aa 32767)
theorem root_ord(h:two (n:Int)=true)(h0:0<d)(h1:d<n):¬ cg (root n ^ d) 1:=by
 intro hc;obtain⟨i,hi,e⟩:=two_nat h
 cases i with
 | zero=>rw[Nat.pow_zero]at e;omega
 | succ i=>
  have e2:n=2*2 ^ i:=(by rw[e,Nat.pow_succ,Nat.mul_comm]);have hd:=order (root_h h e2) hc;rw[←e]at hd;have:=Nat.le_of_dvd h0 hd;omega
end M
def M.gp(a q:Int)(k:Nat):List Int:=M.tab k (fun i=>a*q ^ i%65537)
theorem sz(a q:Int)(k:Nat):M.allEl (M.gp a q k)=true:=M.all_tab fun i _=>(M.el_iff _).2 ⟨by omega,by omega⟩
theorem lq(a q:Int)(k:Nat):M.gp a q k++[a*q ^ k%65537]=M.gp a q (k+1):=dx k _
theorem M.gp_len(a q:Int)(k:Nat):(M.gp a q k).length=k:=M.tab_len _ _
theorem ls(a q:Int)(k:Nat):a*q ^ k%65537*q%65537=a*q ^ (k+1)%65537:=by
 rw[M.mm,Int.mul_assoc,Int.pow_succ]
theorem lu{a:Int}(a0:0≤a)(a1:a<65537)(q:Int):a=a*q ^ 0%65537:=by
 rw[Int.pow_zero,Int.mul_one,Int.emod_eq_of_lt a0 a1]
def tP:Value→Nat
 | .slice _ n _=>n
 | _=>0
theorem eB(a q:Int)(K:Nat)(w:World)(a0:0≤a)(a1:a<65537)(q0:0≤q)(q1:q<65537)(hK:K≤1048576):
  Calls prog 251 #[.int .i64 a,.int .i64 q,.int .i64 K] w fun e w'=>∃a' c',e=.returned (.slice a' K c')∧aC 182 w' w.heap.size a' K c' (M.gp a q K)∧m1 w w':=by
 obtain⟨i0,hi,Ca,Da,Ea⟩:=info_parts dv;have HI:H9 (prog.info? 182=some i0∧i0.zero=some (Value.int .i64 0)∧i0.size=1∧i0.bytes=8):=⟨hi,Ca,Da,Ea⟩;have La:=Hd (lu a0 a1 q);go_enter func251,ntmps251;(go_wp2_with(at_make;refine wpList_make_own _ rfl _ _ 125 rfl w.heap.size 182 i0 (it 0) 1 underlying125 hi Ca Da .i64 .i64 _ K rfl rfl rfl (by rw[Ea];omega) (by unfold maxLen;omega) (m3 _) ?_));intro w1 Aa hg;have HO:=Hd Aa;have HB:=Hd (bt hg);clear Aa hg hi Ca Da Ea;go_wp2
 go_loopw [7,8] (fun s v wr=>∃(k:Nat) (a':Option Addr) (Ba:Nat),k≤K∧s=.slice a' k Ba∧v=it (a*q ^ k%65537)∧aC 182 wr w.heap.size a' k Ba (M.gp a q k)∧m1 w wr) (fun s _ _=>K-tP s)
 case atStart=>exact⟨0,_,_,by omega,rfl,by rw[←La.o],HO.o,HB.o⟩
 case round=>
  obtain⟨k,a',Ba,hk,rfl,rfl,Ha,Fa⟩:=hrel;have Ga:=Hd Ha;have Ia:=Hd Fa;have Na:=Fa.size;clear Ha Fa HO HB;have HS:=Hd (lq a q k);have HT:=Hd (ls a q k);by_cases Sa:k<K
  ·
   have hI:(k:Int)<(K:Int):=(by omega);have y0:0≤a*q ^ k%65537:=(by omega);have y1:a*q ^ k%65537<65537:=(by omega);generalize hy:a*q ^ k%65537=y at HS HT y0 y1;clear hy;(go_wp2_with(at_builtin;refine wpList_append_own _ rfl _ _ 125 rfl w.heap.size 182 i0 (it 0) 1 8 underlying125 HI.o.1 HI.o.2.1 HI.o.2.2.1 HI.o.2.2.2 rfl (by decide) _ k ((M.gp a q k).map (Value.int .i64)) rfl (vg Ga.o _) ⟨wr.heap.size,0,none⟩ 1 1 [it y] rfl rfl (bB wr _ _) (bZ _) (by unfold maxLen;omega) (by omega) (by simp;omega) ?_));intro v' w1 Aa Ja _;have hown':w1.ownsRow w.heap.size 182 1 v' (k+1) ((M.gp a q (k+1)).map (Value.int .i64)):=(by rw[←HS.o,uX];exact Aa);obtain⟨a2,Oa,rfl,Ka⟩:=aC.form hown';have Pa:=Hd Ka;have Qa:=Hd (Ia.o.grown ((uK wr _ _).trans Ja) Na Ga.o.row);clear Aa hown' Ja Ka;(go_wp2_with fail);refine(bU y q _ y0 y1 q0 q1).mono ?_;rintro e w' ⟨rfl,rfl⟩;go_wp2;go_roundw
   case rel=>exact⟨k+1,a2,Oa,by omega,rfl,by rw[HT.o],Pa.o,Qa.o⟩
   case measure=>simp[tP];omega
  ·
   have Ra:k=K:=(by omega);subst Ra;go_wp2;go_ret;exact⟨a',Ba,rfl,Ga.o,Ia.o⟩
theorem eQ(n s:Int)(w:World)(h:M.ptOk n s=true):
  Rt 177 #[.int .i64 n,.int .i64 s] w (.tuple #[.agg #[.int .i64 n,.int .i64 s,.int .i64 (M.root n)],.bool true]):=by
 obtain⟨h1,h2,h3⟩:=M.ptOk_parts h;obtain⟨s0,s1⟩:=(M.el_iff s).1 h2;obtain⟨n0,n1⟩:=M.two64_bd h1;have Aa:(s==0)=false:=(by simp[h3]);have Ba:(64%n != 0)=false:=(by simp[(M.two64_div n0).1 h1]);have Ca:¬ n<1:=(by omega);clear h h1 h2 h3;go_enter func177,ntmps177;go_wp2_with(first | (go_at_call 245;refine(dk s _ s0 s1).mono ?_;rintro e w' ⟨rfl,rfl⟩) | (go_at_call 246;refine(mu n _).mono ?_;rintro e w' ⟨rfl,rfl⟩))
 refine m7 (v:=.tuple #[.agg #[it n,it s,it (M.root n)],.bool true]) (by simp[results,results177,go_sem]) rfl ⟨rfl,?_⟩;exact(m5 _ _).alloc (m3 _) _
theorem mI(n s:Int)(w:World)(h:M.ptOk n s=false):
  Rt 177 #[.int .i64 n,.int .i64 s] w (.tuple #[.agg #[.int .i64 0,.int .i64 0,.int .i64 0],.bool false]):=by
 cases he:M.el s with
 | false=>
  have HX:=Hd ((M.el_not s).1 he);clear h he;go_enter func177,ntmps177;(go_wp2_with(go_at_call 245;refine(dn s _ HX.o).mono ?_;rintro e w' ⟨rfl,rfl⟩));refine m7 (v:=.tuple #[.agg #[it 0,it 0,it 0],.bool false]) (by simp[results,results177,go_sem]) rfl ⟨rfl,?_⟩;exact(m5 _ _).alloc (m3 _) _
 | true=>
  obtain⟨s0,s1⟩:=(M.el_iff s).1 he;by_cases hs:s=0;have Aa:(s==0)=true:=by simp[hs]
  rotate_left
  have Aa:(s==0)=false:=(by simp[hs]);by_cases hn:n<1
  rotate_left
  have Ba:(64%n != 0)=true:=by
   rw[bne_iff_ne];intro e;rw[M.ptOk_mk ((M.two64_div (by omega)).2 e) he hs]at h;cases h
  rotate_left
  all_goals
   clear h he hs;go_enter func177,ntmps177;(go_wp2_with(go_at_call 245;refine(dk s _ s0 s1).mono ?_;rintro e w' ⟨rfl,rfl⟩));refine m7 (v:=.tuple #[.agg #[it 0,it 0,it 0],.bool false]) (by simp[results,results177,go_sem]) rfl ⟨rfl,?_⟩;exact(m5 _ _).alloc (m3 _) _
theorem iI(N:Nat)(s:Int)(w:World)(h:M.ptOk N s=true):
  Calls prog 168 #[.int .i64 N,.int .i64 s] w fun e w'=>∃a' c',e=.returned (.slice a' N c')∧aC 2 w' w.heap.size a' N c' (M.gp s (M.root N) N)∧m1 w w':=by
 obtain⟨i0,hi,Da,Ea,Fa⟩:=info_parts bJ;have HI:H9 (prog.info? 2=some i0∧i0.zero=some (Value.int .i64 0)∧i0.size=1∧i0.bytes=8):=⟨hi,Da,Ea,Fa⟩;obtain⟨h1,h2,h3⟩:=M.ptOk_parts h;obtain⟨s0,s1⟩:=(M.el_iff s).1 h2;obtain⟨n0,n1⟩:=M.two64_bd h1;obtain⟨q0,q1⟩:=(M.el_iff _).1 (M.root_el (M.two64_two h1));have La:H9 (s=s*M.root N ^ 0%65537):=lu s0 s1 _;clear h h1 h2 h3 hi Da Ea Fa;go_enter func168,ntmps168;(go_wp2_with fail);refine(dZ N _).mono ?_;rintro e w' ⟨rfl,rfl⟩;generalize hq:M.root N=q at *;have HQ:=Hd hq;clear hq;go_wp2
 go_loopw [5,7,8] (fun o v i wr=>∃(k:Nat) (a':Option Addr) (Aa:Nat),k≤N∧i=it k∧o=.slice a' k Aa∧v=it (s*q ^ k%65537)∧aC 2 wr w.heap.size a' k Aa (M.gp s q k)∧m1 w wr) (fun _ _ i _=>N-(intOf i).toNat)
 case atStart=>exact⟨0,_,_,by omega,rfl,rfl,by rw[←La.o],World.ownsRow_made w #[] 0 (m3 _) (by unfold maxLen;omega) rfl,(m5 _ _).alloc (m3 _) _⟩
 case round=>
  obtain⟨k,a',Aa,hk,rfl,rfl,rfl,Ga,Ba⟩:=hrel;have Ca:=Hd Ga;have Ha:=Hd Ba;have Na:=Ba.size;clear Ga Ba;have HS:=Hd (lq s q k);have HT:=Hd (ls s q k);by_cases Sa:k<N
  ·
   have hI:(k:Int)<(N:Int):=(by omega);have y0:0≤s*q ^ k%65537:=(by omega);have y1:s*q ^ k%65537<65537:=(by omega);generalize hy:s*q ^ k%65537=y at HS HT y0 y1;obtain⟨m0,I⟩:=M.mul_bd y0 y1 q0 q1;clear hy;(go_wp2_with(at_builtin;refine wpList_append_own _ rfl _ _ 24 rfl w.heap.size 2 i0 (it 0) 1 8 underlying24 HI.o.1 HI.o.2.1 HI.o.2.2.1 HI.o.2.2.2 rfl (by decide) _ k ((M.gp s q k).map (Value.int .i64)) rfl (vg Ca.o _) ⟨wr.heap.size,0,none⟩ 1 1 [it y] rfl rfl (bB wr _ _) (bZ _) (by unfold maxLen;omega) (by omega) (by simp;omega) ?_));intro v' w1 Ia Ja _;have hown':w1.ownsRow w.heap.size 2 1 v' (k+1) ((M.gp s q (k+1)).map (Value.int .i64)):=(by rw[←HS.o,uX];exact Ia);obtain⟨a2,Oa,rfl,Ka⟩:=aC.form hown';have Pa:=Hd Ka;have Qa:=Hd (Ha.o.grown ((uK wr _ _).trans Ja) Na Ca.o.row);clear Ia hown' Ja Ka;go_wp2;go_roundw
   case rel=>exact⟨k+1,a2,Oa,by omega,by go_num,rfl,by rw[HT.o],Pa.o,Qa.o⟩
   case measure=>simp[intOf];omega
  ·
   have Ra:k=N:=(by omega);subst Ra;go_wp2;go_ret;exact⟨a',Aa,rfl,by rw[HQ.o];exact Ca.o,Ha.o⟩
theorem gO(N:Nat)(s q:Int)(w:World)(s0:0≤s)(s1:s<65537)(q0:0≤q)(q1:q<65537)(hN:N≤1048576):
  Calls prog 253 #[.agg #[.int .i64 N,.int .i64 s,.int .i64 q]] w fun e w'=>∃a' c',e=.returned (.slice a' N c')∧aC 182 w' w.heap.size a' N c' (M.gp s q N)∧m1 w w':=by
 go_enter func253,ntmps253;(go_wp2_with fail);refine(eB s q N _ s0 s1 q0 q1 hN).mono ?_;rintro e w1 ⟨a1,c1,rfl,Aa,Ba⟩;have Ca:H9 (aC 182 w1 w.heap.size a1 N c1 (M.gp s q N)):=Aa.mono (by simp);have Da:=Hd (((m5 _ _).alloc (m3 _) _).trans (Ba.mono (by simp)));clear Aa Ba;go_wp2;go_ret;exact⟨a1,c1,rfl,Ca.o,Da.o⟩
def jP(zs ys:List Int):List Int:=M.tab zs.length (fun i=>zs.getD i 0*ys.getD i 0%65537)
theorem kY{b:Option Addr}(w:World)(hz:aw w a n c zs)(hy:aw w b m d ys)(az:M.allEl zs=true)(ay:M.allEl ys=true)(hm:m=n)(hn:n≤1048576):
  Calls prog 252 #[.slice a n c,.slice b m d] w fun e w'=>∃a' c',e=.returned (.slice a' n c')∧aC 182 w' w.heap.size a' n c' (jP zs ys)∧m1 w w':=by
 subst hm;have HZ:=Hd hz;have HY:=Hd hy;have HA:=Hd az;have HB:=Hd ay;obtain⟨i0,hi,Da,Ea,Fa⟩:=info_parts dv;have HI:H9 (prog.info? 182=some i0∧i0.zero=some (Value.int .i64 0)∧i0.size=1∧i0.bytes=8):=⟨hi,Da,Ea,Fa⟩;clear hz hy az ay;go_enter func252,ntmps252;(go_wp2_with(at_make;refine wpList_make_own _ rfl _ _ 125 rfl w.heap.size 182 i0 (it 0) 1 underlying125 hi Da Ea .i64 .i64 _ m rfl rfl rfl (by rw[Fa];omega) (by unfold maxLen;omega) (m3 _) ?_));intro w1 Aa hg;have HO:=Hd Aa;have Ia:=Hd (bt hg);clear Aa hg hi Da Ea Fa;go_wp2
 go_loopw [5,13] (fun s i wr=>∃(k:Nat) (a':Option Addr) (Ba:Nat),k≤m∧i=it k∧s=.slice a' k Ba∧aC 182 wr w.heap.size a' k Ba (M.tab k (fun i=>zs.getD i 0*ys.getD i 0%65537))∧m1 w wr) (fun _ i _=>m-(intOf i).toNat)
 case atStart=>exact⟨0,_,_,by omega,rfl,rfl,HO.o,Ia.o⟩
 case round=>
  obtain⟨k,a',Ba,hk,rfl,rfl,Ja,Ga⟩:=hrel;have Ha:=Hd Ja;have Ca:=Hd Ga;have Sa:=Ga.size;clear Ja Ga HO Ia;by_cases Ka:k<m
  ·
   obtain⟨b1,o1,rfl,La⟩:=(HZ.o.below Ca.o).at (by omega);obtain⟨b2,o2,rfl,Na⟩:=(HY.o.below Ca.o).at (by omega);have c1:=La k Ka;have c2:=Na k Ka;have Oa:=M.el_at HA.o k;have Pa:=M.el_at HB.o k;have HS:=Hd (dx k (fun i=>zs.getD i 0*ys.getD i 0%65537));generalize zs.getD k 0=x at c1 Oa HS;generalize ys.getD k 0=y at c2 Pa HS;obtain⟨x0,x1⟩:=Oa;obtain⟨y0,y1⟩:=Pa;have hI:(k:Int)<(m:Int):=(by omega);clear La Na;(go_wp2_with fail);refine(bU x y _ x0 x1 y0 y1).mono ?_;rintro e wr ⟨rfl,rfl⟩;(go_wp2_with(at_builtin;refine wpList_append_own _ rfl _ _ 125 rfl w.heap.size 182 i0 (it 0) 1 8 underlying125 HI.o.1 HI.o.2.1 HI.o.2.2.1 HI.o.2.2.2 rfl (by decide) _ k ((M.tab k (fun i=>zs.getD i 0*ys.getD i 0%65537)).map (Value.int .i64)) rfl (vg Ha.o _) ⟨wr.heap.size,0,none⟩ 1 1 [it (x*y%65537)] rfl rfl (bB wr _ _) (bZ _) (by unfold maxLen;omega) (by omega) (by simp;omega) ?_));intro v' w1 Aa Qa _;have hown':w1.ownsRow w.heap.size 182 1 v' (k+1) ((M.tab (k+1) (fun i=>zs.getD i 0*ys.getD i 0%65537)).map (Value.int .i64)):=(by rw[←HS.o,uX];exact Aa);obtain⟨a2,Ta,rfl,Ra⟩:=aC.form hown';have Ua:=Hd Ra;have Va:=Hd (Ca.o.grown ((uK wr _ _).trans Qa) Sa Ha.o.row);clear Aa hown' Qa Ra;go_wp2;go_roundw
   case rel=>exact⟨k+1,a2,Ta,by omega,by go_num,rfl,Ua.o,Va.o⟩
   case measure=>simp[intOf];omega
  ·
   have Wa:k=m:=(by omega);subst Wa;go_wp2;go_ret;exact⟨a',Ba,rfl,by unfold jP;rw[HZ.o.len];exact Ha.o,Ca.o⟩
theorem aC.one(t:TypeId)(w:World)(x:Int):aC t (w.alloc (.cells #[Value.int .i64 x] t)) w.heap.size (some ⟨w.heap.size,0,none⟩) 1 1 [x]:=by
 refine⟨by simp,.inr ⟨w.heap.size,1,#[Value.int .i64 x],rfl,m3 _,?_,m3 _,by unfold maxLen;omega,by simp,by simp⟩⟩;unfold World.alloc;simp
def dA(X:Nat→Int)(c j:Nat):List Int:=M.tab (2*c) (fun i=>if i<j∨(c≤i∧i<c+j)then X i else 0)
theorem lX(X:Nat→Int)(c:Nat):List.replicate (2*c) 0=dA X c 0:=by
 refine M.tab_ext (by simp) fun i hi=>?_;rw[if_neg (by omega),m4,m6 (by simpa using hi)];simp
theorem lV(X:Nat→Int)(h:j<c):((dA X c j).set j (X j)).set (j+c) (X (j+c))=dA X c (j+1):=by
 unfold dA;rw[d9,d9];refine bH fun i hi=>?_;by_cases e1:i=j+c
 ·subst e1;rw[if_pos rfl,if_pos (by omega)]
 ·
  rw[if_neg e1];by_cases e2:i=j
  ·subst e2;rw[if_pos rfl,if_pos (by omega)]
  ·
   rw[if_neg e2];by_cases e3:i<j∨(c≤i∧i<c+j)
   ·rw[if_pos e3,if_pos (by omega)]
   ·rw[if_neg e3,if_neg (by omega)]
theorem nM(X:Nat→Int)(c:Nat):dA X c c=M.tab (2*c) X:=bH fun i hi=>if_pos (by omega)
def n8(w:World)(la:Option Addr)(lc:Nat)(pa:Option Addr)(pc N RL RF RP:Nat)(zs:List Int)(r:Int):Prop:=
 aw w la N lc zs∧aw w pa N pc (M.gp 1 r N)∧w.cell? ⟨RL,0,none⟩=some (.slice la N lc)∧w.cell? ⟨RF,0,none⟩=some (.func (.func 281) #[] #[.pointer (some ⟨RL,0,none⟩),.pointer (some ⟨RF,0,none⟩),.pointer (some ⟨RP,0,none⟩)])∧w.cell? ⟨RP,0,none⟩=some (.slice pa N pc)
theorem n8.below(h:n8 w la lc pa pc N RL RF RP zs r)(hb:m1 w w'):n8 w' la lc pa pc N RL RF RP zs r:=by
 obtain⟨h1,h2,h3,h4,h5⟩:=h;exact⟨h1.below hb,h2.below hb,(hb.cell (p:=⟨RL,0,none⟩) (uP w _ h3)).trans h3,(hb.cell (p:=⟨RF,0,none⟩) (uP w _ h4)).trans h4,(hb.cell (p:=⟨RP,0,none⟩) (uP w _ h5)).trans h5⟩
theorem tJ(hN:N≤1000)(az:M.allEl zs=true)(hr:∀h,N=2*h→M.cg (r ^ h) (-1))(k:Nat):
  ∀(c:Nat),c=2 ^ k→∀(f s:Nat) (w:World),s*c=N→f<s→n8 w la lc pa pc N RL RF RP zs r→
  Calls prog 281 #[.int .i64 f,.int .i64 s,.pointer (some ⟨RL,0,none⟩),.pointer (some ⟨RF,0,none⟩),.pointer (some ⟨RP,0,none⟩)] w fun e w'=>∃a' c',e=.returned (.slice a' c c')∧aC 182 w' w.heap.size a' c c' (M.tab c (M.fv (fun i=>zs.getD i 0) r f s c))∧m1 w w':=by
 induction k with
 | zero=>
  intro c hc f s w hs hf Ca;rw[Nat.pow_zero]at hc;subst hc;rw[Nat.mul_one]at hs;subst hs;obtain⟨h1,h2,h3,h4,h5⟩:=Ca;obtain⟨b1,o1,rfl,Da⟩:=h1.at (by omega);have c1:=Da f hf;have Ba:=M.el_at az f
  have HV:H9 ([zs.getD f 0]=M.tab 1 (M.fv (fun i=>zs.getD i 0) r f s 1)):=by
   show _=_;have:=M.fv_one (fun i=>zs.getD i 0) r f s Ba.1 Ba.2;rw[show M.tab 1 (M.fv (fun i=>zs.getD i 0) r f s 1)=[M.fv (fun i=>zs.getD i 0) r f s 1 0]from rfl,←this]
  generalize zs.getD f 0=x at c1 HV;have Ga:((s:Int)==(s:Int))=true:=(by simp);have hI:(f:Int)<(s:Int):=(by omega);clear Da h1 h2 h4 h5 Ba;go_enter func281,ntmps281;go_wp2;go_ret;refine⟨_,1,rfl,?_,(m5 _ _).alloc (m3 _) _⟩;rw[←HV.o];exact aC.one _ _ _
 | succ k ih=>
  intro c2 Ja f s w hs hf Ca;obtain⟨c,hc⟩:∃c,c=2 ^ k:=⟨_,rfl⟩;have Ka:0<c:=(by rw[hc];exact Nat.pow_pos (by omega));have e2:c2=2*c:=(by rw[Ja,hc,Nat.pow_succ,Nat.mul_comm]);subst e2;obtain⟨s2,Ha⟩:∃s2,s2=2*s:=⟨_,rfl⟩;obtain⟨f2,La⟩:∃f2,f2=f+s:=⟨_,rfl⟩;have Za:s2*c=N:=(by rw[Ha,←hs];grind);have Qb:s*c*2=N:=by rw[←hs];grind
  have Yb:s<N:=by
   have:=Nat.mul_le_mul_left s Ka;omega
  have Rb:H9 (∀j,j<c→(M.fv (fun i=>zs.getD i 0) r f s2 c j+M.fv (fun i=>zs.getD i 0) r f2 s2 c j*(1*r ^ (j*s)%65537)%65537)%65537=M.fv (fun i=>zs.getD i 0) r f s (2*c) j):=fun j _=>by
   rw[Ha,La,Int.one_mul];exact M.fv_lo _ r f s c j
  have Sb:H9 (∀j,j<c→(M.fv (fun i=>zs.getD i 0) r f s2 c j+65537-M.fv (fun i=>zs.getD i 0) r f2 s2 c j*(1*r ^ (j*s)%65537)%65537)%65537=M.fv (fun i=>zs.getD i 0) r f s (2*c) (j+c)):=fun j _=>by
   rw[Ha,La,Int.one_mul];exact M.fv_hi _ r f s c j (hr _ (by omega))
  have Na:H9 (∀(f s:Nat) (w:World),s*c=N→f<s→n8 w la lc pa pc N RL RF RP zs r→
   Calls prog 281 #[.int .i64 f,.int .i64 s,.pointer (some ⟨RL,0,none⟩),.pointer (some ⟨RF,0,none⟩),.pointer (some ⟨RP,0,none⟩)] w fun e w'=>∃a' c',e=.returned (.slice a' c c')∧aC 182 w' w.heap.size a' c c' (M.tab c (M.fv (fun i=>zs.getD i 0) r f s c))∧m1 w w'):=ih c hc
  have HE:=Hd Ca;have Ea:H9 (s2*c=N∧f<s2∧f2<s2):=⟨Za,by omega,by omega⟩
  have Tb:H9 (2*c≤N):=by
   show _≤_;have h0:1≤s:=(by omega);have:=Nat.mul_le_mul_right (2*c) h0;omega
  have Oa:H9 (∀j,j<c→j*s<N):=fun j hj=>by
   have h0:1≤s:=(by omega);have h1:=Nat.mul_le_mul_right s (show j+1≤c by omega);have h2:c*s=s*c:=Nat.mul_comm _ _;rw[Nat.add_mul]at h1;omega
  have hE:=Ca;obtain⟨h1,h2,h3,h4,h5⟩:=hE;have Ga:((s:Int)==(N:Int))=false:=(by simp;omega);have Zb:(2:Int)*(s:Int)=(s2:Int):=(by omega);have Ac:(f:Int)+(s:Int)=(f2:Int):=(by omega);have w2s':IntKind.i64.wrap (s2:Int)=(s2:Int):=(by rw[uQ];omega);have wfs':IntKind.i64.wrap (f2:Int)=(f2:Int):=(by rw[uQ];omega);clear h1 h2 hs hc Ja Ha La Qb Za ih Ca hr;have Pa:H9 (∀W,m1 w W→W.cell? ⟨RL,0,none⟩=some (.slice la N lc)∧W.cell? ⟨RF,0,none⟩=some (.func (.func 281) #[] #[.pointer (some ⟨RL,0,none⟩),.pointer (some ⟨RF,0,none⟩),.pointer (some ⟨RP,0,none⟩)])∧W.cell? ⟨RP,0,none⟩=some (.slice pa N pc)):=fun W hW=>(HE.o.below hW).2.2;have Ab:=Hd (HE.o.below (m5 _ _).drew);have Bb:H9 (m1 w w.drew):=(m5 _ _).drew;go_enter func281,ntmps281;go_wp2
  go_region_with (first
   | (go_at_call_of 281 (Value.int .i64 (f:Int));refine(Na.o f s2 _ Ea.o.1 Ea.o.2.1 Ab.o).mono ?_;rintro e w1 ⟨a1,c1,rfl,Cb,Ga⟩;have hb1':=Bb.o.trans Ga;obtain⟨g1,g2,g3⟩:=Pa.o _ hb1')
   | (go_at_call 281;refine(Na.o f2 s2 _ Ea.o.1 Ea.o.2.2 (HE.o.below hb1')).mono ?_;rintro e w3 ⟨a3,c3,rfl,Db,Qa⟩;have hb3':=hb1'.trans (Qa.mono hb1'.size);obtain⟨g4,g5,g6⟩:=Pa.o _ hb3'))
  all_goals
   have Ub:H9 (aC 182 w3 w.heap.size a1 c c1 (M.tab c (M.fv (fun i=>zs.getD i 0) r f s2 c))):=Cb.below Qa;have Vb:=Hd Db;have Ra:=Hd hb3';clear Cb Ga hb1' Db Qa hb3' g1 g2 g3 h3 h4 h5 g4 g5 g6 Na Ab Bb Ea;obtain⟨i0,hi,Eb,Fb,Gb⟩:=info_parts dv;have Ja:2*c≤1000:=(by have:=Tb.o;omega);go_wp2_with(at_make;refine wpList_make_full _ rfl _ _ 125 rfl w3.heap.size 182 i0 (.int .i64 0) 1 underlying125 hi Eb Fb .i64 .i64 _ _ (2*c) rfl rfl (by first | omega | simp) (by first | omega | simp) (by rw[Gb];omega) (by unfold maxLen;omega) (m3 _) ?_)
   intro w4 Sa hg
   have Hb:H9 (aC 182 w4 w3.heap.size (some ⟨w3.heap.size,0,none⟩) (2*c) (2*c) (dA (M.fv (fun i=>zs.getD i 0) r f s (2*c)) c 0)):=by
    show w4.ownsRow _ _ _ _ _ _;rw[ef,lX (M.fv (fun i=>zs.getD i 0) r f s (2*c))]at Sa;exact Sa
   have Ib:=Hd (bt hg);clear Sa hg hi Eb Fb Gb;go_wp2
   go_loopw [41] (fun i wr=>∃j:Nat,j≤c∧i=.int .i64 j∧aC 182 wr w3.heap.size (some ⟨w3.heap.size,0,none⟩) (2*c) (2*c) (dA (M.fv (fun i=>zs.getD i 0) r f s (2*c)) c j)∧m1 w3 wr) (fun i _=>c-(intOf i).toNat)
   case atStart=>exact⟨0,by omega,rfl,Hb.o,Ib.o⟩
   case round=>
    obtain⟨j,hj,rfl,Jb,Ta⟩:=hrel;have Ua:=Hd Jb;have Va:=Hd Ta;have Wa:=Ra.t Ta;clear Jb Ta Hb Ib;by_cases Aa:j<c
    ·
     obtain⟨b1,o1,rfl,Da⟩:=(Ub.o.sees.below Va.o).at Ka;obtain⟨b2,o2,rfl,Kb⟩:=(Vb.o.sees.below Va.o).at Ka;obtain⟨b3,o3,rfl,Lb⟩:=(HE.o.2.1.below Wa.o).at (by omega);have d1:=Da j Aa;have d2:=Kb j Aa;have d3:=Lb (j*s) (Oa.o j Aa);obtain⟨g,Nb,_,_,Xa,Ya⟩:=Ua.o.block (by omega);simp only[Option.some.injEq,Addr.mk.injEq,and_true]at Nb;subst Nb;have d4:=Xa j (by omega);have d5:=Xa (j+c) (by omega);have e4:=Ya j;have e5:=Ya (j+c);have d6:=(Pa.o _ Wa.o).2.2;rw[M.tab_get _ _ _ Aa]at d1 d2;unfold M.gp at d3;rw[M.tab_get _ _ _ (Oa.o j Aa)]at d3
     have Fa:H9 (((dA (M.fv (fun i=>zs.getD i 0) r f s (2*c)) c j).set j ((M.fv (fun i=>zs.getD i 0) r f s2 c j+M.fv (fun i=>zs.getD i 0) r f2 s2 c j*(1*r ^ (j*s)%65537)%65537)%65537)).set (j+c) ((M.fv (fun i=>zs.getD i 0) r f s2 c j+65537-M.fv (fun i=>zs.getD i 0) r f2 s2 c j*(1*r ^ (j*s)%65537)%65537)%65537)=dA (M.fv (fun i=>zs.getD i 0) r f s (2*c)) c (j+1)):=by
      show _=_;rw[Rb.o j Aa,Sb.o j Aa];exact lV _ Aa
     have Ba:=M.fv_bd (fun i=>zs.getD i 0) r f s2 c j;have Ob:=M.fv_bd (fun i=>zs.getD i 0) r f2 s2 c j;have Pb:0≤1*r ^ (j*s)%65537∧1*r ^ (j*s)%65537<65537:=(by omega);have Wb:=Oa.o j Aa;have Xb:(j:Int)*(s:Int)=((j*s:Nat):Int):=(by rw[Int.natCast_mul]);generalize M.fv (fun i=>zs.getD i 0) r f s2 c j=x at d1 Ba Fa;generalize M.fv (fun i=>zs.getD i 0) r f2 s2 c j=y at d2 Ob Fa;generalize 1*r ^ (j*s)%65537=pz at d3 Pb Fa;generalize j*s=js at d3 Wb Xb;generalize(dA (M.fv (fun i=>zs.getD i 0) r f s (2*c)) c j).getD j 0=q4 at d4;generalize(dA (M.fv (fun i=>zs.getD i 0) r f s (2*c)) c j).getD (j+c) 0=q5 at d5;obtain⟨jc,Ia⟩:∃jc,jc=j+c:=⟨_,rfl⟩;rw[←Ia]at d5 e5 Fa;have Bc:(j:Int)+(c:Int)=(jc:Int):=(by omega);have Cc:(jc:Int)<2*(c:Int):=(by omega);have Dc:jc<2*c:=(by omega);have Ec:(j:Int)<2*(c:Int):=(by omega);have Fc:j≠jc:=(by omega);have hne':jc≠j:=(by omega);have Gc:IntKind.i64.wrap (js:Int)=(js:Int):=(by rw[uQ];omega);have Hc:(js:Int)<(N:Int):=(by omega);obtain⟨x0,x1⟩:=Ba;obtain⟨y0,y1⟩:=Ob;obtain⟨p0,p1⟩:=Pb;have hI:(j:Int)<(c:Int):=(by omega);clear Da Kb Lb Xa Ya Ia;go_wp2
     go_quiet ((go_at_call 141;exact Calls.quiet_of_same (bU y pz _ y0 y1 p0 p1)))
     have t0:0≤y*pz%65537:=Int.emod_nonneg _ (by decide);have t1:y*pz%65537<65537:=Int.emod_lt_of_pos _ (by decide);generalize y*pz%65537=t at *;go_wp2_with(first | (go_at_call 269;refine(ez x t _ x0 x1 t0 t1).mono ?_;rintro e w' ⟨rfl,rfl⟩) | (go_at_call 224;refine(fj x t _ x0 x1 t0 t1).mono ?_;rintro e w' ⟨rfl,rfl⟩))
     go_roundw
     case rel=>
      refine⟨j+1,by omega,by go_num,?_,((Below.drewN' Va.o _).setCell (m3 _) _).setCell (m3 _) _⟩;rw[←Fa.o];exact((Ua.o.drewN _).set j _).set jc _
     case measure=>simp[intOf];omega
    ·
     have Ia:j=c:=(by omega);subst Ia;go_wp2;go_ret;refine⟨_,_,rfl,?_,Wa.o⟩;rw[←nM];exact Ua.o.mono Ra.o.size
theorem M.ev_pv(zs:List Int)(x:Int):M.ev zs x=M.pv zs x%65537:=by
 induction zs with
 | nil=>rfl
 | cons c r ih=>
  rw[M.ev_cons,ih];show _=(c+x*M.pv r x)%65537;have h:=M.mm (M.pv r x) x;rw[Int.mul_comm x];generalize M.pv r x%65537*x=A at *;generalize M.pv r x*x=B at *;omega
theorem M.ev_cg(zs:List Int)(x:Int):M.cg (M.ev zs x) (M.pv zs x):=by rw[M.ev_pv];exact M.cg_mod _
def kD(zs:List Int)(r:Int):List Int:=M.tab zs.length (fun j=>M.pv zs (r ^ j)%65537)
theorem sE(zs:List Int)(r:Int):M.allEl (kD zs r)=true:=M.all_tab fun i _=>(M.el_iff _).2 ⟨by omega,by omega⟩
theorem sF(zs:List Int)(r:Int):(kD zs r).length=zs.length:=M.tab_len _ _
theorem tt(zs:List Int)(r:Int)(N:Nat)(h:zs.length=N):M.tab N (M.fv (fun i=>zs.getD i 0) r 0 1 N)=kD zs r:=by
 unfold kD;rw[h];refine bH fun j _=>?_;unfold M.fv;rw[Nat.one_mul,←h,M.pv_all]
def M.evs(zs:List Int)(s q:Int)(N:Nat):List Int:=M.tab N (fun j=>M.ev zs (s*q ^ j%65537))
theorem M.evs_len(zs:List Int)(s q:Int)(N:Nat):(M.evs zs s q N).length=N:=M.tab_len _ _
theorem ry(h:M.two64 (n:Int)=true):∃k,n=2 ^ k∧n≤64∧0<n:=by
 obtain⟨i,hi,e⟩:=(M.two64_iff _).1 h;have hb:=M.two64_le hi;refine⟨i,?_,by omega,by omega⟩;have:((2 ^ i:Nat):Int)=(2:Int) ^ i:=(by simp);omega
theorem jL(r:Int)(w:World)(hz:aw w la N lc zs)(az:M.allEl zs=true)(hN:N=2 ^ k)(hN1:N≤1000)(r0:0≤r)(r1:r<65537)(hr:∀h,N=2*h→M.cg (r ^ h) (-1)):
  Calls prog 250 #[.slice la N lc,.int .i64 r] w fun e w'=>∃a' c',e=.returned (.slice a' N c')∧aC 182 w' w.heap.size a' N c' (kD zs r)∧m1 w w':=by
 have HZ:=Hd hz;have HA:=Hd az;have HN:=Hd hN;have HR:=Hd hr;have HT:=Hd (tt zs r N hz.len);clear hz az hN hr;go_enter func250,ntmps250;(go_wp2_with fail);refine(eB 1 r N _ (by omega) (by omega) r0 r1 (by omega)).mono ?_;rintro e w1 ⟨pa,pc,rfl,Ea,Aa⟩;have Ia:H9 (aC 182 w1 (w.heap.size+1) pa N pc (M.gp 1 r N)):=(by show aC _ _ _ _ _ _ _;simpa using Ea);have Ba:H9 (w.heap.size+1≤w1.heap.size):=(by show _≤_;have:=Aa.size;simpa using this);have Ca:=Hd (((m5 _ _).alloc (m3 _) _).trans (Aa.mono (by simp)));have Fa:H9 (w1.cell? ⟨w.heap.size,0,none⟩=some (.slice la N lc)):=(Aa.cell (p:=⟨w.heap.size,0,none⟩) (by simp)).trans (by rw[uF];rfl);have La:=Fa.o;clear Ea Aa;(go_wp2_with fail);refine(tJ (la:=la) (lc:=lc) (pa:=pa) (pc:=pc) (N:=N) (RL:=w.heap.size) (RF:=w1.heap.size+1) (RP:=w1.heap.size) (zs:=zs) (r:=r) hN1 HA.o HR.o k N HN.o 0 1 _ (by omega) (by omega) ?env).mono ?_
 case env=>
  have Da:m1 w1 ((w1.alloc (.cells #[Value.slice pa N pc] 125)).alloc (.cells #[Value.func (.func 281) #[] #[.pointer (some ⟨w.heap.size,0,none⟩),.pointer (some ⟨w1.heap.size+1,0,none⟩),.pointer (some ⟨w1.heap.size,0,none⟩)]] 374)):=((m5 _ _).alloc (m3 _) _).alloc (by simp) _;refine⟨HZ.o.below (Ca.o.trans (Da.mono Ca.o.size)),Ia.o.sees.below Da,(Da.cell (p:=⟨w.heap.size,0,none⟩) (by have:=Ba.o;show w.heap.size<_;omega)).trans Fa.o,?_,?_⟩ <;> simp
 rintro e w2 ⟨a2,c2,rfl,Ga,Ha⟩
 have Ja:H9 (aC 182 w2 w.heap.size a2 N c2 (kD zs r)):=by
  show aC _ _ _ _ _ _ _;rw[←HT.o];exact Ga.mono (by have:=Ba.o;simp;omega)
 have Ka:=Hd (((Ca.o.alloc Ca.o.size _).alloc (by have:=Ba.o;simp;omega) _).trans (Ha.mono (by have:=Ba.o;simp;omega)));clear Ga Ha;go_wp2;go_ret;exact⟨a2,c2,rfl,Ja.o,Ka.o⟩
def ej(zs:List Int)(s q:Int)(N k:Nat):List Int:=M.tab N (fun i=>if i<k then M.ev zs (s*q ^ i%65537)else s*q ^ i%65537)
theorem ns(zs:List Int)(s q:Int)(N:Nat):M.gp s q N=ej zs s q N 0:=bH fun _ _=>(if_neg (by omega)).symm
theorem pj(zs:List Int)(s q:Int)(N:Nat):ej zs s q N N=M.evs zs s q N:=bH fun _ hi=>if_pos hi
theorem np(zs:List Int)(s q:Int):(ej zs s q N k).set k (M.ev zs (s*q ^ k%65537))=ej zs s q N (k+1):=by
 unfold ej;rw[d9];refine bH fun i _=>?_;by_cases e:i=k
 ·subst e;rw[if_pos rfl,if_pos (by omega)]
 ·
  rw[if_neg e];by_cases e2:i<k
  ·rw[if_pos e2,if_pos (by omega)]
  ·rw[if_neg e2,if_neg (by omega)]
theorem oC(N:Nat)(s:Int)(w:World)(hz:aw w la n lc zs)(az:M.allEl zs=true)(hp:M.ptOk N s=true):
  Calls prog 129 #[.slice la n lc,.int .i64 N,.int .i64 s] w fun e w'=>∃a' c',e=.returned (.slice a' N c')∧aC 2 w' w.heap.size a' N c' (M.evs zs s (M.root N) N)∧m1 w w':=by
 have HZ:=Hd hz;have HA:=Hd az;have HP:=Hd hp;have hN:=(M.two64_bd (M.ptOk_parts hp).1).2;clear hz az hp;go_enter func129,ntmps129;(go_wp2_with fail);refine(iI N s _ HP.o).mono ?_;rintro e w1 ⟨a1,c1,rfl,Aa,Da⟩;generalize hq:M.root N=q at Aa;have HQ:=Hd hq;clear hq
 have Ea:H9 (aC 2 w1 w.heap.size a1 N c1 (ej zs s q N 0)):=by
  show aC _ _ _ _ _ _ _;rw[←ns];exact Aa
 have Fa:=Hd Da;clear Aa Da;go_wp2
 go_loopw [8] (fun i wr=>∃k:Nat,k≤N∧i=it k∧aC 2 wr w.heap.size a1 N c1 (ej zs s q N k)∧m1 w wr) (fun i _=>N-(intOf i).toNat)
 case atStart=>exact⟨0,by omega,rfl,Ea.o,Fa.o⟩
 case round=>
  obtain⟨k,hk,rfl,Ga,Ha⟩:=hrel;have Ba:=Hd Ga;have Ca:=Hd Ha;clear Ga Ha Ea Fa;by_cases Ia:k<N
  ·
   obtain⟨g,rfl,La,_,hc,hf⟩:=Ba.o.block (by omega);have d1:=hc k Ia;have e1:=hf k
   have hx:(ej zs s q N k).getD k 0=s*q ^ k%65537:=by
    unfold ej;rw[M.tab_get _ _ _ Ia,if_neg (by omega)]
   rw[hx]at d1;have Ja:H9 ((ej zs s q N k).set k (M.ev zs (s*q ^ k%65537))=ej zs s q N (k+1)):=np zs s q;have Ka:0≤s*q ^ k%65537∧s*q ^ k%65537<65537:=(by omega);have hI:(k:Int)<(N:Int):=(by omega);clear hc hf hx;generalize s*q ^ k%65537=x at d1 Ka Ja;obtain⟨x0,x1⟩:=Ka;(go_wp2_with fail);refine(ke x _ (HZ.o.below Ca.o) HA.o x0 x1).mono ?_;rintro e wr ⟨rfl,rfl⟩;go_wp2;go_roundw
   case rel=>exact⟨k+1,by omega,by go_num,by rw[←Ja.o];exact Ba.o.set k _,Ca.o.setCell La _⟩
   case measure=>simp[intOf];omega
  ·
   have Na:k=N:=(by omega);subst Na;go_wp2;go_ret;refine⟨a1,c1,rfl,?_,Ca.o⟩;rw[HQ.o,←pj];exact Ba.o
def M.frc(zs:List Int)(s:Int)(k:Nat):Int:=M.pv zs (M.pw (M.root zs.length) 65535 ^ k)%65537*(M.pw zs.length 65535*M.pw s 65535 ^ k%65537)%65537
def M.frs(zs:List Int)(s:Int):List Int:=M.trim (M.tab zs.length (M.frc zs s))
def M.frOk(zs:List Int)(s:Int):Bool:=M.ptOk zs.length s&&M.allEl zs
def jS(zs:List Int)(s:Int):List Int:=if M.frOk zs s=true then M.frs zs s else[]
theorem sw(h:M.frOk zs s=true):jS zs s=M.frs zs s:=if_pos h
theorem rH(h:M.frOk zs s=false):jS zs s=[]:=if_neg (by rw[h];decide)
theorem M.frs_len(zs:List Int)(s:Int):(M.frs zs s).length≤zs.length:=by
 have:=M.len_trim (M.tab zs.length (M.frc zs s));rw[M.tab_len]at this;exact this
theorem pB(zs:List Int)(s:Int):M.trim (jP (kD zs (M.pw (M.root zs.length) 65535)) (M.gp (M.pw zs.length 65535) (M.pw s 65535) zs.length))=M.frs zs s:=by
 unfold M.frs jP;rw[sF]
 congr 1
 refine bH fun k hk=>?_;unfold kD M.gp;rw[M.tab_get _ _ _ hk,M.tab_get _ _ _ hk];rfl
theorem nH(zs:List Int)(s:Int)(k:Nat):M.pv zs (M.pw (M.pw (M.root zs.length) 65535) k)%65537*M.pw zs.length 65535%65537*M.pw (M.pw s 65535) k%65537=M.frc zs s k:=by
 unfold M.frc
 have h1:M.cg (M.pv zs (M.pw (M.pw (M.root zs.length) 65535) k)%65537) (M.pv zs (M.pw (M.root zs.length) 65535 ^ k)%65537):=
  (M.cg_mod _).trans ((M.pv_cg (M.cg_pw _ _) zs).trans (M.cg_mod _).symm)
 have h2:=M.cg_pw (M.pw s 65535) k;generalize M.pv zs (M.pw (M.pw (M.root zs.length) 65535) k)%65537=A at *;generalize M.pv zs (M.pw (M.root zs.length) 65535 ^ k)%65537=B at *;generalize M.pw (M.pw s 65535) k=C at *;generalize M.pw s 65535 ^ k=D at *;generalize M.pw (zs.length:Int) 65535=n
 have h3:M.cg (A*n%65537*C) (B*(n*D%65537)):=by
  refine(((M.cg_mod _).trans (h1.mul (M.cg.refl n))).mul h2).trans ?_;refine(M.cg_of_eq (Int.mul_assoc B n D)).trans ?_;exact(M.cg.refl B).mul (M.cg_mod _).symm
 exact h3
theorem kq(s:Int)(w:World)(hz:aw w la N lc zs)(az:M.allEl zs=true)(hp:M.ptOk N s=true):
  Calls prog 181 #[.agg #[.int .i64 N,.int .i64 s,.int .i64 (M.root N)],.slice la N lc] w fun e w'=>∃a' m c',e=.returned (.slice a' m c')∧aC 182 w' w.heap.size a' m c' (M.frs zs s)∧m1 w w':=by
 have HZ:=Hd hz;have HA:=Hd az;obtain⟨h1,h2,h3⟩:=M.ptOk_parts hp;obtain⟨s0,s1⟩:=(M.el_iff s).1 h2;obtain⟨q0,q1⟩:=(M.el_iff _).1 (M.root_el (M.two64_two h1));obtain⟨k,hk,hN,Db⟩:=ry h1;have HK:=Hd hk;have Da:H9 (∀h,N=2*h→M.cg (M.pw (M.root N) 65535 ^ h) (-1)):=fun h e=>M.rinv_h (M.two64_two h1) e
 have HF:H9 (M.trim (jP (kD zs (M.pw (M.root N) 65535)) (M.gp (M.pw N 65535) (M.pw s 65535) N))=M.frs zs s):=by
  show _=_;have:=pB zs s;rw[hz.len]at this;exact this
 obtain⟨r0,r1⟩:=M.pw_bd (M.root N) 65535;obtain⟨n0,n1⟩:=M.pw_bd (N:Int) 65535;obtain⟨i0,i1⟩:=M.pw_bd s 65535;clear hz az h1 h2 h3 hp hk;generalize M.root N=q at *;generalize Ea:M.pw q 65535=ri at Da HF r0 r1;have Qa:=Hd Ea;generalize Fa:M.pw (N:Int) 65535=ni at HF n0 n1;have Ra:=Hd Fa;generalize Ga:M.pw s 65535=si at HF i0 i1;have Sa:=Hd Ga;clear Ea Fa Ga;have Ta:(N:Int)<65537:=(by omega);have Ua:(0:Int)≤(N:Int):=(by omega);go_enter func181,ntmps181;(go_wp2_with fail);refine(fW q _ q0 q1).mono ?_;rintro e w0 ⟨rfl,rfl⟩;rw[Qa.o];have Ha:H9 (m1 w (w.alloc (.cells #[Value.int .i64 N,Value.int .i64 s,Value.int .i64 q] 184))):=(m5 _ _).alloc (m3 _) _;(go_wp2_with fail);refine(jL ri _ (HZ.o.below Ha.o) HA.o HK.o (by omega) r0 r1 Da.o).mono ?_;rintro e w1 ⟨a1,c1,rfl,Ia,Aa⟩;have Va:H9 (aC 182 w1 w.heap.size a1 N c1 (kD zs ri)):=Ia.mono (by simp);have Ja:=Hd (Ha.o.trans (Aa.mono (by simp)))
 have Wa:H9 (∀W,m1 w1 W→W.cell? ⟨w.heap.size,0,none⟩=some (.int .i64 N)∧W.cell? ⟨w.heap.size,1,none⟩=some (.int .i64 s)∧W.cell? ⟨w.heap.size,2,none⟩=some (.int .i64 q)):=fun W hW=>by
  have hs:w.heap.size<w1.heap.size:=(by have:=Aa.size;simp at this;omega);refine⟨(hW.cell (p:=⟨w.heap.size,0,none⟩) hs).trans ((Aa.cell (p:=⟨w.heap.size,0,none⟩) (by simp)).trans (by rw[uF];rfl)),(hW.cell (p:=⟨w.heap.size,1,none⟩) hs).trans ((Aa.cell (p:=⟨w.heap.size,1,none⟩) (by simp)).trans (by rw[uF];rfl)),(hW.cell (p:=⟨w.heap.size,2,none⟩) hs).trans ((Aa.cell (p:=⟨w.heap.size,2,none⟩) (by simp)).trans (by rw[uF];rfl))⟩
 obtain⟨k0,k1,k2⟩:=Wa.o _ (m5 _ _);have Xa:H9 (m1 w1 w1.drew):=(m5 _ _).drew;clear Ia Aa;go_wp2
 go_region_with (first
  | (go_at_call_of 137 (Value.int .i64 (N:Int));refine(fW (N:Int) _ Ua Ta).mono ?_;rintro e w2 ⟨rfl,rfl⟩;rw[Ra.o])
  | (go_at_call_of 137 (Value.int .i64 s);refine(fW s _ s0 s1).mono ?_;rintro e w2 ⟨rfl,rfl⟩;rw[Sa.o])
  | (go_at_call 251;refine(eB ni si N _ n0 n1 i0 i1 (by omega)).mono ?_;rintro e w3 ⟨a3,c3,rfl,ho3,hb3⟩))
 all_goals
  have Ka:=Hd (Xa.o.trans hb3);have Ya:=Hd ho3;have Za:=Hd (Va.o.below Ka.o);have Ba:=Hd (Ja.o.trans (Ka.o.mono Ja.o.size));clear ho3 hb3;(go_wp2_with fail);refine(kY _ Za.o.sees Ya.o.sees (sE _ _) (sz _ _ _) rfl (by omega)).mono ?_;rintro e w4 ⟨a4,c4,rfl,La,Na⟩;have Ab:=Hd (La.mono Ba.o.size);have Ca:=Ba.t Na;clear La Na;(go_wp2_with fail);refine(jM _ Ab.o.sees (by omega)).mono ?_;rintro e w5 ⟨a5,T,c5,rfl,Oa,Pa⟩
  have Bb:H9 (aC 182 w5 w.heap.size a5 T c5 (M.frs zs s)):=by
   show aC _ _ _ _ _ _ _;rw[←HF.o];exact Oa.mono Ca.o.size
  have Cb:=Ca.t Pa;clear Oa Pa;go_wp2;go_ret;exact⟨a5,T,c5,rfl,Bb.o,Cb.o⟩
theorem kQ(s:Int)(w:World)(hz:aw w la N lc zs)(az:M.allEl zs=true)(hp:M.ptOk N s=true):
  Calls prog 297 #[.slice la N lc,.int .i64 s] w fun e w'=>∃a' c',e=.returned (.tuple #[.agg #[.int .i64 N,.int .i64 s,.int .i64 (M.root N)],.slice a' N c',.bool true])∧aC 182 w' w.heap.size a' N c' zs∧m1 w w':=by
 have HZ:=Hd hz;have HP:=Hd hp;have hN:=(M.two64_bd (M.ptOk_parts hp).1).2;have Ia:H9 (m1 w (w.alloc (.cells #[Value.int .i64 0,Value.int .i64 0,Value.int .i64 0] 184))):=(m5 _ _).alloc (m3 _) _;clear hz hp;go_enter func297,ntmps297;(go_wp2_with fail);refine(eQ N s _ HP.o).mono ?_;rintro e w1 ⟨rfl,Aa⟩;generalize hq:M.root N=q;have HQ:=Hd hq;clear hq;have Ba:=Hd (Ia.o.trans (Aa.mono (by simp)));have Ga:H9 (w.heap.size+1≤w1.heap.size):=by show _≤_;have:=Aa.size;simpa using this
 have Ja:H9 (∀W,m1 w1 W→W.cell? ⟨w.heap.size,0,none⟩=some (it 0)∧W.cell? ⟨w.heap.size,1,none⟩=some (it 0)∧W.cell? ⟨w.heap.size,2,none⟩=some (it 0)∧W.frozen? ⟨w.heap.size,0,none⟩=false∧W.frozen? ⟨w.heap.size,1,none⟩=false∧W.frozen? ⟨w.heap.size,2,none⟩=false):=fun W hW=>by
  have hs:w.heap.size<w1.heap.size:=(by have:=Aa.size;simp at this;omega);refine⟨(hW.cell (p:=⟨w.heap.size,0,none⟩) hs).trans ((Aa.cell (p:=⟨w.heap.size,0,none⟩) (by simp)).trans (by rw[uF];rfl)),(hW.cell (p:=⟨w.heap.size,1,none⟩) hs).trans ((Aa.cell (p:=⟨w.heap.size,1,none⟩) (by simp)).trans (by rw[uF];rfl)),(hW.cell (p:=⟨w.heap.size,2,none⟩) hs).trans ((Aa.cell (p:=⟨w.heap.size,2,none⟩) (by simp)).trans (by rw[uF];rfl)),(hW.frozen (p:=⟨w.heap.size,0,none⟩) hs).trans ((Aa.frozen (p:=⟨w.heap.size,0,none⟩) (by simp)).trans (by simp)),(hW.frozen (p:=⟨w.heap.size,1,none⟩) hs).trans ((Aa.frozen (p:=⟨w.heap.size,1,none⟩) (by simp)).trans (by simp)),(hW.frozen (p:=⟨w.heap.size,2,none⟩) hs).trans ((Aa.frozen (p:=⟨w.heap.size,2,none⟩) (by simp)).trans (by simp))⟩
 clear Aa;have Ha:H9 (m1 w1 (w1.alloc (.cells #[Value.int .i64 N,Value.int .i64 s,Value.int .i64 q] 184))):=(m5 _ _).alloc (m3 _) _;have Da:=Hd Ha.o.drew;have Ka:=Hd ((HZ.o.below Ba.o).below Da.o)
 have La:H9 (∀W,Below (w1.alloc (.cells #[Value.int .i64 N,Value.int .i64 s,Value.int .i64 q] 184)).drew.heap.size (w1.alloc (.cells #[Value.int .i64 N,Value.int .i64 s,Value.int .i64 q] 184)).drew W→W.cell? ⟨w1.heap.size,0,none⟩=some (it N)∧W.cell? ⟨w1.heap.size,1,none⟩=some (it s)∧W.cell? ⟨w1.heap.size,2,none⟩=some (it q)):=fun W hW=>by
  have hs:w1.heap.size<(w1.alloc (.cells #[Value.int .i64 N,Value.int .i64 s,Value.int .i64 q] 184)).heap.size:=(by simp);have hW':=(m5 (w1.alloc (.cells #[Value.int .i64 N,Value.int .i64 s,Value.int .i64 q] 184)).heap.size (w1.alloc (.cells #[Value.int .i64 N,Value.int .i64 s,Value.int .i64 q] 184))).drew.trans hW;refine⟨(hW'.cell (p:=⟨w1.heap.size,0,none⟩) hs).trans (by rw[uF];rfl),(hW'.cell (p:=⟨w1.heap.size,1,none⟩) hs).trans (by rw[uF];rfl),(hW'.cell (p:=⟨w1.heap.size,2,none⟩) hs).trans (by rw[uF];rfl)⟩
 (go_wp2_with fail);refine(dt _ ((HZ.o.below Ba.o).below Ha.o)).mono ?_;rintro e w2 ⟨rfl,rfl⟩;rw[az];go_wp2
 go_region_with (go_at_call 136;refine(es _ Ka.o (by omega)).mono ?_;rintro e w3 ⟨a3,c3,rfl,Ea,Ca⟩;obtain⟨g0,g1,g2⟩:=La.o _ Ca;obtain⟨k0,k1,k2,k3,k4,k5⟩:=Ja.o _ (Da.o.trans (Ca.mono (by simp))))
 all_goals
  have Na:=Hd (Ba.o.trans ((Da.o.trans (Ca.mono (by simp))).mono Ba.o.size))
  have Fa:H9 (∀x,a3=some x→x.block≠w.heap.size):=fun x hx=>by
   have h:=Ea.lo x hx;have h2:=Ga.o;simp at h;omega
  have Oa:H9 (aC 182 w3 w.heap.size a3 N c3 zs):=Ea.mono (by have h2:=Ga.o;simp;omega);clear Ea Ca g0 g1 g2;go_wp2;refine m7 (v:=.tuple #[.agg #[it N,it s,it q],.slice a3 N c3,.bool true]) (by simp[results,results297,go_sem,k0,k1,k2]) rfl ⟨a3,c3,by rw[HQ.o],?_,((Na.o.setCell (m3 _) _).setCell (m3 _) _).setCell (m3 _) _⟩;exact((Oa.o.other ⟨w.heap.size,0,none⟩ Fa.o _).other ⟨w.heap.size,1,none⟩ Fa.o _).other ⟨w.heap.size,2,none⟩ Fa.o _
theorem kp(s:Int)(w:World)(hz:aw w la N lc zs)(hp:M.frOk zs s=false):
  Rt 297 #[.slice la N lc,.int .i64 s] w (.tuple #[.agg #[.int .i64 0,.int .i64 0,.int .i64 0],.slice none 0 0,.bool false]):=by
 have HZ:=Hd hz;have Da:H9 (m1 w (w.alloc (.cells #[Value.int .i64 0,Value.int .i64 0,Value.int .i64 0] 184))):=(m5 _ _).alloc (m3 _) _
 cases h:M.ptOk N s with
 | false=>
  have HP:=Hd h;clear hz hp h;go_enter func297,ntmps297;(go_wp2_with fail);refine(mI N s _ HP.o).mono ?_;rintro e w1 ⟨rfl,Aa⟩;have Ba:=Hd (Da.o.trans (Aa.mono (by simp)));have s0:=(Aa.cell (p:=⟨w.heap.size,0,none⟩) (by simp)).trans (show _=some (Value.int .i64 0) by rw[uF];rfl);have s1:=(Aa.cell (p:=⟨w.heap.size,1,none⟩) (by simp)).trans (show _=some (Value.int .i64 0) by rw[uF];rfl);have s2:=(Aa.cell (p:=⟨w.heap.size,2,none⟩) (by simp)).trans (show _=some (Value.int .i64 0) by rw[uF];rfl);have f0:=(Aa.frozen (p:=⟨w.heap.size,0,none⟩) (by simp)).trans (show _=false by simp);have f1:=(Aa.frozen (p:=⟨w.heap.size,1,none⟩) (by simp)).trans (show _=false by simp);have f2:=(Aa.frozen (p:=⟨w.heap.size,2,none⟩) (by simp)).trans (show _=false by simp);have Ca:w.heap.size<w1.heap.size:=(by have:=Aa.size;simp at this;omega);clear Aa;go_wp2;refine m7 (v:=.tuple #[.agg #[it 0,it 0,it 0],.slice none 0 0,.bool false]) (by simp[results,results297,go_sem,Ca,s0,s1,s2]) rfl ⟨rfl,?_⟩
  first | exact(((Ba.o.alloc Ba.o.size _).setCell (m3 _) _).setCell (m3 _) _).setCell (m3 _) _ | exact(((Ba.o.setCell (m3 _) _).setCell (m3 _) _).setCell (m3 _) _).alloc (by simpa using Ba.o.size) _
 | true=>
  have ha:M.allEl zs=false:=by
   unfold M.frOk at hp;rw[hz.len,h]at hp;simpa using hp
  have HP:=Hd h;clear hz hp h;go_enter func297,ntmps297;(go_wp2_with fail);refine(eQ N s _ HP.o).mono ?_;rintro e w1 ⟨rfl,Aa⟩;generalize M.root N=q;have Ba:=Hd (Da.o.trans (Aa.mono (by simp)));have s0:=(Aa.cell (p:=⟨w.heap.size,0,none⟩) (by simp)).trans (show _=some (Value.int .i64 0) by rw[uF];rfl);have s1:=(Aa.cell (p:=⟨w.heap.size,1,none⟩) (by simp)).trans (show _=some (Value.int .i64 0) by rw[uF];rfl);have s2:=(Aa.cell (p:=⟨w.heap.size,2,none⟩) (by simp)).trans (show _=some (Value.int .i64 0) by rw[uF];rfl);have f0:=(Aa.frozen (p:=⟨w.heap.size,0,none⟩) (by simp)).trans (show _=false by simp);have f1:=(Aa.frozen (p:=⟨w.heap.size,1,none⟩) (by simp)).trans (show _=false by simp);have f2:=(Aa.frozen (p:=⟨w.heap.size,2,none⟩) (by simp)).trans (show _=false by simp);have Ca:w.heap.size<w1.heap.size:=(by have:=Aa.size;simp at this;omega);clear Aa;(go_wp2_with fail);refine(dt _ ((HZ.o.below Ba.o).below ((m5 _ _).alloc (m3 _) _))).mono ?_;rintro e w2 ⟨rfl,rfl⟩;rw[ha];go_wp2;refine m7 (v:=.tuple #[.agg #[it 0,it 0,it 0],.slice none 0 0,.bool false]) (by simp[results,results297,go_sem,Ca,s0,s1,s2]) rfl ⟨rfl,?_⟩
  first | exact(((Ba.o.alloc Ba.o.size _).setCell (m3 _) _).setCell (m3 _) _).setCell (m3 _) _ | exact(((Ba.o.setCell (m3 _) _).setCell (m3 _) _).setCell (m3 _) _).alloc (by simpa using Ba.o.size) _
theorem eL(s:Int)(w:World)(hz:aw w la N lc zs):
  Calls prog 278 #[.slice la N lc,.int .i64 s] w fun e w'=>∃a' m c',e=.returned (.tuple #[.slice a' m c',.bool (M.frOk zs s)])∧m≤64∧aC 2 w' w.heap.size a' m c' (jS zs s)∧m1 w w':=by
 have HZ:=Hd hz
 cases h:M.frOk zs s with
 | false=>
  have E:=Hd h;clear hz h;go_enter func278,ntmps278;(go_wp2_with fail);refine(kp s _ HZ.o E.o).mono ?_;rintro e w1 ⟨rfl,Ba⟩;have Aa:=Hd Ba;clear Ba;go_wp2
  go_ret2
  exact⟨none,0,0,rfl,by omega,by rw[rH E.o];exact aC.empty _ _ _,Aa.o.alloc Aa.o.size _⟩
 | true=>
  have E:=Hd h;obtain⟨hp,az⟩:M.ptOk N s=true∧M.allEl zs=true:=by unfold M.frOk at h;rw[hz.len]at h;simpa using h
  have HP:=Hd hp;have HA:=Hd az;have hN:=(M.two64_bd (M.ptOk_parts hp).1).2;have Ia:H9 ((M.frs zs s).length≤64):=(by show _≤_;have:=M.frs_len zs s;rw[hz.len]at this;omega);clear hz h hp az;go_enter func278,ntmps278;(go_wp2_with fail);refine(kQ s _ HZ.o HA.o HP.o).mono ?_;rintro e w1 ⟨a1,c1,rfl,Ea,Ba⟩;have Ja:=Hd Ea;have Aa:=Hd Ba;clear Ea Ba;(go_wp2_with fail);refine(kq s _ (Ja.o.below ((m5 _ _).alloc (m3 _) _)).sees HA.o HP.o).mono ?_;rintro e w2 ⟨a2,J,c2,rfl,Ca,Fa⟩;have Ka:J≤64:=(by rw[←Ca.len];exact Ia.o);have Da:=Hd ((Aa.o.alloc Aa.o.size _).trans (Fa.mono (by have:=Aa.o.size;simp;omega)));have La:=Hd Ca.sees;clear Ca Fa;(go_wp2_with fail);refine(kN _ La.o (by omega)).mono ?_;rintro e w3 ⟨a3,c3,rfl,Ga,Ha⟩
  have Na:H9 (aC 2 w3 w.heap.size a3 J c3 (jS zs s)):=by
   show aC _ _ _ _ _ _ _;rw[sw E.o];exact Ga.mono Da.o.size
  have Oa:=Da.t Ha;clear Ga Ha;go_wp2
  go_ret2
  exact⟨a3,J,c3,rfl,Ka,Na.o,Oa.o⟩
section
open Go.ChangeShapes Go.WideShapes
section
variable {H:Type} {enc:TypeId×Value→H} {P:Program} {w:World} {i':Nat} {spare:Nat→Bool} {held:Bool}
def me(enc:TypeId×Value→H)(P:Program)(w:World)(i':Nat)(spare:Nat→Bool)(held:Bool)(t:TypeId)(cs:List Value)(o n:Nat):Prop:=
 ∃uz y,DataW.trod enc P w i' spare held uz t ((cs.drop o).take n)=some y
theorem me.cell(h:(cs.drop o).take 1=[v]):cs[o]?=some v:=by
 have h1:((cs.drop o).take 1)[0]?=some v:=(by rw[h];rfl);rw[List.getElem?_take]at h1;simpa using h1
theorem me.int{k:IntKind}(h:me enc P w i' spare held t cs o 1)(ht:P.underlying t=some (.int k)):∃z,cs[o]?=some (.int k z)∧(Lit.int k z).wf=true:=by
 obtain⟨Aa,y,h⟩:=h;obtain⟨z,h1,-,h3⟩:=DataW.trod_int ht h;exact⟨z,me.cell h1,h3⟩
theorem me.bool(h:me enc P w i' spare held t cs o 1)(ht:P.underlying t=some .bool):∃z,cs[o]?=some (.bool z):=by
 obtain⟨Aa,y,h⟩:=h;obtain⟨z,h1,-⟩:=DataW.trod_bool ht h;exact⟨z,me.cell h1⟩
theorem me.whole(h:me enc P w i' spare held t cs o 1)(hl:o<cs.length):∃v,cs[o]?=some v∧∃uz y,DataW.trod enc P w i' spare held uz t [v]=some y:=by
 obtain⟨uz,y,h⟩:=h;refine⟨cs[o],m6 hl,uz,y,?_⟩;rw[←h]
 congr 1
 rw[List.drop_eq_getElem_cons hl];rfl
end
end
end Go.Proofs.YtjcjonncaknhnaaGreatDoor
