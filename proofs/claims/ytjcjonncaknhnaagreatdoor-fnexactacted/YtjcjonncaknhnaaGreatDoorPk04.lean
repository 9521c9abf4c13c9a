import Derived.Laws.CopyOwn
import Derived.Test.YtjcjonncaknhnaaGreatDoorPk02
import Derived.Test.YtjcjonncaknhnaaGreatDoorPk01
namespace Go.Proofs.YtjcjonncaknhnaaGreatDoor
open Go.RowKit Go.Proofs.Tryz
set_option linter.unusedSimpArgs false
set_option maxHeartbeats 32000000
variable {P:Program}{ops:Array Oper}{rest:List Oper}{op:Oper}{a:Option Addr}{w w':World}{Q:Exit→Act→World→Prop}{zs:List Int}{k n c cap i' N g:Nat}{t:TypeId}{f:Nat→Int}
theorem dO{a:Act}(T:TypeId)(b o:Nat)(cs:List Value){d:TypeDesc}(hc:w.rangeAt b o cs)(hu:P.underlying T=some d)
   (hs:op.guard=none∧d.isRow=true∧(P.info? T).map (·.size)=some cs.length∧∃x,op.op=.load T x∧a.eval x=.pointer (some ⟨b,o,none⟩))
   (h:wpList P ops Q rest (a.put op.dst (.agg cs.toArray)) w):H9 (wpList P ops Q (op::rest) a w):=by
  obtain⟨h1,h2,h3,x,h4,h5⟩:=hs
  exact wpList_load_mid h1 T x h4 b o h5 cs d hc hu h2 h3 h
theorem iN{a:Act}(T:TypeId)(b o:Nat)(cs:List Value)(ht:w.there b o cs.length)
   (hs:op.guard=none∧(P.info? T).map (·.size)=some cs.length∧cs.toArray.all (·.oneCell')=true∧∃x y,op.op=.store T x y∧a.eval x=.pointer (some ⟨b,o,none⟩)∧a.eval y=.agg cs.toArray)
   (h:wpList P ops Q rest (a.put op.dst undef) (w.setCells b o cs)):H9 (wpList P ops Q (op::rest) a w):=by
  obtain⟨h1,h2,h3,x,y,h4,h5,h6⟩:=hs
  exact wpList_store_mid h1 T x y h4 b o cs.toArray h5 h6 (by simpa using ht) (by simpa using h2) h3 (by simpa using h)
theorem rK{a:Act}(T:TypeId)(cs:Array Value)
   (hs:op.guard=none∧op.op=.alloc T∧(Instr.alloc T true (.tuple #[])).run P w=.ok (.pointer (some ⟨w.heap.size,0,none⟩)) (w.alloc (.cells cs T)))
   (h:wpList P ops Q rest (a.put op.dst (.pointer (some ⟨w.heap.size,0,none⟩))) (w.alloc (.cells cs T))):H9 (wpList P ops Q (op::rest) a w):=
  bU hs.1 T hs.2.1 cs hs.2.2 h
theorem cz(w:World)(vs:List Value)(t:TypeId):H9 (ae (w.alloc (.cells vs.toArray t)) w.heap.size vs):=aI _ _ _
theorem Hx{p:Prop}(h:H9 p):p:=h
def M.ev(zs:List Int)(x:Int):Int:=zs.foldr (fun c y=>(y*x+c)%65537) 0
theorem M.ev_bd(zs:List Int)(x:Int):0≤M.ev zs x∧M.ev zs x<65537:=by
 cases zs with
 | nil=>show 0≤(0:Int)∧(0:Int)<65537;omega
 | cons c r=>unfold M.ev;rw[List.foldr_cons];omega
theorem pV(c:Int)(r:List Int)(x:Int):M.ev (c::r) x=(M.ev r x*x+c)%65537:=rfl
theorem kG(h:k<zs.length)(x:Int):(M.ev (zs.drop (k+1)) x*x+zs.getD k 0)%65537=M.ev (zs.drop k) x:=by
 rw[List.drop_eq_getElem_cons h,pV,tu,tw h];rfl
theorem cc(h:M.allEl zs=true)(k:Nat):0≤zs.getD k 0∧zs.getD k 0<65537:=by
 by_cases hk:k<zs.length
 ·
  rw[tu,tw hk];exact(M.el_iff _).1 (List.all_eq_true.1 h _ (List.getElem_mem _))
 ·rw[tu,List.getElem?_eq_none (by omega)];exact⟨by decide,by decide⟩
theorem mM(x:Int)(w:World)(hz:ah w a n c zs)(hall:M.allEl zs=true)(x0:0≤x)(x1:x<65537):
  Rq 167 #[.slice a n c,.int .i64 x] w (.int .i64 (M.ev zs x)):=by
 have bn:(n:Int)≤9223372036854775807:=(by have:=hz.big;have:=hz.le;omega);have HZ:=Hd (hz);have HA:=Hd (hall);clear hz hall;go_enter func167,ntmps167;go_wp2
 go_loop [5,6] (fun y i=>∃(k:Nat) (v:Int),k≤n∧0≤v∧v<65537∧i=it ((k:Int)-1)∧y=it v∧v=M.ev (zs.drop k) x) (fun _ i=>(intOf i+1).toNat)
 case atStart=>exact⟨n,0,tr _,by omega,by omega,rfl,rfl,by rw[tC (by rw[HZ.o.len];exact tr _)];rfl⟩
 case round=>
  obtain⟨k,v,hk,v0,v1,rfl,rfl,hv⟩:=hrel;have HV:=Hd (hv);clear hv;by_cases h0:0<k
  ·
   obtain⟨b1,o1,rfl,Aa⟩:=HZ.o.at (by omega);have c1:=Aa (k-1) (by omega);have hd:=kG (zs:=zs) (k:=k-1) (by rw[HZ.o.len];omega) x;have Ba:=cc HA.o (k-1);clear Aa;generalize hx:zs.getD (k-1) 0=z at c1 hd Ba;obtain⟨z0,z1⟩:=Ba;rw[show k-1+1=k by omega,←HV.o]at hd;have HD:=Hd (hd);clear hd hx;obtain⟨m0,m1⟩:=M.mul_bd v0 v1 x0 x1;have Da:(0:Int)≤(k:Int)-1:=(by omega);have Ea:(k:Int)-1<(n:Int):=(by omega);go_wp2
   go_round
   case rel=>exact⟨k-1,(v*x+z)%65537,by omega,Int.emod_nonneg _ (by decide),Int.emod_lt_of_pos _ (by decide),by go_num,rfl,HD.o⟩
   case measure=>simp[intOf];omega
  ·
   have Ca:k=0:=(by omega);subst Ca;go_wp2;go_ret;exact⟨bQ HV.o,rfl⟩
theorem oz(x:Int)(R:Nat)(w:World)(hz:ah w a n c zs)(hall:M.allEl zs=true)(x0:0≤x)(x1:x<65537)(hx:w.cell? ⟨R,0,none⟩=some (.int .i64 x)):
  Rq 279 #[.slice a n c,.int .i64 0,.func (.func 280) #[] #[.pointer (some ⟨R,0,none⟩)]] w (.int .i64 (M.ev zs x)):=by
 have bn:(n:Int)≤9223372036854775807:=(by have:=hz.big;have:=hz.le;omega);have HZ:=Hd (hz);have HA:=Hd (hall);clear hz hall;go_enter func279,ntmps279;go_wp2
 go_loop [1,7] (fun y i=>∃(k:Nat) (v:Int),k≤n∧0≤v∧v<65537∧i=it ((k:Int)-1)∧y=it v∧v=M.ev (zs.drop k) x) (fun _ i=>(intOf i+1).toNat)
 case atStart=>exact⟨n,0,tr _,by omega,by omega,rfl,rfl,by rw[tC (by rw[HZ.o.len];exact tr _)];rfl⟩
 case round=>
  obtain⟨k,v,hk,v0,v1,rfl,rfl,hv⟩:=hrel;have HV:=Hd (hv);clear hv;by_cases h0:0<k
  ·
   obtain⟨b1,o1,rfl,Aa⟩:=HZ.o.at (by omega);have c1:=Aa (k-1) (by omega);have hd:=kG (zs:=zs) (k:=k-1) (by rw[HZ.o.len];omega) x;have Ba:=cc HA.o (k-1);clear Aa;generalize hx:zs.getD (k-1) 0=z at c1 hd Ba;obtain⟨z0,z1⟩:=Ba;rw[show k-1+1=k by omega,←HV.o]at hd;have HD:=Hd (hd);clear hd hx;obtain⟨m0,m1⟩:=M.mul_bd v0 v1 x0 x1;have p0:0≤v*x%65537:=Int.emod_nonneg _ (by decide);have p1:v*x%65537<65537:=Int.emod_lt_of_pos _ (by decide);have Da:(0:Int)≤(k:Int)-1:=(by omega);have Ea:(k:Int)-1<(n:Int):=(by omega);go_wp2_with(first | (go_at_call 141;refine(bM v x _ v0 v1 x0 x1).mono ?_;rintro e w' ⟨rfl,rfl⟩) | (go_at_call 269;refine(eh (v*x%65537) z _ p0 p1 z0 z1).mono ?_;rintro e w' ⟨rfl,rfl⟩) | go_in)
   go_round
   case rel=>exact⟨k-1,(v*x+z)%65537,by omega,Int.emod_nonneg _ (by decide),Int.emod_lt_of_pos _ (by decide),by go_num,rfl,HD.o⟩
   case measure=>simp[intOf];omega
  ·
   have Ca:k=0:=(by omega);subst Ca;go_wp2;go_ret;exact⟨bQ HV.o,rfl⟩
theorem fi(x:Int)(w:World)(hz:ah w a n c zs)(hall:M.allEl zs=true)(x0:0≤x)(x1:x<65537):
  Rt 248 #[.slice a n c,.int .i64 x] w (.int .i64 (M.ev zs x)):=by
 have HZ:=Hd (hz);have HA:=Hd (hall);clear hz hall;go_enter func248,ntmps248;(go_wp2_with fail);refine(oz x w.heap.size _ (HZ.o.below ((tv _ _).alloc (tr _) _)) HA.o x0 x1 (by rw[tH];rfl)).mono ?_;rintro e w' ⟨rfl,rfl⟩;go_wp2;go_ret;exact⟨rfl,(tv _ _).alloc (tr _) _⟩
theorem M.all_trim(h:M.allEl zs=true):M.allEl (M.trim zs)=true:=by
 unfold M.trim M.allEl at *;rw[List.all_eq_true]at *;exact fun x hx=>h x (List.mem_of_mem_take hx)
theorem nM(zs:List Int):(M.trim zs).length≤zs.length:=by
 unfold M.trim;rw[ua];omega
def bS(k:Int)(n:Nat):List Int:=(List.range n).map fun i:Nat=>k+(i:Int)
theorem dM(k:Int)(n:Nat):(bS k n).length=n:=by simp[bS]
theorem iU(k:Int)(n i:Nat)(h:i<n):(bS k n).getD i 0=k+(i:Int):=by
 rw[tu,tw (by rw[dM];exact h)];simp[bS]
theorem iT{k:Int}{j:Nat}(hl:zs.length=n)(h:j<n):((bS k n).take j++zs.drop j).set j (k+(j:Int))=(bS k n).take (j+1)++zs.drop (j+1):=by
 have h1:j<(bS k n).length:=(by rw[dM];exact h);rw[List.set_append_right _ _ (by simp[dM];omega),ua,Nat.min_eq_left (Nat.le_of_lt h1),Nat.sub_self];rw[List.drop_eq_getElem_cons (by omega),List.set_cons_zero,tK h1,List.append_assoc,List.singleton_append]
 congr 2
 have:=iU k n j h;rw[tu,tw h1]at this;exact this.symm
theorem rB(k:Int)(w:World)(ho:ar 2 w i' a n cap zs)(k0:0≤k)(k1:k≤1000000000000)(hn:n≤1000000000000):
  Calls prog 84 #[.slice a n cap,.int .i64 k] w fun e w'=>e=.returned (.int .i64 (k+(n:Int)))∧ar 2 w' i' a n cap (bS k n)∧w.grownBy w' (Value.slice a n cap).ownBlock:=by
 have HO:=Hd (ho);have HL:H9 (zs.length=n):=ho.len;clear ho;go_enter func84,ntmps84;go_wp2
 go_loopw [1,5] (fun q i wr=>∃j:Nat,j≤n∧i=it j∧q=it (k+(j:Int))∧ar 2 wr i' a n cap ((bS k n).take j++zs.drop j)∧w.grownBy wr (Value.slice a n cap).ownBlock) (fun _ i _=>n-(intOf i).toNat)
 case atStart=>exact⟨0,by omega,rfl,by simp,HO.o,World.grownBy.refl _ _⟩
 case round=>
  obtain⟨j,hj,rfl,rfl,Ca,Da⟩:=hrel;have Ba:=Hd (Ca);have Aa:=Hd (Da);clear Ca Da HO;by_cases Ea:j<n
  ·
   obtain⟨g,rfl,_,_,hc,hf⟩:=Ba.o.block (by omega);have c1:=hc j Ea;have f1:=hf j;generalize((bS k n).take j++zs.drop j).getD j 0=y at c1;have hI:(j:Int)<(n:Int):=(by omega);clear hc hf;go_wp2;go_roundw
   case rel=>
    refine⟨j+1,by omega,by go_num,?_,?_,?_⟩
    ·exact congrArg (Value.int .i64) (by omega)
    ·rw[←iT HL.o Ea];exact Ba.o.set j _
    ·exact⟨Aa.o.os,Aa.o.tape,Aa.o.output,by simpa[World.setCell]using Aa.o.size,fun i hi hne=>(Below.heap_setCell _ _ _ _ (by intro e;exact hne (by rw[e];rfl))).trans (Aa.o.block i hi hne)⟩
   case measure=>simp[intOf];omega
  ·
   have Fa:j=n:=(by omega);subst Fa;go_wp2;go_ret;refine⟨rfl,?_,Aa.o⟩;have h:=Ba.o;rw[tC (by rw[HL.o];exact tr _),List.append_nil,tF (by rw[dM];exact tr _)]at h;exact h
theorem rx(k:Int)(w:World)(hz:ah w a n cap (bS k n))(k0:0≤k)(k1:k≤1000000000000)(hn:n≤1000000000000):
  Rq 87 #[.slice a n cap,.int .i64 k] w (.int .i64 (k+(n:Int))):=by
 have HZ:=Hd (hz);clear hz;go_enter func87,ntmps87;go_wp2
 go_loop [1,5] (fun q i=>∃j:Nat,j≤n∧i=it j∧q=it (k+(j:Int))) (fun _ i=>n-(intOf i).toNat)
 case atStart=>exact⟨0,by omega,rfl,by simp⟩
 case round=>
  obtain⟨j,hj,rfl,rfl⟩:=hrel;by_cases Aa:j<n
  ·
   obtain⟨b1,o1,rfl,Ba⟩:=HZ.o.at (by omega);have c1:=Ba j Aa;rw[iU k n j Aa]at c1;have hI:(j:Int)<(n:Int):=(by omega);have Da:(k+(j:Int) != k+(j:Int))=false:=(by simp);clear Ba;go_wp2
   go_round
   case rel=>exact⟨j+1,by omega,by go_num,congrArg (Value.int .i64) (by omega)⟩
   case measure=>simp[intOf];omega
  ·
   have Ca:j=n:=(by omega);subst Ca;go_wp2;go_ret;exact⟨rfl,rfl⟩
theorem ar.lo(h:ar t w i' a n cap zs):∀x,a=some x→i'≤x.block:=by
 rintro x rfl;exact(tJ h _ rfl).1
theorem ar.hi(h:ar t w i' a n cap zs):∀x,a=some x→x.block<w.heap.size:=by
 rintro x rfl;exact(tJ h _ rfl).2
theorem ar.drewN(h:ar t w i' a n cap zs)(k:Nat):ar t (w.drewN k) i' a n cap zs:=h
theorem ar.empty(w:World)(t:TypeId)(i':Nat):ar t w i' none 0 0 []:=World.ownsRow_nil w i' t 1
def M.tab(N:Nat)(f:Nat→Int):List Int:=(List.range N).map f
theorem eJ(N:Nat)(f:Nat→Int):(M.tab N f).length=N:=by simp[M.tab]
theorem M.tab_get(N:Nat)(f:Nat→Int)(i:Nat)(h:i<N):(M.tab N f).getD i 0=f i:=by
 rw[tu,tw (by rw[eJ];exact h)];simp[M.tab]
theorem ii(hl:zs.length=N)(h:∀i,i<N→zs.getD i 0=f i):zs=M.tab N f:=by
 apply List.ext_getElem (by rw[hl,eJ]);intro i h1 h2;have:=h i (by omega);rw[tu,tw h1]at this;simpa[M.tab]using this
theorem dn{g:Nat→Int}(h:∀i,i<N→f i=g i):M.tab N f=M.tab N g:=
 ii (eJ _ _) fun i hi=>by rw[M.tab_get _ _ _ hi];exact h i hi
theorem ij(N:Nat)(f:Nat→Int)(k:Nat)(v:Int):(M.tab N f).set k v=M.tab N (fun i=>if i=k then v else f i):=by
 apply List.ext_getElem (by simp[M.tab]);intro i h1 h2;simp only[M.tab,List.getElem_set,List.getElem_map,List.getElem_range];by_cases e:k=i
 ·subst e;simp
 ·rw[if_neg e,if_neg (fun h=>e h.symm)]
theorem ge(k:Nat)(f:Nat→Int):M.tab k f++[f k]=M.tab (k+1) f:=by
 simp[M.tab,List.range_succ]
def pM(zs ys:List Int)(i:Nat):Int:=(zs.getD i 0+ys.getD i 0)%65537
def M.padd(zs ys:List Int):List Int:=M.tab (max zs.length ys.length) (pM zs ys)
theorem M.all_tab(h:∀i,i<N→M.el (f i)=true):M.allEl (M.tab N f)=true:=by
 unfold M.allEl M.tab;rw[List.all_eq_true];intro x hx;obtain⟨i,hi,rfl⟩:=List.mem_map.1 hx;exact h i (List.mem_range.1 hi)
section
open Go.WideShapes
theorem mG(w:World)(A B C:Array Value)(t1 t2 t3:TypeId)(i:Nat):
  (((w.alloc (.cells A t1)).alloc (.cells B t2)).alloc (.cells C t3)).frozen? ⟨w.heap.size+1,i,none⟩=false:=by
 rw[frozen?_alloc_cells,frozen?_alloc_cells,frozen?_alloc_cells];simp only[World.frozen?];rw[Array.getElem?_eq_none (by omega)]
theorem dA(B j:Nat):∀(vs:List Value) (W:World) (i:Nat),i+vs.length≤j→(dR W B i vs).cell? ⟨B,j,none⟩=W.cell? ⟨B,j,none⟩
 | [],_,_,_=>rfl
 | v::vs,W,i,h=>(dA B j vs (W.setCell ⟨B,i,none⟩ v) (i+1) (by simp at h;omega)).trans (t6 (w:=W) (a:=⟨B,i,none⟩) (b:=⟨B,j,none⟩) (v:=v) (h:=by intro e;simp only[Addr.mk.injEq]at e;simp at h;omega))
theorem ez(s:Int×Int)(w:World):Rt 77 #[cC s] w (cC s):=by
 obtain⟨x,y⟩:=s;dsimp only[cC];go_enter func77,ntmps77;go_wp2;refine tx (v:=.agg #[it x,it y]) (by simp[results,results77,go_sem]) rfl ⟨rfl,?_⟩;exact(((tv _ _).alloc (tr _) _).alloc (by simp) _).alloc (by simp;omega) _
theorem ka(r:M.Rl)(w:World):Rt 150 #[fO r] w (fO r):=by
 obtain⟨a,b,c,d,f,k⟩:=r;dsimp only[fO];go_enter func150,ntmps150;go_wp2;refine tx (v:=.agg (kd a b c d f k).toArray) (by simp[results,results150,go_sem]) rfl ⟨rfl,?_⟩;exact(((tv _ _).alloc (tr _) _).alloc (by simp) _).alloc (by simp;omega) _
theorem f9(m:M.Mc)(w:World):Rt 76 #[cQ m] w (cQ m):=by
 have C1:=ka m.X;have C2:=ka m.Y;obtain⟨⟨a,b,c,d,f,k⟩,⟨a',b',c',d',f',k'⟩⟩:=m;dsimp only[cQ,fO]at C1 C2 ⊢
 have HT:H9 (∀W,Below (((w.alloc (.cells (cu a b c d f k a' b' c' d' f' k').toArray 68)).alloc (.cells jB.toArray 31)).alloc (.cells jB.toArray 31)).heap.size (((w.alloc (.cells (cu a b c d f k a' b' c' d' f' k').toArray 68)).alloc (.cells jB.toArray 31)).alloc (.cells jB.toArray 31)) W→∀i,W.cell? ⟨w.heap.size,i,none⟩=(((cu a b c d f k a' b' c' d' f' k').toArray:Array Value))[i]?∧W.cell? ⟨w.heap.size+1,i,none⟩=((jB.toArray:Array Value))[i]?∧W.cell? ⟨w.heap.size+1+1,i,none⟩=((jB.toArray:Array Value))[i]?∧W.frozen? ⟨w.heap.size+1,i,none⟩=false∧W.frozen? ⟨w.heap.size+1+1,i,none⟩=false):=fun W hW i=>
  ⟨(hW.cell (p:=⟨w.heap.size,i,none⟩) (by simp;omega)).trans (aJ w _ _ _ _ _ _ i).1,(hW.cell (p:=⟨w.heap.size+1,i,none⟩) (by simp)).trans (aJ w _ _ _ _ _ _ i).2.1,(hW.cell (p:=⟨w.heap.size+1+1,i,none⟩) (by simp)).trans (aJ w _ _ _ _ _ _ i).2.2.1,(aB hW (show w.heap.size+1<_ by simp)).trans (mG w _ _ _ _ _ _ i),(aB hW (show w.heap.size+1+1<_ by simp)).trans (aJ w _ _ _ _ _ _ i).2.2.2⟩
 go_enter func76,ntmps76;(go_wp2_with fail);refine(C1 _).mono ?_;rintro e w1 ⟨rfl,Ha⟩;have Pf:H9 (Below w.heap.size w w1):=((((tv _ _).alloc (tr _) _).alloc (by simp) _).alloc (by simp;omega) _).trans (Ha.mono (by simp;omega));have Ja:H9 (w.heap.size+3≤w1.heap.size):=(by have:=Ha.size;simp at this;show _≤_;omega);have ht:=HT.o _ Ha;clear Ha;have Ka:w1.cell? ⟨w.heap.size,6,none⟩=some (it a'):=(ht 6).1;have La:w1.cell? ⟨w.heap.size,7,none⟩=some (it b'):=(ht 7).1;have Na:w1.cell? ⟨w.heap.size,8,none⟩=some (it c'):=(ht 8).1;have Oa:w1.cell? ⟨w.heap.size,9,none⟩=some (it d'):=(ht 9).1;have Pa:w1.cell? ⟨w.heap.size,10,none⟩=some (it f'):=(ht 10).1;have Qa:w1.cell? ⟨w.heap.size,11,none⟩=some (it k'):=(ht 11).1;have Ra:w1.cell? ⟨w.heap.size+1,0,none⟩=some (it 0):=(ht 0).2.1;have Sa:w1.cell? ⟨w.heap.size+1+1,0,none⟩=some (it 0):=(ht 0).2.2.1;have Ta:w1.frozen? ⟨w.heap.size+1,0,none⟩=false:=(ht 0).2.2.2.1;have Ua:w1.frozen? ⟨w.heap.size+1+1,0,none⟩=false:=(ht 0).2.2.2.2;have Va:w1.cell? ⟨w.heap.size+1,1,none⟩=some (it 0):=(ht 1).2.1;have Wa:w1.cell? ⟨w.heap.size+1+1,1,none⟩=some (it 0):=(ht 1).2.2.1;have Xa:w1.frozen? ⟨w.heap.size+1,1,none⟩=false:=(ht 1).2.2.2.1;have Ya:w1.frozen? ⟨w.heap.size+1+1,1,none⟩=false:=(ht 1).2.2.2.2;have Za:w1.cell? ⟨w.heap.size+1,2,none⟩=some (it 0):=(ht 2).2.1;have Ab:w1.cell? ⟨w.heap.size+1+1,2,none⟩=some (it 0):=(ht 2).2.2.1;have Bb:w1.frozen? ⟨w.heap.size+1,2,none⟩=false:=(ht 2).2.2.2.1;have Cb:w1.frozen? ⟨w.heap.size+1+1,2,none⟩=false:=(ht 2).2.2.2.2;have Db:w1.cell? ⟨w.heap.size+1,3,none⟩=some (it 0):=(ht 3).2.1;have Eb:w1.cell? ⟨w.heap.size+1+1,3,none⟩=some (it 0):=(ht 3).2.2.1;have Fb:w1.frozen? ⟨w.heap.size+1,3,none⟩=false:=(ht 3).2.2.2.1;have Gb:w1.frozen? ⟨w.heap.size+1+1,3,none⟩=false:=(ht 3).2.2.2.2;have Hb:w1.cell? ⟨w.heap.size+1,4,none⟩=some (it 0):=(ht 4).2.1;have Ib:w1.cell? ⟨w.heap.size+1+1,4,none⟩=some (it 0):=(ht 4).2.2.1;have Jb:w1.frozen? ⟨w.heap.size+1,4,none⟩=false:=(ht 4).2.2.2.1;have Kb:w1.frozen? ⟨w.heap.size+1+1,4,none⟩=false:=(ht 4).2.2.2.2;have Lb:w1.cell? ⟨w.heap.size+1,5,none⟩=some (it 0):=(ht 5).2.1;have Nb:w1.cell? ⟨w.heap.size+1+1,5,none⟩=some (it 0):=(ht 5).2.2.1;have Ob:w1.frozen? ⟨w.heap.size+1,5,none⟩=false:=(ht 5).2.2.2.1;have Pb:w1.frozen? ⟨w.heap.size+1+1,5,none⟩=false:=(ht 5).2.2.2.2;have Qb:w1.cell? ⟨w.heap.size+1,6,none⟩=some (it 0):=(ht 6).2.1;have Rb:w1.cell? ⟨w.heap.size+1+1,6,none⟩=some (it 0):=(ht 6).2.2.1;have Sb:w1.frozen? ⟨w.heap.size+1,6,none⟩=false:=(ht 6).2.2.2.1;have Tb:w1.frozen? ⟨w.heap.size+1+1,6,none⟩=false:=(ht 6).2.2.2.2;have Ub:w1.cell? ⟨w.heap.size+1,7,none⟩=some (it 0):=(ht 7).2.1;have Vb:w1.cell? ⟨w.heap.size+1+1,7,none⟩=some (it 0):=(ht 7).2.2.1;have Wb:w1.frozen? ⟨w.heap.size+1,7,none⟩=false:=(ht 7).2.2.2.1;have Xb:w1.frozen? ⟨w.heap.size+1+1,7,none⟩=false:=(ht 7).2.2.2.2;have Yb:w1.cell? ⟨w.heap.size+1,8,none⟩=some (it 0):=(ht 8).2.1;have Zb:w1.cell? ⟨w.heap.size+1+1,8,none⟩=some (it 0):=(ht 8).2.2.1;have Ac:w1.frozen? ⟨w.heap.size+1,8,none⟩=false:=(ht 8).2.2.2.1;have Bc:w1.frozen? ⟨w.heap.size+1+1,8,none⟩=false:=(ht 8).2.2.2.2;have Cc:w1.cell? ⟨w.heap.size+1,9,none⟩=some (it 0):=(ht 9).2.1;have Dc:w1.cell? ⟨w.heap.size+1+1,9,none⟩=some (it 0):=(ht 9).2.2.1;have Ec:w1.frozen? ⟨w.heap.size+1,9,none⟩=false:=(ht 9).2.2.2.1;have Fc:w1.frozen? ⟨w.heap.size+1+1,9,none⟩=false:=(ht 9).2.2.2.2;have Gc:w1.cell? ⟨w.heap.size+1,10,none⟩=some (it 0):=(ht 10).2.1;have Hc:w1.cell? ⟨w.heap.size+1+1,10,none⟩=some (it 0):=(ht 10).2.2.1;have Ic:w1.frozen? ⟨w.heap.size+1,10,none⟩=false:=(ht 10).2.2.2.1;have Jc:w1.frozen? ⟨w.heap.size+1+1,10,none⟩=false:=(ht 10).2.2.2.2;have Kc:w1.cell? ⟨w.heap.size+1,11,none⟩=some (it 0):=(ht 11).2.1;have Lc:w1.cell? ⟨w.heap.size+1+1,11,none⟩=some (it 0):=(ht 11).2.2.1;have Nc:w1.frozen? ⟨w.heap.size+1,11,none⟩=false:=(ht 11).2.2.2.1;have Oc:w1.frozen? ⟨w.heap.size+1+1,11,none⟩=false:=(ht 11).2.2.2.2;clear ht HT;have Qh:=Ja.o;obtain⟨w2,Ba⟩:∃u,u=dR w1 (w.heap.size+1+1) 0 (kd a b c d f k):=⟨_,rfl⟩
 have Ea:=fP (w.heap.size+1+1) [Value.int .i64 a,it b,it c,it d,it f,it k] w1 0 (fun j hj=>by
  match j,hj with
  | 0,_=>exact⟨_,Sa⟩
  | 1,_=>exact⟨_,Wa⟩
  | 2,_=>exact⟨_,Ab⟩
  | 3,_=>exact⟨_,Eb⟩
  | 4,_=>exact⟨_,Ib⟩
  | 5,_=>exact⟨_,Nb⟩)
 rw[←Ba]at Ea;have Pc:w2.cell? ⟨w.heap.size+1+1,0,none⟩=some (it a):=(by simpa using Ea 0 _ rfl);have Qc:w2.cell? ⟨w.heap.size+1+1,1,none⟩=some (it b):=(by simpa using Ea 1 _ rfl);have Rc:w2.cell? ⟨w.heap.size+1+1,2,none⟩=some (it c):=(by simpa using Ea 2 _ rfl);have Sc:w2.cell? ⟨w.heap.size+1+1,3,none⟩=some (it d):=(by simpa using Ea 3 _ rfl);have Tc:w2.cell? ⟨w.heap.size+1+1,4,none⟩=some (it f):=(by simpa using Ea 4 _ rfl);have Uc:w2.cell? ⟨w.heap.size+1+1,5,none⟩=some (it k):=(by simpa using Ea 5 _ rfl);have Qf:w2.cell? ⟨w.heap.size,6,none⟩=some (it a'):=(by rw[Ba,aT (w.heap.size+1+1) (show w.heap.size≠w.heap.size+1+1 by omega)];exact Ka);have Rf:w2.cell? ⟨w.heap.size,7,none⟩=some (it b'):=(by rw[Ba,aT (w.heap.size+1+1) (show w.heap.size≠w.heap.size+1+1 by omega)];exact La);have Sf:w2.cell? ⟨w.heap.size,8,none⟩=some (it c'):=(by rw[Ba,aT (w.heap.size+1+1) (show w.heap.size≠w.heap.size+1+1 by omega)];exact Na);have Tf:w2.cell? ⟨w.heap.size,9,none⟩=some (it d'):=(by rw[Ba,aT (w.heap.size+1+1) (show w.heap.size≠w.heap.size+1+1 by omega)];exact Oa);have Uf:w2.cell? ⟨w.heap.size,10,none⟩=some (it f'):=(by rw[Ba,aT (w.heap.size+1+1) (show w.heap.size≠w.heap.size+1+1 by omega)];exact Pa);have Vf:w2.cell? ⟨w.heap.size,11,none⟩=some (it k'):=(by rw[Ba,aT (w.heap.size+1+1) (show w.heap.size≠w.heap.size+1+1 by omega)];exact Qa);have Vc:w2.cell? ⟨w.heap.size+1,0,none⟩=some (it 0):=(by rw[Ba,aT (w.heap.size+1+1) (show w.heap.size+1≠w.heap.size+1+1 by omega)];exact Ra);have Wc:w2.cell? ⟨w.heap.size+1,1,none⟩=some (it 0):=(by rw[Ba,aT (w.heap.size+1+1) (show w.heap.size+1≠w.heap.size+1+1 by omega)];exact Va);have Xc:w2.cell? ⟨w.heap.size+1,2,none⟩=some (it 0):=(by rw[Ba,aT (w.heap.size+1+1) (show w.heap.size+1≠w.heap.size+1+1 by omega)];exact Za);have Yc:w2.cell? ⟨w.heap.size+1,3,none⟩=some (it 0):=(by rw[Ba,aT (w.heap.size+1+1) (show w.heap.size+1≠w.heap.size+1+1 by omega)];exact Db);have Zc:w2.cell? ⟨w.heap.size+1,4,none⟩=some (it 0):=(by rw[Ba,aT (w.heap.size+1+1) (show w.heap.size+1≠w.heap.size+1+1 by omega)];exact Hb);have Ad:w2.cell? ⟨w.heap.size+1,5,none⟩=some (it 0):=(by rw[Ba,aT (w.heap.size+1+1) (show w.heap.size+1≠w.heap.size+1+1 by omega)];exact Lb);have Bd:w2.cell? ⟨w.heap.size+1,6,none⟩=some (it 0):=(by rw[Ba,aT (w.heap.size+1+1) (show w.heap.size+1≠w.heap.size+1+1 by omega)];exact Qb);have Cd:w2.cell? ⟨w.heap.size+1,7,none⟩=some (it 0):=(by rw[Ba,aT (w.heap.size+1+1) (show w.heap.size+1≠w.heap.size+1+1 by omega)];exact Ub);have Dd:w2.cell? ⟨w.heap.size+1,8,none⟩=some (it 0):=(by rw[Ba,aT (w.heap.size+1+1) (show w.heap.size+1≠w.heap.size+1+1 by omega)];exact Yb);have Ed:w2.cell? ⟨w.heap.size+1,9,none⟩=some (it 0):=(by rw[Ba,aT (w.heap.size+1+1) (show w.heap.size+1≠w.heap.size+1+1 by omega)];exact Cc);have Fd:w2.cell? ⟨w.heap.size+1,10,none⟩=some (it 0):=(by rw[Ba,aT (w.heap.size+1+1) (show w.heap.size+1≠w.heap.size+1+1 by omega)];exact Gc);have Gd:w2.cell? ⟨w.heap.size+1,11,none⟩=some (it 0):=(by rw[Ba,aT (w.heap.size+1+1) (show w.heap.size+1≠w.heap.size+1+1 by omega)];exact Kc);have Id:w2.frozen? ⟨w.heap.size+1,0,none⟩=false:=(by rw[Ba,aC];exact Ta);have Jd:w2.frozen? ⟨w.heap.size+1,1,none⟩=false:=(by rw[Ba,aC];exact Xa);have Kd:w2.frozen? ⟨w.heap.size+1,2,none⟩=false:=(by rw[Ba,aC];exact Bb);have Ld:w2.frozen? ⟨w.heap.size+1,3,none⟩=false:=(by rw[Ba,aC];exact Fb);have Nd:w2.frozen? ⟨w.heap.size+1,4,none⟩=false:=(by rw[Ba,aC];exact Jb);have Od:w2.frozen? ⟨w.heap.size+1,5,none⟩=false:=(by rw[Ba,aC];exact Ob);have Pd:w2.frozen? ⟨w.heap.size+1,6,none⟩=false:=(by rw[Ba,aC];exact Sb);have Qd:w2.frozen? ⟨w.heap.size+1,7,none⟩=false:=(by rw[Ba,aC];exact Wb);have Rd:w2.frozen? ⟨w.heap.size+1,8,none⟩=false:=(by rw[Ba,aC];exact Ac);have Sd:w2.frozen? ⟨w.heap.size+1,9,none⟩=false:=(by rw[Ba,aC];exact Ec);have Td:w2.frozen? ⟨w.heap.size+1,10,none⟩=false:=(by rw[Ba,aC];exact Ic);have Ud:w2.frozen? ⟨w.heap.size+1,11,none⟩=false:=(by rw[Ba,aC];exact Nc);have Vd:w2.frozen? ⟨w.heap.size+1+1,0,none⟩=false:=(by rw[Ba,aC];exact Ua);have Wd:w2.frozen? ⟨w.heap.size+1+1,1,none⟩=false:=(by rw[Ba,aC];exact Ya);have Xd:w2.frozen? ⟨w.heap.size+1+1,2,none⟩=false:=(by rw[Ba,aC];exact Cb);have Yd:w2.frozen? ⟨w.heap.size+1+1,3,none⟩=false:=(by rw[Ba,aC];exact Gb);have Zd:w2.frozen? ⟨w.heap.size+1+1,4,none⟩=false:=(by rw[Ba,aC];exact Kb);have Ae:w2.frozen? ⟨w.heap.size+1+1,5,none⟩=false:=(by rw[Ba,aC];exact Pb);have Be:w2.frozen? ⟨w.heap.size+1+1,6,none⟩=false:=(by rw[Ba,aC];exact Tb);have Ce:w2.frozen? ⟨w.heap.size+1+1,7,none⟩=false:=(by rw[Ba,aC];exact Xb);have De:w2.frozen? ⟨w.heap.size+1+1,8,none⟩=false:=(by rw[Ba,aC];exact Bc);have Ee:w2.frozen? ⟨w.heap.size+1+1,9,none⟩=false:=(by rw[Ba,aC];exact Fc);have Fe:w2.frozen? ⟨w.heap.size+1+1,10,none⟩=false:=(by rw[Ba,aC];exact Jc);have Ge:w2.frozen? ⟨w.heap.size+1+1,11,none⟩=false:=(by rw[Ba,aC];exact Oc);have He:H9 (Below w.heap.size w w2):=(by show Below _ _ _;rw[Ba];exact dz (by omega) _ _ _ Pf.o);have Wf:H9 (w.heap.size+3≤w2.heap.size):=(by show _≤_;rw[Ba,fQ];exact Ja.o);have Ga:H9 (dR w1 (w.heap.size+1+1) 0 (kd a b c d f k)=w2):=Ba.symm;clear Ea Ba;have Ie:w2.cell? ⟨w.heap.size+1+1,6,none⟩=some (it 0):=(by rw[←Ga.o,dA (w.heap.size+1+1) 6 _ _ _ (by simp)];exact Rb);have Je:w2.cell? ⟨w.heap.size+1+1,7,none⟩=some (it 0):=(by rw[←Ga.o,dA (w.heap.size+1+1) 7 _ _ _ (by simp)];exact Vb);have Ke:w2.cell? ⟨w.heap.size+1+1,8,none⟩=some (it 0):=(by rw[←Ga.o,dA (w.heap.size+1+1) 8 _ _ _ (by simp)];exact Zb);have Le:w2.cell? ⟨w.heap.size+1+1,9,none⟩=some (it 0):=(by rw[←Ga.o,dA (w.heap.size+1+1) 9 _ _ _ (by simp)];exact Dc);have Ne:w2.cell? ⟨w.heap.size+1+1,10,none⟩=some (it 0):=(by rw[←Ga.o,dA (w.heap.size+1+1) 10 _ _ _ (by simp)];exact Hc);have Oe:w2.cell? ⟨w.heap.size+1+1,11,none⟩=some (it 0):=(by rw[←Ga.o,dA (w.heap.size+1+1) 11 _ _ _ (by simp)];exact Lc);clear Ka La Na Oa Pa Qa Ra Va Za Db Hb Lb Qb Ub Yb Cc Gc Kc Ta Xa Bb Fb Jb Ob Sb Wb Ac Ec Ic Nc;(go_wp2_with(rw[show((((((w1.setCell ⟨w.heap.size+1+1,0,none⟩ (it a)).setCell ⟨w.heap.size+1+1,1,none⟩ (it b)).setCell ⟨w.heap.size+1+1,2,none⟩ (it c)).setCell ⟨w.heap.size+1+1,3,none⟩ (it d)).setCell ⟨w.heap.size+1+1,4,none⟩ (it f)).setCell ⟨w.heap.size+1+1,5,none⟩ (it k))=w2 from Ga.o]));refine(C2 _).mono ?_;rintro e w3 ⟨rfl,Aa⟩;have Xf:=Wf.o;clear Sa Wa Ab Eb Ib Nb Rb Vb Zb Dc Hc Lc Ua Ya Cb Gb Kb Pb Tb Xb Bc Fc Jc Oc;have Yf:=Hd (He.o.trans (Aa.mono He.o.size));have Pe:H9 (w.heap.size+3≤w3.heap.size):=tB Xf Aa.size;have Zf:w3.cell? ⟨w.heap.size+1+1,0,none⟩=some (it a):=(Aa.cell (p:=⟨w.heap.size+1+1,0,none⟩) (by simp;omega)).trans Pc;have Ag:w3.cell? ⟨w.heap.size+1+1,1,none⟩=some (it b):=(Aa.cell (p:=⟨w.heap.size+1+1,1,none⟩) (by simp;omega)).trans Qc;have Bg:w3.cell? ⟨w.heap.size+1+1,2,none⟩=some (it c):=(Aa.cell (p:=⟨w.heap.size+1+1,2,none⟩) (by simp;omega)).trans Rc;have Cg:w3.cell? ⟨w.heap.size+1+1,3,none⟩=some (it d):=(Aa.cell (p:=⟨w.heap.size+1+1,3,none⟩) (by simp;omega)).trans Sc;have Dg:w3.cell? ⟨w.heap.size+1+1,4,none⟩=some (it f):=(Aa.cell (p:=⟨w.heap.size+1+1,4,none⟩) (by simp;omega)).trans Tc;have Eg:w3.cell? ⟨w.heap.size+1+1,5,none⟩=some (it k):=(Aa.cell (p:=⟨w.heap.size+1+1,5,none⟩) (by simp;omega)).trans Uc;have Fg:w3.cell? ⟨w.heap.size+1+1,6,none⟩=some (it 0):=(Aa.cell (p:=⟨w.heap.size+1+1,6,none⟩) (by simp;omega)).trans Ie;have Gg:w3.cell? ⟨w.heap.size+1+1,7,none⟩=some (it 0):=(Aa.cell (p:=⟨w.heap.size+1+1,7,none⟩) (by simp;omega)).trans Je;have Hg:w3.cell? ⟨w.heap.size+1+1,8,none⟩=some (it 0):=(Aa.cell (p:=⟨w.heap.size+1+1,8,none⟩) (by simp;omega)).trans Ke;have Ig:w3.cell? ⟨w.heap.size+1+1,9,none⟩=some (it 0):=(Aa.cell (p:=⟨w.heap.size+1+1,9,none⟩) (by simp;omega)).trans Le;have Jg:w3.cell? ⟨w.heap.size+1+1,10,none⟩=some (it 0):=(Aa.cell (p:=⟨w.heap.size+1+1,10,none⟩) (by simp;omega)).trans Ne;have Kg:w3.cell? ⟨w.heap.size+1+1,11,none⟩=some (it 0):=(Aa.cell (p:=⟨w.heap.size+1+1,11,none⟩) (by simp;omega)).trans Oe;have Qe:w3.cell? ⟨w.heap.size+1,0,none⟩=some (it 0):=(Aa.cell (p:=⟨w.heap.size+1,0,none⟩) (by simp;omega)).trans Vc;have Re:w3.frozen? ⟨w.heap.size+1,0,none⟩=false:=(aB Aa (by simp;omega)).trans Id;have Rh:w3.frozen? ⟨w.heap.size+1+1,0,none⟩=false:=(aB Aa (by simp;omega)).trans Vd;have Se:w3.cell? ⟨w.heap.size+1,1,none⟩=some (it 0):=(Aa.cell (p:=⟨w.heap.size+1,1,none⟩) (by simp;omega)).trans Wc;have Te:w3.frozen? ⟨w.heap.size+1,1,none⟩=false:=(aB Aa (by simp;omega)).trans Jd;have Sh:w3.frozen? ⟨w.heap.size+1+1,1,none⟩=false:=(aB Aa (by simp;omega)).trans Wd;have Ue:w3.cell? ⟨w.heap.size+1,2,none⟩=some (it 0):=(Aa.cell (p:=⟨w.heap.size+1,2,none⟩) (by simp;omega)).trans Xc;have Ve:w3.frozen? ⟨w.heap.size+1,2,none⟩=false:=(aB Aa (by simp;omega)).trans Kd;have Th:w3.frozen? ⟨w.heap.size+1+1,2,none⟩=false:=(aB Aa (by simp;omega)).trans Xd;have We:w3.cell? ⟨w.heap.size+1,3,none⟩=some (it 0):=(Aa.cell (p:=⟨w.heap.size+1,3,none⟩) (by simp;omega)).trans Yc;have Xe:w3.frozen? ⟨w.heap.size+1,3,none⟩=false:=(aB Aa (by simp;omega)).trans Ld;have Uh:w3.frozen? ⟨w.heap.size+1+1,3,none⟩=false:=(aB Aa (by simp;omega)).trans Yd;have Ye:w3.cell? ⟨w.heap.size+1,4,none⟩=some (it 0):=(Aa.cell (p:=⟨w.heap.size+1,4,none⟩) (by simp;omega)).trans Zc;have Ze:w3.frozen? ⟨w.heap.size+1,4,none⟩=false:=(aB Aa (by simp;omega)).trans Nd;have Vh:w3.frozen? ⟨w.heap.size+1+1,4,none⟩=false:=(aB Aa (by simp;omega)).trans Zd;have Af:w3.cell? ⟨w.heap.size+1,5,none⟩=some (it 0):=(Aa.cell (p:=⟨w.heap.size+1,5,none⟩) (by simp;omega)).trans Ad;have Bf:w3.frozen? ⟨w.heap.size+1,5,none⟩=false:=(aB Aa (by simp;omega)).trans Od;have Wh:w3.frozen? ⟨w.heap.size+1+1,5,none⟩=false:=(aB Aa (by simp;omega)).trans Ae;have Cf:w3.cell? ⟨w.heap.size+1,6,none⟩=some (it 0):=(Aa.cell (p:=⟨w.heap.size+1,6,none⟩) (by simp;omega)).trans Bd;have Df:w3.frozen? ⟨w.heap.size+1,6,none⟩=false:=(aB Aa (by simp;omega)).trans Pd;have Xh:w3.frozen? ⟨w.heap.size+1+1,6,none⟩=false:=(aB Aa (by simp;omega)).trans Be;have Ef:w3.cell? ⟨w.heap.size+1,7,none⟩=some (it 0):=(Aa.cell (p:=⟨w.heap.size+1,7,none⟩) (by simp;omega)).trans Cd;have Ff:w3.frozen? ⟨w.heap.size+1,7,none⟩=false:=(aB Aa (by simp;omega)).trans Qd;have Yh:w3.frozen? ⟨w.heap.size+1+1,7,none⟩=false:=(aB Aa (by simp;omega)).trans Ce;have Gf:w3.cell? ⟨w.heap.size+1,8,none⟩=some (it 0):=(Aa.cell (p:=⟨w.heap.size+1,8,none⟩) (by simp;omega)).trans Dd;have Hf:w3.frozen? ⟨w.heap.size+1,8,none⟩=false:=(aB Aa (by simp;omega)).trans Rd;have Zh:w3.frozen? ⟨w.heap.size+1+1,8,none⟩=false:=(aB Aa (by simp;omega)).trans De;have If:w3.cell? ⟨w.heap.size+1,9,none⟩=some (it 0):=(Aa.cell (p:=⟨w.heap.size+1,9,none⟩) (by simp;omega)).trans Ed;have Jf:w3.frozen? ⟨w.heap.size+1,9,none⟩=false:=(aB Aa (by simp;omega)).trans Sd;have Ai:w3.frozen? ⟨w.heap.size+1+1,9,none⟩=false:=(aB Aa (by simp;omega)).trans Ee;have Kf:w3.cell? ⟨w.heap.size+1,10,none⟩=some (it 0):=(Aa.cell (p:=⟨w.heap.size+1,10,none⟩) (by simp;omega)).trans Fd;have Lf:w3.frozen? ⟨w.heap.size+1,10,none⟩=false:=(aB Aa (by simp;omega)).trans Td;have Bi:w3.frozen? ⟨w.heap.size+1+1,10,none⟩=false:=(aB Aa (by simp;omega)).trans Fe;have Nf:w3.cell? ⟨w.heap.size+1,11,none⟩=some (it 0):=(Aa.cell (p:=⟨w.heap.size+1,11,none⟩) (by simp;omega)).trans Gd;have Of:w3.frozen? ⟨w.heap.size+1,11,none⟩=false:=(aB Aa (by simp;omega)).trans Ud;have Ci:w3.frozen? ⟨w.heap.size+1+1,11,none⟩=false:=(aB Aa (by simp;omega)).trans Ge;have Di:=Pe.o;clear Aa Qf Rf Sf Tf Uf Vf Vc Wc Xc Yc Zc Ad Bd Cd Dd Ed Fd Gd Pc Qc Rc Sc Tc Uc Ie Je Ke Le Ne Oe Id Jd Kd Ld Nd Od Pd Qd Rd Sd Td Ud Vd Wd Xd Yd Zd Ae Be Ce De Ee Fe Ge;obtain⟨w4,Ca⟩:∃u,u=dR w3 (w.heap.size+1+1) 6 (kd a' b' c' d' f' k'):=⟨_,rfl⟩
 have Fa:=fP (w.heap.size+1+1) [Value.int .i64 a',it b',it c',it d',it f',it k'] w3 6 (fun j hj=>by
  match j,hj with
  | 0,_=>exact⟨_,Fg⟩
  | 1,_=>exact⟨_,Gg⟩
  | 2,_=>exact⟨_,Hg⟩
  | 3,_=>exact⟨_,Ig⟩
  | 4,_=>exact⟨_,Jg⟩
  | 5,_=>exact⟨_,Kg⟩)
 rw[←Ca]at Fa;have Ei:w4.cell? ⟨w.heap.size+1+1,6,none⟩=some (it a'):=(by simpa using Fa 0 _ rfl);have Fi:w4.cell? ⟨w.heap.size+1+1,7,none⟩=some (it b'):=(by simpa using Fa 1 _ rfl);have Gi:w4.cell? ⟨w.heap.size+1+1,8,none⟩=some (it c'):=(by simpa using Fa 2 _ rfl);have Hi:w4.cell? ⟨w.heap.size+1+1,9,none⟩=some (it d'):=(by simpa using Fa 3 _ rfl);have Ii:w4.cell? ⟨w.heap.size+1+1,10,none⟩=some (it f'):=(by simpa using Fa 4 _ rfl);have Ji:w4.cell? ⟨w.heap.size+1+1,11,none⟩=some (it k'):=(by simpa using Fa 5 _ rfl);have Ki:w4.cell? ⟨w.heap.size+1+1,0,none⟩=some (it a):=(by rw[Ca,dP (w.heap.size+1+1) 0 _ _ _ (by omega)];exact Zf);have Li:w4.cell? ⟨w.heap.size+1+1,1,none⟩=some (it b):=(by rw[Ca,dP (w.heap.size+1+1) 1 _ _ _ (by omega)];exact Ag);have Ni:w4.cell? ⟨w.heap.size+1+1,2,none⟩=some (it c):=(by rw[Ca,dP (w.heap.size+1+1) 2 _ _ _ (by omega)];exact Bg);have Oi:w4.cell? ⟨w.heap.size+1+1,3,none⟩=some (it d):=(by rw[Ca,dP (w.heap.size+1+1) 3 _ _ _ (by omega)];exact Cg);have Pi:w4.cell? ⟨w.heap.size+1+1,4,none⟩=some (it f):=(by rw[Ca,dP (w.heap.size+1+1) 4 _ _ _ (by omega)];exact Dg);have Qi:w4.cell? ⟨w.heap.size+1+1,5,none⟩=some (it k):=(by rw[Ca,dP (w.heap.size+1+1) 5 _ _ _ (by omega)];exact Eg);have Lg:w4.cell? ⟨w.heap.size+1,0,none⟩=some (it 0):=(by rw[Ca,aT (w.heap.size+1+1) (show w.heap.size+1≠w.heap.size+1+1 by omega)];exact Qe);have Ng:w4.cell? ⟨w.heap.size+1,1,none⟩=some (it 0):=(by rw[Ca,aT (w.heap.size+1+1) (show w.heap.size+1≠w.heap.size+1+1 by omega)];exact Se);have Og:w4.cell? ⟨w.heap.size+1,2,none⟩=some (it 0):=(by rw[Ca,aT (w.heap.size+1+1) (show w.heap.size+1≠w.heap.size+1+1 by omega)];exact Ue);have Pg:w4.cell? ⟨w.heap.size+1,3,none⟩=some (it 0):=(by rw[Ca,aT (w.heap.size+1+1) (show w.heap.size+1≠w.heap.size+1+1 by omega)];exact We);have Qg:w4.cell? ⟨w.heap.size+1,4,none⟩=some (it 0):=(by rw[Ca,aT (w.heap.size+1+1) (show w.heap.size+1≠w.heap.size+1+1 by omega)];exact Ye);have Rg:w4.cell? ⟨w.heap.size+1,5,none⟩=some (it 0):=(by rw[Ca,aT (w.heap.size+1+1) (show w.heap.size+1≠w.heap.size+1+1 by omega)];exact Af);have Sg:w4.cell? ⟨w.heap.size+1,6,none⟩=some (it 0):=(by rw[Ca,aT (w.heap.size+1+1) (show w.heap.size+1≠w.heap.size+1+1 by omega)];exact Cf);have Tg:w4.cell? ⟨w.heap.size+1,7,none⟩=some (it 0):=(by rw[Ca,aT (w.heap.size+1+1) (show w.heap.size+1≠w.heap.size+1+1 by omega)];exact Ef);have Ug:w4.cell? ⟨w.heap.size+1,8,none⟩=some (it 0):=(by rw[Ca,aT (w.heap.size+1+1) (show w.heap.size+1≠w.heap.size+1+1 by omega)];exact Gf);have Vg:w4.cell? ⟨w.heap.size+1,9,none⟩=some (it 0):=(by rw[Ca,aT (w.heap.size+1+1) (show w.heap.size+1≠w.heap.size+1+1 by omega)];exact If);have Wg:w4.cell? ⟨w.heap.size+1,10,none⟩=some (it 0):=(by rw[Ca,aT (w.heap.size+1+1) (show w.heap.size+1≠w.heap.size+1+1 by omega)];exact Kf);have Xg:w4.cell? ⟨w.heap.size+1,11,none⟩=some (it 0):=(by rw[Ca,aT (w.heap.size+1+1) (show w.heap.size+1≠w.heap.size+1+1 by omega)];exact Nf);have Ri:w4.frozen? ⟨w.heap.size+1,0,none⟩=false:=(by rw[Ca,aC];exact Re);have Si:w4.frozen? ⟨w.heap.size+1,1,none⟩=false:=(by rw[Ca,aC];exact Te);have Ti:w4.frozen? ⟨w.heap.size+1,2,none⟩=false:=(by rw[Ca,aC];exact Ve);have Ui:w4.frozen? ⟨w.heap.size+1,3,none⟩=false:=(by rw[Ca,aC];exact Xe);have Vi:w4.frozen? ⟨w.heap.size+1,4,none⟩=false:=(by rw[Ca,aC];exact Ze);have Wi:w4.frozen? ⟨w.heap.size+1,5,none⟩=false:=(by rw[Ca,aC];exact Bf);have Xi:w4.frozen? ⟨w.heap.size+1,6,none⟩=false:=(by rw[Ca,aC];exact Df);have Yi:w4.frozen? ⟨w.heap.size+1,7,none⟩=false:=(by rw[Ca,aC];exact Ff);have Zi:w4.frozen? ⟨w.heap.size+1,8,none⟩=false:=(by rw[Ca,aC];exact Hf);have Aj:w4.frozen? ⟨w.heap.size+1,9,none⟩=false:=(by rw[Ca,aC];exact Jf);have Bj:w4.frozen? ⟨w.heap.size+1,10,none⟩=false:=(by rw[Ca,aC];exact Lf);have Cj:w4.frozen? ⟨w.heap.size+1,11,none⟩=false:=(by rw[Ca,aC];exact Of);have Yg:H9 (Below w.heap.size w w4):=(by show Below _ _ _;rw[Ca];exact dz (by omega) _ _ _ Yf.o);have Zg:H9 (w.heap.size+3≤w4.heap.size):=(by show _≤_;rw[Ca,fQ];exact Pe.o);have Ah:H9 (dR w3 (w.heap.size+1+1) 6 (kd a' b' c' d' f' k')=w4):=Ca.symm;clear Fa Ca;have Dj:=Zg.o;obtain⟨w5,Ia⟩:∃u,u=dR w4 (w.heap.size+1) 0 (cu a b c d f k a' b' c' d' f' k'):=⟨_,rfl⟩
 have Da:=fP (w.heap.size+1) [Value.int .i64 a,it b,it c,it d,it f,it k,it a',it b',it c',it d',it f',it k'] w4 0 (fun j hj=>by
  match j,hj with
  | 0,_=>exact⟨_,Lg⟩
  | 1,_=>exact⟨_,Ng⟩
  | 2,_=>exact⟨_,Og⟩
  | 3,_=>exact⟨_,Pg⟩
  | 4,_=>exact⟨_,Qg⟩
  | 5,_=>exact⟨_,Rg⟩
  | 6,_=>exact⟨_,Sg⟩
  | 7,_=>exact⟨_,Tg⟩
  | 8,_=>exact⟨_,Ug⟩
  | 9,_=>exact⟨_,Vg⟩
  | 10,_=>exact⟨_,Wg⟩
  | 11,_=>exact⟨_,Xg⟩)
 rw[←Ia]at Da;have Bh:w5.cell? ⟨w.heap.size+1,0,none⟩=some (it a):=(by simpa using Da 0 _ rfl);have Ch:w5.cell? ⟨w.heap.size+1,1,none⟩=some (it b):=(by simpa using Da 1 _ rfl);have Dh:w5.cell? ⟨w.heap.size+1,2,none⟩=some (it c):=(by simpa using Da 2 _ rfl);have Eh:w5.cell? ⟨w.heap.size+1,3,none⟩=some (it d):=(by simpa using Da 3 _ rfl);have Fh:w5.cell? ⟨w.heap.size+1,4,none⟩=some (it f):=(by simpa using Da 4 _ rfl);have Gh:w5.cell? ⟨w.heap.size+1,5,none⟩=some (it k):=(by simpa using Da 5 _ rfl);have Hh:w5.cell? ⟨w.heap.size+1,6,none⟩=some (it a'):=(by simpa using Da 6 _ rfl);have Ih:w5.cell? ⟨w.heap.size+1,7,none⟩=some (it b'):=(by simpa using Da 7 _ rfl);have Jh:w5.cell? ⟨w.heap.size+1,8,none⟩=some (it c'):=(by simpa using Da 8 _ rfl);have Kh:w5.cell? ⟨w.heap.size+1,9,none⟩=some (it d'):=(by simpa using Da 9 _ rfl);have Lh:w5.cell? ⟨w.heap.size+1,10,none⟩=some (it f'):=(by simpa using Da 10 _ rfl);have Nh:w5.cell? ⟨w.heap.size+1,11,none⟩=some (it k'):=(by simpa using Da 11 _ rfl);have Oh:H9 (Below w.heap.size w w5):=(by show Below _ _ _;rw[Ia];exact dz (by omega) _ _ _ Yg.o);have Ph:H9 (dR w4 (w.heap.size+1) 0 (cu a b c d f k a' b' c' d' f' k')=w5):=Ia.symm;clear Da Ia;clear Qe Se Ue We Ye Af Cf Ef Gf If Kf Nf Re Te Ve Xe Ze Bf Df Ff Hf Jf Lf Of;go_wp2_with(first | rw[show((((((w3.setCell ⟨w.heap.size+1+1,6,none⟩ (it a')).setCell ⟨w.heap.size+1+1,7,none⟩ (it b')).setCell ⟨w.heap.size+1+1,8,none⟩ (it c')).setCell ⟨w.heap.size+1+1,9,none⟩ (it d')).setCell ⟨w.heap.size+1+1,10,none⟩ (it f')).setCell ⟨w.heap.size+1+1,11,none⟩ (it k'))=w4 from Ah.o] | rw[show((((((((((((w4.setCell ⟨w.heap.size+1,0,none⟩ (it a)).setCell ⟨w.heap.size+1,1,none⟩ (it b)).setCell ⟨w.heap.size+1,2,none⟩ (it c)).setCell ⟨w.heap.size+1,3,none⟩ (it d)).setCell ⟨w.heap.size+1,4,none⟩ (it f)).setCell ⟨w.heap.size+1,5,none⟩ (it k)).setCell ⟨w.heap.size+1,6,none⟩ (it a')).setCell ⟨w.heap.size+1,7,none⟩ (it b')).setCell ⟨w.heap.size+1,8,none⟩ (it c')).setCell ⟨w.heap.size+1,9,none⟩ (it d')).setCell ⟨w.heap.size+1,10,none⟩ (it f')).setCell ⟨w.heap.size+1,11,none⟩ (it k'))=w5 from Ph.o])
 refine tx (v:=.agg (cu a b c d f k a' b' c' d' f' k').toArray) (by simp[results,results76,go_sem,Bh,Ch,Dh,Eh,Fh,Gh,Hh,Ih,Jh,Kh,Lh,Nh]) rfl ⟨rfl,Oh.o⟩
end
section
variable {α:Type} {f:α→List Value} {k:Nat}
theorem b8(hf:∀x,(f x).length=k):∀xs:List α,(xs.flatMap f).length=xs.length*k
 | []=>by simp
 | x::xs=>by rw[t',t7,hf,b8 hf xs,List.length_cons,Nat.add_mul];omega
theorem dN(hf:∀x,(f x).length=k)(d:α):∀(xs:List α) {i j:Nat},i<xs.length→j<k→(xs.flatMap f)[i*k+j]?=(f (xs.getD i d))[j]?
 | [],_,_,h,_=>by simp at h
 | x::xs,0,j,_,hj=>by
  rw[t',List.getElem?_append_left (by rw[hf];omega)];simp
 | x::xs,i+1,j,h,hj=>by
  rw[t',List.getElem?_append_right (by rw[hf,Nat.add_mul];omega),hf,show(i+1)*k+j-k=i*k+j by rw[Nat.add_mul];omega,dN hf d xs (by simpa using h) hj];simp
theorem eK(hf:∀x,(f x).length=k):∀(xs:List α) {i:Nat} (c:α),i<xs.length→j4 (xs.flatMap f) (i*k) (f c)=(xs.set i c).flatMap f
 | [],_,_,h=>by simp at h
 | x::xs,0,c,_=>by
  unfold j4;rw[Nat.zero_mul,List.take_zero,List.nil_append,Nat.zero_add,hf,t',List.drop_left' (hf x)];simp
 | x::xs,i+1,c,h=>by
  have ih:=eK hf xs c (i:=i) (by simpa using h);unfold j4 at ih ⊢;rw[hf]at ih ⊢;rw[t',List.set_cons_succ,t',←ih,show(i+1)*k=k+i*k by rw[Nat.add_mul];omega,Nat.add_assoc];rw[List.take_append,List.drop_append,hf,tF (by rw[hf];omega),tC (by rw[hf];omega)];rw[show k+i*k-k=i*k by omega,show k+(i*k+k)-k=i*k+k by omega];simp
theorem iu(z:α)(hf:∀x,(f x).length=k)(cs:Array Value)(hz:f z=cs.toList)(n:Nat):(madeCells cs (n*k)).toList=(List.replicate n z).flatMap f:=by
 have hk:cs.size=k:=(by rw[←hf z,hz,Array.length_toList]);apply List.ext_getElem?;intro i;by_cases hi:i<n*k
 ·
  have h0:0<k:=by
   rcases Nat.eq_zero_or_pos k with h | h
   ·rw[h]at hi;omega
   ·exact h
  have hq:i/k<n:=(by rw[Nat.div_lt_iff_lt_mul h0];exact hi);have hm:i%k<k:=Nat.mod_lt _ h0;have h1:=dN hf z (List.replicate n z) (i:=i/k) (j:=i%k) (by simpa using hq) hm;rw[Nat.mul_comm,Nat.div_add_mod]at h1;have hg:(List.replicate n z).getD (i/k) z=z:=(by rw[tu,List.getElem?_replicate,if_pos hq];rfl);rw[h1,hg,hz];have Aa:i%k<cs.size:=(by rw[hk];exact hm);simp[madeCells,hi,hk];rw[Array.getElem?_eq_getElem Aa,getElem!_pos cs _ Aa]
 ·rw[List.getElem?_eq_none (by simp[madeCells];omega),List.getElem?_eq_none (by rw[b8 hf,tX];omega)]
theorem jX{vs:List Value}(h:w.ownsRow i' t k (.slice (some ⟨g,0,none⟩) n n) n vs):ae w g vs:=by
 obtain⟨hl,h⟩:=h
 rcases h with⟨e,_⟩ | ⟨g',c,cur,e,hb,hh,hn,_,hs,ht⟩
 ·simp at e
 ·
  simp only[Value.slice.injEq,Option.some.injEq,Addr.mk.injEq,and_true,true_and]at e;obtain⟨rfl,rfl⟩:=e;have Aa:cur.toList=vs:=(by rw[←ht,tF (by rw[Array.length_toList,hs];exact tr _)]);refine⟨fun i=>by rw[←Aa];simp[World.cell?,hh],fun i=>by simp[World.frozen?,hh],?_⟩
  rcases Nat.lt_or_ge g w.heap.size with hl | hl
  ·exact hl
  ·rw[Array.getElem?_eq_none hl]at hh;simp at hh
end
namespace M
structure Tk where
 done:Bool
 l':Int
 due:Int
structure Jb where
 id:Int
 m:M.Mc
 s:Int×Int
 rows:Int
 gone:Bool
 ts:List Tk
def t0:Tk:=⟨false,0,0⟩
def m0:M.Mc:=⟨⟨0,0,0,0,0,0⟩,⟨0,0,0,0,0,0⟩⟩
def j0:Jb:=⟨0,m0,(0,0),0,false,[]⟩
end M
def bO(t:M.Tk):List Value:=[.bool t.done,.int .i64 t.l',.int .i64 t.due]
def ia(t:M.Tk):Value:=.agg #[.bool t.done,.int .i64 t.l',.int .i64 t.due]
def dJ(j:M.Jb)(a:Option Addr)(c:Nat):List Value:=
 [.int .i64 j.id,.int .i64 j.m.X.xx,.int .i64 j.m.X.xy,.int .i64 j.m.X.yy,.int .i64 j.m.X.x,.int .i64 j.m.X.y,.int .i64 j.m.X.k,.int .i64 j.m.Y.xx,.int .i64 j.m.Y.xy,.int .i64 j.m.Y.yy,.int .i64 j.m.Y.x,.int .i64 j.m.Y.y,.int .i64 j.m.Y.k,.int .i64 j.s.1,.int .i64 j.s.2,.int .i64 j.rows,.bool j.gone,.slice a j.ts.length c]
def fu(q:M.Jb×Option Addr×Nat):List Value:=dJ q.1 q.2.1 q.2.2
theorem ct(t:M.Tk):(bO t).length=3:=rfl
theorem co(q:M.Jb×Option Addr×Nat):(fu q).length=18:=rfl
structure aY(w:World)(a:Option Addr)(n cap:Nat)(ts:List M.Tk):Prop where
 len:ts.length=n
 le:n≤cap
 big:(cap:Int)≤9223372036854775807
 no:a=none→n=0∧cap=0
 pos:n=0∨∃b off,a=some ⟨b,off,none⟩∧∀i,i<n→∀j,j<3→w.cell? ⟨b,off+i*3+j,none⟩=(bO (ts.getD i M.t0))[j]?
theorem aY.at{ts:List M.Tk}(h:aY w a n cap ts)(h0:0<n):∃b off,a=some ⟨b,off,none⟩∧∀i,i<n→∀j,j<3→w.cell? ⟨b,off+i*3+j,none⟩=(bO (ts.getD i M.t0))[j]?:=by
 rcases h.pos with e | e
 ·omega
 ·exact e
theorem aY.below{ts:List M.Tk}(h:aY w a n cap ts)(hb:Below w.heap.size w w'):aY w' a n cap ts:=by
 refine⟨h.len,h.le,h.big,h.no,?_⟩;by_cases h0:n=0
 ·exact .inl h0
 ·
  obtain⟨b,Aa,e,hc⟩:=h.at (by omega);have Ba:b<w.heap.size:=tV w ⟨b,Aa+0*3+0,none⟩ ((hc 0 (by omega) 0 (by omega)).trans rfl);exact .inr ⟨b,Aa,e,fun i hi j hj=>(hb.cell (p:=⟨b,Aa+i*3+j,none⟩) Ba).trans (hc i hi j hj)⟩
theorem ae.seesT{ts:List M.Tk}(h:ae w g (ts.flatMap bO))(hl:ts.length=n)(hb:n≤1048576):aY w (some ⟨g,0,none⟩) n n ts:=
 ⟨hl,tr _,by omega,fun e=>by simp at e,.inr ⟨g,0,rfl,fun i hi j hj=>by
  rw[Nat.zero_add,h.at,dN ct M.t0 ts (by omega) hj]⟩⟩
structure dp(w:World)(a:Option Addr)(n cap:Nat)(js:List M.Jb):Prop where
 len:js.length=n
 le:n≤cap
 big:(cap:Int)≤9223372036854775807
 no:a=none→n=0∧cap=0
 pos:n=0∨∃b off,a=some ⟨b,off,none⟩∧∀i,i<n→∃(ta:Option Addr) (tc:Nat),(∀j,j<18→w.cell? ⟨b,off+i*18+j,none⟩=(dJ (js.getD i M.j0) ta tc)[j]?)∧aY w ta (js.getD i M.j0).ts.length tc (js.getD i M.j0).ts
theorem dp.at{js:List M.Jb}(h:dp w a n cap js)(h0:0<n):∃b off,a=some ⟨b,off,none⟩∧∀i,i<n→∃(ta:Option Addr) (tc:Nat),(∀j,j<18→w.cell? ⟨b,off+i*18+j,none⟩=(dJ (js.getD i M.j0) ta tc)[j]?)∧aY w ta (js.getD i M.j0).ts.length tc (js.getD i M.j0).ts:=by
 rcases h.pos with e | e
 ·omega
 ·exact e
theorem dp.below{js:List M.Jb}(h:dp w a n cap js)(hb:Below w.heap.size w w'):dp w' a n cap js:=by
 refine⟨h.len,h.le,h.big,h.no,?_⟩;by_cases h0:n=0
 ·exact .inl h0
 ·
  obtain⟨b,Aa,e,hc⟩:=h.at (by omega)
  have Ba:b<w.heap.size:=by
   obtain⟨ta,tc,h1,_⟩:=hc 0 (by omega);exact tV w ⟨b,Aa+0*18+0,none⟩ ((h1 0 (by omega)).trans rfl)
  refine .inr ⟨b,Aa,e,fun i hi=>?_⟩;obtain⟨ta,tc,h1,h2⟩:=hc i hi;exact⟨ta,tc,fun j hj=>(hb.cell (p:=⟨b,Aa+i*18+j,none⟩) Ba).trans (h1 j hj),h2.below hb⟩
structure bv(w:World)(ab:Option Addr)(nb cb:Nat)(aj:Option Addr)(nj cj:Nat)(bs:List Int)(js:List M.Jb):Prop where
 b:ah w ab nb cb bs
 j:dp w aj nj cj js
theorem bv.below{ab:Option Addr}{nb cb:Nat}{aj:Option Addr}{nj cj:Nat}{bs:List Int}{js:List M.Jb}(h:bv w ab nb cb aj nj cj bs js)(hb:Below w.heap.size w w'):bv w' ab nb cb aj nj cj bs js:=⟨h.b.below hb,h.j.below hb⟩
structure rM(P:Prop):Prop where
 out:P
structure sR(G:Prop) where
 p:Prop
 h:rM p→G
structure pT(G:Prop) where
 p:Prop
 q:Prop
 h:rM p→rM q→G
def M.rows(n:Int):Bool:=decide (n=2)||(decide (n=4)||(decide (n=8)||decide (n=16)))
theorem jH{n:Int}(h:M.rows n=true):n=2∨n=4∨n=8∨n=16:=by
 unfold M.rows at h;simpa using h
theorem nT{n:Int}(h:2≤n):((16:Int).tmod n==0)=M.rows n:=by
 by_cases Aa:n≤16
 ·
  obtain⟨k,rfl⟩:=Int.eq_ofNat_of_zero_le (show 0≤n by omega);have hk:k≤16:=(by omega);have Ba:2≤k:=(by omega);clear h Aa;have:k=2∨k=3∨k=4∨k=5∨k=6∨k=7∨k=8∨k=9∨k=10∨k=11∨k=12∨k=13∨k=14∨k=15∨k=16:=by omega
  rcases this with rfl | rfl | rfl | rfl | rfl | rfl | rfl | rfl | rfl | rfl | rfl | rfl | rfl | rfl | rfl <;> rfl
 ·
  have e:(16:Int).tmod n=16:=Int.tmod_eq_of_lt (by omega) (by omega);rw[e];unfold M.rows;simp;omega
theorem gF(n:Int)(w:World):Rq 176 #[.int .i64 n] w (.bool (M.rows n)):=by
 by_cases h:2≤n
 ·
  have hm:=nT h;have Aa:((16:Int)%n==0)=M.rows n:=(by rw[←Int.tmod_eq_emod_of_nonneg (by omega)];exact hm);have hz:(n==0)=false:=(by simp;omega);generalize M.rows n=o at *;go_enter func176,ntmps176;go_wp2;go_ret;exact⟨by simp_all,rfl⟩
 ·
  have hm:M.rows n=false:=(by unfold M.rows;simp;omega);rw[hm];go_enter func176,ntmps176;go_wp2;go_ret;exact⟨rfl,rfl⟩
theorem mK(n:Int)(w:World):Rq 164 #[.int .i64 n,.int .i64 16] w (.bool (decide (n=1)||M.rows n)):=by
 go_enter func164,ntmps164;go_wp2
 go_loop [5] (fun k=>∃p:Int,k=it p∧(p=1∨(p=2∧n≠1)∨(p=4∧n≠1∧n≠2)∨(p=8∧n≠1∧n≠2∧n≠4)∨(p=16∧n≠1∧n≠2∧n≠4∧n≠8)∨(p=32∧n≠1∧n≠2∧n≠4∧n≠8∧n≠16))) (fun k=>(33-intOf k).toNat)
 case atStart=>exact⟨1,rfl,.inl rfl⟩
 case round=>
  obtain⟨p,rfl,hp⟩:=hrel;by_cases Aa:p=32
  ·
   subst Aa;have hm:H9 ((decide (n=1)||M.rows n)=false):=(by show _=_;unfold M.rows;simp;omega);clear hp;go_wp2;go_ret;exact⟨ag hm.o.symm,rfl⟩
  ·
   have Ba:p≤16:=(by omega);have Ca:1≤p:=(by omega);by_cases he:p=n
   ·
    have hm:H9 ((decide (n=1)||M.rows n)=true):=(by show _=_;unfold M.rows;simp;omega);have hb:(p==n)=true:=(by simp[he]);clear hp he;go_wp2;go_ret;exact⟨ag hm.o.symm,rfl⟩
   ·
    have hb:(p==n)=false:=(by simp[he]);have HP:=Hd (hp);have HE:H9 (p≠n):=he;clear hp he;go_wp2
    go_round
    case rel=>
     have hp:=HP.o;have he:=HE.o;exact⟨2*p,by go_num,by omega⟩
    case measure=>simp[intOf];omega
theorem gB(n:Int)(w:World):Rq 100 #[.int .i64 n] w (.bool (M.rows n)):=by
 by_cases h:2≤n
 ·
  have hm:(decide (n=1)||M.rows n)=M.rows n:=by
   have:decide (n=1)=false:=(by simp;omega);rw[this];rfl
  have C1:=mK n;rw[hm]at C1;go_enter func100,ntmps100;(go_wp2_with fail);refine(C1 _).mono ?_;rintro e w1 ⟨rfl,rfl⟩;go_wp2;go_ret;exact⟨rfl,rfl⟩
 ·
  have hm:M.rows n=false:=(by unfold M.rows;simp;omega);rw[hm];go_enter func100,ntmps100;go_wp2;go_ret;exact⟨rfl,rfl⟩
theorem ar.whole(h:ar t w i' (some ⟨g,0,none⟩) n n zs):w.heap[g]?=some (.cells (zs.map (Value.int .i64)).toArray t (0,0)):=by
 rcases h.2 with⟨e,_⟩ | ⟨g',c,cur,e,_,hh,_,_,hs,ht⟩
 ·simp at e
 ·
  simp only[Value.slice.injEq,Option.some.injEq,Addr.mk.injEq]at e;obtain⟨⟨rfl,-,-⟩,-,rfl⟩:=e;rw[hh]
  have:cur.toList=zs.map (Value.int .i64):=by
   rw[tF (by rw[Array.length_toList,hs];exact tr _)]at ht;exact ht
  congr 2
  rw[←this]
def M.part(zs ys:List Int)(k i:Nat):Int:=if i<k then pM zs ys i else zs.getD i 0
namespace M
def pm:List Int→List Int→Nat→Int
 | [],_,_=>0
 | c::r,ys,i=>(c*ys.getD i 0+(if i=0 then 0 else pm r ys (i-1)))%65537
def pmul(zs ys:List Int):List Int:=if zs.length=0∨ys.length=0 then[]else trim (tab (zs.length+ys.length-1) (pm zs ys))
def pscale(zs:List Int)(c:Int):List Int:=zs.map fun a=>a*c%65537
theorem all_cons{c:Int}(hc:0≤c∧c<65537)(h:allEl zs=true):allEl (c::zs)=true:=by
 unfold allEl at *;rw[List.all_cons,h,(el_iff c).2 hc];rfl
end M
namespace M
theorem mm(a x:Int):(a%65537*x)%65537=a*x%65537:=by
  rw[Int.mul_emod,Int.emod_emod_of_dvd _ (Int.dvd_refl _),←Int.mul_emod]
end M
namespace M
theorem nodup_iff(xs:List Int):xs.Nodup↔∀i j,i<j→j<xs.length→xs.getD i 0≠xs.getD j 0:=by
 unfold List.Nodup;rw[List.pairwise_iff_getElem]
 constructor
 ·
  intro h i j Aa hj;have:=h i j (by omega) hj Aa;simpa[tu,tw hj,tw (show i<xs.length by omega)]using this
 ·
  intro h i j hi hj Aa;have:=h i j Aa hj;simpa[tu,tw hj,tw hi]using this
structure Lag(xs f:List Int)(b:Int)(i k:Nat):Prop where
 fl:allEl f=true
 lf:f.length≤(if i<k then k else k+1)
 vz:∀j,j<k→j≠i→ev f (xs.getD j 0)=0
 vb:ev f (xs.getD i 0)=b
 b0:b≠0
theorem Lag.bd{xs f:List Int}{b:Int}{i:Nat}(h:Lag xs f b i k):0≤b∧b<65537:=by rw[←h.vb];exact ev_bd _ _
end M
end Go.Proofs.YtjcjonncaknhnaaGreatDoor
