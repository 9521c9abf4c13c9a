import Derived.Laws.EntriesVeiled
import Derived.Test.YtjcjonncaknhnaaGreatDoorPk04
namespace Go.Proofs.YtjcjonncaknhnaaGreatDoor
open Go.RowKit Go.Proofs.Tryz
set_option linter.unusedSimpArgs false
set_option maxHeartbeats 32000000
variable {zs:List Int}{k n c lc pc N RL RF RP:Nat}{a la pa:Option Addr}{r s:Int}
theorem nO{i:Nat}(hi:i<zs.length)(hk:k<i)(e:zs.getD i 0=zs.getD k 0):decide zs.Nodup=false:=
 decide_eq_false fun h=>(M.nodup_iff zs).1 h k i hk hi e.symm
theorem mf(h:∀i k,i<zs.length→k<i→zs.getD i 0≠zs.getD k 0):decide zs.Nodup=true:=
 decide_eq_true ((M.nodup_iff zs).2 fun i j hij hj e=>h j i hj hij e.symm)
theorem ki(w:World)(hz:ah w a n c zs):
  Rq 114 #[.slice a n c] w (.bool (decide zs.Nodup)):=by
 have bn:(n:Int)≤9223372036854775807:=(by have:=hz.big;have:=hz.le;omega);have Fa:(n:Int)≤(c:Int):=(by have:=hz.le;omega);have HZ:=Hd (hz);clear hz;go_enter func114,ntmps114;go_wp2
 go_loop [9] (fun i=>∃k:Nat,k≤n∧i=it k∧∀i j,i<k→j<i→zs.getD i 0≠zs.getD j 0) (fun i=>n-(intOf i).toNat)
 case atStart=>exact⟨0,by omega,rfl,fun i j h=>by omega⟩
 case round=>
  obtain⟨i,hi,rfl,Ba⟩:=hrel;have HA:=Hd (Ba);clear Ba;by_cases Ca:i<n
  ·
   obtain⟨b1,o1,rfl,Aa⟩:=HZ.o.at (by omega);have c1:=Aa i Ca;have HC:=Hd (Aa);clear Aa;generalize hx:zs.getD i 0=x at c1;have HX:=Hd (hx);have hI:(i:Int)<(n:Int):=(by omega);have Ga:(i:Int)≤(c:Int):=(by omega);have Ha:i≤c:=(by omega);clear hx;go_wp2
   go_loop [18] (fun q=>∃k:Nat,k≤i∧q=it k∧∀j,j<k→x≠zs.getD j 0) (fun q=>i-(intOf q).toNat)
   case atStart=>exact⟨0,by omega,rfl,fun j h=>by omega⟩
   case round=>
    obtain⟨k,hk,rfl,Da⟩:=hrel;have HN:=Hd (Da);clear Da;by_cases Ea:k<i
    ·
     have c2:=HC.o k (by omega);generalize hy:zs.getD k 0=y at c2;have HY:=Hd (hy);have hK:(k:Int)<(i:Int):=(by omega);clear hy;by_cases he:x=y
     ·
      have hb:(x==y)=true:=(by simp[he]);have HE:H9 (x=y):=he;clear he;go_wp2;go_ret;exact⟨ag (nO (by rw[HZ.o.len];exact Ca) Ea (by rw[HX.o,HY.o];exact HE.o)).symm,rfl⟩
     ·
      have hb:(x==y)=false:=(by simp[he]);have HE:H9 (x≠y):=he;clear he;go_wp2
      go_round
      case rel=>
       refine⟨k+1,by omega,by go_num,fun j hj=>?_⟩;by_cases e:j=k
       ·subst e;rw[HY.o];exact HE.o
       ·exact HN.o j (by omega)
      case measure=>simp[intOf];omega
    ·
     have hki':k=i:=(by omega);have HK:H9 (k=i):=hki';clear hki';go_wp2
     go_round
     case rel=>
      refine⟨i+1,by omega,by go_num,fun j m hj hm=>?_⟩;by_cases e:j=i
      ·subst e;rw[HX.o];exact HN.o m (by rw[HK.o];exact hm)
      ·exact HA.o j m (by omega) hm
     case measure=>simp[intOf];omega
  ·
   go_wp2;go_ret;exact⟨ag (mf fun j k hj hk=>HA.o j k (by rw[HZ.o.len]at hj;omega) hk).symm,rfl⟩
def M.gp(a q:Int)(k:Nat):List Int:=M.tab k (fun i=>a*q ^ i%65537)
theorem qW(a q:Int)(k:Nat):M.allEl (M.gp a q k)=true:=M.all_tab fun i _=>(M.el_iff _).2 ⟨by omega,by omega⟩
theorem kK(a q:Int)(k:Nat):M.gp a q k++[a*q ^ k%65537]=M.gp a q (k+1):=ge k _
theorem kL(a q:Int)(k:Nat):a*q ^ k%65537*q%65537=a*q ^ (k+1)%65537:=by
 rw[M.mm,Int.mul_assoc,Int.pow_succ]
theorem kM{a:Int}(a0:0≤a)(a1:a<65537)(q:Int):a=a*q ^ 0%65537:=by
 rw[Int.pow_zero,Int.mul_one,Int.emod_eq_of_lt a0 a1]
def sr:Value→Nat
 | .slice _ n _=>n
 | _=>0
theorem ei(a q:Int)(K:Nat)(w:World)(a0:0≤a)(a1:a<65537)(q0:0≤q)(q1:q<65537)(hK:K≤1048576):
  Calls prog 251 #[.int .i64 a,.int .i64 q,.int .i64 K] w fun e w'=>∃a' c',e=.returned (.slice a' K c')∧ar 182 w' w.heap.size a' K c' (M.gp a q K)∧Below w.heap.size w w':=by
 obtain⟨i0,hi,Ca,Da,Ea⟩:=info_parts dk;have HI:H9 (prog.info? 182=some i0∧i0.zero=some (Value.int .i64 0)∧i0.size=1∧i0.bytes=8):=⟨hi,Ca,Da,Ea⟩;have La:H9 (a=a*q ^ 0%65537):=kM a0 a1 q;go_enter func251,ntmps251;(go_wp2_with(at_make;refine wpList_make_own _ rfl _ _ 125 rfl w.heap.size 182 i0 (it 0) 1 underlying125 hi Ca Da .i64 .i64 _ K rfl rfl rfl (by rw[Ea];omega) (by unfold maxLen;omega) (tr _) ?_));intro w1 Aa hg;have HO:=Hd (Aa);have HB:H9 (Below w.heap.size w w1):=bq hg;clear Aa hg hi Ca Da Ea;go_wp2
 go_loopw [7,8] (fun s v wr=>∃(k:Nat) (a':Option Addr) (Ba:Nat),k≤K∧s=.slice a' k Ba∧v=it (a*q ^ k%65537)∧ar 182 wr w.heap.size a' k Ba (M.gp a q k)∧Below w.heap.size w wr) (fun s _ _=>K-sr s)
 case atStart=>exact⟨0,_,_,by omega,rfl,by rw[←La.o],HO.o,HB.o⟩
 case round=>
  obtain⟨k,a',Ba,hk,rfl,rfl,Ha,Fa⟩:=hrel;have Ga:=Hd (Ha);have Ia:=Hd (Fa);have Na:=Fa.size;clear Ha Fa HO HB;have HS:H9 (M.gp a q k++[a*q ^ k%65537]=M.gp a q (k+1)):=kK a q k;have HT:H9 (a*q ^ k%65537*q%65537=a*q ^ (k+1)%65537):=kL a q k;by_cases Sa:k<K
  ·
   have hI:(k:Int)<(K:Int):=(by omega);have y0:0≤a*q ^ k%65537:=(by omega);have y1:a*q ^ k%65537<65537:=(by omega);generalize hy:a*q ^ k%65537=y at HS HT y0 y1;clear hy;(go_wp2_with(at_builtin;refine wpList_append_own _ rfl _ _ 125 rfl w.heap.size 182 i0 (it 0) 1 8 underlying125 HI.o.1 HI.o.2.1 HI.o.2.2.1 HI.o.2.2.2 rfl (by decide) _ k ((M.gp a q k).map (Value.int .i64)) rfl (uc Ga.o _) ⟨wr.heap.size,0,none⟩ 1 1 [it y] rfl rfl (b7 wr _ _) (cJ _) (by unfold maxLen;omega) (by omega) (by simp;omega) ?_));intro v' w1 Aa Ja _;have hown':w1.ownsRow w.heap.size 182 1 v' (k+1) ((M.gp a q (k+1)).map (Value.int .i64)):=(by rw[←HS.o,t8];exact Aa);obtain⟨a2,Oa,rfl,Ka⟩:=ar.form hown';have Pa:=Hd (Ka);have Qa:H9 (Below w.heap.size w w1):=Ia.o.grown ((tO wr _ _).trans Ja) Na Ga.o.row;clear Aa hown' Ja Ka;(go_wp2_with fail);refine(bM y q _ y0 y1 q0 q1).mono ?_;rintro e w' ⟨rfl,rfl⟩;go_wp2;go_roundw
   case rel=>exact⟨k+1,a2,Oa,by omega,rfl,by rw[HT.o],Pa.o,Qa.o⟩
   case measure=>simp[sr];omega
  ·
   have Ra:k=K:=(by omega);subst Ra;go_wp2;go_ret;exact⟨a',Ba,rfl,Ga.o,Ia.o⟩
theorem eu(n s:Int)(w:World)(h:M.ptOk n s=true):
  Rt 177 #[.int .i64 n,.int .i64 s] w (.tuple #[.agg #[.int .i64 n,.int .i64 s,.int .i64 (M.root n)],.bool true]):=by
 obtain⟨h1,h2,h3⟩:=M.ptOk_parts h;obtain⟨s0,s1⟩:=(M.el_iff s).1 h2;obtain⟨n0,n1⟩:=M.two64_bd h1;have Aa:(s==0)=false:=(by simp[h3]);have Ba:(64%n != 0)=false:=(by simp[(M.two64_div n0).1 h1]);have Ca:¬ n<1:=(by omega);clear h h1 h2 h3;go_enter func177,ntmps177;go_wp2_with(first | (go_at_call 245;refine(dc s _ s0 s1).mono ?_;rintro e w' ⟨rfl,rfl⟩) | (go_at_call 246;refine(ly n _).mono ?_;rintro e w' ⟨rfl,rfl⟩))
 refine tx (v:=.tuple #[.agg #[it n,it s,it (M.root n)],.bool true]) (by simp[results,results177,go_sem]) rfl ⟨rfl,?_⟩;exact(tv _ _).alloc (tr _) _
theorem lL(n s:Int)(w:World)(h:M.ptOk n s=false):
  Rt 177 #[.int .i64 n,.int .i64 s] w (.tuple #[.agg #[.int .i64 0,.int .i64 0,.int .i64 0],.bool false]):=by
 cases he:M.el s with
 | false=>
  have HX:H9 (s<0∨65537≤s):=(M.el_not s).1 he;clear h he;go_enter func177,ntmps177;(go_wp2_with(go_at_call 245;refine(dg s _ HX.o).mono ?_;rintro e w' ⟨rfl,rfl⟩));refine tx (v:=.tuple #[.agg #[it 0,it 0,it 0],.bool false]) (by simp[results,results177,go_sem]) rfl ⟨rfl,?_⟩;exact(tv _ _).alloc (tr _) _
 | true=>
  obtain⟨s0,s1⟩:=(M.el_iff s).1 he;by_cases hs:s=0;have Aa:(s==0)=true:=by simp[hs]
  rotate_left
  have Aa:(s==0)=false:=(by simp[hs]);by_cases hn:n<1
  rotate_left
  have Ba:(64%n != 0)=true:=by
   rw[bne_iff_ne];intro e;rw[M.ptOk_mk ((M.two64_div (by omega)).2 e) he hs]at h;cases h
  rotate_left
  all_goals
   clear h he hs;go_enter func177,ntmps177;(go_wp2_with(go_at_call 245;refine(dc s _ s0 s1).mono ?_;rintro e w' ⟨rfl,rfl⟩));refine tx (v:=.tuple #[.agg #[it 0,it 0,it 0],.bool false]) (by simp[results,results177,go_sem]) rfl ⟨rfl,?_⟩;exact(tv _ _).alloc (tr _) _
theorem lC(N:Nat)(s:Int)(w:World)(h:M.ptOk N s=true):
  Calls prog 168 #[.int .i64 N,.int .i64 s] w fun e w'=>∃a' c',e=.returned (.slice a' N c')∧ar 2 w' w.heap.size a' N c' (M.gp s (M.root N) N)∧Below w.heap.size w w':=by
 obtain⟨i0,hi,Da,Ea,Fa⟩:=info_parts cn;have HI:H9 (prog.info? 2=some i0∧i0.zero=some (Value.int .i64 0)∧i0.size=1∧i0.bytes=8):=⟨hi,Da,Ea,Fa⟩;obtain⟨h1,h2,h3⟩:=M.ptOk_parts h;obtain⟨s0,s1⟩:=(M.el_iff s).1 h2;obtain⟨n0,n1⟩:=M.two64_bd h1;obtain⟨q0,q1⟩:=(M.el_iff _).1 (M.root_el (M.two64_two h1));have La:H9 (s=s*M.root N ^ 0%65537):=kM s0 s1 _;clear h h1 h2 h3 hi Da Ea Fa;go_enter func168,ntmps168;(go_wp2_with fail);refine(fj N _).mono ?_;rintro e w' ⟨rfl,rfl⟩;generalize hq:M.root N=q at *;have HQ:=Hd (hq);clear hq;go_wp2
 go_loopw [5,7,8] (fun o v i wr=>∃(k:Nat) (a':Option Addr) (Aa:Nat),k≤N∧i=it k∧o=.slice a' k Aa∧v=it (s*q ^ k%65537)∧ar 2 wr w.heap.size a' k Aa (M.gp s q k)∧Below w.heap.size w wr) (fun _ _ i _=>N-(intOf i).toNat)
 case atStart=>exact⟨0,_,_,by omega,rfl,rfl,by rw[←La.o],World.ownsRow_made w #[] 0 (tr _) (by unfold maxLen;omega) rfl,(tv _ _).alloc (tr _) _⟩
 case round=>
  obtain⟨k,a',Aa,hk,rfl,rfl,rfl,Ga,Ba⟩:=hrel;have Ca:=Hd (Ga);have Ha:=Hd (Ba);have Na:=Ba.size;clear Ga Ba;have HS:H9 (M.gp s q k++[s*q ^ k%65537]=M.gp s q (k+1)):=kK s q k;have HT:H9 (s*q ^ k%65537*q%65537=s*q ^ (k+1)%65537):=kL s q k;by_cases Sa:k<N
  ·
   have hI:(k:Int)<(N:Int):=(by omega);have y0:0≤s*q ^ k%65537:=(by omega);have y1:s*q ^ k%65537<65537:=(by omega);generalize hy:s*q ^ k%65537=y at HS HT y0 y1;obtain⟨m0,m1⟩:=M.mul_bd y0 y1 q0 q1;clear hy;(go_wp2_with(at_builtin;refine wpList_append_own _ rfl _ _ 24 rfl w.heap.size 2 i0 (it 0) 1 8 underlying24 HI.o.1 HI.o.2.1 HI.o.2.2.1 HI.o.2.2.2 rfl (by decide) _ k ((M.gp s q k).map (Value.int .i64)) rfl (uc Ca.o _) ⟨wr.heap.size,0,none⟩ 1 1 [it y] rfl rfl (b7 wr _ _) (cJ _) (by unfold maxLen;omega) (by omega) (by simp;omega) ?_));intro v' w1 Ia Ja _;have hown':w1.ownsRow w.heap.size 2 1 v' (k+1) ((M.gp s q (k+1)).map (Value.int .i64)):=(by rw[←HS.o,t8];exact Ia);obtain⟨a2,Oa,rfl,Ka⟩:=ar.form hown';have Pa:=Hd (Ka);have Qa:H9 (Below w.heap.size w w1):=Ha.o.grown ((tO wr _ _).trans Ja) Na Ca.o.row;clear Ia hown' Ja Ka;go_wp2;go_roundw
   case rel=>exact⟨k+1,a2,Oa,by omega,by go_num,rfl,by rw[HT.o],Pa.o,Qa.o⟩
   case measure=>simp[intOf];omega
  ·
   have Ra:k=N:=(by omega);subst Ra;go_wp2;go_ret;exact⟨a',Aa,rfl,by rw[HQ.o];exact Ca.o,Ha.o⟩
theorem fY(N:Nat)(s q:Int)(w:World)(s0:0≤s)(s1:s<65537)(q0:0≤q)(q1:q<65537)(hN:N≤1048576):
  Calls prog 253 #[.agg #[.int .i64 N,.int .i64 s,.int .i64 q]] w fun e w'=>∃a' c',e=.returned (.slice a' N c')∧ar 182 w' w.heap.size a' N c' (M.gp s q N)∧Below w.heap.size w w':=by
 go_enter func253,ntmps253;(go_wp2_with fail);refine(ei s q N _ s0 s1 q0 q1 hN).mono ?_;rintro e w1 ⟨a1,c1,rfl,Aa,Ba⟩;have Ca:H9 (ar 182 w1 w.heap.size a1 N c1 (M.gp s q N)):=Aa.mono (by simp);have Da:H9 (Below w.heap.size w w1):=((tv _ _).alloc (tr _) _).trans (Ba.mono (by simp));clear Aa Ba;go_wp2;go_ret;exact⟨a1,c1,rfl,Ca.o,Da.o⟩
def ic(zs ys:List Int):List Int:=M.tab zs.length (fun i=>zs.getD i 0*ys.getD i 0%65537)
theorem kA{b:Option Addr}{m d:Nat}{ys:List Int}(w:World)(hz:ah w a n c zs)(hy:ah w b m d ys)(az:M.allEl zs=true)(ay:M.allEl ys=true)(hm:m=n)(hn:n≤1048576):
  Calls prog 252 #[.slice a n c,.slice b m d] w fun e w'=>∃a' c',e=.returned (.slice a' n c')∧ar 182 w' w.heap.size a' n c' (ic zs ys)∧Below w.heap.size w w':=by
 subst hm;have HZ:=Hd (hz);have HY:=Hd (hy);have HA:=Hd (az);have HB:=Hd (ay);obtain⟨i0,hi,Da,Ea,Fa⟩:=info_parts dk;have HI:H9 (prog.info? 182=some i0∧i0.zero=some (Value.int .i64 0)∧i0.size=1∧i0.bytes=8):=⟨hi,Da,Ea,Fa⟩;clear hz hy az ay;go_enter func252,ntmps252;(go_wp2_with(at_make;refine wpList_make_own _ rfl _ _ 125 rfl w.heap.size 182 i0 (it 0) 1 underlying125 hi Da Ea .i64 .i64 _ m rfl rfl rfl (by rw[Fa];omega) (by unfold maxLen;omega) (tr _) ?_));intro w1 Aa hg;have HO:=Hd (Aa);have Ia:H9 (Below w.heap.size w w1):=bq hg;clear Aa hg hi Da Ea Fa;go_wp2
 go_loopw [5,13] (fun s i wr=>∃(k:Nat) (a':Option Addr) (Ba:Nat),k≤m∧i=it k∧s=.slice a' k Ba∧ar 182 wr w.heap.size a' k Ba (M.tab k (fun i=>zs.getD i 0*ys.getD i 0%65537))∧Below w.heap.size w wr) (fun _ i _=>m-(intOf i).toNat)
 case atStart=>exact⟨0,_,_,by omega,rfl,rfl,HO.o,Ia.o⟩
 case round=>
  obtain⟨k,a',Ba,hk,rfl,rfl,Ja,Ga⟩:=hrel;have Ha:=Hd (Ja);have Ca:=Hd (Ga);have Sa:=Ga.size;clear Ja Ga HO Ia;by_cases Ka:k<m
  ·
   obtain⟨b1,o1,rfl,La⟩:=(HZ.o.below Ca.o).at (by omega);obtain⟨b2,o2,rfl,Na⟩:=(HY.o.below Ca.o).at (by omega);have c1:=La k Ka;have c2:=Na k Ka;have Oa:=cc HA.o k;have Pa:=cc HB.o k;have HS:H9 (M.tab k (fun i=>zs.getD i 0*ys.getD i 0%65537)++[zs.getD k 0*ys.getD k 0%65537]=M.tab (k+1) (fun i=>zs.getD i 0*ys.getD i 0%65537)):=ge k (fun i=>zs.getD i 0*ys.getD i 0%65537);generalize zs.getD k 0=x at c1 Oa HS;generalize ys.getD k 0=y at c2 Pa HS;obtain⟨x0,x1⟩:=Oa;obtain⟨y0,y1⟩:=Pa;have hI:(k:Int)<(m:Int):=(by omega);clear La Na;(go_wp2_with fail);refine(bM x y _ x0 x1 y0 y1).mono ?_;rintro e wr ⟨rfl,rfl⟩;(go_wp2_with(at_builtin;refine wpList_append_own _ rfl _ _ 125 rfl w.heap.size 182 i0 (it 0) 1 8 underlying125 HI.o.1 HI.o.2.1 HI.o.2.2.1 HI.o.2.2.2 rfl (by decide) _ k ((M.tab k (fun i=>zs.getD i 0*ys.getD i 0%65537)).map (Value.int .i64)) rfl (uc Ha.o _) ⟨wr.heap.size,0,none⟩ 1 1 [it (x*y%65537)] rfl rfl (b7 wr _ _) (cJ _) (by unfold maxLen;omega) (by omega) (by simp;omega) ?_));intro v' w1 Aa Qa _;have hown':w1.ownsRow w.heap.size 182 1 v' (k+1) ((M.tab (k+1) (fun i=>zs.getD i 0*ys.getD i 0%65537)).map (Value.int .i64)):=(by rw[←HS.o,t8];exact Aa);obtain⟨a2,Ta,rfl,Ra⟩:=ar.form hown';have Ua:=Hd (Ra);have Va:H9 (Below w.heap.size w w1):=Ca.o.grown ((tO wr _ _).trans Qa) Sa Ha.o.row;clear Aa hown' Qa Ra;go_wp2;go_roundw
   case rel=>exact⟨k+1,a2,Ta,by omega,by go_num,rfl,Ua.o,Va.o⟩
   case measure=>simp[intOf];omega
  ·
   have Wa:k=m:=(by omega);subst Wa;go_wp2;go_ret;exact⟨a',Ba,rfl,by unfold ic;rw[HZ.o.len];exact Ha.o,Ca.o⟩
theorem ar.one(t:TypeId)(w:World)(x:Int):ar t (w.alloc (.cells #[Value.int .i64 x] t)) w.heap.size (some ⟨w.heap.size,0,none⟩) 1 1 [x]:=by
 refine⟨by simp,.inr ⟨w.heap.size,1,#[Value.int .i64 x],rfl,tr _,?_,tr _,by unfold maxLen;omega,by simp,by simp⟩⟩;unfold World.alloc;simp
def dr(X:Nat→Int)(c j:Nat):List Int:=M.tab (2*c) (fun i=>if i<j∨(c≤i∧i<c+j)then X i else 0)
theorem lj(X:Nat→Int)(c:Nat):List.replicate (2*c) 0=dr X c 0:=by
 refine ii (by simp) fun i hi=>?_;rw[if_neg (by omega),tu,tw (by simpa using hi)];simp
theorem li(X:Nat→Int){j:Nat}(h:j<c):((dr X c j).set j (X j)).set (j+c) (X (j+c))=dr X c (j+1):=by
 unfold dr;rw[ij,ij];refine dn fun i hi=>?_;by_cases e1:i=j+c
 ·subst e1;rw[if_pos rfl,if_pos (by omega)]
 ·
  rw[if_neg e1];by_cases e2:i=j
  ·subst e2;rw[if_pos rfl,if_pos (by omega)]
  ·
   rw[if_neg e2];by_cases e3:i<j∨(c≤i∧i<c+j)
   ·rw[if_pos e3,if_pos (by omega)]
   ·rw[if_neg e3,if_neg (by omega)]
theorem mg(X:Nat→Int)(c:Nat):dr X c c=M.tab (2*c) X:=dn fun i hi=>if_pos (by omega)
def kP(w:World)(la:Option Addr)(lc:Nat)(pa:Option Addr)(pc N RL RF RP:Nat)(zs:List Int)(r:Int):Prop:=
 ah w la N lc zs∧ah w pa N pc (M.gp 1 r N)∧w.cell? ⟨RL,0,none⟩=some (.slice la N lc)∧w.cell? ⟨RF,0,none⟩=some (.func (.func 281) #[] #[.pointer (some ⟨RL,0,none⟩),.pointer (some ⟨RF,0,none⟩),.pointer (some ⟨RP,0,none⟩)])∧w.cell? ⟨RP,0,none⟩=some (.slice pa N pc)
theorem kP.below{w w':World}(h:kP w la lc pa pc N RL RF RP zs r)(hb:Below w.heap.size w w'):kP w' la lc pa pc N RL RF RP zs r:=by
 obtain⟨h1,h2,h3,h4,h5⟩:=h;exact⟨h1.below hb,h2.below hb,(hb.cell (p:=⟨RL,0,none⟩) (tV w _ h3)).trans h3,(hb.cell (p:=⟨RF,0,none⟩) (tV w _ h4)).trans h4,(hb.cell (p:=⟨RP,0,none⟩) (tV w _ h5)).trans h5⟩
theorem sf(hN:N≤1000)(az:M.allEl zs=true)(hr:∀h,N=2*h→M.cg (r ^ h) (-1))(k:Nat):
  ∀(c:Nat),c=2 ^ k→∀(f s:Nat) (w:World),s*c=N→f<s→kP w la lc pa pc N RL RF RP zs r→
  Calls prog 281 #[.int .i64 f,.int .i64 s,.pointer (some ⟨RL,0,none⟩),.pointer (some ⟨RF,0,none⟩),.pointer (some ⟨RP,0,none⟩)] w fun e w'=>∃a' c',e=.returned (.slice a' c c')∧ar 182 w' w.heap.size a' c c' (M.tab c (M.fv (fun i=>zs.getD i 0) r f s c))∧Below w.heap.size w w':=by
 induction k with
 | zero=>
  intro c hc f s w hs hf Ca;rw[Nat.pow_zero]at hc;subst hc;rw[Nat.mul_one]at hs;subst hs;obtain⟨h1,h2,h3,h4,h5⟩:=Ca;obtain⟨b1,o1,rfl,Da⟩:=h1.at (by omega);have c1:=Da f hf;have Ba:=cc az f
  have HV:H9 ([zs.getD f 0]=M.tab 1 (M.fv (fun i=>zs.getD i 0) r f s 1)):=by
   show _=_;have:=M.fv_one (fun i=>zs.getD i 0) r f s Ba.1 Ba.2;rw[show M.tab 1 (M.fv (fun i=>zs.getD i 0) r f s 1)=[M.fv (fun i=>zs.getD i 0) r f s 1 0]from rfl,←this]
  generalize zs.getD f 0=x at c1 HV;have Ga:((s:Int)==(s:Int))=true:=(by simp);have hI:(f:Int)<(s:Int):=(by omega);clear Da h1 h2 h4 h5 Ba;go_enter func281,ntmps281;go_wp2;go_ret;refine⟨_,1,rfl,?_,(tv _ _).alloc (tr _) _⟩;rw[←HV.o];exact ar.one _ _ _
 | succ k ih=>
  intro c2 Ja f s w hs hf Ca;obtain⟨c,hc⟩:∃c,c=2 ^ k:=⟨_,rfl⟩;have Ka:0<c:=(by rw[hc];exact Nat.pow_pos (by omega));have e2:c2=2*c:=(by rw[Ja,hc,Nat.pow_succ,Nat.mul_comm]);subst e2;obtain⟨s2,Ha⟩:∃s2,s2=2*s:=⟨_,rfl⟩;obtain⟨f2,La⟩:∃f2,f2=f+s:=⟨_,rfl⟩;have Za:s2*c=N:=(by rw[Ha,←hs];grind);have Qb:s*c*2=N:=by rw[←hs];grind
  have Yb:s<N:=by
   have:=Nat.mul_le_mul_left s Ka;omega
  have Rb:H9 (∀j,j<c→(M.fv (fun i=>zs.getD i 0) r f s2 c j+M.fv (fun i=>zs.getD i 0) r f2 s2 c j*(1*r ^ (j*s)%65537)%65537)%65537=M.fv (fun i=>zs.getD i 0) r f s (2*c) j):=fun j _=>by
   rw[Ha,La,Int.one_mul];exact M.fv_lo _ r f s c j
  have Sb:H9 (∀j,j<c→(M.fv (fun i=>zs.getD i 0) r f s2 c j+65537-M.fv (fun i=>zs.getD i 0) r f2 s2 c j*(1*r ^ (j*s)%65537)%65537)%65537=M.fv (fun i=>zs.getD i 0) r f s (2*c) (j+c)):=fun j _=>by
   rw[Ha,La,Int.one_mul];exact M.fv_hi _ r f s c j (hr _ (by omega))
  have Na:H9 (∀(f s:Nat) (w:World),s*c=N→f<s→kP w la lc pa pc N RL RF RP zs r→
   Calls prog 281 #[.int .i64 f,.int .i64 s,.pointer (some ⟨RL,0,none⟩),.pointer (some ⟨RF,0,none⟩),.pointer (some ⟨RP,0,none⟩)] w fun e w'=>∃a' c',e=.returned (.slice a' c c')∧ar 182 w' w.heap.size a' c c' (M.tab c (M.fv (fun i=>zs.getD i 0) r f s c))∧Below w.heap.size w w'):=ih c hc
  have HE:=Hd (Ca);have Ea:H9 (s2*c=N∧f<s2∧f2<s2):=⟨Za,by omega,by omega⟩
  have Tb:H9 (2*c≤N):=by
   show _≤_;have h0:1≤s:=(by omega);have:=Nat.mul_le_mul_right (2*c) h0;omega
  have Oa:H9 (∀j,j<c→j*s<N):=fun j hj=>by
   have h0:1≤s:=(by omega);have h1:=Nat.mul_le_mul_right s (show j+1≤c by omega);have h2:c*s=s*c:=Nat.mul_comm _ _;rw[Nat.add_mul]at h1;omega
  have hE:=Ca;obtain⟨h1,h2,h3,h4,h5⟩:=hE;have Ga:((s:Int)==(N:Int))=false:=(by simp;omega);have Zb:(2:Int)*(s:Int)=(s2:Int):=(by omega);have Ac:(f:Int)+(s:Int)=(f2:Int):=(by omega);have w2s':IntKind.i64.wrap (s2:Int)=(s2:Int):=(by rw[tW];omega);have wfs':IntKind.i64.wrap (f2:Int)=(f2:Int):=(by rw[tW];omega);clear h1 h2 hs hc Ja Ha La Qb Za ih Ca hr;have Pa:H9 (∀W,Below w.heap.size w W→W.cell? ⟨RL,0,none⟩=some (.slice la N lc)∧W.cell? ⟨RF,0,none⟩=some (.func (.func 281) #[] #[.pointer (some ⟨RL,0,none⟩),.pointer (some ⟨RF,0,none⟩),.pointer (some ⟨RP,0,none⟩)])∧W.cell? ⟨RP,0,none⟩=some (.slice pa N pc)):=fun W hW=>(HE.o.below hW).2.2;have Ab:H9 (kP w.drew la lc pa pc N RL RF RP zs r):=HE.o.below (tv _ _).drew;have Bb:H9 (Below w.heap.size w w.drew):=(tv _ _).drew;go_enter func281,ntmps281;go_wp2
  go_region_with (first
   | (go_at_call_of 281 (Value.int .i64 (f:Int));refine(Na.o f s2 _ Ea.o.1 Ea.o.2.1 Ab.o).mono ?_;rintro e w1 ⟨a1,c1,rfl,Cb,Ga⟩;have hb1':Below w.heap.size w w1:=Bb.o.trans Ga;obtain⟨g1,g2,g3⟩:=Pa.o _ hb1')
   | (go_at_call 281;refine(Na.o f2 s2 _ Ea.o.1 Ea.o.2.2 (HE.o.below hb1')).mono ?_;rintro e w3 ⟨a3,c3,rfl,Db,Qa⟩;have hb3':Below w.heap.size w w3:=hb1'.trans (Qa.mono hb1'.size);obtain⟨g4,g5,g6⟩:=Pa.o _ hb3'))
  all_goals
   have Ub:H9 (ar 182 w3 w.heap.size a1 c c1 (M.tab c (M.fv (fun i=>zs.getD i 0) r f s2 c))):=Cb.below Qa;have Vb:=Hd (Db);have Ra:=Hd (hb3');clear Cb Ga hb1' Db Qa hb3' g1 g2 g3 h3 h4 h5 g4 g5 g6 Na Ab Bb Ea;obtain⟨i0,hi,Eb,Fb,Gb⟩:=info_parts dk;have Ja:2*c≤1000:=(by have:=Tb.o;omega);go_wp2_with(at_make;refine wpList_make_full _ rfl _ _ 125 rfl w3.heap.size 182 i0 (.int .i64 0) 1 underlying125 hi Eb Fb .i64 .i64 _ _ (2*c) rfl rfl (by first | omega | simp) (by first | omega | simp) (by rw[Gb];omega) (by unfold maxLen;omega) (tr _) ?_)
   intro w4 Sa hg
   have Hb:H9 (ar 182 w4 w3.heap.size (some ⟨w3.heap.size,0,none⟩) (2*c) (2*c) (dr (M.fv (fun i=>zs.getD i 0) r f s (2*c)) c 0)):=by
    show w4.ownsRow _ _ _ _ _ _;rw[iE,lj (M.fv (fun i=>zs.getD i 0) r f s (2*c))]at Sa;exact Sa
   have Ib:H9 (Below w3.heap.size w3 w4):=bq hg;clear Sa hg hi Eb Fb Gb;go_wp2
   go_loopw [41] (fun i wr=>∃j:Nat,j≤c∧i=.int .i64 j∧ar 182 wr w3.heap.size (some ⟨w3.heap.size,0,none⟩) (2*c) (2*c) (dr (M.fv (fun i=>zs.getD i 0) r f s (2*c)) c j)∧Below w3.heap.size w3 wr) (fun i _=>c-(intOf i).toNat)
   case atStart=>exact⟨0,by omega,rfl,Hb.o,Ib.o⟩
   case round=>
    obtain⟨j,hj,rfl,Jb,Ta⟩:=hrel;have Ua:=Hd (Jb);have Va:=Hd (Ta);have Wa:=Hd (Ra.o.trans (Ta.mono Ra.o.size));clear Jb Ta Hb Ib;by_cases Aa:j<c
    ·
     obtain⟨b1,o1,rfl,Da⟩:=(Ub.o.sees.below Va.o).at Ka;obtain⟨b2,o2,rfl,Kb⟩:=(Vb.o.sees.below Va.o).at Ka;obtain⟨b3,o3,rfl,Lb⟩:=(HE.o.2.1.below Wa.o).at (by omega);have d1:=Da j Aa;have d2:=Kb j Aa;have d3:=Lb (j*s) (Oa.o j Aa);obtain⟨g,Nb,_,_,Xa,Ya⟩:=Ua.o.block (by omega);simp only[Option.some.injEq,Addr.mk.injEq,and_true]at Nb;subst Nb;have d4:=Xa j (by omega);have d5:=Xa (j+c) (by omega);have e4:=Ya j;have e5:=Ya (j+c);have d6:=(Pa.o _ Wa.o).2.2;rw[M.tab_get _ _ _ Aa]at d1 d2;unfold M.gp at d3;rw[M.tab_get _ _ _ (Oa.o j Aa)]at d3
     have Fa:H9 (((dr (M.fv (fun i=>zs.getD i 0) r f s (2*c)) c j).set j ((M.fv (fun i=>zs.getD i 0) r f s2 c j+M.fv (fun i=>zs.getD i 0) r f2 s2 c j*(1*r ^ (j*s)%65537)%65537)%65537)).set (j+c) ((M.fv (fun i=>zs.getD i 0) r f s2 c j+65537-M.fv (fun i=>zs.getD i 0) r f2 s2 c j*(1*r ^ (j*s)%65537)%65537)%65537)=dr (M.fv (fun i=>zs.getD i 0) r f s (2*c)) c (j+1)):=by
      show _=_;rw[Rb.o j Aa,Sb.o j Aa];exact li _ Aa
     have Ba:=M.fv_bd (fun i=>zs.getD i 0) r f s2 c j;have Ob:=M.fv_bd (fun i=>zs.getD i 0) r f2 s2 c j;have Pb:0≤1*r ^ (j*s)%65537∧1*r ^ (j*s)%65537<65537:=(by omega);have Wb:=Oa.o j Aa;have Xb:(j:Int)*(s:Int)=((j*s:Nat):Int):=(by rw[Int.natCast_mul]);generalize M.fv (fun i=>zs.getD i 0) r f s2 c j=x at d1 Ba Fa;generalize M.fv (fun i=>zs.getD i 0) r f2 s2 c j=y at d2 Ob Fa;generalize 1*r ^ (j*s)%65537=pz at d3 Pb Fa;generalize j*s=js at d3 Wb Xb;generalize(dr (M.fv (fun i=>zs.getD i 0) r f s (2*c)) c j).getD j 0=q4 at d4;generalize(dr (M.fv (fun i=>zs.getD i 0) r f s (2*c)) c j).getD (j+c) 0=q5 at d5;obtain⟨jc,Ia⟩:∃jc,jc=j+c:=⟨_,rfl⟩;rw[←Ia]at d5 e5 Fa;have Bc:(j:Int)+(c:Int)=(jc:Int):=(by omega);have Cc:(jc:Int)<2*(c:Int):=(by omega);have Dc:jc<2*c:=(by omega);have Ec:(j:Int)<2*(c:Int):=(by omega);have Fc:j≠jc:=(by omega);have hne':jc≠j:=(by omega);have Gc:IntKind.i64.wrap (js:Int)=(js:Int):=(by rw[tW];omega);have Hc:(js:Int)<(N:Int):=(by omega);obtain⟨x0,x1⟩:=Ba;obtain⟨y0,y1⟩:=Ob;obtain⟨p0,p1⟩:=Pb;have hI:(j:Int)<(c:Int):=(by omega);clear Da Kb Lb Xa Ya Ia;go_wp2
     go_quiet ((go_at_call 141;exact Calls.quiet_of_same (bM y pz _ y0 y1 p0 p1)))
     have t0:0≤y*pz%65537:=Int.emod_nonneg _ (by decide);have t1:y*pz%65537<65537:=Int.emod_lt_of_pos _ (by decide);generalize y*pz%65537=t at *;go_wp2_with(first | (go_at_call 269;refine(eh x t _ x0 x1 t0 t1).mono ?_;rintro e w' ⟨rfl,rfl⟩) | (go_at_call 224;refine(eQ x t _ x0 x1 t0 t1).mono ?_;rintro e w' ⟨rfl,rfl⟩))
     go_roundw
     case rel=>
      refine⟨j+1,by omega,by go_num,?_,((Below.drewN' Va.o _).setCell (tr _) _).setCell (tr _) _⟩;rw[←Fa.o];exact((Ua.o.drewN _).set j _).set jc _
     case measure=>simp[intOf];omega
    ·
     have Ia:j=c:=(by omega);subst Ia;go_wp2;go_ret;refine⟨_,_,rfl,?_,Wa.o⟩;rw[←mg];exact Ua.o.mono Ra.o.size
def jd(zs:List Int)(r:Int):List Int:=M.tab zs.length (fun j=>M.pv zs (r ^ j)%65537)
theorem qZ(zs:List Int)(r:Int):M.allEl (jd zs r)=true:=M.all_tab fun i _=>(M.el_iff _).2 ⟨by omega,by omega⟩
theorem rb(zs:List Int)(r:Int):(jd zs r).length=zs.length:=eJ _ _
theorem rU(zs:List Int)(r:Int)(N:Nat)(h:zs.length=N):M.tab N (M.fv (fun i=>zs.getD i 0) r 0 1 N)=jd zs r:=by
 unfold jd;rw[h];refine dn fun j _=>?_;unfold M.fv;rw[Nat.one_mul,←h,M.pv_all]
theorem pO(h:M.two64 (n:Int)=true):∃k,n=2 ^ k∧n≤64∧0<n:=by
 obtain⟨i,hi,e⟩:=(M.two64_iff _).1 h;have hb:=M.two64_le hi;refine⟨i,?_,by omega,by omega⟩;have:((2 ^ i:Nat):Int)=(2:Int) ^ i:=(by simp);omega
theorem jv(r:Int)(w:World)(hz:ah w la N lc zs)(az:M.allEl zs=true)(hN:N=2 ^ k)(hN1:N≤1000)(r0:0≤r)(r1:r<65537)(hr:∀h,N=2*h→M.cg (r ^ h) (-1)):
  Calls prog 250 #[.slice la N lc,.int .i64 r] w fun e w'=>∃a' c',e=.returned (.slice a' N c')∧ar 182 w' w.heap.size a' N c' (jd zs r)∧Below w.heap.size w w':=by
 have HZ:=Hd (hz);have HA:=Hd (az);have HN:H9 (N=2 ^ k):=hN;have HR:=Hd (hr);have HT:H9 (M.tab N (M.fv (fun i=>zs.getD i 0) r 0 1 N)=jd zs r):=rU zs r N hz.len;clear hz az hN hr;go_enter func250,ntmps250;(go_wp2_with fail);refine(ei 1 r N _ (by omega) (by omega) r0 r1 (by omega)).mono ?_;rintro e w1 ⟨pa,pc,rfl,Ea,Aa⟩;have Ia:H9 (ar 182 w1 (w.heap.size+1) pa N pc (M.gp 1 r N)):=(by show ar _ _ _ _ _ _ _;simpa using Ea);have Ba:H9 (w.heap.size+1≤w1.heap.size):=(by show _≤_;have:=Aa.size;simpa using this);have Ca:H9 (Below w.heap.size w w1):=((tv _ _).alloc (tr _) _).trans (Aa.mono (by simp));have Fa:H9 (w1.cell? ⟨w.heap.size,0,none⟩=some (.slice la N lc)):=(Aa.cell (p:=⟨w.heap.size,0,none⟩) (by simp)).trans (by rw[tH];rfl);have La:=Fa.o;clear Ea Aa;(go_wp2_with fail);refine(sf (la:=la) (lc:=lc) (pa:=pa) (pc:=pc) (N:=N) (RL:=w.heap.size) (RF:=w1.heap.size+1) (RP:=w1.heap.size) (zs:=zs) (r:=r) hN1 HA.o HR.o k N HN.o 0 1 _ (by omega) (by omega) ?env).mono ?_
 case env=>
  have Da:Below w1.heap.size w1 ((w1.alloc (.cells #[Value.slice pa N pc] 125)).alloc (.cells #[Value.func (.func 281) #[] #[.pointer (some ⟨w.heap.size,0,none⟩),.pointer (some ⟨w1.heap.size+1,0,none⟩),.pointer (some ⟨w1.heap.size,0,none⟩)]] 374)):=((tv _ _).alloc (tr _) _).alloc (by simp) _;refine⟨HZ.o.below (Ca.o.trans (Da.mono Ca.o.size)),Ia.o.sees.below Da,(Da.cell (p:=⟨w.heap.size,0,none⟩) (by have:=Ba.o;show w.heap.size<_;omega)).trans Fa.o,?_,?_⟩ <;> simp
 rintro e w2 ⟨a2,c2,rfl,Ga,Ha⟩
 have Ja:H9 (ar 182 w2 w.heap.size a2 N c2 (jd zs r)):=by
  show ar _ _ _ _ _ _ _;rw[←HT.o];exact Ga.mono (by have:=Ba.o;simp;omega)
 have Ka:H9 (Below w.heap.size w w2):=((Ca.o.alloc Ca.o.size _).alloc (by have:=Ba.o;simp;omega) _).trans (Ha.mono (by have:=Ba.o;simp;omega));clear Ga Ha;go_wp2;go_ret;exact⟨a2,c2,rfl,Ja.o,Ka.o⟩
def M.frc(zs:List Int)(s:Int)(k:Nat):Int:=M.pv zs (M.pw (M.root zs.length) 65535 ^ k)%65537*(M.pw zs.length 65535*M.pw s 65535 ^ k%65537)%65537
def M.frs(zs:List Int)(s:Int):List Int:=M.trim (M.tab zs.length (M.frc zs s))
def M.frOk(zs:List Int)(s:Int):Bool:=M.ptOk zs.length s&&M.allEl zs
def iQ(zs:List Int)(s:Int):List Int:=if M.frOk zs s=true then M.frs zs s else[]
theorem qV(h:M.frOk zs s=true):iQ zs s=M.frs zs s:=if_pos h
theorem pX(h:M.frOk zs s=false):iQ zs s=[]:=if_neg (by rw[h];decide)
theorem pW(zs:List Int)(s:Int):(M.frs zs s).length≤zs.length:=by
 have:=nM (M.tab zs.length (M.frc zs s));rw[eJ]at this;exact this
theorem nH(zs:List Int)(s:Int):M.trim (ic (jd zs (M.pw (M.root zs.length) 65535)) (M.gp (M.pw zs.length 65535) (M.pw s 65535) zs.length))=M.frs zs s:=by
 unfold M.frs ic;rw[rb]
 congr 1
 refine dn fun k hk=>?_;unfold jd M.gp;rw[M.tab_get _ _ _ hk,M.tab_get _ _ _ hk];rfl
theorem l7(zs:List Int)(s:Int)(k:Nat):M.pv zs (M.pw (M.pw (M.root zs.length) 65535) k)%65537*M.pw zs.length 65535%65537*M.pw (M.pw s 65535) k%65537=M.frc zs s k:=by
 unfold M.frc
 have h1:M.cg (M.pv zs (M.pw (M.pw (M.root zs.length) 65535) k)%65537) (M.pv zs (M.pw (M.root zs.length) 65535 ^ k)%65537):=
  (M.cg_mod _).trans ((M.pv_cg (M.cg_pw _ _) zs).trans (M.cg_mod _).symm)
 have h2:=M.cg_pw (M.pw s 65535) k;generalize M.pv zs (M.pw (M.pw (M.root zs.length) 65535) k)%65537=A at *;generalize M.pv zs (M.pw (M.root zs.length) 65535 ^ k)%65537=B at *;generalize M.pw (M.pw s 65535) k=C at *;generalize M.pw s 65535 ^ k=D at *;generalize M.pw (zs.length:Int) 65535=n
 have h3:M.cg (A*n%65537*C) (B*(n*D%65537)):=by
  refine(((M.cg_mod _).trans (h1.mul (M.cg.refl n))).mul h2).trans ?_;refine(M.cg_of_eq (Int.mul_assoc B n D)).trans ?_;exact(M.cg.refl B).mul (M.cg_mod _).symm
 exact h3
theorem j1(s:Int)(w:World)(hz:ah w la N lc zs)(az:M.allEl zs=true)(hp:M.ptOk N s=true):
  Calls prog 181 #[.agg #[.int .i64 N,.int .i64 s,.int .i64 (M.root N)],.slice la N lc] w fun e w'=>∃a' m c',e=.returned (.slice a' m c')∧ar 182 w' w.heap.size a' m c' (M.frs zs s)∧Below w.heap.size w w':=by
 have HZ:=Hd (hz);have HA:=Hd (az);obtain⟨h1,h2,h3⟩:=M.ptOk_parts hp;obtain⟨s0,s1⟩:=(M.el_iff s).1 h2;obtain⟨q0,q1⟩:=(M.el_iff _).1 (M.root_el (M.two64_two h1));obtain⟨k,hk,hN,Db⟩:=pO h1;have HK:H9 (N=2 ^ k):=hk;have Da:H9 (∀h,N=2*h→M.cg (M.pw (M.root N) 65535 ^ h) (-1)):=fun h e=>M.rinv_h (M.two64_two h1) e
 have HF:H9 (M.trim (ic (jd zs (M.pw (M.root N) 65535)) (M.gp (M.pw N 65535) (M.pw s 65535) N))=M.frs zs s):=by
  show _=_;have:=nH zs s;rw[hz.len]at this;exact this
 obtain⟨r0,r1⟩:=M.pw_bd (M.root N) 65535;obtain⟨n0,n1⟩:=M.pw_bd (N:Int) 65535;obtain⟨i0,i1⟩:=M.pw_bd s 65535;clear hz az h1 h2 h3 hp hk;generalize M.root N=q at *;generalize Ea:M.pw q 65535=ri at Da HF r0 r1;have Qa:=Hd (Ea);generalize Fa:M.pw (N:Int) 65535=ni at HF n0 n1;have Ra:=Hd (Fa);generalize Ga:M.pw s 65535=si at HF i0 i1;have Sa:=Hd (Ga);clear Ea Fa Ga;have Ta:(N:Int)<65537:=(by omega);have Ua:(0:Int)≤(N:Int):=(by omega);go_enter func181,ntmps181;(go_wp2_with fail);refine(fB q _ q0 q1).mono ?_;rintro e w0 ⟨rfl,rfl⟩;rw[Qa.o];have Ha:H9 (Below w.heap.size w (w.alloc (.cells #[Value.int .i64 N,Value.int .i64 s,Value.int .i64 q] 184))):=(tv _ _).alloc (tr _) _;(go_wp2_with fail);refine(jv ri _ (HZ.o.below Ha.o) HA.o HK.o (by omega) r0 r1 Da.o).mono ?_;rintro e w1 ⟨a1,c1,rfl,Ia,Aa⟩;have Va:H9 (ar 182 w1 w.heap.size a1 N c1 (jd zs ri)):=Ia.mono (by simp);have Ja:H9 (Below w.heap.size w w1):=Ha.o.trans (Aa.mono (by simp))
 have Wa:H9 (∀W,Below w1.heap.size w1 W→W.cell? ⟨w.heap.size,0,none⟩=some (.int .i64 N)∧W.cell? ⟨w.heap.size,1,none⟩=some (.int .i64 s)∧W.cell? ⟨w.heap.size,2,none⟩=some (.int .i64 q)):=fun W hW=>by
  have hs:w.heap.size<w1.heap.size:=(by have:=Aa.size;simp at this;omega);refine⟨(hW.cell (p:=⟨w.heap.size,0,none⟩) hs).trans ((Aa.cell (p:=⟨w.heap.size,0,none⟩) (by simp)).trans (by rw[tH];rfl)),(hW.cell (p:=⟨w.heap.size,1,none⟩) hs).trans ((Aa.cell (p:=⟨w.heap.size,1,none⟩) (by simp)).trans (by rw[tH];rfl)),(hW.cell (p:=⟨w.heap.size,2,none⟩) hs).trans ((Aa.cell (p:=⟨w.heap.size,2,none⟩) (by simp)).trans (by rw[tH];rfl))⟩
 obtain⟨k0,k1,k2⟩:=Wa.o _ (tv _ _);have Xa:H9 (Below w1.heap.size w1 w1.drew):=(tv _ _).drew;clear Ia Aa;go_wp2
 go_region_with (first
  | (go_at_call_of 137 (Value.int .i64 (N:Int));refine(fB (N:Int) _ Ua Ta).mono ?_;rintro e w2 ⟨rfl,rfl⟩;rw[Ra.o])
  | (go_at_call_of 137 (Value.int .i64 s);refine(fB s _ s0 s1).mono ?_;rintro e w2 ⟨rfl,rfl⟩;rw[Sa.o])
  | (go_at_call 251;refine(ei ni si N _ n0 n1 i0 i1 (by omega)).mono ?_;rintro e w3 ⟨a3,c3,rfl,ho3,hb3⟩))
 all_goals
  have Ka:=Hd (Xa.o.trans hb3);have Ya:=Hd (ho3);have Za:=Hd (Va.o.below Ka.o);have Ba:=Hd (Ja.o.trans (Ka.o.mono Ja.o.size));clear ho3 hb3;(go_wp2_with fail);refine(kA _ Za.o.sees Ya.o.sees (qZ _ _) (qW _ _ _) rfl (by omega)).mono ?_;rintro e w4 ⟨a4,c4,rfl,La,Na⟩;have Ab:H9 (ar 182 w4 w.heap.size a4 N c4 (ic (jd zs ri) (M.gp ni si N))):=La.mono Ba.o.size;have Ca:=Hd (Ba.o.trans (Na.mono Ba.o.size));clear La Na;(go_wp2_with fail);refine(jw _ Ab.o.sees (by omega)).mono ?_;rintro e w5 ⟨a5,m5,c5,rfl,Oa,Pa⟩
  have Bb:H9 (ar 182 w5 w.heap.size a5 m5 c5 (M.frs zs s)):=by
   show ar _ _ _ _ _ _ _;rw[←HF.o];exact Oa.mono Ca.o.size
  have Cb:=Hd (Ca.o.trans (Pa.mono Ca.o.size));clear Oa Pa;go_wp2;go_ret;exact⟨a5,m5,c5,rfl,Bb.o,Cb.o⟩
theorem kt(s:Int)(w:World)(hz:ah w la N lc zs)(az:M.allEl zs=true)(hp:M.ptOk N s=true):
  Calls prog 297 #[.slice la N lc,.int .i64 s] w fun e w'=>∃a' c',e=.returned (.tuple #[.agg #[.int .i64 N,.int .i64 s,.int .i64 (M.root N)],.slice a' N c',.bool true])∧ar 182 w' w.heap.size a' N c' zs∧Below w.heap.size w w':=by
 have HZ:=Hd (hz);have HP:=Hd (hp);have hN:=(M.two64_bd (M.ptOk_parts hp).1).2;have Ia:H9 (Below w.heap.size w (w.alloc (.cells #[Value.int .i64 0,Value.int .i64 0,Value.int .i64 0] 184))):=(tv _ _).alloc (tr _) _;clear hz hp;go_enter func297,ntmps297;(go_wp2_with fail);refine(eu N s _ HP.o).mono ?_;rintro e w1 ⟨rfl,Aa⟩;generalize hq:M.root N=q;have HQ:=Hd (hq);clear hq;have Ba:H9 (Below w.heap.size w w1):=Ia.o.trans (Aa.mono (by simp));have Ga:H9 (w.heap.size+1≤w1.heap.size):=by show _≤_;have:=Aa.size;simpa using this
 have Ja:H9 (∀W,Below w1.heap.size w1 W→W.cell? ⟨w.heap.size,0,none⟩=some (it 0)∧W.cell? ⟨w.heap.size,1,none⟩=some (it 0)∧W.cell? ⟨w.heap.size,2,none⟩=some (it 0)∧W.frozen? ⟨w.heap.size,0,none⟩=false∧W.frozen? ⟨w.heap.size,1,none⟩=false∧W.frozen? ⟨w.heap.size,2,none⟩=false):=fun W hW=>by
  have hs:w.heap.size<w1.heap.size:=(by have:=Aa.size;simp at this;omega);refine⟨(hW.cell (p:=⟨w.heap.size,0,none⟩) hs).trans ((Aa.cell (p:=⟨w.heap.size,0,none⟩) (by simp)).trans (by rw[tH];rfl)),(hW.cell (p:=⟨w.heap.size,1,none⟩) hs).trans ((Aa.cell (p:=⟨w.heap.size,1,none⟩) (by simp)).trans (by rw[tH];rfl)),(hW.cell (p:=⟨w.heap.size,2,none⟩) hs).trans ((Aa.cell (p:=⟨w.heap.size,2,none⟩) (by simp)).trans (by rw[tH];rfl)),(hW.frozen (p:=⟨w.heap.size,0,none⟩) hs).trans ((Aa.frozen (p:=⟨w.heap.size,0,none⟩) (by simp)).trans (by simp)),(hW.frozen (p:=⟨w.heap.size,1,none⟩) hs).trans ((Aa.frozen (p:=⟨w.heap.size,1,none⟩) (by simp)).trans (by simp)),(hW.frozen (p:=⟨w.heap.size,2,none⟩) hs).trans ((Aa.frozen (p:=⟨w.heap.size,2,none⟩) (by simp)).trans (by simp))⟩
 clear Aa;have Ha:H9 (Below w1.heap.size w1 (w1.alloc (.cells #[Value.int .i64 N,Value.int .i64 s,Value.int .i64 q] 184))):=(tv _ _).alloc (tr _) _;have Da:H9 (Below w1.heap.size w1 (w1.alloc (.cells #[Value.int .i64 N,Value.int .i64 s,Value.int .i64 q] 184)).drew):=Ha.o.drew;have Ka:=Hd ((HZ.o.below Ba.o).below Da.o)
 have La:H9 (∀W,Below (w1.alloc (.cells #[Value.int .i64 N,Value.int .i64 s,Value.int .i64 q] 184)).drew.heap.size (w1.alloc (.cells #[Value.int .i64 N,Value.int .i64 s,Value.int .i64 q] 184)).drew W→W.cell? ⟨w1.heap.size,0,none⟩=some (it N)∧W.cell? ⟨w1.heap.size,1,none⟩=some (it s)∧W.cell? ⟨w1.heap.size,2,none⟩=some (it q)):=fun W hW=>by
  have hs:w1.heap.size<(w1.alloc (.cells #[Value.int .i64 N,Value.int .i64 s,Value.int .i64 q] 184)).heap.size:=(by simp);have hW':=(tv (w1.alloc (.cells #[Value.int .i64 N,Value.int .i64 s,Value.int .i64 q] 184)).heap.size (w1.alloc (.cells #[Value.int .i64 N,Value.int .i64 s,Value.int .i64 q] 184))).drew.trans hW;refine⟨(hW'.cell (p:=⟨w1.heap.size,0,none⟩) hs).trans (by rw[tH];rfl),(hW'.cell (p:=⟨w1.heap.size,1,none⟩) hs).trans (by rw[tH];rfl),(hW'.cell (p:=⟨w1.heap.size,2,none⟩) hs).trans (by rw[tH];rfl)⟩
 (go_wp2_with fail);refine(di _ ((HZ.o.below Ba.o).below Ha.o)).mono ?_;rintro e w2 ⟨rfl,rfl⟩;rw[az];go_wp2
 go_region_with (go_at_call 136;refine(ee _ Ka.o (by omega)).mono ?_;rintro e w3 ⟨a3,c3,rfl,Ea,Ca⟩;obtain⟨g0,g1,g2⟩:=La.o _ Ca;obtain⟨k0,k1,k2,k3,k4,k5⟩:=Ja.o _ (Da.o.trans (Ca.mono (by simp))))
 all_goals
  have Na:H9 (Below w.heap.size w w3):=Ba.o.trans ((Da.o.trans (Ca.mono (by simp))).mono Ba.o.size)
  have Fa:H9 (∀x,a3=some x→x.block≠w.heap.size):=fun x hx=>by
   have h:=Ea.lo x hx;have h2:=Ga.o;simp at h;omega
  have Oa:H9 (ar 182 w3 w.heap.size a3 N c3 zs):=Ea.mono (by have h2:=Ga.o;simp;omega);clear Ea Ca g0 g1 g2;go_wp2;refine tx (v:=.tuple #[.agg #[it N,it s,it q],.slice a3 N c3,.bool true]) (by simp[results,results297,go_sem,k0,k1,k2]) rfl ⟨a3,c3,by rw[HQ.o],?_,((Na.o.setCell (tr _) _).setCell (tr _) _).setCell (tr _) _⟩;exact((Oa.o.other ⟨w.heap.size,0,none⟩ Fa.o _).other ⟨w.heap.size,1,none⟩ Fa.o _).other ⟨w.heap.size,2,none⟩ Fa.o _
theorem jZ(s:Int)(w:World)(hz:ah w la N lc zs)(hp:M.frOk zs s=false):
  Rt 297 #[.slice la N lc,.int .i64 s] w (.tuple #[.agg #[.int .i64 0,.int .i64 0,.int .i64 0],.slice none 0 0,.bool false]):=by
 have HZ:=Hd (hz);have Da:H9 (Below w.heap.size w (w.alloc (.cells #[Value.int .i64 0,Value.int .i64 0,Value.int .i64 0] 184))):=(tv _ _).alloc (tr _) _
 cases h:M.ptOk N s with
 | false=>
  have HP:=Hd (h);clear hz hp h;go_enter func297,ntmps297;(go_wp2_with fail);refine(lL N s _ HP.o).mono ?_;rintro e w1 ⟨rfl,Aa⟩;have Ba:H9 (Below w.heap.size w w1):=Da.o.trans (Aa.mono (by simp));have s0:=(Aa.cell (p:=⟨w.heap.size,0,none⟩) (by simp)).trans (show _=some (Value.int .i64 0) by rw[tH];rfl);have s1:=(Aa.cell (p:=⟨w.heap.size,1,none⟩) (by simp)).trans (show _=some (Value.int .i64 0) by rw[tH];rfl);have s2:=(Aa.cell (p:=⟨w.heap.size,2,none⟩) (by simp)).trans (show _=some (Value.int .i64 0) by rw[tH];rfl);have f0:=(Aa.frozen (p:=⟨w.heap.size,0,none⟩) (by simp)).trans (show _=false by simp);have f1:=(Aa.frozen (p:=⟨w.heap.size,1,none⟩) (by simp)).trans (show _=false by simp);have f2:=(Aa.frozen (p:=⟨w.heap.size,2,none⟩) (by simp)).trans (show _=false by simp);have Ca:w.heap.size<w1.heap.size:=(by have:=Aa.size;simp at this;omega);clear Aa;go_wp2;refine tx (v:=.tuple #[.agg #[it 0,it 0,it 0],.slice none 0 0,.bool false]) (by simp[results,results297,go_sem,Ca,s0,s1,s2]) rfl ⟨rfl,?_⟩
  first | exact(((Ba.o.alloc Ba.o.size _).setCell (tr _) _).setCell (tr _) _).setCell (tr _) _ | exact(((Ba.o.setCell (tr _) _).setCell (tr _) _).setCell (tr _) _).alloc (by simpa using Ba.o.size) _
 | true=>
  have ha:M.allEl zs=false:=by
   unfold M.frOk at hp;rw[hz.len,h]at hp;simpa using hp
  have HP:=Hd (h);clear hz hp h;go_enter func297,ntmps297;(go_wp2_with fail);refine(eu N s _ HP.o).mono ?_;rintro e w1 ⟨rfl,Aa⟩;generalize M.root N=q;have Ba:H9 (Below w.heap.size w w1):=Da.o.trans (Aa.mono (by simp));have s0:=(Aa.cell (p:=⟨w.heap.size,0,none⟩) (by simp)).trans (show _=some (Value.int .i64 0) by rw[tH];rfl);have s1:=(Aa.cell (p:=⟨w.heap.size,1,none⟩) (by simp)).trans (show _=some (Value.int .i64 0) by rw[tH];rfl);have s2:=(Aa.cell (p:=⟨w.heap.size,2,none⟩) (by simp)).trans (show _=some (Value.int .i64 0) by rw[tH];rfl);have f0:=(Aa.frozen (p:=⟨w.heap.size,0,none⟩) (by simp)).trans (show _=false by simp);have f1:=(Aa.frozen (p:=⟨w.heap.size,1,none⟩) (by simp)).trans (show _=false by simp);have f2:=(Aa.frozen (p:=⟨w.heap.size,2,none⟩) (by simp)).trans (show _=false by simp);have Ca:w.heap.size<w1.heap.size:=(by have:=Aa.size;simp at this;omega);clear Aa;(go_wp2_with fail);refine(di _ ((HZ.o.below Ba.o).below ((tv _ _).alloc (tr _) _))).mono ?_;rintro e w2 ⟨rfl,rfl⟩;rw[ha];go_wp2;refine tx (v:=.tuple #[.agg #[it 0,it 0,it 0],.slice none 0 0,.bool false]) (by simp[results,results297,go_sem,Ca,s0,s1,s2]) rfl ⟨rfl,?_⟩
  first | exact(((Ba.o.alloc Ba.o.size _).setCell (tr _) _).setCell (tr _) _).setCell (tr _) _ | exact(((Ba.o.setCell (tr _) _).setCell (tr _) _).setCell (tr _) _).alloc (by simpa using Ba.o.size) _
theorem es(s:Int)(w:World)(hz:ah w la N lc zs):
  Calls prog 278 #[.slice la N lc,.int .i64 s] w fun e w'=>∃a' m c',e=.returned (.tuple #[.slice a' m c',.bool (M.frOk zs s)])∧m≤64∧ar 2 w' w.heap.size a' m c' (iQ zs s)∧Below w.heap.size w w':=by
 have HZ:=Hd (hz)
 cases h:M.frOk zs s with
 | false=>
  have E:=Hd (h);clear hz h;go_enter func278,ntmps278;(go_wp2_with fail);refine(jZ s _ HZ.o E.o).mono ?_;rintro e w1 ⟨rfl,Ba⟩;have Aa:=Hd (Ba);clear Ba;go_wp2
  go_ret2
  exact⟨none,0,0,rfl,by omega,by rw[pX E.o];exact ar.empty _ _ _,Aa.o.alloc Aa.o.size _⟩
 | true=>
  have E:=Hd (h);obtain⟨hp,az⟩:M.ptOk N s=true∧M.allEl zs=true:=by unfold M.frOk at h;rw[hz.len]at h;simpa using h
  have HP:=Hd (hp);have HA:=Hd (az);have hN:=(M.two64_bd (M.ptOk_parts hp).1).2;have Ia:H9 ((M.frs zs s).length≤64):=(by show _≤_;have:=pW zs s;rw[hz.len]at this;omega);clear hz h hp az;go_enter func278,ntmps278;(go_wp2_with fail);refine(kt s _ HZ.o HA.o HP.o).mono ?_;rintro e w1 ⟨a1,c1,rfl,Ea,Ba⟩;have Ja:=Hd (Ea);have Aa:=Hd (Ba);clear Ea Ba;(go_wp2_with fail);refine(j1 s _ (Ja.o.below ((tv _ _).alloc (tr _) _)).sees HA.o HP.o).mono ?_;rintro e w2 ⟨a2,m2,c2,rfl,Ca,Fa⟩;have Ka:m2≤64:=(by rw[←Ca.len];exact Ia.o);have Da:H9 (Below w.heap.size w w2):=(Aa.o.alloc Aa.o.size _).trans (Fa.mono (by have:=Aa.o.size;simp;omega));have La:H9 (ah w2 a2 m2 c2 (M.frs zs s)):=Ca.sees;clear Ca Fa;(go_wp2_with fail);refine(kq _ La.o (by omega)).mono ?_;rintro e w3 ⟨a3,c3,rfl,Ga,Ha⟩
  have Na:H9 (ar 2 w3 w.heap.size a3 m2 c3 (iQ zs s)):=by
   show ar _ _ _ _ _ _ _;rw[qV E.o];exact Ga.mono Da.o.size
  have Oa:=Hd (Da.o.trans (Ha.mono Da.o.size));clear Ga Ha;go_wp2
  go_ret2
  exact⟨a3,m2,c3,rfl,Ka,Na.o,Oa.o⟩
end Go.Proofs.YtjcjonncaknhnaaGreatDoor
