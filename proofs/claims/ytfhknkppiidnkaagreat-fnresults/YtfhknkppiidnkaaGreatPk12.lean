import Derived.OrdersHeld
import Derived.Test.YtfhknkppiidnkaaGreatPk00
import Derived.Test.YtfhknkppiidnkaaGreatPk01
import Derived.Test.YtfhknkppiidnkaaGreatPk03
import Derived.Test.YtfhknkppiidnkaaGreatPk02
import Derived.Test.YtfhknkppiidnkaaGreatPk04
import Derived.Test.YtfhknkppiidnkaaGreatPk05
namespace Go.Proofs.YtfhknkppiidnkaaGreat
open Go.RowKit
set_option maxHeartbeats 32000000
set_option maxRecDepth 10000
structure M.Cl where
 s:Int×Int
 e:Int×Int
 n:Int
def clv (c:M.Cl):Value:=.agg #[.int .i64 c.s.1,.int .i64 c.s.2,.int .i64 c.e.1,.int .i64 c.e.2,.int .i64 c.n]
def M.clOk (c:M.Cl):Bool:=M.sOk c.s && (M.sOk c.e && (decide (1≤c.n) && decide (c.n≤1000)))
theorem claimOk_any (c:M.Cl) (w:World):Calls Tryz.prog 32 #[clv c] w fun e w'=>e=.returned (.bool (M.clOk c))∧Below w.heap.size w w':=by
 have C1:=implStateOk_any c.s;have C2:=implStateOk_any c.e;unfold M.clOk;obtain ⟨⟨x,y⟩,⟨x',y'⟩,n⟩:=c;dsimp only [clv,stv] at C1 C2 ⊢;generalize M.sOk (x,y)=o1 at C1 ⊢;generalize M.sOk (x',y')=o2 at C2 ⊢;have L0:=lnw w (v14' x y x' y' n) 33;have Ba:H9 (Below w.heap.size w (w.alloc (.cells (v14' x y x' y' n).toArray 33))):=(Below.refl _ _).alloc (Nat.le_refl _) _
 cases o1 with
 | false =>
  go_enter Tryz.func32,Tryz.ntmps32;(go_wp2_with fail);refine (C1 _).mono ?_;rintro e w1 ⟨rfl,Aa⟩;have Ca:=Hd (Ba.o.trans (Aa.mono Ba.o.size));clear Aa;go_wp2;go_ret;exact ⟨rfl,Ca.o⟩
 | true =>
  go_enter Tryz.func32,Tryz.ntmps32;(go_wp2_with fail);refine (C1 _).mono ?_;rintro e w1 ⟨rfl,Aa⟩;have Ca:=Hd (Ba.o.trans (Aa.mono Ba.o.size));have L1:=Hd (L0.o.belowS Aa);have p2:=L1.o.c 2 rfl;have p3:=L1.o.c 3 rfl;clear Aa;(go_wp2_with fail);refine (C2 _).mono ?_;rintro e w2 ⟨rfl,Da⟩;have Ea:=Hd (Ca.o.trans (Da.mono Ca.o.size));have p4:w2.cell? ⟨w.heap.size,4,none⟩=some (it n):=(L1.o.belowS Da).at 4;clear Da p2 p3
  cases o2 with
  | false =>
   go_wp2;go_ret;exact ⟨rfl,Ea.o⟩
  | true =>
   by_cases h1:1≤n
   ·
    go_wp2;go_ret;exact ⟨by simp [h1],Ea.o⟩
   ·
    go_wp2;go_ret;exact ⟨by simp;omega,Ea.o⟩
theorem l1InG_any (n lo hi:Int) (w:World):Calls Tryz.prog 43 #[.int .i64 n,.int .i64 lo,.int .i64 hi] w fun e w'=>e=.returned (.bool (decide (lo≤n) && decide (n≤hi)))∧w'=w:=by
 by_cases h1:lo≤n
 ·
  go_enter Tryz.func43,Tryz.ntmps43;go_wp2;go_ret;exact ⟨by simp [h1],rfl⟩
 ·
  go_enter Tryz.func43,Tryz.ntmps43;go_wp2;go_ret;exact ⟨by simp;omega,rfl⟩
theorem l7Ok_any (c:M.Cl) (w:World):Calls Tryz.prog 58 #[clv c] w fun e w'=>e=.returned (.bool (M.clOk c))∧Below w.heap.size w w':=by
 have C1:=specStateOk_any c.s;have C2:=specStateOk_any c.e;unfold M.clOk;obtain ⟨⟨x,y⟩,⟨x',y'⟩,n⟩:=c;dsimp only [clv,stv] at C1 C2 ⊢;generalize M.sOk (x,y)=o1 at C1 ⊢;generalize M.sOk (x',y')=o2 at C2 ⊢;have L0:=lnw w (v14' x y x' y' n) 33;have Ba:H9 (Below w.heap.size w (w.alloc (.cells (v14' x y x' y' n).toArray 33))):=(Below.refl _ _).alloc (Nat.le_refl _) _
 cases o1 with
 | false =>
  go_enter Tryz.func58,Tryz.ntmps58;(go_wp2_with fail);refine (C1 _).mono ?_;rintro e w1 ⟨rfl,Aa⟩;have Ca:=Hd (Ba.o.trans (Aa.mono Ba.o.size));clear Aa;go_wp2;go_ret;exact ⟨rfl,Ca.o⟩
 | true =>
  go_enter Tryz.func58,Tryz.ntmps58;(go_wp2_with fail);refine (C1 _).mono ?_;rintro e w1 ⟨rfl,Aa⟩;have Ca:=Hd (Ba.o.trans (Aa.mono Ba.o.size));have L1:=Hd (L0.o.belowS Aa);have p2:=L1.o.c 2 rfl;have p3:=L1.o.c 3 rfl;clear Aa;(go_wp2_with fail);refine (C2 _).mono ?_;rintro e w2 ⟨rfl,Da⟩;have Ea:=Hd (Ca.o.trans (Da.mono Ca.o.size));have p4:w2.cell? ⟨w.heap.size,4,none⟩=some (it n):=(L1.o.belowS Da).at 4;clear Da p2 p3
  cases o2 with
  | false =>
   go_wp2;go_ret;exact ⟨rfl,Ea.o⟩
  | true =>
   (go_wp2_with fail);refine (l1InG_any _ _ _ _).mono ?_;rintro e w3 ⟨rfl,rfl⟩;go_wp2;go_ret;exact ⟨rfl,Ea.o⟩
theorem M.clOk_n {c:M.Cl} (h:M.clOk c=true):1≤c.n∧c.n≤1000:=by
 unfold M.clOk at h;simp only [Bool.and_eq_true,decide_eq_true_eq] at h;exact h.2.2
def M.joinOk (a b:M.Cl):Bool:=M.clOk a && (M.clOk b && ((decide (a.e.1=b.s.1) && decide (a.e.2=b.s.2)) && decide (a.n+b.n≤1000)))
def M.joinv (a b:M.Cl):M.Cl:=if M.joinOk a b=true then ⟨a.s,b.e,a.n+b.n⟩ else ⟨(0,0),(0,0),0⟩
theorem M.joinv_in {a b:M.Cl} (h:M.joinOk a b=true):M.joinv a b=⟨a.s,b.e,a.n+b.n⟩:=if_pos h
theorem M.joinv_out {a b:M.Cl} (h:M.joinOk a b=false):M.joinv a b=⟨(0,0),(0,0),0⟩:=if_neg (by rw [h];decide)
theorem implJoined_any (a b:M.Cl) (w:World):Calls Tryz.prog 87 #[clv a,clv b] w fun e w'=>e=.returned (.tuple #[clv (M.joinv a b),.bool (M.joinOk a b)])∧Below w.heap.size w w':=by
 have C1:=claimOk_any a;have C2:=claimOk_any b;have La:=@M.clOk_n a;have Na:=@M.clOk_n b;have Fa:=@M.joinv_in a b;have Ca:=@M.joinv_out a b;generalize M.joinv a b=q at Fa Ca ⊢;unfold M.joinOk at Fa Ca ⊢;generalize M.clOk a=o1 at C1 Fa Ca La ⊢;generalize M.clOk b=o2 at C2 Fa Ca Na ⊢;obtain ⟨⟨x,y⟩,⟨x',y'⟩,n⟩:=a;obtain ⟨⟨u,v⟩,⟨u',v'⟩,m⟩:=b;dsimp only [clv,stv] at C1 C2 Fa Ca La Na ⊢;have LA:H9 (Lies (((w.alloc (.cells (v14' x y x' y' n).toArray 33)).alloc (.cells (v14' u v u' v' m).toArray 33)).alloc (.cells v9'.toArray 33)) (w.heap.size) (v14' x y x' y' n)):=((lies_new _ _ _).alloc _).alloc _;have LB:H9 (Lies (((w.alloc (.cells (v14' x y x' y' n).toArray 33)).alloc (.cells (v14' u v u' v' m).toArray 33)).alloc (.cells v9'.toArray 33)) (w.heap.size+1) (v14' u v u' v' m)):=(lies_new2 _ _ _ _).alloc _;have LZ:H9 (Lies (((w.alloc (.cells (v14' x y x' y' n).toArray 33)).alloc (.cells (v14' u v u' v' m).toArray 33)).alloc (.cells v9'.toArray 33)) (w.heap.size+1+1) v9'):=lies_new3 _ _ _ _ _;have Ia:H9 (Below w.heap.size w (((w.alloc (.cells (v14' x y x' y' n).toArray 33)).alloc (.cells (v14' u v u' v' m).toArray 33)).alloc (.cells v9'.toArray 33))):=(((Below.refl _ _).alloc (Nat.le_refl _) _).alloc (by simp) _).alloc (by simp;omega) _
 cases o1 with
 | false =>
  obtain rfl:=Ca rfl;go_enter Tryz.func87,Tryz.ntmps87;(go_wp2_with fail);refine (C1 _).mono ?_;rintro e w1 ⟨rfl,Da⟩;have Ja:=Hd (Ia.o.trans (Da.mono Ia.o.size));have Aa:=LZ.o.belowS Da;have z0:=Aa.c 0 rfl;have z1:=Aa.c 1 rfl;have z2:=Aa.c 2 rfl;have z3:=Aa.c 3 rfl;have z4:=Aa.c 4 rfl;have f0:=Aa.fr 0;have f1:=Aa.fr 1;have f2:=Aa.fr 2;have f3:=Aa.fr 3;have f4:=Aa.fr 4;clear Da Aa;go_wp2;refine bodyPost_ret (v:=.tuple #[.agg v9'.toArray,.bool false]) (by simp [results,Tryz.results87,go_sem,z0,z1,z2,z3,z4]) rfl ⟨rfl,?_⟩;exact (((((Ja.o.setCell (by show w.heap.size≤w.heap.size+1+1;omega) _).setCell (by show w.heap.size≤w.heap.size+1+1;omega) _).setCell (by show w.heap.size≤w.heap.size+1+1;omega) _).setCell (by show w.heap.size≤w.heap.size+1+1;omega) _).setCell (by show w.heap.size≤w.heap.size+1+1;omega) _)
 | true =>
  go_enter Tryz.func87,Tryz.ntmps87;(go_wp2_with fail);refine (C1 _).mono ?_;rintro e w1 ⟨rfl,Da⟩;have Ja:=Hd (Ia.o.trans (Da.mono Ia.o.size));have Oa:=Hd (LA.o.belowS Da);have Ea:=Hd (LB.o.belowS Da);have Aa:=Hd (LZ.o.belowS Da);have b0:=Ea.o.c 0 rfl;have b1:=Ea.o.c 1 rfl;have b2:=Ea.o.c 2 rfl;have b3:=Ea.o.c 3 rfl;have b4:=Ea.o.c 4 rfl;clear Da LA LB LZ Ia;(go_wp2_with fail);refine (C2 _).mono ?_;rintro e w2 ⟨rfl,Ka⟩;have Pa:=Hd (Ja.o.trans (Ka.mono Ja.o.size));have Ga:=Oa.o.belowS Ka;have Ha:=Ea.o.belowS Ka;have Ba:=Aa.o.belowS Ka;clear b0 b1 b2 b3 b4;have a0:=Ga.c 0 rfl;have a1:=Ga.c 1 rfl;have a2:=Ga.c 2 rfl;have a3:=Ga.c 3 rfl;have a4:=Ga.c 4 rfl;have b0:=Ha.c 0 rfl;have b1:=Ha.c 1 rfl;have b2:=Ha.c 2 rfl;have b3:=Ha.c 3 rfl;have b4:=Ha.c 4 rfl;have z0:=Ba.c 0 rfl;have z1:=Ba.c 1 rfl;have z2:=Ba.c 2 rfl;have z3:=Ba.c 3 rfl;have z4:=Ba.c 4 rfl;have f0:=Ba.fr 0;have f1:=Ba.fr 1;have f2:=Ba.fr 2;have f3:=Ba.fr 3;have f4:=Ba.fr 4;clear Ka Oa Ea Aa Ga Ha Ba Ja
  cases o2 with
  | false =>
   obtain rfl:=Ca rfl;go_wp2;refine bodyPost_ret (v:=.tuple #[.agg v9'.toArray,.bool false]) (by simp [results,Tryz.results87,go_sem,z0,z1,z2,z3,z4]) rfl ⟨rfl,?_⟩;exact (((((Pa.o.setCell (by show w.heap.size≤w.heap.size+1+1;omega) _).setCell (by show w.heap.size≤w.heap.size+1+1;omega) _).setCell (by show w.heap.size≤w.heap.size+1+1;omega) _).setCell (by show w.heap.size≤w.heap.size+1+1;omega) _).setCell (by show w.heap.size≤w.heap.size+1+1;omega) _)
  | true =>
   obtain ⟨Qa,Ra⟩:=La (by simp);obtain ⟨Sa,Ta⟩:=Na (by simp);by_cases h1:x'=u;by_cases h2:y'=v;subst h1 h2;have j1:(x' == x')=true:=(by simp);have j2:(y' == y')=true:=(by simp);have j3:(x' != x')=false:=(by simp);have j4:(y' != y')=false:=(by simp);by_cases h3:n+m≤1000;obtain rfl:=Fa (by simp [h3]);go_wp2;refine bodyPost_ret (v:=.tuple #[.agg (v14' x y u' v' (n+m)).toArray,.bool true]) (by simp [results,Tryz.results87,go_sem,z0,z1,z2,z3,z4]) rfl ⟨by simp,?_⟩
   rotate_left
   obtain rfl:=Ca (by simp;omega);go_wp2;refine bodyPost_ret (v:=.tuple #[.agg v9'.toArray,.bool false]) (by simp [results,Tryz.results87,go_sem,z0,z1,z2,z3,z4]) rfl ⟨by simp;omega,?_⟩
   rotate_left
   obtain rfl:=Ca (by simp [h2]);subst h1;have j1:(x' == x')=true:=(by simp);have j2:(y' == v)=false:=(by simpa using h2);have j3:(x' != x')=false:=(by simp);have j4:(y' != v)=true:=(by simpa using h2);go_wp2;refine bodyPost_ret (v:=.tuple #[.agg v9'.toArray,.bool false]) (by simp [results,Tryz.results87,go_sem,z0,z1,z2,z3,z4]) rfl ⟨by simp,?_⟩
   rotate_left
   obtain rfl:=Ca (by simp [h1]);have j1:(x' == u)=false:=(by simpa using h1);have j3:(x' != u)=true:=(by simpa using h1);go_wp2;refine bodyPost_ret (v:=.tuple #[.agg v9'.toArray,.bool false]) (by simp [results,Tryz.results87,go_sem,z0,z1,z2,z3,z4]) rfl ⟨by simp,?_⟩
   rotate_left
   all_goals
    exact (((((Pa.o.setCell (by show w.heap.size≤w.heap.size+1+1;omega) _).setCell (by show w.heap.size≤w.heap.size+1+1;omega) _).setCell (by show w.heap.size≤w.heap.size+1+1;omega) _).setCell (by show w.heap.size≤w.heap.size+1+1;omega) _).setCell (by show w.heap.size≤w.heap.size+1+1;omega) _)
theorem l8Banned_any {ab aj:Option Addr} {nb cb nj cj:Nat} {bs:List Int} (now next who:Int) (w:World) (hz:Sees w ab nb cb bs) :
  Calls Tryz.prog 44 #[.agg #[.int .i64 now,.int .i64 next,.slice ab nb cb,.slice aj nj cj],.int .i64 who] w fun e w'=>e=.returned (.bool (bs.contains who))∧Below w.heap.size w w':=by
 have bn:(nb:Int)≤9223372036854775807:=(by have:=hz.big;have:=hz.le;omega);have Ga:(nb:Int)≤cb:=(by have:=hz.le;omega);have Ba:=lnw w (v4' now next ab nb cb aj nj cj) 27;have Aa:H9 (Below w.heap.size w (w.alloc (.cells (v4' now next ab nb cb aj nj cj).toArray 27))):=(Below.refl _ _).alloc (Nat.le_refl _) _;have HZ:H9 (Sees (w.alloc (.cells (v4' now next ab nb cb aj nj cj).toArray 27)) ab nb cb bs):=hz.below Aa.o;generalize hR:bs.contains who=R;have HR:=Hd (hR);clear hR hz;go_enter Tryz.func44,Tryz.ntmps44;go_wp2;generalize (w.alloc (.cells (v4' now next ab nb cb aj nj cj).toArray 27))=w1 at Ba Aa HZ ⊢;have x2:=Ba.o.c 2 rfl
 go_loop [5] (fun i=>∃ k:Nat,k≤nb∧i=it k∧(bs.drop k).contains who=R) (fun i=>nb-(intOf i).toNat)
 case atStart=>exact ⟨0,by omega,rfl,HR.o⟩
 case round =>
  obtain ⟨k,hk,rfl,hg⟩:=hrel;by_cases Ca:k<nb
  ·
   obtain ⟨b1,o1,rfl,Da⟩:=HZ.o.at (by omega);have c1:=Da k Ca
   have hG:(who == bs.getD k 0 || (bs.drop (k+1)).contains who)=R:=by
    rw [← hg,drop_step 0 HZ.o.len Ca,List.contains_cons]
   generalize bs.getD k 0=x at c1 hG;have HG:=Hd (hG);clear Da hg hG;have hI:(k:Int)<(nb:Int):=(by omega);by_cases hx:who=x
   ·
    have hb:(who == x)=true:=(by simp [hx]);have Ea:(x == who)=true:=(by simp [hx]);have HT:H9 (true=R):=(by show _=_;have:=HG.o;rw [hb,Bool.true_or] at this;exact this);clear hx;go_wp2;go_ret;exact ⟨ret_bool HT.o,Aa.o⟩
   ·
    have hb:(who == x)=false:=(by simp [hx]);have Ea:(x == who)=false:=(by simp;exact fun e=>hx e.symm);have Fa:H9 ((bs.drop (k+1)).contains who=R):=(by show _=_;have:=HG.o;rw [hb,Bool.false_or] at this;exact this);clear hx;go_wp2
    go_round
    case rel=>exact ⟨k+1,by omega,by go_num,Fa.o⟩
    case measure=>simp [intOf];omega
  ·
   go_wp2;go_ret;refine ⟨ret_bool ?_,Aa.o⟩;rw [List.drop_of_length_le (by rw [HZ.o.len];omega)] at hg;exact hg
theorem l8All_any {ta:Option Addr} {tn tc:Nat} {tl:List M.Tk} (jid a b c d f k a' b' c' d' f' k' s1 s2 jr:Int) (jg:Bool) (w:World) (hz:SeesT w ta tn tc tl) :
  Calls Tryz.prog 27 #[.agg #[.int .i64 jid,.int .i64 a,.int .i64 b,.int .i64 c,.int .i64 d,.int .i64 f,.int .i64 k,.int .i64 a',.int .i64 b',.int .i64 c',.int .i64 d',.int .i64 f',.int .i64 k',.int .i64 s1,.int .i64 s2,.int .i64 jr,.bool jg,.slice ta tn tc]] w fun e w'=>e=.returned (.bool (tl.all (·.done)))∧Below w.heap.size w w':=by
 have bn:(tn:Int)≤9223372036854775807:=(by have:=hz.big;have:=hz.le;omega);have Fa:(tn:Int)≤tc:=(by have:=hz.le;omega);have Ba:=lnw w (v0' jid a b c d f k a' b' c' d' f' k' s1 s2 jr jg ta tn tc) 44;have Aa:H9 (Below w.heap.size w (w.alloc (.cells (v0' jid a b c d f k a' b' c' d' f' k' s1 s2 jr jg ta tn tc).toArray 44))):=(Below.refl _ _).alloc (Nat.le_refl _) _;have HZ:H9 (SeesT (w.alloc (.cells (v0' jid a b c d f k a' b' c' d' f' k' s1 s2 jr jg ta tn tc).toArray 44)) ta tn tc tl):=hz.below Aa.o;generalize hR:tl.all (·.done)=R;have HR:=Hd (hR);clear hR hz;go_enter Tryz.func27,Tryz.ntmps27;go_wp2;generalize w.alloc (.cells (v0' jid a b c d f k a' b' c' d' f' k' s1 s2 jr jg ta tn tc).toArray 44)=w1 at Ba Aa HZ ⊢;have Ga:=Ba.o.c 17 rfl
 go_loop [3] (fun i=>∃ q:Nat,q≤tn∧i=it q∧(tl.drop q).all (·.done)=R) (fun i=>tn-(intOf i).toNat)
 case atStart=>exact ⟨0,by omega,rfl,HR.o⟩
 case round =>
  obtain ⟨q,hq,rfl,hg⟩:=hrel;by_cases Ca:q<tn
  ·
   obtain ⟨b1,o1,rfl,Da⟩:=HZ.o.at (by omega);have c1:w1.cell? ⟨b1,o1+q*3,none⟩=some (.bool (tl.getD q M.t0).done):=Da q Ca 0 (by omega)
   have hG:((tl.getD q M.t0).done && (tl.drop (q+1)).all (·.done))=R:=by
    rw [← hg,drop_step M.t0 HZ.o.len Ca,List.all_cons]
   generalize (tl.getD q M.t0).done=x at c1 hG;have HG:=Hd (hG);clear Da hg hG;have hI:(q:Int)<(tn:Int):=by omega
   cases x with
   | false =>
    go_wp2;go_ret;exact ⟨ret_bool HG.o,Aa.o⟩
   | true =>
    have Ea:H9 ((tl.drop (q+1)).all (·.done)=R):=(by show _=_;have:=HG.o;rw [Bool.true_and] at this;exact this);go_wp2
    go_round
    case rel=>exact ⟨q+1,by omega,by go_num,Ea.o⟩
    case measure=>simp [intOf];omega
  ·
   go_wp2;go_ret;refine ⟨ret_bool ?_,Aa.o⟩;rw [List.drop_of_length_le (by rw [HZ.o.len];omega)] at hg;exact hg
theorem l8Task_any {ab aj:Option Addr} {nb cb nj cj:Nat} {bs:List Int} (now next:Int) (tk:M.Tk) (h0:0≤now) (h1:now≤1000000000) (w:World) (hz:Sees w ab nb cb bs) :
  Calls Tryz.prog 56 #[.agg #[.int .i64 now,.int .i64 next,.slice ab nb cb,.slice aj nj cj],tkv tk] w fun e w'=>e=.returned (.bool (M.spK now bs tk))∧Below w.heap.size w w':=by
 obtain ⟨td,x,y⟩:=tk;unfold M.spK;dsimp only [tkv];have C1:=l1InG_any x 1 9;have C2:∀ W,Sees W ab nb cb bs→Calls Tryz.prog 44 #[.agg #[.int .i64 now,.int .i64 next,.slice ab nb cb,.slice aj nj cj],.int .i64 x] W fun e w'=>e=.returned (.bool (bs.contains x))∧Below W.heap.size W w':=fun W h=>l8Banned_any now next x W h;have HZ:=Hd (hz)
 change ∀ w,Calls Tryz.prog 43 #[.int .i64 x,.int .i64 1,.int .i64 9] w fun e w'=>e=.returned (.bool (M.wkOk x))∧w'=w at C1
 generalize bs.contains x=o2 at C2 ⊢;generalize M.wkOk x=o1 at C1 ⊢;clear hz;by_cases hd:td=true∨x=0
 ·
  have hc:(td || decide (x=0))=true:=(by rcases hd with e | e <;> simp [e]);rw [if_pos hc]
  rcases hd with rfl | rfl
  ·
   by_cases hx:x=0
   ·
    subst hx;go_enter Tryz.func56,Tryz.ntmps56;go_wp2;go_ret;exact ⟨by by_cases hy:y=0 <;> simp [hy],((Below.refl _ _).alloc (Nat.le_refl _) _).alloc (by simp) _⟩
   ·
    have gx:(x == 0)=false:=(by simp [hx]);go_enter Tryz.func56,Tryz.ntmps56;go_wp2;go_ret;exact ⟨by simp [hx],((Below.refl _ _).alloc (Nat.le_refl _) _).alloc (by simp) _⟩
  ·
   cases td with
   | true =>
    go_enter Tryz.func56,Tryz.ntmps56;go_wp2;go_ret;exact ⟨by by_cases hy:y=0 <;> simp [hy],((Below.refl _ _).alloc (Nat.le_refl _) _).alloc (by simp) _⟩
   | false =>
    go_enter Tryz.func56,Tryz.ntmps56;go_wp2;go_ret;exact ⟨by by_cases hy:y=0 <;> simp [hy],((Below.refl _ _).alloc (Nat.le_refl _) _).alloc (by simp) _⟩
 ·
  have hx:¬ x=0:=fun e=>hd (.inr e)
  have Fa:td=false:=by cases td with
   | false=>rfl
   | true=>exact absurd (.inl rfl) hd
  subst Fa;rw [if_neg (by simp [hx])];have gx:(x == 0)=false:=(by simp [hx]);clear hd;go_enter Tryz.func56,Tryz.ntmps56;have Aa:H9 (Lies ((w.alloc (.cells (v4' now next ab nb cb aj nj cj).toArray 27)).alloc (.cells #[.bool false,it x,it y] 74)) w.heap.size (v4' now next ab nb cb aj nj cj)):=(lies_new _ _ _).alloc _;have Ca:H9 (Lies ((w.alloc (.cells (v4' now next ab nb cb aj nj cj).toArray 27)).alloc (.cells #[.bool false,it x,it y] 74)) (w.heap.size+1) [.bool false,it x,it y]):=lies_new2 _ _ _ _;have Ba:H9 (Below w.heap.size w ((w.alloc (.cells (v4' now next ab nb cb aj nj cj).toArray 27)).alloc (.cells #[.bool false,it x,it y] 74))):=((Below.refl _ _).alloc (Nat.le_refl _) _).alloc (by simp) _;(go_wp2_with fail);generalize ((w.alloc (.cells (v4' now next ab nb cb aj nj cj).toArray 27)).alloc (.cells #[.bool false,it x,it y] 74))=wa at Aa Ca Ba  ⊢;refine (C1 _).mono ?_;rintro e wz ⟨rfl,Ea⟩;have Ga:=Ea.symm;clear Ea;subst Ga
  cases o1 with
  | false =>
   go_wp2;go_ret;exact ⟨by simp,Ba.o⟩
  | true =>
   have x0:=Aa.o.c 0 rfl;have x1:=Aa.o.c 1 rfl;have x2:=Aa.o.c 2 rfl;have x3:=Aa.o.c 3 rfl;have y1:=Ca.o.c 1 rfl;(go_wp2_with fail);clear x0 x1 x2 x3 y1;refine (C2 _ (HZ.o.below Ba.o)).mono ?_;rintro e wb ⟨rfl,hb⟩;have Ha:=Hd (Aa.o.belowS hb);have Ia:=Hd (Ca.o.belowS hb);have Da:=Hd (Ba.o.trans (hb.mono Ba.o.size));clear Aa Ca Ba;clear hb
   cases o2 with
   | true =>
    go_wp2;go_ret;exact ⟨by simp,Da.o⟩
   | false =>
    have x0:=Ha.o.c 0 rfl;have y2:=Ia.o.c 2 rfl;by_cases h2:now<y
    ·
     go_wp2;go_ret;exact ⟨by simp [h2],Da.o⟩
    ·
     go_wp2;go_ret;exact ⟨by simp;omega,Da.o⟩
theorem Lies.mid {W:World} {b:Nat} {vs:List Value} (h:Lies W b vs) (o n:Nat):W.rangeAt b o ((vs.drop o).take n):=h.range o _ fun j v hv=>by
 rw [List.getElem?_take] at hv
 split at hv
 · rwa [List.getElem?_drop] at hv
 · cases hv
def valH (ops:Array Oper) (o:Oper) (a:Act):Option Value:=
 if Region.wanted o (yielded ops a.tmps) then
  match o.op with
  | .pick x y z=>match a.eval x with
   | .bool true=>some (a.eval y)
   | .bool false=>some (a.eval z)
   | _=>none
  | .move x=>some (a.eval x)
  | _=>none
 else some undef
theorem valH_yields {P:Program} {ops:Array Oper} {S:World→Prop} {o:Oper} {a:Act} {v:Value} (h:valH ops o a=some v):YieldsIf P ops S o v a:=by
 unfold valH at h;by_cases hw:Region.wanted o (yielded ops a.tmps)=true
 ·
  rw [if_pos hw] at h;refine .inl ⟨hw,fun w _=>?_⟩
  split at h
  ·
   rename_i x y z ho
   split at h
   ·
    rename_i hx;injection h with h;subst h;simp [execOp,ho,hx,asBool]
   ·
    rename_i hx;injection h with h;subst h;simp [execOp,ho,hx,asBool]
   · cases h
  ·
   rename_i x ho;injection h with h;subst h;simp [execOp,ho]
  · cases h
 ·
  rw [if_neg hw] at h;injection h with h;exact .inr ⟨by simpa using hw,h.symm⟩
def finH (md:Region.Mode) (ops:Array Oper):List Nat→Array Bool→Act→Option Act
 | [],listed,a=>if Region.ready md ops listed=[] then some a else none
 | i::l,listed,a =>
  match ops[i]? with
  | none=>none
  | some o =>
   if Region.free md ops listed i=true∧(Region.ready md ops listed).contains i=true then
    match valH ops o a with
    | some v=>finH md ops l (listed.setIfInBounds i true) (a.put o.dst v)
    | none=>none
   else none
theorem wpAnyH_fin {P:Program} {md:Region.Mode} {ops:Array Oper} {Q:Exit→Act→World→Prop} {S:World→Prop} {w:World} (hs:Region.noSelect ops=true) (hQ:∀ c a a' w,Q (.panic c) a' w→Q (.panic c) a w) (hS:S w) :
  ∀ (l:List Nat) (fuel:Nat) (listed:Array Bool) (a:Act) {a':Act},l.length≤fuel→finH md ops l listed a=some a'→Q .normal a' w→wpAnyH P md ops Q S fuel listed a w
 | [],fuel,listed,a,a',_,h,k=>by
  unfold finH at h
  split at h
  ·
   rename_i hr;injection h with h;subst h;exact wpAnyH_done hr k fuel
  · cases h
 | i::l,0,listed,a,a',hf,h,k=>by simp at hf
 | i::l,fuel+1,listed,a,a',hf,h,k=>by
  unfold finH at h
  split at h
  · cases h
  ·
   rename_i o ho
   split at h
   ·
    rename_i hc
    split at h
    ·
     rename_i v hv;exact wpAnyH_take ho hs hc.1 hc.2 (fun c a w=>hQ c _ _ w) (valH_yields hv) hS (wpAnyH_fin hs hQ hS l fuel _ _ (by simpa using hf) h k)
    · cases h
   · cases h
theorem wpAnyH_finS {P:Program} {md:Region.Mode} {ops:Array Oper} {Q:Exit→Act→World→Prop} {S:World→Prop} {w:World} {fuel:Nat} {listed:Array Bool} {a:Act} (l:List Nat) (ps:List (Nat×Value)) (hs:Region.noSelect ops=true) (hQ:∀ c a a' w,Q (.panic c) a' w→Q (.panic c) a w) (hS:S w) (hf:l.length≤fuel)
  (h:finH md ops l listed a=some (ps.foldl (fun a p=>a.put (some p.1) p.2) a)) (k:Q .normal (ps.foldl (fun a p=>a.put (some p.1) p.2) a) w):wpAnyH P md ops Q S fuel listed a w:=wpAnyH_fin hs hQ hS l fuel listed a hf h k
def M.jobAt (id:Int) (k:Nat):List M.Jb→Int
 | []=>-1
 | j::l=>if j.id=id then (k:Int) else M.jobAt id (k+1) l
theorem l8Job_any {ab aj:Option Addr} {nb cb nj cj:Nat} {js:List M.Jb} (now next id:Int) (w:World) (hz:SeesJ w aj nj cj js) :
  Calls Tryz.prog 25 #[.agg #[.int .i64 now,.int .i64 next,.slice ab nb cb,.slice aj nj cj],.int .i64 id] w fun e w'=>e=.returned (.int .i64 (M.jobAt id 0 js))∧Below w.heap.size w w':=by
 have bn:(nj:Int)≤9223372036854775807:=(by have:=hz.big;have:=hz.le;omega);have Fa:(nj:Int)≤cj:=(by have:=hz.le;omega);have Ba:=lnw w (v4' now next ab nb cb aj nj cj) 27;have Aa:H9 (Below w.heap.size w (w.alloc (.cells (v4' now next ab nb cb aj nj cj).toArray 27))):=(Below.refl _ _).alloc (Nat.le_refl _) _;have HZ:H9 (SeesJ (w.alloc (.cells (v4' now next ab nb cb aj nj cj).toArray 27)) aj nj cj js):=hz.below Aa.o;generalize hR:M.jobAt id 0 js=R;have HR:=Hd (hR);clear hR hz;go_enter Tryz.func25,Tryz.ntmps25;go_wp2;generalize (w.alloc (.cells (v4' now next ab nb cb aj nj cj).toArray 27))=w1 at Ba Aa HZ ⊢;have x3:=Ba.o.c 3 rfl
 go_loop [5] (fun i=>∃ k:Nat,k≤nj∧i=it k∧M.jobAt id k (js.drop k)=R) (fun i=>nj-(intOf i).toNat)
 case atStart=>exact ⟨0,by omega,rfl,HR.o⟩
 case round =>
  obtain ⟨k,hk,rfl,hg⟩:=hrel;by_cases Ca:k<nj
  ·
   obtain ⟨b1,o1,rfl,Da⟩:=HZ.o.at (by omega);obtain ⟨ta,tc,hA,_⟩:=Da k Ca;have c1:w1.cell? ⟨b1,o1+k*18,none⟩=some (it (js.getD k M.j0).id):=hA 0 (by omega)
   have hG:(if (js.getD k M.j0).id=id then (k:Int) else M.jobAt id (k+1) (js.drop (k+1)))=R:=by
    rw [← hg,drop_step M.j0 HZ.o.len Ca];rfl
   generalize (js.getD k M.j0).id=x at c1 hG;clear Da hA hg;have hI:(k:Int)<(nj:Int):=(by omega);by_cases hx:x=id
   ·
    have hb:(x == id)=true:=(by simp [hx]);have HF:H9 ((k:Int)=R):=(by show _=_;rw [if_pos hx] at hG;exact hG);clear hx hG;go_wp2;go_ret;exact ⟨by rw [← HF.o];rfl,Aa.o⟩
   ·
    have hb:(x == id)=false:=(by simp [hx]);have Ea:H9 (M.jobAt id (k+1) (js.drop (k+1))=R):=(by show _=_;rw [if_neg hx] at hG;exact hG);clear hx hG;go_wp2
    go_round
    case rel=>exact ⟨k+1,by omega,by go_num,Ea.o⟩
    case measure=>simp [intOf];omega
  ·
   have HF:H9 (-1=R):=(by show _=_;rw [List.drop_of_length_le (by rw [HZ.o.len];omega)] at hg;exact hg);clear hg;go_wp2;go_ret;exact ⟨by rw [← HF.o];rfl,Aa.o⟩
theorem owns_empty {t:TypeId} (w:World) {base:Nat} (hb:base≤w.heap.size):Owns t (w.alloc (.cells #[] t)) base (some ⟨w.heap.size,0,none⟩) 0 0 []:=by
 refine ⟨rfl,.inr ⟨w.heap.size,0,#[],rfl,hb,?_,Nat.le_refl _,Nat.zero_le _,rfl,rfl⟩⟩;show (w.heap.push _)[w.heap.size]? = _;simp
def SpL (now:Int) (bs:List Int) (jg:Bool) (tl:List M.Tk) (R SN:Bool) (WF:List Int) (w1:World) (jb:Nat) (JQ:List Value) (p:Nat) (us:List Int) (l:Value) (wr:World):Prop:=
 ((M.spT now bs jg us (tl.drop p) && !(jg && tl.all (·.done))) && SN)=R∧us++(tl.drop p).map (·.worker)=WF∧Lies wr jb JQ∧l.ownBlock≠some jb∧LsR w1 us l wr
def MkxGoal : Prop:=∀ (ab aj:Option Addr) (nb cb nj cj:Nat) (bs:List Int) (js:List M.Jb) (now next:Int) (w:World),SeesM w ab nb cb aj nj cj bs js →
  Calls Tryz.prog 26 #[.agg #[.int .i64 now,.int .i64 next,.slice ab nb cb,.slice aj nj cj]] w fun e w'=>e=.returned (.bool (M.mkOk now next bs js))∧Below w.heap.size w w'
set_option maxRecDepth 100000 in
def mkxA : Cut2 MkxGoal:=by
 apply Cut2.mk;intro key1 key2 ab aj nb cb nj cj bs js Aa Ba w hz;rw [← M.spOk_eq];have La:js.length=nj:=hz.j.len;have Na:bs.length=nb:=hz.b.len;have Wa:(nb:Int)≤9223372036854775807:=(by have:=hz.b.big;have:=hz.b.le;omega);have Xa:(nj:Int)≤9223372036854775807:=(by have:=hz.j.big;have:=hz.j.le;omega);have Ya:(nb:Int)≤cb:=(by have:=hz.b.le;omega);have Za:(nj:Int)≤cj:=(by have:=hz.j.le;omega);have Ea:=lnw w (v4' Aa Ba ab nb cb aj nj cj) 27;have Ca:H9 (Below w.heap.size w (w.alloc (.cells (v4' Aa Ba ab nb cb aj nj cj).toArray 27))):=(Below.refl _ _).alloc (Nat.le_refl _) _;have Oa:H9 (SeesM (w.alloc (.cells (v4' Aa Ba ab nb cb aj nj cj).toArray 27)) ab nb cb aj nj cj bs js):=hz.below Ca.o
 have HI:H9 (∃ i0,Tryz.prog.info? 2 = some i0∧i0.zero=some (it 0)∧i0.size=1∧i0.bytes=8):=by
  obtain ⟨i0,h1,h2,h3,h4⟩:=info_parts info_i64;exact ⟨i0,h1,h2,h3,h4⟩
 have C1:=l1InG_any Aa 0 1000000000;have C2:=l1InG_any Ba 1 1000000000;generalize hR:M.spOk Aa Ba bs js=R;unfold M.spOk at hR;rw [La,Na] at hR;have HN:H9 ((decide (0≤Aa) && decide (Aa≤1000000000))=true→0≤Aa∧Aa≤1000000000):=fun h=>by simpa using h
 have HX:H9 ((decide (1≤Ba) && decide (Ba≤1000000000))=true→1≤Ba∧Ba≤1000000000):=fun h=>by simpa using h
 generalize (decide (1≤Ba) && decide (Ba≤1000000000))=o2 at C2 hR HX;generalize (decide (0≤Aa) && decide (Aa≤1000000000))=o1 at C1 hR HN;have HR:=Hd (hR);clear hz hR;go_enter Tryz.func26,Tryz.ntmps26;(go_wp2_with fail);generalize (w.alloc (.cells (v4' Aa Ba ab nb cb aj nj cj).toArray 27))=w1 at Ea Ca Oa ⊢;refine (C1 _).mono ?_;rintro e wz ⟨rfl,Fa⟩;have Pa:=Fa.symm;clear Fa;subst Pa
 cases o1 with
 | false =>
  go_wp2;go_ret;exact ⟨ret_bool HR.o,Ca.o⟩
 | true =>
  have x1:=Ea.o.c 1 rfl;(go_wp2_with fail);clear x1;refine (C2 _).mono ?_;rintro e wz ⟨rfl,Fa⟩;have Pa:=Fa.symm;clear Fa;subst Pa
  cases o2 with
  | false =>
   go_wp2;go_ret;exact ⟨ret_bool HR.o,Ca.o⟩
  | true =>
   obtain ⟨Ab,Bb⟩:=HN.o (by simp);obtain ⟨Cb,Db⟩:=HX.o (by simp);clear HN HX;have x3:=Ea.o.c 3 rfl;have x2:=Ea.o.c 2 rfl;by_cases h6:nj≤6
   case neg =>
    have Qa:(6:Int)<(nj:Int):=(by omega);have HF:H9 (false=R):=(by show _=_;have:=HR.o;rw [show decide (nj≤6)=false by simpa using h6] at this;simpa using this);go_wp2;go_ret;exact ⟨ret_bool HF.o,Ca.o⟩
   have Qa:(nj:Int)≤6:=(by omega);by_cases h9:nb≤9
   case neg =>
    have Ra:(9:Int)<(nb:Int):=(by omega);have HF:H9 (false=R):=(by show _=_;have:=HR.o;rw [show decide (nb≤9)=false by simpa using h9] at this;simpa using this);go_wp2;go_ret;exact ⟨ret_bool HF.o,Ca.o⟩
   have Ra:(nb:Int)≤9:=(by omega);have Sa:H9 ((M.bnGo 0 bs && M.spJ Aa Ba bs 0 [] js)=R):=(by show _=_;have:=HR.o;rw [show decide (nj≤6)=true by simpa using h6,show decide (nb≤9)=true by simpa using h9] at this;simpa using this);clear HR;go_wp2;generalize Eb:M.spJ Aa Ba bs 0 [] js=SJ at Sa;have Ta:=Hd (Eb);clear Eb x3 x2
   go_loopw [3] (fun i wr=>∃ (q:Nat) (l:Int),q≤nb∧i=it q∧(q=0→l=0)∧(∀ q',q=q'+1→l=bs.getD q' 0)∧(M.bnGo l (bs.drop q) && SJ)=R∧Below w1.heap.size w1 wr) (fun i _=>nb-(intOf i).toNat)
   case atStart=>exact ⟨0,0,by omega,rfl,fun _=>rfl,(fun q' h=>by omega),Sa.o,Below.refl _ _⟩
   case round =>
    obtain ⟨q,l,hq,rfl,Ga,Ha,hg,Da⟩:=hrel;clear Sa;by_cases Ua:q<nb
    case pos =>
     rename_i Hb Ib Jb Kb;revert ab aj nb cb nj cj bs js Aa Ba w La Na Wa Xa Ya Za HI R Hb w1 Ea Ca Oa C1 C2 Ab Bb Cb Db h6 Qa h9 Ra Ib Jb Kb SJ Ta wr u2 u32 u33 u34 u35 u36 u37 u38 u39 u40 u41 u42 u43 u44 u45 u46 u47 u48 u49 u50 u51 u52 u53 u54 u55 u56 u57 u58 u59 u60 u61 u62 u63 q l hq Ga Ha hg Da Ua;exact key1.out
    have Lb:q=nb:=(by omega);subst Lb;have Fb:H9 (SJ=R):=(by show _=_;have:=hg;rw [List.drop_of_length_le (by omega)] at this;simpa [M.bnGo] using this);have Ja:=Hd (Da);have x2:wr.cell? ⟨w.heap.size,2,none⟩=some (.slice ab q cb):=(Ea.o.belowS Da).at 2;clear hg Da Ga Ha;(go_wp2_with fail);clear x2;have Ka:H9 (Owns 2 (wr.alloc (.cells #[] 2)) w1.heap.size (some ⟨wr.heap.size,0,none⟩) 0 0 []):=owns_empty _ Ja.o.size;have Va:H9 (Below w1.heap.size w1 (wr.alloc (.cells #[] 2))):=Ja.o.alloc Ja.o.size _;clear Ja;generalize wr.alloc (.cells #[] 2)=we at Ka Va ⊢;generalize wr.heap.size=eb at Ka ⊢
    go_loopw [4,5] (fun l i wr=>∃ (j:Nat) (Ia:Int) (ws:List Int),j≤nj∧i=it j∧(j=0→Ia=0)∧(∀ j',j=j'+1→Ia=(js.getD j' M.j0).id)∧M.spJ Aa Ba bs Ia ws (js.drop j)=R∧ws.length≤8*j∧LsR w1 ws l wr) (fun _ i _=>nj-(intOf i).toNat)
    case atStart=>exact ⟨0,0,[],by omega,rfl,fun _=>rfl,(fun q' h=>by omega),Ta.o.trans Fb.o,Nat.zero_le _,_,0,0,rfl,Ka.o,Va.o⟩
    case round =>
     obtain ⟨j,Ia,ws,hj,rfl,Ga,Ha,hg,Nb,al,ml,cl,rfl,Gb,Da⟩:=hrel;clear Ka Va Ta Fb;by_cases Ua:j<nj
     case pos =>
      rename_i Ob Pb Qb Rb Sb Tb Ub Vb Wb Xb Yb;revert ab aj cb nj cj bs js Aa Ba w La Xa Za HI R Ob w1 Ca C1 C2 Ab Bb Cb Db h6 Qa Pb SJ Qb Rb u32 u33 u34 u35 u36 u37 u38 u39 u40 u41 u42 u43 u44 u45 u46 u47 u48 u49 u50 u51 u52 u53 u54 u55 u56 u57 u58 u59 u60 u61 u62 u63 q l Na Wa Ya Ea Oa h9 Ra Sb hq Tb Ub Vb Wb Xb Yb we eb wr u2 u6 u7 u8 u9 u65 u66 u67 u68 u69 u70 u71 u72 u73 u74 u75 u76 u77 u78 u79 u80 u81 u82 u83 u84 u85 u86 u87 u88 u89 u90 u91 u92 u93 u94 u95 u96 u97 u98 u99 u100 u101 u102 u103 u104 u105 u106 u107 u108 u109 u110 u111 u112 u113 u114 u115 u116 u117 u118 u119 u120 u121 u122 u123 u124 u125 u126 u127 u128 u129 u130 u131 u132 u133 u134 u135 u136 u137 u138 u139 u140 u141 u142 u143 u144 u145 u146 u147 u148 u149 u150 u151 u152 u153 u154 u155 u156 u157 u158 u159 u160 u161 u162 u163 u164 u165 u166 u167 u168 u169 u170 u171 u172 u173 u174 u175 u176 u177 u178 u179 u180 u181 u182 u183 u184 u185 u186 u187 j Ia ws hj Ga Ha hg Nb al ml cl Gb Da Ua;exact key2.out
     have Zb:j=nj:=(by omega);subst Zb;have Ac:H9 (true=R):=(by show _=_;have:=hg;rw [List.drop_of_length_le (by omega)] at this;exact this);have x3:wr.cell? ⟨w.heap.size,3,none⟩=some (.slice aj j cj):=(Ea.o.belowS Da).at 3;have Bc:=Hd (Ca.o.trans (Da.mono Ca.o.size));clear hg Da Gb Ga Ha;go_wp2;go_ret;exact ⟨ret_bool Ac.o,Bc.o⟩
set_option maxRecDepth 100000 in
theorem mkxA_1 : mkxA.p:=by
     intro ab aj nb cb nj cj bs js Cb Db w Eb Wa Fb Gb Hb Ib HI R Jb w1 Xa Ea Ya C1 C2 Kb Lb Nb Ob h6 Pb h9 Qb Rb Sb Tb SJ Ub wr u2 Vb Wb Xb Yb Zb Ac Bc Cc Dc Ec Fc Gc Hc Ic Jc Kc Lc Nc Oc Pc Qc Rc Sc Tc Uc Vc Wc Xc Yc Zc Ad Bd q l hq La Na hg Ia Ua;obtain ⟨b1,o1,rfl,Ja⟩:=(Ya.o.b.below Ia).at (by omega);have c1:=Ja q Ua;have hG:(((decide (l<bs.getD q 0) && M.wkOk (bs.getD q 0)) && M.bnGo (bs.getD q 0) (bs.drop (q+1))) && SJ)=R:=(by rw [← hg,drop_step 0 Wa Ua];rfl);have Cd:(q:Int)<(nb:Int):=(by omega);have C3:=l1InG_any (bs.getD q 0) 1 9
     change ∀ w,Calls Tryz.prog 43 #[.int .i64 (bs.getD q 0),.int .i64 1,.int .i64 9] w fun e w'=>e=.returned (.bool (M.wkOk (bs.getD q 0)))∧w'=w at C3
     have Oa:H9 (M.wkOk (bs.getD q 0)=true→1≤bs.getD q 0):=fun h=>by unfold M.wkOk at h;simp at h;exact h.1
     have Va:∀ q',q+1=q'+1→bs.getD q 0=bs.getD q' 0:=fun q' h=>by rw [Nat.succ.inj h]
     have Pa:=Hd (Va);clear Va hg;have Ca:=Hd (Ia);have Da:=Hd (Xa.o.belowS Ia);clear Ia;have x2:=Da.o.c 2 rfl;(go_wp2_with fail);clear x2;generalize bs.getD q 0=x at c1 hG C3 Oa Pa;generalize M.wkOk x=ow at hG C3 Oa;have HG:=Hd (hG);clear hG;by_cases Ka:q=0
     case pos =>
      obtain rfl:=La Ka;have Dd:¬ (0:Int)<(q:Int):=(by omega);have Za:H9 (q=0):=Ka;clear La Na Ja Ka;refine hst' wr none (by kernel_rfl) fun hHeld=>?_;generalize wr.drew=Qa at hHeld ⊢;have Fa:H9 (Below wr.heap.size wr Qa):=⟨hHeld.os,hHeld.tape,hHeld.output,hHeld.size,fun k hk=>hHeld.block k hk (by simp)⟩;refine tk 0 (.pointer (some ⟨w.heap.size,2,none⟩)) ?_ ?_
      · intro wq Aa;go_simp
      (try simp only [Act.put]);refine tk 1 (.slice (some ⟨b1,o1,none⟩) nb cb) ?_ ?_
      · intro wp Ba;have c0:=(Da.o.grown Ba (by simp)).c 2 rfl;go_simp
      (try simp only [Act.put]);refine tk 2 (it (q:Nat)) ?_ ?_
      · intro wq Aa;go_simp
      (try simp only [Act.put]);refine tk 3 (.pointer (some ⟨b1,o1+q,none⟩)) ?_ ?_
      · intro wq Aa;go_simp
      (try simp only [Act.put]);refine tk 4 (it x) ?_ ?_
      · intro wp Ba;have c0:wp.cell? ⟨b1,o1+q,none⟩=some (it x):=Ba.cell c1 (by simp);go_simp
      (try simp only [Act.put]);refine rdy' 5 fun Kk hK=>?_;go_simp;refine (C3 _).mono ?_;rintro e wn ⟨rfl,Ga⟩;have Ra:=Ga.symm;clear Ga;subst Ra;go_simp;refine hK.out _ _ (by assumption) (fun hHeld1=>?_);clear hK Kk;(try simp only [Act.put]);refine tk 6 (.bool (!ow)) ?_ ?_
      · intro wq Aa;go_simp
      (try simp only [Act.put]);refine tk 7 (.bool (!ow)) ?_ ?_
      · intro wq Aa;go_simp
      try simp only [Act.put]
      cases ow with
      | false =>
       refine sk 8 ?_;(try simp only [Act.put]);refine sk 9 ?_;(try simp only [Act.put]);refine sk 10 ?_;(try simp only [Act.put]);refine sk 11 ?_;(try simp only [Act.put]);refine sk 12 ?_;(try simp only [Act.put]);refine sk 13 ?_;(try simp only [Act.put]);refine sk 14 ?_;(try simp only [Act.put]);refine sk 15 ?_;(try simp only [Act.put]);refine sk 16 ?_;(try simp only [Act.put]);refine sk 17 ?_;(try simp only [Act.put]);refine sk 18 ?_;(try simp only [Act.put]);refine sk 19 ?_;(try simp only [Act.put]);refine sk 20 ?_;(try simp only [Act.put]);refine sk 21 ?_;(try simp only [Act.put]);refine sk 22 ?_;(try simp only [Act.put]);refine sk 23 ?_;(try simp only [Act.put]);refine tk 24 (.bool true) ?_ ?_
       · intro wq Aa;go_simp
       (try simp only [Act.put]);refine dne' ?_;go_simp;have HF:H9 (false=R):=(by show _=_;have:=HG.o;simpa using this);have Ha:=Hd (Ea.o.trans ((Ca.o.trans (Fa.o.mono Ca.o.size)).mono Ea.o.size));go_wp2;go_ret;exact ⟨ret_bool HF.o,Ha.o⟩
      | true =>
       refine tk 8 (it (q:Nat)) ?_ ?_
       · intro wq Aa;go_simp
       (try simp only [Act.put]);refine tk 9 (.bool false) ?_ ?_
       · intro wq Aa;go_simp;exact Za.o
       (try simp only [Act.put]);refine tk 10 (.bool false) ?_ ?_
       · intro wq Aa;go_simp
       (try simp only [Act.put]);refine sk 11 ?_;(try simp only [Act.put]);refine sk 12 ?_;(try simp only [Act.put]);refine sk 13 ?_;(try simp only [Act.put]);refine sk 14 ?_;(try simp only [Act.put]);refine sk 15 ?_;(try simp only [Act.put]);refine sk 16 ?_;(try simp only [Act.put]);refine sk 17 ?_;(try simp only [Act.put]);refine sk 18 ?_;(try simp only [Act.put]);refine sk 19 ?_;(try simp only [Act.put]);refine sk 20 ?_;(try simp only [Act.put]);refine sk 21 ?_;(try simp only [Act.put]);refine sk 22 ?_;(try simp only [Act.put]);refine tk 23 (.bool false) ?_ ?_
       · intro wq Aa;go_simp
       (try simp only [Act.put]);refine tk 24 (.bool false) ?_ ?_
       · intro wq Aa;go_simp
       (try simp only [Act.put]);refine dne' ?_;go_simp;have Sa:=Hd (Ca.o.trans (Fa.o.mono Ca.o.size));clear Ca Da;have Ed:=Oa.o rfl;have Ta:H9 ((M.bnGo x (bs.drop (q+1)) && SJ)=R):=(by show _=_;have:=HG.o;rw [show decide ((0:Int)<x)=true by simp;omega] at this;simpa using this);go_wp2;go_roundw
       case rel=>exact ⟨q+1,x,by omega,by go_num,(fun h=>by omega),Pa.o,Ta.o,Sa.o⟩
       case measure=>simp [intOf];omega
     obtain ⟨p,hp⟩:∃ p,q=p+1:=⟨q-1,by omega⟩;have c0:=Ja p (by omega);obtain rfl:=Na p hp;generalize bs.getD p 0=l at c0 HG;clear La Na Ja Ka;have Fd:(q:Int)-1=(p:Int):=(by omega);have Gd:IntKind.i64.wrap (p:Int)=(p:Int):=(by rw [IntKind.wrap_i64];omega);have Id:(0:Int)<(q:Int):=(by omega);have Jd:(p:Int)<(nb:Int):=(by omega);have Kd:(0:Int)≤(p:Int):=(by omega);have Ab:H9 (0<q):=(by omega:0<q);clear hp;refine hst' wr none (by kernel_rfl) fun hHeld=>?_;generalize wr.drew=Qa at hHeld ⊢;have Fa:H9 (Below wr.heap.size wr Qa):=⟨hHeld.os,hHeld.tape,hHeld.output,hHeld.size,fun k hk=>hHeld.block k hk (by simp)⟩;refine tk 0 (.pointer (some ⟨w.heap.size,2,none⟩)) ?_ ?_
     · intro wq Aa;go_simp
     (try simp only [Act.put]);refine tk 1 (.slice (some ⟨b1,o1,none⟩) nb cb) ?_ ?_
     · intro wp Ba;have c0:=(Da.o.grown Ba (by simp)).c 2 rfl;go_simp
     (try simp only [Act.put]);refine tk 2 (it (q:Nat)) ?_ ?_
     · intro wq Aa;go_simp
     (try simp only [Act.put]);refine tk 3 (.pointer (some ⟨b1,o1+q,none⟩)) ?_ ?_
     · intro wq Aa;go_simp
     (try simp only [Act.put]);refine tk 4 (it x) ?_ ?_
     · intro wp Ba;have c0:wp.cell? ⟨b1,o1+q,none⟩=some (it x):=Ba.cell c1 (by simp);go_simp
     (try simp only [Act.put]);refine rdy' 5 fun Kk hK=>?_;go_simp;refine (C3 _).mono ?_;rintro e wn ⟨rfl,Ga⟩;have Ra:=Ga.symm;clear Ga;subst Ra;go_simp;refine hK.out _ _ (by assumption) (fun hHeld1=>?_);clear hK Kk;(try simp only [Act.put]);refine tk 6 (.bool (!ow)) ?_ ?_
     · intro wq Aa;go_simp
     (try simp only [Act.put]);refine tk 7 (.bool (!ow)) ?_ ?_
     · intro wq Aa;go_simp
     try simp only [Act.put]
     cases ow with
     | false =>
      refine sk 8 ?_;(try simp only [Act.put]);refine sk 9 ?_;(try simp only [Act.put]);refine sk 10 ?_;(try simp only [Act.put]);refine sk 11 ?_;(try simp only [Act.put]);refine sk 12 ?_;(try simp only [Act.put]);refine sk 13 ?_;(try simp only [Act.put]);refine sk 14 ?_;(try simp only [Act.put]);refine sk 15 ?_;(try simp only [Act.put]);refine sk 16 ?_;(try simp only [Act.put]);refine sk 17 ?_;(try simp only [Act.put]);refine sk 18 ?_;(try simp only [Act.put]);refine sk 19 ?_;(try simp only [Act.put]);refine sk 20 ?_;(try simp only [Act.put]);refine sk 21 ?_;(try simp only [Act.put]);refine sk 22 ?_;(try simp only [Act.put]);refine sk 23 ?_;(try simp only [Act.put]);refine tk 24 (.bool true) ?_ ?_
      · intro wq Aa;go_simp
      (try simp only [Act.put]);refine dne' ?_;go_simp;have HF:H9 (false=R):=(by show _=_;have:=HG.o;simpa using this);have Ha:=Hd (Ea.o.trans ((Ca.o.trans (Fa.o.mono Ca.o.size)).mono Ea.o.size));go_wp2;go_ret;exact ⟨ret_bool HF.o,Ha.o⟩
     | true =>
      refine tk 8 (it (q:Nat)) ?_ ?_
      · intro wq Aa;go_simp
      (try simp only [Act.put]);refine tk 9 (.bool true) ?_ ?_
      · intro wq Aa;go_simp;exact Ab.o
      (try simp only [Act.put]);refine tk 10 (.bool true) ?_ ?_
      · intro wq Aa;go_simp
      (try simp only [Act.put]);refine tk 11 (.pointer (some ⟨w.heap.size,2,none⟩)) ?_ ?_
      · intro wq Aa;go_simp
      (try simp only [Act.put]);refine tk 12 (.slice (some ⟨b1,o1,none⟩) nb cb) ?_ ?_
      · intro wp Ba;have c0:=(Da.o.grown Ba (by simp)).c 2 rfl;go_simp
      (try simp only [Act.put]);refine tk 13 (it (q:Nat)) ?_ ?_
      · intro wq Aa;go_simp
      (try simp only [Act.put]);refine tk 14 (it p) ?_ ?_
      · intro wq Aa;go_simp
      (try simp only [Act.put]);refine tk 15 (.pointer (some ⟨b1,o1+p,none⟩)) ?_ ?_
      · intro wq Aa;go_simp
      (try simp only [Act.put]);refine tk 16 (it l) ?_ ?_
      · intro wp Ba;have c0:wp.cell? ⟨b1,o1+p,none⟩=some (it l):=Ba.cell c0 (by simp);go_simp
      (try simp only [Act.put]);refine tk 17 (.pointer (some ⟨w.heap.size,2,none⟩)) ?_ ?_
      · intro wq Aa;go_simp
      (try simp only [Act.put]);refine tk 18 (.slice (some ⟨b1,o1,none⟩) nb cb) ?_ ?_
      · intro wp Ba;have c0:=(Da.o.grown Ba (by simp)).c 2 rfl;go_simp
      (try simp only [Act.put]);refine tk 19 (it (q:Nat)) ?_ ?_
      · intro wq Aa;go_simp
      (try simp only [Act.put]);refine tk 20 (.pointer (some ⟨b1,o1+q,none⟩)) ?_ ?_
      · intro wq Aa;go_simp
      (try simp only [Act.put]);refine tk 21 (it x) ?_ ?_
      · intro wp Ba;have c0:wp.cell? ⟨b1,o1+q,none⟩=some (it x):=Ba.cell c1 (by simp);go_simp
      (try simp only [Act.put]);by_cases Bb:x≤l
      ·
       have hd:decide (x≤l)=true:=(by simp [Bb]);refine tk 22 (.bool true) ?_ ?_
       · intro wq Aa;go_simp
       (try simp only [Act.put]);refine tk 23 (.bool true) ?_ ?_
       · intro wq Aa;go_simp
       (try simp only [Act.put]);refine tk 24 (.bool true) ?_ ?_
       · intro wq Aa;go_simp
       (try simp only [Act.put]);refine dne' ?_;go_simp;have HF:H9 (false=R):=(by show _=_;have:=HG.o;rw [show decide (l<x)=false by simp;omega] at this;simpa using this);have Ha:=Hd (Ea.o.trans ((Ca.o.trans (Fa.o.mono Ca.o.size)).mono Ea.o.size));go_wp2;go_ret;exact ⟨ret_bool HF.o,Ha.o⟩
      ·
       have hd:decide (x≤l)=false:=(by simp;omega);refine tk 22 (.bool false) ?_ ?_
       · intro wq Aa;go_simp
       (try simp only [Act.put]);refine tk 23 (.bool false) ?_ ?_
       · intro wq Aa;go_simp
       (try simp only [Act.put]);refine tk 24 (.bool false) ?_ ?_
       · intro wq Aa;go_simp
       (try simp only [Act.put]);refine dne' ?_;go_simp;have Sa:=Hd (Ca.o.trans (Fa.o.mono Ca.o.size));clear Ca Da;have Ta:H9 ((M.bnGo x (bs.drop (q+1)) && SJ)=R):=(by show _=_;have:=HG.o;rw [show decide (l<x)=true by simp;omega] at this;simpa using this);go_wp2;go_roundw
       case rel=>exact ⟨q+1,x,by omega,by go_num,(fun h=>by omega),Pa.o,Ta.o,Sa.o⟩
       case measure=>simp [intOf];omega
set_option maxRecDepth 100000 in
def mkxB : Cut2 mkxA.q:=by
      apply Cut2.mk;intro key1 key2;intro ab aj cb nj cj bs js Ya Za w Ka Ab Bb HI R Cb w1 Db C1 C2 Eb Fb Gb Hb h6 Ib Jb SJ Kb Lb Nb Ob Pb Qb Rb Sb Tb Ub Vb Wb Xb Yb Zb Ac Bc Cc Dc Ec Fc Gc Hc Ic Jc Kc Lc Nc Oc Pc Qc Rc Sc Tc q l Uc Vc Wc La Na h9 Xc Yc hq Zc Ad Bd Cd Dd Ed we eb wr u2 u6 u7 u8 u9 Fd Gd Id Jd Kd Ld Nd Od Pd Qd Rd Sd Td Ud Vd Wd Xd Yd Zd Ae Be Ce De Ee Fe Ge He Ie Je Ke Le Ne Oe Pe Qe Re Se Te Ue Ve We Xe Ye Ze Af Bf Cf Df Ef Ff Gf Hf If Jf Kf Lf Nf Of Pf Qf Rf Sf Tf Uf Vf Wf Xf Yf Zf Ag Bg Cg Dg Eg Fg Gg Hg Ig Jg Kg Lg Ng Og Pg Qg Rg Sg Tg Ug Vg Wg Xg Yg Zg Ah Bh Ch Dh Eh Fh Gh Hh Ih Jh Kh Lh Nh Oh Ph Qh Rh Sh Th Uh Vh Wh Xh Yh Zh Ai Bi Ci Di j Oa ws hj Pa Ei hg Fi al ml cl Qa Ca Da;obtain ⟨b1,o1,rfl,Ra⟩:=Na.o.j.at (by omega);obtain ⟨ta,tc,hA,hT⟩:=Ra j Da;have Gi:(j:Int)<(nj:Int):=(by omega);have hG:=hg;rw [drop_step M.j0 Ka Da] at hG;unfold M.spJ M.spH at hG;have Ea:∀ j',j+1=j'+1→(js.getD j M.j0).id=(js.getD j' M.j0).id:=fun j' h=>by rw [Nat.succ.inj h]
      have Fa:H9 (∀ p,j=p+1→w1.cell? ⟨b1,o1+p*18,none⟩=some (it Oa)):=fun p hp=>by
       obtain ⟨Oj,Pj,Qi,_⟩:=Ra p (by omega);have:=Qi 0 (by omega);rw [Ei p hp];exact this
      generalize js.getD j M.j0=cq at hA hT hG Ea;obtain ⟨Aa,⟨⟨a,b,c',d,f,k⟩,⟨a',b',Ba,d',f',k'⟩⟩,⟨s1,s2⟩,jr,jg,tl⟩:=cq;dsimp only at hT hG Ea;have hR:wr.rangeAt b1 (o1+j*18) (jvs ⟨Aa,⟨⟨a,b,c',d,f,k⟩,⟨a',b',Ba,d',f',k'⟩⟩,(s1,s2),jr,jg,tl⟩ ta tc):=range_below (row_of_cells rfl hA) Ca;have HT:=Hd (hT);dsimp only [jvs] at hR;generalize Hi:tl.length=tn at hR HT hG;have Ii:=Hd (Hi);have Ji:=Hd (Ea);have Ki:(tn:Int)≤tc:=(by have:=HT.o.le;omega);have Li:(tn:Int)≤9223372036854775807:=(by have:=HT.o.le;have:=HT.o.big;omega);have C3:=l1InG_any Aa 1 1000000000;have CM:=specMachineOk_any ⟨⟨a,b,c',d,f,k⟩,⟨a',b',Ba,d',f',k'⟩⟩;have CS:=specStateOk_any (s1,s2);have CR:=l6Rows_any jr;dsimp only [mcv,stv] at CM CS;generalize M.rows jr=oR at CR hG;generalize M.sOk (s1,s2)=oS at CS hG;generalize M.Mc.ok ⟨⟨a,b,c',d,f,k⟩,⟨a',b',Ba,d',f',k'⟩⟩=oM at CM hG;have Sa:H9 ((decide (1≤Aa) && decide (Aa≤1000000000))=true→1≤Aa):=fun h=>by simp at h;exact h.1
      generalize (decide (1≤Aa) && decide (Aa≤1000000000))=oI at C3 hG Sa;have HG:H9 (_=R):=hG;clear Ra hA hT hg hG Hi Ea Ei;have Ta:=Hd (Ca);have Ua:=Hd (La.o.belowS Ca);have Ni:H9 (Owns 2 wr w1.heap.size al ml cl ws):=Qa;have Oi:∀ z,(Value.slice al ml cl).ownBlock=some z→z<wr.heap.size:=fun z hz=>(World.ownsRow.lt Qa z hz).2;have Va:(Value.slice al ml cl).ownBlock≠some wr.heap.size:=fun e=>absurd (Oi _ e) (by omega);clear Oi Ca Qa;have m3:=Ua.o.c 3 rfl;(go_wp2_with (with_reducible refine wpList_stop 76 ?_ ?_;rfl));clear m3;with_reducible refine ldm 44 b1 (o1+j*18) (v0' Aa a b c' d f k a' b' Ba d' f' k' s1 s2 jr jg ta tn tc) hR Tryz.underlying44 ?q5 ?_
      case q5=>exact ⟨rfl,rfl,by kernel_rfl,_,rfl,by kernel_rfl⟩
      clear hR;(go_wp2_with (with_reducible refine wpList_stop 6 ?_ ?_;rfl));show wpList _ _ _ _ _ _;have Pi:(Instr.alloc 44 true (.tuple #[])).run Tryz.prog wr=.ok (.pointer (some ⟨wr.heap.size,0,none⟩)) (wr.alloc (.cells v2'.toArray 44)):=(by kernel_rfl);with_reducible refine wpList_alloc_as ?qg 44 ?qo v2'.toArray Pi ?_
      case qg | qo=>exact rfl
      clear Pi;show wpList _ _ _ _ _ _;with_reducible refine Hx (stm 44 wr.heap.size 0 (v0' Aa a b c' d f k a' b' Ba d' f' k' s1 s2 jr jg ta tn tc) ?q6 ?q5 ?_)
      case q6=>exact (lies_new _ _ _).there _ 18 (by simp)
      case q5=>exact ⟨rfl,by kernel_rfl,by kernel_rfl,_,_,rfl,by kernel_rfl,by kernel_rfl⟩
      have Ga:Below wr.heap.size wr ((wr.alloc (.cells v2'.toArray 44)).setCells wr.heap.size 0 (v0' Aa a b c' d f k a' b' Ba d' f' k' s1 s2 jr jg ta tn tc)):=below_setCells _ _ ((Below.refl _ _).alloc (Nat.le_refl _) _) (Nat.le_refl _);have Ha:=Hd (Ta.o.trans (Ga.mono Ta.o.size));have Wa:=Hd (Ua.o.belowS Ga);have Xa:=Hd (Ni.o.below Ga);clear Ta Ua Ni;clear Ga;have Ia:H9 (Lies ((wr.alloc (.cells v2'.toArray 44)).setCells wr.heap.size 0 (v0' Aa a b c' d f k a' b' Ba d' f' k' s1 s2 jr jg ta tn tc)) wr.heap.size (v0' Aa a b c' d f k a' b' Ba d' f' k' s1 s2 jr jg ta tn tc)):=(lies_new wr v2'.toArray 44).setCells (v0' Aa a b c' d f k a' b' Ba d' f' k' s1 s2 jr jg ta tn tc) 0 (by simp);generalize ((wr.alloc (.cells v2'.toArray 44)).setCells wr.heap.size 0 (v0' Aa a b c' d f k a' b' Ba d' f' k' s1 s2 jr jg ta tn tc))=w2 at Ha Wa Xa Ia  ⊢;generalize wr.heap.size=jb at Ia Va ⊢;(go_wp2_with fail);by_cases Ja:j=0
      case pos =>
       obtain rfl:=Pa Ja;have Ri:¬ (0:Int)<(j:Int):=(by omega);have Si:H9 (j=0):=Ja;clear Pa Ja Fa;rename_i Ti Ui Vi Wi Xi Yi Zi;revert ab cb nj cj bs js Ya Za w Ka Ab Bb HI R Cb w1 Db C1 C2 Eb Fb Gb Hb h6 Ib Jb SJ Kb Lb Nb Ob Pb Qb Rb Sb Tb Ub Vb Wb Xb Yb Zb Ac Bc Cc Dc Ec Fc Gc Hc Ic Jc Kc Lc Nc Oc Pc Qc Rc Sc Tc q l Uc Vc Wc h9 Xc Yc hq Zc Bd Dd Ed we eb wr u2 u6 u7 u8 u9 Fd Gd Id Jd Kd Ld Nd Od Pd Qd Rd Sd Td Ud Vd Wd Xd Yd Zd Ae Be Ce De Ee Fe Ge He Ie Je Ke Le Ne Oe Pe Qe Re Se Te Ue Ve We Xe Ye Ze Af Bf Cf Df Ef Ff Gf Hf If Jf Kf Lf Nf Of Pf Qf Rf Sf Tf Uf Vf Wf Xf Yf Zf Ag Bg Cg Dg Eg Fg Gg Hg Ig Jg Kg Lg Ng Og Pg Qg Rg Sg Tg Ug Vg Wg Xg Yg Zg Ah Bh Ch Dh Eh Fh Gh Hh Ih Jh Kh Lh Nh Oh Ph Qh Rh Sh Th Uh Vh Wh Xh Yh Zh Ai Bi Ci Di j ws hj Fi al ml cl Da b1 o1 La Na Ad Cd ta tc Gi Aa jr jg tl a b c' d f k a' b' Ba d' f' k' s1 s2 tn HT Ii Ji Ki Li oR CR oS CS oM CM oI C3 Sa Ti Ui Vi w2 Ha Wa Xa jb Ia Va Wi Xi Yi Zi HG Ri Si;exact key1.out
      obtain ⟨p,hp⟩:∃ p,j=p+1:=⟨j-1,by omega⟩;have c0:w2.cell? ⟨b1,o1+p*18,none⟩=some (it Oa):=(Ha.o.cell (p:=⟨b1,o1+p*18,none⟩) (World.block_lt_of_cell? w1 _ (Fa.o p hp))).trans (Fa.o p hp);have Aj:(j:Int)-1=(p:Int):=(by omega);have Bj:IntKind.i64.wrap (p:Int)=(p:Int):=(by rw [IntKind.wrap_i64];omega);have Cj:(0:Int)<(j:Int):=(by omega);have Dj:(p:Int)<(nj:Int):=(by omega);have Ej:(0:Int)≤(p:Int):=(by omega);have Fj:H9 (0<j):=(by omega:0<j);clear hp Pa Ja Fa;rename_i Gj Hj Ij Jj Kj Lj Nj;revert ab cb nj cj bs js Ya Za w Ka Ab Bb HI R Cb w1 Db C1 C2 Eb Fb Gb Hb h6 Ib Jb SJ Kb Lb Nb Ob Pb Qb Rb Sb Tb Ub Vb Wb Xb Yb Zb Ac Bc Cc Dc Ec Fc Gc Hc Ic Jc Kc Lc Nc Oc Pc Qc Rc Sc Tc q l Uc Vc Wc h9 Xc Yc hq Zc Bd Dd Ed we eb wr u2 u6 u7 u8 u9 Fd Gd Id Jd Kd Ld Nd Od Pd Qd Rd Sd Td Ud Vd Wd Xd Yd Zd Ae Be Ce De Ee Fe Ge He Ie Je Ke Le Ne Oe Pe Qe Re Se Te Ue Ve We Xe Ye Ze Af Bf Cf Df Ef Ff Gf Hf If Jf Kf Lf Nf Of Pf Qf Rf Sf Tf Uf Vf Wf Xf Yf Zf Ag Bg Cg Dg Eg Fg Gg Hg Ig Jg Kg Lg Ng Og Pg Qg Rg Sg Tg Ug Vg Wg Xg Yg Zg Ah Bh Ch Dh Eh Fh Gh Hh Ih Jh Kh Lh Nh Oh Ph Qh Rh Sh Th Uh Vh Wh Xh Yh Zh Ai Bi Ci Di j Oa ws hj Fi al ml cl Da b1 o1 La Na Ad Cd ta tc Gi Aa jr jg tl a b c' d f k a' b' Ba d' f' k' s1 s2 tn HT Ii Ji Ki Li oR CR oS CS oM CM oI C3 Sa HG Gj Hj Ij w2 Ha Wa Xa jb Ia Va Jj Kj Lj Nj p c0 Aj Bj Cj Dj Ej Fj;exact key2.out
end Go.Proofs.YtfhknkppiidnkaaGreat
