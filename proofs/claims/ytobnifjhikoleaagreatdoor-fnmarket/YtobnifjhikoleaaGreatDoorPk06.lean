import Derived.Test.YtobnifjhikoleaaGreatDoorPk04
import Derived.Test.YtobnifjhikoleaaGreatDoorPk05
namespace Go.Proofs.YtobnifjhikoleaaGreatDoor
open Go.RowKit Go.Proofs.Tryz
set_option linter.unusedSimpArgs false
set_option maxHeartbeats 32000000
variable {a b:Option Addr}{w w' wr:World}{n cap c g j B k jb i d i':Nat}{zs f R ys:List Int}{x q:Int}{m:M.Mc}{t:TypeId}{p:M.Pf}{s:Int×Int}
theorem ct(w:World)(b o:Nat)(cs:List Value):w.grownBy (w.setCells b o cs) (some b):=a8 (World.grownBy.refl _ _) o _
theorem cH{P:Program}{ops:Array Oper}{Q:Exit→Act→World→Prop}{id:Nat}{a:Act}(w:World)(row:Option Nat)(hm:P.follows .mixedOrders=true)
   (h:w.grownBy w.drew row→wpAnyH P .any ops (NoPanic Q) (fun W=>w.grownBy W row) ops.size (Array.replicate ops.size false) a w.drew):(Code.region id ops true).wp P Q a w:=
  wp_region_noPanic (wp_region_held_drew (S:=fun W=>w.grownBy W row) hm (cW _ _) h)
structure uI where
 s:Int×Int
 e:Int×Int
 n:Int
theorem db(n lo hi:Int)(w:World):Rq 48 #[.int .i64 n,.int .i64 lo,.int .i64 hi] w (.bool (decide (lo≤n)&&decide (n≤hi))):=by
 by_cases h1:lo≤n
 ·
  go_enter func48,ntmps48;go_wp2;go_ret;exact⟨by simp[h1],rfl⟩
 ·
  go_enter func48,ntmps48;go_wp2;go_ret;exact⟨by simp;omega,rfl⟩
section
variable {α:Type} {f:α→List Value} {k:Nat}
theorem dV(hf:∀x,(f x).length=k):∀xs:List α,(xs.flatMap f).length=xs.length*k
 | []=>by simp
 | x::xs=>by rw[vt,vp,hf,dV hf xs,List.length_cons,Nat.add_mul];omega
theorem fj(hf:∀x,(f x).length=k)(d:α):∀(xs:List α) {i j:Nat},i<xs.length→j<k→(xs.flatMap f)[i*k+j]?=(f (xs.getD i d))[j]?
 | [],_,_,h,_=>by simp at h
 | x::xs,0,j,_,hj=>by
  rw[vt,List.getElem?_append_left (by rw[hf];omega)];simp
 | x::xs,i+1,j,h,hj=>by
  rw[vt,List.getElem?_append_right (by rw[hf,Nat.add_mul];omega),hf,show(i+1)*k+j-k=i*k+j by rw[Nat.add_mul];omega,fj hf d xs (by simpa using h) hj];simp
theorem oF(hf:∀x,(f x).length=k):∀(xs:List α) {i:Nat} (c:α),i<xs.length→lV (xs.flatMap f) (i*k) (f c)=(xs.set i c).flatMap f
 | [],_,_,h=>by simp at h
 | x::xs,0,c,_=>by
  unfold lV;rw[Nat.zero_mul,List.take_zero,List.nil_append,Nat.zero_add,hf,vt,List.drop_left' (hf x)];simp
 | x::xs,i+1,c,h=>by
  have ih:=oF hf xs c (i:=i) (by simpa using h);unfold lV at ih ⊢;rw[hf]at ih ⊢;rw[vt,List.set_cons_succ,vt,←ih,show(i+1)*k=k+i*k by rw[Nat.add_mul];omega,Nat.add_assoc];rw[List.take_append,List.drop_append,hf,uQ (by rw[hf];omega),uO (by rw[hf];omega)];rw[show k+i*k-k=i*k by omega,show k+(i*k+k)-k=i*k+k by omega];simp
end
namespace M
structure Tk where
 done:Bool
 l':Int
 due:Int
structure Jb where
 id:Int
 m:M.Mc
 s:Int×Int
 rows:Int
 gone:Bool
 ts:List Tk
def t0:Tk:=⟨false,0,0⟩
def m0:M.Mc:=⟨⟨0,0,0,0,0,0⟩,⟨0,0,0,0,0,0⟩⟩
def j0:Jb:=⟨0,m0,(0,0),0,false,[]⟩
end M
def d7(t:M.Tk):List Value:=[.bool t.done,.int .i64 t.l',.int .i64 t.due]
def l5(t:M.Tk):Value:=.agg #[.bool t.done,.int .i64 t.l',.int .i64 t.due]
def ed(j:M.Jb)(a:Option Addr)(c:Nat):List Value:=
 [.int .i64 j.id,.int .i64 j.m.X.xx,.int .i64 j.m.X.xy,.int .i64 j.m.X.yy,.int .i64 j.m.X.x,.int .i64 j.m.X.y,.int .i64 j.m.X.k,.int .i64 j.m.Y.xx,.int .i64 j.m.Y.xy,.int .i64 j.m.Y.yy,.int .i64 j.m.Y.x,.int .i64 j.m.Y.y,.int .i64 j.m.Y.k,.int .i64 j.s.1,.int .i64 j.s.2,.int .i64 j.rows,.bool j.gone,.slice a j.ts.length c]
def iM(q:M.Jb×Option Addr×Nat):List Value:=ed q.1 q.2.1 q.2.2
theorem dT(t:M.Tk):(d7 t).length=3:=rfl
theorem gF(q:M.Jb×Option Addr×Nat):(iM q).length=18:=rfl
structure bR(w:World)(a:Option Addr)(n cap:Nat)(ts:List M.Tk):Prop where
 len:ts.length=n
 le:n≤cap
 big:(cap:Int)≤9223372036854775807
 no:a=none→n=0∧cap=0
 pos:n=0∨∃b off,a=some ⟨b,off,none⟩∧∀i,i<n→∀j,j<3→w.cell? ⟨b,off+i*3+j,none⟩=(d7 (ts.getD i M.t0))[j]?
theorem bR.at{ts:List M.Tk}(h:bR w a n cap ts)(h0:0<n):∃b off,a=some ⟨b,off,none⟩∧∀i,i<n→∀j,j<3→w.cell? ⟨b,off+i*3+j,none⟩=(d7 (ts.getD i M.t0))[j]?:=by
 rcases h.pos with e | e
 ·omega
 ·exact e
theorem bR.below{ts:List M.Tk}(h:bR w a n cap ts)(hb:m1 w w'):bR w' a n cap ts:=by
 refine⟨h.len,h.le,h.big,h.no,?_⟩;by_cases h0:n=0
 ·exact .inl h0
 ·
  obtain⟨b,Aa,e,hc⟩:=h.at (by omega);have Ba:b<w.heap.size:=vh w ⟨b,Aa+0*3+0,none⟩ ((hc 0 (by omega) 0 (by omega)).trans rfl);exact .inr ⟨b,Aa,e,fun i hi j hj=>(hb.cell (p:=⟨b,Aa+i*3+j,none⟩) Ba).trans (hc i hi j hj)⟩
structure eB(w:World)(a:Option Addr)(n cap:Nat)(js:List M.Jb):Prop where
 len:js.length=n
 le:n≤cap
 big:(cap:Int)≤9223372036854775807
 no:a=none→n=0∧cap=0
 pos:n=0∨∃b off,a=some ⟨b,off,none⟩∧∀i,i<n→∃(ta:Option Addr) (tc:Nat),(∀j,j<18→w.cell? ⟨b,off+i*18+j,none⟩=(ed (js.getD i M.j0) ta tc)[j]?)∧bR w ta (js.getD i M.j0).ts.length tc (js.getD i M.j0).ts
theorem eB.at{js:List M.Jb}(h:eB w a n cap js)(h0:0<n):∃b off,a=some ⟨b,off,none⟩∧∀i,i<n→∃(ta:Option Addr) (tc:Nat),(∀j,j<18→w.cell? ⟨b,off+i*18+j,none⟩=(ed (js.getD i M.j0) ta tc)[j]?)∧bR w ta (js.getD i M.j0).ts.length tc (js.getD i M.j0).ts:=by
 rcases h.pos with e | e
 ·omega
 ·exact e
theorem eB.below{js:List M.Jb}(h:eB w a n cap js)(hb:m1 w w'):eB w' a n cap js:=by
 refine⟨h.len,h.le,h.big,h.no,?_⟩;by_cases h0:n=0
 ·exact .inl h0
 ·
  obtain⟨b,Aa,e,hc⟩:=h.at (by omega)
  have Ba:b<w.heap.size:=by
   obtain⟨ta,tc,h1,_⟩:=hc 0 (by omega);exact vh w ⟨b,Aa+0*18+0,none⟩ ((h1 0 (by omega)).trans rfl)
  refine .inr ⟨b,Aa,e,fun i hi=>?_⟩;obtain⟨ta,tc,h1,h2⟩:=hc i hi;exact⟨ta,tc,fun j hj=>(hb.cell (p:=⟨b,Aa+i*18+j,none⟩) Ba).trans (h1 j hj),h2.below hb⟩
structure co(w:World)(ab:Option Addr)(nb cb:Nat)(aj:Option Addr)(nj cj:Nat)(bs:List Int)(js:List M.Jb):Prop where
 b:aw w ab nb cb bs
 j:eB w aj nj cj js
theorem co.below{ab:Option Addr}{nb cb:Nat}{aj:Option Addr}{nj cj:Nat}{bs:List Int}{js:List M.Jb}(h:co w ab nb cb aj nj cj bs js)(hb:m1 w w'):co w' ab nb cb aj nj cj bs js:=⟨h.b.below hb,h.j.below hb⟩
structure ns(P:Prop):Prop where
 out:P
structure uy(G:Prop) where
 p:Prop
 h:ns p→G
structure nt(G:Prop) where
 p:Prop
 q:Prop
 h:ns p→ns q→G
section
open Go.ChangeShapes Go.WideShapes
open Go.ChangeShapes Go.WideShapes
theorem bR.kept{ts:List M.Tk}(h:bR w a n c ts)(hc:∀x i,a=some x→w'.cell? ⟨x.block,i,none⟩=w.cell? ⟨x.block,i,none⟩):bR w' a n c ts:=by
 refine⟨h.len,h.le,h.big,h.no,?_⟩
 rcases h.pos with e | ⟨b,o,e,hp⟩
 ·exact .inl e
 ·exact .inr ⟨b,o,e,fun i hi j hj=>(hc _ _ e).trans (hp i hi j hj)⟩
open Go.ChangeShapes Go.WideShapes
theorem bF{b o:Nat}{vs:List Value}(hl:vs.length=n)(h:∀j,j<n→w.cell? ⟨b,o+j,none⟩=vs[j]?):w.rangeAt b o vs:=fun j v hv=>by
 have hj:j<vs.length:=by
  rcases Nat.lt_or_ge j vs.length with h' | h'
  ·exact h'
  ·rw[List.getElem?_eq_none h']at hv;cases hv
 exact(h j (by omega)).trans hv
def tv(g n j:Nat)(js:List M.Jb)(wr:World):Prop:=∃qs:List (M.Jb×Option Addr×Nat),qs.map (·.1)=js.take j∧au wr g ((qs++(List.replicate n (M.j0,none,0)).drop j).flatMap iM)∧∀q∈qs,bR wr q.2.1 q.1.ts.length q.2.2 q.1.ts∧∀x,q.2.1=some x→g<x.block
theorem tv.zero{js:List M.Jb}(h:au wr g ((List.replicate n (M.j0,none,0)).flatMap iM)):tv g n 0 js wr:=
 ⟨[],by simp,by simpa using h,fun q hq=>by cases hq⟩
theorem tv.len{js:List M.Jb}(h:tv g n j js wr)(hj:j≤n)(hl:js.length=n):∃vs,au wr g vs∧vs.length=n*18:=by
 obtain⟨qs,h1,h2,_⟩:=h;have hq:qs.length=j:=(by have:=congrArg List.length h1;simpa[hl,hj]using this);exact⟨_,h2,by rw[dV gF,vp,List.length_drop,vj,hq];congr 1;omega⟩
def jQ(B:Nat)(w:World)(a:Option Addr)(n c:Nat)(js:List M.Jb):Prop:=∀W:World,(∀p:Addr,B≤p.block→W.cell? p=w.cell? p)→eB W a n c js
theorem jQ.sees{js:List M.Jb}(h:jQ B w a n c js):eB w a n c js:=h w fun _ _=>rfl
open Go.ChangeShapes Go.WideShapes
open Go.ChangeShapes Go.WideShapes
theorem jQ.mono{B':Nat}{js:List M.Jb}(h:jQ B' w a n c js)(hb:B≤B'):jQ B w a n c js:=fun W hW=>h W fun p hp=>hW p (by omega)
structure uG(B:Nat)(w:World)(a:Option Addr)(n c:Nat)(zs:List Int):Prop where
 sees:aw w a n c zs
 lo:∀x,a=some x→B≤x.block
theorem uG.below(h:uG B w a n c zs)(hb:m1 w w'):uG B w' a n c zs:=⟨h.sees.below hb,h.lo⟩
end
def M.rows(n:Int):Bool:=decide (n=2)||(decide (n=4)||(decide (n=8)||decide (n=16)))
theorem fG{n:Int}(h:M.rows n=true):n=2∨n=4∨n=8∨n=16:=by
 unfold M.rows at h;simpa using h
theorem pQ{n:Int}(h:2≤n):((16:Int).tmod n==0)=M.rows n:=by
 by_cases Aa:n≤16
 ·
  obtain⟨k,rfl⟩:=Int.eq_ofNat_of_zero_le (show 0≤n by omega);have hk:k≤16:=(by omega);have Ba:2≤k:=(by omega);clear h Aa;have:k=2∨k=3∨k=4∨k=5∨k=6∨k=7∨k=8∨k=9∨k=10∨k=11∨k=12∨k=13∨k=14∨k=15∨k=16:=by omega
  rcases this with rfl | rfl | rfl | rfl | rfl | rfl | rfl | rfl | rfl | rfl | rfl | rfl | rfl | rfl | rfl <;> rfl
 ·
  have e:(16:Int).tmod n=16:=Int.tmod_eq_of_lt (by omega) (by omega);rw[e];unfold M.rows;simp;omega
theorem ix(n:Int)(w:World):Rq 103 #[.int .i64 n] w (.bool (M.rows n)):=by
 by_cases h:2≤n
 ·
  have hm:=pQ h;have Aa:((16:Int)%n==0)=M.rows n:=(by rw[←Int.tmod_eq_emod_of_nonneg (by omega)];exact hm);have hz:(n==0)=false:=(by simp;omega);generalize M.rows n=o at *;go_enter func103,ntmps103;go_wp2;go_ret;exact⟨by simp_all,rfl⟩
 ·
  have hm:M.rows n=false:=(by unfold M.rows;simp;omega);rw[hm];go_enter func103,ntmps103;go_wp2;go_ret;exact⟨rfl,rfl⟩
theorem oK(n:Int)(w:World):Rq 90 #[.int .i64 n,.int .i64 16] w (.bool (decide (n=1)||M.rows n)):=by
 go_enter func90,ntmps90;go_wp2
 go_loop [5] (fun k=>∃p:Int,k=it p∧(p=1∨(p=2∧n≠1)∨(p=4∧n≠1∧n≠2)∨(p=8∧n≠1∧n≠2∧n≠4)∨(p=16∧n≠1∧n≠2∧n≠4∧n≠8)∨(p=32∧n≠1∧n≠2∧n≠4∧n≠8∧n≠16))) (fun k=>(33-intOf k).toNat)
 case atStart=>exact⟨1,rfl,.inl rfl⟩
 case round=>
  obtain⟨p,rfl,hp⟩:=hrel;by_cases Aa:p=32
  ·
   subst Aa;have hm:H9 ((decide (n=1)||M.rows n)=false):=(by show _=_;unfold M.rows;simp;omega);clear hp;go_wp2;go_ret;exact⟨aC hm.o.symm,rfl⟩
  ·
   have Ba:p≤16:=(by omega);have Ca:1≤p:=(by omega);by_cases he:p=n
   ·
    have hm:H9 ((decide (n=1)||M.rows n)=true):=(by show _=_;unfold M.rows;simp;omega);have hb:(p==n)=true:=(by simp[he]);clear hp he;go_wp2;go_ret;exact⟨aC hm.o.symm,rfl⟩
   ·
    have hb:(p==n)=false:=(by simp[he]);have HP:=Hd hp;have HE:H9 (p≠n):=he;clear hp he;go_wp2
    go_round
    case rel=>
     have hp:=HP.o;have he:=HE.o;exact⟨2*p,by go_num,by omega⟩
    case measure=>simp[intOf];omega
theorem eE(n:Int)(w:World):Rq 51 #[.int .i64 n] w (.bool (M.rows n)):=by
 by_cases h:2≤n
 ·
  have hm:(decide (n=1)||M.rows n)=M.rows n:=by
   have:decide (n=1)=false:=(by simp;omega);rw[this];rfl
  have C1:=oK n;rw[hm]at C1;go_enter func51,ntmps51;(go_wp2_with fail);refine(C1 _).mono ?_;rintro e w1 ⟨rfl,rfl⟩;go_wp2;go_ret;exact⟨rfl,rfl⟩
 ·
  have hm:M.rows n=false:=(by unfold M.rows;simp;omega);rw[hm];go_enter func51,ntmps51;go_wp2;go_ret;exact⟨rfl,rfl⟩
namespace M
def wkOk(x:Int):Bool:=decide (1≤x)&&decide (x≤9)
def bnGo(last:Int):List Int→Bool
 | []=>true
 | x::l=>(decide (last<x)&&wkOk x)&&bnGo x l
def tkOk(now:Int)(t:Tk):Bool:=(decide (t.l'=0)&&decide (t.due=0))||(!t.done&&(wkOk t.l'&&(decide (now+1≤t.due)&&decide (t.due≤now+5))))
def leased(t:Tk):Bool:=decide (t.l'≠0)
def jbOk(now:Int)(j:Jb):Bool:=(j.m.ok&&(M.sOk j.s&&(M.rows j.rows&&(decide (1≤j.ts.length)&&(decide (j.ts.length≤8)&&j.ts.all (tkOk now))))))&&(!j.gone||(!j.ts.any leased&&!j.ts.all (·.done)))
def jsGo(now uN last:Int):List Jb→Bool
 | []=>true
 | j::l=>((decide (last+1≤j.id)&&decide (j.id≤uN-1))&&jbOk now j)&&jsGo now uN j.id l
def wkT(ts:List Tk):List Int:=(ts.filter leased).map (·.l')
def wks(js:List Jb):List Int:=js.flatMap fun j=>wkT j.ts
def mkOk(now uN:Int)(bs:List Int)(js:List Jb):Bool:=
 (decide (0≤now)&&decide (now≤1000000000))&&((decide (1≤uN)&&decide (uN≤1000000000))&&(bnGo 0 bs&&((decide (js.length≤6)&&jsGo now uN 0 js)&&(decide (wks js).Nodup&&!(wks js).any (fun x=>bs.contains x)))))
def spK(now:Int)(bs:List Int)(t:Tk):Bool:=if t.done||decide (t.l'=0)then decide (t.l'=0)&&decide (t.due=0)else wkOk t.l'&&(!bs.contains t.l'&&(decide (now<t.due)&&decide (t.due≤now+5)))
def spT(now:Int)(bs:List Int)(gone:Bool)(busy:List Int):List Tk→Bool
 | []=>true
 | t::l=>((spK now bs t&&!(gone&&leased t))&&!(leased t&&busy.contains t.l'))&&spT now bs gone (busy++[t.l']) l
def spH(uN last:Int)(j:Jb):Bool:=(decide (1≤j.id)&&decide (j.id≤1000000000))&&(decide (j.id<uN)&&(decide (last<j.id)&&(j.m.ok&&(M.sOk j.s&&(M.rows j.rows&&(decide (1≤j.ts.length)&&decide (j.ts.length≤8)))))))
def spJ(now uN:Int)(bs:List Int)(last:Int)(busy:List Int):List Jb→Bool
 | []=>true
 | j::l=>(spH uN last j&&(spT now bs j.gone busy j.ts&&!(j.gone&&j.ts.all (·.done))))&&spJ now uN bs j.id (busy++j.ts.map (·.l')) l
def spOk(now uN:Int)(bs:List Int)(js:List Jb):Bool:=
 (decide (0≤now)&&decide (now≤1000000000))&&((decide (1≤uN)&&decide (uN≤1000000000))&&(decide (js.length≤6)&&(decide (bs.length≤9)&&(bnGo 0 bs&&spJ now uN bs 0 [] js))))
theorem bnGo_len:∀(bs:List Int) (last:Int),0≤last→bnGo last bs=true→(bs.length:Int)+last≤9∨bs=[]
 | [],_,_,_=>.inr rfl
 | x::l,last,h0,h=>by
  unfold bnGo wkOk at h;simp only[vl,decide_eq_true_eq]at h;obtain⟨⟨h1,h2,h3⟩,h4⟩:=h
  left
  rcases bnGo_len l x (by omega) h4 with e | e
  ·rw[List.length_cons];omega
  ·subst e;simp;omega
theorem spK_iff(now:Int)(bs:List Int)(t:Tk):spK now bs t=true↔tkOk now t=true∧(leased t=true→t.l'∉bs):=by
 unfold spK tkOk leased wkOk;by_cases hd:t.done=true <;> by_cases hw:t.l'=0 <;> simp[hd,hw]
 constructor
 ·rintro⟨h1,h2,h3,h4⟩;exact⟨⟨h1,by omega,h4⟩,h2⟩
 ·rintro⟨⟨h1,h3,h4⟩,h2⟩;exact⟨h1,h2,by omega,h4⟩
theorem wkT_cons(t:Tk)(l:List Tk):wkT (t::l)=if leased t=true then t.l'::wkT l else wkT l:=by
 unfold wkT;rw[List.filter_cons];by_cases h:leased t=true <;> simp[h]
theorem wkT_ne{ts:List Tk}(h:x∈wkT ts):x≠0:=by
 unfold wkT at h;obtain⟨t,ht,rfl⟩:=List.mem_map.1 h;have:=(List.mem_filter.1 ht).2;unfold leased at this;simpa using this
theorem wkT_mem{ts:List Tk}:x∈wkT ts↔x≠0∧x∈ts.map (·.l'):=by
 unfold wkT leased;simp only[List.mem_map,List.mem_filter,decide_eq_true_eq]
 constructor
 ·rintro⟨t,⟨h1,h2⟩,rfl⟩;exact⟨h2,t,h1,rfl⟩
 ·rintro⟨h2,t,h1,rfl⟩;exact⟨t,⟨h1,h2⟩,rfl⟩
theorem spT_iff(now:Int)(bs:List Int)(gone:Bool):∀(ts:List Tk) (busy:List Int),spT now bs gone busy ts=true↔
  (∀t∈ts,tkOk now t=true)∧(gone=true→∀t∈ts,leased t=false)∧(wkT ts).Nodup∧(∀x∈wkT ts,x∉busy)∧(∀x∈wkT ts,x∉bs)
 | [],busy=>by simp[spT,wkT]
 | t::l,busy=>by
  unfold spT;rw[vl,vl,vl,spK_iff,spT_iff now bs gone l];rw[wkT_cons];by_cases hl:leased t=true
  ·
   have hw:t.l'≠0:=(by unfold leased at hl;simpa using hl);rw[if_pos hl];simp only[hl,List.mem_cons,forall_eq_or_imp,List.nodup_cons,Bool.and_true,Bool.true_and,Bool.not_eq_true',List.contains_eq_mem,decide_eq_false_iff_not,uT,List.not_mem_nil,or_false,not_or]
   constructor
   ·
    rintro⟨⟨⟨⟨h1,h2⟩,h3⟩,h4⟩,h5,h6,h7,h8,h9⟩;exact⟨⟨h1,h5⟩,fun hg=>by simp[hg]at h3,⟨fun hm=>(h8 _ hm).2 rfl,h7⟩,⟨h4,fun x hx=>(h8 x hx).1⟩,h2 trivial,h9⟩
   ·
    rintro⟨⟨h1,h5⟩,h3,⟨h4,h7⟩,⟨h6,h8⟩,h2,h9⟩;refine⟨⟨⟨⟨h1,fun _=>h2⟩,?_⟩,h6⟩,h5,fun hg=>(h3 hg).2,h7,fun x hx=>⟨h8 x hx,fun e=>h4 (e ▸ hx)⟩,h9⟩
    cases gone
    ·rfl
    ·exact absurd (h3 rfl).1 (by simp)
  ·
   have hf:leased t=false:=(by simpa using hl);have hw:t.l'=0:=(by unfold leased at hf;simpa using hf);rw[if_neg hl];simp only[hf,List.mem_cons,forall_eq_or_imp,Bool.and_false,Bool.false_and,Bool.not_false,and_true,true_and,Bool.false_eq_true,false_implies,uT,List.not_mem_nil,or_false,not_or]
   constructor
   ·
    rintro⟨h1,h5,h6,h7,h8,h9⟩;exact⟨⟨h1,h5⟩,h6,h7,fun x hx=>(h8 x hx).1,h9⟩
   ·
    rintro⟨⟨h1,h5⟩,h6,h7,h8,h9⟩;exact⟨h1,h5,h6,h7,fun x hx=>⟨h8 x hx,fun e=>wkT_ne hx (e.trans hw)⟩,h9⟩
theorem spJ_iff(now uN:Int)(bs:List Int)(hn:uN≤1000000000):∀(js:List Jb) (last:Int) (busy:List Int),0≤last→(spJ now uN bs last busy js=true↔
  jsGo now uN last js=true∧(wks js).Nodup∧(∀x∈wks js,x∉busy)∧(∀x∈wks js,x∉bs))
 | [],_,_,_=>by simp[spJ,jsGo,wks]
 | j::l,last,busy,h0=>by
  by_cases hid:last+1≤j.id∧j.id≤uN-1
  ·
   have ih:=spJ_iff now uN bs hn l j.id (busy++j.ts.map (·.l')) (by omega);unfold spJ jsGo;have hw:wks (j::l)=wkT j.ts++wks l:=by simp[wks]
   have hh:spH uN last j=(j.m.ok&&(M.sOk j.s&&(M.rows j.rows&&(decide (1≤j.ts.length)&&decide (j.ts.length≤8))))):=by
    unfold spH;rw[show decide (1≤j.id)=true by simp;omega,show decide (j.id≤1000000000)=true by simp;omega,show decide (j.id<uN)=true by simp;omega,show decide (last<j.id)=true by simp;omega]
    rfl
   have Aa:∀x∈wks l,x≠0:=fun x hx=>by
    unfold wks at hx;obtain⟨q,_,hq⟩:=vg.1 hx;exact wkT_ne hq
   rw[vl,vl,vl,spT_iff,ih,hh,hw,List.nodup_append];unfold jbOk;simp only[vl,decide_eq_true_eq,List.all_eq_true,Bool.or_eq_true,Bool.not_eq_true',uT,not_or];have Ba:j.ts.any leased=false↔∀t∈j.ts,leased t=false:=(by simp);rw[Ba]
   constructor
   ·
    rintro⟨⟨⟨a1,a2,a3,a4,a5⟩,⟨b1,b2,b3,b4,b5⟩,c⟩,d1,d2,d3,d4⟩;refine⟨⟨⟨hid,⟨a1,a2,a3,a4,a5,b1⟩,?_⟩,d1⟩,⟨b3,d2,fun x hx y hy e=>?_⟩,?_,?_⟩
    ·
     cases hg:j.gone
     ·exact .inl rfl
     ·rw[hg]at c;exact .inr ⟨b2 hg,by simpa using c⟩
    ·subst e;exact(d3 x hy).2 (wkT_mem.1 hx).2
    ·
     rintro x (h | h)
     ·exact b4 x h
     ·exact(d3 x h).1
    ·
     rintro x (h | h)
     ·exact b5 x h
     ·exact d4 x h
   ·
    rintro⟨⟨⟨-,⟨a1,a2,a3,a4,a5,b1⟩,g⟩,d1⟩,⟨b3,d2,e⟩,f1,f2⟩;refine⟨⟨⟨a1,a2,a3,a4,a5⟩,⟨b1,fun hg=>?_,b3,fun x hx=>f1 x (.inl hx),fun x hx=>f2 x (.inl hx)⟩,?_⟩,d1,d2,fun x hx=>⟨f1 x (.inr hx),fun hm=>e x (wkT_mem.2 ⟨Aa x hx,hm⟩) x hx rfl⟩,fun x hx=>f2 x (.inr hx)⟩
    ·
     rcases g with g | g
     ·rw[hg]at g;cases g
     ·exact g.1
    ·
     rcases g with g | g
     ·rw[g];rfl
     ·rw[g.2];simp
  ·
   constructor
   ·
    intro h;unfold spJ spH at h;simp only[vl,decide_eq_true_eq]at h;exact absurd ⟨by omega,by omega⟩ hid
   ·
    rintro⟨h,-⟩;unfold jsGo at h;simp only[vl,decide_eq_true_eq]at h;exact absurd h.1.1 hid
theorem spOk_eq(now uN:Int)(bs:List Int)(js:List Jb):spOk now uN bs js=mkOk now uN bs js:=by
 rw[Bool.eq_iff_iff];unfold spOk mkOk;simp only[vl,decide_eq_true_eq];have Aa:(!(wks js).any (fun x=>bs.contains x))=true↔∀x∈wks js,x∉bs:=(by simp);rw[Aa]
 constructor
 ·
  rintro⟨a,⟨b1,b2⟩,c,d,e,f⟩;obtain⟨f1,f2,-,f4⟩:=(spJ_iff now uN bs b2 js 0 [] (by omega)).1 f;exact⟨a,⟨b1,b2⟩,e,⟨c,f1⟩,f2,f4⟩
 ·
  rintro⟨a,⟨b1,b2⟩,e,⟨c,f1⟩,f2,f4⟩;refine⟨a,⟨b1,b2⟩,c,?_,e,(spJ_iff now uN bs b2 js 0 [] (by omega)).2 ⟨f1,f2,fun _ _=>List.not_mem_nil,f4⟩⟩
  rcases bnGo_len bs 0 (by omega) e with h | h
  ·omega
  ·subst h;simp
end M
theorem aY{α:Type}{l:List α}(d:α)(hl:l.length=n)(h:k<n):l.drop k=l.getD k d::l.drop (k+1):=by
 rw[List.drop_eq_getElem_cons (by omega),m4,m6 (by omega)];rfl
theorem cJ(n lo hi:Int)(w:World):Rq 29 #[.int .i64 n,.int .i64 lo,.int .i64 hi] w (.bool (decide (lo≤n)&&decide (n≤hi))):=by
 by_cases h1:lo≤n
 ·
  go_enter func29,ntmps29;go_wp2;go_ret;exact⟨by simp[h1],rfl⟩
 ·
  go_enter func29,ntmps29;go_wp2;go_ret;exact⟨by simp;omega,rfl⟩
theorem eg(n:Int)(w:World):Rq 61 #[.int .i64 n] w (.bool (M.wkOk n)):=by
 go_enter func61,ntmps61;(go_wp2_with fail);refine(cJ _ _ _ _).mono ?_;rintro e wz ⟨rfl,rfl⟩;go_wp2;go_ret;exact⟨rfl,rfl⟩
theorem d9(t:M.Tk)(w:World):Rt 63 #[l5 t] w (.bool (M.leased t)):=by
 have h:M.leased t=(t.l' != 0):=(by unfold M.leased;by_cases e:t.l'=0 <;> simp[e]);rw[h];obtain⟨d,x,y⟩:=t;dsimp only[l5];have HB:H9 (m1 w (w.alloc (.cells (eM d x y).toArray 47))):=(m5 _ _).alloc (m3 _) _;go_enter func63,ntmps63;go_wp2;go_ret;exact⟨rfl,HB.o⟩
theorem mv(w:World)(hz:aw w a n c zs):
  Rq 30 #[.slice a n c] w (.bool (M.bnGo 0 zs)):=by
 have bn:(n:Int)≤9223372036854775807:=(by have:=hz.big;have:=hz.le;omega);have HZ:=Hd hz;clear hz;generalize hR:M.bnGo 0 zs=R;have HR:=Hd hR;clear hR;go_enter func30,ntmps30;go_wp2
 go_loop [3,8] (fun l i=>∃(k:Nat) (q:Int),k≤n∧i=it k∧l=it q∧M.bnGo q (zs.drop k)=R) (fun _ i=>n-(intOf i).toNat)
 case atStart=>exact⟨0,0,by omega,rfl,rfl,HR.o⟩
 case round=>
  obtain⟨k,q,hk,rfl,rfl,hg⟩:=hrel;by_cases Ba:k<n
  ·
   obtain⟨b1,o1,rfl,Ca⟩:=HZ.o.at (by omega);have c1:=Ca k Ba
   have hG:((decide (q<zs.getD k 0)&&M.wkOk (zs.getD k 0))&&M.bnGo (zs.getD k 0) (zs.drop (k+1)))=R:=by
    rw[←hg,aY 0 HZ.o.len Ba];rfl
   clear Ca hg;have C1:=eg (zs.getD k 0);generalize zs.getD k 0=x at c1 hG C1;have HG:=Hd hG;clear hG;have hI:(k:Int)<(n:Int):=(by omega);by_cases hx:x≤q
   ·
    have Ea:H9 (false=R):=(by show false=R;have:=HG.o;rw[show decide (q<x)=false by simp;omega]at this;simpa using this);go_wp2;go_ret;exact⟨aC Ea.o,rfl⟩
   ·
    have hx':q<x:=(by omega);have Aa:H9 ((M.wkOk x&&M.bnGo x (zs.drop (k+1)))=R):=(by show _=_;have:=HG.o;rw[show decide (q<x)=true by simp;omega]at this;simpa using this);clear HG;generalize M.wkOk x=ow at C1 Aa;(go_wp2_with fail);refine(C1 _).mono ?_;rintro e wz ⟨rfl,Da⟩;have Fa:=Da.symm;clear Da;subst Fa
    cases ow with
    | false=>
     go_wp2;go_ret;exact⟨aC Aa.o,rfl⟩
    | true=>
     have Ga:H9 (M.bnGo x (zs.drop (k+1))=R):=(by show _=_;have:=Aa.o;simpa using this);go_wp2
     go_round
     case rel=>exact⟨k+1,x,by omega,by go_num,rfl,Ga.o⟩
     case measure=>simp[intOf];omega
  ·
   go_wp2;go_ret;refine⟨aC ?_,rfl⟩;rw[uO (by rw[HZ.o.len];omega)]at hg;exact hg
theorem ru(t:M.Tk)(now:Int)(h0:0≤now)(h1:now≤1000000000)(w:World):Rt 168 #[l5 t,.int .i64 now] w (.bool (M.tkOk now t)):=by
 unfold M.tkOk;obtain⟨d,x,y⟩:=t;dsimp only[l5];have C1:=eg x;have C2:=cJ y (now+1) (now+5);have HB:H9 (m1 w (w.alloc (.cells (eM d x y).toArray 47))):=(m5 _ _).alloc (m3 _) _;generalize M.wkOk x=ow at *;generalize(decide (now+1≤y)&&decide (y≤now+5))=od at *;by_cases hx:x=0
 ·
  by_cases hy:y=0
  ·
   subst hx;subst hy;go_enter func168,ntmps168;go_wp2;go_ret;exact⟨by simp,HB.o⟩
  ·
   subst hx;have gy:(y==0)=false:=(by simp[hy]);go_enter func168,ntmps168
   cases d with
   | true=>
    go_wp2;go_ret;exact⟨by simp;omega,HB.o⟩
   | false=>
    (go_wp2_with fail);refine(C1 _).mono ?_;rintro e wz ⟨rfl,Aa⟩;have Ba:=Aa.symm;clear Aa;subst Ba
    cases ow with
    | false=>
     go_wp2;go_ret;exact⟨by simp;omega,HB.o⟩
    | true=>
     (go_wp2_with fail);refine(C2 _).mono ?_;rintro e wz ⟨rfl,Aa⟩;have Ba:=Aa.symm;clear Aa;subst Ba;go_wp2;go_ret;refine⟨?_,HB.o⟩;have Ca:¬ y=0:=(by omega);simp[Ca]
 ·
  have gx:(x==0)=false:=(by simp[hx]);go_enter func168,ntmps168
  cases d with
  | true=>
   go_wp2;go_ret;exact⟨by simp;omega,HB.o⟩
  | false=>
   (go_wp2_with fail);refine(C1 _).mono ?_;rintro e wz ⟨rfl,Aa⟩;have Ba:=Aa.symm;clear Aa;subst Ba
   cases ow with
   | false=>
    go_wp2;go_ret;exact⟨by simp;omega,HB.o⟩
   | true=>
    (go_wp2_with fail);refine(C2 _).mono ?_;rintro e wz ⟨rfl,Aa⟩;have Ba:=Aa.symm;clear Aa;subst Ba;go_wp2;go_ret;refine⟨?_,HB.o⟩;have Ca:(decide (x=0)&&decide (y=0))=false:=(by simp;omega);rw[Ca];simp
theorem pi{ts:List M.Tk}(now:Int)(h0:0≤now)(h1:now≤1000000000)(w:World)(hz:bR w a n c ts):
  Rt 117 #[.slice a n c,.int .i64 now] w (.bool (decide (1≤n)&&(decide (n≤8)&&ts.all (M.tkOk now)))):=by
 have bn:(n:Int)≤9223372036854775807:=(by have:=hz.big;have:=hz.le;omega);have HZ:=Hd hz;clear hz;by_cases hs:1≤n∧n≤8
 ·
  obtain⟨Ga,Ha⟩:=hs;have Ja:(1:Int)≤(n:Int):=(by omega);have Ka:(n:Int)≤8:=(by omega);rw[show decide (1≤n)=true by simpa using Ga,show decide (n≤8)=true by simpa using Ha,Bool.true_and,Bool.true_and];generalize hR:ts.all (M.tkOk now)=R;have HR:=Hd hR;clear hR;go_enter func117,ntmps117;go_wp2
  go_loopw [17] (fun i wr=>∃k:Nat,k≤n∧i=it k∧(ts.drop k).all (M.tkOk now)=R∧m1 w wr) (fun i _=>n-(intOf i).toNat)
  case atStart=>exact⟨0,by omega,rfl,HR.o,m5 _ _⟩
  case round=>
   obtain⟨k,hk,rfl,hg,Ba⟩:=hrel;have Aa:=Hd Ba;clear Ba;by_cases Ca:k<n
   ·
    obtain⟨b1,o1,rfl,Da⟩:=(HZ.o.below Aa.o).at (by omega)
    have hG:(M.tkOk now (ts.getD k M.t0)&&(ts.drop (k+1)).all (M.tkOk now))=R:=by
     rw[←hg,aY M.t0 HZ.o.len Ca];rfl
    have hA:=Da k Ca;have C1:=ru (ts.getD k M.t0) now h0 h1;generalize ts.getD k M.t0=x at hA hG C1;obtain⟨d,x,y⟩:=x;dsimp only[l5]at C1;have HG:=Hd hG;have a0:wr.cell? ⟨b1,o1+k*3,none⟩=some (.bool d):=hA 0 (by omega);have a1:wr.cell? ⟨b1,o1+k*3+1,none⟩=some (it x):=hA 1 (by omega);have a2:wr.cell? ⟨b1,o1+k*3+2,none⟩=some (it y):=hA 2 (by omega);clear Da hA hg hG;generalize M.tkOk now ⟨d,x,y⟩=ow at C1 HG;have hI:(k:Int)<(n:Int):=(by omega);(go_wp2_with fail);refine(C1 _).mono ?_;rintro e w2 ⟨rfl,Ea⟩;have Fa:=Hd ((Aa.o.alloc Aa.o.size _).trans (Ea.mono (Aa.o.alloc Aa.o.size _).size));clear Ea
    cases ow with
    | false=>
     go_wp2;go_ret;exact⟨aC HG.o,Fa.o⟩
    | true=>
     have Ia:H9 ((ts.drop (k+1)).all (M.tkOk now)=R):=(by show _=_;have:=HG.o;simpa using this);go_wp2;go_roundw
     case rel=>exact⟨k+1,by omega,by go_num,Ia.o,Fa.o⟩
     case measure=>simp[intOf];omega
   ·
    go_wp2;go_ret;refine⟨aC ?_,Aa.o⟩;rw[uO (by rw[HZ.o.len];omega)]at hg;exact hg
 ·
  have hF:(decide (1≤n)&&(decide (n≤8)&&ts.all (M.tkOk now)))=false:=by
   by_cases h:1≤n
   ·rw[show decide (n≤8)=false by simp;omega];simp
   ·rw[show decide (1≤n)=false by simp;omega];rfl
  rw[hF];by_cases h:1≤n
  ·
   have g1:(8:Int)<(n:Int):=(by omega);have g2:¬ (n:Int)<1:=(by omega);go_enter func117,ntmps117;go_wp2;go_ret;exact⟨rfl,m5 _ _⟩
  ·
   have g1:(n:Int)<1:=(by omega);go_enter func117,ntmps117;go_wp2;go_ret;exact⟨rfl,m5 _ _⟩
theorem jK{ts:List M.Tk}(w:World)(hz:bR w a n c ts):
  Calls prog 131 #[.slice a n c,.func (.func 63) #[] #[]] w fun e w'=>∃r:Int,e=.returned (.int .i64 r)∧decide (0≤r)=ts.any M.leased∧m1 w w':=by
 have bn:(n:Int)≤9223372036854775807:=(by have:=hz.big;have:=hz.le;omega);have Ha:(n:Int)≤c:=(by have:=hz.le;omega);have HZ:=Hd hz;clear hz;generalize hR:ts.any M.leased=R;have HR:=Hd hR;clear hR;go_enter func131,ntmps131;go_wp2
 go_loopw [8] (fun i wr=>∃k:Nat,k≤n∧i=it k∧(ts.drop k).any M.leased=R∧m1 w wr) (fun i _=>n-(intOf i).toNat)
 case atStart=>exact⟨0,by omega,rfl,HR.o,m5 _ _⟩
 case round=>
  obtain⟨k,hk,rfl,hg,Ba⟩:=hrel;have Aa:=Hd Ba;clear Ba;by_cases Ca:k<n
  ·
   obtain⟨b1,o1,rfl,Da⟩:=(HZ.o.below Aa.o).at (by omega)
   have hG:(M.leased (ts.getD k M.t0)||(ts.drop (k+1)).any M.leased)=R:=by
    rw[←hg,aY M.t0 HZ.o.len Ca];rfl
   have hA:=Da k Ca;have C1:=d9 (ts.getD k M.t0);generalize ts.getD k M.t0=x at hA hG C1;obtain⟨d,x,y⟩:=x;dsimp only[l5]at C1;have HG:=Hd hG;have a0:wr.cell? ⟨b1,o1+k*3,none⟩=some (.bool d):=hA 0 (by omega);have a1:wr.cell? ⟨b1,o1+k*3+1,none⟩=some (it x):=hA 1 (by omega);have a2:wr.cell? ⟨b1,o1+k*3+2,none⟩=some (it y):=hA 2 (by omega);clear Da hA hg hG;generalize M.leased ⟨d,x,y⟩=ow at C1 HG;have hI:(k:Int)<(n:Int):=(by omega);(go_wp2_with fail);refine(C1 _).mono ?_;rintro e w2 ⟨rfl,Ea⟩;have Fa:=Aa.t Ea;clear Ea
   cases ow with
   | true=>
    go_wp2;go_ret;refine⟨_,rfl,?_,Fa.o⟩;have:=HG.o;rw[Bool.true_or]at this;rw[←this];simp
   | false=>
    have Ga:H9 ((ts.drop (k+1)).any M.leased=R):=(by show _=_;have:=HG.o;simpa using this);go_wp2;go_roundw
    case rel=>exact⟨k+1,by omega,by go_num,Ga.o,Fa.o⟩
    case measure=>simp[intOf];omega
  ·
   go_wp2;go_ret;refine⟨_,rfl,?_,Aa.o⟩;rw[uO (by rw[HZ.o.len];omega)]at hg;rw[←hg];rfl
theorem ig{ts:List M.Tk}(w:World)(hz:bR w a n c ts):
  Rt 118 #[.slice a n c,.func (.func 63) #[] #[]] w (.bool (ts.any M.leased)):=by
 have HZ:=Hd hz;clear hz;go_enter func118,ntmps118;(go_wp2_with fail);refine(jK _ HZ.o).mono ?_;rintro e w1 ⟨r,rfl,hr,hb⟩;have HR:=Hd hr;have HB:=Hd hb;clear hr hb;go_wp2;go_ret;exact⟨aC HR.o,HB.o⟩
theorem l9{ts:List M.Tk}(d:M.Tk)(hl:ts.length=n)(h:k<n):((ts.take (k+1)).filter (·.done)).length=(if(ts.getD k d).done=true then((ts.take k).filter (·.done)).length+1 else((ts.take k).filter (·.done)).length):=by
 rw[uV (by omega),List.filter_append,vp,m4,m6 (by omega)];by_cases e:ts[k].done=true <;> simp[e]
set_option maxRecDepth 10000 in
theorem rY(m:Nat)(t:M.Tk)(hm:(m:Int)+1≤9223372036854775807)(w:World):Rt 170 #[.int .i64 m,l5 t] w (.int .i64 ((if t.done=true then m+1 else m:Nat):Int)):=by
 obtain⟨d,x,y⟩:=t;dsimp only[l5];have HB:H9 (m1 w (w.alloc (.cells (eM d x y).toArray 47))):=(m5 _ _).alloc (m3 _) _
 cases d with
 | true=>
  rw[if_pos rfl];have hc:((m+1:Nat):Int)=(m:Int)+1:=(by omega);rw[hc];clear hc;go_enter func170,ntmps170;go_wp2;go_ret;exact⟨rfl,HB.o⟩
 | false=>
  rw[if_neg (by decide)];go_enter func170,ntmps170;go_wp2;go_ret;exact⟨rfl,HB.o⟩
theorem mB{ts:List M.Tk}(w:World)(hz:bR w a n c ts):
  Rt 169 #[.slice a n c,.int .i64 0,.func (.func 170) #[] #[]] w (.int .i64 ((ts.filter (·.done)).length:Nat)):=by
 have bn:(n:Int)≤9223372036854775807:=(by have:=hz.big;have:=hz.le;omega);have Ha:(n:Int)≤c:=(by have:=hz.le;omega);have HZ:=Hd hz;clear hz;go_enter func169,ntmps169;go_wp2
 go_loopw [1,11] (fun l i wr=>∃k:Nat,k≤n∧i=it k∧l=it (((ts.take k).filter (·.done)).length:Nat)∧m1 w wr) (fun _ i _=>n-(intOf i).toNat)
 case atStart=>exact⟨0,by omega,rfl,rfl,m5 _ _⟩
 case round=>
  obtain⟨k,hk,rfl,rfl,Ba⟩:=hrel;have Aa:=Hd Ba;clear Ba;by_cases Ca:k<n
  ·
   obtain⟨b1,o1,rfl,Da⟩:=(HZ.o.below Aa.o).at (by omega);have hG:=l9 M.t0 HZ.o.len Ca;have Fa:((ts.take k).filter (·.done)).length≤k:=m9 (List.length_filter_le _ _) (by rw[vu];omega);have hA:=Da k Ca;generalize ts.getD k M.t0=x at hA hG;obtain⟨d,x,y⟩:=x;dsimp only at hG;generalize((ts.take k).filter (·.done)).length=m at hG Fa;have HG:=Hd hG;have a0:wr.cell? ⟨b1,o1+k*3,none⟩=some (.bool d):=hA 0 (by omega);have a1:wr.cell? ⟨b1,o1+k*3+1,none⟩=some (it x):=hA 1 (by omega);have a2:wr.cell? ⟨b1,o1+k*3+2,none⟩=some (it y):=hA 2 (by omega);clear Da hA hG;have hI:(k:Int)<(n:Int):=(by omega);have Ia:(m:Int)+1≤9223372036854775807:=(by omega);(go_wp2_with fail);refine(rY m ⟨d,x,y⟩ (by omega) _).mono ?_;rintro e w2 ⟨rfl,Ea⟩;have Ga:=Hd ((Aa.o.alloc Aa.o.size _).trans (Ea.mono (Aa.o.alloc Aa.o.size _).size));clear Ea;go_wp2;go_roundw
   case rel=>
    refine⟨k+1,by omega,by go_num,?_,Ga.o⟩;rw[HG.o]
   case measure=>simp[intOf];omega
  ·
   go_wp2;go_ret;refine⟨?_,Aa.o⟩;rw[uQ (by rw[HZ.o.len];omega)]
   rfl
theorem kL{ts:List M.Tk}(w:World)(hc:w.cell? ⟨jb,17,none⟩=some (.slice a n c))(hz:bR w a n c ts):
  Rt 129 #[.pointer (some ⟨jb,0,none⟩)] w (.int .i64 ((ts.filter (·.done)).length:Nat)):=by
 have CF:=mB w hz;generalize(ts.filter (·.done)).length=m at *;clear hz;go_enter func129,ntmps129;(go_wp2_with fail);refine CF.mono ?_;rintro e w1 ⟨rfl,hb⟩;have HB:=Hd hb;clear hb;go_wp2;go_ret;exact⟨rfl,HB.o⟩
theorem nB{ts:List M.Tk}(hl:ts.length=n):(((ts.filter (·.done)).length:Nat)==n)=ts.all (·.done):=by
 subst hl;rw[Bool.eq_iff_iff,beq_iff_eq,List.all_eq_true]
 constructor
 ·
  intro h t ht;have:=List.filter_eq_self.1 ((List.filter_sublist (p:=fun t:M.Tk=>t.done) (l:=ts)).eq_of_length h);exact this t ht
 ·
  intro h;rw[List.filter_eq_self.2 h]
theorem fZ{ts:List M.Tk}(w:World)(hc:w.cell? ⟨jb,17,none⟩=some (.slice a n c))(hz:bR w a n c ts):
  Rt 81 #[.pointer (some ⟨jb,0,none⟩)] w (.bool (ts.all (·.done))):=by
 have CD:∀W,W.cell? ⟨jb,17,none⟩=some (.slice a n c)→bR W a n c ts→Rt 129 #[.pointer (some ⟨jb,0,none⟩)] W (it ((ts.filter (·.done)).length:Nat)):=fun W h1 h2=>kL W h1 h2;have HA:=Hd (nB hz.len);have bn:(n:Int)≤9223372036854775807:=(by have:=hz.big;have:=hz.le;omega);generalize(ts.filter (·.done)).length=m at HA CD;generalize ts.all (·.done)=oa at *;have Fa:((m:Int)==(n:Int))=oa:=(by rw[←HA.o,Bool.eq_iff_iff,beq_iff_eq,beq_iff_eq];omega);go_enter func81,ntmps81;(go_wp2_with fail);have Ca:=Hd hz;clear hz;refine cH w none (by kernel_rfl) fun hHeld=>?_;generalize w.drew=Ga at *;have Ha:H9 (m1 w Ga):=⟨hHeld.os,hHeld.tape,hHeld.output,hHeld.size,fun k hk=>hHeld.block k hk (by simp)⟩;refine tk 0 (.pointer (some ⟨jb,0,none⟩)) ?_ ?_
 ·intro wq Aa;go_simp
 refine tk 2 (.pointer (some ⟨jb,0,none⟩)) ?_ ?_
 ·intro wq Aa;go_simp
 refine tk 3 (.pointer (some ⟨jb,0,none⟩)) ?_ ?_
 ·intro wq Aa;go_simp
 refine tk 4 (.pointer (some ⟨jb,17,none⟩)) ?_ ?_
 ·intro wq Aa;go_simp
 refine tk 5 (.slice a n c) ?_ ?_
 ·intro wp Ia;have c0:=Ia.cell hc (by simp);go_simp
 refine tk 6 (it n) ?_ ?_
 ·intro wq Aa;go_simp
 refine aX 1 fun Kk hK=>?_;go_simp;refine(CD _ (hHeld.cell hc (by simp)) (Ca.o.below Ha.o)).mono ?_;rintro e Da ⟨rfl,Ea⟩;go_simp;have Ba:=aH hHeld Ea;have Ja:H9 (m1 w Da):=⟨Ba.os,Ba.tape,Ba.output,Ba.size,fun k hk=>Ba.block k hk (by simp)⟩;refine hK.out _ _ Ba (fun _=>?_);clear hK Kk Ea;refine tk 7 (.bool ((m:Int)==(n:Int))) ?_ ?_
 ·intro wq Aa;go_simp
 rw[Fa];refine tk 8 (.bool oa) ?_ ?_
 ·intro wq Aa;go_simp
 refine bg ?_;go_simp;clear Ca;go_wp2;go_ret;exact⟨rfl,Ja.o⟩
set_option maxRecDepth 10000 in
theorem sn{ta:Option Addr}{tn tc:Nat}{tl:List M.Tk}(jid a b c d f k a' b' c' d' f' k' s1 s2 jr:Int)(jg:Bool)(now:Int)(h0:0≤now)(h1:now≤1000000000)(w:World)(hz:bR w ta tn tc tl):
  Rt 62 #[.agg #[.int .i64 jid,.int .i64 a,.int .i64 b,.int .i64 c,.int .i64 d,.int .i64 f,.int .i64 k,.int .i64 a',.int .i64 b',.int .i64 c',.int .i64 d',.int .i64 f',.int .i64 k',.int .i64 s1,.int .i64 s2,.int .i64 jr,.bool jg,.slice ta tn tc],.int .i64 now] w (.bool (M.jbOk now ⟨jid,⟨⟨a,b,c,d,f,k⟩,⟨a',b',c',d',f',k'⟩⟩,(s1,s2),jr,jg,tl⟩)):=by
 have hl:=hz.len;have C1:=eS ⟨⟨a,b,c,d,f,k⟩,⟨a',b',c',d',f',k'⟩⟩;have C2:=dv (s1,s2);have C3:=ix jr;have HZ:=Hd hz;unfold M.jbOk;dsimp only[cZ,cP]at C1 C2 ⊢;rw[hl];have C4:∀W,bR W ta tn tc tl→Rt 117 #[.slice ta tn tc,it now] W (.bool (decide (1≤tn)&&(decide (tn≤8)&&tl.all (M.tkOk now)))):=fun W h=>pi now h0 h1 W h;generalize(decide (1≤tn)&&(decide (tn≤8)&&tl.all (M.tkOk now)))=o4 at *;generalize M.rows jr=o3 at *;generalize M.sOk (s1,s2)=o2 at *;generalize M.Mc.ok ⟨⟨a,b,c,d,f,k⟩,⟨a',b',c',d',f',k'⟩⟩=o1 at *;have C5:∀W,bR W ta tn tc tl→Rt 118 #[.slice ta tn tc,.func (.func 63) #[] #[]] W (.bool (tl.any M.leased)):=fun W h=>ig W h;have C6:∀W,W.cell? ⟨w.heap.size,17,none⟩=some (.slice ta tn tc)→bR W ta tn tc tl→Rt 81 #[.pointer (some ⟨w.heap.size,0,none⟩)] W (.bool (tl.all (·.done))):=fun W h1 h2=>fZ W h1 h2;generalize tl.any M.leased=o5 at *;generalize tl.all (·.done)=o6 at *;clear hz;go_enter func62,ntmps62;have Ja:=cC w (bO jid a b c d f k a' b' c' d' f' k' s1 s2 jr jg ta tn tc) 45;have Ia:H9 (m1 w (w.alloc (.cells (bO jid a b c d f k a' b' c' d' f' k' s1 s2 jr jg ta tn tc).toArray 45))):=(m5 _ _).alloc (m3 _) _;(go_wp2_with fail);generalize(w.alloc (.cells (bO jid a b c d f k a' b' c' d' f' k' s1 s2 jr jg ta tn tc).toArray 45))=wa at *;refine(C1 _).mono ?_;rintro e wb ⟨rfl,hb⟩;have Ea:=Ja.b hb;have Fa:=Ia.t hb;clear Ja Ia;clear hb
 cases o1 with
 | false=>
  go_wp2;go_ret;exact⟨by simp,Fa.o⟩
 | true=>
  have Na:=Ea.c 13;have Oa:=Ea.c 14;(go_wp2_with fail);clear Na Oa;refine(C2 _).mono ?_;rintro e wc ⟨rfl,hb⟩;have Ga:=Ea.b hb;have Aa:=Fa.t hb;clear Ea Fa;clear hb
  cases o2 with
  | false=>
   go_wp2;go_ret;exact⟨by simp,Aa.o⟩
  | true=>
   have Pa:=Ga.c 15;(go_wp2_with fail);clear Pa;refine(C3 _).mono ?_;rintro e wz ⟨rfl,Ka⟩;have Qa:=Ka.symm;clear Ka;subst Qa
   cases o3 with
   | false=>
    go_wp2;go_ret;exact⟨by simp,Aa.o⟩
   | true=>
    have Ca:=Ga.c 17;(go_wp2_with fail);clear Ca;refine(C4 _ (HZ.o.below Aa.o)).mono ?_;rintro e wd ⟨rfl,hb⟩;have Ha:=Ga.b hb;have Ba:=Aa.t hb;clear Ga Aa;clear hb
    cases o4 with
    | false=>
     go_wp2;go_ret;exact⟨by simp,Ba.o⟩
    | true=>
     have Ra:=Ha.c 16;have Ca:=Ha.c 17
     cases jg with
     | false=>
      go_wp2;go_ret;exact⟨by simp,Ba.o⟩
     | true=>
      (go_wp2_with fail);clear Ra Ca;refine(C5 _ (HZ.o.below Ba.o)).mono ?_;rintro e we ⟨rfl,hb⟩;have La:=Ha.b hb;have Da:=Ba.t hb;clear Ha Ba;clear hb
      cases o5 with
      | true=>
       go_wp2;go_ret;exact⟨by simp,Da.o⟩
      | false=>
       have Ca:=La.c 17;(go_wp2_with fail);refine(C6 _ Ca (HZ.o.below Da.o)).mono ?_;rintro e wf ⟨rfl,hb⟩;have Sa:=Da.t hb;clear La Da;clear hb;go_wp2;go_ret;exact⟨by simp,Sa.o⟩
section
variable {P:Program} {ops:Array Oper} {rest:List Oper} {o:Oper} {a:Act} {w:World} {Q:Exit→Act→World→Prop}
theorem ls(hw:Region.wanted o (yielded ops a.tmps)=true)
 (h:∀K:Act→World→Prop,(∀a w,wpList P ops Q rest a w→K a w)→o.wp P a w K Q):wpList P ops Q (o::rest) a w:=
 wpList_step fun K hK=>by simp only[hw,if_true];exact h K hK
theorem bL(hw:Region.wanted o (yielded ops a.tmps)=true)(ty:TypeId)(x:Operand)(ho:o.op=.load ty x)
 (b i:Nat)(hx:a.eval x=.pointer (some ⟨b,i,none⟩))(cs:List Value)(d:TypeDesc)(hc:w.rangeAt b i cs)
 (hu:P.underlying ty=some d)(hd:d.isRow=true)(hi:(P.info? ty).map (·.size)=some cs.length)
 (h:wpList P ops Q rest (a.put o.dst (.agg cs.toArray)) w):wpList P ops Q (o::rest) a w:=
 ls hw fun _ hK=>wp_load_mid ty x ho b i hx cs d hc hu hd hi (hK _ _ h)
end
theorem mj{g:List Int}(h:R.length=f.length):R=M.tab f.length (M.restAt R g q i 0):=
 M.tab_ext h fun t _=>by unfold M.restAt;rw[if_neg (by omega)]
theorem pO(R g:List Int)(q:Int)(i j:Nat):M.restAt R g q i j (i+j)=R.getD (i+j) 0:=by unfold M.restAt;rw[if_neg (by omega)]
theorem nZ{g:List Int}{N:Nat}:(M.tab N (M.restAt R g q i j)).set (i+j) ((R.getD (i+j) 0+(65537-q)*g.getD j 0)%65537)=M.tab N (M.restAt R g q i (j+1)):=by
 rw[eh];apply bI;intro t _;unfold M.restAt;by_cases e:t=i+j
 ·
  subst e;rw[if_pos rfl,if_pos (by omega),Nat.add_sub_cancel_left]
 ·
  rw[if_neg e];by_cases h2:i≤t∧t<i+j
  ·rw[if_pos h2,if_pos (by omega)]
  ·rw[if_neg h2,if_neg (by omega)]
theorem rP{y:Int}(q0:0≤q)(q1:q<65537)(y0:0≤y)(y1:y<65537):0≤(65537-q)*y∧(65537-q)*y≤4295032832:=by
 refine⟨Int.mul_nonneg (by omega) y0,?_⟩;have h1:(65537-q)*y≤65537*y:=Int.mul_le_mul_of_nonneg_right (by omega) y0;omega
theorem kV{m:Nat}(w:World)(hz:aw w a n c zs)(hy:aw w b m d ys)(ha:M.allEl zs=true)(hb:M.allEl ys=true)(ny:M.neat ys)(hn:n≤128)(h1:0<m)(hmn:m≤n):
  Calls prog 74 #[.slice a n c,.slice b m d] w fun e w'=>∃a1 l1 c1 a2 l2 c2 q r,e=.returned (.tuple #[.slice a1 l1 c1,.slice a2 l2 c2])∧aD 2 w' w.heap.size a1 l1 c1 q∧aD 2 w' w.heap.size a2 l2 c2 r∧M.Div zs ys q r∧(∀x y,a1=some x→a2=some y→x.block≠y.block)∧m1 w w':=by
 obtain⟨b1,o1,rfl,Qc⟩:=hz.at (by omega);obtain⟨b2,o2,rfl,Fa⟩:=hy.at h1;have l2:b2<w.heap.size:=vh w _ (Fa 0 h1);have Wa:=Hd Fa;have HZ:=Hd hz;have Ba:=Hd hz.len;have Aa:=Hd hy.len;have HA:=Hd ha;have HB:=Hd hb
 have gl:ys.getD (m-1) 0≠0:=by
  rcases ny with e | e
  ·rw[hy.len]at e;omega
  ·rw[hy.len]at e;exact e
 have Xa:=Hd gl;have HL:H9 ((zs.map (Value.int .i64)).length=n*1):=(by show _=_;rw[List.length_map,hz.len,Nat.mul_one]);obtain⟨i0,hi,Ya,Za,Ab⟩:=info_parts bK;have HI:H9 (prog.info? 2=some i0∧i0.zero=some (Value.int .i64 0)∧i0.size=1∧i0.bytes=8):=⟨hi,Ya,Za,Ab⟩;obtain⟨N,hN⟩:∃N,N=n-m+1:=⟨_,rfl⟩;have Bb:(n:Int)-(m:Int)+1=(N:Int):=(by omega);have Ld:(0:Int)<(n:Int)-(m:Int)+1:=(by omega);have HN:=Hd hN;have Ga:=Hd Bb;clear hz hy ha hb Qc Fa hi Ya Za Ab hN Bb gl ny;go_enter func74,ntmps74;(go_wp2_with(at_builtin;refine de _ rfl (.tmp 12) (.tmp 13) 24 rfl w.heap.size 2 i0 (it 0) 1 8 underlying24 HI.o.1 HI.o.2.1 HI.o.2.2.1 HI.o.2.2.2 rfl (by decide) _ 0 [] rfl (World.ownsRow_made w #[] 0 (m3 _) (by unfold maxLen;omega) rfl) (some ⟨b1,o1,none⟩) n c (zs.map (Value.int .i64)) rfl HL.o (fun h=>by cases h) (pd (HZ.o.below ((m5 _ _).alloc (m3 _) _))) (di _) (by unfold maxLen;omega) (by omega) (by simp) ?_));intro v1 w1 Cb Db;have hown':w1.ownsRow w.heap.size 2 1 v1 n (zs.map (Value.int .i64)):=(by simpa using Cb);obtain⟨ra,rc,rfl,Eb⟩:=aD.form hown';have Fb:=Hd Eb;have Gb:=Hd (((m5 w.heap.size w).alloc (m3 _) _).grown Db (by simp) (fun j hj=>by simp[Value.ownBlock]at hj;omega));have Hb:=Gb.o.size;clear Cb hown' Db Eb;(go_wp2_with(at_make;refine wpList_make_full _ rfl _ _ 24 rfl w1.heap.size 2 i0 (it 0) 1 underlying24 HI.o.1 HI.o.2.1 HI.o.2.2.1 .i64 .i64 _ _ N rfl rfl Ga.o Ga.o (by rw[HI.o.2.2.2];have:=HN.o;omega) (by unfold maxLen;have:=HN.o;omega) (m3 _) ?_));intro w2 Ha Ib
 have Jb:H9 (aD 2 w2 w1.heap.size (some ⟨w1.heap.size,0,none⟩) N N (List.replicate N 0)):=by
  show w2.ownsRow _ _ _ _ _ _;rw[em]at Ha;exact Ha
 have Ia:=bu Ib;have Kb:=Hd (Fb.o.below Ia);have Ja:=Hd (Gb.o.trans (Ia.mono Hb));obtain⟨ga,rfl,Rc,Nd,_,_⟩:=Fb.o.block (by omega);have cl:w2.cell? ⟨b2,o2+(m-1),none⟩=some (it (ys.getD (m-1) 0)):=(Ja.o.cell (p:=⟨b2,o2+(m-1),none⟩) l2).trans (Wa.o (m-1) (by omega))
 have Lb:H9 (M.DInv zs ys zs (List.replicate N 0) N):=by
  have h:=M.dinv_start (g:=ys) HA.o;rw[Ba.o,Aa.o,←HN.o]at h;exact h
 clear Ha Ib Ia;have Od:1≤m:=(by omega);have Pd:(0:Int)≤(m:Int)-1:=(by omega);have Qd:(m:Int)-1<(m:Int):=(by omega);generalize Nb:ys.getD (m-1) 0=Da at cl;have Ka:=Hd Nb;clear Nb;(go_wp2_with fail);refine(dY Da _).mono ?_;rintro e w2 ⟨rfl,rfl⟩
 have Sc:H9 (0≤M.inv Da∧M.inv Da<65537):=by
  show _∧_;rw[←M.el_iff];have h:=M.el_at HB.o (m-1);rw[Ka.o]at h;exact M.el_inv ((M.el_iff _).2 h) (by rw[←Ka.o];exact Xa.o)
 have iv:=Sc.o;generalize hiv:M.inv Da=iv' at iv;have Tc:=Hd hiv;obtain⟨Uc,Vc⟩:=iv;clear hiv;have Ob:(n:Int)-(m:Int)=(N:Int)-1:=(by have:=Ga.o;omega);have Wc:=Hd Ob;clear Ob cl;go_wp2
 go_loopw [9] (fun i wr=>∃(k:Nat) (R O:List Int),k≤N∧i=it ((k:Int)-1)∧aD 2 wr w.heap.size (some ⟨ga,0,none⟩) n rc R∧aD 2 wr w1.heap.size (some ⟨w1.heap.size,0,none⟩) N N O∧M.DInv zs ys R O k∧m1 w wr) (fun i _=>(intOf i+1).toNat)
 case atStart=>exact⟨N,zs,List.replicate N 0,m3 _,congrArg (Value.int .i64) Wc.o,Kb.o,Jb.o,Lb.o,Ja.o⟩
 case round=>
  obtain⟨k,R,O,hk,rfl,Pb,Qb,Rb,Sb⟩:=hrel;have La:=Hd Pb;have Na:=Hd Qb;have Ca:=Hd Rb;have Ea:=Hd Sb;clear Pb Qb Rb Sb Jb Kb Ja Lb;by_cases Rd:0<k
  ·
   obtain⟨i,rfl⟩:∃i,k=i+1:=⟨k-1,by omega⟩;have Xc:i+m≤n:=(by have:=HN.o;omega);rw[show((i+1:Nat):Int)-1=(i:Int) by omega];obtain⟨g',Tb,_,_,Ub,Yc⟩:=La.o.block (by omega);simp only[Option.some.injEq,Addr.mk.injEq,and_true]at Tb;subst Tb;have er:=Ub (i+m-1) (by omega);obtain⟨g2,Oa,_,_,Vb,Wb⟩:=Na.o.block (by omega);simp only[Option.some.injEq,Addr.mk.injEq,and_true]at Oa;have eo:=Vb i (by omega);have fo:=Wb i;rw[←Oa]at eo fo;have Xb:=M.el_at Ca.o.ar (i+m-1);generalize hx:R.getD (i+m-1) 0=x at er Xb;have HX:=Hd hx;obtain⟨x0,x1⟩:=Xb;obtain⟨m0,J⟩:=M.mul_bd x0 x1 Uc Vc
   have Yb:H9 (M.DInv zs ys (M.tab zs.length (M.restAt R ys (x*iv'%65537) i ys.length)) (O.set i (x*iv'%65537)) i):=by
    refine M.dinv_step HB.o (by rw[Aa.o];omega) (by rw[Aa.o];exact Xa.o) Ca.o (by rw[Aa.o,Ba.o];exact Xc) _ ?_;rw[Aa.o,HX.o,Ka.o,Tc.o]
   have Zc:=Hd Ca.o.lr;have q0:0≤x*iv'%65537:=Int.emod_nonneg _ (by decide);have q1:x*iv'%65537<65537:=Int.emod_lt_of_pos _ (by decide);have Sd:(i:Int)+(m:Int)-1<(n:Int):=(by omega);have Td:(0:Int)≤(i:Int)+(m:Int)-1:=(by omega);have Ud:(i:Int)<(N:Int):=(by omega);generalize O.getD i 0=oy at eo;have Zb:ga≠w1.heap.size:=(by omega);clear hx Ub Yc Vb Wb Oa;generalize hq:x*iv'%65537=q at Yb q0 q1;have Ad:=Hd hq;clear hq;have Ac:H9 (aD 2 (wr.setCell ⟨w1.heap.size,i,none⟩ (it q)) w1.heap.size (some ⟨w1.heap.size,0,none⟩) N N (O.set i q)):=Na.o.set i q
   have Bc:H9 (aD 2 (wr.setCell ⟨w1.heap.size,i,none⟩ (it q)) w.heap.size (some ⟨ga,0,none⟩) n rc (M.tab n (M.restAt R ys q i 0))):=by
    show aD _ _ _ _ _ _ _;rw[←Ba.o,←mj Zc.o,Ba.o];exact La.o.other ⟨w1.heap.size,i,none⟩ (fun x hx=>by simp only[Option.some.injEq]at hx;subst hx;exact Zb) _
   have Cc:H9 (m1 w (wr.setCell ⟨w1.heap.size,i,none⟩ (it q))):=Ea.o.setCell Hb _;have Bd:=Hd Ca.o.ar;go_wp2;rw[Ad.o]
   go_loopw [11] (fun z wv=>∃j:Nat,j≤m∧z=it j∧aD 2 wv w.heap.size (some ⟨ga,0,none⟩) n rc (M.tab n (M.restAt R ys q i j))∧aD 2 wv w1.heap.size (some ⟨w1.heap.size,0,none⟩) N N (O.set i q)∧m1 w wv) (fun z _=>m-(intOf z).toNat)
   case atStart=>exact⟨0,by omega,rfl,Bc.o,Ac.o,Cc.o⟩
   case round=>
    obtain⟨j,hj,rfl,Dc,Ec,Fc⟩:=hrel;have Pa:=Hd Dc;have Gc:=Hd Ec;have Qa:=Hd Fc;clear Dc Ec Fc Ac Bc Cc;by_cases Cd:j<m
    ·
     have Hc:i+j<n:=(by omega);have e2:wr.cell? ⟨b2,o2+j,none⟩=some (it (ys.getD j 0)):=(Qa.o.cell (p:=⟨b2,o2+j,none⟩) l2).trans (Wa.o j Cd);obtain⟨g3,Ic,_,_,Jc,Kc⟩:=Pa.o.block (by omega);simp only[Option.some.injEq,Addr.mk.injEq,and_true]at Ic;subst Ic;have e3:=Jc (i+j) Hc;have f3:=Kc (i+j);rw[M.tab_get _ _ _ Hc,pO]at e3;have Ra:H9 ((M.tab n (M.restAt R ys q i j)).set (i+j) ((R.getD (i+j) 0+(65537-q)*ys.getD j 0)%65537)=M.tab n (M.restAt R ys q i (j+1))):=nZ;have Lc:=M.el_at HB.o j;have Nc:=M.el_at Bd.o (i+j);generalize ys.getD j 0=y at e2 Lc Ra;generalize R.getD (i+j) 0=v at e3 Nc Ra;obtain⟨y0,y1⟩:=Lc;obtain⟨v0,v1⟩:=Nc;obtain⟨p0,p1⟩:=rP q0 q1 y0 y1;have hJ:(j:Int)<(m:Int):=(by omega);have hK:(i:Int)+(j:Int)<(n:Int):=(by omega);have Vd:(0:Int)≤(i:Int)+(j:Int):=(by omega);have Wd:b2≠ga:=(by omega);clear Jc Kc er eo fo;go_wp2
     go_region
     go_wp2;go_roundw
     case rel=>
      refine⟨j+1,by omega,by go_num,?_,?_,(Qa.o.setCell Rc _).drew⟩
      ·
       rw[←Ra.o];exact World.ownsRow.drew (Pa.o.set (i+j) _)
      ·exact World.ownsRow.drew (Gc.o.other ⟨ga,i+j,none⟩ (fun x hx=>by simp only[Option.some.injEq]at hx;subst hx;exact fun e=>Zb e.symm) _)
     case measure=>simp[intOf];omega
    ·
     have hjm':j=m:=by omega
     have HF:H9 (aD 2 wr w.heap.size (some ⟨ga,0,none⟩) n rc (M.tab zs.length (M.restAt R ys q i ys.length))):=by
      show aD _ _ _ _ _ _ _;have h:=Pa.o;rw[hjm',←Aa.o]at h;rw[Ba.o];exact h
     clear hjm';go_wp2;go_roundw
     case rel=>exact⟨i,_,_,by omega,by go_num,HF.o,Gc.o,Yb.o,Qa.o⟩
     case measure=>simp[intOf] <;> omega
  ·
   have hk0':k=0:=(by omega);subst hk0';have Dd:=Hd (M.dinv_end (by rw[Aa.o];omega) Ca.o);have Ed:N≤1048576:=(by have:=HN.o;omega);(go_wp2_with fail);refine(cI _ Na.o.sees Ed).mono ?_;rintro e w6 ⟨a6,l6,c6,rfl,Oc,Sa⟩;have Pc:=Hd Oc;have Fd:=Hd (La.o.below Sa);have Ta:=Ea.t Sa;clear Oc Sa;(go_wp2_with fail);refine(cI _ Fd.o.sees (by omega)).mono ?_;rintro e w7 ⟨a7,l7,c7,rfl,Ua,Va⟩;have Gd:=Hd ((Pc.o.below Va).mono Ea.o.size);have Id:=Hd (Ua.mono Ta.o.size)
   have Jd:H9 (∀x y,a6=some x→a7=some y→x.block≠y.block):=fun x y hx hy=>by
    have h1:=Pc.o.hi x hx;have h2:=Ua.lo y hy;omega
   have Kd:=Ta.t Va;clear Ua Va;go_wp2
   go_ret2
   exact⟨a6,l6,c6,a7,l7,c7,_,_,rfl,Gd.o,Id.o,Dd.o,Jd.o,Kd.o⟩
theorem ki{m:Nat}(w:World)(hz:aw w a n c zs)(hy:aw w b m d ys)(ha:M.allEl zs=true)(nz:M.neat zs)(hn:n≤128)(hm:m≤128)(h1:0<m)(hmn:n<m):
  Calls prog 74 #[.slice a n c,.slice b m d] w fun e w'=>∃a1 l1 c1 a2 l2 c2 q r,e=.returned (.tuple #[.slice a1 l1 c1,.slice a2 l2 c2])∧aD 2 w' w.heap.size a1 l1 c1 q∧aD 2 w' w.heap.size a2 l2 c2 r∧M.Div zs ys q r∧(∀x y,a1=some x→a2=some y→x.block≠y.block)∧m1 w w':=by
 obtain⟨b2,o2,rfl,Ca⟩:=hy.at h1;have l2:b2<w.heap.size:=vh w _ (Ca 0 h1);have Ta:=Hd Ca;have HZ:=Hd hz;have HD:H9 (M.Div zs ys [] zs):=M.div_short nz ha (by rw[hz.len,hy.len];exact hmn);have Ua:=Hd (M.trim_neat nz);have HL:H9 ((zs.map (Value.int .i64)).length=n*1):=(by show _=_;rw[List.length_map,hz.len,Nat.mul_one]);obtain⟨i0,hi,Ia,Ja,Ka⟩:=info_parts bK;have HI:H9 (prog.info? 2=some i0∧i0.zero=some (Value.int .i64 0)∧i0.size=1∧i0.bytes=8):=⟨hi,Ia,Ja,Ka⟩;have Fb:¬ (0:Int)<(n:Int)-(m:Int)+1:=(by omega);have Gb:¬ (0:Int)≤(n:Int)-(m:Int):=(by omega);clear hz hy ha nz Ca hi Ia Ja Ka;go_enter func74,ntmps74;(go_wp2_with(at_builtin;refine de _ rfl (.tmp 12) (.tmp 13) 24 rfl w.heap.size 2 i0 (it 0) 1 8 underlying24 HI.o.1 HI.o.2.1 HI.o.2.2.1 HI.o.2.2.2 rfl (by decide) _ 0 [] rfl (World.ownsRow_made w #[] 0 (m3 _) (by unfold maxLen;omega) rfl) a n c (zs.map (Value.int .i64)) rfl HL.o HZ.o.no (pd (HZ.o.below ((m5 _ _).alloc (m3 _) _))) (di _) (by unfold maxLen;omega) (by omega) (by simp) ?_));intro v1 w1 La Na;have hown':w1.ownsRow w.heap.size 2 1 v1 n (zs.map (Value.int .i64)):=(by simpa using La);obtain⟨ra,rc,rfl,Oa⟩:=aD.form hown';have Va:=Hd Oa;have Pa:=Hd (((m5 w.heap.size w).alloc (m3 _) _).grown Na (by simp) (fun j hj=>by simp[Value.ownBlock]at hj;omega));have Wa:=Pa.o.size;clear La hown' Na Oa;(go_wp2_with(at_make;refine wpList_make_full _ rfl _ _ 24 rfl w1.heap.size 2 i0 (it 0) 1 underlying24 HI.o.1 HI.o.2.1 HI.o.2.2.1 .i64 .i64 _ _ 0 rfl rfl (by omega) (by omega) (by rw[HI.o.2.2.2];omega) (by unfold maxLen;omega) (m3 _) ?_));intro w2 Da Qa
 have Xa:H9 (aD 2 w2 w1.heap.size (some ⟨w1.heap.size,0,none⟩) 0 0 []):=by
  show w2.ownsRow _ _ _ _ _ _;rw[em]at Da;exact Da
 have Ea:=bu Qa;have Ya:=Hd (Va.o.below Ea);have Aa:=Hd (Pa.o.trans (Ea.mono Wa));have cl:w2.cell? ⟨b2,o2+(m-1),none⟩=some (it (ys.getD (m-1) 0)):=(Aa.o.cell (p:=⟨b2,o2+(m-1),none⟩) l2).trans (Ta.o (m-1) (by omega));clear Da Qa Ea;have Hb:1≤m:=(by omega);have Ib:(0:Int)≤(m:Int)-1:=(by omega);have Jb:(m:Int)-1<(m:Int):=(by omega);generalize ys.getD (m-1) 0=Za at cl;(go_wp2_with fail);refine(dY Za _).mono ?_;rintro e w2 ⟨rfl,rfl⟩;clear cl;go_wp2;refine wp_loop_rounds 1 ?_;rw[rounds_succ];(go_wp2_with fail);refine(cI _ Xa.o.sees (by omega)).mono ?_;rintro e w6 ⟨a6,l6,c6,rfl,Ra,Fa⟩;have Sa:=Hd Ra;have Ab:=Hd (Ya.o.below Fa);have Ga:=Aa.t Fa;clear Ra Fa;(go_wp2_with fail);refine(cI _ Ab.o.sees (by omega)).mono ?_;rintro e w7 ⟨a7,l7,c7,rfl,Ba,Ha⟩;rw[Ua.o]at Ba;have Bb:H9 (aD 2 w7 w.heap.size a6 l6 c6 []):=(Sa.o.below Ha).mono Aa.o.size;have Cb:=Hd (Ba.mono Ga.o.size)
 have Db:H9 (∀x y,a6=some x→a7=some y→x.block≠y.block):=fun x y hx hy=>by
  have h1:=Sa.o.hi x hx;have h2:=Ba.lo y hy;omega
 have Eb:=Ga.t Ha;clear Ba Ha;go_wp2
 go_ret2
 exact⟨a6,l6,c6,a7,l7,c7,_,_,rfl,Bb.o,Cb.o,HD.o,Db.o,Eb.o⟩
namespace M
theorem nodup_iff(xs:List Int):xs.Nodup↔∀i j,i<j→j<xs.length→xs.getD i 0≠xs.getD j 0:=by
 unfold List.Nodup;rw[List.pairwise_iff_getElem]
 constructor
 ·
  intro h i j Aa hj;have:=h i j (by omega) hj Aa;simpa[m4,m6 hj,m6 (show i<xs.length by omega)]using this
 ·
  intro h i j hi hj Aa;have:=h i j Aa hj;simpa[m4,m6 hj,m6 hi]using this
structure Lag(xs f:List Int)(b:Int)(i k:Nat):Prop where
 fl:allEl f=true
 lf:f.length≤(if i<k then k else k+1)
 vz:∀j,j<k→j≠i→ev f (xs.getD j 0)=0
 vb:ev f (xs.getD i 0)=b
 b0:b≠0
theorem Lag.bd{xs:List Int}{b:Int}(h:Lag xs f b i k):0≤b∧b<65537:=by rw[←h.vb];exact ev_bd _ _
end M
theorem pL(hi:i<zs.length)(hk:k<i)(e:zs.getD i 0=zs.getD k 0):decide zs.Nodup=false:=
 decide_eq_false fun h=>(M.nodup_iff zs).1 h k i hk hi e.symm
theorem nU(h:∀i k,i<zs.length→k<i→zs.getD i 0≠zs.getD k 0):decide zs.Nodup=true:=
 decide_eq_true ((M.nodup_iff zs).2 fun i j hij hj e=>h j i hj hij e.symm)
theorem kK(w:World)(hz:aw w a n c zs):
  Rq 66 #[.slice a n c] w (.bool (decide zs.Nodup)):=by
 have bn:(n:Int)≤9223372036854775807:=(by have:=hz.big;have:=hz.le;omega);have Fa:(n:Int)≤(c:Int):=(by have:=hz.le;omega);have HZ:=Hd hz;clear hz;go_enter func66,ntmps66;go_wp2
 go_loop [9] (fun i=>∃k:Nat,k≤n∧i=it k∧∀i j,i<k→j<i→zs.getD i 0≠zs.getD j 0) (fun i=>n-(intOf i).toNat)
 case atStart=>exact⟨0,by omega,rfl,fun i j h=>by omega⟩
 case round=>
  obtain⟨i,hi,rfl,Ba⟩:=hrel;have HA:=Hd Ba;clear Ba;by_cases Ca:i<n
  ·
   obtain⟨b1,o1,rfl,Aa⟩:=HZ.o.at (by omega);have c1:=Aa i Ca;have HC:=Hd Aa;clear Aa;generalize hx:zs.getD i 0=x at c1;have HX:=Hd hx;have hI:(i:Int)<(n:Int):=(by omega);have Ga:(i:Int)≤(c:Int):=(by omega);have Ha:i≤c:=(by omega);clear hx;go_wp2
   go_loop [18] (fun q=>∃k:Nat,k≤i∧q=it k∧∀j,j<k→x≠zs.getD j 0) (fun q=>i-(intOf q).toNat)
   case atStart=>exact⟨0,by omega,rfl,fun j h=>by omega⟩
   case round=>
    obtain⟨k,hk,rfl,Da⟩:=hrel;have HN:=Hd Da;clear Da;by_cases Ea:k<i
    ·
     have c2:=HC.o k (by omega);generalize hy:zs.getD k 0=y at c2;have HY:=Hd hy;have hK:(k:Int)<(i:Int):=(by omega);clear hy;by_cases he:x=y
     ·
      have hb:(x==y)=true:=(by simp[he]);have HE:=Hd he;clear he;go_wp2;go_ret;exact⟨aC (pL (by rw[HZ.o.len];exact Ca) Ea (by rw[HX.o,HY.o];exact HE.o)).symm,rfl⟩
     ·
      have hb:(x==y)=false:=(by simp[he]);have HE:H9 (x≠y):=he;clear he;go_wp2
      go_round
      case rel=>
       refine⟨k+1,by omega,by go_num,fun j hj=>?_⟩;by_cases e:j=k
       ·subst e;rw[HY.o];exact HE.o
       ·exact HN.o j (by omega)
      case measure=>simp[intOf];omega
    ·
     have hki':k=i:=(by omega);have HK:=Hd hki';clear hki';go_wp2
     go_round
     case rel=>
      refine⟨i+1,by omega,by go_num,fun j m hj hm=>?_⟩;by_cases e:j=i
      ·subst e;rw[HX.o];exact HN.o m (by rw[HK.o];exact hm)
      ·exact HA.o j m (by omega) hm
     case measure=>simp[intOf];omega
  ·
   go_wp2;go_ret;exact⟨aC (nU fun j k hj hk=>HA.o j k (by rw[HZ.o.len]at hj;omega) hk).symm,rfl⟩
structure PA where
 x:Option Addr
 xc:Nat
 y:Option Addr
 yc:Nat
 qx:Option Addr
 qxc:Nat
 qy:Option Addr
 qyc:Nat
def PA.zero:PA:=⟨none,0,none,0,none,0,none,0⟩
def M.Pf.zero:M.Pf:=⟨(0,0),(0,0),[],[],[],[]⟩
structure rB(w:World)(p:M.Pf)(a:PA):Prop where
 x:aw w a.x p.X.length a.xc p.X
 y:aw w a.y p.Y.length a.yc p.Y
 qx:aw w a.qx p.QX.length a.qxc p.QX
 qy:aw w a.qy p.QY.length a.qyc p.QY
structure jw(t:TypeId)(w:World)(i':Nat)(p:M.Pf)(a:PA):Prop where
 x:aD t w i' a.x p.X.length a.xc p.X
 y:aD t w i' a.y p.Y.length a.yc p.Y
 qx:aD t w i' a.qx p.QX.length a.qxc p.QX
 qy:aD t w i' a.qy p.QY.length a.qyc p.QY
def ij(a b:Option Addr):Prop:=∀x y,a=some x→b=some y→x.block≠y.block
theorem ij.symm(h:ij a b):ij b a:=fun x y hx hy e=>h y x hy hx e.symm
theorem fz(a:Option Addr):ij none a:=fun _ _ h=>by cases h
theorem jw.sees{a:PA}(h:jw t w i' p a):rB w p a:=⟨h.x.sees,h.y.sees,h.qx.sees,h.qy.sees⟩
theorem jw.below{a:PA}(h:jw t w i' p a)(hb:m1 w w'):jw t w' i' p a:=⟨h.x.below hb,h.y.below hb,h.qx.below hb,h.qy.below hb⟩
theorem jw.mono{base':Nat}{a:PA}(h:jw t w i' p a)(hb:base'≤i'):jw t w base' p a:=⟨h.x.mono hb,h.y.mono hb,h.qx.mono hb,h.qy.mono hb⟩
theorem rB.below{a:PA}(h:rB w p a)(hb:m1 w w'):rB w' p a:=⟨h.x.below hb,h.y.below hb,h.qx.below hb,h.qy.below hb⟩
def c8(m:M.Mc)(s:Int×Int)(n:Int):Bool:=m.ok&&(M.sOk s&&M.rows n)
def fX(m:M.Mc)(s:Int×Int)(n:Int):M.Pf:=if c8 m s n=true then m.pf s n.toNat else M.Pf.zero
theorem sM{n:Int}(h:c8 m s n=true):fX m s n=m.pf s n.toNat:=if_pos h
theorem rQ{n:Int}(h:c8 m s n=false):fX m s n=M.Pf.zero:=if_neg (by rw[h];decide)
theorem fW{n:Int}(h:c8 m s n=true):m.ok=true∧M.sOk s=true∧∃N:Nat,n=(N:Int)∧M.rowsN N=true:=by
 unfold c8 at h;rw[vl,vl]at h;refine⟨h.1,h.2.1,?_⟩
 rcases fG h.2.2 with rfl | rfl | rfl | rfl
 ·exact⟨2,rfl,rfl⟩
 ·exact⟨4,rfl,rfl⟩
 ·exact⟨8,rfl,rfl⟩
 ·exact⟨16,rfl,rfl⟩
theorem nX{n:Int}(h:c8 m s n=false):m.ok=false∨(m.ok=true∧M.sOk s=false)∨(m.ok=true∧M.sOk s=true∧M.rows n=false):=by
 unfold c8 at h
 cases h1:m.ok with
 | false=>exact .inl rfl
 | true=>
  cases h2:M.sOk s with
  | false=>exact .inr (.inl ⟨rfl,rfl⟩)
  | true=>rw[h1,h2]at h;exact .inr (.inr ⟨rfl,rfl,by simpa using h⟩)
end Go.Proofs.YtobnifjhikoleaaGreatDoor
