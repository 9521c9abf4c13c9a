import Derived.Test.YtbjalickbnpnkaaGreatDoorPk04
import Derived.Test.YtbjalickbnpnkaaGreatDoorPk05
namespace Go.Proofs.YtbjalickbnpnkaaGreatDoor
open Go.RowKit Go.Proofs.Tryz
set_option linter.unusedSimpArgs false
set_option maxHeartbeats 32000000
variable {a b:Option Addr}{w w' wr:World}{n cap c j B k jb i m d dA:Nat}{g zs f R ys:List Int}{x q:Int}{t:TypeId}{p:M.Pf}{s:Int×Int}
theorem dS(w:World)(b o:Nat)(cs:List Value):w.grownBy (w.setCells b o cs) (some b):=aO (World.grownBy.refl _ _) o _
theorem cP{P:Program}{ops:Array Oper}{Q:Exit->Act->World->Prop}{id:Nat}{a:Act}(w:World)(row:Option Nat)(hm:P.follows .mixedOrders=true)
   (h:w.grownBy w.drew row->wpAnyH P .any ops (NoPanic Q) (λW=>w.grownBy W row) ops.size (Array.replicate ops.size false) a w.drew):(Code.region id ops true).wp P Q a w:=
  wp_region_noPanic (wp_region_held_drew (S:=λW=>w.grownBy W row) hm (dy _ _) h)
structure xh where
 s:Int×Int
 e:Int×Int
 n:Int
theorem dn(n lo hi:Int)(w:World):Rq 52 #[it n,it lo,it hi] w (.bool (decide (lo<=n)&&decide (n<=hi))):=by
 by_cases h1:lo<=n
 ·
  go_enter func52,ntmps52;go_wp2;go_ret;exact⟨by simp[h1],rfl⟩
 ·
  go_enter func52,ntmps52;go_wp2;go_ret;exact⟨by simp;omega,rfl⟩
section
variable {α:Type} {f:α->List Value} {k:Nat}
theorem eB(hf:∀x,(f x).length=k):∀xs:List α,(xs.flatMap f).length=xs.length*k
 | []=>by simp
 | x::xs=>by rw[xV,xS,hf,eB hf xs,List.length_cons,Nat.add_mul];omega
theorem fS(hf:∀x,(f x).length=k)(d:α):∀(xs:List α) {i j:Nat},i<xs.length->j<k->(xs.flatMap f)[i*k+j]?=(f (xs.getD i d))[j]?
 | [],_,_,h,_=>by simp at h
 | x::xs,0,j,_,hj=>by
  rw[xV,List.getElem?_append_left (by rw[hf];omega)];simp
 | x::xs,i+1,j,h,hj=>by
  rw[xV,List.getElem?_append_right (by rw[hf,Nat.add_mul];omega),hf,show(i+1)*k+j-k=i*k+j by rw[Nat.add_mul];omega,fS hf d xs (by simpa using h) hj];simp
theorem pT(hf:∀x,(f x).length=k):∀(xs:List α) {i:Nat} (c:α),i<xs.length->mh (xs.flatMap f) (i*k) (f c)=(xs.set i c).flatMap f
 | [],_,_,h=>by simp at h
 | x::xs,0,c,_=>by
  unfold mh;rw[Nat.zero_mul,List.take_zero,List.nil_append,Nat.zero_add,hf,xV,List.drop_left' (hf x)];simp
 | x::xs,i+1,c,h=>by
  have ih:=pT hf xs c (i:=i) (by simpa using h);unfold mh at ih |-;rw[hf]at ih |-;rw[xV,List.set_cons_succ,xV,<-ih,show(i+1)*k=k+i*k by rw[Nat.add_mul];omega,Nat.add_assoc];rw[List.take_append,List.drop_append,hf,xt (by rw[hf];omega),t' (by rw[hf];omega)];rw[show k+i*k-k=i*k by omega,show k+(i*k+k)-k=i*k+k by omega];simp
end
namespace M
structure Tk where
 done:Bool
 dC:Int
 due:Int
structure Jb where
 id:Int
 m:M.Mc
 s:Int×Int
 rows:Int
 gone:Bool
 ts:List Tk
def t0:Tk:=⟨false,0,0⟩
def m0:M.Mc:=⟨⟨0,0,0,0,0,0⟩,⟨0,0,0,0,0,0⟩⟩
def j0:Jb:=⟨0,m0,(0,0),0,false,[]⟩
end M
def eK(t:M.Tk):List Value:=[.bool t.done,it t.dC,it t.due]
def nt(t:M.Tk):Value:=.agg #[.bool t.done,it t.dC,it t.due]
def fk(j:M.Jb)(a:Option Addr)(c:Nat):List Value:=
 [it j.id,it j.m.X.xx,it j.m.X.xy,it j.m.X.yy,it j.m.X.x,it j.m.X.y,it j.m.X.k,it j.m.Y.xx,it j.m.Y.xy,it j.m.Y.yy,it j.m.Y.x,it j.m.Y.y,it j.m.Y.k,it j.s.1,it j.s.2,it j.rows,.bool j.gone,.slice a j.ts.length c]
def jy(q:M.Jb×Option Addr×Nat):List Value:=fk q.1 q.2.1 q.2.2
theorem ew(t:M.Tk):(eK t).length=3:=rfl
theorem iw(q:M.Jb×Option Addr×Nat):(jy q).length=18:=rfl
structure bS(w:World)(a:Option Addr)(n cap:Nat)(ts:List M.Tk):Prop where
 len:ts.length=n
 le:n<=cap
 big:(cap:Int)<=9223372036854775807
 no:a=none->n=0/\cap=0
 pos:n=0\/∃b off,a=some ⟨b,off,none⟩/\∀i,i<n->∀j,j<3->w.cell? ⟨b,off+i*3+j,none⟩=(eK (ts.getD i M.t0))[j]?
theorem bS.at{ts:List M.Tk}(h:bS w a n cap ts)(h0:0<n):∃b off,a=some ⟨b,off,none⟩/\∀i,i<n->∀j,j<3->w.cell? ⟨b,off+i*3+j,none⟩=(eK (ts.getD i M.t0))[j]?:=by
 rcases h.pos with e | e
 .omega
 .exact e
theorem bS.below{ts:List M.Tk}(h:bS w a n cap ts)(hb:m1 w w'):bS w' a n cap ts:=by
 refine⟨h.len,h.le,h.big,h.no,?_⟩;by_cases h0:n=0
 .exact .inl h0
 ·
  obtain⟨b,Aa,e,hc⟩:=h.at (by omega);have Ba:b<w.heap.size:=xJ w ⟨b,Aa+0*3+0,none⟩ ((hc 0 (by omega) 0 (by omega)).trans rfl);exact .inr ⟨b,Aa,e,λi hi j hj=>(hb.cell (p:=⟨b,Aa+i*3+j,none⟩) Ba).trans (hc i hi j hj)⟩
structure fQ(w:World)(a:Option Addr)(n cap:Nat)(js:List M.Jb):Prop where
 len:js.length=n
 le:n<=cap
 big:(cap:Int)<=9223372036854775807
 no:a=none->n=0/\cap=0
 pos:n=0\/∃b off,a=some ⟨b,off,none⟩/\∀i,i<n->∃(ta:Option Addr) (tc:Nat),(∀j,j<18->w.cell? ⟨b,off+i*18+j,none⟩=(fk (js.getD i M.j0) ta tc)[j]?)/\bS w ta (js.getD i M.j0).ts.length tc (js.getD i M.j0).ts
theorem fQ.at{js:List M.Jb}(h:fQ w a n cap js)(h0:0<n):∃b off,a=some ⟨b,off,none⟩/\∀i,i<n->∃(ta:Option Addr) (tc:Nat),(∀j,j<18->w.cell? ⟨b,off+i*18+j,none⟩=(fk (js.getD i M.j0) ta tc)[j]?)/\bS w ta (js.getD i M.j0).ts.length tc (js.getD i M.j0).ts:=by
 rcases h.pos with e | e
 .omega
 .exact e
theorem fQ.below{js:List M.Jb}(h:fQ w a n cap js)(hb:m1 w w'):fQ w' a n cap js:=by
 refine⟨h.len,h.le,h.big,h.no,?_⟩;by_cases h0:n=0
 .exact .inl h0
 ·
  obtain⟨b,Aa,e,hc⟩:=h.at (by omega)
  have Ba:b<w.heap.size:=by
   obtain⟨ta,tc,h1,_⟩:=hc 0 (by omega);exact xJ w ⟨b,Aa+0*18+0,none⟩ ((h1 0 (by omega)).trans rfl)
  refine .inr ⟨b,Aa,e,λi hi=>?_⟩;obtain⟨ta,tc,h1,h2⟩:=hc i hi;exact⟨ta,tc,λj hj=>(hb.cell (p:=⟨b,Aa+i*18+j,none⟩) Ba).trans (h1 j hj),h2.below hb⟩
structure co(w:World)(ab:Option Addr)(nb cb:Nat)(aj:Option Addr)(nj cj:Nat)(bs:List Int)(js:List M.Jb):Prop where
 b:aC w ab nb cb bs
 j:fQ w aj nj cj js
theorem co.below{ab:Option Addr}{nb cb:Nat}{aj:Option Addr}{nj cj:Nat}{bs:List Int}{js:List M.Jb}(h:co w ab nb cb aj nj cj bs js)(hb:m1 w w'):co w' ab nb cb aj nj cj bs js:=⟨h.b.below hb,h.j.below hb⟩
structure nu(P:Prop):Prop where
 out:P
structure wS(G:Prop) where
 p:Prop
 h:nu p->G
structure tm(G:Prop) where
 p:Prop
 q:Prop
 h:nu p->nu q->G
section
open Go.ChangeShapes Go.WideShapes
open Go.ChangeShapes Go.WideShapes
theorem bS.kept{ts:List M.Tk}(h:bS w a n c ts)(hc:∀x i,a=some x->w'.cell? ⟨x.block,i,none⟩=w.cell? ⟨x.block,i,none⟩):bS w' a n c ts:=by
 refine⟨h.len,h.le,h.big,h.no,?_⟩
 rcases h.pos with e | ⟨b,o,e,hp⟩
 .exact .inl e
 .exact .inr ⟨b,o,e,λi hi j hj=>(hc _ _ e).trans (hp i hi j hj)⟩
open Go.ChangeShapes Go.WideShapes
theorem bN{b o:Nat}{vs:List Value}(hl:vs.length=n)(h:∀j,j<n->w.cell? ⟨b,o+j,none⟩=vs[j]?):w.rangeAt b o vs:=λj v hv=>by
 have hj:j<vs.length:=by
  rcases Nat.lt_or_ge j vs.length with h' | h'
  .exact h'
  .rw[List.getElem?_eq_none h']at hv;cases hv
 exact(h j (by omega)).trans hv
def vg(g n j:Nat)(js:List M.Jb)(wr:World):Prop:=∃qs:List (M.Jb×Option Addr×Nat),qs.map (·.1)=js.take j/\aw wr g ((qs++(List.replicate n (M.j0,none,0)).drop j).flatMap jy)/\∀q∈qs,bS wr q.2.1 q.1.ts.length q.2.2 q.1.ts/\∀x,q.2.1=some x->g<x.block
theorem vg.zero{g:Nat}{js:List M.Jb}(h:aw wr g ((List.replicate n (M.j0,none,0)).flatMap jy)):vg g n 0 js wr:=
 ⟨[],by simp,by simpa using h,λq hq=>by cases hq⟩
theorem vg.len{g:Nat}{js:List M.Jb}(h:vg g n j js wr)(hj:j<=n)(hl:js.length=n):∃vs,aw wr g vs/\vs.length=n*18:=by
 obtain⟨qs,h1,h2,_⟩:=h;have hq:qs.length=j:=(by have:=congrArg List.length h1;simpa[hl,hj]using this);exact⟨_,h2,by rw[eB iw,xS,List.length_drop,xM,hq];congr 1;omega⟩
def kD(B:Nat)(w:World)(a:Option Addr)(n c:Nat)(js:List M.Jb):Prop:=∀W:World,(∀p:Addr,B<=p.block->W.cell? p=w.cell? p)->fQ W a n c js
theorem kD.sees{js:List M.Jb}(h:kD B w a n c js):fQ w a n c js:=h w λ_ _=>rfl
open Go.ChangeShapes Go.WideShapes
open Go.ChangeShapes Go.WideShapes
theorem kD.mono{B':Nat}{js:List M.Jb}(h:kD B' w a n c js)(hb:B<=B'):kD B w a n c js:=λW hW=>h W λp hp=>hW p (by omega)
structure xf(B:Nat)(w:World)(a:Option Addr)(n c:Nat)(zs:List Int):Prop where
 sees:aC w a n c zs
 lo:∀x,a=some x->B<=x.block
theorem xf.below(h:xf B w a n c zs)(hb:m1 w w'):xf B w' a n c zs:=⟨h.sees.below hb,h.lo⟩
end
def M.rows(n:Int):Bool:=decide (n=2)||(decide (n=4)||(decide (n=8)||decide (n=16)))
theorem gk{n:Int}(h:M.rows n=true):n=2\/n=4\/n=8\/n=16:=by
 unfold M.rows at h;simpa using h
theorem rA{n:Int}(h:2<=n):((16:Int).tmod n==0)=M.rows n:=by
 by_cases Aa:n<=16
 ·
  obtain⟨k,rfl⟩:=Int.eq_ofNat_of_zero_le (show 0<=n by omega);have hk:k<=16:=(by omega);have Ba:2<=k:=(by omega);clear h Aa;have:k=2\/k=3\/k=4\/k=5\/k=6\/k=7\/k=8\/k=9\/k=10\/k=11\/k=12\/k=13\/k=14\/k=15\/k=16:=by omega
  rcases this with rfl | rfl | rfl | rfl | rfl | rfl | rfl | rfl | rfl | rfl | rfl | rfl | rfl | rfl | rfl <;> rfl
 ·
  have e:(16:Int).tmod n=16:=Int.tmod_eq_of_lt (by omega) (by omega);rw[e];unfold M.rows;simp;omega
theorem jd(n:Int)(w:World):Rq 125 #[it n] w (.bool (M.rows n)):=by
 by_cases h:2<=n
 ·
  have hm:=rA h;have Aa:((16:Int)%n==0)=M.rows n:=(by rw[<-Int.tmod_eq_emod_of_nonneg (by omega)];exact hm);have hz:(n==0)=false:=(by simp;omega);generalize M.rows n=o at *;go_enter func125,ntmps125;go_wp2;go_ret;exact⟨by simp_all,rfl⟩
 ·
  have hm:M.rows n=false:=(by unfold M.rows;simp;omega);rw[hm];go_enter func125,ntmps125;go_wp2;go_ret;exact⟨rfl,rfl⟩
theorem qe(n:Int)(w:World):Rq 104 #[it n,it 16] w (.bool (decide (n=1)||M.rows n)):=by
 go_enter func104,ntmps104;go_wp2
 go_loop [5] (λk=>∃p:Int,k=it p/\(p=1\/(p=2/\n≠1)\/(p=4/\n≠1/\n≠2)\/(p=8/\n≠1/\n≠2/\n≠4)\/(p=16/\n≠1/\n≠2/\n≠4/\n≠8)\/(p=32/\n≠1/\n≠2/\n≠4/\n≠8/\n≠16))) (λk=>(33-intOf k).toNat)
 case atStart=>exact⟨1,rfl,.inl rfl⟩
 case round=>
  obtain⟨p,rfl,hp⟩:=hrel;by_cases Aa:p=32
  ·
   subst Aa;have hm:H7 ((decide (n=1)||M.rows n)=false):=(by show _=_;unfold M.rows;simp;omega);clear hp;go_wp2;go_ret;exact⟨aB hm.o.symm,rfl⟩
  ·
   have Ba:p<=16:=(by omega);have Ca:1<=p:=(by omega);by_cases he:p=n
   ·
    have hm:H7 ((decide (n=1)||M.rows n)=true):=(by show _=_;unfold M.rows;simp;omega);have hb:(p==n)=true:=(by simp[he]);clear hp he;go_wp2;go_ret;exact⟨aB hm.o.symm,rfl⟩
   ·
    have hb:(p==n)=false:=(by simp[he]);have HP:=Hd hp;have HE:H7 (p≠n):=he;clear hp he;go_wp2
    go_round
    case rel=>
     have hp:=HP.o;have he:=HE.o;exact⟨2*p,by go_num,by omega⟩
    case measure=>simp[intOf];omega
theorem fd(n:Int)(w:World):Rq 55 #[it n] w (.bool (M.rows n)):=by
 by_cases h:2<=n
 ·
  have hm:(decide (n=1)||M.rows n)=M.rows n:=by
   have:decide (n=1)=false:=(by simp;omega);rw[this];rfl
  have C1:=qe n;rw[hm]at C1;go_enter func55,ntmps55;(go_wp2_with fail);refine(C1 _).mono ?_;rintro e w1 ⟨rfl,rfl⟩;go_wp2;go_ret;exact⟨rfl,rfl⟩
 ·
  have hm:M.rows n=false:=(by unfold M.rows;simp;omega);rw[hm];go_enter func55,ntmps55;go_wp2;go_ret;exact⟨rfl,rfl⟩
namespace M
def wkOk(x:Int):Bool:=decide (1<=x)&&decide (x<=9)
def bnGo(last:Int):List Int->Bool
 | []=>true
 | x::l=>(decide (last<x)&&wkOk x)&&bnGo x l
def tkOk(now:Int)(t:Tk):Bool:=(decide (t.dC=0)&&decide (t.due=0))||(!t.done&&(wkOk t.dC&&(decide (now+1<=t.due)&&decide (t.due<=now+5))))
def leased(t:Tk):Bool:=decide (t.dC≠0)
def jbOk(now:Int)(j:Jb):Bool:=(j.m.ok&&(M.sOk j.s&&(M.rows j.rows&&(decide (1<=j.ts.length)&&(decide (j.ts.length<=8)&&j.ts.all (tkOk now))))))&&(!j.gone||(!j.ts.any leased&&!j.ts.all (·.done)))
def jsGo(now sr last:Int):List Jb->Bool
 | []=>true
 | j::l=>((decide (last+1<=j.id)&&decide (j.id<=sr-1))&&jbOk now j)&&jsGo now sr j.id l
def wkT(ts:List Tk):List Int:=(ts.filter leased).map (·.dC)
def wks(js:List Jb):List Int:=js.flatMap λj=>wkT j.ts
def mkOk(now sr:Int)(bs:List Int)(js:List Jb):Bool:=
 (decide (0<=now)&&decide (now<=1000000000))&&((decide (1<=sr)&&decide (sr<=1000000000))&&(bnGo 0 bs&&((decide (js.length<=6)&&jsGo now sr 0 js)&&(decide (wks js).Nodup&&!(wks js).any (λx=>bs.contains x)))))
def spK(now:Int)(bs:List Int)(t:Tk):Bool:=if t.done||decide (t.dC=0)then decide (t.dC=0)&&decide (t.due=0)else wkOk t.dC&&(!bs.contains t.dC&&(decide (now<t.due)&&decide (t.due<=now+5)))
def spT(now:Int)(bs:List Int)(gone:Bool)(busy:List Int):List Tk->Bool
 | []=>true
 | t::l=>((spK now bs t&&!(gone&&leased t))&&!(leased t&&busy.contains t.dC))&&spT now bs gone (busy++[t.dC]) l
def spH(sr last:Int)(j:Jb):Bool:=(decide (1<=j.id)&&decide (j.id<=1000000000))&&(decide (j.id<sr)&&(decide (last<j.id)&&(j.m.ok&&(M.sOk j.s&&(M.rows j.rows&&(decide (1<=j.ts.length)&&decide (j.ts.length<=8)))))))
def spJ(now sr:Int)(bs:List Int)(last:Int)(busy:List Int):List Jb->Bool
 | []=>true
 | j::l=>(spH sr last j&&(spT now bs j.gone busy j.ts&&!(j.gone&&j.ts.all (·.done))))&&spJ now sr bs j.id (busy++j.ts.map (·.dC)) l
def spOk(now sr:Int)(bs:List Int)(js:List Jb):Bool:=
 (decide (0<=now)&&decide (now<=1000000000))&&((decide (1<=sr)&&decide (sr<=1000000000))&&(decide (js.length<=6)&&(decide (bs.length<=9)&&(bnGo 0 bs&&spJ now sr bs 0 [] js))))
theorem bnGo_len:∀(bs:List Int) (last:Int),0<=last->bnGo last bs=true->(bs.length:Int)+last<=9\/bs=[]
 | [],_,_,_=>.inr rfl
 | x::l,last,h0,h=>by
  unfold bnGo wkOk at h;simp only[xP,decide_eq_true_eq]at h;obtain⟨⟨h1,h2,h3⟩,h4⟩:=h
  left
  rcases bnGo_len l x (by omega) h4 with e | e
  .rw[List.length_cons];omega
  .subst e;simp;omega
theorem spK_iff(now:Int)(bs:List Int)(t:Tk):spK now bs t=true↔tkOk now t=true/\(leased t=true->t.dC∉bs):=by
 unfold spK tkOk leased wkOk;by_cases hd:t.done=true <;> by_cases hw:t.dC=0 <;> simp[hd,hw]
 constructor
 .rintro⟨h1,h2,h3,h4⟩;exact⟨⟨h1,by omega,h4⟩,h2⟩
 .rintro⟨⟨h1,h3,h4⟩,h2⟩;exact⟨h1,h2,by omega,h4⟩
theorem wkT_cons(t:Tk)(l:List Tk):wkT (t::l)=if leased t=true then t.dC::wkT l else wkT l:=by
 unfold wkT;rw[List.filter_cons];by_cases h:leased t=true <;> simp[h]
theorem wkT_ne{ts:List Tk}(h:x∈wkT ts):x≠0:=by
 unfold wkT at h;obtain⟨t,ht,rfl⟩:=List.mem_map.1 h;have:=(List.mem_filter.1 ht).2;unfold leased at this;simpa using this
theorem wkT_mem{ts:List Tk}:x∈wkT ts↔x≠0/\x∈ts.map (·.dC):=by
 unfold wkT leased;simp only[List.mem_map,List.mem_filter,decide_eq_true_eq]
 constructor
 .rintro⟨t,⟨h1,h2⟩,rfl⟩;exact⟨h2,t,h1,rfl⟩
 .rintro⟨h2,t,h1,rfl⟩;exact⟨t,⟨h1,h2⟩,rfl⟩
theorem spT_iff(now:Int)(bs:List Int)(gone:Bool):∀(ts:List Tk) (busy:List Int),spT now bs gone busy ts=true↔
  (∀t∈ts,tkOk now t=true)/\(gone=true->∀t∈ts,leased t=false)/\(wkT ts).Nodup/\(∀x∈wkT ts,x∉busy)/\(∀x∈wkT ts,x∉bs)
 | [],busy=>by simp[spT,wkT]
 | t::l,busy=>by
  unfold spT;rw[xP,xP,xP,spK_iff,spT_iff now bs gone l];rw[wkT_cons];by_cases hl:leased t=true
  ·
   have hw:t.dC≠0:=(by unfold leased at hl;simpa using hl);rw[if_pos hl];simp only[hl,List.mem_cons,forall_eq_or_imp,List.nodup_cons,Bool.and_true,Bool.true_and,Bool.not_eq_true',List.contains_eq_mem,decide_eq_false_iff_not,xw,List.not_mem_nil,or_false,not_or]
   constructor
   ·
    rintro⟨⟨⟨⟨h1,h2⟩,h3⟩,h4⟩,h5,h6,h7,h8,h9⟩;exact⟨⟨h1,h5⟩,λhg=>by simp[hg]at h3,⟨λhm=>(h8 _ hm).2 rfl,h7⟩,⟨h4,λx hx=>(h8 x hx).1⟩,h2 trivial,h9⟩
   ·
    rintro⟨⟨h1,h5⟩,h3,⟨h4,h7⟩,⟨h6,h8⟩,h2,h9⟩;refine⟨⟨⟨⟨h1,λ_=>h2⟩,?_⟩,h6⟩,h5,λhg=>(h3 hg).2,h7,λx hx=>⟨h8 x hx,λe=>h4 (e ▸ hx)⟩,h9⟩
    cases gone
    .rfl
    .exact absurd (h3 rfl).1 (by simp)
  ·
   have hf:leased t=false:=(by simpa using hl);have hw:t.dC=0:=(by unfold leased at hf;simpa using hf);rw[if_neg hl];simp only[hf,List.mem_cons,forall_eq_or_imp,Bool.and_false,Bool.false_and,Bool.not_false,and_true,true_and,Bool.false_eq_true,false_implies,xw,List.not_mem_nil,or_false,not_or]
   constructor
   ·
    rintro⟨h1,h5,h6,h7,h8,h9⟩;exact⟨⟨h1,h5⟩,h6,h7,λx hx=>(h8 x hx).1,h9⟩
   ·
    rintro⟨⟨h1,h5⟩,h6,h7,h8,h9⟩;exact⟨h1,h5,h6,h7,λx hx=>⟨h8 x hx,λe=>wkT_ne hx (e.trans hw)⟩,h9⟩
theorem spJ_iff(now sr:Int)(bs:List Int)(hn:sr<=1000000000):∀(js:List Jb) (last:Int) (busy:List Int),0<=last->(spJ now sr bs last busy js=true↔
  jsGo now sr last js=true/\(wks js).Nodup/\(∀x∈wks js,x∉busy)/\(∀x∈wks js,x∉bs))
 | [],_,_,_=>by simp[spJ,jsGo,wks]
 | j::l,last,busy,h0=>by
  by_cases hid:last+1<=j.id/\j.id<=sr-1
  ·
   have ih:=spJ_iff now sr bs hn l j.id (busy++j.ts.map (·.dC)) (by omega);unfold spJ jsGo;have hw:wks (j::l)=wkT j.ts++wks l:=by simp[wks]
   have hh:spH sr last j=(j.m.ok&&(M.sOk j.s&&(M.rows j.rows&&(decide (1<=j.ts.length)&&decide (j.ts.length<=8))))):=by
    unfold spH;rw[show decide (1<=j.id)=true by simp;omega,show decide (j.id<=1000000000)=true by simp;omega,show decide (j.id<sr)=true by simp;omega,show decide (last<j.id)=true by simp;omega]
    rfl
   have Aa:∀x∈wks l,x≠0:=λx hx=>by
    unfold wks at hx;obtain⟨q,_,hq⟩:=xI.1 hx;exact wkT_ne hq
   rw[xP,xP,xP,spT_iff,ih,hh,hw,List.nodup_append];unfold jbOk;simp only[xP,decide_eq_true_eq,List.all_eq_true,Bool.or_eq_true,Bool.not_eq_true',xw,not_or];have Ba:j.ts.any leased=false↔∀t∈j.ts,leased t=false:=(by simp);rw[Ba]
   constructor
   ·
    rintro⟨⟨⟨a1,a2,a3,a4,a5⟩,⟨b1,b2,b3,b4,b5⟩,c⟩,d1,d2,d3,d4⟩;refine⟨⟨⟨hid,⟨a1,a2,a3,a4,a5,b1⟩,?_⟩,d1⟩,⟨b3,d2,λx hx y hy e=>?_⟩,?_,?_⟩
    ·
     cases hg:j.gone
     .exact .inl rfl
     .rw[hg]at c;exact .inr ⟨b2 hg,by simpa using c⟩
    .subst e;exact(d3 x hy).2 (wkT_mem.1 hx).2
    ·
     rintro x (h | h)
     .exact b4 x h
     .exact(d3 x h).1
    ·
     rintro x (h | h)
     .exact b5 x h
     .exact d4 x h
   ·
    rintro⟨⟨⟨-,⟨a1,a2,a3,a4,a5,b1⟩,g⟩,d1⟩,⟨b3,d2,e⟩,f1,f2⟩;refine⟨⟨⟨a1,a2,a3,a4,a5⟩,⟨b1,λhg=>?_,b3,λx hx=>f1 x (.inl hx),λx hx=>f2 x (.inl hx)⟩,?_⟩,d1,d2,λx hx=>⟨f1 x (.inr hx),λhm=>e x (wkT_mem.2 ⟨Aa x hx,hm⟩) x hx rfl⟩,λx hx=>f2 x (.inr hx)⟩
    ·
     rcases g with g | g
     .rw[hg]at g;cases g
     .exact g.1
    ·
     rcases g with g | g
     .rw[g];rfl
     .rw[g.2];simp
  ·
   constructor
   ·
    intro h;unfold spJ spH at h;simp only[xP,decide_eq_true_eq]at h;exact absurd ⟨by omega,by omega⟩ hid
   ·
    rintro⟨h,-⟩;unfold jsGo at h;simp only[xP,decide_eq_true_eq]at h;exact absurd h.1.1 hid
theorem spOk_eq(now sr:Int)(bs:List Int)(js:List Jb):spOk now sr bs js=mkOk now sr bs js:=by
 rw[Bool.eq_iff_iff];unfold spOk mkOk;simp only[xP,decide_eq_true_eq];have Aa:(!(wks js).any (λx=>bs.contains x))=true↔∀x∈wks js,x∉bs:=(by simp);rw[Aa]
 constructor
 ·
  rintro⟨a,⟨b1,b2⟩,c,d,e,f⟩;obtain⟨f1,f2,-,f4⟩:=(spJ_iff now sr bs b2 js 0 [] (by omega)).1 f;exact⟨a,⟨b1,b2⟩,e,⟨c,f1⟩,f2,f4⟩
 ·
  rintro⟨a,⟨b1,b2⟩,e,⟨c,f1⟩,f2,f4⟩;refine⟨a,⟨b1,b2⟩,c,?_,e,(spJ_iff now sr bs b2 js 0 [] (by omega)).2 ⟨f1,f2,λ_ _=>List.not_mem_nil,f4⟩⟩
  rcases bnGo_len bs 0 (by omega) e with h | h
  .omega
  .subst h;simp
end M
theorem aX{α:Type}{l:List α}(d:α)(hl:l.length=n)(h:k<n):l.drop k=l.getD k d::l.drop (k+1):=by
 rw[List.drop_eq_getElem_cons (by omega),m5,m9 (by omega)];rfl
theorem cI(n lo hi:Int)(w:World):Rq 90 #[it n,it lo,it hi] w (.bool (decide (lo<=n)&&decide (n<=hi))):=by
 by_cases h1:lo<=n
 ·
  go_enter func90,ntmps90;go_wp2;go_ret;exact⟨by simp[h1],rfl⟩
 ·
  go_enter func90,ntmps90;go_wp2;go_ret;exact⟨by simp;omega,rfl⟩
theorem eR(n:Int)(w:World):Rq 141 #[it n] w (.bool (M.wkOk n)):=by
 go_enter func141,ntmps141;(go_wp2_with fail);refine(cI _ _ _ _).mono ?_;rintro e wz ⟨rfl,rfl⟩;go_wp2;go_ret;exact⟨rfl,rfl⟩
theorem eN(t:M.Tk)(w:World):Rt 143 #[nt t] w (.bool (M.leased t)):=by
 have h:M.leased t=(t.dC != 0):=(by unfold M.leased;by_cases e:t.dC=0 <;> simp[e]);rw[h];obtain⟨d,x,y⟩:=t;dsimp only[nt];have HB:H7 (m1 w (w.alloc (.cells (fp d x y).toArray 75))):=(m8 _ _).alloc (m3 _) _;go_enter func143,ntmps143;go_wp2;go_ret;exact⟨rfl,HB.o⟩
theorem nM(w:World)(hz:aC w a n c zs):
  Rq 91 #[.slice a n c] w (.bool (M.bnGo 0 zs)):=by
 have bn:(n:Int)<=9223372036854775807:=(by have:=hz.big;have:=hz.le;omega);have HZ:=Hd hz;clear hz;generalize hR:M.bnGo 0 zs=R;have HR:=Hd hR;clear hR;go_enter func91,ntmps91;go_wp2
 go_loop [3,8] (λl i=>∃(k:Nat) (q:Int),k<=n/\i=it k/\l=it q/\M.bnGo q (zs.drop k)=R) (λ_ i=>n-(intOf i).toNat)
 case atStart=>exact⟨0,0,by omega,rfl,rfl,HR.o⟩
 case round=>
  obtain⟨k,q,hk,rfl,rfl,hg⟩:=hrel;by_cases Ba:k<n
  ·
   obtain⟨b1,o1,rfl,Ca⟩:=HZ.o.at (by omega);have c1:=Ca k Ba
   have hG:((decide (q<zs.getD k 0)&&M.wkOk (zs.getD k 0))&&M.bnGo (zs.getD k 0) (zs.drop (k+1)))=R:=by
    rw[<-hg,aX 0 HZ.o.len Ba];rfl
   clear Ca hg;have C1:=eR (zs.getD k 0);generalize zs.getD k 0=x at c1 hG C1;have HG:=Hd hG;clear hG;have hI:(k:Int)<(n:Int):=(by omega);by_cases hx:x<=q
   ·
    have Ea:H7 (false=R):=(by show false=R;have:=HG.o;rw[show decide (q<x)=false by simp;omega]at this;simpa using this);go_wp2;go_ret;exact⟨aB Ea.o,rfl⟩
   ·
    have hx':q<x:=(by omega);have Aa:H7 ((M.wkOk x&&M.bnGo x (zs.drop (k+1)))=R):=(by show _=_;have:=HG.o;rw[show decide (q<x)=true by simp;omega]at this;simpa using this);clear HG;generalize M.wkOk x=ow at C1 Aa;(go_wp2_with fail);refine(C1 _).mono ?_;rintro e wz ⟨rfl,Da⟩;have Fa:=Da.symm;clear Da;subst Fa
    cases ow with
    | false=>
     go_wp2;go_ret;exact⟨aB Aa.o,rfl⟩
    | true=>
     have Ga:H7 (M.bnGo x (zs.drop (k+1))=R):=(by show _=_;have:=Aa.o;simpa using this);go_wp2
     go_round
     case rel=>exact⟨k+1,x,by omega,by go_num,rfl,Ga.o⟩
     case measure=>simp[intOf];omega
  ·
   go_wp2;go_ret;refine⟨aB ?_,rfl⟩;rw[t' (by rw[HZ.o.len];omega)]at hg;exact hg
theorem sQ(t:M.Tk)(now:Int)(h0:0<=now)(h1:now<=1000000000)(w:World):Rt 201 #[nt t,it now] w (.bool (M.tkOk now t)):=by
 unfold M.tkOk;obtain⟨d,x,y⟩:=t;dsimp only[nt];have C1:=eR x;have C2:=cI y (now+1) (now+5);have HB:H7 (m1 w (w.alloc (.cells (fp d x y).toArray 75))):=(m8 _ _).alloc (m3 _) _;generalize M.wkOk x=ow at *;generalize(decide (now+1<=y)&&decide (y<=now+5))=od at *;by_cases hx:x=0
 ·
  by_cases hy:y=0
  ·
   subst hx;subst hy;go_enter func201,ntmps201;go_wp2;go_ret;exact⟨by simp,HB.o⟩
  ·
   subst hx;have gy:(y==0)=false:=(by simp[hy]);go_enter func201,ntmps201
   cases d with
   | true=>
    go_wp2;go_ret;exact⟨by simp;omega,HB.o⟩
   | false=>
    (go_wp2_with fail);refine(C1 _).mono ?_;rintro e wz ⟨rfl,Aa⟩;have Ba:=Aa.symm;clear Aa;subst Ba
    cases ow with
    | false=>
     go_wp2;go_ret;exact⟨by simp;omega,HB.o⟩
    | true=>
     (go_wp2_with fail);refine(C2 _).mono ?_;rintro e wz ⟨rfl,Aa⟩;have Ba:=Aa.symm;clear Aa;subst Ba;go_wp2;go_ret;refine⟨?_,HB.o⟩;have Ca:¬ y=0:=(by omega);simp[Ca]
 ·
  have gx:(x==0)=false:=(by simp[hx]);go_enter func201,ntmps201
  cases d with
  | true=>
   go_wp2;go_ret;exact⟨by simp;omega,HB.o⟩
  | false=>
   (go_wp2_with fail);refine(C1 _).mono ?_;rintro e wz ⟨rfl,Aa⟩;have Ba:=Aa.symm;clear Aa;subst Ba
   cases ow with
   | false=>
    go_wp2;go_ret;exact⟨by simp;omega,HB.o⟩
   | true=>
    (go_wp2_with fail);refine(C2 _).mono ?_;rintro e wz ⟨rfl,Aa⟩;have Ba:=Aa.symm;clear Aa;subst Ba;go_wp2;go_ret;refine⟨?_,HB.o⟩;have Ca:(decide (x=0)&&decide (y=0))=false:=(by simp;omega);rw[Ca];simp
theorem qG{ts:List M.Tk}(now:Int)(h0:0<=now)(h1:now<=1000000000)(w:World)(hz:bS w a n c ts):
  Rt 184 #[.slice a n c,it now] w (.bool (decide (1<=n)&&(decide (n<=8)&&ts.all (M.tkOk now)))):=by
 have bn:(n:Int)<=9223372036854775807:=(by have:=hz.big;have:=hz.le;omega);have HZ:=Hd hz;clear hz;by_cases hs:1<=n/\n<=8
 ·
  obtain⟨Ga,Ha⟩:=hs;have Ja:(1:Int)<=(n:Int):=(by omega);have Ka:(n:Int)<=8:=(by omega);rw[show decide (1<=n)=true by simpa using Ga,show decide (n<=8)=true by simpa using Ha,Bool.true_and,Bool.true_and];generalize hR:ts.all (M.tkOk now)=R;have HR:=Hd hR;clear hR;go_enter func184,ntmps184;go_wp2
  go_loopw [17] (λi wr=>∃k:Nat,k<=n/\i=it k/\(ts.drop k).all (M.tkOk now)=R/\m1 w wr) (λi _=>n-(intOf i).toNat)
  case atStart=>exact⟨0,by omega,rfl,HR.o,m8 _ _⟩
  case round=>
   obtain⟨k,hk,rfl,hg,Ba⟩:=hrel;have Aa:=Hd Ba;clear Ba;by_cases Ca:k<n
   ·
    obtain⟨b1,o1,rfl,Da⟩:=(HZ.o.below Aa.o).at (by omega)
    have hG:(M.tkOk now (ts.getD k M.t0)&&(ts.drop (k+1)).all (M.tkOk now))=R:=by
     rw[<-hg,aX M.t0 HZ.o.len Ca];rfl
    have hA:=Da k Ca;have C1:=sQ (ts.getD k M.t0) now h0 h1;generalize ts.getD k M.t0=x at hA hG C1;obtain⟨d,x,y⟩:=x;dsimp only[nt]at C1;have HG:=Hd hG;have a0:wr.cell? ⟨b1,o1+k*3,none⟩=some (.bool d):=hA 0 (by omega);have a1:wr.cell? ⟨b1,o1+k*3+1,none⟩=some (it x):=hA 1 (by omega);have a2:wr.cell? ⟨b1,o1+k*3+2,none⟩=some (it y):=hA 2 (by omega);clear Da hA hg hG;generalize M.tkOk now ⟨d,x,y⟩=ow at C1 HG;have hI:(k:Int)<(n:Int):=(by omega);(go_wp2_with fail);refine(C1 _).mono ?_;rintro e w2 ⟨rfl,Ea⟩;have Fa:=Hd ((Aa.o.alloc Aa.o.size _).trans (Ea.mono (Aa.o.alloc Aa.o.size _).size));clear Ea
    cases ow with
    | false=>
     go_wp2;go_ret;exact⟨aB HG.o,Fa.o⟩
    | true=>
     have Ia:H7 ((ts.drop (k+1)).all (M.tkOk now)=R):=(by show _=_;have:=HG.o;simpa using this);go_wp2;go_roundw
     case rel=>exact⟨k+1,by omega,by go_num,Ia.o,Fa.o⟩
     case measure=>simp[intOf];omega
   ·
    go_wp2;go_ret;refine⟨aB ?_,Aa.o⟩;rw[t' (by rw[HZ.o.len];omega)]at hg;exact hg
 ·
  have hF:(decide (1<=n)&&(decide (n<=8)&&ts.all (M.tkOk now)))=false:=by
   by_cases h:1<=n
   .rw[show decide (n<=8)=false by simp;omega];simp
   .rw[show decide (1<=n)=false by simp;omega];rfl
  rw[hF];by_cases h:1<=n
  ·
   have g1:(8:Int)<(n:Int):=(by omega);have g2:¬ (n:Int)<1:=(by omega);go_enter func184,ntmps184;go_wp2;go_ret;exact⟨rfl,m8 _ _⟩
  ·
   have g1:(n:Int)<1:=(by omega);go_enter func184,ntmps184;go_wp2;go_ret;exact⟨rfl,m8 _ _⟩
theorem ky{ts:List M.Tk}(w:World)(hz:bS w a n c ts):
  Calls prog 151 #[.slice a n c,.func (.func 143) #[] #[]] w λe w'=>∃r:Int,e=.returned (it r)/\decide (0<=r)=ts.any M.leased/\m1 w w':=by
 have bn:(n:Int)<=9223372036854775807:=(by have:=hz.big;have:=hz.le;omega);have Ha:(n:Int)<=c:=(by have:=hz.le;omega);have HZ:=Hd hz;clear hz;generalize hR:ts.any M.leased=R;have HR:=Hd hR;clear hR;go_enter func151,ntmps151;go_wp2
 go_loopw [8] (λi wr=>∃k:Nat,k<=n/\i=it k/\(ts.drop k).any M.leased=R/\m1 w wr) (λi _=>n-(intOf i).toNat)
 case atStart=>exact⟨0,by omega,rfl,HR.o,m8 _ _⟩
 case round=>
  obtain⟨k,hk,rfl,hg,Ba⟩:=hrel;have Aa:=Hd Ba;clear Ba;by_cases Ca:k<n
  ·
   obtain⟨b1,o1,rfl,Da⟩:=(HZ.o.below Aa.o).at (by omega)
   have hG:(M.leased (ts.getD k M.t0)||(ts.drop (k+1)).any M.leased)=R:=by
    rw[<-hg,aX M.t0 HZ.o.len Ca];rfl
   have hA:=Da k Ca;have C1:=eN (ts.getD k M.t0);generalize ts.getD k M.t0=x at hA hG C1;obtain⟨d,x,y⟩:=x;dsimp only[nt]at C1;have HG:=Hd hG;have a0:wr.cell? ⟨b1,o1+k*3,none⟩=some (.bool d):=hA 0 (by omega);have a1:wr.cell? ⟨b1,o1+k*3+1,none⟩=some (it x):=hA 1 (by omega);have a2:wr.cell? ⟨b1,o1+k*3+2,none⟩=some (it y):=hA 2 (by omega);clear Da hA hg hG;generalize M.leased ⟨d,x,y⟩=ow at C1 HG;have hI:(k:Int)<(n:Int):=(by omega);(go_wp2_with fail);refine(C1 _).mono ?_;rintro e w2 ⟨rfl,Ea⟩;have Fa:=Aa.t Ea;clear Ea
   cases ow with
   | true=>
    go_wp2;go_ret;refine⟨_,rfl,?_,Fa.o⟩;have:=HG.o;rw[Bool.true_or]at this;rw[<-this];simp
   | false=>
    have Ga:H7 ((ts.drop (k+1)).any M.leased=R):=(by show _=_;have:=HG.o;simpa using this);go_wp2;go_roundw
    case rel=>exact⟨k+1,by omega,by go_num,Ga.o,Fa.o⟩
    case measure=>simp[intOf];omega
  ·
   go_wp2;go_ret;refine⟨_,rfl,?_,Aa.o⟩;rw[t' (by rw[HZ.o.len];omega)]at hg;rw[<-hg];rfl
theorem iX{ts:List M.Tk}(w:World)(hz:bS w a n c ts):
  Rt 150 #[.slice a n c,.func (.func 143) #[] #[]] w (.bool (ts.any M.leased)):=by
 have HZ:=Hd hz;clear hz;go_enter func150,ntmps150;(go_wp2_with fail);refine(ky _ HZ.o).mono ?_;rintro e w1 ⟨r,rfl,hr,hb⟩;have HR:=Hd hr;have HB:=Hd hb;clear hr hb;go_wp2;go_ret;exact⟨aB HR.o,HB.o⟩
theorem nA{ts:List M.Tk}(d:M.Tk)(hl:ts.length=n)(h:k<n):((ts.take (k+1)).filter (·.done)).length=(if(ts.getD k d).done=true then((ts.take k).filter (·.done)).length+1 else((ts.take k).filter (·.done)).length):=by
 rw[xA (by omega),List.filter_append,xS,m5,m9 (by omega)];by_cases e:ts[k].done=true <;> simp[e]
set_option maxRecDepth 10000 in
theorem tQ(m:Nat)(t:M.Tk)(hm:(m:Int)+1<=9223372036854775807)(w:World):Rt 188 #[it m,nt t] w (it ((if t.done=true then m+1 else m:Nat):Int)):=by
 obtain⟨d,x,y⟩:=t;dsimp only[nt];have HB:H7 (m1 w (w.alloc (.cells (fp d x y).toArray 75))):=(m8 _ _).alloc (m3 _) _
 cases d with
 | true=>
  rw[if_pos rfl];have hc:((m+1:Nat):Int)=(m:Int)+1:=(by omega);rw[hc];clear hc;go_enter func188,ntmps188;go_wp2;go_ret;exact⟨rfl,HB.o⟩
 | false=>
  rw[if_neg (by decide)];go_enter func188,ntmps188;go_wp2;go_ret;exact⟨rfl,HB.o⟩
theorem nS{ts:List M.Tk}(w:World)(hz:bS w a n c ts):
  Rt 187 #[.slice a n c,it 0,.func (.func 188) #[] #[]] w (it ((ts.filter (·.done)).length:Nat)):=by
 have bn:(n:Int)<=9223372036854775807:=(by have:=hz.big;have:=hz.le;omega);have Ha:(n:Int)<=c:=(by have:=hz.le;omega);have HZ:=Hd hz;clear hz;go_enter func187,ntmps187;go_wp2
 go_loopw [1,11] (λl i wr=>∃k:Nat,k<=n/\i=it k/\l=it (((ts.take k).filter (·.done)).length:Nat)/\m1 w wr) (λ_ i _=>n-(intOf i).toNat)
 case atStart=>exact⟨0,by omega,rfl,rfl,m8 _ _⟩
 case round=>
  obtain⟨k,hk,rfl,rfl,Ba⟩:=hrel;have Aa:=Hd Ba;clear Ba;by_cases Ca:k<n
  ·
   obtain⟨b1,o1,rfl,Da⟩:=(HZ.o.below Aa.o).at (by omega);have hG:=nA M.t0 HZ.o.len Ca;have Fa:((ts.take k).filter (·.done)).length<=k:=tr (List.length_filter_le _ _) (by rw[xW];omega);have hA:=Da k Ca;generalize ts.getD k M.t0=x at hA hG;obtain⟨d,x,y⟩:=x;dsimp only at hG;generalize((ts.take k).filter (·.done)).length=m at hG Fa;have HG:=Hd hG;have a0:wr.cell? ⟨b1,o1+k*3,none⟩=some (.bool d):=hA 0 (by omega);have a1:wr.cell? ⟨b1,o1+k*3+1,none⟩=some (it x):=hA 1 (by omega);have a2:wr.cell? ⟨b1,o1+k*3+2,none⟩=some (it y):=hA 2 (by omega);clear Da hA hG;have hI:(k:Int)<(n:Int):=(by omega);have Ia:(m:Int)+1<=9223372036854775807:=(by omega);(go_wp2_with fail);refine(tQ m ⟨d,x,y⟩ (by omega) _).mono ?_;rintro e w2 ⟨rfl,Ea⟩;have Ga:=Hd ((Aa.o.alloc Aa.o.size _).trans (Ea.mono (Aa.o.alloc Aa.o.size _).size));clear Ea;go_wp2;go_roundw
   case rel=>
    refine⟨k+1,by omega,by go_num,?_,Ga.o⟩;rw[HG.o]
   case measure=>simp[intOf];omega
  ·
   go_wp2;go_ret;refine⟨?_,Aa.o⟩;rw[xt (by rw[HZ.o.len];omega)]
   rfl
theorem lR{ts:List M.Tk}(w:World)(hc:w.cell? ⟨jb,17,none⟩=some (.slice a n c))(hz:bS w a n c ts):
  Rt 148 #[tG jb] w (it ((ts.filter (·.done)).length:Nat)):=by
 have CF:=nS w hz;generalize(ts.filter (·.done)).length=m at *;clear hz;go_enter func148,ntmps148;(go_wp2_with fail);refine CF.mono ?_;rintro e w1 ⟨rfl,hb⟩;have HB:=Hd hb;clear hb;go_wp2;go_ret;exact⟨rfl,HB.o⟩
theorem oK{ts:List M.Tk}(hl:ts.length=n):(((ts.filter (·.done)).length:Nat)==n)=ts.all (·.done):=by
 subst hl;rw[Bool.eq_iff_iff,beq_iff_eq,List.all_eq_true]
 constructor
 ·
  intro h t ht;have:=List.filter_eq_self.1 ((List.filter_sublist (p:=λt:M.Tk=>t.done) (l:=ts)).eq_of_length h);exact this t ht
 ·
  intro h;rw[List.filter_eq_self.2 h]
theorem gV{ts:List M.Tk}(w:World)(hc:w.cell? ⟨jb,17,none⟩=some (.slice a n c))(hz:bS w a n c ts):
  Rt 95 #[tG jb] w (.bool (ts.all (·.done))):=by
 have CD:∀W,W.cell? ⟨jb,17,none⟩=some (.slice a n c)->bS W a n c ts->Rt 148 #[tG jb] W (it ((ts.filter (·.done)).length:Nat)):=λW h1 h2=>lR W h1 h2;have HA:=Hd (oK hz.len);have bn:(n:Int)<=9223372036854775807:=(by have:=hz.big;have:=hz.le;omega);generalize(ts.filter (·.done)).length=m at HA CD;generalize ts.all (·.done)=oa at *;have Fa:((m:Int)==(n:Int))=oa:=(by rw[<-HA.o,Bool.eq_iff_iff,beq_iff_eq,beq_iff_eq];omega);go_enter func95,ntmps95;(go_wp2_with fail);have Ca:=Hd hz;clear hz;refine cP w none (by kernel_rfl) λhHeld=>?_;generalize w.drew=Ga at *;have Ha:H7 (m1 w Ga):=⟨hHeld.os,hHeld.tape,hHeld.output,hHeld.size,λk hk=>hHeld.block k hk (by simp)⟩;refine tE 0 (tG jb) ?_;refine tE 2 (tG jb) ?_;refine tE 3 (tG jb) ?_;refine tE 4 (.pointer (some ⟨jb,17,none⟩)) ?_;refine tk 5 (.slice a n c) ?_ ?_
 .intro wp Ia;have c0:=Ia.cell hc (by simp);go_simp
 refine tE 6 (it n) ?_;refine aT 1 λKk hK=>?_;go_simp;refine(CD _ (hHeld.cell hc (by simp)) (Ca.o.below Ha.o)).mono ?_;rintro e Da ⟨rfl,Ea⟩;go_simp;have Ba:=aH hHeld Ea;have Ja:H7 (m1 w Da):=⟨Ba.os,Ba.tape,Ba.output,Ba.size,λk hk=>Ba.block k hk (by simp)⟩;refine hK.out _ _ Ba (λ_=>?_);clear hK Kk Ea;refine tE 7 (.bool ((m:Int)==(n:Int))) ?_;rw[Fa];refine tE 8 (.bool oa) ?_;refine bi ?_;go_simp;clear Ca;go_wp2;go_ret;exact⟨rfl,Ja.o⟩
set_option maxRecDepth 10000 in
theorem tY{ta:Option Addr}{tn tc:Nat}{tl:List M.Tk}(jid a b c d f k a' b' c' d' f' k' s1 s2 jr:Int)(jg:Bool)(now:Int)(h0:0<=now)(h1:now<=1000000000)(w:World)(hz:bS w ta tn tc tl):
  Rt 142 #[.agg #[it jid,it a,it b,it c,it d,it f,it k,it a',it b',it c',it d',it f',it k',it s1,it s2,it jr,.bool jg,.slice ta tn tc],it now] w (.bool (M.jbOk now ⟨jid,⟨⟨a,b,c,d,f,k⟩,⟨a',b',c',d',f',k'⟩⟩,(s1,s2),jr,jg,tl⟩)):=by
 have hl:=hz.len;have C1:=fz ⟨⟨a,b,c,d,f,k⟩,⟨a',b',c',d',f',k'⟩⟩;have C2:=dL (s1,s2);have C3:=jd jr;have HZ:=Hd hz;unfold M.jbOk;dsimp only[dp,dd]at C1 C2 |-;rw[hl];have C4:∀W,bS W ta tn tc tl->Rt 184 #[.slice ta tn tc,it now] W (.bool (decide (1<=tn)&&(decide (tn<=8)&&tl.all (M.tkOk now)))):=λW h=>qG now h0 h1 W h;generalize(decide (1<=tn)&&(decide (tn<=8)&&tl.all (M.tkOk now)))=o4 at *;generalize M.rows jr=o3 at *;generalize M.sOk (s1,s2)=o2 at *;generalize M.Mc.ok ⟨⟨a,b,c,d,f,k⟩,⟨a',b',c',d',f',k'⟩⟩=o1 at *;have C5:∀W,bS W ta tn tc tl->Rt 150 #[.slice ta tn tc,.func (.func 143) #[] #[]] W (.bool (tl.any M.leased)):=λW h=>iX W h;have C6:∀W,W.cell? ⟨w.heap.size,17,none⟩=some (.slice ta tn tc)->bS W ta tn tc tl->Rt 95 #[tG w.heap.size] W (.bool (tl.all (·.done))):=λW h1 h2=>gV W h1 h2;generalize tl.any M.leased=o5 at *;generalize tl.all (·.done)=o6 at *;clear hz;go_enter func142,ntmps142;have Ja:=cQ w (bO jid a b c d f k a' b' c' d' f' k' s1 s2 jr jg ta tn tc) 70;have Ia:H7 (m1 w (w.alloc (.cells (bO jid a b c d f k a' b' c' d' f' k' s1 s2 jr jg ta tn tc).toArray 70))):=(m8 _ _).alloc (m3 _) _;(go_wp2_with fail);generalize(w.alloc (.cells (bO jid a b c d f k a' b' c' d' f' k' s1 s2 jr jg ta tn tc).toArray 70))=wa at *;refine(C1 _).mono ?_;rintro e wb ⟨rfl,hb⟩;have Ea:=Ja.b hb;have Fa:=Ia.t hb;clear Ja Ia;clear hb
 cases o1 with
 | false=>
  go_wp2;go_ret;exact⟨by simp,Fa.o⟩
 | true=>
  have Na:=Ea.c 13;have Oa:=Ea.c 14;(go_wp2_with fail);clear Na Oa;refine(C2 _).mono ?_;rintro e wc ⟨rfl,hb⟩;have Ga:=Ea.b hb;have Aa:=Fa.t hb;clear Ea Fa;clear hb
  cases o2 with
  | false=>
   go_wp2;go_ret;exact⟨by simp,Aa.o⟩
  | true=>
   have Pa:=Ga.c 15;(go_wp2_with fail);clear Pa;refine(C3 _).mono ?_;rintro e wz ⟨rfl,Ka⟩;have Qa:=Ka.symm;clear Ka;subst Qa
   cases o3 with
   | false=>
    go_wp2;go_ret;exact⟨by simp,Aa.o⟩
   | true=>
    have Ca:=Ga.c 17;(go_wp2_with fail);clear Ca;refine(C4 _ (HZ.o.below Aa.o)).mono ?_;rintro e wd ⟨rfl,hb⟩;have Ha:=Ga.b hb;have Ba:=Aa.t hb;clear Ga Aa;clear hb
    cases o4 with
    | false=>
     go_wp2;go_ret;exact⟨by simp,Ba.o⟩
    | true=>
     have Ra:=Ha.c 16;have Ca:=Ha.c 17
     cases jg with
     | false=>
      go_wp2;go_ret;exact⟨by simp,Ba.o⟩
     | true=>
      (go_wp2_with fail);clear Ra Ca;refine(C5 _ (HZ.o.below Ba.o)).mono ?_;rintro e we ⟨rfl,hb⟩;have La:=Ha.b hb;have Da:=Ba.t hb;clear Ha Ba;clear hb
      cases o5 with
      | true=>
       go_wp2;go_ret;exact⟨by simp,Da.o⟩
      | false=>
       have Ca:=La.c 17;(go_wp2_with fail);refine(C6 _ Ca (HZ.o.below Da.o)).mono ?_;rintro e wf ⟨rfl,hb⟩;have Sa:=Da.t hb;clear La Da;clear hb;go_wp2;go_ret;exact⟨by simp,Sa.o⟩
section
variable {P:Program} {ops:Array Oper} {rest:List Oper} {o:Oper} {a:Act} {w:World} {Q:Exit->Act->World->Prop}
theorem mu(hw:Region.wanted o (yielded ops a.tmps)=true)
 (h:∀K:Act->World->Prop,(∀a w,wpList P ops Q rest a w->K a w)->o.wp P a w K Q):wpList P ops Q (o::rest) a w:=
 wpList_step λK hK=>by simp only[hw,if_true];exact h K hK
theorem bJ(hw:Region.wanted o (yielded ops a.tmps)=true)(ty:TypeId)(x:Operand)(ho:o.op=.load ty x)
 (b i:Nat)(hx:a.eval x=.pointer (some ⟨b,i,none⟩))(cs:List Value)(d:TypeDesc)(hc:w.rangeAt b i cs)
 (hu:P.underlying ty=some d)(hd:d.isRow=true)(hi:(P.info? ty).map (·.size)=some cs.length)
 (h:wpList P ops Q rest (a.put o.dst (.agg cs.toArray)) w):wpList P ops Q (o::rest) a w:=
 mu hw λ_ hK=>wp_load_mid ty x ho b i hx cs d hc hu hd hi (hK _ _ h)
end
theorem nH(h:R.length=f.length):R=M.tab f.length (M.restAt R g q i 0):=
 M.tab_ext h λt _=>by unfold M.restAt;rw[if_neg (by omega)]
theorem ry(R g:List Int)(q:Int)(i j:Nat):M.restAt R g q i j (i+j)=R.getD (i+j) 0:=by unfold M.restAt;rw[if_neg (by omega)]
theorem pD{N:Nat}:(M.tab N (M.restAt R g q i j)).set (i+j) ((R.getD (i+j) 0+(65537-q)*g.getD j 0)%65537)=M.tab N (M.restAt R g q i (j+1)):=by
 rw[d7];apply bv;intro t _;unfold M.restAt;by_cases e:t=i+j
 ·
  subst e;rw[if_pos rfl,if_pos (by omega),Nat.add_sub_cancel_left]
 ·
  rw[if_neg e];by_cases h2:i<=t/\t<i+j
  .rw[if_pos h2,if_pos (by omega)]
  .rw[if_neg h2,if_neg (by omega)]
theorem tD{y:Int}(q0:0<=q)(q1:q<65537)(y0:0<=y)(y1:y<65537):0<=(65537-q)*y/\(65537-q)*y<=4295032832:=by
 refine⟨Int.mul_nonneg (by omega) y0,?_⟩;have h1:(65537-q)*y<=65537*y:=Int.mul_le_mul_of_nonneg_right (by omega) y0;omega
theorem lX(w:World)(hz:aC w a n c zs)(hy:aC w b m d ys)(ha:M.allEl zs=true)(hb:M.allEl ys=true)(ny:M.neat ys)(hn:n<=128)(h1:0<m)(hmn:m<=n):
  Calls prog 84 #[.slice a n c,.slice b m d] w λe w'=>∃a1 l1 c1 a2 l2 c2 q r,e=.returned (.tuple #[.slice a1 l1 c1,.slice a2 l2 c2])/\aA 2 w' w.heap.size a1 l1 c1 q/\aA 2 w' w.heap.size a2 l2 c2 r/\M.Div zs ys q r/\(∀x y,a1=some x->a2=some y->x.block≠y.block)/\m1 w w':=by
 obtain⟨b1,o1,rfl,Qc⟩:=hz.at (by omega);obtain⟨b2,o2,rfl,Fa⟩:=hy.at h1;have l2:b2<w.heap.size:=xJ w _ (Fa 0 h1);have Wa:=Hd Fa;have HZ:=Hd hz;have Ba:=Hd hz.len;have Aa:=Hd hy.len;have HA:=Hd ha;have HB:=Hd hb
 have gl:ys.getD (m-1) 0≠0:=by
  rcases ny with e | e
  .rw[hy.len]at e;omega
  .rw[hy.len]at e;exact e
 have Xa:=Hd gl;have HL:H7 ((zs.map (Value.int .i64)).length=n*1):=(by show _=_;rw[List.length_map,hz.len,Nat.mul_one]);obtain⟨i0,hi,Ya,Za,Ab⟩:=info_parts bF;have HI:H7 (prog.info? 2=some i0/\i0.zero=some (it 0)/\i0.size=1/\i0.bytes=8):=⟨hi,Ya,Za,Ab⟩;obtain⟨N,hN⟩:∃N,N=n-m+1:=⟨_,rfl⟩;have Bb:(n:Int)-(m:Int)+1=(N:Int):=(by omega);have Ld:(0:Int)<(n:Int)-(m:Int)+1:=(by omega);have HN:=Hd hN;have Ga:=Hd Bb;clear hz hy ha hb Qc Fa hi Ya Za Ab hN Bb gl ny;go_enter func84,ntmps84;(go_wp2_with(at_builtin;refine dr _ rfl (.tmp 12) (.tmp 13) 24 rfl w.heap.size 2 i0 (it 0) 1 8 underlying24 HI.o.1 HI.o.2.1 HI.o.2.2.1 HI.o.2.2.2 rfl (by decide) _ 0 [] rfl (World.ownsRow_made w #[] 0 (m3 _) (by unfold maxLen;omega) rfl) (some ⟨b1,o1,none⟩) n c (zs.map (Value.int .i64)) rfl HL.o (λh=>by cases h) (lC (HZ.o.below ((m8 _ _).alloc (m3 _) _))) (cF _) (by unfold maxLen;omega) (by omega) (by simp) ?_));intro v1 w1 Cb Db;have hown':w1.ownsRow w.heap.size 2 1 v1 n (zs.map (Value.int .i64)):=(by simpa using Cb);obtain⟨ra,rc,rfl,Eb⟩:=aA.form hown';have Fb:=Hd Eb;have Gb:=Hd (((m8 w.heap.size w).alloc (m3 _) _).grown Db (by simp) (λj hj=>by simp[Value.ownBlock]at hj;omega));have Hb:=Gb.o.size;clear Cb hown' Db Eb;(go_wp2_with(at_make;refine wpList_make_full _ rfl _ _ 24 rfl w1.heap.size 2 i0 (it 0) 1 underlying24 HI.o.1 HI.o.2.1 HI.o.2.2.1 .i64 .i64 _ _ N rfl rfl Ga.o Ga.o (by rw[HI.o.2.2.2];have:=HN.o;omega) (by unfold maxLen;have:=HN.o;omega) (m3 _) ?_));intro w2 Ha Ib
 have Jb:H7 (aA 2 w2 w1.heap.size (some ⟨w1.heap.size,0,none⟩) N N (List.replicate N 0)):=by
  show w2.ownsRow _ _ _ _ _ _;rw[dP]at Ha;exact Ha
 have Ia:=ba Ib;have Kb:=Hd (Fb.o.below Ia);have Ja:=Hd (Gb.o.trans (Ia.mono Hb));obtain⟨ga,rfl,Rc,Nd,_,_⟩:=Fb.o.block (by omega);have cl:w2.cell? ⟨b2,o2+(m-1),none⟩=some (it (ys.getD (m-1) 0)):=(Ja.o.cell (p:=⟨b2,o2+(m-1),none⟩) l2).trans (Wa.o (m-1) (by omega))
 have Lb:H7 (M.DInv zs ys zs (List.replicate N 0) N):=by
  have h:=M.dinv_start (g:=ys) HA.o;rw[Ba.o,Aa.o,<-HN.o]at h;exact h
 clear Ha Ib Ia;have Od:1<=m:=(by omega);have Pd:(0:Int)<=(m:Int)-1:=(by omega);have Qd:(m:Int)-1<(m:Int):=(by omega);generalize Nb:ys.getD (m-1) 0=Da at cl;have Ka:=Hd Nb;clear Nb;(go_wp2_with fail);refine(eD Da _).mono ?_;rintro e w2 ⟨rfl,rfl⟩
 have Sc:H7 (0<=M.inv Da/\M.inv Da<65537):=by
  show _/\_;rw[<-M.el_iff];have h:=M.el_at HB.o (m-1);rw[Ka.o]at h;exact M.el_inv ((M.el_iff _).2 h) (by rw[<-Ka.o];exact Xa.o)
 have iv:=Sc.o;generalize hiv:M.inv Da=iv' at iv;have Tc:=Hd hiv;obtain⟨Uc,Vc⟩:=iv;clear hiv;have Ob:(n:Int)-(m:Int)=(N:Int)-1:=(by have:=Ga.o;omega);have Wc:=Hd Ob;clear Ob cl;go_wp2
 go_loopw [9] (λi wr=>∃(k:Nat) (R O:List Int),k<=N/\i=it ((k:Int)-1)/\aA 2 wr w.heap.size (some ⟨ga,0,none⟩) n rc R/\aA 2 wr w1.heap.size (some ⟨w1.heap.size,0,none⟩) N N O/\M.DInv zs ys R O k/\m1 w wr) (λi _=>(intOf i+1).toNat)
 case atStart=>exact⟨N,zs,List.replicate N 0,m3 _,congrArg (Value.int .i64) Wc.o,Kb.o,Jb.o,Lb.o,Ja.o⟩
 case round=>
  obtain⟨k,R,O,hk,rfl,Pb,Qb,Rb,Sb⟩:=hrel;have La:=Hd Pb;have Na:=Hd Qb;have Ca:=Hd Rb;have Ea:=Hd Sb;clear Pb Qb Rb Sb Jb Kb Ja Lb;by_cases Rd:0<k
  ·
   obtain⟨i,rfl⟩:∃i,k=i+1:=⟨k-1,by omega⟩;have Xc:i+m<=n:=(by have:=HN.o;omega);rw[show((i+1:Nat):Int)-1=(i:Int) by omega];obtain⟨g',Tb,_,_,Ub,Yc⟩:=La.o.block (by omega);simp only[Option.some.injEq,Addr.mk.injEq,and_true]at Tb;subst Tb;have er:=Ub (i+m-1) (by omega);obtain⟨g2,Oa,_,_,Vb,Wb⟩:=Na.o.block (by omega);simp only[Option.some.injEq,Addr.mk.injEq,and_true]at Oa;have eo:=Vb i (by omega);have fo:=Wb i;rw[<-Oa]at eo fo;have Xb:=M.el_at Ca.o.ar (i+m-1);generalize hx:R.getD (i+m-1) 0=x at er Xb;have HX:=Hd hx;obtain⟨x0,x1⟩:=Xb;obtain⟨m0,I⟩:=M.mul_bd x0 x1 Uc Vc
   have Yb:H7 (M.DInv zs ys (M.tab zs.length (M.restAt R ys (x*iv'%65537) i ys.length)) (O.set i (x*iv'%65537)) i):=by
    refine M.dinv_step HB.o (by rw[Aa.o];omega) (by rw[Aa.o];exact Xa.o) Ca.o (by rw[Aa.o,Ba.o];exact Xc) _ ?_;rw[Aa.o,HX.o,Ka.o,Tc.o]
   have Zc:=Hd Ca.o.lr;have q0:0<=x*iv'%65537:=Int.emod_nonneg _ (by decide);have q1:x*iv'%65537<65537:=Int.emod_lt_of_pos _ (by decide);have Sd:(i:Int)+(m:Int)-1<(n:Int):=(by omega);have Td:(0:Int)<=(i:Int)+(m:Int)-1:=(by omega);have Ud:(i:Int)<(N:Int):=(by omega);generalize O.getD i 0=oy at eo;have Zb:ga≠w1.heap.size:=(by omega);clear hx Ub Yc Vb Wb Oa;generalize hq:x*iv'%65537=q at Yb q0 q1;have Ad:=Hd hq;clear hq;have Ac:H7 (aA 2 (wr.setCell ⟨w1.heap.size,i,none⟩ (it q)) w1.heap.size (some ⟨w1.heap.size,0,none⟩) N N (O.set i q)):=Na.o.set i q
   have Bc:H7 (aA 2 (wr.setCell ⟨w1.heap.size,i,none⟩ (it q)) w.heap.size (some ⟨ga,0,none⟩) n rc (M.tab n (M.restAt R ys q i 0))):=by
    show aA _ _ _ _ _ _ _;rw[<-Ba.o,<-nH Zc.o,Ba.o];exact La.o.other ⟨w1.heap.size,i,none⟩ (λx hx=>by simp only[Option.some.injEq]at hx;subst hx;exact Zb) _
   have Cc:H7 (m1 w (wr.setCell ⟨w1.heap.size,i,none⟩ (it q))):=Ea.o.setCell Hb _;have Bd:=Hd Ca.o.ar;go_wp2;rw[Ad.o]
   go_loopw [11] (λz wv=>∃j:Nat,j<=m/\z=it j/\aA 2 wv w.heap.size (some ⟨ga,0,none⟩) n rc (M.tab n (M.restAt R ys q i j))/\aA 2 wv w1.heap.size (some ⟨w1.heap.size,0,none⟩) N N (O.set i q)/\m1 w wv) (λz _=>m-(intOf z).toNat)
   case atStart=>exact⟨0,by omega,rfl,Bc.o,Ac.o,Cc.o⟩
   case round=>
    obtain⟨j,hj,rfl,Dc,Ec,Fc⟩:=hrel;have Pa:=Hd Dc;have Gc:=Hd Ec;have Qa:=Hd Fc;clear Dc Ec Fc Ac Bc Cc;by_cases Cd:j<m
    ·
     have Hc:i+j<n:=(by omega);have e2:wr.cell? ⟨b2,o2+j,none⟩=some (it (ys.getD j 0)):=(Qa.o.cell (p:=⟨b2,o2+j,none⟩) l2).trans (Wa.o j Cd);obtain⟨g3,Ic,_,_,Jc,Kc⟩:=Pa.o.block (by omega);simp only[Option.some.injEq,Addr.mk.injEq,and_true]at Ic;subst Ic;have e3:=Jc (i+j) Hc;have f3:=Kc (i+j);rw[M.tab_get _ _ _ Hc,ry]at e3;have Ra:H7 ((M.tab n (M.restAt R ys q i j)).set (i+j) ((R.getD (i+j) 0+(65537-q)*ys.getD j 0)%65537)=M.tab n (M.restAt R ys q i (j+1))):=pD;have Lc:=M.el_at HB.o j;have Nc:=M.el_at Bd.o (i+j);generalize ys.getD j 0=y at e2 Lc Ra;generalize R.getD (i+j) 0=v at e3 Nc Ra;obtain⟨y0,y1⟩:=Lc;obtain⟨v0,v1⟩:=Nc;obtain⟨p0,p1⟩:=tD q0 q1 y0 y1;have hJ:(j:Int)<(m:Int):=(by omega);have hK:(i:Int)+(j:Int)<(n:Int):=(by omega);have Vd:(0:Int)<=(i:Int)+(j:Int):=(by omega);have Wd:b2≠ga:=(by omega);clear Jc Kc er eo fo;go_wp2
     go_region
     go_wp2;go_roundw
     case rel=>
      refine⟨j+1,by omega,by go_num,?_,?_,(Qa.o.setCell Rc _).drew⟩
      ·
       rw[<-Ra.o];exact World.ownsRow.drew (Pa.o.set (i+j) _)
      .exact World.ownsRow.drew (Gc.o.other ⟨ga,i+j,none⟩ (λx hx=>by simp only[Option.some.injEq]at hx;subst hx;exact λe=>Zb e.symm) _)
     case measure=>simp[intOf];omega
    ·
     have hjm':j=m:=by omega
     have HF:H7 (aA 2 wr w.heap.size (some ⟨ga,0,none⟩) n rc (M.tab zs.length (M.restAt R ys q i ys.length))):=by
      show aA _ _ _ _ _ _ _;have h:=Pa.o;rw[hjm',<-Aa.o]at h;rw[Ba.o];exact h
     clear hjm';go_wp2;go_roundw
     case rel=>exact⟨i,_,_,by omega,by go_num,HF.o,Gc.o,Yb.o,Qa.o⟩
     case measure=>simp[intOf] <;> omega
  ·
   have hk0':k=0:=(by omega);subst hk0';have Dd:=Hd (M.dinv_end (by rw[Aa.o];omega) Ca.o);have Ed:N<=1048576:=(by have:=HN.o;omega);(go_wp2_with fail);refine(cr _ Na.o.sees Ed).mono ?_;rintro e w6 ⟨a6,l6,c6,rfl,Oc,Sa⟩;have Pc:=Hd Oc;have Fd:=Hd (La.o.below Sa);have Ta:=Ea.t Sa;clear Oc Sa;(go_wp2_with fail);refine(cr _ Fd.o.sees (by omega)).mono ?_;rintro e w7 ⟨a7,l7,c7,rfl,Ua,Va⟩;have Gd:=Hd ((Pc.o.below Va).mono Ea.o.size);have Id:=Hd (Ua.mono Ta.o.size)
   have Jd:H7 (∀x y,a6=some x->a7=some y->x.block≠y.block):=λx y hx hy=>by
    have h1:=Pc.o.hi x hx;have h2:=Ua.lo y hy;omega
   have Kd:=Ta.t Va;clear Ua Va;go_wp2
   go_ret2
   exact⟨a6,l6,c6,a7,l7,c7,_,_,rfl,Gd.o,Id.o,Dd.o,Jd.o,Kd.o⟩
theorem k9(w:World)(hz:aC w a n c zs)(hy:aC w b m d ys)(ha:M.allEl zs=true)(nz:M.neat zs)(hn:n<=128)(hm:m<=128)(h1:0<m)(hmn:n<m):
  Calls prog 84 #[.slice a n c,.slice b m d] w λe w'=>∃a1 l1 c1 a2 l2 c2 q r,e=.returned (.tuple #[.slice a1 l1 c1,.slice a2 l2 c2])/\aA 2 w' w.heap.size a1 l1 c1 q/\aA 2 w' w.heap.size a2 l2 c2 r/\M.Div zs ys q r/\(∀x y,a1=some x->a2=some y->x.block≠y.block)/\m1 w w':=by
 obtain⟨b2,o2,rfl,Ca⟩:=hy.at h1;have l2:b2<w.heap.size:=xJ w _ (Ca 0 h1);have Ta:=Hd Ca;have HZ:=Hd hz;have HD:H7 (M.Div zs ys [] zs):=M.div_short nz ha (by rw[hz.len,hy.len];exact hmn);have Ua:=Hd (M.trim_neat nz);have HL:H7 ((zs.map (Value.int .i64)).length=n*1):=(by show _=_;rw[List.length_map,hz.len,Nat.mul_one]);obtain⟨i0,hi,Ia,Ja,Ka⟩:=info_parts bF;have HI:H7 (prog.info? 2=some i0/\i0.zero=some (it 0)/\i0.size=1/\i0.bytes=8):=⟨hi,Ia,Ja,Ka⟩;have Fb:¬ (0:Int)<(n:Int)-(m:Int)+1:=(by omega);have Gb:¬ (0:Int)<=(n:Int)-(m:Int):=(by omega);clear hz hy ha nz Ca hi Ia Ja Ka;go_enter func84,ntmps84;(go_wp2_with(at_builtin;refine dr _ rfl (.tmp 12) (.tmp 13) 24 rfl w.heap.size 2 i0 (it 0) 1 8 underlying24 HI.o.1 HI.o.2.1 HI.o.2.2.1 HI.o.2.2.2 rfl (by decide) _ 0 [] rfl (World.ownsRow_made w #[] 0 (m3 _) (by unfold maxLen;omega) rfl) a n c (zs.map (Value.int .i64)) rfl HL.o HZ.o.no (lC (HZ.o.below ((m8 _ _).alloc (m3 _) _))) (cF _) (by unfold maxLen;omega) (by omega) (by simp) ?_));intro v1 w1 La Na;have hown':w1.ownsRow w.heap.size 2 1 v1 n (zs.map (Value.int .i64)):=(by simpa using La);obtain⟨ra,rc,rfl,Oa⟩:=aA.form hown';have Va:=Hd Oa;have Pa:=Hd (((m8 w.heap.size w).alloc (m3 _) _).grown Na (by simp) (λj hj=>by simp[Value.ownBlock]at hj;omega));have Wa:=Pa.o.size;clear La hown' Na Oa;(go_wp2_with(at_make;refine wpList_make_full _ rfl _ _ 24 rfl w1.heap.size 2 i0 (it 0) 1 underlying24 HI.o.1 HI.o.2.1 HI.o.2.2.1 .i64 .i64 _ _ 0 rfl rfl (by omega) (by omega) (by rw[HI.o.2.2.2];omega) (by unfold maxLen;omega) (m3 _) ?_));intro w2 Da Qa
 have Xa:H7 (aA 2 w2 w1.heap.size (some ⟨w1.heap.size,0,none⟩) 0 0 []):=by
  show w2.ownsRow _ _ _ _ _ _;rw[dP]at Da;exact Da
 have Ea:=ba Qa;have Ya:=Hd (Va.o.below Ea);have Aa:=Hd (Pa.o.trans (Ea.mono Wa));have cl:w2.cell? ⟨b2,o2+(m-1),none⟩=some (it (ys.getD (m-1) 0)):=(Aa.o.cell (p:=⟨b2,o2+(m-1),none⟩) l2).trans (Ta.o (m-1) (by omega));clear Da Qa Ea;have Hb:1<=m:=(by omega);have Ib:(0:Int)<=(m:Int)-1:=(by omega);have Jb:(m:Int)-1<(m:Int):=(by omega);generalize ys.getD (m-1) 0=Za at cl;(go_wp2_with fail);refine(eD Za _).mono ?_;rintro e w2 ⟨rfl,rfl⟩;clear cl;go_wp2;refine wp_loop_rounds 1 ?_;rw[rounds_succ];(go_wp2_with fail);refine(cr _ Xa.o.sees (by omega)).mono ?_;rintro e w6 ⟨a6,l6,c6,rfl,Ra,Fa⟩;have Sa:=Hd Ra;have Ab:=Hd (Ya.o.below Fa);have Ga:=Aa.t Fa;clear Ra Fa;(go_wp2_with fail);refine(cr _ Ab.o.sees (by omega)).mono ?_;rintro e w7 ⟨a7,l7,c7,rfl,Ba,Ha⟩;rw[Ua.o]at Ba;have Bb:H7 (aA 2 w7 w.heap.size a6 l6 c6 []):=(Sa.o.below Ha).mono Aa.o.size;have Cb:=Hd (Ba.mono Ga.o.size)
 have Db:H7 (∀x y,a6=some x->a7=some y->x.block≠y.block):=λx y hx hy=>by
  have h1:=Sa.o.hi x hx;have h2:=Ba.lo y hy;omega
 have Eb:=Ga.t Ha;clear Ba Ha;go_wp2
 go_ret2
 exact⟨a6,l6,c6,a7,l7,c7,_,_,rfl,Bb.o,Cb.o,HD.o,Db.o,Eb.o⟩
theorem tv{q r:List Int}(h:M.Div f g q r)(hf:f.length<=128)(hg:g.length<=128)(ag:M.allEl g=true)(ng:M.neat g):q.length<=128/\r.length<=128:=by
 refine⟨?_,by have:=h.short;omega⟩
 rcases Nat.lt_or_ge 128 q.length with hl | hl
 ·
  exfalso
  have g0:0<g.length:=by have:=h.short;omega
  have e1:q.getD (q.length-1) 0≠0:=by
   rcases h.nq with x | x
   .omega
   .exact x
  have e2:g.getD (g.length-1) 0≠0:=by
   rcases ng with x | x
   .omega
   .exact x
  have Aa:=M.prod_ne ((M.el_iff _).2 (M.el_at h.aq _)) ((M.el_iff _).2 (M.el_at ag _)) e1 e2;rw[<-M.pm_lead q g (by omega) g0]at Aa;have he:=h.eq (q.length+g.length-2);have hs:=h.short;rw[M.getD_out (zs:=f) (by omega),M.getD_out (zs:=r) (by omega)]at he;have hb:=M.pm_bd q g (q.length+g.length-2);omega
 .exact hl
set_option maxRecDepth 10000 in
theorem l9(w:World)(hz:aC w a n c zs)(hy:aC w b m d ys)(ha:M.allEl zs=true)(hb:M.allEl ys=true)(hn:n<=100000)(hm:m<=100000):
  Calls prog 69 #[.slice a n c,.slice b m d] w λe w'=>∃a' l c',e=.returned (.slice a' l c')/\aA 134 w' w.heap.size a' l c' (M.trim (M.padd zs (M.trim (M.pscale ys 65536))))/\m1 w w':=by
 have HZ:=Hd hz;have HY:=Hd hy;have HA:=Hd ha;have HB:=Hd hb;have HL:H7 ((M.trim (M.pscale ys 65536)).length<=100000):=(by show _<=_;have:=M.len_trim (M.pscale ys 65536);rw[eM,hy.len]at this;omega);clear hz hy ha hb;go_enter func69,ntmps69;(go_wp2_with fail);refine(eU 0 1 _ (by omega) (by omega) (by omega) (by omega)).mono ?_;rintro e w ⟨rfl,rfl⟩;(go_wp2_with fail);refine(lB 65536 _ HY.o HB.o (by omega) (by omega) (by omega)).mono ?_;rintro e w1 ⟨a1,l1,c1,rfl,Ba,Ca⟩;have Fa:l1<=100000:=(by rw[<-Ba.len];exact HL.o);have Ga:=Hd Ba;have Aa:=Hd Ca;clear Ba Ca;(go_wp2_with fail);refine(oq _ (HZ.o.below Aa.o) Ga.o.sees HA.o (M.all_trim (M.all_pscale _ _)) hn Fa).mono ?_;rintro e w2 ⟨a2,l2,c2,rfl,Da,Ea⟩;have Ha:H7 (aA 134 w2 w.heap.size a2 l2 c2 (M.trim (M.padd zs (M.trim (M.pscale ys 65536))))):=Da.mono Aa.o.size;have Ia:=Aa.t Ea;clear Da Ea;go_wp2;go_ret;exact⟨a2,l2,c2,rfl,Ha.o,Ia.o⟩
set_option maxRecDepth 10000 in
theorem kU{g qa ra:Option Addr}{qn qc rn rc:Nat}{Q:List Int}(c iv:Int)(RG RL:Nat)(w:World)(hg:aC w g m d ys)(hq:aC w qa qn qc Q)(hr:aC w ra rn rc R)(hD:M.Div f ys Q R)(ay:M.allEl ys=true)(ny:M.neat ys)(hm:m<=128)(hqn:qn<=1000)(c0:0<=c)(c1:c<65537)(hiv:iv=M.inv (ys.getD (ys.length-1) 0))
 (hRG:w.cell? ⟨RG,0,none⟩=some (.slice g m d))(hRL:w.cell? ⟨RL,0,none⟩=some (it iv)):
  Calls prog 66 #[.agg #[.slice qa qn qc,.slice ra rn rc],it c,tG RG,tG RL] w λe w'=>∃a1 l1 c1 a2 l2 c2 Q' R',e=.returned (.agg #[.slice a1 l1 c1,.slice a2 l2 c2])/\aA 134 w' w.heap.size a1 l1 c1 Q'/\aA 134 w' w.heap.size a2 l2 c2 R'/\M.Div (c::f) ys Q' R'/\m1 w w':=by
 have HG:=Hd hg;have HQ:=Hd hq;have HR:=Hd hr;have HD:=Hd hD;have Pa:=Hd ay;have Xa:H7 (M.neat ys):=ny;have Vb:rn<=128:=(by have h1:=hD.short;rw[hr.len,hg.len]at h1;omega);have Ya:=Hd hiv;have Ib:H7 (∀w',m1 w w'->w'.cell? ⟨RG,0,none⟩=some (.slice g m d)):=λw' hb=>(hb.cell (p:=⟨RG,0,none⟩) (xJ w _ hRG)).trans hRG;have Jb:H7 (∀w',m1 w w'->w'.cell? ⟨RL,0,none⟩=some (it iv)):=λw' hb=>(hb.cell (p:=⟨RL,0,none⟩) (xJ w _ hRL)).trans hRL;clear hg hq hr hD ay ny hiv;go_enter func66,ntmps66
 have Kb:H7 (0<=iv/\iv<65537):=by
  show _/\_;have g0:0<ys.length:=by have:=HD.o.short;omega
  have gl:ys.getD (ys.length-1) 0≠0:=by
   rcases Xa.o with e | e
   .omega
   .exact e
  rw[Ya.o,<-M.el_iff];exact M.el_inv ((M.el_iff _).2 (M.el_at Pa.o _)) gl
 obtain⟨Lb,Nb⟩:=Kb.o;have Fa:H7 (m1 w ((w.alloc (.cells #[Value.slice qa qn qc,Value.slice ra rn rc] 84)).alloc (.cells #[Value.slice none 0 0,Value.slice none 0 0] 84))):=((m8 _ _).alloc (m3 _) _).alloc (by simp) _;have Aa:H7 (((w.alloc (.cells #[Value.slice qa qn qc,Value.slice ra rn rc] 84)).alloc (.cells #[Value.slice none 0 0,Value.slice none 0 0] 84)).heap.size=w.heap.size+2):=by show _=_;simp
 have HK:H7 (∀w',Below (w.heap.size+2) ((w.alloc (.cells #[Value.slice qa qn qc,Value.slice ra rn rc] 84)).alloc (.cells #[Value.slice none 0 0,Value.slice none 0 0] 84)) w'->w'.cell? ⟨w.heap.size,0,none⟩=some (.slice qa qn qc)/\w'.cell? ⟨w.heap.size,1,none⟩=some (.slice ra rn rc)/\w'.cell? ⟨w.heap.size+1,0,none⟩=some (.slice none 0 0)/\w'.cell? ⟨w.heap.size+1,1,none⟩=some (.slice none 0 0)/\w'.frozen? ⟨w.heap.size+1,0,none⟩=false/\w'.frozen? ⟨w.heap.size+1,1,none⟩=false):=by
  intro w' hb;refine⟨(hb.cell (p:=⟨w.heap.size,0,none⟩) (by simp)).trans ?_,(hb.cell (p:=⟨w.heap.size,1,none⟩) (by simp)).trans ?_,(hb.cell (p:=⟨w.heap.size+1,0,none⟩) (by simp)).trans ?_,(hb.cell (p:=⟨w.heap.size+1,1,none⟩) (by simp)).trans ?_,(hb.frozen (p:=⟨w.heap.size+1,0,none⟩) (by simp)).trans ?_,(hb.frozen (p:=⟨w.heap.size+1,1,none⟩) (by simp)).trans ?_⟩ <;> simp
 generalize Za:(w.alloc (.cells #[Value.slice qa qn qc,Value.slice ra rn rc] 84)).alloc (.cells #[Value.slice none 0 0,Value.slice none 0 0] 84)=wa at Fa Aa HK;have Ob:=Hd Za;clear Za;(go_wp2_with fail);rw[Ob.o];refine(ij c _ (HR.o.below Fa.o) (by omega)).mono ?_;rintro e w1 ⟨ta,tn,tc,rfl,Ia,Qa⟩;have hb1':Below (w.heap.size+2) wa w1:=(by rw[<-Aa.o];exact Qa);have Da:=Hd Ia;have Ga:=Hd hb1';have Ba:=Fa.t Qa;have HT:H7 (M.allEl (M.trim (c::R))=true):=M.all_trim (M.all_cons ⟨c0,c1⟩ HD.o.ar)
 have Wb:tn<=129:=by
  have h:=M.len_trim (c::R);rw[Ia.len,List.length_cons,HR.o.len]at h;omega
 have Pb:H7 (tn<=m):=by
  show _<=_;have h:=M.len_trim (c::R);rw[Ia.len,List.length_cons]at h;have h2:=HD.o.short;rw[HG.o.len]at h2;omega
 have Qb:=Ib.o _ Ba.o;obtain⟨k0,k1,k2,k3,k4,k5⟩:=HK.o _ hb1';clear Ia Qa hb1';by_cases Ja:tn=m
 ·
  have Rb:((tn:Int)==(m:Int))=true:=(by simp[Ja]);have HF:H7 (tn=m):=Ja
  have Sb:0<tn:=by
   have h2:=HD.o.short;rw[HG.o.len]at h2;omega
  obtain⟨gt,rfl,_,_,Ab,_⟩:=Da.o.block Sb;have ct:=Ab (tn-1) (by omega);have Bb:=M.el_at HT.o (tn-1)
  have HU:H7 (∀x,(M.trim (c::R)).getD (tn-1) 0=x->M.Div (c::f) ys (M.trim ((x*iv%65537)::Q)) (M.trim (M.padd (M.trim (c::R)) (M.trim (M.pscale (M.trim (M.pscale ys (x*iv%65537))) 65536))))):=by
   intro x hx;refine M.horner_full Pa.o Xa.o ⟨c0,c1⟩ HD.o (by rw[Da.o.len,HG.o.len];exact HF.o) _ ?_;rw[Da.o.len,hx,Ya.o]
  generalize hx:(M.trim (c::R)).getD (tn-1) 0=x at ct Bb;have Ka:H7 (M.Div (c::f) ys (M.trim ((x*iv%65537)::Q)) (M.trim (M.padd (M.trim (c::R)) (M.trim (M.pscale (M.trim (M.pscale ys (x*iv%65537))) 65536))))):=HU.o x hx;obtain⟨x0,x1⟩:=Bb;have cl:=Jb.o _ Ba.o;have Xb:(0:Int)<=(tn:Int)-1:=(by omega);have Yb:(tn:Int)-1<(tn:Int):=(by omega);have Zb:1<=tn:=(by omega);have u0:0<=x*iv%65537:=Int.emod_nonneg _ (by decide);have u1:x*iv%65537<65537:=Int.emod_lt_of_pos _ (by decide);clear hx Ab HU Ja;go_wp2
  go_quiet ((go_at_call 68;exact Calls.quiet_of_same (bI x iv _ x0 x1 Lb Nb)))
  generalize hu:x*iv%65537=u at Ka u0 u1;clear hu;(go_wp2_with fail);refine(lB u _ ((HG.o.below Ba.o).drewN _) Pa.o (by omega) u0 u1).mono ?_;rintro e w3 ⟨ca,cn,cc,rfl,Ra,Cb⟩;have La:m1 w1 w3:=(Below.drewN' (m8 _ _) _).trans Cb;have Tb:=Hd Ra;have Ub:=Hd (Da.o.below La);have Sa:=Ba.t La;have Ta:H7 (Below (w.heap.size+2) wa w3):=Ga.o.trans (La.mono (by rw[<-Aa.o];exact Ga.o.size))
  have Ac:cn<=128:=by
   have h:=M.len_trim (M.pscale ys u);rw[Ra.len,eM,HG.o.len]at h;omega
  clear Ra Cb La k0 k1 k2 k3 k4 k5 ct cl Qb;(go_wp2_with fail);refine(l9 _ Ub.o.sees Tb.o.sees HT.o (M.all_trim (M.all_pscale _ _)) (by omega) (by omega)).mono ?_;rintro e w4 ⟨na,nn,nc,rfl,Db,Ua⟩;have Eb:=Hd Db;have Na:=Sa.t Ua;have Oa:H7 (Below (w.heap.size+2) wa w4):=Ta.o.trans (Ua.mono (by rw[<-Aa.o];exact Ta.o.size));clear Db Ua;obtain⟨k0,k1,k2,k3,k4,k5⟩:=HK.o _ Oa.o;(go_wp2_with fail);refine(ij u _ (HQ.o.below Na.o) (by omega)).mono ?_;rintro e w2 ⟨sa,sn,sc,rfl,Ea,Ca⟩;have Fb:H7 (aA 134 w2 w.heap.size sa sn sc (M.trim (u::Q))):=Ea.mono Na.o.size;have Gb:H7 (aA 134 w2 w.heap.size na nn nc (M.trim (M.padd (M.trim (c::R)) (M.trim (M.pscale (M.trim (M.pscale ys u)) 65536))))):=(Eb.o.below Ca).mono Sa.o.size;have Va:H7 (∀x,sa=some x->x.block≠w.heap.size+1):=λx hx=>by have h:=Ea.lo x hx;have h2:=Oa.o.size;have h3:=Aa.o;omega
  have Wa:H7 (∀x,na=some x->x.block≠w.heap.size+1):=λx hx=>by have h:=Eb.o.lo x hx;have h2:=Ta.o.size;have h3:=Aa.o;omega
  have Hb:=Na.t Ca;have Ha:Below (w.heap.size+2) wa w2:=Oa.o.trans (Ca.mono (by rw[<-Aa.o];exact Oa.o.size));clear k0 k1 k2 k3 k4 k5;obtain⟨k0,k1,k2,k3,k4,k5⟩:=HK.o _ Ha;clear Ea Ca Ha;go_wp2;refine s' (v:=.agg #[.slice sa sn sc,.slice na nn nc]) (by simp[results,results66,go_sem,k2,k3]) rfl ⟨sa,sn,sc,na,nn,nc,_,_,rfl,?_,?_,Ka.o,?_⟩
  .exact(Fb.o.other ⟨w.heap.size+1,0,none⟩ Va.o _).other ⟨w.heap.size+1,1,none⟩ Va.o _
  .exact(Gb.o.other ⟨w.heap.size+1,0,none⟩ Wa.o _).other ⟨w.heap.size+1,1,none⟩ Wa.o _
  .exact(Hb.o.setCell (Nat.le_succ _) _).setCell (Nat.le_succ _) _
 ·
  have Rb:((tn:Int)==(m:Int))=false:=(by simp;omega);have Ka:H7 (M.Div (c::f) ys (M.trim (0::Q)) (M.trim (c::R))):=M.horner_short ⟨c0,c1⟩ HD.o (by rw[Da.o.len,HG.o.len];have:=Pb.o;omega);clear Ja;(go_wp2_with fail);refine(ij 0 _ (HQ.o.below Ba.o) (by omega)).mono ?_;rintro e w2 ⟨sa,sn,sc,rfl,Ea,Ca⟩;have Fb:H7 (aA 134 w2 w.heap.size sa sn sc (M.trim (0::Q))):=Ea.mono Ba.o.size;have Gb:H7 (aA 134 w2 w.heap.size ta tn tc (M.trim (c::R))):=(Da.o.below Ca).mono Fa.o.size;have Va:H7 (∀x,sa=some x->x.block≠w.heap.size+1):=λx hx=>by have h:=Ea.lo x hx;have h2:=Ga.o.size;have h3:=Aa.o;omega
  have Wa:H7 (∀x,ta=some x->x.block≠w.heap.size+1):=λx hx=>by have h:=Da.o.lo x hx;have h3:=Aa.o;omega
  have Hb:=Ba.t Ca;have Ha:Below (w.heap.size+2) wa w2:=Ga.o.trans (Ca.mono (by rw[<-Aa.o];exact Ga.o.size));clear k0 k1 k2 k3 k4 k5;obtain⟨k0,k1,k2,k3,k4,k5⟩:=HK.o _ Ha;clear Ea Ca Ha;go_wp2;refine s' (v:=.agg #[.slice sa sn sc,.slice ta tn tc]) (by simp[results,results66,go_sem,k2,k3]) rfl ⟨sa,sn,sc,ta,tn,tc,_,_,rfl,?_,?_,Ka.o,?_⟩
  .exact(Fb.o.other ⟨w.heap.size+1,0,none⟩ Va.o _).other ⟨w.heap.size+1,1,none⟩ Va.o _
  .exact(Gb.o.other ⟨w.heap.size+1,0,none⟩ Wa.o _).other ⟨w.heap.size+1,1,none⟩ Wa.o _
  .exact(Hb.o.setCell (Nat.le_succ _) _).setCell (Nat.le_succ _) _
namespace M
theorem nodup_iff(xs:List Int):xs.Nodup↔∀i j,i<j->j<xs.length->xs.getD i 0≠xs.getD j 0:=by
 unfold List.Nodup;rw[List.pairwise_iff_getElem]
 constructor
 ·
  intro h i j Aa hj;have:=h i j (by omega) hj Aa;simpa[m5,m9 hj,m9 (show i<xs.length by omega)]using this
 ·
  intro h i j hi hj Aa;have:=h i j Aa hj;simpa[m5,m9 hj,m9 hi]using this
structure Lag(xs f:List Int)(b:Int)(i k:Nat):Prop where
 fl:allEl f=true
 lf:f.length<=(if i<k then k else k+1)
 vz:∀j,j<k->j≠i->ev f (xs.getD j 0)=0
 vb:ev f (xs.getD i 0)=b
 b0:b≠0
theorem Lag.bd{xs:List Int}{b:Int}(h:Lag xs f b i k):0<=b/\b<65537:=by rw[<-h.vb];exact ev_bd _ _
end M
theorem rp(hi:i<zs.length)(hk:k<i)(e:zs.getD i 0=zs.getD k 0):decide zs.Nodup=false:=
 decide_eq_false λh=>(M.nodup_iff zs).1 h k i hk hi e.symm
theorem po(h:∀i k,i<zs.length->k<i->zs.getD i 0≠zs.getD k 0):decide zs.Nodup=true:=
 decide_eq_true ((M.nodup_iff zs).2 λi j hij hj e=>h j i hj hij e.symm)
theorem lP(w:World)(hz:aC w a n c zs):
  Rq 146 #[.slice a n c] w (.bool (decide zs.Nodup)):=by
 have bn:(n:Int)<=9223372036854775807:=(by have:=hz.big;have:=hz.le;omega);have Fa:(n:Int)<=(c:Int):=(by have:=hz.le;omega);have HZ:=Hd hz;clear hz;go_enter func146,ntmps146;go_wp2
 go_loop [9] (λi=>∃k:Nat,k<=n/\i=it k/\∀i j,i<k->j<i->zs.getD i 0≠zs.getD j 0) (λi=>n-(intOf i).toNat)
 case atStart=>exact⟨0,by omega,rfl,λi j h=>by omega⟩
 case round=>
  obtain⟨i,hi,rfl,Ba⟩:=hrel;have HA:=Hd Ba;clear Ba;by_cases Ca:i<n
  ·
   obtain⟨b1,o1,rfl,Aa⟩:=HZ.o.at (by omega);have c1:=Aa i Ca;have HC:=Hd Aa;clear Aa;generalize hx:zs.getD i 0=x at c1;have HX:=Hd hx;have hI:(i:Int)<(n:Int):=(by omega);have Ga:(i:Int)<=(c:Int):=(by omega);have Ha:i<=c:=(by omega);clear hx;go_wp2
   go_loop [18] (λq=>∃k:Nat,k<=i/\q=it k/\∀j,j<k->x≠zs.getD j 0) (λq=>i-(intOf q).toNat)
   case atStart=>exact⟨0,by omega,rfl,λj h=>by omega⟩
   case round=>
    obtain⟨k,hk,rfl,Da⟩:=hrel;have HN:=Hd Da;clear Da;by_cases Ea:k<i
    ·
     have c2:=HC.o k (by omega);generalize hy:zs.getD k 0=y at c2;have HY:=Hd hy;have hK:(k:Int)<(i:Int):=(by omega);clear hy;by_cases he:x=y
     ·
      have hb:(x==y)=true:=(by simp[he]);have HE:=Hd he;clear he;go_wp2;go_ret;exact⟨aB (rp (by rw[HZ.o.len];exact Ca) Ea (by rw[HX.o,HY.o];exact HE.o)).symm,rfl⟩
     ·
      have hb:(x==y)=false:=(by simp[he]);have HE:H7 (x≠y):=he;clear he;go_wp2
      go_round
      case rel=>
       refine⟨k+1,by omega,by go_num,λj hj=>?_⟩;by_cases e:j=k
       .subst e;rw[HY.o];exact HE.o
       .exact HN.o j (by omega)
      case measure=>simp[intOf];omega
    ·
     have hki':k=i:=(by omega);have HK:=Hd hki';clear hki';go_wp2
     go_round
     case rel=>
      refine⟨i+1,by omega,by go_num,λj m hj hm=>?_⟩;by_cases e:j=i
      .subst e;rw[HX.o];exact HN.o m (by rw[HK.o];exact hm)
      .exact HA.o j m (by omega) hm
     case measure=>simp[intOf];omega
  ·
   go_wp2;go_ret;exact⟨aB (po λj k hj hk=>HA.o j k (by rw[HZ.o.len]at hj;omega) hk).symm,rfl⟩
structure PA where
 x:Option Addr
 xc:Nat
 y:Option Addr
 yc:Nat
 qx:Option Addr
 qxc:Nat
 qy:Option Addr
 qyc:Nat
def PA.zero:PA:=⟨none,0,none,0,none,0,none,0⟩
def M.Pf.zero:M.Pf:=⟨(0,0),(0,0),[],[],[],[]⟩
def a8(p:M.Pf)(a:PA):List Value:=[it p.s.1,it p.s.2,it p.e.1,it p.e.2,.slice a.x p.X.length a.xc,.slice a.y p.Y.length a.yc,.slice a.qx p.QX.length a.qxc,.slice a.qy p.QY.length a.qyc]
structure dw(w:World)(p:M.Pf)(a:PA):Prop where
 x:aC w a.x p.X.length a.xc p.X
 y:aC w a.y p.Y.length a.yc p.Y
 qx:aC w a.qx p.QX.length a.qxc p.QX
 qy:aC w a.qy p.QY.length a.qyc p.QY
structure dv(t:TypeId)(w:World)(dA:Nat)(p:M.Pf)(a:PA):Prop where
 x:aA t w dA a.x p.X.length a.xc p.X
 y:aA t w dA a.y p.Y.length a.yc p.Y
 qx:aA t w dA a.qx p.QX.length a.qxc p.QX
 qy:aA t w dA a.qy p.QY.length a.qyc p.QY
def iZ(a b:Option Addr):Prop:=∀x y,a=some x->b=some y->x.block≠y.block
theorem iZ.symm(h:iZ a b):iZ b a:=λx y hx hy e=>h y x hy hx e.symm
theorem fY(a:Option Addr):iZ none a:=λ_ _ h=>by cases h
structure vW(a:PA):Prop where
 xy:iZ a.x a.y
 xq:iZ a.x a.qx
 xr:iZ a.x a.qy
 yq:iZ a.y a.qx
 yr:iZ a.y a.qy
 qr:iZ a.qx a.qy
theorem dv.sees{a:PA}(h:dv t w dA p a):dw w p a:=⟨h.x.sees,h.y.sees,h.qx.sees,h.qy.sees⟩
theorem dv.below{a:PA}(h:dv t w dA p a)(hb:m1 w w'):dv t w' dA p a:=⟨h.x.below hb,h.y.below hb,h.qx.below hb,h.qy.below hb⟩
theorem dv.mono{base':Nat}{a:PA}(h:dv t w dA p a)(hb:base'<=dA):dv t w base' p a:=⟨h.x.mono hb,h.y.mono hb,h.qx.mono hb,h.qy.mono hb⟩
theorem dw.below{a:PA}(h:dw w p a)(hb:m1 w w'):dw w' p a:=⟨h.x.below hb,h.y.below hb,h.qx.below hb,h.qy.below hb⟩
theorem sG(t:TypeId)(w:World)(dA:Nat):dv t w dA M.Pf.zero PA.zero:=⟨aA.empty w t dA,aA.empty w t dA,aA.empty w t dA,aA.empty w t dA⟩
def cK(m:M.Mc)(s:Int×Int)(n:Int):Bool:=m.ok&&(M.sOk s&&M.rows n)
def eI(m:M.Mc)(s:Int×Int)(n:Int):M.Pf:=if cK m s n=true then m.pf s n.toNat else M.Pf.zero
theorem uv{m:M.Mc}{n:Int}(h:cK m s n=true):eI m s n=m.pf s n.toNat:=if_pos h
theorem tF{m:M.Mc}{n:Int}(h:cK m s n=false):eI m s n=M.Pf.zero:=if_neg (by rw[h];decide)
theorem gU{m:M.Mc}{n:Int}(h:cK m s n=true):m.ok=true/\M.sOk s=true/\∃N:Nat,n=(N:Int)/\M.rowsN N=true:=by
 unfold cK at h;rw[xP,xP]at h;refine⟨h.1,h.2.1,?_⟩
 rcases gk h.2.2 with rfl | rfl | rfl | rfl
 .exact⟨2,rfl,rfl⟩
 .exact⟨4,rfl,rfl⟩
 .exact⟨8,rfl,rfl⟩
 .exact⟨16,rfl,rfl⟩
theorem pA{m:M.Mc}{n:Int}(h:cK m s n=false):m.ok=false\/(m.ok=true/\M.sOk s=false)\/(m.ok=true/\M.sOk s=true/\M.rows n=false):=by
 unfold cK at h
 cases h1:m.ok with
 | false=>exact .inl rfl
 | true=>
  cases h2:M.sOk s with
  | false=>exact .inr (.inl ⟨rfl,rfl⟩)
  | true=>rw[h1,h2]at h;exact .inr (.inr ⟨rfl,rfl,by simpa using h⟩)
end Go.Proofs.YtbjalickbnpnkaaGreatDoor
