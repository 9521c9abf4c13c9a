import Derived.Deep.Slices
import Derived.ProofKit
import Derived.Stop.LaidTwo
import Derived.LaidMore
import Derived.Test.YtjcjonncaknhnaaGreatDoorPk08
import Derived.Test.YtjcjonncaknhnaaGreatDoorPk12
namespace Go.Proofs.YtjcjonncaknhnaaGreatDoor
open Go.RowKit Go.Proofs.Tryz
set_option linter.unusedSimpArgs false
set_option maxHeartbeats 32000000
variable {e t:TypeId}{i' size g n c k o:Nat}{w W:World}{a ab aj:Option Addr}{ts:List M.Tk}{row:Option Nat}{js:List M.Jb}{cs:List Value}{v:Value}
theorem de{cap:Nat}:∀(us:List Value) {w:World} {xs:List Value} (o:Nat),w.ownsRow i' e size (.slice (some ⟨g,0,none⟩) n cap) n xs→o+us.length≤xs.length→(w.setCells g o us).ownsRow i' e size (.slice (some ⟨g,0,none⟩) n cap) n (j4 xs o us)∧w.grownBy (w.setCells g o us) (some g)
 | [],w,xs,o,h,_=>by
  have e:j4 xs o []=xs:=(by unfold j4;rw[List.nil_append,List.length_nil,Nat.add_zero,List.take_append_drop]);rw[e];exact⟨h,World.grownBy.refl _ _⟩
 | u::us,w,xs,o,h,hl=>by
  have hl':o+(us.length+1)≤xs.length:=hl;obtain⟨h1,h2⟩:=h.stored o u;obtain⟨h3,h4⟩:=de us (o+1) h1 (by rw[List.length_set];omega);rw[mZ (by omega)]at h3;exact⟨h3,h2.trans h4⟩
theorem aK.block(h:aK w i' a n c ts)(h0:0<n):∃g,a=some ⟨g,0,none⟩:=by
 rcases h.2.2 with⟨_,e⟩ | ⟨g,cap,cur,e,_⟩
 ·omega
 ·simp only[Value.slice.injEq]at e;exact⟨g,e.1⟩
theorem aK.put(h:aK w i' (some ⟨g,0,none⟩) n c ts)(hk:k<n)(t:M.Tk):aK (w.setCells g (k*3) (bO t)) i' (some ⟨g,0,none⟩) n c (ts.set k t)∧w.grownBy (w.setCells g (k*3) (bO t)) (some g):=by
 have hl:=h.1;have hx:k*3+(bO t).length≤(ts.flatMap bO).length:=(by rw[b8 ct,ct];omega);obtain⟨h1,h2⟩:=de (bO t) (k*3) h.2 hx;rw[eK ct ts t (by omega)]at h1;exact⟨⟨by rw[List.length_set];exact hl,h1⟩,h2⟩
theorem aK.there(h:aK w i' (some ⟨g,0,none⟩) n c ts)(hk:k<n):w.there g (k*3) 3:=fun j hj=>by
 have hl:=h.1;refine⟨?_,h.2.frozenAt _⟩;rw[h.2.cellAt _ (by omega),tw (by rw[b8 ct];omega)]
 rfl
theorem aK.cells(h:aK w i' (some ⟨g,0,none⟩) n c ts){j:Nat}(hk:k<n)(hj:j<3):w.cell? ⟨g,k*3+j,none⟩=(bO (ts.getD k M.t0))[j]?:=by
 have hl:=h.1;rw[h.2.cellAt _ (by omega),dN ct M.t0 ts (by omega) hj]
abbrev MQ:=M.Jb×Option Addr×Nat
def q0:MQ:=(M.j0,none,0)
def bj(ab aj:Option Addr)(qs:List MQ):List Nat:=ob ab++(ob aj++qs.flatMap fun q=>ob q.2.1)
structure aF(w:World)(i':Nat)(ab:Option Addr)(nb cb:Nat)(bs:List Int)(aj:Option Addr)(nj cj:Nat)(qs:List MQ):Prop where
 b:ar 2 w i' ab nb cb bs
 jl:qs.length=nj
 j:w.ownsRow i' 45 18 (.slice aj nj cj) nj (qs.flatMap fu)
 t:∀q∈qs,aK w i' q.2.1 q.1.ts.length q.2.2 q.1.ts
 d:(bj ab aj qs).Nodup
theorem eg{w':World}{xs:List Value}(h:w.ownsRow i' e size (.slice a n c) n xs)(hg:w.grownBy w' row)(hr:∀g∈ob a,row≠some g):w'.ownsRow i' e size (.slice a n c) n xs:=by
 refine h.kept hg ?_
 cases e:(Value.slice a n c).ownBlock with
 | none=>exact .inl rfl
 | some g=>exact .inr (fun e2=>hr g (aZ e) e2.symm)
theorem bK{qs:List MQ}:(bj ab aj qs).Nodup↔(∀g∈ob ab,g∉ob aj∧g∉qs.flatMap fun q=>ob q.2.1)∧(∀g∈ob aj,g∉qs.flatMap fun q=>ob q.2.1)∧(qs.flatMap fun q=>ob q.2.1).Nodup:=by
 have h1:∀a:Option Addr,(ob a).Nodup:=fun a=>by cases a <;> simp[ob]
 unfold bj;rw[List.nodup_append,List.nodup_append]
 constructor
 ·
  rintro⟨_,⟨_,c1,c2⟩,c3⟩;exact⟨fun g hg=>⟨fun e=>c3 g hg g (tI.2 (.inl e)) rfl,fun e=>c3 g hg g (tI.2 (.inr e)) rfl⟩,fun g hg e=>c2 g hg g e rfl,c1⟩
 ·
  rintro⟨c3,c2,c1⟩;exact⟨h1 _,⟨h1 _,c1,fun g hg g' hg' e=>c2 g hg (e ▸ hg')⟩,fun g hg g' hg' e=>(tI.1 hg').elim (fun x=>(c3 g hg).1 (e ▸ x)) (fun x=>(c3 g hg).2 (e ▸ x))⟩
section
variable {w w':World} {i':Nat} {ab:Option Addr} {nb cb:Nat} {bs:List Int} {aj:Option Addr} {nj cj:Nat} {qs:List MQ}
theorem aF.grown(H:aF w i' ab nb cb bs aj nj cj qs)(hg:w.grownBy w' row)(hr:∀g∈bj ab aj qs,row≠some g):aF w' i' ab nb cb bs aj nj cj qs:=
 ⟨H.b.grown hg fun g hg=>hr g (by simp[bj,hg]),H.jl,eg H.j hg fun g hg=>hr g (by simp[bj,hg]),fun q hq=>(H.t q hq).grown hg fun g hg=>hr g (by unfold bj;simp only[tI];exact .inr (.inr (tU.2 ⟨q,hq,hg⟩))),H.d⟩
theorem aF.below(H:aF w i' ab nb cb bs aj nj cj qs)(hb:Below w.heap.size w w'):aF w' i' ab nb cb bs aj nj cj qs:=H.grown (aS hb none) (fun _ _=>by simp)
theorem aF.lt(H:aF w i' ab nb cb bs aj nj cj qs):∀g∈bj ab aj qs,i'≤g∧g<w.heap.size:=by
 intro g hg;unfold bj at hg;simp only[tI]at hg
 rcases hg with hg | hg | hg
 ·exact tJ H.b g (bL hg)
 ·exact tJ H.j g (bL hg)
 ·
  obtain⟨q,hq,hg⟩:=tU.1 hg;exact(H.t q hq).lt g hg
theorem dh(qs:List MQ)(i:Nat):(qs.map (·.1)).getD i M.j0=(qs.getD i q0).1:=by
 rw[tu,tu,List.getElem?_map]
 cases qs[i]? <;> rfl
theorem aF.sees(H:aF w i' ab nb cb bs aj nj cj qs):bv w ab nb cb aj nj cj bs (qs.map (·.1)):=by
 refine⟨H.b.sees,?_⟩;have hx:=H.j;have hl:=H.jl
 rcases hx.2 with⟨e,h0⟩ | ⟨g,cap,cur,e,hb,hh,hn,hm,hs,ht⟩
 ·
  simp only[Value.slice.injEq]at e;obtain⟨rfl,rfl,rfl⟩:=e;exact⟨by simpa using hl,tr _,by decide,fun _=>⟨rfl,rfl⟩,.inl rfl⟩
 ·
  simp only[Value.slice.injEq,true_and]at e;obtain⟨rfl,rfl⟩:=e;refine⟨by simpa using hl,hn,by unfold maxLen at hm;omega,fun e=>by simp at e,?_⟩;refine .inr ⟨g,0,rfl,fun i hi=>⟨(qs.getD i q0).2.1,(qs.getD i q0).2.2,fun j hj=>?_,?_⟩⟩
  ·
   rw[Nat.zero_add,World.ownsRow.cellAt hx (i*18+j) (by omega),dN co q0 qs (by omega) hj,dh]
   rfl
  ·
   rw[dh];have Aa:qs.getD i q0∈qs:=(by rw[tu,tw (by omega)];simp);exact(H.t _ Aa).sees
theorem cV{α β:Type}(f:α→List β)(d:α):∀(qs:List α) (i:Nat) (q:α),f q=f (qs.getD i d)→i<qs.length→(qs.set i q).flatMap f=qs.flatMap f
 | [],_,_,_,h=>by simp at h
 | x::l,0,q,h,_=>by
  have h':f q=f x:=h;rw[List.set_cons_zero,t',t',h']
 | x::l,i+1,q,h,hi=>by
  rw[List.set_cons_succ,t',t',cV f d l i q h (by simpa using hi)]
theorem cU{α:Type}{d:α}:∀{qs:List α} {i:Nat} {q x:α},x∈qs.set i q→x=q∨∃k,k≠i∧k<qs.length∧x=qs.getD k d
 | [],_,_,_,h=>by simp at h
 | y::l,0,q,x,h=>by
  rw[List.set_cons_zero,List.mem_cons]at h
  rcases h with h | h
  ·exact .inl h
  ·
   obtain⟨k,hk,e⟩:=List.mem_iff_getElem.1 h;exact .inr ⟨k+1,by omega,by simpa using hk,by rw[←e];simp[tu,hk]⟩
 | y::l,i+1,q,x,h=>by
  rw[List.set_cons_succ,List.mem_cons]at h
  rcases h with h | h
  ·exact .inr ⟨0,by omega,by simp,h⟩
  ·
   rcases cU (d:=d) h with h | ⟨k,h1,h2,h3⟩
   ·exact .inl h
   ·exact .inr ⟨k+1,by omega,by simpa using h2,h3⟩
theorem eZ{α:Type}{f:α→List Nat}{d:α}:∀{qs:List α},(qs.flatMap f).Nodup→∀{i k:Nat},i<qs.length→k<qs.length→k≠i→∀g∈f (qs.getD i d),g∉f (qs.getD k d)
 | [],_,_,_,h,_,_=>by simp at h
 | x::l,hn,i,k,hi,hk,hne=>by
  rw[t',List.nodup_append]at hn;have mem:∀{j:Nat} {g:Nat},j<l.length→g∈f (l.getD j d)→g∈l.flatMap f:=fun{j g} hj hg=>tU.2 ⟨l.getD j d,by rw[tu,tw hj];simp,hg⟩
  match i,k with
  | 0,0=>exact absurd rfl hne
  | 0,k+1=>exact fun g hg hg'=>hn.2.2 g hg g (mem (by simpa using hk) hg') rfl
  | i+1,0=>exact fun g hg hg'=>hn.2.2 g hg' g (mem (by simpa using hi) hg) rfl
  | i+1,k+1=>exact eZ (d:=d) hn.2.1 (by simpa using hi) (by simpa using hk) (by omega)
theorem aF.task(H:aF w i' ab nb cb bs aj nj cj qs){i:Nat}(hi:i<nj)(hg:(qs.getD i q0).2.1=some ⟨g,0,none⟩)(hk:k<(qs.getD i q0).1.ts.length)(t:M.Tk):
  aF (w.setCells g (k*3) (bO t)) i' ab nb cb bs aj nj cj (qs.set i ({(qs.getD i q0).1 with ts:=(qs.getD i q0).1.ts.set k t},(qs.getD i q0).2))∧w.grownBy (w.setCells g (k*3) (bO t)) (some g):=by
 have hl:=H.jl;have Aa:qs.getD i q0∈qs:=(by rw[tu,tw (by omega)];simp);have hT:=H.t _ Aa;rw[hg]at hT;obtain⟨h1,h2⟩:=hT.put hk t;obtain⟨c3,c2,c1⟩:=bK.1 H.d;have Ba:g∈ob (qs.getD i q0).2.1:=(by rw[hg];simp[ob]);have Ca:g∈qs.flatMap fun q=>ob q.2.1:=tU.2 ⟨_,Aa,Ba⟩;refine⟨⟨H.b.grown h2 fun x hx e=>(c3 x hx).2 (tm e ▸ Ca),by rw[List.length_set];exact hl,?_,?_,?_⟩,h2⟩
 ·
  rw[cV fu q0 qs i _ (by simp[fu,dJ]) (by omega)];exact eg H.j h2 fun x hx e=>c2 x hx (tm e ▸ Ca)
 ·
  intro q hq
  rcases cU (d:=q0) hq with rfl | ⟨k',h3,h4,rfl⟩
  ·
   dsimp only;rw[hg,List.length_set];exact h1
  ·
   have Da:qs.getD k' q0∈qs:=(by rw[tu,tw h4];simp);exact(H.t _ Da).grown h2 fun x hx e=>eZ (f:=fun q:MQ=>ob q.2.1) (d:=q0) c1 (by omega) h4 h3 g Ba (tm e ▸ hx)
 ·
  unfold bj;have e:=cV (fun q:MQ=>ob q.2.1) q0 qs i ({(qs.getD i q0).1 with ts:=(qs.getD i q0).1.ts.set k t},(qs.getD i q0).2) rfl (by omega);rw[e];exact H.d
end
def cf(p':Int)(p:M.Pf)(j:M.Jb):Bool:=decide ((M.Pf.rows p:Int)=j.rows)&&(decide (p.s=ep j.m j.s (p'*(j.rows-1)))&&M.acc j.m p)
section
open Go.ChangeShapes Go.WideShapes
theorem iX(r:M.Rl)(w:World):Rt 152 #[fO r,fO r] w (.bool true):=by
 obtain⟨a,b,c,d,f,k⟩:=r;dsimp only[fO];have n0:(a != a)=false:=(by simp);have n1:(b != b)=false:=(by simp);have n2:(c != c)=false:=(by simp);have n3:(d != d)=false:=(by simp);have n4:(f != f)=false:=(by simp);have n5:(k != k)=false:=(by simp);go_enter func152,ntmps152;go_wp2;go_ret;exact⟨rfl,((tv _ _).alloc (tr _) _).alloc (by simp) _⟩
theorem fz(m:M.Mc)(w:World):Rt 81 #[cQ m,cQ m] w (.bool true):=by
 have C1:=iX m.X;have C2:=iX m.Y;obtain⟨⟨a,b,c,d,f,k⟩,⟨a',b',c',d',f',k'⟩⟩:=m;dsimp only[cQ,fO]at C1 C2 ⊢;go_enter func81,ntmps81;have Ea:H9 (ae ((w.alloc (.cells (cu a b c d f k a' b' c' d' f' k').toArray 31)).alloc (.cells (cu a b c d f k a' b' c' d' f' k').toArray 31)) w.heap.size (cu a b c d f k a' b' c' d' f' k')):=(aI _ _ _).alloc _;have Fa:H9 (ae ((w.alloc (.cells (cu a b c d f k a' b' c' d' f' k').toArray 31)).alloc (.cells (cu a b c d f k a' b' c' d' f' k').toArray 31)) (w.heap.size+1) (cu a b c d f k a' b' c' d' f' k')):=aO _ _ _ _;have Ca:H9 (Below w.heap.size w ((w.alloc (.cells (cu a b c d f k a' b' c' d' f' k').toArray 31)).alloc (.cells (cu a b c d f k a' b' c' d' f' k').toArray 31))):=((tv _ _).alloc (tr _) _).alloc (by simp) _;(go_wp2_with fail);generalize((w.alloc (.cells (cu a b c d f k a' b' c' d' f' k').toArray 31)).alloc (.cells (cu a b c d f k a' b' c' d' f' k').toArray 31))=wa at *;refine(C1 _).mono ?_;rintro e wb ⟨rfl,hb⟩;have Aa:=Hd (Ea.o.belowS hb);have Ba:=Hd (Fa.o.belowS hb);have Da:=Hd (Ca.o.trans (hb.mono Ca.o.size));have x6:=Aa.o.c 6;have x7:=Aa.o.c 7;have x8:=Aa.o.c 8;have x9:=Aa.o.c 9;have Ha:=Aa.o.c 10;have Ia:=Aa.o.c 11;have y6:=Ba.o.c 6;have y7:=Ba.o.c 7;have y8:=Ba.o.c 8;have y9:=Ba.o.c 9;have Ja:=Ba.o.c 10;have Ka:=Ba.o.c 11;(go_wp2_with fail);refine(C2 _).mono ?_;rintro e wc ⟨rfl,hb⟩;have Ga:=Hd (Da.o.trans (hb.mono Da.o.size));go_wp2;go_ret;exact⟨rfl,Ga.o⟩
set_option maxRecDepth 10000 in
theorem ox{ta tb:Option Addr}{tn tc td:Nat}{tl:List M.Tk}(jid a b c d f k a' b' c' d' f' k' s1 s2 jr:Int)(jg:Bool)(w:World)(hz:aY w ta tn tc tl)(hy:aY w tb tn td tl):
  Rt 151 #[.agg #[.int .i64 jid,.int .i64 a,.int .i64 b,.int .i64 c,.int .i64 d,.int .i64 f,.int .i64 k,.int .i64 a',.int .i64 b',.int .i64 c',.int .i64 d',.int .i64 f',.int .i64 k',.int .i64 s1,.int .i64 s2,.int .i64 jr,.bool jg,.slice ta tn tc],.agg #[.int .i64 jid,.int .i64 a,.int .i64 b,.int .i64 c,.int .i64 d,.int .i64 f,.int .i64 k,.int .i64 a',.int .i64 b',.int .i64 c',.int .i64 d',.int .i64 f',.int .i64 k',.int .i64 s1,.int .i64 s2,.int .i64 jr,.bool jg,.slice tb tn td]] w (.bool true):=by
 have HZ:=Hd (hz);have HY:=Hd (hy);have C1:=fz ⟨⟨a,b,c,d,f,k⟩,⟨a',b',c',d',f',k'⟩⟩;have C2:=dV (s1,s2);dsimp only[cQ,cC]at C1 C2;have n0:(jid != jid)=false:=(by simp);have n1:(jr != jr)=false:=(by simp);have n2:(jg != jg)=false:=(by simp);go_enter func151,ntmps151;have Ha:H9 (ae ((w.alloc (.cells (br jid a b c d f k a' b' c' d' f' k' s1 s2 jr jg ta tn tc).toArray 45)).alloc (.cells (br jid a b c d f k a' b' c' d' f' k' s1 s2 jr jg tb tn td).toArray 45)) w.heap.size (br jid a b c d f k a' b' c' d' f' k' s1 s2 jr jg ta tn tc)):=(aI _ _ _).alloc _;have Ia:H9 (ae ((w.alloc (.cells (br jid a b c d f k a' b' c' d' f' k' s1 s2 jr jg ta tn tc).toArray 45)).alloc (.cells (br jid a b c d f k a' b' c' d' f' k' s1 s2 jr jg tb tn td).toArray 45)) (w.heap.size+1) (br jid a b c d f k a' b' c' d' f' k' s1 s2 jr jg tb tn td)):=aO _ _ _ _;have Fa:H9 (Below w.heap.size w ((w.alloc (.cells (br jid a b c d f k a' b' c' d' f' k' s1 s2 jr jg ta tn tc).toArray 45)).alloc (.cells (br jid a b c d f k a' b' c' d' f' k' s1 s2 jr jg tb tn td).toArray 45))):=((tv _ _).alloc (tr _) _).alloc (by simp) _;(go_wp2_with fail);generalize((w.alloc (.cells (br jid a b c d f k a' b' c' d' f' k' s1 s2 jr jg ta tn tc).toArray 45)).alloc (.cells (br jid a b c d f k a' b' c' d' f' k' s1 s2 jr jg tb tn td).toArray 45))=wa at *;refine(C1 _).mono ?_;rintro e wb ⟨rfl,hb⟩;have Ba:=Hd (Ha.o.belowS hb);have Ca:=Hd (Ia.o.belowS hb);have Ga:=Hd (Fa.o.trans (hb.mono Fa.o.size));have Ka:=Ba.o.c 13;have La:=Ba.o.c 14;have Na:=Ca.o.c 13;have Oa:=Ca.o.c 14;(go_wp2_with fail);refine(C2 _).mono ?_;rintro e wc ⟨rfl,hb⟩;have Da:=Hd (Ba.o.belowS hb);have Ea:=Hd (Ca.o.belowS hb);have Aa:=Hd (Ga.o.trans (hb.mono Ga.o.size));have Pa:=Da.o.c 15;have Qa:=Da.o.c 16;have Ra:=Da.o.c 17;have Sa:=Ea.o.c 15;have Ta:=Ea.o.c 16;have Ua:=Ea.o.c 17;(go_wp2_with fail);refine(rr _ (HZ.o.below Aa.o) (HY.o.below Aa.o)).mono ?_;rintro e wd ⟨rfl,hb⟩;have Ja:=Hd (Aa.o.trans (hb.mono Aa.o.size));go_wp2;go_ret;exact⟨rfl,Ja.o⟩
set_option maxRecDepth 10000 in
theorem rp{b:Option Addr}{dd:Nat}(w:World)(hz:dp w a n c js)(hy:dp w b n dd js):
  Rt 80 #[.slice a n c,.slice b n dd] w (.bool true):=by
 have HZ:=Hd (hz);have HY:=Hd (hy);have Xa:(n:Int)≤9223372036854775807:=(by have:=hz.big;have:=hz.le;omega);have Ya:(n:Int)≤c:=(by have:=hz.le;omega);have Za:(n:Int)≤dd:=(by have:=hy.le;omega);have n1:((n:Int) != (n:Int))=false:=(by simp);go_enter func80,ntmps80;go_wp2
 go_loopw [5] (fun i wr=>∃j:Nat,j≤n∧i=it j∧Below w.heap.size w wr) (fun i _=>n-(intOf i).toNat)
 case atStart=>exact⟨0,by omega,rfl,tv _ _⟩
 case round=>
  obtain⟨j,hj,rfl,Ea⟩:=hrel;have Fa:=Hd (Ea);clear Ea;by_cases Ja:j<n
  ·
   obtain⟨b1,o1,rfl,Pa⟩:=(HZ.o.below Fa.o).at (by omega);obtain⟨b2,o2,rfl,Qa⟩:=(HY.o.below Fa.o).at (by omega);obtain⟨ta,tc,hA,hT⟩:=Pa j Ja;obtain⟨tb,td,Ka,Ga⟩:=Qa j Ja;have hI:(j:Int)<(n:Int):=(by omega);generalize js.getD j M.j0=cq at hA hT Ka Ga;obtain⟨Aa,⟨⟨a,b,c',d,f,k⟩,⟨a',b',Ba,d',f',k'⟩⟩,⟨s1,s2⟩,jr,jg,tl⟩:=cq;dsimp only at hT Ga;have hR:wr.rangeAt b1 (o1+j*18) (dJ ⟨Aa,⟨⟨a,b,c',d,f,k⟩,⟨a',b',Ba,d',f',k'⟩⟩,(s1,s2),jr,jg,tl⟩ ta tc):=bw rfl hA;have Ha:wr.rangeAt b2 (o2+j*18) (dJ ⟨Aa,⟨⟨a,b,c',d,f,k⟩,⟨a',b',Ba,d',f',k'⟩⟩,(s1,s2),jr,jg,tl⟩ tb td):=bw rfl Ka;dsimp only[dJ]at hR Ha;have HT:=Hd (hT);have Ia:=Hd (Ga);generalize tl.length=tn at hR Ha HT Ia;go_wp2;have La:=Hd (Fa.o);have Ra:=Hd (HT.o);have Sa:=Hd (Ia.o);clear Fa HT Ia;refine cw wr none (by kernel_rfl) fun hHeld=>?_;generalize wr.drew=Ta at *;have Na:H9 (Below wr.heap.size wr Ta):=⟨hHeld.os,hHeld.tape,hHeld.output,hHeld.size,fun k hk=>hHeld.block k hk (by simp)⟩;refine tk 0 (.slice (some ⟨b1,o1,none⟩) n c) ?_ ?_
   ·intro wq Ca;go_simp
   refine tk 1 (it j) ?_ ?_
   ·intro wq Ca;go_simp
   refine tk 2 (.pointer (some ⟨b1,o1+j*18,none⟩)) ?_ ?_
   ·intro wq Ca;go_simp
   refine wpAnyH_take (i:=3) (v:=.agg (br Aa a b c' d f k a' b' Ba d' f' k' s1 s2 jr jg ta tn tc).toArray) rfl (by kernel_rfl) (by kernel_rfl) (by kernel_rfl) (fun _ _ _ h=>h) (tQ (by kernel_rfl) 45 (.tmp 19) rfl b1 (o1+j*18) rfl (br Aa a b c' d f k a' b' Ba d' f' k' s1 s2 jr jg ta tn tc) _ (fun W h i v hv=>h.cell (hR i v hv) (by simp)) underlying45 rfl (by kernel_rfl)) (by assumption) ?_;refine tk 4 (.slice (some ⟨b2,o2,none⟩) n dd) ?_ ?_
   ·intro wq Ca;go_simp
   refine tk 5 (it j) ?_ ?_
   ·intro wq Ca;go_simp
   refine tk 6 (.pointer (some ⟨b2,o2+j*18,none⟩)) ?_ ?_
   ·intro wq Ca;go_simp
   refine wpAnyH_take (i:=7) (v:=.agg (br Aa a b c' d f k a' b' Ba d' f' k' s1 s2 jr jg tb tn td).toArray) rfl (by kernel_rfl) (by kernel_rfl) (by kernel_rfl) (fun _ _ _ h=>h) (tQ (by kernel_rfl) 45 (.tmp 23) rfl b2 (o2+j*18) rfl (br Aa a b c' d f k a' b' Ba d' f' k' s1 s2 jr jg tb tn td) _ (fun W h i v hv=>h.cell (Ha i v hv) (by simp)) underlying45 rfl (by kernel_rfl)) (by assumption) ?_;refine ba 8 fun Kk hK=>?_;go_simp;refine(ox Aa a b c' d f k a' b' Ba d' f' k' s1 s2 jr jg _ (Ra.o.below Na.o) (Sa.o.below Na.o)).mono ?_;rintro e Oa ⟨rfl,Ea⟩;go_simp;have Da:wr.grownBy Oa none:=ap hHeld Ea;have Ua:H9 (Below wr.heap.size wr Oa):=⟨Da.os,Da.tape,Da.output,Da.size,fun k hk=>Da.block k hk (by simp)⟩;refine hK.out _ _ Da (fun _=>?_);clear hK Kk Ea;refine tk 9 (.bool false) ?_ ?_
   ·intro wq Ca;go_simp
   refine bt ?_;go_simp;have Va:=Hd (La.o.trans (Ua.o.mono La.o.size));go_wp2;go_roundw
   case rel=>exact⟨j+1,by omega,by go_num,Va.o⟩
   case measure=>simp[intOf];omega
  ·
   have Wa:j=n:=(by omega);subst Wa;go_wp2;go_ret;exact⟨rfl,Fa.o⟩
theorem dG{ab' aj':Option Addr}{nb cb nj cj cb' cj':Nat}{bs:List Int}(now tj:Int)(w:World)(hz:bv w ab nb cb aj nj cj bs js)(hy:bv w ab' nb cb' aj' nj cj' bs js):
  Rt 28 #[.agg #[.int .i64 now,.int .i64 tj,.slice ab nb cb,.slice aj nj cj],.agg #[.int .i64 now,.int .i64 tj,.slice ab' nb cb',.slice aj' nj cj']] w (.bool true):=by
 have HZ:=Hd (hz);have HY:=Hd (hy);have n0:(now != now)=false:=(by simp);have n1:(tj != tj)=false:=(by simp);go_enter func28,ntmps28;have Ca:H9 (ae ((w.alloc (.cells (au now tj ab nb cb aj nj cj).toArray 27)).alloc (.cells (au now tj ab' nb cb' aj' nj cj').toArray 27)) w.heap.size (au now tj ab nb cb aj nj cj)):=(aI _ _ _).alloc _;have Da:H9 (ae ((w.alloc (.cells (au now tj ab nb cb aj nj cj).toArray 27)).alloc (.cells (au now tj ab' nb cb' aj' nj cj').toArray 27)) (w.heap.size+1) (au now tj ab' nb cb' aj' nj cj')):=aO _ _ _ _;have Aa:H9 (Below w.heap.size w ((w.alloc (.cells (au now tj ab nb cb aj nj cj).toArray 27)).alloc (.cells (au now tj ab' nb cb' aj' nj cj').toArray 27))):=((tv _ _).alloc (tr _) _).alloc (by simp) _;(go_wp2_with fail);generalize((w.alloc (.cells (au now tj ab nb cb aj nj cj).toArray 27)).alloc (.cells (au now tj ab' nb cb' aj' nj cj').toArray 27))=wa at *;refine(gV _ (HZ.o.b.below Aa.o) (HY.o.b.below Aa.o)).mono ?_;rintro e wb ⟨rfl,hb⟩;have Ea:=Hd (Ca.o.belowS hb);have Fa:=Hd (Da.o.belowS hb);have Ba:=Hd (Aa.o.trans (hb.mono Aa.o.size));have x3:=Ea.o.c 3;have y3:=Fa.o.c 3;(go_wp2_with fail);refine(rp _ (HZ.o.j.below Ba.o) (HY.o.j.below Ba.o)).mono ?_;rintro e wc ⟨rfl,hb⟩;have Ga:=Hd (Ba.o.trans (hb.mono Ba.o.size));go_wp2;go_ret;exact⟨rfl,Ga.o⟩
end
section
open Go.ChangeShapes Go.WideShapes
section
variable {H:Type} {enc:TypeId×Value→H} {P:Program} {w:World} {i':Nat} {spare:Nat→Bool} {held:Bool}
def ik(enc:TypeId×Value→H)(P:Program)(w:World)(i':Nat)(spare:Nat→Bool)(held:Bool)(t:TypeId)(cs:List Value)(o n:Nat):Prop:=
 ∃tg y,DataW.trod enc P w i' spare held tg t ((cs.drop o).take n)=some y
theorem hC{tg:Nat}{y:DataW H×List MemPlace}(h:DataW.trod enc P w i' spare held tg t cs=some y)(n:Nat)(hn:cs.length≤n):ik enc P w i' spare held t cs 0 n:=
 ⟨tg,y,by rw[List.drop_zero,tF hn];exact h⟩
theorem ik.field{fs:Array Field}(h:ik enc P w i' spare held t cs o n)(ht:P.underlying t=some (.struct fs))(i:Nat)(f:Field)(hf:fs[i]?=some f)(k:Nat)(hk:P.cellsOf f.type=k)(hn:f.offset+k≤n):
  ik enc P w i' spare held f.type cs (o+f.offset) k:=by
 obtain⟨Aa,y,h⟩:=h;obtain⟨xs,m,-,-,-,Ba,hx⟩:=DataW.trod_struct ht h
 have hi:i<fs.size:=by
  rcases Nat.lt_or_ge i fs.size with h | h
  ·exact h
  ·rw[Array.getElem?_eq_none h]at hf;simp at hf
 have h1:=hx i f hf;rw[tw (by omega),hk]at h1;refine⟨m,xs[i]'(by omega),?_⟩;rw[←h1]
 congr 1
 rw[List.drop_take,List.take_take,List.drop_drop]
 congr 1
 omega
theorem ik.cell(h:(cs.drop o).take 1=[v]):cs[o]?=some v:=by
 have h1:((cs.drop o).take 1)[0]?=some v:=(by rw[h];rfl);rw[List.getElem?_take]at h1;simpa using h1
theorem ik.int{k:IntKind}(h:ik enc P w i' spare held t cs o 1)(ht:P.underlying t=some (.int k)):∃z,cs[o]?=some (.int k z)∧(Lit.int k z).wf=true:=by
 obtain⟨Aa,y,h⟩:=h;obtain⟨z,h1,-,h3⟩:=DataW.trod_int ht h;exact⟨z,ik.cell h1,h3⟩
theorem ik.bool(h:ik enc P w i' spare held t cs o 1)(ht:P.underlying t=some .bool):∃z,cs[o]?=some (.bool z):=by
 obtain⟨Aa,y,h⟩:=h;obtain⟨z,h1,-⟩:=DataW.trod_bool ht h;exact⟨z,ik.cell h1⟩
theorem ik.whole(h:ik enc P w i' spare held t cs o 1)(hl:o<cs.length):∃v,cs[o]?=some v∧∃tg y,DataW.trod enc P w i' spare held tg t [v]=some y:=by
 obtain⟨tg,y,h⟩:=h;refine⟨cs[o],tw hl,tg,y,?_⟩;rw[←h]
 congr 1
 rw[List.drop_eq_getElem_cons hl];rfl
end
end
section
open Go.ChangeShapes Go.WideShapes Go.Deep
theorem eN{H:Type}{enc:TypeId×Value→H}(h:∃tg y,DataW.trod enc prog W 0 (fun _=>true) true tg 24 [v]=some y):∃a n c z,v=.slice a n c∧ah W a n c z:=by
 obtain⟨tg,y,hf⟩:=h
 rcases open_ints underlying24 underlying2 (by kernel_rfl) hf with⟨hcs,_⟩ | ⟨x,l,c,zs,hcs,_,hl,hm,hz,_,hcell,hwz⟩
 ·
  simp at hcs;subst hcs;exact⟨none,0,0,[],rfl,rfl,by omega,by omega,fun _=>⟨rfl,rfl⟩,.inl rfl⟩
 ·
  simp at hcs;subst hcs;exact⟨some x,l,c,_,rfl,mY (.inr ⟨_,rfl,hl,hm,by simpa using hz,hcell,hwz⟩)⟩
set_option maxRecDepth 10000 in
theorem pE{H:Type}{enc:TypeId×Value→H}(h:∃tg y,DataW.trod enc prog W 0 (fun _=>true) true tg 236 [v]=some y):∃a n c z,v=.slice a n c∧aY W a n c z:=by
 obtain⟨tg,y,hf⟩:=h
 rcases Go.Deep.open_slice underlying236 hf with⟨hcs,_⟩ | ⟨x,n,c,m,nn,D,Pl,hcs,_,hl,hm,hmm,_,hx⟩
 ·
  simp at hcs;subst hcs;exact⟨none,0,0,[],rfl,rfl,by omega,by omega,fun _=>⟨rfl,rfl⟩,.inl rfl⟩
 ·
  simp at hcs;subst hcs;have Aa:m=c:=(by simpa using hmm);subst Aa;have ce:prog.cellsOf 348=3:=by kernel_rfl
  have Ba:∀i,i<m→∃q:M.Tk,∀j,j<3→W.cell? (x.add (i*3+j))=(bO q)[j]?:=by
   intro i hi;obtain⟨Ha,h1,h2⟩:=hx i hi;rw[ce]at h1;obtain⟨_,Ia,Ca⟩:=World.cells?_some h1;have P0:=hC h2 3 (by omega);obtain⟨x0,e0⟩:=(P0.field underlying348 0 _ rfl 1 (by kernel_rfl) (by decide)).bool underlying4;obtain⟨x1,e1,-⟩:=(P0.field underlying348 1 _ rfl 1 (by kernel_rfl) (by decide)).int underlying2;obtain⟨x2,e2,-⟩:=(P0.field underlying348 2 _ rfl 1 (by kernel_rfl) (by decide)).int underlying2;refine⟨⟨x0,x1,x2⟩,fun j hj=>?_⟩;have hc:=Ca j (by omega);rw[add_add]at hc;rw[hc];have Da:j=0∨j=1∨j=2:=by omega
   rcases Da with rfl | rfl | rfl
   ·exact e0
   ·exact e1
   ·exact e2
  haveI:Inhabited (M.Tk):=⟨M.t0⟩
  obtain⟨q,hq⟩:=Go.Deep.choose_lt Ba;refine⟨some x,n,m,(List.range n).map q,rfl,by simp,hl,(by unfold maxLen at hm;omega),(fun h=>by cases h),?_⟩;by_cases h0:n=0
  ·exact .inl h0
  ·
   obtain⟨b,Ea,Fa⟩:=x
   have Ga:Fa=none:=by
    have:=hq 0 (by omega) 0 (by omega);simpa[Addr.add]using World.cell?_spot (this.trans rfl)
   subst Ga;refine .inr ⟨b,Ea,rfl,fun i hi j hj=>?_⟩;have hg:((List.range n).map q).getD i M.t0=q i:=(by rw[tu];simp[hi]);rw[hg];have:=hq i (by omega) j hj;rw[Go.WideShapes.add_plain,←Nat.add_assoc]at this;exact this
set_option maxRecDepth 10000 in
theorem qE{H:Type}{enc:TypeId×Value→H}(h:∃tg y,DataW.trod enc prog W 0 (fun _=>true) true tg 63 [v]=some y):∃a n c z,v=.slice a n c∧dp W a n c z:=by
 obtain⟨tg,y,hf⟩:=h
 rcases Go.Deep.open_slice underlying63 hf with⟨hcs,_⟩ | ⟨x,n,c,m,nn,D,Pl,hcs,_,hl,hm,hmm,_,hx⟩
 ·
  simp at hcs;subst hcs;exact⟨none,0,0,[],rfl,rfl,by omega,by omega,fun _=>⟨rfl,rfl⟩,.inl rfl⟩
 ·
  simp at hcs;subst hcs;have Ba:m=c:=(by simpa using hmm);subst Ba;have ce:prog.cellsOf 238=18:=by kernel_rfl
  have Ca:∀i,i<m→∃q:M.Jb×Option Addr×Nat,(∀j,j<18→W.cell? (x.add (i*18+j))=(dJ q.1 q.2.1 q.2.2)[j]?)∧aY W q.2.1 q.1.ts.length q.2.2 q.1.ts:=by
   intro i hi;obtain⟨Bb,h1,h2⟩:=hx i hi;rw[ce]at h1;obtain⟨_,Da,Ea⟩:=World.cells?_some h1;have P0:=hC h2 18 (by omega);obtain⟨i0,Fa,-⟩:=(P0.field underlying238 0 _ rfl 1 (by kernel_rfl) (by decide)).int underlying2;have PM:=P0.field underlying238 1 _ rfl 12 (by kernel_rfl) (by decide);have PX:=PM.field underlying68 0 _ rfl 6 (by kernel_rfl) (by decide);have PY:=PM.field underlying68 1 _ rfl 6 (by kernel_rfl) (by decide);obtain⟨x0,Ga,-⟩:=(PX.field underlying66 0 _ rfl 1 (by kernel_rfl) (by decide)).int underlying2;obtain⟨x1,Ha,-⟩:=(PX.field underlying66 1 _ rfl 1 (by kernel_rfl) (by decide)).int underlying2;obtain⟨x2,Ia,-⟩:=(PX.field underlying66 2 _ rfl 1 (by kernel_rfl) (by decide)).int underlying2;obtain⟨x3,Ja,-⟩:=(PX.field underlying66 3 _ rfl 1 (by kernel_rfl) (by decide)).int underlying2;obtain⟨x4,Ka,-⟩:=(PX.field underlying66 4 _ rfl 1 (by kernel_rfl) (by decide)).int underlying2;obtain⟨x5,La,-⟩:=(PX.field underlying66 5 _ rfl 1 (by kernel_rfl) (by decide)).int underlying2;obtain⟨y0,Na,-⟩:=(PY.field underlying66 0 _ rfl 1 (by kernel_rfl) (by decide)).int underlying2;obtain⟨y1,Oa,-⟩:=(PY.field underlying66 1 _ rfl 1 (by kernel_rfl) (by decide)).int underlying2;obtain⟨y2,Pa,-⟩:=(PY.field underlying66 2 _ rfl 1 (by kernel_rfl) (by decide)).int underlying2;obtain⟨y3,Qa,-⟩:=(PY.field underlying66 3 _ rfl 1 (by kernel_rfl) (by decide)).int underlying2;obtain⟨y4,Ra,-⟩:=(PY.field underlying66 4 _ rfl 1 (by kernel_rfl) (by decide)).int underlying2;obtain⟨y5,Sa,-⟩:=(PY.field underlying66 5 _ rfl 1 (by kernel_rfl) (by decide)).int underlying2;have PS:=P0.field underlying238 2 _ rfl 2 (by kernel_rfl) (by decide);obtain⟨s0,Ta,-⟩:=(PS.field underlying69 0 _ rfl 1 (by kernel_rfl) (by decide)).int underlying2;obtain⟨s1,Ua,-⟩:=(PS.field underlying69 1 _ rfl 1 (by kernel_rfl) (by decide)).int underlying2;obtain⟨r0,Va,-⟩:=(P0.field underlying238 3 _ rfl 1 (by kernel_rfl) (by decide)).int underlying2;obtain⟨g0,Wa⟩:=(P0.field underlying238 4 _ rfl 1 (by kernel_rfl) (by decide)).bool underlying4;obtain⟨vt,Xa,tt⟩:=(P0.field underlying238 5 _ rfl 1 (by kernel_rfl) (by decide)).whole (by rw[Da];decide);obtain⟨ta,tn,tc,tz,rfl,hT⟩:=pE tt;have Aa:=hT.len;refine⟨(⟨i0,⟨⟨x0,x1,x2,x3,x4,x5⟩,⟨y0,y1,y2,y3,y4,y5⟩⟩,(s0,s1),r0,g0,tz⟩,ta,tc),fun j hj=>?_,by dsimp only;rw[Aa];exact hT⟩;have hc:=Ea j (by omega);rw[add_add]at hc;rw[hc];dsimp only[dJ];rw[Aa]
   match j,hj with
   | 0,_=>exact Fa
   | 1,_=>exact Ga
   | 2,_=>exact Ha
   | 3,_=>exact Ia
   | 4,_=>exact Ja
   | 5,_=>exact Ka
   | 6,_=>exact La
   | 7,_=>exact Na
   | 8,_=>exact Oa
   | 9,_=>exact Pa
   | 10,_=>exact Qa
   | 11,_=>exact Ra
   | 12,_=>exact Sa
   | 13,_=>exact Ta
   | 14,_=>exact Ua
   | 15,_=>exact Va
   | 16,_=>exact Wa
   | 17,_=>exact Xa
   | j+18,h=>exact absurd h (by omega)
  haveI:Inhabited (M.Jb×Option Addr×Nat):=⟨(M.j0,none,0)⟩
  obtain⟨q,hq⟩:=Go.Deep.choose_lt Ca;refine⟨some x,n,m,((List.range n).map fun i=>(q i).1),rfl,by simp,hl,(by unfold maxLen at hm;omega),(fun h=>by cases h),?_⟩;by_cases h0:n=0
  ·exact .inl h0
  ·
   obtain⟨b,Ya,Za⟩:=x
   have Ab:Za=none:=by
    have:=(hq 0 (by omega)).1 0 (by omega);simpa[Addr.add]using World.cell?_spot (this.trans rfl)
   subst Ab;refine .inr ⟨b,Ya,rfl,fun i hi=>?_⟩;have hg:((List.range n).map fun i=>(q i).1).getD i M.j0=(q i).1:=(by rw[tu];simp[hi]);rw[hg];refine⟨(q i).2.1,(q i).2.2,fun j hj=>?_,(hq i (by omega)).2⟩;have:=(hq i (by omega)).1 j hj;rw[Go.WideShapes.add_plain,←Nat.add_assoc]at this;exact this
theorem sV{l:List Value}(h:l.length=4):∃a b c d,l=[a,b,c,d]:=by
 match l,h with
 | [a,b,c,d],_=>exact⟨a,b,c,d,rfl⟩
set_option maxRecDepth 10000 in
theorem open_market{H:Type}{enc:TypeId×Value→H}{d:DataW H}{p:List MemPlace}(ho:Value.okWide prog W .any i' 65 v)(h:DataW.Trod enc prog W 0 (fun _=>true) true 65 v d p):
  ∃(now tj:Int) (ab:Option Addr) (nb cb:Nat) (aj:Option Addr) (nj cj:Nat) (bs:List Int) (js:List M.Jb),v=.agg #[.int .i64 now,.int .i64 tj,.slice ab nb cb,.slice aj nj cj]∧bv W ab nb cb aj nj cj bs js:=by
 simp only[Value.okWide,underlying65]at ho;obtain⟨cs,rfl,Aa,-⟩:=ho;have ce:prog.cellsOf 65=4:=(by kernel_rfl);rw[ce]at Aa;obtain⟨l⟩:=cs;obtain⟨Ba,hf⟩:=h;have hf:DataW.trod enc prog W 0 (fun _=>true) true Ba 65 l=some (d,p):=hf;have hl:l.length=4:=Aa;have P0:=hC hf 4 (by omega);obtain⟨now,g0,-⟩:=(P0.field underlying65 0 _ rfl 1 (by kernel_rfl) (by decide)).int underlying2;obtain⟨tj,g1,-⟩:=(P0.field underlying65 1 _ rfl 1 (by kernel_rfl) (by decide)).int underlying2;obtain⟨v2,g2,t2⟩:=(P0.field underlying65 2 _ rfl 1 (by kernel_rfl) (by decide)).whole (by rw[hl];decide);obtain⟨v3,g3,t3⟩:=(P0.field underlying65 3 _ rfl 1 (by kernel_rfl) (by decide)).whole (by rw[hl];decide);obtain⟨ab,nb,cb,bs,rfl,h2⟩:=eN t2;obtain⟨aj,nj,cj,js,rfl,h3⟩:=qE t3;clear t2 t3 P0 hf;obtain⟨x0,x1,x2,x3,rfl⟩:=sV hl;obtain rfl:=tm (show some x0=some _ from g0);obtain rfl:=tm (show some x1=some _ from g1);obtain rfl:=tm (show some x2=some _ from g2);obtain rfl:=tm (show some x3=some _ from g3);exact⟨now,tj,ab,nb,cb,aj,nj,cj,bs,js,rfl,h2,h3⟩
end
section
open Go.ChangeShapes Go.WideShapes
namespace card
abbrev nL:String:= "loop.example/g00319/impl.errLength"
abbrev nN:String:= "loop.example/g00319/impl.errNoElement"
theorem gL:prog.globalNamed nL=some 1:=by kernel_rfl
theorem gN:prog.globalNamed nN=some 0:=by kernel_rfl
theorem gT:prog.globalNamed "errors.errorType" = some 2:=by kernel_rfl
theorem tL:(prog.globals[1]?).map (·.type)=some 105:=by kernel_rfl
theorem tN:(prog.globals[0]?).map (·.type)=some 105:=by kernel_rfl
theorem cE:prog.cellsOf 422=1:=by kernel_rfl
theorem cS:prog.cellsOf 9=1:=by kernel_rfl
theorem star: "*" ++ "errors.errorString" = "*errors.errorString" :=by decide
theorem rowE(u:TypeId)(h:prog.typeName? 3 u=some "*errors.errorString"):u=401:=
 typeName_ptr_named (nm:= "errors.errorString") (by rw[star];kernel_rfl) (by kernel_rfl) (by decide) u (by rw[star];exact h)
theorem rt:(prog.cutTypes.find? (·.1== "internal/reflectlite.rtype")).map (·.2)=some 355:=by kernel_rfl
theorem oneRow:((List.range prog.types.size).filter fun t=>prog.rowNamed t [101,114,114,111,114])=[105]:=by kernel_rfl
abbrev laid:List (String×DataW Unit):=[("errors.errorType",Rows.laid_errors_errorType),(nN,Rows.laid_loop_example_g00319_impl_errNoElement),(nL,Rows.laid_loop_example_g00319_impl_errLength)]
theorem split(h:laidMetH prog laid W):laidMet prog [(nN,Rows.laid_loop_example_g00319_impl_errNoElement),(nL,Rows.laid_loop_example_g00319_impl_errLength)] W∧handlesMet prog [("errors.errorType",Rows.laid_errors_errorType)] W:=h
theorem handle(h':handlesMet prog [("errors.errorType",Rows.laid_errors_errorType)] W):W.cell? ⟨2,0,none⟩=some (.iface 355 (.agg #[.pointer (some ⟨6,105,none⟩)])):=by
 obtain⟨Aa,u,ty,e1,e2,e3,e4,e5⟩:=h' _ (List.mem_singleton.2 rfl);have en:Aa=[101,114,114,111,114]:=(tm e1).symm;subst en;obtain rfl:=tm (rt.symm.trans e2);have hm:ty∈(List.range prog.types.size).filter fun t=>prog.rowNamed t [101,114,114,111,114]:=List.mem_filter.2 ⟨List.mem_range.2 e3,e4⟩;rw[oneRow]at hm;obtain rfl:=List.mem_singleton.1 hm;have hh:typeHandle prog 105=.pointer (some ⟨6,105,none⟩):=(by kernel_rfl);rw[hh]at e5;simpa using World.var?_cell gT e5 0
theorem env(h:laidMetH prog laid W):∃aL aN,Env W aL aN∧W.var? prog nL=some #[.iface 401 (.pointer (some aL))]∧W.var? prog nN=some #[.iface 401 (.pointer (some aN))]:=by
 obtain⟨hs,hh⟩:=split h;obtain⟨aN,aL,s0,s1,c0,c1,t0,t1,Aa,Ba,Fa,Ga,Ha,Ia,Ja,Ka,Ca,Da,Ea⟩:=laid_sentinels2 hs gN tN gL tL underlying105 rowE underlying401 underlying422 rfl rfl underlying9 cE cS;exact⟨aL,aN,⟨by simpa using World.var?_cell gL Ba 0,by simpa using World.var?_cell gN Aa 0,handle hh,Ca,⟨_,_,Ea⟩,⟨_,_,Da⟩⟩,Ba,Aa⟩
end card
end
end Go.Proofs.YtjcjonncaknhnaaGreatDoor
