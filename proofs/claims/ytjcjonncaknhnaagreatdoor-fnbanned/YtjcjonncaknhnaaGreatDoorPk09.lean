import Derived.ProofKit
import Derived.Stop.LaidTwo
import Derived.LaidMore
import Derived.Test.YtjcjonncaknhnaaGreatDoorPk04
import Derived.Test.YtjcjonncaknhnaaGreatDoorPk05
namespace Go.Proofs.YtjcjonncaknhnaaGreatDoor
open Go.RowKit Go.Proofs.Tryz
set_option linter.unusedSimpArgs false
set_option maxHeartbeats 32000000
variable {e:TypeId}{i' size g n c k d nb cb nj cj m:Nat}{w w' W:World}{a ab aj b:Option Addr}{ts:List M.Tk}{xs:List Value}{row:Option Nat}{bs ys zs:List Int}{ps:List (Int×Int)}
theorem fH{cap:Nat}:∀(us:List Value) {w:World} {xs:List Value} (o:Nat),w.ownsRow i' e size (.slice (some ⟨g,0,none⟩) n cap) n xs→o+us.length≤xs.length→(w.setCells g o us).ownsRow i' e size (.slice (some ⟨g,0,none⟩) n cap) n (lK xs o us)∧w.grownBy (w.setCells g o us) (some g)
 | [],w,xs,o,h,_=>by
  have e:lK xs o []=xs:=(by unfold lK;rw[List.nil_append,List.length_nil,Nat.add_zero,List.take_append_drop]);rw[e];exact⟨h,World.grownBy.refl _ _⟩
 | u::us,w,xs,o,h,hl=>by
  have hl':o+(us.length+1)≤xs.length:=hl;obtain⟨h1,h2⟩:=h.stored o u;obtain⟨h3,h4⟩:=fH us (o+1) h1 (by rw[List.length_set];omega);rw[oT (by omega)]at h3;exact⟨h3,h2.trans h4⟩
theorem bw.block(h:bw w i' a n c ts)(h0:0<n):∃g,a=some ⟨g,0,none⟩:=by
 rcases h.2.2 with⟨_,e⟩ | ⟨g,cap,cur,e,_⟩
 ·omega
 ·simp only[Value.slice.injEq]at e;exact⟨g,e.1⟩
theorem bw.put(h:bw w i' (some ⟨g,0,none⟩) n c ts)(hk:k<n)(t:M.Tk):bw (w.setCells g (k*3) (dW t)) i' (some ⟨g,0,none⟩) n c (ts.set k t)∧w.grownBy (w.setCells g (k*3) (dW t)) (some g):=by
 have hl:=h.1;have hx:k*3+(dW t).length≤(ts.flatMap dW).length:=(by rw[dS dQ,dQ];omega);obtain⟨h1,h2⟩:=fH (dW t) (k*3) h.2 hx;rw[oo dQ ts t (by omega)]at h1;exact⟨⟨by rw[List.length_set];exact hl,h1⟩,h2⟩
theorem bw.there(h:bw w i' (some ⟨g,0,none⟩) n c ts)(hk:k<n):w.there g (k*3) 3:=fun j hj=>by
 have hl:=h.1;refine⟨?_,h.2.frozenAt _⟩;rw[h.2.cellAt _ (by omega),m6 (by rw[dS dQ];omega)]
 rfl
theorem bw.cells(h:bw w i' (some ⟨g,0,none⟩) n c ts){j:Nat}(hk:k<n)(hj:j<3):w.cell? ⟨g,k*3+j,none⟩=(dW (ts.getD k M.t0))[j]?:=by
 have hl:=h.1;rw[h.2.cellAt _ (by omega),fd dQ M.t0 ts (by omega) hj]
abbrev MQ:=M.Jb×Option Addr×Nat
def q0:MQ:=(M.j0,none,0)
def bY(ab aj:Option Addr)(qs:List MQ):List Nat:=ob ab++(ob aj++qs.flatMap fun q=>ob q.2.1)
structure aV(w:World)(i':Nat)(ab:Option Addr)(nb cb:Nat)(bs:List Int)(aj:Option Addr)(nj cj:Nat)(qs:List MQ):Prop where
 b:aC 2 w i' ab nb cb bs
 jl:qs.length=nj
 j:w.ownsRow i' 45 18 (.slice aj nj cj) nj (qs.flatMap iG)
 t:∀q∈qs,bw w i' q.2.1 q.1.ts.length q.2.2 q.1.ts
 d:(bY ab aj qs).Nodup
theorem iN(h:w.ownsRow i' e size (.slice a n c) n xs)(hg:w.grownBy w' row)(hr:∀g∈ob a,row≠some g):w'.ownsRow i' e size (.slice a n c) n xs:=by
 refine h.kept hg ?_
 cases e:(Value.slice a n c).ownBlock with
 | none=>exact .inl rfl
 | some g=>exact .inr (fun e2=>hr g (bq e) e2.symm)
theorem cK{qs:List MQ}:(bY ab aj qs).Nodup↔(∀g∈ob ab,g∉ob aj∧g∉qs.flatMap fun q=>ob q.2.1)∧(∀g∈ob aj,g∉qs.flatMap fun q=>ob q.2.1)∧(qs.flatMap fun q=>ob q.2.1).Nodup:=by
 have h1:∀a:Option Addr,(ob a).Nodup:=fun a=>by cases a <;> simp[ob]
 unfold bY;rw[List.nodup_append,List.nodup_append]
 constructor
 ·
  rintro⟨_,⟨_,c1,c2⟩,c3⟩;exact⟨fun g hg=>⟨fun e=>c3 g hg g (uG.2 (.inl e)) rfl,fun e=>c3 g hg g (uG.2 (.inr e)) rfl⟩,fun g hg e=>c2 g hg g e rfl,c1⟩
 ·
  rintro⟨c3,c2,c1⟩;exact⟨h1 _,⟨h1 _,c1,fun g hg g' hg' e=>c2 g hg (e ▸ hg')⟩,fun g hg g' hg' e=>(uG.1 hg').elim (fun x=>(c3 g hg).1 (e ▸ x)) (fun x=>(c3 g hg).2 (e ▸ x))⟩
section
variable {w w':World} {i':Nat} {ab:Option Addr} {nb cb:Nat} {bs:List Int} {aj:Option Addr} {nj cj:Nat} {qs:List MQ}
theorem aV.grown(H:aV w i' ab nb cb bs aj nj cj qs)(hg:w.grownBy w' row)(hr:∀g∈bY ab aj qs,row≠some g):aV w' i' ab nb cb bs aj nj cj qs:=
 ⟨H.b.grown hg fun g hg=>hr g (by simp[bY,hg]),H.jl,iN H.j hg fun g hg=>hr g (by simp[bY,hg]),fun q hq=>(H.t q hq).grown hg fun g hg=>hr g (by unfold bY;simp only[uG];exact .inr (.inr (uO.2 ⟨q,hq,hg⟩))),H.d⟩
theorem aV.below(H:aV w i' ab nb cb bs aj nj cj qs)(hb:m1 w w'):aV w' i' ab nb cb bs aj nj cj qs:=H.grown (bv hb none) (fun _ _=>by simp)
theorem aV.lt(H:aV w i' ab nb cb bs aj nj cj qs):∀g∈bY ab aj qs,i'≤g∧g<w.heap.size:=by
 intro g hg;unfold bY at hg;simp only[uG]at hg
 rcases hg with hg | hg | hg
 ·exact uH H.b g (cv hg)
 ·exact uH H.j g (cv hg)
 ·
  obtain⟨q,hq,hg⟩:=uO.1 hg;exact(H.t q hq).lt g hg
theorem dB(qs:List MQ)(i:Nat):(qs.map (·.1)).getD i M.j0=(qs.getD i q0).1:=by
 rw[m4,m4,List.getElem?_map]
 cases qs[i]? <;> rfl
theorem aV.sees(H:aV w i' ab nb cb bs aj nj cj qs):cH w ab nb cb aj nj cj bs (qs.map (·.1)):=by
 refine⟨H.b.sees,?_⟩;have hx:=H.j;have hl:=H.jl
 rcases hx.2 with⟨e,h0⟩ | ⟨g,cap,cur,e,hb,hh,hn,hm,hs,ht⟩
 ·
  simp only[Value.slice.injEq]at e;obtain⟨rfl,rfl,rfl⟩:=e;exact⟨by simpa using hl,m3 _,by decide,fun _=>⟨rfl,rfl⟩,.inl rfl⟩
 ·
  simp only[Value.slice.injEq,true_and]at e;obtain⟨rfl,rfl⟩:=e;refine⟨by simpa using hl,hn,by unfold maxLen at hm;omega,fun e=>by simp at e,?_⟩;refine .inr ⟨g,0,rfl,fun i hi=>⟨(qs.getD i q0).2.1,(qs.getD i q0).2.2,fun j hj=>?_,?_⟩⟩
  ·
   rw[Nat.zero_add,World.ownsRow.cellAt hx (i*18+j) (by omega),fd gu q0 qs (by omega) hj,dB]
   rfl
  ·
   rw[dB];have Aa:qs.getD i q0∈qs:=(by rw[m4,m6 (by omega)];simp);exact(H.t _ Aa).sees
theorem dq{α β:Type}(f:α→List β)(d:α):∀(qs:List α) (i:Nat) (q:α),f q=f (qs.getD i d)→i<qs.length→(qs.set i q).flatMap f=qs.flatMap f
 | [],_,_,_,h=>by simp at h
 | x::l,0,q,h,_=>by
  have h':f q=f x:=h;rw[List.set_cons_zero,uY,uY,h']
 | x::l,i+1,q,h,hi=>by
  rw[List.set_cons_succ,uY,uY,dq f d l i q h (by simpa using hi)]
theorem dP{α:Type}{d:α}:∀{qs:List α} {i:Nat} {q x:α},x∈qs.set i q→x=q∨∃k,k≠i∧k<qs.length∧x=qs.getD k d
 | [],_,_,_,h=>by simp at h
 | y::l,0,q,x,h=>by
  rw[List.set_cons_zero,List.mem_cons]at h
  rcases h with h | h
  ·exact .inl h
  ·
   obtain⟨k,hk,e⟩:=List.mem_iff_getElem.1 h;exact .inr ⟨k+1,by omega,by simpa using hk,by rw[←e];simp[m4,hk]⟩
 | y::l,i+1,q,x,h=>by
  rw[List.set_cons_succ,List.mem_cons]at h
  rcases h with h | h
  ·exact .inr ⟨0,by omega,by simp,h⟩
  ·
   rcases dP (d:=d) h with h | ⟨k,h1,h2,h3⟩
   ·exact .inl h
   ·exact .inr ⟨k+1,by omega,by simpa using h2,h3⟩
theorem ie{α:Type}{f:α→List Nat}{d:α}:∀{qs:List α},(qs.flatMap f).Nodup→∀{i k:Nat},i<qs.length→k<qs.length→k≠i→∀g∈f (qs.getD i d),g∉f (qs.getD k d)
 | [],_,_,_,h,_,_=>by simp at h
 | x::l,hn,i,k,hi,hk,hne=>by
  rw[uY,List.nodup_append]at hn;have mem:∀{j:Nat} {g:Nat},j<l.length→g∈f (l.getD j d)→g∈l.flatMap f:=fun{j g} hj hg=>uO.2 ⟨l.getD j d,by rw[m4,m6 hj];simp,hg⟩
  match i,k with
  | 0,0=>exact absurd rfl hne
  | 0,k+1=>exact fun g hg hg'=>hn.2.2 g hg g (mem (by simpa using hk) hg') rfl
  | i+1,0=>exact fun g hg hg'=>hn.2.2 g hg' g (mem (by simpa using hi) hg) rfl
  | i+1,k+1=>exact ie (d:=d) hn.2.1 (by simpa using hi) (by simpa using hk) (by omega)
theorem aV.task(H:aV w i' ab nb cb bs aj nj cj qs){i:Nat}(hi:i<nj)(hg:(qs.getD i q0).2.1=some ⟨g,0,none⟩)(hk:k<(qs.getD i q0).1.ts.length)(t:M.Tk):
  aV (w.setCells g (k*3) (dW t)) i' ab nb cb bs aj nj cj (qs.set i ({(qs.getD i q0).1 with ts:=(qs.getD i q0).1.ts.set k t},(qs.getD i q0).2))∧w.grownBy (w.setCells g (k*3) (dW t)) (some g):=by
 have hl:=H.jl;have Aa:qs.getD i q0∈qs:=(by rw[m4,m6 (by omega)];simp);have hT:=H.t _ Aa;rw[hg]at hT;obtain⟨h1,h2⟩:=hT.put hk t;obtain⟨c3,c2,c1⟩:=cK.1 H.d;have Ba:g∈ob (qs.getD i q0).2.1:=(by rw[hg];simp[ob]);have Ca:g∈qs.flatMap fun q=>ob q.2.1:=uO.2 ⟨_,Aa,Ba⟩;refine⟨⟨H.b.grown h2 fun x hx e=>(c3 x hx).2 (m2 e ▸ Ca),by rw[List.length_set];exact hl,?_,?_,?_⟩,h2⟩
 ·
  rw[dq iG q0 qs i _ (by simp[iG,eN]) (by omega)];exact iN H.j h2 fun x hx e=>c2 x hx (m2 e ▸ Ca)
 ·
  intro q hq
  rcases dP (d:=q0) hq with rfl | ⟨k',h3,h4,rfl⟩
  ·
   dsimp only;rw[hg,List.length_set];exact h1
  ·
   have Da:qs.getD k' q0∈qs:=(by rw[m4,m6 h4];simp);exact(H.t _ Da).grown h2 fun x hx e=>ie (f:=fun q:MQ=>ob q.2.1) (d:=q0) c1 (by omega) h4 h3 g Ba (m2 e ▸ hx)
 ·
  unfold bY;have e:=dq (fun q:MQ=>ob q.2.1) q0 qs i ({(qs.getD i q0).1 with ts:=(qs.getD i q0).1.ts.set k t},(qs.getD i q0).2) rfl (by omega);rw[e];exact H.d
end
theorem aK{a:World}{b:Nat}(h:a.grownBy w row)(hg:w.grownBy w' (some b))(hb:a.heap.size≤b):a.grownBy w' row:=
 ⟨hg.os.trans h.os,hg.tape.trans h.tape,hg.output.trans h.output,m8 h.size hg.size,fun i hi hr=>(hg.block i (uL hi h.size) (fun e=>by have:=m2 e;omega)).trans (h.block i hi hr)⟩
theorem aV.push{w7:World}{qs:List MQ}(H:aV w i' ab nb cb bs aj nj cj qs)(q:MQ)
 (hT:bw w i' q.2.1 q.1.ts.length q.2.2 q.1.ts)(hqa:∀g∈ob q.2.1,g∉bY ab aj qs){aj':Option Addr}{cj' z:Nat}(g7:w.grownBy w7 (Value.slice aj nj cj).ownBlock)(o7:w7.ownsRow i' 45 18 (.slice aj' (nj+1) cj') (nj+1) (qs.flatMap iG++iG q))(hz:w.heap.size≤z)
 (a7:(Value.slice aj' (nj+1) cj').ownBlock=(Value.slice aj nj cj).ownBlock∨(Value.slice aj' (nj+1) cj').ownBlock=some z):
  aV w7 i' ab nb cb bs aj' (nj+1) cj' (qs++[q])∧∀g,g<w.heap.size→g∉bY ab aj qs→g∉ob q.2.1→g∉bY ab aj' (qs++[q]):=by
 obtain⟨c3,c2,c1⟩:=cK.1 H.d;have Ba:=H.lt;have sj:∀{g},g∈(qs.flatMap fun q=>ob q.2.1)→g∈bY ab aj qs:=fun{g} hg=>by unfold bY;simp only[uG];exact .inr (.inr hg)
 have sb:∀{g},g∈ob ab→g∈bY ab aj qs:=fun{g} hg=>by simp[bY,hg]
 have si:∀{g},g∈ob aj→g∈bY ab aj qs:=fun{g} hg=>by simp[bY,hg]
 have ha:∀{g},g∈ob aj'→g∈ob aj∨w.heap.size≤g:=fun{g} hg=>by
  have e:=cv (n:=nj+1) (c:=cj') hg
  rcases a7 with e2 | e2
  ·exact .inl (bq (e2.symm.trans e))
  ·rw[e2]at e;injection e with e;exact .inr (by omega)
 have n7:∀{g},g∉ob aj→(Value.slice aj nj cj).ownBlock≠some g:=fun hn e=>hn (bq e);have Da:=fun g hg=>(hT.lt g hg).2;have fm:∀{g},g∈((qs++[q]).flatMap fun q=>ob q.2.1)↔g∈(qs.flatMap fun q=>ob q.2.1)∨g∈ob q.2.1:=fun{g}=>by simp[List.flatMap_append]
 have Aa:∀{g},g<w.heap.size→g∉ob aj→g∉ob aj':=fun{g} hg hn hi=>(ha hi).elim hn (fun h1=>by omega);refine⟨⟨H.b.grown g7 fun g hg=>n7 (c3 g hg).1,by rw[uW,H.jl];rfl,?_,?_,?_⟩,?_⟩
 ·rw[List.flatMap_append,uY,List.flatMap_nil,List.append_nil];exact o7
 ·
  intro x hx
  rcases uG.1 hx with hx | hx
  ·exact(H.t x hx).grown g7 fun g hg=>n7 fun e=>c2 g e (uO.2 ⟨x,hx,hg⟩)
  ·
   simp only[List.mem_singleton]at hx;subst hx;exact hT.grown g7 fun g hg=>n7 fun e=>hqa g hg (si e)
 ·
  refine cK.2 ⟨fun g hg=>⟨Aa (Ba g (sb hg)).2 (c3 g hg).1,fun e=>?_⟩,fun g hg e=>?_,?_⟩
  ·
   rcases fm.1 e with e | e
   ·exact(c3 g hg).2 e
   ·exact hqa g e (sb hg)
  ·
   rcases fm.1 e with e | e
   ·exact Aa (Ba g (sj e)).2 (fun h1=>c2 g h1 e) hg
   ·exact Aa (Da g e) (fun h1=>hqa g e (si h1)) hg
  ·
   rw[List.flatMap_append,List.nodup_append];refine⟨c1,?_,?_⟩
   ·
    have h1:(ob q.2.1).Nodup:=(by cases q.2.1 <;> simp[ob]);simpa using h1
   ·
    intro g hg g' Ca e;subst e;simp only[uY,List.flatMap_nil,List.append_nil]at Ca;exact hqa g Ca (sj hg)
 ·
  intro g hg hn hq hm;unfold bY at hm;simp only[uG]at hm
  rcases hm with e | e | e
  ·exact hn (sb e)
  ·exact Aa hg (fun h1=>hn (si h1)) e
  ·
   rcases fm.1 e with e | e
   ·exact hn (sj e)
   ·exact hq e
theorem fg:(prog.info? 45).map (fun i=>(i.zero,i.size,i.bytes))=some (some (.agg #[.int .i64 0,.int .i64 0,.int .i64 0,.int .i64 0,.int .i64 0,.int .i64 0,.int .i64 0,.int .i64 0,.int .i64 0,.int .i64 0,.int .i64 0,.int .i64 0,.int .i64 0,.int .i64 0,.int .i64 0,.int .i64 0,.bool false,.slice none 0 0]),18,160):=by kernel_rfl
theorem gv{b:Nat}{vs:List Value}(h:au W b vs):∀j u,vs[j]?=some u→W.cell? ((⟨b,0,none⟩:Addr).add j)=some u:=by
 intro j u hj;have h1:=h.at j;rw[hj]at h1;unfold Addr.add
 split
 ·rename_i e;subst e;exact h1
 ·rw[Nat.zero_add];exact h1
theorem mA(j:M.Jb)(a:Option Addr)(c:Nat):∀u∈eN j a c,u.oneCell'=true:=by
 intro u hu;simp only[eN,List.mem_cons,List.not_mem_nil,or_false]at hu
 rcases hu with rfl | rfl | rfl | rfl | rfl | rfl | rfl | rfl | rfl | rfl | rfl | rfl | rfl | rfl | rfl | rfl | rfl | rfl <;> rfl
theorem iM{v:Value}(h:w.ownsRow i' e size v n xs):∃a cap,v=.slice a n cap:=by
 rcases h.2 with⟨rfl,rfl⟩ | ⟨g,cap,cur,rfl,_⟩
 ·exact⟨none,0,rfl⟩
 ·exact⟨_,cap,rfl⟩
def l9(w:World)(i':Nat)(m:Value)(now uB:Int)(bs:List Int)(js:List M.Jb)(w':World):Prop:=
 ∃ab nb cb aj nj cj qs,m=.agg #[.int .i64 now,.int .i64 uB,.slice ab nb cb,.slice aj nj cj]∧aV w' i' ab nb cb bs aj nj cj qs∧qs.map (·.1)=js∧Below i' w w'
set_option maxRecDepth 10000 in
theorem qE{js:List M.Jb}(now uB:Int)(w:World)(hz:cH w ab nb cb aj nj cj bs js)(hf:M.Right now uB bs js):
  Calls prog 41 #[.agg #[.int .i64 now,.int .i64 uB,.slice ab nb cb,.slice aj nj cj]] w fun e w'=>∃v,e=.returned v∧l9 w w.heap.size v now uB bs js w':=by
 have HM:=Hd hz;have HR:=Hd hf;have Lc:=Hd hz.b.len;have Ae:=Hd hz.b.no;have Ri:nb≤9:=(by have:=iw hf.bn;rw[Lc.o]at this;exact this);have Si:=hz.j.len;have Ti:nj≤6:=(by have:=hf.few;omega);have Ui:(nj:Int)≤9223372036854775807:=(by omega);have Vi:(nj:Int)≤cj:=(by have:=hz.j.le;omega);have Vc:H9 (((bs.take nb).map (Value.int .i64)).length=nb*1):=(by show _=_;have:=Lc.o;simp;omega);clear hz hf;obtain⟨i0,hi,Eb,Fb,Gb⟩:=info_parts bJ;go_enter func41,ntmps41;have Gc:=ct w (aI now uB ab nb cb aj nj cj) 27;have Ac:H9 (m1 w (w.alloc (.cells (aI now uB ab nb cb aj nj cj).toArray 27))):=(m5 _ _).alloc (m3 _) _;have Xe:H9 ((w.alloc (.cells (aI now uB ab nb cb aj nj cj).toArray 27)).heap.size=w.heap.size+1):=(by show _=_;simp);(go_wp2_with fail);generalize(w.alloc (.cells (aI now uB ab nb cb aj nj cj).toArray 27))=wa at *;have Be:=eK wa (.cells aT.toArray 27);have Ye:=Xe.o;have Qb:=Gc.b Be;have Hc:=Ac.t Be;clear Gc Ac;clear Be;have Wc:H9 (au (wa.alloc (.cells aT.toArray 27)) (w.heap.size+1) aT):=(by rw[←Ye];exact aO _ _ _);have Sa:H9 (w.heap.size+1<(wa.alloc (.cells aT.toArray 27)).heap.size):=(by show _<_;simp;omega);generalize(wa.alloc (.cells aT.toArray 27))=wq at *;clear Ye Xe;have Ze:=Hd Qb.o.2.2;have Ab:=Hd (Nat.le_of_lt Ze.o);apply eV
 case f=>
  intro key;refine cB wq none (by kernel_rfl) fun hHeld=>?_;have Xc:m1 wq wq.drew:=(m5 _ _).drew;have Yc:=Qb.b Xc;have Bc:=Hc.t Xc;have Zc:=Wc.b Xc;generalize wq.drew=Pa at *;clear Xc;have Ad:=Hd (HM.o.b.below Bc.o);refine tk 0 (.pointer (some ⟨w.heap.size,0,none⟩)) ?_ ?_
  ·intro wq Nc;go_simp
  (try simp only[Act.put]);refine tk 1 (it now) ?_ ?_
  ·intro wp Oc;have c0:=(Qb.o.grown Oc (by simp)).c 0;go_simp
  (try simp only[Act.put]);refine tk 2 (.pointer (some ⟨w.heap.size,1,none⟩)) ?_ ?_
  ·intro wq Nc;go_simp
  (try simp only[Act.put]);refine tk 3 (it uB) ?_ ?_
  ·intro wp Oc;have c0:=(Qb.o.grown Oc (by simp)).c 1;go_simp
  (try simp only[Act.put]);refine tk 5 (.pointer (some ⟨w.heap.size,2,none⟩)) ?_ ?_
  ·intro wq Nc;go_simp
  (try simp only[Act.put]);refine tk 6 (.slice ab nb cb) ?_ ?_
  ·intro wp Oc;have c0:=(Qb.o.grown Oc (by simp)).c 2;go_simp
  (try simp only[Act.put]);refine uT (rs:=[4,9]) (by kernel_rfl) (by simp) ?_;refine uC rfl (fun Kk hK=>?_) (uC rfl (fun Kk hK=>?_) (uJ));go_simp;have Ba:=eK Pa (.cells #[] 2);have Bb:wq.grownBy (Pa.alloc (.cells #[] 2)) none:=bj hHeld _;have Rb:=Yc.b Ba;have Hb:=Bc.t Ba;have Sb:=Zc.b Ba;have Cc:=Hd (Ad.o.below Ba);have Ua:H9 (wq.heap.size≤Pa.heap.size∧Pa.heap.size<(Pa.alloc (.cells #[] 2)).heap.size):=⟨hHeld.size,by simp⟩;have Pc:H9 ((Pa.alloc (.cells #[] 2)).ownsRow w.heap.size 2 1 (.slice (some ⟨Pa.heap.size,0,none⟩) 0 0) 0 []):=World.ownsRow_made _ #[] 0 (m8 Ab.o hHeld.size) (by unfold maxLen;omega) (by simp);clear Yc Bc Zc Ad;refine hK.out _ _ Bb (fun hzz=>?_);clear hK Kk hzz Ba;(try simp only[Act.put]);generalize(Pa.alloc (.cells #[] 2))=Ga at *;generalize Pa.heap.size=sl at Rb Sb Ua Pc ⊢;refine uT (rs:=[7,9]) (by kernel_rfl) (by simp) ?_;refine uC rfl (fun Kk hK=>?_) (uC rfl (fun Kk hK=>?_) (uJ));refine dw rfl (.tmp 10) (.tmp 12) 24 rfl w.heap.size 2 i0 (it 0) 1 8 underlying24 hi Eb Fb Gb rfl (by decide) (.slice (some ⟨sl,0,none⟩) 0 0) 0 [] (by simp[Act.eval]) Pc.o ab nb cb ((bs.take nb).map (Value.int .i64)) (by simp[Act.eval]) Vc.o Ae.o (db (Cc.o) nb (m3 _)) (dh _) (by unfold maxLen;omega) (by omega) (m8 Ab.o Bb.size) ?_;intro v' Ka Oa Qa Ta;have hown':Ka.ownsRow w.heap.size 2 1 v' nb (bs.map (Value.int .i64)):=(by rw[Nat.zero_add,List.nil_append,uD (Nat.le_of_eq Lc.o)]at Oa;exact Oa);obtain⟨Aa,Ca,rfl,ho⟩:=aC.form hown';have Ea:Ga.grownBy Ka (some sl):=Qa;have Va:=aK Bb Ea Ua.o.1;clear Pc;have Ib:∀g∈ob Aa,g=sl∨g=Ga.heap.size:=fun g hg=>by have e:=cv (n:=nb) (c:=Ca) hg;rcases Ta with e2 | e2 <;> rw[e2]at e <;> have e:=m2 e <;> first | exact .inl e.symm | exact .inr e.symm
  have Nb:=Hd (Rb.o.grown Ea (fun e=>by have:=m2 e;have:=Ua.o.1;have:=Sa.o;omega));have Cb:=Hd (Hb.o.trans (ap Ea Hb.o.size (fun z e=>by have:=m2 e;have:=Ua.o.1;have:=Ab.o;omega)));have Ob:=Hd (Sb.o.grown Ea (fun e=>by have:=m2 e;have:=Ua.o.1;have:=Sa.o;omega));have Ra:H9 (wq.heap.size≤sl∧sl<Ka.heap.size):=⟨Ua.o.1,uL Ua.o.2 Ea.size⟩;have Af:=Hd ho;have Bf:=Hd (fun g hg=>(uH ho g (cv hg)).2);have Cf:H9 (∀g∈ob Aa,wq.heap.size≤g):=fun g hg=>by rcases Ib g hg with h1 | h1;have:=Ua.o.1;omega;have:=Bb.size;omega
  clear Rb Hb Sb Ua;refine hK.out _ _ Va (fun hzz=>?_);clear hK Kk hzz Oa hown' Qa Ta ho Ea Ib Cc;(try simp only[Act.put]);refine tk 8 (.agg (d7 now uB Aa nb Ca).toArray) ?_ ?_
  ·intro wq Nc;go_simp
  (try simp only[Act.put]);refine aX 9 fun Kk hK=>?_;rw[if_pos (by kernel_rfl)];refine bL 27 rfl aT.toArray (by kernel_rfl) ?_;have Ba:=eK Ka (.cells aT.toArray 27);have Tb:wq.grownBy (Ka.alloc (.cells aT.toArray 27)) none:=bj Va _;have Bd:sl≠Ka.heap.size:=fun e=>by have:=Ra.o.2;omega
  have Ub:=Nb.b Ba;have Db:=Cb.t Ba;have Vb:=Ob.b Ba;have Wb:=Hd (Af.o.below Ba);have Xb:=Hd Cf.o;have Xa:=ct Ka aT 27;have Ha:H9 (wq.heap.size≤Ka.heap.size∧Ka.heap.size<(Ka.alloc (.cells aT.toArray 27)).heap.size):=⟨Va.size,by simp⟩;have Ya:H9 (∀g∈ob Aa,g≠Ka.heap.size):=fun g hg e=>by have:=Bf.o g hg;omega
  clear Nb Cb Ob Ra Af Bf Cf;refine hK.out _ _ Tb (fun hzz=>?_);clear hK Kk hzz Ba Bd;(try simp only[Act.put]);generalize(Ka.alloc (.cells aT.toArray 27))=Da at *;generalize Ka.heap.size=ou at Xa Ha Ya ⊢;refine aX 10 fun Kk hK=>?_;rw[if_pos (by kernel_rfl)];with_reducible refine wp_store_mid 27 (.tmp 3) (.tmp 14) ?_ ou 0 ((d7 now uB Aa nb Ca):List Value).toArray ?_ ?_ ?_ (by kernel_rfl) (by kernel_rfl) ?_
  ·exact rfl
  ·exact rfl
  ·exact rfl
  ·exact Xa.o.there 0 4 (by simp)
  have La:=cm Da ou 0 (d7 now uB Aa nb Ca);have Ic:=aK Tb La Ha.o.1;have Yb:au (Da.setCells ou 0 (d7 now uB Aa nb Ca)) ou (d7 now uB Aa nb Ca):=Xa.o.setCells (d7 now uB Aa nb Ca) 0 (by simp);clear Xa;have Cd:=Hd (Ub.o.grown La (fun e=>by have:=m2 e;have:=Ha.o.1;have:=Sa.o;omega));have Dd:=Hd (Db.o.trans (ap La Db.o.size (fun z e=>by have:=m2 e;have:=Ha.o.1;have:=Ab.o;omega)));have Ed:=Hd (Vb.o.grown La (fun e=>by have:=m2 e;have:=Ha.o.1;have:=Sa.o;omega));have Fd:=Hd (Wb.o.grown La (fun g hg e=>Ya.o g hg (m2 e).symm));have Gd:=Hd Xb.o;have Id:H9 (wq.heap.size≤ou∧ou<(Da.setCells ou 0 (d7 now uB Aa nb Ca)).heap.size):=⟨Ha.o.1,uL Ha.o.2 La.size⟩;have Jd:=Hd Ya.o;have Kd:=Hd Yb;clear Ub Db Vb Wb Xb Ha Ya;refine hK.out _ _ Ic (fun hzz=>?_);clear hK Kk hzz La Yb;(try simp only[Act.put]);generalize(Da.setCells ou 0 (d7 now uB Aa nb Ca))=Ce at *
  rotate_left
  rw[if_pos (by kernel_rfl)];refine bL 27 rfl aT.toArray (by kernel_rfl) ?_;have Ba:=eK Ga (.cells aT.toArray 27);have Va:wq.grownBy (Ga.alloc (.cells aT.toArray 27)) none:=bj Bb _;have Bd:sl≠Ga.heap.size:=fun e=>by have:=Ua.o.2;omega
  have Nb:=Rb.b Ba;have Cb:=Hb.t Ba;have Ob:=Sb.b Ba;have Qc:=Hd (Cc.o.below Ba);have Ra:H9 (wq.heap.size≤sl∧sl<(Ga.alloc (.cells aT.toArray 27)).heap.size):=⟨Ua.o.1,uL Ua.o.2 Ba.size⟩;have Jc:=Hd (iN Pc.o (bv Ba none) (fun _ _=>by simp));have Dc:=ct Ga aT 27;have Kb:H9 (wq.heap.size≤Ga.heap.size∧Ga.heap.size<(Ga.alloc (.cells aT.toArray 27)).heap.size):=⟨Bb.size,by simp⟩;have Ld:=Hd Bd;clear Rb Hb Sb Cc Ua Pc;refine hK.out _ _ Va (fun hzz=>?_);clear hK Kk hzz Ba Bd;(try simp only[Act.put]);generalize(Ga.alloc (.cells aT.toArray 27))=Ka at *;generalize Ga.heap.size=ou at Dc Kb Ld ⊢;refine aX 7 fun Kk hK=>?_;refine dw rfl (.tmp 10) (.tmp 12) 24 rfl w.heap.size 2 i0 (it 0) 1 8 underlying24 hi Eb Fb Gb rfl (by decide) (.slice (some ⟨sl,0,none⟩) 0 0) 0 [] (by simp[Act.eval]) Jc.o ab nb cb ((bs.take nb).map (Value.int .i64)) (by simp[Act.eval]) Vc.o Ae.o (db (Qc.o) nb (m3 _)) (dh _) (by unfold maxLen;omega) (by omega) (m8 Ab.o Va.size) ?_;intro v' Da Oa Qa Ta;have hown':Da.ownsRow w.heap.size 2 1 v' nb (bs.map (Value.int .i64)):=(by rw[Nat.zero_add,List.nil_append,uD (Nat.le_of_eq Lc.o)]at Oa;exact Oa);obtain⟨Aa,Ca,rfl,ho⟩:=aC.form hown';have Ea:Ka.grownBy Da (some sl):=Qa;have Tb:=aK Va Ea Ra.o.1;clear Jc;have Ib:∀g∈ob Aa,g=sl∨g=Ka.heap.size:=fun g hg=>by have e:=cv (n:=nb) (c:=Ca) hg;rcases Ta with e2 | e2 <;> rw[e2]at e <;> have e:=m2 e <;> first | exact .inl e.symm | exact .inr e.symm
  have Ub:=Hd (Nb.o.grown Ea (fun e=>by have:=m2 e;have:=Ra.o.1;have:=Sa.o;omega));have Db:=Hd (Cb.o.trans (ap Ea Cb.o.size (fun z e=>by have:=m2 e;have:=Ra.o.1;have:=Ab.o;omega)));have Vb:=Hd (Ob.o.grown Ea (fun e=>by have:=m2 e;have:=Ra.o.1;have:=Sa.o;omega));have Xa:=Hd (Dc.o.grown Ea (fun e=>Ld.o (m2 e)));have Ha:H9 (wq.heap.size≤ou∧ou<Da.heap.size):=⟨Kb.o.1,uL Kb.o.2 Ea.size⟩;have Wb:=Hd ho;have Ya:H9 (∀g∈ob Aa,g≠ou):=fun g hg e=>by rcases Ib g hg with h1 | h1;exact Ld.o (h1.symm.trans e);have:=Kb.o.2;omega
  have Xb:H9 (∀g∈ob Aa,wq.heap.size≤g):=fun g hg=>by rcases Ib g hg with h1 | h1;have:=Ra.o.1;omega;have:=Va.size;omega
  clear Nb Cb Ob Ra Dc Kb Ld;refine hK.out _ _ Tb (fun hzz=>?_);clear hK Kk hzz Oa hown' Qa Ta ho Ea Ib Qc;(try simp only[Act.put]);refine tk 8 (.agg (d7 now uB Aa nb Ca).toArray) ?_ ?_
  ·intro wq Nc;go_simp
  (try simp only[Act.put]);refine aX 10 fun Kk hK=>?_;rw[if_pos (by kernel_rfl)];with_reducible refine wp_store_mid 27 (.tmp 3) (.tmp 14) ?_ ou 0 ((d7 now uB Aa nb Ca):List Value).toArray ?_ ?_ ?_ (by kernel_rfl) (by kernel_rfl) ?_
  ·exact rfl
  ·exact rfl
  ·exact rfl
  ·exact Xa.o.there 0 4 (by simp)
  have La:=cm Da ou 0 (d7 now uB Aa nb Ca);have Ic:=aK Tb La Ha.o.1;have Yb:au (Da.setCells ou 0 (d7 now uB Aa nb Ca)) ou (d7 now uB Aa nb Ca):=Xa.o.setCells (d7 now uB Aa nb Ca) 0 (by simp);clear Xa;have Cd:=Hd (Ub.o.grown La (fun e=>by have:=m2 e;have:=Ha.o.1;have:=Sa.o;omega));have Dd:=Hd (Db.o.trans (ap La Db.o.size (fun z e=>by have:=m2 e;have:=Ha.o.1;have:=Ab.o;omega)));have Ed:=Hd (Vb.o.grown La (fun e=>by have:=m2 e;have:=Ha.o.1;have:=Sa.o;omega));have Id:H9 (wq.heap.size≤ou∧ou<(Da.setCells ou 0 (d7 now uB Aa nb Ca)).heap.size):=⟨Ha.o.1,uL Ha.o.2 La.size⟩;have Fd:=Hd (Wb.o.grown La (fun g hg e=>Ya.o g hg (m2 e).symm));have Jd:=Hd Ya.o;have Gd:=Hd Xb.o;have Kd:=Hd Yb;clear Ub Db Vb Ha Wb Ya Xb;refine hK.out _ _ Ic (fun hzz=>?_);clear hK Kk hzz La Yb;(try simp only[Act.put]);generalize(Da.setCells ou 0 (d7 now uB Aa nb Ca))=Ce at *
  rotate_left
  rw[if_pos (by kernel_rfl)];refine bL 27 rfl aT.toArray (by kernel_rfl) ?_;have Ba:=eK Pa (.cells aT.toArray 27);have Bb:wq.grownBy (Pa.alloc (.cells aT.toArray 27)) none:=bj hHeld _;have Rb:=Yc.b Ba;have Hb:=Bc.t Ba;have Sb:=Zc.b Ba;have Cc:=Hd (Ad.o.below Ba);have De:=ct Pa aT 27;have Rc:H9 (wq.heap.size≤Pa.heap.size∧Pa.heap.size<(Pa.alloc (.cells aT.toArray 27)).heap.size):=⟨hHeld.size,by simp⟩;clear Yc Bc Zc Ad;refine hK.out _ _ Bb (fun hzz=>?_);clear hK Kk hzz Ba;(try simp only[Act.put]);generalize(Pa.alloc (.cells aT.toArray 27))=Ga at *;generalize Pa.heap.size=ou at De Rc ⊢;refine aX 4 fun Kk hK=>?_;go_simp;have Ba:=eK Ga (.cells #[] 2);have Va:wq.grownBy (Ga.alloc (.cells #[] 2)) none:=bj Bb _;have Df:ou≠Ga.heap.size:=fun e=>by have:=Rc.o.2;omega
  have Nb:=Rb.b Ba;have Cb:=Hb.t Ba;have Ob:=Sb.b Ba;have Qc:=Hd (Cc.o.below Ba);have Dc:=De.b Ba;have Kb:H9 (wq.heap.size≤ou∧ou<(Ga.alloc (.cells #[] 2)).heap.size):=⟨Rc.o.1,uL Rc.o.2 Ba.size⟩;have Ra:H9 (wq.heap.size≤Ga.heap.size∧Ga.heap.size<(Ga.alloc (.cells #[] 2)).heap.size):=⟨Bb.size,by simp⟩;have Nd:=Hd Df;have Jc:H9 ((Ga.alloc (.cells #[] 2)).ownsRow w.heap.size 2 1 (.slice (some ⟨Ga.heap.size,0,none⟩) 0 0) 0 []):=World.ownsRow_made _ #[] 0 (m8 Ab.o Bb.size) (by unfold maxLen;omega) (by simp);clear Rb Hb Sb Cc De Rc;refine hK.out _ _ Va (fun hzz=>?_);clear hK Kk hzz Ba Df;(try simp only[Act.put]);generalize(Ga.alloc (.cells #[] 2))=Ka at *;generalize Ga.heap.size=sl at Nb Ob Dc Ra Nd Jc ⊢;refine aX 7 fun Kk hK=>?_;refine dw rfl (.tmp 10) (.tmp 12) 24 rfl w.heap.size 2 i0 (it 0) 1 8 underlying24 hi Eb Fb Gb rfl (by decide) (.slice (some ⟨sl,0,none⟩) 0 0) 0 [] (by simp[Act.eval]) Jc.o ab nb cb ((bs.take nb).map (Value.int .i64)) (by simp[Act.eval]) Vc.o Ae.o (db (Qc.o) nb (m3 _)) (dh _) (by unfold maxLen;omega) (by omega) (m8 Ab.o Va.size) ?_;intro v' Da Oa Qa Ta;have hown':Da.ownsRow w.heap.size 2 1 v' nb (bs.map (Value.int .i64)):=(by rw[Nat.zero_add,List.nil_append,uD (Nat.le_of_eq Lc.o)]at Oa;exact Oa);obtain⟨Aa,Ca,rfl,ho⟩:=aC.form hown';have Ea:Ka.grownBy Da (some sl):=Qa;have Tb:=aK Va Ea Ra.o.1;clear Jc;have Ib:∀g∈ob Aa,g=sl∨g=Ka.heap.size:=fun g hg=>by have e:=cv (n:=nb) (c:=Ca) hg;rcases Ta with e2 | e2 <;> rw[e2]at e <;> have e:=m2 e <;> first | exact .inl e.symm | exact .inr e.symm
  have Ub:=Hd (Nb.o.grown Ea (fun e=>by have:=m2 e;have:=Ra.o.1;have:=Sa.o;omega));have Db:=Hd (Cb.o.trans (ap Ea Cb.o.size (fun z e=>by have:=m2 e;have:=Ra.o.1;have:=Ab.o;omega)));have Vb:=Hd (Ob.o.grown Ea (fun e=>by have:=m2 e;have:=Ra.o.1;have:=Sa.o;omega));have Xa:=Hd (Dc.o.grown Ea (fun e=>Nd.o (m2 e).symm));have Ha:H9 (wq.heap.size≤ou∧ou<Da.heap.size):=⟨Kb.o.1,uL Kb.o.2 Ea.size⟩;have Wb:=Hd ho;have Ya:H9 (∀g∈ob Aa,g≠ou):=fun g hg e=>by rcases Ib g hg with h1 | h1;exact Nd.o (e.symm.trans h1);have:=Kb.o.2;omega
  have Xb:H9 (∀g∈ob Aa,wq.heap.size≤g):=fun g hg=>by rcases Ib g hg with h1 | h1;have:=Ra.o.1;omega;have:=Va.size;omega
  clear Nb Cb Ob Dc Kb Ra Nd;refine hK.out _ _ Tb (fun hzz=>?_);clear hK Kk hzz Oa hown' Qa Ta ho Ea Ib Qc;(try simp only[Act.put]);refine tk 8 (.agg (d7 now uB Aa nb Ca).toArray) ?_ ?_
  ·intro wq Nc;go_simp
  (try simp only[Act.put]);refine aX 10 fun Kk hK=>?_;rw[if_pos (by kernel_rfl)];with_reducible refine wp_store_mid 27 (.tmp 3) (.tmp 14) ?_ ou 0 ((d7 now uB Aa nb Ca):List Value).toArray ?_ ?_ ?_ (by kernel_rfl) (by kernel_rfl) ?_
  ·exact rfl
  ·exact rfl
  ·exact rfl
  ·exact Xa.o.there 0 4 (by simp)
  have La:=cm Da ou 0 (d7 now uB Aa nb Ca);have Ic:=aK Tb La Ha.o.1;have Yb:au (Da.setCells ou 0 (d7 now uB Aa nb Ca)) ou (d7 now uB Aa nb Ca):=Xa.o.setCells (d7 now uB Aa nb Ca) 0 (by simp);clear Xa;have Cd:=Hd (Ub.o.grown La (fun e=>by have:=m2 e;have:=Ha.o.1;have:=Sa.o;omega));have Dd:=Hd (Db.o.trans (ap La Db.o.size (fun z e=>by have:=m2 e;have:=Ha.o.1;have:=Ab.o;omega)));have Ed:=Hd (Vb.o.grown La (fun e=>by have:=m2 e;have:=Ha.o.1;have:=Sa.o;omega));have Id:H9 (wq.heap.size≤ou∧ou<(Da.setCells ou 0 (d7 now uB Aa nb Ca)).heap.size):=⟨Ha.o.1,uL Ha.o.2 La.size⟩;have Fd:=Hd (Wb.o.grown La (fun g hg e=>Ya.o g hg (m2 e).symm));have Jd:=Hd Ya.o;have Gd:=Hd Xb.o;have Kd:=Hd Yb;clear Ub Db Vb Ha Wb Ya Xb;refine hK.out _ _ Ic (fun hzz=>?_);clear hK Kk hzz La Yb;(try simp only[Act.put]);generalize(Da.setCells ou 0 (d7 now uB Aa nb Ca))=Ce at *
  rotate_left
  all_goals
   refine bg ?_;go_simp;have Hh:=Cd;clear Cd;have Ih:=Dd;clear Dd;have Jh:=Fd;clear Fd;have Kh:=Kd;clear Kd;have Lh:=Jd;clear Jd;have Nh:=Gd;clear Gd;have Oh:=Id;clear Id;have Ph:=Ed;clear Ed;clear Ic;generalize Ce=wz at *;revert Ph;revert Oh;revert Nh;revert Lh;revert Kh;revert Jh;revert Ih;revert Hh;revert wz;revert ou;revert Ca;revert Aa;revert sl;exact key.out
 case h=>
  intro sl Aa Ca ou wz Ee Ef Ff Gf Hf Fe If Jf;have x3:=Ee.c 3;(go_wp2_with fail);clear x3;have Kf:H9 (aV wz w.heap.size Aa nb Ca bs none 0 0 []):=⟨Ff.o,rfl,World.ownsRow_nil _ _ _ _,fun q hq=>by simp at hq,cK.2 ⟨fun g hg=>⟨by simp[ob],by simp⟩,fun g hg=>by simp[ob]at hg,by simp⟩⟩;have Lf:H9 (ou∉bY Aa none []):=fun e=>by unfold bY at e;simp only[ob,List.flatMap_nil,List.append_nil]at e;exact Hf.o ou e rfl
  have Nf:H9 (w.heap.size∉bY Aa none []):=fun e=>by unfold bY at e;simp only[ob,List.flatMap_nil,List.append_nil]at e;have:=Fe.o _ e;have:=Ze.o;omega
  have Of:H9 (w.heap.size+1∉bY Aa none []):=fun e=>by unfold bY at e;simp only[ob,List.flatMap_nil,List.append_nil]at e;have:=Fe.o _ e;have:=Sa.o;omega
  have Ge:H9 (w.heap.size+1<ou):=by have:=If.o.1;have:=Sa.o;show _<_;omega
  go_loopw [4] (fun i wr=>∃(k:Nat) (aj':Option Addr) (cj':Nat) (qs:List MQ),k≤nj∧i=it k∧aV wr w.heap.size Aa nb Ca bs aj' k cj' qs∧qs.map (·.1)=js.take k∧au wr ou (aI now uB Aa nb Ca aj' k cj')∧ou∉bY Aa aj' qs∧w.heap.size∉bY Aa aj' qs∧w.heap.size+1∉bY Aa aj' qs∧au wr (w.heap.size+1) aT∧au wr w.heap.size (aI now uB ab nb cb aj nj cj)∧m1 w wr) (fun i _=>nj-(intOf i).toNat)
  case atStart=>exact⟨0,none,0,[],by omega,rfl,Kf.o,rfl,Gf.o,Lf.o,Nf.o,Of.o,Jf.o,Ee.o,Ef.o⟩
  case round=>
   obtain⟨kk,aq,Lb,qs,hk,rfl,hh,Od,Zb,He,Ie,Pd,Wa,Sc,Tc⟩:=hrel;clear Kf Lf Nf Of Jf Ee Ef Ff Gf Hf Fe If hi Eb Fb Gb i0 Vc;by_cases Qh:kk<nj
   case pos=>
    obtain⟨b1,o1,rfl,Pf⟩:=(HM.o.j.below Tc).at (by omega);obtain⟨ta,tc,hA,hT⟩:=Pf kk Qh;have Rh:(kk:Int)<(nj:Int):=(by omega);have Qf:js.getD kk M.j0∈js:=(by rw[m4,m6 (by omega)];simp);have Qd:js.take (kk+1)=js.take kk++[js.getD kk M.j0]:=(by rw[List.take_add_one,m4,m6 (by omega)];simp);have Je:=HR.o.tasks _ Qf;generalize js.getD kk M.j0=cq at hA hT Qd Je;obtain⟨Ia,⟨⟨a,b,c',d,f,k⟩,⟨a',b',Ja,d',f',k'⟩⟩,⟨s1,s2⟩,jr,jg,tl⟩:=cq;dsimp only at hT Qd Je;have hR:wr.rangeAt b1 (o1+kk*18) (eN ⟨Ia,⟨⟨a,b,c',d,f,k⟩,⟨a',b',Ja,d',f',k'⟩⟩,(s1,s2),jr,jg,tl⟩ ta tc):=ch rfl hA;have HT:=Hd hT;dsimp only[eN]at hR;generalize Rf:tl.length=tn at hR HT Je;have Uc:=Hd Rf;have Sh:H9 (qs.map (·.1)++[⟨Ia,⟨⟨a,b,c',d,f,k⟩,⟨a',b',Ja,d',f',k'⟩⟩,(s1,s2),jr,jg,tl⟩]=js.take (kk+1)):=(by show _=_;rw[Od];exact Qd.symm);clear Pf hA hT Qf Qd Od Rf;have Ac:=Hd Tc;have Sf:=Hd hh;have Tf:=Hd HT.o;have Uf:=Hd Zb;have Gc:=Hd Sc;have Vf:=Hd Wa;have Rd:=Hd Pd;have Sd:=Hd Wa.2.2;clear Wa Pd;have Wf:=Hd He;have Ke:=Hd (fun g hg=>(hh.lt g hg).2);have Th:=Hd (fun g hg=>(hh.lt g hg).1);have Ec:=Hd Sc.2.2;have Td:=Hd Zb.2.2;clear Tc hh HT Zb He Sc;have Xf:=Hd Ie;clear Ie;have Q:=Gc.c 3;(go_wp2_with(with_reducible refine aA 26 ?_ ?_;rfl));clear Q;with_reducible refine fE 45 b1 (o1+kk*18) (ce Ia a b c' d f k a' b' Ja d' f' k' s1 s2 jr jg ta tn tc) hR underlying45 ?q5 ?_
    case q5=>exact⟨rfl,rfl,by kernel_rfl,_,rfl,by kernel_rfl⟩
    clear hR;(go_wp2_with(with_reducible refine aA 5 ?_ ?_;rfl));show wpList _ _ _ _ _ _;have Yf:(Instr.alloc 45 true (.tuple #[])).run prog wr=.ok (.pointer (some ⟨wr.heap.size,0,none⟩)) (wr.alloc (.cells cD.toArray 45)):=(by kernel_rfl);with_reducible refine bF ?qg 45 ?qo cD.toArray Yf ?_
    case qg | qo=>exact rfl
    clear Yf;show wpList _ _ _ _ _ _;with_reducible refine Hx (fq 45 wr.heap.size 0 (ce Ia a b c' d f k a' b' Ja d' f' k' s1 s2 jr jg ta tn tc) ?q6 ?q5 ?_)
    case q6=>exact(aO _ _ _).there _ 18 (by simp)
    case q5=>exact⟨rfl,by kernel_rfl,by kernel_rfl,_,_,rfl,by kernel_rfl,by kernel_rfl⟩
    have Ba:m1 wr ((wr.alloc (.cells cD.toArray 45)).setCells wr.heap.size 0 (ce Ia a b c' d f k a' b' Ja d' f' k' s1 s2 jr jg ta tn tc)):=aM _ _ ((m5 _ _).alloc (m3 _) _) (m3 _);have Hc:=Ac.t Ba;have Zf:=Hd (Sf.o.below Ba);have Ag:=Hd (Tf.o.below Ba);have Bg:=Uf.b Ba;have Qb:=Gc.b Ba;have Wc:=Vf.b Ba;clear Ac Sf Tf Uf Gc Vf;clear Ba;have Ud:H9 (au ((wr.alloc (.cells cD.toArray 45)).setCells wr.heap.size 0 (ce Ia a b c' d f k a' b' Ja d' f' k' s1 s2 jr jg ta tn tc)) wr.heap.size (ce Ia a b c' d f k a' b' Ja d' f' k' s1 s2 jr jg ta tn tc)):=(aO wr cD.toArray 45).setCells (ce Ia a b c' d f k a' b' Ja d' f' k' s1 s2 jr jg ta tn tc) 0 (by simp);generalize((wr.alloc (.cells cD.toArray 45)).setCells wr.heap.size 0 (ce Ia a b c' d f k a' b' Ja d' f' k' s1 s2 jr jg ta tn tc))=w2 at *;generalize wr.heap.size=jb at Ud Ke Ec Td Sd ⊢;have Cg:=Ud.o.2.2;have Ba:=eK w2 (.cells #[] 47);have Le:=Hc.t Ba;have Dg:=Hd (Zf.o.below Ba);have Ne:=Hd (Ag.o.below Ba);have Eg:=Bg.b Ba;have Fg:=Qb.b Ba;have Gg:=Wc.b Ba;have Oe:=Ud.b Ba;clear Hc Zf Ag Bg Qb Wc Ud;clear Ba;have Uh:=Oe.c 17;obtain⟨i0,hi,Eb,Fb,Gb⟩:=info_parts fB;have Hg:(w2.alloc (.cells #[] 47)).heap.size=w2.heap.size+1:=(by simp);have Ig:=Le.o.size;have Jg:H9 ((tl.flatMap dW).length=tn*3):=(by show _=_;rw[dS dQ,Uc.o]);(go_wp2_with(with_reducible refine aA 30 ?_ ?_;rfl));show wpList _ _ _ _ _ _;refine dX _ rfl _ _ 43 rfl w.heap.size 47 i0 (.agg sf.toArray) 3 24 underlying43 hi Eb Fb Gb rfl (by decide) _ 0 [] rfl (World.ownsRow_made w2 #[] 0 (m8 (Nat.le_of_lt Ec.o) (Nat.le_of_lt Cg)) (by unfold maxLen;omega) (by simp)) ta tn tc (tl.flatMap dW) rfl Jg.o Ne.o.no Ne.o.news (rF tl) (by unfold maxLen;omega) (by omega) Ig ?_;intro v' w7 Oa Qa Ta;rw[Nat.zero_add,List.nil_append]at Oa;obtain⟨Fa,Na,rfl,Kg⟩:=bw.form Uc.o Oa;have Lg:=Hd Kg;have Kc:∀g∈ob Fa,w2.heap.size≤g:=fun g hg=>by have e:=cv (n:=tn) (c:=Na) hg;rcases Ta with e2 | e2 <;> (rw[e2]at e;have e:=m2 e;first | exact Nat.le_of_eq e | (rw[Hg]at e;omega))
    have Ea:(w2.alloc (.cells #[] 47)).grownBy w7 (some w2.heap.size):=Qa;have Ng:H9 (∀g∈bY Aa aq qs,g<w2.heap.size):=fun g hg=>by have:=Ke.o g hg;omega
    have Og:=Hd (Dg.o.grown Ea (fun g hg e=>by have:=Ng.o g hg;have:=m2 e;omega));have Vd:=Hd (Oe.o.grown Ea (fun e=>by have:=m2 e;omega));have Pe:=Hd (Le.o.trans (ap Ea Ig (fun z e=>by have:=m2 e;have:=Ec.o;have:=Cg;omega)));have Qe:=Hd (Eg.o.grown Ea (fun e=>by have:=m2 e;have:=Td.o;omega));have Pg:=Hd (Fg.o.grown Ea (fun e=>by have:=m2 e;have:=Ec.o;omega));have Qg:=Hd (Gg.o.grown Ea (fun e=>by have:=m2 e;have:=Sd.o;omega));have Vh:=Ea.size;have Wh:H9 (∀g∈ob Fa,g∉bY Aa aq qs):=fun g hg hx=>by have:=Kc g hg;have:=Ng.o g hx;omega
    have Xh:H9 (∀g∈ob Fa,g≠jb):=fun g hg e=>by have:=Kc g hg;omega
    have Yh:H9 (∀g∈ob Fa,g≠w.heap.size):=fun g hg e=>by have:=Kc g hg;have:=Ec.o;omega
    have Zh:H9 (∀g∈ob Fa,g≠w.heap.size+1):=fun g hg e=>by have:=Kc g hg;have:=Sd.o;omega
    have Ai:H9 (∀g∈ob Fa,g≠ou):=fun g hg e=>by have:=Kc g hg;have:=Td.o;omega
    have Bi:H9 (∀g∈bY Aa aq qs,g≠jb):=fun g hg e=>by have:=Ke.o g hg;omega
    have Ci:=Vd.c 17;have Di:=Vd.o.fr 17;have o3:=Qe.c 3;clear Oa Qa Ta Kg Kc Ea Vh hi Eb Fb Gb i0 Hg Jg Uh Le Dg Ne Eg Fg Gg Oe;(go_wp2_with(with_reducible refine aA 33 ?_ ?_;rfl));show wpList _ _ _ _ _ _;have Rg:H9 (au (w7.setCell ⟨jb,17,none⟩ (.slice Fa tn Na)) jb (ce Ia a b c' d f k a' b' Ja d' f' k' s1 s2 jr jg Fa tn Na)):=Vd.o.set 17 (by simp) _;have Fc:w7.grownBy (w7.setCell ⟨jb,17,none⟩ (.slice Fa tn Na)) (some jb):=aU _ _ _;have Sg:=Hd (Og.o.grown Fc (fun g hg e=>Bi.o g hg (m2 e).symm));have Tg:=Hd (Lg.o.grown Fc (fun g hg e=>Xh.o g hg (m2 e).symm));have Re:=Hd (Pe.o.trans (ap Fc Pe.o.size (fun z e=>by have:=m2 e;have:=Ec.o;omega)));have Se:=Hd (Qe.o.grown Fc (fun e=>by have:=m2 e;have:=Td.o;omega));have Ug:=Hd (Pg.o.grown Fc (fun e=>by have:=m2 e;have:=Ec.o;omega));have Vg:=Hd (Qg.o.grown Fc (fun e=>by have:=m2 e;have:=Sd.o;omega));generalize(w7.setCell ⟨jb,17,none⟩ (.slice Fa tn Na))=w9 at *;clear Og Vd Pe Lg Qe Pg Qg Fc Ci Di o3;have o3:=Se.c 3;(go_wp2_with(with_reducible refine aA 34 ?_ ?_;rfl));have Wg:=Rg.o.row;with_reducible refine fE 45 jb 0 (ce Ia a b c' d f k a' b' Ja d' f' k' s1 s2 jr jg Fa tn Na) Wg underlying45 ?q5 ?_
    case q5=>exact⟨rfl,rfl,by kernel_rfl,_,rfl,by kernel_rfl⟩
    clear Wg o3;(go_wp2_with(with_reducible refine aA 36 ?_ ?_;rfl));show wpList _ _ _ _ _ _;have Ba:=eK w9 (.cells (ce Ia a b c' d f k a' b' Ja d' f' k' s1 s2 jr jg Fa tn Na).toArray 45);have Wd:=Hd (Sg.o.below Ba);have Xg:=Hd (Tg.o.grown (bv Ba none) (fun _ _=>by simp));have Te:=Se.b Ba;have Ue:=Ug.b Ba;have Ve:=Vg.b Ba;have Xd:=Re.t Ba;have Yg:=ct w9 (ce Ia a b c' d f k a' b' Ja d' f' k' s1 s2 jr jg Fa tn Na) 45;generalize(w9.alloc (.cells (ce Ia a b c' d f k a' b' Ja d' f' k' s1 s2 jr jg Fa tn Na).toArray 45))=wn at *;clear Ba Sg Tg Se Ug Vg Re Rg;obtain⟨i0,hi,Eb,Fb,Gb⟩:=info_parts fg;have Wi:=Wd.o.jl;refine wpList_append_own_at _ rfl _ _ 25 rfl w.heap.size 45 i0 (.agg cD.toArray) 18 160 underlying25 hi Eb Fb Gb rfl (by decide) _ kk (qs.flatMap iG) rfl Wd.o.j ⟨w9.heap.size,0,none⟩ 1 1 (ce Ia a b c' d f k a' b' Ja d' f' k' s1 s2 jr jg Fa tn Na) rfl rfl (gv Yg.o) (by have h1:=mA ⟨Ia,⟨⟨a,b,c',d,f,k⟩,⟨a',b',Ja,d',f',k'⟩⟩,(s1,s2),jr,jg,tl⟩ Fa Na;dsimp only[eN]at h1;rw[Uc.o]at h1;exact h1) (by unfold maxLen;omega) (by omega) Xd.o.size ?_;intro v' w8 Oa Qa _ Ta;obtain⟨Za,Pb,rfl⟩:=iM Oa;have Zg:(ce Ia a b c' d f k a' b' Ja d' f' k' s1 s2 jr jg Fa tn Na)=iG (⟨Ia,⟨⟨a,b,c',d,f,k⟩,⟨a',b',Ja,d',f',k'⟩⟩,(s1,s2),jr,jg,tl⟩,Fa,Na):=(by dsimp only[iG,eN];rw[Uc.o]);rw[Zg]at Oa;obtain⟨hP,Yd⟩:=Wd.o.push (⟨Ia,⟨⟨a,b,c',d,f,k⟩,⟨a',b',Ja,d',f',k'⟩⟩,(s1,s2),jr,jg,tl⟩,Fa,Na) (by show bw _ _ _ tl.length _ _;rw[Uc.o];exact Xg.o) Wh.o Qa Oa (m3 _) Ta;have Ah:=Te.o.2.2;have Bh:=Ue.o.2.2;have Ch:=Ve.o.2.2;have We:=Hd (Te.o.grown Qa (fun e=>Wf.o (by simp[bY,bq e])));have Ei:=Hd (Ue.o.grown Qa (fun e=>Xf.o (by simp[bY,bq e])));have Fi:=Hd (Ve.o.grown Qa (fun e=>Rd.o (by simp[bY,bq e])));have Dh:=Hd (Xd.o.trans (ap Qa Xd.o.size (fun z e=>Th.o z (by simp[bY,bq e]))));have Gi:=Hd hP;have Eh:H9 (ou∉bY Aa Za (qs++[(⟨Ia,⟨⟨a,b,c',d,f,k⟩,⟨a',b',Ja,d',f',k'⟩⟩,(s1,s2),jr,jg,tl⟩,Fa,Na)])):=Yd ou Ah Wf.o (fun e=>Ai.o _ e rfl);have Hi:H9 (w.heap.size∉bY Aa Za (qs++[(⟨Ia,⟨⟨a,b,c',d,f,k⟩,⟨a',b',Ja,d',f',k'⟩⟩,(s1,s2),jr,jg,tl⟩,Fa,Na)])):=Yd _ Bh Xf.o (fun e=>Yh.o _ e rfl);have Ii:H9 (w.heap.size+1∉bY Aa Za (qs++[(⟨Ia,⟨⟨a,b,c',d,f,k⟩,⟨a',b',Ja,d',f',k'⟩⟩,(s1,s2),jr,jg,tl⟩,Fa,Na)])):=Yd _ Ch Rd.o (fun e=>Zh.o _ e rfl);have c3:=We.c 3;have f3:=We.o.fr 3;clear Oa Qa Ta hP Yd hi Eb Fb Gb Zg Ah Bh Ch Wd Xg Te Ue Ve Xd Yg;go_wp2;have HO':H9 (au (w8.setCell ⟨ou,3,none⟩ (.slice Za (kk+1) Pb)) ou (aI now uB Aa nb Ca Za (kk+1) Pb)):=We.o.set 3 (by simp) _;have Zd:w8.grownBy (w8.setCell ⟨ou,3,none⟩ (.slice Za (kk+1) Pb)) (some ou):=aU _ _ _;have HP':H9 (aV (w8.setCell ⟨ou,3,none⟩ (.slice Za (kk+1) Pb)) w.heap.size Aa nb Ca bs Za (kk+1) Pb (qs++[(⟨Ia,⟨⟨a,b,c',d,f,k⟩,⟨a',b',Ja,d',f',k'⟩⟩,(s1,s2),jr,jg,tl⟩,Fa,Na)])):=Gi.o.grown Zd (fun g hg e=>Eh.o (m2 e ▸ hg));have HA':=Hd (Ei.o.grown Zd (fun e=>by have:=m2 e;have:=Ge.o;omega));have HZ':=Hd (Fi.o.grown Zd (fun e=>by have:=m2 e;have:=Ge.o;omega));have HB':=Hd (Dh.o.trans (ap Zd Dh.o.size (fun z e=>by have:=m2 e;have:=Ge.o;omega)));go_roundw
    case rel=>exact⟨kk+1,Za,Pb,_,by omega,by go_num,HP'.o,by rw[uX];exact Sh.o,HO'.o,Eh.o,Hi.o,Ii.o,HZ'.o,HA'.o,HB'.o⟩
    case measure=>simp[intOf];omega
   have Ji:kk=nj:=(by omega);have Ki:=Hd hh;have Li:H9 (qs.map (·.1)=js):=(by show _=_;rw[Od,uD (by omega)]);have Fh:=Hd Tc;have Rh:¬ (kk:Int)<(nj:Int):=(by omega);have x3:=Sc.c 3;have o0:=Zb.c 0;have o1:=Zb.c 1;have o2:=Zb.c 2;have o3:=Zb.c 3;have r0:=Wa.c 0;have Xi:=Wa.fr 0;have r1:=Wa.c 1;have Yi:=Wa.fr 1;have r2:=Wa.c 2;have Zi:=Wa.fr 2;have r3:=Wa.c 3;have Aj:=Wa.fr 3;have Ni:=Hd Wa;have Rd:=Hd Pd;clear hh Od Tc Zb Sc He Ie Wa Pd;subst Ji;(go_wp2_with fail);show bodyPost _ _ _ _ _ (wr.setCells (w.heap.size+1) 0 (aI now uB Aa nb Ca aq kk Lb));have Oi:au (wr.setCells (w.heap.size+1) 0 (aI now uB Aa nb Ca aq kk Lb)) (w.heap.size+1) (aI now uB Aa nb Ca aq kk Lb):=Ni.o.setCells (aI now uB Aa nb Ca aq kk Lb) 0 (by simp);have Gh:=cm wr (w.heap.size+1) 0 (aI now uB Aa nb Ca aq kk Lb);have Pi:=Ki.o.grown Gh (fun g hg e=>Rd.o (m2 e ▸ hg));have Qi:=Fh.o.trans (ap Gh Fh.o.size (fun z e=>by have:=m2 e;omega));generalize(wr.setCells (w.heap.size+1) 0 (aI now uB Aa nb Ca aq kk Lb))=wf at *;exact m7 (aS rfl rfl (uN wf (w.heap.size+1) 0 27 _ _ Oi.row underlying27 rfl (by kernel_rfl))) rfl ⟨_,rfl,Aa,nb,Ca,aq,kk,Lb,qs,rfl,Pi,Li.o,Qi⟩
namespace M
theorem pm_congr{ys':List Int}(h:∀i,ys.getD i 0=ys'.getD i 0):∀(zs:List Int) (i:Nat),pm zs ys i=pm zs ys' i
 | [],_=>rfl
 | c::r,i=>by unfold pm;rw[h i,pm_congr h r (i-1)]
theorem pm_one(x:Int):∀(zs:List Int) (i:Nat),pm zs [x] i=zs.getD i 0*x%65537
 | [],i=>by show(0:Int)=0*x%65537;simp
 | c::r,i=>by
  unfold pm;by_cases h0:i=0
  ·subst h0;simp
  ·
   obtain⟨j,rfl⟩:=Nat.exists_eq_succ_of_ne_zero h0;rw[if_neg h0];have e1:[x].getD j.succ 0=0:=rfl;have e2:(c::r).getD j.succ 0=r.getD j 0:=(by simp[m4]);rw[e1,e2,Nat.succ_sub_one,pm_one x r j];omega
theorem scale_eq(zs:List Int)(x:Int):pmul zs (trim [x])=trim (pscale zs x):=by
 refine neat_ext (neat_pmul _ _) (neat_trim _) fun i=>?_;rw[pmul_getD,getD_trim,pscale_getD,pm_congr (fun i=>getD_trim [x] i),pm_one]
end M
theorem lJ(v:World)(b:Int)(t:TypeId):aw (v.alloc (.cells #[Value.int .i64 b] t)) (some ⟨v.heap.size,0,none⟩) 1 1 [b]:=by
 refine⟨rfl,m3 _,by omega,(fun h=>by cases h),.inr ⟨v.heap.size,0,rfl,fun i hi=>?_⟩⟩;have h0:i=0:=(by omega);subst h0;rw[uF];rfl
theorem se(v:World)(b c:Int)(t:TypeId):aw (v.alloc (.cells #[Value.int .i64 b,Value.int .i64 c] t)) (some ⟨v.heap.size,0,none⟩) 2 2 [b,c]:=by
 refine⟨rfl,m3 _,by omega,(fun h=>by cases h),.inr ⟨v.heap.size,0,rfl,fun i hi=>?_⟩⟩;have h0:i=0∨i=1:=by omega
 rcases h0 with h0 | h0 <;> subst h0 <;> rw[uF] <;> rfl
theorem eg(x:Int)(w:World)(hz:aw w a n c zs)(ha:M.allEl zs=true)(hn:n≤20000)(x0:0≤x)(x1:x<65537):
  Calls prog 217 #[.slice a n c,.int .i64 x] w fun e w'=>∃a' l c',e=.returned (.slice a' l c')∧aC 2 w' w.heap.size a' l c' (M.trim (M.pscale zs x))∧m1 w w':=by
 have HZ:=Hd hz;have HA:=Hd ha;have HS:H9 (aw (w.alloc (.cells #[Value.int .i64 x] 2)) (some ⟨w.heap.size,0,none⟩) 1 1 [x]):=lJ w x _;have HB:H9 (m1 w (w.alloc (.cells #[Value.int .i64 x] 2))):=(m5 _ _).alloc (m3 _) _;have HX:H9 (M.allEl (M.trim [x])=true):=M.all_trim (M.all_cons ⟨x0,x1⟩ rfl);have HE:=Hd (M.scale_eq zs x);clear hz ha;go_enter func217,ntmps217;(go_wp2_with fail);refine(cC _ HS.o (by omega)).mono ?_;rintro e w1 ⟨a1,l1,c1,rfl,Ba,Ca⟩;have Ia:l1≤1:=(by have h:=M.len_trim [x];rw[Ba.len]at h;exact h);have Fa:=Hd (Ba.mono HB.o.size);have Aa:=HB.t Ca;clear Ba Ca;(go_wp2_with fail);refine(fi _ (HZ.o.below Aa.o) Fa.o.sees HA.o HX.o hn (by omega)).mono ?_;rintro e w2 ⟨a2,l2,c2,rfl,Da,Ea⟩;have Ga:H9 (aC 2 w2 w.heap.size a2 l2 c2 (M.trim (M.pscale zs x))):=(by show aC _ _ _ _ _ _ _;rw[←HE.o];exact Da.mono Aa.o.size);have Ha:=Aa.t Ea;clear Da Ea;go_wp2;go_ret;exact⟨a2,l2,c2,rfl,Ga.o,Ha.o⟩
theorem pQ(g:Int)(k:Nat):g ^ k%65537*g%65537=g ^ (k+1)%65537:=by
 rw[Int.pow_succ,M.mL]
theorem qC(g:Int)(w:World)(hz:aw w a n c zs)(ha:M.allEl zs=true)(hn:n≤128)(g0:0≤g)(g1:g<65537):
  Calls prog 216 #[.slice a n c,.int .i64 g] w fun e w'=>∃a' l c',e=.returned (.slice a' l c')∧aC 2 w' w.heap.size a' l c' (M.turn zs g)∧m1 w w':=by
 have HZ:=Hd hz;have HA:=Hd ha;obtain⟨i0,hi,Ha,Ia,Ja⟩:=info_parts bJ;have HI:H9 (prog.info? 2=some i0∧i0.zero=some (Value.int .i64 0)∧i0.size=1∧i0.bytes=8):=⟨hi,Ha,Ia,Ja⟩;have HT:H9 (∀k,M.tab k (fun i=>zs.getD i 0*(g ^ i%65537)%65537)++[zs.getD k 0*(g ^ k%65537)%65537]=M.tab (k+1) (fun i=>zs.getD i 0*(g ^ i%65537)%65537)):=fun k=>dx k _;have HE:H9 (M.trim (M.tab n (fun i=>zs.getD i 0*(g ^ i%65537)%65537))=M.turn zs g):=(by show _=_;unfold M.turn;rw[hz.len]);generalize hTT:(fun i=>zs.getD i 0*(g ^ i%65537)%65537)=TT at HT HE;have Ka:H9 (∀k,zs.getD k 0*(g ^ k%65537)%65537=TT k):=fun k=>by rw[←hTT]
 have HP:=Hd (pQ g);have La:H9 (g ^ 0%65537=1):=(by show _=_;rw[Int.pow_zero];rfl);generalize hPP:(fun k:Nat=>g ^ k%65537)=PP;have Da:H9 (∀k,g ^ k%65537=PP k):=fun k=>by rw[←hPP]
 have Wa:H9 (∀k,0≤PP k∧PP k<65537):=fun k=>by rw[←Da.o k];omega
 simp only[Da.o]at HT Ka HP La;clear hz ha hi Ha Ia Ja hTT hPP Da;go_enter func216,ntmps216;go_wp2
 go_loopw [5,6,7] (fun s x i wr=>∃(k:Nat) (a':Option Addr) (Ea:Nat),k≤n∧i=it k∧x=it (PP k)∧s=.slice a' k Ea∧aC 2 wr w.heap.size a' k Ea (M.tab k TT)∧m1 w wr) (fun _ _ i _=>n-(intOf i).toNat)
 case atStart=>
  refine⟨0,_,_,by omega,rfl,by rw[La.o],rfl,?_,?_⟩
  ·exact World.ownsRow_made w #[] 0 (m3 _) (by unfold maxLen;omega) rfl
  ·exact(m5 _ _).alloc (m3 _) _
 case round=>
  obtain⟨k,a',Ea,hk,rfl,rfl,rfl,Na,Oa⟩:=hrel;have Fa:=Hd Na;have Aa:=Hd Oa;clear Na Oa;by_cases Xa:k<n
  ·
   obtain⟨b1,o1,rfl,Pa⟩:=(HZ.o.below Aa.o).at (by omega);have e1:=Pa k Xa;have hb:=M.el_at HA.o k;have hI:(k:Int)<(n:Int):=(by omega);have Ba:=Ka.o k;have Qa:H9 (M.tab k TT++[TT k]=M.tab (k+1) TT):=(by have:=HT.o k;rw[Ba]at this;exact this);have Ca:=HP.o k;obtain⟨q0,q1⟩:=Wa.o k;generalize zs.getD k 0=z at e1 hb Ba;generalize hPEq:PP (k+1)=p' at Ca;have Ra:=hPEq;generalize PP k=p at Ca Ba q0 q1;generalize TT k=tk at Ba Qa;obtain⟨z0,z1⟩:=hb;obtain⟨m0,I⟩:=M.mul_bd z0 z1 q0 q1;obtain⟨J,Q⟩:=M.mul_bd q0 q1 g0 g1;have HTk':=Hd Ba;have HPk':=Hd Ca;have Ya:=Hd Ra;clear Pa Ba Ca Ra hPEq;(go_wp2_with(at_builtin;refine wpList_append_own _ rfl _ _ 24 rfl w.heap.size 2 i0 (it 0) 1 8 underlying24 HI.o.1 HI.o.2.1 HI.o.2.2.1 HI.o.2.2.2 rfl (by decide) _ k ((M.tab k TT).map (Value.int .i64)) rfl (vg Fa.o _) ⟨wr.heap.size,0,none⟩ 1 1 [it (z*p%65537)] rfl rfl (bB _ _ _) (bZ _) (by unfold maxLen;omega) (by omega) (by have:=Aa.o.size;simp;omega) ?_));intro v' w4 Ga Sa _;rw[HTk'.o]at Ga;have hown':w4.ownsRow w.heap.size 2 1 v' (k+1) ((M.tab (k+1) TT).map (Value.int .i64)):=(by rw[←Qa.o,uX];exact Ga);obtain⟨b4,c4,rfl,Ta⟩:=aC.form hown';have Za:=Hd Ta;have Ab:=Hd ((Aa.o.alloc Aa.o.size _).grown Sa (by have:=Aa.o.size;simp;omega) Fa.o.row);clear Ga hown' Sa Ta;go_wp2;go_roundw
   case rel=>exact⟨k+1,b4,c4,by omega,by go_num,by rw[Ya.o,←HPk'.o],rfl,Za.o,Ab.o⟩
   case measure=>simp[intOf];omega
  ·
   have Bb:k=n:=(by omega);subst Bb;(go_wp2_with fail);refine(cC _ Fa.o.sees (by omega)).mono ?_;rintro e w2 ⟨a2,l2,c2,rfl,Ua,Va⟩;have Cb:H9 (aC 2 w2 w.heap.size a2 l2 c2 (M.turn zs g)):=(by show aC _ _ _ _ _ _ _;rw[←HE.o];exact Ua.mono Aa.o.size);have Db:=Aa.t Va;clear Ua Va;go_wp2;go_ret;exact⟨a2,l2,c2,rfl,Cb.o,Db.o⟩
theorem qD(N:Nat)(w:World)(h0:0<N)(hN:N≤1000):
  Calls prog 128 #[.int .i64 N] w fun e w'=>∃a' c',e=.returned (.slice a' (N+1) c')∧aC 2 w' w.heap.size a' (N+1) c' (M.zeroL N)∧m1 w w':=by
 obtain⟨i0,hi,Ca,Da,Ea⟩:=info_parts bJ;have Ha:(0:Int)<(N:Int):=(by omega);have Ia:(N:Int)≤1000:=(by omega);have Ja:(0:Int)<((N+1:Nat):Int):=(by omega);have Ka:(N:Int)<((N+1:Nat):Int):=(by omega);go_enter func128,ntmps128;(go_wp2_with(at_make;refine wpList_make_full _ rfl _ _ 24 rfl w.heap.size 2 i0 (it 0) 1 underlying24 hi Ca Da .i64 .i64 _ _ (N+1) rfl rfl (by omega) (by omega) (by rw[Ea];omega) (by unfold maxLen;omega) (m3 _) ?_));intro w1 Aa hg
 have HO:H9 (aC 2 w1 w.heap.size (some ⟨w.heap.size,0,none⟩) (N+1) (N+1) (List.replicate (N+1) 0)):=by
  show w1.ownsRow _ _ _ _ _ _;rw[ef]at Aa;exact Aa
 have HB:=Hd (bt hg);obtain⟨g,Ba,-,-,hc,hf⟩:=HO.o.block (by omega);simp only[Option.some.injEq,Addr.mk.injEq,and_true]at Ba;have c0:=hc 0 (by omega);have f0:=hf 0;have cN:=hc N (by omega);have fN:=hf N;rw[←Ba]at c0 f0 cN fN;rw[M.replicate_getD]at c0 cN;clear Aa hg hi Ca Da Ea hc hf Ba;have Fa:H9 (aC 2 ((w1.setCell ⟨w.heap.size,0,none⟩ (it 65536)).setCell ⟨w.heap.size,N,none⟩ (it 1)) w.heap.size (some ⟨w.heap.size,0,none⟩) (N+1) (N+1) (M.zeroL N)):=(HO.o.set 0 65536).set N 1;have Ga:H9 (m1 w ((w1.setCell ⟨w.heap.size,0,none⟩ (it 65536)).setCell ⟨w.heap.size,N,none⟩ (it 1))):=(HB.o.setCell (m3 _) _).setCell (m3 _) _;go_wp2;go_ret;exact⟨_,_,rfl,Fa.o,Ga.o⟩
set_option maxRecDepth 10000 in
theorem ki{xa ya:Option Addr}{xl xc yl yc:Nat}{xs:List Int}(r:M.Rl)(w:World)(hr:r.ok=true)(hx:aw w xa xl xc xs)(hy:aw w ya yl yc ys)(ax:M.allEl xs=true)(ay:M.allEl ys=true)(lx:xl≤100)(ly:yl≤100):
  Calls prog 127 #[iR r,.slice xa xl xc,.slice ya yl yc] w fun e w'=>∃a' l c',e=.returned (.slice a' l c')∧l≤301∧aC 2 w' w.heap.size a' l c' (M.rl r xs ys)∧m1 w w':=by
 obtain⟨Nb,Ob,Pb,Qb,Rb,Sb⟩:=M.rl_bd hr;obtain⟨ra,rb,rc,rd,re,rk⟩:=r;dsimp only[iR]at Nb Ob Pb Qb Rb Sb ⊢;unfold M.rl;have Eb:=Hd ax;have Fb:=Hd ay;have Gb:H9 (xs.length≤100):=(by show _≤_;rw[hx.len];exact lx);have Hb:H9 (ys.length≤100):=(by show _≤_;rw[hy.len];exact ly);have Ib:xl≤20000:=(by omega);have Jb:yl≤20000:=(by omega);have Kb:H9 (m1 w (w.alloc (.cells (c8 ra rb rc rd re rk).toArray 29))):=(m5 _ _).alloc (m3 _) _;have Ub:=ct w (c8 ra rb rc rd re rk) 29;have Vb:=Hd (hx.below Kb.o);have Wb:=Hd (hy.below Kb.o);clear hr hx hy ax ay;go_enter func127,ntmps127;go_wp2;generalize w.alloc (.cells (c8 ra rb rc rd re rk).toArray 29)=wq at *;have HX:=Hd Vb.o;have HY:=Hd Wb.o;have HR:=Hd Ub.o;have Aa:=Hd Kb.o;clear Kb Ub Vb Wb;refine cB wq none (by kernel_rfl) fun hHeld=>?_;generalize wq.drew=Xb at *;refine tk 0 (.slice xa xl xc) ?_ ?_
 ·intro wq La;go_simp
 refine tk 1 (.slice xa xl xc) ?_ ?_
 ·intro wq La;go_simp
 refine tk 3 (.pointer (some ⟨w.heap.size,0,none⟩)) ?_ ?_
 ·intro wq La;go_simp
 refine tk 4 (it ra) ?_ ?_
 ·intro wp Ab;have c0:=(HR.o.grown Ab (by simp)).c 0;go_simp
 refine aX 2 fun Kk hK=>?_;go_simp;refine(fi _ (HX.o.grownR hHeld (by simp)) (HX.o.grownR hHeld (by simp)) Eb.o Eb.o Ib Ib).mono ?_;rintro e w3 ⟨ma,ml,mc,rfl,Ra,Xa⟩;go_simp;have Qa:=aH hHeld Xa;have Sa:=Hd Ra;have Bb:ml≤300:=(by have h1:=Ra.len;have h2:=M.pmul_len xs xs;have:=Gb.o;have:=Gb.o;rw[show(M.pmul xs xs)=M.pmul xs xs from rfl]at h1;omega);refine hK.out _ _ Qa (fun _=>?_);clear hK Kk Xa;clear Ra;refine aX 5 fun Kk hK=>?_;go_simp;refine(eg _ _ Sa.o.sees (M.all_pmul _ _) (by omega) Nb.1 Nb.2).mono ?_;rintro e w4 ⟨ka,kl,kc,rfl,Ba,Ca⟩;go_simp;have Fa:=aH Qa Ca;have Da:=Hd Ba;have Ua:kl≤300:=(by have h1:=Ba.len;have h2:=M.len_pscale_trim (M.pmul xs xs) ra;have h3:=Sa.o.len;omega);refine hK.out _ _ Fa (fun _=>?_);clear hK Kk Ca;clear Ba;refine tk 6 (.slice ka kl kc) ?_ ?_
 ·intro wq La;go_simp
 refine bg ?_;go_simp;have Ya:=Hd (HX.o.grownR Fa (by simp));have Ta:=Hd (HY.o.grownR Fa (by simp));have Ka:=Hd (HR.o.grown Fa (by simp));have Ha:=Hd (Aa.o.grown Fa Aa.o.size (by simp));have Ia:=Hd (Da.o.mono (m8 Aa.o.size Qa.size));clear HX HY HR Aa hHeld Qa Fa Sa Da Bb;go_wp2;generalize w4=wq at *;generalize ka=sa at *;generalize kc=sc at *;generalize kl=sl at *;have HX:=Hd Ya.o;have HY:=Hd Ta.o;have HR:=Hd Ka.o;have Aa:=Hd Ha.o;have Ja:=Hd Ia.o.sees;have Na:H9 (M.allEl (M.trim (M.pscale (M.pmul xs xs) ra))=true):=M.all_trim (M.all_pscale _ _);have Za:=Ua;clear Ya Ta Ka Ha Ia;refine cB wq none (by kernel_rfl) fun hHeld=>?_;generalize wq.drew=Xb at *;refine tk 0 (.slice sa sl sc) ?_ ?_
 ·intro wq La;go_simp
 refine tk 1 (.slice xa xl xc) ?_ ?_
 ·intro wq La;go_simp
 refine tk 2 (.slice ya yl yc) ?_ ?_
 ·intro wq La;go_simp
 refine tk 4 (.pointer (some ⟨w.heap.size,1,none⟩)) ?_ ?_
 ·intro wq La;go_simp
 refine tk 5 (it rb) ?_ ?_
 ·intro wp Ab;have c0:=(HR.o.grown Ab (by simp)).c 1;go_simp
 refine aX 3 fun Kk hK=>?_;go_simp;refine(fi _ (HX.o.grownR hHeld (by simp)) (HY.o.grownR hHeld (by simp)) Eb.o Fb.o Ib Jb).mono ?_;rintro e w3 ⟨ma,ml,mc,rfl,Ra,Xa⟩;go_simp;have Qa:=aH hHeld Xa;have Sa:=Hd Ra;have Bb:ml≤300:=(by have h1:=Ra.len;have h2:=M.pmul_len xs ys;have:=Gb.o;have:=Hb.o;rw[show(M.pmul xs ys)=M.pmul xs ys from rfl]at h1;omega);refine hK.out _ _ Qa (fun _=>?_);clear hK Kk Xa;clear Ra;refine aX 6 fun Kk hK=>?_;go_simp;refine(eg _ _ Sa.o.sees (M.all_pmul _ _) (by omega) Ob.1 Ob.2).mono ?_;rintro e w4 ⟨ka,kl,kc,rfl,Ba,Ca⟩;go_simp;have Fa:=aH Qa Ca;have Da:=Hd Ba;have Ua:kl≤300:=(by have h1:=Ba.len;have h2:=M.len_pscale_trim (M.pmul xs ys) rb;have h3:=Sa.o.len;omega);refine hK.out _ _ Fa (fun _=>?_);clear hK Kk Ca;clear Ba;refine aX 7 fun Kk hK=>?_;go_simp;refine(ee _ (Ja.o.grownR Fa (by simp)) Da.o.sees Na.o (M.all_trim (M.all_pscale _ _)) (by omega) (by omega)).mono ?_;rintro e w5 ⟨na,nl,nc,rfl,Ea,Ga⟩;go_simp;have Oa:=aH Fa Ga;have Cb:=Hd (Ea.mono (m8 Aa.o.size Fa.size));have Wa:nl≤300:=(by have h1:=Ea.len;have h2:=M.len_padd_trim (M.trim (M.pscale (M.pmul xs xs) ra)) (M.trim (M.pscale (M.pmul xs ys) rb));have h3:=Da.o.len;have h4:=Ja.o.len;omega);refine hK.out _ _ Oa (fun _=>?_);clear hK Kk Ga;clear Ea;refine tk 8 (.slice na nl nc) ?_ ?_
 ·intro wq La;go_simp
 refine bg ?_;go_simp;have Ya:=Hd (HX.o.grownR Oa (by simp));have Ta:=Hd (HY.o.grownR Oa (by simp));have Ka:=Hd (HR.o.grown Oa (by simp));have Ha:=Hd (Aa.o.grown Oa Aa.o.size (by simp));have Ia:=Hd Cb.o;clear HX HY HR Aa hHeld Qa Fa Oa Sa Da Cb Ja Na Bb Ua Za;go_wp2;generalize w5=wq at *;generalize na=sa at *;generalize nc=sc at *;generalize nl=sl at *;have HX:=Hd Ya.o;have HY:=Hd Ta.o;have HR:=Hd Ka.o;have Aa:=Hd Ha.o;have Ja:=Hd Ia.o.sees;have Na:H9 (M.allEl (M.trim (M.padd (M.trim (M.pscale (M.pmul xs xs) ra)) (M.trim (M.pscale (M.pmul xs ys) rb))))=true):=M.all_trim (M.all_padd _ _);have Za:=Wa;clear Ya Ta Ka Ha Ia;refine cB wq none (by kernel_rfl) fun hHeld=>?_;generalize wq.drew=Xb at *;refine tk 0 (.slice sa sl sc) ?_ ?_
 ·intro wq La;go_simp
 refine tk 1 (.slice ya yl yc) ?_ ?_
 ·intro wq La;go_simp
 refine tk 2 (.slice ya yl yc) ?_ ?_
 ·intro wq La;go_simp
 refine tk 4 (.pointer (some ⟨w.heap.size,2,none⟩)) ?_ ?_
 ·intro wq La;go_simp
 refine tk 5 (it rc) ?_ ?_
 ·intro wp Ab;have c0:=(HR.o.grown Ab (by simp)).c 2;go_simp
 refine aX 3 fun Kk hK=>?_;go_simp;refine(fi _ (HY.o.grownR hHeld (by simp)) (HY.o.grownR hHeld (by simp)) Fb.o Fb.o Jb Jb).mono ?_;rintro e w3 ⟨ma,ml,mc,rfl,Ra,Xa⟩;go_simp;have Qa:=aH hHeld Xa;have Sa:=Hd Ra;have Bb:ml≤300:=(by have h1:=Ra.len;have h2:=M.pmul_len ys ys;have:=Hb.o;have:=Hb.o;rw[show(M.pmul ys ys)=M.pmul ys ys from rfl]at h1;omega);refine hK.out _ _ Qa (fun _=>?_);clear hK Kk Xa;clear Ra;refine aX 6 fun Kk hK=>?_;go_simp;refine(eg _ _ Sa.o.sees (M.all_pmul _ _) (by omega) Pb.1 Pb.2).mono ?_;rintro e w4 ⟨ka,kl,kc,rfl,Ba,Ca⟩;go_simp;have Fa:=aH Qa Ca;have Da:=Hd Ba;have Ua:kl≤300:=(by have h1:=Ba.len;have h2:=M.len_pscale_trim (M.pmul ys ys) rc;have h3:=Sa.o.len;omega);refine hK.out _ _ Fa (fun _=>?_);clear hK Kk Ca;clear Ba;refine aX 7 fun Kk hK=>?_;go_simp;refine(ee _ (Ja.o.grownR Fa (by simp)) Da.o.sees Na.o (M.all_trim (M.all_pscale _ _)) (by omega) (by omega)).mono ?_;rintro e w5 ⟨na,nl,nc,rfl,Ea,Ga⟩;go_simp;have Oa:=aH Fa Ga;have Cb:=Hd (Ea.mono (m8 Aa.o.size Fa.size));have Wa:nl≤300:=(by have h1:=Ea.len;have h2:=M.len_padd_trim (M.trim (M.padd (M.trim (M.pscale (M.pmul xs xs) ra)) (M.trim (M.pscale (M.pmul xs ys) rb)))) (M.trim (M.pscale (M.pmul ys ys) rc));have h3:=Da.o.len;have h4:=Ja.o.len;omega);refine hK.out _ _ Oa (fun _=>?_);clear hK Kk Ga;clear Ea;refine tk 8 (.slice na nl nc) ?_ ?_
 ·intro wq La;go_simp
 refine bg ?_;go_simp;have Ya:=Hd (HX.o.grownR Oa (by simp));have Ta:=Hd (HY.o.grownR Oa (by simp));have Ka:=Hd (HR.o.grown Oa (by simp));have Ha:=Hd (Aa.o.grown Oa Aa.o.size (by simp));have Ia:=Hd Cb.o;clear HX HY HR Aa hHeld Qa Fa Oa Sa Da Cb Ja Na Bb Ua Za;generalize w5=wq at *;generalize na=sa at *;generalize nc=sc at *;generalize nl=sl at *;have HX:=Hd Ya.o;have HY:=Hd Ta.o;have HR:=Hd Ka.o;have Aa:=Hd Ha.o;have Ja:=Hd Ia.o.sees;have Na:H9 (M.allEl (M.trim (M.padd (M.trim (M.padd (M.trim (M.pscale (M.pmul xs xs) ra)) (M.trim (M.pscale (M.pmul xs ys) rb)))) (M.trim (M.pscale (M.pmul ys ys) rc))))=true):=M.all_trim (M.all_padd _ _);have Za:=Wa;clear Ya Ta Ka Ha Ia;have cj:=HR.c 3;(go_wp2_with fail);refine(eg _ _ HX.o Eb.o Ib Qb.1 Qb.2).mono ?_;rintro e w4 ⟨ka,kl,kc,rfl,Ba,Ca⟩;have Da:=Hd Ba;have Ua:kl≤300:=(by have h1:=Ba.len;have h2:=M.len_pscale_trim xs rd;have h3:=Gb.o;omega);have Yb:=Hd (HY.o.below Ca);have Db:=HR.b Ca;have Va:=Hd (Ja.o.below Ca);have Pa:=Aa.t Ca;clear Ba Ca cj HX HY HR Ja Aa;(go_wp2_with fail);refine(ee _ Va.o Da.o.sees Na.o (M.all_trim (M.all_pscale _ _)) (by omega) (by omega)).mono ?_;rintro e w5 ⟨na,nl,nc,rfl,Ea,Ga⟩;have Ia:=Hd (Ea.mono Pa.o.size);have Wa:nl≤300:=(by have h1:=Ea.len;have h2:=M.len_padd_trim (M.trim (M.padd (M.trim (M.padd (M.trim (M.pscale (M.pmul xs xs) ra)) (M.trim (M.pscale (M.pmul xs ys) rb)))) (M.trim (M.pscale (M.pmul ys ys) rc)))) (M.trim (M.pscale xs rd));have h3:=Da.o.len;have h4:=Va.o.len;omega);have Ta:=Hd (Yb.o.below Ga);have Ka:=Db.b Ga;have Ha:=Pa.t Ga;clear Ea Ga Yb Db Va Pa Da Na Ua Za;generalize w5=wq at *;generalize na=sa at *;generalize nc=sc at *;generalize nl=sl at *;have HY:=Hd Ta.o;have HR:=Hd Ka.o;have Aa:=Hd Ha.o;have Ja:=Hd Ia.o.sees;have Na:H9 (M.allEl (M.trim (M.padd (M.trim (M.padd (M.trim (M.padd (M.trim (M.pscale (M.pmul xs xs) ra)) (M.trim (M.pscale (M.pmul xs ys) rb)))) (M.trim (M.pscale (M.pmul ys ys) rc)))) (M.trim (M.pscale xs rd))))=true):=M.all_trim (M.all_padd _ _);have Za:=Wa;clear Ta Ka Ha Ia;have cj:=HR.c 4;(go_wp2_with fail);refine(eg _ _ HY.o Fb.o Jb Rb.1 Rb.2).mono ?_;rintro e w4 ⟨ka,kl,kc,rfl,Ba,Ca⟩;have Da:=Hd Ba;have Ua:kl≤300:=(by have h1:=Ba.len;have h2:=M.len_pscale_trim ys re;have h3:=Hb.o;omega);have Db:=HR.b Ca;have Va:=Hd (Ja.o.below Ca);have Pa:=Aa.t Ca;clear Ba Ca cj HY HR Ja Aa;(go_wp2_with fail);refine(ee _ Va.o Da.o.sees Na.o (M.all_trim (M.all_pscale _ _)) (by omega) (by omega)).mono ?_;rintro e w5 ⟨na,nl,nc,rfl,Ea,Ga⟩;have Ia:=Hd (Ea.mono Pa.o.size);have Wa:nl≤300:=(by have h1:=Ea.len;have h2:=M.len_padd_trim (M.trim (M.padd (M.trim (M.padd (M.trim (M.padd (M.trim (M.pscale (M.pmul xs xs) ra)) (M.trim (M.pscale (M.pmul xs ys) rb)))) (M.trim (M.pscale (M.pmul ys ys) rc)))) (M.trim (M.pscale xs rd)))) (M.trim (M.pscale ys re));have h3:=Da.o.len;have h4:=Va.o.len;omega);have Ka:=Db.b Ga;have Ha:=Pa.t Ga;clear Ea Ga Db Va Pa Da Na Ua Za;generalize w5=wq at *;generalize na=sa at *;generalize nc=sc at *;generalize nl=sl at *;have HR:=Hd Ka.o;have Aa:=Hd Ha.o;have Ja:=Hd Ia.o.sees;have Na:H9 (M.allEl (M.trim (M.padd (M.trim (M.padd (M.trim (M.padd (M.trim (M.padd (M.trim (M.pscale (M.pmul xs xs) ra)) (M.trim (M.pscale (M.pmul xs ys) rb)))) (M.trim (M.pscale (M.pmul ys ys) rc)))) (M.trim (M.pscale xs rd)))) (M.trim (M.pscale ys re))))=true):=M.all_trim (M.all_padd _ _);have Za:=Wa;clear Ka Ha Ia;have cj:=HR.c 5;have Zb:H9 (aw (wq.alloc (.cells #[Value.int .i64 rk] 2)) (some ⟨wq.heap.size,0,none⟩) 1 1 [rk]):=lJ wq rk _;have Lb:H9 (m1 wq (wq.alloc (.cells #[Value.int .i64 rk] 2))):=(m5 _ _).alloc (m3 _) _;(go_wp2_with fail);refine(cC _ Zb.o (by omega)).mono ?_;rintro e w4 ⟨ka,kl,kc,rfl,Ba,Ca⟩;have Da:=Hd (Ba.mono Lb.o.size);have Ua:kl≤1:=(by have h1:=Ba.len;have h2:=M.len_trim [rk];have h3:[rk].length=1:=rfl;omega);have Tb:=Lb.t Ca;have Va:=Hd (Ja.o.below Tb.o);have Pa:=Hd (Aa.o.trans (Tb.o.mono Aa.o.size));have Ac:H9 (M.allEl (M.trim [rk])=true):=M.all_trim (M.all_cons ⟨Sb.1,Sb.2⟩ rfl);clear Ba Ca cj HR Ja Aa Zb Lb Tb;(go_wp2_with fail);refine(ee _ Va.o Da.o.sees Na.o Ac.o (by omega) (by omega)).mono ?_;rintro e w5 ⟨na,nl,nc,rfl,Ea,Ga⟩;have Ia:=Hd (Ea.mono Pa.o.size);have Wa:nl≤301:=(by have h1:=Ea.len;have h2:=M.len_padd_trim (M.trim (M.padd (M.trim (M.padd (M.trim (M.padd (M.trim (M.padd (M.trim (M.pscale (M.pmul xs xs) ra)) (M.trim (M.pscale (M.pmul xs ys) rb)))) (M.trim (M.pscale (M.pmul ys ys) rc)))) (M.trim (M.pscale xs rd)))) (M.trim (M.pscale ys re)))) (M.trim [rk]);have h3:=Da.o.len;have h4:=Va.o.len;omega);have Ha:=Pa.t Ga;clear Ea Ga;go_wp2;go_ret;exact⟨na,nl,nc,rfl,Wa,Ia.o,Ha.o⟩
theorem kh{fa ra:Option Addr}{fl fc rl rc:Nat}{fs rs:List Int}(N:Nat)(w:World)(h:M.rowsN N=true)(hf:aw w fa fl fc fs)(hr:aw w ra rl rc rs)(af:M.allEl fs=true)(ar:M.allEl rs=true)(lf:fl≤100)(lr:rl≤400):
  Calls prog 126 #[.slice fa fl fc,.slice ra rl rc,.int .i64 N] w fun e w'=>∃a' l c',e=.returned (.slice a' l c')∧aC 2 w' w.heap.size a' l c' (M.left fs rs (M.root N) (M.lst N))∧m1 w w':=by
 have Ua:=M.rowsN_pos h;have hg:=(M.el_iff _).1 (M.root_el (M.two64_two (M.rowsN_two h)));have CR:=dZ N;have CT:H9 (∀(W:World),aw W fa fl fc fs→Calls prog 216 #[.slice fa fl fc,.int .i64 (M.root N)] W fun e w'=>∃a' l c',e=.returned (.slice a' l c')∧aC 2 w' W.heap.size a' l c' (M.turn fs (M.root N))∧m1 W w'):=fun W hW=>qC _ W hW af (by omega) hg.1 hg.2
 have Ca:∀W,Rq 165 #[it (M.root N),it ((N:Int)-1)] W (it (M.lst N)):=fun W=>by
  have:=dy (M.root N) (N-1) W hg.1 hg.2 (by omega);rw[show((N-1:Nat):Int)=(N:Int)-1 by omega]at this;exact this
 have CS:∀W,Rq 169 #[it 0,it (M.lst N)] W (it (M.sub 0 (M.lst N))):=fun W=>dV _ _ W;have Va:=(M.el_iff _).1 (M.el_lst N);have Aa:0≤M.sub 0 (M.lst N)∧M.sub 0 (M.lst N)<65537:=(by rw[M.sub_in (by decide) (M.el_lst N)];omega);have La:H9 ((M.turn fs (M.root N)).length≤100):=(by have h1:=M.len_turn fs (M.root N);have h2:=hf.len;show _≤_;omega);have Na:H9 (M.allEl (M.turn fs (M.root N))=true):=M.all_turn _ _;have HF:=Hd hf;have HR:=Hd hr;have Wa:=Hd ar;have Xa:H9 (rs.length≤400):=(by show _≤_;rw[hr.len];exact lr);unfold M.left;generalize M.turn fs (M.root N)=T at CT La Na;generalize M.root N=g at CR CT Ca;generalize M.lst N=la at Ca CS Aa;generalize M.sub 0 la=sb at CS Aa;have Db:(N:Int)≤16:=(by omega);have Eb:(2:Int)≤(N:Int):=(by omega);have Fb:IntKind.i64.wrap ((N:Int)-1)=(N:Int)-1:=(by rw[uQ];omega);clear h hf hr af ar hg Va Ua;go_enter func126,ntmps126;(go_wp2_with fail);refine(CR _).mono ?_;rintro e w ⟨rfl,rfl⟩;(go_wp2_with fail);refine(CT.o _ HF.o).mono ?_;rintro e w1 ⟨ta,tl,tc,rfl,Da,Oa⟩;have Pa:=Hd Da;have Gb:tl≤100:=(by have h1:=Da.len;have h2:=La.o;omega);have Ea:=Hd Oa;clear Da Oa;(go_wp2_with fail);refine(eg 65536 _ (HR.o.below Ea.o) Wa.o (by omega) (by omega) (by omega)).mono ?_;rintro e w2 ⟨ka,kl,kc,rfl,Fa,Ga⟩;have Ha:=Hd Fa;have Hb:kl≤400:=(by have h1:=Fa.len;have h2:=M.len_pscale_trim rs 65536;have h3:=Xa.o;omega);have Ia:=Hd (Pa.o.sees.below Ga);have Qa:=Ea.t Ga;clear Fa Ga Pa;(go_wp2_with fail);refine(ee _ Ia.o Ha.o.sees Na.o (M.all_trim (M.all_pscale _ _)) (by omega) (by omega)).mono ?_;rintro e w3 ⟨na,nl,nc,rfl,Ja,Ra⟩;have Ya:=Hd Ja;have Ib:nl≤400:=(by have h1:=Ja.len;have h2:=M.len_padd_trim T (M.trim (M.pscale rs 65536));have h3:=Ha.o.len;have h4:=Ia.o.len;omega);have Ka:=Qa.t Ra;clear Ja Ra Ia Ha;(go_wp2_with fail);refine(Ca _).mono ?_;rintro e w3 ⟨rfl,rfl⟩;(go_wp2_with fail);refine(CS _).mono ?_;rintro e w3 ⟨rfl,rfl⟩;have Za:H9 (aw (w3.alloc (.cells #[Value.int .i64 sb,Value.int .i64 1] 2)) (some ⟨w3.heap.size,0,none⟩) 2 2 [sb,1]):=se w3 sb 1 _;have Ba:H9 (m1 w3 (w3.alloc (.cells #[Value.int .i64 sb,Value.int .i64 1] 2))):=(m5 _ _).alloc (m3 _) _;have Ab:H9 (M.allEl [sb,1]=true):=M.all_cons ⟨Aa.1,Aa.2⟩ (M.all_cons ⟨by omega,by omega⟩ rfl);(go_wp2_with fail);refine(fi _ (Ya.o.sees.below Ba.o) Za.o (M.all_trim (M.all_padd _ _)) Ab.o (by omega) (by omega)).mono ?_;rintro e w5 ⟨oa,ol,oc,rfl,Sa,Ta⟩;have Bb:=Hd (Sa.mono (m8 Ka.o.size Ba.o.size));have Cb:=Hd (Ka.o.trans ((Ba.o.trans (Ta.mono Ba.o.size)).mono Ka.o.size));clear Sa Ta;go_wp2;go_ret;exact⟨oa,ol,oc,rfl,Bb.o,Cb.o⟩
set_option maxRecDepth 10000 in
theorem ku(m:M.Mc)(s:Int×Int)(n:Int)(w:World)(h:cY m s n=false):
  Rt 59 #[da m,cM s,.int .i64 n] w (.tuple #[.agg #[.int .i64 0,.int .i64 0,.int .i64 0,.int .i64 0,.slice none 0 0,.slice none 0 0,.slice none 0 0,.slice none 0 0],.bool false]):=by
 have C1:=bA m;have C2:=b9 s;have C3:=ew n;have Fa:=nP h;clear h;obtain⟨⟨a,b,c,d,f,k⟩,⟨a',b',c',d',f',k'⟩⟩:=m;obtain⟨x,y⟩:=s;dsimp only[da,cM]at C1 C2 ⊢;generalize M.Mc.ok ⟨⟨a,b,c,d,f,k⟩,⟨a',b',c',d',f',k'⟩⟩=o1 at C1 Fa;generalize M.sOk (x,y)=o2 at C2 Fa;generalize M.rows n=o3 at C3 Fa;have Na:H9 (au (((w.alloc (.cells (co a b c d f k a' b' c' d' f' k').toArray 31)).alloc (.cells #[it x,it y] 33)).alloc (.cells cI.toArray 35)) (w.heap.size+1) [it x,it y]):=(ba _ _ _ _).alloc _;have Oa:H9 (au (((w.alloc (.cells (co a b c d f k a' b' c' d' f' k').toArray 31)).alloc (.cells #[it x,it y] 33)).alloc (.cells cI.toArray 35)) (w.heap.size+1+1) cI):=dl _ _ _ _ _;have Ia:H9 (m1 w (((w.alloc (.cells (co a b c d f k a' b' c' d' f' k').toArray 31)).alloc (.cells #[it x,it y] 33)).alloc (.cells cI.toArray 35))):=(((m5 _ _).alloc (m3 _) _).alloc (by simp) _).alloc (by simp;omega) _;go_enter func59,ntmps59;(go_wp2_with fail);refine(C1 _).mono ?_;rintro e w1 ⟨rfl,Ga⟩;have Ha:=Na.b Ga;have Ca:=Oa.b Ga;have Aa:=Ia.t Ga;have s0:=Ha.c 0;have s1:=Ha.c 1;clear Ga Na Oa Ia C1
 rcases Fa with rfl | ⟨rfl,rfl⟩ | ⟨rfl,rfl,rfl⟩
 have Da:=Hd (Ca.o.there 0 8 (by simp));have Ja:H9 (au (w1.setCells (w.heap.size+1+1) 0 cI) (w.heap.size+1+1) cI):=Ca.o.setCells cI 0 (by simp);have Ka:H9 (m1 w (w1.setCells (w.heap.size+1+1) 0 cI)):=aM _ 0 Aa.o (by omega);(go_wp2_with(with_reducible refine aF ?_ ?_;rfl));show wpList _ _ _ _ _ _;with_reducible refine wpList_store_mid ?_ 35 (.tmp 6) (.tmp 33) ?_ (w.heap.size+1+1) 0 (cI).toArray ?_ ?_ ?_ (by kernel_rfl) (by kernel_rfl) ?_
 ·exact rfl
 ·exact rfl
 ·exact rfl
 ·exact rfl
 ·exact Da.o
 generalize w1.setCells (w.heap.size+1+1) 0 cI=wz at *
 rotate_left
 (go_wp2_with fail);refine(C2 _).mono ?_;rintro e w2 ⟨rfl,Ba⟩;have Ea:=Ca.b Ba;have La:=Aa.t Ba;clear Ba s0 s1 Ha Ca Aa;have Da:=Hd (Ea.o.there 0 8 (by simp));have Ja:H9 (au (w2.setCells (w.heap.size+1+1) 0 cI) (w.heap.size+1+1) cI):=Ea.o.setCells cI 0 (by simp);have Ka:H9 (m1 w (w2.setCells (w.heap.size+1+1) 0 cI)):=aM _ 0 La.o (by omega);(go_wp2_with(with_reducible refine aF ?_ ?_;rfl));show wpList _ _ _ _ _ _;with_reducible refine wpList_store_mid ?_ 35 (.tmp 6) (.tmp 33) ?_ (w.heap.size+1+1) 0 (cI).toArray ?_ ?_ ?_ (by kernel_rfl) (by kernel_rfl) ?_
 ·exact rfl
 ·exact rfl
 ·exact rfl
 ·exact rfl
 ·exact Da.o
 generalize w2.setCells (w.heap.size+1+1) 0 cI=wz at *
 rotate_left
 (go_wp2_with fail);refine(C2 _).mono ?_;rintro e w2 ⟨rfl,Ba⟩;have Ea:=Ca.b Ba;have La:=Aa.t Ba;clear Ba s0 s1 Ha Ca Aa;(go_wp2_with fail);refine(C3 _).mono ?_;rintro e w2 ⟨rfl,rfl⟩;have Da:=Hd (Ea.o.there 0 8 (by simp));have Ja:H9 (au (w2.setCells (w.heap.size+1+1) 0 cI) (w.heap.size+1+1) cI):=Ea.o.setCells cI 0 (by simp);have Ka:H9 (m1 w (w2.setCells (w.heap.size+1+1) 0 cI)):=aM _ 0 La.o (by omega);(go_wp2_with(with_reducible refine aF ?_ ?_;rfl));show wpList _ _ _ _ _ _;with_reducible refine wpList_store_mid ?_ 35 (.tmp 6) (.tmp 33) ?_ (w.heap.size+1+1) 0 (cI).toArray ?_ ?_ ?_ (by kernel_rfl) (by kernel_rfl) ?_
 ·exact rfl
 ·exact rfl
 ·exact rfl
 ·exact rfl
 ·exact Da.o
 generalize w2.setCells (w.heap.size+1+1) 0 cI=wz at *
 rotate_left
 all_goals
  go_wp2;exact m7 (dI rfl rfl (uN wz (w.heap.size+1+1) 0 35 _ _ Ja.o.row underlying35 rfl (by kernel_rfl))) rfl ⟨rfl,Ka.o⟩
theorem iH(w:World)(hz:aw w a n c zs)(hy:aw w b m d ys)(ha:M.allEl zs=true)(hb:M.allEl ys=true)(nz:M.neat zs)(ny:M.neat ys)(hn:n≤128)(hm:m≤128)(h1:0<m):
  Calls prog 125 #[.slice a n c,.slice b m d] w fun e w'=>∃a1 l1 c1 a2 l2 c2 q r,e=.returned (.tuple #[.slice a1 l1 c1,.slice a2 l2 c2])∧aC 2 w' w.heap.size a1 l1 c1 q∧aC 2 w' w.heap.size a2 l2 c2 r∧M.Div zs ys q r∧(∀x y,a1=some x→a2=some y→x.block≠y.block)∧m1 w w':=by
 by_cases h:m≤n
 ·exact kL w hz hy ha hb ny hn h1 h
 ·exact kf w hz hy ha nz hn hm h1 (by omega)
theorem rx{s:Nat}{pb:Nat}(h:(Value.slice b m d).ownBlock=(Value.slice a n c).ownBlock∨(Value.slice b m d).ownBlock=some s)(hp:pb<s)(hv:∀y,a=some y→y.block≠pb):∀y,b=some y→y.block≠pb:=by
 refine kn (b:=pb) (n:=m) (c:=d) ?_
 rcases h with e | e
 ·rw[e];exact gd hv
 ·rw[e];intro e2;injection e2 with e3;omega
theorem nI(h:k=ps.length):(bR ps).take k=bR ps:=uD (by rw[gW];omega)
theorem nW(h:k=ps.length):(bS ps).take k=bS ps:=uD (by rw[gZ];omega)
set_option maxRecDepth 10000 in
theorem kX(m:M.Mc)(s:Int×Int)(N:Nat)(w:World)(hm:m.ok=true)(hs:M.sOk s=true)(h:M.rowsN N=true):
  Calls prog 59 #[da m,cM s,.int .i64 N] w fun e w'=>∃(xa:Option Addr) (xc:Nat) (ya:Option Addr) (yc:Nat) (qxa:Option Addr) (qxc:Nat) (qya:Option Addr) (qyc:Nat),e=.returned (.tuple #[.agg #[.int .i64 s.1,.int .i64 s.2,.int .i64 (m.rn s (N-1)).1,.int .i64 (m.rn s (N-1)).2,.slice xa (4*N) xc,.slice ya (4*N) yc,.slice qxa (4*N) qxc,.slice qya (4*N) qyc],.bool true])∧
   (aC 2 w' w.heap.size xa (4*N) xc (m.pf s N).X∧aC 2 w' w.heap.size ya (4*N) yc (m.pf s N).Y∧aC 2 w' w.heap.size qxa (4*N) qxc (m.pf s N).QX∧aC 2 w' w.heap.size qya (4*N) qyc (m.pf s N).QY)∧(ic xa ya∧ic xa qxa∧ic xa qya∧ic ya qxa∧ic ya qya∧ic qxa qya)∧m1 w w':=by
 have Qh:=M.rowsN_pos h;obtain⟨K,hK⟩:∃K:Nat,K=4*N:=⟨_,rfl⟩;have Rh:K≤64:=(by omega);have C1:∀W,Rt 98 #[da m] W (.bool true):=fun W=>by rw[←hm];exact bA m W
 have C2:∀W,Rt 99 #[cM s] W (.bool true):=fun W=>by rw[←hs];exact b9 s W
 have C3:∀W,Rq 100 #[it N] W (.bool true):=fun W=>by rw[←jW h];exact ew N W
 have Ad:bE m s ((N:Int)-1)=true:=jX hm hs (by omega) (by omega)
 have C4:∀W,Calls prog 123 #[da m,cM s,.int .i64 ((N:Int)-1)] W fun e w'=>∃a cap,e=.returned (.tuple #[.slice a N cap,.bool true])∧bf 33 w' W.heap.size a N cap (m.run s (N-1))∧m1 W w':=fun W=>(gU m s ((N:Int)-1) W).mono fun e w' ⟨a,l,cap,h1,h2,h3,h4⟩=>by
  rw[Ad]at h1;rw[gk Ad,show((N:Int)-1).toNat=N-1 by omega]at h3;have hl:l=N:=(by have:=h3.1;rw[M.run_len]at this;omega);subst hl;exact⟨a,cap,h1,h3,h4⟩
 have C5:H9 (∀(W:World) {a:Option Addr} {c:Nat},aw W a N c (bR (m.run s (N-1)))→Calls prog 124 #[.slice a N c,.int .i64 1] W fun e w'=>∃a' l c',e=.returned (.slice a' l c')∧aC 2 w' W.heap.size a' l c' (M.fx m s N)∧m1 W w'):=fun W _ _ hW=>by
  rw[pL m s (by omega)]at hW;exact io 1 W hW (M.xsR_all hs N) (M.row_pt (M.rowsN_two h))
 have C6:H9 (∀(W:World) {a:Option Addr} {c:Nat},aw W a N c (bS (m.run s (N-1)))→Calls prog 124 #[.slice a N c,.int .i64 1] W fun e w'=>∃a' l c',e=.returned (.slice a' l c')∧aC 2 w' W.heap.size a' l c' (M.fy m s N)∧m1 W w'):=fun W _ _ hW=>by
  rw[pM m s (by omega)]at hW;exact io 1 W hW (M.ysR_all hs N) (M.row_pt (M.rowsN_two h))
 have ht:=M.thru_f m hs h;obtain⟨Xd,Yd⟩:=M.left_rows ht;obtain⟨Zd,Ae⟩:m.X.ok=true∧m.Y.ok=true:=by unfold M.Mc.ok at hm;simpa using hm
 have Be:=Hd ht.lx;have Ce:=Hd ht.ly;have De:=M.len_rl m.X (by omega) ht.lx ht.ly;have Ee:=M.len_rl m.Y (by omega) ht.lx ht.ly;have R1:H9 (∀(W:World) {a b:Option Addr} {n c p d:Nat},aw W a n c (M.fx m s N)→aw W b p d (M.fy m s N)→Calls prog 127 #[iR m.X,.slice a n c,.slice b p d] W fun e w'=>∃a' l c',e=.returned (.slice a' l c')∧l≤301∧aC 2 w' W.heap.size a' l c' (M.rl m.X (M.fx m s N) (M.fy m s N))∧m1 W w'):=fun W _ _ _ _ _ _ h1 h2=>ki m.X W Zd h1 h2 ht.ax ht.ay (by have:=h1.len;have:=ht.lx;omega) (by have:=h2.len;have:=ht.ly;omega);have R2:H9 (∀(W:World) {a b:Option Addr} {n c p d:Nat},aw W a n c (M.fx m s N)→aw W b p d (M.fy m s N)→Calls prog 127 #[iR m.Y,.slice a n c,.slice b p d] W fun e w'=>∃a' l c',e=.returned (.slice a' l c')∧l≤301∧aC 2 w' W.heap.size a' l c' (M.rl m.Y (M.fx m s N) (M.fy m s N))∧m1 W w'):=fun W _ _ _ _ _ _ h1 h2=>ki m.Y W Ae h1 h2 ht.ax ht.ay (by have:=h1.len;have:=ht.lx;omega) (by have:=h2.len;have:=ht.ly;omega);have E1:H9 (∀(W:World) {a b:Option Addr} {n c p d:Nat},aw W a n c (M.fx m s N)→aw W b p d (M.rl m.X (M.fx m s N) (M.fy m s N))→Calls prog 126 #[.slice a n c,.slice b p d,.int .i64 N] W fun e w'=>∃a' l c',e=.returned (.slice a' l c')∧aC 2 w' W.heap.size a' l c' (M.left (M.fx m s N) (M.rl m.X (M.fx m s N) (M.fy m s N)) (M.root N) (M.lst N))∧m1 W w'):=fun W _ _ _ _ _ _ h1 h2=>kh N W h h1 h2 ht.ax (M.all_rl _ _ _) (by have:=h1.len;have:=ht.lx;omega) (by have:=h2.len;omega);have E2:H9 (∀(W:World) {a b:Option Addr} {n c p d:Nat},aw W a n c (M.fy m s N)→aw W b p d (M.rl m.Y (M.fx m s N) (M.fy m s N))→Calls prog 126 #[.slice a n c,.slice b p d,.int .i64 N] W fun e w'=>∃a' l c',e=.returned (.slice a' l c')∧aC 2 w' W.heap.size a' l c' (M.left (M.fy m s N) (M.rl m.Y (M.fx m s N) (M.fy m s N)) (M.root N) (M.lst N))∧m1 W w'):=fun W _ _ _ _ _ _ h1 h2=>kh N W h h1 h2 ht.ay (M.all_rl _ _ _) (by have:=h1.len;have:=ht.ly;omega) (by have:=h2.len;omega);have Z1:=fun W=>qD N W (by omega) (by omega);have Nf:=M.len_left (g:=M.root N) (last:=M.lst N) (by omega) ht.lx De;have Of:=M.len_left (g:=M.root N) (last:=M.lst N) (by omega) ht.ly Ee;have D1:H9 (∀(W:World) {a b:Option Addr} {n c d:Nat},aw W a n c (M.left (M.fx m s N) (M.rl m.X (M.fx m s N) (M.fy m s N)) (M.root N) (M.lst N))→aw W b (N+1) d (M.zeroL N)→Calls prog 125 #[.slice a n c,.slice b (N+1) d] W fun e w'=>∃a1 l1 c1 a2 l2 c2 q,e=.returned (.tuple #[.slice a1 l1 c1,.slice a2 l2 c2])∧aC 2 w' W.heap.size a1 l1 c1 q∧(M.wide q N=(m.pf s N).QX∧M.allEl q=true)∧m1 W w'):=fun W _ _ _ _ _ h1 h2=>(iH W h1 h2 (M.all_left _ _ _ _) (M.zeroL_all (by omega)) (M.neat_left _ _ _ _) (M.zeroL_neat (by omega)) (by have:=h1.len;omega) (by omega) (by omega)).mono fun e w' ⟨a1,l1,c1,a2,l2,c2,q,r,g1,g2,_,g4,_,g6⟩=>⟨a1,l1,c1,a2,l2,c2,q,g1,g2,⟨M.quo_div h Xd g4,g4.aq⟩,g6⟩;have D2:H9 (∀(W:World) {a b:Option Addr} {n c d:Nat},aw W a n c (M.left (M.fy m s N) (M.rl m.Y (M.fx m s N) (M.fy m s N)) (M.root N) (M.lst N))→aw W b (N+1) d (M.zeroL N)→Calls prog 125 #[.slice a n c,.slice b (N+1) d] W fun e w'=>∃a1 l1 c1 a2 l2 c2 q,e=.returned (.tuple #[.slice a1 l1 c1,.slice a2 l2 c2])∧aC 2 w' W.heap.size a1 l1 c1 q∧(M.wide q N=(m.pf s N).QY∧M.allEl q=true)∧m1 W w'):=fun W _ _ _ _ _ h1 h2=>(iH W h1 h2 (M.all_left _ _ _ _) (M.zeroL_all (by omega)) (M.neat_left _ _ _ _) (M.zeroL_neat (by omega)) (by have:=h1.len;omega) (by omega) (by omega)).mono fun e w' ⟨a1,l1,c1,a2,l2,c2,q,r,g1,g2,_,g4,_,g6⟩=>⟨a1,l1,c1,a2,l2,c2,q,g1,g2,⟨M.quo_div h Yd g4,g4.aq⟩,g6⟩
 have EV:H9 (∀(W:World) {a:Option Addr} {n c:Nat} {q P:List Int},aw W a n c q→M.allEl q=true→M.wide q N=P→Calls prog 129 #[.slice a n c,.int .i64 (4*N:Nat),.int .i64 3] W fun e w'=>∃a' c',e=.returned (.slice a' (4*N) c')∧aC 2 w' W.heap.size a' (4*N) c' P∧m1 W w'):=fun W _ _ _ _ _ h1 h2 h3=>by
  subst h3;exact oC (4*N) 3 W h1 h2 (M.rowsN_pt h)
 have Bd:H9 (∀(W:World) {a:Option Addr} {n c:Nat},aw W a n c (M.fx m s N)→Calls prog 129 #[.slice a n c,.int .i64 (4*N:Nat),.int .i64 3] W fun e w'=>∃a' c',e=.returned (.slice a' (4*N) c')∧aC 2 w' W.heap.size a' (4*N) c' (m.pf s N).X∧m1 W w'):=fun W _ _ _ h1=>EV.o W h1 ht.ax rfl;have Cd:H9 (∀(W:World) {a:Option Addr} {n c:Nat},aw W a n c (M.fy m s N)→Calls prog 129 #[.slice a n c,.int .i64 (4*N:Nat),.int .i64 3] W fun e w'=>∃a' c',e=.returned (.slice a' (4*N) c')∧aC 2 w' W.heap.size a' (4*N) c' (m.pf s N).Y∧m1 W w'):=fun W _ _ _ h1=>EV.o W h1 ht.ay rfl;have Dd:H9 ((m.run s (N-1)).getD (N-1) (0,0)=m.rn s (N-1)):=gX m s (m3 _);have Ic:H9 (∀k,k<N→(bR (m.run s (N-1))).take k++[((m.run s (N-1)).getD k (0,0)).1]=(bR (m.run s (N-1))).take (k+1)):=fun k hk=>ji _ (by rw[M.run_len];omega);have Jc:H9 (∀k,k<N→(bS (m.run s (N-1))).take k++[((m.run s (N-1)).getD k (0,0)).2]=(bS (m.run s (N-1))).take (k+1)):=fun k hk=>jn _ (by rw[M.run_len];omega);have Ed:H9 ((bR (m.run s (N-1))).take N=bR (m.run s (N-1))):=nI (by rw[M.run_len];omega);have Fd:H9 ((bS (m.run s (N-1))).take N=bS (m.run s (N-1))):=nW (by rw[M.run_len];omega);simp only[←hK]at EV Bd Cd ⊢;generalize(m.pf s N).X=VX at *;generalize(m.pf s N).Y=VY at *;generalize(m.pf s N).QX=QX at *;generalize(m.pf s N).QY=QY at *;generalize M.left (M.fx m s N) (M.rl m.X (M.fx m s N) (M.fy m s N)) (M.root N) (M.lst N)=LX at E1 D1;generalize M.left (M.fy m s N) (M.rl m.Y (M.fx m s N) (M.fy m s N)) (M.root N) (M.lst N)=LY at E2 D2;generalize M.rl m.X (M.fx m s N) (M.fy m s N)=RX at R1 E1;generalize M.rl m.Y (M.fx m s N) (M.fy m s N)=RY at R2 E2;generalize M.zeroL N=ZL at Z1 D1 D2;generalize M.fx m s N=FX at C5 R1 R2 E1 Bd Be;generalize M.fy m s N=FY at C6 R1 R2 E2 Cd Ce;generalize bR (m.run s (N-1))=FS at C5 Ic Ed;generalize bS (m.run s (N-1))=GS at C6 Jc Fd;generalize m.run s (N-1)=RN at C4 Dd Ic Jc;generalize m.rn s (N-1)=en at *;have Sh:IntKind.i64.wrap ((N:Int)-1)=(N:Int)-1:=(by rw[uQ];omega);have Th:IntKind.i64.wrap (4*(N:Int))=(K:Int):=(by rw[uQ];omega);have Uh:4*(N:Int)=(K:Int):=(by omega);have Vh:(N:Int)≤16:=(by omega);have Wh:(2:Int)≤(N:Int):=(by omega);have Xh:0<K:=(by omega);have Fe:0<N:=(by omega);have Yh:(0:Int)≤(N:Int)-1:=(by omega);have Zh:¬ (N:Int)<1:=(by omega);have Ai:(N:Int)-1<(N:Int):=(by omega);have Bi:((N:Int)-1).toNat=N-1:=(by omega);obtain⟨i0,hi,Ge,He,Ie⟩:=info_parts bJ;have HI:H9 (prog.info? 2=some i0∧i0.zero=some (Value.int .i64 0)∧i0.size=1∧i0.bytes=8):=⟨hi,Ge,He,Ie⟩;obtain⟨⟨a,b,c,d,f,k⟩,⟨a',b',c',d',f',k'⟩⟩:=m;obtain⟨x,y⟩:=s;obtain⟨ex,ey⟩:=en;dsimp only[da,cM,iR]at C1 C2 C4 R1 R2 ⊢;have Ba:H9 (au (((w.alloc (.cells (co a b c d f k a' b' c' d' f' k').toArray 31)).alloc (.cells #[it x,it y] 33)).alloc (.cells cI.toArray 35)) w.heap.size (co a b c d f k a' b' c' d' f' k')):=((aO _ _ _).alloc _).alloc _;have Fa:H9 (au (((w.alloc (.cells (co a b c d f k a' b' c' d' f' k').toArray 31)).alloc (.cells #[it x,it y] 33)).alloc (.cells cI.toArray 35)) (w.heap.size+1) [it x,it y]):=(ba _ _ _ _).alloc _;have HZ:H9 (au (((w.alloc (.cells (co a b c d f k a' b' c' d' f' k').toArray 31)).alloc (.cells #[it x,it y] 33)).alloc (.cells cI.toArray 35)) (w.heap.size+1+1) cI):=dl _ _ _ _ _;have HB:H9 (m1 w (((w.alloc (.cells (co a b c d f k a' b' c' d' f' k').toArray 31)).alloc (.cells #[it x,it y] 33)).alloc (.cells cI.toArray 35))):=(((m5 _ _).alloc (m3 _) _).alloc (by simp) _).alloc (by simp;omega) _;clear hm hs h hK hi Ge He Ie Ad ht Xd Yd Zd Ae De Ee Nf Of;go_enter func59,ntmps59;(go_wp2_with fail);refine(C1 _).mono ?_;rintro e w1 ⟨rfl,Ra⟩;have Xa:=Ba.b Ra;have Ya:=Fa.b Ra;have Za:=HZ.b Ra;clear Ba Fa HZ;have Ba:=Hd Xa.o;have Fa:=Hd Ya.o;have HZ:=Hd Za.o;clear Xa Ya Za;have Ab:=HB.t Ra;clear HB;have HB:=Hd Ab.o;clear Ab Ra;have s0:=Fa.c 0;have s1:=Fa.c 1;(go_wp2_with fail);refine(C2 _).mono ?_;rintro e w2 ⟨rfl,Na⟩;have Xa:=Ba.b Na;have Ya:=Fa.b Na;have Za:=HZ.b Na;clear Ba Fa HZ;have Ba:=Hd Xa.o;have Fa:=Hd Ya.o;have HZ:=Hd Za.o;clear Xa Ya Za;have Ab:=HB.t Na;clear HB;have HB:=Hd Ab.o;clear Ab Na;clear s0 s1;(go_wp2_with fail);refine(C3 _).mono ?_;rintro e w2 ⟨rfl,rfl⟩;have s0:=Fa.c 0;have s1:=Fa.c 1;have m0:=Ba.c 0;have I:=Ba.c 1;have J:=Ba.c 2;have Q:=Ba.c 3;have V:=Ba.c 4;have T:=Ba.c 5;have Y:=Ba.c 6;have Z:=Ba.c 7;have L:=Ba.c 8;have U:=Ba.c 9;have Gd:=Ba.c 10;have Id:=Ba.c 11;(go_wp2_with fail);refine(C4 _).mono ?_;rintro e w3 ⟨Pf,lc,rfl,Je,La⟩;have Ke:H9 (bf 33 w3 (w.heap.size+1+1+1) Pf N lc RN):=Je.mono HZ.o.2.2;clear Je;have Xa:=Ba.b La;have Ya:=Fa.b La;have Za:=HZ.b La;clear Ba Fa HZ;have Ba:=Hd Xa.o;have Fa:=Hd Ya.o;have HZ:=Hd Za.o;clear Xa Ya Za;have Ab:=HB.t La;clear HB;have HB:=Hd Ab.o;clear Ab La;clear s0 s1 m0 I J Q V T Y Z L U Gd Id C1 C2 C3 C4;obtain⟨lb,Qf,Le,-,-,Jd⟩:=Ke.o.block Fe;subst Qf;have Wa:=Hd Jd;have Jb:H9 (lb<w3.heap.size):=uP w3 _ (Jd 0 Fe).1;have Rf:=Hd Le;clear Jd Ke Le
 have Ne:H9 (aC 2 ((w3.alloc (.cells #[] 2)).alloc (.cells #[] 2)) w3.heap.size (some ⟨w3.heap.size,0,none⟩) 0 0 (FS.take 0)):=by
  have h:=World.ownsRow_made (base:=w3.heap.size) (e:=2) (size:=1) w3 #[] 0 (m3 _) (by unfold maxLen;omega) rfl;exact vg h _
 have Oe:H9 (aC 2 ((w3.alloc (.cells #[] 2)).alloc (.cells #[] 2)) w3.heap.size (some ⟨w3.heap.size+1,0,none⟩) 0 0 (GS.take 0)):=by
  have h:=World.ownsRow_made (base:=w3.heap.size) (e:=2) (size:=1) (w3.alloc (.cells #[] 2)) #[] 0 (by simp) (by unfold maxLen;omega) rfl;rw[show(w3.alloc (.cells #[] 2)).heap.size=w3.heap.size+1 by simp]at h;exact h
 have Pe:H9 (m1 w3 ((w3.alloc (.cells #[] 2)).alloc (.cells #[] 2))):=((m5 _ _).alloc (m3 _) _).alloc (by simp) _;go_wp2
 go_loopw [10,11,12] (fun s1 s2 i wr=>∃(k:Nat) (a1:Option Addr) (c1:Nat) (a2:Option Addr) (c2:Nat),k≤N∧i=it k∧s1=.slice a1 k c1∧s2=.slice a2 k c2∧aC 2 wr w3.heap.size a1 k c1 (FS.take k)∧aC 2 wr w3.heap.size a2 k c2 (GS.take k)∧ic a1 a2∧m1 w3 wr) (fun _ _ i _=>N-(intOf i).toNat)
 case atStart=>exact⟨0,_,_,_,_,by omega,rfl,rfl,rfl,Ne.o,Oe.o,fun z1 z2 h1 h2 e=>by injection h1 with h1;injection h2 with h2;subst h1;subst h2;simp at e,Pe.o⟩
 case round=>
  obtain⟨k,a1,c1,a2,c2,hk,rfl,rfl,rfl,Qe,Re,Se,Te⟩:=hrel;have Cb:=Hd Qe;have Db:=Hd Re;have Kc:=Hd Se;have Sa:=Hd Te;clear Qe Re Se Te Ne Oe Pe;by_cases Lc:k<N
  ·
   have e1:=(Sa.o.cell (p:=⟨lb,k*2,none⟩) Jb.o).trans (Wa.o k Lc).1;have e2:=(Sa.o.cell (p:=⟨lb,k*2+1,none⟩) Jb.o).trans (Wa.o k Lc).2;have Ue:=Ic.o k Lc;have Ve:=Jc.o k Lc;have hI:(k:Int)<(N:Int):=(by omega);have Kd:=Hd e2;have HFk':=Hd Ue;have HGk':=Hd Ve;clear Ue Ve e2;generalize(RN.getD k (0,0)).1=u at e1 HFk';generalize(RN.getD k (0,0)).2=v at Kd HGk';generalize FS.take k=F1 at Cb HFk';generalize GS.take k=G1 at Db HGk';(go_wp2_with(at_builtin;refine wpList_append_own_at _ rfl _ _ 24 rfl w3.heap.size 2 i0 (it 0) 1 8 underlying24 HI.o.1 HI.o.2.1 HI.o.2.2.1 HI.o.2.2.2 rfl (by decide) _ k (F1.map (Value.int .i64)) rfl (vg Cb.o _) ⟨wr.heap.size,0,none⟩ 1 1 [it u] rfl rfl (bB _ _ _) (bZ _) (by unfold maxLen;omega) (by omega) (by have:=Sa.o.size;simp;omega) ?_));intro v' w4 Rb Eb _ Sb;have hown':w4.ownsRow w3.heap.size 2 1 v' (k+1) ((FS.take (k+1)).map (Value.int .i64)):=(by rw[←HFk'.o,uX];exact Rb);obtain⟨b4,c4,rfl,We⟩:=aC.form hown';have Ld:=Hd We;have Nd:=Hd (aC.grownR (w:=wr.alloc (.cells #[Value.int .i64 u] 2)) (Db.o.below ((m5 _ _).alloc (m3 _) _)) Eb (fun z hz=>gd (fun q hq=>Kc.o q z hq hz)));have Od:H9 (ic b4 a2):=fun z1 z2 h1 h2=>rx Sb (by have:=Db.o.hi z2 h2;simp;omega) (fun q hq=>Kc.o q z2 hq h2) z1 h1;have Kb:=Hd ((Sa.o.alloc Sa.o.size _).grown Eb (by have:=Sa.o.size;simp;omega) Cb.o.row);have e2:w4.cell? ⟨lb,k*2+1,none⟩=some (it v):=(Kb.o.cell (p:=⟨lb,k*2+1,none⟩) Jb.o).trans ((Sa.o.cell (p:=⟨lb,k*2+1,none⟩) Jb.o).symm.trans Kd.o);clear Rb hown' Eb We Sb Cb Db Kc Sa Kd HFk';(go_wp2_with(at_builtin;refine wpList_append_own_at _ rfl _ _ 24 rfl w3.heap.size 2 i0 (it 0) 1 8 underlying24 HI.o.1 HI.o.2.1 HI.o.2.2.1 HI.o.2.2.2 rfl (by decide) _ k (G1.map (Value.int .i64)) rfl (vg Nd.o _) ⟨w4.heap.size,0,none⟩ 1 1 [it v] rfl rfl (bB _ _ _) (bZ _) (by unfold maxLen;omega) (by omega) (by have:=Kb.o.size;simp;omega) ?_));intro v' w5 Rb Eb _ Sb;have hown':w5.ownsRow w3.heap.size 2 1 v' (k+1) ((GS.take (k+1)).map (Value.int .i64)):=(by rw[←HGk'.o,uX];exact Rb);obtain⟨b5,c5,rfl,Xe⟩:=aC.form hown';have Sf:=Hd Xe;have Tf:=Hd (aC.grownR (w:=w4.alloc (.cells #[Value.int .i64 v] 2)) (Ld.o.below ((m5 _ _).alloc (m3 _) _)) Eb (fun z hz=>gd (fun q hq=>(Od.o.symm) q z hq hz)));have Uf:H9 (ic b4 b5):=fun z1 z2 h1 h2=>(rx Sb (by have:=Ld.o.hi z1 h1;simp;omega) (fun q hq=>Od.o.symm q z1 hq h1) z2 h2).symm;have Vf:=Hd ((Kb.o.alloc Kb.o.size _).grown Eb (by have:=Kb.o.size;simp;omega) Nd.o.row);clear Rb hown' Eb Xe Sb Ld Nd Od Kb;go_wp2;go_roundw
   case rel=>exact⟨k+1,b4,c4,b5,c5,by omega,by go_num,rfl,rfl,Tf.o,Sf.o,Uf.o,Vf.o⟩
   case measure=>simp[intOf];omega
  ·
   have Wf:N=k:=(by omega);subst Wf;rw[Ed.o]at Cb;rw[Fd.o]at Db;have Aa:=Hd Sa.o;have Ye:=Hd Cb.o;have Tb:=Hd Db.o;clear Cb Db Kc Sa;(go_wp2_with fail);refine(C5.o _ Ye.o.sees).mono ?_;rintro e Xf ⟨xa,xl,xc,rfl,Pd,Qd⟩;have Ci:xl≤16:=(by have h1:=Pd.len;have h2:=Be.o;omega);have Ca:=Hd (Pd.mono Aa.o.size);have Da:=Aa.t Qd;have Ze:=Hd (Tb.o.below Qd);clear Aa Ye Tb Qd;have Aa:=Hd Da.o;have Tb:=Hd Ze.o;have HX:=Hd Ca.o;clear Da Ze Ca;clear Pd;(go_wp2_with fail);refine(C6.o _ Tb.o.sees).mono ?_;rintro e Fb ⟨ya,yl,yc,rfl,Rd,Sd⟩;have Di:yl≤16:=(by have h1:=Rd.len;have h2:=Ce.o;omega);have Ea:=Hd (Rd.mono Aa.o.size);have Da:=Aa.t Sd;have Ca:=Hd (HX.o.below Sd);clear Aa Tb HX Sd;have Aa:=Hd Da.o;have HX:=Hd Ca.o;have HY:=Hd Ea.o;clear Da Ca Ea;clear Rd;have m0:=(Ba.o.belowS Aa.o).c 0;have I:=(Ba.o.belowS Aa.o).c 1;have J:=(Ba.o.belowS Aa.o).c 2;have Q:=(Ba.o.belowS Aa.o).c 3;have V:=(Ba.o.belowS Aa.o).c 4;have T:=(Ba.o.belowS Aa.o).c 5;(go_wp2_with fail);refine(R1.o _ HX.o.sees HY.o.sees).mono ?_;rintro e Yf ⟨ta,tl,tc,rfl,Td,Ub,Nc⟩;have Vb:=Hd (Ub.mono Aa.o.size);have Da:=Aa.t Nc;have Ca:=Hd (HX.o.below Nc);have Ea:=Hd (HY.o.below Nc);clear Aa HX HY Nc;have Aa:=Hd Da.o;have HX:=Hd Ca.o;have HY:=Hd Ea.o;have HT:=Hd Vb.o;clear Da Ca Ea Vb;clear Ub Td m0 I J Q V T;(go_wp2_with fail);refine(E1.o _ HX.o.sees HT.o.sees).mono ?_;rintro e Zf ⟨ea,el,ec,rfl,Wb,Oc⟩;have Ga:=Hd (Wb.mono Aa.o.size);have Da:=Aa.t Oc;have Ca:=Hd (HX.o.below Oc);have Ea:=Hd (HY.o.below Oc);clear Aa HX HY HT Oc;have Aa:=Hd Da.o;have HX:=Hd Ca.o;have HY:=Hd Ea.o;have HE:=Hd Ga.o;clear Da Ca Ea Ga;clear Wb;(go_wp2_with fail);refine(Z1 _).mono ?_;rintro e Ag ⟨za,zc,rfl,Xb,Yb⟩;have Zb:=Hd (Xb.mono Aa.o.size);have Da:=Aa.t Yb;have Ca:=Hd (HX.o.below Yb);have Ea:=Hd (HY.o.below Yb);have Ga:=Hd (HE.o.below Yb);clear Aa HX HY HE Yb;have Aa:=Hd Da.o;have HX:=Hd Ca.o;have HY:=Hd Ea.o;have HE:=Hd Ga.o;have Ac:=Hd Zb.o;clear Da Ca Ea Ga Zb;clear Xb;(go_wp2_with fail);refine(D1.o _ HE.o.sees Ac.o.sees).mono ?_;rintro e Gb ⟨qa,ql,qc,Ei,Fi,Gi,q1,rfl,Af,Bf,Pc⟩;have Ha:=Hd (Af.mono Aa.o.size);have Da:=Aa.t Pc;have Ca:=Hd (HX.o.below Pc);have Ea:=Hd (HY.o.below Pc);clear Aa HX HY HE Ac Pc;have Aa:=Hd Da.o;have HX:=Hd Ca.o;have HY:=Hd Ea.o;have HQ:=Hd Ha.o;clear Da Ca Ea Ha;clear Af;have Ud:=Hd Bf;clear Bf;have Y:=(Ba.o.belowS Aa.o).c 6;have Z:=(Ba.o.belowS Aa.o).c 7;have L:=(Ba.o.belowS Aa.o).c 8;have U:=(Ba.o.belowS Aa.o).c 9;have Gd:=(Ba.o.belowS Aa.o).c 10;have Id:=(Ba.o.belowS Aa.o).c 11;(go_wp2_with fail);refine(R2.o _ HX.o.sees HY.o.sees).mono ?_;rintro e Bg ⟨ta,tl,tc,rfl,Td,Ub,Bc⟩;have Vb:=Hd (Ub.mono Aa.o.size);have Da:=Aa.t Bc;have Ca:=Hd (HX.o.below Bc);have Ea:=Hd (HY.o.below Bc);have Ha:=Hd (HQ.o.below Bc);clear Aa HX HY HQ Bc;have Aa:=Hd Da.o;have HX:=Hd Ca.o;have HY:=Hd Ea.o;have HQ:=Hd Ha.o;have HT:=Hd Vb.o;clear Da Ca Ea Ha Vb;clear Ub Td Y Z L U Gd Id;(go_wp2_with fail);refine(E2.o _ HY.o.sees HT.o.sees).mono ?_;rintro e Cg ⟨ea,el,ec,rfl,Wb,Cc⟩;have Ga:=Hd (Wb.mono Aa.o.size);have Da:=Aa.t Cc;have Ca:=Hd (HX.o.below Cc);have Ea:=Hd (HY.o.below Cc);have Ha:=Hd (HQ.o.below Cc);clear Aa HX HY HQ HT Cc;have Aa:=Hd Da.o;have HX:=Hd Ca.o;have HY:=Hd Ea.o;have HQ:=Hd Ha.o;have HE:=Hd Ga.o;clear Da Ca Ea Ha Ga;clear Wb;(go_wp2_with fail);refine(Z1 _).mono ?_;rintro e Dg ⟨za,zc,rfl,Xb,Lb⟩;have Zb:=Hd (Xb.mono Aa.o.size);have Da:=Aa.t Lb;have Ca:=Hd (HX.o.below Lb);have Ea:=Hd (HY.o.below Lb);have Ha:=Hd (HQ.o.below Lb);have Ga:=Hd (HE.o.below Lb);clear Aa HX HY HQ HE Lb;have Aa:=Hd Da.o;have HX:=Hd Ca.o;have HY:=Hd Ea.o;have HQ:=Hd Ha.o;have HE:=Hd Ga.o;have Ac:=Hd Zb.o;clear Da Ca Ea Ha Ga Zb;clear Xb;(go_wp2_with fail);refine(D2.o _ HE.o.sees Ac.o.sees).mono ?_;rintro e Cf ⟨ga,gl,gc,Hi,Ii,Ji,q2,rfl,Df,Ef,Dc⟩;have Ff:=Hd (Df.mono Aa.o.size);have Da:=Aa.t Dc;have Ca:=Hd (HX.o.below Dc);have Ea:=Hd (HY.o.below Dc);have Ha:=Hd (HQ.o.below Dc);clear Aa HX HY HQ HE Ac Dc;have Aa:=Hd Da.o;have HX:=Hd Ca.o;have HY:=Hd Ea.o;have HQ:=Hd Ha.o;have HG:=Hd Ff.o;clear Da Ca Ea Ha Ff;clear Df;have Vd:=Hd Ef;clear Ef;go_wp2;generalize Cf=wq at *;have Gf:=Hd (Fa.o.belowS Aa.o);have Wd:=Hd (HZ.o.belowS Aa.o);have Hf:=Hd (HB.o.trans (Aa.o.mono HB.o.size));have Qc:=Wa.o (N-1) (by omega);rw[Dd.o]at Qc;have Ga:H9 (wq.cell? ⟨lb,(N-1)*2,none⟩=some (it ex)∧wq.cell? ⟨lb,(N-1)*2+1,none⟩=some (it ey)):=⟨(Aa.o.cell (p:=⟨lb,(N-1)*2,none⟩) Jb.o).trans Qc.1,(Aa.o.cell (p:=⟨lb,(N-1)*2+1,none⟩) Jb.o).trans Qc.2⟩;have If:H9 (some lb≠some (w.heap.size+1+1)):=fun e=>by injection e with e;have:=Rf.o;omega
   have Bb:=Hd Wd.o.2.2;have Rc:=Hd HZ.o.2.2;have Eg:=Hd HX.o.sees;have Fg:=Hd HY.o.sees;have Gg:=Hd HQ.o.sees;have Hg:=Hd HG.o.sees;have Ig:H9 (∀z,xa=some z→some (w.heap.size+1+1)≠some z.block):=fun z hz e=>by injection e with e;have:=HX.o.lo z hz;have:=Rc.o;omega
   have Jg:H9 (∀z,ya=some z→some (w.heap.size+1+1)≠some z.block):=fun z hz e=>by injection e with e;have:=HY.o.lo z hz;have:=Rc.o;omega
   have Kg:H9 (∀z,qa=some z→some (w.heap.size+1+1)≠some z.block):=fun z hz e=>by injection e with e;have:=HQ.o.lo z hz;have:=Rc.o;omega
   have Lg:H9 (∀z,ga=some z→some (w.heap.size+1+1)≠some z.block):=fun z hz e=>by injection e with e;have:=HG.o.lo z hz;have:=Rc.o;omega
   have Ng:H9 (∀(W:World) {a:Option Addr} {n c:Nat},aw W a n c q1→Calls prog 129 #[.slice a n c,.int .i64 (K:Int),.int .i64 3] W fun e w'=>∃a' c',e=.returned (.slice a' K c')∧aC 2 w' W.heap.size a' K c' QX∧m1 W w'):=fun W _ _ _ h1=>EV.o W h1 Ud.o.2 Ud.o.1;have Og:H9 (∀(W:World) {a:Option Addr} {n c:Nat},aw W a n c q2→Calls prog 129 #[.slice a n c,.int .i64 (K:Int),.int .i64 3] W fun e w'=>∃a' c',e=.returned (.slice a' K c')∧aC 2 w' W.heap.size a' K c' QY∧m1 W w'):=fun W _ _ _ h1=>EV.o W h1 Vd.o.2 Vd.o.1;clear Qc HX HY HQ HG Aa Ba Fa HZ HB Wa Dd C5 C6 R1 R2 E1 E2 Z1 D1 D2 EV Ud Vd Ic Jc Ed Fd;refine cB wq (some (w.heap.size+1+1)) (by kernel_rfl) fun hHeld=>?_;have Pg:=Hd (Wd.o.below (m5 _ _).drew Wd.o.2.2);generalize wq.drew=Jf at *;refine tk 0 (.agg #[it x,it y]) ?_ ?_
   ·intro wp Ec;have c0:=(Gf.o.grown Ec (by simp)).c 0;have c1:=(Gf.o.grown Ec (by simp)).c 1;go_simp
   refine tk 1 (.slice (some ⟨lb,0,none⟩) N lc) ?_ ?_
   ·intro wq Ka;go_simp
   refine tk 2 (it (N:Int)) ?_ ?_
   ·intro wq Ka;go_simp
   refine tk 3 (it ((N:Int)-1)) ?_ ?_
   ·intro wq Ka;go_simp
   refine tk 4 (.pointer (some ⟨lb,(N-1)*2,none⟩)) ?_ ?_
   ·intro wq Ka;go_simp
   refine tk 5 (.agg #[it ex,it ey]) ?_ ?_
   ·intro wp Ec;have c0:=Ec.cell Ga.o.1 If.o;have c1:=Ec.cell Ga.o.2 If.o;go_simp
   refine tk 6 (.slice xa xl xc) ?_ ?_
   ·intro wq Ka;go_simp
   refine tk 7 (it (K:Int)) ?_ ?_
   ·intro wq Ka;go_simp
   refine tk 9 (.slice ya yl yc) ?_ ?_
   ·intro wq Ka;go_simp
   refine tk 10 (it (K:Int)) ?_ ?_
   ·intro wq Ka;go_simp
   refine tk 12 (.slice qa ql qc) ?_ ?_
   ·intro wq Ka;go_simp
   refine tk 13 (it (K:Int)) ?_ ?_
   ·intro wq Ka;go_simp
   refine tk 15 (.slice ga gl gc) ?_ ?_
   ·intro wq Ka;go_simp
   refine tk 16 (it (K:Int)) ?_ ?_
   ·intro wq Ka;go_simp
   refine aX 8 fun Kk hK=>?_;go_simp;refine(Bd.o _ (Eg.o.grownR hHeld Ig.o)).mono ?_;rintro e Fc ⟨va,vc,rfl,Sc,Ra⟩;go_simp;have Oa:=aH hHeld Ra;have Nb:=Hd Ra.size;have Qg:=Pg.b Ra;have Rg:=Hd Sc;refine hK.out _ _ Oa (fun _=>?_);clear hK Kk Ra;have Tc:H9 (∀z,va=some z→Jf.heap.size≤z.block∧z.block<Fc.heap.size):=fun z hz=>⟨Sc.lo z hz,Sc.hi z hz⟩;clear Sc;refine aX 11 fun Kk hK=>?_;go_simp;refine(Cd.o _ (Fg.o.grownR Oa Jg.o)).mono ?_;rintro e Gc ⟨ua,uc,rfl,Uc,Na⟩;go_simp;have Pa:=aH Oa Na;have Sg:=Hd (Rg.o.below Na);have Ob:=Hd Na.size;have Tg:=Qg.b Na;have Ug:=Hd Uc;refine hK.out _ _ Pa (fun _=>?_);clear hK Kk Na;have Vc:H9 (∀z,ua=some z→Fc.heap.size≤z.block∧z.block<Gc.heap.size):=fun z hz=>⟨Uc.lo z hz,Uc.hi z hz⟩;clear Uc;refine aX 14 fun Kk hK=>?_;go_simp;refine(Ng.o _ (Gg.o.grownR Pa Kg.o)).mono ?_;rintro e Hc ⟨Ia,Ta,rfl,Wc,La⟩;go_simp;have Qa:=aH Pa La;have Vg:=Hd (Sg.o.below La);have Wg:=Hd (Ug.o.below La);have Pb:=Hd La.size;have Xg:=Tg.b La;have Yg:=Hd Wc;refine hK.out _ _ Qa (fun _=>?_);clear hK Kk La;have Wa:H9 (∀z,Ia=some z→Gc.heap.size≤z.block∧z.block<Hc.heap.size):=fun z hz=>⟨Wc.lo z hz,Wc.hi z hz⟩;clear Wc;refine aX 17 fun Kk hK=>?_;go_simp;refine(Og.o _ (Hg.o.grownR Qa Lg.o)).mono ?_;rintro e Hb ⟨Ja,Ua,rfl,Xc,Ib⟩;go_simp;have Va:=aH Qa Ib;have Zg:=Hd (Vg.o.below Ib);have Ah:=Hd (Wg.o.below Ib);have Bh:=Hd (Yg.o.below Ib);have Qb:=Hd Ib.size;have Kf:=Xg.b Ib;have Ch:=Hd Xc;refine hK.out _ _ Va (fun _=>?_);clear hK Kk Ib;have Yc:H9 (∀z,Ja=some z→Hc.heap.size≤z.block∧z.block<Hb.heap.size):=fun z hz=>⟨Xc.lo z hz,Xc.hi z hz⟩;clear Xc;refine tk 18 (.agg (bp x y ex ey va K vc ua K uc Ia K Ta Ja K Ua).toArray) ?_ ?_
   ·intro wq Ka;go_simp
   refine aX 19 fun Kk hK=>?_;rw[if_pos (by kernel_rfl)];with_reducible refine wp_store_mid 35 (.tmp 6) (.tmp 118) ?_ (w.heap.size+1+1) 0 (bp x y ex ey va K vc ua K uc Ia K Ta Ja K Ua).toArray ?_ ?_ ?_ (by kernel_rfl) (by kernel_rfl) ?_
   ·exact rfl
   ·exact rfl
   ·exact rfl
   ·exact Kf.o.there 0 8 (by simp)
   have Lf:wq.grownBy (Hb.setCells (w.heap.size+1+1) 0 (bp x y ex ey va K vc ua K uc Ia K Ta Ja K Ua)) (some (w.heap.size+1+1)):=a8 Va 0 _;have Dh:H9 (au (Hb.setCells (w.heap.size+1+1) 0 (bp x y ex ey va K vc ua K uc Ia K Ta Ja K Ua)) (w.heap.size+1+1) (bp x y ex ey va K vc ua K uc Ia K Ta Ja K Ua)):=Kf.o.setCells (bp x y ex ey va K vc ua K uc Ia K Ta Ja K Ua) 0 (by simp);have Zc:=cm Hb (w.heap.size+1+1) 0 (bp x y ex ey va K vc ua K uc Ia K Ta Ja K Ua);refine hK.out _ _ Lf (fun _=>?_);clear hK Kk;generalize Hb.setCells (w.heap.size+1+1) 0 (bp x y ex ey va K vc ua K uc Ia K Ta Ja K Ua)=wz at *;refine tk 20 (.bool true) ?_ ?_
   ·intro wq Ka;go_simp
   refine bg ?_;go_simp;have Eh:H9 (aC 2 wz w.heap.size va K vc VX):=(Zg.o.grownR Zc (fun z hz e=>by have:=(Tc.o z hz).1;have:=Bb.o;have:=hHeld.size;have:=Oa.size;have:=Pa.size;have:=Qa.size;have:=Va.size;injection e with e;omega)).mono (by have:=Bb.o;have:=hHeld.size;have:=Oa.size;have:=Pa.size;have:=Qa.size;have:=Va.size;omega);have Fh:H9 (aC 2 wz w.heap.size ua K uc VY):=(Ah.o.grownR Zc (fun z hz e=>by have:=(Vc.o z hz).1;have:=Bb.o;have:=hHeld.size;have:=Oa.size;have:=Pa.size;have:=Qa.size;have:=Va.size;injection e with e;omega)).mono (by have:=Bb.o;have:=hHeld.size;have:=Oa.size;have:=Pa.size;have:=Qa.size;have:=Va.size;omega);have Gh:H9 (aC 2 wz w.heap.size Ia K Ta QX):=(Bh.o.grownR Zc (fun z hz e=>by have:=(Wa.o z hz).1;have:=Bb.o;have:=hHeld.size;have:=Oa.size;have:=Pa.size;have:=Qa.size;have:=Va.size;injection e with e;omega)).mono (by have:=Bb.o;have:=hHeld.size;have:=Oa.size;have:=Pa.size;have:=Qa.size;have:=Va.size;omega);have Hh:H9 (aC 2 wz w.heap.size Ja K Ua QY):=(Ch.o.grownR Zc (fun z hz e=>by have:=(Yc.o z hz).1;have:=Bb.o;have:=hHeld.size;have:=Oa.size;have:=Pa.size;have:=Qa.size;have:=Va.size;injection e with e;omega)).mono (by have:=Bb.o;have:=hHeld.size;have:=Oa.size;have:=Pa.size;have:=Qa.size;have:=Va.size;omega);have Ih:H9 (ic va ua):=fun z1 z2 h1 h2 e=>by have:=(Tc.o z1 h1).2;have:=(Vc.o z2 h2).1;have:=Nb.o;have:=Ob.o;have:=Pb.o;have:=Qb.o;omega
   have Jh:H9 (ic va Ia):=fun z1 z2 h1 h2 e=>by have:=(Tc.o z1 h1).2;have:=(Wa.o z2 h2).1;have:=Nb.o;have:=Ob.o;have:=Pb.o;have:=Qb.o;omega
   have Kh:H9 (ic va Ja):=fun z1 z2 h1 h2 e=>by have:=(Tc.o z1 h1).2;have:=(Yc.o z2 h2).1;have:=Nb.o;have:=Ob.o;have:=Pb.o;have:=Qb.o;omega
   have Lh:H9 (ic ua Ia):=fun z1 z2 h1 h2 e=>by have:=(Vc.o z1 h1).2;have:=(Wa.o z2 h2).1;have:=Nb.o;have:=Ob.o;have:=Pb.o;have:=Qb.o;omega
   have Nh:H9 (ic ua Ja):=fun z1 z2 h1 h2 e=>by have:=(Vc.o z1 h1).2;have:=(Yc.o z2 h2).1;have:=Nb.o;have:=Ob.o;have:=Pb.o;have:=Qb.o;omega
   have Oh:H9 (ic Ia Ja):=fun z1 z2 h1 h2 e=>by have:=(Wa.o z1 h1).2;have:=(Yc.o z2 h2).1;have:=Nb.o;have:=Ob.o;have:=Pb.o;have:=Qb.o;omega
   have Ph:=Hd (Hf.o.grown Lf Hf.o.size (fun q hq=>by injection hq with hq;omega));go_wp2;exact m7 (dI rfl rfl (uN wz (w.heap.size+1+1) 0 35 _ _ Dh.o.row underlying35 rfl (by kernel_rfl))) rfl ⟨va,vc,ua,uc,Ia,Ta,Ja,Ua,rfl,⟨Eh.o,Fh.o,Gh.o,Hh.o⟩,⟨Ih.o,Jh.o,Kh.o,Lh.o,Nh.o,Oh.o⟩,Ph.o⟩
section
open Go.ChangeShapes Go.WideShapes
namespace card
abbrev nL:String:= "loop.example/g00319/impl.errLength"
abbrev nN:String:= "loop.example/g00319/impl.errNoElement"
theorem gL:prog.globalNamed nL=some 1:=by kernel_rfl
theorem gN:prog.globalNamed nN=some 0:=by kernel_rfl
theorem gT:prog.globalNamed "errors.errorType" = some 2:=by kernel_rfl
theorem tL:(prog.globals[1]?).map (·.type)=some 105:=by kernel_rfl
theorem tN:(prog.globals[0]?).map (·.type)=some 105:=by kernel_rfl
theorem cE:prog.cellsOf 422=1:=by kernel_rfl
theorem cS:prog.cellsOf 9=1:=by kernel_rfl
theorem star: "*" ++ "errors.errorString" = "*errors.errorString" :=by decide
theorem rowE(u:TypeId)(h:prog.typeName? 3 u=some "*errors.errorString"):u=401:=
 typeName_ptr_named (nm:= "errors.errorString") (by rw[star];kernel_rfl) (by kernel_rfl) (by decide) u (by rw[star];exact h)
theorem rt:(prog.cutTypes.find? (·.1== "internal/reflectlite.rtype")).map (·.2)=some 355:=by kernel_rfl
theorem oneRow:((List.range prog.types.size).filter fun t=>prog.rowNamed t [101,114,114,111,114])=[105]:=by kernel_rfl
abbrev laid:List (String×DataW Unit):=[("errors.errorType",Rows.laid_errors_errorType),(nN,Rows.laid_loop_example_g00319_impl_errNoElement),(nL,Rows.laid_loop_example_g00319_impl_errLength)]
theorem split(h:laidMetH prog laid W):laidMet prog [(nN,Rows.laid_loop_example_g00319_impl_errNoElement),(nL,Rows.laid_loop_example_g00319_impl_errLength)] W∧handlesMet prog [("errors.errorType",Rows.laid_errors_errorType)] W:=h
theorem handle(h':handlesMet prog [("errors.errorType",Rows.laid_errors_errorType)] W):W.cell? ⟨2,0,none⟩=some (.iface 355 (.agg #[.pointer (some ⟨6,105,none⟩)])):=by
 obtain⟨Aa,u,ty,e1,e2,e3,e4,e5⟩:=h' _ (List.mem_singleton.2 rfl);have en:Aa=[101,114,114,111,114]:=(m2 e1).symm;subst en;obtain rfl:=m2 (rt.symm.trans e2);have hm:ty∈(List.range prog.types.size).filter fun t=>prog.rowNamed t [101,114,114,111,114]:=List.mem_filter.2 ⟨List.mem_range.2 e3,e4⟩;rw[oneRow]at hm;obtain rfl:=List.mem_singleton.1 hm;have hh:typeHandle prog 105=.pointer (some ⟨6,105,none⟩):=(by kernel_rfl);rw[hh]at e5;simpa using World.var?_cell gT e5 0
theorem env(h:laidMetH prog laid W):∃aL aN,Env W aL aN∧W.var? prog nL=some #[.iface 401 (.pointer (some aL))]∧W.var? prog nN=some #[.iface 401 (.pointer (some aN))]:=by
 obtain⟨hs,hh⟩:=split h;obtain⟨aN,aL,s0,s1,c0,c1,t0,t1,Aa,Ba,Fa,Ga,Ha,Ia,Ja,Ka,Ca,Da,Ea⟩:=laid_sentinels2 hs gN tN gL tL underlying105 rowE underlying401 underlying422 rfl rfl underlying9 cE cS;exact⟨aL,aN,⟨by simpa using World.var?_cell gL Ba 0,by simpa using World.var?_cell gN Aa 0,handle hh,Ca,⟨_,_,Ea⟩,⟨_,_,Da⟩⟩,Ba,Aa⟩
end card
end
end Go.Proofs.YtjcjonncaknhnaaGreatDoor
