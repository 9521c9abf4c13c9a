import Derived.Test.YtbjalickbnpnkaaGreatDoorPk07
namespace Go.Proofs.YtbjalickbnpnkaaGreatDoor
open Go.RowKit Go.Proofs.Tryz
set_option linter.unusedSimpArgs false
set_option maxHeartbeats 32000000
variable {k t e:TypeId}{v:Value}{w w':World}{b n c g dA h nb cb ni ci mb nj cj n1 n2 n3 n4 c1 c2 c3 c4:Nat}{l:List (Int×Value)}{row:Option Nat}{P:Program}{ops:Array Oper}{o:Oper}{a ab ai aj a1 a2 a3 a4:Option Addr}{K:Act->World->Prop}{Q:Exit->Act->World->Prop}{E:Prop}{ts:List M.Tk}{now sr who x:Int}{bs:List Int}{js:List M.Jb}
section
open Go.ChangeMaps Go.MapKept
def sD(n:Nat):List (Int×Value)->List MapEntry
 | []=>[]
 | x::l=>⟨it x.1,x.2,n⟩::sD (n+1) l
def gZ(k:Int):List (Int×Value)->Option Value
 | []=>none
 | x::l=>if k=x.1 then some x.2 else gZ k l
theorem sE(n:Nat)(l:List (Int×Value))(x:Int×Value):sD n (l++[x])=sD n l++[⟨it x.1,x.2,n+l.length⟩]:=by
 induction l generalizing n with
 | nil=>rfl
 | cons y l ih=>simp only[List.cons_append,sD,ih,List.length_cons,Nat.add_assoc,Nat.add_comm 1]
theorem fI{k:Int}:∀(l:List (Int×Value)) (n i:Nat),gZ k l=none->Instr.findNow (.int .i64) (it k) (sD n l) i=some none
 | [],_,_,_=>rfl
 | x::l,n,i,h=>by
  simp only[gZ]at h
  split at h
  .simp at h
  ·
   rename_i hk;simp only[sD,Instr.findNow,Instr.sameNow,if_true];rw[show(k==x.1)=false by simp[hk]];exact fI l (n+1) (i+1) h
theorem iI{k:Int}:∀(l:List (Int×Value)) (n i:Nat),gZ k l=some v->∃j,Instr.findNow (.int .i64) (it k) (sD n l) i=some (some (j,v))
 | [],_,_,h=>by simp[gZ]at h
 | x::l,n,i,h=>by
  simp only[gZ]at h
  split at h
  ·
   rename_i hk;simp only[sD,Instr.findNow,Instr.sameNow,if_true];rw[show(k==x.1)=true by simp[hk]];exact⟨i,by simpa using h⟩
  ·
   rename_i hk;simp only[sD,Instr.findNow,Instr.sameNow,if_true];rw[show(k==x.1)=false by simp[hk]];exact iI l (n+1) (i+1) h
def bY(w:World)(b:Nat)(l:List (Int×Value)):Prop:=w.heap[b]?=some (.map (sD 0 l).toArray l.length)
theorem bY.lt(h:bY w b l):b<w.heap.size:=by
 rcases Nat.lt_or_ge b w.heap.size with hl | hl
 .exact hl
 .unfold bY at h;rw[Array.getElem?_eq_none hl]at h;simp at h
theorem tX(w:World):bY (w.alloc (.map #[] 0)) w.heap.size []:=by
 show(w.heap.push _)[w.heap.size]?=_;simp[sD]
theorem bY.below(h:bY w b l)(hb:m1 w w'):bY w' b l:=(hb.block b h.lt).trans h
theorem bY.grown(h:bY w b l)(hg:w.grownBy w' row)(hne:row≠some b):bY w' b l:=(hg.block b h.lt (λe=>hne e.symm)).trans h
theorem bY.alloc(h:bY w b l)(o:Obj):bY (w.alloc o) b l:=h.grown (xC w o none) (by simp)
theorem bY.setCell(h:bY w b l)(p:Addr)(v:Value):bY (w.setCell p v) b l:=by
 unfold bY at h |-;by_cases e:p.block=b
 ·
  subst e;simp[World.setCell,Array.getElem?_modify,h]
 .simp[World.setCell,Array.getElem?_modify,h,e]
theorem bY.put(h:bY w b l)(ht:P.underlying t=some (.map k e))(hk:P.underlying k=some (.int .i64))(key:Int)(v:Value)(hn:gZ key l=none):
  ∃w',(Instr.mapUpdate t (.map (some b)) (it key) v).run P w=.ok () w'/\bY w' b (l++[(key,v)])/\w.grownBy w' (some b):=by
 have hf:(Instr.findKey k (it key) (sD 0 l)).run P w=.ok none w:=by
  simp[Instr.findKey,run_underlying hk,fI l 0 0 hn,Result.andThen]
 refine⟨setBlock w b (.map ((sD 0 l).toArray.push ⟨it key,v,l.length⟩) (l.length+1)),?_,?_,⟨rfl,rfl,rfl,by simp[setBlock],λi _ hi=>heap_setBlock_other h _ (λe=>hi (by rw[e]))⟩⟩
 .simp[Instr.mapUpdate,run_underlying ht,MapKept.run_getObj_map h,run_checkKey hk (show IsKey (.int .i64) (it key)from rfl) false 9999,hf,MapKept.run_setObj_map _ h,Result.andThen,setBlock]
 ·
  unfold bY;rw[heap_setBlock_same h,sE,Nat.zero_add];simp
theorem bY.get(h:bY w b l)(ht:P.underlying t=some (.map k e))(hk:P.underlying k=some (.int .i64))(key:Int)(v:Value)(hn:gZ key l=some v)(ok:Bool):
  (Instr.lookup t (.map (some b)) (it key) ok).run P w=.ok (if ok then .tuple #[v,.bool true]else v) w:=by
 obtain⟨j,hj⟩:=iI l 0 0 hn
 have hf:(Instr.findKey k (it key) (sD 0 l)).run P w=.ok (some (j,v)) w:=by
  simp[Instr.findKey,run_underlying hk,hj,Result.andThen]
 cases ok <;> simp[Instr.lookup,run_underlying ht,MapKept.run_getObj_map h,run_checkKey hk (show IsKey (.int .i64) (it key)from rfl) _ 9999,hf,Result.andThen]
theorem bY.miss(h:bY w b l)(ht:P.underlying t=some (.map k e))(hk:P.underlying k=some (.int .i64))(key:Int){z:Value}(hz:(zeroValue e).run P w=.ok z w)(hn:gZ key l=none)(ok:Bool):
  (Instr.lookup t (.map (some b)) (it key) ok).run P w=.ok (if ok then .tuple #[z,.bool false]else z) w:=by
 have hf:(Instr.findKey k (it key) (sD 0 l)).run P w=.ok none w:=by
  simp[Instr.findKey,run_underlying hk,fI l 0 0 hn,Result.andThen]
 cases ok <;> simp[Instr.lookup,run_underlying ht,MapKept.run_getObj_map h,run_checkKey hk (show IsKey (.int .i64) (it key)from rfl) _ 9999,hf,hz,Result.andThen]
end
theorem aV(w:World)(p:Addr)(v:Value):w.grownBy (w.setCell p v) (some p.block):=
 ⟨rfl,rfl,rfl,by simp[World.setCell],λi _ hi=>by
  have he:p.block≠i:=λe=>hi (by rw[e]);simp[World.setCell,Array.getElem?_modify,he]⟩
theorem bB(hb:m1 w w')(row:Option Nat):w.grownBy w' row:=⟨hb.os,hb.tape,hb.output,hb.size,λk hk _=>hb.block k hk⟩
theorem ap{B:Nat}(h:w.grownBy w' row)(hB:B<=w.heap.size)(hr:∀z,row=some z->B<=z):Below B w w':=
 ⟨h.os,h.tape,h.output,h.size,λk hk=>h.block k (xD hk hB) (λe=>absurd (hr k e.symm) (by omega))⟩
theorem dX{a:Act}
 (hg:o.guard=none)(s x:Operand)(t:TypeId)(hop:o.op=Op.call {callee:=Callee.builtin Builtin.append,args:=#[s,x],argTypes:=#[t,t]})
 (dA:Nat)(e:TypeId)(i:TypeInfo)(z:Value)(size bytes:Nat)(ht:P.underlying t=some (.slice e))(hi:P.info? e=some i)(hz:i.zero=some z)(hsize:i.size=size)(hby:i.bytes=bytes)(hzs:z.cells.size=size)(hsz:0<size)
 (v:Value)(n:Nat)(xs:List Value)(hs:a.eval s=v)(hown:w.ownsRow dA e size v n xs)(ad:Addr)(m c:Nat)(news:List Value)(hx:a.eval x=.slice (some ad) m c)(hl:news.length=m*size)(hnews:∀j u,news[j]?=some u->w.cell? (ad.add j)=some u)(h1:∀u∈news,u.oneCell'=true)
 (h63:n+m<=maxLen)(hbytes:(n+m)*bytes<=140737488355328)(mr:dA<=w.heap.size)
 (hK:∀v' w',w'.ownsRow dA e size v' (n+m) (xs++news)->w.grownBy w' v.ownBlock->(v'.ownBlock=v.ownBlock\/v'.ownBlock=some w.heap.size)->K (a.put o.dst v') w'):
  if Region.wanted o (yielded ops a.tmps)=true then Oper.wp P o a w K Q else E:=by
 have hw:Region.wanted o (yielded ops a.tmps)=true:=(by simp[Region.wanted,hg]);rw[if_pos hw];obtain⟨v',w',Aa,r1,r2,_,r4⟩:=run_append_own_at (P:=P) w dA t o.type e i z size bytes ht hi hz hsize hby hzs hsz v n xs hown ad m c news hl hnews h1 h63 hbytes mr;unfold Oper.wp;simp[execOp,hop,resolve,invoke,builtin,hs,hx,Aa,Result.andThen];exact hK v' w' r1 r2 r4
def ob:Option Addr->List Nat
 | none=>[]
 | some x=>[x.block]
theorem bA(h:(Value.slice a n c).ownBlock=some g):g∈ob a:=by
 cases a with
 | none=>simp[Value.ownBlock]at h
 | some x=>simp[Value.ownBlock]at h;simp[ob,h]
theorem cz(h:g∈ob a):(Value.slice a n c).ownBlock=some g:=by
 cases a with
 | none=>simp[ob]at h
 | some x=>simp[ob]at h;simp[Value.ownBlock,h]
def bw(w:World)(dA:Nat)(a:Option Addr)(n c:Nat)(ts:List M.Tk):Prop:=ts.length=n/\w.ownsRow dA 75 3 (.slice a n c) n (ts.flatMap eK)
theorem bw.grown(h:bw w dA a n c ts)(hg:w.grownBy w' row)(hr:∀g∈ob a,row≠some g):bw w' dA a n c ts:=by
 refine⟨h.1,h.2.kept hg ?_⟩
 cases e:(Value.slice a n c).ownBlock with
 | none=>exact .inl rfl
 | some g=>exact .inr (λe2=>hr g (bA e) e2.symm)
theorem bw.lt(h:bw w dA a n c ts):∀g∈ob a,dA<=g/\g<w.heap.size:=λg hg=>xz h.2 g (cz hg)
theorem bw.sees(h:bw w dA a n c ts):bS w a n c ts:=by
 obtain⟨hl,h1,h2⟩:=h;have hx:w.ownsRow dA 75 3 (.slice a n c) n (ts.flatMap eK):=⟨h1,h2⟩
 rcases h2 with⟨e,h0⟩ | ⟨g,cap,cur,e,hb,hh,hn,hm,hs,ht⟩
 ·
  simp only[Value.slice.injEq]at e;obtain⟨rfl,rfl,rfl⟩:=e;exact⟨hl,m3 _,by decide,λ_=>⟨rfl,rfl⟩,.inl rfl⟩
 ·
  simp only[Value.slice.injEq,true_and]at e;obtain⟨rfl,rfl⟩:=e;refine⟨hl,hn,by unfold maxLen at hm;omega,λe=>by simp at e,?_⟩;refine .inr ⟨g,0,rfl,λi hi j hj=>?_⟩;rw[Nat.zero_add,World.ownsRow.cellAt hx (i*3+j) (by omega),fS ew M.t0 ts (by omega) hj]
theorem bw.form(hl:ts.length=n)(h:w.ownsRow dA 75 3 v n (ts.flatMap eK)):∃a cap,v=.slice a n cap/\bw w dA a n cap ts:=by
 rcases h.2 with⟨rfl,rfl⟩ | ⟨g,cap,cur,rfl,_⟩
 .exact⟨none,0,rfl,hl,h⟩
 .exact⟨_,cap,rfl,hl,h⟩
structure HJ where
 j:M.Jb
 b:Nat
 a:Option Addr
 c:Nat
def HJ.vs(q:HJ):List Value:=fk q.j q.a q.c
def HJ.ent(q:HJ):Int×Value:=(q.j.id,tG q.b)
def HJ.bl(q:HJ):List Nat:=q.b::ob q.a
def sT(w:World)(dA:Nat)(qs:List HJ):Prop:=∀q∈qs,aw w q.b q.vs/\bw w dA q.a q.j.ts.length q.c q.j.ts
theorem sT.grown{qs:List HJ}(h:sT w dA qs)(hg:w.grownBy w' row)(hr:∀g∈qs.flatMap HJ.bl,row≠some g):sT w' dA qs:=λq hq=>by
 have hm:=λg hg=>hr g (xI.2 ⟨q,hq,hg⟩);exact⟨(h q hq).1.grown hg (hm q.b (by simp[HJ.bl])),(h q hq).2.grown hg λg hg=>hm g (by simp[HJ.bl,hg])⟩
def dD(h mb:Nat)(ab ai:Option Addr)(qs:List HJ):List Nat:=h::mb::(ob ab++(ob ai++qs.flatMap HJ.bl))
structure bq(w:World)(dA h:Nat)(now sr:Int)(ab:Option Addr)(nb cb:Nat)(bs:List Int)(ai:Option Addr)(ni ci:Nat)(mb:Nat)(qs:List HJ):Prop where
 l:aw w h [it now,it sr,.slice ab nb cb,.slice ai ni ci,.map (some mb)]
 b:aA 2 w dA ab nb cb bs
 i:aA 2 w dA ai ni ci (qs.map (·.j.id))
 m:bY w mb (qs.map HJ.ent)
 j:sT w dA qs
 d:(dD h mb ab ai qs).Nodup
 lo:∀g∈dD h mb ab ai qs,dA<=g
theorem aA.grown{zs:List Int}(h:aA t w dA a n c zs)(hg:w.grownBy w' row)(hr:∀g∈ob a,row≠some g):aA t w' dA a n c zs:=by
 refine World.ownsRow.kept h hg ?_
 cases e:(Value.slice a n c).ownBlock with
 | none=>exact .inl rfl
 | some g=>exact .inr (λe2=>hr g (bA e) e2.symm)
section
variable {w w':World} {dA h:Nat} {now sr:Int} {ab:Option Addr} {nb cb:Nat} {bs:List Int} {ai:Option Addr} {ni ci:Nat} {mb:Nat} {qs:List HJ}
theorem bq.grown(H:bq w dA h now sr ab nb cb bs ai ni ci mb qs)(hg:w.grownBy w' row)(hr:∀g∈dD h mb ab ai qs,row≠some g):bq w' dA h now sr ab nb cb bs ai ni ci mb qs:=
 ⟨H.l.grown hg (hr h (by simp[dD])),H.b.grown hg λg hg=>hr g (by simp[dD,hg]),H.i.grown hg λg hg=>hr g (by simp[dD,hg]),H.m.grown hg (hr mb (by simp[dD])),H.j.grown hg λg hg=>hr g (by unfold dD;simp only[List.mem_cons,xw];exact .inr (.inr (.inr (.inr hg)))),H.d,H.lo⟩
theorem bq.below(H:bq w dA h now sr ab nb cb bs ai ni ci mb qs)(hb:m1 w w'):bq w' dA h now sr ab nb cb bs ai ni ci mb qs:=H.grown (bB hb none) (λ_ _=>by simp)
theorem bq.lt(H:bq w dA h now sr ab nb cb bs ai ni ci mb qs):∀g∈dD h mb ab ai qs,g<w.heap.size:=by
 intro g hg;unfold dD at hg;simp only[List.mem_cons,xw]at hg
 rcases hg with rfl | rfl | hg | hg | hg
 .exact H.l.2.2
 .exact H.m.lt
 .exact(xz H.b g (cz hg)).2
 .exact(xz H.i g (cz hg)).2
 ·
  obtain⟨q,hq,hg⟩:=xI.1 hg;simp only[HJ.bl,List.mem_cons]at hg
  rcases hg with rfl | hg
  .exact(H.j q hq).1.2.2
  .exact((H.j q hq).2.lt g hg).2
theorem bW:(dD h mb ab ai qs).Nodup↔(h≠mb/\h∉ob ab/\h∉ob ai/\h∉qs.flatMap HJ.bl)/\(mb∉ob ab/\mb∉ob ai/\mb∉qs.flatMap HJ.bl)/\(∀g∈ob ab,g∉ob ai/\g∉qs.flatMap HJ.bl)/\(∀g∈ob ai,g∉qs.flatMap HJ.bl)/\(qs.flatMap HJ.bl).Nodup:=by
 have h1:∀a:Option Addr,(ob a).Nodup:=λa=>by cases a <;> simp[ob]
 unfold dD;rw[List.nodup_cons,List.nodup_cons,List.nodup_append,List.nodup_append];simp only[List.mem_cons,xw,not_or]
 constructor
 ·
  rintro⟨⟨a1,a2,a3,a4⟩,⟨b2,b3,b4⟩,_,⟨_,c1,c2⟩,c3⟩;exact⟨⟨a1,a2,a3,a4⟩,⟨b2,b3,b4⟩,λg hg=>⟨λe=>c3 g hg g (.inl e) rfl,λe=>c3 g hg g (.inr e) rfl⟩,λg hg e=>c2 g hg g e rfl,c1⟩
 ·
  rintro⟨⟨a1,a2,a3,a4⟩,⟨b2,b3,b4⟩,c3,c2,c1⟩;exact⟨⟨a1,a2,a3,a4⟩,⟨b2,b3,b4⟩,h1 _,⟨h1 _,c1,λg hg g' hg' e=>c2 g hg (e ▸ hg')⟩,λg hg g' hg' e=>hg'.elim (λx=>(c3 g hg).1 (e ▸ x)) (λx=>(c3 g hg).2 (e ▸ x))⟩
end
theorem fR{P G:Prop}(f:nu P->G)(h:P):G:=f ⟨h⟩
theorem bq.entered{w1 w7 w8 w9:World}{qs:List HJ}(H:bq w1 dA h now sr ab nb cb bs ai ni ci mb qs)(q:HJ)
 (hJ:aw w1 q.b q.vs)(hT:bw w1 dA q.a q.j.ts.length q.c q.j.ts)(hqb:q.b∉dD h mb ab ai qs)(hqa:∀g∈ob q.a,g∉dD h mb ab ai qs)(hqq:q.b∉ob q.a)(hql:dA<=q.b)
 {ai':Option Addr}{ci' z:Nat}(g7:w1.grownBy w7 (Value.slice ai ni ci).ownBlock)(o7:aA 2 w7 dA ai' (ni+1) ci' (qs.map (λq:HJ=>q.j.id)++[q.j.id]))(hz:w1.heap.size<=z)
 (a7:(Value.slice ai' (ni+1) ci').ownBlock=(Value.slice ai ni ci).ownBlock\/(Value.slice ai' (ni+1) ci').ownBlock=some z)
 (g8:w7.grownBy w8 (some h))(l8:aw w8 h [it now,it sr,.slice ab nb cb,.slice ai' (ni+1) ci',.map (some mb)])(g9:w8.grownBy w9 (some mb))(Z:bY w9 mb (qs.map HJ.ent++[q.ent])):
  bq w9 dA h now sr ab nb cb bs ai' (ni+1) ci' mb (qs++[q]):=by
 obtain⟨⟨hm,Ea,Fa,Ga⟩,⟨Ha,Ia,Ja⟩,Da,Ka,Na⟩:=bW.1 H.d;have Oa:=H.lt;have sj:∀{g},g∈qs.flatMap HJ.bl->g∈dD h mb ab ai qs:=λ{g} hg=>by unfold dD;simp only[List.mem_cons,xw];exact .inr (.inr (.inr (.inr hg)))
 have sb:∀{g},g∈ob ab->g∈dD h mb ab ai qs:=λ{g} hg=>by simp[dD,hg]
 have si:∀{g},g∈ob ai->g∈dD h mb ab ai qs:=λ{g} hg=>by simp[dD,hg]
 have sh:h∈dD h mb ab ai qs:=(by simp[dD]);have sm:mb∈dD h mb ab ai qs:=by simp[dD]
 have ha:∀{g},g∈ob ai'->g∈ob ai\/w1.heap.size<=g:=λ{g} hg=>by
  have e:=cz (n:=ni+1) (c:=ci') hg
  rcases a7 with e2 | e2
  .exact .inl (bA (e2.symm.trans e))
  .rw[e2]at e;injection e with e;exact .inr (by omega)
 have Ba:∀{g},g∈dD h mb ab ai qs->g∉ob ai->g∉ob ai':=λ{g} hg hn hi=>by
  rcases ha hi with h1 | h1
  .exact hn h1
  .have:=Oa g hg;omega
 have Ra:=hJ.2.2;have Pa:=λg hg=>(hT.lt g hg).2;have Aa:∀{a b:Nat},a≠b->some a≠some b:=λhne e=>hne (m2 e);have n7:∀{g},g∉ob ai->(Value.slice ai ni ci).ownBlock≠some g:=λhn e=>hn (bA e);have Ca:∀{x g:Nat},x∈dD h mb ab ai qs->g∉dD h mb ab ai qs->x≠g:=λhx hg e=>hg (e ▸ hx);have qi:q.b∉ob ai':=λhi=>(ha hi).elim (λh1=>hqb (si h1)) (λh1=>by omega);have Qa:∀g∈ob q.a,g∉ob ai':=λg hg hi=>(ha hi).elim (λh1=>hqa g hg (si h1)) (λh1=>by have:=Pa g hg;omega);have fm:∀{g},g∈(qs++[q]).flatMap HJ.bl↔g∈qs.flatMap HJ.bl\/g=q.b\/g∈ob q.a:=λ{g}=>by simp[List.flatMap_append,HJ.bl]
 refine⟨l8.grown g9 (Aa hm.symm),?_,?_,?_,?_,?_,?_⟩
 .exact((H.b.grown g7 λg hg=>n7 (Da g hg).1).grown g8 λg hg=>Aa λe=>Ea (e ▸ hg)).grown g9 λg hg=>Aa λe=>Ha (e ▸ hg)
 ·
  rw[xU];exact(o7.grown g8 λg hg=>Aa λe=>Ba sh Fa (e ▸ hg)).grown g9 λg hg=>Aa λe=>Ba sm Ia (e ▸ hg)
 .rw[xU];exact Z
 ·
  intro x hx
  rcases xw.1 hx with hx | hx
  ·
   have:=((H.j.grown g7 λg hg=>n7 λe=>Ka g e hg).grown g8 λg hg=>Aa λe=>Ga (e ▸ hg)).grown g9 λg hg=>Aa λe=>Ja (e ▸ hg);exact this x hx
  ·
   simp only[List.mem_singleton]at hx;subst hx;exact⟨((hJ.grown g7 (n7 λe=>hqb (si e))).grown g8 (Aa (Ca sh hqb))).grown g9 (Aa (Ca sm hqb)),((hT.grown g7 λg hg=>n7 λe=>hqa g hg (si e)).grown g8 λg hg=>Aa (Ca sh (hqa g hg))).grown g9 λg hg=>Aa (Ca sm (hqa g hg))⟩
 ·
  refine bW.2 ⟨⟨hm,Ea,Ba sh Fa,λe=>?_⟩,⟨Ha,Ba sm Ia,λe=>?_⟩,λg hg=>⟨Ba (sb hg) (Da g hg).1,λe=>?_⟩,λg hg e=>?_,?_⟩
  ·
   rcases fm.1 e with e | e | e
   .exact Ga e
   .exact Ca sh hqb e
   .exact hqa _ e sh
  ·
   rcases fm.1 e with e | e | e
   .exact Ja e
   .exact Ca sm hqb e
   .exact hqa _ e sm
  ·
   rcases fm.1 e with e | e | e
   .exact(Da g hg).2 e
   .exact hqb (e ▸ sb hg)
   .exact hqa _ e (sb hg)
  ·
   rcases fm.1 e with e | e | e
   .exact Ba (sj e) (λh1=>Ka g h1 e) hg
   .exact qi (e ▸ hg)
   .exact Qa g e hg
  ·
   rw[List.flatMap_append,List.nodup_append];refine⟨Na,?_,?_⟩
   ·
    have h1:(ob q.a).Nodup:=(by cases q.a <;> simp[ob]);simp only[xV,List.flatMap_nil,List.append_nil,HJ.bl,List.nodup_cons];exact⟨hqq,h1⟩
   ·
    intro g hg g' La e;subst e;simp only[xV,List.flatMap_nil,List.append_nil,HJ.bl,List.mem_cons]at La
    rcases La with e | e
    .exact hqb (e ▸ sj hg)
    .exact hqa _ e (sj hg)
 ·
  intro g hg;unfold dD at hg;simp only[List.mem_cons,xw]at hg
  rcases hg with rfl | rfl | hg | hg | hg
  .exact H.lo _ sh
  .exact H.lo _ sm
  .exact H.lo _ (sb hg)
  .exact(xz o7 g (cz hg)).1
  ·
   rcases fm.1 hg with e | e | e
   .exact H.lo _ (sj e)
   .exact e ▸ hql
   .exact(hT.lt g e).1
theorem mV(id:Int):∀qs:List HJ,gZ id (qs.map HJ.ent)=(qs.find? (λq=>id==q.j.id)).map λq=>tG q.b
 | []=>rfl
 | q::qs=>by
  rw[List.map_cons,List.find?_cons];show(if id=q.j.id then _ else _)=_;by_cases e:id=q.j.id
  .rw[if_pos e,show(id==q.j.id)=true by simp[e]];rfl
  .rw[if_neg e,show(id==q.j.id)=false by simp[e]];exact mV id qs
set_option maxRecDepth 10000 in
theorem mO{qs:List HJ}(jq:M.Jb)(ta:Option Addr)(tc:Nat)(w:World)
 (H:bq w dA h now sr ab nb cb bs ai ni ci mb qs)(hn:∀q∈qs,q.j.id≠jq.id)(hT:bw w dA ta jq.ts.length tc jq.ts)(hd:∀g∈ob ta,g∉dD h mb ab ai qs)(hb0:dA<=w.heap.size)(hni:ni<=1000):
  Calls prog 45 #[tG h,.agg (fk jq ta tc).toArray] w λe w'=>e=.returned (.tuple #[])/\∃ai' ci',bq w' dA h now sr ab nb cb bs ai' (ni+1) ci' mb (qs++[⟨jq,w.heap.size,ta,tc⟩])/\Below dA w w'/\∀b vs,aw w b vs->b∉dD h mb ab ai qs->aw w' b vs:=by
 have HH:=Hd H;have HN:=Hd hn;have HT:=Hd hT;have HD:=Hd hd
 have HI:H7 (∃i0,prog.info? 2=some i0/\i0.zero=some (it 0)/\i0.size=1/\i0.bytes=8):=by
  obtain⟨i0,h1,h2,h3,h4⟩:=info_parts bF;exact⟨i0,h1,h2,h3,h4⟩
 clear H hn hT hd;obtain⟨Aa,⟨⟨a,b,c',d,f,k⟩,⟨a',b',Ba,d',f',k'⟩⟩,⟨s1,s2⟩,jr,jg,tl⟩:=jq;dsimp only[fk]at HT HN |-;generalize Na:tl.length=tn at *;have Oa:=Hd Na;clear Na;go_enter func45,ntmps45;have Ia:=cQ w (bO Aa a b c' d f k a' b' Ba d' f' k' s1 s2 jr jg ta tn tc) 70;have Da:H7 (bq (w.alloc (.cells (bO Aa a b c' d f k a' b' Ba d' f' k' s1 s2 jr jg ta tn tc).toArray 70)) dA h now sr ab nb cb bs ai ni ci mb qs):=HH.o.below ((m8 _ _).alloc (m3 _) _);have Za:H7 (bw (w.alloc (.cells (bO Aa a b c' d f k a' b' Ba d' f' k' s1 s2 jr jg ta tn tc).toArray 70)) dA ta tn tc tl):=HT.o.grown (xC w _ none) (λ_ _=>by simp);have Pa:H7 (m1 w (w.alloc (.cells (bO Aa a b c' d f k a' b' Ba d' f' k' s1 s2 jr jg ta tn tc).toArray 70))):=(m8 _ _).alloc (m3 _) _;have Ab:H7 ((w.alloc (.cells (bO Aa a b c' d f k a' b' Ba d' f' k' s1 s2 jr jg ta tn tc).toArray 70)).heap.size=w.heap.size+1):=(by show _=_;simp);(go_wp2_with fail);generalize(w.alloc (.cells (bO Aa a b c' d f k a' b' Ba d' f' k' s1 s2 jr jg ta tn tc).toArray 70))=w1 at *;have h3:=Da.o.l.c 3;have j0:=Ia.c 0;have Ja:=Hd HH.o.lt;have Ga:H7 (dA<=w1.heap.size):=(by show _<=_;rw[Ab.o];omega);obtain⟨i0,hi,Bb,Cb,Db⟩:=HI.o;have Rb:(w1.alloc (.cells #[it Aa] 2)).cell? ⟨h,3,none⟩=some (.slice ai ni ci):=(Da.o.l.alloc _).at 3;have Ea:=bW.1 HH.o.d;have Eb:=Hd Ea.1.2.2.1;have Fb:H7 (∀g∈ob ai,g≠w.heap.size):=λg hg=>by have:=Ja.o g (by simp[dD,hg]);omega
 clear Ea;apply fR
 case f=>
  intro key
  go_region_law (refine dX rfl (.tmp 8) (.tmp 11) 24 rfl dA 2 i0 (it 0) 1 8 underlying24 hi Bb Cb Db rfl (by decide) (.slice ai ni ci) ni ((qs.map (λq:HJ=>q.j.id)).map (Value.int .i64)) (by simp[Act.eval]) (World.ownsRow.drew (xY Da.o.i _)) ⟨w1.heap.size,0,none⟩ 1 1 [it Aa] (by simp[Act.eval]) rfl (br w1 Aa _) (bL Aa) (by unfold maxLen;omega) (by omega) (by simp;exact Nat.le_succ_of_le Ga.o) ?_;intro v' w7 Qa Ra Sa;have hown':w7.ownsRow dA 2 1 v' (ni+1) (((qs.map (λq:HJ=>q.j.id))++[Aa]).map (Value.int .i64)):=(by rw[xU];exact Qa);obtain⟨ai',ci',rfl,ho⟩:=aA.form hown';have Ta:=Hd ho;have Ca:=Hd (((xC w1 _ _).trans (dy _ _)).trans Ra);have Ua:=Hd (show _\/_ by simpa using Sa);have Ha:H7 (aw w7 h [it now,it sr,.slice ab nb cb,.slice ai ni ci,.map (some mb)]):=Da.o.l.grown Ca.o (λe=>Eb.o (bA e));have c3:=Ha.c 3;have f3:=Ha.o.fr 3;clear Qa hown' Ra Sa ho)
  all_goals
   clear c3 f3;revert w7 ai' ci';exact key.out
 case h=>
  intro w7 ai' ci' Ta Ca Ua Ha;have Va:H7 (aw (w7.setCell ⟨h,3,none⟩ (.slice ai' (ni+1) ci')) h [it now,it sr,.slice ab nb cb,.slice ai' (ni+1) ci',.map (some mb)]):=Ha.o.set 3 (by simp) _;have Fa:H7 (w7.grownBy (w7.setCell ⟨h,3,none⟩ (.slice ai' (ni+1) ci')) (some h)):=aV _ _ _;generalize w7.setCell ⟨h,3,none⟩ (.slice ai' (ni+1) ci')=w8 at *;(go_wp2_with fail);have Ea:=bW.1 HH.o.d;have Gb:H7 (bY w8.drew mb (qs.map HJ.ent)):=show bY w8 mb _ from((Da.o.m.grown Ca.o (λe=>Ea.2.1.2.1 (bA e))).grown Fa.o (λe=>Ea.1.1 (m2 e)));have Hb:=Hd ((Ia.o.grown Ca.o (λe=>Fb.o _ (bA e) rfl)).grown Fa.o (λe=>by have:=Ja.o h (by simp[dD]);have:=m2 e;omega));obtain⟨w9,Sb,Wa,Xa⟩:=Gb.o.put (P:=prog) (t:=103) underlying103 underlying2 Aa (tG w.heap.size) (by rw[mV,List.find?_eq_none.2 (λq hq=>by simpa using λe=>HN.o q hq e.symm)];rfl);have Ib:=Hd Wa;have Ka:=Hd ((dy _ _).trans Xa);clear Wa Xa Ea;have h4:=Va.c 4;have j8:=Hb.c 0;apply fR
  case f=>
   intro key
   go_region_law (fail)
   all_goals exact key.out
  case h=>
   have Kb:bw w1 dA ta tl.length tc tl:=(by rw[Oa.o];exact Za.o);have Lb:aw w1 w.heap.size (fk ⟨Aa,⟨⟨a,b,c',d,f,k⟩,⟨a',b',Ba,d',f',k'⟩⟩,(s1,s2),jr,jg,tl⟩ ta tc):=(by have:=Ia.o;rw[<-Oa.o]at this;exact this);have Nb:w.heap.size∉dD h mb ab ai qs:=λe=>by have:=Ja.o _ e;omega
   have Ob:w.heap.size∉ob ta:=λe=>by have:=(HT.o.lt _ e).2;omega
   have HF:=Da.o.entered ⟨⟨Aa,⟨⟨a,b,c',d,f,k⟩,⟨a',b',Ba,d',f',k'⟩⟩,(s1,s2),jr,jg,tl⟩,w.heap.size,ta,tc⟩ Lb Kb Nb HD.o Ob hb0 Ca.o Ta.o (Nat.le_succ _) Ua.o Fa.o Va.o Ka.o Ib.o;have La:=Da.o.lo;have Ya:=Ca.o.size;have Pb:=Fa.o.size;have Qb:=(Pa.o.mono hb0).trans ((ap Ca.o Ga.o (λz e=>La z (by simp[dD,bA e]))).trans ((ap Fa.o (tr Ga.o Ya) (λz e=>La z (by simp[dD,m2 e]))).trans (ap Ka.o (tr Ga.o (tr Ya Pb)) (λz e=>La z (by simp[dD,m2 e])))));exact bodyPost_end (v:=.tuple #[]) (by simp[results,results45,go_sem]) rfl ⟨rfl,ai',ci',HF,Qb,λb vs hL hn=>(((hL.belowS Pa.o).grown Ca.o (λe=>hn (by simp[dD,bA e]))).grown Fa.o (λe=>hn (by simp[dD,m2 e]))).grown Ka.o (λe=>hn (by simp[dD,m2 e]))⟩
theorem tU{qs:List HJ}(jq:M.Jb)(ta:Option Addr)(tc:Nat)(w:World)
 (H:bq w dA h now sr ab nb cb bs ai ni ci mb qs)(hn:∀q∈qs,q.j.id≠jq.id)(hT:bw w dA ta jq.ts.length tc jq.ts)(hd:∀g∈ob ta,g∉dD h mb ab ai qs)(hb0:dA<=w.heap.size)(hni:ni<=1000):
  Calls prog 45 #[tG h,.agg (fk jq ta tc).toArray] w λe w'=>e=.returned (.tuple #[])/\∃ai' ci',bq w' dA h now sr ab nb cb bs ai' (ni+1) ci' mb (qs++[⟨jq,w.heap.size,ta,tc⟩])/\Below dA w w':=
 (mO jq ta tc w H hn hT hd hb0 hni).mono λ_ _ ⟨h1,ai',ci',h2,h3,_⟩=>⟨h1,ai',ci',h2,h3⟩
theorem dM{a:Act}
 (hg:o.guard=none)(s x:Operand)(t:TypeId)(hop:o.op=Op.call {callee:=Callee.builtin Builtin.append,args:=#[s,x],argTypes:=#[t,t]})
 (dA:Nat)(e:TypeId)(i:TypeInfo)(z:Value)(size bytes:Nat)(ht:P.underlying t=some (.slice e))(hi:P.info? e=some i)(hz:i.zero=some z)(hsize:i.size=size)(hby:i.bytes=bytes)(hzs:z.cells.size=size)(hsz:0<size)
 (v:Value)(n:Nat)(xs:List Value)(hs:a.eval s=v)(hown:w.ownsRow dA e size v n xs)(ao:Option Addr)(m c:Nat)(news:List Value)(hx:a.eval x=.slice ao m c)(hl:news.length=m*size)(hnone:ao=none->m=0/\c=0)
 (hnews:∀ad,ao=some ad->∀j u,news[j]?=some u->w.cell? (ad.add j)=some u)(h1:∀u∈news,u.oneCell'=true)
 (h63:n+m<=maxLen)(hbytes:(n+m)*bytes<=140737488355328)(mr:dA<=w.heap.size)
 (hK:∀v' w',w'.ownsRow dA e size v' (n+m) (xs++news)->w.grownBy w' v.ownBlock->(v'.ownBlock=v.ownBlock\/v'.ownBlock=some w.heap.size)->K (a.put o.dst v') w'):
  if Region.wanted o (yielded ops a.tmps)=true then Oper.wp P o a w K Q else E:=by
 cases ao with
 | some ad=>exact dX hg s x t hop dA e i z size bytes ht hi hz hsize hby hzs hsz v n xs hs hown ad m c news hx hl (hnews ad rfl) h1 h63 hbytes mr hK
 | none=>
  obtain⟨rfl,rfl⟩:=hnone rfl;have hn:=List.eq_nil_of_length_eq_zero (by simpa using hl);subst hn;have hw:Region.wanted o (yielded ops a.tmps)=true:=(by simp[Region.wanted,hg]);rw[if_pos hw];have Aa:=run_append_owned_none (P:=P) w dA t o.type e i size ht hi v n xs hown;unfold Oper.wp;simp[execOp,hop,resolve,invoke,builtin,hs,hx,Aa,Result.andThen];exact hK v w (by simpa using hown) (World.grownBy.refl _ _) (.inl rfl)
theorem eL(w:World){rest:List Oper}{a:Act}(hgd:o.guard=none)(s x:Operand)(t:TypeId)
 (ho:o.op=.call {callee:=.builtin .append,args:=#[s,x],argTypes:=#[t,t]})
 (dA:Nat)(e:TypeId)(i:TypeInfo)(z:Value)(size bytes:Nat)(ht:P.underlying t=some (.slice e))(hi:P.info? e=some i)(hz:i.zero=some z)
 (hsize:i.size=size)(hby:i.bytes=bytes)(hzs:z.cells.size=size)(hsz:0<size)
 (v:Value)(n:Nat)(xs:List Value)(hs:a.eval s=v)(hown:w.ownsRow dA e size v n xs)
 (ao:Option Addr)(m c:Nat)(news:List Value)(hx:a.eval x=.slice ao m c)(hl:news.length=m*size)(hnone:ao=none->m=0/\c=0)
 (hnews:∀ad,ao=some ad->∀j u,news[j]?=some u->w.cell? (ad.add j)=some u)(h1:∀u∈news,u.oneCell'=true)
 (h63:n+m<=maxLen)(hbytes:(n+m)*bytes<=140737488355328)(mr:dA<=w.heap.size)
 (h:∀v' w',w'.ownsRow dA e size v' (n+m) (xs++news)->w.grownBy w' v.ownBlock->(v'.ownBlock=v.ownBlock\/v'.ownBlock=some w.heap.size)->wpList P ops Q rest (a.put o.dst v') w'):wpList P ops Q (o::rest) a w:=by
 cases ao with
 | some ad=>exact wpList_append_own_at w hgd s x t ho dA e i z size bytes ht hi hz hsize hby hzs hsz v n xs hs hown ad m c news hx hl (hnews ad rfl) h1 h63 hbytes mr (λv' w' h2 h3 _ h5=>h v' w' h2 h3 h5)
 | none=>
  obtain⟨rfl,rfl⟩:=hnone rfl;have hn:=List.eq_nil_of_length_eq_zero (by simpa using hl);subst hn;refine wpList_plain hgd λK hK'=>?_;have Aa:=run_append_owned_none (P:=P) w dA t o.type e i size ht hi v n xs hown;unfold Oper.wp;simp[execOp,ho,resolve,invoke,builtin,hs,hx,Aa,Result.andThen];exact hK' _ _ (h v w (by simpa using hown) (World.grownBy.refl _ _) (.inl rfl))
theorem kd:∀{js:List M.Jb} {last:Int},M.jsGo now sr last js=true->(∀j∈js,last<j.id/\j.id<sr/\M.jbOk now j=true)/\js.Pairwise (λa b=>a.id<b.id)
 | [],_,_=>⟨λj hj=>by simp at hj,List.Pairwise.nil⟩
 | x::l,last,h=>by
  unfold M.jsGo at h;simp only[xP,decide_eq_true_eq]at h;obtain⟨⟨⟨h1,h2⟩,h3⟩,h4⟩:=h;obtain⟨ih1,ih2⟩:=kd h4;refine⟨λj hj=>?_,List.pairwise_cons.2 ⟨λj hj=>(ih1 j hj).1,ih2⟩⟩
  rcases List.mem_cons.1 hj with rfl | hj
  .exact⟨by omega,by omega,h3⟩
  ·
   obtain⟨a,b,c⟩:=ih1 j hj;exact⟨by omega,b,c⟩
theorem jh(h:M.bnGo 0 bs=true):bs.length<=9:=by
 have key:∀(l:List Int) (x:Int),0<=x->x<=9->M.bnGo x l=true->(l.length:Int)<=9-x:=by
  intro l
  induction l with
  | nil=>intro x h0 h9 _;simp;omega
  | cons y l ih=>
   intro x h0 h9 h;unfold M.bnGo M.wkOk at h;simp only[xP,decide_eq_true_eq]at h;have:=ih y (by omega) (by omega) h.2;rw[List.length_cons];omega
 have:=key bs 0 (by omega) (by omega) h;omega
structure M.Right(now sr:Int)(bs:List Int)(js:List M.Jb):Prop where
 now0:0<=now
 now1:now<=1000000000
 next0:1<=sr
 next1:sr<=1000000000
 few:js.length<=6
 bn:M.bnGo 0 bs=true
 job:∀j∈js,0<j.id/\j.id<sr/\M.jbOk now j=true
 rise:js.Pairwise (λa b=>a.id<b.id)
 nd:(M.wks js).Nodup
 bd:∀x∈M.wks js,bs.contains x=false
theorem cC(h:M.mkOk now sr bs js=true):M.Right now sr bs js:=by
 unfold M.mkOk at h;simp only[xP,decide_eq_true_eq]at h;obtain⟨⟨h1,h2⟩,⟨h3,h4⟩,h5,⟨h6,h7⟩,h8,h9⟩:=h;obtain⟨Aa,Ba⟩:=kd h7;refine⟨h1,h2,h3,h4,h6,h5,Aa,Ba,h8,λx hx=>?_⟩;simp only[Bool.not_eq_true',List.any_eq_false]at h9;simpa using h9 x hx
theorem M.Right.before(h:M.Right now sr bs js){k:Nat}(hk:k<js.length):∀x∈js.take k,x.id≠(js.getD k M.j0).id:=by
 intro x hx;have hp:=h.rise;rw[<-List.take_append_drop k js,List.pairwise_append]at hp;have hd:=aX M.j0 rfl hk;have:=hp.2.2 x hx (js.getD k M.j0) (by rw[hd];simp);omega
theorem M.Right.tasks(h:M.Right now sr bs js):∀j∈js,1<=j.ts.length/\j.ts.length<=8:=by
 intro j hj;have:=(h.job j hj).2.2;unfold M.jbOk at this;simp only[xP,decide_eq_true_eq]at this;exact⟨this.1.2.2.2.1,this.1.2.2.2.2.1⟩
theorem gm:(prog.info? 75).map (λi=>(i.zero,i.size,i.bytes))=some (some (.agg #[.bool false,it 0,it 0]),3,24):=by kernel_rfl
theorem bS.news{cap:Nat}(h:bS w a n cap ts):∀ad,a=some ad->∀j u,(ts.flatMap eK)[j]?=some u->w.cell? (ad.add j)=some u:=by
 intro ad e j u hj;have hl:=h.len
 have Ba:j<ts.length*3:=by
  have:=(List.getElem?_eq_some_iff.1 hj).1
  rwa[eB ew]at this
 obtain⟨b,Aa,e2,hc⟩:=h.at (by omega);rw[e]at e2;simp only[Option.some.injEq]at e2;subst e2;have hq:j/3<ts.length:=(by rw[Nat.div_lt_iff_lt_mul (by omega)];exact Ba);have hm:j%3<3:=Nat.mod_lt _ (by omega);have h1:=hc (j/3) (by omega) (j%3) hm;rw[<-fS ew M.t0 ts hq hm,show Aa+j/3*3+j%3=Aa+j by omega,show j/3*3+j%3=j by omega,hj]at h1;unfold Addr.add
 split
 .rename_i e0;subst e0;exact h1
 .exact h1
theorem th(ts:List M.Tk):∀u∈ts.flatMap eK,u.oneCell'=true:=by
 intro u hu;obtain⟨t,_,hu⟩:=xI.1 hu;simp only[eK,List.mem_cons,List.not_mem_nil,or_false]at hu
 rcases hu with rfl | rfl | rfl <;> rfl
theorem uL(hl:aw w h [it now,it sr,.slice ab nb cb,.slice none 0 0,.map (some mb)])(ho:aA 2 w dA ab nb cb bs)(hm:bY w mb [])(hne:h≠mb)(hbh:dA<=h)(hbm:dA<=mb)(h1:h∉ob ab)(h2:mb∉ob ab):
  bq w dA h now sr ab nb cb bs none 0 0 mb []:=
 ⟨hl,ho,aA.empty _ _ _,hm,λq hq=>by simp at hq,bW.2 ⟨⟨hne,h1,by simp[ob],by simp⟩,⟨h2,by simp[ob],by simp⟩,λg _=>⟨by simp[ob],by simp⟩,λg hg=>by simp[ob]at hg,by simp⟩,λg hg=>by
  unfold dD at hg;simp only[List.mem_cons,xw,ob,List.flatMap_nil,List.not_mem_nil,or_false]at hg
  rcases hg with rfl | rfl | hg
  .exact hbh
  .exact hbm
  .exact(xz ho g (cz hg)).1⟩
set_option maxRecDepth 10000 in
theorem tV(now sr:Int)(w:World)(hz:co w ab nb cb aj nj cj bs js)(hf:M.mkOk now sr bs js=false):
  Rt 17 #[.agg #[it now,it sr,.slice ab nb cb,.slice aj nj cj]] w (.tuple #[.pointer none,.bool false]):=by
 have HM:=Hd hz;have C1:∀W,co W ab nb cb aj nj cj bs js->Rt 44 #[.agg (aJ now sr ab nb cb aj nj cj).toArray] W (.bool false):=λW h=>by rw[<-hf];exact fU now sr W h
 go_enter func17,ntmps17;have Aa:H7 (m1 w (w.alloc (.cells (aJ now sr ab nb cb aj nj cj).toArray 27))):=(m8 _ _).alloc (m3 _) _;(go_wp2_with fail);generalize(w.alloc (.cells (aJ now sr ab nb cb aj nj cj).toArray 27))=wa at *;refine(C1 _ (HM.o.below Aa.o)).mono ?_;rintro e wb ⟨rfl,hb⟩;have Ba:=Aa.t hb;go_wp2;exact s' (v:=.tuple #[.pointer none,.bool false]) (by simp[results,results17,go_sem]) rfl ⟨rfl,Ba.o⟩
def ul(w:World)(now sr:Int)(bs:List Int)(js:List M.Jb)(e:Ending)(w':World):Prop:=
 ∃h ab nb cb ai ni ci mb qs,e=.returned (.tuple #[tG h,.bool true])/\bq w' w.heap.size h now sr ab nb cb bs ai ni ci mb qs/\qs.map (·.j)=js/\m1 w w'
set_option maxRecDepth 10000 in
theorem rW(now sr:Int)(w:World)(hz:co w ab nb cb aj nj cj bs js)(hf:M.mkOk now sr bs js=true):
  Calls prog 17 #[.agg #[it now,it sr,.slice ab nb cb,.slice aj nj cj]] w λe w'=>ul w now sr bs js e w':=by
 have HM:=Hd hz;have C1:∀W,co W ab nb cb aj nj cj bs js->Rt 44 #[.agg (aJ now sr ab nb cb aj nj cj).toArray] W (.bool true):=λW h=>by rw[<-hf];exact fU now sr W h
 have HF:=Hd hf;go_enter func17,ntmps17;have Oc:=cQ w (aJ now sr ab nb cb aj nj cj) 27;have Ia:H7 (m1 w (w.alloc (.cells (aJ now sr ab nb cb aj nj cj).toArray 27))):=(m8 _ _).alloc (m3 _) _;(go_wp2_with fail);generalize(w.alloc (.cells (aJ now sr ab nb cb aj nj cj).toArray 27))=wa at *;refine(C1 _ (HM.o.below Ia.o)).mono ?_;rintro e wb ⟨rfl,hb⟩;have Oa:=Oc.b hb;have Ja:=Ia.t hb;have x0:=Oa.c 0;have x1:=Oa.c 1;have x2:=Oa.c 2;have x3:=Oa.c 3;have Wd:=run_makeMap (P:=prog) 103 wb;(go_wp2_with fail);have Pb:m1 wb ((wb.alloc (.map #[] 0)).alloc (.cells #[it now,it sr,.slice none 0 0,.slice none 0 0,.map (some wb.heap.size)] 105)):=((m8 _ _).alloc (m3 _) _).alloc (by simp) _;have Pa:=Hd Ja.o.size;have Qb:=Oa.b Pb;have Ka:=Ja.t Pb;have Bb:H7 (aw ((wb.alloc (.map #[] 0)).alloc (.cells #[it now,it sr,.slice none 0 0,.slice none 0 0,.map (some wb.heap.size)] 105)) (wb.heap.size+1) [it now,it sr,.slice none 0 0,.slice none 0 0,.map (some wb.heap.size)]):=aZ wb _ _ _;have Rb:H7 (bY ((wb.alloc (.map #[] 0)).alloc (.cells #[it now,it sr,.slice none 0 0,.slice none 0 0,.map (some wb.heap.size)] 105)) wb.heap.size []):=(tX wb).alloc _;have Pc:H7 (((wb.alloc (.map #[] 0)).alloc (.cells #[it now,it sr,.slice none 0 0,.slice none 0 0,.map (some wb.heap.size)] 105)).heap.size=wb.heap.size+1+1):=(by show _=_;simp);generalize((wb.alloc (.map #[] 0)).alloc (.cells #[it now,it sr,.slice none 0 0,.slice none 0 0,.map (some wb.heap.size)] 105))=w1 at *;generalize Sb:wb.heap.size+1=hb at *;generalize wb.heap.size=mb at Sb Rb Pa Bb |-;have Qa:=Hd Sb;have h2:=Bb.c 2;have J:=Qb.c 2;have Ra:=(HM.o.below Ka.o).b;have Qc:H7 (aC w1.drew ab nb cb bs):=Ra.of_cells λ_ _ hp _=>hp;have Cb:=Hd Ra.len;have Rc:=Hd Ra.no;have HR:=Hd (cC HF.o);have Xd:nb<=9:=(by have:=jh HR.o.bn;rw[Cb.o]at this;exact this);clear Ra;obtain⟨i0,hi,Db,Eb,Fb⟩:=info_parts bF;have Sc:H7 (((bs.take nb).map (Value.int .i64)).length=nb*1):=(by show _=_;have:=Cb.o;simp;omega);have Gb:=Hd Ka.o.size;apply fR
 case f=>
  intro key
  go_region_law (refine dM rfl (.tmp 21) (.tmp 23) 24 rfl w.heap.size 2 i0 (it 0) 1 8 underlying24 hi Db Eb Fb rfl (by decide) (.slice none 0 0) 0 [] (by simp[Act.eval]) (World.ownsRow_nil _ _ _ _) ab nb cb ((bs.take nb).map (Value.int .i64)) (by simp[Act.eval]) Sc.o Rc.o (cB Qc.o nb (m3 _)) (cF _) (by unfold maxLen;omega) (by omega) Gb.o ?_;intro v' w7 La Sa Ta;have hown':w7.ownsRow w.heap.size 2 1 v' nb (bs.map (Value.int .i64)):=(by rw[Nat.zero_add,List.nil_append,xt (Nat.le_of_eq Cb.o)]at La;exact La);obtain⟨Aa,Ba,rfl,ho⟩:=aA.form hown';have Tb:=Hd ho;have Ha:H7 (w1.grownBy w7 none):=(dy _ _).trans Sa;have Ub:H7 ((Value.slice Aa nb Ba).ownBlock=none\/(Value.slice Aa nb Ba).ownBlock=some w1.heap.size):=Ta;have Ua:=Hd (Bb.o.grown Ha.o (by simp));have c3:=Ua.c 2;have f3:=Ua.o.fr 2;clear La hown' Sa Ta ho)
  all_goals
   clear c3 f3;revert w7 Aa Ba;exact key.out
 case h=>
  intro w7 Aa Ba Tb Ha Ub Ua;have Tc:H7 (aw (w7.setCell ⟨hb,2,none⟩ (.slice Aa nb Ba)) hb [it now,it sr,.slice Aa nb Ba,.slice none 0 0,.map (some mb)]):=Ua.o.set 2 (by simp) _;have Vb:H7 (w7.grownBy (w7.setCell ⟨hb,2,none⟩ (.slice Aa nb Ba)) (some hb)):=aV _ _ _;have Uc:H7 (bY (w7.setCell ⟨hb,2,none⟩ (.slice Aa nb Ba)) mb []):=(Rb.o.grown Ha.o (by simp)).setCell _ _;have Wb:hb<w1.heap.size:=(by rw[Pc.o];omega);have Na:∀g∈ob Aa,w1.heap.size<=g:=λg hg=>by have e:=cz (n:=nb) (c:=Ba) hg;rcases Ub.o with e2 | e2 <;> rw[e2]at e <;> simp at e;omega
  have Vc:=Hd (Tb.o.grown Vb.o (λg hg e=>by have:=Na g hg;have:=m2 e;omega));have Xb:=Hd ((Ka.o.trans (ap Ha.o Gb.o (by simp))).trans (ap Vb.o (tr Gb.o Ha.o.size) (λz e=>by have:=m2 e;have:=Qa.o;have:=Pa.o;omega)));have Yb:H7 (aw (w7.setCell ⟨hb,2,none⟩ (.slice Aa nb Ba)) w.heap.size (aJ now sr ab nb cb aj nj cj)):=(Qb.o.grown Ha.o (by simp)).far (by have:=Qa.o;have:=Pa.o;omega) _ _;have HX:=Hd (uL Tc.o Vc.o Uc.o (by have:=Qa.o;omega) (by have:=Qa.o;have:=Pa.o;omega) Pa.o (λe=>by have:=Na _ e;omega) (λe=>by have:=Na _ e;have:=Qa.o;omega));generalize(w7.setCell ⟨hb,2,none⟩ (.slice Aa nb Ba))=w8 at *;have Yd:=HM.o.j.len;have Zd:nj<=6:=(by have:=HR.o.few;omega);have Ae:(nj:Int)<=9223372036854775807:=(by omega);have Be:=HM.o.j.le;have Ce:(nj:Int)<=cj:=(by omega);have x3:=Yb.c 3;(go_wp2_with fail);clear x3
  go_loopw [30] (λi wr=>∃(k:Nat) (ai:Option Addr) (ni ci:Nat) (qs:List HJ),k<=nj/\i=it k/\bq wr w.heap.size hb now sr Aa nb Ba bs ai ni ci mb qs/\qs.map (·.j)=js.take k/\m1 w wr) (λi _=>nj-(intOf i).toNat)
  case atStart=>exact⟨0,none,0,0,[],by omega,rfl,HX.o,rfl,Xb.o⟩
  case round=>
   obtain⟨kk,ai,ni,ci,qs,hk,rfl,hh,Va,Wa⟩:=hrel;clear HX Xb Yb;by_cases Wb:kk<nj
   case pos=>
    obtain⟨b1,o1,rfl,Wc⟩:=(HM.o.j.below Wa).at (by omega);obtain⟨ta,tc,hA,hT⟩:=Wc kk Wb;have Xc:(kk:Int)<(nj:Int):=(by omega);have Yc:js.getD kk M.j0∈js:=(by rw[m5,m9 (by omega)];simp);have Hb:js.take (kk+1)=js.take kk++[js.getD kk M.j0]:=(by rw[List.take_add_one,m5,m9 (by omega)];simp);have Zc:=HR.o.before (k:=kk) (by omega);have Ib:=HR.o.tasks _ Yc;have Ad:ni=kk:=(by have h1:=hh.i.len;have h2:=congrArg List.length Va;rw[List.length_map]at h1 h2;rw[xW]at h2;omega);have Kb:H7 (∀q∈qs,q.j.id≠(js.getD kk M.j0).id):=λq hq=>Zc q.j (by rw[<-Va];exact List.mem_map.2 ⟨q,hq,rfl⟩);generalize js.getD kk M.j0=cq at hA hT Hb Ib Kb;obtain⟨Ca,⟨⟨a,b,c',d,f,k⟩,⟨a',b',Da,d',f',k'⟩⟩,⟨s1,s2⟩,jr,jg,tl⟩:=cq;dsimp only at hT Hb Ib Kb;have hR:wr.rangeAt b1 (o1+kk*18) (fk ⟨Ca,⟨⟨a,b,c',d,f,k⟩,⟨a',b',Da,d',f',k'⟩⟩,(s1,s2),jr,jg,tl⟩ ta tc):=bN rfl hA;have HT:=Hd hT;dsimp only[fk]at hR;generalize Bd:tl.length=tn at hR HT Ib;have Xa:=Hd Bd;have Cd:H7 (qs.map (·.j)++[⟨Ca,⟨⟨a,b,c',d,f,k⟩,⟨a',b',Da,d',f',k'⟩⟩,(s1,s2),jr,jg,tl⟩]=js.take (kk+1)):=(by show _=_;rw[Va];exact Hb.symm);have Dd:=Hd Ad;have Ia:=Hd Wa;have Zb:=Hd hh;have Ac:=Hd HT.o;have Lb:=Hd hh.lt;have Ya:=Hd Wa.size;(go_wp2_with(with_reducible refine au 33 ?_ ?_;rfl));with_reducible refine dY 70 b1 (o1+kk*18) (bO Ca a b c' d f k a' b' Da d' f' k' s1 s2 jr jg ta tn tc) hR underlying70 ?q5 ?_
    case q5=>exact⟨rfl,rfl,by kernel_rfl,_,rfl,by kernel_rfl⟩
    (go_wp2_with(with_reducible refine au 6 ?_ ?_;rfl));show wpList _ _ _ _ _ _;have Ed:(Instr.alloc 70 true (.tuple #[])).run prog wr=.ok (tG wr.heap.size) (wr.alloc (.cells eG.toArray 70)):=(by kernel_rfl);with_reducible refine ch ?qg 70 ?qo eG.toArray Ed ?_
    case qg | qo=>exact rfl
    show wpList _ _ _ _ _ _;with_reducible refine Hx (eF 70 wr.heap.size 0 (bO Ca a b c' d f k a' b' Da d' f' k' s1 s2 jr jg ta tn tc) ?q6 ?q5 ?_)
    case q6=>exact(aQ _ _ _).there _ 18 (by simp)
    case q5=>exact⟨rfl,by kernel_rfl,by kernel_rfl,_,_,rfl,by kernel_rfl,by kernel_rfl⟩
    have Ga:m1 wr ((wr.alloc (.cells eG.toArray 70)).setCells wr.heap.size 0 (bO Ca a b c' d f k a' b' Da d' f' k' s1 s2 jr jg ta tn tc)):=aP _ _ ((m8 _ _).alloc (m3 _) _) (m3 _);have Ja:=Ia.t Ga;have Bc:=Hd (Zb.o.below Ga);have Cc:=Hd (Ac.o.below Ga);clear Ia Zb Ac;clear Ga;have Za:H7 (aw ((wr.alloc (.cells eG.toArray 70)).setCells wr.heap.size 0 (bO Ca a b c' d f k a' b' Da d' f' k' s1 s2 jr jg ta tn tc)) wr.heap.size (bO Ca a b c' d f k a' b' Da d' f' k' s1 s2 jr jg ta tn tc)):=(aQ wr eG.toArray 70).setCells (bO Ca a b c' d f k a' b' Da d' f' k' s1 s2 jr jg ta tn tc) 0 (by simp);generalize((wr.alloc (.cells eG.toArray 70)).setCells wr.heap.size 0 (bO Ca a b c' d f k a' b' Da d' f' k' s1 s2 jr jg ta tn tc))=w2 at *;generalize wr.heap.size=jb at Za Lb Ya |-;have De:wr.heap.size=wr.heap.size:=rfl;have Dc:=Za.o.2.2;have Ga:=gW w2 (.cells #[] 75);have Ka:=Ja.t Ga;have Fd:=Hd (Bc.o.below Ga);have Ec:=Hd (Cc.o.below Ga);have Fc:=Za.b Ga;clear Ja Bc Cc Za;clear Ga;have Ee:=Fc.c 17;obtain⟨i0,hi,Db,Eb,Fb⟩:=info_parts gm;have Gd:(w2.alloc (.cells #[] 75)).heap.size=w2.heap.size+1:=(by simp);have Gc:=Ka.o.size;have Id:H7 ((tl.flatMap eK).length=tn*3):=(by show _=_;rw[eB ew,Xa.o]);(go_wp2_with(with_reducible refine au 37 ?_ ?_;rfl));show wpList _ _ _ _ _ _;refine eL _ rfl _ _ 68 rfl w.heap.size 75 i0 (.agg ug.toArray) 3 24 underlying68 hi Db Eb Fb rfl (by decide) _ 0 [] rfl (World.ownsRow_made w2 #[] 0 (tr Ya.o (Nat.le_of_lt Dc)) (by unfold maxLen;omega) (by simp)) ta tn tc (tl.flatMap eK) rfl Id.o Ec.o.no Ec.o.news (th tl) (by unfold maxLen;omega) (by omega) Gc ?_;intro v' w7 La Sa Ta;rw[Nat.zero_add,List.nil_append]at La;obtain⟨Ea,Fa,rfl,Jd⟩:=bw.form Xa.o La;have Kd:=Hd Jd;have Na:∀g∈ob Ea,w2.heap.size<=g:=λg hg=>by have e:=cz (n:=tn) (c:=Fa) hg;rcases Ta with e2 | e2 <;> (rw[e2]at e;have e:=m2 e;first | exact Nat.le_of_eq e | (rw[Gd]at e;omega))
    have Ab:(w2.alloc (.cells #[] 75)).grownBy w7 (some w2.heap.size):=Sa;have Hc:H7 (∀g∈dD hb mb Aa ai qs,g<w2.heap.size):=λg hg=>by have:=Lb.o g hg;omega
    have Ha:=Hd (Fd.o.grown Ab (λg hg e=>by have:=Hc.o g hg;have:=m2 e;omega));have Nb:=Hd (Fc.o.grown Ab (λe=>by have:=m2 e;omega));have Ic:=Hd (Ka.o.trans (ap Ab Gc (λz e=>by have:=m2 e;have:=Ya.o;have:=Dc;omega)));have Fe:=Ab.size;have Ld:H7 (∀g∈ob Ea,g∉dD hb mb Aa ai qs):=λg hg hx=>by have:=Na g hg;have:=Hc.o g hx;omega
    have Nd:H7 (∀g∈ob Ea,g≠jb):=λg hg e=>by have:=Na g hg;omega
    have Od:H7 (∀g∈dD hb mb Aa ai qs,g≠jb):=λg hg e=>by have:=Lb.o g hg;omega
    have Ge:=Nb.c 17;have He:=Nb.o.fr 17;(go_wp2_with(with_reducible refine au 40 ?_ ?_;rfl));show wpList _ _ _ _ _ _;have Pd:H7 (aw (w7.setCell ⟨jb,17,none⟩ (.slice Ea tn Fa)) jb (bO Ca a b c' d f k a' b' Da d' f' k' s1 s2 jr jg Ea tn Fa)):=Nb.o.set 17 (by simp) _;have Ob:w7.grownBy (w7.setCell ⟨jb,17,none⟩ (.slice Ea tn Fa)) (some jb):=aV _ _ _;have Qd:=Hd (Ha.o.grown Ob (λg hg e=>Od.o g hg (m2 e).symm));have Rd:=Hd (Kd.o.grown Ob (λg hg e=>Nd.o g hg (m2 e).symm));have Jc:=Hd (Ic.o.trans (ap Ob Ic.o.size (λz e=>by have:=m2 e;have:=Ya.o;omega)));generalize(w7.setCell ⟨jb,17,none⟩ (.slice Ea tn Fa))=w9 at *;have Sd:=Pd.o.row;with_reducible refine Hx (dY 70 jb 0 (bO Ca a b c' d f k a' b' Da d' f' k' s1 s2 jr jg Ea tn Fa) Sd underlying70 ?q5 ?_)
    case q5=>exact⟨rfl,rfl,by kernel_rfl,_,rfl,by kernel_rfl⟩
    have C4:Calls prog 45 #[tG hb,.agg #[it Ca,it a,it b,it c',it d,it f,it k,it a',it b',it Da,it d',it f',it k',it s1,it s2,it jr,.bool jg,.slice Ea tn Fa]] w9 λe w'=>e=.returned (.tuple #[])/\∃ai' ci',bq w' w.heap.size hb now sr Aa nb Ba bs ai' (ni+1) ci' mb (qs++[⟨⟨Ca,⟨⟨a,b,c',d,f,k⟩,⟨a',b',Da,d',f',k'⟩⟩,(s1,s2),jr,jg,tl⟩,w9.heap.size,Ea,Fa⟩])/\Below w.heap.size w9 w':=by
     have h0:=tU ⟨Ca,⟨⟨a,b,c',d,f,k⟩,⟨a',b',Da,d',f',k'⟩⟩,(s1,s2),jr,jg,tl⟩ Ea Fa w9 Qd.o Kb.o (by show bw _ _ _ tl.length _ _;rw[Xa.o];exact Rd.o) Ld.o Jc.o.size (by rw[Dd.o];omega);dsimp only[fk]at h0;rw[Xa.o]at h0;exact h0
    (go_wp2_with fail);refine C4.mono ?_;rintro e Kc ⟨rfl,Lc,Nc,hH,hB⟩;have HH':=Hd hH;have HB':=Hd (Jc.o.trans hB);go_wp2;go_roundw
    case rel=>exact⟨kk+1,Lc,ni+1,Nc,_,by omega,by go_num,HH'.o,by rw[xU];exact Cd.o,HB'.o⟩
    case measure=>simp[intOf];omega
   have Ie:kk=nj:=(by omega);have Td:=Hd hh;have Ud:H7 (qs.map (·.j)=js):=(by show _=_;rw[Va,xt (by omega)]);have Vd:=Hd Wa;have Xc:¬ (kk:Int)<(nj:Int):=(by omega);go_wp2;exact s' (v:=.tuple #[tG hb,.bool true]) (by simp[results,results17,go_sem]) rfl ⟨hb,Aa,nb,Ba,ai,ni,ci,mb,qs,rfl,Td.o,Ud.o,Vd.o⟩
def M.jobAt(id:Int)(k:Nat):List M.Jb->Int
 | []=>-1
 | j::l=>if j.id=id then(k:Int)else M.jobAt id (k+1) l
theorem mT(now sr id:Int)(w:World)(hz:fQ w aj nj cj js):
  Rt 25 #[.agg #[it now,it sr,.slice ab nb cb,.slice aj nj cj],it id] w (it (M.jobAt id 0 js)):=by
 have bn:(nj:Int)<=9223372036854775807:=(by have:=hz.big;have:=hz.le;omega);have Fa:(nj:Int)<=cj:=(by have:=hz.le;omega);have Da:=cQ w (aJ now sr ab nb cb aj nj cj) 27;have Aa:H7 (m1 w (w.alloc (.cells (aJ now sr ab nb cb aj nj cj).toArray 27))):=(m8 _ _).alloc (m3 _) _;have HZ:=Hd (hz.below Aa.o);generalize hR:M.jobAt id 0 js=R;have HR:=Hd hR;clear hR hz;go_enter func25,ntmps25;go_wp2;generalize(w.alloc (.cells (aJ now sr ab nb cb aj nj cj).toArray 27))=w1 at *;have x3:=Da.c 3
 go_loop [5] (λi=>∃k:Nat,k<=nj/\i=it k/\M.jobAt id k (js.drop k)=R) (λi=>nj-(intOf i).toNat)
 case atStart=>exact⟨0,by omega,rfl,HR.o⟩
 case round=>
  obtain⟨k,hk,rfl,hg⟩:=hrel;by_cases Ba:k<nj
  ·
   obtain⟨b1,o1,rfl,Ca⟩:=HZ.o.at (by omega);obtain⟨ta,tc,hA,_⟩:=Ca k Ba;have c1:w1.cell? ⟨b1,o1+k*18,none⟩=some (it (js.getD k M.j0).id):=hA 0 (by omega)
   have hG:(if(js.getD k M.j0).id=id then(k:Int)else M.jobAt id (k+1) (js.drop (k+1)))=R:=by
    rw[<-hg,aX M.j0 HZ.o.len Ba];rfl
   generalize(js.getD k M.j0).id=x at c1 hG;clear Ca hA hg;have hI:(k:Int)<(nj:Int):=(by omega);by_cases hx:x=id
   ·
    have hb:(x==id)=true:=(by simp[hx]);have HF:H7 ((k:Int)=R):=(by show _=_;rw[if_pos hx]at hG;exact hG);clear hx hG;go_wp2;go_ret;exact⟨by rw[<-HF.o];rfl,Aa.o⟩
   ·
    have hb:(x==id)=false:=(by simp[hx]);have Ea:H7 (M.jobAt id (k+1) (js.drop (k+1))=R):=(by show _=_;rw[if_neg hx]at hG;exact hG);clear hx hG;go_wp2
    go_round
    case rel=>exact⟨k+1,by omega,by go_num,Ea.o⟩
    case measure=>simp[intOf];omega
  ·
   have HF:H7 (-1=R):=(by show _=_;rw[t' (by rw[HZ.o.len];omega)]at hg;exact hg);clear hg;go_wp2;go_ret;exact⟨by rw[<-HF.o];rfl,Aa.o⟩
def M.jobOf(id:Int)(js:List M.Jb):M.Jb:=js.getD (M.jobAt id 0 js).toNat M.j0
theorem M.jobAt_some(id:Int):∀(js:List M.Jb) (k:Nat),0<=M.jobAt id k js->∃i,i<js.length/\M.jobAt id k js=((k+i:Nat):Int)/\(js.getD i M.j0).id=id
 | [],k,h=>by unfold M.jobAt at h;omega
 | j::l,k,h=>by
  unfold M.jobAt at h |-;by_cases e:j.id=id
  .rw[if_pos e];exact⟨0,by simp,rfl,e⟩
  ·
   rw[if_neg e]at h |-;obtain⟨i,h1,h2,h3⟩:=M.jobAt_some id l (k+1) h;refine⟨i+1,by simpa using h1,?_,h3⟩;rw[h2];congr 1;omega
namespace M
structure Mt where
 now:Int
 next:Int
 bs:List Int
 js:List Jb
def Mt.zero:Mt:=⟨0,0,[],[]⟩
def Mt.ok(m:Mt):Bool:=mkOk m.now m.next m.bs m.js
def free(f:Tk->Bool)(ts:List Tk):List Tk:=ts.map λt=>if f t then t0 else t
def freeJ(f:Tk->Bool)(j:Jb):Jb:={j with ts:=free f j.ts}
def dueT(now:Int)(t:Tk):Bool:=leased t&&decide (t.due<=now)
def isFree(t:Tk):Bool:=!t.done&&!leased t
def mineT(who:Int)(t:Tk):Bool:=decide (t.dC=who)
def openP(j:Jb):Option Nat:=if j.gone then none else j.ts.findIdx? isFree
def place(i:Nat):List Jb->Option (Nat×Nat)
 | []=>none
 | j::l=>match openP j with
  | some k=>some (i,k)
  | none=>place (i+1) l
def setT(js:List Jb)(i k:Nat)(t:Tk):List Jb:=js.set i {js.getD i j0 with ts:=(js.getD i j0).ts.set k t}
def submit(m:Mt)(mc:Mc)(s:Int×Int)(rows i':Int):Mt×Int×Int:=
 if decide (m.js.length=6)||decide (m.next=1000000000)then(m,3,0)
 else(⟨m.now,m.next+1,m.bs,m.js++[⟨m.next,mc,s,rows,false,List.replicate i'.toNat t0⟩]⟩,0,m.next)
def tickN(now i':Int):Int:=if now+i'<1000000000 then now+i' else 1000000000
def tick(m:Mt)(i':Int):Mt×Int×Int:=(⟨tickN m.now i',m.next,m.bs,m.js.map (freeJ (dueT (tickN m.now i')))⟩,0,0)
def cancel(m:Mt)(id:Int):Mt×Int×Int:=
 if jobAt id 0 m.js<0 then(m,4,0)
 else if(jobOf id m.js).gone||(jobOf id m.js).ts.all (·.done)then(m,8,0)
 else(⟨m.now,m.next,m.bs,m.js.set (jobAt id 0 m.js).toNat {freeJ leased (jobOf id m.js)with gone:=true}⟩,0,0)
def lease(m:Mt)(who:Int):Mt×Int×Int:=
 if m.bs.contains who then(m,5,0)
 else if m.js.any (λj=>j.ts.any (mineT who))then(m,6,0)
 else match place 0 m.js with
  | none=>(m,4,0)
  | some (i,k)=>(⟨m.now,m.next,m.bs,setT m.js i k ⟨false,who,m.now+5⟩⟩,0,100*(m.js.getD i j0).id+k)
def banned(bs:List Int)(who:Int):List Int:=[1,2,3,4,5,6,7,8,9].filter λx=>x==who||bs.contains x
def back(g:Jb->Bool)(m:Mt)(who id em:Int):Mt×Int×Int:=
 if m.bs.contains who then(m,5,0)
 else if jobAt id 0 m.js<0||decide (((jobOf id m.js).ts.length:Int)<=em)then(m,4,0)
 else if((jobOf id m.js).ts.getD em.toNat t0).dC≠who then(m,8,0)
 else if g (jobOf id m.js)=false then(⟨m.now,m.next,banned m.bs who,m.js.map (freeJ (mineT who))⟩,7,0)
 else(⟨m.now,m.next,m.bs,setT m.js (jobAt id 0 m.js).toNat em.toNat ⟨true,0,0⟩⟩,0,if((jobOf id m.js).ts.set em.toNat ⟨true,0,0⟩).all (·.done)then 1 else 0)
end M
namespace M
theorem getD_mem{α:Type}{l:List α}{k:Nat}{d:α}(h:k<l.length):l.getD k d∈l:=by rw[m5,m9 h];simp
theorem free_congr{f g:Tk->Bool}{ts:List Tk}(h:∀t∈ts,f t=g t):free f ts=free g ts:=by
 unfold free;exact List.map_congr_left λt ht=>by rw[h t ht]
theorem free_len(f:Tk->Bool)(ts:List Tk):(free f ts).length=ts.length:=by unfold free;simp
theorem Right.tk{js:List M.Jb}(h:M.Right now sr bs js){j:M.Jb}(hj:j∈js){t:Tk}(ht:t∈j.ts):tkOk now t=true:=by
 have:=(h.job j hj).2.2;unfold M.jbOk at this;simp only[xP,List.all_eq_true]at this;exact this.1.2.2.2.2.2 t ht
theorem Right.due{js:List M.Jb}(h:M.Right now sr bs js){j:M.Jb}(hj:j∈js):free (dueT (now+5)) j.ts=free leased j.ts:=by
 refine free_congr λt ht=>?_;have h1:=h.tk hj ht;unfold tkOk at h1;unfold dueT;by_cases hw:t.dC=0
 .simp[leased,hw]
 ·
  simp only[hw,decide_false,Bool.false_and,Bool.false_or,xP,decide_eq_true_eq]at h1;rw[show decide (t.due<=now+5)=true by simpa using h1.2.2.2,Bool.and_true]
theorem mem_wkT{ts:List Tk}(hw:who≠0):who∈wkT ts↔∃t∈ts,t.dC=who:=by
 unfold wkT;simp only[List.mem_map,List.mem_filter,leased]
 constructor
 .rintro⟨t,⟨h1,_⟩,h3⟩;exact⟨t,h1,h3⟩
 .rintro⟨t,h1,h2⟩;exact⟨t,⟨h1,by simp[h2,hw]⟩,h2⟩
theorem free_out{ts:List Tk}(h:∀t∈ts,t.dC≠who):free (mineT who) ts=ts:=by
 unfold free
 conv=>rhs;rw[<-List.map_id ts]
 exact List.map_congr_left λt ht=>by simp[mineT,h t ht]
theorem free_in(hw:who≠0):∀{ts:List Tk} {k:Nat},(wkT ts).Nodup->k<ts.length->(ts.getD k t0).dC=who->free (mineT who) ts=ts.set k t0
 | [],_,_,h,_=>by simp at h
 | t::l,0,hn,_,h=>by
  have ht:t.dC=who:=h;have hl:leased t=true:=(by simp[leased,ht,hw]);have Aa:=hn;unfold wkT at Aa;rw[List.filter_cons,if_pos hl,List.map_cons,List.nodup_cons]at Aa;have Ca:∀x∈l,x.dC≠who:=λx hx e=>Aa.1 (by rw[ht];exact(mem_wkT hw).2 ⟨x,hx,e⟩);show(if mineT who t then t0 else t)::free (mineT who) l=_;rw[free_out Ca,if_pos (by simp[mineT,ht])]
  rfl
 | t::l,k+1,hn,hk,h=>by
  have Ba:k<l.length:=(by simpa using hk);have hx:(l.getD k t0).dC=who:=h;have Da:who∈wkT l:=(mem_wkT hw).2 ⟨l.getD k t0,by rw[m5,m9 Ba];simp,hx⟩;have Aa:=hn;unfold wkT at Aa;rw[List.filter_cons]at Aa
  have ht:t.dC≠who:=λe=>by
   have hl:leased t=true:=(by simp[leased,e,hw]);rw[if_pos hl,List.map_cons,List.nodup_cons,e]at Aa;exact Aa.1 Da
  have Ea:(wkT l).Nodup:=by
   split at Aa
   .rw[List.map_cons,List.nodup_cons]at Aa;exact Aa.2
   .exact Aa
  show(if mineT who t then t0 else t)::free (mineT who) l=_;rw[free_in hw Ea Ba hx,if_neg (by simp[mineT,ht])]
  rfl
theorem wks_cons(j:Jb)(l:List Jb):wks (j::l)=wkT j.ts++wks l:=by simp[wks]
theorem mem_wks{js:List Jb}(hw:who≠0):who∈wks js↔∃j∈js,∃t∈j.ts,t.dC=who:=by
 unfold wks;rw[xI];exact⟨λ⟨j,hj,h⟩=>⟨j,hj,(mem_wkT hw).1 h⟩,λ⟨j,hj,h⟩=>⟨j,hj,(mem_wkT hw).2 h⟩⟩
theorem freeJ_out{js:List Jb}(h:∀j∈js,∀t∈j.ts,t.dC≠who):js.map (freeJ (mineT who))=js:=by
 conv=>rhs;rw[<-List.map_id js]
 exact List.map_congr_left λj hj=>by unfold freeJ;rw[free_out (h j hj)];rfl
theorem free_js(hw:who≠0):∀{js:List Jb} {i k:Nat},(wks js).Nodup->i<js.length->k<(js.getD i j0).ts.length->((js.getD i j0).ts.getD k t0).dC=who->js.map (freeJ (mineT who))=setT js i k t0
 | [],_,_,_,h,_,_=>by simp at h
 | j::l,0,k,hn,_,hk,h=>by
  rw[wks_cons,List.nodup_append]at hn;have hk':k<j.ts.length:=hk;have h':(j.ts.getD k t0).dC=who:=h;have hmem:who∈wkT j.ts:=(mem_wkT hw).2 ⟨j.ts.getD k t0,by rw[m5,m9 hk'];simp,h'⟩;have hout:∀x∈l,∀t∈x.ts,t.dC≠who:=λx hx t ht e=>hn.2.2 who hmem who ((mem_wks hw).2 ⟨x,hx,t,ht,e⟩) rfl;rw[List.map_cons,freeJ_out hout];unfold setT freeJ;rw[free_in hw hn.1 hk' h']
  rfl
 | j::l,i+1,k,hn,hi,hk,h=>by
  rw[wks_cons,List.nodup_append]at hn;have hi':i<l.length:=(by simpa using hi);have hk':k<(l.getD i j0).ts.length:=hk;have h':((l.getD i j0).ts.getD k t0).dC=who:=h;have hmem:=(mem_wks hw).2 ⟨l.getD i j0,getD_mem hi',(l.getD i j0).ts.getD k t0,getD_mem hk',h'⟩;have hout:∀t∈j.ts,t.dC≠who:=λt ht e=>hn.2.2 who ((mem_wkT hw).2 ⟨t,ht,e⟩) who hmem rfl;rw[List.map_cons,free_js hw hn.2.1 hi' hk' h'];unfold setT freeJ;rw[free_out hout]
  rfl
theorem bn_rise:∀{bs:List Int} {last:Int},bnGo last bs=true->(∀x∈bs,last<x/\wkOk x=true)/\bs.Pairwise (·< ·)
 | [],_,_=>⟨λx hx=>by simp at hx,List.Pairwise.nil⟩
 | y::l,last,h=>by
  unfold bnGo at h;simp only[xP,decide_eq_true_eq]at h;obtain⟨h1,h2⟩:=bn_rise h.2;refine⟨λx hx=>?_,List.pairwise_cons.2 ⟨λx hx=>(h1 x hx).1,h2⟩⟩
  rcases List.mem_cons.1 hx with rfl | hx
  .exact⟨h.1.1,h.1.2⟩
  .exact⟨by have:=(h1 x hx).1;omega,(h1 x hx).2⟩
theorem wk_mem:x∈([1,2,3,4,5,6,7,8,9]:List Int)↔wkOk x=true:=by
 unfold wkOk;simp only[List.mem_cons,List.not_mem_nil,or_false,xP,decide_eq_true_eq];omega
theorem mem_banned:x∈banned bs who↔wkOk x=true/\(x=who\/x∈bs):=by
 unfold banned;rw[List.mem_filter,wk_mem];simp
theorem banned_pw(bs:List Int)(who:Int):(banned bs who).Pairwise (·< ·):=List.Pairwise.filter _ (by decide)
theorem banned_sorted{srt:List Int}(hb:bnGo 0 bs=true)(hw:wkOk who=true)(hn:bs.contains who=false)(hs:srt.Pairwise (·<=·))(hp:srt.Perm (bs++[who])):srt=banned bs who:=by
 obtain⟨h1,h2⟩:=bn_rise hb;have Aa:who∉bs:=by simpa using hn
 have nd:(bs++[who]).Nodup:=by
  rw[List.nodup_append];exact⟨h2.imp (λh=>by omega),by simp,λa ha b hb e=>Aa (by simp at hb;rw[<-hb,<-e];exact ha)⟩
 have nb:(banned bs who).Nodup:=(banned_pw bs who).imp (λh=>by omega)
 have Ba:=(List.perm_ext_iff_of_nodup nd nb).2 λx=>by
  rw[mem_banned,xw,List.mem_singleton]
  constructor
  ·
   rintro(h | rfl)
   .exact⟨(h1 x h).2,.inr h⟩
   .exact⟨hw,.inl rfl⟩
  ·
   rintro⟨_,rfl | h⟩
   .exact .inr rfl
   .exact .inl h
 exact List.Perm.eq_of_pairwise (le:=(·<=·)) (λa b _ _ h h'=>by omega) hs ((banned_pw bs who).imp (λh=>by omega)) (hp.trans Ba)
end M
set_option maxRecDepth 10000 in
theorem km(jid a b c' d f k a' b' c'' d' f' k' s1 s2 jr:Int)(jg:Bool)(ta:Option Addr)(tn tc:Nat)(em:Int)(h0:0<=em)(h1:em<=8)(r0:0<=jr)(r1:jr<=16)(w:World):
  Rt 43 #[.agg #[it jid,it a,it b,it c',it d,it f,it k,it a',it b',it c'',it d',it f',it k',it s1,it s2,it jr,.bool jg,.slice ta tn tc],it em] w (dd (eH ⟨⟨a,b,c',d,f,k⟩,⟨a',b',c'',d',f',k'⟩⟩ (s1,s2) (em*(jr-1)))):=by
 have C1:=mf ⟨⟨a,b,c',d,f,k⟩,⟨a',b',c'',d',f',k'⟩⟩ (s1,s2) (em*(jr-1))
 have Ia:-8<=em*(jr-1):=by
  have e1:=Int.mul_nonneg h0 r0;have e2:em*(jr-1)=em*jr-em:=(by rw[Int.mul_sub,Int.mul_one]);omega
 have Ja:em*(jr-1)<=128:=by
  have e1:=Int.mul_le_mul h1 r1 r0 (by omega);have e2:em*(jr-1)=em*jr-em:=(by rw[Int.mul_sub,Int.mul_one]);omega
 have Ya:IntKind.i64.wrap (jr-1)=jr-1:=(by rw[xK];omega);have Ka:IntKind.i64.wrap (em*(jr-1))=em*(jr-1):=(by rw[xK];omega);generalize eH ⟨⟨a,b,c',d,f,k⟩,⟨a',b',c'',d',f',k'⟩⟩ (s1,s2) (em*(jr-1))=rs at *;generalize bG ⟨⟨a,b,c',d,f,k⟩,⟨a',b',c'',d',f',k'⟩⟩ (s1,s2) (em*(jr-1))=ro at C1;dsimp only[dp,dd]at C1 |-;generalize La:em*(jr-1)=pm at C1 Ka Ia Ja;go_enter func43,ntmps43;have Aa:H7 (aw ((w.alloc (.cells (bO jid a b c' d f k a' b' c'' d' f' k' s1 s2 jr jg ta tn tc).toArray 70)).alloc (.cells #[it 0,it 0] 33)) w.heap.size (bO jid a b c' d f k a' b' c'' d' f' k' s1 s2 jr jg ta tn tc)):=(aQ _ _ _).alloc _;have Fa:H7 (aw ((w.alloc (.cells (bO jid a b c' d f k a' b' c'' d' f' k' s1 s2 jr jg ta tn tc).toArray 70)).alloc (.cells #[it 0,it 0] 33)) (w.heap.size+1) [it 0,it 0]):=aZ _ _ _ _;have Ca:H7 (m1 w ((w.alloc (.cells (bO jid a b c' d f k a' b' c'' d' f' k' s1 s2 jr jg ta tn tc).toArray 70)).alloc (.cells #[it 0,it 0] 33))):=((m8 _ _).alloc (m3 _) _).alloc (by simp) _;have y0:=Aa.c 0;have y1:=Aa.c 1;have y2:=Aa.c 2;have y3:=Aa.c 3;have y4:=Aa.c 4;have y5:=Aa.c 5;have y6:=Aa.c 6;have y7:=Aa.c 7;have y8:=Aa.c 8;have y9:=Aa.c 9;have Na:=Aa.c 10;have Oa:=Aa.c 11;have Pa:=Aa.c 12;have Qa:=Aa.c 13;have Ra:=Aa.c 14;have Sa:=Aa.c 15;have Ta:=Aa.c 16;have Ua:=Aa.c 17;(go_wp2_with fail);clear y0 y1 y2 y3 y4 y5 y6 y7 y8 y9 Na Oa Pa Qa Ra Sa Ta Ua La;generalize((w.alloc (.cells (bO jid a b c' d f k a' b' c'' d' f' k' s1 s2 jr jg ta tn tc).toArray 70)).alloc (.cells #[it 0,it 0] 33))=wa at *;clear Aa;refine(C1 _).mono ?_;rintro e wb ⟨rfl,hb⟩;have Ga:=Fa.b hb;have Da:=Ca.t hb;clear Fa Ca;clear hb;obtain⟨u,v⟩:=rs;dsimp only;have Ea:=gW wb (.cells #[it u,it v] 33);have Ba:=Ga.b Ea;have Va:=Da.t Ea;clear Ga Da;clear Ea;have Ha:=cQ wb [it u,it v] 33;have z0:=Ba.c 0;have Za:=Ba.o.fr 0;have z1:=Ba.c 1;have Ab:=Ba.o.fr 1;have Bb:=Ha.c 0;have Cb:=Ha.c 1;(go_wp2_with fail);show bodyPost _ _ _ _ _ ((wb.alloc (.cells #[it u,it v] 33)).setCells (w.heap.size+1) 0 [it u,it v]);have Wa:aw ((wb.alloc (.cells #[it u,it v] 33)).setCells (w.heap.size+1) 0 [it u,it v]) (w.heap.size+1) [it u,it v]:=Ba.o.setCells [it u,it v] 0 (by simp);have Xa:m1 w ((wb.alloc (.cells #[it u,it v] 33)).setCells (w.heap.size+1) 0 [it u,it v]):=Va.o.trans (aP _ 0 (m8 _ _) (by omega));generalize((wb.alloc (.cells #[it u,it v] 33)).setCells (w.heap.size+1) 0 [it u,it v])=wf at *;exact s' (aM rfl rfl (xH wf (w.heap.size+1) 0 33 _ _ Wa.row underlying33 rfl (by kernel_rfl))) rfl ⟨rfl,Xa⟩
def bK(s1 s2 e1 e2:Int)(n1 n2 n3 n4:Nat):Bool:=(decide (s1=0)&&decide (s2=0))&&((decide (e1=0)&&decide (e2=0))&&decide (n1+n2+n3+n4=0))
set_option maxRecDepth 10000 in
theorem sw(s1 s2 e1 e2:Int)(l1:n1<=1048576)(l2:n2<=1048576)(l3:n3<=1048576)(l4:n4<=1048576)(w:World):
  Rt 57 #[.agg #[it s1,it s2,it e1,it e2,.slice a1 n1 c1,.slice a2 n2 c2,.slice a3 n3 c3,.slice a4 n4 c4]] w (.bool (bK s1 s2 e1 e2 n1 n2 n3 n4)):=by
 go_enter func57,ntmps57;have Aa:=cQ w (cX s1 s2 e1 e2 a1 n1 c1 a2 n2 c2 a3 n3 c3 a4 n4 c4) 35;have y0:=Aa.c 0;have y1:=Aa.c 1;have y2:=Aa.c 2;have y3:=Aa.c 3;have y4:=Aa.c 4;have y5:=Aa.c 5;have y6:=Aa.c 6;have y7:=Aa.c 7;have w1:IntKind.i64.wrap ((n1:Int)+n2)=(n1:Int)+n2:=(by rw[xK];omega);have w2:IntKind.i64.wrap ((n1:Int)+n2+n3)=(n1:Int)+n2+n3:=(by rw[xK];omega);have w3:IntKind.i64.wrap ((n1:Int)+n2+n3+n4)=(n1:Int)+n2+n3+n4:=by rw[xK];omega
 have Ca:((n1:Int)+n2+n3+n4==0)=decide (n1+n2+n3+n4=0):=by
  by_cases h:n1+n2+n3+n4=0
  .rw[decide_eq_true h];simp;omega
  .rw[decide_eq_false h];simp;omega
 by_cases Da:s1=0
 case neg=>
  have Ba:H7 (m1 w ((w.alloc (.cells (cX s1 s2 e1 e2 a1 n1 c1 a2 n2 c2 a3 n3 c3 a4 n4 c4).toArray 35)).alloc (.cells #[it 0,it 0] 33))):=((m8 _ _).alloc (m3 _) _).alloc (by simp) _;have hF:bK s1 s2 e1 e2 n1 n2 n3 n4=false:=(by simp[bK,Da]);clear Aa;rw[hF];go_wp2;go_ret;exact⟨rfl,Ba.o⟩
 subst Da;by_cases Ea:s2=0
 case neg=>
  have Ba:H7 (m1 w ((w.alloc (.cells #[it 0,it s2,it e1,it e2,.slice a1 n1 c1,.slice a2 n2 c2,.slice a3 n3 c3,.slice a4 n4 c4] 35)).alloc (.cells #[it 0,it 0] 33))):=((m8 _ _).alloc (m3 _) _).alloc (by simp) _;have hF:bK 0 s2 e1 e2 n1 n2 n3 n4=false:=(by simp[bK,Ea]);clear Aa;rw[hF];go_wp2;go_ret;exact⟨rfl,Ba.o⟩
 subst Ea;by_cases Fa:e1=0
 case neg=>
  have Ba:H7 (m1 w ((w.alloc (.cells #[it 0,it 0,it e1,it e2,.slice a1 n1 c1,.slice a2 n2 c2,.slice a3 n3 c3,.slice a4 n4 c4] 35)).alloc (.cells #[it 0,it 0] 33))):=((m8 _ _).alloc (m3 _) _).alloc (by simp) _;have hF:bK 0 0 e1 e2 n1 n2 n3 n4=false:=(by simp[bK,Fa]);clear Aa;rw[hF];go_wp2;go_ret;exact⟨rfl,Ba.o⟩
 subst Fa;by_cases Ga:e2=0
 case neg=>
  have Ba:H7 (m1 w ((w.alloc (.cells #[it 0,it 0,it 0,it e2,.slice a1 n1 c1,.slice a2 n2 c2,.slice a3 n3 c3,.slice a4 n4 c4] 35)).alloc (.cells #[it 0,it 0] 33))):=((m8 _ _).alloc (m3 _) _).alloc (by simp) _;have hF:bK 0 0 0 e2 n1 n2 n3 n4=false:=(by simp[bK,Ga]);clear Aa;rw[hF];go_wp2;go_ret;exact⟨rfl,Ba.o⟩
 subst Ga;have Ba:H7 (m1 w ((w.alloc (.cells #[it 0,it 0,it 0,it 0,.slice a1 n1 c1,.slice a2 n2 c2,.slice a3 n3 c3,.slice a4 n4 c4] 35)).alloc (.cells #[it 0,it 0] 33))):=((m8 _ _).alloc (m3 _) _).alloc (by simp) _;have hF:bK 0 0 0 0 n1 n2 n3 n4=((n1:Int)+n2+n3+n4==0):=(by rw[Ca];simp[bK]);clear Ca;clear Aa;rw[hF];go_wp2;go_ret;exact⟨rfl,Ba.o⟩
def bU(a b c' d f k a' b' c'' d' f' k':Int):Bool:=decide (a=0)&&(decide (b=0)&&(decide (c'=0)&&(decide (d=0)&&(decide (f=0)&&(decide (k=0)&&(decide (a'=0)&&(decide (b'=0)&&(decide (c''=0)&&(decide (d'=0)&&(decide (f'=0)&&(decide (k'=0))))))))))))
theorem wP{β:Type}(X:Bool->β)(a b c' d f k a' b' c'' d' f' k':Int):(if a=0 then(if b=0 then(if c'=0 then(if d=0 then(if f=0 then(if k=0 then(if a'=0 then(if b'=0 then(if c''=0 then(if d'=0 then(if f'=0 then(if k'=0 then X true else X false)else X false)else X false)else X false)else X false)else X false)else X false)else X false)else X false)else X false)else X false)else X false)=X (bU a b c' d f k a' b' c'' d' f' k'):=by
 unfold bU;by_cases h:a=0
 case neg=>rw[if_neg h,decide_eq_false h];rfl
 rw[if_pos h,decide_eq_true h,Bool.true_and];by_cases h:b=0
 case neg=>rw[if_neg h,decide_eq_false h];rfl
 rw[if_pos h,decide_eq_true h,Bool.true_and];by_cases h:c'=0
 case neg=>rw[if_neg h,decide_eq_false h];rfl
 rw[if_pos h,decide_eq_true h,Bool.true_and];by_cases h:d=0
 case neg=>rw[if_neg h,decide_eq_false h];rfl
 rw[if_pos h,decide_eq_true h,Bool.true_and];by_cases h:f=0
 case neg=>rw[if_neg h,decide_eq_false h];rfl
 rw[if_pos h,decide_eq_true h,Bool.true_and];by_cases h:k=0
 case neg=>rw[if_neg h,decide_eq_false h];rfl
 rw[if_pos h,decide_eq_true h,Bool.true_and];by_cases h:a'=0
 case neg=>rw[if_neg h,decide_eq_false h];rfl
 rw[if_pos h,decide_eq_true h,Bool.true_and];by_cases h:b'=0
 case neg=>rw[if_neg h,decide_eq_false h];rfl
 rw[if_pos h,decide_eq_true h,Bool.true_and];by_cases h:c''=0
 case neg=>rw[if_neg h,decide_eq_false h];rfl
 rw[if_pos h,decide_eq_true h,Bool.true_and];by_cases h:d'=0
 case neg=>rw[if_neg h,decide_eq_false h];rfl
 rw[if_pos h,decide_eq_true h,Bool.true_and];by_cases h:f'=0
 case neg=>rw[if_neg h,decide_eq_false h];rfl
 rw[if_pos h,decide_eq_true h,Bool.true_and];by_cases h:k'=0
 .rw[if_pos h,decide_eq_true h]
 .rw[if_neg h,decide_eq_false h]
def M.formB(l' id em dC i':Int)(bare mok sok rok L non wk idk p7 mt:Bool):Bool:=
 if l'=1 then mok&&(sok&&(rok&&(L&&(decide (id=0)&&(decide (dC=0)&&non)))))
 else if l'=2 then bare&&(wk&&(decide (id=0)&&(decide (em=0)&&(decide (i'=0)&&non))))
 else if l'=3 then bare&&(wk&&(idk&&(p7&&decide (i'=0))))
 else if l'=4 then bare&&(decide (dC=0)&&(decide (id=0)&&(decide (em=0)&&(mt&&non))))
 else if l'=5 then bare&&(decide (dC=0)&&(idk&&(decide (em=0)&&(decide (i'=0)&&non))))
 else false
def M.inB(x lo hi:Int):Bool:=decide (lo<=x)&&decide (x<=hi)
set_option maxRecDepth 10000 in
theorem sv(l' id em dC i' a b c' d f k a' b' c'' d' f' k' s1 s2 p1 p2 p3 p4:Int)(l1:n1<=1048576)(l2:n2<=1048576)(l3:n3<=1048576)(l4:n4<=1048576)(w:World):
  Rt 23 #[.agg #[it l',it id,it em,it dC,it i',it a,it b,it c',it d,it f,it k,it a',it b',it c'',it d',it f',it k',it s1,it s2,it p1,it p2,it p3,it p4,.slice a1 n1 c1,.slice a2 n2 c2,.slice a3 n3 c3,.slice a4 n4 c4]] w (.bool (M.formB l' id em dC i' (bU a b c' d f k a' b' c'' d' f' k'&&(decide (s1=0)&&decide (s2=0))) (M.Mc.ok ⟨⟨a,b,c',d,f,k⟩,⟨a',b',c'',d',f',k'⟩⟩) (M.sOk (s1,s2)) (M.rows em) (M.inB i' 1 8) (bK p1 p2 p3 p4 n1 n2 n3 n4) (M.inB dC 1 9) (M.inB id 1 1000000000) (M.inB em 0 7) (M.inB i' 1 1000000000))):=by
 have CM:=bD ⟨⟨a,b,c',d,f,k⟩,⟨a',b',c'',d',f',k'⟩⟩;have CS:=cf (s1,s2);have CR:=fd em;have C8:=dn i' 1 8;have CN:=sw p1 p2 p3 p4 (a1:=a1) (a2:=a2) (a3:=a3) (a4:=a4) (c1:=c1) (c2:=c2) (c3:=c3) (c4:=c4) l1 l2 l3 l4;have CW:=dn dC 1 9;have CI:=dn id 1 1000000000;have CP:=dn em 0 7;have CT:=dn i' 1 1000000000;dsimp only[dp,dd]at CM CS
 change∀w,Calls prog _ _ w λe w'=>e=.returned (.bool (M.inB i' 1 8))/\w'=w at C8
 change∀w,Calls prog _ _ w λe w'=>e=.returned (.bool (M.inB dC 1 9))/\w'=w at CW
 change∀w,Calls prog _ _ w λe w'=>e=.returned (.bool (M.inB id 1 1000000000))/\w'=w at CI
 change∀w,Calls prog _ _ w λe w'=>e=.returned (.bool (M.inB em 0 7))/\w'=w at CP
 change∀w,Calls prog _ _ w λe w'=>e=.returned (.bool (M.inB i' 1 1000000000))/\w'=w at CT
 generalize Nb:bU a b c' d f k a' b' c'' d' f' k'=mz;generalize hR:M.formB _ _ _ _ _ _ _ _ _ _ _ _ _ _ _=RB;generalize M.Mc.ok ⟨⟨a,b,c',d,f,k⟩,⟨a',b',c'',d',f',k'⟩⟩=Xa at CM hR;generalize M.sOk (s1,s2)=Ya at CS hR;generalize M.rows em=Za at CR hR;generalize M.inB i' 1 8=L at C8 hR;generalize bK p1 p2 p3 p4 n1 n2 n3 n4=Va at CN hR;generalize M.inB dC 1 9=wk at CW hR;generalize M.inB id 1 1000000000=Ab at CI hR;generalize M.inB em 0 7=p7 at CP hR;generalize M.inB i' 1 1000000000=mt at CT hR;have Jb:=Hd Nb;have Eb:=Hd hR;go_enter func23,ntmps23;have Aa:H7 (aw ((w.alloc (.cells (b8 l' id em dC i' a b c' d f k a' b' c'' d' f' k' s1 s2 p1 p2 p3 p4 a1 n1 c1 a2 n2 c2 a3 n3 c3 a4 n4 c4).toArray 37)).alloc (.cells #[it 0,it 0] 33)) w.heap.size (b8 l' id em dC i' a b c' d f k a' b' c'' d' f' k' s1 s2 p1 p2 p3 p4 a1 n1 c1 a2 n2 c2 a3 n3 c3 a4 n4 c4)):=(aQ _ _ _).alloc _;have Wa:H7 (aw ((w.alloc (.cells (b8 l' id em dC i' a b c' d f k a' b' c'' d' f' k' s1 s2 p1 p2 p3 p4 a1 n1 c1 a2 n2 c2 a3 n3 c3 a4 n4 c4).toArray 37)).alloc (.cells #[it 0,it 0] 33)) (w.heap.size+1) [it 0,it 0]):=aZ _ _ _ _;have Ba:H7 (m1 w ((w.alloc (.cells (b8 l' id em dC i' a b c' d f k a' b' c'' d' f' k' s1 s2 p1 p2 p3 p4 a1 n1 c1 a2 n2 c2 a3 n3 c3 a4 n4 c4).toArray 37)).alloc (.cells #[it 0,it 0] 33))):=((m8 _ _).alloc (m3 _) _).alloc (by simp) _;(go_wp2_with(with_reducible refine au 11 ?_ ?_;rfl));show wpList _ _ _ _ _ _;generalize((w.alloc (.cells (b8 l' id em dC i' a b c' d f k a' b' c'' d' f' k' s1 s2 p1 p2 p3 p4 a1 n1 c1 a2 n2 c2 a3 n3 c3 a4 n4 c4).toArray 37)).alloc (.cells #[it 0,it 0] 33))=wa at *;with_reducible refine cu ?qg (.bool mz) wa ?qrun ?_
 case qg=>exact rfl
 case qrun=>
  go_simp;rw[<-Jb.o];exact wP (λb=>Result.ok (Next.value (Value.bool b)) wa) a b c' d f k a' b' c'' d' f' k'
 show wpList _ _ _ _ _ _;clear Jb
 cases mz
 rotate_left
 by_cases hs:s1=0/\s2=0
 ·
  have Bb:M.formB l' id em dC i' true Xa Ya Za L Va wk Ab p7 mt=RB:=(by have:=Eb.o;simpa[hs.1,hs.2]using this);obtain⟨rfl,rfl⟩:=hs;have Cb:=Aa.c 17;have Db:=Aa.c 18;have z0:=Wa.c 0;have z1:=Wa.c 1;have HR:=Hd Bb;have y3:=Aa.c 3;(go_wp2_with fail);refine(CW _).mono ?_;rintro e wz ⟨rfl,Ca⟩;have Ga:=Ca.symm;clear Ca;subst Ga;have y1:=Aa.c 1;(go_wp2_with fail);refine(CI _).mono ?_;rintro e wz ⟨rfl,Ca⟩;have Ga:=Ca.symm;clear Ca;subst Ga;by_cases h1:l'=1
  ·
   have e1:(l'==1)=true:=(by simp[h1]);have y0:=Aa.c 0;have y5:=Aa.c 5;have y6:=Aa.c 6;have y7:=Aa.c 7;have y8:=Aa.c 8;have y9:=Aa.c 9;have Ob:=Aa.c 10;have Pb:=Aa.c 11;have Qb:=Aa.c 12;have Rb:=Aa.c 13;have Sb:=Aa.c 14;have Tb:=Aa.c 15;have Ub:=Aa.c 16;(go_wp2_with fail);refine(CM _).mono ?_;rintro e wb ⟨rfl,hb⟩;have La:=Aa.b hb;have Ia:=Ba.t hb;clear Aa Wa Ba;clear hb;clear CM
   cases Xa with
   | false=>
    have HF:H7 (false=RB):=(by show _=_;rw[<-HR.o];simp[M.formB,h1]);go_wp2;go_ret;exact⟨aB HF.o,Ia.o⟩
   | true=>
    have Cb:=La.c 17;have Db:=La.c 18;(go_wp2_with fail);refine(CS _).mono ?_;rintro e wc ⟨rfl,hb⟩;have Da:=La.b hb;have Ja:=Ia.t hb;clear La Ia;clear hb;clear CS
    cases Ya with
    | false=>
     have HF:H7 (false=RB):=(by show _=_;rw[<-HR.o];simp[M.formB,h1]);go_wp2;go_ret;exact⟨aB HF.o,Ja.o⟩
    | true=>
     have y2:=Da.c 2;(go_wp2_with fail);refine(CR _).mono ?_;rintro e wz ⟨rfl,Ca⟩;have Ga:=Ca.symm;clear Ca;subst Ga;clear CR
     cases Za with
     | false=>
      have HF:H7 (false=RB):=(by show _=_;rw[<-HR.o];simp[M.formB,h1]);go_wp2;go_ret;exact⟨aB HF.o,Ja.o⟩
     | true=>
      have y4:=Da.c 4;(go_wp2_with fail);refine(C8 _).mono ?_;rintro e wz ⟨rfl,Ca⟩;have Ga:=Ca.symm;clear Ca;subst Ga;clear C8
      cases L with
      | false=>
       have HF:H7 (false=RB):=(by show _=_;rw[<-HR.o];simp[M.formB,h1]);go_wp2;go_ret;exact⟨aB HF.o,Ja.o⟩
      | true=>
       have y1:=Da.c 1;have y3:=Da.c 3;have Na:=Da.c 19;have Oa:=Da.c 20;have Pa:=Da.c 21;have Qa:=Da.c 22;have Ra:=Da.c 23;have Sa:=Da.c 24;have Ta:=Da.c 25;have Ua:=Da.c 26;by_cases Ea:id=0
       case neg=>
        have gn:(id==0)=false:=(by simp[Ea]);have HF:H7 (false=RB):=(by show _=_;rw[<-HR.o];simp[M.formB,h1,Ea]);go_wp2;go_ret;exact⟨aB HF.o,Ja.o⟩
       have Fb:(id==0)=true:=(by simp[Ea]);by_cases Fa:dC=0
       case neg=>
        have gn:(dC==0)=false:=(by simp[Fa]);have HF:H7 (false=RB):=(by show _=_;rw[<-HR.o];simp[M.formB,h1,Ea,Fa]);go_wp2;go_ret;exact⟨aB HF.o,Ja.o⟩
       have Gb:(dC==0)=true:=(by simp[Fa]);(go_wp2_with fail);refine(CN _).mono ?_;rintro e wd ⟨rfl,hb⟩;have Hb:=Ja.t hb;have HF:H7 (Va=RB):=(by show _=_;rw[<-HR.o];simp[M.formB,h1,Ea,Fa]);go_wp2;go_ret;exact⟨aB HF.o,Hb.o⟩
  have e1:(l'==1)=false:=(by simp[h1]);by_cases h2:l'=2
  ·
   have e2:(l'==2)=true:=(by simp[h2]);have y0:=Aa.c 0;have y1:=Aa.c 1;have y2:=Aa.c 2;have y3:=Aa.c 3;have y4:=Aa.c 4;have Na:=Aa.c 19;have Oa:=Aa.c 20;have Pa:=Aa.c 21;have Qa:=Aa.c 22;have Ra:=Aa.c 23;have Sa:=Aa.c 24;have Ta:=Aa.c 25;have Ua:=Aa.c 26
   cases wk with
   | false=>
    have HF:H7 (false=RB):=(by show _=_;rw[<-HR.o];simp[M.formB,h2]);go_wp2;go_ret;exact⟨aB HF.o,Ba.o⟩
   | true=>
    by_cases Ea:id=0
    case neg=>
     have gn:(id==0)=false:=(by simp[Ea]);have HF:H7 (false=RB):=(by show _=_;rw[<-HR.o];simp[M.formB,h2,Ea]);go_wp2;go_ret;exact⟨aB HF.o,Ba.o⟩
    have Fb:(id==0)=true:=(by simp[Ea]);by_cases Ha:em=0
    case neg=>
     have gn:(em==0)=false:=(by simp[Ha]);have HF:H7 (false=RB):=(by show _=_;rw[<-HR.o];simp[M.formB,h2,Ea,Ha]);go_wp2;go_ret;exact⟨aB HF.o,Ba.o⟩
    have Kb:(em==0)=true:=(by simp[Ha]);by_cases Ka:i'=0
    case neg=>
     have gn:(i'==0)=false:=(by simp[Ka]);have HF:H7 (false=RB):=(by show _=_;rw[<-HR.o];simp[M.formB,h2,Ea,Ha,Ka]);go_wp2;go_ret;exact⟨aB HF.o,Ba.o⟩
    have Lb:(i'==0)=true:=(by simp[Ka]);(go_wp2_with fail);refine(CN _).mono ?_;rintro e we ⟨rfl,hb⟩;have Ia:=Ba.t hb;have HF:H7 (Va=RB):=(by show _=_;rw[<-HR.o];simp[M.formB,h2,Ea,Ha,Ka]);go_wp2;go_ret;exact⟨aB HF.o,Ia.o⟩
  have e2:(l'==2)=false:=(by simp[h2]);by_cases h3:l'=3
  ·
   have e3:(l'==3)=true:=(by simp[h3]);have y0:=Aa.c 0;have y1:=Aa.c 1;have y2:=Aa.c 2;have y3:=Aa.c 3;have y4:=Aa.c 4;have Na:=Aa.c 19;have Oa:=Aa.c 20;have Pa:=Aa.c 21;have Qa:=Aa.c 22;have Ra:=Aa.c 23;have Sa:=Aa.c 24;have Ta:=Aa.c 25;have Ua:=Aa.c 26
   cases wk with
   | false=>
    have HF:H7 (false=RB):=(by show _=_;rw[<-HR.o];simp[M.formB,h3]);go_wp2;go_ret;exact⟨aB HF.o,Ba.o⟩
   | true=>
    cases Ab with
    | false=>
     have HF:H7 (false=RB):=(by show _=_;rw[<-HR.o];simp[M.formB,h3]);go_wp2;go_ret;exact⟨aB HF.o,Ba.o⟩
    | true=>
     (go_wp2_with fail);refine(CP _).mono ?_;rintro e wz ⟨rfl,Ca⟩;have Ga:=Ca.symm;clear Ca;subst Ga;clear CP
     cases p7 with
     | false=>
      have HF:H7 (false=RB):=(by show _=_;rw[<-HR.o];simp[M.formB,h3]);go_wp2;go_ret;exact⟨aB HF.o,Ba.o⟩
     | true=>
      by_cases Ka:i'=0
      case neg=>
       have gn:(i'==0)=false:=(by simp[Ka]);have HF:H7 (false=RB):=(by show _=_;rw[<-HR.o];simp[M.formB,h3,Ka]);go_wp2;go_ret;exact⟨aB HF.o,Ba.o⟩
      have Lb:(i'==0)=true:=(by simp[Ka]);have HF:H7 (true=RB):=(by show _=_;rw[<-HR.o];simp[M.formB,h3,Ka]);go_wp2;go_ret;exact⟨aB HF.o,Ba.o⟩
  have e3:(l'==3)=false:=(by simp[h3]);by_cases h4:l'=4
  ·
   have e4:(l'==4)=true:=(by simp[h4]);have y0:=Aa.c 0;have y1:=Aa.c 1;have y2:=Aa.c 2;have y3:=Aa.c 3;have y4:=Aa.c 4;have Na:=Aa.c 19;have Oa:=Aa.c 20;have Pa:=Aa.c 21;have Qa:=Aa.c 22;have Ra:=Aa.c 23;have Sa:=Aa.c 24;have Ta:=Aa.c 25;have Ua:=Aa.c 26;by_cases Fa:dC=0
   case neg=>
    have gn:(dC==0)=false:=(by simp[Fa]);have HF:H7 (false=RB):=(by show _=_;rw[<-HR.o];simp[M.formB,h4,Fa]);go_wp2;go_ret;exact⟨aB HF.o,Ba.o⟩
   have Gb:(dC==0)=true:=(by simp[Fa]);by_cases Ea:id=0
   case neg=>
    have gn:(id==0)=false:=(by simp[Ea]);have HF:H7 (false=RB):=(by show _=_;rw[<-HR.o];simp[M.formB,h4,Fa,Ea]);go_wp2;go_ret;exact⟨aB HF.o,Ba.o⟩
   have Fb:(id==0)=true:=(by simp[Ea]);by_cases Ha:em=0
   case neg=>
    have gn:(em==0)=false:=(by simp[Ha]);have HF:H7 (false=RB):=(by show _=_;rw[<-HR.o];simp[M.formB,h4,Fa,Ea,Ha]);go_wp2;go_ret;exact⟨aB HF.o,Ba.o⟩
   have Kb:(em==0)=true:=(by simp[Ha]);(go_wp2_with fail);refine(CT _).mono ?_;rintro e wz ⟨rfl,Ca⟩;have Ga:=Ca.symm;clear Ca;subst Ga;clear CT
   cases mt with
   | false=>
    have HF:H7 (false=RB):=(by show _=_;rw[<-HR.o];simp[M.formB,h4,Fa,Ea,Ha]);go_wp2;go_ret;exact⟨aB HF.o,Ba.o⟩
   | true=>
    (go_wp2_with fail);refine(CN _).mono ?_;rintro e we ⟨rfl,hb⟩;have Ia:=Ba.t hb;have HF:H7 (Va=RB):=(by show _=_;rw[<-HR.o];simp[M.formB,h4,Fa,Ea,Ha]);go_wp2;go_ret;exact⟨aB HF.o,Ia.o⟩
  have e4:(l'==4)=false:=(by simp[h4]);by_cases h5:l'=5
  ·
   have e5:(l'==5)=true:=(by simp[h5]);have y0:=Aa.c 0;have y1:=Aa.c 1;have y2:=Aa.c 2;have y3:=Aa.c 3;have y4:=Aa.c 4;have Na:=Aa.c 19;have Oa:=Aa.c 20;have Pa:=Aa.c 21;have Qa:=Aa.c 22;have Ra:=Aa.c 23;have Sa:=Aa.c 24;have Ta:=Aa.c 25;have Ua:=Aa.c 26;by_cases Fa:dC=0
   case neg=>
    have gn:(dC==0)=false:=(by simp[Fa]);have HF:H7 (false=RB):=(by show _=_;rw[<-HR.o];simp[M.formB,h5,Fa]);go_wp2;go_ret;exact⟨aB HF.o,Ba.o⟩
   have Gb:(dC==0)=true:=by simp[Fa]
   cases Ab with
   | false=>
    have HF:H7 (false=RB):=(by show _=_;rw[<-HR.o];simp[M.formB,h5,Fa]);go_wp2;go_ret;exact⟨aB HF.o,Ba.o⟩
   | true=>
    by_cases Ha:em=0
    case neg=>
     have gn:(em==0)=false:=(by simp[Ha]);have HF:H7 (false=RB):=(by show _=_;rw[<-HR.o];simp[M.formB,h5,Fa,Ha]);go_wp2;go_ret;exact⟨aB HF.o,Ba.o⟩
    have Kb:(em==0)=true:=(by simp[Ha]);by_cases Ka:i'=0
    case neg=>
     have gn:(i'==0)=false:=(by simp[Ka]);have HF:H7 (false=RB):=(by show _=_;rw[<-HR.o];simp[M.formB,h5,Fa,Ha,Ka]);go_wp2;go_ret;exact⟨aB HF.o,Ba.o⟩
    have Lb:(i'==0)=true:=(by simp[Ka]);(go_wp2_with fail);refine(CN _).mono ?_;rintro e we ⟨rfl,hb⟩;have Ia:=Ba.t hb;have HF:H7 (Va=RB):=(by show _=_;rw[<-HR.o];simp[M.formB,h5,Fa,Ha,Ka]);go_wp2;go_ret;exact⟨aB HF.o,Ia.o⟩
  have e5:(l'==5)=false:=(by simp[h5]);have y0:=Aa.c 0;have HF:H7 (false=RB):=(by show _=_;rw[<-HR.o];simp[M.formB,h1,h2,h3,h4,h5]);go_wp2;go_ret;exact⟨aB HF.o,Ba.o⟩
 have Bb:M.formB l' id em dC i' false Xa Ya Za L Va wk Ab p7 mt=RB:=(by have:=Eb.o;rw[show(decide (s1=0)&&decide (s2=0))=false by rw[Bool.eq_false_iff];intro h;rw[xP,decide_eq_true_eq,decide_eq_true_eq]at h;exact hs h]at this;simpa using this);by_cases Ib:s1=0;have Vb:¬ s2=0:=λe=>hs ⟨Ib,e⟩;have q2:(s2==0)=false:=(by simp[Vb]);clear hs;subst Ib;have Cb:=Aa.c 17;have Db:=Aa.c 18;have z0:=Wa.c 0;have z1:=Wa.c 1
 rotate_left
 have q1:(s1==0)=false:=(by simp[Ib]);have Cb:=Aa.c 17;have Db:=Aa.c 18;have z0:=Wa.c 0;have z1:=Wa.c 1
 rotate_left
 have Bb:M.formB l' id em dC i' false Xa Ya Za L Va wk Ab p7 mt=RB:=by have:=Eb.o;simpa using this
 all_goals
  have HR:=Hd Bb;have y3:=Aa.c 3;(go_wp2_with fail);refine(CW _).mono ?_;rintro e wz ⟨rfl,Ca⟩;have Ga:=Ca.symm;clear Ca;subst Ga;have y1:=Aa.c 1;(go_wp2_with fail);refine(CI _).mono ?_;rintro e wz ⟨rfl,Ca⟩;have Ga:=Ca.symm;clear Ca;subst Ga;by_cases h1:l'=1
  ·
   have e1:(l'==1)=true:=(by simp[h1]);have y0:=Aa.c 0;have y5:=Aa.c 5;have y6:=Aa.c 6;have y7:=Aa.c 7;have y8:=Aa.c 8;have y9:=Aa.c 9;have Ob:=Aa.c 10;have Pb:=Aa.c 11;have Qb:=Aa.c 12;have Rb:=Aa.c 13;have Sb:=Aa.c 14;have Tb:=Aa.c 15;have Ub:=Aa.c 16;(go_wp2_with fail);refine(CM _).mono ?_;rintro e wb ⟨rfl,hb⟩;have La:=Aa.b hb;have Ia:=Ba.t hb;clear Aa Wa Ba;clear hb;clear CM
   cases Xa with
   | false=>
    have HF:H7 (false=RB):=(by show _=_;rw[<-HR.o];simp[M.formB,h1]);go_wp2;go_ret;exact⟨aB HF.o,Ia.o⟩
   | true=>
    have Cb:=La.c 17;have Db:=La.c 18;(go_wp2_with fail);refine(CS _).mono ?_;rintro e wc ⟨rfl,hb⟩;have Da:=La.b hb;have Ja:=Ia.t hb;clear La Ia;clear hb;clear CS
    cases Ya with
    | false=>
     have HF:H7 (false=RB):=(by show _=_;rw[<-HR.o];simp[M.formB,h1]);go_wp2;go_ret;exact⟨aB HF.o,Ja.o⟩
    | true=>
     have y2:=Da.c 2;(go_wp2_with fail);refine(CR _).mono ?_;rintro e wz ⟨rfl,Ca⟩;have Ga:=Ca.symm;clear Ca;subst Ga;clear CR
     cases Za with
     | false=>
      have HF:H7 (false=RB):=(by show _=_;rw[<-HR.o];simp[M.formB,h1]);go_wp2;go_ret;exact⟨aB HF.o,Ja.o⟩
     | true=>
      have y4:=Da.c 4;(go_wp2_with fail);refine(C8 _).mono ?_;rintro e wz ⟨rfl,Ca⟩;have Ga:=Ca.symm;clear Ca;subst Ga;clear C8
      cases L with
      | false=>
       have HF:H7 (false=RB):=(by show _=_;rw[<-HR.o];simp[M.formB,h1]);go_wp2;go_ret;exact⟨aB HF.o,Ja.o⟩
      | true=>
       have y1:=Da.c 1;have y3:=Da.c 3;have Na:=Da.c 19;have Oa:=Da.c 20;have Pa:=Da.c 21;have Qa:=Da.c 22;have Ra:=Da.c 23;have Sa:=Da.c 24;have Ta:=Da.c 25;have Ua:=Da.c 26;by_cases Ea:id=0
       case neg=>
        have gn:(id==0)=false:=(by simp[Ea]);have HF:H7 (false=RB):=(by show _=_;rw[<-HR.o];simp[M.formB,h1,Ea]);go_wp2;go_ret;exact⟨aB HF.o,Ja.o⟩
       have Fb:(id==0)=true:=(by simp[Ea]);by_cases Fa:dC=0
       case neg=>
        have gn:(dC==0)=false:=(by simp[Fa]);have HF:H7 (false=RB):=(by show _=_;rw[<-HR.o];simp[M.formB,h1,Ea,Fa]);go_wp2;go_ret;exact⟨aB HF.o,Ja.o⟩
       have Gb:(dC==0)=true:=(by simp[Fa]);(go_wp2_with fail);refine(CN _).mono ?_;rintro e wd ⟨rfl,hb⟩;have Hb:=Ja.t hb;have HF:H7 (Va=RB):=(by show _=_;rw[<-HR.o];simp[M.formB,h1,Ea,Fa]);go_wp2;go_ret;exact⟨aB HF.o,Hb.o⟩
  have e1:(l'==1)=false:=(by simp[h1]);by_cases h2:l'=2
  ·
   have e2:(l'==2)=true:=(by simp[h2]);have y0:=Aa.c 0;have y1:=Aa.c 1;have y2:=Aa.c 2;have y3:=Aa.c 3;have y4:=Aa.c 4;have Na:=Aa.c 19;have Oa:=Aa.c 20;have Pa:=Aa.c 21;have Qa:=Aa.c 22;have Ra:=Aa.c 23;have Sa:=Aa.c 24;have Ta:=Aa.c 25;have Ua:=Aa.c 26;have HF:H7 (false=RB):=(by show _=_;rw[<-HR.o];simp[M.formB,h2]);go_wp2;go_ret;exact⟨aB HF.o,Ba.o⟩
  have e2:(l'==2)=false:=(by simp[h2]);by_cases h3:l'=3
  ·
   have e3:(l'==3)=true:=(by simp[h3]);have y0:=Aa.c 0;have y1:=Aa.c 1;have y2:=Aa.c 2;have y3:=Aa.c 3;have y4:=Aa.c 4;have Na:=Aa.c 19;have Oa:=Aa.c 20;have Pa:=Aa.c 21;have Qa:=Aa.c 22;have Ra:=Aa.c 23;have Sa:=Aa.c 24;have Ta:=Aa.c 25;have Ua:=Aa.c 26;have HF:H7 (false=RB):=(by show _=_;rw[<-HR.o];simp[M.formB,h3]);go_wp2;go_ret;exact⟨aB HF.o,Ba.o⟩
  have e3:(l'==3)=false:=(by simp[h3]);by_cases h4:l'=4
  ·
   have e4:(l'==4)=true:=(by simp[h4]);have y0:=Aa.c 0;have y1:=Aa.c 1;have y2:=Aa.c 2;have y3:=Aa.c 3;have y4:=Aa.c 4;have Na:=Aa.c 19;have Oa:=Aa.c 20;have Pa:=Aa.c 21;have Qa:=Aa.c 22;have Ra:=Aa.c 23;have Sa:=Aa.c 24;have Ta:=Aa.c 25;have Ua:=Aa.c 26;have HF:H7 (false=RB):=(by show _=_;rw[<-HR.o];simp[M.formB,h4]);go_wp2;go_ret;exact⟨aB HF.o,Ba.o⟩
  have e4:(l'==4)=false:=(by simp[h4]);by_cases h5:l'=5
  ·
   have e5:(l'==5)=true:=(by simp[h5]);have y0:=Aa.c 0;have y1:=Aa.c 1;have y2:=Aa.c 2;have y3:=Aa.c 3;have y4:=Aa.c 4;have Na:=Aa.c 19;have Oa:=Aa.c 20;have Pa:=Aa.c 21;have Qa:=Aa.c 22;have Ra:=Aa.c 23;have Sa:=Aa.c 24;have Ta:=Aa.c 25;have Ua:=Aa.c 26;have HF:H7 (false=RB):=(by show _=_;rw[<-HR.o];simp[M.formB,h5]);go_wp2;go_ret;exact⟨aB HF.o,Ba.o⟩
  have e5:(l'==5)=false:=(by simp[h5]);have y0:=Aa.c 0;have HF:H7 (false=RB):=(by show _=_;rw[<-HR.o];simp[M.formB,h1,h2,h3,h4,h5]);go_wp2;go_ret;exact⟨aB HF.o,Ba.o⟩
theorem jQ(i':Int)(w:World):Rt 243 #[.agg #[it i']] w (.bool (M.inB i' 1 1000000000)):=by
 have C1:=cI i' 1 1000000000;unfold M.inB;generalize(decide (1<=i')&&decide (i'<=1000000000))=o at *;have HB:H7 (m1 w (w.alloc (.cells #[it i'] 114))):=(m8 _ _).alloc (m3 _) _;go_enter func243,ntmps243;(go_wp2_with fail);refine(C1 _).mono ?_;rintro e wz ⟨rfl,Aa⟩;have Ba:=Aa.symm;clear Aa;subst Ba;go_wp2;go_ret;exact⟨rfl,HB.o⟩
theorem i4(id:Int)(w:World):Rt 244 #[.agg #[it id]] w (.bool (M.inB id 1 1000000000)):=by
 have C1:=cI id 1 1000000000;unfold M.inB;generalize(decide (1<=id)&&decide (id<=1000000000))=o at *;have HB:H7 (m1 w (w.alloc (.cells #[it id] 116))):=(m8 _ _).alloc (m3 _) _;go_enter func244,ntmps244;(go_wp2_with fail);refine(C1 _).mono ?_;rintro e wz ⟨rfl,Aa⟩;have Ba:=Aa.symm;clear Aa;subst Ba;go_wp2;go_ret;exact⟨rfl,HB.o⟩
theorem jw(who:Int)(w:World):Rt 241 #[.agg #[it who]] w (.bool (M.wkOk who)):=by
 have C1:=eR who
 generalize M.wkOk who=o at *;have HB:H7 (m1 w (w.alloc (.cells #[it who] 110))):=(m8 _ _).alloc (m3 _) _;go_enter func241,ntmps241;(go_wp2_with fail);refine(C1 _).mono ?_;rintro e wz ⟨rfl,Aa⟩;have Ba:=Aa.symm;clear Aa;subst Ba;go_wp2;go_ret;exact⟨rfl,HB.o⟩
theorem i5(who id em p1 p2 p3 p4:Int)(w:World):Rt 242 #[.agg #[it who,it id,it em,it p1,it p2,it p3,it p4,.slice a1 n1 c1,.slice a2 n2 c2,.slice a3 n3 c3,.slice a4 n4 c4]] w (.bool (M.wkOk who&&(M.inB id 1 1000000000&&M.inB em 0 7))):=by
 have C1:=eR who;have C2:=cI id 1 1000000000;have C3:=cI em 0 7;unfold M.inB;generalize M.wkOk who=o1 at *;generalize(decide (1<=id)&&decide (id<=1000000000))=o2 at *;generalize(decide (0<=em)&&decide (em<=7))=o3 at *;have HB:H7 (m1 w (w.alloc (.cells (dt who id em p1 p2 p3 p4 a1 n1 c1 a2 n2 c2 a3 n3 c3 a4 n4 c4).toArray 112))):=(m8 _ _).alloc (m3 _) _;have HL:=cQ w (dt who id em p1 p2 p3 p4 a1 n1 c1 a2 n2 c2 a3 n3 c3 a4 n4 c4) 112;go_enter func242,ntmps242;(go_wp2_with fail);generalize(w.alloc (.cells (dt who id em p1 p2 p3 p4 a1 n1 c1 a2 n2 c2 a3 n3 c3 a4 n4 c4).toArray 112))=wa at *;refine(C1 _).mono ?_;rintro e wz ⟨rfl,Aa⟩;have Ba:=Aa.symm;clear Aa;subst Ba;have x1:=HL.c 1;have x2:=HL.c 2
 cases o1 with
 | false=>
  go_wp2;go_ret;exact⟨rfl,HB.o⟩
 | true=>
  (go_wp2_with fail);refine(C2 _).mono ?_;rintro e wz ⟨rfl,Aa⟩;have Ba:=Aa.symm;clear Aa;subst Ba
  cases o2 with
  | false=>
   go_wp2;go_ret;exact⟨rfl,HB.o⟩
  | true=>
   (go_wp2_with fail);refine(C3 _).mono ?_;rintro e wz ⟨rfl,Aa⟩;have Ba:=Aa.symm;clear Aa;subst Ba;go_wp2;go_ret;exact⟨by simp,HB.o⟩
set_option maxRecDepth 10000 in
theorem i6(m0 I J Q m4 Y m6 m7 L Z B D s1 s2 rows i':Int)(w:World):Rt 240 #[.agg #[it m0,it I,it J,it Q,it m4,it Y,it m6,it m7,it L,it Z,it B,it D,it s1,it s2,it rows,it i']] w (.bool (M.Mc.ok ⟨⟨m0,I,J,Q,m4,Y⟩,⟨m6,m7,L,Z,B,D⟩⟩&&(M.sOk (s1,s2)&&(M.rows rows&&M.inB i' 1 8)))):=by
 have C1:=fz ⟨⟨m0,I,J,Q,m4,Y⟩,⟨m6,m7,L,Z,B,D⟩⟩;have C2:=dL (s1,s2);have C3:=jd rows;have C4:=cI i' 1 8;unfold M.inB;dsimp only[dp,dd]at C1 C2;generalize M.Mc.ok ⟨⟨m0,I,J,Q,m4,Y⟩,⟨m6,m7,L,Z,B,D⟩⟩=o1 at *;generalize M.sOk (s1,s2)=o2 at *;generalize M.rows rows=o3 at *;generalize(decide (1<=i')&&decide (i'<=8))=o4 at *;have HB:H7 (m1 w (w.alloc (.cells (fi m0 I J Q m4 Y m6 m7 L Z B D s1 s2 rows i').toArray 108))):=(m8 _ _).alloc (m3 _) _;have HL:=cQ w (fi m0 I J Q m4 Y m6 m7 L Z B D s1 s2 rows i') 108;go_enter func240,ntmps240;(go_wp2_with fail);generalize(w.alloc (.cells (fi m0 I J Q m4 Y m6 m7 L Z B D s1 s2 rows i').toArray 108))=wa at *;refine(C1 _).mono ?_;rintro e wb ⟨rfl,hb⟩;have Ba:=HL.b hb;have Ca:=HB.t hb;clear hb HL HB;have Ga:=Ba.c 12;have Ha:=Ba.c 13
 cases o1 with
 | false=>
  go_wp2;go_ret;exact⟨rfl,Ca.o⟩
 | true=>
  (go_wp2_with fail);refine(C2 _).mono ?_;rintro e wc ⟨rfl,hb⟩;have Fa:=Ba.b hb;have Da:=Ca.t hb;clear hb Ba Ca Ga Ha;have Ia:=Fa.c 14;have Ja:=Fa.c 15
  cases o2 with
  | false=>
   go_wp2;go_ret;exact⟨rfl,Da.o⟩
  | true=>
   (go_wp2_with fail);refine(C3 _).mono ?_;rintro e wz ⟨rfl,Aa⟩;have Ea:=Aa.symm;clear Aa;subst Ea
   cases o3 with
   | false=>
    go_wp2;go_ret;exact⟨rfl,Da.o⟩
   | true=>
    (go_wp2_with fail);refine(C4 _).mono ?_;rintro e wz ⟨rfl,Aa⟩;have Ea:=Aa.symm;clear Aa;subst Ea;go_wp2;go_ret;exact⟨by simp,Da.o⟩
end Go.Proofs.YtbjalickbnpnkaaGreatDoor
