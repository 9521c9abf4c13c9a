import Derived.Maps.AppendAt
import Derived.Test.YtfhknkppiidnkaaGreatPk03
import Derived.Test.YtfhknkppiidnkaaGreatPk05
import Derived.Test.YtfhknkppiidnkaaGreatPk00
import Derived.Test.YtfhknkppiidnkaaGreatPk01
namespace Go.Proofs.YtfhknkppiidnkaaGreat
open Go.RowKit
set_option maxHeartbeats 32000000
set_option maxRecDepth 10000
theorem grown_setCell (w:World) (p:Addr) (v:Value):w.grownBy (w.setCell p v) (some p.block):=
 ⟨rfl,rfl,rfl,by simp [World.setCell],fun i _ hi=>by
  have he:p.block≠i:=fun e=>hi (by rw [e]);simp [World.setCell,Array.getElem?_modify,he]⟩
theorem grown_of_belowN {w w':World} (hb:Below w.heap.size w w') (row:Option Nat):w.grownBy w' row:=⟨hb.os,hb.tape,hb.output,hb.size,fun k hk _=>hb.block k hk⟩
theorem below_of_grown {w w':World} {row:Option Nat} {B:Nat} (h:w.grownBy w' row) (hB:B≤w.heap.size) (hr:∀ z,row=some z→B≤z):Below B w w':=
 ⟨h.os,h.tape,h.output,h.size,fun k hk=>h.block k (Nat.lt_of_lt_of_le hk hB) (fun e=>absurd (hr k e.symm) (by omega))⟩
theorem step_append_at {P:Program} {ops:Array Oper} {o:Oper} {a:Act} {w:World} {K:Act→World→Prop} {Q:Exit→Act→World→Prop} {E:Prop}
  (hg:o.guard=none) (s x:Operand) (t:TypeId) (hop:o.op=Op.call { callee:=Callee.builtin Builtin.append,args:=#[s,x],argTypes:=#[t,t] })
  (base:Nat) (e:TypeId) (i:TypeInfo) (z:Value) (size bytes:Nat) (ht:P.underlying t=some (.slice e)) (hi:P.info? e=some i) (hz:i.zero=some z) (hsize:i.size=size) (hby:i.bytes=bytes) (hzs:z.cells.size=size) (hsz:0<size)
  (v:Value) (n:Nat) (xs:List Value) (hs:a.eval s=v) (hown:w.ownsRow base e size v n xs) (ad:Addr) (m c:Nat) (news:List Value) (hx:a.eval x=.slice (some ad) m c) (hl:news.length=m*size) (hnews:∀ j u,news[j]? = some u→w.cell? (ad.add j)=some u) (h1:∀ u∈news,u.oneCell'=true)
  (h63:n+m≤maxLen) (hbytes:(n+m)*bytes≤140737488355328) (hbase:base≤w.heap.size)
  (hK:∀ v' w',w'.ownsRow base e size v' (n+m) (xs++news)→w.grownBy w' v.ownBlock→(v'.ownBlock=v.ownBlock∨v'.ownBlock=some w.heap.size)→K (a.put o.dst v') w') :
  if Region.wanted o (yielded ops a.tmps)=true then Oper.wp P o a w K Q else E:=by
 have hw:Region.wanted o (yielded ops a.tmps)=true:=(by simp [Region.wanted,hg]);rw [if_pos hw];obtain ⟨v',w',Aa,r1,r2,_,r4⟩:=run_append_own_at (P:=P) w base t o.type e i z size bytes ht hi hz hsize hby hzs hsz v n xs hown ad m c news hl hnews h1 h63 hbytes hbase;unfold Oper.wp;simp [execOp,hop,resolve,invoke,builtin,hs,hx,Aa,Result.andThen];exact hK v' w' r1 r2 r4
def ob : Option Addr→List Nat
 | none=>[]
 | some x=>[x.block]
theorem own_ob {a:Option Addr} {n c g:Nat} (h:(Value.slice a n c).ownBlock=some g):g∈ob a:=by
 cases a with
 | none=>simp [Value.ownBlock] at h
 | some x=>simp [Value.ownBlock] at h;simp [ob,h]
theorem ob_own {a:Option Addr} {n c g:Nat} (h:g∈ob a):(Value.slice a n c).ownBlock=some g:=by
 cases a with
 | none=>simp [ob] at h
 | some x=>simp [ob] at h;simp [Value.ownBlock,h]
def OwnsT (w:World) (base:Nat) (a:Option Addr) (n c:Nat) (ts:List M.Tk):Prop:=ts.length=n∧w.ownsRow base 74 3 (.slice a n c) n (ts.flatMap tvs)
theorem OwnsT.grown {w w':World} {base:Nat} {a:Option Addr} {n c:Nat} {ts:List M.Tk} {row:Option Nat} (h:OwnsT w base a n c ts) (hg:w.grownBy w' row) (hr:∀ g∈ob a,row≠some g):OwnsT w' base a n c ts:=by
 refine ⟨h.1,h.2.kept hg ?_⟩
 cases e:(Value.slice a n c).ownBlock with
 | none=>exact .inl rfl
 | some g=>exact .inr (fun e2=>hr g (own_ob e) e2.symm)
theorem OwnsT.lt {w:World} {base:Nat} {a:Option Addr} {n c:Nat} {ts:List M.Tk} (h:OwnsT w base a n c ts):∀ g∈ob a,base≤g∧g<w.heap.size:=fun g hg=>World.ownsRow.lt h.2 g (ob_own hg)
theorem OwnsT.sees {w:World} {base:Nat} {a:Option Addr} {n c:Nat} {ts:List M.Tk} (h:OwnsT w base a n c ts):SeesT w a n c ts:=by
 obtain ⟨hl,h1,h2⟩:=h;have hx:w.ownsRow base 74 3 (.slice a n c) n (ts.flatMap tvs):=⟨h1,h2⟩
 rcases h2 with ⟨e,h0⟩ | ⟨g,cap,cur,e,hb,hh,hn,hm,hs,ht⟩
 ·
  simp only [Value.slice.injEq] at e;obtain ⟨rfl,rfl,rfl⟩:=e;exact ⟨hl,Nat.le_refl _,by decide,fun _=>⟨rfl,rfl⟩,.inl rfl⟩
 ·
  simp only [Value.slice.injEq,true_and] at e;obtain ⟨rfl,rfl⟩:=e;refine ⟨hl,hn,by unfold maxLen at hm;omega,fun e=>by simp at e,?_⟩;refine .inr ⟨g,0,rfl,fun i hi j hj=>?_⟩;rw [Nat.zero_add,World.ownsRow.cellAt hx (i*3+j) (by omega),flat_get tvs_len M.t0 ts (by omega) hj]
theorem OwnsT.form {w:World} {base n:Nat} {v:Value} {ts:List M.Tk} (hl:ts.length=n) (h:w.ownsRow base 74 3 v n (ts.flatMap tvs)):∃ a cap,v=.slice a n cap∧OwnsT w base a n cap ts:=by
 rcases h.2 with ⟨rfl,rfl⟩ | ⟨g,cap,cur,rfl,_⟩
 · exact ⟨none,0,rfl,hl,h⟩
 · exact ⟨_,cap,rfl,hl,h⟩
structure HJ where
 j:M.Jb
 b:Nat
 a:Option Addr
 c:Nat
def HJ.vs (q:HJ):List Value:=jvs q.j q.a q.c
def HJ.ent (q:HJ):Int×Value:=(q.j.id,.pointer (some ⟨q.b,0,none⟩))
def HJ.bl (q:HJ):List Nat:=q.b::ob q.a
def HallJ (w:World) (base:Nat) (qs:List HJ):Prop:=∀ q∈qs,Lies w q.b q.vs∧OwnsT w base q.a q.j.ts.length q.c q.j.ts
theorem HallJ.grown {w w':World} {base:Nat} {qs:List HJ} {row:Option Nat} (h:HallJ w base qs) (hg:w.grownBy w' row) (hr:∀ g∈qs.flatMap HJ.bl,row≠some g):HallJ w' base qs:=fun q hq=>by
 have hm:∀ g∈q.bl,row≠some g:=fun g hg=>hr g (List.mem_flatMap.2 ⟨q,hq,hg⟩);exact ⟨(h q hq).1.grown hg (hm q.b (by simp [HJ.bl])),(h q hq).2.grown hg fun g hg=>hm g (by simp [HJ.bl,hg])⟩
def bls (h mb:Nat) (ab ai:Option Addr) (qs:List HJ):List Nat:=h::mb::(ob ab++(ob ai++qs.flatMap HJ.bl))
structure Hall (w : World) (base h : Nat) (now next : Int) (ab : Option Addr) (nb cb : Nat) (bs : List Int) (ai : Option Addr) (ni ci : Nat) (mb : Nat) (qs : List HJ) : Prop where
 l:Lies w h [.int .i64 now,.int .i64 next,.slice ab nb cb,.slice ai ni ci,.map (some mb)]
 b:Owns 2 w base ab nb cb bs
 i:Owns 2 w base ai ni ci (qs.map (·.j.id))
 m:IsMap w mb (qs.map HJ.ent)
 j:HallJ w base qs
 d:(bls h mb ab ai qs).Nodup
 lo:∀ g∈bls h mb ab ai qs,base≤g
theorem Owns.grown {w w':World} {base:Nat} {a:Option Addr} {n c:Nat} {zs:List Int} {row:Option Nat} {t:TypeId} (h:Owns t w base a n c zs) (hg:w.grownBy w' row) (hr:∀ g∈ob a,row≠some g):Owns t w' base a n c zs:=by
 refine World.ownsRow.kept h hg ?_
 cases e:(Value.slice a n c).ownBlock with
 | none=>exact .inl rfl
 | some g=>exact .inr (fun e2=>hr g (own_ob e) e2.symm)
section
variable {w w' : World} {base h : Nat} {now next : Int} {ab : Option Addr} {nb cb : Nat} {bs : List Int} {ai : Option Addr} {ni ci : Nat} {mb : Nat} {qs : List HJ}
theorem Hall.grown {row:Option Nat} (H:Hall w base h now next ab nb cb bs ai ni ci mb qs) (hg:w.grownBy w' row) (hr:∀ g∈bls h mb ab ai qs,row≠some g):Hall w' base h now next ab nb cb bs ai ni ci mb qs:=
 ⟨H.l.grown hg (hr h (by simp [bls])),H.b.grown hg fun g hg=>hr g (by simp [bls,hg]),H.i.grown hg fun g hg=>hr g (by simp [bls,hg]),H.m.grown hg (hr mb (by simp [bls])),H.j.grown hg fun g hg=>hr g (by unfold bls;simp only [List.mem_cons,List.mem_append];exact .inr (.inr (.inr (.inr hg)))),H.d,H.lo⟩
theorem Hall.below (H:Hall w base h now next ab nb cb bs ai ni ci mb qs) (hb:Below w.heap.size w w'):Hall w' base h now next ab nb cb bs ai ni ci mb qs:=H.grown (grown_of_belowN hb none) (fun _ _=>by simp)
theorem Hall.lt (H:Hall w base h now next ab nb cb bs ai ni ci mb qs):∀ g∈bls h mb ab ai qs,g<w.heap.size:=by
 intro g hg;unfold bls at hg;simp only [List.mem_cons,List.mem_append] at hg
 rcases hg with rfl | rfl | hg | hg | hg
 · exact H.l.2.2
 · exact H.m.lt
 · exact (World.ownsRow.lt H.b g (ob_own hg)).2
 · exact (World.ownsRow.lt H.i g (ob_own hg)).2
 ·
  obtain ⟨q,hq,hg⟩:=List.mem_flatMap.1 hg;simp only [HJ.bl,List.mem_cons] at hg
  rcases hg with rfl | hg
  · exact (H.j q hq).1.2.2
  · exact ((H.j q hq).2.lt g hg).2
theorem bls_nodup : (bls h mb ab ai qs).Nodup↔(h≠mb∧h∉ob ab∧h∉ob ai∧h∉qs.flatMap HJ.bl)∧(mb∉ob ab∧mb∉ob ai∧mb∉qs.flatMap HJ.bl)∧(∀ g∈ob ab,g∉ob ai∧g∉qs.flatMap HJ.bl)∧(∀ g∈ob ai,g∉qs.flatMap HJ.bl)∧(qs.flatMap HJ.bl).Nodup:=by
 have h1:∀ a:Option Addr,(ob a).Nodup:=fun a=>by cases a <;> simp [ob]
 unfold bls;rw [List.nodup_cons,List.nodup_cons,List.nodup_append,List.nodup_append];simp only [List.mem_cons,List.mem_append,not_or]
 constructor
 ·
  rintro ⟨⟨a1,a2,a3,a4⟩,⟨b2,b3,b4⟩,_,⟨_,c1,c2⟩,c3⟩;exact ⟨⟨a1,a2,a3,a4⟩,⟨b2,b3,b4⟩,fun g hg=>⟨fun e=>c3 g hg g (.inl e) rfl,fun e=>c3 g hg g (.inr e) rfl⟩,fun g hg e=>c2 g hg g e rfl,c1⟩
 ·
  rintro ⟨⟨a1,a2,a3,a4⟩,⟨b2,b3,b4⟩,c3,c2,c1⟩;exact ⟨⟨a1,a2,a3,a4⟩,⟨b2,b3,b4⟩,h1 _,⟨h1 _,c1,fun g hg g' hg' e=>c2 g hg (e ▸ hg')⟩,fun g hg g' hg' e=>hg'.elim (fun x=>(c3 g hg).1 (e ▸ x)) (fun x=>(c3 g hg).2 (e ▸ x))⟩
end
theorem cutK {P G:Prop} (f:Key P→G) (h:P):G:=f ⟨h⟩
theorem Hall.entered {w1 w7 w8 w9:World} {base h:Nat} {now next:Int} {ab:Option Addr} {nb cb:Nat} {bs:List Int} {ai:Option Addr} {ni ci:Nat} {mb:Nat} {qs:List HJ} (H:Hall w1 base h now next ab nb cb bs ai ni ci mb qs) (q:HJ)
  (hJ:Lies w1 q.b q.vs) (hT:OwnsT w1 base q.a q.j.ts.length q.c q.j.ts) (hqb:q.b∉bls h mb ab ai qs) (hqa:∀ g∈ob q.a,g∉bls h mb ab ai qs) (hqq:q.b∉ob q.a) (hql:base≤q.b)
  {ai':Option Addr} {ci' z:Nat} (g7:w1.grownBy w7 (Value.slice ai ni ci).ownBlock) (o7:Owns 2 w7 base ai' (ni+1) ci' (qs.map (fun q:HJ=>q.j.id)++[q.j.id])) (hz:w1.heap.size≤z)
  (a7:(Value.slice ai' (ni+1) ci').ownBlock=(Value.slice ai ni ci).ownBlock∨(Value.slice ai' (ni+1) ci').ownBlock=some z)
  (g8:w7.grownBy w8 (some h)) (l8:Lies w8 h [.int .i64 now,.int .i64 next,.slice ab nb cb,.slice ai' (ni+1) ci',.map (some mb)]) (g9:w8.grownBy w9 (some mb)) (m9:IsMap w9 mb (qs.map HJ.ent++[q.ent])) :
  Hall w9 base h now next ab nb cb bs ai' (ni+1) ci' mb (qs++[q]):=by
 obtain ⟨⟨hm,Ea,Fa,Ga⟩,⟨Ha,Ia,Ja⟩,Da,Ka,Na⟩:=bls_nodup.1 H.d;have Oa:=H.lt;have sj:∀ {g},g∈qs.flatMap HJ.bl→g∈bls h mb ab ai qs:=fun {g} hg=>by unfold bls;simp only [List.mem_cons,List.mem_append];exact .inr (.inr (.inr (.inr hg)))
 have sb:∀ {g},g∈ob ab→g∈bls h mb ab ai qs:=fun {g} hg=>by simp [bls,hg]
 have si:∀ {g},g∈ob ai→g∈bls h mb ab ai qs:=fun {g} hg=>by simp [bls,hg]
 have sh:h∈bls h mb ab ai qs:=(by simp [bls]);have sm:mb∈bls h mb ab ai qs:=by simp [bls]
 have ha:∀ {g},g∈ob ai'→g∈ob ai∨w1.heap.size≤g:=fun {g} hg=>by
  have e:=ob_own (n:=ni+1) (c:=ci') hg
  rcases a7 with e2 | e2
  · exact .inl (own_ob (e2.symm.trans e))
  · rw [e2] at e;injection e with e;exact .inr (by omega)
 have Ba:∀ {g},g∈bls h mb ab ai qs→g∉ob ai→g∉ob ai':=fun {g} hg hn hi=>by
  rcases ha hi with h1 | h1
  · exact hn h1
  · have:=Oa g hg;omega
 have Ra:q.b<w1.heap.size:=hJ.2.2;have Pa:∀ g∈ob q.a,g<w1.heap.size:=fun g hg=>(hT.lt g hg).2;have Aa:∀ {a b:Nat},a≠b→some a≠some b:=fun hne e=>hne (Option.some.inj e);have n7:∀ {g},g∉ob ai→(Value.slice ai ni ci).ownBlock≠some g:=fun hn e=>hn (own_ob e);have Ca:∀ {x g:Nat},x∈bls h mb ab ai qs→g∉bls h mb ab ai qs→x≠g:=fun hx hg e=>hg (e ▸ hx);have qi:q.b∉ob ai':=fun hi=>(ha hi).elim (fun h1=>hqb (si h1)) (fun h1=>by omega);have Qa:∀ g∈ob q.a,g∉ob ai':=fun g hg hi=>(ha hi).elim (fun h1=>hqa g hg (si h1)) (fun h1=>by have:=Pa g hg;omega);have fm:∀ {g},g∈(qs++[q]).flatMap HJ.bl↔g∈qs.flatMap HJ.bl∨g=q.b∨g∈ob q.a:=fun {g}=>by simp [List.flatMap_append,HJ.bl]
 refine ⟨l8.grown g9 (Aa hm.symm),?_,?_,?_,?_,?_,?_⟩
 · exact ((H.b.grown g7 fun g hg=>n7 (Da g hg).1).grown g8 fun g hg=>Aa fun e=>Ea (e ▸ hg)).grown g9 fun g hg=>Aa fun e=>Ha (e ▸ hg)
 ·
  rw [List.map_append];exact (o7.grown g8 fun g hg=>Aa fun e=>Ba sh Fa (e ▸ hg)).grown g9 fun g hg=>Aa fun e=>Ba sm Ia (e ▸ hg)
 · rw [List.map_append];exact m9
 ·
  intro x hx
  rcases List.mem_append.1 hx with hx | hx
  ·
   have:=((H.j.grown g7 fun g hg=>n7 fun e=>Ka g e hg).grown g8 fun g hg=>Aa fun e=>Ga (e ▸ hg)).grown g9 fun g hg=>Aa fun e=>Ja (e ▸ hg);exact this x hx
  ·
   simp only [List.mem_singleton] at hx;subst hx;exact ⟨((hJ.grown g7 (n7 fun e=>hqb (si e))).grown g8 (Aa (Ca sh hqb))).grown g9 (Aa (Ca sm hqb)),((hT.grown g7 fun g hg=>n7 fun e=>hqa g hg (si e)).grown g8 fun g hg=>Aa (Ca sh (hqa g hg))).grown g9 fun g hg=>Aa (Ca sm (hqa g hg))⟩
 ·
  refine bls_nodup.2 ⟨⟨hm,Ea,Ba sh Fa,fun e=>?_⟩,⟨Ha,Ba sm Ia,fun e=>?_⟩,fun g hg=>⟨Ba (sb hg) (Da g hg).1,fun e=>?_⟩,fun g hg e=>?_,?_⟩
  ·
   rcases fm.1 e with e | e | e
   · exact Ga e
   · exact Ca sh hqb e
   · exact hqa _ e sh
  ·
   rcases fm.1 e with e | e | e
   · exact Ja e
   · exact Ca sm hqb e
   · exact hqa _ e sm
  ·
   rcases fm.1 e with e | e | e
   · exact (Da g hg).2 e
   · exact hqb (e ▸ sb hg)
   · exact hqa _ e (sb hg)
  ·
   rcases fm.1 e with e | e | e
   · exact Ba (sj e) (fun h1=>Ka g h1 e) hg
   · exact qi (e ▸ hg)
   · exact Qa g e hg
  ·
   rw [List.flatMap_append,List.nodup_append];refine ⟨Na,?_,?_⟩
   ·
    have h1:(ob q.a).Nodup:=(by cases q.a <;> simp [ob]);simp only [List.flatMap_cons,List.flatMap_nil,List.append_nil,HJ.bl,List.nodup_cons];exact ⟨hqq,h1⟩
   ·
    intro g hg g' La e;subst e;simp only [List.flatMap_cons,List.flatMap_nil,List.append_nil,HJ.bl,List.mem_cons] at La
    rcases La with e | e
    · exact hqb (e ▸ sj hg)
    · exact hqa _ e (sj hg)
 ·
  intro g hg;unfold bls at hg;simp only [List.mem_cons,List.mem_append] at hg
  rcases hg with rfl | rfl | hg | hg | hg
  · exact H.lo _ sh
  · exact H.lo _ sm
  · exact H.lo _ (sb hg)
  · exact (World.ownsRow.lt o7 g (ob_own hg)).1
  ·
   rcases fm.1 hg with e | e | e
   · exact H.lo _ (sj e)
   · exact e ▸ hql
   · exact (hT.lt g e).1
theorem look_ents (id:Int):∀ qs:List HJ,look id (qs.map HJ.ent)=(qs.find? (fun q=>id == q.j.id)).map fun q=>.pointer (some ⟨q.b,0,none⟩)
 | []=>rfl
 | q::qs=>by
  rw [List.map_cons,List.find?_cons];show (if id=q.j.id then _ else _)=_;by_cases e:id=q.j.id
  · rw [if_pos e,show (id == q.j.id)=true by simp [e]];rfl
  · rw [if_neg e,show (id == q.j.id)=false by simp [e]];exact look_ents id qs
theorem enter_any {base h:Nat} {now next:Int} {ab:Option Addr} {nb cb:Nat} {bs:List Int} {ai:Option Addr} {ni ci:Nat} {mb:Nat} {qs:List HJ} (jq:M.Jb) (ta:Option Addr) (tc:Nat) (w:World)
  (H:Hall w base h now next ab nb cb bs ai ni ci mb qs) (hn:∀ q∈qs,q.j.id≠jq.id) (hT:OwnsT w base ta jq.ts.length tc jq.ts) (hd:∀ g∈ob ta,g∉bls h mb ab ai qs) (hb0:base≤w.heap.size) (hni:ni≤1000) :
  Calls Tryz.prog 85 #[.pointer (some ⟨h,0,none⟩),.agg (jvs jq ta tc).toArray] w fun e w'=>e=.returned (.tuple #[])∧∃ ai' ci',Hall w' base h now next ab nb cb bs ai' (ni+1) ci' mb (qs++[⟨jq,w.heap.size,ta,tc⟩])∧Below base w w':=by
 have HH:H9 (Hall w base h now next ab nb cb bs ai ni ci mb qs):=H;have HN:=Hd (hn);have HT:H9 (OwnsT w base ta jq.ts.length tc jq.ts):=hT;have HD:=Hd (hd)
 have HI:H9 (∃ i0,Tryz.prog.info? 2 = some i0∧i0.zero=some (it 0)∧i0.size=1∧i0.bytes=8):=by
  obtain ⟨i0,h1,h2,h3,h4⟩:=info_parts info_i64;exact ⟨i0,h1,h2,h3,h4⟩
 clear H hn hT hd;obtain ⟨Aa,⟨⟨a,b,c',d,f,k⟩,⟨a',b',Ba,d',f',k'⟩⟩,⟨s1,s2⟩,jr,jg,tl⟩:=jq;dsimp only [jvs] at HT HN ⊢;generalize Na:tl.length=tn at HT ⊢;have Oa:=Hd (Na);clear Na;go_enter Tryz.func85,Tryz.ntmps85;have Ga:=lnw w (v0' Aa a b c' d f k a' b' Ba d' f' k' s1 s2 jr jg ta tn tc) 44;have Ca:H9 (Hall (w.alloc (.cells (v0' Aa a b c' d f k a' b' Ba d' f' k' s1 s2 jr jg ta tn tc).toArray 44)) base h now next ab nb cb bs ai ni ci mb qs):=HH.o.below ((Below.refl _ _).alloc (Nat.le_refl _) _);have Pa:H9 (OwnsT (w.alloc (.cells (v0' Aa a b c' d f k a' b' Ba d' f' k' s1 s2 jr jg ta tn tc).toArray 44)) base ta tn tc tl):=HT.o.grown (World.grownBy_alloc w _ none) (fun _ _=>by simp);have Qa:H9 (Below w.heap.size w (w.alloc (.cells (v0' Aa a b c' d f k a' b' Ba d' f' k' s1 s2 jr jg ta tn tc).toArray 44))):=(Below.refl _ _).alloc (Nat.le_refl _) _;have Ra:H9 ((w.alloc (.cells (v0' Aa a b c' d f k a' b' Ba d' f' k' s1 s2 jr jg ta tn tc).toArray 44)).heap.size=w.heap.size+1):=(by show _=_;simp);(go_wp2_with fail);generalize (w.alloc (.cells (v0' Aa a b c' d f k a' b' Ba d' f' k' s1 s2 jr jg ta tn tc).toArray 44))=w1 at Ga Ca Pa Qa Ra ⊢;have h3:w1.cell? ⟨h,3,none⟩=some (.slice ai ni ci):=Ca.o.l.at 3;have j0:=Ga.o.c 0 rfl;have Ja:H9 (∀ g∈bls h mb ab ai qs,g<w.heap.size):=HH.o.lt;have Ha:H9 (base≤w1.heap.size):=(by show _≤_;rw [Ra.o];omega);obtain ⟨i0,hi,Bb,Cb,Db⟩:=HI.o;have Rb:(w1.alloc (.cells #[it Aa] 2)).cell? ⟨h,3,none⟩=some (.slice ai ni ci):=(Ca.o.l.alloc _).at 3;have Ea:=bls_nodup.1 HH.o.d;have Eb:H9 (h∉ob ai):=Ea.1.2.2.1;have Fb:H9 (∀ g∈ob ai,g≠w.heap.size):=fun g hg=>by have:=Ja.o g (by simp [bls,hg]);omega
 clear Ea;apply cutK
 case f =>
  intro key
  go_region_law (refine step_append_at rfl (.tmp 8) (.tmp 11) 24 rfl base 2 i0 (it 0) 1 8 Tryz.underlying24 hi Bb Cb Db rfl (by decide) (.slice ai ni ci) ni ((qs.map (fun q:HJ=>q.j.id)).map (Value.int .i64)) (by simp [Act.eval]) (World.ownsRow.drew (World.ownsRow.alloc Ca.o.i _)) ⟨w1.heap.size,0,none⟩ 1 1 [it Aa] (by simp [Act.eval]) rfl (cell_one w1 Aa _) (one_int Aa) (by unfold maxLen;omega) (by omega) (by simp;exact Nat.le_succ_of_le Ha.o) ?_;intro v' w7 Sa Ta Ua;have hown':w7.ownsRow base 2 1 v' (ni+1) (((qs.map (fun q:HJ=>q.j.id))++[Aa]).map (Value.int .i64)):=(by rw [List.map_append];exact Sa);obtain ⟨ai',ci',rfl,ho⟩:=Owns.form hown';have Va:H9 (Owns 2 w7 base ai' (ni+1) ci' ((qs.map (fun q:HJ=>q.j.id))++[Aa])):=ho;have Da:H9 (w1.grownBy w7 (Value.slice ai ni ci).ownBlock):=((World.grownBy_alloc w1 _ _).trans (grown_drew _ _)).trans Ta;have Wa:H9 ((Value.slice ai' (ni+1) ci').ownBlock=(Value.slice ai ni ci).ownBlock∨(Value.slice ai' (ni+1) ci').ownBlock=some (w1.heap.size+1)):=(show _∨_ by simpa using Ua);have Ia:H9 (Lies w7 h [it now,it next,.slice ab nb cb,.slice ai ni ci,.map (some mb)]):=Ca.o.l.grown Da.o (fun e=>Eb.o (own_ob e));have c3:=Ia.o.c 3 rfl;have f3:w7.frozen? ⟨h,3,none⟩=false:=Ia.o.fr 3;clear Sa hown' Ta Ua ho)
  all_goals
   clear c3 f3;revert w7 ai' ci';exact key.out
 case h =>
  intro w7 ai' ci' Va Da Wa Ia;have Ka:H9 (Lies (w7.setCell ⟨h,3,none⟩ (.slice ai' (ni+1) ci')) h [it now,it next,.slice ab nb cb,.slice ai' (ni+1) ci',.map (some mb)]):=Ia.o.set 3 (by simp) _;have Fa:H9 (w7.grownBy (w7.setCell ⟨h,3,none⟩ (.slice ai' (ni+1) ci')) (some h)):=grown_setCell _ _ _;generalize w7.setCell ⟨h,3,none⟩ (.slice ai' (ni+1) ci')=w8 at Ka Fa ⊢;(go_wp2_with fail);have Ea:=bls_nodup.1 HH.o.d;have Gb:H9 (IsMap w8.drew mb (qs.map HJ.ent)):=show IsMap w8 mb _ from ((Ca.o.m.grown Da.o (fun e=>Ea.2.1.2.1 (own_ob e))).grown Fa.o (fun e=>Ea.1.1 (Option.some.inj e)));have Hb:H9 (Lies w8 w.heap.size (v0' Aa a b c' d f k a' b' Ba d' f' k' s1 s2 jr jg ta tn tc)):=(Ga.o.grown Da.o (fun e=>Fb.o _ (own_ob e) rfl)).grown Fa.o (fun e=>by have:=Ja.o h (by simp [bls]);have:=Option.some.inj e;omega);obtain ⟨w9,Sb,Xa,Ya⟩:=Gb.o.put (P:=Tryz.prog) (t:=104) Tryz.underlying104 Tryz.underlying2 Aa (.pointer (some ⟨w.heap.size,0,none⟩)) (by rw [look_ents,List.find?_eq_none.2 (fun q hq=>by simpa using fun e=>HN.o q hq e.symm)];rfl);have Ib:=Hd (Xa);have Za:H9 (w8.grownBy w9 (some mb)):=(grown_drew _ _).trans Ya;clear Xa Ya Ea;have h4:=Ka.o.c 4 rfl;have j8:=Hb.o.c 0 rfl;apply cutK
  case f =>
   intro key
   go_region_law (fail)
   all_goals exact key.out
  case h =>
   have Kb:OwnsT w1 base ta tl.length tc tl:=(by rw [Oa.o];exact Pa.o);have Lb:Lies w1 w.heap.size (jvs ⟨Aa,⟨⟨a,b,c',d,f,k⟩,⟨a',b',Ba,d',f',k'⟩⟩,(s1,s2),jr,jg,tl⟩ ta tc):=(by have:=Ga.o;rw [← Oa.o] at this;exact this);have Nb:w.heap.size∉bls h mb ab ai qs:=fun e=>by have:=Ja.o _ e;omega
   have Ob:w.heap.size∉ob ta:=fun e=>by have:=(HT.o.lt _ e).2;omega
   have HF:=Ca.o.entered ⟨⟨Aa,⟨⟨a,b,c',d,f,k⟩,⟨a',b',Ba,d',f',k'⟩⟩,(s1,s2),jr,jg,tl⟩,w.heap.size,ta,tc⟩ Lb Kb Nb HD.o Ob hb0 Da.o Va.o (Nat.le_succ _) Wa.o Fa.o Ka.o Za.o Ib.o;have La:=Ca.o.lo;have Ab:=Da.o.size;have Pb:=Fa.o.size;have Qb:Below base w w9:=(Qa.o.mono hb0).trans ((below_of_grown Da.o Ha.o (fun z e=>La z (by simp [bls,own_ob e]))).trans ((below_of_grown Fa.o (Nat.le_trans Ha.o Ab) (fun z e=>La z (by simp [bls,Option.some.inj e]))).trans (below_of_grown Za.o (Nat.le_trans Ha.o (Nat.le_trans Ab Pb)) (fun z e=>La z (by simp [bls,Option.some.inj e])))));exact bodyPost_end (v:=.tuple #[]) (by simp [results,Tryz.results85,go_sem]) rfl ⟨rfl,ai',ci',HF,Qb⟩
theorem step_append_opt {P:Program} {ops:Array Oper} {o:Oper} {a:Act} {w:World} {K:Act→World→Prop} {Q:Exit→Act→World→Prop} {E:Prop}
  (hg:o.guard=none) (s x:Operand) (t:TypeId) (hop:o.op=Op.call { callee:=Callee.builtin Builtin.append,args:=#[s,x],argTypes:=#[t,t] })
  (base:Nat) (e:TypeId) (i:TypeInfo) (z:Value) (size bytes:Nat) (ht:P.underlying t=some (.slice e)) (hi:P.info? e=some i) (hz:i.zero=some z) (hsize:i.size=size) (hby:i.bytes=bytes) (hzs:z.cells.size=size) (hsz:0<size)
  (v:Value) (n:Nat) (xs:List Value) (hs:a.eval s=v) (hown:w.ownsRow base e size v n xs) (ao:Option Addr) (m c:Nat) (news:List Value) (hx:a.eval x=.slice ao m c) (hl:news.length=m*size) (hnone:ao=none→m=0∧c=0)
  (hnews:∀ ad,ao=some ad→∀ j u,news[j]? = some u→w.cell? (ad.add j)=some u) (h1:∀ u∈news,u.oneCell'=true)
  (h63:n+m≤maxLen) (hbytes:(n+m)*bytes≤140737488355328) (hbase:base≤w.heap.size)
  (hK:∀ v' w',w'.ownsRow base e size v' (n+m) (xs++news)→w.grownBy w' v.ownBlock→(v'.ownBlock=v.ownBlock∨v'.ownBlock=some w.heap.size)→K (a.put o.dst v') w') :
  if Region.wanted o (yielded ops a.tmps)=true then Oper.wp P o a w K Q else E:=by
 cases ao with
 | some ad=>exact step_append_at hg s x t hop base e i z size bytes ht hi hz hsize hby hzs hsz v n xs hs hown ad m c news hx hl (hnews ad rfl) h1 h63 hbytes hbase hK
 | none =>
  obtain ⟨rfl,rfl⟩:=hnone rfl;have hn:news=[]:=List.eq_nil_of_length_eq_zero (by simpa using hl);subst hn;have hw:Region.wanted o (yielded ops a.tmps)=true:=(by simp [Region.wanted,hg]);rw [if_pos hw];have Aa:=run_append_owned_none (P:=P) w base t o.type e i size ht hi v n xs hown;unfold Oper.wp;simp [execOp,hop,resolve,invoke,builtin,hs,hx,Aa,Result.andThen];exact hK v w (by simpa using hown) (World.grownBy.refl _ _) (.inl rfl)
theorem wpList_append_optat {P:Program} (w:World) {ops:Array Oper} {rest:List Oper} {o:Oper} {a:Act} {Q:Exit→Act→World→Prop} (hgd:o.guard=none) (s x:Operand) (t:TypeId)
  (ho:o.op=.call { callee:=.builtin .append,args:=#[s,x],argTypes:=#[t,t] })
  (base:Nat) (e:TypeId) (i:TypeInfo) (z:Value) (size bytes:Nat) (ht:P.underlying t=some (.slice e)) (hi:P.info? e=some i) (hz:i.zero=some z)
  (hsize:i.size=size) (hby:i.bytes=bytes) (hzs:z.cells.size=size) (hsz:0<size)
  (v:Value) (n:Nat) (xs:List Value) (hs:a.eval s=v) (hown:w.ownsRow base e size v n xs)
  (ao:Option Addr) (m c:Nat) (news:List Value) (hx:a.eval x=.slice ao m c) (hl:news.length=m*size) (hnone:ao=none→m=0∧c=0)
  (hnews:∀ ad,ao=some ad→∀ j u,news[j]? = some u→w.cell? (ad.add j)=some u) (h1:∀ u∈news,u.oneCell'=true)
  (h63:n+m≤maxLen) (hbytes:(n+m)*bytes≤140737488355328) (hbase:base≤w.heap.size)
  (h:∀ v' w',w'.ownsRow base e size v' (n+m) (xs++news)→w.grownBy w' v.ownBlock→(v'.ownBlock=v.ownBlock∨v'.ownBlock=some w.heap.size)→wpList P ops Q rest (a.put o.dst v') w'):wpList P ops Q (o::rest) a w:=by
 cases ao with
 | some ad=>exact wpList_append_own_at w hgd s x t ho base e i z size bytes ht hi hz hsize hby hzs hsz v n xs hs hown ad m c news hx hl (hnews ad rfl) h1 h63 hbytes hbase (fun v' w' h2 h3 _ h5=>h v' w' h2 h3 h5)
 | none =>
  obtain ⟨rfl,rfl⟩:=hnone rfl;have hn:news=[]:=List.eq_nil_of_length_eq_zero (by simpa using hl);subst hn;refine wpList_plain hgd fun K hK'=>?_;have Aa:=run_append_owned_none (P:=P) w base t o.type e i size ht hi v n xs hown;unfold Oper.wp;simp [execOp,ho,resolve,invoke,builtin,hs,hx,Aa,Result.andThen];exact hK' _ _ (h v w (by simpa using hown) (World.grownBy.refl _ _) (.inl rfl))
theorem M.jsGo_rise {now next:Int}:∀ {js:List M.Jb} {last:Int},M.jsGo now next last js=true→(∀ j∈js,last<j.id∧j.id<next∧M.jbOk now j=true)∧js.Pairwise (fun a b=>a.id<b.id)
 | [],_,_=>⟨fun j hj=>by simp at hj,List.Pairwise.nil⟩
 | x::l,last,h=>by
  unfold M.jsGo at h;simp only [Bool.and_eq_true,decide_eq_true_eq] at h;obtain ⟨⟨⟨h1,h2⟩,h3⟩,h4⟩:=h;obtain ⟨ih1,ih2⟩:=M.jsGo_rise h4;refine ⟨fun j hj=>?_,List.pairwise_cons.2 ⟨fun j hj=>(ih1 j hj).1,ih2⟩⟩
  rcases List.mem_cons.1 hj with rfl | hj
  · exact ⟨by omega,by omega,h3⟩
  ·
   obtain ⟨a,b,c⟩:=ih1 j hj;exact ⟨by omega,b,c⟩
theorem M.bn_few {bs:List Int} (h:M.bnGo 0 bs=true):bs.length≤9:=by
 have key:∀ (l:List Int) (x:Int),0≤x→x≤9→M.bnGo x l=true→(l.length:Int)≤9-x:=by
  intro l
  induction l with
  | nil=>intro x h0 h9 _;simp;omega
  | cons y l ih =>
   intro x h0 h9 h;unfold M.bnGo M.wkOk at h;simp only [Bool.and_eq_true,decide_eq_true_eq] at h;have:=ih y (by omega) (by omega) h.2;rw [List.length_cons];omega
 have:=key bs 0 (by omega) (by omega) h;omega
structure M.Right (now next : Int) (bs : List Int) (js : List M.Jb) : Prop where
 now0:0≤now
 now1:now≤1000000000
 next0:1≤next
 next1:next≤1000000000
 few:js.length≤6
 bn:M.bnGo 0 bs=true
 job:∀ j∈js,0<j.id∧j.id<next∧M.jbOk now j=true
 rise:js.Pairwise (fun a b=>a.id<b.id)
 nd:(M.wks js).Nodup
 bd:∀ x∈M.wks js,bs.contains x=false
theorem M.right_iff {now next:Int} {bs:List Int} {js:List M.Jb} (h:M.mkOk now next bs js=true):M.Right now next bs js:=by
 unfold M.mkOk at h;simp only [Bool.and_eq_true,decide_eq_true_eq] at h;obtain ⟨⟨h1,h2⟩,⟨h3,h4⟩,h5,⟨h6,h7⟩,h8,h9⟩:=h;obtain ⟨Aa,Ba⟩:=M.jsGo_rise h7;refine ⟨h1,h2,h3,h4,h6,h5,Aa,Ba,h8,fun x hx=>?_⟩;simp only [Bool.not_eq_true',List.any_eq_false] at h9;simpa using h9 x hx
theorem M.Right.before {now next:Int} {bs:List Int} {js:List M.Jb} (h:M.Right now next bs js) {k:Nat} (hk:k<js.length):∀ x∈js.take k,x.id≠(js.getD k M.j0).id:=by
 intro x hx;have hp:=h.rise;rw [← List.take_append_drop k js,List.pairwise_append] at hp;have hd:js.drop k=js.getD k M.j0::js.drop (k+1):=drop_step M.j0 rfl hk;have:=hp.2.2 x hx (js.getD k M.j0) (by rw [hd];simp);omega
theorem M.Right.tasks {now next:Int} {bs:List Int} {js:List M.Jb} (h:M.Right now next bs js):∀ j∈js,1≤j.ts.length∧j.ts.length≤8:=by
 intro j hj;have:=(h.job j hj).2.2;unfold M.jbOk at this;simp only [Bool.and_eq_true,decide_eq_true_eq] at this;exact ⟨this.1.2.2.2.1,this.1.2.2.2.2.1⟩
theorem info_taskK : (Tryz.prog.info? 74).map (fun i=>(i.zero,i.size,i.bytes))=some (some (.agg #[.bool false,.int .i64 0,.int .i64 0]),3,24):=by kernel_rfl
theorem SeesT.news {w:World} {a:Option Addr} {n cap:Nat} {ts:List M.Tk} (h:SeesT w a n cap ts):∀ ad,a=some ad→∀ j u,(ts.flatMap tvs)[j]? = some u→w.cell? (ad.add j)=some u:=by
 intro ad e j u hj;have hl:=h.len
 have Ba:j<ts.length*3:=by
  have:=(List.getElem?_eq_some_iff.1 hj).1
  rwa [flat_len tvs_len] at this
 obtain ⟨b,Aa,e2,hc⟩:=h.at (by omega);rw [e] at e2;simp only [Option.some.injEq] at e2;subst e2;have hq:j / 3<ts.length:=(by rw [Nat.div_lt_iff_lt_mul (by omega)];exact Ba);have hm:j % 3<3:=Nat.mod_lt _ (by omega);have h1:=hc (j / 3) (by omega) (j % 3) hm;rw [← flat_get tvs_len M.t0 ts hq hm,show Aa+j / 3*3+j % 3=Aa+j by omega,show j / 3*3+j % 3=j by omega,hj] at h1;unfold Addr.add
 split
 · rename_i e0;subst e0;exact h1
 · exact h1
theorem tvs_one (ts:List M.Tk):∀ u∈ts.flatMap tvs,u.oneCell'=true:=by
 intro u hu;obtain ⟨t,_,hu⟩:=List.mem_flatMap.1 hu;simp only [tvs,List.mem_cons,List.not_mem_nil,or_false] at hu
 rcases hu with rfl | rfl | rfl <;> rfl
theorem hall_new {w:World} {base h mb:Nat} {now next:Int} {ab:Option Addr} {nb cb:Nat} {bs:List Int} (hl:Lies w h [.int .i64 now,.int .i64 next,.slice ab nb cb,.slice none 0 0,.map (some mb)]) (ho:Owns 2 w base ab nb cb bs) (hm:IsMap w mb []) (hne:h≠mb) (hbh:base≤h) (hbm:base≤mb) (h1:h∉ob ab) (h2:mb∉ob ab) :
  Hall w base h now next ab nb cb bs none 0 0 mb []:=
 ⟨hl,ho,Owns.empty _ _ _,hm,fun q hq=>by simp at hq,bls_nodup.2 ⟨⟨hne,h1,by simp [ob],by simp⟩,⟨h2,by simp [ob],by simp⟩,fun g _=>⟨by simp [ob],by simp⟩,fun g hg=>by simp [ob] at hg,by simp⟩,fun g hg=>by
  unfold bls at hg;simp only [List.mem_cons,List.mem_append,ob,List.flatMap_nil,List.not_mem_nil,or_false] at hg
  rcases hg with rfl | rfl | hg
  · exact hbh
  · exact hbm
  · exact (World.ownsRow.lt ho g (ob_own hg)).1⟩
theorem hallOf_no {ab aj:Option Addr} {nb cb nj cj:Nat} {bs:List Int} {js:List M.Jb} (now next:Int) (w:World) (hz:SeesM w ab nb cb aj nj cj bs js) (hf:M.mkOk now next bs js=false) :
  Calls Tryz.prog 48 #[.agg #[.int .i64 now,.int .i64 next,.slice ab nb cb,.slice aj nj cj]] w fun e w'=>e=.returned (.tuple #[.pointer none,.bool false])∧Below w.heap.size w w':=by
 have HM:=Hd (hz);have C1:∀ W,SeesM W ab nb cb aj nj cj bs js→Calls Tryz.prog 84 #[.agg #[.int .i64 now,.int .i64 next,.slice ab nb cb,.slice aj nj cj]] W fun e w'=>e=.returned (.bool false)∧Below W.heap.size W w':=fun W h=>by rw [← hf];exact implMarketOk_any now next W h
 clear hz hf;go_enter Tryz.func48,Tryz.ntmps48;have Aa:H9 (Below w.heap.size w (w.alloc (.cells (v4' now next ab nb cb aj nj cj).toArray 27))):=(Below.refl _ _).alloc (Nat.le_refl _) _;(go_wp2_with fail);generalize (w.alloc (.cells (v4' now next ab nb cb aj nj cj).toArray 27))=wa at Aa ⊢;refine (C1 _ (HM.o.below Aa.o)).mono ?_;rintro e wb ⟨rfl,hb⟩;have Ba:=Hd (Aa.o.trans (hb.mono Aa.o.size));clear Aa;clear hb;go_wp2;exact bodyPost_ret (v:=.tuple #[.pointer none,.bool false]) (by simp [results,Tryz.results48,go_sem]) rfl ⟨rfl,Ba.o⟩
def HallPost (w:World) (now next:Int) (bs:List Int) (js:List M.Jb) (e:Ending) (w':World):Prop:=
 ∃ h ab nb cb ai ni ci mb qs,e=.returned (.tuple #[.pointer (some ⟨h,0,none⟩),.bool true])∧Hall w' w.heap.size h now next ab nb cb bs ai ni ci mb qs∧qs.map (·.j)=js∧Below w.heap.size w w'
theorem hallOf_yes {ab aj:Option Addr} {nb cb nj cj:Nat} {bs:List Int} {js:List M.Jb} (now next:Int) (w:World) (hz:SeesM w ab nb cb aj nj cj bs js) (hf:M.mkOk now next bs js=true) :
  Calls Tryz.prog 48 #[.agg #[.int .i64 now,.int .i64 next,.slice ab nb cb,.slice aj nj cj]] w fun e w'=>HallPost w now next bs js e w':=by
 have HM:=Hd (hz);have C1:∀ W,SeesM W ab nb cb aj nj cj bs js→Calls Tryz.prog 84 #[.agg #[.int .i64 now,.int .i64 next,.slice ab nb cb,.slice aj nj cj]] W fun e w'=>e=.returned (.bool true)∧Below W.heap.size W w':=fun W h=>by rw [← hf];exact implMarketOk_any now next W h
 have HF:=Hd (hf);clear hz hf;go_enter Tryz.func48,Tryz.ntmps48;have Qb:=lnw w (v4' now next ab nb cb aj nj cj) 27;have Ia:H9 (Below w.heap.size w (w.alloc (.cells (v4' now next ab nb cb aj nj cj).toArray 27))):=(Below.refl _ _).alloc (Nat.le_refl _) _;(go_wp2_with fail);generalize (w.alloc (.cells (v4' now next ab nb cb aj nj cj).toArray 27))=wa at Qb Ia  ⊢;refine (C1 _ (HM.o.below Ia.o)).mono ?_;rintro e wb ⟨rfl,hb⟩;have Oa:=Hd (Qb.o.belowS hb);have Ja:=Hd (Ia.o.trans (hb.mono Ia.o.size));clear Qb Ia;clear hb;have x0:=Oa.o.c 0 rfl;have x1:=Oa.o.c 1 rfl;have x2:=Oa.o.c 2 rfl;have x3:=Oa.o.c 3 rfl;have Nd:=run_makeMap (P:=Tryz.prog) 104 wb;(go_wp2_with fail);clear x0 x1 x2 x3 Nd;have Rb:Below wb.heap.size wb ((wb.alloc (.map #[] 0)).alloc (.cells #[it now,it next,.slice none 0 0,.slice none 0 0,.map (some wb.heap.size)] 106)):=((Below.refl _ _).alloc (Nat.le_refl _) _).alloc (by simp) _;have Sa:=Hd (Ja.o.size);have Db:=Hd (Oa.o.belowS Rb);have Ka:=Hd (Ja.o.trans (Rb.mono Ja.o.size));clear Oa Ja;clear Rb;have Pa:H9 (Lies ((wb.alloc (.map #[] 0)).alloc (.cells #[it now,it next,.slice none 0 0,.slice none 0 0,.map (some wb.heap.size)] 106)) (wb.heap.size+1) [it now,it next,.slice none 0 0,.slice none 0 0,.map (some wb.heap.size)]):=lies_new2 wb _ _ _;have Eb:H9 (IsMap ((wb.alloc (.map #[] 0)).alloc (.cells #[it now,it next,.slice none 0 0,.slice none 0 0,.map (some wb.heap.size)] 106)) wb.heap.size []):=(isMap_new wb).alloc _;have Fb:H9 (((wb.alloc (.map #[] 0)).alloc (.cells #[it now,it next,.slice none 0 0,.slice none 0 0,.map (some wb.heap.size)] 106)).heap.size=wb.heap.size+1+1):=(by show _=_;simp);generalize ((wb.alloc (.map #[] 0)).alloc (.cells #[it now,it next,.slice none 0 0,.slice none 0 0,.map (some wb.heap.size)] 106))=w1 at Db Ka Pa Eb Fb ⊢;generalize Sb:wb.heap.size+1=hb at Pa Fb ⊢;generalize wb.heap.size=mb at Sb Eb Sa Pa ⊢;have Ta:H9 (mb+1=hb):=Sb;clear Sb;have h2:=Pa.o.c 2 rfl;have m2:=Db.o.c 2 rfl;have Gb:=(HM.o.below Ka.o).b;have Kc:H9 (Sees w1.drew ab nb cb bs):=Gb.of_cells fun _ _ hp _=>hp;have Hb:H9 (bs.length=nb):=Gb.len;have Lc:H9 (ab=none→nb=0∧cb=0):=Gb.no;have HR:H9 (M.Right now next bs js):=M.right_iff HF.o;have De:nb≤9:=(by have:=M.bn_few HR.o.bn;rw [Hb.o] at this;exact this);clear Gb;obtain ⟨i0,hi,Ua,Va,Wa⟩:=info_parts info_i64;have Nc:H9 (((bs.take nb).map (Value.int .i64)).length=nb*1):=(by show _=_;have:=Hb.o;simp;omega);have Ib:=Hd (Ka.o.size);apply cutK
 case f =>
  intro key
  go_region_law (refine step_append_opt rfl (.tmp 21) (.tmp 23) 24 rfl w.heap.size 2 i0 (it 0) 1 8 Tryz.underlying24 hi Ua Va Wa rfl (by decide) (.slice none 0 0) 0 [] (by simp [Act.eval]) (World.ownsRow_nil _ _ _ _) ab nb cb ((bs.take nb).map (Value.int .i64)) (by simp [Act.eval]) Nc.o Lc.o (sees_news Kc.o nb (Nat.le_refl _)) (ints_int _) (by unfold maxLen;omega) (by omega) Ib.o ?_;intro v' w7 Na Xa Ya;have hown':w7.ownsRow w.heap.size 2 1 v' nb (bs.map (Value.int .i64)):=(by rw [Nat.zero_add,List.nil_append,List.take_of_length_le (Nat.le_of_eq Hb.o)] at Na;exact Na);obtain ⟨Aa,Ba,rfl,ho⟩:=Owns.form hown';have Tb:H9 (Owns 2 w7 w.heap.size Aa nb Ba bs):=ho;have Ga:H9 (w1.grownBy w7 none):=(grown_drew _ _).trans Xa;have Ub:H9 ((Value.slice Aa nb Ba).ownBlock=none∨(Value.slice Aa nb Ba).ownBlock=some w1.heap.size):=Ya;have Za:H9 (Lies w7 hb [it now,it next,.slice none 0 0,.slice none 0 0,.map (some mb)]):=Pa.o.grown Ga.o (by simp);have c3:=Za.o.c 2 rfl;have f3:w7.frozen? ⟨hb,2,none⟩=false:=Za.o.fr 2;clear Na hown' Xa Ya ho)
  all_goals
   clear c3 f3;revert w7 Aa Ba;exact key.out
 case h =>
  intro w7 Aa Ba Tb Ga Ub Za;have Vb:H9 (Lies (w7.setCell ⟨hb,2,none⟩ (.slice Aa nb Ba)) hb [it now,it next,.slice Aa nb Ba,.slice none 0 0,.map (some mb)]):=Za.o.set 2 (by simp) _;have Kb:H9 (w7.grownBy (w7.setCell ⟨hb,2,none⟩ (.slice Aa nb Ba)) (some hb)):=grown_setCell _ _ _;have Wb:H9 (IsMap (w7.setCell ⟨hb,2,none⟩ (.slice Aa nb Ba)) mb []):=(Eb.o.grown Ga.o (by simp)).setCell _ _;have Xb:hb<w1.heap.size:=(by rw [Fb.o];omega);have La:∀ g∈ob Aa,w1.heap.size≤g:=fun g hg=>by have e:=ob_own (n:=nb) (c:=Ba) hg;rcases Ub.o with e2 | e2 <;> rw [e2] at e <;> simp at e;omega
  have Yb:=Hd (Tb.o.grown Kb.o (fun g hg e=>by have:=La g hg;have:=Option.some.inj e;omega));have Zb:H9 (Below w.heap.size w (w7.setCell ⟨hb,2,none⟩ (.slice Aa nb Ba))):=(Ka.o.trans (below_of_grown Ga.o Ib.o (by simp))).trans (below_of_grown Kb.o (Nat.le_trans Ib.o Ga.o.size) (fun z e=>by have:=Option.some.inj e;have:=Ta.o;have:=Sa.o;omega));have Ac:H9 (Lies (w7.setCell ⟨hb,2,none⟩ (.slice Aa nb Ba)) w.heap.size (v4' now next ab nb cb aj nj cj)):=(Db.o.grown Ga.o (by simp)).far (by have:=Ta.o;have:=Sa.o;omega) _ _;have HX:H9 (Hall (w7.setCell ⟨hb,2,none⟩ (.slice Aa nb Ba)) w.heap.size hb now next Aa nb Ba bs none 0 0 mb []):=hall_new Vb.o Yb.o Wb.o (by have:=Ta.o;omega) (by have:=Ta.o;have:=Sa.o;omega) Sa.o (fun e=>by have:=La _ e;omega) (fun e=>by have:=La _ e;have:=Ta.o;omega);generalize (w7.setCell ⟨hb,2,none⟩ (.slice Aa nb Ba))=w8 at HX Ac Zb Vb Kb Wb Yb ⊢;clear Vb Kb Wb Yb Tb Ga Ub Za La Xb Eb h2 m2 Nc Kc Fb Ib Db Ka Pa;have Ee:=HM.o.j.len;have Fe:nj≤6:=(by have:=HR.o.few;omega);have Ge:(nj:Int)≤9223372036854775807:=(by omega);have Od:=HM.o.j.le;have He:(nj:Int)≤cj:=(by omega);clear Od hi Ua Va Wa i0 Lc Hb C1 HF;have x3:=Ac.o.c 3 rfl;(go_wp2_with fail);clear x3
  go_loopw [30] (fun i wr=>∃ (k:Nat) (ai:Option Addr) (ni ci:Nat) (qs:List HJ),k≤nj∧i=it k∧Hall wr w.heap.size hb now next Aa nb Ba bs ai ni ci mb qs∧qs.map (·.j)=js.take k∧Below w.heap.size w wr) (fun i _=>nj-(intOf i).toNat)
  case atStart=>exact ⟨0,none,0,0,[],by omega,rfl,HX.o,rfl,Zb.o⟩
  case round =>
   obtain ⟨kk,ai,ni,ci,qs,hk,rfl,hh,Qa,Ra⟩:=hrel;clear HX Zb Ac;by_cases Xb:kk<nj
   case pos =>
    obtain ⟨b1,o1,rfl,Oc⟩:=(HM.o.j.below Ra).at (by omega);obtain ⟨ta,tc,hA,hT⟩:=Oc kk Xb;have Pd:(kk:Int)<(nj:Int):=(by omega);have Pc:js.getD kk M.j0∈js:=(by rw [List.getD_eq_getElem?_getD,List.getElem?_eq_getElem (by omega)];simp);have Lb:js.take (kk+1)=js.take kk++[js.getD kk M.j0]:=(by rw [List.take_add_one,List.getD_eq_getElem?_getD,List.getElem?_eq_getElem (by omega)];simp);have Qc:=HR.o.before (k:=kk) (by omega);have Bc:=HR.o.tasks _ Pc;have Rc:ni=kk:=(by have h1:=hh.i.len;have h2:=congrArg List.length Qa;rw [List.length_map] at h1 h2;rw [List.length_take] at h2;omega);have Cc:H9 (∀ q∈qs,q.j.id≠(js.getD kk M.j0).id):=fun q hq=>Qc q.j (by rw [← Qa];exact List.mem_map.2 ⟨q,hq,rfl⟩);generalize js.getD kk M.j0=cq at hA hT Lb Bc Cc;obtain ⟨Ca,⟨⟨a,b,c',d,f,k⟩,⟨a',b',Da,d',f',k'⟩⟩,⟨s1,s2⟩,jr,jg,tl⟩:=cq;dsimp only at hT Lb Bc Cc;have hR:wr.rangeAt b1 (o1+kk*18) (jvs ⟨Ca,⟨⟨a,b,c',d,f,k⟩,⟨a',b',Da,d',f',k'⟩⟩,(s1,s2),jr,jg,tl⟩ ta tc):=row_of_cells rfl hA;have HT:=Hd (hT);dsimp only [jvs] at hR;generalize Sc:tl.length=tn at hR HT Bc;have Nb:=Hd (Sc);have Qd:H9 (qs.map (·.j)++[⟨Ca,⟨⟨a,b,c',d,f,k⟩,⟨a',b',Da,d',f',k'⟩⟩,(s1,s2),jr,jg,tl⟩]=js.take (kk+1)):=(by show _=_;rw [Qa];exact Lb.symm);have Rd:H9 (ni=kk):=Rc;clear Oc hA hT Pc Lb Qc Qa Sc Rc;have Ia:=Hd (Ra);have Tc:=Hd (hh);have Uc:=Hd (HT.o);have Dc:H9 (∀ g∈bls hb mb Aa ai qs,g<wr.heap.size):=hh.lt;have Ob:H9 (w.heap.size≤wr.heap.size):=Ra.size;clear Ra hh HT;(go_wp2_with (with_reducible refine wpList_stop 33 ?_ ?_;rfl));with_reducible refine ldm 44 b1 (o1+kk*18) (v0' Ca a b c' d f k a' b' Da d' f' k' s1 s2 jr jg ta tn tc) hR Tryz.underlying44 ?q5 ?_
    case q5=>exact ⟨rfl,rfl,by kernel_rfl,_,rfl,by kernel_rfl⟩
    clear hR;(go_wp2_with (with_reducible refine wpList_stop 6 ?_ ?_;rfl));show wpList _ _ _ _ _ _;have Vc:(Instr.alloc 44 true (.tuple #[])).run Tryz.prog wr=.ok (.pointer (some ⟨wr.heap.size,0,none⟩)) (wr.alloc (.cells v2'.toArray 44)):=(by kernel_rfl);with_reducible refine wpList_alloc_as ?qg 44 ?qo v2'.toArray Vc ?_
    case qg | qo=>exact rfl
    clear Vc;show wpList _ _ _ _ _ _;with_reducible refine Hx (stm 44 wr.heap.size 0 (v0' Ca a b c' d f k a' b' Da d' f' k' s1 s2 jr jg ta tn tc) ?q6 ?q5 ?_)
    case q6=>exact (lies_new _ _ _).there _ 18 (by simp)
    case q5=>exact ⟨rfl,by kernel_rfl,by kernel_rfl,_,_,rfl,by kernel_rfl,by kernel_rfl⟩
    have Ha:Below wr.heap.size wr ((wr.alloc (.cells v2'.toArray 44)).setCells wr.heap.size 0 (v0' Ca a b c' d f k a' b' Da d' f' k' s1 s2 jr jg ta tn tc)):=below_setCells _ _ ((Below.refl _ _).alloc (Nat.le_refl _) _) (Nat.le_refl _);have Ja:=Hd (Ia.o.trans (Ha.mono Ia.o.size));have Ec:=Hd (Tc.o.below Ha);have Fc:=Hd (Uc.o.below Ha);clear Ia Tc Uc;clear Ha;have Ab:H9 (Lies ((wr.alloc (.cells v2'.toArray 44)).setCells wr.heap.size 0 (v0' Ca a b c' d f k a' b' Da d' f' k' s1 s2 jr jg ta tn tc)) wr.heap.size (v0' Ca a b c' d f k a' b' Da d' f' k' s1 s2 jr jg ta tn tc)):=(lies_new wr v2'.toArray 44).setCells (v0' Ca a b c' d f k a' b' Da d' f' k' s1 s2 jr jg ta tn tc) 0 (by simp);generalize ((wr.alloc (.cells v2'.toArray 44)).setCells wr.heap.size 0 (v0' Ca a b c' d f k a' b' Da d' f' k' s1 s2 jr jg ta tn tc))=w2 at Ja Ec Fc Ab  ⊢;generalize wr.heap.size=jb at Ab Dc Ob ⊢;have Sd:wr.heap.size=wr.heap.size:=rfl;clear Sd;have Wc:=Ab.o.2.2;have Ha:=bal w2 (.cells #[] 74);have Ka:=Hd (Ja.o.trans (Ha.mono Ja.o.size));have Xc:=Hd (Ec.o.below Ha);have Gc:=Hd (Fc.o.below Ha);have Hc:=Hd (Ab.o.belowS Ha);clear Ja Ec Fc Ab;clear Ha;have Td:(w2.alloc (.cells #[] 74)).cell? ⟨jb,17,none⟩=some (.slice ta tn tc):=Hc.o.at 17;obtain ⟨i0,hi,Ua,Va,Wa⟩:=info_parts info_taskK;have Yc:(w2.alloc (.cells #[] 74)).heap.size=w2.heap.size+1:=(by simp);have Zc:w.heap.size≤(w2.alloc (.cells #[] 74)).heap.size:=Ka.o.size;have Ad:H9 ((tl.flatMap tvs).length=tn*3):=(by show _=_;rw [flat_len tvs_len,Nb.o]);(go_wp2_with (with_reducible refine wpList_stop 37 ?_ ?_;rfl));show wpList _ _ _ _ _ _;refine wpList_append_optat _ rfl _ _ 42 rfl w.heap.size 74 i0 (.agg #[.bool false,it 0,it 0]) 3 24 Tryz.underlying42 hi Ua Va Wa rfl (by decide) _ 0 [] rfl (World.ownsRow_made w2 #[] 0 (Nat.le_trans Ob.o (Nat.le_of_lt Wc)) (by unfold maxLen;omega) (by simp)) ta tn tc (tl.flatMap tvs) rfl Ad.o Gc.o.no Gc.o.news (tvs_one tl) (by unfold maxLen;omega) (by omega) Zc ?_;intro v' w7 Na Xa Ya;rw [Nat.zero_add,List.nil_append] at Na;obtain ⟨Ea,Fa,rfl,Bd⟩:=OwnsT.form Nb.o Na;have Cd:H9 (OwnsT w7 w.heap.size Ea tn Fa tl):=Bd;have La:∀ g∈ob Ea,w2.heap.size≤g:=fun g hg=>by have e:=ob_own (n:=tn) (c:=Fa) hg;rcases Ya with e2 | e2 <;> (rw [e2] at e;have e:=Option.some.inj e;first | exact Nat.le_of_eq e | (rw [Yc] at e;omega))
    have Bb:(w2.alloc (.cells #[] 74)).grownBy w7 (some w2.heap.size):=Xa;have Dd:H9 (∀ g∈bls hb mb Aa ai qs,g<w2.heap.size):=fun g hg=>by have:=Dc.o g hg;omega
    have Ga:=Hd (Xc.o.grown Bb (fun g hg e=>by have:=Dd.o g hg;have:=Option.some.inj e;omega));have Pb:=Hd (Hc.o.grown Bb (fun e=>by have:=Option.some.inj e;omega));have Ic:H9 (Below w.heap.size w w7):=Ka.o.trans (below_of_grown Bb Zc (fun z e=>by have:=Option.some.inj e;have:=Ob.o;have:=Wc;omega));have Ud:=Bb.size;have Vd:H9 (∀ g∈ob Ea,g∉bls hb mb Aa ai qs):=fun g hg hx=>by have:=La g hg;have:=Dd.o g hx;omega
    have Wd:H9 (∀ g∈ob Ea,g≠jb):=fun g hg e=>by have:=La g hg;omega
    have Xd:H9 (∀ g∈bls hb mb Aa ai qs,g≠jb):=fun g hg e=>by have:=Dc.o g hg;omega
    have Yd:=Pb.o.c 17 rfl;have Zd:=Pb.o.fr 17;clear Na Xa Ya Bd La Bb Ud hi Ua Va Wa Yc Ad Td Ka Xc Gc Hc;(go_wp2_with (with_reducible refine wpList_stop 40 ?_ ?_;rfl));show wpList _ _ _ _ _ _;have Ed:H9 (Lies (w7.setCell ⟨jb,17,none⟩ (.slice Ea tn Fa)) jb (v0' Ca a b c' d f k a' b' Da d' f' k' s1 s2 jr jg Ea tn Fa)):=Pb.o.set 17 (by simp) _;have Cb:w7.grownBy (w7.setCell ⟨jb,17,none⟩ (.slice Ea tn Fa)) (some jb):=grown_setCell _ _ _;have Fd:=Hd (Ga.o.grown Cb (fun g hg e=>Xd.o g hg (Option.some.inj e).symm));have Gd:=Hd (Cd.o.grown Cb (fun g hg e=>Wd.o g hg (Option.some.inj e).symm));have Jc:H9 (Below w.heap.size w (w7.setCell ⟨jb,17,none⟩ (.slice Ea tn Fa))):=Ic.o.trans (below_of_grown Cb Ic.o.size (fun z e=>by have:=Option.some.inj e;have:=Ob.o;omega));generalize (w7.setCell ⟨jb,17,none⟩ (.slice Ea tn Fa))=w9 at Ed Fd Gd Jc Cb ⊢;clear Ga Pb Ic Cd Cb Yd Zd;have Id:=Ed.o.row;with_reducible refine Hx (ldm 44 jb 0 (v0' Ca a b c' d f k a' b' Da d' f' k' s1 s2 jr jg Ea tn Fa) Id Tryz.underlying44 ?q5 ?_)
    case q5=>exact ⟨rfl,rfl,by kernel_rfl,_,rfl,by kernel_rfl⟩
    clear Id
    have C4:Calls Tryz.prog 85 #[.pointer (some ⟨hb,0,none⟩),.agg #[.int .i64 Ca,.int .i64 a,.int .i64 b,.int .i64 c',.int .i64 d,.int .i64 f,.int .i64 k,.int .i64 a',.int .i64 b',.int .i64 Da,.int .i64 d',.int .i64 f',.int .i64 k',.int .i64 s1,.int .i64 s2,.int .i64 jr,.bool jg,.slice Ea tn Fa]] w9 fun e w'=>e=.returned (.tuple #[])∧∃ ai' ci',Hall w' w.heap.size hb now next Aa nb Ba bs ai' (ni+1) ci' mb (qs++[⟨⟨Ca,⟨⟨a,b,c',d,f,k⟩,⟨a',b',Da,d',f',k'⟩⟩,(s1,s2),jr,jg,tl⟩,w9.heap.size,Ea,Fa⟩])∧Below w.heap.size w9 w':=by
     have h0:=enter_any ⟨Ca,⟨⟨a,b,c',d,f,k⟩,⟨a',b',Da,d',f',k'⟩⟩,(s1,s2),jr,jg,tl⟩ Ea Fa w9 Fd.o Cc.o (by show OwnsT _ _ _ tl.length _ _;rw [Nb.o];exact Gd.o) Vd.o Jc.o.size (by rw [Rd.o];omega);dsimp only [jvs] at h0;rw [Nb.o] at h0;exact h0
    (go_wp2_with fail);refine C4.mono ?_;rintro e Jd ⟨rfl,Kd,Ld,hH,hB⟩;have HH':H9 (Hall Jd w.heap.size hb now next Aa nb Ba bs Kd (ni+1) Ld mb (qs++[⟨⟨Ca,⟨⟨a,b,c',d,f,k⟩,⟨a',b',Da,d',f',k'⟩⟩,(s1,s2),jr,jg,tl⟩,w9.heap.size,Ea,Fa⟩])):=hH;have HB':H9 (Below w.heap.size w Jd):=Jc.o.trans hB;clear hH hB C4;go_wp2;go_roundw
    case rel=>exact ⟨kk+1,Kd,ni+1,Ld,_,by omega,by go_num,HH'.o,by rw [List.map_append];exact Qd.o,HB'.o⟩
    case measure=>simp [intOf];omega
   have Ie:kk=nj:=(by omega);have Ae:=Hd (hh);have Be:H9 (qs.map (·.j)=js):=(by show _=_;rw [Qa,List.take_of_length_le (by omega)]);have Ce:=Hd (Ra);have Pd:¬ (kk:Int)<(nj:Int):=(by omega);clear hh Qa Ra;go_wp2;exact bodyPost_ret (v:=.tuple #[.pointer (some ⟨hb,0,none⟩),.bool true]) (by simp [results,Tryz.results48,go_sem]) rfl ⟨hb,Aa,nb,Ba,ai,ni,ci,mb,qs,rfl,Ae.o,Be.o,Ce.o⟩
theorem own_setCells {e:TypeId} {base size g n cap:Nat}:∀ (us:List Value) {w:World} {xs:List Value} (o:Nat),w.ownsRow base e size (.slice (some ⟨g,0,none⟩) n cap) n xs→o+us.length≤xs.length→(w.setCells g o us).ownsRow base e size (.slice (some ⟨g,0,none⟩) n cap) n (spl xs o us)∧w.grownBy (w.setCells g o us) (some g)
 | [],w,xs,o,h,_=>by
  have e:spl xs o []=xs:=(by unfold spl;rw [List.nil_append,List.length_nil,Nat.add_zero,List.take_append_drop]);rw [e];exact ⟨h,World.grownBy.refl _ _⟩
 | u::us,w,xs,o,h,hl=>by
  have hl':o+(us.length+1)≤xs.length:=hl;obtain ⟨h1,h2⟩:=h.stored o u;obtain ⟨h3,h4⟩:=own_setCells us (o+1) h1 (by rw [List.length_set];omega);rw [spl_cons (by omega)] at h3;exact ⟨h3,h2.trans h4⟩
theorem OwnsT.block {w:World} {base:Nat} {a:Option Addr} {n c:Nat} {ts:List M.Tk} (h:OwnsT w base a n c ts) (h0:0<n):∃ g,a=some ⟨g,0,none⟩:=by
 rcases h.2.2 with ⟨_,e⟩ | ⟨g,cap,cur,e,_⟩
 · omega
 · simp only [Value.slice.injEq] at e;exact ⟨g,e.1⟩
theorem OwnsT.put {w:World} {base g n c:Nat} {ts:List M.Tk} (h:OwnsT w base (some ⟨g,0,none⟩) n c ts) {k:Nat} (hk:k<n) (t:M.Tk):OwnsT (w.setCells g (k*3) (tvs t)) base (some ⟨g,0,none⟩) n c (ts.set k t)∧w.grownBy (w.setCells g (k*3) (tvs t)) (some g):=by
 have hl:=h.1;have hx:k*3+(tvs t).length≤(ts.flatMap tvs).length:=(by rw [flat_len tvs_len,tvs_len];omega);obtain ⟨h1,h2⟩:=own_setCells (tvs t) (k*3) h.2 hx;rw [flat_set tvs_len ts t (by omega)] at h1;exact ⟨⟨by rw [List.length_set];exact hl,h1⟩,h2⟩
theorem OwnsT.there {w:World} {base g n c:Nat} {ts:List M.Tk} (h:OwnsT w base (some ⟨g,0,none⟩) n c ts) {k:Nat} (hk:k<n):w.there g (k*3) 3:=fun j hj=>by
 have hl:=h.1;refine ⟨?_,h.2.frozenAt _⟩;rw [h.2.cellAt _ (by omega),List.getElem?_eq_getElem (by rw [flat_len tvs_len];omega)]
 rfl
theorem OwnsT.cells {w:World} {base g n c:Nat} {ts:List M.Tk} (h:OwnsT w base (some ⟨g,0,none⟩) n c ts) {k j:Nat} (hk:k<n) (hj:j<3):w.cell? ⟨g,k*3+j,none⟩=(tvs (ts.getD k M.t0))[j]?:=by
 have hl:=h.1;rw [h.2.cellAt _ (by omega),flat_get tvs_len M.t0 ts (by omega) hj]
abbrev MQ := M.Jb×Option Addr×Nat
def q0 : MQ:=(M.j0,none,0)
def mbl (ab aj:Option Addr) (qs:List MQ):List Nat:=ob ab++(ob aj++qs.flatMap fun q=>ob q.2.1)
structure MktO (w : World) (base : Nat) (ab : Option Addr) (nb cb : Nat) (bs : List Int) (aj : Option Addr) (nj cj : Nat) (qs : List MQ) : Prop where
 b:Owns 2 w base ab nb cb bs
 jl:qs.length=nj
 j:w.ownsRow base 44 18 (.slice aj nj cj) nj (qs.flatMap jrv)
 t:∀ q∈qs,OwnsT w base q.2.1 q.1.ts.length q.2.2 q.1.ts
 d:(mbl ab aj qs).Nodup
theorem own_keep {e:TypeId} {w w':World} {base size n c:Nat} {a:Option Addr} {xs:List Value} {row:Option Nat} (h:w.ownsRow base e size (.slice a n c) n xs) (hg:w.grownBy w' row) (hr:∀ g∈ob a,row≠some g):w'.ownsRow base e size (.slice a n c) n xs:=by
 refine h.kept hg ?_
 cases e:(Value.slice a n c).ownBlock with
 | none=>exact .inl rfl
 | some g=>exact .inr (fun e2=>hr g (own_ob e) e2.symm)
theorem mbl_nodup {ab aj:Option Addr} {qs:List MQ}:(mbl ab aj qs).Nodup↔(∀ g∈ob ab,g∉ob aj∧g∉qs.flatMap fun q=>ob q.2.1)∧(∀ g∈ob aj,g∉qs.flatMap fun q=>ob q.2.1)∧(qs.flatMap fun q=>ob q.2.1).Nodup:=by
 have h1:∀ a:Option Addr,(ob a).Nodup:=fun a=>by cases a <;> simp [ob]
 unfold mbl;rw [List.nodup_append,List.nodup_append]
 constructor
 ·
  rintro ⟨_,⟨_,c1,c2⟩,c3⟩;exact ⟨fun g hg=>⟨fun e=>c3 g hg g (List.mem_append.2 (.inl e)) rfl,fun e=>c3 g hg g (List.mem_append.2 (.inr e)) rfl⟩,fun g hg e=>c2 g hg g e rfl,c1⟩
 ·
  rintro ⟨c3,c2,c1⟩;exact ⟨h1 _,⟨h1 _,c1,fun g hg g' hg' e=>c2 g hg (e ▸ hg')⟩,fun g hg g' hg' e=>(List.mem_append.1 hg').elim (fun x=>(c3 g hg).1 (e ▸ x)) (fun x=>(c3 g hg).2 (e ▸ x))⟩
section
variable {w w' : World} {base : Nat} {ab : Option Addr} {nb cb : Nat} {bs : List Int} {aj : Option Addr} {nj cj : Nat} {qs : List MQ}
theorem MktO.grown {row:Option Nat} (H:MktO w base ab nb cb bs aj nj cj qs) (hg:w.grownBy w' row) (hr:∀ g∈mbl ab aj qs,row≠some g):MktO w' base ab nb cb bs aj nj cj qs:=
 ⟨H.b.grown hg fun g hg=>hr g (by simp [mbl,hg]),H.jl,own_keep H.j hg fun g hg=>hr g (by simp [mbl,hg]),fun q hq=>(H.t q hq).grown hg fun g hg=>hr g (by unfold mbl;simp only [List.mem_append];exact .inr (.inr (List.mem_flatMap.2 ⟨q,hq,hg⟩))),H.d⟩
theorem MktO.below (H:MktO w base ab nb cb bs aj nj cj qs) (hb:Below w.heap.size w w'):MktO w' base ab nb cb bs aj nj cj qs:=H.grown (grown_of_belowN hb none) (fun _ _=>by simp)
theorem MktO.lt (H:MktO w base ab nb cb bs aj nj cj qs):∀ g∈mbl ab aj qs,base≤g∧g<w.heap.size:=by
 intro g hg;unfold mbl at hg;simp only [List.mem_append] at hg
 rcases hg with hg | hg | hg
 · exact World.ownsRow.lt H.b g (ob_own hg)
 · exact World.ownsRow.lt H.j g (ob_own hg)
 ·
  obtain ⟨q,hq,hg⟩:=List.mem_flatMap.1 hg;exact (H.t q hq).lt g hg
theorem map_getD (qs:List MQ) (i:Nat):(qs.map (·.1)).getD i M.j0=(qs.getD i q0).1:=by
 rw [List.getD_eq_getElem?_getD,List.getD_eq_getElem?_getD,List.getElem?_map]
 cases qs[i]? <;> rfl
theorem MktO.sees (H:MktO w base ab nb cb bs aj nj cj qs):SeesM w ab nb cb aj nj cj bs (qs.map (·.1)):=by
 refine ⟨H.b.sees,?_⟩;have hx:=H.j;have hl:=H.jl
 rcases hx.2 with ⟨e,h0⟩ | ⟨g,cap,cur,e,hb,hh,hn,hm,hs,ht⟩
 ·
  simp only [Value.slice.injEq] at e;obtain ⟨rfl,rfl,rfl⟩:=e;exact ⟨by simpa using hl,Nat.le_refl _,by decide,fun _=>⟨rfl,rfl⟩,.inl rfl⟩
 ·
  simp only [Value.slice.injEq,true_and] at e;obtain ⟨rfl,rfl⟩:=e;refine ⟨by simpa using hl,hn,by unfold maxLen at hm;omega,fun e=>by simp at e,?_⟩;refine .inr ⟨g,0,rfl,fun i hi=>⟨(qs.getD i q0).2.1,(qs.getD i q0).2.2,fun j hj=>?_,?_⟩⟩
  ·
   rw [Nat.zero_add,World.ownsRow.cellAt hx (i*18+j) (by omega),flat_get jrv_len q0 qs (by omega) hj,map_getD]
   rfl
  ·
   rw [map_getD];have Aa:qs.getD i q0∈qs:=(by rw [List.getD_eq_getElem?_getD,List.getElem?_eq_getElem (by omega)];simp);exact (H.t _ Aa).sees
theorem set_getD_same {α β:Type} (f:α→List β) (d:α):∀ (qs:List α) (i:Nat) (q:α),f q=f (qs.getD i d)→i<qs.length→(qs.set i q).flatMap f=qs.flatMap f
 | [],_,_,_,h=>by simp at h
 | x::l,0,q,h,_=>by
  have h':f q=f x:=h;rw [List.set_cons_zero,List.flatMap_cons,List.flatMap_cons,h']
 | x::l,i+1,q,h,hi=>by
  rw [List.set_cons_succ,List.flatMap_cons,List.flatMap_cons,set_getD_same f d l i q h (by simpa using hi)]
theorem mem_set_cases {α:Type} {d:α}:∀ {qs:List α} {i:Nat} {q x:α},x∈qs.set i q→x=q∨∃ k,k≠i∧k<qs.length∧x=qs.getD k d
 | [],_,_,_,h=>by simp at h
 | y::l,0,q,x,h=>by
  rw [List.set_cons_zero,List.mem_cons] at h
  rcases h with h | h
  · exact .inl h
  ·
   obtain ⟨k,hk,e⟩:=List.mem_iff_getElem.1 h;exact .inr ⟨k+1,by omega,by simpa using hk,by rw [← e];simp [List.getD_eq_getElem?_getD,hk]⟩
 | y::l,i+1,q,x,h=>by
  rw [List.set_cons_succ,List.mem_cons] at h
  rcases h with h | h
  · exact .inr ⟨0,by omega,by simp,h⟩
  ·
   rcases mem_set_cases (d:=d) h with h | ⟨k,h1,h2,h3⟩
   · exact .inl h
   · exact .inr ⟨k+1,by omega,by simpa using h2,h3⟩
theorem flat_apart {α:Type} {f:α→List Nat} {d:α}:∀ {qs:List α},(qs.flatMap f).Nodup→∀ {i k:Nat},i<qs.length→k<qs.length→k≠i→∀ g∈f (qs.getD i d),g∉f (qs.getD k d)
 | [],_,_,_,h,_,_=>by simp at h
 | x::l,hn,i,k,hi,hk,hne=>by
  rw [List.flatMap_cons,List.nodup_append] at hn;have mem:∀ {j:Nat} {g:Nat},j<l.length→g∈f (l.getD j d)→g∈l.flatMap f:=fun {j g} hj hg=>List.mem_flatMap.2 ⟨l.getD j d,by rw [List.getD_eq_getElem?_getD,List.getElem?_eq_getElem hj];simp,hg⟩
  match i,k with
  | 0,0=>exact absurd rfl hne
  | 0,k+1=>exact fun g hg hg'=>hn.2.2 g hg g (mem (by simpa using hk) hg') rfl
  | i+1,0=>exact fun g hg hg'=>hn.2.2 g hg' g (mem (by simpa using hi) hg) rfl
  | i+1,k+1=>exact flat_apart (d:=d) hn.2.1 (by simpa using hi) (by simpa using hk) (by omega)
theorem MktO.task (H:MktO w base ab nb cb bs aj nj cj qs) {i k:Nat} (hi:i<nj) {g:Nat} (hg:(qs.getD i q0).2.1=some ⟨g,0,none⟩) (hk:k<(qs.getD i q0).1.ts.length) (t:M.Tk) :
  MktO (w.setCells g (k*3) (tvs t)) base ab nb cb bs aj nj cj (qs.set i ({ (qs.getD i q0).1 with ts:=(qs.getD i q0).1.ts.set k t },(qs.getD i q0).2))∧w.grownBy (w.setCells g (k*3) (tvs t)) (some g):=by
 have hl:=H.jl;have Aa:qs.getD i q0∈qs:=(by rw [List.getD_eq_getElem?_getD,List.getElem?_eq_getElem (by omega)];simp);have hT:=H.t _ Aa;rw [hg] at hT;obtain ⟨h1,h2⟩:=hT.put hk t;obtain ⟨c3,c2,c1⟩:=mbl_nodup.1 H.d;have Ba:g∈ob (qs.getD i q0).2.1:=(by rw [hg];simp [ob]);have Ca:g∈qs.flatMap fun q=>ob q.2.1:=List.mem_flatMap.2 ⟨_,Aa,Ba⟩;refine ⟨⟨H.b.grown h2 fun x hx e=>(c3 x hx).2 (Option.some.inj e ▸ Ca),by rw [List.length_set];exact hl,?_,?_,?_⟩,h2⟩
 ·
  rw [set_getD_same jrv q0 qs i _ (by simp [jrv,jvs]) (by omega)];exact own_keep H.j h2 fun x hx e=>c2 x hx (Option.some.inj e ▸ Ca)
 ·
  intro q hq
  rcases mem_set_cases (d:=q0) hq with rfl | ⟨k',h3,h4,rfl⟩
  ·
   dsimp only;rw [hg,List.length_set];exact h1
  ·
   have Da:qs.getD k' q0∈qs:=(by rw [List.getD_eq_getElem?_getD,List.getElem?_eq_getElem h4];simp);exact (H.t _ Da).grown h2 fun x hx e=>flat_apart (f:=fun q:MQ=>ob q.2.1) (d:=q0) c1 (by omega) h4 h3 g Ba (Option.some.inj e ▸ hx)
 ·
  unfold mbl;have e:=set_getD_same (fun q:MQ=>ob q.2.1) q0 qs i ({ (qs.getD i q0).1 with ts:=(qs.getD i q0).1.ts.set k t },(qs.getD i q0).2) rfl (by omega);rw [e];exact H.d
end
end Go.Proofs.YtfhknkppiidnkaaGreat
