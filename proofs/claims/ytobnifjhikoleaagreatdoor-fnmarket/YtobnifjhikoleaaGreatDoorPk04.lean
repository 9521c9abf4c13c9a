import Derived.Test.YtobnifjhikoleaaGreatDoorPk02
import Derived.Test.YtobnifjhikoleaaGreatDoorPk03
namespace Go.Proofs.YtobnifjhikoleaaGreatDoor
open Go.RowKit Go.Proofs.Tryz
set_option linter.unusedSimpArgs false
set_option maxHeartbeats 32000000
variable {P:Program}{w w':World}{a b:Option Addr}{row:Option Nat}{n cap i' c pb d k:Nat}{zs:List Int}{o:Oper}{t:TypeId}{ps:List (Int×Int)}{K:Act→World→Prop}{Q:Exit→Act→World→Prop}
theorem qt{P G:Prop}(f:P→G)(h:P):G:=f h
theorem aB(h:m1 w w')(row:Option Nat):w.grownBy w' row:=⟨h.os,h.tape,h.output,h.size,fun k hk _=>h.block k hk⟩
theorem cW(w:World)(row:Option Nat):w.grownBy w.drew row:=aB (m5 _ _).drew row
theorem aH{a:World}(h:a.grownBy w row)(hb:m1 w w'):a.grownBy w' row:=
  h.trans (aB hb row)
theorem a8{a:World}{b:Nat}(h:a.grownBy w (some b))(o:Nat)(us:List Value):a.grownBy (w.setCells b o us) (some b):=by
  have hz:∀(us:List Value) (w:World) (o:Nat),w.grownBy (w.setCells b o us) (some b):=by
    intro us
    induction us with
    | nil=>exact fun w _=>World.grownBy.refl w _
    | cons u us ih=>
      intro w o
      have h1:w.grownBy (w.setCell ⟨b,o,none⟩ u) (some b):=⟨rfl,rfl,rfl,by simp[World.setCell],fun k _ hk=>Below.heap_setCell w _ u k (fun e=>hk (by rw[e]))⟩
      exact h1.trans (ih _ _)
  exact h.trans (hz us w o)
theorem eY{B:Nat}{a:World}(h:Below B a w)(hg:w.grownBy w' row)(hB:B≤w.heap.size)(hr:∀k,row=some k→B≤k):Below B a w':=h.grown hg hB hr
theorem aw.grownR(h:aw w a n cap zs)(hg:w.grownBy w' row)(hr:∀x,a=some x→row≠some x.block):aw w' a n cap zs:=
  h.of_cells fun p _ hp ⟨x,hx,he⟩=>hg.cell hp (fun e=>hr x hx (by rw[he,e]))
theorem aD.grownR.lt_of_heap{g:Nat}{o:Obj}(h:w.heap[g]?=some o):g<w.heap.size:=by
  rcases Nat.lt_or_ge g w.heap.size with h' | h'
  ·exact h'
  ·rw[Array.getElem?_eq_none h']at h;cases h
theorem aD.grownR(h:aD t w i' a n cap zs)(hg:w.grownBy w' row)(hr:∀x,a=some x→row≠some x.block):aD t w' i' a n cap zs:=by
  refine⟨h.1,?_⟩
  rcases h.2 with e | ⟨g,cp,cur,e,hb,hc,r⟩
  ·exact .inl e
  · refine .inr ⟨g,cp,cur,e,hb,?_,r⟩
    have hx:a=some ⟨g,0,none⟩:=by injection e
    rw[hg.block g (aD.grownR.lt_of_heap hc) (fun e2=>hr _ hx e2.symm)]
    exact hc
theorem bf.grownR(h:bf t w i' a n cap ps)(hg:w.grownBy w' row)(hr:∀x,a=some x→row≠some x.block):bf t w' i' a n cap ps:=by
  refine⟨h.1,h.2.1,?_⟩
  rcases h.2.2 with e | ⟨g,cp,cur,e,hb,hc,r⟩
  ·exact .inl e
  · refine .inr ⟨g,cp,cur,e,hb,?_,r⟩
    have hx:a=some ⟨g,0,none⟩:=by injection e
    rw[hg.block g (aD.grownR.lt_of_heap hc) (fun e2=>hr _ hx e2.symm)]
    exact hc
theorem dU.grownR(h:dU w a n c ps)(hg:w.grownBy w' row)(hr:∀x,a=some x→row≠some x.block):dU w' a n c ps:=by
  refine⟨h.len,h.le,h.big,h.no,?_⟩
  rcases h.pos with e | ⟨b,off,e,hb⟩
  ·exact .inl e
  ·exact .inr ⟨b,off,e,fun i hi=>⟨hg.cell (hb i hi).1 (fun e2=>hr _ e e2.symm),hg.cell (hb i hi).2 (fun e2=>hr _ e e2.symm)⟩⟩
theorem kd{v v':Value}(h:v'.ownBlock=v.ownBlock∨v'.ownBlock=some w.heap.size)(hp:pb<w.heap.size)(hv:v.ownBlock≠some pb):v'.ownBlock≠some pb:=by
  rcases h with e | e
  ·rw[e];exact hv
  ·rw[e];intro e2;injection e2 with e3;omega
theorem kq{b:Nat}(h:(Value.slice a n c).ownBlock≠some b):∀x,a=some x→x.block≠b:=fun x hx e=>h (by subst hx;simp[Value.ownBlock,e])
theorem dH{a:World}{b:Nat}(h:a.grownBy w row)(hb:a.heap.size≤b)(o:Nat)(us:List Value):a.grownBy (w.setCells b o us) row:=by
  have hz:∀(us:List Value) (w:World) (o:Nat),a.grownBy w row→a.grownBy (w.setCells b o us) row:=by
    intro us
    induction us with
    | nil=>exact fun _ _ h=>h
    | cons u us ih=>
      intro w o h
      refine ih _ _ ⟨h.os,h.tape,h.output,by have:=h.size;simpa[World.setCell]using this,fun k hk hr=>?_⟩
      rw[Below.heap_setCell w ⟨b,o,none⟩ u k (fun e=>by have:k=b:=e;omega)]
      exact h.block k hk hr
  exact hz us w o h
theorem bq{a:World}(h:a.grownBy w row)(o:Obj):a.grownBy (w.alloc o) row:=h.trans (uX w o row)
theorem np{a:Act}(s x:Operand)(t:TypeId)
   (ho:o.op=.call {callee:=.builtin .append,args:=#[s,x],argTypes:=#[t,t]})
   (i':Nat)(e:TypeId)(i:TypeInfo)(z:Value)(size bytes:Nat)(ht:P.underlying t=some (.slice e))(hi:P.info? e=some i)(hz:i.zero=some z)
   (hsize:i.size=size)(hby:i.bytes=bytes)(hzs:z.cells.size=size)(hsz:0<size)
   (v:Value)(n:Nat)(xs:List Value)(hs:a.eval s=v)(hown:w.ownsRow i' e size v n xs)
   (ad:Addr)(m c:Nat)(news:List Value)(hx:a.eval x=.slice (some ad) m c)(hl:news.length=m*size)(hnews:∀j u,news[j]?=some u→w.cell? (ad.add j)=some u)(h1:∀u∈news,u.oneCell'=true)
   (h63:n+m≤maxLen)(hbytes:(n+m)*bytes≤140737488355328)(uK:i'≤w.heap.size)
   (h:∀v' w',w'.ownsRow i' e size v' (n+m) (xs++news)→w.grownBy w' v.ownBlock→(v'.ownBlock=v.ownBlock∨v'.ownBlock=some w.heap.size)→K (a.put o.dst v') w'):o.wp P a w K Q:=by
  obtain⟨v',w',hr,h2,h3,h4,h5⟩:=run_append_own_at (P:=P) w i' t o.type e i z size bytes ht hi hz hsize hby hzs hsz v n xs hown ad m c news hl hnews h1 h63 hbytes uK
  unfold Oper.wp execOp
  simp only[ho,resolve,invoke,builtin,Sem.run_bind,Sem.run_pure,Result.andThen_ok,List.map_toArray,List.map_cons,List.map_nil,hs,hx,hr]
  exact h v' w' h2 h3 h5
theorem ce{a:Act}(t:TypeId)(ho:o.op=.alloc t)(cs:Array Value)
   (hrun:(Instr.alloc t true (.tuple #[])).run P w=.ok (.pointer (some ⟨w.heap.size,0,none⟩)) (w.alloc (.cells cs t)))
   (h:K (a.put o.dst (.pointer (some ⟨w.heap.size,0,none⟩))) (w.alloc (.cells cs t))):o.wp P a w K Q:=by
  unfold Oper.wp execOp
  simp only[ho,Sem.run_bind,hrun,Result.andThen_ok,Sem.run_pure]
  exact h
theorem gi(h:∀y,a=some y→y.block≠pb):(Value.slice a n c).ownBlock≠some pb:=by
  cases a with
  | none=>simp[Value.ownBlock]
  | some y=>simp only[Value.ownBlock];intro e;injection e with e;exact h y rfl e
theorem ul{m:Nat}(h:(Value.slice b m d).ownBlock=(Value.slice a n c).ownBlock∨(Value.slice b m d).ownBlock=some w.heap.size)(hp:pb<w.heap.size)(hv:∀y,a=some y→y.block≠pb):∀y,b=some y→y.block≠pb:=
  kq (kd h hp (gi hv))
theorem kA(ps:List (Int×Int))(h:k<ps.length):ps.take k++[ps.getD k (0,0)]=ps.take (k+1):=by
  rw[uV h];simp[m4,h]
def bU(ps:List (Int×Int)):List Int:=ps.map Prod.fst
def bW(ps:List (Int×Int)):List Int:=ps.map Prod.snd
theorem jo(ps:List (Int×Int))(h:k<ps.length):(bU ps).take k++[(ps.getD k (0,0)).1]=(bU ps).take (k+1):=by
  unfold bU;rw[←List.map_take,←List.map_take,←kA ps h,vq];rfl
theorem ju(ps:List (Int×Int))(h:k<ps.length):(bW ps).take k++[(ps.getD k (0,0)).2]=(bW ps).take (k+1):=by
  unfold bW;rw[←List.map_take,←List.map_take,←kA ps h,vq];rfl
theorem hU(ps:List (Int×Int)):(bU ps).length=ps.length:=by simp[bU]
theorem ic(ps:List (Int×Int)):(bW ps).length=ps.length:=by simp[bW]
theorem t6(s:Int×Int)(w:World)(ho:aD 123 w i' a n cap zs)(hb:i'≤w.heap.size)(hn:n≤2000):
    Calls prog 165 #[.slice a n cap,cP s] w fun e w'=>∃a' cap',e=.returned (.slice a' (n+1) cap')∧aD 123 w' i' a' (n+1) cap' (zs++[s.1])∧Below i' w w':=by
  have HO:=Hd ho
  obtain⟨i0,hi,Aa,Ba,Ca⟩:=info_parts dw
  have HI:H9 (prog.info? 123=some i0∧i0.zero=some (Value.int .i64 0)∧i0.size=1∧i0.bytes=8):=⟨hi,Aa,Ba,Ca⟩
  clear ho hi Aa Ba Ca
  obtain⟨x,y⟩:=s
  dsimp only[cP]
  have Ha:H9 (Below i' w (w.alloc (.cells #[.int .i64 x,.int .i64 y] 224))):=(m5 _ _).alloc hb _
  have Da:H9 (aD 123 (w.alloc (.cells #[.int .i64 x,.int .i64 y] 224)) i' a n cap zs):=HO.o.below ((m5 _ _).alloc (m3 _) _)
  go_enter func165,ntmps165
  go_wp2_with(at_builtin;refine wpList_append_own _ rfl _ _ 175 rfl i' 123 i0 (.int .i64 0) 1 8 underlying175 HI.o.1 HI.o.2.1 HI.o.2.2.1 HI.o.2.2.2 rfl (by decide) _ n (zs.map (Value.int .i64)) rfl (vw Da.o _) ⟨(w.alloc (.cells #[.int .i64 x,.int .i64 y] 224)).heap.size,0,none⟩ 1 1 [.int .i64 x] (by simp[Act.eval]) rfl (bC _ _ _) (b9 _) (by unfold maxLen;omega) (by omega) (by simp;omega) ?_)
  intro v' w4 Ea Fa _
  have hown':w4.ownsRow i' 123 1 v' (n+1) ((zs++[x]).map (Value.int .i64)):=by rw[vq];exact Ea
  obtain⟨b4,c4,rfl,Ga⟩:=aD.form hown'
  have Ia:=Hd Ga
  have Ja:=Hd ((Ha.o.alloc (by simp;omega) _).grown Fa (by simp;omega) Da.o.row)
  clear Ea hown' Fa Ga
  go_wp2
  go_ret
  exact⟨b4,c4,rfl,Ia.o,Ja.o⟩
theorem qv(w0 w:World)(hz:dU w0 a n c ps)(hbl:m1 w0 w)(ho:aD 123 w w0.heap.size b 0 cap [])(hn:n≤1001):
    Calls prog 164 #[.slice a n c,.slice b 0 cap,.func (.func 165) #[] #[]] w fun e w'=>∃a' cap',e=.returned (.slice a' n cap')∧aD 123 w' w0.heap.size a' n cap' (bU ps)∧m1 w0 w':=by
  have HZ:=Hd hz
  have Ba:=Hd hbl
  have HO:=Hd ho
  clear hz hbl ho
  go_enter func164,ntmps164
  go_wp2
  go_loopw [1,11] (fun s i wr=>∃(k:Nat) (a':Option Addr) (cap':Nat),k≤n∧i=.int .i64 k∧s=.slice a' k cap'∧aD 123 wr w0.heap.size a' k cap' ((bU ps).take k)∧m1 w0 wr) (fun _ i _=>n-(intOf i).toNat)
  case atStart=>exact⟨0,_,_,by omega,rfl,rfl,HO.o,Ba.o⟩
  case round=>
    obtain⟨k,a',cap',hk,rfl,rfl,Ca,Da⟩:=hrel
    have Ea:=Hd Ca
    have Aa:=Hd Da
    clear Ca Da HO Ba
    by_cases Fa:k<n
    · obtain⟨b1,o1,rfl,Ga⟩:=(HZ.o.below Aa.o).at (by omega)
      obtain⟨e1,e2⟩:=Ga k Fa
      have hI:(k:Int)<(n:Int):=by omega
      have HS:=Hd (jo ps (by rw[HZ.o.len];exact Fa))
      clear Ga
      generalize ps.getD k (0,0)=q at e1 e2 HS
      have C1:=t6 (a:=a') (n:=k) (cap:=cap') (i':=w0.heap.size) (zs:=(bU ps).take k) q
      obtain⟨x,y⟩:=q
      dsimp only[cP]at C1 e1 e2
      have Ja:H9 _:=C1
      clear C1
      go_wp2_with fail
      refine(Ja.o _ (Ea.o.below ((m5 _ _).alloc (m3 _) _)) (by have:=Aa.o.size;simp;omega) (by omega)).mono ?_
      rintro e w4 ⟨b4,c4,rfl,Ha,Ia⟩
      have Ka:H9 (aD 123 w4 w0.heap.size b4 (k+1) c4 ((bU ps).take (k+1))):=by
        show aD _ _ _ _ _ _ _
        rw[←HS.o];exact Ha
      have La:=Hd ((Aa.o.alloc Aa.o.size _).trans Ia)
      clear Ha Ia
      go_wp2
      go_roundw
      case rel=>exact⟨k+1,b4,c4,by omega,by go_num,rfl,Ka.o,La.o⟩
      case measure=>simp[intOf];omega
    · have Na:k=n:=by omega
      subst Na
      go_wp2
      go_ret
      refine⟨a',cap',rfl,?_,Aa.o⟩
      have:=Ea.o
      rw[uQ (by rw[hU,HZ.o.len];exact m3 _)]at this
      exact this
theorem tq(w:World)(hz:dU w a n c ps)(hn:n≤1001):
    Calls prog 113 #[.slice a n c] w fun e w'=>∃a' cap',e=.returned (.slice a' n cap')∧aD 123 w' w.heap.size a' n cap' (bU ps)∧m1 w w':=by
  have HZ:=Hd hz
  obtain⟨i0,hi,Aa,Ba,Ca⟩:=info_parts dw
  clear hz
  go_enter func113,ntmps113
  go_wp2_with(at_make;refine wpList_make_own _ rfl _ _ 175 rfl w.heap.size 123 i0 (.int .i64 0) 1 underlying175 hi Aa Ba .i64 .i64 _ n rfl rfl rfl (by rw[Ca];omega) (by unfold maxLen;omega) (m3 _) ?_)
  intro w1 Da hg
  have HO:=Hd Da
  have HB:=Hd (bu hg)
  clear Da hg hi Aa Ba Ca
  go_wp2_with fail
  refine(qv w w1 HZ.o HB.o HO.o hn).mono ?_
  rintro e w2 ⟨a2,c2,rfl,Ea,Fa⟩
  have Ga:=Hd Ea
  have Ha:=Hd Fa
  clear Ea Fa
  go_wp2
  go_ret
  exact⟨a2,c2,rfl,Ga.o,Ha.o⟩
theorem t7(s:Int×Int)(w:World)(ho:aD 123 w i' a n cap zs)(hb:i'≤w.heap.size)(hn:n≤2000):
    Calls prog 166 #[.slice a n cap,cP s] w fun e w'=>∃a' cap',e=.returned (.slice a' (n+1) cap')∧aD 123 w' i' a' (n+1) cap' (zs++[s.2])∧Below i' w w':=by
  have HO:=Hd ho
  obtain⟨i0,hi,Aa,Ba,Ca⟩:=info_parts dw
  have HI:H9 (prog.info? 123=some i0∧i0.zero=some (Value.int .i64 0)∧i0.size=1∧i0.bytes=8):=⟨hi,Aa,Ba,Ca⟩
  clear ho hi Aa Ba Ca
  obtain⟨x,y⟩:=s
  dsimp only[cP]
  have Ha:H9 (Below i' w (w.alloc (.cells #[.int .i64 x,.int .i64 y] 224))):=(m5 _ _).alloc hb _
  have Da:H9 (aD 123 (w.alloc (.cells #[.int .i64 x,.int .i64 y] 224)) i' a n cap zs):=HO.o.below ((m5 _ _).alloc (m3 _) _)
  go_enter func166,ntmps166
  go_wp2_with(at_builtin;refine wpList_append_own _ rfl _ _ 175 rfl i' 123 i0 (.int .i64 0) 1 8 underlying175 HI.o.1 HI.o.2.1 HI.o.2.2.1 HI.o.2.2.2 rfl (by decide) _ n (zs.map (Value.int .i64)) rfl (vw Da.o _) ⟨(w.alloc (.cells #[.int .i64 x,.int .i64 y] 224)).heap.size,0,none⟩ 1 1 [.int .i64 y] (by simp[Act.eval]) rfl (bC _ _ _) (b9 _) (by unfold maxLen;omega) (by omega) (by simp;omega) ?_)
  intro v' w4 Ea Fa _
  have hown':w4.ownsRow i' 123 1 v' (n+1) ((zs++[y]).map (Value.int .i64)):=by rw[vq];exact Ea
  obtain⟨b4,c4,rfl,Ga⟩:=aD.form hown'
  have Ia:=Hd Ga
  have Ja:=Hd ((Ha.o.alloc (by simp;omega) _).grown Fa (by simp;omega) Da.o.row)
  clear Ea hown' Fa Ga
  go_wp2
  go_ret
  exact⟨b4,c4,rfl,Ia.o,Ja.o⟩
theorem qz(w0 w:World)(hz:dU w0 a n c ps)(hbl:m1 w0 w)(ho:aD 123 w w0.heap.size b 0 cap [])(hn:n≤1001):
    Calls prog 164 #[.slice a n c,.slice b 0 cap,.func (.func 166) #[] #[]] w fun e w'=>∃a' cap',e=.returned (.slice a' n cap')∧aD 123 w' w0.heap.size a' n cap' (bW ps)∧m1 w0 w':=by
  have HZ:=Hd hz
  have Ba:=Hd hbl
  have HO:=Hd ho
  clear hz hbl ho
  go_enter func164,ntmps164
  go_wp2
  go_loopw [1,11] (fun s i wr=>∃(k:Nat) (a':Option Addr) (cap':Nat),k≤n∧i=.int .i64 k∧s=.slice a' k cap'∧aD 123 wr w0.heap.size a' k cap' ((bW ps).take k)∧m1 w0 wr) (fun _ i _=>n-(intOf i).toNat)
  case atStart=>exact⟨0,_,_,by omega,rfl,rfl,HO.o,Ba.o⟩
  case round=>
    obtain⟨k,a',cap',hk,rfl,rfl,Ca,Da⟩:=hrel
    have Ea:=Hd Ca
    have Aa:=Hd Da
    clear Ca Da HO Ba
    by_cases Fa:k<n
    · obtain⟨b1,o1,rfl,Ga⟩:=(HZ.o.below Aa.o).at (by omega)
      obtain⟨e1,e2⟩:=Ga k Fa
      have hI:(k:Int)<(n:Int):=by omega
      have HS:=Hd (ju ps (by rw[HZ.o.len];exact Fa))
      clear Ga
      generalize ps.getD k (0,0)=q at e1 e2 HS
      have C1:=t7 (a:=a') (n:=k) (cap:=cap') (i':=w0.heap.size) (zs:=(bW ps).take k) q
      obtain⟨x,y⟩:=q
      dsimp only[cP]at C1 e1 e2
      have Ja:H9 _:=C1
      clear C1
      go_wp2_with fail
      refine(Ja.o _ (Ea.o.below ((m5 _ _).alloc (m3 _) _)) (by have:=Aa.o.size;simp;omega) (by omega)).mono ?_
      rintro e w4 ⟨b4,c4,rfl,Ha,Ia⟩
      have Ka:H9 (aD 123 w4 w0.heap.size b4 (k+1) c4 ((bW ps).take (k+1))):=by
        show aD _ _ _ _ _ _ _
        rw[←HS.o];exact Ha
      have La:=Hd ((Aa.o.alloc Aa.o.size _).trans Ia)
      clear Ha Ia
      go_wp2
      go_roundw
      case rel=>exact⟨k+1,b4,c4,by omega,by go_num,rfl,Ka.o,La.o⟩
      case measure=>simp[intOf];omega
    · have Na:k=n:=by omega
      subst Na
      go_wp2
      go_ret
      refine⟨a',cap',rfl,?_,Aa.o⟩
      have:=Ea.o
      rw[uQ (by rw[ic,HZ.o.len];exact m3 _)]at this
      exact this
theorem tt(w:World)(hz:dU w a n c ps)(hn:n≤1001):
    Calls prog 114 #[.slice a n c] w fun e w'=>∃a' cap',e=.returned (.slice a' n cap')∧aD 123 w' w.heap.size a' n cap' (bW ps)∧m1 w w':=by
  have HZ:=Hd hz
  obtain⟨i0,hi,Aa,Ba,Ca⟩:=info_parts dw
  clear hz
  go_enter func114,ntmps114
  go_wp2_with(at_make;refine wpList_make_own _ rfl _ _ 175 rfl w.heap.size 123 i0 (.int .i64 0) 1 underlying175 hi Aa Ba .i64 .i64 _ n rfl rfl rfl (by rw[Ca];omega) (by unfold maxLen;omega) (m3 _) ?_)
  intro w1 Da hg
  have HO:=Hd Da
  have HB:=Hd (bu hg)
  clear Da hg hi Aa Ba Ca
  go_wp2_with fail
  refine(qz w w1 HZ.o HB.o HO.o hn).mono ?_
  rintro e w2 ⟨a2,c2,rfl,Ea,Fa⟩
  have Ga:=Hd Ea
  have Ha:=Hd Fa
  clear Ea Fa
  go_wp2
  go_ret
  exact⟨a2,c2,rfl,Ga.o,Ha.o⟩
def cz(xs ys:List Int):Nat→List (Int×Int)
  | 0=>[]
  | k+1=>cz xs ys k++[(xs.getD k 0,ys.getD k 0)]
theorem ez(xs ys:List Int):∀k,(cz xs ys k).length=k
  | 0=>rfl
  | k+1=>by rw[cz,vp,ez xs ys k];rfl
theorem dF(xs ys:List Int):∀{k i:Nat},i<k→(cz xs ys k).getD i (0,0)=(xs.getD i 0,ys.getD i 0)
  | k+1,i,h=>by
    rw[cz,m4]
    by_cases e:i=k
    · subst e
      rw[List.getElem?_append_right (by rw[ez];exact m3 _),ez,Nat.sub_self];rfl
    · rw[List.getElem?_append_left (by rw[ez];omega),←m4]
      exact dF xs ys (by omega)
theorem oV{xs ys:List Int}(w:World)(hx:aw w a n c xs)(hy:aw w b n d ys)(hn:n≤1001):
    Calls prog 111 #[.slice a n c,.slice b n d] w fun e w'=>∃a' cap',e=.returned (.slice a' n cap')∧bf 224 w' w.heap.size a' n cap' (cz xs ys n)∧m1 w w':=by
  have HX:=Hd hx
  have HY:=Hd hy
  obtain⟨i0,hi,Da,Ea,Fa⟩:=info_parts gD
  clear hx hy
  go_enter func111,ntmps111
  go_wp2_with(at_make;refine wpList_make_own _ rfl _ _ 181 rfl w.heap.size 224 i0 (.agg #[.int .i64 0,.int .i64 0]) 2 underlying181 hi Da Ea .i64 .i64 _ n rfl rfl rfl (by rw[Fa];omega) (by unfold maxLen;omega) (m3 _) ?_)
  intro w1 Aa hg
  have HO:H9 (bf 224 w1 w.heap.size (some ⟨w.heap.size,0,none⟩) 0 n (cz xs ys 0)):=⟨rfl,Aa⟩
  have HB:=Hd (bu hg)
  clear Aa hg
  go_wp2
  go_loopw [5,13] (fun s i wr=>∃(k:Nat) (a':Option Addr) (cap':Nat),k≤n∧i=.int .i64 k∧s=.slice a' k cap'∧bf 224 wr w.heap.size a' k cap' (cz xs ys k)∧m1 w wr) (fun _ i _=>n-(intOf i).toNat)
  case atStart=>exact⟨0,_,n,by omega,rfl,rfl,HO.o,HB.o⟩
  case round=>
    obtain⟨k,a',cap',hk,rfl,rfl,Ga,Ha⟩:=hrel
    have Ca:=Hd Ga
    have Ba:=Hd Ha
    clear Ga Ha HO HB
    by_cases Ia:k<n
    · obtain⟨b1,o1,rfl,Ja⟩:=(HX.o.below Ba.o).at (by omega)
      obtain⟨b2,o2,rfl,Ka⟩:=(HY.o.below Ba.o).at (by omega)
      have e1:=Ja k Ia
      have e2:=Ka k Ia
      have hI:(k:Int)<(n:Int):=by omega
      have Ra:=Ba.o.size
      have HP:H9 (lQ (cz xs ys k)++[.int .i64 (xs.getD k 0),.int .i64 (ys.getD k 0)]=lQ (cz xs ys (k+1))):=iU _ (xs.getD k 0,ys.getD k 0)
      clear Ja Ka
      generalize xs.getD k 0=x at e1 HP
      generalize ys.getD k 0=y at e2 HP
      go_wp2_with(at_builtin;refine wpList_append_own _ rfl _ _ 181 rfl w.heap.size 224 i0 (.agg #[.int .i64 0,.int .i64 0]) 2 16 underlying181 hi Da Ea Fa rfl (by decide) _ k (lQ (cz xs ys k)) rfl (vw Ca.o.2 _) ⟨wr.heap.size,0,none⟩ 1 1 [.int .i64 x,.int .i64 y] rfl rfl (ei wr _ _ _) (es _ _) (by unfold maxLen;omega) (by omega) (by simp;omega) ?_)
      intro v' w4 Aa La _
      rw[HP.o]at Aa
      obtain⟨b4,c4,rfl,Na⟩:=bf.form (ez xs ys (k+1)) Aa
      have Oa:=Hd Na
      have Pa:=Hd ((Ba.o.alloc Ba.o.size _).grown La (by simp;omega) Ca.o.row)
      clear Aa La Na
      go_wp2
      go_roundw
      case rel=>exact⟨k+1,b4,c4,by omega,by go_num,rfl,Oa.o,Pa.o⟩
      case measure=>simp[intOf];omega
    · have Qa:k=n:=by omega
      subst Qa
      go_wp2
      go_ret
      exact⟨a',cap',rfl,Ca.o,Ba.o⟩
theorem kr(s:Int×Int)(c:Int)(w:World)(hs:M.sOk s=true)(c0:0≤c)(c1:c<65537):
    Rt 161 #[cP s,.int .i64 c] w (cP (s.1*c%65537,s.2*c%65537)):=by
  obtain⟨⟨x0,x1⟩,⟨y0,y1⟩⟩:=(M.sOk_iff _).1 hs
  obtain⟨x,y⟩:=s
  dsimp only[cP]at *
  have Ba:H9 (m1 w ((w.alloc (.cells #[.int .i64 x,.int .i64 y] 224)).alloc (.cells #[.int .i64 0,.int .i64 0] 224))):=((m5 _ _).alloc (m3 _) _).alloc (by simp) _
  have HK:H9 (∀W,Below (w.heap.size+2) ((w.alloc (.cells #[.int .i64 x,.int .i64 y] 224)).alloc (.cells #[.int .i64 0,.int .i64 0] 224)) W→(W.cell? ⟨w.heap.size,0,none⟩=some (.int .i64 x)∧W.cell? ⟨w.heap.size,1,none⟩=some (.int .i64 y))∧W.cell? ⟨w.heap.size+1,0,none⟩=some (.int .i64 0)∧W.frozen? ⟨w.heap.size+1,0,none⟩=false∧W.cell? ⟨w.heap.size+1,1,none⟩=some (.int .i64 0)∧W.frozen? ⟨w.heap.size+1,1,none⟩=false):=fun W hW=>by
    have l0:=(show au ((w.alloc (.cells #[.int .i64 x,.int .i64 y] 224)).alloc (.cells #[.int .i64 0,.int .i64 0] 224)) (w.heap.size) [.int .i64 x,.int .i64 y]from((aM _ _ _).alloc _)).below hW (by omega)
    have l1:=(show au ((w.alloc (.cells #[.int .i64 x,.int .i64 y] 224)).alloc (.cells #[.int .i64 0,.int .i64 0] 224)) (w.heap.size+1) [.int .i64 0,.int .i64 0]from(aZ _ _ _ _)).below hW (by omega)
    exact⟨⟨l0.at 0,l0.at 1⟩,l1.at 0,l1.fr 0,l1.at 1,l1.fr 1⟩
  generalize Ca:((w.alloc (.cells #[.int .i64 x,.int .i64 y] 224)).alloc (.cells #[.int .i64 0,.int .i64 0] 224))=wa at Ba HK
  have Ea:=Hd Ca
  clear Ca
  have Aa:Below (w.heap.size+2) wa wa.drew:=(m5 _ _).drew
  go_enter func161,ntmps161
  go_wp2
  rw[Ea.o]
  obtain⟨-,t0,t1,t2,t3⟩:=HK.o _ (m5 _ _)
  have Fa:H9 (∀(W:World) (g0 g1:Value),(W.cell? ⟨w.heap.size,0,none⟩=some (.int .i64 x)∧W.cell? ⟨w.heap.size,1,none⟩=some (.int .i64 y))→((W.setCell ⟨w.heap.size+1,0,none⟩ g0).setCell ⟨w.heap.size+1,1,none⟩ g1).cell? ⟨w.heap.size,0,none⟩=some (.int .i64 x)∧((W.setCell ⟨w.heap.size+1,0,none⟩ g0).setCell ⟨w.heap.size+1,1,none⟩ g1).cell? ⟨w.heap.size,1,none⟩=some (.int .i64 y)):=fun W g0 g1 h=>by
    have Da:∀(b:Nat) (o:Nat),b≠w.heap.size+1→((W.setCell ⟨w.heap.size+1,0,none⟩ g0).setCell ⟨w.heap.size+1,1,none⟩ g1).cell? ⟨b,o,none⟩=W.cell? ⟨b,o,none⟩:=fun b o hb=>
      (vo (w:=W.setCell ⟨w.heap.size+1,0,none⟩ g0) (a:=⟨w.heap.size+1,1,none⟩) (b:=⟨b,o,none⟩) (v:=g1) (h:=by intro e;simp only[Addr.mk.injEq]at e;omega)).trans (vo (w:=W) (a:=⟨w.heap.size+1,0,none⟩) (b:=⟨b,o,none⟩) (v:=g0) (h:=by intro e;simp only[Addr.mk.injEq]at e;omega))
    obtain⟨h0,h1⟩:=h
    exact⟨(Da _ _ (by omega)).trans h0,(Da _ _ (by omega)).trans h1⟩
  go_region_held3 (fun W=>W.cell? ⟨w.heap.size,0,none⟩=some (.int .i64 x)∧W.cell? ⟨w.heap.size,1,none⟩=some (.int .i64 y)) (first | with_reducible exact(HK.o _ Aa).1 | exact Fa.o _ _ _ (HK.o _ Aa).1)
    (first
      | (go_at_call_of 148 (Value.int .i64 x);refine(bY x c _ x0 x1 c0 c1).mono ?_;rintro e w1 ⟨rfl,rfl⟩)
      | (go_at_call_of 148 (Value.int .i64 y);refine(bY y c _ y0 y1 c0 c1).mono ?_;rintro e w2 ⟨rfl,rfl⟩))
  all_goals
    go_wp2
    refine m8 (v:=.agg #[.int .i64 (x*c%65537),.int .i64 (y*c%65537)]) (by simp[results,results161,go_sem,t0,t2]) rfl ⟨rfl,?_⟩
    exact((Ba.o.trans (Aa.mono (by omega))).setCell (by show w.heap.size≤w.heap.size+1;omega) _).setCell (by show w.heap.size≤w.heap.size+1;omega) _
theorem ld(s q:Int×Int)(w:World)(hs:M.sOk s=true)(hq:M.sOk q=true):
    Rt 160 #[cP s,cP q] w (cP ((s.1+65537-q.1)%65537,(s.2+65537-q.2)%65537)):=by
  obtain⟨⟨x0,x1⟩,⟨y0,y1⟩⟩:=(M.sOk_iff _).1 hs
  obtain⟨⟨u0,u1⟩,⟨v0,v1⟩⟩:=(M.sOk_iff _).1 hq
  obtain⟨x,y⟩:=s
  obtain⟨u,v⟩:=q
  dsimp only[cP]at *
  have Ca:H9 (m1 w (((w.alloc (.cells #[.int .i64 x,.int .i64 y] 224)).alloc (.cells #[.int .i64 u,.int .i64 v] 224)).alloc (.cells #[.int .i64 0,.int .i64 0] 224))):=(((m5 _ _).alloc (m3 _) _).alloc (by simp) _).alloc (by simp;omega) _
  have HK:H9 (∀W,Below (w.heap.size+3) (((w.alloc (.cells #[.int .i64 x,.int .i64 y] 224)).alloc (.cells #[.int .i64 u,.int .i64 v] 224)).alloc (.cells #[.int .i64 0,.int .i64 0] 224)) W→(W.cell? ⟨w.heap.size,0,none⟩=some (.int .i64 x)∧W.cell? ⟨w.heap.size,1,none⟩=some (.int .i64 y)∧W.cell? ⟨w.heap.size+1,0,none⟩=some (.int .i64 u)∧W.cell? ⟨w.heap.size+1,1,none⟩=some (.int .i64 v))∧W.cell? ⟨w.heap.size+1+1,0,none⟩=some (.int .i64 0)∧W.frozen? ⟨w.heap.size+1+1,0,none⟩=false∧W.cell? ⟨w.heap.size+1+1,1,none⟩=some (.int .i64 0)∧W.frozen? ⟨w.heap.size+1+1,1,none⟩=false):=fun W hW=>by
    have l0:=(show au (((w.alloc (.cells #[.int .i64 x,.int .i64 y] 224)).alloc (.cells #[.int .i64 u,.int .i64 v] 224)).alloc (.cells #[.int .i64 0,.int .i64 0] 224)) (w.heap.size) [.int .i64 x,.int .i64 y]from(((aM _ _ _).alloc _).alloc _)).below hW (by omega)
    have l1:=(show au (((w.alloc (.cells #[.int .i64 x,.int .i64 y] 224)).alloc (.cells #[.int .i64 u,.int .i64 v] 224)).alloc (.cells #[.int .i64 0,.int .i64 0] 224)) (w.heap.size+1) [.int .i64 u,.int .i64 v]from((aZ _ _ _ _).alloc _)).below hW (by omega)
    have l2:=(show au (((w.alloc (.cells #[.int .i64 x,.int .i64 y] 224)).alloc (.cells #[.int .i64 u,.int .i64 v] 224)).alloc (.cells #[.int .i64 0,.int .i64 0] 224)) (w.heap.size+1+1) [.int .i64 0,.int .i64 0]from(dm _ _ _ _ _)).below hW (by omega)
    exact⟨⟨l0.at 0,l0.at 1,l1.at 0,l1.at 1⟩,l2.at 0,l2.fr 0,l2.at 1,l2.fr 1⟩
  generalize Da:(((w.alloc (.cells #[.int .i64 x,.int .i64 y] 224)).alloc (.cells #[.int .i64 u,.int .i64 v] 224)).alloc (.cells #[.int .i64 0,.int .i64 0] 224))=wa at Ca HK
  have Ea:=Hd Da
  clear Da
  have Ba:Below (w.heap.size+3) wa wa.drew:=(m5 _ _).drew
  go_enter func160,ntmps160
  go_wp2
  rw[Ea.o]
  obtain⟨-,t0,t1,t2,t3⟩:=HK.o _ (m5 _ _)
  have Fa:H9 (∀(W:World) (g0 g1:Value),(W.cell? ⟨w.heap.size,0,none⟩=some (.int .i64 x)∧W.cell? ⟨w.heap.size,1,none⟩=some (.int .i64 y)∧W.cell? ⟨w.heap.size+1,0,none⟩=some (.int .i64 u)∧W.cell? ⟨w.heap.size+1,1,none⟩=some (.int .i64 v))→((W.setCell ⟨w.heap.size+1+1,0,none⟩ g0).setCell ⟨w.heap.size+1+1,1,none⟩ g1).cell? ⟨w.heap.size,0,none⟩=some (.int .i64 x)∧((W.setCell ⟨w.heap.size+1+1,0,none⟩ g0).setCell ⟨w.heap.size+1+1,1,none⟩ g1).cell? ⟨w.heap.size,1,none⟩=some (.int .i64 y)∧((W.setCell ⟨w.heap.size+1+1,0,none⟩ g0).setCell ⟨w.heap.size+1+1,1,none⟩ g1).cell? ⟨w.heap.size+1,0,none⟩=some (.int .i64 u)∧((W.setCell ⟨w.heap.size+1+1,0,none⟩ g0).setCell ⟨w.heap.size+1+1,1,none⟩ g1).cell? ⟨w.heap.size+1,1,none⟩=some (.int .i64 v)):=fun W g0 g1 h=>by
    have Aa:∀(b:Nat) (o:Nat),b≠w.heap.size+1+1→((W.setCell ⟨w.heap.size+1+1,0,none⟩ g0).setCell ⟨w.heap.size+1+1,1,none⟩ g1).cell? ⟨b,o,none⟩=W.cell? ⟨b,o,none⟩:=fun b o hb=>
      (vo (w:=W.setCell ⟨w.heap.size+1+1,0,none⟩ g0) (a:=⟨w.heap.size+1+1,1,none⟩) (b:=⟨b,o,none⟩) (v:=g1) (h:=by intro e;simp only[Addr.mk.injEq]at e;omega)).trans (vo (w:=W) (a:=⟨w.heap.size+1+1,0,none⟩) (b:=⟨b,o,none⟩) (v:=g0) (h:=by intro e;simp only[Addr.mk.injEq]at e;omega))
    obtain⟨h0,h1,h2,h3⟩:=h
    exact⟨(Aa _ _ (by omega)).trans h0,(Aa _ _ (by omega)).trans h1,(Aa _ _ (by omega)).trans h2,(Aa _ _ (by omega)).trans h3⟩
  go_region_held3 (fun W=>W.cell? ⟨w.heap.size,0,none⟩=some (.int .i64 x)∧W.cell? ⟨w.heap.size,1,none⟩=some (.int .i64 y)∧W.cell? ⟨w.heap.size+1,0,none⟩=some (.int .i64 u)∧W.cell? ⟨w.heap.size+1,1,none⟩=some (.int .i64 v)) (first | with_reducible exact(HK.o _ Ba).1 | exact Fa.o _ _ _ (HK.o _ Ba).1)
    (first
      | (go_at_call_of 162 (Value.int .i64 x);refine(fw x u _ x0 x1 u0 u1).mono ?_;rintro e w1 ⟨rfl,rfl⟩)
      | (go_at_call_of 162 (Value.int .i64 y);refine(fw y v _ y0 y1 v0 v1).mono ?_;rintro e w2 ⟨rfl,rfl⟩))
  all_goals
    go_wp2
    refine m8 (v:=.agg #[.int .i64 ((x+65537-u)%65537),.int .i64 ((y+65537-v)%65537)]) (by simp[results,results160,go_sem,t0,t2]) rfl ⟨rfl,?_⟩
    exact((Ca.o.trans (Ba.mono (by omega))).setCell (by show w.heap.size≤w.heap.size+1+1;omega) _).setCell (by show w.heap.size≤w.heap.size+1+1;omega) _
end Go.Proofs.YtobnifjhikoleaaGreatDoor
