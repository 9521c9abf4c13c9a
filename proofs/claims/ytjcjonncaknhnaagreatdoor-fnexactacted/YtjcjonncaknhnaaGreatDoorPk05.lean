import Derived.Shelf.SortM.Plain
import Derived.Test.YtjcjonncaknhnaaGreatDoorPk04
import Derived.Test.YtjcjonncaknhnaaGreatDoorPk03
namespace Go.Proofs.YtjcjonncaknhnaaGreatDoor
open Go.RowKit Go.Proofs.Tryz
set_option linter.unusedSimpArgs false
set_option maxHeartbeats 32000000
variable {b B n cap g i' pb d k tc j:Nat}{vs:List Value}{v:Value}{P:Program}{w w' wr:World}{a ta:Option Addr}{row:Option Nat}{zs:List Int}{o:Oper}{t:TypeId}{ps:List (Int×Int)}{K:Act→World→Prop}{Q:Exit→Act→World→Prop}{cs ts:List M.Tk}{js:List M.Jb}
theorem ae.c{W:World}(h:ae W b vs)(j:Nat)(e:vs[j]?=some v:=by exact rfl):W.cell? ⟨b,j,none⟩=some v:=(h.at j).trans e
theorem sG{P G:Prop}(f:P→G)(h:P):G:=f h
theorem fA(h:Below w.heap.size w w')(row:Option Nat):w.grownBy w' row:=⟨h.os,h.tape,h.output,h.size,fun k hk _=>h.block k hk⟩
theorem cY(w:World)(row:Option Nat):w.grownBy w.drew row:=fA (tv _ _).drew row
theorem ap{a:World}(h:a.grownBy w row)(hb:Below w.heap.size w w'):a.grownBy w' row:=
  h.trans (fA hb row)
theorem bY{a:World}(h:a.grownBy w (some b))(o:Nat)(us:List Value):a.grownBy (w.setCells b o us) (some b):=by
  have hz:∀(us:List Value) (w:World) (o:Nat),w.grownBy (w.setCells b o us) (some b):=by
    intro us
    induction us with
    | nil=>exact fun w _=>World.grownBy.refl w _
    | cons u us ih=>
      intro w o
      have h1:w.grownBy (w.setCell ⟨b,o,none⟩ u) (some b):=⟨rfl,rfl,rfl,by simp[World.setCell],fun k _ hk=>Below.heap_setCell w _ u k (fun e=>hk (by rw[e]))⟩
      exact h1.trans (ih _ _)
  exact h.trans (hz us w o)
theorem eC{a:World}(h:Below B a w)(hg:w.grownBy w' row)(hB:B≤w.heap.size)(hr:∀k,row=some k→B≤k):Below B a w':=h.grown hg hB hr
theorem ah.grownR(h:ah w a n cap zs)(hg:w.grownBy w' row)(hr:∀x,a=some x→row≠some x.block):ah w' a n cap zs:=
  h.of_cells fun p _ hp ⟨x,hx,he⟩=>hg.cell hp (fun e=>hr x hx (by rw[he,e]))
theorem ar.grownR.lt_of_heap{o:Obj}(h:w.heap[g]?=some o):g<w.heap.size:=by
  rcases Nat.lt_or_ge g w.heap.size with h' | h'
  ·exact h'
  ·rw[Array.getElem?_eq_none h']at h;cases h
theorem ar.grownR(h:ar t w i' a n cap zs)(hg:w.grownBy w' row)(hr:∀x,a=some x→row≠some x.block):ar t w' i' a n cap zs:=by
  refine⟨h.1,?_⟩
  rcases h.2 with e | ⟨g,cp,cur,e,hb,hc,r⟩
  ·exact .inl e
  · refine .inr ⟨g,cp,cur,e,hb,?_,r⟩
    have hx:a=some ⟨g,0,none⟩:=by injection e
    rw[hg.block g (ar.grownR.lt_of_heap hc) (fun e2=>hr _ hx e2.symm)]
    exact hc
theorem aU.grownR(h:aU t w i' a n cap ps)(hg:w.grownBy w' row)(hr:∀x,a=some x→row≠some x.block):aU t w' i' a n cap ps:=by
  refine⟨h.1,h.2.1,?_⟩
  rcases h.2.2 with e | ⟨g,cp,cur,e,hb,hc,r⟩
  ·exact .inl e
  · refine .inr ⟨g,cp,cur,e,hb,?_,r⟩
    have hx:a=some ⟨g,0,none⟩:=by injection e
    rw[hg.block g (ar.grownR.lt_of_heap hc) (fun e2=>hr _ hx e2.symm)]
    exact hc
theorem dt.grownR{c:Nat}(h:dt w a n c ps)(hg:w.grownBy w' row)(hr:∀x,a=some x→row≠some x.block):dt w' a n c ps:=by
  refine⟨h.len,h.le,h.big,h.no,?_⟩
  rcases h.pos with e | ⟨b,off,e,hb⟩
  ·exact .inl e
  ·exact .inr ⟨b,off,e,fun i hi=>⟨hg.cell (hb i hi).1 (fun e2=>hr _ e e2.symm),hg.cell (hb i hi).2 (fun e2=>hr _ e e2.symm)⟩⟩
theorem jN{v':Value}(h:v'.ownBlock=v.ownBlock∨v'.ownBlock=some w.heap.size)(hp:pb<w.heap.size)(hv:v.ownBlock≠some pb):v'.ownBlock≠some pb:=by
  rcases h with e | e
  ·rw[e];exact hv
  ·rw[e];intro e2;injection e2 with e3;omega
theorem mS{c:Nat}(h:(Value.slice a n c).ownBlock≠some b):∀x,a=some x→x.block≠b:=fun x hx e=>h (by subst hx;simp[Value.ownBlock,e])
theorem iy{a:World}(h:a.grownBy w row)(hb:a.heap.size≤b)(o:Nat)(us:List Value):a.grownBy (w.setCells b o us) row:=by
  have hz:∀(us:List Value) (w:World) (o:Nat),a.grownBy w row→a.grownBy (w.setCells b o us) row:=by
    intro us
    induction us with
    | nil=>exact fun _ _ h=>h
    | cons u us ih=>
      intro w o h
      refine ih _ _ ⟨h.os,h.tape,h.output,by have:=h.size;simpa[World.setCell]using this,fun k hk hr=>?_⟩
      rw[Below.heap_setCell w ⟨b,o,none⟩ u k (fun e=>by have:k=b:=e;omega)]
      exact h.block k hk hr
  exact hz us w o h
theorem bf{a:World}(h:a.grownBy w row)(o:Obj):a.grownBy (w.alloc o) row:=h.trans (tO w o row)
theorem lP{a:Act}(s x:Operand)(t:TypeId)
   (ho:o.op=.call {callee:=.builtin .append,args:=#[s,x],argTypes:=#[t,t]})
   (i':Nat)(e:TypeId)(i:TypeInfo)(z:Value)(size bytes:Nat)(ht:P.underlying t=some (.slice e))(hi:P.info? e=some i)(hz:i.zero=some z)
   (hsize:i.size=size)(hby:i.bytes=bytes)(hzs:z.cells.size=size)(hsz:0<size)
   (v:Value)(n:Nat)(xs:List Value)(hs:a.eval s=v)(hown:w.ownsRow i' e size v n xs)
   (ad:Addr)(m c:Nat)(news:List Value)(hx:a.eval x=.slice (some ad) m c)(hl:news.length=m*size)(hnews:∀j u,news[j]?=some u→w.cell? (ad.add j)=some u)(h1:∀u∈news,u.oneCell'=true)
   (h63:n+m≤maxLen)(hbytes:(n+m)*bytes≤140737488355328)(tf:i'≤w.heap.size)
   (h:∀v' w',w'.ownsRow i' e size v' (n+m) (xs++news)→w.grownBy w' v.ownBlock→(v'.ownBlock=v.ownBlock∨v'.ownBlock=some w.heap.size)→K (a.put o.dst v') w'):o.wp P a w K Q:=by
  obtain⟨v',w',hr,h2,h3,h4,h5⟩:=run_append_own_at (P:=P) w i' t o.type e i z size bytes ht hi hz hsize hby hzs hsz v n xs hown ad m c news hl hnews h1 h63 hbytes tf
  unfold Oper.wp execOp
  simp only[ho,resolve,invoke,builtin,Sem.run_bind,Sem.run_pure,Result.andThen_ok,List.map_toArray,List.map_cons,List.map_nil,hs,hx,hr]
  exact h v' w' h2 h3 h5
theorem bH{a:Act}(t:TypeId)(ho:o.op=.alloc t)(cs:Array Value)
   (hrun:(Instr.alloc t true (.tuple #[])).run P w=.ok (.pointer (some ⟨w.heap.size,0,none⟩)) (w.alloc (.cells cs t)))
   (h:K (a.put o.dst (.pointer (some ⟨w.heap.size,0,none⟩))) (w.alloc (.cells cs t))):o.wp P a w K Q:=by
  unfold Oper.wp execOp
  simp only[ho,Sem.run_bind,hrun,Result.andThen_ok,Sem.run_pure]
  exact h
theorem mQ{c:Nat}(h:∀y,a=some y→y.block≠pb):(Value.slice a n c).ownBlock≠some pb:=by
  cases a with
  | none=>simp[Value.ownBlock]
  | some y=>simp only[Value.ownBlock];intro e;injection e with e;exact h y rfl e
theorem sI{b:Option Addr}{c m:Nat}(h:(Value.slice b m d).ownBlock=(Value.slice a n c).ownBlock∨(Value.slice b m d).ownBlock=some w.heap.size)(hp:pb<w.heap.size)(hv:∀y,a=some y→y.block≠pb):∀y,b=some y→y.block≠pb:=
  mS (jN h hp (mQ hv))
theorem j7(ps:List (Int×Int))(h:k<ps.length):ps.take k++[ps.getD k (0,0)]=ps.take (k+1):=by
  rw[tK h];simp[tu,h]
def cF(ps:List (Int×Int)):List Int:=ps.map Prod.fst
def cI(ps:List (Int×Int)):List Int:=ps.map Prod.snd
theorem l9(ps:List (Int×Int))(h:k<ps.length):(cF ps).take k++[(ps.getD k (0,0)).1]=(cF ps).take (k+1):=by
  unfold cF;rw[←List.map_take,←List.map_take,←j7 ps h,t8];rfl
theorem mu(ps:List (Int×Int))(h:k<ps.length):(cI ps).take k++[(ps.getD k (0,0)).2]=(cI ps).take (k+1):=by
  unfold cI;rw[←List.map_take,←List.map_take,←j7 ps h,t8];rfl
theorem nJ(ps:List (Int×Int)):(cF ps).length=ps.length:=by simp[cF]
theorem nY(ps:List (Int×Int)):(cI ps).length=ps.length:=by simp[cI]
theorem sn(s:Int×Int)(w:World)(ho:ar 182 w i' a n cap zs)(hb:i'≤w.heap.size)(hn:n≤2000):
    Calls prog 258 #[.slice a n cap,cC s] w fun e w'=>∃a' cap',e=.returned (.slice a' (n+1) cap')∧ar 182 w' i' a' (n+1) cap' (zs++[s.1])∧Below i' w w':=by
  have HO:=Hd (ho)
  obtain⟨i0,hi,Aa,Ba,Ca⟩:=info_parts dk
  have HI:H9 (prog.info? 182=some i0∧i0.zero=some (Value.int .i64 0)∧i0.size=1∧i0.bytes=8):=⟨hi,Aa,Ba,Ca⟩
  clear ho hi Aa Ba Ca
  obtain⟨x,y⟩:=s
  dsimp only[cC]
  have Ha:H9 (Below i' w (w.alloc (.cells #[.int .i64 x,.int .i64 y] 328))):=(tv _ _).alloc hb _
  have Da:H9 (ar 182 (w.alloc (.cells #[.int .i64 x,.int .i64 y] 328)) i' a n cap zs):=HO.o.below ((tv _ _).alloc (tr _) _)
  go_enter func258,ntmps258
  go_wp2_with(at_builtin;refine wpList_append_own _ rfl _ _ 125 rfl i' 182 i0 (.int .i64 0) 1 8 underlying125 HI.o.1 HI.o.2.1 HI.o.2.2.1 HI.o.2.2.2 rfl (by decide) _ n (zs.map (Value.int .i64)) rfl (uc Da.o _) ⟨(w.alloc (.cells #[.int .i64 x,.int .i64 y] 328)).heap.size,0,none⟩ 1 1 [.int .i64 x] (by simp[Act.eval]) rfl (b7 _ _ _) (cJ _) (by unfold maxLen;omega) (by omega) (by simp;omega) ?_)
  intro v' w4 Ea Fa _
  have hown':w4.ownsRow i' 182 1 v' (n+1) ((zs++[x]).map (Value.int .i64)):=by rw[t8];exact Ea
  obtain⟨b4,c4,rfl,Ga⟩:=ar.form hown'
  have Ia:=Hd (Ga)
  have Ja:H9 (Below i' w w4):=(Ha.o.alloc (by simp;omega) _).grown Fa (by simp;omega) Da.o.row
  clear Ea hown' Fa Ga
  go_wp2
  go_ret
  exact⟨b4,c4,rfl,Ia.o,Ja.o⟩
theorem oB{b:Option Addr}{c:Nat}(w0 w:World)(hz:dt w0 a n c ps)(hbl:Below w0.heap.size w0 w)(ho:ar 182 w w0.heap.size b 0 cap [])(hn:n≤1001):
    Calls prog 257 #[.slice a n c,.slice b 0 cap,.func (.func 258) #[] #[]] w fun e w'=>∃a' cap',e=.returned (.slice a' n cap')∧ar 182 w' w0.heap.size a' n cap' (cF ps)∧Below w0.heap.size w0 w':=by
  have HZ:=Hd (hz)
  have Ba:=Hd (hbl)
  have HO:=Hd (ho)
  clear hz hbl ho
  go_enter func257,ntmps257
  go_wp2
  go_loopw [1,11] (fun s i wr=>∃(k:Nat) (a':Option Addr) (cap':Nat),k≤n∧i=.int .i64 k∧s=.slice a' k cap'∧ar 182 wr w0.heap.size a' k cap' ((cF ps).take k)∧Below w0.heap.size w0 wr) (fun _ i _=>n-(intOf i).toNat)
  case atStart=>exact⟨0,_,_,by omega,rfl,rfl,HO.o,Ba.o⟩
  case round=>
    obtain⟨k,a',cap',hk,rfl,rfl,Ca,Da⟩:=hrel
    have Ea:=Hd (Ca)
    have Aa:=Hd (Da)
    clear Ca Da HO Ba
    by_cases Fa:k<n
    · obtain⟨b1,o1,rfl,Ga⟩:=(HZ.o.below Aa.o).at (by omega)
      obtain⟨e1,e2⟩:=Ga k Fa
      have hI:(k:Int)<(n:Int):=by omega
      have HS:H9 ((cF ps).take k++[(ps.getD k (0,0)).1]=(cF ps).take (k+1)):=l9 ps (by rw[HZ.o.len];exact Fa)
      clear Ga
      generalize ps.getD k (0,0)=q at e1 e2 HS
      have C1:=sn (a:=a') (n:=k) (cap:=cap') (i':=w0.heap.size) (zs:=(cF ps).take k) q
      obtain⟨x,y⟩:=q
      dsimp only[cC]at C1 e1 e2
      have Ja:H9 _:=C1
      clear C1
      go_wp2_with fail
      refine(Ja.o _ (Ea.o.below ((tv _ _).alloc (tr _) _)) (by have:=Aa.o.size;simp;omega) (by omega)).mono ?_
      rintro e w4 ⟨b4,c4,rfl,Ha,Ia⟩
      have Ka:H9 (ar 182 w4 w0.heap.size b4 (k+1) c4 ((cF ps).take (k+1))):=by
        show ar _ _ _ _ _ _ _
        rw[←HS.o];exact Ha
      have La:H9 (Below w0.heap.size w0 w4):=(Aa.o.alloc Aa.o.size _).trans Ia
      clear Ha Ia
      go_wp2
      go_roundw
      case rel=>exact⟨k+1,b4,c4,by omega,by go_num,rfl,Ka.o,La.o⟩
      case measure=>simp[intOf];omega
    · have Na:k=n:=by omega
      subst Na
      go_wp2
      go_ret
      refine⟨a',cap',rfl,?_,Aa.o⟩
      have:=Ea.o
      rw[tF (by rw[nJ,HZ.o.len];exact tr _)]at this
      exact this
theorem rI{c:Nat}(w:World)(hz:dt w a n c ps)(hn:n≤1001):
    Calls prog 185 #[.slice a n c] w fun e w'=>∃a' cap',e=.returned (.slice a' n cap')∧ar 182 w' w.heap.size a' n cap' (cF ps)∧Below w.heap.size w w':=by
  have HZ:=Hd (hz)
  obtain⟨i0,hi,Aa,Ba,Ca⟩:=info_parts dk
  clear hz
  go_enter func185,ntmps185
  go_wp2_with(at_make;refine wpList_make_own _ rfl _ _ 125 rfl w.heap.size 182 i0 (.int .i64 0) 1 underlying125 hi Aa Ba .i64 .i64 _ n rfl rfl rfl (by rw[Ca];omega) (by unfold maxLen;omega) (tr _) ?_)
  intro w1 Da hg
  have HO:=Hd (Da)
  have HB:H9 (Below w.heap.size w w1):=bq hg
  clear Da hg hi Aa Ba Ca
  go_wp2_with fail
  refine(oB w w1 HZ.o HB.o HO.o hn).mono ?_
  rintro e w2 ⟨a2,c2,rfl,Ea,Fa⟩
  have Ga:=Hd (Ea)
  have Ha:=Hd (Fa)
  clear Ea Fa
  go_wp2
  go_ret
  exact⟨a2,c2,rfl,Ga.o,Ha.o⟩
theorem so(s:Int×Int)(w:World)(ho:ar 182 w i' a n cap zs)(hb:i'≤w.heap.size)(hn:n≤2000):
    Calls prog 259 #[.slice a n cap,cC s] w fun e w'=>∃a' cap',e=.returned (.slice a' (n+1) cap')∧ar 182 w' i' a' (n+1) cap' (zs++[s.2])∧Below i' w w':=by
  have HO:=Hd (ho)
  obtain⟨i0,hi,Aa,Ba,Ca⟩:=info_parts dk
  have HI:H9 (prog.info? 182=some i0∧i0.zero=some (Value.int .i64 0)∧i0.size=1∧i0.bytes=8):=⟨hi,Aa,Ba,Ca⟩
  clear ho hi Aa Ba Ca
  obtain⟨x,y⟩:=s
  dsimp only[cC]
  have Ha:H9 (Below i' w (w.alloc (.cells #[.int .i64 x,.int .i64 y] 328))):=(tv _ _).alloc hb _
  have Da:H9 (ar 182 (w.alloc (.cells #[.int .i64 x,.int .i64 y] 328)) i' a n cap zs):=HO.o.below ((tv _ _).alloc (tr _) _)
  go_enter func259,ntmps259
  go_wp2_with(at_builtin;refine wpList_append_own _ rfl _ _ 125 rfl i' 182 i0 (.int .i64 0) 1 8 underlying125 HI.o.1 HI.o.2.1 HI.o.2.2.1 HI.o.2.2.2 rfl (by decide) _ n (zs.map (Value.int .i64)) rfl (uc Da.o _) ⟨(w.alloc (.cells #[.int .i64 x,.int .i64 y] 328)).heap.size,0,none⟩ 1 1 [.int .i64 y] (by simp[Act.eval]) rfl (b7 _ _ _) (cJ _) (by unfold maxLen;omega) (by omega) (by simp;omega) ?_)
  intro v' w4 Ea Fa _
  have hown':w4.ownsRow i' 182 1 v' (n+1) ((zs++[y]).map (Value.int .i64)):=by rw[t8];exact Ea
  obtain⟨b4,c4,rfl,Ga⟩:=ar.form hown'
  have Ia:=Hd (Ga)
  have Ja:H9 (Below i' w w4):=(Ha.o.alloc (by simp;omega) _).grown Fa (by simp;omega) Da.o.row
  clear Ea hown' Fa Ga
  go_wp2
  go_ret
  exact⟨b4,c4,rfl,Ia.o,Ja.o⟩
theorem oC{b:Option Addr}{c:Nat}(w0 w:World)(hz:dt w0 a n c ps)(hbl:Below w0.heap.size w0 w)(ho:ar 182 w w0.heap.size b 0 cap [])(hn:n≤1001):
    Calls prog 257 #[.slice a n c,.slice b 0 cap,.func (.func 259) #[] #[]] w fun e w'=>∃a' cap',e=.returned (.slice a' n cap')∧ar 182 w' w0.heap.size a' n cap' (cI ps)∧Below w0.heap.size w0 w':=by
  have HZ:=Hd (hz)
  have Ba:=Hd (hbl)
  have HO:=Hd (ho)
  clear hz hbl ho
  go_enter func257,ntmps257
  go_wp2
  go_loopw [1,11] (fun s i wr=>∃(k:Nat) (a':Option Addr) (cap':Nat),k≤n∧i=.int .i64 k∧s=.slice a' k cap'∧ar 182 wr w0.heap.size a' k cap' ((cI ps).take k)∧Below w0.heap.size w0 wr) (fun _ i _=>n-(intOf i).toNat)
  case atStart=>exact⟨0,_,_,by omega,rfl,rfl,HO.o,Ba.o⟩
  case round=>
    obtain⟨k,a',cap',hk,rfl,rfl,Ca,Da⟩:=hrel
    have Ea:=Hd (Ca)
    have Aa:=Hd (Da)
    clear Ca Da HO Ba
    by_cases Fa:k<n
    · obtain⟨b1,o1,rfl,Ga⟩:=(HZ.o.below Aa.o).at (by omega)
      obtain⟨e1,e2⟩:=Ga k Fa
      have hI:(k:Int)<(n:Int):=by omega
      have HS:H9 ((cI ps).take k++[(ps.getD k (0,0)).2]=(cI ps).take (k+1)):=mu ps (by rw[HZ.o.len];exact Fa)
      clear Ga
      generalize ps.getD k (0,0)=q at e1 e2 HS
      have C1:=so (a:=a') (n:=k) (cap:=cap') (i':=w0.heap.size) (zs:=(cI ps).take k) q
      obtain⟨x,y⟩:=q
      dsimp only[cC]at C1 e1 e2
      have Ja:H9 _:=C1
      clear C1
      go_wp2_with fail
      refine(Ja.o _ (Ea.o.below ((tv _ _).alloc (tr _) _)) (by have:=Aa.o.size;simp;omega) (by omega)).mono ?_
      rintro e w4 ⟨b4,c4,rfl,Ha,Ia⟩
      have Ka:H9 (ar 182 w4 w0.heap.size b4 (k+1) c4 ((cI ps).take (k+1))):=by
        show ar _ _ _ _ _ _ _
        rw[←HS.o];exact Ha
      have La:H9 (Below w0.heap.size w0 w4):=(Aa.o.alloc Aa.o.size _).trans Ia
      clear Ha Ia
      go_wp2
      go_roundw
      case rel=>exact⟨k+1,b4,c4,by omega,by go_num,rfl,Ka.o,La.o⟩
      case measure=>simp[intOf];omega
    · have Na:k=n:=by omega
      subst Na
      go_wp2
      go_ret
      refine⟨a',cap',rfl,?_,Aa.o⟩
      have:=Ea.o
      rw[tF (by rw[nY,HZ.o.len];exact tr _)]at this
      exact this
theorem rJ{c:Nat}(w:World)(hz:dt w a n c ps)(hn:n≤1001):
    Calls prog 186 #[.slice a n c] w fun e w'=>∃a' cap',e=.returned (.slice a' n cap')∧ar 182 w' w.heap.size a' n cap' (cI ps)∧Below w.heap.size w w':=by
  have HZ:=Hd (hz)
  obtain⟨i0,hi,Aa,Ba,Ca⟩:=info_parts dk
  clear hz
  go_enter func186,ntmps186
  go_wp2_with(at_make;refine wpList_make_own _ rfl _ _ 125 rfl w.heap.size 182 i0 (.int .i64 0) 1 underlying125 hi Aa Ba .i64 .i64 _ n rfl rfl rfl (by rw[Ca];omega) (by unfold maxLen;omega) (tr _) ?_)
  intro w1 Da hg
  have HO:=Hd (Da)
  have HB:H9 (Below w.heap.size w w1):=bq hg
  clear Da hg hi Aa Ba Ca
  go_wp2_with fail
  refine(oC w w1 HZ.o HB.o HO.o hn).mono ?_
  rintro e w2 ⟨a2,c2,rfl,Ea,Fa⟩
  have Ga:=Hd (Ea)
  have Ha:=Hd (Fa)
  clear Ea Fa
  go_wp2
  go_ret
  exact⟨a2,c2,rfl,Ga.o,Ha.o⟩
def ch(xs ys:List Int):Nat→List (Int×Int)
  | 0=>[]
  | k+1=>ch xs ys k++[(xs.getD k 0,ys.getD k 0)]
theorem ed(xs ys:List Int):∀k,(ch xs ys k).length=k
  | 0=>rfl
  | k+1=>by rw[ch,t7,ed xs ys k];rfl
theorem dx(xs ys:List Int):∀{k i:Nat},i<k→(ch xs ys k).getD i (0,0)=(xs.getD i 0,ys.getD i 0)
  | k+1,i,h=>by
    rw[ch,tu]
    by_cases e:i=k
    · subst e
      rw[List.getElem?_append_right (by rw[ed];exact tr _),ed,Nat.sub_self];rfl
    · rw[List.getElem?_append_left (by rw[ed];omega),←tu]
      exact dx xs ys (by omega)
theorem mV{b:Option Addr}{c:Nat}{xs ys:List Int}(w:World)(hx:ah w a n c xs)(hy:ah w b n d ys)(hn:n≤1001):
    Calls prog 183 #[.slice a n c,.slice b n d] w fun e w'=>∃a' cap',e=.returned (.slice a' n cap')∧aU 328 w' w.heap.size a' n cap' (ch xs ys n)∧Below w.heap.size w w':=by
  have HX:=Hd (hx)
  have HY:=Hd (hy)
  obtain⟨i0,hi,Da,Ea,Fa⟩:=info_parts fM
  clear hx hy
  go_enter func183,ntmps183
  go_wp2_with(at_make;refine wpList_make_own _ rfl _ _ 268 rfl w.heap.size 328 i0 (.agg #[.int .i64 0,.int .i64 0]) 2 underlying268 hi Da Ea .i64 .i64 _ n rfl rfl rfl (by rw[Fa];omega) (by unfold maxLen;omega) (tr _) ?_)
  intro w1 Aa hg
  have HO:H9 (aU 328 w1 w.heap.size (some ⟨w.heap.size,0,none⟩) 0 n (ch xs ys 0)):=⟨rfl,Aa⟩
  have HB:H9 (Below w.heap.size w w1):=bq hg
  clear Aa hg
  go_wp2
  go_loopw [5,13] (fun s i wr=>∃(k:Nat) (a':Option Addr) (cap':Nat),k≤n∧i=.int .i64 k∧s=.slice a' k cap'∧aU 328 wr w.heap.size a' k cap' (ch xs ys k)∧Below w.heap.size w wr) (fun _ i _=>n-(intOf i).toNat)
  case atStart=>exact⟨0,_,n,by omega,rfl,rfl,HO.o,HB.o⟩
  case round=>
    obtain⟨k,a',cap',hk,rfl,rfl,Ga,Ha⟩:=hrel
    have Ca:=Hd (Ga)
    have Ba:=Hd (Ha)
    clear Ga Ha HO HB
    by_cases Ia:k<n
    · obtain⟨b1,o1,rfl,Ja⟩:=(HX.o.below Ba.o).at (by omega)
      obtain⟨b2,o2,rfl,Ka⟩:=(HY.o.below Ba.o).at (by omega)
      have e1:=Ja k Ia
      have e2:=Ka k Ia
      have hI:(k:Int)<(n:Int):=by omega
      have Ra:w.heap.size≤wr.heap.size:=Ba.o.size
      have HP:H9 (kW (ch xs ys k)++[.int .i64 (xs.getD k 0),.int .i64 (ys.getD k 0)]=kW (ch xs ys (k+1))):=hU _ (xs.getD k 0,ys.getD k 0)
      clear Ja Ka
      generalize xs.getD k 0=x at e1 HP
      generalize ys.getD k 0=y at e2 HP
      go_wp2_with(at_builtin;refine wpList_append_own _ rfl _ _ 268 rfl w.heap.size 328 i0 (.agg #[.int .i64 0,.int .i64 0]) 2 16 underlying268 hi Da Ea Fa rfl (by decide) _ k (kW (ch xs ys k)) rfl (uc Ca.o.2 _) ⟨wr.heap.size,0,none⟩ 1 1 [.int .i64 x,.int .i64 y] rfl rfl (d8 wr _ _ _) (d9 _ _) (by unfold maxLen;omega) (by omega) (by simp;omega) ?_)
      intro v' w4 Aa La _
      rw[HP.o]at Aa
      obtain⟨b4,c4,rfl,Na⟩:=aU.form (ed xs ys (k+1)) Aa
      have Oa:=Hd (Na)
      have Pa:H9 (Below w.heap.size w w4):=(Ba.o.alloc Ba.o.size _).grown La (by simp;omega) Ca.o.row
      clear Aa La Na
      go_wp2
      go_roundw
      case rel=>exact⟨k+1,b4,c4,by omega,by go_num,rfl,Oa.o,Pa.o⟩
      case measure=>simp[intOf];omega
    · have Qa:k=n:=by omega
      subst Qa
      go_wp2
      go_ret
      exact⟨a',cap',rfl,Ca.o,Ba.o⟩
theorem jY(s:Int×Int)(c:Int)(w:World)(hs:M.sOk s=true)(c0:0≤c)(c1:c<65537):
    Rt 255 #[cC s,.int .i64 c] w (cC (s.1*c%65537,s.2*c%65537)):=by
  obtain⟨⟨x0,x1⟩,⟨y0,y1⟩⟩:=(M.sOk_iff _).1 hs
  obtain⟨x,y⟩:=s
  dsimp only[cC]at *
  have Ba:H9 (Below w.heap.size w ((w.alloc (.cells #[.int .i64 x,.int .i64 y] 328)).alloc (.cells #[.int .i64 0,.int .i64 0] 328))):=((tv _ _).alloc (tr _) _).alloc (by simp) _
  have HK:H9 (∀W,Below (w.heap.size+2) ((w.alloc (.cells #[.int .i64 x,.int .i64 y] 328)).alloc (.cells #[.int .i64 0,.int .i64 0] 328)) W→(W.cell? ⟨w.heap.size,0,none⟩=some (.int .i64 x)∧W.cell? ⟨w.heap.size,1,none⟩=some (.int .i64 y))∧W.cell? ⟨w.heap.size+1,0,none⟩=some (.int .i64 0)∧W.frozen? ⟨w.heap.size+1,0,none⟩=false∧W.cell? ⟨w.heap.size+1,1,none⟩=some (.int .i64 0)∧W.frozen? ⟨w.heap.size+1,1,none⟩=false):=fun W hW=>by
    have l0:ae W (w.heap.size) [.int .i64 x,.int .i64 y]:=(show ae ((w.alloc (.cells #[.int .i64 x,.int .i64 y] 328)).alloc (.cells #[.int .i64 0,.int .i64 0] 328)) (w.heap.size) [.int .i64 x,.int .i64 y]from((aI _ _ _).alloc _)).below hW (by omega)
    have l1:ae W (w.heap.size+1) [.int .i64 0,.int .i64 0]:=(show ae ((w.alloc (.cells #[.int .i64 x,.int .i64 y] 328)).alloc (.cells #[.int .i64 0,.int .i64 0] 328)) (w.heap.size+1) [.int .i64 0,.int .i64 0]from(aO _ _ _ _)).below hW (by omega)
    exact⟨⟨l0.at 0,l0.at 1⟩,l1.at 0,l1.fr 0,l1.at 1,l1.fr 1⟩
  generalize Ca:((w.alloc (.cells #[.int .i64 x,.int .i64 y] 328)).alloc (.cells #[.int .i64 0,.int .i64 0] 328))=wa at Ba HK
  have Ea:=Hd (Ca)
  clear Ca
  have Aa:Below (w.heap.size+2) wa wa.drew:=(tv _ _).drew
  go_enter func255,ntmps255
  go_wp2
  rw[Ea.o]
  obtain⟨-,t0,t1,t2,t3⟩:=HK.o _ (tv _ _)
  have Fa:H9 (∀(W:World) (g0 g1:Value),(W.cell? ⟨w.heap.size,0,none⟩=some (.int .i64 x)∧W.cell? ⟨w.heap.size,1,none⟩=some (.int .i64 y))→((W.setCell ⟨w.heap.size+1,0,none⟩ g0).setCell ⟨w.heap.size+1,1,none⟩ g1).cell? ⟨w.heap.size,0,none⟩=some (.int .i64 x)∧((W.setCell ⟨w.heap.size+1,0,none⟩ g0).setCell ⟨w.heap.size+1,1,none⟩ g1).cell? ⟨w.heap.size,1,none⟩=some (.int .i64 y)):=fun W g0 g1 h=>by
    have Da:∀(b:Nat) (o:Nat),b≠w.heap.size+1→((W.setCell ⟨w.heap.size+1,0,none⟩ g0).setCell ⟨w.heap.size+1,1,none⟩ g1).cell? ⟨b,o,none⟩=W.cell? ⟨b,o,none⟩:=fun b o hb=>
      (t6 (w:=W.setCell ⟨w.heap.size+1,0,none⟩ g0) (a:=⟨w.heap.size+1,1,none⟩) (b:=⟨b,o,none⟩) (v:=g1) (h:=by intro e;simp only[Addr.mk.injEq]at e;omega)).trans (t6 (w:=W) (a:=⟨w.heap.size+1,0,none⟩) (b:=⟨b,o,none⟩) (v:=g0) (h:=by intro e;simp only[Addr.mk.injEq]at e;omega))
    obtain⟨h0,h1⟩:=h
    exact⟨(Da _ _ (by omega)).trans h0,(Da _ _ (by omega)).trans h1⟩
  go_region_held3 (fun W=>W.cell? ⟨w.heap.size,0,none⟩=some (.int .i64 x)∧W.cell? ⟨w.heap.size,1,none⟩=some (.int .i64 y)) (first | with_reducible exact(HK.o _ Aa).1 | exact Fa.o _ _ _ (HK.o _ Aa).1)
    (first
      | (go_at_call_of 141 (Value.int .i64 x);refine(bM x c _ x0 x1 c0 c1).mono ?_;rintro e w1 ⟨rfl,rfl⟩)
      | (go_at_call_of 141 (Value.int .i64 y);refine(bM y c _ y0 y1 c0 c1).mono ?_;rintro e w2 ⟨rfl,rfl⟩))
  all_goals
    go_wp2
    refine tx (v:=.agg #[.int .i64 (x*c%65537),.int .i64 (y*c%65537)]) (by simp[results,results255,go_sem,t0,t2]) rfl ⟨rfl,?_⟩
    exact((Ba.o.trans (Aa.mono (by omega))).setCell (by show w.heap.size≤w.heap.size+1;omega) _).setCell (by show w.heap.size≤w.heap.size+1;omega) _
theorem ks(s q:Int×Int)(w:World)(hs:M.sOk s=true)(hq:M.sOk q=true):
    Rt 254 #[cC s,cC q] w (cC ((s.1+65537-q.1)%65537,(s.2+65537-q.2)%65537)):=by
  obtain⟨⟨x0,x1⟩,⟨y0,y1⟩⟩:=(M.sOk_iff _).1 hs
  obtain⟨⟨u0,u1⟩,⟨v0,v1⟩⟩:=(M.sOk_iff _).1 hq
  obtain⟨x,y⟩:=s
  obtain⟨u,v⟩:=q
  dsimp only[cC]at *
  have Ca:H9 (Below w.heap.size w (((w.alloc (.cells #[.int .i64 x,.int .i64 y] 328)).alloc (.cells #[.int .i64 u,.int .i64 v] 328)).alloc (.cells #[.int .i64 0,.int .i64 0] 328))):=(((tv _ _).alloc (tr _) _).alloc (by simp) _).alloc (by simp;omega) _
  have HK:H9 (∀W,Below (w.heap.size+3) (((w.alloc (.cells #[.int .i64 x,.int .i64 y] 328)).alloc (.cells #[.int .i64 u,.int .i64 v] 328)).alloc (.cells #[.int .i64 0,.int .i64 0] 328)) W→(W.cell? ⟨w.heap.size,0,none⟩=some (.int .i64 x)∧W.cell? ⟨w.heap.size,1,none⟩=some (.int .i64 y)∧W.cell? ⟨w.heap.size+1,0,none⟩=some (.int .i64 u)∧W.cell? ⟨w.heap.size+1,1,none⟩=some (.int .i64 v))∧W.cell? ⟨w.heap.size+1+1,0,none⟩=some (.int .i64 0)∧W.frozen? ⟨w.heap.size+1+1,0,none⟩=false∧W.cell? ⟨w.heap.size+1+1,1,none⟩=some (.int .i64 0)∧W.frozen? ⟨w.heap.size+1+1,1,none⟩=false):=fun W hW=>by
    have l0:ae W (w.heap.size) [.int .i64 x,.int .i64 y]:=(show ae (((w.alloc (.cells #[.int .i64 x,.int .i64 y] 328)).alloc (.cells #[.int .i64 u,.int .i64 v] 328)).alloc (.cells #[.int .i64 0,.int .i64 0] 328)) (w.heap.size) [.int .i64 x,.int .i64 y]from(((aI _ _ _).alloc _).alloc _)).below hW (by omega)
    have l1:ae W (w.heap.size+1) [.int .i64 u,.int .i64 v]:=(show ae (((w.alloc (.cells #[.int .i64 x,.int .i64 y] 328)).alloc (.cells #[.int .i64 u,.int .i64 v] 328)).alloc (.cells #[.int .i64 0,.int .i64 0] 328)) (w.heap.size+1) [.int .i64 u,.int .i64 v]from((aO _ _ _ _).alloc _)).below hW (by omega)
    have l2:ae W (w.heap.size+1+1) [.int .i64 0,.int .i64 0]:=(show ae (((w.alloc (.cells #[.int .i64 x,.int .i64 y] 328)).alloc (.cells #[.int .i64 u,.int .i64 v] 328)).alloc (.cells #[.int .i64 0,.int .i64 0] 328)) (w.heap.size+1+1) [.int .i64 0,.int .i64 0]from(cB _ _ _ _ _)).below hW (by omega)
    exact⟨⟨l0.at 0,l0.at 1,l1.at 0,l1.at 1⟩,l2.at 0,l2.fr 0,l2.at 1,l2.fr 1⟩
  generalize Da:(((w.alloc (.cells #[.int .i64 x,.int .i64 y] 328)).alloc (.cells #[.int .i64 u,.int .i64 v] 328)).alloc (.cells #[.int .i64 0,.int .i64 0] 328))=wa at Ca HK
  have Ea:=Hd (Da)
  clear Da
  have Ba:Below (w.heap.size+3) wa wa.drew:=(tv _ _).drew
  go_enter func254,ntmps254
  go_wp2
  rw[Ea.o]
  obtain⟨-,t0,t1,t2,t3⟩:=HK.o _ (tv _ _)
  have Fa:H9 (∀(W:World) (g0 g1:Value),(W.cell? ⟨w.heap.size,0,none⟩=some (.int .i64 x)∧W.cell? ⟨w.heap.size,1,none⟩=some (.int .i64 y)∧W.cell? ⟨w.heap.size+1,0,none⟩=some (.int .i64 u)∧W.cell? ⟨w.heap.size+1,1,none⟩=some (.int .i64 v))→((W.setCell ⟨w.heap.size+1+1,0,none⟩ g0).setCell ⟨w.heap.size+1+1,1,none⟩ g1).cell? ⟨w.heap.size,0,none⟩=some (.int .i64 x)∧((W.setCell ⟨w.heap.size+1+1,0,none⟩ g0).setCell ⟨w.heap.size+1+1,1,none⟩ g1).cell? ⟨w.heap.size,1,none⟩=some (.int .i64 y)∧((W.setCell ⟨w.heap.size+1+1,0,none⟩ g0).setCell ⟨w.heap.size+1+1,1,none⟩ g1).cell? ⟨w.heap.size+1,0,none⟩=some (.int .i64 u)∧((W.setCell ⟨w.heap.size+1+1,0,none⟩ g0).setCell ⟨w.heap.size+1+1,1,none⟩ g1).cell? ⟨w.heap.size+1,1,none⟩=some (.int .i64 v)):=fun W g0 g1 h=>by
    have Aa:∀(b:Nat) (o:Nat),b≠w.heap.size+1+1→((W.setCell ⟨w.heap.size+1+1,0,none⟩ g0).setCell ⟨w.heap.size+1+1,1,none⟩ g1).cell? ⟨b,o,none⟩=W.cell? ⟨b,o,none⟩:=fun b o hb=>
      (t6 (w:=W.setCell ⟨w.heap.size+1+1,0,none⟩ g0) (a:=⟨w.heap.size+1+1,1,none⟩) (b:=⟨b,o,none⟩) (v:=g1) (h:=by intro e;simp only[Addr.mk.injEq]at e;omega)).trans (t6 (w:=W) (a:=⟨w.heap.size+1+1,0,none⟩) (b:=⟨b,o,none⟩) (v:=g0) (h:=by intro e;simp only[Addr.mk.injEq]at e;omega))
    obtain⟨h0,h1,h2,h3⟩:=h
    exact⟨(Aa _ _ (by omega)).trans h0,(Aa _ _ (by omega)).trans h1,(Aa _ _ (by omega)).trans h2,(Aa _ _ (by omega)).trans h3⟩
  go_region_held3 (fun W=>W.cell? ⟨w.heap.size,0,none⟩=some (.int .i64 x)∧W.cell? ⟨w.heap.size,1,none⟩=some (.int .i64 y)∧W.cell? ⟨w.heap.size+1,0,none⟩=some (.int .i64 u)∧W.cell? ⟨w.heap.size+1,1,none⟩=some (.int .i64 v)) (first | with_reducible exact(HK.o _ Ba).1 | exact Fa.o _ _ _ (HK.o _ Ba).1)
    (first
      | (go_at_call_of 224 (Value.int .i64 x);refine(eQ x u _ x0 x1 u0 u1).mono ?_;rintro e w1 ⟨rfl,rfl⟩)
      | (go_at_call_of 224 (Value.int .i64 y);refine(eQ y v _ y0 y1 v0 v1).mono ?_;rintro e w2 ⟨rfl,rfl⟩))
  all_goals
    go_wp2
    refine tx (v:=.agg #[.int .i64 ((x+65537-u)%65537),.int .i64 ((y+65537-v)%65537)]) (by simp[results,results254,go_sem,t0,t2]) rfl ⟨rfl,?_⟩
    exact((Ca.o.trans (Ba.mono (by omega))).setCell (by show w.heap.size≤w.heap.size+1+1;omega) _).setCell (by show w.heap.size≤w.heap.size+1+1;omega) _
theorem dv(w:World)(b o:Nat)(cs:List Value):w.grownBy (w.setCells b o cs) (some b):=bY (World.grownBy.refl _ _) o _
theorem cw{ops:Array Oper}{id:Nat}{a:Act}(w:World)(row:Option Nat)(hm:P.follows .mixedOrders=true)
   (h:w.grownBy w.drew row→wpAnyH P .any ops (NoPanic Q) (fun W=>w.grownBy W row) ops.size (Array.replicate ops.size false) a w.drew):(Code.region id ops true).wp P Q a w:=
  wp_region_noPanic (wp_region_held_drew (S:=fun W=>w.grownBy W row) hm (cY _ _) h)
section
open Go.ChangeShapes Go.WideShapes
theorem kc(t:M.Tk)(w:World):Rt 270 #[ia t] w (ia t):=by
 obtain⟨d,x,y⟩:=t;dsimp only[ia];go_enter func270,ntmps270;go_wp2;refine tx (v:=.agg (dq d x y).toArray) (by simp[results,results270,go_sem]) rfl ⟨rfl,?_⟩;exact(((tv _ _).alloc (tr _) _).alloc (by simp) _).alloc (by simp;omega) _
theorem mC(t:M.Tk)(w:World):Rt 271 #[ia t,ia t] w (.bool true):=by
 obtain⟨d,x,y⟩:=t;dsimp only[ia];have n0:(d != d)=false:=(by simp);have n1:(x != x)=false:=(by simp);have n2:(y != y)=false:=(by simp);go_enter func271,ntmps271;go_wp2;go_ret;exact⟨rfl,((tv _ _).alloc (tr _) _).alloc (by simp) _⟩
theorem j9(t:M.Tk):∀u∈bO t,u.oneCell'=true:=by
 intro u hu;simp[bO]at hu
 rcases hu with rfl | rfl | rfl <;> rfl
theorem kR:(prog.info? 47).map (fun i=>(i.zero,i.size,i.bytes))=some (some (.agg #[.bool false,.int .i64 0,.int .i64 0]),3,24):=by kernel_rfl
set_option maxRecDepth 100000 in
theorem sz{c:Nat}(w:World)(hz:aY w a n c cs)(hb:n≤1048576):
  Calls prog 228 #[.slice a n c] w fun e w'=>∃a',e=.returned (.slice a' n n)∧aY w' a' n n cs∧(∀x,a'=some x→w.heap.size≤x.block)∧Below w.heap.size w w':=by
 have HZ:=Hd (hz);have Va:(n:Int)≤c:=(by have:=hz.le;omega);have Ga:cs.length=n:=hz.len;clear hz;obtain⟨i0,hi,Ha,Ia,Ja⟩:=info_parts kR;go_enter func228,ntmps228;(go_wp2_with(at_make;refine wpList_make_full _ rfl _ _ 43 rfl w.heap.size 47 i0 (.agg nk.toArray) 3 underlying43 hi Ha Ia .i64 .i64 _ _ n rfl rfl rfl rfl (by rw[Ja];omega) (by unfold maxLen;omega) (tr _) ?_));intro w1 Ka hg
 have HL:H9 (ae w1 w.heap.size ((List.replicate n M.t0).flatMap bO)):=by
  have h0:=jX Ka
  rwa[iu M.t0 ct #[.bool false,.int .i64 0,.int .i64 0] rfl]at h0
 have HB:H9 (Below w.heap.size w w1):=bq hg;have La:H9 (cs.take 0++(List.replicate n M.t0).drop 0=List.replicate n M.t0):=(by show _=_;simp);clear Ka hg hi Ha Ia Ja;go_wp2
 go_loopw [4] (fun i wr=>∃j:Nat,j≤n∧i=it j∧ae wr w.heap.size ((cs.take j++(List.replicate n M.t0).drop j).flatMap bO)∧Below w.heap.size w wr) (fun i _=>n-(intOf i).toNat)
 case atStart=>exact⟨0,by omega,rfl,by rw[La.o];exact HL.o,HB.o⟩
 case round=>
  obtain⟨j,hj,rfl,Na,Oa⟩:=hrel;have Ba:=Hd (Na);have Aa:=Hd (Oa);clear Na Oa HL HB La;by_cases Pa:j<n
  ·
   obtain⟨b1,o1,rfl,Qa⟩:=(HZ.o.below Aa.o).at (by omega);have hA:=Qa j Pa;have hI:(j:Int)<(n:Int):=(by omega);have C1:=kc (cs.getD j M.t0)
   have Ca:H9 (j4 ((cs.take j++(List.replicate n M.t0).drop j).flatMap bO) (j*3) (bO (cs.getD j M.t0))=(cs.take (j+1)++(List.replicate n M.t0).drop (j+1)).flatMap bO):=by
    show _=_;rw[eK ct _ _ (by rw[t7,ua,List.length_drop,tX];omega)]
    congr 1
    rw[List.set_append_right _ _ (by rw[ua];omega),ua,show j-min j cs.length=0 by omega,List.drop_eq_getElem_cons (by simpa using Pa),List.set_cons_zero,tK (by omega),List.append_assoc];rw[show cs.getD j M.t0=cs[j] by rw[tu,tw (by omega)];rfl]
    rfl
   have Da:H9 (((cs.take j++(List.replicate n M.t0).drop j).flatMap bO).length=n*3):=by
    show _=_;rw[b8 ct,t7,ua,List.length_drop,tX,Ga,show min j n+(n-j)=n by omega]
   generalize cs.getD j M.t0=cq at hA C1 Ca;have Ea:=Ba.o;generalize(cs.take j++(List.replicate n M.t0).drop j).flatMap bO=P0 at Ea Ca Da;clear Ba;obtain⟨d,x,y⟩:=cq;dsimp only[ia]at C1;have a0:wr.cell? ⟨b1,o1+j*3,none⟩=some (.bool d):=hA 0 (by omega);have a1:wr.cell? ⟨b1,o1+j*3+1,none⟩=some (it x):=hA 1 (by omega);have a2:wr.cell? ⟨b1,o1+j*3+2,none⟩=some (it y):=hA 2 (by omega);clear Qa hA;(go_wp2_with fail);refine(C1 _).mono ?_;rintro e w2 ⟨rfl,Fa⟩;have LP:H9 (ae w2 w.heap.size P0):=Ea.belowS Fa;have Ra:=Hd (Aa.o.trans (Fa.mono Aa.o.size));have tA:w2.there w.heap.size (j*3) (bO (⟨d,x,y⟩:M.Tk)).toArray.size:=LP.o.there _ 3 (by rw[Da.o];omega);have iA:(prog.info? 47).map (·.size)=some (bO (⟨d,x,y⟩:M.Tk)).toArray.size:=(show(prog.info? 47).map (·.size)=some 3 by kernel_rfl);have oA:(bO (⟨d,x,y⟩:M.Tk)).toArray.all (·.oneCell')=true:=all_oneCell_toArray (j9 _);clear Fa Ea C1 a0 a1 a2;(go_wp2_with(with_reducible refine aw ?_ ?_;rfl));show wpList _ _ _ _ _ _;(with_reducible refine wpList_store_mid ?_ 47 (.tmp 21) (.tmp 20) ?_ w.heap.size (j*3) (bO (⟨d,x,y⟩:M.Tk)).toArray ?_ ?_ tA iA oA ?_);exact rfl;exact rfl;exact rfl;exact rfl
   have Sa:H9 (ae (w2.setCells w.heap.size (j*3) (bO ⟨d,x,y⟩)) w.heap.size ((cs.take (j+1)++(List.replicate n M.t0).drop (j+1)).flatMap bO)):=by
    have:=LP.o.setCells (bO ⟨d,x,y⟩) (j*3) (by rw[Da.o];simp[bO];omega)
    rwa[Ca.o]at this
   have Ta:H9 (Below w.heap.size w (w2.setCells w.heap.size (j*3) (bO ⟨d,x,y⟩))):=aD _ _ Ra.o (tr _);show wpList _ _ _ _ _ (w2.setCells w.heap.size (j*3) (bO ⟨d,x,y⟩));clear tA iA oA LP Ra;generalize w2.setCells w.heap.size (j*3) (bO ⟨d,x,y⟩)=w3 at *;go_wp2;go_roundw
   case rel=>exact⟨j+1,by omega,by go_num,Sa.o,Ta.o⟩
   case measure=>simp[intOf];omega
  ·
   have Ua:j=n:=(by omega);subst Ua;go_wp2;go_ret;refine⟨_,rfl,?_,fun x hx=>by injection hx with hx;rw[←hx];exact tr _,Aa.o⟩;have:=Ba.o;rw[tC (by simp),List.append_nil,tF (by omega)]at this;exact this.seesT Ga hb
theorem nc(a:Option Addr)(n c:Nat)(k:Int)(w:World)(hn:(n:Int)≤9223372036854775807)(h0:0≤k)(hk:k≤9223372036854775807):
  Rq 227 #[.slice a n c,.int .i64 k] w (.int .i64 (if k-(n:Int)<0 then -1 else k-n)):=by
 by_cases h:k-(n:Int)<0
 ·
  rw[if_pos h];go_enter func227,ntmps227;go_wp2;go_ret;exact⟨rfl,rfl⟩
 ·
  rw[if_neg h];go_enter func227,ntmps227;go_wp2;go_ret;exact⟨rfl,rfl⟩
theorem rr{b:Option Addr}{c:Nat}(w:World)(hz:aY w a n c cs)(hy:aY w b n d cs):
  Rt 229 #[.slice a n c,.slice b n d] w (.bool true):=by
 have HZ:=Hd (hz);have HY:=Hd (hy);have Ha:(n:Int)≤9223372036854775807:=(by have:=hz.big;have:=hz.le;omega);have Ia:(n:Int)≤c:=(by have:=hz.le;omega);have Ja:(n:Int)≤d:=(by have:=hy.le;omega);clear hz hy;have n1:((n:Int) != (n:Int))=false:=(by simp);go_enter func229,ntmps229;go_wp2
 go_loopw [5] (fun i wr=>∃j:Nat,j≤n∧i=it j∧Below w.heap.size w wr) (fun i _=>n-(intOf i).toNat)
 case atStart=>exact⟨0,by omega,rfl,tv _ _⟩
 case round=>
  obtain⟨j,hj,rfl,Ea⟩:=hrel;have Ba:=Hd (Ea);clear Ea;by_cases Aa:j<n
  ·
   obtain⟨b1,o1,rfl,Ca⟩:=(HZ.o.below Ba.o).at (by omega);obtain⟨b2,o2,rfl,Da⟩:=(HY.o.below Ba.o).at (by omega);have p0:wr.cell? ⟨b1,o1+j*3,none⟩=some (.bool (cs.getD j M.t0).done):=Ca j Aa 0 (by omega);have p1:wr.cell? ⟨b1,o1+j*3+1,none⟩=some (it (cs.getD j M.t0).l'):=Ca j Aa 1 (by omega);have p2:wr.cell? ⟨b1,o1+j*3+2,none⟩=some (it (cs.getD j M.t0).due):=Ca j Aa 2 (by omega);have q0:wr.cell? ⟨b2,o2+j*3,none⟩=some (.bool (cs.getD j M.t0).done):=Da j Aa 0 (by omega);have q1:wr.cell? ⟨b2,o2+j*3+1,none⟩=some (it (cs.getD j M.t0).l'):=Da j Aa 1 (by omega);have q2:wr.cell? ⟨b2,o2+j*3+2,none⟩=some (it (cs.getD j M.t0).due):=Da j Aa 2 (by omega);have hI:(j:Int)<(n:Int):=(by omega);have CE:=mC (cs.getD j M.t0);generalize cs.getD j M.t0=c0 at p0 p1 p2 q0 q1 q2 CE;obtain⟨z,x,y⟩:=c0;dsimp only[ia]at p0 p1 p2 q0 q1 q2 CE;clear Ca Da;go_wp2
   go_region_with (go_at_call 271;refine(CE _).mono ?_;rintro e w2 ⟨rfl,hb2⟩)
   all_goals
    have Fa:H9 (Below w.heap.size w w2):=Ba.o.trans (((tv _ _).drew.trans hb2).mono Ba.o.size);clear hb2;go_wp2;go_roundw
    case rel=>exact⟨j+1,by omega,by go_num,Fa.o⟩
    case measure=>simp[intOf];omega
  ·
   have Ga:j=n:=(by omega);subst Ga;go_wp2;go_ret;exact⟨rfl,Ba.o⟩
open Go.ChangeShapes Go.WideShapes
theorem dF:∀(us:List Value) (W:World) (b o:Nat) (p:Addr),p.block≠b→(W.setCells b o us).cell? p=W.cell? p
 | [],_,_,_,_,_=>rfl
 | u::us,W,b,o,p,h=>(dF us _ b (o+1) p h).trans (t6 (w:=W) (a:=⟨b,o,none⟩) (b:=p) (v:=u) (h:=by intro e;rw[←e]at h;exact h rfl))
theorem aY.kept{c:Nat}(h:aY w a n c ts)(hc:∀x i,a=some x→w'.cell? ⟨x.block,i,none⟩=w.cell? ⟨x.block,i,none⟩):aY w' a n c ts:=by
 refine⟨h.len,h.le,h.big,h.no,?_⟩
 rcases h.pos with e | ⟨b,o,e,hp⟩
 ·exact .inl e
 ·exact .inr ⟨b,o,e,fun i hi j hj=>(hc _ _ e).trans (hp i hi j hj)⟩
theorem aY.setCs{c:Nat}(h:aY w a n c ts)(hne:∀x,a=some x→x.block=b→False)(o:Nat)(us:List Value):aY (w.setCells b o us) a n c ts:=
 h.kept fun x _ hx=>dF _ _ _ _ _ fun e=>hne x hx e
theorem aY.setC{c:Nat}(h:aY w a n c ts)(hne:∀x,a=some x→x.block=b→False)(o:Nat)(u:Value):aY (w.setCell ⟨b,o,none⟩ u) a n c ts:=
 h.setCs hne o [u]
theorem qJ{tn:Nat}(jid a b c d f k a' b' c' d' f' k' s1 s2 jr:Int)(jg:Bool)(n:Int)(w:World)(hn:(tn:Int)≤9223372036854775807)(h0:0≤n)(hk:n≤9223372036854775807):
  Rt 148 #[.agg #[.int .i64 jid,.int .i64 a,.int .i64 b,.int .i64 c,.int .i64 d,.int .i64 f,.int .i64 k,.int .i64 a',.int .i64 b',.int .i64 c',.int .i64 d',.int .i64 f',.int .i64 k',.int .i64 s1,.int .i64 s2,.int .i64 jr,.bool jg,.slice ta tn tc],.int .i64 n] w (.int .i64 (if n-(tn:Int)<0 then -1 else n-tn)):=by
 have HB:H9 (Below w.heap.size w (w.alloc (.cells (br jid a b c d f k a' b' c' d' f' k' s1 s2 jr jg ta tn tc).toArray 238))):=(tv _ _).alloc (tr _) _;go_enter func148,ntmps148;(go_wp2_with fail);refine(nc _ _ _ _ _ hn h0 hk).mono ?_;rintro e wz ⟨rfl,rfl⟩;by_cases h:n-(tn:Int)<0
 ·
  rw[if_pos h];go_wp2;go_ret;exact⟨rfl,HB.o⟩
 ·
  rw[if_neg h];go_wp2;go_ret;exact⟨rfl,HB.o⟩
open Go.ChangeShapes Go.WideShapes
theorem bw{o:Nat}(hl:vs.length=n)(h:∀j,j<n→w.cell? ⟨b,o+j,none⟩=vs[j]?):w.rangeAt b o vs:=fun j v hv=>by
 have hj:j<vs.length:=by
  rcases Nat.lt_or_ge j vs.length with h' | h'
  ·exact h'
  ·rw[List.getElem?_eq_none h']at hv;cases hv
 exact(h j (by omega)).trans hv
def nt(g n j:Nat)(js:List M.Jb)(wr:World):Prop:=∃qs:List (M.Jb×Option Addr×Nat),qs.map (·.1)=js.take j∧ae wr g ((qs++(List.replicate n (M.j0,none,0)).drop j).flatMap fu)∧∀q∈qs,aY wr q.2.1 q.1.ts.length q.2.2 q.1.ts∧∀x,q.2.1=some x→g<x.block
theorem nt.zero(h:ae wr g ((List.replicate n (M.j0,none,0)).flatMap fu)):nt g n 0 js wr:=
 ⟨[],by simp,by simpa using h,fun q hq=>by cases hq⟩
theorem nt.len(h:nt g n j js wr)(hj:j≤n)(hl:js.length=n):∃vs,ae wr g vs∧vs.length=n*18:=by
 obtain⟨qs,h1,h2,_⟩:=h;have hq:qs.length=j:=(by have:=congrArg List.length h1;simpa[hl,hj]using this);exact⟨_,h2,by rw[b8 co,t7,List.length_drop,tX,hq];congr 1;omega⟩
theorem nt.step(h:nt g n j js wr)(hj:j<n)(hl:js.length=n)(hb:Below wr.heap.size wr w')(ht:aY w' ta (js.getD j M.j0).ts.length tc (js.getD j M.j0).ts)(ho:∀x,ta=some x→g<x.block):nt g n (j+1) js (w'.setCells g (j*18) (dJ (js.getD j M.j0) ta tc)):=by
 obtain⟨qs,h1,h2,h3⟩:=h;have hq:qs.length=j:=(by have:=congrArg List.length h1;rw[List.length_map,ua]at this;omega);have e:js.getD j M.j0=js[j]:=(by rw[tu,tw (by omega)];rfl);refine⟨qs++[(js.getD j M.j0,ta,tc)],?_,?_,?_⟩
 ·rw[t8,h1,tK (by omega),e];rfl
 ·
  have h4:=(h2.belowS hb).setCells (fu (js.getD j M.j0,ta,tc)) (j*18) (by rw[b8 co,co,t7,List.length_drop,tX,hq];omega);rw[eK co _ _ (by rw[t7,List.length_drop,tX,hq];omega)]at h4
  have e2:(qs++(List.replicate n ((M.j0,none,0):M.Jb×Option Addr×Nat)).drop j).set j (js.getD j M.j0,ta,tc)=qs++[(js.getD j M.j0,ta,tc)]++(List.replicate n ((M.j0,none,0):M.Jb×Option Addr×Nat)).drop (j+1):=by
   rw[List.set_append_right _ _ (by omega),hq,Nat.sub_self,List.drop_eq_getElem_cons (by simpa using hj),List.set_cons_zero,List.append_assoc];rfl
  rw[e2]at h4;exact h4
 ·
  intro q Aa
  rcases tI.1 Aa with hm | hm
  ·
   obtain⟨a1,a2⟩:=h3 q hm;exact⟨(a1.below hb).setCs (fun x hx e=>by have:=a2 x hx;omega) _ _,a2⟩
  ·
   rw[List.mem_singleton]at hm;subst hm;exact⟨ht.setCs (fun x hx e=>by have:=ho x hx;omega) _ _,ho⟩
def ea(B:Nat)(w:World)(a:Option Addr)(n c:Nat)(js:List M.Jb):Prop:=∀W:World,(∀p:Addr,B≤p.block→W.cell? p=w.cell? p)→dp W a n c js
theorem ea.sees{c:Nat}(h:ea B w a n c js):dp w a n c js:=h w fun _ _=>rfl
theorem ea.setCs{c:Nat}(h:ea B w a n c js)(hb:b<B)(o:Nat)(us:List Value):ea B (w.setCells b o us) a n c js:=fun W hW=>h W fun p hp=>(hW p hp).trans (dF _ _ _ _ _ (by omega))
theorem ea.setC{c:Nat}(h:ea B w a n c js)(hb:b<B)(o:Nat)(u:Value):ea B (w.setCell ⟨b,o,none⟩ u) a n c js:=h.setCs hb o [u]
theorem rz:(prog.info? 45).map (fun i=>(i.zero,i.size,i.bytes))=some (some (.agg #[.int .i64 0,.int .i64 0,.int .i64 0,.int .i64 0,.int .i64 0,.int .i64 0,.int .i64 0,.int .i64 0,.int .i64 0,.int .i64 0,.int .i64 0,.int .i64 0,.int .i64 0,.int .i64 0,.int .i64 0,.int .i64 0,.bool false,.slice none 0 0]),18,160):=by kernel_rfl
open Go.ChangeShapes Go.WideShapes
def sE(n:Nat)(js:List M.Jb)(k r:Int):Prop:=r=-1∨(0≤r∧r≤k∧(n:Int)≤k∧∀i,((js.getD i M.j0).ts.length:Int)≤k)
set_option maxRecDepth 10000 in
theorem pA{c:Nat}(q:Int)(w:World)(hz:dp w a n c js)(h0:0≤q)(hk:q≤9223372036854775807):
  Calls prog 72 #[.slice a n c,.int .i64 q] w fun e w'=>∃r,e=.returned (.int .i64 r)∧sE n js q r∧Below w.heap.size w w':=by
 have HZ:=Hd (hz);have Sa:(n:Int)≤c:=(by have:=hz.le;omega);have Ta:(n:Int)≤9223372036854775807:=(by have:=hz.big;omega);have Ua:js.length=n:=hz.len;clear hz;by_cases Va:q-(n:Int)<0
 ·
  go_enter func72,ntmps72;go_wp2;go_ret;exact⟨-1,rfl,.inl rfl,tv _ _⟩
 go_enter func72,ntmps72;go_wp2
 go_loopw [1,5] (fun l i wr=>∃(j:Nat) (r:Int),j≤n∧i=it j∧l=it r∧0≤r∧r≤q∧(∀p,p<j→((js.getD p M.j0).ts.length:Int)≤q)∧Below w.heap.size w wr) (fun _ i _=>n-(intOf i).toNat)
 case atStart=>exact⟨0,_,by omega,rfl,rfl,by omega,by omega,fun p hp=>by omega,tv _ _⟩
 case round=>
  obtain⟨j,r,hj,rfl,rfl,Da,Oa,Ea,Fa⟩:=hrel;have Aa:=Hd (Fa);have HA:=Hd (Ea);clear Fa Ea;by_cases Pa:j<n
  ·
   obtain⟨b1,o1,rfl,Ga⟩:=(HZ.o.below Aa.o).at (by omega);obtain⟨ta,tc,hA,hT⟩:=Ga j Pa;have hI:(j:Int)<(n:Int):=(by omega);generalize Ha:js.getD j M.j0=cq at hA hT;have HQ:=Hd (Ha);clear Ha;obtain⟨Ba,⟨⟨a,b,c',d,f,k⟩,⟨a',b',Ca,d',f',k'⟩⟩,⟨s1,s2⟩,jr,jg,tl⟩:=cq;dsimp only at hT;have hR:wr.rangeAt b1 (o1+j*18) (dJ ⟨Ba,⟨⟨a,b,c',d,f,k⟩,⟨a',b',Ca,d',f',k'⟩⟩,(s1,s2),jr,jg,tl⟩ ta tc):=bw rfl hA;have Ia:(tl.length:Int)≤9223372036854775807:=(by have:=hT.le;have:=hT.big;omega);dsimp only[dJ]at hR;generalize Ja:tl.length=tn at hR Ia;have Qa:=Hd (Ja);clear Ja Ga hA hT;(go_wp2_with(with_reducible refine af 21 ?_ ?_;rfl));with_reducible refine dO 238 b1 (o1+j*18) (br Ba a b c' d f k a' b' Ca d' f' k' s1 s2 jr jg ta tn tc) hR underlying238 ?q5 ?_
   case q5=>exact⟨rfl,rfl,by kernel_rfl,_,rfl,by kernel_rfl⟩
   (go_wp2_with fail);refine(qJ Ba a b c' d f k a' b' Ca d' f' k' s1 s2 jr jg _ _ Ia Da (by omega)).mono ?_;rintro e w2 ⟨rfl,Ka⟩;have La:=Hd (Aa.o.trans (Ka.mono Aa.o.size));clear Ka hR;by_cases Na:r-(tn:Int)<0
   ·
    rw[if_pos Na];go_wp2;go_ret;exact⟨-1,rfl,.inl rfl,La.o⟩
   ·
    rw[if_neg Na];go_wp2;go_roundw
    case rel=>
     refine⟨j+1,_,by omega,by go_num,rfl,by omega,by omega,fun p hp=>?_,La.o⟩;by_cases e:p=j
     ·subst e;rw[HQ.o];show((tl.length:Nat):Int)≤q;rw[Qa.o];omega
     ·exact HA.o p (by omega)
    case measure=>simp[intOf];omega
  ·
   have Ra:j=n:=(by omega);subst Ra;go_wp2;go_ret;refine⟨_,rfl,.inr ⟨Da,Oa,by omega,fun i=>?_⟩,Aa.o⟩;by_cases hi:i<j
   ·exact HA.o i hi
   ·rw[tu,List.getElem?_eq_none (by omega)];exact h0
theorem fR(a:Option Addr)(n c:Nat)(k:Int)(w:World)(hn:(n:Int)≤9223372036854775807)(h0:0≤k)(hk:k≤9223372036854775807):
  Rq 71 #[.slice a n c,.int .i64 k] w (.int .i64 (if k-(n:Int)<0 then -1 else k-n)):=by
 by_cases h:k-(n:Int)<0
 ·
  rw[if_pos h];go_enter func71,ntmps71;go_wp2;go_ret;exact⟨rfl,rfl⟩
 ·
  rw[if_neg h];go_enter func71,ntmps71;go_wp2;go_ret;exact⟨rfl,rfl⟩
open Go.ChangeShapes Go.WideShapes
theorem ea.mono{B':Nat}{c:Nat}(h:ea B' w a n c js)(hb:B≤B'):ea B w a n c js:=fun W hW=>h W fun p hp=>hW p (by omega)
structure rN(B:Nat)(w:World)(a:Option Addr)(n c:Nat)(zs:List Int):Prop where
 sees:ah w a n c zs
 lo:∀x,a=some x→B≤x.block
theorem rN.below{c:Nat}(h:rN B w a n c zs)(hb:Below w.heap.size w w'):rN B w' a n c zs:=⟨h.sees.below hb,h.lo⟩
theorem rN.setCs{c:Nat}(h:rN B w a n c zs)(hb:b<B)(o:Nat)(us:List Value):rN B (w.setCells b o us) a n c zs:=
 ⟨h.sees.of_cells fun p v hv ⟨x,hx,e⟩=>by rw[dF _ _ _ _ _ (by have:=h.lo x hx;omega)];exact hv,h.lo⟩
theorem rN.setC{c:Nat}(h:rN B w a n c zs)(hb:b<B)(o:Nat)(u:Value):rN B (w.setCell ⟨b,o,none⟩ u) a n c zs:=h.setCs hb o [u]
end
structure s8 where
 s:Int×Int
 e:Int×Int
 n:Int
theorem cP(n lo hi:Int)(w:World):Rq 58 #[.int .i64 n,.int .i64 lo,.int .i64 hi] w (.bool (decide (lo≤n)&&decide (n≤hi))):=by
 by_cases h1:lo≤n
 ·
  go_enter func58,ntmps58;go_wp2;go_ret;exact⟨by simp[h1],rfl⟩
 ·
  go_enter func58,ntmps58;go_wp2;go_ret;exact⟨by simp;omega,rfl⟩
section
open Go.Shelf
def lM:Go.Shelf.Ren:=⟨fun | 5=>234 | 8=>273 | 7=>272 | 19=>295 | 20=>296 | 10=>286 | 11=>287 | 12=>288 | 13=>289 | 14=>290 | 15=>291 | 16=>292 | 17=>293 | 18=>294 | 30=>299 | 31=>300 | 32=>301 | 33=>302 | 34=>303 | 35=>304 | 40=>306 | n=>n,fun | 23=>24 | 25=>2 | 3=>3 | 32=>154 | 22=>24 | 0=>0 | 44=>203 | 46=>200 | 4=>4 | 36=>381 | 35=>380 | 41=>385 | 5=>5 | 9=>9 | 53=>392 | 57=>395 | 63=>398 | 64=>399 | n=>n,fun | n=>n⟩
theorem rC:Go.Proofs.SlLaysM.n5 prog lM:={
  mixed:=by kernel_rfl
  f5:=⟨f234.name,by decide,func234.trans (congrArg some (by kernel_rfl))⟩
  f7:=⟨f272.name,by decide,func272.trans (congrArg some (by kernel_rfl))⟩
  f8:=func273.trans (congrArg some (by kernel_rfl))
  f10:=⟨f286.name,by decide,func286.trans (congrArg some (by kernel_rfl))⟩
  f11:=⟨f287.name,by decide,func287.trans (congrArg some (by kernel_rfl))⟩
  f12:=⟨f288.name,by decide,func288.trans (congrArg some (by kernel_rfl))⟩
  f13:=⟨f289.name,by decide,func289.trans (congrArg some (by kernel_rfl))⟩
  f14:=⟨f290.name,by decide,func290.trans (congrArg some (by kernel_rfl))⟩
  f15:=⟨f291.name,by decide,func291.trans (congrArg some (by kernel_rfl))⟩
  f16:=⟨f292.name,by decide,func292.trans (congrArg some (by kernel_rfl))⟩
  f17:=⟨f293.name,by decide,func293.trans (congrArg some (by kernel_rfl))⟩
  f18:=⟨f294.name,by decide,func294.trans (congrArg some (by kernel_rfl))⟩
  f19:=func295.trans (congrArg some (by kernel_rfl))
  f20:=func296.trans (congrArg some (by kernel_rfl))
  f30:=⟨f299.name,by decide,func299.trans (congrArg some (by kernel_rfl))⟩
  f31:=func300.trans (congrArg some (by kernel_rfl))
  f32:=func301.trans (congrArg some (by kernel_rfl))
  f33:=⟨f302.name,by decide,func302.trans (congrArg some (by kernel_rfl))⟩
  f34:=⟨f303.name,by decide,func303.trans (congrArg some (by kernel_rfl))⟩
  f35:=⟨f304.name,by decide,func304.trans (congrArg some (by kernel_rfl))⟩
  f40:=⟨f306.name,by decide,func306.trans (congrArg some (by kernel_rfl))⟩
  t0:=underlying0
  a0:=Tryz.isAgg0
  z0:=Tryz.sizeOf0
  v0:=Tryz.zeroValue0
  t3:=underlying3
  a3:=Tryz.isAgg3
  z3:=Tryz.sizeOf3
  v3:=Tryz.zeroValue3
  t4:=underlying4
  a4:=Tryz.isAgg4
  z4:=Tryz.sizeOf4
  v4:=Tryz.zeroValue4
  t5:=underlying5
  a5:=Tryz.isAgg5
  z5:=Tryz.sizeOf5
  v5:=Tryz.zeroValue5
  t9:=underlying9
  a9:=Tryz.isAgg9
  z9:=Tryz.sizeOf9
  v9:=Tryz.zeroValue9
  t22:=underlying24
  a22:=Tryz.isAgg24
  z22:=Tryz.sizeOf24
  v22:=Tryz.zeroValue24
  t23:=underlying24
  a23:=Tryz.isAgg24
  z23:=Tryz.sizeOf24
  v23:=Tryz.zeroValue24
  t25:=underlying2
  a25:=Tryz.isAgg2
  z25:=Tryz.sizeOf2
  v25:=Tryz.zeroValue2
  t32:=underlying154
  a32:=Tryz.isAgg154
  z32:=Tryz.sizeOf154
  v32:=Tryz.zeroValue154
  t35:=underlying380
  a35:=Tryz.isAgg380
  z35:=Tryz.sizeOf380
  v35:=Tryz.zeroValue380
  t36:=underlying381
  a36:=Tryz.isAgg381
  z36:=Tryz.sizeOf381
  v36:=Tryz.zeroValue381
  t41:=underlying385
  a41:=Tryz.isAgg385
  z41:=Tryz.sizeOf385
  v41:=Tryz.zeroValue385
  t44:=underlying203
  a44:=Tryz.isAgg203
  z44:=Tryz.sizeOf203
  v44:=Tryz.zeroValue203
  t46:=underlying200
  a46:=Tryz.isAgg200
  z46:=Tryz.sizeOf200
  v46:=Tryz.zeroValue200
  t53:=underlying392
  a53:=Tryz.isAgg392
  z53:=Tryz.sizeOf392
  v53:=Tryz.zeroValue392
  t57:=underlying395
  a57:=Tryz.isAgg395
  z57:=Tryz.sizeOf395
  v57:=Tryz.zeroValue395
  t63:=underlying398
  a63:=Tryz.isAgg398
  z63:=Tryz.sizeOf398
  v63:=Tryz.zeroValue398
  t64:=underlying399
  a64:=Tryz.isAgg399
  z64:=Tryz.sizeOf399
  v64:=Tryz.zeroValue399}
end
end Go.Proofs.YtjcjonncaknhnaaGreatDoor
