import Derived.Test.YtbjalickbnpnkaaGreatDoorPk02
import Derived.Test.YtbjalickbnpnkaaGreatDoorPk03
namespace Go.Proofs.YtbjalickbnpnkaaGreatDoor
open Go.RowKit Go.Proofs.Tryz
set_option linter.unusedSimpArgs false
set_option maxHeartbeats 32000000
variable {P:Program}{w w':World}{a b:Option Addr}{row:Option Nat}{n cap dA c pb d k:Nat}{zs:List Int}{o:Oper}{t:TypeId}{ps:List (Int×Int)}{K:Act->World->Prop}{Q:Exit->Act->World->Prop}
theorem wE{P G:Prop}(f:P->G)(h:P):G:=f h
theorem aF(h:m1 w w')(row:Option Nat):w.grownBy w' row:=⟨h.os,h.tape,h.output,h.size,λk hk _=>h.block k hk⟩
theorem dy(w:World)(row:Option Nat):w.grownBy w.drew row:=aF (m8 _ _).drew row
theorem aH{a:World}(h:a.grownBy w row)(hb:m1 w w'):a.grownBy w' row:=
  h.trans (aF hb row)
theorem aO{a:World}{b:Nat}(h:a.grownBy w (some b))(o:Nat)(us:List Value):a.grownBy (w.setCells b o us) (some b):=by
  have hz:∀(us:List Value) (w:World) (o:Nat),w.grownBy (w.setCells b o us) (some b):=by
    intro us
    induction us with
    | nil=>exact λw _=>World.grownBy.refl w _
    | cons u us ih=>
      intro w o
      have h1:w.grownBy (w.setCell ⟨b,o,none⟩ u) (some b):=⟨rfl,rfl,rfl,by simp[World.setCell],λk _ hk=>Below.heap_setCell w _ u k (λe=>hk (by rw[e]))⟩
      exact h1.trans (ih _ _)
  exact h.trans (hz us w o)
theorem fH{B:Nat}{a:World}(h:Below B a w)(hg:w.grownBy w' row)(hB:B<=w.heap.size)(hr:∀k,row=some k->B<=k):Below B a w':=h.grown hg hB hr
theorem aC.grownR(h:aC w a n cap zs)(hg:w.grownBy w' row)(hr:∀x,a=some x->row≠some x.block):aC w' a n cap zs:=
  h.of_cells λp _ hp ⟨x,hx,he⟩=>hg.cell hp (λe=>hr x hx (by rw[he,e]))
theorem aA.grownR.lt_of_heap{g:Nat}{o:Obj}(h:w.heap[g]?=some o):g<w.heap.size:=by
  rcases Nat.lt_or_ge g w.heap.size with h' | h'
  .exact h'
  .rw[Array.getElem?_eq_none h']at h;cases h
theorem aA.grownR(h:aA t w dA a n cap zs)(hg:w.grownBy w' row)(hr:∀x,a=some x->row≠some x.block):aA t w' dA a n cap zs:=by
  refine⟨h.1,?_⟩
  rcases h.2 with e | ⟨g,cp,cur,e,hb,hc,r⟩
  .exact .inl e
  . refine .inr ⟨g,cp,cur,e,hb,?_,r⟩
    have hx:a=some ⟨g,0,none⟩:=by injection e
    rw[hg.block g (aA.grownR.lt_of_heap hc) (λe2=>hr _ hx e2.symm)]
    exact hc
theorem bg.grownR(h:bg t w dA a n cap ps)(hg:w.grownBy w' row)(hr:∀x,a=some x->row≠some x.block):bg t w' dA a n cap ps:=by
  refine⟨h.1,h.2.1,?_⟩
  rcases h.2.2 with e | ⟨g,cp,cur,e,hb,hc,r⟩
  .exact .inl e
  . refine .inr ⟨g,cp,cur,e,hb,?_,r⟩
    have hx:a=some ⟨g,0,none⟩:=by injection e
    rw[hg.block g (aA.grownR.lt_of_heap hc) (λe2=>hr _ hx e2.symm)]
    exact hc
theorem ez.grownR(h:ez w a n c ps)(hg:w.grownBy w' row)(hr:∀x,a=some x->row≠some x.block):ez w' a n c ps:=by
  refine⟨h.len,h.le,h.big,h.no,?_⟩
  rcases h.pos with e | ⟨b,off,e,hb⟩
  .exact .inl e
  .exact .inr ⟨b,off,e,λi hi=>⟨hg.cell (hb i hi).1 (λe2=>hr _ e e2.symm),hg.cell (hb i hi).2 (λe2=>hr _ e e2.symm)⟩⟩
theorem kW{v v':Value}(h:v'.ownBlock=v.ownBlock\/v'.ownBlock=some w.heap.size)(hp:pb<w.heap.size)(hv:v.ownBlock≠some pb):v'.ownBlock≠some pb:=by
  rcases h with e | e
  .rw[e];exact hv
  .rw[e];intro e2;injection e2 with e3;omega
theorem ln{b:Nat}(h:(Value.slice a n c).ownBlock≠some b):∀x,a=some x->x.block≠b:=λx hx e=>h (by subst hx;simp[Value.ownBlock,e])
theorem jS{a:World}{b:Nat}(h:a.grownBy w row)(hb:a.heap.size<=b)(o:Nat)(us:List Value):a.grownBy (w.setCells b o us) row:=by
  have hz:∀(us:List Value) (w:World) (o:Nat),a.grownBy w row->a.grownBy (w.setCells b o us) row:=by
    intro us
    induction us with
    | nil=>exact λ_ _ h=>h
    | cons u us ih=>
      intro w o h
      refine ih _ _ ⟨h.os,h.tape,h.output,by have:=h.size;simpa[World.setCell]using this,λk hk hr=>?_⟩
      rw[Below.heap_setCell w ⟨b,o,none⟩ u k (λe=>by have:k=b:=e;omega)]
      exact h.block k hk hr
  exact hz us w o h
theorem cD{a:World}(h:a.grownBy w row)(o:Obj):a.grownBy (w.alloc o) row:=h.trans (xC w o row)
theorem oF{a:Act}(s x:Operand)(t:TypeId)
   (ho:o.op=.call {callee:=.builtin .append,args:=#[s,x],argTypes:=#[t,t]})
   (dA:Nat)(e:TypeId)(i:TypeInfo)(z:Value)(size bytes:Nat)(ht:P.underlying t=some (.slice e))(hi:P.info? e=some i)(hz:i.zero=some z)
   (hsize:i.size=size)(hby:i.bytes=bytes)(hzs:z.cells.size=size)(hsz:0<size)
   (v:Value)(n:Nat)(xs:List Value)(hs:a.eval s=v)(hown:w.ownsRow dA e size v n xs)
   (ad:Addr)(m c:Nat)(news:List Value)(hx:a.eval x=.slice (some ad) m c)(hl:news.length=m*size)(hnews:∀j u,news[j]?=some u->w.cell? (ad.add j)=some u)(h1:∀u∈news,u.oneCell'=true)
   (h63:n+m<=maxLen)(hbytes:(n+m)*bytes<=140737488355328)(mr:dA<=w.heap.size)
   (h:∀v' w',w'.ownsRow dA e size v' (n+m) (xs++news)->w.grownBy w' v.ownBlock->(v'.ownBlock=v.ownBlock\/v'.ownBlock=some w.heap.size)->K (a.put o.dst v') w'):o.wp P a w K Q:=by
  obtain⟨v',w',hr,h2,h3,h4,h5⟩:=run_append_own_at (P:=P) w dA t o.type e i z size bytes ht hi hz hsize hby hzs hsz v n xs hown ad m c news hl hnews h1 h63 hbytes mr
  unfold Oper.wp execOp
  simp only[ho,resolve,invoke,builtin,Sem.run_bind,Sem.run_pure,Result.andThen_ok,List.map_toArray,List.map_cons,List.map_nil,hs,hx,hr]
  exact h v' w' h2 h3 h5
theorem b9{a:Act}(t:TypeId)(ho:o.op=.alloc t)(cs:Array Value)
   (hrun:(Instr.alloc t true (.tuple #[])).run P w=.ok (tG w.heap.size) (w.alloc (.cells cs t)))
   (h:K (a.put o.dst (tG w.heap.size)) (w.alloc (.cells cs t))):o.wp P a w K Q:=by
  unfold Oper.wp execOp
  simp only[ho,Sem.run_bind,hrun,Result.andThen_ok,Sem.run_pure]
  exact h
theorem ie(h:∀y,a=some y->y.block≠pb):(Value.slice a n c).ownBlock≠some pb:=by
  cases a with
  | none=>simp[Value.ownBlock]
  | some y=>simp only[Value.ownBlock];intro e;injection e with e;exact h y rfl e
theorem wF{m:Nat}(h:(Value.slice b m d).ownBlock=(Value.slice a n c).ownBlock\/(Value.slice b m d).ownBlock=some w.heap.size)(hp:pb<w.heap.size)(hv:∀y,a=some y->y.block≠pb):∀y,b=some y->y.block≠pb:=
  ln (kW h hp (ie hv))
theorem lI(ps:List (Int×Int))(h:k<ps.length):ps.take k++[ps.getD k (0,0)]=ps.take (k+1):=by
  rw[xA h];simp[m5,h]
def bT(ps:List (Int×Int)):List Int:=ps.map Prod.fst
def bV(ps:List (Int×Int)):List Int:=ps.map Prod.snd
theorem j7(ps:List (Int×Int))(h:k<ps.length):(bT ps).take k++[(ps.getD k (0,0)).1]=(bT ps).take (k+1):=by
  unfold bT;rw[<-List.map_take,<-List.map_take,<-lI ps h,xU];rfl
theorem kh(ps:List (Int×Int))(h:k<ps.length):(bV ps).take k++[(ps.getD k (0,0)).2]=(bV ps).take (k+1):=by
  unfold bV;rw[<-List.map_take,<-List.map_take,<-lI ps h,xU];rfl
theorem iQ(ps:List (Int×Int)):(bT ps).length=ps.length:=by simp[bT]
theorem iU(ps:List (Int×Int)):(bV ps).length=ps.length:=by simp[bV]
theorem vM(s:Int×Int)(w:World)(ho:aA 134 w dA a n cap zs)(hb:dA<=w.heap.size)(hn:n<=2000):
    Calls prog 181 #[.slice a n cap,dd s] w λe w'=>∃a' cap',e=.returned (.slice a' (n+1) cap')/\aA 134 w' dA a' (n+1) cap' (zs++[s.1])/\Below dA w w':=by
  have HO:=Hd ho
  obtain⟨i0,hi,Aa,Ba,Ca⟩:=info_parts cJ
  have HI:H7 (prog.info? 134=some i0/\i0.zero=some (it 0)/\i0.size=1/\i0.bytes=8):=⟨hi,Aa,Ba,Ca⟩
  clear ho hi Aa Ba Ca
  obtain⟨x,y⟩:=s
  dsimp only[dd]
  have Ha:H7 (Below dA w (w.alloc (.cells #[it x,it y] 242))):=(m8 _ _).alloc hb _
  have Da:H7 (aA 134 (w.alloc (.cells #[it x,it y] 242)) dA a n cap zs):=HO.o.below ((m8 _ _).alloc (m3 _) _)
  go_enter func181,ntmps181
  go_wp2_with(at_builtin;refine wpList_append_own _ rfl _ _ 79 rfl dA 134 i0 (it 0) 1 8 underlying79 HI.o.1 HI.o.2.1 HI.o.2.2.1 HI.o.2.2.2 rfl (by decide) _ n (zs.map (Value.int .i64)) rfl (xY Da.o _) ⟨(w.alloc (.cells #[it x,it y] 242)).heap.size,0,none⟩ 1 1 [it x] (by simp[Act.eval]) rfl (br _ _ _) (bL _) (by unfold maxLen;omega) (by omega) (by simp;omega) ?_)
  intro v' w4 Ea Fa _
  have hown':w4.ownsRow dA 134 1 v' (n+1) ((zs++[x]).map (Value.int .i64)):=by rw[xU];exact Ea
  obtain⟨b4,c4,rfl,Ga⟩:=aA.form hown'
  have Ia:=Hd Ga
  have Ja:=Hd ((Ha.o.alloc (by simp;omega) _).grown Fa (by simp;omega) Da.o.row)
  clear Ea hown' Fa Ga
  go_wp2
  go_ret
  exact⟨b4,c4,rfl,Ia.o,Ja.o⟩
theorem rS(w0 w:World)(hz:ez w0 a n c ps)(hbl:m1 w0 w)(ho:aA 134 w w0.heap.size b 0 cap [])(hn:n<=1001):
    Calls prog 180 #[.slice a n c,.slice b 0 cap,.func (.func 181) #[] #[]] w λe w'=>∃a' cap',e=.returned (.slice a' n cap')/\aA 134 w' w0.heap.size a' n cap' (bT ps)/\m1 w0 w':=by
  have HZ:=Hd hz
  have Ba:=Hd hbl
  have HO:=Hd ho
  clear hz hbl ho
  go_enter func180,ntmps180
  go_wp2
  go_loopw [1,11] (λs i wr=>∃(k:Nat) (a':Option Addr) (cap':Nat),k<=n/\i=it k/\s=.slice a' k cap'/\aA 134 wr w0.heap.size a' k cap' ((bT ps).take k)/\m1 w0 wr) (λ_ i _=>n-(intOf i).toNat)
  case atStart=>exact⟨0,_,_,by omega,rfl,rfl,HO.o,Ba.o⟩
  case round=>
    obtain⟨k,a',cap',hk,rfl,rfl,Ca,Da⟩:=hrel
    have Ea:=Hd Ca
    have Aa:=Hd Da
    clear Ca Da HO Ba
    by_cases Fa:k<n
    . obtain⟨b1,o1,rfl,Ga⟩:=(HZ.o.below Aa.o).at (by omega)
      obtain⟨e1,e2⟩:=Ga k Fa
      have hI:(k:Int)<(n:Int):=by omega
      have HS:=Hd (j7 ps (by rw[HZ.o.len];exact Fa))
      clear Ga
      generalize ps.getD k (0,0)=q at e1 e2 HS
      have C1:=vM (a:=a') (n:=k) (cap:=cap') (dA:=w0.heap.size) (zs:=(bT ps).take k) q
      obtain⟨x,y⟩:=q
      dsimp only[dd]at C1 e1 e2
      have Ja:H7 _:=C1
      clear C1
      go_wp2_with fail
      refine(Ja.o _ (Ea.o.below ((m8 _ _).alloc (m3 _) _)) (by have:=Aa.o.size;simp;omega) (by omega)).mono ?_
      rintro e w4 ⟨b4,c4,rfl,Ha,Ia⟩
      have Ka:H7 (aA 134 w4 w0.heap.size b4 (k+1) c4 ((bT ps).take (k+1))):=by
        show aA _ _ _ _ _ _ _
        rw[<-HS.o];exact Ha
      have La:=Hd ((Aa.o.alloc Aa.o.size _).trans Ia)
      clear Ha Ia
      go_wp2
      go_roundw
      case rel=>exact⟨k+1,b4,c4,by omega,by go_num,rfl,Ka.o,La.o⟩
      case measure=>simp[intOf];omega
    . have Na:k=n:=by omega
      subst Na
      go_wp2
      go_ret
      refine⟨a',cap',rfl,?_,Aa.o⟩
      have:=Ea.o
      rw[xt (by rw[iQ,HZ.o.len];exact m3 _)]at this
      exact this
theorem uX(w:World)(hz:ez w a n c ps)(hn:n<=1001):
    Calls prog 133 #[.slice a n c] w λe w'=>∃a' cap',e=.returned (.slice a' n cap')/\aA 134 w' w.heap.size a' n cap' (bT ps)/\m1 w w':=by
  have HZ:=Hd hz
  obtain⟨i0,hi,Aa,Ba,Ca⟩:=info_parts cJ
  clear hz
  go_enter func133,ntmps133
  go_wp2_with(at_make;refine wpList_make_own _ rfl _ _ 79 rfl w.heap.size 134 i0 (it 0) 1 underlying79 hi Aa Ba .i64 .i64 _ n rfl rfl rfl (by rw[Ca];omega) (by unfold maxLen;omega) (m3 _) ?_)
  intro w1 Da hg
  have HO:=Hd Da
  have HB:=Hd (ba hg)
  clear Da hg hi Aa Ba Ca
  go_wp2_with fail
  refine(rS w w1 HZ.o HB.o HO.o hn).mono ?_
  rintro e w2 ⟨a2,c2,rfl,Ea,Fa⟩
  have Ga:=Hd Ea
  have Ha:=Hd Fa
  clear Ea Fa
  go_wp2
  go_ret
  exact⟨a2,c2,rfl,Ga.o,Ha.o⟩
theorem vO(s:Int×Int)(w:World)(ho:aA 134 w dA a n cap zs)(hb:dA<=w.heap.size)(hn:n<=2000):
    Calls prog 182 #[.slice a n cap,dd s] w λe w'=>∃a' cap',e=.returned (.slice a' (n+1) cap')/\aA 134 w' dA a' (n+1) cap' (zs++[s.2])/\Below dA w w':=by
  have HO:=Hd ho
  obtain⟨i0,hi,Aa,Ba,Ca⟩:=info_parts cJ
  have HI:H7 (prog.info? 134=some i0/\i0.zero=some (it 0)/\i0.size=1/\i0.bytes=8):=⟨hi,Aa,Ba,Ca⟩
  clear ho hi Aa Ba Ca
  obtain⟨x,y⟩:=s
  dsimp only[dd]
  have Ha:H7 (Below dA w (w.alloc (.cells #[it x,it y] 242))):=(m8 _ _).alloc hb _
  have Da:H7 (aA 134 (w.alloc (.cells #[it x,it y] 242)) dA a n cap zs):=HO.o.below ((m8 _ _).alloc (m3 _) _)
  go_enter func182,ntmps182
  go_wp2_with(at_builtin;refine wpList_append_own _ rfl _ _ 79 rfl dA 134 i0 (it 0) 1 8 underlying79 HI.o.1 HI.o.2.1 HI.o.2.2.1 HI.o.2.2.2 rfl (by decide) _ n (zs.map (Value.int .i64)) rfl (xY Da.o _) ⟨(w.alloc (.cells #[it x,it y] 242)).heap.size,0,none⟩ 1 1 [it y] (by simp[Act.eval]) rfl (br _ _ _) (bL _) (by unfold maxLen;omega) (by omega) (by simp;omega) ?_)
  intro v' w4 Ea Fa _
  have hown':w4.ownsRow dA 134 1 v' (n+1) ((zs++[y]).map (Value.int .i64)):=by rw[xU];exact Ea
  obtain⟨b4,c4,rfl,Ga⟩:=aA.form hown'
  have Ia:=Hd Ga
  have Ja:=Hd ((Ha.o.alloc (by simp;omega) _).grown Fa (by simp;omega) Da.o.row)
  clear Ea hown' Fa Ga
  go_wp2
  go_ret
  exact⟨b4,c4,rfl,Ia.o,Ja.o⟩
theorem rT(w0 w:World)(hz:ez w0 a n c ps)(hbl:m1 w0 w)(ho:aA 134 w w0.heap.size b 0 cap [])(hn:n<=1001):
    Calls prog 180 #[.slice a n c,.slice b 0 cap,.func (.func 182) #[] #[]] w λe w'=>∃a' cap',e=.returned (.slice a' n cap')/\aA 134 w' w0.heap.size a' n cap' (bV ps)/\m1 w0 w':=by
  have HZ:=Hd hz
  have Ba:=Hd hbl
  have HO:=Hd ho
  clear hz hbl ho
  go_enter func180,ntmps180
  go_wp2
  go_loopw [1,11] (λs i wr=>∃(k:Nat) (a':Option Addr) (cap':Nat),k<=n/\i=it k/\s=.slice a' k cap'/\aA 134 wr w0.heap.size a' k cap' ((bV ps).take k)/\m1 w0 wr) (λ_ i _=>n-(intOf i).toNat)
  case atStart=>exact⟨0,_,_,by omega,rfl,rfl,HO.o,Ba.o⟩
  case round=>
    obtain⟨k,a',cap',hk,rfl,rfl,Ca,Da⟩:=hrel
    have Ea:=Hd Ca
    have Aa:=Hd Da
    clear Ca Da HO Ba
    by_cases Fa:k<n
    . obtain⟨b1,o1,rfl,Ga⟩:=(HZ.o.below Aa.o).at (by omega)
      obtain⟨e1,e2⟩:=Ga k Fa
      have hI:(k:Int)<(n:Int):=by omega
      have HS:=Hd (kh ps (by rw[HZ.o.len];exact Fa))
      clear Ga
      generalize ps.getD k (0,0)=q at e1 e2 HS
      have C1:=vO (a:=a') (n:=k) (cap:=cap') (dA:=w0.heap.size) (zs:=(bV ps).take k) q
      obtain⟨x,y⟩:=q
      dsimp only[dd]at C1 e1 e2
      have Ja:H7 _:=C1
      clear C1
      go_wp2_with fail
      refine(Ja.o _ (Ea.o.below ((m8 _ _).alloc (m3 _) _)) (by have:=Aa.o.size;simp;omega) (by omega)).mono ?_
      rintro e w4 ⟨b4,c4,rfl,Ha,Ia⟩
      have Ka:H7 (aA 134 w4 w0.heap.size b4 (k+1) c4 ((bV ps).take (k+1))):=by
        show aA _ _ _ _ _ _ _
        rw[<-HS.o];exact Ha
      have La:=Hd ((Aa.o.alloc Aa.o.size _).trans Ia)
      clear Ha Ia
      go_wp2
      go_roundw
      case rel=>exact⟨k+1,b4,c4,by omega,by go_num,rfl,Ka.o,La.o⟩
      case measure=>simp[intOf];omega
    . have Na:k=n:=by omega
      subst Na
      go_wp2
      go_ret
      refine⟨a',cap',rfl,?_,Aa.o⟩
      have:=Ea.o
      rw[xt (by rw[iU,HZ.o.len];exact m3 _)]at this
      exact this
theorem uY(w:World)(hz:ez w a n c ps)(hn:n<=1001):
    Calls prog 134 #[.slice a n c] w λe w'=>∃a' cap',e=.returned (.slice a' n cap')/\aA 134 w' w.heap.size a' n cap' (bV ps)/\m1 w w':=by
  have HZ:=Hd hz
  obtain⟨i0,hi,Aa,Ba,Ca⟩:=info_parts cJ
  clear hz
  go_enter func134,ntmps134
  go_wp2_with(at_make;refine wpList_make_own _ rfl _ _ 79 rfl w.heap.size 134 i0 (it 0) 1 underlying79 hi Aa Ba .i64 .i64 _ n rfl rfl rfl (by rw[Ca];omega) (by unfold maxLen;omega) (m3 _) ?_)
  intro w1 Da hg
  have HO:=Hd Da
  have HB:=Hd (ba hg)
  clear Da hg hi Aa Ba Ca
  go_wp2_with fail
  refine(rT w w1 HZ.o HB.o HO.o hn).mono ?_
  rintro e w2 ⟨a2,c2,rfl,Ea,Fa⟩
  have Ga:=Hd Ea
  have Ha:=Hd Fa
  clear Ea Fa
  go_wp2
  go_ret
  exact⟨a2,c2,rfl,Ga.o,Ha.o⟩
def cw(xs ys:List Int):Nat->List (Int×Int)
  | 0=>[]
  | k+1=>cw xs ys k++[(xs.getD k 0,ys.getD k 0)]
theorem eY(xs ys:List Int):∀k,(cw xs ys k).length=k
  | 0=>rfl
  | k+1=>by rw[cw,xS,eY xs ys k];rfl
theorem d8(xs ys:List Int):∀{k i:Nat},i<k->(cw xs ys k).getD i (0,0)=(xs.getD i 0,ys.getD i 0)
  | k+1,i,h=>by
    rw[cw,m5]
    by_cases e:i=k
    . subst e
      rw[List.getElem?_append_right (by rw[eY];exact m3 _),eY,Nat.sub_self];rfl
    . rw[List.getElem?_append_left (by rw[eY];omega),<-m5]
      exact d8 xs ys (by omega)
theorem qv{xs ys:List Int}(w:World)(hx:aC w a n c xs)(hy:aC w b n d ys)(hn:n<=1001):
    Calls prog 131 #[.slice a n c,.slice b n d] w λe w'=>∃a' cap',e=.returned (.slice a' n cap')/\bg 242 w' w.heap.size a' n cap' (cw xs ys n)/\m1 w w':=by
  have HX:=Hd hx
  have HY:=Hd hy
  obtain⟨i0,hi,Da,Ea,Fa⟩:=info_parts iu
  clear hx hy
  go_enter func131,ntmps131
  go_wp2_with(at_make;refine wpList_make_own _ rfl _ _ 205 rfl w.heap.size 242 i0 (.agg #[it 0,it 0]) 2 underlying205 hi Da Ea .i64 .i64 _ n rfl rfl rfl (by rw[Fa];omega) (by unfold maxLen;omega) (m3 _) ?_)
  intro w1 Aa hg
  have HO:H7 (bg 242 w1 w.heap.size (some ⟨w.heap.size,0,none⟩) 0 n (cw xs ys 0)):=⟨rfl,Aa⟩
  have HB:=Hd (ba hg)
  clear Aa hg
  go_wp2
  go_loopw [5,13] (λs i wr=>∃(k:Nat) (a':Option Addr) (cap':Nat),k<=n/\i=it k/\s=.slice a' k cap'/\bg 242 wr w.heap.size a' k cap' (cw xs ys k)/\m1 w wr) (λ_ i _=>n-(intOf i).toNat)
  case atStart=>exact⟨0,_,n,by omega,rfl,rfl,HO.o,HB.o⟩
  case round=>
    obtain⟨k,a',cap',hk,rfl,rfl,Ga,Ha⟩:=hrel
    have Ca:=Hd Ga
    have Ba:=Hd Ha
    clear Ga Ha HO HB
    by_cases Ia:k<n
    . obtain⟨b1,o1,rfl,Ja⟩:=(HX.o.below Ba.o).at (by omega)
      obtain⟨b2,o2,rfl,Ka⟩:=(HY.o.below Ba.o).at (by omega)
      have e1:=Ja k Ia
      have e2:=Ka k Ia
      have hI:(k:Int)<(n:Int):=by omega
      have Ra:=Ba.o.size
      have HP:H7 (mX (cw xs ys k)++[it (xs.getD k 0),it (ys.getD k 0)]=mX (cw xs ys (k+1))):=jH _ (xs.getD k 0,ys.getD k 0)
      clear Ja Ka
      generalize xs.getD k 0=x at e1 HP
      generalize ys.getD k 0=y at e2 HP
      go_wp2_with(at_builtin;refine wpList_append_own _ rfl _ _ 205 rfl w.heap.size 242 i0 (.agg #[it 0,it 0]) 2 16 underlying205 hi Da Ea Fa rfl (by decide) _ k (mX (cw xs ys k)) rfl (xY Ca.o.2 _) ⟨wr.heap.size,0,none⟩ 1 1 [it x,it y] rfl rfl (eS wr _ _ _) (eW _ _) (by unfold maxLen;omega) (by omega) (by simp;omega) ?_)
      intro v' w4 Aa La _
      rw[HP.o]at Aa
      obtain⟨b4,c4,rfl,Na⟩:=bg.form (eY xs ys (k+1)) Aa
      have Oa:=Hd Na
      have Pa:=Hd ((Ba.o.alloc Ba.o.size _).grown La (by simp;omega) Ca.o.row)
      clear Aa La Na
      go_wp2
      go_roundw
      case rel=>exact⟨k+1,b4,c4,by omega,by go_num,rfl,Oa.o,Pa.o⟩
      case measure=>simp[intOf];omega
    . have Qa:k=n:=by omega
      subst Qa
      go_wp2
      go_ret
      exact⟨a',cap',rfl,Ca.o,Ba.o⟩
theorem lq(s:Int×Int)(c:Int)(w:World)(hs:M.sOk s=true)(c0:0<=c)(c1:c<65537):
    Rt 178 #[dd s,.int .i64 c] w (dd (s.1*c%65537,s.2*c%65537)):=by
  obtain⟨⟨x0,x1⟩,⟨y0,y1⟩⟩:=(M.sOk_iff _).1 hs
  obtain⟨x,y⟩:=s
  dsimp only[dd]at *
  have Ba:H7 (m1 w ((w.alloc (.cells #[.int .i64 x,.int .i64 y] 242)).alloc (.cells #[.int .i64 0,.int .i64 0] 242))):=((m8 _ _).alloc (m3 _) _).alloc (by simp) _
  have HK:H7 (∀W,Below (w.heap.size+2) ((w.alloc (.cells #[.int .i64 x,.int .i64 y] 242)).alloc (.cells #[.int .i64 0,.int .i64 0] 242)) W->(W.cell? ⟨w.heap.size,0,none⟩=some (.int .i64 x)/\W.cell? ⟨w.heap.size,1,none⟩=some (.int .i64 y))/\W.cell? ⟨w.heap.size+1,0,none⟩=some (.int .i64 0)/\W.frozen? ⟨w.heap.size+1,0,none⟩=false/\W.cell? ⟨w.heap.size+1,1,none⟩=some (.int .i64 0)/\W.frozen? ⟨w.heap.size+1,1,none⟩=false):=λW hW=>by
    have l0:=(show aw ((w.alloc (.cells #[.int .i64 x,.int .i64 y] 242)).alloc (.cells #[.int .i64 0,.int .i64 0] 242)) (w.heap.size) [.int .i64 x,.int .i64 y]from((aQ _ _ _).alloc _)).below hW (by omega)
    have l1:=(show aw ((w.alloc (.cells #[.int .i64 x,.int .i64 y] 242)).alloc (.cells #[.int .i64 0,.int .i64 0] 242)) (w.heap.size+1) [.int .i64 0,.int .i64 0]from(aZ _ _ _ _)).below hW (by omega)
    exact⟨⟨l0.at 0,l0.at 1⟩,l1.at 0,l1.fr 0,l1.at 1,l1.fr 1⟩
  generalize Ca:((w.alloc (.cells #[.int .i64 x,.int .i64 y] 242)).alloc (.cells #[.int .i64 0,.int .i64 0] 242))=wa at Ba HK
  have Ea:=Hd Ca
  clear Ca
  have Aa:Below (w.heap.size+2) wa wa.drew:=(m8 _ _).drew
  go_enter func178,ntmps178
  go_wp2
  rw[Ea.o]
  obtain⟨-,t0,t1,t2,t3⟩:=HK.o _ (m8 _ _)
  have Fa:H7 (∀(W:World) (g0 g1:Value),(W.cell? ⟨w.heap.size,0,none⟩=some (.int .i64 x)/\W.cell? ⟨w.heap.size,1,none⟩=some (.int .i64 y))->((W.setCell ⟨w.heap.size+1,0,none⟩ g0).setCell ⟨w.heap.size+1,1,none⟩ g1).cell? ⟨w.heap.size,0,none⟩=some (.int .i64 x)/\((W.setCell ⟨w.heap.size+1,0,none⟩ g0).setCell ⟨w.heap.size+1,1,none⟩ g1).cell? ⟨w.heap.size,1,none⟩=some (.int .i64 y)):=λW g0 g1 h=>by
    have Da:∀(b:Nat) (o:Nat),b≠w.heap.size+1->((W.setCell ⟨w.heap.size+1,0,none⟩ g0).setCell ⟨w.heap.size+1,1,none⟩ g1).cell? ⟨b,o,none⟩=W.cell? ⟨b,o,none⟩:=λb o hb=>
      (xQ (w:=W.setCell ⟨w.heap.size+1,0,none⟩ g0) (a:=⟨w.heap.size+1,1,none⟩) (b:=⟨b,o,none⟩) (v:=g1) (h:=by intro e;simp only[Addr.mk.injEq]at e;omega)).trans (xQ (w:=W) (a:=⟨w.heap.size+1,0,none⟩) (b:=⟨b,o,none⟩) (v:=g0) (h:=by intro e;simp only[Addr.mk.injEq]at e;omega))
    obtain⟨h0,h1⟩:=h
    exact⟨(Da _ _ (by omega)).trans h0,(Da _ _ (by omega)).trans h1⟩
  go_region_held3 (λW=>W.cell? ⟨w.heap.size,0,none⟩=some (.int .i64 x)/\W.cell? ⟨w.heap.size,1,none⟩=some (.int .i64 y)) (first | with_reducible exact(HK.o _ Aa).1 | exact Fa.o _ _ _ (HK.o _ Aa).1)
    (first
      | (go_at_call_of 68 (Value.int .i64 x);refine(bI x c _ x0 x1 c0 c1).mono ?_;rintro e w1 ⟨rfl,rfl⟩)
      | (go_at_call_of 68 (Value.int .i64 y);refine(bI y c _ y0 y1 c0 c1).mono ?_;rintro e w2 ⟨rfl,rfl⟩))
  all_goals
    go_wp2
    refine s' (v:=.agg #[.int .i64 (x*c%65537),.int .i64 (y*c%65537)]) (by simp[results,results178,go_sem,t0,t2]) rfl ⟨rfl,?_⟩
    exact((Ba.o.trans (Aa.mono (by omega))).setCell (by show w.heap.size<=w.heap.size+1;omega) _).setCell (by show w.heap.size<=w.heap.size+1;omega) _
theorem lZ(s q:Int×Int)(w:World)(hs:M.sOk s=true)(hq:M.sOk q=true):
    Rt 177 #[dd s,dd q] w (dd ((s.1+65537-q.1)%65537,(s.2+65537-q.2)%65537)):=by
  obtain⟨⟨x0,x1⟩,⟨y0,y1⟩⟩:=(M.sOk_iff _).1 hs
  obtain⟨⟨u0,u1⟩,⟨v0,v1⟩⟩:=(M.sOk_iff _).1 hq
  obtain⟨x,y⟩:=s
  obtain⟨u,v⟩:=q
  dsimp only[dd]at *
  have Ca:H7 (m1 w (((w.alloc (.cells #[.int .i64 x,.int .i64 y] 242)).alloc (.cells #[.int .i64 u,.int .i64 v] 242)).alloc (.cells #[.int .i64 0,.int .i64 0] 242))):=(((m8 _ _).alloc (m3 _) _).alloc (by simp) _).alloc (by simp;omega) _
  have HK:H7 (∀W,Below (w.heap.size+3) (((w.alloc (.cells #[.int .i64 x,.int .i64 y] 242)).alloc (.cells #[.int .i64 u,.int .i64 v] 242)).alloc (.cells #[.int .i64 0,.int .i64 0] 242)) W->(W.cell? ⟨w.heap.size,0,none⟩=some (.int .i64 x)/\W.cell? ⟨w.heap.size,1,none⟩=some (.int .i64 y)/\W.cell? ⟨w.heap.size+1,0,none⟩=some (.int .i64 u)/\W.cell? ⟨w.heap.size+1,1,none⟩=some (.int .i64 v))/\W.cell? ⟨w.heap.size+1+1,0,none⟩=some (.int .i64 0)/\W.frozen? ⟨w.heap.size+1+1,0,none⟩=false/\W.cell? ⟨w.heap.size+1+1,1,none⟩=some (.int .i64 0)/\W.frozen? ⟨w.heap.size+1+1,1,none⟩=false):=λW hW=>by
    have l0:=(show aw (((w.alloc (.cells #[.int .i64 x,.int .i64 y] 242)).alloc (.cells #[.int .i64 u,.int .i64 v] 242)).alloc (.cells #[.int .i64 0,.int .i64 0] 242)) (w.heap.size) [.int .i64 x,.int .i64 y]from(((aQ _ _ _).alloc _).alloc _)).below hW (by omega)
    have l1:=(show aw (((w.alloc (.cells #[.int .i64 x,.int .i64 y] 242)).alloc (.cells #[.int .i64 u,.int .i64 v] 242)).alloc (.cells #[.int .i64 0,.int .i64 0] 242)) (w.heap.size+1) [.int .i64 u,.int .i64 v]from((aZ _ _ _ _).alloc _)).below hW (by omega)
    have l2:=(show aw (((w.alloc (.cells #[.int .i64 x,.int .i64 y] 242)).alloc (.cells #[.int .i64 u,.int .i64 v] 242)).alloc (.cells #[.int .i64 0,.int .i64 0] 242)) (w.heap.size+1+1) [.int .i64 0,.int .i64 0]from(dG _ _ _ _ _)).below hW (by omega)
    exact⟨⟨l0.at 0,l0.at 1,l1.at 0,l1.at 1⟩,l2.at 0,l2.fr 0,l2.at 1,l2.fr 1⟩
  generalize Da:(((w.alloc (.cells #[.int .i64 x,.int .i64 y] 242)).alloc (.cells #[.int .i64 u,.int .i64 v] 242)).alloc (.cells #[.int .i64 0,.int .i64 0] 242))=wa at Ca HK
  have Ea:=Hd Da
  clear Da
  have Ba:Below (w.heap.size+3) wa wa.drew:=(m8 _ _).drew
  go_enter func177,ntmps177
  go_wp2
  rw[Ea.o]
  obtain⟨-,t0,t1,t2,t3⟩:=HK.o _ (m8 _ _)
  have Fa:H7 (∀(W:World) (g0 g1:Value),(W.cell? ⟨w.heap.size,0,none⟩=some (.int .i64 x)/\W.cell? ⟨w.heap.size,1,none⟩=some (.int .i64 y)/\W.cell? ⟨w.heap.size+1,0,none⟩=some (.int .i64 u)/\W.cell? ⟨w.heap.size+1,1,none⟩=some (.int .i64 v))->((W.setCell ⟨w.heap.size+1+1,0,none⟩ g0).setCell ⟨w.heap.size+1+1,1,none⟩ g1).cell? ⟨w.heap.size,0,none⟩=some (.int .i64 x)/\((W.setCell ⟨w.heap.size+1+1,0,none⟩ g0).setCell ⟨w.heap.size+1+1,1,none⟩ g1).cell? ⟨w.heap.size,1,none⟩=some (.int .i64 y)/\((W.setCell ⟨w.heap.size+1+1,0,none⟩ g0).setCell ⟨w.heap.size+1+1,1,none⟩ g1).cell? ⟨w.heap.size+1,0,none⟩=some (.int .i64 u)/\((W.setCell ⟨w.heap.size+1+1,0,none⟩ g0).setCell ⟨w.heap.size+1+1,1,none⟩ g1).cell? ⟨w.heap.size+1,1,none⟩=some (.int .i64 v)):=λW g0 g1 h=>by
    have Aa:∀(b:Nat) (o:Nat),b≠w.heap.size+1+1->((W.setCell ⟨w.heap.size+1+1,0,none⟩ g0).setCell ⟨w.heap.size+1+1,1,none⟩ g1).cell? ⟨b,o,none⟩=W.cell? ⟨b,o,none⟩:=λb o hb=>
      (xQ (w:=W.setCell ⟨w.heap.size+1+1,0,none⟩ g0) (a:=⟨w.heap.size+1+1,1,none⟩) (b:=⟨b,o,none⟩) (v:=g1) (h:=by intro e;simp only[Addr.mk.injEq]at e;omega)).trans (xQ (w:=W) (a:=⟨w.heap.size+1+1,0,none⟩) (b:=⟨b,o,none⟩) (v:=g0) (h:=by intro e;simp only[Addr.mk.injEq]at e;omega))
    obtain⟨h0,h1,h2,h3⟩:=h
    exact⟨(Aa _ _ (by omega)).trans h0,(Aa _ _ (by omega)).trans h1,(Aa _ _ (by omega)).trans h2,(Aa _ _ (by omega)).trans h3⟩
  go_region_held3 (λW=>W.cell? ⟨w.heap.size,0,none⟩=some (.int .i64 x)/\W.cell? ⟨w.heap.size,1,none⟩=some (.int .i64 y)/\W.cell? ⟨w.heap.size+1,0,none⟩=some (.int .i64 u)/\W.cell? ⟨w.heap.size+1,1,none⟩=some (.int .i64 v)) (first | with_reducible exact(HK.o _ Ba).1 | exact Fa.o _ _ _ (HK.o _ Ba).1)
    (first
      | (go_at_call_of 118 (Value.int .i64 x);refine(eU x u _ x0 x1 u0 u1).mono ?_;rintro e w1 ⟨rfl,rfl⟩)
      | (go_at_call_of 118 (Value.int .i64 y);refine(eU y v _ y0 y1 v0 v1).mono ?_;rintro e w2 ⟨rfl,rfl⟩))
  all_goals
    go_wp2
    refine s' (v:=.agg #[.int .i64 ((x+65537-u)%65537),.int .i64 ((y+65537-v)%65537)]) (by simp[results,results177,go_sem,t0,t2]) rfl ⟨rfl,?_⟩
    exact((Ca.o.trans (Ba.mono (by omega))).setCell (by show w.heap.size<=w.heap.size+1+1;omega) _).setCell (by show w.heap.size<=w.heap.size+1+1;omega) _
end Go.Proofs.YtbjalickbnpnkaaGreatDoor
