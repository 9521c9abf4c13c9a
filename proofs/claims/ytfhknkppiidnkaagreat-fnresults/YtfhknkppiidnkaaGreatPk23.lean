import Derived.Test.YtfhknkppiidnkaaGreatPk00
import Derived.Test.YtfhknkppiidnkaaGreatPk01
import Derived.Test.YtfhknkppiidnkaaGreatPk12
import Derived.Test.YtfhknkppiidnkaaGreatPk03
import Derived.Test.YtfhknkppiidnkaaGreatPk02
namespace Go.Proofs.YtfhknkppiidnkaaGreat
open Go.RowKit
def cvs (c:M.Cl):List Value:=[.int .i64 c.s.1,.int .i64 c.s.2,.int .i64 c.e.1,.int .i64 c.e.2,.int .i64 c.n]
def M.c0 : M.Cl:=⟨(0,0),(0,0),0⟩
def prc (cs:List M.Cl):List Value:=cs.flatMap cvs
theorem prc_snoc (cs:List M.Cl) (c:M.Cl):prc cs++cvs c=prc (cs++[c]):=by simp [prc]
theorem prc_len (cs:List M.Cl):(prc cs).length=cs.length*5:=by
 induction cs with
 | nil=>rfl
 | cons p r ih=>show (cvs p++prc r).length=_;rw [List.length_append,ih];simp [cvs];omega
theorem prc_get : ∀ (cs:List M.Cl) {i j:Nat},i<cs.length→j<5→(prc cs)[i*5+j]? = (cvs (cs.getD i M.c0))[j]?
 | [],_,_,h,_=>by simp at h
 | p::r,0,j,_,hj=>by
  show (cvs p++prc r)[0*5+j]? = _
  rw [Nat.zero_mul,Nat.zero_add,List.getElem?_append_left (by simp [cvs];omega)];rfl
 | p::r,i+1,j,h,hj=>by
  have ih:=prc_get r (i:=i) (j:=j) (by simpa using h) hj
  show (cvs p++prc r)[(i+1)*5+j]? = _
  rw [List.getElem?_append_right (by simp [cvs];omega),show (i+1)*5+j-(cvs p).length=i*5+j by simp [cvs];omega,ih];rfl
def OwnsC (t:TypeId) (w:World) (base:Nat) (a:Option Addr) (n cap:Nat) (cs:List M.Cl):Prop:=cs.length=n∧w.ownsRow base t 5 (.slice a n cap) n (prc cs)
theorem OwnsC.form {t:TypeId} {w:World} {base n:Nat} {v:Value} {cs:List M.Cl} (hl:cs.length=n) (h:w.ownsRow base t 5 v n (prc cs)):∃ a cap,v=.slice a n cap∧OwnsC t w base a n cap cs:=by
 rcases h.2 with ⟨rfl,rfl⟩ | ⟨g,cap,cur,rfl,_⟩
 · exact ⟨none,0,rfl,hl,h⟩
 · exact ⟨_,cap,rfl,hl,h⟩
structure SeesC (w : World) (a : Option Addr) (n cap : Nat) (cs : List M.Cl) : Prop where
 len:cs.length=n
 le:n≤cap
 big:(cap:Int)≤9223372036854775807
 no:a=none→n=0∧cap=0
 pos:n=0∨∃ b off,a=some ⟨b,off,none⟩∧∀ i,i<n→∀ j,j<5→w.cell? ⟨b,off+i*5+j,none⟩=(cvs (cs.getD i M.c0))[j]?
theorem SeesC.at {w:World} {a:Option Addr} {n cap:Nat} {cs:List M.Cl} (h:SeesC w a n cap cs) (h0:0<n):∃ b off,a=some ⟨b,off,none⟩∧∀ i,i<n→∀ j,j<5→w.cell? ⟨b,off+i*5+j,none⟩=(cvs (cs.getD i M.c0))[j]?:=by
 rcases h.pos with e | e
 · omega
 · exact e
theorem SeesC.below {w w':World} {a:Option Addr} {n cap:Nat} {cs:List M.Cl} (h:SeesC w a n cap cs) (hb:Below w.heap.size w w'):SeesC w' a n cap cs:=by
 refine ⟨h.len,h.le,h.big,h.no,?_⟩
 by_cases h0:n=0
 · exact .inl h0
 ·
  obtain ⟨b,Aa,e,hc⟩:=h.at (by omega)
  have Ba:b<w.heap.size:=World.block_lt_of_cell? w ⟨b,Aa+0*5+0,none⟩ ((hc 0 (by omega) 0 (by omega)).trans rfl)
  exact .inr ⟨b,Aa,e,fun i hi j hj=>(hb.cell (p:=⟨b,Aa+i*5+j,none⟩) Ba).trans (hc i hi j hj)⟩
theorem OwnsC.block {t:TypeId} {w:World} {base n cap:Nat} {a:Option Addr} {cs:List M.Cl} (h:OwnsC t w base a n cap cs) (h0:0<n):∃ g,a=some ⟨g,0,none⟩∧base≤g∧n≤cap∧(cap:Int)≤9223372036854775807∧∀ i,i<n→∀ j,j<5→w.cell? ⟨g,i*5+j,none⟩=(cvs (cs.getD i M.c0))[j]?:=by
 obtain ⟨hl,h⟩:=h
 have Aa:∀ g,(Value.slice a n cap).ownBlock=some g→_:=fun g hg=>World.ownsRow.cells h hg
 rcases h.2 with ⟨_,h0'⟩ | ⟨g,c,cur,e,hb,hh,hn,hm,_,_⟩
 · omega
 ·
  simp only [Value.slice.injEq] at e
  obtain ⟨rfl,-,rfl⟩:=e
  have Ba:∀ j,(⟨g,0,none⟩:Addr).add j=⟨g,j,none⟩:=fun j=>by unfold Addr.add;split <;> simp_all
  unfold maxLen at hm
  refine ⟨g,rfl,hb,hn,by omega,fun i hi j hj=>?_⟩
  have h1:=prc_get cs (i:=i) (j:=j) (by omega) hj
  have hj':j<(cvs (cs.getD i M.c0)).length:=by simpa [cvs] using hj
  rw [List.getElem?_eq_getElem hj'] at h1 ⊢
  have c1:=Aa g rfl _ _ h1
  rw [Ba] at c1
  exact c1
theorem OwnsC.sees {t:TypeId} {w:World} {base n cap:Nat} {a:Option Addr} {cs:List M.Cl} (h:OwnsC t w base a n cap cs):SeesC w a n cap cs:=by
 by_cases h0:0<n
 ·
  obtain ⟨g,rfl,_,h1,h2,hc⟩:=h.block h0
  exact ⟨h.1,h1,h2,fun e=>by simp at e,.inr ⟨g,0,rfl,fun i hi j hj=>by simpa using hc i hi j hj⟩⟩
 ·
  have hn:n=0:=by omega
  subst hn
  rcases h.2.2 with ⟨e,_⟩ | ⟨g,c,cur,e,hb,hh,hle,hm,_,_⟩
  ·
   simp only [Value.slice.injEq] at e
   obtain ⟨rfl,-,rfl⟩:=e
   exact ⟨h.1,by omega,by omega,fun _=>⟨rfl,rfl⟩,.inl rfl⟩
  ·
   simp only [Value.slice.injEq] at e
   obtain ⟨rfl,-,rfl⟩:=e
   unfold maxLen at hm
   exact ⟨h.1,hle,by omega,fun e=>by simp at e,.inl rfl⟩
theorem OwnsC.row {t:TypeId} {w:World} {base n cap:Nat} {a:Option Addr} {cs:List M.Cl} (h:OwnsC t w base a n cap cs):∀ q,(Value.slice a n cap).ownBlock=some q→base≤q:=by
 intro q hq
 rcases h.2.2 with ⟨e,_⟩ | ⟨g,c,cur,e,hb,_⟩
 · simp only [Value.slice.injEq] at e;rw [e.1] at hq;simp [Value.ownBlock] at hq
 · simp only [Value.slice.injEq] at e;rw [e.1] at hq;simp [Value.ownBlock] at hq;omega
theorem OwnsC.below {t:TypeId} {w w':World} {base n cap:Nat} {a:Option Addr} {cs:List M.Cl} (h:OwnsC t w base a n cap cs) (hb:Below w.heap.size w w'):OwnsC t w' base a n cap cs:=
 ⟨h.1,World.ownsRow.kept h.2 (w':=w') (row:=none) ⟨hb.os,hb.tape,hb.output,hb.size,fun k hk _=>hb.block k hk⟩ (by cases hv:(Value.slice a n cap).ownBlock <;> simp)⟩
theorem OwnsC.mono {t:TypeId} {w:World} {base base' n cap:Nat} {a:Option Addr} {cs:List M.Cl} (h:OwnsC t w base a n cap cs) (hb:base'≤base):OwnsC t w base' a n cap cs:=by
 refine ⟨h.1,h.2.1,?_⟩
 rcases h.2.2 with e | ⟨g,c,cur,e,hg,r⟩
 · exact .inl e
 · exact .inr ⟨g,c,cur,e,by omega,r⟩
theorem OwnsC.other {t:TypeId} {w:World} {base n cap:Nat} {a:Option Addr} {cs:List M.Cl} (h:OwnsC t w base a n cap cs) (p:Addr) (hp:p.block<base) (v:Value):OwnsC t (w.setCell p v) base a n cap cs:=by
 refine ⟨h.1,World.ownsRow.kept h.2 (w':=w.setCell p v) (row:=some p.block) ⟨rfl,rfl,rfl,by simp [World.setCell],fun k hk hne=>Below.heap_setCell _ _ _ _ (fun e=>hne (by rw [e]))⟩ ?_⟩
 have hr:=h.row
 cases hv:(Value.slice a n cap).ownBlock with
 | none=>exact .inl rfl
 | some q=>exact .inr (by have:=hr q hv;simp;omega)
theorem OwnsC.lo {t:TypeId} {w:World} {base n cap:Nat} {a:Option Addr} {cs:List M.Cl} (h:OwnsC t w base a n cap cs):∀ x,a=some x→base≤x.block∧x.block<w.heap.size:=by
 rintro x rfl;exact World.ownsRow.lt h.2 _ rfl
theorem OwnsC.rowlt {t:TypeId} {w:World} {base n cap:Nat} {a:Option Addr} {cs:List M.Cl} (h:OwnsC t w base a n cap cs):∀ q,(Value.slice a n cap).ownBlock=some q→base≤q∧q<w.heap.size:=by
 intro q hq
 exact World.ownsRow.lt h.2 _ hq
theorem ownsC_none (t:TypeId) (w:World) (base:Nat):OwnsC t w base none 0 0 []:=⟨rfl,rfl,.inl ⟨rfl,rfl⟩⟩
theorem five_ints (c:M.Cl):∀ u∈cvs c,u.oneCell'=true:=by
 intro u hu
 simp only [cvs,List.mem_cons,List.not_mem_nil,or_false] at hu
 rcases hu with rfl | rfl | rfl | rfl | rfl <;> rfl
theorem cell_five (w:World) (vs:List Value) (t:TypeId):∀ j u,vs[j]? = some u→(w.alloc (.cells vs.toArray t)).cell? ((⟨w.heap.size,0,none⟩:Addr).add j)=some u:=by
 intro j u hj
 have e:((⟨w.heap.size,0,none⟩:Addr).add j)=⟨w.heap.size,j,none⟩:=by unfold Addr.add;split <;> simp_all
 rw [e,World.cell?_alloc_new]
 simpa using hj
def M.cuts (m:M.Mc) (s:Int×Int) (k n:Nat):List M.Cl:=(List.range n).map fun i=>⟨m.rn s (i*k),m.rn s ((i+1)*k),(k:Int)⟩
theorem M.cuts_len (m:M.Mc) (s:Int×Int) (k n:Nat):(M.cuts m s k n).length=n:=by simp [M.cuts]
theorem M.cuts_snoc (m:M.Mc) (s:Int×Int) (k n:Nat):M.cuts m s k n++[⟨m.rn s (n*k),m.rn s ((n+1)*k),(k:Int)⟩]=M.cuts m s k (n+1):=by simp [M.cuts,List.range_succ]
theorem M.cuts_get (m:M.Mc) (s:Int×Int) (k n:Nat) {i:Nat} (h:i<n):(M.cuts m s k n).getD i M.c0=⟨m.rn s (i*k),m.rn s ((i+1)*k),(k:Int)⟩:=by
 rw [List.getD_eq_getElem?_getD];simp [M.cuts,h]
def M.cutOk (m:M.Mc) (s:Int×Int) (rows many:Int):Bool:=m.ok && (M.sOk s && (M.rows rows && (decide (1≤many) && decide (many≤8))))
def M.cutv (m:M.Mc) (s:Int×Int) (rows many:Int):List M.Cl:=if M.cutOk m s rows many=true then M.cuts m s (rows-1).toNat many.toNat else []
theorem M.cutv_in {m:M.Mc} {s:Int×Int} {rows many:Int} (h:M.cutOk m s rows many=true):M.cutv m s rows many=M.cuts m s (rows-1).toNat many.toNat:=if_pos h
theorem M.cutv_out {m:M.Mc} {s:Int×Int} {rows many:Int} (h:M.cutOk m s rows many=false):M.cutv m s rows many=[]:=if_neg (by rw [h];decide)
theorem M.cutOk_parts {m:M.Mc} {s:Int×Int} {rows many:Int} (h:M.cutOk m s rows many=true):m.ok=true∧M.sOk s=true∧M.rows rows=true∧1≤many∧many≤8:=by
 unfold M.cutOk at h;simp only [Bool.and_eq_true,decide_eq_true_eq] at h;exact ⟨h.1,h.2.1,h.2.2.1,h.2.2.2.1,h.2.2.2.2⟩
theorem info_claim : (Tryz.prog.info? 33).map (fun i=>(i.zero,i.size,i.bytes))=some (some (.agg #[.int .i64 0,.int .i64 0,.int .i64 0,.int .i64 0,.int .i64 0]),5,40):=by kernel_rfl
set_option maxHeartbeats 4000000 in
theorem implCutOf_any (mm:M.Mc) (s:Int×Int) (rows many:Int) (w:World):Calls Tryz.prog 23 #[mcv mm,stv s,.int .i64 rows,.int .i64 many] w fun e w'=>∃ a l cap,e=.returned (.tuple #[.slice a l cap,.bool (M.cutOk mm s rows many)])∧l≤8∧OwnsC 33 w' w.heap.size a l cap (M.cutv mm s rows many)∧Below w.heap.size w w':=by
 have C1:=rowsOk_any rows
 cases hrw:M.rows rows with
 | false =>
  have Ba:M.cutOk mm s rows many=false:=by unfold M.cutOk;rw [hrw];simp
  rw [Ba,M.cutv_out Ba]
  rw [hrw] at C1
  clear Ba hrw
  obtain ⟨⟨a,b,c,d,f,k⟩,⟨a',b',c',d',f',k'⟩⟩:=mm
  obtain ⟨x,y⟩:=s
  dsimp only [mcv,stv] at ⊢
  go_enter Tryz.func23,Tryz.ntmps23
  go_wp2_with fail
  refine (C1 _).mono ?_
  rintro e w1 ⟨rfl,rfl⟩
  go_wp2
  go_ret2
  exact ⟨none,0,0,rfl,by omega,ownsC_none _ _ _,((Below.refl _ _).alloc (Nat.le_refl _) _).alloc (by simp) _⟩
 | true =>
  by_cases Ib:1≤many∧many≤8
  ·
   obtain ⟨Jb,Kb⟩:=Ib
   obtain ⟨n,rfl⟩:=Int.eq_ofNat_of_zero_le (show 0≤many by omega)
   obtain ⟨K,rfl⟩:∃ K:Nat,rows=(K:Int)+1:=⟨(rows-1).toNat,by rcases M.rows_yes hrw with h | h | h | h <;> omega⟩
   have Rb:1≤K:=by rcases M.rows_yes hrw with h | h | h | h <;> omega
   have Lb:K≤15:=by rcases M.rows_yes hrw with h | h | h | h <;> omega
   have Pa:n*K≤120:=Nat.le_trans (Nat.mul_le_mul (show n≤8 by omega) Lb) (by decide)
   have C2:=implRunOf_any mm s ((n:Int)*(K:Int))
   have Ea:M.cutOk mm s ((K:Int)+1) (n:Int)=M.runOk mm s ((n:Int)*(K:Int)):=by
    unfold M.cutOk M.runOk
    have h0:(0:Int)≤(n:Int)*(K:Int):=by exact_mod_cast Nat.zero_le (n*K)
    have h1:(n:Int)*(K:Int)≤1000:=by have:((n*K:Nat):Int)≤120:=(by exact_mod_cast Pa);push_cast at this;omega
    rw [hrw];simp [Jb,Kb,h0,h1]
   have Fa:M.runOk mm s ((n:Int)*(K:Int))=true→M.runv mm s ((n:Int)*(K:Int))=mm.run s (n*K)∧M.cutv mm s ((K:Int)+1) (n:Int)=M.cuts mm s K n:=fun h=>by
    refine ⟨by rw [M.runv_in h];congr 1,?_⟩
    rw [M.cutv_in (Ea.trans h)];congr 1;omega
   have Qa:M.runOk mm s ((n:Int)*(K:Int))=false→M.cutv mm s ((K:Int)+1) (n:Int)=[]:=fun h=>M.cutv_out (Ea.trans h)
   rw [hrw] at C1
   rw [Ea]
   cases hro:M.runOk mm s ((n:Int)*(K:Int)) with
   | false =>
    rw [Qa hro]
    rw [hro] at C2
    clear hro Qa Fa Ea hrw
    obtain ⟨⟨a,b,c,d,f,k⟩,⟨a',b',c',d',f',k'⟩⟩:=mm
    obtain ⟨x,y⟩:=s
    dsimp only [mcv,stv] at C2 ⊢
    go_enter Tryz.func23,Tryz.ntmps23
    go_wp2_with fail
    refine (C1 _).mono ?_
    rintro e w1 ⟨rfl,rfl⟩
    go_wp2_with fail
    refine (C2 _).mono ?_
    rintro e w1 ⟨ra,rl,rc,rfl,-,-,Ga⟩
    have Ha:H9 (Below w.heap.size w w1):=(((Below.refl _ _).alloc (Nat.le_refl _) _).alloc (by simp) _).trans (Ga.mono (by simp;omega))
    clear Ga
    go_wp2
    go_ret2
    exact ⟨none,0,0,rfl,by omega,ownsC_none _ _ _,Ha.o⟩
   | true =>
    obtain ⟨Wa,Fa⟩:=Fa hro
    rw [Fa]
    rw [hro,Wa] at C2
    have HR:H9 (∀ i,i≤n*K→(mm.run s (n*K)).getD i (0,0)=mm.rn s i):=fun i hi=>M.run_get mm s _ _ hi
    have HS:H9 (∀ j,M.cuts mm s K j++[⟨mm.rn s (j*K),mm.rn s ((j+1)*K),(K:Int)⟩]=M.cuts mm s K (j+1)):=fun j=>M.cuts_snoc mm s K j
    have HL:H9 (∀ j,(M.cuts mm s K j).length=j):=fun j=>M.cuts_len mm s K j
    have Xa:H9 (M.cuts mm s K 0=[]):=rfl
    have Ya:H9 ((mm.run s (n*K)).length=n*K+1):=M.run_len mm s (n*K)
    generalize mm.run s (n*K)=rn at C2 HR Ya
    clear hro Qa Fa Wa Ea hrw
    generalize hcu:(fun j=>M.cuts mm s K j)=cu
    have Ra:H9 (∀ j,M.cuts mm s K j=cu j):=fun j=>by rw [← hcu]
    generalize hrr:(fun j=>mm.rn s j)=rr
    have Za:H9 (∀ j,mm.rn s j=rr j):=fun j=>by rw [← hrr]
    rw [Ra.o]
    simp only [Ra.o,Za.o] at HR HS HL Xa
    clear hcu hrr Ra Za
    obtain ⟨i0,hi,Ia,Ja,Ka⟩:=info_parts info_claim
    have HI:H9 (Tryz.prog.info? 33 = some i0∧i0.zero=some (.agg v9'.toArray)∧i0.size=5∧i0.bytes=40):=⟨hi,Ia,Ja,Ka⟩
    clear hi Ia Ja Ka
    obtain ⟨⟨a,b,c,d,f,k⟩,⟨a',b',c',d',f',k'⟩⟩:=mm
    obtain ⟨x,y⟩:=s
    dsimp only [mcv,stv] at C2 ⊢
    go_enter Tryz.func23,Tryz.ntmps23
    go_wp2_with fail
    refine (C1 _).mono ?_
    rintro e w1 ⟨rfl,rfl⟩
    go_wp2_with fail
    refine (C2 _).mono ?_
    rintro e w1 ⟨ra,rl,rc,rfl,-,Ca,Ga⟩
    have Ha:H9 (Below w.heap.size w w1):=(((Below.refl _ _).alloc (Nat.le_refl _) _).alloc (by simp) _).trans (Ga.mono (by simp;omega))
    have Nb:rl=n*K+1:=by rw [← Ca.1];exact Ya.o
    subst Nb
    have Sa:H9 (SeesQ w1 ra (n*K+1) rc rn):=Ca.sees (by omega)
    clear Ga Ca
    obtain ⟨hi,Ia,Ja,Ka⟩:=HI.o
    go_wp2_with (at_make;refine wpList_make_own _ rfl _ _ 65 rfl w1.heap.size 33 i0 (.agg v9'.toArray) 5 Tryz.underlying65 hi Ia Ja .i64 .i64 _ n rfl rfl rfl (by rw [Ka];omega) (by unfold maxLen;omega) (Nat.le_refl _) ?_)
    intro w2 La hg
    have HO:H9 (OwnsC 33 w2 w1.heap.size (some ⟨w1.heap.size,0,none⟩) 0 n (cu 0)):=by show OwnsC _ _ _ _ _ _ _;rw [Xa.o];exact ⟨rfl,La⟩
    have Ab:H9 (Below w1.heap.size w1 w2):=below_grown hg
    clear La hg hi Ia Ja Ka
    have HT:H9 (∃ T,T=n*K):=⟨_,rfl⟩
    obtain ⟨T,hT⟩:=HT.o
    have Ta:H9 (T=n*K):=hT
    rw [← hT] at Sa HR ⊢
    clear hT HT
    obtain ⟨b1,o1,rfl,Bb⟩:=Sa.o.at (by omega)
    have Na:H9 (∀ i,i≤T→w1.cell? ⟨b1,o1+i*2,none⟩=some (it (rr i).1)∧w1.cell? ⟨b1,o1+i*2+1,none⟩=some (it (rr i).2)):=fun i hi=>by have:=Bb i (by omega);rw [HR.o i hi] at this;exact this
    have Sb:(T:Int)+1≤rc:=by have:=Sa.o.le;omega
    have Oa:H9 (b1<w1.heap.size):=World.block_lt_of_cell? w1 ⟨b1,o1+0*2,none⟩ (Na.o 0 (by omega)).1
    have Tb:T≤120:=by rw [Ta.o];exact Pa
    clear Bb Pa
    go_wp2
    go_loopw [13,42] (fun s i wr=>∃ (j:Nat) (al:Option Addr) (Da:Nat),j≤n∧i=it j∧s=.slice al j Da∧OwnsC 33 wr w1.heap.size al j Da (cu j)∧Below w1.heap.size w1 wr) (fun _ i _=>n-(intOf i).toNat)
    case atStart=>exact ⟨0,_,_,by omega,rfl,rfl,HO.o,Ab.o⟩
    case round =>
     obtain ⟨j,al,Da,hj,rfl,rfl,Ca,Cb⟩:=hrel
     have Ua:H9 (OwnsC 33 wr w1.heap.size al j Da (cu j)):=Ca
     have Aa:H9 (Below w1.heap.size w1 wr):=Cb
     clear Ca Cb HO Ab
     by_cases Db:j<n
     ·
      have hI:(j:Int)<(n:Int):=by omega
      obtain ⟨p,hp⟩:∃ p,p=j*K:=⟨_,rfl⟩
      obtain ⟨q,hq⟩:∃ q,q=(j+1)*K:=⟨_,rfl⟩
      have Eb:q≤T:=by rw [hq,Ta.o];exact Nat.mul_le_mul_right K Db
      have Fb:p≤T:=by rw [hp,Ta.o];exact Nat.mul_le_mul_right K (Nat.le_of_lt Db)
      have Ub:(j:Int)*(K:Int)=(p:Int):=by rw [hp];push_cast;rfl
      have Vb:((j:Int)+1)*(K:Int)=(q:Int):=by rw [hq];push_cast;rfl
      have Wb:(p:Int)<(T:Int)+1:=by omega
      have Xb:IntKind.i64.wrap (p:Int)=(p:Int):=wrap_smallm (by omega) (by omega)
      have Yb:IntKind.i64.wrap ((j:Int)+1)=(j:Int)+1:=wrap_smallm (by omega) (by omega)
      have Zb:IntKind.i64.wrap (q:Int)=(q:Int):=wrap_smallm (by omega) (by omega)
      have Ac:(q:Int)<(T:Int)+1:=by omega
      have Va:H9 (cu j++[⟨rr p,rr q,(K:Int)⟩]=cu (j+1)):=by show _=_;rw [hp,hq];exact HS.o j
      have p0:=(Aa.o.cell (p:=⟨b1,o1+p*2,none⟩) Oa.o).trans (Na.o p Fb).1
      have p1:=(Aa.o.cell (p:=⟨b1,o1+p*2+1,none⟩) Oa.o).trans (Na.o p Fb).2
      have q0:=(Aa.o.cell (p:=⟨b1,o1+q*2,none⟩) Oa.o).trans (Na.o q Eb).1
      have q1:=(Aa.o.cell (p:=⟨b1,o1+q*2+1,none⟩) Oa.o).trans (Na.o q Eb).2
      generalize rr p=rp at Va p0 p1
      generalize rr q=rq at Va q0 q1
      obtain ⟨u,v⟩:=rp
      obtain ⟨u2,v2⟩:=rq
      dsimp only at p0 p1 q0 q1
      clear hp hq
      go_wp2
      go_region_law (refine step_append_ownm rfl (.tmp 45) (.tmp 61) 65 rfl w1.heap.size 33 i0 (.agg v9'.toArray) 5 40 Tryz.underlying65 HI.o.1 HI.o.2.1 HI.o.2.2.1 HI.o.2.2.2 rfl (by decide) (.slice al j Da) j (prc (cu j)) (by simp [Act.eval]) (World.ownsRow.alloc (Ua.o.below (Below.refl _ _).drew).2 _) ⟨wr.heap.size,0,none⟩ 1 1 (cvs ⟨(u,v),(u2,v2),(K:Int)⟩) (by simp [Act.eval]) rfl (cell_five wr.drew _ _) (five_ints _) (by unfold maxLen;omega) (by omega) (by have:=Aa.o.size;simp;omega) ?_;intro v' w5 La hgrow)
      all_goals
       have hown':w5.ownsRow w1.heap.size 33 5 v' (j+1) (prc (cu (j+1))):=by rw [← Va.o,← prc_snoc];exact La
       obtain ⟨b5,c5,rfl,Gb⟩:=OwnsC.form (HL.o (j+1)) hown'
       have Ob:H9 (OwnsC 33 w5 w1.heap.size b5 (j+1) c5 (cu (j+1))):=Gb
       have Hb:=Ua.o.row
       have Pb:H9 (Below w1.heap.size w1 w5):=(Aa.o.drew.alloc Aa.o.size _).grown hgrow (by have:=Aa.o.size;simp;omega) Hb
       clear La hown' hgrow Gb Hb p0 p1 q0 q1
       go_wp2
       go_roundw
       case rel=>exact ⟨j+1,b5,c5,by omega,by go_num,rfl,Ob.o,Pb.o⟩
       case measure=>simp [intOf];omega
     ·
      have Qb:j=n:=by omega
      subst Qb
      go_wp2
      go_ret2
      exact ⟨al,j,Da,rfl,by omega,Ua.o.mono Ha.o.size,Ha.o.trans (Aa.o.mono Ha.o.size)⟩
  ·
   have Ba:M.cutOk mm s rows many=false:=by
    unfold M.cutOk
    have:(decide (1≤many) && decide (many≤8))=false:=by simp;omega
    rw [this];simp
   rw [Ba,M.cutv_out Ba]
   rw [hrw] at C1
   clear Ba hrw
   obtain ⟨⟨a,b,c,d,f,k⟩,⟨a',b',c',d',f',k'⟩⟩:=mm
   obtain ⟨x,y⟩:=s
   dsimp only [mcv,stv] at ⊢
   by_cases h1:1≤many
   have h8:¬ many≤8:=by omega
   rotate_left
   rotate_left
   all_goals
    go_enter Tryz.func23,Tryz.ntmps23
    go_wp2_with fail
    refine (C1 _).mono ?_
    rintro e w1 ⟨rfl,rfl⟩
    go_wp2
    go_ret2
    exact ⟨none,0,0,rfl,by omega,ownsC_none _ _ _,((Below.refl _ _).alloc (Nat.le_refl _) _).alloc (by simp) _⟩
theorem ownsC_empty {t:TypeId} (w:World) (base:Nat) (hb:base≤w.heap.size):OwnsC t (w.alloc (.cells #[] t)) base (some ⟨w.heap.size,0,none⟩) 0 0 []:=by
 refine ⟨rfl,rfl,.inr ⟨w.heap.size,0,#[],rfl,hb,?_,Nat.le_refl _,by unfold maxLen;omega,rfl,rfl⟩⟩
 show (w.heap.push _)[w.heap.size]? = _
 simp
theorem cell_fiveb (w:World) (b:Nat) (hb:w.heap.size=b) (vs:List Value) (t:TypeId):∀ j u,vs[j]? = some u→(w.alloc (.cells vs.toArray t)).cell? ((⟨b,0,none⟩:Addr).add j)=some u:=by
 subst hb;exact cell_five _ _ _
set_option maxHeartbeats 4000000 in
theorem specCutOf_any (mm:M.Mc) (s:Int×Int) (rows many:Int) (w:World):Calls Tryz.prog 28 #[mcv mm,stv s,.int .i64 rows,.int .i64 many] w fun e w'=>∃ a l cap,e=.returned (.tuple #[.slice a l cap,.bool (M.cutOk mm s rows many)])∧l≤8∧OwnsC 33 w' w.heap.size a l cap (M.cutv mm s rows many)∧Below w.heap.size w w':=by
 have C1:=specMachineOk_any mm
 have C2:=specStateOk_any s
 have C3:=l6Rows_any rows
 have C4:=l1InG_any many 1 8
 cases hok:M.cutOk mm s rows many with
 | false =>
  rw [M.cutv_out hok]
  have Ha:mm.ok=false∨(mm.ok=true∧M.sOk s=false)∨(mm.ok=true∧M.sOk s=true∧M.rows rows=false)∨(mm.ok=true∧M.sOk s=true∧M.rows rows=true∧(decide (1≤many) && decide (many≤8))=false):=by
   unfold M.cutOk at hok
   cases h1:mm.ok <;> cases h2:M.sOk s <;> cases h3:M.rows rows <;> simp_all
  clear hok
  generalize mm.ok=o1 at C1 Ha
  generalize M.sOk s=o2 at C2 Ha
  generalize M.rows rows=o3 at C3 Ha
  generalize (decide (1≤many) && decide (many≤8))=o4 at C4 Ha
  obtain ⟨⟨a,b,c,d,f,k⟩,⟨a',b',c',d',f',k'⟩⟩:=mm
  obtain ⟨x,y⟩:=s
  dsimp only [mcv,stv] at C1 C2 ⊢
  have LS:H9 (Lies ((w.alloc (.cells (v1' a b c d f k a' b' c' d' f' k').toArray 41)).alloc (.cells #[it x,it y] 31)) (w.heap.size+1) [it x,it y]):=lies_new2 _ _ _ _
  rcases Ha with rfl | ⟨rfl,rfl⟩ | ⟨rfl,rfl,rfl⟩ | ⟨rfl,rfl,rfl,rfl⟩
  all_goals
   go_enter Tryz.func28,Tryz.ntmps28
   go_wp2_with fail
   refine (C1 _).mono ?_
   rintro e w1 ⟨rfl,Ba⟩
   have Ca:H9 (Below w.heap.size w w1):=(((Below.refl _ _).alloc (Nat.le_refl _) _).alloc (by simp) _).trans (Ba.mono (by simp;omega))
   have q0:w1.cell? ⟨w.heap.size+1,0,none⟩=some (it x):=(LS.o.belowS Ba).at 0
   have q1:w1.cell? ⟨w.heap.size+1,1,none⟩=some (it y):=(LS.o.belowS Ba).at 1
   clear Ba
   try (
    go_wp2_with fail
    refine (C2 _).mono ?_
    rintro e w2 ⟨rfl,Ea⟩
    replace Ca:H9 (Below w.heap.size w w2):=Ca.o.trans (Ea.mono Ca.o.size)
    clear Ea)
   try (
    go_wp2_with fail
    refine (C3 _).mono ?_
    rintro e w3 ⟨rfl,rfl⟩)
   try (
    go_wp2_with fail
    refine (C4 _).mono ?_
    rintro e w3 ⟨rfl,rfl⟩)
   go_wp2
   go_ret2
   exact ⟨none,0,0,rfl,by omega,ownsC_none _ _ _,Ca.o⟩
 | true =>
  obtain ⟨hm,hs,Ia,Yb,Zb⟩:=M.cutOk_parts hok
  rw [M.cutv_in hok]
  rw [hm] at C1
  rw [hs] at C2
  rw [Ia] at C3
  rw [decide_eq_true Yb,decide_eq_true Zb] at C4
  obtain ⟨n,rfl⟩:=Int.eq_ofNat_of_zero_le (show 0≤many by omega)
  obtain ⟨K,rfl⟩:∃ K:Nat,rows=(K:Int)+1:=⟨(rows-1).toNat,by rcases M.rows_yes Ia with h | h | h | h <;> omega⟩
  have Ic:1≤K:=by rcases M.rows_yes Ia with h | h | h | h <;> omega
  have Jc:K≤15:=by rcases M.rows_yes Ia with h | h | h | h <;> omega
  rw [show ((K:Int)+1-1).toNat=K by omega,Int.toNat_natCast]
  have CA:H9 (∀ (q:Int×Int) (w:World),M.sOk q=true→Calls Tryz.prog 57 #[mcv mm,stv q,.int .i64 (K:Int)] w fun e w'=>e=.returned (.tuple #[stv (mm.rn q K),.bool true])∧Below w.heap.size w w'):=fun q w hq=>by
   have hr:M.runOk mm q (K:Int)=true:=M.runOk_mk hm hq (by omega) (by omega)
   have:=specAfter_any mm q (K:Int) w
   rw [hr,M.aft_in hr,Int.toNat_natCast] at this
   exact this
  have Db:H9 (∀ i,M.sOk (mm.rn s i)=true):=fun i=>M.sOk_rn mm hs i
  have Eb:H9 (∀ j,mm.rn (mm.rn s (j*K)) K=mm.rn s ((j+1)*K)):=fun j=>by show _=_;rw [M.rn_add,Nat.succ_mul]
  have HS:H9 (∀ j,M.cuts mm s K j++[⟨mm.rn s (j*K),mm.rn s ((j+1)*K),(K:Int)⟩]=M.cuts mm s K (j+1)):=fun j=>M.cuts_snoc mm s K j
  have HL:H9 (∀ j,(M.cuts mm s K j).length=j):=fun j=>M.cuts_len mm s K j
  have Fb:H9 (M.cuts mm s K 0=[]):=rfl
  have Ua:H9 (mm.rn s (0*K)=s):=by show _=_;rw [Nat.zero_mul];rfl
  generalize hcu:(fun j=>M.cuts mm s K j)=cu
  have Va:H9 (∀ j,M.cuts mm s K j=cu j):=fun j=>by rw [← hcu]
  generalize hrr:(fun j=>mm.rn s j)=rr
  have Na:H9 (∀ j,mm.rn s j=rr j):=fun j=>by rw [← hrr]
  generalize hnn:(fun q=>mm.rn q K)=nn
  have Wa:H9 (∀ q,mm.rn q K=nn q):=fun q=>by rw [← hnn]
  rw [Va.o]
  simp only [Wa.o] at CA
  simp only [Na.o,Wa.o] at Eb
  simp only [Va.o,Na.o] at HS HL Fb
  simp only [Na.o] at Db Ua
  clear hcu hrr Va Na hnn Wa hok hm hs Ia
  obtain ⟨i0,hi,Gb,Hb,Ib⟩:=info_parts info_claim
  have HI:H9 (Tryz.prog.info? 33 = some i0∧i0.zero=some (.agg v9'.toArray)∧i0.size=5∧i0.bytes=40):=⟨hi,Gb,Hb,Ib⟩
  clear hi Gb Hb Ib
  obtain ⟨⟨a,b,c,d,f,k⟩,⟨a',b',c',d',f',k'⟩⟩:=mm
  obtain ⟨x,y⟩:=s
  dsimp only [mcv,stv] at C1 C2 CA Ua ⊢
  have LS:H9 (Lies ((w.alloc (.cells (v1' a b c d f k a' b' c' d' f' k').toArray 41)).alloc (.cells #[it x,it y] 31)) (w.heap.size+1) [it x,it y]):=lies_new2 _ _ _ _
  have LM:H9 (Lies ((w.alloc (.cells (v1' a b c d f k a' b' c' d' f' k').toArray 41)).alloc (.cells #[it x,it y] 31)) w.heap.size (v1' a b c d f k a' b' c' d' f' k')):=(lies_new _ _ _).alloc _
  go_enter Tryz.func28,Tryz.ntmps28
  go_wp2_with fail
  refine (C1 _).mono ?_
  rintro e w1 ⟨rfl,Ba⟩
  have Ca:H9 (Below w.heap.size w w1):=(((Below.refl _ _).alloc (Nat.le_refl _) _).alloc (by simp) _).trans (Ba.mono (by simp;omega))
  have Oa:=Hd (LS.o.belowS Ba)
  have Jb:=Hd (LM.o.belowS Ba)
  have q0:=Oa.o.c 0 rfl
  have q1:=Oa.o.c 1 rfl
  clear Ba LS LM
  go_wp2_with fail
  refine (C2 _).mono ?_
  rintro e w2 ⟨rfl,Ea⟩
  have Xa:=Hd (Ca.o.trans (Ea.mono Ca.o.size))
  have Ya:=Hd (Oa.o.belowS Ea)
  have Kb:=Hd (Jb.o.belowS Ea)
  clear Ea Oa Jb Ca q0 q1
  go_wp2_with fail
  refine (C3 _).mono ?_
  rintro e w2 ⟨rfl,rfl⟩
  go_wp2_with fail
  refine (C4 _).mono ?_
  rintro e w2 ⟨rfl,rfl⟩
  have Ac:w.heap.size+2≤w2.heap.size:=by have:=Ya.o.2.2;omega
  have HO:H9 (OwnsC 33 (w2.alloc (.cells #[] 33)) (w.heap.size+2) (some ⟨w2.heap.size,0,none⟩) 0 0 (cu 0)):=by show OwnsC _ _ _ _ _ _ _;rw [Fb.o];exact ownsC_empty _ _ Ac
  have Lb:H9 (Lies (w2.alloc (.cells #[] 33)) (w.heap.size+1) [it (rr (0*K)).1,it (rr (0*K)).2]):=by show Lies _ _ _;rw [Ua.o];exact Ya.o.alloc _
  have Nb:H9 (Lies (w2.alloc (.cells #[] 33)) w.heap.size (v1' a b c d f k a' b' c' d' f' k')):=Kb.o.alloc _
  have Ob:H9 (Below w.heap.size w (w2.alloc (.cells #[] 33))):=Xa.o.alloc Xa.o.size _
  clear Ya Kb Xa C1 C2 C3 C4
  go_wp2
  go_loopw [10,11] (fun s i wr=>∃ (j:Nat) (al:Option Addr) (Fa:Nat),j≤n∧i=it j∧s=.slice al j Fa∧OwnsC 33 wr (w.heap.size+2) al j Fa (cu j)∧Lies wr (w.heap.size+1) [it (rr (j*K)).1,it (rr (j*K)).2]∧Lies wr w.heap.size (v1' a b c d f k a' b' c' d' f' k')∧Below w.heap.size w wr) (fun _ i _=>n-(intOf i).toNat)
  case atStart=>exact ⟨0,_,_,by omega,rfl,rfl,HO.o,Lb.o,Nb.o,Ob.o⟩
  case round =>
   obtain ⟨j,al,Fa,hj,rfl,rfl,Pb,Ga,Qb,Rb⟩:=hrel
   have Pa:H9 (OwnsC 33 wr (w.heap.size+2) al j Fa (cu j)):=Pb
   have Ja:H9 (Below w.heap.size w wr):=Rb
   have Aa:H9 (Lies wr w.heap.size (v1' a b c d f k a' b' c' d' f' k')):=Qb
   clear Pb Rb Qb HO Ob Lb Nb
   by_cases Kc:j<n
   ·
    have hI:(j:Int)<(n:Int):=by omega
    have Za:H9 (cu j++[⟨rr (j*K),rr ((j+1)*K),(K:Int)⟩]=cu (j+1)):=HS.o j
    have CQ:=fun W=>CA.o (rr (j*K)) W (Db.o _)
    rw [Eb.o j] at CQ
    generalize rr (j*K)=rp at Za Ga CQ
    have Sb:H9 (∃ z,z=rr ((j+1)*K)):=⟨_,rfl⟩
    obtain ⟨rq,Ab⟩:=Sb.o
    rw [← Ab] at Za CQ
    have HQ:H9 (rq=rr ((j+1)*K)):=Ab
    clear Ab Sb
    obtain ⟨u,v⟩:=rp
    obtain ⟨u2,v2⟩:=rq
    dsimp only [stv] at Ga CQ
    have Bb:H9 (Lies wr (w.heap.size+1) [it u,it v]):=Ga
    have s0:=Ga.c 0 rfl
    have s1:=Ga.c 1 rfl
    have z0:=Aa.o.c 0 rfl
    have z1:=Aa.o.c 1 rfl
    have z2:=Aa.o.c 2 rfl
    have z3:=Aa.o.c 3 rfl
    have z4:=Aa.o.c 4 rfl
    have z5:=Aa.o.c 5 rfl
    have z6:=Aa.o.c 6 rfl
    have z7:=Aa.o.c 7 rfl
    have z8:=Aa.o.c 8 rfl
    have z9:=Aa.o.c 9 rfl
    have Bc:=Aa.o.c 10 rfl
    have Cc:=Aa.o.c 11 rfl
    clear Ga
    go_wp2_with fail
    refine (CQ _).mono ?_
    rintro e w4 ⟨rfl,Da⟩
    have Qa:H9 (Below w.heap.size w (w4.alloc (.cells #[it u2,it v2] 31))):=(Ja.o.trans (Da.mono Ja.o.size)).alloc (by have:=Ja.o.size;have:=Da.size;omega) _
    have Cb:H9 (OwnsC 33 (w4.alloc (.cells #[it u2,it v2] 31)) (w.heap.size+2) al j Fa (cu j)):=(Pa.o.below Da).below ((Below.refl _ _).alloc (Nat.le_refl _) _)
    have Tb:H9 (∀ q,(Value.slice al j Fa).ownBlock=some q→q<w4.heap.size):=fun q hq=>(((Pa.o.below Da).rowlt) q hq).2
    have Ra:H9 (Lies (w4.alloc (.cells #[it u2,it v2] 31)) (w.heap.size+1) [it u,it v]):=(Bb.o.belowS Da).alloc _
    have Ub:H9 (Lies (w4.alloc (.cells #[it u2,it v2] 31)) w.heap.size (v1' a b c d f k a' b' c' d' f' k')):=(Aa.o.belowS Da).alloc _
    have Sa:=lnw w4 [it u2,it v2] 31
    have Lc:w.heap.size+2≤w4.heap.size:=by have:=(Bb.o.belowS Da).2.2;omega
    have Dc:(w4.alloc (.cells #[it u2,it v2] 31)).heap.size=w4.heap.size+1:=by simp
    clear Da s0 s1 z0 z1 z2 z3 z4 z5 z6 z7 z8 z9 Bc Cc Ja Pa Aa Bb
    have s0:(w4.alloc (.cells #[it u2,it v2] 31)).cell? ⟨w.heap.size+1,0,none⟩=some (it u):=Ra.o.at 0
    have s1:(w4.alloc (.cells #[it u2,it v2] 31)).cell? ⟨w.heap.size+1,1,none⟩=some (it v):=Ra.o.at 1
    have e0:(w4.alloc (.cells #[it u2,it v2] 31)).cell? ⟨w4.heap.size,0,none⟩=some (it u2):=Sa.o.at 0
    have e1:(w4.alloc (.cells #[it u2,it v2] 31)).cell? ⟨w4.heap.size,1,none⟩=some (it v2):=Sa.o.at 1
    go_wp2_with (at_builtin;refine wpList_append_own _ rfl _ _ 65 rfl (w.heap.size+2) 33 i0 (.agg v9'.toArray) 5 40 Tryz.underlying65 HI.o.1 HI.o.2.1 HI.o.2.2.1 HI.o.2.2.2 rfl (by decide) _ j (prc (cu j)) rfl (World.ownsRow.alloc Cb.o.2 _) ⟨w4.heap.size+1,0,none⟩ 1 1 (cvs ⟨(u,v),(u2,v2),(K:Int)⟩) rfl rfl (cell_fiveb (w4.alloc (.cells #[it u2,it v2] 31)) _ Dc _ _) (five_ints _) (by unfold maxLen;omega) (by omega) (by simp;omega) ?_)
    intro v' w6 Vb Ka _
    have hown':w6.ownsRow (w.heap.size+2) 33 5 v' (j+1) (prc (cu (j+1))):=by rw [← Za.o,← prc_snoc];exact Vb
    obtain ⟨b6,c6,rfl,Wb⟩:=OwnsC.form (HL.o (j+1)) hown'
    have Ta:=Cb.o.row
    have La:H9 (Lies w6 (w.heap.size+1) [it u,it v]):=(Ra.o.alloc _).grown Ka (fun e=>by have:=Ta _ e;omega)
    have Ec:H9 (Lies w6 w.heap.size (v1' a b c d f k a' b' c' d' f' k')):=(Ub.o.alloc _).grown Ka (fun e=>by have:=Ta _ e;omega)
    have Xb:H9 (Lies w6 w4.heap.size [it u2,it v2]):=(Sa.o.alloc _).grown Ka (fun e=>by have:=Tb.o _ e;omega)
    have Fc:H9 (OwnsC 33 w6 (w.heap.size+2) b6 (j+1) c6 (cu (j+1))):=Wb
    have Gc:H9 (Below w.heap.size w w6):=(Qa.o.alloc Qa.o.size _).grown Ka (by have:=Qa.o.size;simp;omega) (fun q hq=>by have:=Ta q hq;omega)
    clear Vb hown' Ka Wb Ta s0 s1 e0 e1 Cb Ra Ub Sa Qa Tb
    have s0:=La.o.c 0 rfl
    have s1:=La.o.c 1 rfl
    have t0:=La.o.fr 0
    have t1:=La.o.fr 1
    have e0:=Xb.o.c 0 rfl
    have e1:=Xb.o.c 1 rfl
    go_wp2
    go_roundw
    case rel =>
     refine ⟨j+1,b6,c6,by omega,by go_num,rfl,(Fc.o.other ⟨w.heap.size+1,0,none⟩ (by show w.heap.size+1<_;omega) _).other ⟨w.heap.size+1,1,none⟩ (by show w.heap.size+1<_;omega) _,?_,(Ec.o.far (by omega) _ _).far (by omega) _ _,(Gc.o.setCell (by show w.heap.size≤w.heap.size+1;omega) _).setCell (by show w.heap.size≤w.heap.size+1;omega) _⟩
     rw [← HQ.o]
     exact (La.o.set 0 (by simp) _).set 1 (by simp) _
    case measure=>simp [intOf];omega
   ·
    have Hc:j=n:=by omega
    subst Hc
    go_wp2
    go_ret2
    exact ⟨al,j,Fa,rfl,by omega,Pa.o.mono (by omega),Ja.o⟩
def M.lnk : List M.Cl→Bool
 | []=>true
 | a::r=>M.clOk a && ((match r with | []=>true | b::_=>decide (a.e.1=b.s.1) && decide (a.e.2=b.s.2)) && M.lnk r)
def M.tot : List M.Cl→Int
 | []=>0
 | a::r=>a.n+M.tot r
def M.chain (l:List M.Cl):Bool:=M.lnk l && decide (M.tot l≤1000)
def M.whole (l:List M.Cl):M.Cl:=⟨(l.headD M.c0).s,(l.getLastD M.c0).e,M.tot l⟩
theorem M.lnk_one (a:M.Cl):M.lnk [a]=M.clOk a:=by show (M.clOk a && (true && true))=_;simp
theorem M.lnk_two (a b:M.Cl) (r:List M.Cl):M.lnk (a::b::r)=(M.clOk a && ((decide (a.e.1=b.s.1) && decide (a.e.2=b.s.2)) && M.lnk (b::r))):=rfl
theorem M.lnk_tail {a:M.Cl} {r:List M.Cl} (h:M.lnk (a::r)=true):M.lnk r=true:=by
 unfold M.lnk at h;simp only [Bool.and_eq_true] at h;exact h.2.2
theorem M.lnk_app : ∀ (p r:List M.Cl),M.lnk (p++r)=true→M.lnk r=true
 | [],_,h=>h
 | _::p,r,h=>M.lnk_app p r (M.lnk_tail h)
theorem M.tot_app : ∀ (p r:List M.Cl),M.tot (p++r)=M.tot p+M.tot r
 | [],r=>by simp [M.tot]
 | a::p,r=>by show a.n+M.tot (p++r)=_;rw [M.tot_app p r];show _=a.n+M.tot p+_;omega
theorem M.tot_pos : ∀ (l:List M.Cl),M.lnk l=true→0≤M.tot l
 | [],_=>by simp [M.tot]
 | a::r,h=>by
  have h1:=M.tot_pos r (M.lnk_tail h);unfold M.lnk at h;simp only [Bool.and_eq_true] at h;have:=M.clOk_n h.1;show 0≤a.n+M.tot r;omega
theorem M.tot_pre : ∀ (p r:List M.Cl),M.lnk (p++r)=true→0≤M.tot p
 | [],_,_=>by simp [M.tot]
 | a::p,r,h=>by
  have h1:=M.tot_pre p r (M.lnk_tail h);have h2:M.lnk (a::(p++r))=true:=h;unfold M.lnk at h2;simp only [Bool.and_eq_true] at h2;have:=M.clOk_n h2.1;show 0≤a.n+M.tot p;omega
theorem M.clOk_s {c:M.Cl} (h:M.clOk c=true):M.sOk c.s=true∧M.sOk c.e=true:=by
 unfold M.clOk at h;simp only [Bool.and_eq_true] at h;exact ⟨h.1,h.2.1⟩
theorem M.clOk_of {c:M.Cl} (h1:M.sOk c.s=true) (h2:M.sOk c.e=true) (h3:1≤c.n) (h4:c.n≤1000):M.clOk c=true:=by
 unfold M.clOk;rw [h1,h2,decide_eq_true h3,decide_eq_true h4];rfl
theorem M.joinOk_parts {a b:M.Cl} (h:M.joinOk a b=true):M.clOk a=true∧M.clOk b=true∧a.e.1=b.s.1∧a.e.2=b.s.2∧a.n+b.n≤1000:=by
 unfold M.joinOk at h;simp only [Bool.and_eq_true,decide_eq_true_eq] at h;exact ⟨h.1,h.2.1,h.2.2.1.1,h.2.2.1.2,h.2.2.2⟩
theorem M.joinOk_of {a b:M.Cl} (h1:M.clOk a=true) (h2:M.clOk b=true) (h3:a.e.1=b.s.1) (h4:a.e.2=b.s.2) (h5:a.n+b.n≤1000):M.joinOk a b=true:=by
 unfold M.joinOk;rw [h1,h2,decide_eq_true h3,decide_eq_true h4,decide_eq_true h5];rfl
theorem M.join_ok {a b:M.Cl} (h:M.joinOk a b=true):M.clOk (M.joinv a b)=true:=by
 obtain ⟨h1,h2,-,-,h5⟩:=M.joinOk_parts h;have n1:=M.clOk_n h1;have n2:=M.clOk_n h2;rw [M.joinv_in h];exact M.clOk_of (M.clOk_s h1).1 (M.clOk_s h2).2 (show 1≤a.n+b.n by omega) h5
theorem M.lnk_join {a b:M.Cl} (h:M.joinOk a b=true):∀ (p r:List M.Cl),M.lnk (p++M.joinv a b::r)=M.lnk (p++a::b::r)
 | [],r=>by
  obtain ⟨h1,h2,h3,h4,-⟩:=M.joinOk_parts h;have h6:=M.join_ok h;show M.lnk (M.joinv a b::r)=M.lnk (a::b::r);rw [M.lnk_two a b r,h1,decide_eq_true h3,decide_eq_true h4]
  cases r with
  | nil=>rw [M.lnk_one,M.lnk_one,h6,h2];rfl
  | cons c r=>rw [M.lnk_two (M.joinv a b),M.lnk_two b,h6,h2,M.joinv_in h];rfl
 | x::p,r=>by
  have ih:=M.lnk_join h p r;show M.lnk (x::(p++M.joinv a b::r))=M.lnk (x::(p++a::b::r));unfold M.lnk;rw [ih]
  cases p with
  | nil=>rw [show ([]:List M.Cl)++M.joinv a b::r=M.joinv a b::r from rfl,show ([]:List M.Cl)++a::b::r=a::b::r from rfl,M.joinv_in h]
  | cons y p=>rfl
theorem M.tot_join {a b:M.Cl} (h:M.joinOk a b=true) (p r:List M.Cl):M.tot (p++M.joinv a b::r)=M.tot (p++a::b::r):=by
 rw [M.tot_app,M.tot_app,M.joinv_in h];show _+(a.n+b.n+M.tot r)=_+(a.n+(b.n+M.tot r));omega
theorem M.chain_join {a b:M.Cl} (h:M.joinOk a b=true) (p r:List M.Cl):M.chain (p++M.joinv a b::r)=M.chain (p++a::b::r):=by
 unfold M.chain;rw [M.lnk_join h,M.tot_join h]
theorem M.chain_bad {a b:M.Cl} (h:M.joinOk a b=false) (p r:List M.Cl):M.chain (p++a::b::r)=false:=by
 cases hc:M.chain (p++a::b::r) with
 | false=>rfl
 | true =>
  unfold M.chain at hc;simp only [Bool.and_eq_true,decide_eq_true_eq] at hc;obtain ⟨hl,ht⟩:=hc;have h1:=M.tot_pre p _ hl;have h2:=M.lnk_app p _ hl;have h3:=M.tot_pos _ (M.lnk_tail (M.lnk_tail h2));rw [M.tot_app] at ht;have ht':M.tot p+(a.n+(b.n+M.tot r))≤1000:=ht;have h4:=M.lnk_tail h2;unfold M.lnk at h2 h4;simp only [Bool.and_eq_true,decide_eq_true_eq] at h2 h4;rw [M.joinOk_of h2.1 h4.1 h2.2.1.1 h2.2.1.2 (by omega)] at h;exact h
theorem M.whole_join {a b:M.Cl} (h:M.joinOk a b=true) (p r:List M.Cl):M.whole (p++M.joinv a b::r)=M.whole (p++a::b::r):=by
 unfold M.whole;rw [M.tot_join h]
 have e1:((p++M.joinv a b::r).headD M.c0).s=((p++a::b::r).headD M.c0).s:=by
  cases p with
  | nil=>rw [M.joinv_in h];rfl
  | cons x p=>rfl
 have e2:((p++M.joinv a b::r).getLastD M.c0).e=((p++a::b::r).getLastD M.c0).e:=by
  rw [List.getLastD_eq_getLast?,List.getLastD_eq_getLast?]
  cases r with
  | nil =>
   rw [show p++[a,b]=(p++[a])++[b] by simp,List.getLast?_append,List.getLast?_append];simp [M.joinv_in h]
  | cons x r =>
   rw [show p++M.joinv a b::x::r=(p++[M.joinv a b])++(x::r) by simp,show p++a::b::x::r=(p++[a,b])++(x::r) by simp,List.getLast?_append,List.getLast?_append];simp [List.getLast?_cons]
 rw [e1,e2]
structure M.Same (l cs : List M.Cl) : Prop where
 ch:M.chain cs=M.chain l
 wh:M.whole cs=M.whole l
 hd:M.clOk (cs.headD M.c0)=true
theorem M.Same.refl {l:List M.Cl} (h:M.clOk (l.headD M.c0)=true):M.Same l l:=⟨rfl,rfl,h⟩
theorem M.Same.join {l p r:List M.Cl} {a b:M.Cl} (h:M.Same l (p++a::b::r)) (hj:M.joinOk a b=true):M.Same l (p++M.joinv a b::r):=by
 refine ⟨(M.chain_join hj p r).trans h.ch,(M.whole_join hj p r).trans h.wh,?_⟩
 cases p with
 | nil=>exact M.join_ok hj
 | cons x p=>exact h.hd
theorem M.Same.bad {l p r:List M.Cl} {a b:M.Cl} (h:M.Same l (p++a::b::r)) (hj:M.joinOk a b=false):M.chain l=false:=by
 rw [← h.ch];exact M.chain_bad hj p r
theorem M.Same.one {l:List M.Cl} {c:M.Cl} (h:M.Same l [c]):M.chain l=true∧M.whole l=c:=by
 have hd:M.clOk c=true:=h.hd;have hn:=M.clOk_n hd;refine ⟨?_,?_⟩
 ·
  rw [← h.ch];unfold M.chain M.lnk M.tot;rw [hd];simp [M.lnk,M.tot];omega
 ·
  rw [← h.wh];unfold M.whole M.tot;simp [M.tot]
def M.allOk (l:List M.Cl):Bool:=decide (1≤l.length) && (decide (l.length≤40) && M.chain l)
def M.allv (l:List M.Cl):M.Cl:=if M.allOk l=true then M.whole l else M.c0
theorem M.allv_in {l:List M.Cl} (h:M.allOk l=true):M.allv l=M.whole l:=if_pos h
theorem M.allv_out {l:List M.Cl} (h:M.allOk l=false):M.allv l=M.c0:=if_neg (by rw [h];decide)
theorem M.allOk_bad {l:List M.Cl} (h:M.clOk (l.headD M.c0)=false):M.allOk l=false:=by
 cases l with
 | nil=>rfl
 | cons a r =>
  have h':M.clOk a=false:=h;unfold M.allOk M.chain M.lnk;rw [h'];simp
def lvs (xs:List M.Cl) (m:Int):List Value:=prc xs++[.int .i64 m]
def lvv (xs:List M.Cl) (m:Int):Value:=.agg (lvs xs m).toArray
def M.z40 : List M.Cl:=List.replicate 40 M.c0
theorem lvs_len {xs:List M.Cl} (h:xs.length=40) (m:Int):(lvs xs m).length=201:=by unfold lvs;rw [List.length_append,prc_len,h];rfl
theorem lvs_one {xs:List M.Cl} {m:Int}:∀ v∈lvs xs m,v.oneCell'=true:=by
 intro v hv;unfold lvs at hv
 rcases List.mem_append.1 hv with h | h
 ·
  unfold prc at h;obtain ⟨c,_,h⟩:=List.mem_flatMap.1 h;exact five_ints c v h
 · rw [List.mem_singleton.1 h];rfl
theorem lvs_at {xs:List M.Cl} (hx:xs.length=40) (m:Int) {i:Nat} (hi:i<40):∀ j v,(cvs (xs.getD i M.c0))[j]? = some v→(lvs xs m)[i*5+j]? = some v:=by
 intro j v hv
 have hj:j<5:=by
  rcases Nat.lt_or_ge j 5 with h | h
  · exact h
  · rw [List.getElem?_eq_none (by simpa [cvs] using h)] at hv;simp at hv
 unfold lvs;rw [List.getElem?_append_left (by rw [prc_len];omega),prc_get xs (by omega) hj];exact hv
theorem lvs_many {xs:List M.Cl} (hx:xs.length=40) (m:Int):(lvs xs m)[200]? = some (.int .i64 m):=by
 unfold lvs;rw [List.getElem?_append_right (by rw [prc_len];omega),prc_len,hx];rfl
theorem lvs_set_many {xs:List M.Cl} (hx:xs.length=40) (m k:Int):(lvs xs m).set 200 (.int .i64 k)=lvs xs k:=by
 unfold lvs;rw [List.set_append_right _ _ (by rw [prc_len];omega),prc_len,hx];rfl
theorem prc_set : ∀ (xs:List M.Cl) (r:List Value) {i:Nat} (c:M.Cl),i<xs.length→spl (prc xs++r) (i*5) (cvs c)=prc (xs.set i c)++r
 | [],_,_,_,h=>by simp at h
 | p::xs,r,0,c,_=>by
  unfold spl;show (cvs p++prc xs++r).take (0*5)++(cvs c++(cvs p++prc xs++r).drop (0*5+5))=cvs c++prc xs++r;rw [Nat.zero_mul,Nat.zero_add,List.take_zero,List.nil_append,List.append_assoc (cvs p),List.drop_append_of_le_length (by simp [cvs]),List.append_assoc (cvs c)]
  rfl
 | p::xs,r,i+1,c,h=>by
  have ih:=prc_set xs r (i:=i) c (by simpa using h);unfold spl at ih ⊢;show (cvs p++prc xs++r).take ((i+1)*5)++(cvs c++(cvs p++prc xs++r).drop ((i+1)*5+(cvs c).length))=cvs p++prc (xs.set i c)++r;rw [List.append_assoc (cvs p),List.append_assoc (cvs p),show (i+1)*5=(cvs p).length+i*5 by simp [cvs];omega,List.take_length_add_append,Nat.add_assoc,List.drop_length_add_append,List.append_assoc (cvs p),ih]
theorem lvs_set {xs:List M.Cl} (hx:xs.length=40) (m:Int) {i:Nat} (hi:i<40) (c:M.Cl):spl (lvs xs m) (i*5) (cvs c)=lvs (xs.set i c) m:=by
 unfold lvs;exact prc_set xs _ c (by omega)
theorem prc_drop : ∀ (n:Nat) (xs:List M.Cl),(prc xs).drop (n*5)=prc (xs.drop n)
 | 0,xs=>by simp
 | n+1,[]=>by simp [prc]
 | n+1,x::xs=>by
  show (cvs x++prc xs).drop ((n+1)*5)=prc (xs.drop n);rw [show (n+1)*5=(cvs x).length+n*5 by simp [cvs];omega,List.drop_length_add_append,prc_drop n xs]
theorem lvs_copy {cs:List M.Cl} (h:cs.length≤40) (m:Int):spl (lvs M.z40 m) 0 (prc cs)=lvs (cs++M.z40.drop cs.length) m:=by
 unfold spl lvs;rw [List.take_zero,List.nil_append,Nat.zero_add,prc_len,List.drop_append_of_le_length (by rw [prc_len];simp [M.z40];omega),prc_drop];simp [prc]
theorem z40_len : M.z40.length=40:=by simp [M.z40]
theorem take_z40 {cs:List M.Cl}:(cs++M.z40.drop cs.length).take cs.length=cs:=by simp
theorem len_z40 {cs:List M.Cl} (h:cs.length≤40):(cs++M.z40.drop cs.length).length=40:=by rw [List.length_append,List.length_drop,z40_len];omega
theorem prc_one {cs:List M.Cl}:∀ v∈prc cs,v.oneCell'=true:=by
 intro v h;unfold prc at h;obtain ⟨c,_,h⟩:=List.mem_flatMap.1 h;exact five_ints c v h
theorem SeesC.cells {w:World} {b off n cap:Nat} {cs:List M.Cl} (h:SeesC w (some ⟨b,off,none⟩) n cap cs):∀ j v,(prc cs)[j]? = some v→w.cell? ((⟨b,off,none⟩:Addr).add j)=some v:=by
 intro j v hv
 have hj:j<cs.length*5:=by
  rcases Nat.lt_or_ge j (cs.length*5) with h | h
  · exact h
  · rw [List.getElem?_eq_none (by rw [prc_len];exact h)] at hv;simp at hv
 have hn:=h.len;obtain ⟨b',Aa,e,hc⟩:=h.at (by omega);simp only [Option.some.injEq,Addr.mk.injEq,and_true] at e;obtain ⟨rfl,rfl⟩:=e;have h1:=hc (j / 5) (by omega) (j % 5) (by omega);have h2:=prc_get cs (i:=j / 5) (j:=j % 5) (by omega) (by omega);rw [show j / 5*5+j % 5=j by omega,hv] at h2;rw [← h2,show off+j / 5*5+j % 5=off+j by omega] at h1;rw [Addr.add_mid];exact h1
theorem lv_zero : Tryz.zeroCells113 = (lvs M.z40 0).toArray:=by kernel_rfl
theorem lv_size : (Tryz.prog.info? 113).map (·.size)=some 201:=by kernel_rfl
theorem cl_size : (Tryz.prog.info? 33).map (·.size)=some 5:=by kernel_rfl
theorem zc_list : Tryz.zeroCells113.toList=lvs M.z40 0:=by rw [lv_zero]
theorem zc_info : (Tryz.prog.info? 113).map (·.size)=some Tryz.zeroCells113.size:=by kernel_rfl
theorem zc_len : Tryz.zeroCells113.size=201:=by kernel_rfl
theorem zc_one : Tryz.zeroCells113.all (·.oneCell')=true:=by rw [lv_zero];exact all_oneCell_toArray lvs_one
theorem lies_zc (w:World):Lies (w.alloc (.cells Tryz.zeroCells113 113)) w.heap.size (lvs M.z40 0):=by
 have:=lies_new w Tryz.zeroCells113 113
 rwa [zc_list] at this
theorem load_lv {w:World} {b:Nat} {vs:List Value} (h:Lies w b vs) (hl:vs.length=201):(loadVar 113 ⟨b,0,none⟩).run Tryz.prog w=.ok (.agg vs.toArray) w:=
 run_loadVar_mid w b 0 113 vs _ h.row Tryz.underlying113 rfl (by rw [lv_size,hl])
set_option maxHeartbeats 2000000 in
theorem claimLevelOf_no {a:Option Addr} {n cap:Nat} (w:World) (hn:n<1∨40<n) (hb:(n:Int)≤9223372036854775807) :
  Calls Tryz.prog 51 #[.slice a n cap] w fun e w'=>e=.returned (.tuple #[lvv M.z40 0,.bool false])∧Below w.heap.size w w':=by
 have L0:H9 (Lies (w.alloc (.cells Tryz.zeroCells113 113)) w.heap.size (lvs M.z40 0)):=lies_zc w;have ht:(w.alloc (.cells Tryz.zeroCells113 113)).there w.heap.size 0 Tryz.zeroCells113.size:=(by rw [zc_len];exact L0.o.there 0 201 (by rw [lvs_len z40_len];omega));have HB:H9 (Below w.heap.size w (w.alloc (.cells Tryz.zeroCells113 113))):=(Below.refl _ _).alloc (Nat.le_refl _) _
 rcases hn with hn | hn
 all_goals
  go_enter Tryz.func51,Tryz.ntmps51;go_wp2_with (first | (refine wpList_store_mid rfl 113 _ _ rfl _ 0 Tryz.zeroCells113 rfl rfl ht zc_info zc_one ?_))
  have L1:=L0.o.setCells Tryz.zeroCells113.toList 0 (by rw [zc_list];simp [lvs_len z40_len]);rw [spl_all (by rw [zc_list])] at L1;rw [zc_list] at L1 ⊢;have hl:=load_lv L1 (lvs_len z40_len 0);exact bodyPost_ret (results_cell_tmp rfl rfl hl) rfl ⟨rfl,below_setCells _ _ HB.o (Nat.le_refl _)⟩
set_option maxHeartbeats 2000000 in
set_option maxRecDepth 100000 in
theorem claimLevelOf_yes {b off n cap:Nat} {cs:List M.Cl} (w:World) (hs:SeesC w (some ⟨b,off,none⟩) n cap cs) (hn0:1≤n) (hn:n≤40) :
  Calls Tryz.prog 51 #[.slice (some ⟨b,off,none⟩) n cap] w fun e w'=>e=.returned (.tuple #[lvv (cs++M.z40.drop cs.length) n,.bool true])∧Below w.heap.size w w':=by
 have hl:cs.length=n:=hs.len;have hZ:(lvs M.z40 0).length=201:=lvs_len z40_len 0;have L0:H9 (Lies ((w.alloc (.cells Tryz.zeroCells113 113)).alloc (.cells Tryz.zeroCells113 113)) w.heap.size (lvs M.z40 0)):=(lies_zc w).alloc _
 have L1:H9 (Lies ((w.alloc (.cells Tryz.zeroCells113 113)).alloc (.cells Tryz.zeroCells113 113)) (w.heap.size+1) (lvs M.z40 0)):=by
  have:=lies_zc (w.alloc (.cells Tryz.zeroCells113 113))
  rwa [show (w.alloc (.cells Tryz.zeroCells113 113)).heap.size=w.heap.size+1 by simp] at this
 have HB:H9 (Below w.heap.size w ((w.alloc (.cells Tryz.zeroCells113 113)).alloc (.cells Tryz.zeroCells113 113))):=((Below.refl _ _).alloc (Nat.le_refl _) _).alloc (by simp) _
 have Fa:H9 (∀ j v,(prc cs)[j]? = some v→((w.alloc (.cells Tryz.zeroCells113 113)).alloc (.cells Tryz.zeroCells113 113)).cell? ((⟨b,off,none⟩:Addr).add j)=some v):=
  (hs.below ((HB.o))).cells
 have hp:H9 ((prc cs).length=Nat.min n 40*5):=(by show _=_;rw [prc_len,hl,show Nat.min n 40=n from Nat.min_eq_left hn]);have ht:((w.alloc (.cells Tryz.zeroCells113 113)).alloc (.cells Tryz.zeroCells113 113)).there (w.heap.size+1) 0 (prc cs).length:=L1.o.there 0 _ (by rw [prc_len];omega);have L2:=L1.o.setCells (prc cs) 0 (by rw [prc_len];omega);rw [lvs_copy (by omega)] at L2;have Ga:=L0.o.farCells (prc cs) 0 (show w.heap.size≠w.heap.size+1 by omega);have Ha:=below_setCells (prc cs) 0 HB.o (show w.heap.size≤w.heap.size+1 by omega);have hx:(cs++M.z40.drop cs.length).length=40:=len_z40 (by omega);have Aa:H9 (Lies (((w.alloc (.cells Tryz.zeroCells113 113)).alloc (.cells Tryz.zeroCells113 113)).setCells (w.heap.size+1) 0 (prc cs)) (w.heap.size+1) (lvs (cs++M.z40.drop cs.length) 0)):=L2;have Ba:H9 (Lies (((w.alloc (.cells Tryz.zeroCells113 113)).alloc (.cells Tryz.zeroCells113 113)).setCells (w.heap.size+1) 0 (prc cs)) w.heap.size (lvs M.z40 0)):=Ga;have Ca:H9 (Below w.heap.size w (((w.alloc (.cells Tryz.zeroCells113 113)).alloc (.cells Tryz.zeroCells113 113)).setCells (w.heap.size+1) 0 (prc cs))):=Ha;have Ea:=run_copy_many (P:=Tryz.prog) ((w.alloc (.cells Tryz.zeroCells113 113)).alloc (.cells Tryz.zeroCells113 113)) 65 65 3 33 (w.heap.size+1) 0 40 40 ⟨b,off,none⟩ n cap 5 (prc cs) Tryz.underlying65 cl_size hp.o Fa.o ht prc_one;rw [show Nat.min n 40=n from Nat.min_eq_left hn] at Ea;generalize hW:((w.alloc (.cells Tryz.zeroCells113 113)).alloc (.cells Tryz.zeroCells113 113)).setCells (w.heap.size+1) 0 (prc cs)=W at Ea Aa Ba Ca;have m0:W.cell? ⟨w.heap.size+1,200,none⟩=some (it 0):=(Aa.o.at 200).trans (lvs_many hx 0);have m1:=Aa.o.fr 200;have L3:=Aa.o.set 200 (by rw [lvs_len hx];omega) (it (n:Int));rw [lvs_set_many hx] at L3;have Da:=Ba.o.far (show w.heap.size≠w.heap.size+1 by omega) 200 (it (n:Int));have Ia:H9 (Below w.heap.size w (W.setCell ⟨w.heap.size+1,200,none⟩ (it (n:Int)))):=Ca.o.setCell (show w.heap.size≤w.heap.size+1 by omega) _;have hr:=L3.row;have hi:(Tryz.prog.info? 113).map (·.size)=some (lvs (cs++M.z40.drop cs.length) (n:Int)).length:=(by rw [lvs_len hx];exact lv_size);have Ja:(Tryz.prog.info? 113).map (·.size)=some (lvs (cs++M.z40.drop cs.length) (n:Int)).toArray.size:=(by rw [List.size_toArray];exact hi);have Ka:(W.setCell ⟨w.heap.size+1,200,none⟩ (it (n:Int))).there w.heap.size 0 (lvs (cs++M.z40.drop cs.length) (n:Int)).toArray.size:=(by rw [show (lvs (cs++M.z40.drop cs.length) (n:Int)).toArray.size=201 from lvs_len hx _];exact Da.there 0 201 (by rw [hZ];omega));have La:(lvs (cs++M.z40.drop cs.length) (n:Int)).toArray.all (·.oneCell')=true:=all_oneCell_toArray lvs_one
 have L4:H9 (Lies ((W.setCell ⟨w.heap.size+1,200,none⟩ (it (n:Int))).setCells w.heap.size 0 (lvs (cs++M.z40.drop cs.length) (n:Int))) w.heap.size (lvs (cs++M.z40.drop cs.length) (n:Int))):=by
  have:=Da.setCells (lvs (cs++M.z40.drop cs.length) (n:Int)) 0 (by rw [lvs_len hx,hZ];omega)
  rwa [spl_all (by rw [lvs_len hx,hZ])] at this
 have Na:H9 ((lvs (cs++M.z40.drop cs.length) (n:Int)).length=201):=lvs_len hx _;unfold lvv;generalize lvs (cs++M.z40.drop cs.length) (n:Int)=X at *;clear L3 Da hs hZ Aa Ba Ca hW;go_enter Tryz.func51,Tryz.ntmps51;go_wp2_with (first | (refine wpList_load_mid rfl 113 _ rfl (w.heap.size+1) 0 rfl X _ hr Tryz.underlying113 rfl hi ?_) | (refine wpList_store_mid rfl 113 _ _ rfl w.heap.size 0 X.toArray rfl rfl Ka Ja La ?_))
 exact bodyPost_ret (results_cell_tmp rfl rfl (load_lv L4.o Na.o)) rfl ⟨rfl,below_setCells _ _ Ia.o (Nat.le_refl _)⟩
section
open Go.WideShapes
theorem lies_kept {w w':World} {t:TypeId} {vs:Array Value} (hb:Below (w.alloc (.cells vs t)).heap.size (w.alloc (.cells vs t)) w'):Lies w' w.heap.size vs.toList:=(lies_new _ _ _).belowS hb
theorem Lies.five {W:World} {b:Nat} {v0 v1 v2 v3 v4:Value} (h:Lies W b [v0,v1,v2,v3,v4]) :
  W.cell? ⟨b,0,none⟩=some v0∧W.cell? ⟨b,1,none⟩=some v1∧W.cell? ⟨b,2,none⟩=some v2∧W.cell? ⟨b,3,none⟩=some v3∧W.cell? ⟨b,4,none⟩=some v4 ∧
  W.frozen? ⟨b,0,none⟩=false∧W.frozen? ⟨b,1,none⟩=false∧W.frozen? ⟨b,2,none⟩=false∧W.frozen? ⟨b,3,none⟩=false∧W.frozen? ⟨b,4,none⟩=false:=
 ⟨h.at 0,h.at 1,h.at 2,h.at 3,h.at 4,h.fr 0,h.fr 1,h.fr 2,h.fr 3,h.fr 4⟩
theorem leafA5 {B:Nat} {a W:World} {t:TypeId} {vs:Array Value} (hb:Below B a W) (hB:B≤a.heap.size) :
  Below B a (W.alloc (.cells vs t))∧Lies (W.alloc (.cells vs t)) W.heap.size vs.toList∧∀ b us,Lies W b us→Lies (W.alloc (.cells vs t)) b us:=
 ⟨hb.alloc (Nat.le_trans hB hb.size) _,lies_new _ _ _,fun _ _ h=>h.alloc _⟩
theorem leafS5 {B p:Nat} {a W:World} {v0 v1 v2 v3 v4 u0 u1 u2 u3 u4:Value} (hb:Below B a W) (hp:B≤p) (L:Lies W p [u0,u1,u2,u3,u4]) :
  Below B a (((((W.setCell ⟨p,0,none⟩ v0).setCell ⟨p,1,none⟩ v1).setCell ⟨p,2,none⟩ v2).setCell ⟨p,3,none⟩ v3).setCell ⟨p,4,none⟩ v4) ∧
  Lies (((((W.setCell ⟨p,0,none⟩ v0).setCell ⟨p,1,none⟩ v1).setCell ⟨p,2,none⟩ v2).setCell ⟨p,3,none⟩ v3).setCell ⟨p,4,none⟩ v4) p [v0,v1,v2,v3,v4] ∧
  ∀ b us,b≠p→Lies W b us→Lies (((((W.setCell ⟨p,0,none⟩ v0).setCell ⟨p,1,none⟩ v1).setCell ⟨p,2,none⟩ v2).setCell ⟨p,3,none⟩ v3).setCell ⟨p,4,none⟩ v4) b us:=
 ⟨((((hb.setCell hp _).setCell hp _).setCell hp _).setCell hp _).setCell hp _,
  ((((L.set 0 (by simp) _).set 1 (by simp) _).set 2 (by simp) _).set 3 (by simp) _).set 4 (by simp) _,
  fun _ _ h L'=>((((L'.far h _ _).far h _ _).far h _ _).far h _ _).far h _ _⟩
end
end Go.Proofs.YtfhknkppiidnkaaGreat
