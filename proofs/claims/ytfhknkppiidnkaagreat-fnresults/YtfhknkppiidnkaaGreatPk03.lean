import Derived.Laws.CopyOwn
import Derived.Deep.RegionWith
import Derived.Laws.StructEq
import Derived.Maps.Own
import Derived.Test.YtfhknkppiidnkaaGreatPk00
import Derived.Test.YtfhknkppiidnkaaGreatPk02
import Derived.Test.YtfhknkppiidnkaaGreatPk01
namespace Go.Proofs.YtfhknkppiidnkaaGreat
open Go.RowKit
theorem wrap_smallm {x:Int} (h0:0≤x) (h1:x<9223372036854775808):IntKind.i64.wrap x=x:=by
 unfold IntKind.wrap;have e:x % 2 ^ IntKind.i64.bits=x:=Int.emod_eq_of_lt h0 (by show x<18446744073709551616;omega);simp only [e];rw [if_neg];rw [Bool.and_eq_true,decide_eq_true_iff];rintro ⟨_,h⟩;have h':x≥9223372036854775808:=h;omega
theorem info_pair : (Tryz.prog.info? 128).map (fun i=>(i.zero,i.size,i.bytes))=some (some (.agg #[.int .i64 0,.int .i64 0]),2,16):=by kernel_rfl
theorem run_make_pair (k:Nat) (hk:k≤2000000) (w:World):(Instr.makeSlice 123 (.int .i64 0) (.int .i64 (k:Int))).run Tryz.prog w=.ok (.slice (some ⟨w.heap.size,0,none⟩) 0 k) (w.alloc (.cells (madeCells #[.int .i64 0,.int .i64 0] (k*2)) 128)):=by
 obtain ⟨i0,hi,Aa,Ba,Ca⟩:=info_parts info_pair;have h:=run_make (P:=Tryz.prog) w 123 128 i0 (.agg #[it 0,it 0]) Tryz.underlying123 hi Aa .i64 .i64 0 (k:Int) (by omega) (by omega) (by rw [Ca];omega) (by omega);rw [Ba] at h;simpa [Value.cells] using h
theorem cell_twoA (W:World) (g:Nat) (hg:W.heap.size=g) (x y:Value) (t:TypeId):∀ ad,some (⟨g,0,none⟩:Addr)=some ad→∀ j u,[x,y][j]? = some u→(W.alloc (.cells #[x,y] t)).drew.cell? (ad.add j)=some u:=by
 subst hg;intro ad Aa j u hj;simp only [Option.some.injEq] at Aa;subst Aa;exact cell_twoq W x y t j u hj
theorem cell_twoB (W:World) (g:Nat) (hg:W.heap.size=g) (x y:Value) (t t2:TypeId) (A:Array Value):∀ ad,some (⟨g,0,none⟩:Addr)=some ad→∀ j u,[x,y][j]? = some u→((W.alloc (.cells #[x,y] t)).alloc (.cells A t2)).drew.cell? (ad.add j)=some u:=by
 subst hg;intro ad Aa j u hj;simp only [Option.some.injEq] at Aa;subst Aa;have e:((⟨W.heap.size,0,none⟩:Addr).add j)=⟨W.heap.size,j,none⟩:=(by unfold Addr.add;split <;> simp_all);have h:=cell_twoq W x y t j u hj;rw [e] at h ⊢;exact (World.cell?_alloc_lt (w:=W.alloc (.cells #[x,y] t)) (o:=.cells A t2) (a:=⟨W.heap.size,j,none⟩) (h:=by simp)).trans h
theorem frozen_one (w:World) (A:Array Value) (t:TypeId) (i:Nat):(w.alloc (.cells A t)).frozen? ⟨w.heap.size,i,none⟩=false:=by
 rw [frozen?_alloc_cells];simp only [World.frozen?];rw [Array.getElem?_eq_none (by omega)]
theorem method_next (m : M.Mc) (fuel : Nat) (w : World) : (method (fuel + 1) 190 (mcv m) "loop.example/g00319/impl.next").run Tryz.prog w = .ok (174, mcv m) w := by kernel_rfl
set_option maxHeartbeats 2000000 in
theorem runFrom_any (m:M.Mc) (s:Int×Int) (n:Nat) (w:World) (hm:m.ok=true) (hs:M.sOk s=true) (hn:n≤1000) :
  Calls Tryz.prog 93 #[.iface 190 (mcv m),stv s,.int .i64 n] w fun e w'=>∃ a cap,e=.returned (.slice a (n+1) cap)∧OwnsQ 128 w' w.heap.size a (n+1) cap (m.run s n)∧Below w.heap.size w w':=by
 have HM:H9 (m.ok=true):=hm;have HS:H9 (M.sOk s=true):=hs;have La:=run_make_pair (n+1) (by omega);have e1:IntKind.i64.wrap ((n:Int)+1)=((n+1:Nat):Int):=wrap_smallm (by omega) (by omega);rw [← e1] at La;obtain ⟨i0,hi,Na,Oa,Pa⟩:=info_parts info_pair;have HI:H9 (Tryz.prog.info? 128 = some i0∧i0.zero=some (.agg #[it 0,it 0])∧i0.size=2∧i0.bytes=16):=⟨hi,Na,Oa,Pa⟩;have Ab:H9 (m.run s 0=[s]):=rfl;clear hm hs hi Na Oa Pa e1;obtain ⟨x,y⟩:=s;dsimp only [stv]
 have Bb:H9 (World.ownsRow (((w.alloc (.cells #[it x,it y] 128)).alloc (.cells (madeCells #[it 0,it 0] ((n+1)*2)) 128)).alloc (.cells #[it x,it y] 128)).drew (w.heap.size+1) 128 2 (.slice (some ⟨w.heap.size+1,0,none⟩) 0 (n+1)) 0 []):=by
  have h:=World.ownsRow_made (base:=w.heap.size+1) (e:=128) (size:=2) (w.alloc (.cells #[it x,it y] 128)) (madeCells #[it 0,it 0] ((n+1)*2)) (n+1) (by simp) (by unfold maxLen;omega) (by simp [size_madeCells]);have h2:=World.ownsRow.drew (World.ownsRow.alloc h (.cells #[it x,it y] 128));show World.ownsRow _ _ _ _ _ _ _;simpa using h2
 have Cb:H9 (World.ownsRow (((w.alloc (.cells #[it x,it y] 128)).alloc (.cells #[it x,it y] 128)).alloc (.cells (madeCells #[it 0,it 0] ((n+1)*2)) 128)).drew (w.heap.size+1) 128 2 (.slice (some ⟨w.heap.size+1+1,0,none⟩) 0 (n+1)) 0 []):=by
  have h:=World.ownsRow_made (base:=w.heap.size+1) (e:=128) (size:=2) ((w.alloc (.cells #[it x,it y] 128)).alloc (.cells #[it x,it y] 128)) (madeCells #[it 0,it 0] ((n+1)*2)) (n+1) (by simp) (by unfold maxLen;omega) (by simp [size_madeCells]);have h2:=World.ownsRow.drew h;show World.ownsRow _ _ _ _ _ _ _;simpa using h2
 have Db:H9 (∀ ad,some (⟨w.heap.size+1+1,0,none⟩:Addr)=some ad→∀ j u,[Value.int .i64 x,it y][j]? = some u→(((w.alloc (.cells #[it x,it y] 128)).alloc (.cells (madeCells #[it 0,it 0] ((n+1)*2)) 128)).alloc (.cells #[it x,it y] 128)).drew.cell? (ad.add j)=some u):=cell_twoA _ _ (by simp) _ _ _;have Eb:H9 (∀ ad,some (⟨w.heap.size+1,0,none⟩:Addr)=some ad→∀ j u,[Value.int .i64 x,it y][j]? = some u→(((w.alloc (.cells #[it x,it y] 128)).alloc (.cells #[it x,it y] 128)).alloc (.cells (madeCells #[it 0,it 0] ((n+1)*2)) 128)).drew.cell? (ad.add j)=some u):=cell_twoB _ _ (by simp) _ _ _ _ _;go_enter Tryz.func93,Tryz.ntmps93;go_wp2
 go_region_law (first
  | (refine step_append_mix rfl (.tmp 10) (.tmp 12) 123 123 rfl (w.heap.size+1) 128 i0 2 Tryz.underlying123 Tryz.underlying123 HI.o.1 HI.o.2.2.1 (w.heap.size+1) 0 (n+1) [] (by simp [Act.eval]) Bb.o (some ⟨w.heap.size+1+1,0,none⟩) 1 1 [it x,it y] (by simp [Act.eval]) rfl (fun h=>by cases h) Db.o (two_intsq _ _) (by omega) ?_;intro w1 Ea Ca)
  | (refine step_append_mix rfl (.tmp 10) (.tmp 12) 123 123 rfl (w.heap.size+1) 128 i0 2 Tryz.underlying123 Tryz.underlying123 HI.o.1 HI.o.2.2.1 (w.heap.size+1+1) 0 (n+1) [] (by simp [Act.eval]) Cb.o (some ⟨w.heap.size+1,0,none⟩) 1 1 [it x,it y] (by simp [Act.eval]) rfl (fun h=>by cases h) Eb.o (two_intsq _ _) (by omega) ?_;intro w1 Ea Ca))
 all_goals
  have Da:H9 (Below (w.heap.size+1) (w.alloc (.cells #[it x,it y] 128)) w1):=(((Below.refl (w.heap.size+1) (w.alloc (.cells #[it x,it y] 128))).alloc (by simp) _).alloc (by simp) _).drew.grown Ca (by simp) (fun j hj=>by simp at hj;omega);have Fb:H9 (w.heap.size<w1.heap.size):=(by have:=Da.o.size;simp at this;exact this);have HB:H9 (Below w.heap.size w w1):=((Below.refl w.heap.size w).alloc (Nat.le_refl _) _).trans (Da.o.mono (by omega));obtain ⟨aa,ca,Qa,ho⟩:=OwnsQ.form (ps:=m.run (x,y) 0) rfl (by rw [Ab.o];exact Ea);simp only [Value.slice.injEq] at Qa;obtain ⟨rfl,-,rfl⟩:=Qa;have HO:H9 (OwnsQ 128 w1 (w.heap.size+1) _ 1 (n+1) (m.run (x,y) 0)):=ho
  have Ra:H9 (w1.cell? ⟨w.heap.size,0,none⟩=some (it x)∧w1.cell? ⟨w.heap.size,1,none⟩=some (it y)∧w1.frozen? ⟨w.heap.size,0,none⟩=false∧w1.frozen? ⟨w.heap.size,1,none⟩=false):=
   ⟨(Da.o.cell (p:=⟨w.heap.size,0,none⟩) (by simp)).trans (World.cell?_alloc_new _ _ _ _),(Da.o.cell (p:=⟨w.heap.size,1,none⟩) (by simp)).trans (World.cell?_alloc_new _ _ _ _),(frozen_kept Da.o (by simp)).trans (frozen_one _ _ _ _),(frozen_kept Da.o (by simp)).trans (frozen_one _ _ _ _)⟩
  clear Ea Ca ho Da La;go_wp2
  go_loopw [7,15] (fun s i wr=>∃ (k:Nat) (a':Option Addr) (Fa:Nat),k≤n∧i=it k∧s=.slice a' (k+1) Fa∧OwnsQ 128 wr (w.heap.size+1) a' (k+1) Fa (m.run (x,y) k)∧Below w.heap.size w wr∧w.heap.size<wr.heap.size∧(wr.cell? ⟨w.heap.size,0,none⟩=some (it (m.rn (x,y) k).1)∧wr.cell? ⟨w.heap.size,1,none⟩=some (it (m.rn (x,y) k).2)∧wr.frozen? ⟨w.heap.size,0,none⟩=false∧wr.frozen? ⟨w.heap.size,1,none⟩=false)) (fun _ i _=>n-(intOf i).toNat)
  case atStart=>exact ⟨0,_,_,by omega,rfl,rfl,HO.o,HB.o,Fb.o,Ra.o⟩
  case round =>
   obtain ⟨k,a',Fa,hk,rfl,rfl,Sa,Ta,Ua,c0,c1,f0,f1⟩:=hrel;have Ja:H9 (OwnsQ 128 wr (w.heap.size+1) a' (k+1) Fa (m.run (x,y) k)):=Sa;have Ia:H9 (Below w.heap.size w wr):=Ta;have Ga:H9 (w.heap.size<wr.heap.size):=Ua;clear Sa Ta HO HB Ra Ua;by_cases Nb:k<n
   ·
    have hI:(k:Int)<(n:Int):=(by omega);have Va:H9 (M.sOk (m.rn (x,y) k)=true):=M.sOk_rn m HS.o k;have HR:H9 (m.run (x,y) k++[m.nx (m.rn (x,y) k)]=m.run (x,y) (k+1)):=M.run_snoc m (x,y) k;have HN:H9 (m.nx (m.rn (x,y) k)=m.rn (x,y) (k+1)):=rfl;generalize m.rn (x,y) k=q at c0 c1 Va HR HN;obtain ⟨u,v⟩:=q;dsimp only at c0 c1;have Ob:=method_next m;(go_wp2_with fail);refine (stepM_any m (u,v) wr HM.o Va.o).mono ?_;rintro e w2 ⟨rfl,Aa⟩;generalize m.nx (u,v)=q at HR HN;obtain ⟨u2,v2⟩:=q;have c2:w2.cell? ⟨w.heap.size,0,none⟩=some (it u):=(Aa.cell (p:=⟨w.heap.size,0,none⟩) Ga.o).trans c0;have c3:w2.cell? ⟨w.heap.size,1,none⟩=some (it v):=(Aa.cell (p:=⟨w.heap.size,1,none⟩) Ga.o).trans c1;have f2:w2.frozen? ⟨w.heap.size,0,none⟩=false:=(frozen_kept Aa Ga.o).trans f0;have f3:w2.frozen? ⟨w.heap.size,1,none⟩=false:=(frozen_kept Aa Ga.o).trans f1;obtain ⟨w3,Ba⟩:∃ w3,w3=sets w2 w.heap.size 0 [it u2,it v2]:=⟨_,rfl⟩
    have ha:=sets_at w.heap.size [Value.int .i64 u2,it v2] w2 0 (fun j hj=>by
     match j,hj with
     | 0,_=>exact ⟨_,c2⟩
     | 1,_=>exact ⟨_,c3⟩)
    rw [← Ba] at ha;have d0:w3.cell? ⟨w.heap.size,0,none⟩=some (it u2):=(by simpa using ha 0 _ rfl);have d1:w3.cell? ⟨w.heap.size,1,none⟩=some (it v2):=(by simpa using ha 1 _ rfl);have g0:w3.frozen? ⟨w.heap.size,0,none⟩=false:=(by rw [Ba,sets_frozen];exact f2);have g1:w3.frozen? ⟨w.heap.size,1,none⟩=false:=(by rw [Ba,sets_frozen];exact f3);have Wa:H9 (w.heap.size<w3.heap.size):=by show _<_;rw [Ba,sets_size];exact Nat.lt_of_lt_of_le Ga.o Aa.size
    have Xa:H9 (OwnsQ 128 w3 (w.heap.size+1) a' (k+1) Fa (m.run (x,y) k)):=by
     show OwnsQ _ _ _ _ _ _ _;rw [Ba];exact OwnsQ.sets (by omega) _ _ _ (Ja.o.below Aa)
    have Ya:H9 (Below w.heap.size w w3):=by
     show Below _ _ _;rw [Ba];exact sets_below (Nat.le_refl _) _ _ _ (Ia.o.trans (Aa.mono Ia.o.size))
    have Gb:H9 (sets w2 w.heap.size 0 [it u2,it v2]=w3):=Ba.symm;clear ha Ba Aa Ja Ia c0 c1 f0 f1;have Pb:=Wa.o;go_wp2_with (first | (rw [show (w2.setCell ⟨w.heap.size,0,none⟩ (it u2)).setCell ⟨w.heap.size,1,none⟩ (it v2)=w3 from Gb.o]) | (at_builtin;refine wpList_append_own _ rfl _ _ 123 rfl (w.heap.size+1) 128 i0 (.agg #[it 0,it 0]) 2 16 Tryz.underlying123 HI.o.1 HI.o.2.1 HI.o.2.2.1 HI.o.2.2.2 rfl (by decide) _ (k+1) (prs (m.run (x,y) k)) rfl (World.ownsRow.alloc Xa.o.2 _) ⟨w3.heap.size,0,none⟩ 1 1 [it u2,it v2] rfl rfl (cell_twoq w3 _ _ _) (two_intsq _ _) (by unfold maxLen;omega) (by omega) (by simp;omega) ?_))
    intro v' w4 Ea Ca _;have hown':w4.ownsRow (w.heap.size+1) 128 2 v' (k+1+1) (prs (m.run (x,y) (k+1))):=(by rw [← HR.o,← prs_snoc];exact Ea);obtain ⟨b4,c4,rfl,Za⟩:=OwnsQ.form (M.run_len m (x,y) (k+1)) hown';have Hb:H9 (OwnsQ 128 w4 (w.heap.size+1) b4 (k+1+1) c4 (m.run (x,y) (k+1))):=Za;have Ka:=Xa.o.row;have Ib:H9 (Below w.heap.size w w4):=(Ya.o.alloc Ya.o.size _).grown Ca (by simp;omega) (fun q hq=>by have:=Ka q hq;omega);have Ha:H9 (Below (w.heap.size+1) w3 w4):=((Below.refl _ _).alloc (by omega) _).grown Ca (by simp;omega) Ka
    have Jb:H9 (w4.cell? ⟨w.heap.size,0,none⟩=some (it (m.rn (x,y) (k+1)).1)∧w4.cell? ⟨w.heap.size,1,none⟩=some (it (m.rn (x,y) (k+1)).2)∧w4.frozen? ⟨w.heap.size,0,none⟩=false∧w4.frozen? ⟨w.heap.size,1,none⟩=false):=by
     show _∧_;rw [← HN.o];exact ⟨(Ha.o.cell (p:=⟨w.heap.size,0,none⟩) (by simp)).trans d0,(Ha.o.cell (p:=⟨w.heap.size,1,none⟩) (by simp)).trans d1,(frozen_kept Ha.o (by simp)).trans g0,(frozen_kept Ha.o (by simp)).trans g1⟩
    have Kb:H9 (w.heap.size<w4.heap.size):=Nat.lt_of_lt_of_le Wa.o Ha.o.size;clear Ea hown' Ca Za Ka d0 d1 g0 g1;go_wp2;go_roundw
    case rel=>exact ⟨k+1,b4,c4,by omega,by go_num,rfl,Hb.o,Ib.o,Kb.o,Jb.o⟩
    case measure=>simp [intOf];omega
   ·
    have Lb:k=n:=(by omega);subst Lb;go_wp2;go_ret;exact ⟨a',Fa,rfl,Ja.o.mono (by omega),Ia.o⟩
def M.runOk (m:M.Mc) (s:Int×Int) (n:Int):Bool:=m.ok && (M.sOk s && (decide (0≤n) && decide (n≤1000)))
theorem M.runOk_parts {m:M.Mc} {s:Int×Int} {n:Int} (h:M.runOk m s n=true):m.ok=true∧M.sOk s=true∧0≤n∧n≤1000:=by
 unfold M.runOk at h;simpa using h
theorem M.runOk_mk {m:M.Mc} {s:Int×Int} {n:Int} (h1:m.ok=true) (h2:M.sOk s=true) (h3:0≤n) (h4:n≤1000):M.runOk m s n=true:=by
 unfold M.runOk;rw [h1,h2,decide_eq_true h3,decide_eq_true h4];rfl
theorem M.runOk_no {m:M.Mc} {s:Int×Int} {n:Int} (h:M.runOk m s n=false):m.ok=false∨(m.ok=true∧M.sOk s=false)∨(m.ok=true∧M.sOk s=true∧n<0)∨(m.ok=true∧M.sOk s=true∧¬ n<0∧1000<n):=by
 cases h1:m.ok with
 | false=>exact .inl rfl
 | true =>
  cases h2:M.sOk s with
  | false=>exact .inr (.inl ⟨rfl,rfl⟩)
  | true =>
   by_cases h3:n<0
   · exact .inr (.inr (.inl ⟨rfl,rfl,h3⟩))
   ·
    by_cases h4:1000<n
    · exact .inr (.inr (.inr ⟨rfl,rfl,h3,h4⟩))
    · rw [M.runOk_mk h1 h2 (by omega) (by omega)] at h;cases h
set_option maxHeartbeats 4000000 in
theorem checkedRun_any (m:M.Mc) (s:Int×Int) (n:Int) (w:World):Calls Tryz.prog 62 #[mcv m,stv s,.int .i64 n] w fun e w'=>(M.runOk m s n=true→∃ a cap,e=.returned (.tuple #[.slice a (n.toNat+1) cap,.bool true])∧OwnsQ 128 w' w.heap.size a (n.toNat+1) cap (m.run s n.toNat))∧(M.runOk m s n=false→e=.returned (.tuple #[.slice none 0 0,.bool false]))∧Below w.heap.size w w':=by
 have C1:=stepperOf_any m;have C2:=statePair_any s;have HR:H9 (∀ N:Nat,N≤1000→m.ok=true→M.sOk s=true→∀ w,Calls Tryz.prog 93 #[.iface 190 (mcv m),stv s,.int .i64 N] w fun e w'=>∃ a cap,e=.returned (.slice a (N+1) cap)∧OwnsQ 128 w' w.heap.size a (N+1) cap (m.run s N)∧Below w.heap.size w w'):=fun N hN hm hs w=>runFrom_any m s N w hm hs hN
 have HT:H9 (∀ W,Below ((w.alloc (.cells (mcv m).cells 41)).alloc (.cells #[it s.1,it s.2] 31)).heap.size ((w.alloc (.cells (mcv m).cells 41)).alloc (.cells #[it s.1,it s.2] 31)) W→W.cell? ⟨w.heap.size+1,0,none⟩=some (it s.1)∧W.cell? ⟨w.heap.size+1,1,none⟩=some (it s.2)):=fun W hW=>by
  have e:(w.alloc (.cells (mcv m).cells 41)).heap.size=w.heap.size+1:=(by simp);have h:=fun i=>World.cell?_alloc_new (w.alloc (.cells (mcv m).cells 41)) #[it s.1,it s.2] 31 i;rw [e] at h;exact ⟨(hW.cell (p:=⟨w.heap.size+1,0,none⟩) (by simp)).trans (h 0),(hW.cell (p:=⟨w.heap.size+1,1,none⟩) (by simp)).trans (h 1)⟩
 have ec:(mcv m).cells=(v1' m.X.xx m.X.xy m.X.yy m.X.x m.X.y m.X.k m.Y.xx m.Y.xy m.Y.yy m.Y.x m.Y.y m.Y.k).toArray:=rfl;rw [ec] at HT;clear ec
 cases hok:M.runOk m s n with
 | false =>
  have Ga:=M.runOk_no hok;clear hok HR;obtain ⟨⟨a,b,c,d,f,k⟩,⟨a',b',c',d',f',k'⟩⟩:=m;obtain ⟨x,y⟩:=s;dsimp only [mcv,stv] at C1 C2 HT ⊢;generalize M.Mc.ok ⟨⟨a,b,c,d,f,k⟩,⟨a',b',c',d',f',k'⟩⟩=o1 at C1 Ga;generalize M.sOk (x,y)=o2 at C2 Ga
  rcases Ga with rfl | ⟨rfl,rfl⟩ | ⟨rfl,rfl,h3⟩ | ⟨rfl,rfl,h3,h4⟩
  all_goals
   go_enter Tryz.func62,Tryz.ntmps62;(go_wp2_with fail);refine (C1 _).mono ?_;rintro e w1 ⟨m',rfl,Da,Ba⟩;obtain ⟨t0,t1⟩:=HT.o _ Ba;have Ea:H9 (Below w.heap.size w w1):=(((Below.refl _ _).alloc (Nat.le_refl _) _).alloc (by simp) _).trans (Ba.mono (by simp;omega));have Ja:H9 _:=Da;clear Ba Da;(go_wp2_with fail);refine (C2 _).mono ?_;rintro e w2 ⟨⟨p1,p2⟩,rfl,Ha,Aa,Fa⟩;have Ca:=Hd (Ea.o.trans (Fa.mono Ea.o.size));have Ka:H9 _:=Aa;clear Fa Aa Ha;go_wp2
   go_ret2
   exact ⟨fun h=>by simp at h,fun _=>rfl,Ca.o.alloc Ca.o.size _⟩
 | true =>
  obtain ⟨hm,hs,h3,h4⟩:=M.runOk_parts hok;obtain ⟨N,rfl⟩:=Int.eq_ofNat_of_zero_le h3;have hN:N≤1000:=(by omega);have Ia:H9 (∀ w,Calls Tryz.prog 93 #[.iface 190 (mcv m),stv s,.int .i64 N] w fun e w'=>∃ a cap,e=.returned (.slice a (N+1) cap)∧OwnsQ 128 w' w.heap.size a (N+1) cap (m.run s N)∧Below w.heap.size w w'):=HR.o N hN hm hs;rw [hm] at C1;rw [hs] at C2;clear hok HR hm hs h3 h4;generalize La:m.run s N=rn at Ia;have Pa:H9 (m.run s (Int.toNat N)=rn):=La;have HL:H9 (Int.toNat (N:Int)=N):=Int.toNat_natCast N;clear La;obtain ⟨⟨a,b,c,d,f,k⟩,⟨a',b',c',d',f',k'⟩⟩:=m;obtain ⟨x,y⟩:=s;dsimp only [mcv,stv] at C1 C2 HT Ia ⊢;go_enter Tryz.func62,Tryz.ntmps62;(go_wp2_with fail);refine (C1 _).mono ?_;rintro e w1 ⟨m',rfl,Da,Ba⟩;obtain ⟨t0,t1⟩:=HT.o _ Ba;have Ea:H9 (Below w.heap.size w w1):=(((Below.refl _ _).alloc (Nat.le_refl _) _).alloc (by simp) _).trans (Ba.mono (by simp;omega));have Ja:H9 _:=Da;clear Ba Da;(go_wp2_with fail);refine (C2 _).mono ?_;rintro e w2 ⟨⟨p1,p2⟩,rfl,Ha,Aa,Fa⟩;have Ca:=Hd (Ea.o.trans (Fa.mono Ea.o.size));have Ka:H9 _:=Aa;clear Fa Aa Ha;obtain rfl:=Ja.o trivial;have Aa:=Ka.o trivial;simp only [Prod.mk.injEq] at Aa;obtain ⟨rfl,rfl⟩:=Aa;have Sa:¬ (N:Int)<0:=(by omega);have Ta:¬ 1000<(N:Int):=(by omega);(go_wp2_with fail);refine (Ia.o _).mono ?_;rintro e w3 ⟨ra,rc,rfl,Na,Oa⟩;have Qa:H9 (Below w.heap.size w w3):=(Ca.o.alloc Ca.o.size _).trans (Oa.mono (by have:=Ca.o.size;simp;omega));have Ra:H9 (OwnsQ 128 w3 w.heap.size ra (N+1) rc rn):=Na.mono (by have:=Ca.o.size;simp;omega);clear Na Oa;go_wp2
  go_ret2
  refine ⟨fun _=>⟨ra,rc,rfl,?_⟩,fun h=>by simp at h,Qa.o⟩;rw [Pa.o,HL.o];exact Ra.o
theorem info_state : (Tryz.prog.info? 31).map (fun i=>(i.zero,i.size,i.bytes))=some (some (.agg #[.int .i64 0,.int .i64 0]),2,16):=by kernel_rfl
set_option maxHeartbeats 2000000 in
theorem states1_any {a:Option Addr} {n cap base:Nat} {ps:List (Int×Int)} (s:Int×Int) (w:World) (ho:OwnsQ 31 w base a n cap ps) (hb:base≤w.heap.size) (hn:n≤2000) :
  Calls Tryz.prog 123 #[.slice a n cap,stv s] w fun e w'=>∃ a' cap',e=.returned (.slice a' (n+1) cap')∧OwnsQ 31 w' base a' (n+1) cap' (ps++[s])∧Below base w w':=by
 have HO:H9 (OwnsQ 31 w base a n cap ps):=ho;obtain ⟨i0,hi,Ba,Ca,Da⟩:=info_parts info_state;have HI:H9 (Tryz.prog.info? 31 = some i0∧i0.zero=some (.agg #[it 0,it 0])∧i0.size=2∧i0.bytes=16):=⟨hi,Ba,Ca,Da⟩;have HL:H9 ((ps++[s]).length=n+1):=(by show _=_;rw [List.length_append,ho.1];rfl);clear ho hi Ba Ca Da;have C1:=state_any s;obtain ⟨x,y⟩:=s;dsimp only [stv] at C1 ⊢;go_enter Tryz.func123,Tryz.ntmps123;(go_wp2_with fail);refine (C1 _).mono ?_;rintro e w1 ⟨rfl,Aa⟩;have Ea:H9 (Below base w w1):=((Below.refl _ _).alloc hb _).trans (Aa.mono (by simp;omega));have Fa:H9 (OwnsQ 31 w1 base a n cap ps):=(HO.o.below ((Below.refl _ _).alloc (Nat.le_refl _) _)).below Aa;have Ja:base≤w1.heap.size:=Nat.le_trans hb Ea.o.size;clear Aa HO;(go_wp2_with (at_builtin;refine wpList_append_own _ rfl _ _ 108 rfl base 31 i0 (.agg #[it 0,it 0]) 2 16 Tryz.underlying108 HI.o.1 HI.o.2.1 HI.o.2.2.1 HI.o.2.2.2 rfl (by decide) _ n (prs ps) rfl (World.ownsRow.alloc Fa.o.2 _) ⟨w1.heap.size,0,none⟩ 1 1 [it x,it y] rfl rfl (cell_twoq w1 _ _ _) (two_intsq _ _) (by unfold maxLen;omega) (by omega) (by simp;omega) ?_));intro v' w4 Ga Ha _;have hown':w4.ownsRow base 31 2 v' (n+1) (prs (ps++[(x,y)])):=(by rw [← prs_snoc];exact Ga);obtain ⟨b4,c4,rfl,Ia⟩:=OwnsQ.form HL.o hown';have Ka:H9 (OwnsQ 31 w4 base b4 (n+1) c4 (ps++[(x,y)])):=Ia;have La:H9 (Below base w w4):=(Ea.o.alloc Ja _).grown Ha (by simp;omega) Fa.o.row;clear Ga hown' Ha Ia;go_wp2;go_ret;exact ⟨b4,c4,rfl,Ka.o,La.o⟩
theorem take_snocq (ps:List (Int×Int)) {k:Nat} (h:k<ps.length):ps.take k++[ps.getD k (0,0)]=ps.take (k+1):=by
 rw [List.getD_eq_getElem?_getD,List.getElem?_eq_getElem h,List.take_succ_eq_append_getElem h];rfl
set_option maxHeartbeats 2000000 in
theorem foldStates_any {a b:Option Addr} {n c cap:Nat} {ps:List (Int×Int)} (w0 w:World) (hz:SeesQ w0 a n c ps) (hbl:Below w0.heap.size w0 w) (ho:OwnsQ 31 w w0.heap.size b 0 cap []) (hn:n≤1001) :
  Calls Tryz.prog 122 #[.slice a n c,.slice b 0 cap,.func (.func 123) #[] #[]] w fun e w'=>∃ a' cap',e=.returned (.slice a' n cap')∧OwnsQ 31 w' w0.heap.size a' n cap' ps∧Below w0.heap.size w0 w':=by
 have HZ:H9 (SeesQ w0 a n c ps):=hz;have Ba:H9 (Below w0.heap.size w0 w):=hbl;have HO:H9 (OwnsQ 31 w w0.heap.size b 0 cap (ps.take 0)):=ho;clear hz hbl ho;go_enter Tryz.func122,Tryz.ntmps122;go_wp2
 go_loopw [1,11] (fun s i wr=>∃ (k:Nat) (a':Option Addr) (cap':Nat),k≤n∧i=it k∧s=.slice a' k cap'∧OwnsQ 31 wr w0.heap.size a' k cap' (ps.take k)∧Below w0.heap.size w0 wr) (fun _ i _=>n-(intOf i).toNat)
 case atStart=>exact ⟨0,_,_,by omega,rfl,rfl,HO.o,Ba.o⟩
 case round =>
  obtain ⟨k,a',cap',hk,rfl,rfl,Ca,Da⟩:=hrel;have Ea:H9 (OwnsQ 31 wr w0.heap.size a' k cap' (ps.take k)):=Ca;have Aa:H9 (Below w0.heap.size w0 wr):=Da;clear Ca Da HO Ba;by_cases Fa:k<n
  ·
   obtain ⟨b1,o1,rfl,Ga⟩:=(HZ.o.below Aa.o).at (by omega);obtain ⟨e1,e2⟩:=Ga k Fa;have hI:(k:Int)<(n:Int):=(by omega);have HS:H9 (ps.take k++[ps.getD k (0,0)]=ps.take (k+1)):=take_snocq ps (by rw [HZ.o.len];exact Fa);clear Ga;generalize ps.getD k (0,0)=q at e1 e2 HS;have C1:=states1_any (a:=a') (n:=k) (cap:=cap') (base:=w0.heap.size) (ps:=ps.take k) q;obtain ⟨x,y⟩:=q;dsimp only [stv] at C1 e1 e2;have Ja:H9 _:=C1;clear C1;(go_wp2_with fail);refine (Ja.o _ (Ea.o.below ((Below.refl _ _).alloc (Nat.le_refl _) _)) (by have:=Aa.o.size;simp;omega) (by omega)).mono ?_;rintro e w4 ⟨b4,c4,rfl,Ha,Ia⟩
   have Ka:H9 (OwnsQ 31 w4 w0.heap.size b4 (k+1) c4 (ps.take (k+1))):=by
    show OwnsQ _ _ _ _ _ _ _;rw [← HS.o];exact Ha
   have La:H9 (Below w0.heap.size w0 w4):=(Aa.o.alloc Aa.o.size _).trans Ia;clear Ha Ia;go_wp2;go_roundw
   case rel=>exact ⟨k+1,b4,c4,by omega,by go_num,rfl,Ka.o,La.o⟩
   case measure=>simp [intOf];omega
  ·
   have Na:k=n:=(by omega);subst Na;go_wp2;go_ret;refine ⟨a',cap',rfl,?_,Aa.o⟩;have:=Ea.o;rw [List.take_of_length_le (by rw [HZ.o.len];exact Nat.le_refl _)] at this;exact this
set_option maxHeartbeats 1000000 in
theorem statesOf_any {a:Option Addr} {n c:Nat} {ps:List (Int×Int)} (w:World) (hz:SeesQ w a n c ps) (hn:n≤1001) :
  Calls Tryz.prog 86 #[.slice a n c] w fun e w'=>∃ a' cap',e=.returned (.slice a' n cap')∧OwnsQ 31 w' w.heap.size a' n cap' ps∧Below w.heap.size w w':=by
 have HZ:H9 (SeesQ w a n c ps):=hz;obtain ⟨i0,hi,Aa,Ba,Ca⟩:=info_parts info_state;clear hz;go_enter Tryz.func86,Tryz.ntmps86;(go_wp2_with (at_make;refine wpList_make_own _ rfl _ _ 108 rfl w.heap.size 31 i0 (.agg #[it 0,it 0]) 2 Tryz.underlying108 hi Aa Ba .i64 .i64 _ n rfl rfl rfl (by rw [Ca];omega) (by unfold maxLen;omega) (Nat.le_refl _) ?_));intro w1 Da hg;have HO:H9 (OwnsQ 31 w1 w.heap.size (some ⟨w.heap.size,0,none⟩) 0 n []):=⟨rfl,Da⟩;have HB:H9 (Below w.heap.size w w1):=below_grown hg;clear Da hg hi Aa Ba Ca;(go_wp2_with fail);refine (foldStates_any w w1 HZ.o HB.o HO.o hn).mono ?_;rintro e w2 ⟨a2,c2,rfl,Ea,Fa⟩;have Ga:H9 (OwnsQ 31 w2 w.heap.size a2 n c2 ps):=Ea;have Ha:H9 (Below w.heap.size w w2):=Fa;clear Ea Fa;go_wp2;go_ret;exact ⟨a2,c2,rfl,Ga.o,Ha.o⟩
def M.aft (m:M.Mc) (s:Int×Int) (n:Int):Int×Int:=if M.runOk m s n=true then m.rn s n.toNat else (0,0)
theorem M.aft_in {m:M.Mc} {s:Int×Int} {n:Int} (h:M.runOk m s n=true):M.aft m s n=m.rn s n.toNat:=if_pos h
theorem M.aft_out {m:M.Mc} {s:Int×Int} {n:Int} (h:M.runOk m s n=false):M.aft m s n=(0,0):=if_neg (by rw [h];decide)
def M.runv (m:M.Mc) (s:Int×Int) (n:Int):List (Int×Int):=if M.runOk m s n=true then m.run s n.toNat else []
theorem M.runv_in {m:M.Mc} {s:Int×Int} {n:Int} (h:M.runOk m s n=true):M.runv m s n=m.run s n.toNat:=if_pos h
theorem M.runv_out {m:M.Mc} {s:Int×Int} {n:Int} (h:M.runOk m s n=false):M.runv m s n=[]:=if_neg (by rw [h];decide)
theorem ownsQ_none (t:TypeId) (w:World) (base:Nat):OwnsQ t w base none 0 0 []:=⟨rfl,rfl,.inl ⟨rfl,rfl⟩⟩
theorem len0 {m:M.Mc} {s:Int×Int} {n:Int} (h:M.runOk m s n=true):(M.runv m s n).length=n.toNat+1:=by rw [M.runv_in h,M.run_len]
set_option maxHeartbeats 2000000 in
theorem implRunOf_any (m:M.Mc) (s:Int×Int) (n:Int) (w:World):Calls Tryz.prog 50 #[mcv m,stv s,.int .i64 n] w fun e w'=>∃ a l cap,e=.returned (.tuple #[.slice a l cap,.bool (M.runOk m s n)])∧l≤1001∧OwnsQ 31 w' w.heap.size a l cap (M.runv m s n)∧Below w.heap.size w w':=by
 have C1:=checkedRun_any m s n
 cases hok:M.runOk m s n with
 | false =>
  have HV:H9 (M.runv m s n=[]):=M.runv_out hok;rw [hok] at C1;obtain ⟨⟨a,b,c,d,f,k⟩,⟨a',b',c',d',f',k'⟩⟩:=m;obtain ⟨x,y⟩:=s;dsimp only [mcv,stv] at C1 ⊢;clear hok;go_enter Tryz.func50,Tryz.ntmps50;(go_wp2_with fail);refine (C1 _).mono ?_;rintro e w1 ⟨-,he,Aa⟩;obtain rfl:=he trivial;have Ba:H9 (Below w.heap.size w w1):=(((Below.refl _ _).alloc (Nat.le_refl _) _).alloc (by simp) _).trans (Aa.mono (by simp;omega));clear Aa he;go_wp2
  go_ret2
  exact ⟨none,0,0,rfl,by omega,by rw [HV.o];exact ownsQ_none _ _ _,Ba.o⟩
 | true =>
  obtain ⟨hm,hs,h3,h4⟩:=M.runOk_parts hok;have HV:H9 (M.runv m s n=m.run s n.toNat):=M.runv_in hok;rw [hok] at C1;have hN:n.toNat+1≤1001:=(by omega);generalize Fa:m.run s n.toNat=rn at C1 HV;have Ga:0<n.toNat+1:=(by omega);generalize n.toNat+1=N at C1 hN Ga;obtain ⟨⟨a,b,c,d,f,k⟩,⟨a',b',c',d',f',k'⟩⟩:=m;obtain ⟨x,y⟩:=s;dsimp only [mcv,stv] at C1 ⊢;clear hok hm hs h3 h4 Fa;go_enter Tryz.func50,Tryz.ntmps50;(go_wp2_with fail);refine (C1 _).mono ?_;rintro e w1 ⟨he,-,Aa⟩;obtain ⟨ra,rc,rfl,Ca⟩:=he trivial;have Ba:H9 (Below w.heap.size w w1):=(((Below.refl _ _).alloc (Nat.le_refl _) _).alloc (by simp) _).trans (Aa.mono (by simp;omega));have Ha:H9 (SeesQ w1 ra N rc rn):=Ca.sees (by omega);clear Aa he Ca;(go_wp2_with fail);refine (statesOf_any _ Ha.o hN).mono ?_;rintro e w2 ⟨a2,c2,rfl,Da,Ea⟩;have Ia:H9 (OwnsQ 31 w2 w.heap.size a2 N c2 rn):=Da.mono Ba.o.size;have Ja:=Hd (Ba.o.trans (Ea.mono Ba.o.size));clear Da Ea;go_wp2
  go_ret2
  exact ⟨a2,N,c2,rfl,hN,by rw [HV.o];exact Ia.o,Ja.o⟩
set_option maxHeartbeats 2000000 in
theorem implAfter_any (m:M.Mc) (s:Int×Int) (n:Int) (w:World):Calls Tryz.prog 31 #[mcv m,stv s,.int .i64 n] w fun e w'=>e=.returned (.tuple #[stv (M.aft m s n),.bool (M.runOk m s n)])∧Below w.heap.size w w':=by
 have C1:=checkedRun_any m s n
 have HT:H9 (∀ W,Below (((w.alloc (.cells (v1' m.X.xx m.X.xy m.X.yy m.X.x m.X.y m.X.k m.Y.xx m.Y.xy m.Y.yy m.Y.x m.Y.y m.Y.k).toArray 41)).alloc (.cells #[it s.1,it s.2] 31)).alloc (.cells #[it 0,it 0] 31)).heap.size (((w.alloc (.cells (v1' m.X.xx m.X.xy m.X.yy m.X.x m.X.y m.X.k m.Y.xx m.Y.xy m.Y.yy m.Y.x m.Y.y m.Y.k).toArray 41)).alloc (.cells #[it s.1,it s.2] 31)).alloc (.cells #[it 0,it 0] 31)) W→W.cell? ⟨w.heap.size+1+1,0,none⟩=some (it 0)∧W.cell? ⟨w.heap.size+1+1,1,none⟩=some (it 0)∧W.frozen? ⟨w.heap.size+1+1,0,none⟩=false∧W.frozen? ⟨w.heap.size+1+1,1,none⟩=false):=fun W hW =>
  ⟨(hW.cell (p:=⟨w.heap.size+1+1,0,none⟩) (by simp)).trans (chain3m w _ _ _ _ _ _ 0).2.2.1,(hW.cell (p:=⟨w.heap.size+1+1,1,none⟩) (by simp)).trans (chain3m w _ _ _ _ _ _ 1).2.2.1,(frozen_kept hW (show w.heap.size+1+1<_ by simp)).trans (chain3m w _ _ _ _ _ _ 0).2.2.2,(frozen_kept hW (show w.heap.size+1+1<_ by simp)).trans (chain3m w _ _ _ _ _ _ 1).2.2.2⟩
 cases hok:M.runOk m s n with
 | false =>
  rw [M.aft_out hok];rw [hok] at C1;obtain ⟨⟨a,b,c,d,f,k⟩,⟨a',b',c',d',f',k'⟩⟩:=m;obtain ⟨x,y⟩:=s;dsimp only [mcv,stv] at C1 HT ⊢;clear hok;go_enter Tryz.func31,Tryz.ntmps31;(go_wp2_with fail);refine (C1 _).mono ?_;rintro e w1 ⟨-,he,Aa⟩;obtain rfl:=he trivial;have Ba:H9 (Below w.heap.size w w1):=((((Below.refl _ _).alloc (Nat.le_refl _) _).alloc (by simp) _).alloc (by simp;omega) _).trans (Aa.mono (by simp;omega));obtain ⟨t0,t1,t2,t3⟩:=HT.o _ Aa;clear Aa he;go_wp2;refine bodyPost_ret (v:=.tuple #[.agg #[it 0,it 0],.bool false]) (by simp [results,Tryz.results31,go_sem,t0,t1]) rfl ⟨rfl,?_⟩;exact (Ba.o.setCell (by show w.heap.size≤w.heap.size+1+1;omega) _).setCell (by show w.heap.size≤w.heap.size+1+1;omega) _
 | true =>
  obtain ⟨hm,hs,h3,h4⟩:=M.runOk_parts hok;rw [M.aft_in hok];rw [hok] at C1;have HG:H9 ((m.run s n.toNat).getD n.toNat (0,0)=m.rn s n.toNat):=M.run_get m s _ _ (Nat.le_refl _);have hN:n.toNat≤1000:=(by omega);have CS:=state_any (m.rn s n.toNat);generalize m.run s n.toNat=rn at C1 HG;generalize m.rn s n.toNat=q at HG CS ⊢;generalize n.toNat=N at C1 HG hN;obtain ⟨⟨a,b,c,d,f,k⟩,⟨a',b',c',d',f',k'⟩⟩:=m;obtain ⟨x,y⟩:=s;obtain ⟨u,v⟩:=q;dsimp only [mcv,stv] at C1 HT CS ⊢;clear hok hm hs h3 h4;go_enter Tryz.func31,Tryz.ntmps31;(go_wp2_with fail);refine (C1 _).mono ?_;rintro e w1 ⟨he,-,Aa⟩;obtain ⟨ra,rc,rfl,Da⟩:=he trivial;have Ba:H9 (Below w.heap.size w w1):=((((Below.refl _ _).alloc (Nat.le_refl _) _).alloc (by simp) _).alloc (by simp;omega) _).trans (Aa.mono (by simp;omega));have HB1':H9 (Below _ _ w1):=Aa;obtain ⟨g,rfl,-,Fa,Ga,hc⟩:=Da.block (by omega);obtain ⟨e1,e2⟩:=hc N (by omega);rw [HG.o] at e1 e2;have Ha:((N+1:Nat):Int)≤rc:=(by omega);clear Aa he Da hc;dsimp only at e1 e2;(go_wp2_with fail);refine (CS _).mono ?_;rintro e w2 ⟨rfl,Ca⟩;have Ea:=Hd (Ba.o.trans (Ca.mono Ba.o.size));obtain ⟨t0,t1,t2,t3⟩:=HT.o _ (HB1'.o.trans (Ca.mono HB1'.o.size));clear Ca HB1';go_wp2;refine bodyPost_ret (v:=.tuple #[.agg #[it u,it v],.bool true]) (by simp [results,Tryz.results31,go_sem,t0,t1]) rfl ⟨rfl,?_⟩;exact (Ea.o.setCell (by show w.heap.size≤w.heap.size+1+1;omega) _).setCell (by show w.heap.size≤w.heap.size+1+1;omega) _
theorem implMachineOk_any (m:M.Mc) (w:World):Calls Tryz.prog 144 #[mcv m] w fun e w'=>e=.returned (.bool m.ok)∧Below w.heap.size w w':=by
 have C1:=stepperOf_any m;generalize m.ok=o at C1 ⊢;obtain ⟨⟨a,b,c,d,f,k⟩,⟨a',b',c',d',f',k'⟩⟩:=m;dsimp only [mcv] at C1 ⊢;go_enter Tryz.func144,Tryz.ntmps144;(go_wp2_with fail);refine (C1 _).mono ?_;rintro e w1 ⟨m',rfl,-,Aa⟩;have Ba:H9 (Below w.heap.size w w1):=((Below.refl _ _).alloc (Nat.le_refl _) _).trans (Aa.mono (by simp));clear Aa;go_wp2;go_ret;exact ⟨rfl,Ba.o⟩
theorem implStateOk_any (s:Int×Int) (w:World):Calls Tryz.prog 64 #[stv s] w fun e w'=>e=.returned (.bool (M.sOk s))∧Below w.heap.size w w':=by
 have C1:=statePair_any s;generalize M.sOk s=o at C1 ⊢;obtain ⟨x,y⟩:=s;dsimp only [stv] at C1 ⊢;go_enter Tryz.func64,Tryz.ntmps64;(go_wp2_with fail);refine (C1 _).mono ?_;rintro e w1 ⟨⟨p,q⟩,rfl,-,-,Ba⟩;have Aa:H9 (Below w.heap.size w w1):=((Below.refl _ _).alloc (Nat.le_refl _) _).trans (Ba.mono (by simp));clear Ba;go_wp2;go_ret;exact ⟨rfl,by first | exact Aa.o | exact Aa.o.alloc Aa.o.size _⟩
def M.tab (N:Nat) (f:Nat→Int):List Int:=(List.range N).map f
theorem M.tab_len (N:Nat) (f:Nat→Int):(M.tab N f).length=N:=by simp [M.tab]
theorem M.tab_get (N:Nat) (f:Nat→Int) (i:Nat) (h:i<N):(M.tab N f).getD i 0=f i:=by
 rw [List.getD_eq_getElem?_getD,List.getElem?_eq_getElem (by rw [M.tab_len];exact h)];simp [M.tab]
theorem M.tab_ext {N:Nat} {zs:List Int} {f:Nat→Int} (hl:zs.length=N) (h:∀ i,i<N→zs.getD i 0=f i):zs=M.tab N f:=by
 apply List.ext_getElem (by rw [hl,M.tab_len]);intro i h1 h2;have:=h i (by omega);rw [List.getD_eq_getElem?_getD,List.getElem?_eq_getElem h1] at this;simpa [M.tab] using this
theorem M.tab_congr {N:Nat} {f g:Nat→Int} (h:∀ i,i<N→f i=g i):M.tab N f=M.tab N g:=
 M.tab_ext (M.tab_len _ _) fun i hi=>by rw [M.tab_get _ _ _ hi];exact h i hi
theorem M.tab_set (N:Nat) (f:Nat→Int) (k:Nat) (v:Int):(M.tab N f).set k v=M.tab N (fun i=>if i=k then v else f i):=by
 apply List.ext_getElem (by simp [M.tab]);intro i h1 h2;simp only [M.tab,List.getElem_set,List.getElem_map,List.getElem_range];by_cases e:k=i
 · subst e;simp
 · rw [if_neg e,if_neg (fun h=>e h.symm)]
theorem M.tab_snoc (k:Nat) (f:Nat→Int):M.tab k f++[f k]=M.tab (k+1) f:=by
 simp [M.tab,List.range_succ]
def M.sumAt (zs ys:List Int) (i:Nat):Int:=(zs.getD i 0+ys.getD i 0) % 65537
def M.padd (zs ys:List Int):List Int:=M.tab (max zs.length ys.length) (M.sumAt zs ys)
theorem M.getD_out {zs:List Int} {i:Nat} (h:zs.length≤i):zs.getD i 0=0:=by
 rw [List.getD_eq_getElem?_getD,List.getElem?_eq_none h];rfl
theorem M.all_tab {N:Nat} {f:Nat→Int} (h:∀ i,i<N→M.el (f i)=true):M.allEl (M.tab N f)=true:=by
 unfold M.allEl M.tab;rw [List.all_eq_true];intro x hx;obtain ⟨i,hi,rfl⟩:=List.mem_map.1 hx;exact h i (List.mem_range.1 hi)
theorem M.all_padd (zs ys:List Int):M.allEl (M.padd zs ys)=true:=
 M.all_tab fun i _=>(M.el_iff _).2 ⟨by unfold M.sumAt;omega,by unfold M.sumAt;omega⟩
set_option maxHeartbeats 2000000 in
theorem l2Add_any {a b:Option Addr} {n m c d:Nat} {zs ys:List Int} (w:World) (hz:Sees w a n c zs) (hy:Sees w b m d ys) (ha:M.allEl zs=true) (hb:M.allEl ys=true) (hn:n≤100000) (hm:m≤100000) :
  Calls Tryz.prog 111 #[.slice a n c,.slice b m d] w fun e w'=>∃ a' l c',e=.returned (.slice a' l c')∧Owns 2 w' w.heap.size a' l c' (M.trim (M.padd zs ys))∧Below w.heap.size w w':=by
 have HZ:=Hd (hz);have HY:=Hd (hy);have HA:=Hd (ha);have HB:=Hd (hb);obtain ⟨i0,hi,Ta,Ua,Va⟩:=info_parts info_i64;have HI:H9 (Tryz.prog.info? 2 = some i0∧i0.zero=some (Value.int .i64 0)∧i0.size=1∧i0.bytes=8):=⟨hi,Ta,Ua,Va⟩;clear hz hy ha hb hi Ta Ua Va;go_enter Tryz.func111,Tryz.ntmps111;go_wp2
 go_loopw [5,6] (fun s i wr=>∃ (k:Nat) (a':Option Addr) (Na:Nat),k≤max n m∧i=it k∧s=.slice a' k Na∧Owns 2 wr w.heap.size a' k Na (M.tab k (M.sumAt zs ys))∧Below w.heap.size w wr) (fun _ i _=>max n m-(intOf i).toNat)
 case atStart=>exact ⟨0,_,_,by omega,rfl,rfl,World.ownsRow_made w #[] 0 (Nat.le_refl _) (by unfold maxLen;omega) rfl,(Below.refl _ _).alloc (Nat.le_refl _) _⟩
 case round =>
  obtain ⟨k,a',Na,hk,rfl,rfl,Wa,Oa⟩:=hrel;have Ea:H9 (Owns 2 wr w.heap.size a' k Na (M.tab k (M.sumAt zs ys))):=Wa;have Fa:=Hd (Oa);have Ja:=Oa.size;clear Wa Oa;have Pa:=M.el_at HA.o k;have Ia:=M.el_at HB.o k;have Qa:H9 (M.sumAt zs ys k=(zs.getD k 0+ys.getD k 0) % 65537):=rfl;by_cases Ab:k<n
  ·
   obtain ⟨b1,o1,rfl,Xa⟩:=(HZ.o.below Fa.o).at (by omega);have c1:=Xa k Ab;clear Xa;generalize hx:zs.getD k 0=x at c1 Pa;have HX:=Hd (hx);obtain ⟨x0,x1⟩:=Pa;have hI:(k:Int)<(n:Int):=(by omega);clear hx;by_cases Ra:k<m
   ·
    obtain ⟨b2,o2,rfl,Ka⟩:=(HY.o.below Fa.o).at (by omega);have c2:=Ka k Ra;clear Ka;generalize La:ys.getD k 0=y at c2 Ia;have Sa:=Hd (La);obtain ⟨y0,y1⟩:=Ia;have hJ:(k:Int)<(m:Int):=(by omega);have HV:H9 (M.sumAt zs ys k=(x+y) % 65537):=(by show M.sumAt zs ys k=_;rw [Qa.o,HX.o,Sa.o]);clear La;(go_wp2_with (at_builtin;refine wpList_append_own _ rfl _ _ 24 rfl w.heap.size 2 i0 (it 0) 1 8 Tryz.underlying24 HI.o.1 HI.o.2.1 HI.o.2.2.1 HI.o.2.2.2 rfl (by decide) _ k ((M.tab k (M.sumAt zs ys)).map (Value.int .i64)) rfl (World.ownsRow.alloc Ea.o _) ⟨wr.heap.size,0,none⟩ 1 1 [it ((x+y) % 65537)] rfl rfl (cell_one wr _ _) (one_int _) (by unfold maxLen;omega) (by omega) (by simp;omega) ?_));intro v' w1 Ba Ca _;have hown':w1.ownsRow w.heap.size 2 1 v' (k+1) ((M.tab (k+1) (M.sumAt zs ys)).map (Value.int .i64)):=(by rw [← M.tab_snoc,HV.o,List.map_append];exact Ba);obtain ⟨a2,Da,rfl,Aa⟩:=Owns.form hown';have Ga:H9 (Owns 2 w1 w.heap.size a2 (k+1) Da (M.tab (k+1) (M.sumAt zs ys))):=Aa;have Ha:H9 (Below w.heap.size w w1):=Fa.o.grown ((World.grownBy_alloc wr _ _).trans Ca) Ja Ea.o.row;clear Ba hown' Ca Aa;go_wp2;go_roundw
    case rel=>exact ⟨k+1,a2,Da,by omega,by go_num,rfl,Ga.o,Ha.o⟩
    case measure=>simp [intOf];omega
   ·
    have hJ:¬ (k:Int)<(m:Int):=(by omega);have HV:H9 (M.sumAt zs ys k=x % 65537):=(by show M.sumAt zs ys k=_;rw [Qa.o,HX.o,M.getD_out (by rw [HY.o.len];omega),Int.add_zero]);clear Ia;(go_wp2_with (at_builtin;refine wpList_append_own _ rfl _ _ 24 rfl w.heap.size 2 i0 (it 0) 1 8 Tryz.underlying24 HI.o.1 HI.o.2.1 HI.o.2.2.1 HI.o.2.2.2 rfl (by decide) _ k ((M.tab k (M.sumAt zs ys)).map (Value.int .i64)) rfl (World.ownsRow.alloc Ea.o _) ⟨wr.heap.size,0,none⟩ 1 1 [it (x % 65537)] rfl rfl (cell_one wr _ _) (one_int _) (by unfold maxLen;omega) (by omega) (by simp;omega) ?_));intro v' w1 Ba Ca _;have hown':w1.ownsRow w.heap.size 2 1 v' (k+1) ((M.tab (k+1) (M.sumAt zs ys)).map (Value.int .i64)):=(by rw [← M.tab_snoc,HV.o,List.map_append];exact Ba);obtain ⟨a2,Da,rfl,Aa⟩:=Owns.form hown';have Ga:H9 (Owns 2 w1 w.heap.size a2 (k+1) Da (M.tab (k+1) (M.sumAt zs ys))):=Aa;have Ha:H9 (Below w.heap.size w w1):=Fa.o.grown ((World.grownBy_alloc wr _ _).trans Ca) Ja Ea.o.row;clear Ba hown' Ca Aa;go_wp2;go_roundw
    case rel=>exact ⟨k+1,a2,Da,by omega,by go_num,rfl,Ga.o,Ha.o⟩
    case measure=>simp [intOf];omega
  ·
   have hI:¬ (k:Int)<(n:Int):=(by omega);have Cb:decide ((k:Int)<(n:Int))=false:=(by simpa using hI);clear Pa;by_cases Ra:k<m
   ·
    obtain ⟨b2,o2,rfl,Ka⟩:=(HY.o.below Fa.o).at (by omega);have c2:=Ka k Ra;clear Ka;generalize La:ys.getD k 0=y at c2 Ia;have Sa:=Hd (La);obtain ⟨y0,y1⟩:=Ia;have hJ:(k:Int)<(m:Int):=(by omega);have HV:H9 (M.sumAt zs ys k=y % 65537):=(by show M.sumAt zs ys k=_;rw [Qa.o,Sa.o,M.getD_out (zs:=zs) (by rw [HZ.o.len];omega),Int.zero_add]);clear La;(go_wp2_with (at_builtin;refine wpList_append_own _ rfl _ _ 24 rfl w.heap.size 2 i0 (it 0) 1 8 Tryz.underlying24 HI.o.1 HI.o.2.1 HI.o.2.2.1 HI.o.2.2.2 rfl (by decide) _ k ((M.tab k (M.sumAt zs ys)).map (Value.int .i64)) rfl (World.ownsRow.alloc Ea.o _) ⟨wr.heap.size,0,none⟩ 1 1 [it (y % 65537)] rfl rfl (cell_one wr _ _) (one_int _) (by unfold maxLen;omega) (by omega) (by simp;omega) ?_));intro v' w1 Ba Ca _;have hown':w1.ownsRow w.heap.size 2 1 v' (k+1) ((M.tab (k+1) (M.sumAt zs ys)).map (Value.int .i64)):=(by rw [← M.tab_snoc,HV.o,List.map_append];exact Ba);obtain ⟨a2,Da,rfl,Aa⟩:=Owns.form hown';have Ga:H9 (Owns 2 w1 w.heap.size a2 (k+1) Da (M.tab (k+1) (M.sumAt zs ys))):=Aa;have Ha:H9 (Below w.heap.size w w1):=Fa.o.grown ((World.grownBy_alloc wr _ _).trans Ca) Ja Ea.o.row;clear Ba hown' Ca Aa;go_wp2;go_roundw
    case rel=>exact ⟨k+1,a2,Da,by omega,by go_num,rfl,Ga.o,Ha.o⟩
    case measure=>simp [intOf];omega
   ·
    have hJ:¬ (k:Int)<(m:Int):=(by omega);have Ya:k=max n m:=(by omega);have HP:H9 (M.tab k (M.sumAt zs ys)=M.padd zs ys):=(by show _=_;unfold M.padd;rw [HZ.o.len,HY.o.len,← Ya]);have Bb:k≤1048576:=(by omega);clear Ia Ya;(go_wp2_with fail);refine (l2Trim_any _ Ea.o.sees Bb).mono ?_;rintro e w1 ⟨a2,l2,c2,rfl,Aa,Za⟩
    have Ga:H9 (Owns 2 w1 w.heap.size a2 l2 c2 (M.trim (M.padd zs ys))):=by
     show Owns _ _ _ _ _ _ _;rw [← HP.o];exact Aa.mono Ja
    have Ha:H9 (Below w.heap.size w w1):=Fa.o.trans (Za.mono Ja);clear Aa Za;go_wp2;go_ret;exact ⟨a2,l2,c2,rfl,Ga.o,Ha.o⟩
theorem step_append_ownm {P:Program} {ops:Array Oper} {o:Oper} {a:Act} {w:World} {K:Act→World→Prop} {Q:Exit→Act→World→Prop} {E:Prop}
  (hg:o.guard=none) (s x:Operand) (t:TypeId) (hop:o.op=Op.call { callee:=Callee.builtin Builtin.append,args:=#[s,x],argTypes:=#[t,t] })
  (base:Nat) (e:TypeId) (i:TypeInfo) (z:Value) (size bytes:Nat) (ht:P.underlying t=some (.slice e)) (hi:P.info? e=some i) (hz:i.zero=some z) (hsize:i.size=size) (hby:i.bytes=bytes) (hzs:z.cells.size=size) (hsz:0<size)
  (v:Value) (n:Nat) (xs:List Value) (hs:a.eval s=v) (hown:w.ownsRow base e size v n xs) (ad:Addr) (m c:Nat) (news:List Value) (hx:a.eval x=.slice (some ad) m c) (hl:news.length=m*size) (hnews:∀ j u,news[j]? = some u→w.cell? (ad.add j)=some u) (h1:∀ u∈news,u.oneCell'=true)
  (h63:n+m≤maxLen) (hbytes:(n+m)*bytes≤140737488355328) (hbase:base≤w.heap.size)
  (hK:∀ v' w',w'.ownsRow base e size v' (n+m) (xs++news)→w.grownBy w' v.ownBlock→K (a.put o.dst v') w') :
  if Region.wanted o (yielded ops a.tmps)=true then Oper.wp P o a w K Q else E:=by
 have hw:Region.wanted o (yielded ops a.tmps)=true:=(by simp [Region.wanted,hg]);rw [if_pos hw];obtain ⟨v',w',Aa,r1,r2,_,_⟩:=run_append_own_at (P:=P) w base t o.type e i z size bytes ht hi hz hsize hby hzs hsz v n xs hown ad m c news hl hnews h1 h63 hbytes hbase;unfold Oper.wp;simp [execOp,hop,resolve,invoke,builtin,hs,hx,Aa,Result.andThen];exact hK v' w' r1 r2
theorem info_stateK : (Tryz.prog.info? 31).map (fun i=>(i.zero,i.size,i.bytes))=some (some (.agg #[.int .i64 0,.int .i64 0]),2,16):=by kernel_rfl
theorem l1In_any (n:Int) (w:World):Calls Tryz.prog 43 #[.int .i64 n,.int .i64 0,.int .i64 1000] w fun e w'=>e=.returned (.bool (decide (0≤n) && decide (n≤1000)))∧w'=w:=by
 by_cases h0:0≤n
 ·
  by_cases h1:n≤1000
  ·
   rw [decide_eq_true h0,decide_eq_true h1];go_enter Tryz.func43,Tryz.ntmps43;go_wp2;go_ret;exact ⟨rfl,rfl⟩
  ·
   rw [decide_eq_true h0,decide_eq_false h1];go_enter Tryz.func43,Tryz.ntmps43;go_wp2;go_ret;exact ⟨rfl,rfl⟩
 ·
  rw [decide_eq_false h0];go_enter Tryz.func43,Tryz.ntmps43;go_wp2;go_ret;exact ⟨rfl,rfl⟩
theorem ownsQ_built {t:TypeId} (w:World) (base:Nat) (hb:base≤w.heap.size) (x y:Int):OwnsQ t (w.alloc (.cells #[.int .i64 x,.int .i64 y] t)) base (some ⟨w.heap.size,0,none⟩) 1 1 [(x,y)]:=by
 refine ⟨rfl,rfl,.inr ⟨w.heap.size,1,#[it x,it y],rfl,hb,?_,Nat.le_refl _,by unfold maxLen;omega,rfl,rfl⟩⟩;show (w.heap.push _)[w.heap.size]? = _;simp
set_option maxHeartbeats 4000000 in
set_option maxRecDepth 10000 in
theorem specRunOf_any (m:M.Mc) (s:Int×Int) (n:Int) (w:World):Calls Tryz.prog 77 #[mcv m,stv s,.int .i64 n] w fun e w'=>∃ a l cap,e=.returned (.tuple #[.slice a l cap,.bool (M.runOk m s n)])∧l≤1001∧OwnsQ 31 w' w.heap.size a l cap (M.runv m s n)∧Below w.heap.size w w':=by
 have C1:=specMachineOk_any m;have C2:=specStateOk_any s;have C3:=l1In_any n
 have HT:H9 (∀ W,Below ((w.alloc (.cells (v1' m.X.xx m.X.xy m.X.yy m.X.x m.X.y m.X.k m.Y.xx m.Y.xy m.Y.yy m.Y.x m.Y.y m.Y.k).toArray 41)).alloc (.cells #[it s.1,it s.2] 31)).heap.size ((w.alloc (.cells (v1' m.X.xx m.X.xy m.X.yy m.X.x m.X.y m.X.k m.Y.xx m.Y.xy m.Y.yy m.Y.x m.Y.y m.Y.k).toArray 41)).alloc (.cells #[it s.1,it s.2] 31)) W→W.cell? ⟨w.heap.size,0,none⟩=some (it m.X.xx)∧W.cell? ⟨w.heap.size,1,none⟩=some (it m.X.xy)∧W.cell? ⟨w.heap.size,2,none⟩=some (it m.X.yy)∧W.cell? ⟨w.heap.size,3,none⟩=some (it m.X.x)∧W.cell? ⟨w.heap.size,4,none⟩=some (it m.X.y)∧W.cell? ⟨w.heap.size,5,none⟩=some (it m.X.k)∧W.cell? ⟨w.heap.size,6,none⟩=some (it m.Y.xx)∧W.cell? ⟨w.heap.size,7,none⟩=some (it m.Y.xy)∧W.cell? ⟨w.heap.size,8,none⟩=some (it m.Y.yy)∧W.cell? ⟨w.heap.size,9,none⟩=some (it m.Y.x)∧W.cell? ⟨w.heap.size,10,none⟩=some (it m.Y.y)∧W.cell? ⟨w.heap.size,11,none⟩=some (it m.Y.k)∧W.cell? ⟨w.heap.size+1,0,none⟩=some (it s.1)∧W.cell? ⟨w.heap.size+1,1,none⟩=some (it s.2)):=fun W hW=>by
  have e1:(w.alloc (.cells (v1' m.X.xx m.X.xy m.X.yy m.X.x m.X.y m.X.k m.Y.xx m.Y.xy m.Y.yy m.Y.x m.Y.y m.Y.k).toArray 41)).heap.size=w.heap.size+1:=(by simp);have h1:=fun i=>World.cell?_alloc_new (w.alloc (.cells (v1' m.X.xx m.X.xy m.X.yy m.X.x m.X.y m.X.k m.Y.xx m.Y.xy m.Y.yy m.Y.x m.Y.y m.Y.k).toArray 41)) #[it s.1,it s.2] 31 i;rw [e1] at h1;have h0:=fun i=>(World.cell?_alloc_lt (w:=w.alloc (.cells (v1' m.X.xx m.X.xy m.X.yy m.X.x m.X.y m.X.k m.Y.xx m.Y.xy m.Y.yy m.Y.x m.Y.y m.Y.k).toArray 41)) (o:=.cells #[it s.1,it s.2] 31) (a:=⟨w.heap.size,i,none⟩) (h:=by simp)).trans (World.cell?_alloc_new w (v1' m.X.xx m.X.xy m.X.yy m.X.x m.X.y m.X.k m.Y.xx m.Y.xy m.Y.yy m.Y.x m.Y.y m.Y.k).toArray 41 i);exact ⟨(hW.cell (p:=⟨w.heap.size,0,none⟩) (by simp;omega)).trans (h0 0),(hW.cell (p:=⟨w.heap.size,1,none⟩) (by simp;omega)).trans (h0 1),(hW.cell (p:=⟨w.heap.size,2,none⟩) (by simp;omega)).trans (h0 2),(hW.cell (p:=⟨w.heap.size,3,none⟩) (by simp;omega)).trans (h0 3),(hW.cell (p:=⟨w.heap.size,4,none⟩) (by simp;omega)).trans (h0 4),(hW.cell (p:=⟨w.heap.size,5,none⟩) (by simp;omega)).trans (h0 5),(hW.cell (p:=⟨w.heap.size,6,none⟩) (by simp;omega)).trans (h0 6),(hW.cell (p:=⟨w.heap.size,7,none⟩) (by simp;omega)).trans (h0 7),(hW.cell (p:=⟨w.heap.size,8,none⟩) (by simp;omega)).trans (h0 8),(hW.cell (p:=⟨w.heap.size,9,none⟩) (by simp;omega)).trans (h0 9),(hW.cell (p:=⟨w.heap.size,10,none⟩) (by simp;omega)).trans (h0 10),(hW.cell (p:=⟨w.heap.size,11,none⟩) (by simp;omega)).trans (h0 11),(hW.cell (p:=⟨w.heap.size+1,0,none⟩) (by simp)).trans (h1 0),(hW.cell (p:=⟨w.heap.size+1,1,none⟩) (by simp)).trans (h1 1)⟩
 cases hok:M.runOk m s n with
 | false =>
  have HV:H9 (M.runv m s n=[]):=M.runv_out hok
  have Ga:m.ok=false∨(m.ok=true∧M.sOk s=false)∨(m.ok=true∧M.sOk s=true∧(decide (0≤n) && decide (n≤1000))=false):=by
   unfold M.runOk at hok
   cases h1:m.ok <;> cases h2:M.sOk s <;> simp_all
  clear hok;generalize m.ok=o1 at C1 Ga;generalize M.sOk s=o2 at C2 Ga;generalize (decide (0≤n) && decide (n≤1000))=o3 at C3 Ga;obtain ⟨⟨a,b,c,d,f,k⟩,⟨a',b',c',d',f',k'⟩⟩:=m;obtain ⟨x,y⟩:=s;dsimp only [mcv,stv] at C1 C2 HT ⊢
  rcases Ga with rfl | ⟨rfl,rfl⟩ | ⟨rfl,rfl,rfl⟩
  all_goals
   go_enter Tryz.func77,Tryz.ntmps77;(go_wp2_with fail);refine (C1 _).mono ?_;rintro e w1 ⟨rfl,Ca⟩;obtain ⟨q0,q1,q2,q3,q4,q5,q6,q7,q8,q9,Pa,Qa,Ra,Sa⟩:=HT.o _ Ca;have Ba:H9 (Below w.heap.size w w1):=(((Below.refl _ _).alloc (Nat.le_refl _) _).alloc (by simp) _).trans (Ca.mono (by simp;omega));clear Ca
   try (
    (go_wp2_with fail);refine (C2 _).mono ?_;rintro e w2 ⟨rfl,Da⟩
    replace Ba:H9 (Below w.heap.size w w2):=Ba.o.trans (Da.mono Ba.o.size)
    clear Da)
   try (
    (go_wp2_with fail);refine (C3 _).mono ?_;rintro e w3 ⟨rfl,rfl⟩)
   go_wp2
   go_ret2
   exact ⟨none,0,0,rfl,by omega,by rw [HV.o];exact ownsQ_none _ _ _,Ba.o⟩
 | true =>
  obtain ⟨hm,hs,h3,h4⟩:=M.runOk_parts hok;have HV:H9 (M.runv m s n=m.run s n.toNat):=M.runv_in hok;rw [hm] at C1;rw [hs] at C2;rw [decide_eq_true h3,decide_eq_true h4] at C3;obtain ⟨N,rfl⟩:=Int.eq_ofNat_of_zero_le h3;have hN:N≤1000:=(by omega);have HL:H9 (Int.toNat (N:Int)=N):=Int.toNat_natCast N;have HM:H9 (m.ok=true):=hm;have HS:=Hd (hs);have Ta:H9 (∃ m0,m0=m):=⟨_,rfl⟩;obtain ⟨m0,Ka⟩:=Ta.o;have Ua:H9 (∃ s0,s0=s):=⟨_,rfl⟩;obtain ⟨s0,Ha⟩:=Ua.o;have CN:H9 (∀ (q:Int×Int) (w:World),M.sOk q=true→Calls Tryz.prog 106 #[mcv m,stv q] w fun e w'=>e=.returned (stv (m0.nx q))∧Below w.heap.size w w'):=fun q w hq=>by rw [Ka];exact specNext_any m q w HM.o hq
  have Gb:H9 (M.runv m s (N:Int)=m0.run s0 N):=(by show _=_;rw [Ka,Ha,HV.o,HL.o]);have Hb:H9 (∀ k,M.sOk (m0.rn s0 k)=true):=fun k=>by rw [Ha];exact M.sOk_rn m0 HS.o k
  have Ib:H9 (m0.run s0 0=[s]):=(by show _=_;rw [← Ha];rfl);obtain ⟨i0,hi,Va,Wa,Xa⟩:=info_parts info_stateK;have HI:H9 (Tryz.prog.info? 31 = some i0∧i0.zero=some (.agg #[it 0,it 0])∧i0.size=2∧i0.bytes=16):=⟨hi,Va,Wa,Xa⟩;clear hok hm hs h3 h4 Ta Ua Ka Ha HM HS HV HL hi Va Wa Xa;obtain ⟨⟨a,b,c,d,f,k⟩,⟨a',b',c',d',f',k'⟩⟩:=m;obtain ⟨x,y⟩:=s;dsimp only [mcv,stv] at C1 C2 HT CN ⊢;go_enter Tryz.func77,Tryz.ntmps77;(go_wp2_with fail);refine (C1 _).mono ?_;rintro e w1 ⟨rfl,Ca⟩;have Fa:=Hd (Ca);obtain ⟨q0,q1,q2,q3,q4,q5,q6,q7,q8,q9,Pa,Qa,Ra,Sa⟩:=HT.o _ Ca;have Ba:H9 (Below w.heap.size w w1):=(((Below.refl _ _).alloc (Nat.le_refl _) _).alloc (by simp) _).trans (Ca.mono (by simp;omega));clear Ca;(go_wp2_with fail);refine (C2 _).mono ?_;rintro e w2 ⟨rfl,Da⟩;have Ya:=Hd (Ba.o.trans (Da.mono Ba.o.size));have Ia:H9 (Below (w.heap.size+2) _ w2):=(Fa.o.trans (Da.mono Fa.o.size)).mono (by simp);obtain ⟨r0,r1,r2,r3,r4,r5,r6,r7,r8,r9,Za,Ab,Jb,Kb⟩:=HT.o _ (Fa.o.trans (Da.mono Fa.o.size));clear Da q0 q1 q2 q3 q4 q5 q6 q7 q8 q9 Pa Qa Ra Sa Fa Ba;(go_wp2_with fail);refine (C3 _).mono ?_;rintro e w2 ⟨rfl,rfl⟩
  have HO:H9 (OwnsQ 31 (w2.alloc (.cells #[it x,it y] 31)) (w.heap.size+2) (some ⟨w2.heap.size,0,none⟩) 1 1 (m0.run s0 0)):=by
   show OwnsQ _ _ _ _ _ _ _;rw [Ib.o];exact ownsQ_built _ _ (by have:=Ia.o.size;simpa using this) x y
  have Bb:H9 (Below (w.heap.size+2) w2 (w2.alloc (.cells #[it x,it y] 31))):=(Below.refl _ _).alloc (by have:=Ia.o.size;simpa using this) _;have Cb:H9 (Below w.heap.size w (w2.alloc (.cells #[it x,it y] 31))):=Ya.o.alloc Ya.o.size _;have Lb:w.heap.size+2≤w2.heap.size:=(by have:=Ia.o.size;simpa using this);clear HT C1 C2 C3 Ia;go_wp2
  go_loopw [8,9] (fun s i wr=>∃ (j:Nat) (al:Option Addr) (Ea:Nat),j≤N∧i=it j∧s=.slice al (j+1) Ea∧OwnsQ 31 wr (w.heap.size+2) al (j+1) Ea (m0.run s0 j)∧Below (w.heap.size+2) w2 wr∧Below w.heap.size w wr) (fun _ i _=>N-(intOf i).toNat)
  case atStart=>exact ⟨0,_,_,by omega,rfl,rfl,HO.o,Bb.o,Cb.o⟩
  case round =>
   obtain ⟨j,al,Ea,hj,rfl,rfl,La,Aa,Ca⟩:=hrel;have Na:H9 (OwnsQ 31 wr (w.heap.size+2) al (j+1) Ea (m0.run s0 j)):=La;have Ba:=Hd (Ca);have Nb:=Hd (Aa);have Ob:w.heap.size+2≤wr.heap.size:=Nat.le_trans Lb Aa.size;by_cases Gc:j<N
   ·
    obtain ⟨g,rfl,hg,Hc,Ic,hc⟩:=La.block (by omega);obtain ⟨e1,e2⟩:=hc j (by omega);rw [M.run_get m0 s0 j j (Nat.le_refl _)] at e1 e2;have Pb:=(Aa.cell (p:=⟨w.heap.size,0,none⟩) (by simp)).trans r0;have Qb:=(Aa.cell (p:=⟨w.heap.size,1,none⟩) (by simp)).trans r1;have Rb:=(Aa.cell (p:=⟨w.heap.size,2,none⟩) (by simp)).trans r2;have Sb:=(Aa.cell (p:=⟨w.heap.size,3,none⟩) (by simp)).trans r3;have Tb:=(Aa.cell (p:=⟨w.heap.size,4,none⟩) (by simp)).trans r4;have Ub:=(Aa.cell (p:=⟨w.heap.size,5,none⟩) (by simp)).trans r5;have Vb:=(Aa.cell (p:=⟨w.heap.size,6,none⟩) (by simp)).trans r6;have Wb:=(Aa.cell (p:=⟨w.heap.size,7,none⟩) (by simp)).trans r7;have Xb:=(Aa.cell (p:=⟨w.heap.size,8,none⟩) (by simp)).trans r8;have Yb:=(Aa.cell (p:=⟨w.heap.size,9,none⟩) (by simp)).trans r9;have Zb:=(Aa.cell (p:=⟨w.heap.size,10,none⟩) (by simp)).trans Za;have Ac:=(Aa.cell (p:=⟨w.heap.size,11,none⟩) (by simp)).trans Ab;have hI:(j:Int)<(N:Int):=(by omega);have Jc:(j:Int)+1≤Ea:=(by omega);have Kc:(j:Int)<(j:Int)+1:=(by omega);have HN:H9 (m0.run s0 j++[m0.nx (m0.rn s0 j)]=m0.run s0 (j+1)):=M.run_snoc m0 s0 j;have CQ:=CN.o (m0.rn s0 j);have Db:H9 (M.sOk (m0.rn s0 j)=true):=Hb.o j;generalize m0.rn s0 j=q at e1 e2 HN CQ Db;generalize Bc:m0.nx q=q2 at HN CQ;obtain ⟨u,v⟩:=q;obtain ⟨u2,v2⟩:=q2;dsimp only at e1 e2 CQ;clear La Aa Ca hc HO Bb Cb Bc r0 r1 r2 r3 r4 r5 r6 r7 r8 r9 Za Ab Jb Kb;go_wp2
    go_region_law (first
     | (refine step_append_ownm rfl (.tmp 30) (.tmp 37) 108 rfl (w.heap.size+2) 31 i0 (.agg #[it 0,it 0]) 2 16 Tryz.underlying108 HI.o.1 HI.o.2.1 HI.o.2.2.1 HI.o.2.2.2 rfl (by decide) (.slice (some ⟨g,0,none⟩) (j+1) Ea) (j+1) (prs (m0.run s0 j)) (by simp [Act.eval]) (World.ownsRow.alloc (Na.o.below ((Below.refl _ _).drew.trans Ja)).2 _) ⟨w4.heap.size,0,none⟩ 1 1 [it u2,it v2] (by simp [Act.eval]) rfl (cell_twoq w4 _ _ _) (two_intsq _ _) (by unfold maxLen;omega) (by omega) (by have:=Ja.size;simp at this;simp;omega) ?_;intro v' w5 Eb hgrow)
     | (go_simp;go_wp2_with (go_at_call 106;refine (CQ _ Db.o).mono ?_;rintro e w4 ⟨rfl,Ja⟩)))
    all_goals
     have hown':w5.ownsRow (w.heap.size+2) 31 2 v' (j+1+1) (prs (m0.run s0 (j+1))):=(by rw [← HN.o,← prs_snoc];exact Eb);obtain ⟨b5,c5,rfl,Fb⟩:=OwnsQ.form (M.run_len m0 s0 (j+1)) hown';have Cc:H9 (OwnsQ 31 w5 (w.heap.size+2) b5 (j+1+1) c5 (m0.run s0 (j+1))):=Fb;have Oa:=Na.o.row;have hb4':Below wr.heap.size wr w4:=(Below.refl _ _).drew.trans Ja;have Lc:=hb4'.size;have Dc:H9 (Below (w.heap.size+2) w2 w5):=((Nb.o.trans (hb4'.mono Ob)).alloc (by omega) _).grown hgrow (by simp;omega) Oa;have Ec:H9 (Below w.heap.size w w5):=((Ba.o.trans (hb4'.mono Ba.o.size)).alloc (by have:=Ba.o.size;omega) _).grown hgrow (by have:=Ba.o.size;simp;omega) (fun q hq=>by have:=Oa q hq;omega);clear Eb hown' hgrow Fb Oa Ja hb4' Pb Qb Rb Sb Tb Ub Vb Wb Xb Yb Zb Ac e1 e2;go_wp2;go_roundw
     case rel=>exact ⟨j+1,b5,c5,by omega,by go_num,rfl,Cc.o,Dc.o,Ec.o⟩
     case measure=>simp [intOf];omega
   ·
    have Fc:j=N:=(by omega);subst Fc;go_wp2
    go_ret2
    exact ⟨al,j+1,Ea,rfl,by omega,by rw [Gb.o];exact Na.o.mono (by omega),Ba.o⟩
set_option maxHeartbeats 2000000 in
theorem specAfter_any (m:M.Mc) (s:Int×Int) (n:Int) (w:World):Calls Tryz.prog 57 #[mcv m,stv s,.int .i64 n] w fun e w'=>e=.returned (.tuple #[stv (M.aft m s n),.bool (M.runOk m s n)])∧Below w.heap.size w w':=by
 have C1:=specRunOf_any m s n
 have HT:H9 (∀ W,Below (((w.alloc (.cells (v1' m.X.xx m.X.xy m.X.yy m.X.x m.X.y m.X.k m.Y.xx m.Y.xy m.Y.yy m.Y.x m.Y.y m.Y.k).toArray 41)).alloc (.cells #[it s.1,it s.2] 31)).alloc (.cells #[it 0,it 0] 31)).heap.size (((w.alloc (.cells (v1' m.X.xx m.X.xy m.X.yy m.X.x m.X.y m.X.k m.Y.xx m.Y.xy m.Y.yy m.Y.x m.Y.y m.Y.k).toArray 41)).alloc (.cells #[it s.1,it s.2] 31)).alloc (.cells #[it 0,it 0] 31)) W→W.cell? ⟨w.heap.size+1+1,0,none⟩=some (it 0)∧W.cell? ⟨w.heap.size+1+1,1,none⟩=some (it 0)∧W.frozen? ⟨w.heap.size+1+1,0,none⟩=false∧W.frozen? ⟨w.heap.size+1+1,1,none⟩=false):=fun W hW =>
  ⟨(hW.cell (p:=⟨w.heap.size+1+1,0,none⟩) (by simp)).trans (chain3m w _ _ _ _ _ _ 0).2.2.1,(hW.cell (p:=⟨w.heap.size+1+1,1,none⟩) (by simp)).trans (chain3m w _ _ _ _ _ _ 1).2.2.1,(frozen_kept hW (show w.heap.size+1+1<_ by simp)).trans (chain3m w _ _ _ _ _ _ 0).2.2.2,(frozen_kept hW (show w.heap.size+1+1<_ by simp)).trans (chain3m w _ _ _ _ _ _ 1).2.2.2⟩
 cases hok:M.runOk m s n with
 | false =>
  rw [M.aft_out hok];rw [hok] at C1;obtain ⟨⟨a,b,c,d,f,k⟩,⟨a',b',c',d',f',k'⟩⟩:=m;obtain ⟨x,y⟩:=s;dsimp only [mcv,stv] at C1 HT ⊢;clear hok;go_enter Tryz.func57,Tryz.ntmps57;(go_wp2_with fail);refine (C1 _).mono ?_;rintro e w1 ⟨ra,rl,rc,rfl,-,-,Aa⟩;have Ba:H9 (Below w.heap.size w w1):=((((Below.refl _ _).alloc (Nat.le_refl _) _).alloc (by simp) _).alloc (by simp;omega) _).trans (Aa.mono (by simp;omega));obtain ⟨t0,t1,t2,t3⟩:=HT.o _ Aa;clear Aa;go_wp2;refine bodyPost_ret (v:=.tuple #[.agg #[it 0,it 0],.bool false]) (by simp [results,Tryz.results57,go_sem,t0,t1]) rfl ⟨rfl,?_⟩;exact (Ba.o.setCell (by show w.heap.size≤w.heap.size+1+1;omega) _).setCell (by show w.heap.size≤w.heap.size+1+1;omega) _
 | true =>
  obtain ⟨hm,hs,h3,h4⟩:=M.runOk_parts hok;rw [M.aft_in hok];have Ca:=len0 hok;have HG:H9 ((M.runv m s n).getD n.toNat (0,0)=m.rn s n.toNat):=(by show _=_;rw [M.runv_in hok];exact M.run_get m s _ _ (Nat.le_refl _));rw [hok] at C1;generalize M.runv m s n=rn at C1 HG Ca;generalize m.rn s n.toNat=q at HG ⊢;obtain ⟨N,rfl⟩:=Int.eq_ofNat_of_zero_le h3;rw [Int.toNat_natCast] at HG Ca;have hN:N≤1000:=(by omega);obtain ⟨⟨a,b,c,d,f,k⟩,⟨a',b',c',d',f',k'⟩⟩:=m;obtain ⟨x,y⟩:=s;obtain ⟨u,v⟩:=q;dsimp only [mcv,stv] at C1 HT ⊢;clear hok hm hs h3 h4;go_enter Tryz.func57,Tryz.ntmps57;(go_wp2_with fail);refine (C1 _).mono ?_;rintro e w1 ⟨ra,rl,rc,rfl,-,Da,Aa⟩;have Ba:H9 (Below w.heap.size w w1):=((((Below.refl _ _).alloc (Nat.le_refl _) _).alloc (by simp) _).alloc (by simp;omega) _).trans (Aa.mono (by simp;omega));obtain ⟨t0,t1,t2,t3⟩:=HT.o _ Aa;have Fa:rl=N+1:=(by rw [← Da.1];exact Ca);subst Fa;obtain ⟨g,rfl,Ea,Ga,Ha,hc⟩:=Da.block (by omega);obtain ⟨e1,e2⟩:=hc N (by omega);rw [HG.o] at e1 e2;have Ia:(N:Int)+1≤rc:=(by omega);have Ja:(N:Int)<(N:Int)+1:=(by omega);have Ka:g≠w.heap.size+1+1:=(by simp at Ea;omega);clear Aa Da hc Ea;dsimp only at e1 e2;go_wp2;refine bodyPost_ret (v:=.tuple #[.agg #[it u,it v],.bool true]) (by simp [results,Tryz.results57,go_sem,t0,t1]) rfl ⟨rfl,?_⟩;exact (Ba.o.setCell (by show w.heap.size≤w.heap.size+1+1;omega) _).setCell (by show w.heap.size≤w.heap.size+1+1;omega) _
theorem cutKey {P G : Prop} (f : P → G) (h : P) : G := f h
theorem grown_of_below {w w' : World} (h : Below w.heap.size w w') (row : Option Nat) : w.grownBy w' row := ⟨h.os, h.tape, h.output, h.size, fun k hk _ => h.block k hk⟩
theorem grown_drew (w : World) (row : Option Nat) : w.grownBy w.drew row := grown_of_below (Below.refl _ _).drew row
theorem grown_step {a w w' : World} {row : Option Nat} (h : a.grownBy w row) (hb : Below w.heap.size w w') : a.grownBy w' row :=
  h.trans (grown_of_below hb row)
theorem grown_cells {a w : World} {b : Nat} (h : a.grownBy w (some b)) (o : Nat) (us : List Value) : a.grownBy (w.setCells b o us) (some b) := by
  have hz : ∀ (us : List Value) (w : World) (o : Nat), w.grownBy (w.setCells b o us) (some b) := by
    intro us
    induction us with
    | nil => exact fun w _ => World.grownBy.refl w _
    | cons u us ih =>
      intro w o
      have h1 : w.grownBy (w.setCell ⟨b, o, none⟩ u) (some b) := ⟨rfl, rfl, rfl, by simp [World.setCell], fun k _ hk => Below.heap_setCell w _ u k (fun e => hk (by rw [e]))⟩
      exact h1.trans (ih _ _)
  exact h.trans (hz us w o)
theorem below_grownBy {B : Nat} {a w w' : World} {row : Option Nat} (h : Below B a w) (hg : w.grownBy w' row) (hB : B ≤ w.heap.size) (hr : ∀ k, row = some k → B ≤ k) : Below B a w' := h.grown hg hB hr
theorem Sees.grownR {w w' : World} {a : Option Addr} {n cap : Nat} {zs : List Int} {row : Option Nat} (h : Sees w a n cap zs) (hg : w.grownBy w' row) (hr : ∀ x, a = some x → row ≠ some x.block) : Sees w' a n cap zs :=
  h.of_cells fun p _ hp ⟨x, hx, he⟩ => hg.cell hp (fun e => hr x hx (by rw [he, e]))
theorem Owns.grownR.lt_of_heap {w : World} {g : Nat} {o : Obj} (h : w.heap[g]? = some o) : g < w.heap.size := by
  rcases Nat.lt_or_ge g w.heap.size with h' | h'
  · exact h'
  · rw [Array.getElem?_eq_none h'] at h; cases h
theorem Owns.grownR {t : TypeId} {w w' : World} {base : Nat} {a : Option Addr} {n cap : Nat} {zs : List Int} {row : Option Nat} (h : Owns t w base a n cap zs) (hg : w.grownBy w' row) (hr : ∀ x, a = some x → row ≠ some x.block) : Owns t w' base a n cap zs := by
  refine ⟨h.1, ?_⟩
  rcases h.2 with e | ⟨g, cp, cur, e, hb, hc, r⟩
  · exact .inl e
  · refine .inr ⟨g, cp, cur, e, hb, ?_, r⟩
    have hx : a = some ⟨g, 0, none⟩ := by injection e
    rw [hg.block g (Owns.grownR.lt_of_heap hc) (fun e2 => hr _ hx e2.symm)]
    exact hc
theorem OwnsQ.grownR {t : TypeId} {w w' : World} {base : Nat} {a : Option Addr} {n cap : Nat} {ps : List (Int × Int)} {row : Option Nat} (h : OwnsQ t w base a n cap ps) (hg : w.grownBy w' row) (hr : ∀ x, a = some x → row ≠ some x.block) : OwnsQ t w' base a n cap ps := by
  refine ⟨h.1, h.2.1, ?_⟩
  rcases h.2.2 with e | ⟨g, cp, cur, e, hb, hc, r⟩
  · exact .inl e
  · refine .inr ⟨g, cp, cur, e, hb, ?_, r⟩
    have hx : a = some ⟨g, 0, none⟩ := by injection e
    rw [hg.block g (Owns.grownR.lt_of_heap hc) (fun e2 => hr _ hx e2.symm)]
    exact hc
theorem SeesQ.grownR {w w' : World} {a : Option Addr} {n c : Nat} {ps : List (Int × Int)} {row : Option Nat} (h : SeesQ w a n c ps) (hg : w.grownBy w' row) (hr : ∀ x, a = some x → row ≠ some x.block) : SeesQ w' a n c ps := by
  refine ⟨h.len, h.le, h.big, h.no, ?_⟩
  rcases h.pos with e | ⟨b, off, e, hb⟩
  · exact .inl e
  · exact .inr ⟨b, off, e, fun i hi => ⟨hg.cell (hb i hi).1 (fun e2 => hr _ e e2.symm), hg.cell (hb i hi).2 (fun e2 => hr _ e e2.symm)⟩⟩
theorem far_next {v v' : Value} {w : World} {pb : Nat} (h : v'.ownBlock = v.ownBlock ∨ v'.ownBlock = some w.heap.size) (hp : pb < w.heap.size) (hv : v.ownBlock ≠ some pb) : v'.ownBlock ≠ some pb := by
  rcases h with e | e
  · rw [e]; exact hv
  · rw [e]; intro e2; injection e2 with e3; omega
theorem own_some {a : Option Addr} {n c b : Nat} (h : (Value.slice a n c).ownBlock ≠ some b) : ∀ x, a = some x → x.block ≠ b := fun x hx e => h (by subst hx; simp [Value.ownBlock, e])
theorem grown_far {a w : World} {row : Option Nat} {b : Nat} (h : a.grownBy w row) (hb : a.heap.size ≤ b) (o : Nat) (us : List Value) : a.grownBy (w.setCells b o us) row := by
  have hz : ∀ (us : List Value) (w : World) (o : Nat), a.grownBy w row → a.grownBy (w.setCells b o us) row := by
    intro us
    induction us with
    | nil => exact fun _ _ h => h
    | cons u us ih =>
      intro w o h
      refine ih _ _ ⟨h.os, h.tape, h.output, by have := h.size; simpa [World.setCell] using this, fun k hk hr => ?_⟩
      rw [Below.heap_setCell w ⟨b, o, none⟩ u k (fun e => by have : k = b := e; omega)]
      exact h.block k hk hr
  exact hz us w o h
theorem grown_alloc {a w : World} {row : Option Nat} (h : a.grownBy w row) (o : Obj) : a.grownBy (w.alloc o) row := h.trans (World.grownBy_alloc w o row)
theorem wp_alloc_as {P : Program} {w : World} {o : Oper} {a : Act} {K : Act → World → Prop} {Q : Exit → Act → World → Prop} (t : TypeId) (ho : o.op = .alloc t) (cs : Array Value)
    (hrun : (Instr.alloc t true (.tuple #[])).run P w = .ok (.pointer (some ⟨w.heap.size, 0, none⟩)) (w.alloc (.cells cs t)))
    (h : K (a.put o.dst (.pointer (some ⟨w.heap.size, 0, none⟩))) (w.alloc (.cells cs t))) : o.wp P a w K Q := by
  unfold Oper.wp execOp
  simp only [ho, Sem.run_bind, hrun, Result.andThen_ok, Sem.run_pure]
  exact h
theorem own_none {a : Option Addr} {n c : Nat} {pb : Nat} (h : ∀ y, a = some y → y.block ≠ pb) : (Value.slice a n c).ownBlock ≠ some pb := by
  cases a with
  | none => simp [Value.ownBlock]
  | some y => simp only [Value.ownBlock]; intro e; injection e with e; exact h y rfl e
theorem take_snocp (ps : List (Int × Int)) {k : Nat} (h : k < ps.length) : ps.take k ++ [ps.getD k (0, 0)] = ps.take (k + 1) := by
  rw [List.take_succ_eq_append_getElem h]; simp [List.getD_eq_getElem?_getD, h]
def M.fsts (ps : List (Int × Int)) : List Int := ps.map Prod.fst
def M.snds (ps : List (Int × Int)) : List Int := ps.map Prod.snd
theorem M.fsts_snoc (ps : List (Int × Int)) {k : Nat} (h : k < ps.length) : (M.fsts ps).take k ++ [(ps.getD k (0, 0)).1] = (M.fsts ps).take (k + 1) := by
  unfold M.fsts; rw [← List.map_take, ← List.map_take, ← take_snocp ps h, List.map_append]; rfl
theorem M.snds_snoc (ps : List (Int × Int)) {k : Nat} (h : k < ps.length) : (M.snds ps).take k ++ [(ps.getD k (0, 0)).2] = (M.snds ps).take (k + 1) := by
  unfold M.snds; rw [← List.map_take, ← List.map_take, ← take_snocp ps h, List.map_append]; rfl
theorem M.fsts_len (ps : List (Int × Int)) : (M.fsts ps).length = ps.length := by simp [M.fsts]
theorem M.snds_len (ps : List (Int × Int)) : (M.snds ps).length = ps.length := by simp [M.snds]
theorem gcs (w : World) (b o : Nat) (cs : List Value) : w.grownBy (w.setCells b o cs) (some b) := grown_cells (World.grownBy.refl _ _) o _
theorem hst' {P : Program} {ops : Array Oper} {Q : Exit → Act → World → Prop} {id : Nat} {a : Act} (w : World) (row : Option Nat) (hm : P.follows .mixedOrders = true)
    (h : w.grownBy w.drew row → wpAnyH P .any ops (NoPanic Q) (fun W => w.grownBy W row) ops.size (Array.replicate ops.size false) a w.drew) : (Code.region id ops true).wp P Q a w :=
  wp_region_noPanic (wp_region_held_drew (S := fun W => w.grownBy W row) hm (grown_drew _ _) h)
section
variable {α : Type} {f : α → List Value} {k : Nat}
theorem flat_len (hf:∀ x,(f x).length=k):∀ xs:List α,(xs.flatMap f).length=xs.length*k
 | []=>by simp
 | x::xs=>by rw [List.flatMap_cons,List.length_append,hf,flat_len hf xs,List.length_cons,Nat.add_mul];omega
theorem flat_get (hf:∀ x,(f x).length=k) (d:α):∀ (xs:List α) {i j:Nat},i<xs.length→j<k→(xs.flatMap f)[i*k+j]? = (f (xs.getD i d))[j]?
 | [],_,_,h,_=>by simp at h
 | x::xs,0,j,_,hj=>by
  rw [List.flatMap_cons,List.getElem?_append_left (by rw [hf];omega)];simp
 | x::xs,i+1,j,h,hj=>by
  rw [List.flatMap_cons,List.getElem?_append_right (by rw [hf,Nat.add_mul];omega),hf,show (i+1)*k+j-k=i*k+j by rw [Nat.add_mul];omega,flat_get hf d xs (by simpa using h) hj];simp
theorem flat_set (hf:∀ x,(f x).length=k):∀ (xs:List α) {i:Nat} (c:α),i<xs.length→spl (xs.flatMap f) (i*k) (f c)=(xs.set i c).flatMap f
 | [],_,_,h=>by simp at h
 | x::xs,0,c,_=>by
  unfold spl;rw [Nat.zero_mul,List.take_zero,List.nil_append,Nat.zero_add,hf,List.flatMap_cons,List.drop_left' (hf x)];simp
 | x::xs,i+1,c,h=>by
  have ih:=flat_set hf xs c (i:=i) (by simpa using h);unfold spl at ih ⊢;rw [hf] at ih ⊢;rw [List.flatMap_cons,List.set_cons_succ,List.flatMap_cons,← ih,show (i+1)*k=k+i*k by rw [Nat.add_mul];omega,Nat.add_assoc];rw [List.take_append,List.drop_append,hf,List.take_of_length_le (by rw [hf];omega),List.drop_of_length_le (by rw [hf];omega)];rw [show k+i*k-k=i*k by omega,show k+(i*k+k)-k=i*k+k by omega];simp
end
namespace M
structure Tk where
 done:Bool
 worker:Int
 due:Int
structure Jb where
 id:Int
 m:M.Mc
 s:Int×Int
 rows:Int
 gone:Bool
 ts:List Tk
def t0 : Tk:=⟨false,0,0⟩
def m0 : M.Mc:=⟨⟨0,0,0,0,0,0⟩,⟨0,0,0,0,0,0⟩⟩
def j0 : Jb:=⟨0,m0,(0,0),0,false,[]⟩
end M
def tvs (t:M.Tk):List Value:=[.bool t.done,.int .i64 t.worker,.int .i64 t.due]
def tkv (t:M.Tk):Value:=.agg #[.bool t.done,.int .i64 t.worker,.int .i64 t.due]
def jvs (j:M.Jb) (a:Option Addr) (c:Nat):List Value:=
 [.int .i64 j.id,.int .i64 j.m.X.xx,.int .i64 j.m.X.xy,.int .i64 j.m.X.yy,.int .i64 j.m.X.x,.int .i64 j.m.X.y,.int .i64 j.m.X.k,.int .i64 j.m.Y.xx,.int .i64 j.m.Y.xy,.int .i64 j.m.Y.yy,.int .i64 j.m.Y.x,.int .i64 j.m.Y.y,.int .i64 j.m.Y.k,.int .i64 j.s.1,.int .i64 j.s.2,.int .i64 j.rows,.bool j.gone,.slice a j.ts.length c]
def jrv (q:M.Jb×Option Addr×Nat):List Value:=jvs q.1 q.2.1 q.2.2
theorem tvs_len (t:M.Tk):(tvs t).length=3:=rfl
theorem jrv_len (q:M.Jb×Option Addr×Nat):(jrv q).length=18:=rfl
structure SeesT (w : World) (a : Option Addr) (n cap : Nat) (ts : List M.Tk) : Prop where
 len:ts.length=n
 le:n≤cap
 big:(cap:Int)≤9223372036854775807
 no:a=none→n=0∧cap=0
 pos:n=0∨∃ b off,a=some ⟨b,off,none⟩∧∀ i,i<n→∀ j,j<3→w.cell? ⟨b,off+i*3+j,none⟩=(tvs (ts.getD i M.t0))[j]?
theorem SeesT.at {w:World} {a:Option Addr} {n cap:Nat} {ts:List M.Tk} (h:SeesT w a n cap ts) (h0:0<n):∃ b off,a=some ⟨b,off,none⟩∧∀ i,i<n→∀ j,j<3→w.cell? ⟨b,off+i*3+j,none⟩=(tvs (ts.getD i M.t0))[j]?:=by
 rcases h.pos with e | e
 · omega
 · exact e
theorem SeesT.below {w w':World} {a:Option Addr} {n cap:Nat} {ts:List M.Tk} (h:SeesT w a n cap ts) (hb:Below w.heap.size w w'):SeesT w' a n cap ts:=by
 refine ⟨h.len,h.le,h.big,h.no,?_⟩;by_cases h0:n=0
 · exact .inl h0
 ·
  obtain ⟨b,Aa,e,hc⟩:=h.at (by omega);have Ba:b<w.heap.size:=World.block_lt_of_cell? w ⟨b,Aa+0*3+0,none⟩ ((hc 0 (by omega) 0 (by omega)).trans rfl);exact .inr ⟨b,Aa,e,fun i hi j hj=>(hb.cell (p:=⟨b,Aa+i*3+j,none⟩) Ba).trans (hc i hi j hj)⟩
structure SeesJ (w : World) (a : Option Addr) (n cap : Nat) (js : List M.Jb) : Prop where
 len:js.length=n
 le:n≤cap
 big:(cap:Int)≤9223372036854775807
 no:a=none→n=0∧cap=0
 pos:n=0∨∃ b off,a=some ⟨b,off,none⟩∧∀ i,i<n→∃ (ta:Option Addr) (tc:Nat),(∀ j,j<18→w.cell? ⟨b,off+i*18+j,none⟩=(jvs (js.getD i M.j0) ta tc)[j]?)∧SeesT w ta (js.getD i M.j0).ts.length tc (js.getD i M.j0).ts
theorem SeesJ.at {w:World} {a:Option Addr} {n cap:Nat} {js:List M.Jb} (h:SeesJ w a n cap js) (h0:0<n):∃ b off,a=some ⟨b,off,none⟩∧∀ i,i<n→∃ (ta:Option Addr) (tc:Nat),(∀ j,j<18→w.cell? ⟨b,off+i*18+j,none⟩=(jvs (js.getD i M.j0) ta tc)[j]?)∧SeesT w ta (js.getD i M.j0).ts.length tc (js.getD i M.j0).ts:=by
 rcases h.pos with e | e
 · omega
 · exact e
theorem SeesJ.below {w w':World} {a:Option Addr} {n cap:Nat} {js:List M.Jb} (h:SeesJ w a n cap js) (hb:Below w.heap.size w w'):SeesJ w' a n cap js:=by
 refine ⟨h.len,h.le,h.big,h.no,?_⟩;by_cases h0:n=0
 · exact .inl h0
 ·
  obtain ⟨b,Aa,e,hc⟩:=h.at (by omega)
  have Ba:b<w.heap.size:=by
   obtain ⟨ta,tc,h1,_⟩:=hc 0 (by omega);exact World.block_lt_of_cell? w ⟨b,Aa+0*18+0,none⟩ ((h1 0 (by omega)).trans rfl)
  refine .inr ⟨b,Aa,e,fun i hi=>?_⟩;obtain ⟨ta,tc,h1,h2⟩:=hc i hi;exact ⟨ta,tc,fun j hj=>(hb.cell (p:=⟨b,Aa+i*18+j,none⟩) Ba).trans (h1 j hj),h2.below hb⟩
structure SeesM (w : World) (ab : Option Addr) (nb cb : Nat) (aj : Option Addr) (nj cj : Nat) (bs : List Int) (js : List M.Jb) : Prop where
 b:Sees w ab nb cb bs
 j:SeesJ w aj nj cj js
theorem SeesM.below {w w':World} {ab:Option Addr} {nb cb:Nat} {aj:Option Addr} {nj cj:Nat} {bs:List Int} {js:List M.Jb} (h:SeesM w ab nb cb aj nj cj bs js) (hb:Below w.heap.size w w'):SeesM w' ab nb cb aj nj cj bs js:=⟨h.b.below hb,h.j.below hb⟩
structure Key (P : Prop) : Prop where
 out:P
structure Cut (G : Prop) where
 p:Prop
 h:Key p→G
structure Cut2 (G : Prop) where
 p:Prop
 q:Prop
 h:Key p→Key q→G
section
open Go.ChangeMaps Go.MapKept
def mes (n:Nat):List (Int×Value)→List MapEntry
 | []=>[]
 | x::l=>⟨it x.1,x.2,n⟩::mes (n+1) l
def look (k:Int):List (Int×Value)→Option Value
 | []=>none
 | x::l=>if k=x.1 then some x.2 else look k l
theorem mes_append (n:Nat) (l:List (Int×Value)) (x:Int×Value):mes n (l++[x])=mes n l++[⟨.int .i64 x.1,x.2,n+l.length⟩]:=by
 induction l generalizing n with
 | nil=>rfl
 | cons y l ih=>simp only [List.cons_append,mes,ih,List.length_cons,Nat.add_assoc,Nat.add_comm 1]
theorem find_mes_none {k:Int}:∀ (l:List (Int×Value)) (n i:Nat),look k l=none→Instr.findNow (.int .i64) (.int .i64 k) (mes n l) i=some none
 | [],_,_,_=>rfl
 | x::l,n,i,h=>by
  simp only [look] at h
  split at h
  · simp at h
  ·
   rename_i hk;simp only [mes,Instr.findNow,Instr.sameNow,if_true];rw [show (k == x.1)=false by simp [hk]];exact find_mes_none l (n+1) (i+1) h
theorem find_mes_some {k:Int} {v:Value}:∀ (l:List (Int×Value)) (n i:Nat),look k l=some v→∃ j,Instr.findNow (.int .i64) (.int .i64 k) (mes n l) i=some (some (j,v))
 | [],_,_,h=>by simp [look] at h
 | x::l,n,i,h=>by
  simp only [look] at h
  split at h
  ·
   rename_i hk;simp only [mes,Instr.findNow,Instr.sameNow,if_true];rw [show (k == x.1)=true by simp [hk]];exact ⟨i,by simpa using h⟩
  ·
   rename_i hk;simp only [mes,Instr.findNow,Instr.sameNow,if_true];rw [show (k == x.1)=false by simp [hk]];exact find_mes_some l (n+1) (i+1) h
def IsMap (w:World) (b:Nat) (l:List (Int×Value)):Prop:=w.heap[b]? = some (.map (mes 0 l).toArray l.length)
theorem IsMap.lt {w:World} {b:Nat} {l:List (Int×Value)} (h:IsMap w b l):b<w.heap.size:=by
 rcases Nat.lt_or_ge b w.heap.size with hl | hl
 · exact hl
 · unfold IsMap at h;rw [Array.getElem?_eq_none hl] at h;simp at h
theorem isMap_new (w:World):IsMap (w.alloc (.map #[] 0)) w.heap.size []:=by
 show (w.heap.push _)[w.heap.size]? = _;simp [mes]
theorem IsMap.below {w w':World} {b:Nat} {l:List (Int×Value)} (h:IsMap w b l) (hb:Below w.heap.size w w'):IsMap w' b l:=(hb.block b h.lt).trans h
theorem IsMap.grown {w w':World} {b:Nat} {l:List (Int×Value)} {row:Option Nat} (h:IsMap w b l) (hg:w.grownBy w' row) (hne:row≠some b):IsMap w' b l:=(hg.block b h.lt (fun e=>hne e.symm)).trans h
theorem IsMap.alloc {w:World} {b:Nat} {l:List (Int×Value)} (h:IsMap w b l) (o:Obj):IsMap (w.alloc o) b l:=h.grown (World.grownBy_alloc w o none) (by simp)
theorem IsMap.setCell {w:World} {b:Nat} {l:List (Int×Value)} (h:IsMap w b l) (p:Addr) (v:Value):IsMap (w.setCell p v) b l:=by
 unfold IsMap at h ⊢;by_cases e:p.block=b
 ·
  subst e;simp [World.setCell,Array.getElem?_modify,h]
 · simp [World.setCell,Array.getElem?_modify,h,e]
theorem IsMap.put {P:Program} {w:World} {b:Nat} {l:List (Int×Value)} {t k e:TypeId} (h:IsMap w b l) (ht:P.underlying t=some (.map k e)) (hk:P.underlying k=some (.int .i64)) (key:Int) (v:Value) (hn:look key l=none) :
  ∃ w',(Instr.mapUpdate t (.map (some b)) (.int .i64 key) v).run P w=.ok () w'∧IsMap w' b (l++[(key,v)])∧w.grownBy w' (some b):=by
 have hf:(Instr.findKey k (it key) (mes 0 l)).run P w=.ok none w:=by
  simp [Instr.findKey,run_underlying hk,find_mes_none l 0 0 hn,Result.andThen]
 refine ⟨setBlock w b (.map ((mes 0 l).toArray.push ⟨it key,v,l.length⟩) (l.length+1)),?_,?_,⟨rfl,rfl,rfl,by simp [setBlock],fun i _ hi=>heap_setBlock_other h _ (fun e=>hi (by rw [e]))⟩⟩
 · simp [Instr.mapUpdate,run_underlying ht,MapKept.run_getObj_map h,run_checkKey hk (show IsKey (.int .i64) (it key) from rfl) false 9999,hf,MapKept.run_setObj_map _ h,Result.andThen,setBlock]
 ·
  unfold IsMap;rw [heap_setBlock_same h,mes_append,Nat.zero_add];simp
theorem IsMap.get {P:Program} {w:World} {b:Nat} {l:List (Int×Value)} {t k e:TypeId} (h:IsMap w b l) (ht:P.underlying t=some (.map k e)) (hk:P.underlying k=some (.int .i64)) (key:Int) (v:Value) (hn:look key l=some v) (ok:Bool) :
  (Instr.lookup t (.map (some b)) (.int .i64 key) ok).run P w=.ok (if ok then .tuple #[v,.bool true] else v) w:=by
 obtain ⟨j,hj⟩:=find_mes_some l 0 0 hn
 have hf:(Instr.findKey k (it key) (mes 0 l)).run P w=.ok (some (j,v)) w:=by
  simp [Instr.findKey,run_underlying hk,hj,Result.andThen]
 cases ok <;> simp [Instr.lookup,run_underlying ht,MapKept.run_getObj_map h,run_checkKey hk (show IsKey (.int .i64) (it key) from rfl) _ 9999,hf,Result.andThen]
theorem IsMap.miss {P:Program} {w:World} {b:Nat} {l:List (Int×Value)} {t k e:TypeId} (h:IsMap w b l) (ht:P.underlying t=some (.map k e)) (hk:P.underlying k=some (.int .i64)) (key:Int) {z:Value} (hz:(zeroValue e).run P w=.ok z w) (hn:look key l=none) (ok:Bool) :
  (Instr.lookup t (.map (some b)) (.int .i64 key) ok).run P w=.ok (if ok then .tuple #[z,.bool false] else z) w:=by
 have hf:(Instr.findKey k (it key) (mes 0 l)).run P w=.ok none w:=by
  simp [Instr.findKey,run_underlying hk,find_mes_none l 0 0 hn,Result.andThen]
 cases ok <;> simp [Instr.lookup,run_underlying ht,MapKept.run_getObj_map h,run_checkKey hk (show IsKey (.int .i64) (it key) from rfl) _ 9999,hf,hz,Result.andThen]
end
def M.rows (n:Int):Bool:=decide (n=2) || (decide (n=4) || (decide (n=8) || decide (n=16)))
theorem M.rows_yes {n:Int} (h:M.rows n=true):n=2∨n=4∨n=8∨n=16:=by
 unfold M.rows at h;simpa using h
theorem M.rows_mod {n:Int} (h:2≤n):((16:Int).tmod n == 0)=M.rows n:=by
 by_cases Aa:n≤16
 ·
  obtain ⟨k,rfl⟩:=Int.eq_ofNat_of_zero_le (show 0≤n by omega);have hk:k≤16:=(by omega);have Ba:2≤k:=(by omega);clear h Aa;have:k=2∨k=3∨k=4∨k=5∨k=6∨k=7∨k=8∨k=9∨k=10∨k=11∨k=12∨k=13∨k=14∨k=15∨k=16:=by omega
  rcases this with rfl | rfl | rfl | rfl | rfl | rfl | rfl | rfl | rfl | rfl | rfl | rfl | rfl | rfl | rfl <;> rfl
 ·
  have e:(16:Int).tmod n=16:=Int.tmod_eq_of_lt (by omega) (by omega);rw [e];unfold M.rows;simp;omega
theorem rowsOk_any (n:Int) (w:World):Calls Tryz.prog 49 #[.int .i64 n] w fun e w'=>e=.returned (.bool (M.rows n))∧w'=w:=by
 by_cases h:2≤n
 ·
  have hm:=M.rows_mod h;have Aa:((16:Int) % n == 0)=M.rows n:=(by rw [← Int.tmod_eq_emod_of_nonneg (by omega)];exact hm);have hz:(n == 0)=false:=(by simp;omega);generalize M.rows n=o at hm Aa ⊢;go_enter Tryz.func49,Tryz.ntmps49;go_wp2;go_ret;exact ⟨by simp_all,rfl⟩
 ·
  have hm:M.rows n=false:=(by unfold M.rows;simp;omega);rw [hm];go_enter Tryz.func49,Tryz.ntmps49;go_wp2;go_ret;exact ⟨rfl,rfl⟩
theorem l1Two16_any (n:Int) (w:World):Calls Tryz.prog 90 #[.int .i64 n,.int .i64 16] w fun e w'=>e=.returned (.bool (decide (n=1) || M.rows n))∧w'=w:=by
 go_enter Tryz.func90,Tryz.ntmps90;go_wp2
 go_loop [5] (fun k=>∃ p:Int,k=it p∧(p=1∨(p=2∧n≠1)∨(p=4∧n≠1∧n≠2)∨(p=8∧n≠1∧n≠2∧n≠4)∨(p=16∧n≠1∧n≠2∧n≠4∧n≠8)∨(p=32∧n≠1∧n≠2∧n≠4∧n≠8∧n≠16))) (fun k=>(33-intOf k).toNat)
 case atStart=>exact ⟨1,rfl,.inl rfl⟩
 case round =>
  obtain ⟨p,rfl,hp⟩:=hrel;by_cases Aa:p=32
  ·
   subst Aa;have hm:H9 ((decide (n=1) || M.rows n)=false):=(by show _=_;unfold M.rows;simp;omega);clear hp;go_wp2;go_ret;exact ⟨ret_bool hm.o.symm,rfl⟩
  ·
   have Ba:p≤16:=(by omega);have Ca:1≤p:=(by omega);by_cases he:p=n
   ·
    have hm:H9 ((decide (n=1) || M.rows n)=true):=(by show _=_;unfold M.rows;simp;omega);have hb:(p == n)=true:=(by simp [he]);clear hp he;go_wp2;go_ret;exact ⟨ret_bool hm.o.symm,rfl⟩
   ·
    have hb:(p == n)=false:=(by simp [he]);have HP:=Hd (hp);have HE:H9 (p≠n):=he;clear hp he;go_wp2
    go_round
    case rel =>
     have hp:=HP.o;have he:=HE.o;exact ⟨2*p,by go_num,by omega⟩
    case measure=>simp [intOf];omega
theorem l6Rows_any (n:Int) (w:World):Calls Tryz.prog 55 #[.int .i64 n] w fun e w'=>e=.returned (.bool (M.rows n))∧w'=w:=by
 by_cases h:2≤n
 ·
  have hm:(decide (n=1) || M.rows n)=M.rows n:=by
   have:decide (n=1)=false:=(by simp;omega);rw [this];rfl
  have C1:=l1Two16_any n;rw [hm] at C1;go_enter Tryz.func55,Tryz.ntmps55;(go_wp2_with fail);refine (C1 _).mono ?_;rintro e w1 ⟨rfl,rfl⟩;go_wp2;go_ret;exact ⟨rfl,rfl⟩
 ·
  have hm:M.rows n=false:=(by unfold M.rows;simp;omega);rw [hm];go_enter Tryz.func55,Tryz.ntmps55;go_wp2;go_ret;exact ⟨rfl,rfl⟩
section
open Go.ChangeShapes Go.WideShapes
open Go.ChangeShapes Go.WideShapes
theorem SeesT.kept {w w':World} {a:Option Addr} {n c:Nat} {ts:List M.Tk} (h:SeesT w a n c ts) (hc:∀ x i,a=some x→w'.cell? ⟨x.block,i,none⟩=w.cell? ⟨x.block,i,none⟩):SeesT w' a n c ts:=by
 refine ⟨h.len,h.le,h.big,h.no,?_⟩
 rcases h.pos with e | ⟨b,o,e,hp⟩
 · exact .inl e
 · exact .inr ⟨b,o,e,fun i hi j hj=>(hc _ _ e).trans (hp i hi j hj)⟩
open Go.ChangeShapes Go.WideShapes
theorem row_of_cells {w:World} {b o n:Nat} {vs:List Value} (hl:vs.length=n) (h:∀ j,j<n→w.cell? ⟨b,o+j,none⟩=vs[j]?):w.rangeAt b o vs:=fun j v hv=>by
 have hj:j<vs.length:=by
  rcases Nat.lt_or_ge j vs.length with h' | h'
  · exact h'
  · rw [List.getElem?_eq_none h'] at hv;cases hv
 exact (h j (by omega)).trans hv
def JPre (g n j:Nat) (js:List M.Jb) (wr:World):Prop:=∃ qs:List (M.Jb×Option Addr×Nat),qs.map (·.1)=js.take j∧Lies wr g ((qs++(List.replicate n (M.j0,none,0)).drop j).flatMap jrv)∧∀ q∈qs,SeesT wr q.2.1 q.1.ts.length q.2.2 q.1.ts∧∀ x,q.2.1=some x→g<x.block
theorem JPre.zero {g n:Nat} {js:List M.Jb} {wr:World} (h:Lies wr g ((List.replicate n (M.j0,none,0)).flatMap jrv)):JPre g n 0 js wr:=
 ⟨[],by simp,by simpa using h,fun q hq=>by cases hq⟩
theorem JPre.len {g n j:Nat} {js:List M.Jb} {wr:World} (h:JPre g n j js wr) (hj:j≤n) (hl:js.length=n):∃ vs,Lies wr g vs∧vs.length=n*18:=by
 obtain ⟨qs,h1,h2,_⟩:=h;have hq:qs.length=j:=(by have:=congrArg List.length h1;simpa [hl,hj] using this);exact ⟨_,h2,by rw [flat_len jrv_len,List.length_append,List.length_drop,List.length_replicate,hq];congr 1;omega⟩
def KeepsJ (B:Nat) (w:World) (a:Option Addr) (n c:Nat) (js:List M.Jb):Prop:=∀ W:World,(∀ p:Addr,B≤p.block→W.cell? p=w.cell? p)→SeesJ W a n c js
theorem KeepsJ.sees {B:Nat} {w:World} {a:Option Addr} {n c:Nat} {js:List M.Jb} (h:KeepsJ B w a n c js):SeesJ w a n c js:=h w fun _ _=>rfl
open Go.ChangeShapes Go.WideShapes
open Go.ChangeShapes Go.WideShapes
theorem KeepsJ.mono {B B':Nat} {w:World} {a:Option Addr} {n c:Nat} {js:List M.Jb} (h:KeepsJ B' w a n c js) (hb:B≤B'):KeepsJ B w a n c js:=fun W hW=>h W fun p hp=>hW p (by omega)
structure LoS (B : Nat) (w : World) (a : Option Addr) (n c : Nat) (zs : List Int) : Prop where
 sees:Sees w a n c zs
 lo:∀ x,a=some x→B≤x.block
theorem LoS.below {B:Nat} {w w':World} {a:Option Addr} {n c:Nat} {zs:List Int} (h:LoS B w a n c zs) (hb:Below w.heap.size w w'):LoS B w' a n c zs:=⟨h.sees.below hb,h.lo⟩
end
end Go.Proofs.YtfhknkppiidnkaaGreat
