import Derived.Test.YtjcjonncaknhnaaGreatDoorPk01
namespace Go.Proofs.YtjcjonncaknhnaaGreatDoor
open Go.RowKit Go.Proofs.Tryz
set_option linter.unusedSimpArgs false
set_option maxHeartbeats 32000000
variable {x zs g v xs ys O f R L q r y:List Int}{m:M.Mc}{s:Int×Int}{n cap i' c pb d k i N lc j:Nat}{P:Program}{o:Oper}{a b la:Option Addr}{w w':World}{K:Act→World→Prop}{Q:Exit→Act→World→Prop}{t:TypeId}{row:Option Nat}{ps:List (Int×Int)}
theorem rS(a b:Int)(w:World):Calls prog 282 #[.int .i64 a,.int .i64 b] w fun e w'=>∃p:Int×Int,e=.returned (.tuple #[.int .i64 p.1,.int .i64 p.2,.bool (M.sOk (a,b))])∧M.sOk p=true∧(M.sOk (a,b)=true→p=(a,b))∧w'=w:=by
 unfold M.sOk;dsimp only
 have C:∀(a:Int) (w:World),Rq 245 #[it a] w (.tuple #[it (if M.el a=true then a else 0),.bool (M.el a)]):=fun a w=>by
  by_cases h:M.el a=true
  ·
   rw[if_pos h,h];exact dk a w ((M.el_iff a).1 h).1 ((M.el_iff a).1 h).2
  ·
   rw[if_neg h,eq_false_of_ne_true h];exact dn a w ((M.el_not a).1 (eq_false_of_ne_true h))
 have E:∀a:Int,M.el (if M.el a=true then a else 0)=true:=fun a=>by
  by_cases h:M.el a=true
  ·rw[if_pos h,h]
  ·rw[if_neg h];decide
 have C1:=C a;have C2:=C b;have E1:=Hd (E a);have E2:=Hd (E b);have G1:H9 (M.el a=true→(if M.el a=true then a else 0)=a):=fun h=>if_pos h;have G2:H9 (M.el b=true→(if M.el b=true then b else 0)=b):=fun h=>if_pos h;generalize(if M.el a=true then a else 0)=x at *;generalize(if M.el b=true then b else 0)=y at *;generalize M.el a=o1 at *;generalize M.el b=o2 at *;clear C E
 cases o1 <;> cases o2
 all_goals
  go_enter func282,ntmps282;(go_wp2_with fail);refine(C1 _).mono ?_;rintro e w1 ⟨rfl,rfl⟩;(go_wp2_with fail);refine(C2 _).mono ?_;rintro e w1 ⟨rfl,rfl⟩;go_wp2
  go_ret3
  exact⟨(x,y),rfl,by rw[E1.o,E2.o];rfl,fun h=>by first | (exfalso;revert h;decide) | rw[G1.o trivial,G2.o trivial],rfl⟩
theorem gV(s:Int×Int)(w:World):Calls prog 260 #[cM s] w fun e w'=>∃p:Int×Int,e=.returned (.tuple #[cM p,.bool (M.sOk s)])∧M.sOk p=true∧(M.sOk s=true→p=s)∧m1 w w':=by
 have C1:=rS s.1 s.2;obtain⟨x,y⟩:=s;dsimp only[cM]at C1 ⊢;generalize M.sOk (x,y)=o at *;go_enter func260,ntmps260;(go_wp2_with fail);refine(C1 _).mono ?_;rintro e w1 ⟨p,rfl,hp,hE,rfl⟩;have HP:=Hd hp;have HE:=Hd hE;obtain⟨u,v⟩:=p;clear hp hE;go_wp2;refine m7 (v:=.tuple #[.agg #[it u,it v],.bool o]) (by simp[results,results260,go_sem]) rfl ⟨(u,v),rfl,HP.o,HE.o,?_⟩;exact((m5 _ _).alloc (m3 _) _).alloc (by simp) _
theorem je(s:Int×Int)(w:World):Rt 249 #[cM s] w (cM s):=by
 obtain⟨x,y⟩:=s;dsimp only[cM];go_enter func249,ntmps249;go_wp2;refine m7 (v:=.agg #[it x,it y]) (by simp[results,results249,go_sem]) rfl ⟨rfl,?_⟩;exact((m5 _ _).alloc (m3 _) _).alloc (by simp) _
theorem qq(w:World)(A B C:Array Value)(t1 t2 t3:TypeId)(i:Nat):
  (((w.alloc (.cells A t1)).alloc (.cells B t2)).alloc (.cells C t3)).frozen? ⟨w.heap.size+1,i,none⟩=false:=by
 rw[frozen?_alloc_cells,frozen?_alloc_cells,frozen?_alloc_cells];simp only[World.frozen?];rw[Array.getElem?_eq_none (by omega)]
theorem ks(r:M.Rl)(w:World):Calls prog 172 #[iR r] w fun e w'=>∃r':M.Rl,e=.returned (.tuple #[iR r',.bool r.ok])∧(r.ok=true→r'=r)∧m1 w w':=by
 have HS:H9 (∀(W:World) (g:Nat),W.heap.size=g→aw (W.alloc (.cells (c8 r.xx r.xy r.yy r.x r.y r.k).toArray 2)) (some ⟨g,0,none⟩) 6 6 r.nums):=fun W g hg=>rC W g hg r _;have HO:H9 (M.allEl r.nums=r.ok):=rfl;have HN:H9 (r.nums=[r.xx,r.xy,r.yy,r.x,r.y,r.k]):=rfl
 cases hok:r.ok with
 | false=>
  rw[hok]at HO;clear hok;dsimp only[iR];obtain⟨a,b,c,d,f,k⟩:=r;dsimp only at HS ⊢;generalize M.Rl.nums ⟨a,b,c,d,f,k⟩=zs at HS HO;clear HN;go_enter func172,ntmps172;(go_wp2_with fail);refine(dt _ (HS.o _ _ (by simp))).mono ?_;rintro e w' ⟨rfl,rfl⟩;rw[HO.o];go_wp2;refine m7 (v:=.tuple #[iR ⟨0,0,0,0,0,0⟩,.bool false]) (by simp[results,results172,go_sem]) rfl ⟨⟨0,0,0,0,0,0⟩,rfl,fun h=>by simp at h,?_⟩;exact(((m5 _ _).alloc (m3 _) _).alloc (by simp) _).alloc (by simp;omega) _
 | true=>
  rw[hok]at HO;clear hok;dsimp only[iR];obtain⟨a,b,c,d,f,k⟩:=r;dsimp only at HS HN ⊢;generalize M.Rl.nums ⟨a,b,c,d,f,k⟩=zs at HS HO HN;go_enter func172,ntmps172;(go_wp2_with fail);refine(dt _ (HS.o _ _ (by simp))).mono ?_;rintro e w' ⟨rfl,rfl⟩;rw[HO.o];(go_wp2_with fail);refine(es _ (HS.o _ _ (by simp)) (by omega)).mono ?_;rintro e w1 ⟨a1,c1,rfl,ho,hb⟩;have HB:=Hd (((((m5 _ _).alloc (m3 _) _).alloc (by simp) _).alloc (by simp;omega) _).trans (hb.mono (by simp;omega)));have hc:∀i,w1.cell? ⟨w.heap.size+1,i,none⟩=#[Value.int .i64 0,it 0,it 0,it 0,it 0,it 0][i]?:=fun i=>(hb.cell (p:=⟨w.heap.size+1,i,none⟩) (by simp)).trans (aW w _ _ _ _ _ _ i).2.1;have hf:=fun i=>(bu hb (show w.heap.size+1<_ by simp)).trans (qq w _ _ _ _ _ _ i);obtain⟨g,rfl,hg,Ca,Aa,-⟩:=ho.block (by omega);have Da:g≠w.heap.size+1:=(by simp at hg;omega);rw[HN.o]at Aa;have d0:w1.cell? ⟨g,0,none⟩=some (it a):=Aa 0 (by omega);have d1:w1.cell? ⟨g,1,none⟩=some (it b):=Aa 1 (by omega);have d2:w1.cell? ⟨g,2,none⟩=some (it c):=Aa 2 (by omega);have d3:w1.cell? ⟨g,3,none⟩=some (it d):=Aa 3 (by omega);have d4:w1.cell? ⟨g,4,none⟩=some (it f):=Aa 4 (by omega);have d5:w1.cell? ⟨g,5,none⟩=some (it k):=Aa 5 (by omega);have r0:w1.cell? ⟨w.heap.size+1,0,none⟩=some (it 0):=hc 0;have r1:w1.cell? ⟨w.heap.size+1,1,none⟩=some (it 0):=hc 1;have r2:w1.cell? ⟨w.heap.size+1,2,none⟩=some (it 0):=hc 2;have r3:w1.cell? ⟨w.heap.size+1,3,none⟩=some (it 0):=hc 3;have r4:w1.cell? ⟨w.heap.size+1,4,none⟩=some (it 0):=hc 4;have r5:w1.cell? ⟨w.heap.size+1,5,none⟩=some (it 0):=hc 5;have f0:=hf 0;have f1:=hf 1;have f2:=hf 2;have f3:=hf 3;have f4:=hf 4;have f5:=hf 5;have Ea:(6:Int)≤c1:=(by have:=ho.cap_le;omega);clear hc hf Aa ho hb HS HO HN hg Ca;go_wp2
  go_region
  have hl:w.heap.size≤w.heap.size+1:=(by omega);obtain⟨w2,Ba⟩:∃w2,w2=fP w1 (w.heap.size+1) 0 (c8 a b c d f k):=⟨_,rfl⟩;have HW:H9 (m1 w w2):=by rw[Ba];exact fJ hl _ _ _ HB.o
  have ha:=mK (w.heap.size+1) [Value.int .i64 a,it b,it c,it d,it f,it k] w1 0 (fun j hj=>by
   match j,hj with
   | 0,_=>exact⟨_,r0⟩
   | 1,_=>exact⟨_,r1⟩
   | 2,_=>exact⟨_,r2⟩
   | 3,_=>exact⟨_,r3⟩
   | 4,_=>exact⟨_,r4⟩
   | 5,_=>exact⟨_,r5⟩)
  rw[←Ba]at ha;have e0:=ha 0 _ rfl;have e1:=ha 1 _ rfl;have e2:=ha 2 _ rfl;have e3:=ha 3 _ rfl;have e4:=ha 4 _ rfl;have e5:=ha 5 _ rfl;unfold fP fP fP fP fP fP fP at Ba;rw[←Ba];clear ha Ba r0 r1 r2 r3 r4 r5 d0 d1 d2 d3 d4 d5 f0 f1 f2 f3 f4 f5;simp only[Nat.zero_add]at e0 e1 e2 e3 e4 e5;go_wp2;refine m7 (v:=.tuple #[.agg (c8 a b c d f k).toArray,.bool true]) (by simp[results,results172,go_sem,e0,e1,e2,e3,e4,e5]) rfl ⟨⟨a,b,c,d,f,k⟩,rfl,fun _=>rfl,HW.o.drew⟩
theorem eY(m:M.Mc)(w:World):Calls prog 105 #[da m] w fun e w'=>∃m':M.Mc,e=.returned (.tuple #[.iface 255 (da m'),.bool m.ok])∧(m.ok=true→m'=m)∧m1 w w':=by
 have C1:=ks m.X;have C2:=ks m.Y
 have HM:H9 (∀r1 r2:M.Rl,(m.X.ok=true→r1=m.X)→(m.Y.ok=true→r2=m.Y)→m.ok=true→(⟨r1,r2⟩:M.Mc)=m):=fun r1 r2 h1 h2 h=>by
  unfold M.Mc.ok at h;rw[uU]at h;rw[h1 h.1,h2 h.2]
 have HO:H9 (m.ok=(m.X.ok&&m.Y.ok)):=rfl;obtain⟨⟨a,b,c,d,f,k⟩,⟨a',b',c',d',f',k'⟩⟩:=m;dsimp only[da,iR]at C1 C2 HM HO ⊢;generalize M.Rl.ok ⟨a,b,c,d,f,k⟩=o1 at *;generalize M.Rl.ok ⟨a',b',c',d',f',k'⟩=o2 at *;generalize M.Mc.ok ⟨⟨a,b,c,d,f,k⟩,⟨a',b',c',d',f',k'⟩⟩=o at *;have hT:∀W,Below (w.alloc (.cells (co a b c d f k a' b' c' d' f' k').toArray 31)).heap.size (w.alloc (.cells (co a b c d f k a' b' c' d' f' k').toArray 31)) W→∀i,W.cell? ⟨w.heap.size,i,none⟩=#[Value.int .i64 a,it b,it c,it d,it f,it k,it a',it b',it c',it d',it f',it k'][i]?:=fun W hb i=>(hb.cell (p:=⟨w.heap.size,i,none⟩) (by simp)).trans (uF _ _ _ _);have HT:H9 _:=hT;clear hT;go_enter func105,ntmps105;(go_wp2_with fail);refine(C1 _).mono ?_;rintro e w1 ⟨⟨b1,b2,b3,b4,b5,b6⟩,rfl,Ca,Aa⟩;have hc:=HT.o _ Aa;have h6:w1.cell? ⟨w.heap.size,6,none⟩=some (it a'):=hc 6;have h7:w1.cell? ⟨w.heap.size,7,none⟩=some (it b'):=hc 7;have h8:w1.cell? ⟨w.heap.size,8,none⟩=some (it c'):=hc 8;have h9:w1.cell? ⟨w.heap.size,9,none⟩=some (it d'):=hc 9;have Ja:w1.cell? ⟨w.heap.size,10,none⟩=some (it f'):=hc 10;have Ka:w1.cell? ⟨w.heap.size,11,none⟩=some (it k'):=hc 11;have Da:=Hd (((m5 _ _).alloc (m3 _) _).trans (Aa.mono (by simp)));have La:w.heap.size<w1.heap.size:=(by have:=Aa.size;simp at this;omega);have Ea:=Hd Ca;clear hc Aa Ca;(go_wp2_with fail);refine(C2 _).mono ?_;rintro e w2 ⟨⟨d1,d2,d3,d4,d5,d6⟩,rfl,Fa,Ba⟩;have hc:∀i,w2.cell? ⟨w1.heap.size,i,none⟩=#[Value.int .i64 b1,it b2,it b3,it b4,it b5,it b6][i]?:=fun i=>(Ba.cell (p:=⟨w1.heap.size,i,none⟩) (by simp)).trans (uF _ _ _ _);have g0:w2.cell? ⟨w1.heap.size,0,none⟩=some (it b1):=hc 0;have g1:w2.cell? ⟨w1.heap.size,1,none⟩=some (it b2):=hc 1;have g2:w2.cell? ⟨w1.heap.size,2,none⟩=some (it b3):=hc 2;have g3:w2.cell? ⟨w1.heap.size,3,none⟩=some (it b4):=hc 3;have g4:w2.cell? ⟨w1.heap.size,4,none⟩=some (it b5):=hc 4;have g5:w2.cell? ⟨w1.heap.size,5,none⟩=some (it b6):=hc 5;have Ga:=Hd ((Da.o.alloc Da.o.size _).trans (Ba.mono (by simp;omega)));have Na:w1.heap.size<w2.heap.size:=(by have:=Ba.size;simp at this;omega);have Ha:=Hd Fa;have Ia:=Hd (HM.o _ _ Ea.o Ha.o);have HO':=Hd HO.o;clear hc Ba Fa HM Ea Ha h6 h7 h8 h9 Ja Ka C1 C2 HT HO
 cases o1 <;> cases o2
 all_goals
  have ho:=HO'.o;simp at ho;subst ho;go_wp2
  go_ret2
  exact⟨⟨⟨b1,b2,b3,b4,b5,b6⟩,⟨d1,d2,d3,d4,d5,d6⟩⟩,rfl,by first | exact Ia.o | exact Ia.o trivial,Ga.o.alloc Ga.o.size _⟩
theorem pe{x:Int}(h0:0≤x)(h1:x<9223372036854775808):IntKind.i64.wrap x=x:=by
 unfold IntKind.wrap;have e:x%2 ^ IntKind.i64.bits=x:=Int.emod_eq_of_lt h0 (by show x<18446744073709551616;omega);simp only[e];rw[if_neg];rw[uU,decide_eq_true_iff];rintro⟨_,h⟩;have h':x≥9223372036854775808:=h;omega
theorem gt:(prog.info? 328).map (fun i=>(i.zero,i.size,i.bytes))=some (some (.agg #[.int .i64 0,.int .i64 0]),2,16):=by kernel_rfl
theorem kU(k:Nat)(hk:k≤2000000)(w:World):(Instr.makeSlice 268 (.int .i64 0) (.int .i64 (k:Int))).run prog w=.ok (.slice (some ⟨w.heap.size,0,none⟩) 0 k) (w.alloc (.cells (madeCells #[.int .i64 0,.int .i64 0] (k*2)) 328)):=by
 obtain⟨i0,hi,Aa,Ba,Ca⟩:=info_parts gt;have h:=run_make (P:=prog) w 268 328 i0 (.agg #[it 0,it 0]) underlying268 hi Aa .i64 .i64 0 (k:Int) (by omega) (by omega) (by rw[Ca];omega) (by omega);rw[Ba]at h;simpa[Value.cells]using h
theorem rP(W:World)(g:Nat)(hg:W.heap.size=g)(x y:Value)(t:TypeId):∀ad,some (⟨g,0,none⟩:Addr)=some ad→∀j u,[x,y][j]?=some u→(W.alloc (.cells #[x,y] t)).drew.cell? (ad.add j)=some u:=by
 subst hg;intro ad Aa j u hj;simp only[Option.some.injEq]at Aa;subst Aa;exact ed W x y t j u hj
theorem rQ(W:World)(g:Nat)(hg:W.heap.size=g)(x y:Value)(t t2:TypeId)(A:Array Value):∀ad,some (⟨g,0,none⟩:Addr)=some ad→∀j u,[x,y][j]?=some u→((W.alloc (.cells #[x,y] t)).alloc (.cells A t2)).drew.cell? (ad.add j)=some u:=by
 subst hg;intro ad Aa j u hj;simp only[Option.some.injEq]at Aa;subst Aa;have e:((⟨W.heap.size,0,none⟩:Addr).add j)=⟨W.heap.size,j,none⟩:=(by unfold Addr.add;split <;> simp_all);have h:=ed W x y t j u hj;rw[e]at h ⊢;exact(World.cell?_alloc_lt (w:=W.alloc (.cells #[x,y] t)) (o:=.cells A t2) (a:=⟨W.heap.size,j,none⟩) (h:=by simp)).trans h
theorem j7(w:World)(A:Array Value)(t:TypeId)(i:Nat):(w.alloc (.cells A t)).frozen? ⟨w.heap.size,i,none⟩=false:=by
 rw[frozen?_alloc_cells];simp only[World.frozen?];rw[Array.getElem?_eq_none (by omega)]
theorem jw(m:M.Mc)(uz:Nat)(w:World):(method (uz+1) 255 (da m) "loop.example/g00319/impl.next").run prog w=.ok (330,da m) w:=by kernel_rfl
theorem oO(m:M.Mc)(s:Int×Int)(n:Nat)(w:World)(hm:m.ok=true)(hs:M.sOk s=true)(hn:n≤1000):
  Calls prog 283 #[.iface 255 (da m),cM s,.int .i64 n] w fun e w'=>∃a cap,e=.returned (.slice a (n+1) cap)∧bf 328 w' w.heap.size a (n+1) cap (m.run s n)∧m1 w w':=by
 have HM:=Hd hm;have HS:=Hd hs;have La:=kU (n+1) (by omega);have e1:IntKind.i64.wrap ((n:Int)+1)=((n+1:Nat):Int):=pe (by omega) (by omega);rw[←e1]at La;obtain⟨i0,hi,Na,Oa,Pa⟩:=info_parts gt;have HI:H9 (prog.info? 328=some i0∧i0.zero=some (.agg #[it 0,it 0])∧i0.size=2∧i0.bytes=16):=⟨hi,Na,Oa,Pa⟩;have Ab:H9 (m.run s 0=[s]):=rfl;clear hm hs hi Na Oa Pa e1;obtain⟨x,y⟩:=s;dsimp only[cM]
 have Bb:H9 (World.ownsRow (((w.alloc (.cells #[it x,it y] 328)).alloc (.cells (madeCells #[it 0,it 0] ((n+1)*2)) 328)).alloc (.cells #[it x,it y] 328)).drew (w.heap.size+1) 328 2 (.slice (some ⟨w.heap.size+1,0,none⟩) 0 (n+1)) 0 []):=by
  have h:=World.ownsRow_made (base:=w.heap.size+1) (e:=328) (size:=2) (w.alloc (.cells #[it x,it y] 328)) (madeCells #[it 0,it 0] ((n+1)*2)) (n+1) (by simp) (by unfold maxLen;omega) (by simp[size_madeCells]);have h2:=World.ownsRow.drew (vg h (.cells #[it x,it y] 328));show World.ownsRow _ _ _ _ _ _ _;simpa using h2
 have Cb:H9 (World.ownsRow (((w.alloc (.cells #[it x,it y] 328)).alloc (.cells #[it x,it y] 328)).alloc (.cells (madeCells #[it 0,it 0] ((n+1)*2)) 328)).drew (w.heap.size+1) 328 2 (.slice (some ⟨w.heap.size+1+1,0,none⟩) 0 (n+1)) 0 []):=by
  have h:=World.ownsRow_made (base:=w.heap.size+1) (e:=328) (size:=2) ((w.alloc (.cells #[it x,it y] 328)).alloc (.cells #[it x,it y] 328)) (madeCells #[it 0,it 0] ((n+1)*2)) (n+1) (by simp) (by unfold maxLen;omega) (by simp[size_madeCells]);have h2:=World.ownsRow.drew h;show World.ownsRow _ _ _ _ _ _ _;simpa using h2
 have Db:H9 (∀ad,some (⟨w.heap.size+1+1,0,none⟩:Addr)=some ad→∀j u,[Value.int .i64 x,it y][j]?=some u→(((w.alloc (.cells #[it x,it y] 328)).alloc (.cells (madeCells #[it 0,it 0] ((n+1)*2)) 328)).alloc (.cells #[it x,it y] 328)).drew.cell? (ad.add j)=some u):=rP _ _ (by simp) _ _ _;have Eb:H9 (∀ad,some (⟨w.heap.size+1,0,none⟩:Addr)=some ad→∀j u,[Value.int .i64 x,it y][j]?=some u→(((w.alloc (.cells #[it x,it y] 328)).alloc (.cells #[it x,it y] 328)).alloc (.cells (madeCells #[it 0,it 0] ((n+1)*2)) 328)).drew.cell? (ad.add j)=some u):=rQ _ _ (by simp) _ _ _ _ _;go_enter func283,ntmps283;go_wp2
 go_region_law (first
  | (refine cZ rfl (.tmp 10) (.tmp 12) 268 268 rfl (w.heap.size+1) 328 i0 2 underlying268 underlying268 HI.o.1 HI.o.2.2.1 (w.heap.size+1) 0 (n+1) [] (by simp[Act.eval]) Bb.o (some ⟨w.heap.size+1+1,0,none⟩) 1 1 [it x,it y] (by simp[Act.eval]) rfl (fun h=>by cases h) Db.o (eh _ _) (by omega) ?_;intro w1 Ea Ca)
  | (refine cZ rfl (.tmp 10) (.tmp 12) 268 268 rfl (w.heap.size+1) 328 i0 2 underlying268 underlying268 HI.o.1 HI.o.2.2.1 (w.heap.size+1+1) 0 (n+1) [] (by simp[Act.eval]) Cb.o (some ⟨w.heap.size+1,0,none⟩) 1 1 [it x,it y] (by simp[Act.eval]) rfl (fun h=>by cases h) Eb.o (eh _ _) (by omega) ?_;intro w1 Ea Ca))
 all_goals
  have Da:=Hd ((((m5 (w.heap.size+1) (w.alloc (.cells #[it x,it y] 328))).alloc (by simp) _).alloc (by simp) _).drew.grown Ca (by simp) (fun j hj=>by simp at hj;omega));have Fb:H9 (w.heap.size<w1.heap.size):=(by have:=Da.o.size;simp at this;exact this);have HB:=Hd (((m5 w.heap.size w).alloc (m3 _) _).trans (Da.o.mono (by omega)));obtain⟨aa,ca,Qa,ho⟩:=bf.form (ps:=m.run (x,y) 0) rfl (by rw[Ab.o];exact Ea);simp only[Value.slice.injEq]at Qa;obtain⟨rfl,-,rfl⟩:=Qa;have HO:H9 (bf 328 w1 (w.heap.size+1) _ 1 (n+1) (m.run (x,y) 0)):=ho
  have Ra:H9 (w1.cell? ⟨w.heap.size,0,none⟩=some (it x)∧w1.cell? ⟨w.heap.size,1,none⟩=some (it y)∧w1.frozen? ⟨w.heap.size,0,none⟩=false∧w1.frozen? ⟨w.heap.size,1,none⟩=false):=
   ⟨(Da.o.cell (p:=⟨w.heap.size,0,none⟩) (by simp)).trans (uF _ _ _ _),(Da.o.cell (p:=⟨w.heap.size,1,none⟩) (by simp)).trans (uF _ _ _ _),(bu Da.o (by simp)).trans (j7 _ _ _ _),(bu Da.o (by simp)).trans (j7 _ _ _ _)⟩
  clear Ea Ca ho Da La;go_wp2
  go_loopw [7,15] (fun s i wr=>∃(k:Nat) (a':Option Addr) (Fa:Nat),k≤n∧i=it k∧s=.slice a' (k+1) Fa∧bf 328 wr (w.heap.size+1) a' (k+1) Fa (m.run (x,y) k)∧m1 w wr∧w.heap.size<wr.heap.size∧(wr.cell? ⟨w.heap.size,0,none⟩=some (it (m.rn (x,y) k).1)∧wr.cell? ⟨w.heap.size,1,none⟩=some (it (m.rn (x,y) k).2)∧wr.frozen? ⟨w.heap.size,0,none⟩=false∧wr.frozen? ⟨w.heap.size,1,none⟩=false)) (fun _ i _=>n-(intOf i).toNat)
  case atStart=>exact⟨0,_,_,by omega,rfl,rfl,HO.o,HB.o,Fb.o,Ra.o⟩
  case round=>
   obtain⟨k,a',Fa,hk,rfl,rfl,Sa,Ta,Ua,c0,c1,f0,f1⟩:=hrel;have Ja:=Hd Sa;have Ia:=Hd Ta;have Ga:=Hd Ua;clear Sa Ta HO HB Ra Ua;by_cases Nb:k<n
   ·
    have hI:(k:Int)<(n:Int):=(by omega);have Va:=Hd (M.sOk_rn m HS.o k);have HR:H9 (m.run (x,y) k++[m.nx (m.rn (x,y) k)]=m.run (x,y) (k+1)):=M.run_snoc m (x,y) k;have HN:H9 (m.nx (m.rn (x,y) k)=m.rn (x,y) (k+1)):=rfl;generalize m.rn (x,y) k=q at c0 c1 Va HR HN;obtain⟨u,v⟩:=q;dsimp only at c0 c1;have Ob:=jw m;(go_wp2_with fail);refine(lL m (u,v) wr HM.o Va.o).mono ?_;rintro e w2 ⟨rfl,Aa⟩;generalize m.nx (u,v)=q at HR HN;obtain⟨u2,v2⟩:=q;have c2:=(Aa.cell (p:=⟨w.heap.size,0,none⟩) Ga.o).trans c0;have c3:=(Aa.cell (p:=⟨w.heap.size,1,none⟩) Ga.o).trans c1;have f2:=(bu Aa Ga.o).trans f0;have f3:=(bu Aa Ga.o).trans f1;obtain⟨w3,Ba⟩:∃w3,w3=fP w2 w.heap.size 0 [it u2,it v2]:=⟨_,rfl⟩
    have ha:=mK w.heap.size [Value.int .i64 u2,it v2] w2 0 (fun j hj=>by
     match j,hj with
     | 0,_=>exact⟨_,c2⟩
     | 1,_=>exact⟨_,c3⟩)
    rw[←Ba]at ha;have d0:w3.cell? ⟨w.heap.size,0,none⟩=some (it u2):=(by simpa using ha 0 _ rfl);have d1:w3.cell? ⟨w.heap.size,1,none⟩=some (it v2):=(by simpa using ha 1 _ rfl);have g0:w3.frozen? ⟨w.heap.size,0,none⟩=false:=(by rw[Ba,eT];exact f2);have g1:w3.frozen? ⟨w.heap.size,1,none⟩=false:=(by rw[Ba,eT];exact f3);have Wa:H9 (w.heap.size<w3.heap.size):=by show _<_;rw[Ba,i9];exact uL Ga.o Aa.size
    have Xa:H9 (bf 328 w3 (w.heap.size+1) a' (k+1) Fa (m.run (x,y) k)):=by
     show bf _ _ _ _ _ _ _;rw[Ba];exact bf.sets (by omega) _ _ _ (Ja.o.below Aa)
    have Ya:H9 (m1 w w3):=by
     show Below _ _ _;rw[Ba];exact fJ (m3 _) _ _ _ (Ia.o.trans (Aa.mono Ia.o.size))
    have Gb:=Hd Ba.symm;clear ha Ba Aa Ja Ia c0 c1 f0 f1;have Pb:=Wa.o;go_wp2_with(first | (rw[show(w2.setCell ⟨w.heap.size,0,none⟩ (it u2)).setCell ⟨w.heap.size,1,none⟩ (it v2)=w3 from Gb.o]) | (at_builtin;refine wpList_append_own _ rfl _ _ 268 rfl (w.heap.size+1) 328 i0 (.agg #[it 0,it 0]) 2 16 underlying268 HI.o.1 HI.o.2.1 HI.o.2.2.1 HI.o.2.2.2 rfl (by decide) _ (k+1) (lH (m.run (x,y) k)) rfl (vg Xa.o.2 _) ⟨w3.heap.size,0,none⟩ 1 1 [it u2,it v2] rfl rfl (ed w3 _ _ _) (eh _ _) (by unfold maxLen;omega) (by omega) (by simp;omega) ?_))
    intro v' w4 Ea Ca _;have hown':w4.ownsRow (w.heap.size+1) 328 2 v' (k+1+1) (lH (m.run (x,y) (k+1))):=(by rw[←HR.o,←iP];exact Ea);obtain⟨b4,c4,rfl,Za⟩:=bf.form (M.run_len m (x,y) (k+1)) hown';have Hb:=Hd Za;have Ka:=Xa.o.row;have Ib:=Hd ((Ya.o.alloc Ya.o.size _).grown Ca (by simp;omega) (fun q hq=>by have:=Ka q hq;omega));have Ha:=Hd (((m5 _ _).alloc (by omega) _).grown Ca (by simp;omega) Ka)
    have Jb:H9 (w4.cell? ⟨w.heap.size,0,none⟩=some (it (m.rn (x,y) (k+1)).1)∧w4.cell? ⟨w.heap.size,1,none⟩=some (it (m.rn (x,y) (k+1)).2)∧w4.frozen? ⟨w.heap.size,0,none⟩=false∧w4.frozen? ⟨w.heap.size,1,none⟩=false):=by
     show _∧_;rw[←HN.o];exact⟨(Ha.o.cell (p:=⟨w.heap.size,0,none⟩) (by simp)).trans d0,(Ha.o.cell (p:=⟨w.heap.size,1,none⟩) (by simp)).trans d1,(bu Ha.o (by simp)).trans g0,(bu Ha.o (by simp)).trans g1⟩
    have Kb:=Hd (uL Wa.o Ha.o.size);clear Ea hown' Ca Za Ka d0 d1 g0 g1;go_wp2;go_roundw
    case rel=>exact⟨k+1,b4,c4,by omega,by go_num,rfl,Hb.o,Ib.o,Kb.o,Jb.o⟩
    case measure=>simp[intOf];omega
   ·
    have Lb:k=n:=(by omega);subst Lb;go_wp2;go_ret;exact⟨a',Fa,rfl,Ja.o.mono (by omega),Ia.o⟩
def bE(m:M.Mc)(s:Int×Int)(n:Int):Bool:=m.ok&&(M.sOk s&&(decide (0≤n)&&decide (n≤1000)))
theorem dL{n:Int}(h:bE m s n=true):m.ok=true∧M.sOk s=true∧0≤n∧n≤1000:=by
 unfold bE at h;simpa using h
theorem jX{n:Int}(h1:m.ok=true)(h2:M.sOk s=true)(h3:0≤n)(h4:n≤1000):bE m s n=true:=by
 unfold bE;rw[h1,h2,decide_eq_true h3,decide_eq_true h4];rfl
theorem pK{n:Int}(h:bE m s n=false):m.ok=false∨(m.ok=true∧M.sOk s=false)∨(m.ok=true∧M.sOk s=true∧n<0)∨(m.ok=true∧M.sOk s=true∧¬ n<0∧1000<n):=by
 cases h1:m.ok with
 | false=>exact .inl rfl
 | true=>
  cases h2:M.sOk s with
  | false=>exact .inr (.inl ⟨rfl,rfl⟩)
  | true=>
   by_cases h3:n<0
   ·exact .inr (.inr (.inl ⟨rfl,rfl,h3⟩))
   ·
    by_cases h4:1000<n
    ·exact .inr (.inr (.inr ⟨rfl,rfl,h3,h4⟩))
    ·rw[jX h1 h2 (by omega) (by omega)]at h;cases h
theorem j4(m:M.Mc)(s:Int×Int)(n:Int)(w:World):Calls prog 267 #[da m,cM s,.int .i64 n] w fun e w'=>(bE m s n=true→∃a cap,e=.returned (.tuple #[.slice a (n.toNat+1) cap,.bool true])∧bf 328 w' w.heap.size a (n.toNat+1) cap (m.run s n.toNat))∧(bE m s n=false→e=.returned (.tuple #[.slice none 0 0,.bool false]))∧m1 w w':=by
 have C1:=eY m;have C2:=gV s;have HR:=Hd (fun N hN hm hs w=>oO m s N w hm hs hN)
 have HT:H9 (∀W,Below ((w.alloc (.cells (da m).cells 31)).alloc (.cells #[it s.1,it s.2] 33)).heap.size ((w.alloc (.cells (da m).cells 31)).alloc (.cells #[it s.1,it s.2] 33)) W→W.cell? ⟨w.heap.size+1,0,none⟩=some (it s.1)∧W.cell? ⟨w.heap.size+1,1,none⟩=some (it s.2)):=fun W hW=>by
  have e:(w.alloc (.cells (da m).cells 31)).heap.size=w.heap.size+1:=(by simp);have h:=fun i=>uF (w.alloc (.cells (da m).cells 31)) #[it s.1,it s.2] 33 i;rw[e]at h;exact⟨(hW.cell (p:=⟨w.heap.size+1,0,none⟩) (by simp)).trans (h 0),(hW.cell (p:=⟨w.heap.size+1,1,none⟩) (by simp)).trans (h 1)⟩
 have ec:(da m).cells=(co m.X.xx m.X.xy m.X.yy m.X.x m.X.y m.X.k m.Y.xx m.Y.xy m.Y.yy m.Y.x m.Y.y m.Y.k).toArray:=rfl;rw[ec]at HT;clear ec
 cases hok:bE m s n with
 | false=>
  have Ga:=pK hok;clear hok HR;obtain⟨⟨a,b,c,d,f,k⟩,⟨a',b',c',d',f',k'⟩⟩:=m;obtain⟨x,y⟩:=s;dsimp only[da,cM]at C1 C2 HT ⊢;generalize M.Mc.ok ⟨⟨a,b,c,d,f,k⟩,⟨a',b',c',d',f',k'⟩⟩=o1 at C1 Ga;generalize M.sOk (x,y)=o2 at C2 Ga
  rcases Ga with rfl | ⟨rfl,rfl⟩ | ⟨rfl,rfl,h3⟩ | ⟨rfl,rfl,h3,h4⟩
  all_goals
   go_enter func267,ntmps267;(go_wp2_with fail);refine(C1 _).mono ?_;rintro e w1 ⟨m',rfl,Da,Ba⟩;obtain⟨t0,t1⟩:=HT.o _ Ba;have Ea:=Hd ((((m5 _ _).alloc (m3 _) _).alloc (by simp) _).trans (Ba.mono (by simp;omega)));have Ja:H9 _:=Da;clear Ba Da;(go_wp2_with fail);refine(C2 _).mono ?_;rintro e w2 ⟨⟨p1,p2⟩,rfl,Ha,Aa,Fa⟩;have Ca:=Ea.t Fa;have Ka:H9 _:=Aa;clear Fa Aa Ha;go_wp2
   go_ret2
   exact⟨fun h=>by simp at h,fun _=>rfl,Ca.o.alloc Ca.o.size _⟩
 | true=>
  obtain⟨hm,hs,h3,h4⟩:=dL hok;obtain⟨N,rfl⟩:=Int.eq_ofNat_of_zero_le h3;have hN:N≤1000:=(by omega);have Ia:=Hd (HR.o N hN hm hs);rw[hm]at C1;rw[hs]at C2;clear hok HR hm hs h3 h4;generalize La:m.run s N=rn at Ia;have Pa:H9 (m.run s (Int.toNat N)=rn):=La;have HL:=Hd (u' N);clear La;obtain⟨⟨a,b,c,d,f,k⟩,⟨a',b',c',d',f',k'⟩⟩:=m;obtain⟨x,y⟩:=s;dsimp only[da,cM]at C1 C2 HT Ia ⊢;go_enter func267,ntmps267;(go_wp2_with fail);refine(C1 _).mono ?_;rintro e w1 ⟨m',rfl,Da,Ba⟩;obtain⟨t0,t1⟩:=HT.o _ Ba;have Ea:=Hd ((((m5 _ _).alloc (m3 _) _).alloc (by simp) _).trans (Ba.mono (by simp;omega)));have Ja:H9 _:=Da;clear Ba Da;(go_wp2_with fail);refine(C2 _).mono ?_;rintro e w2 ⟨⟨p1,p2⟩,rfl,Ha,Aa,Fa⟩;have Ca:=Ea.t Fa;have Ka:H9 _:=Aa;clear Fa Aa Ha;obtain rfl:=Ja.o trivial;have Aa:=Ka.o trivial;simp only[Prod.mk.injEq]at Aa;obtain⟨rfl,rfl⟩:=Aa;have Sa:¬ (N:Int)<0:=(by omega);have Ta:¬ 1000<(N:Int):=(by omega);(go_wp2_with fail);refine(Ia.o _).mono ?_;rintro e w3 ⟨ra,rc,rfl,Na,Oa⟩;have Qa:=Hd ((Ca.o.alloc Ca.o.size _).trans (Oa.mono (by have:=Ca.o.size;simp;omega)));have Ra:H9 (bf 328 w3 w.heap.size ra (N+1) rc rn):=Na.mono (by have:=Ca.o.size;simp;omega);clear Na Oa;go_wp2
  go_ret2
  refine⟨fun _=>⟨ra,rc,rfl,?_⟩,fun h=>by simp at h,Qa.o⟩;rw[Pa.o,HL.o];exact Ra.o
def ei(m:M.Mc)(s:Int×Int)(n:Int):Int×Int:=if bE m s n=true then m.rn s n.toNat else(0,0)
theorem mX{n:Int}(h:bE m s n=true):ei m s n=m.rn s n.toNat:=if_pos h
theorem li{n:Int}(h:bE m s n=false):ei m s n=(0,0):=if_neg (by rw[h];decide)
def gY(m:M.Mc)(s:Int×Int)(n:Int):List (Int×Int):=if bE m s n=true then m.run s n.toNat else[]
theorem gk{n:Int}(h:bE m s n=true):gY m s n=m.run s n.toNat:=if_pos h
theorem pN{n:Int}(h:bE m s n=false):gY m s n=[]:=if_neg (by rw[h];decide)
theorem qP(t:TypeId)(w:World)(i':Nat):bf t w i' none 0 0 []:=⟨rfl,rfl,.inl ⟨rfl,rfl⟩⟩
theorem len0{n:Int}(h:bE m s n=true):(gY m s n).length=n.toNat+1:=by rw[gk h,M.run_len]
theorem kJ(m:M.Mc)(s:Int×Int)(n:Int)(w:World):Rt 207 #[da m,cM s,.int .i64 n] w (.tuple #[cM (ei m s n),.bool (bE m s n)]):=by
 have C1:=j4 m s n
 have HT:H9 (∀W,Below (((w.alloc (.cells (co m.X.xx m.X.xy m.X.yy m.X.x m.X.y m.X.k m.Y.xx m.Y.xy m.Y.yy m.Y.x m.Y.y m.Y.k).toArray 31)).alloc (.cells #[it s.1,it s.2] 33)).alloc (.cells #[it 0,it 0] 33)).heap.size (((w.alloc (.cells (co m.X.xx m.X.xy m.X.yy m.X.x m.X.y m.X.k m.Y.xx m.Y.xy m.Y.yy m.Y.x m.Y.y m.Y.k).toArray 31)).alloc (.cells #[it s.1,it s.2] 33)).alloc (.cells #[it 0,it 0] 33)) W→W.cell? ⟨w.heap.size+1+1,0,none⟩=some (it 0)∧W.cell? ⟨w.heap.size+1+1,1,none⟩=some (it 0)∧W.frozen? ⟨w.heap.size+1+1,0,none⟩=false∧W.frozen? ⟨w.heap.size+1+1,1,none⟩=false):=fun W hW=>
  ⟨(hW.cell (p:=⟨w.heap.size+1+1,0,none⟩) (by simp)).trans (aW w _ _ _ _ _ _ 0).2.2.1,(hW.cell (p:=⟨w.heap.size+1+1,1,none⟩) (by simp)).trans (aW w _ _ _ _ _ _ 1).2.2.1,(bu hW (show w.heap.size+1+1<_ by simp)).trans (aW w _ _ _ _ _ _ 0).2.2.2,(bu hW (show w.heap.size+1+1<_ by simp)).trans (aW w _ _ _ _ _ _ 1).2.2.2⟩
 cases hok:bE m s n with
 | false=>
  rw[li hok];rw[hok]at C1;obtain⟨⟨a,b,c,d,f,k⟩,⟨a',b',c',d',f',k'⟩⟩:=m;obtain⟨x,y⟩:=s;dsimp only[da,cM]at C1 HT ⊢;clear hok;go_enter func207,ntmps207;(go_wp2_with fail);refine(C1 _).mono ?_;rintro e w1 ⟨-,he,Aa⟩;obtain rfl:=he trivial;have Ba:=Hd (((((m5 _ _).alloc (m3 _) _).alloc (by simp) _).alloc (by simp;omega) _).trans (Aa.mono (by simp;omega)));obtain⟨t0,t1,t2,t3⟩:=HT.o _ Aa;clear Aa he;go_wp2;refine m7 (v:=.tuple #[.agg #[it 0,it 0],.bool false]) (by simp[results,results207,go_sem,t0,t1]) rfl ⟨rfl,?_⟩;exact(Ba.o.setCell (by show w.heap.size≤w.heap.size+1+1;omega) _).setCell (by show w.heap.size≤w.heap.size+1+1;omega) _
 | true=>
  obtain⟨hm,hs,h3,h4⟩:=dL hok;rw[mX hok];rw[hok]at C1;have HG:H9 ((m.run s n.toNat).getD n.toNat (0,0)=m.rn s n.toNat):=M.run_get m s _ _ (m3 _);have hN:n.toNat≤1000:=(by omega);have CS:=je (m.rn s n.toNat);generalize m.run s n.toNat=rn at C1 HG;generalize m.rn s n.toNat=q at *;generalize n.toNat=N at C1 HG hN;obtain⟨⟨a,b,c,d,f,k⟩,⟨a',b',c',d',f',k'⟩⟩:=m;obtain⟨x,y⟩:=s;obtain⟨u,v⟩:=q;dsimp only[da,cM]at C1 HT CS ⊢;clear hok hm hs h3 h4;go_enter func207,ntmps207;(go_wp2_with fail);refine(C1 _).mono ?_;rintro e w1 ⟨he,-,Aa⟩;obtain⟨ra,rc,rfl,Da⟩:=he trivial;have Ba:=Hd (((((m5 _ _).alloc (m3 _) _).alloc (by simp) _).alloc (by simp;omega) _).trans (Aa.mono (by simp;omega)));have HB1':H9 (Below _ _ w1):=Aa;obtain⟨g,rfl,-,Fa,Ga,hc⟩:=Da.block (by omega);obtain⟨e1,e2⟩:=hc N (by omega);rw[HG.o]at e1 e2;have Ha:((N+1:Nat):Int)≤rc:=(by omega);clear Aa he Da hc;dsimp only at e1 e2;(go_wp2_with fail);refine(CS _).mono ?_;rintro e w2 ⟨rfl,Ca⟩;have Ea:=Ba.t Ca;obtain⟨t0,t1,t2,t3⟩:=HT.o _ (HB1'.o.trans (Ca.mono HB1'.o.size));clear Ca HB1';go_wp2;refine m7 (v:=.tuple #[.agg #[it u,it v],.bool true]) (by simp[results,results207,go_sem,t0,t1]) rfl ⟨rfl,?_⟩;exact(Ea.o.setCell (by show w.heap.size≤w.heap.size+1+1;omega) _).setCell (by show w.heap.size≤w.heap.size+1+1;omega) _
theorem eM(m:M.Mc)(w:World):Rt 187 #[da m] w (.bool m.ok):=by
 have C1:=eY m;generalize m.ok=o at *;obtain⟨⟨a,b,c,d,f,k⟩,⟨a',b',c',d',f',k'⟩⟩:=m;dsimp only[da]at C1 ⊢;go_enter func187,ntmps187;(go_wp2_with fail);refine(C1 _).mono ?_;rintro e w1 ⟨m',rfl,-,Aa⟩;have Ba:=Hd (((m5 _ _).alloc (m3 _) _).trans (Aa.mono (by simp)));clear Aa;go_wp2;go_ret;exact⟨rfl,Ba.o⟩
theorem du(s:Int×Int)(w:World):Rt 188 #[cM s] w (.bool (M.sOk s)):=by
 have C1:=gV s;generalize M.sOk s=o at *;obtain⟨x,y⟩:=s;dsimp only[cM]at C1 ⊢;go_enter func188,ntmps188;(go_wp2_with fail);refine(C1 _).mono ?_;rintro e w1 ⟨⟨p,q⟩,rfl,-,-,Ba⟩;have Aa:=Hd (((m5 _ _).alloc (m3 _) _).trans (Ba.mono (by simp)));clear Ba;go_wp2;go_ret;exact⟨rfl,by first | exact Aa.o | exact Aa.o.alloc Aa.o.size _⟩
theorem jf{ops:Array Oper}{a:Act}{E:Prop}
 (hg:o.guard=none)(s x:Operand)(t:TypeId)(hop:o.op=Op.call {callee:=Callee.builtin Builtin.append,args:=#[s,x],argTypes:=#[t,t]})
 (i':Nat)(e:TypeId)(i:TypeInfo)(z:Value)(size bytes:Nat)(ht:P.underlying t=some (.slice e))(hi:P.info? e=some i)(hz:i.zero=some z)(hsize:i.size=size)(hby:i.bytes=bytes)(hzs:z.cells.size=size)(hsz:0<size)
 (v:Value)(n:Nat)(xs:List Value)(hs:a.eval s=v)(hown:w.ownsRow i' e size v n xs)(ad:Addr)(m c:Nat)(news:List Value)(hx:a.eval x=.slice (some ad) m c)(hl:news.length=m*size)(hnews:∀j u,news[j]?=some u→w.cell? (ad.add j)=some u)(h1:∀u∈news,u.oneCell'=true)
 (h63:n+m≤maxLen)(hbytes:(n+m)*bytes≤140737488355328)(uy:i'≤w.heap.size)
 (hK:∀v' w',w'.ownsRow i' e size v' (n+m) (xs++news)→w.grownBy w' v.ownBlock→K (a.put o.dst v') w'):
  if Region.wanted o (yielded ops a.tmps)=true then Oper.wp P o a w K Q else E:=by
 have hw:Region.wanted o (yielded ops a.tmps)=true:=(by simp[Region.wanted,hg]);rw[if_pos hw];obtain⟨v',w',Aa,r1,r2,_,_⟩:=run_append_own_at (P:=P) w i' t o.type e i z size bytes ht hi hz hsize hby hzs hsz v n xs hown ad m c news hl hnews h1 h63 hbytes uy;unfold Oper.wp;simp[execOp,hop,resolve,invoke,builtin,hs,hx,Aa,Result.andThen];exact hK v' w' r1 r2
theorem ot:(prog.info? 33).map (fun i=>(i.zero,i.size,i.bytes))=some (some (.agg #[.int .i64 0,.int .i64 0]),2,16):=by kernel_rfl
theorem sR(n:Int)(w:World):Rq 58 #[.int .i64 n,.int .i64 0,.int .i64 1000] w (.bool (decide (0≤n)&&decide (n≤1000))):=by
 by_cases h0:0≤n
 ·
  by_cases h1:n≤1000
  ·
   rw[decide_eq_true h0,decide_eq_true h1];go_enter func58,ntmps58;go_wp2;go_ret;exact⟨rfl,rfl⟩
  ·
   rw[decide_eq_true h0,decide_eq_false h1];go_enter func58,ntmps58;go_wp2;go_ret;exact⟨rfl,rfl⟩
 ·
  rw[decide_eq_false h0];go_enter func58,ntmps58;go_wp2;go_ret;exact⟨rfl,rfl⟩
theorem oH(w:World)(i':Nat)(hb:i'≤w.heap.size)(x y:Int):bf t (w.alloc (.cells #[.int .i64 x,.int .i64 y] t)) i' (some ⟨w.heap.size,0,none⟩) 1 1 [(x,y)]:=by
 refine⟨rfl,rfl,.inr ⟨w.heap.size,1,#[it x,it y],rfl,hb,?_,m3 _,by unfold maxLen;omega,rfl,rfl⟩⟩;show(w.heap.push _)[w.heap.size]?=_;simp
set_option maxRecDepth 10000 in
theorem gU(m:M.Mc)(s:Int×Int)(n:Int)(w:World):Calls prog 123 #[da m,cM s,.int .i64 n] w fun e w'=>∃a l cap,e=.returned (.tuple #[.slice a l cap,.bool (bE m s n)])∧l≤1001∧bf 33 w' w.heap.size a l cap (gY m s n)∧m1 w w':=by
 have C1:=bA m;have C2:=b9 s;have C3:=sR n
 have HT:H9 (∀W,Below ((w.alloc (.cells (co m.X.xx m.X.xy m.X.yy m.X.x m.X.y m.X.k m.Y.xx m.Y.xy m.Y.yy m.Y.x m.Y.y m.Y.k).toArray 31)).alloc (.cells #[it s.1,it s.2] 33)).heap.size ((w.alloc (.cells (co m.X.xx m.X.xy m.X.yy m.X.x m.X.y m.X.k m.Y.xx m.Y.xy m.Y.yy m.Y.x m.Y.y m.Y.k).toArray 31)).alloc (.cells #[it s.1,it s.2] 33)) W→W.cell? ⟨w.heap.size,0,none⟩=some (it m.X.xx)∧W.cell? ⟨w.heap.size,1,none⟩=some (it m.X.xy)∧W.cell? ⟨w.heap.size,2,none⟩=some (it m.X.yy)∧W.cell? ⟨w.heap.size,3,none⟩=some (it m.X.x)∧W.cell? ⟨w.heap.size,4,none⟩=some (it m.X.y)∧W.cell? ⟨w.heap.size,5,none⟩=some (it m.X.k)∧W.cell? ⟨w.heap.size,6,none⟩=some (it m.Y.xx)∧W.cell? ⟨w.heap.size,7,none⟩=some (it m.Y.xy)∧W.cell? ⟨w.heap.size,8,none⟩=some (it m.Y.yy)∧W.cell? ⟨w.heap.size,9,none⟩=some (it m.Y.x)∧W.cell? ⟨w.heap.size,10,none⟩=some (it m.Y.y)∧W.cell? ⟨w.heap.size,11,none⟩=some (it m.Y.k)∧W.cell? ⟨w.heap.size+1,0,none⟩=some (it s.1)∧W.cell? ⟨w.heap.size+1,1,none⟩=some (it s.2)):=fun W hW=>by
  have e1:(w.alloc (.cells (co m.X.xx m.X.xy m.X.yy m.X.x m.X.y m.X.k m.Y.xx m.Y.xy m.Y.yy m.Y.x m.Y.y m.Y.k).toArray 31)).heap.size=w.heap.size+1:=(by simp);have h1:=fun i=>uF (w.alloc (.cells (co m.X.xx m.X.xy m.X.yy m.X.x m.X.y m.X.k m.Y.xx m.Y.xy m.Y.yy m.Y.x m.Y.y m.Y.k).toArray 31)) #[it s.1,it s.2] 33 i;rw[e1]at h1;have h0:=fun i=>(World.cell?_alloc_lt (w:=w.alloc (.cells (co m.X.xx m.X.xy m.X.yy m.X.x m.X.y m.X.k m.Y.xx m.Y.xy m.Y.yy m.Y.x m.Y.y m.Y.k).toArray 31)) (o:=.cells #[it s.1,it s.2] 33) (a:=⟨w.heap.size,i,none⟩) (h:=by simp)).trans (uF w (co m.X.xx m.X.xy m.X.yy m.X.x m.X.y m.X.k m.Y.xx m.Y.xy m.Y.yy m.Y.x m.Y.y m.Y.k).toArray 31 i);exact⟨(hW.cell (p:=⟨w.heap.size,0,none⟩) (by simp;omega)).trans (h0 0),(hW.cell (p:=⟨w.heap.size,1,none⟩) (by simp;omega)).trans (h0 1),(hW.cell (p:=⟨w.heap.size,2,none⟩) (by simp;omega)).trans (h0 2),(hW.cell (p:=⟨w.heap.size,3,none⟩) (by simp;omega)).trans (h0 3),(hW.cell (p:=⟨w.heap.size,4,none⟩) (by simp;omega)).trans (h0 4),(hW.cell (p:=⟨w.heap.size,5,none⟩) (by simp;omega)).trans (h0 5),(hW.cell (p:=⟨w.heap.size,6,none⟩) (by simp;omega)).trans (h0 6),(hW.cell (p:=⟨w.heap.size,7,none⟩) (by simp;omega)).trans (h0 7),(hW.cell (p:=⟨w.heap.size,8,none⟩) (by simp;omega)).trans (h0 8),(hW.cell (p:=⟨w.heap.size,9,none⟩) (by simp;omega)).trans (h0 9),(hW.cell (p:=⟨w.heap.size,10,none⟩) (by simp;omega)).trans (h0 10),(hW.cell (p:=⟨w.heap.size,11,none⟩) (by simp;omega)).trans (h0 11),(hW.cell (p:=⟨w.heap.size+1,0,none⟩) (by simp)).trans (h1 0),(hW.cell (p:=⟨w.heap.size+1,1,none⟩) (by simp)).trans (h1 1)⟩
 cases hok:bE m s n with
 | false=>
  have HV:=Hd (pN hok)
  have Ga:m.ok=false∨(m.ok=true∧M.sOk s=false)∨(m.ok=true∧M.sOk s=true∧(decide (0≤n)&&decide (n≤1000))=false):=by
   unfold bE at hok
   cases h1:m.ok <;> cases h2:M.sOk s <;> simp_all
  clear hok;generalize m.ok=o1 at C1 Ga;generalize M.sOk s=o2 at C2 Ga;generalize(decide (0≤n)&&decide (n≤1000))=o3 at C3 Ga;obtain⟨⟨a,b,c,d,f,k⟩,⟨a',b',c',d',f',k'⟩⟩:=m;obtain⟨x,y⟩:=s;dsimp only[da,cM]at C1 C2 HT ⊢
  rcases Ga with rfl | ⟨rfl,rfl⟩ | ⟨rfl,rfl,rfl⟩
  all_goals
   go_enter func123,ntmps123;(go_wp2_with fail);refine(C1 _).mono ?_;rintro e w1 ⟨rfl,Ca⟩;obtain⟨q0,q1,q2,q3,q4,q5,q6,q7,q8,q9,Pa,Qa,Ra,Sa⟩:=HT.o _ Ca;have Ba:=Hd ((((m5 _ _).alloc (m3 _) _).alloc (by simp) _).trans (Ca.mono (by simp;omega)));clear Ca
   try (
    (go_wp2_with fail);refine(C2 _).mono ?_;rintro e w2 ⟨rfl,Da⟩
    replace Ba:H9 (m1 w w2):=Ba.o.trans (Da.mono Ba.o.size)
    clear Da)
   try (
    (go_wp2_with fail);refine(C3 _).mono ?_;rintro e w3 ⟨rfl,rfl⟩)
   go_wp2
   go_ret2
   exact⟨none,0,0,rfl,by omega,by rw[HV.o];exact qP _ _ _,Ba.o⟩
 | true=>
  obtain⟨hm,hs,h3,h4⟩:=dL hok;have HV:=Hd (gk hok);rw[hm]at C1;rw[hs]at C2;rw[decide_eq_true h3,decide_eq_true h4]at C3;obtain⟨N,rfl⟩:=Int.eq_ofNat_of_zero_le h3;have hN:N≤1000:=(by omega);have HL:=Hd (u' N);have HM:=Hd hm;have HS:=Hd hs;have Ta:H9 (∃m0,m0=m):=⟨_,rfl⟩;obtain⟨m0,Ka⟩:=Ta.o;have Ua:H9 (∃s0,s0=s):=⟨_,rfl⟩;obtain⟨s0,Ha⟩:=Ua.o;have CN:H9 (∀(q:Int×Int) (w:World),M.sOk q=true→Rt 213 #[da m,cM q] w (cM (m0.nx q))):=fun q w hq=>by rw[Ka];exact mN m q w HM.o hq
  have Gb:H9 (gY m s (N:Int)=m0.run s0 N):=(by show _=_;rw[Ka,Ha,HV.o,HL.o]);have Hb:H9 (∀k,M.sOk (m0.rn s0 k)=true):=fun k=>by rw[Ha];exact M.sOk_rn m0 HS.o k
  have Ib:H9 (m0.run s0 0=[s]):=(by show _=_;rw[←Ha];rfl);obtain⟨i0,hi,Va,Wa,Xa⟩:=info_parts ot;have HI:H9 (prog.info? 33=some i0∧i0.zero=some (.agg #[it 0,it 0])∧i0.size=2∧i0.bytes=16):=⟨hi,Va,Wa,Xa⟩;clear hok hm hs h3 h4 Ta Ua Ka Ha HM HS HV HL hi Va Wa Xa;obtain⟨⟨a,b,c,d,f,k⟩,⟨a',b',c',d',f',k'⟩⟩:=m;obtain⟨x,y⟩:=s;dsimp only[da,cM]at C1 C2 HT CN ⊢;go_enter func123,ntmps123;(go_wp2_with fail);refine(C1 _).mono ?_;rintro e w1 ⟨rfl,Ca⟩;have Fa:=Hd Ca;obtain⟨q0,q1,q2,q3,q4,q5,q6,q7,q8,q9,Pa,Qa,Ra,Sa⟩:=HT.o _ Ca;have Ba:=Hd ((((m5 _ _).alloc (m3 _) _).alloc (by simp) _).trans (Ca.mono (by simp;omega)));clear Ca;(go_wp2_with fail);refine(C2 _).mono ?_;rintro e w2 ⟨rfl,Da⟩;have Ya:=Ba.t Da;have Ia:H9 (Below (w.heap.size+2) _ w2):=(Fa.o.trans (Da.mono Fa.o.size)).mono (by simp);obtain⟨r0,r1,r2,r3,r4,r5,r6,r7,r8,r9,Za,Ab,Jb,Kb⟩:=HT.o _ (Fa.o.trans (Da.mono Fa.o.size));clear Da q0 q1 q2 q3 q4 q5 q6 q7 q8 q9 Pa Qa Ra Sa Fa Ba;(go_wp2_with fail);refine(C3 _).mono ?_;rintro e w2 ⟨rfl,rfl⟩
  have HO:H9 (bf 33 (w2.alloc (.cells #[it x,it y] 33)) (w.heap.size+2) (some ⟨w2.heap.size,0,none⟩) 1 1 (m0.run s0 0)):=by
   show bf _ _ _ _ _ _ _;rw[Ib.o];exact oH _ _ (by have:=Ia.o.size;simpa using this) x y
  have Bb:H9 (Below (w.heap.size+2) w2 (w2.alloc (.cells #[it x,it y] 33))):=(m5 _ _).alloc (by have:=Ia.o.size;simpa using this) _;have Cb:H9 (m1 w (w2.alloc (.cells #[it x,it y] 33))):=Ya.o.alloc Ya.o.size _;have Lb:w.heap.size+2≤w2.heap.size:=(by have:=Ia.o.size;simpa using this);clear HT C1 C2 C3 Ia;go_wp2
  go_loopw [8,9] (fun s i wr=>∃(j:Nat) (al:Option Addr) (Ea:Nat),j≤N∧i=it j∧s=.slice al (j+1) Ea∧bf 33 wr (w.heap.size+2) al (j+1) Ea (m0.run s0 j)∧Below (w.heap.size+2) w2 wr∧m1 w wr) (fun _ i _=>N-(intOf i).toNat)
  case atStart=>exact⟨0,_,_,by omega,rfl,rfl,HO.o,Bb.o,Cb.o⟩
  case round=>
   obtain⟨j,al,Ea,hj,rfl,rfl,La,Aa,Ca⟩:=hrel;have Na:=Hd La;have Ba:=Hd Ca;have Nb:=Hd Aa;have Ob:=m8 Lb Aa.size;by_cases Gc:j<N
   ·
    obtain⟨g,rfl,hg,Hc,Ic,hc⟩:=La.block (by omega);obtain⟨e1,e2⟩:=hc j (by omega);rw[M.run_get m0 s0 j j (m3 _)]at e1 e2;have Pb:=(Aa.cell (p:=⟨w.heap.size,0,none⟩) (by simp)).trans r0;have Qb:=(Aa.cell (p:=⟨w.heap.size,1,none⟩) (by simp)).trans r1;have Rb:=(Aa.cell (p:=⟨w.heap.size,2,none⟩) (by simp)).trans r2;have Sb:=(Aa.cell (p:=⟨w.heap.size,3,none⟩) (by simp)).trans r3;have Tb:=(Aa.cell (p:=⟨w.heap.size,4,none⟩) (by simp)).trans r4;have Ub:=(Aa.cell (p:=⟨w.heap.size,5,none⟩) (by simp)).trans r5;have Vb:=(Aa.cell (p:=⟨w.heap.size,6,none⟩) (by simp)).trans r6;have Wb:=(Aa.cell (p:=⟨w.heap.size,7,none⟩) (by simp)).trans r7;have Xb:=(Aa.cell (p:=⟨w.heap.size,8,none⟩) (by simp)).trans r8;have Yb:=(Aa.cell (p:=⟨w.heap.size,9,none⟩) (by simp)).trans r9;have Zb:=(Aa.cell (p:=⟨w.heap.size,10,none⟩) (by simp)).trans Za;have Ac:=(Aa.cell (p:=⟨w.heap.size,11,none⟩) (by simp)).trans Ab;have hI:(j:Int)<(N:Int):=(by omega);have Jc:(j:Int)+1≤Ea:=(by omega);have Kc:(j:Int)<(j:Int)+1:=(by omega);have HN:H9 (m0.run s0 j++[m0.nx (m0.rn s0 j)]=m0.run s0 (j+1)):=M.run_snoc m0 s0 j;have CQ:=CN.o (m0.rn s0 j);have Db:=Hd (Hb.o j);generalize m0.rn s0 j=q at e1 e2 HN CQ Db;generalize Bc:m0.nx q=q2 at HN CQ;obtain⟨u,v⟩:=q;obtain⟨u2,v2⟩:=q2;dsimp only at e1 e2 CQ;clear La Aa Ca hc HO Bb Cb Bc r0 r1 r2 r3 r4 r5 r6 r7 r8 r9 Za Ab Jb Kb;go_wp2
    go_region_law (first
     | (refine jf rfl (.tmp 30) (.tmp 37) 211 rfl (w.heap.size+2) 33 i0 (.agg #[it 0,it 0]) 2 16 underlying211 HI.o.1 HI.o.2.1 HI.o.2.2.1 HI.o.2.2.2 rfl (by decide) (.slice (some ⟨g,0,none⟩) (j+1) Ea) (j+1) (lH (m0.run s0 j)) (by simp[Act.eval]) (vg (Na.o.below ((m5 _ _).drew.trans Ja)).2 _) ⟨w4.heap.size,0,none⟩ 1 1 [it u2,it v2] (by simp[Act.eval]) rfl (ed w4 _ _ _) (eh _ _) (by unfold maxLen;omega) (by omega) (by have:=Ja.size;simp at this;simp;omega) ?_;intro v' w5 Eb hgrow)
     | (go_simp;go_wp2_with(go_at_call 213;refine(CQ _ Db.o).mono ?_;rintro e w4 ⟨rfl,Ja⟩)))
    all_goals
     have hown':w5.ownsRow (w.heap.size+2) 33 2 v' (j+1+1) (lH (m0.run s0 (j+1))):=(by rw[←HN.o,←iP];exact Eb);obtain⟨b5,c5,rfl,Fb⟩:=bf.form (M.run_len m0 s0 (j+1)) hown';have Cc:=Hd Fb;have Oa:=Na.o.row;have hb4':m1 wr w4:=(m5 _ _).drew.trans Ja;have Lc:=hb4'.size;have Dc:=Hd (((Nb.o.trans (hb4'.mono Ob)).alloc (by omega) _).grown hgrow (by simp;omega) Oa);have Ec:=Hd (((Ba.o.trans (hb4'.mono Ba.o.size)).alloc (by have:=Ba.o.size;omega) _).grown hgrow (by have:=Ba.o.size;simp;omega) (fun q hq=>by have:=Oa q hq;omega));clear Eb hown' hgrow Fb Oa Ja hb4' Pb Qb Rb Sb Tb Ub Vb Wb Xb Yb Zb Ac e1 e2;go_wp2;go_roundw
     case rel=>exact⟨j+1,b5,c5,by omega,by go_num,rfl,Cc.o,Dc.o,Ec.o⟩
     case measure=>simp[intOf];omega
   ·
    have Fc:j=N:=(by omega);subst Fc;go_wp2
    go_ret2
    exact⟨al,j+1,Ea,rfl,by omega,by rw[Gb.o];exact Na.o.mono (by omega),Ba.o⟩
theorem kV(m:M.Mc)(s:Int×Int)(n:Int)(w:World):Rt 130 #[da m,cM s,.int .i64 n] w (.tuple #[cM (ei m s n),.bool (bE m s n)]):=by
 have C1:=gU m s n
 have HT:H9 (∀W,Below (((w.alloc (.cells (co m.X.xx m.X.xy m.X.yy m.X.x m.X.y m.X.k m.Y.xx m.Y.xy m.Y.yy m.Y.x m.Y.y m.Y.k).toArray 31)).alloc (.cells #[it s.1,it s.2] 33)).alloc (.cells #[it 0,it 0] 33)).heap.size (((w.alloc (.cells (co m.X.xx m.X.xy m.X.yy m.X.x m.X.y m.X.k m.Y.xx m.Y.xy m.Y.yy m.Y.x m.Y.y m.Y.k).toArray 31)).alloc (.cells #[it s.1,it s.2] 33)).alloc (.cells #[it 0,it 0] 33)) W→W.cell? ⟨w.heap.size+1+1,0,none⟩=some (it 0)∧W.cell? ⟨w.heap.size+1+1,1,none⟩=some (it 0)∧W.frozen? ⟨w.heap.size+1+1,0,none⟩=false∧W.frozen? ⟨w.heap.size+1+1,1,none⟩=false):=fun W hW=>
  ⟨(hW.cell (p:=⟨w.heap.size+1+1,0,none⟩) (by simp)).trans (aW w _ _ _ _ _ _ 0).2.2.1,(hW.cell (p:=⟨w.heap.size+1+1,1,none⟩) (by simp)).trans (aW w _ _ _ _ _ _ 1).2.2.1,(bu hW (show w.heap.size+1+1<_ by simp)).trans (aW w _ _ _ _ _ _ 0).2.2.2,(bu hW (show w.heap.size+1+1<_ by simp)).trans (aW w _ _ _ _ _ _ 1).2.2.2⟩
 cases hok:bE m s n with
 | false=>
  rw[li hok];rw[hok]at C1;obtain⟨⟨a,b,c,d,f,k⟩,⟨a',b',c',d',f',k'⟩⟩:=m;obtain⟨x,y⟩:=s;dsimp only[da,cM]at C1 HT ⊢;clear hok;go_enter func130,ntmps130;(go_wp2_with fail);refine(C1 _).mono ?_;rintro e w1 ⟨ra,rl,rc,rfl,-,-,Aa⟩;have Ba:=Hd (((((m5 _ _).alloc (m3 _) _).alloc (by simp) _).alloc (by simp;omega) _).trans (Aa.mono (by simp;omega)));obtain⟨t0,t1,t2,t3⟩:=HT.o _ Aa;clear Aa;go_wp2;refine m7 (v:=.tuple #[.agg #[it 0,it 0],.bool false]) (by simp[results,results130,go_sem,t0,t1]) rfl ⟨rfl,?_⟩;exact(Ba.o.setCell (by show w.heap.size≤w.heap.size+1+1;omega) _).setCell (by show w.heap.size≤w.heap.size+1+1;omega) _
 | true=>
  obtain⟨hm,hs,h3,h4⟩:=dL hok;rw[mX hok];have Ca:=len0 hok;have HG:H9 ((gY m s n).getD n.toNat (0,0)=m.rn s n.toNat):=(by show _=_;rw[gk hok];exact M.run_get m s _ _ (m3 _));rw[hok]at C1;generalize gY m s n=rn at C1 HG Ca;generalize m.rn s n.toNat=q at *;obtain⟨N,rfl⟩:=Int.eq_ofNat_of_zero_le h3;rw[u']at HG Ca;have hN:N≤1000:=(by omega);obtain⟨⟨a,b,c,d,f,k⟩,⟨a',b',c',d',f',k'⟩⟩:=m;obtain⟨x,y⟩:=s;obtain⟨u,v⟩:=q;dsimp only[da,cM]at C1 HT ⊢;clear hok hm hs h3 h4;go_enter func130,ntmps130;(go_wp2_with fail);refine(C1 _).mono ?_;rintro e w1 ⟨ra,rl,rc,rfl,-,Da,Aa⟩;have Ba:=Hd (((((m5 _ _).alloc (m3 _) _).alloc (by simp) _).alloc (by simp;omega) _).trans (Aa.mono (by simp;omega)));obtain⟨t0,t1,t2,t3⟩:=HT.o _ Aa;have Fa:rl=N+1:=(by rw[←Da.1];exact Ca);subst Fa;obtain⟨g,rfl,Ea,Ga,Ha,hc⟩:=Da.block (by omega);obtain⟨e1,e2⟩:=hc N (by omega);rw[HG.o]at e1 e2;have Ia:(N:Int)+1≤rc:=(by omega);have Ja:(N:Int)<(N:Int)+1:=(by omega);have Ka:g≠w.heap.size+1+1:=(by simp at Ea;omega);clear Aa Da hc Ea;dsimp only at e1 e2;go_wp2;refine m7 (v:=.tuple #[.agg #[it u,it v],.bool true]) (by simp[results,results130,go_sem,t0,t1]) rfl ⟨rfl,?_⟩;exact(Ba.o.setCell (by show w.heap.size≤w.heap.size+1+1;omega) _).setCell (by show w.heap.size≤w.heap.size+1+1;omega) _
section
variable {α:Type} {f:α→List Value} {k:Nat}
theorem dS(hf:∀x,(f x).length=k):∀xs:List α,(xs.flatMap f).length=xs.length*k
 | []=>by simp
 | x::xs=>by rw[uY,uW,hf,dS hf xs,List.length_cons,Nat.add_mul];omega
theorem fd(hf:∀x,(f x).length=k)(d:α):∀(xs:List α) {i j:Nat},i<xs.length→j<k→(xs.flatMap f)[i*k+j]?=(f (xs.getD i d))[j]?
 | [],_,_,h,_=>by simp at h
 | x::xs,0,j,_,hj=>by
  rw[uY,List.getElem?_append_left (by rw[hf];omega)];simp
 | x::xs,i+1,j,h,hj=>by
  rw[uY,List.getElem?_append_right (by rw[hf,Nat.add_mul];omega),hf,show(i+1)*k+j-k=i*k+j by rw[Nat.add_mul];omega,fd hf d xs (by simpa using h) hj];simp
theorem oo(hf:∀x,(f x).length=k):∀(xs:List α) {i:Nat} (c:α),i<xs.length→lK (xs.flatMap f) (i*k) (f c)=(xs.set i c).flatMap f
 | [],_,_,h=>by simp at h
 | x::xs,0,c,_=>by
  unfold lK;rw[Nat.zero_mul,List.take_zero,List.nil_append,Nat.zero_add,hf,uY,List.drop_left' (hf x)];simp
 | x::xs,i+1,c,h=>by
  have ih:=oo hf xs c (i:=i) (by simpa using h);unfold lK at ih ⊢;rw[hf]at ih ⊢;rw[uY,List.set_cons_succ,uY,←ih,show(i+1)*k=k+i*k by rw[Nat.add_mul];omega,Nat.add_assoc];rw[List.take_append,List.drop_append,hf,uD (by rw[hf];omega),m9 (by rw[hf];omega)];rw[show k+i*k-k=i*k by omega,show k+(i*k+k)-k=i*k+k by omega];simp
end
namespace M
structure Tk where
 done:Bool
 l':Int
 due:Int
structure Jb where
 id:Int
 m:M.Mc
 s:Int×Int
 rows:Int
 gone:Bool
 ts:List Tk
def t0:Tk:=⟨false,0,0⟩
def m0:M.Mc:=⟨⟨0,0,0,0,0,0⟩,⟨0,0,0,0,0,0⟩⟩
def j0:Jb:=⟨0,m0,(0,0),0,false,[]⟩
end M
def dW(t:M.Tk):List Value:=[.bool t.done,.int .i64 t.l',.int .i64 t.due]
def lO(t:M.Tk):Value:=.agg #[.bool t.done,.int .i64 t.l',.int .i64 t.due]
def eN(j:M.Jb)(a:Option Addr)(c:Nat):List Value:=
 [.int .i64 j.id,.int .i64 j.m.X.xx,.int .i64 j.m.X.xy,.int .i64 j.m.X.yy,.int .i64 j.m.X.x,.int .i64 j.m.X.y,.int .i64 j.m.X.k,.int .i64 j.m.Y.xx,.int .i64 j.m.Y.xy,.int .i64 j.m.Y.yy,.int .i64 j.m.Y.x,.int .i64 j.m.Y.y,.int .i64 j.m.Y.k,.int .i64 j.s.1,.int .i64 j.s.2,.int .i64 j.rows,.bool j.gone,.slice a j.ts.length c]
def iG(q:M.Jb×Option Addr×Nat):List Value:=eN q.1 q.2.1 q.2.2
theorem dQ(t:M.Tk):(dW t).length=3:=rfl
theorem gu(q:M.Jb×Option Addr×Nat):(iG q).length=18:=rfl
structure bW(w:World)(a:Option Addr)(n cap:Nat)(ts:List M.Tk):Prop where
 len:ts.length=n
 le:n≤cap
 big:(cap:Int)≤9223372036854775807
 no:a=none→n=0∧cap=0
 pos:n=0∨∃b off,a=some ⟨b,off,none⟩∧∀i,i<n→∀j,j<3→w.cell? ⟨b,off+i*3+j,none⟩=(dW (ts.getD i M.t0))[j]?
theorem bW.at{ts:List M.Tk}(h:bW w a n cap ts)(h0:0<n):∃b off,a=some ⟨b,off,none⟩∧∀i,i<n→∀j,j<3→w.cell? ⟨b,off+i*3+j,none⟩=(dW (ts.getD i M.t0))[j]?:=by
 rcases h.pos with e | e
 ·omega
 ·exact e
theorem bW.below{ts:List M.Tk}(h:bW w a n cap ts)(hb:m1 w w'):bW w' a n cap ts:=by
 refine⟨h.len,h.le,h.big,h.no,?_⟩;by_cases h0:n=0
 ·exact .inl h0
 ·
  obtain⟨b,Aa,e,hc⟩:=h.at (by omega);have Ba:b<w.heap.size:=uP w ⟨b,Aa+0*3+0,none⟩ ((hc 0 (by omega) 0 (by omega)).trans rfl);exact .inr ⟨b,Aa,e,fun i hi j hj=>(hb.cell (p:=⟨b,Aa+i*3+j,none⟩) Ba).trans (hc i hi j hj)⟩
structure ep(w:World)(a:Option Addr)(n cap:Nat)(js:List M.Jb):Prop where
 len:js.length=n
 le:n≤cap
 big:(cap:Int)≤9223372036854775807
 no:a=none→n=0∧cap=0
 pos:n=0∨∃b off,a=some ⟨b,off,none⟩∧∀i,i<n→∃(ta:Option Addr) (tc:Nat),(∀j,j<18→w.cell? ⟨b,off+i*18+j,none⟩=(eN (js.getD i M.j0) ta tc)[j]?)∧bW w ta (js.getD i M.j0).ts.length tc (js.getD i M.j0).ts
theorem ep.at{js:List M.Jb}(h:ep w a n cap js)(h0:0<n):∃b off,a=some ⟨b,off,none⟩∧∀i,i<n→∃(ta:Option Addr) (tc:Nat),(∀j,j<18→w.cell? ⟨b,off+i*18+j,none⟩=(eN (js.getD i M.j0) ta tc)[j]?)∧bW w ta (js.getD i M.j0).ts.length tc (js.getD i M.j0).ts:=by
 rcases h.pos with e | e
 ·omega
 ·exact e
theorem ep.below{js:List M.Jb}(h:ep w a n cap js)(hb:m1 w w'):ep w' a n cap js:=by
 refine⟨h.len,h.le,h.big,h.no,?_⟩;by_cases h0:n=0
 ·exact .inl h0
 ·
  obtain⟨b,Aa,e,hc⟩:=h.at (by omega)
  have Ba:b<w.heap.size:=by
   obtain⟨ta,tc,h1,_⟩:=hc 0 (by omega);exact uP w ⟨b,Aa+0*18+0,none⟩ ((h1 0 (by omega)).trans rfl)
  refine .inr ⟨b,Aa,e,fun i hi=>?_⟩;obtain⟨ta,tc,h1,h2⟩:=hc i hi;exact⟨ta,tc,fun j hj=>(hb.cell (p:=⟨b,Aa+i*18+j,none⟩) Ba).trans (h1 j hj),h2.below hb⟩
structure cH(w:World)(ab:Option Addr)(nb cb:Nat)(aj:Option Addr)(nj cj:Nat)(bs:List Int)(js:List M.Jb):Prop where
 b:aw w ab nb cb bs
 j:ep w aj nj cj js
theorem cH.below{ab:Option Addr}{nb cb:Nat}{aj:Option Addr}{nj cj:Nat}{bs:List Int}{js:List M.Jb}(h:cH w ab nb cb aj nj cj bs js)(hb:m1 w w'):cH w' ab nb cb aj nj cj bs js:=⟨h.b.below hb,h.j.below hb⟩
structure mT(P:Prop):Prop where
 out:P
structure um(G:Prop) where
 p:Prop
 h:mT p→G
structure mV(G:Prop) where
 p:Prop
 q:Prop
 h:mT p→mT q→G
theorem pZ{P G:Prop}(f:P→G)(h:P):G:=f h
theorem aB(h:m1 w w')(row:Option Nat):w.grownBy w' row:=⟨h.os,h.tape,h.output,h.size,fun k hk _=>h.block k hk⟩
theorem cU(w:World)(row:Option Nat):w.grownBy w.drew row:=aB (m5 _ _).drew row
theorem aH{a:World}(h:a.grownBy w row)(hb:m1 w w'):a.grownBy w' row:=
  h.trans (aB hb row)
theorem a8{a:World}{b:Nat}(h:a.grownBy w (some b))(o:Nat)(us:List Value):a.grownBy (w.setCells b o us) (some b):=by
  have hz:∀(us:List Value) (w:World) (o:Nat),w.grownBy (w.setCells b o us) (some b):=by
    intro us
    induction us with
    | nil=>exact fun w _=>World.grownBy.refl w _
    | cons u us ih=>
      intro w o
      have h1:w.grownBy (w.setCell ⟨b,o,none⟩ u) (some b):=⟨rfl,rfl,rfl,by simp[World.setCell],fun k _ hk=>Below.heap_setCell w _ u k (fun e=>hk (by rw[e]))⟩
      exact h1.trans (ih _ _)
  exact h.trans (hz us w o)
theorem eU{B:Nat}{a:World}(h:Below B a w)(hg:w.grownBy w' row)(hB:B≤w.heap.size)(hr:∀k,row=some k→B≤k):Below B a w':=h.grown hg hB hr
theorem aw.grownR(h:aw w a n cap zs)(hg:w.grownBy w' row)(hr:∀x,a=some x→row≠some x.block):aw w' a n cap zs:=
  h.of_cells fun p _ hp ⟨x,hx,he⟩=>hg.cell hp (fun e=>hr x hx (by rw[he,e]))
theorem aC.grownR.lt_of_heap{g:Nat}{o:Obj}(h:w.heap[g]?=some o):g<w.heap.size:=by
  rcases Nat.lt_or_ge g w.heap.size with h' | h'
  ·exact h'
  ·rw[Array.getElem?_eq_none h']at h;cases h
theorem aC.grownR(h:aC t w i' a n cap zs)(hg:w.grownBy w' row)(hr:∀x,a=some x→row≠some x.block):aC t w' i' a n cap zs:=by
  refine⟨h.1,?_⟩
  rcases h.2 with e | ⟨g,cp,cur,e,hb,hc,r⟩
  ·exact .inl e
  · refine .inr ⟨g,cp,cur,e,hb,?_,r⟩
    have hx:a=some ⟨g,0,none⟩:=by injection e
    rw[hg.block g (aC.grownR.lt_of_heap hc) (fun e2=>hr _ hx e2.symm)]
    exact hc
theorem bf.grownR(h:bf t w i' a n cap ps)(hg:w.grownBy w' row)(hr:∀x,a=some x→row≠some x.block):bf t w' i' a n cap ps:=by
  refine⟨h.1,h.2.1,?_⟩
  rcases h.2.2 with e | ⟨g,cp,cur,e,hb,hc,r⟩
  ·exact .inl e
  · refine .inr ⟨g,cp,cur,e,hb,?_,r⟩
    have hx:a=some ⟨g,0,none⟩:=by injection e
    rw[hg.block g (aC.grownR.lt_of_heap hc) (fun e2=>hr _ hx e2.symm)]
    exact hc
theorem dR.grownR(h:dR w a n c ps)(hg:w.grownBy w' row)(hr:∀x,a=some x→row≠some x.block):dR w' a n c ps:=by
  refine⟨h.len,h.le,h.big,h.no,?_⟩
  rcases h.pos with e | ⟨b,off,e,hb⟩
  ·exact .inl e
  ·exact .inr ⟨b,off,e,fun i hi=>⟨hg.cell (hb i hi).1 (fun e2=>hr _ e e2.symm),hg.cell (hb i hi).2 (fun e2=>hr _ e e2.symm)⟩⟩
theorem j6{v v':Value}(h:v'.ownBlock=v.ownBlock∨v'.ownBlock=some w.heap.size)(hp:pb<w.heap.size)(hv:v.ownBlock≠some pb):v'.ownBlock≠some pb:=by
  rcases h with e | e
  ·rw[e];exact hv
  ·rw[e];intro e2;injection e2 with e3;omega
theorem kn{b:Nat}(h:(Value.slice a n c).ownBlock≠some b):∀x,a=some x→x.block≠b:=fun x hx e=>h (by subst hx;simp[Value.ownBlock,e])
theorem dF{a:World}{b:Nat}(h:a.grownBy w row)(hb:a.heap.size≤b)(o:Nat)(us:List Value):a.grownBy (w.setCells b o us) row:=by
  have hz:∀(us:List Value) (w:World) (o:Nat),a.grownBy w row→a.grownBy (w.setCells b o us) row:=by
    intro us
    induction us with
    | nil=>exact fun _ _ h=>h
    | cons u us ih=>
      intro w o h
      refine ih _ _ ⟨h.os,h.tape,h.output,by have:=h.size;simpa[World.setCell]using this,fun k hk hr=>?_⟩
      rw[Below.heap_setCell w ⟨b,o,none⟩ u k (fun e=>by have:k=b:=e;omega)]
      exact h.block k hk hr
  exact hz us w o h
theorem bj{a:World}(h:a.grownBy w row)(o:Obj):a.grownBy (w.alloc o) row:=h.trans (uK w o row)
theorem mS{a:Act}(s x:Operand)(t:TypeId)
   (ho:o.op=.call {callee:=.builtin .append,args:=#[s,x],argTypes:=#[t,t]})
   (i':Nat)(e:TypeId)(i:TypeInfo)(z:Value)(size bytes:Nat)(ht:P.underlying t=some (.slice e))(hi:P.info? e=some i)(hz:i.zero=some z)
   (hsize:i.size=size)(hby:i.bytes=bytes)(hzs:z.cells.size=size)(hsz:0<size)
   (v:Value)(n:Nat)(xs:List Value)(hs:a.eval s=v)(hown:w.ownsRow i' e size v n xs)
   (ad:Addr)(m c:Nat)(news:List Value)(hx:a.eval x=.slice (some ad) m c)(hl:news.length=m*size)(hnews:∀j u,news[j]?=some u→w.cell? (ad.add j)=some u)(h1:∀u∈news,u.oneCell'=true)
   (h63:n+m≤maxLen)(hbytes:(n+m)*bytes≤140737488355328)(uy:i'≤w.heap.size)
   (h:∀v' w',w'.ownsRow i' e size v' (n+m) (xs++news)→w.grownBy w' v.ownBlock→(v'.ownBlock=v.ownBlock∨v'.ownBlock=some w.heap.size)→K (a.put o.dst v') w'):o.wp P a w K Q:=by
  obtain⟨v',w',hr,h2,h3,h4,h5⟩:=run_append_own_at (P:=P) w i' t o.type e i z size bytes ht hi hz hsize hby hzs hsz v n xs hown ad m c news hl hnews h1 h63 hbytes uy
  unfold Oper.wp execOp
  simp only[ho,resolve,invoke,builtin,Sem.run_bind,Sem.run_pure,Result.andThen_ok,List.map_toArray,List.map_cons,List.map_nil,hs,hx,hr]
  exact h v' w' h2 h3 h5
theorem bL{a:Act}(t:TypeId)(ho:o.op=.alloc t)(cs:Array Value)
   (hrun:(Instr.alloc t true (.tuple #[])).run P w=.ok (.pointer (some ⟨w.heap.size,0,none⟩)) (w.alloc (.cells cs t)))
   (h:K (a.put o.dst (.pointer (some ⟨w.heap.size,0,none⟩))) (w.alloc (.cells cs t))):o.wp P a w K Q:=by
  unfold Oper.wp execOp
  simp only[ho,Sem.run_bind,hrun,Result.andThen_ok,Sem.run_pure]
  exact h
theorem gd(h:∀y,a=some y→y.block≠pb):(Value.slice a n c).ownBlock≠some pb:=by
  cases a with
  | none=>simp[Value.ownBlock]
  | some y=>simp only[Value.ownBlock];intro e;injection e with e;exact h y rfl e
theorem t7{m:Nat}(h:(Value.slice b m d).ownBlock=(Value.slice a n c).ownBlock∨(Value.slice b m d).ownBlock=some w.heap.size)(hp:pb<w.heap.size)(hv:∀y,a=some y→y.block≠pb):∀y,b=some y→y.block≠pb:=
  kn (j6 h hp (gd hv))
theorem kx(ps:List (Int×Int))(h:k<ps.length):ps.take k++[ps.getD k (0,0)]=ps.take (k+1):=by
  rw[uI h];simp[m4,h]
def bR(ps:List (Int×Int)):List Int:=ps.map Prod.fst
def bS(ps:List (Int×Int)):List Int:=ps.map Prod.snd
theorem ji(ps:List (Int×Int))(h:k<ps.length):(bR ps).take k++[(ps.getD k (0,0)).1]=(bR ps).take (k+1):=by
  unfold bR;rw[←List.map_take,←List.map_take,←kx ps h,uX];rfl
theorem jn(ps:List (Int×Int))(h:k<ps.length):(bS ps).take k++[(ps.getD k (0,0)).2]=(bS ps).take (k+1):=by
  unfold bS;rw[←List.map_take,←List.map_take,←kx ps h,uX];rfl
theorem gW(ps:List (Int×Int)):(bR ps).length=ps.length:=by simp[bR]
theorem gZ(ps:List (Int×Int)):(bS ps).length=ps.length:=by simp[bS]
theorem tM(s:Int×Int)(w:World)(ho:aC 182 w i' a n cap zs)(hb:i'≤w.heap.size)(hn:n≤2000):
    Calls prog 258 #[.slice a n cap,cM s] w fun e w'=>∃a' cap',e=.returned (.slice a' (n+1) cap')∧aC 182 w' i' a' (n+1) cap' (zs++[s.1])∧Below i' w w':=by
  have HO:=Hd ho
  obtain⟨i0,hi,Aa,Ba,Ca⟩:=info_parts dv
  have HI:H9 (prog.info? 182=some i0∧i0.zero=some (Value.int .i64 0)∧i0.size=1∧i0.bytes=8):=⟨hi,Aa,Ba,Ca⟩
  clear ho hi Aa Ba Ca
  obtain⟨x,y⟩:=s
  dsimp only[cM]
  have Ha:H9 (Below i' w (w.alloc (.cells #[.int .i64 x,.int .i64 y] 328))):=(m5 _ _).alloc hb _
  have Da:H9 (aC 182 (w.alloc (.cells #[.int .i64 x,.int .i64 y] 328)) i' a n cap zs):=HO.o.below ((m5 _ _).alloc (m3 _) _)
  go_enter func258,ntmps258
  go_wp2_with(at_builtin;refine wpList_append_own _ rfl _ _ 125 rfl i' 182 i0 (.int .i64 0) 1 8 underlying125 HI.o.1 HI.o.2.1 HI.o.2.2.1 HI.o.2.2.2 rfl (by decide) _ n (zs.map (Value.int .i64)) rfl (vg Da.o _) ⟨(w.alloc (.cells #[.int .i64 x,.int .i64 y] 328)).heap.size,0,none⟩ 1 1 [.int .i64 x] (by simp[Act.eval]) rfl (bB _ _ _) (bZ _) (by unfold maxLen;omega) (by omega) (by simp;omega) ?_)
  intro v' w4 Ea Fa _
  have hown':w4.ownsRow i' 182 1 v' (n+1) ((zs++[x]).map (Value.int .i64)):=by rw[uX];exact Ea
  obtain⟨b4,c4,rfl,Ga⟩:=aC.form hown'
  have Ia:=Hd Ga
  have Ja:=Hd ((Ha.o.alloc (by simp;omega) _).grown Fa (by simp;omega) Da.o.row)
  clear Ea hown' Fa Ga
  go_wp2
  go_ret
  exact⟨b4,c4,rfl,Ia.o,Ja.o⟩
theorem qj(w0 w:World)(hz:dR w0 a n c ps)(hbl:m1 w0 w)(ho:aC 182 w w0.heap.size b 0 cap [])(hn:n≤1001):
    Calls prog 257 #[.slice a n c,.slice b 0 cap,.func (.func 258) #[] #[]] w fun e w'=>∃a' cap',e=.returned (.slice a' n cap')∧aC 182 w' w0.heap.size a' n cap' (bR ps)∧m1 w0 w':=by
  have HZ:=Hd hz
  have Ba:=Hd hbl
  have HO:=Hd ho
  clear hz hbl ho
  go_enter func257,ntmps257
  go_wp2
  go_loopw [1,11] (fun s i wr=>∃(k:Nat) (a':Option Addr) (cap':Nat),k≤n∧i=.int .i64 k∧s=.slice a' k cap'∧aC 182 wr w0.heap.size a' k cap' ((bR ps).take k)∧m1 w0 wr) (fun _ i _=>n-(intOf i).toNat)
  case atStart=>exact⟨0,_,_,by omega,rfl,rfl,HO.o,Ba.o⟩
  case round=>
    obtain⟨k,a',cap',hk,rfl,rfl,Ca,Da⟩:=hrel
    have Ea:=Hd Ca
    have Aa:=Hd Da
    clear Ca Da HO Ba
    by_cases Fa:k<n
    · obtain⟨b1,o1,rfl,Ga⟩:=(HZ.o.below Aa.o).at (by omega)
      obtain⟨e1,e2⟩:=Ga k Fa
      have hI:(k:Int)<(n:Int):=by omega
      have HS:=Hd (ji ps (by rw[HZ.o.len];exact Fa))
      clear Ga
      generalize ps.getD k (0,0)=q at e1 e2 HS
      have C1:=tM (a:=a') (n:=k) (cap:=cap') (i':=w0.heap.size) (zs:=(bR ps).take k) q
      obtain⟨x,y⟩:=q
      dsimp only[cM]at C1 e1 e2
      have Ja:H9 _:=C1
      clear C1
      go_wp2_with fail
      refine(Ja.o _ (Ea.o.below ((m5 _ _).alloc (m3 _) _)) (by have:=Aa.o.size;simp;omega) (by omega)).mono ?_
      rintro e w4 ⟨b4,c4,rfl,Ha,Ia⟩
      have Ka:H9 (aC 182 w4 w0.heap.size b4 (k+1) c4 ((bR ps).take (k+1))):=by
        show aC _ _ _ _ _ _ _
        rw[←HS.o];exact Ha
      have La:=Hd ((Aa.o.alloc Aa.o.size _).trans Ia)
      clear Ha Ia
      go_wp2
      go_roundw
      case rel=>exact⟨k+1,b4,c4,by omega,by go_num,rfl,Ka.o,La.o⟩
      case measure=>simp[intOf];omega
    · have Na:k=n:=by omega
      subst Na
      go_wp2
      go_ret
      refine⟨a',cap',rfl,?_,Aa.o⟩
      have:=Ea.o
      rw[uD (by rw[gW,HZ.o.len];exact m3 _)]at this
      exact this
theorem s6(w:World)(hz:dR w a n c ps)(hn:n≤1001):
    Calls prog 185 #[.slice a n c] w fun e w'=>∃a' cap',e=.returned (.slice a' n cap')∧aC 182 w' w.heap.size a' n cap' (bR ps)∧m1 w w':=by
  have HZ:=Hd hz
  obtain⟨i0,hi,Aa,Ba,Ca⟩:=info_parts dv
  clear hz
  go_enter func185,ntmps185
  go_wp2_with(at_make;refine wpList_make_own _ rfl _ _ 125 rfl w.heap.size 182 i0 (.int .i64 0) 1 underlying125 hi Aa Ba .i64 .i64 _ n rfl rfl rfl (by rw[Ca];omega) (by unfold maxLen;omega) (m3 _) ?_)
  intro w1 Da hg
  have HO:=Hd Da
  have HB:=Hd (bt hg)
  clear Da hg hi Aa Ba Ca
  go_wp2_with fail
  refine(qj w w1 HZ.o HB.o HO.o hn).mono ?_
  rintro e w2 ⟨a2,c2,rfl,Ea,Fa⟩
  have Ga:=Hd Ea
  have Ha:=Hd Fa
  clear Ea Fa
  go_wp2
  go_ret
  exact⟨a2,c2,rfl,Ga.o,Ha.o⟩
theorem tO(s:Int×Int)(w:World)(ho:aC 182 w i' a n cap zs)(hb:i'≤w.heap.size)(hn:n≤2000):
    Calls prog 259 #[.slice a n cap,cM s] w fun e w'=>∃a' cap',e=.returned (.slice a' (n+1) cap')∧aC 182 w' i' a' (n+1) cap' (zs++[s.2])∧Below i' w w':=by
  have HO:=Hd ho
  obtain⟨i0,hi,Aa,Ba,Ca⟩:=info_parts dv
  have HI:H9 (prog.info? 182=some i0∧i0.zero=some (Value.int .i64 0)∧i0.size=1∧i0.bytes=8):=⟨hi,Aa,Ba,Ca⟩
  clear ho hi Aa Ba Ca
  obtain⟨x,y⟩:=s
  dsimp only[cM]
  have Ha:H9 (Below i' w (w.alloc (.cells #[.int .i64 x,.int .i64 y] 328))):=(m5 _ _).alloc hb _
  have Da:H9 (aC 182 (w.alloc (.cells #[.int .i64 x,.int .i64 y] 328)) i' a n cap zs):=HO.o.below ((m5 _ _).alloc (m3 _) _)
  go_enter func259,ntmps259
  go_wp2_with(at_builtin;refine wpList_append_own _ rfl _ _ 125 rfl i' 182 i0 (.int .i64 0) 1 8 underlying125 HI.o.1 HI.o.2.1 HI.o.2.2.1 HI.o.2.2.2 rfl (by decide) _ n (zs.map (Value.int .i64)) rfl (vg Da.o _) ⟨(w.alloc (.cells #[.int .i64 x,.int .i64 y] 328)).heap.size,0,none⟩ 1 1 [.int .i64 y] (by simp[Act.eval]) rfl (bB _ _ _) (bZ _) (by unfold maxLen;omega) (by omega) (by simp;omega) ?_)
  intro v' w4 Ea Fa _
  have hown':w4.ownsRow i' 182 1 v' (n+1) ((zs++[y]).map (Value.int .i64)):=by rw[uX];exact Ea
  obtain⟨b4,c4,rfl,Ga⟩:=aC.form hown'
  have Ia:=Hd Ga
  have Ja:=Hd ((Ha.o.alloc (by simp;omega) _).grown Fa (by simp;omega) Da.o.row)
  clear Ea hown' Fa Ga
  go_wp2
  go_ret
  exact⟨b4,c4,rfl,Ia.o,Ja.o⟩
theorem qn(w0 w:World)(hz:dR w0 a n c ps)(hbl:m1 w0 w)(ho:aC 182 w w0.heap.size b 0 cap [])(hn:n≤1001):
    Calls prog 257 #[.slice a n c,.slice b 0 cap,.func (.func 259) #[] #[]] w fun e w'=>∃a' cap',e=.returned (.slice a' n cap')∧aC 182 w' w0.heap.size a' n cap' (bS ps)∧m1 w0 w':=by
  have HZ:=Hd hz
  have Ba:=Hd hbl
  have HO:=Hd ho
  clear hz hbl ho
  go_enter func257,ntmps257
  go_wp2
  go_loopw [1,11] (fun s i wr=>∃(k:Nat) (a':Option Addr) (cap':Nat),k≤n∧i=.int .i64 k∧s=.slice a' k cap'∧aC 182 wr w0.heap.size a' k cap' ((bS ps).take k)∧m1 w0 wr) (fun _ i _=>n-(intOf i).toNat)
  case atStart=>exact⟨0,_,_,by omega,rfl,rfl,HO.o,Ba.o⟩
  case round=>
    obtain⟨k,a',cap',hk,rfl,rfl,Ca,Da⟩:=hrel
    have Ea:=Hd Ca
    have Aa:=Hd Da
    clear Ca Da HO Ba
    by_cases Fa:k<n
    · obtain⟨b1,o1,rfl,Ga⟩:=(HZ.o.below Aa.o).at (by omega)
      obtain⟨e1,e2⟩:=Ga k Fa
      have hI:(k:Int)<(n:Int):=by omega
      have HS:=Hd (jn ps (by rw[HZ.o.len];exact Fa))
      clear Ga
      generalize ps.getD k (0,0)=q at e1 e2 HS
      have C1:=tO (a:=a') (n:=k) (cap:=cap') (i':=w0.heap.size) (zs:=(bS ps).take k) q
      obtain⟨x,y⟩:=q
      dsimp only[cM]at C1 e1 e2
      have Ja:H9 _:=C1
      clear C1
      go_wp2_with fail
      refine(Ja.o _ (Ea.o.below ((m5 _ _).alloc (m3 _) _)) (by have:=Aa.o.size;simp;omega) (by omega)).mono ?_
      rintro e w4 ⟨b4,c4,rfl,Ha,Ia⟩
      have Ka:H9 (aC 182 w4 w0.heap.size b4 (k+1) c4 ((bS ps).take (k+1))):=by
        show aC _ _ _ _ _ _ _
        rw[←HS.o];exact Ha
      have La:=Hd ((Aa.o.alloc Aa.o.size _).trans Ia)
      clear Ha Ia
      go_wp2
      go_roundw
      case rel=>exact⟨k+1,b4,c4,by omega,by go_num,rfl,Ka.o,La.o⟩
      case measure=>simp[intOf];omega
    · have Na:k=n:=by omega
      subst Na
      go_wp2
      go_ret
      refine⟨a',cap',rfl,?_,Aa.o⟩
      have:=Ea.o
      rw[uD (by rw[gZ,HZ.o.len];exact m3 _)]at this
      exact this
theorem s7(w:World)(hz:dR w a n c ps)(hn:n≤1001):
    Calls prog 186 #[.slice a n c] w fun e w'=>∃a' cap',e=.returned (.slice a' n cap')∧aC 182 w' w.heap.size a' n cap' (bS ps)∧m1 w w':=by
  have HZ:=Hd hz
  obtain⟨i0,hi,Aa,Ba,Ca⟩:=info_parts dv
  clear hz
  go_enter func186,ntmps186
  go_wp2_with(at_make;refine wpList_make_own _ rfl _ _ 125 rfl w.heap.size 182 i0 (.int .i64 0) 1 underlying125 hi Aa Ba .i64 .i64 _ n rfl rfl rfl (by rw[Ca];omega) (by unfold maxLen;omega) (m3 _) ?_)
  intro w1 Da hg
  have HO:=Hd Da
  have HB:=Hd (bt hg)
  clear Da hg hi Aa Ba Ca
  go_wp2_with fail
  refine(qn w w1 HZ.o HB.o HO.o hn).mono ?_
  rintro e w2 ⟨a2,c2,rfl,Ea,Fa⟩
  have Ga:=Hd Ea
  have Ha:=Hd Fa
  clear Ea Fa
  go_wp2
  go_ret
  exact⟨a2,c2,rfl,Ga.o,Ha.o⟩
def cu(xs ys:List Int):Nat→List (Int×Int)
  | 0=>[]
  | k+1=>cu xs ys k++[(xs.getD k 0,ys.getD k 0)]
theorem em(xs ys:List Int):∀k,(cu xs ys k).length=k
  | 0=>rfl
  | k+1=>by rw[cu,uW,em xs ys k];rfl
theorem dD(xs ys:List Int):∀{k i:Nat},i<k→(cu xs ys k).getD i (0,0)=(xs.getD i 0,ys.getD i 0)
  | k+1,i,h=>by
    rw[cu,m4]
    by_cases e:i=k
    · subst e
      rw[List.getElem?_append_right (by rw[em];exact m3 _),em,Nat.sub_self];rfl
    · rw[List.getElem?_append_left (by rw[em];omega),←m4]
      exact dD xs ys (by omega)
theorem oJ(w:World)(hx:aw w a n c xs)(hy:aw w b n d ys)(hn:n≤1001):
    Calls prog 183 #[.slice a n c,.slice b n d] w fun e w'=>∃a' cap',e=.returned (.slice a' n cap')∧bf 328 w' w.heap.size a' n cap' (cu xs ys n)∧m1 w w':=by
  have HX:=Hd hx
  have HY:=Hd hy
  obtain⟨i0,hi,Da,Ea,Fa⟩:=info_parts gt
  clear hx hy
  go_enter func183,ntmps183
  go_wp2_with(at_make;refine wpList_make_own _ rfl _ _ 268 rfl w.heap.size 328 i0 (.agg #[.int .i64 0,.int .i64 0]) 2 underlying268 hi Da Ea .i64 .i64 _ n rfl rfl rfl (by rw[Fa];omega) (by unfold maxLen;omega) (m3 _) ?_)
  intro w1 Aa hg
  have HO:H9 (bf 328 w1 w.heap.size (some ⟨w.heap.size,0,none⟩) 0 n (cu xs ys 0)):=⟨rfl,Aa⟩
  have HB:=Hd (bt hg)
  clear Aa hg
  go_wp2
  go_loopw [5,13] (fun s i wr=>∃(k:Nat) (a':Option Addr) (cap':Nat),k≤n∧i=.int .i64 k∧s=.slice a' k cap'∧bf 328 wr w.heap.size a' k cap' (cu xs ys k)∧m1 w wr) (fun _ i _=>n-(intOf i).toNat)
  case atStart=>exact⟨0,_,n,by omega,rfl,rfl,HO.o,HB.o⟩
  case round=>
    obtain⟨k,a',cap',hk,rfl,rfl,Ga,Ha⟩:=hrel
    have Ca:=Hd Ga
    have Ba:=Hd Ha
    clear Ga Ha HO HB
    by_cases Ia:k<n
    · obtain⟨b1,o1,rfl,Ja⟩:=(HX.o.below Ba.o).at (by omega)
      obtain⟨b2,o2,rfl,Ka⟩:=(HY.o.below Ba.o).at (by omega)
      have e1:=Ja k Ia
      have e2:=Ka k Ia
      have hI:(k:Int)<(n:Int):=by omega
      have Ra:=Ba.o.size
      have HP:H9 (lH (cu xs ys k)++[.int .i64 (xs.getD k 0),.int .i64 (ys.getD k 0)]=lH (cu xs ys (k+1))):=iP _ (xs.getD k 0,ys.getD k 0)
      clear Ja Ka
      generalize xs.getD k 0=x at e1 HP
      generalize ys.getD k 0=y at e2 HP
      go_wp2_with(at_builtin;refine wpList_append_own _ rfl _ _ 268 rfl w.heap.size 328 i0 (.agg #[.int .i64 0,.int .i64 0]) 2 16 underlying268 hi Da Ea Fa rfl (by decide) _ k (lH (cu xs ys k)) rfl (vg Ca.o.2 _) ⟨wr.heap.size,0,none⟩ 1 1 [.int .i64 x,.int .i64 y] rfl rfl (ed wr _ _ _) (eh _ _) (by unfold maxLen;omega) (by omega) (by simp;omega) ?_)
      intro v' w4 Aa La _
      rw[HP.o]at Aa
      obtain⟨b4,c4,rfl,Na⟩:=bf.form (em xs ys (k+1)) Aa
      have Oa:=Hd Na
      have Pa:=Hd ((Ba.o.alloc Ba.o.size _).grown La (by simp;omega) Ca.o.row)
      clear Aa La Na
      go_wp2
      go_roundw
      case rel=>exact⟨k+1,b4,c4,by omega,by go_num,rfl,Oa.o,Pa.o⟩
      case measure=>simp[intOf];omega
    · have Qa:k=n:=by omega
      subst Qa
      go_wp2
      go_ret
      exact⟨a',cap',rfl,Ca.o,Ba.o⟩
theorem ko(s:Int×Int)(c:Int)(w:World)(hs:M.sOk s=true)(c0:0≤c)(c1:c<65537):
    Rt 255 #[cM s,.int .i64 c] w (cM (s.1*c%65537,s.2*c%65537)):=by
  obtain⟨⟨x0,x1⟩,⟨y0,y1⟩⟩:=(M.sOk_iff _).1 hs
  obtain⟨x,y⟩:=s
  dsimp only[cM]at *
  have Ba:H9 (m1 w ((w.alloc (.cells #[.int .i64 x,.int .i64 y] 328)).alloc (.cells #[.int .i64 0,.int .i64 0] 328))):=((m5 _ _).alloc (m3 _) _).alloc (by simp) _
  have HK:H9 (∀W,Below (w.heap.size+2) ((w.alloc (.cells #[.int .i64 x,.int .i64 y] 328)).alloc (.cells #[.int .i64 0,.int .i64 0] 328)) W→(W.cell? ⟨w.heap.size,0,none⟩=some (.int .i64 x)∧W.cell? ⟨w.heap.size,1,none⟩=some (.int .i64 y))∧W.cell? ⟨w.heap.size+1,0,none⟩=some (.int .i64 0)∧W.frozen? ⟨w.heap.size+1,0,none⟩=false∧W.cell? ⟨w.heap.size+1,1,none⟩=some (.int .i64 0)∧W.frozen? ⟨w.heap.size+1,1,none⟩=false):=fun W hW=>by
    have l0:=(show au ((w.alloc (.cells #[.int .i64 x,.int .i64 y] 328)).alloc (.cells #[.int .i64 0,.int .i64 0] 328)) (w.heap.size) [.int .i64 x,.int .i64 y]from((aO _ _ _).alloc _)).below hW (by omega)
    have l1:=(show au ((w.alloc (.cells #[.int .i64 x,.int .i64 y] 328)).alloc (.cells #[.int .i64 0,.int .i64 0] 328)) (w.heap.size+1) [.int .i64 0,.int .i64 0]from(ba _ _ _ _)).below hW (by omega)
    exact⟨⟨l0.at 0,l0.at 1⟩,l1.at 0,l1.fr 0,l1.at 1,l1.fr 1⟩
  generalize Ca:((w.alloc (.cells #[.int .i64 x,.int .i64 y] 328)).alloc (.cells #[.int .i64 0,.int .i64 0] 328))=wa at Ba HK
  have Ea:=Hd Ca
  clear Ca
  have Aa:Below (w.heap.size+2) wa wa.drew:=(m5 _ _).drew
  go_enter func255,ntmps255
  go_wp2
  rw[Ea.o]
  obtain⟨-,t0,t1,t2,t3⟩:=HK.o _ (m5 _ _)
  have Fa:H9 (∀(W:World) (g0 g1:Value),(W.cell? ⟨w.heap.size,0,none⟩=some (.int .i64 x)∧W.cell? ⟨w.heap.size,1,none⟩=some (.int .i64 y))→((W.setCell ⟨w.heap.size+1,0,none⟩ g0).setCell ⟨w.heap.size+1,1,none⟩ g1).cell? ⟨w.heap.size,0,none⟩=some (.int .i64 x)∧((W.setCell ⟨w.heap.size+1,0,none⟩ g0).setCell ⟨w.heap.size+1,1,none⟩ g1).cell? ⟨w.heap.size,1,none⟩=some (.int .i64 y)):=fun W g0 g1 h=>by
    have Da:∀(b:Nat) (o:Nat),b≠w.heap.size+1→((W.setCell ⟨w.heap.size+1,0,none⟩ g0).setCell ⟨w.heap.size+1,1,none⟩ g1).cell? ⟨b,o,none⟩=W.cell? ⟨b,o,none⟩:=fun b o hb=>
      (uV (w:=W.setCell ⟨w.heap.size+1,0,none⟩ g0) (a:=⟨w.heap.size+1,1,none⟩) (b:=⟨b,o,none⟩) (v:=g1) (h:=by intro e;simp only[Addr.mk.injEq]at e;omega)).trans (uV (w:=W) (a:=⟨w.heap.size+1,0,none⟩) (b:=⟨b,o,none⟩) (v:=g0) (h:=by intro e;simp only[Addr.mk.injEq]at e;omega))
    obtain⟨h0,h1⟩:=h
    exact⟨(Da _ _ (by omega)).trans h0,(Da _ _ (by omega)).trans h1⟩
  go_region_held3 (fun W=>W.cell? ⟨w.heap.size,0,none⟩=some (.int .i64 x)∧W.cell? ⟨w.heap.size,1,none⟩=some (.int .i64 y)) (first | with_reducible exact(HK.o _ Aa).1 | exact Fa.o _ _ _ (HK.o _ Aa).1)
    (first
      | (go_at_call_of 141 (Value.int .i64 x);refine(bU x c _ x0 x1 c0 c1).mono ?_;rintro e w1 ⟨rfl,rfl⟩)
      | (go_at_call_of 141 (Value.int .i64 y);refine(bU y c _ y0 y1 c0 c1).mono ?_;rintro e w2 ⟨rfl,rfl⟩))
  all_goals
    go_wp2
    refine m7 (v:=.agg #[.int .i64 (x*c%65537),.int .i64 (y*c%65537)]) (by simp[results,results255,go_sem,t0,t2]) rfl ⟨rfl,?_⟩
    exact((Ba.o.trans (Aa.mono (by omega))).setCell (by show w.heap.size≤w.heap.size+1;omega) _).setCell (by show w.heap.size≤w.heap.size+1;omega) _
theorem kP(s q:Int×Int)(w:World)(hs:M.sOk s=true)(hq:M.sOk q=true):
    Rt 254 #[cM s,cM q] w (cM ((s.1+65537-q.1)%65537,(s.2+65537-q.2)%65537)):=by
  obtain⟨⟨x0,x1⟩,⟨y0,y1⟩⟩:=(M.sOk_iff _).1 hs
  obtain⟨⟨u0,u1⟩,⟨v0,v1⟩⟩:=(M.sOk_iff _).1 hq
  obtain⟨x,y⟩:=s
  obtain⟨u,v⟩:=q
  dsimp only[cM]at *
  have Ca:H9 (m1 w (((w.alloc (.cells #[.int .i64 x,.int .i64 y] 328)).alloc (.cells #[.int .i64 u,.int .i64 v] 328)).alloc (.cells #[.int .i64 0,.int .i64 0] 328))):=(((m5 _ _).alloc (m3 _) _).alloc (by simp) _).alloc (by simp;omega) _
  have HK:H9 (∀W,Below (w.heap.size+3) (((w.alloc (.cells #[.int .i64 x,.int .i64 y] 328)).alloc (.cells #[.int .i64 u,.int .i64 v] 328)).alloc (.cells #[.int .i64 0,.int .i64 0] 328)) W→(W.cell? ⟨w.heap.size,0,none⟩=some (.int .i64 x)∧W.cell? ⟨w.heap.size,1,none⟩=some (.int .i64 y)∧W.cell? ⟨w.heap.size+1,0,none⟩=some (.int .i64 u)∧W.cell? ⟨w.heap.size+1,1,none⟩=some (.int .i64 v))∧W.cell? ⟨w.heap.size+1+1,0,none⟩=some (.int .i64 0)∧W.frozen? ⟨w.heap.size+1+1,0,none⟩=false∧W.cell? ⟨w.heap.size+1+1,1,none⟩=some (.int .i64 0)∧W.frozen? ⟨w.heap.size+1+1,1,none⟩=false):=fun W hW=>by
    have l0:=(show au (((w.alloc (.cells #[.int .i64 x,.int .i64 y] 328)).alloc (.cells #[.int .i64 u,.int .i64 v] 328)).alloc (.cells #[.int .i64 0,.int .i64 0] 328)) (w.heap.size) [.int .i64 x,.int .i64 y]from(((aO _ _ _).alloc _).alloc _)).below hW (by omega)
    have l1:=(show au (((w.alloc (.cells #[.int .i64 x,.int .i64 y] 328)).alloc (.cells #[.int .i64 u,.int .i64 v] 328)).alloc (.cells #[.int .i64 0,.int .i64 0] 328)) (w.heap.size+1) [.int .i64 u,.int .i64 v]from((ba _ _ _ _).alloc _)).below hW (by omega)
    have l2:=(show au (((w.alloc (.cells #[.int .i64 x,.int .i64 y] 328)).alloc (.cells #[.int .i64 u,.int .i64 v] 328)).alloc (.cells #[.int .i64 0,.int .i64 0] 328)) (w.heap.size+1+1) [.int .i64 0,.int .i64 0]from(dl _ _ _ _ _)).below hW (by omega)
    exact⟨⟨l0.at 0,l0.at 1,l1.at 0,l1.at 1⟩,l2.at 0,l2.fr 0,l2.at 1,l2.fr 1⟩
  generalize Da:(((w.alloc (.cells #[.int .i64 x,.int .i64 y] 328)).alloc (.cells #[.int .i64 u,.int .i64 v] 328)).alloc (.cells #[.int .i64 0,.int .i64 0] 328))=wa at Ca HK
  have Ea:=Hd Da
  clear Da
  have Ba:Below (w.heap.size+3) wa wa.drew:=(m5 _ _).drew
  go_enter func254,ntmps254
  go_wp2
  rw[Ea.o]
  obtain⟨-,t0,t1,t2,t3⟩:=HK.o _ (m5 _ _)
  have Fa:H9 (∀(W:World) (g0 g1:Value),(W.cell? ⟨w.heap.size,0,none⟩=some (.int .i64 x)∧W.cell? ⟨w.heap.size,1,none⟩=some (.int .i64 y)∧W.cell? ⟨w.heap.size+1,0,none⟩=some (.int .i64 u)∧W.cell? ⟨w.heap.size+1,1,none⟩=some (.int .i64 v))→((W.setCell ⟨w.heap.size+1+1,0,none⟩ g0).setCell ⟨w.heap.size+1+1,1,none⟩ g1).cell? ⟨w.heap.size,0,none⟩=some (.int .i64 x)∧((W.setCell ⟨w.heap.size+1+1,0,none⟩ g0).setCell ⟨w.heap.size+1+1,1,none⟩ g1).cell? ⟨w.heap.size,1,none⟩=some (.int .i64 y)∧((W.setCell ⟨w.heap.size+1+1,0,none⟩ g0).setCell ⟨w.heap.size+1+1,1,none⟩ g1).cell? ⟨w.heap.size+1,0,none⟩=some (.int .i64 u)∧((W.setCell ⟨w.heap.size+1+1,0,none⟩ g0).setCell ⟨w.heap.size+1+1,1,none⟩ g1).cell? ⟨w.heap.size+1,1,none⟩=some (.int .i64 v)):=fun W g0 g1 h=>by
    have Aa:∀(b:Nat) (o:Nat),b≠w.heap.size+1+1→((W.setCell ⟨w.heap.size+1+1,0,none⟩ g0).setCell ⟨w.heap.size+1+1,1,none⟩ g1).cell? ⟨b,o,none⟩=W.cell? ⟨b,o,none⟩:=fun b o hb=>
      (uV (w:=W.setCell ⟨w.heap.size+1+1,0,none⟩ g0) (a:=⟨w.heap.size+1+1,1,none⟩) (b:=⟨b,o,none⟩) (v:=g1) (h:=by intro e;simp only[Addr.mk.injEq]at e;omega)).trans (uV (w:=W) (a:=⟨w.heap.size+1+1,0,none⟩) (b:=⟨b,o,none⟩) (v:=g0) (h:=by intro e;simp only[Addr.mk.injEq]at e;omega))
    obtain⟨h0,h1,h2,h3⟩:=h
    exact⟨(Aa _ _ (by omega)).trans h0,(Aa _ _ (by omega)).trans h1,(Aa _ _ (by omega)).trans h2,(Aa _ _ (by omega)).trans h3⟩
  go_region_held3 (fun W=>W.cell? ⟨w.heap.size,0,none⟩=some (.int .i64 x)∧W.cell? ⟨w.heap.size,1,none⟩=some (.int .i64 y)∧W.cell? ⟨w.heap.size+1,0,none⟩=some (.int .i64 u)∧W.cell? ⟨w.heap.size+1,1,none⟩=some (.int .i64 v)) (first | with_reducible exact(HK.o _ Ba).1 | exact Fa.o _ _ _ (HK.o _ Ba).1)
    (first
      | (go_at_call_of 224 (Value.int .i64 x);refine(fj x u _ x0 x1 u0 u1).mono ?_;rintro e w1 ⟨rfl,rfl⟩)
      | (go_at_call_of 224 (Value.int .i64 y);refine(fj y v _ y0 y1 v0 v1).mono ?_;rintro e w2 ⟨rfl,rfl⟩))
  all_goals
    go_wp2
    refine m7 (v:=.agg #[.int .i64 ((x+65537-u)%65537),.int .i64 ((y+65537-v)%65537)]) (by simp[results,results254,go_sem,t0,t2]) rfl ⟨rfl,?_⟩
    exact((Ca.o.trans (Ba.mono (by omega))).setCell (by show w.heap.size≤w.heap.size+1+1;omega) _).setCell (by show w.heap.size≤w.heap.size+1+1;omega) _
def dj(zs ys:List Int)(i k t:Nat):Int:=if i≤t∧t<i+k then M.pm (zs.take (i+1)) ys t else M.pm (zs.take i) ys t
theorem lv(ys:List Int)(h:i<zs.length)(t:Nat):M.pm (zs.take (i+1)) ys t=(M.pm (zs.take i) ys t+(if i≤t then zs.getD i 0*ys.getD (t-i) 0 else 0))%65537:=by
 rw[←take_snoc h,M.pm_snoc,uZ,Nat.min_eq_left (Nat.le_of_lt h)]
theorem nT(zs ys:List Int)(N i:Nat):M.tab N (M.pm (zs.take i) ys)=M.tab N (dj zs ys i 0):=
 bH fun t _=>by unfold dj;rw[if_neg (by omega)]
theorem rN(zs ys:List Int)(i k:Nat):dj zs ys i k (i+k)=M.pm (zs.take i) ys (i+k):=by unfold dj;rw[if_neg (by omega)]
theorem pI(h:i<zs.length):(M.tab N (dj zs ys i k)).set (i+k) ((M.pm (zs.take i) ys (i+k)+zs.getD i 0*ys.getD k 0)%65537)=M.tab N (dj zs ys i (k+1)):=by
 rw[d9];apply bH;intro t _;unfold dj;by_cases e:t=i+k
 ·
  subst e;rw[if_pos rfl,if_pos (by omega),lv ys h,if_pos (by omega),Nat.add_sub_cancel_left]
 ·
  rw[if_neg e];by_cases h2:i≤t∧t<i+k
  ·rw[if_pos h2,if_pos (by omega)]
  ·rw[if_neg h2,if_neg (by omega)]
theorem rM(h:i<zs.length):M.tab N (dj zs ys i ys.length)=M.tab N (M.pm (zs.take (i+1)) ys):=by
 apply bH;intro t _;unfold dj;by_cases h2:i≤t∧t<i+ys.length
 ·rw[if_pos h2]
 ·
  rw[if_neg h2,lv ys h];have hb:=M.pm_bd (zs.take i) ys t;by_cases h3:i≤t
  ·rw[if_pos h3,M.getD_out (zs:=ys) (by omega),Int.mul_zero,Int.add_zero,Int.emod_eq_of_lt hb.1 hb.2]
  ·rw[if_neg h3,Int.add_zero,Int.emod_eq_of_lt hb.1 hb.2]
theorem rY{m:Nat}(w:World)(hz:aw w a n c zs)(hy:aw w b m d ys)(ha:M.allEl zs=true)(hb:M.allEl ys=true)(hn:n≤20000)(hm:m≤20000)(h0:0<n)(h1:0<m):
  Calls prog 218 #[.slice a n c,.slice b m d] w fun e w'=>∃a' l c',e=.returned (.slice a' l c')∧aC 2 w' w.heap.size a' l c' (M.pmul zs ys)∧m1 w w':=by
 obtain⟨b1,o1,rfl,Ea⟩:=hz.at h0;obtain⟨b2,o2,rfl,Fa⟩:=hy.at h1;have l1:b1<w.heap.size:=uP w _ (Ea 0 h0);have l2:b2<w.heap.size:=uP w _ (Fa 0 h1);have Gb:=Hd Ea;have Hb:=Hd Fa;have Ga:=Hd hz.len;have Ib:=Hd hy.len;have HA:=Hd ha;have HB:=Hd hb
 have HE:H9 (M.pmul zs ys=M.trim (M.tab (n+m-1) (M.pm zs ys))):=by
  show _=_;unfold M.pmul;rw[hz.len,hy.len,if_neg (by omega)]
 obtain⟨i0,hi,La,Na,Oa⟩:=info_parts bJ;obtain⟨N,hN⟩:∃N,N=n+m-1:=⟨_,rfl⟩;have HN:=Hd hN;have Pa:n+m=N+1:=(by omega);have bz:((n:Int)==0)=false:=(by simp;omega);have bm:((m:Int)==0)=false:=(by simp;omega);clear hz hy ha hb Ea Fa hN;have Aa:=Hd Pa;clear Pa;go_enter func218,ntmps218;(go_wp2_with(at_make;refine wpList_make_full _ rfl _ _ 24 rfl w.heap.size 2 i0 (it 0) 1 underlying24 hi La Na .i64 .i64 _ _ N rfl rfl (by have:=Aa.o;omega) (by have:=Aa.o;omega) (by rw[Oa];have:=Aa.o;omega) (by unfold maxLen;have:=Aa.o;omega) (m3 _) ?_));intro w1 Ha hg
 have Qa:H9 (aC 2 w1 w.heap.size (some ⟨w.heap.size,0,none⟩) N N (M.tab N (M.pm (zs.take 0) ys))):=by
  show w1.ownsRow _ _ _ _ _ _;rw[ef]at Ha
  have e:M.tab N (M.pm (zs.take 0) ys)=List.replicate N 0:=by
   apply List.ext_getElem (by simp[M.tab]);intro i h1 h2;simp[M.tab,M.pm]
  rw[e];exact Ha
 have Ra:=Hd (bt hg);clear Ha hg hi La Na Oa;go_wp2
 go_loopw [6] (fun i wr=>∃k:Nat,k≤n∧i=it k∧aC 2 wr w.heap.size (some ⟨w.heap.size,0,none⟩) N N (M.tab N (M.pm (zs.take k) ys))∧m1 w wr) (fun i _=>n-(intOf i).toNat)
 case atStart=>exact⟨0,by omega,rfl,Qa.o,Ra.o⟩
 case round=>
  obtain⟨i,hi,rfl,Sa,Ta⟩:=hrel;have Ua:=Hd Sa;have Ba:=Hd Ta;clear Sa Ta Qa Ra;by_cases Ia:i<n
  ·
   have HS:H9 (aC 2 wr w.heap.size (some ⟨w.heap.size,0,none⟩) N N (M.tab N (dj zs ys i 0))):=(by show aC _ _ _ _ _ _ _;rw[←nT];exact Ua.o);have hI:(i:Int)<(n:Int):=(by omega);go_wp2
   go_loopw [7] (fun q wv=>∃k:Nat,k≤m∧q=it k∧aC 2 wv w.heap.size (some ⟨w.heap.size,0,none⟩) N N (M.tab N (dj zs ys i k))∧m1 w wv) (fun q _=>m-(intOf q).toNat)
   case atStart=>exact⟨0,by omega,rfl,HS.o,Ba.o⟩
   case round=>
    obtain⟨k,hk,rfl,Va,Wa⟩:=hrel;have Ja:=Hd Va;have Ca:=Hd Wa;clear Va Wa;by_cases Jb:k<m
    ·
     have Xa:i+k<N:=(by have:=Aa.o;omega);have e1:wr.cell? ⟨b1,o1+i,none⟩=some (it (zs.getD i 0)):=(Ca.o.cell (p:=⟨b1,o1+i,none⟩) l1).trans (Gb.o i Ia);have e2:wr.cell? ⟨b2,o2+k,none⟩=some (it (ys.getD k 0)):=(Ca.o.cell (p:=⟨b2,o2+k,none⟩) l2).trans (Hb.o k Jb);obtain⟨g,Ka,_,_,Ya,Za⟩:=Ja.o.block (by omega);simp only[Option.some.injEq,Addr.mk.injEq,and_true]at Ka;have e3:=Ya (i+k) Xa;have f3:=Za (i+k);rw[←Ka]at e3 f3;rw[M.tab_get _ _ _ Xa,rN]at e3;have Da:H9 ((M.tab N (dj zs ys i k)).set (i+k) ((M.pm (zs.take i) ys (i+k)+zs.getD i 0*ys.getD k 0)%65537)=M.tab N (dj zs ys i (k+1))):=pI (by rw[Ga.o];exact Ia);have Ab:=M.el_at HA.o i;have Bb:=M.el_at HB.o k;have Cb:=M.pm_bd (zs.take i) ys (i+k);generalize zs.getD i 0=x at e1 Ab Da;generalize ys.getD k 0=y at e2 Bb Da;generalize M.pm (zs.take i) ys (i+k)=v at e3 Cb Da;obtain⟨x0,x1⟩:=Ab;obtain⟨y0,y1⟩:=Bb;obtain⟨v0,v1⟩:=Cb;obtain⟨m0,I⟩:=M.mul_bd x0 x1 y0 y1;have hJ:(k:Int)<(m:Int):=(by omega);have hK:(i:Int)+(k:Int)<(N:Int):=(by omega);have Ob:(0:Int)≤(i:Int)+(k:Int):=(by omega);have Pb:b1≠w.heap.size:=(by omega);have Qb:b2≠w.heap.size:=(by omega);clear Ka Ya Za;go_wp2
     go_region
     go_wp2;go_roundw
     case rel=>
      refine⟨k+1,by omega,by go_num,?_,(Ca.o.setCell (m3 _) _).drew⟩;rw[←Da.o];exact World.ownsRow.drew (Ja.o.set (i+k) _)
     case measure=>simp[intOf];omega
    ·
     have hkm':k=m:=by omega
     have HF:H9 (aC 2 wr w.heap.size (some ⟨w.heap.size,0,none⟩) N N (M.tab N (M.pm (zs.take (i+1)) ys))):=by
      show aC _ _ _ _ _ _ _;have h:=Ja.o;rw[hkm',←Ib.o,rM (by rw[Ga.o];exact Ia)]at h;exact h
     clear hkm';go_wp2;go_roundw
     case rel=>exact⟨i+1,by omega,by go_num,HF.o,Ca.o⟩
     case measure=>simp[intOf];omega
  ·
   have Db:i=n:=by omega
   have HF:H9 (aC 2 wr w.heap.size (some ⟨w.heap.size,0,none⟩) N N (M.tab N (M.pm zs ys))):=by
    show aC _ _ _ _ _ _ _;have h:=Ua.o;rw[uD (by rw[Ga.o,Db];exact m3 _)]at h;exact h
   have Kb:N≤1048576:=(by have:=Aa.o;omega);clear Db;(go_wp2_with fail);refine(cC _ HF.o.sees Kb).mono ?_;rintro e w4 ⟨a4,l4,c4,rfl,Eb,Fb⟩
   have Lb:H9 (aC 2 w4 w.heap.size a4 l4 c4 (M.pmul zs ys)):=by
    show aC _ _ _ _ _ _ _;rw[HE.o,←HN.o];exact Eb.mono Ba.o.size
   have Nb:=Ba.t Fb;clear Eb Fb;go_wp2;go_ret;exact⟨a4,l4,c4,rfl,Lb.o,Nb.o⟩
theorem fi{m:Nat}(w:World)(hz:aw w a n c zs)(hy:aw w b m d ys)(ha:M.allEl zs=true)(hb:M.allEl ys=true)(hn:n≤20000)(hm:m≤20000):
  Calls prog 218 #[.slice a n c,.slice b m d] w fun e w'=>∃a' l c',e=.returned (.slice a' l c')∧aC 2 w' w.heap.size a' l c' (M.pmul zs ys)∧m1 w w':=by
 by_cases h0:n=0
 ·
  have E:H9 (M.pmul zs ys=[]):=(by show _=_;unfold M.pmul;rw[if_pos (.inl (hz.len.trans h0))]);have bz:((n:Int)==0)=true:=(by simp[h0]);clear hz hy ha hb h0;go_enter func218,ntmps218;go_wp2;go_ret;refine⟨_,0,_,rfl,?_,(m5 _ _).alloc (m3 _) _⟩;rw[E.o];exact World.ownsRow_made w #[] 0 (m3 _) (by unfold maxLen;omega) rfl
 ·
  by_cases h1:m=0
  ·
   have E:H9 (M.pmul zs ys=[]):=(by show _=_;unfold M.pmul;rw[if_pos (.inr (hy.len.trans h1))]);have bz:((n:Int)==0)=false:=(by simp[h0]);have bm:((m:Int)==0)=true:=(by simp[h1]);clear hz hy ha hb h0 h1;go_enter func218,ntmps218;go_wp2;go_ret;refine⟨_,0,_,rfl,?_,(m5 _ _).alloc (m3 _) _⟩;rw[E.o];exact World.ownsRow_made w #[] 0 (m3 _) (by unfold maxLen;omega) rfl
  ·exact rY w hz hy ha hb hn hm (by omega) (by omega)
namespace M
theorem pm_set(g:List Int)(q:Int)(hk:k<O.length)(h0:O.getD k 0=0)(t:Nat):pm (O.set k q) g t=(pm O g t+(if k≤t then q*g.getD (t-k) 0 else 0))%65537:=by
 induction O generalizing k t with
 | nil=>simp at hk
 | cons c r ih=>
  cases k with
  | zero=>
   have hc:c=0:=h0;subst hc;rw[List.set_cons_zero,if_pos (Nat.zero_le _),Nat.sub_zero];show(q*g.getD t 0+(if t=0 then 0 else pm r g (t-1)))%65537=((0*g.getD t 0+(if t=0 then 0 else pm r g (t-1)))%65537+q*g.getD t 0)%65537;generalize q*g.getD t 0=p;generalize(if t=0 then 0 else pm r g (t-1))=s;rw[Int.zero_mul];omega
  | succ k=>
   rw[List.set_cons_succ];have h1:r.getD k 0=0:=(by rw[cons_getD,if_neg (by omega)]at h0;simpa using h0);show(c*g.getD t 0+(if t=0 then 0 else pm (r.set k q) g (t-1)))%65537=((c*g.getD t 0+(if t=0 then 0 else pm r g (t-1)))%65537+_)%65537;generalize c*g.getD t 0=p;by_cases ht:t=0
   ·rw[if_pos ht,if_pos ht,if_neg (by omega)];omega
   ·
    rw[if_neg ht,if_neg ht,ih (by simpa using hk) h1];by_cases h2:k+1≤t
    ·
     rw[if_pos (by omega),if_pos h2,show t-(k+1)=t-1-k by omega];generalize q*g.getD (t-1-k) 0=u;omega
    ·rw[if_neg (by omega),if_neg h2];omega
structure DInv(f g R O:List Int)(k:Nat):Prop where
 lr:R.length=f.length
 lo:O.length=f.length-g.length+1
 ar:allEl R=true
 ao:allEl O=true
 eq:∀t,f.getD t 0=(pm O g t+R.getD t 0)%65537
 zero:∀t,k+g.length-1≤t→R.getD t 0=0
 oz:∀j,j<k→O.getD j 0=0
def restAt(R g:List Int)(q:Int)(i j t:Nat):Int:=if i≤t∧t<i+j then(R.getD t 0+(65537-q)*g.getD (t-i) 0)%65537 else R.getD t 0
theorem pm_zeros(n:Nat)(g:List Int)(t:Nat):pm (List.replicate n 0) g t=0:=by
 induction n generalizing t with
 | zero=>rfl
 | succ n ih=>
  rw[List.replicate_succ];show(0*g.getD t 0+(if t=0 then 0 else pm (List.replicate n 0) g (t-1)))%65537=0;by_cases h:t=0
  ·rw[if_pos h];simp
  ·rw[if_neg h,ih];simp
theorem replicate_getD(n i:Nat):(List.replicate n (0:Int)).getD i 0=0:=by
 rw[m4,List.getElem?_replicate];split <;> rfl
theorem dinv_start(af:allEl f=true):DInv f g f (List.replicate (f.length-g.length+1) 0) (f.length-g.length+1):=by
 refine⟨rfl,by simp,af,?_,fun t=>?_,fun t ht=>getD_out (by omega),fun j _=>replicate_getD _ _⟩
 ·unfold allEl;rw[List.all_eq_true];intro x hx;rw[List.eq_of_mem_replicate hx];decide
 ·
  rw[pm_zeros,Int.zero_add];have:=el_at af t;rw[Int.emod_eq_of_lt this.1 this.2]
theorem lead_cancel{a b:Int}(ha:0≤a∧a<65537)(hb:0≤b∧b<65537)(b0:b≠0):a*inv b%65537*b%65537=a:=by
 have ea:=(el_iff a).2 ha;have eb:=(el_iff b).2 hb
 have h:mul (mul a (inv b)) b=a:=by
  rw[mul_assoc' ea (el_inv eb b0) eb,mul_comm' b (inv b),mul_inv eb b0,mul_one' ea]
 rw[mul_in (el_mul ea (el_inv eb b0)) eb,mul_in ea (el_inv eb b0)]at h;exact h
theorem dinv_step(ag:allEl g=true)(g0:0<g.length)(gl:g.getD (g.length-1) 0≠0)(h:DInv f g R O (k+1))(hk:k+g.length≤f.length)(q:Int)(hq:q=R.getD (k+g.length-1) 0*inv (g.getD (g.length-1) 0)%65537):
  DInv f g (tab f.length (restAt R g q k g.length)) (O.set k q) k:=by
 have Aa:∀t,(tab f.length (restAt R g q k g.length)).getD t 0=restAt R g q k g.length t:=fun t=>by
  rw[tab_getD];by_cases ht:t<f.length
  ·rw[if_pos ht]
  ·rw[if_neg ht];unfold restAt;rw[if_neg (by omega)];exact(getD_out (by rw[h.lr];omega)).symm
 have Ba:0≤q∧q<65537:=(by rw[hq];omega);have Ca:k<O.length:=(by rw[h.lo];omega);refine⟨tab_len _ _,by rw[List.length_set];exact h.lo,?_,?_,fun t=>?_,fun t ht=>?_,fun j hj=>?_⟩
 ·
  apply all_tab;intro t _;unfold restAt
  split
  ·exact el_mod _
  ·exact(el_iff _).2 (el_at h.ar t)
 ·
  unfold allEl;rw[List.all_eq_true];intro x hx
  rcases List.mem_or_eq_of_mem_set hx with hx | hx
  ·exact List.all_eq_true.1 h.ao x hx
  ·rw[hx];exact(el_iff _).2 Ba
 ·
  rw[Aa,pm_set g q Ca (h.oz k (by omega)),h.eq t];unfold restAt;by_cases h1:k≤t
  ·
   rw[if_pos h1];by_cases h2:t<k+g.length
   ·
    rw[if_pos ⟨h1,h2⟩,Int.sub_mul];generalize q*g.getD (t-k) 0=u;generalize pm O g t=v;generalize g.getD (t-k) 0=y;generalize R.getD t 0=x;omega
   ·rw[if_neg (by omega),getD_out (zs:=g) (by omega),Int.mul_zero];omega
  ·rw[if_neg h1,if_neg (by omega)];omega
 ·
  rw[Aa];unfold restAt;by_cases h2:t<k+g.length
  ·
   rw[if_pos ⟨by omega,h2⟩];have et:t=k+g.length-1:=(by omega);rw[show t-k=g.length-1 by omega,Int.sub_mul];have hc:=lead_cancel (el_at h.ar (k+g.length-1)) (el_at ag (g.length-1)) gl;rw[←hq,←et]at hc;have hb:=el_at h.ar t;generalize q*g.getD (g.length-1) 0=u at *;generalize g.getD (g.length-1) 0=y;generalize R.getD t 0=x at *;omega
  ·rw[if_neg (by omega)];exact h.zero t (by omega)
 ·rw[m4,List.getElem?_set,if_neg (by omega),←m4];exact h.oz j (by omega)
theorem neat_short{m:Nat}(hn:neat L)(h:∀t,m≤t→L.getD t 0=0):L.length≤m:=by
 rcases hn with e | e
 ·omega
 ·
  rcases Nat.lt_or_ge m L.length with h1 | h1
  ·exfalso;exact e (h _ (by omega))
  ·exact h1
theorem dinv_end(g0:0<g.length)(h:DInv f g R O 0):Div f g (trim O) (trim R):=by
 refine⟨neat_trim _,neat_trim _,all_trim h.ao,all_trim h.ar,?_,fun i=>by rw[pm_trim,getD_trim];exact h.eq i⟩;have:=neat_short (m:=g.length-1) (neat_trim R) (fun t ht=>by rw[getD_trim];exact h.zero t (by omega));omega
theorem div_short(nf:neat f)(af:allEl f=true)(hl:f.length<g.length):Div f g [] f:=
 ⟨.inl rfl,nf,rfl,af,hl,fun i=>by
  have:=el_at af i;show _=(0+_)%65537;rw[Int.zero_add,Int.emod_eq_of_lt this.1 this.2]⟩
theorem horner_short{c:Int}(hc:0≤c∧c<65537)(h:Div f g q r)(hs:(trim (c::r)).length<g.length):Div (c::f) g (trim (0::q)) (trim (c::r)):=by
 refine⟨neat_trim _,neat_trim _,all_trim (all_cons (by omega) h.aq),all_trim (all_cons hc h.ar),hs,fun i=>?_⟩;rw[pm_trim,getD_trim,cons_getD,cons_getD];show _=((0*g.getD i 0+(if i=0 then 0 else pm q g (i-1)))%65537+_)%65537;rw[Int.zero_mul];by_cases h0:i=0
 ·rw[if_pos h0,if_pos h0,if_pos h0];omega
 ·
  rw[if_neg h0,if_neg h0,if_neg h0,h.eq];have:=pm_bd q g (i-1);omega
theorem horner_full{c:Int}(ag:allEl g=true)(ng:neat g)(hc:0≤c∧c<65537)(h:Div f g q r)(hs:(trim (c::r)).length=g.length)(u:Int)
 (hu:u=(trim (c::r)).getD ((trim (c::r)).length-1) 0*inv (g.getD (g.length-1) 0)%65537):
  Div (c::f) g (trim (u::q)) (trim (padd (trim (c::r)) (trim (pscale (trim (pscale g u)) 65536)))):=by
 have g0:0<g.length:=by have:=h.short;omega
 have gl:g.getD (g.length-1) 0≠0:=by
  rcases ng with e | e
  ·omega
  ·exact e
 have Ba:0≤u∧u<65537:=(by rw[hu];omega);have ac:=all_trim (all_cons hc h.ar)
 have Aa:∀t,(trim (padd (trim (c::r)) (trim (pscale (trim (pscale g u)) 65536)))).getD t 0=((trim (c::r)).getD t 0+g.getD t 0*u%65537*65536%65537)%65537:=fun t=>by
  rw[getD_trim,padd_getD,getD_trim (pscale _ _),pscale_getD,getD_trim (pscale g u),pscale_getD]
 have hz:∀t,g.length-1≤t→(trim (padd (trim (c::r)) (trim (pscale (trim (pscale g u)) 65536)))).getD t 0=0:=fun t ht=>by
  rw[Aa];by_cases et:t=g.length-1
  ·
   have Ca:=lead_cancel (el_at ac ((trim (c::r)).length-1)) (el_at ag (g.length-1)) gl;rw[←hu,hs,←et,Int.mul_comm]at Ca;have hb:=el_at ac t;generalize g.getD t 0*u=v at *;generalize(trim (c::r)).getD t 0=x at *;omega
  ·rw[getD_out (zs:=trim (c::r)) (by omega),getD_out (zs:=g) (by omega)];simp
 refine⟨neat_trim _,neat_trim _,all_trim (all_cons Ba h.aq),all_trim (all_padd _ _),?_,fun i=>?_⟩
 ·have:=neat_short (m:=g.length-1) (neat_trim _) hz;omega
 ·
  rw[pm_trim,Aa,getD_trim,cons_getD,cons_getD];show _=((u*g.getD i 0+(if i=0 then 0 else pm q g (i-1)))%65537+_)%65537;rw[Int.mul_comm u];generalize g.getD i 0*u=v;by_cases h0:i=0
  ·rw[if_pos h0,if_pos h0,if_pos h0];omega
  ·
   rw[if_neg h0,if_neg h0,if_neg h0,h.eq];have:=pm_bd q g (i-1);omega
end M
namespace M
theorem div_exists(ag:allEl g=true)(ng:neat g)(g0:0<g.length)(f:List Int)(af:allEl f=true):∃q r,Div f g q r:=by
 induction f with
 | nil=>exact⟨[],[],div_short (.inl rfl) rfl g0⟩
 | cons c f ih=>
  have hc:=(el_iff c).1 (by unfold allEl at af;rw[List.all_cons]at af;simp only[uU]at af;exact af.1);have hf:allEl f=true:=(by unfold allEl at af ⊢;rw[List.all_cons]at af;simp only[uU]at af;exact af.2);obtain⟨q,r,h⟩:=ih hf
  have hl:(trim (c::r)).length≤g.length:=by
   have h1:=len_trim (c::r);rw[List.length_cons]at h1;have h2:=h.short;omega
  by_cases hs:(trim (c::r)).length=g.length
  ·exact⟨_,_,horner_full ag ng hc h hs _ rfl⟩
  ·exact⟨_,_,horner_short hc h (by omega)⟩
theorem div_ev(h:Div f g q r)(x:Int):ev f x=(ev q x*ev g x+ev r x)%65537:=by
 have e:ev f x=ev (padd (pmul q g) r) x:=ev_ext x fun i=>by rw[padd_getD,pmul_getD];exact h.eq i
 rw[e,ev_padd,ev_pmul];omega
def lin(a:Int):List Int:=[(65537-a)%65537,1]
theorem lin_all(a:Int):allEl (lin a)=true:=by
 unfold lin allEl;simp only[List.all_cons,List.all_nil,Bool.and_true,uU];exact⟨el_mod _,by decide⟩
theorem lin_neat(a:Int):neat (lin a):=.inr (by show(1:Int)≠0;decide)
theorem lin_ev(a x:Int):ev (lin a) x=(x+(65537-a))%65537:=by
 show((0*x+1)%65537*x+(65537-a)%65537)%65537=_;rw[Int.zero_mul];show(1*x+(65537-a)%65537)%65537=_;rw[Int.one_mul];omega
theorem roots_few(L:Nat):∀(D xs:List Int),neat D→allEl D=true→D.length=L+1→xs.Nodup→(∀x∈xs,0≤x∧x<65537∧ev D x=0)→xs.length≤L:=by
 induction L with
 | zero=>
  intro D xs hn ha hl _ hr
  cases xs with
  | nil=>exact m3 _
  | cons a t=>
   exfalso
   have h:=(hr a (by simp)).2.2
   match D,hl with
   | [c],_=>
    have hc:c≠0:=by
     rcases hn with e | e
     ·simp at e
     ·exact e
    have hb:=el_at ha 0;have hb':0≤c∧c<65537:=hb;have h2:(0*a+c)%65537=0:=h;rw[Int.zero_mul]at h2;omega
 | succ L ih=>
  intro D xs hn ha hl hd hr
  cases xs with
  | nil=>exact Nat.zero_le _
  | cons a t=>
   have Ca:=hr a (by simp);obtain⟨q,r,h⟩:=div_exists (lin_all a) (lin_neat a) (by simp[lin]) D ha;have Da:r.length<2:=h.short;have e0:=div_ev h a;have l0:ev (lin a) a=0:=(by rw[lin_ev];omega);rw[Ca.2.2,l0,Int.mul_zero,Int.zero_add]at e0;have Ha:=ev_bd r a;have er:ev r a=0:=by omega
   have Ea:r=[]:=by
    match r,Da,h.nr,h.ar,er with
    | [],_,_,_,_=>rfl
    | [c],_,nr,ar,er=>
     exfalso
     have hb:0≤c∧c<65537:=el_at ar 0;have h2:(0*a+c)%65537=0:=er;rw[Int.zero_mul]at h2
     rcases nr with e | e
     ·simp at e
     ·apply e;show c=0;omega
   subst Ea
   have Fa:0<q.length:=by
    rcases Nat.eq_zero_or_pos q.length with e | e
    ·
     exfalso
     have hq:=List.eq_nil_of_length_eq_zero e;subst hq
     rcases hn with e2 | e2
     ·omega
     ·apply e2;rw[h.eq];rfl
    ·exact e
   have Ga:q.length=L+1:=by
    have hp:D=pmul q (lin a):=neat_ext hn (neat_pmul _ _) fun i=>by
     rw[pmul_getD,h.eq];have:=pm_bd q (lin a) i;show(pm q (lin a) i+0)%65537=_;omega
    have h1:=pmul_full h.aq (lin_all a) h.nq (lin_neat a) Fa (by simp[lin]);rw[←hp,hl]at h1;simp only[lin,List.length_cons,List.length_nil]at h1;omega
   have Ba:=List.nodup_cons.1 hd
   have Ia:=ih q t h.nq h.aq Ga Ba.2 fun x hx=>by
    have Aa:=hr x (by simp[hx]);refine⟨Aa.1,Aa.2.1,?_⟩;have e1:=div_ev h x;have lx:=lin_ev a x;have Ja:x≠a:=fun e=>Ba.1 (by rw[←e];exact hx);have hb:=ev_bd (lin a) x;have l1:ev (lin a) x≠0:=by rw[lx];omega
    have e2:ev q x*ev (lin a) x%65537=0:=by
     rw[Aa.2.2]at e1;have e3:ev ([]:List Int) x=0:=rfl;rw[e3,Int.add_zero]at e1;exact e1.symm
    rcases Int.lt_trichotomy (ev q x) 0 with hc | hc | hc
    ·have:=(ev_bd q x).1;omega
    ·exact hc
    ·
     exfalso
     exact prod_ne ((el_iff _).2 (ev_bd q x)) ((el_iff _).2 hb) (by omega) l1 e2
   simp only[List.length_cons];omega
theorem pscale_len'(zs:List Int)(c:Int):(pscale zs c).length=zs.length:=by simp[pscale]
theorem interp_unique{h:List Int}(nf:neat f)(nh:neat h)(af:allEl f=true)(ah:allEl h=true)(lf:f.length≤xs.length)(lh:h.length≤xs.length)(hd:xs.Nodup)(hx:∀x∈xs,0≤x∧x<65537∧ev f x=ev h x):f=h:=by
 have hD:trim (padd f (pscale h 65536))=[]:=by
  rcases Nat.eq_zero_or_pos (trim (padd f (pscale h 65536))).length with e | e
  ·exact List.eq_nil_of_length_eq_zero e
  ·
   exfalso
   obtain⟨L,hL⟩:∃L,(trim (padd f (pscale h 65536))).length=L+1:=⟨(trim (padd f (pscale h 65536))).length-1,by omega⟩
   have h1:=roots_few L _ xs (neat_trim _) (all_trim (all_padd _ _)) hL hd fun x hxx=>by
    obtain⟨a,b,c⟩:=hx x hxx;refine⟨a,b,?_⟩;rw[ev_trim,ev_padd,ev_pscale,c];have:=ev_bd h x;omega
   have h2:=len_trim (padd f (pscale h 65536));rw[padd_len,pscale_len',hL]at h2;omega
 refine neat_ext nf nh fun i=>?_;have hi:(trim (padd f (pscale h 65536))).getD i 0=0:=(by rw[hD];rfl);rw[getD_trim,padd_getD,pscale_getD]at hi;have a1:=el_at af i;have a2:=el_at ah i;omega
end M
structure uw where
 s:Int×Int
 e:Int×Int
 n:Int
theorem c9(n lo hi:Int)(w:World):Rq 58 #[.int .i64 n,.int .i64 lo,.int .i64 hi] w (.bool (decide (lo≤n)&&decide (n≤hi))):=by
 by_cases h1:lo≤n
 ·
  go_enter func58,ntmps58;go_wp2;go_ret;exact⟨by simp[h1],rfl⟩
 ·
  go_enter func58,ntmps58;go_wp2;go_ret;exact⟨by simp;omega,rfl⟩
theorem M.root_ne(h:M.two (n:Int)=true)(h0:0<n):M.root n≠0:=by
 intro e;have h1:=M.root_n h;rw[e]at h1;obtain⟨k,rfl⟩:∃k,n=k+1:=⟨n-1,by omega⟩;rw[Int.pow_succ,Int.mul_zero]at h1;unfold M.cg at h1;omega
theorem rI(st:Int)(h:i<zs.length):(M.pv (zs.take i) st%65537+zs.getD i 0*(st ^ i%65537))%65537=M.pv (zs.take (i+1)) st%65537:=by
 rw[M.pv_take _ _ h];exact(M.cg_mod _).add ((M.cg.refl _).mul (M.cg_mod _))
theorem sA(st:Int)(i:Nat):st ^ i%65537*st%65537=st ^ (i+1)%65537:=by
 rw[M.mm,Int.pow_succ]
def fu(zs:List Int)(s:Int)(N k:Nat):List Int:=M.tab N (fun i=>if i<k then M.frc zs s i else 0)
theorem nF(zs:List Int)(s:Int)(N:Nat):List.replicate N 0=fu zs s N 0:=by
 refine M.tab_ext (by simp) fun i hi=>?_;rw[if_neg (by omega),m4,m6 (by simpa using hi)];simp
theorem py(zs:List Int)(s:Int)(N:Nat):fu zs s N N=M.tab N (M.frc zs s):=bH fun _ hi=>if_pos hi
theorem nD(zs:List Int)(s:Int):(fu zs s N k).set k (M.frc zs s k)=fu zs s N (k+1):=by
 unfold fu;rw[d9];refine bH fun i _=>?_;by_cases e:i=k
 ·subst e;rw[if_pos rfl,if_pos (by omega)]
 ·
  rw[if_neg e];by_cases e2:i<k
  ·rw[if_pos e2,if_pos (by omega)]
  ·rw[if_neg e2,if_neg (by omega)]
theorem io(s:Int)(w:World)(hz:aw w la N lc zs)(az:M.allEl zs=true)(hp:M.ptOk N s=true):
  Calls prog 124 #[.slice la N lc,.int .i64 s] w fun e w'=>∃a' m c',e=.returned (.slice a' m c')∧aC 2 w' w.heap.size a' m c' (M.frs zs s)∧m1 w w':=by
 have HZ:=Hd hz;have HA:=Hd az;obtain⟨h1,h2,h3⟩:=M.ptOk_parts hp;obtain⟨s0,s1⟩:=(M.el_iff s).1 h2;obtain⟨kk,Ua,hN,Va⟩:=ry h1;clear Ua;have Wa:=Hd (M.inv_in (M.root_el (M.two64_two h1)) (M.root_ne (M.two64_two h1) Va));have Xa:H9 (M.inv (N:Int)=M.pw (N:Int) 65535):=M.inv_in ((M.el_iff _).2 ⟨by omega,by omega⟩) (by omega);have Ya:=Hd (M.inv_in h2 h3)
 have HM:H9 (∀k,M.pv zs (M.pw (M.pw (M.root N) 65535) k)%65537*M.pw N 65535%65537*M.pw (M.pw s 65535) k%65537=M.frc zs s k):=fun k=>by
  have:=nH zs s k;rw[hz.len]at this;exact this
 have HF:H9 (M.trim (M.tab N (M.frc zs s))=M.frs zs s):=(by show _=_;unfold M.frs;rw[hz.len]);obtain⟨r0,r1⟩:=M.pw_bd (M.root N) 65535;obtain⟨n0,n1⟩:=M.pw_bd (N:Int) 65535;obtain⟨u0,u1⟩:=M.pw_bd s 65535;clear hz az h1 h2 h3 hp;go_enter func124,ntmps124;(go_wp2_with fail);refine(dZ N _).mono ?_;rintro e w ⟨rfl,rfl⟩;(go_wp2_with fail);refine(dU (M.root N) _).mono ?_;rintro e w ⟨rfl,rfl⟩;rw[Wa.o];(go_wp2_with fail);refine(dU (N:Int) _).mono ?_;rintro e w ⟨rfl,rfl⟩;rw[Xa.o];(go_wp2_with fail);refine(dU s _).mono ?_;rintro e w ⟨rfl,rfl⟩;rw[Ya.o];generalize M.pw (M.root N) 65535=bk at *;generalize M.pw (N:Int) 65535=sl at *;generalize M.pw s 65535=us at *;obtain⟨i0,hi,Ea,Fa,Ga⟩:=info_parts bJ;(go_wp2_with(at_make;refine wpList_make_full _ rfl _ _ 24 rfl w.heap.size 2 i0 (it 0) 1 underlying24 hi Ea Fa .i64 .i64 _ _ N rfl rfl rfl rfl (by rw[Ga];omega) (by unfold maxLen;omega) (m3 _) ?_));intro w1 Ba hg
 have HO:H9 (aC 2 w1 w.heap.size (some ⟨w.heap.size,0,none⟩) N N (fu zs s N 0)):=by
  show w1.ownsRow _ _ _ _ _ _;rw[ef,nF zs s]at Ba;exact Ba
 have HB:=Hd (bt hg);clear Ba hg hi Ea Fa Ga;go_wp2
 go_loopw [10] (fun i wr=>∃k:Nat,k≤N∧i=it k∧aC 2 wr w.heap.size (some ⟨w.heap.size,0,none⟩) N N (fu zs s N k)∧m1 w wr) (fun i _=>N-(intOf i).toNat)
 case atStart=>exact⟨0,by omega,rfl,HO.o,HB.o⟩
 case round=>
  obtain⟨k,hk,rfl,Ha,Ia⟩:=hrel;have Ca:=Hd Ha;have Aa:=Hd Ia;clear Ha Ia HO HB;by_cases Za:k<N
  ·
   have hI:(k:Int)<(N:Int):=(by omega);have Ja:=Hd (HM.o k);obtain⟨t0,t1⟩:=M.pw_bd bk k;obtain⟨v0,v1⟩:=M.pw_bd us k;(go_wp2_with fail);refine(dy bk k _ r0 r1 (by omega)).mono ?_;rintro e wr ⟨rfl,rfl⟩;generalize M.pw bk k=st at *;generalize Ka:M.pw us k=pu at Ja v0 v1;have Ab:=Hd Ka;clear Ka;have Bb:=Hd (HZ.o.below Aa.o);go_wp2
   go_loop [11,12,14] (fun a x i=>∃j:Nat,j≤N∧i=it j∧a=it (M.pv (zs.take j) st%65537)∧x=it (st ^ j%65537)) (fun _ _ i=>N-(intOf i).toNat)
   case atStart=>exact⟨0,by omega,rfl,rfl,by rw[Int.pow_zero];rfl⟩
   case round=>
    obtain⟨j,hj,rfl,rfl,rfl⟩:=hrel;by_cases La:j<N
    ·
     obtain⟨b1,o1,rfl,Na⟩:=Bb.o.at (by omega);have d1:=Na j La;have Oa:=M.el_at HA.o j;have Pa:=Hd (rI st (by rw[HZ.o.len];exact La));have Cb:=Hd (sA st j);have Da:0≤M.pv (zs.take j) st%65537∧M.pv (zs.take j) st%65537<65537:=(by omega);have Db:0≤st ^ j%65537∧st ^ j%65537<65537:=(by omega);generalize zs.getD j 0=x at d1 Oa Pa;generalize M.pv (zs.take j) st%65537=a at *;generalize st ^ j%65537=y at *;obtain⟨x0,x1⟩:=Oa;obtain⟨a0,a1⟩:=Da;obtain⟨y0,y1⟩:=Db;obtain⟨m0,I⟩:=M.mul_bd x0 x1 y0 y1;obtain⟨J,Q⟩:=M.mul_bd y0 y1 t0 t1;have hJ:(j:Int)<(N:Int):=(by omega);clear Na;go_wp2
     go_round
     case rel=>exact⟨j+1,by omega,by go_num,by rw[Pa.o],by rw[Cb.o]⟩
     case measure=>simp[intOf];omega
    ·
     have Eb:j=N:=(by omega);subst Eb;have HT:H9 (M.pv (zs.take j) st=M.pv zs st):=(by show _=_;rw[uD (by rw[HZ.o.len];exact m3 _)]);have Da:0≤M.pv (zs.take j) st%65537∧M.pv (zs.take j) st%65537<65537:=(by omega);have HV:H9 (M.pv (zs.take j) st%65537*sl%65537*pu%65537=M.frc zs s k):=(by show _=_;rw[HT.o];exact Ja.o);generalize M.pv (zs.take j) st%65537=a at *;obtain⟨a0,a1⟩:=Da;obtain⟨m0,I⟩:=M.mul_bd a0 a1 n0 n1;have b0:0≤a*sl%65537:=Int.emod_nonneg _ (by decide);have b1:a*sl%65537<65537:=Int.emod_lt_of_pos _ (by decide);obtain⟨J,Q⟩:=M.mul_bd b0 b1 v0 v1;obtain⟨g,Qa,_,_,Ra,hf⟩:=Ca.o.block (by omega);simp only[Option.some.injEq,Addr.mk.injEq,and_true]at Qa;subst Qa;have d2:=Ra k Za;have f2:=hf k;have Fb:H9 ((fu zs s j k).set k (M.frc zs s k)=fu zs s j (k+1)):=nD zs s;clear Ra hf;(go_wp2_with fail);refine(dy us k _ u0 u1 (by omega)).mono ?_;rintro e wr ⟨rfl,rfl⟩;rw[Ab.o];go_wp2;go_roundw
     case rel=>exact⟨k+1,by omega,by go_num,by rw[←Fb.o,←HV.o];exact Ca.o.set k _,Aa.o.setCell (m3 _) _⟩
     case measure=>simp[intOf];omega
  ·
   have Gb:k=N:=(by omega);subst Gb;(go_wp2_with fail);refine(cC _ Ca.o.sees (by omega)).mono ?_;rintro e w2 ⟨a2,J,c2,rfl,Sa,Ta⟩
   have Hb:H9 (aC 2 w2 w.heap.size a2 J c2 (M.frs zs s)):=by
    show aC _ _ _ _ _ _ _;rw[←HF.o,←py];exact Sa.mono Aa.o.size
   have Ib:=Aa.t Ta;clear Sa Ta;go_wp2;go_ret;exact⟨a2,J,c2,rfl,Hb.o,Ib.o⟩
def jO(zs:List Int)(s m:Int):Bool:=M.frOk zs s&&decide (((jS zs s).length:Int)≤m)
theorem dN(s m:Int)(w:World)(hz:aw w la N lc zs):
  Rt 247 #[.slice la N lc,.int .i64 s,.int .i64 m] w (.bool (jO zs s m)):=by
 have HZ:=Hd hz;clear hz
 cases h:M.frOk zs s with
 | false=>
  have E:H9 (jO zs s m=false):=(by show _=_;simp[jO,h]);go_enter func247,ntmps247;(go_wp2_with fail);refine(eL s _ HZ.o).mono ?_;rintro e w1 ⟨a1,I,c1,rfl,hm,Ba,Aa⟩;have Ca:=Hd Aa;clear Ba Aa;go_wp2;go_ret;exact⟨aD E.o.symm,Ca.o⟩
 | true=>
  have E:H9 (jO zs s m=decide (((jS zs s).length:Int)≤m)):=(by show _=_;simp[jO,h]);go_enter func247,ntmps247;(go_wp2_with fail);refine(eL s _ HZ.o).mono ?_;rintro e w1 ⟨a1,I,c1,rfl,hm,Ba,Aa⟩;have HL:=Hd Ba.len;have Ca:=Hd Aa;clear Ba Aa;go_wp2;go_ret;exact⟨aD (by rw[E.o,HL.o]),Ca.o⟩
namespace M
theorem cg_ne{a:Int}(h:el a=true)(h0:a≠0):¬ cg a 0:=by
 have:=(el_iff a).1 h;unfold cg;omega
theorem ptOk_two{s:Int}(h:ptOk n s=true):two (n:Int)=true:=two64_two (ptOk_parts h).1
theorem pt_inj{s:Int}(h:ptOk n s=true)(hij:i<j)(hj:j<n):s*root n ^ i%65537≠s*root n ^ j%65537:=by
 intro e;obtain⟨h1,h2,h3⟩:=ptOk_parts h;have hs:=cg_ne h2 h3;have h0:0<n:=(by omega);have hw:=cg_ne (root_el (ptOk_two h)) (root_ne (ptOk_two h) h0);obtain⟨d,rfl⟩:∃d,j=i+d:=⟨j-i,by omega⟩;have e2:cg (s*root n ^ i) (s*root n ^ (i+d)):=e
 have e3:cg (s*root n ^ i*(root n ^ d-1)) 0:=by
  have:=cg_0sub e2.symm;rw[Int.pow_add]at this;refine cg.trans (cg_of_eq ?_) this;generalize root n ^ i=A;generalize root n ^ d=B
  grind
 have Aa:¬ cg (s*root n ^ i) 0:=fun e=>pow_ne hw i (cg_zero e hs);exact root_ord (ptOk_two h) (by omega) (by omega) (cg_sub0 (cg_zero e3 Aa))
theorem nodup_tab{f:Nat→Int}(h:∀i j,i<j→j<N→f i≠f j):(tab N f).Nodup:=by
 unfold tab List.Nodup;rw[List.pairwise_map];exact(List.pairwise_lt_range (n:=N)).imp_of_mem fun _ hj hlt=>h _ _ hlt (List.mem_range.1 hj)
theorem gp_nodup{s:Int}(h:ptOk n s=true):(gp s (root n) n).Nodup:=nodup_tab fun _ _ hij hj=>pt_inj h hij hj
theorem gp_get(s q:Int)(n i:Nat)(h:i<n):(gp s q n).getD i 0=s*q ^ i%65537:=tab_get _ _ _ h
theorem frs_ev{s:Int}(h:frOk v s=true)(hj:j<v.length):ev (frs v s) (s*root v.length ^ j%65537)=v.getD j 0:=by
 obtain⟨hp,ha⟩:ptOk v.length s=true∧allEl v=true:=by unfold frOk at h;simpa using h
 obtain⟨h1,h2,h3⟩:=ptOk_parts hp;have h0:0<v.length:=(by omega);have hb:=two64_bd h1;have hw:=cg_ne (root_el (ptOk_two hp)) (root_ne (ptOk_two hp) h0);have hn:¬ cg (v.length:Int) 0:=by unfold cg;omega
 have key:=interp (n:=v.length) (l:=v) (out:=tab v.length (frc v s)) (s:=s) (si:=pw s 65535) (w:=root v.length) (wi:=pw (root v.length) 65535) (ni:=pw v.length 65535) rfl (tab_len _ _) (cg_inv (cg_ne h2 h3)) (cg_inv hw) (by rw[Int.mul_comm];exact cg_inv hn) (root_n (ptOk_two hp)) (fun d a b=>root_ord (ptOk_two hp) a b) (fun k hk=>by
  rw[tab_get _ _ _ hk];unfold frc;refine(cg_mod _).trans (((cg_mod _).mul (cg_mod _)).trans (cg_of_eq ?_));exact Int.mul_comm _ _) hj
 unfold frs;rw[ev_trim,ev_pv];have e1:=pv_cg (cg_mod (s*root v.length ^ j)) (tab v.length (frc v s));have e2:=e1.trans key;have hv:=el_at ha j;unfold cg at e2;omega
theorem frs_all(v:List Int)(s:Int):allEl (frs v s)=true:=all_trim (all_tab fun i _=>(el_iff _).2 ⟨by unfold frc;omega,by unfold frc;omega⟩)
theorem frs_neat(v:List Int)(s:Int):neat (frs v s):=neat_trim _
end M
namespace M
theorem cg_lt'{a b:Int}(h:cg a b)(a0:0≤a)(a1:a<65537):a=b%65537:=by unfold cg at h;omega
theorem len_padd_trim(a b:List Int):(trim (padd a b)).length≤max a.length b.length:=by
 have:=len_trim (padd a b);rw[padd_len]at this;exact this
theorem len_pscale_trim(a:List Int)(c:Int):(trim (pscale a c)).length≤a.length:=by
 have:=len_trim (pscale a c);rw[pscale_len']at this;exact this
def turn(f:List Int)(g:Int):List Int:=trim (tab f.length (fun i=>f.getD i 0*(g ^ i%65537)%65537))
theorem ev_turn(f:List Int)(g z:Int):ev (turn f g) z=ev f (g*z%65537):=by
 unfold turn;rw[ev_trim,ev_pv,ev_pv]
 have h:=pv_scale (zs:=f) (ys:=tab f.length (fun i=>f.getD i 0*(g ^ i%65537)%65537)) g z (tab_len _ _) (fun i hi=>by
  rw[tab_get _ _ _ hi];exact(cg_mod _).trans ((cg.refl _).mul (cg_mod _)))
 exact h.trans (pv_cg (cg_mod _).symm f)
theorem len_turn(f:List Int)(g:Int):(turn f g).length≤f.length:=by
 have:=len_trim (tab f.length (fun i=>f.getD i 0*(g ^ i%65537)%65537));rw[tab_len]at this;exact this
theorem all_turn(f:List Int)(g:Int):allEl (turn f g)=true:=all_trim (all_tab fun i _=>(el_iff _).2 ⟨by omega,by omega⟩)
def rl(r:Rl)(x y:List Int):List Int:=
 trim (padd (trim (padd (trim (padd (trim (padd (trim (padd (trim (pscale (pmul x x) r.xx)) (trim (pscale (pmul x y) r.xy)))) (trim (pscale (pmul y y) r.yy)))) (trim (pscale x r.x)))) (trim (pscale y r.y)))) (trim [r.k]))
theorem ev_one(k z:Int):ev [k] z=k%65537:=by
 show(0*z+k)%65537=_;rw[Int.zero_mul,Int.zero_add]
theorem ev_rl(r:Rl)(x y:List Int)(z:Int):ev (rl r x y) z=r.app (ev x z) (ev y z):=by
 unfold rl Rl.app;simp only[ev_trim,ev_padd,ev_pscale,ev_pmul,ev_one];simp only[mL,aL,aR]
 congr 1
 grind
theorem all_rl(r:Rl)(x y:List Int):allEl (rl r x y)=true:=all_trim (all_padd _ _)
theorem len_rl(r:Rl)(h0:1≤n)(hx:x.length≤n)(hy:y.length≤n):(rl r x y).length≤2*n-1:=by
 unfold rl;have a1:=len_pscale_trim (pmul x x) r.xx;have a2:=len_pscale_trim (pmul x y) r.xy;have a3:=len_pscale_trim (pmul y y) r.yy;have b1:=pmul_len x x;have b2:=pmul_len x y;have b3:=pmul_len y y;have a4:=len_pscale_trim x r.x;have a5:=len_pscale_trim y r.y;have a6:=len_trim [r.k];rw[List.length_singleton]at a6;have c1:=len_padd_trim (trim (pscale (pmul x x) r.xx)) (trim (pscale (pmul x y) r.xy));generalize trim (padd (trim (pscale (pmul x x) r.xx)) (trim (pscale (pmul x y) r.xy)))=L1 at *;have c2:=len_padd_trim L1 (trim (pscale (pmul y y) r.yy));generalize trim (padd L1 (trim (pscale (pmul y y) r.yy)))=L2 at *;have c3:=len_padd_trim L2 (trim (pscale x r.x));generalize trim (padd L2 (trim (pscale x r.x)))=L3 at *;have c4:=len_padd_trim L3 (trim (pscale y r.y));generalize trim (padd L3 (trim (pscale y r.y)))=L4 at *;have c5:=len_padd_trim L4 (trim [r.k]);omega
def left(f rule:List Int)(g last:Int):List Int:=pmul (trim (padd (turn f g) (trim (pscale rule 65536)))) [sub 0 last,1]
theorem ev_left(f rule:List Int)(g last z:Int)(hl:el last=true):ev (left f rule g last) z=(ev f (g*z%65537)-ev rule z)*(z-last)%65537:=by
 unfold left;rw[ev_pmul,ev_trim,ev_padd,ev_trim,ev_pscale,ev_turn,sub_in (by decide) hl];show cg _ _;refine cg.mul ((cg_mod _).trans (((cg.refl _).add ((cg_mod _).trans ((cg.refl _).mul (show cg 65536 (-1) by unfold cg;decide)))).trans (cg_of_eq (by omega)))) ?_;show cg ((((0*z+1)%65537)*z+(0+65537-last)%65537)%65537) _;rw[Int.zero_mul];show cg ((1*z+(0+65537-last)%65537)%65537) _;unfold cg;omega
theorem len_left{rule:List Int}{g last:Int}(h0:1≤n)(hf:f.length≤n)(hr:rule.length≤2*n-1):(left f rule g last).length≤2*n:=by
 unfold left;have h1:=pmul_len (trim (padd (turn f g) (trim (pscale rule 65536)))) [sub 0 last,1];have h2:=len_padd_trim (turn f g) (trim (pscale rule 65536));have h3:=len_turn f g;have h4:=len_pscale_trim rule 65536;have h5:[sub 0 last,1].length=2:=rfl;omega
theorem all_left(f rule:List Int)(g last:Int):allEl (left f rule g last)=true:=all_pmul _ _
theorem neat_left(f rule:List Int)(g last:Int):neat (left f rule g last):=neat_pmul _ _
def zeroL(n:Nat):List Int:=((List.replicate (n+1) 0).set 0 65536).set n 1
theorem zeroL_len(n:Nat):(zeroL n).length=n+1:=by simp[zeroL]
theorem zeroL_get(h:0<n)(i:Nat):(zeroL n).getD i 0=if i=n then 1 else if i=0 then 65536 else 0:=by
 unfold zeroL;rw[getD_set,getD_set,replicate_getD];simp only[List.length_set,uS];by_cases h1:i=n
 ·rw[if_pos (by omega),if_pos h1]
 ·
  rw[if_neg (by omega),if_neg h1];by_cases h2:i=0
  ·rw[if_pos (by omega),if_pos h2]
  ·rw[if_neg (by omega),if_neg h2]
theorem zeroL_all(h:0<n):allEl (zeroL n)=true:=by
 rw[tab_ext (zeroL_len n) (fun i _=>zeroL_get h i)];refine all_tab fun i _=>?_;by_cases h1:i=n
 ·rw[if_pos h1];decide
 ·
  rw[if_neg h1];by_cases h2:i=0
  ·rw[if_pos h2];decide
  ·rw[if_neg h2];decide
theorem zeroL_neat(h:0<n):neat (zeroL n):=.inr (by rw[zeroL_len,zeroL_get h,if_pos (by omega)];decide)
theorem ev_zeroL(h:0<n)(z:Int):cg (ev (zeroL n) z) (z ^ n-1):=by
 refine(ev_cg _ _).trans ?_;unfold zeroL;rw[pv_set _ _ _ (by simp),pv_set _ _ _ (by simp),pv_zeros,getD_set,replicate_getD,replicate_getD,if_neg (by omega)];have:cg (0+(65536-0)*z ^ 0+(1-0)*z ^ n) (0+(-1)*z ^ 0+(1-0)*z ^ n):=((cg.refl 0).add ((show cg (65536-0) (-1) by unfold cg;decide).mul (cg.refl _))).add (cg.refl _);refine this.trans (cg_of_eq ?_);rw[Int.pow_zero];omega
def lst(n:Nat):Int:=pw (root n) (n-1)
theorem el_lst(n:Nat):el (lst n)=true:=el_pw _ _
theorem row_pt(h:two64 (n:Int)=true):ptOk n 1=true:=ptOk_mk h (by decide) (by decide)
theorem row_one(n i:Nat):root n ^ i%65537=1*root n ^ i%65537:=by rw[Int.one_mul]
theorem rows_zero(h:two64 (n:Int)=true)(nr:neat r)(ar:allEl r=true)(lr:r.length≤n)(hz:∀i,i<n→ev r (root n ^ i%65537)=0):r=[]:=by
 refine interp_unique (xs:=gp 1 (root n) n) nr (.inl rfl) ar rfl (by rw[gp_len];exact lr) (by simp) (gp_nodup (row_pt h)) fun x hx=>?_;obtain⟨i,hi,rfl⟩:=List.mem_map.1 hx;have hi':=List.mem_range.1 hi;refine⟨by omega,by omega,?_⟩;rw[←row_one,hz i hi'];rfl
theorem div_zeroL(h:two64 (n:Int)=true)(h0:0<n)(hd:Div L (zeroL n) q r)(hL:∀i,i<n→ev L (root n ^ i%65537)=0):r=[]:=by
 have hs:=hd.short;rw[zeroL_len]at hs;refine rows_zero h hd.nr hd.ar (by omega) fun i hi=>?_;have e:=div_ev hd (root n ^ i%65537);rw[hL i hi]at e
 have z0:cg (ev (zeroL n) (root n ^ i%65537)) 0:=by
  refine(ev_zeroL h0 _).trans ?_
  have h1:cg ((root n ^ i%65537) ^ n) 1:=by
   refine((cg_mod _).pow n).trans ?_;rw[←Int.pow_mul,Nat.mul_comm,Int.pow_mul];refine((root_n (two64_two h)).pow i).trans (cg_of_eq Int.one_pow)
  exact(h1.sub (cg.refl 1)).trans (cg_of_eq (by omega))
 have hb:=ev_bd (zeroL n) (root n ^ i%65537);have z1:ev (zeroL n) (root n ^ i%65537)=0:=(by unfold cg at z0;omega);rw[z1,Int.mul_zero,Int.zero_add]at e;have Aa:=ev_bd r (root n ^ i%65537);omega
def zp(n i:Nat):Int:=3*root (4*n:Nat) ^ i%65537
theorem zp_bd(n i:Nat):0≤zp n i∧zp n i<65537:=by unfold zp;omega
theorem el_zp(n i:Nat):el (zp n i)=true:=(el_iff _).2 (zp_bd n i)
def zer(n i:Nat):Int:=(pw (zp n i) n+65537-1)%65537
theorem zer_bd(n i:Nat):0≤zer n i∧zer n i<65537:=by unfold zer;omega
theorem zer_cg(n i:Nat):cg (zer n i) (zp n i ^ n-1):=by
 unfold zer;refine(cg_mod _).trans ?_;have:=cg_pw (zp n i) n;unfold cg at *;omega
def rowsN(n:Nat):Bool:=n==2||n==4||n==8||n==16
theorem rowsN_cases(h:rowsN n=true):n=2∨n=4∨n=8∨n=16:=by
 unfold rowsN at h;simp only[Bool.or_eq_true,beq_iff_eq]at h;omega
theorem rowsN_two(h:rowsN n=true):two64 (n:Int)=true:=by
 rcases rowsN_cases h with rfl | rfl | rfl | rfl <;> decide
theorem rowsN_two4(h:rowsN n=true):two64 ((4*n:Nat):Int)=true:=by
 rcases rowsN_cases h with rfl | rfl | rfl | rfl <;> decide
theorem rowsN_pt(h:rowsN n=true):ptOk ((4*n:Nat):Int) 3=true:=ptOk_mk (rowsN_two4 h) (by decide) (by decide)
theorem rowsN_three(h:rowsN n=true):¬ cg ((3:Int) ^ (4*n)) 1:=by
 rcases rowsN_cases h with rfl | rfl | rfl | rfl <;> (unfold cg;decide)
theorem zer_ne(h:rowsN n=true)(i:Nat):zer n i≠0:=by
 intro e;have h1:=zer_cg n i;rw[e]at h1;have h2:=cg_sub0 h1.symm
 have h3:cg (zp n i ^ (4*n)) 1:=by
  rw[Nat.mul_comm,Int.pow_mul];exact(h2.pow 4).trans (cg_of_eq (by decide))
 have h4:cg (zp n i ^ (4*n)) (3 ^ (4*n)):=by
  unfold zp;refine((cg_mod _).pow _).trans ?_;have e1:root (4*n:Nat) ^ (4*n*i)=(root (4*n:Nat) ^ (4*n)) ^ i:=Int.pow_mul;rw[Int.mul_pow,←Int.pow_mul,Nat.mul_comm i,e1];have:=(cg.refl ((3:Int) ^ (4*n))).mul ((root_n (two64_two (rowsN_two4 h))).pow i);rw[Int.one_pow,Int.mul_one]at this;exact this
 exact rowsN_three h (h4.symm.trans h3)
theorem root_four(h:rowsN n=true):cg (root (4*n:Nat) ^ 4) (root n):=by
 have h1:=two64_two (rowsN_two h);have h2:=two64_two (rowsN_two4 h);rw[root_in h1,root_in h2];refine((cg_pw _ _).pow 4).trans ?_;rw[←Int.pow_mul]
 have e:(65536/((4*n:Nat):Int)).toNat*4=(65536/(n:Int)).toNat:=by
  rcases rowsN_cases h with rfl | rfl | rfl | rfl <;> decide
 rw[e];exact(cg_pw _ _).symm
theorem zp_next(h:rowsN n=true)(i:Nat):root n*zp n i%65537=zp n ((i+4)%(4*n)):=by
 show cg _ _;unfold zp;have h1:=(pow_wrap (root_n (two64_two (rowsN_two4 h))) (i+4)).symm;refine cg.trans ?_ (((cg.refl 3).mul h1).symm);refine((cg.refl _).mul (cg_mod _)).trans ?_;rw[Int.pow_add];refine(((root_four h).symm.mul (cg.refl _))).trans (cg_of_eq ?_);generalize root (4*n:Nat) ^ i=A;generalize root (4*n:Nat) ^ 4=B
 grind
def mis(r:Rl)(X Y F:List Int)(n i:Nat):Int:=(F.getD ((i+4)%(4*n)) 0+65537-r.app (X.getD i 0) (Y.getD i 0))%65537*((zp n i+65537-lst n)%65537)%65537
def wide(f:List Int)(n:Nat):List Int:=evs f 3 (root (4*n:Nat)) (4*n)
theorem wide_len(f:List Int)(n:Nat):(wide f n).length=4*n:=evs_len _ _ _ _
theorem wide_get(f:List Int)(h:i<4*n):(wide f n).getD i 0=ev f (zp n i):=by
 unfold wide evs;rw[tab_get _ _ _ h];rfl
theorem mis_left{r:Rl}(h:rowsN n=true)(hi:i<4*n):mis r (wide x n) (wide y n) (wide f n) n i=ev (left f (rl r x y) (root n) (lst n)) (zp n i):=by
 unfold mis;rw[ev_left _ _ _ _ _ (el_lst n),wide_get _ hi,wide_get _ hi,wide_get _ (Nat.mod_lt _ (by omega)),ev_rl,zp_next h];show cg _ _;refine cg.mul ?_ ?_
 ·unfold cg;omega
 ·unfold cg;omega
def quo(r:Rl)(X Y F:List Int)(n:Nat):List Int:=tab (4*n) (fun i=>mis r X Y F n i*pw (zer n i) 65535%65537)
theorem quo_of{a b:Int}(h:rowsN n=true)(ha:0≤a∧a<65537)(e:cg (a*zer n i) b):a=b*pw (zer n i) 65535%65537:=by
 have hz:¬ cg (zer n i) 0:=by
  have:=zer_bd n i;have:=zer_ne h i;unfold cg;omega
 have h1:=cg_inv hz
 have h2:cg a (b*pw (zer n i) 65535):=by
  have h3:=e.mul (cg.refl (pw (zer n i) 65535));have h4:=(cg.refl a).mul h1;rw[Int.mul_one,←Int.mul_assoc]at h4;exact h4.symm.trans h3
 exact cg_lt' h2 ha.1 ha.2
end M
namespace M
structure Thru(m:Mc)(s:Int×Int)(n:Nat)(x y:List Int):Prop where
 ax:allEl x=true
 nx:neat x
 lx:x.length≤n
 vx:∀i,i<n→ev x (root n ^ i%65537)=(m.rn s i).1
 ay:allEl y=true
 ny:neat y
 ly:y.length≤n
 vy:∀i,i<n→ev y (root n ^ i%65537)=(m.rn s i).2
def xsR(m:Mc)(s:Int×Int)(n:Nat):List Int:=tab n (fun i=>(m.rn s i).1)
def ysR(m:Mc)(s:Int×Int)(n:Nat):List Int:=tab n (fun i=>(m.rn s i).2)
theorem xsR_all{m:Mc}(hs:sOk s=true)(n:Nat):allEl (xsR m s n)=true:=all_tab fun i _=>(el_iff _).2 ((sOk_iff _).1 (sOk_rn m hs i)).1
theorem ysR_all{m:Mc}(hs:sOk s=true)(n:Nat):allEl (ysR m s n)=true:=all_tab fun i _=>(el_iff _).2 ((sOk_iff _).1 (sOk_rn m hs i)).2
theorem frOk_rows(h:rowsN n=true)(hl:v.length=n)(ha:allEl v=true):frOk v 1=true:=by
 unfold frOk;rw[hl,row_pt (rowsN_two h),ha];rfl
theorem frOk_wide(h:rowsN n=true)(hl:v.length=4*n)(ha:allEl v=true):frOk v 3=true:=by
 unfold frOk;rw[hl,rowsN_pt h,ha];rfl
def fx(m:Mc)(s:Int×Int)(n:Nat):List Int:=frs (xsR m s n) 1
def fy(m:Mc)(s:Int×Int)(n:Nat):List Int:=frs (ysR m s n) 1
theorem fr_rows(h:rowsN n=true)(hl:v.length=n)(ha:allEl v=true)(hi:i<n):ev (frs v 1) (root n ^ i%65537)=v.getD i 0:=by
 have:=frs_ev (frOk_rows h hl ha) (j:=i) (by omega);rw[hl,←row_one]at this;exact this
theorem thru_f(m:Mc)(hs:sOk s=true)(h:rowsN n=true):Thru m s n (fx m s n) (fy m s n) where
 ax:=frs_all _ _
 nx:=frs_neat _ _
 lx:=by have:=frs_len (xsR m s n) 1;unfold xsR at this;rw[tab_len]at this;exact this
 vx:=fun i hi=>by rw[fx,fr_rows h (show(xsR m s n).length=n from tab_len _ _) (xsR_all hs n) hi,xsR,tab_get _ _ _ hi]
 ay:=frs_all _ _
 ny:=frs_neat _ _
 ly:=by have:=frs_len (ysR m s n) 1;unfold ysR at this;rw[tab_len]at this;exact this
 vy:=fun i hi=>by rw[fy,fr_rows h (show(ysR m s n).length=n from tab_len _ _) (ysR_all hs n) hi,ysR,tab_get _ _ _ hi]
theorem root_step(n i:Nat):root n*(root n ^ i%65537)%65537=root n ^ (i+1)%65537:=by
 rw[mR,Int.pow_succ,Int.mul_comm]
theorem left_rows{m:Mc}(ht:Thru m s n x y):(∀i,i<n→ev (left x (rl m.X x y) (root n) (lst n)) (root n ^ i%65537)=0)∧(∀i,i<n→ev (left y (rl m.Y x y) (root n) (lst n)) (root n ^ i%65537)=0):=by
 constructor <;> intro i hi
 ·
  rw[ev_left _ _ _ _ _ (el_lst n)];by_cases hl:i=n-1
  ·
   subst hl;have:root n ^ (n-1)%65537-lst n=0:=(by unfold lst pw;omega);rw[this,Int.mul_zero];rfl
  ·
   rw[root_step,ht.vx (i+1) (by omega),ev_rl,ht.vx i hi,ht.vy i hi]
   have:(m.rn s (i+1)).1-m.X.app (m.rn s i).1 (m.rn s i).2=0:=by
    show(m.nx (m.rn s i)).1-_=0;unfold Mc.nx;omega
   rw[this,Int.zero_mul];rfl
 ·
  rw[ev_left _ _ _ _ _ (el_lst n)];by_cases hl:i=n-1
  ·
   subst hl;have:root n ^ (n-1)%65537-lst n=0:=(by unfold lst pw;omega);rw[this,Int.mul_zero];rfl
  ·
   rw[root_step,ht.vy (i+1) (by omega),ev_rl,ht.vx i hi,ht.vy i hi]
   have:(m.rn s (i+1)).2-m.Y.app (m.rn s i).1 (m.rn s i).2=0:=by
    show(m.nx (m.rn s i)).2-_=0;unfold Mc.nx;omega
   rw[this,Int.zero_mul];rfl
theorem rowsN_pos(h:rowsN n=true):2≤n∧n≤16:=by rcases rowsN_cases h with rfl | rfl | rfl | rfl <;> omega
theorem quo_div{r:Rl}{rest:List Int}(h:rowsN n=true)(hL:∀i,i<n→ev (left f (rl r x y) (root n) (lst n)) (root n ^ i%65537)=0)(hd:Div (left f (rl r x y) (root n) (lst n)) (zeroL n) q rest):wide q n=quo r (wide x n) (wide y n) (wide f n) n:=by
 have hp:=rowsN_pos h;have h0:=div_zeroL (rowsN_two h) (by omega) hd hL;refine tab_ext (wide_len _ _) fun i hi=>?_;rw[wide_get _ hi];refine quo_of h (ev_bd _ _) ?_;rw[mis_left h hi,div_ev hd,h0];refine cg.trans ?_ (cg_mod _).symm;refine cg.trans ?_ (cg_of_eq (show ev q (zp n i)*ev (zeroL n) (zp n i)=ev q (zp n i)*ev (zeroL n) (zp n i)+ev [] (zp n i) by rw[show ev [] (zp n i)=0 from rfl];omega));exact(cg.refl _).mul ((zer_cg n i).trans (ev_zeroL (by omega) _).symm)
structure Pf where
 s:Int×Int
 e:Int×Int
 X:List Int
 Y:List Int
 QX:List Int
 QY:List Int
def Mc.pf(m:Mc)(s:Int×Int)(n:Nat):Pf where
 s:=s
 e:=m.rn s (n-1)
 X:=wide (fx m s n) n
 Y:=wide (fy m s n) n
 QX:=quo m.X (wide (fx m s n) n) (wide (fy m s n) n) (wide (fx m s n) n) n
 QY:=quo m.Y (wide (fx m s n) n) (wide (fy m s n) n) (wide (fy m s n) n) n
def lenEl(l:List Int)(n:Nat):Bool:=decide (l.length=4*n)&&allEl l
def Pf.form(p:Pf)(n:Nat):Bool:=lenEl p.X n&&(lenEl p.Y n&&(lenEl p.QX n&&(lenEl p.QY n&&(sOk p.s&&sOk p.e))))
def Pf.rows(p:Pf):Nat:=if p.form 2=true then 2 else if p.form 4=true then 4 else if p.form 8=true then 8 else if p.form 16=true then 16 else 0
theorem lenEl_iff(l:List Int)(n:Nat):lenEl l n=true↔l.length=4*n∧allEl l=true:=by unfold lenEl;rw[uU,decide_eq_true_iff]
theorem form_iff(p:Pf)(n:Nat):p.form n=true↔(p.X.length=4*n∧allEl p.X=true)∧(p.Y.length=4*n∧allEl p.Y=true)∧(p.QX.length=4*n∧allEl p.QX=true)∧(p.QY.length=4*n∧allEl p.QY=true)∧sOk p.s=true∧sOk p.e=true:=by
 unfold Pf.form;simp only[uU,lenEl_iff]
theorem rows_of{p:Pf}(h:rowsN n=true)(hf:p.form n=true):p.rows=n:=by
 have hl:=((form_iff p n).1 hf).1.1;have no:∀k,k≠n→¬ p.form k=true:=fun k hk hc=>by have:=((form_iff p k).1 hc).1.1;omega
 unfold Pf.rows
 rcases rowsN_cases h with rfl | rfl | rfl | rfl
 ·rw[if_pos hf]
 ·rw[if_neg (no 2 (by omega)),if_pos hf]
 ·rw[if_neg (no 2 (by omega)),if_neg (no 4 (by omega)),if_pos hf]
 ·rw[if_neg (no 2 (by omega)),if_neg (no 4 (by omega)),if_neg (no 8 (by omega)),if_pos hf]
theorem rows_some{p:Pf}(h:p.rows≠0):rowsN p.rows=true∧p.form p.rows=true:=by
 unfold Pf.rows at *;by_cases h2:p.form 2=true
 ·rw[if_pos h2];exact⟨rfl,h2⟩
 rw[if_neg h2]at *;by_cases h4:p.form 4=true
 ·rw[if_pos h4];exact⟨rfl,h4⟩
 rw[if_neg h4]at *;by_cases h8:p.form 8=true
 ·rw[if_pos h8];exact⟨rfl,h8⟩
 rw[if_neg h8]at *;by_cases Aa:p.form 16=true
 ·rw[if_pos Aa];exact⟨rfl,Aa⟩
 rw[if_neg Aa]at h;exact absurd rfl h
def qOk(r:Rl)(X Y F Q:List Int)(n k:Nat):Bool:=(List.range k).all fun i=>Q.getD i 0*zer n i%65537==mis r X Y F n i
def lenOk(l:List Int)(n:Nat):Bool:=decide ((frs l 3).length≤n)
def endOk(p:Pf)(n:Nat):Bool:=(decide (ev (frs p.X 3) 1=p.s.1)&&decide (ev (frs p.Y 3) 1=p.s.2))&&(decide (ev (frs p.X 3) (lst n)=p.e.1)&&decide (ev (frs p.Y 3) (lst n)=p.e.2))
def accN(m:Mc)(p:Pf)(n:Nat):Bool:=(lenOk p.X n&&(lenOk p.Y n&&(lenOk p.QX n&&lenOk p.QY n)))&&(endOk p n&&(qOk m.X p.X p.Y p.X p.QX n (4*n)&&qOk m.Y p.X p.Y p.Y p.QY n (4*n)))
def acc(m:Mc)(p:Pf):Bool:=m.ok&&(decide (p.rows≠0)&&accN m p p.rows)
end M
end Go.Proofs.YtjcjonncaknhnaaGreatDoor
