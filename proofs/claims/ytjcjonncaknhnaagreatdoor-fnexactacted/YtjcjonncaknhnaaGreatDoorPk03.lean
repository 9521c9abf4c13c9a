import Derived.Test.YtjcjonncaknhnaaGreatDoorPk01
import Derived.Test.YtjcjonncaknhnaaGreatDoorPk02
namespace Go.Proofs.YtjcjonncaknhnaaGreatDoor
open Go.RowKit Go.Proofs.Tryz
set_option linter.unusedSimpArgs false
set_option maxHeartbeats 32000000
variable {m:M.Mc}{s:Int×Int}{n:Int}
theorem qr(a b:Int)(w:World):Calls prog 282 #[.int .i64 a,.int .i64 b] w fun e w'=>∃p:Int×Int,e=.returned (.tuple #[.int .i64 p.1,.int .i64 p.2,.bool (M.sOk (a,b))])∧M.sOk p=true∧(M.sOk (a,b)=true→p=(a,b))∧w'=w:=by
 unfold M.sOk;dsimp only
 have C:∀(a:Int) (w:World),Rq 245 #[it a] w (.tuple #[it (if M.el a=true then a else 0),.bool (M.el a)]):=fun a w=>by
  by_cases h:M.el a=true
  ·
   rw[if_pos h,h];exact dc a w ((M.el_iff a).1 h).1 ((M.el_iff a).1 h).2
  ·
   rw[if_neg h,eq_false_of_ne_true h];exact dg a w ((M.el_not a).1 (eq_false_of_ne_true h))
 have E:∀a:Int,M.el (if M.el a=true then a else 0)=true:=fun a=>by
  by_cases h:M.el a=true
  ·rw[if_pos h,h]
  ·rw[if_neg h];decide
 have C1:=C a;have C2:=C b;have E1:H9 (M.el (if M.el a=true then a else 0)=true):=E a;have E2:H9 (M.el (if M.el b=true then b else 0)=true):=E b;have G1:H9 (M.el a=true→(if M.el a=true then a else 0)=a):=fun h=>if_pos h;have G2:H9 (M.el b=true→(if M.el b=true then b else 0)=b):=fun h=>if_pos h;generalize(if M.el a=true then a else 0)=x at *;generalize(if M.el b=true then b else 0)=y at *;generalize M.el a=o1 at *;generalize M.el b=o2 at *;clear C E
 cases o1 <;> cases o2
 all_goals
  go_enter func282,ntmps282;(go_wp2_with fail);refine(C1 _).mono ?_;rintro e w1 ⟨rfl,rfl⟩;(go_wp2_with fail);refine(C2 _).mono ?_;rintro e w1 ⟨rfl,rfl⟩;go_wp2
  go_ret3
  exact⟨(x,y),rfl,by rw[E1.o,E2.o];rfl,fun h=>by first | (exfalso;revert h;decide) | rw[G1.o trivial,G2.o trivial],rfl⟩
theorem fZ(s:Int×Int)(w:World):Calls prog 260 #[cC s] w fun e w'=>∃p:Int×Int,e=.returned (.tuple #[cC p,.bool (M.sOk s)])∧M.sOk p=true∧(M.sOk s=true→p=s)∧Below w.heap.size w w':=by
 have C1:=qr s.1 s.2;obtain⟨x,y⟩:=s;dsimp only[cC]at C1 ⊢;generalize M.sOk (x,y)=o at *;go_enter func260,ntmps260;(go_wp2_with fail);refine(C1 _).mono ?_;rintro e w1 ⟨p,rfl,hp,hE,rfl⟩;have HP:=Hd (hp);have HE:=Hd (hE);obtain⟨u,v⟩:=p;clear hp hE;go_wp2;refine tx (v:=.tuple #[.agg #[it u,it v],.bool o]) (by simp[results,results260,go_sem]) rfl ⟨(u,v),rfl,HP.o,HE.o,?_⟩;exact((tv _ _).alloc (tr _) _).alloc (by simp) _
theorem iK(s:Int×Int)(w:World):Rt 249 #[cC s] w (cC s):=by
 obtain⟨x,y⟩:=s;dsimp only[cC];go_enter func249,ntmps249;go_wp2;refine tx (v:=.agg #[it x,it y]) (by simp[results,results249,go_sem]) rfl ⟨rfl,?_⟩;exact((tv _ _).alloc (tr _) _).alloc (by simp) _
theorem oF(w:World)(A B C:Array Value)(t1 t2 t3:TypeId)(i:Nat):
  (((w.alloc (.cells A t1)).alloc (.cells B t2)).alloc (.cells C t3)).frozen? ⟨w.heap.size+1,i,none⟩=false:=by
 rw[frozen?_alloc_cells,frozen?_alloc_cells,frozen?_alloc_cells];simp only[World.frozen?];rw[Array.getElem?_eq_none (by omega)]
theorem j3(r:M.Rl)(w:World):Calls prog 172 #[fO r] w fun e w'=>∃r':M.Rl,e=.returned (.tuple #[fO r',.bool r.ok])∧(r.ok=true→r'=r)∧Below w.heap.size w w':=by
 have HS:H9 (∀(W:World) (g:Nat),W.heap.size=g→ah (W.alloc (.cells (kd r.xx r.xy r.yy r.x r.y r.k).toArray 2)) (some ⟨g,0,none⟩) 6 6 r.nums):=fun W g hg=>pQ W g hg r _;have HO:H9 (M.allEl r.nums=r.ok):=rfl;have HN:H9 (r.nums=[r.xx,r.xy,r.yy,r.x,r.y,r.k]):=rfl
 cases hok:r.ok with
 | false=>
  rw[hok]at HO;clear hok;dsimp only[fO];obtain⟨a,b,c,d,f,k⟩:=r;dsimp only at HS ⊢;generalize M.Rl.nums ⟨a,b,c,d,f,k⟩=zs at HS HO;clear HN;go_enter func172,ntmps172;(go_wp2_with fail);refine(di _ (HS.o _ _ (by simp))).mono ?_;rintro e w' ⟨rfl,rfl⟩;rw[HO.o];go_wp2;refine tx (v:=.tuple #[fO ⟨0,0,0,0,0,0⟩,.bool false]) (by simp[results,results172,go_sem]) rfl ⟨⟨0,0,0,0,0,0⟩,rfl,fun h=>by simp at h,?_⟩;exact(((tv _ _).alloc (tr _) _).alloc (by simp) _).alloc (by simp;omega) _
 | true=>
  rw[hok]at HO;clear hok;dsimp only[fO];obtain⟨a,b,c,d,f,k⟩:=r;dsimp only at HS HN ⊢;generalize M.Rl.nums ⟨a,b,c,d,f,k⟩=zs at HS HO HN;go_enter func172,ntmps172;(go_wp2_with fail);refine(di _ (HS.o _ _ (by simp))).mono ?_;rintro e w' ⟨rfl,rfl⟩;rw[HO.o];(go_wp2_with fail);refine(ee _ (HS.o _ _ (by simp)) (by omega)).mono ?_;rintro e w1 ⟨a1,c1,rfl,ho,hb⟩;have HB:H9 (Below w.heap.size w w1):=((((tv _ _).alloc (tr _) _).alloc (by simp) _).alloc (by simp;omega) _).trans (hb.mono (by simp;omega));have hc:∀i,w1.cell? ⟨w.heap.size+1,i,none⟩=#[Value.int .i64 0,it 0,it 0,it 0,it 0,it 0][i]?:=fun i=>(hb.cell (p:=⟨w.heap.size+1,i,none⟩) (by simp)).trans (aJ w _ _ _ _ _ _ i).2.1;have hf:∀i,w1.frozen? ⟨w.heap.size+1,i,none⟩=false:=fun i=>(aB hb (show w.heap.size+1<_ by simp)).trans (oF w _ _ _ _ _ _ i);obtain⟨g,rfl,hg,Ca,Aa,-⟩:=ho.block (by omega);have Da:g≠w.heap.size+1:=(by simp at hg;omega);rw[HN.o]at Aa;have d0:w1.cell? ⟨g,0,none⟩=some (it a):=Aa 0 (by omega);have d1:w1.cell? ⟨g,1,none⟩=some (it b):=Aa 1 (by omega);have d2:w1.cell? ⟨g,2,none⟩=some (it c):=Aa 2 (by omega);have d3:w1.cell? ⟨g,3,none⟩=some (it d):=Aa 3 (by omega);have d4:w1.cell? ⟨g,4,none⟩=some (it f):=Aa 4 (by omega);have d5:w1.cell? ⟨g,5,none⟩=some (it k):=Aa 5 (by omega);have r0:w1.cell? ⟨w.heap.size+1,0,none⟩=some (it 0):=hc 0;have r1:w1.cell? ⟨w.heap.size+1,1,none⟩=some (it 0):=hc 1;have r2:w1.cell? ⟨w.heap.size+1,2,none⟩=some (it 0):=hc 2;have r3:w1.cell? ⟨w.heap.size+1,3,none⟩=some (it 0):=hc 3;have r4:w1.cell? ⟨w.heap.size+1,4,none⟩=some (it 0):=hc 4;have r5:w1.cell? ⟨w.heap.size+1,5,none⟩=some (it 0):=hc 5;have f0:=hf 0;have f1:=hf 1;have f2:=hf 2;have f3:=hf 3;have f4:=hf 4;have f5:=hf 5;have Ea:(6:Int)≤c1:=(by have:=ho.cap_le;omega);clear hc hf Aa ho hb HS HO HN hg Ca;go_wp2
  go_region
  have hl:w.heap.size≤w.heap.size+1:=(by omega);obtain⟨w2,Ba⟩:∃w2,w2=dR w1 (w.heap.size+1) 0 (kd a b c d f k):=⟨_,rfl⟩;have HW:H9 (Below w.heap.size w w2):=by rw[Ba];exact dz hl _ _ _ HB.o
  have ha:=fP (w.heap.size+1) [Value.int .i64 a,it b,it c,it d,it f,it k] w1 0 (fun j hj=>by
   match j,hj with
   | 0,_=>exact⟨_,r0⟩
   | 1,_=>exact⟨_,r1⟩
   | 2,_=>exact⟨_,r2⟩
   | 3,_=>exact⟨_,r3⟩
   | 4,_=>exact⟨_,r4⟩
   | 5,_=>exact⟨_,r5⟩)
  rw[←Ba]at ha;have e0:=ha 0 _ rfl;have e1:=ha 1 _ rfl;have e2:=ha 2 _ rfl;have e3:=ha 3 _ rfl;have e4:=ha 4 _ rfl;have e5:=ha 5 _ rfl;unfold dR dR dR dR dR dR dR at Ba;rw[←Ba];clear ha Ba r0 r1 r2 r3 r4 r5 d0 d1 d2 d3 d4 d5 f0 f1 f2 f3 f4 f5;simp only[Nat.zero_add]at e0 e1 e2 e3 e4 e5;go_wp2;refine tx (v:=.tuple #[.agg (kd a b c d f k).toArray,.bool true]) (by simp[results,results172,go_sem,e0,e1,e2,e3,e4,e5]) rfl ⟨⟨a,b,c,d,f,k⟩,rfl,fun _=>rfl,HW.o.drew⟩
theorem eH(m:M.Mc)(w:World):Calls prog 105 #[cQ m] w fun e w'=>∃m':M.Mc,e=.returned (.tuple #[.iface 255 (cQ m'),.bool m.ok])∧(m.ok=true→m'=m)∧Below w.heap.size w w':=by
 have C1:∀w,Calls prog 172 #[fO m.X] w fun e w'=>∃r':M.Rl,e=.returned (.tuple #[fO r',.bool m.X.ok])∧(m.X.ok=true→r'=m.X)∧Below w.heap.size w w':=j3 m.X;have C2:∀w,Calls prog 172 #[fO m.Y] w fun e w'=>∃r':M.Rl,e=.returned (.tuple #[fO r',.bool m.Y.ok])∧(m.Y.ok=true→r'=m.Y)∧Below w.heap.size w w':=j3 m.Y
 have HM:H9 (∀r1 r2:M.Rl,(m.X.ok=true→r1=m.X)→(m.Y.ok=true→r2=m.Y)→m.ok=true→(⟨r1,r2⟩:M.Mc)=m):=fun r1 r2 h1 h2 h=>by
  unfold M.Mc.ok at h;rw[tZ]at h;rw[h1 h.1,h2 h.2]
 have HO:H9 (m.ok=(m.X.ok&&m.Y.ok)):=rfl;obtain⟨⟨a,b,c,d,f,k⟩,⟨a',b',c',d',f',k'⟩⟩:=m;dsimp only[cQ,fO]at C1 C2 HM HO ⊢;generalize M.Rl.ok ⟨a,b,c,d,f,k⟩=o1 at *;generalize M.Rl.ok ⟨a',b',c',d',f',k'⟩=o2 at *;generalize M.Mc.ok ⟨⟨a,b,c,d,f,k⟩,⟨a',b',c',d',f',k'⟩⟩=o at *;have hT:∀W,Below (w.alloc (.cells (cu a b c d f k a' b' c' d' f' k').toArray 31)).heap.size (w.alloc (.cells (cu a b c d f k a' b' c' d' f' k').toArray 31)) W→∀i,W.cell? ⟨w.heap.size,i,none⟩=#[Value.int .i64 a,it b,it c,it d,it f,it k,it a',it b',it c',it d',it f',it k'][i]?:=fun W hb i=>(hb.cell (p:=⟨w.heap.size,i,none⟩) (by simp)).trans (tH _ _ _ _);have HT:H9 _:=hT;clear hT;go_enter func105,ntmps105;(go_wp2_with fail);refine(C1 _).mono ?_;rintro e w1 ⟨⟨b1,b2,b3,b4,b5,b6⟩,rfl,Ca,Aa⟩;have hc:=HT.o _ Aa;have h6:w1.cell? ⟨w.heap.size,6,none⟩=some (it a'):=hc 6;have h7:w1.cell? ⟨w.heap.size,7,none⟩=some (it b'):=hc 7;have h8:w1.cell? ⟨w.heap.size,8,none⟩=some (it c'):=hc 8;have h9:w1.cell? ⟨w.heap.size,9,none⟩=some (it d'):=hc 9;have Ja:w1.cell? ⟨w.heap.size,10,none⟩=some (it f'):=hc 10;have Ka:w1.cell? ⟨w.heap.size,11,none⟩=some (it k'):=hc 11;have Da:H9 (Below w.heap.size w w1):=((tv _ _).alloc (tr _) _).trans (Aa.mono (by simp));have La:w.heap.size<w1.heap.size:=(by have:=Aa.size;simp at this;omega);have Ea:=Hd (Ca);clear hc Aa Ca;(go_wp2_with fail);refine(C2 _).mono ?_;rintro e w2 ⟨⟨d1,d2,d3,d4,d5,d6⟩,rfl,Fa,Ba⟩;have hc:∀i,w2.cell? ⟨w1.heap.size,i,none⟩=#[Value.int .i64 b1,it b2,it b3,it b4,it b5,it b6][i]?:=fun i=>(Ba.cell (p:=⟨w1.heap.size,i,none⟩) (by simp)).trans (tH _ _ _ _);have g0:w2.cell? ⟨w1.heap.size,0,none⟩=some (it b1):=hc 0;have g1:w2.cell? ⟨w1.heap.size,1,none⟩=some (it b2):=hc 1;have g2:w2.cell? ⟨w1.heap.size,2,none⟩=some (it b3):=hc 2;have g3:w2.cell? ⟨w1.heap.size,3,none⟩=some (it b4):=hc 3;have g4:w2.cell? ⟨w1.heap.size,4,none⟩=some (it b5):=hc 4;have g5:w2.cell? ⟨w1.heap.size,5,none⟩=some (it b6):=hc 5;have Ga:H9 (Below w.heap.size w w2):=(Da.o.alloc Da.o.size _).trans (Ba.mono (by simp;omega));have Na:w1.heap.size<w2.heap.size:=(by have:=Ba.size;simp at this;omega);have Ha:=Hd (Fa);have Ia:H9 (o=true→(⟨⟨b1,b2,b3,b4,b5,b6⟩,⟨d1,d2,d3,d4,d5,d6⟩⟩:M.Mc)=⟨⟨a,b,c,d,f,k⟩,⟨a',b',c',d',f',k'⟩⟩):=HM.o _ _ Ea.o Ha.o;have HO':H9 (o=(o1&&o2)):=HO.o;clear hc Ba Fa HM Ea Ha h6 h7 h8 h9 Ja Ka C1 C2 HT HO
 cases o1 <;> cases o2
 all_goals
  have ho:=HO'.o;simp at ho;subst ho;go_wp2
  go_ret2
  exact⟨⟨⟨b1,b2,b3,b4,b5,b6⟩,⟨d1,d2,d3,d4,d5,d6⟩⟩,rfl,by first | exact Ia.o | exact Ia.o trivial,Ga.o.alloc Ga.o.size _⟩
theorem bg{x:Int}(h0:0≤x)(h1:x<9223372036854775808):IntKind.i64.wrap x=x:=by
 unfold IntKind.wrap;have e:x%2 ^ IntKind.i64.bits=x:=Int.emod_eq_of_lt h0 (by show x<18446744073709551616;omega);simp only[e];rw[if_neg];rw[tZ,decide_eq_true_iff];rintro⟨_,h⟩;have h':x≥9223372036854775808:=h;omega
theorem fM:(prog.info? 328).map (fun i=>(i.zero,i.size,i.bytes))=some (some (.agg #[.int .i64 0,.int .i64 0]),2,16):=by kernel_rfl
theorem ku(k:Nat)(hk:k≤2000000)(w:World):(Instr.makeSlice 268 (.int .i64 0) (.int .i64 (k:Int))).run prog w=.ok (.slice (some ⟨w.heap.size,0,none⟩) 0 k) (w.alloc (.cells (madeCells #[.int .i64 0,.int .i64 0] (k*2)) 328)):=by
 obtain⟨i0,hi,Aa,Ba,Ca⟩:=info_parts fM;have h:=run_make (P:=prog) w 268 328 i0 (.agg #[it 0,it 0]) underlying268 hi Aa .i64 .i64 0 (k:Int) (by omega) (by omega) (by rw[Ca];omega) (by omega);rw[Ba]at h;simpa[Value.cells]using h
theorem qn(W:World)(g:Nat)(hg:W.heap.size=g)(x y:Value)(t:TypeId):∀ad,some (⟨g,0,none⟩:Addr)=some ad→∀j u,[x,y][j]?=some u→(W.alloc (.cells #[x,y] t)).drew.cell? (ad.add j)=some u:=by
 subst hg;intro ad Aa j u hj;simp only[Option.some.injEq]at Aa;subst Aa;exact d8 W x y t j u hj
theorem qp(W:World)(g:Nat)(hg:W.heap.size=g)(x y:Value)(t t2:TypeId)(A:Array Value):∀ad,some (⟨g,0,none⟩:Addr)=some ad→∀j u,[x,y][j]?=some u→((W.alloc (.cells #[x,y] t)).alloc (.cells A t2)).drew.cell? (ad.add j)=some u:=by
 subst hg;intro ad Aa j u hj;simp only[Option.some.injEq]at Aa;subst Aa;have e:((⟨W.heap.size,0,none⟩:Addr).add j)=⟨W.heap.size,j,none⟩:=(by unfold Addr.add;split <;> simp_all);have h:=d8 W x y t j u hj;rw[e]at h ⊢;exact(World.cell?_alloc_lt (w:=W.alloc (.cells #[x,y] t)) (o:=.cells A t2) (a:=⟨W.heap.size,j,none⟩) (h:=by simp)).trans h
theorem jO(w:World)(A:Array Value)(t:TypeId)(i:Nat):(w.alloc (.cells A t)).frozen? ⟨w.heap.size,i,none⟩=false:=by
 rw[frozen?_alloc_cells];simp only[World.frozen?];rw[Array.getElem?_eq_none (by omega)]
theorem i6(m:M.Mc)(tg:Nat)(w:World):(method (tg+1) 255 (cQ m) "loop.example/g00319/impl.next").run prog w=.ok (330,cQ m) w:=by kernel_rfl
theorem mX(m:M.Mc)(s:Int×Int)(n:Nat)(w:World)(hm:m.ok=true)(hs:M.sOk s=true)(hn:n≤1000):
  Calls prog 283 #[.iface 255 (cQ m),cC s,.int .i64 n] w fun e w'=>∃a cap,e=.returned (.slice a (n+1) cap)∧aU 328 w' w.heap.size a (n+1) cap (m.run s n)∧Below w.heap.size w w':=by
 have HM:H9 (m.ok=true):=hm;have HS:H9 (M.sOk s=true):=hs;have La:=ku (n+1) (by omega);have e1:IntKind.i64.wrap ((n:Int)+1)=((n+1:Nat):Int):=bg (by omega) (by omega);rw[←e1]at La;obtain⟨i0,hi,Na,Oa,Pa⟩:=info_parts fM;have HI:H9 (prog.info? 328=some i0∧i0.zero=some (.agg #[it 0,it 0])∧i0.size=2∧i0.bytes=16):=⟨hi,Na,Oa,Pa⟩;have Ab:H9 (m.run s 0=[s]):=rfl;clear hm hs hi Na Oa Pa e1;obtain⟨x,y⟩:=s;dsimp only[cC]
 have Bb:H9 (World.ownsRow (((w.alloc (.cells #[it x,it y] 328)).alloc (.cells (madeCells #[it 0,it 0] ((n+1)*2)) 328)).alloc (.cells #[it x,it y] 328)).drew (w.heap.size+1) 328 2 (.slice (some ⟨w.heap.size+1,0,none⟩) 0 (n+1)) 0 []):=by
  have h:=World.ownsRow_made (base:=w.heap.size+1) (e:=328) (size:=2) (w.alloc (.cells #[it x,it y] 328)) (madeCells #[it 0,it 0] ((n+1)*2)) (n+1) (by simp) (by unfold maxLen;omega) (by simp[size_madeCells]);have h2:=World.ownsRow.drew (uc h (.cells #[it x,it y] 328));show World.ownsRow _ _ _ _ _ _ _;simpa using h2
 have Cb:H9 (World.ownsRow (((w.alloc (.cells #[it x,it y] 328)).alloc (.cells #[it x,it y] 328)).alloc (.cells (madeCells #[it 0,it 0] ((n+1)*2)) 328)).drew (w.heap.size+1) 328 2 (.slice (some ⟨w.heap.size+1+1,0,none⟩) 0 (n+1)) 0 []):=by
  have h:=World.ownsRow_made (base:=w.heap.size+1) (e:=328) (size:=2) ((w.alloc (.cells #[it x,it y] 328)).alloc (.cells #[it x,it y] 328)) (madeCells #[it 0,it 0] ((n+1)*2)) (n+1) (by simp) (by unfold maxLen;omega) (by simp[size_madeCells]);have h2:=World.ownsRow.drew h;show World.ownsRow _ _ _ _ _ _ _;simpa using h2
 have Db:H9 (∀ad,some (⟨w.heap.size+1+1,0,none⟩:Addr)=some ad→∀j u,[Value.int .i64 x,it y][j]?=some u→(((w.alloc (.cells #[it x,it y] 328)).alloc (.cells (madeCells #[it 0,it 0] ((n+1)*2)) 328)).alloc (.cells #[it x,it y] 328)).drew.cell? (ad.add j)=some u):=qn _ _ (by simp) _ _ _;have Eb:H9 (∀ad,some (⟨w.heap.size+1,0,none⟩:Addr)=some ad→∀j u,[Value.int .i64 x,it y][j]?=some u→(((w.alloc (.cells #[it x,it y] 328)).alloc (.cells #[it x,it y] 328)).alloc (.cells (madeCells #[it 0,it 0] ((n+1)*2)) 328)).drew.cell? (ad.add j)=some u):=qp _ _ (by simp) _ _ _ _ _;go_enter func283,ntmps283;go_wp2
 go_region_law (first
  | (refine cO rfl (.tmp 10) (.tmp 12) 268 268 rfl (w.heap.size+1) 328 i0 2 underlying268 underlying268 HI.o.1 HI.o.2.2.1 (w.heap.size+1) 0 (n+1) [] (by simp[Act.eval]) Bb.o (some ⟨w.heap.size+1+1,0,none⟩) 1 1 [it x,it y] (by simp[Act.eval]) rfl (fun h=>by cases h) Db.o (d9 _ _) (by omega) ?_;intro w1 Ea Ca)
  | (refine cO rfl (.tmp 10) (.tmp 12) 268 268 rfl (w.heap.size+1) 328 i0 2 underlying268 underlying268 HI.o.1 HI.o.2.2.1 (w.heap.size+1+1) 0 (n+1) [] (by simp[Act.eval]) Cb.o (some ⟨w.heap.size+1,0,none⟩) 1 1 [it x,it y] (by simp[Act.eval]) rfl (fun h=>by cases h) Eb.o (d9 _ _) (by omega) ?_;intro w1 Ea Ca))
 all_goals
  have Da:H9 (Below (w.heap.size+1) (w.alloc (.cells #[it x,it y] 328)) w1):=(((tv (w.heap.size+1) (w.alloc (.cells #[it x,it y] 328))).alloc (by simp) _).alloc (by simp) _).drew.grown Ca (by simp) (fun j hj=>by simp at hj;omega);have Fb:H9 (w.heap.size<w1.heap.size):=(by have:=Da.o.size;simp at this;exact this);have HB:H9 (Below w.heap.size w w1):=((tv w.heap.size w).alloc (tr _) _).trans (Da.o.mono (by omega));obtain⟨aa,ca,Qa,ho⟩:=aU.form (ps:=m.run (x,y) 0) rfl (by rw[Ab.o];exact Ea);simp only[Value.slice.injEq]at Qa;obtain⟨rfl,-,rfl⟩:=Qa;have HO:H9 (aU 328 w1 (w.heap.size+1) _ 1 (n+1) (m.run (x,y) 0)):=ho
  have Ra:H9 (w1.cell? ⟨w.heap.size,0,none⟩=some (it x)∧w1.cell? ⟨w.heap.size,1,none⟩=some (it y)∧w1.frozen? ⟨w.heap.size,0,none⟩=false∧w1.frozen? ⟨w.heap.size,1,none⟩=false):=
   ⟨(Da.o.cell (p:=⟨w.heap.size,0,none⟩) (by simp)).trans (tH _ _ _ _),(Da.o.cell (p:=⟨w.heap.size,1,none⟩) (by simp)).trans (tH _ _ _ _),(aB Da.o (by simp)).trans (jO _ _ _ _),(aB Da.o (by simp)).trans (jO _ _ _ _)⟩
  clear Ea Ca ho Da La;go_wp2
  go_loopw [7,15] (fun s i wr=>∃(k:Nat) (a':Option Addr) (Fa:Nat),k≤n∧i=it k∧s=.slice a' (k+1) Fa∧aU 328 wr (w.heap.size+1) a' (k+1) Fa (m.run (x,y) k)∧Below w.heap.size w wr∧w.heap.size<wr.heap.size∧(wr.cell? ⟨w.heap.size,0,none⟩=some (it (m.rn (x,y) k).1)∧wr.cell? ⟨w.heap.size,1,none⟩=some (it (m.rn (x,y) k).2)∧wr.frozen? ⟨w.heap.size,0,none⟩=false∧wr.frozen? ⟨w.heap.size,1,none⟩=false)) (fun _ i _=>n-(intOf i).toNat)
  case atStart=>exact⟨0,_,_,by omega,rfl,rfl,HO.o,HB.o,Fb.o,Ra.o⟩
  case round=>
   obtain⟨k,a',Fa,hk,rfl,rfl,Sa,Ta,Ua,c0,c1,f0,f1⟩:=hrel;have Ja:H9 (aU 328 wr (w.heap.size+1) a' (k+1) Fa (m.run (x,y) k)):=Sa;have Ia:H9 (Below w.heap.size w wr):=Ta;have Ga:H9 (w.heap.size<wr.heap.size):=Ua;clear Sa Ta HO HB Ra Ua;by_cases Nb:k<n
   ·
    have hI:(k:Int)<(n:Int):=(by omega);have Va:H9 (M.sOk (m.rn (x,y) k)=true):=M.sOk_rn m HS.o k;have HR:H9 (m.run (x,y) k++[m.nx (m.rn (x,y) k)]=m.run (x,y) (k+1)):=M.run_snoc m (x,y) k;have HN:H9 (m.nx (m.rn (x,y) k)=m.rn (x,y) (k+1)):=rfl;generalize m.rn (x,y) k=q at c0 c1 Va HR HN;obtain⟨u,v⟩:=q;dsimp only at c0 c1;have Ob:=i6 m;(go_wp2_with fail);refine(kX m (u,v) wr HM.o Va.o).mono ?_;rintro e w2 ⟨rfl,Aa⟩;generalize m.nx (u,v)=q at HR HN;obtain⟨u2,v2⟩:=q;have c2:w2.cell? ⟨w.heap.size,0,none⟩=some (it u):=(Aa.cell (p:=⟨w.heap.size,0,none⟩) Ga.o).trans c0;have c3:w2.cell? ⟨w.heap.size,1,none⟩=some (it v):=(Aa.cell (p:=⟨w.heap.size,1,none⟩) Ga.o).trans c1;have f2:w2.frozen? ⟨w.heap.size,0,none⟩=false:=(aB Aa Ga.o).trans f0;have f3:w2.frozen? ⟨w.heap.size,1,none⟩=false:=(aB Aa Ga.o).trans f1;obtain⟨w3,Ba⟩:∃w3,w3=dR w2 w.heap.size 0 [it u2,it v2]:=⟨_,rfl⟩
    have ha:=fP w.heap.size [Value.int .i64 u2,it v2] w2 0 (fun j hj=>by
     match j,hj with
     | 0,_=>exact⟨_,c2⟩
     | 1,_=>exact⟨_,c3⟩)
    rw[←Ba]at ha;have d0:w3.cell? ⟨w.heap.size,0,none⟩=some (it u2):=(by simpa using ha 0 _ rfl);have d1:w3.cell? ⟨w.heap.size,1,none⟩=some (it v2):=(by simpa using ha 1 _ rfl);have g0:w3.frozen? ⟨w.heap.size,0,none⟩=false:=(by rw[Ba,aC];exact f2);have g1:w3.frozen? ⟨w.heap.size,1,none⟩=false:=(by rw[Ba,aC];exact f3);have Wa:H9 (w.heap.size<w3.heap.size):=by show _<_;rw[Ba,fQ];exact tP Ga.o Aa.size
    have Xa:H9 (aU 328 w3 (w.heap.size+1) a' (k+1) Fa (m.run (x,y) k)):=by
     show aU _ _ _ _ _ _ _;rw[Ba];exact aU.sets (by omega) _ _ _ (Ja.o.below Aa)
    have Ya:H9 (Below w.heap.size w w3):=by
     show Below _ _ _;rw[Ba];exact dz (tr _) _ _ _ (Ia.o.trans (Aa.mono Ia.o.size))
    have Gb:H9 (dR w2 w.heap.size 0 [it u2,it v2]=w3):=Ba.symm;clear ha Ba Aa Ja Ia c0 c1 f0 f1;have Pb:=Wa.o;go_wp2_with(first | (rw[show(w2.setCell ⟨w.heap.size,0,none⟩ (it u2)).setCell ⟨w.heap.size,1,none⟩ (it v2)=w3 from Gb.o]) | (at_builtin;refine wpList_append_own _ rfl _ _ 268 rfl (w.heap.size+1) 328 i0 (.agg #[it 0,it 0]) 2 16 underlying268 HI.o.1 HI.o.2.1 HI.o.2.2.1 HI.o.2.2.2 rfl (by decide) _ (k+1) (kW (m.run (x,y) k)) rfl (uc Xa.o.2 _) ⟨w3.heap.size,0,none⟩ 1 1 [it u2,it v2] rfl rfl (d8 w3 _ _ _) (d9 _ _) (by unfold maxLen;omega) (by omega) (by simp;omega) ?_))
    intro v' w4 Ea Ca _;have hown':w4.ownsRow (w.heap.size+1) 328 2 v' (k+1+1) (kW (m.run (x,y) (k+1))):=(by rw[←HR.o,←hU];exact Ea);obtain⟨b4,c4,rfl,Za⟩:=aU.form (M.run_len m (x,y) (k+1)) hown';have Hb:H9 (aU 328 w4 (w.heap.size+1) b4 (k+1+1) c4 (m.run (x,y) (k+1))):=Za;have Ka:=Xa.o.row;have Ib:H9 (Below w.heap.size w w4):=(Ya.o.alloc Ya.o.size _).grown Ca (by simp;omega) (fun q hq=>by have:=Ka q hq;omega);have Ha:H9 (Below (w.heap.size+1) w3 w4):=((tv _ _).alloc (by omega) _).grown Ca (by simp;omega) Ka
    have Jb:H9 (w4.cell? ⟨w.heap.size,0,none⟩=some (it (m.rn (x,y) (k+1)).1)∧w4.cell? ⟨w.heap.size,1,none⟩=some (it (m.rn (x,y) (k+1)).2)∧w4.frozen? ⟨w.heap.size,0,none⟩=false∧w4.frozen? ⟨w.heap.size,1,none⟩=false):=by
     show _∧_;rw[←HN.o];exact⟨(Ha.o.cell (p:=⟨w.heap.size,0,none⟩) (by simp)).trans d0,(Ha.o.cell (p:=⟨w.heap.size,1,none⟩) (by simp)).trans d1,(aB Ha.o (by simp)).trans g0,(aB Ha.o (by simp)).trans g1⟩
    have Kb:H9 (w.heap.size<w4.heap.size):=tP Wa.o Ha.o.size;clear Ea hown' Ca Za Ka d0 d1 g0 g1;go_wp2;go_roundw
    case rel=>exact⟨k+1,b4,c4,by omega,by go_num,rfl,Hb.o,Ib.o,Kb.o,Jb.o⟩
    case measure=>simp[intOf];omega
   ·
    have Lb:k=n:=(by omega);subst Lb;go_wp2;go_ret;exact⟨a',Fa,rfl,Ja.o.mono (by omega),Ia.o⟩
def bB(m:M.Mc)(s:Int×Int)(n:Int):Bool:=m.ok&&(M.sOk s&&(decide (0≤n)&&decide (n≤1000)))
theorem dE(h:bB m s n=true):m.ok=true∧M.sOk s=true∧0≤n∧n≤1000:=by
 unfold bB at h;simpa using h
theorem nU(h1:m.ok=true)(h2:M.sOk s=true)(h3:0≤n)(h4:n≤1000):bB m s n=true:=by
 unfold bB;rw[h1,h2,decide_eq_true h3,decide_eq_true h4];rfl
theorem nV(h:bB m s n=false):m.ok=false∨(m.ok=true∧M.sOk s=false)∨(m.ok=true∧M.sOk s=true∧n<0)∨(m.ok=true∧M.sOk s=true∧¬ n<0∧1000<n):=by
 cases h1:m.ok with
 | false=>exact .inl rfl
 | true=>
  cases h2:M.sOk s with
  | false=>exact .inr (.inl ⟨rfl,rfl⟩)
  | true=>
   by_cases h3:n<0
   ·exact .inr (.inr (.inl ⟨rfl,rfl,h3⟩))
   ·
    by_cases h4:1000<n
    ·exact .inr (.inr (.inr ⟨rfl,rfl,h3,h4⟩))
    ·rw[nU h1 h2 (by omega) (by omega)]at h;cases h
theorem jL(m:M.Mc)(s:Int×Int)(n:Int)(w:World):Calls prog 267 #[cQ m,cC s,.int .i64 n] w fun e w'=>(bB m s n=true→∃a cap,e=.returned (.tuple #[.slice a (n.toNat+1) cap,.bool true])∧aU 328 w' w.heap.size a (n.toNat+1) cap (m.run s n.toNat))∧(bB m s n=false→e=.returned (.tuple #[.slice none 0 0,.bool false]))∧Below w.heap.size w w':=by
 have C1:=eH m;have C2:=fZ s;have HR:H9 (∀N:Nat,N≤1000→m.ok=true→M.sOk s=true→∀w,Calls prog 283 #[.iface 255 (cQ m),cC s,.int .i64 N] w fun e w'=>∃a cap,e=.returned (.slice a (N+1) cap)∧aU 328 w' w.heap.size a (N+1) cap (m.run s N)∧Below w.heap.size w w'):=fun N hN hm hs w=>mX m s N w hm hs hN
 have HT:H9 (∀W,Below ((w.alloc (.cells (cQ m).cells 31)).alloc (.cells #[it s.1,it s.2] 33)).heap.size ((w.alloc (.cells (cQ m).cells 31)).alloc (.cells #[it s.1,it s.2] 33)) W→W.cell? ⟨w.heap.size+1,0,none⟩=some (it s.1)∧W.cell? ⟨w.heap.size+1,1,none⟩=some (it s.2)):=fun W hW=>by
  have e:(w.alloc (.cells (cQ m).cells 31)).heap.size=w.heap.size+1:=(by simp);have h:=fun i=>tH (w.alloc (.cells (cQ m).cells 31)) #[it s.1,it s.2] 33 i;rw[e]at h;exact⟨(hW.cell (p:=⟨w.heap.size+1,0,none⟩) (by simp)).trans (h 0),(hW.cell (p:=⟨w.heap.size+1,1,none⟩) (by simp)).trans (h 1)⟩
 have ec:(cQ m).cells=(cu m.X.xx m.X.xy m.X.yy m.X.x m.X.y m.X.k m.Y.xx m.Y.xy m.Y.yy m.Y.x m.Y.y m.Y.k).toArray:=rfl;rw[ec]at HT;clear ec
 cases hok:bB m s n with
 | false=>
  have Ga:=nV hok;clear hok HR;obtain⟨⟨a,b,c,d,f,k⟩,⟨a',b',c',d',f',k'⟩⟩:=m;obtain⟨x,y⟩:=s;dsimp only[cQ,cC]at C1 C2 HT ⊢;generalize M.Mc.ok ⟨⟨a,b,c,d,f,k⟩,⟨a',b',c',d',f',k'⟩⟩=o1 at C1 Ga;generalize M.sOk (x,y)=o2 at C2 Ga
  rcases Ga with rfl | ⟨rfl,rfl⟩ | ⟨rfl,rfl,h3⟩ | ⟨rfl,rfl,h3,h4⟩
  all_goals
   go_enter func267,ntmps267;(go_wp2_with fail);refine(C1 _).mono ?_;rintro e w1 ⟨m',rfl,Da,Ba⟩;obtain⟨t0,t1⟩:=HT.o _ Ba;have Ea:H9 (Below w.heap.size w w1):=(((tv _ _).alloc (tr _) _).alloc (by simp) _).trans (Ba.mono (by simp;omega));have Ja:H9 _:=Da;clear Ba Da;(go_wp2_with fail);refine(C2 _).mono ?_;rintro e w2 ⟨⟨p1,p2⟩,rfl,Ha,Aa,Fa⟩;have Ca:=Hd (Ea.o.trans (Fa.mono Ea.o.size));have Ka:H9 _:=Aa;clear Fa Aa Ha;go_wp2
   go_ret2
   exact⟨fun h=>by simp at h,fun _=>rfl,Ca.o.alloc Ca.o.size _⟩
 | true=>
  obtain⟨hm,hs,h3,h4⟩:=dE hok;obtain⟨N,rfl⟩:=Int.eq_ofNat_of_zero_le h3;have hN:N≤1000:=(by omega);have Ia:H9 (∀w,Calls prog 283 #[.iface 255 (cQ m),cC s,.int .i64 N] w fun e w'=>∃a cap,e=.returned (.slice a (N+1) cap)∧aU 328 w' w.heap.size a (N+1) cap (m.run s N)∧Below w.heap.size w w'):=HR.o N hN hm hs;rw[hm]at C1;rw[hs]at C2;clear hok HR hm hs h3 h4;generalize La:m.run s N=rn at Ia;have Pa:H9 (m.run s (Int.toNat N)=rn):=La;have HL:H9 (Int.toNat (N:Int)=N):=ub N;clear La;obtain⟨⟨a,b,c,d,f,k⟩,⟨a',b',c',d',f',k'⟩⟩:=m;obtain⟨x,y⟩:=s;dsimp only[cQ,cC]at C1 C2 HT Ia ⊢;go_enter func267,ntmps267;(go_wp2_with fail);refine(C1 _).mono ?_;rintro e w1 ⟨m',rfl,Da,Ba⟩;obtain⟨t0,t1⟩:=HT.o _ Ba;have Ea:H9 (Below w.heap.size w w1):=(((tv _ _).alloc (tr _) _).alloc (by simp) _).trans (Ba.mono (by simp;omega));have Ja:H9 _:=Da;clear Ba Da;(go_wp2_with fail);refine(C2 _).mono ?_;rintro e w2 ⟨⟨p1,p2⟩,rfl,Ha,Aa,Fa⟩;have Ca:=Hd (Ea.o.trans (Fa.mono Ea.o.size));have Ka:H9 _:=Aa;clear Fa Aa Ha;obtain rfl:=Ja.o trivial;have Aa:=Ka.o trivial;simp only[Prod.mk.injEq]at Aa;obtain⟨rfl,rfl⟩:=Aa;have Sa:¬ (N:Int)<0:=(by omega);have Ta:¬ 1000<(N:Int):=(by omega);(go_wp2_with fail);refine(Ia.o _).mono ?_;rintro e w3 ⟨ra,rc,rfl,Na,Oa⟩;have Qa:H9 (Below w.heap.size w w3):=(Ca.o.alloc Ca.o.size _).trans (Oa.mono (by have:=Ca.o.size;simp;omega));have Ra:H9 (aU 328 w3 w.heap.size ra (N+1) rc rn):=Na.mono (by have:=Ca.o.size;simp;omega);clear Na Oa;go_wp2
  go_ret2
  refine⟨fun _=>⟨ra,rc,rfl,?_⟩,fun h=>by simp at h,Qa.o⟩;rw[Pa.o,HL.o];exact Ra.o
def ep(m:M.Mc)(s:Int×Int)(n:Int):Int×Int:=if bB m s n=true then m.rn s n.toNat else(0,0)
theorem lR(h:bB m s n=true):ep m s n=m.rn s n.toNat:=if_pos h
theorem kF(h:bB m s n=false):ep m s n=(0,0):=if_neg (by rw[h];decide)
def eY(m:M.Mc)(s:Int×Int)(n:Int):List (Int×Int):=if bB m s n=true then m.run s n.toNat else[]
theorem ig(h:bB m s n=true):eY m s n=m.run s n.toNat:=if_pos h
theorem nW(h:bB m s n=false):eY m s n=[]:=if_neg (by rw[h];decide)
theorem pf(t:TypeId)(w:World)(i':Nat):aU t w i' none 0 0 []:=⟨rfl,rfl,.inl ⟨rfl,rfl⟩⟩
theorem s4(h:bB m s n=true):(eY m s n).length=n.toNat+1:=by rw[ig h,M.run_len]
theorem ko(m:M.Mc)(s:Int×Int)(n:Int)(w:World):Rt 207 #[cQ m,cC s,.int .i64 n] w (.tuple #[cC (ep m s n),.bool (bB m s n)]):=by
 have C1:=jL m s n
 have HT:H9 (∀W,Below (((w.alloc (.cells (cu m.X.xx m.X.xy m.X.yy m.X.x m.X.y m.X.k m.Y.xx m.Y.xy m.Y.yy m.Y.x m.Y.y m.Y.k).toArray 31)).alloc (.cells #[it s.1,it s.2] 33)).alloc (.cells #[it 0,it 0] 33)).heap.size (((w.alloc (.cells (cu m.X.xx m.X.xy m.X.yy m.X.x m.X.y m.X.k m.Y.xx m.Y.xy m.Y.yy m.Y.x m.Y.y m.Y.k).toArray 31)).alloc (.cells #[it s.1,it s.2] 33)).alloc (.cells #[it 0,it 0] 33)) W→W.cell? ⟨w.heap.size+1+1,0,none⟩=some (it 0)∧W.cell? ⟨w.heap.size+1+1,1,none⟩=some (it 0)∧W.frozen? ⟨w.heap.size+1+1,0,none⟩=false∧W.frozen? ⟨w.heap.size+1+1,1,none⟩=false):=fun W hW=>
  ⟨(hW.cell (p:=⟨w.heap.size+1+1,0,none⟩) (by simp)).trans (aJ w _ _ _ _ _ _ 0).2.2.1,(hW.cell (p:=⟨w.heap.size+1+1,1,none⟩) (by simp)).trans (aJ w _ _ _ _ _ _ 1).2.2.1,(aB hW (show w.heap.size+1+1<_ by simp)).trans (aJ w _ _ _ _ _ _ 0).2.2.2,(aB hW (show w.heap.size+1+1<_ by simp)).trans (aJ w _ _ _ _ _ _ 1).2.2.2⟩
 cases hok:bB m s n with
 | false=>
  rw[kF hok];rw[hok]at C1;obtain⟨⟨a,b,c,d,f,k⟩,⟨a',b',c',d',f',k'⟩⟩:=m;obtain⟨x,y⟩:=s;dsimp only[cQ,cC]at C1 HT ⊢;clear hok;go_enter func207,ntmps207;(go_wp2_with fail);refine(C1 _).mono ?_;rintro e w1 ⟨-,he,Aa⟩;obtain rfl:=he trivial;have Ba:H9 (Below w.heap.size w w1):=((((tv _ _).alloc (tr _) _).alloc (by simp) _).alloc (by simp;omega) _).trans (Aa.mono (by simp;omega));obtain⟨t0,t1,t2,t3⟩:=HT.o _ Aa;clear Aa he;go_wp2;refine tx (v:=.tuple #[.agg #[it 0,it 0],.bool false]) (by simp[results,results207,go_sem,t0,t1]) rfl ⟨rfl,?_⟩;exact(Ba.o.setCell (by show w.heap.size≤w.heap.size+1+1;omega) _).setCell (by show w.heap.size≤w.heap.size+1+1;omega) _
 | true=>
  obtain⟨hm,hs,h3,h4⟩:=dE hok;rw[lR hok];rw[hok]at C1;have HG:H9 ((m.run s n.toNat).getD n.toNat (0,0)=m.rn s n.toNat):=M.run_get m s _ _ (tr _);have hN:n.toNat≤1000:=(by omega);have CS:=iK (m.rn s n.toNat);generalize m.run s n.toNat=rn at C1 HG;generalize m.rn s n.toNat=q at *;generalize n.toNat=N at C1 HG hN;obtain⟨⟨a,b,c,d,f,k⟩,⟨a',b',c',d',f',k'⟩⟩:=m;obtain⟨x,y⟩:=s;obtain⟨u,v⟩:=q;dsimp only[cQ,cC]at C1 HT CS ⊢;clear hok hm hs h3 h4;go_enter func207,ntmps207;(go_wp2_with fail);refine(C1 _).mono ?_;rintro e w1 ⟨he,-,Aa⟩;obtain⟨ra,rc,rfl,Da⟩:=he trivial;have Ba:H9 (Below w.heap.size w w1):=((((tv _ _).alloc (tr _) _).alloc (by simp) _).alloc (by simp;omega) _).trans (Aa.mono (by simp;omega));have HB1':H9 (Below _ _ w1):=Aa;obtain⟨g,rfl,-,Fa,Ga,hc⟩:=Da.block (by omega);obtain⟨e1,e2⟩:=hc N (by omega);rw[HG.o]at e1 e2;have Ha:((N+1:Nat):Int)≤rc:=(by omega);clear Aa he Da hc;dsimp only at e1 e2;(go_wp2_with fail);refine(CS _).mono ?_;rintro e w2 ⟨rfl,Ca⟩;have Ea:=Hd (Ba.o.trans (Ca.mono Ba.o.size));obtain⟨t0,t1,t2,t3⟩:=HT.o _ (HB1'.o.trans (Ca.mono HB1'.o.size));clear Ca HB1';go_wp2;refine tx (v:=.tuple #[.agg #[it u,it v],.bool true]) (by simp[results,results207,go_sem,t0,t1]) rfl ⟨rfl,?_⟩;exact(Ea.o.setCell (by show w.heap.size≤w.heap.size+1+1;omega) _).setCell (by show w.heap.size≤w.heap.size+1+1;omega) _
theorem et(m:M.Mc)(w:World):Rt 187 #[cQ m] w (.bool m.ok):=by
 have C1:=eH m;generalize m.ok=o at *;obtain⟨⟨a,b,c,d,f,k⟩,⟨a',b',c',d',f',k'⟩⟩:=m;dsimp only[cQ]at C1 ⊢;go_enter func187,ntmps187;(go_wp2_with fail);refine(C1 _).mono ?_;rintro e w1 ⟨m',rfl,-,Aa⟩;have Ba:H9 (Below w.heap.size w w1):=((tv _ _).alloc (tr _) _).trans (Aa.mono (by simp));clear Aa;go_wp2;go_ret;exact⟨rfl,Ba.o⟩
theorem dj(s:Int×Int)(w:World):Rt 188 #[cC s] w (.bool (M.sOk s)):=by
 have C1:=fZ s;generalize M.sOk s=o at *;obtain⟨x,y⟩:=s;dsimp only[cC]at C1 ⊢;go_enter func188,ntmps188;(go_wp2_with fail);refine(C1 _).mono ?_;rintro e w1 ⟨⟨p,q⟩,rfl,-,-,Ba⟩;have Aa:H9 (Below w.heap.size w w1):=((tv _ _).alloc (tr _) _).trans (Ba.mono (by simp));clear Ba;go_wp2;go_ret;exact⟨rfl,by first | exact Aa.o | exact Aa.o.alloc Aa.o.size _⟩
theorem iM{P:Program}{ops:Array Oper}{o:Oper}{a:Act}{w:World}{K:Act→World→Prop}{Q:Exit→Act→World→Prop}{E:Prop}
 (hg:o.guard=none)(s x:Operand)(t:TypeId)(hop:o.op=Op.call {callee:=Callee.builtin Builtin.append,args:=#[s,x],argTypes:=#[t,t]})
 (i':Nat)(e:TypeId)(i:TypeInfo)(z:Value)(size bytes:Nat)(ht:P.underlying t=some (.slice e))(hi:P.info? e=some i)(hz:i.zero=some z)(hsize:i.size=size)(hby:i.bytes=bytes)(hzs:z.cells.size=size)(hsz:0<size)
 (v:Value)(n:Nat)(xs:List Value)(hs:a.eval s=v)(hown:w.ownsRow i' e size v n xs)(ad:Addr)(m c:Nat)(news:List Value)(hx:a.eval x=.slice (some ad) m c)(hl:news.length=m*size)(hnews:∀j u,news[j]?=some u→w.cell? (ad.add j)=some u)(h1:∀u∈news,u.oneCell'=true)
 (h63:n+m≤maxLen)(hbytes:(n+m)*bytes≤140737488355328)(tf:i'≤w.heap.size)
 (hK:∀v' w',w'.ownsRow i' e size v' (n+m) (xs++news)→w.grownBy w' v.ownBlock→K (a.put o.dst v') w'):
  if Region.wanted o (yielded ops a.tmps)=true then Oper.wp P o a w K Q else E:=by
 have hw:Region.wanted o (yielded ops a.tmps)=true:=(by simp[Region.wanted,hg]);rw[if_pos hw];obtain⟨v',w',Aa,r1,r2,_,_⟩:=run_append_own_at (P:=P) w i' t o.type e i z size bytes ht hi hz hsize hby hzs hsz v n xs hown ad m c news hl hnews h1 h63 hbytes tf;unfold Oper.wp;simp[execOp,hop,resolve,invoke,builtin,hs,hx,Aa,Result.andThen];exact hK v' w' r1 r2
theorem mI:(prog.info? 33).map (fun i=>(i.zero,i.size,i.bytes))=some (some (.agg #[.int .i64 0,.int .i64 0]),2,16):=by kernel_rfl
theorem rA(n:Int)(w:World):Rq 58 #[.int .i64 n,.int .i64 0,.int .i64 1000] w (.bool (decide (0≤n)&&decide (n≤1000))):=by
 by_cases h0:0≤n
 ·
  by_cases h1:n≤1000
  ·
   rw[decide_eq_true h0,decide_eq_true h1];go_enter func58,ntmps58;go_wp2;go_ret;exact⟨rfl,rfl⟩
  ·
   rw[decide_eq_true h0,decide_eq_false h1];go_enter func58,ntmps58;go_wp2;go_ret;exact⟨rfl,rfl⟩
 ·
  rw[decide_eq_false h0];go_enter func58,ntmps58;go_wp2;go_ret;exact⟨rfl,rfl⟩
theorem mT{t:TypeId}(w:World)(i':Nat)(hb:i'≤w.heap.size)(x y:Int):aU t (w.alloc (.cells #[.int .i64 x,.int .i64 y] t)) i' (some ⟨w.heap.size,0,none⟩) 1 1 [(x,y)]:=by
 refine⟨rfl,rfl,.inr ⟨w.heap.size,1,#[it x,it y],rfl,hb,?_,tr _,by unfold maxLen;omega,rfl,rfl⟩⟩;show(w.heap.push _)[w.heap.size]?=_;simp
set_option maxRecDepth 10000 in
theorem ky(m:M.Mc)(s:Int×Int)(n:Int)(w:World):Calls prog 123 #[cQ m,cC s,.int .i64 n] w fun e w'=>∃a l cap,e=.returned (.tuple #[.slice a l cap,.bool (bB m s n)])∧l≤1001∧aU 33 w' w.heap.size a l cap (eY m s n)∧Below w.heap.size w w':=by
 have C1:=cr m;have C2:=cM s;have C3:=rA n
 have HT:H9 (∀W,Below ((w.alloc (.cells (cu m.X.xx m.X.xy m.X.yy m.X.x m.X.y m.X.k m.Y.xx m.Y.xy m.Y.yy m.Y.x m.Y.y m.Y.k).toArray 31)).alloc (.cells #[it s.1,it s.2] 33)).heap.size ((w.alloc (.cells (cu m.X.xx m.X.xy m.X.yy m.X.x m.X.y m.X.k m.Y.xx m.Y.xy m.Y.yy m.Y.x m.Y.y m.Y.k).toArray 31)).alloc (.cells #[it s.1,it s.2] 33)) W→W.cell? ⟨w.heap.size,0,none⟩=some (it m.X.xx)∧W.cell? ⟨w.heap.size,1,none⟩=some (it m.X.xy)∧W.cell? ⟨w.heap.size,2,none⟩=some (it m.X.yy)∧W.cell? ⟨w.heap.size,3,none⟩=some (it m.X.x)∧W.cell? ⟨w.heap.size,4,none⟩=some (it m.X.y)∧W.cell? ⟨w.heap.size,5,none⟩=some (it m.X.k)∧W.cell? ⟨w.heap.size,6,none⟩=some (it m.Y.xx)∧W.cell? ⟨w.heap.size,7,none⟩=some (it m.Y.xy)∧W.cell? ⟨w.heap.size,8,none⟩=some (it m.Y.yy)∧W.cell? ⟨w.heap.size,9,none⟩=some (it m.Y.x)∧W.cell? ⟨w.heap.size,10,none⟩=some (it m.Y.y)∧W.cell? ⟨w.heap.size,11,none⟩=some (it m.Y.k)∧W.cell? ⟨w.heap.size+1,0,none⟩=some (it s.1)∧W.cell? ⟨w.heap.size+1,1,none⟩=some (it s.2)):=fun W hW=>by
  have e1:(w.alloc (.cells (cu m.X.xx m.X.xy m.X.yy m.X.x m.X.y m.X.k m.Y.xx m.Y.xy m.Y.yy m.Y.x m.Y.y m.Y.k).toArray 31)).heap.size=w.heap.size+1:=(by simp);have h1:=fun i=>tH (w.alloc (.cells (cu m.X.xx m.X.xy m.X.yy m.X.x m.X.y m.X.k m.Y.xx m.Y.xy m.Y.yy m.Y.x m.Y.y m.Y.k).toArray 31)) #[it s.1,it s.2] 33 i;rw[e1]at h1;have h0:=fun i=>(World.cell?_alloc_lt (w:=w.alloc (.cells (cu m.X.xx m.X.xy m.X.yy m.X.x m.X.y m.X.k m.Y.xx m.Y.xy m.Y.yy m.Y.x m.Y.y m.Y.k).toArray 31)) (o:=.cells #[it s.1,it s.2] 33) (a:=⟨w.heap.size,i,none⟩) (h:=by simp)).trans (tH w (cu m.X.xx m.X.xy m.X.yy m.X.x m.X.y m.X.k m.Y.xx m.Y.xy m.Y.yy m.Y.x m.Y.y m.Y.k).toArray 31 i);exact⟨(hW.cell (p:=⟨w.heap.size,0,none⟩) (by simp;omega)).trans (h0 0),(hW.cell (p:=⟨w.heap.size,1,none⟩) (by simp;omega)).trans (h0 1),(hW.cell (p:=⟨w.heap.size,2,none⟩) (by simp;omega)).trans (h0 2),(hW.cell (p:=⟨w.heap.size,3,none⟩) (by simp;omega)).trans (h0 3),(hW.cell (p:=⟨w.heap.size,4,none⟩) (by simp;omega)).trans (h0 4),(hW.cell (p:=⟨w.heap.size,5,none⟩) (by simp;omega)).trans (h0 5),(hW.cell (p:=⟨w.heap.size,6,none⟩) (by simp;omega)).trans (h0 6),(hW.cell (p:=⟨w.heap.size,7,none⟩) (by simp;omega)).trans (h0 7),(hW.cell (p:=⟨w.heap.size,8,none⟩) (by simp;omega)).trans (h0 8),(hW.cell (p:=⟨w.heap.size,9,none⟩) (by simp;omega)).trans (h0 9),(hW.cell (p:=⟨w.heap.size,10,none⟩) (by simp;omega)).trans (h0 10),(hW.cell (p:=⟨w.heap.size,11,none⟩) (by simp;omega)).trans (h0 11),(hW.cell (p:=⟨w.heap.size+1,0,none⟩) (by simp)).trans (h1 0),(hW.cell (p:=⟨w.heap.size+1,1,none⟩) (by simp)).trans (h1 1)⟩
 cases hok:bB m s n with
 | false=>
  have HV:H9 (eY m s n=[]):=nW hok
  have Ga:m.ok=false∨(m.ok=true∧M.sOk s=false)∨(m.ok=true∧M.sOk s=true∧(decide (0≤n)&&decide (n≤1000))=false):=by
   unfold bB at hok
   cases h1:m.ok <;> cases h2:M.sOk s <;> simp_all
  clear hok;generalize m.ok=o1 at C1 Ga;generalize M.sOk s=o2 at C2 Ga;generalize(decide (0≤n)&&decide (n≤1000))=o3 at C3 Ga;obtain⟨⟨a,b,c,d,f,k⟩,⟨a',b',c',d',f',k'⟩⟩:=m;obtain⟨x,y⟩:=s;dsimp only[cQ,cC]at C1 C2 HT ⊢
  rcases Ga with rfl | ⟨rfl,rfl⟩ | ⟨rfl,rfl,rfl⟩
  all_goals
   go_enter func123,ntmps123;(go_wp2_with fail);refine(C1 _).mono ?_;rintro e w1 ⟨rfl,Ca⟩;obtain⟨q0,q1,q2,q3,q4,q5,q6,q7,q8,q9,Pa,Qa,Ra,Sa⟩:=HT.o _ Ca;have Ba:H9 (Below w.heap.size w w1):=(((tv _ _).alloc (tr _) _).alloc (by simp) _).trans (Ca.mono (by simp;omega));clear Ca
   try (
    (go_wp2_with fail);refine(C2 _).mono ?_;rintro e w2 ⟨rfl,Da⟩
    replace Ba:H9 (Below w.heap.size w w2):=Ba.o.trans (Da.mono Ba.o.size)
    clear Da)
   try (
    (go_wp2_with fail);refine(C3 _).mono ?_;rintro e w3 ⟨rfl,rfl⟩)
   go_wp2
   go_ret2
   exact⟨none,0,0,rfl,by omega,by rw[HV.o];exact pf _ _ _,Ba.o⟩
 | true=>
  obtain⟨hm,hs,h3,h4⟩:=dE hok;have HV:H9 (eY m s n=m.run s n.toNat):=ig hok;rw[hm]at C1;rw[hs]at C2;rw[decide_eq_true h3,decide_eq_true h4]at C3;obtain⟨N,rfl⟩:=Int.eq_ofNat_of_zero_le h3;have hN:N≤1000:=(by omega);have HL:H9 (Int.toNat (N:Int)=N):=ub N;have HM:H9 (m.ok=true):=hm;have HS:=Hd (hs);have Ta:H9 (∃m0,m0=m):=⟨_,rfl⟩;obtain⟨m0,Ka⟩:=Ta.o;have Ua:H9 (∃s0,s0=s):=⟨_,rfl⟩;obtain⟨s0,Ha⟩:=Ua.o;have CN:H9 (∀(q:Int×Int) (w:World),M.sOk q=true→Rt 213 #[cQ m,cC q] w (cC (m0.nx q))):=fun q w hq=>by rw[Ka];exact lN m q w HM.o hq
  have Gb:H9 (eY m s (N:Int)=m0.run s0 N):=(by show _=_;rw[Ka,Ha,HV.o,HL.o]);have Hb:H9 (∀k,M.sOk (m0.rn s0 k)=true):=fun k=>by rw[Ha];exact M.sOk_rn m0 HS.o k
  have Ib:H9 (m0.run s0 0=[s]):=(by show _=_;rw[←Ha];rfl);obtain⟨i0,hi,Va,Wa,Xa⟩:=info_parts mI;have HI:H9 (prog.info? 33=some i0∧i0.zero=some (.agg #[it 0,it 0])∧i0.size=2∧i0.bytes=16):=⟨hi,Va,Wa,Xa⟩;clear hok hm hs h3 h4 Ta Ua Ka Ha HM HS HV HL hi Va Wa Xa;obtain⟨⟨a,b,c,d,f,k⟩,⟨a',b',c',d',f',k'⟩⟩:=m;obtain⟨x,y⟩:=s;dsimp only[cQ,cC]at C1 C2 HT CN ⊢;go_enter func123,ntmps123;(go_wp2_with fail);refine(C1 _).mono ?_;rintro e w1 ⟨rfl,Ca⟩;have Fa:=Hd (Ca);obtain⟨q0,q1,q2,q3,q4,q5,q6,q7,q8,q9,Pa,Qa,Ra,Sa⟩:=HT.o _ Ca;have Ba:H9 (Below w.heap.size w w1):=(((tv _ _).alloc (tr _) _).alloc (by simp) _).trans (Ca.mono (by simp;omega));clear Ca;(go_wp2_with fail);refine(C2 _).mono ?_;rintro e w2 ⟨rfl,Da⟩;have Ya:=Hd (Ba.o.trans (Da.mono Ba.o.size));have Ia:H9 (Below (w.heap.size+2) _ w2):=(Fa.o.trans (Da.mono Fa.o.size)).mono (by simp);obtain⟨r0,r1,r2,r3,r4,r5,r6,r7,r8,r9,Za,Ab,Jb,Kb⟩:=HT.o _ (Fa.o.trans (Da.mono Fa.o.size));clear Da q0 q1 q2 q3 q4 q5 q6 q7 q8 q9 Pa Qa Ra Sa Fa Ba;(go_wp2_with fail);refine(C3 _).mono ?_;rintro e w2 ⟨rfl,rfl⟩
  have HO:H9 (aU 33 (w2.alloc (.cells #[it x,it y] 33)) (w.heap.size+2) (some ⟨w2.heap.size,0,none⟩) 1 1 (m0.run s0 0)):=by
   show aU _ _ _ _ _ _ _;rw[Ib.o];exact mT _ _ (by have:=Ia.o.size;simpa using this) x y
  have Bb:H9 (Below (w.heap.size+2) w2 (w2.alloc (.cells #[it x,it y] 33))):=(tv _ _).alloc (by have:=Ia.o.size;simpa using this) _;have Cb:H9 (Below w.heap.size w (w2.alloc (.cells #[it x,it y] 33))):=Ya.o.alloc Ya.o.size _;have Lb:w.heap.size+2≤w2.heap.size:=(by have:=Ia.o.size;simpa using this);clear HT C1 C2 C3 Ia;go_wp2
  go_loopw [8,9] (fun s i wr=>∃(j:Nat) (al:Option Addr) (Ea:Nat),j≤N∧i=it j∧s=.slice al (j+1) Ea∧aU 33 wr (w.heap.size+2) al (j+1) Ea (m0.run s0 j)∧Below (w.heap.size+2) w2 wr∧Below w.heap.size w wr) (fun _ i _=>N-(intOf i).toNat)
  case atStart=>exact⟨0,_,_,by omega,rfl,rfl,HO.o,Bb.o,Cb.o⟩
  case round=>
   obtain⟨j,al,Ea,hj,rfl,rfl,La,Aa,Ca⟩:=hrel;have Na:=Hd (La);have Ba:=Hd (Ca);have Nb:=Hd (Aa);have Ob:w.heap.size+2≤wr.heap.size:=tB Lb Aa.size;by_cases Gc:j<N
   ·
    obtain⟨g,rfl,hg,Hc,Ic,hc⟩:=La.block (by omega);obtain⟨e1,e2⟩:=hc j (by omega);rw[M.run_get m0 s0 j j (tr _)]at e1 e2;have Pb:=(Aa.cell (p:=⟨w.heap.size,0,none⟩) (by simp)).trans r0;have Qb:=(Aa.cell (p:=⟨w.heap.size,1,none⟩) (by simp)).trans r1;have Rb:=(Aa.cell (p:=⟨w.heap.size,2,none⟩) (by simp)).trans r2;have Sb:=(Aa.cell (p:=⟨w.heap.size,3,none⟩) (by simp)).trans r3;have Tb:=(Aa.cell (p:=⟨w.heap.size,4,none⟩) (by simp)).trans r4;have Ub:=(Aa.cell (p:=⟨w.heap.size,5,none⟩) (by simp)).trans r5;have Vb:=(Aa.cell (p:=⟨w.heap.size,6,none⟩) (by simp)).trans r6;have Wb:=(Aa.cell (p:=⟨w.heap.size,7,none⟩) (by simp)).trans r7;have Xb:=(Aa.cell (p:=⟨w.heap.size,8,none⟩) (by simp)).trans r8;have Yb:=(Aa.cell (p:=⟨w.heap.size,9,none⟩) (by simp)).trans r9;have Zb:=(Aa.cell (p:=⟨w.heap.size,10,none⟩) (by simp)).trans Za;have Ac:=(Aa.cell (p:=⟨w.heap.size,11,none⟩) (by simp)).trans Ab;have hI:(j:Int)<(N:Int):=(by omega);have Jc:(j:Int)+1≤Ea:=(by omega);have Kc:(j:Int)<(j:Int)+1:=(by omega);have HN:H9 (m0.run s0 j++[m0.nx (m0.rn s0 j)]=m0.run s0 (j+1)):=M.run_snoc m0 s0 j;have CQ:=CN.o (m0.rn s0 j);have Db:H9 (M.sOk (m0.rn s0 j)=true):=Hb.o j;generalize m0.rn s0 j=q at e1 e2 HN CQ Db;generalize Bc:m0.nx q=q2 at HN CQ;obtain⟨u,v⟩:=q;obtain⟨u2,v2⟩:=q2;dsimp only at e1 e2 CQ;clear La Aa Ca hc HO Bb Cb Bc r0 r1 r2 r3 r4 r5 r6 r7 r8 r9 Za Ab Jb Kb;go_wp2
    go_region_law (first
     | (refine iM rfl (.tmp 30) (.tmp 37) 211 rfl (w.heap.size+2) 33 i0 (.agg #[it 0,it 0]) 2 16 underlying211 HI.o.1 HI.o.2.1 HI.o.2.2.1 HI.o.2.2.2 rfl (by decide) (.slice (some ⟨g,0,none⟩) (j+1) Ea) (j+1) (kW (m0.run s0 j)) (by simp[Act.eval]) (uc (Na.o.below ((tv _ _).drew.trans Ja)).2 _) ⟨w4.heap.size,0,none⟩ 1 1 [it u2,it v2] (by simp[Act.eval]) rfl (d8 w4 _ _ _) (d9 _ _) (by unfold maxLen;omega) (by omega) (by have:=Ja.size;simp at this;simp;omega) ?_;intro v' w5 Eb hgrow)
     | (go_simp;go_wp2_with(go_at_call 213;refine(CQ _ Db.o).mono ?_;rintro e w4 ⟨rfl,Ja⟩)))
    all_goals
     have hown':w5.ownsRow (w.heap.size+2) 33 2 v' (j+1+1) (kW (m0.run s0 (j+1))):=(by rw[←HN.o,←hU];exact Eb);obtain⟨b5,c5,rfl,Fb⟩:=aU.form (M.run_len m0 s0 (j+1)) hown';have Cc:=Hd (Fb);have Oa:=Na.o.row;have hb4':Below wr.heap.size wr w4:=(tv _ _).drew.trans Ja;have Lc:=hb4'.size;have Dc:H9 (Below (w.heap.size+2) w2 w5):=((Nb.o.trans (hb4'.mono Ob)).alloc (by omega) _).grown hgrow (by simp;omega) Oa;have Ec:H9 (Below w.heap.size w w5):=((Ba.o.trans (hb4'.mono Ba.o.size)).alloc (by have:=Ba.o.size;omega) _).grown hgrow (by have:=Ba.o.size;simp;omega) (fun q hq=>by have:=Oa q hq;omega);clear Eb hown' hgrow Fb Oa Ja hb4' Pb Qb Rb Sb Tb Ub Vb Wb Xb Yb Zb Ac e1 e2;go_wp2;go_roundw
     case rel=>exact⟨j+1,b5,c5,by omega,by go_num,rfl,Cc.o,Dc.o,Ec.o⟩
     case measure=>simp[intOf];omega
   ·
    have Fc:j=N:=(by omega);subst Fc;go_wp2
    go_ret2
    exact⟨al,j+1,Ea,rfl,by omega,by rw[Gb.o];exact Na.o.mono (by omega),Ba.o⟩
theorem kx(m:M.Mc)(s:Int×Int)(n:Int)(w:World):Rt 130 #[cQ m,cC s,.int .i64 n] w (.tuple #[cC (ep m s n),.bool (bB m s n)]):=by
 have C1:=ky m s n
 have HT:H9 (∀W,Below (((w.alloc (.cells (cu m.X.xx m.X.xy m.X.yy m.X.x m.X.y m.X.k m.Y.xx m.Y.xy m.Y.yy m.Y.x m.Y.y m.Y.k).toArray 31)).alloc (.cells #[it s.1,it s.2] 33)).alloc (.cells #[it 0,it 0] 33)).heap.size (((w.alloc (.cells (cu m.X.xx m.X.xy m.X.yy m.X.x m.X.y m.X.k m.Y.xx m.Y.xy m.Y.yy m.Y.x m.Y.y m.Y.k).toArray 31)).alloc (.cells #[it s.1,it s.2] 33)).alloc (.cells #[it 0,it 0] 33)) W→W.cell? ⟨w.heap.size+1+1,0,none⟩=some (it 0)∧W.cell? ⟨w.heap.size+1+1,1,none⟩=some (it 0)∧W.frozen? ⟨w.heap.size+1+1,0,none⟩=false∧W.frozen? ⟨w.heap.size+1+1,1,none⟩=false):=fun W hW=>
  ⟨(hW.cell (p:=⟨w.heap.size+1+1,0,none⟩) (by simp)).trans (aJ w _ _ _ _ _ _ 0).2.2.1,(hW.cell (p:=⟨w.heap.size+1+1,1,none⟩) (by simp)).trans (aJ w _ _ _ _ _ _ 1).2.2.1,(aB hW (show w.heap.size+1+1<_ by simp)).trans (aJ w _ _ _ _ _ _ 0).2.2.2,(aB hW (show w.heap.size+1+1<_ by simp)).trans (aJ w _ _ _ _ _ _ 1).2.2.2⟩
 cases hok:bB m s n with
 | false=>
  rw[kF hok];rw[hok]at C1;obtain⟨⟨a,b,c,d,f,k⟩,⟨a',b',c',d',f',k'⟩⟩:=m;obtain⟨x,y⟩:=s;dsimp only[cQ,cC]at C1 HT ⊢;clear hok;go_enter func130,ntmps130;(go_wp2_with fail);refine(C1 _).mono ?_;rintro e w1 ⟨ra,rl,rc,rfl,-,-,Aa⟩;have Ba:H9 (Below w.heap.size w w1):=((((tv _ _).alloc (tr _) _).alloc (by simp) _).alloc (by simp;omega) _).trans (Aa.mono (by simp;omega));obtain⟨t0,t1,t2,t3⟩:=HT.o _ Aa;clear Aa;go_wp2;refine tx (v:=.tuple #[.agg #[it 0,it 0],.bool false]) (by simp[results,results130,go_sem,t0,t1]) rfl ⟨rfl,?_⟩;exact(Ba.o.setCell (by show w.heap.size≤w.heap.size+1+1;omega) _).setCell (by show w.heap.size≤w.heap.size+1+1;omega) _
 | true=>
  obtain⟨hm,hs,h3,h4⟩:=dE hok;rw[lR hok];have Ca:=s4 hok;have HG:H9 ((eY m s n).getD n.toNat (0,0)=m.rn s n.toNat):=(by show _=_;rw[ig hok];exact M.run_get m s _ _ (tr _));rw[hok]at C1;generalize eY m s n=rn at C1 HG Ca;generalize m.rn s n.toNat=q at *;obtain⟨N,rfl⟩:=Int.eq_ofNat_of_zero_le h3;rw[ub]at HG Ca;have hN:N≤1000:=(by omega);obtain⟨⟨a,b,c,d,f,k⟩,⟨a',b',c',d',f',k'⟩⟩:=m;obtain⟨x,y⟩:=s;obtain⟨u,v⟩:=q;dsimp only[cQ,cC]at C1 HT ⊢;clear hok hm hs h3 h4;go_enter func130,ntmps130;(go_wp2_with fail);refine(C1 _).mono ?_;rintro e w1 ⟨ra,rl,rc,rfl,-,Da,Aa⟩;have Ba:H9 (Below w.heap.size w w1):=((((tv _ _).alloc (tr _) _).alloc (by simp) _).alloc (by simp;omega) _).trans (Aa.mono (by simp;omega));obtain⟨t0,t1,t2,t3⟩:=HT.o _ Aa;have Fa:rl=N+1:=(by rw[←Da.1];exact Ca);subst Fa;obtain⟨g,rfl,Ea,Ga,Ha,hc⟩:=Da.block (by omega);obtain⟨e1,e2⟩:=hc N (by omega);rw[HG.o]at e1 e2;have Ia:(N:Int)+1≤rc:=(by omega);have Ja:(N:Int)<(N:Int)+1:=(by omega);have Ka:g≠w.heap.size+1+1:=(by simp at Ea;omega);clear Aa Da hc Ea;dsimp only at e1 e2;go_wp2;refine tx (v:=.tuple #[.agg #[it u,it v],.bool true]) (by simp[results,results130,go_sem,t0,t1]) rfl ⟨rfl,?_⟩;exact(Ba.o.setCell (by show w.heap.size≤w.heap.size+1+1;omega) _).setCell (by show w.heap.size≤w.heap.size+1+1;omega) _
theorem dV(s:Int×Int)(w:World):Rt 82 #[cC s,cC s] w (.bool true):=by
 obtain⟨x,y⟩:=s;dsimp only[cC];have n1:(x != x)=false:=(by simp);have n2:(y != y)=false:=(by simp);go_enter func82,ntmps82;go_wp2;go_ret;exact⟨rfl,((tv _ _).alloc (tr _) _).alloc (by simp) _⟩
end Go.Proofs.YtjcjonncaknhnaaGreatDoor
