import Derived.Test.YtbjalickbnpnkaaGreatDoorPk01
namespace Go.Proofs.YtbjalickbnpnkaaGreatDoor
open Go.RowKit Go.Proofs.Tryz
set_option linter.unusedSimpArgs false
set_option maxHeartbeats 32000000
variable {m:M.Mc}{s:Int×Int}{n:Int}
theorem tS(a b:Int)(w:World):Calls prog 214 #[it a,it b] w λe w'=>∃p:Int×Int,e=.returned (.tuple #[it p.1,it p.2,.bool (M.sOk (a,b))])/\M.sOk p=true/\(M.sOk (a,b)=true->p=(a,b))/\w'=w:=by
 unfold M.sOk;dsimp only
 have C:∀(a:Int) (w:World),Rq 168 #[it a] w (.tuple #[it (if M.el a=true then a else 0),.bool (M.el a)]):=λa w=>by
  by_cases h:M.el a=true
  ·
   rw[if_pos h,h];exact dF a w ((M.el_iff a).1 h).1 ((M.el_iff a).1 h).2
  ·
   rw[if_neg h,eq_false_of_ne_true h];exact dI a w ((M.el_not a).1 (eq_false_of_ne_true h))
 have E:∀a:Int,M.el (if M.el a=true then a else 0)=true:=λa=>by
  by_cases h:M.el a=true
  .rw[if_pos h,h]
  .rw[if_neg h];decide
 have C1:=C a;have C2:=C b;have E1:=Hd (E a);have E2:=Hd (E b);have G1:H7 (M.el a=true->(if M.el a=true then a else 0)=a):=λh=>if_pos h;have G2:H7 (M.el b=true->(if M.el b=true then b else 0)=b):=λh=>if_pos h;generalize(if M.el a=true then a else 0)=x at *;generalize(if M.el b=true then b else 0)=y at *;generalize M.el a=o1 at *;generalize M.el b=o2 at *;clear C E
 cases o1 <;> cases o2
 all_goals
  go_enter func214,ntmps214;(go_wp2_with fail);refine(C1 _).mono ?_;rintro e w1 ⟨rfl,rfl⟩;(go_wp2_with fail);refine(C2 _).mono ?_;rintro e w1 ⟨rfl,rfl⟩;go_wp2
  go_ret3
  exact⟨(x,y),rfl,by rw[E1.o,E2.o];rfl,λh=>by first | (exfalso;revert h;decide) | rw[G1.o trivial,G2.o trivial],rfl⟩
theorem iP(s:Int×Int)(w:World):Calls prog 196 #[dd s] w λe w'=>∃p:Int×Int,e=.returned (.tuple #[dd p,.bool (M.sOk s)])/\M.sOk p=true/\(M.sOk s=true->p=s)/\m1 w w':=by
 have C1:=tS s.1 s.2;obtain⟨x,y⟩:=s;dsimp only[dd]at C1 |-;generalize M.sOk (x,y)=o at *;go_enter func196,ntmps196;(go_wp2_with fail);refine(C1 _).mono ?_;rintro e w1 ⟨p,rfl,hp,hE,rfl⟩;have HP:=Hd hp;have HE:=Hd hE;obtain⟨u,v⟩:=p;clear hp hE;go_wp2;refine s' (v:=.tuple #[.agg #[it u,it v],.bool o]) (by simp[results,results196,go_sem]) rfl ⟨(u,v),rfl,HP.o,HE.o,?_⟩;exact((m8 _ _).alloc (m3 _) _).alloc (by simp) _
theorem j5(s:Int×Int)(w:World):Rt 172 #[dd s] w (dd s):=by
 obtain⟨x,y⟩:=s;dsimp only[dd];go_enter func172,ntmps172;go_wp2;refine s' (v:=.agg #[it x,it y]) (by simp[results,results172,go_sem]) rfl ⟨rfl,?_⟩;exact((m8 _ _).alloc (m3 _) _).alloc (by simp) _
theorem rV(w:World)(A B C:Array Value)(t1 t2 t3:TypeId)(i:Nat):
  (((w.alloc (.cells A t1)).alloc (.cells B t2)).alloc (.cells C t3)).frozen? ⟨w.heap.size+1,i,none⟩=false:=by
 rw[frozen?_alloc_cells,frozen?_alloc_cells,frozen?_alloc_cells];simp only[World.frozen?];rw[Array.getElem?_eq_none (by omega)]
theorem lA(r:M.Rl)(w:World):Calls prog 121 #[jI r] w λe w'=>∃r':M.Rl,e=.returned (.tuple #[jI r',.bool r.ok])/\(r.ok=true->r'=r)/\m1 w w':=by
 have HS:H7 (∀(W:World) (g:Nat),W.heap.size=g->aC (W.alloc (.cells (dm r.xx r.xy r.yy r.x r.y r.k).toArray 2)) (some ⟨g,0,none⟩) 6 6 r.nums):=λW g hg=>te W g hg r _;have HO:H7 (M.allEl r.nums=r.ok):=rfl;have HN:H7 (r.nums=[r.xx,r.xy,r.yy,r.x,r.y,r.k]):=rfl
 cases hok:r.ok with
 | false=>
  rw[hok]at HO;clear hok;dsimp only[jI];obtain⟨a,b,c,d,f,k⟩:=r;dsimp only at HS |-;generalize M.Rl.nums ⟨a,b,c,d,f,k⟩=zs at HS HO;clear HN;go_enter func121,ntmps121;(go_wp2_with fail);refine(dg _ (HS.o _ _ (by simp))).mono ?_;rintro e w' ⟨rfl,rfl⟩;rw[HO.o];go_wp2;refine s' (v:=.tuple #[jI ⟨0,0,0,0,0,0⟩,.bool false]) (by simp[results,results121,go_sem]) rfl ⟨⟨0,0,0,0,0,0⟩,rfl,λh=>by simp at h,?_⟩;exact(((m8 _ _).alloc (m3 _) _).alloc (by simp) _).alloc (by simp;omega) _
 | true=>
  rw[hok]at HO;clear hok;dsimp only[jI];obtain⟨a,b,c,d,f,k⟩:=r;dsimp only at HS HN |-;generalize M.Rl.nums ⟨a,b,c,d,f,k⟩=zs at HS HO HN;go_enter func121,ntmps121;(go_wp2_with fail);refine(dg _ (HS.o _ _ (by simp))).mono ?_;rintro e w' ⟨rfl,rfl⟩;rw[HO.o];(go_wp2_with fail);refine(dx _ (HS.o _ _ (by simp)) (by omega)).mono ?_;rintro e w1 ⟨a1,c1,rfl,ho,hb⟩;have HB:=Hd (((((m8 _ _).alloc (m3 _) _).alloc (by simp) _).alloc (by simp;omega) _).trans (hb.mono (by simp;omega)));have hc:∀i,w1.cell? ⟨w.heap.size+1,i,none⟩=#[it 0,it 0,it 0,it 0,it 0,it 0][i]?:=λi=>(hb.cell (p:=⟨w.heap.size+1,i,none⟩) (by simp)).trans (aU w _ _ _ _ _ _ i).2.1;have hf:=λi=>(bx hb (show w.heap.size+1<_ by simp)).trans (rV w _ _ _ _ _ _ i);obtain⟨g,rfl,hg,Ca,Aa,-⟩:=ho.block (by omega);have Da:g≠w.heap.size+1:=(by simp at hg;omega);rw[HN.o]at Aa;have d0:w1.cell? ⟨g,0,none⟩=some (it a):=Aa 0 (by omega);have d1:w1.cell? ⟨g,1,none⟩=some (it b):=Aa 1 (by omega);have d2:w1.cell? ⟨g,2,none⟩=some (it c):=Aa 2 (by omega);have d3:w1.cell? ⟨g,3,none⟩=some (it d):=Aa 3 (by omega);have d4:w1.cell? ⟨g,4,none⟩=some (it f):=Aa 4 (by omega);have d5:w1.cell? ⟨g,5,none⟩=some (it k):=Aa 5 (by omega);have r0:w1.cell? ⟨w.heap.size+1,0,none⟩=some (it 0):=hc 0;have r1:w1.cell? ⟨w.heap.size+1,1,none⟩=some (it 0):=hc 1;have r2:w1.cell? ⟨w.heap.size+1,2,none⟩=some (it 0):=hc 2;have r3:w1.cell? ⟨w.heap.size+1,3,none⟩=some (it 0):=hc 3;have r4:w1.cell? ⟨w.heap.size+1,4,none⟩=some (it 0):=hc 4;have r5:w1.cell? ⟨w.heap.size+1,5,none⟩=some (it 0):=hc 5;have f0:=hf 0;have f1:=hf 1;have f2:=hf 2;have f3:=hf 3;have f4:=hf 4;have f5:=hf 5;have Ea:(6:Int)<=c1:=(by have:=ho.cap_le;omega);clear hc hf Aa ho hb HS HO HN hg Ca;go_wp2
  go_region
  have hl:w.heap.size<=w.heap.size+1:=(by omega);obtain⟨w2,Ba⟩:∃w2,w2=gS w1 (w.heap.size+1) 0 (dm a b c d f k):=⟨_,rfl⟩;have HW:H7 (m1 w w2):=by rw[Ba];exact gH hl _ _ _ HB.o
  have ha:=ox (w.heap.size+1) [it a,it b,it c,it d,it f,it k] w1 0 (λj hj=>by
   match j,hj with
   | 0,_=>exact⟨_,r0⟩
   | 1,_=>exact⟨_,r1⟩
   | 2,_=>exact⟨_,r2⟩
   | 3,_=>exact⟨_,r3⟩
   | 4,_=>exact⟨_,r4⟩
   | 5,_=>exact⟨_,r5⟩)
  rw[<-Ba]at ha;have e0:=ha 0 _ rfl;have e1:=ha 1 _ rfl;have e2:=ha 2 _ rfl;have e3:=ha 3 _ rfl;have e4:=ha 4 _ rfl;have e5:=ha 5 _ rfl;unfold gS gS gS gS gS gS gS at Ba;rw[<-Ba];clear ha Ba r0 r1 r2 r3 r4 r5 d0 d1 d2 d3 d4 d5 f0 f1 f2 f3 f4 f5;simp only[Nat.zero_add]at e0 e1 e2 e3 e4 e5;go_wp2;refine s' (v:=.tuple #[.agg (dm a b c d f k).toArray,.bool true]) (by simp[results,results121,go_sem,e0,e1,e2,e3,e4,e5]) rfl ⟨⟨a,b,c,d,f,k⟩,rfl,λ_=>rfl,HW.o.drew⟩
theorem fL(m:M.Mc)(w:World):Calls prog 75 #[dp m] w λe w'=>∃m':M.Mc,e=.returned (.tuple #[.iface 194 (dp m'),.bool m.ok])/\(m.ok=true->m'=m)/\m1 w w':=by
 have C1:=lA m.X;have C2:=lA m.Y
 have HM:H7 (∀r1 r2:M.Rl,(m.X.ok=true->r1=m.X)->(m.Y.ok=true->r2=m.Y)->m.ok=true->(⟨r1,r2⟩:M.Mc)=m):=λr1 r2 h1 h2 h=>by
  unfold M.Mc.ok at h;rw[xP]at h;rw[h1 h.1,h2 h.2]
 have HO:H7 (m.ok=(m.X.ok&&m.Y.ok)):=rfl;obtain⟨⟨a,b,c,d,f,k⟩,⟨a',b',c',d',f',k'⟩⟩:=m;dsimp only[dp,jI]at C1 C2 HM HO |-;generalize M.Rl.ok ⟨a,b,c,d,f,k⟩=o1 at *;generalize M.Rl.ok ⟨a',b',c',d',f',k'⟩=o2 at *;generalize M.Mc.ok ⟨⟨a,b,c,d,f,k⟩,⟨a',b',c',d',f',k'⟩⟩=o at *;have hT:∀W,Below (w.alloc (.cells (cW a b c d f k a' b' c' d' f' k').toArray 31)).heap.size (w.alloc (.cells (cW a b c d f k a' b' c' d' f' k').toArray 31)) W->∀i,W.cell? ⟨w.heap.size,i,none⟩=#[it a,it b,it c,it d,it f,it k,it a',it b',it c',it d',it f',it k'][i]?:=λW hb i=>(hb.cell (p:=⟨w.heap.size,i,none⟩) (by simp)).trans (xu _ _ _ _);have HT:H7 _:=hT;clear hT;go_enter func75,ntmps75;(go_wp2_with fail);refine(C1 _).mono ?_;rintro e w1 ⟨⟨b1,b2,b3,b4,b5,b6⟩,rfl,Ca,Aa⟩;have hc:=HT.o _ Aa;have h6:w1.cell? ⟨w.heap.size,6,none⟩=some (it a'):=hc 6;have h7:w1.cell? ⟨w.heap.size,7,none⟩=some (it b'):=hc 7;have h8:w1.cell? ⟨w.heap.size,8,none⟩=some (it c'):=hc 8;have h9:w1.cell? ⟨w.heap.size,9,none⟩=some (it d'):=hc 9;have Ja:w1.cell? ⟨w.heap.size,10,none⟩=some (it f'):=hc 10;have Ka:w1.cell? ⟨w.heap.size,11,none⟩=some (it k'):=hc 11;have Da:=Hd (((m8 _ _).alloc (m3 _) _).trans (Aa.mono (by simp)));have La:w.heap.size<w1.heap.size:=(by have:=Aa.size;simp at this;omega);have Ea:=Hd Ca;clear hc Aa Ca;(go_wp2_with fail);refine(C2 _).mono ?_;rintro e w2 ⟨⟨d1,d2,d3,d4,d5,d6⟩,rfl,Fa,Ba⟩;have hc:∀i,w2.cell? ⟨w1.heap.size,i,none⟩=#[it b1,it b2,it b3,it b4,it b5,it b6][i]?:=λi=>(Ba.cell (p:=⟨w1.heap.size,i,none⟩) (by simp)).trans (xu _ _ _ _);have g0:w2.cell? ⟨w1.heap.size,0,none⟩=some (it b1):=hc 0;have g1:w2.cell? ⟨w1.heap.size,1,none⟩=some (it b2):=hc 1;have g2:w2.cell? ⟨w1.heap.size,2,none⟩=some (it b3):=hc 2;have g3:w2.cell? ⟨w1.heap.size,3,none⟩=some (it b4):=hc 3;have g4:w2.cell? ⟨w1.heap.size,4,none⟩=some (it b5):=hc 4;have g5:w2.cell? ⟨w1.heap.size,5,none⟩=some (it b6):=hc 5;have Ga:=Hd ((Da.o.alloc Da.o.size _).trans (Ba.mono (by simp;omega)));have Na:w1.heap.size<w2.heap.size:=(by have:=Ba.size;simp at this;omega);have Ha:=Hd Fa;have Ia:=Hd (HM.o _ _ Ea.o Ha.o);have HO':=Hd HO.o;clear hc Ba Fa HM Ea Ha h6 h7 h8 h9 Ja Ka C1 C2 HT HO
 cases o1 <;> cases o2
 all_goals
  have ho:=HO'.o;simp at ho;subst ho;go_wp2
  go_ret2
  exact⟨⟨⟨b1,b2,b3,b4,b5,b6⟩,⟨d1,d2,d3,d4,d5,d6⟩⟩,rfl,by first | exact Ia.o | exact Ia.o trivial,Ga.o.alloc Ga.o.size _⟩
theorem qK{x:Int}(h0:0<=x)(h1:x<9223372036854775808):IntKind.i64.wrap x=x:=by
 unfold IntKind.wrap;have e:x%2 ^ IntKind.i64.bits=x:=Int.emod_eq_of_lt h0 (by show x<18446744073709551616;omega);simp only[e];rw[if_neg];rw[xP,decide_eq_true_iff];rintro⟨_,h⟩;have h':x≥9223372036854775808:=h;omega
theorem iu:(prog.info? 242).map (λi=>(i.zero,i.size,i.bytes))=some (some (.agg #[it 0,it 0]),2,16):=by kernel_rfl
theorem me(k:Nat)(hk:k<=2000000)(w:World):(Instr.makeSlice 205 (it 0) (it (k:Int))).run prog w=.ok (.slice (some ⟨w.heap.size,0,none⟩) 0 k) (w.alloc (.cells (madeCells #[it 0,it 0] (k*2)) 242)):=by
 obtain⟨i0,hi,Aa,Ba,Ca⟩:=info_parts iu;have h:=run_make (P:=prog) w 205 242 i0 (.agg #[it 0,it 0]) underlying205 hi Aa .i64 .i64 0 (k:Int) (by omega) (by omega) (by rw[Ca];omega) (by omega);rw[Ba]at h;simpa[Value.cells]using h
theorem tO(W:World)(g:Nat)(hg:W.heap.size=g)(x y:Value)(t:TypeId):∀ad,some (⟨g,0,none⟩:Addr)=some ad->∀j u,[x,y][j]?=some u->(W.alloc (.cells #[x,y] t)).drew.cell? (ad.add j)=some u:=by
 subst hg;intro ad Aa j u hj;simp only[Option.some.injEq]at Aa;subst Aa;exact eS W x y t j u hj
theorem tP(W:World)(g:Nat)(hg:W.heap.size=g)(x y:Value)(t t2:TypeId)(A:Array Value):∀ad,some (⟨g,0,none⟩:Addr)=some ad->∀j u,[x,y][j]?=some u->((W.alloc (.cells #[x,y] t)).alloc (.cells A t2)).drew.cell? (ad.add j)=some u:=by
 subst hg;intro ad Aa j u hj;simp only[Option.some.injEq]at Aa;subst Aa;have e:((⟨W.heap.size,0,none⟩:Addr).add j)=⟨W.heap.size,j,none⟩:=(by unfold Addr.add;split <;> simp_all);have h:=eS W x y t j u hj;rw[e]at h |-;exact(World.cell?_alloc_lt (w:=W.alloc (.cells #[x,y] t)) (o:=.cells A t2) (a:=⟨W.heap.size,j,none⟩) (h:=by simp)).trans h
theorem kY(w:World)(A:Array Value)(t:TypeId)(i:Nat):(w.alloc (.cells A t)).frozen? ⟨w.heap.size,i,none⟩=false:=by
 rw[frozen?_alloc_cells];simp only[World.frozen?];rw[Array.getElem?_eq_none (by omega)]
theorem ko(m:M.Mc)(py:Nat)(w:World):(method (py+1) 194 (dp m) "loop.example/g00319/impl.next").run prog w=.ok (247,dp m) w:=by kernel_rfl
theorem qC(m:M.Mc)(s:Int×Int)(n:Nat)(w:World)(hm:m.ok=true)(hs:M.sOk s=true)(hn:n<=1000):
  Calls prog 202 #[.iface 194 (dp m),dd s,it n] w λe w'=>∃a cap,e=.returned (.slice a (n+1) cap)/\bg 242 w' w.heap.size a (n+1) cap (m.run s n)/\m1 w w':=by
 have HM:=Hd hm;have HS:=Hd hs;have La:=me (n+1) (by omega);have e1:IntKind.i64.wrap ((n:Int)+1)=((n+1:Nat):Int):=qK (by omega) (by omega);rw[<-e1]at La;obtain⟨i0,hi,Na,Oa,Pa⟩:=info_parts iu;have HI:H7 (prog.info? 242=some i0/\i0.zero=some (.agg #[it 0,it 0])/\i0.size=2/\i0.bytes=16):=⟨hi,Na,Oa,Pa⟩;have Ab:H7 (m.run s 0=[s]):=rfl;clear hm hs hi Na Oa Pa e1;obtain⟨x,y⟩:=s;dsimp only[dd]
 have Bb:H7 (World.ownsRow (((w.alloc (.cells #[it x,it y] 242)).alloc (.cells (madeCells #[it 0,it 0] ((n+1)*2)) 242)).alloc (.cells #[it x,it y] 242)).drew (w.heap.size+1) 242 2 (.slice (some ⟨w.heap.size+1,0,none⟩) 0 (n+1)) 0 []):=by
  have h:=World.ownsRow_made (base:=w.heap.size+1) (e:=242) (size:=2) (w.alloc (.cells #[it x,it y] 242)) (madeCells #[it 0,it 0] ((n+1)*2)) (n+1) (by simp) (by unfold maxLen;omega) (by simp[size_madeCells]);have h2:=World.ownsRow.drew (xY h (.cells #[it x,it y] 242));show World.ownsRow _ _ _ _ _ _ _;simpa using h2
 have Cb:H7 (World.ownsRow (((w.alloc (.cells #[it x,it y] 242)).alloc (.cells #[it x,it y] 242)).alloc (.cells (madeCells #[it 0,it 0] ((n+1)*2)) 242)).drew (w.heap.size+1) 242 2 (.slice (some ⟨w.heap.size+1+1,0,none⟩) 0 (n+1)) 0 []):=by
  have h:=World.ownsRow_made (base:=w.heap.size+1) (e:=242) (size:=2) ((w.alloc (.cells #[it x,it y] 242)).alloc (.cells #[it x,it y] 242)) (madeCells #[it 0,it 0] ((n+1)*2)) (n+1) (by simp) (by unfold maxLen;omega) (by simp[size_madeCells]);have h2:=World.ownsRow.drew h;show World.ownsRow _ _ _ _ _ _ _;simpa using h2
 have Db:H7 (∀ad,some (⟨w.heap.size+1+1,0,none⟩:Addr)=some ad->∀j u,[it x,it y][j]?=some u->(((w.alloc (.cells #[it x,it y] 242)).alloc (.cells (madeCells #[it 0,it 0] ((n+1)*2)) 242)).alloc (.cells #[it x,it y] 242)).drew.cell? (ad.add j)=some u):=tO _ _ (by simp) _ _ _;have Eb:H7 (∀ad,some (⟨w.heap.size+1,0,none⟩:Addr)=some ad->∀j u,[it x,it y][j]?=some u->(((w.alloc (.cells #[it x,it y] 242)).alloc (.cells #[it x,it y] 242)).alloc (.cells (madeCells #[it 0,it 0] ((n+1)*2)) 242)).drew.cell? (ad.add j)=some u):=tP _ _ (by simp) _ _ _ _ _;go_enter func202,ntmps202;go_wp2
 go_region_law (first
  | (refine dk rfl (.tmp 10) (.tmp 12) 205 205 rfl (w.heap.size+1) 242 i0 2 underlying205 underlying205 HI.o.1 HI.o.2.2.1 (w.heap.size+1) 0 (n+1) [] (by simp[Act.eval]) Bb.o (some ⟨w.heap.size+1+1,0,none⟩) 1 1 [it x,it y] (by simp[Act.eval]) rfl (λh=>by cases h) Db.o (eW _ _) (by omega) ?_;intro w1 Ea Ca)
  | (refine dk rfl (.tmp 10) (.tmp 12) 205 205 rfl (w.heap.size+1) 242 i0 2 underlying205 underlying205 HI.o.1 HI.o.2.2.1 (w.heap.size+1+1) 0 (n+1) [] (by simp[Act.eval]) Cb.o (some ⟨w.heap.size+1,0,none⟩) 1 1 [it x,it y] (by simp[Act.eval]) rfl (λh=>by cases h) Eb.o (eW _ _) (by omega) ?_;intro w1 Ea Ca))
 all_goals
  have Da:=Hd ((((m8 (w.heap.size+1) (w.alloc (.cells #[it x,it y] 242))).alloc (by simp) _).alloc (by simp) _).drew.grown Ca (by simp) (λj hj=>by simp at hj;omega));have Fb:H7 (w.heap.size<w1.heap.size):=(by have:=Da.o.size;simp at this;exact this);have HB:=Hd (((m8 w.heap.size w).alloc (m3 _) _).trans (Da.o.mono (by omega)));obtain⟨aa,ca,Qa,ho⟩:=bg.form (ps:=m.run (x,y) 0) rfl (by rw[Ab.o];exact Ea);simp only[Value.slice.injEq]at Qa;obtain⟨rfl,-,rfl⟩:=Qa;have HO:H7 (bg 242 w1 (w.heap.size+1) _ 1 (n+1) (m.run (x,y) 0)):=ho
  have Ra:H7 (w1.cell? ⟨w.heap.size,0,none⟩=some (it x)/\w1.cell? ⟨w.heap.size,1,none⟩=some (it y)/\w1.frozen? ⟨w.heap.size,0,none⟩=false/\w1.frozen? ⟨w.heap.size,1,none⟩=false):=
   ⟨(Da.o.cell (p:=⟨w.heap.size,0,none⟩) (by simp)).trans (xu _ _ _ _),(Da.o.cell (p:=⟨w.heap.size,1,none⟩) (by simp)).trans (xu _ _ _ _),(bx Da.o (by simp)).trans (kY _ _ _ _),(bx Da.o (by simp)).trans (kY _ _ _ _)⟩
  clear Ea Ca ho Da La;go_wp2
  go_loopw [7,15] (λs i wr=>∃(k:Nat) (a':Option Addr) (Fa:Nat),k<=n/\i=it k/\s=.slice a' (k+1) Fa/\bg 242 wr (w.heap.size+1) a' (k+1) Fa (m.run (x,y) k)/\m1 w wr/\w.heap.size<wr.heap.size/\(wr.cell? ⟨w.heap.size,0,none⟩=some (it (m.rn (x,y) k).1)/\wr.cell? ⟨w.heap.size,1,none⟩=some (it (m.rn (x,y) k).2)/\wr.frozen? ⟨w.heap.size,0,none⟩=false/\wr.frozen? ⟨w.heap.size,1,none⟩=false)) (λ_ i _=>n-(intOf i).toNat)
  case atStart=>exact⟨0,_,_,by omega,rfl,rfl,HO.o,HB.o,Fb.o,Ra.o⟩
  case round=>
   obtain⟨k,a',Fa,hk,rfl,rfl,Sa,Ta,Ua,c0,c1,f0,f1⟩:=hrel;have Ja:=Hd Sa;have Ia:=Hd Ta;have Ga:=Hd Ua;clear Sa Ta HO HB Ra Ua;by_cases Nb:k<n
   ·
    have hI:(k:Int)<(n:Int):=(by omega);have Va:=Hd (M.sOk_rn m HS.o k);have HR:H7 (m.run (x,y) k++[m.nx (m.rn (x,y) k)]=m.run (x,y) (k+1)):=M.run_snoc m (x,y) k;have HN:H7 (m.nx (m.rn (x,y) k)=m.rn (x,y) (k+1)):=rfl;generalize m.rn (x,y) k=q at c0 c1 Va HR HN;obtain⟨u,v⟩:=q;dsimp only at c0 c1;have Ob:=ko m;(go_wp2_with fail);refine(np m (u,v) wr HM.o Va.o).mono ?_;rintro e w2 ⟨rfl,Aa⟩;generalize m.nx (u,v)=q at HR HN;obtain⟨u2,v2⟩:=q;have c2:=(Aa.cell (p:=⟨w.heap.size,0,none⟩) Ga.o).trans c0;have c3:=(Aa.cell (p:=⟨w.heap.size,1,none⟩) Ga.o).trans c1;have f2:=(bx Aa Ga.o).trans f0;have f3:=(bx Aa Ga.o).trans f1;obtain⟨w3,Ba⟩:∃w3,w3=gS w2 w.heap.size 0 [it u2,it v2]:=⟨_,rfl⟩
    have ha:=ox w.heap.size [it u2,it v2] w2 0 (λj hj=>by
     match j,hj with
     | 0,_=>exact⟨_,c2⟩
     | 1,_=>exact⟨_,c3⟩)
    rw[<-Ba]at ha;have d0:w3.cell? ⟨w.heap.size,0,none⟩=some (it u2):=(by simpa using ha 0 _ rfl);have d1:w3.cell? ⟨w.heap.size,1,none⟩=some (it v2):=(by simpa using ha 1 _ rfl);have g0:w3.frozen? ⟨w.heap.size,0,none⟩=false:=(by rw[Ba,fF];exact f2);have g1:w3.frozen? ⟨w.heap.size,1,none⟩=false:=(by rw[Ba,fF];exact f3);have Wa:H7 (w.heap.size<w3.heap.size):=by show _<_;rw[Ba,jX];exact xD Ga.o Aa.size
    have Xa:H7 (bg 242 w3 (w.heap.size+1) a' (k+1) Fa (m.run (x,y) k)):=by
     show bg _ _ _ _ _ _ _;rw[Ba];exact bg.sets (by omega) _ _ _ (Ja.o.below Aa)
    have Ya:H7 (m1 w w3):=by
     show Below _ _ _;rw[Ba];exact gH (m3 _) _ _ _ (Ia.o.trans (Aa.mono Ia.o.size))
    have Gb:=Hd Ba.symm;clear ha Ba Aa Ja Ia c0 c1 f0 f1;have Pb:=Wa.o;go_wp2_with(first | (rw[show(w2.setCell ⟨w.heap.size,0,none⟩ (it u2)).setCell ⟨w.heap.size,1,none⟩ (it v2)=w3 from Gb.o]) | (at_builtin;refine wpList_append_own _ rfl _ _ 205 rfl (w.heap.size+1) 242 i0 (.agg #[it 0,it 0]) 2 16 underlying205 HI.o.1 HI.o.2.1 HI.o.2.2.1 HI.o.2.2.2 rfl (by decide) _ (k+1) (mX (m.run (x,y) k)) rfl (xY Xa.o.2 _) ⟨w3.heap.size,0,none⟩ 1 1 [it u2,it v2] rfl rfl (eS w3 _ _ _) (eW _ _) (by unfold maxLen;omega) (by omega) (by simp;omega) ?_))
    intro v' w4 Ea Ca _;have hown':w4.ownsRow (w.heap.size+1) 242 2 v' (k+1+1) (mX (m.run (x,y) (k+1))):=(by rw[<-HR.o,<-jH];exact Ea);obtain⟨b4,c4,rfl,Za⟩:=bg.form (M.run_len m (x,y) (k+1)) hown';have Hb:=Hd Za;have Ka:=Xa.o.row;have Ib:=Hd ((Ya.o.alloc Ya.o.size _).grown Ca (by simp;omega) (λq hq=>by have:=Ka q hq;omega));have Ha:=Hd (((m8 _ _).alloc (by omega) _).grown Ca (by simp;omega) Ka)
    have Jb:H7 (w4.cell? ⟨w.heap.size,0,none⟩=some (it (m.rn (x,y) (k+1)).1)/\w4.cell? ⟨w.heap.size,1,none⟩=some (it (m.rn (x,y) (k+1)).2)/\w4.frozen? ⟨w.heap.size,0,none⟩=false/\w4.frozen? ⟨w.heap.size,1,none⟩=false):=by
     show _/\_;rw[<-HN.o];exact⟨(Ha.o.cell (p:=⟨w.heap.size,0,none⟩) (by simp)).trans d0,(Ha.o.cell (p:=⟨w.heap.size,1,none⟩) (by simp)).trans d1,(bx Ha.o (by simp)).trans g0,(bx Ha.o (by simp)).trans g1⟩
    have Kb:=Hd (xD Wa.o Ha.o.size);clear Ea hown' Ca Za Ka d0 d1 g0 g1;go_wp2;go_roundw
    case rel=>exact⟨k+1,b4,c4,by omega,by go_num,rfl,Hb.o,Ib.o,Kb.o,Jb.o⟩
    case measure=>simp[intOf];omega
   ·
    have Lb:k=n:=(by omega);subst Lb;go_wp2;go_ret;exact⟨a',Fa,rfl,Ja.o.mono (by omega),Ia.o⟩
def bG(m:M.Mc)(s:Int×Int)(n:Int):Bool:=m.ok&&(M.sOk s&&(decide (0<=n)&&decide (n<=1000)))
theorem ei(h:bG m s n=true):m.ok=true/\M.sOk s=true/\0<=n/\n<=1000:=by
 unfold bG at h;simpa using h
theorem kO(h1:m.ok=true)(h2:M.sOk s=true)(h3:0<=n)(h4:n<=1000):bG m s n=true:=by
 unfold bG;rw[h1,h2,decide_eq_true h3,decide_eq_true h4];rfl
theorem rB(h:bG m s n=false):m.ok=false\/(m.ok=true/\M.sOk s=false)\/(m.ok=true/\M.sOk s=true/\n<0)\/(m.ok=true/\M.sOk s=true/\¬ n<0/\1000<n):=by
 cases h1:m.ok with
 | false=>exact .inl rfl
 | true=>
  cases h2:M.sOk s with
  | false=>exact .inr (.inl ⟨rfl,rfl⟩)
  | true=>
   by_cases h3:n<0
   .exact .inr (.inr (.inl ⟨rfl,rfl,h3⟩))
   ·
    by_cases h4:1000<n
    .exact .inr (.inr (.inr ⟨rfl,rfl,h3,h4⟩))
    .rw[kO h1 h2 (by omega) (by omega)]at h;cases h
theorem kT(m:M.Mc)(s:Int×Int)(n:Int)(w:World):Calls prog 189 #[dp m,dd s,it n] w λe w'=>(bG m s n=true->∃a cap,e=.returned (.tuple #[.slice a (n.toNat+1) cap,.bool true])/\bg 242 w' w.heap.size a (n.toNat+1) cap (m.run s n.toNat))/\(bG m s n=false->e=.returned (.tuple #[.slice none 0 0,.bool false]))/\m1 w w':=by
 have C1:=fL m;have C2:=iP s;have HR:=Hd (λN hN hm hs w=>qC m s N w hm hs hN)
 have HT:H7 (∀W,Below ((w.alloc (.cells (dp m).cells 31)).alloc (.cells #[it s.1,it s.2] 33)).heap.size ((w.alloc (.cells (dp m).cells 31)).alloc (.cells #[it s.1,it s.2] 33)) W->W.cell? ⟨w.heap.size+1,0,none⟩=some (it s.1)/\W.cell? ⟨w.heap.size+1,1,none⟩=some (it s.2)):=λW hW=>by
  have e:(w.alloc (.cells (dp m).cells 31)).heap.size=w.heap.size+1:=(by simp);have h:=λi=>xu (w.alloc (.cells (dp m).cells 31)) #[it s.1,it s.2] 33 i;rw[e]at h;exact⟨(hW.cell (p:=⟨w.heap.size+1,0,none⟩) (by simp)).trans (h 0),(hW.cell (p:=⟨w.heap.size+1,1,none⟩) (by simp)).trans (h 1)⟩
 have ec:(dp m).cells=(cW m.X.xx m.X.xy m.X.yy m.X.x m.X.y m.X.k m.Y.xx m.Y.xy m.Y.yy m.Y.x m.Y.y m.Y.k).toArray:=rfl;rw[ec]at HT;clear ec
 cases hok:bG m s n with
 | false=>
  have Ga:=rB hok;clear hok HR;obtain⟨⟨a,b,c,d,f,k⟩,⟨a',b',c',d',f',k'⟩⟩:=m;obtain⟨x,y⟩:=s;dsimp only[dp,dd]at C1 C2 HT |-;generalize M.Mc.ok ⟨⟨a,b,c,d,f,k⟩,⟨a',b',c',d',f',k'⟩⟩=o1 at C1 Ga;generalize M.sOk (x,y)=o2 at C2 Ga
  rcases Ga with rfl | ⟨rfl,rfl⟩ | ⟨rfl,rfl,h3⟩ | ⟨rfl,rfl,h3,h4⟩
  all_goals
   go_enter func189,ntmps189;(go_wp2_with fail);refine(C1 _).mono ?_;rintro e w1 ⟨m',rfl,Da,Ba⟩;obtain⟨t0,t1⟩:=HT.o _ Ba;have Ea:=Hd ((((m8 _ _).alloc (m3 _) _).alloc (by simp) _).trans (Ba.mono (by simp;omega)));have Ja:H7 _:=Da;clear Ba Da;(go_wp2_with fail);refine(C2 _).mono ?_;rintro e w2 ⟨⟨p1,p2⟩,rfl,Ha,Aa,Fa⟩;have Ca:=Ea.t Fa;have Ka:H7 _:=Aa;clear Fa Aa Ha;go_wp2
   go_ret2
   exact⟨λh=>by simp at h,λ_=>rfl,Ca.o.alloc Ca.o.size _⟩
 | true=>
  obtain⟨hm,hs,h3,h4⟩:=ei hok;obtain⟨N,rfl⟩:=Int.eq_ofNat_of_zero_le h3;have hN:N<=1000:=(by omega);have Ia:=Hd (HR.o N hN hm hs);rw[hm]at C1;rw[hs]at C2;clear hok HR hm hs h3 h4;generalize La:m.run s N=rn at Ia;have Pa:H7 (m.run s (Int.toNat N)=rn):=La;have HL:=Hd (xX N);clear La;obtain⟨⟨a,b,c,d,f,k⟩,⟨a',b',c',d',f',k'⟩⟩:=m;obtain⟨x,y⟩:=s;dsimp only[dp,dd]at C1 C2 HT Ia |-;go_enter func189,ntmps189;(go_wp2_with fail);refine(C1 _).mono ?_;rintro e w1 ⟨m',rfl,Da,Ba⟩;obtain⟨t0,t1⟩:=HT.o _ Ba;have Ea:=Hd ((((m8 _ _).alloc (m3 _) _).alloc (by simp) _).trans (Ba.mono (by simp;omega)));have Ja:H7 _:=Da;clear Ba Da;(go_wp2_with fail);refine(C2 _).mono ?_;rintro e w2 ⟨⟨p1,p2⟩,rfl,Ha,Aa,Fa⟩;have Ca:=Ea.t Fa;have Ka:H7 _:=Aa;clear Fa Aa Ha;obtain rfl:=Ja.o trivial;have Aa:=Ka.o trivial;simp only[Prod.mk.injEq]at Aa;obtain⟨rfl,rfl⟩:=Aa;have Sa:¬ (N:Int)<0:=(by omega);have Ta:¬ 1000<(N:Int):=(by omega);(go_wp2_with fail);refine(Ia.o _).mono ?_;rintro e w3 ⟨ra,rc,rfl,Na,Oa⟩;have Qa:=Hd ((Ca.o.alloc Ca.o.size _).trans (Oa.mono (by have:=Ca.o.size;simp;omega)));have Ra:H7 (bg 242 w3 w.heap.size ra (N+1) rc rn):=Na.mono (by have:=Ca.o.size;simp;omega);clear Na Oa;go_wp2
  go_ret2
  refine⟨λ_=>⟨ra,rc,rfl,?_⟩,λh=>by simp at h,Qa.o⟩;rw[Pa.o,HL.o];exact Ra.o
def eH(m:M.Mc)(s:Int×Int)(n:Int):Int×Int:=if bG m s n=true then m.rn s n.toNat else(0,0)
theorem oH(h:bG m s n=true):eH m s n=m.rn s n.toNat:=if_pos h
theorem mv(h:bG m s n=false):eH m s n=(0,0):=if_neg (by rw[h];decide)
def iT(m:M.Mc)(s:Int×Int)(n:Int):List (Int×Int):=if bG m s n=true then m.run s n.toNat else[]
theorem iq(h:bG m s n=true):iT m s n=m.run s n.toNat:=if_pos h
theorem rE(h:bG m s n=false):iT m s n=[]:=if_neg (by rw[h];decide)
theorem sH(t:TypeId)(w:World)(dA:Nat):bg t w dA none 0 0 []:=⟨rfl,rfl,.inl ⟨rfl,rfl⟩⟩
theorem len0(h:bG m s n=true):(iT m s n).length=n.toNat+1:=by rw[iq h,M.run_len]
theorem lV(m:M.Mc)(s:Int×Int)(n:Int)(w:World):Rt 153 #[dp m,dd s,it n] w (.tuple #[dd (eH m s n),.bool (bG m s n)]):=by
 have C1:=kT m s n
 have HT:H7 (∀W,Below (((w.alloc (.cells (cW m.X.xx m.X.xy m.X.yy m.X.x m.X.y m.X.k m.Y.xx m.Y.xy m.Y.yy m.Y.x m.Y.y m.Y.k).toArray 31)).alloc (.cells #[it s.1,it s.2] 33)).alloc (.cells #[it 0,it 0] 33)).heap.size (((w.alloc (.cells (cW m.X.xx m.X.xy m.X.yy m.X.x m.X.y m.X.k m.Y.xx m.Y.xy m.Y.yy m.Y.x m.Y.y m.Y.k).toArray 31)).alloc (.cells #[it s.1,it s.2] 33)).alloc (.cells #[it 0,it 0] 33)) W->W.cell? ⟨w.heap.size+1+1,0,none⟩=some (it 0)/\W.cell? ⟨w.heap.size+1+1,1,none⟩=some (it 0)/\W.frozen? ⟨w.heap.size+1+1,0,none⟩=false/\W.frozen? ⟨w.heap.size+1+1,1,none⟩=false):=λW hW=>
  ⟨(hW.cell (p:=⟨w.heap.size+1+1,0,none⟩) (by simp)).trans (aU w _ _ _ _ _ _ 0).2.2.1,(hW.cell (p:=⟨w.heap.size+1+1,1,none⟩) (by simp)).trans (aU w _ _ _ _ _ _ 1).2.2.1,(bx hW (show w.heap.size+1+1<_ by simp)).trans (aU w _ _ _ _ _ _ 0).2.2.2,(bx hW (show w.heap.size+1+1<_ by simp)).trans (aU w _ _ _ _ _ _ 1).2.2.2⟩
 cases hok:bG m s n with
 | false=>
  rw[mv hok];rw[hok]at C1;obtain⟨⟨a,b,c,d,f,k⟩,⟨a',b',c',d',f',k'⟩⟩:=m;obtain⟨x,y⟩:=s;dsimp only[dp,dd]at C1 HT |-;clear hok;go_enter func153,ntmps153;(go_wp2_with fail);refine(C1 _).mono ?_;rintro e w1 ⟨-,he,Aa⟩;obtain rfl:=he trivial;have Ba:=Hd (((((m8 _ _).alloc (m3 _) _).alloc (by simp) _).alloc (by simp;omega) _).trans (Aa.mono (by simp;omega)));obtain⟨t0,t1,t2,t3⟩:=HT.o _ Aa;clear Aa he;go_wp2;refine s' (v:=.tuple #[.agg #[it 0,it 0],.bool false]) (by simp[results,results153,go_sem,t0,t1]) rfl ⟨rfl,?_⟩;exact(Ba.o.setCell (by show w.heap.size<=w.heap.size+1+1;omega) _).setCell (by show w.heap.size<=w.heap.size+1+1;omega) _
 | true=>
  obtain⟨hm,hs,h3,h4⟩:=ei hok;rw[oH hok];rw[hok]at C1;have HG:H7 ((m.run s n.toNat).getD n.toNat (0,0)=m.rn s n.toNat):=M.run_get m s _ _ (m3 _);have hN:n.toNat<=1000:=(by omega);have CS:=j5 (m.rn s n.toNat);generalize m.run s n.toNat=rn at C1 HG;generalize m.rn s n.toNat=q at *;generalize n.toNat=N at C1 HG hN;obtain⟨⟨a,b,c,d,f,k⟩,⟨a',b',c',d',f',k'⟩⟩:=m;obtain⟨x,y⟩:=s;obtain⟨u,v⟩:=q;dsimp only[dp,dd]at C1 HT CS |-;clear hok hm hs h3 h4;go_enter func153,ntmps153;(go_wp2_with fail);refine(C1 _).mono ?_;rintro e w1 ⟨he,-,Aa⟩;obtain⟨ra,rc,rfl,Da⟩:=he trivial;have Ba:=Hd (((((m8 _ _).alloc (m3 _) _).alloc (by simp) _).alloc (by simp;omega) _).trans (Aa.mono (by simp;omega)));have HB1':H7 (Below _ _ w1):=Aa;obtain⟨g,rfl,-,Fa,Ga,hc⟩:=Da.block (by omega);obtain⟨e1,e2⟩:=hc N (by omega);rw[HG.o]at e1 e2;have Ha:((N+1:Nat):Int)<=rc:=(by omega);clear Aa he Da hc;dsimp only at e1 e2;(go_wp2_with fail);refine(CS _).mono ?_;rintro e w2 ⟨rfl,Ca⟩;have Ea:=Ba.t Ca;obtain⟨t0,t1,t2,t3⟩:=HT.o _ (HB1'.o.trans (Ca.mono HB1'.o.size));clear Ca HB1';go_wp2;refine s' (v:=.tuple #[.agg #[it u,it v],.bool true]) (by simp[results,results153,go_sem,t0,t1]) rfl ⟨rfl,?_⟩;exact(Ea.o.setCell (by show w.heap.size<=w.heap.size+1+1;omega) _).setCell (by show w.heap.size<=w.heap.size+1+1;omega) _
theorem fz(m:M.Mc)(w:World):Rt 183 #[dp m] w (.bool m.ok):=by
 have C1:=fL m;generalize m.ok=o at *;obtain⟨⟨a,b,c,d,f,k⟩,⟨a',b',c',d',f',k'⟩⟩:=m;dsimp only[dp]at C1 |-;go_enter func183,ntmps183;(go_wp2_with fail);refine(C1 _).mono ?_;rintro e w1 ⟨m',rfl,-,Aa⟩;have Ba:=Hd (((m8 _ _).alloc (m3 _) _).trans (Aa.mono (by simp)));clear Aa;go_wp2;go_ret;exact⟨rfl,Ba.o⟩
theorem dL(s:Int×Int)(w:World):Rt 165 #[dd s] w (.bool (M.sOk s)):=by
 have C1:=iP s;generalize M.sOk s=o at *;obtain⟨x,y⟩:=s;dsimp only[dd]at C1 |-;go_enter func165,ntmps165;(go_wp2_with fail);refine(C1 _).mono ?_;rintro e w1 ⟨⟨p,q⟩,rfl,-,-,Ba⟩;have Aa:=Hd (((m8 _ _).alloc (m3 _) _).trans (Ba.mono (by simp)));clear Ba;go_wp2;go_ret;exact⟨rfl,by first | exact Aa.o | exact Aa.o.alloc Aa.o.size _⟩
theorem j6{P:Program}{ops:Array Oper}{o:Oper}{a:Act}{w:World}{K:Act->World->Prop}{Q:Exit->Act->World->Prop}{E:Prop}
 (hg:o.guard=none)(s x:Operand)(t:TypeId)(hop:o.op=Op.call {callee:=Callee.builtin Builtin.append,args:=#[s,x],argTypes:=#[t,t]})
 (dA:Nat)(e:TypeId)(i:TypeInfo)(z:Value)(size bytes:Nat)(ht:P.underlying t=some (.slice e))(hi:P.info? e=some i)(hz:i.zero=some z)(hsize:i.size=size)(hby:i.bytes=bytes)(hzs:z.cells.size=size)(hsz:0<size)
 (v:Value)(n:Nat)(xs:List Value)(hs:a.eval s=v)(hown:w.ownsRow dA e size v n xs)(ad:Addr)(m c:Nat)(news:List Value)(hx:a.eval x=.slice (some ad) m c)(hl:news.length=m*size)(hnews:∀j u,news[j]?=some u->w.cell? (ad.add j)=some u)(h1:∀u∈news,u.oneCell'=true)
 (h63:n+m<=maxLen)(hbytes:(n+m)*bytes<=140737488355328)(mr:dA<=w.heap.size)
 (hK:∀v' w',w'.ownsRow dA e size v' (n+m) (xs++news)->w.grownBy w' v.ownBlock->K (a.put o.dst v') w'):
  if Region.wanted o (yielded ops a.tmps)=true then Oper.wp P o a w K Q else E:=by
 have hw:Region.wanted o (yielded ops a.tmps)=true:=(by simp[Region.wanted,hg]);rw[if_pos hw];obtain⟨v',w',Aa,r1,r2,_,_⟩:=run_append_own_at (P:=P) w dA t o.type e i z size bytes ht hi hz hsize hby hzs hsz v n xs hown ad m c news hl hnews h1 h63 hbytes mr;unfold Oper.wp;simp[execOp,hop,resolve,invoke,builtin,hs,hx,Aa,Result.andThen];exact hK v' w' r1 r2
theorem pY:(prog.info? 33).map (λi=>(i.zero,i.size,i.bytes))=some (some (.agg #[it 0,it 0]),2,16):=by kernel_rfl
theorem uN(n:Int)(w:World):Rq 52 #[it n,it 0,it 1000] w (.bool (decide (0<=n)&&decide (n<=1000))):=by
 by_cases h0:0<=n
 ·
  by_cases h1:n<=1000
  ·
   rw[decide_eq_true h0,decide_eq_true h1];go_enter func52,ntmps52;go_wp2;go_ret;exact⟨rfl,rfl⟩
  ·
   rw[decide_eq_true h0,decide_eq_false h1];go_enter func52,ntmps52;go_wp2;go_ret;exact⟨rfl,rfl⟩
 ·
  rw[decide_eq_false h0];go_enter func52,ntmps52;go_wp2;go_ret;exact⟨rfl,rfl⟩
theorem qu{t:TypeId}(w:World)(dA:Nat)(hb:dA<=w.heap.size)(x y:Int):bg t (w.alloc (.cells #[it x,it y] t)) dA (some ⟨w.heap.size,0,none⟩) 1 1 [(x,y)]:=by
 refine⟨rfl,rfl,.inr ⟨w.heap.size,1,#[it x,it y],rfl,hb,?_,m3 _,by unfold maxLen;omega,rfl,rfl⟩⟩;show(w.heap.push _)[w.heap.size]?=_;simp
set_option maxRecDepth 10000 in
theorem iO(m:M.Mc)(s:Int×Int)(n:Int)(w:World):Calls prog 82 #[dp m,dd s,it n] w λe w'=>∃a l cap,e=.returned (.tuple #[.slice a l cap,.bool (bG m s n)])/\l<=1001/\bg 33 w' w.heap.size a l cap (iT m s n)/\m1 w w':=by
 have C1:=bD m;have C2:=cf s;have C3:=uN n
 have HT:H7 (∀W,Below ((w.alloc (.cells (cW m.X.xx m.X.xy m.X.yy m.X.x m.X.y m.X.k m.Y.xx m.Y.xy m.Y.yy m.Y.x m.Y.y m.Y.k).toArray 31)).alloc (.cells #[it s.1,it s.2] 33)).heap.size ((w.alloc (.cells (cW m.X.xx m.X.xy m.X.yy m.X.x m.X.y m.X.k m.Y.xx m.Y.xy m.Y.yy m.Y.x m.Y.y m.Y.k).toArray 31)).alloc (.cells #[it s.1,it s.2] 33)) W->W.cell? ⟨w.heap.size,0,none⟩=some (it m.X.xx)/\W.cell? ⟨w.heap.size,1,none⟩=some (it m.X.xy)/\W.cell? ⟨w.heap.size,2,none⟩=some (it m.X.yy)/\W.cell? ⟨w.heap.size,3,none⟩=some (it m.X.x)/\W.cell? ⟨w.heap.size,4,none⟩=some (it m.X.y)/\W.cell? ⟨w.heap.size,5,none⟩=some (it m.X.k)/\W.cell? ⟨w.heap.size,6,none⟩=some (it m.Y.xx)/\W.cell? ⟨w.heap.size,7,none⟩=some (it m.Y.xy)/\W.cell? ⟨w.heap.size,8,none⟩=some (it m.Y.yy)/\W.cell? ⟨w.heap.size,9,none⟩=some (it m.Y.x)/\W.cell? ⟨w.heap.size,10,none⟩=some (it m.Y.y)/\W.cell? ⟨w.heap.size,11,none⟩=some (it m.Y.k)/\W.cell? ⟨w.heap.size+1,0,none⟩=some (it s.1)/\W.cell? ⟨w.heap.size+1,1,none⟩=some (it s.2)):=λW hW=>by
  have e1:(w.alloc (.cells (cW m.X.xx m.X.xy m.X.yy m.X.x m.X.y m.X.k m.Y.xx m.Y.xy m.Y.yy m.Y.x m.Y.y m.Y.k).toArray 31)).heap.size=w.heap.size+1:=(by simp);have h1:=λi=>xu (w.alloc (.cells (cW m.X.xx m.X.xy m.X.yy m.X.x m.X.y m.X.k m.Y.xx m.Y.xy m.Y.yy m.Y.x m.Y.y m.Y.k).toArray 31)) #[it s.1,it s.2] 33 i;rw[e1]at h1;have h0:=λi=>(World.cell?_alloc_lt (w:=w.alloc (.cells (cW m.X.xx m.X.xy m.X.yy m.X.x m.X.y m.X.k m.Y.xx m.Y.xy m.Y.yy m.Y.x m.Y.y m.Y.k).toArray 31)) (o:=.cells #[it s.1,it s.2] 33) (a:=⟨w.heap.size,i,none⟩) (h:=by simp)).trans (xu w (cW m.X.xx m.X.xy m.X.yy m.X.x m.X.y m.X.k m.Y.xx m.Y.xy m.Y.yy m.Y.x m.Y.y m.Y.k).toArray 31 i);exact⟨(hW.cell (p:=⟨w.heap.size,0,none⟩) (by simp;omega)).trans (h0 0),(hW.cell (p:=⟨w.heap.size,1,none⟩) (by simp;omega)).trans (h0 1),(hW.cell (p:=⟨w.heap.size,2,none⟩) (by simp;omega)).trans (h0 2),(hW.cell (p:=⟨w.heap.size,3,none⟩) (by simp;omega)).trans (h0 3),(hW.cell (p:=⟨w.heap.size,4,none⟩) (by simp;omega)).trans (h0 4),(hW.cell (p:=⟨w.heap.size,5,none⟩) (by simp;omega)).trans (h0 5),(hW.cell (p:=⟨w.heap.size,6,none⟩) (by simp;omega)).trans (h0 6),(hW.cell (p:=⟨w.heap.size,7,none⟩) (by simp;omega)).trans (h0 7),(hW.cell (p:=⟨w.heap.size,8,none⟩) (by simp;omega)).trans (h0 8),(hW.cell (p:=⟨w.heap.size,9,none⟩) (by simp;omega)).trans (h0 9),(hW.cell (p:=⟨w.heap.size,10,none⟩) (by simp;omega)).trans (h0 10),(hW.cell (p:=⟨w.heap.size,11,none⟩) (by simp;omega)).trans (h0 11),(hW.cell (p:=⟨w.heap.size+1,0,none⟩) (by simp)).trans (h1 0),(hW.cell (p:=⟨w.heap.size+1,1,none⟩) (by simp)).trans (h1 1)⟩
 cases hok:bG m s n with
 | false=>
  have HV:=Hd (rE hok)
  have Ga:m.ok=false\/(m.ok=true/\M.sOk s=false)\/(m.ok=true/\M.sOk s=true/\(decide (0<=n)&&decide (n<=1000))=false):=by
   unfold bG at hok
   cases h1:m.ok <;> cases h2:M.sOk s <;> simp_all
  clear hok;generalize m.ok=o1 at C1 Ga;generalize M.sOk s=o2 at C2 Ga;generalize(decide (0<=n)&&decide (n<=1000))=o3 at C3 Ga;obtain⟨⟨a,b,c,d,f,k⟩,⟨a',b',c',d',f',k'⟩⟩:=m;obtain⟨x,y⟩:=s;dsimp only[dp,dd]at C1 C2 HT |-
  rcases Ga with rfl | ⟨rfl,rfl⟩ | ⟨rfl,rfl,rfl⟩
  all_goals
   go_enter func82,ntmps82;(go_wp2_with fail);refine(C1 _).mono ?_;rintro e w1 ⟨rfl,Ca⟩;obtain⟨q0,q1,q2,q3,q4,q5,q6,q7,q8,q9,Pa,Qa,Ra,Sa⟩:=HT.o _ Ca;have Ba:=Hd ((((m8 _ _).alloc (m3 _) _).alloc (by simp) _).trans (Ca.mono (by simp;omega)));clear Ca
   try (
    (go_wp2_with fail);refine(C2 _).mono ?_;rintro e w2 ⟨rfl,Da⟩
    replace Ba:H7 (m1 w w2):=Ba.o.trans (Da.mono Ba.o.size)
    clear Da)
   try (
    (go_wp2_with fail);refine(C3 _).mono ?_;rintro e w3 ⟨rfl,rfl⟩)
   go_wp2
   go_ret2
   exact⟨none,0,0,rfl,by omega,by rw[HV.o];exact sH _ _ _,Ba.o⟩
 | true=>
  obtain⟨hm,hs,h3,h4⟩:=ei hok;have HV:=Hd (iq hok);rw[hm]at C1;rw[hs]at C2;rw[decide_eq_true h3,decide_eq_true h4]at C3;obtain⟨N,rfl⟩:=Int.eq_ofNat_of_zero_le h3;have hN:N<=1000:=(by omega);have HL:=Hd (xX N);have HM:=Hd hm;have HS:=Hd hs;have Ta:H7 (∃m0,m0=m):=⟨_,rfl⟩;obtain⟨m0,Ka⟩:=Ta.o;have Ua:H7 (∃s0,s0=s):=⟨_,rfl⟩;obtain⟨s0,Ha⟩:=Ua.o;have CN:H7 (∀(q:Int×Int) (w:World),M.sOk q=true->Rt 135 #[dp m,dd q] w (dd (m0.nx q))):=λq w hq=>by rw[Ka];exact oC m q w HM.o hq
  have Gb:H7 (iT m s (N:Int)=m0.run s0 N):=(by show _=_;rw[Ka,Ha,HV.o,HL.o]);have Hb:H7 (∀k,M.sOk (m0.rn s0 k)=true):=λk=>by rw[Ha];exact M.sOk_rn m0 HS.o k
  have Ib:H7 (m0.run s0 0=[s]):=(by show _=_;rw[<-Ha];rfl);obtain⟨i0,hi,Va,Wa,Xa⟩:=info_parts pY;have HI:H7 (prog.info? 33=some i0/\i0.zero=some (.agg #[it 0,it 0])/\i0.size=2/\i0.bytes=16):=⟨hi,Va,Wa,Xa⟩;clear hok hm hs h3 h4 Ta Ua Ka Ha HM HS HV HL hi Va Wa Xa;obtain⟨⟨a,b,c,d,f,k⟩,⟨a',b',c',d',f',k'⟩⟩:=m;obtain⟨x,y⟩:=s;dsimp only[dp,dd]at C1 C2 HT CN |-;go_enter func82,ntmps82;(go_wp2_with fail);refine(C1 _).mono ?_;rintro e w1 ⟨rfl,Ca⟩;have Fa:=Hd Ca;obtain⟨q0,q1,q2,q3,q4,q5,q6,q7,q8,q9,Pa,Qa,Ra,Sa⟩:=HT.o _ Ca;have Ba:=Hd ((((m8 _ _).alloc (m3 _) _).alloc (by simp) _).trans (Ca.mono (by simp;omega)));clear Ca;(go_wp2_with fail);refine(C2 _).mono ?_;rintro e w2 ⟨rfl,Da⟩;have Ya:=Ba.t Da;have Ia:H7 (Below (w.heap.size+2) _ w2):=(Fa.o.trans (Da.mono Fa.o.size)).mono (by simp);obtain⟨r0,r1,r2,r3,r4,r5,r6,r7,r8,r9,Za,Ab,Jb,Kb⟩:=HT.o _ (Fa.o.trans (Da.mono Fa.o.size));clear Da q0 q1 q2 q3 q4 q5 q6 q7 q8 q9 Pa Qa Ra Sa Fa Ba;(go_wp2_with fail);refine(C3 _).mono ?_;rintro e w2 ⟨rfl,rfl⟩
  have HO:H7 (bg 33 (w2.alloc (.cells #[it x,it y] 33)) (w.heap.size+2) (some ⟨w2.heap.size,0,none⟩) 1 1 (m0.run s0 0)):=by
   show bg _ _ _ _ _ _ _;rw[Ib.o];exact qu _ _ (by have:=Ia.o.size;simpa using this) x y
  have Bb:H7 (Below (w.heap.size+2) w2 (w2.alloc (.cells #[it x,it y] 33))):=(m8 _ _).alloc (by have:=Ia.o.size;simpa using this) _;have Cb:H7 (m1 w (w2.alloc (.cells #[it x,it y] 33))):=Ya.o.alloc Ya.o.size _;have Lb:w.heap.size+2<=w2.heap.size:=(by have:=Ia.o.size;simpa using this);clear HT C1 C2 C3 Ia;go_wp2
  go_loopw [8,9] (λs i wr=>∃(j:Nat) (al:Option Addr) (Ea:Nat),j<=N/\i=it j/\s=.slice al (j+1) Ea/\bg 33 wr (w.heap.size+2) al (j+1) Ea (m0.run s0 j)/\Below (w.heap.size+2) w2 wr/\m1 w wr) (λ_ i _=>N-(intOf i).toNat)
  case atStart=>exact⟨0,_,_,by omega,rfl,rfl,HO.o,Bb.o,Cb.o⟩
  case round=>
   obtain⟨j,al,Ea,hj,rfl,rfl,La,Aa,Ca⟩:=hrel;have Na:=Hd La;have Ba:=Hd Ca;have Nb:=Hd Aa;have Ob:=tr Lb Aa.size;by_cases Gc:j<N
   ·
    obtain⟨g,rfl,hg,Hc,Ic,hc⟩:=La.block (by omega);obtain⟨e1,e2⟩:=hc j (by omega);rw[M.run_get m0 s0 j j (m3 _)]at e1 e2;have Pb:=(Aa.cell (p:=⟨w.heap.size,0,none⟩) (by simp)).trans r0;have Qb:=(Aa.cell (p:=⟨w.heap.size,1,none⟩) (by simp)).trans r1;have Rb:=(Aa.cell (p:=⟨w.heap.size,2,none⟩) (by simp)).trans r2;have Sb:=(Aa.cell (p:=⟨w.heap.size,3,none⟩) (by simp)).trans r3;have Tb:=(Aa.cell (p:=⟨w.heap.size,4,none⟩) (by simp)).trans r4;have Ub:=(Aa.cell (p:=⟨w.heap.size,5,none⟩) (by simp)).trans r5;have Vb:=(Aa.cell (p:=⟨w.heap.size,6,none⟩) (by simp)).trans r6;have Wb:=(Aa.cell (p:=⟨w.heap.size,7,none⟩) (by simp)).trans r7;have Xb:=(Aa.cell (p:=⟨w.heap.size,8,none⟩) (by simp)).trans r8;have Yb:=(Aa.cell (p:=⟨w.heap.size,9,none⟩) (by simp)).trans r9;have Zb:=(Aa.cell (p:=⟨w.heap.size,10,none⟩) (by simp)).trans Za;have Ac:=(Aa.cell (p:=⟨w.heap.size,11,none⟩) (by simp)).trans Ab;have hI:(j:Int)<(N:Int):=(by omega);have Jc:(j:Int)+1<=Ea:=(by omega);have Kc:(j:Int)<(j:Int)+1:=(by omega);have HN:H7 (m0.run s0 j++[m0.nx (m0.rn s0 j)]=m0.run s0 (j+1)):=M.run_snoc m0 s0 j;have CQ:=CN.o (m0.rn s0 j);have Db:=Hd (Hb.o j);generalize m0.rn s0 j=q at e1 e2 HN CQ Db;generalize Bc:m0.nx q=q2 at HN CQ;obtain⟨u,v⟩:=q;obtain⟨u2,v2⟩:=q2;dsimp only at e1 e2 CQ;clear La Aa Ca hc HO Bb Cb Bc r0 r1 r2 r3 r4 r5 r6 r7 r8 r9 Za Ab Jb Kb;go_wp2
    go_region_law (first
     | (refine j6 rfl (.tmp 30) (.tmp 37) 161 rfl (w.heap.size+2) 33 i0 (.agg #[it 0,it 0]) 2 16 underlying161 HI.o.1 HI.o.2.1 HI.o.2.2.1 HI.o.2.2.2 rfl (by decide) (.slice (some ⟨g,0,none⟩) (j+1) Ea) (j+1) (mX (m0.run s0 j)) (by simp[Act.eval]) (xY (Na.o.below ((m8 _ _).drew.trans Ja)).2 _) ⟨w4.heap.size,0,none⟩ 1 1 [it u2,it v2] (by simp[Act.eval]) rfl (eS w4 _ _ _) (eW _ _) (by unfold maxLen;omega) (by omega) (by have:=Ja.size;simp at this;simp;omega) ?_;intro v' w5 Eb hgrow)
     | (go_simp;go_wp2_with(go_at_call 135;refine(CQ _ Db.o).mono ?_;rintro e w4 ⟨rfl,Ja⟩)))
    all_goals
     have hown':w5.ownsRow (w.heap.size+2) 33 2 v' (j+1+1) (mX (m0.run s0 (j+1))):=(by rw[<-HN.o,<-jH];exact Eb);obtain⟨b5,c5,rfl,Fb⟩:=bg.form (M.run_len m0 s0 (j+1)) hown';have Cc:=Hd Fb;have Oa:=Na.o.row;have hb4':m1 wr w4:=(m8 _ _).drew.trans Ja;have Lc:=hb4'.size;have Dc:=Hd (((Nb.o.trans (hb4'.mono Ob)).alloc (by omega) _).grown hgrow (by simp;omega) Oa);have Ec:=Hd (((Ba.o.trans (hb4'.mono Ba.o.size)).alloc (by have:=Ba.o.size;omega) _).grown hgrow (by have:=Ba.o.size;simp;omega) (λq hq=>by have:=Oa q hq;omega));clear Eb hown' hgrow Fb Oa Ja hb4' Pb Qb Rb Sb Tb Ub Vb Wb Xb Yb Zb Ac e1 e2;go_wp2;go_roundw
     case rel=>exact⟨j+1,b5,c5,by omega,by go_num,rfl,Cc.o,Dc.o,Ec.o⟩
     case measure=>simp[intOf];omega
   ·
    have Fc:j=N:=(by omega);subst Fc;go_wp2
    go_ret2
    exact⟨al,j+1,Ea,rfl,by omega,by rw[Gb.o];exact Na.o.mono (by omega),Ba.o⟩
theorem mf(m:M.Mc)(s:Int×Int)(n:Int)(w:World):Rt 89 #[dp m,dd s,it n] w (.tuple #[dd (eH m s n),.bool (bG m s n)]):=by
 have C1:=iO m s n
 have HT:H7 (∀W,Below (((w.alloc (.cells (cW m.X.xx m.X.xy m.X.yy m.X.x m.X.y m.X.k m.Y.xx m.Y.xy m.Y.yy m.Y.x m.Y.y m.Y.k).toArray 31)).alloc (.cells #[it s.1,it s.2] 33)).alloc (.cells #[it 0,it 0] 33)).heap.size (((w.alloc (.cells (cW m.X.xx m.X.xy m.X.yy m.X.x m.X.y m.X.k m.Y.xx m.Y.xy m.Y.yy m.Y.x m.Y.y m.Y.k).toArray 31)).alloc (.cells #[it s.1,it s.2] 33)).alloc (.cells #[it 0,it 0] 33)) W->W.cell? ⟨w.heap.size+1+1,0,none⟩=some (it 0)/\W.cell? ⟨w.heap.size+1+1,1,none⟩=some (it 0)/\W.frozen? ⟨w.heap.size+1+1,0,none⟩=false/\W.frozen? ⟨w.heap.size+1+1,1,none⟩=false):=λW hW=>
  ⟨(hW.cell (p:=⟨w.heap.size+1+1,0,none⟩) (by simp)).trans (aU w _ _ _ _ _ _ 0).2.2.1,(hW.cell (p:=⟨w.heap.size+1+1,1,none⟩) (by simp)).trans (aU w _ _ _ _ _ _ 1).2.2.1,(bx hW (show w.heap.size+1+1<_ by simp)).trans (aU w _ _ _ _ _ _ 0).2.2.2,(bx hW (show w.heap.size+1+1<_ by simp)).trans (aU w _ _ _ _ _ _ 1).2.2.2⟩
 cases hok:bG m s n with
 | false=>
  rw[mv hok];rw[hok]at C1;obtain⟨⟨a,b,c,d,f,k⟩,⟨a',b',c',d',f',k'⟩⟩:=m;obtain⟨x,y⟩:=s;dsimp only[dp,dd]at C1 HT |-;clear hok;go_enter func89,ntmps89;(go_wp2_with fail);refine(C1 _).mono ?_;rintro e w1 ⟨ra,rl,rc,rfl,-,-,Aa⟩;have Ba:=Hd (((((m8 _ _).alloc (m3 _) _).alloc (by simp) _).alloc (by simp;omega) _).trans (Aa.mono (by simp;omega)));obtain⟨t0,t1,t2,t3⟩:=HT.o _ Aa;clear Aa;go_wp2;refine s' (v:=.tuple #[.agg #[it 0,it 0],.bool false]) (by simp[results,results89,go_sem,t0,t1]) rfl ⟨rfl,?_⟩;exact(Ba.o.setCell (by show w.heap.size<=w.heap.size+1+1;omega) _).setCell (by show w.heap.size<=w.heap.size+1+1;omega) _
 | true=>
  obtain⟨hm,hs,h3,h4⟩:=ei hok;rw[oH hok];have Ca:=len0 hok;have HG:H7 ((iT m s n).getD n.toNat (0,0)=m.rn s n.toNat):=(by show _=_;rw[iq hok];exact M.run_get m s _ _ (m3 _));rw[hok]at C1;generalize iT m s n=rn at C1 HG Ca;generalize m.rn s n.toNat=q at *;obtain⟨N,rfl⟩:=Int.eq_ofNat_of_zero_le h3;rw[xX]at HG Ca;have hN:N<=1000:=(by omega);obtain⟨⟨a,b,c,d,f,k⟩,⟨a',b',c',d',f',k'⟩⟩:=m;obtain⟨x,y⟩:=s;obtain⟨u,v⟩:=q;dsimp only[dp,dd]at C1 HT |-;clear hok hm hs h3 h4;go_enter func89,ntmps89;(go_wp2_with fail);refine(C1 _).mono ?_;rintro e w1 ⟨ra,rl,rc,rfl,-,Da,Aa⟩;have Ba:=Hd (((((m8 _ _).alloc (m3 _) _).alloc (by simp) _).alloc (by simp;omega) _).trans (Aa.mono (by simp;omega)));obtain⟨t0,t1,t2,t3⟩:=HT.o _ Aa;have Fa:rl=N+1:=(by rw[<-Da.1];exact Ca);subst Fa;obtain⟨g,rfl,Ea,Ga,Ha,hc⟩:=Da.block (by omega);obtain⟨e1,e2⟩:=hc N (by omega);rw[HG.o]at e1 e2;have Ia:(N:Int)+1<=rc:=(by omega);have Ja:(N:Int)<(N:Int)+1:=(by omega);have Ka:g≠w.heap.size+1+1:=(by simp at Ea;omega);clear Aa Da hc Ea;dsimp only at e1 e2;go_wp2;refine s' (v:=.tuple #[.agg #[it u,it v],.bool true]) (by simp[results,results89,go_sem,t0,t1]) rfl ⟨rfl,?_⟩;exact(Ba.o.setCell (by show w.heap.size<=w.heap.size+1+1;omega) _).setCell (by show w.heap.size<=w.heap.size+1+1;omega) _
end Go.Proofs.YtbjalickbnpnkaaGreatDoor
