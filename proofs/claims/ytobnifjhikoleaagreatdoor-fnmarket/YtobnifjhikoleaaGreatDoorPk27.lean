import Derived.Test.YtobnifjhikoleaaGreatDoorPk17
namespace Go.Proofs.YtobnifjhikoleaaGreatDoor
open Go.RowKit Go.Proofs.Tryz
set_option linter.unusedSimpArgs false
set_option maxHeartbeats 32000000
set_option maxRecDepth 10000
structure Dp(w0 w:World)(R:Nat)(ca:Option Addr)(len cap:Nat)(e:Ending)(W:World)(s1 s2 e1 e2:Int)(a1:Option Addr)(n1 c1:Nat)(z1:List Int)(a2:Option Addr)(n2 c2:Nat)(z2:List Int)(a3:Option Addr)(n3 c3:Nat)(z3:List Int)(a4:Option Addr)(n4 c4:Nat)(z4:List Int):Prop where
 val:e=.returned (.agg #[.int .i64 s1,.int .i64 s2,.int .i64 e1,.int .i64 e2,.slice a1 n1 c1,.slice a2 n2 c2,.slice a3 n3 c3,.slice a4 n4 c4])
 x:aw W a1 n1 c1 z1
 y:aw W a2 n2 c2 z2
 qx:aw W a3 n3 c3 z3
 qy:aw W a4 n4 c4 z4
 few:n1≤64∧n2≤64∧n3≤64∧n4≤64
 lo:(∀q,a1=some q→w.heap.size≤q.block)∧(∀q,a2=some q→w.heap.size≤q.block)∧(∀q,a3=some q→w.heap.size≤q.block)∧(∀q,a4=some q→w.heap.size≤q.block)
 rd:Rd w0 R ca len cap W
 gr:w.grownBy W (some R)
def oq(W:World)(e:Ending)(w':World):Prop:=∃(p1 p2 p3 p4:Int) (L:Nat) (o:Bool) (z1 z2 z3 z4:List Int) (g1:Option Addr) (gc1:Nat) (g2:Option Addr) (gc2:Nat) (g3:Option Addr) (gc3:Nat) (g4:Option Addr) (gc4:Nat),e=.returned (.tuple #[.agg #[.int .i64 p1,.int .i64 p2,.int .i64 p3,.int .i64 p4,.slice g1 L gc1,.slice g2 L gc2,.slice g3 L gc3,.slice g4 L gc4],.bool o])∧L≤64∧(aD 2 w' W.heap.size g1 L gc1 z1∧aD 2 w' W.heap.size g2 L gc2 z2∧aD 2 w' W.heap.size g3 L gc3 z3∧aD 2 w' W.heap.size g4 L gc4 z4)∧(ij g1 g2∧ij g1 g3∧ij g1 g4∧ij g2 g3∧ij g2 g4∧ij g3 g4)∧m1 W w'
theorem jB{m:M.Mc}{s:Int×Int}{n:Int}{W:World}{e:Ending}{w':World}(h:fY m s n W e w'):oq W e w':=by
 obtain⟨a1,c1,a2,c2,a3,c3,a4,c4,he,ho,hf,hb⟩:=h;exact⟨_,_,_,_,_,_,_,_,_,_,a1,c1,a2,c2,a3,c3,a4,c4,he,sL m s n,ho,hf,hb⟩
theorem rf{w0:World}{R:Nat}{ca:Option Addr}{len cap:Nat}{zs:List Int}(hrow:Row .u8 w0 ca len cap zs)(m:M.Mc)(w:World)(h:Rd w0 R ca len cap w):
  Calls prog 40 #[.pointer (some ⟨R,0,none⟩),cZ m] w fun e w'=>∃s1 s2 e1 e2 a1 n1 c1 z1 a2 n2 c2 z2 a3 n3 c3 z3 a4 n4 c4 z4,Dp w0 w R ca len cap e w' s1 s2 e1 e2 a1 n1 c1 z1 a2 n2 c2 z2 a3 n3 c3 z3 a4 n4 c4 z4:=by
 have CS:=fun s n W=>gm m s n W;have CS:=Hd (fun s n W=>(CS s n W).mono fun e w' h=>jB h);unfold oq at CS;have Lc:=Hd hrow;have Ej:=h.hi;obtain⟨⟨a,b,c,d,f,k⟩,⟨a',b',c',d',f',k'⟩⟩:=m;dsimp only[cZ,cP]at CS ⊢;have Da:m1 w ((w.alloc (.cells (cr a b c d f k a' b' c' d' f' k').toArray 31)).alloc (.cells cK.toArray 35)):=((m5 _ _).alloc (m3 _) _).alloc (by simp) _;have Qf:H9 (au ((w.alloc (.cells (cr a b c d f k a' b' c' d' f' k').toArray 31)).alloc (.cells cK.toArray 35)) w.heap.size (cr a b c d f k a' b' c' d' f' k')):=(aM _ _ _).alloc _;have Bg:H9 (au ((w.alloc (.cells (cr a b c d f k a' b' c' d' f' k').toArray 31)).alloc (.cells cK.toArray 35)) (w.heap.size+1) cK):=aZ _ _ _ _;have Cg:H9 (Rd w0 R ca len cap ((w.alloc (.cells (cr a b c d f k a' b' c' d' f' k').toArray 31)).alloc (.cells cK.toArray 35))):=(h.alloc _).alloc _;have Dg:H9 (w.grownBy ((w.alloc (.cells (cr a b c d f k a' b' c' d' f' k').toArray 31)).alloc (.cells cK.toArray 35)) (some R)):=aB Da _;have Ki:((w.alloc (.cells (cr a b c d f k a' b' c' d' f' k').toArray 31)).alloc (.cells cK.toArray 35)).heap.size=w.heap.size+2:=(by simp);have Fj:=h.below.size;clear Da h hrow;go_enter func40,ntmps40;(go_wp2_with fail);generalize((w.alloc (.cells (cr a b c d f k a' b' c' d' f' k').toArray 31)).alloc (.cells cK.toArray 35))=wq at Ki Qf Bg Cg Dg ⊢;have Bd:some R≠some w.heap.size:=(by simp;omega);have Nc:some R≠some (w.heap.size+1):=(by simp;omega);have Dd:H9 (∀p,wq.heap.size≤p→w.heap.size≠p∧w.heap.size+1≠p∧w0.heap.size≤p∧p≠R∧w.heap.size≤p∧some R≠some p):=fun p hp=>⟨by omega,by omega,by omega,by omega,by omega,by simp;omega⟩;apply qt
 case f=>
  intro key;refine cH wq (some R) (by kernel_rfl) fun hHeld=>?_;have Qa:m1 wq wq.drew:=(m5 _ _).drew;have Xc:=Qf.b Qa;have Jb:=Bg.b Qa;have Kb:=Hd (Cg.o.grow Qa);have Eb:=Hd (Dg.o.trans (aB Qa _));generalize wq.drew=Lb at hHeld Xc Jb Kb Eb ⊢;clear Qa;refine wpAnyH_take (i:=0) (v:=.agg (cr a b c d f k a' b' c' d' f' k').toArray) rfl (by kernel_rfl) (by kernel_rfl) (by kernel_rfl) (fun _ _ _ h=>h) (uZ (by kernel_rfl) 31 (.tmp 3) rfl w.heap.size 0 rfl (cr a b c d f k a' b' c' d' f' k') _ (fun W h=>(Qf.o.grown h Bd).row) underlying31 rfl (by kernel_rfl)) (by assumption) ?_;refine tk 1 (.pointer (some ⟨R,0,none⟩)) ?_ ?_
  ·intro wq Na;go_simp
  refine tk 3 (.pointer (some ⟨R,0,none⟩)) ?_ ?_
  ·intro wq Na;go_simp
  refine vk (rs:=[2,11]) (by kernel_rfl) (by simp) ?_;refine uP rfl (fun Kk hK=>?_) (uP rfl (fun Kk hK=>?_) (uW));go_simp;refine(dN Lc.o _ Kb.o).mono ?_;rintro e Pa ⟨⟨x,y⟩,rfl,Yc,Ra⟩;go_simp;have Cb:=hHeld.trans Ra;have Rb:=Hd (Xc.o.grown Ra Bd);have Sb:=Hd (Jb.o.grown Ra Nc);have Tb:=Hd Yc;have Ub:=Hd (Eb.o.trans Ra);refine hK.out _ _ Cb (fun _=>?_);clear hK Kk Ra Yc Xc Jb Kb Eb;refine vk (rs:=[4,11]) (by kernel_rfl) (by simp) ?_;refine uP rfl (fun Kk hK=>?_) (uP rfl (fun Kk hK=>?_) (uW));go_simp;refine(bp Lc.o 3 (by decide) (by decide) _ Tb.o).mono ?_;rintro e Ea ⟨v,v0,v1,rfl,Ic,Oa⟩;go_simp;have Ua:=Cb.trans Oa;have Fb:=Hd (Rb.o.grown Oa Bd);have Gb:=Hd (Sb.o.grown Oa Nc);have Hb:=Hd Ic;have Ib:=Hd (Ub.o.trans Oa);refine hK.out _ _ Ua (fun _=>?_);clear hK Kk Oa Ic Rb Sb Tb Ub;refine tk 5 (.int .u64 (IntKind.u64.wrap v)) ?_ ?_
  ·intro wq Na;go_simp
  refine tk 6 (it (IntKind.i64.wrap (2*2 ^ min (IntKind.u64.wrap v).toNat 64))) ?_ ?_
  ·intro wq Na;go_simp
  refine vk (rs:=[7,11]) (by kernel_rfl) (by simp) ?_;refine uP rfl (fun Kk hK=>?_) (uP rfl (fun Kk hK=>?_) (uW));go_simp;refine(CS.o (x,y) (IntKind.i64.wrap (2*2 ^ min (IntKind.u64.wrap v).toNat 64)) _).mono ?_;rintro e Ka ⟨p1,p2,p3,p4,L,o,z1,z2,z3,z4,g1,Ca,g2,Fa,g3,Ga,g4,Ba,rfl,hL,⟨q1,q2,q3,q4⟩,Vb,Va⟩;go_simp;have Ta:=Ua.trans (aB Va _);have Nb:=Fb.b Va;have Ob:=Gb.b Va;have Pb:=Hd (Hb.o.grow Va);have Qb:=Hd (Ib.o.trans (aB Va _));have Ed:=Hd (q1.mono Ua.size);have Fd:=Hd (q2.mono Ua.size);have Gd:=Hd (q3.mono Ua.size);have Id:=Hd (q4.mono Ua.size);have Eg:=Hd Vb;have Fg:=Hd hL;clear q1 q2 q3 q4 Vb hL;refine hK.out _ _ Ta (fun _=>?_);clear hK Kk Va Fb Gb Hb Ib;refine tk 8 (.tuple #[.agg (bi p1 p2 p3 p4 g1 L Ca g2 L Fa g3 L Ga g4 L Ba).toArray,.bool o]) ?_ ?_
  ·intro wq Na;go_simp
  refine tk 9 (.agg (bi p1 p2 p3 p4 g1 L Ca g2 L Fa g3 L Ga g4 L Ba).toArray) ?_ ?_
  ·intro wq Na;go_simp
  refine tk 10 (.bool o) ?_ ?_
  ·intro wq Na;go_simp
  refine aX 11 fun Kk hK=>?_;rw[if_pos (by kernel_rfl)];refine ce 35 rfl cK.toArray (by kernel_rfl) ?_;have Da:=fh Ka (.cells cK.toArray 35);have Jd:wq.grownBy (Ka.alloc (.cells cK.toArray 35)) (some R):=bq Ta _;have Rf:=Nb.b Da;have Sf:=Ob.b Da;have Tf:=Hd (Pb.o.grow Da);have Uf:=Hd (Qb.o.trans (aB Da _));have Vf:=Hd (Ed.o.below Da);have Wf:=Hd (Fd.o.below Da);have Xf:=Hd (Gd.o.below Da);have Yf:=Hd (Id.o.below Da);have He:=cC Ka cK 35;have Db:=Hd Ta.size;have Ze:=Hd (fun q hq=>Nat.ne_of_lt (Ed.o.hi q hq));have Af:=Hd (fun q hq=>Nat.ne_of_lt (Fd.o.hi q hq));have Bf:=Hd (fun q hq=>Nat.ne_of_lt (Gd.o.hi q hq));have Cf:=Hd (fun q hq=>Nat.ne_of_lt (Id.o.hi q hq));refine hK.out _ _ Jd (fun _=>?_);clear hK Kk Da Nb Ob Pb Qb Ed Fd Gd Id;generalize(Ka.alloc (.cells cK.toArray 35))=Xa at He Jd Rf Sf Tf Uf Vf Wf Xf Yf ⊢;generalize Ka.heap.size=La at He Db Ze Af Bf Cf ⊢
  rotate_left
  rw[if_pos (by kernel_rfl)];refine ce 35 rfl cK.toArray (by kernel_rfl) ?_;have Da:=fh Ea (.cells cK.toArray 35);have Ta:wq.grownBy (Ea.alloc (.cells cK.toArray 35)) (some R):=bq Ua _;have Nb:=Fb.b Da;have Ob:=Gb.b Da;have Pb:=Hd (Hb.o.grow Da);have Qb:=Hd (Ib.o.trans (aB Da _));have Wa:=cC Ea cK 35;have Db:=Hd Ua.size;refine hK.out _ _ Ta (fun _=>?_);clear hK Kk Da Fb Gb Hb Ib;generalize(Ea.alloc (.cells cK.toArray 35))=Ka at Wa Ta Nb Ob Pb Qb ⊢;generalize Ea.heap.size=La at Wa Db ⊢;refine aX 7 fun Kk hK=>?_;go_simp;refine(CS.o (x,y) (IntKind.i64.wrap (2*2 ^ min (IntKind.u64.wrap v).toNat 64)) _).mono ?_;rintro e Xa ⟨p1,p2,p3,p4,L,o,z1,z2,z3,z4,g1,Ca,g2,Fa,g3,Ga,g4,Ba,rfl,hL,⟨q1,q2,q3,q4⟩,Vb,Bb⟩;go_simp;have Jd:=Ta.trans (aB Bb _);have Rf:=Nb.b Bb;have Sf:=Ob.b Bb;have Tf:=Hd (Pb.o.grow Bb);have Uf:=Hd (Qb.o.trans (aB Bb _));have He:=Wa.b Bb;have Vf:=Hd (q1.mono Ta.size);have Wf:=Hd (q2.mono Ta.size);have Xf:=Hd (q3.mono Ta.size);have Yf:=Hd (q4.mono Ta.size);have Eg:=Hd Vb;have Fg:=Hd hL;have Ze:=Hd (fun q hq=>Nat.ne_of_gt (uY Wa.o.2.2 (q1.lo q hq)));have Af:=Hd (fun q hq=>Nat.ne_of_gt (uY Wa.o.2.2 (q2.lo q hq)));have Bf:=Hd (fun q hq=>Nat.ne_of_gt (uY Wa.o.2.2 (q3.lo q hq)));have Cf:=Hd (fun q hq=>Nat.ne_of_gt (uY Wa.o.2.2 (q4.lo q hq)));clear q1 q2 q3 q4 Vb hL;refine hK.out _ _ Jd (fun _=>?_);clear hK Kk Bb Nb Ob Pb Qb Wa;refine tk 8 (.tuple #[.agg (bi p1 p2 p3 p4 g1 L Ca g2 L Fa g3 L Ga g4 L Ba).toArray,.bool o]) ?_ ?_
  ·intro wq Na;go_simp
  refine tk 9 (.agg (bi p1 p2 p3 p4 g1 L Ca g2 L Fa g3 L Ga g4 L Ba).toArray) ?_ ?_
  ·intro wq Na;go_simp
  refine tk 10 (.bool o) ?_ ?_
  ·intro wq Na;go_simp
  rotate_left
  rw[if_pos (by kernel_rfl)];refine ce 35 rfl cK.toArray (by kernel_rfl) ?_;have Da:=fh Pa (.cells cK.toArray 35);have Ua:wq.grownBy (Pa.alloc (.cells cK.toArray 35)) (some R):=bq Cb _;have Fb:=Rb.b Da;have Gb:=Sb.b Da;have Hb:=Hd (Tb.o.grow Da);have Ib:=Hd (Ub.o.trans (aB Da _));have Wb:=cC Pa cK 35;have Db:=Hd Cb.size;refine hK.out _ _ Ua (fun _=>?_);clear hK Kk Da Rb Sb Tb Ub;generalize(Pa.alloc (.cells cK.toArray 35))=Ea at Wb Ua Fb Gb Hb Ib ⊢;generalize Pa.heap.size=La at Wb Db ⊢;refine aX 4 fun Kk hK=>?_;go_simp;refine(bp Lc.o 3 (by decide) (by decide) _ Hb.o).mono ?_;rintro e Ka ⟨v,v0,v1,rfl,Gg,Oc⟩;go_simp;have Ta:=Ua.trans Oc;have Nb:=Hd (Fb.o.grown Oc Bd);have Ob:=Hd (Gb.o.grown Oc Nc);have Pb:=Hd Gg;have Qb:=Hd (Ib.o.trans Oc);have Wa:=Hd (Wb.o.grown Oc (Dd.o _ Db.o).2.2.2.2.2);refine hK.out _ _ Ta (fun _=>?_);clear hK Kk Oc Gg Fb Gb Hb Ib Wb;refine tk 5 (.int .u64 (IntKind.u64.wrap v)) ?_ ?_
  ·intro wq Na;go_simp
  refine tk 6 (it (IntKind.i64.wrap (2*2 ^ min (IntKind.u64.wrap v).toNat 64))) ?_ ?_
  ·intro wq Na;go_simp
  refine aX 7 fun Kk hK=>?_;go_simp;refine(CS.o (x,y) (IntKind.i64.wrap (2*2 ^ min (IntKind.u64.wrap v).toNat 64)) _).mono ?_;rintro e Xa ⟨p1,p2,p3,p4,L,o,z1,z2,z3,z4,g1,Ca,g2,Fa,g3,Ga,g4,Ba,rfl,hL,⟨q1,q2,q3,q4⟩,Vb,Bb⟩;go_simp;have Jd:=Ta.trans (aB Bb _);have Rf:=Nb.b Bb;have Sf:=Ob.b Bb;have Tf:=Hd (Pb.o.grow Bb);have Uf:=Hd (Qb.o.trans (aB Bb _));have He:=Wa.b Bb;have Vf:=Hd (q1.mono Ta.size);have Wf:=Hd (q2.mono Ta.size);have Xf:=Hd (q3.mono Ta.size);have Yf:=Hd (q4.mono Ta.size);have Eg:=Hd Vb;have Fg:=Hd hL;have Ze:=Hd (fun q hq=>Nat.ne_of_gt (uY Wa.o.2.2 (q1.lo q hq)));have Af:=Hd (fun q hq=>Nat.ne_of_gt (uY Wa.o.2.2 (q2.lo q hq)));have Bf:=Hd (fun q hq=>Nat.ne_of_gt (uY Wa.o.2.2 (q3.lo q hq)));have Cf:=Hd (fun q hq=>Nat.ne_of_gt (uY Wa.o.2.2 (q4.lo q hq)));clear q1 q2 q3 q4 Vb hL;refine hK.out _ _ Jd (fun _=>?_);clear hK Kk Bb Nb Ob Pb Qb Wa;refine tk 8 (.tuple #[.agg (bi p1 p2 p3 p4 g1 L Ca g2 L Fa g3 L Ga g4 L Ba).toArray,.bool o]) ?_ ?_
  ·intro wq Na;go_simp
  refine tk 9 (.agg (bi p1 p2 p3 p4 g1 L Ca g2 L Fa g3 L Ga g4 L Ba).toArray) ?_ ?_
  ·intro wq Na;go_simp
  refine tk 10 (.bool o) ?_ ?_
  ·intro wq Na;go_simp
  rotate_left
  rw[if_pos (by kernel_rfl)];refine ce 35 rfl cK.toArray (by kernel_rfl) ?_;have Da:=fh Lb (.cells cK.toArray 35);have Cb:wq.grownBy (Lb.alloc (.cells cK.toArray 35)) (some R):=bq hHeld _;have Rb:=Xc.b Da;have Sb:=Jb.b Da;have Tb:=Hd (Kb.o.grow Da);have Ub:=Hd (Eb.o.trans (aB Da _));have Kd:=cC Lb cK 35;have Db:=Hd hHeld.size;refine hK.out _ _ Cb (fun _=>?_);clear hK Kk Da Xc Jb Kb Eb;generalize(Lb.alloc (.cells cK.toArray 35))=Pa at Kd Cb Rb Sb Tb Ub ⊢;generalize Lb.heap.size=La at Kd Db ⊢;refine aX 2 fun Kk hK=>?_;go_simp;refine(dN Lc.o _ Tb.o).mono ?_;rintro e Ea ⟨⟨x,y⟩,rfl,Ic,Oa⟩;go_simp;have Ua:=Cb.trans Oa;have Fb:=Hd (Rb.o.grown Oa Bd);have Gb:=Hd (Sb.o.grown Oa Nc);have Hb:=Hd Ic;have Ib:=Hd (Ub.o.trans Oa);have Wb:=Hd (Kd.o.grown Oa (Dd.o _ Db.o).2.2.2.2.2);refine hK.out _ _ Ua (fun _=>?_);clear hK Kk Oa Ic Rb Sb Tb Ub Kd;refine aX 4 fun Kk hK=>?_;go_simp;refine(bp Lc.o 3 (by decide) (by decide) _ Hb.o).mono ?_;rintro e Ka ⟨v,v0,v1,rfl,Gg,Oc⟩;go_simp;have Ta:=Ua.trans Oc;have Nb:=Hd (Fb.o.grown Oc Bd);have Ob:=Hd (Gb.o.grown Oc Nc);have Pb:=Hd Gg;have Qb:=Hd (Ib.o.trans Oc);have Wa:=Hd (Wb.o.grown Oc (Dd.o _ Db.o).2.2.2.2.2);refine hK.out _ _ Ta (fun _=>?_);clear hK Kk Oc Gg Fb Gb Hb Ib Wb;refine tk 5 (.int .u64 (IntKind.u64.wrap v)) ?_ ?_
  ·intro wq Na;go_simp
  refine tk 6 (it (IntKind.i64.wrap (2*2 ^ min (IntKind.u64.wrap v).toNat 64))) ?_ ?_
  ·intro wq Na;go_simp
  refine aX 7 fun Kk hK=>?_;go_simp;refine(CS.o (x,y) (IntKind.i64.wrap (2*2 ^ min (IntKind.u64.wrap v).toNat 64)) _).mono ?_;rintro e Xa ⟨p1,p2,p3,p4,L,o,z1,z2,z3,z4,g1,Ca,g2,Fa,g3,Ga,g4,Ba,rfl,hL,⟨q1,q2,q3,q4⟩,Vb,Bb⟩;go_simp;have Jd:=Ta.trans (aB Bb _);have Rf:=Nb.b Bb;have Sf:=Ob.b Bb;have Tf:=Hd (Pb.o.grow Bb);have Uf:=Hd (Qb.o.trans (aB Bb _));have He:=Wa.b Bb;have Vf:=Hd (q1.mono Ta.size);have Wf:=Hd (q2.mono Ta.size);have Xf:=Hd (q3.mono Ta.size);have Yf:=Hd (q4.mono Ta.size);have Eg:=Hd Vb;have Fg:=Hd hL;have Ze:=Hd (fun q hq=>Nat.ne_of_gt (uY Wa.o.2.2 (q1.lo q hq)));have Af:=Hd (fun q hq=>Nat.ne_of_gt (uY Wa.o.2.2 (q2.lo q hq)));have Bf:=Hd (fun q hq=>Nat.ne_of_gt (uY Wa.o.2.2 (q3.lo q hq)));have Cf:=Hd (fun q hq=>Nat.ne_of_gt (uY Wa.o.2.2 (q4.lo q hq)));clear q1 q2 q3 q4 Vb hL;refine hK.out _ _ Jd (fun _=>?_);clear hK Kk Bb Nb Ob Pb Qb Wa;refine tk 8 (.tuple #[.agg (bi p1 p2 p3 p4 g1 L Ca g2 L Fa g3 L Ga g4 L Ba).toArray,.bool o]) ?_ ?_
  ·intro wq Na;go_simp
  refine tk 9 (.agg (bi p1 p2 p3 p4 g1 L Ca g2 L Fa g3 L Ga g4 L Ba).toArray) ?_ ?_
  ·intro wq Na;go_simp
  refine tk 10 (.bool o) ?_ ?_
  ·intro wq Na;go_simp
  rotate_left
  all_goals
   refine aX 12 fun Kk hK=>?_;rw[if_pos (by kernel_rfl)];with_reducible refine wp_store_mid 35 (.tmp 5) (.tmp 19) ?_ La 0 (bi p1 p2 p3 p4 g1 L Ca g2 L Fa g3 L Ga g4 L Ba).toArray ?_ ?_ ?_ (by kernel_rfl) (by kernel_rfl) ?_
   ·exact rfl
   ·exact rfl
   ·exact rfl
   ·exact He.o.there 0 8 (by simp)
   have Wc:=Db.o;obtain⟨kM,kZ,kW,kR,kw,kS⟩:=Dd.o _ Wc;have Pc:wq.grownBy (Xa.setCells La 0 (bi p1 p2 p3 p4 g1 L Ca g2 L Fa g3 L Ga g4 L Ba)) (some R):=dH Jd Wc 0 _;have Xb:H9 (au (Xa.setCells La 0 (bi p1 p2 p3 p4 g1 L Ca g2 L Fa g3 L Ga g4 L Ba)) La (bi p1 p2 p3 p4 g1 L Ca g2 L Fa g3 L Ga g4 L Ba)):=He.o.setCells (bi p1 p2 p3 p4 g1 L Ca g2 L Fa g3 L Ga g4 L Ba) 0 (by simp);have Df:H9 (au (Xa.setCells La 0 (bi p1 p2 p3 p4 g1 L Ca g2 L Fa g3 L Ga g4 L Ba)) w.heap.size (cr a b c d f k a' b' c' d' f' k')):=au.farCells _ 0 Rf.o kM;have Zb:H9 (au (Xa.setCells La 0 (bi p1 p2 p3 p4 g1 L Ca g2 L Fa g3 L Ga g4 L Ba)) (w.heap.size+1) cK):=au.farCells _ 0 Sf.o kZ;have Ac:H9 (Rd w0 R ca len cap (Xa.setCells La 0 (bi p1 p2 p3 p4 g1 L Ca g2 L Fa g3 L Ga g4 L Ba))):=Tf.o.cells kW kR _;have Yb:H9 (w.grownBy (Xa.setCells La 0 (bi p1 p2 p3 p4 g1 L Ca g2 L Fa g3 L Ga g4 L Ba)) (some R)):=dH Uf.o kw 0 _;have Bc:H9 (aD 2 (Xa.setCells La 0 (bi p1 p2 p3 p4 g1 L Ca g2 L Fa g3 L Ga g4 L Ba)) wq.heap.size g1 L Ca z1):=Vf.o.grownR (a8 (World.grownBy.refl _ _) 0 _) (fun q hq e=>Ze.o q hq (m2 e).symm);have Cc:H9 (aD 2 (Xa.setCells La 0 (bi p1 p2 p3 p4 g1 L Ca g2 L Fa g3 L Ga g4 L Ba)) wq.heap.size g2 L Fa z2):=Wf.o.grownR (a8 (World.grownBy.refl _ _) 0 _) (fun q hq e=>Af.o q hq (m2 e).symm);have Dc:H9 (aD 2 (Xa.setCells La 0 (bi p1 p2 p3 p4 g1 L Ca g2 L Fa g3 L Ga g4 L Ba)) wq.heap.size g3 L Ga z3):=Xf.o.grownR (a8 (World.grownBy.refl _ _) 0 _) (fun q hq e=>Bf.o q hq (m2 e).symm);have Ec:H9 (aD 2 (Xa.setCells La 0 (bi p1 p2 p3 p4 g1 L Ca g2 L Fa g3 L Ga g4 L Ba)) wq.heap.size g4 L Ba z4):=Yf.o.grownR (a8 (World.grownBy.refl _ _) 0 _) (fun q hq e=>Cf.o q hq (m2 e).symm);refine hK.out _ _ Pc (fun hSzz=>?_);clear hK Kk hSzz;generalize(Xa.setCells La 0 (bi p1 p2 p3 p4 g1 L Ca g2 L Fa g3 L Ga g4 L Ba))=wz at Pc Xb Df Zb Ac Yb Bc Cc Dc Ec ⊢;refine tk 13 (.bool o) ?_ ?_
   ·intro wq Na;go_simp
   refine bg ?_;go_simp;clear Pc Wc kM kZ kW kR kw kS;have Ie:H9 _:=Df.o;have Ld:H9 _:=Zb.o;have Nd:H9 _:=Ac.o;have Od:H9 _:=Yb.o;have Je:H9 _:=Bc.o;have Pd:H9 _:=Cc.o;have Qd:H9 _:=Dc.o;have Sd:H9 _:=Ec.o;have Eh:H9 _:=Eg.o;have Fh:H9 _:=Fg.o;have Hg:H9 _:=Db.o;have Ig:H9 _:=Ze.o;have Jg:H9 _:=Af.o;have Kg:H9 _:=Bf.o;have Lg:H9 _:=Cf.o;have Cd:H9 _:=Xb.o;clear Df Zb Ac Yb Bc Cc Dc Ec Xb Eg Uf He Rf Sf Fg Ze Af Bf Cf Vf Wf Xf Yf Db Tf;generalize La=pb at Hg Ig Jg Kg Lg Cd ⊢;revert Cd Lg Kg Jg Ig Hg Fh Eh Sd Qd Pd Je Od Nd Ld Ie;revert wz;revert pb;revert Ba;revert g4;revert z4;revert Ga;revert g3;revert z3;revert Fa;revert g2;revert z2;revert Ca;revert g1;revert z1;revert o;revert L;revert p4;revert p3;revert p2;revert p1;clear v0 v1;revert v;revert y;revert x;exact key
 case h=>
  intro x y v p1 p2 p3 p4 L o z1 g1 Ca z2 g2 Fa z3 g3 Ga z4 g4 Ba pb wz Ie Ld Nd Od Je Pd Qd Sd Eh Fh Hg Ig Jg Kg Lg Cd;have Qf:H9 (au wz w.heap.size (cr a b c d f k a' b' c' d' f' k')):=Ie.o;have Bg:H9 (au wz (w.heap.size+1) cK):=Ld.o;have Cg:=Hd Nd.o;have Dg:=Hd Od.o;have Kh:H9 (aD 2 wz wq.heap.size g1 L Ca z1):=Je.o;have Lh:H9 (aD 2 wz wq.heap.size g2 L Fa z2):=Pd.o;have Nh:H9 (aD 2 wz wq.heap.size g3 L Ga z3):=Qd.o;have Oh:H9 (aD 2 wz wq.heap.size g4 L Ba z4):=Sd.o;have Bi:H9 (au wz pb (bi p1 p2 p3 p4 g1 L Ca g2 L Fa g3 L Ga g4 L Ba)):=Cd.o;have Td:=Hd Kh.o.lo;have Ud:=Hd Lh.o.lo;have Vd:=Hd Nh.o.lo;have Wd:=Hd Oh.o.lo;have Li:=Hg.o;obtain⟨kM,kZ,kW,kR,kw,kS⟩:=Dd.o _ Li;have Gj:=Fh.o;clear Ie Ld Nd Od Je Pd Qd Sd Cd Fh Hg;(go_wp2_with fail);refine(bp Lc.o 10 (by decide) (by decide) _ Cg.o).mono ?_;rintro e w2 ⟨v2,u0,u1,rfl,hr,hg⟩;have Ke:=Hd (Qf.o.grown hg Bd);have Ja:=Hd (Bg.o.grown hg Nc);have Qc:=Hd hr;have Rc:=Hd (Dg.o.trans hg);have Fc:=Hd (Kh.o.grownR hg (fun q hq e=>by have:=Td.o q hq;injection e with e;omega));have Jc:=Hd (Lh.o.grownR hg (fun q hq e=>by have:=Ud.o q hq;injection e with e;omega));have Kc:=Hd (Nh.o.grownR hg (fun q hq e=>by have:=Vd.o q hq;injection e with e;omega));have Gc:=Hd (Oh.o.grownR hg (fun q hq e=>by have:=Wd.o q hq;injection e with e;omega));have Ia:=Hd (Bi.o.grown hg kS);clear Qf Bg Cg Dg Kh Lh Nh Oh Bi;clear hg hr;have Ef:∀q,g1=some q→q.block≠w.heap.size+1:=fun q hq=>by have:=Td.o q hq;omega
  have Ff:∀q,g1=some q→w.heap.size≤q.block:=fun q hq=>by have:=Td.o q hq;omega
  have Gf:=Ig.o;have Le:∀q,g2=some q→q.block≠w.heap.size+1:=fun q hq=>by have:=Ud.o q hq;omega
  have Oe:∀q,g2=some q→w.heap.size≤q.block:=fun q hq=>by have:=Ud.o q hq;omega
  have Hf:=Jg.o;have Pe:∀q,g3=some q→q.block≠w.heap.size+1:=fun q hq=>by have:=Vd.o q hq;omega
  have Qe:∀q,g3=some q→w.heap.size≤q.block:=fun q hq=>by have:=Vd.o q hq;omega
  have If:=Kg.o;have Re:∀q,g4=some q→q.block≠w.heap.size+1:=fun q hq=>by have:=Wd.o q hq;omega
  have Se:∀q,g4=some q→w.heap.size≤q.block:=fun q hq=>by have:=Wd.o q hq;omega
  have Te:=Lg.o;clear u0 u1;obtain⟨Ni,Oi,Ci,Hj,Pi,Qi⟩:=Eh.o;by_cases h5:v2=5
  ·
   subst h5;by_cases Ph:L=0
   ·
    have Qh:¬ (0:Int)<(L:Int):=(by omega);clear Ph;have c0:=Ia.c 0;have c1:=Ia.c 1;have c2:=Ia.c 2;have c3:=Ia.c 3;have c4:=Ia.c 4;have c5:=Ia.c 5;have c6:=Ia.c 6;have c7:=Ia.c 7;have y0:=Ja.c 0;have y1:=Ja.c 1;have y2:=Ja.c 2;have y3:=Ja.c 3;have y4:=Ja.c 4;have y5:=Ja.c 5;have y6:=Ja.c 6;have y7:=Ja.c 7;have f0:=Ja.o.fr 0;have f1:=Ja.o.fr 1;have f2:=Ja.o.fr 2;have f3:=Ja.o.fr 3;have f4:=Ja.o.fr 4;have f5:=Ja.o.fr 5;have f6:=Ja.o.fr 6;have f7:=Ja.o.fr 7;have r0:=Ia.o.fr 0;have r1:=Ia.o.fr 1;have r2:=Ia.o.fr 2;have r3:=Ia.o.fr 3;have r4:=Ia.o.fr 4;have r5:=Ia.o.fr 5;have r6:=Ia.o.fr 6;have r7:=Ia.o.fr 7;go_wp2;refine m8 (v:=.agg (bi p1 p2 p3 p4 g1 L Ca g2 L Fa g3 L Ga g4 L Ba).toArray) (by simp[results,results40,go_sem,y0,y1,y2,y3,y4,y5,y6,y7]) rfl ⟨_,_,_,_,_,_,_,z1,_,_,_,z2,_,_,_,z3,_,_,_,z4,⟨rfl,?_,?_,?_,?_,⟨by omega,by omega,by omega,by omega⟩,⟨Ff,Oe,Qe,Se⟩,?_,?_⟩⟩
    ·
     repeat refine aw.setS ?_ Ef
     exact Fc.o.sees
    ·
     repeat refine aw.setS ?_ Le
     exact Jc.o.sees
    ·
     repeat refine aw.setS ?_ Pe
     exact Kc.o.sees
    ·
     repeat refine aw.setS ?_ Re
     exact Gc.o.sees
    ·
     repeat refine Rd.setS ?_ (by omega) (by omega)
     exact Qc.o
    ·
     repeat refine cf ?_ (by omega)
     exact Rc.o
   have Qh:(0:Int)<(L:Int):=(by omega);have Ri:(L:Int)≤64:=(by omega);obtain⟨gq,Rh,Si,_,_,_⟩:=Fc.o.block (by omega);subst Rh;have c4:=Ia.c 4;(go_wp2_with fail);clear c4;have Qa:m1 w2 w2.drew:=(m5 _ _).drew;have Jb:=Ja.b Qa;have Kb:=Hd (Qc.o.grow Qa);have Eb:=Hd (Rc.o.trans (aB Qa _));have Sc:=Hd (Fc.o.below Qa);have Tc:=Hd (Jc.o.below Qa);have Uc:=Hd (Kc.o.below Qa);have Vc:=Hd (Gc.o.below Qa);have Hc:=Ia.b Qa;clear Qa Ke Ja Qc Rc Fc Jc Kc Gc Ia;refine wp_region_noPanic ?_;refine wp_region_held_drew (S:=fun W=>w.grownBy W (some R)∧W.cell? ⟨pb,4,none⟩=some (.slice (some ⟨gq,0,none⟩) L Ca)) (by kernel_rfl) (⟨Eb.o,Hc.o.at 4⟩) (fun hHeld=>?_);generalize w2.drew=Lb at hHeld Jb Kb Eb Sc Tc Uc Vc Hc ⊢;refine tk 0 (.pointer (some ⟨pb,4,none⟩)) ?_ ?_
   ·intro wq Na;go_simp
   refine tk 1 (.slice (some ⟨gq,0,none⟩) L Ca) ?_ ?_
   ·intro wp Jf;have c0:=Jf.2;go_simp
   refine tk 2 (.pointer (some ⟨R,0,none⟩)) ?_ ?_
   ·intro wq Na;go_simp
   refine tk 3 (.pointer (some ⟨pb,4,none⟩)) ?_ ?_
   ·intro wq Na;go_simp
   refine tk 4 (.slice (some ⟨gq,0,none⟩) L Ca) ?_ ?_
   ·intro wp Jf;have c0:=Jf.2;go_simp
   refine tk 5 (it (L:Int)) ?_ ?_
   ·intro wq Na;go_simp
   refine tk 7 (.pointer (some ⟨R,0,none⟩)) ?_ ?_
   ·intro wq Na;go_simp
   refine aX 6 fun Kk hK=>?_;go_simp;refine(bp Lc.o (L:Int) (by omega) (by omega) _ Kb.o).mono ?_;rintro e Pa ⟨v3,t0,t1,rfl,Yc,Ra⟩;go_simp;have Ng:=Hd (Jb.o.grown Ra Nc);have Og:=Hd Yc;have Kf:=Hd (Eb.o.trans Ra);have Pg:=Hd (Sc.o.grownR Ra (fun q hq e=>by have:=Td.o q hq;injection e with e;omega));have Qg:=Hd (Tc.o.grownR Ra (fun q hq e=>by have:=Ud.o q hq;injection e with e;omega));have Rg:=Hd (Uc.o.grownR Ra (fun q hq e=>by have:=Vd.o q hq;injection e with e;omega));have Sg:=Hd (Vc.o.grownR Ra (fun q hq e=>by have:=Wd.o q hq;injection e with e;omega));have Lf:=Hd (Hc.o.grown Ra kS);have Cb:w.grownBy Pa (some R)∧Pa.cell? ⟨pb,4,none⟩=some (.slice (some ⟨gq,0,none⟩) L Ca):=⟨Kf.o,Lf.o.at 4⟩;refine hK.out _ _ Cb (fun _=>?_);clear hK Kk Ra Jb Kb Eb Sc Tc Uc Vc Hc Yc;refine aX 8 fun Kk hK=>?_;go_simp;refine(dn Lc.o _ Og.o).mono ?_;rintro e Ea ⟨ev,Ti,Ui,rfl,Ic,Oa⟩;go_simp;have Tg:=Hd (Ng.o.grown Oa Nc);have Ug:=Hd Ic;have Nf:=Hd (Kf.o.trans Oa);have Zf:=Hd (Pg.o.grownR Oa (fun q hq e=>by have:=Td.o q hq;injection e with e;omega));have Vg:=Hd (Qg.o.grownR Oa (fun q hq e=>by have:=Ud.o q hq;injection e with e;omega));have Wg:=Hd (Rg.o.grownR Oa (fun q hq e=>by have:=Vd.o q hq;injection e with e;omega));have Ag:=Hd (Sg.o.grownR Oa (fun q hq e=>by have:=Wd.o q hq;injection e with e;omega));have Of:=Hd (Lf.o.grown Oa kS);have Ua:w.grownBy Ea (some R)∧Ea.cell? ⟨pb,4,none⟩=some (.slice (some ⟨gq,0,none⟩) L Ca):=⟨Nf.o,Of.o.at 4⟩;refine hK.out _ _ Ua (fun _=>?_);clear hK Kk Oa Ng Og Kf Pg Qg Rg Sg Lf Ic;have Sh:v3.toNat<L:=(by omega);refine tk 9 (.pointer (some ⟨gq,v3.toNat,none⟩)) ?_ ?_
   ·intro wq Na;go_simp
   obtain⟨Th,Xg,_,_,Yg,Zg⟩:=Zf.o.block (by omega);have Uh:gq=Th:=(by simpa using Xg);subst Uh;have cc:=Yg v3.toNat Sh;have ff:=Zg v3.toNat;clear Yg Zg Xg;refine aX 10 fun Kk hK=>?_;go_simp;have Zb:H9 (au (Ea.setCell ⟨gq,v3.toNat,none⟩ (it ev)) (w.heap.size+1) cK):=Tg.o.far (by omega) _ _;have Ac:H9 (Rd w0 R ca len cap (Ea.setCell ⟨gq,v3.toNat,none⟩ (it ev))):=Rd.setS Ug.o (by omega) (by omega);have Yb:H9 (w.grownBy (Ea.setCell ⟨gq,v3.toNat,none⟩ (it ev)) (some R)):=cf Nf.o (by omega);have Bc:H9 (aD 2 (Ea.setCell ⟨gq,v3.toNat,none⟩ (it ev)) wq.heap.size (some ⟨gq,0,none⟩) L Ca (z1.set v3.toNat ev)):=Zf.o.set v3.toNat ev;have Cc:H9 (aD 2 (Ea.setCell ⟨gq,v3.toNat,none⟩ (it ev)) wq.heap.size g2 L Fa z2):=Vg.o.other ⟨gq,v3.toNat,none⟩ (fun q hq=>Ne.symm (Ni ⟨gq,0,none⟩ q rfl hq)) _;have Dc:H9 (aD 2 (Ea.setCell ⟨gq,v3.toNat,none⟩ (it ev)) wq.heap.size g3 L Ga z3):=Wg.o.other ⟨gq,v3.toNat,none⟩ (fun q hq=>Ne.symm (Oi ⟨gq,0,none⟩ q rfl hq)) _;have Ec:H9 (aD 2 (Ea.setCell ⟨gq,v3.toNat,none⟩ (it ev)) wq.heap.size g4 L Ba z4):=Ag.o.other ⟨gq,v3.toNat,none⟩ (fun q hq=>Ne.symm (Ci ⟨gq,0,none⟩ q rfl hq)) _;have Xb:H9 (au (Ea.setCell ⟨gq,v3.toNat,none⟩ (it ev)) pb (bi p1 p2 p3 p4 (some ⟨gq,0,none⟩) L Ca g2 L Fa g3 L Ga g4 L Ba)):=Of.o.far (Ne.symm (Gf _ rfl)) _ _;have Pc:w.grownBy (Ea.setCell ⟨gq,v3.toNat,none⟩ (it ev)) (some R)∧(Ea.setCell ⟨gq,v3.toNat,none⟩ (it ev)).cell? ⟨pb,4,none⟩=some (.slice (some ⟨gq,0,none⟩) L Ca):=⟨Yb.o,Xb.o.at 4⟩;refine hK.out _ _ Pc (fun _=>?_);clear hK Kk cc ff Pc Tg Ug Nf Zf Vg Wg Ag Of;generalize(Ea.setCell ⟨gq,v3.toNat,none⟩ (it ev))=wy at Zb Ac Yb Bc Cc Dc Ec Xb ⊢;refine bg ?_;go_simp;have Aa:=Hd Zb.o;have Xd:=Hd Ac.o;have Yd:=Hd Yb.o;have Pf:=Hd Bc.o;have Zd:=Hd Cc.o;have Ae:=Hd Dc.o;have Be:=Hd Ec.o;have Ha:=Hd Xb.o;clear Zb Ac Yb Bc Cc Dc Ec Xb;have c0:=Ha.c 0;have c1:=Ha.c 1;have c2:=Ha.c 2;have c3:=Ha.c 3;have c4:=Ha.c 4;have c5:=Ha.c 5;have c6:=Ha.c 6;have c7:=Ha.c 7;have y0:=Aa.c 0;have y1:=Aa.c 1;have y2:=Aa.c 2;have y3:=Aa.c 3;have y4:=Aa.c 4;have y5:=Aa.c 5;have y6:=Aa.c 6;have y7:=Aa.c 7;have f0:=Aa.o.fr 0;have f1:=Aa.o.fr 1;have f2:=Aa.o.fr 2;have f3:=Aa.o.fr 3;have f4:=Aa.o.fr 4;have f5:=Aa.o.fr 5;have f6:=Aa.o.fr 6;have f7:=Aa.o.fr 7;go_wp2;refine m8 (v:=.agg (bi p1 p2 p3 p4 (some ⟨gq,0,none⟩) L Ca g2 L Fa g3 L Ga g4 L Ba).toArray) (by simp[results,results40,go_sem,y0,y1,y2,y3,y4,y5,y6,y7]) rfl ⟨_,_,_,_,_,_,_,(z1.set v3.toNat ev),_,_,_,z2,_,_,_,z3,_,_,_,z4,⟨rfl,?_,?_,?_,?_,⟨by omega,by omega,by omega,by omega⟩,⟨Ff,Oe,Qe,Se⟩,?_,?_⟩⟩
   ·
    repeat refine aw.setS ?_ Ef
    exact Pf.o.sees
   ·
    repeat refine aw.setS ?_ Le
    exact Zd.o.sees
   ·
    repeat refine aw.setS ?_ Pe
    exact Ae.o.sees
   ·
    repeat refine aw.setS ?_ Re
    exact Be.o.sees
   ·
    repeat refine Rd.setS ?_ (by omega) (by omega)
    exact Xd.o
   ·
    repeat refine cf ?_ (by omega)
    exact Yd.o
  by_cases h6:v2=6
  ·
   subst h6;by_cases Ph:L=0
   ·
    have Qh:¬ (0:Int)<(L:Int):=(by omega);clear Ph;have c0:=Ia.c 0;have c1:=Ia.c 1;have c2:=Ia.c 2;have c3:=Ia.c 3;have c4:=Ia.c 4;have c5:=Ia.c 5;have c6:=Ia.c 6;have c7:=Ia.c 7;have y0:=Ja.c 0;have y1:=Ja.c 1;have y2:=Ja.c 2;have y3:=Ja.c 3;have y4:=Ja.c 4;have y5:=Ja.c 5;have y6:=Ja.c 6;have y7:=Ja.c 7;have f0:=Ja.o.fr 0;have f1:=Ja.o.fr 1;have f2:=Ja.o.fr 2;have f3:=Ja.o.fr 3;have f4:=Ja.o.fr 4;have f5:=Ja.o.fr 5;have f6:=Ja.o.fr 6;have f7:=Ja.o.fr 7;have r0:=Ia.o.fr 0;have r1:=Ia.o.fr 1;have r2:=Ia.o.fr 2;have r3:=Ia.o.fr 3;have r4:=Ia.o.fr 4;have r5:=Ia.o.fr 5;have r6:=Ia.o.fr 6;have r7:=Ia.o.fr 7;go_wp2;refine m8 (v:=.agg (bi p1 p2 p3 p4 g1 L Ca g2 L Fa g3 L Ga g4 L Ba).toArray) (by simp[results,results40,go_sem,y0,y1,y2,y3,y4,y5,y6,y7]) rfl ⟨_,_,_,_,_,_,_,z1,_,_,_,z2,_,_,_,z3,_,_,_,z4,⟨rfl,?_,?_,?_,?_,⟨by omega,by omega,by omega,by omega⟩,⟨Ff,Oe,Qe,Se⟩,?_,?_⟩⟩
    ·
     repeat refine aw.setS ?_ Ef
     exact Fc.o.sees
    ·
     repeat refine aw.setS ?_ Le
     exact Jc.o.sees
    ·
     repeat refine aw.setS ?_ Pe
     exact Kc.o.sees
    ·
     repeat refine aw.setS ?_ Re
     exact Gc.o.sees
    ·
     repeat refine Rd.setS ?_ (by omega) (by omega)
     exact Qc.o
    ·
     repeat refine cf ?_ (by omega)
     exact Rc.o
   have Qh:(0:Int)<(L:Int):=(by omega);have Ri:(L:Int)≤64:=(by omega);obtain⟨gq,Rh,Si,_,_,_⟩:=Gc.o.block (by omega);subst Rh;have c7:=Ia.c 7;(go_wp2_with fail);clear c7;have Qa:m1 w2 w2.drew:=(m5 _ _).drew;have Jb:=Ja.b Qa;have Kb:=Hd (Qc.o.grow Qa);have Eb:=Hd (Rc.o.trans (aB Qa _));have Sc:=Hd (Fc.o.below Qa);have Tc:=Hd (Jc.o.below Qa);have Uc:=Hd (Kc.o.below Qa);have Vc:=Hd (Gc.o.below Qa);have Hc:=Ia.b Qa;clear Qa Ke Ja Qc Rc Fc Jc Kc Gc Ia;refine wp_region_noPanic ?_;refine wp_region_held_drew (S:=fun W=>w.grownBy W (some R)∧W.cell? ⟨pb,7,none⟩=some (.slice (some ⟨gq,0,none⟩) L Ba)) (by kernel_rfl) (⟨Eb.o,Hc.o.at 7⟩) (fun hHeld=>?_);generalize w2.drew=Lb at hHeld Jb Kb Eb Sc Tc Uc Vc Hc ⊢;refine tk 0 (.pointer (some ⟨pb,7,none⟩)) ?_ ?_
   ·intro wq Na;go_simp
   refine tk 1 (.slice (some ⟨gq,0,none⟩) L Ba) ?_ ?_
   ·intro wp Jf;have c0:=Jf.2;go_simp
   refine tk 2 (.pointer (some ⟨R,0,none⟩)) ?_ ?_
   ·intro wq Na;go_simp
   refine tk 3 (.pointer (some ⟨pb,7,none⟩)) ?_ ?_
   ·intro wq Na;go_simp
   refine tk 4 (.slice (some ⟨gq,0,none⟩) L Ba) ?_ ?_
   ·intro wp Jf;have c0:=Jf.2;go_simp
   refine tk 5 (it (L:Int)) ?_ ?_
   ·intro wq Na;go_simp
   refine tk 7 (.pointer (some ⟨R,0,none⟩)) ?_ ?_
   ·intro wq Na;go_simp
   refine aX 6 fun Kk hK=>?_;go_simp;refine(bp Lc.o (L:Int) (by omega) (by omega) _ Kb.o).mono ?_;rintro e Pa ⟨v3,t0,t1,rfl,Yc,Ra⟩;go_simp;have Ng:=Hd (Jb.o.grown Ra Nc);have Og:=Hd Yc;have Kf:=Hd (Eb.o.trans Ra);have Pg:=Hd (Sc.o.grownR Ra (fun q hq e=>by have:=Td.o q hq;injection e with e;omega));have Qg:=Hd (Tc.o.grownR Ra (fun q hq e=>by have:=Ud.o q hq;injection e with e;omega));have Rg:=Hd (Uc.o.grownR Ra (fun q hq e=>by have:=Vd.o q hq;injection e with e;omega));have Sg:=Hd (Vc.o.grownR Ra (fun q hq e=>by have:=Wd.o q hq;injection e with e;omega));have Lf:=Hd (Hc.o.grown Ra kS);have Cb:w.grownBy Pa (some R)∧Pa.cell? ⟨pb,7,none⟩=some (.slice (some ⟨gq,0,none⟩) L Ba):=⟨Kf.o,Lf.o.at 7⟩;refine hK.out _ _ Cb (fun _=>?_);clear hK Kk Ra Jb Kb Eb Sc Tc Uc Vc Hc Yc;refine aX 8 fun Kk hK=>?_;go_simp;refine(dn Lc.o _ Og.o).mono ?_;rintro e Ea ⟨ev,Ti,Ui,rfl,Ic,Oa⟩;go_simp;have Tg:=Hd (Ng.o.grown Oa Nc);have Ug:=Hd Ic;have Nf:=Hd (Kf.o.trans Oa);have Zf:=Hd (Pg.o.grownR Oa (fun q hq e=>by have:=Td.o q hq;injection e with e;omega));have Vg:=Hd (Qg.o.grownR Oa (fun q hq e=>by have:=Ud.o q hq;injection e with e;omega));have Wg:=Hd (Rg.o.grownR Oa (fun q hq e=>by have:=Vd.o q hq;injection e with e;omega));have Ag:=Hd (Sg.o.grownR Oa (fun q hq e=>by have:=Wd.o q hq;injection e with e;omega));have Of:=Hd (Lf.o.grown Oa kS);have Ua:w.grownBy Ea (some R)∧Ea.cell? ⟨pb,7,none⟩=some (.slice (some ⟨gq,0,none⟩) L Ba):=⟨Nf.o,Of.o.at 7⟩;refine hK.out _ _ Ua (fun _=>?_);clear hK Kk Oa Ng Og Kf Pg Qg Rg Sg Lf Ic;have Sh:v3.toNat<L:=(by omega);refine tk 9 (.pointer (some ⟨gq,v3.toNat,none⟩)) ?_ ?_
   ·intro wq Na;go_simp
   obtain⟨Th,Xg,_,_,Yg,Zg⟩:=Ag.o.block (by omega);have Uh:gq=Th:=(by simpa using Xg);subst Uh;have cc:=Yg v3.toNat Sh;have ff:=Zg v3.toNat;clear Yg Zg Xg;refine aX 10 fun Kk hK=>?_;go_simp;have Zb:H9 (au (Ea.setCell ⟨gq,v3.toNat,none⟩ (it ev)) (w.heap.size+1) cK):=Tg.o.far (by omega) _ _;have Ac:H9 (Rd w0 R ca len cap (Ea.setCell ⟨gq,v3.toNat,none⟩ (it ev))):=Rd.setS Ug.o (by omega) (by omega);have Yb:H9 (w.grownBy (Ea.setCell ⟨gq,v3.toNat,none⟩ (it ev)) (some R)):=cf Nf.o (by omega);have Bc:H9 (aD 2 (Ea.setCell ⟨gq,v3.toNat,none⟩ (it ev)) wq.heap.size g1 L Ca z1):=Zf.o.other ⟨gq,v3.toNat,none⟩ (fun q hq=>Ci q ⟨gq,0,none⟩ hq rfl) _;have Cc:H9 (aD 2 (Ea.setCell ⟨gq,v3.toNat,none⟩ (it ev)) wq.heap.size g2 L Fa z2):=Vg.o.other ⟨gq,v3.toNat,none⟩ (fun q hq=>Pi q ⟨gq,0,none⟩ hq rfl) _;have Dc:H9 (aD 2 (Ea.setCell ⟨gq,v3.toNat,none⟩ (it ev)) wq.heap.size g3 L Ga z3):=Wg.o.other ⟨gq,v3.toNat,none⟩ (fun q hq=>Qi q ⟨gq,0,none⟩ hq rfl) _;have Ec:H9 (aD 2 (Ea.setCell ⟨gq,v3.toNat,none⟩ (it ev)) wq.heap.size (some ⟨gq,0,none⟩) L Ba (z4.set v3.toNat ev)):=Ag.o.set v3.toNat ev;have Xb:H9 (au (Ea.setCell ⟨gq,v3.toNat,none⟩ (it ev)) pb (bi p1 p2 p3 p4 g1 L Ca g2 L Fa g3 L Ga (some ⟨gq,0,none⟩) L Ba)):=Of.o.far (Ne.symm (Te _ rfl)) _ _;have Pc:w.grownBy (Ea.setCell ⟨gq,v3.toNat,none⟩ (it ev)) (some R)∧(Ea.setCell ⟨gq,v3.toNat,none⟩ (it ev)).cell? ⟨pb,7,none⟩=some (.slice (some ⟨gq,0,none⟩) L Ba):=⟨Yb.o,Xb.o.at 7⟩;refine hK.out _ _ Pc (fun _=>?_);clear hK Kk cc ff Pc Tg Ug Nf Zf Vg Wg Ag Of;generalize(Ea.setCell ⟨gq,v3.toNat,none⟩ (it ev))=wy at Zb Ac Yb Bc Cc Dc Ec Xb ⊢;refine bg ?_;go_simp;have Aa:=Hd Zb.o;have Xd:=Hd Ac.o;have Yd:=Hd Yb.o;have Pf:=Hd Bc.o;have Zd:=Hd Cc.o;have Ae:=Hd Dc.o;have Be:=Hd Ec.o;have Ha:=Hd Xb.o;clear Zb Ac Yb Bc Cc Dc Ec Xb;have c0:=Ha.c 0;have c1:=Ha.c 1;have c2:=Ha.c 2;have c3:=Ha.c 3;have c4:=Ha.c 4;have c5:=Ha.c 5;have c6:=Ha.c 6;have c7:=Ha.c 7;have y0:=Aa.c 0;have y1:=Aa.c 1;have y2:=Aa.c 2;have y3:=Aa.c 3;have y4:=Aa.c 4;have y5:=Aa.c 5;have y6:=Aa.c 6;have y7:=Aa.c 7;have f0:=Aa.o.fr 0;have f1:=Aa.o.fr 1;have f2:=Aa.o.fr 2;have f3:=Aa.o.fr 3;have f4:=Aa.o.fr 4;have f5:=Aa.o.fr 5;have f6:=Aa.o.fr 6;have f7:=Aa.o.fr 7;go_wp2;refine m8 (v:=.agg (bi p1 p2 p3 p4 g1 L Ca g2 L Fa g3 L Ga (some ⟨gq,0,none⟩) L Ba).toArray) (by simp[results,results40,go_sem,y0,y1,y2,y3,y4,y5,y6,y7]) rfl ⟨_,_,_,_,_,_,_,z1,_,_,_,z2,_,_,_,z3,_,_,_,(z4.set v3.toNat ev),⟨rfl,?_,?_,?_,?_,⟨by omega,by omega,by omega,by omega⟩,⟨Ff,Oe,Qe,Se⟩,?_,?_⟩⟩
   ·
    repeat refine aw.setS ?_ Ef
    exact Pf.o.sees
   ·
    repeat refine aw.setS ?_ Le
    exact Zd.o.sees
   ·
    repeat refine aw.setS ?_ Pe
    exact Ae.o.sees
   ·
    repeat refine aw.setS ?_ Re
    exact Be.o.sees
   ·
    repeat refine Rd.setS ?_ (by omega) (by omega)
    exact Xd.o
   ·
    repeat refine cf ?_ (by omega)
    exact Yd.o
  by_cases h7:v2=7
  ·
   subst h7;(go_wp2_with fail);refine(dN Lc.o _ Qc.o).mono ?_;rintro e w3 ⟨⟨ex,ey⟩,rfl,hr,hg⟩;have Aa:=Hd (Ja.o.grown hg Nc);have Xd:=Hd hr;have Yd:=Hd (Rc.o.trans hg);have Pf:=Hd (Fc.o.grownR hg (fun q hq e=>by have:=Td.o q hq;injection e with e;omega));have Zd:=Hd (Jc.o.grownR hg (fun q hq e=>by have:=Ud.o q hq;injection e with e;omega));have Ae:=Hd (Kc.o.grownR hg (fun q hq e=>by have:=Vd.o q hq;injection e with e;omega));have Be:=Hd (Gc.o.grownR hg (fun q hq e=>by have:=Wd.o q hq;injection e with e;omega));have Ha:=Hd (Ia.o.grown hg kS);clear Ke Ja Qc Rc Fc Jc Kc Gc Ia;clear hg hr;dsimp only[cP];have c0:=Ha.c 0;have c1:=Ha.c 1;have c2:=Ha.c 2;have c3:=Ha.c 3;have c4:=Ha.c 4;have c5:=Ha.c 5;have c6:=Ha.c 6;have c7:=Ha.c 7;have y0:=Aa.c 0;have y1:=Aa.c 1;have y2:=Aa.c 2;have y3:=Aa.c 3;have y4:=Aa.c 4;have y5:=Aa.c 5;have y6:=Aa.c 6;have y7:=Aa.c 7;have f0:=Aa.o.fr 0;have f1:=Aa.o.fr 1;have f2:=Aa.o.fr 2;have f3:=Aa.o.fr 3;have f4:=Aa.o.fr 4;have f5:=Aa.o.fr 5;have f6:=Aa.o.fr 6;have f7:=Aa.o.fr 7;have r0:=Ha.o.fr 0;have r1:=Ha.o.fr 1;have r2:=Ha.o.fr 2;have r3:=Ha.o.fr 3;have r4:=Ha.o.fr 4;have r5:=Ha.o.fr 5;have r6:=Ha.o.fr 6;have r7:=Ha.o.fr 7;go_wp2;refine m8 (v:=.agg (bi p1 p2 ex ey g1 L Ca g2 L Fa g3 L Ga g4 L Ba).toArray) (by simp[results,results40,go_sem,y0,y1,y2,y3,y4,y5,y6,y7]) rfl ⟨_,_,_,_,_,_,_,z1,_,_,_,z2,_,_,_,z3,_,_,_,z4,⟨rfl,?_,?_,?_,?_,⟨by omega,by omega,by omega,by omega⟩,⟨Ff,Oe,Qe,Se⟩,?_,?_⟩⟩
   ·
    repeat refine aw.setS ?_ Ef
    exact aw.setS ((aw.setS (Pf.o.sees) Gf)) Gf
   ·
    repeat refine aw.setS ?_ Le
    exact aw.setS ((aw.setS (Zd.o.sees) Hf)) Hf
   ·
    repeat refine aw.setS ?_ Pe
    exact aw.setS ((aw.setS (Ae.o.sees) If)) If
   ·
    repeat refine aw.setS ?_ Re
    exact aw.setS ((aw.setS (Be.o.sees) Te)) Te
   ·
    repeat refine Rd.setS ?_ (by omega) (by omega)
    exact Xd.o
   ·
    repeat refine cf ?_ (by omega)
    exact Yd.o
  by_cases h8:v2=8
  ·
   subst h8;have Vi:w.heap.size+2≤w2.heap.size:=(by have:=Ja.o.2.2;omega);have Ij:=Ia.o.2.2;(go_wp2_with fail);clear Ig Jg Kg Lg Eh;have Wi:=Fc.o.hi;have Di:=fun q hq=>(Dd.o _ (Td.o q hq)).2.2.2.2.2;have Xi:=Jc.o.hi;have Ei:=fun q hq=>(Dd.o _ (Ud.o q hq)).2.2.2.2.2;have Yi:=Kc.o.hi;have Fi:=fun q hq=>(Dd.o _ (Vd.o q hq)).2.2.2.2.2;have Zi:=Gc.o.hi;have Gi:=fun q hq=>(Dd.o _ (Wd.o q hq)).2.2.2.2.2
   have Hi:H9 (∀p,w2.heap.size≤p→w.heap.size≠p∧w.heap.size+1≠p∧pb≠p∧w0.heap.size≤p∧p≠R∧w.heap.size≤p∧some R≠some p):=fun p hp=>by
    have i1:=Ke.o.2.2;have i2:=Ja.o.2.2;have i3:=Ia.o.2.2;exact⟨by omega,by omega,by omega,by omega,by omega,by omega,by simp;omega⟩
   apply qt
   case f=>
    intro key;refine cH w2 (some R) (by kernel_rfl) fun hHeld=>?_;have Qa:m1 w2 w2.drew:=(m5 _ _).drew;have Xc:=Ke.b Qa;have Jb:=Ja.b Qa;have Kb:=Hd (Qc.o.grow Qa);have Eb:=Hd (Rc.o.trans (aB Qa _));have Sc:=Hd (Fc.o.below Qa);have Tc:=Hd (Jc.o.below Qa);have Uc:=Hd (Kc.o.below Qa);have Vc:=Hd (Gc.o.below Qa);have Hc:=Ia.b Qa;generalize w2.drew=Lb at hHeld Xc Jb Kb Eb Sc Tc Uc Vc Hc ⊢;clear Qa;refine wpAnyH_take (i:=0) (v:=.agg (cr a b c d f k a' b' c' d' f' k').toArray) rfl (by kernel_rfl) (by kernel_rfl) (by kernel_rfl) (fun _ _ _ h=>h) (uZ (by kernel_rfl) 31 (.tmp 3) rfl w.heap.size 0 rfl (cr a b c d f k a' b' c' d' f' k') _ (fun W h=>(Ke.o.grown h Bd).row) underlying31 rfl (by kernel_rfl)) (by assumption) ?_;refine tk 1 (.pointer (some ⟨R,0,none⟩)) ?_ ?_
    ·intro wq Na;go_simp
    refine vk (rs:=[2,7]) (by kernel_rfl) (by simp) ?_;refine uP rfl (fun Kk hK=>?_) (uP rfl (fun Kk hK=>?_) (uW));go_simp;refine(dN Lc.o _ Kb.o).mono ?_;rintro e Pa ⟨⟨tx,ty⟩,rfl,Yc,Ra⟩;go_simp;have Cb:=hHeld.trans Ra;have Rb:=Hd (Xc.o.grown Ra Bd);have Sb:=Hd (Jb.o.grown Ra Nc);have Tb:=Hd Yc;have Ub:=Hd (Eb.o.trans Ra);have Ue:=Hd (Sc.o.grownR Ra Di);have Ve:=Hd (Tc.o.grownR Ra Ei);have We:=Hd (Uc.o.grownR Ra Fi);have Xe:=Hd (Vc.o.grownR Ra Gi);have Ye:=Hd (Hc.o.grown Ra kS);refine hK.out _ _ Cb (fun _=>?_);clear hK Kk Ra Yc Xc Jb Kb Eb Sc Tc Uc Vc Hc;refine vk (rs:=[3,7]) (by kernel_rfl) (by simp) ?_;refine uP rfl (fun Kk hK=>?_) (uP rfl (fun Kk hK=>?_) (uW));go_simp;refine(CS.o (tx,ty) 4 _).mono ?_;rintro e Ea ⟨r1,r2,r3,r4,L2,o2,Zc,Vh,Wh,Xh,h1,Sa,h2,Ya,h3,Za,h4,Ab,rfl,hL,⟨q1,q2,q3,q4⟩,Vb,Ad⟩;go_simp;have Ua:=Cb.trans (aB Ad _);have Fb:=Rb.b Ad;have Gb:=Sb.b Ad;have Hb:=Hd (Tb.o.grow Ad);have Ib:=Hd (Ub.o.trans (aB Ad _));have Ce:=Hd (Ue.o.below Ad);have De:=Hd (Ve.o.below Ad);have Ee:=Hd (We.o.below Ad);have Fe:=Hd (Xe.o.below Ad);have Ge:=Ye.b Ad;have Yh:=Hd (q1.mono Cb.size);have Gh:=Hd hL;clear q1 q2 q3 q4 Vb hL;refine hK.out _ _ Ua (fun _=>?_);clear hK Kk Ad Rb Sb Tb Ub Ue Ve We Xe Ye;refine tk 4 (.tuple #[.agg (bi r1 r2 r3 r4 h1 L2 Sa h2 L2 Ya h3 L2 Za h4 L2 Ab).toArray,.bool o2]) ?_ ?_
    ·intro wq Na;go_simp
    refine tk 5 (.agg (bi r1 r2 r3 r4 h1 L2 Sa h2 L2 Ya h3 L2 Za h4 L2 Ab).toArray) ?_ ?_
    ·intro wq Na;go_simp
    refine tk 6 (.bool o2) ?_ ?_
    ·intro wq Na;go_simp
    refine aX 7 fun Kk hK=>?_;rw[if_pos (by kernel_rfl)];refine ce 35 rfl cK.toArray (by kernel_rfl) ?_;have Da:=fh Ea (.cells cK.toArray 35);have Ta:w2.grownBy (Ea.alloc (.cells cK.toArray 35)) (some R):=bq Ua _;have Nb:=Fb.b Da;have Ob:=Gb.b Da;have Pb:=Hd (Hb.o.grow Da);have Qb:=Hd (Ib.o.trans (aB Da _));have Ed:=Hd (Ce.o.below Da);have Fd:=Hd (De.o.below Da);have Gd:=Hd (Ee.o.below Da);have Id:=Hd (Fe.o.below Da);have Ah:=Ge.b Da;have Bh:=Hd (Yh.o.below Da);have Wa:=cC Ea cK 35;have Db:=Hd Ua.size;have Ch:=Hd (fun q hq=>Nat.ne_of_lt (Yh.o.hi q hq));refine hK.out _ _ Ta (fun _=>?_);clear hK Kk Da Fb Gb Hb Ib Ce De Ee Fe Ge Yh;generalize(Ea.alloc (.cells cK.toArray 35))=Ka at Wa Ta Nb Ob Pb Qb Ed Fd Gd Id Ah Bh ⊢;generalize Ea.heap.size=La at Wa Db Ch ⊢
    rotate_left
    rw[if_pos (by kernel_rfl)];refine ce 35 rfl cK.toArray (by kernel_rfl) ?_;have Da:=fh Pa (.cells cK.toArray 35);have Ua:w2.grownBy (Pa.alloc (.cells cK.toArray 35)) (some R):=bq Cb _;have Fb:=Rb.b Da;have Gb:=Sb.b Da;have Hb:=Hd (Tb.o.grow Da);have Ib:=Hd (Ub.o.trans (aB Da _));have Ce:=Hd (Ue.o.below Da);have De:=Hd (Ve.o.below Da);have Ee:=Hd (We.o.below Da);have Fe:=Hd (Xe.o.below Da);have Ge:=Ye.b Da;have Wb:=cC Pa cK 35;have Db:=Hd Cb.size;refine hK.out _ _ Ua (fun _=>?_);clear hK Kk Da Rb Sb Tb Ub Ue Ve We Xe Ye;generalize(Pa.alloc (.cells cK.toArray 35))=Ea at Wb Ua Fb Gb Hb Ib Ce De Ee Fe Ge ⊢;generalize Pa.heap.size=La at Wb Db ⊢;refine aX 3 fun Kk hK=>?_;go_simp;refine(CS.o (tx,ty) 4 _).mono ?_;rintro e Ka ⟨r1,r2,r3,r4,L2,o2,Zc,Vh,Wh,Xh,h1,Sa,h2,Ya,h3,Za,h4,Ab,rfl,hL,⟨q1,q2,q3,q4⟩,Vb,Va⟩;go_simp;have Ta:=Ua.trans (aB Va _);have Nb:=Fb.b Va;have Ob:=Gb.b Va;have Pb:=Hd (Hb.o.grow Va);have Qb:=Hd (Ib.o.trans (aB Va _));have Ed:=Hd (Ce.o.below Va);have Fd:=Hd (De.o.below Va);have Gd:=Hd (Ee.o.below Va);have Id:=Hd (Fe.o.below Va);have Ah:=Ge.b Va;have Wa:=Wb.b Va;have Bh:=Hd (q1.mono Ua.size);have Gh:=Hd hL;have Ch:=Hd (fun q hq=>Nat.ne_of_gt (uY Wb.o.2.2 (q1.lo q hq)));clear q1 q2 q3 q4 Vb hL;refine hK.out _ _ Ta (fun _=>?_);clear hK Kk Va Fb Gb Hb Ib Ce De Ee Fe Ge Wb;refine tk 4 (.tuple #[.agg (bi r1 r2 r3 r4 h1 L2 Sa h2 L2 Ya h3 L2 Za h4 L2 Ab).toArray,.bool o2]) ?_ ?_
    ·intro wq Na;go_simp
    refine tk 5 (.agg (bi r1 r2 r3 r4 h1 L2 Sa h2 L2 Ya h3 L2 Za h4 L2 Ab).toArray) ?_ ?_
    ·intro wq Na;go_simp
    refine tk 6 (.bool o2) ?_ ?_
    ·intro wq Na;go_simp
    rotate_left
    rw[if_pos (by kernel_rfl)];refine ce 35 rfl cK.toArray (by kernel_rfl) ?_;have Da:=fh Lb (.cells cK.toArray 35);have Cb:w2.grownBy (Lb.alloc (.cells cK.toArray 35)) (some R):=bq hHeld _;have Rb:=Xc.b Da;have Sb:=Jb.b Da;have Tb:=Hd (Kb.o.grow Da);have Ub:=Hd (Eb.o.trans (aB Da _));have Ue:=Hd (Sc.o.below Da);have Ve:=Hd (Tc.o.below Da);have We:=Hd (Uc.o.below Da);have Xe:=Hd (Vc.o.below Da);have Ye:=Hc.b Da;have Kd:=cC Lb cK 35;have Db:=Hd hHeld.size;refine hK.out _ _ Cb (fun _=>?_);clear hK Kk Da Xc Jb Kb Eb Sc Tc Uc Vc Hc;generalize(Lb.alloc (.cells cK.toArray 35))=Pa at Kd Cb Rb Sb Tb Ub Ue Ve We Xe Ye ⊢;generalize Lb.heap.size=La at Kd Db ⊢;refine aX 2 fun Kk hK=>?_;go_simp;refine(dN Lc.o _ Tb.o).mono ?_;rintro e Ea ⟨⟨tx,ty⟩,rfl,Ic,Oa⟩;go_simp;have Ua:=Cb.trans Oa;have Fb:=Hd (Rb.o.grown Oa Bd);have Gb:=Hd (Sb.o.grown Oa Nc);have Hb:=Hd Ic;have Ib:=Hd (Ub.o.trans Oa);have Ce:=Hd (Ue.o.grownR Oa Di);have De:=Hd (Ve.o.grownR Oa Ei);have Ee:=Hd (We.o.grownR Oa Fi);have Fe:=Hd (Xe.o.grownR Oa Gi);have Ge:=Hd (Ye.o.grown Oa kS);have Wb:=Hd (Kd.o.grown Oa (Hi.o _ Db.o).2.2.2.2.2.2);refine hK.out _ _ Ua (fun _=>?_);clear hK Kk Oa Ic Rb Sb Tb Ub Ue Ve We Xe Ye Kd;refine aX 3 fun Kk hK=>?_;go_simp;refine(CS.o (tx,ty) 4 _).mono ?_;rintro e Ka ⟨r1,r2,r3,r4,L2,o2,Zc,Vh,Wh,Xh,h1,Sa,h2,Ya,h3,Za,h4,Ab,rfl,hL,⟨q1,q2,q3,q4⟩,Vb,Va⟩;go_simp;have Ta:=Ua.trans (aB Va _);have Nb:=Fb.b Va;have Ob:=Gb.b Va;have Pb:=Hd (Hb.o.grow Va);have Qb:=Hd (Ib.o.trans (aB Va _));have Ed:=Hd (Ce.o.below Va);have Fd:=Hd (De.o.below Va);have Gd:=Hd (Ee.o.below Va);have Id:=Hd (Fe.o.below Va);have Ah:=Ge.b Va;have Wa:=Wb.b Va;have Bh:=Hd (q1.mono Ua.size);have Gh:=Hd hL;have Ch:=Hd (fun q hq=>Nat.ne_of_gt (uY Wb.o.2.2 (q1.lo q hq)));clear q1 q2 q3 q4 Vb hL;refine hK.out _ _ Ta (fun _=>?_);clear hK Kk Va Fb Gb Hb Ib Ce De Ee Fe Ge Wb;refine tk 4 (.tuple #[.agg (bi r1 r2 r3 r4 h1 L2 Sa h2 L2 Ya h3 L2 Za h4 L2 Ab).toArray,.bool o2]) ?_ ?_
    ·intro wq Na;go_simp
    refine tk 5 (.agg (bi r1 r2 r3 r4 h1 L2 Sa h2 L2 Ya h3 L2 Za h4 L2 Ab).toArray) ?_ ?_
    ·intro wq Na;go_simp
    refine tk 6 (.bool o2) ?_ ?_
    ·intro wq Na;go_simp
    rotate_left
    all_goals
     refine aX 8 fun Kk hK=>?_;rw[if_pos (by kernel_rfl)];with_reducible refine wp_store_mid 35 (.tmp 7) (.tmp 67) ?_ La 0 (bi r1 r2 r3 r4 h1 L2 Sa h2 L2 Ya h3 L2 Za h4 L2 Ab).toArray ?_ ?_ ?_ (by kernel_rfl) (by kernel_rfl) ?_
     ·exact rfl
     ·exact rfl
     ·exact rfl
     ·exact Wa.o.there 0 8 (by simp)
     have Wc:=Db.o;obtain⟨lM,lZ,lP,lW,lR,lw,lS⟩:=Hi.o _ Wc;have Pc:w2.grownBy (Ka.setCells La 0 (bi r1 r2 r3 r4 h1 L2 Sa h2 L2 Ya h3 L2 Za h4 L2 Ab)) (some R):=dH Ta Wc 0 _;have Zh:H9 (au (Ka.setCells La 0 (bi r1 r2 r3 r4 h1 L2 Sa h2 L2 Ya h3 L2 Za h4 L2 Ab)) La (bi r1 r2 r3 r4 h1 L2 Sa h2 L2 Ya h3 L2 Za h4 L2 Ab)):=Wa.o.setCells (bi r1 r2 r3 r4 h1 L2 Sa h2 L2 Ya h3 L2 Za h4 L2 Ab) 0 (by simp);have Df:H9 (au (Ka.setCells La 0 (bi r1 r2 r3 r4 h1 L2 Sa h2 L2 Ya h3 L2 Za h4 L2 Ab)) w.heap.size (cr a b c d f k a' b' c' d' f' k')):=au.farCells _ 0 Nb.o lM;have Zb:H9 (au (Ka.setCells La 0 (bi r1 r2 r3 r4 h1 L2 Sa h2 L2 Ya h3 L2 Za h4 L2 Ab)) (w.heap.size+1) cK):=au.farCells _ 0 Ob.o lZ;have Xb:H9 (au (Ka.setCells La 0 (bi r1 r2 r3 r4 h1 L2 Sa h2 L2 Ya h3 L2 Za h4 L2 Ab)) pb (bi p1 p2 p3 p4 g1 L Ca g2 L Fa g3 L Ga g4 L Ba)):=au.farCells _ 0 Ah.o lP;have Ac:H9 (Rd w0 R ca len cap (Ka.setCells La 0 (bi r1 r2 r3 r4 h1 L2 Sa h2 L2 Ya h3 L2 Za h4 L2 Ab))):=Pb.o.cells lW lR _;have Yb:H9 (w.grownBy (Ka.setCells La 0 (bi r1 r2 r3 r4 h1 L2 Sa h2 L2 Ya h3 L2 Za h4 L2 Ab)) (some R)):=dH Qb.o lw 0 _;have Bc:H9 (aD 2 (Ka.setCells La 0 (bi r1 r2 r3 r4 h1 L2 Sa h2 L2 Ya h3 L2 Za h4 L2 Ab)) wq.heap.size g1 L Ca z1):=Ed.o.grownR (a8 (World.grownBy.refl _ _) 0 _) (fun q hq e=>Nat.lt_irrefl _ (uY (Wi q hq) (m9 Wc (Nat.le_of_eq (m2 e)))));have Cc:H9 (aD 2 (Ka.setCells La 0 (bi r1 r2 r3 r4 h1 L2 Sa h2 L2 Ya h3 L2 Za h4 L2 Ab)) wq.heap.size g2 L Fa z2):=Fd.o.grownR (a8 (World.grownBy.refl _ _) 0 _) (fun q hq e=>Nat.lt_irrefl _ (uY (Xi q hq) (m9 Wc (Nat.le_of_eq (m2 e)))));have Dc:H9 (aD 2 (Ka.setCells La 0 (bi r1 r2 r3 r4 h1 L2 Sa h2 L2 Ya h3 L2 Za h4 L2 Ab)) wq.heap.size g3 L Ga z3):=Gd.o.grownR (a8 (World.grownBy.refl _ _) 0 _) (fun q hq e=>Nat.lt_irrefl _ (uY (Yi q hq) (m9 Wc (Nat.le_of_eq (m2 e)))));have Ec:H9 (aD 2 (Ka.setCells La 0 (bi r1 r2 r3 r4 h1 L2 Sa h2 L2 Ya h3 L2 Za h4 L2 Ab)) wq.heap.size g4 L Ba z4):=Id.o.grownR (a8 (World.grownBy.refl _ _) 0 _) (fun q hq e=>Nat.lt_irrefl _ (uY (Zi q hq) (m9 Wc (Nat.le_of_eq (m2 e)))));have Ai:H9 (aD 2 (Ka.setCells La 0 (bi r1 r2 r3 r4 h1 L2 Sa h2 L2 Ya h3 L2 Za h4 L2 Ab)) w2.heap.size h1 L2 Sa Zc):=Bh.o.grownR (a8 (World.grownBy.refl _ _) 0 _) (fun q hq e=>Ch.o q hq (m2 e).symm);refine hK.out _ _ Pc (fun hSzz=>?_);clear hK Kk hSzz;generalize(Ka.setCells La 0 (bi r1 r2 r3 r4 h1 L2 Sa h2 L2 Ya h3 L2 Za h4 L2 Ab))=wx at Pc Zh Df Zb Xb Ac Yb Bc Cc Dc Ec Ai ⊢;refine tk 9 (.bool o2) ?_ ?_
     ·intro wq Na;go_simp
     refine bg ?_;go_simp;clear Pc lM lZ lP lW lR lw lS;have Ie:H9 _:=Df.o;have Ld:H9 _:=Zb.o;have Cd:H9 _:=Xb.o;have Nd:H9 _:=Ac.o;have Od:H9 _:=Yb.o;have Je:H9 _:=Bc.o;have Pd:H9 _:=Cc.o;have Qd:H9 _:=Dc.o;have Sd:H9 _:=Ec.o;have Hh:H9 _:=Ai.o;have Ih:H9 _:=Gh.o;have Dh:H9 _:=Zh.o;have Jh:H9 _:=Wc;clear Wc;clear Zh Df Zb Xb Ac Yb Bc Cc Dc Ec Ai Qb Wa Nb Ah Ob Gh Ch Ed Fd Gd Id Db Bh Pb;generalize La=qb at Jh Dh ⊢;revert Jh Dh Ih Hh Sd Qd Pd Je Od Nd Cd Ld Ie;revert wx;revert qb;revert Ab;revert h4;revert Za;revert h3;revert Ya;revert h2;revert Sa;revert h1;clear Vh Wh Xh;revert Zc;revert o2;revert L2;revert r4;revert r3;revert r2;revert r1;revert ty;revert tx;exact key
   case h=>
    intro tx ty r1 r2 r3 r4 L2 o2 Zc h1 Sa h2 Ya h3 Za h4 Ab qb wx Ie Ld Cd Nd Od Je Pd Qd Sd Hh Ih Jh Dh;clear Ke Ja Qc Rc Fc Jc Kc Gc Ia;have Aa:H9 (au wx (w.heap.size+1) cK):=Ld.o;have Ha:H9 (au wx pb (bi p1 p2 p3 p4 g1 L Ca g2 L Fa g3 L Ga g4 L Ba)):=Cd.o;have Xd:=Hd Nd.o;have Yd:=Hd Od.o;have Zd:H9 (aD 2 wx wq.heap.size g2 L Fa z2):=Pd.o;have Ae:H9 (aD 2 wx wq.heap.size g3 L Ga z3):=Qd.o;have Be:H9 (aD 2 wx wq.heap.size g4 L Ba z4):=Sd.o;have Ii:H9 (aD 2 wx w2.heap.size h1 L2 Sa Zc):=Hh.o;have Aj:H9 (au wx qb (bi r1 r2 r3 r4 h1 L2 Sa h2 L2 Ya h3 L2 Za h4 L2 Ab)):=Dh.o;have Jj:=Ih.o;have LH:=Ii.o.lo;have Kj:=Vi;have Bj:∀q,h1=some q→q.block≠w.heap.size+1:=fun q hq=>by have:=LH q hq;omega
    have Cj:∀q,h1=some q→q.block≠pb:=fun q hq=>by have:=LH q hq;omega
    have Dj:∀q,h1=some q→w.heap.size≤q.block:=fun q hq=>by have:=LH q hq;omega
    clear Ie Ld Cd Nd Od Je Pd Qd Sd Hh Ih Dh Jh;have c0:=Ha.c 0;have c1:=Ha.c 1;have c2:=Ha.c 2;have c3:=Ha.c 3;have c4:=Ha.c 4;have c5:=Ha.c 5;have c6:=Ha.c 6;have c7:=Ha.c 7;have y0:=Aa.c 0;have y1:=Aa.c 1;have y2:=Aa.c 2;have y3:=Aa.c 3;have y4:=Aa.c 4;have y5:=Aa.c 5;have y6:=Aa.c 6;have y7:=Aa.c 7;have f0:=Aa.o.fr 0;have f1:=Aa.o.fr 1;have f2:=Aa.o.fr 2;have f3:=Aa.o.fr 3;have f4:=Aa.o.fr 4;have f5:=Aa.o.fr 5;have f6:=Aa.o.fr 6;have f7:=Aa.o.fr 7;have r0:=Ha.o.fr 0;have r1:=Ha.o.fr 1;have r2:=Ha.o.fr 2;have r3:=Ha.o.fr 3;have r4:=Ha.o.fr 4;have r5:=Ha.o.fr 5;have r6:=Ha.o.fr 6;have r7:=Ha.o.fr 7;have q4:=Aj.c 4;go_wp2;refine m8 (v:=.agg (bi p1 p2 p3 p4 h1 L2 Sa g2 L Fa g3 L Ga g4 L Ba).toArray) (by simp[results,results40,go_sem,y0,y1,y2,y3,y4,y5,y6,y7]) rfl ⟨_,_,_,_,_,_,_,Zc,_,_,_,z2,_,_,_,z3,_,_,_,z4,⟨rfl,?_,?_,?_,?_,⟨by omega,by omega,by omega,by omega⟩,⟨Dj,Oe,Qe,Se⟩,?_,?_⟩⟩
    ·
     repeat refine aw.setS ?_ Bj
     exact aw.setS (Ii.o.sees) Cj
    ·
     repeat refine aw.setS ?_ Le
     exact aw.setS (Zd.o.sees) Hf
    ·
     repeat refine aw.setS ?_ Pe
     exact aw.setS (Ae.o.sees) If
    ·
     repeat refine aw.setS ?_ Re
     exact aw.setS (Be.o.sees) Te
    ·
     repeat refine Rd.setS ?_ (by omega) (by omega)
     exact Xd.o
    ·
     repeat refine cf ?_ (by omega)
     exact Yd.o
  by_cases h9:v2=9
  ·
   subst h9;have d2:=Ia.c 2;have d3:=Ia.c 3;have Da:=fh w2 (.cells #[it p3,it p4] 33);have Aa:=Ja.b Da;have Xd:=Hd (Qc.o.grow Da);have Yd:=Hd (Rc.o.trans (aB Da _));have Pf:=Hd (Fc.o.below Da);have Zd:=Hd (Jc.o.below Da);have Ae:=Hd (Kc.o.below Da);have Be:=Hd (Gc.o.below Da);have Ha:=Ia.b Da;clear Ke Ja Qc Rc Fc Jc Kc Gc Ia;clear Da;have Ji:=cC w2 [it p3,it p4] 33;have c0:=Ha.c 0;have c1:=Ha.c 1;have c2:=Ha.c 2;have c3:=Ha.c 3;have c4:=Ha.c 4;have c5:=Ha.c 5;have c6:=Ha.c 6;have c7:=Ha.c 7;have y0:=Aa.c 0;have y1:=Aa.c 1;have y2:=Aa.c 2;have y3:=Aa.c 3;have y4:=Aa.c 4;have y5:=Aa.c 5;have y6:=Aa.c 6;have y7:=Aa.c 7;have f0:=Aa.o.fr 0;have f1:=Aa.o.fr 1;have f2:=Aa.o.fr 2;have f3:=Aa.o.fr 3;have f4:=Aa.o.fr 4;have f5:=Aa.o.fr 5;have f6:=Aa.o.fr 6;have f7:=Aa.o.fr 7;have r0:=Ha.o.fr 0;have r1:=Ha.o.fr 1;have r2:=Ha.o.fr 2;have r3:=Ha.o.fr 3;have r4:=Ha.o.fr 4;have r5:=Ha.o.fr 5;have r6:=Ha.o.fr 6;have r7:=Ha.o.fr 7;have n0:=Ji.c 0;have n1:=Ji.c 1;go_wp2;refine m8 (v:=.agg (bi p3 p4 p1 p2 g1 L Ca g2 L Fa g3 L Ga g4 L Ba).toArray) (by simp[results,results40,go_sem,y0,y1,y2,y3,y4,y5,y6,y7]) rfl ⟨_,_,_,_,_,_,_,z1,_,_,_,z2,_,_,_,z3,_,_,_,z4,⟨rfl,?_,?_,?_,?_,⟨by omega,by omega,by omega,by omega⟩,⟨Ff,Oe,Qe,Se⟩,?_,?_⟩⟩
   ·
    repeat refine aw.setS ?_ Ef
    exact aw.setS ((aw.setS ((aw.setS ((aw.setS (Pf.o.sees) Gf)) Gf)) Gf)) Gf
   ·
    repeat refine aw.setS ?_ Le
    exact aw.setS ((aw.setS ((aw.setS ((aw.setS (Zd.o.sees) Hf)) Hf)) Hf)) Hf
   ·
    repeat refine aw.setS ?_ Pe
    exact aw.setS ((aw.setS ((aw.setS ((aw.setS (Ae.o.sees) If)) If)) If)) If
   ·
    repeat refine aw.setS ?_ Re
    exact aw.setS ((aw.setS ((aw.setS ((aw.setS (Be.o.sees) Te)) Te)) Te)) Te
   ·
    repeat refine Rd.setS ?_ (by omega) (by omega)
    exact Xd.o
   ·
    repeat refine cf ?_ (by omega)
    exact Yd.o
  have e5:(v2==5)=false:=(by simp[h5]);have e6:(v2==6)=false:=(by simp[h6]);have e7:(v2==7)=false:=(by simp[h7]);have e8:(v2==8)=false:=(by simp[h8]);have e9:(v2==9)=false:=(by simp[h9]);clear h5 h6 h7 h8 h9;have c0:=Ia.c 0;have c1:=Ia.c 1;have c2:=Ia.c 2;have c3:=Ia.c 3;have c4:=Ia.c 4;have c5:=Ia.c 5;have c6:=Ia.c 6;have c7:=Ia.c 7;have y0:=Ja.c 0;have y1:=Ja.c 1;have y2:=Ja.c 2;have y3:=Ja.c 3;have y4:=Ja.c 4;have y5:=Ja.c 5;have y6:=Ja.c 6;have y7:=Ja.c 7;have f0:=Ja.o.fr 0;have f1:=Ja.o.fr 1;have f2:=Ja.o.fr 2;have f3:=Ja.o.fr 3;have f4:=Ja.o.fr 4;have f5:=Ja.o.fr 5;have f6:=Ja.o.fr 6;have f7:=Ja.o.fr 7;have r0:=Ia.o.fr 0;have r1:=Ia.o.fr 1;have r2:=Ia.o.fr 2;have r3:=Ia.o.fr 3;have r4:=Ia.o.fr 4;have r5:=Ia.o.fr 5;have r6:=Ia.o.fr 6;have r7:=Ia.o.fr 7;go_wp2;refine m8 (v:=.agg (bi p1 p2 p3 p4 g1 L Ca g2 L Fa g3 L Ga g4 L Ba).toArray) (by simp[results,results40,go_sem,y0,y1,y2,y3,y4,y5,y6,y7]) rfl ⟨_,_,_,_,_,_,_,z1,_,_,_,z2,_,_,_,z3,_,_,_,z4,⟨rfl,?_,?_,?_,?_,⟨by omega,by omega,by omega,by omega⟩,⟨Ff,Oe,Qe,Se⟩,?_,?_⟩⟩
  ·
   repeat refine aw.setS ?_ Ef
   exact Fc.o.sees
  ·
   repeat refine aw.setS ?_ Le
   exact Jc.o.sees
  ·
   repeat refine aw.setS ?_ Pe
   exact Kc.o.sees
  ·
   repeat refine aw.setS ?_ Re
   exact Gc.o.sees
  ·
   repeat refine Rd.setS ?_ (by omega) (by omega)
   exact Qc.o
  ·
   repeat refine cf ?_ (by omega)
   exact Rc.o
end Go.Proofs.YtobnifjhikoleaaGreatDoor
