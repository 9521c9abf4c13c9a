import Derived.Test.YtjcjonncaknhnaaGreatDoorPk08
namespace Go.Proofs.YtjcjonncaknhnaaGreatDoor
open Go.RowKit Go.Proofs.Tryz
set_option linter.unusedSimpArgs false
set_option maxHeartbeats 32000000
set_option maxRecDepth 10000
variable {a1 a2 a3 a4:Option Addr}{n1 n2 n3 n4 c1 c2 c3 c4:Nat}
theorem mP(jid a b c' d f k a' b' c'' d' f' k' s1 s2 jr:Int)(jg:Bool)(ta:Option Addr)(tn tc:Nat)(p':Int)(h0:0≤p')(h1:p'≤8)(r0:0≤jr)(r1:jr≤16)(w:World):
  Rt 60 #[.agg #[.int .i64 jid,.int .i64 a,.int .i64 b,.int .i64 c',.int .i64 d,.int .i64 f,.int .i64 k,.int .i64 a',.int .i64 b',.int .i64 c'',.int .i64 d',.int .i64 f',.int .i64 k',.int .i64 s1,.int .i64 s2,.int .i64 jr,.bool jg,.slice ta tn tc],.int .i64 p'] w (cC (ep ⟨⟨a,b,c',d,f,k⟩,⟨a',b',c'',d',f',k'⟩⟩ (s1,s2) (p'*(jr-1)))):=by
 have C1:=kx ⟨⟨a,b,c',d,f,k⟩,⟨a',b',c'',d',f',k'⟩⟩ (s1,s2) (p'*(jr-1))
 have Ia:-8≤p'*(jr-1):=by
  have e1:0≤p'*jr:=Int.mul_nonneg h0 r0;have e2:p'*(jr-1)=p'*jr-p':=(by rw[Int.mul_sub,Int.mul_one]);omega
 have Ja:p'*(jr-1)≤128:=by
  have e1:p'*jr≤8*16:=Int.mul_le_mul h1 r1 r0 (by omega);have e2:p'*(jr-1)=p'*jr-p':=(by rw[Int.mul_sub,Int.mul_one]);omega
 have Ya:IntKind.i64.wrap (jr-1)=jr-1:=(by rw[tW];omega);have Ka:IntKind.i64.wrap (p'*(jr-1))=p'*(jr-1):=(by rw[tW];omega);generalize ep ⟨⟨a,b,c',d,f,k⟩,⟨a',b',c'',d',f',k'⟩⟩ (s1,s2) (p'*(jr-1))=rs at *;generalize bB ⟨⟨a,b,c',d,f,k⟩,⟨a',b',c'',d',f',k'⟩⟩ (s1,s2) (p'*(jr-1))=ro at C1;dsimp only[cQ,cC]at C1 ⊢;generalize La:p'*(jr-1)=pm at C1 Ka Ia Ja;go_enter func60,ntmps60;have Aa:H9 (ae ((w.alloc (.cells (br jid a b c' d f k a' b' c'' d' f' k' s1 s2 jr jg ta tn tc).toArray 45)).alloc (.cells #[it 0,it 0] 33)) w.heap.size (br jid a b c' d f k a' b' c'' d' f' k' s1 s2 jr jg ta tn tc)):=(aI _ _ _).alloc _;have Fa:H9 (ae ((w.alloc (.cells (br jid a b c' d f k a' b' c'' d' f' k' s1 s2 jr jg ta tn tc).toArray 45)).alloc (.cells #[it 0,it 0] 33)) (w.heap.size+1) [it 0,it 0]):=aO _ _ _ _;have Ca:H9 (Below w.heap.size w ((w.alloc (.cells (br jid a b c' d f k a' b' c'' d' f' k' s1 s2 jr jg ta tn tc).toArray 45)).alloc (.cells #[it 0,it 0] 33))):=((tv _ _).alloc (tr _) _).alloc (by simp) _;have y0:((w.alloc (.cells (br jid a b c' d f k a' b' c'' d' f' k' s1 s2 jr jg ta tn tc).toArray 45)).alloc (.cells #[it 0,it 0] 33)).cell? ⟨w.heap.size,0,none⟩=some (it jid):=Aa.o.at 0;have y1:((w.alloc (.cells (br jid a b c' d f k a' b' c'' d' f' k' s1 s2 jr jg ta tn tc).toArray 45)).alloc (.cells #[it 0,it 0] 33)).cell? ⟨w.heap.size,1,none⟩=some (it a):=Aa.o.at 1;have y2:((w.alloc (.cells (br jid a b c' d f k a' b' c'' d' f' k' s1 s2 jr jg ta tn tc).toArray 45)).alloc (.cells #[it 0,it 0] 33)).cell? ⟨w.heap.size,2,none⟩=some (it b):=Aa.o.at 2;have y3:((w.alloc (.cells (br jid a b c' d f k a' b' c'' d' f' k' s1 s2 jr jg ta tn tc).toArray 45)).alloc (.cells #[it 0,it 0] 33)).cell? ⟨w.heap.size,3,none⟩=some (it c'):=Aa.o.at 3;have y4:((w.alloc (.cells (br jid a b c' d f k a' b' c'' d' f' k' s1 s2 jr jg ta tn tc).toArray 45)).alloc (.cells #[it 0,it 0] 33)).cell? ⟨w.heap.size,4,none⟩=some (it d):=Aa.o.at 4;have y5:((w.alloc (.cells (br jid a b c' d f k a' b' c'' d' f' k' s1 s2 jr jg ta tn tc).toArray 45)).alloc (.cells #[it 0,it 0] 33)).cell? ⟨w.heap.size,5,none⟩=some (it f):=Aa.o.at 5;have y6:((w.alloc (.cells (br jid a b c' d f k a' b' c'' d' f' k' s1 s2 jr jg ta tn tc).toArray 45)).alloc (.cells #[it 0,it 0] 33)).cell? ⟨w.heap.size,6,none⟩=some (it k):=Aa.o.at 6;have y7:((w.alloc (.cells (br jid a b c' d f k a' b' c'' d' f' k' s1 s2 jr jg ta tn tc).toArray 45)).alloc (.cells #[it 0,it 0] 33)).cell? ⟨w.heap.size,7,none⟩=some (it a'):=Aa.o.at 7;have y8:((w.alloc (.cells (br jid a b c' d f k a' b' c'' d' f' k' s1 s2 jr jg ta tn tc).toArray 45)).alloc (.cells #[it 0,it 0] 33)).cell? ⟨w.heap.size,8,none⟩=some (it b'):=Aa.o.at 8;have y9:((w.alloc (.cells (br jid a b c' d f k a' b' c'' d' f' k' s1 s2 jr jg ta tn tc).toArray 45)).alloc (.cells #[it 0,it 0] 33)).cell? ⟨w.heap.size,9,none⟩=some (it c''):=Aa.o.at 9;have Na:((w.alloc (.cells (br jid a b c' d f k a' b' c'' d' f' k' s1 s2 jr jg ta tn tc).toArray 45)).alloc (.cells #[it 0,it 0] 33)).cell? ⟨w.heap.size,10,none⟩=some (it d'):=Aa.o.at 10;have Oa:((w.alloc (.cells (br jid a b c' d f k a' b' c'' d' f' k' s1 s2 jr jg ta tn tc).toArray 45)).alloc (.cells #[it 0,it 0] 33)).cell? ⟨w.heap.size,11,none⟩=some (it f'):=Aa.o.at 11;have Pa:((w.alloc (.cells (br jid a b c' d f k a' b' c'' d' f' k' s1 s2 jr jg ta tn tc).toArray 45)).alloc (.cells #[it 0,it 0] 33)).cell? ⟨w.heap.size,12,none⟩=some (it k'):=Aa.o.at 12;have Qa:((w.alloc (.cells (br jid a b c' d f k a' b' c'' d' f' k' s1 s2 jr jg ta tn tc).toArray 45)).alloc (.cells #[it 0,it 0] 33)).cell? ⟨w.heap.size,13,none⟩=some (it s1):=Aa.o.at 13;have Ra:((w.alloc (.cells (br jid a b c' d f k a' b' c'' d' f' k' s1 s2 jr jg ta tn tc).toArray 45)).alloc (.cells #[it 0,it 0] 33)).cell? ⟨w.heap.size,14,none⟩=some (it s2):=Aa.o.at 14;have Sa:((w.alloc (.cells (br jid a b c' d f k a' b' c'' d' f' k' s1 s2 jr jg ta tn tc).toArray 45)).alloc (.cells #[it 0,it 0] 33)).cell? ⟨w.heap.size,15,none⟩=some (it jr):=Aa.o.at 15;have Ta:((w.alloc (.cells (br jid a b c' d f k a' b' c'' d' f' k' s1 s2 jr jg ta tn tc).toArray 45)).alloc (.cells #[it 0,it 0] 33)).cell? ⟨w.heap.size,16,none⟩=some (.bool jg):=Aa.o.at 16;have Ua:((w.alloc (.cells (br jid a b c' d f k a' b' c'' d' f' k' s1 s2 jr jg ta tn tc).toArray 45)).alloc (.cells #[it 0,it 0] 33)).cell? ⟨w.heap.size,17,none⟩=some (.slice ta tn tc):=Aa.o.at 17;(go_wp2_with fail);clear y0 y1 y2 y3 y4 y5 y6 y7 y8 y9 Na Oa Pa Qa Ra Sa Ta Ua La;generalize((w.alloc (.cells (br jid a b c' d f k a' b' c'' d' f' k' s1 s2 jr jg ta tn tc).toArray 45)).alloc (.cells #[it 0,it 0] 33))=wa at *;clear Aa;refine(C1 _).mono ?_;rintro e wb ⟨rfl,hb⟩;have Ga:=Hd (Fa.o.belowS hb);have Da:=Hd (Ca.o.trans (hb.mono Ca.o.size));clear Fa Ca;clear hb;obtain⟨u,v⟩:=rs;dsimp only;have Ea:=il wb (.cells #[it u,it v] 33);have Ba:=Hd (Ga.o.belowS Ea);have Va:=Hd (Da.o.trans (Ea.mono Da.o.size));clear Ga Da;clear Ea;have Ha:=cz wb [it u,it v] 33;have z0:(wb.alloc (.cells #[it u,it v] 33)).cell? ⟨w.heap.size+1,0,none⟩=some (it 0):=Ba.o.at 0;have Za:(wb.alloc (.cells #[it u,it v] 33)).frozen? ⟨w.heap.size+1,0,none⟩=false:=Ba.o.fr 0;have z1:(wb.alloc (.cells #[it u,it v] 33)).cell? ⟨w.heap.size+1,1,none⟩=some (it 0):=Ba.o.at 1;have Ab:(wb.alloc (.cells #[it u,it v] 33)).frozen? ⟨w.heap.size+1,1,none⟩=false:=Ba.o.fr 1;have Bb:(wb.alloc (.cells #[it u,it v] 33)).cell? ⟨wb.heap.size,0,none⟩=some (it u):=Ha.o.at 0;have Cb:(wb.alloc (.cells #[it u,it v] 33)).cell? ⟨wb.heap.size,1,none⟩=some (it v):=Ha.o.at 1;(go_wp2_with fail);show bodyPost _ _ _ _ _ ((wb.alloc (.cells #[it u,it v] 33)).setCells (w.heap.size+1) 0 [it u,it v]);have Wa:ae ((wb.alloc (.cells #[it u,it v] 33)).setCells (w.heap.size+1) 0 [it u,it v]) (w.heap.size+1) [it u,it v]:=Ba.o.setCells [it u,it v] 0 (by simp);have Xa:Below w.heap.size w ((wb.alloc (.cells #[it u,it v] 33)).setCells (w.heap.size+1) 0 [it u,it v]):=Va.o.trans (aD _ 0 (tv _ _) (by omega));generalize((wb.alloc (.cells #[it u,it v] 33)).setCells (w.heap.size+1) 0 [it u,it v])=wf at *;exact tx (bX rfl rfl (tS wf (w.heap.size+1) 0 33 _ _ Wa.row underlying33 rfl (by kernel_rfl))) rfl ⟨rfl,Xa⟩
def bA(s1 s2 e1 e2:Int)(n1 n2 n3 n4:Nat):Bool:=(decide (s1=0)&&decide (s2=0))&&((decide (e1=0)&&decide (e2=0))&&decide (n1+n2+n3+n4=0))
theorem oZ(s1 s2 e1 e2:Int)(l1:n1≤1048576)(l2:n2≤1048576)(l3:n3≤1048576)(l4:n4≤1048576)(w:World):
  Rt 102 #[.agg #[.int .i64 s1,.int .i64 s2,.int .i64 e1,.int .i64 e2,.slice a1 n1 c1,.slice a2 n2 c2,.slice a3 n3 c3,.slice a4 n4 c4]] w (.bool (bA s1 s2 e1 e2 n1 n2 n3 n4)):=by
 go_enter func102,ntmps102;have Aa:=cz w (bh s1 s2 e1 e2 a1 n1 c1 a2 n2 c2 a3 n3 c3 a4 n4 c4) 35;have y0:(w.alloc (.cells (bh s1 s2 e1 e2 a1 n1 c1 a2 n2 c2 a3 n3 c3 a4 n4 c4).toArray 35)).cell? ⟨w.heap.size,0,none⟩=some (it s1):=Aa.o.at 0;have y1:(w.alloc (.cells (bh s1 s2 e1 e2 a1 n1 c1 a2 n2 c2 a3 n3 c3 a4 n4 c4).toArray 35)).cell? ⟨w.heap.size,1,none⟩=some (it s2):=Aa.o.at 1;have y2:(w.alloc (.cells (bh s1 s2 e1 e2 a1 n1 c1 a2 n2 c2 a3 n3 c3 a4 n4 c4).toArray 35)).cell? ⟨w.heap.size,2,none⟩=some (it e1):=Aa.o.at 2;have y3:(w.alloc (.cells (bh s1 s2 e1 e2 a1 n1 c1 a2 n2 c2 a3 n3 c3 a4 n4 c4).toArray 35)).cell? ⟨w.heap.size,3,none⟩=some (it e2):=Aa.o.at 3;have y4:(w.alloc (.cells (bh s1 s2 e1 e2 a1 n1 c1 a2 n2 c2 a3 n3 c3 a4 n4 c4).toArray 35)).cell? ⟨w.heap.size,4,none⟩=some (.slice a1 n1 c1):=Aa.o.at 4;have y5:(w.alloc (.cells (bh s1 s2 e1 e2 a1 n1 c1 a2 n2 c2 a3 n3 c3 a4 n4 c4).toArray 35)).cell? ⟨w.heap.size,5,none⟩=some (.slice a2 n2 c2):=Aa.o.at 5;have y6:(w.alloc (.cells (bh s1 s2 e1 e2 a1 n1 c1 a2 n2 c2 a3 n3 c3 a4 n4 c4).toArray 35)).cell? ⟨w.heap.size,6,none⟩=some (.slice a3 n3 c3):=Aa.o.at 6;have y7:(w.alloc (.cells (bh s1 s2 e1 e2 a1 n1 c1 a2 n2 c2 a3 n3 c3 a4 n4 c4).toArray 35)).cell? ⟨w.heap.size,7,none⟩=some (.slice a4 n4 c4):=Aa.o.at 7;have w1:IntKind.i64.wrap ((n1:Int)+n2)=(n1:Int)+n2:=(by rw[tW];omega);have w2:IntKind.i64.wrap ((n1:Int)+n2+n3)=(n1:Int)+n2+n3:=(by rw[tW];omega);have w3:IntKind.i64.wrap ((n1:Int)+n2+n3+n4)=(n1:Int)+n2+n3+n4:=by rw[tW];omega
 have Ca:((n1:Int)+n2+n3+n4==0)=decide (n1+n2+n3+n4=0):=by
  by_cases h:n1+n2+n3+n4=0
  ·rw[decide_eq_true h];simp;omega
  ·rw[decide_eq_false h];simp;omega
 by_cases Da:s1=0
 case neg=>
  have Ba:H9 (Below w.heap.size w ((w.alloc (.cells (bh s1 s2 e1 e2 a1 n1 c1 a2 n2 c2 a3 n3 c3 a4 n4 c4).toArray 35)).alloc (.cells #[it 0,it 0] 33))):=((tv _ _).alloc (tr _) _).alloc (by simp) _;have hF:bA s1 s2 e1 e2 n1 n2 n3 n4=false:=(by simp[bA,Da]);clear Aa;rw[hF];go_wp2;go_ret;exact⟨rfl,Ba.o⟩
 subst Da;by_cases Ea:s2=0
 case neg=>
  have Ba:H9 (Below w.heap.size w ((w.alloc (.cells #[it 0,it s2,it e1,it e2,.slice a1 n1 c1,.slice a2 n2 c2,.slice a3 n3 c3,.slice a4 n4 c4] 35)).alloc (.cells #[it 0,it 0] 33))):=((tv _ _).alloc (tr _) _).alloc (by simp) _;have hF:bA 0 s2 e1 e2 n1 n2 n3 n4=false:=(by simp[bA,Ea]);clear Aa;rw[hF];go_wp2;go_ret;exact⟨rfl,Ba.o⟩
 subst Ea;by_cases Fa:e1=0
 case neg=>
  have Ba:H9 (Below w.heap.size w ((w.alloc (.cells #[it 0,it 0,it e1,it e2,.slice a1 n1 c1,.slice a2 n2 c2,.slice a3 n3 c3,.slice a4 n4 c4] 35)).alloc (.cells #[it 0,it 0] 33))):=((tv _ _).alloc (tr _) _).alloc (by simp) _;have hF:bA 0 0 e1 e2 n1 n2 n3 n4=false:=(by simp[bA,Fa]);clear Aa;rw[hF];go_wp2;go_ret;exact⟨rfl,Ba.o⟩
 subst Fa;by_cases Ga:e2=0
 case neg=>
  have Ba:H9 (Below w.heap.size w ((w.alloc (.cells #[it 0,it 0,it 0,it e2,.slice a1 n1 c1,.slice a2 n2 c2,.slice a3 n3 c3,.slice a4 n4 c4] 35)).alloc (.cells #[it 0,it 0] 33))):=((tv _ _).alloc (tr _) _).alloc (by simp) _;have hF:bA 0 0 0 e2 n1 n2 n3 n4=false:=(by simp[bA,Ga]);clear Aa;rw[hF];go_wp2;go_ret;exact⟨rfl,Ba.o⟩
 subst Ga;have Ba:H9 (Below w.heap.size w ((w.alloc (.cells #[it 0,it 0,it 0,it 0,.slice a1 n1 c1,.slice a2 n2 c2,.slice a3 n3 c3,.slice a4 n4 c4] 35)).alloc (.cells #[it 0,it 0] 33))):=((tv _ _).alloc (tr _) _).alloc (by simp) _;have hF:bA 0 0 0 0 n1 n2 n3 n4=((n1:Int)+n2+n3+n4==0):=(by rw[Ca];simp[bA]);clear Ca;clear Aa;rw[hF];go_wp2;go_ret;exact⟨rfl,Ba.o⟩
def bI(a b c' d f k a' b' c'' d' f' k':Int):Bool:=decide (a=0)&&(decide (b=0)&&(decide (c'=0)&&(decide (d=0)&&(decide (f=0)&&(decide (k=0)&&(decide (a'=0)&&(decide (b'=0)&&(decide (c''=0)&&(decide (d'=0)&&(decide (f'=0)&&(decide (k'=0))))))))))))
theorem sN{β:Type}(X:Bool→β)(a b c' d f k a' b' c'' d' f' k':Int):(if a=0 then(if b=0 then(if c'=0 then(if d=0 then(if f=0 then(if k=0 then(if a'=0 then(if b'=0 then(if c''=0 then(if d'=0 then(if f'=0 then(if k'=0 then X true else X false)else X false)else X false)else X false)else X false)else X false)else X false)else X false)else X false)else X false)else X false)else X false)=X (bI a b c' d f k a' b' c'' d' f' k'):=by
 unfold bI;by_cases h:a=0
 case neg=>rw[if_neg h,decide_eq_false h];rfl
 rw[if_pos h,decide_eq_true h,Bool.true_and];by_cases h:b=0
 case neg=>rw[if_neg h,decide_eq_false h];rfl
 rw[if_pos h,decide_eq_true h,Bool.true_and];by_cases h:c'=0
 case neg=>rw[if_neg h,decide_eq_false h];rfl
 rw[if_pos h,decide_eq_true h,Bool.true_and];by_cases h:d=0
 case neg=>rw[if_neg h,decide_eq_false h];rfl
 rw[if_pos h,decide_eq_true h,Bool.true_and];by_cases h:f=0
 case neg=>rw[if_neg h,decide_eq_false h];rfl
 rw[if_pos h,decide_eq_true h,Bool.true_and];by_cases h:k=0
 case neg=>rw[if_neg h,decide_eq_false h];rfl
 rw[if_pos h,decide_eq_true h,Bool.true_and];by_cases h:a'=0
 case neg=>rw[if_neg h,decide_eq_false h];rfl
 rw[if_pos h,decide_eq_true h,Bool.true_and];by_cases h:b'=0
 case neg=>rw[if_neg h,decide_eq_false h];rfl
 rw[if_pos h,decide_eq_true h,Bool.true_and];by_cases h:c''=0
 case neg=>rw[if_neg h,decide_eq_false h];rfl
 rw[if_pos h,decide_eq_true h,Bool.true_and];by_cases h:d'=0
 case neg=>rw[if_neg h,decide_eq_false h];rfl
 rw[if_pos h,decide_eq_true h,Bool.true_and];by_cases h:f'=0
 case neg=>rw[if_neg h,decide_eq_false h];rfl
 rw[if_pos h,decide_eq_true h,Bool.true_and];by_cases h:k'=0
 ·rw[if_pos h,decide_eq_true h]
 ·rw[if_neg h,decide_eq_false h]
def M.formB(te id p' l' s':Int)(bare mok sok rok m8 non wk idk p7 mt:Bool):Bool:=
 if te=1 then mok&&(sok&&(rok&&(m8&&(decide (id=0)&&(decide (l'=0)&&non)))))
 else if te=2 then bare&&(wk&&(decide (id=0)&&(decide (p'=0)&&(decide (s'=0)&&non))))
 else if te=3 then bare&&(wk&&(idk&&(p7&&decide (s'=0))))
 else if te=4 then bare&&(decide (l'=0)&&(decide (id=0)&&(decide (p'=0)&&(mt&&non))))
 else if te=5 then bare&&(decide (l'=0)&&(idk&&(decide (p'=0)&&(decide (s'=0)&&non))))
 else false
def M.inB(x lo hi:Int):Bool:=decide (lo≤x)&&decide (x≤hi)
theorem oW(te id p' l' s' a b c' d f k a' b' c'' d' f' k' s1 s2 p1 p2 p3 p4:Int)(l1:n1≤1048576)(l2:n2≤1048576)(l3:n3≤1048576)(l4:n4≤1048576)(w:World):
  Rt 42 #[.agg #[.int .i64 te,.int .i64 id,.int .i64 p',.int .i64 l',.int .i64 s',.int .i64 a,.int .i64 b,.int .i64 c',.int .i64 d,.int .i64 f,.int .i64 k,.int .i64 a',.int .i64 b',.int .i64 c'',.int .i64 d',.int .i64 f',.int .i64 k',.int .i64 s1,.int .i64 s2,.int .i64 p1,.int .i64 p2,.int .i64 p3,.int .i64 p4,.slice a1 n1 c1,.slice a2 n2 c2,.slice a3 n3 c3,.slice a4 n4 c4]] w (.bool (M.formB te id p' l' s' (bI a b c' d f k a' b' c'' d' f' k'&&(decide (s1=0)&&decide (s2=0))) (M.Mc.ok ⟨⟨a,b,c',d,f,k⟩,⟨a',b',c'',d',f',k'⟩⟩) (M.sOk (s1,s2)) (M.rows p') (M.inB s' 1 8) (bA p1 p2 p3 p4 n1 n2 n3 n4) (M.inB l' 1 9) (M.inB id 1 1000000000) (M.inB p' 0 7) (M.inB s' 1 1000000000))):=by
 have CM:=cr ⟨⟨a,b,c',d,f,k⟩,⟨a',b',c'',d',f',k'⟩⟩;have CS:=cM (s1,s2);have CR:=gB p';have C8:=cP s' 1 8;have CN:=oZ p1 p2 p3 p4 (a1:=a1) (a2:=a2) (a3:=a3) (a4:=a4) (c1:=c1) (c2:=c2) (c3:=c3) (c4:=c4) l1 l2 l3 l4;have CW:=cP l' 1 9;have CI:=cP id 1 1000000000;have CP:=cP p' 0 7;have CT:=cP s' 1 1000000000;dsimp only[cQ,cC]at CM CS
 change∀w,Calls prog _ _ w fun e w'=>e=.returned (.bool (M.inB s' 1 8))∧w'=w at C8
 change∀w,Calls prog _ _ w fun e w'=>e=.returned (.bool (M.inB l' 1 9))∧w'=w at CW
 change∀w,Calls prog _ _ w fun e w'=>e=.returned (.bool (M.inB id 1 1000000000))∧w'=w at CI
 change∀w,Calls prog _ _ w fun e w'=>e=.returned (.bool (M.inB p' 0 7))∧w'=w at CP
 change∀w,Calls prog _ _ w fun e w'=>e=.returned (.bool (M.inB s' 1 1000000000))∧w'=w at CT
 generalize Ub:bI a b c' d f k a' b' c'' d' f' k'=mz;generalize hR:M.formB _ _ _ _ _ _ _ _ _ _ _ _ _ _ _=RB;generalize M.Mc.ok ⟨⟨a,b,c',d,f,k⟩,⟨a',b',c'',d',f',k'⟩⟩=Xa at CM hR;generalize M.sOk (s1,s2)=Ya at CS hR;generalize M.rows p'=Za at CR hR;generalize M.inB s' 1 8=m8 at C8 hR;generalize bA p1 p2 p3 p4 n1 n2 n3 n4=Va at CN hR;generalize M.inB l' 1 9=wk at CW hR;generalize M.inB id 1 1000000000=Eb at CI hR;generalize M.inB p' 0 7=p7 at CP hR;generalize M.inB s' 1 1000000000=mt at CT hR;have Rb:=Hd (Ub);have Hb:=Hd (hR);go_enter func42,ntmps42;have Aa:H9 (ae ((w.alloc (.cells (bE te id p' l' s' a b c' d f k a' b' c'' d' f' k' s1 s2 p1 p2 p3 p4 a1 n1 c1 a2 n2 c2 a3 n3 c3 a4 n4 c4).toArray 37)).alloc (.cells #[it 0,it 0] 33)) w.heap.size (bE te id p' l' s' a b c' d f k a' b' c'' d' f' k' s1 s2 p1 p2 p3 p4 a1 n1 c1 a2 n2 c2 a3 n3 c3 a4 n4 c4)):=(aI _ _ _).alloc _;have Wa:H9 (ae ((w.alloc (.cells (bE te id p' l' s' a b c' d f k a' b' c'' d' f' k' s1 s2 p1 p2 p3 p4 a1 n1 c1 a2 n2 c2 a3 n3 c3 a4 n4 c4).toArray 37)).alloc (.cells #[it 0,it 0] 33)) (w.heap.size+1) [it 0,it 0]):=aO _ _ _ _;have Ca:H9 (Below w.heap.size w ((w.alloc (.cells (bE te id p' l' s' a b c' d f k a' b' c'' d' f' k' s1 s2 p1 p2 p3 p4 a1 n1 c1 a2 n2 c2 a3 n3 c3 a4 n4 c4).toArray 37)).alloc (.cells #[it 0,it 0] 33))):=((tv _ _).alloc (tr _) _).alloc (by simp) _;(go_wp2_with(with_reducible refine af 11 ?_ ?_;rfl));show wpList _ _ _ _ _ _;generalize((w.alloc (.cells (bE te id p' l' s' a b c' d f k a' b' c'' d' f' k' s1 s2 p1 p2 p3 p4 a1 n1 c1 a2 n2 c2 a3 n3 c3 a4 n4 c4).toArray 37)).alloc (.cells #[it 0,it 0] 33))=wa at *;with_reducible refine b9 ?qg (.bool mz) wa ?qrun ?_
 case qg=>exact rfl
 case qrun=>
  go_simp;rw[←Rb.o];exact sN (fun b=>Result.ok (Next.value (Value.bool b)) wa) a b c' d f k a' b' c'' d' f' k'
 show wpList _ _ _ _ _ _;clear Rb
 cases mz with
 | false=>
  have Bb:M.formB te id p' l' s' false Xa Ya Za m8 Va wk Eb p7 mt=RB:=(by have:=Hb.o;simpa using this);have HR:=Hd (Bb);have y3:=Aa.o.c 3;(go_wp2_with fail);refine(CW _).mono ?_;rintro e wz ⟨rfl,Ba⟩;have Fa:=Ba.symm;clear Ba;subst Fa;have y1:=Aa.o.c 1;(go_wp2_with fail);refine(CI _).mono ?_;rintro e wz ⟨rfl,Ba⟩;have Fa:=Ba.symm;clear Ba;subst Fa;by_cases h1:te=1
  ·
   skip
   have e1:(te==1)=true:=(by simp[h1]);have y0:=Aa.o.c 0;have y5:=Aa.o.c 5;have y6:=Aa.o.c 6;have y7:=Aa.o.c 7;have y8:=Aa.o.c 8;have y9:=Aa.o.c 9;have Ib:=Aa.o.c 10;have Jb:=Aa.o.c 11;have Kb:=Aa.o.c 12;have Lb:=Aa.o.c 13;have Nb:=Aa.o.c 14;have Ob:=Aa.o.c 15;have Pb:=Aa.o.c 16;(go_wp2_with fail);refine(CM _).mono ?_;rintro e wb ⟨rfl,hb⟩;have Ja:=Hd (Aa.o.belowS hb);have Ia:=Hd (Ca.o.trans (hb.mono Ca.o.size));clear Aa Wa Ca;clear hb;clear CM
   cases Xa with
   | false=>
    have HF:H9 (false=RB):=(by show _=_;rw[←HR.o];simp[M.formB,h1]);go_wp2;go_ret;exact⟨ag HF.o,Ia.o⟩
   | true=>
    have Cb:=Ja.o.c 17;have Db:=Ja.o.c 18;(go_wp2_with fail);refine(CS _).mono ?_;rintro e wc ⟨rfl,hb⟩;have Da:=Hd (Ja.o.belowS hb);have Ha:=Hd (Ia.o.trans (hb.mono Ia.o.size));clear Ja Ia;clear hb;clear CS
    cases Ya with
    | false=>
     have HF:H9 (false=RB):=(by show _=_;rw[←HR.o];simp[M.formB,h1]);go_wp2;go_ret;exact⟨ag HF.o,Ha.o⟩
    | true=>
     have y2:=Da.o.c 2;(go_wp2_with fail);refine(CR _).mono ?_;rintro e wz ⟨rfl,Ba⟩;have Fa:=Ba.symm;clear Ba;subst Fa;clear CR
     cases Za with
     | false=>
      have HF:H9 (false=RB):=(by show _=_;rw[←HR.o];simp[M.formB,h1]);go_wp2;go_ret;exact⟨ag HF.o,Ha.o⟩
     | true=>
      have y4:=Da.o.c 4;(go_wp2_with fail);refine(C8 _).mono ?_;rintro e wz ⟨rfl,Ba⟩;have Fa:=Ba.symm;clear Ba;subst Fa;clear C8
      cases m8 with
      | false=>
       have HF:H9 (false=RB):=(by show _=_;rw[←HR.o];simp[M.formB,h1]);go_wp2;go_ret;exact⟨ag HF.o,Ha.o⟩
      | true=>
       have y1:=Da.o.c 1;have y3:=Da.o.c 3;have Ka:=Da.o.c 19;have La:=Da.o.c 20;have Na:=Da.o.c 21;have Oa:=Da.o.c 22;have Pa:=Da.o.c 23;have Qa:=Da.o.c 24;have Ra:=Da.o.c 25;have Sa:=Da.o.c 26;by_cases Ea:id=0
       case neg=>
        have gn:(id==0)=false:=(by simp[Ea]);have HF:H9 (false=RB):=(by show _=_;rw[←HR.o];simp[M.formB,h1,Ea]);go_wp2;go_ret;exact⟨ag HF.o,Ha.o⟩
       have Fb:(id==0)=true:=(by simp[Ea]);by_cases Ga:l'=0
       case neg=>
        have gn:(l'==0)=false:=(by simp[Ga]);have HF:H9 (false=RB):=(by show _=_;rw[←HR.o];simp[M.formB,h1,Ea,Ga]);go_wp2;go_ret;exact⟨ag HF.o,Ha.o⟩
       have Gb:(l'==0)=true:=(by simp[Ga]);(go_wp2_with fail);refine(CN _).mono ?_;rintro e wd ⟨rfl,hb⟩;have Ab:=Hd (Ha.o.trans (hb.mono Ha.o.size));have HF:H9 (Va=RB):=(by show _=_;rw[←HR.o];simp[M.formB,h1,Ea,Ga]);go_wp2;go_ret;exact⟨ag HF.o,Ab.o⟩
  have e1:(te==1)=false:=(by simp[h1]);by_cases h2:te=2
  ·
   skip
   have e2:(te==2)=true:=(by simp[h2]);have y0:=Aa.o.c 0;have y1:=Aa.o.c 1;have y2:=Aa.o.c 2;have y3:=Aa.o.c 3;have y4:=Aa.o.c 4;have Ka:=Aa.o.c 19;have La:=Aa.o.c 20;have Na:=Aa.o.c 21;have Oa:=Aa.o.c 22;have Pa:=Aa.o.c 23;have Qa:=Aa.o.c 24;have Ra:=Aa.o.c 25;have Sa:=Aa.o.c 26;have HF:H9 (false=RB):=(by show _=_;rw[←HR.o];simp[M.formB,h2]);go_wp2;go_ret;exact⟨ag HF.o,Ca.o⟩
  have e2:(te==2)=false:=(by simp[h2]);by_cases h3:te=3
  ·
   skip
   have e3:(te==3)=true:=(by simp[h3]);have y0:=Aa.o.c 0;have y1:=Aa.o.c 1;have y2:=Aa.o.c 2;have y3:=Aa.o.c 3;have y4:=Aa.o.c 4;have Ka:=Aa.o.c 19;have La:=Aa.o.c 20;have Na:=Aa.o.c 21;have Oa:=Aa.o.c 22;have Pa:=Aa.o.c 23;have Qa:=Aa.o.c 24;have Ra:=Aa.o.c 25;have Sa:=Aa.o.c 26;have HF:H9 (false=RB):=(by show _=_;rw[←HR.o];simp[M.formB,h3]);go_wp2;go_ret;exact⟨ag HF.o,Ca.o⟩
  have e3:(te==3)=false:=(by simp[h3]);by_cases h4:te=4
  ·
   skip
   have e4:(te==4)=true:=(by simp[h4]);have y0:=Aa.o.c 0;have y1:=Aa.o.c 1;have y2:=Aa.o.c 2;have y3:=Aa.o.c 3;have y4:=Aa.o.c 4;have Ka:=Aa.o.c 19;have La:=Aa.o.c 20;have Na:=Aa.o.c 21;have Oa:=Aa.o.c 22;have Pa:=Aa.o.c 23;have Qa:=Aa.o.c 24;have Ra:=Aa.o.c 25;have Sa:=Aa.o.c 26;have HF:H9 (false=RB):=(by show _=_;rw[←HR.o];simp[M.formB,h4]);go_wp2;go_ret;exact⟨ag HF.o,Ca.o⟩
  have e4:(te==4)=false:=(by simp[h4]);by_cases h5:te=5
  ·
   skip
   have e5:(te==5)=true:=(by simp[h5]);have y0:=Aa.o.c 0;have y1:=Aa.o.c 1;have y2:=Aa.o.c 2;have y3:=Aa.o.c 3;have y4:=Aa.o.c 4;have Ka:=Aa.o.c 19;have La:=Aa.o.c 20;have Na:=Aa.o.c 21;have Oa:=Aa.o.c 22;have Pa:=Aa.o.c 23;have Qa:=Aa.o.c 24;have Ra:=Aa.o.c 25;have Sa:=Aa.o.c 26;have HF:H9 (false=RB):=(by show _=_;rw[←HR.o];simp[M.formB,h5]);go_wp2;go_ret;exact⟨ag HF.o,Ca.o⟩
  have e5:(te==5)=false:=(by simp[h5]);have y0:=Aa.o.c 0;have HF:H9 (false=RB):=(by show _=_;rw[←HR.o];simp[M.formB,h1,h2,h3,h4,h5]);go_wp2;go_ret;exact⟨ag HF.o,Ca.o⟩
 | true=>
  by_cases hs:s1=0∧s2=0
  ·
   skip
   have Bb:M.formB te id p' l' s' true Xa Ya Za m8 Va wk Eb p7 mt=RB:=(by have:=Hb.o;simpa[hs.1,hs.2]using this);obtain⟨rfl,rfl⟩:=hs;have Cb:=Aa.o.c 17;have Db:=Aa.o.c 18;have z0:=Wa.o.c 0;have z1:=Wa.o.c 1
   skip
   have HR:=Hd (Bb);have y3:=Aa.o.c 3;(go_wp2_with fail);refine(CW _).mono ?_;rintro e wz ⟨rfl,Ba⟩;have Fa:=Ba.symm;clear Ba;subst Fa;have y1:=Aa.o.c 1;(go_wp2_with fail);refine(CI _).mono ?_;rintro e wz ⟨rfl,Ba⟩;have Fa:=Ba.symm;clear Ba;subst Fa;by_cases h1:te=1
   ·
    skip
    have e1:(te==1)=true:=(by simp[h1]);have y0:=Aa.o.c 0;have y5:=Aa.o.c 5;have y6:=Aa.o.c 6;have y7:=Aa.o.c 7;have y8:=Aa.o.c 8;have y9:=Aa.o.c 9;have Ib:=Aa.o.c 10;have Jb:=Aa.o.c 11;have Kb:=Aa.o.c 12;have Lb:=Aa.o.c 13;have Nb:=Aa.o.c 14;have Ob:=Aa.o.c 15;have Pb:=Aa.o.c 16;(go_wp2_with fail);refine(CM _).mono ?_;rintro e wb ⟨rfl,hb⟩;have Ja:=Hd (Aa.o.belowS hb);have Ia:=Hd (Ca.o.trans (hb.mono Ca.o.size));clear Aa Wa Ca;clear hb;clear CM
    cases Xa with
    | false=>
     have HF:H9 (false=RB):=(by show _=_;rw[←HR.o];simp[M.formB,h1]);go_wp2;go_ret;exact⟨ag HF.o,Ia.o⟩
    | true=>
     have Cb:=Ja.o.c 17;have Db:=Ja.o.c 18;(go_wp2_with fail);refine(CS _).mono ?_;rintro e wc ⟨rfl,hb⟩;have Da:=Hd (Ja.o.belowS hb);have Ha:=Hd (Ia.o.trans (hb.mono Ia.o.size));clear Ja Ia;clear hb;clear CS
     cases Ya with
     | false=>
      have HF:H9 (false=RB):=(by show _=_;rw[←HR.o];simp[M.formB,h1]);go_wp2;go_ret;exact⟨ag HF.o,Ha.o⟩
     | true=>
      have y2:=Da.o.c 2;(go_wp2_with fail);refine(CR _).mono ?_;rintro e wz ⟨rfl,Ba⟩;have Fa:=Ba.symm;clear Ba;subst Fa;clear CR
      cases Za with
      | false=>
       have HF:H9 (false=RB):=(by show _=_;rw[←HR.o];simp[M.formB,h1]);go_wp2;go_ret;exact⟨ag HF.o,Ha.o⟩
      | true=>
       have y4:=Da.o.c 4;(go_wp2_with fail);refine(C8 _).mono ?_;rintro e wz ⟨rfl,Ba⟩;have Fa:=Ba.symm;clear Ba;subst Fa;clear C8
       cases m8 with
       | false=>
        have HF:H9 (false=RB):=(by show _=_;rw[←HR.o];simp[M.formB,h1]);go_wp2;go_ret;exact⟨ag HF.o,Ha.o⟩
       | true=>
        have y1:=Da.o.c 1;have y3:=Da.o.c 3;have Ka:=Da.o.c 19;have La:=Da.o.c 20;have Na:=Da.o.c 21;have Oa:=Da.o.c 22;have Pa:=Da.o.c 23;have Qa:=Da.o.c 24;have Ra:=Da.o.c 25;have Sa:=Da.o.c 26;by_cases Ea:id=0
        case neg=>
         have gn:(id==0)=false:=(by simp[Ea]);have HF:H9 (false=RB):=(by show _=_;rw[←HR.o];simp[M.formB,h1,Ea]);go_wp2;go_ret;exact⟨ag HF.o,Ha.o⟩
        have Fb:(id==0)=true:=(by simp[Ea]);by_cases Ga:l'=0
        case neg=>
         have gn:(l'==0)=false:=(by simp[Ga]);have HF:H9 (false=RB):=(by show _=_;rw[←HR.o];simp[M.formB,h1,Ea,Ga]);go_wp2;go_ret;exact⟨ag HF.o,Ha.o⟩
        have Gb:(l'==0)=true:=(by simp[Ga]);(go_wp2_with fail);refine(CN _).mono ?_;rintro e wd ⟨rfl,hb⟩;have Ab:=Hd (Ha.o.trans (hb.mono Ha.o.size));have HF:H9 (Va=RB):=(by show _=_;rw[←HR.o];simp[M.formB,h1,Ea,Ga]);go_wp2;go_ret;exact⟨ag HF.o,Ab.o⟩
   have e1:(te==1)=false:=(by simp[h1]);by_cases h2:te=2
   ·
    skip
    have e2:(te==2)=true:=(by simp[h2]);have y0:=Aa.o.c 0;have y1:=Aa.o.c 1;have y2:=Aa.o.c 2;have y3:=Aa.o.c 3;have y4:=Aa.o.c 4;have Ka:=Aa.o.c 19;have La:=Aa.o.c 20;have Na:=Aa.o.c 21;have Oa:=Aa.o.c 22;have Pa:=Aa.o.c 23;have Qa:=Aa.o.c 24;have Ra:=Aa.o.c 25;have Sa:=Aa.o.c 26
    cases wk with
    | false=>
     have HF:H9 (false=RB):=(by show _=_;rw[←HR.o];simp[M.formB,h2]);go_wp2;go_ret;exact⟨ag HF.o,Ca.o⟩
    | true=>
     by_cases Ea:id=0
     case neg=>
      have gn:(id==0)=false:=(by simp[Ea]);have HF:H9 (false=RB):=(by show _=_;rw[←HR.o];simp[M.formB,h2,Ea]);go_wp2;go_ret;exact⟨ag HF.o,Ca.o⟩
     have Fb:(id==0)=true:=(by simp[Ea]);by_cases Ta:p'=0
     case neg=>
      have gn:(p'==0)=false:=(by simp[Ta]);have HF:H9 (false=RB):=(by show _=_;rw[←HR.o];simp[M.formB,h2,Ea,Ta]);go_wp2;go_ret;exact⟨ag HF.o,Ca.o⟩
     have Sb:(p'==0)=true:=(by simp[Ta]);by_cases Ua:s'=0
     case neg=>
      have gn:(s'==0)=false:=(by simp[Ua]);have HF:H9 (false=RB):=(by show _=_;rw[←HR.o];simp[M.formB,h2,Ea,Ta,Ua]);go_wp2;go_ret;exact⟨ag HF.o,Ca.o⟩
     have Tb:(s'==0)=true:=(by simp[Ua]);(go_wp2_with fail);refine(CN _).mono ?_;rintro e we ⟨rfl,hb⟩;have Ia:=Hd (Ca.o.trans (hb.mono Ca.o.size));have HF:H9 (Va=RB):=(by show _=_;rw[←HR.o];simp[M.formB,h2,Ea,Ta,Ua]);go_wp2;go_ret;exact⟨ag HF.o,Ia.o⟩
   have e2:(te==2)=false:=(by simp[h2]);by_cases h3:te=3
   ·
    skip
    have e3:(te==3)=true:=(by simp[h3]);have y0:=Aa.o.c 0;have y1:=Aa.o.c 1;have y2:=Aa.o.c 2;have y3:=Aa.o.c 3;have y4:=Aa.o.c 4;have Ka:=Aa.o.c 19;have La:=Aa.o.c 20;have Na:=Aa.o.c 21;have Oa:=Aa.o.c 22;have Pa:=Aa.o.c 23;have Qa:=Aa.o.c 24;have Ra:=Aa.o.c 25;have Sa:=Aa.o.c 26
    cases wk with
    | false=>
     have HF:H9 (false=RB):=(by show _=_;rw[←HR.o];simp[M.formB,h3]);go_wp2;go_ret;exact⟨ag HF.o,Ca.o⟩
    | true=>
     cases Eb with
     | false=>
      have HF:H9 (false=RB):=(by show _=_;rw[←HR.o];simp[M.formB,h3]);go_wp2;go_ret;exact⟨ag HF.o,Ca.o⟩
     | true=>
      (go_wp2_with fail);refine(CP _).mono ?_;rintro e wz ⟨rfl,Ba⟩;have Fa:=Ba.symm;clear Ba;subst Fa;clear CP
      cases p7 with
      | false=>
       have HF:H9 (false=RB):=(by show _=_;rw[←HR.o];simp[M.formB,h3]);go_wp2;go_ret;exact⟨ag HF.o,Ca.o⟩
      | true=>
       by_cases Ua:s'=0
       case neg=>
        have gn:(s'==0)=false:=(by simp[Ua]);have HF:H9 (false=RB):=(by show _=_;rw[←HR.o];simp[M.formB,h3,Ua]);go_wp2;go_ret;exact⟨ag HF.o,Ca.o⟩
       have Tb:(s'==0)=true:=(by simp[Ua]);have HF:H9 (true=RB):=(by show _=_;rw[←HR.o];simp[M.formB,h3,Ua]);go_wp2;go_ret;exact⟨ag HF.o,Ca.o⟩
   have e3:(te==3)=false:=(by simp[h3]);by_cases h4:te=4
   ·
    skip
    have e4:(te==4)=true:=(by simp[h4]);have y0:=Aa.o.c 0;have y1:=Aa.o.c 1;have y2:=Aa.o.c 2;have y3:=Aa.o.c 3;have y4:=Aa.o.c 4;have Ka:=Aa.o.c 19;have La:=Aa.o.c 20;have Na:=Aa.o.c 21;have Oa:=Aa.o.c 22;have Pa:=Aa.o.c 23;have Qa:=Aa.o.c 24;have Ra:=Aa.o.c 25;have Sa:=Aa.o.c 26;by_cases Ga:l'=0
    case neg=>
     have gn:(l'==0)=false:=(by simp[Ga]);have HF:H9 (false=RB):=(by show _=_;rw[←HR.o];simp[M.formB,h4,Ga]);go_wp2;go_ret;exact⟨ag HF.o,Ca.o⟩
    have Gb:(l'==0)=true:=(by simp[Ga]);by_cases Ea:id=0
    case neg=>
     have gn:(id==0)=false:=(by simp[Ea]);have HF:H9 (false=RB):=(by show _=_;rw[←HR.o];simp[M.formB,h4,Ga,Ea]);go_wp2;go_ret;exact⟨ag HF.o,Ca.o⟩
    have Fb:(id==0)=true:=(by simp[Ea]);by_cases Ta:p'=0
    case neg=>
     have gn:(p'==0)=false:=(by simp[Ta]);have HF:H9 (false=RB):=(by show _=_;rw[←HR.o];simp[M.formB,h4,Ga,Ea,Ta]);go_wp2;go_ret;exact⟨ag HF.o,Ca.o⟩
    have Sb:(p'==0)=true:=(by simp[Ta]);(go_wp2_with fail);refine(CT _).mono ?_;rintro e wz ⟨rfl,Ba⟩;have Fa:=Ba.symm;clear Ba;subst Fa;clear CT
    cases mt with
    | false=>
     have HF:H9 (false=RB):=(by show _=_;rw[←HR.o];simp[M.formB,h4,Ga,Ea,Ta]);go_wp2;go_ret;exact⟨ag HF.o,Ca.o⟩
    | true=>
     (go_wp2_with fail);refine(CN _).mono ?_;rintro e we ⟨rfl,hb⟩;have Ia:=Hd (Ca.o.trans (hb.mono Ca.o.size));have HF:H9 (Va=RB):=(by show _=_;rw[←HR.o];simp[M.formB,h4,Ga,Ea,Ta]);go_wp2;go_ret;exact⟨ag HF.o,Ia.o⟩
   have e4:(te==4)=false:=(by simp[h4]);by_cases h5:te=5
   ·
    skip
    have e5:(te==5)=true:=(by simp[h5]);have y0:=Aa.o.c 0;have y1:=Aa.o.c 1;have y2:=Aa.o.c 2;have y3:=Aa.o.c 3;have y4:=Aa.o.c 4;have Ka:=Aa.o.c 19;have La:=Aa.o.c 20;have Na:=Aa.o.c 21;have Oa:=Aa.o.c 22;have Pa:=Aa.o.c 23;have Qa:=Aa.o.c 24;have Ra:=Aa.o.c 25;have Sa:=Aa.o.c 26;by_cases Ga:l'=0
    case neg=>
     have gn:(l'==0)=false:=(by simp[Ga]);have HF:H9 (false=RB):=(by show _=_;rw[←HR.o];simp[M.formB,h5,Ga]);go_wp2;go_ret;exact⟨ag HF.o,Ca.o⟩
    have Gb:(l'==0)=true:=by simp[Ga]
    cases Eb with
    | false=>
     have HF:H9 (false=RB):=(by show _=_;rw[←HR.o];simp[M.formB,h5,Ga]);go_wp2;go_ret;exact⟨ag HF.o,Ca.o⟩
    | true=>
     by_cases Ta:p'=0
     case neg=>
      have gn:(p'==0)=false:=(by simp[Ta]);have HF:H9 (false=RB):=(by show _=_;rw[←HR.o];simp[M.formB,h5,Ga,Ta]);go_wp2;go_ret;exact⟨ag HF.o,Ca.o⟩
     have Sb:(p'==0)=true:=(by simp[Ta]);by_cases Ua:s'=0
     case neg=>
      have gn:(s'==0)=false:=(by simp[Ua]);have HF:H9 (false=RB):=(by show _=_;rw[←HR.o];simp[M.formB,h5,Ga,Ta,Ua]);go_wp2;go_ret;exact⟨ag HF.o,Ca.o⟩
     have Tb:(s'==0)=true:=(by simp[Ua]);(go_wp2_with fail);refine(CN _).mono ?_;rintro e we ⟨rfl,hb⟩;have Ia:=Hd (Ca.o.trans (hb.mono Ca.o.size));have HF:H9 (Va=RB):=(by show _=_;rw[←HR.o];simp[M.formB,h5,Ga,Ta,Ua]);go_wp2;go_ret;exact⟨ag HF.o,Ia.o⟩
   have e5:(te==5)=false:=(by simp[h5]);have y0:=Aa.o.c 0;have HF:H9 (false=RB):=(by show _=_;rw[←HR.o];simp[M.formB,h1,h2,h3,h4,h5]);go_wp2;go_ret;exact⟨ag HF.o,Ca.o⟩
  have Bb:M.formB te id p' l' s' false Xa Ya Za m8 Va wk Eb p7 mt=RB:=(by have:=Hb.o;rw[show(decide (s1=0)&&decide (s2=0))=false by rw[Bool.eq_false_iff];intro h;rw[tZ,decide_eq_true_eq,decide_eq_true_eq]at h;exact hs h]at this;simpa using this);by_cases Qb:s1=0
  ·
   skip
   have Vb:¬ s2=0:=fun e=>hs ⟨Qb,e⟩;have q2:(s2==0)=false:=(by simp[Vb]);clear hs;subst Qb;have Cb:=Aa.o.c 17;have Db:=Aa.o.c 18;have z0:=Wa.o.c 0;have z1:=Wa.o.c 1;have HR:=Hd (Bb);have y3:=Aa.o.c 3;(go_wp2_with fail);refine(CW _).mono ?_;rintro e wz ⟨rfl,Ba⟩;have Fa:=Ba.symm;clear Ba;subst Fa;have y1:=Aa.o.c 1;(go_wp2_with fail);refine(CI _).mono ?_;rintro e wz ⟨rfl,Ba⟩;have Fa:=Ba.symm;clear Ba;subst Fa;by_cases h1:te=1
   ·
    skip
    have e1:(te==1)=true:=(by simp[h1]);have y0:=Aa.o.c 0;have y5:=Aa.o.c 5;have y6:=Aa.o.c 6;have y7:=Aa.o.c 7;have y8:=Aa.o.c 8;have y9:=Aa.o.c 9;have Ib:=Aa.o.c 10;have Jb:=Aa.o.c 11;have Kb:=Aa.o.c 12;have Lb:=Aa.o.c 13;have Nb:=Aa.o.c 14;have Ob:=Aa.o.c 15;have Pb:=Aa.o.c 16;(go_wp2_with fail);refine(CM _).mono ?_;rintro e wb ⟨rfl,hb⟩;have Ja:=Hd (Aa.o.belowS hb);have Ia:=Hd (Ca.o.trans (hb.mono Ca.o.size));clear Aa Wa Ca;clear hb;clear CM
    cases Xa with
    | false=>
     have HF:H9 (false=RB):=(by show _=_;rw[←HR.o];simp[M.formB,h1]);go_wp2;go_ret;exact⟨ag HF.o,Ia.o⟩
    | true=>
     have Cb:=Ja.o.c 17;have Db:=Ja.o.c 18;(go_wp2_with fail);refine(CS _).mono ?_;rintro e wc ⟨rfl,hb⟩;have Da:=Hd (Ja.o.belowS hb);have Ha:=Hd (Ia.o.trans (hb.mono Ia.o.size));clear Ja Ia;clear hb;clear CS
     cases Ya with
     | false=>
      have HF:H9 (false=RB):=(by show _=_;rw[←HR.o];simp[M.formB,h1]);go_wp2;go_ret;exact⟨ag HF.o,Ha.o⟩
     | true=>
      have y2:=Da.o.c 2;(go_wp2_with fail);refine(CR _).mono ?_;rintro e wz ⟨rfl,Ba⟩;have Fa:=Ba.symm;clear Ba;subst Fa;clear CR
      cases Za with
      | false=>
       have HF:H9 (false=RB):=(by show _=_;rw[←HR.o];simp[M.formB,h1]);go_wp2;go_ret;exact⟨ag HF.o,Ha.o⟩
      | true=>
       have y4:=Da.o.c 4;(go_wp2_with fail);refine(C8 _).mono ?_;rintro e wz ⟨rfl,Ba⟩;have Fa:=Ba.symm;clear Ba;subst Fa;clear C8
       cases m8 with
       | false=>
        have HF:H9 (false=RB):=(by show _=_;rw[←HR.o];simp[M.formB,h1]);go_wp2;go_ret;exact⟨ag HF.o,Ha.o⟩
       | true=>
        have y1:=Da.o.c 1;have y3:=Da.o.c 3;have Ka:=Da.o.c 19;have La:=Da.o.c 20;have Na:=Da.o.c 21;have Oa:=Da.o.c 22;have Pa:=Da.o.c 23;have Qa:=Da.o.c 24;have Ra:=Da.o.c 25;have Sa:=Da.o.c 26;by_cases Ea:id=0
        case neg=>
         have gn:(id==0)=false:=(by simp[Ea]);have HF:H9 (false=RB):=(by show _=_;rw[←HR.o];simp[M.formB,h1,Ea]);go_wp2;go_ret;exact⟨ag HF.o,Ha.o⟩
        have Fb:(id==0)=true:=(by simp[Ea]);by_cases Ga:l'=0
        case neg=>
         have gn:(l'==0)=false:=(by simp[Ga]);have HF:H9 (false=RB):=(by show _=_;rw[←HR.o];simp[M.formB,h1,Ea,Ga]);go_wp2;go_ret;exact⟨ag HF.o,Ha.o⟩
        have Gb:(l'==0)=true:=(by simp[Ga]);(go_wp2_with fail);refine(CN _).mono ?_;rintro e wd ⟨rfl,hb⟩;have Ab:=Hd (Ha.o.trans (hb.mono Ha.o.size));have HF:H9 (Va=RB):=(by show _=_;rw[←HR.o];simp[M.formB,h1,Ea,Ga]);go_wp2;go_ret;exact⟨ag HF.o,Ab.o⟩
   have e1:(te==1)=false:=(by simp[h1]);by_cases h2:te=2
   ·
    skip
    have e2:(te==2)=true:=(by simp[h2]);have y0:=Aa.o.c 0;have y1:=Aa.o.c 1;have y2:=Aa.o.c 2;have y3:=Aa.o.c 3;have y4:=Aa.o.c 4;have Ka:=Aa.o.c 19;have La:=Aa.o.c 20;have Na:=Aa.o.c 21;have Oa:=Aa.o.c 22;have Pa:=Aa.o.c 23;have Qa:=Aa.o.c 24;have Ra:=Aa.o.c 25;have Sa:=Aa.o.c 26;have HF:H9 (false=RB):=(by show _=_;rw[←HR.o];simp[M.formB,h2]);go_wp2;go_ret;exact⟨ag HF.o,Ca.o⟩
   have e2:(te==2)=false:=(by simp[h2]);by_cases h3:te=3
   ·
    skip
    have e3:(te==3)=true:=(by simp[h3]);have y0:=Aa.o.c 0;have y1:=Aa.o.c 1;have y2:=Aa.o.c 2;have y3:=Aa.o.c 3;have y4:=Aa.o.c 4;have Ka:=Aa.o.c 19;have La:=Aa.o.c 20;have Na:=Aa.o.c 21;have Oa:=Aa.o.c 22;have Pa:=Aa.o.c 23;have Qa:=Aa.o.c 24;have Ra:=Aa.o.c 25;have Sa:=Aa.o.c 26;have HF:H9 (false=RB):=(by show _=_;rw[←HR.o];simp[M.formB,h3]);go_wp2;go_ret;exact⟨ag HF.o,Ca.o⟩
   have e3:(te==3)=false:=(by simp[h3]);by_cases h4:te=4
   ·
    skip
    have e4:(te==4)=true:=(by simp[h4]);have y0:=Aa.o.c 0;have y1:=Aa.o.c 1;have y2:=Aa.o.c 2;have y3:=Aa.o.c 3;have y4:=Aa.o.c 4;have Ka:=Aa.o.c 19;have La:=Aa.o.c 20;have Na:=Aa.o.c 21;have Oa:=Aa.o.c 22;have Pa:=Aa.o.c 23;have Qa:=Aa.o.c 24;have Ra:=Aa.o.c 25;have Sa:=Aa.o.c 26;have HF:H9 (false=RB):=(by show _=_;rw[←HR.o];simp[M.formB,h4]);go_wp2;go_ret;exact⟨ag HF.o,Ca.o⟩
   have e4:(te==4)=false:=(by simp[h4]);by_cases h5:te=5
   ·
    skip
    have e5:(te==5)=true:=(by simp[h5]);have y0:=Aa.o.c 0;have y1:=Aa.o.c 1;have y2:=Aa.o.c 2;have y3:=Aa.o.c 3;have y4:=Aa.o.c 4;have Ka:=Aa.o.c 19;have La:=Aa.o.c 20;have Na:=Aa.o.c 21;have Oa:=Aa.o.c 22;have Pa:=Aa.o.c 23;have Qa:=Aa.o.c 24;have Ra:=Aa.o.c 25;have Sa:=Aa.o.c 26;have HF:H9 (false=RB):=(by show _=_;rw[←HR.o];simp[M.formB,h5]);go_wp2;go_ret;exact⟨ag HF.o,Ca.o⟩
   have e5:(te==5)=false:=(by simp[h5]);have y0:=Aa.o.c 0;have HF:H9 (false=RB):=(by show _=_;rw[←HR.o];simp[M.formB,h1,h2,h3,h4,h5]);go_wp2;go_ret;exact⟨ag HF.o,Ca.o⟩
  have q1:(s1==0)=false:=(by simp[Qb]);have Cb:=Aa.o.c 17;have Db:=Aa.o.c 18;have z0:=Wa.o.c 0;have z1:=Wa.o.c 1;have HR:=Hd (Bb);have y3:=Aa.o.c 3;(go_wp2_with fail);refine(CW _).mono ?_;rintro e wz ⟨rfl,Ba⟩;have Fa:=Ba.symm;clear Ba;subst Fa;have y1:=Aa.o.c 1;(go_wp2_with fail);refine(CI _).mono ?_;rintro e wz ⟨rfl,Ba⟩;have Fa:=Ba.symm;clear Ba;subst Fa;by_cases h1:te=1
  ·
   skip
   have e1:(te==1)=true:=(by simp[h1]);have y0:=Aa.o.c 0;have y5:=Aa.o.c 5;have y6:=Aa.o.c 6;have y7:=Aa.o.c 7;have y8:=Aa.o.c 8;have y9:=Aa.o.c 9;have Ib:=Aa.o.c 10;have Jb:=Aa.o.c 11;have Kb:=Aa.o.c 12;have Lb:=Aa.o.c 13;have Nb:=Aa.o.c 14;have Ob:=Aa.o.c 15;have Pb:=Aa.o.c 16;(go_wp2_with fail);refine(CM _).mono ?_;rintro e wb ⟨rfl,hb⟩;have Ja:=Hd (Aa.o.belowS hb);have Ia:=Hd (Ca.o.trans (hb.mono Ca.o.size));clear Aa Wa Ca;clear hb;clear CM
   cases Xa with
   | false=>
    have HF:H9 (false=RB):=(by show _=_;rw[←HR.o];simp[M.formB,h1]);go_wp2;go_ret;exact⟨ag HF.o,Ia.o⟩
   | true=>
    have Cb:=Ja.o.c 17;have Db:=Ja.o.c 18;(go_wp2_with fail);refine(CS _).mono ?_;rintro e wc ⟨rfl,hb⟩;have Da:=Hd (Ja.o.belowS hb);have Ha:=Hd (Ia.o.trans (hb.mono Ia.o.size));clear Ja Ia;clear hb;clear CS
    cases Ya with
    | false=>
     have HF:H9 (false=RB):=(by show _=_;rw[←HR.o];simp[M.formB,h1]);go_wp2;go_ret;exact⟨ag HF.o,Ha.o⟩
    | true=>
     have y2:=Da.o.c 2;(go_wp2_with fail);refine(CR _).mono ?_;rintro e wz ⟨rfl,Ba⟩;have Fa:=Ba.symm;clear Ba;subst Fa;clear CR
     cases Za with
     | false=>
      have HF:H9 (false=RB):=(by show _=_;rw[←HR.o];simp[M.formB,h1]);go_wp2;go_ret;exact⟨ag HF.o,Ha.o⟩
     | true=>
      have y4:=Da.o.c 4;(go_wp2_with fail);refine(C8 _).mono ?_;rintro e wz ⟨rfl,Ba⟩;have Fa:=Ba.symm;clear Ba;subst Fa;clear C8
      cases m8 with
      | false=>
       have HF:H9 (false=RB):=(by show _=_;rw[←HR.o];simp[M.formB,h1]);go_wp2;go_ret;exact⟨ag HF.o,Ha.o⟩
      | true=>
       have y1:=Da.o.c 1;have y3:=Da.o.c 3;have Ka:=Da.o.c 19;have La:=Da.o.c 20;have Na:=Da.o.c 21;have Oa:=Da.o.c 22;have Pa:=Da.o.c 23;have Qa:=Da.o.c 24;have Ra:=Da.o.c 25;have Sa:=Da.o.c 26;by_cases Ea:id=0
       case neg=>
        have gn:(id==0)=false:=(by simp[Ea]);have HF:H9 (false=RB):=(by show _=_;rw[←HR.o];simp[M.formB,h1,Ea]);go_wp2;go_ret;exact⟨ag HF.o,Ha.o⟩
       have Fb:(id==0)=true:=(by simp[Ea]);by_cases Ga:l'=0
       case neg=>
        have gn:(l'==0)=false:=(by simp[Ga]);have HF:H9 (false=RB):=(by show _=_;rw[←HR.o];simp[M.formB,h1,Ea,Ga]);go_wp2;go_ret;exact⟨ag HF.o,Ha.o⟩
       have Gb:(l'==0)=true:=(by simp[Ga]);(go_wp2_with fail);refine(CN _).mono ?_;rintro e wd ⟨rfl,hb⟩;have Ab:=Hd (Ha.o.trans (hb.mono Ha.o.size));have HF:H9 (Va=RB):=(by show _=_;rw[←HR.o];simp[M.formB,h1,Ea,Ga]);go_wp2;go_ret;exact⟨ag HF.o,Ab.o⟩
  have e1:(te==1)=false:=(by simp[h1]);by_cases h2:te=2
  ·
   skip
   have e2:(te==2)=true:=(by simp[h2]);have y0:=Aa.o.c 0;have y1:=Aa.o.c 1;have y2:=Aa.o.c 2;have y3:=Aa.o.c 3;have y4:=Aa.o.c 4;have Ka:=Aa.o.c 19;have La:=Aa.o.c 20;have Na:=Aa.o.c 21;have Oa:=Aa.o.c 22;have Pa:=Aa.o.c 23;have Qa:=Aa.o.c 24;have Ra:=Aa.o.c 25;have Sa:=Aa.o.c 26;have HF:H9 (false=RB):=(by show _=_;rw[←HR.o];simp[M.formB,h2]);go_wp2;go_ret;exact⟨ag HF.o,Ca.o⟩
  have e2:(te==2)=false:=(by simp[h2]);by_cases h3:te=3
  ·
   skip
   have e3:(te==3)=true:=(by simp[h3]);have y0:=Aa.o.c 0;have y1:=Aa.o.c 1;have y2:=Aa.o.c 2;have y3:=Aa.o.c 3;have y4:=Aa.o.c 4;have Ka:=Aa.o.c 19;have La:=Aa.o.c 20;have Na:=Aa.o.c 21;have Oa:=Aa.o.c 22;have Pa:=Aa.o.c 23;have Qa:=Aa.o.c 24;have Ra:=Aa.o.c 25;have Sa:=Aa.o.c 26;have HF:H9 (false=RB):=(by show _=_;rw[←HR.o];simp[M.formB,h3]);go_wp2;go_ret;exact⟨ag HF.o,Ca.o⟩
  have e3:(te==3)=false:=(by simp[h3]);by_cases h4:te=4
  ·
   skip
   have e4:(te==4)=true:=(by simp[h4]);have y0:=Aa.o.c 0;have y1:=Aa.o.c 1;have y2:=Aa.o.c 2;have y3:=Aa.o.c 3;have y4:=Aa.o.c 4;have Ka:=Aa.o.c 19;have La:=Aa.o.c 20;have Na:=Aa.o.c 21;have Oa:=Aa.o.c 22;have Pa:=Aa.o.c 23;have Qa:=Aa.o.c 24;have Ra:=Aa.o.c 25;have Sa:=Aa.o.c 26;have HF:H9 (false=RB):=(by show _=_;rw[←HR.o];simp[M.formB,h4]);go_wp2;go_ret;exact⟨ag HF.o,Ca.o⟩
  have e4:(te==4)=false:=(by simp[h4]);by_cases h5:te=5
  ·
   skip
   have e5:(te==5)=true:=(by simp[h5]);have y0:=Aa.o.c 0;have y1:=Aa.o.c 1;have y2:=Aa.o.c 2;have y3:=Aa.o.c 3;have y4:=Aa.o.c 4;have Ka:=Aa.o.c 19;have La:=Aa.o.c 20;have Na:=Aa.o.c 21;have Oa:=Aa.o.c 22;have Pa:=Aa.o.c 23;have Qa:=Aa.o.c 24;have Ra:=Aa.o.c 25;have Sa:=Aa.o.c 26;have HF:H9 (false=RB):=(by show _=_;rw[←HR.o];simp[M.formB,h5]);go_wp2;go_ret;exact⟨ag HF.o,Ca.o⟩
  have e5:(te==5)=false:=(by simp[h5]);have y0:=Aa.o.c 0;have HF:H9 (false=RB):=(by show _=_;rw[←HR.o];simp[M.formB,h1,h2,h3,h4,h5]);go_wp2;go_ret;exact⟨ag HF.o,Ca.o⟩
end Go.Proofs.YtjcjonncaknhnaaGreatDoor
