import Derived.Test.YtfhknkppiidnkaaGreatChecked
import Derived.Test.YtfhknkppiidnkaaGreatPk00
import Derived.Test.YtfhknkppiidnkaaGreatPk01
import Derived.Test.YtfhknkppiidnkaaGreatPk14
import Derived.Test.YtfhknkppiidnkaaGreatPk03
import Derived.Test.YtfhknkppiidnkaaGreatPk08
import Derived.Test.YtfhknkppiidnkaaGreatPk02
namespace Go.Proofs.YtfhknkppiidnkaaGreat
open Go.RowKit
set_option maxHeartbeats 32000000
set_option maxRecDepth 10000
def M.mz (a b c' d f k a' b' c'' d' f' k':Int):Bool:=decide (a=0) && (decide (b=0) && (decide (c'=0) && (decide (d=0) && (decide (f=0) && (decide (k=0) && (decide (a'=0) && (decide (b'=0) && (decide (c''=0) && (decide (d'=0) && (decide (f'=0) && (decide (k'=0))))))))))))
theorem mz_ite {β:Type} (X:Bool→β) (a b c' d f k a' b' c'' d' f' k':Int):(if a=0 then (if b=0 then (if c'=0 then (if d=0 then (if f=0 then (if k=0 then (if a'=0 then (if b'=0 then (if c''=0 then (if d'=0 then (if f'=0 then (if k'=0 then X true else X false) else X false) else X false) else X false) else X false) else X false) else X false) else X false) else X false) else X false) else X false) else X false)=X (M.mz a b c' d f k a' b' c'' d' f' k'):=by
 unfold M.mz;by_cases h:a=0
 case neg=>rw [if_neg h,decide_eq_false h];rfl
 rw [if_pos h,decide_eq_true h,Bool.true_and];clear h;by_cases h:b=0
 case neg=>rw [if_neg h,decide_eq_false h];rfl
 rw [if_pos h,decide_eq_true h,Bool.true_and];clear h;by_cases h:c'=0
 case neg=>rw [if_neg h,decide_eq_false h];rfl
 rw [if_pos h,decide_eq_true h,Bool.true_and];clear h;by_cases h:d=0
 case neg=>rw [if_neg h,decide_eq_false h];rfl
 rw [if_pos h,decide_eq_true h,Bool.true_and];clear h;by_cases h:f=0
 case neg=>rw [if_neg h,decide_eq_false h];rfl
 rw [if_pos h,decide_eq_true h,Bool.true_and];clear h;by_cases h:k=0
 case neg=>rw [if_neg h,decide_eq_false h];rfl
 rw [if_pos h,decide_eq_true h,Bool.true_and];clear h;by_cases h:a'=0
 case neg=>rw [if_neg h,decide_eq_false h];rfl
 rw [if_pos h,decide_eq_true h,Bool.true_and];clear h;by_cases h:b'=0
 case neg=>rw [if_neg h,decide_eq_false h];rfl
 rw [if_pos h,decide_eq_true h,Bool.true_and];clear h;by_cases h:c''=0
 case neg=>rw [if_neg h,decide_eq_false h];rfl
 rw [if_pos h,decide_eq_true h,Bool.true_and];clear h;by_cases h:d'=0
 case neg=>rw [if_neg h,decide_eq_false h];rfl
 rw [if_pos h,decide_eq_true h,Bool.true_and];clear h;by_cases h:f'=0
 case neg=>rw [if_neg h,decide_eq_false h];rfl
 rw [if_pos h,decide_eq_true h,Bool.true_and];clear h;by_cases h:k'=0
 · rw [if_pos h,decide_eq_true h]
 · rw [if_neg h,decide_eq_false h]
def M.formB (kind id part worker many:Int) (bare mok sok rok m8 non wk idk p7 mt:Bool):Bool:=
 if kind=1 then mok && (sok && (rok && (m8 && (decide (id=0) && (decide (worker=0) && non)))))
 else if kind=2 then bare && (wk && (decide (id=0) && (decide (part=0) && (decide (many=0) && non))))
 else if kind=3 then bare && (wk && (idk && (p7 && decide (many=0))))
 else if kind=4 then bare && (decide (worker=0) && (decide (id=0) && (decide (part=0) && (mt && non))))
 else if kind=5 then bare && (decide (worker=0) && (idk && (decide (part=0) && (decide (many=0) && non))))
 else false
def M.inB (x lo hi:Int):Bool:=decide (lo≤x) && decide (x≤hi)
theorem l8Form_any (kind id part worker many a b c' d f k a' b' c'' d' f' k' s1 s2 p1 p2 p3 p4:Int) {a1 a2 a3 a4:Option Addr} {n1 n2 n3 n4 c1 c2 c3 c4:Nat} (l1:n1≤1048576) (l2:n2≤1048576) (l3:n3≤1048576) (l4:n4≤1048576) (w:World) :
  Calls Tryz.prog 69 #[.agg #[.int .i64 kind,.int .i64 id,.int .i64 part,.int .i64 worker,.int .i64 many,.int .i64 a,.int .i64 b,.int .i64 c',.int .i64 d,.int .i64 f,.int .i64 k,.int .i64 a',.int .i64 b',.int .i64 c'',.int .i64 d',.int .i64 f',.int .i64 k',.int .i64 s1,.int .i64 s2,.int .i64 p1,.int .i64 p2,.int .i64 p3,.int .i64 p4,.slice a1 n1 c1,.slice a2 n2 c2,.slice a3 n3 c3,.slice a4 n4 c4]] w fun e w'=>e=.returned (.bool (M.formB kind id part worker many (M.mz a b c' d f k a' b' c'' d' f' k' && (decide (s1=0) && decide (s2=0))) (M.Mc.ok ⟨⟨a,b,c',d,f,k⟩,⟨a',b',c'',d',f',k'⟩⟩) (M.sOk (s1,s2)) (M.rows part) (M.inB many 1 8) (M.noneP p1 p2 p3 p4 n1 n2 n3 n4) (M.inB worker 1 9) (M.inB id 1 1000000000) (M.inB part 0 7) (M.inB many 1 1000000000)))∧Below w.heap.size w w':=by
 have CM:=specMachineOk_any ⟨⟨a,b,c',d,f,k⟩,⟨a',b',c'',d',f',k'⟩⟩;have CS:=specStateOk_any (s1,s2);have CR:=l6Rows_any part;have C8:=l1InG_any many 1 8;have CN:=l8None_any p1 p2 p3 p4 (a1:=a1) (a2:=a2) (a3:=a3) (a4:=a4) (c1:=c1) (c2:=c2) (c3:=c3) (c4:=c4) l1 l2 l3 l4;have CW:=l1InG_any worker 1 9;have CI:=l1InG_any id 1 1000000000;have CP:=l1InG_any part 0 7;have CT:=l1InG_any many 1 1000000000;dsimp only [mcv,stv] at CM CS
 change ∀ w,Calls Tryz.prog _ _ w fun e w'=>e=.returned (.bool (M.inB many 1 8))∧w'=w at C8
 change ∀ w,Calls Tryz.prog _ _ w fun e w'=>e=.returned (.bool (M.inB worker 1 9))∧w'=w at CW
 change ∀ w,Calls Tryz.prog _ _ w fun e w'=>e=.returned (.bool (M.inB id 1 1000000000))∧w'=w at CI
 change ∀ w,Calls Tryz.prog _ _ w fun e w'=>e=.returned (.bool (M.inB part 0 7))∧w'=w at CP
 change ∀ w,Calls Tryz.prog _ _ w fun e w'=>e=.returned (.bool (M.inB many 1 1000000000))∧w'=w at CT
 generalize Rb:M.mz a b c' d f k a' b' c'' d' f' k'=mz;generalize hR:M.formB _ _ _ _ _ _ _ _ _ _ _ _ _ _ _=RB;generalize M.Mc.ok ⟨⟨a,b,c',d,f,k⟩,⟨a',b',c'',d',f',k'⟩⟩=Ab at CM hR;generalize M.sOk (s1,s2)=Bb at CS hR;generalize M.rows part=Cb at CR hR;generalize M.inB many 1 8=m8 at C8 hR;generalize M.noneP p1 p2 p3 p4 n1 n2 n3 n4=Wa at CN hR;generalize M.inB worker 1 9=wk at CW hR;generalize M.inB id 1 1000000000=Nb at CI hR;generalize M.inB part 0 7=p7 at CP hR;generalize M.inB many 1 1000000000=mt at CT hR;have Sb:=Hd (Rb);have Db:=Hd (hR);clear Rb hR;go_enter Tryz.func69,Tryz.ntmps69;have Aa:H9 (Lies ((w.alloc (.cells (v12' kind id part worker many a b c' d f k a' b' c'' d' f' k' s1 s2 p1 p2 p3 p4 a1 n1 c1 a2 n2 c2 a3 n3 c3 a4 n4 c4).toArray 92)).alloc (.cells #[it 0,it 0] 31)) w.heap.size (v12' kind id part worker many a b c' d f k a' b' c'' d' f' k' s1 s2 p1 p2 p3 p4 a1 n1 c1 a2 n2 c2 a3 n3 c3 a4 n4 c4)):=(lies_new _ _ _).alloc _;have Ua:H9 (Lies ((w.alloc (.cells (v12' kind id part worker many a b c' d f k a' b' c'' d' f' k' s1 s2 p1 p2 p3 p4 a1 n1 c1 a2 n2 c2 a3 n3 c3 a4 n4 c4).toArray 92)).alloc (.cells #[it 0,it 0] 31)) (w.heap.size+1) [it 0,it 0]):=lies_new2 _ _ _ _;have Ba:H9 (Below w.heap.size w ((w.alloc (.cells (v12' kind id part worker many a b c' d f k a' b' c'' d' f' k' s1 s2 p1 p2 p3 p4 a1 n1 c1 a2 n2 c2 a3 n3 c3 a4 n4 c4).toArray 92)).alloc (.cells #[it 0,it 0] 31))):=((Below.refl _ _).alloc (Nat.le_refl _) _).alloc (by simp) _;(go_wp2_with (with_reducible refine wpList_stop 11 ?_ ?_;rfl));show wpList _ _ _ _ _ _;generalize ((w.alloc (.cells (v12' kind id part worker many a b c' d f k a' b' c'' d' f' k' s1 s2 p1 p2 p3 p4 a1 n1 c1 a2 n2 c2 a3 n3 c3 a4 n4 c4).toArray 92)).alloc (.cells #[it 0,it 0] 31))=wa at Aa Ua Ba  ⊢;with_reducible refine wpList_run ?qg (.bool mz) wa ?qrun ?_
 case qg=>exact rfl
 case qrun =>
  go_simp;rw [← Sb.o];exact mz_ite (fun b=>Result.ok (Next.value (Value.bool b)) wa) a b c' d f k a' b' c'' d' f' k'
 show wpList _ _ _ _ _ _;clear Sb
 cases mz with
 | false =>
  have Xa:M.formB kind id part worker many false Ab Bb Cb m8 Wa wk Nb p7 mt=RB:=(by have:=Db.o;simpa using this);have HR:=Hd (Xa);clear Db Xa;have y3:=Aa.o.c 3 rfl;(go_wp2_with fail);clear y3;refine (CW _).mono ?_;rintro e wz ⟨rfl,Da⟩;have Fa:=Da.symm;clear Da;subst Fa;clear CW;have y1:=Aa.o.c 1 rfl;(go_wp2_with fail);clear y1;refine (CI _).mono ?_;rintro e wz ⟨rfl,Da⟩;have Fa:=Da.symm;clear Da;subst Fa;clear CI;by_cases h1:kind=1
  ·
   skip
   have e1:(kind == 1)=true:=(by simp [h1]);have y0:=Aa.o.c 0 rfl;have y5:=Aa.o.c 5 rfl;have y6:=Aa.o.c 6 rfl;have y7:=Aa.o.c 7 rfl;have y8:=Aa.o.c 8 rfl;have y9:=Aa.o.c 9 rfl;have Eb:=Aa.o.c 10 rfl;have Fb:=Aa.o.c 11 rfl;have Gb:=Aa.o.c 12 rfl;have Hb:=Aa.o.c 13 rfl;have Ib:=Aa.o.c 14 rfl;have Jb:=Aa.o.c 15 rfl;have Kb:=Aa.o.c 16 rfl;(go_wp2_with fail);clear y0 y5 y6 y7 y8 y9 Eb Fb Gb Hb Ib Jb Kb;refine (CM _).mono ?_;rintro e wb ⟨rfl,hb⟩;have Ja:=Hd (Aa.o.belowS hb);have Ia:=Hd (Ba.o.trans (hb.mono Ba.o.size));clear Aa Ua Ba;clear hb;clear CM
   cases Ab with
   | false =>
    have HF:H9 (false=RB):=(by show _=_;rw [← HR.o];simp [M.formB,h1]);clear HR;go_wp2;go_ret;exact ⟨ret_bool HF.o,Ia.o⟩
   | true =>
    have Ya:=Ja.o.c 17 rfl;have Za:=Ja.o.c 18 rfl;(go_wp2_with fail);clear Ya Za;refine (CS _).mono ?_;rintro e wc ⟨rfl,hb⟩;have Ca:=Hd (Ja.o.belowS hb);have Ga:=Hd (Ia.o.trans (hb.mono Ia.o.size));clear Ja Ia;clear hb;clear CS
    cases Bb with
    | false =>
     have HF:H9 (false=RB):=(by show _=_;rw [← HR.o];simp [M.formB,h1]);clear HR;go_wp2;go_ret;exact ⟨ret_bool HF.o,Ga.o⟩
    | true =>
     have y2:=Ca.o.c 2 rfl;(go_wp2_with fail);clear y2;refine (CR _).mono ?_;rintro e wz ⟨rfl,Da⟩;have Fa:=Da.symm;clear Da;subst Fa;clear CR
     cases Cb with
     | false =>
      have HF:H9 (false=RB):=(by show _=_;rw [← HR.o];simp [M.formB,h1]);clear HR;go_wp2;go_ret;exact ⟨ret_bool HF.o,Ga.o⟩
     | true =>
      have y4:=Ca.o.c 4 rfl;(go_wp2_with fail);clear y4;refine (C8 _).mono ?_;rintro e wz ⟨rfl,Da⟩;have Fa:=Da.symm;clear Da;subst Fa;clear C8
      cases m8 with
      | false =>
       have HF:H9 (false=RB):=(by show _=_;rw [← HR.o];simp [M.formB,h1]);clear HR;go_wp2;go_ret;exact ⟨ret_bool HF.o,Ga.o⟩
      | true =>
       have y1:=Ca.o.c 1 rfl;have y3:=Ca.o.c 3 rfl;have Ka:=Ca.o.c 19 rfl;have La:=Ca.o.c 20 rfl;have Na:=Ca.o.c 21 rfl;have Oa:=Ca.o.c 22 rfl;have Pa:=Ca.o.c 23 rfl;have Qa:=Ca.o.c 24 rfl;have Ra:=Ca.o.c 25 rfl;have Sa:=Ca.o.c 26 rfl;by_cases Ea:id=0
       case neg =>
        have gn:(id == 0)=false:=(by simp [Ea]);have HF:H9 (false=RB):=(by show _=_;rw [← HR.o];simp [M.formB,h1,Ea]);clear HR;go_wp2;go_ret;exact ⟨ret_bool HF.o,Ga.o⟩
       have Ob:(id == 0)=true:=(by simp [Ea]);by_cases Ha:worker=0
       case neg =>
        have gn:(worker == 0)=false:=(by simp [Ha]);have HF:H9 (false=RB):=(by show _=_;rw [← HR.o];simp [M.formB,h1,Ea,Ha]);clear HR;go_wp2;go_ret;exact ⟨ret_bool HF.o,Ga.o⟩
       have Pb:(worker == 0)=true:=(by simp [Ha]);(go_wp2_with fail);refine (CN _).mono ?_;rintro e wd ⟨rfl,hb⟩;have Lb:=Hd (Ga.o.trans (hb.mono Ga.o.size));clear Ca Ga;clear hb;clear CN;have HF:H9 (Wa=RB):=(by show _=_;rw [← HR.o];simp [M.formB,h1,Ea,Ha]);clear HR;go_wp2;go_ret;exact ⟨ret_bool HF.o,Lb.o⟩
  have e1:(kind == 1)=false:=(by simp [h1]);by_cases h2:kind=2
  ·
   skip
   have e2:(kind == 2)=true:=(by simp [h2]);have y0:=Aa.o.c 0 rfl;have y1:=Aa.o.c 1 rfl;have y2:=Aa.o.c 2 rfl;have y3:=Aa.o.c 3 rfl;have y4:=Aa.o.c 4 rfl;have Ka:=Aa.o.c 19 rfl;have La:=Aa.o.c 20 rfl;have Na:=Aa.o.c 21 rfl;have Oa:=Aa.o.c 22 rfl;have Pa:=Aa.o.c 23 rfl;have Qa:=Aa.o.c 24 rfl;have Ra:=Aa.o.c 25 rfl;have Sa:=Aa.o.c 26 rfl;have HF:H9 (false=RB):=(by show _=_;rw [← HR.o];simp [M.formB,h2]);clear HR;go_wp2;go_ret;exact ⟨ret_bool HF.o,Ba.o⟩
  have e2:(kind == 2)=false:=(by simp [h2]);by_cases h3:kind=3
  ·
   skip
   have e3:(kind == 3)=true:=(by simp [h3]);have y0:=Aa.o.c 0 rfl;have y1:=Aa.o.c 1 rfl;have y2:=Aa.o.c 2 rfl;have y3:=Aa.o.c 3 rfl;have y4:=Aa.o.c 4 rfl;have Ka:=Aa.o.c 19 rfl;have La:=Aa.o.c 20 rfl;have Na:=Aa.o.c 21 rfl;have Oa:=Aa.o.c 22 rfl;have Pa:=Aa.o.c 23 rfl;have Qa:=Aa.o.c 24 rfl;have Ra:=Aa.o.c 25 rfl;have Sa:=Aa.o.c 26 rfl;have HF:H9 (false=RB):=(by show _=_;rw [← HR.o];simp [M.formB,h3]);clear HR;go_wp2;go_ret;exact ⟨ret_bool HF.o,Ba.o⟩
  have e3:(kind == 3)=false:=(by simp [h3]);by_cases h4:kind=4
  ·
   skip
   have e4:(kind == 4)=true:=(by simp [h4]);have y0:=Aa.o.c 0 rfl;have y1:=Aa.o.c 1 rfl;have y2:=Aa.o.c 2 rfl;have y3:=Aa.o.c 3 rfl;have y4:=Aa.o.c 4 rfl;have Ka:=Aa.o.c 19 rfl;have La:=Aa.o.c 20 rfl;have Na:=Aa.o.c 21 rfl;have Oa:=Aa.o.c 22 rfl;have Pa:=Aa.o.c 23 rfl;have Qa:=Aa.o.c 24 rfl;have Ra:=Aa.o.c 25 rfl;have Sa:=Aa.o.c 26 rfl;have HF:H9 (false=RB):=(by show _=_;rw [← HR.o];simp [M.formB,h4]);clear HR;go_wp2;go_ret;exact ⟨ret_bool HF.o,Ba.o⟩
  have e4:(kind == 4)=false:=(by simp [h4]);by_cases h5:kind=5
  ·
   skip
   have e5:(kind == 5)=true:=(by simp [h5]);have y0:=Aa.o.c 0 rfl;have y1:=Aa.o.c 1 rfl;have y2:=Aa.o.c 2 rfl;have y3:=Aa.o.c 3 rfl;have y4:=Aa.o.c 4 rfl;have Ka:=Aa.o.c 19 rfl;have La:=Aa.o.c 20 rfl;have Na:=Aa.o.c 21 rfl;have Oa:=Aa.o.c 22 rfl;have Pa:=Aa.o.c 23 rfl;have Qa:=Aa.o.c 24 rfl;have Ra:=Aa.o.c 25 rfl;have Sa:=Aa.o.c 26 rfl;have HF:H9 (false=RB):=(by show _=_;rw [← HR.o];simp [M.formB,h5]);clear HR;go_wp2;go_ret;exact ⟨ret_bool HF.o,Ba.o⟩
  have e5:(kind == 5)=false:=(by simp [h5]);have y0:=Aa.o.c 0 rfl;have HF:H9 (false=RB):=(by show _=_;rw [← HR.o];simp [M.formB,h1,h2,h3,h4,h5]);clear HR;go_wp2;go_ret;exact ⟨ret_bool HF.o,Ba.o⟩
 | true =>
  by_cases hs:s1=0∧s2=0
  ·
   skip
   have Xa:M.formB kind id part worker many true Ab Bb Cb m8 Wa wk Nb p7 mt=RB:=(by have:=Db.o;simpa [hs.1,hs.2] using this);obtain ⟨rfl,rfl⟩:=hs;have Ya:=Aa.o.c 17 rfl;have Za:=Aa.o.c 18 rfl;have z0:=Ua.o.c 0 rfl;have z1:=Ua.o.c 1 rfl
   skip
   have HR:=Hd (Xa);clear Db Xa;have y3:=Aa.o.c 3 rfl;(go_wp2_with fail);clear y3;refine (CW _).mono ?_;rintro e wz ⟨rfl,Da⟩;have Fa:=Da.symm;clear Da;subst Fa;clear CW;have y1:=Aa.o.c 1 rfl;(go_wp2_with fail);clear y1;refine (CI _).mono ?_;rintro e wz ⟨rfl,Da⟩;have Fa:=Da.symm;clear Da;subst Fa;clear CI;by_cases h1:kind=1
   ·
    skip
    have e1:(kind == 1)=true:=(by simp [h1]);have y0:=Aa.o.c 0 rfl;have y5:=Aa.o.c 5 rfl;have y6:=Aa.o.c 6 rfl;have y7:=Aa.o.c 7 rfl;have y8:=Aa.o.c 8 rfl;have y9:=Aa.o.c 9 rfl;have Eb:=Aa.o.c 10 rfl;have Fb:=Aa.o.c 11 rfl;have Gb:=Aa.o.c 12 rfl;have Hb:=Aa.o.c 13 rfl;have Ib:=Aa.o.c 14 rfl;have Jb:=Aa.o.c 15 rfl;have Kb:=Aa.o.c 16 rfl;(go_wp2_with fail);clear y0 y5 y6 y7 y8 y9 Eb Fb Gb Hb Ib Jb Kb;refine (CM _).mono ?_;rintro e wb ⟨rfl,hb⟩;have Ja:=Hd (Aa.o.belowS hb);have Ia:=Hd (Ba.o.trans (hb.mono Ba.o.size));clear Aa Ua Ba;clear hb;clear CM
    cases Ab with
    | false =>
     have HF:H9 (false=RB):=(by show _=_;rw [← HR.o];simp [M.formB,h1]);clear HR;go_wp2;go_ret;exact ⟨ret_bool HF.o,Ia.o⟩
    | true =>
     have Ya:=Ja.o.c 17 rfl;have Za:=Ja.o.c 18 rfl;(go_wp2_with fail);clear Ya Za;refine (CS _).mono ?_;rintro e wc ⟨rfl,hb⟩;have Ca:=Hd (Ja.o.belowS hb);have Ga:=Hd (Ia.o.trans (hb.mono Ia.o.size));clear Ja Ia;clear hb;clear CS
     cases Bb with
     | false =>
      have HF:H9 (false=RB):=(by show _=_;rw [← HR.o];simp [M.formB,h1]);clear HR;go_wp2;go_ret;exact ⟨ret_bool HF.o,Ga.o⟩
     | true =>
      have y2:=Ca.o.c 2 rfl;(go_wp2_with fail);clear y2;refine (CR _).mono ?_;rintro e wz ⟨rfl,Da⟩;have Fa:=Da.symm;clear Da;subst Fa;clear CR
      cases Cb with
      | false =>
       have HF:H9 (false=RB):=(by show _=_;rw [← HR.o];simp [M.formB,h1]);clear HR;go_wp2;go_ret;exact ⟨ret_bool HF.o,Ga.o⟩
      | true =>
       have y4:=Ca.o.c 4 rfl;(go_wp2_with fail);clear y4;refine (C8 _).mono ?_;rintro e wz ⟨rfl,Da⟩;have Fa:=Da.symm;clear Da;subst Fa;clear C8
       cases m8 with
       | false =>
        have HF:H9 (false=RB):=(by show _=_;rw [← HR.o];simp [M.formB,h1]);clear HR;go_wp2;go_ret;exact ⟨ret_bool HF.o,Ga.o⟩
       | true =>
        have y1:=Ca.o.c 1 rfl;have y3:=Ca.o.c 3 rfl;have Ka:=Ca.o.c 19 rfl;have La:=Ca.o.c 20 rfl;have Na:=Ca.o.c 21 rfl;have Oa:=Ca.o.c 22 rfl;have Pa:=Ca.o.c 23 rfl;have Qa:=Ca.o.c 24 rfl;have Ra:=Ca.o.c 25 rfl;have Sa:=Ca.o.c 26 rfl;by_cases Ea:id=0
        case neg =>
         have gn:(id == 0)=false:=(by simp [Ea]);have HF:H9 (false=RB):=(by show _=_;rw [← HR.o];simp [M.formB,h1,Ea]);clear HR;go_wp2;go_ret;exact ⟨ret_bool HF.o,Ga.o⟩
        have Ob:(id == 0)=true:=(by simp [Ea]);by_cases Ha:worker=0
        case neg =>
         have gn:(worker == 0)=false:=(by simp [Ha]);have HF:H9 (false=RB):=(by show _=_;rw [← HR.o];simp [M.formB,h1,Ea,Ha]);clear HR;go_wp2;go_ret;exact ⟨ret_bool HF.o,Ga.o⟩
        have Pb:(worker == 0)=true:=(by simp [Ha]);(go_wp2_with fail);refine (CN _).mono ?_;rintro e wd ⟨rfl,hb⟩;have Lb:=Hd (Ga.o.trans (hb.mono Ga.o.size));clear Ca Ga;clear hb;clear CN;have HF:H9 (Wa=RB):=(by show _=_;rw [← HR.o];simp [M.formB,h1,Ea,Ha]);clear HR;go_wp2;go_ret;exact ⟨ret_bool HF.o,Lb.o⟩
   have e1:(kind == 1)=false:=(by simp [h1]);by_cases h2:kind=2
   ·
    skip
    have e2:(kind == 2)=true:=(by simp [h2]);have y0:=Aa.o.c 0 rfl;have y1:=Aa.o.c 1 rfl;have y2:=Aa.o.c 2 rfl;have y3:=Aa.o.c 3 rfl;have y4:=Aa.o.c 4 rfl;have Ka:=Aa.o.c 19 rfl;have La:=Aa.o.c 20 rfl;have Na:=Aa.o.c 21 rfl;have Oa:=Aa.o.c 22 rfl;have Pa:=Aa.o.c 23 rfl;have Qa:=Aa.o.c 24 rfl;have Ra:=Aa.o.c 25 rfl;have Sa:=Aa.o.c 26 rfl
    cases wk with
    | false =>
     have HF:H9 (false=RB):=(by show _=_;rw [← HR.o];simp [M.formB,h2]);clear HR;go_wp2;go_ret;exact ⟨ret_bool HF.o,Ba.o⟩
    | true =>
     by_cases Ea:id=0
     case neg =>
      have gn:(id == 0)=false:=(by simp [Ea]);have HF:H9 (false=RB):=(by show _=_;rw [← HR.o];simp [M.formB,h2,Ea]);clear HR;go_wp2;go_ret;exact ⟨ret_bool HF.o,Ba.o⟩
     have Ob:(id == 0)=true:=(by simp [Ea]);by_cases Ta:part=0
     case neg =>
      have gn:(part == 0)=false:=(by simp [Ta]);have HF:H9 (false=RB):=(by show _=_;rw [← HR.o];simp [M.formB,h2,Ea,Ta]);clear HR;go_wp2;go_ret;exact ⟨ret_bool HF.o,Ba.o⟩
     have Tb:(part == 0)=true:=(by simp [Ta]);by_cases Va:many=0
     case neg =>
      have gn:(many == 0)=false:=(by simp [Va]);have HF:H9 (false=RB):=(by show _=_;rw [← HR.o];simp [M.formB,h2,Ea,Ta,Va]);clear HR;go_wp2;go_ret;exact ⟨ret_bool HF.o,Ba.o⟩
     have Ub:(many == 0)=true:=(by simp [Va]);(go_wp2_with fail);refine (CN _).mono ?_;rintro e we ⟨rfl,hb⟩;have Ia:=Hd (Ba.o.trans (hb.mono Ba.o.size));clear Aa Ua Ba;clear hb;clear CN;have HF:H9 (Wa=RB):=(by show _=_;rw [← HR.o];simp [M.formB,h2,Ea,Ta,Va]);clear HR;go_wp2;go_ret;exact ⟨ret_bool HF.o,Ia.o⟩
   have e2:(kind == 2)=false:=(by simp [h2]);by_cases h3:kind=3
   ·
    skip
    have e3:(kind == 3)=true:=(by simp [h3]);have y0:=Aa.o.c 0 rfl;have y1:=Aa.o.c 1 rfl;have y2:=Aa.o.c 2 rfl;have y3:=Aa.o.c 3 rfl;have y4:=Aa.o.c 4 rfl;have Ka:=Aa.o.c 19 rfl;have La:=Aa.o.c 20 rfl;have Na:=Aa.o.c 21 rfl;have Oa:=Aa.o.c 22 rfl;have Pa:=Aa.o.c 23 rfl;have Qa:=Aa.o.c 24 rfl;have Ra:=Aa.o.c 25 rfl;have Sa:=Aa.o.c 26 rfl
    cases wk with
    | false =>
     have HF:H9 (false=RB):=(by show _=_;rw [← HR.o];simp [M.formB,h3]);clear HR;go_wp2;go_ret;exact ⟨ret_bool HF.o,Ba.o⟩
    | true =>
     cases Nb with
     | false =>
      have HF:H9 (false=RB):=(by show _=_;rw [← HR.o];simp [M.formB,h3]);clear HR;go_wp2;go_ret;exact ⟨ret_bool HF.o,Ba.o⟩
     | true =>
      (go_wp2_with fail);refine (CP _).mono ?_;rintro e wz ⟨rfl,Da⟩;have Fa:=Da.symm;clear Da;subst Fa;clear CP
      cases p7 with
      | false =>
       have HF:H9 (false=RB):=(by show _=_;rw [← HR.o];simp [M.formB,h3]);clear HR;go_wp2;go_ret;exact ⟨ret_bool HF.o,Ba.o⟩
      | true =>
       by_cases Va:many=0
       case neg =>
        have gn:(many == 0)=false:=(by simp [Va]);have HF:H9 (false=RB):=(by show _=_;rw [← HR.o];simp [M.formB,h3,Va]);clear HR;go_wp2;go_ret;exact ⟨ret_bool HF.o,Ba.o⟩
       have Ub:(many == 0)=true:=(by simp [Va]);have HF:H9 (true=RB):=(by show _=_;rw [← HR.o];simp [M.formB,h3,Va]);clear HR;go_wp2;go_ret;exact ⟨ret_bool HF.o,Ba.o⟩
   have e3:(kind == 3)=false:=(by simp [h3]);by_cases h4:kind=4
   ·
    skip
    have e4:(kind == 4)=true:=(by simp [h4]);have y0:=Aa.o.c 0 rfl;have y1:=Aa.o.c 1 rfl;have y2:=Aa.o.c 2 rfl;have y3:=Aa.o.c 3 rfl;have y4:=Aa.o.c 4 rfl;have Ka:=Aa.o.c 19 rfl;have La:=Aa.o.c 20 rfl;have Na:=Aa.o.c 21 rfl;have Oa:=Aa.o.c 22 rfl;have Pa:=Aa.o.c 23 rfl;have Qa:=Aa.o.c 24 rfl;have Ra:=Aa.o.c 25 rfl;have Sa:=Aa.o.c 26 rfl;by_cases Ha:worker=0
    case neg =>
     have gn:(worker == 0)=false:=(by simp [Ha]);have HF:H9 (false=RB):=(by show _=_;rw [← HR.o];simp [M.formB,h4,Ha]);clear HR;go_wp2;go_ret;exact ⟨ret_bool HF.o,Ba.o⟩
    have Pb:(worker == 0)=true:=(by simp [Ha]);by_cases Ea:id=0
    case neg =>
     have gn:(id == 0)=false:=(by simp [Ea]);have HF:H9 (false=RB):=(by show _=_;rw [← HR.o];simp [M.formB,h4,Ha,Ea]);clear HR;go_wp2;go_ret;exact ⟨ret_bool HF.o,Ba.o⟩
    have Ob:(id == 0)=true:=(by simp [Ea]);by_cases Ta:part=0
    case neg =>
     have gn:(part == 0)=false:=(by simp [Ta]);have HF:H9 (false=RB):=(by show _=_;rw [← HR.o];simp [M.formB,h4,Ha,Ea,Ta]);clear HR;go_wp2;go_ret;exact ⟨ret_bool HF.o,Ba.o⟩
    have Tb:(part == 0)=true:=(by simp [Ta]);(go_wp2_with fail);refine (CT _).mono ?_;rintro e wz ⟨rfl,Da⟩;have Fa:=Da.symm;clear Da;subst Fa;clear CT
    cases mt with
    | false =>
     have HF:H9 (false=RB):=(by show _=_;rw [← HR.o];simp [M.formB,h4,Ha,Ea,Ta]);clear HR;go_wp2;go_ret;exact ⟨ret_bool HF.o,Ba.o⟩
    | true =>
     (go_wp2_with fail);refine (CN _).mono ?_;rintro e we ⟨rfl,hb⟩;have Ia:=Hd (Ba.o.trans (hb.mono Ba.o.size));clear Aa Ua Ba;clear hb;clear CN;have HF:H9 (Wa=RB):=(by show _=_;rw [← HR.o];simp [M.formB,h4,Ha,Ea,Ta]);clear HR;go_wp2;go_ret;exact ⟨ret_bool HF.o,Ia.o⟩
   have e4:(kind == 4)=false:=(by simp [h4]);by_cases h5:kind=5
   ·
    skip
    have e5:(kind == 5)=true:=(by simp [h5]);have y0:=Aa.o.c 0 rfl;have y1:=Aa.o.c 1 rfl;have y2:=Aa.o.c 2 rfl;have y3:=Aa.o.c 3 rfl;have y4:=Aa.o.c 4 rfl;have Ka:=Aa.o.c 19 rfl;have La:=Aa.o.c 20 rfl;have Na:=Aa.o.c 21 rfl;have Oa:=Aa.o.c 22 rfl;have Pa:=Aa.o.c 23 rfl;have Qa:=Aa.o.c 24 rfl;have Ra:=Aa.o.c 25 rfl;have Sa:=Aa.o.c 26 rfl;by_cases Ha:worker=0
    case neg =>
     have gn:(worker == 0)=false:=(by simp [Ha]);have HF:H9 (false=RB):=(by show _=_;rw [← HR.o];simp [M.formB,h5,Ha]);clear HR;go_wp2;go_ret;exact ⟨ret_bool HF.o,Ba.o⟩
    have Pb:(worker == 0)=true:=by simp [Ha]
    cases Nb with
    | false =>
     have HF:H9 (false=RB):=(by show _=_;rw [← HR.o];simp [M.formB,h5,Ha]);clear HR;go_wp2;go_ret;exact ⟨ret_bool HF.o,Ba.o⟩
    | true =>
     by_cases Ta:part=0
     case neg =>
      have gn:(part == 0)=false:=(by simp [Ta]);have HF:H9 (false=RB):=(by show _=_;rw [← HR.o];simp [M.formB,h5,Ha,Ta]);clear HR;go_wp2;go_ret;exact ⟨ret_bool HF.o,Ba.o⟩
     have Tb:(part == 0)=true:=(by simp [Ta]);by_cases Va:many=0
     case neg =>
      have gn:(many == 0)=false:=(by simp [Va]);have HF:H9 (false=RB):=(by show _=_;rw [← HR.o];simp [M.formB,h5,Ha,Ta,Va]);clear HR;go_wp2;go_ret;exact ⟨ret_bool HF.o,Ba.o⟩
     have Ub:(many == 0)=true:=(by simp [Va]);(go_wp2_with fail);refine (CN _).mono ?_;rintro e we ⟨rfl,hb⟩;have Ia:=Hd (Ba.o.trans (hb.mono Ba.o.size));clear Aa Ua Ba;clear hb;clear CN;have HF:H9 (Wa=RB):=(by show _=_;rw [← HR.o];simp [M.formB,h5,Ha,Ta,Va]);clear HR;go_wp2;go_ret;exact ⟨ret_bool HF.o,Ia.o⟩
   have e5:(kind == 5)=false:=(by simp [h5]);have y0:=Aa.o.c 0 rfl;have HF:H9 (false=RB):=(by show _=_;rw [← HR.o];simp [M.formB,h1,h2,h3,h4,h5]);clear HR;go_wp2;go_ret;exact ⟨ret_bool HF.o,Ba.o⟩
  have Xa:M.formB kind id part worker many false Ab Bb Cb m8 Wa wk Nb p7 mt=RB:=(by have:=Db.o;rw [show (decide (s1=0) && decide (s2=0))=false by rw [Bool.eq_false_iff];intro h;rw [Bool.and_eq_true,decide_eq_true_eq,decide_eq_true_eq] at h;exact hs h] at this;simpa using this);by_cases Qb:s1=0
  ·
   skip
   have Vb:¬ s2=0:=fun e=>hs ⟨Qb,e⟩;have q2:(s2 == 0)=false:=(by simp [Vb]);clear hs;subst Qb;have Ya:=Aa.o.c 17 rfl;have Za:=Aa.o.c 18 rfl;have z0:=Ua.o.c 0 rfl;have z1:=Ua.o.c 1 rfl;have HR:=Hd (Xa);clear Db Xa;have y3:=Aa.o.c 3 rfl;(go_wp2_with fail);clear y3;refine (CW _).mono ?_;rintro e wz ⟨rfl,Da⟩;have Fa:=Da.symm;clear Da;subst Fa;clear CW;have y1:=Aa.o.c 1 rfl;(go_wp2_with fail);clear y1;refine (CI _).mono ?_;rintro e wz ⟨rfl,Da⟩;have Fa:=Da.symm;clear Da;subst Fa;clear CI;by_cases h1:kind=1
   ·
    skip
    have e1:(kind == 1)=true:=(by simp [h1]);have y0:=Aa.o.c 0 rfl;have y5:=Aa.o.c 5 rfl;have y6:=Aa.o.c 6 rfl;have y7:=Aa.o.c 7 rfl;have y8:=Aa.o.c 8 rfl;have y9:=Aa.o.c 9 rfl;have Eb:=Aa.o.c 10 rfl;have Fb:=Aa.o.c 11 rfl;have Gb:=Aa.o.c 12 rfl;have Hb:=Aa.o.c 13 rfl;have Ib:=Aa.o.c 14 rfl;have Jb:=Aa.o.c 15 rfl;have Kb:=Aa.o.c 16 rfl;(go_wp2_with fail);clear y0 y5 y6 y7 y8 y9 Eb Fb Gb Hb Ib Jb Kb;refine (CM _).mono ?_;rintro e wb ⟨rfl,hb⟩;have Ja:=Hd (Aa.o.belowS hb);have Ia:=Hd (Ba.o.trans (hb.mono Ba.o.size));clear Aa Ua Ba;clear hb;clear CM
    cases Ab with
    | false =>
     have HF:H9 (false=RB):=(by show _=_;rw [← HR.o];simp [M.formB,h1]);clear HR;go_wp2;go_ret;exact ⟨ret_bool HF.o,Ia.o⟩
    | true =>
     have Ya:=Ja.o.c 17 rfl;have Za:=Ja.o.c 18 rfl;(go_wp2_with fail);clear Ya Za;refine (CS _).mono ?_;rintro e wc ⟨rfl,hb⟩;have Ca:=Hd (Ja.o.belowS hb);have Ga:=Hd (Ia.o.trans (hb.mono Ia.o.size));clear Ja Ia;clear hb;clear CS
     cases Bb with
     | false =>
      have HF:H9 (false=RB):=(by show _=_;rw [← HR.o];simp [M.formB,h1]);clear HR;go_wp2;go_ret;exact ⟨ret_bool HF.o,Ga.o⟩
     | true =>
      have y2:=Ca.o.c 2 rfl;(go_wp2_with fail);clear y2;refine (CR _).mono ?_;rintro e wz ⟨rfl,Da⟩;have Fa:=Da.symm;clear Da;subst Fa;clear CR
      cases Cb with
      | false =>
       have HF:H9 (false=RB):=(by show _=_;rw [← HR.o];simp [M.formB,h1]);clear HR;go_wp2;go_ret;exact ⟨ret_bool HF.o,Ga.o⟩
      | true =>
       have y4:=Ca.o.c 4 rfl;(go_wp2_with fail);clear y4;refine (C8 _).mono ?_;rintro e wz ⟨rfl,Da⟩;have Fa:=Da.symm;clear Da;subst Fa;clear C8
       cases m8 with
       | false =>
        have HF:H9 (false=RB):=(by show _=_;rw [← HR.o];simp [M.formB,h1]);clear HR;go_wp2;go_ret;exact ⟨ret_bool HF.o,Ga.o⟩
       | true =>
        have y1:=Ca.o.c 1 rfl;have y3:=Ca.o.c 3 rfl;have Ka:=Ca.o.c 19 rfl;have La:=Ca.o.c 20 rfl;have Na:=Ca.o.c 21 rfl;have Oa:=Ca.o.c 22 rfl;have Pa:=Ca.o.c 23 rfl;have Qa:=Ca.o.c 24 rfl;have Ra:=Ca.o.c 25 rfl;have Sa:=Ca.o.c 26 rfl;by_cases Ea:id=0
        case neg =>
         have gn:(id == 0)=false:=(by simp [Ea]);have HF:H9 (false=RB):=(by show _=_;rw [← HR.o];simp [M.formB,h1,Ea]);clear HR;go_wp2;go_ret;exact ⟨ret_bool HF.o,Ga.o⟩
        have Ob:(id == 0)=true:=(by simp [Ea]);by_cases Ha:worker=0
        case neg =>
         have gn:(worker == 0)=false:=(by simp [Ha]);have HF:H9 (false=RB):=(by show _=_;rw [← HR.o];simp [M.formB,h1,Ea,Ha]);clear HR;go_wp2;go_ret;exact ⟨ret_bool HF.o,Ga.o⟩
        have Pb:(worker == 0)=true:=(by simp [Ha]);(go_wp2_with fail);refine (CN _).mono ?_;rintro e wd ⟨rfl,hb⟩;have Lb:=Hd (Ga.o.trans (hb.mono Ga.o.size));clear Ca Ga;clear hb;clear CN;have HF:H9 (Wa=RB):=(by show _=_;rw [← HR.o];simp [M.formB,h1,Ea,Ha]);clear HR;go_wp2;go_ret;exact ⟨ret_bool HF.o,Lb.o⟩
   have e1:(kind == 1)=false:=(by simp [h1]);by_cases h2:kind=2
   ·
    skip
    have e2:(kind == 2)=true:=(by simp [h2]);have y0:=Aa.o.c 0 rfl;have y1:=Aa.o.c 1 rfl;have y2:=Aa.o.c 2 rfl;have y3:=Aa.o.c 3 rfl;have y4:=Aa.o.c 4 rfl;have Ka:=Aa.o.c 19 rfl;have La:=Aa.o.c 20 rfl;have Na:=Aa.o.c 21 rfl;have Oa:=Aa.o.c 22 rfl;have Pa:=Aa.o.c 23 rfl;have Qa:=Aa.o.c 24 rfl;have Ra:=Aa.o.c 25 rfl;have Sa:=Aa.o.c 26 rfl;have HF:H9 (false=RB):=(by show _=_;rw [← HR.o];simp [M.formB,h2]);clear HR;go_wp2;go_ret;exact ⟨ret_bool HF.o,Ba.o⟩
   have e2:(kind == 2)=false:=(by simp [h2]);by_cases h3:kind=3
   ·
    skip
    have e3:(kind == 3)=true:=(by simp [h3]);have y0:=Aa.o.c 0 rfl;have y1:=Aa.o.c 1 rfl;have y2:=Aa.o.c 2 rfl;have y3:=Aa.o.c 3 rfl;have y4:=Aa.o.c 4 rfl;have Ka:=Aa.o.c 19 rfl;have La:=Aa.o.c 20 rfl;have Na:=Aa.o.c 21 rfl;have Oa:=Aa.o.c 22 rfl;have Pa:=Aa.o.c 23 rfl;have Qa:=Aa.o.c 24 rfl;have Ra:=Aa.o.c 25 rfl;have Sa:=Aa.o.c 26 rfl;have HF:H9 (false=RB):=(by show _=_;rw [← HR.o];simp [M.formB,h3]);clear HR;go_wp2;go_ret;exact ⟨ret_bool HF.o,Ba.o⟩
   have e3:(kind == 3)=false:=(by simp [h3]);by_cases h4:kind=4
   ·
    skip
    have e4:(kind == 4)=true:=(by simp [h4]);have y0:=Aa.o.c 0 rfl;have y1:=Aa.o.c 1 rfl;have y2:=Aa.o.c 2 rfl;have y3:=Aa.o.c 3 rfl;have y4:=Aa.o.c 4 rfl;have Ka:=Aa.o.c 19 rfl;have La:=Aa.o.c 20 rfl;have Na:=Aa.o.c 21 rfl;have Oa:=Aa.o.c 22 rfl;have Pa:=Aa.o.c 23 rfl;have Qa:=Aa.o.c 24 rfl;have Ra:=Aa.o.c 25 rfl;have Sa:=Aa.o.c 26 rfl;have HF:H9 (false=RB):=(by show _=_;rw [← HR.o];simp [M.formB,h4]);clear HR;go_wp2;go_ret;exact ⟨ret_bool HF.o,Ba.o⟩
   have e4:(kind == 4)=false:=(by simp [h4]);by_cases h5:kind=5
   ·
    skip
    have e5:(kind == 5)=true:=(by simp [h5]);have y0:=Aa.o.c 0 rfl;have y1:=Aa.o.c 1 rfl;have y2:=Aa.o.c 2 rfl;have y3:=Aa.o.c 3 rfl;have y4:=Aa.o.c 4 rfl;have Ka:=Aa.o.c 19 rfl;have La:=Aa.o.c 20 rfl;have Na:=Aa.o.c 21 rfl;have Oa:=Aa.o.c 22 rfl;have Pa:=Aa.o.c 23 rfl;have Qa:=Aa.o.c 24 rfl;have Ra:=Aa.o.c 25 rfl;have Sa:=Aa.o.c 26 rfl;have HF:H9 (false=RB):=(by show _=_;rw [← HR.o];simp [M.formB,h5]);clear HR;go_wp2;go_ret;exact ⟨ret_bool HF.o,Ba.o⟩
   have e5:(kind == 5)=false:=(by simp [h5]);have y0:=Aa.o.c 0 rfl;have HF:H9 (false=RB):=(by show _=_;rw [← HR.o];simp [M.formB,h1,h2,h3,h4,h5]);clear HR;go_wp2;go_ret;exact ⟨ret_bool HF.o,Ba.o⟩
  have q1:(s1 == 0)=false:=(by simp [Qb]);clear hs;have Ya:=Aa.o.c 17 rfl;have Za:=Aa.o.c 18 rfl;have z0:=Ua.o.c 0 rfl;have z1:=Ua.o.c 1 rfl;have HR:=Hd (Xa);clear Db Xa;have y3:=Aa.o.c 3 rfl;(go_wp2_with fail);clear y3;refine (CW _).mono ?_;rintro e wz ⟨rfl,Da⟩;have Fa:=Da.symm;clear Da;subst Fa;clear CW;have y1:=Aa.o.c 1 rfl;(go_wp2_with fail);clear y1;refine (CI _).mono ?_;rintro e wz ⟨rfl,Da⟩;have Fa:=Da.symm;clear Da;subst Fa;clear CI;by_cases h1:kind=1
  ·
   skip
   have e1:(kind == 1)=true:=(by simp [h1]);have y0:=Aa.o.c 0 rfl;have y5:=Aa.o.c 5 rfl;have y6:=Aa.o.c 6 rfl;have y7:=Aa.o.c 7 rfl;have y8:=Aa.o.c 8 rfl;have y9:=Aa.o.c 9 rfl;have Eb:=Aa.o.c 10 rfl;have Fb:=Aa.o.c 11 rfl;have Gb:=Aa.o.c 12 rfl;have Hb:=Aa.o.c 13 rfl;have Ib:=Aa.o.c 14 rfl;have Jb:=Aa.o.c 15 rfl;have Kb:=Aa.o.c 16 rfl;(go_wp2_with fail);clear y0 y5 y6 y7 y8 y9 Eb Fb Gb Hb Ib Jb Kb;refine (CM _).mono ?_;rintro e wb ⟨rfl,hb⟩;have Ja:=Hd (Aa.o.belowS hb);have Ia:=Hd (Ba.o.trans (hb.mono Ba.o.size));clear Aa Ua Ba;clear hb;clear CM
   cases Ab with
   | false =>
    have HF:H9 (false=RB):=(by show _=_;rw [← HR.o];simp [M.formB,h1]);clear HR;go_wp2;go_ret;exact ⟨ret_bool HF.o,Ia.o⟩
   | true =>
    have Ya:=Ja.o.c 17 rfl;have Za:=Ja.o.c 18 rfl;(go_wp2_with fail);clear Ya Za;refine (CS _).mono ?_;rintro e wc ⟨rfl,hb⟩;have Ca:=Hd (Ja.o.belowS hb);have Ga:=Hd (Ia.o.trans (hb.mono Ia.o.size));clear Ja Ia;clear hb;clear CS
    cases Bb with
    | false =>
     have HF:H9 (false=RB):=(by show _=_;rw [← HR.o];simp [M.formB,h1]);clear HR;go_wp2;go_ret;exact ⟨ret_bool HF.o,Ga.o⟩
    | true =>
     have y2:=Ca.o.c 2 rfl;(go_wp2_with fail);clear y2;refine (CR _).mono ?_;rintro e wz ⟨rfl,Da⟩;have Fa:=Da.symm;clear Da;subst Fa;clear CR
     cases Cb with
     | false =>
      have HF:H9 (false=RB):=(by show _=_;rw [← HR.o];simp [M.formB,h1]);clear HR;go_wp2;go_ret;exact ⟨ret_bool HF.o,Ga.o⟩
     | true =>
      have y4:=Ca.o.c 4 rfl;(go_wp2_with fail);clear y4;refine (C8 _).mono ?_;rintro e wz ⟨rfl,Da⟩;have Fa:=Da.symm;clear Da;subst Fa;clear C8
      cases m8 with
      | false =>
       have HF:H9 (false=RB):=(by show _=_;rw [← HR.o];simp [M.formB,h1]);clear HR;go_wp2;go_ret;exact ⟨ret_bool HF.o,Ga.o⟩
      | true =>
       have y1:=Ca.o.c 1 rfl;have y3:=Ca.o.c 3 rfl;have Ka:=Ca.o.c 19 rfl;have La:=Ca.o.c 20 rfl;have Na:=Ca.o.c 21 rfl;have Oa:=Ca.o.c 22 rfl;have Pa:=Ca.o.c 23 rfl;have Qa:=Ca.o.c 24 rfl;have Ra:=Ca.o.c 25 rfl;have Sa:=Ca.o.c 26 rfl;by_cases Ea:id=0
       case neg =>
        have gn:(id == 0)=false:=(by simp [Ea]);have HF:H9 (false=RB):=(by show _=_;rw [← HR.o];simp [M.formB,h1,Ea]);clear HR;go_wp2;go_ret;exact ⟨ret_bool HF.o,Ga.o⟩
       have Ob:(id == 0)=true:=(by simp [Ea]);by_cases Ha:worker=0
       case neg =>
        have gn:(worker == 0)=false:=(by simp [Ha]);have HF:H9 (false=RB):=(by show _=_;rw [← HR.o];simp [M.formB,h1,Ea,Ha]);clear HR;go_wp2;go_ret;exact ⟨ret_bool HF.o,Ga.o⟩
       have Pb:(worker == 0)=true:=(by simp [Ha]);(go_wp2_with fail);refine (CN _).mono ?_;rintro e wd ⟨rfl,hb⟩;have Lb:=Hd (Ga.o.trans (hb.mono Ga.o.size));clear Ca Ga;clear hb;clear CN;have HF:H9 (Wa=RB):=(by show _=_;rw [← HR.o];simp [M.formB,h1,Ea,Ha]);clear HR;go_wp2;go_ret;exact ⟨ret_bool HF.o,Lb.o⟩
  have e1:(kind == 1)=false:=(by simp [h1]);by_cases h2:kind=2
  ·
   skip
   have e2:(kind == 2)=true:=(by simp [h2]);have y0:=Aa.o.c 0 rfl;have y1:=Aa.o.c 1 rfl;have y2:=Aa.o.c 2 rfl;have y3:=Aa.o.c 3 rfl;have y4:=Aa.o.c 4 rfl;have Ka:=Aa.o.c 19 rfl;have La:=Aa.o.c 20 rfl;have Na:=Aa.o.c 21 rfl;have Oa:=Aa.o.c 22 rfl;have Pa:=Aa.o.c 23 rfl;have Qa:=Aa.o.c 24 rfl;have Ra:=Aa.o.c 25 rfl;have Sa:=Aa.o.c 26 rfl;have HF:H9 (false=RB):=(by show _=_;rw [← HR.o];simp [M.formB,h2]);clear HR;go_wp2;go_ret;exact ⟨ret_bool HF.o,Ba.o⟩
  have e2:(kind == 2)=false:=(by simp [h2]);by_cases h3:kind=3
  ·
   skip
   have e3:(kind == 3)=true:=(by simp [h3]);have y0:=Aa.o.c 0 rfl;have y1:=Aa.o.c 1 rfl;have y2:=Aa.o.c 2 rfl;have y3:=Aa.o.c 3 rfl;have y4:=Aa.o.c 4 rfl;have Ka:=Aa.o.c 19 rfl;have La:=Aa.o.c 20 rfl;have Na:=Aa.o.c 21 rfl;have Oa:=Aa.o.c 22 rfl;have Pa:=Aa.o.c 23 rfl;have Qa:=Aa.o.c 24 rfl;have Ra:=Aa.o.c 25 rfl;have Sa:=Aa.o.c 26 rfl;have HF:H9 (false=RB):=(by show _=_;rw [← HR.o];simp [M.formB,h3]);clear HR;go_wp2;go_ret;exact ⟨ret_bool HF.o,Ba.o⟩
  have e3:(kind == 3)=false:=(by simp [h3]);by_cases h4:kind=4
  ·
   skip
   have e4:(kind == 4)=true:=(by simp [h4]);have y0:=Aa.o.c 0 rfl;have y1:=Aa.o.c 1 rfl;have y2:=Aa.o.c 2 rfl;have y3:=Aa.o.c 3 rfl;have y4:=Aa.o.c 4 rfl;have Ka:=Aa.o.c 19 rfl;have La:=Aa.o.c 20 rfl;have Na:=Aa.o.c 21 rfl;have Oa:=Aa.o.c 22 rfl;have Pa:=Aa.o.c 23 rfl;have Qa:=Aa.o.c 24 rfl;have Ra:=Aa.o.c 25 rfl;have Sa:=Aa.o.c 26 rfl;have HF:H9 (false=RB):=(by show _=_;rw [← HR.o];simp [M.formB,h4]);clear HR;go_wp2;go_ret;exact ⟨ret_bool HF.o,Ba.o⟩
  have e4:(kind == 4)=false:=(by simp [h4]);by_cases h5:kind=5
  ·
   skip
   have e5:(kind == 5)=true:=(by simp [h5]);have y0:=Aa.o.c 0 rfl;have y1:=Aa.o.c 1 rfl;have y2:=Aa.o.c 2 rfl;have y3:=Aa.o.c 3 rfl;have y4:=Aa.o.c 4 rfl;have Ka:=Aa.o.c 19 rfl;have La:=Aa.o.c 20 rfl;have Na:=Aa.o.c 21 rfl;have Oa:=Aa.o.c 22 rfl;have Pa:=Aa.o.c 23 rfl;have Qa:=Aa.o.c 24 rfl;have Ra:=Aa.o.c 25 rfl;have Sa:=Aa.o.c 26 rfl;have HF:H9 (false=RB):=(by show _=_;rw [← HR.o];simp [M.formB,h5]);clear HR;go_wp2;go_ret;exact ⟨ret_bool HF.o,Ba.o⟩
  have e5:(kind == 5)=false:=(by simp [h5]);have y0:=Aa.o.c 0 rfl;have HF:H9 (false=RB):=(by show _=_;rw [← HR.o];simp [M.formB,h1,h2,h3,h4,h5]);clear HR;go_wp2;go_ret;exact ⟨ret_bool HF.o,Ba.o⟩
namespace M
def scT (who:Int) (gone:Bool) (i k:Nat) (acc:Option (Nat×Nat)):List Tk→Option (Option (Nat×Nat))
 | []=>some acc
 | t::l=>if t.worker=who then none else scT who gone i (k+1) (if acc.isNone && (!gone && (!t.done && decide (t.worker=0))) then some (i,k) else acc) l
def scJ (who:Int) (i:Nat) (acc:Option (Nat×Nat)):List Jb→Option (Option (Nat×Nat))
 | []=>some acc
 | j::l=>match scT who j.gone i 0 acc j.ts with
  | none=>none
  | some acc'=>scJ who (i+1) acc' l
def scI (who:Int) (i:Nat) (l:List Jb):Option (Option (Nat×Nat))→Option (Option (Nat×Nat))
 | none=>none
 | some acc=>scJ who i acc l
def lsA : Option (Nat×Nat)→Int
 | none=>-1
 | some x=>x.1
def lsP : Option (Nat×Nat)→Int
 | none=>-1
 | some x=>x.2
end M
set_option linter.unusedVariables false in
def LeaseGoal : Prop:=∀ (base:Nat) (ab aj:Option Addr) (nb cb nj cj:Nat) (bs:List Int) (qs:List MQ) (now next who:Int) (w:World) (H:MktO w base ab nb cb bs aj nj cj qs) (hbase:base≤w.heap.size) (n0:0≤now) (n1:now≤1000000000) (hid:∀ q∈qs,0<q.1.id∧q.1.id≤1000000000) (hT:∀ q∈qs,q.1.ts.length≤8),
  Calls Tryz.prog 71 #[.agg #[.int .i64 now,.int .i64 next,.slice ab nb cb,.slice aj nj cj],.int .i64 who] w fun e w' =>
   match M.scJ who 0 none (qs.map (·.1)) with
   | none=>e=.returned (.tuple #[.agg (v4' now next ab nb cb aj nj cj).toArray,it 6,it 0])∧MktO w' base ab nb cb bs aj nj cj qs∧Below base w w'
   | some none=>e=.returned (.tuple #[.agg (v4' now next ab nb cb aj nj cj).toArray,it 4,it 0])∧MktO w' base ab nb cb bs aj nj cj qs∧Below base w w'
   | some (some (i,k))=>e=.returned (.tuple #[.agg (v4' now next ab nb cb aj nj cj).toArray,it 0,it (100*(qs.getD i q0).1.id+k)])∧MktO w' base ab nb cb bs aj nj cj (qs.set i ({ (qs.getD i q0).1 with ts:=(qs.getD i q0).1.ts.set k ⟨false,who,now+5⟩ },(qs.getD i q0).2))∧Below base w w'
def lsCut : Cut LeaseGoal:=by
 apply Cut.mk
 case h =>
  intro key0 Oa ab aj nb cb nj cj bs qs Aa Ca Ba w H Bb n0 n1 Xb hT;have HM:H9 (MktO w Oa ab nb cb bs aj nj cj qs):=H;have Yb:qs.length=nj:=H.jl;have Yc:(nj:Int)≤9223372036854775807:=(by have:=H.sees.j.big;have:=H.sees.j.le;omega);have Zc:(nj:Int)≤cj:=(by have:=H.sees.j.le;omega);clear H;generalize Zb:M.scJ Ba 0 none (qs.map (·.1))=RQ;have Ac:=Hd (Zb);clear Zb;go_enter Tryz.func71,Tryz.ntmps71;have Ea:H9 (Lies ((w.alloc (.cells (v4' Aa Ca ab nb cb aj nj cj).toArray 27)).alloc (.cells v10'.toArray 27)) w.heap.size (v4' Aa Ca ab nb cb aj nj cj)):=(lies_new _ _ _).alloc _;have Fa:H9 (Lies ((w.alloc (.cells (v4' Aa Ca ab nb cb aj nj cj).toArray 27)).alloc (.cells v10'.toArray 27)) (w.heap.size+1) v10'):=lies_new2 _ _ _ _;have Ha:H9 (Below w.heap.size w ((w.alloc (.cells (v4' Aa Ca ab nb cb aj nj cj).toArray 27)).alloc (.cells v10'.toArray 27))):=((Below.refl _ _).alloc (Nat.le_refl _) _).alloc (by simp) _;(go_wp2_with fail);generalize ((w.alloc (.cells (v4' Aa Ca ab nb cb aj nj cj).toArray 27)).alloc (.cells v10'.toArray 27))=wa at Ea Fa Ha  ⊢;have x0:=Ea.o.c 0 rfl;have x1:=Ea.o.c 1 rfl;have x2:=Ea.o.c 2 rfl;have x3:=Ea.o.c 3 rfl;(go_wp2_with fail);clear x0 x1 x2 x3;have Bc:=Hd (HM.o.below Ha.o);have Nb:H9 (∀ g∈mbl ab aj qs,Oa≤g∧g<w.heap.size):=HM.o.lt;have Cc:=Hd (Ha.o.mono Bb);have Dc:=Hd (Xb);have Ec:=Hd (hT);clear HM Xb hT
  go_loopw [7,8,9] (fun a b i wr=>∃ (n:Nat) (Da:Option (Nat×Nat)),n≤nj∧i=it n∧a=it (M.lsA Da)∧b=it (M.lsP Da)∧M.scJ Ba n Da ((qs.map (·.1)).drop n)=RQ∧(∀ x,Da=some x→x.1<nj∧x.2<(qs.getD x.1 q0).1.ts.length)∧MktO wr Oa ab nb cb bs aj nj cj qs∧Lies wr w.heap.size (v4' Aa Ca ab nb cb aj nj cj)∧Lies wr (w.heap.size+1) v10'∧Below Oa w wr) (fun _ _ i _=>nj-(intOf i).toNat)
  case atStart=>exact ⟨0,none,by omega,rfl,rfl,rfl,Ac.o,(fun x h=>by simp at h),Bc.o,Ea.o,Fa.o,Cc.o⟩
  case round =>
   obtain ⟨n,Da,hn,rfl,rfl,rfl,hR,Qa,hG,Ka,Ra,Sa⟩:=hrel;clear Bc Ac Cc Ea Fa Ha;by_cases Ta:n<nj
   case pos =>
    obtain ⟨gj,rfl⟩:=hG.block (by omega);have Fc:(n:Int)<(nj:Int):=(by omega);have hT:=hG.jtask Ta;have Ya:wr.cell? ⟨gj,n*18+17,none⟩=some (.slice (qs.getD n q0).2.1 (qs.getD n q0).1.ts.length (qs.getD n q0).2.2):=hG.jcell Ta (by omega);have Gc:wr.cell? ⟨gj,n*18+16,none⟩=some (.bool (qs.getD n q0).1.gone):=hG.jcell Ta (by omega);have Cb:((qs.getD n q0).1.ts.length:Int)≤9223372036854775807:=(by have:=hT.sees.big;have:=hT.sees.le;omega);have Hc:((qs.getD n q0).1.ts.length:Int)≤(qs.getD n q0).2.2:=(by have:=hT.sees.le;omega);have Ia:M.scI Ba (n+1) ((qs.map (·.1)).drop (n+1)) (M.scT Ba (qs.getD n q0).1.gone n 0 Da (qs.getD n q0).1.ts)=RQ:=(by rw [← hR,drop_step M.j0 (by simp;exact Yb) Ta,map_getD];unfold M.scJ M.scI;cases M.scT Ba (qs.getD n q0).1.gone n 0 Da (qs.getD n q0).1.ts <;> rfl);generalize Za:(qs.getD n q0).1.ts.length=tn at Ya Cb Hc hT;generalize Ic:(qs.getD n q0).2.1=ta at Ya hT;generalize Ob:(qs.getD n q0).2.2=tc at Ya hT Hc;generalize Jc:(qs.getD n q0).1.gone=Ab at Gc Ia;generalize Wb:(qs.getD n q0).1.ts=tl at Za Ia hT;have x3:=Ka.c 3 rfl;generalize Kc:(qs.map (·.1)).drop (n+1)=DR at Ia;have Pb:=Hd (hG);have Qb:=Hd (Ia);have Ua:H9 ((qs.getD n q0).1.ts=tl∧(qs.getD n q0).1.ts.length=tn∧(qs.getD n q0).2.1=ta∧(qs.getD n q0).2.2=tc∧(qs.getD n q0).1.gone=Ab):=⟨Wb,by rw [Wb];exact Za,Ic,Ob,Jc⟩;have Lc:=Hd (Za);have Ad:=Hd (Kc);have Rb:=Hd (Ka);have Sb:=Hd (Ra);have Tb:=Hd (Sa);have Ja:=Hd (Qa);clear hG hR Ia Ka Ra Sa Za Ic Ob hT Jc Wb Kc Qa Gc;(go_wp2_with fail);clear x3 Ya
    go_loopw [7,8,10] (fun a b i wr=>∃ (p:Nat) (Da:Option (Nat×Nat)),p≤tn∧i=it p∧a=it (M.lsA Da)∧b=it (M.lsP Da)∧M.scI Ba (n+1) DR (M.scT Ba Ab n p Da (tl.drop p))=RQ∧(∀ x,Da=some x→x.1<nj∧x.2<(qs.getD x.1 q0).1.ts.length)∧MktO wr Oa ab nb cb bs (some ⟨gj,0,none⟩) nj cj qs∧Lies wr w.heap.size (v4' Aa Ca ab nb cb (some ⟨gj,0,none⟩) nj cj)∧Lies wr (w.heap.size+1) v10'∧Below Oa w wr) (fun _ _ i _=>tn-(intOf i).toNat)
    case atStart=>exact ⟨0,Da,by omega,rfl,rfl,rfl,Qb.o,Ja.o,Pb.o,Rb.o,Sb.o,Tb.o⟩
    case round =>
     clear Pb Qb Rb Sb Tb Ja;obtain ⟨p,Da,hp,rfl,rfl,rfl,hR,Qa,hG,Ka,Ra,Sa⟩:=hrel;have Ya:wr.cell? ⟨gj,n*18+17,none⟩=some (.slice (qs.getD n q0).2.1 (qs.getD n q0).1.ts.length (qs.getD n q0).2.2):=hG.jcell Ta (by omega);rw [Ua.o.2.1,Ua.o.2.2.1,Ua.o.2.2.2.1] at Ya;have x3:=Ka.c 3 rfl;by_cases Db:p<tn
     case neg =>
      have Je:p=tn:=(by omega);have Pb:=Hd (hG);have Qb:H9 (M.scJ Ba (n+1) Da ((qs.map (·.1)).drop (n+1))=RQ):=(by show _=_;rw [Ad.o,← hR,List.drop_of_length_le (by have:=Lc.o;omega)];rfl);have Rb:=Hd (Ka);have Sb:=Hd (Ra);have Tb:=Hd (Sa);have Ja:=Hd (Qa);have Bd:¬ (p:Int)<(tn:Int):=(by omega);clear hG hR Ka Ra Sa Qa;go_wp2;go_roundw
      case rel=>exact ⟨n+1,Da,by omega,by go_num,rfl,rfl,Qb.o,Ja.o,Pb.o,Rb.o,Sb.o,Tb.o⟩
      case measure=>simp [intOf];omega
     have hT:=hG.jtask Ta;rw [Ua.o.2.1,Ua.o.2.2.1,Ua.o.2.2.2.1,Ua.o.1] at hT;obtain ⟨g,rfl⟩:=hT.block (by omega);have Bd:(p:Int)<(tn:Int):=(by omega);have a0:wr.cell? ⟨g,p*3,none⟩=some (.bool (tl.getD p M.t0).done):=hT.cells Db (j:=0) (by omega);have a1:wr.cell? ⟨g,p*3+1,none⟩=some (it (tl.getD p M.t0).worker):=hT.cells Db (j:=1) (by omega);have a2:wr.cell? ⟨g,p*3+2,none⟩=some (it (tl.getD p M.t0).due):=hT.cells Db (j:=2) (by omega);have Ia:=hR;rw [drop_step M.t0 Lc.o Db] at Ia;unfold M.scT at Ia;generalize tl.getD p M.t0=cq at a0 a1 a2 Ia;obtain ⟨td,x,y⟩:=cq;dsimp only at a0 a1 a2 Ia;have HR:H9 (_=RQ):=Ia;clear hR Ia hT;have La:=Hd (hG);have Ea:=Hd (Ka);have Fa:=Hd (Ra);have Ha:=Hd (Sa);have Ja:=Hd (Qa);clear hG Ka Ra Sa Qa;have Eb:=bal wr (.cells (v27' td x y).toArray 74);have Wa:=Hd (La.o.below Eb);have Na:=Hd (Ea.o.belowS Eb);have Ga:=Hd (Fa.o.belowS Eb);have Xa:H9 (Below Oa w (wr.alloc (.cells (v27' td x y).toArray 74))):=Ha.o.trans (Eb.mono (Nat.le_trans Bb Ha.o.size));clear La Ea Fa Ha;clear Eb;have Fb:=lnw wr (v27' td x y) 74;(go_wp2_with (with_reducible refine wpList_stop 39 ?_ ?_;rfl));show wpList _ _ _ _ _ _;clear a0 a1 a2 x3 Ya;generalize (wr.alloc (.cells (v27' td x y).toArray 74))=w5 at Wa Na Ga Xa Fb  ⊢;generalize wr.heap.size=tb at Fb  ⊢;have Ke:=Fb.o.c 0 rfl;have Le:=Fb.o.c 1 rfl;have Ne:=Fb.o.c 2 rfl;by_cases Gb:x=Ba
     ·
      skip
      have g2:(x == Ba)=true:=(by simp [Gb]);obtain rfl:RQ=none:=by have:=HR.o;rw [if_pos Gb] at this;exact this.symm
      clear HR Gb;have o0:=Na.o.c 0 rfl;have o1:=Na.o.c 1 rfl;have o2:=Na.o.c 2 rfl;have o3:=Na.o.c 3 rfl;have r0:=Ga.o.c 0 rfl;have Cd:=Ga.o.fr 0;have r1:=Ga.o.c 1 rfl;have Dd:=Ga.o.fr 1;have r2:=Ga.o.c 2 rfl;have Ed:=Ga.o.fr 2;have r3:=Ga.o.c 3 rfl;have Fd:=Ga.o.fr 3;(go_wp2_with fail);show bodyPost _ _ _ _ _ (w5.setCells (w.heap.size+1) 0 (v4' Aa Ca ab nb cb (some ⟨gj,0,none⟩) nj cj));have Hb:Lies (w5.setCells (w.heap.size+1) 0 (v4' Aa Ca ab nb cb (some ⟨gj,0,none⟩) nj cj)) (w.heap.size+1) (v4' Aa Ca ab nb cb (some ⟨gj,0,none⟩) nj cj):=Ga.o.setCells (v4' Aa Ca ab nb cb (some ⟨gj,0,none⟩) nj cj) 0 (by simp);have Ib:=gcs w5 (w.heap.size+1) 0 (v4' Aa Ca ab nb cb (some ⟨gj,0,none⟩) nj cj);have Jb:=Wa.o.grown Ib (fun g hg e=>by skip;have:=Nb.o g hg;have:=Option.some.inj e;omega);have Kb:Below Oa w (w5.setCells (w.heap.size+1) 0 (v4' Aa Ca ab nb cb (some ⟨gj,0,none⟩) nj cj)):=Xa.o.trans (below_of_grown Ib (Nat.le_trans Bb Xa.o.size) (fun z e=>by have:=Option.some.inj e;omega));generalize (w5.setCells (w.heap.size+1) 0 (v4' Aa Ca ab nb cb (some ⟨gj,0,none⟩) nj cj))=wf at Hb Jb Kb ⊢;exact bodyPost_ret (results_cell_tmp2 rfl rfl (run_loadVar_mid wf (w.heap.size+1) 0 27 _ _ Hb.row Tryz.underlying27 rfl (by kernel_rfl))) rfl ⟨rfl,Jb,Kb⟩
     have g2:(x == Ba)=false:=(by simp [Gb]);have Pa:H9 (M.scI Ba (n+1) DR (M.scT Ba Ab n (p+1) (if Da.isNone && (!Ab && (!td && decide (x=0))) then some (n,p) else Da) (tl.drop (p+1)))=RQ):=(by show _=_;have:=HR.o;rw [if_neg Gb] at this;exact this);clear HR;have x3:=Na.o.c 3 rfl;have Gd:w5.cell? ⟨gj,n*18+16,none⟩=some (.bool (qs.getD n q0).1.gone):=Wa.o.jcell Ta (by omega);rw [Ua.o.2.2.2.2] at Gd
     cases Da with
     | some xa =>
      have gA:decide (M.lsA (some xa)<0)=false:=decide_eq_false (by show ¬ ((xa.1:Nat):Int)<0;omega);have Va:H9 (M.scI Ba (n+1) DR (M.scT Ba Ab n (p+1) (some xa) (tl.drop (p+1)))=RQ):=(by show _=_;have:=Pa.o;rw [show (some xa:Option (Nat×Nat)).isNone=false from rfl,Bool.false_and,if_neg (by simp)] at this;exact this);clear Pa;generalize Nc:M.lsA (some xa)=la at gA ⊢;generalize Oc:M.lsP (some xa)=lp;have Pc:H9 (M.lsA (some xa)=la∧M.lsP (some xa)=lp):=⟨Nc,Oc⟩;clear Nc Oc;have Oe:¬ la<0:=(by simpa using gA);go_wp2;go_roundw
      case rel=>exact ⟨p+1,some xa,by omega,by go_num,by rw [Pc.o.1],by rw [Pc.o.2],Va.o,Ja.o,Wa.o,Na.o,Ga.o,Xa.o⟩
      case measure=>simp [intOf];omega
     | none =>
      cases Ab with
      | true =>
       have Va:H9 (M.scI Ba (n+1) DR (M.scT Ba true n (p+1) none (tl.drop (p+1)))=RQ):=(by show _=_;have:=Pa.o;simpa using this);clear Pa;have gA:M.lsA none = -1:=rfl;have gP:M.lsP none = -1:=rfl;go_wp2;go_roundw
       case rel=>exact ⟨p+1,none,by omega,by go_num,rfl,rfl,Va.o,Ja.o,Wa.o,Na.o,Ga.o,Xa.o⟩
       case measure=>simp [intOf];omega
      | false =>
       cases td with
       | true =>
        have Va:H9 (M.scI Ba (n+1) DR (M.scT Ba false n (p+1) none (tl.drop (p+1)))=RQ):=(by show _=_;have:=Pa.o;simpa using this);clear Pa;have gA:M.lsA none = -1:=rfl;have gP:M.lsP none = -1:=rfl;go_wp2;go_roundw
        case rel=>exact ⟨p+1,none,by omega,by go_num,rfl,rfl,Va.o,Ja.o,Wa.o,Na.o,Ga.o,Xa.o⟩
        case measure=>simp [intOf];omega
       | false =>
        by_cases Ub:x=0
        ·
         skip
         have g3:(x == 0)=true:=(by simp [Ub]);have Va:H9 (M.scI Ba (n+1) DR (M.scT Ba false n (p+1) (some (n,p)) (tl.drop (p+1)))=RQ):=(by show _=_;have:=Pa.o;rw [Ub] at this;simpa using this);clear Pa;have Id:H9 (∀ x,some (n,p)=some x→x.1<nj∧x.2<(qs.getD x.1 q0).1.ts.length):=fun x h=>by injection h with h;subst h;exact ⟨Ta,by show p<_;rw [Ua.o.2.1];exact Db⟩
         have gA:M.lsA none = -1:=rfl;have gP:M.lsP none = -1:=rfl;go_wp2;go_roundw
         case rel=>exact ⟨p+1,(some (n,p)),by omega,by go_num,rfl,rfl,Va.o,Id.o,Wa.o,Na.o,Ga.o,Xa.o⟩
         case measure=>simp [intOf];omega
        have g3:(x == 0)=false:=(by simp [Ub]);have Va:H9 (M.scI Ba (n+1) DR (M.scT Ba false n (p+1) none (tl.drop (p+1)))=RQ):=(by show _=_;have:=Pa.o;simpa [Ub] using this);clear Pa;have gA:M.lsA none = -1:=rfl;have gP:M.lsP none = -1:=rfl;go_wp2;go_roundw
        case rel=>exact ⟨p+1,none,by omega,by go_num,rfl,rfl,Va.o,Ja.o,Wa.o,Na.o,Ga.o,Xa.o⟩
        case measure=>simp [intOf];omega
   have Jd:n=nj:=(by omega);obtain rfl:RQ=some Da:=by rw [← hR,List.drop_of_length_le (by simp;omega)];rfl
   have Fc:¬ (n:Int)<(nj:Int):=(by omega);have Ja:=Hd (Qa);have La:=Hd (hG);have Ea:=Hd (Ka);have Fa:=Hd (Ra);have Ha:=Hd (Sa);clear hG Ka Ra Sa hR Qa;subst Jd
   cases Da with
   | none =>
    have gA:M.lsA none = -1:=rfl;have o0:=Ea.o.c 0 rfl;have o1:=Ea.o.c 1 rfl;have o2:=Ea.o.c 2 rfl;have o3:=Ea.o.c 3 rfl;have r0:=Fa.o.c 0 rfl;have Cd:=Fa.o.fr 0;have r1:=Fa.o.c 1 rfl;have Dd:=Fa.o.fr 1;have r2:=Fa.o.c 2 rfl;have Ed:=Fa.o.fr 2;have r3:=Fa.o.c 3 rfl;have Fd:=Fa.o.fr 3;(go_wp2_with fail);show bodyPost _ _ _ _ _ (wr.setCells (w.heap.size+1) 0 (v4' Aa Ca ab nb cb aj n cj));have Hb:Lies (wr.setCells (w.heap.size+1) 0 (v4' Aa Ca ab nb cb aj n cj)) (w.heap.size+1) (v4' Aa Ca ab nb cb aj n cj):=Fa.o.setCells (v4' Aa Ca ab nb cb aj n cj) 0 (by simp);have Ib:=gcs wr (w.heap.size+1) 0 (v4' Aa Ca ab nb cb aj n cj);have Jb:=La.o.grown Ib (fun g hg e=>by skip;have:=Nb.o g hg;have:=Option.some.inj e;omega);have Kb:Below Oa w (wr.setCells (w.heap.size+1) 0 (v4' Aa Ca ab nb cb aj n cj)):=Ha.o.trans (below_of_grown Ib (Nat.le_trans Bb Ha.o.size) (fun z e=>by have:=Option.some.inj e;omega));generalize (wr.setCells (w.heap.size+1) 0 (v4' Aa Ca ab nb cb aj n cj))=wf at Hb Jb Kb ⊢;exact bodyPost_ret (results_cell_tmp2 rfl rfl (run_loadVar_mid wf (w.heap.size+1) 0 27 _ _ Hb.row Tryz.underlying27 rfl (by kernel_rfl))) rfl ⟨rfl,Jb,Kb⟩
   | some xa =>
    obtain ⟨i,j⟩:=xa;obtain ⟨hi,hj⟩:=Ja.o _ rfl;dsimp only at hi hj;have eA:M.lsA (some (i,j))=(i:Int):=rfl;have eP:M.lsP (some (i,j))=(j:Int):=rfl;rw [eA,eP];clear eA eP Ja;obtain ⟨gj,rfl⟩:=La.o.block (by omega);have hT:=La.o.jtask hi;obtain ⟨g,hg⟩:=hT.block (by omega);rw [hg] at hT;have Vb:wr.cell? ⟨gj,i*18+17,none⟩=some (.slice (qs.getD i q0).2.1 (qs.getD i q0).1.ts.length (qs.getD i q0).2.2):=La.o.jcell hi (by omega);rw [hg] at Vb;have c0:wr.cell? ⟨gj,i*18,none⟩=some (it (qs.getD i q0).1.id):=La.o.jcell hi (j:=0) (by omega);have b0:=hT.cells hj (j:=0) (by omega);have Qc:=hT.2.frozenAt (j*3+0);have b1:=hT.cells hj (j:=1) (by omega);have Kd:=hT.2.frozenAt (j*3+1);have b2:=hT.cells hj (j:=2) (by omega);have Ld:=hT.2.frozenAt (j*3+2);rw [Nat.add_zero] at b0 Qc;generalize Nd:(qs.getD i q0).1.ts.getD j M.t0=zz at b0 b1 b2;obtain ⟨z1,z2,z3⟩:=zz;simp only [tvs,List.getElem?_cons_zero,List.getElem?_cons_succ] at b0 b1 b2;clear Nd;have Lb:qs.getD i q0∈qs:=(by rw [List.getD_eq_getElem?_getD,List.getElem?_eq_getElem (by omega)];simp);have Rc:=Dc.o _ Lb;have Sc:=Ec.o _ Lb;have Cb:((qs.getD i q0).1.ts.length:Int)≤(qs.getD i q0).2.2:=(by have:=hT.sees.le;omega);have HP:=La.o.task hi hg hj ⟨false,Ba,Aa+5⟩;obtain ⟨Tc,Uc⟩:=HP;have Od:H9 _:=Tc;have Pd:H9 _:=Uc
    have Vc:g∈mbl ab (some ⟨gj,0,none⟩) qs:=by
     unfold mbl;simp only [List.mem_append];exact .inr (.inr (List.mem_flatMap.2 ⟨_,Lb,by rw [hg];simp [ob]⟩))
    have Qd:=Nb.o g Vc;have Rd:g≠gj:=fun e=>(mbl_nodup.1 La.o.d).2.1 gj (by simp [ob]) (List.mem_flatMap.2 ⟨_,Lb,by rw [hg];simp [ob,e]⟩);have Wc:mbl ab (some ⟨gj,0,none⟩) (qs.set i ({ (qs.getD i q0).1 with ts:=(qs.getD i q0).1.ts.set j ⟨false,Ba,Aa+5⟩ },(qs.getD i q0).2))=mbl ab (some ⟨gj,0,none⟩) qs:=mbl_set (qs:=qs) (i:=i) _ (by omega) (by rfl);have Sd:H9 _:=Wc;generalize Za:(qs.getD i q0).1.ts.length=tn at Vb Cb Sc hj;generalize Ob:(qs.getD i q0).2.2=tc at Vb Cb;generalize Xc:(qs.getD i q0).1.id=iv at c0 Rc;have Td:=Hd (Xc);have Ud:(i:Int)<(n:Int):=(by omega);have Vd:(j:Int)<(tn:Int):=(by omega);have Wd:¬ (i:Int)<0:=(by omega);have Xd:(0:Int)≤(i:Int):=(by omega);have Yd:(0:Int)≤(j:Int):=(by omega);have Zd:IntKind.i64.wrap (Aa+5)=Aa+5:=(by rw [IntKind.wrap_i64];omega);have Ae:IntKind.i64.wrap (100*iv)=100*iv:=(by rw [IntKind.wrap_i64];omega);have Be:IntKind.i64.wrap (100*iv+(j:Int))=100*iv+(j:Int):=(by rw [IntKind.wrap_i64];omega);clear Tc Uc hT hg Lb Za Ob Xc Vc Wc;have x0:=Ea.o.c 0 rfl;have x3:=Ea.o.c 3 rfl;(go_wp2_with fail);apply cutK
    case f =>
     intro key
     go_region_law (fail)
     all_goals exact key.out
    case h =>
     rename_i Ce De Ee Fe Ge He Ie;revert Oa ab nb cb cj bs qs Aa Ca Ba w Bb n0 n1 Ce wa Dc Ec wr u5 u6 u10 u11 u12 u13 u14 u15 u16 u17 u18 u19 u20 u21 u22 u23 u24 u25 u26 u27 u28 u29 u30 u31 u32 u33 u34 u35 u36 u37 u38 u39 u40 u41 u42 u43 u44 u45 u46 u47 u48 u49 u50 u51 u52 u53 u54 u55 u56 u57 u58 u59 u60 u61 u62 u63 u64 u65 u66 n Fa Ha Yb Yc Zc hn Ta i j hi gj Nb La Ea De g Qc Kd Ld z1 z2 z3 b0 b1 b2 Od Pd Qd Rd Sd tn Sc hj tc Vb Cb iv c0 Rc Td Ud Vd Xd Yd Zd Ae Be x0 x3 Ee Fe Ge He Ie Fc Wd;exact key0.out
theorem lsCut_p : lsCut.p:=by
    intro Ua ab nb cb cj bs qs Aa Ba Ca w Va n0 n1 Sb wa Tb Ub wr u5 u6 Vb Wb Xb Yb Zb Ac Bc Cc Dc Ec Fc Gc Hc Ic Jc Kc Lc Nc Oc Pc Qc Rc Sc Tc Uc Vc Wc Xc Yc Zc Ad Bd Cd Dd Ed Fd Gd Id Jd Kd Ld Nd Od Pd Qd Rd Sd Td Ud Vd Wd Xd Yd Zd Ae Be Ce n Ha Ea De Ee Fe hn Ge i j hi gj Wa Ja Fa He g Gb Hb Ib z1 z2 z3 b0 b1 b2 Xa Ya Ie Jb Kb tn Je hj tc Lb Ke iv c0 Le Nb Ne Oe Pe Qe Re Se Te x0 x3 Ue Ve We Xe Ye Ze Af;show Exit.then _ _ Exit.normal _ (wr.setCells g (j*3) (tvs ⟨false,Ca,Aa+5⟩)).drew;have Za:Below (wr.setCells g (j*3) (tvs ⟨false,Ca,Aa+5⟩)).heap.size (wr.setCells g (j*3) (tvs ⟨false,Ca,Aa+5⟩)) (wr.setCells g (j*3) (tvs ⟨false,Ca,Aa+5⟩)).drew:=(Below.refl _ _).drew;have Ga:wr.grownBy (wr.setCells g (j*3) (tvs ⟨false,Ca,Aa+5⟩)).drew (some g):=Ya.o.trans (grown_drew _ _);have Ka:=Hd (Xa.o.below Za);have La:=Hd (Fa.o.grown Ga (fun e=>by have:=Option.some.inj e;omega));have Na:=Hd (Ha.o.grown Ga (fun e=>by have:=Option.some.inj e;omega));have Oa:H9 (Below Ua w (wr.setCells g (j*3) (tvs ⟨false,Ca,Aa+5⟩)).drew):=Ea.o.trans (below_of_grown Ga (Nat.le_trans Va Ea.o.size) (fun z e=>by have:=Option.some.inj e;omega));have Ab:(wr.setCells g (j*3) (tvs ⟨false,Ca,Aa+5⟩)).drew.cell? ⟨gj,i*18,none⟩=some (it iv):=Ga.cell c0 (by simp;exact fun e=>Jb e.symm);generalize (wr.setCells g (j*3) (tvs ⟨false,Ca,Aa+5⟩)).drew=w2 at Ka La Na Oa Ab ⊢;clear Za Ga Xa Ya c0 Lb b0 b1 b2 Gb Hb Ib x0 x3 Ja Fa Ha Ea;have Ja:=Ka;have Fa:=La;have Ha:=Na;have Ea:=Oa;clear Ka La Na Oa;have Bf:=Wa.o gj (by simp [mbl,ob]);(go_wp2_with fail);refine hst' w2 (some (w.heap.size+1)) (by kernel_rfl) fun hHeld=>?_;have Bb:Below w2.heap.size w2 w2.drew:=(Below.refl _ _).drew;have Pa:=Hd (Ha.o.belowS Bb);generalize w2.drew=Ia at hHeld Pa ⊢;clear Bb;refine wpAnyH_take (i:=0) (v:=.agg (v4' Aa Ba ab nb cb (some ⟨gj,0,none⟩) n cj).toArray) rfl (by kernel_rfl) (by kernel_rfl) (by kernel_rfl) (fun _ _ _ h=>h) (yieldsIf_load_mid (by kernel_rfl) 27 (.tmp 2) rfl w.heap.size 0 rfl (v4' Aa Ba ab nb cb (some ⟨gj,0,none⟩) n cj) _ (fun W h=>(Fa.o.grown h (by simp)).row) Tryz.underlying27 rfl (by kernel_rfl)) (by assumption) ?_;(try simp only [Act.put]);refine tk 1 (.pointer (some ⟨w.heap.size,3,none⟩)) ?_ ?_
    · intro wq Da;go_simp
    (try simp only [Act.put]);refine tk 2 (.slice (some ⟨gj,0,none⟩) n cj) ?_ ?_
    · intro wp Qa;have q0:=(Fa.o.grown Qa (by simp)).c 3 rfl;go_simp
    (try simp only [Act.put]);refine tk 3 (it (i:Nat)) ?_ ?_
    · intro wq Da;go_simp
    (try simp only [Act.put]);refine tk 4 (.pointer (some ⟨gj,i*18,none⟩)) ?_ ?_
    · intro wq Da;go_simp
    (try simp only [Act.put]);refine tk 5 (.pointer (some ⟨gj,i*18,none⟩)) ?_ ?_
    · intro wq Da;go_simp
    (try simp only [Act.put]);refine tk 6 (it iv) ?_ ?_
    · intro wp Qa;have q0:wp.cell? ⟨gj,i*18,none⟩=some (it iv):=Qa.cell Ab (by simp;omega);go_simp
    (try simp only [Act.put]);refine tk 7 (it (100*iv)) ?_ ?_
    · intro wq Da;go_simp
    (try simp only [Act.put]);refine tk 8 (it (j:Nat)) ?_ ?_
    · intro wq Da;go_simp
    (try simp only [Act.put]);refine tk 9 (it (100*iv+(j:Int))) ?_ ?_
    · intro wq Da;go_simp
    (try simp only [Act.put]);refine rdy' 10 fun Kk hK=>?_;rw [if_pos (by kernel_rfl)];with_reducible refine wp_store_mid 27 (.tmp 4) (.tmp 83) ?_ (w.heap.size+1) 0 ((v4' Aa Ba ab nb cb (some ⟨gj,0,none⟩) n cj):List Value).toArray ?_ ?_ ?_ (by kernel_rfl) (by kernel_rfl) ?_
    · kernel_rfl
    · kernel_rfl
    · kernel_rfl
    · exact Pa.o.there 0 4 (by simp)
    refine hK.out _ _ (grown_cells hHeld 0 _) (fun hHeld2=>?_);clear hK Kk;(try simp only [Act.put]);refine tk 11 (it 0) ?_ ?_
    · intro wq Da;go_simp
    (try simp only [Act.put]);refine tk 12 (it (100*iv+(j:Int))) ?_ ?_
    · intro wq Da;go_simp
    (try simp only [Act.put]);refine dne' ?_;go_simp;have hS:w2.grownBy (Ia.setCells (w.heap.size+1) 0 (v4' Aa Ba ab nb cb (some ⟨gj,0,none⟩) n cj)) (some (w.heap.size+1)):=grown_cells hHeld 0 _;have Ra:Lies (Ia.setCells (w.heap.size+1) 0 (v4' Aa Ba ab nb cb (some ⟨gj,0,none⟩) n cj)) (w.heap.size+1) (v4' Aa Ba ab nb cb (some ⟨gj,0,none⟩) n cj):=Pa.o.setCells (v4' Aa Ba ab nb cb (some ⟨gj,0,none⟩) n cj) 0 (by simp);have Sa:=Ja.o.grown hS (fun g hg e=>by rw [Kb.o] at hg;have:=Wa.o g hg;have:=Option.some.inj e;omega);have Ta:Below Ua w (Ia.setCells (w.heap.size+1) 0 (v4' Aa Ba ab nb cb (some ⟨gj,0,none⟩) n cj)):=Ea.o.trans (below_of_grown hS (Nat.le_trans Va Ea.o.size) (fun z e=>by have:=Option.some.inj e;omega));generalize (Ia.setCells (w.heap.size+1) 0 (v4' Aa Ba ab nb cb (some ⟨gj,0,none⟩) n cj))=wf at Ra Sa Ta ⊢;have Ob:H9 _:=Sa;have Pb:H9 _:=Ta;have Qb:=Hd (Ra);clear Sa Ta Ra hS;(go_wp2_with fail);have Cb:i<qs.length:=(by omega);have Db:qs.getD i q0=qs[i]'Cb:=(by rw [List.getD_eq_getElem?_getD,List.getElem?_eq_getElem Cb];rfl);have Eb:=Ob.o;rw [Db] at Eb;have Fb:=Nb.o;rw [Db] at Fb;have Rb:=Qb.o.row;refine bodyPost_ret (results_cell_tmp2 rfl rfl (run_loadVar_mid wf (w.heap.size+1) 0 27 _ _ Rb Tryz.underlying27 rfl (by kernel_rfl))) rfl ?_;refine ⟨?_,Eb,Pb.o⟩;rw [Fb]
    rfl
theorem l8Lease_any {base:Nat} {ab aj:Option Addr} {nb cb nj cj:Nat} {bs:List Int} {qs:List MQ} (now next who:Int) (w:World) (H:MktO w base ab nb cb bs aj nj cj qs) (hbase:base≤w.heap.size) (n0:0≤now) (n1:now≤1000000000) (hid:∀ q∈qs,0<q.1.id∧q.1.id≤1000000000) (hT:∀ q∈qs,q.1.ts.length≤8) :
  Calls Tryz.prog 71 #[.agg #[.int .i64 now,.int .i64 next,.slice ab nb cb,.slice aj nj cj],.int .i64 who] w fun e w' =>
   match M.scJ who 0 none (qs.map (·.1)) with
   | none=>e=.returned (.tuple #[.agg (v4' now next ab nb cb aj nj cj).toArray,it 6,it 0])∧MktO w' base ab nb cb bs aj nj cj qs∧Below base w w'
   | some none=>e=.returned (.tuple #[.agg (v4' now next ab nb cb aj nj cj).toArray,it 4,it 0])∧MktO w' base ab nb cb bs aj nj cj qs∧Below base w w'
   | some (some (i,k))=>e=.returned (.tuple #[.agg (v4' now next ab nb cb aj nj cj).toArray,it 0,it (100*(qs.getD i q0).1.id+k)])∧MktO w' base ab nb cb bs aj nj cj (qs.set i ({ (qs.getD i q0).1 with ts:=(qs.getD i q0).1.ts.set k ⟨false,who,now+5⟩ },(qs.getD i q0).2))∧Below base w w':=lsCut.h ⟨lsCut_p⟩ base ab aj nb cb nj cj bs qs now next who w H hbase n0 n1 hid hT
theorem M.rows_need {p:M.Pf} {q:Nat} (hq:q=p.X.length / 4) (h:p.rows≠0):M.rows (q:Int)=true∧(p.X.length:Int)=4*(q:Int)∧p.Y.length=p.X.length∧p.QX.length=p.X.length∧p.QY.length=p.X.length∧M.sOk p.s=true∧M.sOk p.e=true∧M.allEl p.X=true∧M.allEl p.Y=true∧M.allEl p.QX=true∧M.allEl p.QY=true:=by
 obtain ⟨h1,h2⟩:=M.rows_some h;obtain ⟨⟨a1,b1⟩,⟨a2,b2⟩,⟨a3,b3⟩,⟨a4,b4⟩,c1,c2⟩:=(M.form_iff _ _).1 h2;have Aa:q=p.rows:=(by omega);refine ⟨?_,by omega,by omega,by omega,by omega,c1,c2,b1,b2,b3,b4⟩;rw [Aa]
 rcases M.rowsN_cases h1 with e | e | e | e <;> rw [e] <;> rfl
theorem M.rows_have {p:M.Pf} {q:Nat} (h0:M.rows (q:Int)=true) (h1:(p.X.length:Int)=4*(q:Int)) (h2:p.Y.length=p.X.length) (h3:p.QX.length=p.X.length) (h4:p.QY.length=p.X.length) (h5:M.sOk p.s=true) (h6:M.sOk p.e=true) (h7:M.allEl p.X=true) (h8:M.allEl p.Y=true) (h9:M.allEl p.QX=true) (hA:M.allEl p.QY=true):p.rows=q:=by
 refine M.rows_of ?_ ((M.form_iff _ _).2 ⟨⟨by omega,h7⟩,⟨by omega,h8⟩,⟨by omega,h9⟩,⟨by omega,hA⟩,h5,h6⟩)
 rcases M.rows_yes h0 with e | e | e | e
 ·
  have:q=2:=(by omega);subst this;rfl
 ·
  have:q=4:=(by omega);subst this;rfl
 ·
  have:q=8:=(by omega);subst this;rfl
 ·
  have:q=16:=(by omega);subst this;rfl
theorem wpList_runG {P:Program} {w:World} {ops:Array Oper} {rest:List Oper} {o:Oper} {a:Act} {Q:Exit→Act→World→Prop} (hw:Region.wanted o (yielded ops a.tmps)=true) (v:Value) (w':World)
  (hrun:(execOp a.eval o).run P w=.ok (.value v) w') (h:wpList P ops Q rest (a.put o.dst v) w'):wpList P ops Q (o::rest) a w:=by
 refine wpList_step fun K hK=>?_;rw [if_pos hw];unfold Oper.wp;rw [hrun];exact hK _ _ h
def fastGo (P:Program) (ops:Array Oper):List Oper→Act→World→Option (Act×World)
 | [],a,w=>some (a,w)
 | o::rest,a,w =>
  if Region.wanted o (yielded ops a.tmps) then
   match (execOp a.eval o).run P w with
   | .ok (.value v) w'=>fastGo P ops rest (a.put o.dst v) w'
   | _=>none
  else fastGo P ops rest (a.put o.dst undef) w
theorem wpList_fast {P:Program} {ops:Array Oper} {Q:Exit→Act→World→Prop}:∀ (rest:List Oper) (a:Act) (w:World) {a':Act} {w':World},fastGo P ops rest a w=some (a',w')→Q .normal a' w'→wpList P ops Q rest a w
 | [],a,w,a',w',h,k=>by
  simp only [fastGo,Option.some.injEq,Prod.mk.injEq] at h;obtain ⟨rfl,rfl⟩:=h;exact k
 | o::rest,a,w,a',w',h,k=>by
  unfold fastGo at h
  split at h
  ·
   rename_i hw
   split at h
   ·
    rename_i v w1 hr;exact wpList_runG hw v w1 hr (wpList_fast rest _ _ h k)
   · cases h
  ·
   rename_i hw;exact wpList_skip (by simpa using hw) (wpList_fast rest _ _ h k)
theorem wpList_fastS {P:Program} {ops:Array Oper} {Q:Exit→Act→World→Prop} {rest:List Oper} {a:Act} {w:World} (js:List Nat) (h:fastGo P ops rest a w=some (js.foldl (fun a j=>a.put (some j) (.bool true)) a,w))
  (k:Q .normal (js.foldl (fun a j=>a.put (some j) (.bool true)) a) w):wpList P ops Q rest a w:=wpList_fast rest a w h k
theorem M.zero_of {R:Nat} {P:Prop} (h:R≠0→P) (hn:¬ P):R=0:=Classical.byContradiction fun h0=>hn (h h0)
theorem specRowsOf_any {a1 a2 a3 a4:Option Addr} {n1 n2 n3 n4 c1 c2 c3 c4:Nat} {z1 z2 z3 z4:List Int} (s1 s2 e1 e2:Int) (w:World) (h1:Sees w a1 n1 c1 z1) (h2:Sees w a2 n2 c2 z2) (h3:Sees w a3 n3 c3 z3) (h4:Sees w a4 n4 c4 z4) (l1:n1≤1048576) (l2:n2≤1048576) (l3:n3≤1048576) (l4:n4≤1048576) :
  Calls Tryz.prog 101 #[.agg #[.int .i64 s1,.int .i64 s2,.int .i64 e1,.int .i64 e2,.slice a1 n1 c1,.slice a2 n2 c2,.slice a3 n3 c3,.slice a4 n4 c4]] w fun e w'=>e=.returned (.int .i64 (M.Pf.rows (⟨(s1,s2),(e1,e2),z1,z2,z3,z4⟩:M.Pf):Nat))∧Below w.heap.size w w':=by
 obtain ⟨q,hq⟩:∃ q,q=n1 / 4:=⟨_,rfl⟩;have Da:=M.rows_need (p:=(⟨(s1,s2),(e1,e2),z1,z2,z3,z4⟩:M.Pf)) (q:=q) (by rw [hq];exact congrArg (· / 4) h1.len.symm);have Ea:=M.rows_have (p:=(⟨(s1,s2),(e1,e2),z1,z2,z3,z4⟩:M.Pf)) (q:=q);dsimp only at Da Ea;rw [h1.len,h2.len,h3.len,h4.len] at Da Ea;have C1:=l6Rows_any (q:Int);have C2:=specStateOk_any (s1,s2);have C3:=specStateOk_any (e1,e2);have D1:∀ W,Sees W a1 n1 c1 z1→Calls Tryz.prog 124 #[.slice a1 n1 c1] W fun e w'=>e=.returned (.bool (M.allEl z1))∧w'=W:=fun W hW=>l1All_any W hW;have D2:∀ W,Sees W a2 n2 c2 z2→Calls Tryz.prog 124 #[.slice a2 n2 c2] W fun e w'=>e=.returned (.bool (M.allEl z2))∧w'=W:=fun W hW=>l1All_any W hW;have D3:∀ W,Sees W a3 n3 c3 z3→Calls Tryz.prog 124 #[.slice a3 n3 c3] W fun e w'=>e=.returned (.bool (M.allEl z3))∧w'=W:=fun W hW=>l1All_any W hW;have D4:∀ W,Sees W a4 n4 c4 z4→Calls Tryz.prog 124 #[.slice a4 n4 c4] W fun e w'=>e=.returned (.bool (M.allEl z4))∧w'=W:=fun W hW=>l1All_any W hW;generalize M.Pf.rows (⟨(s1,s2),(e1,e2),z1,z2,z3,z4⟩:M.Pf)=R at Da Ea ⊢;generalize M.sOk (s1,s2)=o1 at C2 Da Ea;generalize M.sOk (e1,e2)=o2 at C3 Da Ea;generalize M.rows (q:Int)=o0 at C1 Da Ea;generalize M.allEl z1=p1 at D1 Da Ea;generalize M.allEl z2=p2 at D2 Da Ea;generalize M.allEl z3=p3 at D3 Da Ea;generalize M.allEl z4=p4 at D4 Da Ea;have Ba:=Hd (Da);have Fa:=Hd (Ea);have HQ:H9 (q=n1 / 4):=hq;have Ga:H9 (∀ W,Sees W a1 n1 c1 z1→Calls Tryz.prog 124 #[.slice a1 n1 c1] W fun e w'=>e=.returned (.bool p1)∧w'=W):=D1;have Ha:H9 (∀ W,Sees W a2 n2 c2 z2→Calls Tryz.prog 124 #[.slice a2 n2 c2] W fun e w'=>e=.returned (.bool p2)∧w'=W):=D2;have Ia:H9 (∀ W,Sees W a3 n3 c3 z3→Calls Tryz.prog 124 #[.slice a3 n3 c3] W fun e w'=>e=.returned (.bool p3)∧w'=W):=D3;have Ja:H9 (∀ W,Sees W a4 n4 c4 z4→Calls Tryz.prog 124 #[.slice a4 n4 c4] W fun e w'=>e=.returned (.bool p4)∧w'=W):=D4;have Ka:H9 (∀ W,Calls Tryz.prog 55 #[.int .i64 (q:Int)] W fun e w'=>e=.returned (.bool o0)∧w'=W):=C1;have La:H9 (∀ W,Calls Tryz.prog 54 #[.agg #[.int .i64 s1,.int .i64 s2]] W fun e w'=>e=.returned (.bool o1)∧Below W.heap.size W w'):=C2;have Na:H9 (∀ W,Calls Tryz.prog 54 #[.agg #[.int .i64 e1,.int .i64 e2]] W fun e w'=>e=.returned (.bool o2)∧Below W.heap.size W w'):=C3;have H1:=Hd (h1);have H2:=Hd (h2);have H3:=Hd (h3);have H4:=Hd (h4);have Sa:(n1:Int).tdiv 4=(q:Int):=(by rw [Int.tdiv_eq_ediv_of_nonneg (by omega)];omega);have Ta:(n1:Int)≤1048576:=(by omega);have Ua:(n2:Int)≤1048576:=(by omega);have Va:(n3:Int)≤1048576:=(by omega);have Wa:(n4:Int)≤1048576:=(by omega);have Xa:(q:Int)≤262144:=(by omega);have HA:=lnw w (v3' s1 s2 e1 e2 a1 n1 c1 a2 n2 c2 a3 n3 c3 a4 n4 c4) 90;have HB:H9 (Below w.heap.size w (w.alloc (.cells (v3' s1 s2 e1 e2 a1 n1 c1 a2 n2 c2 a3 n3 c3 a4 n4 c4).toArray 90))):=(Below.refl _ _).alloc (Nat.le_refl _) _;clear Da Ea hq D1 D2 D3 D4 C1 C2 C3 h1 h2 h3 h4;go_enter Tryz.func101,Tryz.ntmps101;(go_wp2_with fail);refine (Ka.o _).mono ?_;rintro e wa ⟨rfl,Cb⟩;generalize (w.alloc (.cells (v3' s1 s2 e1 e2 a1 n1 c1 a2 n2 c2 a3 n3 c3 a4 n4 c4).toArray 90))=wv at HA HB Cb ⊢;subst Cb;have x0:=HA.o.c 0 rfl;have x1:=HA.o.c 1 rfl;have x2:=HA.o.c 2 rfl;have x3:=HA.o.c 3 rfl;have x4:=HA.o.c 4 rfl;have x5:=HA.o.c 5 rfl;have x6:=HA.o.c 6 rfl;have x7:=HA.o.c 7 rfl
 cases o0 with
 | false =>
  have Aa:H9 (R=0):=M.zero_of Ba.o (fun h=>absurd h.1 (by simp));(try clear Ba);(try clear Fa);(try clear HQ);(try clear Ga);(try clear Ha);(try clear Ia);(try clear Ja);(try clear Ka);(try clear La);(try clear Na);(try clear H1);(try clear H2);(try clear H3);(try clear H4);(try clear HA);(try clear x0);(try clear x1);(try clear x2);(try clear x3);(try clear x4);(try clear x5);(try clear x6);(try clear x7);(try clear Sa);(try clear Ta);(try clear Ua);(try clear Va);(try clear Wa);(try clear Xa);(try clear l1);(try clear l2);(try clear l3);(try clear l4);(try clear Oa);(try clear Pa);(try clear Qa);(try clear Ra);rename_i Ca;refine Ca _ _ ?_;clear Ca;with_reducible refine wpList_fastS [10,11,18,19,27,28,36,37,45,46,51,52,57,58,63,64,69,70,75,76,81] ?_ ?_
  · kernel_rfl
  dsimp only [List.foldl];go_simp;go_wp2;go_ret;exact ⟨by rw [Aa.o];rfl,HB.o⟩
 | true =>
  go_wp2_with fail
  rotate_left 1
  ·
   have Aa:H9 (R=0):=M.zero_of Ba.o (fun h=>by have k1:=h.2.1;have k2:=h.2.2.1;have k3:=h.2.2.2.1;have k4:=h.2.2.2.2.1;omega);go_ret;exact ⟨by rw [Aa.o];rfl,HB.o⟩
  ·
   have Aa:H9 (R=0):=M.zero_of Ba.o (fun h=>by have k1:=h.2.1;have k2:=h.2.2.1;have k3:=h.2.2.2.1;have k4:=h.2.2.2.2.1;omega);go_ret;exact ⟨by rw [Aa.o];rfl,HB.o⟩
  ·
   have Aa:H9 (R=0):=M.zero_of Ba.o (fun h=>by have k1:=h.2.1;have k2:=h.2.2.1;have k3:=h.2.2.2.1;have k4:=h.2.2.2.2.1;omega);go_ret;exact ⟨by rw [Aa.o];rfl,HB.o⟩
  ·
   have Aa:H9 (R=0):=M.zero_of Ba.o (fun h=>by have k1:=h.2.1;have k2:=h.2.2.1;have k3:=h.2.2.2.1;have k4:=h.2.2.2.2.1;omega);go_ret;exact ⟨by rw [Aa.o];rfl,HB.o⟩
  rename_i y1 y2 y3 y4 kk ak;have Oa:H9 ((n1:Int)=4*(q:Int)):=y1;have Pa:H9 (n2=n1):=(by show n2=n1;omega);have Qa:H9 (n3=n1):=(by show n3=n1;omega);have Ra:H9 (n4=n1):=(by show n4=n1;omega);refine (La.o _).mono ?_;rintro e wb ⟨rfl,Ya⟩;have Ab:=Hd (HA.o.belowS Ya);have Bb:=Hd (HB.o.trans (Ya.mono HB.o.size));clear Ya HA HB;clear x0 x1 x2 x3 x4 x5 x6 x7;have HA:=Hd (Ab.o);have HB:=Hd (Bb.o);clear Ab Bb;have x0:=HA.o.c 0 rfl;have x1:=HA.o.c 1 rfl;have x2:=HA.o.c 2 rfl;have x3:=HA.o.c 3 rfl;have x4:=HA.o.c 4 rfl;have x5:=HA.o.c 5 rfl;have x6:=HA.o.c 6 rfl;have x7:=HA.o.c 7 rfl
  cases o1 with
  | false =>
   have Aa:H9 (R=0):=M.zero_of Ba.o (fun h=>absurd h.2.2.2.2.2.1 (by simp));(try clear Ba);(try clear Fa);(try clear HQ);(try clear Ga);(try clear Ha);(try clear Ia);(try clear Ja);(try clear Ka);(try clear La);(try clear Na);(try clear H1);(try clear H2);(try clear H3);(try clear H4);(try clear HA);(try clear x0);(try clear x1);(try clear x2);(try clear x3);(try clear x4);(try clear x5);(try clear x6);(try clear x7);(try clear Sa);(try clear Ta);(try clear Ua);(try clear Va);(try clear Wa);(try clear Xa);(try clear l1);(try clear l2);(try clear l3);(try clear l4);(try clear Oa);(try clear Pa);(try clear Qa);(try clear Ra);refine ak _ _ ?_;clear ak;with_reducible refine wpList_fastS [50,51,52,57,58,63,64,69,70,75,76,81] ?_ ?_
   · kernel_rfl
   dsimp only [List.foldl];go_simp;go_wp2;go_ret;exact ⟨by rw [Aa.o];rfl,HB.o⟩
  | true =>
   (go_wp2_with fail);refine (Na.o _).mono ?_;rintro e wc ⟨rfl,Ya⟩;have Ab:=Hd (HA.o.belowS Ya);have Bb:=Hd (HB.o.trans (Ya.mono HB.o.size));clear Ya HA HB;clear x0 x1 x2 x3 x4 x5 x6 x7;have HA:=Hd (Ab.o);have HB:=Hd (Bb.o);clear Ab Bb;have x0:=HA.o.c 0 rfl;have x1:=HA.o.c 1 rfl;have x2:=HA.o.c 2 rfl;have x3:=HA.o.c 3 rfl;have x4:=HA.o.c 4 rfl;have x5:=HA.o.c 5 rfl;have x6:=HA.o.c 6 rfl;have x7:=HA.o.c 7 rfl
   cases o2 with
   | false =>
    have Aa:H9 (R=0):=M.zero_of Ba.o (fun h=>absurd h.2.2.2.2.2.2.1 (by simp));(try clear Ba);(try clear Fa);(try clear HQ);(try clear Ga);(try clear Ha);(try clear Ia);(try clear Ja);(try clear Ka);(try clear La);(try clear Na);(try clear H1);(try clear H2);(try clear H3);(try clear H4);(try clear HA);(try clear x0);(try clear x1);(try clear x2);(try clear x3);(try clear x4);(try clear x5);(try clear x6);(try clear x7);(try clear Sa);(try clear Ta);(try clear Ua);(try clear Va);(try clear Wa);(try clear Xa);(try clear l1);(try clear l2);(try clear l3);(try clear l4);(try clear Oa);(try clear Pa);(try clear Qa);(try clear Ra);rename_i Ca;refine Ca _ _ ?_;clear Ca;with_reducible refine wpList_fastS [56,57,58,63,64,69,70,75,76,81] ?_ ?_
    · kernel_rfl
    dsimp only [List.foldl];go_simp;go_wp2;go_ret;exact ⟨by rw [Aa.o];rfl,HB.o⟩
   | true =>
    (go_wp2_with fail);refine (Ga.o _ (H1.o.below HB.o)).mono ?_;rintro e wd ⟨rfl,Za⟩;subst Za
    cases p1 with
    | false =>
     have Aa:H9 (R=0):=M.zero_of Ba.o (fun h=>absurd h.2.2.2.2.2.2.2.1 (by simp));(try clear Ba);(try clear Fa);(try clear HQ);(try clear Ga);(try clear Ha);(try clear Ia);(try clear Ja);(try clear Ka);(try clear La);(try clear Na);(try clear H1);(try clear H2);(try clear H3);(try clear H4);(try clear HA);(try clear x0);(try clear x1);(try clear x2);(try clear x3);(try clear x4);(try clear x5);(try clear x6);(try clear x7);(try clear Sa);(try clear Ta);(try clear Ua);(try clear Va);(try clear Wa);(try clear Xa);(try clear l1);(try clear l2);(try clear l3);(try clear l4);(try clear Oa);(try clear Pa);(try clear Qa);(try clear Ra);rename_i Ca;refine Ca _ _ ?_;clear Ca;with_reducible refine wpList_fastS [62,63,64,69,70,75,76,81] ?_ ?_
     · kernel_rfl
     dsimp only [List.foldl];go_simp;go_wp2;go_ret;exact ⟨by rw [Aa.o];rfl,HB.o⟩
    | true =>
     (go_wp2_with fail);refine (Ha.o _ (H2.o.below HB.o)).mono ?_;rintro e wd ⟨rfl,Za⟩;subst Za
     cases p2 with
     | false =>
      have Aa:H9 (R=0):=M.zero_of Ba.o (fun h=>absurd h.2.2.2.2.2.2.2.2.1 (by simp));(try clear Ba);(try clear Fa);(try clear HQ);(try clear Ga);(try clear Ha);(try clear Ia);(try clear Ja);(try clear Ka);(try clear La);(try clear Na);(try clear H1);(try clear H2);(try clear H3);(try clear H4);(try clear HA);(try clear x0);(try clear x1);(try clear x2);(try clear x3);(try clear x4);(try clear x5);(try clear x6);(try clear x7);(try clear Sa);(try clear Ta);(try clear Ua);(try clear Va);(try clear Wa);(try clear Xa);(try clear l1);(try clear l2);(try clear l3);(try clear l4);(try clear Oa);(try clear Pa);(try clear Qa);(try clear Ra);rename_i Ca;refine Ca _ _ ?_;clear Ca;with_reducible refine wpList_fastS [68,69,70,75,76,81] ?_ ?_
      · kernel_rfl
      dsimp only [List.foldl];go_simp;go_wp2;go_ret;exact ⟨by rw [Aa.o];rfl,HB.o⟩
     | true =>
      (go_wp2_with fail);refine (Ia.o _ (H3.o.below HB.o)).mono ?_;rintro e wd ⟨rfl,Za⟩;subst Za
      cases p3 with
      | false =>
       have Aa:H9 (R=0):=M.zero_of Ba.o (fun h=>absurd h.2.2.2.2.2.2.2.2.2.1 (by simp));(try clear Ba);(try clear Fa);(try clear HQ);(try clear Ga);(try clear Ha);(try clear Ia);(try clear Ja);(try clear Ka);(try clear La);(try clear Na);(try clear H1);(try clear H2);(try clear H3);(try clear H4);(try clear HA);(try clear x0);(try clear x1);(try clear x2);(try clear x3);(try clear x4);(try clear x5);(try clear x6);(try clear x7);(try clear Sa);(try clear Ta);(try clear Ua);(try clear Va);(try clear Wa);(try clear Xa);(try clear l1);(try clear l2);(try clear l3);(try clear l4);(try clear Oa);(try clear Pa);(try clear Qa);(try clear Ra);rename_i Ca;refine Ca _ _ ?_;clear Ca;with_reducible refine wpList_fastS [74,75,76,81] ?_ ?_
       · kernel_rfl
       dsimp only [List.foldl];go_simp;go_wp2;go_ret;exact ⟨by rw [Aa.o];rfl,HB.o⟩
      | true =>
       (go_wp2_with fail);refine (Ja.o _ (H4.o.below HB.o)).mono ?_;rintro e wd ⟨rfl,Za⟩;subst Za
       cases p4 with
       | false =>
        have Aa:H9 (R=0):=M.zero_of Ba.o (fun h=>absurd h.2.2.2.2.2.2.2.2.2.2 (by simp));(try clear Ba);(try clear Fa);(try clear HQ);(try clear Ga);(try clear Ha);(try clear Ia);(try clear Ja);(try clear Ka);(try clear La);(try clear Na);(try clear H1);(try clear H2);(try clear H3);(try clear H4);(try clear HA);(try clear x0);(try clear x1);(try clear x2);(try clear x3);(try clear x4);(try clear x5);(try clear x6);(try clear x7);(try clear Sa);(try clear Ta);(try clear Ua);(try clear Va);(try clear Wa);(try clear Xa);(try clear l1);(try clear l2);(try clear l3);(try clear l4);(try clear Oa);(try clear Pa);(try clear Qa);(try clear Ra);rename_i Ca;refine Ca _ _ ?_;clear Ca;with_reducible refine wpList_fastS [80,81] ?_ ?_
        · kernel_rfl
        dsimp only [List.foldl];go_simp;go_wp2;go_ret;exact ⟨by rw [Aa.o];rfl,HB.o⟩
       | true =>
        go_wp2;go_ret;exact ⟨by rw [Fa.o (by simp) Oa.o Pa.o Qa.o Ra.o (by simp) (by simp) (by simp) (by simp) (by simp) (by simp)];rfl,HB.o⟩
section
open Go.Extern.Stop Go.Stop Go.Extern
def M.qk (zs ms:List Int) (N k:Nat):Bool:=(List.range k).all fun i=>zs.getD i 0*M.zer N i % 65537 == ms.getD i 0
open Go.Extern.Stop Go.Stop Go.Extern
open Go.Extern.Stop Go.Stop Go.Extern
theorem M.acc_m {m:M.Mc} {p:M.Pf} (h:m.ok=false):M.acc m p=false:=by unfold M.acc;rw [h];rfl
theorem M.acc_r {m:M.Mc} {p:M.Pf} (h:p.rows=0):M.acc m p=false:=by unfold M.acc;rw [h];simp
theorem M.acc_in {m:M.Mc} {p:M.Pf} (h:m.ok=true) (hr:p.rows≠0):M.acc m p=M.accN m p p.rows:=by unfold M.acc;rw [h,decide_eq_true hr];rfl
end
end Go.Proofs.YtfhknkppiidnkaaGreat
