import Derived.Test.YtfhknkppiidnkaaGreatPk00
import Derived.Test.YtfhknkppiidnkaaGreatPk01
import Derived.Test.YtfhknkppiidnkaaGreatPk03
import Derived.Test.YtfhknkppiidnkaaGreatPk14
import Derived.Test.YtfhknkppiidnkaaGreatPk24
import Derived.Test.YtfhknkppiidnkaaGreatPk23
import Derived.Test.YtfhknkppiidnkaaGreatPk12
import Derived.Test.YtfhknkppiidnkaaGreatPk19
import Derived.Test.YtfhknkppiidnkaaGreatPk22
namespace Go.Proofs.YtfhknkppiidnkaaGreat
open Go.RowKit
def M.resIn (now next id:Int) (bs:List Int) (js:List M.Jb):Bool:=M.stOk now next id bs js && (M.jobOf id js).ts.all (·.done)
def M.resL (id:Int) (js:List M.Jb):List M.Cl:=M.cutv (M.jobOf id js).m (M.jobOf id js).s (M.jobOf id js).rows (M.jobOf id js).ts.length
def M.resC (now next id:Int) (bs:List Int) (js:List M.Jb):M.Cl:=if M.resIn now next id bs js=true then M.allv (M.resL id js) else M.c0
def M.resB (now next id:Int) (bs:List Int) (js:List M.Jb):Bool:=M.resIn now next id bs js && M.allOk (M.resL id js)
set_option maxHeartbeats 8000000 in
set_option maxRecDepth 10000 in
theorem specResultOf_any {ab aj:Option Addr} {nb cb nj cj:Nat} {bs:List Int} {js:List M.Jb} (now next id:Int) (w:World) (hz:SeesM w ab nb cb aj nj cj bs js) :
  Calls Tryz.prog 8 #[.agg #[.int .i64 now,.int .i64 next,.slice ab nb cb,.slice aj nj cj],.int .i64 id] w fun e w'=>e=.returned (.tuple #[clv (M.resC now next id bs js),.bool (M.resB now next id bs js)])∧Below w.heap.size w w':=by
 have HM:=Hd (hz);have Qc:(nj:Int)≤cj:=(by have:=hz.j.le;omega);have Rc:(nj:Int)≤9223372036854775807:=(by have:=hz.j.big;have:=hz.j.le;omega);have Dc:js.length=nj:=hz.j.len;have C1:∀ W,SeesJ W aj nj cj js→Calls Tryz.prog 25 #[.agg #[.int .i64 now,.int .i64 next,.slice ab nb cb,.slice aj nj cj],.int .i64 id] W fun e w'=>e=.returned (.int .i64 (M.jobAt id 0 js))∧Below W.heap.size W w':=fun W h=>l8Job_any now next id W h;have C2:∀ W,SeesM W ab nb cb aj nj cj bs js→Calls Tryz.prog 26 #[.agg #[.int .i64 now,.int .i64 next,.slice ab nb cb,.slice aj nj cj]] W fun e w'=>e=.returned (.bool (M.mkOk now next bs js))∧Below W.heap.size W w':=fun W h=>specMarketOk_any now next W h;have Xa:=M.jobAt_some id js 0;have HF:H9 (M.resIn now next id bs js=false→M.resC now next id bs js=M.c0∧M.resB now next id bs js=false):=fun h=>by unfold M.resC M.resB;rw [h];exact ⟨rfl,rfl⟩
 have Ja:H9 (M.resIn now next id bs js=true→M.resC now next id bs js=M.allv (M.resL id js)∧M.resB now next id bs js=M.allOk (M.resL id js)):=fun h=>by unfold M.resC M.resB;rw [h];exact ⟨rfl,rfl⟩
 generalize M.resC now next id bs js=rc at HF Ja ⊢;generalize M.resB now next id bs js=rb at HF Ja ⊢;have Oa:M.resIn now next id bs js=((M.mkOk now next bs js && decide (0≤M.jobAt id 0 js)) && (js.getD (M.jobAt id 0 js).toNat M.j0).ts.all (·.done)):=rfl;have Sa:M.resL id js=M.cutv (js.getD (M.jobAt id 0 js).toNat M.j0).m (js.getD (M.jobAt id 0 js).toNat M.j0).s (js.getD (M.jobAt id 0 js).toNat M.j0).rows (js.getD (M.jobAt id 0 js).toNat M.j0).ts.length:=rfl;generalize M.resL id js=rl at Sa Ja;generalize M.resIn now next id bs js=os at Oa HF Ja;generalize M.mkOk now next bs js=om at C2 Oa;generalize M.jobAt id 0 js=Ob at C1 Oa Xa Sa;have Ia:=Hd (Oa);have Pb:=Hd (Sa);clear hz Oa Sa;go_enter Tryz.func8,Tryz.ntmps8;have Ya:H9 (Lies ((w.alloc (.cells (v4' now next ab nb cb aj nj cj).toArray 27)).alloc (.cells v9'.toArray 33)) w.heap.size (v4' now next ab nb cb aj nj cj)):=(lies_new _ _ _).alloc _;have Za:H9 (Lies ((w.alloc (.cells (v4' now next ab nb cb aj nj cj).toArray 27)).alloc (.cells v9'.toArray 33)) (w.heap.size+1) v9'):=lies_new2 _ _ _ _;have Pa:H9 (Below w.heap.size w ((w.alloc (.cells (v4' now next ab nb cb aj nj cj).toArray 27)).alloc (.cells v9'.toArray 33))):=((Below.refl _ _).alloc (Nat.le_refl _) _).alloc (by simp) _;(go_wp2_with fail);generalize ((w.alloc (.cells (v4' now next ab nb cb aj nj cj).toArray 27)).alloc (.cells v9'.toArray 33))=wa at Ya Za Pa  ⊢;refine (C1 _ (HM.o.j.below Pa.o)).mono ?_;rintro e wb ⟨rfl,hb⟩;have Ka:=Hd (Ya.o.belowS hb);have Qb:=Hd (Za.o.belowS hb);have Ta:=Hd (Pa.o.trans (hb.mono Pa.o.size));clear Ya Za Pa;clear hb;have x0:=Ka.o.c 0 rfl;have x1:=Ka.o.c 1 rfl;have x2:=Ka.o.c 2 rfl;have x3:=Ka.o.c 3 rfl;(go_wp2_with fail);clear x0 x1 x2 x3;refine (C2 _ (HM.o.below Ta.o)).mono ?_;rintro e wc ⟨rfl,hb⟩;have Ab:=Hd (Ka.o.belowS hb);have Aa:=Hd (Qb.o.belowS hb);have La:=Hd (Ta.o.trans (hb.mono Ta.o.size));clear Ka Qb Ta;clear hb
 cases om with
 | false =>
  obtain rfl:os=false:=by rw [Ia.o];rfl
  obtain ⟨rfl,rfl⟩:=HF.o (by simp);have z0:=Aa.o.c 0 rfl;have Bb:=Aa.o.fr 0;have z1:=Aa.o.c 1 rfl;have Cb:=Aa.o.fr 1;have z2:=Aa.o.c 2 rfl;have Db:=Aa.o.fr 2;have z3:=Aa.o.c 3 rfl;have Eb:=Aa.o.fr 3;have z4:=Aa.o.c 4 rfl;have Fb:=Aa.o.fr 4;(go_wp2_with fail);show bodyPost _ _ _ _ _ (wc.setCells (w.heap.size+1) 0 v9');have Fa:Lies (wc.setCells (w.heap.size+1) 0 v9') (w.heap.size+1) v9':=Aa.o.setCells v9' 0 (by simp);have Gb:=gcs wc (w.heap.size+1) 0 v9';have Ga:Below w.heap.size w (wc.setCells (w.heap.size+1) 0 v9'):=La.o.trans (below_setCells _ 0 (Below.refl _ _) (by omega));generalize (wc.setCells (w.heap.size+1) 0 v9')=wf at Fa Ga ⊢;exact bodyPost_ret (results_cell_tmp rfl rfl (run_loadVar_mid wf (w.heap.size+1) 0 33 _ _ Fa.row Tryz.underlying33 rfl (by kernel_rfl))) rfl ⟨rfl,Ga⟩
 | true =>
  by_cases h:0≤Ob
  case neg =>
   obtain rfl:os=false:=by rw [Ia.o];simp;omega
   have Sc:Ob<0:=(by omega);obtain ⟨rfl,rfl⟩:=HF.o (by simp);have z0:=Aa.o.c 0 rfl;have Bb:=Aa.o.fr 0;have z1:=Aa.o.c 1 rfl;have Cb:=Aa.o.fr 1;have z2:=Aa.o.c 2 rfl;have Db:=Aa.o.fr 2;have z3:=Aa.o.c 3 rfl;have Eb:=Aa.o.fr 3;have z4:=Aa.o.c 4 rfl;have Fb:=Aa.o.fr 4;(go_wp2_with fail);show bodyPost _ _ _ _ _ (wc.setCells (w.heap.size+1) 0 v9');have Fa:Lies (wc.setCells (w.heap.size+1) 0 v9') (w.heap.size+1) v9':=Aa.o.setCells v9' 0 (by simp);have Gb:=gcs wc (w.heap.size+1) 0 v9';have Ga:Below w.heap.size w (wc.setCells (w.heap.size+1) 0 v9'):=La.o.trans (below_setCells _ 0 (Below.refl _ _) (by omega));generalize (wc.setCells (w.heap.size+1) 0 v9')=wf at Fa Ga ⊢;exact bodyPost_ret (results_cell_tmp rfl rfl (run_loadVar_mid wf (w.heap.size+1) 0 33 _ _ Fa.row Tryz.underlying33 rfl (by kernel_rfl))) rfl ⟨rfl,Ga⟩
  obtain ⟨i,hi,Rb,_⟩:=Xa h;rw [Nat.zero_add] at Rb;subst Rb;rw [Dc] at hi;have Na:=Ia.o;have Qa:=Pb.o;rw [Int.toNat_natCast] at Na Qa;clear Ia Pb Xa;obtain ⟨b1,o1,rfl,Sb⟩:=(HM.o.j.below La.o).at (by omega);obtain ⟨ta,tc,hA,hT⟩:=Sb i hi;generalize js.getD i M.j0=cq at hA hT Na Qa;obtain ⟨Da,⟨⟨a,b,c',d,f,k⟩,⟨a',b',Ca,d',f',k'⟩⟩,⟨s1,s2⟩,jr,jg,tl⟩:=cq;dsimp only at hT Na Qa;have hR:wc.rangeAt b1 (o1+i*18) (jvs ⟨Da,⟨⟨a,b,c',d,f,k⟩,⟨a',b',Ca,d',f',k'⟩⟩,(s1,s2),jr,jg,tl⟩ ta tc):=row_of_cells rfl hA;have HT:=Hd (hT);dsimp only [jvs] at hR;have C3:∀ W,SeesT W ta tl.length tc tl→Calls Tryz.prog 27 #[.agg #[.int .i64 Da,.int .i64 a,.int .i64 b,.int .i64 c',.int .i64 d,.int .i64 f,.int .i64 k,.int .i64 a',.int .i64 b',.int .i64 Ca,.int .i64 d',.int .i64 f',.int .i64 k',.int .i64 s1,.int .i64 s2,.int .i64 jr,.bool jg,.slice ta tl.length tc]] W fun e w'=>e=.returned (.bool (tl.all (·.done)))∧Below W.heap.size W w':=fun W h=>l8All_any Da a b c' d f k a' b' Ca d' f' k' s1 s2 jr jg W h;have C4:=specCutOf_any ⟨⟨a,b,c',d,f,k⟩,⟨a',b',Ca,d',f',k'⟩⟩ (s1,s2) jr (tl.length:Nat);dsimp only [mcv,stv] at C4;rw [← Qa] at C4;have Ec:(tl.length:Int)≤9223372036854775807:=(by have:=hT.big;have:=hT.le;omega);generalize tl.length=tn at hR HT C3 C4 Ec;generalize tl.all (·.done)=od at Na C3;have Ia:H9 (os=od):=(by show _=_;rw [Na];simp);clear Sb hA hT Na Qa;have Tb:=Hd (HT.o);have Tc:(i:Int)<(nj:Int):=(by omega);have Uc:(0:Int)≤(i:Int):=(by omega);have Vc:¬ (i:Int)<0:=(by omega);clear HT h;have x3:=Ab.o.c 3 rfl;have Fc:decide ((i:Int)<0)=false:=(by simp);(go_wp2_with (with_reducible refine wpList_stop 25 ?_ ?_;rfl));show wpList _ _ _ _ _ _;clear x3 Fc;have iL:(Tryz.prog.info? 44).map (·.size)=some ((v0' Da a b c' d f k a' b' Ca d' f' k' s1 s2 jr jg ta tn tc):List Value).length:=(show (Tryz.prog.info? 44).map (·.size)=some 18 by kernel_rfl);with_reducible refine wpList_load_want ?qw 44 ?qlw ?qo b1 (o1+i*18) ?qhx (v0' Da a b c' d f k a' b' Ca d' f' k' s1 s2 jr jg ta tn tc) _ hR Tryz.underlying44 ?qd iL ?_
  case qw=>kernel_rfl
  case qo=>exact rfl
  case qhx=>kernel_rfl
  case qd=>exact rfl
  clear iL;show wpList _ _ _ _ _ _;(go_wp2_with fail);refine (C3 _ Tb.o).mono ?_;rintro e wd ⟨rfl,Ua⟩;have Ub:=Hd (Ab.o.belowS Ua);have Ea:=Hd (Aa.o.belowS Ua);have Va:=Hd (La.o.trans (Ua.mono La.o.size));clear Ab Aa La Tb;have Vb:wd.rangeAt b1 (o1+i*18) (v0' Da a b c' d f k a' b' Ca d' f' k' s1 s2 jr jg ta tn tc):=range_below hR Ua
  cases od with
  | false =>
   obtain rfl:os=false:=Ia.o;obtain ⟨rfl,rfl⟩:=HF.o (by simp);have z0:=Ea.o.c 0 rfl;have Bb:=Ea.o.fr 0;have z1:=Ea.o.c 1 rfl;have Cb:=Ea.o.fr 1;have z2:=Ea.o.c 2 rfl;have Db:=Ea.o.fr 2;have z3:=Ea.o.c 3 rfl;have Eb:=Ea.o.fr 3;have z4:=Ea.o.c 4 rfl;have Fb:=Ea.o.fr 4;(go_wp2_with fail);show bodyPost _ _ _ _ _ (wd.setCells (w.heap.size+1) 0 v9');have Fa:Lies (wd.setCells (w.heap.size+1) 0 v9') (w.heap.size+1) v9':=Ea.o.setCells v9' 0 (by simp);have Gb:=gcs wd (w.heap.size+1) 0 v9';have Ga:Below w.heap.size w (wd.setCells (w.heap.size+1) 0 v9'):=Va.o.trans (below_setCells _ 0 (Below.refl _ _) (by omega));generalize (wd.setCells (w.heap.size+1) 0 v9')=wf at Fa Ga ⊢;exact bodyPost_ret (results_cell_tmp rfl rfl (run_loadVar_mid wf (w.heap.size+1) 0 33 _ _ Fa.row Tryz.underlying33 rfl (by kernel_rfl))) rfl ⟨rfl,Ga⟩
  | true =>
   obtain rfl:os=true:=Ia.o;obtain ⟨Wb,Xb⟩:=Ja.o (by simp);clear HF Ja Ia C1 C2 C3;have x3:=Ub.o.c 3 rfl;(go_wp2_with (with_reducible refine wpList_stop 34 ?_ ?_;rfl));clear x3;with_reducible refine ldm 44 b1 (o1+i*18) (v0' Da a b c' d f k a' b' Ca d' f' k' s1 s2 jr jg ta tn tc) Vb Tryz.underlying44 ?q5 ?_
   case q5=>exact ⟨rfl,rfl,by kernel_rfl,_,rfl,by kernel_rfl⟩
   clear Vb hR;(go_wp2_with (with_reducible refine wpList_stop 7 ?_ ?_;rfl));show wpList _ _ _ _ _ _;have Yb:(Instr.alloc 44 true (.tuple #[])).run Tryz.prog wd=.ok (.pointer (some ⟨wd.heap.size,0,none⟩)) (wd.alloc (.cells v2'.toArray 44)):=(by kernel_rfl);with_reducible refine wpList_alloc_as ?qg 44 ?qo v2'.toArray Yb ?_
   case qg | qo=>exact rfl
   clear Yb;show wpList _ _ _ _ _ _;with_reducible refine Hx (stm 44 wd.heap.size 0 (v0' Da a b c' d f k a' b' Ca d' f' k' s1 s2 jr jg ta tn tc) ?q6 ?q5 ?_)
   case q6=>exact (lies_new _ _ _).there _ 18 (by simp)
   case q5=>exact ⟨rfl,by kernel_rfl,by kernel_rfl,_,_,rfl,by kernel_rfl,by kernel_rfl⟩
   have Hb:Below wd.heap.size wd ((wd.alloc (.cells v2'.toArray 44)).setCells wd.heap.size 0 (v0' Da a b c' d f k a' b' Ca d' f' k' s1 s2 jr jg ta tn tc)):=below_setCells _ _ ((Below.refl _ _).alloc (Nat.le_refl _) _) (Nat.le_refl _);have Ib:=Hd (Ea.o.belowS Hb);have Wa:=Hd (Va.o.trans (Hb.mono Va.o.size));clear Ub Ea Va;clear Hb;have Ba:H9 (Lies ((wd.alloc (.cells v2'.toArray 44)).setCells wd.heap.size 0 (v0' Da a b c' d f k a' b' Ca d' f' k' s1 s2 jr jg ta tn tc)) wd.heap.size (v0' Da a b c' d f k a' b' Ca d' f' k' s1 s2 jr jg ta tn tc)):=(lies_new wd v2'.toArray 44).setCells (v0' Da a b c' d f k a' b' Ca d' f' k' s1 s2 jr jg ta tn tc) 0 (by simp);generalize ((wd.alloc (.cells v2'.toArray 44)).setCells wd.heap.size 0 (v0' Da a b c' d f k a' b' Ca d' f' k' s1 s2 jr jg ta tn tc))=w2 at Ib Wa Ba ⊢;generalize wd.heap.size=jb at Ba  ⊢;have y0:=Ba.o.c 0 rfl;have y1:=Ba.o.c 1 rfl;have y2:=Ba.o.c 2 rfl;have y3:=Ba.o.c 3 rfl;have y4:=Ba.o.c 4 rfl;have y5:=Ba.o.c 5 rfl;have y6:=Ba.o.c 6 rfl;have y7:=Ba.o.c 7 rfl;have y8:=Ba.o.c 8 rfl;have y9:=Ba.o.c 9 rfl;have Gc:=Ba.o.c 10 rfl;have Hc:=Ba.o.c 11 rfl;have Ic:=Ba.o.c 12 rfl;have Jc:=Ba.o.c 13 rfl;have Kc:=Ba.o.c 14 rfl;have Lc:=Ba.o.c 15 rfl;have Nc:=Ba.o.c 16 rfl;have Oc:=Ba.o.c 17 rfl;(go_wp2_with fail);clear y0 y1 y2 y3 y4 y5 y6 y7 y8 y9 Gc Hc Ic Jc Kc Lc Nc Oc;refine (C4 _).mono ?_;rintro e we ⟨al,ll,lc,rfl,Wc,Zb,Kb⟩;have Ac:=Hd (Ib.o.belowS Kb);have Lb:=Hd (Wa.o.trans (Kb.mono Wa.o.size));clear Ib Wa Ba;have Bc:=Zb.sees;clear Kb Zb C4;have Cc:=Hd (Bc);clear Bc;(go_wp2_with fail);refine (specJoinedAll_any _ Cc.o).mono ?_;rintro e Ra ⟨rfl,Nb⟩;have Ha:=Hd (Ac.o.belowS Nb);have Pc:=Hd (Lb.o.trans (Nb.mono Lb.o.size));clear Ac Lb Cc;clear Nb;rw [← Wb,← Xb];clear Wb Xb;obtain ⟨⟨x1,x2⟩,⟨y1,y2⟩,n1⟩:=rc;dsimp only [clv];have z0:=Ha.o.c 0 rfl;have Bb:=Ha.o.fr 0;have z1:=Ha.o.c 1 rfl;have Cb:=Ha.o.fr 1;have z2:=Ha.o.c 2 rfl;have Db:=Ha.o.fr 2;have z3:=Ha.o.c 3 rfl;have Eb:=Ha.o.fr 3;have z4:=Ha.o.c 4 rfl;have Fb:=Ha.o.fr 4;(go_wp2_with fail);show bodyPost _ _ _ _ _ (Ra.setCells (w.heap.size+1) 0 (v14' x1 x2 y1 y2 n1));have Fa:Lies (Ra.setCells (w.heap.size+1) 0 (v14' x1 x2 y1 y2 n1)) (w.heap.size+1) (v14' x1 x2 y1 y2 n1):=Ha.o.setCells (v14' x1 x2 y1 y2 n1) 0 (by simp);have Gb:=gcs Ra (w.heap.size+1) 0 (v14' x1 x2 y1 y2 n1);have Ga:Below w.heap.size w (Ra.setCells (w.heap.size+1) 0 (v14' x1 x2 y1 y2 n1)):=Pc.o.trans (below_setCells _ 0 (Below.refl _ _) (by omega));generalize (Ra.setCells (w.heap.size+1) 0 (v14' x1 x2 y1 y2 n1))=wf at Fa Ga ⊢;exact bodyPost_ret (results_cell_tmp rfl rfl (run_loadVar_mid wf (w.heap.size+1) 0 33 _ _ Fa.row Tryz.underlying33 rfl (by kernel_rfl))) rfl ⟨rfl,Ga⟩
theorem M.cut_right {now next id:Int} {bs:List Int} {js:List M.Jb} (h:M.stOk now next id bs js=true):M.cutOk (M.jobOf id js).m (M.jobOf id js).s (M.jobOf id js).rows (M.jobOf id js).ts.length=true:=by
 unfold M.stOk at h;rw [Bool.and_eq_true,decide_eq_true_eq] at h;obtain ⟨i,hi,Aa,_⟩:=M.jobAt_some id js 0 h.2;have hR:=M.right_iff h.1;have e:M.jobOf id js=js.getD i M.j0:=(by unfold M.jobOf;rw [Aa];simp);have hm:js.getD i M.j0∈js:=(by rw [List.getD_eq_getElem?_getD,List.getElem?_eq_getElem hi];simp);have h1:=(hR.job _ hm).2.2;have h2:=hR.tasks _ hm;rw [e];unfold M.jbOk at h1;simp only [Bool.and_eq_true] at h1;unfold M.cutOk;rw [h1.1.1,h1.1.2.1,h1.1.2.2.1,decide_eq_true (show (1:Int)≤(js.getD i M.j0).ts.length by omega),decide_eq_true (show ((js.getD i M.j0).ts.length:Int)≤8 by omega)]
 rfl
set_option maxHeartbeats 8000000 in
set_option maxRecDepth 10000 in
theorem implResultOf_any {ab aj:Option Addr} {nb cb nj cj:Nat} {bs:List Int} {js:List M.Jb} (now next id:Int) (w:World) (hz:SeesM w ab nb cb aj nj cj bs js) :
  Calls Tryz.prog 7 #[.agg #[.int .i64 now,.int .i64 next,.slice ab nb cb,.slice aj nj cj],.int .i64 id] w fun e w'=>e=.returned (.tuple #[clv (M.resC now next id bs js),.bool (M.resB now next id bs js)])∧Below w.heap.size w w':=by
 have C1:=fun W (h:SeesM W ab nb cb aj nj cj bs js)=>jobIn_any now next id W h;have HM:=Hd (hz);have HC:=M.cut_right (now:=now) (next:=next) (id:=id) (bs:=bs) (js:=js);have HF:H9 (M.resIn now next id bs js=false→M.resC now next id bs js=M.c0∧M.resB now next id bs js=false):=fun h=>by unfold M.resC M.resB;rw [h];exact ⟨rfl,rfl⟩
 have Ea:H9 (M.resIn now next id bs js=true→M.resC now next id bs js=M.allv (M.resL id js)∧M.resB now next id bs js=M.allOk (M.resL id js)):=fun h=>by unfold M.resC M.resB;rw [h];exact ⟨rfl,rfl⟩
 have Ka:M.resIn now next id bs js=(M.stOk now next id bs js && (M.jobOf id js).ts.all (·.done)):=rfl;have Oa:M.resL id js=M.cutv (M.jobOf id js).m (M.jobOf id js).s (M.jobOf id js).rows (M.jobOf id js).ts.length:=rfl;unfold JobPost at C1;rw [show js.getD (M.jobAt id 0 js).toNat M.j0=M.jobOf id js from rfl] at C1;generalize M.resC now next id bs js=rc at HF Ea ⊢;generalize M.resB now next id bs js=rb at HF Ea ⊢;generalize M.resL id js=rl at Oa Ea;generalize M.resIn now next id bs js=os at Ka HF Ea;generalize M.stOk now next id bs js=so at Ka C1 HC;generalize M.jobOf id js=jf at Ka Oa C1 HC;have Sa:=Hd (Ka);have Ya:=Hd (Oa);have Za:H9 (so=true→M.cutOk jf.m jf.s jf.rows jf.ts.length=true):=HC;clear hz Ka Oa HC;go_enter Tryz.func7,Tryz.ntmps7;have Ta:H9 (Lies ((w.alloc (.cells (v4' now next ab nb cb aj nj cj).toArray 27)).alloc (.cells v9'.toArray 33)) (w.heap.size+1) v9'):=lies_new2 _ _ _ _;have La:H9 (Below w.heap.size w ((w.alloc (.cells (v4' now next ab nb cb aj nj cj).toArray 27)).alloc (.cells v9'.toArray 33))):=((Below.refl _ _).alloc (Nat.le_refl _) _).alloc (by simp) _;(go_wp2_with fail);generalize ((w.alloc (.cells (v4' now next ab nb cb aj nj cj).toArray 27)).alloc (.cells v9'.toArray 33))=wa at Ta La  ⊢;refine (C1 _ (HM.o.below La.o)).mono ?_;rintro e wb ⟨h1,h2,hb⟩;have Ba:=Hd (Ta.o.belowS hb);have Pa:=Hd (La.o.trans (hb.mono La.o.size));clear Ta La;clear C1 HM hb
 cases so with
 | false =>
  obtain rfl:=h1 rfl;obtain rfl:os=false:=Sa.o;obtain ⟨rfl,rfl⟩:=HF.o rfl;clear h1 h2 HF Ea;have z0:=Ba.o.c 0 rfl;have Ab:=Ba.o.fr 0;have z1:=Ba.o.c 1 rfl;have Bb:=Ba.o.fr 1;have z2:=Ba.o.c 2 rfl;have Cb:=Ba.o.fr 2;have z3:=Ba.o.c 3 rfl;have Db:=Ba.o.fr 3;have z4:=Ba.o.c 4 rfl;have Eb:=Ba.o.fr 4;(go_wp2_with fail);show bodyPost _ _ _ _ _ (wb.setCells (w.heap.size+1) 0 v9');have Fa:Lies (wb.setCells (w.heap.size+1) 0 v9') (w.heap.size+1) v9':=Ba.o.setCells v9' 0 (by simp);have Fb:=gcs wb (w.heap.size+1) 0 v9';have Ga:Below w.heap.size w (wb.setCells (w.heap.size+1) 0 v9'):=Pa.o.trans (below_setCells _ 0 (Below.refl _ _) (by omega));generalize (wb.setCells (w.heap.size+1) 0 v9')=wf at Fa Ga ⊢;exact bodyPost_ret (results_cell_tmp rfl rfl (run_loadVar_mid wf (w.heap.size+1) 0 33 _ _ Fa.row Tryz.underlying33 rfl (by kernel_rfl))) rfl ⟨rfl,Ga⟩
 | true =>
  obtain ⟨q,rfl,hq,hl,hs⟩:=h2 rfl;subst hq;have CD:∀ W,Lies W q.b q.vs→SeesT W q.a q.j.ts.length q.c q.j.ts→Calls Tryz.prog 22 #[.pointer (some ⟨q.b,0,none⟩)] W fun e w'=>e=.returned (.bool (q.j.ts.all (·.done)))∧Below W.heap.size W w':=fun W h1 h2=>allDone_any W (h1.at 17) h2;have C4:=implCutOf_any q.j.m q.j.s q.j.rows (q.j.ts.length:Nat);rw [Za.o rfl,← Ya.o] at C4;dsimp only [mcv,stv] at C4;have Ub:(q.j.ts.length:Int)≤9223372036854775807:=(by have:=hs.le;have:=hs.big;omega);have Qa:=Hd (Sa.o);generalize q.j.ts.all (·.done)=od at CD Qa;clear h1 h2 Sa Za Ya;have Ua:=Hd (hl);have Gb:=Hd (hs);clear hl hs;(go_wp2_with fail);refine (CD _ Ua.o Gb.o).mono ?_;rintro e wc ⟨rfl,hb⟩;have Ca:=Hd (Ba.o.belowS hb);have Ra:=Hd (Pa.o.trans (hb.mono Pa.o.size));have Ha:=Hd (Ua.o.belowS hb);clear Ba Pa Ua Gb;clear hb
  cases od with
  | false =>
   obtain rfl:os=false:=Qa.o;obtain ⟨rfl,rfl⟩:=HF.o rfl;clear HF Ea;have z0:=Ca.o.c 0 rfl;have Ab:=Ca.o.fr 0;have z1:=Ca.o.c 1 rfl;have Bb:=Ca.o.fr 1;have z2:=Ca.o.c 2 rfl;have Cb:=Ca.o.fr 2;have z3:=Ca.o.c 3 rfl;have Db:=Ca.o.fr 3;have z4:=Ca.o.c 4 rfl;have Eb:=Ca.o.fr 4;(go_wp2_with fail);show bodyPost _ _ _ _ _ (wc.setCells (w.heap.size+1) 0 v9');have Fa:Lies (wc.setCells (w.heap.size+1) 0 v9') (w.heap.size+1) v9':=Ca.o.setCells v9' 0 (by simp);have Fb:=gcs wc (w.heap.size+1) 0 v9';have Ga:Below w.heap.size w (wc.setCells (w.heap.size+1) 0 v9'):=Ra.o.trans (below_setCells _ 0 (Below.refl _ _) (by omega));generalize (wc.setCells (w.heap.size+1) 0 v9')=wf at Fa Ga ⊢;exact bodyPost_ret (results_cell_tmp rfl rfl (run_loadVar_mid wf (w.heap.size+1) 0 33 _ _ Fa.row Tryz.underlying33 rfl (by kernel_rfl))) rfl ⟨rfl,Ga⟩
  | true =>
   obtain rfl:os=true:=Qa.o;obtain ⟨Hb,Ib⟩:=Ea.o rfl;clear HF Ea Qa CD;(go_wp2_with fail);refine hst' wc none (by kernel_rfl) fun hHeld=>?_;generalize wc.drew=Vb at hHeld ⊢;refine tk 0 (.pointer (some ⟨q.b,0,none⟩)) ?_ ?_
   · intro wq Aa;go_simp
   (try simp only [Act.put]);refine tk 1 (.pointer (some ⟨q.b,0,none⟩)) ?_ ?_
   · intro wq Aa;go_simp
   (try simp only [Act.put]);refine tk 2 (.pointer (some ⟨q.b,1,none⟩)) ?_ ?_
   · intro wq Aa;go_simp
   (try simp only [Act.put]);have Kb:∀ W:World,wc.grownBy W none→W.rangeAt q.b 1 (v1' q.j.m.X.xx q.j.m.X.xy q.j.m.X.yy q.j.m.X.x q.j.m.X.y q.j.m.X.k q.j.m.Y.xx q.j.m.Y.xy q.j.m.Y.yy q.j.m.Y.x q.j.m.Y.y q.j.m.Y.k):=fun W h=>(Ha.o.grown h (by simp)).mid 1 12;refine wpAnyH_take (i:=3) (v:=.agg ((v1' q.j.m.X.xx q.j.m.X.xy q.j.m.X.yy q.j.m.X.x q.j.m.X.y q.j.m.X.k q.j.m.Y.xx q.j.m.Y.xy q.j.m.Y.yy q.j.m.Y.x q.j.m.Y.y q.j.m.Y.k):List Value).toArray) rfl (by kernel_rfl) (by kernel_rfl) (by kernel_rfl) (fun _ _ _ h=>h) (yieldsIf_load_mid (by kernel_rfl) 41 (.tmp 26) rfl q.b 1 rfl ((v1' q.j.m.X.xx q.j.m.X.xy q.j.m.X.yy q.j.m.X.x q.j.m.X.y q.j.m.X.k q.j.m.Y.xx q.j.m.Y.xy q.j.m.Y.yy q.j.m.Y.x q.j.m.Y.y q.j.m.Y.k):List Value) _ Kb Tryz.underlying41 rfl (by kernel_rfl)) (by assumption) ?_;(try simp only [Act.put]);clear Kb;refine tk 4 (.pointer (some ⟨q.b,0,none⟩)) ?_ ?_
   · intro wq Aa;go_simp
   (try simp only [Act.put]);refine tk 5 (.pointer (some ⟨q.b,0,none⟩)) ?_ ?_
   · intro wq Aa;go_simp
   (try simp only [Act.put]);refine tk 6 (.pointer (some ⟨q.b,13,none⟩)) ?_ ?_
   · intro wq Aa;go_simp
   (try simp only [Act.put]);refine tk 7 (.agg #[it q.j.s.1,it q.j.s.2]) ?_ ?_
   · intro wp Ia;have c0:=(Ha.o.grown Ia (by simp)).c 13 rfl;have c1:=(Ha.o.grown Ia (by simp)).c 14 rfl;go_simp
   (try simp only [Act.put]);refine tk 8 (.pointer (some ⟨q.b,0,none⟩)) ?_ ?_
   · intro wq Aa;go_simp
   (try simp only [Act.put]);refine tk 9 (.pointer (some ⟨q.b,0,none⟩)) ?_ ?_
   · intro wq Aa;go_simp
   (try simp only [Act.put]);refine tk 10 (.pointer (some ⟨q.b,15,none⟩)) ?_ ?_
   · intro wq Aa;go_simp
   (try simp only [Act.put]);refine tk 11 (it q.j.rows) ?_ ?_
   · intro wp Ia;have c0:=(Ha.o.grown Ia (by simp)).c 15 rfl;go_simp
   (try simp only [Act.put]);refine tk 12 (.pointer (some ⟨q.b,0,none⟩)) ?_ ?_
   · intro wq Aa;go_simp
   (try simp only [Act.put]);refine tk 13 (.pointer (some ⟨q.b,0,none⟩)) ?_ ?_
   · intro wq Aa;go_simp
   (try simp only [Act.put]);refine tk 14 (.pointer (some ⟨q.b,17,none⟩)) ?_ ?_
   · intro wq Aa;go_simp
   (try simp only [Act.put]);refine tk 15 (.slice q.a q.j.ts.length q.c) ?_ ?_
   · intro wp Ia;have c0:=(Ha.o.grown Ia (by simp)).c 17 rfl;go_simp
   (try simp only [Act.put]);refine tk 16 (it (q.j.ts.length:Nat)) ?_ ?_
   · intro wq Aa;go_simp
   (try simp only [Act.put]);refine rdy' 17 fun Kk hK=>?_;go_simp;refine (C4 _).mono ?_;rintro e Va ⟨al,ll,lc,rfl,Rb,Lb,Nb⟩;go_simp;have Ja:wc.grownBy Va none:=grown_step hHeld Nb;have Ob:H9 (Below wc.heap.size wc Va):=⟨Ja.os,Ja.tape,Ja.output,Ja.size,fun k hk=>Ja.block k hk (by simp)⟩;have Sb:H9 (SeesC Va al ll lc rl):=Lb.sees;refine hK.out _ _ Ja (fun _=>?_);clear hK Kk Nb;(try simp only [Act.put]);refine tk 18 (.tuple #[.slice al ll lc,.bool true]) ?_ ?_
   · intro wq Aa;go_simp
   (try simp only [Act.put]);refine tk 19 (.slice al ll lc) ?_ ?_
   · intro wq Aa;go_simp
   (try simp only [Act.put]);refine tk 20 (.bool true) ?_ ?_
   · intro wq Aa;go_simp
   (try simp only [Act.put]);refine tk 21 (.slice al ll lc) ?_ ?_
   · intro wq Aa;go_simp
   (try simp only [Act.put]);refine tk 22 (.bool true) ?_ ?_
   · intro wq Aa;go_simp
   (try simp only [Act.put]);refine dne' ?_;go_simp;have Pb:=Hd (Ca.o.belowS Ob.o);have Wa:=Hd (Ra.o.trans (Ob.o.mono Ra.o.size));clear Ca Ra Ha;have Qb:=Hd (Sb.o);clear Lb Rb;(go_wp2_with fail);refine (implJoinedAll_any _ Qb.o).mono ?_;rintro e Na ⟨rfl,Xa⟩;have Da:=Hd (Pb.o.belowS Xa);have Tb:=Hd (Wa.o.trans (Xa.mono Wa.o.size));clear Pb Wa Qb;clear Xa;rw [← Hb,← Ib];clear Hb Ib;obtain ⟨⟨x1,x2⟩,⟨y1,y2⟩,n1⟩:=rc;dsimp only [clv];have z0:=Da.o.c 0 rfl;have Ab:=Da.o.fr 0;have z1:=Da.o.c 1 rfl;have Bb:=Da.o.fr 1;have z2:=Da.o.c 2 rfl;have Cb:=Da.o.fr 2;have z3:=Da.o.c 3 rfl;have Db:=Da.o.fr 3;have z4:=Da.o.c 4 rfl;have Eb:=Da.o.fr 4;(go_wp2_with fail);show bodyPost _ _ _ _ _ (Na.setCells (w.heap.size+1) 0 (v14' x1 x2 y1 y2 n1));have Fa:Lies (Na.setCells (w.heap.size+1) 0 (v14' x1 x2 y1 y2 n1)) (w.heap.size+1) (v14' x1 x2 y1 y2 n1):=Da.o.setCells (v14' x1 x2 y1 y2 n1) 0 (by simp);have Fb:=gcs Na (w.heap.size+1) 0 (v14' x1 x2 y1 y2 n1);have Ga:Below w.heap.size w (Na.setCells (w.heap.size+1) 0 (v14' x1 x2 y1 y2 n1)):=Tb.o.trans (below_setCells _ 0 (Below.refl _ _) (by omega));generalize (Na.setCells (w.heap.size+1) 0 (v14' x1 x2 y1 y2 n1))=wf at Fa Ga ⊢;exact bodyPost_ret (results_cell_tmp rfl rfl (run_loadVar_mid wf (w.heap.size+1) 0 33 _ _ Fa.row Tryz.underlying33 rfl (by kernel_rfl))) rfl ⟨rfl,Ga⟩
def M.holds (m:M.Mc) (c:M.Cl):Bool:=m.ok && (M.clOk c && (decide ((M.aft m c.s c.n).1=c.e.1) && decide ((M.aft m c.s c.n).2=c.e.2)))
theorem M.runOk_cl {m:M.Mc} {c:M.Cl} (h:M.clOk c=true):M.runOk m c.s c.n=m.ok:=by
 have hn:=M.clOk_n h;have hs:M.sOk c.s=true:=by unfold M.clOk at h;simp only [Bool.and_eq_true] at h;exact h.1
 cases hm:m.ok with
 | true=>exact M.runOk_mk hm hs (by omega) hn.2
 | false =>
  cases hr:M.runOk m c.s c.n with
  | false=>rfl
  | true=>have:=(M.runOk_parts hr).1;rw [hm] at this;cases this
set_option maxHeartbeats 4000000 in
theorem implHolds_any (mm:M.Mc) (cl:M.Cl) (w:World):Calls Tryz.prog 11 #[mcv mm,clv cl] w fun e w'=>e=.returned (.bool (M.holds mm cl))∧Below w.heap.size w w':=by
 have C1:=implAfter_any mm cl.s cl.n;have C2:=claimOk_any cl;have hr:=@M.runOk_cl mm cl;unfold M.holds;generalize M.aft mm cl.s cl.n=q at C1 ⊢;generalize M.clOk cl=o at C2 hr ⊢;generalize mm.ok=o2 at hr ⊢;generalize M.runOk mm cl.s cl.n=o3 at C1 hr;obtain ⟨⟨a,b,c,d,f,k⟩,⟨a',b',c',d',f',k'⟩⟩:=mm;obtain ⟨⟨x,y⟩,⟨x',y'⟩,n⟩:=cl;obtain ⟨u,v⟩:=q;dsimp only [mcv,clv,stv] at C1 C2 ⊢;have LA:H9 (Lies ((w.alloc (.cells (v1' a b c d f k a' b' c' d' f' k').toArray 41)).alloc (.cells (v14' x y x' y' n).toArray 33)) (w.heap.size+1) (v14' x y x' y' n)):=lies_new2 _ _ _ _;go_enter Tryz.func11,Tryz.ntmps11;(go_wp2_with fail);refine (C1 _).mono ?_;rintro e w1 ⟨rfl,Ea⟩;have Ga:H9 (Below w.heap.size w w1):=(((Below.refl _ _).alloc (Nat.le_refl _) _).alloc (by simp) _).trans (Ea.mono (by simp;omega));have Ba:H9 (Below w.heap.size w (w1.alloc (.cells #[it u,it v] 31))):=Ga.o.alloc Ga.o.size _;have LE:=lnw w1 [it u,it v] 31;have LC:H9 (Lies (w1.alloc (.cells #[it u,it v] 31)) (w.heap.size+1) (v14' x y x' y' n)):=(LA.o.belowS Ea).alloc _;have p0:(w1.alloc (.cells #[it u,it v] 31)).cell? ⟨w.heap.size+1,0,none⟩=some (it x):=LC.o.at 0;have p1:(w1.alloc (.cells #[it u,it v] 31)).cell? ⟨w.heap.size+1,1,none⟩=some (it y):=LC.o.at 1;have p2:(w1.alloc (.cells #[it u,it v] 31)).cell? ⟨w.heap.size+1,2,none⟩=some (it x'):=LC.o.at 2;have p3:(w1.alloc (.cells #[it u,it v] 31)).cell? ⟨w.heap.size+1,3,none⟩=some (it y'):=LC.o.at 3;have p4:(w1.alloc (.cells #[it u,it v] 31)).cell? ⟨w.heap.size+1,4,none⟩=some (it n):=LC.o.at 4;clear Ea LA
 cases o3 with
 | false =>
  go_wp2;go_ret;exact ⟨by cases o <;> simp_all,Ba.o⟩
 | true =>
  (go_wp2_with fail);refine (C2 _).mono ?_;rintro e w2 ⟨rfl,Ca⟩;have Da:=Hd (Ba.o.trans (Ca.mono Ba.o.size));have Aa:=LC.o.belowS Ca;have Fa:=LE.o.belowS Ca;clear p0 p1 p2 p3 p4;have p0:=Aa.c 0 rfl;have p1:=Aa.c 1 rfl;have p2:=Aa.c 2 rfl;have p3:=Aa.c 3 rfl;have p4:=Aa.c 4 rfl;have e0:=Fa.c 0 rfl;have e1:=Fa.c 1 rfl;clear Ca LC LE Aa Fa Ba
  cases o with
  | false =>
   go_wp2;go_ret;exact ⟨by simp,Da.o⟩
  | true =>
   obtain rfl:true=o2:=hr (by simp);by_cases h1:u=x'
   ·
    by_cases h2:v=y'
    ·
     subst h1 h2;have j1:(u == u)=true:=(by simp);have j2:(v == v)=true:=(by simp);go_wp2;go_ret;exact ⟨by simp,Da.o⟩
    ·
     subst h1;have j1:(u == u)=true:=(by simp);have j2:(v == y')=false:=(by simpa using h2);go_wp2;go_ret;exact ⟨by simp,Da.o⟩
   ·
    have j1:(u == x')=false:=(by simpa using h1);go_wp2;go_ret;exact ⟨by simp [h1],Da.o⟩
theorem M.holds_after {m:M.Mc} {c:M.Cl} (hm:m.ok=true):M.holds m c=(M.runOk m c.s c.n && ((decide ((M.aft m c.s c.n).1=c.e.1) && decide ((M.aft m c.s c.n).2=c.e.2)) && decide (1≤c.n))):=by
 unfold M.holds;rw [hm,Bool.true_and]
 cases hc:M.clOk c with
 | true =>
  have h1:=M.clOk_n hc;rw [M.runOk_cl hc,hm,decide_eq_true h1.1];simp
 | false =>
  cases hr:M.runOk m c.s c.n with
  | false=>simp
  | true =>
   rw [Bool.false_and,Bool.true_and];obtain ⟨_,hs,h0,h1⟩:=M.runOk_parts hr
   symm
   by_cases he:(M.aft m c.s c.n).1=c.e.1∧(M.aft m c.s c.n).2=c.e.2
   ·
    by_cases hn:1≤c.n
    ·
     have e:M.aft m c.s c.n=c.e:=Prod.ext he.1 he.2;have Aa:M.sOk c.e=true:=(by rw [← e,M.aft_in hr];exact M.sOk_rn m hs _);unfold M.clOk at hc;rw [hs,Aa,decide_eq_true hn,decide_eq_true h1] at hc
     cases hc
    · rw [decide_eq_false hn,Bool.and_false]
   ·
    by_cases h1:(M.aft m c.s c.n).1=c.e.1
    ·
     have h2:¬ (M.aft m c.s c.n).2=c.e.2:=fun h=>he ⟨h1,h⟩;rw [decide_eq_false h2];simp
    · rw [decide_eq_false h1];simp
theorem M.clOk_mk {c:M.Cl} (h1:M.sOk c.s=true) (h2:M.sOk c.e=true) (h3:1≤c.n) (h4:c.n≤1000):M.clOk c=true:=by
 unfold M.clOk;rw [h1,h2,decide_eq_true h3,decide_eq_true h4];rfl
theorem M.holds_mk {m:M.Mc} {s:Int×Int} {k:Nat} (hm:m.ok=true) (hs:M.sOk s=true) (h1:1≤k) (h2:k≤1000):M.holds m ⟨s,m.rn s k,(k:Int)⟩=true:=by
 have hr:M.runOk m s (k:Int)=true:=M.runOk_mk hm hs (by omega) (by omega);rw [M.holds_after hm];show (M.runOk m s (k:Int) && ((decide ((M.aft m s (k:Int)).1=(m.rn s k).1) && decide ((M.aft m s (k:Int)).2=(m.rn s k).2)) && decide (1≤(k:Int))))=true;rw [hr,M.aft_in hr,Int.toNat_natCast];simp;omega
theorem M.cuts_cons (m:M.Mc) (s:Int×Int) (K n:Nat):M.cuts m s K (n+1)=⟨s,m.rn s K,(K:Int)⟩::M.cuts m (m.rn s K) K n:=by
 unfold M.cuts;rw [List.range_succ_eq_map,List.map_cons,List.map_map]
 congr 1
 · rw [Nat.zero_mul,Nat.zero_add,Nat.one_mul];rfl
 ·
  refine List.map_congr_left fun i _=>?_;show (⟨m.rn s ((i+1)*K),m.rn s ((i+1+1)*K),(K:Int)⟩:M.Cl)=⟨m.rn (m.rn s K) (i*K),m.rn (m.rn s K) ((i+1)*K),(K:Int)⟩;rw [M.rn_add,M.rn_add,show K+i*K=(i+1)*K by rw [Nat.succ_mul];omega,show K+(i+1)*K=(i+1+1)*K by rw [Nat.succ_mul (i+1)];omega]
theorem M.cuts_lnk {m:M.Mc} {K:Nat} (h1:1≤K) (h2:K≤1000):∀ (n:Nat) (s:Int×Int),M.sOk s=true→M.lnk (M.cuts m s K n)=true
 | 0,_,_=>rfl
 | n+1,s,hs=>by
  have ih:=M.cuts_lnk (m:=m) h1 h2 n (m.rn s K) (M.sOk_rn m hs K);have hc:M.clOk ⟨s,m.rn s K,(K:Int)⟩=true:=M.clOk_mk hs (M.sOk_rn m hs K) (show (1:Int)≤K by omega) (show (K:Int)≤1000 by omega);rw [M.cuts_cons]
  cases n with
  | zero=>rw [show M.cuts m (m.rn s K) K 0=[] from rfl,M.lnk_one,hc]
  | succ n=>rw [M.cuts_cons] at ih ⊢;rw [M.lnk_two,hc,ih];simp
theorem M.cuts_tot {m:M.Mc} {K:Nat}:∀ (n:Nat) (s:Int×Int),M.tot (M.cuts m s K n)=((n*K:Nat):Int)
 | 0,_=>by simp [M.cuts,M.tot]
 | n+1,s=>by
  rw [M.cuts_cons];show (K:Int)+M.tot (M.cuts m (m.rn s K) K n)=_;rw [M.cuts_tot n (m.rn s K),Nat.succ_mul];omega
theorem M.cuts_chain {m:M.Mc} {K n:Nat} {s:Int×Int} (h1:1≤K) (h2:n*K≤1000) (hn:1≤n) (hs:M.sOk s=true):M.chain (M.cuts m s K n)=true:=by
 have hK:K≤1000:=Nat.le_trans (Nat.le_mul_of_pos_left K hn) h2;unfold M.chain;rw [M.cuts_lnk h1 hK n s hs,M.cuts_tot,decide_eq_true (by omega)];rfl
theorem M.cuts_whole {m:M.Mc} {K n:Nat} {s:Int×Int} (hn:1≤n):M.whole (M.cuts m s K n)=⟨s,m.rn s (n*K),((n*K:Nat):Int)⟩:=by
 unfold M.whole;rw [M.cuts_tot];have hl:(M.cuts m s K n).length=n:=M.cuts_len m s K n
 have e1:((M.cuts m s K n).headD M.c0).s=s:=by
  obtain ⟨k,rfl⟩:∃ k,n=k+1:=⟨n-1,by omega⟩;rw [M.cuts_cons];rfl
 have e2:((M.cuts m s K n).getLastD M.c0).e=m.rn s (n*K):=by
  obtain ⟨k,rfl⟩:∃ k,n=k+1:=⟨n-1,by omega⟩;rw [← M.cuts_snoc,List.getLastD_eq_getLast?,List.getLast?_append]
  rfl
 rw [e1,e2]
theorem M.cut_facts {m:M.Mc} {s:Int×Int} {rows many:Int} (h:M.cutOk m s rows many=true) :
  (∀ i,i<(M.cutv m s rows many).length→M.holds m ((M.cutv m s rows many).getD i M.c0)=true∧(0<i→((M.cutv m s rows many).getD i M.c0).s=((M.cutv m s rows many).getD (i-1) M.c0).e)) ∧
  M.allOk (M.cutv m s rows many)=true∧M.allv (M.cutv m s rows many)=⟨s,M.aft m s (many*(rows-1)),many*(rows-1)⟩∧M.runOk m s (many*(rows-1))=true∧1≤many∧many≤8∧2≤rows∧rows≤16:=by
 obtain ⟨hm,hs,Ba,h1,h8⟩:=M.cutOk_parts h;rw [M.cutv_in h];obtain ⟨n,rfl⟩:=Int.eq_ofNat_of_zero_le (show 0≤many by omega);obtain ⟨K,rfl⟩:∃ K:Nat,rows=(K:Int)+1:=⟨(rows-1).toNat,by rcases M.rows_yes Ba with e | e | e | e <;> omega⟩;have Aa:1≤K∧K≤15:=(by rcases M.rows_yes Ba with e | e | e | e <;> omega);rw [show ((K:Int)+1-1).toNat=K by omega,show (K:Int)+1-1=K by omega,Int.toNat_natCast];have Ea:n*K≤120:=Nat.le_trans (Nat.mul_le_mul (show n≤8 by omega) Aa.2) (by decide);have hl:(M.cuts m s K n).length=n:=M.cuts_len m s K n;have Da:=M.cuts_chain (m:=m) (s:=s) Aa.1 (show n*K≤1000 by omega) (show 1≤n by omega) hs;have Ca:M.allOk (M.cuts m s K n)=true:=(by unfold M.allOk;rw [hl,Da,decide_eq_true (by omega),decide_eq_true (by omega)];rfl);have hr:M.runOk m s ((n*K:Nat):Int)=true:=M.runOk_mk hm hs (by omega) (by omega);have e:(n:Int)*(K:Int)=((n*K:Nat):Int):=(by simp);refine ⟨fun i hi=>?_,Ca,?_,by rw [e];exact hr,by omega,by omega,by omega,by omega⟩
 ·
  rw [hl] at hi;rw [M.cuts_get m s K n hi];refine ⟨?_,fun h0=>?_⟩
  ·
   have:=M.holds_mk (m:=m) (s:=m.rn s (i*K)) (k:=K) hm (M.sOk_rn m hs _) Aa.1 (by omega);rw [M.rn_add,← Nat.succ_mul] at this;exact this
  · rw [M.cuts_get m s K n (show i-1<n by omega),show i-1+1=i by omega]
 · rw [M.allv_in Ca,M.cuts_whole (by omega),e,M.aft_in hr,Int.toNat_natCast]
namespace M
theorem filter_all : ∀ ts:List Tk,(ts.filter (·.done)).length≤ts.length∧((ts.filter (·.done)).length=ts.length↔ts.all (·.done)=true)
 | []=>by simp
 | t::l=>by
  obtain ⟨h1,h2⟩:=filter_all l
  cases ht:t.done
  ·
   simp only [List.filter_cons,ht,List.length_cons,List.all_cons,Bool.false_and];refine ⟨by simp;omega,?_⟩;simp;omega
  ·
   simp only [List.filter_cons,ht,List.length_cons,List.all_cons,Bool.true_and,if_true];exact ⟨by omega,by rw [← h2];omega⟩
theorem st_le (now next id:Int) (bs:List Int) (js:List Jb):stN now next id bs js≤stL now next id bs js:=by
 unfold stN stL;by_cases h:stOk now next id bs js=true
 · rw [if_pos h,if_pos h];exact (filter_all _).1
 · rw [if_neg h,if_neg h];omega
theorem res_true {now next id:Int} {bs:List Int} {js:List Jb} (h:stOk now next id bs js=true) :
  allOk (resL id js)=true∧(allv (resL id js)).s=(jobOf id js).s∧(allv (resL id js)).n=((stL now next id bs js:Nat):Int)*((jobOf id js).rows-1)∧holds (jobOf id js).m (allv (resL id js))=true:=by
 obtain ⟨h0,h1,h2,h3,h4,h5,h6,h7⟩:=cut_facts (cut_right h);have hl:stL now next id bs js=(jobOf id js).ts.length:=(by unfold stL;rw [if_pos h];rfl);unfold resL;refine ⟨h1,by rw [h2],by rw [h2,hl],?_⟩;rw [h2];have hp:0≤((jobOf id js).ts.length:Int)*((jobOf id js).rows-1):=Int.mul_nonneg (by omega) (by omega);have h1':1*1≤((jobOf id js).ts.length:Int)*((jobOf id js).rows-1):=Int.mul_le_mul h4 (by omega) (by omega) (by omega);rw [aft_in h3]
 obtain ⟨m1,s1,n1,n2⟩:(jobOf id js).m.ok=true∧M.sOk (jobOf id js).s=true∧0≤((jobOf id js).ts.length:Int)*((jobOf id js).rows-1)∧((jobOf id js).ts.length:Int)*((jobOf id js).rows-1)≤1000:=by
  unfold runOk at h3;simp only [Bool.and_eq_true,decide_eq_true_eq] at h3;exact h3
 generalize ((jobOf id js).ts.length:Int)*((jobOf id js).rows-1)=N at *;obtain ⟨k,rfl⟩:=Int.eq_ofNat_of_zero_le n1;rw [Int.toNat_natCast];exact holds_mk m1 s1 (by omega) (by omega)
theorem res_is (now next id:Int) (bs:List Int) (js:List Jb):resB now next id bs js=(stOk now next id bs js && decide (stN now next id bs js=stL now next id bs js)):=by
 unfold resB resIn
 cases h:stOk now next id bs js
 · simp
 ·
  have e:stN now next id bs js=((jobOf id js).ts.filter (·.done)).length∧stL now next id bs js=(jobOf id js).ts.length:=(by unfold stN stL;rw [if_pos h,if_pos h];exact ⟨rfl,rfl⟩);rw [(res_true h).1,e.1,e.2,Bool.true_and,Bool.true_and,Bool.and_true,Bool.eq_iff_iff,decide_eq_true_eq];exact (filter_all (jobOf id js).ts).2.symm
theorem job_one {now next id:Int} {bs:List Int} {js:List Jb} (h:stOk now next id bs js=true) {i:Nat} (hi:i<js.length) (he:(js.getD i j0).id=id):jobOf id js=js.getD i j0:=by
 unfold stOk at h;rw [Bool.and_eq_true] at h;have hR:=right_iff h.1;have:=jobAt_at 0 hR.rise hi;rw [he] at this;unfold jobOf;rw [this];simp
theorem res_job {now next id:Int} {bs:List Int} {js:List Jb} (h:resB now next id bs js=true) {i:Nat} (hi:i<js.length) (he:(js.getD i j0).id=id) :
  holds (js.getD i j0).m (resC now next id bs js)=true∧(resC now next id bs js).s=(js.getD i j0).s∧(resC now next id bs js).n=((stL now next id bs js:Nat):Int)*((js.getD i j0).rows-1):=by
 have Aa:resIn now next id bs js=true:=(by unfold resB at h;rw [Bool.and_eq_true] at h;exact h.1);have Ba:stOk now next id bs js=true:=(by unfold resIn at Aa;rw [Bool.and_eq_true] at Aa;exact Aa.1);obtain ⟨_,h2,h3,h4⟩:=res_true Ba;rw [job_one Ba hi he] at h2 h3 h4;unfold resC;rw [if_pos Aa];exact ⟨h4,h2,h3⟩
end M
theorem M.res_bounds {now next id:Int} {bs:List Int} {js:List M.Jb} (h:M.resB now next id bs js=true) {i:Nat} (hi:i<js.length) (he:(js.getD i M.j0).id=id):1≤(js.getD i M.j0).rows∧(js.getD i M.j0).rows≤16∧M.stL now next id bs js≤8:=by
 have Aa:M.resIn now next id bs js=true:=(by unfold M.resB at h;rw [Bool.and_eq_true] at h;exact h.1);have Ba:M.stOk now next id bs js=true:=(by unfold M.resIn at Aa;rw [Bool.and_eq_true] at Aa;exact Aa.1);have h1:=Ba;unfold M.stOk at h1;rw [Bool.and_eq_true] at h1;have hR:=M.right_iff h1.1;have hm:js.getD i M.j0∈js:=(by rw [List.getD_eq_getElem?_getD,List.getElem?_eq_getElem (by omega)];simp);have h3:=M.rows_yes (hR.jok hm).r;have h2:=(hR.tasks _ hm).2;have hl:M.stL now next id bs js=(js.getD i M.j0).ts.length:=(by unfold M.stL;rw [if_pos Ba,← M.job_one Ba hi he];rfl);rw [hl];exact ⟨by omega,by omega,h2⟩
set_option maxHeartbeats 8000000 in
set_option maxRecDepth 10000 in
theorem fnResults_any {ca:Option Addr} {len cap:Nat} {zs:List Int} (w:World) (hrow:Row .u8 w ca len cap zs) :
  Calls Tryz.prog 3 #[.slice ca len cap] w fun e w'=>e=.returned (.bool true)∧Below w.heap.size w w':=by
 have Qd:(len:Int)≤9223372036854775807:=by
  rcases hrow with ⟨_,rfl,_⟩ | ⟨x,_,h1,h2,_⟩
  · simp
  · unfold maxLen at h2;omega
 by_cases Rc:(1048576:Int)<(len:Int)
 ·
  go_enter Tryz.func3,Tryz.ntmps3;(go_wp2_with fail);refine (big_any _ _ _ _).mono ?_;rintro e w' ⟨rfl,rfl⟩;go_wp2;go_ret;exact ⟨rfl,Below.refl _ _⟩
 have Gd:decide ((1048576:Int)<(len:Int))=false:=(by simpa using Rc);have HR:=Hd (hrow);clear hrow Rc;go_enter Tryz.func3,Tryz.ntmps3;(go_wp2_with fail);refine (big_any _ _ _ _).mono ?_;rintro e wz ⟨rfl,Sc⟩;have Id:=Sc.symm;clear Sc;subst Id;(go_wp2_with fail);refine (drawResultOf_any w HR.o).mono ?_;rintro e w1 ⟨Fa,Ga,id,ab,nb,cb,bs,aj,nj,cj,js,rfl,hM,hb⟩;have HM:=Hd (hM);have Xa:=Hd (hb);clear hM hb HR Gd;have C1:=fun W (h:SeesM W ab nb cb aj nj cj bs js)=>implResultOf_any Fa Ga id W h;have C2:=fun W (h:SeesM W ab nb cb aj nj cj bs js)=>specResultOf_any Fa Ga id W h;have C3:=fun W (h:SeesM W ab nb cb aj nj cj bs js)=>implStatusOf_any Fa Ga id W h;have C4:=fun W (h:SeesM W ab nb cb aj nj cj bs js)=>specStatusOf_any Fa Ga id W h;have Ya:=M.res_is Fa Ga id bs js;have Pb:=M.st_le Fa Ga id bs js;have Za:=fun (h:M.resB Fa Ga id bs js=true) (i:Nat) (hi:i<js.length) (he:(js.getD i M.j0).id=id)=>M.res_job h hi he;have Qb:=fun (h:M.resB Fa Ga id bs js=true) (i:Nat) (hi:i<js.length) (he:(js.getD i M.j0).id=id)=>M.res_bounds h hi he;generalize M.resC Fa Ga id bs js=cl at C1 C2 Za;generalize M.resB Fa Ga id bs js=rb at C1 C2 Ya Za Qb;generalize M.stN Fa Ga id bs js=sN at C3 C4 Ya Pb;generalize M.stL Fa Ga id bs js=sL at C3 C4 Ya Pb Za Qb;generalize M.stOk Fa Ga id bs js=sk at C3 C4 Ya;obtain ⟨⟨c1,c2⟩,⟨c3,c4⟩,c5⟩:=cl;dsimp only [clv] at C1 C2 Za;have Tc:=Hd (Ya);have Jd:H9 (sN≤sL):=Pb;have Kd:=Hd (Za);have Ld:=Hd (Qb);clear Ya Pb Za Qb;have Ia:H9 (Below w1.heap.size w1 w1):=Below.refl _ _;have Aa:=bal w1 (.cells (v4' Fa Ga ab nb cb aj nj cj).toArray 27);have Ha:=Hd (Ia.o.trans (Aa.mono Ia.o.size));clear Ia;clear Aa;have Ka:=lnw w1 (v4' Fa Ga ab nb cb aj nj cj) 27;(go_wp2_with fail);generalize (w1.alloc (.cells (v4' Fa Ga ab nb cb aj nj cj).toArray 27))=w2 at Ha Ka ⊢;refine (C1 _ (HM.o.below Ha.o)).mono ?_;rintro e w3 ⟨rfl,hb⟩;have Eb:=Hd (Ha.o.trans (hb.mono Ha.o.size));have Rb:=Hd (Ka.o.belowS hb);clear Ha Ka;clear hb;clear C1;have Aa:=bal w3 (.cells (v14' c1 c2 c3 c4 c5).toArray 33);have Fb:=Hd (Eb.o.trans (Aa.mono Eb.o.size));have Ua:=Hd (Rb.o.belowS Aa);clear Eb Rb;clear Aa;have Sb:=lnw w3 (v14' c1 c2 c3 c4 c5) 33;have Gb:(w3.alloc (.cells (v14' c1 c2 c3 c4 c5).toArray 33)).cell? ⟨w1.heap.size,0,none⟩=some (it Fa):=Ua.o.at 0;have Hb:(w3.alloc (.cells (v14' c1 c2 c3 c4 c5).toArray 33)).cell? ⟨w1.heap.size,1,none⟩=some (it Ga):=Ua.o.at 1;have Ib:(w3.alloc (.cells (v14' c1 c2 c3 c4 c5).toArray 33)).cell? ⟨w1.heap.size,2,none⟩=some (.slice ab nb cb):=Ua.o.at 2;have Jb:(w3.alloc (.cells (v14' c1 c2 c3 c4 c5).toArray 33)).cell? ⟨w1.heap.size,3,none⟩=some (.slice aj nj cj):=Ua.o.at 3;(go_wp2_with fail);clear Gb Hb Ib Jb;generalize (w3.alloc (.cells (v14' c1 c2 c3 c4 c5).toArray 33))=w4 at Fb Ua Sb  ⊢;generalize w3.heap.size=ck at Sb  ⊢;refine (C2 _ (HM.o.below Fb.o)).mono ?_;rintro e w5 ⟨rfl,hb⟩;have Ac:=Hd (Fb.o.trans (hb.mono Fb.o.size));have Uc:=Hd (Ua.o.belowS hb);have Vc:=Hd (Sb.o.belowS hb);clear Fb Ua Sb;clear hb;clear C2;have Aa:=bal w5 (.cells (v14' c1 c2 c3 c4 c5).toArray 33);have Kb:=Hd (Ac.o.trans (Aa.mono Ac.o.size));have Va:=Hd (Uc.o.belowS Aa);have Bc:=Hd (Vc.o.belowS Aa);clear Ac Uc Vc;clear Aa;have Tb:=lnw w5 (v14' c1 c2 c3 c4 c5) 33;have Gb:(w5.alloc (.cells (v14' c1 c2 c3 c4 c5).toArray 33)).cell? ⟨w1.heap.size,0,none⟩=some (it Fa):=Va.o.at 0;have Hb:(w5.alloc (.cells (v14' c1 c2 c3 c4 c5).toArray 33)).cell? ⟨w1.heap.size,1,none⟩=some (it Ga):=Va.o.at 1;have Ib:(w5.alloc (.cells (v14' c1 c2 c3 c4 c5).toArray 33)).cell? ⟨w1.heap.size,2,none⟩=some (.slice ab nb cb):=Va.o.at 2;have Jb:(w5.alloc (.cells (v14' c1 c2 c3 c4 c5).toArray 33)).cell? ⟨w1.heap.size,3,none⟩=some (.slice aj nj cj):=Va.o.at 3;(go_wp2_with fail);clear Gb Hb Ib Jb;generalize (w5.alloc (.cells (v14' c1 c2 c3 c4 c5).toArray 33))=w6 at Kb Va Bc Tb  ⊢;generalize w5.heap.size=dk at Tb  ⊢;refine (C3 _ (HM.o.below Kb.o)).mono ?_;rintro e w7 ⟨rfl,hb⟩;have Ub:=Hd (Kb.o.trans (hb.mono Kb.o.size));have Ab:=Hd (Va.o.belowS hb);have Wc:=Hd (Bc.o.belowS hb);have Xc:=Hd (Tb.o.belowS hb);clear Kb Va Bc Tb;clear hb;clear C3;have Gb:=Ab.o.c 0 rfl;have Hb:=Ab.o.c 1 rfl;have Ib:=Ab.o.c 2 rfl;have Jb:=Ab.o.c 3 rfl;(go_wp2_with fail);clear Gb Hb Ib Jb;refine (C4 _ (HM.o.below Ub.o)).mono ?_;rintro e w8 ⟨rfl,hb⟩;have Bb:=Hd (Ub.o.trans (hb.mono Ub.o.size));have Cb:=Hd (Ab.o.belowS hb);have La:=Hd (Wc.o.belowS hb);have Pa:=Hd (Xc.o.belowS hb);clear Ub Ab Wc Xc;clear hb;clear C4;have Cc:=La.o.c 0 rfl;have Dc:=La.o.c 1 rfl;have Ec:=La.o.c 2 rfl;have Fc:=La.o.c 3 rfl;have Gc:=La.o.c 4 rfl;have Hc:=Pa.o.c 0 rfl;have Ic:=Pa.o.c 1 rfl;have Jc:=Pa.o.c 2 rfl;have Kc:=Pa.o.c 3 rfl;have Lc:=Pa.o.c 4 rfl;have Yc:=Tc.o;generalize Lb:decide (sN=sL)=nl at Yc;have Vb:decide ((sN:Int)=(sL:Int))=nl:=(by rw [← Lb];by_cases h:sN=sL;rw [decide_eq_true h,decide_eq_true (by rw [h])];rw [decide_eq_false h,decide_eq_false (by omega)]);have Nc:((sN:Int) == (sL:Int))=nl:=(by rw [← Vb];rfl);have Oc:(sN == sL)=nl:=(by rw [← Lb];rfl);subst Yc;have Rd:(sN:Int)≤(sL:Int):=(by have:=Jd.o;omega);clear Tc
 cases sk with
 | false =>
  (go_wp2_with fail);clear Cc Dc Ec Fc Gc Hc Ic Jc Kc Lc Vb Nc Oc Lb
  go_loopw [15] (fun x wr=>∃ n:Nat,n≤nj∧x=it n∧Below w1.heap.size w1 wr∧Lies wr w1.heap.size (v4' Fa Ga ab nb cb aj nj cj)∧Lies wr ck (v14' c1 c2 c3 c4 c5)) (fun x _=>nj-(intOf x).toNat)
  case atStart=>exact ⟨0,by omega,rfl,Bb.o,Cb.o,La.o⟩
  case round =>
   obtain ⟨n,hn,rfl,hX,Na,Qa⟩:=hrel;clear Bb Cb La Pa;by_cases Nb:n<nj
   case neg =>
    have Ob:¬ (n:Int)<(nj:Int):=(by omega);have m3:=Na.c 3 rfl;go_wp2;go_ret;exact ⟨rfl,Xa.o.trans (hX.mono Xa.o.size)⟩
   case pos =>
    obtain ⟨b1,o1,rfl,Ra⟩:=(HM.o.below hX).j.at (by omega);obtain ⟨ta,tc,hA,hT⟩:=Ra n Nb;have Ob:(n:Int)<(nj:Int):=(by omega);have Zc:(0:Int)≤(n:Int):=(by omega);have Ad:(nj:Int)≤cj:=(by have:=HM.o.j.le;omega);have Bd:(nj:Int)≤9223372036854775807:=(by have:=HM.o.j.le;have:=HM.o.j.big;omega);have Wb:n<js.length:=(by have:=HM.o.j.len;omega);generalize js.getD n M.j0=cq at hA hT;obtain ⟨Ea,⟨⟨e1,e2,e3,e4,e5,e6⟩,⟨e7,e8,e9,Ba,Ca,Da⟩⟩,⟨t1,t2⟩,jr,jg,tl⟩:=cq;dsimp only at hT;have hR:wr.rangeAt b1 (o1+n*18) (jvs ⟨Ea,⟨⟨e1,e2,e3,e4,e5,e6⟩,⟨e7,e8,e9,Ba,Ca,Da⟩⟩,(t1,t2),jr,jg,tl⟩ ta tc):=row_of_cells rfl hA;dsimp only [jvs] at hR;generalize tl.length=tn at hR;clear Ra hA hT;have Ia:=Hd (hX);have Oa:=Hd (Na);have Sa:=Hd (Qa);clear hX Na Qa;have m3:=Oa.o.c 3 rfl;(go_wp2_with (with_reducible refine wpList_stop 94 ?_ ?_;rfl));clear m3;with_reducible refine ldm 44 b1 (o1+n*18) (v0' Ea e1 e2 e3 e4 e5 e6 e7 e8 e9 Ba Ca Da t1 t2 jr jg ta tn tc) hR Tryz.underlying44 ?q5 ?_
    case q5=>exact ⟨rfl,rfl,by kernel_rfl,_,rfl,by kernel_rfl⟩
    clear hR;(go_wp2_with (with_reducible refine wpList_stop 16 ?_ ?_;rfl));show wpList _ _ _ _ _ _;have Ta:(Instr.alloc 44 true (.tuple #[])).run Tryz.prog wr=.ok (.pointer (some ⟨wr.heap.size,0,none⟩)) (wr.alloc (.cells v2'.toArray 44)):=(by kernel_rfl);with_reducible refine wpList_alloc_as ?qg 44 ?qo v2'.toArray Ta ?_
    case qg | qo=>exact rfl
    clear Ta;show wpList _ _ _ _ _ _;with_reducible refine Hx (stm 44 wr.heap.size 0 (v0' Ea e1 e2 e3 e4 e5 e6 e7 e8 e9 Ba Ca Da t1 t2 jr jg ta tn tc) ?q6 ?q5 ?_)
    case q6=>exact (lies_new _ _ _).there _ 18 (by simp)
    case q5=>exact ⟨rfl,by kernel_rfl,by kernel_rfl,_,_,rfl,by kernel_rfl,by kernel_rfl⟩
    have Aa:Below wr.heap.size wr ((wr.alloc (.cells v2'.toArray 44)).setCells wr.heap.size 0 (v0' Ea e1 e2 e3 e4 e5 e6 e7 e8 e9 Ba Ca Da t1 t2 jr jg ta tn tc)):=below_setCells _ _ ((Below.refl _ _).alloc (Nat.le_refl _) _) (Nat.le_refl _);have Ha:=Hd (Ia.o.trans (Aa.mono Ia.o.size));have Ka:=Hd (Oa.o.belowS Aa);have Ja:=Hd (Sa.o.belowS Aa);clear Ia Oa Sa;clear Aa;generalize ((wr.alloc (.cells v2'.toArray 44)).setCells wr.heap.size 0 (v0' Ea e1 e2 e3 e4 e5 e6 e7 e8 e9 Ba Ca Da t1 t2 jr jg ta tn tc))=wj at Ha Ka Ja ⊢;generalize wr.heap.size=jb at ⊢;go_wp2;go_roundw
    case rel=>exact ⟨n+1,by omega,by go_num,Ha.o,Ka.o,Ja.o⟩
    case measure=>simp [intOf];omega
 | true =>
  cases nl with
  | false =>
   (go_wp2_with fail);clear Cc Dc Ec Fc Gc Hc Ic Jc Kc Lc Vb Nc Oc Lb
   go_loopw [15] (fun x wr=>∃ n:Nat,n≤nj∧x=it n∧Below w1.heap.size w1 wr∧Lies wr w1.heap.size (v4' Fa Ga ab nb cb aj nj cj)∧Lies wr ck (v14' c1 c2 c3 c4 c5)) (fun x _=>nj-(intOf x).toNat)
   case atStart=>exact ⟨0,by omega,rfl,Bb.o,Cb.o,La.o⟩
   case round =>
    obtain ⟨n,hn,rfl,hX,Na,Qa⟩:=hrel;clear Bb Cb La Pa;by_cases Nb:n<nj
    case neg =>
     have Ob:¬ (n:Int)<(nj:Int):=(by omega);have m3:=Na.c 3 rfl;go_wp2;go_ret;exact ⟨rfl,Xa.o.trans (hX.mono Xa.o.size)⟩
    case pos =>
     obtain ⟨b1,o1,rfl,Ra⟩:=(HM.o.below hX).j.at (by omega);obtain ⟨ta,tc,hA,hT⟩:=Ra n Nb;have Ob:(n:Int)<(nj:Int):=(by omega);have Zc:(0:Int)≤(n:Int):=(by omega);have Ad:(nj:Int)≤cj:=(by have:=HM.o.j.le;omega);have Bd:(nj:Int)≤9223372036854775807:=(by have:=HM.o.j.le;have:=HM.o.j.big;omega);have Wb:n<js.length:=(by have:=HM.o.j.len;omega);generalize js.getD n M.j0=cq at hA hT;obtain ⟨Ea,⟨⟨e1,e2,e3,e4,e5,e6⟩,⟨e7,e8,e9,Ba,Ca,Da⟩⟩,⟨t1,t2⟩,jr,jg,tl⟩:=cq;dsimp only at hT;have hR:wr.rangeAt b1 (o1+n*18) (jvs ⟨Ea,⟨⟨e1,e2,e3,e4,e5,e6⟩,⟨e7,e8,e9,Ba,Ca,Da⟩⟩,(t1,t2),jr,jg,tl⟩ ta tc):=row_of_cells rfl hA;dsimp only [jvs] at hR;generalize tl.length=tn at hR;clear Ra hA hT;have Ia:=Hd (hX);have Oa:=Hd (Na);have Sa:=Hd (Qa);clear hX Na Qa;have m3:=Oa.o.c 3 rfl;(go_wp2_with (with_reducible refine wpList_stop 94 ?_ ?_;rfl));clear m3;with_reducible refine ldm 44 b1 (o1+n*18) (v0' Ea e1 e2 e3 e4 e5 e6 e7 e8 e9 Ba Ca Da t1 t2 jr jg ta tn tc) hR Tryz.underlying44 ?q5 ?_
     case q5=>exact ⟨rfl,rfl,by kernel_rfl,_,rfl,by kernel_rfl⟩
     clear hR;(go_wp2_with (with_reducible refine wpList_stop 16 ?_ ?_;rfl));show wpList _ _ _ _ _ _;have Ta:(Instr.alloc 44 true (.tuple #[])).run Tryz.prog wr=.ok (.pointer (some ⟨wr.heap.size,0,none⟩)) (wr.alloc (.cells v2'.toArray 44)):=(by kernel_rfl);with_reducible refine wpList_alloc_as ?qg 44 ?qo v2'.toArray Ta ?_
     case qg | qo=>exact rfl
     clear Ta;show wpList _ _ _ _ _ _;with_reducible refine Hx (stm 44 wr.heap.size 0 (v0' Ea e1 e2 e3 e4 e5 e6 e7 e8 e9 Ba Ca Da t1 t2 jr jg ta tn tc) ?q6 ?q5 ?_)
     case q6=>exact (lies_new _ _ _).there _ 18 (by simp)
     case q5=>exact ⟨rfl,by kernel_rfl,by kernel_rfl,_,_,rfl,by kernel_rfl,by kernel_rfl⟩
     have Aa:Below wr.heap.size wr ((wr.alloc (.cells v2'.toArray 44)).setCells wr.heap.size 0 (v0' Ea e1 e2 e3 e4 e5 e6 e7 e8 e9 Ba Ca Da t1 t2 jr jg ta tn tc)):=below_setCells _ _ ((Below.refl _ _).alloc (Nat.le_refl _) _) (Nat.le_refl _);have Ha:=Hd (Ia.o.trans (Aa.mono Ia.o.size));have Ka:=Hd (Oa.o.belowS Aa);have Ja:=Hd (Sa.o.belowS Aa);clear Ia Oa Sa;clear Aa;generalize ((wr.alloc (.cells v2'.toArray 44)).setCells wr.heap.size 0 (v0' Ea e1 e2 e3 e4 e5 e6 e7 e8 e9 Ba Ca Da t1 t2 jr jg ta tn tc))=wj at Ha Ka Ja ⊢;generalize wr.heap.size=jb at ⊢;go_wp2;go_roundw
     case rel=>exact ⟨n+1,by omega,by go_num,Ha.o,Ka.o,Ja.o⟩
     case measure=>simp [intOf];omega
  | true =>
   (go_wp2_with fail);clear Cc Dc Ec Fc Gc Hc Ic Jc Kc Lc Vb Nc Oc Lb
   go_loopw [15] (fun x wr=>∃ n:Nat,n≤nj∧x=it n∧Below w1.heap.size w1 wr∧Lies wr w1.heap.size (v4' Fa Ga ab nb cb aj nj cj)∧Lies wr ck (v14' c1 c2 c3 c4 c5)) (fun x _=>nj-(intOf x).toNat)
   case atStart=>exact ⟨0,by omega,rfl,Bb.o,Cb.o,La.o⟩
   case round =>
    obtain ⟨n,hn,rfl,hX,Na,Qa⟩:=hrel;clear Bb Cb La Pa;by_cases Nb:n<nj
    case neg =>
     have Ob:¬ (n:Int)<(nj:Int):=(by omega);have m3:=Na.c 3 rfl;go_wp2;go_ret;exact ⟨rfl,Xa.o.trans (hX.mono Xa.o.size)⟩
    case pos =>
     obtain ⟨b1,o1,rfl,Ra⟩:=(HM.o.below hX).j.at (by omega);obtain ⟨ta,tc,hA,hT⟩:=Ra n Nb;have Ob:(n:Int)<(nj:Int):=(by omega);have Zc:(0:Int)≤(n:Int):=(by omega);have Ad:(nj:Int)≤cj:=(by have:=HM.o.j.le;omega);have Bd:(nj:Int)≤9223372036854775807:=(by have:=HM.o.j.le;have:=HM.o.j.big;omega);have Wb:n<js.length:=(by have:=HM.o.j.len;omega);have Xb:=fun h=>Kd.o rfl n Wb h;have Yb:=fun h=>Ld.o rfl n Wb h;generalize js.getD n M.j0=cq at hA hT Xb Yb;obtain ⟨Ea,⟨⟨e1,e2,e3,e4,e5,e6⟩,⟨e7,e8,e9,Ba,Ca,Da⟩⟩,⟨t1,t2⟩,jr,jg,tl⟩:=cq;dsimp only at hT Xb Yb;have hR:wr.rangeAt b1 (o1+n*18) (jvs ⟨Ea,⟨⟨e1,e2,e3,e4,e5,e6⟩,⟨e7,e8,e9,Ba,Ca,Da⟩⟩,(t1,t2),jr,jg,tl⟩ ta tc):=row_of_cells rfl hA;dsimp only [jvs] at hR;generalize tl.length=tn at hR;clear Ra hA hT;have Cd:=Hd (Xb);have Dd:=Hd (Yb);clear Xb Yb;have Ia:=Hd (hX);have Oa:=Hd (Na);have Sa:=Hd (Qa);clear hX Na Qa;have m3:=Oa.o.c 3 rfl;(go_wp2_with (with_reducible refine wpList_stop 94 ?_ ?_;rfl));clear m3;with_reducible refine ldm 44 b1 (o1+n*18) (v0' Ea e1 e2 e3 e4 e5 e6 e7 e8 e9 Ba Ca Da t1 t2 jr jg ta tn tc) hR Tryz.underlying44 ?q5 ?_
     case q5=>exact ⟨rfl,rfl,by kernel_rfl,_,rfl,by kernel_rfl⟩
     clear hR;(go_wp2_with (with_reducible refine wpList_stop 16 ?_ ?_;rfl));show wpList _ _ _ _ _ _;have Ta:(Instr.alloc 44 true (.tuple #[])).run Tryz.prog wr=.ok (.pointer (some ⟨wr.heap.size,0,none⟩)) (wr.alloc (.cells v2'.toArray 44)):=(by kernel_rfl);with_reducible refine wpList_alloc_as ?qg 44 ?qo v2'.toArray Ta ?_
     case qg | qo=>exact rfl
     clear Ta;show wpList _ _ _ _ _ _;with_reducible refine Hx (stm 44 wr.heap.size 0 (v0' Ea e1 e2 e3 e4 e5 e6 e7 e8 e9 Ba Ca Da t1 t2 jr jg ta tn tc) ?q6 ?q5 ?_)
     case q6=>exact (lies_new _ _ _).there _ 18 (by simp)
     case q5=>exact ⟨rfl,by kernel_rfl,by kernel_rfl,_,_,rfl,by kernel_rfl,by kernel_rfl⟩
     have Aa:Below wr.heap.size wr ((wr.alloc (.cells v2'.toArray 44)).setCells wr.heap.size 0 (v0' Ea e1 e2 e3 e4 e5 e6 e7 e8 e9 Ba Ca Da t1 t2 jr jg ta tn tc)):=below_setCells _ _ ((Below.refl _ _).alloc (Nat.le_refl _) _) (Nat.le_refl _);have Ha:=Hd (Ia.o.trans (Aa.mono Ia.o.size));have Ka:=Hd (Oa.o.belowS Aa);have Ja:=Hd (Sa.o.belowS Aa);clear Ia Oa Sa;clear Aa;have Wa:H9 (Lies ((wr.alloc (.cells v2'.toArray 44)).setCells wr.heap.size 0 (v0' Ea e1 e2 e3 e4 e5 e6 e7 e8 e9 Ba Ca Da t1 t2 jr jg ta tn tc)) wr.heap.size (v0' Ea e1 e2 e3 e4 e5 e6 e7 e8 e9 Ba Ca Da t1 t2 jr jg ta tn tc)):=(lies_new wr v2'.toArray 44).setCells (v0' Ea e1 e2 e3 e4 e5 e6 e7 e8 e9 Ba Ca Da t1 t2 jr jg ta tn tc) 0 (by simp);generalize ((wr.alloc (.cells v2'.toArray 44)).setCells wr.heap.size 0 (v0' Ea e1 e2 e3 e4 e5 e6 e7 e8 e9 Ba Ca Da t1 t2 jr jg ta tn tc))=wj at Ha Ka Ja Wa  ⊢;generalize wr.heap.size=jb at Wa  ⊢;by_cases Zb:Ea=id
     case neg =>
      have gj:(Ea == id)=false:=(by simp [Zb]);have x0:=Wa.o.c 0 rfl;go_wp2;go_roundw
      case rel=>exact ⟨n+1,by omega,by go_num,Ha.o,Ka.o,Ja.o⟩
      case measure=>simp [intOf];omega
     case pos =>
      obtain ⟨Ed,Pc,Fd⟩:=Cd.o Zb;obtain ⟨Sd,Td,Ud⟩:=Dd.o Zb;have Nd:c1=t1:=(Prod.mk.inj Pc).1;have Od:c2=t2:=(Prod.mk.inj Pc).2;subst Nd;subst Od;subst Zb;have Pd:=Hd (Fd);clear Pc Fd Cd Dd;have Vd:IntKind.i64.wrap (jr-1)=jr-1:=(by rw [IntKind.wrap_i64];omega);have Wd:IntKind.i64.wrap ((sL:Int)*(jr-1))=c5:=(by have h1:0≤(sL:Int)*(jr-1):=Int.mul_nonneg (by omega) (by omega);have h2:(sL:Int)*(jr-1)≤8*15:=Int.mul_le_mul (by omega) (by omega) (by omega) (by omega);rw [Pd.o,IntKind.wrap_i64];omega);have CH:=fun W=>implHolds_any ⟨⟨e1,e2,e3,e4,e5,e6⟩,⟨e7,e8,e9,Ba,Ca,Da⟩⟩ ⟨(c1,c2),(c3,c4),c5⟩ W;rw [Ed] at CH;dsimp only [mcv,clv] at CH;clear Ed;have x0:=Wa.o.c 0 rfl;have hR:wj.rangeAt jb 1 (v1' e1 e2 e3 e4 e5 e6 e7 e8 e9 Ba Ca Da):=Wa.o.mid 1 12;(go_wp2_with (with_reducible refine wpList_stop 104 ?_ ?_;rfl));show wpList _ _ _ _ _ _;clear x0;have iL:(Tryz.prog.info? 41).map (·.size)=some ((v1' e1 e2 e3 e4 e5 e6 e7 e8 e9 Ba Ca Da):List Value).length:=(show (Tryz.prog.info? 41).map (·.size)=some 12 by kernel_rfl);with_reducible refine wpList_load_want ?qw 41 ?qlw ?qo jb 1 ?qhx (v1' e1 e2 e3 e4 e5 e6 e7 e8 e9 Ba Ca Da) _ hR Tryz.underlying41 ?qd iL ?_
      case qw=>kernel_rfl
      case qo=>exact rfl
      case qhx=>kernel_rfl
      case qd=>exact rfl
      clear hR iL;have y0:=Ja.o.c 0 rfl;have y1:=Ja.o.c 1 rfl;have y2:=Ja.o.c 2 rfl;have y3:=Ja.o.c 3 rfl;have y4:=Ja.o.c 4 rfl;(go_wp2_with fail);clear y0 y1 y2 y3 y4;refine (CH _).mono ?_;rintro e wk ⟨rfl,hb⟩;have Eb:=Hd (Ha.o.trans (hb.mono Ha.o.size));have Rb:=Hd (Ka.o.belowS hb);have Db:=Hd (Ja.o.belowS hb);have Qc:=Hd (Wa.o.belowS hb);clear Ha Ka Ja Wa;clear hb;clear CH;have y0:=Db.o.c 0 rfl;have y1:=Db.o.c 1 rfl;have y2:=Db.o.c 2 rfl;have y3:=Db.o.c 3 rfl;have y4:=Db.o.c 4 rfl;have Xd:=Qc.o.c 13 rfl;have Yd:=Qc.o.c 14 rfl;have Zd:=Qc.o.c 15 rfl;go_wp2;go_roundw
      case rel=>exact ⟨n+1,by omega,by go_num,Eb.o,Rb.o,Db.o⟩
      case measure=>simp [intOf];omega
end Go.Proofs.YtfhknkppiidnkaaGreat
