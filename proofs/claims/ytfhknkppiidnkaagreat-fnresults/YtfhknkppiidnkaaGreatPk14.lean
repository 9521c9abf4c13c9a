import Derived.Test.YtfhknkppiidnkaaGreatPk13
import Derived.Test.YtfhknkppiidnkaaGreatPk00
import Derived.Test.YtfhknkppiidnkaaGreatPk01
import Derived.Test.YtfhknkppiidnkaaGreatPk03
import Derived.Test.YtfhknkppiidnkaaGreatPk12
import Derived.Test.YtfhknkppiidnkaaGreatPk04
import Derived.Test.YtfhknkppiidnkaaGreatPk06
import Derived.Test.YtfhknkppiidnkaaGreatPk07
namespace Go.Proofs.YtfhknkppiidnkaaGreat
open Go.RowKit
set_option maxHeartbeats 32000000
set_option maxRecDepth 10000
theorem specMarketOk_any {ab aj:Option Addr} {nb cb nj cj:Nat} {bs:List Int} {js:List M.Jb} (now next:Int) (w:World) (hz:SeesM w ab nb cb aj nj cj bs js) :
  Calls Tryz.prog 26 #[.agg #[.int .i64 now,.int .i64 next,.slice ab nb cb,.slice aj nj cj]] w fun e w'=>e=.returned (.bool (M.mkOk now next bs js))∧Below w.heap.size w w':=
 mkxA.h ⟨mkxA_1⟩ ⟨mkxB.h ⟨(mkxC.h ⟨mkxC_t.1⟩ ⟨mkxC_t.2⟩).1⟩ ⟨(mkxC.h ⟨mkxC_t.1⟩ ⟨mkxC_t.2⟩).2⟩⟩ ab aj nb cb nj cj bs js now next w hz
theorem M.jobAt_some (id:Int):∀ (js:List M.Jb) (k:Nat),0≤M.jobAt id k js→∃ i,i<js.length∧M.jobAt id k js=((k+i:Nat):Int)∧(js.getD i M.j0).id=id
 | [],k,h=>by unfold M.jobAt at h;omega
 | j::l,k,h=>by
  unfold M.jobAt at h ⊢;by_cases e:j.id=id
  · rw [if_pos e];exact ⟨0,by simp,rfl,e⟩
  ·
   rw [if_neg e] at h ⊢;obtain ⟨i,h1,h2,h3⟩:=M.jobAt_some id l (k+1) h;refine ⟨i+1,by simpa using h1,?_,h3⟩;rw [h2];congr 1;omega
def M.jobOf (id:Int) (js:List M.Jb):M.Jb:=js.getD (M.jobAt id 0 js).toNat M.j0
def M.stOk (now next id:Int) (bs:List Int) (js:List M.Jb):Bool:=M.mkOk now next bs js && decide (0≤M.jobAt id 0 js)
def M.stN (now next id:Int) (bs:List Int) (js:List M.Jb):Nat:=if M.stOk now next id bs js=true then ((js.getD (M.jobAt id 0 js).toNat M.j0).ts.filter (·.done)).length else 0
def M.stL (now next id:Int) (bs:List Int) (js:List M.Jb):Nat:=if M.stOk now next id bs js=true then (js.getD (M.jobAt id 0 js).toNat M.j0).ts.length else 0
theorem specStatusOf_any {ab aj:Option Addr} {nb cb nj cj:Nat} {bs:List Int} {js:List M.Jb} (now next id:Int) (w:World) (hz:SeesM w ab nb cb aj nj cj bs js) :
  Calls Tryz.prog 10 #[.agg #[.int .i64 now,.int .i64 next,.slice ab nb cb,.slice aj nj cj],.int .i64 id] w fun e w'=>e=.returned (.tuple #[.int .i64 (M.stN now next id bs js:Nat),.int .i64 (M.stL now next id bs js:Nat),.bool (M.stOk now next id bs js)])∧Below w.heap.size w w':=by
 have HM:=Hd (hz);have Ib:(nj:Int)≤cj:=(by have:=hz.j.le;omega);have Kb:(nj:Int)≤9223372036854775807:=(by have:=hz.j.big;have:=hz.j.le;omega);have Ya:js.length=nj:=hz.j.len;have C1:∀ W,SeesJ W aj nj cj js→Calls Tryz.prog 25 #[.agg #[.int .i64 now,.int .i64 next,.slice ab nb cb,.slice aj nj cj],.int .i64 id] W fun e w'=>e=.returned (.int .i64 (M.jobAt id 0 js))∧Below W.heap.size W w':=fun W h=>l8Job_any now next id W h;have C2:∀ W,SeesM W ab nb cb aj nj cj bs js→Calls Tryz.prog 26 #[.agg #[.int .i64 now,.int .i64 next,.slice ab nb cb,.slice aj nj cj]] W fun e w'=>e=.returned (.bool (M.mkOk now next bs js))∧Below W.heap.size W w':=fun W h=>specMarketOk_any now next W h;have Qa:=M.jobAt_some id js 0;have HF:H9 (M.stOk now next id bs js=false→M.stN now next id bs js=0∧M.stL now next id bs js=0):=fun h=>by unfold M.stN M.stL;rw [h];exact ⟨rfl,rfl⟩
 have Da:H9 (M.stOk now next id bs js=true→M.stN now next id bs js=((js.getD (M.jobAt id 0 js).toNat M.j0).ts.filter (·.done)).length∧M.stL now next id bs js=(js.getD (M.jobAt id 0 js).toNat M.j0).ts.length):=fun h=>by unfold M.stN M.stL;rw [h];exact ⟨rfl,rfl⟩
 generalize M.stN now next id bs js=sn at HF Da ⊢;generalize M.stL now next id bs js=sl at HF Da ⊢;have Ea:M.stOk now next id bs js=(M.mkOk now next bs js && decide (0≤M.jobAt id 0 js)):=rfl;generalize M.stOk now next id bs js=os at Ea HF Da ⊢;generalize M.mkOk now next bs js=om at C2 Ea;generalize M.jobAt id 0 js=Ra at C1 Ea Qa Da;have Ja:=Hd (Ea);clear hz Ea;go_enter Tryz.func10,Tryz.ntmps10;have Ka:=lnw w (v4' now next ab nb cb aj nj cj) 27;have Fa:H9 (Below w.heap.size w (w.alloc (.cells (v4' now next ab nb cb aj nj cj).toArray 27))):=(Below.refl _ _).alloc (Nat.le_refl _) _;(go_wp2_with fail);generalize (w.alloc (.cells (v4' now next ab nb cb aj nj cj).toArray 27))=wa at Ka Fa  ⊢;refine (C1 _ (HM.o.j.below Fa.o)).mono ?_;rintro e wb ⟨rfl,hb⟩;have Ba:=Hd (Ka.o.belowS hb);have Ga:=Hd (Fa.o.trans (hb.mono Fa.o.size));clear Ka Fa;clear hb;have x0:=Ba.o.c 0 rfl;have x1:=Ba.o.c 1 rfl;have x2:=Ba.o.c 2 rfl;have x3:=Ba.o.c 3 rfl;(go_wp2_with fail);clear x0 x1 x2 x3;refine (C2 _ (HM.o.below Ga.o)).mono ?_;rintro e wc ⟨rfl,hb⟩;have La:=Hd (Ba.o.belowS hb);have Ca:=Hd (Ga.o.trans (hb.mono Ga.o.size));clear Ba Ga;clear hb
 cases om with
 | false =>
  obtain rfl:os=false:=by rw [Ja.o];rfl
  obtain ⟨rfl,rfl⟩:=HF.o (by simp);go_wp2;exact bodyPost_ret (v:=.tuple #[it 0,it 0,.bool false]) (by simp [results,Tryz.results10,go_sem]) rfl ⟨rfl,Ca.o⟩
 | true =>
  by_cases h:0≤Ra
  case neg =>
   obtain rfl:os=false:=by rw [Ja.o];simp;omega
   have Lb:Ra<0:=(by omega);obtain ⟨rfl,rfl⟩:=HF.o (by simp);go_wp2;exact bodyPost_ret (v:=.tuple #[it 0,it 0,.bool false]) (by simp [results,Tryz.results10,go_sem]) rfl ⟨rfl,Ca.o⟩
  obtain rfl:os=true:=by rw [Ja.o];simp;omega
  obtain ⟨i,hi,Sa,_⟩:=Qa h;rw [Nat.zero_add] at Sa;subst Sa;rw [Ya] at hi;obtain ⟨Ha,Ia⟩:=Da.o (by simp);rw [Int.toNat_natCast] at Ha Ia;obtain ⟨b1,o1,rfl,Ta⟩:=(HM.o.j.below Ca.o).at (by omega);obtain ⟨ta,tc,hA,hT⟩:=Ta i hi;have Na:wc.cell? ⟨b1,o1+i*18+17,none⟩=some (.slice ta (js.getD i M.j0).ts.length tc):=hA 17 (by omega);generalize (js.getD i M.j0).ts=tl at hT Na Ha Ia;have Za:=Hd (Ha);have Ab:=Hd (Ia);clear Ha Ia;clear hA Ta;generalize Ua:tl.length=tn at hT Na;have Oa:=Hd (Ua);have Nb:(i:Int)<(nj:Int):=(by omega);have Ob:(0:Int)≤(i:Int):=(by omega);have Pb:¬ (i:Int)<0:=(by omega);have Qb:(tn:Int)≤tc:=(by have:=hT.le;omega);have Rb:(tn:Int)≤9223372036854775807:=(by have:=hT.le;have:=hT.big;omega);have x3:=La.o.c 3 rfl;go_wp2;have Bb:=Hd (hT);clear hT Ua
  go_loop [8,9] (fun l i=>∃ q:Nat,q≤tn∧i=it q∧l=it (((tl.take q).filter (·.done)).length:Nat)) (fun _ i=>tn-(intOf i).toNat)
  case atStart=>exact ⟨0,by omega,rfl,rfl⟩
  case round =>
   obtain ⟨q,hq,rfl,rfl⟩:=hrel;by_cases Va:q<tn
   ·
    obtain ⟨b2,o2,rfl,Wa⟩:=Bb.o.at (by omega);have c2:wc.cell? ⟨b2,o2+q*3,none⟩=some (.bool (tl.getD q M.t0).done):=Wa q Va 0 (by omega);have hG:=M.count_step M.t0 Oa.o Va;have Cb:((tl.take q).filter (·.done)).length≤q:=Nat.le_trans (List.length_filter_le _ _) (by rw [List.length_take];omega);generalize (tl.getD q M.t0).done=d at c2 hG;generalize ((tl.take q).filter (·.done)).length=m at hG Cb;have HG:=Hd (hG);clear Wa hG;have Sb:(q:Int)<(tn:Int):=(by omega);have Tb:(m:Int)+1≤9223372036854775807:=by omega
    cases d with
    | false =>
     go_wp2
     go_round
     case rel=>exact ⟨q+1,by omega,by go_num,by rw [HG.o];rfl⟩
     case measure=>simp [intOf];omega
    | true =>
     go_wp2
     go_round
     case rel=>exact ⟨q+1,by omega,by go_num,by rw [HG.o,if_pos rfl];go_num⟩
     case measure=>simp [intOf];omega
   ·
    have Db:q=tn:=(by omega);subst Db;have Xa:tl.take q=tl:=List.take_of_length_le (Nat.le_of_eq Oa.o);rw [Xa,← Za.o];have Eb:H9 (sl=q):=Ab.o.trans Oa.o;clear Xa;(go_wp2_with fail);refine hst' wc none (by kernel_rfl) fun hHeld=>?_;generalize wc.drew=Fb at hHeld ⊢;have Gb:H9 (Below wc.heap.size wc Fb):=⟨hHeld.os,hHeld.tape,hHeld.output,hHeld.size,fun k hk=>hHeld.block k hk (by simp)⟩;refine tk 0 (it (sn:Nat)) ?_ ?_
    · intro wq Aa;go_simp
    (try simp only [Act.put]);refine tk 1 (.pointer (some ⟨w.heap.size,3,none⟩)) ?_ ?_
    · intro wq Aa;go_simp
    (try simp only [Act.put]);refine tk 2 (.slice (some ⟨b1,o1,none⟩) nj cj) ?_ ?_
    · intro wp Pa;have c0:=(La.o.grown Pa (by simp)).c 3 rfl;go_simp
    (try simp only [Act.put]);refine tk 3 (it (i:Nat)) ?_ ?_
    · intro wq Aa;go_simp
    (try simp only [Act.put]);refine tk 4 (.pointer (some ⟨b1,o1+i*18,none⟩)) ?_ ?_
    · intro wq Aa;go_simp
    (try simp only [Act.put]);refine tk 5 (.pointer (some ⟨b1,o1+i*18+17,none⟩)) ?_ ?_
    · intro wq Aa;go_simp
    (try simp only [Act.put]);refine tk 6 (.slice ta q tc) ?_ ?_
    · intro wp Pa;have c0:wp.cell? ⟨b1,o1+i*18+17,none⟩=some (.slice ta q tc):=Pa.cell Na (by simp);go_simp
    (try simp only [Act.put]);refine tk 7 (it (q:Nat)) ?_ ?_
    · intro wq Aa;go_simp
    (try simp only [Act.put]);refine tk 8 (it (sn:Nat)) ?_ ?_
    · intro wq Aa;go_simp
    (try simp only [Act.put]);refine tk 9 (it (q:Nat)) ?_ ?_
    · intro wq Aa;go_simp
    (try simp only [Act.put]);refine tk 10 (.bool true) ?_ ?_
    · intro wq Aa;go_simp
    (try simp only [Act.put]);refine dne' ?_;go_simp;have Hb:=Hd (Ca.o.trans (Gb.o.mono Ca.o.size));clear La Ca;go_wp2;obtain rfl:=Eb.o;exact bodyPost_ret (v:=.tuple #[it sn,it sl,.bool true]) (by simp [results,Tryz.results10,go_sem]) rfl ⟨rfl,Hb.o⟩
theorem jobAt_find (id:Int):∀ (qs:List HJ) (k:Nat),(∃ q i,qs.find? (fun q=>id == q.j.id)=some q∧q∈qs∧M.jobAt id k (qs.map (·.j))=((k+i:Nat):Int)∧(qs.map (·.j)).getD i M.j0=q.j)∨(qs.find? (fun q=>id == q.j.id)=none∧M.jobAt id k (qs.map (·.j)) = -1)
 | [],_=>.inr ⟨rfl,rfl⟩
 | q::qs,k=>by
  rw [List.find?_cons,List.map_cons];unfold M.jobAt;by_cases e:q.j.id=id
  ·
   rw [if_pos e,show (id == q.j.id)=true by simp [e]];exact .inl ⟨q,0,rfl,by simp,rfl,rfl⟩
  ·
   rw [if_neg e,show (id == q.j.id)=false by simpa using fun e2=>e e2.symm]
   rcases jobAt_find id qs (k+1) with ⟨q',i,h1,h2,h3,h4⟩ | ⟨h1,h2⟩
   · exact .inl ⟨q',i+1,h1,by simp [h2],by rw [h3];congr 1;omega,h4⟩
   · exact .inr ⟨h1,h2⟩
def JobPost (w:World) (now next id:Int) (bs:List Int) (js:List M.Jb) (e:Ending) (w':World):Prop:=
 (M.stOk now next id bs js=false→e=.returned (.tuple #[.pointer none,.bool false])) ∧
 (M.stOk now next id bs js=true→∃ q:HJ,e=.returned (.tuple #[.pointer (some ⟨q.b,0,none⟩),.bool true])∧q.j=js.getD (M.jobAt id 0 js).toNat M.j0∧Lies w' q.b q.vs∧SeesT w' q.a q.j.ts.length q.c q.j.ts)∧Below w.heap.size w w'
theorem jobIn_any {ab aj:Option Addr} {nb cb nj cj:Nat} {bs:List Int} {js:List M.Jb} (now next id:Int) (w:World) (hz:SeesM w ab nb cb aj nj cj bs js) :
  Calls Tryz.prog 21 #[.agg #[.int .i64 now,.int .i64 next,.slice ab nb cb,.slice aj nj cj],.int .i64 id] w fun e w'=>JobPost w now next id bs js e w':=by
 cases hf:M.mkOk now next bs js with
 | false =>
  have C1:=fun W (h:SeesM W ab nb cb aj nj cj bs js)=>hallOf_no now next W h hf;have HO:H9 (M.stOk now next id bs js=false):=(by show _=_;unfold M.stOk;rw [hf];rfl);have HM:=Hd (hz);clear hz hf;go_enter Tryz.func21,Tryz.ntmps21;have Aa:H9 (Below w.heap.size w (w.alloc (.cells (v4' now next ab nb cb aj nj cj).toArray 27))):=(Below.refl _ _).alloc (Nat.le_refl _) _;(go_wp2_with fail);generalize (w.alloc (.cells (v4' now next ab nb cb aj nj cj).toArray 27))=wa at Aa  ⊢;refine (C1 _ (HM.o.below Aa.o)).mono ?_;rintro e wb ⟨rfl,hb⟩;have Fa:=Hd (Aa.o.trans (hb.mono Aa.o.size));clear Aa;clear hb;go_wp2;exact bodyPost_ret (v:=.tuple #[.pointer none,.bool false]) (by simp [results,Tryz.results21,go_sem]) rfl ⟨fun _=>rfl,fun h=>by rw [HO.o] at h;simp at h,Fa.o⟩
 | true =>
  have C1:=fun W (h:SeesM W ab nb cb aj nj cj bs js)=>hallOf_yes now next W h hf;have HM:=Hd (hz);have HO:H9 (M.stOk now next id bs js=decide (0≤M.jobAt id 0 js)):=(by show _=_;unfold M.stOk;rw [hf];rfl);clear hz hf;go_enter Tryz.func21,Tryz.ntmps21;have Aa:H9 (Below w.heap.size w (w.alloc (.cells (v4' now next ab nb cb aj nj cj).toArray 27))):=(Below.refl _ _).alloc (Nat.le_refl _) _;(go_wp2_with fail);generalize (w.alloc (.cells (v4' now next ab nb cb aj nj cj).toArray 27))=wa at Aa  ⊢;refine (C1 _ (HM.o.below Aa.o)).mono ?_;rintro e wb ⟨h,Ha,Ia,Ja,ai,ni,ci,mb,qs,rfl,hh,Ga,hb⟩;have HB:=Hd (Aa.o.trans (hb.mono Aa.o.size));have HH:=Hd (hh);clear hb hh C1 HM Aa;have h4:wb.cell? ⟨h,4,none⟩=some (.map (some mb)):=HH.o.l.at 4;subst Ga
  rcases jobAt_find id qs 0 with ⟨q,i,h1,h2,h3,h4'⟩ | ⟨h1,h2⟩
  ·
   have Ba:look id (qs.map HJ.ent)=some (.pointer (some ⟨q.b,0,none⟩)):=(by rw [look_ents,h1];rfl);have Ca:=HH.o.m.get (P:=Tryz.prog) (t:=104) Tryz.underlying104 Tryz.underlying2 id _ Ba true;simp only [if_true] at Ca;have HQ:H9 (q∈qs):=h2;have HI:H9 (M.jobAt id 0 (qs.map (·.j))=(i:Int)):=(by show _=_;rw [h3];simp);have HG:H9 ((qs.map (·.j)).getD i M.j0=q.j):=h4';clear h1 h2 h3 h4' Ba;(go_wp2_with fail);have Da:=HH.o.j q HQ.o;exact bodyPost_ret (v:=.tuple #[.pointer (some ⟨q.b,0,none⟩),.bool true]) (by simp [results,Tryz.results21,go_sem]) rfl ⟨fun h=>by rw [HO.o,HI.o] at h;simp at h,fun _=>⟨q,rfl,by rw [HI.o,Int.toNat_natCast];exact HG.o.symm,Da.1,Da.2.sees⟩,HB.o⟩
  ·
   have Ba:look id (qs.map HJ.ent)=none:=(by rw [look_ents,h1];rfl);have Ea:(zeroValue 61).run Tryz.prog wb=.ok (.pointer none) wb:=(by kernel_rfl);have Ca:=HH.o.m.miss (P:=Tryz.prog) (t:=104) Tryz.underlying104 Tryz.underlying2 id Ea Ba true;simp only [if_true] at Ca;have HI:=Hd (h2);clear h1 h2 Ba Ea;(go_wp2_with fail);exact bodyPost_ret (v:=.tuple #[.pointer none,.bool false]) (by simp [results,Tryz.results21,go_sem]) rfl ⟨fun _=>rfl,fun h=>by rw [HO.o,HI.o] at h;simp at h,HB.o⟩
theorem implStatusOf_any {ab aj:Option Addr} {nb cb nj cj:Nat} {bs:List Int} {js:List M.Jb} (now next id:Int) (w:World) (hz:SeesM w ab nb cb aj nj cj bs js) :
  Calls Tryz.prog 9 #[.agg #[.int .i64 now,.int .i64 next,.slice ab nb cb,.slice aj nj cj],.int .i64 id] w fun e w'=>e=.returned (.tuple #[.int .i64 (M.stN now next id bs js:Nat),.int .i64 (M.stL now next id bs js:Nat),.bool (M.stOk now next id bs js)])∧Below w.heap.size w w':=by
 have C1:=fun W (h:SeesM W ab nb cb aj nj cj bs js)=>jobIn_any now next id W h;have HM:=Hd (hz);have HF:H9 (M.stOk now next id bs js=false→M.stN now next id bs js=0∧M.stL now next id bs js=0):=fun h=>by unfold M.stN M.stL;rw [h];exact ⟨rfl,rfl⟩
 have Ba:H9 (M.stOk now next id bs js=true→M.stN now next id bs js=((js.getD (M.jobAt id 0 js).toNat M.j0).ts.filter (·.done)).length∧M.stL now next id bs js=(js.getD (M.jobAt id 0 js).toNat M.j0).ts.length):=fun h=>by unfold M.stN M.stL;rw [h];exact ⟨rfl,rfl⟩
 unfold JobPost at C1;generalize M.stN now next id bs js=sn at HF Ba ⊢;generalize M.stL now next id bs js=sl at HF Ba ⊢;generalize M.stOk now next id bs js=so at HF Ba C1 ⊢;clear hz;go_enter Tryz.func9,Tryz.ntmps9;have Da:H9 (Below w.heap.size w (w.alloc (.cells (v4' now next ab nb cb aj nj cj).toArray 27))):=(Below.refl _ _).alloc (Nat.le_refl _) _;(go_wp2_with fail);generalize (w.alloc (.cells (v4' now next ab nb cb aj nj cj).toArray 27))=wa at Da  ⊢;refine (C1 _ (HM.o.below Da.o)).mono ?_;rintro e wb ⟨h1,h2,hb⟩;have Ea:=Hd (Da.o.trans (hb.mono Da.o.size));clear Da;clear C1 HM hb
 cases so with
 | false =>
  obtain rfl:=h1 rfl;obtain ⟨rfl,rfl⟩:=HF.o rfl;clear h1 h2 HF Ba;go_wp2;exact bodyPost_ret (v:=.tuple #[it 0,it 0,.bool false]) (by simp [results,Tryz.results9,go_sem]) rfl ⟨rfl,Ea.o⟩
 | true =>
  obtain ⟨q,rfl,hq,hl,hs⟩:=h2 rfl;obtain ⟨e1,e2⟩:=Ba.o rfl;rw [← hq] at e1 e2;subst e1 e2;have CD:∀ W,Lies W q.b q.vs→SeesT W q.a q.j.ts.length q.c q.j.ts→Calls Tryz.prog 30 #[.pointer (some ⟨q.b,0,none⟩)] W fun e w'=>e=.returned (.int .i64 ((q.j.ts.filter (·.done)).length:Nat))∧Below W.heap.size W w':=fun W h1 h2=>doneTasks_any W (h1.at 17) h2;have Sa:(q.j.ts.length:Int)≤9223372036854775807:=(by have:=hs.le;have:=hs.big;omega);generalize Ga:(q.j.ts.filter (·.done)).length=sn at CD;have La:=Hd (Ga);clear Ga;clear h1 h2 HF Ba hq;have Fa:=Hd (hl);have Ha:=Hd (hs);clear hl hs;have Na:=Fa.o.c 17 rfl;(go_wp2_with fail);clear Na;refine hst' wb none (by kernel_rfl) fun hHeld=>?_;generalize wb.drew=Oa at hHeld ⊢;have Ia:H9 (Below wb.heap.size wb Oa):=⟨hHeld.os,hHeld.tape,hHeld.output,hHeld.size,fun k hk=>hHeld.block k hk (by simp)⟩;refine tk 0 (.pointer (some ⟨q.b,0,none⟩)) ?_ ?_
  · intro wq Aa;go_simp
  (try simp only [Act.put]);refine tk 2 (.pointer (some ⟨q.b,0,none⟩)) ?_ ?_
  · intro wq Aa;go_simp
  (try simp only [Act.put]);refine tk 3 (.pointer (some ⟨q.b,0,none⟩)) ?_ ?_
  · intro wq Aa;go_simp
  (try simp only [Act.put]);refine tk 4 (.pointer (some ⟨q.b,17,none⟩)) ?_ ?_
  · intro wq Aa;go_simp
  (try simp only [Act.put]);refine tk 5 (.slice q.a q.j.ts.length q.c) ?_ ?_
  · intro wp Pa;have c0:=(Fa.o.grown Pa (by simp)).c 17 rfl;go_simp
  (try simp only [Act.put]);refine tk 6 (it (q.j.ts.length:Nat)) ?_ ?_
  · intro wq Aa;go_simp
  (try simp only [Act.put]);refine rdy' 1 fun Kk hK=>?_;go_simp;refine (CD _ (Fa.o.belowS Ia.o) (Ha.o.below Ia.o)).mono ?_;rintro e Ja ⟨rfl,Ka⟩;go_simp;have Ca:wb.grownBy Ja none:=grown_step hHeld Ka;have Qa:H9 (Below wb.heap.size wb Ja):=⟨Ca.os,Ca.tape,Ca.output,Ca.size,fun k hk=>Ca.block k hk (by simp)⟩;refine hK.out _ _ Ca (fun _=>?_);clear hK Kk Ka;(try simp only [Act.put]);refine tk 7 (it (sn:Nat)) ?_ ?_
  · intro wq Aa;go_simp
  (try simp only [Act.put]);refine tk 8 (it (q.j.ts.length:Nat)) ?_ ?_
  · intro wq Aa;go_simp
  (try simp only [Act.put]);refine tk 9 (.bool true) ?_ ?_
  · intro wq Aa;go_simp
  (try simp only [Act.put]);refine dne' ?_;go_simp;have Ra:=Hd (Ea.o.trans (Qa.o.mono Ea.o.size));clear Ea Fa Ha;(go_wp2_with fail);exact bodyPost_ret (v:=.tuple #[it (sn:Nat),it (q.j.ts.length:Nat),.bool true]) (by simp [results,Tryz.results9,go_sem]) rfl ⟨by rw [La.o],Ra.o⟩
namespace M
structure Mt where
 now:Int
 next:Int
 bs:List Int
 js:List Jb
def Mt.zero : Mt:=⟨0,0,[],[]⟩
def Mt.ok (m:Mt):Bool:=mkOk m.now m.next m.bs m.js
def free (f:Tk→Bool) (ts:List Tk):List Tk:=ts.map fun t=>if f t then t0 else t
def freeJ (f:Tk→Bool) (j:Jb):Jb:={ j with ts:=free f j.ts }
def dueT (now:Int) (t:Tk):Bool:=leased t && decide (t.due≤now)
def isFree (t:Tk):Bool:=!t.done && !leased t
def mineT (who:Int) (t:Tk):Bool:=decide (t.worker=who)
def openP (j:Jb):Option Nat:=if j.gone then none else j.ts.findIdx? isFree
def place (i:Nat):List Jb→Option (Nat×Nat)
 | []=>none
 | j::l=>match openP j with
  | some k=>some (i,k)
  | none=>place (i+1) l
def setT (js:List Jb) (i k:Nat) (t:Tk):List Jb:=js.set i { js.getD i j0 with ts:=(js.getD i j0).ts.set k t }
def submit (m:Mt) (mc:Mc) (s:Int×Int) (rows many:Int):Mt×Int×Int:=
 if decide (m.js.length=6) || decide (m.next=1000000000) then (m,3,0)
 else (⟨m.now,m.next+1,m.bs,m.js++[⟨m.next,mc,s,rows,false,List.replicate many.toNat t0⟩]⟩,0,m.next)
def tickN (now many:Int):Int:=if now+many<1000000000 then now+many else 1000000000
def tick (m:Mt) (many:Int):Mt×Int×Int:=(⟨tickN m.now many,m.next,m.bs,m.js.map (freeJ (dueT (tickN m.now many)))⟩,0,0)
def cancel (m:Mt) (id:Int):Mt×Int×Int:=
 if jobAt id 0 m.js<0 then (m,4,0)
 else if (jobOf id m.js).gone || (jobOf id m.js).ts.all (·.done) then (m,8,0)
 else (⟨m.now,m.next,m.bs,m.js.set (jobAt id 0 m.js).toNat { freeJ leased (jobOf id m.js) with gone:=true }⟩,0,0)
def lease (m:Mt) (who:Int):Mt×Int×Int:=
 if m.bs.contains who then (m,5,0)
 else if m.js.any (fun j=>j.ts.any (mineT who)) then (m,6,0)
 else match place 0 m.js with
  | none=>(m,4,0)
  | some (i,k)=>(⟨m.now,m.next,m.bs,setT m.js i k ⟨false,who,m.now+5⟩⟩,0,100*(m.js.getD i j0).id+k)
def banned (bs:List Int) (who:Int):List Int:=[1,2,3,4,5,6,7,8,9].filter fun x=>x == who || bs.contains x
def back (g:Jb→Bool) (m:Mt) (who id part:Int):Mt×Int×Int:=
 if m.bs.contains who then (m,5,0)
 else if jobAt id 0 m.js<0 || decide (((jobOf id m.js).ts.length:Int)≤part) then (m,4,0)
 else if ((jobOf id m.js).ts.getD part.toNat t0).worker≠who then (m,8,0)
 else if g (jobOf id m.js)=false then (⟨m.now,m.next,banned m.bs who,m.js.map (freeJ (mineT who))⟩,7,0)
 else (⟨m.now,m.next,m.bs,setT m.js (jobAt id 0 m.js).toNat part.toNat ⟨true,0,0⟩⟩,0,if ((jobOf id m.js).ts.set part.toNat ⟨true,0,0⟩).all (·.done) then 1 else 0)
end M
namespace M
theorem getD_mem {α:Type} {l:List α} {k:Nat} {d:α} (h:k<l.length):l.getD k d∈l:=by rw [List.getD_eq_getElem?_getD,List.getElem?_eq_getElem h];simp
theorem free_congr {f g:Tk→Bool} {ts:List Tk} (h:∀ t∈ts,f t=g t):free f ts=free g ts:=by
 unfold free;exact List.map_congr_left fun t ht=>by rw [h t ht]
theorem free_len (f:Tk→Bool) (ts:List Tk):(free f ts).length=ts.length:=by unfold free;simp
theorem Right.tk {now next:Int} {bs:List Int} {js:List M.Jb} (h:M.Right now next bs js) {j:M.Jb} (hj:j∈js) {t:Tk} (ht:t∈j.ts):tkOk now t=true:=by
 have:=(h.job j hj).2.2;unfold M.jbOk at this;simp only [Bool.and_eq_true,List.all_eq_true] at this;exact this.1.2.2.2.2.2 t ht
theorem Right.due {now next:Int} {bs:List Int} {js:List M.Jb} (h:M.Right now next bs js) {j:M.Jb} (hj:j∈js):free (dueT (now+5)) j.ts=free leased j.ts:=by
 refine free_congr fun t ht=>?_;have h1:=h.tk hj ht;unfold tkOk at h1;unfold dueT;by_cases hw:t.worker=0
 · simp [leased,hw]
 ·
  simp only [hw,decide_false,Bool.false_and,Bool.false_or,Bool.and_eq_true,decide_eq_true_eq] at h1;rw [show decide (t.due≤now+5)=true by simpa using h1.2.2.2,Bool.and_true]
theorem mem_wkT {who:Int} {ts:List Tk} (hw:who≠0):who∈wkT ts↔∃ t∈ts,t.worker=who:=by
 unfold wkT;simp only [List.mem_map,List.mem_filter,leased]
 constructor
 · rintro ⟨t,⟨h1,_⟩,h3⟩;exact ⟨t,h1,h3⟩
 · rintro ⟨t,h1,h2⟩;exact ⟨t,⟨h1,by simp [h2,hw]⟩,h2⟩
theorem wks_cons (j:Jb) (l:List Jb):wks (j::l)=wkT j.ts++wks l:=by simp [wks]
theorem mem_wks {who:Int} {js:List Jb} (hw:who≠0):who∈wks js↔∃ j∈js,∃ t∈j.ts,t.worker=who:=by
 unfold wks;rw [List.mem_flatMap];exact ⟨fun ⟨j,hj,h⟩=>⟨j,hj,(mem_wkT hw).1 h⟩,fun ⟨j,hj,h⟩=>⟨j,hj,(mem_wkT hw).2 h⟩⟩
theorem wk_mem {x:Int}:x∈([1,2,3,4,5,6,7,8,9]:List Int)↔wkOk x=true:=by
 unfold wkOk;simp only [List.mem_cons,List.not_mem_nil,or_false,Bool.and_eq_true,decide_eq_true_eq];omega
theorem mem_banned {bs:List Int} {who x:Int}:x∈banned bs who↔wkOk x=true∧(x=who∨x∈bs):=by
 unfold banned;rw [List.mem_filter,wk_mem];simp
theorem banned_pw (bs:List Int) (who:Int):(banned bs who).Pairwise (· < ·):=List.Pairwise.filter _ (by decide)
end M
theorem l8Start_any (jid a b c' d f k a' b' c'' d' f' k' s1 s2 jr:Int) (jg:Bool) (ta:Option Addr) (tn tc:Nat) (part:Int) (h0:0≤part) (h1:part≤8) (r0:0≤jr) (r1:jr≤16) (w:World) :
  Calls Tryz.prog 46 #[.agg #[.int .i64 jid,.int .i64 a,.int .i64 b,.int .i64 c',.int .i64 d,.int .i64 f,.int .i64 k,.int .i64 a',.int .i64 b',.int .i64 c'',.int .i64 d',.int .i64 f',.int .i64 k',.int .i64 s1,.int .i64 s2,.int .i64 jr,.bool jg,.slice ta tn tc],.int .i64 part] w fun e w'=>e=.returned (stv (M.aft ⟨⟨a,b,c',d,f,k⟩,⟨a',b',c'',d',f',k'⟩⟩ (s1,s2) (part*(jr-1))))∧Below w.heap.size w w':=by
 have C1:=specAfter_any ⟨⟨a,b,c',d,f,k⟩,⟨a',b',c'',d',f',k'⟩⟩ (s1,s2) (part*(jr-1))
 have Ka:-8≤part*(jr-1):=by
  have e1:0≤part*jr:=Int.mul_nonneg h0 r0;have e2:part*(jr-1)=part*jr-part:=(by rw [Int.mul_sub,Int.mul_one]);omega
 have La:part*(jr-1)≤128:=by
  have e1:part*jr≤8*16:=Int.mul_le_mul h1 r1 r0 (by omega);have e2:part*(jr-1)=part*jr-part:=(by rw [Int.mul_sub,Int.mul_one]);omega
 have Ya:IntKind.i64.wrap (jr-1)=jr-1:=(by rw [IntKind.wrap_i64];omega);have Na:IntKind.i64.wrap (part*(jr-1))=part*(jr-1):=(by rw [IntKind.wrap_i64];omega);generalize M.aft ⟨⟨a,b,c',d,f,k⟩,⟨a',b',c'',d',f',k'⟩⟩ (s1,s2) (part*(jr-1))=rs at C1 ⊢;generalize M.runOk ⟨⟨a,b,c',d,f,k⟩,⟨a',b',c'',d',f',k'⟩⟩ (s1,s2) (part*(jr-1))=ro at C1;dsimp only [mcv,stv] at C1 ⊢;generalize Oa:part*(jr-1)=pm at C1 Na Ka La;go_enter Tryz.func46,Tryz.ntmps46;have Aa:H9 (Lies ((w.alloc (.cells (v0' jid a b c' d f k a' b' c'' d' f' k' s1 s2 jr jg ta tn tc).toArray 44)).alloc (.cells #[it 0,it 0] 31)) w.heap.size (v0' jid a b c' d f k a' b' c'' d' f' k' s1 s2 jr jg ta tn tc)):=(lies_new _ _ _).alloc _;have Da:H9 (Lies ((w.alloc (.cells (v0' jid a b c' d f k a' b' c'' d' f' k' s1 s2 jr jg ta tn tc).toArray 44)).alloc (.cells #[it 0,it 0] 31)) (w.heap.size+1) [it 0,it 0]):=lies_new2 _ _ _ _;have Ca:H9 (Below w.heap.size w ((w.alloc (.cells (v0' jid a b c' d f k a' b' c'' d' f' k' s1 s2 jr jg ta tn tc).toArray 44)).alloc (.cells #[it 0,it 0] 31))):=((Below.refl _ _).alloc (Nat.le_refl _) _).alloc (by simp) _;have y0:((w.alloc (.cells (v0' jid a b c' d f k a' b' c'' d' f' k' s1 s2 jr jg ta tn tc).toArray 44)).alloc (.cells #[it 0,it 0] 31)).cell? ⟨w.heap.size,0,none⟩=some (it jid):=Aa.o.at 0;have y1:((w.alloc (.cells (v0' jid a b c' d f k a' b' c'' d' f' k' s1 s2 jr jg ta tn tc).toArray 44)).alloc (.cells #[it 0,it 0] 31)).cell? ⟨w.heap.size,1,none⟩=some (it a):=Aa.o.at 1;have y2:((w.alloc (.cells (v0' jid a b c' d f k a' b' c'' d' f' k' s1 s2 jr jg ta tn tc).toArray 44)).alloc (.cells #[it 0,it 0] 31)).cell? ⟨w.heap.size,2,none⟩=some (it b):=Aa.o.at 2;have y3:((w.alloc (.cells (v0' jid a b c' d f k a' b' c'' d' f' k' s1 s2 jr jg ta tn tc).toArray 44)).alloc (.cells #[it 0,it 0] 31)).cell? ⟨w.heap.size,3,none⟩=some (it c'):=Aa.o.at 3;have y4:((w.alloc (.cells (v0' jid a b c' d f k a' b' c'' d' f' k' s1 s2 jr jg ta tn tc).toArray 44)).alloc (.cells #[it 0,it 0] 31)).cell? ⟨w.heap.size,4,none⟩=some (it d):=Aa.o.at 4;have y5:((w.alloc (.cells (v0' jid a b c' d f k a' b' c'' d' f' k' s1 s2 jr jg ta tn tc).toArray 44)).alloc (.cells #[it 0,it 0] 31)).cell? ⟨w.heap.size,5,none⟩=some (it f):=Aa.o.at 5;have y6:((w.alloc (.cells (v0' jid a b c' d f k a' b' c'' d' f' k' s1 s2 jr jg ta tn tc).toArray 44)).alloc (.cells #[it 0,it 0] 31)).cell? ⟨w.heap.size,6,none⟩=some (it k):=Aa.o.at 6;have y7:((w.alloc (.cells (v0' jid a b c' d f k a' b' c'' d' f' k' s1 s2 jr jg ta tn tc).toArray 44)).alloc (.cells #[it 0,it 0] 31)).cell? ⟨w.heap.size,7,none⟩=some (it a'):=Aa.o.at 7;have y8:((w.alloc (.cells (v0' jid a b c' d f k a' b' c'' d' f' k' s1 s2 jr jg ta tn tc).toArray 44)).alloc (.cells #[it 0,it 0] 31)).cell? ⟨w.heap.size,8,none⟩=some (it b'):=Aa.o.at 8;have y9:((w.alloc (.cells (v0' jid a b c' d f k a' b' c'' d' f' k' s1 s2 jr jg ta tn tc).toArray 44)).alloc (.cells #[it 0,it 0] 31)).cell? ⟨w.heap.size,9,none⟩=some (it c''):=Aa.o.at 9;have Pa:((w.alloc (.cells (v0' jid a b c' d f k a' b' c'' d' f' k' s1 s2 jr jg ta tn tc).toArray 44)).alloc (.cells #[it 0,it 0] 31)).cell? ⟨w.heap.size,10,none⟩=some (it d'):=Aa.o.at 10;have Qa:((w.alloc (.cells (v0' jid a b c' d f k a' b' c'' d' f' k' s1 s2 jr jg ta tn tc).toArray 44)).alloc (.cells #[it 0,it 0] 31)).cell? ⟨w.heap.size,11,none⟩=some (it f'):=Aa.o.at 11;have Ra:((w.alloc (.cells (v0' jid a b c' d f k a' b' c'' d' f' k' s1 s2 jr jg ta tn tc).toArray 44)).alloc (.cells #[it 0,it 0] 31)).cell? ⟨w.heap.size,12,none⟩=some (it k'):=Aa.o.at 12;have Sa:((w.alloc (.cells (v0' jid a b c' d f k a' b' c'' d' f' k' s1 s2 jr jg ta tn tc).toArray 44)).alloc (.cells #[it 0,it 0] 31)).cell? ⟨w.heap.size,13,none⟩=some (it s1):=Aa.o.at 13;have Ta:((w.alloc (.cells (v0' jid a b c' d f k a' b' c'' d' f' k' s1 s2 jr jg ta tn tc).toArray 44)).alloc (.cells #[it 0,it 0] 31)).cell? ⟨w.heap.size,14,none⟩=some (it s2):=Aa.o.at 14;have Ua:((w.alloc (.cells (v0' jid a b c' d f k a' b' c'' d' f' k' s1 s2 jr jg ta tn tc).toArray 44)).alloc (.cells #[it 0,it 0] 31)).cell? ⟨w.heap.size,15,none⟩=some (it jr):=Aa.o.at 15;have Va:((w.alloc (.cells (v0' jid a b c' d f k a' b' c'' d' f' k' s1 s2 jr jg ta tn tc).toArray 44)).alloc (.cells #[it 0,it 0] 31)).cell? ⟨w.heap.size,16,none⟩=some (.bool jg):=Aa.o.at 16;have Wa:((w.alloc (.cells (v0' jid a b c' d f k a' b' c'' d' f' k' s1 s2 jr jg ta tn tc).toArray 44)).alloc (.cells #[it 0,it 0] 31)).cell? ⟨w.heap.size,17,none⟩=some (.slice ta tn tc):=Aa.o.at 17;(go_wp2_with fail);clear y0 y1 y2 y3 y4 y5 y6 y7 y8 y9 Pa Qa Ra Sa Ta Ua Va Wa Oa;generalize ((w.alloc (.cells (v0' jid a b c' d f k a' b' c'' d' f' k' s1 s2 jr jg ta tn tc).toArray 44)).alloc (.cells #[it 0,it 0] 31))=wa at Aa Da Ca  ⊢;clear Aa;refine (C1 _).mono ?_;rintro e wb ⟨rfl,hb⟩;have Ga:=Hd (Da.o.belowS hb);have Ea:=Hd (Ca.o.trans (hb.mono Ca.o.size));clear Da Ca;clear hb;obtain ⟨u,v⟩:=rs;dsimp only;have Fa:=bal wb (.cells #[it u,it v] 31);have Ba:=Hd (Ga.o.belowS Fa);have Xa:=Hd (Ea.o.trans (Fa.mono Ea.o.size));clear Ga Ea;clear Fa;have Ha:=lnw wb [it u,it v] 31;have z0:(wb.alloc (.cells #[it u,it v] 31)).cell? ⟨w.heap.size+1,0,none⟩=some (it 0):=Ba.o.at 0;have Za:(wb.alloc (.cells #[it u,it v] 31)).frozen? ⟨w.heap.size+1,0,none⟩=false:=Ba.o.fr 0;have z1:(wb.alloc (.cells #[it u,it v] 31)).cell? ⟨w.heap.size+1,1,none⟩=some (it 0):=Ba.o.at 1;have Ab:(wb.alloc (.cells #[it u,it v] 31)).frozen? ⟨w.heap.size+1,1,none⟩=false:=Ba.o.fr 1;have Bb:(wb.alloc (.cells #[it u,it v] 31)).cell? ⟨wb.heap.size,0,none⟩=some (it u):=Ha.o.at 0;have Cb:(wb.alloc (.cells #[it u,it v] 31)).cell? ⟨wb.heap.size,1,none⟩=some (it v):=Ha.o.at 1;(go_wp2_with fail);show bodyPost _ _ _ _ _ ((wb.alloc (.cells #[it u,it v] 31)).setCells (w.heap.size+1) 0 [it u,it v]);have Ia:Lies ((wb.alloc (.cells #[it u,it v] 31)).setCells (w.heap.size+1) 0 [it u,it v]) (w.heap.size+1) [it u,it v]:=Ba.o.setCells [it u,it v] 0 (by simp);have Ja:Below w.heap.size w ((wb.alloc (.cells #[it u,it v] 31)).setCells (w.heap.size+1) 0 [it u,it v]):=Xa.o.trans (below_setCells _ 0 (Below.refl _ _) (by omega));generalize ((wb.alloc (.cells #[it u,it v] 31)).setCells (w.heap.size+1) 0 [it u,it v])=wf at Ia Ja ⊢;exact bodyPost_ret (results_cell rfl rfl (run_loadVar_mid wf (w.heap.size+1) 0 31 _ _ Ia.row Tryz.underlying31 rfl (by kernel_rfl))) rfl ⟨rfl,Ja⟩
def M.noneP (s1 s2 e1 e2:Int) (n1 n2 n3 n4:Nat):Bool:=(decide (s1=0) && decide (s2=0)) && ((decide (e1=0) && decide (e2=0)) && decide (n1+n2+n3+n4=0))
theorem l8None_any (s1 s2 e1 e2:Int) {a1 a2 a3 a4:Option Addr} {n1 n2 n3 n4 c1 c2 c3 c4:Nat} (l1:n1≤1048576) (l2:n2≤1048576) (l3:n3≤1048576) (l4:n4≤1048576) (w:World) :
  Calls Tryz.prog 100 #[.agg #[.int .i64 s1,.int .i64 s2,.int .i64 e1,.int .i64 e2,.slice a1 n1 c1,.slice a2 n2 c2,.slice a3 n3 c3,.slice a4 n4 c4]] w fun e w'=>e=.returned (.bool (M.noneP s1 s2 e1 e2 n1 n2 n3 n4))∧Below w.heap.size w w':=by
 go_enter Tryz.func100,Tryz.ntmps100;have Aa:=lnw w (v3' s1 s2 e1 e2 a1 n1 c1 a2 n2 c2 a3 n3 c3 a4 n4 c4) 90;have y0:(w.alloc (.cells (v3' s1 s2 e1 e2 a1 n1 c1 a2 n2 c2 a3 n3 c3 a4 n4 c4).toArray 90)).cell? ⟨w.heap.size,0,none⟩=some (it s1):=Aa.o.at 0;have y1:(w.alloc (.cells (v3' s1 s2 e1 e2 a1 n1 c1 a2 n2 c2 a3 n3 c3 a4 n4 c4).toArray 90)).cell? ⟨w.heap.size,1,none⟩=some (it s2):=Aa.o.at 1;have y2:(w.alloc (.cells (v3' s1 s2 e1 e2 a1 n1 c1 a2 n2 c2 a3 n3 c3 a4 n4 c4).toArray 90)).cell? ⟨w.heap.size,2,none⟩=some (it e1):=Aa.o.at 2;have y3:(w.alloc (.cells (v3' s1 s2 e1 e2 a1 n1 c1 a2 n2 c2 a3 n3 c3 a4 n4 c4).toArray 90)).cell? ⟨w.heap.size,3,none⟩=some (it e2):=Aa.o.at 3;have y4:(w.alloc (.cells (v3' s1 s2 e1 e2 a1 n1 c1 a2 n2 c2 a3 n3 c3 a4 n4 c4).toArray 90)).cell? ⟨w.heap.size,4,none⟩=some (.slice a1 n1 c1):=Aa.o.at 4;have y5:(w.alloc (.cells (v3' s1 s2 e1 e2 a1 n1 c1 a2 n2 c2 a3 n3 c3 a4 n4 c4).toArray 90)).cell? ⟨w.heap.size,5,none⟩=some (.slice a2 n2 c2):=Aa.o.at 5;have y6:(w.alloc (.cells (v3' s1 s2 e1 e2 a1 n1 c1 a2 n2 c2 a3 n3 c3 a4 n4 c4).toArray 90)).cell? ⟨w.heap.size,6,none⟩=some (.slice a3 n3 c3):=Aa.o.at 6;have y7:(w.alloc (.cells (v3' s1 s2 e1 e2 a1 n1 c1 a2 n2 c2 a3 n3 c3 a4 n4 c4).toArray 90)).cell? ⟨w.heap.size,7,none⟩=some (.slice a4 n4 c4):=Aa.o.at 7;have w1:IntKind.i64.wrap ((n1:Int)+n2)=(n1:Int)+n2:=(by rw [IntKind.wrap_i64];omega);have w2:IntKind.i64.wrap ((n1:Int)+n2+n3)=(n1:Int)+n2+n3:=(by rw [IntKind.wrap_i64];omega);have w3:IntKind.i64.wrap ((n1:Int)+n2+n3+n4)=(n1:Int)+n2+n3+n4:=by rw [IntKind.wrap_i64];omega
 have Ca:((n1:Int)+n2+n3+n4 == 0)=decide (n1+n2+n3+n4=0):=by
  by_cases h:n1+n2+n3+n4=0
  · rw [decide_eq_true h];simp;omega
  · rw [decide_eq_false h];simp;omega
 by_cases Da:s1=0
 case neg =>
  have Ba:H9 (Below w.heap.size w ((w.alloc (.cells (v3' s1 s2 e1 e2 a1 n1 c1 a2 n2 c2 a3 n3 c3 a4 n4 c4).toArray 90)).alloc (.cells #[it 0,it 0] 31))):=((Below.refl _ _).alloc (Nat.le_refl _) _).alloc (by simp) _;have hF:M.noneP s1 s2 e1 e2 n1 n2 n3 n4=false:=(by simp [M.noneP,Da]);clear Aa;rw [hF];go_wp2;go_ret;exact ⟨rfl,Ba.o⟩
 subst Da;by_cases Ea:s2=0
 case neg =>
  have Ba:H9 (Below w.heap.size w ((w.alloc (.cells #[it 0,it s2,it e1,it e2,.slice a1 n1 c1,.slice a2 n2 c2,.slice a3 n3 c3,.slice a4 n4 c4] 90)).alloc (.cells #[it 0,it 0] 31))):=((Below.refl _ _).alloc (Nat.le_refl _) _).alloc (by simp) _;have hF:M.noneP 0 s2 e1 e2 n1 n2 n3 n4=false:=(by simp [M.noneP,Ea]);clear Aa;rw [hF];go_wp2;go_ret;exact ⟨rfl,Ba.o⟩
 subst Ea;by_cases Fa:e1=0
 case neg =>
  have Ba:H9 (Below w.heap.size w ((w.alloc (.cells #[it 0,it 0,it e1,it e2,.slice a1 n1 c1,.slice a2 n2 c2,.slice a3 n3 c3,.slice a4 n4 c4] 90)).alloc (.cells #[it 0,it 0] 31))):=((Below.refl _ _).alloc (Nat.le_refl _) _).alloc (by simp) _;have hF:M.noneP 0 0 e1 e2 n1 n2 n3 n4=false:=(by simp [M.noneP,Fa]);clear Aa;rw [hF];go_wp2;go_ret;exact ⟨rfl,Ba.o⟩
 subst Fa;by_cases Ga:e2=0
 case neg =>
  have Ba:H9 (Below w.heap.size w ((w.alloc (.cells #[it 0,it 0,it 0,it e2,.slice a1 n1 c1,.slice a2 n2 c2,.slice a3 n3 c3,.slice a4 n4 c4] 90)).alloc (.cells #[it 0,it 0] 31))):=((Below.refl _ _).alloc (Nat.le_refl _) _).alloc (by simp) _;have hF:M.noneP 0 0 0 e2 n1 n2 n3 n4=false:=(by simp [M.noneP,Ga]);clear Aa;rw [hF];go_wp2;go_ret;exact ⟨rfl,Ba.o⟩
 subst Ga;have Ba:H9 (Below w.heap.size w ((w.alloc (.cells #[it 0,it 0,it 0,it 0,.slice a1 n1 c1,.slice a2 n2 c2,.slice a3 n3 c3,.slice a4 n4 c4] 90)).alloc (.cells #[it 0,it 0] 31))):=((Below.refl _ _).alloc (Nat.le_refl _) _).alloc (by simp) _;have hF:M.noneP 0 0 0 0 n1 n2 n3 n4=((n1:Int)+n2+n3+n4 == 0):=(by rw [Ca];simp [M.noneP]);clear Ca;clear Aa;rw [hF];go_wp2;go_ret;exact ⟨rfl,Ba.o⟩
def M.frT (now who:Int) (t:M.Tk):Bool:=M.leased t && (decide (t.worker=who) || (decide (who=0) && decide (t.due≤now)))
def M.ffT (f:M.Tk→Bool) (k:Nat) (l:List M.Tk):List M.Tk:=l.take k++M.free f (l.drop k)
theorem M.ffT_zero (f:M.Tk→Bool) (l:List M.Tk):M.ffT f 0 l=M.free f l:=rfl
theorem M.ffT_end {f:M.Tk→Bool} {l:List M.Tk} {k:Nat} (h:l.length≤k):M.ffT f k l=l:=by
 unfold M.ffT;rw [List.take_of_length_le h,List.drop_of_length_le h];simp [M.free]
theorem M.ffT_keep {f:M.Tk→Bool} {l:List M.Tk} {k:Nat} (h:k<l.length) (hf:f (l.getD k M.t0)=false):M.ffT f (k+1) l=M.ffT f k l:=by
 unfold M.ffT;rw [drop_step M.t0 rfl h,List.take_add_one,List.getElem?_eq_getElem h];have e:l.getD k M.t0=l[k]:=(by rw [List.getD_eq_getElem?_getD,List.getElem?_eq_getElem h];rfl);rw [e] at hf ⊢;show (l.take k++[l[k]])++M.free f (l.drop (k+1))=l.take k++((if f l[k] then M.t0 else l[k])::M.free f (l.drop (k+1)));rw [hf,List.append_assoc]
 rfl
theorem M.ffT_set {f:M.Tk→Bool} {l:List M.Tk} {k:Nat} (h:k<l.length) (hf:f (l.getD k M.t0)=true):M.ffT f (k+1) (l.set k M.t0)=M.ffT f k l:=by
 unfold M.ffT;rw [drop_step M.t0 rfl h,List.take_add_one,List.getElem?_set_self h,List.drop_set_of_lt (by omega),List.take_set_of_le (Nat.le_refl _)];simp only [M.free,List.map_cons,hf,if_true];simp
def MQ.fr (f:M.Tk→Bool) (q:MQ):MQ:=(M.freeJ f q.1,q.2)
def MQ.at (f:M.Tk→Bool) (k:Nat) (q:MQ):MQ:=({ q.1 with ts:=M.ffT f k q.1.ts },q.2)
def MQ.ff (f:M.Tk→Bool) (i:Nat) (qs:List MQ):List MQ:=qs.take i++(qs.drop i).map (MQ.fr f)
theorem MQ.ff_end {f:M.Tk→Bool} {qs:List MQ} {i:Nat} (h:qs.length≤i):MQ.ff f i qs=qs:=by
 unfold MQ.ff;rw [List.take_of_length_le h,List.drop_of_length_le h];simp
theorem MQ.ff_in {f:M.Tk→Bool} {qs:List MQ} {i:Nat} (h:i<qs.length):MQ.ff f (i+1) (qs.set i (MQ.at f 0 (qs.getD i q0)))=MQ.ff f i qs:=by
 unfold MQ.ff;rw [drop_step q0 rfl h,List.take_add_one,List.getElem?_set_self h,List.drop_set_of_lt (by omega),List.take_set_of_le (Nat.le_refl _)];simp [MQ.at,MQ.fr,M.freeJ,M.ffT_zero]
theorem MQ.at_end {f:M.Tk→Bool} {qs:List MQ} {i k:Nat} (h:i<qs.length) (hk:(qs.getD i q0).1.ts.length≤k):qs.set i (MQ.at f k (qs.getD i q0))=qs:=by
 have e:MQ.at f k (qs.getD i q0)=qs[i]:=by
  have e2:qs.getD i q0=qs[i]:=(by rw [List.getD_eq_getElem?_getD,List.getElem?_eq_getElem h];rfl);unfold MQ.at;rw [M.ffT_end hk,e2]
 rw [e,List.set_getElem_self]
theorem MQ.at_keep {f:M.Tk→Bool} {q:MQ} {k:Nat} (h:k<q.1.ts.length) (hf:f (q.1.ts.getD k M.t0)=false):MQ.at f (k+1) q=MQ.at f k q:=by unfold MQ.at;rw [M.ffT_keep h hf]
theorem getD_set_self {qs:List MQ} {i:Nat} (h:i<qs.length) (q:MQ):(qs.set i q).getD i q0=q:=by rw [List.getD_eq_getElem?_getD,List.getElem?_set_self h];rfl
theorem MQ.at_set {f:M.Tk→Bool} {q:MQ} {k:Nat} (h:k<q.1.ts.length) (hf:f (q.1.ts.getD k M.t0)=true):MQ.at f (k+1) ({ q.1 with ts:=q.1.ts.set k M.t0 },q.2)=MQ.at f k q:=by unfold MQ.at;dsimp only;rw [M.ffT_set h hf]
theorem mbl_set {ab aj:Option Addr} {qs:List MQ} {i:Nat} (q:MQ) (h:i<qs.length) (he:q.2=(qs.getD i q0).2):mbl ab aj (qs.set i q)=mbl ab aj qs:=by
 unfold mbl;rw [set_getD_same (fun q:MQ=>ob q.2.1) q0 qs i q (by rw [he]) h]
theorem MktO.block {w:World} {base:Nat} {ab:Option Addr} {nb cb:Nat} {bs:List Int} {aj:Option Addr} {nj cj:Nat} {qs:List MQ} (H:MktO w base ab nb cb bs aj nj cj qs) (h0:0<nj):∃ g,aj=some ⟨g,0,none⟩:=by
 rcases H.j.2 with ⟨_,e⟩ | ⟨g,cap,cur,e,_⟩
 · omega
 · simp only [Value.slice.injEq] at e;exact ⟨g,e.1⟩
theorem MktO.jcell {w:World} {base g:Nat} {ab:Option Addr} {nb cb:Nat} {bs:List Int} {nj cj:Nat} {qs:List MQ} (H:MktO w base ab nb cb bs (some ⟨g,0,none⟩) nj cj qs) {i j:Nat} (hi:i<nj) (hj:j<18):w.cell? ⟨g,i*18+j,none⟩=(jrv (qs.getD i q0))[j]?:=by
 have hl:=H.jl;rw [H.j.cellAt _ (by omega),flat_get jrv_len q0 qs (by omega) hj]
theorem MktO.jtask {w:World} {base:Nat} {ab:Option Addr} {nb cb:Nat} {bs:List Int} {aj:Option Addr} {nj cj:Nat} {qs:List MQ} (H:MktO w base ab nb cb bs aj nj cj qs) {i:Nat} (hi:i<nj):OwnsT w base (qs.getD i q0).2.1 (qs.getD i q0).1.ts.length (qs.getD i q0).2.2 (qs.getD i q0).1.ts:=by
 have hl:=H.jl;exact H.t _ (by rw [List.getD_eq_getElem?_getD,List.getElem?_eq_getElem (by omega)];simp)
theorem l8Free_any {base:Nat} {ab aj:Option Addr} {nb cb nj cj:Nat} {bs:List Int} {qs:List MQ} (now next who:Int) (w:World) (H:MktO w base ab nb cb bs aj nj cj qs) (hbase:base≤w.heap.size) :
  Calls Tryz.prog 70 #[.agg #[.int .i64 now,.int .i64 next,.slice ab nb cb,.slice aj nj cj],.int .i64 who] w fun e w'=>e=.returned (.agg #[.int .i64 now,.int .i64 next,.slice ab nb cb,.slice aj nj cj])∧MktO w' base ab nb cb bs aj nj cj (qs.map fun q=>(M.freeJ (M.frT now who) q.1,q.2))∧(∀ b vs,Lies w b vs→b∉mbl ab aj qs→Lies w' b vs)∧Below base w w':=by
 have HM:H9 (MktO w base ab nb cb bs aj nj cj qs):=H;have Ld:qs.length=nj:=H.jl;have Nd:(nj:Int)≤9223372036854775807:=(by have:=H.sees.j.big;have:=H.sees.j.le;omega);have Od:(nj:Int)≤cj:=(by have:=H.sees.j.le;omega);clear H;go_enter Tryz.func70,Tryz.ntmps70;have La:H9 (Lies ((w.alloc (.cells (v4' now next ab nb cb aj nj cj).toArray 27)).alloc (.cells v10'.toArray 27)) w.heap.size (v4' now next ab nb cb aj nj cj)):=(lies_new _ _ _).alloc _;have Ab:H9 (Lies ((w.alloc (.cells (v4' now next ab nb cb aj nj cj).toArray 27)).alloc (.cells v10'.toArray 27)) (w.heap.size+1) v10'):=lies_new2 _ _ _ _;have Oa:H9 (Below w.heap.size w ((w.alloc (.cells (v4' now next ab nb cb aj nj cj).toArray 27)).alloc (.cells v10'.toArray 27))):=((Below.refl _ _).alloc (Nat.le_refl _) _).alloc (by simp) _;(go_wp2_with fail);generalize ((w.alloc (.cells (v4' now next ab nb cb aj nj cj).toArray 27)).alloc (.cells v10'.toArray 27))=wa at La Ab Oa  ⊢;have x0:=La.o.c 0 rfl;have x1:=La.o.c 1 rfl;have x2:=La.o.c 2 rfl;have x3:=La.o.c 3 rfl;(go_wp2_with fail);clear x0 x1 x2 x3;generalize hRQ:(qs.map fun q=>(M.freeJ (M.frT now who) q.1,q.2))=RQ;have Vc:=Hd (hRQ);have Gc:=Hd (hRQ);have Hc:=Hd (HM.o.below Oa.o);have Wb:H9 (∀ g∈mbl ab aj qs,base≤g∧g<w.heap.size):=HM.o.lt;have Ic:=Hd (Oa.o.mono hbase);clear hRQ HM
 go_loopw [5] (fun i wr=>∃ (n:Nat) (Ba:List MQ),n≤nj∧i=it n∧MktO wr base ab nb cb bs aj nj cj Ba∧mbl ab aj Ba=mbl ab aj qs∧MQ.ff (M.frT now who) n Ba=RQ∧Lies wr w.heap.size (v4' now next ab nb cb aj nj cj)∧Lies wr (w.heap.size+1) v10'∧(∀ b vs,Lies w b vs→b∉mbl ab aj qs→Lies wr b vs)∧Below base w wr) (fun i _=>nj-(intOf i).toNat)
 case atStart=>exact ⟨0,qs,by omega,rfl,Hc.o,rfl,Gc.o,La.o,Ab.o,(fun b vs h _=>h.belowS Oa.o),Ic.o⟩
 case round =>
  obtain ⟨n,Ba,hn,rfl,hG,Pa,hR,Fa,Da,Qa,Ra⟩:=hrel;clear Hc Gc Ic La Ab Oa;by_cases Na:n<nj
  case pos =>
   obtain ⟨gj,rfl⟩:=hG.block (by omega);have Wc:(n:Int)<(nj:Int):=(by omega);have Jc:Ba.length=nj:=hG.jl;have Kc:MQ.ff (M.frT now who) (n+1) (Ba.set n (MQ.at (M.frT now who) 0 (Ba.getD n q0)))=RQ:=(by rw [MQ.ff_in (by omega)];exact hR);have hT:=hG.jtask Na;have Ia:wr.cell? ⟨gj,n*18+17,none⟩=some (.slice (Ba.getD n q0).2.1 (Ba.getD n q0).1.ts.length (Ba.getD n q0).2.2):=hG.jcell Na (by omega);have Xc:((Ba.getD n q0).1.ts.length:Int)≤9223372036854775807:=(by have:=hT.sees.big;have:=hT.sees.le;omega);have Lc:((Ba.getD n q0).1.ts.length:Int)≤(Ba.getD n q0).2.2:=(by have:=hT.sees.le;omega);generalize Ua:(Ba.getD n q0).1.ts.length=tn at Ia Xc Lc hT;generalize Va:(Ba.getD n q0).2.1=ta at Ia hT;generalize Wa:(Ba.getD n q0).2.2=tc at Ia hT Lc;have x3:=Fa.c 3 rfl;have Nb:=Hd (hG);have Ob:=Hd (Pa);have Pb:=Hd (Kc);have Nc:H9 ((Ba.getD n q0).1.ts.length=tn∧(Ba.getD n q0).2.1=ta∧(Ba.getD n q0).2.2=tc):=⟨Ua,Va,Wa⟩;have Qb:=Hd (Fa);have Rb:=Hd (Da);have Sb:=Hd (Ra);have Tb:=Hd (Qa);clear Qa hG Pa hR Kc Fa Da Ra Ua Va Wa hT;(go_wp2_with fail);clear x3 Ia
   go_loopw [6] (fun i wr=>∃ (p:Nat) (Ba:List MQ),p≤tn∧i=it p∧MktO wr base ab nb cb bs (some ⟨gj,0,none⟩) nj cj Ba∧mbl ab (some ⟨gj,0,none⟩) Ba=mbl ab (some ⟨gj,0,none⟩) qs∧MQ.ff (M.frT now who) (n+1) (Ba.set n (MQ.at (M.frT now who) p (Ba.getD n q0)))=RQ∧((Ba.getD n q0).1.ts.length=tn∧(Ba.getD n q0).2.1=ta∧(Ba.getD n q0).2.2=tc)∧Lies wr w.heap.size (v4' now next ab nb cb (some ⟨gj,0,none⟩) nj cj)∧Lies wr (w.heap.size+1) v10'∧(∀ b vs,Lies w b vs→b∉mbl ab (some ⟨gj,0,none⟩) qs→Lies wr b vs)∧Below base w wr) (fun i _=>tn-(intOf i).toNat)
   case atStart=>exact ⟨0,Ba,by omega,rfl,Nb.o,Ob.o,Pb.o,Nc.o,Qb.o,Rb.o,Tb.o,Sb.o⟩
   case round =>
    clear Nb Ob Pb Nc Qb Rb Tb Sb Jc;obtain ⟨p,Aa,hp,rfl,hG,Pa,hR,⟨Ua,Va,Wa⟩,Fa,Da,Qa,Ra⟩:=hrel;have Jc:Aa.length=nj:=hG.jl;have Ia:wr.cell? ⟨gj,n*18+17,none⟩=some (.slice (Aa.getD n q0).2.1 (Aa.getD n q0).1.ts.length (Aa.getD n q0).2.2):=hG.jcell Na (by omega);rw [Ua,Va,Wa] at Ia;have x3:=Fa.c 3 rfl;have x0:=Fa.c 0 rfl;by_cases Ja:p<tn
    case neg =>
     have Pd:p=tn:=(by omega);have Nb:=Hd (hG);have Ob:=Hd (Pa);have Pb:H9 (MQ.ff (M.frT now who) (n+1) Aa=RQ):=(by show _=_;rw [MQ.at_end (by omega) (by omega)] at hR;exact hR);have Qb:=Hd (Fa);have Rb:=Hd (Da);have Sb:=Hd (Ra);have Tb:=Hd (Qa);clear Qa;have Yc:¬ (p:Int)<(tn:Int):=(by omega);clear hG Pa hR Fa Da Ra Ua Va Wa;go_wp2;go_roundw
     case rel=>exact ⟨n+1,Aa,by omega,by go_num,Nb.o,Ob.o,Pb.o,Qb.o,Rb.o,Tb.o,Sb.o⟩
     case measure=>simp [intOf];omega
    have hT:=hG.jtask Na;rw [Ua,Va,Wa] at hT;obtain ⟨g,rfl⟩:=hT.block (by omega);have Yc:(p:Int)<(tn:Int):=(by omega);have a0:wr.cell? ⟨g,p*3,none⟩=some (.bool ((Aa.getD n q0).1.ts.getD p M.t0).done):=hT.cells Ja (j:=0) (by omega);have a1:wr.cell? ⟨g,p*3+1,none⟩=some (it ((Aa.getD n q0).1.ts.getD p M.t0).worker):=hT.cells Ja (j:=1) (by omega);have a2:wr.cell? ⟨g,p*3+2,none⟩=some (it ((Aa.getD n q0).1.ts.getD p M.t0).due):=hT.cells Ja (j:=2) (by omega);have Xb:=@MQ.at_keep (M.frT now who) (Aa.getD n q0) p (by omega);have Yb:=@MQ.at_set (M.frT now who) (Aa.getD n q0) p (by omega);generalize Zc:(Aa.getD n q0).1.ts.getD p M.t0=cq at a0 a1 a2 Xb Yb;obtain ⟨td,x,y⟩:=cq;dsimp only at a0 a1 a2;have Xa:=Hd (Xb);have Za:=Hd (Yb);clear Xb Yb Zc;have Oc:=Hd (hG);have La:=Hd (Fa);have Ab:=Hd (Da);have Oa:=Hd (Ra);have Pc:=Hd (Qa);clear Qa;have HQ:=Hd (Pa);have HR:=Hd (hR);have Ka:H9 ((Aa.getD n q0).1.ts.length=tn∧(Aa.getD n q0).2.1=some ⟨g,0,none⟩∧(Aa.getD n q0).2.2=tc):=⟨Ua,Va,Wa⟩;clear hG Fa Da Ra Pa hR Ua Va Wa hT;have Bb:=bal wr (.cells (v27' td x y).toArray 74);have Cb:=Hd (Oc.o.below Bb);have Ea:=Hd (La.o.belowS Bb);have Db:=Hd (Ab.o.belowS Bb);have Ya:H9 (Below base w (wr.alloc (.cells (v27' td x y).toArray 74))):=Oa.o.trans (Bb.mono (Nat.le_trans hbase Oa.o.size));have Eb:H9 (∀ b vs,Lies w b vs→b∉mbl ab (some ⟨gj,0,none⟩) qs→Lies (wr.alloc (.cells (v27' td x y).toArray 74)) b vs):=fun b vs h n=>(Pc.o b vs h n).belowS Bb;clear Oc La Ab Oa Pc;clear Bb;have Ha:=lnw wr (v27' td x y) 74;(go_wp2_with (with_reducible refine wpList_stop 35 ?_ ?_;rfl));show wpList _ _ _ _ _ _;clear a0 a1 a2 x3 x0 Ia;generalize (wr.alloc (.cells (v27' td x y).toArray 74))=w5 at Cb Ea Db Ya Eb Ha  ⊢;generalize wr.heap.size=tb at Ha  ⊢;by_cases Gb:x=0
    ·
     skip
     have g1:(x != 0)=false:=(by simp [Gb]);have Ub:=Ha.o.c 1 rfl;have Vb:=Ha.o.c 2 rfl;have x3:=Ea.o.c 3 rfl;have x0:=Ea.o.c 0 rfl;have Ga:M.frT now who ⟨td,x,y⟩=false:=(by unfold M.frT M.leased;simp [Gb]);have Sa:H9 (MQ.ff (M.frT now who) (n+1) (Aa.set n (MQ.at (M.frT now who) (p+1) (Aa.getD n q0)))=RQ):=(by show _=_;rw [Xa.o Ga];exact HR.o);clear Xa Za HR Ga;go_wp2;go_roundw
     case rel=>exact ⟨p+1,Aa,by omega,by go_num,Cb.o,HQ.o,Sa.o,Ka.o,Ea.o,Db.o,Eb.o,Ya.o⟩
     case measure=>simp [intOf];omega
    have g1:(x != 0)=true:=(by simp [Gb]);by_cases Fb:x=who
    ·
     skip
     have g2:(x == who)=true:=(by simp [Fb]);have Ub:=Ha.o.c 1 rfl;have Vb:=Ha.o.c 2 rfl;have x3:=Ea.o.c 3 rfl;have x0:=Ea.o.c 0 rfl;have Ga:M.frT now who ⟨td,x,y⟩=true:=(by unfold M.frT M.leased;simp [Fb];intro e;exact Gb (Fb.trans e));have hG:=Cb.o;have Ca:=Ka.o;have Ia:w5.cell? ⟨gj,n*18+17,none⟩=some (.slice (Aa.getD n q0).2.1 (Aa.getD n q0).1.ts.length (Aa.getD n q0).2.2):=hG.jcell Na (by omega);rw [Ca.1,Ca.2.1,Ca.2.2] at Ia;have hT:=hG.jtask Na;rw [Ca.1,Ca.2.1,Ca.2.2] at hT;have b0:=hT.cells Ja (j:=0) (by omega);have Zb:=hT.2.frozenAt (p*3+0);have b1:=hT.cells Ja (j:=1) (by omega);have Ad:=hT.2.frozenAt (p*3+1);have b2:=hT.cells Ja (j:=2) (by omega);have Bd:=hT.2.frozenAt (p*3+2);rw [Nat.add_zero] at b0 Zb;generalize Ac:(Aa.getD n q0).1.ts.getD p M.t0=zz at b0 b1 b2;obtain ⟨z1,z2,z3⟩:=zz;simp only [tvs,List.getElem?_cons_zero,List.getElem?_cons_succ] at b0 b1 b2;have HP:=hG.task Na (Ca.2.1) (k:=p) (by rw [Ca.1];exact Ja) M.t0;obtain ⟨Hb,Ib⟩:=HP;have Bc:H9 _:=Hb;have Ta:H9 _:=Ib;clear Hb Ib hG hT Ac Ca
     have Jb:g∈mbl ab (some ⟨gj,0,none⟩) Aa:=by
      have hm:Aa.getD n q0∈Aa:=(by rw [List.getD_eq_getElem?_getD,List.getElem?_eq_getElem (by omega)];simp);unfold mbl;simp only [List.mem_append];exact .inr (.inr (List.mem_flatMap.2 ⟨_,hm,by rw [Ka.o.2.1];simp [ob]⟩))
     have Kb:g∈mbl ab (some ⟨gj,0,none⟩) qs:=(by rw [← HQ.o];exact Jb);have Cd:=Wb.o g Kb;have HF':H9 (∀ b vs,Lies w b vs→b∉mbl ab (some ⟨gj,0,none⟩) qs→Lies (w5.setCells g (p*3) (tvs M.t0)) b vs):=fun b vs h n=>(Eb.o b vs h n).grown Ta.o (fun e=>n (Option.some.inj e ▸ Kb));clear Jb;have HA':H9 (Lies (w5.setCells g (p*3) (tvs M.t0)) w.heap.size (v4' now next ab nb cb (some ⟨gj,0,none⟩) nj cj)):=Ea.o.grown Ta.o (fun e=>by have:=Option.some.inj e;omega);have HZ':H9 (Lies (w5.setCells g (p*3) (tvs M.t0)) (w.heap.size+1) v10'):=Db.o.grown Ta.o (fun e=>by have:=Option.some.inj e;omega);have HB':H9 (Below base w (w5.setCells g (p*3) (tvs M.t0))):=Ya.o.trans (below_of_grown Ta.o (Nat.le_trans hbase Ya.o.size) (fun z e=>by have:=Option.some.inj e;omega));have Sa:H9 (MQ.ff (M.frT now who) (n+1) ((Aa.set n ({ (Aa.getD n q0).1 with ts:=(Aa.getD n q0).1.ts.set p M.t0 },(Aa.getD n q0).2)).set n (MQ.at (M.frT now who) (p+1) ((Aa.set n ({ (Aa.getD n q0).1 with ts:=(Aa.getD n q0).1.ts.set p M.t0 },(Aa.getD n q0).2)).getD n q0)))=RQ):=(by show _=_;rw [getD_set_self (by omega),Za.o Ga,List.set_set];exact HR.o);have Cc:H9 (((Aa.set n ({ (Aa.getD n q0).1 with ts:=(Aa.getD n q0).1.ts.set p M.t0 },(Aa.getD n q0).2)).getD n q0).1.ts.length=tn∧((Aa.set n ({ (Aa.getD n q0).1 with ts:=(Aa.getD n q0).1.ts.set p M.t0 },(Aa.getD n q0).2)).getD n q0).2.1=some ⟨g,0,none⟩∧((Aa.set n ({ (Aa.getD n q0).1 with ts:=(Aa.getD n q0).1.ts.set p M.t0 },(Aa.getD n q0).2)).getD n q0).2.2=tc):=(by show _∧_∧_;rw [getD_set_self (by omega)];dsimp only;rw [List.length_set];exact Ka.o);have Dc:H9 (mbl ab (some ⟨gj,0,none⟩) (Aa.set n ({ (Aa.getD n q0).1 with ts:=(Aa.getD n q0).1.ts.set p M.t0 },(Aa.getD n q0).2))=mbl ab (some ⟨gj,0,none⟩) qs):=(mbl_set (qs:=Aa) (i:=n) _ (by omega) (by rfl)).trans HQ.o;clear Xa Za HR Ga Ka HQ;go_wp2;go_roundw
     case rel=>exact ⟨p+1,_,by omega,by go_num,Bc.o,Dc.o,Sa.o,Cc.o,HA'.o,HZ'.o,HF'.o,HB'.o⟩
     case measure=>simp [intOf];omega
    have g2:(x == who)=false:=(by simp [Fb]);by_cases Lb:who=0
    ·
     skip
     have g3:(who == 0)=true:=(by simp [Lb]);have Dd:H9 (who=0):=Lb;clear Lb;by_cases Ec:y≤now
     ·
      skip
      have g4:decide (y≤now)=true:=(by simp [Ec]);have Ub:=Ha.o.c 1 rfl;have Vb:=Ha.o.c 2 rfl;have x3:=Ea.o.c 3 rfl;have x0:=Ea.o.c 0 rfl;have Ga:M.frT now who ⟨td,x,y⟩=true:=(by unfold M.frT M.leased;simp [Gb,Dd.o,Ec]);have hG:=Cb.o;have Ca:=Ka.o;have Ia:w5.cell? ⟨gj,n*18+17,none⟩=some (.slice (Aa.getD n q0).2.1 (Aa.getD n q0).1.ts.length (Aa.getD n q0).2.2):=hG.jcell Na (by omega);rw [Ca.1,Ca.2.1,Ca.2.2] at Ia;have hT:=hG.jtask Na;rw [Ca.1,Ca.2.1,Ca.2.2] at hT;have b0:=hT.cells Ja (j:=0) (by omega);have Zb:=hT.2.frozenAt (p*3+0);have b1:=hT.cells Ja (j:=1) (by omega);have Ad:=hT.2.frozenAt (p*3+1);have b2:=hT.cells Ja (j:=2) (by omega);have Bd:=hT.2.frozenAt (p*3+2);rw [Nat.add_zero] at b0 Zb;generalize Ac:(Aa.getD n q0).1.ts.getD p M.t0=zz at b0 b1 b2;obtain ⟨z1,z2,z3⟩:=zz;simp only [tvs,List.getElem?_cons_zero,List.getElem?_cons_succ] at b0 b1 b2;have HP:=hG.task Na (Ca.2.1) (k:=p) (by rw [Ca.1];exact Ja) M.t0;obtain ⟨Hb,Ib⟩:=HP;have Bc:H9 _:=Hb;have Ta:H9 _:=Ib;clear Hb Ib hG hT Ac Ca
      have Jb:g∈mbl ab (some ⟨gj,0,none⟩) Aa:=by
       have hm:Aa.getD n q0∈Aa:=(by rw [List.getD_eq_getElem?_getD,List.getElem?_eq_getElem (by omega)];simp);unfold mbl;simp only [List.mem_append];exact .inr (.inr (List.mem_flatMap.2 ⟨_,hm,by rw [Ka.o.2.1];simp [ob]⟩))
      have Kb:g∈mbl ab (some ⟨gj,0,none⟩) qs:=(by rw [← HQ.o];exact Jb);have Cd:=Wb.o g Kb;have HF':H9 (∀ b vs,Lies w b vs→b∉mbl ab (some ⟨gj,0,none⟩) qs→Lies (w5.setCells g (p*3) (tvs M.t0)) b vs):=fun b vs h n=>(Eb.o b vs h n).grown Ta.o (fun e=>n (Option.some.inj e ▸ Kb));clear Jb;have HA':H9 (Lies (w5.setCells g (p*3) (tvs M.t0)) w.heap.size (v4' now next ab nb cb (some ⟨gj,0,none⟩) nj cj)):=Ea.o.grown Ta.o (fun e=>by have:=Option.some.inj e;omega);have HZ':H9 (Lies (w5.setCells g (p*3) (tvs M.t0)) (w.heap.size+1) v10'):=Db.o.grown Ta.o (fun e=>by have:=Option.some.inj e;omega);have HB':H9 (Below base w (w5.setCells g (p*3) (tvs M.t0))):=Ya.o.trans (below_of_grown Ta.o (Nat.le_trans hbase Ya.o.size) (fun z e=>by have:=Option.some.inj e;omega));have Sa:H9 (MQ.ff (M.frT now who) (n+1) ((Aa.set n ({ (Aa.getD n q0).1 with ts:=(Aa.getD n q0).1.ts.set p M.t0 },(Aa.getD n q0).2)).set n (MQ.at (M.frT now who) (p+1) ((Aa.set n ({ (Aa.getD n q0).1 with ts:=(Aa.getD n q0).1.ts.set p M.t0 },(Aa.getD n q0).2)).getD n q0)))=RQ):=(by show _=_;rw [getD_set_self (by omega),Za.o Ga,List.set_set];exact HR.o);have Cc:H9 (((Aa.set n ({ (Aa.getD n q0).1 with ts:=(Aa.getD n q0).1.ts.set p M.t0 },(Aa.getD n q0).2)).getD n q0).1.ts.length=tn∧((Aa.set n ({ (Aa.getD n q0).1 with ts:=(Aa.getD n q0).1.ts.set p M.t0 },(Aa.getD n q0).2)).getD n q0).2.1=some ⟨g,0,none⟩∧((Aa.set n ({ (Aa.getD n q0).1 with ts:=(Aa.getD n q0).1.ts.set p M.t0 },(Aa.getD n q0).2)).getD n q0).2.2=tc):=(by show _∧_∧_;rw [getD_set_self (by omega)];dsimp only;rw [List.length_set];exact Ka.o);have Dc:H9 (mbl ab (some ⟨gj,0,none⟩) (Aa.set n ({ (Aa.getD n q0).1 with ts:=(Aa.getD n q0).1.ts.set p M.t0 },(Aa.getD n q0).2))=mbl ab (some ⟨gj,0,none⟩) qs):=(mbl_set (qs:=Aa) (i:=n) _ (by omega) (by rfl)).trans HQ.o;clear Xa Za HR Ga Ka HQ;go_wp2;go_roundw
      case rel=>exact ⟨p+1,_,by omega,by go_num,Bc.o,Dc.o,Sa.o,Cc.o,HA'.o,HZ'.o,HF'.o,HB'.o⟩
      case measure=>simp [intOf];omega
     have g4:decide (y≤now)=false:=(by simp;omega);have Ub:=Ha.o.c 1 rfl;have Vb:=Ha.o.c 2 rfl;have x3:=Ea.o.c 3 rfl;have x0:=Ea.o.c 0 rfl;have Ga:M.frT now who ⟨td,x,y⟩=false:=(by unfold M.frT M.leased;simp [Fb,Ec]);have Sa:H9 (MQ.ff (M.frT now who) (n+1) (Aa.set n (MQ.at (M.frT now who) (p+1) (Aa.getD n q0)))=RQ):=(by show _=_;rw [Xa.o Ga];exact HR.o);clear Xa Za HR Ga;go_wp2;go_roundw
     case rel=>exact ⟨p+1,Aa,by omega,by go_num,Cb.o,HQ.o,Sa.o,Ka.o,Ea.o,Db.o,Eb.o,Ya.o⟩
     case measure=>simp [intOf];omega
    have g3:(who == 0)=false:=(by simp [Lb]);have Ub:=Ha.o.c 1 rfl;have Vb:=Ha.o.c 2 rfl;have x3:=Ea.o.c 3 rfl;have x0:=Ea.o.c 0 rfl;have Ga:M.frT now who ⟨td,x,y⟩=false:=(by unfold M.frT M.leased;simp [Fb,Lb]);have Sa:H9 (MQ.ff (M.frT now who) (n+1) (Aa.set n (MQ.at (M.frT now who) (p+1) (Aa.getD n q0)))=RQ):=(by show _=_;rw [Xa.o Ga];exact HR.o);clear Xa Za HR Ga;go_wp2;go_roundw
    case rel=>exact ⟨p+1,Aa,by omega,by go_num,Cb.o,HQ.o,Sa.o,Ka.o,Ea.o,Db.o,Eb.o,Ya.o⟩
    case measure=>simp [intOf];omega
  have Ed:n=nj:=(by omega);have Fd:H9 (Ba=RQ):=(by show _=_;rw [MQ.ff_end (by have:=hG.jl;omega)] at hR;exact hR);have Gd:=Hd (hG);have Id:=Hd (Pa);have Qc:=Hd (Ra);have Jd:=Hd (Qa);have Kd:=Hd (Da);have Wc:¬ (n:Int)<(nj:Int):=(by omega);have o0:=Fa.c 0 rfl;have o1:=Fa.c 1 rfl;have o2:=Fa.c 2 rfl;have o3:=Fa.c 3 rfl;have r0:=Da.c 0 rfl;have Qd:=Da.fr 0;have r1:=Da.c 1 rfl;have Rd:=Da.fr 1;have r2:=Da.c 2 rfl;have Sd:=Da.fr 2;have r3:=Da.c 3 rfl;have Td:=Da.fr 3;clear hG Pa hR Fa Da Qa Ra;subst Ed;(go_wp2_with fail);show bodyPost _ _ _ _ _ (wr.setCells (w.heap.size+1) 0 (v4' now next ab nb cb aj n cj));have Rc:Lies (wr.setCells (w.heap.size+1) 0 (v4' now next ab nb cb aj n cj)) (w.heap.size+1) (v4' now next ab nb cb aj n cj):=Kd.o.setCells (v4' now next ab nb cb aj n cj) 0 (by simp);have Fc:=gcs wr (w.heap.size+1) 0 (v4' now next ab nb cb aj n cj);have Sc:MktO (wr.setCells (w.heap.size+1) 0 (v4' now next ab nb cb aj n cj)) base ab nb cb bs aj n cj RQ:=Fd.o ▸ Gd.o.grown Fc (fun g hg e=>by rw [Id.o] at hg;have:=Wb.o g hg;have:=Option.some.inj e;omega);have Tc:Below base w (wr.setCells (w.heap.size+1) 0 (v4' now next ab nb cb aj n cj)):=Qc.o.trans (below_of_grown Fc (Nat.le_trans hbase Qc.o.size) (fun z e=>by have:=Option.some.inj e;omega));have Uc:∀ b vs,Lies w b vs→b∉mbl ab aj qs→Lies (wr.setCells (w.heap.size+1) 0 (v4' now next ab nb cb aj n cj)) b vs:=fun b vs h n=>(Jd.o b vs h n).grown Fc (fun e=>by have:=Option.some.inj e;have:=h.2.2;omega);generalize (wr.setCells (w.heap.size+1) 0 (v4' now next ab nb cb aj n cj))=wf at Rc Sc Uc Tc ⊢;exact bodyPost_ret (results_cell rfl rfl (run_loadVar_mid wf (w.heap.size+1) 0 27 _ _ Rc.row Tryz.underlying27 rfl (by kernel_rfl))) rfl ⟨rfl,by rw [Vc.o];exact Sc,Uc,Tc⟩
end Go.Proofs.YtfhknkppiidnkaaGreat
