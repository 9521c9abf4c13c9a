import Derived.Test.YtjcjonncaknhnaaGreatDoorPk05
namespace Go.Proofs.YtjcjonncaknhnaaGreatDoor
open Go.RowKit Go.Proofs.Tryz
set_option linter.unusedSimpArgs false
set_option maxHeartbeats 32000000
variable {x:Int}{l:List (Int×Value)}{k t e:TypeId}{n c jb tn tc b nb cb nj cj:Nat}{a ta ab aj:Option Addr}{ts tl:List M.Tk}{v:Value}{w w':World}{P:Program}{bs:List Int}{ops:Array Oper}{S:World→Prop}{md:Region.Mode}{Q:Exit→Act→World→Prop}
namespace M
def wkOk(x:Int):Bool:=decide (1≤x)&&decide (x≤9)
def bnGo(last:Int):List Int→Bool
 | []=>true
 | x::l=>(decide (last<x)&&wkOk x)&&bnGo x l
def tkOk(now:Int)(t:Tk):Bool:=(decide (t.l'=0)&&decide (t.due=0))||(!t.done&&(wkOk t.l'&&(decide (now+1≤t.due)&&decide (t.due≤now+5))))
def leased(t:Tk):Bool:=decide (t.l'≠0)
def jbOk(now:Int)(j:Jb):Bool:=(j.m.ok&&(M.sOk j.s&&(M.rows j.rows&&(decide (1≤j.ts.length)&&(decide (j.ts.length≤8)&&j.ts.all (tkOk now))))))&&(!j.gone||(!j.ts.any leased&&!j.ts.all (·.done)))
def jsGo(now tj last:Int):List Jb→Bool
 | []=>true
 | j::l=>((decide (last+1≤j.id)&&decide (j.id≤tj-1))&&jbOk now j)&&jsGo now tj j.id l
def wkT(ts:List Tk):List Int:=(ts.filter leased).map (·.l')
def wks(js:List Jb):List Int:=js.flatMap fun j=>wkT j.ts
def mkOk(now tj:Int)(bs:List Int)(js:List Jb):Bool:=
 (decide (0≤now)&&decide (now≤1000000000))&&((decide (1≤tj)&&decide (tj≤1000000000))&&(bnGo 0 bs&&((decide (js.length≤6)&&jsGo now tj 0 js)&&(decide (wks js).Nodup&&!(wks js).any (fun x=>bs.contains x)))))
def spK(now:Int)(bs:List Int)(t:Tk):Bool:=if t.done||decide (t.l'=0)then decide (t.l'=0)&&decide (t.due=0)else wkOk t.l'&&(!bs.contains t.l'&&(decide (now<t.due)&&decide (t.due≤now+5)))
def spT(now:Int)(bs:List Int)(gone:Bool)(busy:List Int):List Tk→Bool
 | []=>true
 | t::l=>((spK now bs t&&!(gone&&leased t))&&!(leased t&&busy.contains t.l'))&&spT now bs gone (busy++[t.l']) l
def spH(tj last:Int)(j:Jb):Bool:=(decide (1≤j.id)&&decide (j.id≤1000000000))&&(decide (j.id<tj)&&(decide (last<j.id)&&(j.m.ok&&(M.sOk j.s&&(M.rows j.rows&&(decide (1≤j.ts.length)&&decide (j.ts.length≤8)))))))
def spJ(now tj:Int)(bs:List Int)(last:Int)(busy:List Int):List Jb→Bool
 | []=>true
 | j::l=>(spH tj last j&&(spT now bs j.gone busy j.ts&&!(j.gone&&j.ts.all (·.done))))&&spJ now tj bs j.id (busy++j.ts.map (·.l')) l
def spOk(now tj:Int)(bs:List Int)(js:List Jb):Bool:=
 (decide (0≤now)&&decide (now≤1000000000))&&((decide (1≤tj)&&decide (tj≤1000000000))&&(decide (js.length≤6)&&(decide (bs.length≤9)&&(bnGo 0 bs&&spJ now tj bs 0 [] js))))
theorem bnGo_len:∀(bs:List Int) (last:Int),0≤last→bnGo last bs=true→(bs.length:Int)+last≤9∨bs=[]
 | [],_,_,_=>.inr rfl
 | x::l,last,h0,h=>by
  unfold bnGo wkOk at h;simp only[tZ,decide_eq_true_eq]at h;obtain⟨⟨h1,h2,h3⟩,h4⟩:=h
  left
  rcases bnGo_len l x (by omega) h4 with e | e
  ·rw[List.length_cons];omega
  ·subst e;simp;omega
theorem spK_iff(now:Int)(bs:List Int)(t:Tk):spK now bs t=true↔tkOk now t=true∧(leased t=true→t.l'∉bs):=by
 unfold spK tkOk leased wkOk;by_cases hd:t.done=true <;> by_cases hw:t.l'=0 <;> simp[hd,hw]
 constructor
 ·rintro⟨h1,h2,h3,h4⟩;exact⟨⟨h1,by omega,h4⟩,h2⟩
 ·rintro⟨⟨h1,h3,h4⟩,h2⟩;exact⟨h1,h2,by omega,h4⟩
theorem wkT_cons(t:Tk)(l:List Tk):wkT (t::l)=if leased t=true then t.l'::wkT l else wkT l:=by
 unfold wkT;rw[List.filter_cons];by_cases h:leased t=true <;> simp[h]
theorem wkT_ne{ts:List Tk}(h:x∈wkT ts):x≠0:=by
 unfold wkT at h;obtain⟨t,ht,rfl⟩:=List.mem_map.1 h;have:=(List.mem_filter.1 ht).2;unfold leased at this;simpa using this
theorem wkT_mem{ts:List Tk}:x∈wkT ts↔x≠0∧x∈ts.map (·.l'):=by
 unfold wkT leased;simp only[List.mem_map,List.mem_filter,decide_eq_true_eq]
 constructor
 ·rintro⟨t,⟨h1,h2⟩,rfl⟩;exact⟨h2,t,h1,rfl⟩
 ·rintro⟨h2,t,h1,rfl⟩;exact⟨t,⟨h1,h2⟩,rfl⟩
theorem spT_iff(now:Int)(bs:List Int)(gone:Bool):∀(ts:List Tk) (busy:List Int),spT now bs gone busy ts=true↔
  (∀t∈ts,tkOk now t=true)∧(gone=true→∀t∈ts,leased t=false)∧(wkT ts).Nodup∧(∀x∈wkT ts,x∉busy)∧(∀x∈wkT ts,x∉bs)
 | [],busy=>by simp[spT,wkT]
 | t::l,busy=>by
  unfold spT;rw[tZ,tZ,tZ,spK_iff,spT_iff now bs gone l];rw[wkT_cons];by_cases hl:leased t=true
  ·
   have hw:t.l'≠0:=(by unfold leased at hl;simpa using hl);rw[if_pos hl];simp only[hl,List.mem_cons,forall_eq_or_imp,List.nodup_cons,Bool.and_true,Bool.true_and,Bool.not_eq_true',List.contains_eq_mem,decide_eq_false_iff_not,tI,List.not_mem_nil,or_false,not_or]
   constructor
   ·
    rintro⟨⟨⟨⟨h1,h2⟩,h3⟩,h4⟩,h5,h6,h7,h8,h9⟩;exact⟨⟨h1,h5⟩,fun hg=>by simp[hg]at h3,⟨fun hm=>(h8 _ hm).2 rfl,h7⟩,⟨h4,fun x hx=>(h8 x hx).1⟩,h2 trivial,h9⟩
   ·
    rintro⟨⟨h1,h5⟩,h3,⟨h4,h7⟩,⟨h6,h8⟩,h2,h9⟩;refine⟨⟨⟨⟨h1,fun _=>h2⟩,?_⟩,h6⟩,h5,fun hg=>(h3 hg).2,h7,fun x hx=>⟨h8 x hx,fun e=>h4 (e ▸ hx)⟩,h9⟩
    cases gone
    ·rfl
    ·exact absurd (h3 rfl).1 (by simp)
  ·
   have hf:leased t=false:=(by simpa using hl);have hw:t.l'=0:=(by unfold leased at hf;simpa using hf);rw[if_neg hl];simp only[hf,List.mem_cons,forall_eq_or_imp,Bool.and_false,Bool.false_and,Bool.not_false,and_true,true_and,Bool.false_eq_true,false_implies,tI,List.not_mem_nil,or_false,not_or]
   constructor
   ·
    rintro⟨h1,h5,h6,h7,h8,h9⟩;exact⟨⟨h1,h5⟩,h6,h7,fun x hx=>(h8 x hx).1,h9⟩
   ·
    rintro⟨⟨h1,h5⟩,h6,h7,h8,h9⟩;exact⟨h1,h5,h6,h7,fun x hx=>⟨h8 x hx,fun e=>wkT_ne hx (e.trans hw)⟩,h9⟩
theorem spJ_iff(now tj:Int)(bs:List Int)(hn:tj≤1000000000):∀(js:List Jb) (last:Int) (busy:List Int),0≤last→(spJ now tj bs last busy js=true↔
  jsGo now tj last js=true∧(wks js).Nodup∧(∀x∈wks js,x∉busy)∧(∀x∈wks js,x∉bs))
 | [],_,_,_=>by simp[spJ,jsGo,wks]
 | j::l,last,busy,h0=>by
  by_cases hid:last+1≤j.id∧j.id≤tj-1
  ·
   have ih:=spJ_iff now tj bs hn l j.id (busy++j.ts.map (·.l')) (by omega);unfold spJ jsGo;have hw:wks (j::l)=wkT j.ts++wks l:=by simp[wks]
   have hh:spH tj last j=(j.m.ok&&(M.sOk j.s&&(M.rows j.rows&&(decide (1≤j.ts.length)&&decide (j.ts.length≤8))))):=by
    unfold spH;rw[show decide (1≤j.id)=true by simp;omega,show decide (j.id≤1000000000)=true by simp;omega,show decide (j.id<tj)=true by simp;omega,show decide (last<j.id)=true by simp;omega]
    rfl
   have Aa:∀x∈wks l,x≠0:=fun x hx=>by
    unfold wks at hx;obtain⟨q,_,hq⟩:=tU.1 hx;exact wkT_ne hq
   rw[tZ,tZ,tZ,spT_iff,ih,hh,hw,List.nodup_append];unfold jbOk;simp only[tZ,decide_eq_true_eq,List.all_eq_true,Bool.or_eq_true,Bool.not_eq_true',tI,not_or];have Ba:j.ts.any leased=false↔∀t∈j.ts,leased t=false:=(by simp);rw[Ba]
   constructor
   ·
    rintro⟨⟨⟨a1,a2,a3,a4,a5⟩,⟨b1,b2,b3,b4,b5⟩,c⟩,d1,d2,d3,d4⟩;refine⟨⟨⟨hid,⟨a1,a2,a3,a4,a5,b1⟩,?_⟩,d1⟩,⟨b3,d2,fun x hx y hy e=>?_⟩,?_,?_⟩
    ·
     cases hg:j.gone
     ·exact .inl rfl
     ·rw[hg]at c;exact .inr ⟨b2 hg,by simpa using c⟩
    ·subst e;exact(d3 x hy).2 (wkT_mem.1 hx).2
    ·
     rintro x (h | h)
     ·exact b4 x h
     ·exact(d3 x h).1
    ·
     rintro x (h | h)
     ·exact b5 x h
     ·exact d4 x h
   ·
    rintro⟨⟨⟨-,⟨a1,a2,a3,a4,a5,b1⟩,g⟩,d1⟩,⟨b3,d2,e⟩,f1,f2⟩;refine⟨⟨⟨a1,a2,a3,a4,a5⟩,⟨b1,fun hg=>?_,b3,fun x hx=>f1 x (.inl hx),fun x hx=>f2 x (.inl hx)⟩,?_⟩,d1,d2,fun x hx=>⟨f1 x (.inr hx),fun hm=>e x (wkT_mem.2 ⟨Aa x hx,hm⟩) x hx rfl⟩,fun x hx=>f2 x (.inr hx)⟩
    ·
     rcases g with g | g
     ·rw[hg]at g;cases g
     ·exact g.1
    ·
     rcases g with g | g
     ·rw[g];rfl
     ·rw[g.2];simp
  ·
   constructor
   ·
    intro h;unfold spJ spH at h;simp only[tZ,decide_eq_true_eq]at h;exact absurd ⟨by omega,by omega⟩ hid
   ·
    rintro⟨h,-⟩;unfold jsGo at h;simp only[tZ,decide_eq_true_eq]at h;exact absurd h.1.1 hid
theorem spOk_eq(now tj:Int)(bs:List Int)(js:List Jb):spOk now tj bs js=mkOk now tj bs js:=by
 rw[Bool.eq_iff_iff];unfold spOk mkOk;simp only[tZ,decide_eq_true_eq];have Aa:(!(wks js).any (fun x=>bs.contains x))=true↔∀x∈wks js,x∉bs:=(by simp);rw[Aa]
 constructor
 ·
  rintro⟨a,⟨b1,b2⟩,c,d,e,f⟩;obtain⟨f1,f2,-,f4⟩:=(spJ_iff now tj bs b2 js 0 [] (by omega)).1 f;exact⟨a,⟨b1,b2⟩,e,⟨c,f1⟩,f2,f4⟩
 ·
  rintro⟨a,⟨b1,b2⟩,e,⟨c,f1⟩,f2,f4⟩;refine⟨a,⟨b1,b2⟩,c,?_,e,(spJ_iff now tj bs b2 js 0 [] (by omega)).2 ⟨f1,f2,fun _ _=>List.not_mem_nil,f4⟩⟩
  rcases bnGo_len bs 0 (by omega) e with h | h
  ·omega
  ·subst h;simp
end M
theorem aQ{α:Type}{l:List α}{k:Nat}(d:α)(hl:l.length=n)(h:k<n):l.drop k=l.getD k d::l.drop (k+1):=by
 rw[List.drop_eq_getElem_cons (by omega),tu,tw (by omega)];rfl
theorem cv(n lo hi:Int)(w:World):Rq 50 #[.int .i64 n,.int .i64 lo,.int .i64 hi] w (.bool (decide (lo≤n)&&decide (n≤hi))):=by
 by_cases h1:lo≤n
 ·
  go_enter func50,ntmps50;go_wp2;go_ret;exact⟨by simp[h1],rfl⟩
 ·
  go_enter func50,ntmps50;go_wp2;go_ret;exact⟨by simp;omega,rfl⟩
theorem d7(n:Int)(w:World):Rq 55 #[.int .i64 n] w (.bool (M.wkOk n)):=by
 go_enter func55,ntmps55;(go_wp2_with fail);refine(cv _ _ _ _).mono ?_;rintro e wz ⟨rfl,rfl⟩;go_wp2;go_ret;exact⟨rfl,rfl⟩
theorem dW(t:M.Tk)(w:World):Rt 111 #[ia t] w (.bool (M.leased t)):=by
 have h:M.leased t=(t.l' != 0):=(by unfold M.leased;by_cases e:t.l'=0 <;> simp[e]);rw[h];obtain⟨d,x,y⟩:=t;dsimp only[ia];have HB:H9 (Below w.heap.size w (w.alloc (.cells (dq d x y).toArray 47))):=(tv _ _).alloc (tr _) _;go_enter func111,ntmps111;go_wp2;go_ret;exact⟨rfl,HB.o⟩
theorem ln{zs:List Int}(w:World)(hz:ah w a n c zs):
  Rq 51 #[.slice a n c] w (.bool (M.bnGo 0 zs)):=by
 have bn:(n:Int)≤9223372036854775807:=(by have:=hz.big;have:=hz.le;omega);have HZ:=Hd (hz);clear hz;generalize hR:M.bnGo 0 zs=R;have HR:=Hd (hR);clear hR;go_enter func51,ntmps51;go_wp2
 go_loop [3,8] (fun l i=>∃(k:Nat) (q:Int),k≤n∧i=it k∧l=it q∧M.bnGo q (zs.drop k)=R) (fun _ i=>n-(intOf i).toNat)
 case atStart=>exact⟨0,0,by omega,rfl,rfl,HR.o⟩
 case round=>
  obtain⟨k,q,hk,rfl,rfl,hg⟩:=hrel;by_cases Ba:k<n
  ·
   obtain⟨b1,o1,rfl,Ca⟩:=HZ.o.at (by omega);have c1:=Ca k Ba
   have hG:((decide (q<zs.getD k 0)&&M.wkOk (zs.getD k 0))&&M.bnGo (zs.getD k 0) (zs.drop (k+1)))=R:=by
    rw[←hg,aQ 0 HZ.o.len Ba];rfl
   clear Ca hg;have C1:=d7 (zs.getD k 0);generalize zs.getD k 0=x at c1 hG C1;have HG:=Hd (hG);clear hG;have hI:(k:Int)<(n:Int):=(by omega);by_cases hx:x≤q
   ·
    have Ea:H9 (false=R):=(by show false=R;have:=HG.o;rw[show decide (q<x)=false by simp;omega]at this;simpa using this);go_wp2;go_ret;exact⟨ag Ea.o,rfl⟩
   ·
    have hx':q<x:=(by omega);have Aa:H9 ((M.wkOk x&&M.bnGo x (zs.drop (k+1)))=R):=(by show _=_;have:=HG.o;rw[show decide (q<x)=true by simp;omega]at this;simpa using this);clear HG;generalize M.wkOk x=ow at C1 Aa;(go_wp2_with fail);refine(C1 _).mono ?_;rintro e wz ⟨rfl,Da⟩;have Fa:=Da.symm;clear Da;subst Fa
    cases ow with
    | false=>
     go_wp2;go_ret;exact⟨ag Aa.o,rfl⟩
    | true=>
     have Ga:H9 (M.bnGo x (zs.drop (k+1))=R):=(by show _=_;have:=Aa.o;simpa using this);go_wp2
     go_round
     case rel=>exact⟨k+1,x,by omega,by go_num,rfl,Ga.o⟩
     case measure=>simp[intOf];omega
  ·
   go_wp2;go_ret;refine⟨ag ?_,rfl⟩;rw[tC (by rw[HZ.o.len];omega)]at hg;exact hg
theorem pD(t:M.Tk)(now:Int)(h0:0≤now)(h1:now≤1000000000)(w:World):Rt 261 #[ia t,.int .i64 now] w (.bool (M.tkOk now t)):=by
 unfold M.tkOk;obtain⟨d,x,y⟩:=t;dsimp only[ia];have C1:=d7 x;have C2:=cv y (now+1) (now+5);have HB:H9 (Below w.heap.size w (w.alloc (.cells (dq d x y).toArray 47))):=(tv _ _).alloc (tr _) _;generalize M.wkOk x=ow at *;generalize(decide (now+1≤y)&&decide (y≤now+5))=od at *;by_cases hx:x=0
 ·
  by_cases hy:y=0
  ·
   subst hx;subst hy;go_enter func261,ntmps261;go_wp2;go_ret;exact⟨by simp,HB.o⟩
  ·
   subst hx;have gy:(y==0)=false:=(by simp[hy]);go_enter func261,ntmps261
   cases d with
   | true=>
    go_wp2;go_ret;exact⟨by simp;omega,HB.o⟩
   | false=>
    (go_wp2_with fail);refine(C1 _).mono ?_;rintro e wz ⟨rfl,Aa⟩;have Ba:=Aa.symm;clear Aa;subst Ba
    cases ow with
    | false=>
     go_wp2;go_ret;exact⟨by simp;omega,HB.o⟩
    | true=>
     (go_wp2_with fail);refine(C2 _).mono ?_;rintro e wz ⟨rfl,Aa⟩;have Ba:=Aa.symm;clear Aa;subst Ba;go_wp2;go_ret;refine⟨?_,HB.o⟩;have Ca:¬ y=0:=(by omega);simp[Ca]
 ·
  have gx:(x==0)=false:=(by simp[hx]);go_enter func261,ntmps261
  cases d with
  | true=>
   go_wp2;go_ret;exact⟨by simp;omega,HB.o⟩
  | false=>
   (go_wp2_with fail);refine(C1 _).mono ?_;rintro e wz ⟨rfl,Aa⟩;have Ba:=Aa.symm;clear Aa;subst Ba
   cases ow with
   | false=>
    go_wp2;go_ret;exact⟨by simp;omega,HB.o⟩
   | true=>
    (go_wp2_with fail);refine(C2 _).mono ?_;rintro e wz ⟨rfl,Aa⟩;have Ba:=Aa.symm;clear Aa;subst Ba;go_wp2;go_ret;refine⟨?_,HB.o⟩;have Ca:(decide (x=0)&&decide (y=0))=false:=(by simp;omega);rw[Ca];simp
theorem nf(now:Int)(h0:0≤now)(h1:now≤1000000000)(w:World)(hz:aY w a n c ts):
  Rt 189 #[.slice a n c,.int .i64 now] w (.bool (decide (1≤n)&&(decide (n≤8)&&ts.all (M.tkOk now)))):=by
 have bn:(n:Int)≤9223372036854775807:=(by have:=hz.big;have:=hz.le;omega);have HZ:=Hd (hz);clear hz;by_cases hs:1≤n∧n≤8
 ·
  obtain⟨Ga,Ha⟩:=hs;have Ja:(1:Int)≤(n:Int):=(by omega);have Ka:(n:Int)≤8:=(by omega);rw[show decide (1≤n)=true by simpa using Ga,show decide (n≤8)=true by simpa using Ha,Bool.true_and,Bool.true_and];generalize hR:ts.all (M.tkOk now)=R;have HR:=Hd (hR);clear hR;go_enter func189,ntmps189;go_wp2
  go_loopw [17] (fun i wr=>∃k:Nat,k≤n∧i=it k∧(ts.drop k).all (M.tkOk now)=R∧Below w.heap.size w wr) (fun i _=>n-(intOf i).toNat)
  case atStart=>exact⟨0,by omega,rfl,HR.o,tv _ _⟩
  case round=>
   obtain⟨k,hk,rfl,hg,Ba⟩:=hrel;have Aa:=Hd (Ba);clear Ba;by_cases Ca:k<n
   ·
    obtain⟨b1,o1,rfl,Da⟩:=(HZ.o.below Aa.o).at (by omega)
    have hG:(M.tkOk now (ts.getD k M.t0)&&(ts.drop (k+1)).all (M.tkOk now))=R:=by
     rw[←hg,aQ M.t0 HZ.o.len Ca];rfl
    have hA:=Da k Ca;have C1:=pD (ts.getD k M.t0) now h0 h1;generalize ts.getD k M.t0=x at hA hG C1;obtain⟨d,x,y⟩:=x;dsimp only[ia]at C1;have HG:=Hd (hG);have a0:wr.cell? ⟨b1,o1+k*3,none⟩=some (.bool d):=hA 0 (by omega);have a1:wr.cell? ⟨b1,o1+k*3+1,none⟩=some (it x):=hA 1 (by omega);have a2:wr.cell? ⟨b1,o1+k*3+2,none⟩=some (it y):=hA 2 (by omega);clear Da hA hg hG;generalize M.tkOk now ⟨d,x,y⟩=ow at C1 HG;have hI:(k:Int)<(n:Int):=(by omega);(go_wp2_with fail);refine(C1 _).mono ?_;rintro e w2 ⟨rfl,Ea⟩;have Fa:H9 (Below w.heap.size w w2):=(Aa.o.alloc Aa.o.size _).trans (Ea.mono (Aa.o.alloc Aa.o.size _).size);clear Ea
    cases ow with
    | false=>
     go_wp2;go_ret;exact⟨ag HG.o,Fa.o⟩
    | true=>
     have Ia:H9 ((ts.drop (k+1)).all (M.tkOk now)=R):=(by show _=_;have:=HG.o;simpa using this);go_wp2;go_roundw
     case rel=>exact⟨k+1,by omega,by go_num,Ia.o,Fa.o⟩
     case measure=>simp[intOf];omega
   ·
    go_wp2;go_ret;refine⟨ag ?_,Aa.o⟩;rw[tC (by rw[HZ.o.len];omega)]at hg;exact hg
 ·
  have hF:(decide (1≤n)&&(decide (n≤8)&&ts.all (M.tkOk now)))=false:=by
   by_cases h:1≤n
   ·rw[show decide (n≤8)=false by simp;omega];simp
   ·rw[show decide (1≤n)=false by simp;omega];rfl
  rw[hF];by_cases h:1≤n
  ·
   have g1:(8:Int)<(n:Int):=(by omega);have g2:¬ (n:Int)<1:=(by omega);go_enter func189,ntmps189;go_wp2;go_ret;exact⟨rfl,tv _ _⟩
  ·
   have g1:(n:Int)<1:=(by omega);go_enter func189,ntmps189;go_wp2;go_ret;exact⟨rfl,tv _ _⟩
theorem jo(w:World)(hz:aY w a n c ts):
  Calls prog 231 #[.slice a n c,.func (.func 111) #[] #[]] w fun e w'=>∃r:Int,e=.returned (.int .i64 r)∧decide (0≤r)=ts.any M.leased∧Below w.heap.size w w':=by
 have bn:(n:Int)≤9223372036854775807:=(by have:=hz.big;have:=hz.le;omega);have Ha:(n:Int)≤c:=(by have:=hz.le;omega);have HZ:=Hd (hz);clear hz;generalize hR:ts.any M.leased=R;have HR:=Hd (hR);clear hR;go_enter func231,ntmps231;go_wp2
 go_loopw [8] (fun i wr=>∃k:Nat,k≤n∧i=it k∧(ts.drop k).any M.leased=R∧Below w.heap.size w wr) (fun i _=>n-(intOf i).toNat)
 case atStart=>exact⟨0,by omega,rfl,HR.o,tv _ _⟩
 case round=>
  obtain⟨k,hk,rfl,hg,Ba⟩:=hrel;have Aa:=Hd (Ba);clear Ba;by_cases Ca:k<n
  ·
   obtain⟨b1,o1,rfl,Da⟩:=(HZ.o.below Aa.o).at (by omega)
   have hG:(M.leased (ts.getD k M.t0)||(ts.drop (k+1)).any M.leased)=R:=by
    rw[←hg,aQ M.t0 HZ.o.len Ca];rfl
   have hA:=Da k Ca;have C1:=dW (ts.getD k M.t0);generalize ts.getD k M.t0=x at hA hG C1;obtain⟨d,x,y⟩:=x;dsimp only[ia]at C1;have HG:=Hd (hG);have a0:wr.cell? ⟨b1,o1+k*3,none⟩=some (.bool d):=hA 0 (by omega);have a1:wr.cell? ⟨b1,o1+k*3+1,none⟩=some (it x):=hA 1 (by omega);have a2:wr.cell? ⟨b1,o1+k*3+2,none⟩=some (it y):=hA 2 (by omega);clear Da hA hg hG;generalize M.leased ⟨d,x,y⟩=ow at C1 HG;have hI:(k:Int)<(n:Int):=(by omega);(go_wp2_with fail);refine(C1 _).mono ?_;rintro e w2 ⟨rfl,Ea⟩;have Fa:=Hd (Aa.o.trans (Ea.mono Aa.o.size));clear Ea
   cases ow with
   | true=>
    go_wp2;go_ret;refine⟨_,rfl,?_,Fa.o⟩;have:=HG.o;rw[Bool.true_or]at this;rw[←this];simp
   | false=>
    have Ga:H9 ((ts.drop (k+1)).any M.leased=R):=(by show _=_;have:=HG.o;simpa using this);go_wp2;go_roundw
    case rel=>exact⟨k+1,by omega,by go_num,Ga.o,Fa.o⟩
    case measure=>simp[intOf];omega
  ·
   go_wp2;go_ret;refine⟨_,rfl,?_,Aa.o⟩;rw[tC (by rw[HZ.o.len];omega)]at hg;rw[←hg];rfl
theorem gg(w:World)(hz:aY w a n c ts):
  Rt 190 #[.slice a n c,.func (.func 111) #[] #[]] w (.bool (ts.any M.leased)):=by
 have HZ:=Hd (hz);clear hz;go_enter func190,ntmps190;(go_wp2_with fail);refine(jo _ HZ.o).mono ?_;rintro e w1 ⟨r,rfl,hr,hb⟩;have HR:=Hd (hr);have HB:=Hd (hb);clear hr hb;go_wp2;go_ret;exact⟨ag HR.o,HB.o⟩
theorem ld{k:Nat}(d:M.Tk)(hl:ts.length=n)(h:k<n):((ts.take (k+1)).filter (·.done)).length=(if(ts.getD k d).done=true then((ts.take k).filter (·.done)).length+1 else((ts.take k).filter (·.done)).length):=by
 rw[tK (by omega),List.filter_append,t7,tu,tw (by omega)];by_cases e:ts[k].done=true <;> simp[e]
set_option maxRecDepth 10000 in
theorem qq(m:Nat)(t:M.Tk)(hm:(m:Int)+1≤9223372036854775807)(w:World):Rt 132 #[.int .i64 m,ia t] w (.int .i64 ((if t.done=true then m+1 else m:Nat):Int)):=by
 obtain⟨d,x,y⟩:=t;dsimp only[ia];have HB:H9 (Below w.heap.size w (w.alloc (.cells (dq d x y).toArray 47))):=(tv _ _).alloc (tr _) _
 cases d with
 | true=>
  rw[if_pos rfl];have hc:((m+1:Nat):Int)=(m:Int)+1:=(by omega);rw[hc];clear hc;go_enter func132,ntmps132;go_wp2;go_ret;exact⟨rfl,HB.o⟩
 | false=>
  rw[if_neg (by decide)];go_enter func132,ntmps132;go_wp2;go_ret;exact⟨rfl,HB.o⟩
theorem lv(w:World)(hz:aY w a n c ts):
  Rt 131 #[.slice a n c,.int .i64 0,.func (.func 132) #[] #[]] w (.int .i64 ((ts.filter (·.done)).length:Nat)):=by
 have bn:(n:Int)≤9223372036854775807:=(by have:=hz.big;have:=hz.le;omega);have Ha:(n:Int)≤c:=(by have:=hz.le;omega);have HZ:=Hd (hz);clear hz;go_enter func131,ntmps131;go_wp2
 go_loopw [1,11] (fun l i wr=>∃k:Nat,k≤n∧i=it k∧l=it (((ts.take k).filter (·.done)).length:Nat)∧Below w.heap.size w wr) (fun _ i _=>n-(intOf i).toNat)
 case atStart=>exact⟨0,by omega,rfl,rfl,tv _ _⟩
 case round=>
  obtain⟨k,hk,rfl,rfl,Ba⟩:=hrel;have Aa:=Hd (Ba);clear Ba;by_cases Ca:k<n
  ·
   obtain⟨b1,o1,rfl,Da⟩:=(HZ.o.below Aa.o).at (by omega);have hG:=ld M.t0 HZ.o.len Ca;have Fa:((ts.take k).filter (·.done)).length≤k:=tB (List.length_filter_le _ _) (by rw[ua];omega);have hA:=Da k Ca;generalize ts.getD k M.t0=x at hA hG;obtain⟨d,x,y⟩:=x;dsimp only at hG;generalize((ts.take k).filter (·.done)).length=m at hG Fa;have HG:=Hd (hG);have a0:wr.cell? ⟨b1,o1+k*3,none⟩=some (.bool d):=hA 0 (by omega);have a1:wr.cell? ⟨b1,o1+k*3+1,none⟩=some (it x):=hA 1 (by omega);have a2:wr.cell? ⟨b1,o1+k*3+2,none⟩=some (it y):=hA 2 (by omega);clear Da hA hG;have hI:(k:Int)<(n:Int):=(by omega);have Ia:(m:Int)+1≤9223372036854775807:=(by omega);(go_wp2_with fail);refine(qq m ⟨d,x,y⟩ (by omega) _).mono ?_;rintro e w2 ⟨rfl,Ea⟩;have Ga:H9 (Below w.heap.size w w2):=(Aa.o.alloc Aa.o.size _).trans (Ea.mono (Aa.o.alloc Aa.o.size _).size);clear Ea;go_wp2;go_roundw
   case rel=>
    refine⟨k+1,by omega,by go_num,?_,Ga.o⟩;rw[HG.o]
   case measure=>simp[intOf];omega
  ·
   go_wp2;go_ret;refine⟨?_,Aa.o⟩;rw[tF (by rw[HZ.o.len];omega)]
   rfl
theorem kl(w:World)(hc:w.cell? ⟨jb,17,none⟩=some (.slice a n c))(hz:aY w a n c ts):
  Rt 62 #[.pointer (some ⟨jb,0,none⟩)] w (.int .i64 ((ts.filter (·.done)).length:Nat)):=by
 have CF:=lv w hz;generalize(ts.filter (·.done)).length=m at *;clear hz;go_enter func62,ntmps62;(go_wp2_with fail);refine CF.mono ?_;rintro e w1 ⟨rfl,hb⟩;have HB:=Hd (hb);clear hb;go_wp2;go_ret;exact⟨rfl,HB.o⟩
theorem lT(hl:ts.length=n):(((ts.filter (·.done)).length:Nat)==n)=ts.all (·.done):=by
 subst hl;rw[Bool.eq_iff_iff,beq_iff_eq,List.all_eq_true]
 constructor
 ·
  intro h t ht;have:=List.filter_eq_self.1 ((List.filter_sublist (p:=fun t:M.Tk=>t.done) (l:=ts)).eq_of_length h);exact this t ht
 ·
  intro h;rw[List.filter_eq_self.2 h]
theorem fy(w:World)(hc:w.cell? ⟨jb,17,none⟩=some (.slice a n c))(hz:aY w a n c ts):
  Rt 157 #[.pointer (some ⟨jb,0,none⟩)] w (.bool (ts.all (·.done))):=by
 have CD:∀W,W.cell? ⟨jb,17,none⟩=some (.slice a n c)→aY W a n c ts→Rt 62 #[.pointer (some ⟨jb,0,none⟩)] W (it ((ts.filter (·.done)).length:Nat)):=fun W h1 h2=>kl W h1 h2;have HA:H9 ((((ts.filter (·.done)).length:Nat)==n)=ts.all (·.done)):=lT hz.len;have bn:(n:Int)≤9223372036854775807:=(by have:=hz.big;have:=hz.le;omega);generalize(ts.filter (·.done)).length=m at HA CD;generalize ts.all (·.done)=oa at *;have Fa:((m:Int)==(n:Int))=oa:=(by rw[←HA.o,Bool.eq_iff_iff,beq_iff_eq,beq_iff_eq];omega);go_enter func157,ntmps157;(go_wp2_with fail);have Ca:=Hd (hz);clear hz;refine cw w none (by kernel_rfl) fun hHeld=>?_;generalize w.drew=Ga at *;have Ha:H9 (Below w.heap.size w Ga):=⟨hHeld.os,hHeld.tape,hHeld.output,hHeld.size,fun k hk=>hHeld.block k hk (by simp)⟩;refine tk 0 (.pointer (some ⟨jb,0,none⟩)) ?_ ?_
 ·intro wq Aa;go_simp
 refine tk 2 (.pointer (some ⟨jb,0,none⟩)) ?_ ?_
 ·intro wq Aa;go_simp
 refine tk 3 (.pointer (some ⟨jb,0,none⟩)) ?_ ?_
 ·intro wq Aa;go_simp
 refine tk 4 (.pointer (some ⟨jb,17,none⟩)) ?_ ?_
 ·intro wq Aa;go_simp
 refine tk 5 (.slice a n c) ?_ ?_
 ·intro wp Ia;have c0:wp.cell? ⟨jb,17,none⟩=some (.slice a n c):=Ia.cell hc (by simp);go_simp
 refine tk 6 (it n) ?_ ?_
 ·intro wq Aa;go_simp
 refine ba 1 fun Kk hK=>?_;go_simp;refine(CD _ (hHeld.cell hc (by simp)) (Ca.o.below Ha.o)).mono ?_;rintro e Da ⟨rfl,Ea⟩;go_simp;have Ba:w.grownBy Da none:=ap hHeld Ea;have Ja:H9 (Below w.heap.size w Da):=⟨Ba.os,Ba.tape,Ba.output,Ba.size,fun k hk=>Ba.block k hk (by simp)⟩;refine hK.out _ _ Ba (fun _=>?_);clear hK Kk Ea;refine tk 7 (.bool ((m:Int)==(n:Int))) ?_ ?_
 ·intro wq Aa;go_simp
 rw[Fa];refine tk 8 (.bool oa) ?_ ?_
 ·intro wq Aa;go_simp
 refine bt ?_;go_simp;clear Ca;go_wp2;go_ret;exact⟨rfl,Ja.o⟩
set_option maxRecDepth 10000 in
theorem qD(jid a b c d f k a' b' c' d' f' k' s1 s2 jr:Int)(jg:Bool)(now:Int)(h0:0≤now)(h1:now≤1000000000)(w:World)(hz:aY w ta tn tc tl):
  Rt 110 #[.agg #[.int .i64 jid,.int .i64 a,.int .i64 b,.int .i64 c,.int .i64 d,.int .i64 f,.int .i64 k,.int .i64 a',.int .i64 b',.int .i64 c',.int .i64 d',.int .i64 f',.int .i64 k',.int .i64 s1,.int .i64 s2,.int .i64 jr,.bool jg,.slice ta tn tc],.int .i64 now] w (.bool (M.jbOk now ⟨jid,⟨⟨a,b,c,d,f,k⟩,⟨a',b',c',d',f',k'⟩⟩,(s1,s2),jr,jg,tl⟩)):=by
 have hl:=hz.len;have C1:=et ⟨⟨a,b,c,d,f,k⟩,⟨a',b',c',d',f',k'⟩⟩;have C2:=dj (s1,s2);have C3:=gF jr;have HZ:=Hd (hz);unfold M.jbOk;dsimp only[cQ,cC]at C1 C2 ⊢;rw[hl];have C4:∀W,aY W ta tn tc tl→Rt 189 #[.slice ta tn tc,it now] W (.bool (decide (1≤tn)&&(decide (tn≤8)&&tl.all (M.tkOk now)))):=fun W h=>nf now h0 h1 W h;generalize(decide (1≤tn)&&(decide (tn≤8)&&tl.all (M.tkOk now)))=o4 at *;generalize M.rows jr=o3 at *;generalize M.sOk (s1,s2)=o2 at *;generalize M.Mc.ok ⟨⟨a,b,c,d,f,k⟩,⟨a',b',c',d',f',k'⟩⟩=o1 at *;have C5:∀W,aY W ta tn tc tl→Rt 190 #[.slice ta tn tc,.func (.func 111) #[] #[]] W (.bool (tl.any M.leased)):=fun W h=>gg W h;have C6:∀W,W.cell? ⟨w.heap.size,17,none⟩=some (.slice ta tn tc)→aY W ta tn tc tl→Rt 157 #[.pointer (some ⟨w.heap.size,0,none⟩)] W (.bool (tl.all (·.done))):=fun W h1 h2=>fy W h1 h2;generalize tl.any M.leased=o5 at *;generalize tl.all (·.done)=o6 at *;clear hz;go_enter func110,ntmps110;have Ja:=cz w (br jid a b c d f k a' b' c' d' f' k' s1 s2 jr jg ta tn tc) 45;have Ia:H9 (Below w.heap.size w (w.alloc (.cells (br jid a b c d f k a' b' c' d' f' k' s1 s2 jr jg ta tn tc).toArray 45))):=(tv _ _).alloc (tr _) _;(go_wp2_with fail);generalize(w.alloc (.cells (br jid a b c d f k a' b' c' d' f' k' s1 s2 jr jg ta tn tc).toArray 45))=wa at *;refine(C1 _).mono ?_;rintro e wb ⟨rfl,hb⟩;have Ea:=Hd (Ja.o.belowS hb);have Fa:=Hd (Ia.o.trans (hb.mono Ia.o.size));clear Ja Ia;clear hb
 cases o1 with
 | false=>
  go_wp2;go_ret;exact⟨by simp,Fa.o⟩
 | true=>
  have Na:=Ea.o.c 13;have Oa:=Ea.o.c 14;(go_wp2_with fail);clear Na Oa;refine(C2 _).mono ?_;rintro e wc ⟨rfl,hb⟩;have Ga:=Hd (Ea.o.belowS hb);have Aa:=Hd (Fa.o.trans (hb.mono Fa.o.size));clear Ea Fa;clear hb
  cases o2 with
  | false=>
   go_wp2;go_ret;exact⟨by simp,Aa.o⟩
  | true=>
   have Pa:=Ga.o.c 15;(go_wp2_with fail);clear Pa;refine(C3 _).mono ?_;rintro e wz ⟨rfl,Ka⟩;have Qa:=Ka.symm;clear Ka;subst Qa
   cases o3 with
   | false=>
    go_wp2;go_ret;exact⟨by simp,Aa.o⟩
   | true=>
    have Ca:=Ga.o.c 17;(go_wp2_with fail);clear Ca;refine(C4 _ (HZ.o.below Aa.o)).mono ?_;rintro e wd ⟨rfl,hb⟩;have Ha:=Hd (Ga.o.belowS hb);have Ba:=Hd (Aa.o.trans (hb.mono Aa.o.size));clear Ga Aa;clear hb
    cases o4 with
    | false=>
     go_wp2;go_ret;exact⟨by simp,Ba.o⟩
    | true=>
     have Ra:=Ha.o.c 16;have Ca:=Ha.o.c 17
     cases jg with
     | false=>
      go_wp2;go_ret;exact⟨by simp,Ba.o⟩
     | true=>
      (go_wp2_with fail);clear Ra Ca;refine(C5 _ (HZ.o.below Ba.o)).mono ?_;rintro e we ⟨rfl,hb⟩;have La:=Hd (Ha.o.belowS hb);have Da:=Hd (Ba.o.trans (hb.mono Ba.o.size));clear Ha Ba;clear hb
      cases o5 with
      | true=>
       go_wp2;go_ret;exact⟨by simp,Da.o⟩
      | false=>
       have Ca:=La.o.c 17;(go_wp2_with fail);refine(C6 _ Ca (HZ.o.below Da.o)).mono ?_;rintro e wf ⟨rfl,hb⟩;have Sa:=Hd (Da.o.trans (hb.mono Da.o.size));clear La Da;clear hb;go_wp2;go_ret;exact⟨by simp,Sa.o⟩
section
variable {P:Program} {ops:Array Oper} {rest:List Oper} {o:Oper} {a:Act} {w:World} {Q:Exit→Act→World→Prop}
theorem kD(hw:Region.wanted o (yielded ops a.tmps)=true)
 (h:∀K:Act→World→Prop,(∀a w,wpList P ops Q rest a w→K a w)→o.wp P a w K Q):wpList P ops Q (o::rest) a w:=
 wpList_step fun K hK=>by simp only[hw,if_true];exact h K hK
theorem bz(hw:Region.wanted o (yielded ops a.tmps)=true)(ty:TypeId)(x:Operand)(ho:o.op=.load ty x)
 (b i:Nat)(hx:a.eval x=.pointer (some ⟨b,i,none⟩))(cs:List Value)(d:TypeDesc)(hc:w.rangeAt b i cs)
 (hu:P.underlying ty=some d)(hd:d.isRow=true)(hi:(P.info? ty).map (·.size)=some cs.length)
 (h:wpList P ops Q rest (a.put o.dst (.agg cs.toArray)) w):wpList P ops Q (o::rest) a w:=
 kD hw fun _ hK=>wp_load_mid ty x ho b i hx cs d hc hu hd hi (hK _ _ h)
end
section
open Go.ChangeMaps Go.MapKept
def o9(n:Nat):List (Int×Value)→List MapEntry
 | []=>[]
 | x::l=>⟨it x.1,x.2,n⟩::o9 (n+1) l
def fw(k:Int):List (Int×Value)→Option Value
 | []=>none
 | x::l=>if k=x.1 then some x.2 else fw k l
theorem pd(n:Nat)(l:List (Int×Value))(x:Int×Value):o9 n (l++[x])=o9 n l++[⟨.int .i64 x.1,x.2,n+l.length⟩]:=by
 induction l generalizing n with
 | nil=>rfl
 | cons y l ih=>simp only[List.cons_append,o9,ih,List.length_cons,Nat.add_assoc,Nat.add_comm 1]
theorem eD{k:Int}:∀(l:List (Int×Value)) (n i:Nat),fw k l=none→Instr.findNow (.int .i64) (.int .i64 k) (o9 n l) i=some none
 | [],_,_,_=>rfl
 | x::l,n,i,h=>by
  simp only[fw]at h
  split at h
  ·simp at h
  ·
   rename_i hk;simp only[o9,Instr.findNow,Instr.sameNow,if_true];rw[show(k==x.1)=false by simp[hk]];exact eD l (n+1) (i+1) h
theorem fW{k:Int}:∀(l:List (Int×Value)) (n i:Nat),fw k l=some v→∃j,Instr.findNow (.int .i64) (.int .i64 k) (o9 n l) i=some (some (j,v))
 | [],_,_,h=>by simp[fw]at h
 | x::l,n,i,h=>by
  simp only[fw]at h
  split at h
  ·
   rename_i hk;simp only[o9,Instr.findNow,Instr.sameNow,if_true];rw[show(k==x.1)=true by simp[hk]];exact⟨i,by simpa using h⟩
  ·
   rename_i hk;simp only[o9,Instr.findNow,Instr.sameNow,if_true];rw[show(k==x.1)=false by simp[hk]];exact fW l (n+1) (i+1) h
def bN(w:World)(b:Nat)(l:List (Int×Value)):Prop:=w.heap[b]?=some (.map (o9 0 l).toArray l.length)
theorem bN.lt(h:bN w b l):b<w.heap.size:=by
 rcases Nat.lt_or_ge b w.heap.size with hl | hl
 ·exact hl
 ·unfold bN at h;rw[Array.getElem?_eq_none hl]at h;simp at h
theorem qC(w:World):bN (w.alloc (.map #[] 0)) w.heap.size []:=by
 show(w.heap.push _)[w.heap.size]?=_;simp[o9]
theorem bN.below(h:bN w b l)(hb:Below w.heap.size w w'):bN w' b l:=(hb.block b h.lt).trans h
theorem bN.grown{row:Option Nat}(h:bN w b l)(hg:w.grownBy w' row)(hne:row≠some b):bN w' b l:=(hg.block b h.lt (fun e=>hne e.symm)).trans h
theorem bN.alloc(h:bN w b l)(o:Obj):bN (w.alloc o) b l:=h.grown (tO w o none) (by simp)
theorem bN.setCell(h:bN w b l)(p:Addr)(v:Value):bN (w.setCell p v) b l:=by
 unfold bN at h ⊢;by_cases e:p.block=b
 ·
  subst e;simp[World.setCell,Array.getElem?_modify,h]
 ·simp[World.setCell,Array.getElem?_modify,h,e]
theorem bN.put(h:bN w b l)(ht:P.underlying t=some (.map k e))(hk:P.underlying k=some (.int .i64))(key:Int)(v:Value)(hn:fw key l=none):
  ∃w',(Instr.mapUpdate t (.map (some b)) (.int .i64 key) v).run P w=.ok () w'∧bN w' b (l++[(key,v)])∧w.grownBy w' (some b):=by
 have hf:(Instr.findKey k (it key) (o9 0 l)).run P w=.ok none w:=by
  simp[Instr.findKey,run_underlying hk,eD l 0 0 hn,Result.andThen]
 refine⟨setBlock w b (.map ((o9 0 l).toArray.push ⟨it key,v,l.length⟩) (l.length+1)),?_,?_,⟨rfl,rfl,rfl,by simp[setBlock],fun i _ hi=>heap_setBlock_other h _ (fun e=>hi (by rw[e]))⟩⟩
 ·simp[Instr.mapUpdate,run_underlying ht,MapKept.run_getObj_map h,run_checkKey hk (show IsKey (.int .i64) (it key)from rfl) false 9999,hf,MapKept.run_setObj_map _ h,Result.andThen,setBlock]
 ·
  unfold bN;rw[heap_setBlock_same h,pd,Nat.zero_add];simp
theorem bN.get(h:bN w b l)(ht:P.underlying t=some (.map k e))(hk:P.underlying k=some (.int .i64))(key:Int)(v:Value)(hn:fw key l=some v)(ok:Bool):
  (Instr.lookup t (.map (some b)) (.int .i64 key) ok).run P w=.ok (if ok then .tuple #[v,.bool true]else v) w:=by
 obtain⟨j,hj⟩:=fW l 0 0 hn
 have hf:(Instr.findKey k (it key) (o9 0 l)).run P w=.ok (some (j,v)) w:=by
  simp[Instr.findKey,run_underlying hk,hj,Result.andThen]
 cases ok <;> simp[Instr.lookup,run_underlying ht,MapKept.run_getObj_map h,run_checkKey hk (show IsKey (.int .i64) (it key)from rfl) _ 9999,hf,Result.andThen]
theorem bN.miss(h:bN w b l)(ht:P.underlying t=some (.map k e))(hk:P.underlying k=some (.int .i64))(key:Int){z:Value}(hz:(zeroValue e).run P w=.ok z w)(hn:fw key l=none)(ok:Bool):
  (Instr.lookup t (.map (some b)) (.int .i64 key) ok).run P w=.ok (if ok then .tuple #[z,.bool false]else z) w:=by
 have hf:(Instr.findKey k (it key) (o9 0 l)).run P w=.ok none w:=by
  simp[Instr.findKey,run_underlying hk,eD l 0 0 hn,Result.andThen]
 cases ok <;> simp[Instr.lookup,run_underlying ht,MapKept.run_getObj_map h,run_checkKey hk (show IsKey (.int .i64) (it key)from rfl) _ 9999,hf,hz,Result.andThen]
end
def M.jobAt(id:Int)(k:Nat):List M.Jb→Int
 | []=>-1
 | j::l=>if j.id=id then(k:Int)else M.jobAt id (k+1) l
theorem kU{js:List M.Jb}(now tj id:Int)(w:World)(hz:dp w aj nj cj js):
  Rt 44 #[.agg #[.int .i64 now,.int .i64 tj,.slice ab nb cb,.slice aj nj cj],.int .i64 id] w (.int .i64 (M.jobAt id 0 js)):=by
 have bn:(nj:Int)≤9223372036854775807:=(by have:=hz.big;have:=hz.le;omega);have Fa:(nj:Int)≤cj:=(by have:=hz.le;omega);have Da:=cz w (au now tj ab nb cb aj nj cj) 27;have Aa:H9 (Below w.heap.size w (w.alloc (.cells (au now tj ab nb cb aj nj cj).toArray 27))):=(tv _ _).alloc (tr _) _;have HZ:H9 (dp (w.alloc (.cells (au now tj ab nb cb aj nj cj).toArray 27)) aj nj cj js):=hz.below Aa.o;generalize hR:M.jobAt id 0 js=R;have HR:=Hd (hR);clear hR hz;go_enter func44,ntmps44;go_wp2;generalize(w.alloc (.cells (au now tj ab nb cb aj nj cj).toArray 27))=w1 at *;have x3:=Da.o.c 3
 go_loop [5] (fun i=>∃k:Nat,k≤nj∧i=it k∧M.jobAt id k (js.drop k)=R) (fun i=>nj-(intOf i).toNat)
 case atStart=>exact⟨0,by omega,rfl,HR.o⟩
 case round=>
  obtain⟨k,hk,rfl,hg⟩:=hrel;by_cases Ba:k<nj
  ·
   obtain⟨b1,o1,rfl,Ca⟩:=HZ.o.at (by omega);obtain⟨ta,tc,hA,_⟩:=Ca k Ba;have c1:w1.cell? ⟨b1,o1+k*18,none⟩=some (it (js.getD k M.j0).id):=hA 0 (by omega)
   have hG:(if(js.getD k M.j0).id=id then(k:Int)else M.jobAt id (k+1) (js.drop (k+1)))=R:=by
    rw[←hg,aQ M.j0 HZ.o.len Ba];rfl
   generalize(js.getD k M.j0).id=x at c1 hG;clear Ca hA hg;have hI:(k:Int)<(nj:Int):=(by omega);by_cases hx:x=id
   ·
    have hb:(x==id)=true:=(by simp[hx]);have HF:H9 ((k:Int)=R):=(by show _=_;rw[if_pos hx]at hG;exact hG);clear hx hG;go_wp2;go_ret;exact⟨by rw[←HF.o];rfl,Aa.o⟩
   ·
    have hb:(x==id)=false:=(by simp[hx]);have Ea:H9 (M.jobAt id (k+1) (js.drop (k+1))=R):=(by show _=_;rw[if_neg hx]at hG;exact hG);clear hx hG;go_wp2
    go_round
    case rel=>exact⟨k+1,by omega,by go_num,Ea.o⟩
    case measure=>simp[intOf];omega
  ·
   have HF:H9 (-1=R):=(by show _=_;rw[tC (by rw[HZ.o.len];omega)]at hg;exact hg);clear hg;go_wp2;go_ret;exact⟨by rw[←HF.o];rfl,Aa.o⟩
def M.jobOf(id:Int)(js:List M.Jb):M.Jb:=js.getD (M.jobAt id 0 js).toNat M.j0
theorem M.jobAt_some(id:Int):∀(js:List M.Jb) (k:Nat),0≤M.jobAt id k js→∃i,i<js.length∧M.jobAt id k js=((k+i:Nat):Int)∧(js.getD i M.j0).id=id
 | [],k,h=>by unfold M.jobAt at h;omega
 | j::l,k,h=>by
  unfold M.jobAt at h ⊢;by_cases e:j.id=id
  ·rw[if_pos e];exact⟨0,by simp,rfl,e⟩
  ·
   rw[if_neg e]at h ⊢;obtain⟨i,h1,h2,h3⟩:=M.jobAt_some id l (k+1) h;refine⟨i+1,by simpa using h1,?_,h3⟩;rw[h2];congr 1;omega
theorem fg(now tj who:Int)(w:World)(hz:ah w ab nb cb bs):
  Rt 46 #[.agg #[.int .i64 now,.int .i64 tj,.slice ab nb cb,.slice aj nj cj],.int .i64 who] w (.bool (bs.contains who)):=by
 have bn:(nb:Int)≤9223372036854775807:=(by have:=hz.big;have:=hz.le;omega);have Ga:(nb:Int)≤cb:=(by have:=hz.le;omega);have Da:=cz w (au now tj ab nb cb aj nj cj) 27;have Aa:H9 (Below w.heap.size w (w.alloc (.cells (au now tj ab nb cb aj nj cj).toArray 27))):=(tv _ _).alloc (tr _) _;have HZ:H9 (ah (w.alloc (.cells (au now tj ab nb cb aj nj cj).toArray 27)) ab nb cb bs):=hz.below Aa.o;generalize hR:bs.contains who=R;have HR:=Hd (hR);clear hR hz;go_enter func46,ntmps46;go_wp2;generalize(w.alloc (.cells (au now tj ab nb cb aj nj cj).toArray 27))=w1 at *;have x2:=Da.o.c 2
 go_loop [5] (fun i=>∃k:Nat,k≤nb∧i=it k∧(bs.drop k).contains who=R) (fun i=>nb-(intOf i).toNat)
 case atStart=>exact⟨0,by omega,rfl,HR.o⟩
 case round=>
  obtain⟨k,hk,rfl,hg⟩:=hrel;by_cases Ba:k<nb
  ·
   obtain⟨b1,o1,rfl,Ca⟩:=HZ.o.at (by omega);have c1:=Ca k Ba
   have hG:(who==bs.getD k 0||(bs.drop (k+1)).contains who)=R:=by
    rw[←hg,aQ 0 HZ.o.len Ba,List.contains_cons]
   generalize bs.getD k 0=x at c1 hG;have HG:=Hd (hG);clear Ca hg hG;have hI:(k:Int)<(nb:Int):=(by omega);by_cases hx:who=x
   ·
    have hb:(who==x)=true:=(by simp[hx]);have Ea:(x==who)=true:=(by simp[hx]);have HT:H9 (true=R):=(by show _=_;have:=HG.o;rw[hb,Bool.true_or]at this;exact this);clear hx;go_wp2;go_ret;exact⟨ag HT.o,Aa.o⟩
   ·
    have hb:(who==x)=false:=(by simp[hx]);have Ea:(x==who)=false:=(by simp;exact fun e=>hx e.symm);have Fa:H9 ((bs.drop (k+1)).contains who=R):=(by show _=_;have:=HG.o;rw[hb,Bool.false_or]at this;exact this);clear hx;go_wp2
    go_round
    case rel=>exact⟨k+1,by omega,by go_num,Fa.o⟩
    case measure=>simp[intOf];omega
  ·
   go_wp2;go_ret;refine⟨ag ?_,Aa.o⟩;rw[tC (by rw[HZ.o.len];omega)]at hg;exact hg
theorem iB(jid a b c d f k a' b' c' d' f' k' s1 s2 jr:Int)(jg:Bool)(w:World)(hz:aY w ta tn tc tl):
  Rt 45 #[.agg #[.int .i64 jid,.int .i64 a,.int .i64 b,.int .i64 c,.int .i64 d,.int .i64 f,.int .i64 k,.int .i64 a',.int .i64 b',.int .i64 c',.int .i64 d',.int .i64 f',.int .i64 k',.int .i64 s1,.int .i64 s2,.int .i64 jr,.bool jg,.slice ta tn tc]] w (.bool (tl.all (·.done))):=by
 have bn:(tn:Int)≤9223372036854775807:=(by have:=hz.big;have:=hz.le;omega);have Fa:(tn:Int)≤tc:=(by have:=hz.le;omega);have Da:=cz w (br jid a b c d f k a' b' c' d' f' k' s1 s2 jr jg ta tn tc) 45;have Aa:H9 (Below w.heap.size w (w.alloc (.cells (br jid a b c d f k a' b' c' d' f' k' s1 s2 jr jg ta tn tc).toArray 45))):=(tv _ _).alloc (tr _) _;have HZ:H9 (aY (w.alloc (.cells (br jid a b c d f k a' b' c' d' f' k' s1 s2 jr jg ta tn tc).toArray 45)) ta tn tc tl):=hz.below Aa.o;generalize hR:tl.all (·.done)=R;have HR:=Hd (hR);clear hR hz;go_enter func45,ntmps45;go_wp2;generalize w.alloc (.cells (br jid a b c d f k a' b' c' d' f' k' s1 s2 jr jg ta tn tc).toArray 45)=w1 at *;have Ga:=Da.o.c 17
 go_loop [3] (fun i=>∃q:Nat,q≤tn∧i=it q∧(tl.drop q).all (·.done)=R) (fun i=>tn-(intOf i).toNat)
 case atStart=>exact⟨0,by omega,rfl,HR.o⟩
 case round=>
  obtain⟨q,hq,rfl,hg⟩:=hrel;by_cases Ba:q<tn
  ·
   obtain⟨b1,o1,rfl,Ca⟩:=HZ.o.at (by omega);have c1:w1.cell? ⟨b1,o1+q*3,none⟩=some (.bool (tl.getD q M.t0).done):=Ca q Ba 0 (by omega)
   have hG:((tl.getD q M.t0).done&&(tl.drop (q+1)).all (·.done))=R:=by
    rw[←hg,aQ M.t0 HZ.o.len Ba,List.all_cons]
   generalize(tl.getD q M.t0).done=x at c1 hG;have HG:=Hd (hG);clear Ca hg hG;have hI:(q:Int)<(tn:Int):=by omega
   cases x with
   | false=>
    go_wp2;go_ret;exact⟨ag HG.o,Aa.o⟩
   | true=>
    have Ea:H9 ((tl.drop (q+1)).all (·.done)=R):=(by show _=_;have:=HG.o;rw[Bool.true_and]at this;exact this);go_wp2
    go_round
    case rel=>exact⟨q+1,by omega,by go_num,Ea.o⟩
    case measure=>simp[intOf];omega
  ·
   go_wp2;go_ret;refine⟨ag ?_,Aa.o⟩;rw[tC (by rw[HZ.o.len];omega)]at hg;exact hg
set_option maxRecDepth 10000 in
theorem o8(now tj:Int)(tk:M.Tk)(h0:0≤now)(h1:now≤1000000000)(w:World)(hz:ah w ab nb cb bs):
  Rt 101 #[.agg #[.int .i64 now,.int .i64 tj,.slice ab nb cb,.slice aj nj cj],ia tk] w (.bool (M.spK now bs tk)):=by
 obtain⟨td,x,y⟩:=tk;unfold M.spK;dsimp only[ia];have C1:=cP x 1 9;have C2:∀W,ah W ab nb cb bs→Rt 46 #[.agg (au now tj ab nb cb aj nj cj).toArray,it x] W (.bool (bs.contains x)):=fun W h=>fg now tj x W h;have HZ:=Hd (hz)
 change∀w,Rq 58 #[.int .i64 x,.int .i64 1,.int .i64 9] w (.bool (M.wkOk x))at C1
 generalize bs.contains x=o2 at *;generalize M.wkOk x=o1 at *;clear hz;by_cases hd:td=true∨x=0
 ·
  have hc:(td||decide (x=0))=true:=(by rcases hd with e | e <;> simp[e]);rw[if_pos hc]
  rcases hd with rfl | rfl
  ·
   by_cases hx:x=0
   ·
    subst hx;go_enter func101,ntmps101;go_wp2;go_ret;exact⟨by by_cases hy:y=0 <;> simp[hy],((tv _ _).alloc (tr _) _).alloc (by simp) _⟩
   ·
    have gx:(x==0)=false:=(by simp[hx]);go_enter func101,ntmps101;go_wp2;go_ret;exact⟨by simp[hx],((tv _ _).alloc (tr _) _).alloc (by simp) _⟩
  ·
   cases td with
   | true=>
    go_enter func101,ntmps101;go_wp2;go_ret;exact⟨by by_cases hy:y=0 <;> simp[hy],((tv _ _).alloc (tr _) _).alloc (by simp) _⟩
   | false=>
    go_enter func101,ntmps101;go_wp2;go_ret;exact⟨by by_cases hy:y=0 <;> simp[hy],((tv _ _).alloc (tr _) _).alloc (by simp) _⟩
 ·
  have hx:¬ x=0:=fun e=>hd (.inr e)
  have Fa:td=false:=by cases td with
   | false=>rfl
   | true=>exact absurd (.inl rfl) hd
  subst Fa;rw[if_neg (by simp[hx])];have gx:(x==0)=false:=(by simp[hx]);clear hd;go_enter func101,ntmps101;have Aa:H9 (ae ((w.alloc (.cells (au now tj ab nb cb aj nj cj).toArray 27)).alloc (.cells #[.bool false,it x,it y] 47)) w.heap.size (au now tj ab nb cb aj nj cj)):=(aI _ _ _).alloc _;have Ca:H9 (ae ((w.alloc (.cells (au now tj ab nb cb aj nj cj).toArray 27)).alloc (.cells #[.bool false,it x,it y] 47)) (w.heap.size+1) [.bool false,it x,it y]):=aO _ _ _ _;have Ba:H9 (Below w.heap.size w ((w.alloc (.cells (au now tj ab nb cb aj nj cj).toArray 27)).alloc (.cells #[.bool false,it x,it y] 47))):=((tv _ _).alloc (tr _) _).alloc (by simp) _;(go_wp2_with fail);generalize((w.alloc (.cells (au now tj ab nb cb aj nj cj).toArray 27)).alloc (.cells #[.bool false,it x,it y] 47))=wa at *;refine(C1 _).mono ?_;rintro e wz ⟨rfl,Ea⟩;have Ga:=Ea.symm;clear Ea;subst Ga
  cases o1 with
  | false=>
   go_wp2;go_ret;exact⟨by simp,Ba.o⟩
  | true=>
   have x0:=Aa.o.c 0;have x1:=Aa.o.c 1;have x2:=Aa.o.c 2;have x3:=Aa.o.c 3;have y1:=Ca.o.c 1;(go_wp2_with fail);clear x0 x1 x2 x3 y1;refine(C2 _ (HZ.o.below Ba.o)).mono ?_;rintro e wb ⟨rfl,hb⟩;have Ha:=Hd (Aa.o.belowS hb);have Ia:=Hd (Ca.o.belowS hb);have Da:=Hd (Ba.o.trans (hb.mono Ba.o.size));clear Aa Ca Ba;clear hb
   cases o2 with
   | true=>
    go_wp2;go_ret;exact⟨by simp,Da.o⟩
   | false=>
    have x0:=Ha.o.c 0;have y2:=Ia.o.c 2;by_cases h2:now<y
    ·
     go_wp2;go_ret;exact⟨by simp[h2],Da.o⟩
    ·
     go_wp2;go_ret;exact⟨by simp;omega,Da.o⟩
theorem ae.mid{W:World}{vs:List Value}(h:ae W b vs)(o n:Nat):W.rangeAt b o ((vs.drop o).take n):=h.range o _ fun j v hv=>by
 rw[List.getElem?_take]at hv
 split at hv
 ·rwa[List.getElem?_drop]at hv
 ·cases hv
def sQ(ops:Array Oper)(o:Oper)(a:Act):Option Value:=
 if Region.wanted o (yielded ops a.tmps)then
  match o.op with
  | .pick x y z=>match a.eval x with
   | .bool true=>some (a.eval y)
   | .bool false=>some (a.eval z)
   | _=>none
  | .move x=>some (a.eval x)
  | _=>none
 else some undef
theorem nl{o:Oper}{a:Act}(h:sQ ops o a=some v):YieldsIf P ops S o v a:=by
 unfold sQ at h;by_cases hw:Region.wanted o (yielded ops a.tmps)=true
 ·
  rw[if_pos hw]at h;refine .inl ⟨hw,fun w _=>?_⟩
  split at h
  ·
   rename_i x y z ho
   split at h
   ·
    rename_i hx;injection h with h;subst h;simp[execOp,ho,hx,asBool]
   ·
    rename_i hx;injection h with h;subst h;simp[execOp,ho,hx,asBool]
   ·cases h
  ·
   rename_i x ho;injection h with h;subst h;simp[execOp,ho]
  ·cases h
 ·
  rw[if_neg hw]at h;injection h with h;exact .inr ⟨by simpa using hw,h.symm⟩
def ru(md:Region.Mode)(ops:Array Oper):List Nat→Array Bool→Act→Option Act
 | [],th,a=>if Region.ready md ops th=[]then some a else none
 | i::l,th,a=>
  match ops[i]? with
  | none=>none
  | some o=>
   if Region.free md ops th i=true∧(Region.ready md ops th).contains i=true then
    match sQ ops o a with
    | some v=>ru md ops l (th.setIfInBounds i true) (a.put o.dst v)
    | none=>none
   else none
theorem ke(hs:Region.noSelect ops=true)(hQ:∀c a a' w,Q (.panic c) a' w→Q (.panic c) a w)(hS:S w):
  ∀(l:List Nat) (tg:Nat) (th:Array Bool) (a:Act) {a':Act},l.length≤tg→ru md ops l th a=some a'→Q .normal a' w→wpAnyH P md ops Q S tg th a w
 | [],tg,th,a,a',_,h,k=>by
  unfold ru at h
  split at h
  ·
   rename_i hr;injection h with h;subst h;exact wpAnyH_done hr k tg
  ·cases h
 | i::l,0,th,a,a',hf,h,k=>by simp at hf
 | i::l,tg+1,th,a,a',hf,h,k=>by
  unfold ru at h
  split at h
  ·cases h
  ·
   rename_i o ho
   split at h
   ·
    rename_i hc
    split at h
    ·
     rename_i v hv;exact wpAnyH_take ho hs hc.1 hc.2 (fun c a w=>hQ c _ _ w) (nl hv) hS (ke hs hQ hS l tg _ _ (by simpa using hf) h k)
    ·cases h
   ·cases h
theorem cD{tg:Nat}{th:Array Bool}{a:Act}(l:List Nat)(ps:List (Nat×Value))(hs:Region.noSelect ops=true)(hQ:∀c a a' w,Q (.panic c) a' w→Q (.panic c) a w)(hS:S w)(hf:l.length≤tg)
 (h:ru md ops l th a=some (ps.foldl (fun a p=>a.put (some p.1) p.2) a))(k:Q .normal (ps.foldl (fun a p=>a.put (some p.1) p.2) a) w):wpAnyH P md ops Q S tg th a w:=ke hs hQ hS l tg th a hf h k
end Go.Proofs.YtjcjonncaknhnaaGreatDoor
