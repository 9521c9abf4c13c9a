import Derived.Deep.RegionWith
import Derived.BigRegion
import Derived.Deep.RegionHeld3
import Derived.Test.YtfhknkppiidnkaaGreatPk00
import Derived.Test.YtfhknkppiidnkaaGreatPk01
import Derived.Test.YtfhknkppiidnkaaGreatPk03
namespace Go.Proofs.YtfhknkppiidnkaaGreat
open Go.RowKit
namespace M
def wkOk (x:Int):Bool:=decide (1≤x) && decide (x≤9)
def bnGo (last:Int):List Int→Bool
 | []=>true
 | x::l=>(decide (last<x) && wkOk x) && bnGo x l
def tkOk (now:Int) (t:Tk):Bool:=(decide (t.worker=0) && decide (t.due=0)) || (!t.done && (wkOk t.worker && (decide (now+1≤t.due) && decide (t.due≤now+5))))
def leased (t:Tk):Bool:=decide (t.worker≠0)
def jbOk (now:Int) (j:Jb):Bool:=(j.m.ok && (M.sOk j.s && (M.rows j.rows && (decide (1≤j.ts.length) && (decide (j.ts.length≤8) && j.ts.all (tkOk now)))))) && (!j.gone || (!j.ts.any leased && !j.ts.all (·.done)))
def jsGo (now next last:Int):List Jb→Bool
 | []=>true
 | j::l=>((decide (last+1≤j.id) && decide (j.id≤next-1)) && jbOk now j) && jsGo now next j.id l
def wkT (ts:List Tk):List Int:=(ts.filter leased).map (·.worker)
def wks (js:List Jb):List Int:=js.flatMap fun j=>wkT j.ts
def mkOk (now next:Int) (bs:List Int) (js:List Jb):Bool:=
 (decide (0≤now) && decide (now≤1000000000)) && ((decide (1≤next) && decide (next≤1000000000)) && (bnGo 0 bs && ((decide (js.length≤6) && jsGo now next 0 js) && (decide (wks js).Nodup && !(wks js).any (fun x=>bs.contains x)))))
def spK (now:Int) (bs:List Int) (t:Tk):Bool:=if t.done || decide (t.worker=0) then decide (t.worker=0) && decide (t.due=0) else wkOk t.worker && (!bs.contains t.worker && (decide (now<t.due) && decide (t.due≤now+5)))
def spT (now:Int) (bs:List Int) (gone:Bool) (busy:List Int):List Tk→Bool
 | []=>true
 | t::l=>((spK now bs t && !(gone && leased t)) && !(leased t && busy.contains t.worker)) && spT now bs gone (busy++[t.worker]) l
def spH (next last:Int) (j:Jb):Bool:=(decide (1≤j.id) && decide (j.id≤1000000000)) && (decide (j.id<next) && (decide (last<j.id) && (j.m.ok && (M.sOk j.s && (M.rows j.rows && (decide (1≤j.ts.length) && decide (j.ts.length≤8)))))))
def spJ (now next:Int) (bs:List Int) (last:Int) (busy:List Int):List Jb→Bool
 | []=>true
 | j::l=>(spH next last j && (spT now bs j.gone busy j.ts && !(j.gone && j.ts.all (·.done)))) && spJ now next bs j.id (busy++j.ts.map (·.worker)) l
def spOk (now next:Int) (bs:List Int) (js:List Jb):Bool:=
 (decide (0≤now) && decide (now≤1000000000)) && ((decide (1≤next) && decide (next≤1000000000)) && (decide (js.length≤6) && (decide (bs.length≤9) && (bnGo 0 bs && spJ now next bs 0 [] js))))
theorem bnGo_len : ∀ (bs:List Int) (last:Int),0≤last→bnGo last bs=true→(bs.length:Int)+last≤9∨bs=[]
 | [],_,_,_=>.inr rfl
 | x::l,last,h0,h=>by
  unfold bnGo wkOk at h;simp only [Bool.and_eq_true,decide_eq_true_eq] at h;obtain ⟨⟨h1,h2,h3⟩,h4⟩:=h
  left
  rcases bnGo_len l x (by omega) h4 with e | e
  · rw [List.length_cons];omega
  · subst e;simp;omega
theorem spK_iff (now:Int) (bs:List Int) (t:Tk):spK now bs t=true↔tkOk now t=true∧(leased t=true→t.worker∉bs):=by
 unfold spK tkOk leased wkOk;by_cases hd:t.done=true <;> by_cases hw:t.worker=0 <;> simp [hd,hw]
 constructor
 · rintro ⟨h1,h2,h3,h4⟩;exact ⟨⟨h1,by omega,h4⟩,h2⟩
 · rintro ⟨⟨h1,h3,h4⟩,h2⟩;exact ⟨h1,h2,by omega,h4⟩
theorem wkT_cons (t:Tk) (l:List Tk):wkT (t::l)=if leased t=true then t.worker::wkT l else wkT l:=by
 unfold wkT;rw [List.filter_cons];by_cases h:leased t=true <;> simp [h]
theorem wkT_ne {ts:List Tk} {x:Int} (h:x∈wkT ts):x≠0:=by
 unfold wkT at h;obtain ⟨t,ht,rfl⟩:=List.mem_map.1 h;have:=(List.mem_filter.1 ht).2;unfold leased at this;simpa using this
theorem wkT_mem {ts:List Tk} {x:Int}:x∈wkT ts↔x≠0∧x∈ts.map (·.worker):=by
 unfold wkT leased;simp only [List.mem_map,List.mem_filter,decide_eq_true_eq]
 constructor
 · rintro ⟨t,⟨h1,h2⟩,rfl⟩;exact ⟨h2,t,h1,rfl⟩
 · rintro ⟨h2,t,h1,rfl⟩;exact ⟨t,⟨h1,h2⟩,rfl⟩
theorem spT_iff (now:Int) (bs:List Int) (gone:Bool):∀ (ts:List Tk) (busy:List Int),spT now bs gone busy ts=true ↔
  (∀ t∈ts,tkOk now t=true)∧(gone=true→∀ t∈ts,leased t=false)∧(wkT ts).Nodup∧(∀ x∈wkT ts,x∉busy)∧(∀ x∈wkT ts,x∉bs)
 | [],busy=>by simp [spT,wkT]
 | t::l,busy=>by
  unfold spT;rw [Bool.and_eq_true,Bool.and_eq_true,Bool.and_eq_true,spK_iff,spT_iff now bs gone l];rw [wkT_cons];by_cases hl:leased t=true
  ·
   have hw:t.worker≠0:=(by unfold leased at hl;simpa using hl);rw [if_pos hl];simp only [hl,List.mem_cons,forall_eq_or_imp,List.nodup_cons,Bool.and_true,Bool.true_and,Bool.not_eq_true',List.contains_eq_mem,decide_eq_false_iff_not,List.mem_append,List.not_mem_nil,or_false,not_or]
   constructor
   ·
    rintro ⟨⟨⟨⟨h1,h2⟩,h3⟩,h4⟩,h5,h6,h7,h8,h9⟩;exact ⟨⟨h1,h5⟩,fun hg=>by simp [hg] at h3,⟨fun hm=>(h8 _ hm).2 rfl,h7⟩,⟨h4,fun x hx=>(h8 x hx).1⟩,h2 trivial,h9⟩
   ·
    rintro ⟨⟨h1,h5⟩,h3,⟨h4,h7⟩,⟨h6,h8⟩,h2,h9⟩;refine ⟨⟨⟨⟨h1,fun _=>h2⟩,?_⟩,h6⟩,h5,fun hg=>(h3 hg).2,h7,fun x hx=>⟨h8 x hx,fun e=>h4 (e ▸ hx)⟩,h9⟩
    cases gone
    · rfl
    · exact absurd (h3 rfl).1 (by simp)
  ·
   have hf:leased t=false:=(by simpa using hl);have hw:t.worker=0:=(by unfold leased at hf;simpa using hf);rw [if_neg hl];simp only [hf,List.mem_cons,forall_eq_or_imp,Bool.and_false,Bool.false_and,Bool.not_false,and_true,true_and,Bool.false_eq_true,false_implies,List.mem_append,List.not_mem_nil,or_false,not_or]
   constructor
   ·
    rintro ⟨h1,h5,h6,h7,h8,h9⟩;exact ⟨⟨h1,h5⟩,h6,h7,fun x hx=>(h8 x hx).1,h9⟩
   ·
    rintro ⟨⟨h1,h5⟩,h6,h7,h8,h9⟩;exact ⟨h1,h5,h6,h7,fun x hx=>⟨h8 x hx,fun e=>wkT_ne hx (e.trans hw)⟩,h9⟩
theorem spJ_iff (now next:Int) (bs:List Int) (hn:next≤1000000000):∀ (js:List Jb) (last:Int) (busy:List Int),0≤last→(spJ now next bs last busy js=true ↔
  jsGo now next last js=true∧(wks js).Nodup∧(∀ x∈wks js,x∉busy)∧(∀ x∈wks js,x∉bs))
 | [],_,_,_=>by simp [spJ,jsGo,wks]
 | j::l,last,busy,h0=>by
  by_cases hid:last+1≤j.id∧j.id≤next-1
  ·
   have ih:=spJ_iff now next bs hn l j.id (busy++j.ts.map (·.worker)) (by omega);unfold spJ jsGo;have hw:wks (j::l)=wkT j.ts++wks l:=by simp [wks]
   have hh:spH next last j=(j.m.ok && (M.sOk j.s && (M.rows j.rows && (decide (1≤j.ts.length) && decide (j.ts.length≤8))))):=by
    unfold spH;rw [show decide (1≤j.id)=true by simp;omega,show decide (j.id≤1000000000)=true by simp;omega,show decide (j.id<next)=true by simp;omega,show decide (last<j.id)=true by simp;omega]
    rfl
   have Aa:∀ x∈wks l,x≠0:=fun x hx=>by
    unfold wks at hx;obtain ⟨q,_,hq⟩:=List.mem_flatMap.1 hx;exact wkT_ne hq
   rw [Bool.and_eq_true,Bool.and_eq_true,Bool.and_eq_true,spT_iff,ih,hh,hw,List.nodup_append];unfold jbOk;simp only [Bool.and_eq_true,decide_eq_true_eq,List.all_eq_true,Bool.or_eq_true,Bool.not_eq_true',List.mem_append,not_or];have Ba:j.ts.any leased=false↔∀ t∈j.ts,leased t=false:=(by simp);rw [Ba]
   constructor
   ·
    rintro ⟨⟨⟨a1,a2,a3,a4,a5⟩,⟨b1,b2,b3,b4,b5⟩,c⟩,d1,d2,d3,d4⟩;refine ⟨⟨⟨hid,⟨a1,a2,a3,a4,a5,b1⟩,?_⟩,d1⟩,⟨b3,d2,fun x hx y hy e=>?_⟩,?_,?_⟩
    ·
     cases hg:j.gone
     · exact .inl rfl
     · rw [hg] at c;exact .inr ⟨b2 hg,by simpa using c⟩
    · subst e;exact (d3 x hy).2 (wkT_mem.1 hx).2
    ·
     rintro x (h | h)
     · exact b4 x h
     · exact (d3 x h).1
    ·
     rintro x (h | h)
     · exact b5 x h
     · exact d4 x h
   ·
    rintro ⟨⟨⟨-,⟨a1,a2,a3,a4,a5,b1⟩,g⟩,d1⟩,⟨b3,d2,e⟩,f1,f2⟩;refine ⟨⟨⟨a1,a2,a3,a4,a5⟩,⟨b1,fun hg=>?_,b3,fun x hx=>f1 x (.inl hx),fun x hx=>f2 x (.inl hx)⟩,?_⟩,d1,d2,fun x hx=>⟨f1 x (.inr hx),fun hm=>e x (wkT_mem.2 ⟨Aa x hx,hm⟩) x hx rfl⟩,fun x hx=>f2 x (.inr hx)⟩
    ·
     rcases g with g | g
     · rw [hg] at g;cases g
     · exact g.1
    ·
     rcases g with g | g
     · rw [g];rfl
     · rw [g.2];simp
  ·
   constructor
   ·
    intro h;unfold spJ spH at h;simp only [Bool.and_eq_true,decide_eq_true_eq] at h;exact absurd ⟨by omega,by omega⟩ hid
   ·
    rintro ⟨h,-⟩;unfold jsGo at h;simp only [Bool.and_eq_true,decide_eq_true_eq] at h;exact absurd h.1.1 hid
theorem spOk_eq (now next:Int) (bs:List Int) (js:List Jb):spOk now next bs js=mkOk now next bs js:=by
 rw [Bool.eq_iff_iff];unfold spOk mkOk;simp only [Bool.and_eq_true,decide_eq_true_eq];have Aa:(!(wks js).any (fun x=>bs.contains x))=true↔∀ x∈wks js,x∉bs:=(by simp);rw [Aa]
 constructor
 ·
  rintro ⟨a,⟨b1,b2⟩,c,d,e,f⟩;obtain ⟨f1,f2,-,f4⟩:=(spJ_iff now next bs b2 js 0 [] (by omega)).1 f;exact ⟨a,⟨b1,b2⟩,e,⟨c,f1⟩,f2,f4⟩
 ·
  rintro ⟨a,⟨b1,b2⟩,e,⟨c,f1⟩,f2,f4⟩;refine ⟨a,⟨b1,b2⟩,c,?_,e,(spJ_iff now next bs b2 js 0 [] (by omega)).2 ⟨f1,f2,fun _ _=>List.not_mem_nil,f4⟩⟩
  rcases bnGo_len bs 0 (by omega) e with h | h
  · omega
  · subst h;simp
end M
theorem drop_step {α:Type} {l:List α} {k n:Nat} (d:α) (hl:l.length=n) (h:k<n):l.drop k=l.getD k d::l.drop (k+1):=by
 rw [List.drop_eq_getElem_cons (by omega),List.getD_eq_getElem?_getD,List.getElem?_eq_getElem (by omega)];rfl
theorem within_any (n lo hi:Int) (w:World):Calls Tryz.prog 118 #[.int .i64 n,.int .i64 lo,.int .i64 hi] w fun e w'=>e=.returned (.bool (decide (lo≤n) && decide (n≤hi)))∧w'=w:=by
 by_cases h1:lo≤n
 ·
  go_enter Tryz.func118,Tryz.ntmps118;go_wp2;go_ret;exact ⟨by simp [h1],rfl⟩
 ·
  go_enter Tryz.func118,Tryz.ntmps118;go_wp2;go_ret;exact ⟨by simp;omega,rfl⟩
theorem workerOk_any (n:Int) (w:World):Calls Tryz.prog 133 #[.int .i64 n] w fun e w'=>e=.returned (.bool (M.wkOk n))∧w'=w:=by
 go_enter Tryz.func133,Tryz.ntmps133;(go_wp2_with fail);refine (within_any _ _ _ _).mono ?_;rintro e wz ⟨rfl,rfl⟩;go_wp2;go_ret;exact ⟨rfl,rfl⟩
theorem isLeased_any (t:M.Tk) (w:World):Calls Tryz.prog 135 #[tkv t] w fun e w'=>e=.returned (.bool (M.leased t))∧Below w.heap.size w w':=by
 have h:M.leased t=(t.worker != 0):=(by unfold M.leased;by_cases e:t.worker=0 <;> simp [e]);rw [h];obtain ⟨d,x,y⟩:=t;dsimp only [tkv];have HB:H9 (Below w.heap.size w (w.alloc (.cells (v27' d x y).toArray 74))):=(Below.refl _ _).alloc (Nat.le_refl _) _;go_enter Tryz.func135,Tryz.ntmps135;go_wp2;go_ret;exact ⟨rfl,HB.o⟩
theorem bannedOk_any {a:Option Addr} {n c:Nat} {zs:List Int} (w:World) (hz:Sees w a n c zs) :
  Calls Tryz.prog 119 #[.slice a n c] w fun e w'=>e=.returned (.bool (M.bnGo 0 zs))∧w'=w:=by
 have bn:(n:Int)≤9223372036854775807:=(by have:=hz.big;have:=hz.le;omega);have HZ:=Hd (hz);clear hz;generalize hR:M.bnGo 0 zs=R;have HR:=Hd (hR);clear hR;go_enter Tryz.func119,Tryz.ntmps119;go_wp2
 go_loop [3,8] (fun l i=>∃ (k:Nat) (q:Int),k≤n∧i=it k∧l=it q∧M.bnGo q (zs.drop k)=R) (fun _ i=>n-(intOf i).toNat)
 case atStart=>exact ⟨0,0,by omega,rfl,rfl,HR.o⟩
 case round =>
  obtain ⟨k,q,hk,rfl,rfl,hg⟩:=hrel;by_cases Ba:k<n
  ·
   obtain ⟨b1,o1,rfl,Ca⟩:=HZ.o.at (by omega);have c1:=Ca k Ba
   have hG:((decide (q<zs.getD k 0) && M.wkOk (zs.getD k 0)) && M.bnGo (zs.getD k 0) (zs.drop (k+1)))=R:=by
    rw [← hg,drop_step 0 HZ.o.len Ba];rfl
   clear Ca hg;have C1:=workerOk_any (zs.getD k 0);generalize zs.getD k 0=x at c1 hG C1;have HG:=Hd (hG);clear hG;have hI:(k:Int)<(n:Int):=(by omega);by_cases hx:x≤q
   ·
    have Ea:H9 (false=R):=(by show false=R;have:=HG.o;rw [show decide (q<x)=false by simp;omega] at this;simpa using this);go_wp2;go_ret;exact ⟨ret_bool Ea.o,rfl⟩
   ·
    have hx':q<x:=(by omega);have Aa:H9 ((M.wkOk x && M.bnGo x (zs.drop (k+1)))=R):=(by show _=_;have:=HG.o;rw [show decide (q<x)=true by simp;omega] at this;simpa using this);clear HG;generalize M.wkOk x=ow at C1 Aa;(go_wp2_with fail);refine (C1 _).mono ?_;rintro e wz ⟨rfl,Da⟩;have Fa:=Da.symm;clear Da;subst Fa
    cases ow with
    | false =>
     go_wp2;go_ret;exact ⟨ret_bool Aa.o,rfl⟩
    | true =>
     have Ga:H9 (M.bnGo x (zs.drop (k+1))=R):=(by show _=_;have:=Aa.o;simpa using this);go_wp2
     go_round
     case rel=>exact ⟨k+1,x,by omega,by go_num,rfl,Ga.o⟩
     case measure=>simp [intOf];omega
  ·
   go_wp2;go_ret;refine ⟨ret_bool ?_,rfl⟩;rw [List.drop_of_length_le (by rw [HZ.o.len];omega)] at hg;exact hg
theorem taskOk_any (t:M.Tk) (now:Int) (h0:0≤now) (h1:now≤1000000000) (w:World):Calls Tryz.prog 153 #[tkv t,.int .i64 now] w fun e w'=>e=.returned (.bool (M.tkOk now t))∧Below w.heap.size w w':=by
 unfold M.tkOk;obtain ⟨d,x,y⟩:=t;dsimp only [tkv];have C1:=workerOk_any x;have C2:=within_any y (now+1) (now+5);have HB:H9 (Below w.heap.size w (w.alloc (.cells (v27' d x y).toArray 74))):=(Below.refl _ _).alloc (Nat.le_refl _) _;generalize M.wkOk x=ow at C1 ⊢;generalize (decide (now+1≤y) && decide (y≤now+5))=od at C2 ⊢;by_cases hx:x=0
 ·
  by_cases hy:y=0
  ·
   subst hx;subst hy;go_enter Tryz.func153,Tryz.ntmps153;go_wp2;go_ret;exact ⟨by simp,HB.o⟩
  ·
   subst hx;have gy:(y == 0)=false:=(by simp [hy]);go_enter Tryz.func153,Tryz.ntmps153
   cases d with
   | true =>
    go_wp2;go_ret;exact ⟨by simp;omega,HB.o⟩
   | false =>
    (go_wp2_with fail);refine (C1 _).mono ?_;rintro e wz ⟨rfl,Aa⟩;have Ba:=Aa.symm;clear Aa;subst Ba
    cases ow with
    | false =>
     go_wp2;go_ret;exact ⟨by simp;omega,HB.o⟩
    | true =>
     (go_wp2_with fail);refine (C2 _).mono ?_;rintro e wz ⟨rfl,Aa⟩;have Ba:=Aa.symm;clear Aa;subst Ba;go_wp2;go_ret;refine ⟨?_,HB.o⟩;have Ca:¬ y=0:=(by omega);simp [Ca]
 ·
  have gx:(x == 0)=false:=(by simp [hx]);go_enter Tryz.func153,Tryz.ntmps153
  cases d with
  | true =>
   go_wp2;go_ret;exact ⟨by simp;omega,HB.o⟩
  | false =>
   (go_wp2_with fail);refine (C1 _).mono ?_;rintro e wz ⟨rfl,Aa⟩;have Ba:=Aa.symm;clear Aa;subst Ba
   cases ow with
   | false =>
    go_wp2;go_ret;exact ⟨by simp;omega,HB.o⟩
   | true =>
    (go_wp2_with fail);refine (C2 _).mono ?_;rintro e wz ⟨rfl,Aa⟩;have Ba:=Aa.symm;clear Aa;subst Ba;go_wp2;go_ret;refine ⟨?_,HB.o⟩;have Ca:(decide (x=0) && decide (y=0))=false:=(by simp;omega);rw [Ca];simp
theorem tasksOk_any {a:Option Addr} {n c:Nat} {ts:List M.Tk} (now:Int) (h0:0≤now) (h1:now≤1000000000) (w:World) (hz:SeesT w a n c ts) :
  Calls Tryz.prog 145 #[.slice a n c,.int .i64 now] w fun e w'=>e=.returned (.bool (decide (1≤n) && (decide (n≤8) && ts.all (M.tkOk now))))∧Below w.heap.size w w':=by
 have bn:(n:Int)≤9223372036854775807:=(by have:=hz.big;have:=hz.le;omega);have HZ:=Hd (hz);clear hz;by_cases hs:1≤n∧n≤8
 ·
  obtain ⟨Ga,Ha⟩:=hs;have Ja:(1:Int)≤(n:Int):=(by omega);have Ka:(n:Int)≤8:=(by omega);rw [show decide (1≤n)=true by simpa using Ga,show decide (n≤8)=true by simpa using Ha,Bool.true_and,Bool.true_and];generalize hR:ts.all (M.tkOk now)=R;have HR:=Hd (hR);clear hR;go_enter Tryz.func145,Tryz.ntmps145;go_wp2
  go_loopw [17] (fun i wr=>∃ k:Nat,k≤n∧i=it k∧(ts.drop k).all (M.tkOk now)=R∧Below w.heap.size w wr) (fun i _=>n-(intOf i).toNat)
  case atStart=>exact ⟨0,by omega,rfl,HR.o,Below.refl _ _⟩
  case round =>
   obtain ⟨k,hk,rfl,hg,Ba⟩:=hrel;have Aa:=Hd (Ba);clear Ba;by_cases Ca:k<n
   ·
    obtain ⟨b1,o1,rfl,Da⟩:=(HZ.o.below Aa.o).at (by omega)
    have hG:(M.tkOk now (ts.getD k M.t0) && (ts.drop (k+1)).all (M.tkOk now))=R:=by
     rw [← hg,drop_step M.t0 HZ.o.len Ca];rfl
    have hA:=Da k Ca;have C1:=taskOk_any (ts.getD k M.t0) now h0 h1;generalize ts.getD k M.t0=x at hA hG C1;obtain ⟨d,x,y⟩:=x;dsimp only [tkv] at C1;have HG:=Hd (hG);have a0:wr.cell? ⟨b1,o1+k*3,none⟩=some (.bool d):=hA 0 (by omega);have a1:wr.cell? ⟨b1,o1+k*3+1,none⟩=some (it x):=hA 1 (by omega);have a2:wr.cell? ⟨b1,o1+k*3+2,none⟩=some (it y):=hA 2 (by omega);clear Da hA hg hG;generalize M.tkOk now ⟨d,x,y⟩=ow at C1 HG;have hI:(k:Int)<(n:Int):=(by omega);(go_wp2_with fail);refine (C1 _).mono ?_;rintro e w2 ⟨rfl,Ea⟩;have Fa:H9 (Below w.heap.size w w2):=(Aa.o.alloc Aa.o.size _).trans (Ea.mono (Aa.o.alloc Aa.o.size _).size);clear Ea
    cases ow with
    | false =>
     go_wp2;go_ret;exact ⟨ret_bool HG.o,Fa.o⟩
    | true =>
     have Ia:H9 ((ts.drop (k+1)).all (M.tkOk now)=R):=(by show _=_;have:=HG.o;simpa using this);go_wp2;go_roundw
     case rel=>exact ⟨k+1,by omega,by go_num,Ia.o,Fa.o⟩
     case measure=>simp [intOf];omega
   ·
    go_wp2;go_ret;refine ⟨ret_bool ?_,Aa.o⟩;rw [List.drop_of_length_le (by rw [HZ.o.len];omega)] at hg;exact hg
 ·
  have hF:(decide (1≤n) && (decide (n≤8) && ts.all (M.tkOk now)))=false:=by
   by_cases h:1≤n
   · rw [show decide (n≤8)=false by simp;omega];simp
   · rw [show decide (1≤n)=false by simp;omega];rfl
  rw [hF];by_cases h:1≤n
  ·
   have g1:(8:Int)<(n:Int):=(by omega);have g2:¬ (n:Int)<1:=(by omega);go_enter Tryz.func145,Tryz.ntmps145;go_wp2;go_ret;exact ⟨rfl,Below.refl _ _⟩
  ·
   have g1:(n:Int)<1:=(by omega);go_enter Tryz.func145,Tryz.ntmps145;go_wp2;go_ret;exact ⟨rfl,Below.refl _ _⟩
theorem indexLeased_any {a:Option Addr} {n c:Nat} {ts:List M.Tk} (w:World) (hz:SeesT w a n c ts) :
  Calls Tryz.prog 154 #[.slice a n c,.func (.func 135) #[] #[]] w fun e w'=>∃ r:Int,e=.returned (.int .i64 r)∧decide (0≤r)=ts.any M.leased∧Below w.heap.size w w':=by
 have bn:(n:Int)≤9223372036854775807:=(by have:=hz.big;have:=hz.le;omega);have Ha:(n:Int)≤c:=(by have:=hz.le;omega);have HZ:=Hd (hz);clear hz;generalize hR:ts.any M.leased=R;have HR:=Hd (hR);clear hR;go_enter Tryz.func154,Tryz.ntmps154;go_wp2
 go_loopw [8] (fun i wr=>∃ k:Nat,k≤n∧i=it k∧(ts.drop k).any M.leased=R∧Below w.heap.size w wr) (fun i _=>n-(intOf i).toNat)
 case atStart=>exact ⟨0,by omega,rfl,HR.o,Below.refl _ _⟩
 case round =>
  obtain ⟨k,hk,rfl,hg,Ba⟩:=hrel;have Aa:=Hd (Ba);clear Ba;by_cases Ca:k<n
  ·
   obtain ⟨b1,o1,rfl,Da⟩:=(HZ.o.below Aa.o).at (by omega)
   have hG:(M.leased (ts.getD k M.t0) || (ts.drop (k+1)).any M.leased)=R:=by
    rw [← hg,drop_step M.t0 HZ.o.len Ca];rfl
   have hA:=Da k Ca;have C1:=isLeased_any (ts.getD k M.t0);generalize ts.getD k M.t0=x at hA hG C1;obtain ⟨d,x,y⟩:=x;dsimp only [tkv] at C1;have HG:=Hd (hG);have a0:wr.cell? ⟨b1,o1+k*3,none⟩=some (.bool d):=hA 0 (by omega);have a1:wr.cell? ⟨b1,o1+k*3+1,none⟩=some (it x):=hA 1 (by omega);have a2:wr.cell? ⟨b1,o1+k*3+2,none⟩=some (it y):=hA 2 (by omega);clear Da hA hg hG;generalize M.leased ⟨d,x,y⟩=ow at C1 HG;have hI:(k:Int)<(n:Int):=(by omega);(go_wp2_with fail);refine (C1 _).mono ?_;rintro e w2 ⟨rfl,Ea⟩;have Fa:=Hd (Aa.o.trans (Ea.mono Aa.o.size));clear Ea
   cases ow with
   | true =>
    go_wp2;go_ret;refine ⟨_,rfl,?_,Fa.o⟩;have:=HG.o;rw [Bool.true_or] at this;rw [← this];simp
   | false =>
    have Ga:H9 ((ts.drop (k+1)).any M.leased=R):=(by show _=_;have:=HG.o;simpa using this);go_wp2;go_roundw
    case rel=>exact ⟨k+1,by omega,by go_num,Ga.o,Fa.o⟩
    case measure=>simp [intOf];omega
  ·
   go_wp2;go_ret;refine ⟨_,rfl,?_,Aa.o⟩;rw [List.drop_of_length_le (by rw [HZ.o.len];omega)] at hg;rw [← hg];rfl
theorem containsLeased_any {a:Option Addr} {n c:Nat} {ts:List M.Tk} (w:World) (hz:SeesT w a n c ts) :
  Calls Tryz.prog 146 #[.slice a n c,.func (.func 135) #[] #[]] w fun e w'=>e=.returned (.bool (ts.any M.leased))∧Below w.heap.size w w':=by
 have HZ:=Hd (hz);clear hz;go_enter Tryz.func146,Tryz.ntmps146;(go_wp2_with fail);refine (indexLeased_any _ HZ.o).mono ?_;rintro e w1 ⟨r,rfl,hr,hb⟩;have HR:=Hd (hr);have HB:=Hd (hb);clear hr hb;go_wp2;go_ret;exact ⟨ret_bool HR.o,HB.o⟩
theorem M.count_step {ts:List M.Tk} {k n:Nat} (d:M.Tk) (hl:ts.length=n) (h:k<n):((ts.take (k+1)).filter (·.done)).length=(if (ts.getD k d).done=true then ((ts.take k).filter (·.done)).length+1 else ((ts.take k).filter (·.done)).length):=by
 rw [List.take_succ_eq_append_getElem (by omega),List.filter_append,List.length_append,List.getD_eq_getElem?_getD,List.getElem?_eq_getElem (by omega)];by_cases e:ts[k].done=true <;> simp [e]
set_option maxRecDepth 10000 in
theorem done1_any (m:Nat) (t:M.Tk) (hm:(m:Int)+1≤9223372036854775807) (w:World):Calls Tryz.prog 61 #[.int .i64 m,tkv t] w fun e w'=>e=.returned (.int .i64 ((if t.done=true then m+1 else m:Nat):Int))∧Below w.heap.size w w':=by
 obtain ⟨d,x,y⟩:=t;dsimp only [tkv];have HB:H9 (Below w.heap.size w (w.alloc (.cells (v27' d x y).toArray 74))):=(Below.refl _ _).alloc (Nat.le_refl _) _
 cases d with
 | true =>
  rw [if_pos rfl];have hc:((m+1:Nat):Int)=(m:Int)+1:=(by omega);rw [hc];clear hc;go_enter Tryz.func61,Tryz.ntmps61;go_wp2;go_ret;exact ⟨rfl,HB.o⟩
 | false =>
  rw [if_neg (by decide)];go_enter Tryz.func61,Tryz.ntmps61;go_wp2;go_ret;exact ⟨rfl,HB.o⟩
theorem foldDone_any {a:Option Addr} {n c:Nat} {ts:List M.Tk} (w:World) (hz:SeesT w a n c ts) :
  Calls Tryz.prog 60 #[.slice a n c,.int .i64 0,.func (.func 61) #[] #[]] w fun e w'=>e=.returned (.int .i64 ((ts.filter (·.done)).length:Nat))∧Below w.heap.size w w':=by
 have bn:(n:Int)≤9223372036854775807:=(by have:=hz.big;have:=hz.le;omega);have Ha:(n:Int)≤c:=(by have:=hz.le;omega);have HZ:=Hd (hz);clear hz;go_enter Tryz.func60,Tryz.ntmps60;go_wp2
 go_loopw [1,11] (fun l i wr=>∃ k:Nat,k≤n∧i=it k∧l=it (((ts.take k).filter (·.done)).length:Nat)∧Below w.heap.size w wr) (fun _ i _=>n-(intOf i).toNat)
 case atStart=>exact ⟨0,by omega,rfl,rfl,Below.refl _ _⟩
 case round =>
  obtain ⟨k,hk,rfl,rfl,Ba⟩:=hrel;have Aa:=Hd (Ba);clear Ba;by_cases Ca:k<n
  ·
   obtain ⟨b1,o1,rfl,Da⟩:=(HZ.o.below Aa.o).at (by omega);have hG:=M.count_step M.t0 HZ.o.len Ca;have Fa:((ts.take k).filter (·.done)).length≤k:=Nat.le_trans (List.length_filter_le _ _) (by rw [List.length_take];omega);have hA:=Da k Ca;generalize ts.getD k M.t0=x at hA hG;obtain ⟨d,x,y⟩:=x;dsimp only at hG;generalize ((ts.take k).filter (·.done)).length=m at hG Fa;have HG:=Hd (hG);have a0:wr.cell? ⟨b1,o1+k*3,none⟩=some (.bool d):=hA 0 (by omega);have a1:wr.cell? ⟨b1,o1+k*3+1,none⟩=some (it x):=hA 1 (by omega);have a2:wr.cell? ⟨b1,o1+k*3+2,none⟩=some (it y):=hA 2 (by omega);clear Da hA hG;have hI:(k:Int)<(n:Int):=(by omega);have Ia:(m:Int)+1≤9223372036854775807:=(by omega);(go_wp2_with fail);refine (done1_any m ⟨d,x,y⟩ (by omega) _).mono ?_;rintro e w2 ⟨rfl,Ea⟩;have Ga:H9 (Below w.heap.size w w2):=(Aa.o.alloc Aa.o.size _).trans (Ea.mono (Aa.o.alloc Aa.o.size _).size);clear Ea;go_wp2;go_roundw
   case rel =>
    refine ⟨k+1,by omega,by go_num,?_,Ga.o⟩;rw [HG.o]
   case measure=>simp [intOf];omega
  ·
   go_wp2;go_ret;refine ⟨?_,Aa.o⟩;rw [List.take_of_length_le (by rw [HZ.o.len];omega)]
   rfl
theorem doneTasks_any {jb:Nat} {a:Option Addr} {n c:Nat} {ts:List M.Tk} (w:World) (hc:w.cell? ⟨jb,17,none⟩=some (.slice a n c)) (hz:SeesT w a n c ts) :
  Calls Tryz.prog 30 #[.pointer (some ⟨jb,0,none⟩)] w fun e w'=>e=.returned (.int .i64 ((ts.filter (·.done)).length:Nat))∧Below w.heap.size w w':=by
 have CF:=foldDone_any w hz;generalize (ts.filter (·.done)).length=m at CF ⊢;clear hz;go_enter Tryz.func30,Tryz.ntmps30;(go_wp2_with fail);refine CF.mono ?_;rintro e w1 ⟨rfl,hb⟩;have HB:=Hd (hb);clear hb;go_wp2;go_ret;exact ⟨rfl,HB.o⟩
theorem M.count_all {ts:List M.Tk} {n:Nat} (hl:ts.length=n):(((ts.filter (·.done)).length:Nat) == n)=ts.all (·.done):=by
 subst hl;rw [Bool.eq_iff_iff,beq_iff_eq,List.all_eq_true]
 constructor
 ·
  intro h t ht;have:=List.filter_eq_self.1 ((List.filter_sublist (p:=fun t:M.Tk=>t.done) (l:=ts)).eq_of_length h);exact this t ht
 ·
  intro h;rw [List.filter_eq_self.2 h]
theorem allDone_any {jb:Nat} {a:Option Addr} {n c:Nat} {ts:List M.Tk} (w:World) (hc:w.cell? ⟨jb,17,none⟩=some (.slice a n c)) (hz:SeesT w a n c ts) :
  Calls Tryz.prog 22 #[.pointer (some ⟨jb,0,none⟩)] w fun e w'=>e=.returned (.bool (ts.all (·.done)))∧Below w.heap.size w w':=by
 have CD:∀ W,W.cell? ⟨jb,17,none⟩=some (.slice a n c)→SeesT W a n c ts→Calls Tryz.prog 30 #[.pointer (some ⟨jb,0,none⟩)] W fun e w'=>e=.returned (.int .i64 ((ts.filter (·.done)).length:Nat))∧Below W.heap.size W w':=fun W h1 h2=>doneTasks_any W h1 h2;have HA:H9 ((((ts.filter (·.done)).length:Nat) == n)=ts.all (·.done)):=M.count_all hz.len;have bn:(n:Int)≤9223372036854775807:=(by have:=hz.big;have:=hz.le;omega);generalize (ts.filter (·.done)).length=m at HA CD;generalize ts.all (·.done)=oa at HA ⊢;have Fa:((m:Int) == (n:Int))=oa:=(by rw [← HA.o,Bool.eq_iff_iff,beq_iff_eq,beq_iff_eq];omega);go_enter Tryz.func22,Tryz.ntmps22;(go_wp2_with fail);have Ca:=Hd (hz);clear hz;refine hst' w none (by kernel_rfl) fun hHeld=>?_;generalize w.drew=Ga at hHeld ⊢;have Ha:H9 (Below w.heap.size w Ga):=⟨hHeld.os,hHeld.tape,hHeld.output,hHeld.size,fun k hk=>hHeld.block k hk (by simp)⟩;refine tk 0 (.pointer (some ⟨jb,0,none⟩)) ?_ ?_
 · intro wq Aa;go_simp
 (try simp only [Act.put]);refine tk 2 (.pointer (some ⟨jb,0,none⟩)) ?_ ?_
 · intro wq Aa;go_simp
 (try simp only [Act.put]);refine tk 3 (.pointer (some ⟨jb,0,none⟩)) ?_ ?_
 · intro wq Aa;go_simp
 (try simp only [Act.put]);refine tk 4 (.pointer (some ⟨jb,17,none⟩)) ?_ ?_
 · intro wq Aa;go_simp
 (try simp only [Act.put]);refine tk 5 (.slice a n c) ?_ ?_
 · intro wp Ia;have c0:wp.cell? ⟨jb,17,none⟩=some (.slice a n c):=Ia.cell hc (by simp);go_simp
 (try simp only [Act.put]);refine tk 6 (it n) ?_ ?_
 · intro wq Aa;go_simp
 (try simp only [Act.put]);refine rdy' 1 fun Kk hK=>?_;go_simp;refine (CD _ (hHeld.cell hc (by simp)) (Ca.o.below Ha.o)).mono ?_;rintro e Da ⟨rfl,Ea⟩;go_simp;have Ba:w.grownBy Da none:=grown_step hHeld Ea;have Ja:H9 (Below w.heap.size w Da):=⟨Ba.os,Ba.tape,Ba.output,Ba.size,fun k hk=>Ba.block k hk (by simp)⟩;refine hK.out _ _ Ba (fun _=>?_);clear hK Kk Ea;(try simp only [Act.put]);refine tk 7 (.bool ((m:Int) == (n:Int))) ?_ ?_
 · intro wq Aa;go_simp
 (try simp only [Act.put]);rw [Fa];refine tk 8 (.bool oa) ?_ ?_
 · intro wq Aa;go_simp
 (try simp only [Act.put]);refine dne' ?_;go_simp;clear Ca;go_wp2;go_ret;exact ⟨rfl,Ja.o⟩
set_option maxHeartbeats 8000000 in
set_option maxRecDepth 10000 in
theorem jobOk_any {ta:Option Addr} {tn tc:Nat} {tl:List M.Tk} (jid a b c d f k a' b' c' d' f' k' s1 s2 jr:Int) (jg:Bool) (now:Int) (h0:0≤now) (h1:now≤1000000000) (w:World) (hz:SeesT w ta tn tc tl) :
  Calls Tryz.prog 134 #[.agg #[.int .i64 jid,.int .i64 a,.int .i64 b,.int .i64 c,.int .i64 d,.int .i64 f,.int .i64 k,.int .i64 a',.int .i64 b',.int .i64 c',.int .i64 d',.int .i64 f',.int .i64 k',.int .i64 s1,.int .i64 s2,.int .i64 jr,.bool jg,.slice ta tn tc],.int .i64 now] w fun e w'=>e=.returned (.bool (M.jbOk now ⟨jid,⟨⟨a,b,c,d,f,k⟩,⟨a',b',c',d',f',k'⟩⟩,(s1,s2),jr,jg,tl⟩))∧Below w.heap.size w w':=by
 have hl:=hz.len;have C1:=implMachineOk_any ⟨⟨a,b,c,d,f,k⟩,⟨a',b',c',d',f',k'⟩⟩;have C2:=implStateOk_any (s1,s2);have C3:=rowsOk_any jr;have HZ:=Hd (hz);unfold M.jbOk;dsimp only [mcv,stv] at C1 C2 ⊢;rw [hl];have C4:∀ W,SeesT W ta tn tc tl→Calls Tryz.prog 145 #[.slice ta tn tc,.int .i64 now] W fun e w'=>e=.returned (.bool (decide (1≤tn) && (decide (tn≤8) && tl.all (M.tkOk now))))∧Below W.heap.size W w':=fun W h=>tasksOk_any now h0 h1 W h;generalize (decide (1≤tn) && (decide (tn≤8) && tl.all (M.tkOk now)))=o4 at C4 ⊢;generalize M.rows jr=o3 at C3 ⊢;generalize M.sOk (s1,s2)=o2 at C2 ⊢;generalize M.Mc.ok ⟨⟨a,b,c,d,f,k⟩,⟨a',b',c',d',f',k'⟩⟩=o1 at C1 ⊢;have C5:∀ W,SeesT W ta tn tc tl→Calls Tryz.prog 146 #[.slice ta tn tc,.func (.func 135) #[] #[]] W fun e w'=>e=.returned (.bool (tl.any M.leased))∧Below W.heap.size W w':=fun W h=>containsLeased_any W h;have C6:∀ W,W.cell? ⟨w.heap.size,17,none⟩=some (.slice ta tn tc)→SeesT W ta tn tc tl→Calls Tryz.prog 22 #[.pointer (some ⟨w.heap.size,0,none⟩)] W fun e w'=>e=.returned (.bool (tl.all (·.done)))∧Below W.heap.size W w':=fun W h1 h2=>allDone_any W h1 h2;generalize tl.any M.leased=o5 at C5 ⊢;generalize tl.all (·.done)=o6 at C6 ⊢;clear hz;go_enter Tryz.func134,Tryz.ntmps134;have Ja:=lnw w (v0' jid a b c d f k a' b' c' d' f' k' s1 s2 jr jg ta tn tc) 44;have Ea:H9 (Below w.heap.size w (w.alloc (.cells (v0' jid a b c d f k a' b' c' d' f' k' s1 s2 jr jg ta tn tc).toArray 44))):=(Below.refl _ _).alloc (Nat.le_refl _) _;(go_wp2_with fail);generalize (w.alloc (.cells (v0' jid a b c d f k a' b' c' d' f' k' s1 s2 jr jg ta tn tc).toArray 44))=wa at Ja Ea  ⊢;refine (C1 _).mono ?_;rintro e wb ⟨rfl,hb⟩;have Fa:=Hd (Ja.o.belowS hb);have Ga:=Hd (Ea.o.trans (hb.mono Ea.o.size));clear Ja Ea;clear hb
 cases o1 with
 | false =>
  go_wp2;go_ret;exact ⟨by simp,Ga.o⟩
 | true =>
  have Na:=Fa.o.c 13 rfl;have Oa:=Fa.o.c 14 rfl;(go_wp2_with fail);clear Na Oa;refine (C2 _).mono ?_;rintro e wc ⟨rfl,hb⟩;have Ha:=Hd (Fa.o.belowS hb);have Aa:=Hd (Ga.o.trans (hb.mono Ga.o.size));clear Fa Ga;clear hb
  cases o2 with
  | false =>
   go_wp2;go_ret;exact ⟨by simp,Aa.o⟩
  | true =>
   have Pa:=Ha.o.c 15 rfl;(go_wp2_with fail);clear Pa;refine (C3 _).mono ?_;rintro e wz ⟨rfl,Ka⟩;have Qa:=Ka.symm;clear Ka;subst Qa
   cases o3 with
   | false =>
    go_wp2;go_ret;exact ⟨by simp,Aa.o⟩
   | true =>
    have Ca:=Ha.o.c 17 rfl;(go_wp2_with fail);clear Ca;refine (C4 _ (HZ.o.below Aa.o)).mono ?_;rintro e wd ⟨rfl,hb⟩;have Ia:=Hd (Ha.o.belowS hb);have Ba:=Hd (Aa.o.trans (hb.mono Aa.o.size));clear Ha Aa;clear hb
    cases o4 with
    | false =>
     go_wp2;go_ret;exact ⟨by simp,Ba.o⟩
    | true =>
     have Ra:=Ia.o.c 16 rfl;have Ca:=Ia.o.c 17 rfl
     cases jg with
     | false =>
      go_wp2;go_ret;exact ⟨by simp,Ba.o⟩
     | true =>
      (go_wp2_with fail);clear Ra Ca;refine (C5 _ (HZ.o.below Ba.o)).mono ?_;rintro e we ⟨rfl,hb⟩;have La:=Hd (Ia.o.belowS hb);have Da:=Hd (Ba.o.trans (hb.mono Ba.o.size));clear Ia Ba;clear hb
      cases o5 with
      | true =>
       go_wp2;go_ret;exact ⟨by simp,Da.o⟩
      | false =>
       have Ca:=La.o.c 17 rfl;(go_wp2_with fail);refine (C6 _ Ca (HZ.o.below Da.o)).mono ?_;rintro e wf ⟨rfl,hb⟩;have Sa:=Hd (Da.o.trans (hb.mono Da.o.size));clear La Da;clear hb;go_wp2;go_ret;exact ⟨by simp,Sa.o⟩
section
variable {P : Program} {ops : Array Oper} {rest : List Oper} {o : Oper} {a : Act} {w : World} {Q : Exit → Act → World → Prop}
theorem wpList_wanted (hw:Region.wanted o (yielded ops a.tmps)=true)
  (h:∀ K:Act→World→Prop,(∀ a w,wpList P ops Q rest a w→K a w)→o.wp P a w K Q):wpList P ops Q (o::rest) a w:=
 wpList_step fun K hK=>by simp only [hw,if_true];exact h K hK
theorem wpList_load_want (hw:Region.wanted o (yielded ops a.tmps)=true) (ty:TypeId) (x:Operand) (ho:o.op=.load ty x)
  (b i:Nat) (hx:a.eval x=.pointer (some ⟨b,i,none⟩)) (cs:List Value) (d:TypeDesc) (hc:w.rangeAt b i cs)
  (hu:P.underlying ty=some d) (hd:d.isRow=true) (hi:(P.info? ty).map (·.size)=some cs.length)
  (h:wpList P ops Q rest (a.put o.dst (.agg cs.toArray)) w):wpList P ops Q (o::rest) a w:=
 wpList_wanted hw fun _ hK=>wp_load_mid ty x ho b i hx cs d hc hu hd hi (hK _ _ h)
end
theorem Owns.whole {t:TypeId} {w:World} {base g n:Nat} {zs:List Int} (h:Owns t w base (some ⟨g,0,none⟩) n n zs):w.heap[g]? = some (.cells (zs.map (Value.int .i64)).toArray t (0,0)):=by
 rcases h.2 with ⟨e,_⟩ | ⟨g',c,cur,e,_,hh,_,_,hs,ht⟩
 · simp at e
 ·
  simp only [Value.slice.injEq,Option.some.injEq,Addr.mk.injEq] at e;obtain ⟨⟨rfl,-,-⟩,-,rfl⟩:=e;rw [hh]
  have:cur.toList=zs.map (Value.int .i64):=by
   rw [List.take_of_length_le (by rw [Array.length_toList,hs];exact Nat.le_refl _)] at ht;exact ht
  congr 2
  rw [← this]
theorem M.padd_len (zs ys:List Int):(M.padd zs ys).length=max zs.length ys.length:=M.tab_len _ _
namespace M
theorem getD_take {zs:List Int} {k i:Nat}:(zs.take k).getD i 0=if i<k then zs.getD i 0 else 0:=by
 rw [List.getD_eq_getElem?_getD,List.getD_eq_getElem?_getD];by_cases h:i<k
 · rw [List.getElem?_take_of_lt h,if_pos h]
 · rw [List.getElem?_eq_none (by rw [List.length_take];omega),if_neg h];rfl
theorem tl_zero {zs:List Int} {k i:Nat} (h1:tl zs k≤i) (h2:i<k):zs.getD i 0=0:=by
 induction k with
 | zero=>omega
 | succ k ih =>
  unfold tl at h1;by_cases h:zs.getD k 0=0
  ·
   rw [if_pos h] at h1;by_cases e:i=k
   · subst e;exact h
   · exact ih h1 (by omega)
  · rw [if_neg h] at h1;omega
theorem getD_trim (zs:List Int) (i:Nat):(trim zs).getD i 0=zs.getD i 0:=by
 unfold trim;rw [getD_take];by_cases h:i<tl zs zs.length
 · rw [if_pos h]
 ·
  rw [if_neg h];by_cases h2:i<zs.length
  · exact (tl_zero (by omega) h2).symm
  · exact (getD_out (by omega)).symm
def neat (zs:List Int):Prop:=zs.length=0∨zs.getD (zs.length-1) 0≠0
theorem tl_pos {zs:List Int} {k:Nat} (h:0<tl zs k):zs.getD (tl zs k-1) 0≠0:=by
 induction k with
 | zero=>simp [tl] at h
 | succ k ih =>
  unfold tl at h ⊢;by_cases e:zs.getD k 0=0
  · rw [if_pos e] at h ⊢;exact ih h
  · rw [if_neg e];simpa using e
theorem trim_len (zs:List Int):(trim zs).length=tl zs zs.length:=by
 unfold trim;rw [List.length_take];have:=tl_le zs zs.length;omega
theorem neat_trim (zs:List Int):neat (trim zs):=by
 unfold neat;rw [trim_len];by_cases h:tl zs zs.length=0
 · exact .inl h
 · right;rw [getD_trim];exact tl_pos (by omega)
theorem neat_ext {zs ys:List Int} (h1:neat zs) (h2:neat ys) (h:∀ i,zs.getD i 0=ys.getD i 0):zs=ys:=by
 have hl:zs.length=ys.length:=by
  rcases Nat.lt_trichotomy zs.length ys.length with hlt | e | hlt
  ·
   rcases h2 with e | e
   · omega
   · exfalso;apply e;rw [← h];exact getD_out (by omega)
  · exact e
  ·
   rcases h1 with e | e
   · omega
   · exfalso;apply e;rw [h];exact getD_out (by omega)
 apply List.ext_getElem hl;intro i a b;have:=h i;rw [List.getD_eq_getElem?_getD,List.getD_eq_getElem?_getD,List.getElem?_eq_getElem a,List.getElem?_eq_getElem b] at this;exact this
theorem trim_ext {zs ys:List Int} (h:∀ i,zs.getD i 0=ys.getD i 0):trim zs=trim ys:=
 neat_ext (neat_trim _) (neat_trim _) fun i=>by rw [getD_trim,getD_trim];exact h i
theorem trim_neat {zs:List Int} (h:neat zs):trim zs=zs:=neat_ext (neat_trim _) h (getD_trim zs)
theorem tab_getD (N:Nat) (f:Nat→Int) (i:Nat):(tab N f).getD i 0=if i<N then f i else 0:=by
 by_cases h:i<N
 · rw [if_pos h,tab_get _ _ _ h]
 · rw [if_neg h];exact getD_out (by rw [tab_len];omega)
theorem padd_getD {zs ys:List Int} (i:Nat):(padd zs ys).getD i 0=(zs.getD i 0+ys.getD i 0) % 65537:=by
 unfold padd;rw [tab_getD];by_cases h:i<max zs.length ys.length
 · rw [if_pos h];rfl
 · rw [if_neg h,getD_out (zs:=zs) (by omega),getD_out (zs:=ys) (by omega)];rfl
def pm : List Int→List Int→Nat→Int
 | [],_,_=>0
 | c::r,ys,i=>(c*ys.getD i 0+(if i=0 then 0 else pm r ys (i-1))) % 65537
theorem pm_bd (zs ys:List Int) (i:Nat):0≤pm zs ys i∧pm zs ys i<65537:=by
 cases zs with
 | nil=>show 0≤(0:Int)∧(0:Int)<65537;omega
 | cons c r=>unfold pm;omega
theorem pm_out {zs ys:List Int} {i:Nat} (h:zs.length+ys.length≤i+1):pm zs ys i=0:=by
 induction zs generalizing i with
 | nil=>rfl
 | cons c r ih =>
  unfold pm;rw [List.length_cons] at h;rw [getD_out (zs:=ys) (by omega)];by_cases h0:i=0
  · subst h0;simp
  · rw [if_neg h0,ih (by omega)];simp
theorem pm_nil (zs:List Int) (i:Nat):pm zs [] i=0:=by
 induction zs generalizing i with
 | nil=>rfl
 | cons c r ih =>
  unfold pm;by_cases h0:i=0
  · subst h0;simp
  · rw [if_neg h0,ih];simp
theorem pm_snoc (zs ys:List Int) (c:Int) (t:Nat):pm (zs++[c]) ys t=(pm zs ys t+(if zs.length≤t then c*ys.getD (t-zs.length) 0 else 0)) % 65537:=by
 induction zs generalizing t with
 | nil =>
  simp only [List.nil_append,List.length_nil,Nat.zero_le,if_true,Nat.sub_zero];show (c*ys.getD t 0+(if t=0 then 0 else pm [] ys (t-1))) % 65537=(0+c*ys.getD t 0) % 65537;have:(if t=0 then 0 else pm [] ys (t-1))=0:=(by split <;> rfl);rw [this,Int.add_zero,Int.zero_add]
 | cons z r ih =>
  rw [List.cons_append,List.length_cons];show (z*ys.getD t 0+(if t=0 then 0 else pm (r++[c]) ys (t-1))) % 65537=_;by_cases h0:t=0
  · subst h0;rw [if_pos rfl,if_neg (by omega)];unfold pm;rw [if_pos rfl];omega
  ·
   rw [if_neg h0,ih]
   have e:pm (z::r) ys t=(z*ys.getD t 0+pm r ys (t-1)) % 65537:=by
    show (z*ys.getD t 0+(if t=0 then 0 else pm r ys (t-1))) % 65537=_;rw [if_neg h0]
   rw [e];by_cases h1:r.length≤t-1
   ·
    rw [if_pos h1,if_pos (by omega),show t-(r.length+1)=t-1-r.length by omega];generalize c*ys.getD (t-1-r.length) 0=u;generalize z*ys.getD t 0=v;omega
   · rw [if_neg h1,if_neg (by omega)];omega
def pmul (zs ys:List Int):List Int:=if zs.length=0∨ys.length=0 then [] else trim (tab (zs.length+ys.length-1) (pm zs ys))
theorem pmul_getD (zs ys:List Int) (i:Nat):(pmul zs ys).getD i 0=pm zs ys i:=by
 unfold pmul;by_cases h:zs.length=0∨ys.length=0
 ·
  rw [if_pos h]
  have:pm zs ys i=0:=by
   rcases h with h | h
   · rw [List.eq_nil_of_length_eq_zero h];rfl
   · rw [List.eq_nil_of_length_eq_zero h];exact pm_nil _ _
  rw [this];rfl
 ·
  rw [if_neg h,getD_trim,tab_getD];by_cases h2:i<zs.length+ys.length-1
  · rw [if_pos h2]
  · rw [if_neg h2,pm_out (by omega)]
theorem neat_pmul (zs ys:List Int):neat (pmul zs ys):=by
 unfold pmul;split
 · exact .inl rfl
 · exact neat_trim _
theorem pmul_len (zs ys:List Int):(pmul zs ys).length≤zs.length+ys.length-1:=by
 unfold pmul;split
 · simp
 · have:=len_trim (tab (zs.length+ys.length-1) (pm zs ys));rw [tab_len] at this;exact this
def pscale (zs:List Int) (c:Int):List Int:=zs.map fun a=>a*c % 65537
theorem pscale_getD (zs:List Int) (c:Int) (i:Nat):(pscale zs c).getD i 0=zs.getD i 0*c % 65537:=by
 unfold pscale;rw [List.getD_eq_getElem?_getD,List.getElem?_map,List.getD_eq_getElem?_getD];by_cases h:i<zs.length
 · rw [List.getElem?_eq_getElem h];rfl
 · rw [List.getElem?_eq_none (by omega)];simp
theorem cons_getD (c:Int) (zs:List Int) (i:Nat):(c::zs).getD i 0=if i=0 then c else zs.getD (i-1) 0:=by
 cases i with
 | zero=>rfl
 | succ i=>simp
theorem all_pscale (zs:List Int) (c:Int):allEl (pscale zs c)=true:=by
 unfold allEl pscale;rw [List.all_eq_true];intro x hx;obtain ⟨a,_,rfl⟩:=List.mem_map.1 hx;exact (el_iff _).2 ⟨by omega,by omega⟩
theorem all_cons {c:Int} {zs:List Int} (hc:0≤c∧c<65537) (h:allEl zs=true):allEl (c::zs)=true:=by
 unfold allEl at *;rw [List.all_cons,h,(el_iff c).2 hc];rfl
end M
namespace M
theorem mm (a x : Int) : (a % 65537 * x) % 65537 = a * x % 65537 := by
  rw [Int.mul_emod, Int.emod_emod_of_dvd _ (Int.dvd_refl _), ← Int.mul_emod]
theorem tab_succ (N : Nat) (f : Nat → Int) : tab (N + 1) f = f 0 :: tab N (fun i => f (i + 1)) := by
  simp [tab, List.range_succ_eq_map]
theorem ev_ext {zs ys : List Int} (x : Int) (h : ∀ i, zs.getD i 0 = ys.getD i 0) : ev zs x = ev ys x := by
  rw [← ev_trim zs, ← ev_trim ys, trim_ext h]
theorem ev_padd (zs ys : List Int) (x : Int) : ev (padd zs ys) x = (ev zs x + ev ys x) % 65537 := by
  induction zs generalizing ys with
  | nil =>
    induction ys with
    | nil => rfl
    | cons b s ih =>
      have e : padd [] (b :: s) = (b % 65537) :: padd [] s := by
        unfold padd
        simp only [List.length_nil, List.length_cons, Nat.zero_max]
        rw [tab_succ]
        congr 1
        simp [sumAt]
      rw [e, ev_cons, ih, ev_cons]
      show ((0 + ev s x) % 65537 * x + b % 65537) % 65537 = (0 + (ev s x * x + b) % 65537) % 65537
      have h := mm (0 + ev s x) x
      rw [Int.zero_add] at h ⊢
      generalize ev s x % 65537 * x = p at h ⊢
      generalize ev s x * x = q at h ⊢
      omega
  | cons a r ih =>
    cases ys with
    | nil =>
      have hc : ∀ l : List Int, ev (padd l []) x = ev l x % 65537 := by
        intro l
        induction l with
        | nil => rfl
        | cons b s ih2 =>
          have e : padd (b :: s) [] = (b % 65537) :: padd s [] := by
            unfold padd
            simp only [List.length_nil, List.length_cons, Nat.max_zero]
            rw [tab_succ]
            congr 1
            simp [sumAt]
          rw [e, ev_cons, ih2, ev_cons]
          have h := mm (ev s x) x
          generalize ev s x % 65537 * x = p at h ⊢
          generalize ev s x * x = q at h ⊢
          omega
      rw [hc]
      show _ = (ev (a :: r) x + 0) % 65537
      rw [Int.add_zero]
    | cons b s =>
      have e : padd (a :: r) (b :: s) = ((a + b) % 65537) :: padd r s := by
        unfold padd
        simp only [List.length_cons]
        rw [show max (r.length + 1) (s.length + 1) = max r.length s.length + 1 by omega, tab_succ]
        congr 1
      rw [e, ev_cons, ih, ev_cons, ev_cons]
      have h := mm (ev r x + ev s x) x
      rw [Int.add_mul] at h
      generalize (ev r x + ev s x) % 65537 * x = p at h ⊢
      generalize ev r x * x = q at h ⊢
      generalize ev s x * x = t at h ⊢
      omega
theorem ev_pscale (ys : List Int) (c x : Int) : ev (pscale ys c) x = ev ys x * c % 65537 := by
  induction ys with
  | nil => show (0 : Int) = 0 * c % 65537; simp
  | cons b s ih =>
    show ev ((b * c % 65537) :: pscale s c) x = _
    rw [ev_cons, ih, ev_cons, mm, Int.add_mul]
    have h := mm (ev s x * c) x
    have e : ev s x * c * x = ev s x * x * c := Int.mul_right_comm _ _ _
    rw [e] at h
    generalize ev s x * c % 65537 * x = p at h ⊢
    generalize ev s x * x * c = q at h ⊢
    generalize b * c = t
    omega
theorem ev_pmul (zs ys : List Int) (x : Int) : ev (pmul zs ys) x = ev zs x * ev ys x % 65537 := by
  induction zs with
  | nil =>
    have : pmul [] ys = [] := by unfold pmul; rw [if_pos (.inl rfl)]
    rw [this]; show (0 : Int) = 0 * ev ys x % 65537; simp
  | cons c r ih =>
    have e : ev (pmul (c :: r) ys) x = ev (padd (pscale ys c) (0 :: pmul r ys)) x := by
      apply ev_ext
      intro i
      rw [pmul_getD, padd_getD, pscale_getD, cons_getD]
      show (c * ys.getD i 0 + (if i = 0 then 0 else pm r ys (i - 1))) % 65537 = _
      rw [Int.mul_comm c]
      by_cases h0 : i = 0
      · rw [if_pos h0, if_pos h0]; omega
      · rw [if_neg h0, if_neg h0, pmul_getD]; omega
    rw [e, ev_padd, ev_pscale, ev_cons, ih, ev_cons, mm, Int.add_mul]
    have h := mm (ev r x * ev ys x) x
    have e2 : ev r x * ev ys x * x = ev r x * x * ev ys x := Int.mul_right_comm _ _ _
    rw [e2] at h
    rw [Int.mul_comm c]
    generalize ev r x * ev ys x % 65537 * x = p at h ⊢
    generalize ev r x * x * ev ys x = q at h ⊢
    generalize ev ys x * c = t
    omega
theorem all_pmul (zs ys : List Int) : allEl (pmul zs ys) = true := by
  unfold pmul
  split
  · rfl
  · exact all_trim (all_tab fun i _ => (el_iff _).2 (pm_bd zs ys i))
theorem el_inv {a : Int} (h : el a = true) (h0 : a ≠ 0) : el (inv a) = true := by rw [inv_in h h0]; exact el_pw _ _
theorem prod_ne {a b : Int} (ha : el a = true) (hb : el b = true) (a0 : a ≠ 0) (b0 : b ≠ 0) : a * b % 65537 ≠ 0 := by
  intro h
  have h1 : mul (inv a) (mul a b) = 0 := by
    rw [mul_in ha hb, h, mul_in (el_inv ha a0) (by decide)]; simp
  rw [← mul_assoc' (el_inv ha a0) ha hb, mul_comm' a (inv a), mul_inv ha a0, mul_comm' b 1, mul_one' hb] at h1
  exact b0 h1
theorem pm_lead (zs ys : List Int) (h1 : 0 < zs.length) (h2 : 0 < ys.length) : pm zs ys (zs.length + ys.length - 2) = zs.getD (zs.length - 1) 0 * ys.getD (ys.length - 1) 0 % 65537 := by
  induction zs with
  | nil => simp at h1
  | cons c r ih =>
    cases r with
    | nil =>
      show (c * ys.getD (([c] : List Int).length + ys.length - 2) 0 + (if ([c] : List Int).length + ys.length - 2 = 0 then 0 else pm [] ys (([c] : List Int).length + ys.length - 2 - 1))) % 65537 = _
      have e : (if ([c] : List Int).length + ys.length - 2 = 0 then 0 else pm [] ys (([c] : List Int).length + ys.length - 2 - 1)) = 0 := by split <;> rfl
      rw [e, Int.add_zero, show ([c] : List Int).length + ys.length - 2 = ys.length - 1 by simp; omega]
      rfl
    | cons z t =>
      have hl : (c :: z :: t).length + ys.length - 2 = (z :: t).length + ys.length - 2 + 1 := by simp only [List.length_cons]; omega
      rw [hl]
      show (c * ys.getD ((z :: t).length + ys.length - 2 + 1) 0 + (if (z :: t).length + ys.length - 2 + 1 = 0 then 0 else pm (z :: t) ys ((z :: t).length + ys.length - 2 + 1 - 1))) % 65537 = _
      rw [getD_out (zs := ys) (by simp only [List.length_cons]; omega), if_neg (by omega), Nat.add_sub_cancel, ih (by simp), Int.mul_zero, Int.zero_add, Int.emod_emod_of_dvd _ (Int.dvd_refl _)]
      have : (c :: z :: t).getD ((c :: z :: t).length - 1) 0 = (z :: t).getD ((z :: t).length - 1) 0 := by
        rw [cons_getD, if_neg (by simp)]; rfl
      rw [this]
theorem pmul_full {zs ys : List Int} (h1 : allEl zs = true) (h2 : allEl ys = true) (n1 : neat zs) (n2 : neat ys) (p1 : 0 < zs.length) (p2 : 0 < ys.length) : (pmul zs ys).length = zs.length + ys.length - 1 := by
  have Aa := pmul_len zs ys
  rcases Nat.lt_or_ge (pmul zs ys).length (zs.length + ys.length - 1) with h | h
  · exfalso
    have h3 := getD_out (zs := pmul zs ys) (i := zs.length + ys.length - 2) (by omega)
    rw [pmul_getD, pm_lead zs ys p1 p2] at h3
    have e1 : zs.getD (zs.length - 1) 0 ≠ 0 := by rcases n1 with e | e; · omega
                                                  · exact e
    have e2 : ys.getD (ys.length - 1) 0 ≠ 0 := by rcases n2 with e | e; · omega
                                                  · exact e
    exact prod_ne ((el_iff _).2 (el_at h1 _)) ((el_iff _).2 (el_at h2 _)) e1 e2 h3
  · omega
end M
namespace M
theorem pm_snoc0 (zs g:List Int) (i:Nat):pm (zs++[0]) g i=pm zs g i:=by
 rw [pm_snoc];have:=pm_bd zs g i;have e:(if zs.length≤i then 0*g.getD (i-zs.length) 0 else 0)=0:=(by split <;> simp);rw [e,Int.add_zero,Int.emod_eq_of_lt this.1 this.2]
theorem pm_tl (zs g:List Int) (i k:Nat) (hk:k≤zs.length):pm (zs.take (tl zs k)) g i=pm (zs.take k) g i:=by
 induction k with
 | zero=>rfl
 | succ k ih =>
  unfold tl;by_cases h:zs.getD k 0=0
  · rw [if_pos h,ih (by omega),← take_snoc (by omega),h,pm_snoc0]
  · rw [if_neg h]
theorem pm_trim (zs g:List Int) (i:Nat):pm (trim zs) g i=pm zs g i:=by
 unfold trim;rw [pm_tl zs g i _ (Nat.le_refl _),List.take_length]
structure Div (f g q r : List Int) : Prop where
 nq:neat q
 nr:neat r
 aq:allEl q=true
 ar:allEl r=true
 short:r.length<g.length
 eq:∀ i,f.getD i 0=(pm q g i+r.getD i 0) % 65537
end M
theorem sees_all {w:World} {a:Option Addr} {n c:Nat} {zs:List Int} (h:Sees w a n c zs):∀ ad,a=some ad→∀ j u,(zs.map (Value.int .i64))[j]? = some u→w.cell? (ad.add j)=some u:=by
 have:=sees_news h n (Nat.le_refl _);rw [List.take_of_length_le (by rw [h.len];exact Nat.le_refl _)] at this;exact this
def M.rowAt (zs ys:List Int) (i k t:Nat):Int:=if i≤t∧t<i+k then M.pm (zs.take (i+1)) ys t else M.pm (zs.take i) ys t
theorem M.pm_take {zs:List Int} (ys:List Int) {i:Nat} (h:i<zs.length) (t:Nat):M.pm (zs.take (i+1)) ys t=(M.pm (zs.take i) ys t+(if i≤t then zs.getD i 0*ys.getD (t-i) 0 else 0)) % 65537:=by
 rw [← take_snoc h,M.pm_snoc,List.length_take,Nat.min_eq_left (Nat.le_of_lt h)]
theorem M.row_start (zs ys:List Int) (N i:Nat):M.tab N (M.pm (zs.take i) ys)=M.tab N (M.rowAt zs ys i 0):=
 M.tab_congr fun t _=>by unfold M.rowAt;rw [if_neg (by omega)]
theorem M.row_old (zs ys:List Int) (i k:Nat):M.rowAt zs ys i k (i+k)=M.pm (zs.take i) ys (i+k):=by unfold M.rowAt;rw [if_neg (by omega)]
theorem M.row_step {zs ys:List Int} {N i k:Nat} (h:i<zs.length):(M.tab N (M.rowAt zs ys i k)).set (i+k) ((M.pm (zs.take i) ys (i+k)+zs.getD i 0*ys.getD k 0) % 65537)=M.tab N (M.rowAt zs ys i (k+1)):=by
 rw [M.tab_set];apply M.tab_congr;intro t _;unfold M.rowAt;by_cases e:t=i+k
 ·
  subst e;rw [if_pos rfl,if_pos (by omega),M.pm_take ys h,if_pos (by omega),Nat.add_sub_cancel_left]
 ·
  rw [if_neg e];by_cases h2:i≤t∧t<i+k
  · rw [if_pos h2,if_pos (by omega)]
  · rw [if_neg h2,if_neg (by omega)]
theorem M.row_end {zs ys:List Int} {N i:Nat} (h:i<zs.length):M.tab N (M.rowAt zs ys i ys.length)=M.tab N (M.pm (zs.take (i+1)) ys):=by
 apply M.tab_congr;intro t _;unfold M.rowAt;by_cases h2:i≤t∧t<i+ys.length
 · rw [if_pos h2]
 ·
  rw [if_neg h2,M.pm_take ys h];have hb:=M.pm_bd (zs.take i) ys t;by_cases h3:i≤t
  · rw [if_pos h3,M.getD_out (zs:=ys) (by omega),Int.mul_zero,Int.add_zero,Int.emod_eq_of_lt hb.1 hb.2]
  · rw [if_neg h3,Int.add_zero,Int.emod_eq_of_lt hb.1 hb.2]
set_option maxHeartbeats 4000000 in
theorem l2Mul_pos {a b:Option Addr} {n m c d:Nat} {zs ys:List Int} (w:World) (hz:Sees w a n c zs) (hy:Sees w b m d ys) (ha:M.allEl zs=true) (hb:M.allEl ys=true) (hn:n≤20000) (hm:m≤20000) (h0:0<n) (h1:0<m) :
  Calls Tryz.prog 114 #[.slice a n c,.slice b m d] w fun e w'=>∃ a' l c',e=.returned (.slice a' l c')∧Owns 2 w' w.heap.size a' l c' (M.pmul zs ys)∧Below w.heap.size w w':=by
 obtain ⟨b1,o1,rfl,Ea⟩:=hz.at h0;obtain ⟨b2,o2,rfl,Fa⟩:=hy.at h1;have l1:b1<w.heap.size:=World.block_lt_of_cell? w _ (Ea 0 h0);have l2:b2<w.heap.size:=World.block_lt_of_cell? w _ (Fa 0 h1);have Gb:=Hd (Ea);have Hb:=Hd (Fa);have Ga:H9 (zs.length=n):=hz.len;have Ib:H9 (ys.length=m):=hy.len;have HA:=Hd (ha);have HB:=Hd (hb)
 have HE:H9 (M.pmul zs ys=M.trim (M.tab (n+m-1) (M.pm zs ys))):=by
  show _=_;unfold M.pmul;rw [hz.len,hy.len,if_neg (by omega)]
 obtain ⟨i0,hi,La,Na,Oa⟩:=info_parts info_i64;obtain ⟨N,hN⟩:∃ N,N=n+m-1:=⟨_,rfl⟩;have HN:=Hd (hN);have Pa:n+m=N+1:=(by omega);have bz:((n:Int) == 0)=false:=(by simp;omega);have bm:((m:Int) == 0)=false:=(by simp;omega);clear hz hy ha hb Ea Fa hN;have Aa:=Hd (Pa);clear Pa;go_enter Tryz.func114,Tryz.ntmps114;(go_wp2_with (at_make;refine wpList_make_full _ rfl _ _ 24 rfl w.heap.size 2 i0 (it 0) 1 Tryz.underlying24 hi La Na .i64 .i64 _ _ N rfl rfl (by have:=Aa.o;omega) (by have:=Aa.o;omega) (by rw [Oa];have:=Aa.o;omega) (by unfold maxLen;have:=Aa.o;omega) (Nat.le_refl _) ?_));intro w1 Ha hg
 have Qa:H9 (Owns 2 w1 w.heap.size (some ⟨w.heap.size,0,none⟩) N N (M.tab N (M.pm (zs.take 0) ys))):=by
  show w1.ownsRow _ _ _ _ _ _;rw [made_ints] at Ha
  have e:M.tab N (M.pm (zs.take 0) ys)=List.replicate N 0:=by
   apply List.ext_getElem (by simp [M.tab]);intro i h1 h2;simp [M.tab,M.pm]
  rw [e];exact Ha
 have Ra:H9 (Below w.heap.size w w1):=below_grown hg;clear Ha hg hi La Na Oa;go_wp2
 go_loopw [6] (fun i wr=>∃ k:Nat,k≤n∧i=it k∧Owns 2 wr w.heap.size (some ⟨w.heap.size,0,none⟩) N N (M.tab N (M.pm (zs.take k) ys))∧Below w.heap.size w wr) (fun i _=>n-(intOf i).toNat)
 case atStart=>exact ⟨0,by omega,rfl,Qa.o,Ra.o⟩
 case round =>
  obtain ⟨i,hi,rfl,Sa,Ta⟩:=hrel;have Ua:H9 (Owns 2 wr w.heap.size (some ⟨w.heap.size,0,none⟩) N N (M.tab N (M.pm (zs.take i) ys))):=Sa;have Ba:=Hd (Ta);clear Sa Ta Qa Ra;by_cases Ia:i<n
  ·
   have HS:H9 (Owns 2 wr w.heap.size (some ⟨w.heap.size,0,none⟩) N N (M.tab N (M.rowAt zs ys i 0))):=(by show Owns _ _ _ _ _ _ _;rw [← M.row_start];exact Ua.o);have hI:(i:Int)<(n:Int):=(by omega);go_wp2
   go_loopw [7] (fun q wv=>∃ k:Nat,k≤m∧q=it k∧Owns 2 wv w.heap.size (some ⟨w.heap.size,0,none⟩) N N (M.tab N (M.rowAt zs ys i k))∧Below w.heap.size w wv) (fun q _=>m-(intOf q).toNat)
   case atStart=>exact ⟨0,by omega,rfl,HS.o,Ba.o⟩
   case round =>
    obtain ⟨k,hk,rfl,Va,Wa⟩:=hrel;have Ja:H9 (Owns 2 wr w.heap.size (some ⟨w.heap.size,0,none⟩) N N (M.tab N (M.rowAt zs ys i k))):=Va;have Ca:=Hd (Wa);clear Va Wa;by_cases Jb:k<m
    ·
     have Xa:i+k<N:=(by have:=Aa.o;omega);have e1:wr.cell? ⟨b1,o1+i,none⟩=some (it (zs.getD i 0)):=(Ca.o.cell (p:=⟨b1,o1+i,none⟩) l1).trans (Gb.o i Ia);have e2:wr.cell? ⟨b2,o2+k,none⟩=some (it (ys.getD k 0)):=(Ca.o.cell (p:=⟨b2,o2+k,none⟩) l2).trans (Hb.o k Jb);obtain ⟨g,Ka,_,_,Ya,Za⟩:=Ja.o.block (by omega);simp only [Option.some.injEq,Addr.mk.injEq,and_true] at Ka;have e3:=Ya (i+k) Xa;have f3:=Za (i+k);rw [← Ka] at e3 f3;rw [M.tab_get _ _ _ Xa,M.row_old] at e3;have Da:H9 ((M.tab N (M.rowAt zs ys i k)).set (i+k) ((M.pm (zs.take i) ys (i+k)+zs.getD i 0*ys.getD k 0) % 65537)=M.tab N (M.rowAt zs ys i (k+1))):=M.row_step (by rw [Ga.o];exact Ia);have Ab:=M.el_at HA.o i;have Bb:=M.el_at HB.o k;have Cb:=M.pm_bd (zs.take i) ys (i+k);generalize zs.getD i 0=x at e1 Ab Da;generalize ys.getD k 0=y at e2 Bb Da;generalize M.pm (zs.take i) ys (i+k)=v at e3 Cb Da;obtain ⟨x0,x1⟩:=Ab;obtain ⟨y0,y1⟩:=Bb;obtain ⟨v0,v1⟩:=Cb;obtain ⟨m0,m1⟩:=M.mul_bd x0 x1 y0 y1;have hJ:(k:Int)<(m:Int):=(by omega);have hK:(i:Int)+(k:Int)<(N:Int):=(by omega);have Ob:(0:Int)≤(i:Int)+(k:Int):=(by omega);have Pb:b1≠w.heap.size:=(by omega);have Qb:b2≠w.heap.size:=(by omega);clear Ka Ya Za;go_wp2
     go_region
     go_wp2;go_roundw
     case rel =>
      refine ⟨k+1,by omega,by go_num,?_,(Ca.o.setCell (Nat.le_refl _) _).drew⟩;rw [← Da.o];exact World.ownsRow.drew (Ja.o.set (i+k) _)
     case measure=>simp [intOf];omega
    ·
     have hkm':k=m:=by omega
     have HF:H9 (Owns 2 wr w.heap.size (some ⟨w.heap.size,0,none⟩) N N (M.tab N (M.pm (zs.take (i+1)) ys))):=by
      show Owns _ _ _ _ _ _ _;have h:=Ja.o;rw [hkm',← Ib.o,M.row_end (by rw [Ga.o];exact Ia)] at h;exact h
     clear hkm';go_wp2;go_roundw
     case rel=>exact ⟨i+1,by omega,by go_num,HF.o,Ca.o⟩
     case measure=>simp [intOf];omega
  ·
   have Db:i=n:=by omega
   have HF:H9 (Owns 2 wr w.heap.size (some ⟨w.heap.size,0,none⟩) N N (M.tab N (M.pm zs ys))):=by
    show Owns _ _ _ _ _ _ _;have h:=Ua.o;rw [List.take_of_length_le (by rw [Ga.o,Db];exact Nat.le_refl _)] at h;exact h
   have Kb:N≤1048576:=(by have:=Aa.o;omega);clear Db;(go_wp2_with fail);refine (l2Trim_any _ HF.o.sees Kb).mono ?_;rintro e w4 ⟨a4,l4,c4,rfl,Eb,Fb⟩
   have Lb:H9 (Owns 2 w4 w.heap.size a4 l4 c4 (M.pmul zs ys)):=by
    show Owns _ _ _ _ _ _ _;rw [HE.o,← HN.o];exact Eb.mono Ba.o.size
   have Nb:=Hd (Ba.o.trans (Fb.mono Ba.o.size));clear Eb Fb;go_wp2;go_ret;exact ⟨a4,l4,c4,rfl,Lb.o,Nb.o⟩
set_option maxHeartbeats 1000000 in
theorem l2Mul_any {a b:Option Addr} {n m c d:Nat} {zs ys:List Int} (w:World) (hz:Sees w a n c zs) (hy:Sees w b m d ys) (ha:M.allEl zs=true) (hb:M.allEl ys=true) (hn:n≤20000) (hm:m≤20000) :
  Calls Tryz.prog 114 #[.slice a n c,.slice b m d] w fun e w'=>∃ a' l c',e=.returned (.slice a' l c')∧Owns 2 w' w.heap.size a' l c' (M.pmul zs ys)∧Below w.heap.size w w':=by
 by_cases h0:n=0
 ·
  have E:H9 (M.pmul zs ys=[]):=(by show _=_;unfold M.pmul;rw [if_pos (.inl (hz.len.trans h0))]);have bz:((n:Int) == 0)=true:=(by simp [h0]);clear hz hy ha hb h0;go_enter Tryz.func114,Tryz.ntmps114;go_wp2;go_ret;refine ⟨_,0,_,rfl,?_,(Below.refl _ _).alloc (Nat.le_refl _) _⟩;rw [E.o];exact World.ownsRow_made w #[] 0 (Nat.le_refl _) (by unfold maxLen;omega) rfl
 ·
  by_cases h1:m=0
  ·
   have E:H9 (M.pmul zs ys=[]):=(by show _=_;unfold M.pmul;rw [if_pos (.inr (hy.len.trans h1))]);have bz:((n:Int) == 0)=false:=(by simp [h0]);have bm:((m:Int) == 0)=true:=(by simp [h1]);clear hz hy ha hb h0 h1;go_enter Tryz.func114,Tryz.ntmps114;go_wp2;go_ret;refine ⟨_,0,_,rfl,?_,(Below.refl _ _).alloc (Nat.le_refl _) _⟩;rw [E.o];exact World.ownsRow_made w #[] 0 (Nat.le_refl _) (by unfold maxLen;omega) rfl
  · exact l2Mul_pos w hz hy ha hb hn hm (by omega) (by omega)
namespace M
theorem pm_set {O:List Int} (g:List Int) {k:Nat} (q:Int) (hk:k<O.length) (h0:O.getD k 0=0) (t:Nat):pm (O.set k q) g t=(pm O g t+(if k≤t then q*g.getD (t-k) 0 else 0)) % 65537:=by
 induction O generalizing k t with
 | nil=>simp at hk
 | cons c r ih =>
  cases k with
  | zero =>
   have hc:c=0:=h0;subst hc;rw [List.set_cons_zero,if_pos (Nat.zero_le _),Nat.sub_zero];show (q*g.getD t 0+(if t=0 then 0 else pm r g (t-1))) % 65537=((0*g.getD t 0+(if t=0 then 0 else pm r g (t-1))) % 65537+q*g.getD t 0) % 65537;generalize q*g.getD t 0=p;generalize (if t=0 then 0 else pm r g (t-1))=s;rw [Int.zero_mul];omega
  | succ k =>
   rw [List.set_cons_succ];have h1:r.getD k 0=0:=(by rw [cons_getD,if_neg (by omega)] at h0;simpa using h0);show (c*g.getD t 0+(if t=0 then 0 else pm (r.set k q) g (t-1))) % 65537=((c*g.getD t 0+(if t=0 then 0 else pm r g (t-1))) % 65537+_) % 65537;generalize c*g.getD t 0=p;by_cases ht:t=0
   · rw [if_pos ht,if_pos ht,if_neg (by omega)];omega
   ·
    rw [if_neg ht,if_neg ht,ih (by simpa using hk) h1];by_cases h2:k+1≤t
    ·
     rw [if_pos (by omega),if_pos h2,show t-(k+1)=t-1-k by omega];generalize q*g.getD (t-1-k) 0=u;omega
    · rw [if_neg (by omega),if_neg h2];omega
structure DInv (f g R O : List Int) (k : Nat) : Prop where
 lr:R.length=f.length
 lo:O.length=f.length-g.length+1
 ar:allEl R=true
 ao:allEl O=true
 eq:∀ t,f.getD t 0=(pm O g t+R.getD t 0) % 65537
 zero:∀ t,k+g.length-1≤t→R.getD t 0=0
 oz:∀ j,j<k→O.getD j 0=0
def restAt (R g:List Int) (q:Int) (i j t:Nat):Int:=if i≤t∧t<i+j then (R.getD t 0+(65537-q)*g.getD (t-i) 0) % 65537 else R.getD t 0
theorem pm_zeros (n:Nat) (g:List Int) (t:Nat):pm (List.replicate n 0) g t=0:=by
 induction n generalizing t with
 | zero=>rfl
 | succ n ih =>
  rw [List.replicate_succ];show (0*g.getD t 0+(if t=0 then 0 else pm (List.replicate n 0) g (t-1))) % 65537=0;by_cases h:t=0
  · rw [if_pos h];simp
  · rw [if_neg h,ih];simp
theorem replicate_getD (n i:Nat):(List.replicate n (0:Int)).getD i 0=0:=by
 rw [List.getD_eq_getElem?_getD,List.getElem?_replicate];split <;> rfl
theorem dinv_start {f g:List Int} (af:allEl f=true):DInv f g f (List.replicate (f.length-g.length+1) 0) (f.length-g.length+1):=by
 refine ⟨rfl,by simp,af,?_,fun t=>?_,fun t ht=>getD_out (by omega),fun j _=>replicate_getD _ _⟩
 · unfold allEl;rw [List.all_eq_true];intro x hx;rw [List.eq_of_mem_replicate hx];decide
 ·
  rw [pm_zeros,Int.zero_add];have:=el_at af t;rw [Int.emod_eq_of_lt this.1 this.2]
theorem lead_cancel {a b:Int} (ha:0≤a∧a<65537) (hb:0≤b∧b<65537) (b0:b≠0):a*inv b % 65537*b % 65537=a:=by
 have ea:=(el_iff a).2 ha;have eb:=(el_iff b).2 hb
 have h:mul (mul a (inv b)) b=a:=by
  rw [mul_assoc' ea (el_inv eb b0) eb,mul_comm' b (inv b),mul_inv eb b0,mul_one' ea]
 rw [mul_in (el_mul ea (el_inv eb b0)) eb,mul_in ea (el_inv eb b0)] at h;exact h
theorem dinv_step {f g R O:List Int} {k:Nat} (ag:allEl g=true) (g0:0<g.length) (gl:g.getD (g.length-1) 0≠0) (h:DInv f g R O (k+1)) (hk:k+g.length≤f.length) (q:Int) (hq:q=R.getD (k+g.length-1) 0*inv (g.getD (g.length-1) 0) % 65537) :
  DInv f g (tab f.length (restAt R g q k g.length)) (O.set k q) k:=by
 have Aa:∀ t,(tab f.length (restAt R g q k g.length)).getD t 0=restAt R g q k g.length t:=fun t=>by
  rw [tab_getD];by_cases ht:t<f.length
  · rw [if_pos ht]
  · rw [if_neg ht];unfold restAt;rw [if_neg (by omega)];exact (getD_out (by rw [h.lr];omega)).symm
 have Ba:0≤q∧q<65537:=(by rw [hq];omega);have Ca:k<O.length:=(by rw [h.lo];omega);refine ⟨tab_len _ _,by rw [List.length_set];exact h.lo,?_,?_,fun t=>?_,fun t ht=>?_,fun j hj=>?_⟩
 ·
  apply all_tab;intro t _;unfold restAt
  split
  · exact el_mod _
  · exact (el_iff _).2 (el_at h.ar t)
 ·
  unfold allEl;rw [List.all_eq_true];intro x hx
  rcases List.mem_or_eq_of_mem_set hx with hx | hx
  · exact List.all_eq_true.1 h.ao x hx
  · rw [hx];exact (el_iff _).2 Ba
 ·
  rw [Aa,pm_set g q Ca (h.oz k (by omega)),h.eq t];unfold restAt;by_cases h1:k≤t
  ·
   rw [if_pos h1];by_cases h2:t<k+g.length
   ·
    rw [if_pos ⟨h1,h2⟩,Int.sub_mul];generalize q*g.getD (t-k) 0=u;generalize pm O g t=v;generalize g.getD (t-k) 0=y;generalize R.getD t 0=x;omega
   · rw [if_neg (by omega),getD_out (zs:=g) (by omega),Int.mul_zero];omega
  · rw [if_neg h1,if_neg (by omega)];omega
 ·
  rw [Aa];unfold restAt;by_cases h2:t<k+g.length
  ·
   rw [if_pos ⟨by omega,h2⟩];have et:t=k+g.length-1:=(by omega);rw [show t-k=g.length-1 by omega,Int.sub_mul];have hc:=lead_cancel (el_at h.ar (k+g.length-1)) (el_at ag (g.length-1)) gl;rw [← hq,← et] at hc;have hb:=el_at h.ar t;generalize q*g.getD (g.length-1) 0=u at hc ⊢;generalize g.getD (g.length-1) 0=y;generalize R.getD t 0=x at hc hb ⊢;omega
  · rw [if_neg (by omega)];exact h.zero t (by omega)
 · rw [List.getD_eq_getElem?_getD,List.getElem?_set,if_neg (by omega),← List.getD_eq_getElem?_getD];exact h.oz j (by omega)
theorem neat_short {L:List Int} {m:Nat} (hn:neat L) (h:∀ t,m≤t→L.getD t 0=0):L.length≤m:=by
 rcases hn with e | e
 · omega
 ·
  rcases Nat.lt_or_ge m L.length with h1 | h1
  · exfalso;exact e (h _ (by omega))
  · exact h1
theorem dinv_end {f g R O:List Int} (g0:0<g.length) (h:DInv f g R O 0):Div f g (trim O) (trim R):=by
 refine ⟨neat_trim _,neat_trim _,all_trim h.ao,all_trim h.ar,?_,fun i=>by rw [pm_trim,getD_trim];exact h.eq i⟩;have:=neat_short (m:=g.length-1) (neat_trim R) (fun t ht=>by rw [getD_trim];exact h.zero t (by omega));omega
theorem div_short {f g:List Int} (nf:neat f) (af:allEl f=true) (hl:f.length<g.length):Div f g [] f:=
 ⟨.inl rfl,nf,rfl,af,hl,fun i=>by
  have:=el_at af i;show _=(0+_) % 65537;rw [Int.zero_add,Int.emod_eq_of_lt this.1 this.2]⟩
theorem horner_short {f g q r:List Int} {c:Int} (hc:0≤c∧c<65537) (h:Div f g q r) (hs:(trim (c::r)).length<g.length):Div (c::f) g (trim (0::q)) (trim (c::r)):=by
 refine ⟨neat_trim _,neat_trim _,all_trim (all_cons (by omega) h.aq),all_trim (all_cons hc h.ar),hs,fun i=>?_⟩;rw [pm_trim,getD_trim,cons_getD,cons_getD];show _=((0*g.getD i 0+(if i=0 then 0 else pm q g (i-1))) % 65537+_) % 65537;rw [Int.zero_mul];by_cases h0:i=0
 · rw [if_pos h0,if_pos h0,if_pos h0];omega
 ·
  rw [if_neg h0,if_neg h0,if_neg h0,h.eq];have:=pm_bd q g (i-1);omega
theorem horner_full {f g q r:List Int} {c:Int} (ag:allEl g=true) (ng:neat g) (hc:0≤c∧c<65537) (h:Div f g q r) (hs:(trim (c::r)).length=g.length) (u:Int)
  (hu:u=(trim (c::r)).getD ((trim (c::r)).length-1) 0*inv (g.getD (g.length-1) 0) % 65537) :
  Div (c::f) g (trim (u::q)) (trim (padd (trim (c::r)) (trim (pscale (trim (pscale g u)) 65536)))):=by
 have g0:0<g.length:=by have:=h.short;omega
 have gl:g.getD (g.length-1) 0≠0:=by
  rcases ng with e | e
  · omega
  · exact e
 have Ca:0≤u∧u<65537:=(by rw [hu];omega);have ac:allEl (trim (c::r))=true:=all_trim (all_cons hc h.ar)
 have Ba:∀ t,(trim (padd (trim (c::r)) (trim (pscale (trim (pscale g u)) 65536)))).getD t 0=((trim (c::r)).getD t 0+g.getD t 0*u % 65537*65536 % 65537) % 65537:=fun t=>by
  rw [getD_trim,padd_getD,getD_trim (pscale _ _),pscale_getD,getD_trim (pscale g u),pscale_getD]
 have hz:∀ t,g.length-1≤t→(trim (padd (trim (c::r)) (trim (pscale (trim (pscale g u)) 65536)))).getD t 0=0:=fun t ht=>by
  rw [Ba];by_cases et:t=g.length-1
  ·
   have Aa:=lead_cancel (el_at ac ((trim (c::r)).length-1)) (el_at ag (g.length-1)) gl;rw [← hu,hs,← et,Int.mul_comm] at Aa;have hb:=el_at ac t;generalize g.getD t 0*u=v at Aa ⊢;generalize (trim (c::r)).getD t 0=x at Aa hb ⊢;omega
  · rw [getD_out (zs:=trim (c::r)) (by omega),getD_out (zs:=g) (by omega)];simp
 refine ⟨neat_trim _,neat_trim _,all_trim (all_cons Ca h.aq),all_trim (all_padd _ _),?_,fun i=>?_⟩
 · have:=neat_short (m:=g.length-1) (neat_trim _) hz;omega
 ·
  rw [pm_trim,Ba,getD_trim,cons_getD,cons_getD];show _=((u*g.getD i 0+(if i=0 then 0 else pm q g (i-1))) % 65537+_) % 65537;rw [Int.mul_comm u];generalize g.getD i 0*u=v;by_cases h0:i=0
  · rw [if_pos h0,if_pos h0,if_pos h0];omega
  ·
   rw [if_neg h0,if_neg h0,if_neg h0,h.eq];have:=pm_bd q g (i-1);omega
end M
namespace M
theorem div_exists {g:List Int} (ag:allEl g=true) (ng:neat g) (g0:0<g.length) (f:List Int) (af:allEl f=true):∃ q r,Div f g q r:=by
 induction f with
 | nil=>exact ⟨[],[],div_short (.inl rfl) rfl g0⟩
 | cons c f ih =>
  have hc:0≤c∧c<65537:=(el_iff c).1 (by unfold allEl at af;rw [List.all_cons] at af;simp only [Bool.and_eq_true] at af;exact af.1);have hf:allEl f=true:=(by unfold allEl at af ⊢;rw [List.all_cons] at af;simp only [Bool.and_eq_true] at af;exact af.2);obtain ⟨q,r,h⟩:=ih hf
  have hl:(trim (c::r)).length≤g.length:=by
   have h1:=len_trim (c::r);rw [List.length_cons] at h1;have h2:=h.short;omega
  by_cases hs:(trim (c::r)).length=g.length
  · exact ⟨_,_,horner_full ag ng hc h hs _ rfl⟩
  · exact ⟨_,_,horner_short hc h (by omega)⟩
theorem div_ev {f g q r:List Int} (h:Div f g q r) (x:Int):ev f x=(ev q x*ev g x+ev r x) % 65537:=by
 have e:ev f x=ev (padd (pmul q g) r) x:=ev_ext x fun i=>by rw [padd_getD,pmul_getD];exact h.eq i
 rw [e,ev_padd,ev_pmul];omega
def lin (a:Int):List Int:=[(65537-a) % 65537,1]
theorem lin_all (a:Int):allEl (lin a)=true:=by
 unfold lin allEl;simp only [List.all_cons,List.all_nil,Bool.and_true,Bool.and_eq_true];exact ⟨el_mod _,by decide⟩
theorem lin_neat (a:Int):neat (lin a):=.inr (by show (1:Int)≠0;decide)
theorem lin_ev (a x:Int):ev (lin a) x=(x+(65537-a)) % 65537:=by
 show ((0*x+1) % 65537*x+(65537-a) % 65537) % 65537=_;rw [Int.zero_mul];show (1*x+(65537-a) % 65537) % 65537=_;rw [Int.one_mul];omega
theorem roots_few (L:Nat):∀ (D xs:List Int),neat D→allEl D=true→D.length=L+1→xs.Nodup→(∀ x∈xs,0≤x∧x<65537∧ev D x=0)→xs.length≤L:=by
 induction L with
 | zero =>
  intro D xs hn ha hl _ hr
  cases xs with
  | nil=>exact Nat.le_refl _
  | cons a t =>
   exfalso
   have h:=(hr a (by simp)).2.2
   match D,hl with
   | [c],_ =>
    have hc:c≠0:=by
     rcases hn with e | e
     · simp at e
     · exact e
    have hb:=el_at ha 0;have hb':0≤c∧c<65537:=hb;have h2:(0*a+c) % 65537=0:=h;rw [Int.zero_mul] at h2;omega
 | succ L ih =>
  intro D xs hn ha hl hd hr
  cases xs with
  | nil=>exact Nat.zero_le _
  | cons a t =>
   have Ca:=hr a (by simp);obtain ⟨q,r,h⟩:=div_exists (lin_all a) (lin_neat a) (by simp [lin]) D ha;have Da:r.length<2:=h.short;have e0:=div_ev h a;have l0:ev (lin a) a=0:=(by rw [lin_ev];omega);rw [Ca.2.2,l0,Int.mul_zero,Int.zero_add] at e0;have Ha:=ev_bd r a;have er:ev r a=0:=by omega
   have Ea:r=[]:=by
    match r,Da,h.nr,h.ar,er with
    | [],_,_,_,_=>rfl
    | [c],_,nr,ar,er =>
     exfalso
     have hb:0≤c∧c<65537:=el_at ar 0;have h2:(0*a+c) % 65537=0:=er;rw [Int.zero_mul] at h2
     rcases nr with e | e
     · simp at e
     · apply e;show c=0;omega
   subst Ea
   have Fa:0<q.length:=by
    rcases Nat.eq_zero_or_pos q.length with e | e
    ·
     exfalso
     have hq:=List.eq_nil_of_length_eq_zero e;subst hq
     rcases hn with e2 | e2
     · omega
     · apply e2;rw [h.eq];rfl
    · exact e
   have Ga:q.length=L+1:=by
    have hp:D=pmul q (lin a):=neat_ext hn (neat_pmul _ _) fun i=>by
     rw [pmul_getD,h.eq];have:=pm_bd q (lin a) i;show (pm q (lin a) i+0) % 65537=_;omega
    have h1:=pmul_full h.aq (lin_all a) h.nq (lin_neat a) Fa (by simp [lin]);rw [← hp,hl] at h1;simp only [lin,List.length_cons,List.length_nil] at h1;omega
   have Ba:=List.nodup_cons.1 hd
   have Ia:=ih q t h.nq h.aq Ga Ba.2 fun x hx=>by
    have Aa:=hr x (by simp [hx]);refine ⟨Aa.1,Aa.2.1,?_⟩;have e1:=div_ev h x;have lx:=lin_ev a x;have Ja:x≠a:=fun e=>Ba.1 (by rw [← e];exact hx);have hb:=ev_bd (lin a) x;have l1:ev (lin a) x≠0:=by rw [lx];omega
    have e2:ev q x*ev (lin a) x % 65537=0:=by
     rw [Aa.2.2] at e1;have e3:ev ([]:List Int) x=0:=rfl;rw [e3,Int.add_zero] at e1;exact e1.symm
    rcases Int.lt_trichotomy (ev q x) 0 with hc | hc | hc
    · have:=(ev_bd q x).1;omega
    · exact hc
    ·
     exfalso
     exact prod_ne ((el_iff _).2 (ev_bd q x)) ((el_iff _).2 hb) (by omega) l1 e2
   simp only [List.length_cons];omega
theorem pscale_len' (zs:List Int) (c:Int):(pscale zs c).length=zs.length:=by simp [pscale]
theorem interp_unique {f h xs:List Int} (nf:neat f) (nh:neat h) (af:allEl f=true) (ah:allEl h=true) (lf:f.length≤xs.length) (lh:h.length≤xs.length) (hd:xs.Nodup) (hx:∀ x∈xs,0≤x∧x<65537∧ev f x=ev h x):f=h:=by
 have hD:trim (padd f (pscale h 65536))=[]:=by
  rcases Nat.eq_zero_or_pos (trim (padd f (pscale h 65536))).length with e | e
  · exact List.eq_nil_of_length_eq_zero e
  ·
   exfalso
   obtain ⟨L,hL⟩:∃ L,(trim (padd f (pscale h 65536))).length=L+1:=⟨(trim (padd f (pscale h 65536))).length-1,by omega⟩
   have h1:=roots_few L _ xs (neat_trim _) (all_trim (all_padd _ _)) hL hd fun x hxx=>by
    obtain ⟨a,b,c⟩:=hx x hxx;refine ⟨a,b,?_⟩;rw [ev_trim,ev_padd,ev_pscale,c];have:=ev_bd h x;omega
   have h2:=len_trim (padd f (pscale h 65536));rw [padd_len,pscale_len',hL] at h2;omega
 refine neat_ext nf nh fun i=>?_;have hi:(trim (padd f (pscale h 65536))).getD i 0=0:=(by rw [hD];rfl);rw [getD_trim,padd_getD,pscale_getD] at hi;have a1:=el_at af i;have a2:=el_at ah i;omega
end M
namespace M
theorem nodup_iff (xs:List Int):xs.Nodup↔∀ i j,i<j→j<xs.length→xs.getD i 0≠xs.getD j 0:=by
 unfold List.Nodup;rw [List.pairwise_iff_getElem]
 constructor
 ·
  intro h i j Aa hj;have:=h i j (by omega) hj Aa;simpa [List.getD_eq_getElem?_getD,List.getElem?_eq_getElem hj,List.getElem?_eq_getElem (show i<xs.length by omega)] using this
 ·
  intro h i j hi hj Aa;have:=h i j Aa hj;simpa [List.getD_eq_getElem?_getD,List.getElem?_eq_getElem hj,List.getElem?_eq_getElem hi] using this
structure Lag (xs f : List Int) (b : Int) (i k : Nat) : Prop where
 fl:allEl f=true
 lf:f.length≤(if i<k then k else k+1)
 vz:∀ j,j<k→j≠i→ev f (xs.getD j 0)=0
 vb:ev f (xs.getD i 0)=b
 b0:b≠0
theorem Lag.bd {xs f:List Int} {b:Int} {i k:Nat} (h:Lag xs f b i k):0≤b∧b<65537:=by rw [← h.vb];exact ev_bd _ _
end M
set_option maxHeartbeats 1000000 in
theorem specPow_in (x:Int) (n:Nat) (w:World) (x0:0≤x) (x1:x<65537) (hn:(n:Int)≤9223372036854775807) :
  Calls Tryz.prog 109 #[.int .i64 x,.int .i64 n] w fun e w'=>e=.returned (.int .i64 (M.pw x n))∧w'=w:=by
 have HS:H9 (M.PInv x n 1 x n):=M.pinv_start x n;have Ba:M.el x=true:=(M.el_iff x).2 ⟨x0,x1⟩;go_enter Tryz.func109,Tryz.ntmps109;(go_wp2_with fail);refine (l1F_any x _).mono ?_;rintro e w' ⟨rfl,rfl⟩;go_wp2
 go_loop [0,1,5] (fun a m out=>∃ (av ov:Int) (k:Nat),0≤av∧av<65537∧0≤ov∧ov<65537∧(k:Int)≤9223372036854775807∧a=it av∧m=it k∧out=it ov∧M.PInv x n ov av k) (fun _ m _=>(intOf m).toNat)
 case atStart=>exact ⟨x,1,n,x0,x1,by omega,by omega,hn,rfl,rfl,rfl,HS.o⟩
 case round =>
  obtain ⟨av,ov,k,a0,a1,o0,o1,hk,rfl,rfl,rfl,Aa⟩:=hrel;have HI:=Hd (Aa);clear Aa HS hn;by_cases hp:0<k
  ·
   by_cases ho:k % 2=1
   ·
    have hb:((k:Int) % 2 == 1)=true:=(by simp;omega);have HO:H9 (k % 2=1):=ho;clear ho;obtain ⟨m0,m1⟩:=M.mul_bd o0 o1 a0 a1;obtain ⟨s0,s1⟩:=M.mul_bd a0 a1 a0 a1;go_wp2
    go_round
    case rel=>exact ⟨_,_,k / 2,Int.emod_nonneg _ (by decide),Int.emod_lt_of_pos _ (by decide),Int.emod_nonneg _ (by decide),Int.emod_lt_of_pos _ (by decide),by omega,rfl,by go_num,rfl,M.pinv_odd HI.o HO.o⟩
    case measure=>simp [intOf];omega
   ·
    have hb:((k:Int) % 2 == 1)=false:=(by simp;omega);have HO:H9 (k % 2=0):=(by show k % 2=0;omega);clear ho;obtain ⟨s0,s1⟩:=M.mul_bd a0 a1 a0 a1;go_wp2
    go_round
    case rel=>exact ⟨_,_,k / 2,Int.emod_nonneg _ (by decide),Int.emod_lt_of_pos _ (by decide),o0,o1,by omega,rfl,by go_num,rfl,M.pinv_even HI.o HO.o⟩
    case measure=>simp [intOf];omega
  ·
   have hz:k=0:=(by omega);subst hz;go_wp2;go_ret;exact ⟨ret_int (M.pinv_end HI.o o0 o1),rfl⟩
theorem specInv_any (a:Int) (w:World) :
  Calls Tryz.prog 107 #[.int .i64 a] w fun e w'=>e=.returned (.int .i64 (M.inv a))∧w'=w:=by
 cases ha:M.el a with
 | true =>
  obtain ⟨a0,a1⟩:=(M.el_iff a).1 ha;by_cases h0:a=0
  ·
   subst h0;have E:H9 (M.inv 0 = -1):=M.inv_0;go_enter Tryz.func107,Tryz.ntmps107;(go_wp2_with fail);refine (l1F_any 0 _).mono ?_;rintro e w' ⟨rfl,rfl⟩;go_wp2;go_ret;exact ⟨ret_int E.o.symm,rfl⟩
  ·
   have E:H9 (M.inv a=M.pw a 65535):=M.inv_in ha h0;have hb:(a == 0)=false:=(by simp [h0]);clear h0;go_enter Tryz.func107,Tryz.ntmps107;(go_wp2_with fail);refine (l1F_any a _).mono ?_;rintro e w' ⟨rfl,rfl⟩;(go_wp2_with fail);refine (specPow_in a 65535 _ a0 a1 (by omega)).mono ?_;rintro e w' ⟨rfl,rfl⟩;go_wp2;go_ret;exact ⟨ret_int E.o.symm,rfl⟩
 | false =>
  have E:H9 (M.inv a = -1):=M.inv_l ha;go_enter Tryz.func107,Tryz.ntmps107;(go_wp2_with fail);refine (l1F_any a _).mono ?_;rintro e w' ⟨rfl,rfl⟩;go_wp2;go_ret;exact ⟨ret_int E.o.symm,rfl⟩
end Go.Proofs.YtfhknkppiidnkaaGreat
