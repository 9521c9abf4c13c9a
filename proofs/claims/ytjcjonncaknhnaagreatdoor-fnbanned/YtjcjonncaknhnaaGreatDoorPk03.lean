import Derived.Test.YtjcjonncaknhnaaGreatDoorPk02
namespace Go.Proofs.YtjcjonncaknhnaaGreatDoor
open Go.RowKit Go.Proofs.Tryz
set_option linter.unusedSimpArgs false
set_option maxHeartbeats 32000000
variable {w w' wr w0:World}{a ca:Option Addr}{n c b o g j B k jb R i N d i' cap:Nat}{ts:List M.Tk}{js:List M.Jb}{zs ys:List Int}{x q:Int}{f:Nat→Int}{m:M.Mc}{t:TypeId}{p:M.Pf}{s:Int×Int}{ps:List (Int×Int)}{row:Option Nat}{v:Value}
section
open Go.ChangeShapes Go.WideShapes
open Go.ChangeShapes Go.WideShapes
theorem bW.kept(h:bW w a n c ts)(hc:∀x i,a=some x→w'.cell? ⟨x.block,i,none⟩=w.cell? ⟨x.block,i,none⟩):bW w' a n c ts:=by
 refine⟨h.len,h.le,h.big,h.no,?_⟩
 rcases h.pos with e | ⟨b,o,e,hp⟩
 ·exact .inl e
 ·exact .inr ⟨b,o,e,fun i hi j hj=>(hc _ _ e).trans (hp i hi j hj)⟩
open Go.ChangeShapes Go.WideShapes
theorem ch{vs:List Value}(hl:vs.length=n)(h:∀j,j<n→w.cell? ⟨b,o+j,none⟩=vs[j]?):w.rangeAt b o vs:=fun j v hv=>by
 have hj:j<vs.length:=by
  rcases Nat.lt_or_ge j vs.length with h' | h'
  ·exact h'
  ·rw[List.getElem?_eq_none h']at hv;cases hv
 exact(h j (by omega)).trans hv
def s9(g n j:Nat)(js:List M.Jb)(wr:World):Prop:=∃qs:List (M.Jb×Option Addr×Nat),qs.map (·.1)=js.take j∧au wr g ((qs++(List.replicate n (M.j0,none,0)).drop j).flatMap iG)∧∀q∈qs,bW wr q.2.1 q.1.ts.length q.2.2 q.1.ts∧∀x,q.2.1=some x→g<x.block
theorem s9.zero(h:au wr g ((List.replicate n (M.j0,none,0)).flatMap iG)):s9 g n 0 js wr:=
 ⟨[],by simp,by simpa using h,fun q hq=>by cases hq⟩
theorem s9.len(h:s9 g n j js wr)(hj:j≤n)(hl:js.length=n):∃vs,au wr g vs∧vs.length=n*18:=by
 obtain⟨qs,h1,h2,_⟩:=h;have hq:qs.length=j:=(by have:=congrArg List.length h1;simpa[hl,hj]using this);exact⟨_,h2,by rw[dS gu,uW,List.length_drop,uS,hq];congr 1;omega⟩
def jN(B:Nat)(w:World)(a:Option Addr)(n c:Nat)(js:List M.Jb):Prop:=∀W:World,(∀p:Addr,B≤p.block→W.cell? p=w.cell? p)→ep W a n c js
theorem jN.sees(h:jN B w a n c js):ep w a n c js:=h w fun _ _=>rfl
open Go.ChangeShapes Go.WideShapes
open Go.ChangeShapes Go.WideShapes
theorem jN.mono{B':Nat}(h:jN B' w a n c js)(hb:B≤B'):jN B w a n c js:=fun W hW=>h W fun p hp=>hW p (by omega)
structure uu(B:Nat)(w:World)(a:Option Addr)(n c:Nat)(zs:List Int):Prop where
 sees:aw w a n c zs
 lo:∀x,a=some x→B≤x.block
theorem uu.below(h:uu B w a n c zs)(hb:m1 w w'):uu B w' a n c zs:=⟨h.sees.below hb,h.lo⟩
end
theorem cm(w:World)(b o:Nat)(cs:List Value):w.grownBy (w.setCells b o cs) (some b):=a8 (World.grownBy.refl _ _) o _
theorem cB{P:Program}{ops:Array Oper}{Q:Exit→Act→World→Prop}{id:Nat}{a:Act}(w:World)(row:Option Nat)(hm:P.follows .mixedOrders=true)
   (h:w.grownBy w.drew row→wpAnyH P .any ops (NoPanic Q) (fun W=>w.grownBy W row) ops.size (Array.replicate ops.size false) a w.drew):(Code.region id ops true).wp P Q a w:=
  wp_region_noPanic (wp_region_held_drew (S:=fun W=>w.grownBy W row) hm (cU _ _) h)
def M.rows(n:Int):Bool:=decide (n=2)||(decide (n=4)||(decide (n=8)||decide (n=16)))
theorem fA{n:Int}(h:M.rows n=true):n=2∨n=4∨n=8∨n=16:=by
 unfold M.rows at h;simpa using h
theorem pJ{n:Int}(h:2≤n):((16:Int).tmod n==0)=M.rows n:=by
 by_cases Aa:n≤16
 ·
  obtain⟨k,rfl⟩:=Int.eq_ofNat_of_zero_le (show 0≤n by omega);have hk:k≤16:=(by omega);have Ba:2≤k:=(by omega);clear h Aa;have:k=2∨k=3∨k=4∨k=5∨k=6∨k=7∨k=8∨k=9∨k=10∨k=11∨k=12∨k=13∨k=14∨k=15∨k=16:=by omega
  rcases this with rfl | rfl | rfl | rfl | rfl | rfl | rfl | rfl | rfl | rfl | rfl | rfl | rfl | rfl | rfl <;> rfl
 ·
  have e:(16:Int).tmod n=16:=Int.tmod_eq_of_lt (by omega) (by omega);rw[e];unfold M.rows;simp;omega
theorem iq(n:Int)(w:World):Rq 176 #[.int .i64 n] w (.bool (M.rows n)):=by
 by_cases h:2≤n
 ·
  have hm:=pJ h;have Aa:((16:Int)%n==0)=M.rows n:=(by rw[←Int.tmod_eq_emod_of_nonneg (by omega)];exact hm);have hz:(n==0)=false:=(by simp;omega);generalize M.rows n=o at *;go_enter func176,ntmps176;go_wp2;go_ret;exact⟨by simp_all,rfl⟩
 ·
  have hm:M.rows n=false:=(by unfold M.rows;simp;omega);rw[hm];go_enter func176,ntmps176;go_wp2;go_ret;exact⟨rfl,rfl⟩
theorem oB(n:Int)(w:World):Rq 164 #[.int .i64 n,.int .i64 16] w (.bool (decide (n=1)||M.rows n)):=by
 go_enter func164,ntmps164;go_wp2
 go_loop [5] (fun k=>∃p:Int,k=it p∧(p=1∨(p=2∧n≠1)∨(p=4∧n≠1∧n≠2)∨(p=8∧n≠1∧n≠2∧n≠4)∨(p=16∧n≠1∧n≠2∧n≠4∧n≠8)∨(p=32∧n≠1∧n≠2∧n≠4∧n≠8∧n≠16))) (fun k=>(33-intOf k).toNat)
 case atStart=>exact⟨1,rfl,.inl rfl⟩
 case round=>
  obtain⟨p,rfl,hp⟩:=hrel;by_cases Aa:p=32
  ·
   subst Aa;have hm:H9 ((decide (n=1)||M.rows n)=false):=(by show _=_;unfold M.rows;simp;omega);clear hp;go_wp2;go_ret;exact⟨aD hm.o.symm,rfl⟩
  ·
   have Ba:p≤16:=(by omega);have Ca:1≤p:=(by omega);by_cases he:p=n
   ·
    have hm:H9 ((decide (n=1)||M.rows n)=true):=(by show _=_;unfold M.rows;simp;omega);have hb:(p==n)=true:=(by simp[he]);clear hp he;go_wp2;go_ret;exact⟨aD hm.o.symm,rfl⟩
   ·
    have hb:(p==n)=false:=(by simp[he]);have HP:=Hd hp;have HE:H9 (p≠n):=he;clear hp he;go_wp2
    go_round
    case rel=>
     have hp:=HP.o;have he:=HE.o;exact⟨2*p,by go_num,by omega⟩
    case measure=>simp[intOf];omega
theorem ew(n:Int)(w:World):Rq 100 #[.int .i64 n] w (.bool (M.rows n)):=by
 by_cases h:2≤n
 ·
  have hm:(decide (n=1)||M.rows n)=M.rows n:=by
   have:decide (n=1)=false:=(by simp;omega);rw[this];rfl
  have C1:=oB n;rw[hm]at C1;go_enter func100,ntmps100;(go_wp2_with fail);refine(C1 _).mono ?_;rintro e w1 ⟨rfl,rfl⟩;go_wp2;go_ret;exact⟨rfl,rfl⟩
 ·
  have hm:M.rows n=false:=(by unfold M.rows;simp;omega);rw[hm];go_enter func100,ntmps100;go_wp2;go_ret;exact⟨rfl,rfl⟩
namespace M
def wkOk(x:Int):Bool:=decide (1≤x)&&decide (x≤9)
def bnGo(last:Int):List Int→Bool
 | []=>true
 | x::l=>(decide (last<x)&&wkOk x)&&bnGo x l
def tkOk(now:Int)(t:Tk):Bool:=(decide (t.l'=0)&&decide (t.due=0))||(!t.done&&(wkOk t.l'&&(decide (now+1≤t.due)&&decide (t.due≤now+5))))
def leased(t:Tk):Bool:=decide (t.l'≠0)
def jbOk(now:Int)(j:Jb):Bool:=(j.m.ok&&(M.sOk j.s&&(M.rows j.rows&&(decide (1≤j.ts.length)&&(decide (j.ts.length≤8)&&j.ts.all (tkOk now))))))&&(!j.gone||(!j.ts.any leased&&!j.ts.all (·.done)))
def jsGo(now uB last:Int):List Jb→Bool
 | []=>true
 | j::l=>((decide (last+1≤j.id)&&decide (j.id≤uB-1))&&jbOk now j)&&jsGo now uB j.id l
def wkT(ts:List Tk):List Int:=(ts.filter leased).map (·.l')
def wks(js:List Jb):List Int:=js.flatMap fun j=>wkT j.ts
def mkOk(now uB:Int)(bs:List Int)(js:List Jb):Bool:=
 (decide (0≤now)&&decide (now≤1000000000))&&((decide (1≤uB)&&decide (uB≤1000000000))&&(bnGo 0 bs&&((decide (js.length≤6)&&jsGo now uB 0 js)&&(decide (wks js).Nodup&&!(wks js).any (fun x=>bs.contains x)))))
def spK(now:Int)(bs:List Int)(t:Tk):Bool:=if t.done||decide (t.l'=0)then decide (t.l'=0)&&decide (t.due=0)else wkOk t.l'&&(!bs.contains t.l'&&(decide (now<t.due)&&decide (t.due≤now+5)))
def spT(now:Int)(bs:List Int)(gone:Bool)(busy:List Int):List Tk→Bool
 | []=>true
 | t::l=>((spK now bs t&&!(gone&&leased t))&&!(leased t&&busy.contains t.l'))&&spT now bs gone (busy++[t.l']) l
def spH(uB last:Int)(j:Jb):Bool:=(decide (1≤j.id)&&decide (j.id≤1000000000))&&(decide (j.id<uB)&&(decide (last<j.id)&&(j.m.ok&&(M.sOk j.s&&(M.rows j.rows&&(decide (1≤j.ts.length)&&decide (j.ts.length≤8)))))))
def spJ(now uB:Int)(bs:List Int)(last:Int)(busy:List Int):List Jb→Bool
 | []=>true
 | j::l=>(spH uB last j&&(spT now bs j.gone busy j.ts&&!(j.gone&&j.ts.all (·.done))))&&spJ now uB bs j.id (busy++j.ts.map (·.l')) l
def spOk(now uB:Int)(bs:List Int)(js:List Jb):Bool:=
 (decide (0≤now)&&decide (now≤1000000000))&&((decide (1≤uB)&&decide (uB≤1000000000))&&(decide (js.length≤6)&&(decide (bs.length≤9)&&(bnGo 0 bs&&spJ now uB bs 0 [] js))))
theorem bnGo_len:∀(bs:List Int) (last:Int),0≤last→bnGo last bs=true→(bs.length:Int)+last≤9∨bs=[]
 | [],_,_,_=>.inr rfl
 | x::l,last,h0,h=>by
  unfold bnGo wkOk at h;simp only[uU,decide_eq_true_eq]at h;obtain⟨⟨h1,h2,h3⟩,h4⟩:=h
  left
  rcases bnGo_len l x (by omega) h4 with e | e
  ·rw[List.length_cons];omega
  ·subst e;simp;omega
theorem spK_iff(now:Int)(bs:List Int)(t:Tk):spK now bs t=true↔tkOk now t=true∧(leased t=true→t.l'∉bs):=by
 unfold spK tkOk leased wkOk;by_cases hd:t.done=true <;> by_cases hw:t.l'=0 <;> simp[hd,hw]
 constructor
 ·rintro⟨h1,h2,h3,h4⟩;exact⟨⟨h1,by omega,h4⟩,h2⟩
 ·rintro⟨⟨h1,h3,h4⟩,h2⟩;exact⟨h1,h2,by omega,h4⟩
theorem wkT_cons(t:Tk)(l:List Tk):wkT (t::l)=if leased t=true then t.l'::wkT l else wkT l:=by
 unfold wkT;rw[List.filter_cons];by_cases h:leased t=true <;> simp[h]
theorem wkT_ne{ts:List Tk}(h:x∈wkT ts):x≠0:=by
 unfold wkT at h;obtain⟨t,ht,rfl⟩:=List.mem_map.1 h;have:=(List.mem_filter.1 ht).2;unfold leased at this;simpa using this
theorem wkT_mem{ts:List Tk}:x∈wkT ts↔x≠0∧x∈ts.map (·.l'):=by
 unfold wkT leased;simp only[List.mem_map,List.mem_filter,decide_eq_true_eq]
 constructor
 ·rintro⟨t,⟨h1,h2⟩,rfl⟩;exact⟨h2,t,h1,rfl⟩
 ·rintro⟨h2,t,h1,rfl⟩;exact⟨t,⟨h1,h2⟩,rfl⟩
theorem spT_iff(now:Int)(bs:List Int)(gone:Bool):∀(ts:List Tk) (busy:List Int),spT now bs gone busy ts=true↔
  (∀t∈ts,tkOk now t=true)∧(gone=true→∀t∈ts,leased t=false)∧(wkT ts).Nodup∧(∀x∈wkT ts,x∉busy)∧(∀x∈wkT ts,x∉bs)
 | [],busy=>by simp[spT,wkT]
 | t::l,busy=>by
  unfold spT;rw[uU,uU,uU,spK_iff,spT_iff now bs gone l];rw[wkT_cons];by_cases hl:leased t=true
  ·
   have hw:t.l'≠0:=(by unfold leased at hl;simpa using hl);rw[if_pos hl];simp only[hl,List.mem_cons,forall_eq_or_imp,List.nodup_cons,Bool.and_true,Bool.true_and,Bool.not_eq_true',List.contains_eq_mem,decide_eq_false_iff_not,uG,List.not_mem_nil,or_false,not_or]
   constructor
   ·
    rintro⟨⟨⟨⟨h1,h2⟩,h3⟩,h4⟩,h5,h6,h7,h8,h9⟩;exact⟨⟨h1,h5⟩,fun hg=>by simp[hg]at h3,⟨fun hm=>(h8 _ hm).2 rfl,h7⟩,⟨h4,fun x hx=>(h8 x hx).1⟩,h2 trivial,h9⟩
   ·
    rintro⟨⟨h1,h5⟩,h3,⟨h4,h7⟩,⟨h6,h8⟩,h2,h9⟩;refine⟨⟨⟨⟨h1,fun _=>h2⟩,?_⟩,h6⟩,h5,fun hg=>(h3 hg).2,h7,fun x hx=>⟨h8 x hx,fun e=>h4 (e ▸ hx)⟩,h9⟩
    cases gone
    ·rfl
    ·exact absurd (h3 rfl).1 (by simp)
  ·
   have hf:leased t=false:=(by simpa using hl);have hw:t.l'=0:=(by unfold leased at hf;simpa using hf);rw[if_neg hl];simp only[hf,List.mem_cons,forall_eq_or_imp,Bool.and_false,Bool.false_and,Bool.not_false,and_true,true_and,Bool.false_eq_true,false_implies,uG,List.not_mem_nil,or_false,not_or]
   constructor
   ·
    rintro⟨h1,h5,h6,h7,h8,h9⟩;exact⟨⟨h1,h5⟩,h6,h7,fun x hx=>(h8 x hx).1,h9⟩
   ·
    rintro⟨⟨h1,h5⟩,h6,h7,h8,h9⟩;exact⟨h1,h5,h6,h7,fun x hx=>⟨h8 x hx,fun e=>wkT_ne hx (e.trans hw)⟩,h9⟩
theorem spJ_iff(now uB:Int)(bs:List Int)(hn:uB≤1000000000):∀(js:List Jb) (last:Int) (busy:List Int),0≤last→(spJ now uB bs last busy js=true↔
  jsGo now uB last js=true∧(wks js).Nodup∧(∀x∈wks js,x∉busy)∧(∀x∈wks js,x∉bs))
 | [],_,_,_=>by simp[spJ,jsGo,wks]
 | j::l,last,busy,h0=>by
  by_cases hid:last+1≤j.id∧j.id≤uB-1
  ·
   have ih:=spJ_iff now uB bs hn l j.id (busy++j.ts.map (·.l')) (by omega);unfold spJ jsGo;have hw:wks (j::l)=wkT j.ts++wks l:=by simp[wks]
   have hh:spH uB last j=(j.m.ok&&(M.sOk j.s&&(M.rows j.rows&&(decide (1≤j.ts.length)&&decide (j.ts.length≤8))))):=by
    unfold spH;rw[show decide (1≤j.id)=true by simp;omega,show decide (j.id≤1000000000)=true by simp;omega,show decide (j.id<uB)=true by simp;omega,show decide (last<j.id)=true by simp;omega]
    rfl
   have Aa:∀x∈wks l,x≠0:=fun x hx=>by
    unfold wks at hx;obtain⟨q,_,hq⟩:=uO.1 hx;exact wkT_ne hq
   rw[uU,uU,uU,spT_iff,ih,hh,hw,List.nodup_append];unfold jbOk;simp only[uU,decide_eq_true_eq,List.all_eq_true,Bool.or_eq_true,Bool.not_eq_true',uG,not_or];have Ba:j.ts.any leased=false↔∀t∈j.ts,leased t=false:=(by simp);rw[Ba]
   constructor
   ·
    rintro⟨⟨⟨a1,a2,a3,a4,a5⟩,⟨b1,b2,b3,b4,b5⟩,c⟩,d1,d2,d3,d4⟩;refine⟨⟨⟨hid,⟨a1,a2,a3,a4,a5,b1⟩,?_⟩,d1⟩,⟨b3,d2,fun x hx y hy e=>?_⟩,?_,?_⟩
    ·
     cases hg:j.gone
     ·exact .inl rfl
     ·rw[hg]at c;exact .inr ⟨b2 hg,by simpa using c⟩
    ·subst e;exact(d3 x hy).2 (wkT_mem.1 hx).2
    ·
     rintro x (h | h)
     ·exact b4 x h
     ·exact(d3 x h).1
    ·
     rintro x (h | h)
     ·exact b5 x h
     ·exact d4 x h
   ·
    rintro⟨⟨⟨-,⟨a1,a2,a3,a4,a5,b1⟩,g⟩,d1⟩,⟨b3,d2,e⟩,f1,f2⟩;refine⟨⟨⟨a1,a2,a3,a4,a5⟩,⟨b1,fun hg=>?_,b3,fun x hx=>f1 x (.inl hx),fun x hx=>f2 x (.inl hx)⟩,?_⟩,d1,d2,fun x hx=>⟨f1 x (.inr hx),fun hm=>e x (wkT_mem.2 ⟨Aa x hx,hm⟩) x hx rfl⟩,fun x hx=>f2 x (.inr hx)⟩
    ·
     rcases g with g | g
     ·rw[hg]at g;cases g
     ·exact g.1
    ·
     rcases g with g | g
     ·rw[g];rfl
     ·rw[g.2];simp
  ·
   constructor
   ·
    intro h;unfold spJ spH at h;simp only[uU,decide_eq_true_eq]at h;exact absurd ⟨by omega,by omega⟩ hid
   ·
    rintro⟨h,-⟩;unfold jsGo at h;simp only[uU,decide_eq_true_eq]at h;exact absurd h.1.1 hid
theorem spOk_eq(now uB:Int)(bs:List Int)(js:List Jb):spOk now uB bs js=mkOk now uB bs js:=by
 rw[Bool.eq_iff_iff];unfold spOk mkOk;simp only[uU,decide_eq_true_eq];have Aa:(!(wks js).any (fun x=>bs.contains x))=true↔∀x∈wks js,x∉bs:=(by simp);rw[Aa]
 constructor
 ·
  rintro⟨a,⟨b1,b2⟩,c,d,e,f⟩;obtain⟨f1,f2,-,f4⟩:=(spJ_iff now uB bs b2 js 0 [] (by omega)).1 f;exact⟨a,⟨b1,b2⟩,e,⟨c,f1⟩,f2,f4⟩
 ·
  rintro⟨a,⟨b1,b2⟩,e,⟨c,f1⟩,f2,f4⟩;refine⟨a,⟨b1,b2⟩,c,?_,e,(spJ_iff now uB bs b2 js 0 [] (by omega)).2 ⟨f1,f2,fun _ _=>List.not_mem_nil,f4⟩⟩
  rcases bnGo_len bs 0 (by omega) e with h | h
  ·omega
  ·subst h;simp
end M
theorem aY{α:Type}{l:List α}(d:α)(hl:l.length=n)(h:k<n):l.drop k=l.getD k d::l.drop (k+1):=by
 rw[List.drop_eq_getElem_cons (by omega),m4,m6 (by omega)];rfl
theorem cF(n lo hi:Int)(w:World):Rq 50 #[.int .i64 n,.int .i64 lo,.int .i64 hi] w (.bool (decide (lo≤n)&&decide (n≤hi))):=by
 by_cases h1:lo≤n
 ·
  go_enter func50,ntmps50;go_wp2;go_ret;exact⟨by simp[h1],rfl⟩
 ·
  go_enter func50,ntmps50;go_wp2;go_ret;exact⟨by simp;omega,rfl⟩
theorem d8(n:Int)(w:World):Rq 55 #[.int .i64 n] w (.bool (M.wkOk n)):=by
 go_enter func55,ntmps55;(go_wp2_with fail);refine(cF _ _ _ _).mono ?_;rintro e wz ⟨rfl,rfl⟩;go_wp2;go_ret;exact⟨rfl,rfl⟩
theorem dY(t:M.Tk)(w:World):Rt 111 #[lO t] w (.bool (M.leased t)):=by
 have h:M.leased t=(t.l' != 0):=(by unfold M.leased;by_cases e:t.l'=0 <;> simp[e]);rw[h];obtain⟨d,x,y⟩:=t;dsimp only[lO];have HB:H9 (m1 w (w.alloc (.cells (eG d x y).toArray 47))):=(m5 _ _).alloc (m3 _) _;go_enter func111,ntmps111;go_wp2;go_ret;exact⟨rfl,HB.o⟩
theorem mf(w:World)(hz:aw w a n c zs):
  Rq 51 #[.slice a n c] w (.bool (M.bnGo 0 zs)):=by
 have bn:(n:Int)≤9223372036854775807:=(by have:=hz.big;have:=hz.le;omega);have HZ:=Hd hz;clear hz;generalize hR:M.bnGo 0 zs=R;have HR:=Hd hR;clear hR;go_enter func51,ntmps51;go_wp2
 go_loop [3,8] (fun l i=>∃(k:Nat) (q:Int),k≤n∧i=it k∧l=it q∧M.bnGo q (zs.drop k)=R) (fun _ i=>n-(intOf i).toNat)
 case atStart=>exact⟨0,0,by omega,rfl,rfl,HR.o⟩
 case round=>
  obtain⟨k,q,hk,rfl,rfl,hg⟩:=hrel;by_cases Ba:k<n
  ·
   obtain⟨b1,o1,rfl,Ca⟩:=HZ.o.at (by omega);have c1:=Ca k Ba
   have hG:((decide (q<zs.getD k 0)&&M.wkOk (zs.getD k 0))&&M.bnGo (zs.getD k 0) (zs.drop (k+1)))=R:=by
    rw[←hg,aY 0 HZ.o.len Ba];rfl
   clear Ca hg;have C1:=d8 (zs.getD k 0);generalize zs.getD k 0=x at c1 hG C1;have HG:=Hd hG;clear hG;have hI:(k:Int)<(n:Int):=(by omega);by_cases hx:x≤q
   ·
    have Ea:H9 (false=R):=(by show false=R;have:=HG.o;rw[show decide (q<x)=false by simp;omega]at this;simpa using this);go_wp2;go_ret;exact⟨aD Ea.o,rfl⟩
   ·
    have hx':q<x:=(by omega);have Aa:H9 ((M.wkOk x&&M.bnGo x (zs.drop (k+1)))=R):=(by show _=_;have:=HG.o;rw[show decide (q<x)=true by simp;omega]at this;simpa using this);clear HG;generalize M.wkOk x=ow at C1 Aa;(go_wp2_with fail);refine(C1 _).mono ?_;rintro e wz ⟨rfl,Da⟩;have Fa:=Da.symm;clear Da;subst Fa
    cases ow with
    | false=>
     go_wp2;go_ret;exact⟨aD Aa.o,rfl⟩
    | true=>
     have Ga:H9 (M.bnGo x (zs.drop (k+1))=R):=(by show _=_;have:=Aa.o;simpa using this);go_wp2
     go_round
     case rel=>exact⟨k+1,x,by omega,by go_num,rfl,Ga.o⟩
     case measure=>simp[intOf];omega
  ·
   go_wp2;go_ret;refine⟨aD ?_,rfl⟩;rw[m9 (by rw[HZ.o.len];omega)]at hg;exact hg
theorem rh(t:M.Tk)(now:Int)(h0:0≤now)(h1:now≤1000000000)(w:World):Rt 261 #[lO t,.int .i64 now] w (.bool (M.tkOk now t)):=by
 unfold M.tkOk;obtain⟨d,x,y⟩:=t;dsimp only[lO];have C1:=d8 x;have C2:=cF y (now+1) (now+5);have HB:H9 (m1 w (w.alloc (.cells (eG d x y).toArray 47))):=(m5 _ _).alloc (m3 _) _;generalize M.wkOk x=ow at *;generalize(decide (now+1≤y)&&decide (y≤now+5))=od at *;by_cases hx:x=0
 ·
  by_cases hy:y=0
  ·
   subst hx;subst hy;go_enter func261,ntmps261;go_wp2;go_ret;exact⟨by simp,HB.o⟩
  ·
   subst hx;have gy:(y==0)=false:=(by simp[hy]);go_enter func261,ntmps261
   cases d with
   | true=>
    go_wp2;go_ret;exact⟨by simp;omega,HB.o⟩
   | false=>
    (go_wp2_with fail);refine(C1 _).mono ?_;rintro e wz ⟨rfl,Aa⟩;have Ba:=Aa.symm;clear Aa;subst Ba
    cases ow with
    | false=>
     go_wp2;go_ret;exact⟨by simp;omega,HB.o⟩
    | true=>
     (go_wp2_with fail);refine(C2 _).mono ?_;rintro e wz ⟨rfl,Aa⟩;have Ba:=Aa.symm;clear Aa;subst Ba;go_wp2;go_ret;refine⟨?_,HB.o⟩;have Ca:¬ y=0:=(by omega);simp[Ca]
 ·
  have gx:(x==0)=false:=(by simp[hx]);go_enter func261,ntmps261
  cases d with
  | true=>
   go_wp2;go_ret;exact⟨by simp;omega,HB.o⟩
  | false=>
   (go_wp2_with fail);refine(C1 _).mono ?_;rintro e wz ⟨rfl,Aa⟩;have Ba:=Aa.symm;clear Aa;subst Ba
   cases ow with
   | false=>
    go_wp2;go_ret;exact⟨by simp;omega,HB.o⟩
   | true=>
    (go_wp2_with fail);refine(C2 _).mono ?_;rintro e wz ⟨rfl,Aa⟩;have Ba:=Aa.symm;clear Aa;subst Ba;go_wp2;go_ret;refine⟨?_,HB.o⟩;have Ca:(decide (x=0)&&decide (y=0))=false:=(by simp;omega);rw[Ca];simp
theorem oV(now:Int)(h0:0≤now)(h1:now≤1000000000)(w:World)(hz:bW w a n c ts):
  Rt 189 #[.slice a n c,.int .i64 now] w (.bool (decide (1≤n)&&(decide (n≤8)&&ts.all (M.tkOk now)))):=by
 have bn:(n:Int)≤9223372036854775807:=(by have:=hz.big;have:=hz.le;omega);have HZ:=Hd hz;clear hz;by_cases hs:1≤n∧n≤8
 ·
  obtain⟨Ga,Ha⟩:=hs;have Ja:(1:Int)≤(n:Int):=(by omega);have Ka:(n:Int)≤8:=(by omega);rw[show decide (1≤n)=true by simpa using Ga,show decide (n≤8)=true by simpa using Ha,Bool.true_and,Bool.true_and];generalize hR:ts.all (M.tkOk now)=R;have HR:=Hd hR;clear hR;go_enter func189,ntmps189;go_wp2
  go_loopw [17] (fun i wr=>∃k:Nat,k≤n∧i=it k∧(ts.drop k).all (M.tkOk now)=R∧m1 w wr) (fun i _=>n-(intOf i).toNat)
  case atStart=>exact⟨0,by omega,rfl,HR.o,m5 _ _⟩
  case round=>
   obtain⟨k,hk,rfl,hg,Ba⟩:=hrel;have Aa:=Hd Ba;clear Ba;by_cases Ca:k<n
   ·
    obtain⟨b1,o1,rfl,Da⟩:=(HZ.o.below Aa.o).at (by omega)
    have hG:(M.tkOk now (ts.getD k M.t0)&&(ts.drop (k+1)).all (M.tkOk now))=R:=by
     rw[←hg,aY M.t0 HZ.o.len Ca];rfl
    have hA:=Da k Ca;have C1:=rh (ts.getD k M.t0) now h0 h1;generalize ts.getD k M.t0=x at hA hG C1;obtain⟨d,x,y⟩:=x;dsimp only[lO]at C1;have HG:=Hd hG;have a0:wr.cell? ⟨b1,o1+k*3,none⟩=some (.bool d):=hA 0 (by omega);have a1:wr.cell? ⟨b1,o1+k*3+1,none⟩=some (it x):=hA 1 (by omega);have a2:wr.cell? ⟨b1,o1+k*3+2,none⟩=some (it y):=hA 2 (by omega);clear Da hA hg hG;generalize M.tkOk now ⟨d,x,y⟩=ow at C1 HG;have hI:(k:Int)<(n:Int):=(by omega);(go_wp2_with fail);refine(C1 _).mono ?_;rintro e w2 ⟨rfl,Ea⟩;have Fa:=Hd ((Aa.o.alloc Aa.o.size _).trans (Ea.mono (Aa.o.alloc Aa.o.size _).size));clear Ea
    cases ow with
    | false=>
     go_wp2;go_ret;exact⟨aD HG.o,Fa.o⟩
    | true=>
     have Ia:H9 ((ts.drop (k+1)).all (M.tkOk now)=R):=(by show _=_;have:=HG.o;simpa using this);go_wp2;go_roundw
     case rel=>exact⟨k+1,by omega,by go_num,Ia.o,Fa.o⟩
     case measure=>simp[intOf];omega
   ·
    go_wp2;go_ret;refine⟨aD ?_,Aa.o⟩;rw[m9 (by rw[HZ.o.len];omega)]at hg;exact hg
 ·
  have hF:(decide (1≤n)&&(decide (n≤8)&&ts.all (M.tkOk now)))=false:=by
   by_cases h:1≤n
   ·rw[show decide (n≤8)=false by simp;omega];simp
   ·rw[show decide (1≤n)=false by simp;omega];rfl
  rw[hF];by_cases h:1≤n
  ·
   have g1:(8:Int)<(n:Int):=(by omega);have g2:¬ (n:Int)<1:=(by omega);go_enter func189,ntmps189;go_wp2;go_ret;exact⟨rfl,m5 _ _⟩
  ·
   have g1:(n:Int)<1:=(by omega);go_enter func189,ntmps189;go_wp2;go_ret;exact⟨rfl,m5 _ _⟩
theorem jH(w:World)(hz:bW w a n c ts):
  Calls prog 231 #[.slice a n c,.func (.func 111) #[] #[]] w fun e w'=>∃r:Int,e=.returned (.int .i64 r)∧decide (0≤r)=ts.any M.leased∧m1 w w':=by
 have bn:(n:Int)≤9223372036854775807:=(by have:=hz.big;have:=hz.le;omega);have Ha:(n:Int)≤c:=(by have:=hz.le;omega);have HZ:=Hd hz;clear hz;generalize hR:ts.any M.leased=R;have HR:=Hd hR;clear hR;go_enter func231,ntmps231;go_wp2
 go_loopw [8] (fun i wr=>∃k:Nat,k≤n∧i=it k∧(ts.drop k).any M.leased=R∧m1 w wr) (fun i _=>n-(intOf i).toNat)
 case atStart=>exact⟨0,by omega,rfl,HR.o,m5 _ _⟩
 case round=>
  obtain⟨k,hk,rfl,hg,Ba⟩:=hrel;have Aa:=Hd Ba;clear Ba;by_cases Ca:k<n
  ·
   obtain⟨b1,o1,rfl,Da⟩:=(HZ.o.below Aa.o).at (by omega)
   have hG:(M.leased (ts.getD k M.t0)||(ts.drop (k+1)).any M.leased)=R:=by
    rw[←hg,aY M.t0 HZ.o.len Ca];rfl
   have hA:=Da k Ca;have C1:=dY (ts.getD k M.t0);generalize ts.getD k M.t0=x at hA hG C1;obtain⟨d,x,y⟩:=x;dsimp only[lO]at C1;have HG:=Hd hG;have a0:wr.cell? ⟨b1,o1+k*3,none⟩=some (.bool d):=hA 0 (by omega);have a1:wr.cell? ⟨b1,o1+k*3+1,none⟩=some (it x):=hA 1 (by omega);have a2:wr.cell? ⟨b1,o1+k*3+2,none⟩=some (it y):=hA 2 (by omega);clear Da hA hg hG;generalize M.leased ⟨d,x,y⟩=ow at C1 HG;have hI:(k:Int)<(n:Int):=(by omega);(go_wp2_with fail);refine(C1 _).mono ?_;rintro e w2 ⟨rfl,Ea⟩;have Fa:=Aa.t Ea;clear Ea
   cases ow with
   | true=>
    go_wp2;go_ret;refine⟨_,rfl,?_,Fa.o⟩;have:=HG.o;rw[Bool.true_or]at this;rw[←this];simp
   | false=>
    have Ga:H9 ((ts.drop (k+1)).any M.leased=R):=(by show _=_;have:=HG.o;simpa using this);go_wp2;go_roundw
    case rel=>exact⟨k+1,by omega,by go_num,Ga.o,Fa.o⟩
    case measure=>simp[intOf];omega
  ·
   go_wp2;go_ret;refine⟨_,rfl,?_,Aa.o⟩;rw[m9 (by rw[HZ.o.len];omega)]at hg;rw[←hg];rfl
theorem ia(w:World)(hz:bW w a n c ts):
  Rt 190 #[.slice a n c,.func (.func 111) #[] #[]] w (.bool (ts.any M.leased)):=by
 have HZ:=Hd hz;clear hz;go_enter func190,ntmps190;(go_wp2_with fail);refine(jH _ HZ.o).mono ?_;rintro e w1 ⟨r,rfl,hr,hb⟩;have HR:=Hd hr;have HB:=Hd hb;clear hr hb;go_wp2;go_ret;exact⟨aD HR.o,HB.o⟩
theorem lQ(d:M.Tk)(hl:ts.length=n)(h:k<n):((ts.take (k+1)).filter (·.done)).length=(if(ts.getD k d).done=true then((ts.take k).filter (·.done)).length+1 else((ts.take k).filter (·.done)).length):=by
 rw[uI (by omega),List.filter_append,uW,m4,m6 (by omega)];by_cases e:ts[k].done=true <;> simp[e]
set_option maxRecDepth 10000 in
theorem rR(m:Nat)(t:M.Tk)(hm:(m:Int)+1≤9223372036854775807)(w:World):Rt 132 #[.int .i64 m,lO t] w (.int .i64 ((if t.done=true then m+1 else m:Nat):Int)):=by
 obtain⟨d,x,y⟩:=t;dsimp only[lO];have HB:H9 (m1 w (w.alloc (.cells (eG d x y).toArray 47))):=(m5 _ _).alloc (m3 _) _
 cases d with
 | true=>
  rw[if_pos rfl];have hc:((m+1:Nat):Int)=(m:Int)+1:=(by omega);rw[hc];clear hc;go_enter func132,ntmps132;go_wp2;go_ret;exact⟨rfl,HB.o⟩
 | false=>
  rw[if_neg (by decide)];go_enter func132,ntmps132;go_wp2;go_ret;exact⟨rfl,HB.o⟩
theorem mj(w:World)(hz:bW w a n c ts):
  Rt 131 #[.slice a n c,.int .i64 0,.func (.func 132) #[] #[]] w (.int .i64 ((ts.filter (·.done)).length:Nat)):=by
 have bn:(n:Int)≤9223372036854775807:=(by have:=hz.big;have:=hz.le;omega);have Ha:(n:Int)≤c:=(by have:=hz.le;omega);have HZ:=Hd hz;clear hz;go_enter func131,ntmps131;go_wp2
 go_loopw [1,11] (fun l i wr=>∃k:Nat,k≤n∧i=it k∧l=it (((ts.take k).filter (·.done)).length:Nat)∧m1 w wr) (fun _ i _=>n-(intOf i).toNat)
 case atStart=>exact⟨0,by omega,rfl,rfl,m5 _ _⟩
 case round=>
  obtain⟨k,hk,rfl,rfl,Ba⟩:=hrel;have Aa:=Hd Ba;clear Ba;by_cases Ca:k<n
  ·
   obtain⟨b1,o1,rfl,Da⟩:=(HZ.o.below Aa.o).at (by omega);have hG:=lQ M.t0 HZ.o.len Ca;have Fa:((ts.take k).filter (·.done)).length≤k:=m8 (List.length_filter_le _ _) (by rw[uZ];omega);have hA:=Da k Ca;generalize ts.getD k M.t0=x at hA hG;obtain⟨d,x,y⟩:=x;dsimp only at hG;generalize((ts.take k).filter (·.done)).length=m at hG Fa;have HG:=Hd hG;have a0:wr.cell? ⟨b1,o1+k*3,none⟩=some (.bool d):=hA 0 (by omega);have a1:wr.cell? ⟨b1,o1+k*3+1,none⟩=some (it x):=hA 1 (by omega);have a2:wr.cell? ⟨b1,o1+k*3+2,none⟩=some (it y):=hA 2 (by omega);clear Da hA hG;have hI:(k:Int)<(n:Int):=(by omega);have Ia:(m:Int)+1≤9223372036854775807:=(by omega);(go_wp2_with fail);refine(rR m ⟨d,x,y⟩ (by omega) _).mono ?_;rintro e w2 ⟨rfl,Ea⟩;have Ga:=Hd ((Aa.o.alloc Aa.o.size _).trans (Ea.mono (Aa.o.alloc Aa.o.size _).size));clear Ea;go_wp2;go_roundw
   case rel=>
    refine⟨k+1,by omega,by go_num,?_,Ga.o⟩;rw[HG.o]
   case measure=>simp[intOf];omega
  ·
   go_wp2;go_ret;refine⟨?_,Aa.o⟩;rw[uD (by rw[HZ.o.len];omega)]
   rfl
theorem kG(w:World)(hc:w.cell? ⟨jb,17,none⟩=some (.slice a n c))(hz:bW w a n c ts):
  Rt 62 #[.pointer (some ⟨jb,0,none⟩)] w (.int .i64 ((ts.filter (·.done)).length:Nat)):=by
 have CF:=mj w hz;generalize(ts.filter (·.done)).length=m at *;clear hz;go_enter func62,ntmps62;(go_wp2_with fail);refine CF.mono ?_;rintro e w1 ⟨rfl,hb⟩;have HB:=Hd hb;clear hb;go_wp2;go_ret;exact⟨rfl,HB.o⟩
theorem mZ(hl:ts.length=n):(((ts.filter (·.done)).length:Nat)==n)=ts.all (·.done):=by
 subst hl;rw[Bool.eq_iff_iff,beq_iff_eq,List.all_eq_true]
 constructor
 ·
  intro h t ht;have:=List.filter_eq_self.1 ((List.filter_sublist (p:=fun t:M.Tk=>t.done) (l:=ts)).eq_of_length h);exact this t ht
 ·
  intro h;rw[List.filter_eq_self.2 h]
theorem fU(w:World)(hc:w.cell? ⟨jb,17,none⟩=some (.slice a n c))(hz:bW w a n c ts):
  Rt 157 #[.pointer (some ⟨jb,0,none⟩)] w (.bool (ts.all (·.done))):=by
 have CD:∀W,W.cell? ⟨jb,17,none⟩=some (.slice a n c)→bW W a n c ts→Rt 62 #[.pointer (some ⟨jb,0,none⟩)] W (it ((ts.filter (·.done)).length:Nat)):=fun W h1 h2=>kG W h1 h2;have HA:=Hd (mZ hz.len);have bn:(n:Int)≤9223372036854775807:=(by have:=hz.big;have:=hz.le;omega);generalize(ts.filter (·.done)).length=m at HA CD;generalize ts.all (·.done)=oa at *;have Fa:((m:Int)==(n:Int))=oa:=(by rw[←HA.o,Bool.eq_iff_iff,beq_iff_eq,beq_iff_eq];omega);go_enter func157,ntmps157;(go_wp2_with fail);have Ca:=Hd hz;clear hz;refine cB w none (by kernel_rfl) fun hHeld=>?_;generalize w.drew=Ga at *;have Ha:H9 (m1 w Ga):=⟨hHeld.os,hHeld.tape,hHeld.output,hHeld.size,fun k hk=>hHeld.block k hk (by simp)⟩;refine tk 0 (.pointer (some ⟨jb,0,none⟩)) ?_ ?_
 ·intro wq Aa;go_simp
 refine tk 2 (.pointer (some ⟨jb,0,none⟩)) ?_ ?_
 ·intro wq Aa;go_simp
 refine tk 3 (.pointer (some ⟨jb,0,none⟩)) ?_ ?_
 ·intro wq Aa;go_simp
 refine tk 4 (.pointer (some ⟨jb,17,none⟩)) ?_ ?_
 ·intro wq Aa;go_simp
 refine tk 5 (.slice a n c) ?_ ?_
 ·intro wp Ia;have c0:=Ia.cell hc (by simp);go_simp
 refine tk 6 (it n) ?_ ?_
 ·intro wq Aa;go_simp
 refine aX 1 fun Kk hK=>?_;go_simp;refine(CD _ (hHeld.cell hc (by simp)) (Ca.o.below Ha.o)).mono ?_;rintro e Da ⟨rfl,Ea⟩;go_simp;have Ba:=aH hHeld Ea;have Ja:H9 (m1 w Da):=⟨Ba.os,Ba.tape,Ba.output,Ba.size,fun k hk=>Ba.block k hk (by simp)⟩;refine hK.out _ _ Ba (fun _=>?_);clear hK Kk Ea;refine tk 7 (.bool ((m:Int)==(n:Int))) ?_ ?_
 ·intro wq Aa;go_simp
 rw[Fa];refine tk 8 (.bool oa) ?_ ?_
 ·intro wq Aa;go_simp
 refine bg ?_;go_simp;clear Ca;go_wp2;go_ret;exact⟨rfl,Ja.o⟩
set_option maxRecDepth 10000 in
theorem rX{ta:Option Addr}{tn tc:Nat}{tl:List M.Tk}(jid a b c d f k a' b' c' d' f' k' s1 s2 jr:Int)(jg:Bool)(now:Int)(h0:0≤now)(h1:now≤1000000000)(w:World)(hz:bW w ta tn tc tl):
  Rt 110 #[.agg #[.int .i64 jid,.int .i64 a,.int .i64 b,.int .i64 c,.int .i64 d,.int .i64 f,.int .i64 k,.int .i64 a',.int .i64 b',.int .i64 c',.int .i64 d',.int .i64 f',.int .i64 k',.int .i64 s1,.int .i64 s2,.int .i64 jr,.bool jg,.slice ta tn tc],.int .i64 now] w (.bool (M.jbOk now ⟨jid,⟨⟨a,b,c,d,f,k⟩,⟨a',b',c',d',f',k'⟩⟩,(s1,s2),jr,jg,tl⟩)):=by
 have hl:=hz.len;have C1:=eM ⟨⟨a,b,c,d,f,k⟩,⟨a',b',c',d',f',k'⟩⟩;have C2:=du (s1,s2);have C3:=iq jr;have HZ:=Hd hz;unfold M.jbOk;dsimp only[da,cM]at C1 C2 ⊢;rw[hl];have C4:∀W,bW W ta tn tc tl→Rt 189 #[.slice ta tn tc,it now] W (.bool (decide (1≤tn)&&(decide (tn≤8)&&tl.all (M.tkOk now)))):=fun W h=>oV now h0 h1 W h;generalize(decide (1≤tn)&&(decide (tn≤8)&&tl.all (M.tkOk now)))=o4 at *;generalize M.rows jr=o3 at *;generalize M.sOk (s1,s2)=o2 at *;generalize M.Mc.ok ⟨⟨a,b,c,d,f,k⟩,⟨a',b',c',d',f',k'⟩⟩=o1 at *;have C5:∀W,bW W ta tn tc tl→Rt 190 #[.slice ta tn tc,.func (.func 111) #[] #[]] W (.bool (tl.any M.leased)):=fun W h=>ia W h;have C6:∀W,W.cell? ⟨w.heap.size,17,none⟩=some (.slice ta tn tc)→bW W ta tn tc tl→Rt 157 #[.pointer (some ⟨w.heap.size,0,none⟩)] W (.bool (tl.all (·.done))):=fun W h1 h2=>fU W h1 h2;generalize tl.any M.leased=o5 at *;generalize tl.all (·.done)=o6 at *;clear hz;go_enter func110,ntmps110;have Ja:=ct w (ce jid a b c d f k a' b' c' d' f' k' s1 s2 jr jg ta tn tc) 45;have Ia:H9 (m1 w (w.alloc (.cells (ce jid a b c d f k a' b' c' d' f' k' s1 s2 jr jg ta tn tc).toArray 45))):=(m5 _ _).alloc (m3 _) _;(go_wp2_with fail);generalize(w.alloc (.cells (ce jid a b c d f k a' b' c' d' f' k' s1 s2 jr jg ta tn tc).toArray 45))=wa at *;refine(C1 _).mono ?_;rintro e wb ⟨rfl,hb⟩;have Ea:=Ja.b hb;have Fa:=Ia.t hb;clear Ja Ia;clear hb
 cases o1 with
 | false=>
  go_wp2;go_ret;exact⟨by simp,Fa.o⟩
 | true=>
  have Na:=Ea.c 13;have Oa:=Ea.c 14;(go_wp2_with fail);clear Na Oa;refine(C2 _).mono ?_;rintro e wc ⟨rfl,hb⟩;have Ga:=Ea.b hb;have Aa:=Fa.t hb;clear Ea Fa;clear hb
  cases o2 with
  | false=>
   go_wp2;go_ret;exact⟨by simp,Aa.o⟩
  | true=>
   have Pa:=Ga.c 15;(go_wp2_with fail);clear Pa;refine(C3 _).mono ?_;rintro e wz ⟨rfl,Ka⟩;have Qa:=Ka.symm;clear Ka;subst Qa
   cases o3 with
   | false=>
    go_wp2;go_ret;exact⟨by simp,Aa.o⟩
   | true=>
    have Ca:=Ga.c 17;(go_wp2_with fail);clear Ca;refine(C4 _ (HZ.o.below Aa.o)).mono ?_;rintro e wd ⟨rfl,hb⟩;have Ha:=Ga.b hb;have Ba:=Aa.t hb;clear Ga Aa;clear hb
    cases o4 with
    | false=>
     go_wp2;go_ret;exact⟨by simp,Ba.o⟩
    | true=>
     have Ra:=Ha.c 16;have Ca:=Ha.c 17
     cases jg with
     | false=>
      go_wp2;go_ret;exact⟨by simp,Ba.o⟩
     | true=>
      (go_wp2_with fail);clear Ra Ca;refine(C5 _ (HZ.o.below Ba.o)).mono ?_;rintro e we ⟨rfl,hb⟩;have La:=Ha.b hb;have Da:=Ba.t hb;clear Ha Ba;clear hb
      cases o5 with
      | true=>
       go_wp2;go_ret;exact⟨by simp,Da.o⟩
      | false=>
       have Ca:=La.c 17;(go_wp2_with fail);refine(C6 _ Ca (HZ.o.below Da.o)).mono ?_;rintro e wf ⟨rfl,hb⟩;have Sa:=Da.t hb;clear La Da;clear hb;go_wp2;go_ret;exact⟨by simp,Sa.o⟩
section
variable {P:Program} {ops:Array Oper} {rest:List Oper} {o:Oper} {a:Act} {w:World} {Q:Exit→Act→World→Prop}
theorem lg(hw:Region.wanted o (yielded ops a.tmps)=true)
 (h:∀K:Act→World→Prop,(∀a w,wpList P ops Q rest a w→K a w)→o.wp P a w K Q):wpList P ops Q (o::rest) a w:=
 wpList_step fun K hK=>by simp only[hw,if_true];exact h K hK
theorem bK(hw:Region.wanted o (yielded ops a.tmps)=true)(ty:TypeId)(x:Operand)(ho:o.op=.load ty x)
 (b i:Nat)(hx:a.eval x=.pointer (some ⟨b,i,none⟩))(cs:List Value)(d:TypeDesc)(hc:w.rangeAt b i cs)
 (hu:P.underlying ty=some d)(hd:d.isRow=true)(hi:(P.info? ty).map (·.size)=some cs.length)
 (h:wpList P ops Q rest (a.put o.dst (.agg cs.toArray)) w):wpList P ops Q (o::rest) a w:=
 lg hw fun _ hK=>wp_load_mid ty x ho b i hx cs d hc hu hd hi (hK _ _ h)
end
theorem lY{f R g:List Int}(h:R.length=f.length):R=M.tab f.length (M.restAt R g q i 0):=
 M.tab_ext h fun t _=>by unfold M.restAt;rw[if_neg (by omega)]
theorem pH(R g:List Int)(q:Int)(i j:Nat):M.restAt R g q i j (i+j)=R.getD (i+j) 0:=by unfold M.restAt;rw[if_neg (by omega)]
theorem nS{R g:List Int}:(M.tab N (M.restAt R g q i j)).set (i+j) ((R.getD (i+j) 0+(65537-q)*g.getD j 0)%65537)=M.tab N (M.restAt R g q i (j+1)):=by
 rw[d9];apply bH;intro t _;unfold M.restAt;by_cases e:t=i+j
 ·
  subst e;rw[if_pos rfl,if_pos (by omega),Nat.add_sub_cancel_left]
 ·
  rw[if_neg e];by_cases h2:i≤t∧t<i+j
  ·rw[if_pos h2,if_pos (by omega)]
  ·rw[if_neg h2,if_neg (by omega)]
theorem rJ{y:Int}(q0:0≤q)(q1:q<65537)(y0:0≤y)(y1:y<65537):0≤(65537-q)*y∧(65537-q)*y≤4295032832:=by
 refine⟨Int.mul_nonneg (by omega) y0,?_⟩;have h1:(65537-q)*y≤65537*y:=Int.mul_le_mul_of_nonneg_right (by omega) y0;omega
theorem kL{b:Option Addr}{m:Nat}(w:World)(hz:aw w a n c zs)(hy:aw w b m d ys)(ha:M.allEl zs=true)(hb:M.allEl ys=true)(ny:M.neat ys)(hn:n≤128)(h1:0<m)(hmn:m≤n):
  Calls prog 125 #[.slice a n c,.slice b m d] w fun e w'=>∃a1 l1 c1 a2 l2 c2 q r,e=.returned (.tuple #[.slice a1 l1 c1,.slice a2 l2 c2])∧aC 2 w' w.heap.size a1 l1 c1 q∧aC 2 w' w.heap.size a2 l2 c2 r∧M.Div zs ys q r∧(∀x y,a1=some x→a2=some y→x.block≠y.block)∧m1 w w':=by
 obtain⟨b1,o1,rfl,Qc⟩:=hz.at (by omega);obtain⟨b2,o2,rfl,Fa⟩:=hy.at h1;have l2:b2<w.heap.size:=uP w _ (Fa 0 h1);have Wa:=Hd Fa;have HZ:=Hd hz;have Ba:=Hd hz.len;have Aa:=Hd hy.len;have HA:=Hd ha;have HB:=Hd hb
 have gl:ys.getD (m-1) 0≠0:=by
  rcases ny with e | e
  ·rw[hy.len]at e;omega
  ·rw[hy.len]at e;exact e
 have Xa:=Hd gl;have HL:H9 ((zs.map (Value.int .i64)).length=n*1):=(by show _=_;rw[List.length_map,hz.len,Nat.mul_one]);obtain⟨i0,hi,Ya,Za,Ab⟩:=info_parts bJ;have HI:H9 (prog.info? 2=some i0∧i0.zero=some (Value.int .i64 0)∧i0.size=1∧i0.bytes=8):=⟨hi,Ya,Za,Ab⟩;obtain⟨N,hN⟩:∃N,N=n-m+1:=⟨_,rfl⟩;have Bb:(n:Int)-(m:Int)+1=(N:Int):=(by omega);have Ld:(0:Int)<(n:Int)-(m:Int)+1:=(by omega);have HN:=Hd hN;have Ga:=Hd Bb;clear hz hy ha hb Qc Fa hi Ya Za Ab hN Bb gl ny;go_enter func125,ntmps125;(go_wp2_with(at_builtin;refine dd _ rfl (.tmp 12) (.tmp 13) 24 rfl w.heap.size 2 i0 (it 0) 1 8 underlying24 HI.o.1 HI.o.2.1 HI.o.2.2.1 HI.o.2.2.2 rfl (by decide) _ 0 [] rfl (World.ownsRow_made w #[] 0 (m3 _) (by unfold maxLen;omega) rfl) (some ⟨b1,o1,none⟩) n c (zs.map (Value.int .i64)) rfl HL.o (fun h=>by cases h) (oP (HZ.o.below ((m5 _ _).alloc (m3 _) _))) (dh _) (by unfold maxLen;omega) (by omega) (by simp) ?_));intro v1 w1 Cb Db;have hown':w1.ownsRow w.heap.size 2 1 v1 n (zs.map (Value.int .i64)):=(by simpa using Cb);obtain⟨ra,rc,rfl,Eb⟩:=aC.form hown';have Fb:=Hd Eb;have Gb:=Hd (((m5 w.heap.size w).alloc (m3 _) _).grown Db (by simp) (fun j hj=>by simp[Value.ownBlock]at hj;omega));have Hb:=Gb.o.size;clear Cb hown' Db Eb;(go_wp2_with(at_make;refine wpList_make_full _ rfl _ _ 24 rfl w1.heap.size 2 i0 (it 0) 1 underlying24 HI.o.1 HI.o.2.1 HI.o.2.2.1 .i64 .i64 _ _ N rfl rfl Ga.o Ga.o (by rw[HI.o.2.2.2];have:=HN.o;omega) (by unfold maxLen;have:=HN.o;omega) (m3 _) ?_));intro w2 Ha Ib
 have Jb:H9 (aC 2 w2 w1.heap.size (some ⟨w1.heap.size,0,none⟩) N N (List.replicate N 0)):=by
  show w2.ownsRow _ _ _ _ _ _;rw[ef]at Ha;exact Ha
 have Ia:=bt Ib;have Kb:=Hd (Fb.o.below Ia);have Ja:=Hd (Gb.o.trans (Ia.mono Hb));obtain⟨ga,rfl,Rc,Nd,_,_⟩:=Fb.o.block (by omega);have cl:w2.cell? ⟨b2,o2+(m-1),none⟩=some (it (ys.getD (m-1) 0)):=(Ja.o.cell (p:=⟨b2,o2+(m-1),none⟩) l2).trans (Wa.o (m-1) (by omega))
 have Lb:H9 (M.DInv zs ys zs (List.replicate N 0) N):=by
  have h:=M.dinv_start (g:=ys) HA.o;rw[Ba.o,Aa.o,←HN.o]at h;exact h
 clear Ha Ib Ia;have Od:1≤m:=(by omega);have Pd:(0:Int)≤(m:Int)-1:=(by omega);have Qd:(m:Int)-1<(m:Int):=(by omega);generalize Nb:ys.getD (m-1) 0=Da at cl;have Ka:=Hd Nb;clear Nb;(go_wp2_with fail);refine(dU Da _).mono ?_;rintro e w2 ⟨rfl,rfl⟩
 have Sc:H9 (0≤M.inv Da∧M.inv Da<65537):=by
  show _∧_;rw[←M.el_iff];have h:=M.el_at HB.o (m-1);rw[Ka.o]at h;exact M.el_inv ((M.el_iff _).2 h) (by rw[←Ka.o];exact Xa.o)
 have iv:=Sc.o;generalize hiv:M.inv Da=iv' at iv;have Tc:=Hd hiv;obtain⟨Uc,Vc⟩:=iv;clear hiv;have Ob:(n:Int)-(m:Int)=(N:Int)-1:=(by have:=Ga.o;omega);have Wc:=Hd Ob;clear Ob cl;go_wp2
 go_loopw [9] (fun i wr=>∃(k:Nat) (R O:List Int),k≤N∧i=it ((k:Int)-1)∧aC 2 wr w.heap.size (some ⟨ga,0,none⟩) n rc R∧aC 2 wr w1.heap.size (some ⟨w1.heap.size,0,none⟩) N N O∧M.DInv zs ys R O k∧m1 w wr) (fun i _=>(intOf i+1).toNat)
 case atStart=>exact⟨N,zs,List.replicate N 0,m3 _,congrArg (Value.int .i64) Wc.o,Kb.o,Jb.o,Lb.o,Ja.o⟩
 case round=>
  obtain⟨k,R,O,hk,rfl,Pb,Qb,Rb,Sb⟩:=hrel;have La:=Hd Pb;have Na:=Hd Qb;have Ca:=Hd Rb;have Ea:=Hd Sb;clear Pb Qb Rb Sb Jb Kb Ja Lb;by_cases Rd:0<k
  ·
   obtain⟨i,rfl⟩:∃i,k=i+1:=⟨k-1,by omega⟩;have Xc:i+m≤n:=(by have:=HN.o;omega);rw[show((i+1:Nat):Int)-1=(i:Int) by omega];obtain⟨g',Tb,_,_,Ub,Yc⟩:=La.o.block (by omega);simp only[Option.some.injEq,Addr.mk.injEq,and_true]at Tb;subst Tb;have er:=Ub (i+m-1) (by omega);obtain⟨g2,Oa,_,_,Vb,Wb⟩:=Na.o.block (by omega);simp only[Option.some.injEq,Addr.mk.injEq,and_true]at Oa;have eo:=Vb i (by omega);have fo:=Wb i;rw[←Oa]at eo fo;have Xb:=M.el_at Ca.o.ar (i+m-1);generalize hx:R.getD (i+m-1) 0=x at er Xb;have HX:=Hd hx;obtain⟨x0,x1⟩:=Xb;obtain⟨m0,I⟩:=M.mul_bd x0 x1 Uc Vc
   have Yb:H9 (M.DInv zs ys (M.tab zs.length (M.restAt R ys (x*iv'%65537) i ys.length)) (O.set i (x*iv'%65537)) i):=by
    refine M.dinv_step HB.o (by rw[Aa.o];omega) (by rw[Aa.o];exact Xa.o) Ca.o (by rw[Aa.o,Ba.o];exact Xc) _ ?_;rw[Aa.o,HX.o,Ka.o,Tc.o]
   have Zc:=Hd Ca.o.lr;have q0:0≤x*iv'%65537:=Int.emod_nonneg _ (by decide);have q1:x*iv'%65537<65537:=Int.emod_lt_of_pos _ (by decide);have Sd:(i:Int)+(m:Int)-1<(n:Int):=(by omega);have Td:(0:Int)≤(i:Int)+(m:Int)-1:=(by omega);have Ud:(i:Int)<(N:Int):=(by omega);generalize O.getD i 0=oy at eo;have Zb:ga≠w1.heap.size:=(by omega);clear hx Ub Yc Vb Wb Oa;generalize hq:x*iv'%65537=q at Yb q0 q1;have Ad:=Hd hq;clear hq;have Ac:H9 (aC 2 (wr.setCell ⟨w1.heap.size,i,none⟩ (it q)) w1.heap.size (some ⟨w1.heap.size,0,none⟩) N N (O.set i q)):=Na.o.set i q
   have Bc:H9 (aC 2 (wr.setCell ⟨w1.heap.size,i,none⟩ (it q)) w.heap.size (some ⟨ga,0,none⟩) n rc (M.tab n (M.restAt R ys q i 0))):=by
    show aC _ _ _ _ _ _ _;rw[←Ba.o,←lY Zc.o,Ba.o];exact La.o.other ⟨w1.heap.size,i,none⟩ (fun x hx=>by simp only[Option.some.injEq]at hx;subst hx;exact Zb) _
   have Cc:H9 (m1 w (wr.setCell ⟨w1.heap.size,i,none⟩ (it q))):=Ea.o.setCell Hb _;have Bd:=Hd Ca.o.ar;go_wp2;rw[Ad.o]
   go_loopw [11] (fun z wv=>∃j:Nat,j≤m∧z=it j∧aC 2 wv w.heap.size (some ⟨ga,0,none⟩) n rc (M.tab n (M.restAt R ys q i j))∧aC 2 wv w1.heap.size (some ⟨w1.heap.size,0,none⟩) N N (O.set i q)∧m1 w wv) (fun z _=>m-(intOf z).toNat)
   case atStart=>exact⟨0,by omega,rfl,Bc.o,Ac.o,Cc.o⟩
   case round=>
    obtain⟨j,hj,rfl,Dc,Ec,Fc⟩:=hrel;have Pa:=Hd Dc;have Gc:=Hd Ec;have Qa:=Hd Fc;clear Dc Ec Fc Ac Bc Cc;by_cases Cd:j<m
    ·
     have Hc:i+j<n:=(by omega);have e2:wr.cell? ⟨b2,o2+j,none⟩=some (it (ys.getD j 0)):=(Qa.o.cell (p:=⟨b2,o2+j,none⟩) l2).trans (Wa.o j Cd);obtain⟨g3,Ic,_,_,Jc,Kc⟩:=Pa.o.block (by omega);simp only[Option.some.injEq,Addr.mk.injEq,and_true]at Ic;subst Ic;have e3:=Jc (i+j) Hc;have f3:=Kc (i+j);rw[M.tab_get _ _ _ Hc,pH]at e3;have Ra:H9 ((M.tab n (M.restAt R ys q i j)).set (i+j) ((R.getD (i+j) 0+(65537-q)*ys.getD j 0)%65537)=M.tab n (M.restAt R ys q i (j+1))):=nS;have Lc:=M.el_at HB.o j;have Nc:=M.el_at Bd.o (i+j);generalize ys.getD j 0=y at e2 Lc Ra;generalize R.getD (i+j) 0=v at e3 Nc Ra;obtain⟨y0,y1⟩:=Lc;obtain⟨v0,v1⟩:=Nc;obtain⟨p0,p1⟩:=rJ q0 q1 y0 y1;have hJ:(j:Int)<(m:Int):=(by omega);have hK:(i:Int)+(j:Int)<(n:Int):=(by omega);have Vd:(0:Int)≤(i:Int)+(j:Int):=(by omega);have Wd:b2≠ga:=(by omega);clear Jc Kc er eo fo;go_wp2
     go_region
     go_wp2;go_roundw
     case rel=>
      refine⟨j+1,by omega,by go_num,?_,?_,(Qa.o.setCell Rc _).drew⟩
      ·
       rw[←Ra.o];exact World.ownsRow.drew (Pa.o.set (i+j) _)
      ·exact World.ownsRow.drew (Gc.o.other ⟨ga,i+j,none⟩ (fun x hx=>by simp only[Option.some.injEq]at hx;subst hx;exact fun e=>Zb e.symm) _)
     case measure=>simp[intOf];omega
    ·
     have hjm':j=m:=by omega
     have HF:H9 (aC 2 wr w.heap.size (some ⟨ga,0,none⟩) n rc (M.tab zs.length (M.restAt R ys q i ys.length))):=by
      show aC _ _ _ _ _ _ _;have h:=Pa.o;rw[hjm',←Aa.o]at h;rw[Ba.o];exact h
     clear hjm';go_wp2;go_roundw
     case rel=>exact⟨i,_,_,by omega,by go_num,HF.o,Gc.o,Yb.o,Qa.o⟩
     case measure=>simp[intOf] <;> omega
  ·
   have hk0':k=0:=(by omega);subst hk0';have Dd:=Hd (M.dinv_end (by rw[Aa.o];omega) Ca.o);have Ed:N≤1048576:=(by have:=HN.o;omega);(go_wp2_with fail);refine(cC _ Na.o.sees Ed).mono ?_;rintro e w6 ⟨a6,l6,c6,rfl,Oc,Sa⟩;have Pc:=Hd Oc;have Fd:=Hd (La.o.below Sa);have Ta:=Ea.t Sa;clear Oc Sa;(go_wp2_with fail);refine(cC _ Fd.o.sees (by omega)).mono ?_;rintro e w7 ⟨a7,l7,c7,rfl,Ua,Va⟩;have Gd:=Hd ((Pc.o.below Va).mono Ea.o.size);have Id:=Hd (Ua.mono Ta.o.size)
   have Jd:H9 (∀x y,a6=some x→a7=some y→x.block≠y.block):=fun x y hx hy=>by
    have h1:=Pc.o.hi x hx;have h2:=Ua.lo y hy;omega
   have Kd:=Ta.t Va;clear Ua Va;go_wp2
   go_ret2
   exact⟨a6,l6,c6,a7,l7,c7,_,_,rfl,Gd.o,Id.o,Dd.o,Jd.o,Kd.o⟩
theorem kf{b:Option Addr}{m:Nat}(w:World)(hz:aw w a n c zs)(hy:aw w b m d ys)(ha:M.allEl zs=true)(nz:M.neat zs)(hn:n≤128)(hm:m≤128)(h1:0<m)(hmn:n<m):
  Calls prog 125 #[.slice a n c,.slice b m d] w fun e w'=>∃a1 l1 c1 a2 l2 c2 q r,e=.returned (.tuple #[.slice a1 l1 c1,.slice a2 l2 c2])∧aC 2 w' w.heap.size a1 l1 c1 q∧aC 2 w' w.heap.size a2 l2 c2 r∧M.Div zs ys q r∧(∀x y,a1=some x→a2=some y→x.block≠y.block)∧m1 w w':=by
 obtain⟨b2,o2,rfl,Ca⟩:=hy.at h1;have l2:b2<w.heap.size:=uP w _ (Ca 0 h1);have Ta:=Hd Ca;have HZ:=Hd hz;have HD:H9 (M.Div zs ys [] zs):=M.div_short nz ha (by rw[hz.len,hy.len];exact hmn);have Ua:=Hd (M.trim_neat nz);have HL:H9 ((zs.map (Value.int .i64)).length=n*1):=(by show _=_;rw[List.length_map,hz.len,Nat.mul_one]);obtain⟨i0,hi,Ia,Ja,Ka⟩:=info_parts bJ;have HI:H9 (prog.info? 2=some i0∧i0.zero=some (Value.int .i64 0)∧i0.size=1∧i0.bytes=8):=⟨hi,Ia,Ja,Ka⟩;have Fb:¬ (0:Int)<(n:Int)-(m:Int)+1:=(by omega);have Gb:¬ (0:Int)≤(n:Int)-(m:Int):=(by omega);clear hz hy ha nz Ca hi Ia Ja Ka;go_enter func125,ntmps125;(go_wp2_with(at_builtin;refine dd _ rfl (.tmp 12) (.tmp 13) 24 rfl w.heap.size 2 i0 (it 0) 1 8 underlying24 HI.o.1 HI.o.2.1 HI.o.2.2.1 HI.o.2.2.2 rfl (by decide) _ 0 [] rfl (World.ownsRow_made w #[] 0 (m3 _) (by unfold maxLen;omega) rfl) a n c (zs.map (Value.int .i64)) rfl HL.o HZ.o.no (oP (HZ.o.below ((m5 _ _).alloc (m3 _) _))) (dh _) (by unfold maxLen;omega) (by omega) (by simp) ?_));intro v1 w1 La Na;have hown':w1.ownsRow w.heap.size 2 1 v1 n (zs.map (Value.int .i64)):=(by simpa using La);obtain⟨ra,rc,rfl,Oa⟩:=aC.form hown';have Va:=Hd Oa;have Pa:=Hd (((m5 w.heap.size w).alloc (m3 _) _).grown Na (by simp) (fun j hj=>by simp[Value.ownBlock]at hj;omega));have Wa:=Pa.o.size;clear La hown' Na Oa;(go_wp2_with(at_make;refine wpList_make_full _ rfl _ _ 24 rfl w1.heap.size 2 i0 (it 0) 1 underlying24 HI.o.1 HI.o.2.1 HI.o.2.2.1 .i64 .i64 _ _ 0 rfl rfl (by omega) (by omega) (by rw[HI.o.2.2.2];omega) (by unfold maxLen;omega) (m3 _) ?_));intro w2 Da Qa
 have Xa:H9 (aC 2 w2 w1.heap.size (some ⟨w1.heap.size,0,none⟩) 0 0 []):=by
  show w2.ownsRow _ _ _ _ _ _;rw[ef]at Da;exact Da
 have Ea:=bt Qa;have Ya:=Hd (Va.o.below Ea);have Aa:=Hd (Pa.o.trans (Ea.mono Wa));have cl:w2.cell? ⟨b2,o2+(m-1),none⟩=some (it (ys.getD (m-1) 0)):=(Aa.o.cell (p:=⟨b2,o2+(m-1),none⟩) l2).trans (Ta.o (m-1) (by omega));clear Da Qa Ea;have Hb:1≤m:=(by omega);have Ib:(0:Int)≤(m:Int)-1:=(by omega);have Jb:(m:Int)-1<(m:Int):=(by omega);generalize ys.getD (m-1) 0=Za at cl;(go_wp2_with fail);refine(dU Za _).mono ?_;rintro e w2 ⟨rfl,rfl⟩;clear cl;go_wp2;refine wp_loop_rounds 1 ?_;rw[rounds_succ];(go_wp2_with fail);refine(cC _ Xa.o.sees (by omega)).mono ?_;rintro e w6 ⟨a6,l6,c6,rfl,Ra,Fa⟩;have Sa:=Hd Ra;have Ab:=Hd (Ya.o.below Fa);have Ga:=Aa.t Fa;clear Ra Fa;(go_wp2_with fail);refine(cC _ Ab.o.sees (by omega)).mono ?_;rintro e w7 ⟨a7,l7,c7,rfl,Ba,Ha⟩;rw[Ua.o]at Ba;have Bb:H9 (aC 2 w7 w.heap.size a6 l6 c6 []):=(Sa.o.below Ha).mono Aa.o.size;have Cb:=Hd (Ba.mono Ga.o.size)
 have Db:H9 (∀x y,a6=some x→a7=some y→x.block≠y.block):=fun x y hx hy=>by
  have h1:=Sa.o.hi x hx;have h2:=Ba.lo y hy;omega
 have Eb:=Ga.t Ha;clear Ba Ha;go_wp2
 go_ret2
 exact⟨a6,l6,c6,a7,l7,c7,_,_,rfl,Bb.o,Cb.o,HD.o,Db.o,Eb.o⟩
namespace M
theorem nodup_iff(xs:List Int):xs.Nodup↔∀i j,i<j→j<xs.length→xs.getD i 0≠xs.getD j 0:=by
 unfold List.Nodup;rw[List.pairwise_iff_getElem]
 constructor
 ·
  intro h i j Aa hj;have:=h i j (by omega) hj Aa;simpa[m4,m6 hj,m6 (show i<xs.length by omega)]using this
 ·
  intro h i j hi hj Aa;have:=h i j Aa hj;simpa[m4,m6 hj,m6 hi]using this
structure Lag(xs f:List Int)(b:Int)(i k:Nat):Prop where
 fl:allEl f=true
 lf:f.length≤(if i<k then k else k+1)
 vz:∀j,j<k→j≠i→ev f (xs.getD j 0)=0
 vb:ev f (xs.getD i 0)=b
 b0:b≠0
theorem Lag.bd{xs f:List Int}{b:Int}(h:Lag xs f b i k):0≤b∧b<65537:=by rw[←h.vb];exact ev_bd _ _
end M
theorem pE(hi:i<zs.length)(hk:k<i)(e:zs.getD i 0=zs.getD k 0):decide zs.Nodup=false:=
 decide_eq_false fun h=>(M.nodup_iff zs).1 h k i hk hi e.symm
theorem nK(h:∀i k,i<zs.length→k<i→zs.getD i 0≠zs.getD k 0):decide zs.Nodup=true:=
 decide_eq_true ((M.nodup_iff zs).2 fun i j hij hj e=>h j i hj hij e.symm)
theorem kF(w:World)(hz:aw w a n c zs):
  Rq 114 #[.slice a n c] w (.bool (decide zs.Nodup)):=by
 have bn:(n:Int)≤9223372036854775807:=(by have:=hz.big;have:=hz.le;omega);have Fa:(n:Int)≤(c:Int):=(by have:=hz.le;omega);have HZ:=Hd hz;clear hz;go_enter func114,ntmps114;go_wp2
 go_loop [9] (fun i=>∃k:Nat,k≤n∧i=it k∧∀i j,i<k→j<i→zs.getD i 0≠zs.getD j 0) (fun i=>n-(intOf i).toNat)
 case atStart=>exact⟨0,by omega,rfl,fun i j h=>by omega⟩
 case round=>
  obtain⟨i,hi,rfl,Ba⟩:=hrel;have HA:=Hd Ba;clear Ba;by_cases Ca:i<n
  ·
   obtain⟨b1,o1,rfl,Aa⟩:=HZ.o.at (by omega);have c1:=Aa i Ca;have HC:=Hd Aa;clear Aa;generalize hx:zs.getD i 0=x at c1;have HX:=Hd hx;have hI:(i:Int)<(n:Int):=(by omega);have Ga:(i:Int)≤(c:Int):=(by omega);have Ha:i≤c:=(by omega);clear hx;go_wp2
   go_loop [18] (fun q=>∃k:Nat,k≤i∧q=it k∧∀j,j<k→x≠zs.getD j 0) (fun q=>i-(intOf q).toNat)
   case atStart=>exact⟨0,by omega,rfl,fun j h=>by omega⟩
   case round=>
    obtain⟨k,hk,rfl,Da⟩:=hrel;have HN:=Hd Da;clear Da;by_cases Ea:k<i
    ·
     have c2:=HC.o k (by omega);generalize hy:zs.getD k 0=y at c2;have HY:=Hd hy;have hK:(k:Int)<(i:Int):=(by omega);clear hy;by_cases he:x=y
     ·
      have hb:(x==y)=true:=(by simp[he]);have HE:=Hd he;clear he;go_wp2;go_ret;exact⟨aD (pE (by rw[HZ.o.len];exact Ca) Ea (by rw[HX.o,HY.o];exact HE.o)).symm,rfl⟩
     ·
      have hb:(x==y)=false:=(by simp[he]);have HE:H9 (x≠y):=he;clear he;go_wp2
      go_round
      case rel=>
       refine⟨k+1,by omega,by go_num,fun j hj=>?_⟩;by_cases e:j=k
       ·subst e;rw[HY.o];exact HE.o
       ·exact HN.o j (by omega)
      case measure=>simp[intOf];omega
    ·
     have hki':k=i:=(by omega);have HK:=Hd hki';clear hki';go_wp2
     go_round
     case rel=>
      refine⟨i+1,by omega,by go_num,fun j m hj hm=>?_⟩;by_cases e:j=i
      ·subst e;rw[HX.o];exact HN.o m (by rw[HK.o];exact hm)
      ·exact HA.o j m (by omega) hm
     case measure=>simp[intOf];omega
  ·
   go_wp2;go_ret;exact⟨aD (nK fun j k hj hk=>HA.o j k (by rw[HZ.o.len]at hj;omega) hk).symm,rfl⟩
structure PA where
 x:Option Addr
 xc:Nat
 y:Option Addr
 yc:Nat
 qx:Option Addr
 qxc:Nat
 qy:Option Addr
 qyc:Nat
def PA.zero:PA:=⟨none,0,none,0,none,0,none,0⟩
def M.Pf.zero:M.Pf:=⟨(0,0),(0,0),[],[],[],[]⟩
structure ru(w:World)(p:M.Pf)(a:PA):Prop where
 x:aw w a.x p.X.length a.xc p.X
 y:aw w a.y p.Y.length a.yc p.Y
 qx:aw w a.qx p.QX.length a.qxc p.QX
 qy:aw w a.qy p.QY.length a.qyc p.QY
structure jp(t:TypeId)(w:World)(i':Nat)(p:M.Pf)(a:PA):Prop where
 x:aC t w i' a.x p.X.length a.xc p.X
 y:aC t w i' a.y p.Y.length a.yc p.Y
 qx:aC t w i' a.qx p.QX.length a.qxc p.QX
 qy:aC t w i' a.qy p.QY.length a.qyc p.QY
def ic(a b:Option Addr):Prop:=∀x y,a=some x→b=some y→x.block≠y.block
theorem ic.symm{b:Option Addr}(h:ic a b):ic b a:=fun x y hx hy e=>h y x hy hx e.symm
theorem fk(a:Option Addr):ic none a:=fun _ _ h=>by cases h
theorem jp.sees{a:PA}(h:jp t w i' p a):ru w p a:=⟨h.x.sees,h.y.sees,h.qx.sees,h.qy.sees⟩
theorem jp.below{a:PA}(h:jp t w i' p a)(hb:m1 w w'):jp t w' i' p a:=⟨h.x.below hb,h.y.below hb,h.qx.below hb,h.qy.below hb⟩
theorem jp.mono{base':Nat}{a:PA}(h:jp t w i' p a)(hb:base'≤i'):jp t w base' p a:=⟨h.x.mono hb,h.y.mono hb,h.qx.mono hb,h.qy.mono hb⟩
theorem ru.below{a:PA}(h:ru w p a)(hb:m1 w w'):ru w' p a:=⟨h.x.below hb,h.y.below hb,h.qx.below hb,h.qy.below hb⟩
def cY(m:M.Mc)(s:Int×Int)(n:Int):Bool:=m.ok&&(M.sOk s&&M.rows n)
def fS(m:M.Mc)(s:Int×Int)(n:Int):M.Pf:=if cY m s n=true then m.pf s n.toNat else M.Pf.zero
theorem sC{n:Int}(h:cY m s n=true):fS m s n=m.pf s n.toNat:=if_pos h
theorem rK{n:Int}(h:cY m s n=false):fS m s n=M.Pf.zero:=if_neg (by rw[h];decide)
theorem fR{n:Int}(h:cY m s n=true):m.ok=true∧M.sOk s=true∧∃N:Nat,n=(N:Int)∧M.rowsN N=true:=by
 unfold cY at h;rw[uU,uU]at h;refine⟨h.1,h.2.1,?_⟩
 rcases fA h.2.2 with rfl | rfl | rfl | rfl
 ·exact⟨2,rfl,rfl⟩
 ·exact⟨4,rfl,rfl⟩
 ·exact⟨8,rfl,rfl⟩
 ·exact⟨16,rfl,rfl⟩
theorem nP{n:Int}(h:cY m s n=false):m.ok=false∨(m.ok=true∧M.sOk s=false)∨(m.ok=true∧M.sOk s=true∧M.rows n=false):=by
 unfold cY at h
 cases h1:m.ok with
 | false=>exact .inl rfl
 | true=>
  cases h2:M.sOk s with
  | false=>exact .inr (.inl ⟨rfl,rfl⟩)
  | true=>rw[h1,h2]at h;exact .inr (.inr ⟨rfl,rfl,by simpa using h⟩)
def kI(N:Nat):Value:=.agg #[.int .i64 (N:Int),.int .i64 1,.int .i64 (M.root (N:Int)),.int .i64 (4*(N:Int)),.int .i64 3,.int .i64 (M.root (4*(N:Int))),.int .i64 (M.lst N)]
theorem jW(h:M.rowsN N=true):M.rows (N:Int)=true:=by
 rcases M.rowsN_cases h with rfl | rfl | rfl | rfl <;> rfl
theorem qp(N:Nat)(w:World)(h:M.rowsN N=true):Rt 108 #[.int .i64 N] w (.tuple #[kI N,.bool true]):=by
 have C1:=iq N;rw[jW h]at C1;have Fa:=M.row_pt (M.rowsN_two h);have Ga:M.ptOk (4*(N:Int)) 3=true:=(by have:=M.rowsN_pt h;rwa[show((4*N:Nat):Int)=4*(N:Int) by omega]at this);have C2:=fun W=>eQ (N:Int) 1 W Fa;have C3:=fun W=>eQ (4*(N:Int)) 3 W Ga;have La:=M.rowsN_pos h;have hr:=(M.el_iff _).1 (M.root_el (M.two64_two (M.rowsN_two h)));have C4:=fun W=>gB (M.root (N:Int)) (N-1) W hr.1 hr.2 (by omega);have HL:H9 (M.lst N=M.pw (M.root (N:Int)) (N-1)):=rfl;unfold kI;rw[HL.o];generalize M.pw (M.root (N:Int)) (N-1)=la at C4;generalize M.root (N:Int)=R1 at C2 C4;generalize M.root (4*(N:Int))=R4 at C3;have Ha:((N-1:Nat):Int)=(N:Int)-1:=(by omega);rw[Ha]at C4;have Ua:IntKind.i64.wrap ((N:Int)-1)=(N:Int)-1:=(by rw[uQ];omega);have Va:(N:Int)≤16:=(by omega);have Wa:(2:Int)≤(N:Int):=(by omega);have LZ:=ct w tK 186;have HB:H9 (m1 w (w.alloc (.cells tK.toArray 186))):=(m5 _ _).alloc (m3 _) _;clear Fa Ga hr HL Ha h La;go_enter func108,ntmps108;(go_wp2_with fail);refine(C1 _).mono ?_;rintro e w1 ⟨rfl,rfl⟩;(go_wp2_with fail);refine(C2 _).mono ?_;rintro e w1 ⟨rfl,Ca⟩;have Ea:H9 (au (w1.alloc (.cells (rm (N:Int) R1).toArray 184)) w.heap.size tK):=(LZ.o.belowS Ca).alloc _;have Ia:=ct w1 (rm (N:Int) R1) 184;have Da:H9 (m1 w (w1.alloc (.cells (rm (N:Int) R1).toArray 184))):=(HB.o.trans (Ca.mono HB.o.size)).alloc (m8 HB.o.size Ca.size) _;have Na:=Hd (Nat.ne_of_gt (LZ.o.belowS Ca).2.2);clear Ca LZ HB;(go_wp2_with fail);refine(C3 _).mono ?_;rintro e w2 ⟨rfl,Aa⟩;have Oa:=Hd (Nat.ne_of_gt (Ea.o.belowS Aa).2.2);have Ja:H9 (au (w2.alloc (.cells (ld (4*(N:Int)) R4).toArray 184)) w.heap.size tK):=(Ea.o.belowS Aa).alloc _;have Pa:H9 (au (w2.alloc (.cells (ld (4*(N:Int)) R4).toArray 184)) w1.heap.size (rm (N:Int) R1)):=(Ia.o.belowS Aa).alloc _;have Qa:=ct w2 (ld (4*(N:Int)) R4) 184;have Ra:H9 (m1 w (w2.alloc (.cells (ld (4*(N:Int)) R4).toArray 184))):=(Da.o.trans (Aa.mono Da.o.size)).alloc (m8 Da.o.size Aa.size) _;clear Aa Ea Ia Da;go_wp2;generalize w2.alloc (.cells (ld (4*(N:Int)) R4).toArray 184)=wa at *;have HN:=Hd Pa.o;have HW:=Hd Qa.o;have HZ:=Hd (Ja.o.below (m5 _ _).drew Ja.o.2.2);refine wp_region_noPanic ?_;refine wp_region_held_drew (S:=fun W=>au W w1.heap.size (rm (N:Int) R1)∧au W w2.heap.size (ld (4*(N:Int)) R4)) (by kernel_rfl) (⟨HN.o.below (m5 _ _).drew HN.o.2.2,HW.o.below (m5 _ _).drew HW.o.2.2⟩) (fun hHeld=>?_);refine wpAnyH_take (i:=0) (v:=.agg (rm (N:Int) R1).toArray) rfl (by kernel_rfl) (by kernel_rfl) (by kernel_rfl) (fun _ _ _ h=>h) (uM (by kernel_rfl) 184 (.tmp 4) rfl w1.heap.size 0 rfl (rm (N:Int) R1) _ (fun W h=>h.1.row) underlying184 rfl (by kernel_rfl)) (by assumption) ?_;refine wpAnyH_take (i:=1) (v:=.agg (ld (4*(N:Int)) R4).toArray) rfl (by kernel_rfl) (by kernel_rfl) (by kernel_rfl) (fun _ _ _ h=>h) (uM (by kernel_rfl) 184 (.tmp 6) rfl w2.heap.size 0 rfl (ld (4*(N:Int)) R4) _ (fun W h=>h.2.row) underlying184 rfl (by kernel_rfl)) (by assumption) ?_;refine tk 2 (.pointer (some ⟨w1.heap.size,2,none⟩)) ?_ ?_
 ·intro wq Ba;go_simp
 refine tk 3 (it R1) ?_ ?_
 ·intro wq Ba;have hq:=Ba.1.c 2;go_simp
 refine tk 4 (it (N:Int)) ?_ ?_
 ·intro wq Ba;go_simp
 refine tk 5 (it ((N:Int)-1)) ?_ ?_
 ·intro wq Ba;go_simp
 refine uT (rs:=[6]) (by kernel_rfl) (by simp) ?_;refine uC rfl (fun K hK=>?_) uJ;go_simp;refine(C4 _).mono ?_;rintro e wn ⟨rfl,rfl⟩;go_simp;refine hK.out _ _ (by assumption) (fun hHeld1=>?_);clear hK K;refine tk 7 (.agg (cA (N:Int) R1 (4*(N:Int)) R4 la).toArray) ?_ ?_
 ·intro wq Ba;go_simp
 refine uT (rs:=[8]) (by kernel_rfl) (by simp) ?_;refine uC rfl (fun K hK=>?_) uJ;rw[if_pos (by kernel_rfl)];with_reducible refine wp_store_mid 186 (.tmp 2) (.tmp 37) ?_ w.heap.size 0 (cA (N:Int) R1 (4*(N:Int)) R4 la).toArray ?_ ?_ ?_ (by kernel_rfl) (by kernel_rfl) ?_
 ·exact rfl
 ·exact rfl
 ·exact rfl
 ·exact HZ.o.there 0 7 (by simp)
 refine hK.out _ _ (⟨hHeld.1.farCells _ 0 Na.o,hHeld.2.farCells _ 0 Oa.o⟩) (fun hHeld2=>?_);clear hK K;refine tk 9 (.bool true) ?_ ?_
 ·intro wq Ba;go_simp
 refine bg ?_;go_simp;have L7:au (wa.drew.setCells w.heap.size 0 (cA (N:Int) R1 (4*(N:Int)) R4 la)) w.heap.size (cA (N:Int) R1 (4*(N:Int)) R4 la):=HZ.o.setCells (cA (N:Int) R1 (4*(N:Int)) R4 la) 0 (by simp);have Ka:m1 w (wa.drew.setCells w.heap.size 0 (cA (N:Int) R1 (4*(N:Int)) R4 la)):=aM _ 0 Ra.o.drew (m3 _);generalize wa.drew.setCells w.heap.size 0 (cA (N:Int) R1 (4*(N:Int)) R4 la)=wz at *;have Sa:=Hd L7;have Ta:=Hd Ka;clear L7 Ka;go_wp2;exact m7 (dI rfl rfl (uN wz w.heap.size 0 186 _ _ Sa.o.row underlying186 rfl (by kernel_rfl))) rfl ⟨rfl,Ta.o⟩
theorem l5(h:i<4*N):(M.gp 3 (M.root (4*(N:Int))) (4*N)).getD i 0=M.zp N i:=by
 rw[M.gp_get _ _ _ _ h];unfold M.zp;rw[show((4*N:Nat):Int)=4*(N:Int) by omega]
set_option maxRecDepth 10000 in
theorem sg(N:Nat)(w:World)(h:M.rowsN N=true):Calls prog 256 #[kI N] w fun e w'=>∃a' c',e=.returned (.slice a' (4*N) c')∧aC 182 w' w.heap.size a' (4*N) c' (M.tab (4*N) (M.zer N))∧m1 w w':=by
 have Tb:=M.rowsN_pos h;obtain⟨K,hK⟩:∃K:Nat,K=4*N:=⟨_,rfl⟩;have Ja:4*(N:Int)=(K:Int):=(by omega);have Da:=(M.el_iff _).1 (M.root_el (M.two64_two (M.rowsN_two4 h)));rw[show((4*N:Nat):Int)=4*(N:Int) by omega]at Da;have CA:=fun W=>gO K 3 (M.root (4*(N:Int))) W (by omega) (by omega) Da.1 Da.2 (by omega);have CP:H9 (∀i W,Rq 178 #[it (M.zp N i),it (N:Int)] W (it (M.pw (M.zp N i) N))):=fun i W=>gB (M.zp N i) N W (M.zp_bd N i).1 (M.zp_bd N i).2 (by omega);have CM:H9 (∀i W,Rq 224 #[it (M.pw (M.zp N i) N),it 1] W (it (M.zer N i))):=fun i W=>fj _ 1 W ((M.el_iff _).1 (M.el_pw _ _)).1 ((M.el_iff _).1 (M.el_pw _ _)).2 (by omega) (by omega);have HG:H9 (∀i,i<K→(M.gp 3 (M.root (4*(N:Int))) K).getD i 0=M.zp N i):=fun i hi=>by subst hK;exact l5 hi
 have HS:H9 (∀k,M.tab k (M.zer N)++[M.zer N k]=M.tab (k+1) (M.zer N)):=fun k=>dx k _;obtain⟨i0,hi,Qa,Ra,Sa⟩:=info_parts dv;have HI:H9 (prog.info? 182=some i0∧i0.zero=some (Value.int .i64 0)∧i0.size=1∧i0.bytes=8):=⟨hi,Qa,Ra,Sa⟩;unfold kI;rw[Ja,←hK];rw[Ja]at CA HG;have Ub:K≤64:=(by omega);generalize M.gp 3 (M.root (K:Int)) K=G at CA HG;generalize M.root (N:Int)=R1;generalize M.root (K:Int)=R4 at CA;generalize M.lst N=la;clear hi Qa Ra Sa Da h hK Ja;have LF:=ct w (cA (N:Int) R1 (K:Int) R4 la) 186;have Ta:H9 (m1 w (w.alloc (.cells (cA (N:Int) R1 (K:Int) R4 la).toArray 186))):=(m5 _ _).alloc (m3 _) _;have Vb:(N:Int)≤16:=(by omega);have Wb:(2:Int)≤(N:Int):=(by omega);go_enter func256,ntmps256;(go_wp2_with(at_make;refine wpList_make_own _ rfl _ _ 125 rfl (w.heap.size+1) 182 i0 (it 0) 1 underlying125 HI.o.1 HI.o.2.1 HI.o.2.2.1 .i64 .i64 _ K rfl rfl rfl (by rw[HI.o.2.2.2];omega) (by unfold maxLen;omega) (by simp) ?_));intro w1 Aa hg;have HO:H9 (aC 182 w1 (w.heap.size+1) (some ⟨w.heap.size+1,0,none⟩) 0 K []):=Aa;have Ba:=Hd (LF.o.grown hg (by simp));have Ka:=Hd (Ta.o.trans ((bt hg).mono (by simp)));have f3:=Ba.c 3;have f4:=Ba.c 4;have f5:=Ba.c 5;clear Aa hg LF Ta;(go_wp2_with fail);refine(CA _).mono ?_;rintro e w2 ⟨pa,pc,rfl,La,Ea⟩;have Ua:=Hd La;have Va:=Hd (HO.o.below Ea);have Wa:=Ba.b Ea;have Xa:=Ka.t Ea;have HX:=Hd La.lo;have Jb:H9 (w.heap.size+1<w1.heap.size):=HO.o.hi _ rfl;clear La Ea f3 f4 f5 HO Ba Ka CA;go_wp2
 go_loopw [3,14] (fun s i wr=>∃(k:Nat) (a':Option Addr) (Ca:Nat),k≤K∧i=it k∧s=.slice a' k Ca∧aC 182 wr (w.heap.size+1) a' k Ca (M.tab k (M.zer N))∧aw wr pa K pc G∧(∀x y,pa=some x→a'=some y→y.block≠x.block)∧au wr w.heap.size (cA (N:Int) R1 (K:Int) R4 la)∧m1 w wr) (fun _ i _=>K-(intOf i).toNat)
 case atStart=>exact⟨0,_,K,by omega,rfl,rfl,Va.o,Ua.o.sees,fun x y hx hy e=>by have:=HX.o x hx;have:=Jb.o;injection hy with hy;subst hy;simp at e;omega,Wa.o,Xa.o⟩
 case round=>
  obtain⟨k,a',Ca,hk,rfl,rfl,Ya,Za,Ab,Bb,Cb⟩:=hrel;have Fa:=Hd Ya;have Db:=Hd Za;have Kb:=Hd Ab;have Na:=Hd Bb;have Ga:=Hd Cb;clear Ya Za Ab Bb Cb Va Ua Wa Xa;by_cases Eb:k<K
  ·
   obtain⟨b1,o1,rfl,Fb⟩:=Db.o.at (by omega);have e1:=Fb k Eb;rw[HG.o k Eb]at e1;have f0:=Na.c 0;have hI:(k:Int)<(K:Int):=(by omega);have Lb:H9 (b1<wr.heap.size):=uP wr _ e1;have Oa:H9 _:=CP.o k;have Ha:H9 _:=CM.o k;have Gb:=Hd (HS.o k);clear Fb;generalize M.zp N k=z at e1 Oa Ha;generalize M.pw z N=pz at Oa Ha;generalize M.zer N k=zk at Ha Gb;(go_wp2_with fail);refine(Oa.o _).mono ?_;rintro e wn ⟨rfl,rfl⟩;(go_wp2_with fail);refine(Ha.o _).mono ?_;rintro e wn ⟨rfl,rfl⟩;(go_wp2_with(at_builtin;refine wpList_append_own_at _ rfl _ _ 125 rfl (w.heap.size+1) 182 i0 (it 0) 1 8 underlying125 HI.o.1 HI.o.2.1 HI.o.2.2.1 HI.o.2.2.2 rfl (by decide) _ k ((M.tab k (M.zer N)).map (Value.int .i64)) rfl (vg Fa.o _) ⟨wn.heap.size,0,none⟩ 1 1 [it zk] rfl rfl (bB _ _ _) (bZ _) (by unfold maxLen;omega) (by omega) (by have:=Na.o.2.2;simp;omega) ?_));intro v' w4 Aa Ia _ Hb;have hown':w4.ownsRow (w.heap.size+1) 182 1 v' (k+1) ((M.tab (k+1) (M.zer N)).map (Value.int .i64)):=(by rw[←Gb.o,uX];exact Aa);obtain⟨b4,c4,rfl,Ib⟩:=aC.form hown';have Nb:=Hd Ib;have Pa:∀y,a'=some y→y.block≠b1:=fun y hy=>Kb.o _ y rfl hy
   have Ob:H9 (aw w4 (some ⟨b1,o1,none⟩) K pc G):=(Db.o.below ((m5 _ _).alloc (m3 _) _)).grownR Ia (fun x hx=>by
    injection hx with hx;subst hx;intro e
    cases a' with
    | none=>simp[Value.ownBlock]at e
    | some y=>simp[Value.ownBlock]at e;exact Pa y rfl e)
   have Pb:H9 (au w4 w.heap.size (cA (N:Int) R1 (K:Int) R4 la)):=(Na.o.alloc _).grown Ia (fun e=>by
    cases a' with
    | none=>simp[Value.ownBlock]at e
    | some y=>simp[Value.ownBlock]at e;have:=Fa.o.lo y rfl;omega)
   have Qb:H9 (∀x y,some (⟨b1,o1,none⟩:Addr)=some x→b4=some y→y.block≠x.block):=fun x y hx hy=>by
    injection hx with hx;subst hx;subst hy;have:=Lb.o
    rcases Hb with e | e
    ·
     cases a' with
     | none=>simp[Value.ownBlock]at e
     | some z=>simp[Value.ownBlock]at e;rw[e];exact Pa z rfl
    ·simp[Value.ownBlock]at e;simp;omega
   have Rb:H9 (m1 w w4):=(Ga.o.alloc Ga.o.size _).grown Ia (by have:=Ga.o.size;simp;omega) (fun q hq=>by
    cases a' with
    | none=>simp[Value.ownBlock]at hq
    | some y=>simp[Value.ownBlock]at hq;have:=Fa.o.lo y rfl;omega)
   clear Aa hown' Ia Ib Hb Pa;go_wp2;go_roundw
   case rel=>exact⟨k+1,b4,c4,by omega,by go_num,rfl,Nb.o,Ob.o,Qb.o,Pb.o,Rb.o⟩
   case measure=>simp[intOf];omega
  ·
   have Sb:k=K:=(by omega);subst Sb;go_wp2;go_ret;exact⟨a',Ca,rfl,Fa.o.mono (by omega),Ga.o⟩
def cf(m:M.Mc)(ps:List (Int×Int))(N i:Nat):Int×Int:=
 (((ps.getD ((i+4)%(4*N)) (0,0)).1+65537-(m.nx (ps.getD i (0,0))).1)%65537*((M.zp N i+65537-M.lst N)%65537)%65537,((ps.getD ((i+4)%(4*N)) (0,0)).2+65537-(m.nx (ps.getD i (0,0))).2)%65537*((M.zp N i+65537-M.lst N)%65537)%65537)
def cQ(k:Nat)(f:Nat→Int×Int):List (Int×Int):=(List.range k).map f
theorem pP(k:Nat)(f:Nat→Int×Int):(cQ k f).length=k:=by simp[cQ]
theorem nX(k:Nat)(f:Nat→Int×Int):cQ k f++[f k]=cQ (k+1) f:=by simp[cQ,List.range_succ]
theorem jZ(f:Nat→Int×Int)(h:i<k):(cQ k f).getD i (0,0)=f i:=by simp[cQ,m4,h]
set_option maxRecDepth 10000 in
theorem qO{la0:Option Addr}{lc:Nat}(m:M.Mc)(N:Nat)(w:World)(h:M.rowsN N=true)(hm:m.ok=true)(hz:dR w la0 (4*N) lc ps)(hps:∀i,i<4*N→M.sOk (ps.getD i (0,0))=true):
  Calls prog 182 #[kI N,.iface 255 (da m),.slice la0 (4*N) lc] w fun e w'=>∃a' c',e=.returned (.slice a' (4*N) c')∧bf 328 w' w.heap.size a' (4*N) c' (cQ (4*N) (cf m ps N))∧m1 w w':=by
 have Ue:=M.rowsN_pos h;obtain⟨K,hK⟩:∃K:Nat,K=4*N:=⟨_,rfl⟩;have Hb:4*(N:Int)=(K:Int):=(by omega);have Za:=(M.el_iff _).1 (M.root_el (M.two64_two (M.rowsN_two4 h)));rw[show((4*N:Nat):Int)=4*(N:Int) by omega]at Za;have CA:=fun W=>gO K 3 (M.root (4*(N:Int))) W (by omega) (by omega) Za.1 Za.2 (by omega);have HG:H9 (∀i,i<K→(M.gp 3 (M.root (4*(N:Int))) K).getD i 0=M.zp N i):=fun i hi=>by subst hK;exact l5 hi
 have HS:H9 (∀k,cQ k (cf m ps N)++[cf m ps N k]=cQ (k+1) (cf m ps N)):=fun k=>nX k _;have Ib:=(M.el_iff _).1 (M.el_lst N)
 have Jb:H9 (∀k,k<K→∃j,j<K∧((k:Int)+4).tmod (K:Int)=(j:Int)∧(∀W,Rt 330 #[da m,cM (ps.getD k (0,0))] W (cM (m.nx (ps.getD k (0,0)))))∧(∃t,M.sOk t=true∧(∀W,Rt 254 #[cM (ps.getD j (0,0)),cM (m.nx (ps.getD k (0,0)))] W (cM t))∧(∀W,Rq 224 #[it (M.zp N k),it (M.lst N)] W (it ((M.zp N k+65537-M.lst N)%65537)))∧(∀W,Rt 255 #[cM t,it ((M.zp N k+65537-M.lst N)%65537)] W (cM (cf m ps N k))))):=fun k hk=>by
  have hj:(k+4)%K<K:=Nat.mod_lt _ (by omega);refine⟨(k+4)%K,hj,?_,fun W=>lL m _ W hm (hps k (by omega)),((((ps.getD ((k+4)%K) (0,0)).1+65537-(m.nx (ps.getD k (0,0))).1)%65537,((ps.getD ((k+4)%K) (0,0)).2+65537-(m.nx (ps.getD k (0,0))).2)%65537)),?_,fun W=>kP _ _ W (hps _ (by omega)) (M.sOk_nx m _),fun W=>fj _ _ W (M.zp_bd N k).1 (M.zp_bd N k).2 Ib.1 Ib.2,fun W=>?_⟩
  ·rw[Int.tmod_eq_emod_of_nonneg (by omega),show(k:Int)+4=((k+4:Nat):Int) by omega];exact(Int.natCast_emod _ _).symm
  ·exact(M.sOk_iff _).2 ⟨⟨by simp only;omega,by simp only;omega⟩,⟨by simp only;omega,by simp only;omega⟩⟩
  ·
   have:=ko ((((ps.getD ((k+4)%K) (0,0)).1+65537-(m.nx (ps.getD k (0,0))).1)%65537,((ps.getD ((k+4)%K) (0,0)).2+65537-(m.nx (ps.getD k (0,0))).2)%65537)) ((M.zp N k+65537-M.lst N)%65537) W ((M.sOk_iff _).2 ⟨⟨by simp only;omega,by simp only;omega⟩,⟨by simp only;omega,by simp only;omega⟩⟩) (by omega) (by omega);unfold cf;rw[←hK];exact this
 obtain⟨i0,hi,Bc,Cc,Dc⟩:=info_parts gt;have HI:H9 (prog.info? 328=some i0∧i0.zero=some (.agg #[it 0,it 0])∧i0.size=2∧i0.bytes=16):=⟨hi,Bc,Cc,Dc⟩;rw[←hK]at hz;unfold kI;rw[Hb,←hK];rw[Hb]at CA HG;have Ve:K≤64:=(by omega);have We:8≤K:=(by omega);have HZ:=Hd hz;generalize M.gp 3 (M.root (K:Int)) K=G at CA HG;generalize M.root (N:Int)=R1;generalize M.root (K:Int)=R4 at CA;generalize cf m ps N=MA at Jb HS;generalize M.lst N=la at Jb;clear hi Bc Cc Dc Za h hK Hb hz hps hm Ib;obtain⟨lb,lo,rfl,-⟩:=HZ.o.at (by omega);have LF:=ct w (cA (N:Int) R1 (K:Int) R4 la) 186;have Ec:H9 (m1 w (w.alloc (.cells (cA (N:Int) R1 (K:Int) R4 la).toArray 186))):=(m5 _ _).alloc (m3 _) _;go_enter func182,ntmps182;(go_wp2_with(at_make;refine wpList_make_own _ rfl _ _ 268 rfl (w.heap.size+1) 328 i0 (.agg #[it 0,it 0]) 2 underlying268 HI.o.1 HI.o.2.1 HI.o.2.2.1 .i64 .i64 _ K rfl rfl rfl (by rw[HI.o.2.2.2];omega) (by unfold maxLen;omega) (by simp) ?_));intro w1 Ta hg;have HO:H9 (bf 328 w1 (w.heap.size+1) (some ⟨w.heap.size+1,0,none⟩) 0 K []):=⟨rfl,Ta⟩;have Ua:=Hd (LF.o.grown hg (by simp));have Kb:=Hd (Ec.o.trans ((bt hg).mono (by simp)));have f3:=Ua.c 3;have f4:=Ua.c 4;have f5:=Ua.c 5;clear Ta hg LF Ec;(go_wp2_with fail);refine(CA _).mono ?_;rintro e w2 ⟨pa,pc,rfl,Lb,Ha⟩;have Fc:=Hd Lb;have Gc:=Hd (HO.o.below Ha);have Hc:=Ua.b Ha;have Ic:=Kb.t Ha;have HX:=Hd Lb.lo
 have Vd:H9 (w.heap.size+1<w1.heap.size):=by
  rcases HO.o.2.2 with e | ⟨g,cp,cur,e,hb,hc,r⟩
  ·simp at e
  ·
   injection e with e1;injection e1 with e1;injection e1 with e1 e2;subst e1;exact aC.grownR.lt_of_heap hc
 clear Lb Ha f3 f4 f5 HO Ua Kb CA;go_wp2
 go_loopw [7,19] (fun s i wr=>∃(k:Nat) (a':Option Addr) (Aa:Nat),k≤K∧i=it k∧s=.slice a' k Aa∧bf 328 wr (w.heap.size+1) a' k Aa (cQ k MA)∧aw wr pa K pc G∧(∀x y,pa=some x→a'=some y→y.block≠x.block)∧au wr w.heap.size (cA (N:Int) R1 (K:Int) R4 la)∧m1 w wr) (fun _ i _=>K-(intOf i).toNat)
 case atStart=>exact⟨0,_,K,by omega,rfl,rfl,Gc.o,Fc.o.sees,fun x y hx hy e=>by have:=HX.o x hx;have:=Vd.o;injection hy with hy;subst hy;simp at e;omega,Hc.o,Ic.o⟩
 case round=>
  obtain⟨k,a',Aa,hk,rfl,rfl,Jc,Kc,Lc,Nc,Oc⟩:=hrel;have La:=Hd Jc;have Nb:=Hd Kc;have Pc:=Hd Lc;have Qc:=Hd Nc;have Va:=Hd Oc;clear Jc Kc Lc Nc Oc Gc Fc Hc Ic;by_cases Ab:k<K
  ·
   obtain⟨b1,o1,rfl,Rc⟩:=Nb.o.at (by omega);have e1:=Rc k Ab;rw[HG.o k Ab]at e1;have hI:(k:Int)<(K:Int):=(by omega);obtain⟨j,hj,Xe,D1,t,Wd,D2,D3,D4⟩:=Jb.o k Ab;obtain⟨Xd,Yd,Bb,Ob⟩:=(HZ.o.below Va.o).at (by omega);obtain⟨rfl,rfl⟩:lb=Xd∧lo=Yd:=by injection Bb with Bb;injection Bb with h1 h2;exact⟨h1,h2⟩
   obtain⟨Pb,Qb⟩:=Ob j hj;obtain⟨Cb,Db⟩:=Ob k Ab;have Ye:(j:Int)<(K:Int):=(by omega);have Sc:=Hd (HS.o k);have Zd:H9 (b1<wr.heap.size):=uP wr _ e1;generalize ps.getD j (0,0)=q2 at Pb Qb D2;generalize ps.getD k (0,0)=q1 at Cb Db D1 D2;generalize m.nx q1=n1 at D1 D2;generalize M.zp N k=z at e1 D3 D4;generalize(z+65537-la)%65537=zl at D3 D4;generalize MA k=mk at D4 Sc;obtain⟨x2,y2⟩:=q2;obtain⟨x1,y1⟩:=q1;obtain⟨u1,v1⟩:=n1;obtain⟨t1,t2⟩:=t;obtain⟨I,J⟩:=mk;dsimp only[cM]at Pb Qb Cb Db D1 D2 D4;have E1:H9 (wr.cell? ⟨lb,lo+k*2,none⟩=some (it x1)∧wr.cell? ⟨lb,lo+k*2+1,none⟩=some (it y1)):=⟨Cb,Db⟩;have Tc:H9 _:=D1;have Rb:H9 _:=D2;have Ae:H9 _:=D3;have Be:H9 _:=D4;have Ze:IntKind.i64.wrap ((k:Int)+4)=(k:Int)+4:=(by rw[uQ];omega);clear Rc Ob Bb Cb Db D1 D2 D3 D4 Wd;go_wp2;have Uc:=ct wr [it x2,it y2] 328;have Vc:H9 (bf 328 (wr.alloc (.cells #[it x2,it y2] 328)) (w.heap.size+1) a' k Aa (cQ k MA)):=La.o.below ((m5 _ _).alloc (m3 _) _);have Wc:H9 (aw (wr.alloc (.cells #[it x2,it y2] 328)) (some ⟨b1,o1,none⟩) K pc G):=Nb.o.below ((m5 _ _).alloc (m3 _) _);have Xc:H9 (au (wr.alloc (.cells #[it x2,it y2] 328)) w.heap.size (cA (N:Int) R1 (K:Int) R4 la)):=Qc.o.alloc _;have Yc:H9 (m1 w (wr.alloc (.cells #[it x2,it y2] 328))):=Va.o.alloc Va.o.size _;have Zc:H9 ((wr.alloc (.cells #[it x2,it y2] 328)).cell? ⟨lb,lo+k*2,none⟩=some (it x1)∧(wr.alloc (.cells #[it x2,it y2] 328)).cell? ⟨lb,lo+k*2+1,none⟩=some (it y1)):=⟨(uK wr _ none).cell E1.o.1 (by simp),(uK wr _ none).cell E1.o.2 (by simp)⟩;have Ad:H9 (wr.heap.size≤(wr.alloc (.cells #[it x2,it y2] 328)).heap.size):=(by show _≤_;simp);have Bd:H9 (∀b,wr.heap.size≤b→(Value.slice a' k Aa).ownBlock≠some b):=fun b hb e=>by have:=(uH La.o.2 b e).2;omega
   have Ce:=Hd (fun q e=>(uH La.o.2 q e).1);have Cd:H9 ((Value.slice a' k Aa).ownBlock≠some w.heap.size):=fun e=>by have:=(uH La.o.2 _ e).1;omega
   have Dd:H9 ((Value.slice a' k Aa).ownBlock≠some b1):=gd (fun y hy=>Pc.o _ y rfl hy);generalize wr.alloc (.cells #[it x2,it y2] 328)=wq at *;have HQ:=Hd Uc.o;have De:=Hd Vc.o;have Ee:=Hd Wc.o;have Fe:=Hd Xc.o;have Ed:=Hd Yc.o;have EQ:=Hd Zc.o;have Fd:=Hd Ad.o;clear Uc Vc Wc Xc Yc Zc Ad La Nb Pc Qc Va E1 Pb Qb e1;have Af:=jw m;have Bf:(0:Int)≤(k:Int):=(by omega);apply pZ
   case f=>
     intro key;refine cB wq none (by kernel_rfl) fun hHeld=>?_;generalize wq.drew=Wa at *;refine tk 0 (.agg #[it x2,it y2]) ?_ ?_
     ·intro wp Ca;have c0:=(HQ.o.grown Ca (by simp)).c 0;have c1:=(HQ.o.grown Ca (by simp)).c 1;go_simp
     refine tk 1 (.iface 255 (da m)) ?_ ?_
     ·intro wq Ea;go_simp
     refine tk 2 (.slice (some ⟨lb,lo,none⟩) K lc) ?_ ?_
     ·intro wq Ea;go_simp
     refine tk 3 (it (k:Int)) ?_ ?_
     ·intro wq Ea;go_simp
     refine tk 4 (.pointer (some ⟨lb,lo+k*2,none⟩)) ?_ ?_
     ·intro wq Ea;go_simp
     refine tk 5 (.agg #[it x1,it y1]) ?_ ?_
     ·intro wp Ca;have c0:=Ca.cell EQ.o.1 (by simp);have c1:=Ca.cell EQ.o.2 (by simp);go_simp
     refine tk 6 (.func (.method "loop.example/g00319/impl.next") #[.iface 255 (da m)] #[]) ?_ ?_
     ·intro wq Ea;go_simp
     refine tk 7 (.func (.method "loop.example/g00319/impl.next") #[.iface 255 (da m)] #[]) ?_ ?_
     ·intro wp Ca;kernel_rfl
     refine tk 8 (.iface 255 (da m)) ?_ ?_
     ·intro wq Ea;go_simp
     refine uT (rs:=[9,11]) (by kernel_rfl) (by simp) ?_;refine uC rfl (fun K hK=>?_) (uC rfl (fun K hK=>?_) uJ)
     ·
      go_simp;refine(Tc.o _).mono ?_;rintro e Na ⟨rfl,Gd⟩;go_simp;have Eb:=aH hHeld Gd;refine hK.out _ _ Eb (fun _=>?_);clear hK K Gd;refine uT (rs:=[10,11]) (by kernel_rfl) (by simp) ?_;refine uC rfl (fun K hK=>?_) (uC rfl (fun K hK=>?_) uJ)
      ·
       go_simp;refine(Rb.o _).mono ?_;rintro e Oa ⟨rfl,Ha⟩;go_simp;have Sb:=aH Eb Ha;refine hK.out _ _ Sb (fun _=>?_);clear hK K Ha;refine uT (rs:=[11]) (by kernel_rfl) (by simp) ?_;refine uC rfl (fun K hK=>?_) uJ
       ·
        go_simp;have Id:wq.grownBy (Oa.alloc (.cells #[it 0,it 0] 328)) none:=bj Sb _;have Tb:=ct Oa [it 0,it 0] 328;have Ub:=Hd Sb.size;refine hK.out _ _ Id (fun _=>?_);clear hK K;generalize Oa.alloc (.cells #[it 0,it 0] 328)=Vb at *;generalize Oa.heap.size=Pa at Tb Ub ⊢;refine uT (rs:=[12]) (by kernel_rfl) (by simp) ?_;refine uC rfl (fun K hK=>?_) uJ;rw[if_pos (by kernel_rfl)];with_reducible refine wp_store_mid 328 (.tmp 11) (.tmp 42) ?_ Pa 0 ([it t1,it t2]).toArray ?_ ?_ ?_ (by kernel_rfl) (by kernel_rfl) ?_
        ·exact rfl
        ·exact rfl
        ·exact rfl
        ·exact Tb.o.there 0 2 (by simp)
        have Ba:wq.grownBy (Vb.setCells Pa 0 [it t1,it t2]) none:=dF Id Ub.o 0 _;have Da:H9 (au (Vb.setCells Pa 0 [it t1,it t2]) Pa [it t1,it t2]):=Tb.o.setCells [it t1,it t2] 0 (by simp);refine hK.out _ _ Ba (fun _=>?_);clear hK K;generalize Xa:Vb.setCells Pa 0 [it t1,it t2]=wz at Ba Da;clear Xa;refine bg ?_;go_simp;have Ia:=Hd Ba;have Ja:=Hd Ub.o;clear Ba;revert Ja Ia Da;generalize Pa=mb;revert mb;revert wz;exact key
      ·
       go_simp;have Jd:wq.grownBy (Na.alloc (.cells #[it 0,it 0] 328)) none:=bj Eb _;have Kd:=ct Na [it 0,it 0] 328;have Wb:=Hd Eb.size;refine hK.out _ _ Jd (fun _=>?_);clear hK K;generalize Na.alloc (.cells #[it 0,it 0] 328)=Cf at *;generalize Na.heap.size=Qa at Kd Wb ⊢;refine uT (rs:=[10]) (by kernel_rfl) (by simp) ?_;refine uC rfl (fun K hK=>?_) uJ
       ·
        go_simp;refine(Rb.o _).mono ?_;rintro e Fb ⟨rfl,Ka⟩;go_simp;have Fa:=aH Jd Ka;have Ld:=Kd.b Ka;refine hK.out _ _ Fa (fun _=>?_);clear hK K Ka;refine uT (rs:=[12]) (by kernel_rfl) (by simp) ?_;refine uC rfl (fun K hK=>?_) uJ;rw[if_pos (by kernel_rfl)];with_reducible refine wp_store_mid 328 (.tmp 11) (.tmp 42) ?_ Qa 0 ([it t1,it t2]).toArray ?_ ?_ ?_ (by kernel_rfl) (by kernel_rfl) ?_
        ·exact rfl
        ·exact rfl
        ·exact rfl
        ·exact Ld.o.there 0 2 (by simp)
        have Ba:wq.grownBy (Fb.setCells Qa 0 [it t1,it t2]) none:=dF Fa Wb.o 0 _;have Da:H9 (au (Fb.setCells Qa 0 [it t1,it t2]) Qa [it t1,it t2]):=Ld.o.setCells [it t1,it t2] 0 (by simp);refine hK.out _ _ Ba (fun _=>?_);clear hK K;generalize Xa:Fb.setCells Qa 0 [it t1,it t2]=wz at Ba Da;clear Xa;refine bg ?_;go_simp;have Ia:=Hd Ba;have Ja:=Hd Wb.o;clear Ba;revert Ja Ia Da;generalize Qa=mb;revert mb;revert wz;exact key
     ·
      go_simp;have Ra:wq.grownBy (Wa.alloc (.cells #[it 0,it 0] 328)) none:=bj hHeld _;have Nd:=ct Wa [it 0,it 0] 328;have Xb:=Hd hHeld.size;refine hK.out _ _ Ra (fun _=>?_);clear hK K;generalize Wa.alloc (.cells #[it 0,it 0] 328)=Df at *;generalize Wa.heap.size=Sa at Nd Xb ⊢;refine uT (rs:=[9]) (by kernel_rfl) (by simp) ?_;refine uC rfl (fun K hK=>?_) uJ
      ·
       go_simp;refine(Tc.o _).mono ?_;rintro e Ge ⟨rfl,Yb⟩;go_simp;have Ga:=aH Ra Yb;have He:=Nd.b Yb;refine hK.out _ _ Ga (fun _=>?_);clear hK K Yb;refine uT (rs:=[10]) (by kernel_rfl) (by simp) ?_;refine uC rfl (fun K hK=>?_) uJ
       ·
        go_simp;refine(Rb.o _).mono ?_;rintro e Gb ⟨rfl,Zb⟩;go_simp;have Od:=aH Ga Zb;have Pd:=He.b Zb;refine hK.out _ _ Od (fun _=>?_);clear hK K Zb;refine uT (rs:=[12]) (by kernel_rfl) (by simp) ?_;refine uC rfl (fun K hK=>?_) uJ;rw[if_pos (by kernel_rfl)];with_reducible refine wp_store_mid 328 (.tmp 11) (.tmp 42) ?_ Sa 0 ([it t1,it t2]).toArray ?_ ?_ ?_ (by kernel_rfl) (by kernel_rfl) ?_
        ·exact rfl
        ·exact rfl
        ·exact rfl
        ·exact Pd.o.there 0 2 (by simp)
        have Ba:wq.grownBy (Gb.setCells Sa 0 [it t1,it t2]) none:=dF Od Xb.o 0 _;have Da:H9 (au (Gb.setCells Sa 0 [it t1,it t2]) Sa [it t1,it t2]):=Pd.o.setCells [it t1,it t2] 0 (by simp);refine hK.out _ _ Ba (fun _=>?_);clear hK K;generalize Xa:Gb.setCells Sa 0 [it t1,it t2]=wz at Ba Da;clear Xa;refine bg ?_;go_simp;have Ia:=Hd Ba;have Ja:=Hd Xb.o;clear Ba;revert Ja Ia Da;generalize Sa=mb;revert mb;revert wz;exact key
   case h=>
     intro wz mb Da Ya Ja;have Ie:=True.intro;clear Ie;have Je:=Hd (De.o.grownR Ya.o (by simp));have Ia:=Hd (Ee.o.grownR Ya.o (by simp));have Ac:=Hd (Fe.o.grown Ya.o (by simp));have Qd:=Hd (Ed.o.grown Ya.o Ed.o.size (by simp));have Rd:=Hd (m8 Fd.o Ja.o);have Ke:=Hd (uL Zd.o (m8 Fd.o Ya.o.size));go_wp2;refine wp_region_noPanic ?_;refine wp_region_held_drew (S:=fun W=>wz.grownBy W (Value.slice a' k Aa).ownBlock) (by kernel_rfl) (cU _ _) (fun hHeld=>?_);have Le:=Hd (Je.o.below (m5 _ _).drew);generalize wz.drew=Ef at *;refine tk 0 (.slice a' k Aa) ?_ ?_
     ·intro wq Ea;go_simp
     refine tk 1 (.agg #[it t1,it t2]) ?_ ?_
     ·intro wp Ca;have c0:=(Da.o.grown Ca (Bd.o _ Rd.o)).c 0;have c1:=(Da.o.grown Ca (Bd.o _ Rd.o)).c 1;go_simp
     refine tk 2 (it z) ?_ ?_
     ·intro wq Ea;go_simp
     refine tk 3 (.pointer (some ⟨w.heap.size,6,none⟩)) ?_ ?_
     ·intro wq Ea;go_simp
     refine tk 4 (it la) ?_ ?_
     ·intro wp Ca;have c0:=(Ac.o.grown Ca Cd.o).c 6;go_simp
     refine uT (rs:=[5]) (by kernel_rfl) (by simp) ?_;refine uC rfl (fun K hK=>?_) uJ;go_simp;refine(Ae.o _).mono ?_;rintro e wn ⟨rfl,rfl⟩;go_simp;refine hK.out _ _ (by assumption) (fun hHeld1=>?_);clear hK K;refine uT (rs:=[6]) (by kernel_rfl) (by simp) ?_;refine uC rfl (fun K hK=>?_) uJ;go_simp;refine(Be.o _).mono ?_;rintro e w5 ⟨rfl,Ka⟩;go_simp;have Fa:=aH hHeld Ka;have Ne:=Hd (Le.o.below Ka);refine hK.out _ _ Fa (fun _=>?_);clear hK K Ka;refine uT (rs:=[7]) (by kernel_rfl) (by simp) ?_;refine uC rfl (fun K hK=>?_) uJ;go_simp;have Ra:wz.grownBy (w5.alloc (.cells #[it I,it J] 328)) (Value.slice a' k Aa).ownBlock:=bj Fa _;refine hK.out _ _ Ra (fun _=>?_);clear hK K;refine uT (rs:=[8]) (by kernel_rfl) (by simp) ?_;refine uC rfl (fun K hK=>?_) uJ;rw[if_pos (by kernel_rfl)];refine mS (.tmp 43) (.tmp 50) 268 rfl (w.heap.size+1) 328 i0 (.agg #[it 0,it 0]) 2 16 underlying268 HI.o.1 HI.o.2.1 HI.o.2.2.1 HI.o.2.2.2 rfl (by decide) (.slice a' k Aa) k (lH (cQ k MA)) rfl (vg Ne.o.2 _) ⟨w5.heap.size,0,none⟩ 1 1 [it I,it J] rfl rfl (ed w5 _ _ _) (eh _ _) (by unfold maxLen;omega) (by omega) (by have:=Ac.o.2.2;have:=Fa.size;simp;omega) ?_;intro v' w6 Ta Sd Td;have Ga:=Ra.trans Sd;refine hK.out _ _ Ga (fun _=>?_);clear hK K;have hown':w6.ownsRow (w.heap.size+1) 328 2 v' (k+1) (lH (cQ (k+1) MA)):=(by rw[←Sc.o,←iP];exact Ta);obtain⟨b6,c6,rfl,Ud⟩:=bf.form (pP (k+1) MA) hown';have Oe:=Hd Ud;have Pe:=Hd (Ia.o.grownR Ga (fun x hx=>by injection hx with hx;subst hx;exact Dd.o));have Qe:=Hd (Ac.o.grown Ga Cd.o);have Re:H9 (∀x y,some (⟨b1,o1,none⟩:Addr)=some x→b6=some y→y.block≠x.block):=fun x y hx hy=>by injection hx with hx;subst hx;exact t7 Td (by have:=Ke.o;have:=Fa.size;simp;omega) (kn Dd.o) y hy
     have Se:=Hd (Qd.o.grown Ga Qd.o.size (fun q hq=>m8 (Nat.le_succ _) (Ce.o q hq)));clear Ta hown' Sd Ud Td Ga Ra Fa;refine tk 9 (.slice b6 (k+1) c6) ?_ ?_
     ·intro wp Ca;go_simp
     refine bg ?_;go_simp;go_wp2;go_roundw
     case rel=>exact⟨k+1,b6,c6,by omega,by go_num,rfl,Oe.o,Pe.o,Re.o,Qe.o,Se.o⟩
     case measure=>simp[intOf];omega
  ·
   have Te:k=K:=(by omega);subst Te;go_wp2;go_ret;exact⟨a',Aa,rfl,La.o.mono (by omega),Va.o⟩
theorem jT(ps:List (Int×Int))(i:Nat):(bR ps).getD i 0=(ps.getD i (0,0)).1:=by
 unfold bR;rw[m4,m4,List.getElem?_map]
 cases ps[i]? <;> rfl
theorem jY(ps:List (Int×Int))(i:Nat):(bS ps).getD i 0=(ps.getD i (0,0)).2:=by
 unfold bS;rw[m4,m4,List.getElem?_map]
 cases ps[i]? <;> rfl
theorem pC(hl:ps.length=k)(h:∀i,i<k→(ps.getD i (0,0)).1=f i):bR ps=M.tab k f:=
 M.tab_ext (by rw[gW,hl]) fun i hi=>by rw[jT,h i hi]
theorem pO(hl:ps.length=k)(h:∀i,i<k→(ps.getD i (0,0)).2=f i):bS ps=M.tab k f:=
 M.tab_ext (by rw[gZ,hl]) fun i hi=>by rw[jY,h i hi]
theorem gX(m:M.Mc)(s:Int×Int)(h:i≤n):(m.run s n).getD i (0,0)=m.rn s i:=by
 unfold M.Mc.run;simp[m4,show i<n+1 by omega]
theorem pL(m:M.Mc)(s:Int×Int)(h:0<N):bR (m.run s (N-1))=M.xsR m s N:=
 pC (by rw[M.run_len];omega) fun i hi=>by rw[gX m s (by omega)]
theorem pM(m:M.Mc)(s:Int×Int)(h:0<N):bS (m.run s (N-1))=M.ysR m s N:=
 pO (by rw[M.run_len];omega) fun i hi=>by rw[gX m s (by omega)]
theorem lT(m:M.Mc)(X Y:List Int)(h:i<4*N):(cf m (cu X Y (4*N)) N i).1=M.mis m.X X Y X N i:=by
 unfold cf M.mis M.Mc.nx;rw[dD X Y h,dD X Y (Nat.mod_lt _ (by omega))]
theorem lU(m:M.Mc)(X Y:List Int)(h:i<4*N):(cf m (cu X Y (4*N)) N i).2=M.mis m.Y X Y Y N i:=by
 unfold cf M.mis M.Mc.nx;rw[dD X Y h,dD X Y (Nat.mod_lt _ (by omega))]
theorem sG{X Y:List Int}(hx:M.allEl X=true)(hy:M.allEl Y=true):∀i,i<k→M.sOk ((cu X Y k).getD i (0,0))=true:=fun i hi=>by
 rw[dD X Y hi];exact(M.sOk_iff _).2 ⟨M.el_at hx i,M.el_at hy i⟩
theorem Rd.cells{len:Nat}(h:Rd w0 R ca len cap w)(hb:w0.heap.size≤b)(hne:b≠R)(us:List Value):Rd w0 R ca len cap (w.setCells b o us):=
 h.keep (b:=some ⟨b,0,none⟩) (n:=1) (c:=1) (a8 (World.grownBy.refl _ _) o us) (fun x hx=>by injection hx with hx;subst hx;exact hne) (fun x hx=>by injection hx with hx;subst hx;exact hb)
theorem b7{a:World}(h:a.grownBy w row)(hb:a.heap.size≤b):a.grownBy (w.setCell ⟨b,i,none⟩ v) row:=
 ⟨h.os,h.tape,h.output,by simpa[World.setCell]using h.size,fun j hj hne=>(Below.heap_setCell _ _ _ _ (by show j≠b;omega)).trans (h.block j hj hne)⟩
theorem Rd.setS{len:Nat}(h:Rd w0 R ca len cap w)(hb:w0.heap.size≤b)(hne:b≠R):Rd w0 R ca len cap (w.setCell ⟨b,i,none⟩ v):=
 h.keep (b:=some ⟨b,0,none⟩) (n:=1) (c:=1) (dG (World.grownBy.refl _ _) ⟨b,i,none⟩ rfl v) (fun x hx=>by injection hx with hx;subst hx;exact hne) (fun x hx=>by injection hx with hx;subst hx;exact hb)
theorem aw.setS{z:List Int}(h:aw w a n c z)(hb:∀x,a=some x→x.block≠b):aw (w.setCell ⟨b,i,none⟩ v) a n c z:=
 h.grownR (dG (World.grownBy.refl _ _) ⟨b,i,none⟩ rfl v) (fun x hx e=>hb x hx (m2 e).symm)
theorem cV{a:World}(h:a.grownBy w row)(hg:w.grownBy w' (some b))(hb:a.heap.size≤b):a.grownBy w' row:=
 ⟨hg.os.trans h.os,hg.tape.trans h.tape,hg.output.trans h.output,m8 h.size hg.size,fun i hi hr=>(hg.block i (uL hi h.size) (fun e=>by have:=m2 e;omega)).trans (h.block i hi hr)⟩
set_option maxRecDepth 10000 in
theorem dK{len:Nat}(hrow:Row .u8 w0 a len cap zs)(w:World)(h:Rd w0 R a len cap w):
  Calls prog 90 #[.pointer (some ⟨R,0,none⟩)] w fun e w'=>∃s:Int×Int,e=.returned (cM s)∧Rd w0 R a len cap w'∧w.grownBy w' (some R):=by
 have Fa:=Hd hrow;have Db:=h.hi;have Eb:=h.below.size;have Aa:=eK w (.cells #[it 0,it 0] 33);have Ga:=ct w [it 0,it 0] 33;have Ha:H9 (Rd w0 R a len cap (w.alloc (.cells #[it 0,it 0] 33))):=h.alloc _;have Ia:H9 (w.grownBy (w.alloc (.cells #[it 0,it 0] 33)) (some R)):=aB Aa _;clear Aa h hrow;go_enter func90,ntmps90;(go_wp2_with fail);generalize(w.alloc (.cells #[it 0,it 0] 33))=wq at *;refine(dm Fa.o _ Ha.o).mono ?_;rintro e w1 ⟨x,-,-,rfl,hr,hg⟩;have Ea:=Hd (Ga.o.grown hg (by simp;omega));have Ja:=Hd hr;have Ka:=Hd (Ia.o.trans hg);clear Ga Ha Ia;clear hg hr;have La:=Ea.o.2.2;have Aa:=eK w1 (.cells #[it x,it 0] 33);have Na:=Ea.b Aa;have Oa:=Hd (Ja.o.grow Aa);have Pa:=Hd (Ka.o.trans (aB Aa _));clear Ea Ja Ka;clear Aa;have Ca:=ct w1 [it x,it 0] 33;(go_wp2_with fail);have Va:=La;have Wa:R<w1.heap.size:=(by omega);generalize(w1.alloc (.cells #[it x,it 0] 33))=w2 at *;generalize w1.heap.size=xb at Ca Va Wa La ⊢;have Fb:=Ca.o.2.2;refine(dm Fa.o _ Oa.o).mono ?_;rintro e w3 ⟨y,-,-,rfl,hr,hg⟩;have Qa:=Hd (Na.o.grown hg (by simp;omega));have Ra:=Hd hr;have Sa:=Hd (Pa.o.trans hg);have Da:=Hd (Ca.o.grown hg (by simp;omega));clear Na Oa Pa Ca;clear hg hr;have c0:=Da.c 1;have f0:=Da.o.fr 1;have Ta:w3.grownBy (w3.setCell ⟨xb,1,none⟩ (it y)) (some xb):=dG (World.grownBy.refl _ _) ⟨xb,1,none⟩ rfl _;have Ba:=Hd (Qa.o.grown Ta (by simp;omega));have Xa:H9 (Rd w0 R a len cap (w3.setCell ⟨xb,1,none⟩ (it y))):=Rd.setS Ra.o (by omega) (by omega);have Ya:H9 (w.grownBy (w3.setCell ⟨xb,1,none⟩ (it y)) (some R)):=b7 Sa.o (by omega);have Ua:H9 (au (w3.setCell ⟨xb,1,none⟩ (it y)) xb [it x,it y]):=Da.o.set 1 (by simp) _;clear Ta Qa Ra Sa Da;have r0:=Ba.c 0;have s0:=Ba.o.fr 0;have o0:=Ua.c 0;have r1:=Ba.c 1;have s1:=Ba.o.fr 1;have o1:=Ua.c 1;(go_wp2_with fail);show bodyPost _ _ _ _ _ ((w3.setCell ⟨xb,1,none⟩ (it y)).setCells w.heap.size 0 [it x,it y]);have Za:au ((w3.setCell ⟨xb,1,none⟩ (it y)).setCells w.heap.size 0 [it x,it y]) w.heap.size [it x,it y]:=Ba.o.setCells [it x,it y] 0 (by simp);have Ab:=cm (w3.setCell ⟨xb,1,none⟩ (it y)) w.heap.size 0 [it x,it y];have Bb:Rd w0 R a len cap ((w3.setCell ⟨xb,1,none⟩ (it y)).setCells w.heap.size 0 [it x,it y]):=Xa.o.cells (by omega) (by omega) _;have Cb:=cV Ya.o Ab (m3 _);generalize((w3.setCell ⟨xb,1,none⟩ (it y)).setCells w.heap.size 0 [it x,it y])=wf at *;exact m7 (aS rfl rfl (uN wf w.heap.size 0 33 _ _ Za.row underlying33 rfl (by kernel_rfl))) rfl ⟨(x,y),rfl,Bb,Cb⟩
set_option maxRecDepth 10000 in
theorem lI{len:Nat}(hrow:Row .u8 w0 a len cap zs)(w:World)(h:Rd w0 R a len cap w):
  Calls prog 146 #[.pointer (some ⟨R,0,none⟩)] w fun e w'=>∃r:M.Rl,e=.returned (iR r)∧Rd w0 R a len cap w'∧w.grownBy w' (some R):=by
 have Fa:=Hd hrow;have Hc:=h.hi;have Ic:=h.below.size;have Ga:=eK w (.cells (c8 0 0 0 0 0 0).toArray 29);have Wa:=ct w (c8 0 0 0 0 0 0) 29;have Xa:H9 (Rd w0 R a len cap (w.alloc (.cells (c8 0 0 0 0 0 0).toArray 29))):=h.alloc _;have Ya:H9 (w.grownBy (w.alloc (.cells (c8 0 0 0 0 0 0).toArray 29)) (some R)):=aB Ga _;clear Ga h hrow;go_enter func146,ntmps146;(go_wp2_with fail);generalize(w.alloc (.cells (c8 0 0 0 0 0 0).toArray 29))=wq at *;refine(dm Fa.o _ Xa.o).mono ?_;rintro e w1 ⟨x,-,-,rfl,hr,hg⟩;have Za:=Hd (Wa.o.grown hg (by simp;omega));have Ab:=Hd hr;have Bb:=Hd (Ya.o.trans hg);clear Wa Xa Ya;clear hg hr;(go_wp2_with fail);refine(dm Fa.o _ Ab.o).mono ?_;rintro e w2 ⟨y,-,-,rfl,hr,hg⟩;have Cb:=Hd (Za.o.grown hg (by simp;omega));have Db:=Hd hr;have Eb:=Hd (Bb.o.trans hg);clear Za Ab Bb;clear hg hr;(go_wp2_with fail);refine(dm Fa.o _ Db.o).mono ?_;rintro e w3 ⟨z,-,-,rfl,hr,hg⟩;have Oa:=Hd (Cb.o.grown hg (by simp;omega));have Fb:=Hd hr;have Gb:=Hd (Eb.o.trans hg);clear Cb Db Eb;clear hg hr;have Hb:=Oa.o.2.2;have Ga:=eK w3 (.cells (c8 0 0 0 x y z).toArray 29);have Ib:=Oa.b Ga;have Jb:=Hd (Fb.o.grow Ga);have Kb:=Hd (Gb.o.trans (aB Ga _));clear Oa Fb Gb;clear Ga;have Pa:=ct w3 (c8 0 0 0 x y z) 29;(go_wp2_with fail);have Dc:=Hb;have Ec:R<w3.heap.size:=(by omega);generalize(w3.alloc (.cells (c8 0 0 0 x y z).toArray 29))=w4 at *;generalize w3.heap.size=xb at Pa Dc Ec Hb ⊢;refine(dp Fa.o 2 (by decide) (by decide) _ Jb.o).mono ?_;rintro e w5 ⟨o,rfl,hr,hg⟩;have Ba:=Hd (Ib.o.grown hg (by simp;omega));have Qa:=Hd hr;have Ra:=Hd (Kb.o.trans hg);have Ea:=Hd (Pa.o.grown hg (by simp;omega));clear Ib Jb Kb Pa;clear hg hr
 cases o with
 | false=>
  have r0:=Ba.c 0;have s0:=Ba.o.fr 0;have o0:=Ea.c 0;have r1:=Ba.c 1;have s1:=Ba.o.fr 1;have o1:=Ea.c 1;have r2:=Ba.c 2;have s2:=Ba.o.fr 2;have o2:=Ea.c 2;have r3:=Ba.c 3;have s3:=Ba.o.fr 3;have o3:=Ea.c 3;have r4:=Ba.c 4;have s4:=Ba.o.fr 4;have o4:=Ea.c 4;have r5:=Ba.c 5;have s5:=Ba.o.fr 5;have o5:=Ea.c 5;(go_wp2_with fail);show bodyPost _ _ _ _ _ (w5.setCells w.heap.size 0 (c8 0 0 0 x y z));have Sa:au (w5.setCells w.heap.size 0 (c8 0 0 0 x y z)) w.heap.size (c8 0 0 0 x y z):=Ba.o.setCells (c8 0 0 0 x y z) 0 (by simp);have Ta:=cm w5 w.heap.size 0 (c8 0 0 0 x y z);have Ua:Rd w0 R a len cap (w5.setCells w.heap.size 0 (c8 0 0 0 x y z)):=Qa.o.cells (by omega) (by omega) _;have Va:=cV Ra.o Ta (m3 _);generalize(w5.setCells w.heap.size 0 (c8 0 0 0 x y z))=wf at *;exact m7 (aS rfl rfl (uN wf w.heap.size 0 29 _ _ Sa.row underlying29 rfl (by kernel_rfl))) rfl ⟨⟨0,0,0,x,y,z⟩,rfl,Ua,Va⟩
 | true=>
  (go_wp2_with fail);refine(dm Fa.o _ Qa.o).mono ?_;rintro e Ha ⟨p,-,-,rfl,hr,hg⟩;have Lb:=Hd (Ba.o.grown hg (by simp;omega));have Nb:=Hd hr;have Ob:=Hd (Ra.o.trans hg);have Ka:=Hd (Ea.o.grown hg (by simp;omega));clear Ba Qa Ra Ea;clear hg hr;have c0:=Ka.c 0;have f0:=Ka.o.fr 0;(go_wp2_with fail);clear c0 f0;have Da:Ha.grownBy (Ha.setCell ⟨xb,0,none⟩ (it p)) (some xb):=dG (World.grownBy.refl _ _) ⟨xb,0,none⟩ rfl _;have Pb:=Hd (Lb.o.grown Da (by simp;omega));have Qb:H9 (Rd w0 R a len cap (Ha.setCell ⟨xb,0,none⟩ (it p))):=Rd.setS Nb.o (by omega) (by omega);have Rb:=Hd (cV Ob.o Da (by omega));have Sb:H9 (au (Ha.setCell ⟨xb,0,none⟩ (it p)) xb [it p,it 0,it 0,it x,it y,it z]):=Ka.o.set 0 (by simp) _;clear Da Lb Nb Ob Ka;generalize(Ha.setCell ⟨xb,0,none⟩ (it p))=Jc at *;(go_wp2_with fail);refine(dm Fa.o _ Qb.o).mono ?_;rintro e Ia ⟨q,-,-,rfl,hr,hg⟩;have Tb:=Hd (Pb.o.grown hg (by simp;omega));have Ub:=Hd hr;have Vb:=Hd (Rb.o.trans hg);have La:=Hd (Sb.o.grown hg (by simp;omega));clear Pb Qb Rb Sb;clear hg hr;have c0:=La.c 1;have f0:=La.o.fr 1;(go_wp2_with fail);clear c0 f0;have Da:Ia.grownBy (Ia.setCell ⟨xb,1,none⟩ (it q)) (some xb):=dG (World.grownBy.refl _ _) ⟨xb,1,none⟩ rfl _;have Wb:=Hd (Tb.o.grown Da (by simp;omega));have Xb:H9 (Rd w0 R a len cap (Ia.setCell ⟨xb,1,none⟩ (it q))):=Rd.setS Ub.o (by omega) (by omega);have Yb:=Hd (cV Vb.o Da (by omega));have Zb:H9 (au (Ia.setCell ⟨xb,1,none⟩ (it q)) xb [it p,it q,it 0,it x,it y,it z]):=La.o.set 1 (by simp) _;clear Da Tb Ub Vb La;generalize(Ia.setCell ⟨xb,1,none⟩ (it q))=Kc at *;(go_wp2_with fail);refine(dm Fa.o _ Xb.o).mono ?_;rintro e Aa ⟨r',-,-,rfl,hr,hg⟩;have Ac:=Hd (Wb.o.grown hg (by simp;omega));have Bc:=Hd hr;have Cc:=Hd (Yb.o.trans hg);have Na:=Hd (Zb.o.grown hg (by simp;omega));clear Wb Xb Yb Zb;clear hg hr;have c0:=Na.c 2;have f0:=Na.o.fr 2;have Da:Aa.grownBy (Aa.setCell ⟨xb,2,none⟩ (it r')) (some xb):=dG (World.grownBy.refl _ _) ⟨xb,2,none⟩ rfl _;have Ca:=Hd (Ac.o.grown Da (by simp;omega));have Fc:H9 (Rd w0 R a len cap (Aa.setCell ⟨xb,2,none⟩ (it r'))):=Rd.setS Bc.o (by omega) (by omega);have Gc:H9 (w.grownBy (Aa.setCell ⟨xb,2,none⟩ (it r')) (some R)):=b7 Cc.o (by omega);have Ja:H9 (au (Aa.setCell ⟨xb,2,none⟩ (it r')) xb (c8 p q r' x y z)):=Na.o.set 2 (by simp) _;clear Da Ac Bc Cc Na;have r0:=Ca.c 0;have s0:=Ca.o.fr 0;have o0:=Ja.c 0;have r1:=Ca.c 1;have s1:=Ca.o.fr 1;have o1:=Ja.c 1;have r2:=Ca.c 2;have s2:=Ca.o.fr 2;have o2:=Ja.c 2;have r3:=Ca.c 3;have s3:=Ca.o.fr 3;have o3:=Ja.c 3;have r4:=Ca.c 4;have s4:=Ca.o.fr 4;have o4:=Ja.c 4;have r5:=Ca.c 5;have s5:=Ca.o.fr 5;have o5:=Ja.c 5;(go_wp2_with fail);show bodyPost _ _ _ _ _ ((Aa.setCell ⟨xb,2,none⟩ (it r')).setCells w.heap.size 0 (c8 p q r' x y z));have Sa:au ((Aa.setCell ⟨xb,2,none⟩ (it r')).setCells w.heap.size 0 (c8 p q r' x y z)) w.heap.size (c8 p q r' x y z):=Ca.o.setCells (c8 p q r' x y z) 0 (by simp);have Ta:=cm (Aa.setCell ⟨xb,2,none⟩ (it r')) w.heap.size 0 (c8 p q r' x y z);have Ua:Rd w0 R a len cap ((Aa.setCell ⟨xb,2,none⟩ (it r')).setCells w.heap.size 0 (c8 p q r' x y z)):=Fc.o.cells (by omega) (by omega) _;have Va:=cV Gc.o Ta (m3 _);generalize((Aa.setCell ⟨xb,2,none⟩ (it r')).setCells w.heap.size 0 (c8 p q r' x y z))=wf at *;exact m7 (aS rfl rfl (uN wf w.heap.size 0 29 _ _ Sa.row underlying29 rfl (by kernel_rfl))) rfl ⟨⟨p,q,r',x,y,z⟩,rfl,Ua,Va⟩
set_option maxRecDepth 10000 in
theorem mE{len:Nat}(hrow:Row .u8 w0 a len cap zs)(w:World)(h:Rd w0 R a len cap w):
  Calls prog 67 #[.pointer (some ⟨R,0,none⟩)] w fun e w'=>∃m:M.Mc,e=.returned (da m)∧Rd w0 R a len cap w'∧w.grownBy w' (some R):=by
 have Ta:=Hd hrow;have Kb:=h.hi;have Lb:=h.below.size;have Da:=eK w (.cells (iQ 0 0 0 0 0 0).toArray 31);have Ea:=ct w (iQ 0 0 0 0 0 0) 31;have Ga:H9 (Rd w0 R a len cap (w.alloc (.cells (iQ 0 0 0 0 0 0).toArray 31))):=h.alloc _;have Ha:H9 (w.grownBy (w.alloc (.cells (iQ 0 0 0 0 0 0).toArray 31)) (some R)):=aB Da _;clear Da h hrow;go_enter func67,ntmps67;(go_wp2_with fail);generalize(w.alloc (.cells (iQ 0 0 0 0 0 0).toArray 31))=wq at *;refine(lI Ta.o _ Ga.o).mono ?_;rintro e w1 ⟨⟨a1,b1,c1,d1,f1,k1⟩,rfl,hr,hg⟩;have Fa:=Hd (Ea.o.grown hg (by simp;omega));have Ja:=Hd hr;have Ka:=Hd (Ha.o.trans hg);clear Ea Ga Ha;clear hg hr;dsimp only[iR];have Ua:=Fa.o.2.2;have Da:=eK w1 (.cells (iQ a1 b1 c1 d1 f1 k1).toArray 31);have Va:=Fa.b Da;have Wa:=Hd (Ja.o.grow Da);have Xa:=Hd (Ka.o.trans (aB Da _));clear Fa Ja Ka;clear Da;have La:=ct w1 (iQ a1 b1 c1 d1 f1 k1) 31;(go_wp2_with fail);have Fb:=Ua;have Gb:R<w1.heap.size:=(by omega);generalize(w1.alloc (.cells (iQ a1 b1 c1 d1 f1 k1).toArray 31))=w2 at *;generalize w1.heap.size=xb at La Fb Gb Ua ⊢;refine(lI Ta.o _ Wa.o).mono ?_;rintro e w3 ⟨⟨a2,b2,c2,d2,f2,k2⟩,rfl,hr,hg⟩;have Ya:=Hd (Va.o.grown hg (by simp;omega));have Za:=Hd hr;have Ab:=Hd (Xa.o.trans hg);have Ba:=Hd (La.o.grown hg (by simp;omega));clear Va Wa Xa La;clear hg hr;dsimp only[iR];have c0:=Ba.c 6;have f0:=Ba.o.fr 6;have c1:=Ba.c 7;have f1:=Ba.o.fr 7;have c2:=Ba.c 8;have f2:=Ba.o.fr 8;have c3:=Ba.c 9;have f3:=Ba.o.fr 9;have c4:=Ba.c 10;have f4:=Ba.o.fr 10;have c5:=Ba.c 11;have f5:=Ba.o.fr 11;(go_wp2_with fail);clear c0 f0 c1 f1 c2 f2 c3 f3 c4 f4 c5 f5;have Ia:=cm w3 xb 6 (c8 a2 b2 c2 d2 f2 k2);have Bb:=Hd (Ya.o.grown Ia (by simp;omega));have Cb:H9 (Rd w0 R a len cap (w3.setCells xb 6 (c8 a2 b2 c2 d2 f2 k2))):=Za.o.cells (by omega) (by omega) _;have Db:=Hd (cV Ab.o Ia (by omega));have Eb:H9 (au (w3.setCells xb 6 (c8 a2 b2 c2 d2 f2 k2)) xb (co a1 b1 c1 d1 f1 k1 a2 b2 c2 d2 f2 k2)):=Ba.o.setCells (c8 a2 b2 c2 d2 f2 k2) 6 (by simp);clear Ia Ya Za Ab Ba;show Code.wp _ _ _ _ (w3.setCells xb 6 (c8 a2 b2 c2 d2 f2 k2));generalize(w3.setCells xb 6 (c8 a2 b2 c2 d2 f2 k2))=w4 at *;go_wp2_with fail
 go_loopw [4] (fun i wr=>∃(n:Nat) (a1 b1 c1 d1 f1 k1 a2 b2 c2 d2 f2 k2:Int),n≤9∧i=it n∧au wr w.heap.size (iQ 0 0 0 0 0 0)∧au wr xb (co a1 b1 c1 d1 f1 k1 a2 b2 c2 d2 f2 k2)∧Rd w0 R a len cap wr∧w.grownBy wr (some R)) (fun i _=>9-(intOf i).toNat)
 case atStart=>exact⟨0,_,_,_,_,_,_,_,_,_,_,_,_,by omega,rfl,Bb.o,Eb.o,Cb.o,Db.o⟩
 case round=>
  clear Bb Cb Db Eb;obtain⟨n,a1,b1,c1,d1,f1,k1,a2,b2,c2,d2,f2,k2,hn,rfl,hZ,hX,hR,hG⟩:=hrel;have Ea:=Hd hZ;have Aa:=Hd hX;have Ga:=Hd hR;have Ha:=Hd hG;clear hZ hX hR hG;by_cases Nb:n<9
  case neg=>
   have Hb:¬ (n:Int)<9:=(by omega);have o0:=Aa.c 0;have o1:=Aa.c 1;have o2:=Aa.c 2;have o3:=Aa.c 3;have o4:=Aa.c 4;have o5:=Aa.c 5;have o6:=Aa.c 6;have o7:=Aa.c 7;have o8:=Aa.c 8;have o9:=Aa.c 9;have Na:=Aa.c 10;have Oa:=Aa.c 11;(go_wp2_with(with_reducible refine aF ?_ ?_;rfl));clear o0 o1 o2 o3 o4 o5 o6 o7 o8 o9 Na Oa;with_reducible refine fq 31 w.heap.size 0 (co a1 b1 c1 d1 f1 k1 a2 b2 c2 d2 f2 k2) ?q6 ?q5 ?_
   case q6=>exact Ea.o.there _ 12 (by simp)
   case q5=>exact⟨rfl,by kernel_rfl,by kernel_rfl,_,_,rfl,by kernel_rfl,by kernel_rfl⟩
   (go_wp2_with fail);show bodyPost _ _ _ _ _ (wr.setCells w.heap.size 0 (co a1 b1 c1 d1 f1 k1 a2 b2 c2 d2 f2 k2));have Pa:au (wr.setCells w.heap.size 0 (co a1 b1 c1 d1 f1 k1 a2 b2 c2 d2 f2 k2)) w.heap.size (co a1 b1 c1 d1 f1 k1 a2 b2 c2 d2 f2 k2):=Ea.o.setCells (co a1 b1 c1 d1 f1 k1 a2 b2 c2 d2 f2 k2) 0 (by simp);have Qa:=cm wr w.heap.size 0 (co a1 b1 c1 d1 f1 k1 a2 b2 c2 d2 f2 k2);have Ra:Rd w0 R a len cap (wr.setCells w.heap.size 0 (co a1 b1 c1 d1 f1 k1 a2 b2 c2 d2 f2 k2)):=Ga.o.cells (by omega) (by omega) _;have Sa:=cV Ha.o Qa (m3 _);generalize(wr.setCells w.heap.size 0 (co a1 b1 c1 d1 f1 k1 a2 b2 c2 d2 f2 k2))=wf at *;exact m7 (aS rfl rfl (uN wf w.heap.size 0 31 _ _ Pa.row underlying31 rfl (by kernel_rfl))) rfl ⟨⟨⟨a1,b1,c1,d1,f1,k1⟩,⟨a2,b2,c2,d2,f2,k2⟩⟩,rfl,Ra,Sa⟩
  case pos=>
   have Hb:(n:Int)<9:=(by omega);have CM:=fun W=>bA ⟨⟨a1,b1,c1,d1,f1,k1⟩,⟨a2,b2,c2,d2,f2,k2⟩⟩ W;generalize M.Mc.ok ⟨⟨a1,b1,c1,d1,f1,k1⟩,⟨a2,b2,c2,d2,f2,k2⟩⟩=ok at CM;dsimp only[da]at CM;have m0:=Aa.c 0;have I:=Aa.c 1;have J:=Aa.c 2;have Q:=Aa.c 3;have V:=Aa.c 4;have T:=Aa.c 5;have Y:=Aa.c 6;have Z:=Aa.c 7;have L:=Aa.c 8;have U:=Aa.c 9;have Ib:=Aa.c 10;have Jb:=Aa.c 11;(go_wp2_with fail);clear m0 I J Q V T Y Z L U Ib Jb;refine(CM _).mono ?_;rintro e wm ⟨rfl,hb⟩;have Fa:=Ea.b hb;have Ca:=Aa.b hb;have Ja:=Hd (Ga.o.grow hb);have Ka:=Hd (Ha.o.trans (aB hb _));clear Ea Aa Ga Ha;clear hb CM
   cases ok with
   | true=>
    have o0:=Ca.c 0;have o1:=Ca.c 1;have o2:=Ca.c 2;have o3:=Ca.c 3;have o4:=Ca.c 4;have o5:=Ca.c 5;have o6:=Ca.c 6;have o7:=Ca.c 7;have o8:=Ca.c 8;have o9:=Ca.c 9;have Na:=Ca.c 10;have Oa:=Ca.c 11;(go_wp2_with(with_reducible refine aF ?_ ?_;rfl));clear o0 o1 o2 o3 o4 o5 o6 o7 o8 o9 Na Oa;with_reducible refine fq 31 w.heap.size 0 (co a1 b1 c1 d1 f1 k1 a2 b2 c2 d2 f2 k2) ?q6 ?q5 ?_
    case q6=>exact Fa.o.there _ 12 (by simp)
    case q5=>exact⟨rfl,by kernel_rfl,by kernel_rfl,_,_,rfl,by kernel_rfl,by kernel_rfl⟩
    (go_wp2_with fail);show bodyPost _ _ _ _ _ (wm.setCells w.heap.size 0 (co a1 b1 c1 d1 f1 k1 a2 b2 c2 d2 f2 k2));have Pa:au (wm.setCells w.heap.size 0 (co a1 b1 c1 d1 f1 k1 a2 b2 c2 d2 f2 k2)) w.heap.size (co a1 b1 c1 d1 f1 k1 a2 b2 c2 d2 f2 k2):=Fa.o.setCells (co a1 b1 c1 d1 f1 k1 a2 b2 c2 d2 f2 k2) 0 (by simp);have Qa:=cm wm w.heap.size 0 (co a1 b1 c1 d1 f1 k1 a2 b2 c2 d2 f2 k2);have Ra:Rd w0 R a len cap (wm.setCells w.heap.size 0 (co a1 b1 c1 d1 f1 k1 a2 b2 c2 d2 f2 k2)):=Ja.o.cells (by omega) (by omega) _;have Sa:=cV Ka.o Qa (m3 _);generalize(wm.setCells w.heap.size 0 (co a1 b1 c1 d1 f1 k1 a2 b2 c2 d2 f2 k2))=wf at *;exact m7 (aS rfl rfl (uN wf w.heap.size 0 31 _ _ Pa.row underlying31 rfl (by kernel_rfl))) rfl ⟨⟨⟨a1,b1,c1,d1,f1,k1⟩,⟨a2,b2,c2,d2,f2,k2⟩⟩,rfl,Ra,Sa⟩
   | false=>
    have Ob:IntKind.i64.wrap ((n:Int)+1)=(n:Int)+1:=(by rw[uQ];omega);(go_wp2_with(with_reducible refine aF ?_ ?_;rfl));with_reducible refine fq 31 xb 0 (co 0 0 0 0 1 0 0 0 0 1 ((n:Int)+1) 0) ?q6 ?q5 ?_
    case q6=>exact Ca.o.there _ 12 (by simp)
    case q5=>exact⟨rfl,by kernel_rfl,by kernel_rfl,_,_,rfl,by kernel_rfl,by kernel_rfl⟩
    have Ia:=cm wm xb 0 (co 0 0 0 0 1 0 0 0 0 1 ((n:Int)+1) 0);have hZ:=Fa.o.grown Ia (by simp;omega);have hX:au (wm.setCells xb 0 (co 0 0 0 0 1 0 0 0 0 1 ((n:Int)+1) 0)) xb (co 0 0 0 0 1 0 0 0 0 1 ((n:Int)+1) 0):=Ca.o.setCells (co 0 0 0 0 1 0 0 0 0 1 ((n:Int)+1) 0) 0 (by simp);have hR:Rd w0 R a len cap (wm.setCells xb 0 (co 0 0 0 0 1 0 0 0 0 1 ((n:Int)+1) 0)):=Ja.o.cells (by omega) (by omega) _;have hG:=cV Ka.o Ia (by omega);generalize(wm.setCells xb 0 (co 0 0 0 0 1 0 0 0 0 1 ((n:Int)+1) 0))=wn at *;go_wp2;go_roundw
    case rel=>exact⟨n+1,_,_,_,_,_,_,_,_,_,_,_,_,by omega,by go_num,hZ,hX,hR,hG⟩
    case measure=>simp[intOf];omega
theorem Rd.sets{len:Nat}(hB:B≠R)(hlo:w0.heap.size≤B):∀(vs:List Value) (w:World) (i:Nat),Rd w0 R a len cap w→Rd w0 R a len cap (fP w B i vs):=by
 intro vs w i h;obtain⟨p,hp,Aa⟩:=h.cp;exact⟨fJ hlo vs w i h.below,h.lo,by rw[i9];exact h.hi,(kt B (show R≠B from fun e=>hB e.symm) vs w i).trans h.cb,⟨p,hp,(kt B (show R≠B from fun e=>hB e.symm) vs w i).trans Aa⟩,by rw[eT];exact h.fr⟩
end Go.Proofs.YtjcjonncaknhnaaGreatDoor
