import Derived.Test.YtjcjonncaknhnaaGreatDoorPk07
import Derived.Test.YtjcjonncaknhnaaGreatDoorPk06
namespace Go.Proofs.YtjcjonncaknhnaaGreatDoor
open Go.RowKit Go.Proofs.Tryz
set_option linter.unusedSimpArgs false
set_option maxHeartbeats 32000000
variable {ab aj a ai:Option Addr}{nb cb nj cj n c mb k i' cap g h ni ci:Nat}{js:List M.Jb}{zs bs:List Int}{now tj who x:Int}{w w':World}{o:Oper}{ts:List M.Tk}{t:TypeId}{row:Option Nat}{P:Program}{ops:Array Oper}{K:Act→World→Prop}{Q:Exit→Act→World→Prop}{E:Prop}
set_option maxRecDepth 10000 in
theorem oQ(now tj:Int)(h0:0≤now)(h1:now≤1000000000)(g0:1≤tj)(g1:tj≤1000000000)(w:World)(hz:dp w aj nj cj js):
  Rt 52 #[.agg #[.int .i64 now,.int .i64 tj,.slice ab nb cb,.slice aj nj cj]] w (.bool (decide (nj≤6)&&M.jsGo now tj 0 js)):=by
 have bn:(nj:Int)≤9223372036854775807:=(by have:=hz.big;have:=hz.le;omega);have HZ:=Hd (hz);have Ka:=cz w (au now tj ab nb cb aj nj cj) 27;have Ia:H9 (Below w.heap.size w (w.alloc (.cells (au now tj ab nb cb aj nj cj).toArray 27))):=(tv _ _).alloc (tr _) _;clear hz;by_cases hs:nj≤6
 ·
  have Xa:(nj:Int)≤6:=(by omega);rw[show decide (nj≤6)=true by simpa using hs,Bool.true_and];generalize hR:M.jsGo now tj 0 js=R;have HR:=Hd (hR);clear hR;go_enter func52,ntmps52;go_wp2
  go_loopw [3,13] (fun l i wr=>∃(j:Nat) (q:Int),j≤nj∧i=it j∧l=it q∧0≤q∧q≤1000000000∧M.jsGo now tj q (js.drop j)=R∧ae wr w.heap.size (au now tj ab nb cb aj nj cj)∧Below w.heap.size w wr) (fun _ i _=>nj-(intOf i).toNat)
  case atStart=>exact⟨0,0,by omega,rfl,rfl,by omega,by omega,HR.o,Ka.o,Ia.o⟩
  case round=>
   obtain⟨j,q,hj,rfl,rfl,Fb,Gb,hg,La,Na⟩:=hrel;have Ea:=Hd (Na);have Oa:=Hd (La);clear Na La Ka Ia HR;by_cases Pa:j<nj
   ·
    obtain⟨b1,o1,rfl,Qa⟩:=(HZ.o.below Ea.o).at (by omega);obtain⟨ta,tc,hA,hT⟩:=Qa j Pa;have hI:(j:Int)<(nj:Int):=by omega
    have hG:(((decide (q+1≤(js.getD j M.j0).id)&&decide ((js.getD j M.j0).id≤tj-1))&&M.jbOk now (js.getD j M.j0))&&M.jsGo now tj (js.getD j M.j0).id (js.drop (j+1)))=R:=by
     rw[←hg,aQ M.j0 HZ.o.len Pa];rfl
    generalize js.getD j M.j0=cq at hA hT hG;obtain⟨Aa,⟨⟨a,b,c',d,f,k⟩,⟨a',b',Ba,d',f',k'⟩⟩,⟨s1,s2⟩,jr,jg,tl⟩:=cq;dsimp only at hT hG;have hR:wr.rangeAt b1 (o1+j*18) (dJ ⟨Aa,⟨⟨a,b,c',d,f,k⟩,⟨a',b',Ba,d',f',k'⟩⟩,(s1,s2),jr,jg,tl⟩ ta tc):=bw rfl hA;have HT:=Hd (hT);have C2:∀W,aY W ta tl.length tc tl→Rt 110 #[.agg (dJ ⟨Aa,⟨⟨a,b,c',d,f,k⟩,⟨a',b',Ba,d',f',k'⟩⟩,(s1,s2),jr,jg,tl⟩ ta tc).toArray,it now] W (.bool (M.jbOk now ⟨Aa,⟨⟨a,b,c',d,f,k⟩,⟨a',b',Ba,d',f',k'⟩⟩,(s1,s2),jr,jg,tl⟩)):=fun W h=>qD Aa a b c' d f k a' b' Ba d' f' k' s1 s2 jr jg now h0 h1 W h;have C1:=cv Aa (q+1) (tj-1);dsimp only[dJ]at hR C2;generalize M.jbOk now ⟨Aa,⟨⟨a,b,c',d,f,k⟩,⟨a',b',Ba,d',f',k'⟩⟩,(s1,s2),jr,jg,tl⟩=Ya at hG C2;generalize tl.length=tn at hR HT C2;generalize Ca:(decide (q+1≤Aa)&&decide (Aa≤tj-1))=Za at hG C1;have Ab:=Hd (Ca);have HG:=Hd (hG);clear Qa hA hT hg hG Ca;(go_wp2_with(with_reducible refine af 16 ?_ ?_;rfl));with_reducible refine dO 45 b1 (o1+j*18) (br Aa a b c' d f k a' b' Ba d' f' k' s1 s2 jr jg ta tn tc) hR underlying45 ?q5 ?_
    case q5=>exact⟨rfl,rfl,by kernel_rfl,_,rfl,by kernel_rfl⟩
    have Ra:=Hd (Oa.o);have Ja:=Hd (Ea.o);have Sa:=Hd (HT.o);clear Oa Ea HT hR;(go_wp2_with(with_reducible refine af 5 ?_ ?_;rfl));show wpList _ _ _ _ _ _;have Ta:(Instr.alloc 45 true (.tuple #[])).run prog wr=.ok (.pointer (some ⟨wr.heap.size,0,none⟩)) (wr.alloc (.cells dS.toArray 45)):=(by kernel_rfl);with_reducible refine bU ?qg 45 ?qo dS.toArray Ta ?_
    case qg | qo=>exact rfl
    clear Ta;show wpList _ _ _ _ _ _;with_reducible refine Hx (iN 45 wr.heap.size 0 (br Aa a b c' d f k a' b' Ba d' f' k' s1 s2 jr jg ta tn tc) ?q6 ?q5 ?_)
    case q6=>exact(aI _ _ _).there _ 18 (by simp)
    case q5=>exact⟨rfl,by kernel_rfl,by kernel_rfl,_,_,rfl,by kernel_rfl,by kernel_rfl⟩
    have Fa:Below wr.heap.size wr ((wr.alloc (.cells dS.toArray 45)).setCells wr.heap.size 0 (br Aa a b c' d f k a' b' Ba d' f' k' s1 s2 jr jg ta tn tc)):=aD _ _ ((tv _ _).alloc (tr _) _) (tr _);have Ga:=Hd (Ra.o.belowS Fa);have Ha:=Hd (Ja.o.trans (Fa.mono Ja.o.size));have Ua:=Hd (Sa.o.below Fa);clear Ra Ja Sa;clear Fa;have Da:H9 (ae ((wr.alloc (.cells dS.toArray 45)).setCells wr.heap.size 0 (br Aa a b c' d f k a' b' Ba d' f' k' s1 s2 jr jg ta tn tc)) wr.heap.size (br Aa a b c' d f k a' b' Ba d' f' k' s1 s2 jr jg ta tn tc)):=(aI wr dS.toArray 45).setCells (br Aa a b c' d f k a' b' Ba d' f' k' s1 s2 jr jg ta tn tc) 0 (by simp);generalize((wr.alloc (.cells dS.toArray 45)).setCells wr.heap.size 0 (br Aa a b c' d f k a' b' Ba d' f' k' s1 s2 jr jg ta tn tc))=w2 at *;generalize wr.heap.size=jb at Da ⊢;have m1:=Ga.o.c 1;have x0:=Da.o.c 0;(go_wp2_with fail);clear m1 x0;refine(C1 _).mono ?_;rintro e wz ⟨rfl,Va⟩;have Bb:=Va.symm;clear Va;subst Bb
    cases Za with
    | false=>
     go_wp2;go_ret;exact⟨ag HG.o,Ha.o⟩
    | true=>
     have Ca:=Ab.o;simp only[tZ,decide_eq_true_eq]at Ca;obtain⟨Hb,Ib⟩:=Ca;(go_wp2_with(with_reducible refine af 25 ?_ ?_;rfl));show wpList _ _ _ _ _ _;with_reducible refine b9 ?qg (.bool false) w2 ?qrun ?_
     case qg | qrun=>exact rfl
     show wpList _ _ _ _ _ _;with_reducible refine b9 ?qg (.bool false) w2 ?qrun ?_
     case qg | qrun=>exact rfl
     show wpList _ _ _ _ _ _;have iL:(prog.info? 45).map (·.size)=some ((br Aa a b c' d f k a' b' Ba d' f' k' s1 s2 jr jg ta tn tc):List Value).length:=(show(prog.info? 45).map (·.size)=some 18 by kernel_rfl);with_reducible refine bz ?qw 45 ?qlw ?qo jb 0 ?qhx (br Aa a b c' d f k a' b' Ba d' f' k' s1 s2 jr jg ta tn tc) _ Da.o.row underlying45 ?qd iL ?_
     case qw | qo | qhx | qd=>exact rfl
     clear iL;show wpList _ _ _ _ _ _;have m0:=Ga.o.c 0;(go_wp2_with fail);clear m0;refine(C2 _ Ua.o).mono ?_;rintro e w3 ⟨rfl,hb⟩;have Cb:=Hd (Ga.o.belowS hb);have Wa:=Hd (Ha.o.trans (hb.mono Ha.o.size));have Db:=Hd (Da.o.belowS hb);clear Ga Ha Ua Da;clear hb
     cases Ya with
     | false=>
      go_wp2;go_ret;exact⟨ag HG.o,Wa.o⟩
     | true=>
      have Eb:H9 (M.jsGo now tj Aa (js.drop (j+1))=R):=(by show _=_;have:=HG.o;simpa using this);have x0:=Db.o.c 0;go_wp2;go_roundw
      case rel=>exact⟨j+1,Aa,by omega,by go_num,rfl,by omega,by omega,Eb.o,Cb.o,Wa.o⟩
      case measure=>simp[intOf];omega
   ·
    go_wp2;go_ret;refine⟨ag ?_,Ea.o⟩;rw[tC (by rw[HZ.o.len];omega)]at hg;exact hg
 ·
  have Xa:(6:Int)<(nj:Int):=(by omega);rw[show decide (nj≤6)=false by simpa using hs,Bool.false_and];go_enter func52,ntmps52;go_wp2;go_ret;exact⟨rfl,Ia.o⟩
theorem lz(v:Int)(w:World)(hz:ah w a n c zs):
  Calls prog 191 #[.slice a n c,.int .i64 v] w fun e w'=>∃r:Int,e=.returned (.int .i64 r)∧decide (0≤r)=zs.contains v∧w'=w:=by
 have bn:(n:Int)≤9223372036854775807:=(by have:=hz.big;have:=hz.le;omega);have Ea:(n:Int)≤c:=(by have:=hz.le;omega);have HZ:=Hd (hz);generalize hR:zs.contains v=R;have HR:=Hd (hR);clear hR hz;go_enter func191,ntmps191;go_wp2
 go_loop [8] (fun i=>∃k:Nat,k≤n∧i=it k∧(zs.drop k).contains v=R) (fun i=>n-(intOf i).toNat)
 case atStart=>exact⟨0,by omega,rfl,HR.o⟩
 case round=>
  obtain⟨k,hk,rfl,hg⟩:=hrel;by_cases Aa:k<n
  ·
   obtain⟨b1,o1,rfl,Ba⟩:=HZ.o.at (by omega);have c1:=Ba k Aa
   have hG:(v==zs.getD k 0||(zs.drop (k+1)).contains v)=R:=by
    rw[←hg,aQ 0 HZ.o.len Aa,List.contains_cons]
   generalize zs.getD k 0=x at c1 hG;have HG:=Hd (hG);clear Ba hg hG;have hI:(k:Int)<(n:Int):=(by omega);by_cases hx:v=x
   ·
    have hb:(v==x)=true:=(by simp[hx]);have Ca:(x==v)=true:=(by simp[hx]);clear hx;go_wp2;go_ret;refine⟨_,rfl,?_,rfl⟩;have:=HG.o;rw[hb,Bool.true_or]at this;rw[←this];simp
   ·
    have hb:(v==x)=false:=(by simp[hx]);have Ca:(x==v)=false:=(by simp;exact fun e=>hx e.symm);have Da:H9 ((zs.drop (k+1)).contains v=R):=(by show _=_;have:=HG.o;rw[hb,Bool.false_or]at this;exact this);clear hx;go_wp2
    go_round
    case rel=>exact⟨k+1,by omega,by go_num,Da.o⟩
    case measure=>simp[intOf];omega
  ·
   go_wp2;go_ret;refine⟨_,rfl,?_,rfl⟩;rw[tC (by rw[HZ.o.len];omega)]at hg;rw[←hg];rfl
theorem fp(v:Int)(w:World)(hz:ah w a n c zs):
  Rq 113 #[.slice a n c,.int .i64 v] w (.bool (zs.contains v)):=by
 have HZ:=Hd (hz);clear hz;go_enter func113,ntmps113;(go_wp2_with fail);refine(lz v _ HZ.o).mono ?_;rintro e wz ⟨r,rfl,hr,rfl⟩;have HR:=Hd (hr);clear hr;go_wp2;go_ret;exact⟨ag HR.o,rfl⟩
theorem lA(v:Int)(w:World)(hc:w.cell? ⟨mb,2,none⟩=some (.slice a n c))(hz:ah w a n c zs):
  Rq 112 #[.int .i64 v,.pointer (some ⟨mb,0,none⟩)] w (.bool (zs.contains v)):=by
 have CC:=fp v w hz;generalize zs.contains v=o at *;clear hz;go_enter func112,ntmps112;(go_wp2_with fail);refine CC.mono ?_;rintro e wz ⟨rfl,rfl⟩;go_wp2;go_ret;exact⟨rfl,rfl⟩
theorem jn(w:World)(hc:w.cell? ⟨mb,2,none⟩=some (.slice ab nb cb))(hb:ah w ab nb cb bs)(hz:ah w a n c zs):
  Calls prog 192 #[.slice a n c,.func (.func 112) #[] #[.pointer (some ⟨mb,0,none⟩)]] w fun e w'=>∃r:Int,e=.returned (.int .i64 r)∧decide (0≤r)=zs.any (fun x=>bs.contains x)∧w'=w:=by
 have bn:(n:Int)≤9223372036854775807:=(by have:=hz.big;have:=hz.le;omega);have Fa:(n:Int)≤c:=(by have:=hz.le;omega);have HZ:=Hd (hz);have HC:H9 (∀v,Rq 112 #[it v,.pointer (some ⟨mb,0,none⟩)] w (.bool (bs.contains v))):=fun v=>lA v w hc hb;generalize hR:zs.any (fun x=>bs.contains x)=R;have HR:=Hd (hR);clear hR hz hb hc;go_enter func192,ntmps192;go_wp2
 go_loop [8] (fun i=>∃k:Nat,k≤n∧i=it k∧(zs.drop k).any (fun x=>bs.contains x)=R) (fun i=>n-(intOf i).toNat)
 case atStart=>exact⟨0,by omega,rfl,HR.o⟩
 case round=>
  obtain⟨k,hk,rfl,hg⟩:=hrel;by_cases Aa:k<n
  ·
   obtain⟨b1,o1,rfl,Ba⟩:=HZ.o.at (by omega);have c1:=Ba k Aa
   have hG:(bs.contains (zs.getD k 0)||(zs.drop (k+1)).any (fun x=>bs.contains x))=R:=by
    rw[←hg,aQ 0 HZ.o.len Aa,List.any_cons]
   have C1:=HC.o (zs.getD k 0);generalize zs.getD k 0=x at c1 hG C1;generalize bs.contains x=ob at hG C1;have HG:=Hd (hG);clear Ba hg hG;have hI:(k:Int)<(n:Int):=(by omega);(go_wp2_with fail);refine C1.mono ?_;rintro e wz ⟨rfl,Ca⟩;have Da:=Ca.symm;clear Ca;subst Da
   cases ob with
   | true=>
    go_wp2;go_ret;refine⟨_,rfl,?_,rfl⟩;have:=HG.o;rw[Bool.true_or]at this;rw[←this];simp
   | false=>
    have Ea:H9 ((zs.drop (k+1)).any (fun x=>bs.contains x)=R):=(by show _=_;have:=HG.o;rw[Bool.false_or]at this;exact this);go_wp2
    go_round
    case rel=>exact⟨k+1,by omega,by go_num,Ea.o⟩
    case measure=>simp[intOf];omega
  ·
   go_wp2;go_ret;refine⟨_,rfl,?_,rfl⟩;rw[tC (by rw[HZ.o.len];omega)]at hg;rw[←hg];rfl
theorem gf(w:World)(hc:w.cell? ⟨mb,2,none⟩=some (.slice ab nb cb))(hb:ah w ab nb cb bs)(hz:ah w a n c zs):
  Rq 115 #[.slice a n c,.func (.func 112) #[] #[.pointer (some ⟨mb,0,none⟩)]] w (.bool (zs.any (fun x=>bs.contains x))):=by
 have CI:=jn w hc hb hz;generalize zs.any (fun x=>bs.contains x)=o at *;clear hc hb hz;go_enter func115,ntmps115;(go_wp2_with fail);refine CI.mono ?_;rintro e wz ⟨r,rfl,hr,rfl⟩;have HR:=Hd (hr);clear hr;go_wp2;go_ret;exact⟨ag HR.o,rfl⟩
theorem kN(ts:List M.Tk):(M.wkT ts).length≤ts.length:=by unfold M.wkT;rw[List.length_map];exact List.length_filter_le _ _
theorem kO:∀js:List M.Jb,(∀j∈js,j.ts.length≤8)→(M.wks js).length≤8*js.length
 | [],_=>by simp[M.wks]
 | j::js,h=>by
  have h1:=kO js fun q hq=>h q (List.mem_cons_of_mem _ hq);have h2:=kN j.ts;have h3:=h j List.mem_cons_self;have e:M.wks (j::js)=M.wkT j.ts++M.wks js:=(by simp[M.wks]);rw[e,t7,List.length_cons];omega
theorem gM:∀{js:List M.Jb} {last:Int},M.jsGo now tj last js=true→∀j∈js,j.ts.length≤8
 | [],_,_,_,h=>by cases h
 | q::js,last,h,j,hj=>by
  unfold M.jsGo M.jbOk at h;simp only[tZ,decide_eq_true_eq]at h
  rcases List.mem_cons.1 hj with e | e
  ·rw[e];exact h.1.2.1.2.2.2.2.1
  ·exact gM h.2 j e
theorem n9{j:Nat}(hl:js.length=n)(h:j<n):M.wks (js.take (j+1))=M.wks (js.take j)++M.wkT (js.getD j M.j0).ts:=by
 unfold M.wks;rw[tK (by omega),List.flatMap_append,tu,tw (by omega)]
 congr 1
 rw[t',List.flatMap_nil,List.append_nil];rfl
theorem i8{b o:Nat}{cs:List Value}(h:w.rangeAt b o cs)(hb:Below w.heap.size w w'):w'.rangeAt b o cs:=fun j v hv=>(hb.cell (p:=⟨b,o+j,none⟩) (tV w _ (h j v hv))).trans (h j v hv)
theorem n8(hl:ts.length=n)(h:k<n):M.wkT (ts.take (k+1))=M.wkT (ts.take k)++(if M.leased (ts.getD k M.t0)=true then[(ts.getD k M.t0).l']else[]):=by
 rw[tK (by omega),tu,tw (by omega)];unfold M.wkT;rw[List.filter_append,t8]
 congr 1
 by_cases e:M.leased ts[k]=true <;> simp[e]
theorem ar.count(h:ar t w i' a n cap zs):zs.length=n:=by
 have:=h.1;rw[List.length_map]at this;omega
def sZ(w1:World)(ws:List Int)(l:Value)(wr:World):Prop:=∃(a:Option Addr) (m c:Nat),l=.slice a m c∧ar 2 wr w1.heap.size a m c ws∧Below w1.heap.size w1 wr
set_option maxRecDepth 10000 in
theorem lE(now tj:Int)(w:World)(hz:bv w ab nb cb aj nj cj bs js)(hj6:nj≤6)(ht8:∀j∈js,j.ts.length≤8):
  Rt 53 #[.agg #[.int .i64 now,.int .i64 tj,.slice ab nb cb,.slice aj nj cj]] w (.bool (decide (M.wks js).Nodup&&!(M.wks js).any (fun x=>bs.contains x))):=by
 have bn:(nj:Int)≤9223372036854775807:=(by omega);have Tb:js.length=nj:=hz.j.len;have Ub:=cz w (au now tj ab nb cb aj nj cj) 27;have Oa:H9 (Below w.heap.size w (w.alloc (.cells (au now tj ab nb cb aj nj cj).toArray 27))):=(tv _ _).alloc (tr _) _;have Va:H9 (bv (w.alloc (.cells (au now tj ab nb cb aj nj cj).toArray 27)) ab nb cb aj nj cj bs js):=hz.below Oa.o
 have Vb:H9 (∀j,j≤nj→(M.wks (js.take j)).length≤8*j):=fun j hj=>by
  have:=kO (js.take j) fun q hq=>ht8 q (List.mem_of_mem_take hq);rw[ua]at this;omega
 have Wb:H9 (∀j,(js.getD j M.j0).ts.length≤8):=fun j=>by
  rw[tu];by_cases h:j<js.length
  ·rw[tw h];exact ht8 _ (List.getElem_mem h)
  ·rw[List.getElem?_eq_none (by omega)];exact Nat.zero_le _
 have HI:H9 (∃i0,prog.info? 2=some i0∧i0.zero=some (it 0)∧i0.size=1∧i0.bytes=8):=by
  obtain⟨i0,h1,h2,h3,h4⟩:=info_parts cn;exact⟨i0,h1,h2,h3,h4⟩
 generalize hN:decide (M.wks js).Nodup=oN;have HN:=Hd (hN);generalize hAn:(M.wks js).any (fun x=>bs.contains x)=oA;have Xb:=Hd (hAn);clear hz ht8 hN hAn;go_enter func53,ntmps53;go_wp2;generalize(w.alloc (.cells (au now tj ab nb cb aj nj cj).toArray 27))=w1 at *
 go_loopw [3,12] (fun l i wr=>∃j:Nat,j≤nj∧i=it j∧sZ w1 (M.wks (js.take j)) l wr) (fun _ i _=>nj-(intOf i).toNat)
 case atStart=>exact⟨0,by omega,rfl,none,0,0,rfl,⟨rfl,.inl ⟨rfl,rfl⟩⟩,tv _ _⟩
 case round=>
  obtain⟨j,hj,rfl,al,ml,cl,rfl,Wa,Xa⟩:=hrel;have Da:=Hd (Xa);have Fa:=Hd (Wa);clear Xa Wa;by_cases Ya:j<nj
  ·
   obtain⟨b1,o1,rfl,Za⟩:=Va.o.j.at (by omega);obtain⟨ta,tc,hA,hT⟩:=Za j Ya;have hI:(j:Int)<(nj:Int):=(by omega);have HW:H9 (M.wks (js.take (j+1))=M.wks (js.take j)++M.wkT (js.getD j M.j0).ts):=n9 Tb Ya;have h9:=Wb.o j;have h8:=Vb.o j hj;generalize js.getD j M.j0=cq at hA hT HW h9;obtain⟨Aa,⟨⟨a,b,c',d,f,k⟩,⟨a',b',Ba,d',f',k'⟩⟩,⟨s1,s2⟩,jr,jg,tl⟩:=cq;dsimp only at hT HW h9;have hR:wr.rangeAt b1 (o1+j*18) (dJ ⟨Aa,⟨⟨a,b,c',d,f,k⟩,⟨a',b',Ba,d',f',k'⟩⟩,(s1,s2),jr,jg,tl⟩ ta tc):=i8 (bw rfl hA) Da.o;have HT:=Hd (hT);dsimp only[dJ]at hR;generalize Ab:tl.length=tn at hR HT h9;have Bb:=Hd (Ab);clear Za hA hT Ab;(go_wp2_with(with_reducible refine af 15 ?_ ?_;rfl));with_reducible refine dO 45 b1 (o1+j*18) (br Aa a b c' d f k a' b' Ba d' f' k' s1 s2 jr jg ta tn tc) hR underlying45 ?q5 ?_
   case q5=>exact⟨rfl,rfl,by kernel_rfl,_,rfl,by kernel_rfl⟩
   have Ca:=Hd (Da.o);have Ga:=Hd (Fa.o);clear Da Fa hR;(go_wp2_with(with_reducible refine af 5 ?_ ?_;rfl));show wpList _ _ _ _ _ _;have Cb:(Instr.alloc 45 true (.tuple #[])).run prog wr=.ok (.pointer (some ⟨wr.heap.size,0,none⟩)) (wr.alloc (.cells dS.toArray 45)):=(by kernel_rfl);with_reducible refine bU ?qg 45 ?qo dS.toArray Cb ?_
   case qg | qo=>exact rfl
   clear Cb;show wpList _ _ _ _ _ _;with_reducible refine Hx (iN 45 wr.heap.size 0 (br Aa a b c' d f k a' b' Ba d' f' k' s1 s2 jr jg ta tn tc) ?q6 ?q5 ?_)
   case q6=>exact(aI _ _ _).there _ 18 (by simp)
   case q5=>exact⟨rfl,by kernel_rfl,by kernel_rfl,_,_,rfl,by kernel_rfl,by kernel_rfl⟩
   have Ea:Below wr.heap.size wr ((wr.alloc (.cells dS.toArray 45)).setCells wr.heap.size 0 (br Aa a b c' d f k a' b' Ba d' f' k' s1 s2 jr jg ta tn tc)):=aD _ _ ((tv _ _).alloc (tr _) _) (tr _);have Ha:=Hd (Ca.o.trans (Ea.mono Ca.o.size));have Ia:=Hd (Ga.o.below Ea);clear Ca Ga;clear Ea;have Pa:H9 (ae ((wr.alloc (.cells dS.toArray 45)).setCells wr.heap.size 0 (br Aa a b c' d f k a' b' Ba d' f' k' s1 s2 jr jg ta tn tc)) wr.heap.size (br Aa a b c' d f k a' b' Ba d' f' k' s1 s2 jr jg ta tn tc)):=(aI wr dS.toArray 45).setCells (br Aa a b c' d f k a' b' Ba d' f' k' s1 s2 jr jg ta tn tc) 0 (by simp);generalize((wr.alloc (.cells dS.toArray 45)).setCells wr.heap.size 0 (br Aa a b c' d f k a' b' Ba d' f' k' s1 s2 jr jg ta tn tc))=w2 at *;generalize wr.heap.size=jb at Pa ⊢;have Yb:=Pa.o.c 17;have Ec:(tn:Int)≤8:=(by omega);go_wp2;clear Yb;clear Pa
   go_loopw [3,19] (fun l i wr=>∃p:Nat,p≤tn∧i=it p∧sZ w1 (M.wks (js.take j)++M.wkT (tl.take p)) l wr) (fun _ i _=>tn-(intOf i).toNat)
   case atStart=>exact⟨0,by omega,rfl,al,ml,cl,rfl,by rw[List.take_zero,show M.wkT []=[]from rfl,List.append_nil];exact Ia.o,Ha.o⟩
   case round=>
    obtain⟨p,hp,rfl,ai,mi,ci,rfl,Qa,Ra⟩:=hrel;clear Ia Ha;have Ca:=Hd (Ra);have Ga:=Hd (Qa);have Db:=HT.o.below Ra;have Eb:=Qa.count;rw[t7]at Eb;have Fb:=kN (tl.take p);rw[ua]at Fb;clear Qa Ra;have Fc:mi≤100:=(by omega);clear Eb Fb;by_cases Gb:p<tn
    ·
     obtain⟨b2,o2,rfl,Hb⟩:=Db.at (by omega);have hA:=Hb p Gb;have Gc:(p:Int)<(tn:Int):=(by omega);have Ja:H9 (M.wkT (tl.take (p+1))=M.wkT (tl.take p)++(if M.leased (tl.getD p M.t0)=true then[(tl.getD p M.t0).l']else[])):=n8 Bb.o Gb;have C1:=dW (tl.getD p M.t0);generalize tl.getD p M.t0=x at hA Ja C1;obtain⟨td,x,y⟩:=x;dsimp only[ia]at C1 Ja;generalize M.leased ⟨td,x,y⟩=ow at C1 Ja;have a0:wr.cell? ⟨b2,o2+p*3,none⟩=some (.bool td):=hA 0 (by omega);have a1:wr.cell? ⟨b2,o2+p*3+1,none⟩=some (it x):=hA 1 (by omega);have a2:wr.cell? ⟨b2,o2+p*3+2,none⟩=some (it y):=hA 2 (by omega);clear Hb hA Db;have Ea:=il wr (.cells (dq td x y).toArray 47);have Ha:=Hd (Ca.o.trans (Ea.mono Ca.o.size));have Ia:=Hd (Ga.o.below Ea);clear Ca Ga;clear Ea;have Sa:=cz wr (dq td x y) 47;(go_wp2_with fail);clear a0 a1 a2;generalize(wr.alloc (.cells (dq td x y).toArray 47))=w3 at *;generalize wr.heap.size=tb at Sa ⊢;refine(C1 _).mono ?_;rintro e w5 ⟨rfl,hb⟩;have Ta:=Hd (Ha.o.trans (hb.mono Ha.o.size));have La:=Hd (Ia.o.below hb);have Zb:=Hd (Sa.o.belowS hb);clear Ha Ia Sa;clear hb
     cases ow with
     | false=>
      have Na:H9 (M.wks (js.take j)++M.wkT (tl.take p)=M.wks (js.take j)++M.wkT (tl.take (p+1))):=(by show _=_;rw[Ja.o,if_neg (by decide),List.append_nil]);go_wp2;go_roundw
      case rel=>exact⟨p+1,by omega,by go_num,ai,mi,ci,rfl,by rw[←Na.o];exact La.o,Ta.o⟩
      case measure=>simp[intOf];omega
     | true=>
      have Na:H9 (M.wks (js.take j)++M.wkT (tl.take p)++[x]=M.wks (js.take j)++M.wkT (tl.take (p+1))):=(by show _=_;rw[Ja.o,if_pos rfl,List.append_assoc]);generalize M.wks (js.take j)++M.wkT (tl.take p)=ws at Na La;obtain⟨i0,hi,Ib,Kb,Lb⟩:=HI.o;have Nb:=Ta.o.size;have Ac:=Zb.o.c 1;(go_wp2_with(at_builtin;refine wpList_append_own _ rfl _ _ 24 rfl w1.heap.size 2 i0 (it 0) 1 8 underlying24 hi Ib Kb Lb rfl (by decide) _ mi (ws.map (Value.int .i64)) rfl (uc La.o _) ⟨w5.heap.size,0,none⟩ 1 1 [it x] rfl rfl (b7 w5 x _) (cJ x) (by unfold maxLen;omega) (by omega) (by simp;omega) ?_));intro v' w6 Ob Pb _;have hown':w6.ownsRow w1.heap.size 2 1 v' (mi+1) ((ws++[x]).map (Value.int .i64)):=(by rw[t8];exact Ob);obtain⟨a',Qb,rfl,Rb⟩:=ar.form hown';have HO':H9 (ar 2 w6 w1.heap.size a' (mi+1) Qb (ws++[x])):=Rb;have HB':H9 (Below w1.heap.size w1 w6):=eC Ta.o ((tO w5 _ _).trans Pb) Nb (fun q hq=>(tJ La.o q hq).1);clear Ob hown' Pb Rb hi Ib Kb Lb Ac Nb;rw[Na.o]at HO';go_wp2;go_roundw
      case rel=>exact⟨p+1,by omega,by go_num,a',mi+1,Qb,rfl,HO'.o,HB'.o⟩
      case measure=>simp[intOf];omega
    ·
     have Bc:p=tn:=(by omega);subst Bc;have Cc:H9 (M.wks (js.take j)++M.wkT (tl.take p)=M.wks (js.take (j+1))):=(by have e:tl.take p=tl:=tF (Nat.le_of_eq Bb.o);show _=_;rw[HW.o,e]);go_wp2;go_roundw
     case rel=>exact⟨j+1,by omega,by go_num,ai,mi,ci,rfl,by rw[←Cc.o];exact Ga.o,Ca.o⟩
     case measure=>simp[intOf];omega
  ·
   have Dc:j=nj:=(by omega);subst Dc;have hW:M.wks (js.take j)=M.wks js:=(by rw[tF (by omega)]);rw[hW]at Fa;have C1:=ki wr Fa.o.sees;have C2:=gf wr ((Ub.o.belowS Da.o).at 2) (Va.o.b.below Da.o) Fa.o.sees;rw[HN.o]at C1;rw[Xb.o]at C2;have Sb:=Hd (Oa.o.trans (Da.o.mono Oa.o.size));clear hW Fa Da;(go_wp2_with fail);refine C1.mono ?_;rintro e wz ⟨rfl,Ka⟩;have Ua:=Ka.symm;clear Ka;subst Ua
   cases oN with
   | false=>
    go_wp2;go_ret;exact⟨rfl,Sb.o⟩
   | true=>
    (go_wp2_with fail);refine C2.mono ?_;rintro e wz ⟨rfl,Ka⟩;have Ua:=Ka.symm;clear Ka;subst Ua;go_wp2;go_ret;exact⟨rfl,Sb.o⟩
set_option maxRecDepth 10000 in
theorem eL(now tj:Int)(w:World)(hz:bv w ab nb cb aj nj cj bs js):
  Rt 15 #[.agg #[.int .i64 now,.int .i64 tj,.slice ab nb cb,.slice aj nj cj]] w (.bool (M.mkOk now tj bs js)):=by
 have Ga:js.length=nj:=hz.j.len;have HM:=Hd (hz);have C1:=cv now 0 1000000000;have C2:=cv tj 1 1000000000;have C3:∀W,ah W ab nb cb bs→Rq 51 #[.slice ab nb cb] W (.bool (M.bnGo 0 bs)):=fun W h=>ln W h
 have C4:H9 ((decide (0≤now)&&decide (now≤1000000000))=true→(decide (1≤tj)&&decide (tj≤1000000000))=true→∀W,dp W aj nj cj js→Rt 52 #[.agg (au now tj ab nb cb aj nj cj).toArray] W (.bool (decide (nj≤6)&&M.jsGo now tj 0 js))):=fun h1 h2 W h=>by
  simp only[tZ,decide_eq_true_eq]at h1 h2;exact oQ now tj h1.1 h1.2 h2.1 h2.2 W h
 have C5:H9 ((decide (nj≤6)&&M.jsGo now tj 0 js)=true→∀W,bv W ab nb cb aj nj cj bs js→Rt 53 #[.agg (au now tj ab nb cb aj nj cj).toArray] W (.bool (decide (M.wks js).Nodup&&!(M.wks js).any (fun x=>bs.contains x)))):=fun h1 W h=>by
  simp only[tZ,decide_eq_true_eq]at h1;exact lE now tj W h h1.1 (gM h1.2)
 unfold M.mkOk;rw[Ga];generalize(decide (M.wks js).Nodup&&!(M.wks js).any (fun x=>bs.contains x))=o5 at *;generalize(decide (nj≤6)&&M.jsGo now tj 0 js)=o4 at *;generalize M.bnGo 0 bs=o3 at *;generalize(decide (1≤tj)&&decide (tj≤1000000000))=o2 at *;generalize(decide (0≤now)&&decide (now≤1000000000))=o1 at *;clear hz;go_enter func15,ntmps15;have Aa:=cz w (au now tj ab nb cb aj nj cj) 27;have Ba:H9 (Below w.heap.size w (w.alloc (.cells (au now tj ab nb cb aj nj cj).toArray 27))):=(tv _ _).alloc (tr _) _;(go_wp2_with fail);generalize(w.alloc (.cells (au now tj ab nb cb aj nj cj).toArray 27))=wa at *;refine(C1 _).mono ?_;rintro e wz ⟨rfl,Ca⟩;have Da:=Ca.symm;clear Ca;subst Da
 cases o1 with
 | false=>
  go_wp2;go_ret;exact⟨by simp,Ba.o⟩
 | true=>
  have x1:=Aa.o.c 1;(go_wp2_with fail);clear x1;refine(C2 _).mono ?_;rintro e wz ⟨rfl,Ca⟩;have Da:=Ca.symm;clear Ca;subst Da
  cases o2 with
  | false=>
   go_wp2;go_ret;exact⟨by simp,Ba.o⟩
  | true=>
   have x2:=Aa.o.c 2;(go_wp2_with fail);clear x2;refine(C3 _ (HM.o.b.below Ba.o)).mono ?_;rintro e wz ⟨rfl,Ca⟩;have Da:=Ca.symm;clear Ca;subst Da
   cases o3 with
   | false=>
    go_wp2;go_ret;exact⟨by simp,Ba.o⟩
   | true=>
    have x0:=Aa.o.c 0;have x1:=Aa.o.c 1;have x2:=Aa.o.c 2;have x3:=Aa.o.c 3;(go_wp2_with fail);clear x0 x1 x2 x3;refine(C4.o (by simp) (by simp) _ (HM.o.j.below Ba.o)).mono ?_;rintro e wb ⟨rfl,hb⟩;have Ea:=Hd (Aa.o.belowS hb);have Fa:=Hd (Ba.o.trans (hb.mono Ba.o.size));clear Aa Ba;clear hb
    cases o4 with
    | false=>
     go_wp2;go_ret;exact⟨by simp,Fa.o⟩
    | true=>
     have x0:=Ea.o.c 0;have x1:=Ea.o.c 1;have x2:=Ea.o.c 2;have x3:=Ea.o.c 3;(go_wp2_with fail);clear x0 x1 x2 x3;refine(C5.o (by simp) _ (HM.o.below Fa.o)).mono ?_;rintro e wc ⟨rfl,hb⟩;have Ha:=Hd (Fa.o.trans (hb.mono Fa.o.size));clear Ea Fa;clear hb;go_wp2;go_ret;exact⟨by simp,Ha.o⟩
theorem aM(w:World)(p:Addr)(v:Value):w.grownBy (w.setCell p v) (some p.block):=
 ⟨rfl,rfl,rfl,by simp[World.setCell],fun i _ hi=>by
  have he:p.block≠i:=fun e=>hi (by rw[e]);simp[World.setCell,Array.getElem?_modify,he]⟩
theorem aS(hb:Below w.heap.size w w')(row:Option Nat):w.grownBy w' row:=⟨hb.os,hb.tape,hb.output,hb.size,fun k hk _=>hb.block k hk⟩
theorem ac{B:Nat}(h:w.grownBy w' row)(hB:B≤w.heap.size)(hr:∀z,row=some z→B≤z):Below B w w':=
 ⟨h.os,h.tape,h.output,h.size,fun k hk=>h.block k (tP hk hB) (fun e=>absurd (hr k e.symm) (by omega))⟩
theorem em{a:Act}
 (hg:o.guard=none)(s x:Operand)(t:TypeId)(hop:o.op=Op.call {callee:=Callee.builtin Builtin.append,args:=#[s,x],argTypes:=#[t,t]})
 (i':Nat)(e:TypeId)(i:TypeInfo)(z:Value)(size bytes:Nat)(ht:P.underlying t=some (.slice e))(hi:P.info? e=some i)(hz:i.zero=some z)(hsize:i.size=size)(hby:i.bytes=bytes)(hzs:z.cells.size=size)(hsz:0<size)
 (v:Value)(n:Nat)(xs:List Value)(hs:a.eval s=v)(hown:w.ownsRow i' e size v n xs)(ad:Addr)(m c:Nat)(news:List Value)(hx:a.eval x=.slice (some ad) m c)(hl:news.length=m*size)(hnews:∀j u,news[j]?=some u→w.cell? (ad.add j)=some u)(h1:∀u∈news,u.oneCell'=true)
 (h63:n+m≤maxLen)(hbytes:(n+m)*bytes≤140737488355328)(tf:i'≤w.heap.size)
 (hK:∀v' w',w'.ownsRow i' e size v' (n+m) (xs++news)→w.grownBy w' v.ownBlock→(v'.ownBlock=v.ownBlock∨v'.ownBlock=some w.heap.size)→K (a.put o.dst v') w'):
  if Region.wanted o (yielded ops a.tmps)=true then Oper.wp P o a w K Q else E:=by
 have hw:Region.wanted o (yielded ops a.tmps)=true:=(by simp[Region.wanted,hg]);rw[if_pos hw];obtain⟨v',w',Aa,r1,r2,_,r4⟩:=run_append_own_at (P:=P) w i' t o.type e i z size bytes ht hi hz hsize hby hzs hsz v n xs hown ad m c news hl hnews h1 h63 hbytes tf;unfold Oper.wp;simp[execOp,hop,resolve,invoke,builtin,hs,hx,Aa,Result.andThen];exact hK v' w' r1 r2 r4
def ob:Option Addr→List Nat
 | none=>[]
 | some x=>[x.block]
theorem aZ(h:(Value.slice a n c).ownBlock=some g):g∈ob a:=by
 cases a with
 | none=>simp[Value.ownBlock]at h
 | some x=>simp[Value.ownBlock]at h;simp[ob,h]
theorem bL(h:g∈ob a):(Value.slice a n c).ownBlock=some g:=by
 cases a with
 | none=>simp[ob]at h
 | some x=>simp[ob]at h;simp[Value.ownBlock,h]
def aK(w:World)(i':Nat)(a:Option Addr)(n c:Nat)(ts:List M.Tk):Prop:=ts.length=n∧w.ownsRow i' 47 3 (.slice a n c) n (ts.flatMap bO)
theorem aK.grown(h:aK w i' a n c ts)(hg:w.grownBy w' row)(hr:∀g∈ob a,row≠some g):aK w' i' a n c ts:=by
 refine⟨h.1,h.2.kept hg ?_⟩
 cases e:(Value.slice a n c).ownBlock with
 | none=>exact .inl rfl
 | some g=>exact .inr (fun e2=>hr g (aZ e) e2.symm)
theorem aK.lt(h:aK w i' a n c ts):∀g∈ob a,i'≤g∧g<w.heap.size:=fun g hg=>tJ h.2 g (bL hg)
theorem aK.sees(h:aK w i' a n c ts):aY w a n c ts:=by
 obtain⟨hl,h1,h2⟩:=h;have hx:w.ownsRow i' 47 3 (.slice a n c) n (ts.flatMap bO):=⟨h1,h2⟩
 rcases h2 with⟨e,h0⟩ | ⟨g,cap,cur,e,hb,hh,hn,hm,hs,ht⟩
 ·
  simp only[Value.slice.injEq]at e;obtain⟨rfl,rfl,rfl⟩:=e;exact⟨hl,tr _,by decide,fun _=>⟨rfl,rfl⟩,.inl rfl⟩
 ·
  simp only[Value.slice.injEq,true_and]at e;obtain⟨rfl,rfl⟩:=e;refine⟨hl,hn,by unfold maxLen at hm;omega,fun e=>by simp at e,?_⟩;refine .inr ⟨g,0,rfl,fun i hi j hj=>?_⟩;rw[Nat.zero_add,World.ownsRow.cellAt hx (i*3+j) (by omega),dN ct M.t0 ts (by omega) hj]
theorem aK.form{v:Value}(hl:ts.length=n)(h:w.ownsRow i' 47 3 v n (ts.flatMap bO)):∃a cap,v=.slice a n cap∧aK w i' a n cap ts:=by
 rcases h.2 with⟨rfl,rfl⟩ | ⟨g,cap,cur,rfl,_⟩
 ·exact⟨none,0,rfl,hl,h⟩
 ·exact⟨_,cap,rfl,hl,h⟩
structure HJ where
 j:M.Jb
 b:Nat
 a:Option Addr
 c:Nat
def HJ.vs(q:HJ):List Value:=dJ q.j q.a q.c
def HJ.ent(q:HJ):Int×Value:=(q.j.id,.pointer (some ⟨q.b,0,none⟩))
def HJ.bl(q:HJ):List Nat:=q.b::ob q.a
def pI(w:World)(i':Nat)(qs:List HJ):Prop:=∀q∈qs,ae w q.b q.vs∧aK w i' q.a q.j.ts.length q.c q.j.ts
theorem pI.grown{qs:List HJ}(h:pI w i' qs)(hg:w.grownBy w' row)(hr:∀g∈qs.flatMap HJ.bl,row≠some g):pI w' i' qs:=fun q hq=>by
 have hm:∀g∈q.bl,row≠some g:=fun g hg=>hr g (tU.2 ⟨q,hq,hg⟩);exact⟨(h q hq).1.grown hg (hm q.b (by simp[HJ.bl])),(h q hq).2.grown hg fun g hg=>hm g (by simp[HJ.bl,hg])⟩
def cW(h mb:Nat)(ab ai:Option Addr)(qs:List HJ):List Nat:=h::mb::(ob ab++(ob ai++qs.flatMap HJ.bl))
structure aP(w:World)(i' h:Nat)(now tj:Int)(ab:Option Addr)(nb cb:Nat)(bs:List Int)(ai:Option Addr)(ni ci:Nat)(mb:Nat)(qs:List HJ):Prop where
 l:ae w h [.int .i64 now,.int .i64 tj,.slice ab nb cb,.slice ai ni ci,.map (some mb)]
 b:ar 2 w i' ab nb cb bs
 i:ar 2 w i' ai ni ci (qs.map (·.j.id))
 m:bN w mb (qs.map HJ.ent)
 j:pI w i' qs
 d:(cW h mb ab ai qs).Nodup
 lo:∀g∈cW h mb ab ai qs,i'≤g
theorem ar.grown(h:ar t w i' a n c zs)(hg:w.grownBy w' row)(hr:∀g∈ob a,row≠some g):ar t w' i' a n c zs:=by
 refine World.ownsRow.kept h hg ?_
 cases e:(Value.slice a n c).ownBlock with
 | none=>exact .inl rfl
 | some g=>exact .inr (fun e2=>hr g (aZ e) e2.symm)
section
variable {w w':World} {i' h:Nat} {now tj:Int} {ab:Option Addr} {nb cb:Nat} {bs:List Int} {ai:Option Addr} {ni ci:Nat} {mb:Nat} {qs:List HJ}
theorem aP.grown(H:aP w i' h now tj ab nb cb bs ai ni ci mb qs)(hg:w.grownBy w' row)(hr:∀g∈cW h mb ab ai qs,row≠some g):aP w' i' h now tj ab nb cb bs ai ni ci mb qs:=
 ⟨H.l.grown hg (hr h (by simp[cW])),H.b.grown hg fun g hg=>hr g (by simp[cW,hg]),H.i.grown hg fun g hg=>hr g (by simp[cW,hg]),H.m.grown hg (hr mb (by simp[cW])),H.j.grown hg fun g hg=>hr g (by unfold cW;simp only[List.mem_cons,tI];exact .inr (.inr (.inr (.inr hg)))),H.d,H.lo⟩
theorem aP.below(H:aP w i' h now tj ab nb cb bs ai ni ci mb qs)(hb:Below w.heap.size w w'):aP w' i' h now tj ab nb cb bs ai ni ci mb qs:=H.grown (aS hb none) (fun _ _=>by simp)
theorem aP.lt(H:aP w i' h now tj ab nb cb bs ai ni ci mb qs):∀g∈cW h mb ab ai qs,g<w.heap.size:=by
 intro g hg;unfold cW at hg;simp only[List.mem_cons,tI]at hg
 rcases hg with rfl | rfl | hg | hg | hg
 ·exact H.l.2.2
 ·exact H.m.lt
 ·exact(tJ H.b g (bL hg)).2
 ·exact(tJ H.i g (bL hg)).2
 ·
  obtain⟨q,hq,hg⟩:=tU.1 hg;simp only[HJ.bl,List.mem_cons]at hg
  rcases hg with rfl | hg
  ·exact(H.j q hq).1.2.2
  ·exact((H.j q hq).2.lt g hg).2
theorem bJ:(cW h mb ab ai qs).Nodup↔(h≠mb∧h∉ob ab∧h∉ob ai∧h∉qs.flatMap HJ.bl)∧(mb∉ob ab∧mb∉ob ai∧mb∉qs.flatMap HJ.bl)∧(∀g∈ob ab,g∉ob ai∧g∉qs.flatMap HJ.bl)∧(∀g∈ob ai,g∉qs.flatMap HJ.bl)∧(qs.flatMap HJ.bl).Nodup:=by
 have h1:∀a:Option Addr,(ob a).Nodup:=fun a=>by cases a <;> simp[ob]
 unfold cW;rw[List.nodup_cons,List.nodup_cons,List.nodup_append,List.nodup_append];simp only[List.mem_cons,tI,not_or]
 constructor
 ·
  rintro⟨⟨a1,a2,a3,a4⟩,⟨b2,b3,b4⟩,_,⟨_,c1,c2⟩,c3⟩;exact⟨⟨a1,a2,a3,a4⟩,⟨b2,b3,b4⟩,fun g hg=>⟨fun e=>c3 g hg g (.inl e) rfl,fun e=>c3 g hg g (.inr e) rfl⟩,fun g hg e=>c2 g hg g e rfl,c1⟩
 ·
  rintro⟨⟨a1,a2,a3,a4⟩,⟨b2,b3,b4⟩,c3,c2,c1⟩;exact⟨⟨a1,a2,a3,a4⟩,⟨b2,b3,b4⟩,h1 _,⟨h1 _,c1,fun g hg g' hg' e=>c2 g hg (e ▸ hg')⟩,fun g hg g' hg' e=>hg'.elim (fun x=>(c3 g hg).1 (e ▸ x)) (fun x=>(c3 g hg).2 (e ▸ x))⟩
end
theorem dU{P G:Prop}(f:rM P→G)(h:P):G:=f ⟨h⟩
theorem aP.entered{w1 w7 w8 w9:World}{qs:List HJ}(H:aP w1 i' h now tj ab nb cb bs ai ni ci mb qs)(q:HJ)
 (hJ:ae w1 q.b q.vs)(hT:aK w1 i' q.a q.j.ts.length q.c q.j.ts)(hqb:q.b∉cW h mb ab ai qs)(hqa:∀g∈ob q.a,g∉cW h mb ab ai qs)(hqq:q.b∉ob q.a)(hql:i'≤q.b)
 {ai':Option Addr}{ci' z:Nat}(g7:w1.grownBy w7 (Value.slice ai ni ci).ownBlock)(o7:ar 2 w7 i' ai' (ni+1) ci' (qs.map (fun q:HJ=>q.j.id)++[q.j.id]))(hz:w1.heap.size≤z)
 (a7:(Value.slice ai' (ni+1) ci').ownBlock=(Value.slice ai ni ci).ownBlock∨(Value.slice ai' (ni+1) ci').ownBlock=some z)
 (g8:w7.grownBy w8 (some h))(l8:ae w8 h [.int .i64 now,.int .i64 tj,.slice ab nb cb,.slice ai' (ni+1) ci',.map (some mb)])(g9:w8.grownBy w9 (some mb))(m9:bN w9 mb (qs.map HJ.ent++[q.ent])):
  aP w9 i' h now tj ab nb cb bs ai' (ni+1) ci' mb (qs++[q]):=by
 obtain⟨⟨hm,Ea,Fa,Ga⟩,⟨Ha,Ia,Ja⟩,Da,Ka,Na⟩:=bJ.1 H.d;have Oa:=H.lt;have sj:∀{g},g∈qs.flatMap HJ.bl→g∈cW h mb ab ai qs:=fun{g} hg=>by unfold cW;simp only[List.mem_cons,tI];exact .inr (.inr (.inr (.inr hg)))
 have sb:∀{g},g∈ob ab→g∈cW h mb ab ai qs:=fun{g} hg=>by simp[cW,hg]
 have si:∀{g},g∈ob ai→g∈cW h mb ab ai qs:=fun{g} hg=>by simp[cW,hg]
 have sh:h∈cW h mb ab ai qs:=(by simp[cW]);have sm:mb∈cW h mb ab ai qs:=by simp[cW]
 have ha:∀{g},g∈ob ai'→g∈ob ai∨w1.heap.size≤g:=fun{g} hg=>by
  have e:=bL (n:=ni+1) (c:=ci') hg
  rcases a7 with e2 | e2
  ·exact .inl (aZ (e2.symm.trans e))
  ·rw[e2]at e;injection e with e;exact .inr (by omega)
 have Ba:∀{g},g∈cW h mb ab ai qs→g∉ob ai→g∉ob ai':=fun{g} hg hn hi=>by
  rcases ha hi with h1 | h1
  ·exact hn h1
  ·have:=Oa g hg;omega
 have Ra:q.b<w1.heap.size:=hJ.2.2;have Pa:∀g∈ob q.a,g<w1.heap.size:=fun g hg=>(hT.lt g hg).2;have Aa:∀{a b:Nat},a≠b→some a≠some b:=fun hne e=>hne (tm e);have n7:∀{g},g∉ob ai→(Value.slice ai ni ci).ownBlock≠some g:=fun hn e=>hn (aZ e);have Ca:∀{x g:Nat},x∈cW h mb ab ai qs→g∉cW h mb ab ai qs→x≠g:=fun hx hg e=>hg (e ▸ hx);have qi:q.b∉ob ai':=fun hi=>(ha hi).elim (fun h1=>hqb (si h1)) (fun h1=>by omega);have Qa:∀g∈ob q.a,g∉ob ai':=fun g hg hi=>(ha hi).elim (fun h1=>hqa g hg (si h1)) (fun h1=>by have:=Pa g hg;omega);have fm:∀{g},g∈(qs++[q]).flatMap HJ.bl↔g∈qs.flatMap HJ.bl∨g=q.b∨g∈ob q.a:=fun{g}=>by simp[List.flatMap_append,HJ.bl]
 refine⟨l8.grown g9 (Aa hm.symm),?_,?_,?_,?_,?_,?_⟩
 ·exact((H.b.grown g7 fun g hg=>n7 (Da g hg).1).grown g8 fun g hg=>Aa fun e=>Ea (e ▸ hg)).grown g9 fun g hg=>Aa fun e=>Ha (e ▸ hg)
 ·
  rw[t8];exact(o7.grown g8 fun g hg=>Aa fun e=>Ba sh Fa (e ▸ hg)).grown g9 fun g hg=>Aa fun e=>Ba sm Ia (e ▸ hg)
 ·rw[t8];exact m9
 ·
  intro x hx
  rcases tI.1 hx with hx | hx
  ·
   have:=((H.j.grown g7 fun g hg=>n7 fun e=>Ka g e hg).grown g8 fun g hg=>Aa fun e=>Ga (e ▸ hg)).grown g9 fun g hg=>Aa fun e=>Ja (e ▸ hg);exact this x hx
  ·
   simp only[List.mem_singleton]at hx;subst hx;exact⟨((hJ.grown g7 (n7 fun e=>hqb (si e))).grown g8 (Aa (Ca sh hqb))).grown g9 (Aa (Ca sm hqb)),((hT.grown g7 fun g hg=>n7 fun e=>hqa g hg (si e)).grown g8 fun g hg=>Aa (Ca sh (hqa g hg))).grown g9 fun g hg=>Aa (Ca sm (hqa g hg))⟩
 ·
  refine bJ.2 ⟨⟨hm,Ea,Ba sh Fa,fun e=>?_⟩,⟨Ha,Ba sm Ia,fun e=>?_⟩,fun g hg=>⟨Ba (sb hg) (Da g hg).1,fun e=>?_⟩,fun g hg e=>?_,?_⟩
  ·
   rcases fm.1 e with e | e | e
   ·exact Ga e
   ·exact Ca sh hqb e
   ·exact hqa _ e sh
  ·
   rcases fm.1 e with e | e | e
   ·exact Ja e
   ·exact Ca sm hqb e
   ·exact hqa _ e sm
  ·
   rcases fm.1 e with e | e | e
   ·exact(Da g hg).2 e
   ·exact hqb (e ▸ sb hg)
   ·exact hqa _ e (sb hg)
  ·
   rcases fm.1 e with e | e | e
   ·exact Ba (sj e) (fun h1=>Ka g h1 e) hg
   ·exact qi (e ▸ hg)
   ·exact Qa g e hg
  ·
   rw[List.flatMap_append,List.nodup_append];refine⟨Na,?_,?_⟩
   ·
    have h1:(ob q.a).Nodup:=(by cases q.a <;> simp[ob]);simp only[t',List.flatMap_nil,List.append_nil,HJ.bl,List.nodup_cons];exact⟨hqq,h1⟩
   ·
    intro g hg g' La e;subst e;simp only[t',List.flatMap_nil,List.append_nil,HJ.bl,List.mem_cons]at La
    rcases La with e | e
    ·exact hqb (e ▸ sj hg)
    ·exact hqa _ e (sj hg)
 ·
  intro g hg;unfold cW at hg;simp only[List.mem_cons,tI]at hg
  rcases hg with rfl | rfl | hg | hg | hg
  ·exact H.lo _ sh
  ·exact H.lo _ sm
  ·exact H.lo _ (sb hg)
  ·exact(tJ o7 g (bL hg)).1
  ·
   rcases fm.1 hg with e | e | e
   ·exact H.lo _ (sj e)
   ·exact e ▸ hql
   ·exact(hT.lt g e).1
theorem kV(id:Int):∀qs:List HJ,fw id (qs.map HJ.ent)=(qs.find? (fun q=>id==q.j.id)).map fun q=>.pointer (some ⟨q.b,0,none⟩)
 | []=>rfl
 | q::qs=>by
  rw[List.map_cons,List.find?_cons];show(if id=q.j.id then _ else _)=_;by_cases e:id=q.j.id
  ·rw[if_pos e,show(id==q.j.id)=true by simp[e]];rfl
  ·rw[if_neg e,show(id==q.j.id)=false by simp[e]];exact kV id qs
set_option maxRecDepth 10000 in
theorem kQ{qs:List HJ}(jq:M.Jb)(ta:Option Addr)(tc:Nat)(w:World)
 (H:aP w i' h now tj ab nb cb bs ai ni ci mb qs)(hn:∀q∈qs,q.j.id≠jq.id)(hT:aK w i' ta jq.ts.length tc jq.ts)(hd:∀g∈ob ta,g∉cW h mb ab ai qs)(hb0:i'≤w.heap.size)(hni:ni≤1000):
  Calls prog 91 #[.pointer (some ⟨h,0,none⟩),.agg (dJ jq ta tc).toArray] w fun e w'=>e=.returned (.tuple #[])∧∃ai' ci',aP w' i' h now tj ab nb cb bs ai' (ni+1) ci' mb (qs++[⟨jq,w.heap.size,ta,tc⟩])∧Below i' w w'∧∀b vs,ae w b vs→b∉cW h mb ab ai qs→ae w' b vs:=by
 have HH:=Hd (H);have HN:=Hd (hn);have HT:=Hd (hT);have HD:=Hd (hd)
 have HI:H9 (∃i0,prog.info? 2=some i0∧i0.zero=some (it 0)∧i0.size=1∧i0.bytes=8):=by
  obtain⟨i0,h1,h2,h3,h4⟩:=info_parts cn;exact⟨i0,h1,h2,h3,h4⟩
 clear H hn hT hd;obtain⟨Aa,⟨⟨a,b,c',d,f,k⟩,⟨a',b',Ba,d',f',k'⟩⟩,⟨s1,s2⟩,jr,jg,tl⟩:=jq;dsimp only[dJ]at HT HN ⊢;generalize Na:tl.length=tn at *;have Oa:=Hd (Na);clear Na;go_enter func91,ntmps91;have Ia:=cz w (br Aa a b c' d f k a' b' Ba d' f' k' s1 s2 jr jg ta tn tc) 45;have Da:H9 (aP (w.alloc (.cells (br Aa a b c' d f k a' b' Ba d' f' k' s1 s2 jr jg ta tn tc).toArray 45)) i' h now tj ab nb cb bs ai ni ci mb qs):=HH.o.below ((tv _ _).alloc (tr _) _);have Za:H9 (aK (w.alloc (.cells (br Aa a b c' d f k a' b' Ba d' f' k' s1 s2 jr jg ta tn tc).toArray 45)) i' ta tn tc tl):=HT.o.grown (tO w _ none) (fun _ _=>by simp);have Pa:H9 (Below w.heap.size w (w.alloc (.cells (br Aa a b c' d f k a' b' Ba d' f' k' s1 s2 jr jg ta tn tc).toArray 45))):=(tv _ _).alloc (tr _) _;have Ab:H9 ((w.alloc (.cells (br Aa a b c' d f k a' b' Ba d' f' k' s1 s2 jr jg ta tn tc).toArray 45)).heap.size=w.heap.size+1):=(by show _=_;simp);(go_wp2_with fail);generalize(w.alloc (.cells (br Aa a b c' d f k a' b' Ba d' f' k' s1 s2 jr jg ta tn tc).toArray 45))=w1 at *;have h3:w1.cell? ⟨h,3,none⟩=some (.slice ai ni ci):=Da.o.l.at 3;have j0:=Ia.o.c 0;have Ja:H9 (∀g∈cW h mb ab ai qs,g<w.heap.size):=HH.o.lt;have Ga:H9 (i'≤w1.heap.size):=(by show _≤_;rw[Ab.o];omega);obtain⟨i0,hi,Bb,Cb,Db⟩:=HI.o;have Rb:(w1.alloc (.cells #[it Aa] 2)).cell? ⟨h,3,none⟩=some (.slice ai ni ci):=(Da.o.l.alloc _).at 3;have Ea:=bJ.1 HH.o.d;have Eb:H9 (h∉ob ai):=Ea.1.2.2.1;have Fb:H9 (∀g∈ob ai,g≠w.heap.size):=fun g hg=>by have:=Ja.o g (by simp[cW,hg]);omega
 clear Ea;apply dU
 case f=>
  intro key
  go_region_law (refine em rfl (.tmp 8) (.tmp 11) 24 rfl i' 2 i0 (it 0) 1 8 underlying24 hi Bb Cb Db rfl (by decide) (.slice ai ni ci) ni ((qs.map (fun q:HJ=>q.j.id)).map (Value.int .i64)) (by simp[Act.eval]) (World.ownsRow.drew (uc Da.o.i _)) ⟨w1.heap.size,0,none⟩ 1 1 [it Aa] (by simp[Act.eval]) rfl (b7 w1 Aa _) (cJ Aa) (by unfold maxLen;omega) (by omega) (by simp;exact Nat.le_succ_of_le Ga.o) ?_;intro v' w7 Qa Ra Sa;have hown':w7.ownsRow i' 2 1 v' (ni+1) (((qs.map (fun q:HJ=>q.j.id))++[Aa]).map (Value.int .i64)):=(by rw[t8];exact Qa);obtain⟨ai',ci',rfl,ho⟩:=ar.form hown';have Ta:H9 (ar 2 w7 i' ai' (ni+1) ci' ((qs.map (fun q:HJ=>q.j.id))++[Aa])):=ho;have Ca:H9 (w1.grownBy w7 (Value.slice ai ni ci).ownBlock):=((tO w1 _ _).trans (cY _ _)).trans Ra;have Ua:H9 ((Value.slice ai' (ni+1) ci').ownBlock=(Value.slice ai ni ci).ownBlock∨(Value.slice ai' (ni+1) ci').ownBlock=some (w1.heap.size+1)):=(show _∨_ by simpa using Sa);have Ha:H9 (ae w7 h [it now,it tj,.slice ab nb cb,.slice ai ni ci,.map (some mb)]):=Da.o.l.grown Ca.o (fun e=>Eb.o (aZ e));have c3:=Ha.o.c 3;have f3:w7.frozen? ⟨h,3,none⟩=false:=Ha.o.fr 3;clear Qa hown' Ra Sa ho)
  all_goals
   clear c3 f3;revert w7 ai' ci';exact key.out
 case h=>
  intro w7 ai' ci' Ta Ca Ua Ha;have Va:H9 (ae (w7.setCell ⟨h,3,none⟩ (.slice ai' (ni+1) ci')) h [it now,it tj,.slice ab nb cb,.slice ai' (ni+1) ci',.map (some mb)]):=Ha.o.set 3 (by simp) _;have Fa:H9 (w7.grownBy (w7.setCell ⟨h,3,none⟩ (.slice ai' (ni+1) ci')) (some h)):=aM _ _ _;generalize w7.setCell ⟨h,3,none⟩ (.slice ai' (ni+1) ci')=w8 at *;(go_wp2_with fail);have Ea:=bJ.1 HH.o.d;have Gb:H9 (bN w8.drew mb (qs.map HJ.ent)):=show bN w8 mb _ from((Da.o.m.grown Ca.o (fun e=>Ea.2.1.2.1 (aZ e))).grown Fa.o (fun e=>Ea.1.1 (tm e)));have Hb:H9 (ae w8 w.heap.size (br Aa a b c' d f k a' b' Ba d' f' k' s1 s2 jr jg ta tn tc)):=(Ia.o.grown Ca.o (fun e=>Fb.o _ (aZ e) rfl)).grown Fa.o (fun e=>by have:=Ja.o h (by simp[cW]);have:=tm e;omega);obtain⟨w9,Sb,Wa,Xa⟩:=Gb.o.put (P:=prog) (t:=111) underlying111 underlying2 Aa (.pointer (some ⟨w.heap.size,0,none⟩)) (by rw[kV,List.find?_eq_none.2 (fun q hq=>by simpa using fun e=>HN.o q hq e.symm)];rfl);have Ib:=Hd (Wa);have Ka:H9 (w8.grownBy w9 (some mb)):=(cY _ _).trans Xa;clear Wa Xa Ea;have h4:=Va.o.c 4;have j8:=Hb.o.c 0;apply dU
  case f=>
   intro key
   go_region_law (fail)
   all_goals exact key.out
  case h=>
   have Kb:aK w1 i' ta tl.length tc tl:=(by rw[Oa.o];exact Za.o);have Lb:ae w1 w.heap.size (dJ ⟨Aa,⟨⟨a,b,c',d,f,k⟩,⟨a',b',Ba,d',f',k'⟩⟩,(s1,s2),jr,jg,tl⟩ ta tc):=(by have:=Ia.o;rw[←Oa.o]at this;exact this);have Nb:w.heap.size∉cW h mb ab ai qs:=fun e=>by have:=Ja.o _ e;omega
   have Ob:w.heap.size∉ob ta:=fun e=>by have:=(HT.o.lt _ e).2;omega
   have HF:=Da.o.entered ⟨⟨Aa,⟨⟨a,b,c',d,f,k⟩,⟨a',b',Ba,d',f',k'⟩⟩,(s1,s2),jr,jg,tl⟩,w.heap.size,ta,tc⟩ Lb Kb Nb HD.o Ob hb0 Ca.o Ta.o (Nat.le_succ _) Ua.o Fa.o Va.o Ka.o Ib.o;have La:=Da.o.lo;have Ya:=Ca.o.size;have Pb:=Fa.o.size;have Qb:Below i' w w9:=(Pa.o.mono hb0).trans ((ac Ca.o Ga.o (fun z e=>La z (by simp[cW,aZ e]))).trans ((ac Fa.o (tB Ga.o Ya) (fun z e=>La z (by simp[cW,tm e]))).trans (ac Ka.o (tB Ga.o (tB Ya Pb)) (fun z e=>La z (by simp[cW,tm e])))));exact bodyPost_end (v:=.tuple #[]) (by simp[results,results91,go_sem]) rfl ⟨rfl,ai',ci',HF,Qb,fun b vs hL hn=>(((hL.belowS Pa.o).grown Ca.o (fun e=>hn (by simp[cW,aZ e]))).grown Fa.o (fun e=>hn (by simp[cW,tm e]))).grown Ka.o (fun e=>hn (by simp[cW,tm e]))⟩
theorem qt{qs:List HJ}(jq:M.Jb)(ta:Option Addr)(tc:Nat)(w:World)
 (H:aP w i' h now tj ab nb cb bs ai ni ci mb qs)(hn:∀q∈qs,q.j.id≠jq.id)(hT:aK w i' ta jq.ts.length tc jq.ts)(hd:∀g∈ob ta,g∉cW h mb ab ai qs)(hb0:i'≤w.heap.size)(hni:ni≤1000):
  Calls prog 91 #[.pointer (some ⟨h,0,none⟩),.agg (dJ jq ta tc).toArray] w fun e w'=>e=.returned (.tuple #[])∧∃ai' ci',aP w' i' h now tj ab nb cb bs ai' (ni+1) ci' mb (qs++[⟨jq,w.heap.size,ta,tc⟩])∧Below i' w w':=
 (kQ jq ta tc w H hn hT hd hb0 hni).mono fun _ _ ⟨h1,ai',ci',h2,h3,_⟩=>⟨h1,ai',ci',h2,h3⟩
theorem dl{a:Act}
 (hg:o.guard=none)(s x:Operand)(t:TypeId)(hop:o.op=Op.call {callee:=Callee.builtin Builtin.append,args:=#[s,x],argTypes:=#[t,t]})
 (i':Nat)(e:TypeId)(i:TypeInfo)(z:Value)(size bytes:Nat)(ht:P.underlying t=some (.slice e))(hi:P.info? e=some i)(hz:i.zero=some z)(hsize:i.size=size)(hby:i.bytes=bytes)(hzs:z.cells.size=size)(hsz:0<size)
 (v:Value)(n:Nat)(xs:List Value)(hs:a.eval s=v)(hown:w.ownsRow i' e size v n xs)(ao:Option Addr)(m c:Nat)(news:List Value)(hx:a.eval x=.slice ao m c)(hl:news.length=m*size)(hnone:ao=none→m=0∧c=0)
 (hnews:∀ad,ao=some ad→∀j u,news[j]?=some u→w.cell? (ad.add j)=some u)(h1:∀u∈news,u.oneCell'=true)
 (h63:n+m≤maxLen)(hbytes:(n+m)*bytes≤140737488355328)(tf:i'≤w.heap.size)
 (hK:∀v' w',w'.ownsRow i' e size v' (n+m) (xs++news)→w.grownBy w' v.ownBlock→(v'.ownBlock=v.ownBlock∨v'.ownBlock=some w.heap.size)→K (a.put o.dst v') w'):
  if Region.wanted o (yielded ops a.tmps)=true then Oper.wp P o a w K Q else E:=by
 cases ao with
 | some ad=>exact em hg s x t hop i' e i z size bytes ht hi hz hsize hby hzs hsz v n xs hs hown ad m c news hx hl (hnews ad rfl) h1 h63 hbytes tf hK
 | none=>
  obtain⟨rfl,rfl⟩:=hnone rfl;have hn:news=[]:=List.eq_nil_of_length_eq_zero (by simpa using hl);subst hn;have hw:Region.wanted o (yielded ops a.tmps)=true:=(by simp[Region.wanted,hg]);rw[if_pos hw];have Aa:=run_append_owned_none (P:=P) w i' t o.type e i size ht hi v n xs hown;unfold Oper.wp;simp[execOp,hop,resolve,invoke,builtin,hs,hx,Aa,Result.andThen];exact hK v w (by simpa using hown) (World.grownBy.refl _ _) (.inl rfl)
theorem dT(w:World){rest:List Oper}{a:Act}(hgd:o.guard=none)(s x:Operand)(t:TypeId)
 (ho:o.op=.call {callee:=.builtin .append,args:=#[s,x],argTypes:=#[t,t]})
 (i':Nat)(e:TypeId)(i:TypeInfo)(z:Value)(size bytes:Nat)(ht:P.underlying t=some (.slice e))(hi:P.info? e=some i)(hz:i.zero=some z)
 (hsize:i.size=size)(hby:i.bytes=bytes)(hzs:z.cells.size=size)(hsz:0<size)
 (v:Value)(n:Nat)(xs:List Value)(hs:a.eval s=v)(hown:w.ownsRow i' e size v n xs)
 (ao:Option Addr)(m c:Nat)(news:List Value)(hx:a.eval x=.slice ao m c)(hl:news.length=m*size)(hnone:ao=none→m=0∧c=0)
 (hnews:∀ad,ao=some ad→∀j u,news[j]?=some u→w.cell? (ad.add j)=some u)(h1:∀u∈news,u.oneCell'=true)
 (h63:n+m≤maxLen)(hbytes:(n+m)*bytes≤140737488355328)(tf:i'≤w.heap.size)
 (h:∀v' w',w'.ownsRow i' e size v' (n+m) (xs++news)→w.grownBy w' v.ownBlock→(v'.ownBlock=v.ownBlock∨v'.ownBlock=some w.heap.size)→wpList P ops Q rest (a.put o.dst v') w'):wpList P ops Q (o::rest) a w:=by
 cases ao with
 | some ad=>exact wpList_append_own_at w hgd s x t ho i' e i z size bytes ht hi hz hsize hby hzs hsz v n xs hs hown ad m c news hx hl (hnews ad rfl) h1 h63 hbytes tf (fun v' w' h2 h3 _ h5=>h v' w' h2 h3 h5)
 | none=>
  obtain⟨rfl,rfl⟩:=hnone rfl;have hn:news=[]:=List.eq_nil_of_length_eq_zero (by simpa using hl);subst hn;refine wpList_plain hgd fun K hK'=>?_;have Aa:=run_append_owned_none (P:=P) w i' t o.type e i size ht hi v n xs hown;unfold Oper.wp;simp[execOp,ho,resolve,invoke,builtin,hs,hx,Aa,Result.andThen];exact hK' _ _ (h v w (by simpa using hown) (World.grownBy.refl _ _) (.inl rfl))
theorem iS:∀{js:List M.Jb} {last:Int},M.jsGo now tj last js=true→(∀j∈js,last<j.id∧j.id<tj∧M.jbOk now j=true)∧js.Pairwise (fun a b=>a.id<b.id)
 | [],_,_=>⟨fun j hj=>by simp at hj,List.Pairwise.nil⟩
 | x::l,last,h=>by
  unfold M.jsGo at h;simp only[tZ,decide_eq_true_eq]at h;obtain⟨⟨⟨h1,h2⟩,h3⟩,h4⟩:=h;obtain⟨ih1,ih2⟩:=iS h4;refine⟨fun j hj=>?_,List.pairwise_cons.2 ⟨fun j hj=>(ih1 j hj).1,ih2⟩⟩
  rcases List.mem_cons.1 hj with rfl | hj
  ·exact⟨by omega,by omega,h3⟩
  ·
   obtain⟨a,b,c⟩:=ih1 j hj;exact⟨by omega,b,c⟩
theorem gK(h:M.bnGo 0 bs=true):bs.length≤9:=by
 have key:∀(l:List Int) (x:Int),0≤x→x≤9→M.bnGo x l=true→(l.length:Int)≤9-x:=by
  intro l
  induction l with
  | nil=>intro x h0 h9 _;simp;omega
  | cons y l ih=>
   intro x h0 h9 h;unfold M.bnGo M.wkOk at h;simp only[tZ,decide_eq_true_eq]at h;have:=ih y (by omega) (by omega) h.2;rw[List.length_cons];omega
 have:=key bs 0 (by omega) (by omega) h;omega
structure M.Right(now tj:Int)(bs:List Int)(js:List M.Jb):Prop where
 now0:0≤now
 now1:now≤1000000000
 next0:1≤tj
 next1:tj≤1000000000
 few:js.length≤6
 bn:M.bnGo 0 bs=true
 job:∀j∈js,0<j.id∧j.id<tj∧M.jbOk now j=true
 rise:js.Pairwise (fun a b=>a.id<b.id)
 nd:(M.wks js).Nodup
 bd:∀x∈M.wks js,bs.contains x=false
theorem cm(h:M.mkOk now tj bs js=true):M.Right now tj bs js:=by
 unfold M.mkOk at h;simp only[tZ,decide_eq_true_eq]at h;obtain⟨⟨h1,h2⟩,⟨h3,h4⟩,h5,⟨h6,h7⟩,h8,h9⟩:=h;obtain⟨Aa,Ba⟩:=iS h7;refine⟨h1,h2,h3,h4,h6,h5,Aa,Ba,h8,fun x hx=>?_⟩;simp only[Bool.not_eq_true',List.any_eq_false]at h9;simpa using h9 x hx
theorem M.Right.before(h:M.Right now tj bs js)(hk:k<js.length):∀x∈js.take k,x.id≠(js.getD k M.j0).id:=by
 intro x hx;have hp:=h.rise;rw[←List.take_append_drop k js,List.pairwise_append]at hp;have hd:js.drop k=js.getD k M.j0::js.drop (k+1):=aQ M.j0 rfl hk;have:=hp.2.2 x hx (js.getD k M.j0) (by rw[hd];simp);omega
theorem M.Right.tasks(h:M.Right now tj bs js):∀j∈js,1≤j.ts.length∧j.ts.length≤8:=by
 intro j hj;have:=(h.job j hj).2.2;unfold M.jbOk at this;simp only[tZ,decide_eq_true_eq]at this;exact⟨this.1.2.2.2.1,this.1.2.2.2.2.1⟩
theorem fd:(prog.info? 47).map (fun i=>(i.zero,i.size,i.bytes))=some (some (.agg #[.bool false,.int .i64 0,.int .i64 0]),3,24):=by kernel_rfl
theorem aY.news(h:aY w a n cap ts):∀ad,a=some ad→∀j u,(ts.flatMap bO)[j]?=some u→w.cell? (ad.add j)=some u:=by
 intro ad e j u hj;have hl:=h.len
 have Ba:j<ts.length*3:=by
  have:=(List.getElem?_eq_some_iff.1 hj).1
  rwa[b8 ct]at this
 obtain⟨b,Aa,e2,hc⟩:=h.at (by omega);rw[e]at e2;simp only[Option.some.injEq]at e2;subst e2;have hq:j/3<ts.length:=(by rw[Nat.div_lt_iff_lt_mul (by omega)];exact Ba);have hm:j%3<3:=Nat.mod_lt _ (by omega);have h1:=hc (j/3) (by omega) (j%3) hm;rw[←dN ct M.t0 ts hq hm,show Aa+j/3*3+j%3=Aa+j by omega,show j/3*3+j%3=j by omega,hj]at h1;unfold Addr.add
 split
 ·rename_i e0;subst e0;exact h1
 ·exact h1
theorem pS(ts:List M.Tk):∀u∈ts.flatMap bO,u.oneCell'=true:=by
 intro u hu;obtain⟨t,_,hu⟩:=tU.1 hu;simp only[bO,List.mem_cons,List.not_mem_nil,or_false]at hu
 rcases hu with rfl | rfl | rfl <;> rfl
theorem rv(hl:ae w h [.int .i64 now,.int .i64 tj,.slice ab nb cb,.slice none 0 0,.map (some mb)])(ho:ar 2 w i' ab nb cb bs)(hm:bN w mb [])(hne:h≠mb)(hbh:i'≤h)(hbm:i'≤mb)(h1:h∉ob ab)(h2:mb∉ob ab):
  aP w i' h now tj ab nb cb bs none 0 0 mb []:=
 ⟨hl,ho,ar.empty _ _ _,hm,fun q hq=>by simp at hq,bJ.2 ⟨⟨hne,h1,by simp[ob],by simp⟩,⟨h2,by simp[ob],by simp⟩,fun g _=>⟨by simp[ob],by simp⟩,fun g hg=>by simp[ob]at hg,by simp⟩,fun g hg=>by
  unfold cW at hg;simp only[List.mem_cons,tI,ob,List.flatMap_nil,List.not_mem_nil,or_false]at hg
  rcases hg with rfl | rfl | hg
  ·exact hbh
  ·exact hbm
  ·exact(tJ ho g (bL hg)).1⟩
set_option maxRecDepth 10000 in
theorem qz(now tj:Int)(w:World)(hz:bv w ab nb cb aj nj cj bs js)(hf:M.mkOk now tj bs js=false):
  Rt 36 #[.agg #[.int .i64 now,.int .i64 tj,.slice ab nb cb,.slice aj nj cj]] w (.tuple #[.pointer none,.bool false]):=by
 have HM:=Hd (hz);have C1:∀W,bv W ab nb cb aj nj cj bs js→Rt 15 #[.agg (au now tj ab nb cb aj nj cj).toArray] W (.bool false):=fun W h=>by rw[←hf];exact eL now tj W h
 go_enter func36,ntmps36;have Aa:H9 (Below w.heap.size w (w.alloc (.cells (au now tj ab nb cb aj nj cj).toArray 27))):=(tv _ _).alloc (tr _) _;(go_wp2_with fail);generalize(w.alloc (.cells (au now tj ab nb cb aj nj cj).toArray 27))=wa at *;refine(C1 _ (HM.o.below Aa.o)).mono ?_;rintro e wb ⟨rfl,hb⟩;have Ba:=Hd (Aa.o.trans (hb.mono Aa.o.size));go_wp2;exact tx (v:=.tuple #[.pointer none,.bool false]) (by simp[results,results36,go_sem]) rfl ⟨rfl,Ba.o⟩
def qP(w:World)(now tj:Int)(bs:List Int)(js:List M.Jb)(e:Ending)(w':World):Prop:=
 ∃h ab nb cb ai ni ci mb qs,e=.returned (.tuple #[.pointer (some ⟨h,0,none⟩),.bool true])∧aP w' w.heap.size h now tj ab nb cb bs ai ni ci mb qs∧qs.map (·.j)=js∧Below w.heap.size w w'
set_option maxRecDepth 10000 in
theorem oG(now tj:Int)(w:World)(hz:bv w ab nb cb aj nj cj bs js)(hf:M.mkOk now tj bs js=true):
  Calls prog 36 #[.agg #[.int .i64 now,.int .i64 tj,.slice ab nb cb,.slice aj nj cj]] w fun e w'=>qP w now tj bs js e w':=by
 have HM:=Hd (hz);have C1:∀W,bv W ab nb cb aj nj cj bs js→Rt 15 #[.agg (au now tj ab nb cb aj nj cj).toArray] W (.bool true):=fun W h=>by rw[←hf];exact eL now tj W h
 have HF:=Hd (hf);go_enter func36,ntmps36;have Oc:=cz w (au now tj ab nb cb aj nj cj) 27;have Ia:H9 (Below w.heap.size w (w.alloc (.cells (au now tj ab nb cb aj nj cj).toArray 27))):=(tv _ _).alloc (tr _) _;(go_wp2_with fail);generalize(w.alloc (.cells (au now tj ab nb cb aj nj cj).toArray 27))=wa at *;refine(C1 _ (HM.o.below Ia.o)).mono ?_;rintro e wb ⟨rfl,hb⟩;have Oa:=Hd (Oc.o.belowS hb);have Ja:=Hd (Ia.o.trans (hb.mono Ia.o.size));have x0:=Oa.o.c 0;have x1:=Oa.o.c 1;have x2:=Oa.o.c 2;have x3:=Oa.o.c 3;have Wd:=run_makeMap (P:=prog) 111 wb;(go_wp2_with fail);have Pb:Below wb.heap.size wb ((wb.alloc (.map #[] 0)).alloc (.cells #[it now,it tj,.slice none 0 0,.slice none 0 0,.map (some wb.heap.size)] 113)):=((tv _ _).alloc (tr _) _).alloc (by simp) _;have Pa:=Hd (Ja.o.size);have Qb:=Hd (Oa.o.belowS Pb);have Ka:=Hd (Ja.o.trans (Pb.mono Ja.o.size));have Bb:H9 (ae ((wb.alloc (.map #[] 0)).alloc (.cells #[it now,it tj,.slice none 0 0,.slice none 0 0,.map (some wb.heap.size)] 113)) (wb.heap.size+1) [it now,it tj,.slice none 0 0,.slice none 0 0,.map (some wb.heap.size)]):=aO wb _ _ _;have Rb:H9 (bN ((wb.alloc (.map #[] 0)).alloc (.cells #[it now,it tj,.slice none 0 0,.slice none 0 0,.map (some wb.heap.size)] 113)) wb.heap.size []):=(qC wb).alloc _;have Pc:H9 (((wb.alloc (.map #[] 0)).alloc (.cells #[it now,it tj,.slice none 0 0,.slice none 0 0,.map (some wb.heap.size)] 113)).heap.size=wb.heap.size+1+1):=(by show _=_;simp);generalize((wb.alloc (.map #[] 0)).alloc (.cells #[it now,it tj,.slice none 0 0,.slice none 0 0,.map (some wb.heap.size)] 113))=w1 at *;generalize Sb:wb.heap.size+1=hb at *;generalize wb.heap.size=mb at Sb Rb Pa Bb ⊢;have Qa:H9 (mb+1=hb):=Sb;have h2:=Bb.o.c 2;have m2:=Qb.o.c 2;have Ra:=(HM.o.below Ka.o).b;have Qc:H9 (ah w1.drew ab nb cb bs):=Ra.of_cells fun _ _ hp _=>hp;have Cb:H9 (bs.length=nb):=Ra.len;have Rc:H9 (ab=none→nb=0∧cb=0):=Ra.no;have HR:H9 (M.Right now tj bs js):=cm HF.o;have Xd:nb≤9:=(by have:=gK HR.o.bn;rw[Cb.o]at this;exact this);clear Ra;obtain⟨i0,hi,Db,Eb,Fb⟩:=info_parts cn;have Sc:H9 (((bs.take nb).map (Value.int .i64)).length=nb*1):=(by show _=_;have:=Cb.o;simp;omega);have Gb:=Hd (Ka.o.size);apply dU
 case f=>
  intro key
  go_region_law (refine dl rfl (.tmp 21) (.tmp 23) 24 rfl w.heap.size 2 i0 (it 0) 1 8 underlying24 hi Db Eb Fb rfl (by decide) (.slice none 0 0) 0 [] (by simp[Act.eval]) (World.ownsRow_nil _ _ _ _) ab nb cb ((bs.take nb).map (Value.int .i64)) (by simp[Act.eval]) Sc.o Rc.o (df Qc.o nb (tr _)) (du _) (by unfold maxLen;omega) (by omega) Gb.o ?_;intro v' w7 La Sa Ta;have hown':w7.ownsRow w.heap.size 2 1 v' nb (bs.map (Value.int .i64)):=(by rw[Nat.zero_add,List.nil_append,tF (Nat.le_of_eq Cb.o)]at La;exact La);obtain⟨Aa,Ba,rfl,ho⟩:=ar.form hown';have Tb:H9 (ar 2 w7 w.heap.size Aa nb Ba bs):=ho;have Ha:H9 (w1.grownBy w7 none):=(cY _ _).trans Sa;have Ub:H9 ((Value.slice Aa nb Ba).ownBlock=none∨(Value.slice Aa nb Ba).ownBlock=some w1.heap.size):=Ta;have Ua:H9 (ae w7 hb [it now,it tj,.slice none 0 0,.slice none 0 0,.map (some mb)]):=Bb.o.grown Ha.o (by simp);have c3:=Ua.o.c 2;have f3:w7.frozen? ⟨hb,2,none⟩=false:=Ua.o.fr 2;clear La hown' Sa Ta ho)
  all_goals
   clear c3 f3;revert w7 Aa Ba;exact key.out
 case h=>
  intro w7 Aa Ba Tb Ha Ub Ua;have Tc:H9 (ae (w7.setCell ⟨hb,2,none⟩ (.slice Aa nb Ba)) hb [it now,it tj,.slice Aa nb Ba,.slice none 0 0,.map (some mb)]):=Ua.o.set 2 (by simp) _;have Vb:H9 (w7.grownBy (w7.setCell ⟨hb,2,none⟩ (.slice Aa nb Ba)) (some hb)):=aM _ _ _;have Uc:H9 (bN (w7.setCell ⟨hb,2,none⟩ (.slice Aa nb Ba)) mb []):=(Rb.o.grown Ha.o (by simp)).setCell _ _;have Wb:hb<w1.heap.size:=(by rw[Pc.o];omega);have Na:∀g∈ob Aa,w1.heap.size≤g:=fun g hg=>by have e:=bL (n:=nb) (c:=Ba) hg;rcases Ub.o with e2 | e2 <;> rw[e2]at e <;> simp at e;omega
  have Vc:=Hd (Tb.o.grown Vb.o (fun g hg e=>by have:=Na g hg;have:=tm e;omega));have Xb:H9 (Below w.heap.size w (w7.setCell ⟨hb,2,none⟩ (.slice Aa nb Ba))):=(Ka.o.trans (ac Ha.o Gb.o (by simp))).trans (ac Vb.o (tB Gb.o Ha.o.size) (fun z e=>by have:=tm e;have:=Qa.o;have:=Pa.o;omega));have Yb:H9 (ae (w7.setCell ⟨hb,2,none⟩ (.slice Aa nb Ba)) w.heap.size (au now tj ab nb cb aj nj cj)):=(Qb.o.grown Ha.o (by simp)).far (by have:=Qa.o;have:=Pa.o;omega) _ _;have HX:H9 (aP (w7.setCell ⟨hb,2,none⟩ (.slice Aa nb Ba)) w.heap.size hb now tj Aa nb Ba bs none 0 0 mb []):=rv Tc.o Vc.o Uc.o (by have:=Qa.o;omega) (by have:=Qa.o;have:=Pa.o;omega) Pa.o (fun e=>by have:=Na _ e;omega) (fun e=>by have:=Na _ e;have:=Qa.o;omega);generalize(w7.setCell ⟨hb,2,none⟩ (.slice Aa nb Ba))=w8 at *;have Yd:=HM.o.j.len;have Zd:nj≤6:=(by have:=HR.o.few;omega);have Ae:(nj:Int)≤9223372036854775807:=(by omega);have Be:=HM.o.j.le;have Ce:(nj:Int)≤cj:=(by omega);have x3:=Yb.o.c 3;(go_wp2_with fail);clear x3
  go_loopw [30] (fun i wr=>∃(k:Nat) (ai:Option Addr) (ni ci:Nat) (qs:List HJ),k≤nj∧i=it k∧aP wr w.heap.size hb now tj Aa nb Ba bs ai ni ci mb qs∧qs.map (·.j)=js.take k∧Below w.heap.size w wr) (fun i _=>nj-(intOf i).toNat)
  case atStart=>exact⟨0,none,0,0,[],by omega,rfl,HX.o,rfl,Xb.o⟩
  case round=>
   obtain⟨kk,ai,ni,ci,qs,hk,rfl,hh,Va,Wa⟩:=hrel;clear HX Xb Yb;by_cases Wb:kk<nj
   case pos=>
    obtain⟨b1,o1,rfl,Wc⟩:=(HM.o.j.below Wa).at (by omega);obtain⟨ta,tc,hA,hT⟩:=Wc kk Wb;have Xc:(kk:Int)<(nj:Int):=(by omega);have Yc:js.getD kk M.j0∈js:=(by rw[tu,tw (by omega)];simp);have Hb:js.take (kk+1)=js.take kk++[js.getD kk M.j0]:=(by rw[List.take_add_one,tu,tw (by omega)];simp);have Zc:=HR.o.before (k:=kk) (by omega);have Ib:=HR.o.tasks _ Yc;have Ad:ni=kk:=(by have h1:=hh.i.len;have h2:=congrArg List.length Va;rw[List.length_map]at h1 h2;rw[ua]at h2;omega);have Kb:H9 (∀q∈qs,q.j.id≠(js.getD kk M.j0).id):=fun q hq=>Zc q.j (by rw[←Va];exact List.mem_map.2 ⟨q,hq,rfl⟩);generalize js.getD kk M.j0=cq at hA hT Hb Ib Kb;obtain⟨Ca,⟨⟨a,b,c',d,f,k⟩,⟨a',b',Da,d',f',k'⟩⟩,⟨s1,s2⟩,jr,jg,tl⟩:=cq;dsimp only at hT Hb Ib Kb;have hR:wr.rangeAt b1 (o1+kk*18) (dJ ⟨Ca,⟨⟨a,b,c',d,f,k⟩,⟨a',b',Da,d',f',k'⟩⟩,(s1,s2),jr,jg,tl⟩ ta tc):=bw rfl hA;have HT:=Hd (hT);dsimp only[dJ]at hR;generalize Bd:tl.length=tn at hR HT Ib;have Xa:=Hd (Bd);have Cd:H9 (qs.map (·.j)++[⟨Ca,⟨⟨a,b,c',d,f,k⟩,⟨a',b',Da,d',f',k'⟩⟩,(s1,s2),jr,jg,tl⟩]=js.take (kk+1)):=(by show _=_;rw[Va];exact Hb.symm);have Dd:H9 (ni=kk):=Ad;have Ia:=Hd (Wa);have Zb:=Hd (hh);have Ac:=Hd (HT.o);have Lb:H9 (∀g∈cW hb mb Aa ai qs,g<wr.heap.size):=hh.lt;have Ya:H9 (w.heap.size≤wr.heap.size):=Wa.size;(go_wp2_with(with_reducible refine af 33 ?_ ?_;rfl));with_reducible refine dO 45 b1 (o1+kk*18) (br Ca a b c' d f k a' b' Da d' f' k' s1 s2 jr jg ta tn tc) hR underlying45 ?q5 ?_
    case q5=>exact⟨rfl,rfl,by kernel_rfl,_,rfl,by kernel_rfl⟩
    (go_wp2_with(with_reducible refine af 6 ?_ ?_;rfl));show wpList _ _ _ _ _ _;have Ed:(Instr.alloc 45 true (.tuple #[])).run prog wr=.ok (.pointer (some ⟨wr.heap.size,0,none⟩)) (wr.alloc (.cells dS.toArray 45)):=(by kernel_rfl);with_reducible refine bU ?qg 45 ?qo dS.toArray Ed ?_
    case qg | qo=>exact rfl
    show wpList _ _ _ _ _ _;with_reducible refine Hx (iN 45 wr.heap.size 0 (br Ca a b c' d f k a' b' Da d' f' k' s1 s2 jr jg ta tn tc) ?q6 ?q5 ?_)
    case q6=>exact(aI _ _ _).there _ 18 (by simp)
    case q5=>exact⟨rfl,by kernel_rfl,by kernel_rfl,_,_,rfl,by kernel_rfl,by kernel_rfl⟩
    have Ga:Below wr.heap.size wr ((wr.alloc (.cells dS.toArray 45)).setCells wr.heap.size 0 (br Ca a b c' d f k a' b' Da d' f' k' s1 s2 jr jg ta tn tc)):=aD _ _ ((tv _ _).alloc (tr _) _) (tr _);have Ja:=Hd (Ia.o.trans (Ga.mono Ia.o.size));have Bc:=Hd (Zb.o.below Ga);have Cc:=Hd (Ac.o.below Ga);clear Ia Zb Ac;clear Ga;have Za:H9 (ae ((wr.alloc (.cells dS.toArray 45)).setCells wr.heap.size 0 (br Ca a b c' d f k a' b' Da d' f' k' s1 s2 jr jg ta tn tc)) wr.heap.size (br Ca a b c' d f k a' b' Da d' f' k' s1 s2 jr jg ta tn tc)):=(aI wr dS.toArray 45).setCells (br Ca a b c' d f k a' b' Da d' f' k' s1 s2 jr jg ta tn tc) 0 (by simp);generalize((wr.alloc (.cells dS.toArray 45)).setCells wr.heap.size 0 (br Ca a b c' d f k a' b' Da d' f' k' s1 s2 jr jg ta tn tc))=w2 at *;generalize wr.heap.size=jb at Za Lb Ya ⊢;have De:wr.heap.size=wr.heap.size:=rfl;have Dc:=Za.o.2.2;have Ga:=il w2 (.cells #[] 47);have Ka:=Hd (Ja.o.trans (Ga.mono Ja.o.size));have Fd:=Hd (Bc.o.below Ga);have Ec:=Hd (Cc.o.below Ga);have Fc:=Hd (Za.o.belowS Ga);clear Ja Bc Cc Za;clear Ga;have Ee:(w2.alloc (.cells #[] 47)).cell? ⟨jb,17,none⟩=some (.slice ta tn tc):=Fc.o.at 17;obtain⟨i0,hi,Db,Eb,Fb⟩:=info_parts fd;have Gd:(w2.alloc (.cells #[] 47)).heap.size=w2.heap.size+1:=(by simp);have Gc:w.heap.size≤(w2.alloc (.cells #[] 47)).heap.size:=Ka.o.size;have Id:H9 ((tl.flatMap bO).length=tn*3):=(by show _=_;rw[b8 ct,Xa.o]);(go_wp2_with(with_reducible refine af 37 ?_ ?_;rfl));show wpList _ _ _ _ _ _;refine dT _ rfl _ _ 43 rfl w.heap.size 47 i0 (.agg nk.toArray) 3 24 underlying43 hi Db Eb Fb rfl (by decide) _ 0 [] rfl (World.ownsRow_made w2 #[] 0 (tB Ya.o (Nat.le_of_lt Dc)) (by unfold maxLen;omega) (by simp)) ta tn tc (tl.flatMap bO) rfl Id.o Ec.o.no Ec.o.news (pS tl) (by unfold maxLen;omega) (by omega) Gc ?_;intro v' w7 La Sa Ta;rw[Nat.zero_add,List.nil_append]at La;obtain⟨Ea,Fa,rfl,Jd⟩:=aK.form Xa.o La;have Kd:=Hd (Jd);have Na:∀g∈ob Ea,w2.heap.size≤g:=fun g hg=>by have e:=bL (n:=tn) (c:=Fa) hg;rcases Ta with e2 | e2 <;> (rw[e2]at e;have e:=tm e;first | exact Nat.le_of_eq e | (rw[Gd]at e;omega))
    have Ab:(w2.alloc (.cells #[] 47)).grownBy w7 (some w2.heap.size):=Sa;have Hc:H9 (∀g∈cW hb mb Aa ai qs,g<w2.heap.size):=fun g hg=>by have:=Lb.o g hg;omega
    have Ha:=Hd (Fd.o.grown Ab (fun g hg e=>by have:=Hc.o g hg;have:=tm e;omega));have Nb:=Hd (Fc.o.grown Ab (fun e=>by have:=tm e;omega));have Ic:H9 (Below w.heap.size w w7):=Ka.o.trans (ac Ab Gc (fun z e=>by have:=tm e;have:=Ya.o;have:=Dc;omega));have Fe:=Ab.size;have Ld:H9 (∀g∈ob Ea,g∉cW hb mb Aa ai qs):=fun g hg hx=>by have:=Na g hg;have:=Hc.o g hx;omega
    have Nd:H9 (∀g∈ob Ea,g≠jb):=fun g hg e=>by have:=Na g hg;omega
    have Od:H9 (∀g∈cW hb mb Aa ai qs,g≠jb):=fun g hg e=>by have:=Lb.o g hg;omega
    have Ge:=Nb.o.c 17;have He:=Nb.o.fr 17;(go_wp2_with(with_reducible refine af 40 ?_ ?_;rfl));show wpList _ _ _ _ _ _;have Pd:H9 (ae (w7.setCell ⟨jb,17,none⟩ (.slice Ea tn Fa)) jb (br Ca a b c' d f k a' b' Da d' f' k' s1 s2 jr jg Ea tn Fa)):=Nb.o.set 17 (by simp) _;have Ob:w7.grownBy (w7.setCell ⟨jb,17,none⟩ (.slice Ea tn Fa)) (some jb):=aM _ _ _;have Qd:=Hd (Ha.o.grown Ob (fun g hg e=>Od.o g hg (tm e).symm));have Rd:=Hd (Kd.o.grown Ob (fun g hg e=>Nd.o g hg (tm e).symm));have Jc:H9 (Below w.heap.size w (w7.setCell ⟨jb,17,none⟩ (.slice Ea tn Fa))):=Ic.o.trans (ac Ob Ic.o.size (fun z e=>by have:=tm e;have:=Ya.o;omega));generalize(w7.setCell ⟨jb,17,none⟩ (.slice Ea tn Fa))=w9 at *;have Sd:=Pd.o.row;with_reducible refine Hx (dO 45 jb 0 (br Ca a b c' d f k a' b' Da d' f' k' s1 s2 jr jg Ea tn Fa) Sd underlying45 ?q5 ?_)
    case q5=>exact⟨rfl,rfl,by kernel_rfl,_,rfl,by kernel_rfl⟩
    have C4:Calls prog 91 #[.pointer (some ⟨hb,0,none⟩),.agg #[.int .i64 Ca,.int .i64 a,.int .i64 b,.int .i64 c',.int .i64 d,.int .i64 f,.int .i64 k,.int .i64 a',.int .i64 b',.int .i64 Da,.int .i64 d',.int .i64 f',.int .i64 k',.int .i64 s1,.int .i64 s2,.int .i64 jr,.bool jg,.slice Ea tn Fa]] w9 fun e w'=>e=.returned (.tuple #[])∧∃ai' ci',aP w' w.heap.size hb now tj Aa nb Ba bs ai' (ni+1) ci' mb (qs++[⟨⟨Ca,⟨⟨a,b,c',d,f,k⟩,⟨a',b',Da,d',f',k'⟩⟩,(s1,s2),jr,jg,tl⟩,w9.heap.size,Ea,Fa⟩])∧Below w.heap.size w9 w':=by
     have h0:=qt ⟨Ca,⟨⟨a,b,c',d,f,k⟩,⟨a',b',Da,d',f',k'⟩⟩,(s1,s2),jr,jg,tl⟩ Ea Fa w9 Qd.o Kb.o (by show aK _ _ _ tl.length _ _;rw[Xa.o];exact Rd.o) Ld.o Jc.o.size (by rw[Dd.o];omega);dsimp only[dJ]at h0;rw[Xa.o]at h0;exact h0
    (go_wp2_with fail);refine C4.mono ?_;rintro e Kc ⟨rfl,Lc,Nc,hH,hB⟩;have HH':H9 (aP Kc w.heap.size hb now tj Aa nb Ba bs Lc (ni+1) Nc mb (qs++[⟨⟨Ca,⟨⟨a,b,c',d,f,k⟩,⟨a',b',Da,d',f',k'⟩⟩,(s1,s2),jr,jg,tl⟩,w9.heap.size,Ea,Fa⟩])):=hH;have HB':H9 (Below w.heap.size w Kc):=Jc.o.trans hB;go_wp2;go_roundw
    case rel=>exact⟨kk+1,Lc,ni+1,Nc,_,by omega,by go_num,HH'.o,by rw[t8];exact Cd.o,HB'.o⟩
    case measure=>simp[intOf];omega
   have Ie:kk=nj:=(by omega);have Td:=Hd (hh);have Ud:H9 (qs.map (·.j)=js):=(by show _=_;rw[Va,tF (by omega)]);have Vd:=Hd (Wa);have Xc:¬ (kk:Int)<(nj:Int):=(by omega);go_wp2;exact tx (v:=.tuple #[.pointer (some ⟨hb,0,none⟩),.bool true]) (by simp[results,results36,go_sem]) rfl ⟨hb,Aa,nb,Ba,ai,ni,ci,mb,qs,rfl,Td.o,Ud.o,Vd.o⟩
namespace M
structure Mt where
 now:Int
 next:Int
 bs:List Int
 js:List Jb
def Mt.zero:Mt:=⟨0,0,[],[]⟩
def Mt.ok(m:Mt):Bool:=mkOk m.now m.next m.bs m.js
def free(f:Tk→Bool)(ts:List Tk):List Tk:=ts.map fun t=>if f t then t0 else t
def freeJ(f:Tk→Bool)(j:Jb):Jb:={j with ts:=free f j.ts}
def dueT(now:Int)(t:Tk):Bool:=leased t&&decide (t.due≤now)
def isFree(t:Tk):Bool:=!t.done&&!leased t
def mineT(who:Int)(t:Tk):Bool:=decide (t.l'=who)
def openP(j:Jb):Option Nat:=if j.gone then none else j.ts.findIdx? isFree
def place(i:Nat):List Jb→Option (Nat×Nat)
 | []=>none
 | j::l=>match openP j with
  | some k=>some (i,k)
  | none=>place (i+1) l
def setT(js:List Jb)(i k:Nat)(t:Tk):List Jb:=js.set i {js.getD i j0 with ts:=(js.getD i j0).ts.set k t}
def submit(m:Mt)(mc:Mc)(s:Int×Int)(rows s':Int):Mt×Int×Int:=
 if decide (m.js.length=6)||decide (m.next=1000000000)then(m,3,0)
 else(⟨m.now,m.next+1,m.bs,m.js++[⟨m.next,mc,s,rows,false,List.replicate s'.toNat t0⟩]⟩,0,m.next)
def tickN(now s':Int):Int:=if now+s'<1000000000 then now+s' else 1000000000
def tick(m:Mt)(s':Int):Mt×Int×Int:=(⟨tickN m.now s',m.next,m.bs,m.js.map (freeJ (dueT (tickN m.now s')))⟩,0,0)
def cancel(m:Mt)(id:Int):Mt×Int×Int:=
 if jobAt id 0 m.js<0 then(m,4,0)
 else if(jobOf id m.js).gone||(jobOf id m.js).ts.all (·.done)then(m,8,0)
 else(⟨m.now,m.next,m.bs,m.js.set (jobAt id 0 m.js).toNat {freeJ leased (jobOf id m.js)with gone:=true}⟩,0,0)
def lease(m:Mt)(who:Int):Mt×Int×Int:=
 if m.bs.contains who then(m,5,0)
 else if m.js.any (fun j=>j.ts.any (mineT who))then(m,6,0)
 else match place 0 m.js with
  | none=>(m,4,0)
  | some (i,k)=>(⟨m.now,m.next,m.bs,setT m.js i k ⟨false,who,m.now+5⟩⟩,0,100*(m.js.getD i j0).id+k)
def banned(bs:List Int)(who:Int):List Int:=[1,2,3,4,5,6,7,8,9].filter fun x=>x==who||bs.contains x
def back(g:Jb→Bool)(m:Mt)(who id p':Int):Mt×Int×Int:=
 if m.bs.contains who then(m,5,0)
 else if jobAt id 0 m.js<0||decide (((jobOf id m.js).ts.length:Int)≤p')then(m,4,0)
 else if((jobOf id m.js).ts.getD p'.toNat t0).l'≠who then(m,8,0)
 else if g (jobOf id m.js)=false then(⟨m.now,m.next,banned m.bs who,m.js.map (freeJ (mineT who))⟩,7,0)
 else(⟨m.now,m.next,m.bs,setT m.js (jobAt id 0 m.js).toNat p'.toNat ⟨true,0,0⟩⟩,0,if((jobOf id m.js).ts.set p'.toNat ⟨true,0,0⟩).all (·.done)then 1 else 0)
end M
namespace M
theorem getD_mem{α:Type}{l:List α}{d:α}(h:k<l.length):l.getD k d∈l:=by rw[tu,tw h];simp
theorem free_congr{f g:Tk→Bool}{ts:List Tk}(h:∀t∈ts,f t=g t):free f ts=free g ts:=by
 unfold free;exact List.map_congr_left fun t ht=>by rw[h t ht]
theorem free_len(f:Tk→Bool)(ts:List Tk):(free f ts).length=ts.length:=by unfold free;simp
theorem Right.tk{js:List M.Jb}(h:M.Right now tj bs js){j:M.Jb}(hj:j∈js){t:Tk}(ht:t∈j.ts):tkOk now t=true:=by
 have:=(h.job j hj).2.2;unfold M.jbOk at this;simp only[tZ,List.all_eq_true]at this;exact this.1.2.2.2.2.2 t ht
theorem Right.due{js:List M.Jb}(h:M.Right now tj bs js){j:M.Jb}(hj:j∈js):free (dueT (now+5)) j.ts=free leased j.ts:=by
 refine free_congr fun t ht=>?_;have h1:=h.tk hj ht;unfold tkOk at h1;unfold dueT;by_cases hw:t.l'=0
 ·simp[leased,hw]
 ·
  simp only[hw,decide_false,Bool.false_and,Bool.false_or,tZ,decide_eq_true_eq]at h1;rw[show decide (t.due≤now+5)=true by simpa using h1.2.2.2,Bool.and_true]
theorem mem_wkT{ts:List Tk}(hw:who≠0):who∈wkT ts↔∃t∈ts,t.l'=who:=by
 unfold wkT;simp only[List.mem_map,List.mem_filter,leased]
 constructor
 ·rintro⟨t,⟨h1,_⟩,h3⟩;exact⟨t,h1,h3⟩
 ·rintro⟨t,h1,h2⟩;exact⟨t,⟨h1,by simp[h2,hw]⟩,h2⟩
theorem free_out{ts:List Tk}(h:∀t∈ts,t.l'≠who):free (mineT who) ts=ts:=by
 unfold free
 conv=>rhs;rw[←List.map_id ts]
 exact List.map_congr_left fun t ht=>by simp[mineT,h t ht]
theorem free_in(hw:who≠0):∀{ts:List Tk} {k:Nat},(wkT ts).Nodup→k<ts.length→(ts.getD k t0).l'=who→free (mineT who) ts=ts.set k t0
 | [],_,_,h,_=>by simp at h
 | t::l,0,hn,_,h=>by
  have ht:t.l'=who:=h;have hl:leased t=true:=(by simp[leased,ht,hw]);have Aa:(wkT (t::l)).Nodup:=hn;unfold wkT at Aa;rw[List.filter_cons,if_pos hl,List.map_cons,List.nodup_cons]at Aa;have Ca:∀x∈l,x.l'≠who:=fun x hx e=>Aa.1 (by rw[ht];exact(mem_wkT hw).2 ⟨x,hx,e⟩);show(if mineT who t then t0 else t)::free (mineT who) l=_;rw[free_out Ca,if_pos (by simp[mineT,ht])]
  rfl
 | t::l,k+1,hn,hk,h=>by
  have Ba:k<l.length:=(by simpa using hk);have hx:(l.getD k t0).l'=who:=h;have Da:who∈wkT l:=(mem_wkT hw).2 ⟨l.getD k t0,by rw[tu,tw Ba];simp,hx⟩;have Aa:(wkT (t::l)).Nodup:=hn;unfold wkT at Aa;rw[List.filter_cons]at Aa
  have ht:t.l'≠who:=fun e=>by
   have hl:leased t=true:=(by simp[leased,e,hw]);rw[if_pos hl,List.map_cons,List.nodup_cons,e]at Aa;exact Aa.1 Da
  have Ea:(wkT l).Nodup:=by
   split at Aa
   ·rw[List.map_cons,List.nodup_cons]at Aa;exact Aa.2
   ·exact Aa
  show(if mineT who t then t0 else t)::free (mineT who) l=_;rw[free_in hw Ea Ba hx,if_neg (by simp[mineT,ht])]
  rfl
theorem wks_cons(j:Jb)(l:List Jb):wks (j::l)=wkT j.ts++wks l:=by simp[wks]
theorem mem_wks{js:List Jb}(hw:who≠0):who∈wks js↔∃j∈js,∃t∈j.ts,t.l'=who:=by
 unfold wks;rw[tU];exact⟨fun⟨j,hj,h⟩=>⟨j,hj,(mem_wkT hw).1 h⟩,fun⟨j,hj,h⟩=>⟨j,hj,(mem_wkT hw).2 h⟩⟩
theorem freeJ_out{js:List Jb}(h:∀j∈js,∀t∈j.ts,t.l'≠who):js.map (freeJ (mineT who))=js:=by
 conv=>rhs;rw[←List.map_id js]
 exact List.map_congr_left fun j hj=>by unfold freeJ;rw[free_out (h j hj)];rfl
theorem free_js(hw:who≠0):∀{js:List Jb} {i k:Nat},(wks js).Nodup→i<js.length→k<(js.getD i j0).ts.length→((js.getD i j0).ts.getD k t0).l'=who→js.map (freeJ (mineT who))=setT js i k t0
 | [],_,_,_,h,_,_=>by simp at h
 | j::l,0,k,hn,_,hk,h=>by
  rw[wks_cons,List.nodup_append]at hn;have hk':k<j.ts.length:=hk;have h':(j.ts.getD k t0).l'=who:=h;have hmem:who∈wkT j.ts:=(mem_wkT hw).2 ⟨j.ts.getD k t0,by rw[tu,tw hk'];simp,h'⟩;have hout:∀x∈l,∀t∈x.ts,t.l'≠who:=fun x hx t ht e=>hn.2.2 who hmem who ((mem_wks hw).2 ⟨x,hx,t,ht,e⟩) rfl;rw[List.map_cons,freeJ_out hout];unfold setT freeJ;rw[free_in hw hn.1 hk' h']
  rfl
 | j::l,i+1,k,hn,hi,hk,h=>by
  rw[wks_cons,List.nodup_append]at hn;have hi':i<l.length:=(by simpa using hi);have hk':k<(l.getD i j0).ts.length:=hk;have h':((l.getD i j0).ts.getD k t0).l'=who:=h;have hmem:who∈wks l:=(mem_wks hw).2 ⟨l.getD i j0,getD_mem hi',(l.getD i j0).ts.getD k t0,getD_mem hk',h'⟩;have hout:∀t∈j.ts,t.l'≠who:=fun t ht e=>hn.2.2 who ((mem_wkT hw).2 ⟨t,ht,e⟩) who hmem rfl;rw[List.map_cons,free_js hw hn.2.1 hi' hk' h'];unfold setT freeJ;rw[free_out hout]
  rfl
theorem bn_rise:∀{bs:List Int} {last:Int},bnGo last bs=true→(∀x∈bs,last<x∧wkOk x=true)∧bs.Pairwise (·< ·)
 | [],_,_=>⟨fun x hx=>by simp at hx,List.Pairwise.nil⟩
 | y::l,last,h=>by
  unfold bnGo at h;simp only[tZ,decide_eq_true_eq]at h;obtain⟨h1,h2⟩:=bn_rise h.2;refine⟨fun x hx=>?_,List.pairwise_cons.2 ⟨fun x hx=>(h1 x hx).1,h2⟩⟩
  rcases List.mem_cons.1 hx with rfl | hx
  ·exact⟨h.1.1,h.1.2⟩
  ·exact⟨by have:=(h1 x hx).1;omega,(h1 x hx).2⟩
theorem wk_mem:x∈([1,2,3,4,5,6,7,8,9]:List Int)↔wkOk x=true:=by
 unfold wkOk;simp only[List.mem_cons,List.not_mem_nil,or_false,tZ,decide_eq_true_eq];omega
theorem mem_banned:x∈banned bs who↔wkOk x=true∧(x=who∨x∈bs):=by
 unfold banned;rw[List.mem_filter,wk_mem];simp
theorem banned_pw(bs:List Int)(who:Int):(banned bs who).Pairwise (·< ·):=List.Pairwise.filter _ (by decide)
theorem banned_sorted{srt:List Int}(hb:bnGo 0 bs=true)(hw:wkOk who=true)(hn:bs.contains who=false)(hs:srt.Pairwise (·≤·))(hp:srt.Perm (bs++[who])):srt=banned bs who:=by
 obtain⟨h1,h2⟩:=bn_rise hb;have Aa:who∉bs:=by simpa using hn
 have nd:(bs++[who]).Nodup:=by
  rw[List.nodup_append];exact⟨h2.imp (fun h=>by omega),by simp,fun a ha b hb e=>Aa (by simp at hb;rw[←hb,←e];exact ha)⟩
 have nb:(banned bs who).Nodup:=(banned_pw bs who).imp (fun h=>by omega)
 have Ba:(bs++[who]).Perm (banned bs who):=(List.perm_ext_iff_of_nodup nd nb).2 fun x=>by
  rw[mem_banned,tI,List.mem_singleton]
  constructor
  ·
   rintro(h | rfl)
   ·exact⟨(h1 x h).2,.inr h⟩
   ·exact⟨hw,.inl rfl⟩
  ·
   rintro⟨_,rfl | h⟩
   ·exact .inr rfl
   ·exact .inl h
 exact List.Perm.eq_of_pairwise (le:=(·≤·)) (fun a b _ _ h h'=>by omega) hs ((banned_pw bs who).imp (fun h=>by omega)) (hp.trans Ba)
end M
end Go.Proofs.YtjcjonncaknhnaaGreatDoor
