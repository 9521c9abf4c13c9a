import Derived.Test.YtjcjonncaknhnaaGreatDoorPk03
namespace Go.Proofs.YtjcjonncaknhnaaGreatDoor
open Go.RowKit Go.Proofs.Tryz
set_option linter.unusedSimpArgs false
set_option maxHeartbeats 32000000
variable {ab aj a ai:Option Addr}{nb cb nj cj n c mb b i' cap g h ni ci:Nat}{js:List M.Jb}{zs bs:List Int}{now uB who x:Int}{w w':World}{o:Oper}{ts:List M.Tk}{k t e:TypeId}{v:Value}{l:List (Int×Value)}{row:Option Nat}{P:Program}{ops:Array Oper}{K:Act→World→Prop}{Q:Exit→Act→World→Prop}{E:Prop}{S:World→Prop}{md:Region.Mode}
set_option maxRecDepth 10000 in
theorem qB(now uB:Int)(h0:0≤now)(h1:now≤1000000000)(g0:1≤uB)(g1:uB≤1000000000)(w:World)(hz:ep w aj nj cj js):
  Rt 52 #[.agg #[.int .i64 now,.int .i64 uB,.slice ab nb cb,.slice aj nj cj]] w (.bool (decide (nj≤6)&&M.jsGo now uB 0 js)):=by
 have bn:(nj:Int)≤9223372036854775807:=(by have:=hz.big;have:=hz.le;omega);have HZ:=Hd hz;have Ka:=ct w (aI now uB ab nb cb aj nj cj) 27;have Ia:H9 (m1 w (w.alloc (.cells (aI now uB ab nb cb aj nj cj).toArray 27))):=(m5 _ _).alloc (m3 _) _;clear hz;by_cases hs:nj≤6
 ·
  have Xa:(nj:Int)≤6:=(by omega);rw[show decide (nj≤6)=true by simpa using hs,Bool.true_and];generalize hR:M.jsGo now uB 0 js=R;have HR:=Hd hR;clear hR;go_enter func52,ntmps52;go_wp2
  go_loopw [3,13] (fun l i wr=>∃(j:Nat) (q:Int),j≤nj∧i=it j∧l=it q∧0≤q∧q≤1000000000∧M.jsGo now uB q (js.drop j)=R∧au wr w.heap.size (aI now uB ab nb cb aj nj cj)∧m1 w wr) (fun _ i _=>nj-(intOf i).toNat)
  case atStart=>exact⟨0,0,by omega,rfl,rfl,by omega,by omega,HR.o,Ka.o,Ia.o⟩
  case round=>
   obtain⟨j,q,hj,rfl,rfl,Fb,Gb,hg,La,Na⟩:=hrel;have Ea:=Hd Na;have Oa:=Hd La;clear Na La Ka Ia HR;by_cases Pa:j<nj
   ·
    obtain⟨b1,o1,rfl,Qa⟩:=(HZ.o.below Ea.o).at (by omega);obtain⟨ta,tc,hA,hT⟩:=Qa j Pa;have hI:(j:Int)<(nj:Int):=by omega
    have hG:(((decide (q+1≤(js.getD j M.j0).id)&&decide ((js.getD j M.j0).id≤uB-1))&&M.jbOk now (js.getD j M.j0))&&M.jsGo now uB (js.getD j M.j0).id (js.drop (j+1)))=R:=by
     rw[←hg,aY M.j0 HZ.o.len Pa];rfl
    generalize js.getD j M.j0=cq at hA hT hG;obtain⟨Aa,⟨⟨a,b,c',d,f,k⟩,⟨a',b',Ba,d',f',k'⟩⟩,⟨s1,s2⟩,jr,jg,tl⟩:=cq;dsimp only at hT hG;have hR:wr.rangeAt b1 (o1+j*18) (eN ⟨Aa,⟨⟨a,b,c',d,f,k⟩,⟨a',b',Ba,d',f',k'⟩⟩,(s1,s2),jr,jg,tl⟩ ta tc):=ch rfl hA;have HT:=Hd hT;have C2:∀W,bW W ta tl.length tc tl→Rt 110 #[.agg (eN ⟨Aa,⟨⟨a,b,c',d,f,k⟩,⟨a',b',Ba,d',f',k'⟩⟩,(s1,s2),jr,jg,tl⟩ ta tc).toArray,it now] W (.bool (M.jbOk now ⟨Aa,⟨⟨a,b,c',d,f,k⟩,⟨a',b',Ba,d',f',k'⟩⟩,(s1,s2),jr,jg,tl⟩)):=fun W h=>rX Aa a b c' d f k a' b' Ba d' f' k' s1 s2 jr jg now h0 h1 W h;have C1:=cF Aa (q+1) (uB-1);dsimp only[eN]at hR C2;generalize M.jbOk now ⟨Aa,⟨⟨a,b,c',d,f,k⟩,⟨a',b',Ba,d',f',k'⟩⟩,(s1,s2),jr,jg,tl⟩=Ya at hG C2;generalize tl.length=tn at hR HT C2;generalize Ca:(decide (q+1≤Aa)&&decide (Aa≤uB-1))=Za at hG C1;have Ab:=Hd Ca;have HG:=Hd hG;clear Qa hA hT hg hG Ca;(go_wp2_with(with_reducible refine aA 16 ?_ ?_;rfl));with_reducible refine fE 45 b1 (o1+j*18) (ce Aa a b c' d f k a' b' Ba d' f' k' s1 s2 jr jg ta tn tc) hR underlying45 ?q5 ?_
    case q5=>exact⟨rfl,rfl,by kernel_rfl,_,rfl,by kernel_rfl⟩
    have Ra:=Hd Oa.o;have Ja:=Hd Ea.o;have Sa:=Hd HT.o;clear Oa Ea HT hR;(go_wp2_with(with_reducible refine aA 5 ?_ ?_;rfl));show wpList _ _ _ _ _ _;have Ta:(Instr.alloc 45 true (.tuple #[])).run prog wr=.ok (.pointer (some ⟨wr.heap.size,0,none⟩)) (wr.alloc (.cells cD.toArray 45)):=(by kernel_rfl);with_reducible refine bF ?qg 45 ?qo cD.toArray Ta ?_
    case qg | qo=>exact rfl
    clear Ta;show wpList _ _ _ _ _ _;with_reducible refine Hx (fq 45 wr.heap.size 0 (ce Aa a b c' d f k a' b' Ba d' f' k' s1 s2 jr jg ta tn tc) ?q6 ?q5 ?_)
    case q6=>exact(aO _ _ _).there _ 18 (by simp)
    case q5=>exact⟨rfl,by kernel_rfl,by kernel_rfl,_,_,rfl,by kernel_rfl,by kernel_rfl⟩
    have Fa:m1 wr ((wr.alloc (.cells cD.toArray 45)).setCells wr.heap.size 0 (ce Aa a b c' d f k a' b' Ba d' f' k' s1 s2 jr jg ta tn tc)):=aM _ _ ((m5 _ _).alloc (m3 _) _) (m3 _);have Ga:=Ra.b Fa;have Ha:=Ja.t Fa;have Ua:=Hd (Sa.o.below Fa);clear Ra Ja Sa;clear Fa;have Da:H9 (au ((wr.alloc (.cells cD.toArray 45)).setCells wr.heap.size 0 (ce Aa a b c' d f k a' b' Ba d' f' k' s1 s2 jr jg ta tn tc)) wr.heap.size (ce Aa a b c' d f k a' b' Ba d' f' k' s1 s2 jr jg ta tn tc)):=(aO wr cD.toArray 45).setCells (ce Aa a b c' d f k a' b' Ba d' f' k' s1 s2 jr jg ta tn tc) 0 (by simp);generalize((wr.alloc (.cells cD.toArray 45)).setCells wr.heap.size 0 (ce Aa a b c' d f k a' b' Ba d' f' k' s1 s2 jr jg ta tn tc))=w2 at *;generalize wr.heap.size=jb at Da ⊢;have I:=Ga.c 1;have x0:=Da.c 0;(go_wp2_with fail);clear I x0;refine(C1 _).mono ?_;rintro e wz ⟨rfl,Va⟩;have Bb:=Va.symm;clear Va;subst Bb
    cases Za with
    | false=>
     go_wp2;go_ret;exact⟨aD HG.o,Ha.o⟩
    | true=>
     have Ca:=Ab.o;simp only[uU,decide_eq_true_eq]at Ca;obtain⟨Hb,Ib⟩:=Ca;(go_wp2_with(with_reducible refine aA 25 ?_ ?_;rfl));show wpList _ _ _ _ _ _;with_reducible refine cn ?qg (.bool false) w2 ?qrun ?_
     case qg | qrun=>exact rfl
     show wpList _ _ _ _ _ _;with_reducible refine cn ?qg (.bool false) w2 ?qrun ?_
     case qg | qrun=>exact rfl
     show wpList _ _ _ _ _ _;have iL:(prog.info? 45).map (·.size)=some ((ce Aa a b c' d f k a' b' Ba d' f' k' s1 s2 jr jg ta tn tc):List Value).length:=(show(prog.info? 45).map (·.size)=some 18 by kernel_rfl);with_reducible refine bK ?qw 45 ?qlw ?qo jb 0 ?qhx (ce Aa a b c' d f k a' b' Ba d' f' k' s1 s2 jr jg ta tn tc) _ Da.o.row underlying45 ?qd iL ?_
     case qw | qo | qhx | qd=>exact rfl
     clear iL;show wpList _ _ _ _ _ _;have m0:=Ga.c 0;(go_wp2_with fail);clear m0;refine(C2 _ Ua.o).mono ?_;rintro e w3 ⟨rfl,hb⟩;have Cb:=Ga.b hb;have Wa:=Ha.t hb;have Db:=Da.b hb;clear Ga Ha Ua Da;clear hb
     cases Ya with
     | false=>
      go_wp2;go_ret;exact⟨aD HG.o,Wa.o⟩
     | true=>
      have Eb:H9 (M.jsGo now uB Aa (js.drop (j+1))=R):=(by show _=_;have:=HG.o;simpa using this);have x0:=Db.c 0;go_wp2;go_roundw
      case rel=>exact⟨j+1,Aa,by omega,by go_num,rfl,by omega,by omega,Eb.o,Cb.o,Wa.o⟩
      case measure=>simp[intOf];omega
   ·
    go_wp2;go_ret;refine⟨aD ?_,Ea.o⟩;rw[m9 (by rw[HZ.o.len];omega)]at hg;exact hg
 ·
  have Xa:(6:Int)<(nj:Int):=(by omega);rw[show decide (nj≤6)=false by simpa using hs,Bool.false_and];go_enter func52,ntmps52;go_wp2;go_ret;exact⟨rfl,Ia.o⟩
theorem mv(v:Int)(w:World)(hz:aw w a n c zs):
  Calls prog 191 #[.slice a n c,.int .i64 v] w fun e w'=>∃r:Int,e=.returned (.int .i64 r)∧decide (0≤r)=zs.contains v∧w'=w:=by
 have bn:(n:Int)≤9223372036854775807:=(by have:=hz.big;have:=hz.le;omega);have Ea:(n:Int)≤c:=(by have:=hz.le;omega);have HZ:=Hd hz;generalize hR:zs.contains v=R;have HR:=Hd hR;clear hR hz;go_enter func191,ntmps191;go_wp2
 go_loop [8] (fun i=>∃k:Nat,k≤n∧i=it k∧(zs.drop k).contains v=R) (fun i=>n-(intOf i).toNat)
 case atStart=>exact⟨0,by omega,rfl,HR.o⟩
 case round=>
  obtain⟨k,hk,rfl,hg⟩:=hrel;by_cases Aa:k<n
  ·
   obtain⟨b1,o1,rfl,Ba⟩:=HZ.o.at (by omega);have c1:=Ba k Aa
   have hG:(v==zs.getD k 0||(zs.drop (k+1)).contains v)=R:=by
    rw[←hg,aY 0 HZ.o.len Aa,List.contains_cons]
   generalize zs.getD k 0=x at c1 hG;have HG:=Hd hG;clear Ba hg hG;have hI:(k:Int)<(n:Int):=(by omega);by_cases hx:v=x
   ·
    have hb:(v==x)=true:=(by simp[hx]);have Ca:(x==v)=true:=(by simp[hx]);clear hx;go_wp2;go_ret;refine⟨_,rfl,?_,rfl⟩;have:=HG.o;rw[hb,Bool.true_or]at this;rw[←this];simp
   ·
    have hb:(v==x)=false:=(by simp[hx]);have Ca:(x==v)=false:=(by simp;exact fun e=>hx e.symm);have Da:H9 ((zs.drop (k+1)).contains v=R):=(by show _=_;have:=HG.o;rw[hb,Bool.false_or]at this;exact this);clear hx;go_wp2
    go_round
    case rel=>exact⟨k+1,by omega,by go_num,Da.o⟩
    case measure=>simp[intOf];omega
  ·
   go_wp2;go_ret;refine⟨_,rfl,?_,rfl⟩;rw[m9 (by rw[HZ.o.len];omega)]at hg;rw[←hg];rfl
theorem fL(v:Int)(w:World)(hz:aw w a n c zs):
  Rq 113 #[.slice a n c,.int .i64 v] w (.bool (zs.contains v)):=by
 have HZ:=Hd hz;clear hz;go_enter func113,ntmps113;(go_wp2_with fail);refine(mv v _ HZ.o).mono ?_;rintro e wz ⟨r,rfl,hr,rfl⟩;have HR:=Hd hr;clear hr;go_wp2;go_ret;exact⟨aD HR.o,rfl⟩
theorem mw(v:Int)(w:World)(hc:w.cell? ⟨mb,2,none⟩=some (.slice a n c))(hz:aw w a n c zs):
  Rq 112 #[.int .i64 v,.pointer (some ⟨mb,0,none⟩)] w (.bool (zs.contains v)):=by
 have CC:=fL v w hz;generalize zs.contains v=o at *;clear hz;go_enter func112,ntmps112;(go_wp2_with fail);refine CC.mono ?_;rintro e wz ⟨rfl,rfl⟩;go_wp2;go_ret;exact⟨rfl,rfl⟩
theorem jG(w:World)(hc:w.cell? ⟨mb,2,none⟩=some (.slice ab nb cb))(hb:aw w ab nb cb bs)(hz:aw w a n c zs):
  Calls prog 192 #[.slice a n c,.func (.func 112) #[] #[.pointer (some ⟨mb,0,none⟩)]] w fun e w'=>∃r:Int,e=.returned (.int .i64 r)∧decide (0≤r)=zs.any (fun x=>bs.contains x)∧w'=w:=by
 have bn:(n:Int)≤9223372036854775807:=(by have:=hz.big;have:=hz.le;omega);have Fa:(n:Int)≤c:=(by have:=hz.le;omega);have HZ:=Hd hz;have HC:H9 (∀v,Rq 112 #[it v,.pointer (some ⟨mb,0,none⟩)] w (.bool (bs.contains v))):=fun v=>mw v w hc hb;generalize hR:zs.any (fun x=>bs.contains x)=R;have HR:=Hd hR;clear hR hz hb hc;go_enter func192,ntmps192;go_wp2
 go_loop [8] (fun i=>∃k:Nat,k≤n∧i=it k∧(zs.drop k).any (fun x=>bs.contains x)=R) (fun i=>n-(intOf i).toNat)
 case atStart=>exact⟨0,by omega,rfl,HR.o⟩
 case round=>
  obtain⟨k,hk,rfl,hg⟩:=hrel;by_cases Aa:k<n
  ·
   obtain⟨b1,o1,rfl,Ba⟩:=HZ.o.at (by omega);have c1:=Ba k Aa
   have hG:(bs.contains (zs.getD k 0)||(zs.drop (k+1)).any (fun x=>bs.contains x))=R:=by
    rw[←hg,aY 0 HZ.o.len Aa,List.any_cons]
   have C1:=HC.o (zs.getD k 0);generalize zs.getD k 0=x at c1 hG C1;generalize bs.contains x=ob at hG C1;have HG:=Hd hG;clear Ba hg hG;have hI:(k:Int)<(n:Int):=(by omega);(go_wp2_with fail);refine C1.mono ?_;rintro e wz ⟨rfl,Ca⟩;have Da:=Ca.symm;clear Ca;subst Da
   cases ob with
   | true=>
    go_wp2;go_ret;refine⟨_,rfl,?_,rfl⟩;have:=HG.o;rw[Bool.true_or]at this;rw[←this];simp
   | false=>
    have Ea:H9 ((zs.drop (k+1)).any (fun x=>bs.contains x)=R):=(by show _=_;have:=HG.o;rw[Bool.false_or]at this;exact this);go_wp2
    go_round
    case rel=>exact⟨k+1,by omega,by go_num,Ea.o⟩
    case measure=>simp[intOf];omega
  ·
   go_wp2;go_ret;refine⟨_,rfl,?_,rfl⟩;rw[m9 (by rw[HZ.o.len];omega)]at hg;rw[←hg];rfl
theorem hU(w:World)(hc:w.cell? ⟨mb,2,none⟩=some (.slice ab nb cb))(hb:aw w ab nb cb bs)(hz:aw w a n c zs):
  Rq 115 #[.slice a n c,.func (.func 112) #[] #[.pointer (some ⟨mb,0,none⟩)]] w (.bool (zs.any (fun x=>bs.contains x))):=by
 have CI:=jG w hc hb hz;generalize zs.any (fun x=>bs.contains x)=o at *;clear hc hb hz;go_enter func115,ntmps115;(go_wp2_with fail);refine CI.mono ?_;rintro e wz ⟨r,rfl,hr,rfl⟩;have HR:=Hd hr;clear hr;go_wp2;go_ret;exact⟨aD HR.o,rfl⟩
theorem lz(ts:List M.Tk):(M.wkT ts).length≤ts.length:=by unfold M.wkT;rw[List.length_map];exact List.length_filter_le _ _
theorem lA:∀js:List M.Jb,(∀j∈js,j.ts.length≤8)→(M.wks js).length≤8*js.length
 | [],_=>by simp[M.wks]
 | j::js,h=>by
  have h1:=lA js fun q hq=>h q (List.mem_cons_of_mem _ hq);have h2:=lz j.ts;have h3:=h j List.mem_cons_self;have e:M.wks (j::js)=M.wkT j.ts++M.wks js:=(by simp[M.wks]);rw[e,uW,List.length_cons];omega
theorem ix:∀{js:List M.Jb} {last:Int},M.jsGo now uB last js=true→∀j∈js,j.ts.length≤8
 | [],_,_,_,h=>by cases h
 | q::js,last,h,j,hj=>by
  unfold M.jsGo M.jbOk at h;simp only[uU,decide_eq_true_eq]at h
  rcases List.mem_cons.1 hj with e | e
  ·rw[e];exact h.1.2.1.2.2.2.2.1
  ·exact ix h.2 j e
theorem pS{j:Nat}(hl:js.length=n)(h:j<n):M.wks (js.take (j+1))=M.wks (js.take j)++M.wkT (js.getD j M.j0).ts:=by
 unfold M.wks;rw[uI (by omega),List.flatMap_append,m4,m6 (by omega)]
 congr 1
 rw[uY,List.flatMap_nil,List.append_nil];rfl
theorem jy{o:Nat}{cs:List Value}(h:w.rangeAt b o cs)(hb:m1 w w'):w'.rangeAt b o cs:=fun j v hv=>(hb.cell (p:=⟨b,o+j,none⟩) (uP w _ (h j v hv))).trans (h j v hv)
theorem pR{k:Nat}(hl:ts.length=n)(h:k<n):M.wkT (ts.take (k+1))=M.wkT (ts.take k)++(if M.leased (ts.getD k M.t0)=true then[(ts.getD k M.t0).l']else[]):=by
 rw[uI (by omega),m4,m6 (by omega)];unfold M.wkT;rw[List.filter_append,uX]
 congr 1
 by_cases e:M.leased ts[k]=true <;> simp[e]
theorem aC.count(h:aC t w i' a n cap zs):zs.length=n:=by
 have:=h.1;rw[List.length_map]at this;omega
def ut(w1:World)(ws:List Int)(l:Value)(wr:World):Prop:=∃(a:Option Addr) (m c:Nat),l=.slice a m c∧aC 2 wr w1.heap.size a m c ws∧m1 w1 wr
set_option maxRecDepth 10000 in
theorem mC(now uB:Int)(w:World)(hz:cH w ab nb cb aj nj cj bs js)(hj6:nj≤6)(ht8:∀j∈js,j.ts.length≤8):
  Rt 53 #[.agg #[.int .i64 now,.int .i64 uB,.slice ab nb cb,.slice aj nj cj]] w (.bool (decide (M.wks js).Nodup&&!(M.wks js).any (fun x=>bs.contains x))):=by
 have bn:(nj:Int)≤9223372036854775807:=(by omega);have Tb:=hz.j.len;have Ub:=ct w (aI now uB ab nb cb aj nj cj) 27;have Oa:H9 (m1 w (w.alloc (.cells (aI now uB ab nb cb aj nj cj).toArray 27))):=(m5 _ _).alloc (m3 _) _;have Va:=Hd (hz.below Oa.o)
 have Vb:H9 (∀j,j≤nj→(M.wks (js.take j)).length≤8*j):=fun j hj=>by
  have:=lA (js.take j) fun q hq=>ht8 q (List.mem_of_mem_take hq);rw[uZ]at this;omega
 have Wb:H9 (∀j,(js.getD j M.j0).ts.length≤8):=fun j=>by
  rw[m4];by_cases h:j<js.length
  ·rw[m6 h];exact ht8 _ (List.getElem_mem h)
  ·rw[List.getElem?_eq_none (by omega)];exact Nat.zero_le _
 have HI:H9 (∃i0,prog.info? 2=some i0∧i0.zero=some (it 0)∧i0.size=1∧i0.bytes=8):=by
  obtain⟨i0,h1,h2,h3,h4⟩:=info_parts bJ;exact⟨i0,h1,h2,h3,h4⟩
 generalize hN:decide (M.wks js).Nodup=oN;have HN:=Hd hN;generalize hAn:(M.wks js).any (fun x=>bs.contains x)=oA;have Xb:=Hd hAn;clear hz ht8 hN hAn;go_enter func53,ntmps53;go_wp2;generalize(w.alloc (.cells (aI now uB ab nb cb aj nj cj).toArray 27))=w1 at *
 go_loopw [3,12] (fun l i wr=>∃j:Nat,j≤nj∧i=it j∧ut w1 (M.wks (js.take j)) l wr) (fun _ i _=>nj-(intOf i).toNat)
 case atStart=>exact⟨0,by omega,rfl,none,0,0,rfl,⟨rfl,.inl ⟨rfl,rfl⟩⟩,m5 _ _⟩
 case round=>
  obtain⟨j,hj,rfl,al,ml,cl,rfl,Wa,Xa⟩:=hrel;have Da:=Hd Xa;have Fa:=Hd Wa;clear Xa Wa;by_cases Ya:j<nj
  ·
   obtain⟨b1,o1,rfl,Za⟩:=Va.o.j.at (by omega);obtain⟨ta,tc,hA,hT⟩:=Za j Ya;have hI:(j:Int)<(nj:Int):=(by omega);have HW:=Hd (pS Tb Ya);have h9:=Wb.o j;have h8:=Vb.o j hj;generalize js.getD j M.j0=cq at hA hT HW h9;obtain⟨Aa,⟨⟨a,b,c',d,f,k⟩,⟨a',b',Ba,d',f',k'⟩⟩,⟨s1,s2⟩,jr,jg,tl⟩:=cq;dsimp only at hT HW h9;have hR:wr.rangeAt b1 (o1+j*18) (eN ⟨Aa,⟨⟨a,b,c',d,f,k⟩,⟨a',b',Ba,d',f',k'⟩⟩,(s1,s2),jr,jg,tl⟩ ta tc):=jy (ch rfl hA) Da.o;have HT:=Hd hT;dsimp only[eN]at hR;generalize Ab:tl.length=tn at hR HT h9;have Bb:=Hd Ab;clear Za hA hT Ab;(go_wp2_with(with_reducible refine aA 15 ?_ ?_;rfl));with_reducible refine fE 45 b1 (o1+j*18) (ce Aa a b c' d f k a' b' Ba d' f' k' s1 s2 jr jg ta tn tc) hR underlying45 ?q5 ?_
   case q5=>exact⟨rfl,rfl,by kernel_rfl,_,rfl,by kernel_rfl⟩
   have Ca:=Hd Da.o;have Ga:=Hd Fa.o;clear Da Fa hR;(go_wp2_with(with_reducible refine aA 5 ?_ ?_;rfl));show wpList _ _ _ _ _ _;have Cb:(Instr.alloc 45 true (.tuple #[])).run prog wr=.ok (.pointer (some ⟨wr.heap.size,0,none⟩)) (wr.alloc (.cells cD.toArray 45)):=(by kernel_rfl);with_reducible refine bF ?qg 45 ?qo cD.toArray Cb ?_
   case qg | qo=>exact rfl
   clear Cb;show wpList _ _ _ _ _ _;with_reducible refine Hx (fq 45 wr.heap.size 0 (ce Aa a b c' d f k a' b' Ba d' f' k' s1 s2 jr jg ta tn tc) ?q6 ?q5 ?_)
   case q6=>exact(aO _ _ _).there _ 18 (by simp)
   case q5=>exact⟨rfl,by kernel_rfl,by kernel_rfl,_,_,rfl,by kernel_rfl,by kernel_rfl⟩
   have Ea:m1 wr ((wr.alloc (.cells cD.toArray 45)).setCells wr.heap.size 0 (ce Aa a b c' d f k a' b' Ba d' f' k' s1 s2 jr jg ta tn tc)):=aM _ _ ((m5 _ _).alloc (m3 _) _) (m3 _);have Ha:=Ca.t Ea;have Ia:=Hd (Ga.o.below Ea);clear Ca Ga;clear Ea;have Pa:H9 (au ((wr.alloc (.cells cD.toArray 45)).setCells wr.heap.size 0 (ce Aa a b c' d f k a' b' Ba d' f' k' s1 s2 jr jg ta tn tc)) wr.heap.size (ce Aa a b c' d f k a' b' Ba d' f' k' s1 s2 jr jg ta tn tc)):=(aO wr cD.toArray 45).setCells (ce Aa a b c' d f k a' b' Ba d' f' k' s1 s2 jr jg ta tn tc) 0 (by simp);generalize((wr.alloc (.cells cD.toArray 45)).setCells wr.heap.size 0 (ce Aa a b c' d f k a' b' Ba d' f' k' s1 s2 jr jg ta tn tc))=w2 at *;generalize wr.heap.size=jb at Pa ⊢;have Yb:=Pa.c 17;have Ec:(tn:Int)≤8:=(by omega);go_wp2;clear Yb;clear Pa
   go_loopw [3,19] (fun l i wr=>∃p:Nat,p≤tn∧i=it p∧ut w1 (M.wks (js.take j)++M.wkT (tl.take p)) l wr) (fun _ i _=>tn-(intOf i).toNat)
   case atStart=>exact⟨0,by omega,rfl,al,ml,cl,rfl,by rw[List.take_zero,show M.wkT []=[]from rfl,List.append_nil];exact Ia.o,Ha.o⟩
   case round=>
    obtain⟨p,hp,rfl,ai,mi,ci,rfl,Qa,Ra⟩:=hrel;clear Ia Ha;have Ca:=Hd Ra;have Ga:=Hd Qa;have Db:=HT.o.below Ra;have Eb:=Qa.count;rw[uW]at Eb;have Fb:=lz (tl.take p);rw[uZ]at Fb;clear Qa Ra;have Fc:mi≤100:=(by omega);clear Eb Fb;by_cases Gb:p<tn
    ·
     obtain⟨b2,o2,rfl,Hb⟩:=Db.at (by omega);have hA:=Hb p Gb;have Gc:(p:Int)<(tn:Int):=(by omega);have Ja:=Hd (pR Bb.o Gb);have C1:=dY (tl.getD p M.t0);generalize tl.getD p M.t0=x at hA Ja C1;obtain⟨td,x,y⟩:=x;dsimp only[lO]at C1 Ja;generalize M.leased ⟨td,x,y⟩=ow at C1 Ja;have a0:wr.cell? ⟨b2,o2+p*3,none⟩=some (.bool td):=hA 0 (by omega);have a1:wr.cell? ⟨b2,o2+p*3+1,none⟩=some (it x):=hA 1 (by omega);have a2:wr.cell? ⟨b2,o2+p*3+2,none⟩=some (it y):=hA 2 (by omega);clear Hb hA Db;have Ea:=eK wr (.cells (eG td x y).toArray 47);have Ha:=Ca.t Ea;have Ia:=Hd (Ga.o.below Ea);clear Ca Ga;clear Ea;have Sa:=ct wr (eG td x y) 47;(go_wp2_with fail);clear a0 a1 a2;generalize(wr.alloc (.cells (eG td x y).toArray 47))=w3 at *;generalize wr.heap.size=tb at Sa ⊢;refine(C1 _).mono ?_;rintro e w5 ⟨rfl,hb⟩;have Ta:=Ha.t hb;have La:=Hd (Ia.o.below hb);have Zb:=Sa.b hb;clear Ha Ia Sa;clear hb
     cases ow with
     | false=>
      have Na:H9 (M.wks (js.take j)++M.wkT (tl.take p)=M.wks (js.take j)++M.wkT (tl.take (p+1))):=(by show _=_;rw[Ja.o,if_neg (by decide),List.append_nil]);go_wp2;go_roundw
      case rel=>exact⟨p+1,by omega,by go_num,ai,mi,ci,rfl,by rw[←Na.o];exact La.o,Ta.o⟩
      case measure=>simp[intOf];omega
     | true=>
      have Na:H9 (M.wks (js.take j)++M.wkT (tl.take p)++[x]=M.wks (js.take j)++M.wkT (tl.take (p+1))):=(by show _=_;rw[Ja.o,if_pos rfl,List.append_assoc]);generalize M.wks (js.take j)++M.wkT (tl.take p)=ws at Na La;obtain⟨i0,hi,Ib,Kb,Lb⟩:=HI.o;have Nb:=Ta.o.size;have Ac:=Zb.c 1;(go_wp2_with(at_builtin;refine wpList_append_own _ rfl _ _ 24 rfl w1.heap.size 2 i0 (it 0) 1 8 underlying24 hi Ib Kb Lb rfl (by decide) _ mi (ws.map (Value.int .i64)) rfl (vg La.o _) ⟨w5.heap.size,0,none⟩ 1 1 [it x] rfl rfl (bB w5 x _) (bZ x) (by unfold maxLen;omega) (by omega) (by simp;omega) ?_));intro v' w6 Ob Pb _;have hown':w6.ownsRow w1.heap.size 2 1 v' (mi+1) ((ws++[x]).map (Value.int .i64)):=(by rw[uX];exact Ob);obtain⟨a',Qb,rfl,Rb⟩:=aC.form hown';have HO':=Hd Rb;have HB':=Hd (eU Ta.o ((uK w5 _ _).trans Pb) Nb (fun q hq=>(uH La.o q hq).1));clear Ob hown' Pb Rb hi Ib Kb Lb Ac Nb;rw[Na.o]at HO';go_wp2;go_roundw
      case rel=>exact⟨p+1,by omega,by go_num,a',mi+1,Qb,rfl,HO'.o,HB'.o⟩
      case measure=>simp[intOf];omega
    ·
     have Bc:p=tn:=(by omega);subst Bc;have Cc:H9 (M.wks (js.take j)++M.wkT (tl.take p)=M.wks (js.take (j+1))):=(by have e:=uD (Nat.le_of_eq Bb.o);show _=_;rw[HW.o,e]);go_wp2;go_roundw
     case rel=>exact⟨j+1,by omega,by go_num,ai,mi,ci,rfl,by rw[←Cc.o];exact Ga.o,Ca.o⟩
     case measure=>simp[intOf];omega
  ·
   have Dc:j=nj:=(by omega);subst Dc;have hW:M.wks (js.take j)=M.wks js:=(by rw[uD (by omega)]);rw[hW]at Fa;have C1:=kF wr Fa.o.sees;have C2:=hU wr ((Ub.o.belowS Da.o).at 2) (Va.o.b.below Da.o) Fa.o.sees;rw[HN.o]at C1;rw[Xb.o]at C2;have Sb:=Hd (Oa.o.trans (Da.o.mono Oa.o.size));clear hW Fa Da;(go_wp2_with fail);refine C1.mono ?_;rintro e wz ⟨rfl,Ka⟩;have Ua:=Ka.symm;clear Ka;subst Ua
   cases oN with
   | false=>
    go_wp2;go_ret;exact⟨rfl,Sb.o⟩
   | true=>
    (go_wp2_with fail);refine C2.mono ?_;rintro e wz ⟨rfl,Ka⟩;have Ua:=Ka.symm;clear Ka;subst Ua;go_wp2;go_ret;exact⟨rfl,Sb.o⟩
set_option maxRecDepth 10000 in
theorem fe(now uB:Int)(w:World)(hz:cH w ab nb cb aj nj cj bs js):
  Rt 15 #[.agg #[.int .i64 now,.int .i64 uB,.slice ab nb cb,.slice aj nj cj]] w (.bool (M.mkOk now uB bs js)):=by
 have Ga:=hz.j.len;have HM:=Hd hz;have C1:=cF now 0 1000000000;have C2:=cF uB 1 1000000000;have C3:∀W,aw W ab nb cb bs→Rq 51 #[.slice ab nb cb] W (.bool (M.bnGo 0 bs)):=fun W h=>mf W h
 have C4:H9 ((decide (0≤now)&&decide (now≤1000000000))=true→(decide (1≤uB)&&decide (uB≤1000000000))=true→∀W,ep W aj nj cj js→Rt 52 #[.agg (aI now uB ab nb cb aj nj cj).toArray] W (.bool (decide (nj≤6)&&M.jsGo now uB 0 js))):=fun h1 h2 W h=>by
  simp only[uU,decide_eq_true_eq]at h1 h2;exact qB now uB h1.1 h1.2 h2.1 h2.2 W h
 have C5:H9 ((decide (nj≤6)&&M.jsGo now uB 0 js)=true→∀W,cH W ab nb cb aj nj cj bs js→Rt 53 #[.agg (aI now uB ab nb cb aj nj cj).toArray] W (.bool (decide (M.wks js).Nodup&&!(M.wks js).any (fun x=>bs.contains x)))):=fun h1 W h=>by
  simp only[uU,decide_eq_true_eq]at h1;exact mC now uB W h h1.1 (ix h1.2)
 unfold M.mkOk;rw[Ga];generalize(decide (M.wks js).Nodup&&!(M.wks js).any (fun x=>bs.contains x))=o5 at *;generalize(decide (nj≤6)&&M.jsGo now uB 0 js)=o4 at *;generalize M.bnGo 0 bs=o3 at *;generalize(decide (1≤uB)&&decide (uB≤1000000000))=o2 at *;generalize(decide (0≤now)&&decide (now≤1000000000))=o1 at *;clear hz;go_enter func15,ntmps15;have Aa:=ct w (aI now uB ab nb cb aj nj cj) 27;have Ba:H9 (m1 w (w.alloc (.cells (aI now uB ab nb cb aj nj cj).toArray 27))):=(m5 _ _).alloc (m3 _) _;(go_wp2_with fail);generalize(w.alloc (.cells (aI now uB ab nb cb aj nj cj).toArray 27))=wa at *;refine(C1 _).mono ?_;rintro e wz ⟨rfl,Ca⟩;have Da:=Ca.symm;clear Ca;subst Da
 cases o1 with
 | false=>
  go_wp2;go_ret;exact⟨by simp,Ba.o⟩
 | true=>
  have x1:=Aa.c 1;(go_wp2_with fail);clear x1;refine(C2 _).mono ?_;rintro e wz ⟨rfl,Ca⟩;have Da:=Ca.symm;clear Ca;subst Da
  cases o2 with
  | false=>
   go_wp2;go_ret;exact⟨by simp,Ba.o⟩
  | true=>
   have x2:=Aa.c 2;(go_wp2_with fail);clear x2;refine(C3 _ (HM.o.b.below Ba.o)).mono ?_;rintro e wz ⟨rfl,Ca⟩;have Da:=Ca.symm;clear Ca;subst Da
   cases o3 with
   | false=>
    go_wp2;go_ret;exact⟨by simp,Ba.o⟩
   | true=>
    have x0:=Aa.c 0;have x1:=Aa.c 1;have x2:=Aa.c 2;have x3:=Aa.c 3;(go_wp2_with fail);clear x0 x1 x2 x3;refine(C4.o (by simp) (by simp) _ (HM.o.j.below Ba.o)).mono ?_;rintro e wb ⟨rfl,hb⟩;have Ea:=Aa.b hb;have Fa:=Ba.t hb;clear Aa Ba;clear hb
    cases o4 with
    | false=>
     go_wp2;go_ret;exact⟨by simp,Fa.o⟩
    | true=>
     have x0:=Ea.c 0;have x1:=Ea.c 1;have x2:=Ea.c 2;have x3:=Ea.c 3;(go_wp2_with fail);clear x0 x1 x2 x3;refine(C5.o (by simp) _ (HM.o.below Fa.o)).mono ?_;rintro e wc ⟨rfl,hb⟩;have Ha:=Fa.t hb;clear Ea Fa;clear hb;go_wp2;go_ret;exact⟨by simp,Ha.o⟩
section
open Go.ChangeMaps Go.MapKept
def qM(n:Nat):List (Int×Value)→List MapEntry
 | []=>[]
 | x::l=>⟨it x.1,x.2,n⟩::qM (n+1) l
def fY(k:Int):List (Int×Value)→Option Value
 | []=>none
 | x::l=>if k=x.1 then some x.2 else fY k l
theorem qN(n:Nat)(l:List (Int×Value))(x:Int×Value):qM n (l++[x])=qM n l++[⟨.int .i64 x.1,x.2,n+l.length⟩]:=by
 induction l generalizing n with
 | nil=>rfl
 | cons y l ih=>simp only[List.cons_append,qM,ih,List.length_cons,Nat.add_assoc,Nat.add_comm 1]
theorem eW{k:Int}:∀(l:List (Int×Value)) (n i:Nat),fY k l=none→Instr.findNow (.int .i64) (.int .i64 k) (qM n l) i=some none
 | [],_,_,_=>rfl
 | x::l,n,i,h=>by
  simp only[fY]at h
  split at h
  ·simp at h
  ·
   rename_i hk;simp only[qM,Instr.findNow,Instr.sameNow,if_true];rw[show(k==x.1)=false by simp[hk]];exact eW l (n+1) (i+1) h
theorem gJ{k:Int}:∀(l:List (Int×Value)) (n i:Nat),fY k l=some v→∃j,Instr.findNow (.int .i64) (.int .i64 k) (qM n l) i=some (some (j,v))
 | [],_,_,h=>by simp[fY]at h
 | x::l,n,i,h=>by
  simp only[fY]at h
  split at h
  ·
   rename_i hk;simp only[qM,Instr.findNow,Instr.sameNow,if_true];rw[show(k==x.1)=true by simp[hk]];exact⟨i,by simpa using h⟩
  ·
   rename_i hk;simp only[qM,Instr.findNow,Instr.sameNow,if_true];rw[show(k==x.1)=false by simp[hk]];exact gJ l (n+1) (i+1) h
def bV(w:World)(b:Nat)(l:List (Int×Value)):Prop:=w.heap[b]?=some (.map (qM 0 l).toArray l.length)
theorem bV.lt(h:bV w b l):b<w.heap.size:=by
 rcases Nat.lt_or_ge b w.heap.size with hl | hl
 ·exact hl
 ·unfold bV at h;rw[Array.getElem?_eq_none hl]at h;simp at h
theorem rW(w:World):bV (w.alloc (.map #[] 0)) w.heap.size []:=by
 show(w.heap.push _)[w.heap.size]?=_;simp[qM]
theorem bV.below(h:bV w b l)(hb:m1 w w'):bV w' b l:=(hb.block b h.lt).trans h
theorem bV.grown(h:bV w b l)(hg:w.grownBy w' row)(hne:row≠some b):bV w' b l:=(hg.block b h.lt (fun e=>hne e.symm)).trans h
theorem bV.alloc(h:bV w b l)(o:Obj):bV (w.alloc o) b l:=h.grown (uK w o none) (by simp)
theorem bV.setCell(h:bV w b l)(p:Addr)(v:Value):bV (w.setCell p v) b l:=by
 unfold bV at h ⊢;by_cases e:p.block=b
 ·
  subst e;simp[World.setCell,Array.getElem?_modify,h]
 ·simp[World.setCell,Array.getElem?_modify,h,e]
theorem bV.put(h:bV w b l)(ht:P.underlying t=some (.map k e))(hk:P.underlying k=some (.int .i64))(key:Int)(v:Value)(hn:fY key l=none):
  ∃w',(Instr.mapUpdate t (.map (some b)) (.int .i64 key) v).run P w=.ok () w'∧bV w' b (l++[(key,v)])∧w.grownBy w' (some b):=by
 have hf:(Instr.findKey k (it key) (qM 0 l)).run P w=.ok none w:=by
  simp[Instr.findKey,run_underlying hk,eW l 0 0 hn,Result.andThen]
 refine⟨setBlock w b (.map ((qM 0 l).toArray.push ⟨it key,v,l.length⟩) (l.length+1)),?_,?_,⟨rfl,rfl,rfl,by simp[setBlock],fun i _ hi=>heap_setBlock_other h _ (fun e=>hi (by rw[e]))⟩⟩
 ·simp[Instr.mapUpdate,run_underlying ht,MapKept.run_getObj_map h,run_checkKey hk (show IsKey (.int .i64) (it key)from rfl) false 9999,hf,MapKept.run_setObj_map _ h,Result.andThen,setBlock]
 ·
  unfold bV;rw[heap_setBlock_same h,qN,Nat.zero_add];simp
theorem bV.get(h:bV w b l)(ht:P.underlying t=some (.map k e))(hk:P.underlying k=some (.int .i64))(key:Int)(v:Value)(hn:fY key l=some v)(ok:Bool):
  (Instr.lookup t (.map (some b)) (.int .i64 key) ok).run P w=.ok (if ok then .tuple #[v,.bool true]else v) w:=by
 obtain⟨j,hj⟩:=gJ l 0 0 hn
 have hf:(Instr.findKey k (it key) (qM 0 l)).run P w=.ok (some (j,v)) w:=by
  simp[Instr.findKey,run_underlying hk,hj,Result.andThen]
 cases ok <;> simp[Instr.lookup,run_underlying ht,MapKept.run_getObj_map h,run_checkKey hk (show IsKey (.int .i64) (it key)from rfl) _ 9999,hf,Result.andThen]
theorem bV.miss(h:bV w b l)(ht:P.underlying t=some (.map k e))(hk:P.underlying k=some (.int .i64))(key:Int){z:Value}(hz:(zeroValue e).run P w=.ok z w)(hn:fY key l=none)(ok:Bool):
  (Instr.lookup t (.map (some b)) (.int .i64 key) ok).run P w=.ok (if ok then .tuple #[z,.bool false]else z) w:=by
 have hf:(Instr.findKey k (it key) (qM 0 l)).run P w=.ok none w:=by
  simp[Instr.findKey,run_underlying hk,eW l 0 0 hn,Result.andThen]
 cases ok <;> simp[Instr.lookup,run_underlying ht,MapKept.run_getObj_map h,run_checkKey hk (show IsKey (.int .i64) (it key)from rfl) _ 9999,hf,hz,Result.andThen]
end
theorem aU(w:World)(p:Addr)(v:Value):w.grownBy (w.setCell p v) (some p.block):=
 ⟨rfl,rfl,rfl,by simp[World.setCell],fun i _ hi=>by
  have he:p.block≠i:=fun e=>hi (by rw[e]);simp[World.setCell,Array.getElem?_modify,he]⟩
theorem bv(hb:m1 w w')(row:Option Nat):w.grownBy w' row:=⟨hb.os,hb.tape,hb.output,hb.size,fun k hk _=>hb.block k hk⟩
theorem ap{B:Nat}(h:w.grownBy w' row)(hB:B≤w.heap.size)(hr:∀z,row=some z→B≤z):Below B w w':=
 ⟨h.os,h.tape,h.output,h.size,fun k hk=>h.block k (uL hk hB) (fun e=>absurd (hr k e.symm) (by omega))⟩
theorem dC{a:Act}
 (hg:o.guard=none)(s x:Operand)(t:TypeId)(hop:o.op=Op.call {callee:=Callee.builtin Builtin.append,args:=#[s,x],argTypes:=#[t,t]})
 (i':Nat)(e:TypeId)(i:TypeInfo)(z:Value)(size bytes:Nat)(ht:P.underlying t=some (.slice e))(hi:P.info? e=some i)(hz:i.zero=some z)(hsize:i.size=size)(hby:i.bytes=bytes)(hzs:z.cells.size=size)(hsz:0<size)
 (v:Value)(n:Nat)(xs:List Value)(hs:a.eval s=v)(hown:w.ownsRow i' e size v n xs)(ad:Addr)(m c:Nat)(news:List Value)(hx:a.eval x=.slice (some ad) m c)(hl:news.length=m*size)(hnews:∀j u,news[j]?=some u→w.cell? (ad.add j)=some u)(h1:∀u∈news,u.oneCell'=true)
 (h63:n+m≤maxLen)(hbytes:(n+m)*bytes≤140737488355328)(uy:i'≤w.heap.size)
 (hK:∀v' w',w'.ownsRow i' e size v' (n+m) (xs++news)→w.grownBy w' v.ownBlock→(v'.ownBlock=v.ownBlock∨v'.ownBlock=some w.heap.size)→K (a.put o.dst v') w'):
  if Region.wanted o (yielded ops a.tmps)=true then Oper.wp P o a w K Q else E:=by
 have hw:Region.wanted o (yielded ops a.tmps)=true:=(by simp[Region.wanted,hg]);rw[if_pos hw];obtain⟨v',w',Aa,r1,r2,_,r4⟩:=run_append_own_at (P:=P) w i' t o.type e i z size bytes ht hi hz hsize hby hzs hsz v n xs hown ad m c news hl hnews h1 h63 hbytes uy;unfold Oper.wp;simp[execOp,hop,resolve,invoke,builtin,hs,hx,Aa,Result.andThen];exact hK v' w' r1 r2 r4
def ob:Option Addr→List Nat
 | none=>[]
 | some x=>[x.block]
theorem bq(h:(Value.slice a n c).ownBlock=some g):g∈ob a:=by
 cases a with
 | none=>simp[Value.ownBlock]at h
 | some x=>simp[Value.ownBlock]at h;simp[ob,h]
theorem cv(h:g∈ob a):(Value.slice a n c).ownBlock=some g:=by
 cases a with
 | none=>simp[ob]at h
 | some x=>simp[ob]at h;simp[Value.ownBlock,h]
def bw(w:World)(i':Nat)(a:Option Addr)(n c:Nat)(ts:List M.Tk):Prop:=ts.length=n∧w.ownsRow i' 47 3 (.slice a n c) n (ts.flatMap dW)
theorem bw.grown(h:bw w i' a n c ts)(hg:w.grownBy w' row)(hr:∀g∈ob a,row≠some g):bw w' i' a n c ts:=by
 refine⟨h.1,h.2.kept hg ?_⟩
 cases e:(Value.slice a n c).ownBlock with
 | none=>exact .inl rfl
 | some g=>exact .inr (fun e2=>hr g (bq e) e2.symm)
theorem bw.lt(h:bw w i' a n c ts):∀g∈ob a,i'≤g∧g<w.heap.size:=fun g hg=>uH h.2 g (cv hg)
theorem bw.sees(h:bw w i' a n c ts):bW w a n c ts:=by
 obtain⟨hl,h1,h2⟩:=h;have hx:w.ownsRow i' 47 3 (.slice a n c) n (ts.flatMap dW):=⟨h1,h2⟩
 rcases h2 with⟨e,h0⟩ | ⟨g,cap,cur,e,hb,hh,hn,hm,hs,ht⟩
 ·
  simp only[Value.slice.injEq]at e;obtain⟨rfl,rfl,rfl⟩:=e;exact⟨hl,m3 _,by decide,fun _=>⟨rfl,rfl⟩,.inl rfl⟩
 ·
  simp only[Value.slice.injEq,true_and]at e;obtain⟨rfl,rfl⟩:=e;refine⟨hl,hn,by unfold maxLen at hm;omega,fun e=>by simp at e,?_⟩;refine .inr ⟨g,0,rfl,fun i hi j hj=>?_⟩;rw[Nat.zero_add,World.ownsRow.cellAt hx (i*3+j) (by omega),fd dQ M.t0 ts (by omega) hj]
theorem bw.form(hl:ts.length=n)(h:w.ownsRow i' 47 3 v n (ts.flatMap dW)):∃a cap,v=.slice a n cap∧bw w i' a n cap ts:=by
 rcases h.2 with⟨rfl,rfl⟩ | ⟨g,cap,cur,rfl,_⟩
 ·exact⟨none,0,rfl,hl,h⟩
 ·exact⟨_,cap,rfl,hl,h⟩
structure HJ where
 j:M.Jb
 b:Nat
 a:Option Addr
 c:Nat
def HJ.vs(q:HJ):List Value:=eN q.j q.a q.c
def HJ.ent(q:HJ):Int×Value:=(q.j.id,.pointer (some ⟨q.b,0,none⟩))
def HJ.bl(q:HJ):List Nat:=q.b::ob q.a
def rp(w:World)(i':Nat)(qs:List HJ):Prop:=∀q∈qs,au w q.b q.vs∧bw w i' q.a q.j.ts.length q.c q.j.ts
theorem rp.grown{qs:List HJ}(h:rp w i' qs)(hg:w.grownBy w' row)(hr:∀g∈qs.flatMap HJ.bl,row≠some g):rp w' i' qs:=fun q hq=>by
 have hm:=fun g hg=>hr g (uO.2 ⟨q,hq,hg⟩);exact⟨(h q hq).1.grown hg (hm q.b (by simp[HJ.bl])),(h q hq).2.grown hg fun g hg=>hm g (by simp[HJ.bl,hg])⟩
def di(h mb:Nat)(ab ai:Option Addr)(qs:List HJ):List Nat:=h::mb::(ob ab++(ob ai++qs.flatMap HJ.bl))
structure bh(w:World)(i' h:Nat)(now uB:Int)(ab:Option Addr)(nb cb:Nat)(bs:List Int)(ai:Option Addr)(ni ci:Nat)(mb:Nat)(qs:List HJ):Prop where
 l:au w h [.int .i64 now,.int .i64 uB,.slice ab nb cb,.slice ai ni ci,.map (some mb)]
 b:aC 2 w i' ab nb cb bs
 i:aC 2 w i' ai ni ci (qs.map (·.j.id))
 m:bV w mb (qs.map HJ.ent)
 j:rp w i' qs
 d:(di h mb ab ai qs).Nodup
 lo:∀g∈di h mb ab ai qs,i'≤g
theorem aC.grown(h:aC t w i' a n c zs)(hg:w.grownBy w' row)(hr:∀g∈ob a,row≠some g):aC t w' i' a n c zs:=by
 refine World.ownsRow.kept h hg ?_
 cases e:(Value.slice a n c).ownBlock with
 | none=>exact .inl rfl
 | some g=>exact .inr (fun e2=>hr g (bq e) e2.symm)
section
variable {w w':World} {i' h:Nat} {now uB:Int} {ab:Option Addr} {nb cb:Nat} {bs:List Int} {ai:Option Addr} {ni ci:Nat} {mb:Nat} {qs:List HJ}
theorem bh.grown(H:bh w i' h now uB ab nb cb bs ai ni ci mb qs)(hg:w.grownBy w' row)(hr:∀g∈di h mb ab ai qs,row≠some g):bh w' i' h now uB ab nb cb bs ai ni ci mb qs:=
 ⟨H.l.grown hg (hr h (by simp[di])),H.b.grown hg fun g hg=>hr g (by simp[di,hg]),H.i.grown hg fun g hg=>hr g (by simp[di,hg]),H.m.grown hg (hr mb (by simp[di])),H.j.grown hg fun g hg=>hr g (by unfold di;simp only[List.mem_cons,uG];exact .inr (.inr (.inr (.inr hg)))),H.d,H.lo⟩
theorem bh.below(H:bh w i' h now uB ab nb cb bs ai ni ci mb qs)(hb:m1 w w'):bh w' i' h now uB ab nb cb bs ai ni ci mb qs:=H.grown (bv hb none) (fun _ _=>by simp)
theorem bh.lt(H:bh w i' h now uB ab nb cb bs ai ni ci mb qs):∀g∈di h mb ab ai qs,g<w.heap.size:=by
 intro g hg;unfold di at hg;simp only[List.mem_cons,uG]at hg
 rcases hg with rfl | rfl | hg | hg | hg
 ·exact H.l.2.2
 ·exact H.m.lt
 ·exact(uH H.b g (cv hg)).2
 ·exact(uH H.i g (cv hg)).2
 ·
  obtain⟨q,hq,hg⟩:=uO.1 hg;simp only[HJ.bl,List.mem_cons]at hg
  rcases hg with rfl | hg
  ·exact(H.j q hq).1.2.2
  ·exact((H.j q hq).2.lt g hg).2
theorem bT:(di h mb ab ai qs).Nodup↔(h≠mb∧h∉ob ab∧h∉ob ai∧h∉qs.flatMap HJ.bl)∧(mb∉ob ab∧mb∉ob ai∧mb∉qs.flatMap HJ.bl)∧(∀g∈ob ab,g∉ob ai∧g∉qs.flatMap HJ.bl)∧(∀g∈ob ai,g∉qs.flatMap HJ.bl)∧(qs.flatMap HJ.bl).Nodup:=by
 have h1:∀a:Option Addr,(ob a).Nodup:=fun a=>by cases a <;> simp[ob]
 unfold di;rw[List.nodup_cons,List.nodup_cons,List.nodup_append,List.nodup_append];simp only[List.mem_cons,uG,not_or]
 constructor
 ·
  rintro⟨⟨a1,a2,a3,a4⟩,⟨b2,b3,b4⟩,_,⟨_,c1,c2⟩,c3⟩;exact⟨⟨a1,a2,a3,a4⟩,⟨b2,b3,b4⟩,fun g hg=>⟨fun e=>c3 g hg g (.inl e) rfl,fun e=>c3 g hg g (.inr e) rfl⟩,fun g hg e=>c2 g hg g e rfl,c1⟩
 ·
  rintro⟨⟨a1,a2,a3,a4⟩,⟨b2,b3,b4⟩,c3,c2,c1⟩;exact⟨⟨a1,a2,a3,a4⟩,⟨b2,b3,b4⟩,h1 _,⟨h1 _,c1,fun g hg g' hg' e=>c2 g hg (e ▸ hg')⟩,fun g hg g' hg' e=>hg'.elim (fun x=>(c3 g hg).1 (e ▸ x)) (fun x=>(c3 g hg).2 (e ▸ x))⟩
end
theorem eV{P G:Prop}(f:mT P→G)(h:P):G:=f ⟨h⟩
theorem bh.entered{w1 w7 w8 w9:World}{qs:List HJ}(H:bh w1 i' h now uB ab nb cb bs ai ni ci mb qs)(q:HJ)
 (hJ:au w1 q.b q.vs)(hT:bw w1 i' q.a q.j.ts.length q.c q.j.ts)(hqb:q.b∉di h mb ab ai qs)(hqa:∀g∈ob q.a,g∉di h mb ab ai qs)(hqq:q.b∉ob q.a)(hql:i'≤q.b)
 {ai':Option Addr}{ci' z:Nat}(g7:w1.grownBy w7 (Value.slice ai ni ci).ownBlock)(o7:aC 2 w7 i' ai' (ni+1) ci' (qs.map (fun q:HJ=>q.j.id)++[q.j.id]))(hz:w1.heap.size≤z)
 (a7:(Value.slice ai' (ni+1) ci').ownBlock=(Value.slice ai ni ci).ownBlock∨(Value.slice ai' (ni+1) ci').ownBlock=some z)
 (g8:w7.grownBy w8 (some h))(l8:au w8 h [.int .i64 now,.int .i64 uB,.slice ab nb cb,.slice ai' (ni+1) ci',.map (some mb)])(g9:w8.grownBy w9 (some mb))(U:bV w9 mb (qs.map HJ.ent++[q.ent])):
  bh w9 i' h now uB ab nb cb bs ai' (ni+1) ci' mb (qs++[q]):=by
 obtain⟨⟨hm,Ea,Fa,Ga⟩,⟨Ha,Ia,Ja⟩,Da,Ka,Na⟩:=bT.1 H.d;have Oa:=H.lt;have sj:∀{g},g∈qs.flatMap HJ.bl→g∈di h mb ab ai qs:=fun{g} hg=>by unfold di;simp only[List.mem_cons,uG];exact .inr (.inr (.inr (.inr hg)))
 have sb:∀{g},g∈ob ab→g∈di h mb ab ai qs:=fun{g} hg=>by simp[di,hg]
 have si:∀{g},g∈ob ai→g∈di h mb ab ai qs:=fun{g} hg=>by simp[di,hg]
 have sh:h∈di h mb ab ai qs:=(by simp[di]);have sm:mb∈di h mb ab ai qs:=by simp[di]
 have ha:∀{g},g∈ob ai'→g∈ob ai∨w1.heap.size≤g:=fun{g} hg=>by
  have e:=cv (n:=ni+1) (c:=ci') hg
  rcases a7 with e2 | e2
  ·exact .inl (bq (e2.symm.trans e))
  ·rw[e2]at e;injection e with e;exact .inr (by omega)
 have Ba:∀{g},g∈di h mb ab ai qs→g∉ob ai→g∉ob ai':=fun{g} hg hn hi=>by
  rcases ha hi with h1 | h1
  ·exact hn h1
  ·have:=Oa g hg;omega
 have Ra:=hJ.2.2;have Pa:=fun g hg=>(hT.lt g hg).2;have Aa:∀{a b:Nat},a≠b→some a≠some b:=fun hne e=>hne (m2 e);have n7:∀{g},g∉ob ai→(Value.slice ai ni ci).ownBlock≠some g:=fun hn e=>hn (bq e);have Ca:∀{x g:Nat},x∈di h mb ab ai qs→g∉di h mb ab ai qs→x≠g:=fun hx hg e=>hg (e ▸ hx);have qi:q.b∉ob ai':=fun hi=>(ha hi).elim (fun h1=>hqb (si h1)) (fun h1=>by omega);have Qa:∀g∈ob q.a,g∉ob ai':=fun g hg hi=>(ha hi).elim (fun h1=>hqa g hg (si h1)) (fun h1=>by have:=Pa g hg;omega);have fm:∀{g},g∈(qs++[q]).flatMap HJ.bl↔g∈qs.flatMap HJ.bl∨g=q.b∨g∈ob q.a:=fun{g}=>by simp[List.flatMap_append,HJ.bl]
 refine⟨l8.grown g9 (Aa hm.symm),?_,?_,?_,?_,?_,?_⟩
 ·exact((H.b.grown g7 fun g hg=>n7 (Da g hg).1).grown g8 fun g hg=>Aa fun e=>Ea (e ▸ hg)).grown g9 fun g hg=>Aa fun e=>Ha (e ▸ hg)
 ·
  rw[uX];exact(o7.grown g8 fun g hg=>Aa fun e=>Ba sh Fa (e ▸ hg)).grown g9 fun g hg=>Aa fun e=>Ba sm Ia (e ▸ hg)
 ·rw[uX];exact U
 ·
  intro x hx
  rcases uG.1 hx with hx | hx
  ·
   have:=((H.j.grown g7 fun g hg=>n7 fun e=>Ka g e hg).grown g8 fun g hg=>Aa fun e=>Ga (e ▸ hg)).grown g9 fun g hg=>Aa fun e=>Ja (e ▸ hg);exact this x hx
  ·
   simp only[List.mem_singleton]at hx;subst hx;exact⟨((hJ.grown g7 (n7 fun e=>hqb (si e))).grown g8 (Aa (Ca sh hqb))).grown g9 (Aa (Ca sm hqb)),((hT.grown g7 fun g hg=>n7 fun e=>hqa g hg (si e)).grown g8 fun g hg=>Aa (Ca sh (hqa g hg))).grown g9 fun g hg=>Aa (Ca sm (hqa g hg))⟩
 ·
  refine bT.2 ⟨⟨hm,Ea,Ba sh Fa,fun e=>?_⟩,⟨Ha,Ba sm Ia,fun e=>?_⟩,fun g hg=>⟨Ba (sb hg) (Da g hg).1,fun e=>?_⟩,fun g hg e=>?_,?_⟩
  ·
   rcases fm.1 e with e | e | e
   ·exact Ga e
   ·exact Ca sh hqb e
   ·exact hqa _ e sh
  ·
   rcases fm.1 e with e | e | e
   ·exact Ja e
   ·exact Ca sm hqb e
   ·exact hqa _ e sm
  ·
   rcases fm.1 e with e | e | e
   ·exact(Da g hg).2 e
   ·exact hqb (e ▸ sb hg)
   ·exact hqa _ e (sb hg)
  ·
   rcases fm.1 e with e | e | e
   ·exact Ba (sj e) (fun h1=>Ka g h1 e) hg
   ·exact qi (e ▸ hg)
   ·exact Qa g e hg
  ·
   rw[List.flatMap_append,List.nodup_append];refine⟨Na,?_,?_⟩
   ·
    have h1:(ob q.a).Nodup:=(by cases q.a <;> simp[ob]);simp only[uY,List.flatMap_nil,List.append_nil,HJ.bl,List.nodup_cons];exact⟨hqq,h1⟩
   ·
    intro g hg g' La e;subst e;simp only[uY,List.flatMap_nil,List.append_nil,HJ.bl,List.mem_cons]at La
    rcases La with e | e
    ·exact hqb (e ▸ sj hg)
    ·exact hqa _ e (sj hg)
 ·
  intro g hg;unfold di at hg;simp only[List.mem_cons,uG]at hg
  rcases hg with rfl | rfl | hg | hg | hg
  ·exact H.lo _ sh
  ·exact H.lo _ sm
  ·exact H.lo _ (sb hg)
  ·exact(uH o7 g (cv hg)).1
  ·
   rcases fm.1 hg with e | e | e
   ·exact H.lo _ (sj e)
   ·exact e ▸ hql
   ·exact(hT.lt g e).1
theorem lG(id:Int):∀qs:List HJ,fY id (qs.map HJ.ent)=(qs.find? (fun q=>id==q.j.id)).map fun q=>.pointer (some ⟨q.b,0,none⟩)
 | []=>rfl
 | q::qs=>by
  rw[List.map_cons,List.find?_cons];show(if id=q.j.id then _ else _)=_;by_cases e:id=q.j.id
  ·rw[if_pos e,show(id==q.j.id)=true by simp[e]];rfl
  ·rw[if_neg e,show(id==q.j.id)=false by simp[e]];exact lG id qs
set_option maxRecDepth 10000 in
theorem lB{qs:List HJ}(jq:M.Jb)(ta:Option Addr)(tc:Nat)(w:World)
 (H:bh w i' h now uB ab nb cb bs ai ni ci mb qs)(hn:∀q∈qs,q.j.id≠jq.id)(hT:bw w i' ta jq.ts.length tc jq.ts)(hd:∀g∈ob ta,g∉di h mb ab ai qs)(hb0:i'≤w.heap.size)(hni:ni≤1000):
  Calls prog 91 #[.pointer (some ⟨h,0,none⟩),.agg (eN jq ta tc).toArray] w fun e w'=>e=.returned (.tuple #[])∧∃ai' ci',bh w' i' h now uB ab nb cb bs ai' (ni+1) ci' mb (qs++[⟨jq,w.heap.size,ta,tc⟩])∧Below i' w w'∧∀b vs,au w b vs→b∉di h mb ab ai qs→au w' b vs:=by
 have HH:=Hd H;have HN:=Hd hn;have HT:=Hd hT;have HD:=Hd hd
 have HI:H9 (∃i0,prog.info? 2=some i0∧i0.zero=some (it 0)∧i0.size=1∧i0.bytes=8):=by
  obtain⟨i0,h1,h2,h3,h4⟩:=info_parts bJ;exact⟨i0,h1,h2,h3,h4⟩
 clear H hn hT hd;obtain⟨Aa,⟨⟨a,b,c',d,f,k⟩,⟨a',b',Ba,d',f',k'⟩⟩,⟨s1,s2⟩,jr,jg,tl⟩:=jq;dsimp only[eN]at HT HN ⊢;generalize Na:tl.length=tn at *;have Oa:=Hd Na;clear Na;go_enter func91,ntmps91;have Ia:=ct w (ce Aa a b c' d f k a' b' Ba d' f' k' s1 s2 jr jg ta tn tc) 45;have Da:H9 (bh (w.alloc (.cells (ce Aa a b c' d f k a' b' Ba d' f' k' s1 s2 jr jg ta tn tc).toArray 45)) i' h now uB ab nb cb bs ai ni ci mb qs):=HH.o.below ((m5 _ _).alloc (m3 _) _);have Za:H9 (bw (w.alloc (.cells (ce Aa a b c' d f k a' b' Ba d' f' k' s1 s2 jr jg ta tn tc).toArray 45)) i' ta tn tc tl):=HT.o.grown (uK w _ none) (fun _ _=>by simp);have Pa:H9 (m1 w (w.alloc (.cells (ce Aa a b c' d f k a' b' Ba d' f' k' s1 s2 jr jg ta tn tc).toArray 45))):=(m5 _ _).alloc (m3 _) _;have Ab:H9 ((w.alloc (.cells (ce Aa a b c' d f k a' b' Ba d' f' k' s1 s2 jr jg ta tn tc).toArray 45)).heap.size=w.heap.size+1):=(by show _=_;simp);(go_wp2_with fail);generalize(w.alloc (.cells (ce Aa a b c' d f k a' b' Ba d' f' k' s1 s2 jr jg ta tn tc).toArray 45))=w1 at *;have h3:=Da.o.l.c 3;have j0:=Ia.c 0;have Ja:=Hd HH.o.lt;have Ga:H9 (i'≤w1.heap.size):=(by show _≤_;rw[Ab.o];omega);obtain⟨i0,hi,Bb,Cb,Db⟩:=HI.o;have Rb:(w1.alloc (.cells #[it Aa] 2)).cell? ⟨h,3,none⟩=some (.slice ai ni ci):=(Da.o.l.alloc _).at 3;have Ea:=bT.1 HH.o.d;have Eb:=Hd Ea.1.2.2.1;have Fb:H9 (∀g∈ob ai,g≠w.heap.size):=fun g hg=>by have:=Ja.o g (by simp[di,hg]);omega
 clear Ea;apply eV
 case f=>
  intro key
  go_region_law (refine dC rfl (.tmp 8) (.tmp 11) 24 rfl i' 2 i0 (it 0) 1 8 underlying24 hi Bb Cb Db rfl (by decide) (.slice ai ni ci) ni ((qs.map (fun q:HJ=>q.j.id)).map (Value.int .i64)) (by simp[Act.eval]) (World.ownsRow.drew (vg Da.o.i _)) ⟨w1.heap.size,0,none⟩ 1 1 [it Aa] (by simp[Act.eval]) rfl (bB w1 Aa _) (bZ Aa) (by unfold maxLen;omega) (by omega) (by simp;exact Nat.le_succ_of_le Ga.o) ?_;intro v' w7 Qa Ra Sa;have hown':w7.ownsRow i' 2 1 v' (ni+1) (((qs.map (fun q:HJ=>q.j.id))++[Aa]).map (Value.int .i64)):=(by rw[uX];exact Qa);obtain⟨ai',ci',rfl,ho⟩:=aC.form hown';have Ta:=Hd ho;have Ca:=Hd (((uK w1 _ _).trans (cU _ _)).trans Ra);have Ua:=Hd (show _∨_ by simpa using Sa);have Ha:H9 (au w7 h [it now,it uB,.slice ab nb cb,.slice ai ni ci,.map (some mb)]):=Da.o.l.grown Ca.o (fun e=>Eb.o (bq e));have c3:=Ha.c 3;have f3:=Ha.o.fr 3;clear Qa hown' Ra Sa ho)
  all_goals
   clear c3 f3;revert w7 ai' ci';exact key.out
 case h=>
  intro w7 ai' ci' Ta Ca Ua Ha;have Va:H9 (au (w7.setCell ⟨h,3,none⟩ (.slice ai' (ni+1) ci')) h [it now,it uB,.slice ab nb cb,.slice ai' (ni+1) ci',.map (some mb)]):=Ha.o.set 3 (by simp) _;have Fa:H9 (w7.grownBy (w7.setCell ⟨h,3,none⟩ (.slice ai' (ni+1) ci')) (some h)):=aU _ _ _;generalize w7.setCell ⟨h,3,none⟩ (.slice ai' (ni+1) ci')=w8 at *;(go_wp2_with fail);have Ea:=bT.1 HH.o.d;have Gb:H9 (bV w8.drew mb (qs.map HJ.ent)):=show bV w8 mb _ from((Da.o.m.grown Ca.o (fun e=>Ea.2.1.2.1 (bq e))).grown Fa.o (fun e=>Ea.1.1 (m2 e)));have Hb:=Hd ((Ia.o.grown Ca.o (fun e=>Fb.o _ (bq e) rfl)).grown Fa.o (fun e=>by have:=Ja.o h (by simp[di]);have:=m2 e;omega));obtain⟨w9,Sb,Wa,Xa⟩:=Gb.o.put (P:=prog) (t:=111) underlying111 underlying2 Aa (.pointer (some ⟨w.heap.size,0,none⟩)) (by rw[lG,List.find?_eq_none.2 (fun q hq=>by simpa using fun e=>HN.o q hq e.symm)];rfl);have Ib:=Hd Wa;have Ka:=Hd ((cU _ _).trans Xa);clear Wa Xa Ea;have h4:=Va.c 4;have j8:=Hb.c 0;apply eV
  case f=>
   intro key
   go_region_law (fail)
   all_goals exact key.out
  case h=>
   have Kb:bw w1 i' ta tl.length tc tl:=(by rw[Oa.o];exact Za.o);have Lb:au w1 w.heap.size (eN ⟨Aa,⟨⟨a,b,c',d,f,k⟩,⟨a',b',Ba,d',f',k'⟩⟩,(s1,s2),jr,jg,tl⟩ ta tc):=(by have:=Ia.o;rw[←Oa.o]at this;exact this);have Nb:w.heap.size∉di h mb ab ai qs:=fun e=>by have:=Ja.o _ e;omega
   have Ob:w.heap.size∉ob ta:=fun e=>by have:=(HT.o.lt _ e).2;omega
   have HF:=Da.o.entered ⟨⟨Aa,⟨⟨a,b,c',d,f,k⟩,⟨a',b',Ba,d',f',k'⟩⟩,(s1,s2),jr,jg,tl⟩,w.heap.size,ta,tc⟩ Lb Kb Nb HD.o Ob hb0 Ca.o Ta.o (Nat.le_succ _) Ua.o Fa.o Va.o Ka.o Ib.o;have La:=Da.o.lo;have Ya:=Ca.o.size;have Pb:=Fa.o.size;have Qb:=(Pa.o.mono hb0).trans ((ap Ca.o Ga.o (fun z e=>La z (by simp[di,bq e]))).trans ((ap Fa.o (m8 Ga.o Ya) (fun z e=>La z (by simp[di,m2 e]))).trans (ap Ka.o (m8 Ga.o (m8 Ya Pb)) (fun z e=>La z (by simp[di,m2 e])))));exact bodyPost_end (v:=.tuple #[]) (by simp[results,results91,go_sem]) rfl ⟨rfl,ai',ci',HF,Qb,fun b vs hL hn=>(((hL.belowS Pa.o).grown Ca.o (fun e=>hn (by simp[di,bq e]))).grown Fa.o (fun e=>hn (by simp[di,m2 e]))).grown Ka.o (fun e=>hn (by simp[di,m2 e]))⟩
theorem rT{qs:List HJ}(jq:M.Jb)(ta:Option Addr)(tc:Nat)(w:World)
 (H:bh w i' h now uB ab nb cb bs ai ni ci mb qs)(hn:∀q∈qs,q.j.id≠jq.id)(hT:bw w i' ta jq.ts.length tc jq.ts)(hd:∀g∈ob ta,g∉di h mb ab ai qs)(hb0:i'≤w.heap.size)(hni:ni≤1000):
  Calls prog 91 #[.pointer (some ⟨h,0,none⟩),.agg (eN jq ta tc).toArray] w fun e w'=>e=.returned (.tuple #[])∧∃ai' ci',bh w' i' h now uB ab nb cb bs ai' (ni+1) ci' mb (qs++[⟨jq,w.heap.size,ta,tc⟩])∧Below i' w w':=
 (lB jq ta tc w H hn hT hd hb0 hni).mono fun _ _ ⟨h1,ai',ci',h2,h3,_⟩=>⟨h1,ai',ci',h2,h3⟩
theorem dw{a:Act}
 (hg:o.guard=none)(s x:Operand)(t:TypeId)(hop:o.op=Op.call {callee:=Callee.builtin Builtin.append,args:=#[s,x],argTypes:=#[t,t]})
 (i':Nat)(e:TypeId)(i:TypeInfo)(z:Value)(size bytes:Nat)(ht:P.underlying t=some (.slice e))(hi:P.info? e=some i)(hz:i.zero=some z)(hsize:i.size=size)(hby:i.bytes=bytes)(hzs:z.cells.size=size)(hsz:0<size)
 (v:Value)(n:Nat)(xs:List Value)(hs:a.eval s=v)(hown:w.ownsRow i' e size v n xs)(ao:Option Addr)(m c:Nat)(news:List Value)(hx:a.eval x=.slice ao m c)(hl:news.length=m*size)(hnone:ao=none→m=0∧c=0)
 (hnews:∀ad,ao=some ad→∀j u,news[j]?=some u→w.cell? (ad.add j)=some u)(h1:∀u∈news,u.oneCell'=true)
 (h63:n+m≤maxLen)(hbytes:(n+m)*bytes≤140737488355328)(uy:i'≤w.heap.size)
 (hK:∀v' w',w'.ownsRow i' e size v' (n+m) (xs++news)→w.grownBy w' v.ownBlock→(v'.ownBlock=v.ownBlock∨v'.ownBlock=some w.heap.size)→K (a.put o.dst v') w'):
  if Region.wanted o (yielded ops a.tmps)=true then Oper.wp P o a w K Q else E:=by
 cases ao with
 | some ad=>exact dC hg s x t hop i' e i z size bytes ht hi hz hsize hby hzs hsz v n xs hs hown ad m c news hx hl (hnews ad rfl) h1 h63 hbytes uy hK
 | none=>
  obtain⟨rfl,rfl⟩:=hnone rfl;have hn:=List.eq_nil_of_length_eq_zero (by simpa using hl);subst hn;have hw:Region.wanted o (yielded ops a.tmps)=true:=(by simp[Region.wanted,hg]);rw[if_pos hw];have Aa:=run_append_owned_none (P:=P) w i' t o.type e i size ht hi v n xs hown;unfold Oper.wp;simp[execOp,hop,resolve,invoke,builtin,hs,hx,Aa,Result.andThen];exact hK v w (by simpa using hown) (World.grownBy.refl _ _) (.inl rfl)
theorem dX(w:World){rest:List Oper}{a:Act}(hgd:o.guard=none)(s x:Operand)(t:TypeId)
 (ho:o.op=.call {callee:=.builtin .append,args:=#[s,x],argTypes:=#[t,t]})
 (i':Nat)(e:TypeId)(i:TypeInfo)(z:Value)(size bytes:Nat)(ht:P.underlying t=some (.slice e))(hi:P.info? e=some i)(hz:i.zero=some z)
 (hsize:i.size=size)(hby:i.bytes=bytes)(hzs:z.cells.size=size)(hsz:0<size)
 (v:Value)(n:Nat)(xs:List Value)(hs:a.eval s=v)(hown:w.ownsRow i' e size v n xs)
 (ao:Option Addr)(m c:Nat)(news:List Value)(hx:a.eval x=.slice ao m c)(hl:news.length=m*size)(hnone:ao=none→m=0∧c=0)
 (hnews:∀ad,ao=some ad→∀j u,news[j]?=some u→w.cell? (ad.add j)=some u)(h1:∀u∈news,u.oneCell'=true)
 (h63:n+m≤maxLen)(hbytes:(n+m)*bytes≤140737488355328)(uy:i'≤w.heap.size)
 (h:∀v' w',w'.ownsRow i' e size v' (n+m) (xs++news)→w.grownBy w' v.ownBlock→(v'.ownBlock=v.ownBlock∨v'.ownBlock=some w.heap.size)→wpList P ops Q rest (a.put o.dst v') w'):wpList P ops Q (o::rest) a w:=by
 cases ao with
 | some ad=>exact wpList_append_own_at w hgd s x t ho i' e i z size bytes ht hi hz hsize hby hzs hsz v n xs hs hown ad m c news hx hl (hnews ad rfl) h1 h63 hbytes uy (fun v' w' h2 h3 _ h5=>h v' w' h2 h3 h5)
 | none=>
  obtain⟨rfl,rfl⟩:=hnone rfl;have hn:=List.eq_nil_of_length_eq_zero (by simpa using hl);subst hn;refine wpList_plain hgd fun K hK'=>?_;have Aa:=run_append_owned_none (P:=P) w i' t o.type e i size ht hi v n xs hown;unfold Oper.wp;simp[execOp,ho,resolve,invoke,builtin,hs,hx,Aa,Result.andThen];exact hK' _ _ (h v w (by simpa using hown) (World.grownBy.refl _ _) (.inl rfl))
theorem jm:∀{js:List M.Jb} {last:Int},M.jsGo now uB last js=true→(∀j∈js,last<j.id∧j.id<uB∧M.jbOk now j=true)∧js.Pairwise (fun a b=>a.id<b.id)
 | [],_,_=>⟨fun j hj=>by simp at hj,List.Pairwise.nil⟩
 | x::l,last,h=>by
  unfold M.jsGo at h;simp only[uU,decide_eq_true_eq]at h;obtain⟨⟨⟨h1,h2⟩,h3⟩,h4⟩:=h;obtain⟨ih1,ih2⟩:=jm h4;refine⟨fun j hj=>?_,List.pairwise_cons.2 ⟨fun j hj=>(ih1 j hj).1,ih2⟩⟩
  rcases List.mem_cons.1 hj with rfl | hj
  ·exact⟨by omega,by omega,h3⟩
  ·
   obtain⟨a,b,c⟩:=ih1 j hj;exact⟨by omega,b,c⟩
theorem iw(h:M.bnGo 0 bs=true):bs.length≤9:=by
 have key:∀(l:List Int) (x:Int),0≤x→x≤9→M.bnGo x l=true→(l.length:Int)≤9-x:=by
  intro l
  induction l with
  | nil=>intro x h0 h9 _;simp;omega
  | cons y l ih=>
   intro x h0 h9 h;unfold M.bnGo M.wkOk at h;simp only[uU,decide_eq_true_eq]at h;have:=ih y (by omega) (by omega) h.2;rw[List.length_cons];omega
 have:=key bs 0 (by omega) (by omega) h;omega
structure M.Right(now uB:Int)(bs:List Int)(js:List M.Jb):Prop where
 now0:0≤now
 now1:now≤1000000000
 next0:1≤uB
 next1:uB≤1000000000
 few:js.length≤6
 bn:M.bnGo 0 bs=true
 job:∀j∈js,0<j.id∧j.id<uB∧M.jbOk now j=true
 rise:js.Pairwise (fun a b=>a.id<b.id)
 nd:(M.wks js).Nodup
 bd:∀x∈M.wks js,bs.contains x=false
theorem ck(h:M.mkOk now uB bs js=true):M.Right now uB bs js:=by
 unfold M.mkOk at h;simp only[uU,decide_eq_true_eq]at h;obtain⟨⟨h1,h2⟩,⟨h3,h4⟩,h5,⟨h6,h7⟩,h8,h9⟩:=h;obtain⟨Aa,Ba⟩:=jm h7;refine⟨h1,h2,h3,h4,h6,h5,Aa,Ba,h8,fun x hx=>?_⟩;simp only[Bool.not_eq_true',List.any_eq_false]at h9;simpa using h9 x hx
theorem M.Right.before(h:M.Right now uB bs js){k:Nat}(hk:k<js.length):∀x∈js.take k,x.id≠(js.getD k M.j0).id:=by
 intro x hx;have hp:=h.rise;rw[←List.take_append_drop k js,List.pairwise_append]at hp;have hd:=aY M.j0 rfl hk;have:=hp.2.2 x hx (js.getD k M.j0) (by rw[hd];simp);omega
theorem M.Right.tasks(h:M.Right now uB bs js):∀j∈js,1≤j.ts.length∧j.ts.length≤8:=by
 intro j hj;have:=(h.job j hj).2.2;unfold M.jbOk at this;simp only[uU,decide_eq_true_eq]at this;exact⟨this.1.2.2.2.1,this.1.2.2.2.2.1⟩
theorem fB:(prog.info? 47).map (fun i=>(i.zero,i.size,i.bytes))=some (some (.agg #[.bool false,.int .i64 0,.int .i64 0]),3,24):=by kernel_rfl
theorem bW.news(h:bW w a n cap ts):∀ad,a=some ad→∀j u,(ts.flatMap dW)[j]?=some u→w.cell? (ad.add j)=some u:=by
 intro ad e j u hj;have hl:=h.len
 have Ba:j<ts.length*3:=by
  have:=(List.getElem?_eq_some_iff.1 hj).1
  rwa[dS dQ]at this
 obtain⟨b,Aa,e2,hc⟩:=h.at (by omega);rw[e]at e2;simp only[Option.some.injEq]at e2;subst e2;have hq:j/3<ts.length:=(by rw[Nat.div_lt_iff_lt_mul (by omega)];exact Ba);have hm:j%3<3:=Nat.mod_lt _ (by omega);have h1:=hc (j/3) (by omega) (j%3) hm;rw[←fd dQ M.t0 ts hq hm,show Aa+j/3*3+j%3=Aa+j by omega,show j/3*3+j%3=j by omega,hj]at h1;unfold Addr.add
 split
 ·rename_i e0;subst e0;exact h1
 ·exact h1
theorem rF(ts:List M.Tk):∀u∈ts.flatMap dW,u.oneCell'=true:=by
 intro u hu;obtain⟨t,_,hu⟩:=uO.1 hu;simp only[dW,List.mem_cons,List.not_mem_nil,or_false]at hu
 rcases hu with rfl | rfl | rfl <;> rfl
theorem sP(hl:au w h [.int .i64 now,.int .i64 uB,.slice ab nb cb,.slice none 0 0,.map (some mb)])(ho:aC 2 w i' ab nb cb bs)(hm:bV w mb [])(hne:h≠mb)(hbh:i'≤h)(hbm:i'≤mb)(h1:h∉ob ab)(h2:mb∉ob ab):
  bh w i' h now uB ab nb cb bs none 0 0 mb []:=
 ⟨hl,ho,aC.empty _ _ _,hm,fun q hq=>by simp at hq,bT.2 ⟨⟨hne,h1,by simp[ob],by simp⟩,⟨h2,by simp[ob],by simp⟩,fun g _=>⟨by simp[ob],by simp⟩,fun g hg=>by simp[ob]at hg,by simp⟩,fun g hg=>by
  unfold di at hg;simp only[List.mem_cons,uG,ob,List.flatMap_nil,List.not_mem_nil,or_false]at hg
  rcases hg with rfl | rfl | hg
  ·exact hbh
  ·exact hbm
  ·exact(uH ho g (cv hg)).1⟩
set_option maxRecDepth 10000 in
theorem rU(now uB:Int)(w:World)(hz:cH w ab nb cb aj nj cj bs js)(hf:M.mkOk now uB bs js=false):
  Rt 36 #[.agg #[.int .i64 now,.int .i64 uB,.slice ab nb cb,.slice aj nj cj]] w (.tuple #[.pointer none,.bool false]):=by
 have HM:=Hd hz;have C1:∀W,cH W ab nb cb aj nj cj bs js→Rt 15 #[.agg (aI now uB ab nb cb aj nj cj).toArray] W (.bool false):=fun W h=>by rw[←hf];exact fe now uB W h
 go_enter func36,ntmps36;have Aa:H9 (m1 w (w.alloc (.cells (aI now uB ab nb cb aj nj cj).toArray 27))):=(m5 _ _).alloc (m3 _) _;(go_wp2_with fail);generalize(w.alloc (.cells (aI now uB ab nb cb aj nj cj).toArray 27))=wa at *;refine(C1 _ (HM.o.below Aa.o)).mono ?_;rintro e wb ⟨rfl,hb⟩;have Ba:=Aa.t hb;go_wp2;exact m7 (v:=.tuple #[.pointer none,.bool false]) (by simp[results,results36,go_sem]) rfl ⟨rfl,Ba.o⟩
def so(w:World)(now uB:Int)(bs:List Int)(js:List M.Jb)(e:Ending)(w':World):Prop:=
 ∃h ab nb cb ai ni ci mb qs,e=.returned (.tuple #[.pointer (some ⟨h,0,none⟩),.bool true])∧bh w' w.heap.size h now uB ab nb cb bs ai ni ci mb qs∧qs.map (·.j)=js∧m1 w w'
set_option maxRecDepth 10000 in
theorem qr(now uB:Int)(w:World)(hz:cH w ab nb cb aj nj cj bs js)(hf:M.mkOk now uB bs js=true):
  Calls prog 36 #[.agg #[.int .i64 now,.int .i64 uB,.slice ab nb cb,.slice aj nj cj]] w fun e w'=>so w now uB bs js e w':=by
 have HM:=Hd hz;have C1:∀W,cH W ab nb cb aj nj cj bs js→Rt 15 #[.agg (aI now uB ab nb cb aj nj cj).toArray] W (.bool true):=fun W h=>by rw[←hf];exact fe now uB W h
 have HF:=Hd hf;go_enter func36,ntmps36;have Oc:=ct w (aI now uB ab nb cb aj nj cj) 27;have Ia:H9 (m1 w (w.alloc (.cells (aI now uB ab nb cb aj nj cj).toArray 27))):=(m5 _ _).alloc (m3 _) _;(go_wp2_with fail);generalize(w.alloc (.cells (aI now uB ab nb cb aj nj cj).toArray 27))=wa at *;refine(C1 _ (HM.o.below Ia.o)).mono ?_;rintro e wb ⟨rfl,hb⟩;have Oa:=Oc.b hb;have Ja:=Ia.t hb;have x0:=Oa.c 0;have x1:=Oa.c 1;have x2:=Oa.c 2;have x3:=Oa.c 3;have Wd:=run_makeMap (P:=prog) 111 wb;(go_wp2_with fail);have Pb:m1 wb ((wb.alloc (.map #[] 0)).alloc (.cells #[it now,it uB,.slice none 0 0,.slice none 0 0,.map (some wb.heap.size)] 113)):=((m5 _ _).alloc (m3 _) _).alloc (by simp) _;have Pa:=Hd Ja.o.size;have Qb:=Oa.b Pb;have Ka:=Ja.t Pb;have Bb:H9 (au ((wb.alloc (.map #[] 0)).alloc (.cells #[it now,it uB,.slice none 0 0,.slice none 0 0,.map (some wb.heap.size)] 113)) (wb.heap.size+1) [it now,it uB,.slice none 0 0,.slice none 0 0,.map (some wb.heap.size)]):=ba wb _ _ _;have Rb:H9 (bV ((wb.alloc (.map #[] 0)).alloc (.cells #[it now,it uB,.slice none 0 0,.slice none 0 0,.map (some wb.heap.size)] 113)) wb.heap.size []):=(rW wb).alloc _;have Pc:H9 (((wb.alloc (.map #[] 0)).alloc (.cells #[it now,it uB,.slice none 0 0,.slice none 0 0,.map (some wb.heap.size)] 113)).heap.size=wb.heap.size+1+1):=(by show _=_;simp);generalize((wb.alloc (.map #[] 0)).alloc (.cells #[it now,it uB,.slice none 0 0,.slice none 0 0,.map (some wb.heap.size)] 113))=w1 at *;generalize Sb:wb.heap.size+1=hb at *;generalize wb.heap.size=mb at Sb Rb Pa Bb ⊢;have Qa:=Hd Sb;have h2:=Bb.c 2;have J:=Qb.c 2;have Ra:=(HM.o.below Ka.o).b;have Qc:H9 (aw w1.drew ab nb cb bs):=Ra.of_cells fun _ _ hp _=>hp;have Cb:=Hd Ra.len;have Rc:=Hd Ra.no;have HR:=Hd (ck HF.o);have Xd:nb≤9:=(by have:=iw HR.o.bn;rw[Cb.o]at this;exact this);clear Ra;obtain⟨i0,hi,Db,Eb,Fb⟩:=info_parts bJ;have Sc:H9 (((bs.take nb).map (Value.int .i64)).length=nb*1):=(by show _=_;have:=Cb.o;simp;omega);have Gb:=Hd Ka.o.size;apply eV
 case f=>
  intro key
  go_region_law (refine dw rfl (.tmp 21) (.tmp 23) 24 rfl w.heap.size 2 i0 (it 0) 1 8 underlying24 hi Db Eb Fb rfl (by decide) (.slice none 0 0) 0 [] (by simp[Act.eval]) (World.ownsRow_nil _ _ _ _) ab nb cb ((bs.take nb).map (Value.int .i64)) (by simp[Act.eval]) Sc.o Rc.o (db Qc.o nb (m3 _)) (dh _) (by unfold maxLen;omega) (by omega) Gb.o ?_;intro v' w7 La Sa Ta;have hown':w7.ownsRow w.heap.size 2 1 v' nb (bs.map (Value.int .i64)):=(by rw[Nat.zero_add,List.nil_append,uD (Nat.le_of_eq Cb.o)]at La;exact La);obtain⟨Aa,Ba,rfl,ho⟩:=aC.form hown';have Tb:=Hd ho;have Ha:H9 (w1.grownBy w7 none):=(cU _ _).trans Sa;have Ub:H9 ((Value.slice Aa nb Ba).ownBlock=none∨(Value.slice Aa nb Ba).ownBlock=some w1.heap.size):=Ta;have Ua:=Hd (Bb.o.grown Ha.o (by simp));have c3:=Ua.c 2;have f3:=Ua.o.fr 2;clear La hown' Sa Ta ho)
  all_goals
   clear c3 f3;revert w7 Aa Ba;exact key.out
 case h=>
  intro w7 Aa Ba Tb Ha Ub Ua;have Tc:H9 (au (w7.setCell ⟨hb,2,none⟩ (.slice Aa nb Ba)) hb [it now,it uB,.slice Aa nb Ba,.slice none 0 0,.map (some mb)]):=Ua.o.set 2 (by simp) _;have Vb:H9 (w7.grownBy (w7.setCell ⟨hb,2,none⟩ (.slice Aa nb Ba)) (some hb)):=aU _ _ _;have Uc:H9 (bV (w7.setCell ⟨hb,2,none⟩ (.slice Aa nb Ba)) mb []):=(Rb.o.grown Ha.o (by simp)).setCell _ _;have Wb:hb<w1.heap.size:=(by rw[Pc.o];omega);have Na:∀g∈ob Aa,w1.heap.size≤g:=fun g hg=>by have e:=cv (n:=nb) (c:=Ba) hg;rcases Ub.o with e2 | e2 <;> rw[e2]at e <;> simp at e;omega
  have Vc:=Hd (Tb.o.grown Vb.o (fun g hg e=>by have:=Na g hg;have:=m2 e;omega));have Xb:=Hd ((Ka.o.trans (ap Ha.o Gb.o (by simp))).trans (ap Vb.o (m8 Gb.o Ha.o.size) (fun z e=>by have:=m2 e;have:=Qa.o;have:=Pa.o;omega)));have Yb:H9 (au (w7.setCell ⟨hb,2,none⟩ (.slice Aa nb Ba)) w.heap.size (aI now uB ab nb cb aj nj cj)):=(Qb.o.grown Ha.o (by simp)).far (by have:=Qa.o;have:=Pa.o;omega) _ _;have HX:=Hd (sP Tc.o Vc.o Uc.o (by have:=Qa.o;omega) (by have:=Qa.o;have:=Pa.o;omega) Pa.o (fun e=>by have:=Na _ e;omega) (fun e=>by have:=Na _ e;have:=Qa.o;omega));generalize(w7.setCell ⟨hb,2,none⟩ (.slice Aa nb Ba))=w8 at *;have Yd:=HM.o.j.len;have Zd:nj≤6:=(by have:=HR.o.few;omega);have Ae:(nj:Int)≤9223372036854775807:=(by omega);have Be:=HM.o.j.le;have Ce:(nj:Int)≤cj:=(by omega);have x3:=Yb.c 3;(go_wp2_with fail);clear x3
  go_loopw [30] (fun i wr=>∃(k:Nat) (ai:Option Addr) (ni ci:Nat) (qs:List HJ),k≤nj∧i=it k∧bh wr w.heap.size hb now uB Aa nb Ba bs ai ni ci mb qs∧qs.map (·.j)=js.take k∧m1 w wr) (fun i _=>nj-(intOf i).toNat)
  case atStart=>exact⟨0,none,0,0,[],by omega,rfl,HX.o,rfl,Xb.o⟩
  case round=>
   obtain⟨kk,ai,ni,ci,qs,hk,rfl,hh,Va,Wa⟩:=hrel;clear HX Xb Yb;by_cases Wb:kk<nj
   case pos=>
    obtain⟨b1,o1,rfl,Wc⟩:=(HM.o.j.below Wa).at (by omega);obtain⟨ta,tc,hA,hT⟩:=Wc kk Wb;have Xc:(kk:Int)<(nj:Int):=(by omega);have Yc:js.getD kk M.j0∈js:=(by rw[m4,m6 (by omega)];simp);have Hb:js.take (kk+1)=js.take kk++[js.getD kk M.j0]:=(by rw[List.take_add_one,m4,m6 (by omega)];simp);have Zc:=HR.o.before (k:=kk) (by omega);have Ib:=HR.o.tasks _ Yc;have Ad:ni=kk:=(by have h1:=hh.i.len;have h2:=congrArg List.length Va;rw[List.length_map]at h1 h2;rw[uZ]at h2;omega);have Kb:H9 (∀q∈qs,q.j.id≠(js.getD kk M.j0).id):=fun q hq=>Zc q.j (by rw[←Va];exact List.mem_map.2 ⟨q,hq,rfl⟩);generalize js.getD kk M.j0=cq at hA hT Hb Ib Kb;obtain⟨Ca,⟨⟨a,b,c',d,f,k⟩,⟨a',b',Da,d',f',k'⟩⟩,⟨s1,s2⟩,jr,jg,tl⟩:=cq;dsimp only at hT Hb Ib Kb;have hR:wr.rangeAt b1 (o1+kk*18) (eN ⟨Ca,⟨⟨a,b,c',d,f,k⟩,⟨a',b',Da,d',f',k'⟩⟩,(s1,s2),jr,jg,tl⟩ ta tc):=ch rfl hA;have HT:=Hd hT;dsimp only[eN]at hR;generalize Bd:tl.length=tn at hR HT Ib;have Xa:=Hd Bd;have Cd:H9 (qs.map (·.j)++[⟨Ca,⟨⟨a,b,c',d,f,k⟩,⟨a',b',Da,d',f',k'⟩⟩,(s1,s2),jr,jg,tl⟩]=js.take (kk+1)):=(by show _=_;rw[Va];exact Hb.symm);have Dd:=Hd Ad;have Ia:=Hd Wa;have Zb:=Hd hh;have Ac:=Hd HT.o;have Lb:=Hd hh.lt;have Ya:=Hd Wa.size;(go_wp2_with(with_reducible refine aA 33 ?_ ?_;rfl));with_reducible refine fE 45 b1 (o1+kk*18) (ce Ca a b c' d f k a' b' Da d' f' k' s1 s2 jr jg ta tn tc) hR underlying45 ?q5 ?_
    case q5=>exact⟨rfl,rfl,by kernel_rfl,_,rfl,by kernel_rfl⟩
    (go_wp2_with(with_reducible refine aA 6 ?_ ?_;rfl));show wpList _ _ _ _ _ _;have Ed:(Instr.alloc 45 true (.tuple #[])).run prog wr=.ok (.pointer (some ⟨wr.heap.size,0,none⟩)) (wr.alloc (.cells cD.toArray 45)):=(by kernel_rfl);with_reducible refine bF ?qg 45 ?qo cD.toArray Ed ?_
    case qg | qo=>exact rfl
    show wpList _ _ _ _ _ _;with_reducible refine Hx (fq 45 wr.heap.size 0 (ce Ca a b c' d f k a' b' Da d' f' k' s1 s2 jr jg ta tn tc) ?q6 ?q5 ?_)
    case q6=>exact(aO _ _ _).there _ 18 (by simp)
    case q5=>exact⟨rfl,by kernel_rfl,by kernel_rfl,_,_,rfl,by kernel_rfl,by kernel_rfl⟩
    have Ga:m1 wr ((wr.alloc (.cells cD.toArray 45)).setCells wr.heap.size 0 (ce Ca a b c' d f k a' b' Da d' f' k' s1 s2 jr jg ta tn tc)):=aM _ _ ((m5 _ _).alloc (m3 _) _) (m3 _);have Ja:=Ia.t Ga;have Bc:=Hd (Zb.o.below Ga);have Cc:=Hd (Ac.o.below Ga);clear Ia Zb Ac;clear Ga;have Za:H9 (au ((wr.alloc (.cells cD.toArray 45)).setCells wr.heap.size 0 (ce Ca a b c' d f k a' b' Da d' f' k' s1 s2 jr jg ta tn tc)) wr.heap.size (ce Ca a b c' d f k a' b' Da d' f' k' s1 s2 jr jg ta tn tc)):=(aO wr cD.toArray 45).setCells (ce Ca a b c' d f k a' b' Da d' f' k' s1 s2 jr jg ta tn tc) 0 (by simp);generalize((wr.alloc (.cells cD.toArray 45)).setCells wr.heap.size 0 (ce Ca a b c' d f k a' b' Da d' f' k' s1 s2 jr jg ta tn tc))=w2 at *;generalize wr.heap.size=jb at Za Lb Ya ⊢;have De:wr.heap.size=wr.heap.size:=rfl;have Dc:=Za.o.2.2;have Ga:=eK w2 (.cells #[] 47);have Ka:=Ja.t Ga;have Fd:=Hd (Bc.o.below Ga);have Ec:=Hd (Cc.o.below Ga);have Fc:=Za.b Ga;clear Ja Bc Cc Za;clear Ga;have Ee:=Fc.c 17;obtain⟨i0,hi,Db,Eb,Fb⟩:=info_parts fB;have Gd:(w2.alloc (.cells #[] 47)).heap.size=w2.heap.size+1:=(by simp);have Gc:=Ka.o.size;have Id:H9 ((tl.flatMap dW).length=tn*3):=(by show _=_;rw[dS dQ,Xa.o]);(go_wp2_with(with_reducible refine aA 37 ?_ ?_;rfl));show wpList _ _ _ _ _ _;refine dX _ rfl _ _ 43 rfl w.heap.size 47 i0 (.agg sf.toArray) 3 24 underlying43 hi Db Eb Fb rfl (by decide) _ 0 [] rfl (World.ownsRow_made w2 #[] 0 (m8 Ya.o (Nat.le_of_lt Dc)) (by unfold maxLen;omega) (by simp)) ta tn tc (tl.flatMap dW) rfl Id.o Ec.o.no Ec.o.news (rF tl) (by unfold maxLen;omega) (by omega) Gc ?_;intro v' w7 La Sa Ta;rw[Nat.zero_add,List.nil_append]at La;obtain⟨Ea,Fa,rfl,Jd⟩:=bw.form Xa.o La;have Kd:=Hd Jd;have Na:∀g∈ob Ea,w2.heap.size≤g:=fun g hg=>by have e:=cv (n:=tn) (c:=Fa) hg;rcases Ta with e2 | e2 <;> (rw[e2]at e;have e:=m2 e;first | exact Nat.le_of_eq e | (rw[Gd]at e;omega))
    have Ab:(w2.alloc (.cells #[] 47)).grownBy w7 (some w2.heap.size):=Sa;have Hc:H9 (∀g∈di hb mb Aa ai qs,g<w2.heap.size):=fun g hg=>by have:=Lb.o g hg;omega
    have Ha:=Hd (Fd.o.grown Ab (fun g hg e=>by have:=Hc.o g hg;have:=m2 e;omega));have Nb:=Hd (Fc.o.grown Ab (fun e=>by have:=m2 e;omega));have Ic:=Hd (Ka.o.trans (ap Ab Gc (fun z e=>by have:=m2 e;have:=Ya.o;have:=Dc;omega)));have Fe:=Ab.size;have Ld:H9 (∀g∈ob Ea,g∉di hb mb Aa ai qs):=fun g hg hx=>by have:=Na g hg;have:=Hc.o g hx;omega
    have Nd:H9 (∀g∈ob Ea,g≠jb):=fun g hg e=>by have:=Na g hg;omega
    have Od:H9 (∀g∈di hb mb Aa ai qs,g≠jb):=fun g hg e=>by have:=Lb.o g hg;omega
    have Ge:=Nb.c 17;have He:=Nb.o.fr 17;(go_wp2_with(with_reducible refine aA 40 ?_ ?_;rfl));show wpList _ _ _ _ _ _;have Pd:H9 (au (w7.setCell ⟨jb,17,none⟩ (.slice Ea tn Fa)) jb (ce Ca a b c' d f k a' b' Da d' f' k' s1 s2 jr jg Ea tn Fa)):=Nb.o.set 17 (by simp) _;have Ob:w7.grownBy (w7.setCell ⟨jb,17,none⟩ (.slice Ea tn Fa)) (some jb):=aU _ _ _;have Qd:=Hd (Ha.o.grown Ob (fun g hg e=>Od.o g hg (m2 e).symm));have Rd:=Hd (Kd.o.grown Ob (fun g hg e=>Nd.o g hg (m2 e).symm));have Jc:=Hd (Ic.o.trans (ap Ob Ic.o.size (fun z e=>by have:=m2 e;have:=Ya.o;omega)));generalize(w7.setCell ⟨jb,17,none⟩ (.slice Ea tn Fa))=w9 at *;have Sd:=Pd.o.row;with_reducible refine Hx (fE 45 jb 0 (ce Ca a b c' d f k a' b' Da d' f' k' s1 s2 jr jg Ea tn Fa) Sd underlying45 ?q5 ?_)
    case q5=>exact⟨rfl,rfl,by kernel_rfl,_,rfl,by kernel_rfl⟩
    have C4:Calls prog 91 #[.pointer (some ⟨hb,0,none⟩),.agg #[.int .i64 Ca,.int .i64 a,.int .i64 b,.int .i64 c',.int .i64 d,.int .i64 f,.int .i64 k,.int .i64 a',.int .i64 b',.int .i64 Da,.int .i64 d',.int .i64 f',.int .i64 k',.int .i64 s1,.int .i64 s2,.int .i64 jr,.bool jg,.slice Ea tn Fa]] w9 fun e w'=>e=.returned (.tuple #[])∧∃ai' ci',bh w' w.heap.size hb now uB Aa nb Ba bs ai' (ni+1) ci' mb (qs++[⟨⟨Ca,⟨⟨a,b,c',d,f,k⟩,⟨a',b',Da,d',f',k'⟩⟩,(s1,s2),jr,jg,tl⟩,w9.heap.size,Ea,Fa⟩])∧Below w.heap.size w9 w':=by
     have h0:=rT ⟨Ca,⟨⟨a,b,c',d,f,k⟩,⟨a',b',Da,d',f',k'⟩⟩,(s1,s2),jr,jg,tl⟩ Ea Fa w9 Qd.o Kb.o (by show bw _ _ _ tl.length _ _;rw[Xa.o];exact Rd.o) Ld.o Jc.o.size (by rw[Dd.o];omega);dsimp only[eN]at h0;rw[Xa.o]at h0;exact h0
    (go_wp2_with fail);refine C4.mono ?_;rintro e Kc ⟨rfl,Lc,Nc,hH,hB⟩;have HH':=Hd hH;have HB':=Hd (Jc.o.trans hB);go_wp2;go_roundw
    case rel=>exact⟨kk+1,Lc,ni+1,Nc,_,by omega,by go_num,HH'.o,by rw[uX];exact Cd.o,HB'.o⟩
    case measure=>simp[intOf];omega
   have Ie:kk=nj:=(by omega);have Td:=Hd hh;have Ud:H9 (qs.map (·.j)=js):=(by show _=_;rw[Va,uD (by omega)]);have Vd:=Hd Wa;have Xc:¬ (kk:Int)<(nj:Int):=(by omega);go_wp2;exact m7 (v:=.tuple #[.pointer (some ⟨hb,0,none⟩),.bool true]) (by simp[results,results36,go_sem]) rfl ⟨hb,Aa,nb,Ba,ai,ni,ci,mb,qs,rfl,Td.o,Ud.o,Vd.o⟩
def M.jobAt(id:Int)(k:Nat):List M.Jb→Int
 | []=>-1
 | j::l=>if j.id=id then(k:Int)else M.jobAt id (k+1) l
theorem lF(now uB id:Int)(w:World)(hz:ep w aj nj cj js):
  Rt 44 #[.agg #[.int .i64 now,.int .i64 uB,.slice ab nb cb,.slice aj nj cj],.int .i64 id] w (.int .i64 (M.jobAt id 0 js)):=by
 have bn:(nj:Int)≤9223372036854775807:=(by have:=hz.big;have:=hz.le;omega);have Fa:(nj:Int)≤cj:=(by have:=hz.le;omega);have Da:=ct w (aI now uB ab nb cb aj nj cj) 27;have Aa:H9 (m1 w (w.alloc (.cells (aI now uB ab nb cb aj nj cj).toArray 27))):=(m5 _ _).alloc (m3 _) _;have HZ:=Hd (hz.below Aa.o);generalize hR:M.jobAt id 0 js=R;have HR:=Hd hR;clear hR hz;go_enter func44,ntmps44;go_wp2;generalize(w.alloc (.cells (aI now uB ab nb cb aj nj cj).toArray 27))=w1 at *;have x3:=Da.c 3
 go_loop [5] (fun i=>∃k:Nat,k≤nj∧i=it k∧M.jobAt id k (js.drop k)=R) (fun i=>nj-(intOf i).toNat)
 case atStart=>exact⟨0,by omega,rfl,HR.o⟩
 case round=>
  obtain⟨k,hk,rfl,hg⟩:=hrel;by_cases Ba:k<nj
  ·
   obtain⟨b1,o1,rfl,Ca⟩:=HZ.o.at (by omega);obtain⟨ta,tc,hA,_⟩:=Ca k Ba;have c1:w1.cell? ⟨b1,o1+k*18,none⟩=some (it (js.getD k M.j0).id):=hA 0 (by omega)
   have hG:(if(js.getD k M.j0).id=id then(k:Int)else M.jobAt id (k+1) (js.drop (k+1)))=R:=by
    rw[←hg,aY M.j0 HZ.o.len Ba];rfl
   generalize(js.getD k M.j0).id=x at c1 hG;clear Ca hA hg;have hI:(k:Int)<(nj:Int):=(by omega);by_cases hx:x=id
   ·
    have hb:(x==id)=true:=(by simp[hx]);have HF:H9 ((k:Int)=R):=(by show _=_;rw[if_pos hx]at hG;exact hG);clear hx hG;go_wp2;go_ret;exact⟨by rw[←HF.o];rfl,Aa.o⟩
   ·
    have hb:(x==id)=false:=(by simp[hx]);have Ea:H9 (M.jobAt id (k+1) (js.drop (k+1))=R):=(by show _=_;rw[if_neg hx]at hG;exact hG);clear hx hG;go_wp2
    go_round
    case rel=>exact⟨k+1,by omega,by go_num,Ea.o⟩
    case measure=>simp[intOf];omega
  ·
   have HF:H9 (-1=R):=(by show _=_;rw[m9 (by rw[HZ.o.len];omega)]at hg;exact hg);clear hg;go_wp2;go_ret;exact⟨by rw[←HF.o];rfl,Aa.o⟩
def M.jobOf(id:Int)(js:List M.Jb):M.Jb:=js.getD (M.jobAt id 0 js).toNat M.j0
theorem M.jobAt_some(id:Int):∀(js:List M.Jb) (k:Nat),0≤M.jobAt id k js→∃i,i<js.length∧M.jobAt id k js=((k+i:Nat):Int)∧(js.getD i M.j0).id=id
 | [],k,h=>by unfold M.jobAt at h;omega
 | j::l,k,h=>by
  unfold M.jobAt at h ⊢;by_cases e:j.id=id
  ·rw[if_pos e];exact⟨0,by simp,rfl,e⟩
  ·
   rw[if_neg e]at h ⊢;obtain⟨i,h1,h2,h3⟩:=M.jobAt_some id l (k+1) h;refine⟨i+1,by simpa using h1,?_,h3⟩;rw[h2];congr 1;omega
namespace M
structure Mt where
 now:Int
 next:Int
 bs:List Int
 js:List Jb
def Mt.zero:Mt:=⟨0,0,[],[]⟩
def Mt.ok(m:Mt):Bool:=mkOk m.now m.next m.bs m.js
def free(f:Tk→Bool)(ts:List Tk):List Tk:=ts.map fun t=>if f t then t0 else t
def freeJ(f:Tk→Bool)(j:Jb):Jb:={j with ts:=free f j.ts}
def dueT(now:Int)(t:Tk):Bool:=leased t&&decide (t.due≤now)
def isFree(t:Tk):Bool:=!t.done&&!leased t
def mineT(who:Int)(t:Tk):Bool:=decide (t.l'=who)
def openP(j:Jb):Option Nat:=if j.gone then none else j.ts.findIdx? isFree
def place(i:Nat):List Jb→Option (Nat×Nat)
 | []=>none
 | j::l=>match openP j with
  | some k=>some (i,k)
  | none=>place (i+1) l
def setT(js:List Jb)(i k:Nat)(t:Tk):List Jb:=js.set i {js.getD i j0 with ts:=(js.getD i j0).ts.set k t}
def submit(m:Mt)(mc:Mc)(s:Int×Int)(rows tr:Int):Mt×Int×Int:=
 if decide (m.js.length=6)||decide (m.next=1000000000)then(m,3,0)
 else(⟨m.now,m.next+1,m.bs,m.js++[⟨m.next,mc,s,rows,false,List.replicate tr.toNat t0⟩]⟩,0,m.next)
def tickN(now tr:Int):Int:=if now+tr<1000000000 then now+tr else 1000000000
def tick(m:Mt)(tr:Int):Mt×Int×Int:=(⟨tickN m.now tr,m.next,m.bs,m.js.map (freeJ (dueT (tickN m.now tr)))⟩,0,0)
def cancel(m:Mt)(id:Int):Mt×Int×Int:=
 if jobAt id 0 m.js<0 then(m,4,0)
 else if(jobOf id m.js).gone||(jobOf id m.js).ts.all (·.done)then(m,8,0)
 else(⟨m.now,m.next,m.bs,m.js.set (jobAt id 0 m.js).toNat {freeJ leased (jobOf id m.js)with gone:=true}⟩,0,0)
def lease(m:Mt)(who:Int):Mt×Int×Int:=
 if m.bs.contains who then(m,5,0)
 else if m.js.any (fun j=>j.ts.any (mineT who))then(m,6,0)
 else match place 0 m.js with
  | none=>(m,4,0)
  | some (i,k)=>(⟨m.now,m.next,m.bs,setT m.js i k ⟨false,who,m.now+5⟩⟩,0,100*(m.js.getD i j0).id+k)
def banned(bs:List Int)(who:Int):List Int:=[1,2,3,4,5,6,7,8,9].filter fun x=>x==who||bs.contains x
def back(g:Jb→Bool)(m:Mt)(who id s':Int):Mt×Int×Int:=
 if m.bs.contains who then(m,5,0)
 else if jobAt id 0 m.js<0||decide (((jobOf id m.js).ts.length:Int)≤s')then(m,4,0)
 else if((jobOf id m.js).ts.getD s'.toNat t0).l'≠who then(m,8,0)
 else if g (jobOf id m.js)=false then(⟨m.now,m.next,banned m.bs who,m.js.map (freeJ (mineT who))⟩,7,0)
 else(⟨m.now,m.next,m.bs,setT m.js (jobAt id 0 m.js).toNat s'.toNat ⟨true,0,0⟩⟩,0,if((jobOf id m.js).ts.set s'.toNat ⟨true,0,0⟩).all (·.done)then 1 else 0)
end M
namespace M
theorem getD_mem{α:Type}{l:List α}{k:Nat}{d:α}(h:k<l.length):l.getD k d∈l:=by rw[m4,m6 h];simp
theorem free_congr{f g:Tk→Bool}{ts:List Tk}(h:∀t∈ts,f t=g t):free f ts=free g ts:=by
 unfold free;exact List.map_congr_left fun t ht=>by rw[h t ht]
theorem free_len(f:Tk→Bool)(ts:List Tk):(free f ts).length=ts.length:=by unfold free;simp
theorem Right.tk{js:List M.Jb}(h:M.Right now uB bs js){j:M.Jb}(hj:j∈js){t:Tk}(ht:t∈j.ts):tkOk now t=true:=by
 have:=(h.job j hj).2.2;unfold M.jbOk at this;simp only[uU,List.all_eq_true]at this;exact this.1.2.2.2.2.2 t ht
theorem Right.due{js:List M.Jb}(h:M.Right now uB bs js){j:M.Jb}(hj:j∈js):free (dueT (now+5)) j.ts=free leased j.ts:=by
 refine free_congr fun t ht=>?_;have h1:=h.tk hj ht;unfold tkOk at h1;unfold dueT;by_cases hw:t.l'=0
 ·simp[leased,hw]
 ·
  simp only[hw,decide_false,Bool.false_and,Bool.false_or,uU,decide_eq_true_eq]at h1;rw[show decide (t.due≤now+5)=true by simpa using h1.2.2.2,Bool.and_true]
theorem mem_wkT{ts:List Tk}(hw:who≠0):who∈wkT ts↔∃t∈ts,t.l'=who:=by
 unfold wkT;simp only[List.mem_map,List.mem_filter,leased]
 constructor
 ·rintro⟨t,⟨h1,_⟩,h3⟩;exact⟨t,h1,h3⟩
 ·rintro⟨t,h1,h2⟩;exact⟨t,⟨h1,by simp[h2,hw]⟩,h2⟩
theorem free_out{ts:List Tk}(h:∀t∈ts,t.l'≠who):free (mineT who) ts=ts:=by
 unfold free
 conv=>rhs;rw[←List.map_id ts]
 exact List.map_congr_left fun t ht=>by simp[mineT,h t ht]
theorem free_in(hw:who≠0):∀{ts:List Tk} {k:Nat},(wkT ts).Nodup→k<ts.length→(ts.getD k t0).l'=who→free (mineT who) ts=ts.set k t0
 | [],_,_,h,_=>by simp at h
 | t::l,0,hn,_,h=>by
  have ht:t.l'=who:=h;have hl:leased t=true:=(by simp[leased,ht,hw]);have Aa:=hn;unfold wkT at Aa;rw[List.filter_cons,if_pos hl,List.map_cons,List.nodup_cons]at Aa;have Ca:∀x∈l,x.l'≠who:=fun x hx e=>Aa.1 (by rw[ht];exact(mem_wkT hw).2 ⟨x,hx,e⟩);show(if mineT who t then t0 else t)::free (mineT who) l=_;rw[free_out Ca,if_pos (by simp[mineT,ht])]
  rfl
 | t::l,k+1,hn,hk,h=>by
  have Ba:k<l.length:=(by simpa using hk);have hx:(l.getD k t0).l'=who:=h;have Da:who∈wkT l:=(mem_wkT hw).2 ⟨l.getD k t0,by rw[m4,m6 Ba];simp,hx⟩;have Aa:=hn;unfold wkT at Aa;rw[List.filter_cons]at Aa
  have ht:t.l'≠who:=fun e=>by
   have hl:leased t=true:=(by simp[leased,e,hw]);rw[if_pos hl,List.map_cons,List.nodup_cons,e]at Aa;exact Aa.1 Da
  have Ea:(wkT l).Nodup:=by
   split at Aa
   ·rw[List.map_cons,List.nodup_cons]at Aa;exact Aa.2
   ·exact Aa
  show(if mineT who t then t0 else t)::free (mineT who) l=_;rw[free_in hw Ea Ba hx,if_neg (by simp[mineT,ht])]
  rfl
theorem wks_cons(j:Jb)(l:List Jb):wks (j::l)=wkT j.ts++wks l:=by simp[wks]
theorem mem_wks{js:List Jb}(hw:who≠0):who∈wks js↔∃j∈js,∃t∈j.ts,t.l'=who:=by
 unfold wks;rw[uO];exact⟨fun⟨j,hj,h⟩=>⟨j,hj,(mem_wkT hw).1 h⟩,fun⟨j,hj,h⟩=>⟨j,hj,(mem_wkT hw).2 h⟩⟩
theorem freeJ_out{js:List Jb}(h:∀j∈js,∀t∈j.ts,t.l'≠who):js.map (freeJ (mineT who))=js:=by
 conv=>rhs;rw[←List.map_id js]
 exact List.map_congr_left fun j hj=>by unfold freeJ;rw[free_out (h j hj)];rfl
theorem free_js(hw:who≠0):∀{js:List Jb} {i k:Nat},(wks js).Nodup→i<js.length→k<(js.getD i j0).ts.length→((js.getD i j0).ts.getD k t0).l'=who→js.map (freeJ (mineT who))=setT js i k t0
 | [],_,_,_,h,_,_=>by simp at h
 | j::l,0,k,hn,_,hk,h=>by
  rw[wks_cons,List.nodup_append]at hn;have hk':k<j.ts.length:=hk;have h':(j.ts.getD k t0).l'=who:=h;have hmem:who∈wkT j.ts:=(mem_wkT hw).2 ⟨j.ts.getD k t0,by rw[m4,m6 hk'];simp,h'⟩;have hout:∀x∈l,∀t∈x.ts,t.l'≠who:=fun x hx t ht e=>hn.2.2 who hmem who ((mem_wks hw).2 ⟨x,hx,t,ht,e⟩) rfl;rw[List.map_cons,freeJ_out hout];unfold setT freeJ;rw[free_in hw hn.1 hk' h']
  rfl
 | j::l,i+1,k,hn,hi,hk,h=>by
  rw[wks_cons,List.nodup_append]at hn;have hi':i<l.length:=(by simpa using hi);have hk':k<(l.getD i j0).ts.length:=hk;have h':((l.getD i j0).ts.getD k t0).l'=who:=h;have hmem:=(mem_wks hw).2 ⟨l.getD i j0,getD_mem hi',(l.getD i j0).ts.getD k t0,getD_mem hk',h'⟩;have hout:∀t∈j.ts,t.l'≠who:=fun t ht e=>hn.2.2 who ((mem_wkT hw).2 ⟨t,ht,e⟩) who hmem rfl;rw[List.map_cons,free_js hw hn.2.1 hi' hk' h'];unfold setT freeJ;rw[free_out hout]
  rfl
theorem bn_rise:∀{bs:List Int} {last:Int},bnGo last bs=true→(∀x∈bs,last<x∧wkOk x=true)∧bs.Pairwise (·< ·)
 | [],_,_=>⟨fun x hx=>by simp at hx,List.Pairwise.nil⟩
 | y::l,last,h=>by
  unfold bnGo at h;simp only[uU,decide_eq_true_eq]at h;obtain⟨h1,h2⟩:=bn_rise h.2;refine⟨fun x hx=>?_,List.pairwise_cons.2 ⟨fun x hx=>(h1 x hx).1,h2⟩⟩
  rcases List.mem_cons.1 hx with rfl | hx
  ·exact⟨h.1.1,h.1.2⟩
  ·exact⟨by have:=(h1 x hx).1;omega,(h1 x hx).2⟩
theorem wk_mem:x∈([1,2,3,4,5,6,7,8,9]:List Int)↔wkOk x=true:=by
 unfold wkOk;simp only[List.mem_cons,List.not_mem_nil,or_false,uU,decide_eq_true_eq];omega
theorem mem_banned:x∈banned bs who↔wkOk x=true∧(x=who∨x∈bs):=by
 unfold banned;rw[List.mem_filter,wk_mem];simp
theorem banned_pw(bs:List Int)(who:Int):(banned bs who).Pairwise (·< ·):=List.Pairwise.filter _ (by decide)
theorem banned_sorted{srt:List Int}(hb:bnGo 0 bs=true)(hw:wkOk who=true)(hn:bs.contains who=false)(hs:srt.Pairwise (·≤·))(hp:srt.Perm (bs++[who])):srt=banned bs who:=by
 obtain⟨h1,h2⟩:=bn_rise hb;have Aa:who∉bs:=by simpa using hn
 have nd:(bs++[who]).Nodup:=by
  rw[List.nodup_append];exact⟨h2.imp (fun h=>by omega),by simp,fun a ha b hb e=>Aa (by simp at hb;rw[←hb,←e];exact ha)⟩
 have nb:(banned bs who).Nodup:=(banned_pw bs who).imp (fun h=>by omega)
 have Ba:=(List.perm_ext_iff_of_nodup nd nb).2 fun x=>by
  rw[mem_banned,uG,List.mem_singleton]
  constructor
  ·
   rintro(h | rfl)
   ·exact⟨(h1 x h).2,.inr h⟩
   ·exact⟨hw,.inl rfl⟩
  ·
   rintro⟨_,rfl | h⟩
   ·exact .inr rfl
   ·exact .inl h
 exact List.Perm.eq_of_pairwise (le:=(·≤·)) (fun a b _ _ h h'=>by omega) hs ((banned_pw bs who).imp (fun h=>by omega)) (hp.trans Ba)
end M
theorem fD(now uB who:Int)(w:World)(hz:aw w ab nb cb bs):
  Rt 46 #[.agg #[.int .i64 now,.int .i64 uB,.slice ab nb cb,.slice aj nj cj],.int .i64 who] w (.bool (bs.contains who)):=by
 have bn:(nb:Int)≤9223372036854775807:=(by have:=hz.big;have:=hz.le;omega);have Ga:(nb:Int)≤cb:=(by have:=hz.le;omega);have Da:=ct w (aI now uB ab nb cb aj nj cj) 27;have Aa:H9 (m1 w (w.alloc (.cells (aI now uB ab nb cb aj nj cj).toArray 27))):=(m5 _ _).alloc (m3 _) _;have HZ:=Hd (hz.below Aa.o);generalize hR:bs.contains who=R;have HR:=Hd hR;clear hR hz;go_enter func46,ntmps46;go_wp2;generalize(w.alloc (.cells (aI now uB ab nb cb aj nj cj).toArray 27))=w1 at *;have x2:=Da.c 2
 go_loop [5] (fun i=>∃k:Nat,k≤nb∧i=it k∧(bs.drop k).contains who=R) (fun i=>nb-(intOf i).toNat)
 case atStart=>exact⟨0,by omega,rfl,HR.o⟩
 case round=>
  obtain⟨k,hk,rfl,hg⟩:=hrel;by_cases Ba:k<nb
  ·
   obtain⟨b1,o1,rfl,Ca⟩:=HZ.o.at (by omega);have c1:=Ca k Ba
   have hG:(who==bs.getD k 0||(bs.drop (k+1)).contains who)=R:=by
    rw[←hg,aY 0 HZ.o.len Ba,List.contains_cons]
   generalize bs.getD k 0=x at c1 hG;have HG:=Hd hG;clear Ca hg hG;have hI:(k:Int)<(nb:Int):=(by omega);by_cases hx:who=x
   ·
    have hb:(who==x)=true:=(by simp[hx]);have Ea:(x==who)=true:=(by simp[hx]);have HT:H9 (true=R):=(by show _=_;have:=HG.o;rw[hb,Bool.true_or]at this;exact this);clear hx;go_wp2;go_ret;exact⟨aD HT.o,Aa.o⟩
   ·
    have hb:(who==x)=false:=(by simp[hx]);have Ea:(x==who)=false:=(by simp;exact fun e=>hx e.symm);have Fa:H9 ((bs.drop (k+1)).contains who=R):=(by show _=_;have:=HG.o;rw[hb,Bool.false_or]at this;exact this);clear hx;go_wp2
    go_round
    case rel=>exact⟨k+1,by omega,by go_num,Fa.o⟩
    case measure=>simp[intOf];omega
  ·
   go_wp2;go_ret;refine⟨aD ?_,Aa.o⟩;rw[m9 (by rw[HZ.o.len];omega)]at hg;exact hg
theorem i4{ta:Option Addr}{tn tc:Nat}{tl:List M.Tk}(jid a b c d f k a' b' c' d' f' k' s1 s2 jr:Int)(jg:Bool)(w:World)(hz:bW w ta tn tc tl):
  Rt 45 #[.agg #[.int .i64 jid,.int .i64 a,.int .i64 b,.int .i64 c,.int .i64 d,.int .i64 f,.int .i64 k,.int .i64 a',.int .i64 b',.int .i64 c',.int .i64 d',.int .i64 f',.int .i64 k',.int .i64 s1,.int .i64 s2,.int .i64 jr,.bool jg,.slice ta tn tc]] w (.bool (tl.all (·.done))):=by
 have bn:(tn:Int)≤9223372036854775807:=(by have:=hz.big;have:=hz.le;omega);have Fa:(tn:Int)≤tc:=(by have:=hz.le;omega);have Da:=ct w (ce jid a b c d f k a' b' c' d' f' k' s1 s2 jr jg ta tn tc) 45;have Aa:H9 (m1 w (w.alloc (.cells (ce jid a b c d f k a' b' c' d' f' k' s1 s2 jr jg ta tn tc).toArray 45))):=(m5 _ _).alloc (m3 _) _;have HZ:=Hd (hz.below Aa.o);generalize hR:tl.all (·.done)=R;have HR:=Hd hR;clear hR hz;go_enter func45,ntmps45;go_wp2;generalize w.alloc (.cells (ce jid a b c d f k a' b' c' d' f' k' s1 s2 jr jg ta tn tc).toArray 45)=w1 at *;have Ga:=Da.c 17
 go_loop [3] (fun i=>∃q:Nat,q≤tn∧i=it q∧(tl.drop q).all (·.done)=R) (fun i=>tn-(intOf i).toNat)
 case atStart=>exact⟨0,by omega,rfl,HR.o⟩
 case round=>
  obtain⟨q,hq,rfl,hg⟩:=hrel;by_cases Ba:q<tn
  ·
   obtain⟨b1,o1,rfl,Ca⟩:=HZ.o.at (by omega);have c1:w1.cell? ⟨b1,o1+q*3,none⟩=some (.bool (tl.getD q M.t0).done):=Ca q Ba 0 (by omega)
   have hG:((tl.getD q M.t0).done&&(tl.drop (q+1)).all (·.done))=R:=by
    rw[←hg,aY M.t0 HZ.o.len Ba,List.all_cons]
   generalize(tl.getD q M.t0).done=x at c1 hG;have HG:=Hd hG;clear Ca hg hG;have hI:(q:Int)<(tn:Int):=by omega
   cases x with
   | false=>
    go_wp2;go_ret;exact⟨aD HG.o,Aa.o⟩
   | true=>
    have Ea:H9 ((tl.drop (q+1)).all (·.done)=R):=(by show _=_;have:=HG.o;rw[Bool.true_and]at this;exact this);go_wp2
    go_round
    case rel=>exact⟨q+1,by omega,by go_num,Ea.o⟩
    case measure=>simp[intOf];omega
  ·
   go_wp2;go_ret;refine⟨aD ?_,Aa.o⟩;rw[m9 (by rw[HZ.o.len];omega)]at hg;exact hg
set_option maxRecDepth 10000 in
theorem qH(now uB:Int)(tk:M.Tk)(h0:0≤now)(h1:now≤1000000000)(w:World)(hz:aw w ab nb cb bs):
  Rt 101 #[.agg #[.int .i64 now,.int .i64 uB,.slice ab nb cb,.slice aj nj cj],lO tk] w (.bool (M.spK now bs tk)):=by
 obtain⟨td,x,y⟩:=tk;unfold M.spK;dsimp only[lO];have C1:=c9 x 1 9;have C2:∀W,aw W ab nb cb bs→Rt 46 #[.agg (aI now uB ab nb cb aj nj cj).toArray,it x] W (.bool (bs.contains x)):=fun W h=>fD now uB x W h;have HZ:=Hd hz
 change∀w,Rq 58 #[.int .i64 x,.int .i64 1,.int .i64 9] w (.bool (M.wkOk x))at C1
 generalize bs.contains x=o2 at *;generalize M.wkOk x=o1 at *;clear hz;by_cases hd:td=true∨x=0
 ·
  have hc:(td||decide (x=0))=true:=(by rcases hd with e | e <;> simp[e]);rw[if_pos hc]
  rcases hd with rfl | rfl
  ·
   by_cases hx:x=0
   ·
    subst hx;go_enter func101,ntmps101;go_wp2;go_ret;exact⟨by by_cases hy:y=0 <;> simp[hy],((m5 _ _).alloc (m3 _) _).alloc (by simp) _⟩
   ·
    have gx:(x==0)=false:=(by simp[hx]);go_enter func101,ntmps101;go_wp2;go_ret;exact⟨by simp[hx],((m5 _ _).alloc (m3 _) _).alloc (by simp) _⟩
  ·
   cases td with
   | true=>
    go_enter func101,ntmps101;go_wp2;go_ret;exact⟨by by_cases hy:y=0 <;> simp[hy],((m5 _ _).alloc (m3 _) _).alloc (by simp) _⟩
   | false=>
    go_enter func101,ntmps101;go_wp2;go_ret;exact⟨by by_cases hy:y=0 <;> simp[hy],((m5 _ _).alloc (m3 _) _).alloc (by simp) _⟩
 ·
  have hx:¬ x=0:=fun e=>hd (.inr e)
  have Fa:td=false:=by cases td with
   | false=>rfl
   | true=>exact absurd (.inl rfl) hd
  subst Fa;rw[if_neg (by simp[hx])];have gx:(x==0)=false:=(by simp[hx]);clear hd;go_enter func101,ntmps101;have Aa:H9 (au ((w.alloc (.cells (aI now uB ab nb cb aj nj cj).toArray 27)).alloc (.cells #[.bool false,it x,it y] 47)) w.heap.size (aI now uB ab nb cb aj nj cj)):=(aO _ _ _).alloc _;have Ca:H9 (au ((w.alloc (.cells (aI now uB ab nb cb aj nj cj).toArray 27)).alloc (.cells #[.bool false,it x,it y] 47)) (w.heap.size+1) [.bool false,it x,it y]):=ba _ _ _ _;have Ba:H9 (m1 w ((w.alloc (.cells (aI now uB ab nb cb aj nj cj).toArray 27)).alloc (.cells #[.bool false,it x,it y] 47))):=((m5 _ _).alloc (m3 _) _).alloc (by simp) _;(go_wp2_with fail);generalize((w.alloc (.cells (aI now uB ab nb cb aj nj cj).toArray 27)).alloc (.cells #[.bool false,it x,it y] 47))=wa at *;refine(C1 _).mono ?_;rintro e wz ⟨rfl,Ea⟩;have Ga:=Ea.symm;clear Ea;subst Ga
  cases o1 with
  | false=>
   go_wp2;go_ret;exact⟨by simp,Ba.o⟩
  | true=>
   have x0:=Aa.c 0;have x1:=Aa.c 1;have x2:=Aa.c 2;have x3:=Aa.c 3;have y1:=Ca.c 1;(go_wp2_with fail);clear x0 x1 x2 x3 y1;refine(C2 _ (HZ.o.below Ba.o)).mono ?_;rintro e wb ⟨rfl,hb⟩;have Ha:=Aa.b hb;have Ia:=Ca.b hb;have Da:=Ba.t hb;clear Aa Ca Ba;clear hb
   cases o2 with
   | true=>
    go_wp2;go_ret;exact⟨by simp,Da.o⟩
   | false=>
    have x0:=Ha.c 0;have y2:=Ia.c 2;by_cases h2:now<y
    ·
     go_wp2;go_ret;exact⟨by simp[h2],Da.o⟩
    ·
     go_wp2;go_ret;exact⟨by simp;omega,Da.o⟩
theorem au.mid{W:World}{vs:List Value}(h:au W b vs)(o n:Nat):W.rangeAt b o ((vs.drop o).take n):=h.range o _ fun j v hv=>by
 rw[List.getElem?_take]at hv
 split at hv
 ·rwa[List.getElem?_drop]at hv
 ·cases hv
def ul(ops:Array Oper)(o:Oper)(a:Act):Option Value:=
 if Region.wanted o (yielded ops a.tmps)then
  match o.op with
  | .pick x y z=>match a.eval x with
   | .bool true=>some (a.eval y)
   | .bool false=>some (a.eval z)
   | _=>none
  | .move x=>some (a.eval x)
  | _=>none
 else some undef
theorem oW{a:Act}(h:ul ops o a=some v):YieldsIf P ops S o v a:=by
 unfold ul at h;by_cases hw:Region.wanted o (yielded ops a.tmps)=true
 ·
  rw[if_pos hw]at h;refine .inl ⟨hw,fun w _=>?_⟩
  split at h
  ·
   rename_i x y z ho
   split at h
   ·
    rename_i hx;injection h with h;subst h;simp[execOp,ho,hx,asBool]
   ·
    rename_i hx;injection h with h;subst h;simp[execOp,ho,hx,asBool]
   ·cases h
  ·
   rename_i x ho;injection h with h;subst h;simp[execOp,ho]
  ·cases h
 ·
  rw[if_neg hw]at h;injection h with h;exact .inr ⟨by simpa using hw,h.symm⟩
def sO(md:Region.Mode)(ops:Array Oper):List Nat→Array Bool→Act→Option Act
 | [],uA,a=>if Region.ready md ops uA=[]then some a else none
 | i::l,uA,a=>
  match ops[i]? with
  | none=>none
  | some o=>
   if Region.free md ops uA i=true∧(Region.ready md ops uA).contains i=true then
    match ul ops o a with
    | some v=>sO md ops l (uA.setIfInBounds i true) (a.put o.dst v)
    | none=>none
   else none
theorem kB(hs:Region.noSelect ops=true)(hQ:∀c a a' w,Q (.panic c) a' w→Q (.panic c) a w)(hS:S w):
  ∀(l:List Nat) (uz:Nat) (uA:Array Bool) (a:Act) {a':Act},l.length≤uz→sO md ops l uA a=some a'→Q .normal a' w→wpAnyH P md ops Q S uz uA a w
 | [],uz,uA,a,a',_,h,k=>by
  unfold sO at h
  split at h
  ·
   rename_i hr;injection h with h;subst h;exact wpAnyH_done hr k uz
  ·cases h
 | i::l,0,uA,a,a',hf,h,k=>by simp at hf
 | i::l,uz+1,uA,a,a',hf,h,k=>by
  unfold sO at h
  split at h
  ·cases h
  ·
   rename_i o ho
   split at h
   ·
    rename_i hc
    split at h
    ·
     rename_i v hv;exact wpAnyH_take ho hs hc.1 hc.2 (fun c a w=>hQ c _ _ w) (oW hv) hS (kB hs hQ hS l uz _ _ (by simpa using hf) h k)
    ·cases h
   ·cases h
theorem cO{uz:Nat}{uA:Array Bool}{a:Act}(l:List Nat)(ps:List (Nat×Value))(hs:Region.noSelect ops=true)(hQ:∀c a a' w,Q (.panic c) a' w→Q (.panic c) a w)(hS:S w)(hf:l.length≤uz)
 (h:sO md ops l uA a=some (ps.foldl (fun a p=>a.put (some p.1) p.2) a))(k:Q .normal (ps.foldl (fun a p=>a.put (some p.1) p.2) a) w):wpAnyH P md ops Q S uz uA a w:=kB hs hQ hS l uz uA a hf h k
set_option maxRecDepth 10000 in
theorem ju(jid a b c' d f k a' b' c'' d' f' k' s1 s2 jr:Int)(jg:Bool)(ta:Option Addr)(tn tc:Nat)(s':Int)(h0:0≤s')(h1:s'≤8)(r0:0≤jr)(r1:jr≤16)(w:World):
  Rt 60 #[.agg #[.int .i64 jid,.int .i64 a,.int .i64 b,.int .i64 c',.int .i64 d,.int .i64 f,.int .i64 k,.int .i64 a',.int .i64 b',.int .i64 c'',.int .i64 d',.int .i64 f',.int .i64 k',.int .i64 s1,.int .i64 s2,.int .i64 jr,.bool jg,.slice ta tn tc],.int .i64 s'] w (cM (ei ⟨⟨a,b,c',d,f,k⟩,⟨a',b',c'',d',f',k'⟩⟩ (s1,s2) (s'*(jr-1)))):=by
 have C1:=kV ⟨⟨a,b,c',d,f,k⟩,⟨a',b',c'',d',f',k'⟩⟩ (s1,s2) (s'*(jr-1))
 have Ia:-8≤s'*(jr-1):=by
  have e1:=Int.mul_nonneg h0 r0;have e2:s'*(jr-1)=s'*jr-s':=(by rw[Int.mul_sub,Int.mul_one]);omega
 have Ja:s'*(jr-1)≤128:=by
  have e1:=Int.mul_le_mul h1 r1 r0 (by omega);have e2:s'*(jr-1)=s'*jr-s':=(by rw[Int.mul_sub,Int.mul_one]);omega
 have Ya:IntKind.i64.wrap (jr-1)=jr-1:=(by rw[uQ];omega);have Ka:IntKind.i64.wrap (s'*(jr-1))=s'*(jr-1):=(by rw[uQ];omega);generalize ei ⟨⟨a,b,c',d,f,k⟩,⟨a',b',c'',d',f',k'⟩⟩ (s1,s2) (s'*(jr-1))=rs at *;generalize bE ⟨⟨a,b,c',d,f,k⟩,⟨a',b',c'',d',f',k'⟩⟩ (s1,s2) (s'*(jr-1))=ro at C1;dsimp only[da,cM]at C1 ⊢;generalize La:s'*(jr-1)=pm at C1 Ka Ia Ja;go_enter func60,ntmps60;have Aa:H9 (au ((w.alloc (.cells (ce jid a b c' d f k a' b' c'' d' f' k' s1 s2 jr jg ta tn tc).toArray 45)).alloc (.cells #[it 0,it 0] 33)) w.heap.size (ce jid a b c' d f k a' b' c'' d' f' k' s1 s2 jr jg ta tn tc)):=(aO _ _ _).alloc _;have Fa:H9 (au ((w.alloc (.cells (ce jid a b c' d f k a' b' c'' d' f' k' s1 s2 jr jg ta tn tc).toArray 45)).alloc (.cells #[it 0,it 0] 33)) (w.heap.size+1) [it 0,it 0]):=ba _ _ _ _;have Ca:H9 (m1 w ((w.alloc (.cells (ce jid a b c' d f k a' b' c'' d' f' k' s1 s2 jr jg ta tn tc).toArray 45)).alloc (.cells #[it 0,it 0] 33))):=((m5 _ _).alloc (m3 _) _).alloc (by simp) _;have y0:=Aa.c 0;have y1:=Aa.c 1;have y2:=Aa.c 2;have y3:=Aa.c 3;have y4:=Aa.c 4;have y5:=Aa.c 5;have y6:=Aa.c 6;have y7:=Aa.c 7;have y8:=Aa.c 8;have y9:=Aa.c 9;have Na:=Aa.c 10;have Oa:=Aa.c 11;have Pa:=Aa.c 12;have Qa:=Aa.c 13;have Ra:=Aa.c 14;have Sa:=Aa.c 15;have Ta:=Aa.c 16;have Ua:=Aa.c 17;(go_wp2_with fail);clear y0 y1 y2 y3 y4 y5 y6 y7 y8 y9 Na Oa Pa Qa Ra Sa Ta Ua La;generalize((w.alloc (.cells (ce jid a b c' d f k a' b' c'' d' f' k' s1 s2 jr jg ta tn tc).toArray 45)).alloc (.cells #[it 0,it 0] 33))=wa at *;clear Aa;refine(C1 _).mono ?_;rintro e wb ⟨rfl,hb⟩;have Ga:=Fa.b hb;have Da:=Ca.t hb;clear Fa Ca;clear hb;obtain⟨u,v⟩:=rs;dsimp only;have Ea:=eK wb (.cells #[it u,it v] 33);have Ba:=Ga.b Ea;have Va:=Da.t Ea;clear Ga Da;clear Ea;have Ha:=ct wb [it u,it v] 33;have z0:=Ba.c 0;have Za:=Ba.o.fr 0;have z1:=Ba.c 1;have Ab:=Ba.o.fr 1;have Bb:=Ha.c 0;have Cb:=Ha.c 1;(go_wp2_with fail);show bodyPost _ _ _ _ _ ((wb.alloc (.cells #[it u,it v] 33)).setCells (w.heap.size+1) 0 [it u,it v]);have Wa:au ((wb.alloc (.cells #[it u,it v] 33)).setCells (w.heap.size+1) 0 [it u,it v]) (w.heap.size+1) [it u,it v]:=Ba.o.setCells [it u,it v] 0 (by simp);have Xa:m1 w ((wb.alloc (.cells #[it u,it v] 33)).setCells (w.heap.size+1) 0 [it u,it v]):=Va.o.trans (aM _ 0 (m5 _ _) (by omega));generalize((wb.alloc (.cells #[it u,it v] 33)).setCells (w.heap.size+1) 0 [it u,it v])=wf at *;exact m7 (aS rfl rfl (uN wf (w.heap.size+1) 0 33 _ _ Wa.row underlying33 rfl (by kernel_rfl))) rfl ⟨rfl,Xa⟩
def bD(s1 s2 e1 e2:Int)(n1 n2 n3 n4:Nat):Bool:=(decide (s1=0)&&decide (s2=0))&&((decide (e1=0)&&decide (e2=0))&&decide (n1+n2+n3+n4=0))
set_option maxRecDepth 10000 in
theorem qG(s1 s2 e1 e2:Int){a1 a2 a3 a4:Option Addr}{n1 n2 n3 n4 c1 c2 c3 c4:Nat}(l1:n1≤1048576)(l2:n2≤1048576)(l3:n3≤1048576)(l4:n4≤1048576)(w:World):
  Rt 102 #[.agg #[.int .i64 s1,.int .i64 s2,.int .i64 e1,.int .i64 e2,.slice a1 n1 c1,.slice a2 n2 c2,.slice a3 n3 c3,.slice a4 n4 c4]] w (.bool (bD s1 s2 e1 e2 n1 n2 n3 n4)):=by
 go_enter func102,ntmps102;have Aa:=ct w (bp s1 s2 e1 e2 a1 n1 c1 a2 n2 c2 a3 n3 c3 a4 n4 c4) 35;have y0:=Aa.c 0;have y1:=Aa.c 1;have y2:=Aa.c 2;have y3:=Aa.c 3;have y4:=Aa.c 4;have y5:=Aa.c 5;have y6:=Aa.c 6;have y7:=Aa.c 7;have w1:IntKind.i64.wrap ((n1:Int)+n2)=(n1:Int)+n2:=(by rw[uQ];omega);have w2:IntKind.i64.wrap ((n1:Int)+n2+n3)=(n1:Int)+n2+n3:=(by rw[uQ];omega);have w3:IntKind.i64.wrap ((n1:Int)+n2+n3+n4)=(n1:Int)+n2+n3+n4:=by rw[uQ];omega
 have Ca:((n1:Int)+n2+n3+n4==0)=decide (n1+n2+n3+n4=0):=by
  by_cases h:n1+n2+n3+n4=0
  ·rw[decide_eq_true h];simp;omega
  ·rw[decide_eq_false h];simp;omega
 by_cases Da:s1=0
 case neg=>
  have Ba:H9 (m1 w ((w.alloc (.cells (bp s1 s2 e1 e2 a1 n1 c1 a2 n2 c2 a3 n3 c3 a4 n4 c4).toArray 35)).alloc (.cells #[it 0,it 0] 33))):=((m5 _ _).alloc (m3 _) _).alloc (by simp) _;have hF:bD s1 s2 e1 e2 n1 n2 n3 n4=false:=(by simp[bD,Da]);clear Aa;rw[hF];go_wp2;go_ret;exact⟨rfl,Ba.o⟩
 subst Da;by_cases Ea:s2=0
 case neg=>
  have Ba:H9 (m1 w ((w.alloc (.cells #[it 0,it s2,it e1,it e2,.slice a1 n1 c1,.slice a2 n2 c2,.slice a3 n3 c3,.slice a4 n4 c4] 35)).alloc (.cells #[it 0,it 0] 33))):=((m5 _ _).alloc (m3 _) _).alloc (by simp) _;have hF:bD 0 s2 e1 e2 n1 n2 n3 n4=false:=(by simp[bD,Ea]);clear Aa;rw[hF];go_wp2;go_ret;exact⟨rfl,Ba.o⟩
 subst Ea;by_cases Fa:e1=0
 case neg=>
  have Ba:H9 (m1 w ((w.alloc (.cells #[it 0,it 0,it e1,it e2,.slice a1 n1 c1,.slice a2 n2 c2,.slice a3 n3 c3,.slice a4 n4 c4] 35)).alloc (.cells #[it 0,it 0] 33))):=((m5 _ _).alloc (m3 _) _).alloc (by simp) _;have hF:bD 0 0 e1 e2 n1 n2 n3 n4=false:=(by simp[bD,Fa]);clear Aa;rw[hF];go_wp2;go_ret;exact⟨rfl,Ba.o⟩
 subst Fa;by_cases Ga:e2=0
 case neg=>
  have Ba:H9 (m1 w ((w.alloc (.cells #[it 0,it 0,it 0,it e2,.slice a1 n1 c1,.slice a2 n2 c2,.slice a3 n3 c3,.slice a4 n4 c4] 35)).alloc (.cells #[it 0,it 0] 33))):=((m5 _ _).alloc (m3 _) _).alloc (by simp) _;have hF:bD 0 0 0 e2 n1 n2 n3 n4=false:=(by simp[bD,Ga]);clear Aa;rw[hF];go_wp2;go_ret;exact⟨rfl,Ba.o⟩
 subst Ga;have Ba:H9 (m1 w ((w.alloc (.cells #[it 0,it 0,it 0,it 0,.slice a1 n1 c1,.slice a2 n2 c2,.slice a3 n3 c3,.slice a4 n4 c4] 35)).alloc (.cells #[it 0,it 0] 33))):=((m5 _ _).alloc (m3 _) _).alloc (by simp) _;have hF:bD 0 0 0 0 n1 n2 n3 n4=((n1:Int)+n2+n3+n4==0):=(by rw[Ca];simp[bD]);clear Ca;clear Aa;rw[hF];go_wp2;go_ret;exact⟨rfl,Ba.o⟩
end Go.Proofs.YtjcjonncaknhnaaGreatDoor
