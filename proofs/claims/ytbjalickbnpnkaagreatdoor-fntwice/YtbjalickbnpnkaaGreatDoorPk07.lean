import Derived.Test.YtbjalickbnpnkaaGreatDoorPk06
namespace Go.Proofs.YtbjalickbnpnkaaGreatDoor
open Go.RowKit Go.Proofs.Tryz
set_option linter.unusedSimpArgs false
set_option maxHeartbeats 32000000
variable {ab aj a:Option Addr}{nb cb nj cj b n c mb:Nat}{bs zs:List Int}{P:Program}{ops:Array Oper}{S:World->Prop}{md:Region.Mode}{Q:Exit->Act->World->Prop}{w:World}{js:List M.Jb}
theorem gv(now sr who:Int)(w:World)(hz:aC w ab nb cb bs):
  Rt 27 #[.agg #[it now,it sr,.slice ab nb cb,.slice aj nj cj],it who] w (.bool (bs.contains who)):=by
 have bn:(nb:Int)<=9223372036854775807:=(by have:=hz.big;have:=hz.le;omega);have Ga:(nb:Int)<=cb:=(by have:=hz.le;omega);have Da:=cQ w (aJ now sr ab nb cb aj nj cj) 27;have Aa:H7 (m1 w (w.alloc (.cells (aJ now sr ab nb cb aj nj cj).toArray 27))):=(m8 _ _).alloc (m3 _) _;have HZ:=Hd (hz.below Aa.o);generalize hR:bs.contains who=R;have HR:=Hd hR;clear hR hz;go_enter func27,ntmps27;go_wp2;generalize(w.alloc (.cells (aJ now sr ab nb cb aj nj cj).toArray 27))=w1 at *;have x2:=Da.c 2
 go_loop [5] (λi=>∃k:Nat,k<=nb/\i=it k/\(bs.drop k).contains who=R) (λi=>nb-(intOf i).toNat)
 case atStart=>exact⟨0,by omega,rfl,HR.o⟩
 case round=>
  obtain⟨k,hk,rfl,hg⟩:=hrel;by_cases Ba:k<nb
  ·
   obtain⟨b1,o1,rfl,Ca⟩:=HZ.o.at (by omega);have c1:=Ca k Ba
   have hG:(who==bs.getD k 0||(bs.drop (k+1)).contains who)=R:=by
    rw[<-hg,aX 0 HZ.o.len Ba,List.contains_cons]
   generalize bs.getD k 0=x at c1 hG;have HG:=Hd hG;clear Ca hg hG;have hI:(k:Int)<(nb:Int):=(by omega);by_cases hx:who=x
   ·
    have hb:(who==x)=true:=(by simp[hx]);have Ea:(x==who)=true:=(by simp[hx]);have HT:H7 (true=R):=(by show _=_;have:=HG.o;rw[hb,Bool.true_or]at this;exact this);clear hx;go_wp2;go_ret;exact⟨aB HT.o,Aa.o⟩
   ·
    have hb:(who==x)=false:=(by simp[hx]);have Ea:(x==who)=false:=(by simp;exact λe=>hx e.symm);have Fa:H7 ((bs.drop (k+1)).contains who=R):=(by show _=_;have:=HG.o;rw[hb,Bool.false_or]at this;exact this);clear hx;go_wp2
    go_round
    case rel=>exact⟨k+1,by omega,by go_num,Fa.o⟩
    case measure=>simp[intOf];omega
  ·
   go_wp2;go_ret;refine⟨aB ?_,Aa.o⟩;rw[t' (by rw[HZ.o.len];omega)]at hg;exact hg
theorem jT{ta:Option Addr}{tn tc:Nat}{tl:List M.Tk}(jid a b c d f k a' b' c' d' f' k' s1 s2 jr:Int)(jg:Bool)(w:World)(hz:bS w ta tn tc tl):
  Rt 26 #[.agg #[it jid,it a,it b,it c,it d,it f,it k,it a',it b',it c',it d',it f',it k',it s1,it s2,it jr,.bool jg,.slice ta tn tc]] w (.bool (tl.all (·.done))):=by
 have bn:(tn:Int)<=9223372036854775807:=(by have:=hz.big;have:=hz.le;omega);have Fa:(tn:Int)<=tc:=(by have:=hz.le;omega);have Da:=cQ w (bO jid a b c d f k a' b' c' d' f' k' s1 s2 jr jg ta tn tc) 70;have Aa:H7 (m1 w (w.alloc (.cells (bO jid a b c d f k a' b' c' d' f' k' s1 s2 jr jg ta tn tc).toArray 70))):=(m8 _ _).alloc (m3 _) _;have HZ:=Hd (hz.below Aa.o);generalize hR:tl.all (·.done)=R;have HR:=Hd hR;clear hR hz;go_enter func26,ntmps26;go_wp2;generalize w.alloc (.cells (bO jid a b c d f k a' b' c' d' f' k' s1 s2 jr jg ta tn tc).toArray 70)=w1 at *;have Ga:=Da.c 17
 go_loop [3] (λi=>∃q:Nat,q<=tn/\i=it q/\(tl.drop q).all (·.done)=R) (λi=>tn-(intOf i).toNat)
 case atStart=>exact⟨0,by omega,rfl,HR.o⟩
 case round=>
  obtain⟨q,hq,rfl,hg⟩:=hrel;by_cases Ba:q<tn
  ·
   obtain⟨b1,o1,rfl,Ca⟩:=HZ.o.at (by omega);have c1:w1.cell? ⟨b1,o1+q*3,none⟩=some (.bool (tl.getD q M.t0).done):=Ca q Ba 0 (by omega)
   have hG:((tl.getD q M.t0).done&&(tl.drop (q+1)).all (·.done))=R:=by
    rw[<-hg,aX M.t0 HZ.o.len Ba,List.all_cons]
   generalize(tl.getD q M.t0).done=x at c1 hG;have HG:=Hd hG;clear Ca hg hG;have hI:(q:Int)<(tn:Int):=by omega
   cases x with
   | false=>
    go_wp2;go_ret;exact⟨aB HG.o,Aa.o⟩
   | true=>
    have Ea:H7 ((tl.drop (q+1)).all (·.done)=R):=(by show _=_;have:=HG.o;rw[Bool.true_and]at this;exact this);go_wp2
    go_round
    case rel=>exact⟨q+1,by omega,by go_num,Ea.o⟩
    case measure=>simp[intOf];omega
  ·
   go_wp2;go_ret;refine⟨aB ?_,Aa.o⟩;rw[t' (by rw[HZ.o.len];omega)]at hg;exact hg
set_option maxRecDepth 10000 in
theorem sz(now sr:Int)(tk:M.Tk)(h0:0<=now)(h1:now<=1000000000)(w:World)(hz:aC w ab nb cb bs):
  Rt 56 #[.agg #[it now,it sr,.slice ab nb cb,.slice aj nj cj],nt tk] w (.bool (M.spK now bs tk)):=by
 obtain⟨td,x,y⟩:=tk;unfold M.spK;dsimp only[nt];have C1:=dn x 1 9;have C2:∀W,aC W ab nb cb bs->Rt 27 #[.agg (aJ now sr ab nb cb aj nj cj).toArray,it x] W (.bool (bs.contains x)):=λW h=>gv now sr x W h;have HZ:=Hd hz
 change∀w,Rq 52 #[it x,it 1,it 9] w (.bool (M.wkOk x))at C1
 generalize bs.contains x=o2 at *;generalize M.wkOk x=o1 at *;clear hz;by_cases hd:td=true\/x=0
 ·
  have hc:(td||decide (x=0))=true:=(by rcases hd with e | e <;> simp[e]);rw[if_pos hc]
  rcases hd with rfl | rfl
  ·
   by_cases hx:x=0
   ·
    subst hx;go_enter func56,ntmps56;go_wp2;go_ret;exact⟨by by_cases hy:y=0 <;> simp[hy],((m8 _ _).alloc (m3 _) _).alloc (by simp) _⟩
   ·
    have gx:(x==0)=false:=(by simp[hx]);go_enter func56,ntmps56;go_wp2;go_ret;exact⟨by simp[hx],((m8 _ _).alloc (m3 _) _).alloc (by simp) _⟩
  ·
   cases td with
   | true=>
    go_enter func56,ntmps56;go_wp2;go_ret;exact⟨by by_cases hy:y=0 <;> simp[hy],((m8 _ _).alloc (m3 _) _).alloc (by simp) _⟩
   | false=>
    go_enter func56,ntmps56;go_wp2;go_ret;exact⟨by by_cases hy:y=0 <;> simp[hy],((m8 _ _).alloc (m3 _) _).alloc (by simp) _⟩
 ·
  have hx:¬ x=0:=λe=>hd (.inr e)
  have Fa:td=false:=by cases td with
   | false=>rfl
   | true=>exact absurd (.inl rfl) hd
  subst Fa;rw[if_neg (by simp[hx])];have gx:(x==0)=false:=(by simp[hx]);clear hd;go_enter func56,ntmps56;have Aa:H7 (aw ((w.alloc (.cells (aJ now sr ab nb cb aj nj cj).toArray 27)).alloc (.cells #[.bool false,it x,it y] 75)) w.heap.size (aJ now sr ab nb cb aj nj cj)):=(aQ _ _ _).alloc _;have Ca:H7 (aw ((w.alloc (.cells (aJ now sr ab nb cb aj nj cj).toArray 27)).alloc (.cells #[.bool false,it x,it y] 75)) (w.heap.size+1) [.bool false,it x,it y]):=aZ _ _ _ _;have Ba:H7 (m1 w ((w.alloc (.cells (aJ now sr ab nb cb aj nj cj).toArray 27)).alloc (.cells #[.bool false,it x,it y] 75))):=((m8 _ _).alloc (m3 _) _).alloc (by simp) _;(go_wp2_with fail);generalize((w.alloc (.cells (aJ now sr ab nb cb aj nj cj).toArray 27)).alloc (.cells #[.bool false,it x,it y] 75))=wa at *;refine(C1 _).mono ?_;rintro e wz ⟨rfl,Ea⟩;have Ga:=Ea.symm;clear Ea;subst Ga
  cases o1 with
  | false=>
   go_wp2;go_ret;exact⟨by simp,Ba.o⟩
  | true=>
   have x0:=Aa.c 0;have x1:=Aa.c 1;have x2:=Aa.c 2;have x3:=Aa.c 3;have y1:=Ca.c 1;(go_wp2_with fail);clear x0 x1 x2 x3 y1;refine(C2 _ (HZ.o.below Ba.o)).mono ?_;rintro e wb ⟨rfl,hb⟩;have Ha:=Aa.b hb;have Ia:=Ca.b hb;have Da:=Ba.t hb;clear Aa Ca Ba;clear hb
   cases o2 with
   | true=>
    go_wp2;go_ret;exact⟨by simp,Da.o⟩
   | false=>
    have x0:=Ha.c 0;have y2:=Ia.c 2;by_cases h2:now<y
    ·
     go_wp2;go_ret;exact⟨by simp[h2],Da.o⟩
    ·
     go_wp2;go_ret;exact⟨by simp;omega,Da.o⟩
theorem aw.mid{W:World}{vs:List Value}(h:aw W b vs)(o n:Nat):W.rangeAt b o ((vs.drop o).take n):=h.range o _ λj v hv=>by
 rw[List.getElem?_take]at hv
 split at hv
 .rwa[List.getElem?_drop]at hv
 .cases hv
def wR(ops:Array Oper)(o:Oper)(a:Act):Option Value:=
 if Region.wanted o (yielded ops a.tmps)then
  match o.op with
  | .pick x y z=>match a.eval x with
   | .bool true=>some (a.eval y)
   | .bool false=>some (a.eval z)
   | _=>none
  | .move x=>some (a.eval x)
  | _=>none
 else some undef
theorem qH{o:Oper}{a:Act}{v:Value}(h:wR ops o a=some v):YieldsIf P ops S o v a:=by
 unfold wR at h;by_cases hw:Region.wanted o (yielded ops a.tmps)=true
 ·
  rw[if_pos hw]at h;refine .inl ⟨hw,λw _=>?_⟩
  split at h
  ·
   rename_i x y z ho
   split at h
   ·
    rename_i hx;injection h with h;subst h;simp[execOp,ho,hx,asBool]
   ·
    rename_i hx;injection h with h;subst h;simp[execOp,ho,hx,asBool]
   .cases h
  ·
   rename_i x ho;injection h with h;subst h;simp[execOp,ho]
  .cases h
 ·
  rw[if_neg hw]at h;injection h with h;exact .inr ⟨by simpa using hw,h.symm⟩
def uK(md:Region.Mode)(ops:Array Oper):List Nat->Array Bool->Act->Option Act
 | [],rr,a=>if Region.ready md ops rr=[]then some a else none
 | i::l,rr,a=>
  match ops[i]? with
  | none=>none
  | some o=>
   if Region.free md ops rr i=true/\(Region.ready md ops rr).contains i=true then
    match wR ops o a with
    | some v=>uK md ops l (rr.setIfInBounds i true) (a.put o.dst v)
    | none=>none
   else none
theorem lJ(hs:Region.noSelect ops=true)(hQ:∀c a a' w,Q (.panic c) a' w->Q (.panic c) a w)(hS:S w):
  ∀(l:List Nat) (py:Nat) (rr:Array Bool) (a:Act) {a':Act},l.length<=py->uK md ops l rr a=some a'->Q .normal a' w->wpAnyH P md ops Q S py rr a w
 | [],py,rr,a,a',_,h,k=>by
  unfold uK at h
  split at h
  ·
   rename_i hr;injection h with h;subst h;exact wpAnyH_done hr k py
  .cases h
 | i::l,0,rr,a,a',hf,h,k=>by simp at hf
 | i::l,py+1,rr,a,a',hf,h,k=>by
  unfold uK at h
  split at h
  .cases h
  ·
   rename_i o ho
   split at h
   ·
    rename_i hc
    split at h
    ·
     rename_i v hv;exact wpAnyH_take ho hs hc.1 hc.2 (λc a w=>hQ c _ _ w) (qH hv) hS (lJ hs hQ hS l py _ _ (by simpa using hf) h k)
    .cases h
   .cases h
theorem cY{py:Nat}{rr:Array Bool}{a:Act}(l:List Nat)(ps:List (Nat×Value))(hs:Region.noSelect ops=true)(hQ:∀c a a' w,Q (.panic c) a' w->Q (.panic c) a w)(hS:S w)(hf:l.length<=py)
 (h:uK md ops l rr a=some (ps.foldl (λa p=>a.put (some p.1) p.2) a))(k:Q .normal (ps.foldl (λa p=>a.put (some p.1) p.2) a) w):wpAnyH P md ops Q S py rr a w:=lJ hs hQ hS l py rr a hf h k
set_option maxRecDepth 10000 in
theorem sf(now sr:Int)(h0:0<=now)(h1:now<=1000000000)(g0:1<=sr)(g1:sr<=1000000000)(w:World)(hz:fQ w aj nj cj js):
  Rt 92 #[.agg #[it now,it sr,.slice ab nb cb,.slice aj nj cj]] w (.bool (decide (nj<=6)&&M.jsGo now sr 0 js)):=by
 have bn:(nj:Int)<=9223372036854775807:=(by have:=hz.big;have:=hz.le;omega);have HZ:=Hd hz;have Ka:=cQ w (aJ now sr ab nb cb aj nj cj) 27;have Ia:H7 (m1 w (w.alloc (.cells (aJ now sr ab nb cb aj nj cj).toArray 27))):=(m8 _ _).alloc (m3 _) _;clear hz;by_cases hs:nj<=6
 ·
  have Xa:(nj:Int)<=6:=(by omega);rw[show decide (nj<=6)=true by simpa using hs,Bool.true_and];generalize hR:M.jsGo now sr 0 js=R;have HR:=Hd hR;clear hR;go_enter func92,ntmps92;go_wp2
  go_loopw [3,13] (λl i wr=>∃(j:Nat) (q:Int),j<=nj/\i=it j/\l=it q/\0<=q/\q<=1000000000/\M.jsGo now sr q (js.drop j)=R/\aw wr w.heap.size (aJ now sr ab nb cb aj nj cj)/\m1 w wr) (λ_ i _=>nj-(intOf i).toNat)
  case atStart=>exact⟨0,0,by omega,rfl,rfl,by omega,by omega,HR.o,Ka.o,Ia.o⟩
  case round=>
   obtain⟨j,q,hj,rfl,rfl,Fb,Gb,hg,La,Na⟩:=hrel;have Ea:=Hd Na;have Oa:=Hd La;clear Na La Ka Ia HR;by_cases Pa:j<nj
   ·
    obtain⟨b1,o1,rfl,Qa⟩:=(HZ.o.below Ea.o).at (by omega);obtain⟨ta,tc,hA,hT⟩:=Qa j Pa;have hI:(j:Int)<(nj:Int):=by omega
    have hG:(((decide (q+1<=(js.getD j M.j0).id)&&decide ((js.getD j M.j0).id<=sr-1))&&M.jbOk now (js.getD j M.j0))&&M.jsGo now sr (js.getD j M.j0).id (js.drop (j+1)))=R:=by
     rw[<-hg,aX M.j0 HZ.o.len Pa];rfl
    generalize js.getD j M.j0=cq at hA hT hG;obtain⟨Aa,⟨⟨a,b,c',d,f,k⟩,⟨a',b',Ba,d',f',k'⟩⟩,⟨s1,s2⟩,jr,jg,tl⟩:=cq;dsimp only at hT hG;have hR:wr.rangeAt b1 (o1+j*18) (fk ⟨Aa,⟨⟨a,b,c',d,f,k⟩,⟨a',b',Ba,d',f',k'⟩⟩,(s1,s2),jr,jg,tl⟩ ta tc):=bN rfl hA;have HT:=Hd hT;have C2:∀W,bS W ta tl.length tc tl->Rt 142 #[.agg (fk ⟨Aa,⟨⟨a,b,c',d,f,k⟩,⟨a',b',Ba,d',f',k'⟩⟩,(s1,s2),jr,jg,tl⟩ ta tc).toArray,it now] W (.bool (M.jbOk now ⟨Aa,⟨⟨a,b,c',d,f,k⟩,⟨a',b',Ba,d',f',k'⟩⟩,(s1,s2),jr,jg,tl⟩)):=λW h=>tY Aa a b c' d f k a' b' Ba d' f' k' s1 s2 jr jg now h0 h1 W h;have C1:=cI Aa (q+1) (sr-1);dsimp only[fk]at hR C2;generalize M.jbOk now ⟨Aa,⟨⟨a,b,c',d,f,k⟩,⟨a',b',Ba,d',f',k'⟩⟩,(s1,s2),jr,jg,tl⟩=Ya at hG C2;generalize tl.length=tn at hR HT C2;generalize Ca:(decide (q+1<=Aa)&&decide (Aa<=sr-1))=Za at hG C1;have Ab:=Hd Ca;have HG:=Hd hG;clear Qa hA hT hg hG Ca;(go_wp2_with(with_reducible refine au 16 ?_ ?_;rfl));with_reducible refine dY 70 b1 (o1+j*18) (bO Aa a b c' d f k a' b' Ba d' f' k' s1 s2 jr jg ta tn tc) hR underlying70 ?q5 ?_
    case q5=>exact⟨rfl,rfl,by kernel_rfl,_,rfl,by kernel_rfl⟩
    have Ra:=Hd Oa.o;have Ja:=Hd Ea.o;have Sa:=Hd HT.o;clear Oa Ea HT hR;(go_wp2_with(with_reducible refine au 5 ?_ ?_;rfl));show wpList _ _ _ _ _ _;have Ta:(Instr.alloc 70 true (.tuple #[])).run prog wr=.ok (tG wr.heap.size) (wr.alloc (.cells eG.toArray 70)):=(by kernel_rfl);with_reducible refine ch ?qg 70 ?qo eG.toArray Ta ?_
    case qg | qo=>exact rfl
    clear Ta;show wpList _ _ _ _ _ _;with_reducible refine Hx (eF 70 wr.heap.size 0 (bO Aa a b c' d f k a' b' Ba d' f' k' s1 s2 jr jg ta tn tc) ?q6 ?q5 ?_)
    case q6=>exact(aQ _ _ _).there _ 18 (by simp)
    case q5=>exact⟨rfl,by kernel_rfl,by kernel_rfl,_,_,rfl,by kernel_rfl,by kernel_rfl⟩
    have Fa:m1 wr ((wr.alloc (.cells eG.toArray 70)).setCells wr.heap.size 0 (bO Aa a b c' d f k a' b' Ba d' f' k' s1 s2 jr jg ta tn tc)):=aP _ _ ((m8 _ _).alloc (m3 _) _) (m3 _);have Ga:=Ra.b Fa;have Ha:=Ja.t Fa;have Ua:=Hd (Sa.o.below Fa);clear Ra Ja Sa;clear Fa;have Da:H7 (aw ((wr.alloc (.cells eG.toArray 70)).setCells wr.heap.size 0 (bO Aa a b c' d f k a' b' Ba d' f' k' s1 s2 jr jg ta tn tc)) wr.heap.size (bO Aa a b c' d f k a' b' Ba d' f' k' s1 s2 jr jg ta tn tc)):=(aQ wr eG.toArray 70).setCells (bO Aa a b c' d f k a' b' Ba d' f' k' s1 s2 jr jg ta tn tc) 0 (by simp);generalize((wr.alloc (.cells eG.toArray 70)).setCells wr.heap.size 0 (bO Aa a b c' d f k a' b' Ba d' f' k' s1 s2 jr jg ta tn tc))=w2 at *;generalize wr.heap.size=jb at Da |-;have I:=Ga.c 1;have x0:=Da.c 0;(go_wp2_with fail);clear I x0;refine(C1 _).mono ?_;rintro e wz ⟨rfl,Va⟩;have Bb:=Va.symm;clear Va;subst Bb
    cases Za with
    | false=>
     go_wp2;go_ret;exact⟨aB HG.o,Ha.o⟩
    | true=>
     have Ca:=Ab.o;simp only[xP,decide_eq_true_eq]at Ca;obtain⟨Hb,Ib⟩:=Ca;(go_wp2_with(with_reducible refine au 25 ?_ ?_;rfl));show wpList _ _ _ _ _ _;with_reducible refine cu ?qg (.bool false) w2 ?qrun ?_
     case qg | qrun=>exact rfl
     show wpList _ _ _ _ _ _;with_reducible refine cu ?qg (.bool false) w2 ?qrun ?_
     case qg | qrun=>exact rfl
     show wpList _ _ _ _ _ _;have iL:(prog.info? 70).map (·.size)=some ((bO Aa a b c' d f k a' b' Ba d' f' k' s1 s2 jr jg ta tn tc):List Value).length:=(show(prog.info? 70).map (·.size)=some 18 by kernel_rfl);with_reducible refine bJ ?qw 70 ?qlw ?qo jb 0 ?qhx (bO Aa a b c' d f k a' b' Ba d' f' k' s1 s2 jr jg ta tn tc) _ Da.o.row underlying70 ?qd iL ?_
     case qw | qo | qhx | qd=>exact rfl
     clear iL;show wpList _ _ _ _ _ _;have m0:=Ga.c 0;(go_wp2_with fail);clear m0;refine(C2 _ Ua.o).mono ?_;rintro e w3 ⟨rfl,hb⟩;have Cb:=Ga.b hb;have Wa:=Ha.t hb;have Db:=Da.b hb;clear Ga Ha Ua Da;clear hb
     cases Ya with
     | false=>
      go_wp2;go_ret;exact⟨aB HG.o,Wa.o⟩
     | true=>
      have Eb:H7 (M.jsGo now sr Aa (js.drop (j+1))=R):=(by show _=_;have:=HG.o;simpa using this);have x0:=Db.c 0;go_wp2;go_roundw
      case rel=>exact⟨j+1,Aa,by omega,by go_num,rfl,by omega,by omega,Eb.o,Cb.o,Wa.o⟩
      case measure=>simp[intOf];omega
   ·
    go_wp2;go_ret;refine⟨aB ?_,Ea.o⟩;rw[t' (by rw[HZ.o.len];omega)]at hg;exact hg
 ·
  have Xa:(6:Int)<(nj:Int):=(by omega);rw[show decide (nj<=6)=false by simpa using hs,Bool.false_and];go_enter func92,ntmps92;go_wp2;go_ret;exact⟨rfl,Ia.o⟩
theorem nW(v:Int)(w:World)(hz:aC w a n c zs):
  Calls prog 185 #[.slice a n c,it v] w λe w'=>∃r:Int,e=.returned (it r)/\decide (0<=r)=zs.contains v/\w'=w:=by
 have bn:(n:Int)<=9223372036854775807:=(by have:=hz.big;have:=hz.le;omega);have Ea:(n:Int)<=c:=(by have:=hz.le;omega);have HZ:=Hd hz;generalize hR:zs.contains v=R;have HR:=Hd hR;clear hR hz;go_enter func185,ntmps185;go_wp2
 go_loop [8] (λi=>∃k:Nat,k<=n/\i=it k/\(zs.drop k).contains v=R) (λi=>n-(intOf i).toNat)
 case atStart=>exact⟨0,by omega,rfl,HR.o⟩
 case round=>
  obtain⟨k,hk,rfl,hg⟩:=hrel;by_cases Aa:k<n
  ·
   obtain⟨b1,o1,rfl,Ba⟩:=HZ.o.at (by omega);have c1:=Ba k Aa
   have hG:(v==zs.getD k 0||(zs.drop (k+1)).contains v)=R:=by
    rw[<-hg,aX 0 HZ.o.len Aa,List.contains_cons]
   generalize zs.getD k 0=x at c1 hG;have HG:=Hd hG;clear Ba hg hG;have hI:(k:Int)<(n:Int):=(by omega);by_cases hx:v=x
   ·
    have hb:(v==x)=true:=(by simp[hx]);have Ca:(x==v)=true:=(by simp[hx]);clear hx;go_wp2;go_ret;refine⟨_,rfl,?_,rfl⟩;have:=HG.o;rw[hb,Bool.true_or]at this;rw[<-this];simp
   ·
    have hb:(v==x)=false:=(by simp[hx]);have Ca:(x==v)=false:=(by simp;exact λe=>hx e.symm);have Da:H7 ((zs.drop (k+1)).contains v=R):=(by show _=_;have:=HG.o;rw[hb,Bool.false_or]at this;exact this);clear hx;go_wp2
    go_round
    case rel=>exact⟨k+1,by omega,by go_num,Da.o⟩
    case measure=>simp[intOf];omega
  ·
   go_wp2;go_ret;refine⟨_,rfl,?_,rfl⟩;rw[t' (by rw[HZ.o.len];omega)]at hg;rw[<-hg];rfl
theorem gJ(v:Int)(w:World)(hz:aC w a n c zs):
  Rq 145 #[.slice a n c,it v] w (.bool (zs.contains v)):=by
 have HZ:=Hd hz;clear hz;go_enter func145,ntmps145;(go_wp2_with fail);refine(nW v _ HZ.o).mono ?_;rintro e wz ⟨r,rfl,hr,rfl⟩;have HR:=Hd hr;clear hr;go_wp2;go_ret;exact⟨aB HR.o,rfl⟩
theorem nX(v:Int)(w:World)(hc:w.cell? ⟨mb,2,none⟩=some (.slice a n c))(hz:aC w a n c zs):
  Rq 144 #[it v,tG mb] w (.bool (zs.contains v)):=by
 have CC:=gJ v w hz;generalize zs.contains v=o at *;clear hz;go_enter func144,ntmps144;(go_wp2_with fail);refine CC.mono ?_;rintro e wz ⟨rfl,rfl⟩;go_wp2;go_ret;exact⟨rfl,rfl⟩
theorem kx(w:World)(hc:w.cell? ⟨mb,2,none⟩=some (.slice ab nb cb))(hb:aC w ab nb cb bs)(hz:aC w a n c zs):
  Calls prog 186 #[.slice a n c,.func (.func 144) #[] #[tG mb]] w λe w'=>∃r:Int,e=.returned (it r)/\decide (0<=r)=zs.any (λx=>bs.contains x)/\w'=w:=by
 have bn:(n:Int)<=9223372036854775807:=(by have:=hz.big;have:=hz.le;omega);have Fa:(n:Int)<=c:=(by have:=hz.le;omega);have HZ:=Hd hz;have HC:H7 (∀v,Rq 144 #[it v,tG mb] w (.bool (bs.contains v))):=λv=>nX v w hc hb;generalize hR:zs.any (λx=>bs.contains x)=R;have HR:=Hd hR;clear hR hz hb hc;go_enter func186,ntmps186;go_wp2
 go_loop [8] (λi=>∃k:Nat,k<=n/\i=it k/\(zs.drop k).any (λx=>bs.contains x)=R) (λi=>n-(intOf i).toNat)
 case atStart=>exact⟨0,by omega,rfl,HR.o⟩
 case round=>
  obtain⟨k,hk,rfl,hg⟩:=hrel;by_cases Aa:k<n
  ·
   obtain⟨b1,o1,rfl,Ba⟩:=HZ.o.at (by omega);have c1:=Ba k Aa
   have hG:(bs.contains (zs.getD k 0)||(zs.drop (k+1)).any (λx=>bs.contains x))=R:=by
    rw[<-hg,aX 0 HZ.o.len Aa,List.any_cons]
   have C1:=HC.o (zs.getD k 0);generalize zs.getD k 0=x at c1 hG C1;generalize bs.contains x=ob at hG C1;have HG:=Hd hG;clear Ba hg hG;have hI:(k:Int)<(n:Int):=(by omega);(go_wp2_with fail);refine C1.mono ?_;rintro e wz ⟨rfl,Ca⟩;have Da:=Ca.symm;clear Ca;subst Da
   cases ob with
   | true=>
    go_wp2;go_ret;refine⟨_,rfl,?_,rfl⟩;have:=HG.o;rw[Bool.true_or]at this;rw[<-this];simp
   | false=>
    have Ea:H7 ((zs.drop (k+1)).any (λx=>bs.contains x)=R):=(by show _=_;have:=HG.o;rw[Bool.false_or]at this;exact this);go_wp2
    go_round
    case rel=>exact⟨k+1,by omega,by go_num,Ea.o⟩
    case measure=>simp[intOf];omega
  ·
   go_wp2;go_ret;refine⟨_,rfl,?_,rfl⟩;rw[t' (by rw[HZ.o.len];omega)]at hg;rw[<-hg];rfl
theorem iW(w:World)(hc:w.cell? ⟨mb,2,none⟩=some (.slice ab nb cb))(hb:aC w ab nb cb bs)(hz:aC w a n c zs):
  Rq 147 #[.slice a n c,.func (.func 144) #[] #[tG mb]] w (.bool (zs.any (λx=>bs.contains x))):=by
 have CI:=kx w hc hb hz;generalize zs.any (λx=>bs.contains x)=o at *;clear hc hb hz;go_enter func147,ntmps147;(go_wp2_with fail);refine CI.mono ?_;rintro e wz ⟨r,rfl,hr,rfl⟩;have HR:=Hd hr;clear hr;go_wp2;go_ret;exact⟨aB HR.o,rfl⟩
theorem mM(ts:List M.Tk):(M.wkT ts).length<=ts.length:=by unfold M.wkT;rw[List.length_map];exact List.length_filter_le _ _
theorem mN:∀js:List M.Jb,(∀j∈js,j.ts.length<=8)->(M.wks js).length<=8*js.length
 | [],_=>by simp[M.wks]
 | j::js,h=>by
  have h1:=mN js λq hq=>h q (List.mem_cons_of_mem _ hq);have h2:=mM j.ts;have h3:=h j List.mem_cons_self;have e:M.wks (j::js)=M.wkT j.ts++M.wks js:=(by simp[M.wks]);rw[e,xS,List.length_cons];omega
theorem ji{now sr:Int}:∀{js:List M.Jb} {last:Int},M.jsGo now sr last js=true->∀j∈js,j.ts.length<=8
 | [],_,_,_,h=>by cases h
 | q::js,last,h,j,hj=>by
  unfold M.jsGo M.jbOk at h;simp only[xP,decide_eq_true_eq]at h
  rcases List.mem_cons.1 hj with e | e
  .rw[e];exact h.1.2.1.2.2.2.2.1
  .exact ji h.2 j e
theorem rJ{j:Nat}(hl:js.length=n)(h:j<n):M.wks (js.take (j+1))=M.wks (js.take j)++M.wkT (js.getD j M.j0).ts:=by
 unfold M.wks;rw[xA (by omega),List.flatMap_append,m5,m9 (by omega)]
 congr 1
 rw[xV,List.flatMap_nil,List.append_nil];rfl
theorem ig{w':World}{o:Nat}{cs:List Value}(h:w.rangeAt b o cs)(hb:m1 w w'):w'.rangeAt b o cs:=λj v hv=>(hb.cell (p:=⟨b,o+j,none⟩) (xJ w _ (h j v hv))).trans (h j v hv)
theorem rI{ts:List M.Tk}{k:Nat}(hl:ts.length=n)(h:k<n):M.wkT (ts.take (k+1))=M.wkT (ts.take k)++(if M.leased (ts.getD k M.t0)=true then[(ts.getD k M.t0).dC]else[]):=by
 rw[xA (by omega),m5,m9 (by omega)];unfold M.wkT;rw[List.filter_append,xU]
 congr 1
 by_cases e:M.leased ts[k]=true <;> simp[e]
theorem aA.count{t:TypeId}{dA cap:Nat}(h:aA t w dA a n cap zs):zs.length=n:=by
 have:=h.1;rw[List.length_map]at this;omega
def xe(w1:World)(ws:List Int)(l:Value)(wr:World):Prop:=∃(a:Option Addr) (m c:Nat),l=.slice a m c/\aA 2 wr w1.heap.size a m c ws/\m1 w1 wr
set_option maxRecDepth 10000 in
theorem n8(now sr:Int)(w:World)(hz:co w ab nb cb aj nj cj bs js)(hj6:nj<=6)(ht8:∀j∈js,j.ts.length<=8):
  Rt 93 #[.agg #[it now,it sr,.slice ab nb cb,.slice aj nj cj]] w (.bool (decide (M.wks js).Nodup&&!(M.wks js).any (λx=>bs.contains x))):=by
 have bn:(nj:Int)<=9223372036854775807:=(by omega);have Tb:=hz.j.len;have Ub:=cQ w (aJ now sr ab nb cb aj nj cj) 27;have Oa:H7 (m1 w (w.alloc (.cells (aJ now sr ab nb cb aj nj cj).toArray 27))):=(m8 _ _).alloc (m3 _) _;have Va:=Hd (hz.below Oa.o)
 have Vb:H7 (∀j,j<=nj->(M.wks (js.take j)).length<=8*j):=λj hj=>by
  have:=mN (js.take j) λq hq=>ht8 q (List.mem_of_mem_take hq);rw[xW]at this;omega
 have Wb:H7 (∀j,(js.getD j M.j0).ts.length<=8):=λj=>by
  rw[m5];by_cases h:j<js.length
  .rw[m9 h];exact ht8 _ (List.getElem_mem h)
  .rw[List.getElem?_eq_none (by omega)];exact Nat.zero_le _
 have HI:H7 (∃i0,prog.info? 2=some i0/\i0.zero=some (it 0)/\i0.size=1/\i0.bytes=8):=by
  obtain⟨i0,h1,h2,h3,h4⟩:=info_parts bF;exact⟨i0,h1,h2,h3,h4⟩
 generalize hN:decide (M.wks js).Nodup=oN;have HN:=Hd hN;generalize hAn:(M.wks js).any (λx=>bs.contains x)=oA;have Xb:=Hd hAn;clear hz ht8 hN hAn;go_enter func93,ntmps93;go_wp2;generalize(w.alloc (.cells (aJ now sr ab nb cb aj nj cj).toArray 27))=w1 at *
 go_loopw [3,12] (λl i wr=>∃j:Nat,j<=nj/\i=it j/\xe w1 (M.wks (js.take j)) l wr) (λ_ i _=>nj-(intOf i).toNat)
 case atStart=>exact⟨0,by omega,rfl,none,0,0,rfl,⟨rfl,.inl ⟨rfl,rfl⟩⟩,m8 _ _⟩
 case round=>
  obtain⟨j,hj,rfl,al,ml,cl,rfl,Wa,Xa⟩:=hrel;have Da:=Hd Xa;have Fa:=Hd Wa;clear Xa Wa;by_cases Ya:j<nj
  ·
   obtain⟨b1,o1,rfl,Za⟩:=Va.o.j.at (by omega);obtain⟨ta,tc,hA,hT⟩:=Za j Ya;have hI:(j:Int)<(nj:Int):=(by omega);have HW:=Hd (rJ Tb Ya);have h9:=Wb.o j;have h8:=Vb.o j hj;generalize js.getD j M.j0=cq at hA hT HW h9;obtain⟨Aa,⟨⟨a,b,c',d,f,k⟩,⟨a',b',Ba,d',f',k'⟩⟩,⟨s1,s2⟩,jr,jg,tl⟩:=cq;dsimp only at hT HW h9;have hR:wr.rangeAt b1 (o1+j*18) (fk ⟨Aa,⟨⟨a,b,c',d,f,k⟩,⟨a',b',Ba,d',f',k'⟩⟩,(s1,s2),jr,jg,tl⟩ ta tc):=ig (bN rfl hA) Da.o;have HT:=Hd hT;dsimp only[fk]at hR;generalize Ab:tl.length=tn at hR HT h9;have Bb:=Hd Ab;clear Za hA hT Ab;(go_wp2_with(with_reducible refine au 15 ?_ ?_;rfl));with_reducible refine dY 70 b1 (o1+j*18) (bO Aa a b c' d f k a' b' Ba d' f' k' s1 s2 jr jg ta tn tc) hR underlying70 ?q5 ?_
   case q5=>exact⟨rfl,rfl,by kernel_rfl,_,rfl,by kernel_rfl⟩
   have Ca:=Hd Da.o;have Ga:=Hd Fa.o;clear Da Fa hR;(go_wp2_with(with_reducible refine au 5 ?_ ?_;rfl));show wpList _ _ _ _ _ _;have Cb:(Instr.alloc 70 true (.tuple #[])).run prog wr=.ok (tG wr.heap.size) (wr.alloc (.cells eG.toArray 70)):=(by kernel_rfl);with_reducible refine ch ?qg 70 ?qo eG.toArray Cb ?_
   case qg | qo=>exact rfl
   clear Cb;show wpList _ _ _ _ _ _;with_reducible refine Hx (eF 70 wr.heap.size 0 (bO Aa a b c' d f k a' b' Ba d' f' k' s1 s2 jr jg ta tn tc) ?q6 ?q5 ?_)
   case q6=>exact(aQ _ _ _).there _ 18 (by simp)
   case q5=>exact⟨rfl,by kernel_rfl,by kernel_rfl,_,_,rfl,by kernel_rfl,by kernel_rfl⟩
   have Ea:m1 wr ((wr.alloc (.cells eG.toArray 70)).setCells wr.heap.size 0 (bO Aa a b c' d f k a' b' Ba d' f' k' s1 s2 jr jg ta tn tc)):=aP _ _ ((m8 _ _).alloc (m3 _) _) (m3 _);have Ha:=Ca.t Ea;have Ia:=Hd (Ga.o.below Ea);clear Ca Ga;clear Ea;have Pa:H7 (aw ((wr.alloc (.cells eG.toArray 70)).setCells wr.heap.size 0 (bO Aa a b c' d f k a' b' Ba d' f' k' s1 s2 jr jg ta tn tc)) wr.heap.size (bO Aa a b c' d f k a' b' Ba d' f' k' s1 s2 jr jg ta tn tc)):=(aQ wr eG.toArray 70).setCells (bO Aa a b c' d f k a' b' Ba d' f' k' s1 s2 jr jg ta tn tc) 0 (by simp);generalize((wr.alloc (.cells eG.toArray 70)).setCells wr.heap.size 0 (bO Aa a b c' d f k a' b' Ba d' f' k' s1 s2 jr jg ta tn tc))=w2 at *;generalize wr.heap.size=jb at Pa |-;have Yb:=Pa.c 17;have Ec:(tn:Int)<=8:=(by omega);go_wp2;clear Yb;clear Pa
   go_loopw [3,19] (λl i wr=>∃p:Nat,p<=tn/\i=it p/\xe w1 (M.wks (js.take j)++M.wkT (tl.take p)) l wr) (λ_ i _=>tn-(intOf i).toNat)
   case atStart=>exact⟨0,by omega,rfl,al,ml,cl,rfl,by rw[List.take_zero,show M.wkT []=[]from rfl,List.append_nil];exact Ia.o,Ha.o⟩
   case round=>
    obtain⟨p,hp,rfl,ai,mi,ci,rfl,Qa,Ra⟩:=hrel;clear Ia Ha;have Ca:=Hd Ra;have Ga:=Hd Qa;have Db:=HT.o.below Ra;have Eb:=Qa.count;rw[xS]at Eb;have Fb:=mM (tl.take p);rw[xW]at Fb;clear Qa Ra;have Fc:mi<=100:=(by omega);clear Eb Fb;by_cases Gb:p<tn
    ·
     obtain⟨b2,o2,rfl,Hb⟩:=Db.at (by omega);have hA:=Hb p Gb;have Gc:(p:Int)<(tn:Int):=(by omega);have Ja:=Hd (rI Bb.o Gb);have C1:=eN (tl.getD p M.t0);generalize tl.getD p M.t0=x at hA Ja C1;obtain⟨td,x,y⟩:=x;dsimp only[nt]at C1 Ja;generalize M.leased ⟨td,x,y⟩=ow at C1 Ja;have a0:wr.cell? ⟨b2,o2+p*3,none⟩=some (.bool td):=hA 0 (by omega);have a1:wr.cell? ⟨b2,o2+p*3+1,none⟩=some (it x):=hA 1 (by omega);have a2:wr.cell? ⟨b2,o2+p*3+2,none⟩=some (it y):=hA 2 (by omega);clear Hb hA Db;have Ea:=gW wr (.cells (fp td x y).toArray 75);have Ha:=Ca.t Ea;have Ia:=Hd (Ga.o.below Ea);clear Ca Ga;clear Ea;have Sa:=cQ wr (fp td x y) 75;(go_wp2_with fail);clear a0 a1 a2;generalize(wr.alloc (.cells (fp td x y).toArray 75))=w3 at *;generalize wr.heap.size=tb at Sa |-;refine(C1 _).mono ?_;rintro e w5 ⟨rfl,hb⟩;have Ta:=Ha.t hb;have La:=Hd (Ia.o.below hb);have Zb:=Sa.b hb;clear Ha Ia Sa;clear hb
     cases ow with
     | false=>
      have Na:H7 (M.wks (js.take j)++M.wkT (tl.take p)=M.wks (js.take j)++M.wkT (tl.take (p+1))):=(by show _=_;rw[Ja.o,if_neg (by decide),List.append_nil]);go_wp2;go_roundw
      case rel=>exact⟨p+1,by omega,by go_num,ai,mi,ci,rfl,by rw[<-Na.o];exact La.o,Ta.o⟩
      case measure=>simp[intOf];omega
     | true=>
      have Na:H7 (M.wks (js.take j)++M.wkT (tl.take p)++[x]=M.wks (js.take j)++M.wkT (tl.take (p+1))):=(by show _=_;rw[Ja.o,if_pos rfl,List.append_assoc]);generalize M.wks (js.take j)++M.wkT (tl.take p)=ws at Na La;obtain⟨i0,hi,Ib,Kb,Lb⟩:=HI.o;have Nb:=Ta.o.size;have Ac:=Zb.c 1;(go_wp2_with(at_builtin;refine wpList_append_own _ rfl _ _ 24 rfl w1.heap.size 2 i0 (it 0) 1 8 underlying24 hi Ib Kb Lb rfl (by decide) _ mi (ws.map (Value.int .i64)) rfl (xY La.o _) ⟨w5.heap.size,0,none⟩ 1 1 [it x] rfl rfl (br w5 x _) (bL x) (by unfold maxLen;omega) (by omega) (by simp;omega) ?_));intro v' w6 Ob Pb _;have hown':w6.ownsRow w1.heap.size 2 1 v' (mi+1) ((ws++[x]).map (Value.int .i64)):=(by rw[xU];exact Ob);obtain⟨a',Qb,rfl,Rb⟩:=aA.form hown';have HO':=Hd Rb;have HB':=Hd (fH Ta.o ((xC w5 _ _).trans Pb) Nb (λq hq=>(xz La.o q hq).1));clear Ob hown' Pb Rb hi Ib Kb Lb Ac Nb;rw[Na.o]at HO';go_wp2;go_roundw
      case rel=>exact⟨p+1,by omega,by go_num,a',mi+1,Qb,rfl,HO'.o,HB'.o⟩
      case measure=>simp[intOf];omega
    ·
     have Bc:p=tn:=(by omega);subst Bc;have Cc:H7 (M.wks (js.take j)++M.wkT (tl.take p)=M.wks (js.take (j+1))):=(by have e:=xt (Nat.le_of_eq Bb.o);show _=_;rw[HW.o,e]);go_wp2;go_roundw
     case rel=>exact⟨j+1,by omega,by go_num,ai,mi,ci,rfl,by rw[<-Cc.o];exact Ga.o,Ca.o⟩
     case measure=>simp[intOf];omega
  ·
   have Dc:j=nj:=(by omega);subst Dc;have hW:M.wks (js.take j)=M.wks js:=(by rw[xt (by omega)]);rw[hW]at Fa;have C1:=lP wr Fa.o.sees;have C2:=iW wr ((Ub.o.belowS Da.o).at 2) (Va.o.b.below Da.o) Fa.o.sees;rw[HN.o]at C1;rw[Xb.o]at C2;have Sb:=Hd (Oa.o.trans (Da.o.mono Oa.o.size));clear hW Fa Da;(go_wp2_with fail);refine C1.mono ?_;rintro e wz ⟨rfl,Ka⟩;have Ua:=Ka.symm;clear Ka;subst Ua
   cases oN with
   | false=>
    go_wp2;go_ret;exact⟨rfl,Sb.o⟩
   | true=>
    (go_wp2_with fail);refine C2.mono ?_;rintro e wz ⟨rfl,Ka⟩;have Ua:=Ka.symm;clear Ka;subst Ua;go_wp2;go_ret;exact⟨rfl,Sb.o⟩
set_option maxRecDepth 10000 in
theorem fU(now sr:Int)(w:World)(hz:co w ab nb cb aj nj cj bs js):
  Rt 44 #[.agg #[it now,it sr,.slice ab nb cb,.slice aj nj cj]] w (.bool (M.mkOk now sr bs js)):=by
 have Ga:=hz.j.len;have HM:=Hd hz;have C1:=cI now 0 1000000000;have C2:=cI sr 1 1000000000;have C3:∀W,aC W ab nb cb bs->Rq 91 #[.slice ab nb cb] W (.bool (M.bnGo 0 bs)):=λW h=>nM W h
 have C4:H7 ((decide (0<=now)&&decide (now<=1000000000))=true->(decide (1<=sr)&&decide (sr<=1000000000))=true->∀W,fQ W aj nj cj js->Rt 92 #[.agg (aJ now sr ab nb cb aj nj cj).toArray] W (.bool (decide (nj<=6)&&M.jsGo now sr 0 js))):=λh1 h2 W h=>by
  simp only[xP,decide_eq_true_eq]at h1 h2;exact sf now sr h1.1 h1.2 h2.1 h2.2 W h
 have C5:H7 ((decide (nj<=6)&&M.jsGo now sr 0 js)=true->∀W,co W ab nb cb aj nj cj bs js->Rt 93 #[.agg (aJ now sr ab nb cb aj nj cj).toArray] W (.bool (decide (M.wks js).Nodup&&!(M.wks js).any (λx=>bs.contains x)))):=λh1 W h=>by
  simp only[xP,decide_eq_true_eq]at h1;exact n8 now sr W h h1.1 (ji h1.2)
 unfold M.mkOk;rw[Ga];generalize(decide (M.wks js).Nodup&&!(M.wks js).any (λx=>bs.contains x))=o5 at *;generalize(decide (nj<=6)&&M.jsGo now sr 0 js)=o4 at *;generalize M.bnGo 0 bs=o3 at *;generalize(decide (1<=sr)&&decide (sr<=1000000000))=o2 at *;generalize(decide (0<=now)&&decide (now<=1000000000))=o1 at *;clear hz;go_enter func44,ntmps44;have Aa:=cQ w (aJ now sr ab nb cb aj nj cj) 27;have Ba:H7 (m1 w (w.alloc (.cells (aJ now sr ab nb cb aj nj cj).toArray 27))):=(m8 _ _).alloc (m3 _) _;(go_wp2_with fail);generalize(w.alloc (.cells (aJ now sr ab nb cb aj nj cj).toArray 27))=wa at *;refine(C1 _).mono ?_;rintro e wz ⟨rfl,Ca⟩;have Da:=Ca.symm;clear Ca;subst Da
 cases o1 with
 | false=>
  go_wp2;go_ret;exact⟨by simp,Ba.o⟩
 | true=>
  have x1:=Aa.c 1;(go_wp2_with fail);clear x1;refine(C2 _).mono ?_;rintro e wz ⟨rfl,Ca⟩;have Da:=Ca.symm;clear Ca;subst Da
  cases o2 with
  | false=>
   go_wp2;go_ret;exact⟨by simp,Ba.o⟩
  | true=>
   have x2:=Aa.c 2;(go_wp2_with fail);clear x2;refine(C3 _ (HM.o.b.below Ba.o)).mono ?_;rintro e wz ⟨rfl,Ca⟩;have Da:=Ca.symm;clear Ca;subst Da
   cases o3 with
   | false=>
    go_wp2;go_ret;exact⟨by simp,Ba.o⟩
   | true=>
    have x0:=Aa.c 0;have x1:=Aa.c 1;have x2:=Aa.c 2;have x3:=Aa.c 3;(go_wp2_with fail);clear x0 x1 x2 x3;refine(C4.o (by simp) (by simp) _ (HM.o.j.below Ba.o)).mono ?_;rintro e wb ⟨rfl,hb⟩;have Ea:=Aa.b hb;have Fa:=Ba.t hb;clear Aa Ba;clear hb
    cases o4 with
    | false=>
     go_wp2;go_ret;exact⟨by simp,Fa.o⟩
    | true=>
     have x0:=Ea.c 0;have x1:=Ea.c 1;have x2:=Ea.c 2;have x3:=Ea.c 3;(go_wp2_with fail);clear x0 x1 x2 x3;refine(C5.o (by simp) _ (HM.o.below Fa.o)).mono ?_;rintro e wc ⟨rfl,hb⟩;have Ha:=Fa.t hb;clear Ea Fa;clear hb;go_wp2;go_ret;exact⟨by simp,Ha.o⟩
end Go.Proofs.YtbjalickbnpnkaaGreatDoor
