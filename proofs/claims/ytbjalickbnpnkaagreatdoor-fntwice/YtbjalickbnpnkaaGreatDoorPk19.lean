import Derived.Test.YtbjalickbnpnkaaGreatDoorPk18
import Derived.Test.YtbjalickbnpnkaaGreatDoorPk13
namespace Go.Proofs.YtbjalickbnpnkaaGreatDoor
open Go.RowKit Go.Proofs.Tryz
set_option linter.unusedSimpArgs false
set_option maxHeartbeats 32000000
variable {now sr i' id who:Int}{bs:List Int}{i n1 n2 n3 n4 c1 c2 c3 c4:Nat}{a1 a2 a3 a4:Option Addr}
namespace M
def accO(i k:Nat)(gone:Bool)(ts:List Tk):Option (Nat×Nat)->Option (Nat×Nat)
 | some x=>some x
 | none=>if gone then none else(ts.findIdx? isFree).map λm=>(i,k+m)
theorem free_eq(t:Tk):isFree t=(!t.done&&decide (t.dC=0)):=by
 unfold isFree leased;by_cases h:t.dC=0 <;> simp[h]
theorem scT_eq(who:Int)(gone:Bool)(i:Nat):∀(ts:List Tk) (k:Nat) (acc:Option (Nat×Nat)),scT who gone i k acc ts=if ts.any (mineT who)then none else some (accO i k gone ts acc)
 | [],k,acc=>by cases acc <;> cases gone <;> rfl
 | t::l,k,acc=>by
  unfold scT;by_cases hw:t.dC=who
  .rw[if_pos hw];simp[mineT,hw]
  ·
   rw[if_neg hw,scT_eq who gone i l (k+1),List.any_cons,show mineT who t=false by simp[mineT,hw],Bool.false_or];by_cases ha:l.any (mineT who)=true
   .rw[if_pos ha,if_pos ha]
   ·
    rw[if_neg ha,if_neg ha]
    congr 1
    cases acc with
    | some x=>rfl
    | none=>
     cases gone with
     | true=>rfl
     | false=>
      simp only[Option.isNone_none,Bool.true_and,Bool.not_false,<-free_eq];unfold accO;rw[List.findIdx?_cons]
      cases hf:isFree t with
      | true=>simp
      | false=>
       simp only[Bool.false_eq_true,if_false,Option.map_map]
       cases l.findIdx? isFree with
       | none=>rfl
       | some m=>simp;omega
theorem scJ_eq(who:Int):∀(js:List Jb) (i:Nat) (acc:Option (Nat×Nat)),scJ who i acc js=if js.any (λj=>j.ts.any (mineT who))then none else some (match acc with | some x=>some x | none=>place i js)
 | [],i,acc=>by cases acc <;> rfl
 | j::l,i,acc=>by
  unfold scJ;rw[scT_eq,List.any_cons];by_cases ha:j.ts.any (mineT who)=true
  .rw[if_pos ha,ha];rfl
  ·
   rw[if_neg ha];have hf:j.ts.any (mineT who)=false:=(by simpa using ha);rw[hf,Bool.false_or];show scJ who (i+1) (accO i 0 j.gone j.ts acc) l=_;rw[scJ_eq who l (i+1)];by_cases hb:l.any (λj=>j.ts.any (mineT who))=true
   .rw[if_pos hb,if_pos hb]
   ·
    rw[if_neg hb,if_neg hb]
    congr 1
    cases acc with
    | some x=>rfl
    | none=>
     have e:place i (j::l)=(match openP j with | some k=>some (i,k) | none=>place (i+1) l):=rfl
     rw[e];unfold openP accO;generalize place (i+1) l=pl
     cases j.gone with
     | true=>rfl
     | false=>
      simp only[Bool.false_eq_true,if_false]
      cases j.ts.findIdx? isFree with
      | none=>rfl
      | some m=>simp
end M
namespace M
theorem jsGo_mk:∀{js:List Jb} {last:Int},(∀j∈js,last<j.id/\j.id<sr/\jbOk now j=true)->js.Pairwise (λa b=>a.id<b.id)->jsGo now sr last js=true
 | [],_,_,_=>rfl
 | x::l,last,h,hp=>by
  obtain⟨h1,h2,h3⟩:=h x (by simp);rw[List.pairwise_cons]at hp;unfold jsGo;rw[decide_eq_true (show last+1<=x.id by omega),decide_eq_true (show x.id<=sr-1 by omega),h3,jsGo_mk (λj hj=>⟨hp.1 j hj,(h j (by simp[hj])).2⟩) hp.2]
  rfl
theorem Right.ok{js:List Jb}(h:Right now sr bs js):mkOk now sr bs js=true:=by
 unfold mkOk;have h9:(wks js).any (λx=>bs.contains x)=false:=(by rw[List.any_eq_false];intro x hx;rw[h.bd x hx];simp);rw[decide_eq_true h.now0,decide_eq_true h.now1,decide_eq_true h.next0,decide_eq_true h.next1,h.bn,decide_eq_true h.few,jsGo_mk h.job h.rise,decide_eq_true h.nd,h9]
 rfl
structure JOk(now:Int)(j:Jb):Prop where
 m:j.m.ok=true
 s:M.sOk j.s=true
 r:M.rows j.rows=true
 l1:1<=j.ts.length
 l8:j.ts.length<=8
 t:∀t∈j.ts,tkOk now t=true
 g:j.gone=true->(∀t∈j.ts,leased t=false)/\j.ts.all (·.done)=false
theorem jok_iff{j:Jb}:jbOk now j=true↔JOk now j:=by
 unfold jbOk;simp only[xP,decide_eq_true_eq,List.all_eq_true,Bool.or_eq_true,Bool.not_eq_true',List.any_eq_false]
 constructor
 ·
  rintro⟨⟨a,b,c,d,e,f⟩,g⟩;exact⟨a,b,c,d,e,f,λhg=>by rcases g with g | g;rw[hg]at g;simp at g;exact⟨λt ht=>by simpa using g.1 t ht,g.2⟩⟩
 ·
  intro h;refine⟨⟨h.m,h.s,h.r,h.l1,h.l8,h.t⟩,?_⟩
  cases hg:j.gone with
  | false=>exact .inl rfl
  | true=>exact .inr ⟨λt ht=>by simp[(h.g hg).1 t ht],(h.g hg).2⟩
theorem tk0_ok(now:Int):tkOk now t0=true:=by simp[tkOk,t0]
theorem wkT_free(f:Tk->Bool):∀ts:List Tk,(wkT (free f ts)).Sublist (wkT ts)
 | []=>List.Sublist.slnil
 | t::l=>by
  have ih:=wkT_free f l
  have e1:wkT (free f (t::l))=(if leased (if f t then t0 else t)then[(if f t then t0 else t).dC]else[])++wkT (free f l):=by
   unfold wkT free;rw[List.map_cons,List.filter_cons];generalize(if f t=true then t0 else t)=u
   cases leased u <;> rfl
  have e2:wkT (t::l)=(if leased t then[t.dC]else[])++wkT l:=by
   unfold wkT;rw[List.filter_cons]
   cases leased t <;> rfl
  rw[e1,e2];refine List.Sublist.append ?_ ih
  cases hf:f t with
  | true=>simp[leased,t0]
  | false=>simp
theorem wks_free(f:Tk->Bool):∀js:List Jb,(wks (js.map (freeJ f))).Sublist (wks js)
 | []=>List.Sublist.slnil
 | j::l=>by
  rw[List.map_cons,wks_cons,wks_cons];exact List.Sublist.append (wkT_free f j.ts) (wks_free f l)
theorem free_none{f:Tk->Bool}{ts:List Tk}(h:∀t∈ts,f t=false):free f ts=ts:=by
 unfold free
 conv=>rhs;rw[<-List.map_id ts]
 exact List.map_congr_left λt ht=>by simp[h t ht]
theorem mem_free{f:Tk->Bool}{ts:List Tk}{t:Tk}(h:t∈free f ts):t=t0\/(t∈ts/\f t=false):=by
 unfold free at h;obtain⟨x,hx,rfl⟩:=List.mem_map.1 h
 cases hf:f x with
 | true=>exact .inl (by simp)
 | false=>exact .inr (by simp[hx,hf])
theorem JOk.freed{now':Int}{j:Jb}(h:JOk now j)(f:Tk->Bool)(hl:∀t,f t=true->leased t=true)(ht:∀t∈j.ts,f t=false->tkOk now t=true->tkOk now' t=true):JOk now' (freeJ f j):=by
 refine⟨h.m,h.s,h.r,by show 1<=(free f j.ts).length;rw[free_len];exact h.l1,by show(free f j.ts).length<=8;rw[free_len];exact h.l8,λt hm=>?_,λhg=>?_⟩
 ·
  rcases mem_free hm with rfl | ⟨h1,h2⟩
  .exact tk0_ok _
  .exact ht t h1 h2 (h.t t h1)
 ·
  have hg':=h.g hg
  have e:free f j.ts=j.ts:=free_none λt hm=>by
   cases hf:f t with
   | false=>rfl
   | true=>have:=hl t hf;rw[hg'.1 t hm]at this;simp at this
  show(∀t∈free f j.ts,leased t=false)/\(free f j.ts).all (·.done)=false;rw[e];exact hg'
theorem Right.jok{js:List Jb}(h:Right now sr bs js){j:Jb}(hj:j∈js):JOk now j:=jok_iff.1 (h.job j hj).2.2
theorem rise_map{f:Jb->Jb}(hf:∀j,(f j).id=j.id){js:List Jb}(h:js.Pairwise (λa b=>a.id<b.id)):(js.map f).Pairwise (λa b=>a.id<b.id):=by
 rw[List.pairwise_map];exact h.imp (λhab=>by rw[hf,hf];exact hab)
theorem due_leased{t:Tk}(h:dueT now t=true):leased t=true:=by unfold dueT at h;rw[xP]at h;exact h.1
theorem tick_right{m:Mt}(h:Right m.now m.next m.bs m.js)(h1:1<=i'):Right (tick m i').1.now (tick m i').1.next (tick m i').1.bs (tick m i').1.js:=by
 have hn:m.now<=tickN m.now i':=(by unfold tickN;have:=h.now1;split <;> omega);have Aa:tickN m.now i'<=1000000000:=(by unfold tickN;split <;> omega);refine⟨Int.le_trans h.now0 hn,Aa,h.next0,h.next1,by show(m.js.map _).length<=6;rw[List.length_map];exact h.few,h.bn,λj hj=>?_,rise_map (f:=freeJ (dueT (tickN m.now i'))) (λ_=>rfl) h.rise,(wks_free _ _).nodup h.nd,λx hx=>h.bd x ((wks_free _ _).subset hx)⟩;obtain⟨x,hx,rfl⟩:=List.mem_map.1 hj;refine⟨(h.job x hx).1,(h.job x hx).2.1,jok_iff.2 ((h.jok hx).freed _ (λt ht=>due_leased ht) λt _ hf ht=>?_)⟩;show tkOk (tickN m.now i') t=true;unfold tkOk at ht |-;by_cases hw:t.dC=0
 ·
  simp only[hw,decide_true,Bool.true_and]at ht |-;by_cases hd:t.due=0
  .simp[hd]
  .simp[hd,wkOk]at ht
 ·
  simp only[hw,decide_false,Bool.false_and,Bool.false_or,xP,decide_eq_true_eq]at ht |-;unfold dueT leased at hf;simp only[hw,ne_eq,not_false_eq_true,decide_true,Bool.true_and,decide_eq_false_iff_not]at hf;exact⟨ht.1,ht.2.1,by omega,by omega⟩
theorem wkT_rep(n:Nat):wkT (List.replicate n t0)=[]:=by
 unfold wkT;rw[List.map_eq_nil_iff,List.filter_eq_nil_iff];intro t ht;rw[(List.mem_replicate.1 ht).2];simp[leased,t0]
theorem submit_right{m:Mt}{mc:Mc}{s:Int×Int}{rows:Int}(h:Right m.now m.next m.bs m.js)(hm:mc.ok=true)(hs:M.sOk s=true)(hr:M.rows rows=true)(h1:1<=i')(h8:i'<=8):Right (submit m mc s rows i').1.now (submit m mc s rows i').1.next (submit m mc s rows i').1.bs (submit m mc s rows i').1.js:=by
 unfold submit
 split
 .exact h
 ·
  rename_i hc;simp only[Bool.or_eq_true,decide_eq_true_eq,not_or]at hc;have hf:=h.few;have hn:=h.next1;have hw:wks (m.js++[⟨m.next,mc,s,rows,false,List.replicate i'.toNat t0⟩])=wks m.js:=(by unfold wks;rw[List.flatMap_append];simp[wkT_rep]);refine⟨h.now0,h.now1,by show 1<=m.next+1;have:=h.next0;omega,by show m.next+1<=_;omega,by show(m.js++_).length<=6;rw[xS,List.length_singleton];omega,h.bn,λj hj=>?_,?_,by show(wks (m.js++_)).Nodup;rw[hw];exact h.nd,λx hx=>h.bd x (by have hx':x∈wks (m.js++[⟨m.next,mc,s,rows,false,List.replicate i'.toNat t0⟩]):=hx;rwa[hw]at hx')⟩
  ·
   rcases xw.1 hj with hj | hj
   ·
    obtain⟨a,b,c⟩:=h.job j hj;exact⟨a,by show j.id<m.next+1;omega,c⟩
   ·
    simp only[List.mem_singleton]at hj;subst hj;refine⟨by show 0<m.next;have:=h.next0;omega,by show m.next<m.next+1;omega,jok_iff.2 ⟨hm,hs,hr,by show 1<=(List.replicate i'.toNat t0).length;rw[xM];omega,by show(List.replicate i'.toNat t0).length<=8;rw[xM];omega,λt ht=>?_,λhg=>by simp at hg⟩⟩;rw[(List.mem_replicate.1 ht).2];exact tk0_ok _
  ·
   rw[List.pairwise_append];refine⟨h.rise,by simp,λa ha b hb=>?_⟩;simp only[List.mem_singleton]at hb;subst hb;exact(h.job a ha).2.1
theorem rise_set{js:List Jb}{j:Jb}(hi:i<js.length)(he:j.id=(js.getD i j0).id)(h:js.Pairwise (λa b=>a.id<b.id)):(js.set i j).Pairwise (λa b=>a.id<b.id):=by
 have e:(js.set i j).map (·.id)=js.map (·.id):=by
  rw[List.map_set,he];have e2:(js.getD i j0).id=(js.map (·.id))[i]'(by simpa using hi):=(by rw[List.getElem_map,m5,m9 hi];rfl);rw[e2,List.set_getElem_self]
 have h2:(js.map (·.id)).Pairwise (·< ·):=(by rw[List.pairwise_map];exact h);rw[<-e,List.pairwise_map]at h2;exact h2
theorem mem_setJ{js:List Jb}{j x:Jb}(h:x∈js.set i j):x=j\/x∈js:=(List.mem_or_eq_of_mem_set h).symm
theorem wks_set:∀{js:List Jb} {i:Nat} {j:Jb},i<js.length->∃a b,wks js=a++(wkT (js.getD i j0).ts++b)/\wks (js.set i j)=a++(wkT j.ts++b)
 | [],_,_,h=>by simp at h
 | x::l,0,j,_=>⟨[],wks l,by rw[wks_cons];rfl,by rw[List.set_cons_zero,wks_cons];rfl⟩
 | x::l,i+1,j,h=>by
  obtain⟨a,b,h1,h2⟩:=wks_set (js:=l) (i:=i) (j:=j) (by simpa using h);exact⟨wkT x.ts++a,b,by rw[wks_cons,h1,List.append_assoc];rfl,by rw[List.set_cons_succ,wks_cons,h2,List.append_assoc]⟩
theorem jobAt_lt{js:List Jb}(h:¬ jobAt id 0 js<0):(jobAt id 0 js).toNat<js.length/\jobOf id js∈js/\(jobOf id js).id=id:=by
 obtain⟨i,h1,h2,h3⟩:=jobAt_some id js 0 (by omega);have e:(jobAt id 0 js).toNat=i:=(by rw[h2];simp);refine⟨by omega,?_,?_⟩ <;> unfold jobOf <;> rw[e]
 .exact getD_mem h1
 .exact h3
theorem cancel_right{m:Mt}(h:Right m.now m.next m.bs m.js):Right (cancel m id).1.now (cancel m id).1.next (cancel m id).1.bs (cancel m id).1.js:=by
 unfold cancel
 split
 .exact h
 ·
  rename_i Da;obtain⟨hi,Aa,_⟩:=jobAt_lt Da
  split
  .exact h
  ·
   rename_i hc;simp only[Bool.or_eq_true,not_or]at hc;obtain⟨wa,wb,e1,e2⟩:=wks_set (js:=m.js) (i:=(jobAt id 0 m.js).toNat) (j:={freeJ leased (jobOf id m.js)with gone:=true}) hi
   have Ba:(wks (m.js.set (jobAt id 0 m.js).toNat {freeJ leased (jobOf id m.js)with gone:=true})).Sublist (wks m.js):=by
    rw[e1,e2];exact List.Sublist.append (List.Sublist.refl _) (List.Sublist.append (wkT_free _ _) (List.Sublist.refl _))
   refine⟨h.now0,h.now1,h.next0,h.next1,by show(m.js.set _ _).length<=6;rw[List.length_set];exact h.few,h.bn,λj hj=>?_,rise_set hi rfl h.rise,Ba.nodup h.nd,λx hx=>h.bd x (Ba.subset hx)⟩
   rcases mem_setJ hj with rfl | hj
   ·
    refine⟨(h.job _ Aa).1,(h.job _ Aa).2.1,jok_iff.2 ?_⟩;have hj:=(h.jok Aa).freed (now':=m.now) leased (λt ht=>ht) (λt _ _ ht=>ht);refine⟨hj.m,hj.s,hj.r,hj.l1,hj.l8,hj.t,λ_=>⟨λt ht=>?_,?_⟩⟩
    ·
     rcases mem_free ht with rfl | ⟨_,h2⟩
     .simp[leased,t0]
     .exact h2
    ·
     show(free leased (jobOf id m.js).ts).all (·.done)=false;have Ca:(jobOf id m.js).ts.all (·.done)=false:=(by simpa using hc.2);rw[List.all_eq_false]at Ca |-;obtain⟨t,ht,hd⟩:=Ca;refine⟨if leased t then t0 else t,List.mem_map.2 ⟨t,ht,rfl⟩,?_⟩
     split
     .simp[t0]
     .exact hd
   .exact h.job j hj
theorem place_some:∀{js:List Jb} {i a b:Nat},place i js=some (a,b)->∃n,a=i+n/\n<js.length/\openP (js.getD n j0)=some b
 | [],_,_,_,h=>by simp[place]at h
 | j::l,i,a,b,h=>by
  have e:place i (j::l)=(match openP j with | some k=>some (i,k) | none=>place (i+1) l):=rfl
  rw[e]at h
  cases ho:openP j with
  | some k=>
   rw[ho]at h;simp only[Option.some.injEq,Prod.mk.injEq]at h;exact⟨0,by omega,by simp,by rw[<-h.2];exact ho⟩
  | none=>
   rw[ho]at h;obtain⟨n,h1,h2,h3⟩:=place_some h;exact⟨n+1,by omega,by simpa using h2,h3⟩
theorem open_some{j:Jb}{b:Nat}(h:openP j=some b):j.gone=false/\b<j.ts.length/\isFree (j.ts.getD b t0)=true:=by
 unfold openP at h
 cases hg:j.gone with
 | true=>rw[hg]at h;simp at h
 | false=>
  rw[hg]at h;simp only[Bool.false_eq_true,if_false]at h;rw[List.findIdx?_eq_some_iff_getElem]at h;obtain⟨h1,h2,_⟩:=h;exact⟨rfl,h1,by rw[m5,m9 h1];exact h2⟩
theorem wkT_app(t:Tk)(l:List Tk):wkT (t::l)=(if leased t then[t.dC]else[])++wkT l:=by
 unfold wkT;rw[List.filter_cons]
 cases leased t <;> rfl
theorem wkT_set_in{t:Tk}(ht:leased t=true):∀{ts:List Tk} {k:Nat},k<ts.length->leased (ts.getD k t0)=false->(wkT (ts.set k t)).Perm (t.dC::wkT ts)
 | [],_,h,_=>by simp at h
 | x::l,0,_,hx=>by
  have hx':leased x=false:=hx;rw[List.set_cons_zero,wkT_app,wkT_app,ht,hx'];exact List.Perm.refl _
 | x::l,k+1,h,hx=>by
  have ih:=wkT_set_in ht (ts:=l) (k:=k) (by simpa using h) hx;rw[List.set_cons_succ,wkT_app,wkT_app];exact(ih.append_left _).trans (List.perm_middle)
theorem wkT_set_out{t:Tk}(ht:leased t=false):∀{ts:List Tk} {k:Nat},(wkT (ts.set k t)).Sublist (wkT ts)
 | [],_=>by simp
 | x::l,0=>by
  rw[List.set_cons_zero,wkT_app,wkT_app,ht];exact List.sublist_append_right _ _
 | x::l,k+1=>by
  rw[List.set_cons_succ,wkT_app,wkT_app];exact(List.Sublist.refl _).append (wkT_set_out ht)
theorem JOk.set{j:Jb}(h:JOk now j)(hg:j.gone=false){t:Tk}(ht:tkOk now t=true)(k:Nat):JOk now {j with ts:=j.ts.set k t}:=
 ⟨h.m,h.s,h.r,by show 1<=(j.ts.set k t).length;rw[List.length_set];exact h.l1,by show(j.ts.set k t).length<=8;rw[List.length_set];exact h.l8,λx hx=>by rcases List.mem_or_eq_of_mem_set hx with hx | rfl;exact h.t x hx;exact ht,λhg'=>by have:j.gone=true:=hg';rw[hg]at this;simp at this⟩
theorem lease_right{m:Mt}(h:Right m.now m.next m.bs m.js)(hw:wkOk who=true):Right (lease m who).1.now (lease m who).1.next (lease m who).1.bs (lease m who).1.js:=by
 unfold lease
 split
 .exact h
 ·
  rename_i hb
  split
  .exact h
  ·
   rename_i Ea
   cases hp:place 0 m.js with
   | none=>exact h
   | some x=>
    obtain⟨i,k⟩:=x;obtain⟨n,hn,Aa,ho⟩:=place_some hp;obtain rfl:i=n:=by omega
    obtain⟨hg,hk,hf⟩:=open_some ho;have Ba:m.js.getD i j0∈m.js:=getD_mem Aa;have Ca:who≠0:=λe=>by rw[e]at hw;simp[wkOk]at hw
    have hl:leased (⟨false,who,m.now+5⟩:Tk)=true:=(by simp[leased,Ca]);have Fa:leased ((m.js.getD i j0).ts.getD k t0)=false:=by unfold isFree at hf;rw[xP]at hf;simpa using hf.2
    have Ga:tkOk m.now ⟨false,who,m.now+5⟩=true:=by
     unfold tkOk;simp only[Ca,decide_false,Bool.false_and,Bool.false_or,Bool.not_false,Bool.true_and,hw];simp
    have Ha:who∉wks m.js:=λhx=>by
     obtain⟨j,hj,t,ht,e⟩:=(mem_wks Ca).1 hx;apply Ea;rw[List.any_eq_true];exact⟨j,hj,by rw[List.any_eq_true];exact⟨t,ht,by simp[mineT,e]⟩⟩
    obtain⟨wa,wb,e1,e2⟩:=wks_set (js:=m.js) (i:=i) (j:={m.js.getD i j0 with ts:=(m.js.getD i j0).ts.set k ⟨false,who,m.now+5⟩}) Aa
    have Da:(wks (setT m.js i k ⟨false,who,m.now+5⟩)).Perm (who::wks m.js):=by
     unfold setT;rw[e1,e2];refine(List.Perm.append_left wa ((wkT_set_in hl hk Fa).append_right wb)).trans ?_;exact List.perm_middle
    refine⟨h.now0,h.now1,h.next0,h.next1,by show(setT _ _ _ _).length<=6;unfold setT;rw[List.length_set];exact h.few,h.bn,λj hj=>?_,?_,?_,λx hx=>?_⟩
    ·
     have hj':j∈m.js.set i {m.js.getD i j0 with ts:=(m.js.getD i j0).ts.set k ⟨false,who,m.now+5⟩}:=hj
     rcases mem_setJ hj' with rfl | hj'
     .exact⟨(h.job _ Ba).1,(h.job _ Ba).2.1,jok_iff.2 ((h.jok Ba).set hg Ga k)⟩
     .exact h.job j hj'
    .exact rise_set Aa rfl h.rise
    .exact Da.nodup_iff.2 (List.nodup_cons.2 ⟨Ha,h.nd⟩)
    ·
     have hx':=Da.mem_iff.1 hx
     rcases List.mem_cons.1 hx' with rfl | hx'
     .simpa using hb
     .exact h.bd x hx'
theorem wks_pos{js:List Jb}{x:Int}(h:x∈wks js):x≠0:=by
 unfold wks wkT at h;obtain⟨j,_,hx⟩:=xI.1 h;obtain⟨t,ht,rfl⟩:=List.mem_map.1 hx;have:=(List.mem_filter.1 ht).2;simpa[leased]using this
theorem bn_mk:∀{bs:List Int} {last:Int},(∀x∈bs,last<x/\wkOk x=true)->bs.Pairwise (·< ·)->bnGo last bs=true
 | [],_,_,_=>rfl
 | y::l,last,h,hp=>by
  rw[List.pairwise_cons]at hp;obtain⟨h1,h2⟩:=h y (by simp);unfold bnGo;rw[decide_eq_true h1,h2,bn_mk (λx hx=>⟨hp.1 x hx,(h x (by simp[hx])).2⟩) hp.2]
  rfl
theorem back_right{g:Jb->Bool}{m:Mt}{em:Int}(h:Right m.now m.next m.bs m.js)(hw:wkOk who=true)(hp:0<=em):Right (back g m who id em).1.now (back g m who id em).1.next (back g m who id em).1.bs (back g m who id em).1.js:=by
 have Ca:who≠0:=λe=>by rw[e]at hw;simp[wkOk]at hw
 unfold back
 split
 .exact h
 ·
  split
  .exact h
  ·
   rename_i hc;simp only[Bool.or_eq_true,decide_eq_true_eq,not_or]at hc;obtain⟨hi,Ba,_⟩:=jobAt_lt hc.1
   split
   .exact h
   ·
    rename_i Ea;have hwk':((jobOf id m.js).ts.getD em.toNat t0).dC=who:=(by simpa using Ea);have Fa:em.toNat<(jobOf id m.js).ts.length:=(by omega);have Ga:leased ((jobOf id m.js).ts.getD em.toNat t0)=true:=by unfold leased;rw[hwk'];exact decide_eq_true Ca
    split
    ·
     have Aa:=wks_free (mineT who) m.js
     have Ha:∀x∈wks (m.js.map (freeJ (mineT who))),x≠who:=λx hx e=>by
      obtain⟨j,hj,t,ht,e2⟩:=(mem_wks (wks_pos hx)).1 hx;obtain⟨j',_,rfl⟩:=List.mem_map.1 hj
      rcases mem_free ht with rfl | ⟨_,h2⟩
      .exact wks_pos hx e2.symm
      .simp[mineT]at h2;exact h2 (e2.trans e)
     refine⟨h.now0,h.now1,h.next0,h.next1,by show(m.js.map _).length<=6;rw[List.length_map];exact h.few,?_,λj hj=>?_,rise_map (f:=freeJ (mineT who)) (λ_=>rfl) h.rise,Aa.nodup h.nd,λx hx=>?_⟩
     ·
      refine bn_mk (λx hx=>?_) (banned_pw _ _);have:=(mem_banned.1 hx).1;exact⟨by unfold wkOk at this;simp at this;omega,this⟩
     ·
      obtain⟨x,hx,rfl⟩:=List.mem_map.1 hj;exact⟨(h.job x hx).1,(h.job x hx).2.1,jok_iff.2 ((h.jok hx).freed _ (λt ht=>by simp[mineT]at ht;simp[leased,ht,Ca]) (λt _ _ ht=>ht))⟩
     ·
      have h1:=h.bd x (Aa.subset hx);have h2:=Ha x hx;show(banned m.bs who).contains x=false;rw[Bool.eq_false_iff];intro Da;rw[List.contains_iff_mem]at Da
      rcases(mem_banned.1 Da).2 with e | e
      .exact h2 e
      .rw[<-List.contains_iff_mem,h1]at e;simp at e
    ·
     have hg:(jobOf id m.js).gone=false:=by
      cases hgg:(jobOf id m.js).gone with
      | false=>rfl
      | true=>have:=((h.jok Ba).g hgg).1 _ (getD_mem (d:=t0) Fa);rw[Ga]at this;simp at this
     obtain⟨wa,wb,e1,e2⟩:=wks_set (js:=m.js) (i:=(jobAt id 0 m.js).toNat) (j:={jobOf id m.js with ts:=(jobOf id m.js).ts.set em.toNat ⟨true,0,0⟩}) hi
     have Aa:(wks (setT m.js (jobAt id 0 m.js).toNat em.toNat ⟨true,0,0⟩)).Sublist (wks m.js):=by
      unfold setT;rw[show m.js.getD (jobAt id 0 m.js).toNat j0=jobOf id m.js from rfl,e2,e1];exact List.Sublist.append (List.Sublist.refl _) (List.Sublist.append (wkT_set_out (by simp[leased])) (List.Sublist.refl _))
     refine⟨h.now0,h.now1,h.next0,h.next1,by show(setT _ _ _ _).length<=6;unfold setT;rw[List.length_set];exact h.few,h.bn,λj hj=>?_,rise_set hi rfl h.rise,Aa.nodup h.nd,λx hx=>h.bd x (Aa.subset hx)⟩;have hj':j∈m.js.set (jobAt id 0 m.js).toNat {jobOf id m.js with ts:=(jobOf id m.js).ts.set em.toNat ⟨true,0,0⟩}:=hj
     rcases mem_setJ hj' with rfl | hj'
     .exact⟨(h.job _ Ba).1,(h.job _ Ba).2.1,jok_iff.2 ((h.jok Ba).set hg (by simp[tkOk]) _)⟩
     .exact h.job j hj'
end M
def cv(em:Int)(p:M.Pf)(j:M.Jb):Bool:=decide ((M.Pf.rows p:Int)=j.rows)&&(decide (p.s=eH j.m j.s (em*(j.rows-1)))&&M.acc j.m p)
theorem iE(i':Int)(py:Nat)(w:World):(method (py+1) 114 (.agg #[it i']) "loop.example/g00319/impl.formOk").run prog w=.ok (243,.agg #[it i']) w:=by kernel_rfl
set_option maxRecDepth 10000 in
theorem lO(id em dC i' m0 I J Q m4 Y m6 m7 L Z B D t1 t2 p1 p2 p3 p4:Int)(ob:Bool)(CB:∀W,Rt 46 #[.agg #[it 4,it id,it em,it dC,it 0,it m0,it I,it J,it Q,it m4,it Y,it m6,it m7,it L,it Z,it B,it D,it t1,it t2,it p1,it p2,it p3,it p4,.slice a1 n1 c1,.slice a2 n2 c2,.slice a3 n3 c3,.slice a4 n4 c4]] W (.bool ob))(w:World):
  Rt 18 #[.agg #[it 4,it id,it em,it dC,it i',it m0,it I,it J,it Q,it m4,it Y,it m6,it m7,it L,it Z,it B,it D,it t1,it t2,it p1,it p2,it p3,it p4,.slice a1 n1 c1,.slice a2 n2 c2,.slice a3 n3 c3,.slice a4 n4 c4]] w (.tuple #[.iface 114 (.agg #[it i']),.bool (M.inB i' 1 1000000000&&ob)]):=by
 have CF:=jQ i';generalize M.inB i' 1 1000000000=of at *;have hm:=iE i';have HB:H7 (m1 w (w.alloc (.cells (b8 4 id em dC i' m0 I J Q m4 Y m6 m7 L Z B D t1 t2 p1 p2 p3 p4 a1 n1 c1 a2 n2 c2 a3 n3 c3 a4 n4 c4).toArray 37))):=(m8 _ _).alloc (m3 _) _;have HA:=cQ w (b8 4 id em dC i' m0 I J Q m4 Y m6 m7 L Z B D t1 t2 p1 p2 p3 p4 a1 n1 c1 a2 n2 c2 a3 n3 c3 a4 n4 c4) 37;go_enter func18,ntmps18;(go_wp2_with(with_reducible refine au 6 ?_ ?_;rfl));refine dY 37 w.heap.size 0 (b8 4 id em dC i' m0 I J Q m4 Y m6 m7 L Z B D t1 t2 p1 p2 p3 p4 a1 n1 c1 a2 n2 c2 a3 n3 c3 a4 n4 c4) HA.o.row underlying37 ⟨rfl,rfl,by kernel_rfl,_,rfl,by kernel_rfl⟩ ?_;(go_wp2_with(with_reducible refine au 5 ?_ ?_;rfl));generalize(w.alloc (.cells (b8 4 id em dC i' m0 I J Q m4 Y m6 m7 L Z B D t1 t2 p1 p2 p3 p4 a1 n1 c1 a2 n2 c2 a3 n3 c3 a4 n4 c4).toArray 37))=wa at *;refine ui 37 gM.toArray ⟨rfl,rfl,by kernel_rfl⟩ ?_;have Ja:=HA.o.2.2;have Ca:=(m8 wa.heap.size wa).alloc (m3 _) (.cells gM.toArray 37);have Da:=HB.t Ca;have Ka:=HA.b Ca;have Aa:=cQ wa gM 37;generalize(wa.alloc (.cells gM.toArray 37))=wb at *;generalize wa.heap.size=pb at Ja Aa |-;(go_wp2_with(with_reducible refine aD ?_ ?_;rfl));refine eF 37 pb 0 (b8 4 id em dC i' m0 I J Q m4 Y m6 m7 L Z B D t1 t2 p1 p2 p3 p4 a1 n1 c1 a2 n2 c2 a3 n3 c3 a4 n4 c4) (Aa.o.there 0 27 (by simp)) ⟨rfl,by kernel_rfl,by kernel_rfl,_,_,rfl,by kernel_rfl,by kernel_rfl⟩ ?_;have Ea:=dS wb pb 0 (b8 4 id em dC i' m0 I J Q m4 Y m6 m7 L Z B D t1 t2 p1 p2 p3 p4 a1 n1 c1 a2 n2 c2 a3 n3 c3 a4 n4 c4);have Fa:=Hd (Da.o.trans (ap Ea Da.o.size (λz e=>by have:=m2 e;omega)));have Ga:=Hd (Ka.o.grown Ea (λe=>by have:=m2 e;omega));have Ba:H7 (aw (wb.setCells pb 0 (b8 4 id em dC i' m0 I J Q m4 Y m6 m7 L Z B D t1 t2 p1 p2 p3 p4 a1 n1 c1 a2 n2 c2 a3 n3 c3 a4 n4 c4)) pb (b8 4 id em dC i' m0 I J Q m4 Y m6 m7 L Z B D t1 t2 p1 p2 p3 p4 a1 n1 c1 a2 n2 c2 a3 n3 c3 a4 n4 c4)):=Aa.o.setCells (b8 4 id em dC i' m0 I J Q m4 Y m6 m7 L Z B D t1 t2 p1 p2 p3 p4 a1 n1 c1 a2 n2 c2 a3 n3 c3 a4 n4 c4) 0 (by simp);generalize wb.setCells pb 0 (b8 4 id em dC i' m0 I J Q m4 Y m6 m7 L Z B D t1 t2 p1 p2 p3 p4 a1 n1 c1 a2 n2 c2 a3 n3 c3 a4 n4 c4)=wc at *;have x0:=Ga.c 0;have x4:=Ga.c 4;have r4:=Ba.c 4;have f4:=Ba.o.fr 4;(go_wp2_with fail);have La:=aV wc ⟨pb,4,none⟩ (it 0);have Na:H7 (aw (wc.setCell ⟨pb,4,none⟩ (it 0)) pb [it 4,it id,it em,it dC,it 0,it m0,it I,it J,it Q,it m4,it Y,it m6,it m7,it L,it Z,it B,it D,it t1,it t2,it p1,it p2,it p3,it p4,.slice a1 n1 c1,.slice a2 n2 c2,.slice a3 n3 c3,.slice a4 n4 c4]):=Ba.o.set 4 (by simp) _;have Ha:=Hd (Fa.o.trans (ap La Fa.o.size (λz e=>by have:=m2 e;dsimp only at this;omega)));generalize wc.setCell ⟨pb,4,none⟩ (it 0)=wd at *;refine(CF wd).mono ?_;rintro e we ⟨rfl,hb⟩;have Oa:=Na.b hb;have Ia:=Ha.t hb
 cases of with
 | false=>
  go_wp2;exact s' (v:=.tuple #[.iface 114 (.agg #[it i']),.bool false]) (by simp[results,results18,go_sem]) rfl ⟨rfl,Ia.o⟩
 | true=>
  dsimp only;rename_i hk;refine hk _ _ ?_;with_reducible refine cu ?qg (.bool true) we ?qrun ?_
  case qg=>exact rfl
  case qrun=>kernel_rfl
  show wpList _ _ _ _ _ _;have iL:(prog.info? 37).map (·.size)=some ([it 4,it id,it em,it dC,it 0,it m0,it I,it J,it Q,it m4,it Y,it m6,it m7,it L,it Z,it B,it D,it t1,it t2,it p1,it p2,it p3,it p4,.slice a1 n1 c1,.slice a2 n2 c2,.slice a3 n3 c3,.slice a4 n4 c4]:List Value).length:=(show(prog.info? 37).map (·.size)=some 27 by kernel_rfl);with_reducible refine bJ ?qw 37 ?qlw ?qo pb 0 ?qhx [it 4,it id,it em,it dC,it 0,it m0,it I,it J,it Q,it m4,it Y,it m6,it m7,it L,it Z,it B,it D,it t1,it t2,it p1,it p2,it p3,it p4,.slice a1 n1 c1,.slice a2 n2 c2,.slice a3 n3 c3,.slice a4 n4 c4] _ Oa.o.row underlying37 ?qd iL ?qrz
  case qw=>kernel_rfl
  case qo=>exact rfl
  case qhx=>kernel_rfl
  case qd=>exact rfl
  case qrz=>
   (go_wp2_with fail);refine(CB we).mono ?_;rintro e wf ⟨rfl,hb⟩;have Pa:=Ia.t hb;go_wp2;exact s' (v:=.tuple #[.iface 114 (.agg #[it i']),.bool ob]) (by simp[results,results18,go_sem]) rfl ⟨by simp,Pa.o⟩
theorem ib(dC:Int)(py:Nat)(w:World):(method (py+1) 110 (.agg #[it dC]) "loop.example/g00319/impl.formOk").run prog w=.ok (241,.agg #[it dC]) w:=by kernel_rfl
set_option maxRecDepth 10000 in
theorem kS(id em dC i' m0 I J Q m4 Y m6 m7 L Z B D t1 t2 p1 p2 p3 p4:Int)(ob:Bool)(CB:∀W,Rt 46 #[.agg #[it 2,it id,it em,it 0,it i',it m0,it I,it J,it Q,it m4,it Y,it m6,it m7,it L,it Z,it B,it D,it t1,it t2,it p1,it p2,it p3,it p4,.slice a1 n1 c1,.slice a2 n2 c2,.slice a3 n3 c3,.slice a4 n4 c4]] W (.bool ob))(w:World):
  Rt 18 #[.agg #[it 2,it id,it em,it dC,it i',it m0,it I,it J,it Q,it m4,it Y,it m6,it m7,it L,it Z,it B,it D,it t1,it t2,it p1,it p2,it p3,it p4,.slice a1 n1 c1,.slice a2 n2 c2,.slice a3 n3 c3,.slice a4 n4 c4]] w (.tuple #[.iface 110 (.agg #[it dC]),.bool (M.wkOk dC&&ob)]):=by
 have CF:=jw dC;generalize M.wkOk dC=of at *;have hm:=ib dC;have HB:H7 (m1 w (w.alloc (.cells (b8 2 id em dC i' m0 I J Q m4 Y m6 m7 L Z B D t1 t2 p1 p2 p3 p4 a1 n1 c1 a2 n2 c2 a3 n3 c3 a4 n4 c4).toArray 37))):=(m8 _ _).alloc (m3 _) _;have HA:=cQ w (b8 2 id em dC i' m0 I J Q m4 Y m6 m7 L Z B D t1 t2 p1 p2 p3 p4 a1 n1 c1 a2 n2 c2 a3 n3 c3 a4 n4 c4) 37;go_enter func18,ntmps18;(go_wp2_with(with_reducible refine au 6 ?_ ?_;rfl));refine dY 37 w.heap.size 0 (b8 2 id em dC i' m0 I J Q m4 Y m6 m7 L Z B D t1 t2 p1 p2 p3 p4 a1 n1 c1 a2 n2 c2 a3 n3 c3 a4 n4 c4) HA.o.row underlying37 ⟨rfl,rfl,by kernel_rfl,_,rfl,by kernel_rfl⟩ ?_;(go_wp2_with(with_reducible refine au 5 ?_ ?_;rfl));generalize(w.alloc (.cells (b8 2 id em dC i' m0 I J Q m4 Y m6 m7 L Z B D t1 t2 p1 p2 p3 p4 a1 n1 c1 a2 n2 c2 a3 n3 c3 a4 n4 c4).toArray 37))=wa at *;refine ui 37 gM.toArray ⟨rfl,rfl,by kernel_rfl⟩ ?_;have Ja:=HA.o.2.2;have Ca:=(m8 wa.heap.size wa).alloc (m3 _) (.cells gM.toArray 37);have Da:=HB.t Ca;have Ka:=HA.b Ca;have Aa:=cQ wa gM 37;generalize(wa.alloc (.cells gM.toArray 37))=wb at *;generalize wa.heap.size=pb at Ja Aa |-;(go_wp2_with(with_reducible refine aD ?_ ?_;rfl));refine eF 37 pb 0 (b8 2 id em dC i' m0 I J Q m4 Y m6 m7 L Z B D t1 t2 p1 p2 p3 p4 a1 n1 c1 a2 n2 c2 a3 n3 c3 a4 n4 c4) (Aa.o.there 0 27 (by simp)) ⟨rfl,by kernel_rfl,by kernel_rfl,_,_,rfl,by kernel_rfl,by kernel_rfl⟩ ?_;have Ea:=dS wb pb 0 (b8 2 id em dC i' m0 I J Q m4 Y m6 m7 L Z B D t1 t2 p1 p2 p3 p4 a1 n1 c1 a2 n2 c2 a3 n3 c3 a4 n4 c4);have Fa:=Hd (Da.o.trans (ap Ea Da.o.size (λz e=>by have:=m2 e;omega)));have Ga:=Hd (Ka.o.grown Ea (λe=>by have:=m2 e;omega));have Ba:H7 (aw (wb.setCells pb 0 (b8 2 id em dC i' m0 I J Q m4 Y m6 m7 L Z B D t1 t2 p1 p2 p3 p4 a1 n1 c1 a2 n2 c2 a3 n3 c3 a4 n4 c4)) pb (b8 2 id em dC i' m0 I J Q m4 Y m6 m7 L Z B D t1 t2 p1 p2 p3 p4 a1 n1 c1 a2 n2 c2 a3 n3 c3 a4 n4 c4)):=Aa.o.setCells (b8 2 id em dC i' m0 I J Q m4 Y m6 m7 L Z B D t1 t2 p1 p2 p3 p4 a1 n1 c1 a2 n2 c2 a3 n3 c3 a4 n4 c4) 0 (by simp);generalize wb.setCells pb 0 (b8 2 id em dC i' m0 I J Q m4 Y m6 m7 L Z B D t1 t2 p1 p2 p3 p4 a1 n1 c1 a2 n2 c2 a3 n3 c3 a4 n4 c4)=wc at *;have x0:=Ga.c 0;have x4:=Ga.c 3;have r4:=Ba.c 3;have f4:=Ba.o.fr 3;(go_wp2_with fail);have La:=aV wc ⟨pb,3,none⟩ (it 0);have Na:H7 (aw (wc.setCell ⟨pb,3,none⟩ (it 0)) pb [it 2,it id,it em,it 0,it i',it m0,it I,it J,it Q,it m4,it Y,it m6,it m7,it L,it Z,it B,it D,it t1,it t2,it p1,it p2,it p3,it p4,.slice a1 n1 c1,.slice a2 n2 c2,.slice a3 n3 c3,.slice a4 n4 c4]):=Ba.o.set 3 (by simp) _;have Ha:=Hd (Fa.o.trans (ap La Fa.o.size (λz e=>by have:=m2 e;dsimp only at this;omega)));generalize wc.setCell ⟨pb,3,none⟩ (it 0)=wd at *;refine(CF wd).mono ?_;rintro e we ⟨rfl,hb⟩;have Oa:=Na.b hb;have Ia:=Ha.t hb
 cases of with
 | false=>
  go_wp2;exact s' (v:=.tuple #[.iface 110 (.agg #[it dC]),.bool false]) (by simp[results,results18,go_sem]) rfl ⟨rfl,Ia.o⟩
 | true=>
  dsimp only;rename_i hk;refine hk _ _ ?_;with_reducible refine cu ?qg (.bool true) we ?qrun ?_
  case qg=>exact rfl
  case qrun=>kernel_rfl
  show wpList _ _ _ _ _ _;have iL:(prog.info? 37).map (·.size)=some ([it 2,it id,it em,it 0,it i',it m0,it I,it J,it Q,it m4,it Y,it m6,it m7,it L,it Z,it B,it D,it t1,it t2,it p1,it p2,it p3,it p4,.slice a1 n1 c1,.slice a2 n2 c2,.slice a3 n3 c3,.slice a4 n4 c4]:List Value).length:=(show(prog.info? 37).map (·.size)=some 27 by kernel_rfl);with_reducible refine bJ ?qw 37 ?qlw ?qo pb 0 ?qhx [it 2,it id,it em,it 0,it i',it m0,it I,it J,it Q,it m4,it Y,it m6,it m7,it L,it Z,it B,it D,it t1,it t2,it p1,it p2,it p3,it p4,.slice a1 n1 c1,.slice a2 n2 c2,.slice a3 n3 c3,.slice a4 n4 c4] _ Oa.o.row underlying37 ?qd iL ?qrz
  case qw=>kernel_rfl
  case qo=>exact rfl
  case qhx=>kernel_rfl
  case qd=>exact rfl
  case qrz=>
   (go_wp2_with fail);refine(CB we).mono ?_;rintro e wf ⟨rfl,hb⟩;have Pa:=Ia.t hb;go_wp2;exact s' (v:=.tuple #[.iface 110 (.agg #[it dC]),.bool ob]) (by simp[results,results18,go_sem]) rfl ⟨by simp,Pa.o⟩
theorem gQ(id:Int)(py:Nat)(w:World):(method (py+1) 116 (.agg #[it id]) "loop.example/g00319/impl.formOk").run prog w=.ok (244,.agg #[it id]) w:=by kernel_rfl
set_option maxRecDepth 10000 in
theorem kq(id em dC i' m0 I J Q m4 Y m6 m7 L Z B D t1 t2 p1 p2 p3 p4:Int)(ob:Bool)(CB:∀W,Rt 46 #[.agg #[it 5,it 0,it em,it dC,it i',it m0,it I,it J,it Q,it m4,it Y,it m6,it m7,it L,it Z,it B,it D,it t1,it t2,it p1,it p2,it p3,it p4,.slice a1 n1 c1,.slice a2 n2 c2,.slice a3 n3 c3,.slice a4 n4 c4]] W (.bool ob))(w:World):
  Rt 18 #[.agg #[it 5,it id,it em,it dC,it i',it m0,it I,it J,it Q,it m4,it Y,it m6,it m7,it L,it Z,it B,it D,it t1,it t2,it p1,it p2,it p3,it p4,.slice a1 n1 c1,.slice a2 n2 c2,.slice a3 n3 c3,.slice a4 n4 c4]] w (.tuple #[.iface 116 (.agg #[it id]),.bool (M.inB id 1 1000000000&&ob)]):=by
 have CF:=i4 id;generalize M.inB id 1 1000000000=of at *;have hm:=gQ id;have HB:H7 (m1 w (w.alloc (.cells (b8 5 id em dC i' m0 I J Q m4 Y m6 m7 L Z B D t1 t2 p1 p2 p3 p4 a1 n1 c1 a2 n2 c2 a3 n3 c3 a4 n4 c4).toArray 37))):=(m8 _ _).alloc (m3 _) _;have HA:=cQ w (b8 5 id em dC i' m0 I J Q m4 Y m6 m7 L Z B D t1 t2 p1 p2 p3 p4 a1 n1 c1 a2 n2 c2 a3 n3 c3 a4 n4 c4) 37;go_enter func18,ntmps18;(go_wp2_with(with_reducible refine au 6 ?_ ?_;rfl));refine dY 37 w.heap.size 0 (b8 5 id em dC i' m0 I J Q m4 Y m6 m7 L Z B D t1 t2 p1 p2 p3 p4 a1 n1 c1 a2 n2 c2 a3 n3 c3 a4 n4 c4) HA.o.row underlying37 ⟨rfl,rfl,by kernel_rfl,_,rfl,by kernel_rfl⟩ ?_;(go_wp2_with(with_reducible refine au 5 ?_ ?_;rfl));generalize(w.alloc (.cells (b8 5 id em dC i' m0 I J Q m4 Y m6 m7 L Z B D t1 t2 p1 p2 p3 p4 a1 n1 c1 a2 n2 c2 a3 n3 c3 a4 n4 c4).toArray 37))=wa at *;refine ui 37 gM.toArray ⟨rfl,rfl,by kernel_rfl⟩ ?_;have Ja:=HA.o.2.2;have Ca:=(m8 wa.heap.size wa).alloc (m3 _) (.cells gM.toArray 37);have Da:=HB.t Ca;have Ka:=HA.b Ca;have Aa:=cQ wa gM 37;generalize(wa.alloc (.cells gM.toArray 37))=wb at *;generalize wa.heap.size=pb at Ja Aa |-;(go_wp2_with(with_reducible refine aD ?_ ?_;rfl));refine eF 37 pb 0 (b8 5 id em dC i' m0 I J Q m4 Y m6 m7 L Z B D t1 t2 p1 p2 p3 p4 a1 n1 c1 a2 n2 c2 a3 n3 c3 a4 n4 c4) (Aa.o.there 0 27 (by simp)) ⟨rfl,by kernel_rfl,by kernel_rfl,_,_,rfl,by kernel_rfl,by kernel_rfl⟩ ?_;have Ea:=dS wb pb 0 (b8 5 id em dC i' m0 I J Q m4 Y m6 m7 L Z B D t1 t2 p1 p2 p3 p4 a1 n1 c1 a2 n2 c2 a3 n3 c3 a4 n4 c4);have Fa:=Hd (Da.o.trans (ap Ea Da.o.size (λz e=>by have:=m2 e;omega)));have Ga:=Hd (Ka.o.grown Ea (λe=>by have:=m2 e;omega));have Ba:H7 (aw (wb.setCells pb 0 (b8 5 id em dC i' m0 I J Q m4 Y m6 m7 L Z B D t1 t2 p1 p2 p3 p4 a1 n1 c1 a2 n2 c2 a3 n3 c3 a4 n4 c4)) pb (b8 5 id em dC i' m0 I J Q m4 Y m6 m7 L Z B D t1 t2 p1 p2 p3 p4 a1 n1 c1 a2 n2 c2 a3 n3 c3 a4 n4 c4)):=Aa.o.setCells (b8 5 id em dC i' m0 I J Q m4 Y m6 m7 L Z B D t1 t2 p1 p2 p3 p4 a1 n1 c1 a2 n2 c2 a3 n3 c3 a4 n4 c4) 0 (by simp);generalize wb.setCells pb 0 (b8 5 id em dC i' m0 I J Q m4 Y m6 m7 L Z B D t1 t2 p1 p2 p3 p4 a1 n1 c1 a2 n2 c2 a3 n3 c3 a4 n4 c4)=wc at *;have x0:=Ga.c 0;have x4:=Ga.c 1;have r4:=Ba.c 1;have f4:=Ba.o.fr 1;(go_wp2_with fail);have La:=aV wc ⟨pb,1,none⟩ (it 0);have Na:H7 (aw (wc.setCell ⟨pb,1,none⟩ (it 0)) pb [it 5,it 0,it em,it dC,it i',it m0,it I,it J,it Q,it m4,it Y,it m6,it m7,it L,it Z,it B,it D,it t1,it t2,it p1,it p2,it p3,it p4,.slice a1 n1 c1,.slice a2 n2 c2,.slice a3 n3 c3,.slice a4 n4 c4]):=Ba.o.set 1 (by simp) _;have Ha:=Hd (Fa.o.trans (ap La Fa.o.size (λz e=>by have:=m2 e;dsimp only at this;omega)));generalize wc.setCell ⟨pb,1,none⟩ (it 0)=wd at *;refine(CF wd).mono ?_;rintro e we ⟨rfl,hb⟩;have Oa:=Na.b hb;have Ia:=Ha.t hb
 cases of with
 | false=>
  go_wp2;exact s' (v:=.tuple #[.iface 116 (.agg #[it id]),.bool false]) (by simp[results,results18,go_sem]) rfl ⟨rfl,Ia.o⟩
 | true=>
  dsimp only;rename_i hk;refine hk _ _ ?_;with_reducible refine cu ?qg (.bool true) we ?qrun ?_
  case qg=>exact rfl
  case qrun=>kernel_rfl
  show wpList _ _ _ _ _ _;have iL:(prog.info? 37).map (·.size)=some ([it 5,it 0,it em,it dC,it i',it m0,it I,it J,it Q,it m4,it Y,it m6,it m7,it L,it Z,it B,it D,it t1,it t2,it p1,it p2,it p3,it p4,.slice a1 n1 c1,.slice a2 n2 c2,.slice a3 n3 c3,.slice a4 n4 c4]:List Value).length:=(show(prog.info? 37).map (·.size)=some 27 by kernel_rfl);with_reducible refine bJ ?qw 37 ?qlw ?qo pb 0 ?qhx [it 5,it 0,it em,it dC,it i',it m0,it I,it J,it Q,it m4,it Y,it m6,it m7,it L,it Z,it B,it D,it t1,it t2,it p1,it p2,it p3,it p4,.slice a1 n1 c1,.slice a2 n2 c2,.slice a3 n3 c3,.slice a4 n4 c4] _ Oa.o.row underlying37 ?qd iL ?qrz
  case qw=>kernel_rfl
  case qo=>exact rfl
  case qhx=>kernel_rfl
  case qd=>exact rfl
  case qrz=>
   (go_wp2_with fail);refine(CB we).mono ?_;rintro e wf ⟨rfl,hb⟩;have Pa:=Ia.t hb;go_wp2;exact s' (v:=.tuple #[.iface 116 (.agg #[it id]),.bool ob]) (by simp[results,results18,go_sem]) rfl ⟨by simp,Pa.o⟩
end Go.Proofs.YtbjalickbnpnkaaGreatDoor
