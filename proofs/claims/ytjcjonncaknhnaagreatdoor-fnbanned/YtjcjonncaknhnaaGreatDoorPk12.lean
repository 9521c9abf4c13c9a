import Derived.Test.YtjcjonncaknhnaaGreatDoorPk10
import Derived.Test.YtjcjonncaknhnaaGreatDoorPk11
import Derived.Test.YtjcjonncaknhnaaGreatDoorPk08
namespace Go.Proofs.YtjcjonncaknhnaaGreatDoor
open Go.RowKit Go.Proofs.Tryz
set_option linter.unusedSimpArgs false
set_option maxHeartbeats 32000000
variable {now uB tr id who:Int}{bs:List Int}{i i' nb cb nj cj h ni ci mb:Nat}{ab aj ai:Option Addr}{qs:List HJ}{P:Program}{ops:Array Oper}{op:Oper}{a:Act}{w:World}{K:Act→World→Prop}{Q:Exit→Act→World→Prop}{E:Prop}
namespace M
theorem jsGo_mk:∀{js:List Jb} {last:Int},(∀j∈js,last<j.id∧j.id<uB∧jbOk now j=true)→js.Pairwise (fun a b=>a.id<b.id)→jsGo now uB last js=true
 | [],_,_,_=>rfl
 | x::l,last,h,hp=>by
  obtain⟨h1,h2,h3⟩:=h x (by simp);rw[List.pairwise_cons]at hp;unfold jsGo;rw[decide_eq_true (show last+1≤x.id by omega),decide_eq_true (show x.id≤uB-1 by omega),h3,jsGo_mk (fun j hj=>⟨hp.1 j hj,(h j (by simp[hj])).2⟩) hp.2]
  rfl
theorem Right.ok{js:List Jb}(h:Right now uB bs js):mkOk now uB bs js=true:=by
 unfold mkOk;have h9:(wks js).any (fun x=>bs.contains x)=false:=(by rw[List.any_eq_false];intro x hx;rw[h.bd x hx];simp);rw[decide_eq_true h.now0,decide_eq_true h.now1,decide_eq_true h.next0,decide_eq_true h.next1,h.bn,decide_eq_true h.few,jsGo_mk h.job h.rise,decide_eq_true h.nd,h9]
 rfl
structure JOk(now:Int)(j:Jb):Prop where
 m:j.m.ok=true
 s:M.sOk j.s=true
 r:M.rows j.rows=true
 l1:1≤j.ts.length
 l8:j.ts.length≤8
 t:∀t∈j.ts,tkOk now t=true
 g:j.gone=true→(∀t∈j.ts,leased t=false)∧j.ts.all (·.done)=false
theorem jok_iff{j:Jb}:jbOk now j=true↔JOk now j:=by
 unfold jbOk;simp only[uU,decide_eq_true_eq,List.all_eq_true,Bool.or_eq_true,Bool.not_eq_true',List.any_eq_false]
 constructor
 ·
  rintro⟨⟨a,b,c,d,e,f⟩,g⟩;exact⟨a,b,c,d,e,f,fun hg=>by rcases g with g | g;rw[hg]at g;simp at g;exact⟨fun t ht=>by simpa using g.1 t ht,g.2⟩⟩
 ·
  intro h;refine⟨⟨h.m,h.s,h.r,h.l1,h.l8,h.t⟩,?_⟩
  cases hg:j.gone with
  | false=>exact .inl rfl
  | true=>exact .inr ⟨fun t ht=>by simp[(h.g hg).1 t ht],(h.g hg).2⟩
theorem tk0_ok(now:Int):tkOk now t0=true:=by simp[tkOk,t0]
theorem wkT_free(f:Tk→Bool):∀ts:List Tk,(wkT (free f ts)).Sublist (wkT ts)
 | []=>List.Sublist.slnil
 | t::l=>by
  have ih:=wkT_free f l
  have e1:wkT (free f (t::l))=(if leased (if f t then t0 else t)then[(if f t then t0 else t).l']else[])++wkT (free f l):=by
   unfold wkT free;rw[List.map_cons,List.filter_cons];generalize(if f t=true then t0 else t)=u
   cases leased u <;> rfl
  have e2:wkT (t::l)=(if leased t then[t.l']else[])++wkT l:=by
   unfold wkT;rw[List.filter_cons]
   cases leased t <;> rfl
  rw[e1,e2];refine List.Sublist.append ?_ ih
  cases hf:f t with
  | true=>simp[leased,t0]
  | false=>simp
theorem wks_free(f:Tk→Bool):∀js:List Jb,(wks (js.map (freeJ f))).Sublist (wks js)
 | []=>List.Sublist.slnil
 | j::l=>by
  rw[List.map_cons,wks_cons,wks_cons];exact List.Sublist.append (wkT_free f j.ts) (wks_free f l)
theorem free_none{f:Tk→Bool}{ts:List Tk}(h:∀t∈ts,f t=false):free f ts=ts:=by
 unfold free
 conv=>rhs;rw[←List.map_id ts]
 exact List.map_congr_left fun t ht=>by simp[h t ht]
theorem mem_free{f:Tk→Bool}{ts:List Tk}{t:Tk}(h:t∈free f ts):t=t0∨(t∈ts∧f t=false):=by
 unfold free at h;obtain⟨x,hx,rfl⟩:=List.mem_map.1 h
 cases hf:f x with
 | true=>exact .inl (by simp)
 | false=>exact .inr (by simp[hx,hf])
theorem JOk.freed{now':Int}{j:Jb}(h:JOk now j)(f:Tk→Bool)(hl:∀t,f t=true→leased t=true)(ht:∀t∈j.ts,f t=false→tkOk now t=true→tkOk now' t=true):JOk now' (freeJ f j):=by
 refine⟨h.m,h.s,h.r,by show 1≤(free f j.ts).length;rw[free_len];exact h.l1,by show(free f j.ts).length≤8;rw[free_len];exact h.l8,fun t hm=>?_,fun hg=>?_⟩
 ·
  rcases mem_free hm with rfl | ⟨h1,h2⟩
  ·exact tk0_ok _
  ·exact ht t h1 h2 (h.t t h1)
 ·
  have hg':=h.g hg
  have e:free f j.ts=j.ts:=free_none fun t hm=>by
   cases hf:f t with
   | false=>rfl
   | true=>have:=hl t hf;rw[hg'.1 t hm]at this;simp at this
  show(∀t∈free f j.ts,leased t=false)∧(free f j.ts).all (·.done)=false;rw[e];exact hg'
theorem Right.jok{js:List Jb}(h:Right now uB bs js){j:Jb}(hj:j∈js):JOk now j:=jok_iff.1 (h.job j hj).2.2
theorem rise_map{f:Jb→Jb}(hf:∀j,(f j).id=j.id){js:List Jb}(h:js.Pairwise (fun a b=>a.id<b.id)):(js.map f).Pairwise (fun a b=>a.id<b.id):=by
 rw[List.pairwise_map];exact h.imp (fun hab=>by rw[hf,hf];exact hab)
theorem due_leased{t:Tk}(h:dueT now t=true):leased t=true:=by unfold dueT at h;rw[uU]at h;exact h.1
theorem tick_right{m:Mt}(h:Right m.now m.next m.bs m.js)(h1:1≤tr):Right (tick m tr).1.now (tick m tr).1.next (tick m tr).1.bs (tick m tr).1.js:=by
 have hn:m.now≤tickN m.now tr:=(by unfold tickN;have:=h.now1;split <;> omega);have Aa:tickN m.now tr≤1000000000:=(by unfold tickN;split <;> omega);refine⟨Int.le_trans h.now0 hn,Aa,h.next0,h.next1,by show(m.js.map _).length≤6;rw[List.length_map];exact h.few,h.bn,fun j hj=>?_,rise_map (f:=freeJ (dueT (tickN m.now tr))) (fun _=>rfl) h.rise,(wks_free _ _).nodup h.nd,fun x hx=>h.bd x ((wks_free _ _).subset hx)⟩;obtain⟨x,hx,rfl⟩:=List.mem_map.1 hj;refine⟨(h.job x hx).1,(h.job x hx).2.1,jok_iff.2 ((h.jok hx).freed _ (fun t ht=>due_leased ht) fun t _ hf ht=>?_)⟩;show tkOk (tickN m.now tr) t=true;unfold tkOk at ht ⊢;by_cases hw:t.l'=0
 ·
  simp only[hw,decide_true,Bool.true_and]at ht ⊢;by_cases hd:t.due=0
  ·simp[hd]
  ·simp[hd,wkOk]at ht
 ·
  simp only[hw,decide_false,Bool.false_and,Bool.false_or,uU,decide_eq_true_eq]at ht ⊢;unfold dueT leased at hf;simp only[hw,ne_eq,not_false_eq_true,decide_true,Bool.true_and,decide_eq_false_iff_not]at hf;exact⟨ht.1,ht.2.1,by omega,by omega⟩
theorem wkT_rep(n:Nat):wkT (List.replicate n t0)=[]:=by
 unfold wkT;rw[List.map_eq_nil_iff,List.filter_eq_nil_iff];intro t ht;rw[(List.mem_replicate.1 ht).2];simp[leased,t0]
theorem submit_right{m:Mt}{mc:Mc}{s:Int×Int}{rows:Int}(h:Right m.now m.next m.bs m.js)(hm:mc.ok=true)(hs:M.sOk s=true)(hr:M.rows rows=true)(h1:1≤tr)(h8:tr≤8):Right (submit m mc s rows tr).1.now (submit m mc s rows tr).1.next (submit m mc s rows tr).1.bs (submit m mc s rows tr).1.js:=by
 unfold submit
 split
 ·exact h
 ·
  rename_i hc;simp only[Bool.or_eq_true,decide_eq_true_eq,not_or]at hc;have hf:=h.few;have hn:=h.next1;have hw:wks (m.js++[⟨m.next,mc,s,rows,false,List.replicate tr.toNat t0⟩])=wks m.js:=(by unfold wks;rw[List.flatMap_append];simp[wkT_rep]);refine⟨h.now0,h.now1,by show 1≤m.next+1;have:=h.next0;omega,by show m.next+1≤_;omega,by show(m.js++_).length≤6;rw[uW,List.length_singleton];omega,h.bn,fun j hj=>?_,?_,by show(wks (m.js++_)).Nodup;rw[hw];exact h.nd,fun x hx=>h.bd x (by have hx':x∈wks (m.js++[⟨m.next,mc,s,rows,false,List.replicate tr.toNat t0⟩]):=hx;rwa[hw]at hx')⟩
  ·
   rcases uG.1 hj with hj | hj
   ·
    obtain⟨a,b,c⟩:=h.job j hj;exact⟨a,by show j.id<m.next+1;omega,c⟩
   ·
    simp only[List.mem_singleton]at hj;subst hj;refine⟨by show 0<m.next;have:=h.next0;omega,by show m.next<m.next+1;omega,jok_iff.2 ⟨hm,hs,hr,by show 1≤(List.replicate tr.toNat t0).length;rw[uS];omega,by show(List.replicate tr.toNat t0).length≤8;rw[uS];omega,fun t ht=>?_,fun hg=>by simp at hg⟩⟩;rw[(List.mem_replicate.1 ht).2];exact tk0_ok _
  ·
   rw[List.pairwise_append];refine⟨h.rise,by simp,fun a ha b hb=>?_⟩;simp only[List.mem_singleton]at hb;subst hb;exact(h.job a ha).2.1
theorem rise_set{js:List Jb}{j:Jb}(hi:i<js.length)(he:j.id=(js.getD i j0).id)(h:js.Pairwise (fun a b=>a.id<b.id)):(js.set i j).Pairwise (fun a b=>a.id<b.id):=by
 have e:(js.set i j).map (·.id)=js.map (·.id):=by
  rw[List.map_set,he];have e2:(js.getD i j0).id=(js.map (·.id))[i]'(by simpa using hi):=(by rw[List.getElem_map,m4,m6 hi];rfl);rw[e2,List.set_getElem_self]
 have h2:(js.map (·.id)).Pairwise (·< ·):=(by rw[List.pairwise_map];exact h);rw[←e,List.pairwise_map]at h2;exact h2
theorem mem_setJ{js:List Jb}{j x:Jb}(h:x∈js.set i j):x=j∨x∈js:=(List.mem_or_eq_of_mem_set h).symm
theorem wks_set:∀{js:List Jb} {i:Nat} {j:Jb},i<js.length→∃a b,wks js=a++(wkT (js.getD i j0).ts++b)∧wks (js.set i j)=a++(wkT j.ts++b)
 | [],_,_,h=>by simp at h
 | x::l,0,j,_=>⟨[],wks l,by rw[wks_cons];rfl,by rw[List.set_cons_zero,wks_cons];rfl⟩
 | x::l,i+1,j,h=>by
  obtain⟨a,b,h1,h2⟩:=wks_set (js:=l) (i:=i) (j:=j) (by simpa using h);exact⟨wkT x.ts++a,b,by rw[wks_cons,h1,List.append_assoc];rfl,by rw[List.set_cons_succ,wks_cons,h2,List.append_assoc]⟩
theorem jobAt_lt{js:List Jb}(h:¬ jobAt id 0 js<0):(jobAt id 0 js).toNat<js.length∧jobOf id js∈js∧(jobOf id js).id=id:=by
 obtain⟨i,h1,h2,h3⟩:=jobAt_some id js 0 (by omega);have e:(jobAt id 0 js).toNat=i:=(by rw[h2];simp);refine⟨by omega,?_,?_⟩ <;> unfold jobOf <;> rw[e]
 ·exact getD_mem h1
 ·exact h3
theorem cancel_right{m:Mt}(h:Right m.now m.next m.bs m.js):Right (cancel m id).1.now (cancel m id).1.next (cancel m id).1.bs (cancel m id).1.js:=by
 unfold cancel
 split
 ·exact h
 ·
  rename_i Da;obtain⟨hi,Aa,_⟩:=jobAt_lt Da
  split
  ·exact h
  ·
   rename_i hc;simp only[Bool.or_eq_true,not_or]at hc;obtain⟨wa,wb,e1,e2⟩:=wks_set (js:=m.js) (i:=(jobAt id 0 m.js).toNat) (j:={freeJ leased (jobOf id m.js)with gone:=true}) hi
   have Ba:(wks (m.js.set (jobAt id 0 m.js).toNat {freeJ leased (jobOf id m.js)with gone:=true})).Sublist (wks m.js):=by
    rw[e1,e2];exact List.Sublist.append (List.Sublist.refl _) (List.Sublist.append (wkT_free _ _) (List.Sublist.refl _))
   refine⟨h.now0,h.now1,h.next0,h.next1,by show(m.js.set _ _).length≤6;rw[List.length_set];exact h.few,h.bn,fun j hj=>?_,rise_set hi rfl h.rise,Ba.nodup h.nd,fun x hx=>h.bd x (Ba.subset hx)⟩
   rcases mem_setJ hj with rfl | hj
   ·
    refine⟨(h.job _ Aa).1,(h.job _ Aa).2.1,jok_iff.2 ?_⟩;have hj:=(h.jok Aa).freed (now':=m.now) leased (fun t ht=>ht) (fun t _ _ ht=>ht);refine⟨hj.m,hj.s,hj.r,hj.l1,hj.l8,hj.t,fun _=>⟨fun t ht=>?_,?_⟩⟩
    ·
     rcases mem_free ht with rfl | ⟨_,h2⟩
     ·simp[leased,t0]
     ·exact h2
    ·
     show(free leased (jobOf id m.js).ts).all (·.done)=false;have Ca:(jobOf id m.js).ts.all (·.done)=false:=(by simpa using hc.2);rw[List.all_eq_false]at Ca ⊢;obtain⟨t,ht,hd⟩:=Ca;refine⟨if leased t then t0 else t,List.mem_map.2 ⟨t,ht,rfl⟩,?_⟩
     split
     ·simp[t0]
     ·exact hd
   ·exact h.job j hj
theorem place_some:∀{js:List Jb} {i a b:Nat},place i js=some (a,b)→∃n,a=i+n∧n<js.length∧openP (js.getD n j0)=some b
 | [],_,_,_,h=>by simp[place]at h
 | j::l,i,a,b,h=>by
  have e:place i (j::l)=(match openP j with | some k=>some (i,k) | none=>place (i+1) l):=rfl
  rw[e]at h
  cases ho:openP j with
  | some k=>
   rw[ho]at h;simp only[Option.some.injEq,Prod.mk.injEq]at h;exact⟨0,by omega,by simp,by rw[←h.2];exact ho⟩
  | none=>
   rw[ho]at h;obtain⟨n,h1,h2,h3⟩:=place_some h;exact⟨n+1,by omega,by simpa using h2,h3⟩
theorem open_some{j:Jb}{b:Nat}(h:openP j=some b):j.gone=false∧b<j.ts.length∧isFree (j.ts.getD b t0)=true:=by
 unfold openP at h
 cases hg:j.gone with
 | true=>rw[hg]at h;simp at h
 | false=>
  rw[hg]at h;simp only[Bool.false_eq_true,if_false]at h;rw[List.findIdx?_eq_some_iff_getElem]at h;obtain⟨h1,h2,_⟩:=h;exact⟨rfl,h1,by rw[m4,m6 h1];exact h2⟩
theorem wkT_app(t:Tk)(l:List Tk):wkT (t::l)=(if leased t then[t.l']else[])++wkT l:=by
 unfold wkT;rw[List.filter_cons]
 cases leased t <;> rfl
theorem wkT_set_in{t:Tk}(ht:leased t=true):∀{ts:List Tk} {k:Nat},k<ts.length→leased (ts.getD k t0)=false→(wkT (ts.set k t)).Perm (t.l'::wkT ts)
 | [],_,h,_=>by simp at h
 | x::l,0,_,hx=>by
  have hx':leased x=false:=hx;rw[List.set_cons_zero,wkT_app,wkT_app,ht,hx'];exact List.Perm.refl _
 | x::l,k+1,h,hx=>by
  have ih:=wkT_set_in ht (ts:=l) (k:=k) (by simpa using h) hx;rw[List.set_cons_succ,wkT_app,wkT_app];exact(ih.append_left _).trans (List.perm_middle)
theorem wkT_set_out{t:Tk}(ht:leased t=false):∀{ts:List Tk} {k:Nat},(wkT (ts.set k t)).Sublist (wkT ts)
 | [],_=>by simp
 | x::l,0=>by
  rw[List.set_cons_zero,wkT_app,wkT_app,ht];exact List.sublist_append_right _ _
 | x::l,k+1=>by
  rw[List.set_cons_succ,wkT_app,wkT_app];exact(List.Sublist.refl _).append (wkT_set_out ht)
theorem JOk.set{j:Jb}(h:JOk now j)(hg:j.gone=false){t:Tk}(ht:tkOk now t=true)(k:Nat):JOk now {j with ts:=j.ts.set k t}:=
 ⟨h.m,h.s,h.r,by show 1≤(j.ts.set k t).length;rw[List.length_set];exact h.l1,by show(j.ts.set k t).length≤8;rw[List.length_set];exact h.l8,fun x hx=>by rcases List.mem_or_eq_of_mem_set hx with hx | rfl;exact h.t x hx;exact ht,fun hg'=>by have:j.gone=true:=hg';rw[hg]at this;simp at this⟩
theorem lease_right{m:Mt}(h:Right m.now m.next m.bs m.js)(hw:wkOk who=true):Right (lease m who).1.now (lease m who).1.next (lease m who).1.bs (lease m who).1.js:=by
 unfold lease
 split
 ·exact h
 ·
  rename_i hb
  split
  ·exact h
  ·
   rename_i Ea
   cases hp:place 0 m.js with
   | none=>exact h
   | some x=>
    obtain⟨i,k⟩:=x;obtain⟨n,hn,Aa,ho⟩:=place_some hp;obtain rfl:i=n:=by omega
    obtain⟨hg,hk,hf⟩:=open_some ho;have Ba:m.js.getD i j0∈m.js:=getD_mem Aa;have Ca:who≠0:=fun e=>by rw[e]at hw;simp[wkOk]at hw
    have hl:leased (⟨false,who,m.now+5⟩:Tk)=true:=(by simp[leased,Ca]);have Fa:leased ((m.js.getD i j0).ts.getD k t0)=false:=by unfold isFree at hf;rw[uU]at hf;simpa using hf.2
    have Ga:tkOk m.now ⟨false,who,m.now+5⟩=true:=by
     unfold tkOk;simp only[Ca,decide_false,Bool.false_and,Bool.false_or,Bool.not_false,Bool.true_and,hw];simp
    have Ha:who∉wks m.js:=fun hx=>by
     obtain⟨j,hj,t,ht,e⟩:=(mem_wks Ca).1 hx;apply Ea;rw[List.any_eq_true];exact⟨j,hj,by rw[List.any_eq_true];exact⟨t,ht,by simp[mineT,e]⟩⟩
    obtain⟨wa,wb,e1,e2⟩:=wks_set (js:=m.js) (i:=i) (j:={m.js.getD i j0 with ts:=(m.js.getD i j0).ts.set k ⟨false,who,m.now+5⟩}) Aa
    have Da:(wks (setT m.js i k ⟨false,who,m.now+5⟩)).Perm (who::wks m.js):=by
     unfold setT;rw[e1,e2];refine(List.Perm.append_left wa ((wkT_set_in hl hk Fa).append_right wb)).trans ?_;exact List.perm_middle
    refine⟨h.now0,h.now1,h.next0,h.next1,by show(setT _ _ _ _).length≤6;unfold setT;rw[List.length_set];exact h.few,h.bn,fun j hj=>?_,?_,?_,fun x hx=>?_⟩
    ·
     have hj':j∈m.js.set i {m.js.getD i j0 with ts:=(m.js.getD i j0).ts.set k ⟨false,who,m.now+5⟩}:=hj
     rcases mem_setJ hj' with rfl | hj'
     ·exact⟨(h.job _ Ba).1,(h.job _ Ba).2.1,jok_iff.2 ((h.jok Ba).set hg Ga k)⟩
     ·exact h.job j hj'
    ·exact rise_set Aa rfl h.rise
    ·exact Da.nodup_iff.2 (List.nodup_cons.2 ⟨Ha,h.nd⟩)
    ·
     have hx':=Da.mem_iff.1 hx
     rcases List.mem_cons.1 hx' with rfl | hx'
     ·simpa using hb
     ·exact h.bd x hx'
theorem wks_pos{js:List Jb}{x:Int}(h:x∈wks js):x≠0:=by
 unfold wks wkT at h;obtain⟨j,_,hx⟩:=uO.1 h;obtain⟨t,ht,rfl⟩:=List.mem_map.1 hx;have:=(List.mem_filter.1 ht).2;simpa[leased]using this
theorem bn_mk:∀{bs:List Int} {last:Int},(∀x∈bs,last<x∧wkOk x=true)→bs.Pairwise (·< ·)→bnGo last bs=true
 | [],_,_,_=>rfl
 | y::l,last,h,hp=>by
  rw[List.pairwise_cons]at hp;obtain⟨h1,h2⟩:=h y (by simp);unfold bnGo;rw[decide_eq_true h1,h2,bn_mk (fun x hx=>⟨hp.1 x hx,(h x (by simp[hx])).2⟩) hp.2]
  rfl
theorem back_right{g:Jb→Bool}{m:Mt}{s':Int}(h:Right m.now m.next m.bs m.js)(hw:wkOk who=true)(hp:0≤s'):Right (back g m who id s').1.now (back g m who id s').1.next (back g m who id s').1.bs (back g m who id s').1.js:=by
 have Ca:who≠0:=fun e=>by rw[e]at hw;simp[wkOk]at hw
 unfold back
 split
 ·exact h
 ·
  split
  ·exact h
  ·
   rename_i hc;simp only[Bool.or_eq_true,decide_eq_true_eq,not_or]at hc;obtain⟨hi,Ba,_⟩:=jobAt_lt hc.1
   split
   ·exact h
   ·
    rename_i Ea;have hwk':((jobOf id m.js).ts.getD s'.toNat t0).l'=who:=(by simpa using Ea);have Fa:s'.toNat<(jobOf id m.js).ts.length:=(by omega);have Ga:leased ((jobOf id m.js).ts.getD s'.toNat t0)=true:=by unfold leased;rw[hwk'];exact decide_eq_true Ca
    split
    ·
     have Aa:=wks_free (mineT who) m.js
     have Ha:∀x∈wks (m.js.map (freeJ (mineT who))),x≠who:=fun x hx e=>by
      obtain⟨j,hj,t,ht,e2⟩:=(mem_wks (wks_pos hx)).1 hx;obtain⟨j',_,rfl⟩:=List.mem_map.1 hj
      rcases mem_free ht with rfl | ⟨_,h2⟩
      ·exact wks_pos hx e2.symm
      ·simp[mineT]at h2;exact h2 (e2.trans e)
     refine⟨h.now0,h.now1,h.next0,h.next1,by show(m.js.map _).length≤6;rw[List.length_map];exact h.few,?_,fun j hj=>?_,rise_map (f:=freeJ (mineT who)) (fun _=>rfl) h.rise,Aa.nodup h.nd,fun x hx=>?_⟩
     ·
      refine bn_mk (fun x hx=>?_) (banned_pw _ _);have:=(mem_banned.1 hx).1;exact⟨by unfold wkOk at this;simp at this;omega,this⟩
     ·
      obtain⟨x,hx,rfl⟩:=List.mem_map.1 hj;exact⟨(h.job x hx).1,(h.job x hx).2.1,jok_iff.2 ((h.jok hx).freed _ (fun t ht=>by simp[mineT]at ht;simp[leased,ht,Ca]) (fun t _ _ ht=>ht))⟩
     ·
      have h1:=h.bd x (Aa.subset hx);have h2:=Ha x hx;show(banned m.bs who).contains x=false;rw[Bool.eq_false_iff];intro Da;rw[List.contains_iff_mem]at Da
      rcases(mem_banned.1 Da).2 with e | e
      ·exact h2 e
      ·rw[←List.contains_iff_mem,h1]at e;simp at e
    ·
     have hg:(jobOf id m.js).gone=false:=by
      cases hgg:(jobOf id m.js).gone with
      | false=>rfl
      | true=>have:=((h.jok Ba).g hgg).1 _ (getD_mem (d:=t0) Fa);rw[Ga]at this;simp at this
     obtain⟨wa,wb,e1,e2⟩:=wks_set (js:=m.js) (i:=(jobAt id 0 m.js).toNat) (j:={jobOf id m.js with ts:=(jobOf id m.js).ts.set s'.toNat ⟨true,0,0⟩}) hi
     have Aa:(wks (setT m.js (jobAt id 0 m.js).toNat s'.toNat ⟨true,0,0⟩)).Sublist (wks m.js):=by
      unfold setT;rw[show m.js.getD (jobAt id 0 m.js).toNat j0=jobOf id m.js from rfl,e2,e1];exact List.Sublist.append (List.Sublist.refl _) (List.Sublist.append (wkT_set_out (by simp[leased])) (List.Sublist.refl _))
     refine⟨h.now0,h.now1,h.next0,h.next1,by show(setT _ _ _ _).length≤6;unfold setT;rw[List.length_set];exact h.few,h.bn,fun j hj=>?_,rise_set hi rfl h.rise,Aa.nodup h.nd,fun x hx=>h.bd x (Aa.subset hx)⟩;have hj':j∈m.js.set (jobAt id 0 m.js).toNat {jobOf id m.js with ts:=(jobOf id m.js).ts.set s'.toNat ⟨true,0,0⟩}:=hj
     rcases mem_setJ hj' with rfl | hj'
     ·exact⟨(h.job _ Ba).1,(h.job _ Ba).2.1,jok_iff.2 ((h.jok Ba).set hg (by simp[tkOk]) _)⟩
     ·exact h.job j hj'
end M
namespace M
def scT(who:Int)(gone:Bool)(i k:Nat)(acc:Option (Nat×Nat)):List Tk→Option (Option (Nat×Nat))
 | []=>some acc
 | t::l=>if t.l'=who then none else scT who gone i (k+1) (if acc.isNone&&(!gone&&(!t.done&&decide (t.l'=0)))then some (i,k)else acc) l
def scJ(who:Int)(i:Nat)(acc:Option (Nat×Nat)):List Jb→Option (Option (Nat×Nat))
 | []=>some acc
 | j::l=>match scT who j.gone i 0 acc j.ts with
  | none=>none
  | some acc'=>scJ who (i+1) acc' l
def scI(who:Int)(i:Nat)(l:List Jb):Option (Option (Nat×Nat))→Option (Option (Nat×Nat))
 | none=>none
 | some acc=>scJ who i acc l
def lsA:Option (Nat×Nat)→Int
 | none=>-1
 | some x=>x.1
def lsP:Option (Nat×Nat)→Int
 | none=>-1
 | some x=>x.2
end M
set_option linter.unusedVariables false in
def rG:Prop:=∀(i':Nat) (ab aj:Option Addr) (nb cb nj cj:Nat) (bs:List Int) (qs:List MQ) (now uB who:Int) (w:World) (H:aV w i' ab nb cb bs aj nj cj qs) (uy:i'≤w.heap.size) (n0:0≤now) (n1:now≤1000000000) (hid:∀q∈qs,0<q.1.id∧q.1.id≤1000000000) (hT:∀q∈qs,q.1.ts.length≤8),
  Calls prog 47 #[.agg #[.int .i64 now,.int .i64 uB,.slice ab nb cb,.slice aj nj cj],.int .i64 who] w fun e w'=>
   match M.scJ who 0 none (qs.map (·.1))with
   | none=>e=.returned (.tuple #[.agg (aI now uB ab nb cb aj nj cj).toArray,it 6,it 0])∧aV w' i' ab nb cb bs aj nj cj qs∧Below i' w w'
   | some none=>e=.returned (.tuple #[.agg (aI now uB ab nb cb aj nj cj).toArray,it 4,it 0])∧aV w' i' ab nb cb bs aj nj cj qs∧Below i' w w'
   | some (some (i,k))=>e=.returned (.tuple #[.agg (aI now uB ab nb cb aj nj cj).toArray,it 0,it (100*(qs.getD i q0).1.id+k)])∧aV w' i' ab nb cb bs aj nj cj (qs.set i ({(qs.getD i q0).1 with ts:=(qs.getD i q0).1.ts.set k ⟨false,who,now+5⟩},(qs.getD i q0).2))∧Below i' w w'
set_option maxRecDepth 10000 in
def tQ:um rG:=by
 apply um.mk
 case h=>
  intro key0 Pa ab aj nb cb nj cj bs qs Aa Ca Ba w H Bb n0 n1 Xb hT;have HM:=Hd H;have Yb:=H.jl;have Yc:(nj:Int)≤9223372036854775807:=(by have:=H.sees.j.big;have:=H.sees.j.le;omega);have Zc:(nj:Int)≤cj:=(by have:=H.sees.j.le;omega);clear H;generalize Zb:M.scJ Ba 0 none (qs.map (·.1))=RQ;have Ac:=Hd Zb;clear Zb;go_enter func47,ntmps47;have Ea:H9 (au ((w.alloc (.cells (aI Aa Ca ab nb cb aj nj cj).toArray 27)).alloc (.cells aT.toArray 27)) w.heap.size (aI Aa Ca ab nb cb aj nj cj)):=(aO _ _ _).alloc _;have Fa:H9 (au ((w.alloc (.cells (aI Aa Ca ab nb cb aj nj cj).toArray 27)).alloc (.cells aT.toArray 27)) (w.heap.size+1) aT):=ba _ _ _ _;have Ja:H9 (m1 w ((w.alloc (.cells (aI Aa Ca ab nb cb aj nj cj).toArray 27)).alloc (.cells aT.toArray 27))):=((m5 _ _).alloc (m3 _) _).alloc (by simp) _;(go_wp2_with fail);generalize((w.alloc (.cells (aI Aa Ca ab nb cb aj nj cj).toArray 27)).alloc (.cells aT.toArray 27))=wa at *;have x0:=Ea.c 0;have x1:=Ea.c 1;have x2:=Ea.c 2;have x3:=Ea.c 3;(go_wp2_with fail);clear x0 x1 x2 x3;have Bc:=Hd (HM.o.below Ja.o);have Ib:=Hd HM.o.lt;have Cc:=Hd (Ja.o.mono Bb);have Dc:=Hd Xb;have Ec:=Hd hT;clear HM Xb hT
  go_loopw [7,8,9] (fun a b i wr=>∃(n:Nat) (Da:Option (Nat×Nat)),n≤nj∧i=it n∧a=it (M.lsA Da)∧b=it (M.lsP Da)∧M.scJ Ba n Da ((qs.map (·.1)).drop n)=RQ∧(∀x,Da=some x→x.1<nj∧x.2<(qs.getD x.1 q0).1.ts.length)∧aV wr Pa ab nb cb bs aj nj cj qs∧au wr w.heap.size (aI Aa Ca ab nb cb aj nj cj)∧au wr (w.heap.size+1) aT∧Below Pa w wr) (fun _ _ i _=>nj-(intOf i).toNat)
  case atStart=>exact⟨0,none,by omega,rfl,rfl,rfl,Ac.o,(fun x h=>by simp at h),Bc.o,Ea.o,Fa.o,Cc.o⟩
  case round=>
   obtain⟨n,Da,hn,rfl,rfl,rfl,hR,Qa,hG,Ka,Ra,Sa⟩:=hrel;clear Bc Ac Cc Ea Fa Ja;by_cases Ta:n<nj
   case pos=>
    obtain⟨gj,rfl⟩:=hG.block (by omega);have Fc:(n:Int)<(nj:Int):=(by omega);have hT:=hG.jtask Ta;have Wa:wr.cell? ⟨gj,n*18+17,none⟩=some (.slice (qs.getD n q0).2.1 (qs.getD n q0).1.ts.length (qs.getD n q0).2.2):=hG.jcell Ta (by omega);have Gc:wr.cell? ⟨gj,n*18+16,none⟩=some (.bool (qs.getD n q0).1.gone):=hG.jcell Ta (by omega);have Cb:((qs.getD n q0).1.ts.length:Int)≤9223372036854775807:=(by have:=hT.sees.big;have:=hT.sees.le;omega);have Hc:((qs.getD n q0).1.ts.length:Int)≤(qs.getD n q0).2.2:=(by have:=hT.sees.le;omega);have Ha:M.scI Ba (n+1) ((qs.map (·.1)).drop (n+1)) (M.scT Ba (qs.getD n q0).1.gone n 0 Da (qs.getD n q0).1.ts)=RQ:=(by rw[←hR,aY M.j0 (by simp;exact Yb) Ta,dB];unfold M.scJ M.scI;cases M.scT Ba (qs.getD n q0).1.gone n 0 Da (qs.getD n q0).1.ts <;> rfl);generalize Za:(qs.getD n q0).1.ts.length=tn at Wa Cb Hc hT;generalize Ic:(qs.getD n q0).2.1=ta at Wa hT;generalize Jb:(qs.getD n q0).2.2=tc at Wa hT Hc;generalize Jc:(qs.getD n q0).1.gone=Ab at Gc Ha;generalize Tb:(qs.getD n q0).1.ts=tl at Za Ha hT;have x3:=Ka.c 3;generalize Kc:(qs.map (·.1)).drop (n+1)=DR at Ha;have Kb:=Hd hG;have Lb:=Hd Ha;have Ua:H9 ((qs.getD n q0).1.ts=tl∧(qs.getD n q0).1.ts.length=tn∧(qs.getD n q0).2.1=ta∧(qs.getD n q0).2.2=tc∧(qs.getD n q0).1.gone=Ab):=⟨Tb,by rw[Tb];exact Za,Ic,Jb,Jc⟩;have Lc:=Hd Za;have Ad:=Hd Kc;have Nb:=Hd Ka;have Ob:=Hd Ra;have Pb:=Hd Sa;have Ia:=Hd Qa;clear hG hR Ha Ka Ra Sa Za Ic Jb hT Jc Tb Kc Qa Gc;(go_wp2_with fail);clear x3 Wa
    go_loopw [7,8,10] (fun a b i wr=>∃(p:Nat) (Da:Option (Nat×Nat)),p≤tn∧i=it p∧a=it (M.lsA Da)∧b=it (M.lsP Da)∧M.scI Ba (n+1) DR (M.scT Ba Ab n p Da (tl.drop p))=RQ∧(∀x,Da=some x→x.1<nj∧x.2<(qs.getD x.1 q0).1.ts.length)∧aV wr Pa ab nb cb bs (some ⟨gj,0,none⟩) nj cj qs∧au wr w.heap.size (aI Aa Ca ab nb cb (some ⟨gj,0,none⟩) nj cj)∧au wr (w.heap.size+1) aT∧Below Pa w wr) (fun _ _ i _=>tn-(intOf i).toNat)
    case atStart=>exact⟨0,Da,by omega,rfl,rfl,rfl,Lb.o,Ia.o,Kb.o,Nb.o,Ob.o,Pb.o⟩
    case round=>
     clear Kb Lb Nb Ob Pb Ia;obtain⟨p,Da,hp,rfl,rfl,rfl,hR,Qa,hG,Ka,Ra,Sa⟩:=hrel;have Wa:wr.cell? ⟨gj,n*18+17,none⟩=some (.slice (qs.getD n q0).2.1 (qs.getD n q0).1.ts.length (qs.getD n q0).2.2):=hG.jcell Ta (by omega);rw[Ua.o.2.1,Ua.o.2.2.1,Ua.o.2.2.2.1]at Wa;have x3:=Ka.c 3;by_cases Db:p<tn
     case neg=>
      have Je:p=tn:=(by omega);have Kb:=Hd hG;have Lb:H9 (M.scJ Ba (n+1) Da ((qs.map (·.1)).drop (n+1))=RQ):=(by show _=_;rw[Ad.o,←hR,m9 (by have:=Lc.o;omega)];rfl);have Nb:=Hd Ka;have Ob:=Hd Ra;have Pb:=Hd Sa;have Ia:=Hd Qa;have Bd:¬ (p:Int)<(tn:Int):=(by omega);clear hG hR Ka Ra Sa Qa;go_wp2;go_roundw
      case rel=>exact⟨n+1,Da,by omega,by go_num,rfl,rfl,Lb.o,Ia.o,Kb.o,Nb.o,Ob.o,Pb.o⟩
      case measure=>simp[intOf];omega
     have hT:=hG.jtask Ta;rw[Ua.o.2.1,Ua.o.2.2.1,Ua.o.2.2.2.1,Ua.o.1]at hT;obtain⟨g,rfl⟩:=hT.block (by omega);have Bd:(p:Int)<(tn:Int):=(by omega);have a0:wr.cell? ⟨g,p*3,none⟩=some (.bool (tl.getD p M.t0).done):=hT.cells Db (j:=0) (by omega);have a1:wr.cell? ⟨g,p*3+1,none⟩=some (it (tl.getD p M.t0).l'):=hT.cells Db (j:=1) (by omega);have a2:wr.cell? ⟨g,p*3+2,none⟩=some (it (tl.getD p M.t0).due):=hT.cells Db (j:=2) (by omega);have Ha:=hR;rw[aY M.t0 Lc.o Db]at Ha;unfold M.scT at Ha;generalize tl.getD p M.t0=cq at a0 a1 a2 Ha;obtain⟨td,x,y⟩:=cq;dsimp only at a0 a1 a2 Ha;have HR:H9 (_=RQ):=Ha;clear hR Ha hT;have La:=Hd hG;have Ea:=Hd Ka;have Fa:=Hd Ra;have Ja:=Hd Sa;have Ia:=Hd Qa;clear hG Ka Ra Sa Qa;have Eb:=eK wr (.cells (eG td x y).toArray 47);have Xa:=Hd (La.o.below Eb);have Na:=Ea.b Eb;have Ga:=Fa.b Eb;have Ya:=Hd (Ja.o.trans (Eb.mono (m8 Bb Ja.o.size)));clear La Ea Fa Ja;clear Eb;have Qb:=ct wr (eG td x y) 47;(go_wp2_with(with_reducible refine aA 39 ?_ ?_;rfl));show wpList _ _ _ _ _ _;clear a0 a1 a2 x3 Wa;generalize(wr.alloc (.cells (eG td x y).toArray 47))=w5 at *;generalize wr.heap.size=tb at Qb ⊢;have Ke:=Qb.c 0;have Le:=Qb.c 1;have Ne:=Qb.c 2;by_cases Fb:x=Ba
     ·
      have g2:(x==Ba)=true:=(by simp[Fb]);obtain rfl:RQ=none:=by have:=HR.o;rw[if_pos Fb]at this;exact this.symm
      clear HR Fb;have o0:=Na.c 0;have o1:=Na.c 1;have o2:=Na.c 2;have o3:=Na.c 3;have r0:=Ga.c 0;have Cd:=Ga.o.fr 0;have r1:=Ga.c 1;have Dd:=Ga.o.fr 1;have r2:=Ga.c 2;have Ed:=Ga.o.fr 2;have r3:=Ga.c 3;have Fd:=Ga.o.fr 3;(go_wp2_with fail);show bodyPost _ _ _ _ _ (w5.setCells (w.heap.size+1) 0 (aI Aa Ca ab nb cb (some ⟨gj,0,none⟩) nj cj));have Ub:au (w5.setCells (w.heap.size+1) 0 (aI Aa Ca ab nb cb (some ⟨gj,0,none⟩) nj cj)) (w.heap.size+1) (aI Aa Ca ab nb cb (some ⟨gj,0,none⟩) nj cj):=Ga.o.setCells (aI Aa Ca ab nb cb (some ⟨gj,0,none⟩) nj cj) 0 (by simp);have Gb:=cm w5 (w.heap.size+1) 0 (aI Aa Ca ab nb cb (some ⟨gj,0,none⟩) nj cj);have Vb:=Xa.o.grown Gb (fun g hg e=>by skip;have:=Ib.o g hg;have:=m2 e;omega);have Wb:=Ya.o.trans (ap Gb (m8 Bb Ya.o.size) (fun z e=>by have:=m2 e;omega));generalize(w5.setCells (w.heap.size+1) 0 (aI Aa Ca ab nb cb (some ⟨gj,0,none⟩) nj cj))=wf at *;exact m7 (aJ rfl rfl (uN wf (w.heap.size+1) 0 27 _ _ Ub.row underlying27 rfl (by kernel_rfl))) rfl ⟨rfl,Vb,Wb⟩
     have g2:(x==Ba)=false:=(by simp[Fb]);have Oa:H9 (M.scI Ba (n+1) DR (M.scT Ba Ab n (p+1) (if Da.isNone&&(!Ab&&(!td&&decide (x=0)))then some (n,p)else Da) (tl.drop (p+1)))=RQ):=(by show _=_;have:=HR.o;rw[if_neg Fb]at this;exact this);clear HR;have x3:=Na.c 3;have Gd:w5.cell? ⟨gj,n*18+16,none⟩=some (.bool (qs.getD n q0).1.gone):=Xa.o.jcell Ta (by omega);rw[Ua.o.2.2.2.2]at Gd
     cases Da with
     | some xa=>
      have gA:decide (M.lsA (some xa)<0)=false:=decide_eq_false (by show ¬ ((xa.1:Nat):Int)<0;omega);have Va:H9 (M.scI Ba (n+1) DR (M.scT Ba Ab n (p+1) (some xa) (tl.drop (p+1)))=RQ):=(by show _=_;have:=Oa.o;rw[show(some xa:Option (Nat×Nat)).isNone=false from rfl,Bool.false_and,if_neg (by simp)]at this;exact this);clear Oa;generalize Nc:M.lsA (some xa)=la at *;generalize Oc:M.lsP (some xa)=lp;have Pc:H9 (M.lsA (some xa)=la∧M.lsP (some xa)=lp):=⟨Nc,Oc⟩;clear Nc Oc;have Oe:¬ la<0:=(by simpa using gA);go_wp2;go_roundw
      case rel=>exact⟨p+1,some xa,by omega,by go_num,by rw[Pc.o.1],by rw[Pc.o.2],Va.o,Ia.o,Xa.o,Na.o,Ga.o,Ya.o⟩
      case measure=>simp[intOf];omega
     | none=>
      cases Ab with
      | true=>
       have Va:H9 (M.scI Ba (n+1) DR (M.scT Ba true n (p+1) none (tl.drop (p+1)))=RQ):=(by show _=_;have:=Oa.o;simpa using this);clear Oa;have gA:M.lsA none=-1:=rfl;have gP:M.lsP none=-1:=rfl;go_wp2;go_roundw
       case rel=>exact⟨p+1,none,by omega,by go_num,rfl,rfl,Va.o,Ia.o,Xa.o,Na.o,Ga.o,Ya.o⟩
       case measure=>simp[intOf];omega
      | false=>
       cases td with
       | true=>
        have Va:H9 (M.scI Ba (n+1) DR (M.scT Ba false n (p+1) none (tl.drop (p+1)))=RQ):=(by show _=_;have:=Oa.o;simpa using this);clear Oa;have gA:M.lsA none=-1:=rfl;have gP:M.lsP none=-1:=rfl;go_wp2;go_roundw
        case rel=>exact⟨p+1,none,by omega,by go_num,rfl,rfl,Va.o,Ia.o,Xa.o,Na.o,Ga.o,Ya.o⟩
        case measure=>simp[intOf];omega
       | false=>
        by_cases Rb:x=0
        ·
         have g3:(x==0)=true:=(by simp[Rb]);have Va:H9 (M.scI Ba (n+1) DR (M.scT Ba false n (p+1) (some (n,p)) (tl.drop (p+1)))=RQ):=(by show _=_;have:=Oa.o;rw[Rb]at this;simpa using this);clear Oa;have Id:H9 (∀x,some (n,p)=some x→x.1<nj∧x.2<(qs.getD x.1 q0).1.ts.length):=fun x h=>by injection h with h;subst h;exact⟨Ta,by show p<_;rw[Ua.o.2.1];exact Db⟩
         have gA:M.lsA none=-1:=rfl;have gP:M.lsP none=-1:=rfl;go_wp2;go_roundw
         case rel=>exact⟨p+1,(some (n,p)),by omega,by go_num,rfl,rfl,Va.o,Id.o,Xa.o,Na.o,Ga.o,Ya.o⟩
         case measure=>simp[intOf];omega
        have g3:(x==0)=false:=(by simp[Rb]);have Va:H9 (M.scI Ba (n+1) DR (M.scT Ba false n (p+1) none (tl.drop (p+1)))=RQ):=(by show _=_;have:=Oa.o;simpa[Rb]using this);clear Oa;have gA:M.lsA none=-1:=rfl;have gP:M.lsP none=-1:=rfl;go_wp2;go_roundw
        case rel=>exact⟨p+1,none,by omega,by go_num,rfl,rfl,Va.o,Ia.o,Xa.o,Na.o,Ga.o,Ya.o⟩
        case measure=>simp[intOf];omega
   have Jd:n=nj:=(by omega);obtain rfl:RQ=some Da:=by rw[←hR,m9 (by simp;omega)];rfl
   have Fc:¬ (n:Int)<(nj:Int):=(by omega);have Ia:=Hd Qa;have La:=Hd hG;have Ea:=Hd Ka;have Fa:=Hd Ra;have Ja:=Hd Sa;clear hG Ka Ra Sa hR Qa;subst Jd
   cases Da with
   | none=>
    have gA:M.lsA none=-1:=rfl;have o0:=Ea.c 0;have o1:=Ea.c 1;have o2:=Ea.c 2;have o3:=Ea.c 3;have r0:=Fa.c 0;have Cd:=Fa.o.fr 0;have r1:=Fa.c 1;have Dd:=Fa.o.fr 1;have r2:=Fa.c 2;have Ed:=Fa.o.fr 2;have r3:=Fa.c 3;have Fd:=Fa.o.fr 3;(go_wp2_with fail);show bodyPost _ _ _ _ _ (wr.setCells (w.heap.size+1) 0 (aI Aa Ca ab nb cb aj n cj));have Ub:au (wr.setCells (w.heap.size+1) 0 (aI Aa Ca ab nb cb aj n cj)) (w.heap.size+1) (aI Aa Ca ab nb cb aj n cj):=Fa.o.setCells (aI Aa Ca ab nb cb aj n cj) 0 (by simp);have Gb:=cm wr (w.heap.size+1) 0 (aI Aa Ca ab nb cb aj n cj);have Vb:=La.o.grown Gb (fun g hg e=>by skip;have:=Ib.o g hg;have:=m2 e;omega);have Wb:=Ja.o.trans (ap Gb (m8 Bb Ja.o.size) (fun z e=>by have:=m2 e;omega));generalize(wr.setCells (w.heap.size+1) 0 (aI Aa Ca ab nb cb aj n cj))=wf at *;exact m7 (aJ rfl rfl (uN wf (w.heap.size+1) 0 27 _ _ Ub.row underlying27 rfl (by kernel_rfl))) rfl ⟨rfl,Vb,Wb⟩
   | some xa=>
    obtain⟨i,j⟩:=xa;obtain⟨hi,hj⟩:=Ia.o _ rfl;dsimp only at hi hj;have eA:M.lsA (some (i,j))=(i:Int):=rfl;have eP:M.lsP (some (i,j))=(j:Int):=rfl;rw[eA,eP];clear eA eP Ia;obtain⟨gj,rfl⟩:=La.o.block (by omega);have hT:=La.o.jtask hi;obtain⟨g,hg⟩:=hT.block (by omega);rw[hg]at hT;have Sb:wr.cell? ⟨gj,i*18+17,none⟩=some (.slice (qs.getD i q0).2.1 (qs.getD i q0).1.ts.length (qs.getD i q0).2.2):=La.o.jcell hi (by omega);rw[hg]at Sb;have c0:wr.cell? ⟨gj,i*18,none⟩=some (it (qs.getD i q0).1.id):=La.o.jcell hi (j:=0) (by omega);have b0:=hT.cells hj (j:=0) (by omega);have Qc:=hT.2.frozenAt (j*3+0);have b1:=hT.cells hj (j:=1) (by omega);have Kd:=hT.2.frozenAt (j*3+1);have b2:=hT.cells hj (j:=2) (by omega);have Ld:=hT.2.frozenAt (j*3+2);rw[Nat.add_zero]at b0 Qc;generalize Nd:(qs.getD i q0).1.ts.getD j M.t0=zz at b0 b1 b2;obtain⟨z1,z2,z3⟩:=zz;simp only[dW,List.getElem?_cons_zero,List.getElem?_cons_succ]at b0 b1 b2;clear Nd;have Hb:qs.getD i q0∈qs:=(by rw[m4,m6 (by omega)];simp);have Rc:=Dc.o _ Hb;have Sc:=Ec.o _ Hb;have Cb:((qs.getD i q0).1.ts.length:Int)≤(qs.getD i q0).2.2:=(by have:=hT.sees.le;omega);have HP:=La.o.task hi hg hj ⟨false,Ba,Aa+5⟩;obtain⟨Tc,Uc⟩:=HP;have Od:H9 _:=Tc;have Pd:H9 _:=Uc
    have Vc:g∈bY ab (some ⟨gj,0,none⟩) qs:=by
     unfold bY;simp only[uG];exact .inr (.inr (uO.2 ⟨_,Hb,by rw[hg];simp[ob]⟩))
    have Qd:=Ib.o g Vc;have Rd:g≠gj:=fun e=>(cK.1 La.o.d).2.1 gj (by simp[ob]) (uO.2 ⟨_,Hb,by rw[hg];simp[ob,e]⟩);have Wc:bY ab (some ⟨gj,0,none⟩) (qs.set i ({(qs.getD i q0).1 with ts:=(qs.getD i q0).1.ts.set j ⟨false,Ba,Aa+5⟩},(qs.getD i q0).2))=bY ab (some ⟨gj,0,none⟩) qs:=fG (qs:=qs) (i:=i) _ (by omega) (by rfl);have Sd:H9 _:=Wc;generalize Za:(qs.getD i q0).1.ts.length=tn at Sb Cb Sc hj;generalize Jb:(qs.getD i q0).2.2=tc at Sb Cb;generalize Xc:(qs.getD i q0).1.id=iv at c0 Rc;have Td:=Hd Xc;have Ud:(i:Int)<(n:Int):=(by omega);have Vd:(j:Int)<(tn:Int):=(by omega);have Wd:¬ (i:Int)<0:=(by omega);have Xd:(0:Int)≤(i:Int):=(by omega);have Yd:(0:Int)≤(j:Int):=(by omega);have Zd:IntKind.i64.wrap (Aa+5)=Aa+5:=(by rw[uQ];omega);have Ae:IntKind.i64.wrap (100*iv)=100*iv:=(by rw[uQ];omega);have Be:IntKind.i64.wrap (100*iv+(j:Int))=100*iv+(j:Int):=(by rw[uQ];omega);clear Tc Uc hT hg Hb Za Jb Xc Vc Wc;have x0:=Ea.c 0;have x3:=Ea.c 3;(go_wp2_with fail);apply eV
    case f=>
     intro key
     go_region_law (fail)
     all_goals exact key.out
    case h=>
     rename_i Ce De Ee Fe Ge He Ie;revert Pa ab nb cb cj bs qs Aa Ca Ba w Bb n0 n1 Ce wa Dc Ec wr u5 u6 u10 u11 u12 u13 u14 u15 u16 u17 u18 u19 u20 u21 u22 u23 u24 u25 u26 u27 u28 u29 u30 u31 u32 u33 u34 u35 u36 u37 u38 u39 u40 u41 u42 u43 u44 u45 u46 u47 u48 u49 u50 u51 u52 u53 u54 u55 u56 u57 u58 u59 u60 u61 u62 u63 u64 u65 u66 n Fa Ja Yb Yc Zc hn Ta i j hi gj Ib La Ea De g Qc Kd Ld z1 z2 z3 b0 b1 b2 Od Pd Qd Rd Sd tn Sc hj tc Sb Cb iv c0 Rc Td Ud Vd Xd Yd Zd Ae Be x0 x3 Ee Fe Ge He Ie Fc Wd;exact key0.out
set_option maxRecDepth 10000 in
theorem tD:tQ.p:=by
    intro La ab nb cb cj bs qs Aa Ba Ca w Na n0 n1 Sb wa Tb Ub wr u5 u6 Vb Wb Xb Yb Zb Ac Bc Cc Dc Ec Fc Gc Hc Ic Jc Kc Lc Nc Oc Pc Qc Rc Sc Tc Uc Vc Wc Xc Yc Zc Ad Bd Cd Dd Ed Fd Gd Id Jd Kd Ld Nd Od Pd Qd Rd Sd Td Ud Vd Wd Xd Yd Zd Ae Be Ce n Ha Ea De Ee Fe hn Ge i j hi gj Oa Ja Fa He g Fb Gb Hb z1 z2 z3 b0 b1 b2 Pa Qa Ie Ib Jb tn Je hj tc Kb Ke iv c0 Le Lb Ne Oe Pe Qe Re Se Te x0 x3 Ue Ve We Xe Ye Ze Af;show Exit.then _ _ Exit.normal _ (wr.setCells g (j*3) (dW ⟨false,Ca,Aa+5⟩)).drew;have Ra:Below (wr.setCells g (j*3) (dW ⟨false,Ca,Aa+5⟩)).heap.size (wr.setCells g (j*3) (dW ⟨false,Ca,Aa+5⟩)) (wr.setCells g (j*3) (dW ⟨false,Ca,Aa+5⟩)).drew:=(m5 _ _).drew;have Ga:=Qa.o.trans (cU _ _);have Sa:=Hd (Pa.o.below Ra);have Ta:=Hd (Fa.o.grown Ga (fun e=>by have:=m2 e;omega));have Ua:=Hd (Ha.o.grown Ga (fun e=>by have:=m2 e;omega));have Va:=Hd (Ea.o.trans (ap Ga (m8 Na Ea.o.size) (fun z e=>by have:=m2 e;omega)));have Nb:=Ga.cell c0 (by simp;exact fun e=>Ib e.symm);generalize(wr.setCells g (j*3) (dW ⟨false,Ca,Aa+5⟩)).drew=w2 at *;clear Ra Ga Pa Qa c0 Kb b0 b1 b2 Fb Gb Hb x0 x3 Ja Fa Ha Ea;have Ja:=Sa;have Fa:=Ta;have Ha:=Ua;have Ea:=Va;clear Sa Ta Ua Va;have Bf:=Oa.o gj (by simp[bY,ob]);(go_wp2_with fail);refine cB w2 (some (w.heap.size+1)) (by kernel_rfl) fun hHeld=>?_;have Wa:m1 w2 w2.drew:=(m5 _ _).drew;have Xa:=Ha.b Wa;generalize w2.drew=Ia at *;clear Wa;refine wpAnyH_take (i:=0) (v:=.agg (aI Aa Ba ab nb cb (some ⟨gj,0,none⟩) n cj).toArray) rfl (by kernel_rfl) (by kernel_rfl) (by kernel_rfl) (fun _ _ _ h=>h) (uM (by kernel_rfl) 27 (.tmp 2) rfl w.heap.size 0 rfl (aI Aa Ba ab nb cb (some ⟨gj,0,none⟩) n cj) _ (fun W h=>(Fa.o.grown h (by simp)).row) underlying27 rfl (by kernel_rfl)) (by assumption) ?_;refine tk 1 (.pointer (some ⟨w.heap.size,3,none⟩)) ?_ ?_
    ·intro wq Da;go_simp
    refine tk 2 (.slice (some ⟨gj,0,none⟩) n cj) ?_ ?_
    ·intro wp Ka;have q0:=(Fa.o.grown Ka (by simp)).c 3;go_simp
    refine tk 3 (it (i:Nat)) ?_ ?_
    ·intro wq Da;go_simp
    refine tk 4 (.pointer (some ⟨gj,i*18,none⟩)) ?_ ?_
    ·intro wq Da;go_simp
    refine tk 5 (.pointer (some ⟨gj,i*18,none⟩)) ?_ ?_
    ·intro wq Da;go_simp
    refine tk 6 (it iv) ?_ ?_
    ·intro wp Ka;have q0:=Ka.cell Nb (by simp;omega);go_simp
    refine tk 7 (it (100*iv)) ?_ ?_
    ·intro wq Da;go_simp
    refine tk 8 (it (j:Nat)) ?_ ?_
    ·intro wq Da;go_simp
    refine tk 9 (it (100*iv+(j:Int))) ?_ ?_
    ·intro wq Da;go_simp
    refine aX 10 fun Kk hK=>?_;rw[if_pos (by kernel_rfl)];with_reducible refine wp_store_mid 27 (.tmp 4) (.tmp 83) ?_ (w.heap.size+1) 0 ((aI Aa Ba ab nb cb (some ⟨gj,0,none⟩) n cj):List Value).toArray ?_ ?_ ?_ (by kernel_rfl) (by kernel_rfl) ?_
    ·kernel_rfl
    ·kernel_rfl
    ·kernel_rfl
    ·exact Xa.o.there 0 4 (by simp)
    refine hK.out _ _ (a8 hHeld 0 _) (fun hHeld2=>?_);clear hK Kk;refine tk 11 (it 0) ?_ ?_
    ·intro wq Da;go_simp
    refine tk 12 (it (100*iv+(j:Int))) ?_ ?_
    ·intro wq Da;go_simp
    refine bg ?_;go_simp;have hS:w2.grownBy (Ia.setCells (w.heap.size+1) 0 (aI Aa Ba ab nb cb (some ⟨gj,0,none⟩) n cj)) (some (w.heap.size+1)):=a8 hHeld 0 _;have Ya:au (Ia.setCells (w.heap.size+1) 0 (aI Aa Ba ab nb cb (some ⟨gj,0,none⟩) n cj)) (w.heap.size+1) (aI Aa Ba ab nb cb (some ⟨gj,0,none⟩) n cj):=Xa.o.setCells (aI Aa Ba ab nb cb (some ⟨gj,0,none⟩) n cj) 0 (by simp);have Za:=Ja.o.grown hS (fun g hg e=>by rw[Jb.o]at hg;have:=Oa.o g hg;have:=m2 e;omega);have Ab:=Ea.o.trans (ap hS (m8 Na Ea.o.size) (fun z e=>by have:=m2 e;omega));generalize(Ia.setCells (w.heap.size+1) 0 (aI Aa Ba ab nb cb (some ⟨gj,0,none⟩) n cj))=wf at *;have Ob:H9 _:=Za;have Pb:H9 _:=Ab;have Qb:=Hd Ya;clear Za Ab Ya hS;(go_wp2_with fail);have Bb:i<qs.length:=(by omega);have Cb:qs.getD i q0=qs[i]'Bb:=(by rw[m4,m6 Bb];rfl);have Db:=Ob.o;rw[Cb]at Db;have Eb:=Lb.o;rw[Cb]at Eb;have Rb:=Qb.o.row;refine m7 (aJ rfl rfl (uN wf (w.heap.size+1) 0 27 _ _ Rb underlying27 rfl (by kernel_rfl))) rfl ?_;refine⟨?_,Db,Pb.o⟩;rw[Eb]
    rfl
theorem oF{qs:List MQ}(now uB who:Int)(w:World)(H:aV w i' ab nb cb bs aj nj cj qs)(uy:i'≤w.heap.size)(n0:0≤now)(n1:now≤1000000000)(hid:∀q∈qs,0<q.1.id∧q.1.id≤1000000000)(hT:∀q∈qs,q.1.ts.length≤8):
  Calls prog 47 #[.agg #[.int .i64 now,.int .i64 uB,.slice ab nb cb,.slice aj nj cj],.int .i64 who] w fun e w'=>
   match M.scJ who 0 none (qs.map (·.1))with
   | none=>e=.returned (.tuple #[.agg (aI now uB ab nb cb aj nj cj).toArray,it 6,it 0])∧aV w' i' ab nb cb bs aj nj cj qs∧Below i' w w'
   | some none=>e=.returned (.tuple #[.agg (aI now uB ab nb cb aj nj cj).toArray,it 4,it 0])∧aV w' i' ab nb cb bs aj nj cj qs∧Below i' w w'
   | some (some (i,k))=>e=.returned (.tuple #[.agg (aI now uB ab nb cb aj nj cj).toArray,it 0,it (100*(qs.getD i q0).1.id+k)])∧aV w' i' ab nb cb bs aj nj cj (qs.set i ({(qs.getD i q0).1 with ts:=(qs.getD i q0).1.ts.set k ⟨false,who,now+5⟩},(qs.getD i q0).2))∧Below i' w w':=tQ.h ⟨tD⟩ i' ab aj nb cb nj cj bs qs now uB who w H uy n0 n1 hid hT
namespace M
def accO(i k:Nat)(gone:Bool)(ts:List Tk):Option (Nat×Nat)→Option (Nat×Nat)
 | some x=>some x
 | none=>if gone then none else(ts.findIdx? isFree).map fun m=>(i,k+m)
theorem free_eq(t:Tk):isFree t=(!t.done&&decide (t.l'=0)):=by
 unfold isFree leased;by_cases h:t.l'=0 <;> simp[h]
theorem scT_eq(who:Int)(gone:Bool)(i:Nat):∀(ts:List Tk) (k:Nat) (acc:Option (Nat×Nat)),scT who gone i k acc ts=if ts.any (mineT who)then none else some (accO i k gone ts acc)
 | [],k,acc=>by cases acc <;> cases gone <;> rfl
 | t::l,k,acc=>by
  unfold scT;by_cases hw:t.l'=who
  ·rw[if_pos hw];simp[mineT,hw]
  ·
   rw[if_neg hw,scT_eq who gone i l (k+1),List.any_cons,show mineT who t=false by simp[mineT,hw],Bool.false_or];by_cases ha:l.any (mineT who)=true
   ·rw[if_pos ha,if_pos ha]
   ·
    rw[if_neg ha,if_neg ha]
    congr 1
    cases acc with
    | some x=>rfl
    | none=>
     cases gone with
     | true=>rfl
     | false=>
      simp only[Option.isNone_none,Bool.true_and,Bool.not_false,←free_eq];unfold accO;rw[List.findIdx?_cons]
      cases hf:isFree t with
      | true=>simp
      | false=>
       simp only[Bool.false_eq_true,if_false,Option.map_map]
       cases l.findIdx? isFree with
       | none=>rfl
       | some m=>simp;omega
theorem scJ_eq(who:Int):∀(js:List Jb) (i:Nat) (acc:Option (Nat×Nat)),scJ who i acc js=if js.any (fun j=>j.ts.any (mineT who))then none else some (match acc with | some x=>some x | none=>place i js)
 | [],i,acc=>by cases acc <;> rfl
 | j::l,i,acc=>by
  unfold scJ;rw[scT_eq,List.any_cons];by_cases ha:j.ts.any (mineT who)=true
  ·rw[if_pos ha,ha];rfl
  ·
   rw[if_neg ha];have hf:j.ts.any (mineT who)=false:=(by simpa using ha);rw[hf,Bool.false_or];show scJ who (i+1) (accO i 0 j.gone j.ts acc) l=_;rw[scJ_eq who l (i+1)];by_cases hb:l.any (fun j=>j.ts.any (mineT who))=true
   ·rw[if_pos hb,if_pos hb]
   ·
    rw[if_neg hb,if_neg hb]
    congr 1
    cases acc with
    | some x=>rfl
    | none=>
     have e:place i (j::l)=(match openP j with | some k=>some (i,k) | none=>place (i+1) l):=rfl
     rw[e];unfold openP accO;generalize place (i+1) l=pl
     cases j.gone with
     | true=>rfl
     | false=>
      simp only[Bool.false_eq_true,if_false]
      cases j.ts.findIdx? isFree with
      | none=>rfl
      | some m=>simp
end M
def cr(s':Int)(p:M.Pf)(j:M.Jb):Bool:=decide ((M.Pf.rows p:Int)=j.rows)&&(decide (p.s=ei j.m j.s (s'*(j.rows-1)))&&M.acc j.m p)
def eJ(w:World)(i':Nat)(now uB:Int)(ab:Option Addr)(nb cb:Nat)(bs:List Int)(aj:Option Addr)(nj cj:Nat)(qs:List MQ)(l' id s':Int)(p:M.Pf)(e:Ending)(w':World):Prop:=
 Below i' w w'∧
 (((M.jobAt id 0 (qs.map (·.1))<0∨((M.jobOf id (qs.map (·.1))).ts.length:Int)≤s')∧e=.returned (.tuple #[.agg #[.int .i64 now,.int .i64 uB,.slice ab nb cb,.slice aj nj cj],.int .i64 4,.int .i64 0])∧aV w' i' ab nb cb bs aj nj cj qs)∨
  (¬ (M.jobAt id 0 (qs.map (·.1))<0∨((M.jobOf id (qs.map (·.1))).ts.length:Int)≤s')∧((M.jobOf id (qs.map (·.1))).ts.getD s'.toNat M.t0).l'≠l'∧e=.returned (.tuple #[.agg #[.int .i64 now,.int .i64 uB,.slice ab nb cb,.slice aj nj cj],.int .i64 8,.int .i64 0])∧aV w' i' ab nb cb bs aj nj cj qs)∨
  (¬ (M.jobAt id 0 (qs.map (·.1))<0∨((M.jobOf id (qs.map (·.1))).ts.length:Int)≤s')∧((M.jobOf id (qs.map (·.1))).ts.getD s'.toNat M.t0).l'=l'∧cr s' p (M.jobOf id (qs.map (·.1)))=false∧∃ab' nb' cb',e=.returned (.tuple #[.agg #[.int .i64 now,.int .i64 uB,.slice ab' nb' cb',.slice aj nj cj],.int .i64 7,.int .i64 0])∧aV w' i' ab' nb' cb' (M.banned bs l') aj nj cj (qs.map fun q=>(M.freeJ (br now l') q.1,q.2)))∨
  (¬ (M.jobAt id 0 (qs.map (·.1))<0∨((M.jobOf id (qs.map (·.1))).ts.length:Int)≤s')∧((M.jobOf id (qs.map (·.1))).ts.getD s'.toNat M.t0).l'=l'∧cr s' p (M.jobOf id (qs.map (·.1)))=true∧∃i,M.jobAt id 0 (qs.map (·.1))=((i:Nat):Int)∧e=.returned (.tuple #[.agg #[.int .i64 now,.int .i64 uB,.slice ab nb cb,.slice aj nj cj],.int .i64 0,.int .i64 (if((qs.getD i q0).1.ts.set s'.toNat ⟨true,0,0⟩).all (·.done)then 1 else 0)])∧aV w' i' ab nb cb bs aj nj cj (qs.set i ({(qs.getD i q0).1 with ts:=(qs.getD i q0).1.ts.set s'.toNat ⟨true,0,0⟩},(qs.getD i q0).2))))
set_option linter.unusedVariables false in
def j2:Prop:=∀(i':Nat) (ab aj:Option Addr) (nb cb nj cj:Nat) (bs:List Int) (qs:List MQ) (now uB:Int) (t' id s' l' tr m0 I J Q V T Y Z L U A B t1 t2 p1 p2 p3 p4:Int) (a1 a2 a3 a4:Option Addr) (n1 n2 n3 n4 c1 c2 c3 c4:Nat) (z1 z2 z3 z4:List Int) (w:World) (H:aV w i' ab nb cb bs aj nj cj qs) (uy:i'≤w.heap.size) (h1:aw w a1 n1 c1 z1) (h2:aw w a2 n2 c2 z2) (h3:aw w a3 n3 c3 z3) (h4:aw w a4 n4 c4 z4) (l1:n1≤1048576) (l2:n2≤1048576) (l3:n3≤1048576) (l4:n4≤1048576) (hp0:0≤s') (hp7:s'≤7),
  Calls prog 48 #[.agg #[.int .i64 now,.int .i64 uB,.slice ab nb cb,.slice aj nj cj],.agg #[.int .i64 t',.int .i64 id,.int .i64 s',.int .i64 l',.int .i64 tr,.int .i64 m0,.int .i64 I,.int .i64 J,.int .i64 Q,.int .i64 V,.int .i64 T,.int .i64 Y,.int .i64 Z,.int .i64 L,.int .i64 U,.int .i64 A,.int .i64 B,.int .i64 t1,.int .i64 t2,.int .i64 p1,.int .i64 p2,.int .i64 p3,.int .i64 p4,.slice a1 n1 c1,.slice a2 n2 c2,.slice a3 n3 c3,.slice a4 n4 c4]] w fun e w'=>eJ w i' now uB ab nb cb bs aj nj cj qs l' id s' ⟨(p1,p2),(p3,p4),z1,z2,z3,z4⟩ e w'
set_option maxRecDepth 10000 in
def tU:um j2:=by
 apply um.mk
 case h=>
  intro key0 Gb ab aj nb cb nj cj bs qs Ba Ca Pa id Ha Qa Ra m0 I J Q V T Y Z L U Sa Ta t1 t2 p1 p2 p3 p4 a1 a2 a3 a4 n1 n2 n3 n4 c1 c2 c3 c4 z1 z2 z3 z4 w H Wa h1 h2 h3 h4 l1 l2 l3 l4 Ad Bd;have HM:=Hd H;have Yb:=Hd H.sees;have Zb:=H.jl;have Cd:(nj:Int)≤9223372036854775807:=(by have:=H.sees.j.big;have:=H.sees.j.le;omega);have Dd:(nj:Int)≤cj:=(by have:=H.sees.j.le;omega);have Ib:=Hd H.lt;have S1:=Hd h1;have S2:=Hd h2;have S3:=Hd h3;have S4:=Hd h4;have Jb:=M.jobAt_some id (qs.map (·.1)) 0;have C1:∀W,ep W aj nj cj (qs.map (·.1))→Rt 44 #[.agg (aI Ba Ca ab nb cb aj nj cj).toArray,it id] W (it (M.jobAt id 0 (qs.map (·.1)))):=fun W h=>lF Ba Ca id W h;clear H h1 h2 h3 h4;go_enter func48,ntmps48;have Kb:H9 (au (((w.alloc (.cells (aI Ba Ca ab nb cb aj nj cj).toArray 27)).alloc (.cells (bG Pa id Ha Qa Ra m0 I J Q V T Y Z L U Sa Ta t1 t2 p1 p2 p3 p4 a1 n1 c1 a2 n2 c2 a3 n3 c3 a4 n4 c4).toArray 37)).alloc (.cells aT.toArray 27)) w.heap.size (aI Ba Ca ab nb cb aj nj cj)):=((aO _ _ _).alloc _).alloc _;have Lb:H9 (au (((w.alloc (.cells (aI Ba Ca ab nb cb aj nj cj).toArray 27)).alloc (.cells (bG Pa id Ha Qa Ra m0 I J Q V T Y Z L U Sa Ta t1 t2 p1 p2 p3 p4 a1 n1 c1 a2 n2 c2 a3 n3 c3 a4 n4 c4).toArray 37)).alloc (.cells aT.toArray 27)) (w.heap.size+1) (bG Pa id Ha Qa Ra m0 I J Q V T Y Z L U Sa Ta t1 t2 p1 p2 p3 p4 a1 n1 c1 a2 n2 c2 a3 n3 c3 a4 n4 c4)):=(ba _ _ _ _).alloc _;have Nb:H9 (au (((w.alloc (.cells (aI Ba Ca ab nb cb aj nj cj).toArray 27)).alloc (.cells (bG Pa id Ha Qa Ra m0 I J Q V T Y Z L U Sa Ta t1 t2 p1 p2 p3 p4 a1 n1 c1 a2 n2 c2 a3 n3 c3 a4 n4 c4).toArray 37)).alloc (.cells aT.toArray 27)) (w.heap.size+1+1) aT):=dl _ _ _ _ _;have Xa:H9 (m1 w (((w.alloc (.cells (aI Ba Ca ab nb cb aj nj cj).toArray 27)).alloc (.cells (bG Pa id Ha Qa Ra m0 I J Q V T Y Z L U Sa Ta t1 t2 p1 p2 p3 p4 a1 n1 c1 a2 n2 c2 a3 n3 c3 a4 n4 c4).toArray 37)).alloc (.cells aT.toArray 27))):=(((m5 _ _).alloc (m3 _) _).alloc (by simp) _).alloc (by simp;omega) _;(go_wp2_with fail);generalize(((w.alloc (.cells (aI Ba Ca ab nb cb aj nj cj).toArray 27)).alloc (.cells (bG Pa id Ha Qa Ra m0 I J Q V T Y Z L U Sa Ta t1 t2 p1 p2 p3 p4 a1 n1 c1 a2 n2 c2 a3 n3 c3 a4 n4 c4).toArray 37)).alloc (.cells aT.toArray 27))=wa at Kb Lb Nb Xa ⊢;refine(C1 _ (Yb.o.j.below Xa.o)).mono ?_;rintro e wb ⟨rfl,hb⟩;have Ua:=Kb.b hb;have Ya:=Lb.b hb;have Va:=Nb.b hb;have Ja:=Xa.t hb;clear Kb Lb Nb Xa;clear hb;generalize Ac:M.jobAt id 0 (qs.map (·.1))=Ob at Jb ⊢;have Pb:=Hd Ac;clear Ac C1;by_cases Qb:Ob<0
  ·
   have Bc:decide (Ob<0)=true:=(by simp[Qb]);(go_wp2_with fail);refine cB wb none (by kernel_rfl) fun hHeld=>?_;generalize wb.drew=Aa at hHeld ⊢;have Ia:H9 (m1 wb Aa):=⟨hHeld.os,hHeld.tape,hHeld.output,hHeld.size,fun k hk=>hHeld.block k hk (by simp)⟩;refine tk 0 (it Ob) ?_ ?_
   ·intro wq Fa;go_simp
   refine tk 1 (.bool true) ?_ ?_
   ·intro wq Fa;go_simp
   refine tk 2 (.bool true) ?_ ?_
   ·intro wq Fa;go_simp
   refine sk 3 ?_;refine sk 4 ?_;refine sk 5 ?_;refine sk 6 ?_;refine sk 7 ?_;refine sk 8 ?_;refine sk 9 ?_;refine sk 10 ?_;refine sk 11 ?_;refine sk 12 ?_;refine tk 13 (.bool true) ?_ ?_
   ·intro wq Fa;go_simp
   refine bg ?_;go_simp;have Ga:=Hd (Ua.o.belowS Ia.o);have Da:=Hd (Va.o.belowS Ia.o);have Ea:=Hd (Ja.o.trans (Ia.o.mono Ja.o.size));clear Ua Ya Va Ja;have o0:=Ga.c 0;have o1:=Ga.c 1;have o2:=Ga.c 2;have o3:=Ga.c 3;have r0:=Da.c 0;have Ed:=Da.o.fr 0;have r1:=Da.c 1;have Fd:=Da.o.fr 1;have r2:=Da.c 2;have Gd:=Da.o.fr 2;have r3:=Da.c 3;have Id:=Da.o.fr 3;(go_wp2_with fail);show bodyPost _ _ _ _ _ (Aa.setCells (w.heap.size+1+1) 0 (aI Ba Ca ab nb cb aj nj cj));have Za:au (Aa.setCells (w.heap.size+1+1) 0 (aI Ba Ca ab nb cb aj nj cj)) (w.heap.size+1+1) (aI Ba Ca ab nb cb aj nj cj):=Da.o.setCells (aI Ba Ca ab nb cb aj nj cj) 0 (by simp);have Ab:=cm Aa (w.heap.size+1+1) 0 (aI Ba Ca ab nb cb aj nj cj);have Bb:=(HM.o.below Ea.o).grown Ab (fun g hg e=>by have:=Ib.o g hg;have:=m2 e;omega);have Cb:=(Ea.o.mono Wa).trans (ap Ab (m8 Wa Ea.o.size) (fun z e=>by have:=m2 e;omega));generalize(Aa.setCells (w.heap.size+1+1) 0 (aI Ba Ca ab nb cb aj nj cj))=wf at Za Bb Cb ⊢;exact m7 (aJ rfl rfl (uN wf (w.heap.size+1+1) 0 27 _ _ Za.row underlying27 rfl (by kernel_rfl))) rfl ⟨Cb,.inl ⟨.inl (by rw[Pb.o];exact Qb),rfl,Bb⟩⟩
  obtain⟨i,hi,Cc,_⟩:=Jb (by omega);rw[Nat.zero_add]at Cc;rw[List.length_map,Zb]at hi;subst Cc;obtain⟨gj,rfl⟩:=HM.o.block (by omega);have Rb:=HM.o.below Ja.o;have Db:wb.cell? ⟨gj,i*18+17,none⟩=some (.slice (qs.getD i q0).2.1 (qs.getD i q0).1.ts.length (qs.getD i q0).2.2):=Rb.jcell hi (by omega);have hT:=Rb.jtask hi;have Dc:((qs.getD i q0).1.ts.length:Int)≤9223372036854775807:=(by have:=hT.sees.big;have:=hT.sees.le;omega);have Sb:((qs.getD i q0).1.ts.length:Int)≤(qs.getD i q0).2.2:=(by have:=hT.sees.le;omega);generalize Ec:(qs.getD i q0).1.ts.length=tn at Db Dc Sb;generalize Fc:(qs.getD i q0).2.1=ta at Db;generalize Gc:(qs.getD i q0).2.2=tc at Db Sb;have Hc:M.jobOf id (qs.map (·.1))=(qs.getD i q0).1:=(by unfold M.jobOf;rw[Pb.o,u',dB]);have Tb:=Hd Hc;have Oa:H9 ((qs.getD i q0).1.ts.length=tn∧(qs.getD i q0).2.1=ta∧(qs.getD i q0).2.2=tc):=⟨Ec,Fc,Gc⟩;clear Rb hT Ec Fc Gc Hc Jb;have Jd:(i:Int)<(nj:Int):=(by omega);have Kd:(0:Int)≤(i:Int):=(by omega);have Ld:¬ (i:Int)<0:=(by omega);have Bc:decide ((i:Int)<0)=false:=(by simp);clear Qb;(go_wp2_with fail);refine cB wb none (by kernel_rfl) fun hHeld=>?_;generalize wb.drew=Aa at hHeld ⊢;have Ia:H9 (m1 wb Aa):=⟨hHeld.os,hHeld.tape,hHeld.output,hHeld.size,fun k hk=>hHeld.block k hk (by simp)⟩;refine tk 0 (it (i:Nat)) ?_ ?_
  ·intro wq Fa;go_simp
  refine tk 1 (.bool false) ?_ ?_
  ·intro wq Fa;go_simp
  refine tk 2 (.bool false) ?_ ?_
  ·intro wq Fa;go_simp
  refine tk 3 (.pointer (some ⟨w.heap.size+1,2,none⟩)) ?_ ?_
  ·intro wq Fa;go_simp
  refine tk 4 (it Ha) ?_ ?_
  ·intro wp Eb;have c0:=(Ya.o.grown Eb (by simp)).c 2;go_simp
  refine tk 5 (.pointer (some ⟨w.heap.size,3,none⟩)) ?_ ?_
  ·intro wq Fa;go_simp
  refine tk 6 (.slice (some ⟨gj,0,none⟩) nj cj) ?_ ?_
  ·intro wp Eb;have c0:=(Ua.o.grown Eb (by simp)).c 3;go_simp
  refine tk 7 (it (i:Nat)) ?_ ?_
  ·intro wq Fa;go_simp
  refine tk 8 (.pointer (some ⟨gj,i*18,none⟩)) ?_ ?_
  ·intro wq Fa;go_simp
  refine tk 9 (.pointer (some ⟨gj,i*18+17,none⟩)) ?_ ?_
  ·intro wq Fa;go_simp
  refine tk 10 (.slice ta tn tc) ?_ ?_
  ·intro wp Eb;have c0:=Eb.cell Db (by simp);go_simp
  refine tk 11 (it (tn:Nat)) ?_ ?_
  ·intro wq Fa;go_simp
  by_cases Ub:(tn:Int)≤Ha
  ·
   have gp:decide ((tn:Int)≤Ha)=true:=(by simp[Ub]);refine tk 12 (.bool true) ?_ ?_
   ·intro wq Fa;go_simp
   refine tk 13 (.bool true) ?_ ?_
   ·intro wq Fa;go_simp
   refine bg ?_;go_simp;have Ga:=Hd (Ua.o.belowS Ia.o);have Da:=Hd (Va.o.belowS Ia.o);have Ea:=Hd (Ja.o.trans (Ia.o.mono Ja.o.size));clear Ua Ya Va Ja;have o0:=Ga.c 0;have o1:=Ga.c 1;have o2:=Ga.c 2;have o3:=Ga.c 3;have r0:=Da.c 0;have Ed:=Da.o.fr 0;have r1:=Da.c 1;have Fd:=Da.o.fr 1;have r2:=Da.c 2;have Gd:=Da.o.fr 2;have r3:=Da.c 3;have Id:=Da.o.fr 3;(go_wp2_with fail);show bodyPost _ _ _ _ _ (Aa.setCells (w.heap.size+1+1) 0 (aI Ba Ca ab nb cb (some ⟨gj,0,none⟩) nj cj));have Za:au (Aa.setCells (w.heap.size+1+1) 0 (aI Ba Ca ab nb cb (some ⟨gj,0,none⟩) nj cj)) (w.heap.size+1+1) (aI Ba Ca ab nb cb (some ⟨gj,0,none⟩) nj cj):=Da.o.setCells (aI Ba Ca ab nb cb (some ⟨gj,0,none⟩) nj cj) 0 (by simp);have Ab:=cm Aa (w.heap.size+1+1) 0 (aI Ba Ca ab nb cb (some ⟨gj,0,none⟩) nj cj);have Bb:=(HM.o.below Ea.o).grown Ab (fun g hg e=>by have:=Ib.o g hg;have:=m2 e;omega);have Cb:=(Ea.o.mono Wa).trans (ap Ab (m8 Wa Ea.o.size) (fun z e=>by have:=m2 e;omega));generalize(Aa.setCells (w.heap.size+1+1) 0 (aI Ba Ca ab nb cb (some ⟨gj,0,none⟩) nj cj))=wf at Za Bb Cb ⊢;exact m7 (aJ rfl rfl (uN wf (w.heap.size+1+1) 0 27 _ _ Za.row underlying27 rfl (by kernel_rfl))) rfl ⟨Cb,.inl ⟨.inr (by rw[Tb.o,Oa.o.1];exact Ub),rfl,Bb⟩⟩
  have gp:decide ((tn:Int)≤Ha)=false:=(by simp;omega);refine tk 12 (.bool false) ?_ ?_
  ·intro wq Fa;go_simp
  refine tk 13 (.bool false) ?_ ?_
  ·intro wq Fa;go_simp
  refine bg ?_;go_simp;have Ga:=Hd (Ua.o.belowS Ia.o);have Ic:=Hd (Ya.o.belowS Ia.o);have Da:=Hd (Va.o.belowS Ia.o);have Ea:=Hd (Ja.o.trans (Ia.o.mono Ja.o.size));clear Ua Ya Va Ja;have Vb:=HM.o.below Ea.o;have hT:=Vb.jtask hi;rw[Oa.o.1,Oa.o.2.1,Oa.o.2.2]at hT;have hA:∀j,j<18→Aa.cell? ⟨gj,i*18+j,none⟩=(eN (qs.getD i q0).1 ta tc)[j]?:=fun j hj=>by have:=Vb.jcell hi hj;rw[this];unfold iG;rw[Oa.o.2.1,Oa.o.2.2]
  have Wb:=Tb.o;have Fb:=Oa.o.1;generalize Jc:(qs.getD i q0).1=cq at hA Wb hT Fb;have Nd:=Hd Jc;clear Jc;obtain⟨La,⟨⟨a,b,c',d,f,k⟩,⟨a',b',Na,d',f',k'⟩⟩,⟨s1,s2⟩,jr,jg,tl⟩:=cq;dsimp only at hT Fb;have hR:Aa.rangeAt gj (i*18) (eN ⟨La,⟨⟨a,b,c',d,f,k⟩,⟨a',b',Na,d',f',k'⟩⟩,(s1,s2),jr,jg,tl⟩ ta tc):=ch rfl hA;dsimp only[eN]at hR;rw[Fb]at hR;have Od:=Hd Fb;have Pd:=Hd Wb;obtain⟨P,hP⟩:∃P:Nat,Ha=(P:Int):=⟨Ha.toNat,by omega⟩;subst hP;have Hb:P<tn:=(by omega);obtain⟨g,rfl⟩:=hT.block (by omega);have Qd:Aa.cell? ⟨g,P*3,none⟩=some (.bool (tl.getD P M.t0).done):=hT.cells Hb (j:=0) (by omega);have Rd:Aa.cell? ⟨g,P*3+1,none⟩=some (it (tl.getD P M.t0).l'):=hT.cells Hb (j:=1) (by omega);have Sd:Aa.cell? ⟨g,P*3+2,none⟩=some (it (tl.getD P M.t0).due):=hT.cells Hb (j:=2) (by omega);clear hA Vb hT Wb Fb Db;have Kc:=Hd (S1.o.below Ea.o);have Lc:=Hd (S2.o.below Ea.o);have Nc:=Hd (S3.o.below Ea.o);have Oc:=Hd (S4.o.below Ea.o);have Pc:=Hd (HM.o.below Ea.o);have x3:=Ga.c 3;(go_wp2_with(with_reducible refine aA 34 ?_ ?_;rfl));clear x3 Qd Rd Sd S1 S2 S3 S4;with_reducible refine fE 45 gj (i*18) (ce La a b c' d f k a' b' Na d' f' k' s1 s2 jr jg (some ⟨g,0,none⟩) tn tc) hR underlying45 ?q5 ?_
  case q5=>exact⟨rfl,rfl,by kernel_rfl,_,rfl,by kernel_rfl⟩
  clear hR;(go_wp2_with(with_reducible refine aA 8 ?_ ?_;rfl));show wpList _ _ _ _ _ _;have Qc:(Instr.alloc 45 true (.tuple #[])).run prog Aa=.ok (.pointer (some ⟨Aa.heap.size,0,none⟩)) (Aa.alloc (.cells cD.toArray 45)):=(by kernel_rfl);with_reducible refine bF ?qg 45 ?qo cD.toArray Qc ?_
  case qg | qo=>exact rfl
  clear Qc;show wpList _ _ _ _ _ _;with_reducible refine Hx (fq 45 Aa.heap.size 0 (ce La a b c' d f k a' b' Na d' f' k' s1 s2 jr jg (some ⟨g,0,none⟩) tn tc) ?q6 ?q5 ?_)
  case q6=>exact(aO _ _ _).there _ 18 (by simp)
  case q5=>exact⟨rfl,by kernel_rfl,by kernel_rfl,_,_,rfl,by kernel_rfl,by kernel_rfl⟩
  have Ka:m1 Aa ((Aa.alloc (.cells cD.toArray 45)).setCells Aa.heap.size 0 (ce La a b c' d f k a' b' Na d' f' k' s1 s2 jr jg (some ⟨g,0,none⟩) tn tc)):=aM _ _ ((m5 _ _).alloc (m3 _) _) (m3 _);have Rc:=Ga.b Ka;have Sc:=Ic.b Ka;have Tc:=Da.b Ka;have Uc:=Ea.t Ka;have Vc:=Hd (Kc.o.below Ka);have Wc:=Hd (Lc.o.below Ka);have Xc:=Hd (Nc.o.below Ka);have Yc:=Hd (Oc.o.below Ka);have Zc:=Hd (Pc.o.below Ka);clear Ga Ic Da Ea Kc Lc Nc Oc Pc;clear Ka;have Xb:H9 (au ((Aa.alloc (.cells cD.toArray 45)).setCells Aa.heap.size 0 (ce La a b c' d f k a' b' Na d' f' k' s1 s2 jr jg (some ⟨g,0,none⟩) tn tc)) Aa.heap.size (ce La a b c' d f k a' b' Na d' f' k' s1 s2 jr jg (some ⟨g,0,none⟩) tn tc)):=(aO Aa cD.toArray 45).setCells (ce La a b c' d f k a' b' Na d' f' k' s1 s2 jr jg (some ⟨g,0,none⟩) tn tc) 0 (by simp);generalize((Aa.alloc (.cells cD.toArray 45)).setCells Aa.heap.size 0 (ce La a b c' d f k a' b' Na d' f' k' s1 s2 jr jg (some ⟨g,0,none⟩) tn tc))=w2 at Rc Sc Tc Uc Vc Wc Xc Yc Zc Xb ⊢;generalize Aa.heap.size=jb at Xb ⊢;clear HM Yb;rename_i Td Ud Vd Wd;revert Gb ab nb cb nj cj bs qs Ba Ca Pa id Qa Ra m0 I J Q V T Y Z L U Sa Ta t1 t2 p1 p2 p3 p4 a1 a2 a3 a4 n1 n2 n3 n4 c1 c2 c3 c4 z1 z2 z3 z4 w Wa l1 l2 l3 l4 Zb Cd Dd wa wb i hi Td Pb gj Ib tn Dc tc Sb Tb Jd Kd Bc Ld Aa hHeld Ia La jr jg tl a b c' d f k a' b' Na d' f' k' s1 s2 Nd Od Pd P Ad Bd Ud gp Hb g Oa Vd Wd Ub w2 Rc Sc Tc Uc Vc Wc Xc Yc Zc jb Xb;exact key0.out
theorem nO(p:M.Pf):M.Pf.rows p≤16:=by
 unfold M.Pf.rows
 repeat' split
 all_goals omega
structure s8(G:Prop) where
 p1:Prop
 p2:Prop
 p3:Prop
 p4:Prop
 p5:Prop
 h:mT p1→mT p2→mT p3→mT p4→mT p5→G
set_option maxRecDepth 10000 in
def eX:s8 tU.p:=by
 apply s8.mk
 case h=>
  intro key1 key2 key3 key4 key5;intro Vb ab nb cb nj cj bs qs Va Wa Jc id Ab Kc m0 I J Q V T Y Z L U Lc Nc t1 t2 p1 p2 p3 p4 a1 a2 a3 a4 n1 n2 n3 n4 c1 c2 c3 c4 z1 z2 z3 z4 w Pb l1 l2 l3 l4 Oc Pc Qc wa wb i hi Rc Wb gj Xb tn Sc tc Tc Uc Vc Wc Xc Yc Ja Ea Ca Pa jr jg tl a b c' d f k a' b' Fa d' f' k' s1 s2 Yb Zb Qb P Zc Ad Bd gp Ac g Nb Gg Hg Cd w2 Kd Dd Ld Bc Qd Rd Sd Td Ed jb Nd;have hT:=Ed.o.jtask hi;rw[Nb.o.1,Nb.o.2.1,Nb.o.2.2,Yb.o]at hT;have Ud:w2.cell? ⟨g,P*3+1,none⟩=some (it (tl.getD P M.t0).l'):=hT.cells Ac (j:=1) (by omega);generalize hx:(tl.getD P M.t0).l'=x at Ud;have HX:=Hd hx;clear hx hT;have Fd:(P:Int)<(tn:Int):=(by omega);have Cc:(0:Int)≤(P:Int):=by omega
  have Dc:H9 (¬ (M.jobAt id 0 (qs.map (·.1))<0∨((M.jobOf id (qs.map (·.1))).ts.length:Int)≤(P:Int))):=fun h=>by
   rw[Wb.o,Qb.o]at h;have:=Zb.o;dsimp only at h;omega
  have Ec:H9 (((M.jobOf id (qs.map (·.1))).ts.getD (P:Int).toNat M.t0).l'=x):=(by show _=_;rw[Qb.o,u'];exact HX.o);(go_wp2_with fail);refine cB w2 none (by kernel_rfl) fun Ea=>?_;generalize w2.drew=Ja at Ea ⊢;have Ca:H9 (m1 w2 Ja):=⟨Ea.os,Ea.tape,Ea.output,Ea.size,fun k hk=>Ea.block k hk (by simp)⟩;refine tk 0 (.pointer (some ⟨jb,17,none⟩)) ?_ ?_
  ·intro wq Aa;go_simp
  refine tk 1 (.slice (some ⟨g,0,none⟩) tn tc) ?_ ?_
  ·intro wp Na;have c0:=(Nd.o.grown Na (by simp)).c 17;go_simp
  refine tk 2 (.pointer (some ⟨w.heap.size+1,2,none⟩)) ?_ ?_
  ·intro wq Aa;go_simp
  refine tk 3 (it (P:Nat)) ?_ ?_
  ·intro wp Na;have c0:=(Dd.o.grown Na (by simp)).c 2;go_simp
  refine tk 4 (.pointer (some ⟨g,P*3,none⟩)) ?_ ?_
  ·intro wq Aa;go_simp
  refine tk 5 (.pointer (some ⟨g,P*3+1,none⟩)) ?_ ?_
  ·intro wq Aa;go_simp
  refine tk 6 (it x) ?_ ?_
  ·intro wp Na;have c0:=Na.cell Ud (by simp);go_simp
  refine tk 7 (.pointer (some ⟨w.heap.size+1,3,none⟩)) ?_ ?_
  ·intro wq Aa;go_simp
  refine tk 8 (it Ab) ?_ ?_
  ·intro wp Na;have c0:=(Dd.o.grown Na (by simp)).c 3;go_simp
  by_cases Fc:x=Ab
  case neg=>
   have gx:(x != Ab)=true:=(by simp[Fc]);refine tk 9 (.bool true) ?_ ?_
   ·intro wq Aa;go_simp;first | done | exact Fc
   refine bg ?_;go_simp;have Ia:=Hd (Kd.o.belowS Ca.o);have Ga:=Hd (Ld.o.belowS Ca.o);have Ha:=Hd (Bc.o.trans (Ca.o.mono Bc.o.size));have Qa:=Hd (Ed.o.below Ca.o);clear Kd Dd Ld Bc Qd Rd Sd Td Ed Nd;have o0:=Ia.c 0;have o1:=Ia.c 1;have o2:=Ia.c 2;have o3:=Ia.c 3;have r0:=Ga.c 0;have Ig:=Ga.o.fr 0;have r1:=Ga.c 1;have Jg:=Ga.o.fr 1;have r2:=Ga.c 2;have Kg:=Ga.o.fr 2;have r3:=Ga.c 3;have Lg:=Ga.o.fr 3;(go_wp2_with fail);show bodyPost _ _ _ _ _ (Ja.setCells (w.heap.size+1+1) 0 (aI Va Wa ab nb cb (some ⟨gj,0,none⟩) nj cj));have Wd:au (Ja.setCells (w.heap.size+1+1) 0 (aI Va Wa ab nb cb (some ⟨gj,0,none⟩) nj cj)) (w.heap.size+1+1) (aI Va Wa ab nb cb (some ⟨gj,0,none⟩) nj cj):=Ga.o.setCells (aI Va Wa ab nb cb (some ⟨gj,0,none⟩) nj cj) 0 (by simp);have Xd:=cm Ja (w.heap.size+1+1) 0 (aI Va Wa ab nb cb (some ⟨gj,0,none⟩) nj cj);have Yd:=Qa.o.grown Xd (fun g hg e=>by have:=Xb.o g hg;have:=m2 e;omega);have Zd:=(Ha.o.mono Pb).trans (ap Xd (m8 Pb Ha.o.size) (fun z e=>by have:=m2 e;omega));generalize(Ja.setCells (w.heap.size+1+1) 0 (aI Va Wa ab nb cb (some ⟨gj,0,none⟩) nj cj))=wf at Wd Yd Zd ⊢;exact m7 (aJ rfl rfl (uN wf (w.heap.size+1+1) 0 27 _ _ Wd.row underlying27 rfl (by kernel_rfl))) rfl ⟨Zd,.inr (.inl ⟨Dc.o,by rw[Ec.o];exact Fc,rfl,Yd⟩)⟩
  have gx:(x != Ab)=false:=(by simp[Fc]);have Gc:=Hd Fc;clear Fc;refine tk 9 (.bool false) ?_ ?_
  ·intro wq Aa;go_simp;first | done | exact Gc.o
  refine bg ?_;go_simp;have Ia:=Hd (Kd.o.belowS Ca.o);have Ka:=Hd (Dd.o.belowS Ca.o);have Ga:=Hd (Ld.o.belowS Ca.o);have Ha:=Hd (Bc.o.trans (Ca.o.mono Bc.o.size));have Ra:=Hd (Qd.o.below Ca.o);have Sa:=Hd (Rd.o.below Ca.o);have Ta:=Hd (Sd.o.below Ca.o);have Ua:=Hd (Td.o.below Ca.o);have Qa:=Hd (Ed.o.below Ca.o);have Oa:=Hd (Nd.o.belowS Ca.o);clear Kd Dd Ld Bc Qd Rd Sd Td Ed Nd;clear Ea;generalize Ja=w3 at Ia Ka Ga Ha Ra Sa Ta Ua Qa Oa ⊢;clear Ca;clear Ud;have CR:=fun W (h1:aw W a1 n1 c1 z1) (h2:aw W a2 n2 c2 z2) (h3:aw W a3 n3 c3 z3) (h4:aw W a4 n4 c4 z4)=>eC p1 p2 p3 p4 W h1 h2 h3 h4 l1 l2 l3 l4;have CA:=fun W (h1:aw W a1 n1 c1 z1) (h2:aw W a2 n2 c2 z2) (h3:aw W a3 n3 c3 z3) (h4:aw W a4 n4 c4 z4)=>ja ⟨⟨a,b,c',d,f,k⟩,⟨a',b',Fa,d',f',k'⟩⟩ p1 p2 p3 p4 W h1 h2 h3 h4 l1 l2 l3 l4;dsimp only[da]at CA;have Ya:H9 (cr (P:Int) ⟨(p1,p2),(p3,p4),z1,z2,z3,z4⟩ ⟨Pa,⟨⟨a,b,c',d,f,k⟩,⟨a',b',Fa,d',f',k'⟩⟩,(s1,s2),jr,jg,tl⟩=(decide ((M.Pf.rows ⟨(p1,p2),(p3,p4),z1,z2,z3,z4⟩:Int)=jr)&&(decide ((p1,p2)=ei ⟨⟨a,b,c',d,f,k⟩,⟨a',b',Fa,d',f',k'⟩⟩ (s1,s2) ((P:Int)*(jr-1)))&&M.acc ⟨⟨a,b,c',d,f,k⟩,⟨a',b',Fa,d',f',k'⟩⟩ ⟨(p1,p2),(p3,p4),z1,z2,z3,z4⟩))):=rfl;have Hc:M.Pf.rows ⟨(p1,p2),(p3,p4),z1,z2,z3,z4⟩≤16:=nO _;generalize M.Pf.rows ⟨(p1,p2),(p3,p4),z1,z2,z3,z4⟩=nr at CR Ya Hc;generalize M.acc ⟨⟨a,b,c',d,f,k⟩,⟨a',b',Fa,d',f',k'⟩⟩ ⟨(p1,p2),(p3,p4),z1,z2,z3,z4⟩=oa at CA Ya;(go_wp2_with fail);refine cB w3 none (by kernel_rfl) fun Ea=>?_;generalize w3.drew=Ja at Ea ⊢;have Ca:H9 (m1 w3 Ja):=⟨Ea.os,Ea.tape,Ea.output,Ea.size,fun k hk=>Ea.block k hk (by simp)⟩;refine tk 0 (.pointer (some ⟨w.heap.size+1,19,none⟩)) ?_ ?_
  ·intro wq Aa;go_simp
  have Rb:∀W:World,w3.grownBy W none→W.rangeAt (w.heap.size+1) 19 (bp p1 p2 p3 p4 a1 n1 c1 a2 n2 c2 a3 n3 c3 a4 n4 c4):=fun W h=>(Ka.o.grown h (by simp)).mid 19 8;refine wpAnyH_take (i:=1) (v:=.agg ((bp p1 p2 p3 p4 a1 n1 c1 a2 n2 c2 a3 n3 c3 a4 n4 c4):List Value).toArray) rfl (by kernel_rfl) (by kernel_rfl) (by kernel_rfl) (fun _ _ _ h=>h) (uM (by kernel_rfl) 35 (.tmp 46) rfl (w.heap.size+1) 19 (by kernel_rfl) ((bp p1 p2 p3 p4 a1 n1 c1 a2 n2 c2 a3 n3 c3 a4 n4 c4):List Value) _ Rb underlying35 rfl (by kernel_rfl)) (by assumption) ?_;refine tk 3 (.pointer (some ⟨jb,15,none⟩)) ?_ ?_
  ·intro wq Aa;go_simp
  refine tk 4 (it jr) ?_ ?_
  ·intro wp Na;have c0:=(Oa.o.grown Na (by simp)).c 15;go_simp
  refine aX 2 fun Kk hK=>?_;go_simp;refine(CR _ (Ra.o.below Ca.o) (Sa.o.below Ca.o) (Ta.o.below Ca.o) (Ua.o.below Ca.o)).mono ?_;rintro e Sb ⟨rfl,Ae⟩;go_simp;have Xa:=aH Ea Ae;have La:H9 (m1 w3 Sb):=⟨Xa.os,Xa.tape,Xa.output,Xa.size,fun k hk=>Xa.block k hk (by simp)⟩;refine hK.out _ _ Xa (fun _=>?_);clear hK Kk Ae;by_cases Gd:(nr:Int)=jr
  case neg=>
   have Tb:H9 (cr (P:Int) ⟨(p1,p2),(p3,p4),z1,z2,z3,z4⟩ ⟨Pa,⟨⟨a,b,c',d,f,k⟩,⟨a',b',Fa,d',f',k'⟩⟩,(s1,s2),jr,jg,tl⟩=false):=(by show _=_;rw[Ya.o,decide_eq_false Gd];rfl);have Bb:=Hd Gd;clear Gd;refine tk 5 (.bool true) ?_ ?_
   ·intro wq Aa;go_simp;first | done | exact Bb.o
   refine tk 6 (.bool true) ?_ ?_
   ·intro wq Aa;go_simp
   refine sk 7 ?_;refine sk 8 ?_;refine sk 9 ?_;refine sk 10 ?_;refine sk 11 ?_;refine sk 12 ?_;refine sk 13 ?_;refine sk 14 ?_;refine tk 15 (.bool true) ?_ ?_
   ·intro wq Aa;go_simp
   refine tk 16 (.bool true) ?_ ?_
   ·intro wq Aa;go_simp
   refine sk 17 ?_;refine sk 18 ?_;refine sk 19 ?_;refine sk 20 ?_;refine sk 21 ?_;refine sk 22 ?_;refine tk 23 (.bool true) ?_ ?_
   ·intro wq Aa;go_simp
   refine bg ?_;go_simp;have Cb:=Hd (Ia.o.belowS La.o);have Db:=Hd (Ka.o.belowS La.o);have Eb:=Hd (Ga.o.belowS La.o);have Fb:=Hd (Ha.o.trans (La.o.mono Ha.o.size));have Gb:=Hd (Ra.o.below La.o);have Hb:=Hd (Sa.o.below La.o);have Ib:=Hd (Ta.o.below La.o);have Jb:=Hd (Ua.o.below La.o);have Kb:=Hd (Qa.o.below La.o);have Lb:=Hd (Oa.o.belowS La.o);clear Ia Ka Ga Ha Ra Sa Ta Ua Qa Oa;clear Rb CR CA Ya Bb;rename_i De Ee Fe Ge He Ie Je Ke Le;revert Vb ab nb cb nj cj bs qs Va Wa Jc id Ab Kc m0 I J Q V T Y Z L U Lc Nc t1 t2 p1 p2 p3 p4 a1 a2 a3 a4 n1 n2 n3 n4 c1 c2 c3 c4 z1 z2 z3 z4 w Pb l1 l2 l3 l4 Oc Pc Qc wa wb i hi Rc Wb gj Xb tn Sc tc Tc Uc Vc Wc Xc Yc De Ee Fe Pa jr jg tl a b c' d f k a' b' Fa d' f' k' s1 s2 Yb Zb Qb P Zc Ad Bd gp Ac g Nb Cd w2 jb x HX Fd Cc Dc Ec Ge gx Gc w3 nr Hc oa He Ie Je Ke Ja Ea Ca Sb Xa La Le Tb Cb Db Eb Fb Gb Hb Ib Jb Kb Lb;exact key1.out
  have Bb:=Hd Gd;have Id:0≤jr:=(by omega);have Jd:jr≤16:=(by omega);clear Gd;refine tk 5 (.bool false) ?_ ?_
  ·intro wq Aa;go_simp;first | done | exact Bb.o
  refine tk 6 (.bool false) ?_ ?_
  ·intro wq Aa;go_simp
  refine tk 7 (.pointer (some ⟨w.heap.size+1,19,none⟩)) ?_ ?_
  ·intro wq Aa;go_simp
  refine tk 8 (.pointer (some ⟨w.heap.size+1,19,none⟩)) ?_ ?_
  ·intro wq Aa;go_simp
  refine tk 9 (.agg #[it p1,it p2]) ?_ ?_
  ·intro wp Na;have c0:=(Ka.o.grown Na (by simp)).c 19;have c1:=(Ka.o.grown Na (by simp)).c 20;go_simp
  refine wpAnyH_take (i:=10) (v:=.agg (ce Pa a b c' d f k a' b' Fa d' f' k' s1 s2 jr jg (some ⟨g,0,none⟩) tn tc).toArray) rfl (by kernel_rfl) (by kernel_rfl) (by kernel_rfl) (fun _ _ _ h=>h) (uM (by kernel_rfl) 45 (.tmp 8) rfl jb 0 rfl (ce Pa a b c' d f k a' b' Fa d' f' k' s1 s2 jr jg (some ⟨g,0,none⟩) tn tc) _ (fun W h=>(Oa.o.grown h (by simp)).row) underlying45 rfl (by kernel_rfl)) (by assumption) ?_;refine tk 11 (.pointer (some ⟨w.heap.size+1,2,none⟩)) ?_ ?_
  ·intro wq Aa;go_simp
  refine tk 12 (it (P:Nat)) ?_ ?_
  ·intro wp Na;have c0:=(Ka.o.grown Na (by simp)).c 2;go_simp
  have Ub:=ju Pa a b c' d f k a' b' Fa d' f' k' s1 s2 jr jg (some ⟨g,0,none⟩) tn tc (P:Int) Cc (by omega) Id Jd;generalize ei ⟨⟨a,b,c',d,f,k⟩,⟨a',b',Fa,d',f',k'⟩⟩ (s1,s2) ((P:Int)*(jr-1))=rs at Ub Ya;obtain⟨u,v⟩:=rs;dsimp only[cM]at Ub;refine aX 13 fun Kk hK=>?_;go_simp;refine(Ub _).mono ?_;rintro e Ic ⟨rfl,Be⟩;go_simp;have Za:=aH Xa Be;have Ba:H9 (m1 w3 Ic):=⟨Za.os,Za.tape,Za.output,Za.size,fun k hk=>Za.block k hk (by simp)⟩;refine hK.out _ _ Za (fun _=>?_);clear hK Kk Be;by_cases hu:p1=u
  case neg=>
   have Tb:H9 (cr (P:Int) ⟨(p1,p2),(p3,p4),z1,z2,z3,z4⟩ ⟨Pa,⟨⟨a,b,c',d,f,k⟩,⟨a',b',Fa,d',f',k'⟩⟩,(s1,s2),jr,jg,tl⟩=false):=(by show _=_;rw[Ya.o];simp[hu]);refine tk 14 (.bool true) ?_ ?_
   ·intro wq Aa;go_simp;first | done | (simp[*];done)
   clear hu;refine tk 15 (.bool true) ?_ ?_
   ·intro wq Aa;go_simp
   refine tk 16 (.bool true) ?_ ?_
   ·intro wq Aa;go_simp
   refine sk 17 ?_;refine sk 18 ?_;refine sk 19 ?_;refine sk 20 ?_;refine sk 21 ?_;refine sk 22 ?_;refine tk 23 (.bool true) ?_ ?_
   ·intro wq Aa;go_simp
   refine bg ?_;go_simp;have Cb:=Hd (Ia.o.belowS Ba.o);have Db:=Hd (Ka.o.belowS Ba.o);have Eb:=Hd (Ga.o.belowS Ba.o);have Fb:=Hd (Ha.o.trans (Ba.o.mono Ha.o.size));have Gb:=Hd (Ra.o.below Ba.o);have Hb:=Hd (Sa.o.below Ba.o);have Ib:=Hd (Ta.o.below Ba.o);have Jb:=Hd (Ua.o.below Ba.o);have Kb:=Hd (Qa.o.below Ba.o);have Lb:=Hd (Oa.o.belowS Ba.o);clear Ia Ka Ga Ha Ra Sa Ta Ua Qa Oa;clear Rb CR CA Ub Ya Bb;rename_i Ne Oe Pe Qe Re Se Te Ue Ve We;revert Vb ab nb cb nj cj bs qs Va Wa Jc id Ab Kc m0 I J Q V T Y Z L U Lc Nc t1 t2 p1 p2 p3 p4 a1 a2 a3 a4 n1 n2 n3 n4 c1 c2 c3 c4 z1 z2 z3 z4 w Pb l1 l2 l3 l4 Oc Pc Qc wa wb i hi Rc Wb gj Xb tn Sc tc Tc Uc Vc Wc Xc Yc Ne Oe Pe Pa jr jg tl a b c' d f k a' b' Fa d' f' k' s1 s2 Yb Zb Qb P Zc Ad Bd gp Ac g Nb Cd w2 jb x HX Fd Cc Dc Ec Qe gx Gc w3 nr Hc oa Re Se Te Ue Ja Ea Ca Sb Xa La Ve Id Jd u v Ic Za Ba We Tb Cb Db Eb Fb Gb Hb Ib Jb Kb Lb;exact key2.out
  by_cases hv:p2=v
  case neg=>
   have Tb:H9 (cr (P:Int) ⟨(p1,p2),(p3,p4),z1,z2,z3,z4⟩ ⟨Pa,⟨⟨a,b,c',d,f,k⟩,⟨a',b',Fa,d',f',k'⟩⟩,(s1,s2),jr,jg,tl⟩=false):=(by show _=_;rw[Ya.o];simp[hv]);refine tk 14 (.bool true) ?_ ?_
   ·intro wq Aa;go_simp;first | done | (simp[*];done)
   clear hu hv;refine tk 15 (.bool true) ?_ ?_
   ·intro wq Aa;go_simp
   refine tk 16 (.bool true) ?_ ?_
   ·intro wq Aa;go_simp
   refine sk 17 ?_;refine sk 18 ?_;refine sk 19 ?_;refine sk 20 ?_;refine sk 21 ?_;refine sk 22 ?_;refine tk 23 (.bool true) ?_ ?_
   ·intro wq Aa;go_simp
   refine bg ?_;go_simp;have Cb:=Hd (Ia.o.belowS Ba.o);have Db:=Hd (Ka.o.belowS Ba.o);have Eb:=Hd (Ga.o.belowS Ba.o);have Fb:=Hd (Ha.o.trans (Ba.o.mono Ha.o.size));have Gb:=Hd (Ra.o.below Ba.o);have Hb:=Hd (Sa.o.below Ba.o);have Ib:=Hd (Ta.o.below Ba.o);have Jb:=Hd (Ua.o.below Ba.o);have Kb:=Hd (Qa.o.below Ba.o);have Lb:=Hd (Oa.o.belowS Ba.o);clear Ia Ka Ga Ha Ra Sa Ta Ua Qa Oa;clear Rb CR CA Ub Ya Bb;rename_i Xe Ye Ze Af Bf Cf Df Ef Ff Gf;revert Vb ab nb cb nj cj bs qs Va Wa Jc id Ab Kc m0 I J Q V T Y Z L U Lc Nc t1 t2 p1 p2 p3 p4 a1 a2 a3 a4 n1 n2 n3 n4 c1 c2 c3 c4 z1 z2 z3 z4 w Pb l1 l2 l3 l4 Oc Pc Qc wa wb i hi Rc Wb gj Xb tn Sc tc Tc Uc Vc Wc Xc Yc Xe Ye Ze Pa jr jg tl a b c' d f k a' b' Fa d' f' k' s1 s2 Yb Zb Qb P Zc Ad Bd gp Ac g Nb Cd w2 jb x HX Fd Cc Dc Ec Af gx Gc w3 nr Hc oa Bf Cf Df Ef Ja Ea Ca Sb Xa La Ff Id Jd u v Ic Za Ba Gf Tb Cb Db Eb Fb Gb Hb Ib Jb Kb Lb;exact key3.out
  refine tk 14 (.bool false) ?_ ?_
  ·intro wq Aa;go_simp;first | done | (simp[*];done)
  have Od:H9 (cr (P:Int) ⟨(p1,p2),(p3,p4),z1,z2,z3,z4⟩ ⟨Pa,⟨⟨a,b,c',d,f,k⟩,⟨a',b',Fa,d',f',k'⟩⟩,(s1,s2),jr,jg,tl⟩=oa):=(by show _=_;rw[Ya.o,decide_eq_true Bb.o,hu,hv];simp);clear hu hv Ya;refine tk 15 (.bool false) ?_ ?_
  ·intro wq Aa;go_simp
  refine tk 16 (.bool false) ?_ ?_
  ·intro wq Aa;go_simp
  refine tk 17 (.pointer (some ⟨jb,1,none⟩)) ?_ ?_
  ·intro wq Aa;go_simp
  have Vd:∀W:World,w3.grownBy W none→W.rangeAt jb 1 (co a b c' d f k a' b' Fa d' f' k'):=fun W h=>(Oa.o.grown h (by simp)).mid 1 12;refine wpAnyH_take (i:=18) (v:=.agg ((co a b c' d f k a' b' Fa d' f' k'):List Value).toArray) rfl (by kernel_rfl) (by kernel_rfl) (by kernel_rfl) (fun _ _ _ h=>h) (uM (by kernel_rfl) 31 (.tmp 63) rfl jb 1 (by kernel_rfl) ((co a b c' d f k a' b' Fa d' f' k'):List Value) _ Vd underlying31 rfl (by kernel_rfl)) (by assumption) ?_;refine tk 19 (.pointer (some ⟨w.heap.size+1,19,none⟩)) ?_ ?_
  ·intro wq Aa;go_simp
  refine wpAnyH_take (i:=20) (v:=.agg ((bp p1 p2 p3 p4 a1 n1 c1 a2 n2 c2 a3 n3 c3 a4 n4 c4):List Value).toArray) rfl (by kernel_rfl) (by kernel_rfl) (by kernel_rfl) (fun _ _ _ h=>h) (uM (by kernel_rfl) 35 (.tmp 65) rfl (w.heap.size+1) 19 (by kernel_rfl) ((bp p1 p2 p3 p4 a1 n1 c1 a2 n2 c2 a3 n3 c3 a4 n4 c4):List Value) _ Rb underlying35 rfl (by kernel_rfl)) (by assumption) ?_;refine aX 21 fun Kk hK=>?_;go_simp;refine(CA _ (Ra.o.below Ba.o) (Sa.o.below Ba.o) (Ta.o.below Ba.o) (Ua.o.below Ba.o)).mono ?_;rintro e Pd ⟨rfl,Ce⟩;go_simp;have Ob:=aH Za Ce;have Da:H9 (m1 w3 Pd):=⟨Ob.os,Ob.tape,Ob.output,Ob.size,fun k hk=>Ob.block k hk (by simp)⟩;refine hK.out _ _ Ob (fun _=>?_);clear hK Kk Ce
  cases oa with
  | false=>
   have Tb:=Hd Od.o;refine tk 22 (.bool true) ?_ ?_
   ·intro wq Aa;go_simp
   refine tk 23 (.bool true) ?_ ?_
   ·intro wq Aa;go_simp
   refine bg ?_;go_simp;have Cb:=Hd (Ia.o.belowS Da.o);have Db:=Hd (Ka.o.belowS Da.o);have Eb:=Hd (Ga.o.belowS Da.o);have Fb:=Hd (Ha.o.trans (Da.o.mono Ha.o.size));have Gb:=Hd (Ra.o.below Da.o);have Hb:=Hd (Sa.o.below Da.o);have Ib:=Hd (Ta.o.below Da.o);have Jb:=Hd (Ua.o.below Da.o);have Kb:=Hd (Qa.o.below Da.o);have Lb:=Hd (Oa.o.belowS Da.o);clear Ia Ka Ga Ha Ra Sa Ta Ua Qa Oa;clear Rb Vd CR CA Ub Od Bb;rename_i Hf If Jf Kf Lf Nf Of Qf Rf Sf Tf;revert Vb ab nb cb nj cj bs qs Va Wa Jc id Ab Kc m0 I J Q V T Y Z L U Lc Nc t1 t2 p1 p2 p3 p4 a1 a2 a3 a4 n1 n2 n3 n4 c1 c2 c3 c4 z1 z2 z3 z4 w Pb l1 l2 l3 l4 Oc Pc Qc wa wb i hi Rc Wb gj Xb tn Sc tc Tc Uc Vc Wc Xc Yc Hf If Jf Pa jr jg tl a b c' d f k a' b' Fa d' f' k' s1 s2 Yb Zb Qb P Zc Ad Bd gp Ac g Nb Cd w2 jb x HX Fd Cc Dc Ec Kf gx Gc w3 nr Hc Lf Nf Of Qf Ja Ea Ca Sb Xa La Rf Id Jd u v Ic Za Ba Sf Pd Ob Da Tf Tb Cb Db Eb Fb Gb Hb Ib Jb Kb Lb;exact key4.out
  | true=>
   have Uf:=Hd Od.o;refine tk 22 (.bool false) ?_ ?_
   ·intro wq Aa;go_simp
   refine tk 23 (.bool false) ?_ ?_
   ·intro wq Aa;go_simp
   refine bg ?_;go_simp;have Cb:=Hd (Ia.o.belowS Da.o);have Db:=Hd (Ka.o.belowS Da.o);have Eb:=Hd (Ga.o.belowS Da.o);have Fb:=Hd (Ha.o.trans (Da.o.mono Ha.o.size));have Gb:=Hd (Ra.o.below Da.o);have Hb:=Hd (Sa.o.below Da.o);have Ib:=Hd (Ta.o.below Da.o);have Jb:=Hd (Ua.o.below Da.o);have Kb:=Hd (Qa.o.below Da.o);have Lb:=Hd (Oa.o.belowS Da.o);clear Ia Ka Ga Ha Ra Sa Ta Ua Qa Oa;clear Rb Vd CR CA Ub Od Bb;rename_i Vf Wf Xf Yf Zf Ag Bg Cg Dg Eg Fg;revert Vb ab nb cb nj cj bs qs Va Wa Jc id Ab Kc m0 I J Q V T Y Z L U Lc Nc t1 t2 p1 p2 p3 p4 a1 a2 a3 a4 n1 n2 n3 n4 c1 c2 c3 c4 z1 z2 z3 z4 w Pb l1 l2 l3 l4 Oc Pc Qc wa wb i hi Rc Wb gj Xb tn Sc tc Tc Uc Vc Wc Xc Yc Vf Wf Xf Pa jr jg tl a b c' d f k a' b' Fa d' f' k' s1 s2 Yb Zb Qb P Zc Ad Bd gp Ac g Nb Cd w2 jb x HX Fd Cc Dc Ec Yf gx Gc w3 nr Hc Zf Ag Bg Cg Ja Ea Ca Sb Xa La Dg Id Jd u v Ic Za Ba Eg Pd Ob Da Fg Uf Cb Db Eb Fb Gb Hb Ib Jb Kb Lb;exact key5.out
set_option maxRecDepth 100000 in
theorem mG:tF.p∧tF.q:=by
 refine⟨?tax,?tbx⟩
 case' tax=>
  intro ab cb nj cj bs js Fa Va w Vd Wd Xd HI R Yd w1 Qa C1 C2 Fd Gd Zd Ae h6 Be Ce SJ De Ee Fe Ge He Ie Je Ke Le Ne Oe Pe Qe Re Se Te Ue Ve We Xe Ye Ze Af Bf Cf Df Ef Ff Gf Hf If Jf Kf Lf q l Nf Of Pf h9 Qf Rf hq Sf Tf Uf Vf we eb wr u2 u6 u7 u8 u9 Wf Xf Yf Zf Ag Bg Cg Dg Eg Fg Gg Hg Ig Jg Kg Lg Ng Og Pg Qg Rg Sg Tg Ug Vg Wg Xg Yg Zg Ah Bh Ch Dh Eh Fh Gh Hh Ih Jh Kh Lh Nh Oh Ph Qh Rh Sh Th Uh Vh Wh Xh Yh Zh Ai Bi Ci Di Ei Fi Gi Hi Ii Ji Ki Li Ni Oi Pi Qi Ri Si Ti Ui Vi Wi Xi Yi Zi Aj Bj Cj Dj Ej Fj Gj Hj Ij Jj Kj Lj Nj Oj Pj Qj Rj Sj Tj Uj Vj Wj Xj Yj Zj Ak Bk Ck Dk Ek Fk Gk Hk Ik Jk Kk Lk Nk Ok Pk Qk Rk Sk Tk j ws hj Uk al ml cl Vk b1 o1 Id Jd Wk Xk ta tc Yk Da jr jg tl a b c' d f k a' b' Wa d' f' k' s1 s2 tn HT Ib Lc Zk Al Vl Wl Xl w2 jb Nc Yl Zl Am Bm Cm Dm Xa Ba La Em C3 Oc Bl Cl Dl El Ya Fm CM Fl Gl Hl Gm CS Il CR HG Jl Kl Ll Nl Ga Kd Na Oa
 case' tbx=>
  intro ab cb nj cj bs js Fa Va w Vd Wd Xd HI R Yd w1 Qa C1 C2 Fd Gd Zd Ae h6 Be Ce SJ De Ee Fe Ge He Ie Je Ke Le Ne Oe Pe Qe Re Se Te Ue Ve We Xe Ye Ze Af Bf Cf Df Ef Ff Gf Hf If Jf Kf Lf q l Nf Of Pf h9 Qf Rf hq Sf Tf Uf Vf we eb wr u2 u6 u7 u8 u9 Wf Xf Yf Zf Ag Bg Cg Dg Eg Fg Gg Hg Ig Jg Kg Lg Ng Og Pg Qg Rg Sg Tg Ug Vg Wg Xg Yg Zg Ah Bh Ch Dh Eh Fh Gh Hh Ih Jh Kh Lh Nh Oh Ph Qh Rh Sh Th Uh Vh Wh Xh Yh Zh Ai Bi Ci Di Ei Fi Gi Hi Ii Ji Ki Li Ni Oi Pi Qi Ri Si Ti Ui Vi Wi Xi Yi Zi Aj Bj Cj Dj Ej Fj Gj Hj Ij Jj Kj Lj Nj Oj Pj Qj Rj Sj Tj Uj Vj Wj Xj Yj Zj Ak Bk Ck Dk Ek Fk Gk Hk Ik Jk Kk Lk Nk Ok Pk Qk Rk Sk Tk j Ol ws hj Uk al ml cl Vk b1 o1 Id Jd Wk Xk ta tc Yk Da jr jg tl a b c' d f k a' b' Wa d' f' k' s1 s2 tn HT Ib Lc Zk Al Hm Im Jm w2 jb Nc Km Lm Nm Om p c0 Pm Qm Rm Sm Tm Um Xa Ba La Vm C3 Oc Bl Cl Pc Wm Dl El Ya Xm CM Fl Gl Hl Ym CS Il CR HG Jl Kl Ll Nl Ga Kd Na Oa
 all_goals
  have Zm:=Oc.o rfl;have Qc:H9 (((M.spT Fa bs jg ws tl&&!(jg&&tl.all (·.done)))&&M.spJ Fa Va bs Da (ws++tl.map (·.l')) (js.drop (j+1)))=R):=by first | (show _=_;have:=HG.o;rw[show decide (Da<Va)=true by simp;omega,show decide ((0:Int)<Da)=true by simp;omega,show decide (1≤tn)=true by simp;omega,show decide (tn≤8)=true by simp;omega]at this;simpa using this) | (show _=_;have:=HG.o;rw[show decide (Da<Va)=true by simp;omega,show decide (Ol<Da)=true by simp;omega,show decide (1≤tn)=true by simp;omega,show decide (tn≤8)=true by simp;omega]at this;simpa using this)
  clear HG Oc C3 CM CS CR;generalize Ld:M.spJ Fa Va bs Da (ws++tl.map (·.l')) (js.drop (j+1))=SN at Qc;have Rc:=Hd Ld;generalize Nd:ws++tl.map (·.l')=WF at Rc;have Od:=Hd Nd;clear Ld Nd;have Pd:WF.length≤8*(j+1):=(by rw[←Od.o,uW,List.length_map,Ib.o];omega);clear Kd;go_wp2
  go_loopw [4,7] (fun l i wr=>∃(p:Nat) (us:List Int),p≤tn∧i=it p∧ux Fa bs jg tl R SN WF w1 jb (ce Da a b c' d f k a' b' Wa d' f' k' s1 s2 jr jg ta tn tc) p us l wr) (fun _ i _=>tn-(intOf i).toNat)
  case atStart=>exact⟨0,ws,by omega,rfl,Qc.o,Od.o,Oa.o,Nc,_,_,_,rfl,Na.o,Ga.o⟩
  case round=>
   obtain⟨p,us,hp,rfl,Jb,Sc,Qd,Rd,ai,mi,ci,rfl,Tc,Ec⟩:=hrel;clear Qc Nc Ga Na Oa;have Uc:=Hd Sc;have An:us.length≤64:=(by have:=congrArg List.length Sc;rw[uW]at this;omega);have Bn:=Tc.count;have Fc:=Hd Rd;clear Sc Rd;have Za:=Hd Ec;have Vc:=Id.b Ec;have Ra:=Hd Qd;have Kb:=Hd Tc;have Wc:=HT.o.below Ec;clear Ec Qd Tc;by_cases Xc:p<tn
   case pos=>
    obtain⟨b2,o2,rfl,Pc⟩:=Wc.at (by omega);have hA:=Pc p Xc;have Cn:(p:Int)<(tn:Int):=(by omega);have Sa:=Jb;rw[aY M.t0 Ib.o Xc]at Sa;have Gb:=Uc.o;rw[aY M.t0 Ib.o Xc]at Gb;unfold M.spT at Sa;have C4:∀W,aw W ab q cb bs→Rt 101 #[.agg (aI Fa Va ab q cb (some ⟨b1,o1,none⟩) nj cj).toArray,lO (tl.getD p M.t0)] W (.bool (M.spK Fa bs (tl.getD p M.t0))):=fun W h=>qH Fa Va _ Fd Gd W h;generalize tl.getD p M.t0=x at hA Sa Gb C4;obtain⟨td,x,y⟩:=x;dsimp only[lO]at C4;rw[List.map_cons]at Gb;dsimp only at Gb Sa;generalize M.spK Fa bs ⟨td,x,y⟩=o4 at C4 Sa;generalize Sd:(M.leased ⟨td,x,y⟩&&us.contains x)=oc at Sa;have Lb:=Hd Sd;have Ab:H9 (M.leased ⟨td,x,y⟩=(x != 0)):=(by show _=_;unfold M.leased;by_cases e:x=0 <;> simp[e]);generalize M.leased ⟨td,x,y⟩=ol at Sa Lb Ab;have Pa:H9 (_=R):=Sa;have Td:=Hd Gb;clear Jb Sa Sd Gb Pc Wc;have Gc:=Ra.c 17;have a0:wr.cell? ⟨b2,o2+p*3,none⟩=some (.bool td):=hA 0 (by omega);have a1:wr.cell? ⟨b2,o2+p*3+1,none⟩=some (it x):=hA 1 (by omega);have a2:wr.cell? ⟨b2,o2+p*3+2,none⟩=some (it y):=hA 2 (by omega);clear hA;have Nb:=eK wr (.cells (eG td x y).toArray 47);have Bb:=Za.t Nb;have Ob:=Vc.b Nb;have Ud:=Ra.b Nb;have Hc:=Hd (Kb.o.below Nb);clear Za Vc Ra Kb;clear Nb;have Yc:=ct wr (eG td x y) 47;have m0:=Ob.c 0;have I:=Ob.c 1;have J:=Ob.c 2;have Q:=Ob.c 3;(go_wp2_with fail);clear Gc a0 a1 a2 m0 I J Q;generalize(wr.alloc (.cells (eG td x y).toArray 47))=w5 at *;generalize wr.heap.size=tb at Yc ⊢;refine(C4 _ (Jd.o.b.below Bb.o)).mono ?_;rintro e w6 ⟨rfl,hb⟩;have Ga:=Bb.t hb;have Oa:=Ud.b hb;have Na:=Hd (Hc.o.below hb);have Pb:=Yc.b hb;clear Bb Ob Ud Hc Yc;clear hb;clear C4
    cases o4 with
    | false=>
     have HF:H9 (false=R):=(by show _=_;have:=Pa.o;simpa using this);clear Pa;go_wp2;go_ret;exact⟨aD HF.o,(Qa.o.trans (Ga.o.mono Qa.o.size))⟩
    | true=>
     cases jg with
     | false=>
      have Hb:=Oa.c 16;go_wp2;clear Hb;have Cb:=Na.o.sees;have Pl:(mi:Int)≤9223372036854775807:=(by omega);have Ql:(mi:Int)≤ci:=(by have:=Cb.le;omega);have Qb:=Cb.len;clear Cb
      go_loopw [9] (fun i wr=>∃n:Nat,n≤mi∧i=it n∧((x != 0)&&(us.drop n).contains x)=oc∧m1 w6 wr) (fun i _=>mi-(intOf i).toNat)
      case atStart=>exact⟨0,by omega,rfl,by rw[←Ab.o];exact Lb.o,m5 _ _⟩
      case round=>
       obtain⟨n,hn,rfl,Aa,Ea⟩:=hrel;have Ha:=Ga.t Ea;have Ta:=Oa.b Ea;have Ia:=Hd (Na.o.below Ea);have Ja:=Pb.b Ea;clear Ga Oa Na Pb;have Db:=Hd Ea;clear Ea;have Eb:=Ia.o.sees;by_cases Rb:n<mi
       case pos=>
        obtain⟨b3,o3,rfl,Sb⟩:=Eb.at (by omega);have c3:=Sb n Rb;have Rl:(n:Int)<(mi:Int):=(by omega);rw[aY 0 Qb Rb,List.contains_cons]at Aa;generalize us.getD n 0=z at c3 Aa;clear Sb Eb;(go_wp2_with fail);by_cases Ka:x=0
        ·
         have Tb:(x != 0)=false:=(by simp[Ka]);have Ub:H9 (((x != 0)&&(us.drop (n+1)).contains x)=oc):=(by show _=_;rw[Tb]at Aa ⊢;exact Aa);have Ya:=Hd Ka;clear Aa Ka;refine cB wr none (by kernel_rfl) fun Ba=>?_;generalize wr.drew=Xa at *;have La:H9 (m1 wr Xa):=⟨Ba.os,Ba.tape,Ba.output,Ba.size,fun k hk=>Ba.block k hk (by simp)⟩;refine tk 0 (.pointer (some ⟨tb,1,none⟩)) ?_ ?_
         ·intro wq Ca;go_simp
         refine tk 1 (it x) ?_ ?_
         ·intro wp Ua;have c0:=(Ja.o.grown Ua (by simp)).c 1;go_simp
         refine tk 2 (.bool false) ?_ ?_
         ·intro wq Ca;go_simp;first | done | exact Ya.o
         refine tk 3 (.bool false) ?_ ?_
         ·intro wq Ca;go_simp
         refine sk 4 ?_;refine sk 5 ?_;refine sk 6 ?_;refine sk 7 ?_;refine sk 8 ?_;refine sk 9 ?_;refine sk 10 ?_;refine tk 11 (.bool false) ?_ ?_
         ·intro wq Ca;go_simp
         refine bg ?_;go_simp;clear Ha Ta Ia Ja;have Vb:=Hd (Db.o.trans (La.o.mono Db.o.size));go_wp2;go_roundw
         case rel=>exact⟨n+1,by omega,by go_num,Ub.o,Vb.o⟩
         case measure=>simp[intOf];omega
        have Tb:(x != 0)=true:=(by simp[Ka]);have Ya:=Hd Ka;clear Ka;refine cB wr none (by kernel_rfl) fun Ba=>?_;generalize wr.drew=Xa at *;have La:H9 (m1 wr Xa):=⟨Ba.os,Ba.tape,Ba.output,Ba.size,fun k hk=>Ba.block k hk (by simp)⟩;refine tk 0 (.pointer (some ⟨tb,1,none⟩)) ?_ ?_
        ·intro wq Ca;go_simp
        refine tk 1 (it x) ?_ ?_
        ·intro wp Ua;have c0:=(Ja.o.grown Ua (by simp)).c 1;go_simp
        refine tk 2 (.bool true) ?_ ?_
        ·intro wq Ca;go_simp;first | done | exact Ya.o
        refine tk 3 (.bool true) ?_ ?_
        ·intro wq Ca;go_simp
        refine tk 4 (.slice (some ⟨b3,o3,none⟩) mi ci) ?_ ?_
        ·intro wq Ca;go_simp
        refine tk 5 (it (n:Nat)) ?_ ?_
        ·intro wq Ca;go_simp
        refine tk 6 (.pointer (some ⟨b3,o3+n,none⟩)) ?_ ?_
        ·intro wq Ca;go_simp
        refine tk 7 (it z) ?_ ?_
        ·intro wp Ua;have c0:wp.cell? ⟨b3,o3+n,none⟩=some (it z):=Ua.cell c3 (by simp);go_simp
        refine tk 8 (.pointer (some ⟨tb,1,none⟩)) ?_ ?_
        ·intro wq Ca;go_simp
        refine tk 9 (it x) ?_ ?_
        ·intro wp Ua;have c0:=(Ja.o.grown Ua (by simp)).c 1;go_simp
        by_cases hz:z=x
        ·
         have gz:(z==x)=true:=(by simp[hz]);have Zc:(x==z)=true:=(by simp[hz]);have HF:H9 (false=R):=(by show _=_;have h1:=Pa.o;rw[Tb,Zc]at Aa;rw[←Aa]at h1;simpa using h1);have HZ:=Hd hz;clear Pa Aa hz;refine tk 10 (.bool true) ?_ ?_
         ·intro wq Ca;go_simp;first | done | exact HZ.o
         refine tk 11 (.bool true) ?_ ?_
         ·intro wq Ca;go_simp
         refine bg ?_;go_simp;have Sl:=Hd (Ha.o.trans (La.o.mono Ha.o.size));clear Ha Ta Ia Ja;go_wp2;go_ret;exact⟨aD HF.o,(Qa.o.trans (Sl.o.mono Qa.o.size))⟩
        ·
         have gz:(z==x)=false:=(by simp[hz]);have Zc:(x==z)=false:=(by simp;exact fun e=>hz e.symm);have Ub:H9 (((x != 0)&&(us.drop (n+1)).contains x)=oc):=(by show _=_;rw[Zc,Bool.false_or]at Aa;exact Aa);have HZ:=Hd hz;clear Aa hz;refine tk 10 (.bool false) ?_ ?_
         ·intro wq Ca;go_simp;first | done | exact HZ.o
         refine tk 11 (.bool false) ?_ ?_
         ·intro wq Ca;go_simp
         refine bg ?_;go_simp;clear Ha Ta Ia Ja;have Vb:=Hd (Db.o.trans (La.o.mono Db.o.size));go_wp2;go_roundw
         case rel=>exact⟨n+1,by omega,by go_num,Ub.o,Vb.o⟩
         case measure=>simp[intOf];omega
       rw[m9 (by rw[Qb];omega)]at Aa;have Ad:oc=false:=(by rw[←Aa];simp);have Bd:H9 (((M.spT Fa bs false (us++[x]) (tl.drop (p+1))&&!(false&&tl.all (·.done)))&&SN)=R):=(by show _=_;have h1:=Pa.o;rw[Ad]at h1;simpa using h1);clear Pa Aa Lb Ab Eb;have Cd:H9 ((us++[x])++(tl.drop (p+1)).map (·.l')=WF):=(by show _=_;rw[List.append_assoc];exact Td.o);obtain⟨i0,hi,Wb,Xb,Yb⟩:=HI.o;have Zb:=Ha.o.size;have Dd:=Ta.o.2.2;have t1:=Ja.c 1;(go_wp2_with(at_builtin;refine wpList_append_own_at _ rfl _ _ 24 rfl w1.heap.size 2 i0 (it 0) 1 8 underlying24 hi Wb Xb Yb rfl (by decide) _ mi (us.map (Value.int .i64)) rfl (vg Ia.o _) ⟨wr.heap.size,0,none⟩ 1 1 [it x] rfl rfl (bB wr x _) (bZ x) (by unfold maxLen;omega) (by omega) (by simp;omega) ?_));intro v' w7 Ac Fb _ Bc;have hown':w7.ownsRow w1.heap.size 2 1 v' (mi+1) ((us++[x]).map (Value.int .i64)):=(by rw[uX];exact Ac);have HN':=Hd (j6 (w:=wr.alloc (.cells #[it x] 2)) (by simpa using Bc) (by simp;omega) Fc.o);obtain⟨a9,Cc,rfl,Dc⟩:=aC.form hown';have HO':=Hd Dc;have HB':=Hd (eU Ha.o ((uK wr _ _).trans Fb) Zb (fun z hz=>(uH Ia.o z hz).1));have HJ':H9 (au w7 jb (ce Da a b c' d f k a' b' Wa d' f' k' s1 s2 jr false (some ⟨b2,o2,none⟩) tn tc)):=Ta.o.grown ((uK wr _ _).trans Fb) Fc.o;clear Ac hown' Fb Bc Dc hi Wb Xb Yb Zb Dd;go_wp2;go_roundw
       case rel=>exact⟨p+1,us++[x],by omega,by go_num,Bd.o,Cd.o,HJ'.o,HN'.o,a9,mi+1,Cc,rfl,HO'.o,HB'.o⟩
       case measure=>simp[intOf];omega
     | true=>
      have Hb:=Oa.c 16;have Tl:=Pb.c 1;by_cases Ic:x=0
      ·
       have gx:(x != 0)=false:=(by simp[Ic]);go_wp2;clear Hb Tl;have La:=Hd Ic;clear Ic;have Cb:=Na.o.sees;have Pl:(mi:Int)≤9223372036854775807:=(by omega);have Ql:(mi:Int)≤ci:=(by have:=Cb.le;omega);have Qb:=Cb.len;clear Cb
       go_loopw [9] (fun i wr=>∃n:Nat,n≤mi∧i=it n∧((x != 0)&&(us.drop n).contains x)=oc∧m1 w6 wr) (fun i _=>mi-(intOf i).toNat)
       case atStart=>exact⟨0,by omega,rfl,by rw[←Ab.o];exact Lb.o,m5 _ _⟩
       case round=>
        obtain⟨n,hn,rfl,Aa,Ea⟩:=hrel;have Ha:=Ga.t Ea;have Ta:=Oa.b Ea;have Ia:=Hd (Na.o.below Ea);have Ja:=Pb.b Ea;clear Ga Oa Na Pb;have Db:=Hd Ea;clear Ea;have Eb:=Ia.o.sees;by_cases Rb:n<mi
        case pos=>
         obtain⟨b3,o3,rfl,Sb⟩:=Eb.at (by omega);have c3:=Sb n Rb;have Rl:(n:Int)<(mi:Int):=(by omega);rw[aY 0 Qb Rb,List.contains_cons]at Aa;generalize us.getD n 0=z at c3 Aa;clear Sb Eb;(go_wp2_with fail);by_cases Ka:x=0
         ·
          have Tb:(x != 0)=false:=(by simp[Ka]);have Ub:H9 (((x != 0)&&(us.drop (n+1)).contains x)=oc):=(by show _=_;rw[Tb]at Aa ⊢;exact Aa);have Ya:=Hd Ka;clear Aa Ka;refine cB wr none (by kernel_rfl) fun Ba=>?_;generalize wr.drew=Xa at *;have La:H9 (m1 wr Xa):=⟨Ba.os,Ba.tape,Ba.output,Ba.size,fun k hk=>Ba.block k hk (by simp)⟩;refine tk 0 (.pointer (some ⟨tb,1,none⟩)) ?_ ?_
          ·intro wq Ca;go_simp
          refine tk 1 (it x) ?_ ?_
          ·intro wp Ua;have c0:=(Ja.o.grown Ua (by simp)).c 1;go_simp
          refine tk 2 (.bool false) ?_ ?_
          ·intro wq Ca;go_simp;first | done | exact Ya.o
          refine tk 3 (.bool false) ?_ ?_
          ·intro wq Ca;go_simp
          refine sk 4 ?_;refine sk 5 ?_;refine sk 6 ?_;refine sk 7 ?_;refine sk 8 ?_;refine sk 9 ?_;refine sk 10 ?_;refine tk 11 (.bool false) ?_ ?_
          ·intro wq Ca;go_simp
          refine bg ?_;go_simp;clear Ha Ta Ia Ja;have Vb:=Hd (Db.o.trans (La.o.mono Db.o.size));go_wp2;go_roundw
          case rel=>exact⟨n+1,by omega,by go_num,Ub.o,Vb.o⟩
          case measure=>simp[intOf];omega
         exact absurd La.o Ka
        rw[m9 (by rw[Qb];omega)]at Aa;have Ad:oc=false:=(by rw[←Aa];simp);have Bd:H9 (((M.spT Fa bs true (us++[x]) (tl.drop (p+1))&&!(true&&tl.all (·.done)))&&SN)=R):=(by show _=_;have h1:=Pa.o;rw[Ad,Ab.o,gx]at h1;simpa using h1);clear Pa Aa Lb Ab Eb;have Cd:H9 ((us++[x])++(tl.drop (p+1)).map (·.l')=WF):=(by show _=_;rw[List.append_assoc];exact Td.o);obtain⟨i0,hi,Wb,Xb,Yb⟩:=HI.o;have Zb:=Ha.o.size;have Dd:=Ta.o.2.2;have t1:=Ja.c 1;(go_wp2_with(at_builtin;refine wpList_append_own_at _ rfl _ _ 24 rfl w1.heap.size 2 i0 (it 0) 1 8 underlying24 hi Wb Xb Yb rfl (by decide) _ mi (us.map (Value.int .i64)) rfl (vg Ia.o _) ⟨wr.heap.size,0,none⟩ 1 1 [it x] rfl rfl (bB wr x _) (bZ x) (by unfold maxLen;omega) (by omega) (by simp;omega) ?_));intro v' w7 Ac Fb _ Bc;have hown':w7.ownsRow w1.heap.size 2 1 v' (mi+1) ((us++[x]).map (Value.int .i64)):=(by rw[uX];exact Ac);have HN':=Hd (j6 (w:=wr.alloc (.cells #[it x] 2)) (by simpa using Bc) (by simp;omega) Fc.o);obtain⟨a9,Cc,rfl,Dc⟩:=aC.form hown';have HO':=Hd Dc;have HB':=Hd (eU Ha.o ((uK wr _ _).trans Fb) Zb (fun z hz=>(uH Ia.o z hz).1));have HJ':H9 (au w7 jb [it Da,it a,it b,it c',it d,it f,it k,it a',it b',it Wa,it d',it f',it k',it s1,it s2,it jr,.bool true,.slice (some ⟨b2,o2,none⟩) tn tc]):=Ta.o.grown ((uK wr _ _).trans Fb) Fc.o;clear Ac hown' Fb Bc Dc hi Wb Xb Yb Zb Dd;go_wp2;go_roundw
        case rel=>exact⟨p+1,us++[x],by omega,by go_num,Bd.o,Cd.o,HJ'.o,HN'.o,a9,mi+1,Cc,rfl,HO'.o,HB'.o⟩
        case measure=>simp[intOf];omega
      ·
       have gx:(x != 0)=true:=(by simp[Ic]);have HF:H9 (false=R):=(by show _=_;have:=Pa.o;rw[Ab.o,gx]at this;simpa using this);clear Pa;go_wp2;go_ret;exact⟨aD HF.o,(Qa.o.trans (Ga.o.mono Qa.o.size))⟩
   have Ul:tn=p:=(by omega);subst Ul;have e0:=m9 (Nat.le_of_eq Ib.o);have Jc:H9 (us=WF):=(by show _=_;have:=Uc.o;rw[e0]at this;simpa using this);rw[e0]at Jb;have Kc:H9 ((!(jg&&tl.all (·.done))&&SN)=R):=(by show _=_;have:=Jb;unfold M.spT at this;simpa using this);clear Jb e0 Uc;have Dn:(j:Int)+1≤9223372036854775807:=by omega
   cases jg with
   | false=>
    have Hb:=Ra.c 16;have Gc:=Ra.c 17;have Ed:H9 (SN=R):=(by show _=_;have:=Kc.o;simpa using this);go_wp2;go_roundw
    case rel=>exact⟨j+1,Da,us,by omega,by go_num,(fun h=>by omega),Lc.o,by rw[Jc.o];exact Rc.o.trans Ed.o,by rw[Jc.o];exact Pd,ai,mi,ci,rfl,Kb.o,Za.o⟩
    case measure=>simp[intOf];omega
   | true=>
    have C7:∀W,bW W ta tn tc tl→Rt 45 #[.agg #[it Da,it a,it b,it c',it d,it f,it k,it a',it b',it Wa,it d',it f',it k',it s1,it s2,it jr,.bool true,.slice ta tn tc]] W (.bool (tl.all (·.done))):=fun W h=>i4 Da a b c' d f k a' b' Wa d' f' k' s1 s2 jr true W h;generalize tl.all (·.done)=o7 at C7 Kc;have Gc:=Ra.c 17;(go_wp2_with(with_reducible refine aA 183 ?_ ?_;rfl));show wpList _ _ _ _ _ _;clear Gc;have Hb:=Ra.c 16;with_reducible refine cn ?qg (.bool true) wr ?qrun ?_
    case qg=>exact rfl
    case qrun=>go_simp
    show wpList _ _ _ _ _ _;with_reducible refine cn ?qg (.bool true) wr ?qrun ?_
    case qg | qrun=>exact rfl
    show wpList _ _ _ _ _ _;have iL:(prog.info? 45).map (·.size)=some ([it Da,it a,it b,it c',it d,it f,it k,it a',it b',it Wa,it d',it f',it k',it s1,it s2,it jr,.bool true,.slice ta tn tc]:List Value).length:=(show(prog.info? 45).map (·.size)=some 18 by kernel_rfl);with_reducible refine bK ?qw 45 ?qlw ?qo jb 0 ?qhx [it Da,it a,it b,it c',it d,it f,it k,it a',it b',it Wa,it d',it f',it k',it s1,it s2,it jr,.bool true,.slice ta tn tc] _ Ra.o.row underlying45 ?qd iL ?_
    case qw=>kernel_rfl
    case qo=>exact rfl
    case qhx=>kernel_rfl
    case qd=>exact rfl
    clear iL;show wpList _ _ _ _ _ _;clear Hb;(go_wp2_with fail);refine(C7 _ Wc).mono ?_;rintro e w8 ⟨rfl,hb⟩;have Bb:=Za.t hb;have Hc:=Hd (Kb.o.below hb);clear Za Vc Ra Kb;clear hb
    cases o7 with
    | true=>
     have HF:H9 (false=R):=(by show _=_;have:=Kc.o;simpa using this);go_wp2;go_ret;exact⟨aD HF.o,(Qa.o.trans (Bb.o.mono Qa.o.size))⟩
    | false=>
     have Ed:H9 (SN=R):=(by show _=_;have:=Kc.o;simpa using this);go_wp2;go_roundw
     case rel=>exact⟨j+1,Da,us,by omega,by go_num,(fun h=>by omega),Lc.o,by rw[Jc.o];exact Rc.o.trans Ed.o,by rw[Jc.o];exact Pd,ai,mi,ci,rfl,Hc.o,Bb.o⟩
     case measure=>simp[intOf];omega
theorem jd{js:List M.Jb}(now uB:Int)(w:World)(hz:cH w ab nb cb aj nj cj bs js):
  Rt 40 #[.agg #[.int .i64 now,.int .i64 uB,.slice ab nb cb,.slice aj nj cj]] w (.bool (M.mkOk now uB bs js)):=
 uh.h ⟨ui⟩ ⟨uj.h ⟨(tF.h ⟨mG.1⟩ ⟨mG.2⟩).1⟩ ⟨(tF.h ⟨mG.1⟩ ⟨mG.2⟩).2⟩⟩ ab aj nb cb nj cj bs js now uB w hz
theorem dr(hg:op.guard=none)(ty:TypeId)(x:Operand)(ho:op.op=.load ty x)(b o:Nat)(hx:a.eval x=.pointer (some ⟨b,o,none⟩))(cs:List Value)(d:TypeDesc)(hc:w.rangeAt b o cs)
 (hu:P.underlying ty=some d)(hd:d.isRow=true)(hi:(P.info? ty).map (·.size)=some cs.length)(hK:K (a.put op.dst (.agg cs.toArray)) w):if Region.wanted op (yielded ops a.tmps)=true then Oper.wp P op a w K Q else E:=by
 have hw:Region.wanted op (yielded ops a.tmps)=true:=(by simp[Region.wanted,hg]);rw[if_pos hw];exact wp_load_mid ty x ho b o hx cs d hc hu hd hi hK
theorem gg(hg:op.guard=none)(ty:TypeId)(x y:Operand)(ho:op.op=.store ty x y)(b o:Nat)(cells:Array Value)(hx:a.eval x=.pointer (some ⟨b,o,none⟩))(hy:a.eval y=.agg cells)
 (ht:w.there b o cells.size)(hi:(P.info? ty).map (·.size)=some cells.size)(h1:cells.all (·.oneCell')=true)(hK:K (a.put op.dst undef) (w.setCells b o cells.toList)):if Region.wanted op (yielded ops a.tmps)=true then Oper.wp P op a w K Q else E:=by
 have hw:Region.wanted op (yielded ops a.tmps)=true:=(by simp[Region.wanted,hg]);rw[if_pos hw];exact wp_store_mid ty x y ho b o cells hx hy ht hi h1 hK
theorem rV:(prog.info? 2).map (fun i=>(i.zero,i.size,i.bytes))=some (some (.int .i64 0),1,8):=by kernel_rfl
theorem oU{o:Oper}{qs:List MQ}
 (hg:o.guard=none)(s x:Operand)(hop:o.op=Op.call {callee:=Callee.builtin Builtin.append,args:=#[s,x],argTypes:=#[24,24]})(hs:a.eval s=.slice ab nb cb)(gb:Nat)(hx:a.eval x=.slice (some ⟨gb,0,none⟩) 1 1)(H:aV w i' ab nb cb bs aj nj cj qs)(z:Int)(hL:au w gb [.int .i64 z])
 (hn:nb≤1000)(uy:i'≤w.heap.size)
 (hK:∀ab' cb' w7,aV w7 i' ab' (nb+1) cb' (bs++[z]) aj nj cj qs→w.grownBy w7 (Value.slice ab nb cb).ownBlock→K (a.put o.dst (.slice ab' (nb+1) cb')) w7):
  if Region.wanted o (yielded ops a.tmps)=true then Oper.wp prog o a w K Q else E:=by
 obtain⟨i1,Fa,Ga,Ha,Ia⟩:=info_parts rV;refine dC hg s x 24 hop i' 2 i1 (it 0) 1 8 underlying24 Fa Ga Ha Ia rfl (by decide) (.slice ab nb cb) nb (bs.map (Value.int .i64)) hs H.b ⟨gb,0,none⟩ 1 1 [it z] hx rfl (gv hL) (by simp[Value.oneCell']) (by unfold maxLen;omega) (by omega) uy ?_;intro v' w8 Aa Ba Ja;obtain⟨Ca,Da,rfl⟩:=iM Aa;obtain⟨c3,c2,c1⟩:=cK.1 H.d;have Ea:=H.lt
 have ha:∀{g},g∈ob Ca→g∈ob ab∨w.heap.size≤g:=fun{g} hg=>by
  have e:=cv (n:=nb+1) (c:=Da) hg
  rcases Ja with e2 | e2
  ·exact .inl (bq (e2.symm.trans e))
  ·rw[e2]at e;injection e with e;exact .inr (by omega)
 have n7:∀{g},g∉ob ab→(Value.slice ab nb cb).ownBlock≠some g:=fun hn e=>hn (bq e)
 have Ka:aC 2 w8 i' Ca (nb+1) Da (bs++[z]):=by
  have e:bs.map (Value.int .i64)++[it z]=(bs++[z]).map (Value.int .i64):=(by simp);rw[e]at Aa;exact Aa
 refine hK _ _ _ ⟨Ka,H.jl,iN H.j Ba (fun g hg=>n7 fun e=>(c3 g e).1 hg),fun q hq=>(H.t q hq).grown Ba (fun g hg=>n7 fun e=>(c3 g e).2 (uO.2 ⟨q,hq,hg⟩)),?_⟩ Ba;refine cK.2 ⟨fun g hg=>⟨fun e=>?_,fun e=>?_⟩,c2,c1⟩
 ·
  rcases ha hg with h1 | h1
  ·exact(c3 g h1).1 e
  ·have:=(Ea g (by simp[bY,e])).2;omega
 ·
  rcases ha hg with h1 | h1
  ·exact(c3 g h1).2 e
  ·have:=(Ea g (by unfold bY;rw[uG,uG];exact .inr (.inr e))).2;omega
theorem i5{ad:Addr}{v:Value}(h:w.cell? ad=some v):(loadVar 24 ad).run prog w=.ok v w:=by go_simp
theorem pG{j:M.Jb}{p:Nat}(h:M.openP j=some p):p<j.ts.length:=by
 unfold M.openP at h
 split at h
 ·simp at h
 ·exact(List.findIdx?_eq_some_iff_getElem.1 h).1
def nJ(m:M.Mt)(who:Int):Option (Nat×Nat)→M.Mt×Int×Int
 | none=>(m,4,0)
 | some (i,k)=>(⟨m.now,m.next,m.bs,M.setT m.js i k ⟨false,who,m.now+5⟩⟩,0,100*(m.js.getD i M.j0).id+k)
theorem pD(m:M.Mt)(who:Int):M.lease m who=if m.bs.contains who then(m,5,0)else if m.js.any (fun j=>j.ts.any (M.mineT who))then(m,6,0)else nJ m who (M.place 0 m.js):=by
 unfold M.lease nJ
 rfl
set_option maxRecDepth 10000 in
theorem rZ(who:Int)(w:World)(H:bh w i' h now uB ab nb cb bs ai ni ci mb qs)(HRt:M.Right now uB bs (qs.map (fun q:HJ=>q.j)))(uy:i'≤w.heap.size):
  Calls prog 96 #[.pointer (some ⟨h,0,none⟩),.agg #[.int .i64 who]] w (fM w i' h (M.lease ⟨now,uB,bs,qs.map (fun q:HJ=>q.j)⟩ who)):=by
 have Ub:=HRt.now0;have Vb:=HRt.now1;have Ua:H9 ((qs.map (fun q:HJ=>q.j.id)).Pairwise (·< ·)):=by have:=HRt.rise;rw[List.pairwise_map]at this;exact List.pairwise_map.2 this
 have Gb:H9 (∀k,k<qs.length→0<(qs.getD k df).j.id∧(qs.getD k df).j.id<1000000000∧(qs.getD k df).j.ts.length≤8):=fun k hk=>by
  have hm:(qs.getD k df).j∈qs.map (fun q:HJ=>q.j):=(by rw[←lD hk];exact M.getD_mem (by simpa using hk));have h1:=HRt.job _ hm;have h2:=HRt.next1;exact⟨h1.1,by omega,(HRt.tasks _ hm).2⟩
 have Hb:=H.count;have bn:(ni:Int)≤9223372036854775807:=(by have:=H.i.sees.big;have:=H.i.sees.le;omega);have Wb:(ni:Int)≤ci:=(by have:=H.i.sees.le;omega);have Ea:H9 (m1 w (w.alloc (.cells #[it who] 159))):=(m5 _ _).alloc (m3 _) _;have Ja:=ct w [it who] 159;have Da:=Hd (H.below Ea.o);have C1:=gM who (w.alloc (.cells #[it who] 159)) Da.o;have C2:=qv who (w.alloc (.cells #[it who] 159)) Da.o Ua.o;clear H HRt;rw[pD];dsimp only;have e:(qs.map (fun q:HJ=>q.j)).any (fun j=>j.ts.any (M.mineT who))=qs.any (fun q=>q.j.ts.any (M.mineT who)):=(by rw[List.any_map];rfl);rw[e];clear e;generalize bs.contains who=ob' at C1 ⊢;generalize qs.any (fun q=>q.j.ts.any (M.mineT who))=oy at *;generalize hR:M.place 0 (qs.map (fun q:HJ=>q.j))=R;have HR:=Hd hR;clear hR;have t0:=Ja.c 0;go_enter func96,ntmps96;(go_wp2_with fail);generalize(w.alloc (.cells #[it who] 159))=wa at *;refine C1.mono ?_;rintro e wz ⟨rfl,Va⟩;have Ib:=Va.symm;clear Va C1;subst Ib;have Ka:=Hd (Ea.o.mono uy);have Wa:=m8 uy Ea.o.size
 cases ob' with
 | true=>
  go_wp2;exact m7 (v:=.tuple #[it 5,it 0]) (by simp[results,results96,go_sem]) rfl ⟨rfl,⟨_,_,_,_,_,_,_,_,Da.o,rfl⟩,Ka.o⟩
 | false=>
  (go_wp2_with fail);refine C2.mono ?_;rintro e wb ⟨rfl,hb⟩;have Xa:=Ja.b hb;have Fa:=Hd (Da.o.below hb);have La:=Hd (Ka.o.trans (hb.mono Wa));clear hb Ja Da Ea Ka C2 t0 Wa
  cases oy with
  | true=>
   go_wp2;exact m7 (v:=.tuple #[it 6,it 0]) (by simp[results,results96,go_sem]) rfl ⟨rfl,⟨_,_,_,_,_,_,_,_,Fa.o,rfl⟩,La.o⟩
  | false=>
   have x3:=Fa.o.l.c 3;(go_wp2_with fail);clear x3
   go_loopw [23] (fun i wr=>∃k:Nat,k≤ni∧i=it k∧M.place k ((qs.drop k).map (fun q:HJ=>q.j))=R∧bh wr i' h now uB ab nb cb bs ai ni ci mb qs∧au wr w.heap.size [it who]∧Below i' w wr) (fun i _=>ni-(intOf i).toNat)
   case atStart=>exact⟨0,by omega,rfl,HR.o,Fa.o,Xa.o,La.o⟩
   case round=>
    clear Fa Xa La HR;obtain⟨k,hk,rfl,hg,hh,ht,Ga⟩:=hrel;have Na:=m8 uy Ga.size;have HT:=Hd ht;have HB:=Hd Ga;by_cases Ya:k<ni
    ·
     obtain⟨b1,o1,rfl,Za⟩:=hh.i.sees.at (by omega);have c1:=Za k Ya;rw[mr (by omega)]at c1;obtain⟨q,hq⟩:∃q,qs.getD k df=q:=⟨_,rfl⟩;have Ab:=Gb.o k (by omega)
     have hG:(match M.openP q.j with | some p=>some (k,p) | none=>M.place (k+1) ((qs.drop (k+1)).map (fun q:HJ=>q.j)))=R:=by
      rw[←hg,aY df Hb Ya,hq];rfl
     have Bb:H9 ((qs.map (fun q:HJ=>q.j)).getD k M.j0=q.j):=(by show _=_;rw[←hq];exact lD (by omega));rw[hq]at c1 Ab;have HA:H9 (bx wr i' h now uB ab nb cb bs (some ⟨b1,o1,none⟩) ni ci mb qs k q):=⟨hh,by omega,hq⟩;have Oa:=hh.m.get (P:=prog) (t:=111) underlying111 underlying2 _ _ (HA.o.look Ua.o) false;simp only[Bool.false_eq_true,if_false]at Oa;have h3:=hh.l.c 3;have h4:=hh.l.c 4;have C3:=kO wr HA.o.lies HA.o.owns;have Aa:=pF q.j;generalize iy q.j=oi at C3 Aa;generalize Cb:q.j.id=qi at c1 Oa Ab;have Jb:=Hd Cb;have hI:(k:Int)<(ni:Int):=(by omega);clear Za hg hh ht Ga hq Cb;have HG:=Hd hG;have Ca:=Hd Aa;clear hG Aa;(go_wp2_with fail);refine C3.mono ?_;rintro e w2 ⟨rfl,hb⟩;have Ba:=Hd (HA.o.below hb);have Pa:=HT.b hb;have Qa:=Hd (HB.o.trans (hb.mono Na));have Kb:=m8 Na hb.size;clear hb HA HT HB Na C3 c1 h3 h4 Oa
     cases Aa:M.openP q.j with
     | none=>
      rw[Aa]at HG Ca;have Lb:=Hd HG.o;have Ra:oi=-1:=Ca.o;clear Aa HG Ca;subst Ra;go_wp2;go_roundw
      case rel=>exact⟨k+1,by omega,by go_num,Lb.o,Ba.o.1,Pa.o,Qa.o⟩
      case measure=>simp[intOf];omega
     | some p=>
      rw[Aa]at HG Ca;have hR:some (k,p)=R:=HG.o;have Ra:oi=(p:Int):=Ca.o;have Ha:=pG Aa;clear Aa HG Ca;subst Ra;subst hR;have hO:=Ba.o.owns;obtain⟨g,Ia⟩:=hO.block (by omega);have Db:=Ba.o.lies.c 17;rw[Ia]at hO Db;have x0:=Ba.o.1.l.c 0;have t0:=Pa.c 0;have y0:=hO.cells Ha (j:=0) (by omega);have y1:=hO.cells Ha (j:=1) (by omega);have y2:=hO.cells Ha (j:=2) (by omega);have Eb:=hO.2.frozenAt (p*3+0);have Nb:=hO.2.frozenAt (p*3+1);have Ob:=hO.2.frozenAt (p*3+2);rw[Nat.add_zero]at y0 Eb;generalize q.j.ts.getD p M.t0=zz at y0 y1 y2;obtain⟨z1,z2,z3⟩:=zz;simp only[dW,List.getElem?_cons_zero,List.getElem?_cons_succ]at y0 y1 y2;obtain⟨Fb,Sa⟩:=hO.put Ha ⟨false,who,now+5⟩;have Pb:g∈ob q.a:=(by rw[Ia];simp[ob]);have HF:=(Ba.o.tasks (n:=0) (c:=0) (ts:=q.j.ts.set p ⟨false,who,now+5⟩) (by rw[List.length_set]) (by rw[Ia];exact Sa) (by rw[List.length_set,Ia];exact Fb)).below (m5 _ _).drew;have Qb:=Hd ((Qa.o.trans (ap Sa Kb (fun z e=>by rw[←m2 e];exact(Ba.o.apart.1 g Pb).1))).drew)
      have Rb:H9 (∃Ta,bh (w2.setCells g (p*3) (dW ⟨false,who,now+5⟩)).drew i' h now uB ab nb cb bs (some ⟨b1,o1,none⟩) ni ci mb Ta∧Ta.map (fun q:HJ=>q.j)=M.setT (qs.map (fun q:HJ=>q.j)) k p ⟨false,who,now+5⟩):=⟨_,HF.1,by
       rw[List.map_set];unfold M.setT;rw[Bb.o]⟩
      have Xb:(p:Int)<(q.j.ts.length:Int):=(by omega);have Yb:(0:Int)≤(p:Int):=(by omega);have Zb:IntKind.i64.wrap (p:Int)=p:=(by rw[uQ];have:=hO.sees.big;have:=hO.sees.le;omega);have Ac:(q.j.ts.length:Int)≤q.c:=(by have:=hO.sees.le;omega);have Bc:IntKind.i64.wrap (now+5)=now+5:=by rw[uQ];omega
      have Cc:H9 (IntKind.i64.wrap (IntKind.i64.wrap (100*qi)+(p:Int))=100*qi+p):=by
       have h8:(p:Int)<9000000000000:=(by omega);show _=_;rw[uQ,uQ];omega
      clear hO Fb Sa HF Ba Pa Qa;(go_wp2_with fail);apply eV
      case f=>
       intro key
       go_region_law (fail)
       all_goals exact key.out
      case h=>
       clear Db x0 t0 y0 y1 y2 Eb Nb Ob;go_wp2;obtain⟨Ta,Sb,Tb⟩:=Rb.o;exact m7 (v:=.tuple #[it 0,it (100*qi+(p:Int))]) (by simp[results,results96,go_sem]) rfl ⟨by rw[←Jb.o,←Bb.o];rfl,⟨_,_,_,_,_,_,_,_,Sb,Tb⟩,Qb.o⟩
    ·
     have hR:none=R:=by
      rw[m9 (by omega)]at hg;exact hg
     have HH:=Hd hh;clear hg hh ht Ga;subst hR;go_wp2;exact m7 (v:=.tuple #[it 4,it 0]) (by simp[results,results96,go_sem]) rfl ⟨rfl,⟨_,_,_,_,_,_,_,_,HH.o,rfl⟩,HB.o⟩
set_option maxRecDepth 10000 in
theorem rg(a b c d f k a' b' c' d' f' k' s1 s2 rows tr:Int)(w:World)(H:bh w i' h now uB ab nb cb bs ai ni ci mb qs)(HRt:M.Right now uB bs (qs.map (fun q:HJ=>q.j)))(hm0:1≤tr)(hm1:tr≤8)(uy:i'≤w.heap.size):
  Calls prog 93 #[.pointer (some ⟨h,0,none⟩),.agg #[.int .i64 a,.int .i64 b,.int .i64 c,.int .i64 d,.int .i64 f,.int .i64 k,.int .i64 a',.int .i64 b',.int .i64 c',.int .i64 d',.int .i64 f',.int .i64 k',.int .i64 s1,.int .i64 s2,.int .i64 rows,.int .i64 tr]] w (fM w i' h (M.submit ⟨now,uB,bs,qs.map (fun q:HJ=>q.j)⟩ ⟨⟨a,b,c,d,f,k⟩,⟨a',b',c',d',f',k'⟩⟩ (s1,s2) rows tr)):=by
 have Rb:=HRt.next0;have Sb:=HRt.next1;have Ua:=H.count;have h6:ni≤6:=(by have:=HRt.few;rw[List.length_map]at this;omega);have Va:H9 (∀q∈qs,q.j.id≠uB):=fun q hq e=>by have:=(HRt.job q.j (List.mem_map_of_mem (f:=fun q:HJ=>q.j) hq)).2.1;omega
 have Da:H9 (m1 w (w.alloc (.cells (eE a b c d f k a' b' c' d' f' k' s1 s2 rows tr).toArray 157))):=(m5 _ _).alloc (m3 _) _;have Ga:=ct w (eE a b c d f k a' b' c' d' f' k' s1 s2 rows tr) 157;have Ba:=Hd (H.below Da.o);have La:=Hd H.lt;have bn:(ni:Int)≤9223372036854775807:=(by omega);have x3:=Ba.o.l.c 3;have x1:=Ba.o.l.c 1;have Ha:=Hd (Da.o.mono uy);have Wa:=m8 uy Da.o.size;obtain⟨i0,hi,Xa,Ya,Za⟩:=info_parts fB;unfold M.submit;dsimp only;rw[List.length_map,Ua];by_cases Ia:ni=6
 ·
  have g6:((ni:Int)==6)=true:=(by simp[Ia]);rw[if_pos (by simp[Ia])];go_enter func93,ntmps93;go_wp2;exact m7 (v:=.tuple #[it 3,it 0]) (by simp[results,results93,go_sem]) rfl ⟨rfl,⟨_,_,_,_,_,_,_,_,Ba.o,rfl⟩,Ha.o⟩
 have g6:((ni:Int)==6)=false:=(by simp;omega);by_cases Ea:uB=1000000000
 ·
  have gx:(uB==1000000000)=true:=(by simp[Ea]);rw[if_pos (by simp[Ea])];go_enter func93,ntmps93;go_wp2;exact m7 (v:=.tuple #[it 3,it 0]) (by simp[results,results93,go_sem]) rfl ⟨rfl,⟨_,_,_,_,_,_,_,_,Ba.o,rfl⟩,Ha.o⟩
 have gx:(uB==1000000000)=false:=(by simp[Ea]);rw[if_neg (by simp[Ia,Ea])];obtain⟨mn,rfl⟩:∃mn:Nat,tr=(mn:Int):=⟨tr.toNat,by omega⟩;rw[u'];go_enter func93,ntmps93;(go_wp2_with fail);generalize(w.alloc (.cells (eE a b c d f k a' b' c' d' f' k' s1 s2 rows (mn:Nat)).toArray 157))=wa at *;have Ab:=Ga.o.2.2;have Na:H9 (w.heap.size∉di h mb ab ai qs):=fun e=>by have:=La.o _ e;omega
 have Bb:mn≤8:=(by omega);have Cb:mn*3≤16777216:=(by omega);have Db:i0.bytes*mn≤281474976710656:=(by rw[Za];omega);have Eb:mn≤maxLen:=(by unfold maxLen;omega);clear Da;generalize w.heap.size=tb at Ga La Na Ab ⊢;refine wp_region_noPanic ?_;refine wp_region_held_drew (S:=fun W=>au W tb (eE a b c d f k a' b' c' d' f' k' s1 s2 rows (mn:Nat))) (by kernel_rfl) (Ga.o.belowS (m5 _ _).drew) (fun hHeld=>?_);have Ja:=Hd (Ba.o.below (m5 _ _).drew);have Oa:=Hd Ha.o.drew;have Fa:i'≤wa.drew.heap.size:=Wa;generalize wa.drew=Tb at *;refine tk 0 (.pointer (some ⟨h,0,none⟩)) ?_ ?_
 ·intro wq Aa;go_simp
 refine tk 1 (it uB) ?_ ?_
 ·intro wq Aa;go_simp
 refine tk 2 (.pointer (some ⟨tb,0,none⟩)) ?_ ?_
 ·intro wq Aa;go_simp
 refine wpAnyH_take (i:=3) (v:=.agg ((co a b c d f k a' b' c' d' f' k'):List Value).toArray) rfl (by kernel_rfl) (by kernel_rfl) (by kernel_rfl) (fun _ _ _ h=>h) (uM (by kernel_rfl) 31 (.tmp 26) rfl tb 0 rfl ((co a b c d f k a' b' c' d' f' k'):List Value) _ (fun W hW=>au.mid hW 0 12) underlying31 rfl (by kernel_rfl)) (by assumption) ?_;refine tk 4 (.pointer (some ⟨tb,12,none⟩)) ?_ ?_
 ·intro wq Aa;go_simp
 refine tk 5 (.agg #[it s1,it s2]) ?_ ?_
 ·intro wq Aa;have c0:=Aa.c 12;have c1:=Aa.c 13;go_simp
 refine tk 6 (.pointer (some ⟨tb,14,none⟩)) ?_ ?_
 ·intro wq Aa;go_simp
 refine tk 7 (it rows) ?_ ?_
 ·intro wq Aa;have c0:=Aa.c 14;go_simp
 refine tk 8 (.pointer (some ⟨tb,15,none⟩)) ?_ ?_
 ·intro wq Aa;go_simp
 refine tk 9 (it (mn:Nat)) ?_ ?_
 ·intro wq Aa;have c0:=Aa.c 15;go_simp
 refine uT (rs:=[10]) (by kernel_rfl) (by simp) ?_;apply uC
 case ho=>exact rfl
 case hs=>exact uJ
 intro Kk hK;with_reducible refine eD ?qg (.tmp 33) 43 ?qo i' 47 i0 (.agg sf.toArray) 3 underlying43 hi Xa Ya mn ?qm Cb Db Eb Fa ?_
 case qg | qo=>exact rfl
 case qm=>kernel_rfl
 intro g wm Fb Pa hg;have Gb:=Hd (mH Bb Pa rfl);have Qa:=Hd (Ja.o.grown hg (fun _ _=>by simp));have Ra:=Hd (Oa.o.trans (ap hg Fa (by simp)));have Sa:=m8 Fa hg.size;have Ka:=hHeld.grown hg (by simp);have Hb:H9 (∀x∈ob (some (⟨g,0,none⟩:Addr)),x∉di h mb ab ai qs):=fun x hx e=>by simp[ob]at hx;have:=Ja.o.lt _ e;omega
 refine hK.out _ _ Ka (fun hzz=>?_);clear hK Kk hzz Pa hg Fb hHeld Ja Oa Fa;refine tk 11 (.agg ((ce uB a b c d f k a' b' c' d' f' k' s1 s2 rows false (some ⟨g,0,none⟩) mn mn):List Value).toArray) ?_ ?_
 ·intro wq Aa;go_simp
 refine aX 12 fun Kk hK=>?_;go_simp;have C1:=lB (⟨uB,⟨⟨a,b,c,d,f,k⟩,⟨a',b',c',d',f',k'⟩⟩,(s1,s2),rows,false,List.replicate mn M.t0⟩:M.Jb) (some ⟨g,0,none⟩) mn wm Qa.o Va.o (by rw[uS];exact Gb.o) Hb.o Sa (by omega);dsimp only[eN]at C1;rw[uS]at C1;refine C1.mono ?_;rintro e wn ⟨rfl,Ib,Kb,hH,hB,hF⟩;go_simp;have Ca:=Hd hH;have Lb:=Hd (Ra.o.trans hB);have Nb:=m8 Sa hB.size;refine hK.out _ _ (hF tb _ Ka Na.o) (fun _=>?_);clear hK Kk hH hB hF C1 Ka Qa Ra;refine bg ?_;go_simp;have y1:=Ca.o.l.c 1;have f1:=Ca.o.l.fr 1;have Ob:=Ca.o.l.set 1 (by simp) (it (uB+1));have Ta:=aU wn ⟨h,1,none⟩ (it (uB+1));have Pb:=Hd (Ca.o.head Ta Ob);have Qb:H9 (Below i' w (wn.setCell ⟨h,1,none⟩ (it (uB+1)))):=Lb.o.trans (ap Ta Nb (fun z e=>by rw[←m2 e];exact Ca.o.lo h (by simp[di])));go_wp2;exact m7 (v:=.tuple #[it 0,it uB]) (by simp[results,results93,go_sem]) rfl ⟨rfl,⟨_,_,_,_,_,_,_,_,Pb.o,(by rw[uX];rfl)⟩,Qb.o⟩
set_option maxRecDepth 10000 in
theorem j5(tr:Int)(w:World)(H:bh w i' h now uB ab nb cb bs ai ni ci mb qs)(R:M.Mt×Int×Int)(C:∀W,bh W i' h now uB ab nb cb bs ai ni ci mb qs→i'≤W.heap.size→m1 w W→Calls prog 94 #[.pointer (some ⟨h,0,none⟩),.agg #[.int .i64 tr]] W (fM W i' h R))(uy:i'≤w.heap.size):
  Calls prog 39 #[.pointer (some ⟨h,0,none⟩),.iface 115 (.agg #[.int .i64 tr])] w (fM w i' h R):=by
 have HB:H9 (m1 w (w.alloc (.cells #[it tr] 115))):=(m5 _ _).alloc (m3 _) _;have HC:=C (w.alloc (.cells #[it tr] 115)) (H.below HB.o) (m8 uy HB.o.size) HB.o;have Aa:=Hd (HB.o.mono uy);have Ba:(Instr.typeAssert (.iface 115 (.agg #[it tr])) 91 157 true).run prog w=.ok (.tuple #[.agg (eE 0 0 0 0 0 0 0 0 0 0 0 0 0 0 0 0).toArray,.bool false]) w:=(by kernel_rfl);have Ca:(Instr.typeAssert (.iface 115 (.agg #[it tr])) 91 115 true).run prog w=.ok (.tuple #[.agg #[it tr],.bool true]) w:=(by kernel_rfl);go_enter func39,ntmps39;(go_wp2_with fail);generalize(w.alloc (.cells #[it tr] 115))=wa at *;refine HC.mono ?_;rintro e wb ⟨rfl,h1,h2⟩;have H1:=Hd h1;have H2:=Hd (Aa.o.trans h2);clear h1 h2 HC;obtain⟨R1,R2,R3⟩:=R;dsimp only;go_wp2;exact m7 (v:=.tuple #[it R2,it R3]) (by simp[results,results39,go_sem]) rfl ⟨rfl,H1.o,H2.o⟩
set_option maxRecDepth 10000 in
theorem iT(id:Int)(w:World)(H:bh w i' h now uB ab nb cb bs ai ni ci mb qs)(R:M.Mt×Int×Int)(C:∀W,bh W i' h now uB ab nb cb bs ai ni ci mb qs→i'≤W.heap.size→m1 w W→Calls prog 95 #[.pointer (some ⟨h,0,none⟩),.agg #[.int .i64 id]] W (fM W i' h R))(uy:i'≤w.heap.size):
  Calls prog 39 #[.pointer (some ⟨h,0,none⟩),.iface 163 (.agg #[.int .i64 id])] w (fM w i' h R):=by
 have HB:H9 (m1 w (w.alloc (.cells #[it id] 163))):=(m5 _ _).alloc (m3 _) _;have HC:=C (w.alloc (.cells #[it id] 163)) (H.below HB.o) (m8 uy HB.o.size) HB.o;have Aa:=Hd (HB.o.mono uy);have Ba:(Instr.typeAssert (.iface 163 (.agg #[it id])) 91 157 true).run prog w=.ok (.tuple #[.agg (eE 0 0 0 0 0 0 0 0 0 0 0 0 0 0 0 0).toArray,.bool false]) w:=(by kernel_rfl);have Ca:(Instr.typeAssert (.iface 163 (.agg #[it id])) 91 115 true).run prog w=.ok (.tuple #[.agg #[it 0],.bool false]) w:=(by kernel_rfl);have Da:(Instr.typeAssert (.iface 163 (.agg #[it id])) 91 163 true).run prog w=.ok (.tuple #[.agg #[it id],.bool true]) w:=(by kernel_rfl);go_enter func39,ntmps39;(go_wp2_with fail);generalize(w.alloc (.cells #[it id] 163))=wa at *;refine HC.mono ?_;rintro e wb ⟨rfl,h1,h2⟩;have H1:=Hd h1;have H2:=Hd (Aa.o.trans h2);clear h1 h2 HC;obtain⟨R1,R2,R3⟩:=R;dsimp only;go_wp2;exact m7 (v:=.tuple #[it R2,it R3]) (by simp[results,results39,go_sem]) rfl ⟨rfl,H1.o,H2.o⟩
set_option maxRecDepth 10000 in
theorem jD(who:Int)(w:World)(H:bh w i' h now uB ab nb cb bs ai ni ci mb qs)(R:M.Mt×Int×Int)(C:∀W,bh W i' h now uB ab nb cb bs ai ni ci mb qs→i'≤W.heap.size→m1 w W→Calls prog 96 #[.pointer (some ⟨h,0,none⟩),.agg #[.int .i64 who]] W (fM W i' h R))(uy:i'≤w.heap.size):
  Calls prog 39 #[.pointer (some ⟨h,0,none⟩),.iface 159 (.agg #[.int .i64 who])] w (fM w i' h R):=by
 have HB:H9 (m1 w (w.alloc (.cells #[it who] 159))):=(m5 _ _).alloc (m3 _) _;have HC:=C (w.alloc (.cells #[it who] 159)) (H.below HB.o) (m8 uy HB.o.size) HB.o;have Aa:=Hd (HB.o.mono uy);have Ba:(Instr.typeAssert (.iface 159 (.agg #[it who])) 91 157 true).run prog w=.ok (.tuple #[.agg (eE 0 0 0 0 0 0 0 0 0 0 0 0 0 0 0 0).toArray,.bool false]) w:=(by kernel_rfl);have Ca:(Instr.typeAssert (.iface 159 (.agg #[it who])) 91 115 true).run prog w=.ok (.tuple #[.agg #[it 0],.bool false]) w:=(by kernel_rfl);have Da:(Instr.typeAssert (.iface 159 (.agg #[it who])) 91 163 true).run prog w=.ok (.tuple #[.agg #[it 0],.bool false]) w:=(by kernel_rfl);have Ea:(Instr.typeAssert (.iface 159 (.agg #[it who])) 91 159 true).run prog w=.ok (.tuple #[.agg #[it who],.bool true]) w:=(by kernel_rfl);go_enter func39,ntmps39;(go_wp2_with fail);generalize(w.alloc (.cells #[it who] 159))=wa at *;refine HC.mono ?_;rintro e wb ⟨rfl,h1,h2⟩;have H1:=Hd h1;have H2:=Hd (Aa.o.trans h2);clear h1 h2 HC;obtain⟨R1,R2,R3⟩:=R;dsimp only;go_wp2;exact m7 (v:=.tuple #[it R2,it R3]) (by simp[results,results39,go_sem]) rfl ⟨rfl,H1.o,H2.o⟩
set_option maxRecDepth 10000 in
theorem iU{a1 a2 a3 a4:Option Addr}{n1 n2 n3 n4 c1 c2 c3 c4:Nat}(who id s' p1 p2 p3 p4:Int)(w:World)(H:bh w i' h now uB ab nb cb bs ai ni ci mb qs)(R:M.Mt×Int×Int)(C:∀W,bh W i' h now uB ab nb cb bs ai ni ci mb qs→i'≤W.heap.size→m1 w W→Calls prog 97 #[.pointer (some ⟨h,0,none⟩),.agg (de who id s' p1 p2 p3 p4 a1 n1 c1 a2 n2 c2 a3 n3 c3 a4 n4 c4).toArray] W (fM W i' h R))(uy:i'≤w.heap.size):
  Calls prog 39 #[.pointer (some ⟨h,0,none⟩),.iface 161 (.agg (de who id s' p1 p2 p3 p4 a1 n1 c1 a2 n2 c2 a3 n3 c3 a4 n4 c4).toArray)] w (fM w i' h R):=by
 have HB:H9 (m1 w (w.alloc (.cells (de who id s' p1 p2 p3 p4 a1 n1 c1 a2 n2 c2 a3 n3 c3 a4 n4 c4).toArray 161))):=(m5 _ _).alloc (m3 _) _;have HC:=C (w.alloc (.cells (de who id s' p1 p2 p3 p4 a1 n1 c1 a2 n2 c2 a3 n3 c3 a4 n4 c4).toArray 161)) (H.below HB.o) (m8 uy HB.o.size) HB.o;have Aa:=Hd (HB.o.mono uy);have Ba:(Instr.typeAssert (.iface 161 (.agg (de who id s' p1 p2 p3 p4 a1 n1 c1 a2 n2 c2 a3 n3 c3 a4 n4 c4).toArray)) 91 157 true).run prog w=.ok (.tuple #[.agg (eE 0 0 0 0 0 0 0 0 0 0 0 0 0 0 0 0).toArray,.bool false]) w:=(by kernel_rfl);have Ca:(Instr.typeAssert (.iface 161 (.agg (de who id s' p1 p2 p3 p4 a1 n1 c1 a2 n2 c2 a3 n3 c3 a4 n4 c4).toArray)) 91 115 true).run prog w=.ok (.tuple #[.agg #[it 0],.bool false]) w:=(by kernel_rfl);have Da:(Instr.typeAssert (.iface 161 (.agg (de who id s' p1 p2 p3 p4 a1 n1 c1 a2 n2 c2 a3 n3 c3 a4 n4 c4).toArray)) 91 163 true).run prog w=.ok (.tuple #[.agg #[it 0],.bool false]) w:=(by kernel_rfl);have Ea:(Instr.typeAssert (.iface 161 (.agg (de who id s' p1 p2 p3 p4 a1 n1 c1 a2 n2 c2 a3 n3 c3 a4 n4 c4).toArray)) 91 159 true).run prog w=.ok (.tuple #[.agg #[it 0],.bool false]) w:=(by kernel_rfl);have Fa:(Instr.typeAssert (.iface 161 (.agg (de who id s' p1 p2 p3 p4 a1 n1 c1 a2 n2 c2 a3 n3 c3 a4 n4 c4).toArray)) 91 161 true).run prog w=.ok (.tuple #[.agg (de who id s' p1 p2 p3 p4 a1 n1 c1 a2 n2 c2 a3 n3 c3 a4 n4 c4).toArray,.bool true]) w:=(by kernel_rfl);go_enter func39,ntmps39;(go_wp2_with fail);generalize(w.alloc (.cells (de who id s' p1 p2 p3 p4 a1 n1 c1 a2 n2 c2 a3 n3 c3 a4 n4 c4).toArray 161))=wa at *;refine HC.mono ?_;rintro e wb ⟨rfl,h1,h2⟩;have H1:=Hd h1;have H2:=Hd (Aa.o.trans h2);clear h1 h2 HC;obtain⟨R1,R2,R3⟩:=R;dsimp only;go_wp2;exact m7 (v:=.tuple #[it R2,it R3]) (by simp[results,results39,go_sem]) rfl ⟨rfl,H1.o,H2.o⟩
set_option maxRecDepth 10000 in
theorem iV(m0 I J Q V T Y Z L U A B s1 s2 rows tr:Int)(w:World)(H:bh w i' h now uB ab nb cb bs ai ni ci mb qs)(R:M.Mt×Int×Int)(C:∀W,bh W i' h now uB ab nb cb bs ai ni ci mb qs→i'≤W.heap.size→m1 w W→Calls prog 93 #[.pointer (some ⟨h,0,none⟩),.agg (eE m0 I J Q V T Y Z L U A B s1 s2 rows tr).toArray] W (fM W i' h R))(uy:i'≤w.heap.size):
  Calls prog 39 #[.pointer (some ⟨h,0,none⟩),.iface 157 (.agg (eE m0 I J Q V T Y Z L U A B s1 s2 rows tr).toArray)] w (fM w i' h R):=by
 have HB:H9 (m1 w (w.alloc (.cells (eE m0 I J Q V T Y Z L U A B s1 s2 rows tr).toArray 157))):=(m5 _ _).alloc (m3 _) _;have HC:=C (w.alloc (.cells (eE m0 I J Q V T Y Z L U A B s1 s2 rows tr).toArray 157)) (H.below HB.o) (m8 uy HB.o.size) HB.o;have Aa:=Hd (HB.o.mono uy);have Ba:(Instr.typeAssert (.iface 157 (.agg (eE m0 I J Q V T Y Z L U A B s1 s2 rows tr).toArray)) 91 157 true).run prog w=.ok (.tuple #[.agg (eE m0 I J Q V T Y Z L U A B s1 s2 rows tr).toArray,.bool true]) w:=(by kernel_rfl);go_enter func39,ntmps39;(go_wp2_with fail);generalize(w.alloc (.cells (eE m0 I J Q V T Y Z L U A B s1 s2 rows tr).toArray 157))=wa at *;refine HC.mono ?_;rintro e wb ⟨rfl,h1,h2⟩;have H1:=Hd h1;have H2:=Hd (Aa.o.trans h2);clear h1 h2 HC;obtain⟨R1,R2,R3⟩:=R;dsimp only;go_wp2;exact m7 (v:=.tuple #[it R2,it R3]) (by simp[results,results39,go_sem]) rfl ⟨rfl,H1.o,H2.o⟩
end Go.Proofs.YtjcjonncaknhnaaGreatDoor
