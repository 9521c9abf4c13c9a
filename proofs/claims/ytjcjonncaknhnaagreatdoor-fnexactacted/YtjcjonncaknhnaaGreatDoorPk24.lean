import Derived.Test.YtjcjonncaknhnaaGreatDoorPk20
import Derived.Test.YtjcjonncaknhnaaGreatDoorPk23
namespace Go.Proofs.YtjcjonncaknhnaaGreatDoor
open Go.RowKit Go.Proofs.Tryz
set_option linter.unusedSimpArgs false
set_option maxHeartbeats 32000000
set_option maxRecDepth 10000
variable {now tj s' id who x p' l' te:Int}{bs:List Int}{s:Int×Int}{i i' n nb cb c nj cj:Nat}{w w':World}{v:Value}{ab aj:Option Addr}{qs:List MQ}{p:M.Pf}{bare non:Bool}{ad:Addr}{P:Program}{ops:Array Oper}{a:Act}{Q:Exit→Act→World→Prop}{o:Oper}{K:Act→World→Prop}{E:Prop}
namespace M
theorem jsGo_mk:∀{js:List Jb} {last:Int},(∀j∈js,last<j.id∧j.id<tj∧jbOk now j=true)→js.Pairwise (fun a b=>a.id<b.id)→jsGo now tj last js=true
 | [],_,_,_=>rfl
 | x::l,last,h,hp=>by
  obtain⟨h1,h2,h3⟩:=h x (by simp);rw[List.pairwise_cons]at hp;unfold jsGo;rw[decide_eq_true (show last+1≤x.id by omega),decide_eq_true (show x.id≤tj-1 by omega),h3,jsGo_mk (fun j hj=>⟨hp.1 j hj,(h j (by simp[hj])).2⟩) hp.2]
  rfl
theorem Right.ok{js:List Jb}(h:Right now tj bs js):mkOk now tj bs js=true:=by
 unfold mkOk;have h9:(wks js).any (fun x=>bs.contains x)=false:=(by rw[List.any_eq_false];intro x hx;rw[h.bd x hx];simp);rw[decide_eq_true h.now0,decide_eq_true h.now1,decide_eq_true h.next0,decide_eq_true h.next1,h.bn,decide_eq_true h.few,jsGo_mk h.job h.rise,decide_eq_true h.nd,h9]
 rfl
structure JOk(now:Int)(j:Jb):Prop where
 m:j.m.ok=true
 s:M.sOk j.s=true
 r:M.rows j.rows=true
 l1:1≤j.ts.length
 l8:j.ts.length≤8
 t:∀t∈j.ts,tkOk now t=true
 g:j.gone=true→(∀t∈j.ts,leased t=false)∧j.ts.all (·.done)=false
theorem jok_iff{j:Jb}:jbOk now j=true↔JOk now j:=by
 unfold jbOk;simp only[tZ,decide_eq_true_eq,List.all_eq_true,Bool.or_eq_true,Bool.not_eq_true',List.any_eq_false]
 constructor
 ·
  rintro⟨⟨a,b,c,d,e,f⟩,g⟩;exact⟨a,b,c,d,e,f,fun hg=>by rcases g with g | g;rw[hg]at g;simp at g;exact⟨fun t ht=>by simpa using g.1 t ht,g.2⟩⟩
 ·
  intro h;refine⟨⟨h.m,h.s,h.r,h.l1,h.l8,h.t⟩,?_⟩
  cases hg:j.gone with
  | false=>exact .inl rfl
  | true=>exact .inr ⟨fun t ht=>by simp[(h.g hg).1 t ht],(h.g hg).2⟩
theorem tk0_ok(now:Int):tkOk now t0=true:=by simp[tkOk,t0]
theorem wkT_free(f:Tk→Bool):∀ts:List Tk,(wkT (free f ts)).Sublist (wkT ts)
 | []=>List.Sublist.slnil
 | t::l=>by
  have ih:=wkT_free f l
  have e1:wkT (free f (t::l))=(if leased (if f t then t0 else t)then[(if f t then t0 else t).l']else[])++wkT (free f l):=by
   unfold wkT free;rw[List.map_cons,List.filter_cons];generalize(if f t=true then t0 else t)=u
   cases leased u <;> rfl
  have e2:wkT (t::l)=(if leased t then[t.l']else[])++wkT l:=by
   unfold wkT;rw[List.filter_cons]
   cases leased t <;> rfl
  rw[e1,e2];refine List.Sublist.append ?_ ih
  cases hf:f t with
  | true=>simp[leased,t0]
  | false=>simp
theorem wks_free(f:Tk→Bool):∀js:List Jb,(wks (js.map (freeJ f))).Sublist (wks js)
 | []=>List.Sublist.slnil
 | j::l=>by
  rw[List.map_cons,wks_cons,wks_cons];exact List.Sublist.append (wkT_free f j.ts) (wks_free f l)
theorem free_none{f:Tk→Bool}{ts:List Tk}(h:∀t∈ts,f t=false):free f ts=ts:=by
 unfold free
 conv=>rhs;rw[←List.map_id ts]
 exact List.map_congr_left fun t ht=>by simp[h t ht]
theorem mem_free{f:Tk→Bool}{ts:List Tk}{t:Tk}(h:t∈free f ts):t=t0∨(t∈ts∧f t=false):=by
 unfold free at h;obtain⟨x,hx,rfl⟩:=List.mem_map.1 h
 cases hf:f x with
 | true=>exact .inl (by simp)
 | false=>exact .inr (by simp[hx,hf])
theorem JOk.freed{now':Int}{j:Jb}(h:JOk now j)(f:Tk→Bool)(hl:∀t,f t=true→leased t=true)(ht:∀t∈j.ts,f t=false→tkOk now t=true→tkOk now' t=true):JOk now' (freeJ f j):=by
 refine⟨h.m,h.s,h.r,by show 1≤(free f j.ts).length;rw[free_len];exact h.l1,by show(free f j.ts).length≤8;rw[free_len];exact h.l8,fun t hm=>?_,fun hg=>?_⟩
 ·
  rcases mem_free hm with rfl | ⟨h1,h2⟩
  ·exact tk0_ok _
  ·exact ht t h1 h2 (h.t t h1)
 ·
  have hg':=h.g hg
  have e:free f j.ts=j.ts:=free_none fun t hm=>by
   cases hf:f t with
   | false=>rfl
   | true=>have:=hl t hf;rw[hg'.1 t hm]at this;simp at this
  show(∀t∈free f j.ts,leased t=false)∧(free f j.ts).all (·.done)=false;rw[e];exact hg'
theorem Right.jok{js:List Jb}(h:Right now tj bs js){j:Jb}(hj:j∈js):JOk now j:=jok_iff.1 (h.job j hj).2.2
theorem rise_map{f:Jb→Jb}(hf:∀j,(f j).id=j.id){js:List Jb}(h:js.Pairwise (fun a b=>a.id<b.id)):(js.map f).Pairwise (fun a b=>a.id<b.id):=by
 rw[List.pairwise_map];exact h.imp (fun hab=>by rw[hf,hf];exact hab)
theorem due_leased{t:Tk}(h:dueT now t=true):leased t=true:=by unfold dueT at h;rw[tZ]at h;exact h.1
theorem tick_right{m:Mt}(h:Right m.now m.next m.bs m.js)(h1:1≤s'):Right (tick m s').1.now (tick m s').1.next (tick m s').1.bs (tick m s').1.js:=by
 have hn:m.now≤tickN m.now s':=(by unfold tickN;have:=h.now1;split <;> omega);have Aa:tickN m.now s'≤1000000000:=(by unfold tickN;split <;> omega);refine⟨Int.le_trans h.now0 hn,Aa,h.next0,h.next1,by show(m.js.map _).length≤6;rw[List.length_map];exact h.few,h.bn,fun j hj=>?_,rise_map (f:=freeJ (dueT (tickN m.now s'))) (fun _=>rfl) h.rise,(wks_free _ _).nodup h.nd,fun x hx=>h.bd x ((wks_free _ _).subset hx)⟩;obtain⟨x,hx,rfl⟩:=List.mem_map.1 hj;refine⟨(h.job x hx).1,(h.job x hx).2.1,jok_iff.2 ((h.jok hx).freed _ (fun t ht=>due_leased ht) fun t _ hf ht=>?_)⟩;show tkOk (tickN m.now s') t=true;unfold tkOk at ht ⊢;by_cases hw:t.l'=0
 ·
  simp only[hw,decide_true,Bool.true_and]at ht ⊢;by_cases hd:t.due=0
  ·simp[hd]
  ·simp[hd,wkOk]at ht
 ·
  simp only[hw,decide_false,Bool.false_and,Bool.false_or,tZ,decide_eq_true_eq]at ht ⊢;unfold dueT leased at hf;simp only[hw,ne_eq,not_false_eq_true,decide_true,Bool.true_and,decide_eq_false_iff_not]at hf;exact⟨ht.1,ht.2.1,by omega,by omega⟩
theorem wkT_rep(n:Nat):wkT (List.replicate n t0)=[]:=by
 unfold wkT;rw[List.map_eq_nil_iff,List.filter_eq_nil_iff];intro t ht;rw[(List.mem_replicate.1 ht).2];simp[leased,t0]
theorem submit_right{m:Mt}{mc:Mc}{rows:Int}(h:Right m.now m.next m.bs m.js)(hm:mc.ok=true)(hs:M.sOk s=true)(hr:M.rows rows=true)(h1:1≤s')(h8:s'≤8):Right (submit m mc s rows s').1.now (submit m mc s rows s').1.next (submit m mc s rows s').1.bs (submit m mc s rows s').1.js:=by
 unfold submit
 split
 ·exact h
 ·
  rename_i hc;simp only[Bool.or_eq_true,decide_eq_true_eq,not_or]at hc;have hf:=h.few;have hn:=h.next1;have hw:wks (m.js++[⟨m.next,mc,s,rows,false,List.replicate s'.toNat t0⟩])=wks m.js:=(by unfold wks;rw[List.flatMap_append];simp[wkT_rep]);refine⟨h.now0,h.now1,by show 1≤m.next+1;have:=h.next0;omega,by show m.next+1≤_;omega,by show(m.js++_).length≤6;rw[t7,List.length_singleton];omega,h.bn,fun j hj=>?_,?_,by show(wks (m.js++_)).Nodup;rw[hw];exact h.nd,fun x hx=>h.bd x (by have hx':x∈wks (m.js++[⟨m.next,mc,s,rows,false,List.replicate s'.toNat t0⟩]):=hx;rwa[hw]at hx')⟩
  ·
   rcases tI.1 hj with hj | hj
   ·
    obtain⟨a,b,c⟩:=h.job j hj;exact⟨a,by show j.id<m.next+1;omega,c⟩
   ·
    simp only[List.mem_singleton]at hj;subst hj;refine⟨by show 0<m.next;have:=h.next0;omega,by show m.next<m.next+1;omega,jok_iff.2 ⟨hm,hs,hr,by show 1≤(List.replicate s'.toNat t0).length;rw[tX];omega,by show(List.replicate s'.toNat t0).length≤8;rw[tX];omega,fun t ht=>?_,fun hg=>by simp at hg⟩⟩;rw[(List.mem_replicate.1 ht).2];exact tk0_ok _
  ·
   rw[List.pairwise_append];refine⟨h.rise,by simp,fun a ha b hb=>?_⟩;simp only[List.mem_singleton]at hb;subst hb;exact(h.job a ha).2.1
theorem rise_set{js:List Jb}{j:Jb}(hi:i<js.length)(he:j.id=(js.getD i j0).id)(h:js.Pairwise (fun a b=>a.id<b.id)):(js.set i j).Pairwise (fun a b=>a.id<b.id):=by
 have e:(js.set i j).map (·.id)=js.map (·.id):=by
  rw[List.map_set,he];have e2:(js.getD i j0).id=(js.map (·.id))[i]'(by simpa using hi):=(by rw[List.getElem_map,tu,tw hi];rfl);rw[e2,List.set_getElem_self]
 have h2:(js.map (·.id)).Pairwise (·< ·):=(by rw[List.pairwise_map];exact h);rw[←e,List.pairwise_map]at h2;exact h2
theorem mem_setJ{js:List Jb}{j x:Jb}(h:x∈js.set i j):x=j∨x∈js:=(List.mem_or_eq_of_mem_set h).symm
theorem wks_set:∀{js:List Jb} {i:Nat} {j:Jb},i<js.length→∃a b,wks js=a++(wkT (js.getD i j0).ts++b)∧wks (js.set i j)=a++(wkT j.ts++b)
 | [],_,_,h=>by simp at h
 | x::l,0,j,_=>⟨[],wks l,by rw[wks_cons];rfl,by rw[List.set_cons_zero,wks_cons];rfl⟩
 | x::l,i+1,j,h=>by
  obtain⟨a,b,h1,h2⟩:=wks_set (js:=l) (i:=i) (j:=j) (by simpa using h);exact⟨wkT x.ts++a,b,by rw[wks_cons,h1,List.append_assoc];rfl,by rw[List.set_cons_succ,wks_cons,h2,List.append_assoc]⟩
theorem jobAt_lt{js:List Jb}(h:¬ jobAt id 0 js<0):(jobAt id 0 js).toNat<js.length∧jobOf id js∈js∧(jobOf id js).id=id:=by
 obtain⟨i,h1,h2,h3⟩:=jobAt_some id js 0 (by omega);have e:(jobAt id 0 js).toNat=i:=(by rw[h2];simp);refine⟨by omega,?_,?_⟩ <;> unfold jobOf <;> rw[e]
 ·exact getD_mem h1
 ·exact h3
theorem cancel_right{m:Mt}(h:Right m.now m.next m.bs m.js):Right (cancel m id).1.now (cancel m id).1.next (cancel m id).1.bs (cancel m id).1.js:=by
 unfold cancel
 split
 ·exact h
 ·
  rename_i Da;obtain⟨hi,Aa,_⟩:=jobAt_lt Da
  split
  ·exact h
  ·
   rename_i hc;simp only[Bool.or_eq_true,not_or]at hc;obtain⟨wa,wb,e1,e2⟩:=wks_set (js:=m.js) (i:=(jobAt id 0 m.js).toNat) (j:={freeJ leased (jobOf id m.js)with gone:=true}) hi
   have Ba:(wks (m.js.set (jobAt id 0 m.js).toNat {freeJ leased (jobOf id m.js)with gone:=true})).Sublist (wks m.js):=by
    rw[e1,e2];exact List.Sublist.append (List.Sublist.refl _) (List.Sublist.append (wkT_free _ _) (List.Sublist.refl _))
   refine⟨h.now0,h.now1,h.next0,h.next1,by show(m.js.set _ _).length≤6;rw[List.length_set];exact h.few,h.bn,fun j hj=>?_,rise_set hi rfl h.rise,Ba.nodup h.nd,fun x hx=>h.bd x (Ba.subset hx)⟩
   rcases mem_setJ hj with rfl | hj
   ·
    refine⟨(h.job _ Aa).1,(h.job _ Aa).2.1,jok_iff.2 ?_⟩;have hj:=(h.jok Aa).freed (now':=m.now) leased (fun t ht=>ht) (fun t _ _ ht=>ht);refine⟨hj.m,hj.s,hj.r,hj.l1,hj.l8,hj.t,fun _=>⟨fun t ht=>?_,?_⟩⟩
    ·
     rcases mem_free ht with rfl | ⟨_,h2⟩
     ·simp[leased,t0]
     ·exact h2
    ·
     show(free leased (jobOf id m.js).ts).all (·.done)=false;have Ca:(jobOf id m.js).ts.all (·.done)=false:=(by simpa using hc.2);rw[List.all_eq_false]at Ca ⊢;obtain⟨t,ht,hd⟩:=Ca;refine⟨if leased t then t0 else t,List.mem_map.2 ⟨t,ht,rfl⟩,?_⟩
     split
     ·simp[t0]
     ·exact hd
   ·exact h.job j hj
theorem place_some:∀{js:List Jb} {i a b:Nat},place i js=some (a,b)→∃n,a=i+n∧n<js.length∧openP (js.getD n j0)=some b
 | [],_,_,_,h=>by simp[place]at h
 | j::l,i,a,b,h=>by
  have e:place i (j::l)=(match openP j with | some k=>some (i,k) | none=>place (i+1) l):=rfl
  rw[e]at h
  cases ho:openP j with
  | some k=>
   rw[ho]at h;simp only[Option.some.injEq,Prod.mk.injEq]at h;exact⟨0,by omega,by simp,by rw[←h.2];exact ho⟩
  | none=>
   rw[ho]at h;obtain⟨n,h1,h2,h3⟩:=place_some h;exact⟨n+1,by omega,by simpa using h2,h3⟩
theorem open_some{j:Jb}{b:Nat}(h:openP j=some b):j.gone=false∧b<j.ts.length∧isFree (j.ts.getD b t0)=true:=by
 unfold openP at h
 cases hg:j.gone with
 | true=>rw[hg]at h;simp at h
 | false=>
  rw[hg]at h;simp only[Bool.false_eq_true,if_false]at h;rw[List.findIdx?_eq_some_iff_getElem]at h;obtain⟨h1,h2,_⟩:=h;exact⟨rfl,h1,by rw[tu,tw h1];exact h2⟩
theorem wkT_app(t:Tk)(l:List Tk):wkT (t::l)=(if leased t then[t.l']else[])++wkT l:=by
 unfold wkT;rw[List.filter_cons]
 cases leased t <;> rfl
theorem wkT_set_in{t:Tk}(ht:leased t=true):∀{ts:List Tk} {k:Nat},k<ts.length→leased (ts.getD k t0)=false→(wkT (ts.set k t)).Perm (t.l'::wkT ts)
 | [],_,h,_=>by simp at h
 | x::l,0,_,hx=>by
  have hx':leased x=false:=hx;rw[List.set_cons_zero,wkT_app,wkT_app,ht,hx'];exact List.Perm.refl _
 | x::l,k+1,h,hx=>by
  have ih:=wkT_set_in ht (ts:=l) (k:=k) (by simpa using h) hx;rw[List.set_cons_succ,wkT_app,wkT_app];exact(ih.append_left _).trans (List.perm_middle)
theorem wkT_set_out{t:Tk}(ht:leased t=false):∀{ts:List Tk} {k:Nat},(wkT (ts.set k t)).Sublist (wkT ts)
 | [],_=>by simp
 | x::l,0=>by
  rw[List.set_cons_zero,wkT_app,wkT_app,ht];exact List.sublist_append_right _ _
 | x::l,k+1=>by
  rw[List.set_cons_succ,wkT_app,wkT_app];exact(List.Sublist.refl _).append (wkT_set_out ht)
theorem JOk.set{j:Jb}(h:JOk now j)(hg:j.gone=false){t:Tk}(ht:tkOk now t=true)(k:Nat):JOk now {j with ts:=j.ts.set k t}:=
 ⟨h.m,h.s,h.r,by show 1≤(j.ts.set k t).length;rw[List.length_set];exact h.l1,by show(j.ts.set k t).length≤8;rw[List.length_set];exact h.l8,fun x hx=>by rcases List.mem_or_eq_of_mem_set hx with hx | rfl;exact h.t x hx;exact ht,fun hg'=>by have:j.gone=true:=hg';rw[hg]at this;simp at this⟩
theorem lease_right{m:Mt}(h:Right m.now m.next m.bs m.js)(hw:wkOk who=true):Right (lease m who).1.now (lease m who).1.next (lease m who).1.bs (lease m who).1.js:=by
 unfold lease
 split
 ·exact h
 ·
  rename_i hb
  split
  ·exact h
  ·
   rename_i Ea
   cases hp:place 0 m.js with
   | none=>exact h
   | some x=>
    obtain⟨i,k⟩:=x;obtain⟨n,hn,Aa,ho⟩:=place_some hp;obtain rfl:i=n:=by omega
    obtain⟨hg,hk,hf⟩:=open_some ho;have Ba:m.js.getD i j0∈m.js:=getD_mem Aa;have Ca:who≠0:=fun e=>by rw[e]at hw;simp[wkOk]at hw
    have hl:leased (⟨false,who,m.now+5⟩:Tk)=true:=(by simp[leased,Ca]);have Fa:leased ((m.js.getD i j0).ts.getD k t0)=false:=by unfold isFree at hf;rw[tZ]at hf;simpa using hf.2
    have Ga:tkOk m.now ⟨false,who,m.now+5⟩=true:=by
     unfold tkOk;simp only[Ca,decide_false,Bool.false_and,Bool.false_or,Bool.not_false,Bool.true_and,hw];simp
    have Ha:who∉wks m.js:=fun hx=>by
     obtain⟨j,hj,t,ht,e⟩:=(mem_wks Ca).1 hx;apply Ea;rw[List.any_eq_true];exact⟨j,hj,by rw[List.any_eq_true];exact⟨t,ht,by simp[mineT,e]⟩⟩
    obtain⟨wa,wb,e1,e2⟩:=wks_set (js:=m.js) (i:=i) (j:={m.js.getD i j0 with ts:=(m.js.getD i j0).ts.set k ⟨false,who,m.now+5⟩}) Aa
    have Da:(wks (setT m.js i k ⟨false,who,m.now+5⟩)).Perm (who::wks m.js):=by
     unfold setT;rw[e1,e2];refine(List.Perm.append_left wa ((wkT_set_in hl hk Fa).append_right wb)).trans ?_;exact List.perm_middle
    refine⟨h.now0,h.now1,h.next0,h.next1,by show(setT _ _ _ _).length≤6;unfold setT;rw[List.length_set];exact h.few,h.bn,fun j hj=>?_,?_,?_,fun x hx=>?_⟩
    ·
     have hj':j∈m.js.set i {m.js.getD i j0 with ts:=(m.js.getD i j0).ts.set k ⟨false,who,m.now+5⟩}:=hj
     rcases mem_setJ hj' with rfl | hj'
     ·exact⟨(h.job _ Ba).1,(h.job _ Ba).2.1,jok_iff.2 ((h.jok Ba).set hg Ga k)⟩
     ·exact h.job j hj'
    ·exact rise_set Aa rfl h.rise
    ·exact Da.nodup_iff.2 (List.nodup_cons.2 ⟨Ha,h.nd⟩)
    ·
     have hx':=Da.mem_iff.1 hx
     rcases List.mem_cons.1 hx' with rfl | hx'
     ·simpa using hb
     ·exact h.bd x hx'
theorem wks_pos{js:List Jb}(h:x∈wks js):x≠0:=by
 unfold wks wkT at h;obtain⟨j,_,hx⟩:=tU.1 h;obtain⟨t,ht,rfl⟩:=List.mem_map.1 hx;have:=(List.mem_filter.1 ht).2;simpa[leased]using this
theorem bn_mk:∀{bs:List Int} {last:Int},(∀x∈bs,last<x∧wkOk x=true)→bs.Pairwise (·< ·)→bnGo last bs=true
 | [],_,_,_=>rfl
 | y::l,last,h,hp=>by
  rw[List.pairwise_cons]at hp;obtain⟨h1,h2⟩:=h y (by simp);unfold bnGo;rw[decide_eq_true h1,h2,bn_mk (fun x hx=>⟨hp.1 x hx,(h x (by simp[hx])).2⟩) hp.2]
  rfl
theorem back_right{g:Jb→Bool}{m:Mt}(h:Right m.now m.next m.bs m.js)(hw:wkOk who=true)(hp:0≤p'):Right (back g m who id p').1.now (back g m who id p').1.next (back g m who id p').1.bs (back g m who id p').1.js:=by
 have Ca:who≠0:=fun e=>by rw[e]at hw;simp[wkOk]at hw
 unfold back
 split
 ·exact h
 ·
  split
  ·exact h
  ·
   rename_i hc;simp only[Bool.or_eq_true,decide_eq_true_eq,not_or]at hc;obtain⟨hi,Ba,_⟩:=jobAt_lt hc.1
   split
   ·exact h
   ·
    rename_i Ea;have hwk':((jobOf id m.js).ts.getD p'.toNat t0).l'=who:=(by simpa using Ea);have Fa:p'.toNat<(jobOf id m.js).ts.length:=(by omega);have Ga:leased ((jobOf id m.js).ts.getD p'.toNat t0)=true:=by unfold leased;rw[hwk'];exact decide_eq_true Ca
    split
    ·
     have Aa:=wks_free (mineT who) m.js
     have Ha:∀x∈wks (m.js.map (freeJ (mineT who))),x≠who:=fun x hx e=>by
      obtain⟨j,hj,t,ht,e2⟩:=(mem_wks (wks_pos hx)).1 hx;obtain⟨j',_,rfl⟩:=List.mem_map.1 hj
      rcases mem_free ht with rfl | ⟨_,h2⟩
      ·exact wks_pos hx e2.symm
      ·simp[mineT]at h2;exact h2 (e2.trans e)
     refine⟨h.now0,h.now1,h.next0,h.next1,by show(m.js.map _).length≤6;rw[List.length_map];exact h.few,?_,fun j hj=>?_,rise_map (f:=freeJ (mineT who)) (fun _=>rfl) h.rise,Aa.nodup h.nd,fun x hx=>?_⟩
     ·
      refine bn_mk (fun x hx=>?_) (banned_pw _ _);have:=(mem_banned.1 hx).1;exact⟨by unfold wkOk at this;simp at this;omega,this⟩
     ·
      obtain⟨x,hx,rfl⟩:=List.mem_map.1 hj;exact⟨(h.job x hx).1,(h.job x hx).2.1,jok_iff.2 ((h.jok hx).freed _ (fun t ht=>by simp[mineT]at ht;simp[leased,ht,Ca]) (fun t _ _ ht=>ht))⟩
     ·
      have h1:=h.bd x (Aa.subset hx);have h2:=Ha x hx;show(banned m.bs who).contains x=false;rw[Bool.eq_false_iff];intro Da;rw[List.contains_iff_mem]at Da
      rcases(mem_banned.1 Da).2 with e | e
      ·exact h2 e
      ·rw[←List.contains_iff_mem,h1]at e;simp at e
    ·
     have hg:(jobOf id m.js).gone=false:=by
      cases hgg:(jobOf id m.js).gone with
      | false=>rfl
      | true=>have:=((h.jok Ba).g hgg).1 _ (getD_mem (d:=t0) Fa);rw[Ga]at this;simp at this
     obtain⟨wa,wb,e1,e2⟩:=wks_set (js:=m.js) (i:=(jobAt id 0 m.js).toNat) (j:={jobOf id m.js with ts:=(jobOf id m.js).ts.set p'.toNat ⟨true,0,0⟩}) hi
     have Aa:(wks (setT m.js (jobAt id 0 m.js).toNat p'.toNat ⟨true,0,0⟩)).Sublist (wks m.js):=by
      unfold setT;rw[show m.js.getD (jobAt id 0 m.js).toNat j0=jobOf id m.js from rfl,e2,e1];exact List.Sublist.append (List.Sublist.refl _) (List.Sublist.append (wkT_set_out (by simp[leased])) (List.Sublist.refl _))
     refine⟨h.now0,h.now1,h.next0,h.next1,by show(setT _ _ _ _).length≤6;unfold setT;rw[List.length_set];exact h.few,h.bn,fun j hj=>?_,rise_set hi rfl h.rise,Aa.nodup h.nd,fun x hx=>h.bd x (Aa.subset hx)⟩;have hj':j∈m.js.set (jobAt id 0 m.js).toNat {jobOf id m.js with ts:=(jobOf id m.js).ts.set p'.toNat ⟨true,0,0⟩}:=hj
     rcases mem_setJ hj' with rfl | hj'
     ·exact⟨(h.job _ Ba).1,(h.job _ Ba).2.1,jok_iff.2 ((h.jok Ba).set hg (by simp[tkOk]) _)⟩
     ·exact h.job j hj'
end M
namespace M
def accO(i k:Nat)(gone:Bool)(ts:List Tk):Option (Nat×Nat)→Option (Nat×Nat)
 | some x=>some x
 | none=>if gone then none else(ts.findIdx? isFree).map fun m=>(i,k+m)
theorem free_eq(t:Tk):isFree t=(!t.done&&decide (t.l'=0)):=by
 unfold isFree leased;by_cases h:t.l'=0 <;> simp[h]
theorem scT_eq(who:Int)(gone:Bool)(i:Nat):∀(ts:List Tk) (k:Nat) (acc:Option (Nat×Nat)),scT who gone i k acc ts=if ts.any (mineT who)then none else some (accO i k gone ts acc)
 | [],k,acc=>by cases acc <;> cases gone <;> rfl
 | t::l,k,acc=>by
  unfold scT;by_cases hw:t.l'=who
  ·rw[if_pos hw];simp[mineT,hw]
  ·
   rw[if_neg hw,scT_eq who gone i l (k+1),List.any_cons,show mineT who t=false by simp[mineT,hw],Bool.false_or];by_cases ha:l.any (mineT who)=true
   ·rw[if_pos ha,if_pos ha]
   ·
    rw[if_neg ha,if_neg ha]
    congr 1
    cases acc with
    | some x=>rfl
    | none=>
     cases gone with
     | true=>rfl
     | false=>
      simp only[Option.isNone_none,Bool.true_and,Bool.not_false,←free_eq];unfold accO;rw[List.findIdx?_cons]
      cases hf:isFree t with
      | true=>simp
      | false=>
       simp only[Bool.false_eq_true,if_false,Option.map_map]
       cases l.findIdx? isFree with
       | none=>rfl
       | some m=>simp;omega
theorem scJ_eq(who:Int):∀(js:List Jb) (i:Nat) (acc:Option (Nat×Nat)),scJ who i acc js=if js.any (fun j=>j.ts.any (mineT who))then none else some (match acc with | some x=>some x | none=>place i js)
 | [],i,acc=>by cases acc <;> rfl
 | j::l,i,acc=>by
  unfold scJ;rw[scT_eq,List.any_cons];by_cases ha:j.ts.any (mineT who)=true
  ·rw[if_pos ha,ha];rfl
  ·
   rw[if_neg ha];have hf:j.ts.any (mineT who)=false:=(by simpa using ha);rw[hf,Bool.false_or];show scJ who (i+1) (accO i 0 j.gone j.ts acc) l=_;rw[scJ_eq who l (i+1)];by_cases hb:l.any (fun j=>j.ts.any (mineT who))=true
   ·rw[if_pos hb,if_pos hb]
   ·
    rw[if_neg hb,if_neg hb]
    congr 1
    cases acc with
    | some x=>rfl
    | none=>
     have e:place i (j::l)=(match openP j with | some k=>some (i,k) | none=>place (i+1) l):=rfl
     rw[e];unfold openP accO;generalize place (i+1) l=pl
     cases j.gone with
     | true=>rfl
     | false=>
      simp only[Bool.false_eq_true,if_false]
      cases j.ts.findIdx? isFree with
      | none=>rfl
      | some m=>simp
end M
def lq(bs:List Int)(who:Int)(q:Nat):List Int:=(([1,2,3,4,5,6,7,8,9]:List Int).take (q-1)).filter fun x=>x==who||bs.contains x
theorem rY(bs:List Int)(who:Int)(q:Nat):(lq bs who q).length≤9:=by
 unfold lq;refine tB (List.length_filter_le _ _) ?_;rw[ua];simp;omega
theorem rk(bs:List Int)(who:Int){q:Nat}(h1:1≤q)(h9:q≤9):lq bs who (q+1)=lq bs who q++(if((q:Int)==who||bs.contains (q:Int))=true then[(q:Int)]else[]):=by
 have e:([1,2,3,4,5,6,7,8,9]:List Int).take (q+1-1)=([1,2,3,4,5,6,7,8,9]:List Int).take (q-1)++[(q:Int)]:=by
  rcases(by omega:q=1∨q=2∨q=3∨q=4∨q=5∨q=6∨q=7∨q=8∨q=9)with rfl | rfl | rfl | rfl | rfl | rfl | rfl | rfl | rfl <;> rfl
 unfold lq;rw[e,List.filter_append]
 congr 1
 unfold List.filter
 cases h:((q:Int)==who||bs.contains (q:Int)) <;> rfl
theorem da{base':Nat}{e:TypeId}{size:Nat}{xs:List Value}(h:w.ownsRow i' e size v n xs)(hb:base'≤i'):w.ownsRow base' e size v n xs:=
 ⟨h.1,h.2.imp id fun⟨g,cap,cur,h1,h2,h3⟩=>⟨g,cap,cur,h1,tB hb h2,h3⟩⟩
theorem aF.ban{b2:Nat}{al:Option Addr}{xs:List Int}(H:aF w i' ab nb cb bs aj nj cj qs)(ho:ar 2 w b2 al n c xs)(hb:i'≤b2)(hl:∀g∈bj ab aj qs,g<b2):aF w i' al n c xs aj nj cj qs:=by
 refine⟨da ho hb,H.jl,H.j,H.t,?_⟩;have hd:=bK.1 H.d;refine bK.2 ⟨fun g hg=>?_,hd.2.1,hd.2.2⟩;have h2:=(tJ ho g (bL hg)).1
 constructor
 ·
  intro h;have:=hl g (by unfold bj;simp[h]);omega
 ·
  intro h;have:=hl g (by unfold bj;rw[tI,tI];exact .inr (.inr h));omega
theorem ex:eE.p1∧eE.p2∧eE.p3∧eE.p4:=by
 refine⟨?tax,?tbx,?tcx,?tdx⟩
 case' tax=>(intro i' ab nb cb nj cj bs qs now tj te id l' s' m0 m1 m2 m3 m4 m5 m6 m7 m8 m9 m10 m11 t1 t2 p1 p2 p3 p4 a1 a2 a3 a4 n1 n2 n3 n4 c1 c2 c3 c4 z1 z2 z3 z4 w tf l1 l2 l3 l4 hjl bnj hcj wa wb i hi rt1z1 HAT gj HLT tn hbt tc hbc HJO hiI hi0 gneg hnn rt2z1 rt2z2 rt2z3 jid jr jg tl a b c' d f k a' b' c'' d' f' k' s1 s2 HCQ HTL HJ2 P hp0 hp7 rt1z2 gp hPt g HTN hpt w2 jb x HX hPI hP0 HNO HWK rt2z4 gx HXW w3 nr hr16 oa rt2z5 rt2z6 rt2z7 rt2z8 wd0 hHeld HX0 wd9 hS1 HX1 rt2z9 HBAD HA_5 HV_5 HZ_5 HB_5 S1_5 S2_5 S3_5 S4_5 HG_5 HJ_5;clear hHeld HX0 hS1 HX1)
 case' tbx=>(intro i' ab nb cb nj cj bs qs now tj te id l' s' m0 m1 m2 m3 m4 m5 m6 m7 m8 m9 m10 m11 t1 t2 p1 p2 p3 p4 a1 a2 a3 a4 n1 n2 n3 n4 c1 c2 c3 c4 z1 z2 z3 z4 w tf l1 l2 l3 l4 hjl bnj hcj wa wb i hi rt1z1 HAT gj HLT tn hbt tc hbc HJO hiI hi0 gneg hnn rt3z1 rt3z2 rt3z3 jid jr jg tl a b c' d f k a' b' c'' d' f' k' s1 s2 HCQ HTL HJ2 P hp0 hp7 rt1z2 gp hPt g HTN hpt w2 jb x HX hPI hP0 HNO HWK rt3z4 gx HXW w3 nr hr16 oa rt3z5 rt3z6 rt3z7 rt3z8 wd0 hHeld HX0 wd1 hS1 HX1 rt3z9 hjr0 hjr1 u v wd9 hS2 HX2 rt3z10 HBAD HA_5 HV_5 HZ_5 HB_5 S1_5 S2_5 S3_5 S4_5 HG_5 HJ_5;clear hHeld HX0 hS1 HX1 hS2 HX2)
 case' tcx=>(intro i' ab nb cb nj cj bs qs now tj te id l' s' m0 m1 m2 m3 m4 m5 m6 m7 m8 m9 m10 m11 t1 t2 p1 p2 p3 p4 a1 a2 a3 a4 n1 n2 n3 n4 c1 c2 c3 c4 z1 z2 z3 z4 w tf l1 l2 l3 l4 hjl bnj hcj wa wb i hi rt1z1 HAT gj HLT tn hbt tc hbc HJO hiI hi0 gneg hnn rt4z1 rt4z2 rt4z3 jid jr jg tl a b c' d f k a' b' c'' d' f' k' s1 s2 HCQ HTL HJ2 P hp0 hp7 rt1z2 gp hPt g HTN hpt w2 jb x HX hPI hP0 HNO HWK rt4z4 gx HXW w3 nr hr16 oa rt4z5 rt4z6 rt4z7 rt4z8 wd0 hHeld HX0 wd1 hS1 HX1 rt4z9 hjr0 hjr1 u v wd9 hS2 HX2 rt4z10 HBAD HA_5 HV_5 HZ_5 HB_5 S1_5 S2_5 S3_5 S4_5 HG_5 HJ_5;clear hHeld HX0 hS1 HX1 hS2 HX2)
 case' tdx=>(intro i' ab nb cb nj cj bs qs now tj te id l' s' m0 m1 m2 m3 m4 m5 m6 m7 m8 m9 m10 m11 t1 t2 p1 p2 p3 p4 a1 a2 a3 a4 n1 n2 n3 n4 c1 c2 c3 c4 z1 z2 z3 z4 w tf l1 l2 l3 l4 hjl bnj hcj wa wb i hi rt1z1 HAT gj HLT tn hbt tc hbc HJO hiI hi0 gneg hnn rt5z1 rt5z2 rt5z3 jid jr jg tl a b c' d f k a' b' c'' d' f' k' s1 s2 HCQ HTL HJ2 P hp0 hp7 rt1z2 gp hPt g HTN hpt w2 jb x HX hPI hP0 HNO HWK rt5z4 gx HXW w3 nr hr16 rt5z5 rt5z6 rt5z7 rt5z8 wd0 hHeld HX0 wd1 hS1 HX1 rt5z9 hjr0 hjr1 u v wd2 hS2 HX2 rt5z10 wd9 hS3 HX3 rt5z11 HBAD HA_5 HV_5 HZ_5 HB_5 S1_5 S2_5 S3_5 S4_5 HG_5 HJ_5;clear hHeld HX0 hS1 HX1 hS2 HX2 hS3 HX3)
 all_goals
  have Zb:=HA_5.o.c 0;have Ac:=HA_5.o.c 1;have Lb:=HA_5.o.c 2;have Bc:=HA_5.o.c 3;have Fd:=HV_5.o.c 3;(go_wp2_with fail);have Cc:i'≤wd9.heap.size:=tB tf HB_5.o.size;refine(gC now tj l' _ HG_5.o Cc).mono ?_;rintro e w4 ⟨rfl,Dc,Va,Ec⟩;have Da:H9 (ae w4 w.heap.size (au now tj ab nb cb (some ⟨gj,0,none⟩) nj cj)):=Va _ _ HA_5.o (fun e=>by have:=HLT.o _ e;omega);have Nb:H9 (ae w4 (w.heap.size+1) (bE te id (P:Nat) l' s' m0 m1 m2 m3 m4 m5 m6 m7 m8 m9 m10 m11 t1 t2 p1 p2 p3 p4 a1 n1 c1 a2 n2 c2 a3 n3 c3 a4 n4 c4)):=Va _ _ HV_5.o (fun e=>by have:=HLT.o _ e;omega);have Wa:H9 (ae w4 (w.heap.size+1+1) be):=Va _ _ HZ_5.o (fun e=>by have:=HLT.o _ e;omega);have Ob:=Hd (Dc);have Qa:H9 (Below i' w w4):=(HB_5.o.mono tf).trans Ec;have Ba:=Hd (Wa.o.2.2);have Fc:=Hd (Qa.o.size);have o0:=Da.o.c 0;have Gd:=Da.o.fr 0;have o1:=Da.o.c 1;have Id:=Da.o.fr 1;have o2:=Da.o.c 2;have Jd:=Da.o.fr 2;have o3:=Da.o.c 3;have Kd:=Da.o.fr 3;(go_wp2_with fail);have Gc:bj ab (some ⟨gj,0,none⟩) (qs.map fun q=>(M.freeJ (bi now l') q.1,q.2))=bj ab (some ⟨gj,0,none⟩) qs:=(by simp[bj,List.flatMap_map]);have Ja:=Hd (Gc);have Pb:=dv w4 w.heap.size 0 (au now tj ab nb cb (some ⟨gj,0,none⟩) nj cj);have Ha:w4.grownBy ((w4.setCells w.heap.size 0 (au now tj ab nb cb (some ⟨gj,0,none⟩) nj cj)).alloc (.cells #[] 2)) (some w.heap.size):=Pb.trans (tO _ _ _);have Xa:(w4.setCells w.heap.size 0 (au now tj ab nb cb (some ⟨gj,0,none⟩) nj cj)).heap.size=w4.heap.size:=(by simp[World.setCells]);have Hc:H9 (ae ((w4.setCells w.heap.size 0 (au now tj ab nb cb (some ⟨gj,0,none⟩) nj cj)).alloc (.cells #[] 2)) w.heap.size (au now tj ab nb cb (some ⟨gj,0,none⟩) nj cj)):=(Da.o.setCells (au now tj ab nb cb (some ⟨gj,0,none⟩) nj cj) 0 (by simp)).alloc _;have Ic:=Hd (Nb.o.grown Ha (by simp));have Jc:=Hd (Wa.o.grown Ha (by simp;omega));have Kc:=Hd (Ob.o.grown Ha (fun g hg e=>by rw[Ja.o]at hg;have:=HLT.o g hg;have:=tm e;omega));have Lc:H9 (Below i' w ((w4.setCells w.heap.size 0 (au now tj ab nb cb (some ⟨gj,0,none⟩) nj cj)).alloc (.cells #[] 2))):=Qa.o.trans (ac Ha (tB tf Qa.o.size) (fun z e=>by have:=tm e;omega));have Nc:H9 (ar 2 ((w4.setCells w.heap.size 0 (au now tj ab nb cb (some ⟨gj,0,none⟩) nj cj)).alloc (.cells #[] 2)) w4.heap.size (some ⟨w4.heap.size,0,none⟩) 0 0 []):=(by have h0:=World.ownsRow_made (e:=2) (size:=1) (base:=w4.heap.size) (w4.setCells w.heap.size 0 (au now tj ab nb cb (some ⟨gj,0,none⟩) nj cj)) #[] 0 (by rw[Xa];exact tr _) (by unfold maxLen;omega) (by simp);rw[Xa]at h0;exact h0);have Qb:w4.heap.size≤((w4.setCells w.heap.size 0 (au now tj ab nb cb (some ⟨gj,0,none⟩) nj cj)).alloc (.cells #[] 2)).heap.size:=Ha.size;show Code.wp _ _ _ _ ((w4.setCells w.heap.size 0 (au now tj ab nb cb (some ⟨gj,0,none⟩) nj cj)).alloc (.cells #[] 2));generalize((w4.setCells w.heap.size 0 (au now tj ab nb cb (some ⟨gj,0,none⟩) nj cj)).alloc (.cells #[] 2))=w5 at *;have Oc:=Hd (Qb);clear Qb Pb Ha Xa Da Nb Wa Ob Qa
  go_loopw [9,10] (fun l i wr=>∃(q:Nat) (al:Option Addr) (n c:Nat),1≤q∧q≤10∧i=it q∧l=.slice al n c∧ar 2 wr w4.heap.size al n c (lq bs l' q)∧aF wr i' ab nb cb bs (some ⟨gj,0,none⟩) nj cj (qs.map fun q=>(M.freeJ (bi now l') q.1,q.2))∧ae wr w.heap.size (au now tj ab nb cb (some ⟨gj,0,none⟩) nj cj)∧ae wr (w.heap.size+1) (bE te id (P:Nat) l' s' m0 m1 m2 m3 m4 m5 m6 m7 m8 m9 m10 m11 t1 t2 p1 p2 p3 p4 a1 n1 c1 a2 n2 c2 a3 n3 c3 a4 n4 c4)∧ae wr (w.heap.size+1+1) be∧Below i' w wr∧w4.heap.size≤wr.heap.size) (fun _ i _=>10-(intOf i).toNat)
  case atStart=>exact⟨1,_,0,0,by omega,by omega,rfl,rfl,Nc.o,Kc.o,Hc.o,Ic.o,Jc.o,Lc.o,Oc.o⟩
  case round=>
   obtain⟨q,al,n,c,Pc,Ld,rfl,rfl,ho,hM,hA,hV,hZ,hB,Qc⟩:=hrel;have Nd:n≤9:=(by rw[←ho.len];exact rY _ _ _);have Ka:=Hd (ho);have Ra:=Hd (hM);have Ea:=Hd (hA);have Ya:=Hd (hV);have Za:=Hd (hZ);have Ia:=Hd (hB);by_cases Rc:q≤9
   case pos=>
    have Sc:(q:Int)≤9:=(by omega);have La:=rk bs l' Pc Rc;have v3:=Ya.o.c 3;have Ga:=Hd (Qc);by_cases Na:(q:Int)=l'
    ·
     skip
     have gq:((q:Int)==l')=true:=(by simp[Na]);have Ab:=Hd (Na);clear Na;have Oa:H9 (lq bs l' (q+1)=lq bs l' q++[(q:Int)]):=(by show _=_;rw[La];rw[if_pos (by simp[Ab.o])]);clear La;obtain⟨i0,Bb,Cb,Db,Eb⟩:=info_parts cn;have Ca:∀z,(Value.slice al n c).ownBlock=some z→w4.heap.size≤z∧z<wr.heap.size:=fun z hz=>tJ Ka.o z hz;(go_wp2_with(with_reducible refine af 91 ?_ ?_;rfl));show wpList _ _ _ _ _ _;refine wpList_append_own_at _ rfl _ _ 24 rfl w4.heap.size 2 i0 (it 0) 1 8 underlying24 Bb Cb Db Eb rfl (by decide) _ n ((lq bs l' q).map (Value.int .i64)) rfl (uc Ka.o _) ⟨wr.heap.size,0,none⟩ 1 1 [it (q:Nat)] rfl rfl (b7 wr _ _) (cJ _) (by unfold maxLen;omega) (by omega) ?hs ?hk
     case hs=>simp;exact Nat.le_succ_of_le Ga.o
     case hk=>
      intro v' w7 Fb Gb _ Tc;have hown':w7.ownsRow w4.heap.size 2 1 v' (n+1) ((lq bs l' (q+1)).map (Value.int .i64)):=(by rw[Oa.o,t8];exact Fb);obtain⟨Pa,cN,rfl,Hb⟩:=ar.form hown';have Aa:wr.grownBy w7 (Value.slice al n c).ownBlock:=(tO wr _ _).trans Gb;have HO':H9 (ar 2 w7 w4.heap.size Pa (n+1) cN (lq bs l' (q+1))):=Hb;have HM':H9 (aF w7 i' ab nb cb bs (some ⟨gj,0,none⟩) nj cj (qs.map fun q=>(M.freeJ (bi now l') q.1,q.2))):=Ra.o.grown Aa (fun g hg e=>by rw[Ja.o]at hg;have:=HLT.o g hg;have:=(Ca g e).1;have:=Ba.o;omega);have HA':H9 (ae w7 w.heap.size (au now tj ab nb cb (some ⟨gj,0,none⟩) nj cj)):=Ea.o.grown Aa (fun e=>by have:=(Ca _ e).1;have:=Ba.o;omega);have HV':H9 (ae w7 (w.heap.size+1) (bE te id (P:Nat) l' s' m0 m1 m2 m3 m4 m5 m6 m7 m8 m9 m10 m11 t1 t2 p1 p2 p3 p4 a1 n1 c1 a2 n2 c2 a3 n3 c3 a4 n4 c4)):=Ya.o.grown Aa (fun e=>by have:=(Ca _ e).1;have:=Ba.o;omega);have HZ':H9 (ae w7 (w.heap.size+1+1) be):=Za.o.grown Aa (fun e=>by have:=(Ca _ e).1;have:=Ba.o;omega);have HB':H9 (Below i' w w7):=Ia.o.trans (ac Aa (tB tf Ia.o.size) (fun z e=>by have:=(Ca z e).1;have:=Ba.o;omega));have Ib:H9 (w4.heap.size≤w7.heap.size):=tB Ga.o Aa.size;go_wp2;go_roundw
      case rel=>exact⟨q+1,Pa,n+1,cN,by omega,by omega,by go_num,rfl,HO'.o,HM'.o,HA'.o,HV'.o,HZ'.o,HB'.o,Ib.o⟩
      case measure=>simp[intOf];omega
    have gq:((q:Int)==l')=false:=(by simp[Na]);have Ab:=Hd (Na);have Zb:=Ea.o.c 0;have Ac:=Ea.o.c 1;have Lb:=Ea.o.c 2;have Bc:=Ea.o.c 3;have CB:=fg (aj:=some ⟨gj,0,none⟩) (nj:=nj) (cj:=cj) now tj (q:Int) wr Ra.o.b.sees;generalize Uc:bs.contains (q:Int)=oc at CB;have Rb:=Hd (Uc);(go_wp2_with fail);refine CB.mono ?_;rintro e w6 ⟨rfl,hb⟩;have Sb:H9 (w4.heap.size≤w6.heap.size):=tB Ga.o hb.size;have Jb:=Hd (Ka.o.below hb);have Tb:=Hd (Ra.o.below hb);have Ub:=Hd (Ea.o.belowS hb);have Vb:=Hd (Ya.o.belowS hb);have Wb:=Hd (Za.o.belowS hb);have Kb:H9 (Below i' w w6):=Ia.o.trans (hb.mono (tB tf Ia.o.size));clear hb CB Ga;have Ga:=Sb;clear Sb
    cases oc with
    | true=>
     have Oa:H9 (lq bs l' (q+1)=lq bs l' q++[(q:Int)]):=(by show _=_;rw[La];rw[if_pos (by rw[Rb.o];simp)]);clear La;obtain⟨i0,Bb,Cb,Db,Eb⟩:=info_parts cn;have Ca:∀z,(Value.slice al n c).ownBlock=some z→w4.heap.size≤z∧z<w6.heap.size:=fun z hz=>tJ Jb.o z hz;(go_wp2_with(with_reducible refine af 91 ?_ ?_;rfl));show wpList _ _ _ _ _ _;refine wpList_append_own_at _ rfl _ _ 24 rfl w4.heap.size 2 i0 (it 0) 1 8 underlying24 Bb Cb Db Eb rfl (by decide) _ n ((lq bs l' q).map (Value.int .i64)) rfl (uc Jb.o _) ⟨w6.heap.size,0,none⟩ 1 1 [it (q:Nat)] rfl rfl (b7 w6 _ _) (cJ _) (by unfold maxLen;omega) (by omega) ?hs ?hk
     case hs=>simp;exact Nat.le_succ_of_le Ga.o
     case hk=>
      intro v' w7 Fb Gb _ Tc;have hown':w7.ownsRow w4.heap.size 2 1 v' (n+1) ((lq bs l' (q+1)).map (Value.int .i64)):=(by rw[Oa.o,t8];exact Fb);obtain⟨Pa,cN,rfl,Hb⟩:=ar.form hown';have Aa:w6.grownBy w7 (Value.slice al n c).ownBlock:=(tO w6 _ _).trans Gb;have HO':H9 (ar 2 w7 w4.heap.size Pa (n+1) cN (lq bs l' (q+1))):=Hb;have HM':H9 (aF w7 i' ab nb cb bs (some ⟨gj,0,none⟩) nj cj (qs.map fun q=>(M.freeJ (bi now l') q.1,q.2))):=Tb.o.grown Aa (fun g hg e=>by rw[Ja.o]at hg;have:=HLT.o g hg;have:=(Ca g e).1;have:=Ba.o;omega);have HA':H9 (ae w7 w.heap.size (au now tj ab nb cb (some ⟨gj,0,none⟩) nj cj)):=Ub.o.grown Aa (fun e=>by have:=(Ca _ e).1;have:=Ba.o;omega);have HV':H9 (ae w7 (w.heap.size+1) (bE te id (P:Nat) l' s' m0 m1 m2 m3 m4 m5 m6 m7 m8 m9 m10 m11 t1 t2 p1 p2 p3 p4 a1 n1 c1 a2 n2 c2 a3 n3 c3 a4 n4 c4)):=Vb.o.grown Aa (fun e=>by have:=(Ca _ e).1;have:=Ba.o;omega);have HZ':H9 (ae w7 (w.heap.size+1+1) be):=Wb.o.grown Aa (fun e=>by have:=(Ca _ e).1;have:=Ba.o;omega);have HB':H9 (Below i' w w7):=Kb.o.trans (ac Aa (tB tf Kb.o.size) (fun z e=>by have:=(Ca z e).1;have:=Ba.o;omega));have Ib:H9 (w4.heap.size≤w7.heap.size):=tB Ga.o Aa.size;go_wp2;go_roundw
      case rel=>exact⟨q+1,Pa,n+1,cN,by omega,by omega,by go_num,rfl,HO'.o,HM'.o,HA'.o,HV'.o,HZ'.o,HB'.o,Ib.o⟩
      case measure=>simp[intOf];omega
    | false=>
     have Oa:H9 (lq bs l' (q+1)=lq bs l' q):=(by show _=_;rw[La,if_neg (by rw[Rb.o];simpa using Ab.o)];simp);go_wp2;go_roundw
     case rel=>exact⟨q+1,al,n,c,by omega,by omega,by go_num,rfl,by rw[Oa.o];exact Jb.o,Tb.o,Ub.o,Vb.o,Wb.o,Kb.o,Ga.o⟩
     case measure=>simp[intOf];omega
   have Sc:¬ (q:Int)≤9:=(by omega);have Vc:H9 (lq bs l' q=M.banned bs l'):=(by show _=_;rw[show q=10 by omega];rfl);have Wc:H9 (aF wr i' al n c (M.banned bs l') (some ⟨gj,0,none⟩) nj cj (qs.map fun q=>(M.freeJ (bi now l') q.1,q.2))):=(by rw[←Vc.o];exact Ra.o.ban Ka.o (tB tf Fc.o) (fun g hg=>by rw[Ja.o]at hg;have:=HLT.o g hg;have:=Ba.o;omega));have Xc:∀g∈ob al,w4.heap.size≤g:=fun g hg=>(tJ Ka.o g (bL hg)).1
   have Xb:∀g∈bj al (some ⟨gj,0,none⟩) (qs.map fun q=>(M.freeJ (bi now l') q.1,q.2)),g≠w.heap.size∧g≠(w.heap.size+1+1):=fun g hg=>by
    have h9:=Ba.o;unfold bj at hg
    rcases tI.1 hg with h | h
    ·have:=Xc g h;omega
    ·
     have h7:g∈bj ab (some ⟨gj,0,none⟩) (qs.map fun q=>(M.freeJ (bi now l') q.1,q.2)):=(by unfold bj;exact tI.2 (.inr h));rw[Ja.o]at h7;have:=HLT.o g h7;omega
   have Sa:wr.grownBy (wr.setCell ⟨w.heap.size,2,none⟩ (.slice al n c)) (some w.heap.size):=bY (World.grownBy.refl _ _) 2 [.slice al n c];have Ta:H9 (ae (wr.setCell ⟨w.heap.size,2,none⟩ (.slice al n c)) w.heap.size (au now tj al n c (some ⟨gj,0,none⟩) nj cj)):=Ea.o.set 2 (by simp) _;have Fa:=Hd (Za.o.grown Sa (fun e=>by have:=tm e;omega));have Od:wr.grownBy (wr.setCell ⟨w.heap.size,2,none⟩ (.slice al n c)) (some w.heap.size):=Sa;have Yc:aF (wr.setCell ⟨w.heap.size,2,none⟩ (.slice al n c)) i' al n c (M.banned bs l') (some ⟨gj,0,none⟩) nj cj (qs.map fun q=>(M.freeJ (bi now l') q.1,q.2)):=Wc.o.grown Sa (fun g hg e=>(Xb g hg).1 (tm e).symm);have Yb:H9 (Below i' w (wr.setCell ⟨w.heap.size,2,none⟩ (.slice al n c))):=Ia.o.trans (ac Sa (tB tf Ia.o.size) (fun z e=>by have:=tm e;omega));have Zc:H9 (∀wf,(wr.setCell ⟨w.heap.size,2,none⟩ (.slice al n c)).grownBy wf (some (w.heap.size+1+1))→aF wf i' al n c (M.banned bs l') (some ⟨gj,0,none⟩) nj cj (qs.map fun q=>(M.freeJ (bi now l') q.1,q.2))):=fun wf Ua=>Yc.grown Ua (fun g hg e=>(Xb g hg).2 (tm e).symm);have Ad:H9 (∀wf,aF wf i' al n c (M.banned bs l') (some ⟨gj,0,none⟩) nj cj (qs.map fun q=>(M.freeJ (bi now l') q.1,q.2))→Below i' w wf→er w i' now tj ab nb cb bs (some ⟨gj,0,none⟩) nj cj qs l' id (P:Int) ⟨(p1,p2),(p3,p4),z1,z2,z3,z4⟩ (.returned (.tuple #[.agg (au now tj al n c (some ⟨gj,0,none⟩) nj cj).toArray,it 7,it 0])) wf):=fun wf hM hB=>⟨hB,.inr (.inr (.inl ⟨HNO.o,by rw[HWK.o];exact HXW.o,by rw[HJ2.o];exact HBAD.o,_,_,_,rfl,hM⟩))⟩;have Lb:=Ea.o.c 2;have Pd:=Ea.o.fr 2;have o0:(wr.setCell ⟨w.heap.size,2,none⟩ (.slice al n c)).cell? ⟨w.heap.size,0,none⟩=some (it now):=Ta.o.at 0;have o1:(wr.setCell ⟨w.heap.size,2,none⟩ (.slice al n c)).cell? ⟨w.heap.size,1,none⟩=some (it tj):=Ta.o.at 1;have o2:(wr.setCell ⟨w.heap.size,2,none⟩ (.slice al n c)).cell? ⟨w.heap.size,2,none⟩=some (.slice al n c):=Ta.o.at 2;have o3:(wr.setCell ⟨w.heap.size,2,none⟩ (.slice al n c)).cell? ⟨w.heap.size,3,none⟩=some (.slice (some ⟨gj,0,none⟩) nj cj):=Ta.o.at 3;have r0:(wr.setCell ⟨w.heap.size,2,none⟩ (.slice al n c)).cell? ⟨w.heap.size+1+1,0,none⟩=some (it 0):=Fa.o.at 0;have Qd:(wr.setCell ⟨w.heap.size,2,none⟩ (.slice al n c)).frozen? ⟨w.heap.size+1+1,0,none⟩=false:=Fa.o.fr 0;have r1:(wr.setCell ⟨w.heap.size,2,none⟩ (.slice al n c)).cell? ⟨w.heap.size+1+1,1,none⟩=some (it 0):=Fa.o.at 1;have Rd:(wr.setCell ⟨w.heap.size,2,none⟩ (.slice al n c)).frozen? ⟨w.heap.size+1+1,1,none⟩=false:=Fa.o.fr 1;have r2:(wr.setCell ⟨w.heap.size,2,none⟩ (.slice al n c)).cell? ⟨w.heap.size+1+1,2,none⟩=some (.slice none 0 0):=Fa.o.at 2;have Sd:(wr.setCell ⟨w.heap.size,2,none⟩ (.slice al n c)).frozen? ⟨w.heap.size+1+1,2,none⟩=false:=Fa.o.fr 2;have r3:(wr.setCell ⟨w.heap.size,2,none⟩ (.slice al n c)).cell? ⟨w.heap.size+1+1,3,none⟩=some (.slice none 0 0):=Fa.o.at 3;have Td:(wr.setCell ⟨w.heap.size,2,none⟩ (.slice al n c)).frozen? ⟨w.heap.size+1+1,3,none⟩=false:=Fa.o.fr 3;(go_wp2_with fail);show bodyPost _ _ _ _ _ ((wr.setCell ⟨w.heap.size,2,none⟩ (.slice al n c)).setCells (w.heap.size+1+1) 0 (au now tj al n c (some ⟨gj,0,none⟩) nj cj));have Bd:ae ((wr.setCell ⟨w.heap.size,2,none⟩ (.slice al n c)).setCells (w.heap.size+1+1) 0 (au now tj al n c (some ⟨gj,0,none⟩) nj cj)) (w.heap.size+1+1) (au now tj al n c (some ⟨gj,0,none⟩) nj cj):=Fa.o.setCells (au now tj al n c (some ⟨gj,0,none⟩) nj cj) 0 (by simp);have Ua:=dv (wr.setCell ⟨w.heap.size,2,none⟩ (.slice al n c)) (w.heap.size+1+1) 0 (au now tj al n c (some ⟨gj,0,none⟩) nj cj);have Cd:=Zc.o _ Ua;have Dd:Below i' w ((wr.setCell ⟨w.heap.size,2,none⟩ (.slice al n c)).setCells (w.heap.size+1+1) 0 (au now tj al n c (some ⟨gj,0,none⟩) nj cj)):=Yb.o.trans (ac Ua (tB tf Yb.o.size) (fun z e=>by have:=tm e;omega));have Ed:=Ad.o _ Cd Dd;generalize((wr.setCell ⟨w.heap.size,2,none⟩ (.slice al n c)).setCells (w.heap.size+1+1) 0 (au now tj al n c (some ⟨gj,0,none⟩) nj cj))=wf at *;exact tx (aA rfl rfl (tS wf (w.heap.size+1+1) 0 27 _ _ Bd.row underlying27 rfl (by kernel_rfl))) rfl Ed
theorem pi:eE.p1:=ex.1
theorem pj:eE.p2:=ex.2.1
theorem pk:eE.p3:=ex.2.2.1
theorem po:eE.p4:=ex.2.2.2
theorem lD:jJ:=sw.h ⟨eE.h ⟨pi⟩ ⟨pj⟩ ⟨pk⟩ ⟨po⟩ ⟨sd⟩⟩
theorem nF(hw:who≠0):bi now who=M.mineT who:=by
 funext t
 unfold bi M.mineT M.leased;by_cases h:t.l'=who
 ·simp[h,hw]
 ·simp[h,hw]
theorem er.back{e:Ending}(hw:l'≠0)(hbn:bs.contains l'=false)(h:er w i' now tj ab nb cb bs aj nj cj qs l' id p' p e w'):
  ∃v,e=.returned (.tuple #[v,.int .i64 (M.back (cf p' p) ⟨now,tj,bs,qs.map (·.1)⟩ l' id p').2.1,.int .i64 (M.back (cf p' p) ⟨now,tj,bs,qs.map (·.1)⟩ l' id p').2.2])∧lm w i' v (M.back (cf p' p) ⟨now,tj,bs,qs.map (·.1)⟩ l' id p').1.now (M.back (cf p' p) ⟨now,tj,bs,qs.map (·.1)⟩ l' id p').1.next (M.back (cf p' p) ⟨now,tj,bs,qs.map (·.1)⟩ l' id p').1.bs (M.back (cf p' p) ⟨now,tj,bs,qs.map (·.1)⟩ l' id p').1.js w':=by
 obtain⟨hB,h⟩:=h;have h0:¬ (bs.contains l'=true):=by rw[hbn];simp
 rcases h with⟨h1,rfl,hM⟩ | ⟨h1,h2,rfl,hM⟩ | ⟨h1,h2,h3,ab',nb',cb',rfl,hM⟩ | ⟨h1,h2,h3,i,hi,rfl,hM⟩
 ·
  have e:M.back (cf p' p) ⟨now,tj,bs,qs.map (·.1)⟩ l' id p'=(⟨now,tj,bs,qs.map (·.1)⟩,4,0):=by
   unfold M.back;rw[if_neg h0,if_pos (by simpa using h1)]
  rw[e];exact⟨_,rfl,_,_,_,_,_,_,_,rfl,hM,rfl,hB⟩
 ·
  have e:M.back (cf p' p) ⟨now,tj,bs,qs.map (·.1)⟩ l' id p'=(⟨now,tj,bs,qs.map (·.1)⟩,8,0):=by
   unfold M.back;rw[if_neg h0,if_neg (by simpa using h1),if_pos h2]
  rw[e];exact⟨_,rfl,_,_,_,_,_,_,_,rfl,hM,rfl,hB⟩
 ·
  have e:M.back (cf p' p) ⟨now,tj,bs,qs.map (·.1)⟩ l' id p'=(⟨now,tj,M.banned bs l',(qs.map (·.1)).map (M.freeJ (M.mineT l'))⟩,7,0):=by
   unfold M.back;rw[if_neg h0,if_neg (by simpa using h1),if_neg (by simpa using h2),if_pos h3]
  rw[e];rw[nF hw]at hM;exact⟨_,rfl,_,_,_,_,_,_,_,rfl,hM,by simp[List.map_map,Function.comp_def],hB⟩
 ·
  have e:M.back (cf p' p) ⟨now,tj,bs,qs.map (·.1)⟩ l' id p'=(⟨now,tj,bs,M.setT (qs.map (·.1)) i p'.toNat ⟨true,0,0⟩⟩,0,if((M.jobOf id (qs.map (·.1))).ts.set p'.toNat ⟨true,0,0⟩).all (·.done)then 1 else 0):=by
   unfold M.back;rw[if_neg h0,if_neg (by simpa using h1),if_neg (by simpa using h2),if_neg (by simp[h3]),hi]
   rfl
  rw[e]
  have hj:M.jobOf id (qs.map (·.1))=(qs.getD i q0).1:=by
   rw[←dh];unfold M.jobOf;rw[hi]
   rfl
  rw[hj];refine⟨_,rfl,_,_,_,_,_,_,_,rfl,hM,?_,hB⟩;unfold M.setT;rw[dh,List.map_set]
namespace M
def act(g:Jb→Bool)(m:Mt)(te id p' l' s':Int)(mc:Mc)(s:Int×Int):Mt×Int×Int:=
 if te=1 then submit m mc s p' s'
 else if te=4 then tick m s'
 else if te=5 then cancel m id
 else if te=2 then lease m l'
 else back g m l' id p'
def acted(g:Jb→Bool)(form:Bool)(m:Mt)(te id p' l' s':Int)(mc:Mc)(s:Int×Int):Mt×Int×Int:=
 if m.ok=false then(Mt.zero,1,0)
 else if form=false then(m,2,0)
 else act g m te id p' l' s' mc s
end M
def bu(w:World)(i':Nat)(r:M.Mt×Int×Int)(e:Ending)(w':World):Prop:=
 ∃v,e=.returned (.tuple #[v,.int .i64 r.2.1,.int .i64 r.2.2])∧lm w i' v r.1.now r.1.next r.1.bs r.1.js w'
theorem er.act{e:Ending}(hw:l'≠0)(hbn:bs.contains l'=false)(h:er w i' now tj ab nb cb bs aj nj cj qs l' id p' p e w'):
  bu w i' (M.back (cf p' p) ⟨now,tj,bs,qs.map (·.1)⟩ l' id p') e w':=h.back hw hbn
theorem mN(now tj who:Int)(w:World)(H:aF w i' ab nb cb bs aj nj cj qs)(tf:i'≤w.heap.size)(hf:M.Right now tj bs (qs.map (·.1)))(hbn:bs.contains who=false):
  Calls prog 47 #[.agg #[.int .i64 now,.int .i64 tj,.slice ab nb cb,.slice aj nj cj],.int .i64 who] w (bu w i' (M.lease ⟨now,tj,bs,qs.map (·.1)⟩ who)):=by
 have h0:¬ (bs.contains who=true):=(by rw[hbn];simp);have hT:∀q∈qs,q.1.ts.length≤8:=fun q hq=>(hf.tasks q.1 (List.mem_map.2 ⟨q,hq,rfl⟩)).2
 have Aa:∀q∈qs,0<q.1.id∧q.1.id≤1000000000:=fun q hq=>by
  have h1:=hf.job q.1 (List.mem_map.2 ⟨q,hq,rfl⟩);have h2:=hf.next1;exact⟨h1.1,by have:=h1.2.1;omega⟩
 refine(mO now tj who w H tf hf.now0 hf.now1 Aa hT).mono ?_;intro e w' h;rw[M.scJ_eq]at h;by_cases ha:(qs.map (·.1)).any (fun j=>j.ts.any (M.mineT who))=true
 ·
  rw[if_pos ha]at h;obtain⟨rfl,hM,hB⟩:=h
  have e:M.lease ⟨now,tj,bs,qs.map (·.1)⟩ who=(⟨now,tj,bs,qs.map (·.1)⟩,6,0):=by
   unfold M.lease;rw[if_neg h0,if_pos ha]
  rw[e];exact⟨_,rfl,_,_,_,_,_,_,_,rfl,hM,rfl,hB⟩
 ·
  rw[if_neg ha]at h
  cases hp:M.place 0 (qs.map (·.1))with
  | none=>
   rw[hp]at h;obtain⟨rfl,hM,hB⟩:=h
   have e:M.lease ⟨now,tj,bs,qs.map (·.1)⟩ who=(⟨now,tj,bs,qs.map (·.1)⟩,4,0):=by
    unfold M.lease;rw[if_neg h0,if_neg ha,hp]
   rw[e];exact⟨_,rfl,_,_,_,_,_,_,_,rfl,hM,rfl,hB⟩
  | some x=>
   obtain⟨i,k⟩:=x;rw[hp]at h;obtain⟨rfl,hM,hB⟩:=h
   have e:M.lease ⟨now,tj,bs,qs.map (·.1)⟩ who=(⟨now,tj,bs,M.setT (qs.map (·.1)) i k ⟨false,who,now+5⟩⟩,0,100*((qs.map (·.1)).getD i M.j0).id+k):=by
    unfold M.lease;rw[if_neg h0,if_neg ha,hp]
   rw[e];refine⟨_,by rw[dh],_,_,_,_,_,_,_,rfl,hM,?_,hB⟩;unfold M.setT;rw[dh,List.map_set]
namespace M
theorem form_kinds{mok sok rok m8 wk idk p7 mt:Bool}(h:formB te id p' l' s' bare mok sok rok m8 non wk idk p7 mt=true):
  (te=1∧mok=true∧sok=true∧rok=true∧m8=true)∨(te=2∧wk=true)∨(te=3∧wk=true∧idk=true∧p7=true)∨(te=4∧mt=true)∨(te=5∧idk=true):=by
 unfold formB at h;by_cases h1:te=1
 ·rw[if_pos h1]at h;simp only[tZ]at h;exact .inl ⟨h1,h.1,h.2.1,h.2.2.1,h.2.2.2.1⟩
 rw[if_neg h1]at h;by_cases h2:te=2
 ·rw[if_pos h2]at h;simp only[tZ]at h;exact .inr (.inl ⟨h2,h.2.1⟩)
 rw[if_neg h2]at h;by_cases h3:te=3
 ·rw[if_pos h3]at h;simp only[tZ]at h;exact .inr (.inr (.inl ⟨h3,h.2.1,h.2.2.1,h.2.2.2.1⟩))
 rw[if_neg h3]at h;by_cases h4:te=4
 ·rw[if_pos h4]at h;simp only[tZ]at h;exact .inr (.inr (.inr (.inl ⟨h4,h.2.2.2.2.1⟩)))
 rw[if_neg h4]at h;by_cases h5:te=5
 ·rw[if_pos h5]at h;simp only[tZ]at h;exact .inr (.inr (.inr (.inr ⟨h5,h.2.2.1⟩)))
 ·rw[if_neg h5]at h;simp at h
theorem inB_iff{lo hi:Int}:inB x lo hi=true↔lo≤x∧x≤hi:=by unfold inB;simp
def Mt.right(m:Mt):Prop:=Right m.now m.next m.bs m.js
theorem acted_right{g:Jb→Bool}{m:Mt}{mc:Mc}(h:m.right):
  (acted g (formB te id p' l' s' bare mc.ok (M.sOk s) (M.rows p') (inB s' 1 8) non (inB l' 1 9) (inB id 1 1000000000) (inB p' 0 7) (inB s' 1 1000000000)) m te id p' l' s' mc s).1.right:=by
 unfold acted;rw[if_neg (by rw[show m.ok=true from Right.ok h];simp)];by_cases hf:formB te id p' l' s' bare mc.ok (M.sOk s) (M.rows p') (inB s' 1 8) non (inB l' 1 9) (inB id 1 1000000000) (inB p' 0 7) (inB s' 1 1000000000)=false
 ·rw[if_pos hf];exact h
 ·
  rw[if_neg hf];have wk:∀{x},inB x 1 9=true→wkOk x=true:=fun{x} h=>h;unfold act
  rcases form_kinds (by simpa using hf)with⟨rfl,h1,h2,h3,h4⟩ | ⟨rfl,h1⟩ | ⟨rfl,h1,h2,h3⟩ | ⟨rfl,h1⟩ | ⟨rfl,h1⟩
  ·rw[if_pos rfl];exact submit_right h h1 h2 h3 (inB_iff.1 h4).1 (inB_iff.1 h4).2
  ·rw[if_neg (by decide),if_neg (by decide),if_neg (by decide),if_pos rfl];exact lease_right h (wk h1)
  ·rw[if_neg (by decide),if_neg (by decide),if_neg (by decide),if_neg (by decide)];exact back_right h (wk h1) (inB_iff.1 h3).1
  ·rw[if_neg (by decide),if_pos rfl];exact tick_right h (inB_iff.1 h1).1
  ·rw[if_neg (by decide),if_neg (by decide),if_pos rfl];exact cancel_right h
end M
theorem j5{ty:TypeId}{u:Value}(h:v.cells=u.cells):storeVar ty ad v=storeVar ty ad u:=by unfold storeVar;rw[h]
theorem iP{rest:List Oper}{op:Oper}(hgd:op.guard=none)(ty:TypeId)(x y:Operand)(ho:op.op=.store ty x y)(b o:Nat)(v:Value)(hv:v.cells=#[v])(hx:a.eval x=.pointer (some ⟨b,o,none⟩))(hy:a.eval y=v)
 (ht:w.there b o 1)(hi:(P.info? ty).map (·.size)=some 1)(h1:v.oneCell'=true)(h:wpList P ops Q rest (a.put op.dst undef) (w.setCells b o [v])):wpList P ops Q (op::rest) a w:=by
 refine wpList_plain hgd fun _ hK=>?_;unfold Oper.wp execOp;simp only[ho,hx,hy,Instr.storeAt,Instr.sureAddr,Sem.run_bind,Sem.run_pure,Result.andThen_ok];rw[j5 (v:=v) (u:=.agg #[v]) (by rw[hv];rfl),run_storeVar_mid w b o ty #[v] ht hi (by simp[h1])];exact hK _ _ h
theorem eo(hg:o.guard=none)(l:Operand)(t:TypeId)(hop:o.op=Op.makeSlice t l l)(i':Nat)(e:TypeId)(i:TypeInfo)(z:Value)(size:Nat)(ht:P.underlying t=some (.slice e))(hi:P.info? e=some i)(hz:i.zero=some z)(hsize:i.size=size)
 (n:Nat)(hl:a.eval l=.int .i64 n)(hcells:n*size≤16777216)(hbytes:i.bytes*n≤281474976710656)(h63:n≤maxLen)(tf:i'≤w.heap.size)
 (hK:∀g w',w.heap.size=g→w'.ownsRow i' e size (.slice (some ⟨g,0,none⟩) n n) n (madeCells z.cells (n*size)).toList→w.grownBy w' none→K (a.put o.dst (.slice (some ⟨g,0,none⟩) n n)) w'):
  if Region.wanted o (yielded ops a.tmps)=true then Oper.wp P o a w K Q else E:=by
 have hw:Region.wanted o (yielded ops a.tmps)=true:=(by simp[Region.wanted,hg]);rw[if_pos hw];obtain⟨w',Aa,r1,r2⟩:=run_makeSlice_full (P:=P) (w:=w) i' t e i z size ht hi hz hsize .i64 .i64 n hcells hbytes h63 tf;unfold Oper.wp;simp[execOp,hop,hl,Aa,Result.andThen];exact hK _ w' rfl r1 r2
theorem eG(hg:o.guard=none)(ty:TypeId)(x:Operand)(hop:o.op=.load ty x)(ad:Addr)(hx:a.eval x=.pointer (some ad))(v:Value)(hl:(loadVar ty ad).run P w=.ok v w)(hK:K (a.put o.dst v) w):
  if Region.wanted o (yielded ops a.tmps)=true then Oper.wp P o a w K Q else E:=by
 have hw:Region.wanted o (yielded ops a.tmps)=true:=(by simp[Region.wanted,hg]);rw[if_pos hw];unfold Oper.wp execOp;simp only[hop,hx,Instr.loadAt,Instr.sureAddr,Sem.run_bind,Sem.run_pure,Result.andThen_ok,hl];exact hK
theorem rE(hg:o.guard=none)(v:Value)(w':World)(hrun:(execOp a.eval o).run P w=.ok (.value v) w')(hK:K (a.put o.dst v) w'):
  if Region.wanted o (yielded ops a.tmps)=true then Oper.wp P o a w K Q else E:=by
 have hw:Region.wanted o (yielded ops a.tmps)=true:=(by simp[Region.wanted,hg]);rw[if_pos hw];unfold Oper.wp;rw[hrun];exact hK
theorem fH(hg:o.guard=none)(f:Nat→Value)(w':World)(hrun:(execOp a.eval o).run P w=.ok (.value (f w.heap.size)) w')(hK:∀g W,w.heap.size=g→w'=W→K (a.put o.dst (f g)) W):
  if Region.wanted o (yielded ops a.tmps)=true then Oper.wp P o a w K Q else E:=rE hg _ _ hrun (hK _ _ rfl rfl)
theorem kY
 (hg:o.guard=none)(s x:Operand)(hop:o.op=Op.call {callee:=Callee.builtin Builtin.append,args:=#[s,x],argTypes:=#[25,25]})(hs:a.eval s=.slice aj nj cj)(gb:Nat)(hx:a.eval x=.slice (some ⟨gb,0,none⟩) 1 1)(H:aF w i' ab nb cb bs aj nj cj qs)(q:MQ)(hL:ae w gb (fu q))
 (hT:aK w i' q.2.1 q.1.ts.length q.2.2 q.1.ts)(hqa:∀g∈ob q.2.1,g∉bj ab aj qs)(hn:nj≤1000)(tf:i'≤w.heap.size)
 (hK:∀aj' cj' w7,aF w7 i' ab nb cb bs aj' (nj+1) cj' (qs++[q])→(∀g,g<w.heap.size→g∉bj ab aj qs→g∉ob q.2.1→g∉bj ab aj' (qs++[q]))→w.grownBy w7 (Value.slice aj nj cj).ownBlock→K (a.put o.dst (.slice aj' (nj+1) cj')) w7):
  if Region.wanted o (yielded ops a.tmps)=true then Oper.wp prog o a w K Q else E:=by
 obtain⟨i1,Ca,Da,Ea,Fa⟩:=info_parts eM;refine em hg s x 25 hop i' 45 i1 _ 18 160 underlying25 Ca Da Ea Fa rfl (by decide) (.slice aj nj cj) nj (qs.flatMap fu) hs H.j ⟨gb,0,none⟩ 1 1 (fu q) hx (by rw[co]) (iC hL) (lB _ _ _) (by unfold maxLen;omega) (by omega) tf ?_;intro v' w8 Aa Ba Ga;obtain⟨Ia,Ja,rfl⟩:=jW Aa;obtain⟨hP,Ha⟩:=H.push q hT hqa Ba Aa (tr _) Ga;exact hK _ _ _ hP Ha Ba
theorem iD(h:w.cell? ad=some v):(loadVar 25 ad).run prog w=.ok v w:=by go_simp
theorem lK{mq:Nat}{a:Option Addr}(h8:mq≤8)(h:w.ownsRow i' 47 3 (.slice a n c) mq (madeCells (Value.agg #[.bool false,.int .i64 0,.int .i64 0]).cells (mq*3)).toList)(hn:n=mq):aK w i' a n c (List.replicate mq M.t0):=by
 subst hn;refine⟨tX,?_⟩
 have e:(madeCells (Value.agg nk.toArray).cells (n*3)).toList=(List.replicate n M.t0).flatMap bO:=by
  obtain rfl | rfl | rfl | rfl | rfl | rfl | rfl | rfl | rfl:n=0∨n=1∨n=2∨n=3∨n=4∨n=5∨n=6∨n=7∨n=8:=by omega
  all_goals kernel_rfl
 rw[←e];exact h
theorem iJ{js:List M.Jb}(now tj:Int)(w:World)(hz:bv w ab nb cb aj nj cj bs js):
  Rt 40 #[.agg #[.int .i64 now,.int .i64 tj,.slice ab nb cb,.slice aj nj cj]] w (.bool (M.mkOk now tj bs js)):=
 sK.h ⟨sL⟩ ⟨sM.h ⟨(sc.h ⟨lJ.1⟩ ⟨lJ.2⟩).1⟩ ⟨(sc.h ⟨lJ.1⟩ ⟨lJ.2⟩).2⟩⟩ ab aj nb cb nj cj bs js now tj w hz
end Go.Proofs.YtjcjonncaknhnaaGreatDoor
