import Derived.Shelf.SortM.Plain
import Derived.Sort.OwnSortedInts
import Derived.Test.YtjcjonncaknhnaaGreatDoorPk10
namespace Go.Proofs.YtjcjonncaknhnaaGreatDoor
open Go.RowKit Go.Proofs.Tryz
set_option linter.unusedSimpArgs false
set_option maxHeartbeats 32000000
variable {i':Nat}
section
open Go.Shelf
def mM:Go.Shelf.Ren:=⟨fun | 5=>234 | 8=>273 | 7=>272 | 19=>295 | 20=>296 | 10=>286 | 11=>287 | 12=>288 | 13=>289 | 14=>290 | 15=>291 | 16=>292 | 17=>293 | 18=>294 | 30=>299 | 31=>300 | 32=>301 | 33=>302 | 34=>303 | 35=>304 | 40=>306 | n=>n,fun | 23=>24 | 25=>2 | 3=>3 | 32=>154 | 22=>24 | 0=>0 | 44=>203 | 46=>200 | 4=>4 | 36=>381 | 35=>380 | 41=>385 | 5=>5 | 9=>9 | 53=>392 | 57=>395 | 63=>398 | 64=>399 | n=>n,fun | n=>n⟩
theorem sV:Go.Proofs.SlLaysM.n5 prog mM:={
  mixed:=by kernel_rfl
  f5:=⟨f234.name,by decide,func234.trans (congrArg some (by kernel_rfl))⟩
  f7:=⟨f272.name,by decide,func272.trans (congrArg some (by kernel_rfl))⟩
  f8:=func273.trans (congrArg some (by kernel_rfl))
  f10:=⟨f286.name,by decide,func286.trans (congrArg some (by kernel_rfl))⟩
  f11:=⟨f287.name,by decide,func287.trans (congrArg some (by kernel_rfl))⟩
  f12:=⟨f288.name,by decide,func288.trans (congrArg some (by kernel_rfl))⟩
  f13:=⟨f289.name,by decide,func289.trans (congrArg some (by kernel_rfl))⟩
  f14:=⟨f290.name,by decide,func290.trans (congrArg some (by kernel_rfl))⟩
  f15:=⟨f291.name,by decide,func291.trans (congrArg some (by kernel_rfl))⟩
  f16:=⟨f292.name,by decide,func292.trans (congrArg some (by kernel_rfl))⟩
  f17:=⟨f293.name,by decide,func293.trans (congrArg some (by kernel_rfl))⟩
  f18:=⟨f294.name,by decide,func294.trans (congrArg some (by kernel_rfl))⟩
  f19:=func295.trans (congrArg some (by kernel_rfl))
  f20:=func296.trans (congrArg some (by kernel_rfl))
  f30:=⟨f299.name,by decide,func299.trans (congrArg some (by kernel_rfl))⟩
  f31:=func300.trans (congrArg some (by kernel_rfl))
  f32:=func301.trans (congrArg some (by kernel_rfl))
  f33:=⟨f302.name,by decide,func302.trans (congrArg some (by kernel_rfl))⟩
  f34:=⟨f303.name,by decide,func303.trans (congrArg some (by kernel_rfl))⟩
  f35:=⟨f304.name,by decide,func304.trans (congrArg some (by kernel_rfl))⟩
  f40:=⟨f306.name,by decide,func306.trans (congrArg some (by kernel_rfl))⟩
  t0:=underlying0
  a0:=Tryz.isAgg0
  z0:=Tryz.sizeOf0
  v0:=Tryz.zeroValue0
  t3:=underlying3
  a3:=Tryz.isAgg3
  z3:=Tryz.sizeOf3
  v3:=Tryz.zeroValue3
  t4:=underlying4
  a4:=Tryz.isAgg4
  z4:=Tryz.sizeOf4
  v4:=Tryz.zeroValue4
  t5:=underlying5
  a5:=Tryz.isAgg5
  z5:=Tryz.sizeOf5
  v5:=Tryz.zeroValue5
  t9:=underlying9
  a9:=Tryz.isAgg9
  z9:=Tryz.sizeOf9
  v9:=Tryz.zeroValue9
  t22:=underlying24
  a22:=Tryz.isAgg24
  z22:=Tryz.sizeOf24
  v22:=Tryz.zeroValue24
  t23:=underlying24
  a23:=Tryz.isAgg24
  z23:=Tryz.sizeOf24
  v23:=Tryz.zeroValue24
  t25:=underlying2
  a25:=Tryz.isAgg2
  z25:=Tryz.sizeOf2
  v25:=Tryz.zeroValue2
  t32:=underlying154
  a32:=Tryz.isAgg154
  z32:=Tryz.sizeOf154
  v32:=Tryz.zeroValue154
  t35:=underlying380
  a35:=Tryz.isAgg380
  z35:=Tryz.sizeOf380
  v35:=Tryz.zeroValue380
  t36:=underlying381
  a36:=Tryz.isAgg381
  z36:=Tryz.sizeOf381
  v36:=Tryz.zeroValue381
  t41:=underlying385
  a41:=Tryz.isAgg385
  z41:=Tryz.sizeOf385
  v41:=Tryz.zeroValue385
  t44:=underlying203
  a44:=Tryz.isAgg203
  z44:=Tryz.sizeOf203
  v44:=Tryz.zeroValue203
  t46:=underlying200
  a46:=Tryz.isAgg200
  z46:=Tryz.sizeOf200
  v46:=Tryz.zeroValue200
  t53:=underlying392
  a53:=Tryz.isAgg392
  z53:=Tryz.sizeOf392
  v53:=Tryz.zeroValue392
  t57:=underlying395
  a57:=Tryz.isAgg395
  z57:=Tryz.sizeOf395
  v57:=Tryz.zeroValue395
  t63:=underlying398
  a63:=Tryz.isAgg398
  z63:=Tryz.sizeOf398
  v63:=Tryz.zeroValue398
  t64:=underlying399
  a64:=Tryz.isAgg399
  z64:=Tryz.sizeOf399
  v64:=Tryz.zeroValue399}
end
section
open Go.Shelf
theorem sW{g n cap:Nat}{zs:List Int}(w:World)(ho:aC 2 w i' (some ⟨g,0,none⟩) n cap zs)(hn:n≤1000):
  Calls prog 234 #[.slice (some ⟨g,0,none⟩) n cap] w fun e w'=>e=.returned (.tuple #[])∧∃srt:List Int,srt.Pairwise (·≤·)∧srt.Perm zs∧aC 2 w' i' (some ⟨g,0,none⟩) n cap srt∧w.grownBy w' (some g):=by
 have hl:=ho.len;obtain⟨_,Aa⟩:=(show w.ownsRow i' 2 1 (.slice (some ⟨g,0,none⟩) n cap) n (zs.map (Value.int .i64))from ho)
 rcases Aa with⟨e,_⟩ | ⟨g',cap',cur,e,hb,hc,h1,h2,h3,h4⟩
 ·simp at e
 ·
  simp only[Value.slice.injEq,Option.some.injEq,Addr.mk.injEq,true_and]at e;obtain⟨⟨rfl,_⟩,rfl⟩:=e;rw[Nat.mul_one]at h4;subst hl;have hS:=AnyM.slices_Sort_int sV g 0 cap zs w (holds_of_blockI hc h4) (Array.getElem?_eq_some_iff.1 hc).1 (by omega);refine hS.mono ?_;rintro e w' ⟨rfl,n,os,rfl⟩;refine⟨rfl,zs.mergeSort fun x y=>decide (x≤y),?_,List.mergeSort_perm _ _,?_,grownBy_sortedI _⟩
  ·exact(List.pairwise_mergeSort (le:=fun x y:Int=>decide (x≤y)) (fun a b c h1 h2=>by simp at *;omega) (fun a b=>by simp;omega) zs).imp (fun h=>by simpa using h)
  ·exact ownsRow_sortedI (by rw[List.length_mergeSort]) hb hc h1 h2 h3
set_option maxRecDepth 10000 in
theorem tB{h:Nat}{now uB:Int}{ab:Option Addr}{nb cb:Nat}{bs:List Int}{ai:Option Addr}{ni ci:Nat}{mb:Nat}{qs:List HJ}(who:Int)(w:World)(H:bh w i' h now uB ab nb cb bs ai ni ci mb qs)(hbn:M.bnGo 0 bs=true)(hw:M.wkOk who=true)(hno:bs.contains who=false)(uy:i'≤w.heap.size):
  Calls prog 161 #[.pointer (some ⟨h,0,none⟩),.int .i64 who] w fun e w'=>e=.returned (.tuple #[])∧∃ab' cb',bh w' i' h now uB ab' (nb+1) cb' (M.banned bs who) ai ni ci mb qs∧Below i' w w':=by
 have HH:=Hd H;have Na:H9 (∀Aa:List Int,Aa.Pairwise (·≤·)→Aa.Perm (bs++[who])→Aa=M.banned bs who):=fun Aa h1 h2=>M.banned_sorted hbn hw hno h1 h2;have Ta:nb≤9:=(by have:=iw hbn;have:=H.b.len;omega);obtain⟨i0,hi,Ea,Fa,Ga⟩:=info_parts bJ;have x2:=H.l.c 2;have Oa:(w.alloc (.cells #[it who] 2)).cell? ⟨h,2,none⟩=some (.slice ab nb cb):=(H.l.alloc _).at 2;have HD:=Hd ((bT.1 H.d).1.2.1);have Ha:=Hd H.lo;clear H hbn hw hno;go_enter func161,ntmps161;go_wp2_with(at_builtin;refine wpList_append_own_at _ rfl _ _ 24 rfl i' 2 i0 (it 0) 1 8 underlying24 hi Ea Fa Ga rfl (by decide) _ nb (bs.map (Value.int .i64)) rfl (vg HH.o.b _) ⟨w.heap.size,0,none⟩ 1 1 [it who] rfl rfl (bB w _ _) (bZ _) (by unfold maxLen;omega) (by omega) ?hs ?hk)
 case hs=>simp;exact Nat.le_succ_of_le uy
 case hk=>
  intro v' w7 Ia Ja _ Ka;have hown':w7.ownsRow i' 2 1 v' (nb+1) ((bs++[who]).map (Value.int .i64)):=(by rw[uX];exact Ia);obtain⟨ab',cb',rfl,ho⟩:=aC.form hown';have Ba:=(uK w _ _).trans Ja;have Ca:au w7 h [it now,it uB,.slice ab nb cb,.slice ai ni ci,.map (some mb)]:=HH.o.l.grown Ba (fun e=>HD.o (bq e));have La:=Ca.set 2 (by simp) (.slice ab' (nb+1) cb');have Da:=aU w7 ⟨h,2,none⟩ (.slice ab' (nb+1) cb');have HF:=Hd (HH.o.banned Ba ho (Nat.le_succ _) (by simpa using Ka) Da La);have Pa:=Hd ((ap Ba uy (fun z e=>Ha.o z (by simp[di,bq e]))).trans (ap Da (m8 uy Ba.size) (fun z e=>by rw[←m2 e];exact Ha.o h (by simp[di]))));have Qa:=m8 (m8 uy Ba.size) Da.size;have c2:=Ca.c 2;have f2:=Ca.fr 2;have y2:=HF.o.l.c 2
  obtain⟨g,rfl⟩:∃g,ab'=some ⟨g,0,none⟩:=by
   obtain⟨g,hg,_⟩:=aC.block ho (by omega);exact⟨g,hg⟩
  clear Ia hown' Ja Ka ho Ba Ca La Da hi Ea Fa Ga x2 Oa HH;(go_wp2_with fail);clear c2 f2 y2;generalize(w7.setCell ⟨h,2,none⟩ (.slice (some ⟨g,0,none⟩) (nb+1) cb'))=w8 at *;refine(sW w8 HF.o.b (by omega)).mono ?_;rintro e w9 ⟨rfl,Aa,h1,h2,h3,h4⟩;have Ra:H9 (bh w9 i' h now uB (some ⟨g,0,none⟩) (nb+1) cb' (M.banned bs who) ai ni ci mb qs):=HF.o.order (n:=0) (c:=0) h4 (by rw[←Na.o Aa h1 h2];exact h3);have Sa:H9 (Below i' w w9):=Pa.o.trans (ap h4 Qa (fun z e=>by rw[←m2 e];exact HF.o.lo g (by simp[di,ob])));clear h1 h2 h3 h4;go_wp2;exact bodyPost_end (v:=.tuple #[]) (by simp[results,results161,go_sem]) rfl ⟨rfl,_,_,Ra.o,Sa.o⟩
end
end Go.Proofs.YtjcjonncaknhnaaGreatDoor
