import Derived.Shelf.SortM.Plain
import Derived.Sort.OwnSortedInts
import Derived.Test.YtobnifjhikoleaaGreatDoorPk17
namespace Go.Proofs.YtobnifjhikoleaaGreatDoor
open Go.RowKit Go.Proofs.Tryz
set_option linter.unusedSimpArgs false
set_option maxHeartbeats 32000000
variable {i':Nat}
section
open Go.Shelf
def mV:Go.Shelf.Ren:=⟨fun | 5=>135 | 8=>173 | 7=>172 | 19=>194 | 20=>195 | 10=>185 | 11=>186 | 12=>187 | 13=>188 | 14=>189 | 15=>190 | 16=>191 | 17=>192 | 18=>193 | 30=>198 | 31=>199 | 32=>200 | 33=>201 | 34=>202 | 35=>203 | 40=>206 | n=>n,fun | 23=>24 | 25=>2 | 3=>3 | 32=>83 | 22=>24 | 0=>0 | 44=>278 | 46=>191 | 4=>4 | 36=>271 | 35=>270 | 41=>275 | 5=>5 | 9=>9 | 53=>283 | 57=>286 | 63=>290 | 64=>291 | n=>n,fun | n=>n⟩
theorem tg:Go.Proofs.SlLaysM.n5 prog mV:={
  mixed:=by kernel_rfl
  f5:=⟨f135.name,by decide,func135.trans (congrArg some (by kernel_rfl))⟩
  f7:=⟨f172.name,by decide,func172.trans (congrArg some (by kernel_rfl))⟩
  f8:=func173.trans (congrArg some (by kernel_rfl))
  f10:=⟨f185.name,by decide,func185.trans (congrArg some (by kernel_rfl))⟩
  f11:=⟨f186.name,by decide,func186.trans (congrArg some (by kernel_rfl))⟩
  f12:=⟨f187.name,by decide,func187.trans (congrArg some (by kernel_rfl))⟩
  f13:=⟨f188.name,by decide,func188.trans (congrArg some (by kernel_rfl))⟩
  f14:=⟨f189.name,by decide,func189.trans (congrArg some (by kernel_rfl))⟩
  f15:=⟨f190.name,by decide,func190.trans (congrArg some (by kernel_rfl))⟩
  f16:=⟨f191.name,by decide,func191.trans (congrArg some (by kernel_rfl))⟩
  f17:=⟨f192.name,by decide,func192.trans (congrArg some (by kernel_rfl))⟩
  f18:=⟨f193.name,by decide,func193.trans (congrArg some (by kernel_rfl))⟩
  f19:=func194.trans (congrArg some (by kernel_rfl))
  f20:=func195.trans (congrArg some (by kernel_rfl))
  f30:=⟨f198.name,by decide,func198.trans (congrArg some (by kernel_rfl))⟩
  f31:=func199.trans (congrArg some (by kernel_rfl))
  f32:=func200.trans (congrArg some (by kernel_rfl))
  f33:=⟨f201.name,by decide,func201.trans (congrArg some (by kernel_rfl))⟩
  f34:=⟨f202.name,by decide,func202.trans (congrArg some (by kernel_rfl))⟩
  f35:=⟨f203.name,by decide,func203.trans (congrArg some (by kernel_rfl))⟩
  f40:=⟨f206.name,by decide,func206.trans (congrArg some (by kernel_rfl))⟩
  t0:=underlying0
  a0:=Tryz.isAgg0
  z0:=Tryz.sizeOf0
  v0:=Tryz.zeroValue0
  t3:=underlying3
  a3:=Tryz.isAgg3
  z3:=Tryz.sizeOf3
  v3:=Tryz.zeroValue3
  t4:=underlying4
  a4:=Tryz.isAgg4
  z4:=Tryz.sizeOf4
  v4:=Tryz.zeroValue4
  t5:=underlying5
  a5:=Tryz.isAgg5
  z5:=Tryz.sizeOf5
  v5:=Tryz.zeroValue5
  t9:=underlying9
  a9:=Tryz.isAgg9
  z9:=Tryz.sizeOf9
  v9:=Tryz.zeroValue9
  t22:=underlying24
  a22:=Tryz.isAgg24
  z22:=Tryz.sizeOf24
  v22:=Tryz.zeroValue24
  t23:=underlying24
  a23:=Tryz.isAgg24
  z23:=Tryz.sizeOf24
  v23:=Tryz.zeroValue24
  t25:=underlying2
  a25:=Tryz.isAgg2
  z25:=Tryz.sizeOf2
  v25:=Tryz.zeroValue2
  t32:=underlying83
  a32:=Tryz.isAgg83
  z32:=Tryz.sizeOf83
  v32:=Tryz.zeroValue83
  t35:=underlying270
  a35:=Tryz.isAgg270
  z35:=Tryz.sizeOf270
  v35:=Tryz.zeroValue270
  t36:=underlying271
  a36:=Tryz.isAgg271
  z36:=Tryz.sizeOf271
  v36:=Tryz.zeroValue271
  t41:=underlying275
  a41:=Tryz.isAgg275
  z41:=Tryz.sizeOf275
  v41:=Tryz.zeroValue275
  t44:=underlying278
  a44:=Tryz.isAgg278
  z44:=Tryz.sizeOf278
  v44:=Tryz.zeroValue278
  t46:=underlying191
  a46:=Tryz.isAgg191
  z46:=Tryz.sizeOf191
  v46:=Tryz.zeroValue191
  t53:=underlying283
  a53:=Tryz.isAgg283
  z53:=Tryz.sizeOf283
  v53:=Tryz.zeroValue283
  t57:=underlying286
  a57:=Tryz.isAgg286
  z57:=Tryz.sizeOf286
  v57:=Tryz.zeroValue286
  t63:=underlying290
  a63:=Tryz.isAgg290
  z63:=Tryz.sizeOf290
  v63:=Tryz.zeroValue290
  t64:=underlying291
  a64:=Tryz.isAgg291
  z64:=Tryz.sizeOf291
  v64:=Tryz.zeroValue291}
end
section
open Go.Shelf
theorem th{g n cap:Nat}{zs:List Int}(w:World)(ho:aD 2 w i' (some ⟨g,0,none⟩) n cap zs)(hn:n≤1000):
  Calls prog 135 #[.slice (some ⟨g,0,none⟩) n cap] w fun e w'=>e=.returned (.tuple #[])∧∃srt:List Int,srt.Pairwise (·≤·)∧srt.Perm zs∧aD 2 w' i' (some ⟨g,0,none⟩) n cap srt∧w.grownBy w' (some g):=by
 have hl:=ho.len;obtain⟨_,Aa⟩:=(show w.ownsRow i' 2 1 (.slice (some ⟨g,0,none⟩) n cap) n (zs.map (Value.int .i64))from ho)
 rcases Aa with⟨e,_⟩ | ⟨g',cap',cur,e,hb,hc,h1,h2,h3,h4⟩
 ·simp at e
 ·
  simp only[Value.slice.injEq,Option.some.injEq,Addr.mk.injEq,true_and]at e;obtain⟨⟨rfl,_⟩,rfl⟩:=e;rw[Nat.mul_one]at h4;subst hl;have hS:=AnyM.slices_Sort_int tg g 0 cap zs w (holds_of_blockI hc h4) (Array.getElem?_eq_some_iff.1 hc).1 (by omega);refine hS.mono ?_;rintro e w' ⟨rfl,n,os,rfl⟩;refine⟨rfl,zs.mergeSort fun x y=>decide (x≤y),?_,List.mergeSort_perm _ _,?_,grownBy_sortedI _⟩
  ·exact(List.pairwise_mergeSort (le:=fun x y:Int=>decide (x≤y)) (fun a b c h1 h2=>by simp at *;omega) (fun a b=>by simp;omega) zs).imp (fun h=>by simpa using h)
  ·exact ownsRow_sortedI (by rw[List.length_mergeSort]) hb hc h1 h2 h3
set_option maxRecDepth 10000 in
theorem tP{h:Nat}{now uN:Int}{ab:Option Addr}{nb cb:Nat}{bs:List Int}{ai:Option Addr}{ni ci:Nat}{mb:Nat}{qs:List HJ}(who:Int)(w:World)(H:bj w i' h now uN ab nb cb bs ai ni ci mb qs)(hbn:M.bnGo 0 bs=true)(hw:M.wkOk who=true)(hno:bs.contains who=false)(uK:i'≤w.heap.size):
  Calls prog 87 #[.pointer (some ⟨h,0,none⟩),.int .i64 who] w fun e w'=>e=.returned (.tuple #[])∧∃ab' cb',bj w' i' h now uN ab' (nb+1) cb' (M.banned bs who) ai ni ci mb qs∧Below i' w w':=by
 have HH:=Hd H;have Na:H9 (∀Aa:List Int,Aa.Pairwise (·≤·)→Aa.Perm (bs++[who])→Aa=M.banned bs who):=fun Aa h1 h2=>M.banned_sorted hbn hw hno h1 h2;have Ta:nb≤9:=(by have:=iC hbn;have:=H.b.len;omega);obtain⟨i0,hi,Ea,Fa,Ga⟩:=info_parts bK;have x2:=H.l.c 2;have Oa:(w.alloc (.cells #[it who] 2)).cell? ⟨h,2,none⟩=some (.slice ab nb cb):=(H.l.alloc _).at 2;have HD:=Hd ((bX.1 H.d).1.2.1);have Ha:=Hd H.lo;clear H hbn hw hno;go_enter func87,ntmps87;go_wp2_with(at_builtin;refine wpList_append_own_at _ rfl _ _ 24 rfl i' 2 i0 (it 0) 1 8 underlying24 hi Ea Fa Ga rfl (by decide) _ nb (bs.map (Value.int .i64)) rfl (vw HH.o.b _) ⟨w.heap.size,0,none⟩ 1 1 [it who] rfl rfl (bC w _ _) (b9 _) (by unfold maxLen;omega) (by omega) ?hs ?hk)
 case hs=>simp;exact Nat.le_succ_of_le uK
 case hk=>
  intro v' w7 Ia Ja _ Ka;have hown':w7.ownsRow i' 2 1 v' (nb+1) ((bs++[who]).map (Value.int .i64)):=(by rw[vq];exact Ia);obtain⟨ab',cb',rfl,ho⟩:=aD.form hown';have Ba:=(uX w _ _).trans Ja;have Ca:au w7 h [it now,it uN,.slice ab nb cb,.slice ai ni ci,.map (some mb)]:=HH.o.l.grown Ba (fun e=>HD.o (br e));have La:=Ca.set 2 (by simp) (.slice ab' (nb+1) cb');have Da:=aT w7 ⟨h,2,none⟩ (.slice ab' (nb+1) cb');have HF:=Hd (HH.o.banned Ba ho (Nat.le_succ _) (by simpa using Ka) Da La);have Pa:=Hd ((ap Ba uK (fun z e=>Ha.o z (by simp[dj,br e]))).trans (ap Da (m9 uK Ba.size) (fun z e=>by rw[←m2 e];exact Ha.o h (by simp[dj]))));have Qa:=m9 (m9 uK Ba.size) Da.size;have c2:=Ca.c 2;have f2:=Ca.fr 2;have y2:=HF.o.l.c 2
  obtain⟨g,rfl⟩:∃g,ab'=some ⟨g,0,none⟩:=by
   obtain⟨g,hg,_⟩:=aD.block ho (by omega);exact⟨g,hg⟩
  clear Ia hown' Ja Ka ho Ba Ca La Da hi Ea Fa Ga x2 Oa HH;(go_wp2_with fail);clear c2 f2 y2;generalize(w7.setCell ⟨h,2,none⟩ (.slice (some ⟨g,0,none⟩) (nb+1) cb'))=w8 at *;refine(th w8 HF.o.b (by omega)).mono ?_;rintro e w9 ⟨rfl,Aa,h1,h2,h3,h4⟩;have Ra:H9 (bj w9 i' h now uN (some ⟨g,0,none⟩) (nb+1) cb' (M.banned bs who) ai ni ci mb qs):=HF.o.order (n:=0) (c:=0) h4 (by rw[←Na.o Aa h1 h2];exact h3);have Sa:H9 (Below i' w w9):=Pa.o.trans (ap h4 Qa (fun z e=>by rw[←m2 e];exact HF.o.lo g (by simp[dj,ob])));clear h1 h2 h3 h4;go_wp2;exact bodyPost_end (v:=.tuple #[]) (by simp[results,results87,go_sem]) rfl ⟨rfl,_,_,Ra.o,Sa.o⟩
end
end Go.Proofs.YtobnifjhikoleaaGreatDoor
