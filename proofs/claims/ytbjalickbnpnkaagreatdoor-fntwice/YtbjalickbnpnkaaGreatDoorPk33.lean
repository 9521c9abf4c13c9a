import Derived.Shelf.SortM.Plain
import Derived.Sort.OwnSortedInts
import Derived.Test.YtbjalickbnpnkaaGreatDoorPk17
namespace Go.Proofs.YtbjalickbnpnkaaGreatDoor
open Go.RowKit Go.Proofs.Tryz
set_option linter.unusedSimpArgs false
set_option maxHeartbeats 32000000
variable {dA:Nat}
section
open Go.Shelf
def oB:Go.Shelf.Ren:=⟨λ| 5=>155 | 8=>191 | 7=>190 | 19=>212 | 20=>213 | 10=>203 | 11=>204 | 12=>205 | 13=>206 | 14=>207 | 15=>208 | 16=>209 | 17=>210 | 18=>211 | 30=>216 | 31=>217 | 32=>218 | 33=>219 | 34=>220 | 35=>221 | 40=>222 | n=>n,λ| 23=>24 | 25=>2 | 3=>3 | 32=>99 | 22=>24 | 0=>0 | 44=>295 | 46=>144 | 4=>4 | 36=>288 | 35=>287 | 41=>292 | 5=>5 | 9=>9 | 53=>301 | 57=>304 | 63=>306 | 64=>307 | n=>n,λ| n=>n⟩
theorem uS:Go.Proofs.SlLaysM.n5 prog oB:={
  mixed:=by kernel_rfl
  f5:=⟨f155.name,by decide,func155.trans (congrArg some (by kernel_rfl))⟩
  f7:=⟨f190.name,by decide,func190.trans (congrArg some (by kernel_rfl))⟩
  f8:=func191.trans (congrArg some (by kernel_rfl))
  f10:=⟨f203.name,by decide,func203.trans (congrArg some (by kernel_rfl))⟩
  f11:=⟨f204.name,by decide,func204.trans (congrArg some (by kernel_rfl))⟩
  f12:=⟨f205.name,by decide,func205.trans (congrArg some (by kernel_rfl))⟩
  f13:=⟨f206.name,by decide,func206.trans (congrArg some (by kernel_rfl))⟩
  f14:=⟨f207.name,by decide,func207.trans (congrArg some (by kernel_rfl))⟩
  f15:=⟨f208.name,by decide,func208.trans (congrArg some (by kernel_rfl))⟩
  f16:=⟨f209.name,by decide,func209.trans (congrArg some (by kernel_rfl))⟩
  f17:=⟨f210.name,by decide,func210.trans (congrArg some (by kernel_rfl))⟩
  f18:=⟨f211.name,by decide,func211.trans (congrArg some (by kernel_rfl))⟩
  f19:=func212.trans (congrArg some (by kernel_rfl))
  f20:=func213.trans (congrArg some (by kernel_rfl))
  f30:=⟨f216.name,by decide,func216.trans (congrArg some (by kernel_rfl))⟩
  f31:=func217.trans (congrArg some (by kernel_rfl))
  f32:=func218.trans (congrArg some (by kernel_rfl))
  f33:=⟨f219.name,by decide,func219.trans (congrArg some (by kernel_rfl))⟩
  f34:=⟨f220.name,by decide,func220.trans (congrArg some (by kernel_rfl))⟩
  f35:=⟨f221.name,by decide,func221.trans (congrArg some (by kernel_rfl))⟩
  f40:=⟨f222.name,by decide,func222.trans (congrArg some (by kernel_rfl))⟩
  t0:=underlying0
  a0:=Tryz.isAgg0
  z0:=Tryz.sizeOf0
  v0:=Tryz.zeroValue0
  t3:=underlying3
  a3:=Tryz.isAgg3
  z3:=Tryz.sizeOf3
  v3:=Tryz.zeroValue3
  t4:=underlying4
  a4:=Tryz.isAgg4
  z4:=Tryz.sizeOf4
  v4:=Tryz.zeroValue4
  t5:=underlying5
  a5:=Tryz.isAgg5
  z5:=Tryz.sizeOf5
  v5:=Tryz.zeroValue5
  t9:=underlying9
  a9:=Tryz.isAgg9
  z9:=Tryz.sizeOf9
  v9:=Tryz.zeroValue9
  t22:=underlying24
  a22:=Tryz.isAgg24
  z22:=Tryz.sizeOf24
  v22:=Tryz.zeroValue24
  t23:=underlying24
  a23:=Tryz.isAgg24
  z23:=Tryz.sizeOf24
  v23:=Tryz.zeroValue24
  t25:=underlying2
  a25:=Tryz.isAgg2
  z25:=Tryz.sizeOf2
  v25:=Tryz.zeroValue2
  t32:=underlying99
  a32:=Tryz.isAgg99
  z32:=Tryz.sizeOf99
  v32:=Tryz.zeroValue99
  t35:=underlying287
  a35:=Tryz.isAgg287
  z35:=Tryz.sizeOf287
  v35:=Tryz.zeroValue287
  t36:=underlying288
  a36:=Tryz.isAgg288
  z36:=Tryz.sizeOf288
  v36:=Tryz.zeroValue288
  t41:=underlying292
  a41:=Tryz.isAgg292
  z41:=Tryz.sizeOf292
  v41:=Tryz.zeroValue292
  t44:=underlying295
  a44:=Tryz.isAgg295
  z44:=Tryz.sizeOf295
  v44:=Tryz.zeroValue295
  t46:=underlying144
  a46:=Tryz.isAgg144
  z46:=Tryz.sizeOf144
  v46:=Tryz.zeroValue144
  t53:=underlying301
  a53:=Tryz.isAgg301
  z53:=Tryz.sizeOf301
  v53:=Tryz.zeroValue301
  t57:=underlying304
  a57:=Tryz.isAgg304
  z57:=Tryz.sizeOf304
  v57:=Tryz.zeroValue304
  t63:=underlying306
  a63:=Tryz.isAgg306
  z63:=Tryz.sizeOf306
  v63:=Tryz.zeroValue306
  t64:=underlying307
  a64:=Tryz.isAgg307
  z64:=Tryz.sizeOf307
  v64:=Tryz.zeroValue307}
end
section
open Go.Shelf
theorem uT{g n cap:Nat}{zs:List Int}(w:World)(ho:aA 2 w dA (some ⟨g,0,none⟩) n cap zs)(hn:n<=1000):
  Calls prog 155 #[.slice (some ⟨g,0,none⟩) n cap] w λe w'=>e=.returned (.tuple #[])/\∃srt:List Int,srt.Pairwise (·<=·)/\srt.Perm zs/\aA 2 w' dA (some ⟨g,0,none⟩) n cap srt/\w.grownBy w' (some g):=by
 have hl:=ho.len;obtain⟨_,Aa⟩:=(show w.ownsRow dA 2 1 (.slice (some ⟨g,0,none⟩) n cap) n (zs.map (Value.int .i64))from ho)
 rcases Aa with⟨e,_⟩ | ⟨g',cap',cur,e,hb,hc,h1,h2,h3,h4⟩
 .simp at e
 ·
  simp only[Value.slice.injEq,Option.some.injEq,Addr.mk.injEq,true_and]at e;obtain⟨⟨rfl,_⟩,rfl⟩:=e;rw[Nat.mul_one]at h4;subst hl;have hS:=AnyM.slices_Sort_int uS g 0 cap zs w (holds_of_blockI hc h4) (Array.getElem?_eq_some_iff.1 hc).1 (by omega);refine hS.mono ?_;rintro e w' ⟨rfl,n,os,rfl⟩;refine⟨rfl,zs.mergeSort λx y=>decide (x<=y),?_,List.mergeSort_perm _ _,?_,grownBy_sortedI _⟩
  .exact(List.pairwise_mergeSort (le:=λx y:Int=>decide (x<=y)) (λa b c h1 h2=>by simp at *;omega) (λa b=>by simp;omega) zs).imp (λh=>by simpa using h)
  .exact ownsRow_sortedI (by rw[List.length_mergeSort]) hb hc h1 h2 h3
set_option maxRecDepth 10000 in
theorem vA{h:Nat}{now sr:Int}{ab:Option Addr}{nb cb:Nat}{bs:List Int}{ai:Option Addr}{ni ci:Nat}{mb:Nat}{qs:List HJ}(who:Int)(w:World)(H:bq w dA h now sr ab nb cb bs ai ni ci mb qs)(hbn:M.bnGo 0 bs=true)(hw:M.wkOk who=true)(hno:bs.contains who=false)(mr:dA<=w.heap.size):
  Calls prog 101 #[tG h,it who] w λe w'=>e=.returned (.tuple #[])/\∃ab' cb',bq w' dA h now sr ab' (nb+1) cb' (M.banned bs who) ai ni ci mb qs/\Below dA w w':=by
 have HH:=Hd H;have Na:H7 (∀Aa:List Int,Aa.Pairwise (·<=·)->Aa.Perm (bs++[who])->Aa=M.banned bs who):=λAa h1 h2=>M.banned_sorted hbn hw hno h1 h2;have Ta:nb<=9:=(by have:=jh hbn;have:=H.b.len;omega);obtain⟨i0,hi,Ea,Fa,Ga⟩:=info_parts bF;have x2:=H.l.c 2;have Oa:(w.alloc (.cells #[it who] 2)).cell? ⟨h,2,none⟩=some (.slice ab nb cb):=(H.l.alloc _).at 2;have HD:=Hd ((bW.1 H.d).1.2.1);have Ha:=Hd H.lo;clear H hbn hw hno;go_enter func101,ntmps101;go_wp2_with(at_builtin;refine wpList_append_own_at _ rfl _ _ 24 rfl dA 2 i0 (it 0) 1 8 underlying24 hi Ea Fa Ga rfl (by decide) _ nb (bs.map (Value.int .i64)) rfl (xY HH.o.b _) ⟨w.heap.size,0,none⟩ 1 1 [it who] rfl rfl (br w _ _) (bL _) (by unfold maxLen;omega) (by omega) ?hs ?hk)
 case hs=>simp;exact Nat.le_succ_of_le mr
 case hk=>
  intro v' w7 Ia Ja _ Ka;have hown':w7.ownsRow dA 2 1 v' (nb+1) ((bs++[who]).map (Value.int .i64)):=(by rw[xU];exact Ia);obtain⟨ab',cb',rfl,ho⟩:=aA.form hown';have Ba:=(xC w _ _).trans Ja;have Ca:aw w7 h [it now,it sr,.slice ab nb cb,.slice ai ni ci,.map (some mb)]:=HH.o.l.grown Ba (λe=>HD.o (bA e));have La:=Ca.set 2 (by simp) (.slice ab' (nb+1) cb');have Da:=aV w7 ⟨h,2,none⟩ (.slice ab' (nb+1) cb');have HF:=Hd (HH.o.banned Ba ho (Nat.le_succ _) (by simpa using Ka) Da La);have Pa:=Hd ((ap Ba mr (λz e=>Ha.o z (by simp[dD,bA e]))).trans (ap Da (tr mr Ba.size) (λz e=>by rw[<-m2 e];exact Ha.o h (by simp[dD]))));have Qa:=tr (tr mr Ba.size) Da.size;have c2:=Ca.c 2;have f2:=Ca.fr 2;have y2:=HF.o.l.c 2
  obtain⟨g,rfl⟩:∃g,ab'=some ⟨g,0,none⟩:=by
   obtain⟨g,hg,_⟩:=aA.block ho (by omega);exact⟨g,hg⟩
  clear Ia hown' Ja Ka ho Ba Ca La Da hi Ea Fa Ga x2 Oa HH;(go_wp2_with fail);clear c2 f2 y2;generalize(w7.setCell ⟨h,2,none⟩ (.slice (some ⟨g,0,none⟩) (nb+1) cb'))=w8 at *;refine(uT w8 HF.o.b (by omega)).mono ?_;rintro e w9 ⟨rfl,Aa,h1,h2,h3,h4⟩;have Ra:H7 (bq w9 dA h now sr (some ⟨g,0,none⟩) (nb+1) cb' (M.banned bs who) ai ni ci mb qs):=HF.o.order (n:=0) (c:=0) h4 (by rw[<-Na.o Aa h1 h2];exact h3);have Sa:H7 (Below dA w w9):=Pa.o.trans (ap h4 Qa (λz e=>by rw[<-m2 e];exact HF.o.lo g (by simp[dD,ob])));clear h1 h2 h3 h4;go_wp2;exact bodyPost_end (v:=.tuple #[]) (by simp[results,results101,go_sem]) rfl ⟨rfl,_,_,Ra.o,Sa.o⟩
end
end Go.Proofs.YtbjalickbnpnkaaGreatDoor
