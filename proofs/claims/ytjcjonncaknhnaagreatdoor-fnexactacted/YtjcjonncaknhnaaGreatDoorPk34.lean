import Derived.Sort.OwnSortedInts
import Derived.Test.YtjcjonncaknhnaaGreatDoorPk21
namespace Go.Proofs.YtjcjonncaknhnaaGreatDoor
open Go.RowKit Go.Proofs.Tryz
set_option linter.unusedSimpArgs false
set_option maxHeartbeats 32000000
variable {i':Nat}
section
open Go.Shelf
theorem rD{g n cap:Nat}{zs:List Int}(w:World)(ho:ar 2 w i' (some ⟨g,0,none⟩) n cap zs)(hn:n≤1000):
  Calls prog 234 #[.slice (some ⟨g,0,none⟩) n cap] w fun e w'=>e=.returned (.tuple #[])∧∃srt:List Int,srt.Pairwise (·≤·)∧srt.Perm zs∧ar 2 w' i' (some ⟨g,0,none⟩) n cap srt∧w.grownBy w' (some g):=by
 have hl:zs.length=n:=ho.len;obtain⟨_,Aa⟩:=(show w.ownsRow i' 2 1 (.slice (some ⟨g,0,none⟩) n cap) n (zs.map (Value.int .i64))from ho)
 rcases Aa with⟨e,_⟩ | ⟨g',cap',cur,e,hb,hc,h1,h2,h3,h4⟩
 ·simp at e
 ·
  simp only[Value.slice.injEq,Option.some.injEq,Addr.mk.injEq,true_and]at e;obtain⟨⟨rfl,_⟩,rfl⟩:=e;rw[Nat.mul_one]at h4;subst hl;have hS:=AnyM.slices_Sort_int rC g 0 cap zs w (holds_of_blockI hc h4) (Array.getElem?_eq_some_iff.1 hc).1 (by omega);refine hS.mono ?_;rintro e w' ⟨rfl,n,os,rfl⟩;refine⟨rfl,zs.mergeSort fun x y=>decide (x≤y),?_,List.mergeSort_perm _ _,?_,grownBy_sortedI _⟩
  ·exact(List.pairwise_mergeSort (le:=fun x y:Int=>decide (x≤y)) (fun a b c h1 h2=>by simp at *;omega) (fun a b=>by simp;omega) zs).imp (fun h=>by simpa using h)
  ·exact ownsRow_sortedI (by rw[List.length_mergeSort]) hb hc h1 h2 h3
set_option maxRecDepth 10000 in
theorem rX{h:Nat}{now tj:Int}{ab:Option Addr}{nb cb:Nat}{bs:List Int}{ai:Option Addr}{ni ci:Nat}{mb:Nat}{qs:List HJ}(who:Int)(w:World)(H:aP w i' h now tj ab nb cb bs ai ni ci mb qs)(hbn:M.bnGo 0 bs=true)(hw:M.wkOk who=true)(hno:bs.contains who=false)(tf:i'≤w.heap.size):
  Calls prog 161 #[.pointer (some ⟨h,0,none⟩),.int .i64 who] w fun e w'=>e=.returned (.tuple #[])∧∃ab' cb',aP w' i' h now tj ab' (nb+1) cb' (M.banned bs who) ai ni ci mb qs∧Below i' w w':=by
 have HH:=Hd (H);have Na:H9 (∀Aa:List Int,Aa.Pairwise (·≤·)→Aa.Perm (bs++[who])→Aa=M.banned bs who):=fun Aa h1 h2=>M.banned_sorted hbn hw hno h1 h2;have Ta:nb≤9:=(by have:=gK hbn;have:=H.b.len;omega);obtain⟨i0,hi,Ea,Fa,Ga⟩:=info_parts cn;have x2:w.cell? ⟨h,2,none⟩=some (.slice ab nb cb):=H.l.at 2;have Oa:(w.alloc (.cells #[it who] 2)).cell? ⟨h,2,none⟩=some (.slice ab nb cb):=(H.l.alloc _).at 2;have HD:H9 (h∉ob ab):=(bJ.1 H.d).1.2.1;have Ha:H9 (∀g∈cW h mb ab ai qs,i'≤g):=H.lo;clear H hbn hw hno;go_enter func161,ntmps161;go_wp2_with(at_builtin;refine wpList_append_own_at _ rfl _ _ 24 rfl i' 2 i0 (it 0) 1 8 underlying24 hi Ea Fa Ga rfl (by decide) _ nb (bs.map (Value.int .i64)) rfl (uc HH.o.b _) ⟨w.heap.size,0,none⟩ 1 1 [it who] rfl rfl (b7 w _ _) (cJ _) (by unfold maxLen;omega) (by omega) ?hs ?hk)
 case hs=>simp;exact Nat.le_succ_of_le tf
 case hk=>
  intro v' w7 Ia Ja _ Ka;have hown':w7.ownsRow i' 2 1 v' (nb+1) ((bs++[who]).map (Value.int .i64)):=(by rw[t8];exact Ia);obtain⟨ab',cb',rfl,ho⟩:=ar.form hown';have Ba:w.grownBy w7 (Value.slice ab nb cb).ownBlock:=(tO w _ _).trans Ja;have Ca:ae w7 h [it now,it tj,.slice ab nb cb,.slice ai ni ci,.map (some mb)]:=HH.o.l.grown Ba (fun e=>HD.o (aZ e));have La:=Ca.set 2 (by simp) (.slice ab' (nb+1) cb');have Da:=aM w7 ⟨h,2,none⟩ (.slice ab' (nb+1) cb');have HF:H9 (aP (w7.setCell ⟨h,2,none⟩ (.slice ab' (nb+1) cb')) i' h now tj ab' (nb+1) cb' (bs++[who]) ai ni ci mb qs):=HH.o.banned Ba ho (Nat.le_succ _) (by simpa using Ka) Da La;have Pa:H9 (Below i' w (w7.setCell ⟨h,2,none⟩ (.slice ab' (nb+1) cb'))):=(ac Ba tf (fun z e=>Ha.o z (by simp[cW,aZ e]))).trans (ac Da (tB tf Ba.size) (fun z e=>by rw[←tm e];exact Ha.o h (by simp[cW])));have Qa:i'≤(w7.setCell ⟨h,2,none⟩ (.slice ab' (nb+1) cb')).heap.size:=tB (tB tf Ba.size) Da.size;have c2:=Ca.c 2;have f2:=Ca.fr 2;have y2:(w7.setCell ⟨h,2,none⟩ (.slice ab' (nb+1) cb')).cell? ⟨h,2,none⟩=some (.slice ab' (nb+1) cb'):=HF.o.l.at 2
  obtain⟨g,rfl⟩:∃g,ab'=some ⟨g,0,none⟩:=by
   obtain⟨g,hg,_⟩:=ar.block ho (by omega);exact⟨g,hg⟩
  clear Ia hown' Ja Ka ho Ba Ca La Da hi Ea Fa Ga x2 Oa HH;(go_wp2_with fail);clear c2 f2 y2;generalize(w7.setCell ⟨h,2,none⟩ (.slice (some ⟨g,0,none⟩) (nb+1) cb'))=w8 at *;refine(rD w8 HF.o.b (by omega)).mono ?_;rintro e w9 ⟨rfl,Aa,h1,h2,h3,h4⟩;have Ra:H9 (aP w9 i' h now tj (some ⟨g,0,none⟩) (nb+1) cb' (M.banned bs who) ai ni ci mb qs):=HF.o.order (n:=0) (c:=0) h4 (by rw[←Na.o Aa h1 h2];exact h3);have Sa:H9 (Below i' w w9):=Pa.o.trans (ac h4 Qa (fun z e=>by rw[←tm e];exact HF.o.lo g (by simp[cW,ob])));clear h1 h2 h3 h4;go_wp2;exact bodyPost_end (v:=.tuple #[]) (by simp[results,results161,go_sem]) rfl ⟨rfl,_,_,Ra.o,Sa.o⟩
end
end Go.Proofs.YtjcjonncaknhnaaGreatDoor
