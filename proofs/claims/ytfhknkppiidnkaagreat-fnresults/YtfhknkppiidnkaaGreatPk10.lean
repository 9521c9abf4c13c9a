import Derived.Deep.QuietTactic
import Derived.BigQuiet
import Derived.WalkSpells
import Derived.OpenShut
import Derived.Maps.AppendAt
import Derived.Maps.Range
import Derived.Test.YtfhknkppiidnkaaGreatPk00
import Derived.Test.YtfhknkppiidnkaaGreatPk01
import Derived.Test.YtfhknkppiidnkaaGreatPk08
import Derived.Test.YtfhknkppiidnkaaGreatPk03
import Derived.Test.YtfhknkppiidnkaaGreatPk09
import Derived.Test.YtfhknkppiidnkaaGreatPk02
namespace Go.Proofs.YtfhknkppiidnkaaGreat
open Go.RowKit
def M.pfn (m:M.Mc) (s:Int×Int) (n:Int):Nat:=if M.provOk m s n=true then 4*n.toNat else 0
theorem M.pfn_le (m:M.Mc) (s:Int×Int) (n:Int):M.pfn m s n≤64:=by
 unfold M.pfn
 split
 ·
  rename_i h;obtain ⟨-,-,N,rfl,hN⟩:=M.provOk_parts h;have:=M.rowsN_pos hN;omega
 · omega
def ProvPost (m:M.Mc) (s:Int×Int) (n:Int) (w:World) (e:Ending) (w':World):Prop:=
 ∃ (a1:Option Addr) (c1:Nat) (a2:Option Addr) (c2:Nat) (a3:Option Addr) (c3:Nat) (a4:Option Addr) (c4:Nat),e=.returned (.tuple #[.agg #[.int .i64 (M.prv m s n).s.1,.int .i64 (M.prv m s n).s.2,.int .i64 (M.prv m s n).e.1,.int .i64 (M.prv m s n).e.2,.slice a1 (M.pfn m s n) c1,.slice a2 (M.pfn m s n) c2,.slice a3 (M.pfn m s n) c3,.slice a4 (M.pfn m s n) c4],.bool (M.provOk m s n)]) ∧
  (Owns 2 w' w.heap.size a1 (M.pfn m s n) c1 (M.prv m s n).X∧Owns 2 w' w.heap.size a2 (M.pfn m s n) c2 (M.prv m s n).Y∧Owns 2 w' w.heap.size a3 (M.pfn m s n) c3 (M.prv m s n).QX∧Owns 2 w' w.heap.size a4 (M.pfn m s n) c4 (M.prv m s n).QY)∧(far a1 a2∧far a1 a3∧far a1 a4∧far a2 a3∧far a2 a4∧far a3 a4)∧Below w.heap.size w w'
theorem provPost_out {m:M.Mc} {s:Int×Int} {n:Int} {w w':World} {e:Ending} (h:M.provOk m s n=false) (he:e=.returned (.tuple #[.agg #[.int .i64 0,.int .i64 0,.int .i64 0,.int .i64 0,.slice none 0 0,.slice none 0 0,.slice none 0 0,.slice none 0 0],.bool false])) (hb:Below w.heap.size w w'):ProvPost m s n w e w':=by
 have e1:M.prv m s n=M.Pf.zero:=M.prv_out h;have e2:M.pfn m s n=0:=if_neg (by rw [h];decide);unfold ProvPost;rw [e1,e2,h];exact ⟨none,0,none,0,none,0,none,0,he,⟨Owns.empty _ _ _,Owns.empty _ _ _,Owns.empty _ _ _,Owns.empty _ _ _⟩,⟨none_far _,none_far _,none_far _,none_far _,none_far _,none_far _⟩,hb⟩
theorem specProved_any (m:M.Mc) (s:Int×Int) (n:Int) (w:World):Calls Tryz.prog 45 #[mcv m,stv s,.int .i64 n] w (ProvPost m s n w):=by
 cases h:M.provOk m s n with
 | false=>exact (specProved_out m s n w h).mono fun e w' ⟨h1,h2⟩=>provPost_out h h1 h2
 | true =>
  obtain ⟨hm,hs,N,rfl,hN⟩:=M.provOk_parts h;refine (specProved_in m s N w hm hs hN).mono fun e w' hp=>?_;have e1:M.prv m s N=m.pf s N:=M.prv_in h;have e2:M.pfn m s N=4*N:=if_pos h;unfold ProvPost;rw [e1,e2,h];exact hp
def Row (k:IntKind) (w:World) (a:Option Addr) (len cap:Nat) (zs:List Int):Prop:=
 (a=none∧len=0∧cap=0∧zs=[]) ∨
 ∃ x,a=some x∧len≤cap∧cap≤maxLen∧zs.length=cap∧(∀ i,i<zs.length→w.cell? (x.add i)=some (.int k (zs.getD i 0)))∧∀ n∈zs,(Lit.int k n).wf=true
structure Rd (w0 : World) (R : Nat) (a : Option Addr) (len cap : Nat) (w : World) : Prop where
 below:Below w0.heap.size w0 w
 lo:w0.heap.size≤R
 hi:R<w.heap.size
 cb:w.cell? ⟨R,0,none⟩=some (.slice a len cap)
 cp:∃ p:Nat,p≤len∧w.cell? ⟨R,1,none⟩=some (.int .i64 p)
 fr:w.frozen? ⟨R,1,none⟩=false
theorem row_byte {w0:World} {a:Option Addr} {len cap:Nat} {zs:List Int} (h:Row .u8 w0 a len cap zs) (p:Nat) (hp:p<len) :
  ∃ b off z,a=some ⟨b,off,none⟩∧b<w0.heap.size∧0≤z∧z≤255∧w0.cell? ⟨b,off+p,none⟩=some (.int .u8 z)∧len≤cap∧(len:Int)≤9223372036854775807:=by
 rcases h with ⟨_,rfl,_,_⟩ | ⟨x,rfl,hl,hm,hz,hc,hw⟩
 · omega
 ·
  obtain ⟨b,off,rfl,Ba⟩:=ints_at hc (by omega);have h2:=Ba p (by omega);have hb:=World.block_lt_of_cell? w0 ⟨b,off+p,none⟩ h2;have Ca:=hw (zs.getD p 0) (by rw [List.getD_eq_getElem?_getD,List.getElem?_eq_getElem (by omega)];exact List.getElem_mem _);have Aa:=bounds_u8 Ca;unfold maxLen at hm;exact ⟨b,off,_,rfl,hb,Aa.1,Aa.2,h2,hl,by omega⟩
theorem grown_drewN {w w':World} {row:Option Nat} (h:w.grownBy w' row) (n:Nat):w.grownBy (w'.drewN n) row:=⟨h.os,h.tape,h.output,h.size,h.block⟩
theorem grown_set {w w':World} {b:Nat} (h:w.grownBy w' (some b)) (a:Addr) (ha:a.block=b) (v:Value):w.grownBy (w'.setCell a v) (some b):=
 ⟨h.os,h.tape,h.output,by simpa [World.setCell] using h.size,fun k hk hne=>(Below.heap_setCell _ _ _ _ (by intro e;exact hne (by rw [e,ha]))).trans (h.block k hk hne)⟩
theorem rd_step {w0 w:World} {R:Nat} {a:Option Addr} {len cap:Nat} (h:Rd w0 R a len cap w) (q:Nat) (hq:q≤len) (n m:Nat) :
  Rd w0 R a len cap (((w.drewN n).setCell ⟨R,1,none⟩ (.int .i64 q)).drewN m)∧w.grownBy (((w.drewN n).setCell ⟨R,1,none⟩ (.int .i64 q)).drewN m) (some R):=by
 obtain ⟨p,hp,Aa⟩:=h.cp;have h1:(w.drewN n).cell? ⟨R,1,none⟩=some (it p):=Aa;have h0:(w.drewN n).cell? ⟨R,0,none⟩=some (.slice a len cap):=h.cb;refine ⟨⟨Below.drewN' ((Below.drewN' h.below n).setCell h.lo _) m,h.lo,?_,?_,⟨q,hq,?_⟩,?_⟩,?_⟩
 ·
  show R<((w.drewN n).setCell ⟨R,1,none⟩ (it q)).heap.size;rw [World.size_setCell];exact h.hi
 ·
  show ((w.drewN n).setCell ⟨R,1,none⟩ (it q)).cell? ⟨R,0,none⟩=_;exact (World.cell?_setCell_other (w:=w.drewN n) (a:=⟨R,1,none⟩) (b:=⟨R,0,none⟩) (v:=it q) (h:=by simp)).trans h0
 ·
  show ((w.drewN n).setCell ⟨R,1,none⟩ (it q)).cell? ⟨R,1,none⟩=_;exact World.cell?_setCell_same (w:=w.drewN n) (a:=⟨R,1,none⟩) (v:=it q) (h:=h1)
 ·
  show ((w.drewN n).setCell ⟨R,1,none⟩ (it q)).frozen? ⟨R,1,none⟩=_;rw [World.frozen?_setCell];exact h.fr
 · exact grown_drewN (grown_set (grown_drewN (World.grownBy.refl _ _) n) _ rfl _) m
set_option maxHeartbeats 1000000 in
theorem next_any {w0:World} {R:Nat} {a:Option Addr} {len cap:Nat} {zs:List Int} (hrow:Row .u8 w0 a len cap zs) (w:World) (h:Rd w0 R a len cap w) :
  Calls Tryz.prog 47 #[.pointer (some ⟨R,0,none⟩)] w fun e w'=>∃ v:Int,0≤v∧v≤255∧e=.returned (.int .i64 v)∧Rd w0 R a len cap w'∧w.grownBy w' (some R):=by
 obtain ⟨hb,Aa,Ba,Ca,⟨p,hp,Da⟩,Ea⟩:=h;by_cases Fa:p<len
 ·
  obtain ⟨b,Ga,z,rfl,Ha,z0,z1,hc,Ia,hl⟩:=row_byte hrow p Fa;have hc':w.cell? ⟨b,Ga+p,none⟩=some (.int .u8 z):=(hb.cell (p:=⟨b,Ga+p,none⟩) Ha).trans hc;have HB:=Hd (hb);have Ja:b<R:=(by omega);have Ka:(p:Int)<(len:Int):=(by omega);have hg:¬ (len:Int)≤(p:Int):=(by omega);clear hb hrow hc Fa;go_enter Tryz.func47,Tryz.ntmps47;go_wp2
  go_quiet (fail)
  go_wp2
  go_quiet (fail)
  go_wp2;go_ret;exact ⟨z,z0,z1,rfl,rd_step ⟨HB.o,Aa,Ba,Ca,⟨p,hp,Da⟩,Ea⟩ (p+1) (by omega) _ _⟩
 ·
  have HB:=Hd (hb);clear hb;go_enter Tryz.func47,Tryz.ntmps47;go_wp2
  go_quiet (fail)
  go_wp2;go_ret;exact ⟨0,by omega,by omega,rfl,⟨Below.drewN' HB.o _,Aa,Ba,Ca,⟨p,hp,Da⟩,Ea⟩,grown_drewN (World.grownBy.refl _ _) _⟩
set_option maxHeartbeats 1000000 in
theorem below_any {w0:World} {R:Nat} {a:Option Addr} {len cap:Nat} {zs:List Int} (hrow:Row .u8 w0 a len cap zs) (n:Int) (n0:1≤n) (n1:n≤65536) (w:World) (h:Rd w0 R a len cap w) :
  Calls Tryz.prog 20 #[.pointer (some ⟨R,0,none⟩),.int .i64 n] w fun e w'=>∃ v:Int,0≤v∧v<n∧e=.returned (.int .i64 v)∧Rd w0 R a len cap w'∧w.grownBy w' (some R):=by
 have HR:=Hd (hrow);have H:=Hd (h);clear hrow h;by_cases h1:n≤1
 ·
  go_enter Tryz.func20,Tryz.ntmps20;go_wp2;go_ret;exact ⟨0,by omega,by omega,rfl,H.o,World.grownBy.refl _ _⟩
 ·
  by_cases h2:n≤256
  ·
   go_enter Tryz.func20,Tryz.ntmps20;(go_wp2_with fail);refine (next_any HR.o _ H.o).mono ?_;rintro e w1 ⟨v,v0,v1,rfl,hr,hg⟩;have Aa:=Hd (hr);have Ba:=Hd (hg);clear hr hg;go_wp2;go_ret;exact ⟨v % n,Int.emod_nonneg _ (by omega),Int.emod_lt_of_pos _ (by omega),rfl,Aa.o,Ba.o⟩
  ·
   go_enter Tryz.func20,Tryz.ntmps20;(go_wp2_with fail);refine (next_any HR.o _ H.o).mono ?_;rintro e w1 ⟨v,v0,v1,rfl,hr,hg⟩;have Aa:=Hd (hr);have Ba:=Hd (hg);clear hr hg;(go_wp2_with fail);refine (next_any HR.o _ Aa.o).mono ?_;rintro e w2 ⟨u,u0,u1,rfl,hr,hg⟩;have Ca:=Hd (hr);have Da:=Hd (hg);clear hr hg;go_wp2;go_ret;exact ⟨(v*256+u) % n,Int.emod_nonneg _ (by omega),Int.emod_lt_of_pos _ (by omega),rfl,Ca.o,Ba.o.trans Da.o⟩
set_option maxHeartbeats 1000000 in
theorem once_any {w0:World} {R:Nat} {a:Option Addr} {len cap:Nat} {zs:List Int} (hrow:Row .u8 w0 a len cap zs) (n:Int) (n0:1≤n) (n1:n≤65536) (w:World) (h:Rd w0 R a len cap w) :
  Calls Tryz.prog 18 #[.pointer (some ⟨R,0,none⟩),.int .i64 n] w fun e w'=>∃ v:Bool,e=.returned (.bool v)∧Rd w0 R a len cap w'∧w.grownBy w' (some R):=by
 have HR:=Hd (hrow);have H:=Hd (h);clear hrow h;go_enter Tryz.func18,Tryz.ntmps18;(go_wp2_with fail);refine (below_any HR.o n n0 n1 _ H.o).mono ?_;rintro e w1 ⟨v,v0,v1,rfl,hr,hg⟩;have Aa:=Hd (hr);have Ba:=Hd (hg);clear hr hg;go_wp2;go_ret;exact ⟨_,rfl,Aa.o,Ba.o⟩
set_option maxHeartbeats 1000000 in
theorem word_any {w0:World} {R:Nat} {a:Option Addr} {len cap:Nat} {zs:List Int} (hrow:Row .u8 w0 a len cap zs) (w:World) (h:Rd w0 R a len cap w) :
  Calls Tryz.prog 105 #[.pointer (some ⟨R,0,none⟩)] w fun e w'=>∃ v:Int,(Lit.int .u64 v).wf=true∧e=.returned (.int .u64 v)∧Rd w0 R a len cap w'∧w.grownBy w' (some R):=by
 have HR:=Hd (hrow);have H:=Hd (h);clear hrow h;go_enter Tryz.func105,Tryz.ntmps105;go_wp2
 go_loopw [3,4] (fun x i wr=>∃ (xv:Int) (k:Nat),k≤8∧x=.int .u64 xv∧i=it k∧(Lit.int .u64 xv).wf=true∧Rd w0 R a len cap wr∧w.grownBy wr (some R)) (fun _ i _=>8-(intOf i).toNat)
 case atStart=>exact ⟨0,0,by omega,rfl,rfl,by decide,H.o,World.grownBy.refl _ _⟩
 case round =>
  obtain ⟨xv,k,hk,rfl,rfl,Aa,hr,hg⟩:=hrel;have HW:=Hd (Aa);have Ba:=Hd (hr);have Ca:=Hd (hg);have hx:=bounds_u64 Aa;obtain ⟨x0,x1⟩:=hx;clear Aa hr hg H;by_cases Fa:k<8
  ·
   (go_wp2_with fail);refine (next_any HR.o _ Ba.o).mono ?_;rintro e w1 ⟨v,v0,v1,rfl,hr,hg⟩;have Da:=Hd (hr);have Ea:=Hd (hg);clear hr hg;go_wp2;go_roundw
   case rel=>exact ⟨_,k+1,by omega,rfl,by go_num,wf_bits _ _ _ _,Da.o,Ca.o.trans Ea.o⟩
   case measure=>simp [intOf];omega
  ·
   go_wp2;go_ret;exact ⟨_,HW.o,rfl,Ba.o,Ca.o⟩
set_option maxHeartbeats 1000000 in
theorem near_any {w0:World} {R:Nat} {a:Option Addr} {len cap:Nat} {zs:List Int} (hrow:Row .u8 w0 a len cap zs) (lo hi:Int) (l0:0≤lo) (lh:lo≤hi) (h1:hi≤4611686018427387904) (w:World) (h:Rd w0 R a len cap w) :
  Calls Tryz.prog 76 #[.pointer (some ⟨R,0,none⟩),.int .i64 lo,.int .i64 hi] w fun e w'=>∃ v:Int,lo≤v∧v≤hi∧e=.returned (.int .i64 v)∧Rd w0 R a len cap w'∧w.grownBy w' (some R):=by
 have HR:=Hd (hrow);have H:=Hd (h);clear hrow h;have Ga:¬ hi<lo:=(by omega);go_enter Tryz.func76,Tryz.ntmps76;(go_wp2_with fail);refine (below_any HR.o 8 (by omega) (by omega) _ H.o).mono ?_;rintro e w1 ⟨v,v0,v1,rfl,hr,hg⟩;have Aa:=Hd (hr);have Ba:=Hd (hg);clear hr hg;by_cases e0:v=0
 ·
  subst e0;go_wp2;go_ret;exact ⟨lo,by omega,by omega,rfl,Aa.o,Ba.o⟩
 ·
  by_cases e1:v=1
  ·
   subst e1;go_wp2;go_ret;exact ⟨hi,by omega,by omega,rfl,Aa.o,Ba.o⟩
  ·
   have b0:(v == 0)=false:=(by simp [e0]);have b1:(v == 1)=false:=(by simp [e1]);clear e0 e1;(go_wp2_with fail);refine (word_any HR.o _ Aa.o).mono ?_;rintro e w2 ⟨x,hx,rfl,hr,hg⟩;have Ea:=Hd (hr);have Fa:=Hd (hg);obtain ⟨x0,x1⟩:=bounds_u64 hx;clear hr hg hx;have Ca:0≤x / 2 % (hi-lo+1):=Int.emod_nonneg _ (by omega);have Da:x / 2 % (hi-lo+1)<hi-lo+1:=Int.emod_lt_of_pos _ (by omega);have HM:H9 (0≤x / 2 % (hi-lo+1)∧x / 2 % (hi-lo+1)<hi-lo+1):=⟨Ca,Da⟩;clear Ca Da;go_wp2;go_ret;have hm:=HM.o;exact ⟨lo+x / 2 % (hi-lo+1),by omega,by omega,ret_int (by rw [IntWalk.wrap64_in (x / 2 % (hi-lo+1)) ⟨by omega,by omega⟩,IntWalk.wrap64_in _ ⟨by omega,by omega⟩]),Ea.o,Ba.o.trans Fa.o⟩
theorem Rd.alloc {w0 w:World} {R:Nat} {a:Option Addr} {len cap:Nat} (h:Rd w0 R a len cap w) (o:Obj):Rd w0 R a len cap (w.alloc o):=by
 have hg:=World.grownBy_alloc w o none;obtain ⟨p,hp,Aa⟩:=h.cp;have hs:R<(w.alloc o).heap.size:=Nat.lt_of_lt_of_le h.hi hg.size;refine ⟨h.below.alloc (Nat.le_trans h.lo (Nat.le_of_lt h.hi)) o,h.lo,hs,hg.cell h.cb (by simp),⟨p,hp,hg.cell Aa (by simp)⟩,?_⟩;exact (World.frozen?_of_block (a:=⟨R,1,none⟩) (hg.block R h.hi (by simp))).trans h.fr
theorem grown_alloc_then {w w':World} {R:Nat} {o:Obj} (h:(w.alloc o).grownBy w' (some R)):w.grownBy w' (some R):=
 (World.grownBy_alloc w o (some R)).trans h
theorem alloc_cell (w:World) (cs:Array Value) (t:TypeId) (j:Nat) (u:Value) (h:cs[j]? = some u):(w.alloc (.cells cs t)).cell? ⟨w.heap.size,j,none⟩=some u:=by
 rw [World.cell?_alloc_new];exact h
set_option maxHeartbeats 1000000 in
theorem off_any {w0:World} {R:Nat} {a:Option Addr} {len cap:Nat} {zs:List Int} (hrow:Row .u8 w0 a len cap zs) (lo hi:Int) (l0:0≤lo) (lh:lo≤hi) (h1:hi≤4611686018427387904) (w:World) (h:Rd w0 R a len cap w) :
  Calls Tryz.prog 42 #[.pointer (some ⟨R,0,none⟩),.int .i64 lo,.int .i64 hi] w fun e w'=>∃ v:Int,-9223372036854775808≤v∧v≤9223372036854775807∧e=.returned (.int .i64 v)∧Rd w0 R a len cap w'∧w.grownBy w' (some R):=by
 have HR:=Hd (hrow);have H:=Hd (h);clear hrow h;go_enter Tryz.func42,Tryz.ntmps42;(go_wp2_with fail);refine (once_any HR.o 24 (by omega) (by omega) _ H.o).mono ?_;rintro e w1 ⟨v,rfl,hr,hg⟩;have Ba:=Hd (hr);have Ea:=Hd (hg);clear hr hg
 cases v with
 | true =>
  (go_wp2_with fail);refine (below_any HR.o 4 (by omega) (by omega) _ (Ba.o.alloc _)).mono ?_;rintro e w2 ⟨x,x0,x1,rfl,hr,hg⟩;have Aa:w1.heap.size≠R:=(by have:=Ba.o.hi;omega);have c0:=hg.cell (alloc_cell w1 _ _ 0 _ rfl) (by simpa using Aa);have c1:=hg.cell (alloc_cell w1 _ _ 1 _ rfl) (by simpa using Aa);have c2:=hg.cell (alloc_cell w1 _ _ 2 _ rfl) (by simpa using Aa);have c3:=hg.cell (alloc_cell w1 _ _ 3 _ rfl) (by simpa using Aa);have Ca:=Hd (hr);have Da:H9 (w1.grownBy w2 (some R)):=grown_alloc_then hg;clear hr hg;have hx:x=0∨x=1∨x=2∨x=3:=by omega
  rcases hx with rfl | rfl | rfl | rfl
  all_goals
   go_wp2;go_ret;exact ⟨_,by omega,by omega,rfl,Ca.o,Ea.o.trans Da.o⟩
 | false =>
  (go_wp2_with fail);refine (near_any HR.o lo hi l0 lh h1 _ Ba.o).mono ?_;rintro e w2 ⟨x,x0,x1,rfl,hr,hg⟩;have Ca:=Hd (hr);have Da:=Hd (hg);clear hr hg;go_wp2;go_ret;exact ⟨x,by omega,by omega,rfl,Ca.o,Ea.o.trans Da.o⟩
set_option maxHeartbeats 2000000 in
theorem elem_any {w0:World} {R:Nat} {a:Option Addr} {len cap:Nat} {zs:List Int} (hrow:Row .u8 w0 a len cap zs) (w:World) (h:Rd w0 R a len cap w) :
  Calls Tryz.prog 104 #[.pointer (some ⟨R,0,none⟩)] w fun e w'=>∃ v:Int,-9223372036854775808≤v∧v≤9223372036854775807∧e=.returned (.int .i64 v)∧Rd w0 R a len cap w'∧w.grownBy w' (some R):=by
 have HR:=Hd (hrow);have H:=Hd (h);clear hrow h;go_enter Tryz.func104,Tryz.ntmps104;(go_wp2_with fail);refine (below_any HR.o 6 (by omega) (by omega) _ H.o).mono ?_;rintro e w1 ⟨v,v0,v1,rfl,hr,hg⟩;have Ca:=Hd (hr);have Da:=Hd (hg);clear hr hg;by_cases e1:v=1
 ·
  subst e1;(go_wp2_with fail);refine (below_any HR.o 3 (by omega) (by omega) _ Ca.o).mono ?_;rintro e w2 ⟨x,x0,x1,rfl,hr,hg⟩;have Aa:=Hd (hr);have Ba:=Hd (hg);clear hr hg;go_wp2;go_ret;exact ⟨65536-x,by omega,by omega,rfl,Aa.o,Da.o.trans Ba.o⟩
 ·
  by_cases e2:v=2
  ·
   subst e2;(go_wp2_with fail);refine (word_any HR.o _ Ca.o).mono ?_;rintro e w2 ⟨x,hx,rfl,hr,hg⟩;have Aa:=Hd (hr);have Ba:=Hd (hg);obtain ⟨x0,x1⟩:=bounds_u64 hx;clear hr hg hx;go_wp2;go_ret;exact ⟨x % 65537,by omega,by omega,rfl,Aa.o,Da.o.trans Ba.o⟩
  ·
   by_cases e3:v=3
   ·
    subst e3;(go_wp2_with fail);refine (off_any HR.o 0 65536 (by omega) (by omega) (by omega) _ Ca.o).mono ?_;rintro e w2 ⟨x,x0,x1,rfl,hr,hg⟩;have Aa:=Hd (hr);have Ba:=Hd (hg);clear hr hg;go_wp2;go_ret;exact ⟨x,x0,x1,rfl,Aa.o,Da.o.trans Ba.o⟩
   ·
    have b1:(v == 1)=false:=(by simp [e1]);have b2:(v == 2)=false:=(by simp [e2]);have b3:(v == 3)=false:=(by simp [e3]);clear e1 e2 e3;(go_wp2_with fail);refine (below_any HR.o 6 (by omega) (by omega) _ Ca.o).mono ?_;rintro e w2 ⟨x,x0,x1,rfl,hr,hg⟩;have Aa:=Hd (hr);have Ba:=Hd (hg);clear hr hg;go_wp2;go_ret;exact ⟨x,by omega,by omega,rfl,Aa.o,Da.o.trans Ba.o⟩
set_option maxHeartbeats 1000000 in
theorem open_any {a:Option Addr} {len cap:Nat} (w:World) :
  Calls Tryz.prog 16 #[.slice a len cap] w fun e w'=>e=.returned (.pointer (some ⟨w.heap.size,0,none⟩))∧Rd w w.heap.size a len cap w':=by
 go_enter Tryz.func16,Tryz.ntmps16;go_wp2;go_ret;refine ⟨rfl,⟨(Below.refl _ _).alloc (Nat.le_refl _) _,Nat.le_refl _,by simp,alloc_cell _ _ _ 0 _ rfl,⟨0,Nat.zero_le _,alloc_cell _ _ _ 1 _ rfl⟩,?_⟩⟩;simp
set_option maxHeartbeats 400000 in
theorem big_any (a:Option Addr) (len cap:Nat) (w:World) :
  Calls Tryz.prog 5 #[.slice a len cap] w fun e w'=>e=.returned (.bool (decide ((1048576:Int)<(len:Int))))∧w'=w:=by
 go_enter Tryz.func5,Tryz.ntmps5;go_wp2;go_ret;exact ⟨rfl,rfl⟩
theorem Rd.keep {w0 w w':World} {R:Nat} {a b:Option Addr} {len cap n c:Nat} (h:Rd w0 R a len cap w) (hg:w.grownBy w' (Value.slice b n c).ownBlock) (hne:∀ x,b=some x→x.block≠R) (hlo:∀ x,b=some x→w0.heap.size≤x.block):Rd w0 R a len cap w':=by
 have hR:some R≠(Value.slice b n c).ownBlock:=by
  cases b with
  | none=>simp [Value.ownBlock]
  | some x=>have:=hne x rfl;simp [Value.ownBlock];omega
 obtain ⟨p,hp,Aa⟩:=h.cp;refine ⟨h.below.grown hg (Nat.le_trans h.lo (Nat.le_of_lt h.hi)) (fun k hk=>?_),h.lo,Nat.lt_of_lt_of_le h.hi hg.size,hg.cell h.cb hR,⟨p,hp,hg.cell Aa hR⟩,?_⟩
 ·
  cases b with
  | none=>simp [Value.ownBlock] at hk
  | some x=>simp [Value.ownBlock] at hk;have:=hlo x rfl;omega
 · exact (World.frozen?_of_block (a:=⟨R,1,none⟩) (hg.block R h.hi hR)).trans h.fr
theorem Rd.grow {w0 w w':World} {R:Nat} {a:Option Addr} {len cap:Nat} (h:Rd w0 R a len cap w) (hb:Below w.heap.size w w'):Rd w0 R a len cap w':=by
 have hg:w.grownBy w' none:=⟨hb.os,hb.tape,hb.output,hb.size,fun k hk _=>hb.block k hk⟩;obtain ⟨p,hp,Aa⟩:=h.cp;refine ⟨h.below.trans (hb.mono (Nat.le_trans h.lo (Nat.le_of_lt h.hi))),h.lo,Nat.lt_of_lt_of_le h.hi hb.size,hg.cell h.cb (by simp),⟨p,hp,hg.cell Aa (by simp)⟩,?_⟩;exact (World.frozen?_of_block (a:=⟨R,1,none⟩) (hg.block R h.hi (by simp))).trans h.fr
theorem Rd.cells {w0 w:World} {R b o:Nat} {ca:Option Addr} {len cap:Nat} (h:Rd w0 R ca len cap w) (hb:w0.heap.size≤b) (hne:b≠R) (us:List Value):Rd w0 R ca len cap (w.setCells b o us):=
 h.keep (b:=some ⟨b,0,none⟩) (n:=1) (c:=1) (grown_cells (World.grownBy.refl _ _) o us) (fun x hx=>by injection hx with hx;subst hx;exact hne) (fun x hx=>by injection hx with hx;subst hx;exact hb)
theorem grown_farS {a w:World} {row:Option Nat} {b i:Nat} {v:Value} (h:a.grownBy w row) (hb:a.heap.size≤b):a.grownBy (w.setCell ⟨b,i,none⟩ v) row:=
 ⟨h.os,h.tape,h.output,by simpa [World.setCell] using h.size,fun j hj hne=>(Below.heap_setCell _ _ _ _ (by show j≠b;omega)).trans (h.block j hj hne)⟩
theorem Rd.setS {w0 w:World} {R b i:Nat} {ca:Option Addr} {len cap:Nat} {v:Value} (h:Rd w0 R ca len cap w) (hb:w0.heap.size≤b) (hne:b≠R):Rd w0 R ca len cap (w.setCell ⟨b,i,none⟩ v):=
 h.keep (b:=some ⟨b,0,none⟩) (n:=1) (c:=1) (grown_set (World.grownBy.refl _ _) ⟨b,i,none⟩ rfl v) (fun x hx=>by injection hx with hx;subst hx;exact hne) (fun x hx=>by injection hx with hx;subst hx;exact hb)
theorem Sees.setS {w:World} {a:Option Addr} {n c b i:Nat} {z:List Int} {v:Value} (h:Sees w a n c z) (hb:∀ x,a=some x→x.block≠b):Sees (w.setCell ⟨b,i,none⟩ v) a n c z:=
 h.grownR (grown_set (World.grownBy.refl _ _) ⟨b,i,none⟩ rfl v) (fun x hx e=>hb x hx (Option.some.inj e).symm)
theorem grown_newR {a w w':World} {row:Option Nat} {b:Nat} (h:a.grownBy w row) (hg:w.grownBy w' (some b)) (hb:a.heap.size≤b):a.grownBy w' row:=
 ⟨hg.os.trans h.os,hg.tape.trans h.tape,hg.output.trans h.output,Nat.le_trans h.size hg.size,fun i hi hr=>(hg.block i (Nat.lt_of_lt_of_le hi h.size) (fun e=>by have:=Option.some.inj e;omega)).trans (h.block i hi hr)⟩
set_option maxHeartbeats 8000000 in
set_option maxRecDepth 10000 in
theorem stateR_any {w0:World} {R:Nat} {a:Option Addr} {len cap:Nat} {zs:List Int} (hrow:Row .u8 w0 a len cap zs) (w:World) (h:Rd w0 R a len cap w) :
  Calls Tryz.prog 74 #[.pointer (some ⟨R,0,none⟩)] w fun e w'=>∃ s:Int×Int,e=.returned (stv s)∧Rd w0 R a len cap w'∧w.grownBy w' (some R):=by
 have La:=Hd (hrow);have Db:R<w.heap.size:=h.hi;have Eb:w0.heap.size≤w.heap.size:=h.below.size;have Aa:=bal w (.cells #[it 0,it 0] 31);have Ea:=lnw w [it 0,it 0] 31;have Fa:H9 (Rd w0 R a len cap (w.alloc (.cells #[it 0,it 0] 31))):=h.alloc _;have Ga:H9 (w.grownBy (w.alloc (.cells #[it 0,it 0] 31)) (some R)):=grown_of_below Aa _;clear Aa h hrow;go_enter Tryz.func74,Tryz.ntmps74;(go_wp2_with fail);generalize (w.alloc (.cells #[it 0,it 0] 31))=wq at Ea Fa Ga ⊢;refine (elem_any La.o _ Fa.o).mono ?_;rintro e w1 ⟨x,-,-,rfl,hr,hg⟩;have Ha:=Hd (Ea.o.grown hg (by simp;omega));have Na:=Hd (hr);have Oa:=Hd (Ga.o.trans hg);clear Ea Fa Ga;clear hg hr;have Pa:w.heap.size<w1.heap.size:=Ha.o.2.2;have Aa:=bal w1 (.cells #[it x,it 0] 31);have Ia:=Hd (Ha.o.belowS Aa);have Ja:=Hd (Na.o.grow Aa);have Ka:=Hd (Oa.o.trans (grown_of_below Aa _));clear Ha Na Oa;clear Aa;have Ba:=lnw w1 [it x,it 0] 31;(go_wp2_with fail);have Za:w.heap.size<w1.heap.size:=Pa;have Ab:R<w1.heap.size:=(by omega);generalize (w1.alloc (.cells #[it x,it 0] 31))=w2 at Ia Ja Ka Ba  ⊢;generalize w1.heap.size=xb at Ba Za Ab Pa ⊢;have Fb:xb<w2.heap.size:=Ba.o.2.2;refine (elem_any La.o _ Ja.o).mono ?_;rintro e w3 ⟨y,-,-,rfl,hr,hg⟩;have Qa:=Hd (Ia.o.grown hg (by simp;omega));have Ra:=Hd (hr);have Sa:=Hd (Ka.o.trans hg);have Da:=Hd (Ba.o.grown hg (by simp;omega));clear Ia Ja Ka Ba;clear hg hr;have c0:=Da.o.c 1 rfl;have f0:=Da.o.fr 1;have Ta:w3.grownBy (w3.setCell ⟨xb,1,none⟩ (it y)) (some xb):=grown_set (World.grownBy.refl _ _) ⟨xb,1,none⟩ rfl _;have Ca:=Hd (Qa.o.grown Ta (by simp;omega));have Bb:H9 (Rd w0 R a len cap (w3.setCell ⟨xb,1,none⟩ (it y))):=Rd.setS Ra.o (by omega) (by omega);have Cb:H9 (w.grownBy (w3.setCell ⟨xb,1,none⟩ (it y)) (some R)):=grown_farS Sa.o (by omega);have Ua:H9 (Lies (w3.setCell ⟨xb,1,none⟩ (it y)) xb [it x,it y]):=Da.o.set 1 (by simp) _;clear Ta Qa Ra Sa Da;have r0:(w3.setCell ⟨xb,1,none⟩ (it y)).cell? ⟨w.heap.size,0,none⟩=some (it 0):=Ca.o.at 0;have s0:(w3.setCell ⟨xb,1,none⟩ (it y)).frozen? ⟨w.heap.size,0,none⟩=false:=Ca.o.fr 0;have o0:(w3.setCell ⟨xb,1,none⟩ (it y)).cell? ⟨xb,0,none⟩=some (it x):=Ua.o.at 0;have r1:(w3.setCell ⟨xb,1,none⟩ (it y)).cell? ⟨w.heap.size,1,none⟩=some (it 0):=Ca.o.at 1;have s1:(w3.setCell ⟨xb,1,none⟩ (it y)).frozen? ⟨w.heap.size,1,none⟩=false:=Ca.o.fr 1;have o1:(w3.setCell ⟨xb,1,none⟩ (it y)).cell? ⟨xb,1,none⟩=some (it y):=Ua.o.at 1;(go_wp2_with fail);show bodyPost _ _ _ _ _ ((w3.setCell ⟨xb,1,none⟩ (it y)).setCells w.heap.size 0 [it x,it y]);have Va:Lies ((w3.setCell ⟨xb,1,none⟩ (it y)).setCells w.heap.size 0 [it x,it y]) w.heap.size [it x,it y]:=Ca.o.setCells [it x,it y] 0 (by simp);have Wa:=gcs (w3.setCell ⟨xb,1,none⟩ (it y)) w.heap.size 0 [it x,it y];have Xa:Rd w0 R a len cap ((w3.setCell ⟨xb,1,none⟩ (it y)).setCells w.heap.size 0 [it x,it y]):=Bb.o.cells (by omega) (by omega) _;have Ya:w.grownBy ((w3.setCell ⟨xb,1,none⟩ (it y)).setCells w.heap.size 0 [it x,it y]) (some R):=grown_newR Cb.o Wa (Nat.le_refl _);generalize ((w3.setCell ⟨xb,1,none⟩ (it y)).setCells w.heap.size 0 [it x,it y])=wf at Va Xa Ya Wa ⊢;exact bodyPost_ret (results_cell rfl rfl (run_loadVar_mid wf w.heap.size 0 31 _ _ Va.row Tryz.underlying31 rfl (by kernel_rfl))) rfl ⟨(x,y),rfl,Xa,Ya⟩
set_option maxHeartbeats 8000000 in
set_option maxRecDepth 10000 in
theorem ruleR_any {w0:World} {R:Nat} {a:Option Addr} {len cap:Nat} {zs:List Int} (hrow:Row .u8 w0 a len cap zs) (w:World) (h:Rd w0 R a len cap w) :
  Calls Tryz.prog 103 #[.pointer (some ⟨R,0,none⟩)] w fun e w'=>∃ r:M.Rl,e=.returned (rlv r)∧Rd w0 R a len cap w'∧w.grownBy w' (some R):=by
 have Fa:=Hd (hrow);have Hc:R<w.heap.size:=h.hi;have Ic:w0.heap.size≤w.heap.size:=h.below.size;have Ga:=bal w (.cells v30'.toArray 39);have Ta:=lnw w v30' 39;have Ua:H9 (Rd w0 R a len cap (w.alloc (.cells v30'.toArray 39))):=h.alloc _;have Va:H9 (w.grownBy (w.alloc (.cells v30'.toArray 39)) (some R)):=grown_of_below Ga _;clear Ga h hrow;go_enter Tryz.func103,Tryz.ntmps103;(go_wp2_with fail);generalize (w.alloc (.cells v30'.toArray 39))=wq at Ta Ua Va ⊢;refine (elem_any Fa.o _ Ua.o).mono ?_;rintro e w1 ⟨x,-,-,rfl,hr,hg⟩;have Kb:=Hd (Ta.o.grown hg (by simp;omega));have Lb:=Hd (hr);have Nb:=Hd (Va.o.trans hg);clear Ta Ua Va;clear hg hr;(go_wp2_with fail);refine (elem_any Fa.o _ Lb.o).mono ?_;rintro e w2 ⟨y,-,-,rfl,hr,hg⟩;have Ob:=Hd (Kb.o.grown hg (by simp;omega));have Pb:=Hd (hr);have Qb:=Hd (Nb.o.trans hg);clear Kb Lb Nb;clear hg hr;(go_wp2_with fail);refine (elem_any Fa.o _ Pb.o).mono ?_;rintro e w3 ⟨z,-,-,rfl,hr,hg⟩;have Wa:=Hd (Ob.o.grown hg (by simp;omega));have Rb:=Hd (hr);have Sb:=Hd (Qb.o.trans hg);clear Ob Pb Qb;clear hg hr;have Tb:w.heap.size<w3.heap.size:=Wa.o.2.2;have Ga:=bal w3 (.cells (v25' x y z).toArray 39);have Xa:=Hd (Wa.o.belowS Ga);have Ya:=Hd (Rb.o.grow Ga);have Za:=Hd (Sb.o.trans (grown_of_below Ga _));clear Wa Rb Sb;clear Ga;have Pa:=lnw w3 (v25' x y z) 39;(go_wp2_with fail);have Dc:w.heap.size<w3.heap.size:=Tb;have Ec:R<w3.heap.size:=(by omega);generalize (w3.alloc (.cells (v25' x y z).toArray 39))=w4 at Xa Ya Za Pa  ⊢;generalize w3.heap.size=xb at Pa Dc Ec Tb ⊢;refine (once_any Fa.o 2 (by decide) (by decide) _ Ya.o).mono ?_;rintro e w5 ⟨o,rfl,hr,hg⟩;have Ba:=Hd (Xa.o.grown hg (by simp;omega));have Ab:=Hd (hr);have Bb:=Hd (Za.o.trans hg);have Ea:=Hd (Pa.o.grown hg (by simp;omega));clear Xa Ya Za Pa;clear hg hr
 cases o with
 | false =>
  have r0:=Ba.o.c 0 rfl;have s0:=Ba.o.fr 0;have o0:=Ea.o.c 0 rfl;have r1:=Ba.o.c 1 rfl;have s1:=Ba.o.fr 1;have o1:=Ea.o.c 1 rfl;have r2:=Ba.o.c 2 rfl;have s2:=Ba.o.fr 2;have o2:=Ea.o.c 2 rfl;have r3:=Ba.o.c 3 rfl;have s3:=Ba.o.fr 3;have o3:=Ea.o.c 3 rfl;have r4:=Ba.o.c 4 rfl;have s4:=Ba.o.fr 4;have o4:=Ea.o.c 4 rfl;have r5:=Ba.o.c 5 rfl;have s5:=Ba.o.fr 5;have o5:=Ea.o.c 5 rfl;(go_wp2_with fail);show bodyPost _ _ _ _ _ (w5.setCells w.heap.size 0 (v25' x y z));have Ka:Lies (w5.setCells w.heap.size 0 (v25' x y z)) w.heap.size (v25' x y z):=Ba.o.setCells (v25' x y z) 0 (by simp);have La:=gcs w5 w.heap.size 0 (v25' x y z);have Na:Rd w0 R a len cap (w5.setCells w.heap.size 0 (v25' x y z)):=Ab.o.cells (by omega) (by omega) _;have Oa:w.grownBy (w5.setCells w.heap.size 0 (v25' x y z)) (some R):=grown_newR Bb.o La (Nat.le_refl _);generalize (w5.setCells w.heap.size 0 (v25' x y z))=wf at Ka Na Oa La ⊢;exact bodyPost_ret (results_cell rfl rfl (run_loadVar_mid wf w.heap.size 0 39 _ _ Ka.row Tryz.underlying39 rfl (by kernel_rfl))) rfl ⟨⟨0,0,0,x,y,z⟩,rfl,Na,Oa⟩
 | true =>
  (go_wp2_with fail);refine (elem_any Fa.o _ Ab.o).mono ?_;rintro e Ha ⟨p,-,-,rfl,hr,hg⟩;have Ub:=Hd (Ba.o.grown hg (by simp;omega));have Vb:=Hd (hr);have Wb:=Hd (Bb.o.trans hg);have Qa:=Hd (Ea.o.grown hg (by simp;omega));clear Ba Ab Bb Ea;clear hg hr;have c0:=Qa.o.c 0 rfl;have f0:=Qa.o.fr 0;(go_wp2_with fail);clear c0 f0;have Da:Ha.grownBy (Ha.setCell ⟨xb,0,none⟩ (it p)) (some xb):=grown_set (World.grownBy.refl _ _) ⟨xb,0,none⟩ rfl _;have Cb:=Hd (Ub.o.grown Da (by simp;omega));have Db:H9 (Rd w0 R a len cap (Ha.setCell ⟨xb,0,none⟩ (it p))):=Rd.setS Vb.o (by omega) (by omega);have Eb:H9 (w.grownBy (Ha.setCell ⟨xb,0,none⟩ (it p)) (some R)):=grown_newR Wb.o Da (by omega);have Fb:H9 (Lies (Ha.setCell ⟨xb,0,none⟩ (it p)) xb [it p,it 0,it 0,it x,it y,it z]):=Qa.o.set 0 (by simp) _;clear Da Ub Vb Wb Qa;generalize (Ha.setCell ⟨xb,0,none⟩ (it p))=Jc at Cb Db Eb Fb ⊢;(go_wp2_with fail);refine (elem_any Fa.o _ Db.o).mono ?_;rintro e Ia ⟨q,-,-,rfl,hr,hg⟩;have Xb:=Hd (Cb.o.grown hg (by simp;omega));have Yb:=Hd (hr);have Zb:=Hd (Eb.o.trans hg);have Ra:=Hd (Fb.o.grown hg (by simp;omega));clear Cb Db Eb Fb;clear hg hr;have c0:=Ra.o.c 1 rfl;have f0:=Ra.o.fr 1;(go_wp2_with fail);clear c0 f0;have Da:Ia.grownBy (Ia.setCell ⟨xb,1,none⟩ (it q)) (some xb):=grown_set (World.grownBy.refl _ _) ⟨xb,1,none⟩ rfl _;have Gb:=Hd (Xb.o.grown Da (by simp;omega));have Hb:H9 (Rd w0 R a len cap (Ia.setCell ⟨xb,1,none⟩ (it q))):=Rd.setS Yb.o (by omega) (by omega);have Ib:H9 (w.grownBy (Ia.setCell ⟨xb,1,none⟩ (it q)) (some R)):=grown_newR Zb.o Da (by omega);have Jb:H9 (Lies (Ia.setCell ⟨xb,1,none⟩ (it q)) xb [it p,it q,it 0,it x,it y,it z]):=Ra.o.set 1 (by simp) _;clear Da Xb Yb Zb Ra;generalize (Ia.setCell ⟨xb,1,none⟩ (it q))=Kc at Gb Hb Ib Jb ⊢;(go_wp2_with fail);refine (elem_any Fa.o _ Hb.o).mono ?_;rintro e Aa ⟨r',-,-,rfl,hr,hg⟩;have Ac:=Hd (Gb.o.grown hg (by simp;omega));have Bc:=Hd (hr);have Cc:=Hd (Ib.o.trans hg);have Sa:=Hd (Jb.o.grown hg (by simp;omega));clear Gb Hb Ib Jb;clear hg hr;have c0:=Sa.o.c 2 rfl;have f0:=Sa.o.fr 2;have Da:Aa.grownBy (Aa.setCell ⟨xb,2,none⟩ (it r')) (some xb):=grown_set (World.grownBy.refl _ _) ⟨xb,2,none⟩ rfl _;have Ca:=Hd (Ac.o.grown Da (by simp;omega));have Fc:H9 (Rd w0 R a len cap (Aa.setCell ⟨xb,2,none⟩ (it r'))):=Rd.setS Bc.o (by omega) (by omega);have Gc:H9 (w.grownBy (Aa.setCell ⟨xb,2,none⟩ (it r')) (some R)):=grown_farS Cc.o (by omega);have Ja:H9 (Lies (Aa.setCell ⟨xb,2,none⟩ (it r')) xb (v21' p q r' x y z)):=Sa.o.set 2 (by simp) _;clear Da Ac Bc Cc Sa;have r0:(Aa.setCell ⟨xb,2,none⟩ (it r')).cell? ⟨w.heap.size,0,none⟩=some (it 0):=Ca.o.at 0;have s0:(Aa.setCell ⟨xb,2,none⟩ (it r')).frozen? ⟨w.heap.size,0,none⟩=false:=Ca.o.fr 0;have o0:(Aa.setCell ⟨xb,2,none⟩ (it r')).cell? ⟨xb,0,none⟩=some (it p):=Ja.o.at 0;have r1:(Aa.setCell ⟨xb,2,none⟩ (it r')).cell? ⟨w.heap.size,1,none⟩=some (it 0):=Ca.o.at 1;have s1:(Aa.setCell ⟨xb,2,none⟩ (it r')).frozen? ⟨w.heap.size,1,none⟩=false:=Ca.o.fr 1;have o1:(Aa.setCell ⟨xb,2,none⟩ (it r')).cell? ⟨xb,1,none⟩=some (it q):=Ja.o.at 1;have r2:(Aa.setCell ⟨xb,2,none⟩ (it r')).cell? ⟨w.heap.size,2,none⟩=some (it 0):=Ca.o.at 2;have s2:(Aa.setCell ⟨xb,2,none⟩ (it r')).frozen? ⟨w.heap.size,2,none⟩=false:=Ca.o.fr 2;have o2:(Aa.setCell ⟨xb,2,none⟩ (it r')).cell? ⟨xb,2,none⟩=some (it r'):=Ja.o.at 2;have r3:(Aa.setCell ⟨xb,2,none⟩ (it r')).cell? ⟨w.heap.size,3,none⟩=some (it 0):=Ca.o.at 3;have s3:(Aa.setCell ⟨xb,2,none⟩ (it r')).frozen? ⟨w.heap.size,3,none⟩=false:=Ca.o.fr 3;have o3:(Aa.setCell ⟨xb,2,none⟩ (it r')).cell? ⟨xb,3,none⟩=some (it x):=Ja.o.at 3;have r4:(Aa.setCell ⟨xb,2,none⟩ (it r')).cell? ⟨w.heap.size,4,none⟩=some (it 0):=Ca.o.at 4;have s4:(Aa.setCell ⟨xb,2,none⟩ (it r')).frozen? ⟨w.heap.size,4,none⟩=false:=Ca.o.fr 4;have o4:(Aa.setCell ⟨xb,2,none⟩ (it r')).cell? ⟨xb,4,none⟩=some (it y):=Ja.o.at 4;have r5:(Aa.setCell ⟨xb,2,none⟩ (it r')).cell? ⟨w.heap.size,5,none⟩=some (it 0):=Ca.o.at 5;have s5:(Aa.setCell ⟨xb,2,none⟩ (it r')).frozen? ⟨w.heap.size,5,none⟩=false:=Ca.o.fr 5;have o5:(Aa.setCell ⟨xb,2,none⟩ (it r')).cell? ⟨xb,5,none⟩=some (it z):=Ja.o.at 5;(go_wp2_with fail);show bodyPost _ _ _ _ _ ((Aa.setCell ⟨xb,2,none⟩ (it r')).setCells w.heap.size 0 (v21' p q r' x y z));have Ka:Lies ((Aa.setCell ⟨xb,2,none⟩ (it r')).setCells w.heap.size 0 (v21' p q r' x y z)) w.heap.size (v21' p q r' x y z):=Ca.o.setCells (v21' p q r' x y z) 0 (by simp);have La:=gcs (Aa.setCell ⟨xb,2,none⟩ (it r')) w.heap.size 0 (v21' p q r' x y z);have Na:Rd w0 R a len cap ((Aa.setCell ⟨xb,2,none⟩ (it r')).setCells w.heap.size 0 (v21' p q r' x y z)):=Fc.o.cells (by omega) (by omega) _;have Oa:w.grownBy ((Aa.setCell ⟨xb,2,none⟩ (it r')).setCells w.heap.size 0 (v21' p q r' x y z)) (some R):=grown_newR Gc.o La (Nat.le_refl _);generalize ((Aa.setCell ⟨xb,2,none⟩ (it r')).setCells w.heap.size 0 (v21' p q r' x y z))=wf at Ka Na Oa La ⊢;exact bodyPost_ret (results_cell rfl rfl (run_loadVar_mid wf w.heap.size 0 39 _ _ Ka.row Tryz.underlying39 rfl (by kernel_rfl))) rfl ⟨⟨p,q,r',x,y,z⟩,rfl,Na,Oa⟩
set_option maxHeartbeats 8000000 in
set_option maxRecDepth 10000 in
theorem machineR_any {w0:World} {R:Nat} {a:Option Addr} {len cap:Nat} {zs:List Int} (hrow:Row .u8 w0 a len cap zs) (w:World) (h:Rd w0 R a len cap w) :
  Calls Tryz.prog 73 #[.pointer (some ⟨R,0,none⟩)] w fun e w'=>∃ m:M.Mc,e=.returned (mcv m)∧Rd w0 R a len cap w'∧w.grownBy w' (some R):=by
 have Ab:=Hd (hrow);have Kb:R<w.heap.size:=h.hi;have Lb:w0.heap.size≤w.heap.size:=h.below.size;have Ea:=bal w (.cells v18'.toArray 41);have Da:=lnw w v18' 41;have Fa:H9 (Rd w0 R a len cap (w.alloc (.cells v18'.toArray 41))):=h.alloc _;have Ga:H9 (w.grownBy (w.alloc (.cells v18'.toArray 41)) (some R)):=grown_of_below Ea _;clear Ea h hrow;go_enter Tryz.func73,Tryz.ntmps73;(go_wp2_with fail);generalize (w.alloc (.cells v18'.toArray 41))=wq at Da Fa Ga ⊢;refine (ruleR_any Ab.o _ Fa.o).mono ?_;rintro e w1 ⟨⟨a1,b1,c1,d1,f1,k1⟩,rfl,hr,hg⟩;have Ha:=Hd (Da.o.grown hg (by simp;omega));have Ja:=Hd (hr);have Ka:=Hd (Ga.o.trans hg);clear Da Fa Ga;clear hg hr;dsimp only [rlv];have Bb:w.heap.size<w1.heap.size:=Ha.o.2.2;have Ea:=bal w1 (.cells (v28' a1 b1 c1 d1 f1 k1).toArray 41);have Ra:=Hd (Ha.o.belowS Ea);have Sa:=Hd (Ja.o.grow Ea);have Ta:=Hd (Ka.o.trans (grown_of_below Ea _));clear Ha Ja Ka;clear Ea;have Qa:=lnw w1 (v28' a1 b1 c1 d1 f1 k1) 41;(go_wp2_with fail);have Fb:w.heap.size<w1.heap.size:=Bb;have Gb:R<w1.heap.size:=(by omega);generalize (w1.alloc (.cells (v28' a1 b1 c1 d1 f1 k1).toArray 41))=w2 at Ra Sa Ta Qa  ⊢;generalize w1.heap.size=xb at Qa Fb Gb Bb ⊢;refine (ruleR_any Ab.o _ Sa.o).mono ?_;rintro e w3 ⟨⟨a2,b2,c2,d2,f2,k2⟩,rfl,hr,hg⟩;have Cb:=Hd (Ra.o.grown hg (by simp;omega));have Db:=Hd (hr);have Eb:=Hd (Ta.o.trans hg);have Ba:=Hd (Qa.o.grown hg (by simp;omega));clear Ra Sa Ta Qa;clear hg hr;dsimp only [rlv];have c0:=Ba.o.c 6 rfl;have f0:=Ba.o.fr 6;have c1:=Ba.o.c 7 rfl;have f1:=Ba.o.fr 7;have c2:=Ba.o.c 8 rfl;have f2:=Ba.o.fr 8;have c3:=Ba.o.c 9 rfl;have f3:=Ba.o.fr 9;have c4:=Ba.o.c 10 rfl;have f4:=Ba.o.fr 10;have c5:=Ba.o.c 11 rfl;have f5:=Ba.o.fr 11;(go_wp2_with fail);clear c0 f0 c1 f1 c2 f2 c3 f3 c4 f4 c5 f5;have Ia:=gcs w3 xb 6 (v21' a2 b2 c2 d2 f2 k2);have Ua:=Hd (Cb.o.grown Ia (by simp;omega));have Va:H9 (Rd w0 R a len cap (w3.setCells xb 6 (v21' a2 b2 c2 d2 f2 k2))):=Db.o.cells (by omega) (by omega) _;have Wa:H9 (w.grownBy (w3.setCells xb 6 (v21' a2 b2 c2 d2 f2 k2)) (some R)):=grown_newR Eb.o Ia (by omega);have Xa:H9 (Lies (w3.setCells xb 6 (v21' a2 b2 c2 d2 f2 k2)) xb (v1' a1 b1 c1 d1 f1 k1 a2 b2 c2 d2 f2 k2)):=Ba.o.setCells (v21' a2 b2 c2 d2 f2 k2) 6 (by simp);clear Ia Cb Db Eb Ba;show Code.wp _ _ _ _ (w3.setCells xb 6 (v21' a2 b2 c2 d2 f2 k2));generalize (w3.setCells xb 6 (v21' a2 b2 c2 d2 f2 k2))=w4 at Ua Va Wa Xa ⊢;go_wp2_with fail
 go_loopw [4] (fun i wr=>∃ (n:Nat) (a1 b1 c1 d1 f1 k1 a2 b2 c2 d2 f2 k2:Int),n≤9∧i=it n∧Lies wr w.heap.size v18'∧Lies wr xb (v1' a1 b1 c1 d1 f1 k1 a2 b2 c2 d2 f2 k2)∧Rd w0 R a len cap wr∧w.grownBy wr (some R)) (fun i _=>9-(intOf i).toNat)
 case atStart=>exact ⟨0,_,_,_,_,_,_,_,_,_,_,_,_,by omega,rfl,Ua.o,Xa.o,Va.o,Wa.o⟩
 case round =>
  clear Ua Va Wa Xa;obtain ⟨n,a1,b1,c1,d1,f1,k1,a2,b2,c2,d2,f2,k2,hn,rfl,hZ,hX,hR,hG⟩:=hrel;have Da:=Hd (hZ);have Aa:=Hd (hX);have Fa:=Hd (hR);have Ga:=Hd (hG);clear hZ hX hR hG;by_cases Nb:n<9
  case neg =>
   have Hb:¬ (n:Int)<9:=(by omega);have o0:=Aa.o.c 0 rfl;have o1:=Aa.o.c 1 rfl;have o2:=Aa.o.c 2 rfl;have o3:=Aa.o.c 3 rfl;have o4:=Aa.o.c 4 rfl;have o5:=Aa.o.c 5 rfl;have o6:=Aa.o.c 6 rfl;have o7:=Aa.o.c 7 rfl;have o8:=Aa.o.c 8 rfl;have o9:=Aa.o.c 9 rfl;have Ya:=Aa.o.c 10 rfl;have Za:=Aa.o.c 11 rfl;(go_wp2_with (with_reducible refine wpList_stopn ?_ ?_;rfl));clear o0 o1 o2 o3 o4 o5 o6 o7 o8 o9 Ya Za;with_reducible refine stm 41 w.heap.size 0 (v1' a1 b1 c1 d1 f1 k1 a2 b2 c2 d2 f2 k2) ?q6 ?q5 ?_
   case q6=>exact Da.o.there _ 12 (by simp)
   case q5=>exact ⟨rfl,by kernel_rfl,by kernel_rfl,_,_,rfl,by kernel_rfl,by kernel_rfl⟩
   (go_wp2_with fail);show bodyPost _ _ _ _ _ (wr.setCells w.heap.size 0 (v1' a1 b1 c1 d1 f1 k1 a2 b2 c2 d2 f2 k2));have La:Lies (wr.setCells w.heap.size 0 (v1' a1 b1 c1 d1 f1 k1 a2 b2 c2 d2 f2 k2)) w.heap.size (v1' a1 b1 c1 d1 f1 k1 a2 b2 c2 d2 f2 k2):=Da.o.setCells (v1' a1 b1 c1 d1 f1 k1 a2 b2 c2 d2 f2 k2) 0 (by simp);have Na:=gcs wr w.heap.size 0 (v1' a1 b1 c1 d1 f1 k1 a2 b2 c2 d2 f2 k2);have Oa:Rd w0 R a len cap (wr.setCells w.heap.size 0 (v1' a1 b1 c1 d1 f1 k1 a2 b2 c2 d2 f2 k2)):=Fa.o.cells (by omega) (by omega) _;have Pa:w.grownBy (wr.setCells w.heap.size 0 (v1' a1 b1 c1 d1 f1 k1 a2 b2 c2 d2 f2 k2)) (some R):=grown_newR Ga.o Na (Nat.le_refl _);generalize (wr.setCells w.heap.size 0 (v1' a1 b1 c1 d1 f1 k1 a2 b2 c2 d2 f2 k2))=wf at La Oa Pa Na ⊢;exact bodyPost_ret (results_cell rfl rfl (run_loadVar_mid wf w.heap.size 0 41 _ _ La.row Tryz.underlying41 rfl (by kernel_rfl))) rfl ⟨⟨⟨a1,b1,c1,d1,f1,k1⟩,⟨a2,b2,c2,d2,f2,k2⟩⟩,rfl,Oa,Pa⟩
  case pos =>
   have Hb:(n:Int)<9:=(by omega);have CM:=fun W=>specMachineOk_any ⟨⟨a1,b1,c1,d1,f1,k1⟩,⟨a2,b2,c2,d2,f2,k2⟩⟩ W;generalize M.Mc.ok ⟨⟨a1,b1,c1,d1,f1,k1⟩,⟨a2,b2,c2,d2,f2,k2⟩⟩=ok at CM;dsimp only [mcv] at CM;have m0:=Aa.o.c 0 rfl;have m1:=Aa.o.c 1 rfl;have m2:=Aa.o.c 2 rfl;have m3:=Aa.o.c 3 rfl;have m4:=Aa.o.c 4 rfl;have m5:=Aa.o.c 5 rfl;have m6:=Aa.o.c 6 rfl;have m7:=Aa.o.c 7 rfl;have m8:=Aa.o.c 8 rfl;have m9:=Aa.o.c 9 rfl;have Ib:=Aa.o.c 10 rfl;have Jb:=Aa.o.c 11 rfl;(go_wp2_with fail);clear m0 m1 m2 m3 m4 m5 m6 m7 m8 m9 Ib Jb;refine (CM _).mono ?_;rintro e wm ⟨rfl,hb⟩;have Ha:=Hd (Da.o.belowS hb);have Ca:=Hd (Aa.o.belowS hb);have Ja:=Hd (Fa.o.grow hb);have Ka:=Hd (Ga.o.trans (grown_of_below hb _));clear Da Aa Fa Ga;clear hb CM
   cases ok with
   | true =>
    have o0:=Ca.o.c 0 rfl;have o1:=Ca.o.c 1 rfl;have o2:=Ca.o.c 2 rfl;have o3:=Ca.o.c 3 rfl;have o4:=Ca.o.c 4 rfl;have o5:=Ca.o.c 5 rfl;have o6:=Ca.o.c 6 rfl;have o7:=Ca.o.c 7 rfl;have o8:=Ca.o.c 8 rfl;have o9:=Ca.o.c 9 rfl;have Ya:=Ca.o.c 10 rfl;have Za:=Ca.o.c 11 rfl;(go_wp2_with (with_reducible refine wpList_stopn ?_ ?_;rfl));clear o0 o1 o2 o3 o4 o5 o6 o7 o8 o9 Ya Za;with_reducible refine stm 41 w.heap.size 0 (v1' a1 b1 c1 d1 f1 k1 a2 b2 c2 d2 f2 k2) ?q6 ?q5 ?_
    case q6=>exact Ha.o.there _ 12 (by simp)
    case q5=>exact ⟨rfl,by kernel_rfl,by kernel_rfl,_,_,rfl,by kernel_rfl,by kernel_rfl⟩
    (go_wp2_with fail);show bodyPost _ _ _ _ _ (wm.setCells w.heap.size 0 (v1' a1 b1 c1 d1 f1 k1 a2 b2 c2 d2 f2 k2));have La:Lies (wm.setCells w.heap.size 0 (v1' a1 b1 c1 d1 f1 k1 a2 b2 c2 d2 f2 k2)) w.heap.size (v1' a1 b1 c1 d1 f1 k1 a2 b2 c2 d2 f2 k2):=Ha.o.setCells (v1' a1 b1 c1 d1 f1 k1 a2 b2 c2 d2 f2 k2) 0 (by simp);have Na:=gcs wm w.heap.size 0 (v1' a1 b1 c1 d1 f1 k1 a2 b2 c2 d2 f2 k2);have Oa:Rd w0 R a len cap (wm.setCells w.heap.size 0 (v1' a1 b1 c1 d1 f1 k1 a2 b2 c2 d2 f2 k2)):=Ja.o.cells (by omega) (by omega) _;have Pa:w.grownBy (wm.setCells w.heap.size 0 (v1' a1 b1 c1 d1 f1 k1 a2 b2 c2 d2 f2 k2)) (some R):=grown_newR Ka.o Na (Nat.le_refl _);generalize (wm.setCells w.heap.size 0 (v1' a1 b1 c1 d1 f1 k1 a2 b2 c2 d2 f2 k2))=wf at La Oa Pa Na ⊢;exact bodyPost_ret (results_cell rfl rfl (run_loadVar_mid wf w.heap.size 0 41 _ _ La.row Tryz.underlying41 rfl (by kernel_rfl))) rfl ⟨⟨⟨a1,b1,c1,d1,f1,k1⟩,⟨a2,b2,c2,d2,f2,k2⟩⟩,rfl,Oa,Pa⟩
   | false =>
    have Ob:IntKind.i64.wrap ((n:Int)+1)=(n:Int)+1:=(by rw [IntKind.wrap_i64];omega);(go_wp2_with (with_reducible refine wpList_stopn ?_ ?_;rfl));with_reducible refine stm 41 xb 0 (v23' ((n:Int)+1)) ?q6 ?q5 ?_
    case q6=>exact Ca.o.there _ 12 (by simp)
    case q5=>exact ⟨rfl,by kernel_rfl,by kernel_rfl,_,_,rfl,by kernel_rfl,by kernel_rfl⟩
    have Ia:=gcs wm xb 0 (v23' ((n:Int)+1));have hZ:Lies (wm.setCells xb 0 (v23' ((n:Int)+1))) w.heap.size v18':=Ha.o.grown Ia (by simp;omega);have hX:Lies (wm.setCells xb 0 (v23' ((n:Int)+1))) xb (v23' ((n:Int)+1)):=Ca.o.setCells (v23' ((n:Int)+1)) 0 (by simp);have hR:Rd w0 R a len cap (wm.setCells xb 0 (v23' ((n:Int)+1))):=Ja.o.cells (by omega) (by omega) _;have hG:w.grownBy (wm.setCells xb 0 (v23' ((n:Int)+1))) (some R):=grown_newR Ka.o Ia (by omega);generalize (wm.setCells xb 0 (v23' ((n:Int)+1)))=wn at hZ hX hR hG Ia ⊢;go_wp2;go_roundw
    case rel=>exact ⟨n+1,_,_,_,_,_,_,_,_,_,_,_,_,by omega,by go_num,hZ,hX,hR,hG⟩
    case measure=>simp [intOf];omega
theorem Rd.sets {w0:World} {R B:Nat} {a:Option Addr} {len cap:Nat} (hB:B≠R) (hlo:w0.heap.size≤B):∀ (vs:List Value) (w:World) (i:Nat),Rd w0 R a len cap w→Rd w0 R a len cap (sets w B i vs):=by
 intro vs w i h;obtain ⟨p,hp,Aa⟩:=h.cp;exact ⟨sets_below hlo vs w i h.below,h.lo,by rw [sets_size];exact h.hi,(sets_far B (show R≠B from fun e=>hB e.symm) vs w i).trans h.cb,⟨p,hp,(sets_far B (show R≠B from fun e=>hB e.symm) vs w i).trans Aa⟩,by rw [sets_frozen];exact h.fr⟩
end Go.Proofs.YtfhknkppiidnkaaGreat
