import Derived.Deep.RegionHeld3
import Derived.Laws.EntriesVeiled
import Derived.Test.YtfhknkppiidnkaaGreatPk00
import Derived.Test.YtfhknkppiidnkaaGreatPk07
import Derived.Test.YtfhknkppiidnkaaGreatPk01
import Derived.Test.YtfhknkppiidnkaaGreatPk04
import Derived.Test.YtfhknkppiidnkaaGreatPk03
namespace Go.Proofs.YtfhknkppiidnkaaGreat
open Go.RowKit
theorem storeVar_cells {ty:TypeId} {ad:Addr} {v u:Value} (h:v.cells=u.cells):storeVar ty ad v=storeVar ty ad u:=by unfold storeVar;rw [h]
theorem wpList_store_val {P:Program} {ops:Array Oper} {rest:List Oper} {op:Oper} {a:Act} {w:World} {Q:Exit→Act→World→Prop} (hgd:op.guard=none) (ty:TypeId) (x y:Operand) (ho:op.op=.store ty x y) (b o:Nat) (v:Value) (hv:v.cells=#[v]) (hx:a.eval x=.pointer (some ⟨b,o,none⟩)) (hy:a.eval y=v)
  (ht:w.there b o 1) (hi:(P.info? ty).map (·.size)=some 1) (h1:v.oneCell'=true) (h:wpList P ops Q rest (a.put op.dst undef) (w.setCells b o [v])):wpList P ops Q (op::rest) a w:=by
 refine wpList_plain hgd fun _ hK=>?_;unfold Oper.wp execOp;simp only [ho,hx,hy,Instr.storeAt,Instr.sureAddr,Sem.run_bind,Sem.run_pure,Result.andThen_ok];rw [storeVar_cells (v:=v) (u:=.agg #[v]) (by rw [hv];rfl),run_storeVar_mid w b o ty #[v] ht hi (by simp [h1])];exact hK _ _ h
theorem step_make_full {P:Program} {ops:Array Oper} {o:Oper} {a:Act} {w:World} {K:Act→World→Prop} {Q:Exit→Act→World→Prop} {E:Prop} (hg:o.guard=none) (l:Operand) (t:TypeId) (hop:o.op=Op.makeSlice t l l) (base:Nat) (e:TypeId) (i:TypeInfo) (z:Value) (size:Nat) (ht:P.underlying t=some (.slice e)) (hi:P.info? e=some i) (hz:i.zero=some z) (hsize:i.size=size)
  (n:Nat) (hl:a.eval l=.int .i64 n) (hcells:n*size≤16777216) (hbytes:i.bytes*n≤281474976710656) (h63:n≤maxLen) (hbase:base≤w.heap.size)
  (hK:∀ g w',w.heap.size=g→w'.ownsRow base e size (.slice (some ⟨g,0,none⟩) n n) n (madeCells z.cells (n*size)).toList→w.grownBy w' none→K (a.put o.dst (.slice (some ⟨g,0,none⟩) n n)) w') :
  if Region.wanted o (yielded ops a.tmps)=true then Oper.wp P o a w K Q else E:=by
 have hw:Region.wanted o (yielded ops a.tmps)=true:=(by simp [Region.wanted,hg]);rw [if_pos hw];obtain ⟨w',Aa,r1,r2⟩:=run_makeSlice_full (P:=P) (w:=w) base t e i z size ht hi hz hsize .i64 .i64 n hcells hbytes h63 hbase;unfold Oper.wp;simp [execOp,hop,hl,Aa,Result.andThen];exact hK _ w' rfl r1 r2
theorem step_load_val {P:Program} {ops:Array Oper} {o:Oper} {a:Act} {w:World} {K:Act→World→Prop} {Q:Exit→Act→World→Prop} {E:Prop} (hg:o.guard=none) (ty:TypeId) (x:Operand) (hop:o.op=.load ty x) (ad:Addr) (hx:a.eval x=.pointer (some ad)) (v:Value) (hl:(loadVar ty ad).run P w=.ok v w) (hK:K (a.put o.dst v) w) :
  if Region.wanted o (yielded ops a.tmps)=true then Oper.wp P o a w K Q else E:=by
 have hw:Region.wanted o (yielded ops a.tmps)=true:=(by simp [Region.wanted,hg]);rw [if_pos hw];unfold Oper.wp execOp;simp only [hop,hx,Instr.loadAt,Instr.sureAddr,Sem.run_bind,Sem.run_pure,Result.andThen_ok,hl];exact hK
theorem step_run {P:Program} {ops:Array Oper} {o:Oper} {a:Act} {w:World} {K:Act→World→Prop} {Q:Exit→Act→World→Prop} {E:Prop} (hg:o.guard=none) (v:Value) (w':World) (hrun:(execOp a.eval o).run P w=.ok (.value v) w') (hK:K (a.put o.dst v) w') :
  if Region.wanted o (yielded ops a.tmps)=true then Oper.wp P o a w K Q else E:=by
 have hw:Region.wanted o (yielded ops a.tmps)=true:=(by simp [Region.wanted,hg]);rw [if_pos hw];unfold Oper.wp;rw [hrun];exact hK
theorem step_run_as {P:Program} {ops:Array Oper} {o:Oper} {a:Act} {w:World} {K:Act→World→Prop} {Q:Exit→Act→World→Prop} {E:Prop} (hg:o.guard=none) (f:Nat→Value) (w':World) (hrun:(execOp a.eval o).run P w=.ok (.value (f w.heap.size)) w') (hK:∀ g W,w.heap.size=g→w'=W→K (a.put o.dst (f g)) W) :
  if Region.wanted o (yielded ops a.tmps)=true then Oper.wp P o a w K Q else E:=step_run hg _ _ hrun (hK _ _ rfl rfl)
theorem step_push {ops:Array Oper} {o:Oper} {a:Act} {w:World} {K:Act→World→Prop} {Q:Exit→Act→World→Prop} {E:Prop} {base:Nat} {ab:Option Addr} {nb cb:Nat} {bs:List Int} {aj:Option Addr} {nj cj:Nat} {qs:List MQ}
  (hg:o.guard=none) (s x:Operand) (hop:o.op=Op.call { callee:=Callee.builtin Builtin.append,args:=#[s,x],argTypes:=#[25,25] }) (hs:a.eval s=.slice aj nj cj) (gb:Nat) (hx:a.eval x=.slice (some ⟨gb,0,none⟩) 1 1) (H:MktO w base ab nb cb bs aj nj cj qs) (q:MQ) (hL:Lies w gb (jrv q))
  (hT:OwnsT w base q.2.1 q.1.ts.length q.2.2 q.1.ts) (hqa:∀ g∈ob q.2.1,g∉mbl ab aj qs) (hn:nj≤1000) (hbase:base≤w.heap.size)
  (hK:∀ aj' cj' w7,MktO w7 base ab nb cb bs aj' (nj+1) cj' (qs++[q])→(∀ g,g<w.heap.size→g∉mbl ab aj qs→g∉ob q.2.1→g∉mbl ab aj' (qs++[q]))→w.grownBy w7 (Value.slice aj nj cj).ownBlock→K (a.put o.dst (.slice aj' (nj+1) cj')) w7) :
  if Region.wanted o (yielded ops a.tmps)=true then Oper.wp Tryz.prog o a w K Q else E:=by
 obtain ⟨i1,Ca,Da,Ea,Fa⟩:=info_parts info_jobK;refine step_append_at hg s x 25 hop base 44 i1 _ 18 160 Tryz.underlying25 Ca Da Ea Fa rfl (by decide) (.slice aj nj cj) nj (qs.flatMap jrv) hs H.j ⟨gb,0,none⟩ 1 1 (jrv q) hx (by rw [jrv_len]) (lies_news hL) (jvs_one _ _ _) (by unfold maxLen;omega) (by omega) hbase ?_;intro v' w8 Aa Ba Ga;obtain ⟨Ia,Ja,rfl⟩:=own_form Aa;obtain ⟨hP,Ha⟩:=H.push q hT hqa Ba Aa (Nat.le_refl _) Ga;exact hK _ _ _ hP Ha Ba
theorem load_jobs {w:World} {ad:Addr} {v:Value} (h:w.cell? ad=some v):(loadVar 25 ad).run Tryz.prog w=.ok v w:=by go_simp
theorem own_rep {w:World} {base mq:Nat} {n c:Nat} {a:Option Addr} (h8:mq≤8) (h:w.ownsRow base 74 3 (.slice a n c) mq (madeCells (Value.agg #[.bool false,.int .i64 0,.int .i64 0]).cells (mq*3)).toList) (hn:n=mq):OwnsT w base a n c (List.replicate mq M.t0):=by
 subst hn;refine ⟨List.length_replicate,?_⟩
 have e:(madeCells (Value.agg #[.bool false,it 0,it 0]).cells (n*3)).toList=(List.replicate n M.t0).flatMap tvs:=by
  obtain rfl | rfl | rfl | rfl | rfl | rfl | rfl | rfl | rfl:n=0∨n=1∨n=2∨n=3∨n=4∨n=5∨n=6∨n=7∨n=8:=by omega
  all_goals kernel_rfl
 rw [← e];exact h
theorem svl {P : Program} {ops : Array Oper} {rest : List Oper} {op : Oper} {a : Act} {w : World} {Q : Exit → Act → World → Prop} (T : TypeId) (b o : Nat) (v : Value) (ht : w.there b o 1)
    (hs : op.guard = none ∧ v.cells = #[v] ∧ v.oneCell' = true ∧ (P.info? T).map (·.size) = some 1 ∧ ∃ x y, op.op = .store T x y ∧ a.eval x = .pointer (some ⟨b, o, none⟩) ∧ a.eval y = v)
    (h : wpList P ops Q rest (a.put op.dst undef) (w.setCells b o [v])) : H9 (wpList P ops Q (op :: rest) a w) := by
  obtain ⟨h1, h2, h3, h4, x, y, h5, h6, h7⟩ := hs
  exact wpList_store_val h1 T x y h5 b o v h2 h6 h7 ht h4 h3 h
namespace M
def sm : Nat→(Nat→Int)→Int
 | 0,_=>0
 | n+1,f=>sm n f+f n
theorem sm_cg {f g:Nat→Int}:∀ {n:Nat},(∀ k,k<n→cg (f k) (g k))→cg (sm n f) (sm n g):=by
 intro n
 induction n with
 | zero=>intro _;exact cg.refl _
 | succ n ih=>intro h;exact (ih fun k hk=>h k (by omega)).add (h n (by omega))
theorem sm_add (f g:Nat→Int) (n:Nat):sm n (fun k=>f k+g k)=sm n f+sm n g:=by
 induction n with
 | zero=>rfl
 | succ n ih=>simp only [sm];rw [ih];omega
theorem sm_mul (c:Int) (f:Nat→Int) (n:Nat):sm n (fun k=>c*f k)=c*sm n f:=by
 induction n with
 | zero=>simp [sm]
 | succ n ih=>simp only [sm];rw [ih,Int.mul_add]
theorem sm_zero (n:Nat):sm n (fun _=>0)=0:=by
 induction n with
 | zero=>rfl
 | succ n ih=>simp only [sm];rw [ih];rfl
theorem sm_swap (f:Nat→Nat→Int) (m n:Nat):sm m (fun k=>sm n (fun i=>f k i))=sm n (fun i=>sm m (fun k=>f k i)):=by
 induction m with
 | zero=>simp only [sm];rw [sm_zero]
 | succ m ih=>simp only [sm];rw [ih,sm_add]
theorem sm_one (n:Nat):sm n (fun _=>1)=(n:Int):=by
 induction n with
 | zero=>rfl
 | succ n ih=>simp only [sm];rw [ih];omega
theorem sm_pick (v:Int) (j:Nat):∀ n,j<n→sm n (fun i=>if i=j then v else 0)=v:=by
 have h0:∀ n,n≤j→sm n (fun i=>if i=j then v else 0)=0:=by
  intro n
  induction n with
  | zero=>intro _;rfl
  | succ n ih=>intro h;simp only [sm];rw [ih (by omega),if_neg (by omega)];rfl
 intro n
 induction n with
 | zero=>intro h;omega
 | succ n ih =>
  intro h;simp only [sm];by_cases e:n=j
  · subst e;rw [h0 n (Nat.le_refl _),if_pos rfl];omega
  · rw [ih (by omega),if_neg e];omega
theorem pv_sm (zs:List Int) (x:Int):∀ n,n≤zs.length→pv (zs.take n) x=sm n (fun k=>zs.getD k 0*x ^ k):=by
 intro n
 induction n with
 | zero=>intro _;rfl
 | succ n ih=>intro h;rw [pv_take _ _ (by omega),ih (by omega)];rfl
theorem pv_sm' (zs:List Int) (x:Int):pv zs x=sm zs.length (fun k=>zs.getD k 0*x ^ k):=by
 rw [← pv_sm zs x _ (Nat.le_refl _),List.take_length]
theorem geo (r:Int) (n:Nat):(r-1)*sm n (fun k=>r ^ k)=r ^ n-1:=by
 induction n with
 | zero=>simp [sm]
 | succ n ih=>simp only [sm];rw [Int.mul_add,ih,Int.pow_succ];generalize r ^ n=y;grind
theorem cg_inv {a:Int} (h:¬ cg a 0):cg (a*pw a 65535) 1:=by
 have h0:0<a % 65537:=(by unfold cg at h;omega);have h1:a % 65537<65537:=(by omega);have hf:=fermat h0 h1
 have e:cg (a*pw a 65535) ((a % 65537) ^ 65536):=by
  have hk:∀ m:Nat,cg (a*pw a m) ((a % 65537) ^ (m+1)):=by
   intro m;rw [Int.pow_succ,Int.mul_comm ((a % 65537) ^ m)];exact (cg_mod a).symm.mul ((cg_pw a m).trans ((cg_mod a).symm.pow m))
  exact hk 65535
 refine e.trans ?_;have:=cg_pw (a % 65537) 65536;rw [hf] at this;exact this.symm
theorem cg_zero {a b:Int} (h:cg (a*b) 0) (ha:¬ cg a 0):cg b 0:=by
 have h1:=cg_inv ha;have h2:=(cg.refl (pw a 65535)).mul h;rw [Int.mul_zero] at h2;have h3:=h1.mul (cg.refl b);rw [Int.one_mul] at h3;refine h3.symm.trans (cg.trans (cg_of_eq ?_) h2)
 grind
theorem cg_sub0 {a b:Int} (h:cg (a-b) 0):cg a b:=by unfold cg at *;omega
theorem cg_0sub {a b:Int} (h:cg a b):cg (a-b) 0:=by unfold cg at *;omega
theorem geo0 {r:Int} {n:Nat} (h:cg (r ^ n) 1) (h1:¬ cg r 1):cg (sm n (fun k=>r ^ k)) 0:=by
 refine cg_zero (a:=r-1) ?_ (fun e=>h1 (cg_sub0 e));rw [geo];exact cg_0sub h
theorem odd_neg (k:Nat):(-1:Int) ^ (2*k+1) = -1:=by
 induction k with
 | zero=>rfl
 | succ k ih=>rw [show 2*(k+1)+1=2*k+1+1+1 by omega,Int.pow_succ,Int.pow_succ,ih];rfl
theorem order {w:Int}:∀ {i d:Nat},cg (w ^ (2 ^ i)) (-1)→cg (w ^ d) 1→2 ^ (i+1) ∣ d:=by
 intro i
 induction i generalizing w with
 | zero =>
  intro d h h1;rw [Nat.pow_zero,Int.pow_succ,Int.pow_zero,Int.one_mul] at h
  rcases Nat.mod_two_eq_zero_or_one d with e | e
  · exact Nat.dvd_of_mod_eq_zero (by simpa using e)
  ·
   exfalso
   have h2:=(h.pow d).symm.trans h1;rw [show d=2*(d / 2)+1 by omega,odd_neg] at h2;unfold cg at h2;omega
 | succ i ih =>
  intro d h h1
  rcases Nat.mod_two_eq_zero_or_one d with e | e
  ·
   obtain ⟨c,rfl⟩:=Nat.dvd_of_mod_eq_zero e;have h3:cg ((w ^ 2) ^ (2 ^ i)) (-1):=(by rw [← Int.pow_mul,Nat.mul_comm,← Nat.pow_succ];exact h);have h4:cg ((w ^ 2) ^ c) 1:=(by rw [← Int.pow_mul];exact h1);obtain ⟨q,rfl⟩:=ih h3 h4;exact ⟨q,by rw [Nat.pow_succ 2 (i+1)];grind⟩
  ·
   exfalso
   have h2:=h.pow d;rw [show ((w ^ (2 ^ (i+1))) ^ d)=(w ^ d) ^ (2 ^ (i+1)) by rw [← Int.pow_mul,← Int.pow_mul,Nat.mul_comm]] at h2;have h3:=(h1.pow (2 ^ (i+1))).symm.trans h2;rw [Int.one_pow,show d=2*(d / 2)+1 by omega,odd_neg] at h3;unfold cg at h3;omega
theorem pow_ne {a:Int} (h:¬ cg a 0) (n:Nat):¬ cg (a ^ n) 0:=by
 induction n with
 | zero=>rw [Int.pow_zero];unfold cg;omega
 | succ n ih=>rw [Int.pow_succ,Int.mul_comm];exact fun e=>ih (cg_zero e h)
theorem pow_inv {w wi:Int} (h:cg (w*wi) 1) (n:Nat):cg (w ^ n*wi ^ n) 1:=by
 rw [← Int.mul_pow];have:=h.pow n;rw [Int.one_pow] at this;exact this
theorem interp {n:Nat} {l out:List Int} {s si w wi ni:Int} (hl:l.length=n) (ho:out.length=n) (hs:cg (s*si) 1) (hw:cg (w*wi) 1) (hn:cg (ni*(n:Int)) 1) (hwn:cg (w ^ n) 1) (hord:∀ d,0<d→d<n→¬ cg (w ^ d) 1) (hout:∀ k,k<n→cg (out.getD k 0) (ni*si ^ k*pv l (wi ^ k))) {j:Nat} (hj:j<n):cg (pv out (s*w ^ j)) (l.getD j 0):=by
 rw [pv_sm',ho]
 have Aa:cg (sm n (fun k=>out.getD k 0*(s*w ^ j) ^ k)) (sm n (fun k=>sm n (fun i=>l.getD i 0*ni*(wi ^ i*w ^ j) ^ k))):=by
  refine sm_cg fun k hk=>?_
  have e1:sm n (fun i=>l.getD i 0*ni*(wi ^ i*w ^ j) ^ k)=ni*(w ^ j) ^ k*pv l (wi ^ k):=by
   rw [pv_sm',hl,← sm_mul]
   congr 1;funext i
   rw [Int.mul_pow,← Int.pow_mul,← Int.pow_mul,← Int.pow_mul,Nat.mul_comm k i];generalize wi ^ (i*k)=A;generalize w ^ (j*k)=B
   grind
  rw [e1,Int.mul_pow];refine ((hout k hk).mul (cg.refl _)).trans ?_;have h2:=(pow_inv hs k).mul (cg.refl (ni*(w ^ j) ^ k*pv l (wi ^ k)));rw [Int.one_mul] at h2;refine cg.trans (cg_of_eq ?_) h2;generalize pv l (wi ^ k)=A;generalize (w ^ j) ^ k=B;generalize s ^ k=C;generalize si ^ k=D
  grind
 refine Aa.trans ?_;rw [sm_swap]
 have Ba:cg (sm n (fun i=>sm n (fun k=>l.getD i 0*ni*(wi ^ i*w ^ j) ^ k))) (sm n (fun i=>if i=j then l.getD j 0 else 0)):=by
  refine sm_cg fun i hi=>?_;rw [sm_mul];by_cases e:i=j
  ·
   subst e;rw [if_pos rfl];have h1:cg (wi ^ i*w ^ i) 1:=by rw [Int.mul_comm];exact pow_inv hw i
   have h2:cg (sm n (fun k=>(wi ^ i*w ^ i) ^ k)) (n:Int):=by
    rw [← sm_one n];refine sm_cg fun k _=>?_;have:=h1.pow k;rw [Int.one_pow] at this;exact this
   refine ((cg.refl _).mul h2).trans ?_;have h3:=(cg.refl (l.getD i 0)).mul hn;rw [Int.mul_one,← Int.mul_assoc] at h3;exact h3
  ·
   rw [if_neg e]
   have Ca:cg (wi ^ n) 1:=by
    have h1:=pow_inv hw n;have h2:=hwn.mul (cg.refl (wi ^ n));rw [Int.one_mul] at h2;exact h2.symm.trans h1
   have hr:cg ((wi ^ i*w ^ j) ^ n) 1:=by
    rw [Int.mul_pow,← Int.pow_mul,← Int.pow_mul,Nat.mul_comm i n,Nat.mul_comm j n,Int.pow_mul,Int.pow_mul];have h1:=(Ca.pow i).mul (hwn.pow j);rw [Int.one_pow,Int.one_pow] at h1;exact h1
   have Da:¬ cg (wi ^ i*w ^ j) 1:=by
    rcases Nat.lt_or_ge i j with h | h
    ·
     obtain ⟨d,rfl⟩:∃ d,j=i+d:=⟨j-i,by omega⟩;intro h1;apply hord d (by omega) (by omega);rw [Int.pow_add,← Int.mul_assoc,Int.mul_comm (wi ^ i)] at h1;have h2:=(pow_inv hw i).mul (cg.refl (w ^ d));rw [Int.one_mul] at h2;exact h2.symm.trans h1
    ·
     obtain ⟨d,rfl⟩:∃ d,i=j+d:=⟨i-j,by omega⟩;intro h1;apply hord d (by omega) (by omega);have h2:=(pow_inv hw j).mul (cg.refl (wi ^ d));rw [Int.one_mul] at h2
     have h3:cg (wi ^ d) 1:=by
      refine h2.symm.trans (cg.trans (cg_of_eq ?_) h1);rw [Int.pow_add];generalize wi ^ j=A;generalize wi ^ d=B;generalize w ^ j=C
      grind
     have h4:=(cg.refl (w ^ d)).mul h3;rw [Int.mul_one] at h4;exact h4.symm.trans (pow_inv hw d)
   have h5:=(cg.refl (l.getD i 0*ni)).mul (geo0 hr Da);rw [Int.mul_zero] at h5;exact h5
 refine Ba.trans ?_;rw [sm_pick _ _ _ hj];exact cg.refl _
end M
namespace M
def two64 (n:Int):Bool:=(List.range 7).any fun i=>n == (2:Int) ^ i
theorem two64_iff (n:Int):two64 n=true↔∃ i:Nat,i≤6∧n=(2:Int) ^ i:=by
 simp only [two64,List.any_eq_true,List.mem_range,beq_iff_eq]
 constructor
 · rintro ⟨i,hi,e⟩;exact ⟨i,by omega,e⟩
 · rintro ⟨i,hi,e⟩;exact ⟨i,by omega,e⟩
theorem two64_two {n:Int} (h:two64 n=true):two n=true:=by
 obtain ⟨i,hi,e⟩:=(two64_iff n).1 h;exact (two_iff n).2 ⟨i,by omega,e⟩
theorem two64_le {i:Nat} (h:i≤6):(1:Int)≤2 ^ i∧(2:Int) ^ i≤64:=by
 have:i=0∨i=1∨i=2∨i=3∨i=4∨i=5∨i=6:=by omega
 rcases this with h | h | h | h | h | h | h <;> subst h <;> decide
theorem two64_bd {n:Int} (h:two64 n=true):1≤n∧n≤64:=by
 obtain ⟨i,hi,rfl⟩:=(two64_iff n).1 h;exact two64_le hi
def ptOk (n s:Int):Bool:=two64 n && (el s && (s != 0))
theorem ptOk_parts {n s:Int} (h:ptOk n s=true):two64 n=true∧el s=true∧s≠0:=by
 unfold ptOk at h;simpa using h
theorem ptOk_mk {n s:Int} (h:two64 n=true) (h1:el s=true) (h2:s≠0):ptOk n s=true:=by simp [ptOk,h,h1,h2]
theorem two_nat {n:Nat} (h:two (n:Int)=true):∃ i,i≤16∧n=2 ^ i:=by
 obtain ⟨i,hi,e⟩:=(two_iff _).1 h;refine ⟨i,hi,?_⟩;have:((2 ^ i:Nat):Int)=(2:Int) ^ i:=(by simp);omega
theorem root_n {n:Nat} (h:two (n:Int)=true):cg (root n ^ n) 1:=by
 have h1:=root_pow h;rw [pow_in (root_el h) (by omega),Int.toNat_natCast] at h1;have h2:=cg_pw (root n) n;rw [h1] at h2;exact h2.symm
theorem root_h {h n:Nat} (ht:two (n:Int)=true) (e:n=2*h):cg (root n ^ h) (-1):=by
 have h1:=root_half ht (by omega);have e2:((n:Int) / 2).toNat=h:=(by omega);rw [pow_in (root_el ht) (by omega),e2] at h1;have h2:=cg_pw (root n) h;rw [h1] at h2;exact h2.symm.trans (by unfold cg;omega)
theorem root_ord {n:Nat} (h:two (n:Int)=true) {d:Nat} (h0:0<d) (h1:d<n):¬ cg (root n ^ d) 1:=by
 intro hc;obtain ⟨i,hi,e⟩:=two_nat h
 cases i with
 | zero=>rw [Nat.pow_zero] at e;omega
 | succ i =>
  have e2:n=2*2 ^ i:=(by rw [e,Nat.pow_succ,Nat.mul_comm]);have hd:=order (root_h h e2) hc;rw [← e] at hd;have:=Nat.le_of_dvd h0 hd;omega
end M
set_option maxHeartbeats 1000000 in
theorem l1Two_any (n:Int) (w:World) :
  Calls Tryz.prog 90 #[.int .i64 n,.int .i64 65536] w fun e w'=>e=.returned (.bool (M.two n))∧w'=w:=by
 have HS:H9 (M.TwoInv n 1):=M.tinv_start n;go_enter Tryz.func90,Tryz.ntmps90;go_wp2
 go_loop [5] (fun k=>∃ p:Int,1≤p∧p≤131072∧k=it p∧M.TwoInv n p) (fun k=>(131073-intOf k).toNat)
 case atStart=>exact ⟨1,by omega,by omega,rfl,HS.o⟩
 case round =>
  obtain ⟨p,p0,p1,rfl,Aa⟩:=hrel;have HI:=Hd (Aa);clear Aa HS;by_cases hp:p≤65536
  ·
   by_cases he:p=n
   ·
    have E:H9 (M.two n=true):=M.tinv_hit HI.o hp he;have hb:(p == n)=true:=(by simp [he]);clear he HI;go_wp2;go_ret;exact ⟨ret_bool E.o.symm,rfl⟩
   ·
    have E:H9 (M.TwoInv n (2*p)):=M.tinv_step HI.o hp he;have hb:(p == n)=false:=(by simp [he]);clear he HI;go_wp2
    go_round
    case rel=>exact ⟨2*p,by omega,by omega,rfl,E.o⟩
    case measure=>simp [intOf];omega
  ·
   have E:H9 (M.two n=false):=M.tinv_end HI.o (by omega);clear HI;go_wp2;go_ret;exact ⟨ret_bool E.o.symm,rfl⟩
theorem div_bd {n:Int} (h:1≤n):0≤65536 / n∧65536 / n≤65536:=by
 refine ⟨Int.ediv_nonneg (by omega) (by omega),?_⟩;exact Int.ediv_le_self n (by omega)
set_option maxHeartbeats 1000000 in
theorem specRoot_any (n:Int) (w:World) :
  Calls Tryz.prog 108 #[.int .i64 n] w fun e w'=>e=.returned (.int .i64 (M.root n))∧w'=w:=by
 cases ht:M.two n with
 | true =>
  have E:H9 (M.root n=M.pw 3 (65536 / n).toNat):=M.root_in ht;obtain ⟨n0,n1⟩:=M.two_bd ht;obtain ⟨d0,d1⟩:=div_bd n0;obtain ⟨m,hm⟩:=Int.eq_ofNat_of_zero_le d0;have HM:=Hd (hm);clear hm;go_enter Tryz.func108,Tryz.ntmps108;(go_wp2_with fail);refine (l1Two_any n _).mono ?_;rintro e w' ⟨rfl,rfl⟩;(go_wp2_with fail);rw [HM.o];refine (specPow_in 3 m _ (by omega) (by omega) (by have:=HM.o;omega)).mono ?_;rintro e w' ⟨rfl,rfl⟩;go_wp2;go_ret;exact ⟨ret_int (by rw [E.o,HM.o,Int.toNat_natCast]),rfl⟩
 | false =>
  have E:H9 (M.root n = -1):=M.root_out ht;go_enter Tryz.func108,Tryz.ntmps108;(go_wp2_with fail);refine (l1Two_any n _).mono ?_;rintro e w' ⟨rfl,rfl⟩;go_wp2;go_ret;exact ⟨ret_int E.o.symm,rfl⟩
def M.gp (a q:Int) (k:Nat):List Int:=M.tab k (fun i=>a*q ^ i % 65537)
theorem M.gp_snoc (a q:Int) (k:Nat):M.gp a q k++[a*q ^ k % 65537]=M.gp a q (k+1):=M.tab_snoc k _
theorem M.gp_len (a q:Int) (k:Nat):(M.gp a q k).length=k:=M.tab_len _ _
theorem M.gp_step (a q:Int) (k:Nat):a*q ^ k % 65537*q % 65537=a*q ^ (k+1) % 65537:=by
 rw [M.mm,Int.mul_assoc,Int.pow_succ]
theorem M.gp_zero {a:Int} (a0:0≤a) (a1:a<65537) (q:Int):a=a*q ^ 0 % 65537:=by
 rw [Int.pow_zero,Int.mul_one,Int.emod_eq_of_lt a0 a1]
set_option maxHeartbeats 1000000 in
theorem l3Points_any (N:Nat) (s:Int) (w:World) (h:M.ptOk N s=true) :
  Calls Tryz.prog 116 #[.int .i64 N,.int .i64 s] w fun e w'=>∃ a' c',e=.returned (.slice a' N c')∧Owns 2 w' w.heap.size a' N c' (M.gp s (M.root N) N)∧Below w.heap.size w w':=by
 obtain ⟨i0,hi,Da,Ea,Fa⟩:=info_parts info_i64;have HI:H9 (Tryz.prog.info? 2 = some i0∧i0.zero=some (Value.int .i64 0)∧i0.size=1∧i0.bytes=8):=⟨hi,Da,Ea,Fa⟩;obtain ⟨h1,h2,h3⟩:=M.ptOk_parts h;obtain ⟨s0,s1⟩:=(M.el_iff s).1 h2;obtain ⟨n0,n1⟩:=M.two64_bd h1;obtain ⟨q0,q1⟩:=(M.el_iff _).1 (M.root_el (M.two64_two h1));have Ga:H9 (s=s*M.root N ^ 0 % 65537):=M.gp_zero s0 s1 _;clear h h1 h2 h3 hi Da Ea Fa;go_enter Tryz.func116,Tryz.ntmps116;(go_wp2_with fail);refine (specRoot_any N _).mono ?_;rintro e w' ⟨rfl,rfl⟩;generalize hq:M.root N=q at q0 q1 Ga ⊢;have HQ:=Hd (hq);clear hq;go_wp2
 go_loopw [5,7,8] (fun o v i wr=>∃ (k:Nat) (a':Option Addr) (Aa:Nat),k≤N∧i=it k∧o=.slice a' k Aa∧v=it (s*q ^ k % 65537)∧Owns 2 wr w.heap.size a' k Aa (M.gp s q k)∧Below w.heap.size w wr) (fun _ _ i _=>N-(intOf i).toNat)
 case atStart=>exact ⟨0,_,_,by omega,rfl,rfl,by rw [← Ga.o],World.ownsRow_made w #[] 0 (Nat.le_refl _) (by unfold maxLen;omega) rfl,(Below.refl _ _).alloc (Nat.le_refl _) _⟩
 case round =>
  obtain ⟨k,a',Aa,hk,rfl,rfl,rfl,Ha,Ba⟩:=hrel;have Ca:H9 (Owns 2 wr w.heap.size a' k Aa (M.gp s q k)):=Ha;have Ia:=Hd (Ba);have Oa:=Ba.size;clear Ha Ba;have HS:H9 (M.gp s q k++[s*q ^ k % 65537]=M.gp s q (k+1)):=M.gp_snoc s q k;have HT:H9 (s*q ^ k % 65537*q % 65537=s*q ^ (k+1) % 65537):=M.gp_step s q k;by_cases Sa:k<N
  ·
   have hI:(k:Int)<(N:Int):=(by omega);have y0:0≤s*q ^ k % 65537:=(by omega);have y1:s*q ^ k % 65537<65537:=(by omega);generalize hy:s*q ^ k % 65537=y at HS HT y0 y1;obtain ⟨m0,m1⟩:=M.mul_bd y0 y1 q0 q1;clear hy;(go_wp2_with (at_builtin;refine wpList_append_own _ rfl _ _ 24 rfl w.heap.size 2 i0 (it 0) 1 8 Tryz.underlying24 HI.o.1 HI.o.2.1 HI.o.2.2.1 HI.o.2.2.2 rfl (by decide) _ k ((M.gp s q k).map (Value.int .i64)) rfl (World.ownsRow.alloc Ca.o _) ⟨wr.heap.size,0,none⟩ 1 1 [it y] rfl rfl (cell_one wr _ _) (one_int _) (by unfold maxLen;omega) (by omega) (by simp;omega) ?_));intro v' w1 Ja Ka _;have hown':w1.ownsRow w.heap.size 2 1 v' (k+1) ((M.gp s q (k+1)).map (Value.int .i64)):=(by rw [← HS.o,List.map_append];exact Ja);obtain ⟨a2,La,rfl,Na⟩:=Owns.form hown';have Pa:H9 (Owns 2 w1 w.heap.size a2 (k+1) La (M.gp s q (k+1))):=Na;have Qa:H9 (Below w.heap.size w w1):=Ia.o.grown ((World.grownBy_alloc wr _ _).trans Ka) Oa Ca.o.row;clear Ja hown' Ka Na;go_wp2;go_roundw
   case rel=>exact ⟨k+1,a2,La,by omega,by go_num,rfl,by rw [HT.o],Pa.o,Qa.o⟩
   case measure=>simp [intOf];omega
  ·
   have Ra:k=N:=(by omega);subst Ra;go_wp2;go_ret;exact ⟨a',Aa,rfl,by rw [HQ.o];exact Ca.o,Ia.o⟩
def M.each (zs ys:List Int):List Int:=M.tab zs.length (fun i=>zs.getD i 0*ys.getD i 0 % 65537)
theorem Owns.one (t:TypeId) (w:World) (x:Int):Owns t (w.alloc (.cells #[Value.int .i64 x] t)) w.heap.size (some ⟨w.heap.size,0,none⟩) 1 1 [x]:=by
 refine ⟨by simp,.inr ⟨w.heap.size,1,#[Value.int .i64 x],rfl,Nat.le_refl _,?_,Nat.le_refl _,by unfold maxLen;omega,by simp,by simp⟩⟩;unfold World.alloc;simp
theorem M.ev_pv (zs:List Int) (x:Int):M.ev zs x=M.pv zs x % 65537:=by
 induction zs with
 | nil=>rfl
 | cons c r ih =>
  rw [M.ev_cons,ih];show _=(c+x*M.pv r x) % 65537;have h:=M.mm (M.pv r x) x;rw [Int.mul_comm x];generalize M.pv r x % 65537*x=A at h ⊢;generalize M.pv r x*x=B at h ⊢;omega
theorem M.ev_cg (zs:List Int) (x:Int):M.cg (M.ev zs x) (M.pv zs x):=by rw [M.ev_pv];exact M.cg_mod _
def M.evs (zs:List Int) (s q:Int) (N:Nat):List Int:=M.tab N (fun j=>M.ev zs (s*q ^ j % 65537))
theorem M.evs_len (zs:List Int) (s q:Int) (N:Nat):(M.evs zs s q N).length=N:=M.tab_len _ _
theorem gp_root {n:Nat} (h:M.two64 (n:Int)=true):∃ k,n=2 ^ k∧n≤64∧0<n:=by
 obtain ⟨i,hi,e⟩:=(M.two64_iff _).1 h;have hb:=M.two64_le hi;refine ⟨i,?_,by omega,by omega⟩;have:((2 ^ i:Nat):Int)=(2:Int) ^ i:=(by simp);omega
def M.frc (zs:List Int) (s:Int) (k:Nat):Int:=M.pv zs (M.pw (M.root zs.length) 65535 ^ k) % 65537*(M.pw zs.length 65535*M.pw s 65535 ^ k % 65537) % 65537
def M.frs (zs:List Int) (s:Int):List Int:=M.trim (M.tab zs.length (M.frc zs s))
def M.frOk (zs:List Int) (s:Int):Bool:=M.ptOk zs.length s && M.allEl zs
theorem M.frs_len (zs:List Int) (s:Int):(M.frs zs s).length≤zs.length:=by
 have:=M.len_trim (M.tab zs.length (M.frc zs s));rw [M.tab_len] at this;exact this
theorem M.frc_model (zs:List Int) (s:Int) (k:Nat):M.pv zs (M.pw (M.pw (M.root zs.length) 65535) k) % 65537*M.pw zs.length 65535 % 65537*M.pw (M.pw s 65535) k % 65537=M.frc zs s k:=by
 unfold M.frc
 have h1:M.cg (M.pv zs (M.pw (M.pw (M.root zs.length) 65535) k) % 65537) (M.pv zs (M.pw (M.root zs.length) 65535 ^ k) % 65537):=
  (M.cg_mod _).trans ((M.pv_cg (M.cg_pw _ _) zs).trans (M.cg_mod _).symm)
 have h2:=M.cg_pw (M.pw s 65535) k;generalize M.pv zs (M.pw (M.pw (M.root zs.length) 65535) k) % 65537=A at h1 ⊢;generalize M.pv zs (M.pw (M.root zs.length) 65535 ^ k) % 65537=B at h1 ⊢;generalize M.pw (M.pw s 65535) k=C at h2 ⊢;generalize M.pw s 65535 ^ k=D at h2 ⊢;generalize M.pw (zs.length:Int) 65535=n
 have h3:M.cg (A*n % 65537*C) (B*(n*D % 65537)):=by
  refine (((M.cg_mod _).trans (h1.mul (M.cg.refl n))).mul h2).trans ?_;refine (M.cg_of_eq (Int.mul_assoc B n D)).trans ?_;exact (M.cg.refl B).mul (M.cg_mod _).symm
 exact h3
theorem M.root_ne {n:Nat} (h:M.two (n:Int)=true) (h0:0<n):M.root n≠0:=by
 intro e;have h1:=M.root_n h;rw [e] at h1;obtain ⟨k,rfl⟩:∃ k,n=k+1:=⟨n-1,by omega⟩;rw [Int.pow_succ,Int.mul_zero] at h1;unfold M.cg at h1;omega
theorem M.lf_step {zs:List Int} {i:Nat} (st:Int) (h:i<zs.length):(M.pv (zs.take i) st % 65537+zs.getD i 0*(st ^ i % 65537)) % 65537=M.pv (zs.take (i+1)) st % 65537:=by
 rw [M.pv_take _ _ h];exact (M.cg_mod _).add ((M.cg.refl _).mul (M.cg_mod _))
theorem M.lf_pow (st:Int) (i:Nat):st ^ i % 65537*st % 65537=st ^ (i+1) % 65537:=by
 rw [M.mm,Int.pow_succ]
def M.frAt (zs:List Int) (s:Int) (N k:Nat):List Int:=M.tab N (fun i=>if i<k then M.frc zs s i else 0)
theorem M.frAt_zero (zs:List Int) (s:Int) (N:Nat):List.replicate N 0=M.frAt zs s N 0:=by
 refine M.tab_ext (by simp) fun i hi=>?_;rw [if_neg (by omega),List.getD_eq_getElem?_getD,List.getElem?_eq_getElem (by simpa using hi)];simp
theorem M.frAt_end (zs:List Int) (s:Int) (N:Nat):M.frAt zs s N N=M.tab N (M.frc zs s):=M.tab_congr fun _ hi=>if_pos hi
theorem M.frAt_step (zs:List Int) (s:Int) {N k:Nat}:(M.frAt zs s N k).set k (M.frc zs s k)=M.frAt zs s N (k+1):=by
 unfold M.frAt;rw [M.tab_set];refine M.tab_congr fun i _=>?_;by_cases e:i=k
 · subst e;rw [if_pos rfl,if_pos (by omega)]
 ·
  rw [if_neg e];by_cases e2:i<k
  · rw [if_pos e2,if_pos (by omega)]
  · rw [if_neg e2,if_neg (by omega)]
set_option maxHeartbeats 4000000 in
theorem l3From_any {la:Option Addr} {lc N:Nat} {zs:List Int} (s:Int) (w:World) (hz:Sees w la N lc zs) (az:M.allEl zs=true) (hp:M.ptOk N s=true) :
  Calls Tryz.prog 78 #[.slice la N lc,.int .i64 s] w fun e w'=>∃ a' m c',e=.returned (.slice a' m c')∧Owns 2 w' w.heap.size a' m c' (M.frs zs s)∧Below w.heap.size w w':=by
 have HZ:=Hd (hz);have HA:H9 (M.allEl zs=true):=az;obtain ⟨h1,h2,h3⟩:=M.ptOk_parts hp;obtain ⟨s0,s1⟩:=(M.el_iff s).1 h2;obtain ⟨kk,Wa,hN,Xa⟩:=gp_root h1;clear Wa;have Ya:H9 (M.inv (M.root N)=M.pw (M.root N) 65535):=M.inv_in (M.root_el (M.two64_two h1)) (M.root_ne (M.two64_two h1) Xa);have Za:H9 (M.inv (N:Int)=M.pw (N:Int) 65535):=M.inv_in ((M.el_iff _).2 ⟨by omega,by omega⟩) (by omega);have Ab:H9 (M.inv s=M.pw s 65535):=M.inv_in h2 h3
 have HM:H9 (∀ k,M.pv zs (M.pw (M.pw (M.root N) 65535) k) % 65537*M.pw N 65535 % 65537*M.pw (M.pw s 65535) k % 65537=M.frc zs s k):=fun k=>by
  have:=M.frc_model zs s k;rw [hz.len] at this;exact this
 have HF:H9 (M.trim (M.tab N (M.frc zs s))=M.frs zs s):=(by show _=_;unfold M.frs;rw [hz.len]);obtain ⟨r0,r1⟩:=M.pw_bd (M.root N) 65535;obtain ⟨n0,n1⟩:=M.pw_bd (N:Int) 65535;obtain ⟨u0,u1⟩:=M.pw_bd s 65535;clear hz az h1 h2 h3 hp;go_enter Tryz.func78,Tryz.ntmps78;(go_wp2_with fail);refine (specRoot_any N _).mono ?_;rintro e w ⟨rfl,rfl⟩;(go_wp2_with fail);refine (specInv_any (M.root N) _).mono ?_;rintro e w ⟨rfl,rfl⟩;rw [Ya.o];(go_wp2_with fail);refine (specInv_any (N:Int) _).mono ?_;rintro e w ⟨rfl,rfl⟩;rw [Za.o];(go_wp2_with fail);refine (specInv_any s _).mono ?_;rintro e w ⟨rfl,rfl⟩;rw [Ab.o];generalize M.pw (M.root N) 65535=bk at HM r0 r1 ⊢;generalize M.pw (N:Int) 65535=sl at HM n0 n1 ⊢;generalize M.pw s 65535=us at HM u0 u1 ⊢;obtain ⟨i0,hi,Ga,Ha,Ia⟩:=info_parts info_i64;(go_wp2_with (at_make;refine wpList_make_full _ rfl _ _ 24 rfl w.heap.size 2 i0 (it 0) 1 Tryz.underlying24 hi Ga Ha .i64 .i64 _ _ N rfl rfl rfl rfl (by rw [Ia];omega) (by unfold maxLen;omega) (Nat.le_refl _) ?_));intro w1 Da hg
 have HO:H9 (Owns 2 w1 w.heap.size (some ⟨w.heap.size,0,none⟩) N N (M.frAt zs s N 0)):=by
  show w1.ownsRow _ _ _ _ _ _;rw [made_ints,M.frAt_zero zs s] at Da;exact Da
 have HB:H9 (Below w.heap.size w w1):=below_grown hg;clear Da hg hi Ga Ha Ia;go_wp2
 go_loopw [10] (fun i wr=>∃ k:Nat,k≤N∧i=it k∧Owns 2 wr w.heap.size (some ⟨w.heap.size,0,none⟩) N N (M.frAt zs s N k)∧Below w.heap.size w wr) (fun i _=>N-(intOf i).toNat)
 case atStart=>exact ⟨0,by omega,rfl,HO.o,HB.o⟩
 case round =>
  obtain ⟨k,hk,rfl,Ja,Ka⟩:=hrel;have Ea:H9 (Owns 2 wr w.heap.size (some ⟨w.heap.size,0,none⟩) N N (M.frAt zs s N k)):=Ja;have Aa:=Hd (Ka);clear Ja Ka HO HB;by_cases Bb:k<N
  ·
   have hI:(k:Int)<(N:Int):=(by omega);have Fa:H9 (M.pv zs (M.pw bk k) % 65537*sl % 65537*M.pw us k % 65537=M.frc zs s k):=HM.o k;obtain ⟨t0,t1⟩:=M.pw_bd bk k;obtain ⟨v0,v1⟩:=M.pw_bd us k;(go_wp2_with fail);refine (specPow_in bk k _ r0 r1 (by omega)).mono ?_;rintro e wr ⟨rfl,rfl⟩;generalize M.pw bk k=st at Fa t0 t1 ⊢;generalize La:M.pw us k=pu at Fa v0 v1;have Cb:=Hd (La);clear La;have Db:=Hd (HZ.o.below Aa.o);go_wp2
   go_loop [11,12,14] (fun a x i=>∃ j:Nat,j≤N∧i=it j∧a=it (M.pv (zs.take j) st % 65537)∧x=it (st ^ j % 65537)) (fun _ _ i=>N-(intOf i).toNat)
   case atStart=>exact ⟨0,by omega,rfl,rfl,by rw [Int.pow_zero];rfl⟩
   case round =>
    obtain ⟨j,hj,rfl,rfl,rfl⟩:=hrel;by_cases Na:j<N
    ·
     obtain ⟨b1,o1,rfl,Oa⟩:=Db.o.at (by omega);have d1:=Oa j Na;have Pa:=M.el_at HA.o j;have Ca:H9 ((M.pv (zs.take j) st % 65537+zs.getD j 0*(st ^ j % 65537)) % 65537=M.pv (zs.take (j+1)) st % 65537):=M.lf_step st (by rw [HZ.o.len];exact Na);have Qa:H9 (st ^ j % 65537*st % 65537=st ^ (j+1) % 65537):=M.lf_pow st j;have Ba:0≤M.pv (zs.take j) st % 65537∧M.pv (zs.take j) st % 65537<65537:=(by omega);have Ra:0≤st ^ j % 65537∧st ^ j % 65537<65537:=(by omega);generalize zs.getD j 0=x at d1 Pa Ca;generalize M.pv (zs.take j) st % 65537=a at Ba Ca ⊢;generalize st ^ j % 65537=y at Ra Ca Qa ⊢;obtain ⟨x0,x1⟩:=Pa;obtain ⟨a0,a1⟩:=Ba;obtain ⟨y0,y1⟩:=Ra;obtain ⟨m0,m1⟩:=M.mul_bd x0 x1 y0 y1;obtain ⟨m2,m3⟩:=M.mul_bd y0 y1 t0 t1;have hJ:(j:Int)<(N:Int):=(by omega);clear Oa;go_wp2
     go_round
     case rel=>exact ⟨j+1,by omega,by go_num,by rw [Ca.o],by rw [Qa.o]⟩
     case measure=>simp [intOf];omega
    ·
     have Eb:j=N:=(by omega);subst Eb;have HT:H9 (M.pv (zs.take j) st=M.pv zs st):=(by show _=_;rw [List.take_of_length_le (by rw [HZ.o.len];exact Nat.le_refl _)]);have Ba:0≤M.pv (zs.take j) st % 65537∧M.pv (zs.take j) st % 65537<65537:=(by omega);have HV:H9 (M.pv (zs.take j) st % 65537*sl % 65537*pu % 65537=M.frc zs s k):=(by show _=_;rw [HT.o];exact Fa.o);generalize M.pv (zs.take j) st % 65537=a at Ba HV ⊢;obtain ⟨a0,a1⟩:=Ba;obtain ⟨m0,m1⟩:=M.mul_bd a0 a1 n0 n1;have b0:0≤a*sl % 65537:=Int.emod_nonneg _ (by decide);have b1:a*sl % 65537<65537:=Int.emod_lt_of_pos _ (by decide);obtain ⟨m2,m3⟩:=M.mul_bd b0 b1 v0 v1;obtain ⟨g,Sa,_,_,Ta,hf⟩:=Ea.o.block (by omega);simp only [Option.some.injEq,Addr.mk.injEq,and_true] at Sa;subst Sa;have d2:=Ta k Bb;have f2:=hf k;have Fb:H9 ((M.frAt zs s j k).set k (M.frc zs s k)=M.frAt zs s j (k+1)):=M.frAt_step zs s;clear Ta hf;(go_wp2_with fail);refine (specPow_in us k _ u0 u1 (by omega)).mono ?_;rintro e wr ⟨rfl,rfl⟩;rw [Cb.o];go_wp2;go_roundw
     case rel=>exact ⟨k+1,by omega,by go_num,by rw [← Fb.o,← HV.o];exact Ea.o.set k _,Aa.o.setCell (Nat.le_refl _) _⟩
     case measure=>simp [intOf];omega
  ·
   have Gb:k=N:=(by omega);subst Gb;(go_wp2_with fail);refine (l2Trim_any _ Ea.o.sees (by omega)).mono ?_;rintro e w2 ⟨a2,m2,c2,rfl,Ua,Va⟩
   have Hb:H9 (Owns 2 w2 w.heap.size a2 m2 c2 (M.frs zs s)):=by
    show Owns _ _ _ _ _ _ _;rw [← HF.o,← M.frAt_end];exact Ua.mono Aa.o.size
   have Ib:=Hd (Aa.o.trans (Va.mono Aa.o.size));clear Ua Va;go_wp2;go_ret;exact ⟨a2,m2,c2,rfl,Hb.o,Ib.o⟩
def M.evAt (zs:List Int) (s q:Int) (N k:Nat):List Int:=M.tab N (fun i=>if i<k then M.ev zs (s*q ^ i % 65537) else s*q ^ i % 65537)
theorem M.evAt_zero (zs:List Int) (s q:Int) (N:Nat):M.gp s q N=M.evAt zs s q N 0:=M.tab_congr fun _ _=>(if_neg (by omega)).symm
theorem M.evAt_end (zs:List Int) (s q:Int) (N:Nat):M.evAt zs s q N N=M.evs zs s q N:=M.tab_congr fun _ hi=>if_pos hi
theorem M.evAt_step (zs:List Int) (s q:Int) {N k:Nat}:(M.evAt zs s q N k).set k (M.ev zs (s*q ^ k % 65537))=M.evAt zs s q N (k+1):=by
 unfold M.evAt;rw [M.tab_set];refine M.tab_congr fun i _=>?_;by_cases e:i=k
 · subst e;rw [if_pos rfl,if_pos (by omega)]
 ·
  rw [if_neg e];by_cases e2:i<k
  · rw [if_pos e2,if_pos (by omega)]
  · rw [if_neg e2,if_neg (by omega)]
set_option maxHeartbeats 2000000 in
theorem l3Evals_any {la:Option Addr} {n lc:Nat} {zs:List Int} (N:Nat) (s:Int) (w:World) (hz:Sees w la n lc zs) (az:M.allEl zs=true) (hp:M.ptOk N s=true) :
  Calls Tryz.prog 83 #[.slice la n lc,.int .i64 N,.int .i64 s] w fun e w'=>∃ a' c',e=.returned (.slice a' N c')∧Owns 2 w' w.heap.size a' N c' (M.evs zs s (M.root N) N)∧Below w.heap.size w w':=by
 have HZ:=Hd (hz);have HA:H9 (M.allEl zs=true):=az;have HP:=Hd (hp);have hN:=(M.two64_bd (M.ptOk_parts hp).1).2;clear hz az hp;go_enter Tryz.func83,Tryz.ntmps83;(go_wp2_with fail);refine (l3Points_any N s _ HP.o).mono ?_;rintro e w1 ⟨a1,c1,rfl,Aa,Da⟩;generalize hq:M.root N=q at Aa;have HQ:=Hd (hq);clear hq
 have Ea:H9 (Owns 2 w1 w.heap.size a1 N c1 (M.evAt zs s q N 0)):=by
  show Owns _ _ _ _ _ _ _;rw [← M.evAt_zero];exact Aa
 have Fa:=Hd (Da);clear Aa Da;go_wp2
 go_loopw [8] (fun i wr=>∃ k:Nat,k≤N∧i=it k∧Owns 2 wr w.heap.size a1 N c1 (M.evAt zs s q N k)∧Below w.heap.size w wr) (fun i _=>N-(intOf i).toNat)
 case atStart=>exact ⟨0,by omega,rfl,Ea.o,Fa.o⟩
 case round =>
  obtain ⟨k,hk,rfl,Ga,Ha⟩:=hrel;have Ba:H9 (Owns 2 wr w.heap.size a1 N c1 (M.evAt zs s q N k)):=Ga;have Ca:=Hd (Ha);clear Ga Ha Ea Fa;by_cases Ia:k<N
  ·
   obtain ⟨g,rfl,La,_,hc,hf⟩:=Ba.o.block (by omega);have d1:=hc k Ia;have e1:=hf k
   have hx:(M.evAt zs s q N k).getD k 0=s*q ^ k % 65537:=by
    unfold M.evAt;rw [M.tab_get _ _ _ Ia,if_neg (by omega)]
   rw [hx] at d1;have Ja:H9 ((M.evAt zs s q N k).set k (M.ev zs (s*q ^ k % 65537))=M.evAt zs s q N (k+1)):=M.evAt_step zs s q;have Ka:0≤s*q ^ k % 65537∧s*q ^ k % 65537<65537:=(by omega);have hI:(k:Int)<(N:Int):=(by omega);clear hc hf hx;generalize s*q ^ k % 65537=x at d1 Ka Ja;obtain ⟨x0,x1⟩:=Ka;(go_wp2_with fail);refine (l2At_any x _ (HZ.o.below Ca.o) HA.o x0 x1).mono ?_;rintro e wr ⟨rfl,rfl⟩;go_wp2;go_roundw
   case rel=>exact ⟨k+1,by omega,by go_num,by rw [← Ja.o];exact Ba.o.set k _,Ca.o.setCell La _⟩
   case measure=>simp [intOf];omega
  ·
   have Na:k=N:=(by omega);subst Na;go_wp2;go_ret;refine ⟨a1,c1,rfl,?_,Ca.o⟩;rw [HQ.o,← M.evAt_end];exact Ba.o
namespace M
theorem cg_ne {a:Int} (h:el a=true) (h0:a≠0):¬ cg a 0:=by
 have:=(el_iff a).1 h;unfold cg;omega
theorem ptOk_two {n:Nat} {s:Int} (h:ptOk n s=true):two (n:Int)=true:=two64_two (ptOk_parts h).1
theorem pt_inj {n:Nat} {s:Int} (h:ptOk n s=true) {i j:Nat} (hij:i<j) (hj:j<n):s*root n ^ i % 65537≠s*root n ^ j % 65537:=by
 intro e;obtain ⟨h1,h2,h3⟩:=ptOk_parts h;have hs:=cg_ne h2 h3;have h0:0<n:=(by omega);have hw:¬ cg (root n) 0:=cg_ne (root_el (ptOk_two h)) (root_ne (ptOk_two h) h0);obtain ⟨d,rfl⟩:∃ d,j=i+d:=⟨j-i,by omega⟩;have e2:cg (s*root n ^ i) (s*root n ^ (i+d)):=e
 have e3:cg (s*root n ^ i*(root n ^ d-1)) 0:=by
  have:=cg_0sub e2.symm;rw [Int.pow_add] at this;refine cg.trans (cg_of_eq ?_) this;generalize root n ^ i=A;generalize root n ^ d=B
  grind
 have Aa:¬ cg (s*root n ^ i) 0:=fun e=>pow_ne hw i (cg_zero e hs);exact root_ord (ptOk_two h) (by omega) (by omega) (cg_sub0 (cg_zero e3 Aa))
theorem nodup_tab {N:Nat} {f:Nat→Int} (h:∀ i j,i<j→j<N→f i≠f j):(tab N f).Nodup:=by
 unfold tab List.Nodup;rw [List.pairwise_map];exact (List.pairwise_lt_range (n:=N)).imp_of_mem fun _ hj hlt=>h _ _ hlt (List.mem_range.1 hj)
theorem gp_nodup {n:Nat} {s:Int} (h:ptOk n s=true):(gp s (root n) n).Nodup:=nodup_tab fun _ _ hij hj=>pt_inj h hij hj
theorem gp_get (s q:Int) (n i:Nat) (h:i<n):(gp s q n).getD i 0=s*q ^ i % 65537:=tab_get _ _ _ h
theorem frs_ev {v:List Int} {s:Int} (h:frOk v s=true) {j:Nat} (hj:j<v.length):ev (frs v s) (s*root v.length ^ j % 65537)=v.getD j 0:=by
 obtain ⟨hp,ha⟩:ptOk v.length s=true∧allEl v=true:=by unfold frOk at h;simpa using h
 obtain ⟨h1,h2,h3⟩:=ptOk_parts hp;have h0:0<v.length:=(by omega);have hb:=two64_bd h1;have hw:¬ cg (root v.length) 0:=cg_ne (root_el (ptOk_two hp)) (root_ne (ptOk_two hp) h0);have hn:¬ cg (v.length:Int) 0:=by unfold cg;omega
 have key:=interp (n:=v.length) (l:=v) (out:=tab v.length (frc v s)) (s:=s) (si:=pw s 65535) (w:=root v.length) (wi:=pw (root v.length) 65535) (ni:=pw v.length 65535) rfl (tab_len _ _) (cg_inv (cg_ne h2 h3)) (cg_inv hw) (by rw [Int.mul_comm];exact cg_inv hn) (root_n (ptOk_two hp)) (fun d a b=>root_ord (ptOk_two hp) a b) (fun k hk=>by
  rw [tab_get _ _ _ hk];unfold frc;refine (cg_mod _).trans (((cg_mod _).mul (cg_mod _)).trans (cg_of_eq ?_));exact Int.mul_comm _ _) hj
 unfold frs;rw [ev_trim,ev_pv];have e1:=pv_cg (cg_mod (s*root v.length ^ j)) (tab v.length (frc v s));have e2:=e1.trans key;have hv:=el_at ha j;unfold cg at e2;omega
theorem frs_all (v:List Int) (s:Int):allEl (frs v s)=true:=all_trim (all_tab fun i _=>(el_iff _).2 ⟨by unfold frc;omega,by unfold frc;omega⟩)
theorem frs_neat (v:List Int) (s:Int):neat (frs v s):=neat_trim _
end M
namespace M
theorem cg_lt' {a b:Int} (h:cg a b) (a0:0≤a) (a1:a<65537):a=b % 65537:=by unfold cg at h;omega
theorem len_padd_trim (a b:List Int):(trim (padd a b)).length≤max a.length b.length:=by
 have:=len_trim (padd a b);rw [padd_len] at this;exact this
theorem len_pscale_trim (a:List Int) (c:Int):(trim (pscale a c)).length≤a.length:=by
 have:=len_trim (pscale a c);rw [pscale_len'] at this;exact this
def turn (f:List Int) (g:Int):List Int:=trim (tab f.length (fun i=>f.getD i 0*(g ^ i % 65537) % 65537))
theorem ev_turn (f:List Int) (g z:Int):ev (turn f g) z=ev f (g*z % 65537):=by
 unfold turn;rw [ev_trim,ev_pv,ev_pv]
 have h:=pv_scale (zs:=f) (ys:=tab f.length (fun i=>f.getD i 0*(g ^ i % 65537) % 65537)) g z (tab_len _ _) (fun i hi=>by
  rw [tab_get _ _ _ hi];exact (cg_mod _).trans ((cg.refl _).mul (cg_mod _)))
 exact h.trans (pv_cg (cg_mod _).symm f)
theorem len_turn (f:List Int) (g:Int):(turn f g).length≤f.length:=by
 have:=len_trim (tab f.length (fun i=>f.getD i 0*(g ^ i % 65537) % 65537));rw [tab_len] at this;exact this
theorem all_turn (f:List Int) (g:Int):allEl (turn f g)=true:=all_trim (all_tab fun i _=>(el_iff _).2 ⟨by omega,by omega⟩)
def rl (r:Rl) (x y:List Int):List Int:=
 trim (padd (trim (padd (trim (padd (trim (padd (trim (padd (trim (pscale (pmul x x) r.xx)) (trim (pscale (pmul x y) r.xy)))) (trim (pscale (pmul y y) r.yy)))) (trim (pscale x r.x)))) (trim (pscale y r.y)))) (trim [r.k]))
theorem ev_one (k z:Int):ev [k] z=k % 65537:=by
 show (0*z+k) % 65537=_;rw [Int.zero_mul,Int.zero_add]
theorem ev_rl (r:Rl) (x y:List Int) (z:Int):ev (rl r x y) z=r.app (ev x z) (ev y z):=by
 unfold rl Rl.app;simp only [ev_trim,ev_padd,ev_pscale,ev_pmul,ev_one];simp only [mL,aL,aR]
 congr 1
 grind
theorem all_rl (r:Rl) (x y:List Int):allEl (rl r x y)=true:=all_trim (all_padd _ _)
theorem len_rl (r:Rl) {x y:List Int} {n:Nat} (h0:1≤n) (hx:x.length≤n) (hy:y.length≤n):(rl r x y).length≤2*n-1:=by
 unfold rl;have a1:=len_pscale_trim (pmul x x) r.xx;have a2:=len_pscale_trim (pmul x y) r.xy;have a3:=len_pscale_trim (pmul y y) r.yy;have b1:=pmul_len x x;have b2:=pmul_len x y;have b3:=pmul_len y y;have a4:=len_pscale_trim x r.x;have a5:=len_pscale_trim y r.y;have a6:=len_trim [r.k];rw [List.length_singleton] at a6;have c1:=len_padd_trim (trim (pscale (pmul x x) r.xx)) (trim (pscale (pmul x y) r.xy));generalize trim (padd (trim (pscale (pmul x x) r.xx)) (trim (pscale (pmul x y) r.xy)))=L1 at *;have c2:=len_padd_trim L1 (trim (pscale (pmul y y) r.yy));generalize trim (padd L1 (trim (pscale (pmul y y) r.yy)))=L2 at *;have c3:=len_padd_trim L2 (trim (pscale x r.x));generalize trim (padd L2 (trim (pscale x r.x)))=L3 at *;have c4:=len_padd_trim L3 (trim (pscale y r.y));generalize trim (padd L3 (trim (pscale y r.y)))=L4 at *;have c5:=len_padd_trim L4 (trim [r.k]);omega
def left (f rule:List Int) (g last:Int):List Int:=pmul (trim (padd (turn f g) (trim (pscale rule 65536)))) [sub 0 last,1]
theorem ev_left (f rule:List Int) (g last z:Int) (hl:el last=true):ev (left f rule g last) z=(ev f (g*z % 65537)-ev rule z)*(z-last) % 65537:=by
 unfold left;rw [ev_pmul,ev_trim,ev_padd,ev_trim,ev_pscale,ev_turn,sub_in (by decide) hl];show cg _ _;refine cg.mul ((cg_mod _).trans (((cg.refl _).add ((cg_mod _).trans ((cg.refl _).mul (show cg 65536 (-1) by unfold cg;decide)))).trans (cg_of_eq (by omega)))) ?_;show cg ((((0*z+1) % 65537)*z+(0+65537-last) % 65537) % 65537) _;rw [Int.zero_mul];show cg ((1*z+(0+65537-last) % 65537) % 65537) _;unfold cg;omega
theorem len_left {f rule:List Int} {g last:Int} {n:Nat} (h0:1≤n) (hf:f.length≤n) (hr:rule.length≤2*n-1):(left f rule g last).length≤2*n:=by
 unfold left;have h1:=pmul_len (trim (padd (turn f g) (trim (pscale rule 65536)))) [sub 0 last,1];have h2:=len_padd_trim (turn f g) (trim (pscale rule 65536));have h3:=len_turn f g;have h4:=len_pscale_trim rule 65536;have h5:[sub 0 last,1].length=2:=rfl;omega
theorem all_left (f rule:List Int) (g last:Int):allEl (left f rule g last)=true:=all_pmul _ _
theorem neat_left (f rule:List Int) (g last:Int):neat (left f rule g last):=neat_pmul _ _
def zeroL (n:Nat):List Int:=((List.replicate (n+1) 0).set 0 65536).set n 1
theorem zeroL_len (n:Nat):(zeroL n).length=n+1:=by simp [zeroL]
theorem zeroL_get {n:Nat} (h:0<n) (i:Nat):(zeroL n).getD i 0=if i=n then 1 else if i=0 then 65536 else 0:=by
 unfold zeroL;rw [getD_set,getD_set,replicate_getD];simp only [List.length_set,List.length_replicate];by_cases h1:i=n
 · rw [if_pos (by omega),if_pos h1]
 ·
  rw [if_neg (by omega),if_neg h1];by_cases h2:i=0
  · rw [if_pos (by omega),if_pos h2]
  · rw [if_neg (by omega),if_neg h2]
theorem zeroL_all {n:Nat} (h:0<n):allEl (zeroL n)=true:=by
 rw [tab_ext (zeroL_len n) (fun i _=>zeroL_get h i)];refine all_tab fun i _=>?_;by_cases h1:i=n
 · rw [if_pos h1];decide
 ·
  rw [if_neg h1];by_cases h2:i=0
  · rw [if_pos h2];decide
  · rw [if_neg h2];decide
theorem zeroL_neat {n:Nat} (h:0<n):neat (zeroL n):=.inr (by rw [zeroL_len,zeroL_get h,if_pos (by omega)];decide)
theorem ev_zeroL {n:Nat} (h:0<n) (z:Int):cg (ev (zeroL n) z) (z ^ n-1):=by
 refine (ev_cg _ _).trans ?_;unfold zeroL;rw [pv_set _ _ _ (by simp),pv_set _ _ _ (by simp),pv_zeros,getD_set,replicate_getD,replicate_getD,if_neg (by omega)];have:cg (0+(65536-0)*z ^ 0+(1-0)*z ^ n) (0+(-1)*z ^ 0+(1-0)*z ^ n):=((cg.refl 0).add ((show cg (65536-0) (-1) by unfold cg;decide).mul (cg.refl _))).add (cg.refl _);refine this.trans (cg_of_eq ?_);rw [Int.pow_zero];omega
def lst (n:Nat):Int:=pw (root n) (n-1)
theorem el_lst (n:Nat):el (lst n)=true:=el_pw _ _
theorem row_pt {n:Nat} (h:two64 (n:Int)=true):ptOk n 1=true:=ptOk_mk h (by decide) (by decide)
theorem row_one (n i:Nat):root n ^ i % 65537=1*root n ^ i % 65537:=by rw [Int.one_mul]
theorem rows_zero {n:Nat} {r:List Int} (h:two64 (n:Int)=true) (nr:neat r) (ar:allEl r=true) (lr:r.length≤n) (hz:∀ i,i<n→ev r (root n ^ i % 65537)=0):r=[]:=by
 refine interp_unique (xs:=gp 1 (root n) n) nr (.inl rfl) ar rfl (by rw [gp_len];exact lr) (by simp) (gp_nodup (row_pt h)) fun x hx=>?_;obtain ⟨i,hi,rfl⟩:=List.mem_map.1 hx;have hi':=List.mem_range.1 hi;refine ⟨by omega,by omega,?_⟩;rw [← row_one,hz i hi'];rfl
theorem div_zeroL {n:Nat} {L q r:List Int} (h:two64 (n:Int)=true) (h0:0<n) (hd:Div L (zeroL n) q r) (hL:∀ i,i<n→ev L (root n ^ i % 65537)=0):r=[]:=by
 have hs:=hd.short;rw [zeroL_len] at hs;refine rows_zero h hd.nr hd.ar (by omega) fun i hi=>?_;have e:=div_ev hd (root n ^ i % 65537);rw [hL i hi] at e
 have z0:cg (ev (zeroL n) (root n ^ i % 65537)) 0:=by
  refine (ev_zeroL h0 _).trans ?_
  have h1:cg ((root n ^ i % 65537) ^ n) 1:=by
   refine ((cg_mod _).pow n).trans ?_;rw [← Int.pow_mul,Nat.mul_comm,Int.pow_mul];refine ((root_n (two64_two h)).pow i).trans (cg_of_eq Int.one_pow)
  exact (h1.sub (cg.refl 1)).trans (cg_of_eq (by omega))
 have hb:=ev_bd (zeroL n) (root n ^ i % 65537);have z1:ev (zeroL n) (root n ^ i % 65537)=0:=(by unfold cg at z0;omega);rw [z1,Int.mul_zero,Int.zero_add] at e;have Aa:=ev_bd r (root n ^ i % 65537);omega
def zp (n i:Nat):Int:=3*root (4*n:Nat) ^ i % 65537
theorem zp_bd (n i:Nat):0≤zp n i∧zp n i<65537:=by unfold zp;omega
theorem el_zp (n i:Nat):el (zp n i)=true:=(el_iff _).2 (zp_bd n i)
def zer (n i:Nat):Int:=(pw (zp n i) n+65537-1) % 65537
theorem zer_bd (n i:Nat):0≤zer n i∧zer n i<65537:=by unfold zer;omega
theorem zer_cg (n i:Nat):cg (zer n i) (zp n i ^ n-1):=by
 unfold zer;refine (cg_mod _).trans ?_;have:=cg_pw (zp n i) n;unfold cg at *;omega
def rowsN (n:Nat):Bool:=n == 2 || n == 4 || n == 8 || n == 16
theorem rowsN_cases {n:Nat} (h:rowsN n=true):n=2∨n=4∨n=8∨n=16:=by
 unfold rowsN at h;simp only [Bool.or_eq_true,beq_iff_eq] at h;omega
theorem rowsN_two {n:Nat} (h:rowsN n=true):two64 (n:Int)=true:=by
 rcases rowsN_cases h with rfl | rfl | rfl | rfl <;> decide
theorem rowsN_two4 {n:Nat} (h:rowsN n=true):two64 ((4*n:Nat):Int)=true:=by
 rcases rowsN_cases h with rfl | rfl | rfl | rfl <;> decide
theorem rowsN_pt {n:Nat} (h:rowsN n=true):ptOk ((4*n:Nat):Int) 3=true:=ptOk_mk (rowsN_two4 h) (by decide) (by decide)
theorem rowsN_three {n:Nat} (h:rowsN n=true):¬ cg ((3:Int) ^ (4*n)) 1:=by
 rcases rowsN_cases h with rfl | rfl | rfl | rfl <;> (unfold cg;decide)
theorem zer_ne {n:Nat} (h:rowsN n=true) (i:Nat):zer n i≠0:=by
 intro e;have h1:=zer_cg n i;rw [e] at h1;have h2:cg (zp n i ^ n) 1:=cg_sub0 h1.symm
 have h3:cg (zp n i ^ (4*n)) 1:=by
  rw [Nat.mul_comm,Int.pow_mul];exact (h2.pow 4).trans (cg_of_eq (by decide))
 have h4:cg (zp n i ^ (4*n)) (3 ^ (4*n)):=by
  unfold zp;refine ((cg_mod _).pow _).trans ?_;have e1:root (4*n:Nat) ^ (4*n*i)=(root (4*n:Nat) ^ (4*n)) ^ i:=Int.pow_mul;rw [Int.mul_pow,← Int.pow_mul,Nat.mul_comm i,e1];have:=(cg.refl ((3:Int) ^ (4*n))).mul ((root_n (two64_two (rowsN_two4 h))).pow i);rw [Int.one_pow,Int.mul_one] at this;exact this
 exact rowsN_three h (h4.symm.trans h3)
theorem root_four {n:Nat} (h:rowsN n=true):cg (root (4*n:Nat) ^ 4) (root n):=by
 have h1:=two64_two (rowsN_two h);have h2:=two64_two (rowsN_two4 h);rw [root_in h1,root_in h2];refine ((cg_pw _ _).pow 4).trans ?_;rw [← Int.pow_mul]
 have e:(65536 / ((4*n:Nat):Int)).toNat*4=(65536 / (n:Int)).toNat:=by
  rcases rowsN_cases h with rfl | rfl | rfl | rfl <;> decide
 rw [e];exact (cg_pw _ _).symm
theorem zp_next {n:Nat} (h:rowsN n=true) (i:Nat):root n*zp n i % 65537=zp n ((i+4) % (4*n)):=by
 show cg _ _;unfold zp;have h1:cg (root (4*n:Nat) ^ ((i+4) % (4*n))) (root (4*n:Nat) ^ (i+4)):=(pow_wrap (root_n (two64_two (rowsN_two4 h))) (i+4)).symm;refine cg.trans ?_ (((cg.refl 3).mul h1).symm);refine ((cg.refl _).mul (cg_mod _)).trans ?_;rw [Int.pow_add];refine (((root_four h).symm.mul (cg.refl _))).trans (cg_of_eq ?_);generalize root (4*n:Nat) ^ i=A;generalize root (4*n:Nat) ^ 4=B
 grind
def mis (r:Rl) (X Y F:List Int) (n i:Nat):Int:=(F.getD ((i+4) % (4*n)) 0+65537-r.app (X.getD i 0) (Y.getD i 0)) % 65537*((zp n i+65537-lst n) % 65537) % 65537
def wide (f:List Int) (n:Nat):List Int:=evs f 3 (root (4*n:Nat)) (4*n)
theorem wide_len (f:List Int) (n:Nat):(wide f n).length=4*n:=evs_len _ _ _ _
theorem wide_get (f:List Int) {n i:Nat} (h:i<4*n):(wide f n).getD i 0=ev f (zp n i):=by
 unfold wide evs;rw [tab_get _ _ _ h];rfl
theorem mis_left {r:Rl} {x y f:List Int} {n i:Nat} (h:rowsN n=true) (hi:i<4*n):mis r (wide x n) (wide y n) (wide f n) n i=ev (left f (rl r x y) (root n) (lst n)) (zp n i):=by
 unfold mis;rw [ev_left _ _ _ _ _ (el_lst n),wide_get _ hi,wide_get _ hi,wide_get _ (Nat.mod_lt _ (by omega)),ev_rl,zp_next h];show cg _ _;refine cg.mul ?_ ?_
 · unfold cg;omega
 · unfold cg;omega
def quo (r:Rl) (X Y F:List Int) (n:Nat):List Int:=tab (4*n) (fun i=>mis r X Y F n i*pw (zer n i) 65535 % 65537)
theorem quo_of {n:Nat} {a b:Int} {i:Nat} (h:rowsN n=true) (ha:0≤a∧a<65537) (e:cg (a*zer n i) b):a=b*pw (zer n i) 65535 % 65537:=by
 have hz:¬ cg (zer n i) 0:=by
  have:=zer_bd n i;have:=zer_ne h i;unfold cg;omega
 have h1:=cg_inv hz
 have h2:cg a (b*pw (zer n i) 65535):=by
  have h3:=e.mul (cg.refl (pw (zer n i) 65535));have h4:=(cg.refl a).mul h1;rw [Int.mul_one,← Int.mul_assoc] at h4;exact h4.symm.trans h3
 exact cg_lt' h2 ha.1 ha.2
end M
namespace M
structure Thru (m : Mc) (s : Int × Int) (n : Nat) (x y : List Int) : Prop where
 ax:allEl x=true
 nx:neat x
 lx:x.length≤n
 vx:∀ i,i<n→ev x (root n ^ i % 65537)=(m.rn s i).1
 ay:allEl y=true
 ny:neat y
 ly:y.length≤n
 vy:∀ i,i<n→ev y (root n ^ i % 65537)=(m.rn s i).2
def xsR (m:Mc) (s:Int×Int) (n:Nat):List Int:=tab n (fun i=>(m.rn s i).1)
def ysR (m:Mc) (s:Int×Int) (n:Nat):List Int:=tab n (fun i=>(m.rn s i).2)
theorem xsR_all {m:Mc} {s:Int×Int} (hs:sOk s=true) (n:Nat):allEl (xsR m s n)=true:=all_tab fun i _=>(el_iff _).2 ((sOk_iff _).1 (sOk_rn m hs i)).1
theorem ysR_all {m:Mc} {s:Int×Int} (hs:sOk s=true) (n:Nat):allEl (ysR m s n)=true:=all_tab fun i _=>(el_iff _).2 ((sOk_iff _).1 (sOk_rn m hs i)).2
theorem frOk_rows {n:Nat} {v:List Int} (h:rowsN n=true) (hl:v.length=n) (ha:allEl v=true):frOk v 1=true:=by
 unfold frOk;rw [hl,row_pt (rowsN_two h),ha];rfl
def fx (m:Mc) (s:Int×Int) (n:Nat):List Int:=frs (xsR m s n) 1
def fy (m:Mc) (s:Int×Int) (n:Nat):List Int:=frs (ysR m s n) 1
theorem fr_rows {n i:Nat} {v:List Int} (h:rowsN n=true) (hl:v.length=n) (ha:allEl v=true) (hi:i<n):ev (frs v 1) (root n ^ i % 65537)=v.getD i 0:=by
 have:=frs_ev (frOk_rows h hl ha) (j:=i) (by omega);rw [hl,← row_one] at this;exact this
theorem thru_f (m:Mc) {s:Int×Int} {n:Nat} (hs:sOk s=true) (h:rowsN n=true):Thru m s n (fx m s n) (fy m s n) where
 ax:=frs_all _ _
 nx:=frs_neat _ _
 lx:=by have:=frs_len (xsR m s n) 1;unfold xsR at this;rw [tab_len] at this;exact this
 vx:=fun i hi=>by rw [fx,fr_rows h (show (xsR m s n).length=n from tab_len _ _) (xsR_all hs n) hi,xsR,tab_get _ _ _ hi]
 ay:=frs_all _ _
 ny:=frs_neat _ _
 ly:=by have:=frs_len (ysR m s n) 1;unfold ysR at this;rw [tab_len] at this;exact this
 vy:=fun i hi=>by rw [fy,fr_rows h (show (ysR m s n).length=n from tab_len _ _) (ysR_all hs n) hi,ysR,tab_get _ _ _ hi]
theorem root_step (n i:Nat):root n*(root n ^ i % 65537) % 65537=root n ^ (i+1) % 65537:=by
 rw [mR,Int.pow_succ,Int.mul_comm]
theorem left_rows {m:Mc} {s:Int×Int} {n:Nat} {x y:List Int} (ht:Thru m s n x y):(∀ i,i<n→ev (left x (rl m.X x y) (root n) (lst n)) (root n ^ i % 65537)=0)∧(∀ i,i<n→ev (left y (rl m.Y x y) (root n) (lst n)) (root n ^ i % 65537)=0):=by
 constructor <;> intro i hi
 ·
  rw [ev_left _ _ _ _ _ (el_lst n)];by_cases hl:i=n-1
  ·
   subst hl;have:root n ^ (n-1) % 65537-lst n=0:=(by unfold lst pw;omega);rw [this,Int.mul_zero];rfl
  ·
   rw [root_step,ht.vx (i+1) (by omega),ev_rl,ht.vx i hi,ht.vy i hi]
   have:(m.rn s (i+1)).1-m.X.app (m.rn s i).1 (m.rn s i).2=0:=by
    show (m.nx (m.rn s i)).1-_=0;unfold Mc.nx;omega
   rw [this,Int.zero_mul];rfl
 ·
  rw [ev_left _ _ _ _ _ (el_lst n)];by_cases hl:i=n-1
  ·
   subst hl;have:root n ^ (n-1) % 65537-lst n=0:=(by unfold lst pw;omega);rw [this,Int.mul_zero];rfl
  ·
   rw [root_step,ht.vy (i+1) (by omega),ev_rl,ht.vx i hi,ht.vy i hi]
   have:(m.rn s (i+1)).2-m.Y.app (m.rn s i).1 (m.rn s i).2=0:=by
    show (m.nx (m.rn s i)).2-_=0;unfold Mc.nx;omega
   rw [this,Int.zero_mul];rfl
theorem rowsN_pos {n:Nat} (h:rowsN n=true):2≤n∧n≤16:=by rcases rowsN_cases h with rfl | rfl | rfl | rfl <;> omega
theorem quo_div {n:Nat} {r:Rl} {x y f q rest:List Int} (h:rowsN n=true) (hL:∀ i,i<n→ev (left f (rl r x y) (root n) (lst n)) (root n ^ i % 65537)=0) (hd:Div (left f (rl r x y) (root n) (lst n)) (zeroL n) q rest):wide q n=quo r (wide x n) (wide y n) (wide f n) n:=by
 have hp:=rowsN_pos h;have h0:=div_zeroL (rowsN_two h) (by omega) hd hL;refine tab_ext (wide_len _ _) fun i hi=>?_;rw [wide_get _ hi];refine quo_of h (ev_bd _ _) ?_;rw [mis_left h hi,div_ev hd,h0];refine cg.trans ?_ (cg_mod _).symm;refine cg.trans ?_ (cg_of_eq (show ev q (zp n i)*ev (zeroL n) (zp n i)=ev q (zp n i)*ev (zeroL n) (zp n i)+ev [] (zp n i) by rw [show ev [] (zp n i)=0 from rfl];omega));exact (cg.refl _).mul ((zer_cg n i).trans (ev_zeroL (by omega) _).symm)
structure Pf where
 s:Int×Int
 e:Int×Int
 X:List Int
 Y:List Int
 QX:List Int
 QY:List Int
def Mc.pf (m:Mc) (s:Int×Int) (n:Nat):Pf where
 s:=s
 e:=m.rn s (n-1)
 X:=wide (fx m s n) n
 Y:=wide (fy m s n) n
 QX:=quo m.X (wide (fx m s n) n) (wide (fy m s n) n) (wide (fx m s n) n) n
 QY:=quo m.Y (wide (fx m s n) n) (wide (fy m s n) n) (wide (fy m s n) n) n
def lenEl (l:List Int) (n:Nat):Bool:=decide (l.length=4*n) && allEl l
def Pf.form (p:Pf) (n:Nat):Bool:=lenEl p.X n && (lenEl p.Y n && (lenEl p.QX n && (lenEl p.QY n && (sOk p.s && sOk p.e))))
def Pf.rows (p:Pf):Nat:=if p.form 2=true then 2 else if p.form 4=true then 4 else if p.form 8=true then 8 else if p.form 16=true then 16 else 0
theorem lenEl_iff (l:List Int) (n:Nat):lenEl l n=true↔l.length=4*n∧allEl l=true:=by unfold lenEl;rw [Bool.and_eq_true,decide_eq_true_iff]
theorem form_iff (p:Pf) (n:Nat):p.form n=true↔(p.X.length=4*n∧allEl p.X=true)∧(p.Y.length=4*n∧allEl p.Y=true)∧(p.QX.length=4*n∧allEl p.QX=true)∧(p.QY.length=4*n∧allEl p.QY=true)∧sOk p.s=true∧sOk p.e=true:=by
 unfold Pf.form;simp only [Bool.and_eq_true,lenEl_iff]
theorem rows_of {p:Pf} {n:Nat} (h:rowsN n=true) (hf:p.form n=true):p.rows=n:=by
 have hl:=((form_iff p n).1 hf).1.1;have no:∀ k,k≠n→¬ p.form k=true:=fun k hk hc=>by have:=((form_iff p k).1 hc).1.1;omega
 unfold Pf.rows
 rcases rowsN_cases h with rfl | rfl | rfl | rfl
 · rw [if_pos hf]
 · rw [if_neg (no 2 (by omega)),if_pos hf]
 · rw [if_neg (no 2 (by omega)),if_neg (no 4 (by omega)),if_pos hf]
 · rw [if_neg (no 2 (by omega)),if_neg (no 4 (by omega)),if_neg (no 8 (by omega)),if_pos hf]
theorem rows_some {p:Pf} (h:p.rows≠0):rowsN p.rows=true∧p.form p.rows=true:=by
 unfold Pf.rows at *;by_cases h2:p.form 2=true
 · rw [if_pos h2];exact ⟨rfl,h2⟩
 rw [if_neg h2] at *;by_cases h4:p.form 4=true
 · rw [if_pos h4];exact ⟨rfl,h4⟩
 rw [if_neg h4] at *;by_cases h8:p.form 8=true
 · rw [if_pos h8];exact ⟨rfl,h8⟩
 rw [if_neg h8] at *;by_cases Aa:p.form 16=true
 · rw [if_pos Aa];exact ⟨rfl,Aa⟩
 rw [if_neg Aa] at h;exact absurd rfl h
def qOk (r:Rl) (X Y F Q:List Int) (n k:Nat):Bool:=(List.range k).all fun i=>Q.getD i 0*zer n i % 65537 == mis r X Y F n i
def lenOk (l:List Int) (n:Nat):Bool:=decide ((frs l 3).length≤n)
def endOk (p:Pf) (n:Nat):Bool:=(decide (ev (frs p.X 3) 1=p.s.1) && decide (ev (frs p.Y 3) 1=p.s.2)) && (decide (ev (frs p.X 3) (lst n)=p.e.1) && decide (ev (frs p.Y 3) (lst n)=p.e.2))
def accN (m:Mc) (p:Pf) (n:Nat):Bool:=(lenOk p.X n && (lenOk p.Y n && (lenOk p.QX n && lenOk p.QY n))) && (endOk p n && (qOk m.X p.X p.Y p.X p.QX n (4*n) && qOk m.Y p.X p.Y p.Y p.QY n (4*n)))
def acc (m:Mc) (p:Pf):Bool:=m.ok && (decide (p.rows≠0) && accN m p p.rows)
end M
structure PA where
 x:Option Addr
 xc:Nat
 y:Option Addr
 yc:Nat
 qx:Option Addr
 qxc:Nat
 qy:Option Addr
 qyc:Nat
def PA.zero : PA:=⟨none,0,none,0,none,0,none,0⟩
def M.Pf.zero : M.Pf:=⟨(0,0),(0,0),[],[],[],[]⟩
structure SeesP (w : World) (p : M.Pf) (a : PA) : Prop where
 x:Sees w a.x p.X.length a.xc p.X
 y:Sees w a.y p.Y.length a.yc p.Y
 qx:Sees w a.qx p.QX.length a.qxc p.QX
 qy:Sees w a.qy p.QY.length a.qyc p.QY
structure OwnsP (t : TypeId) (w : World) (base : Nat) (p : M.Pf) (a : PA) : Prop where
 x:Owns t w base a.x p.X.length a.xc p.X
 y:Owns t w base a.y p.Y.length a.yc p.Y
 qx:Owns t w base a.qx p.QX.length a.qxc p.QX
 qy:Owns t w base a.qy p.QY.length a.qyc p.QY
def far (a b:Option Addr):Prop:=∀ x y,a=some x→b=some y→x.block≠y.block
theorem far.symm {a b:Option Addr} (h:far a b):far b a:=fun x y hx hy e=>h y x hy hx e.symm
theorem none_far (a:Option Addr):far none a:=fun _ _ h=>by cases h
theorem OwnsP.sees {t:TypeId} {w:World} {base:Nat} {p:M.Pf} {a:PA} (h:OwnsP t w base p a):SeesP w p a:=⟨h.x.sees,h.y.sees,h.qx.sees,h.qy.sees⟩
theorem OwnsP.below {t:TypeId} {w w':World} {base:Nat} {p:M.Pf} {a:PA} (h:OwnsP t w base p a) (hb:Below w.heap.size w w'):OwnsP t w' base p a:=⟨h.x.below hb,h.y.below hb,h.qx.below hb,h.qy.below hb⟩
theorem OwnsP.mono {t:TypeId} {w:World} {base base':Nat} {p:M.Pf} {a:PA} (h:OwnsP t w base p a) (hb:base'≤base):OwnsP t w base' p a:=⟨h.x.mono hb,h.y.mono hb,h.qx.mono hb,h.qy.mono hb⟩
theorem SeesP.below {w w':World} {p:M.Pf} {a:PA} (h:SeesP w p a) (hb:Below w.heap.size w w'):SeesP w' p a:=⟨h.x.below hb,h.y.below hb,h.qx.below hb,h.qy.below hb⟩
def M.provOk (m:M.Mc) (s:Int×Int) (n:Int):Bool:=m.ok && (M.sOk s && M.rows n)
def M.prv (m:M.Mc) (s:Int×Int) (n:Int):M.Pf:=if M.provOk m s n=true then m.pf s n.toNat else M.Pf.zero
theorem M.prv_in {m:M.Mc} {s:Int×Int} {n:Int} (h:M.provOk m s n=true):M.prv m s n=m.pf s n.toNat:=if_pos h
theorem M.prv_out {m:M.Mc} {s:Int×Int} {n:Int} (h:M.provOk m s n=false):M.prv m s n=M.Pf.zero:=if_neg (by rw [h];decide)
theorem M.provOk_parts {m:M.Mc} {s:Int×Int} {n:Int} (h:M.provOk m s n=true):m.ok=true∧M.sOk s=true∧∃ N:Nat,n=(N:Int)∧M.rowsN N=true:=by
 unfold M.provOk at h;rw [Bool.and_eq_true,Bool.and_eq_true] at h;refine ⟨h.1,h.2.1,?_⟩
 rcases M.rows_yes h.2.2 with rfl | rfl | rfl | rfl
 · exact ⟨2,rfl,rfl⟩
 · exact ⟨4,rfl,rfl⟩
 · exact ⟨8,rfl,rfl⟩
 · exact ⟨16,rfl,rfl⟩
theorem M.provOk_no {m:M.Mc} {s:Int×Int} {n:Int} (h:M.provOk m s n=false):m.ok=false∨(m.ok=true∧M.sOk s=false)∨(m.ok=true∧M.sOk s=true∧M.rows n=false):=by
 unfold M.provOk at h
 cases h1:m.ok with
 | false=>exact .inl rfl
 | true =>
  cases h2:M.sOk s with
  | false=>exact .inr (.inl ⟨rfl,rfl⟩)
  | true=>rw [h1,h2] at h;exact .inr (.inr ⟨rfl,rfl,by simpa using h⟩)
theorem M.rowsI_of {N:Nat} (h:M.rowsN N=true):M.rows (N:Int)=true:=by
 rcases M.rowsN_cases h with rfl | rfl | rfl | rfl <;> rfl
theorem M.zp_gp {N i:Nat} (h:i<4*N):(M.gp 3 (M.root (4*(N:Int))) (4*N)).getD i 0=M.zp N i:=by
 rw [M.gp_get _ _ _ _ h];unfold M.zp;rw [show ((4*N:Nat):Int)=4*(N:Int) by omega]
theorem M.fsts_get (ps:List (Int×Int)) (i:Nat):(M.fsts ps).getD i 0=(ps.getD i (0,0)).1:=by
 unfold M.fsts;rw [List.getD_eq_getElem?_getD,List.getD_eq_getElem?_getD,List.getElem?_map]
 cases ps[i]? <;> rfl
theorem M.snds_get (ps:List (Int×Int)) (i:Nat):(M.snds ps).getD i 0=(ps.getD i (0,0)).2:=by
 unfold M.snds;rw [List.getD_eq_getElem?_getD,List.getD_eq_getElem?_getD,List.getElem?_map]
 cases ps[i]? <;> rfl
theorem M.fsts_tab {ps:List (Int×Int)} {k:Nat} {f:Nat→Int} (hl:ps.length=k) (h:∀ i,i<k→(ps.getD i (0,0)).1=f i):M.fsts ps=M.tab k f:=
 M.tab_ext (by rw [M.fsts_len,hl]) fun i hi=>by rw [M.fsts_get,h i hi]
theorem M.snds_tab {ps:List (Int×Int)} {k:Nat} {f:Nat→Int} (hl:ps.length=k) (h:∀ i,i<k→(ps.getD i (0,0)).2=f i):M.snds ps=M.tab k f:=
 M.tab_ext (by rw [M.snds_len,hl]) fun i hi=>by rw [M.snds_get,h i hi]
theorem M.run_getD (m:M.Mc) (s:Int×Int) {n i:Nat} (h:i≤n):(m.run s n).getD i (0,0)=m.rn s i:=by
 unfold M.Mc.run;simp [List.getD_eq_getElem?_getD,show i<n+1 by omega]
theorem M.run_fsts (m:M.Mc) (s:Int×Int) {N:Nat} (h:0<N):M.fsts (m.run s (N-1))=M.xsR m s N:=
 M.fsts_tab (by rw [M.run_len];omega) fun i hi=>by rw [M.run_getD m s (by omega)]
theorem M.run_snds (m:M.Mc) (s:Int×Int) {N:Nat} (h:0<N):M.snds (m.run s (N-1))=M.ysR m s N:=
 M.snds_tab (by rw [M.run_len];omega) fun i hi=>by rw [M.run_getD m s (by omega)]
end Go.Proofs.YtfhknkppiidnkaaGreat
