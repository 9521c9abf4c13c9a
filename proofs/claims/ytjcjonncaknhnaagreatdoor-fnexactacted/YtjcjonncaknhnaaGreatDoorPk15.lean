import Derived.Test.YtjcjonncaknhnaaGreatDoorPk14
namespace Go.Proofs.YtjcjonncaknhnaaGreatDoor
open Go.RowKit Go.Proofs.Tryz
set_option linter.unusedSimpArgs false
set_option maxHeartbeats 32000000
variable {f:M.Tk→Bool}{k i i' nb cb nj cj n c h ni ci mb kb:Nat}{qs:List MQ}{ab aj ai a:Option Addr}{w:World}{bs bs':List Int}{ts:List M.Tk}{now tj:Int}
def bi(now who:Int)(t:M.Tk):Bool:=M.leased t&&(decide (t.l'=who)||(decide (who=0)&&decide (t.due≤now)))
def eI(f:M.Tk→Bool)(k:Nat)(l:List M.Tk):List M.Tk:=l.take k++M.free f (l.drop k)
theorem jE(f:M.Tk→Bool)(l:List M.Tk):eI f 0 l=M.free f l:=rfl
theorem kH{l:List M.Tk}(h:l.length≤k):eI f k l=l:=by
 unfold eI;rw[tF h,tC h];simp[M.free]
theorem jD{f:M.Tk→Bool}{l:List M.Tk}{k:Nat}(h:k<l.length)(hf:f (l.getD k M.t0)=false):eI f (k+1) l=eI f k l:=by
 unfold eI;rw[aQ M.t0 rfl h,List.take_add_one,tw h];have e:l.getD k M.t0=l[k]:=(by rw[tu,tw h];rfl);rw[e]at hf ⊢;show(l.take k++[l[k]])++M.free f (l.drop (k+1))=l.take k++((if f l[k]then M.t0 else l[k])::M.free f (l.drop (k+1)));rw[hf,List.append_assoc]
 rfl
theorem kI{f:M.Tk→Bool}{l:List M.Tk}{k:Nat}(h:k<l.length)(hf:f (l.getD k M.t0)=true):eI f (k+1) (l.set k M.t0)=eI f k l:=by
 unfold eI;rw[aQ M.t0 rfl h,List.take_add_one,List.getElem?_set_self h,List.drop_set_of_lt (by omega),List.take_set_of_le (tr _)];simp only[M.free,List.map_cons,hf,if_true];simp
def MQ.fr(f:M.Tk→Bool)(q:MQ):MQ:=(M.freeJ f q.1,q.2)
def MQ.at(f:M.Tk→Bool)(k:Nat)(q:MQ):MQ:=({q.1 with ts:=eI f k q.1.ts},q.2)
def MQ.ff(f:M.Tk→Bool)(i:Nat)(qs:List MQ):List MQ:=qs.take i++(qs.drop i).map (MQ.fr f)
theorem MQ.ff_end(h:qs.length≤i):MQ.ff f i qs=qs:=by
 unfold MQ.ff;rw[tF h,tC h];simp
theorem MQ.ff_in(h:i<qs.length):MQ.ff f (i+1) (qs.set i (MQ.at f 0 (qs.getD i q0)))=MQ.ff f i qs:=by
 unfold MQ.ff;rw[aQ q0 rfl h,List.take_add_one,List.getElem?_set_self h,List.drop_set_of_lt (by omega),List.take_set_of_le (tr _)];simp[MQ.at,MQ.fr,M.freeJ,jE]
theorem MQ.at_end(h:i<qs.length)(hk:(qs.getD i q0).1.ts.length≤k):qs.set i (MQ.at f k (qs.getD i q0))=qs:=by
 have e:MQ.at f k (qs.getD i q0)=qs[i]:=by
  have e2:qs.getD i q0=qs[i]:=(by rw[tu,tw h];rfl);unfold MQ.at;rw[kH hk,e2]
 rw[e,List.set_getElem_self]
theorem MQ.at_keep{f:M.Tk→Bool}{q:MQ}{k:Nat}(h:k<q.1.ts.length)(hf:f (q.1.ts.getD k M.t0)=false):MQ.at f (k+1) q=MQ.at f k q:=by unfold MQ.at;rw[jD h hf]
theorem bP(h:i<qs.length)(q:MQ):(qs.set i q).getD i q0=q:=by rw[tu,List.getElem?_set_self h];rfl
theorem MQ.at_set{f:M.Tk→Bool}{q:MQ}{k:Nat}(h:k<q.1.ts.length)(hf:f (q.1.ts.getD k M.t0)=true):MQ.at f (k+1) ({q.1 with ts:=q.1.ts.set k M.t0},q.2)=MQ.at f k q:=by unfold MQ.at;dsimp only;rw[kI h hf]
theorem dL(q:MQ)(h:i<qs.length)(he:q.2=(qs.getD i q0).2):bj ab aj (qs.set i q)=bj ab aj qs:=by
 unfold bj;rw[cV (fun q:MQ=>ob q.2.1) q0 qs i q (by rw[he]) h]
theorem aF.block(H:aF w i' ab nb cb bs aj nj cj qs)(h0:0<nj):∃g,aj=some ⟨g,0,none⟩:=by
 rcases H.j.2 with⟨_,e⟩ | ⟨g,cap,cur,e,_⟩
 ·omega
 ·simp only[Value.slice.injEq]at e;exact⟨g,e.1⟩
theorem aF.jcell{g:Nat}(H:aF w i' ab nb cb bs (some ⟨g,0,none⟩) nj cj qs){j:Nat}(hi:i<nj)(hj:j<18):w.cell? ⟨g,i*18+j,none⟩=(fu (qs.getD i q0))[j]?:=by
 have hl:=H.jl;rw[H.j.cellAt _ (by omega),dN co q0 qs (by omega) hj]
theorem aF.jtask(H:aF w i' ab nb cb bs aj nj cj qs)(hi:i<nj):aK w i' (qs.getD i q0).2.1 (qs.getD i q0).1.ts.length (qs.getD i q0).2.2 (qs.getD i q0).1.ts:=by
 have hl:=H.jl;exact H.t _ (by rw[tu,tw (by omega)];simp)
set_option maxRecDepth 10000 in
theorem gC(now tj who:Int)(w:World)(H:aF w i' ab nb cb bs aj nj cj qs)(tf:i'≤w.heap.size):
  Calls prog 43 #[.agg #[.int .i64 now,.int .i64 tj,.slice ab nb cb,.slice aj nj cj],.int .i64 who] w fun e w'=>e=.returned (.agg #[.int .i64 now,.int .i64 tj,.slice ab nb cb,.slice aj nj cj])∧aF w' i' ab nb cb bs aj nj cj (qs.map fun q=>(M.freeJ (bi now who) q.1,q.2))∧(∀b vs,ae w b vs→b∉bj ab aj qs→ae w' b vs)∧Below i' w w':=by
 have HM:=Hd (H);have Ld:qs.length=nj:=H.jl;have Nd:(nj:Int)≤9223372036854775807:=(by have:=H.sees.j.big;have:=H.sees.j.le;omega);have Od:(nj:Int)≤cj:=(by have:=H.sees.j.le;omega);clear H;go_enter func43,ntmps43;have Na:H9 (ae ((w.alloc (.cells (au now tj ab nb cb aj nj cj).toArray 27)).alloc (.cells be.toArray 27)) w.heap.size (au now tj ab nb cb aj nj cj)):=(aI _ _ _).alloc _;have Cb:H9 (ae ((w.alloc (.cells (au now tj ab nb cb aj nj cj).toArray 27)).alloc (.cells be.toArray 27)) (w.heap.size+1) be):=aO _ _ _ _;have Ta:H9 (Below w.heap.size w ((w.alloc (.cells (au now tj ab nb cb aj nj cj).toArray 27)).alloc (.cells be.toArray 27))):=((tv _ _).alloc (tr _) _).alloc (by simp) _;(go_wp2_with fail);generalize((w.alloc (.cells (au now tj ab nb cb aj nj cj).toArray 27)).alloc (.cells be.toArray 27))=wa at *;have x0:=Na.o.c 0;have x1:=Na.o.c 1;have x2:=Na.o.c 2;have x3:=Na.o.c 3;(go_wp2_with fail);clear x0 x1 x2 x3;generalize hRQ:(qs.map fun q=>(M.freeJ (bi now who) q.1,q.2))=RQ;have Rc:=Hd (hRQ);have Gc:=Hd (hRQ);have Hc:=Hd (HM.o.below Ta.o);have Wb:H9 (∀g∈bj ab aj qs,i'≤g∧g<w.heap.size):=HM.o.lt;have Ic:=Hd (Ta.o.mono tf);clear hRQ HM
 go_loopw [5] (fun i wr=>∃(n:Nat) (Ba:List MQ),n≤nj∧i=it n∧aF wr i' ab nb cb bs aj nj cj Ba∧bj ab aj Ba=bj ab aj qs∧MQ.ff (bi now who) n Ba=RQ∧ae wr w.heap.size (au now tj ab nb cb aj nj cj)∧ae wr (w.heap.size+1) be∧(∀b vs,ae w b vs→b∉bj ab aj qs→ae wr b vs)∧Below i' w wr) (fun i _=>nj-(intOf i).toNat)
 case atStart=>exact⟨0,qs,by omega,rfl,Hc.o,rfl,Gc.o,Na.o,Cb.o,(fun b vs h _=>h.belowS Ta.o),Ic.o⟩
 case round=>
  obtain⟨n,Ba,hn,rfl,hG,Oa,hR,Ea,Da,Pa,Qa⟩:=hrel;clear Hc Gc Ic Na Cb Ta;by_cases La:n<nj
  case pos=>
   obtain⟨gj,rfl⟩:=hG.block (by omega);have Sc:(n:Int)<(nj:Int):=(by omega);have Jc:Ba.length=nj:=hG.jl;have Kc:MQ.ff (bi now who) (n+1) (Ba.set n (MQ.at (bi now who) 0 (Ba.getD n q0)))=RQ:=(by rw[MQ.ff_in (by omega)];exact hR);have hT:=hG.jtask La;have Ha:wr.cell? ⟨gj,n*18+17,none⟩=some (.slice (Ba.getD n q0).2.1 (Ba.getD n q0).1.ts.length (Ba.getD n q0).2.2):=hG.jcell La (by omega);have Tc:((Ba.getD n q0).1.ts.length:Int)≤9223372036854775807:=(by have:=hT.sees.big;have:=hT.sees.le;omega);have Lc:((Ba.getD n q0).1.ts.length:Int)≤(Ba.getD n q0).2.2:=(by have:=hT.sees.le;omega);generalize Ua:(Ba.getD n q0).1.ts.length=tn at Ha Tc Lc hT;generalize Va:(Ba.getD n q0).2.1=ta at Ha hT;generalize Wa:(Ba.getD n q0).2.2=tc at Ha hT Lc;have x3:=Ea.c 3;have Nb:=Hd (hG);have Ob:=Hd (Oa);have Pb:=Hd (Kc);have Nc:H9 ((Ba.getD n q0).1.ts.length=tn∧(Ba.getD n q0).2.1=ta∧(Ba.getD n q0).2.2=tc):=⟨Ua,Va,Wa⟩;have Qb:=Hd (Ea);have Rb:=Hd (Da);have Sb:=Hd (Qa);have Tb:=Hd (Pa);clear Pa hG Oa hR Kc Ea Da Qa Ua Va Wa hT;(go_wp2_with fail);clear x3 Ha
   go_loopw [6] (fun i wr=>∃(p:Nat) (Ba:List MQ),p≤tn∧i=it p∧aF wr i' ab nb cb bs (some ⟨gj,0,none⟩) nj cj Ba∧bj ab (some ⟨gj,0,none⟩) Ba=bj ab (some ⟨gj,0,none⟩) qs∧MQ.ff (bi now who) (n+1) (Ba.set n (MQ.at (bi now who) p (Ba.getD n q0)))=RQ∧((Ba.getD n q0).1.ts.length=tn∧(Ba.getD n q0).2.1=ta∧(Ba.getD n q0).2.2=tc)∧ae wr w.heap.size (au now tj ab nb cb (some ⟨gj,0,none⟩) nj cj)∧ae wr (w.heap.size+1) be∧(∀b vs,ae w b vs→b∉bj ab (some ⟨gj,0,none⟩) qs→ae wr b vs)∧Below i' w wr) (fun i _=>tn-(intOf i).toNat)
   case atStart=>exact⟨0,Ba,by omega,rfl,Nb.o,Ob.o,Pb.o,Nc.o,Qb.o,Rb.o,Tb.o,Sb.o⟩
   case round=>
    clear Nb Ob Pb Nc Qb Rb Tb Sb Jc;obtain⟨p,Aa,hp,rfl,hG,Oa,hR,⟨Ua,Va,Wa⟩,Ea,Da,Pa,Qa⟩:=hrel;have Jc:Aa.length=nj:=hG.jl;have Ha:wr.cell? ⟨gj,n*18+17,none⟩=some (.slice (Aa.getD n q0).2.1 (Aa.getD n q0).1.ts.length (Aa.getD n q0).2.2):=hG.jcell La (by omega);rw[Ua,Va,Wa]at Ha;have x3:=Ea.c 3;have x0:=Ea.c 0;by_cases Ia:p<tn
    case neg=>
     have Pd:p=tn:=(by omega);have Nb:=Hd (hG);have Ob:=Hd (Oa);have Pb:H9 (MQ.ff (bi now who) (n+1) Aa=RQ):=(by show _=_;rw[MQ.at_end (by omega) (by omega)]at hR;exact hR);have Qb:=Hd (Ea);have Rb:=Hd (Da);have Sb:=Hd (Qa);have Tb:=Hd (Pa);clear Pa;have Uc:¬ (p:Int)<(tn:Int):=(by omega);clear hG Oa hR Ea Da Qa Ua Va Wa;go_wp2;go_roundw
     case rel=>exact⟨n+1,Aa,by omega,by go_num,Nb.o,Ob.o,Pb.o,Qb.o,Rb.o,Tb.o,Sb.o⟩
     case measure=>simp[intOf];omega
    have hT:=hG.jtask La;rw[Ua,Va,Wa]at hT;obtain⟨g,rfl⟩:=hT.block (by omega);have Uc:(p:Int)<(tn:Int):=(by omega);have a0:wr.cell? ⟨g,p*3,none⟩=some (.bool ((Aa.getD n q0).1.ts.getD p M.t0).done):=hT.cells Ia (j:=0) (by omega);have a1:wr.cell? ⟨g,p*3+1,none⟩=some (it ((Aa.getD n q0).1.ts.getD p M.t0).l'):=hT.cells Ia (j:=1) (by omega);have a2:wr.cell? ⟨g,p*3+2,none⟩=some (it ((Aa.getD n q0).1.ts.getD p M.t0).due):=hT.cells Ia (j:=2) (by omega);have Xb:=@MQ.at_keep (bi now who) (Aa.getD n q0) p (by omega);have Yb:=@MQ.at_set (bi now who) (Aa.getD n q0) p (by omega);generalize Vc:(Aa.getD n q0).1.ts.getD p M.t0=cq at a0 a1 a2 Xb Yb;obtain⟨td,x,y⟩:=cq;dsimp only at a0 a1 a2;have Xa:=Hd (Xb);have Ya:=Hd (Yb);clear Xb Yb Vc;have Oc:=Hd (hG);have Na:=Hd (Ea);have Cb:=Hd (Da);have Ta:=Hd (Qa);have Pc:=Hd (Pa);clear Pa;have HQ:=Hd (Oa);have HR:=Hd (hR);have Ja:H9 ((Aa.getD n q0).1.ts.length=tn∧(Aa.getD n q0).2.1=some ⟨g,0,none⟩∧(Aa.getD n q0).2.2=tc):=⟨Ua,Va,Wa⟩;clear hG Ea Da Qa Oa hR Ua Va Wa hT;have Ab:=il wr (.cells (dq td x y).toArray 47);have Db:=Hd (Oc.o.below Ab);have Fa:=Hd (Na.o.belowS Ab);have Eb:=Hd (Cb.o.belowS Ab);have Za:H9 (Below i' w (wr.alloc (.cells (dq td x y).toArray 47))):=Ta.o.trans (Ab.mono (tB tf Ta.o.size));have Fb:H9 (∀b vs,ae w b vs→b∉bj ab (some ⟨gj,0,none⟩) qs→ae (wr.alloc (.cells (dq td x y).toArray 47)) b vs):=fun b vs h n=>(Pc.o b vs h n).belowS Ab;clear Oc Na Cb Ta Pc;clear Ab;have Ka:=cz wr (dq td x y) 47;(go_wp2_with(with_reducible refine af 35 ?_ ?_;rfl));show wpList _ _ _ _ _ _;clear a0 a1 a2 x3 x0 Ha;generalize(wr.alloc (.cells (dq td x y).toArray 47))=w5 at *;generalize wr.heap.size=tb at Ka ⊢;by_cases Gb:x=0
    ·
     skip
     have g1:(x != 0)=false:=(by simp[Gb]);have Ub:=Ka.o.c 1;have Vb:=Ka.o.c 2;have x3:=Fa.o.c 3;have x0:=Fa.o.c 0;have Ga:bi now who ⟨td,x,y⟩=false:=(by unfold bi M.leased;simp[Gb]);have Ra:H9 (MQ.ff (bi now who) (n+1) (Aa.set n (MQ.at (bi now who) (p+1) (Aa.getD n q0)))=RQ):=(by show _=_;rw[Xa.o Ga];exact HR.o);clear Xa Ya HR Ga;go_wp2;go_roundw
     case rel=>exact⟨p+1,Aa,by omega,by go_num,Db.o,HQ.o,Ra.o,Ja.o,Fa.o,Eb.o,Fb.o,Za.o⟩
     case measure=>simp[intOf];omega
    have g1:(x != 0)=true:=(by simp[Gb]);by_cases Bb:x=who
    ·
     skip
     have g2:(x==who)=true:=(by simp[Bb]);have Ub:=Ka.o.c 1;have Vb:=Ka.o.c 2;have x3:=Fa.o.c 3;have x0:=Fa.o.c 0;have Ga:bi now who ⟨td,x,y⟩=true:=(by unfold bi M.leased;simp[Bb];intro e;exact Gb (Bb.trans e));have hG:=Db.o;have Ca:=Ja.o;have Ha:w5.cell? ⟨gj,n*18+17,none⟩=some (.slice (Aa.getD n q0).2.1 (Aa.getD n q0).1.ts.length (Aa.getD n q0).2.2):=hG.jcell La (by omega);rw[Ca.1,Ca.2.1,Ca.2.2]at Ha;have hT:=hG.jtask La;rw[Ca.1,Ca.2.1,Ca.2.2]at hT;have b0:=hT.cells Ia (j:=0) (by omega);have Zb:=hT.2.frozenAt (p*3+0);have b1:=hT.cells Ia (j:=1) (by omega);have Wc:=hT.2.frozenAt (p*3+1);have b2:=hT.cells Ia (j:=2) (by omega);have Xc:=hT.2.frozenAt (p*3+2);rw[Nat.add_zero]at b0 Zb;generalize Ac:(Aa.getD n q0).1.ts.getD p M.t0=zz at b0 b1 b2;obtain⟨z1,z2,z3⟩:=zz;simp only[bO,List.getElem?_cons_zero,List.getElem?_cons_succ]at b0 b1 b2;have HP:=hG.task La (Ca.2.1) (k:=p) (by rw[Ca.1];exact Ia) M.t0;obtain⟨Hb,Ib⟩:=HP;have Bc:H9 _:=Hb;have Sa:H9 _:=Ib;clear Hb Ib hG hT Ac Ca
     have Jb:g∈bj ab (some ⟨gj,0,none⟩) Aa:=by
      have hm:Aa.getD n q0∈Aa:=(by rw[tu,tw (by omega)];simp);unfold bj;simp only[tI];exact .inr (.inr (tU.2 ⟨_,hm,by rw[Ja.o.2.1];simp[ob]⟩))
     have Kb:g∈bj ab (some ⟨gj,0,none⟩) qs:=(by rw[←HQ.o];exact Jb);have Yc:=Wb.o g Kb;have HF':H9 (∀b vs,ae w b vs→b∉bj ab (some ⟨gj,0,none⟩) qs→ae (w5.setCells g (p*3) (bO M.t0)) b vs):=fun b vs h n=>(Fb.o b vs h n).grown Sa.o (fun e=>n (tm e ▸ Kb));clear Jb;have HA':H9 (ae (w5.setCells g (p*3) (bO M.t0)) w.heap.size (au now tj ab nb cb (some ⟨gj,0,none⟩) nj cj)):=Fa.o.grown Sa.o (fun e=>by have:=tm e;omega);have HZ':H9 (ae (w5.setCells g (p*3) (bO M.t0)) (w.heap.size+1) be):=Eb.o.grown Sa.o (fun e=>by have:=tm e;omega);have HB':H9 (Below i' w (w5.setCells g (p*3) (bO M.t0))):=Za.o.trans (ac Sa.o (tB tf Za.o.size) (fun z e=>by have:=tm e;omega));have Ra:H9 (MQ.ff (bi now who) (n+1) ((Aa.set n ({(Aa.getD n q0).1 with ts:=(Aa.getD n q0).1.ts.set p M.t0},(Aa.getD n q0).2)).set n (MQ.at (bi now who) (p+1) ((Aa.set n ({(Aa.getD n q0).1 with ts:=(Aa.getD n q0).1.ts.set p M.t0},(Aa.getD n q0).2)).getD n q0)))=RQ):=(by show _=_;rw[bP (by omega),Ya.o Ga,List.set_set];exact HR.o);have Cc:H9 (((Aa.set n ({(Aa.getD n q0).1 with ts:=(Aa.getD n q0).1.ts.set p M.t0},(Aa.getD n q0).2)).getD n q0).1.ts.length=tn∧((Aa.set n ({(Aa.getD n q0).1 with ts:=(Aa.getD n q0).1.ts.set p M.t0},(Aa.getD n q0).2)).getD n q0).2.1=some ⟨g,0,none⟩∧((Aa.set n ({(Aa.getD n q0).1 with ts:=(Aa.getD n q0).1.ts.set p M.t0},(Aa.getD n q0).2)).getD n q0).2.2=tc):=(by show _∧_∧_;rw[bP (by omega)];dsimp only;rw[List.length_set];exact Ja.o);have Dc:H9 (bj ab (some ⟨gj,0,none⟩) (Aa.set n ({(Aa.getD n q0).1 with ts:=(Aa.getD n q0).1.ts.set p M.t0},(Aa.getD n q0).2))=bj ab (some ⟨gj,0,none⟩) qs):=(dL (qs:=Aa) (i:=n) _ (by omega) (by rfl)).trans HQ.o;clear Xa Ya HR Ga Ja HQ;go_wp2;go_roundw
     case rel=>exact⟨p+1,_,by omega,by go_num,Bc.o,Dc.o,Ra.o,Cc.o,HA'.o,HZ'.o,HF'.o,HB'.o⟩
     case measure=>simp[intOf];omega
    have g2:(x==who)=false:=(by simp[Bb]);by_cases Lb:who=0
    ·
     skip
     have g3:(who==0)=true:=(by simp[Lb]);have Zc:H9 (who=0):=Lb;clear Lb;by_cases Ec:y≤now
     ·
      skip
      have g4:decide (y≤now)=true:=(by simp[Ec]);have Ub:=Ka.o.c 1;have Vb:=Ka.o.c 2;have x3:=Fa.o.c 3;have x0:=Fa.o.c 0;have Ga:bi now who ⟨td,x,y⟩=true:=(by unfold bi M.leased;simp[Gb,Zc.o,Ec]);have hG:=Db.o;have Ca:=Ja.o;have Ha:w5.cell? ⟨gj,n*18+17,none⟩=some (.slice (Aa.getD n q0).2.1 (Aa.getD n q0).1.ts.length (Aa.getD n q0).2.2):=hG.jcell La (by omega);rw[Ca.1,Ca.2.1,Ca.2.2]at Ha;have hT:=hG.jtask La;rw[Ca.1,Ca.2.1,Ca.2.2]at hT;have b0:=hT.cells Ia (j:=0) (by omega);have Zb:=hT.2.frozenAt (p*3+0);have b1:=hT.cells Ia (j:=1) (by omega);have Wc:=hT.2.frozenAt (p*3+1);have b2:=hT.cells Ia (j:=2) (by omega);have Xc:=hT.2.frozenAt (p*3+2);rw[Nat.add_zero]at b0 Zb;generalize Ac:(Aa.getD n q0).1.ts.getD p M.t0=zz at b0 b1 b2;obtain⟨z1,z2,z3⟩:=zz;simp only[bO,List.getElem?_cons_zero,List.getElem?_cons_succ]at b0 b1 b2;have HP:=hG.task La (Ca.2.1) (k:=p) (by rw[Ca.1];exact Ia) M.t0;obtain⟨Hb,Ib⟩:=HP;have Bc:H9 _:=Hb;have Sa:H9 _:=Ib;clear Hb Ib hG hT Ac Ca
      have Jb:g∈bj ab (some ⟨gj,0,none⟩) Aa:=by
       have hm:Aa.getD n q0∈Aa:=(by rw[tu,tw (by omega)];simp);unfold bj;simp only[tI];exact .inr (.inr (tU.2 ⟨_,hm,by rw[Ja.o.2.1];simp[ob]⟩))
      have Kb:g∈bj ab (some ⟨gj,0,none⟩) qs:=(by rw[←HQ.o];exact Jb);have Yc:=Wb.o g Kb;have HF':H9 (∀b vs,ae w b vs→b∉bj ab (some ⟨gj,0,none⟩) qs→ae (w5.setCells g (p*3) (bO M.t0)) b vs):=fun b vs h n=>(Fb.o b vs h n).grown Sa.o (fun e=>n (tm e ▸ Kb));clear Jb;have HA':H9 (ae (w5.setCells g (p*3) (bO M.t0)) w.heap.size (au now tj ab nb cb (some ⟨gj,0,none⟩) nj cj)):=Fa.o.grown Sa.o (fun e=>by have:=tm e;omega);have HZ':H9 (ae (w5.setCells g (p*3) (bO M.t0)) (w.heap.size+1) be):=Eb.o.grown Sa.o (fun e=>by have:=tm e;omega);have HB':H9 (Below i' w (w5.setCells g (p*3) (bO M.t0))):=Za.o.trans (ac Sa.o (tB tf Za.o.size) (fun z e=>by have:=tm e;omega));have Ra:H9 (MQ.ff (bi now who) (n+1) ((Aa.set n ({(Aa.getD n q0).1 with ts:=(Aa.getD n q0).1.ts.set p M.t0},(Aa.getD n q0).2)).set n (MQ.at (bi now who) (p+1) ((Aa.set n ({(Aa.getD n q0).1 with ts:=(Aa.getD n q0).1.ts.set p M.t0},(Aa.getD n q0).2)).getD n q0)))=RQ):=(by show _=_;rw[bP (by omega),Ya.o Ga,List.set_set];exact HR.o);have Cc:H9 (((Aa.set n ({(Aa.getD n q0).1 with ts:=(Aa.getD n q0).1.ts.set p M.t0},(Aa.getD n q0).2)).getD n q0).1.ts.length=tn∧((Aa.set n ({(Aa.getD n q0).1 with ts:=(Aa.getD n q0).1.ts.set p M.t0},(Aa.getD n q0).2)).getD n q0).2.1=some ⟨g,0,none⟩∧((Aa.set n ({(Aa.getD n q0).1 with ts:=(Aa.getD n q0).1.ts.set p M.t0},(Aa.getD n q0).2)).getD n q0).2.2=tc):=(by show _∧_∧_;rw[bP (by omega)];dsimp only;rw[List.length_set];exact Ja.o);have Dc:H9 (bj ab (some ⟨gj,0,none⟩) (Aa.set n ({(Aa.getD n q0).1 with ts:=(Aa.getD n q0).1.ts.set p M.t0},(Aa.getD n q0).2))=bj ab (some ⟨gj,0,none⟩) qs):=(dL (qs:=Aa) (i:=n) _ (by omega) (by rfl)).trans HQ.o;clear Xa Ya HR Ga Ja HQ;go_wp2;go_roundw
      case rel=>exact⟨p+1,_,by omega,by go_num,Bc.o,Dc.o,Ra.o,Cc.o,HA'.o,HZ'.o,HF'.o,HB'.o⟩
      case measure=>simp[intOf];omega
     have g4:decide (y≤now)=false:=(by simp;omega);have Ub:=Ka.o.c 1;have Vb:=Ka.o.c 2;have x3:=Fa.o.c 3;have x0:=Fa.o.c 0;have Ga:bi now who ⟨td,x,y⟩=false:=(by unfold bi M.leased;simp[Bb,Ec]);have Ra:H9 (MQ.ff (bi now who) (n+1) (Aa.set n (MQ.at (bi now who) (p+1) (Aa.getD n q0)))=RQ):=(by show _=_;rw[Xa.o Ga];exact HR.o);clear Xa Ya HR Ga;go_wp2;go_roundw
     case rel=>exact⟨p+1,Aa,by omega,by go_num,Db.o,HQ.o,Ra.o,Ja.o,Fa.o,Eb.o,Fb.o,Za.o⟩
     case measure=>simp[intOf];omega
    have g3:(who==0)=false:=(by simp[Lb]);have Ub:=Ka.o.c 1;have Vb:=Ka.o.c 2;have x3:=Fa.o.c 3;have x0:=Fa.o.c 0;have Ga:bi now who ⟨td,x,y⟩=false:=(by unfold bi M.leased;simp[Bb,Lb]);have Ra:H9 (MQ.ff (bi now who) (n+1) (Aa.set n (MQ.at (bi now who) (p+1) (Aa.getD n q0)))=RQ):=(by show _=_;rw[Xa.o Ga];exact HR.o);clear Xa Ya HR Ga;go_wp2;go_roundw
    case rel=>exact⟨p+1,Aa,by omega,by go_num,Db.o,HQ.o,Ra.o,Ja.o,Fa.o,Eb.o,Fb.o,Za.o⟩
    case measure=>simp[intOf];omega
  have Ad:n=nj:=(by omega);have Bd:H9 (Ba=RQ):=(by show _=_;rw[MQ.ff_end (by have:=hG.jl;omega)]at hR;exact hR);have Cd:=Hd (hG);have Dd:=Hd (Oa);have Qc:=Hd (Qa);have Ed:=Hd (Pa);have Fd:=Hd (Da);have Sc:¬ (n:Int)<(nj:Int):=(by omega);have o0:=Ea.c 0;have o1:=Ea.c 1;have o2:=Ea.c 2;have o3:=Ea.c 3;have r0:=Da.c 0;have Qd:=Da.fr 0;have r1:=Da.c 1;have Rd:=Da.fr 1;have r2:=Da.c 2;have Sd:=Da.fr 2;have r3:=Da.c 3;have Td:=Da.fr 3;clear hG Oa hR Ea Da Pa Qa;subst Ad;(go_wp2_with fail);show bodyPost _ _ _ _ _ (wr.setCells (w.heap.size+1) 0 (au now tj ab nb cb aj n cj));have Gd:ae (wr.setCells (w.heap.size+1) 0 (au now tj ab nb cb aj n cj)) (w.heap.size+1) (au now tj ab nb cb aj n cj):=Fd.o.setCells (au now tj ab nb cb aj n cj) 0 (by simp);have Fc:=dv wr (w.heap.size+1) 0 (au now tj ab nb cb aj n cj);have Id:aF (wr.setCells (w.heap.size+1) 0 (au now tj ab nb cb aj n cj)) i' ab nb cb bs aj n cj RQ:=Bd.o ▸ Cd.o.grown Fc (fun g hg e=>by rw[Dd.o]at hg;have:=Wb.o g hg;have:=tm e;omega);have Jd:Below i' w (wr.setCells (w.heap.size+1) 0 (au now tj ab nb cb aj n cj)):=Qc.o.trans (ac Fc (tB tf Qc.o.size) (fun z e=>by have:=tm e;omega));have Kd:∀b vs,ae w b vs→b∉bj ab aj qs→ae (wr.setCells (w.heap.size+1) 0 (au now tj ab nb cb aj n cj)) b vs:=fun b vs h n=>(Ed.o b vs h n).grown Fc (fun e=>by have:=tm e;have:=h.2.2;omega);generalize(wr.setCells (w.heap.size+1) 0 (au now tj ab nb cb aj n cj))=wf at *;exact tx (bX rfl rfl (tS wf (w.heap.size+1) 0 27 _ _ Gd.row underlying27 rfl (by kernel_rfl))) rfl ⟨rfl,by rw[Rc.o];exact Id,Kd,Jd⟩
def cX:HJ:=⟨M.j0,0,none,0⟩
theorem cZ{qs:List HJ}(hi:i<qs.length):qs.getD i cX∈qs:=M.getD_mem hi
theorem fh{α β:Type}(f:α→β)(d:α){qs:List α}{q:α}(h:f q=f (qs.getD i d))(hi:i<qs.length):(qs.set i q).map f=qs.map f:=by
 rw[List.map_set,h,tu,tw hi];show(qs.map f).set i (f qs[i])=_;rw[←List.getElem_map f (h:=by simpa using hi),List.set_getElem_self]
section
variable {w w':World} {i' h:Nat} {now tj:Int} {ab:Option Addr} {nb cb:Nat} {bs:List Int} {ai:Option Addr} {ni ci:Nat} {mb:Nat} {qs:List HJ}
theorem aP.upd(H:aP w i' h now tj ab nb cb bs ai ni ci mb qs)(hi:i<qs.length)(q':HJ){row:Option Nat}(hid:q'.j.id=(qs.getD i cX).j.id)(hb:q'.b=(qs.getD i cX).b)(ha:q'.a=(qs.getD i cX).a)
 (hg:w.grownBy w' row)(hr:∀g,row=some g→g∈(qs.getD i cX).bl)(hL:ae w' q'.b q'.vs)(hO:aK w' i' q'.a q'.j.ts.length q'.c q'.j.ts):aP w' i' h now tj ab nb cb bs ai ni ci mb (qs.set i q'):=by
 obtain⟨⟨hm,Pa,Qa,Da⟩,⟨Ra,Sa,Ea⟩,Fa,Ga,Ha⟩:=bJ.1 H.d;have Aa:∀g,row=some g→g∈qs.flatMap HJ.bl:=fun g e=>tU.2 ⟨_,cZ hi,hr g e⟩;have Ia:q'.bl=(qs.getD i cX).bl:=(by unfold HJ.bl;rw[hb,ha]);have Ja:(qs.set i q').flatMap HJ.bl=qs.flatMap HJ.bl:=cV HJ.bl cX qs i q' Ia hi;have Ba:cW h mb ab ai (qs.set i q')=cW h mb ab ai qs:=(by unfold cW;rw[Ja]);have Ka:(qs.set i q').map HJ.ent=qs.map HJ.ent:=fh HJ.ent cX (by unfold HJ.ent;rw[hid,hb]) hi;have La:(qs.set i q').map (fun q:HJ=>q.j.id)=qs.map (fun q:HJ=>q.j.id):=fh _ cX hid hi;refine⟨H.l.grown hg fun e=>Da (Aa _ e),H.b.grown hg fun g hg' e=>(Fa g hg').2 (Aa _ e),?_,?_,?_,by rw[Ba];exact H.d,by rw[Ba];exact H.lo⟩
 ·rw[La];exact H.i.grown hg fun g hg' e=>Ga g hg' (Aa _ e)
 ·rw[Ka];exact H.m.grown hg fun e=>Ea (Aa _ e)
 ·
  intro q hq
  rcases cU (d:=cX) hq with rfl | ⟨k,h3,h4,rfl⟩
  ·exact⟨hL,hO⟩
  ·
   obtain⟨Na,Oa⟩:=H.j _ (cZ h4);have Ca:∀g∈(qs.getD k cX).bl,row≠some g:=fun g hg' e=>eZ (f:=HJ.bl) (d:=cX) Ha hi h4 h3 g (hr g e) hg';exact⟨Na.grown hg (Ca _ (by simp[HJ.bl])),Oa.grown hg fun g hg'=>Ca g (by unfold HJ.bl;exact List.mem_cons_of_mem _ hg')⟩
theorem aP.tasks(H:aP w i' h now tj ab nb cb bs ai ni ci mb qs)(hi:i<qs.length)(hl:ts.length=(qs.getD i cX).j.ts.length)(hg:w.grownBy w' (Value.slice (qs.getD i cX).a n c).ownBlock)
 (hO:aK w' i' (qs.getD i cX).a ts.length (qs.getD i cX).c ts):aP w' i' h now tj ab nb cb bs ai ni ci mb (qs.set i ⟨{(qs.getD i cX).j with ts:=ts},(qs.getD i cX).b,(qs.getD i cX).a,(qs.getD i cX).c⟩):=by
 have hq:=H.j _ (cZ hi)
 have hd:(qs.getD i cX).b∉ob (qs.getD i cX).a:=by
  obtain⟨_,_,_,_,Aa⟩:=bJ.1 H.d;have h1:(HJ.bl (qs.getD i cX)).Nodup:=List.Nodup.sublist (List.sublist_flatten_of_mem (List.mem_map_of_mem (cZ hi))) Aa;unfold HJ.bl at h1;exact(List.nodup_cons.1 h1).1
 refine H.upd hi _ rfl rfl rfl hg (fun g e=>by unfold HJ.bl;exact List.mem_cons_of_mem _ (aZ e)) ?_ hO;have:=hq.1.grown hg fun e=>hd (aZ e);unfold HJ.vs dJ at this ⊢;rw[←hl]at this;exact this
theorem aP.gone(H:aP w i' h now tj ab nb cb bs ai ni ci mb qs)(hi:i<qs.length)(g:Bool):
  aP (w.setCell ⟨(qs.getD i cX).b,16,none⟩ (.bool g)) i' h now tj ab nb cb bs ai ni ci mb (qs.set i ⟨{(qs.getD i cX).j with gone:=g},(qs.getD i cX).b,(qs.getD i cX).a,(qs.getD i cX).c⟩):=by
 have hq:=H.j _ (cZ hi)
 have hd:(qs.getD i cX).b∉ob (qs.getD i cX).a:=by
  obtain⟨_,_,_,_,Aa⟩:=bJ.1 H.d;have h1:(HJ.bl (qs.getD i cX)).Nodup:=List.Nodup.sublist (List.sublist_flatten_of_mem (List.mem_map_of_mem (cZ hi))) Aa;unfold HJ.bl at h1;exact(List.nodup_cons.1 h1).1
 have hg:=aM w ⟨(qs.getD i cX).b,16,none⟩ (.bool g);exact H.upd hi _ rfl rfl rfl hg (fun g e=>by unfold HJ.bl;rw[←tm e];simp) (hq.1.set 16 (by show 16<18;omega) _) (hq.2.grown hg fun g hg' e=>hd (by rw[show(qs.getD i cX).b=g from tm e];exact hg'))
theorem aP.head(H:aP w i' h now tj ab nb cb bs ai ni ci mb qs)(hg:w.grownBy w' (some h)){now' next':Int}(hl:ae w' h [.int .i64 now',.int .i64 next',.slice ab nb cb,.slice ai ni ci,.map (some mb)]):aP w' i' h now' next' ab nb cb bs ai ni ci mb qs:=by
 obtain⟨⟨hm,Aa,Ba,Ca⟩,_⟩:=bJ.1 H.d;have ne:∀{g},h≠g→some h≠some g:=fun hne e=>hne (tm e);exact⟨hl,H.b.grown hg fun g hg'=>ne fun e=>Aa (e ▸ hg'),H.i.grown hg fun g hg'=>ne fun e=>Ba (e ▸ hg'),H.m.grown hg (ne hm),H.j.grown hg fun g hg'=>ne fun e=>Ca (e ▸ hg'),H.d,H.lo⟩
theorem aP.order(H:aP w i' h now tj ab nb cb bs ai ni ci mb qs)(hg:w.grownBy w' (Value.slice ab n c).ownBlock)(hO:ar 2 w' i' ab nb cb bs'):aP w' i' h now tj ab nb cb bs' ai ni ci mb qs:=by
 obtain⟨⟨hm,Ba,Da,Ea⟩,⟨Ca,Fa,Ga⟩,Aa,Ha,Ia⟩:=bJ.1 H.d;have ne:∀{g},(Value.slice ab n c).ownBlock=some g→g∈ob ab:=fun e=>aZ e;exact⟨H.l.grown hg fun e=>Ba (ne e),hO,H.i.grown hg fun g hg' e=>(Aa g (ne e)).1 hg',H.m.grown hg fun e=>Ca (ne e),H.j.grown hg fun g hg' e=>(Aa g (ne e)).2 hg',H.d,H.lo⟩
theorem aP.banned{w8:World}(H:aP w i' h now tj ab nb cb bs ai ni ci mb qs){ab':Option Addr}{nb' cb' z:Nat}(hg:w.grownBy w' (Value.slice ab n c).ownBlock)(hO:ar 2 w' i' ab' nb' cb' bs')(hz:w.heap.size≤z)
 (hat:(Value.slice ab' nb' cb').ownBlock=(Value.slice ab n c).ownBlock∨(Value.slice ab' nb' cb').ownBlock=some z)(g8:w'.grownBy w8 (some h))(l8:ae w8 h [.int .i64 now,.int .i64 tj,.slice ab' nb' cb',.slice ai ni ci,.map (some mb)]):
  aP w8 i' h now tj ab' nb' cb' bs' ai ni ci mb qs:=by
 obtain⟨⟨hm,Ea,Fa,Ga⟩,⟨Ha,Ia,Ja⟩,Ca,Ka,La⟩:=bJ.1 H.d;have Na:=H.lt;have ne:∀{g},(Value.slice ab n c).ownBlock=some g→g∈ob ab:=fun e=>aZ e;have Da:∀{g},h≠g→some h≠some g:=fun hne e=>hne (tm e);have sj:∀{g},g∈qs.flatMap HJ.bl→g∈cW h mb ab ai qs:=fun{g} hg=>by unfold cW;simp only[List.mem_cons,tI];exact .inr (.inr (.inr (.inr hg)))
 have si:∀{g},g∈ob ai→g∈cW h mb ab ai qs:=fun{g} hg=>by simp[cW,hg]
 have sh:h∈cW h mb ab ai qs:=(by simp[cW]);have sm:mb∈cW h mb ab ai qs:=by simp[cW]
 have ha:∀{g},g∈ob ab'→g∈ob ab∨w.heap.size≤g:=fun{g} hg=>by
  have e:=bL (n:=nb') (c:=cb') hg
  rcases hat with e2 | e2
  ·exact .inl (ne (e2.symm.trans e))
  ·rw[e2]at e;injection e with e;exact .inr (by omega)
 have Ba:∀{g},g∈cW h mb ab ai qs→g∉ob ab→g∉ob ab':=fun{g} hg hn hi=>by
  rcases ha hi with h1 | h1
  ·exact hn h1
  ·have:=Na g hg;omega
 refine⟨l8,hO.grown g8 fun g Aa=>Da fun e=>Ba sh Ea (e ▸ Aa),(H.i.grown hg fun g Aa e=>(Ca g (ne e)).1 Aa).grown g8 fun g Aa=>Da fun e=>Fa (e ▸ Aa),(H.m.grown hg fun e=>Ha (ne e)).grown g8 (Da hm),(H.j.grown hg fun g Aa e=>(Ca g (ne e)).2 Aa).grown g8 fun g Aa=>Da fun e=>Ga (e ▸ Aa),?_,?_⟩
 ·exact bJ.2 ⟨⟨hm,Ba sh Ea,Fa,Ga⟩,⟨Ba sm Ha,Ia,Ja⟩,fun g Aa=>⟨fun e=>Ba (si e) (fun e2=>(Ca g e2).1 e) Aa,fun e=>Ba (sj e) (fun e2=>(Ca g e2).2 e) Aa⟩,Ka,La⟩
 ·
  intro g Aa;unfold cW at Aa;simp only[List.mem_cons,tI]at Aa
  rcases Aa with rfl | rfl | Aa | Aa | Aa
  ·exact H.lo _ sh
  ·exact H.lo _ sm
  ·exact(tJ hO g (bL Aa)).1
  ·exact H.lo _ (si Aa)
  ·exact H.lo _ (sj Aa)
end
theorem lF{qs:List HJ}(hr:(qs.map (fun q:HJ=>q.j.id)).Pairwise (·< ·)):∀{i:Nat},i<qs.length→fw (qs.getD i cX).j.id (qs.map HJ.ent)=some (.pointer (some ⟨(qs.getD i cX).b,0,none⟩)):=by
 induction qs with
 | nil=>intro i h;simp at h
 | cons q l ih=>
  intro i hi;rw[List.map_cons,List.pairwise_cons]at hr
  match i with
  | 0=>
   show(if q.j.id=q.j.id then _ else _)=_;rw[if_pos rfl];rfl
  | k+1=>
   have hk:k<l.length:=(by simpa using hi);have Aa:=hr.1 _ (List.mem_map_of_mem (f:=fun q:HJ=>q.j.id) (cZ hk));show(if(l.getD k cX).j.id=q.j.id then _ else fw _ (l.map HJ.ent))=_;rw[if_neg (by omega)];exact ih hr.2 hk
theorem lx{qs:List HJ}(hk:k<qs.length):(qs.map (fun q:HJ=>q.j.id)).getD k 0=(qs.getD k cX).j.id:=by
 rw[tu,tu,List.getElem?_map,tw hk];rfl
theorem kS{qs:List HJ}(hk:k<qs.length):(qs.map (fun q:HJ=>q.j)).getD k M.j0=(qs.getD k cX).j:=by
 rw[tu,tu,List.getElem?_map,tw hk];rfl
theorem aP.count{qs:List HJ}(H:aP w i' h now tj ab nb cb bs ai ni ci mb qs):qs.length=ni:=by have:=H.i.count;rwa[List.length_map]at this
theorem aP.apart{qs:List HJ}(H:aP w i' h now tj ab nb cb bs ai ni ci mb qs)(hi:i<qs.length):
  (∀g∈ob (qs.getD i cX).a,i'≤g∧g≠h∧g≠mb∧g≠(qs.getD i cX).b)∧(qs.getD i cX).b≠h:=by
 obtain⟨⟨hm,Fa,Ga,Ba⟩,⟨Ha,Ia,Da⟩,Ja,Ka,Ea⟩:=bJ.1 H.d;have Aa:∀{g},g∈(qs.getD i cX).bl→g∈qs.flatMap HJ.bl:=fun hg=>tU.2 ⟨_,cZ hi,hg⟩;have h1:(HJ.bl (qs.getD i cX)).Nodup:=List.Nodup.sublist (List.sublist_flatten_of_mem (List.mem_map_of_mem (cZ hi))) Ea;unfold HJ.bl at h1;have h2:=(List.nodup_cons.1 h1).1;have hb:(qs.getD i cX).b∈(qs.getD i cX).bl:=(by simp[HJ.bl]);refine⟨fun g hg=>?_,fun e=>Ba (e ▸ Aa hb)⟩;have Ca:g∈(qs.getD i cX).bl:=(by unfold HJ.bl;exact List.mem_cons_of_mem _ hg);exact⟨((H.j _ (cZ hi)).2.lt g hg).1,fun e=>Ba (e ▸ Aa Ca),fun e=>Da (e ▸ Aa Ca),fun e=>h2 (e ▸ hg)⟩
theorem ry{qs:List HJ}(hi:i<qs.length)(q:HJ):(qs.set i q).getD i cX=q:=by rw[tu,List.getElem?_set_self hi];rfl
def bp(w:World)(i' h:Nat)(now tj:Int)(ab:Option Addr)(nb cb:Nat)(bs:List Int)(ai:Option Addr)(ni ci:Nat)(mb:Nat)(qs:List HJ)(i:Nat)(q:HJ):Prop:=aP w i' h now tj ab nb cb bs ai ni ci mb qs∧i<qs.length∧qs.getD i cX=q
section
variable {w w':World} {i' h:Nat} {now tj:Int} {ab:Option Addr} {nb cb:Nat} {bs:List Int} {ai:Option Addr} {ni ci:Nat} {mb:Nat} {qs:List HJ} {i:Nat} {q:HJ}
theorem bp.below(H:bp w i' h now tj ab nb cb bs ai ni ci mb qs i q)(hb:Below w.heap.size w w'):bp w' i' h now tj ab nb cb bs ai ni ci mb qs i q:=⟨H.1.below hb,H.2⟩
theorem bp.lies(H:bp w i' h now tj ab nb cb bs ai ni ci mb qs i q):ae w q.b q.vs:=by have:=(H.1.j _ (cZ H.2.1)).1;rwa[H.2.2]at this
theorem bp.owns(H:bp w i' h now tj ab nb cb bs ai ni ci mb qs i q):aK w i' q.a q.j.ts.length q.c q.j.ts:=by have:=(H.1.j _ (cZ H.2.1)).2;rwa[H.2.2]at this
theorem bp.apart(H:bp w i' h now tj ab nb cb bs ai ni ci mb qs i q):(∀g∈ob q.a,i'≤g∧g≠h∧g≠mb∧g≠q.b)∧q.b≠h:=by have:=H.1.apart H.2.1;rwa[H.2.2]at this
theorem bp.own(H:bp w i' h now tj ab nb cb bs ai ni ci mb qs i q):q.b∉ob q.a:=fun e=>(H.apart.1 _ e).2.2.2 rfl
theorem bp.lo(H:bp w i' h now tj ab nb cb bs ai ni ci mb qs i q):i'≤q.b:=by
 have:=H.1.lo (qs.getD i cX).b (by unfold cW;simp only[List.mem_cons,tI];exact .inr (.inr (.inr (.inr (tU.2 ⟨_,cZ H.2.1,by simp[HJ.bl]⟩)))))
 rwa[H.2.2]at this
theorem bp.look(H:bp w i' h now tj ab nb cb bs ai ni ci mb qs i q)(hr:(qs.map (fun q:HJ=>q.j.id)).Pairwise (·< ·)):fw q.j.id (qs.map HJ.ent)=some (.pointer (some ⟨q.b,0,none⟩)):=by have:=lF hr H.2.1;rwa[H.2.2]at this
theorem bp.gone(H:bp w i' h now tj ab nb cb bs ai ni ci mb qs i q)(g:Bool):bp (w.setCell ⟨q.b,16,none⟩ (.bool g)) i' h now tj ab nb cb bs ai ni ci mb (qs.set i ⟨{q.j with gone:=g},q.b,q.a,q.c⟩) i ⟨{q.j with gone:=g},q.b,q.a,q.c⟩:=by
 obtain⟨h1,h2,rfl⟩:=H;exact⟨h1.gone h2 g,by rw[List.length_set];exact h2,ry h2 _⟩
theorem bp.tasks(H:bp w i' h now tj ab nb cb bs ai ni ci mb qs i q)(hl:ts.length=q.j.ts.length)(hg:w.grownBy w' (Value.slice q.a n c).ownBlock)(hO:aK w' i' q.a ts.length q.c ts):
  bp w' i' h now tj ab nb cb bs ai ni ci mb (qs.set i ⟨{q.j with ts:=ts},q.b,q.a,q.c⟩) i ⟨{q.j with ts:=ts},q.b,q.a,q.c⟩:=by
 obtain⟨h1,h2,rfl⟩:=H;exact⟨h1.tasks h2 hl hg hO,by rw[List.length_set];exact h2,ry h2 _⟩
end
def sS(w:World)(i' h:Nat)(m:M.Mt):Prop:=∃ab nb cb ai ni ci mb qs,aP w i' h m.now m.next ab nb cb m.bs ai ni ci mb qs∧qs.map (fun q:HJ=>q.j)=m.js
def eT(w:World)(i' h:Nat)(r:M.Mt×Int×Int)(e:Ending)(w':World):Prop:=e=.returned (.tuple #[.int .i64 r.2.1,.int .i64 r.2.2])∧sS w' i' h r.1∧Below i' w w'
def cH(p:M.Tk→Bool)(k:Nat):List M.Tk→Int
 | []=>-1
 | t::l=>if p t then(k:Int)else cH p (k+1) l
theorem iR(p:M.Tk→Bool):∀(ts:List M.Tk) (k:Nat),cH p k ts=(match ts.findIdx? p with | some i=>((k+i:Nat):Int) | none=>-1)
 | [],_=>rfl
 | t::l,k=>by
  unfold cH;rw[List.findIdx?_cons];by_cases e:p t
  ·rw[if_pos e,if_pos e];rfl
  ·
   rw[if_neg e,if_neg e,iR p l (k+1)]
   cases l.findIdx? p with
   | none=>rfl
   | some i=>show((k+1+i:Nat):Int)=((k+(i+1):Nat):Int);omega
theorem jF(p:M.Tk→Bool):∀(ts:List M.Tk) (k:Nat),decide (0≤cH p k ts)=ts.any p
 | [],_=>rfl
 | t::l,k=>by
  unfold cH;rw[List.any_cons];by_cases e:p t
  ·rw[if_pos e,e];simp
  ·rw[if_neg e,jF p l (k+1)];simp[e]
theorem oO(t:M.Tk)(w:World):Rt 232 #[ia t] w (.bool (M.isFree t)):=by
 have C1:=dW t;unfold M.isFree;generalize M.leased t=ol at *;obtain⟨d,x,y⟩:=t;dsimp only[ia]at C1 ⊢;have HB:H9 (Below w.heap.size w (w.alloc (.cells (dq d x y).toArray 47))):=(tv _ _).alloc (tr _) _;go_enter func232,ntmps232
 cases d with
 | true=>
  go_wp2;go_ret;exact⟨by simp,HB.o⟩
 | false=>
  (go_wp2_with fail);refine(C1 _).mono ?_;rintro e w2 ⟨rfl,hb⟩;have Aa:=Hd (HB.o.trans (hb.mono HB.o.size));go_wp2;go_ret;exact⟨by simp,Aa.o⟩
theorem kp(w:World)(hz:aY w a n c ts):
  Rt 231 #[.slice a n c,.func (.func 232) #[] #[]] w (.int .i64 (cH (M.isFree) 0 ts)):=by
 have bn:(n:Int)≤9223372036854775807:=(by have:=hz.big;have:=hz.le;omega);have Ha:(n:Int)≤c:=(by have:=hz.le;omega);have HZ:=Hd (hz)
 skip
 generalize hR:cH (M.isFree) 0 ts=R;have HR:=Hd (hR);clear hR hz;go_enter func231,ntmps231;go_wp2
 go_loopw [8] (fun i wr=>∃k:Nat,k≤n∧i=it k∧cH (M.isFree) k (ts.drop k)=R∧Below w.heap.size w wr) (fun i _=>n-(intOf i).toNat)
 case atStart=>exact⟨0,by omega,rfl,HR.o,tv _ _⟩
 case round=>
  obtain⟨k,hk,rfl,hg,Ca⟩:=hrel;have Ba:=Hd (Ca);clear Ca;by_cases Da:k<n
  ·
   obtain⟨b1,o1,rfl,Ea⟩:=(HZ.o.below Ba.o).at (by omega)
   have hG:(if(M.isFree) (ts.getD k M.t0)then(k:Int)else cH (M.isFree) (k+1) (ts.drop (k+1)))=R:=by
    rw[←hg,aQ M.t0 HZ.o.len Da];rfl
   have hA:=Ea k Da;have C1:Calls prog _ _ wr _:=oO (ts.getD k M.t0) wr;generalize ts.getD k M.t0=x at hA hG C1;obtain⟨d,x,y⟩:=x;dsimp only[ia]at C1;have HG:=Hd (hG);have a0:wr.cell? ⟨b1,o1+k*3,none⟩=some (.bool d):=hA 0 (by omega);have a1:wr.cell? ⟨b1,o1+k*3+1,none⟩=some (it x):=hA 1 (by omega);have a2:wr.cell? ⟨b1,o1+k*3+2,none⟩=some (it y):=hA 2 (by omega);clear Ea hA hg hG;generalize(M.isFree) ⟨d,x,y⟩=ow at C1 HG;have hI:(k:Int)<(n:Int):=(by omega);(go_wp2_with fail);refine C1.mono ?_;rintro e w2 ⟨rfl,Fa⟩;have Ga:=Hd (Ba.o.trans (Fa.mono Ba.o.size));clear Fa
   cases ow with
   | true=>
    have Aa:H9 ((k:Int)=R):=(by show _=_;have:=HG.o;simpa using this);go_wp2;go_ret;exact⟨by rw[Aa.o];rfl,Ga.o⟩
   | false=>
    have Aa:H9 (cH (M.isFree) (k+1) (ts.drop (k+1))=R):=(by show _=_;have:=HG.o;simpa using this);go_wp2;go_roundw
    case rel=>exact⟨k+1,by omega,by go_num,Aa.o,Ga.o⟩
    case measure=>simp[intOf];omega
  ·
   have Aa:H9 ((-1:Int)=R):=by
    show _=_;rw[tC (by rw[HZ.o.len];omega)]at hg;exact hg
   go_wp2;go_ret;exact⟨by rw[←Aa.o];rfl,Ba.o⟩
def gO(j:M.Jb):Int:=if j.gone then -1 else cH M.isFree 0 j.ts
theorem nP(j:M.Jb):gO j=(match M.openP j with | some k=>(k:Int) | none=>-1):=by
 unfold gO M.openP;by_cases e:j.gone
 ·rw[if_pos e,if_pos e]
 ·
  rw[if_neg e,if_neg e,iR]
  cases j.ts.findIdx? M.isFree with
  | none=>rfl
  | some i=>simp
theorem kr{q:HJ}(w:World)(hl:ae w q.b q.vs)(ho:aK w i' q.a q.j.ts.length q.c q.j.ts):
  Rt 159 #[.pointer (some ⟨q.b,0,none⟩)] w (.int .i64 (gO q.j)):=by
 have Ba:=hl.c 16;have Aa:=hl.c 17;have C1:=kp w ho.sees;unfold gO;generalize cH M.isFree 0 q.j.ts=r at *;clear hl ho;generalize q.j.gone=g at *;generalize q.j.ts.length=tn at Aa C1;generalize q.a=ta at Aa C1;generalize q.c=tc at Aa C1;generalize q.b=b at *;go_enter func159,ntmps159
 cases g with
 | true=>
  go_wp2;go_ret;exact⟨rfl,tv _ _⟩
 | false=>
  (go_wp2_with fail);refine C1.mono ?_;rintro e w2 ⟨rfl,hb⟩;have HB:=Hd (hb);go_wp2;go_ret;exact⟨rfl,HB.o⟩
theorem fX{qs:List HJ}(who:Int)(w:World)(H:aP w i' h now tj ab nb cb bs ai ni ci mb qs):
  Rq 56 #[.pointer (some ⟨h,0,none⟩),.int .i64 who] w (.bool (bs.contains who)):=by
 have x2:w.cell? ⟨h,2,none⟩=some (.slice ab nb cb):=H.l.at 2;have C1:=fp who w H.b.sees;generalize bs.contains who=o at *;go_enter func56,ntmps56;(go_wp2_with fail);refine C1.mono ?_;rintro e wz ⟨rfl,rfl⟩;go_wp2;go_ret;exact⟨rfl,rfl⟩
theorem pF(who:Int)(t:M.Tk)(w:World)(hc:w.cell? ⟨kb,0,none⟩=some (.int .i64 who)):Rt 230 #[ia t,.pointer (some ⟨kb,0,none⟩)] w (.bool (M.mineT who t)):=by
 have e:M.mineT who t=(t.l'==who):=(by unfold M.mineT;by_cases e:t.l'=who <;> simp[e]);rw[e];obtain⟨d,x,y⟩:=t;dsimp only[ia];have HB:H9 (Below w.heap.size w (w.alloc (.cells (dq d x y).toArray 47))):=(tv _ _).alloc (tr _) _;have Aa:(w.alloc (.cells (dq d x y).toArray 47)).cell? ⟨kb,0,none⟩=some (it who):=(HB.o.cell (p:=⟨kb,0,none⟩) (tV w _ hc)).trans hc;go_enter func230,ntmps230;go_wp2;go_ret;exact⟨rfl,HB.o⟩
theorem jp(who:Int)(w:World)(hz:aY w a n c ts)(hc:w.cell? ⟨kb,0,none⟩=some (.int .i64 who)):
  Rt 231 #[.slice a n c,.func (.func 230) #[] #[.pointer (some ⟨kb,0,none⟩)]] w (.int .i64 (cH (M.mineT who) 0 ts)):=by
 have bn:(n:Int)≤9223372036854775807:=(by have:=hz.big;have:=hz.le;omega);have Ha:(n:Int)≤c:=(by have:=hz.le;omega);have HZ:=Hd (hz);have HC:=Hd (hc);clear hc;generalize hR:cH (M.mineT who) 0 ts=R;have HR:=Hd (hR);clear hR hz;go_enter func231,ntmps231;go_wp2
 go_loopw [8] (fun i wr=>∃k:Nat,k≤n∧i=it k∧cH (M.mineT who) k (ts.drop k)=R∧Below w.heap.size w wr) (fun i _=>n-(intOf i).toNat)
 case atStart=>exact⟨0,by omega,rfl,HR.o,tv _ _⟩
 case round=>
  obtain⟨k,hk,rfl,hg,Ca⟩:=hrel;have Aa:=Hd (Ca);clear Ca;by_cases Da:k<n
  ·
   obtain⟨b1,o1,rfl,Ea⟩:=(HZ.o.below Aa.o).at (by omega)
   have hG:(if(M.mineT who) (ts.getD k M.t0)then(k:Int)else cH (M.mineT who) (k+1) (ts.drop (k+1)))=R:=by
    rw[←hg,aQ M.t0 HZ.o.len Da];rfl
   have hA:=Ea k Da;have C1:Calls prog _ _ wr _:=pF (kb:=kb) who (ts.getD k M.t0) wr ((Aa.o.cell (p:=⟨kb,0,none⟩) (tV w _ HC.o)).trans HC.o);generalize ts.getD k M.t0=x at hA hG C1;obtain⟨d,x,y⟩:=x;dsimp only[ia]at C1;have HG:=Hd (hG);have a0:wr.cell? ⟨b1,o1+k*3,none⟩=some (.bool d):=hA 0 (by omega);have a1:wr.cell? ⟨b1,o1+k*3+1,none⟩=some (it x):=hA 1 (by omega);have a2:wr.cell? ⟨b1,o1+k*3+2,none⟩=some (it y):=hA 2 (by omega);clear Ea hA hg hG;generalize(M.mineT who) ⟨d,x,y⟩=ow at C1 HG;have hI:(k:Int)<(n:Int):=(by omega);(go_wp2_with fail);refine C1.mono ?_;rintro e w2 ⟨rfl,Fa⟩;have Ga:=Hd (Aa.o.trans (Fa.mono Aa.o.size));clear Fa
   cases ow with
   | true=>
    have Ba:H9 ((k:Int)=R):=(by show _=_;have:=HG.o;simpa using this);go_wp2;go_ret;exact⟨by rw[Ba.o];rfl,Ga.o⟩
   | false=>
    have Ba:H9 (cH (M.mineT who) (k+1) (ts.drop (k+1))=R):=(by show _=_;have:=HG.o;simpa using this);go_wp2;go_roundw
    case rel=>exact⟨k+1,by omega,by go_num,Ba.o,Ga.o⟩
    case measure=>simp[intOf];omega
  ·
   have Ba:H9 ((-1:Int)=R):=by
    show _=_;rw[tC (by rw[HZ.o.len];omega)]at hg;exact hg
   go_wp2;go_ret;exact⟨by rw[←Ba.o];rfl,Aa.o⟩
theorem gh(who:Int)(w:World)(hz:aY w a n c ts)(hc:w.cell? ⟨kb,0,none⟩=some (.int .i64 who)):
  Rt 190 #[.slice a n c,.func (.func 230) #[] #[.pointer (some ⟨kb,0,none⟩)]] w (.bool (ts.any (M.mineT who))):=by
 have C1:=jp who w hz hc;have HR:H9 (decide (0≤cH (M.mineT who) 0 ts)=ts.any (M.mineT who)):=jF _ ts 0;generalize cH (M.mineT who) 0 ts=r at C1 HR;generalize ts.any (M.mineT who)=o at *;go_enter func190,ntmps190;(go_wp2_with fail);refine C1.mono ?_;rintro e w1 ⟨rfl,hb⟩;have HB:=Hd (hb);go_wp2;go_ret;exact⟨ag HR.o,HB.o⟩
theorem oK{qs:List HJ}(who:Int)(w:World)(H:aP w i' h now tj ab nb cb bs ai ni ci mb qs)(hr:(qs.map (fun q:HJ=>q.j.id)).Pairwise (·< ·)):
  Rt 158 #[.pointer (some ⟨h,0,none⟩),.int .i64 who] w (.bool (qs.any (fun q=>q.j.ts.any (M.mineT who)))):=by
 have HH:=Hd (H);have Sa:=Hd (hr);have Ta:qs.length=ni:=H.count;have bn:(ni:Int)≤9223372036854775807:=(by have:=H.i.sees.big;have:=H.i.sees.le;omega);have Va:(ni:Int)≤ci:=(by have:=H.i.sees.le;omega);generalize hR:qs.any (fun q=>q.j.ts.any (M.mineT who))=R;have HR:=Hd (hR);have Ga:H9 (Below w.heap.size w (w.alloc (.cells #[it who] 2))):=(tv _ _).alloc (tr _) _;have Ha:=cz w [it who] 2;have x3:(w.alloc (.cells #[it who] 2)).cell? ⟨h,3,none⟩=some (.slice ai ni ci):=(H.l.alloc _).at 3;go_enter func158,ntmps158;(go_wp2_with fail);clear x3;generalize w.alloc (.cells #[it who] 2)=wa at *
 go_loopw [14] (fun i wr=>∃k:Nat,k≤ni∧i=it k∧(qs.drop k).any (fun q=>q.j.ts.any (M.mineT who))=R∧ae wr w.heap.size [it who]∧Below w.heap.size w wr) (fun i _=>ni-(intOf i).toNat)
 case atStart=>exact⟨0,by omega,rfl,HR.o,Ha.o,Ga.o⟩
 case round=>
  clear Ga Ha HR;obtain⟨k,hk,rfl,hg,Ia,Ca⟩:=hrel;have Da:=Hd (Ca);have Ja:=Hd (Ia);have HW:=Hd (HH.o.below Ca);clear Ca Ia;by_cases Ka:k<ni
  ·
   obtain⟨b1,o1,rfl,La⟩:=HW.o.i.sees.at (by omega);have c1:=La k Ka;have Na:=lx (qs:=qs) (k:=k) (by omega);rw[Na]at c1;have Oa:=lF Sa.o (i:=k) (by omega);obtain⟨Pa,Qa⟩:=HW.o.j _ (cZ (i:=k) (by omega))
   have hG:((qs.getD k cX).j.ts.any (M.mineT who)||(qs.drop (k+1)).any (fun q=>q.j.ts.any (M.mineT who)))=R:=by
    rw[←hg,aQ cX Ta Ka,List.any_cons]
   have Ba:=Pa.c 17;have C1:=gh (kb:=w.heap.size) who wr Qa.sees (Ja.o.at 0);have Ea:=HW.o.m.get (P:=prog) (t:=111) underlying111 underlying2 _ _ Oa false;simp only[Bool.false_eq_true,if_false]at Ea;have h3:wr.cell? ⟨h,3,none⟩=some (.slice (some ⟨b1,o1,none⟩) ni ci):=HW.o.l.at 3;have h4:wr.cell? ⟨h,4,none⟩=some (.map (some mb)):=HW.o.l.at 4;clear Pa Qa Oa La hg Na;generalize(qs.getD k cX).j.ts.any (M.mineT who)=o at hG C1;generalize(qs.getD k cX).j.ts.length=tn at Ba C1;generalize(qs.getD k cX).a=ta at Ba C1;generalize(qs.getD k cX).c=tc at Ba C1;generalize(qs.getD k cX).b=qb at Ba Ea;generalize(qs.getD k cX).j.id=qi at c1 Ea;have HG:=Hd (hG);have hI:(k:Int)<(ni:Int):=(by omega);(go_wp2_with fail);refine C1.mono ?_;rintro e w2 ⟨rfl,Fa⟩;have Ra:=Hd (Da.o.trans (Fa.mono Da.o.size));have Ua:=Hd (Ja.o.belowS Fa);clear Fa
   cases o with
   | true=>
    have Aa:H9 (true=R):=(by show _=_;have:=HG.o;simpa using this);go_wp2;go_ret;exact⟨by rw[←Aa.o];rfl,Ra.o⟩
   | false=>
    have Aa:H9 ((qs.drop (k+1)).any (fun q=>q.j.ts.any (M.mineT who))=R):=(by show _=_;have:=HG.o;rwa[Bool.false_or]at this);go_wp2;go_roundw
    case rel=>exact⟨k+1,by omega,by go_num,Aa.o,Ua.o,Ra.o⟩
    case measure=>simp[intOf];omega
  ·
   have Aa:H9 (false=R):=by
    show _=_;rw[tC (by omega)]at hg;exact hg
   go_wp2;go_ret;exact⟨by rw[←Aa.o];rfl,Da.o⟩
end Go.Proofs.YtjcjonncaknhnaaGreatDoor
