import Derived.Test.YtjcjonncaknhnaaGreatDoorPk09
namespace Go.Proofs.YtjcjonncaknhnaaGreatDoor
open Go.RowKit Go.Proofs.Tryz
set_option linter.unusedSimpArgs false
set_option maxHeartbeats 32000000
variable {f:M.Tk→Bool}{k i i' nb cb nj cj g n c h ni ci mb kb:Nat}{qs:List HJ}{ab aj ai:Option Addr}{w w':World}{bs bs':List Int}{ad:Addr}{v:Value}{P:Program}{ops:Array Oper}{rest:List Oper}{op o:Oper}{a:Act}{Q:Exit→Act→World→Prop}{K:Act→World→Prop}{E:Prop}{m:M.Mc}{s:Int×Int}{ts:List M.Tk}{now uB:Int}
def br(now who:Int)(t:M.Tk):Bool:=M.leased t&&(decide (t.l'=who)||(decide (who=0)&&decide (t.due≤now)))
def eZ(f:M.Tk→Bool)(k:Nat)(l:List M.Tk):List M.Tk:=l.take k++M.free f (l.drop k)
theorem jR(f:M.Tk→Bool)(l:List M.Tk):eZ f 0 l=M.free f l:=rfl
theorem ll{l:List M.Tk}(h:l.length≤k):eZ f k l=l:=by
 unfold eZ;rw[uD h,m9 h];simp[M.free]
theorem jQ{f:M.Tk→Bool}{l:List M.Tk}{k:Nat}(h:k<l.length)(hf:f (l.getD k M.t0)=false):eZ f (k+1) l=eZ f k l:=by
 unfold eZ;rw[aY M.t0 rfl h,List.take_add_one,m6 h];have e:l.getD k M.t0=l[k]:=(by rw[m4,m6 h];rfl);rw[e]at hf ⊢;show(l.take k++[l[k]])++M.free f (l.drop (k+1))=l.take k++((if f l[k]then M.t0 else l[k])::M.free f (l.drop (k+1)));rw[hf,List.append_assoc]
 rfl
theorem lm{f:M.Tk→Bool}{l:List M.Tk}{k:Nat}(h:k<l.length)(hf:f (l.getD k M.t0)=true):eZ f (k+1) (l.set k M.t0)=eZ f k l:=by
 unfold eZ;rw[aY M.t0 rfl h,List.take_add_one,List.getElem?_set_self h,List.drop_set_of_lt (by omega),List.take_set_of_le (m3 _)];simp only[M.free,List.map_cons,hf,if_true];simp
def MQ.fr(f:M.Tk→Bool)(q:MQ):MQ:=(M.freeJ f q.1,q.2)
def MQ.at(f:M.Tk→Bool)(k:Nat)(q:MQ):MQ:=({q.1 with ts:=eZ f k q.1.ts},q.2)
def MQ.ff(f:M.Tk→Bool)(i:Nat)(qs:List MQ):List MQ:=qs.take i++(qs.drop i).map (MQ.fr f)
theorem MQ.ff_end{qs:List MQ}(h:qs.length≤i):MQ.ff f i qs=qs:=by
 unfold MQ.ff;rw[uD h,m9 h];simp
theorem MQ.ff_in{qs:List MQ}(h:i<qs.length):MQ.ff f (i+1) (qs.set i (MQ.at f 0 (qs.getD i q0)))=MQ.ff f i qs:=by
 unfold MQ.ff;rw[aY q0 rfl h,List.take_add_one,List.getElem?_set_self h,List.drop_set_of_lt (by omega),List.take_set_of_le (m3 _)];simp[MQ.at,MQ.fr,M.freeJ,jR]
theorem MQ.at_end{qs:List MQ}(h:i<qs.length)(hk:(qs.getD i q0).1.ts.length≤k):qs.set i (MQ.at f k (qs.getD i q0))=qs:=by
 have e:MQ.at f k (qs.getD i q0)=qs[i]:=by
  have e2:qs.getD i q0=qs[i]:=(by rw[m4,m6 h];rfl);unfold MQ.at;rw[ll hk,e2]
 rw[e,List.set_getElem_self]
theorem MQ.at_keep{f:M.Tk→Bool}{q:MQ}{k:Nat}(h:k<q.1.ts.length)(hf:f (q.1.ts.getD k M.t0)=false):MQ.at f (k+1) q=MQ.at f k q:=by unfold MQ.at;rw[jQ h hf]
theorem bX{qs:List MQ}(h:i<qs.length)(q:MQ):(qs.set i q).getD i q0=q:=by rw[m4,List.getElem?_set_self h];rfl
theorem MQ.at_set{f:M.Tk→Bool}{q:MQ}{k:Nat}(h:k<q.1.ts.length)(hf:f (q.1.ts.getD k M.t0)=true):MQ.at f (k+1) ({q.1 with ts:=q.1.ts.set k M.t0},q.2)=MQ.at f k q:=by unfold MQ.at;dsimp only;rw[lm h hf]
theorem fG{qs:List MQ}(q:MQ)(h:i<qs.length)(he:q.2=(qs.getD i q0).2):bY ab aj (qs.set i q)=bY ab aj qs:=by
 unfold bY;rw[dq (fun q:MQ=>ob q.2.1) q0 qs i q (by rw[he]) h]
theorem aV.block{qs:List MQ}(H:aV w i' ab nb cb bs aj nj cj qs)(h0:0<nj):∃g,aj=some ⟨g,0,none⟩:=by
 rcases H.j.2 with⟨_,e⟩ | ⟨g,cap,cur,e,_⟩
 ·omega
 ·simp only[Value.slice.injEq]at e;exact⟨g,e.1⟩
theorem aV.jcell{qs:List MQ}(H:aV w i' ab nb cb bs (some ⟨g,0,none⟩) nj cj qs){j:Nat}(hi:i<nj)(hj:j<18):w.cell? ⟨g,i*18+j,none⟩=(iG (qs.getD i q0))[j]?:=by
 have hl:=H.jl;rw[H.j.cellAt _ (by omega),fd gu q0 qs (by omega) hj]
theorem aV.jtask{qs:List MQ}(H:aV w i' ab nb cb bs aj nj cj qs)(hi:i<nj):bw w i' (qs.getD i q0).2.1 (qs.getD i q0).1.ts.length (qs.getD i q0).2.2 (qs.getD i q0).1.ts:=by
 have hl:=H.jl;exact H.t _ (by rw[m4,m6 (by omega)];simp)
set_option maxRecDepth 10000 in
theorem ip{qs:List MQ}(now uB who:Int)(w:World)(H:aV w i' ab nb cb bs aj nj cj qs)(uy:i'≤w.heap.size):
  Calls prog 43 #[.agg #[.int .i64 now,.int .i64 uB,.slice ab nb cb,.slice aj nj cj],.int .i64 who] w fun e w'=>e=.returned (.agg #[.int .i64 now,.int .i64 uB,.slice ab nb cb,.slice aj nj cj])∧aV w' i' ab nb cb bs aj nj cj (qs.map fun q=>(M.freeJ (br now who) q.1,q.2))∧(∀b vs,au w b vs→b∉bY ab aj qs→au w' b vs)∧Below i' w w':=by
 have HM:=Hd H;have Ld:=H.jl;have Nd:(nj:Int)≤9223372036854775807:=(by have:=H.sees.j.big;have:=H.sees.j.le;omega);have Od:(nj:Int)≤cj:=(by have:=H.sees.j.le;omega);clear H;go_enter func43,ntmps43;have Na:H9 (au ((w.alloc (.cells (aI now uB ab nb cb aj nj cj).toArray 27)).alloc (.cells aT.toArray 27)) w.heap.size (aI now uB ab nb cb aj nj cj)):=(aO _ _ _).alloc _;have Cb:H9 (au ((w.alloc (.cells (aI now uB ab nb cb aj nj cj).toArray 27)).alloc (.cells aT.toArray 27)) (w.heap.size+1) aT):=ba _ _ _ _;have Ta:H9 (m1 w ((w.alloc (.cells (aI now uB ab nb cb aj nj cj).toArray 27)).alloc (.cells aT.toArray 27))):=((m5 _ _).alloc (m3 _) _).alloc (by simp) _;(go_wp2_with fail);generalize((w.alloc (.cells (aI now uB ab nb cb aj nj cj).toArray 27)).alloc (.cells aT.toArray 27))=wa at *;have x0:=Na.c 0;have x1:=Na.c 1;have x2:=Na.c 2;have x3:=Na.c 3;(go_wp2_with fail);clear x0 x1 x2 x3;generalize hRQ:(qs.map fun q=>(M.freeJ (br now who) q.1,q.2))=RQ;have Rc:=Hd hRQ;have Gc:=Hd hRQ;have Hc:=Hd (HM.o.below Ta.o);have Wb:=Hd HM.o.lt;have Ic:=Hd (Ta.o.mono uy);clear hRQ HM
 go_loopw [5] (fun i wr=>∃(n:Nat) (Ba:List MQ),n≤nj∧i=it n∧aV wr i' ab nb cb bs aj nj cj Ba∧bY ab aj Ba=bY ab aj qs∧MQ.ff (br now who) n Ba=RQ∧au wr w.heap.size (aI now uB ab nb cb aj nj cj)∧au wr (w.heap.size+1) aT∧(∀b vs,au w b vs→b∉bY ab aj qs→au wr b vs)∧Below i' w wr) (fun i _=>nj-(intOf i).toNat)
 case atStart=>exact⟨0,qs,by omega,rfl,Hc.o,rfl,Gc.o,Na.o,Cb.o,(fun b vs h _=>h.belowS Ta.o),Ic.o⟩
 case round=>
  obtain⟨n,Ba,hn,rfl,hG,Oa,hR,Ea,Da,Pa,Qa⟩:=hrel;clear Hc Gc Ic Na Cb Ta;by_cases La:n<nj
  case pos=>
   obtain⟨gj,rfl⟩:=hG.block (by omega);have Sc:(n:Int)<(nj:Int):=(by omega);have Jc:=hG.jl;have Kc:MQ.ff (br now who) (n+1) (Ba.set n (MQ.at (br now who) 0 (Ba.getD n q0)))=RQ:=(by rw[MQ.ff_in (by omega)];exact hR);have hT:=hG.jtask La;have Ha:wr.cell? ⟨gj,n*18+17,none⟩=some (.slice (Ba.getD n q0).2.1 (Ba.getD n q0).1.ts.length (Ba.getD n q0).2.2):=hG.jcell La (by omega);have Tc:((Ba.getD n q0).1.ts.length:Int)≤9223372036854775807:=(by have:=hT.sees.big;have:=hT.sees.le;omega);have Lc:((Ba.getD n q0).1.ts.length:Int)≤(Ba.getD n q0).2.2:=(by have:=hT.sees.le;omega);generalize Ua:(Ba.getD n q0).1.ts.length=tn at Ha Tc Lc hT;generalize Va:(Ba.getD n q0).2.1=ta at Ha hT;generalize Wa:(Ba.getD n q0).2.2=tc at Ha hT Lc;have x3:=Ea.c 3;have Nb:=Hd hG;have Ob:=Hd Oa;have Pb:=Hd Kc;have Nc:H9 ((Ba.getD n q0).1.ts.length=tn∧(Ba.getD n q0).2.1=ta∧(Ba.getD n q0).2.2=tc):=⟨Ua,Va,Wa⟩;have Qb:=Hd Ea;have Rb:=Hd Da;have Sb:=Hd Qa;have Tb:=Hd Pa;clear Pa hG Oa hR Kc Ea Da Qa Ua Va Wa hT;(go_wp2_with fail);clear x3 Ha
   go_loopw [6] (fun i wr=>∃(p:Nat) (Ba:List MQ),p≤tn∧i=it p∧aV wr i' ab nb cb bs (some ⟨gj,0,none⟩) nj cj Ba∧bY ab (some ⟨gj,0,none⟩) Ba=bY ab (some ⟨gj,0,none⟩) qs∧MQ.ff (br now who) (n+1) (Ba.set n (MQ.at (br now who) p (Ba.getD n q0)))=RQ∧((Ba.getD n q0).1.ts.length=tn∧(Ba.getD n q0).2.1=ta∧(Ba.getD n q0).2.2=tc)∧au wr w.heap.size (aI now uB ab nb cb (some ⟨gj,0,none⟩) nj cj)∧au wr (w.heap.size+1) aT∧(∀b vs,au w b vs→b∉bY ab (some ⟨gj,0,none⟩) qs→au wr b vs)∧Below i' w wr) (fun i _=>tn-(intOf i).toNat)
   case atStart=>exact⟨0,Ba,by omega,rfl,Nb.o,Ob.o,Pb.o,Nc.o,Qb.o,Rb.o,Tb.o,Sb.o⟩
   case round=>
    clear Nb Ob Pb Nc Qb Rb Tb Sb Jc;obtain⟨p,Aa,hp,rfl,hG,Oa,hR,⟨Ua,Va,Wa⟩,Ea,Da,Pa,Qa⟩:=hrel;have Jc:=hG.jl;have Ha:wr.cell? ⟨gj,n*18+17,none⟩=some (.slice (Aa.getD n q0).2.1 (Aa.getD n q0).1.ts.length (Aa.getD n q0).2.2):=hG.jcell La (by omega);rw[Ua,Va,Wa]at Ha;have x3:=Ea.c 3;have x0:=Ea.c 0;by_cases Ia:p<tn
    case neg=>
     have Pd:p=tn:=(by omega);have Nb:=Hd hG;have Ob:=Hd Oa;have Pb:H9 (MQ.ff (br now who) (n+1) Aa=RQ):=(by show _=_;rw[MQ.at_end (by omega) (by omega)]at hR;exact hR);have Qb:=Hd Ea;have Rb:=Hd Da;have Sb:=Hd Qa;have Tb:=Hd Pa;clear Pa;have Uc:¬ (p:Int)<(tn:Int):=(by omega);clear hG Oa hR Ea Da Qa Ua Va Wa;go_wp2;go_roundw
     case rel=>exact⟨n+1,Aa,by omega,by go_num,Nb.o,Ob.o,Pb.o,Qb.o,Rb.o,Tb.o,Sb.o⟩
     case measure=>simp[intOf];omega
    have hT:=hG.jtask La;rw[Ua,Va,Wa]at hT;obtain⟨g,rfl⟩:=hT.block (by omega);have Uc:(p:Int)<(tn:Int):=(by omega);have a0:wr.cell? ⟨g,p*3,none⟩=some (.bool ((Aa.getD n q0).1.ts.getD p M.t0).done):=hT.cells Ia (j:=0) (by omega);have a1:wr.cell? ⟨g,p*3+1,none⟩=some (it ((Aa.getD n q0).1.ts.getD p M.t0).l'):=hT.cells Ia (j:=1) (by omega);have a2:wr.cell? ⟨g,p*3+2,none⟩=some (it ((Aa.getD n q0).1.ts.getD p M.t0).due):=hT.cells Ia (j:=2) (by omega);have Xb:=@MQ.at_keep (br now who) (Aa.getD n q0) p (by omega);have Yb:=@MQ.at_set (br now who) (Aa.getD n q0) p (by omega);generalize Vc:(Aa.getD n q0).1.ts.getD p M.t0=cq at a0 a1 a2 Xb Yb;obtain⟨td,x,y⟩:=cq;dsimp only at a0 a1 a2;have Xa:=Hd Xb;have Ya:=Hd Yb;clear Xb Yb Vc;have Oc:=Hd hG;have Na:=Hd Ea;have Cb:=Hd Da;have Ta:=Hd Qa;have Pc:=Hd Pa;clear Pa;have HQ:=Hd Oa;have HR:=Hd hR;have Ja:H9 ((Aa.getD n q0).1.ts.length=tn∧(Aa.getD n q0).2.1=some ⟨g,0,none⟩∧(Aa.getD n q0).2.2=tc):=⟨Ua,Va,Wa⟩;clear hG Ea Da Qa Oa hR Ua Va Wa hT;have Ab:=eK wr (.cells (eG td x y).toArray 47);have Db:=Hd (Oc.o.below Ab);have Fa:=Na.b Ab;have Eb:=Cb.b Ab;have Za:=Hd (Ta.o.trans (Ab.mono (m8 uy Ta.o.size)));have Fb:=Hd (fun b vs h n=>(Pc.o b vs h n).belowS Ab);clear Oc Na Cb Ta Pc;clear Ab;have Ka:=ct wr (eG td x y) 47;(go_wp2_with(with_reducible refine aA 35 ?_ ?_;rfl));show wpList _ _ _ _ _ _;clear a0 a1 a2 x3 x0 Ha;generalize(wr.alloc (.cells (eG td x y).toArray 47))=w5 at *;generalize wr.heap.size=tb at Ka ⊢;by_cases Gb:x=0
    ·
     have g1:(x != 0)=false:=(by simp[Gb]);have Ub:=Ka.c 1;have Vb:=Ka.c 2;have x3:=Fa.c 3;have x0:=Fa.c 0;have Ga:br now who ⟨td,x,y⟩=false:=(by unfold br M.leased;simp[Gb]);have Ra:H9 (MQ.ff (br now who) (n+1) (Aa.set n (MQ.at (br now who) (p+1) (Aa.getD n q0)))=RQ):=(by show _=_;rw[Xa.o Ga];exact HR.o);clear Xa Ya HR Ga;go_wp2;go_roundw
     case rel=>exact⟨p+1,Aa,by omega,by go_num,Db.o,HQ.o,Ra.o,Ja.o,Fa.o,Eb.o,Fb.o,Za.o⟩
     case measure=>simp[intOf];omega
    have g1:(x != 0)=true:=(by simp[Gb]);by_cases Bb:x=who
    ·
     have g2:(x==who)=true:=(by simp[Bb]);have Ub:=Ka.c 1;have Vb:=Ka.c 2;have x3:=Fa.c 3;have x0:=Fa.c 0;have Ga:br now who ⟨td,x,y⟩=true:=(by unfold br M.leased;simp[Bb];intro e;exact Gb (Bb.trans e));have hG:=Db.o;have Ca:=Ja.o;have Ha:w5.cell? ⟨gj,n*18+17,none⟩=some (.slice (Aa.getD n q0).2.1 (Aa.getD n q0).1.ts.length (Aa.getD n q0).2.2):=hG.jcell La (by omega);rw[Ca.1,Ca.2.1,Ca.2.2]at Ha;have hT:=hG.jtask La;rw[Ca.1,Ca.2.1,Ca.2.2]at hT;have b0:=hT.cells Ia (j:=0) (by omega);have Zb:=hT.2.frozenAt (p*3+0);have b1:=hT.cells Ia (j:=1) (by omega);have Wc:=hT.2.frozenAt (p*3+1);have b2:=hT.cells Ia (j:=2) (by omega);have Xc:=hT.2.frozenAt (p*3+2);rw[Nat.add_zero]at b0 Zb;generalize Ac:(Aa.getD n q0).1.ts.getD p M.t0=zz at b0 b1 b2;obtain⟨z1,z2,z3⟩:=zz;simp only[dW,List.getElem?_cons_zero,List.getElem?_cons_succ]at b0 b1 b2;have HP:=hG.task La (Ca.2.1) (k:=p) (by rw[Ca.1];exact Ia) M.t0;obtain⟨Hb,Ib⟩:=HP;have Bc:H9 _:=Hb;have Sa:H9 _:=Ib;clear Hb Ib hG hT Ac Ca
     have Jb:g∈bY ab (some ⟨gj,0,none⟩) Aa:=by
      have hm:Aa.getD n q0∈Aa:=(by rw[m4,m6 (by omega)];simp);unfold bY;simp only[uG];exact .inr (.inr (uO.2 ⟨_,hm,by rw[Ja.o.2.1];simp[ob]⟩))
     have Kb:g∈bY ab (some ⟨gj,0,none⟩) qs:=(by rw[←HQ.o];exact Jb);have Yc:=Wb.o g Kb;have HF':=Hd (fun b vs h n=>(Fb.o b vs h n).grown Sa.o (fun e=>n (m2 e ▸ Kb)));clear Jb;have HA':=Hd (Fa.o.grown Sa.o (fun e=>by have:=m2 e;omega));have HZ':=Hd (Eb.o.grown Sa.o (fun e=>by have:=m2 e;omega));have HB':=Hd (Za.o.trans (ap Sa.o (m8 uy Za.o.size) (fun z e=>by have:=m2 e;omega)));have Ra:H9 (MQ.ff (br now who) (n+1) ((Aa.set n ({(Aa.getD n q0).1 with ts:=(Aa.getD n q0).1.ts.set p M.t0},(Aa.getD n q0).2)).set n (MQ.at (br now who) (p+1) ((Aa.set n ({(Aa.getD n q0).1 with ts:=(Aa.getD n q0).1.ts.set p M.t0},(Aa.getD n q0).2)).getD n q0)))=RQ):=(by show _=_;rw[bX (by omega),Ya.o Ga,List.set_set];exact HR.o);have Cc:H9 (((Aa.set n ({(Aa.getD n q0).1 with ts:=(Aa.getD n q0).1.ts.set p M.t0},(Aa.getD n q0).2)).getD n q0).1.ts.length=tn∧((Aa.set n ({(Aa.getD n q0).1 with ts:=(Aa.getD n q0).1.ts.set p M.t0},(Aa.getD n q0).2)).getD n q0).2.1=some ⟨g,0,none⟩∧((Aa.set n ({(Aa.getD n q0).1 with ts:=(Aa.getD n q0).1.ts.set p M.t0},(Aa.getD n q0).2)).getD n q0).2.2=tc):=(by show _∧_∧_;rw[bX (by omega)];dsimp only;rw[List.length_set];exact Ja.o);have Dc:H9 (bY ab (some ⟨gj,0,none⟩) (Aa.set n ({(Aa.getD n q0).1 with ts:=(Aa.getD n q0).1.ts.set p M.t0},(Aa.getD n q0).2))=bY ab (some ⟨gj,0,none⟩) qs):=(fG (qs:=Aa) (i:=n) _ (by omega) (by rfl)).trans HQ.o;clear Xa Ya HR Ga Ja HQ;go_wp2;go_roundw
     case rel=>exact⟨p+1,_,by omega,by go_num,Bc.o,Dc.o,Ra.o,Cc.o,HA'.o,HZ'.o,HF'.o,HB'.o⟩
     case measure=>simp[intOf];omega
    have g2:(x==who)=false:=(by simp[Bb]);by_cases Lb:who=0
    ·
     have g3:(who==0)=true:=(by simp[Lb]);have Zc:=Hd Lb;clear Lb;by_cases Ec:y≤now
     ·
      have g4:decide (y≤now)=true:=(by simp[Ec]);have Ub:=Ka.c 1;have Vb:=Ka.c 2;have x3:=Fa.c 3;have x0:=Fa.c 0;have Ga:br now who ⟨td,x,y⟩=true:=(by unfold br M.leased;simp[Gb,Zc.o,Ec]);have hG:=Db.o;have Ca:=Ja.o;have Ha:w5.cell? ⟨gj,n*18+17,none⟩=some (.slice (Aa.getD n q0).2.1 (Aa.getD n q0).1.ts.length (Aa.getD n q0).2.2):=hG.jcell La (by omega);rw[Ca.1,Ca.2.1,Ca.2.2]at Ha;have hT:=hG.jtask La;rw[Ca.1,Ca.2.1,Ca.2.2]at hT;have b0:=hT.cells Ia (j:=0) (by omega);have Zb:=hT.2.frozenAt (p*3+0);have b1:=hT.cells Ia (j:=1) (by omega);have Wc:=hT.2.frozenAt (p*3+1);have b2:=hT.cells Ia (j:=2) (by omega);have Xc:=hT.2.frozenAt (p*3+2);rw[Nat.add_zero]at b0 Zb;generalize Ac:(Aa.getD n q0).1.ts.getD p M.t0=zz at b0 b1 b2;obtain⟨z1,z2,z3⟩:=zz;simp only[dW,List.getElem?_cons_zero,List.getElem?_cons_succ]at b0 b1 b2;have HP:=hG.task La (Ca.2.1) (k:=p) (by rw[Ca.1];exact Ia) M.t0;obtain⟨Hb,Ib⟩:=HP;have Bc:H9 _:=Hb;have Sa:H9 _:=Ib;clear Hb Ib hG hT Ac Ca
      have Jb:g∈bY ab (some ⟨gj,0,none⟩) Aa:=by
       have hm:Aa.getD n q0∈Aa:=(by rw[m4,m6 (by omega)];simp);unfold bY;simp only[uG];exact .inr (.inr (uO.2 ⟨_,hm,by rw[Ja.o.2.1];simp[ob]⟩))
      have Kb:g∈bY ab (some ⟨gj,0,none⟩) qs:=(by rw[←HQ.o];exact Jb);have Yc:=Wb.o g Kb;have HF':=Hd (fun b vs h n=>(Fb.o b vs h n).grown Sa.o (fun e=>n (m2 e ▸ Kb)));clear Jb;have HA':=Hd (Fa.o.grown Sa.o (fun e=>by have:=m2 e;omega));have HZ':=Hd (Eb.o.grown Sa.o (fun e=>by have:=m2 e;omega));have HB':=Hd (Za.o.trans (ap Sa.o (m8 uy Za.o.size) (fun z e=>by have:=m2 e;omega)));have Ra:H9 (MQ.ff (br now who) (n+1) ((Aa.set n ({(Aa.getD n q0).1 with ts:=(Aa.getD n q0).1.ts.set p M.t0},(Aa.getD n q0).2)).set n (MQ.at (br now who) (p+1) ((Aa.set n ({(Aa.getD n q0).1 with ts:=(Aa.getD n q0).1.ts.set p M.t0},(Aa.getD n q0).2)).getD n q0)))=RQ):=(by show _=_;rw[bX (by omega),Ya.o Ga,List.set_set];exact HR.o);have Cc:H9 (((Aa.set n ({(Aa.getD n q0).1 with ts:=(Aa.getD n q0).1.ts.set p M.t0},(Aa.getD n q0).2)).getD n q0).1.ts.length=tn∧((Aa.set n ({(Aa.getD n q0).1 with ts:=(Aa.getD n q0).1.ts.set p M.t0},(Aa.getD n q0).2)).getD n q0).2.1=some ⟨g,0,none⟩∧((Aa.set n ({(Aa.getD n q0).1 with ts:=(Aa.getD n q0).1.ts.set p M.t0},(Aa.getD n q0).2)).getD n q0).2.2=tc):=(by show _∧_∧_;rw[bX (by omega)];dsimp only;rw[List.length_set];exact Ja.o);have Dc:H9 (bY ab (some ⟨gj,0,none⟩) (Aa.set n ({(Aa.getD n q0).1 with ts:=(Aa.getD n q0).1.ts.set p M.t0},(Aa.getD n q0).2))=bY ab (some ⟨gj,0,none⟩) qs):=(fG (qs:=Aa) (i:=n) _ (by omega) (by rfl)).trans HQ.o;clear Xa Ya HR Ga Ja HQ;go_wp2;go_roundw
      case rel=>exact⟨p+1,_,by omega,by go_num,Bc.o,Dc.o,Ra.o,Cc.o,HA'.o,HZ'.o,HF'.o,HB'.o⟩
      case measure=>simp[intOf];omega
     have g4:decide (y≤now)=false:=(by simp;omega);have Ub:=Ka.c 1;have Vb:=Ka.c 2;have x3:=Fa.c 3;have x0:=Fa.c 0;have Ga:br now who ⟨td,x,y⟩=false:=(by unfold br M.leased;simp[Bb,Ec]);have Ra:H9 (MQ.ff (br now who) (n+1) (Aa.set n (MQ.at (br now who) (p+1) (Aa.getD n q0)))=RQ):=(by show _=_;rw[Xa.o Ga];exact HR.o);clear Xa Ya HR Ga;go_wp2;go_roundw
     case rel=>exact⟨p+1,Aa,by omega,by go_num,Db.o,HQ.o,Ra.o,Ja.o,Fa.o,Eb.o,Fb.o,Za.o⟩
     case measure=>simp[intOf];omega
    have g3:(who==0)=false:=(by simp[Lb]);have Ub:=Ka.c 1;have Vb:=Ka.c 2;have x3:=Fa.c 3;have x0:=Fa.c 0;have Ga:br now who ⟨td,x,y⟩=false:=(by unfold br M.leased;simp[Bb,Lb]);have Ra:H9 (MQ.ff (br now who) (n+1) (Aa.set n (MQ.at (br now who) (p+1) (Aa.getD n q0)))=RQ):=(by show _=_;rw[Xa.o Ga];exact HR.o);clear Xa Ya HR Ga;go_wp2;go_roundw
    case rel=>exact⟨p+1,Aa,by omega,by go_num,Db.o,HQ.o,Ra.o,Ja.o,Fa.o,Eb.o,Fb.o,Za.o⟩
    case measure=>simp[intOf];omega
  have Ad:n=nj:=(by omega);have Bd:H9 (Ba=RQ):=(by show _=_;rw[MQ.ff_end (by have:=hG.jl;omega)]at hR;exact hR);have Cd:=Hd hG;have Dd:=Hd Oa;have Qc:=Hd Qa;have Ed:=Hd Pa;have Fd:=Hd Da;have Sc:¬ (n:Int)<(nj:Int):=(by omega);have o0:=Ea.c 0;have o1:=Ea.c 1;have o2:=Ea.c 2;have o3:=Ea.c 3;have r0:=Da.c 0;have Qd:=Da.fr 0;have r1:=Da.c 1;have Rd:=Da.fr 1;have r2:=Da.c 2;have Sd:=Da.fr 2;have r3:=Da.c 3;have Td:=Da.fr 3;clear hG Oa hR Ea Da Pa Qa;subst Ad;(go_wp2_with fail);show bodyPost _ _ _ _ _ (wr.setCells (w.heap.size+1) 0 (aI now uB ab nb cb aj n cj));have Gd:au (wr.setCells (w.heap.size+1) 0 (aI now uB ab nb cb aj n cj)) (w.heap.size+1) (aI now uB ab nb cb aj n cj):=Fd.o.setCells (aI now uB ab nb cb aj n cj) 0 (by simp);have Fc:=cm wr (w.heap.size+1) 0 (aI now uB ab nb cb aj n cj);have Id:=Bd.o ▸ Cd.o.grown Fc (fun g hg e=>by rw[Dd.o]at hg;have:=Wb.o g hg;have:=m2 e;omega);have Jd:=Qc.o.trans (ap Fc (m8 uy Qc.o.size) (fun z e=>by have:=m2 e;omega));have Kd:=fun b vs h n=>(Ed.o b vs h n).grown Fc (fun e=>by have:=m2 e;have:=h.2.2;omega);generalize(wr.setCells (w.heap.size+1) 0 (aI now uB ab nb cb aj n cj))=wf at *;exact m7 (aS rfl rfl (uN wf (w.heap.size+1) 0 27 _ _ Gd.row underlying27 rfl (by kernel_rfl))) rfl ⟨rfl,by rw[Rc.o];exact Id,Kd,Jd⟩
theorem kv{ty:TypeId}{u:Value}(h:v.cells=u.cells):storeVar ty ad v=storeVar ty ad u:=by unfold storeVar;rw[h]
theorem jh(hgd:op.guard=none)(ty:TypeId)(x y:Operand)(ho:op.op=.store ty x y)(b o:Nat)(v:Value)(hv:v.cells=#[v])(hx:a.eval x=.pointer (some ⟨b,o,none⟩))(hy:a.eval y=v)
 (ht:w.there b o 1)(hi:(P.info? ty).map (·.size)=some 1)(h1:v.oneCell'=true)(h:wpList P ops Q rest (a.put op.dst undef) (w.setCells b o [v])):wpList P ops Q (op::rest) a w:=by
 refine wpList_plain hgd fun _ hK=>?_;unfold Oper.wp execOp;simp only[ho,hx,hy,Instr.storeAt,Instr.sureAddr,Sem.run_bind,Sem.run_pure,Result.andThen_ok];rw[kv (v:=v) (u:=.agg #[v]) (by rw[hv];rfl),run_storeVar_mid w b o ty #[v] ht hi (by simp[h1])];exact hK _ _ h
theorem eD(hg:o.guard=none)(l:Operand)(t:TypeId)(hop:o.op=Op.makeSlice t l l)(i':Nat)(e:TypeId)(i:TypeInfo)(z:Value)(size:Nat)(ht:P.underlying t=some (.slice e))(hi:P.info? e=some i)(hz:i.zero=some z)(hsize:i.size=size)
 (n:Nat)(hl:a.eval l=.int .i64 n)(hcells:n*size≤16777216)(hbytes:i.bytes*n≤281474976710656)(h63:n≤maxLen)(uy:i'≤w.heap.size)
 (hK:∀g w',w.heap.size=g→w'.ownsRow i' e size (.slice (some ⟨g,0,none⟩) n n) n (madeCells z.cells (n*size)).toList→w.grownBy w' none→K (a.put o.dst (.slice (some ⟨g,0,none⟩) n n)) w'):
  if Region.wanted o (yielded ops a.tmps)=true then Oper.wp P o a w K Q else E:=by
 have hw:Region.wanted o (yielded ops a.tmps)=true:=(by simp[Region.wanted,hg]);rw[if_pos hw];obtain⟨w',Aa,r1,r2⟩:=run_makeSlice_full (P:=P) (w:=w) i' t e i z size ht hi hz hsize .i64 .i64 n hcells hbytes h63 uy;unfold Oper.wp;simp[execOp,hop,hl,Aa,Result.andThen];exact hK _ w' rfl r1 r2
theorem dc(hg:o.guard=none)(ty:TypeId)(x:Operand)(hop:o.op=.load ty x)(ad:Addr)(hx:a.eval x=.pointer (some ad))(v:Value)(hl:(loadVar ty ad).run P w=.ok v w)(hK:K (a.put o.dst v) w):
  if Region.wanted o (yielded ops a.tmps)=true then Oper.wp P o a w K Q else E:=by
 have hw:Region.wanted o (yielded ops a.tmps)=true:=(by simp[Region.wanted,hg]);rw[if_pos hw];unfold Oper.wp execOp;simp only[hop,hx,Instr.loadAt,Instr.sureAddr,Sem.run_bind,Sem.run_pure,Result.andThen_ok,hl];exact hK
theorem sY(hg:o.guard=none)(v:Value)(w':World)(hrun:(execOp a.eval o).run P w=.ok (.value v) w')(hK:K (a.put o.dst v) w'):
  if Region.wanted o (yielded ops a.tmps)=true then Oper.wp P o a w K Q else E:=by
 have hw:Region.wanted o (yielded ops a.tmps)=true:=(by simp[Region.wanted,hg]);rw[if_pos hw];unfold Oper.wp;rw[hrun];exact hK
theorem dz(hg:o.guard=none)(f:Nat→Value)(w':World)(hrun:(execOp a.eval o).run P w=.ok (.value (f w.heap.size)) w')(hK:∀g W,w.heap.size=g→w'=W→K (a.put o.dst (f g)) W):
  if Region.wanted o (yielded ops a.tmps)=true then Oper.wp P o a w K Q else E:=sY hg _ _ hrun (hK _ _ rfl rfl)
theorem lN{qs:List MQ}
 (hg:o.guard=none)(s x:Operand)(hop:o.op=Op.call {callee:=Callee.builtin Builtin.append,args:=#[s,x],argTypes:=#[25,25]})(hs:a.eval s=.slice aj nj cj)(gb:Nat)(hx:a.eval x=.slice (some ⟨gb,0,none⟩) 1 1)(H:aV w i' ab nb cb bs aj nj cj qs)(q:MQ)(hL:au w gb (iG q))
 (hT:bw w i' q.2.1 q.1.ts.length q.2.2 q.1.ts)(hqa:∀g∈ob q.2.1,g∉bY ab aj qs)(hn:nj≤1000)(uy:i'≤w.heap.size)
 (hK:∀aj' cj' w7,aV w7 i' ab nb cb bs aj' (nj+1) cj' (qs++[q])→(∀g,g<w.heap.size→g∉bY ab aj qs→g∉ob q.2.1→g∉bY ab aj' (qs++[q]))→w.grownBy w7 (Value.slice aj nj cj).ownBlock→K (a.put o.dst (.slice aj' (nj+1) cj')) w7):
  if Region.wanted o (yielded ops a.tmps)=true then Oper.wp prog o a w K Q else E:=by
 obtain⟨i1,Ca,Da,Ea,Fa⟩:=info_parts fg;refine dC hg s x 25 hop i' 45 i1 _ 18 160 underlying25 Ca Da Ea Fa rfl (by decide) (.slice aj nj cj) nj (qs.flatMap iG) hs H.j ⟨gb,0,none⟩ 1 1 (iG q) hx (by rw[gu]) (gv hL) (mA _ _ _) (by unfold maxLen;omega) (by omega) uy ?_;intro v' w8 Aa Ba Ga;obtain⟨Ia,Ja,rfl⟩:=iM Aa;obtain⟨hP,Ha⟩:=H.push q hT hqa Ba Aa (m3 _) Ga;exact hK _ _ _ hP Ha Ba
theorem i6(h:w.cell? ad=some v):(loadVar 25 ad).run prog w=.ok v w:=by go_simp
theorem mH{mq:Nat}{a:Option Addr}(h8:mq≤8)(h:w.ownsRow i' 47 3 (.slice a n c) mq (madeCells (Value.agg #[.bool false,.int .i64 0,.int .i64 0]).cells (mq*3)).toList)(hn:n=mq):bw w i' a n c (List.replicate mq M.t0):=by
 subst hn;refine⟨uS,?_⟩
 have e:(madeCells (Value.agg sf.toArray).cells (n*3)).toList=(List.replicate n M.t0).flatMap dW:=by
  obtain rfl | rfl | rfl | rfl | rfl | rfl | rfl | rfl | rfl:n=0∨n=1∨n=2∨n=3∨n=4∨n=5∨n=6∨n=7∨n=8:=by omega
  all_goals kernel_rfl
 rw[←e];exact h
theorem mO(T:TypeId)(b o:Nat)(v:Value)(ht:w.there b o 1)
   (hs:op.guard=none∧v.cells=#[v]∧v.oneCell'=true∧(P.info? T).map (·.size)=some 1∧∃x y,op.op=.store T x y∧a.eval x=.pointer (some ⟨b,o,none⟩)∧a.eval y=v)
   (h:wpList P ops Q rest (a.put op.dst undef) (w.setCells b o [v])):H9 (wpList P ops Q (op::rest) a w):=by
  obtain⟨h1,h2,h3,h4,x,y,h5,h6,h7⟩:=hs
  exact jh h1 T x y h5 b o v h2 h6 h7 ht h4 h3 h
theorem lC{α:Type}{f:α→List Value}(hf:∀x,(f x).length=k)(d:α):∀(xs:List α) {i:Nat} (c:α) (o:Nat) (us:List Value),i<xs.length→o+us.length≤k→f c=lK (f (xs.getD i d)) o us→lK (xs.flatMap f) (i*k+o) us=(xs.set i c).flatMap f
 | [],_,_,_,_,h,_,_=>by simp at h
 | x::xs,0,c,o,us,_,ho,hc=>by
  have hc':f c=lK (f x) o us:=hc;rw[List.set_cons_zero,uY,uY,hc'];unfold lK;rw[Nat.zero_mul,Nat.zero_add,List.take_append_of_le_length (by rw[hf];omega),List.drop_append_of_le_length (by rw[hf];omega)];simp only[List.append_assoc]
 | x::xs,i+1,c,o,us,h,ho,hc=>by
  have ih:=lC hf d xs (i:=i) c o us (by simpa using h) ho hc;unfold lK at ih ⊢;rw[uY,List.set_cons_succ,uY,←ih,show(i+1)*k+o=k+(i*k+o) by rw[Nat.add_mul];omega];rw[List.take_append,List.drop_append,hf,uD (by rw[hf];omega),m9 (by rw[hf];omega)];rw[show k+(i*k+o)-k=i*k+o by omega,show k+(i*k+o)+us.length-k=i*k+o+us.length by omega];simp
theorem aV.gone{qs:List MQ}(H:aV w i' ab nb cb bs (some ⟨g,0,none⟩) nj cj qs)(hi:i<nj)(b:Bool):
  aV (w.setCells g (i*18+16) [.bool b]) i' ab nb cb bs (some ⟨g,0,none⟩) nj cj (qs.set i ({(qs.getD i q0).1 with gone:=b},(qs.getD i q0).2))∧w.grownBy (w.setCells g (i*18+16) [.bool b]) (some g):=by
 have hl:=H.jl;obtain⟨h1,h2⟩:=fH [.bool b] (i*18+16) H.j (by rw[dS gu];show i*18+16+1≤_;omega)
 have hc:iG ({(qs.getD i q0).1 with gone:=b},(qs.getD i q0).2)=lK (iG (qs.getD i q0)) 16 [.bool b]:=by
  generalize qs.getD i q0=q
  rfl
 rw[lC gu q0 qs _ 16 [.bool b] (by omega) (by show 16+1≤18;omega) hc]at h1;obtain⟨c3,c2,c1⟩:=cK.1 H.d;have Aa:qs.getD i q0∈qs:=(by rw[m4,m6 (by omega)];simp);have Ba:g∈ob (some (⟨g,0,none⟩:Addr)):=(by simp[ob]);have Ca:∀q∈qs,∀x∈ob q.2.1,some g≠some x:=fun q hq x hx e=>c2 g Ba (m2 e ▸ uO.2 ⟨q,hq,hx⟩);refine⟨⟨H.b.grown h2 fun x hx e=>(c3 x hx).1 (m2 e ▸ Ba),by rw[List.length_set];exact hl,h1,?_,?_⟩,h2⟩
 ·
  intro q hq
  rcases dP (d:=q0) hq with rfl | ⟨k',h3,h4,rfl⟩
  ·exact(H.t _ Aa).grown h2 (Ca _ Aa)
  ·
   have Da:qs.getD k' q0∈qs:=(by rw[m4,m6 h4];simp);exact(H.t _ Da).grown h2 (Ca _ Da)
 ·
  have e:=fG (ab:=ab) (aj:=some ⟨g,0,none⟩) (qs:=qs) (i:=i) ({(qs.getD i q0).1 with gone:=b},(qs.getD i q0).2) (by omega) rfl;rw[e];exact H.d
theorem aV.jthere{qs:List MQ}(H:aV w i' ab nb cb bs (some ⟨g,0,none⟩) nj cj qs)(hi:i<nj):w.there g (i*18+16) 1:=fun j hj=>by
 obtain rfl:j=0:=by omega
 refine⟨?_,H.j.frozenAt _⟩;rw[Nat.add_zero,H.jcell hi (by omega)]
 rfl
def fK(m:M.Mc)(s:Int×Int)(n:Int):Nat:=if cY m s n=true then 4*n.toNat else 0
theorem sB(m:M.Mc)(s:Int×Int)(n:Int):fK m s n≤64:=by
 unfold fK
 split
 ·
  rename_i h;obtain⟨-,-,N,rfl,hN⟩:=fR h;have:=M.rowsN_pos hN;omega
 ·omega
def fT(m:M.Mc)(s:Int×Int)(n:Int)(w:World)(e:Ending)(w':World):Prop:=
 ∃(a1:Option Addr) (c1:Nat) (a2:Option Addr) (c2:Nat) (a3:Option Addr) (c3:Nat) (a4:Option Addr) (c4:Nat),e=.returned (.tuple #[.agg #[.int .i64 (fS m s n).s.1,.int .i64 (fS m s n).s.2,.int .i64 (fS m s n).e.1,.int .i64 (fS m s n).e.2,.slice a1 (fK m s n) c1,.slice a2 (fK m s n) c2,.slice a3 (fK m s n) c3,.slice a4 (fK m s n) c4],.bool (cY m s n)])∧
  (aC 2 w' w.heap.size a1 (fK m s n) c1 (fS m s n).X∧aC 2 w' w.heap.size a2 (fK m s n) c2 (fS m s n).Y∧aC 2 w' w.heap.size a3 (fK m s n) c3 (fS m s n).QX∧aC 2 w' w.heap.size a4 (fK m s n) c4 (fS m s n).QY)∧(ic a1 a2∧ic a1 a3∧ic a1 a4∧ic a2 a3∧ic a2 a4∧ic a3 a4)∧m1 w w'
theorem mJ{n:Int}{e:Ending}(h:cY m s n=false)(he:e=.returned (.tuple #[.agg #[.int .i64 0,.int .i64 0,.int .i64 0,.int .i64 0,.slice none 0 0,.slice none 0 0,.slice none 0 0,.slice none 0 0],.bool false]))(hb:m1 w w'):fT m s n w e w':=by
 have e1:=rK h;have e2:fK m s n=0:=if_neg (by rw[h];decide);unfold fT;rw[e1,e2,h];exact⟨none,0,none,0,none,0,none,0,he,⟨aC.empty _ _ _,aC.empty _ _ _,aC.empty _ _ _,aC.empty _ _ _⟩,⟨fk _,fk _,fk _,fk _,fk _,fk _⟩,hb⟩
theorem gf(m:M.Mc)(s:Int×Int)(n:Int)(w:World):Calls prog 59 #[da m,cM s,.int .i64 n] w (fT m s n w):=by
 cases h:cY m s n with
 | false=>exact(ku m s n w h).mono fun e w' ⟨h1,h2⟩=>mJ h h1 h2
 | true=>
  obtain⟨hm,hs,N,rfl,hN⟩:=fR h;refine(kX m s N w hm hs hN).mono fun e w' hp=>?_;have e1:fS m s N=m.pf s N:=sC h;have e2:fK m s N=4*N:=if_pos h;unfold fT;rw[e1,e2,h];exact hp
structure Dp(w0 w:World)(R:Nat)(ca:Option Addr)(len cap:Nat)(e:Ending)(W:World)(s1 s2 e1 e2:Int)(a1:Option Addr)(n1 c1:Nat)(z1:List Int)(a2:Option Addr)(n2 c2:Nat)(z2:List Int)(a3:Option Addr)(n3 c3:Nat)(z3:List Int)(a4:Option Addr)(n4 c4:Nat)(z4:List Int):Prop where
 val:e=.returned (.agg #[.int .i64 s1,.int .i64 s2,.int .i64 e1,.int .i64 e2,.slice a1 n1 c1,.slice a2 n2 c2,.slice a3 n3 c3,.slice a4 n4 c4])
 x:aw W a1 n1 c1 z1
 y:aw W a2 n2 c2 z2
 qx:aw W a3 n3 c3 z3
 qy:aw W a4 n4 c4 z4
 few:n1≤64∧n2≤64∧n3≤64∧n4≤64
 lo:(∀q,a1=some q→w.heap.size≤q.block)∧(∀q,a2=some q→w.heap.size≤q.block)∧(∀q,a3=some q→w.heap.size≤q.block)∧(∀q,a4=some q→w.heap.size≤q.block)
 rd:Rd w0 R ca len cap W
 gr:w.grownBy W (some R)
def nZ(W:World)(e:Ending)(w':World):Prop:=∃(p1 p2 p3 p4:Int) (L:Nat) (o:Bool) (z1 z2 z3 z4:List Int) (g1:Option Addr) (gc1:Nat) (g2:Option Addr) (gc2:Nat) (g3:Option Addr) (gc3:Nat) (g4:Option Addr) (gc4:Nat),e=.returned (.tuple #[.agg #[.int .i64 p1,.int .i64 p2,.int .i64 p3,.int .i64 p4,.slice g1 L gc1,.slice g2 L gc2,.slice g3 L gc3,.slice g4 L gc4],.bool o])∧L≤64∧(aC 2 w' W.heap.size g1 L gc1 z1∧aC 2 w' W.heap.size g2 L gc2 z2∧aC 2 w' W.heap.size g3 L gc3 z3∧aC 2 w' W.heap.size g4 L gc4 z4)∧(ic g1 g2∧ic g1 g3∧ic g1 g4∧ic g2 g3∧ic g2 g4∧ic g3 g4)∧m1 W w'
theorem jx{n:Int}{W:World}{e:Ending}(h:fT m s n W e w'):nZ W e w':=by
 obtain⟨a1,c1,a2,c2,a3,c3,a4,c4,he,ho,hf,hb⟩:=h;exact⟨_,_,_,_,_,_,_,_,_,_,a1,c1,a2,c2,a3,c3,a4,c4,he,sB m s n,ho,hf,hb⟩
set_option maxRecDepth 10000 in
theorem qT{w0:World}{R:Nat}{ca:Option Addr}{len cap:Nat}{zs:List Int}(hrow:Row .u8 w0 ca len cap zs)(m:M.Mc)(w:World)(h:Rd w0 R ca len cap w):
  Calls prog 68 #[.pointer (some ⟨R,0,none⟩),da m] w fun e w'=>∃s1 s2 e1 e2 a1 n1 c1 z1 a2 n2 c2 z2 a3 n3 c3 z3 a4 n4 c4 z4,Dp w0 w R ca len cap e w' s1 s2 e1 e2 a1 n1 c1 z1 a2 n2 c2 z2 a3 n3 c3 z3 a4 n4 c4 z4:=by
 have CS:=fun s n W=>gf m s n W;have CS:=Hd (fun s n W=>(CS s n W).mono fun e w' h=>jx h);unfold nZ at CS;have Lc:=Hd hrow;have Ej:=h.hi;obtain⟨⟨a,b,c,d,f,k⟩,⟨a',b',c',d',f',k'⟩⟩:=m;dsimp only[da,cM]at CS ⊢;have Da:m1 w ((w.alloc (.cells (co a b c d f k a' b' c' d' f' k').toArray 31)).alloc (.cells cI.toArray 35)):=((m5 _ _).alloc (m3 _) _).alloc (by simp) _;have Qf:H9 (au ((w.alloc (.cells (co a b c d f k a' b' c' d' f' k').toArray 31)).alloc (.cells cI.toArray 35)) w.heap.size (co a b c d f k a' b' c' d' f' k')):=(aO _ _ _).alloc _;have Bg:H9 (au ((w.alloc (.cells (co a b c d f k a' b' c' d' f' k').toArray 31)).alloc (.cells cI.toArray 35)) (w.heap.size+1) cI):=ba _ _ _ _;have Cg:H9 (Rd w0 R ca len cap ((w.alloc (.cells (co a b c d f k a' b' c' d' f' k').toArray 31)).alloc (.cells cI.toArray 35))):=(h.alloc _).alloc _;have Dg:H9 (w.grownBy ((w.alloc (.cells (co a b c d f k a' b' c' d' f' k').toArray 31)).alloc (.cells cI.toArray 35)) (some R)):=aB Da _;have Ki:((w.alloc (.cells (co a b c d f k a' b' c' d' f' k').toArray 31)).alloc (.cells cI.toArray 35)).heap.size=w.heap.size+2:=(by simp);have Fj:=h.below.size;clear Da h hrow;go_enter func68,ntmps68;(go_wp2_with fail);generalize((w.alloc (.cells (co a b c d f k a' b' c' d' f' k').toArray 31)).alloc (.cells cI.toArray 35))=wq at Ki Qf Bg Cg Dg ⊢;have Bd:some R≠some w.heap.size:=(by simp;omega);have Nc:some R≠some (w.heap.size+1):=(by simp;omega);have Dd:H9 (∀p,wq.heap.size≤p→w.heap.size≠p∧w.heap.size+1≠p∧w0.heap.size≤p∧p≠R∧w.heap.size≤p∧some R≠some p):=fun p hp=>⟨by omega,by omega,by omega,by omega,by omega,by simp;omega⟩;apply pZ
 case f=>
  intro key;refine cB wq (some R) (by kernel_rfl) fun hHeld=>?_;have Qa:m1 wq wq.drew:=(m5 _ _).drew;have Xc:=Qf.b Qa;have Jb:=Bg.b Qa;have Kb:=Hd (Cg.o.grow Qa);have Eb:=Hd (Dg.o.trans (aB Qa _));generalize wq.drew=Lb at hHeld Xc Jb Kb Eb ⊢;clear Qa;refine wpAnyH_take (i:=0) (v:=.agg (co a b c d f k a' b' c' d' f' k').toArray) rfl (by kernel_rfl) (by kernel_rfl) (by kernel_rfl) (fun _ _ _ h=>h) (uM (by kernel_rfl) 31 (.tmp 3) rfl w.heap.size 0 rfl (co a b c d f k a' b' c' d' f' k') _ (fun W h=>(Qf.o.grown h Bd).row) underlying31 rfl (by kernel_rfl)) (by assumption) ?_;refine tk 1 (.pointer (some ⟨R,0,none⟩)) ?_ ?_
  ·intro wq Na;go_simp
  refine tk 3 (.pointer (some ⟨R,0,none⟩)) ?_ ?_
  ·intro wq Na;go_simp
  refine uT (rs:=[2,11]) (by kernel_rfl) (by simp) ?_;refine uC rfl (fun Kk hK=>?_) (uC rfl (fun Kk hK=>?_) (uJ));go_simp;refine(dK Lc.o _ Kb.o).mono ?_;rintro e Pa ⟨⟨x,y⟩,rfl,Yc,Ra⟩;go_simp;have Cb:=hHeld.trans Ra;have Rb:=Hd (Xc.o.grown Ra Bd);have Sb:=Hd (Jb.o.grown Ra Nc);have Tb:=Hd Yc;have Ub:=Hd (Eb.o.trans Ra);refine hK.out _ _ Cb (fun _=>?_);clear hK Kk Ra Yc Xc Jb Kb Eb;refine uT (rs:=[4,11]) (by kernel_rfl) (by simp) ?_;refine uC rfl (fun Kk hK=>?_) (uC rfl (fun Kk hK=>?_) (uJ));go_simp;refine(bi Lc.o 3 (by decide) (by decide) _ Tb.o).mono ?_;rintro e Ea ⟨v,v0,v1,rfl,Ic,Oa⟩;go_simp;have Ua:=Cb.trans Oa;have Fb:=Hd (Rb.o.grown Oa Bd);have Gb:=Hd (Sb.o.grown Oa Nc);have Hb:=Hd Ic;have Ib:=Hd (Ub.o.trans Oa);refine hK.out _ _ Ua (fun _=>?_);clear hK Kk Oa Ic Rb Sb Tb Ub;refine tk 5 (.int .u64 (IntKind.u64.wrap v)) ?_ ?_
  ·intro wq Na;go_simp
  refine tk 6 (it (IntKind.i64.wrap (2*2 ^ min (IntKind.u64.wrap v).toNat 64))) ?_ ?_
  ·intro wq Na;go_simp
  refine uT (rs:=[7,11]) (by kernel_rfl) (by simp) ?_;refine uC rfl (fun Kk hK=>?_) (uC rfl (fun Kk hK=>?_) (uJ));go_simp;refine(CS.o (x,y) (IntKind.i64.wrap (2*2 ^ min (IntKind.u64.wrap v).toNat 64)) _).mono ?_;rintro e Ka ⟨p1,p2,p3,p4,L,o,z1,z2,z3,z4,g1,Ca,g2,Fa,g3,Ga,g4,Ba,rfl,hL,⟨q1,q2,q3,q4⟩,Vb,Va⟩;go_simp;have Ta:=Ua.trans (aB Va _);have Nb:=Fb.b Va;have Ob:=Gb.b Va;have Pb:=Hd (Hb.o.grow Va);have Qb:=Hd (Ib.o.trans (aB Va _));have Ed:=Hd (q1.mono Ua.size);have Fd:=Hd (q2.mono Ua.size);have Gd:=Hd (q3.mono Ua.size);have Id:=Hd (q4.mono Ua.size);have Eg:=Hd Vb;have Fg:=Hd hL;clear q1 q2 q3 q4 Vb hL;refine hK.out _ _ Ta (fun _=>?_);clear hK Kk Va Fb Gb Hb Ib;refine tk 8 (.tuple #[.agg (bp p1 p2 p3 p4 g1 L Ca g2 L Fa g3 L Ga g4 L Ba).toArray,.bool o]) ?_ ?_
  ·intro wq Na;go_simp
  refine tk 9 (.agg (bp p1 p2 p3 p4 g1 L Ca g2 L Fa g3 L Ga g4 L Ba).toArray) ?_ ?_
  ·intro wq Na;go_simp
  refine tk 10 (.bool o) ?_ ?_
  ·intro wq Na;go_simp
  refine aX 11 fun Kk hK=>?_;rw[if_pos (by kernel_rfl)];refine bL 35 rfl cI.toArray (by kernel_rfl) ?_;have Da:=eK Ka (.cells cI.toArray 35);have Jd:wq.grownBy (Ka.alloc (.cells cI.toArray 35)) (some R):=bj Ta _;have Rf:=Nb.b Da;have Sf:=Ob.b Da;have Tf:=Hd (Pb.o.grow Da);have Uf:=Hd (Qb.o.trans (aB Da _));have Vf:=Hd (Ed.o.below Da);have Wf:=Hd (Fd.o.below Da);have Xf:=Hd (Gd.o.below Da);have Yf:=Hd (Id.o.below Da);have He:=ct Ka cI 35;have Db:=Hd Ta.size;have Ze:=Hd (fun q hq=>Nat.ne_of_lt (Ed.o.hi q hq));have Af:=Hd (fun q hq=>Nat.ne_of_lt (Fd.o.hi q hq));have Bf:=Hd (fun q hq=>Nat.ne_of_lt (Gd.o.hi q hq));have Cf:=Hd (fun q hq=>Nat.ne_of_lt (Id.o.hi q hq));refine hK.out _ _ Jd (fun _=>?_);clear hK Kk Da Nb Ob Pb Qb Ed Fd Gd Id;generalize(Ka.alloc (.cells cI.toArray 35))=Xa at He Jd Rf Sf Tf Uf Vf Wf Xf Yf ⊢;generalize Ka.heap.size=La at He Db Ze Af Bf Cf ⊢
  rotate_left
  rw[if_pos (by kernel_rfl)];refine bL 35 rfl cI.toArray (by kernel_rfl) ?_;have Da:=eK Ea (.cells cI.toArray 35);have Ta:wq.grownBy (Ea.alloc (.cells cI.toArray 35)) (some R):=bj Ua _;have Nb:=Fb.b Da;have Ob:=Gb.b Da;have Pb:=Hd (Hb.o.grow Da);have Qb:=Hd (Ib.o.trans (aB Da _));have Wa:=ct Ea cI 35;have Db:=Hd Ua.size;refine hK.out _ _ Ta (fun _=>?_);clear hK Kk Da Fb Gb Hb Ib;generalize(Ea.alloc (.cells cI.toArray 35))=Ka at Wa Ta Nb Ob Pb Qb ⊢;generalize Ea.heap.size=La at Wa Db ⊢;refine aX 7 fun Kk hK=>?_;go_simp;refine(CS.o (x,y) (IntKind.i64.wrap (2*2 ^ min (IntKind.u64.wrap v).toNat 64)) _).mono ?_;rintro e Xa ⟨p1,p2,p3,p4,L,o,z1,z2,z3,z4,g1,Ca,g2,Fa,g3,Ga,g4,Ba,rfl,hL,⟨q1,q2,q3,q4⟩,Vb,Bb⟩;go_simp;have Jd:=Ta.trans (aB Bb _);have Rf:=Nb.b Bb;have Sf:=Ob.b Bb;have Tf:=Hd (Pb.o.grow Bb);have Uf:=Hd (Qb.o.trans (aB Bb _));have He:=Wa.b Bb;have Vf:=Hd (q1.mono Ta.size);have Wf:=Hd (q2.mono Ta.size);have Xf:=Hd (q3.mono Ta.size);have Yf:=Hd (q4.mono Ta.size);have Eg:=Hd Vb;have Fg:=Hd hL;have Ze:=Hd (fun q hq=>Nat.ne_of_gt (uL Wa.o.2.2 (q1.lo q hq)));have Af:=Hd (fun q hq=>Nat.ne_of_gt (uL Wa.o.2.2 (q2.lo q hq)));have Bf:=Hd (fun q hq=>Nat.ne_of_gt (uL Wa.o.2.2 (q3.lo q hq)));have Cf:=Hd (fun q hq=>Nat.ne_of_gt (uL Wa.o.2.2 (q4.lo q hq)));clear q1 q2 q3 q4 Vb hL;refine hK.out _ _ Jd (fun _=>?_);clear hK Kk Bb Nb Ob Pb Qb Wa;refine tk 8 (.tuple #[.agg (bp p1 p2 p3 p4 g1 L Ca g2 L Fa g3 L Ga g4 L Ba).toArray,.bool o]) ?_ ?_
  ·intro wq Na;go_simp
  refine tk 9 (.agg (bp p1 p2 p3 p4 g1 L Ca g2 L Fa g3 L Ga g4 L Ba).toArray) ?_ ?_
  ·intro wq Na;go_simp
  refine tk 10 (.bool o) ?_ ?_
  ·intro wq Na;go_simp
  rotate_left
  rw[if_pos (by kernel_rfl)];refine bL 35 rfl cI.toArray (by kernel_rfl) ?_;have Da:=eK Pa (.cells cI.toArray 35);have Ua:wq.grownBy (Pa.alloc (.cells cI.toArray 35)) (some R):=bj Cb _;have Fb:=Rb.b Da;have Gb:=Sb.b Da;have Hb:=Hd (Tb.o.grow Da);have Ib:=Hd (Ub.o.trans (aB Da _));have Wb:=ct Pa cI 35;have Db:=Hd Cb.size;refine hK.out _ _ Ua (fun _=>?_);clear hK Kk Da Rb Sb Tb Ub;generalize(Pa.alloc (.cells cI.toArray 35))=Ea at Wb Ua Fb Gb Hb Ib ⊢;generalize Pa.heap.size=La at Wb Db ⊢;refine aX 4 fun Kk hK=>?_;go_simp;refine(bi Lc.o 3 (by decide) (by decide) _ Hb.o).mono ?_;rintro e Ka ⟨v,v0,v1,rfl,Gg,Oc⟩;go_simp;have Ta:=Ua.trans Oc;have Nb:=Hd (Fb.o.grown Oc Bd);have Ob:=Hd (Gb.o.grown Oc Nc);have Pb:=Hd Gg;have Qb:=Hd (Ib.o.trans Oc);have Wa:=Hd (Wb.o.grown Oc (Dd.o _ Db.o).2.2.2.2.2);refine hK.out _ _ Ta (fun _=>?_);clear hK Kk Oc Gg Fb Gb Hb Ib Wb;refine tk 5 (.int .u64 (IntKind.u64.wrap v)) ?_ ?_
  ·intro wq Na;go_simp
  refine tk 6 (it (IntKind.i64.wrap (2*2 ^ min (IntKind.u64.wrap v).toNat 64))) ?_ ?_
  ·intro wq Na;go_simp
  refine aX 7 fun Kk hK=>?_;go_simp;refine(CS.o (x,y) (IntKind.i64.wrap (2*2 ^ min (IntKind.u64.wrap v).toNat 64)) _).mono ?_;rintro e Xa ⟨p1,p2,p3,p4,L,o,z1,z2,z3,z4,g1,Ca,g2,Fa,g3,Ga,g4,Ba,rfl,hL,⟨q1,q2,q3,q4⟩,Vb,Bb⟩;go_simp;have Jd:=Ta.trans (aB Bb _);have Rf:=Nb.b Bb;have Sf:=Ob.b Bb;have Tf:=Hd (Pb.o.grow Bb);have Uf:=Hd (Qb.o.trans (aB Bb _));have He:=Wa.b Bb;have Vf:=Hd (q1.mono Ta.size);have Wf:=Hd (q2.mono Ta.size);have Xf:=Hd (q3.mono Ta.size);have Yf:=Hd (q4.mono Ta.size);have Eg:=Hd Vb;have Fg:=Hd hL;have Ze:=Hd (fun q hq=>Nat.ne_of_gt (uL Wa.o.2.2 (q1.lo q hq)));have Af:=Hd (fun q hq=>Nat.ne_of_gt (uL Wa.o.2.2 (q2.lo q hq)));have Bf:=Hd (fun q hq=>Nat.ne_of_gt (uL Wa.o.2.2 (q3.lo q hq)));have Cf:=Hd (fun q hq=>Nat.ne_of_gt (uL Wa.o.2.2 (q4.lo q hq)));clear q1 q2 q3 q4 Vb hL;refine hK.out _ _ Jd (fun _=>?_);clear hK Kk Bb Nb Ob Pb Qb Wa;refine tk 8 (.tuple #[.agg (bp p1 p2 p3 p4 g1 L Ca g2 L Fa g3 L Ga g4 L Ba).toArray,.bool o]) ?_ ?_
  ·intro wq Na;go_simp
  refine tk 9 (.agg (bp p1 p2 p3 p4 g1 L Ca g2 L Fa g3 L Ga g4 L Ba).toArray) ?_ ?_
  ·intro wq Na;go_simp
  refine tk 10 (.bool o) ?_ ?_
  ·intro wq Na;go_simp
  rotate_left
  rw[if_pos (by kernel_rfl)];refine bL 35 rfl cI.toArray (by kernel_rfl) ?_;have Da:=eK Lb (.cells cI.toArray 35);have Cb:wq.grownBy (Lb.alloc (.cells cI.toArray 35)) (some R):=bj hHeld _;have Rb:=Xc.b Da;have Sb:=Jb.b Da;have Tb:=Hd (Kb.o.grow Da);have Ub:=Hd (Eb.o.trans (aB Da _));have Kd:=ct Lb cI 35;have Db:=Hd hHeld.size;refine hK.out _ _ Cb (fun _=>?_);clear hK Kk Da Xc Jb Kb Eb;generalize(Lb.alloc (.cells cI.toArray 35))=Pa at Kd Cb Rb Sb Tb Ub ⊢;generalize Lb.heap.size=La at Kd Db ⊢;refine aX 2 fun Kk hK=>?_;go_simp;refine(dK Lc.o _ Tb.o).mono ?_;rintro e Ea ⟨⟨x,y⟩,rfl,Ic,Oa⟩;go_simp;have Ua:=Cb.trans Oa;have Fb:=Hd (Rb.o.grown Oa Bd);have Gb:=Hd (Sb.o.grown Oa Nc);have Hb:=Hd Ic;have Ib:=Hd (Ub.o.trans Oa);have Wb:=Hd (Kd.o.grown Oa (Dd.o _ Db.o).2.2.2.2.2);refine hK.out _ _ Ua (fun _=>?_);clear hK Kk Oa Ic Rb Sb Tb Ub Kd;refine aX 4 fun Kk hK=>?_;go_simp;refine(bi Lc.o 3 (by decide) (by decide) _ Hb.o).mono ?_;rintro e Ka ⟨v,v0,v1,rfl,Gg,Oc⟩;go_simp;have Ta:=Ua.trans Oc;have Nb:=Hd (Fb.o.grown Oc Bd);have Ob:=Hd (Gb.o.grown Oc Nc);have Pb:=Hd Gg;have Qb:=Hd (Ib.o.trans Oc);have Wa:=Hd (Wb.o.grown Oc (Dd.o _ Db.o).2.2.2.2.2);refine hK.out _ _ Ta (fun _=>?_);clear hK Kk Oc Gg Fb Gb Hb Ib Wb;refine tk 5 (.int .u64 (IntKind.u64.wrap v)) ?_ ?_
  ·intro wq Na;go_simp
  refine tk 6 (it (IntKind.i64.wrap (2*2 ^ min (IntKind.u64.wrap v).toNat 64))) ?_ ?_
  ·intro wq Na;go_simp
  refine aX 7 fun Kk hK=>?_;go_simp;refine(CS.o (x,y) (IntKind.i64.wrap (2*2 ^ min (IntKind.u64.wrap v).toNat 64)) _).mono ?_;rintro e Xa ⟨p1,p2,p3,p4,L,o,z1,z2,z3,z4,g1,Ca,g2,Fa,g3,Ga,g4,Ba,rfl,hL,⟨q1,q2,q3,q4⟩,Vb,Bb⟩;go_simp;have Jd:=Ta.trans (aB Bb _);have Rf:=Nb.b Bb;have Sf:=Ob.b Bb;have Tf:=Hd (Pb.o.grow Bb);have Uf:=Hd (Qb.o.trans (aB Bb _));have He:=Wa.b Bb;have Vf:=Hd (q1.mono Ta.size);have Wf:=Hd (q2.mono Ta.size);have Xf:=Hd (q3.mono Ta.size);have Yf:=Hd (q4.mono Ta.size);have Eg:=Hd Vb;have Fg:=Hd hL;have Ze:=Hd (fun q hq=>Nat.ne_of_gt (uL Wa.o.2.2 (q1.lo q hq)));have Af:=Hd (fun q hq=>Nat.ne_of_gt (uL Wa.o.2.2 (q2.lo q hq)));have Bf:=Hd (fun q hq=>Nat.ne_of_gt (uL Wa.o.2.2 (q3.lo q hq)));have Cf:=Hd (fun q hq=>Nat.ne_of_gt (uL Wa.o.2.2 (q4.lo q hq)));clear q1 q2 q3 q4 Vb hL;refine hK.out _ _ Jd (fun _=>?_);clear hK Kk Bb Nb Ob Pb Qb Wa;refine tk 8 (.tuple #[.agg (bp p1 p2 p3 p4 g1 L Ca g2 L Fa g3 L Ga g4 L Ba).toArray,.bool o]) ?_ ?_
  ·intro wq Na;go_simp
  refine tk 9 (.agg (bp p1 p2 p3 p4 g1 L Ca g2 L Fa g3 L Ga g4 L Ba).toArray) ?_ ?_
  ·intro wq Na;go_simp
  refine tk 10 (.bool o) ?_ ?_
  ·intro wq Na;go_simp
  rotate_left
  all_goals
   refine aX 12 fun Kk hK=>?_;rw[if_pos (by kernel_rfl)];with_reducible refine wp_store_mid 35 (.tmp 5) (.tmp 19) ?_ La 0 (bp p1 p2 p3 p4 g1 L Ca g2 L Fa g3 L Ga g4 L Ba).toArray ?_ ?_ ?_ (by kernel_rfl) (by kernel_rfl) ?_
   ·exact rfl
   ·exact rfl
   ·exact rfl
   ·exact He.o.there 0 8 (by simp)
   have Wc:=Db.o;obtain⟨kM,kZ,kW,kR,kw,kS⟩:=Dd.o _ Wc;have Pc:wq.grownBy (Xa.setCells La 0 (bp p1 p2 p3 p4 g1 L Ca g2 L Fa g3 L Ga g4 L Ba)) (some R):=dF Jd Wc 0 _;have Xb:H9 (au (Xa.setCells La 0 (bp p1 p2 p3 p4 g1 L Ca g2 L Fa g3 L Ga g4 L Ba)) La (bp p1 p2 p3 p4 g1 L Ca g2 L Fa g3 L Ga g4 L Ba)):=He.o.setCells (bp p1 p2 p3 p4 g1 L Ca g2 L Fa g3 L Ga g4 L Ba) 0 (by simp);have Df:H9 (au (Xa.setCells La 0 (bp p1 p2 p3 p4 g1 L Ca g2 L Fa g3 L Ga g4 L Ba)) w.heap.size (co a b c d f k a' b' c' d' f' k')):=au.farCells _ 0 Rf.o kM;have Zb:H9 (au (Xa.setCells La 0 (bp p1 p2 p3 p4 g1 L Ca g2 L Fa g3 L Ga g4 L Ba)) (w.heap.size+1) cI):=au.farCells _ 0 Sf.o kZ;have Ac:H9 (Rd w0 R ca len cap (Xa.setCells La 0 (bp p1 p2 p3 p4 g1 L Ca g2 L Fa g3 L Ga g4 L Ba))):=Tf.o.cells kW kR _;have Yb:H9 (w.grownBy (Xa.setCells La 0 (bp p1 p2 p3 p4 g1 L Ca g2 L Fa g3 L Ga g4 L Ba)) (some R)):=dF Uf.o kw 0 _;have Bc:H9 (aC 2 (Xa.setCells La 0 (bp p1 p2 p3 p4 g1 L Ca g2 L Fa g3 L Ga g4 L Ba)) wq.heap.size g1 L Ca z1):=Vf.o.grownR (a8 (World.grownBy.refl _ _) 0 _) (fun q hq e=>Ze.o q hq (m2 e).symm);have Cc:H9 (aC 2 (Xa.setCells La 0 (bp p1 p2 p3 p4 g1 L Ca g2 L Fa g3 L Ga g4 L Ba)) wq.heap.size g2 L Fa z2):=Wf.o.grownR (a8 (World.grownBy.refl _ _) 0 _) (fun q hq e=>Af.o q hq (m2 e).symm);have Dc:H9 (aC 2 (Xa.setCells La 0 (bp p1 p2 p3 p4 g1 L Ca g2 L Fa g3 L Ga g4 L Ba)) wq.heap.size g3 L Ga z3):=Xf.o.grownR (a8 (World.grownBy.refl _ _) 0 _) (fun q hq e=>Bf.o q hq (m2 e).symm);have Ec:H9 (aC 2 (Xa.setCells La 0 (bp p1 p2 p3 p4 g1 L Ca g2 L Fa g3 L Ga g4 L Ba)) wq.heap.size g4 L Ba z4):=Yf.o.grownR (a8 (World.grownBy.refl _ _) 0 _) (fun q hq e=>Cf.o q hq (m2 e).symm);refine hK.out _ _ Pc (fun hSzz=>?_);clear hK Kk hSzz;generalize(Xa.setCells La 0 (bp p1 p2 p3 p4 g1 L Ca g2 L Fa g3 L Ga g4 L Ba))=wz at Pc Xb Df Zb Ac Yb Bc Cc Dc Ec ⊢;refine tk 13 (.bool o) ?_ ?_
   ·intro wq Na;go_simp
   refine bg ?_;go_simp;clear Pc Wc kM kZ kW kR kw kS;have Ie:H9 _:=Df.o;have Ld:H9 _:=Zb.o;have Nd:H9 _:=Ac.o;have Od:H9 _:=Yb.o;have Je:H9 _:=Bc.o;have Pd:H9 _:=Cc.o;have Qd:H9 _:=Dc.o;have Sd:H9 _:=Ec.o;have Eh:H9 _:=Eg.o;have Fh:H9 _:=Fg.o;have Hg:H9 _:=Db.o;have Ig:H9 _:=Ze.o;have Jg:H9 _:=Af.o;have Kg:H9 _:=Bf.o;have Lg:H9 _:=Cf.o;have Cd:H9 _:=Xb.o;clear Df Zb Ac Yb Bc Cc Dc Ec Xb Eg Uf He Rf Sf Fg Ze Af Bf Cf Vf Wf Xf Yf Db Tf;generalize La=pb at Hg Ig Jg Kg Lg Cd ⊢;revert Cd Lg Kg Jg Ig Hg Fh Eh Sd Qd Pd Je Od Nd Ld Ie;revert wz;revert pb;revert Ba;revert g4;revert z4;revert Ga;revert g3;revert z3;revert Fa;revert g2;revert z2;revert Ca;revert g1;revert z1;revert o;revert L;revert p4;revert p3;revert p2;revert p1;clear v0 v1;revert v;revert y;revert x;exact key
 case h=>
  intro x y v p1 p2 p3 p4 L o z1 g1 Ca z2 g2 Fa z3 g3 Ga z4 g4 Ba pb wz Ie Ld Nd Od Je Pd Qd Sd Eh Fh Hg Ig Jg Kg Lg Cd;have Qf:H9 (au wz w.heap.size (co a b c d f k a' b' c' d' f' k')):=Ie.o;have Bg:H9 (au wz (w.heap.size+1) cI):=Ld.o;have Cg:=Hd Nd.o;have Dg:=Hd Od.o;have Kh:H9 (aC 2 wz wq.heap.size g1 L Ca z1):=Je.o;have Lh:H9 (aC 2 wz wq.heap.size g2 L Fa z2):=Pd.o;have Nh:H9 (aC 2 wz wq.heap.size g3 L Ga z3):=Qd.o;have Oh:H9 (aC 2 wz wq.heap.size g4 L Ba z4):=Sd.o;have Bi:H9 (au wz pb (bp p1 p2 p3 p4 g1 L Ca g2 L Fa g3 L Ga g4 L Ba)):=Cd.o;have Td:=Hd Kh.o.lo;have Ud:=Hd Lh.o.lo;have Vd:=Hd Nh.o.lo;have Wd:=Hd Oh.o.lo;have Li:=Hg.o;obtain⟨kM,kZ,kW,kR,kw,kS⟩:=Dd.o _ Li;have Gj:=Fh.o;clear Ie Ld Nd Od Je Pd Qd Sd Cd Fh Hg;(go_wp2_with fail);refine(bi Lc.o 10 (by decide) (by decide) _ Cg.o).mono ?_;rintro e w2 ⟨v2,u0,u1,rfl,hr,hg⟩;have Ke:=Hd (Qf.o.grown hg Bd);have Ja:=Hd (Bg.o.grown hg Nc);have Qc:=Hd hr;have Rc:=Hd (Dg.o.trans hg);have Fc:=Hd (Kh.o.grownR hg (fun q hq e=>by have:=Td.o q hq;injection e with e;omega));have Jc:=Hd (Lh.o.grownR hg (fun q hq e=>by have:=Ud.o q hq;injection e with e;omega));have Kc:=Hd (Nh.o.grownR hg (fun q hq e=>by have:=Vd.o q hq;injection e with e;omega));have Gc:=Hd (Oh.o.grownR hg (fun q hq e=>by have:=Wd.o q hq;injection e with e;omega));have Ia:=Hd (Bi.o.grown hg kS);clear Qf Bg Cg Dg Kh Lh Nh Oh Bi;clear hg hr;have Ef:∀q,g1=some q→q.block≠w.heap.size+1:=fun q hq=>by have:=Td.o q hq;omega
  have Ff:∀q,g1=some q→w.heap.size≤q.block:=fun q hq=>by have:=Td.o q hq;omega
  have Gf:=Ig.o;have Le:∀q,g2=some q→q.block≠w.heap.size+1:=fun q hq=>by have:=Ud.o q hq;omega
  have Oe:∀q,g2=some q→w.heap.size≤q.block:=fun q hq=>by have:=Ud.o q hq;omega
  have Hf:=Jg.o;have Pe:∀q,g3=some q→q.block≠w.heap.size+1:=fun q hq=>by have:=Vd.o q hq;omega
  have Qe:∀q,g3=some q→w.heap.size≤q.block:=fun q hq=>by have:=Vd.o q hq;omega
  have If:=Kg.o;have Re:∀q,g4=some q→q.block≠w.heap.size+1:=fun q hq=>by have:=Wd.o q hq;omega
  have Se:∀q,g4=some q→w.heap.size≤q.block:=fun q hq=>by have:=Wd.o q hq;omega
  have Te:=Lg.o;clear u0 u1;obtain⟨Ni,Oi,Ci,Hj,Pi,Qi⟩:=Eh.o;by_cases h5:v2=5
  ·
   subst h5;by_cases Ph:L=0
   ·
    have Qh:¬ (0:Int)<(L:Int):=(by omega);clear Ph;have c0:=Ia.c 0;have c1:=Ia.c 1;have c2:=Ia.c 2;have c3:=Ia.c 3;have c4:=Ia.c 4;have c5:=Ia.c 5;have c6:=Ia.c 6;have c7:=Ia.c 7;have y0:=Ja.c 0;have y1:=Ja.c 1;have y2:=Ja.c 2;have y3:=Ja.c 3;have y4:=Ja.c 4;have y5:=Ja.c 5;have y6:=Ja.c 6;have y7:=Ja.c 7;have f0:=Ja.o.fr 0;have f1:=Ja.o.fr 1;have f2:=Ja.o.fr 2;have f3:=Ja.o.fr 3;have f4:=Ja.o.fr 4;have f5:=Ja.o.fr 5;have f6:=Ja.o.fr 6;have f7:=Ja.o.fr 7;have r0:=Ia.o.fr 0;have r1:=Ia.o.fr 1;have r2:=Ia.o.fr 2;have r3:=Ia.o.fr 3;have r4:=Ia.o.fr 4;have r5:=Ia.o.fr 5;have r6:=Ia.o.fr 6;have r7:=Ia.o.fr 7;go_wp2;refine m7 (v:=.agg (bp p1 p2 p3 p4 g1 L Ca g2 L Fa g3 L Ga g4 L Ba).toArray) (by simp[results,results68,go_sem,y0,y1,y2,y3,y4,y5,y6,y7]) rfl ⟨_,_,_,_,_,_,_,z1,_,_,_,z2,_,_,_,z3,_,_,_,z4,⟨rfl,?_,?_,?_,?_,⟨by omega,by omega,by omega,by omega⟩,⟨Ff,Oe,Qe,Se⟩,?_,?_⟩⟩
    ·
     repeat refine aw.setS ?_ Ef
     exact Fc.o.sees
    ·
     repeat refine aw.setS ?_ Le
     exact Jc.o.sees
    ·
     repeat refine aw.setS ?_ Pe
     exact Kc.o.sees
    ·
     repeat refine aw.setS ?_ Re
     exact Gc.o.sees
    ·
     repeat refine Rd.setS ?_ (by omega) (by omega)
     exact Qc.o
    ·
     repeat refine b7 ?_ (by omega)
     exact Rc.o
   have Qh:(0:Int)<(L:Int):=(by omega);have Ri:(L:Int)≤64:=(by omega);obtain⟨gq,Rh,Si,_,_,_⟩:=Fc.o.block (by omega);subst Rh;have c4:=Ia.c 4;(go_wp2_with fail);clear c4;have Qa:m1 w2 w2.drew:=(m5 _ _).drew;have Jb:=Ja.b Qa;have Kb:=Hd (Qc.o.grow Qa);have Eb:=Hd (Rc.o.trans (aB Qa _));have Sc:=Hd (Fc.o.below Qa);have Tc:=Hd (Jc.o.below Qa);have Uc:=Hd (Kc.o.below Qa);have Vc:=Hd (Gc.o.below Qa);have Hc:=Ia.b Qa;clear Qa Ke Ja Qc Rc Fc Jc Kc Gc Ia;refine wp_region_noPanic ?_;refine wp_region_held_drew (S:=fun W=>w.grownBy W (some R)∧W.cell? ⟨pb,4,none⟩=some (.slice (some ⟨gq,0,none⟩) L Ca)) (by kernel_rfl) (⟨Eb.o,Hc.o.at 4⟩) (fun hHeld=>?_);generalize w2.drew=Lb at hHeld Jb Kb Eb Sc Tc Uc Vc Hc ⊢;refine tk 0 (.pointer (some ⟨pb,4,none⟩)) ?_ ?_
   ·intro wq Na;go_simp
   refine tk 1 (.slice (some ⟨gq,0,none⟩) L Ca) ?_ ?_
   ·intro wp Jf;have c0:=Jf.2;go_simp
   refine tk 2 (.pointer (some ⟨R,0,none⟩)) ?_ ?_
   ·intro wq Na;go_simp
   refine tk 3 (.pointer (some ⟨pb,4,none⟩)) ?_ ?_
   ·intro wq Na;go_simp
   refine tk 4 (.slice (some ⟨gq,0,none⟩) L Ca) ?_ ?_
   ·intro wp Jf;have c0:=Jf.2;go_simp
   refine tk 5 (it (L:Int)) ?_ ?_
   ·intro wq Na;go_simp
   refine tk 7 (.pointer (some ⟨R,0,none⟩)) ?_ ?_
   ·intro wq Na;go_simp
   refine aX 6 fun Kk hK=>?_;go_simp;refine(bi Lc.o (L:Int) (by omega) (by omega) _ Kb.o).mono ?_;rintro e Pa ⟨v3,t0,t1,rfl,Yc,Ra⟩;go_simp;have Ng:=Hd (Jb.o.grown Ra Nc);have Og:=Hd Yc;have Kf:=Hd (Eb.o.trans Ra);have Pg:=Hd (Sc.o.grownR Ra (fun q hq e=>by have:=Td.o q hq;injection e with e;omega));have Qg:=Hd (Tc.o.grownR Ra (fun q hq e=>by have:=Ud.o q hq;injection e with e;omega));have Rg:=Hd (Uc.o.grownR Ra (fun q hq e=>by have:=Vd.o q hq;injection e with e;omega));have Sg:=Hd (Vc.o.grownR Ra (fun q hq e=>by have:=Wd.o q hq;injection e with e;omega));have Lf:=Hd (Hc.o.grown Ra kS);have Cb:w.grownBy Pa (some R)∧Pa.cell? ⟨pb,4,none⟩=some (.slice (some ⟨gq,0,none⟩) L Ca):=⟨Kf.o,Lf.o.at 4⟩;refine hK.out _ _ Cb (fun _=>?_);clear hK Kk Ra Jb Kb Eb Sc Tc Uc Vc Hc Yc;refine aX 8 fun Kk hK=>?_;go_simp;refine(dm Lc.o _ Og.o).mono ?_;rintro e Ea ⟨ev,Ti,Ui,rfl,Ic,Oa⟩;go_simp;have Tg:=Hd (Ng.o.grown Oa Nc);have Ug:=Hd Ic;have Nf:=Hd (Kf.o.trans Oa);have Zf:=Hd (Pg.o.grownR Oa (fun q hq e=>by have:=Td.o q hq;injection e with e;omega));have Vg:=Hd (Qg.o.grownR Oa (fun q hq e=>by have:=Ud.o q hq;injection e with e;omega));have Wg:=Hd (Rg.o.grownR Oa (fun q hq e=>by have:=Vd.o q hq;injection e with e;omega));have Ag:=Hd (Sg.o.grownR Oa (fun q hq e=>by have:=Wd.o q hq;injection e with e;omega));have Of:=Hd (Lf.o.grown Oa kS);have Ua:w.grownBy Ea (some R)∧Ea.cell? ⟨pb,4,none⟩=some (.slice (some ⟨gq,0,none⟩) L Ca):=⟨Nf.o,Of.o.at 4⟩;refine hK.out _ _ Ua (fun _=>?_);clear hK Kk Oa Ng Og Kf Pg Qg Rg Sg Lf Ic;have Sh:v3.toNat<L:=(by omega);refine tk 9 (.pointer (some ⟨gq,v3.toNat,none⟩)) ?_ ?_
   ·intro wq Na;go_simp
   obtain⟨Th,Xg,_,_,Yg,Zg⟩:=Zf.o.block (by omega);have Uh:gq=Th:=(by simpa using Xg);subst Uh;have cc:=Yg v3.toNat Sh;have ff:=Zg v3.toNat;clear Yg Zg Xg;refine aX 10 fun Kk hK=>?_;go_simp;have Zb:H9 (au (Ea.setCell ⟨gq,v3.toNat,none⟩ (it ev)) (w.heap.size+1) cI):=Tg.o.far (by omega) _ _;have Ac:H9 (Rd w0 R ca len cap (Ea.setCell ⟨gq,v3.toNat,none⟩ (it ev))):=Rd.setS Ug.o (by omega) (by omega);have Yb:H9 (w.grownBy (Ea.setCell ⟨gq,v3.toNat,none⟩ (it ev)) (some R)):=b7 Nf.o (by omega);have Bc:H9 (aC 2 (Ea.setCell ⟨gq,v3.toNat,none⟩ (it ev)) wq.heap.size (some ⟨gq,0,none⟩) L Ca (z1.set v3.toNat ev)):=Zf.o.set v3.toNat ev;have Cc:H9 (aC 2 (Ea.setCell ⟨gq,v3.toNat,none⟩ (it ev)) wq.heap.size g2 L Fa z2):=Vg.o.other ⟨gq,v3.toNat,none⟩ (fun q hq=>Ne.symm (Ni ⟨gq,0,none⟩ q rfl hq)) _;have Dc:H9 (aC 2 (Ea.setCell ⟨gq,v3.toNat,none⟩ (it ev)) wq.heap.size g3 L Ga z3):=Wg.o.other ⟨gq,v3.toNat,none⟩ (fun q hq=>Ne.symm (Oi ⟨gq,0,none⟩ q rfl hq)) _;have Ec:H9 (aC 2 (Ea.setCell ⟨gq,v3.toNat,none⟩ (it ev)) wq.heap.size g4 L Ba z4):=Ag.o.other ⟨gq,v3.toNat,none⟩ (fun q hq=>Ne.symm (Ci ⟨gq,0,none⟩ q rfl hq)) _;have Xb:H9 (au (Ea.setCell ⟨gq,v3.toNat,none⟩ (it ev)) pb (bp p1 p2 p3 p4 (some ⟨gq,0,none⟩) L Ca g2 L Fa g3 L Ga g4 L Ba)):=Of.o.far (Ne.symm (Gf _ rfl)) _ _;have Pc:w.grownBy (Ea.setCell ⟨gq,v3.toNat,none⟩ (it ev)) (some R)∧(Ea.setCell ⟨gq,v3.toNat,none⟩ (it ev)).cell? ⟨pb,4,none⟩=some (.slice (some ⟨gq,0,none⟩) L Ca):=⟨Yb.o,Xb.o.at 4⟩;refine hK.out _ _ Pc (fun _=>?_);clear hK Kk cc ff Pc Tg Ug Nf Zf Vg Wg Ag Of;generalize(Ea.setCell ⟨gq,v3.toNat,none⟩ (it ev))=wy at Zb Ac Yb Bc Cc Dc Ec Xb ⊢;refine bg ?_;go_simp;have Aa:=Hd Zb.o;have Xd:=Hd Ac.o;have Yd:=Hd Yb.o;have Pf:=Hd Bc.o;have Zd:=Hd Cc.o;have Ae:=Hd Dc.o;have Be:=Hd Ec.o;have Ha:=Hd Xb.o;clear Zb Ac Yb Bc Cc Dc Ec Xb;have c0:=Ha.c 0;have c1:=Ha.c 1;have c2:=Ha.c 2;have c3:=Ha.c 3;have c4:=Ha.c 4;have c5:=Ha.c 5;have c6:=Ha.c 6;have c7:=Ha.c 7;have y0:=Aa.c 0;have y1:=Aa.c 1;have y2:=Aa.c 2;have y3:=Aa.c 3;have y4:=Aa.c 4;have y5:=Aa.c 5;have y6:=Aa.c 6;have y7:=Aa.c 7;have f0:=Aa.o.fr 0;have f1:=Aa.o.fr 1;have f2:=Aa.o.fr 2;have f3:=Aa.o.fr 3;have f4:=Aa.o.fr 4;have f5:=Aa.o.fr 5;have f6:=Aa.o.fr 6;have f7:=Aa.o.fr 7;go_wp2;refine m7 (v:=.agg (bp p1 p2 p3 p4 (some ⟨gq,0,none⟩) L Ca g2 L Fa g3 L Ga g4 L Ba).toArray) (by simp[results,results68,go_sem,y0,y1,y2,y3,y4,y5,y6,y7]) rfl ⟨_,_,_,_,_,_,_,(z1.set v3.toNat ev),_,_,_,z2,_,_,_,z3,_,_,_,z4,⟨rfl,?_,?_,?_,?_,⟨by omega,by omega,by omega,by omega⟩,⟨Ff,Oe,Qe,Se⟩,?_,?_⟩⟩
   ·
    repeat refine aw.setS ?_ Ef
    exact Pf.o.sees
   ·
    repeat refine aw.setS ?_ Le
    exact Zd.o.sees
   ·
    repeat refine aw.setS ?_ Pe
    exact Ae.o.sees
   ·
    repeat refine aw.setS ?_ Re
    exact Be.o.sees
   ·
    repeat refine Rd.setS ?_ (by omega) (by omega)
    exact Xd.o
   ·
    repeat refine b7 ?_ (by omega)
    exact Yd.o
  by_cases h6:v2=6
  ·
   subst h6;by_cases Ph:L=0
   ·
    have Qh:¬ (0:Int)<(L:Int):=(by omega);clear Ph;have c0:=Ia.c 0;have c1:=Ia.c 1;have c2:=Ia.c 2;have c3:=Ia.c 3;have c4:=Ia.c 4;have c5:=Ia.c 5;have c6:=Ia.c 6;have c7:=Ia.c 7;have y0:=Ja.c 0;have y1:=Ja.c 1;have y2:=Ja.c 2;have y3:=Ja.c 3;have y4:=Ja.c 4;have y5:=Ja.c 5;have y6:=Ja.c 6;have y7:=Ja.c 7;have f0:=Ja.o.fr 0;have f1:=Ja.o.fr 1;have f2:=Ja.o.fr 2;have f3:=Ja.o.fr 3;have f4:=Ja.o.fr 4;have f5:=Ja.o.fr 5;have f6:=Ja.o.fr 6;have f7:=Ja.o.fr 7;have r0:=Ia.o.fr 0;have r1:=Ia.o.fr 1;have r2:=Ia.o.fr 2;have r3:=Ia.o.fr 3;have r4:=Ia.o.fr 4;have r5:=Ia.o.fr 5;have r6:=Ia.o.fr 6;have r7:=Ia.o.fr 7;go_wp2;refine m7 (v:=.agg (bp p1 p2 p3 p4 g1 L Ca g2 L Fa g3 L Ga g4 L Ba).toArray) (by simp[results,results68,go_sem,y0,y1,y2,y3,y4,y5,y6,y7]) rfl ⟨_,_,_,_,_,_,_,z1,_,_,_,z2,_,_,_,z3,_,_,_,z4,⟨rfl,?_,?_,?_,?_,⟨by omega,by omega,by omega,by omega⟩,⟨Ff,Oe,Qe,Se⟩,?_,?_⟩⟩
    ·
     repeat refine aw.setS ?_ Ef
     exact Fc.o.sees
    ·
     repeat refine aw.setS ?_ Le
     exact Jc.o.sees
    ·
     repeat refine aw.setS ?_ Pe
     exact Kc.o.sees
    ·
     repeat refine aw.setS ?_ Re
     exact Gc.o.sees
    ·
     repeat refine Rd.setS ?_ (by omega) (by omega)
     exact Qc.o
    ·
     repeat refine b7 ?_ (by omega)
     exact Rc.o
   have Qh:(0:Int)<(L:Int):=(by omega);have Ri:(L:Int)≤64:=(by omega);obtain⟨gq,Rh,Si,_,_,_⟩:=Gc.o.block (by omega);subst Rh;have c7:=Ia.c 7;(go_wp2_with fail);clear c7;have Qa:m1 w2 w2.drew:=(m5 _ _).drew;have Jb:=Ja.b Qa;have Kb:=Hd (Qc.o.grow Qa);have Eb:=Hd (Rc.o.trans (aB Qa _));have Sc:=Hd (Fc.o.below Qa);have Tc:=Hd (Jc.o.below Qa);have Uc:=Hd (Kc.o.below Qa);have Vc:=Hd (Gc.o.below Qa);have Hc:=Ia.b Qa;clear Qa Ke Ja Qc Rc Fc Jc Kc Gc Ia;refine wp_region_noPanic ?_;refine wp_region_held_drew (S:=fun W=>w.grownBy W (some R)∧W.cell? ⟨pb,7,none⟩=some (.slice (some ⟨gq,0,none⟩) L Ba)) (by kernel_rfl) (⟨Eb.o,Hc.o.at 7⟩) (fun hHeld=>?_);generalize w2.drew=Lb at hHeld Jb Kb Eb Sc Tc Uc Vc Hc ⊢;refine tk 0 (.pointer (some ⟨pb,7,none⟩)) ?_ ?_
   ·intro wq Na;go_simp
   refine tk 1 (.slice (some ⟨gq,0,none⟩) L Ba) ?_ ?_
   ·intro wp Jf;have c0:=Jf.2;go_simp
   refine tk 2 (.pointer (some ⟨R,0,none⟩)) ?_ ?_
   ·intro wq Na;go_simp
   refine tk 3 (.pointer (some ⟨pb,7,none⟩)) ?_ ?_
   ·intro wq Na;go_simp
   refine tk 4 (.slice (some ⟨gq,0,none⟩) L Ba) ?_ ?_
   ·intro wp Jf;have c0:=Jf.2;go_simp
   refine tk 5 (it (L:Int)) ?_ ?_
   ·intro wq Na;go_simp
   refine tk 7 (.pointer (some ⟨R,0,none⟩)) ?_ ?_
   ·intro wq Na;go_simp
   refine aX 6 fun Kk hK=>?_;go_simp;refine(bi Lc.o (L:Int) (by omega) (by omega) _ Kb.o).mono ?_;rintro e Pa ⟨v3,t0,t1,rfl,Yc,Ra⟩;go_simp;have Ng:=Hd (Jb.o.grown Ra Nc);have Og:=Hd Yc;have Kf:=Hd (Eb.o.trans Ra);have Pg:=Hd (Sc.o.grownR Ra (fun q hq e=>by have:=Td.o q hq;injection e with e;omega));have Qg:=Hd (Tc.o.grownR Ra (fun q hq e=>by have:=Ud.o q hq;injection e with e;omega));have Rg:=Hd (Uc.o.grownR Ra (fun q hq e=>by have:=Vd.o q hq;injection e with e;omega));have Sg:=Hd (Vc.o.grownR Ra (fun q hq e=>by have:=Wd.o q hq;injection e with e;omega));have Lf:=Hd (Hc.o.grown Ra kS);have Cb:w.grownBy Pa (some R)∧Pa.cell? ⟨pb,7,none⟩=some (.slice (some ⟨gq,0,none⟩) L Ba):=⟨Kf.o,Lf.o.at 7⟩;refine hK.out _ _ Cb (fun _=>?_);clear hK Kk Ra Jb Kb Eb Sc Tc Uc Vc Hc Yc;refine aX 8 fun Kk hK=>?_;go_simp;refine(dm Lc.o _ Og.o).mono ?_;rintro e Ea ⟨ev,Ti,Ui,rfl,Ic,Oa⟩;go_simp;have Tg:=Hd (Ng.o.grown Oa Nc);have Ug:=Hd Ic;have Nf:=Hd (Kf.o.trans Oa);have Zf:=Hd (Pg.o.grownR Oa (fun q hq e=>by have:=Td.o q hq;injection e with e;omega));have Vg:=Hd (Qg.o.grownR Oa (fun q hq e=>by have:=Ud.o q hq;injection e with e;omega));have Wg:=Hd (Rg.o.grownR Oa (fun q hq e=>by have:=Vd.o q hq;injection e with e;omega));have Ag:=Hd (Sg.o.grownR Oa (fun q hq e=>by have:=Wd.o q hq;injection e with e;omega));have Of:=Hd (Lf.o.grown Oa kS);have Ua:w.grownBy Ea (some R)∧Ea.cell? ⟨pb,7,none⟩=some (.slice (some ⟨gq,0,none⟩) L Ba):=⟨Nf.o,Of.o.at 7⟩;refine hK.out _ _ Ua (fun _=>?_);clear hK Kk Oa Ng Og Kf Pg Qg Rg Sg Lf Ic;have Sh:v3.toNat<L:=(by omega);refine tk 9 (.pointer (some ⟨gq,v3.toNat,none⟩)) ?_ ?_
   ·intro wq Na;go_simp
   obtain⟨Th,Xg,_,_,Yg,Zg⟩:=Ag.o.block (by omega);have Uh:gq=Th:=(by simpa using Xg);subst Uh;have cc:=Yg v3.toNat Sh;have ff:=Zg v3.toNat;clear Yg Zg Xg;refine aX 10 fun Kk hK=>?_;go_simp;have Zb:H9 (au (Ea.setCell ⟨gq,v3.toNat,none⟩ (it ev)) (w.heap.size+1) cI):=Tg.o.far (by omega) _ _;have Ac:H9 (Rd w0 R ca len cap (Ea.setCell ⟨gq,v3.toNat,none⟩ (it ev))):=Rd.setS Ug.o (by omega) (by omega);have Yb:H9 (w.grownBy (Ea.setCell ⟨gq,v3.toNat,none⟩ (it ev)) (some R)):=b7 Nf.o (by omega);have Bc:H9 (aC 2 (Ea.setCell ⟨gq,v3.toNat,none⟩ (it ev)) wq.heap.size g1 L Ca z1):=Zf.o.other ⟨gq,v3.toNat,none⟩ (fun q hq=>Ci q ⟨gq,0,none⟩ hq rfl) _;have Cc:H9 (aC 2 (Ea.setCell ⟨gq,v3.toNat,none⟩ (it ev)) wq.heap.size g2 L Fa z2):=Vg.o.other ⟨gq,v3.toNat,none⟩ (fun q hq=>Pi q ⟨gq,0,none⟩ hq rfl) _;have Dc:H9 (aC 2 (Ea.setCell ⟨gq,v3.toNat,none⟩ (it ev)) wq.heap.size g3 L Ga z3):=Wg.o.other ⟨gq,v3.toNat,none⟩ (fun q hq=>Qi q ⟨gq,0,none⟩ hq rfl) _;have Ec:H9 (aC 2 (Ea.setCell ⟨gq,v3.toNat,none⟩ (it ev)) wq.heap.size (some ⟨gq,0,none⟩) L Ba (z4.set v3.toNat ev)):=Ag.o.set v3.toNat ev;have Xb:H9 (au (Ea.setCell ⟨gq,v3.toNat,none⟩ (it ev)) pb (bp p1 p2 p3 p4 g1 L Ca g2 L Fa g3 L Ga (some ⟨gq,0,none⟩) L Ba)):=Of.o.far (Ne.symm (Te _ rfl)) _ _;have Pc:w.grownBy (Ea.setCell ⟨gq,v3.toNat,none⟩ (it ev)) (some R)∧(Ea.setCell ⟨gq,v3.toNat,none⟩ (it ev)).cell? ⟨pb,7,none⟩=some (.slice (some ⟨gq,0,none⟩) L Ba):=⟨Yb.o,Xb.o.at 7⟩;refine hK.out _ _ Pc (fun _=>?_);clear hK Kk cc ff Pc Tg Ug Nf Zf Vg Wg Ag Of;generalize(Ea.setCell ⟨gq,v3.toNat,none⟩ (it ev))=wy at Zb Ac Yb Bc Cc Dc Ec Xb ⊢;refine bg ?_;go_simp;have Aa:=Hd Zb.o;have Xd:=Hd Ac.o;have Yd:=Hd Yb.o;have Pf:=Hd Bc.o;have Zd:=Hd Cc.o;have Ae:=Hd Dc.o;have Be:=Hd Ec.o;have Ha:=Hd Xb.o;clear Zb Ac Yb Bc Cc Dc Ec Xb;have c0:=Ha.c 0;have c1:=Ha.c 1;have c2:=Ha.c 2;have c3:=Ha.c 3;have c4:=Ha.c 4;have c5:=Ha.c 5;have c6:=Ha.c 6;have c7:=Ha.c 7;have y0:=Aa.c 0;have y1:=Aa.c 1;have y2:=Aa.c 2;have y3:=Aa.c 3;have y4:=Aa.c 4;have y5:=Aa.c 5;have y6:=Aa.c 6;have y7:=Aa.c 7;have f0:=Aa.o.fr 0;have f1:=Aa.o.fr 1;have f2:=Aa.o.fr 2;have f3:=Aa.o.fr 3;have f4:=Aa.o.fr 4;have f5:=Aa.o.fr 5;have f6:=Aa.o.fr 6;have f7:=Aa.o.fr 7;go_wp2;refine m7 (v:=.agg (bp p1 p2 p3 p4 g1 L Ca g2 L Fa g3 L Ga (some ⟨gq,0,none⟩) L Ba).toArray) (by simp[results,results68,go_sem,y0,y1,y2,y3,y4,y5,y6,y7]) rfl ⟨_,_,_,_,_,_,_,z1,_,_,_,z2,_,_,_,z3,_,_,_,(z4.set v3.toNat ev),⟨rfl,?_,?_,?_,?_,⟨by omega,by omega,by omega,by omega⟩,⟨Ff,Oe,Qe,Se⟩,?_,?_⟩⟩
   ·
    repeat refine aw.setS ?_ Ef
    exact Pf.o.sees
   ·
    repeat refine aw.setS ?_ Le
    exact Zd.o.sees
   ·
    repeat refine aw.setS ?_ Pe
    exact Ae.o.sees
   ·
    repeat refine aw.setS ?_ Re
    exact Be.o.sees
   ·
    repeat refine Rd.setS ?_ (by omega) (by omega)
    exact Xd.o
   ·
    repeat refine b7 ?_ (by omega)
    exact Yd.o
  by_cases h7:v2=7
  ·
   subst h7;(go_wp2_with fail);refine(dK Lc.o _ Qc.o).mono ?_;rintro e w3 ⟨⟨ex,ey⟩,rfl,hr,hg⟩;have Aa:=Hd (Ja.o.grown hg Nc);have Xd:=Hd hr;have Yd:=Hd (Rc.o.trans hg);have Pf:=Hd (Fc.o.grownR hg (fun q hq e=>by have:=Td.o q hq;injection e with e;omega));have Zd:=Hd (Jc.o.grownR hg (fun q hq e=>by have:=Ud.o q hq;injection e with e;omega));have Ae:=Hd (Kc.o.grownR hg (fun q hq e=>by have:=Vd.o q hq;injection e with e;omega));have Be:=Hd (Gc.o.grownR hg (fun q hq e=>by have:=Wd.o q hq;injection e with e;omega));have Ha:=Hd (Ia.o.grown hg kS);clear Ke Ja Qc Rc Fc Jc Kc Gc Ia;clear hg hr;dsimp only[cM];have c0:=Ha.c 0;have c1:=Ha.c 1;have c2:=Ha.c 2;have c3:=Ha.c 3;have c4:=Ha.c 4;have c5:=Ha.c 5;have c6:=Ha.c 6;have c7:=Ha.c 7;have y0:=Aa.c 0;have y1:=Aa.c 1;have y2:=Aa.c 2;have y3:=Aa.c 3;have y4:=Aa.c 4;have y5:=Aa.c 5;have y6:=Aa.c 6;have y7:=Aa.c 7;have f0:=Aa.o.fr 0;have f1:=Aa.o.fr 1;have f2:=Aa.o.fr 2;have f3:=Aa.o.fr 3;have f4:=Aa.o.fr 4;have f5:=Aa.o.fr 5;have f6:=Aa.o.fr 6;have f7:=Aa.o.fr 7;have r0:=Ha.o.fr 0;have r1:=Ha.o.fr 1;have r2:=Ha.o.fr 2;have r3:=Ha.o.fr 3;have r4:=Ha.o.fr 4;have r5:=Ha.o.fr 5;have r6:=Ha.o.fr 6;have r7:=Ha.o.fr 7;go_wp2;refine m7 (v:=.agg (bp p1 p2 ex ey g1 L Ca g2 L Fa g3 L Ga g4 L Ba).toArray) (by simp[results,results68,go_sem,y0,y1,y2,y3,y4,y5,y6,y7]) rfl ⟨_,_,_,_,_,_,_,z1,_,_,_,z2,_,_,_,z3,_,_,_,z4,⟨rfl,?_,?_,?_,?_,⟨by omega,by omega,by omega,by omega⟩,⟨Ff,Oe,Qe,Se⟩,?_,?_⟩⟩
   ·
    repeat refine aw.setS ?_ Ef
    exact aw.setS ((aw.setS (Pf.o.sees) Gf)) Gf
   ·
    repeat refine aw.setS ?_ Le
    exact aw.setS ((aw.setS (Zd.o.sees) Hf)) Hf
   ·
    repeat refine aw.setS ?_ Pe
    exact aw.setS ((aw.setS (Ae.o.sees) If)) If
   ·
    repeat refine aw.setS ?_ Re
    exact aw.setS ((aw.setS (Be.o.sees) Te)) Te
   ·
    repeat refine Rd.setS ?_ (by omega) (by omega)
    exact Xd.o
   ·
    repeat refine b7 ?_ (by omega)
    exact Yd.o
  by_cases h8:v2=8
  ·
   subst h8;have Vi:w.heap.size+2≤w2.heap.size:=(by have:=Ja.o.2.2;omega);have Ij:=Ia.o.2.2;(go_wp2_with fail);clear Ig Jg Kg Lg Eh;have Wi:=Fc.o.hi;have Di:=fun q hq=>(Dd.o _ (Td.o q hq)).2.2.2.2.2;have Xi:=Jc.o.hi;have Ei:=fun q hq=>(Dd.o _ (Ud.o q hq)).2.2.2.2.2;have Yi:=Kc.o.hi;have Fi:=fun q hq=>(Dd.o _ (Vd.o q hq)).2.2.2.2.2;have Zi:=Gc.o.hi;have Gi:=fun q hq=>(Dd.o _ (Wd.o q hq)).2.2.2.2.2
   have Hi:H9 (∀p,w2.heap.size≤p→w.heap.size≠p∧w.heap.size+1≠p∧pb≠p∧w0.heap.size≤p∧p≠R∧w.heap.size≤p∧some R≠some p):=fun p hp=>by
    have i1:=Ke.o.2.2;have i2:=Ja.o.2.2;have i3:=Ia.o.2.2;exact⟨by omega,by omega,by omega,by omega,by omega,by omega,by simp;omega⟩
   apply pZ
   case f=>
    intro key;refine cB w2 (some R) (by kernel_rfl) fun hHeld=>?_;have Qa:m1 w2 w2.drew:=(m5 _ _).drew;have Xc:=Ke.b Qa;have Jb:=Ja.b Qa;have Kb:=Hd (Qc.o.grow Qa);have Eb:=Hd (Rc.o.trans (aB Qa _));have Sc:=Hd (Fc.o.below Qa);have Tc:=Hd (Jc.o.below Qa);have Uc:=Hd (Kc.o.below Qa);have Vc:=Hd (Gc.o.below Qa);have Hc:=Ia.b Qa;generalize w2.drew=Lb at hHeld Xc Jb Kb Eb Sc Tc Uc Vc Hc ⊢;clear Qa;refine wpAnyH_take (i:=0) (v:=.agg (co a b c d f k a' b' c' d' f' k').toArray) rfl (by kernel_rfl) (by kernel_rfl) (by kernel_rfl) (fun _ _ _ h=>h) (uM (by kernel_rfl) 31 (.tmp 3) rfl w.heap.size 0 rfl (co a b c d f k a' b' c' d' f' k') _ (fun W h=>(Ke.o.grown h Bd).row) underlying31 rfl (by kernel_rfl)) (by assumption) ?_;refine tk 1 (.pointer (some ⟨R,0,none⟩)) ?_ ?_
    ·intro wq Na;go_simp
    refine uT (rs:=[2,7]) (by kernel_rfl) (by simp) ?_;refine uC rfl (fun Kk hK=>?_) (uC rfl (fun Kk hK=>?_) (uJ));go_simp;refine(dK Lc.o _ Kb.o).mono ?_;rintro e Pa ⟨⟨tx,ty⟩,rfl,Yc,Ra⟩;go_simp;have Cb:=hHeld.trans Ra;have Rb:=Hd (Xc.o.grown Ra Bd);have Sb:=Hd (Jb.o.grown Ra Nc);have Tb:=Hd Yc;have Ub:=Hd (Eb.o.trans Ra);have Ue:=Hd (Sc.o.grownR Ra Di);have Ve:=Hd (Tc.o.grownR Ra Ei);have We:=Hd (Uc.o.grownR Ra Fi);have Xe:=Hd (Vc.o.grownR Ra Gi);have Ye:=Hd (Hc.o.grown Ra kS);refine hK.out _ _ Cb (fun _=>?_);clear hK Kk Ra Yc Xc Jb Kb Eb Sc Tc Uc Vc Hc;refine uT (rs:=[3,7]) (by kernel_rfl) (by simp) ?_;refine uC rfl (fun Kk hK=>?_) (uC rfl (fun Kk hK=>?_) (uJ));go_simp;refine(CS.o (tx,ty) 4 _).mono ?_;rintro e Ea ⟨r1,r2,r3,r4,L2,o2,Zc,Vh,Wh,Xh,h1,Sa,h2,Ya,h3,Za,h4,Ab,rfl,hL,⟨q1,q2,q3,q4⟩,Vb,Ad⟩;go_simp;have Ua:=Cb.trans (aB Ad _);have Fb:=Rb.b Ad;have Gb:=Sb.b Ad;have Hb:=Hd (Tb.o.grow Ad);have Ib:=Hd (Ub.o.trans (aB Ad _));have Ce:=Hd (Ue.o.below Ad);have De:=Hd (Ve.o.below Ad);have Ee:=Hd (We.o.below Ad);have Fe:=Hd (Xe.o.below Ad);have Ge:=Ye.b Ad;have Yh:=Hd (q1.mono Cb.size);have Gh:=Hd hL;clear q1 q2 q3 q4 Vb hL;refine hK.out _ _ Ua (fun _=>?_);clear hK Kk Ad Rb Sb Tb Ub Ue Ve We Xe Ye;refine tk 4 (.tuple #[.agg (bp r1 r2 r3 r4 h1 L2 Sa h2 L2 Ya h3 L2 Za h4 L2 Ab).toArray,.bool o2]) ?_ ?_
    ·intro wq Na;go_simp
    refine tk 5 (.agg (bp r1 r2 r3 r4 h1 L2 Sa h2 L2 Ya h3 L2 Za h4 L2 Ab).toArray) ?_ ?_
    ·intro wq Na;go_simp
    refine tk 6 (.bool o2) ?_ ?_
    ·intro wq Na;go_simp
    refine aX 7 fun Kk hK=>?_;rw[if_pos (by kernel_rfl)];refine bL 35 rfl cI.toArray (by kernel_rfl) ?_;have Da:=eK Ea (.cells cI.toArray 35);have Ta:w2.grownBy (Ea.alloc (.cells cI.toArray 35)) (some R):=bj Ua _;have Nb:=Fb.b Da;have Ob:=Gb.b Da;have Pb:=Hd (Hb.o.grow Da);have Qb:=Hd (Ib.o.trans (aB Da _));have Ed:=Hd (Ce.o.below Da);have Fd:=Hd (De.o.below Da);have Gd:=Hd (Ee.o.below Da);have Id:=Hd (Fe.o.below Da);have Ah:=Ge.b Da;have Bh:=Hd (Yh.o.below Da);have Wa:=ct Ea cI 35;have Db:=Hd Ua.size;have Ch:=Hd (fun q hq=>Nat.ne_of_lt (Yh.o.hi q hq));refine hK.out _ _ Ta (fun _=>?_);clear hK Kk Da Fb Gb Hb Ib Ce De Ee Fe Ge Yh;generalize(Ea.alloc (.cells cI.toArray 35))=Ka at Wa Ta Nb Ob Pb Qb Ed Fd Gd Id Ah Bh ⊢;generalize Ea.heap.size=La at Wa Db Ch ⊢
    rotate_left
    rw[if_pos (by kernel_rfl)];refine bL 35 rfl cI.toArray (by kernel_rfl) ?_;have Da:=eK Pa (.cells cI.toArray 35);have Ua:w2.grownBy (Pa.alloc (.cells cI.toArray 35)) (some R):=bj Cb _;have Fb:=Rb.b Da;have Gb:=Sb.b Da;have Hb:=Hd (Tb.o.grow Da);have Ib:=Hd (Ub.o.trans (aB Da _));have Ce:=Hd (Ue.o.below Da);have De:=Hd (Ve.o.below Da);have Ee:=Hd (We.o.below Da);have Fe:=Hd (Xe.o.below Da);have Ge:=Ye.b Da;have Wb:=ct Pa cI 35;have Db:=Hd Cb.size;refine hK.out _ _ Ua (fun _=>?_);clear hK Kk Da Rb Sb Tb Ub Ue Ve We Xe Ye;generalize(Pa.alloc (.cells cI.toArray 35))=Ea at Wb Ua Fb Gb Hb Ib Ce De Ee Fe Ge ⊢;generalize Pa.heap.size=La at Wb Db ⊢;refine aX 3 fun Kk hK=>?_;go_simp;refine(CS.o (tx,ty) 4 _).mono ?_;rintro e Ka ⟨r1,r2,r3,r4,L2,o2,Zc,Vh,Wh,Xh,h1,Sa,h2,Ya,h3,Za,h4,Ab,rfl,hL,⟨q1,q2,q3,q4⟩,Vb,Va⟩;go_simp;have Ta:=Ua.trans (aB Va _);have Nb:=Fb.b Va;have Ob:=Gb.b Va;have Pb:=Hd (Hb.o.grow Va);have Qb:=Hd (Ib.o.trans (aB Va _));have Ed:=Hd (Ce.o.below Va);have Fd:=Hd (De.o.below Va);have Gd:=Hd (Ee.o.below Va);have Id:=Hd (Fe.o.below Va);have Ah:=Ge.b Va;have Wa:=Wb.b Va;have Bh:=Hd (q1.mono Ua.size);have Gh:=Hd hL;have Ch:=Hd (fun q hq=>Nat.ne_of_gt (uL Wb.o.2.2 (q1.lo q hq)));clear q1 q2 q3 q4 Vb hL;refine hK.out _ _ Ta (fun _=>?_);clear hK Kk Va Fb Gb Hb Ib Ce De Ee Fe Ge Wb;refine tk 4 (.tuple #[.agg (bp r1 r2 r3 r4 h1 L2 Sa h2 L2 Ya h3 L2 Za h4 L2 Ab).toArray,.bool o2]) ?_ ?_
    ·intro wq Na;go_simp
    refine tk 5 (.agg (bp r1 r2 r3 r4 h1 L2 Sa h2 L2 Ya h3 L2 Za h4 L2 Ab).toArray) ?_ ?_
    ·intro wq Na;go_simp
    refine tk 6 (.bool o2) ?_ ?_
    ·intro wq Na;go_simp
    rotate_left
    rw[if_pos (by kernel_rfl)];refine bL 35 rfl cI.toArray (by kernel_rfl) ?_;have Da:=eK Lb (.cells cI.toArray 35);have Cb:w2.grownBy (Lb.alloc (.cells cI.toArray 35)) (some R):=bj hHeld _;have Rb:=Xc.b Da;have Sb:=Jb.b Da;have Tb:=Hd (Kb.o.grow Da);have Ub:=Hd (Eb.o.trans (aB Da _));have Ue:=Hd (Sc.o.below Da);have Ve:=Hd (Tc.o.below Da);have We:=Hd (Uc.o.below Da);have Xe:=Hd (Vc.o.below Da);have Ye:=Hc.b Da;have Kd:=ct Lb cI 35;have Db:=Hd hHeld.size;refine hK.out _ _ Cb (fun _=>?_);clear hK Kk Da Xc Jb Kb Eb Sc Tc Uc Vc Hc;generalize(Lb.alloc (.cells cI.toArray 35))=Pa at Kd Cb Rb Sb Tb Ub Ue Ve We Xe Ye ⊢;generalize Lb.heap.size=La at Kd Db ⊢;refine aX 2 fun Kk hK=>?_;go_simp;refine(dK Lc.o _ Tb.o).mono ?_;rintro e Ea ⟨⟨tx,ty⟩,rfl,Ic,Oa⟩;go_simp;have Ua:=Cb.trans Oa;have Fb:=Hd (Rb.o.grown Oa Bd);have Gb:=Hd (Sb.o.grown Oa Nc);have Hb:=Hd Ic;have Ib:=Hd (Ub.o.trans Oa);have Ce:=Hd (Ue.o.grownR Oa Di);have De:=Hd (Ve.o.grownR Oa Ei);have Ee:=Hd (We.o.grownR Oa Fi);have Fe:=Hd (Xe.o.grownR Oa Gi);have Ge:=Hd (Ye.o.grown Oa kS);have Wb:=Hd (Kd.o.grown Oa (Hi.o _ Db.o).2.2.2.2.2.2);refine hK.out _ _ Ua (fun _=>?_);clear hK Kk Oa Ic Rb Sb Tb Ub Ue Ve We Xe Ye Kd;refine aX 3 fun Kk hK=>?_;go_simp;refine(CS.o (tx,ty) 4 _).mono ?_;rintro e Ka ⟨r1,r2,r3,r4,L2,o2,Zc,Vh,Wh,Xh,h1,Sa,h2,Ya,h3,Za,h4,Ab,rfl,hL,⟨q1,q2,q3,q4⟩,Vb,Va⟩;go_simp;have Ta:=Ua.trans (aB Va _);have Nb:=Fb.b Va;have Ob:=Gb.b Va;have Pb:=Hd (Hb.o.grow Va);have Qb:=Hd (Ib.o.trans (aB Va _));have Ed:=Hd (Ce.o.below Va);have Fd:=Hd (De.o.below Va);have Gd:=Hd (Ee.o.below Va);have Id:=Hd (Fe.o.below Va);have Ah:=Ge.b Va;have Wa:=Wb.b Va;have Bh:=Hd (q1.mono Ua.size);have Gh:=Hd hL;have Ch:=Hd (fun q hq=>Nat.ne_of_gt (uL Wb.o.2.2 (q1.lo q hq)));clear q1 q2 q3 q4 Vb hL;refine hK.out _ _ Ta (fun _=>?_);clear hK Kk Va Fb Gb Hb Ib Ce De Ee Fe Ge Wb;refine tk 4 (.tuple #[.agg (bp r1 r2 r3 r4 h1 L2 Sa h2 L2 Ya h3 L2 Za h4 L2 Ab).toArray,.bool o2]) ?_ ?_
    ·intro wq Na;go_simp
    refine tk 5 (.agg (bp r1 r2 r3 r4 h1 L2 Sa h2 L2 Ya h3 L2 Za h4 L2 Ab).toArray) ?_ ?_
    ·intro wq Na;go_simp
    refine tk 6 (.bool o2) ?_ ?_
    ·intro wq Na;go_simp
    rotate_left
    all_goals
     refine aX 8 fun Kk hK=>?_;rw[if_pos (by kernel_rfl)];with_reducible refine wp_store_mid 35 (.tmp 7) (.tmp 67) ?_ La 0 (bp r1 r2 r3 r4 h1 L2 Sa h2 L2 Ya h3 L2 Za h4 L2 Ab).toArray ?_ ?_ ?_ (by kernel_rfl) (by kernel_rfl) ?_
     ·exact rfl
     ·exact rfl
     ·exact rfl
     ·exact Wa.o.there 0 8 (by simp)
     have Wc:=Db.o;obtain⟨lM,lZ,lP,lW,lR,lw,lS⟩:=Hi.o _ Wc;have Pc:w2.grownBy (Ka.setCells La 0 (bp r1 r2 r3 r4 h1 L2 Sa h2 L2 Ya h3 L2 Za h4 L2 Ab)) (some R):=dF Ta Wc 0 _;have Zh:H9 (au (Ka.setCells La 0 (bp r1 r2 r3 r4 h1 L2 Sa h2 L2 Ya h3 L2 Za h4 L2 Ab)) La (bp r1 r2 r3 r4 h1 L2 Sa h2 L2 Ya h3 L2 Za h4 L2 Ab)):=Wa.o.setCells (bp r1 r2 r3 r4 h1 L2 Sa h2 L2 Ya h3 L2 Za h4 L2 Ab) 0 (by simp);have Df:H9 (au (Ka.setCells La 0 (bp r1 r2 r3 r4 h1 L2 Sa h2 L2 Ya h3 L2 Za h4 L2 Ab)) w.heap.size (co a b c d f k a' b' c' d' f' k')):=au.farCells _ 0 Nb.o lM;have Zb:H9 (au (Ka.setCells La 0 (bp r1 r2 r3 r4 h1 L2 Sa h2 L2 Ya h3 L2 Za h4 L2 Ab)) (w.heap.size+1) cI):=au.farCells _ 0 Ob.o lZ;have Xb:H9 (au (Ka.setCells La 0 (bp r1 r2 r3 r4 h1 L2 Sa h2 L2 Ya h3 L2 Za h4 L2 Ab)) pb (bp p1 p2 p3 p4 g1 L Ca g2 L Fa g3 L Ga g4 L Ba)):=au.farCells _ 0 Ah.o lP;have Ac:H9 (Rd w0 R ca len cap (Ka.setCells La 0 (bp r1 r2 r3 r4 h1 L2 Sa h2 L2 Ya h3 L2 Za h4 L2 Ab))):=Pb.o.cells lW lR _;have Yb:H9 (w.grownBy (Ka.setCells La 0 (bp r1 r2 r3 r4 h1 L2 Sa h2 L2 Ya h3 L2 Za h4 L2 Ab)) (some R)):=dF Qb.o lw 0 _;have Bc:H9 (aC 2 (Ka.setCells La 0 (bp r1 r2 r3 r4 h1 L2 Sa h2 L2 Ya h3 L2 Za h4 L2 Ab)) wq.heap.size g1 L Ca z1):=Ed.o.grownR (a8 (World.grownBy.refl _ _) 0 _) (fun q hq e=>Nat.lt_irrefl _ (uL (Wi q hq) (m8 Wc (Nat.le_of_eq (m2 e)))));have Cc:H9 (aC 2 (Ka.setCells La 0 (bp r1 r2 r3 r4 h1 L2 Sa h2 L2 Ya h3 L2 Za h4 L2 Ab)) wq.heap.size g2 L Fa z2):=Fd.o.grownR (a8 (World.grownBy.refl _ _) 0 _) (fun q hq e=>Nat.lt_irrefl _ (uL (Xi q hq) (m8 Wc (Nat.le_of_eq (m2 e)))));have Dc:H9 (aC 2 (Ka.setCells La 0 (bp r1 r2 r3 r4 h1 L2 Sa h2 L2 Ya h3 L2 Za h4 L2 Ab)) wq.heap.size g3 L Ga z3):=Gd.o.grownR (a8 (World.grownBy.refl _ _) 0 _) (fun q hq e=>Nat.lt_irrefl _ (uL (Yi q hq) (m8 Wc (Nat.le_of_eq (m2 e)))));have Ec:H9 (aC 2 (Ka.setCells La 0 (bp r1 r2 r3 r4 h1 L2 Sa h2 L2 Ya h3 L2 Za h4 L2 Ab)) wq.heap.size g4 L Ba z4):=Id.o.grownR (a8 (World.grownBy.refl _ _) 0 _) (fun q hq e=>Nat.lt_irrefl _ (uL (Zi q hq) (m8 Wc (Nat.le_of_eq (m2 e)))));have Ai:H9 (aC 2 (Ka.setCells La 0 (bp r1 r2 r3 r4 h1 L2 Sa h2 L2 Ya h3 L2 Za h4 L2 Ab)) w2.heap.size h1 L2 Sa Zc):=Bh.o.grownR (a8 (World.grownBy.refl _ _) 0 _) (fun q hq e=>Ch.o q hq (m2 e).symm);refine hK.out _ _ Pc (fun hSzz=>?_);clear hK Kk hSzz;generalize(Ka.setCells La 0 (bp r1 r2 r3 r4 h1 L2 Sa h2 L2 Ya h3 L2 Za h4 L2 Ab))=wx at Pc Zh Df Zb Xb Ac Yb Bc Cc Dc Ec Ai ⊢;refine tk 9 (.bool o2) ?_ ?_
     ·intro wq Na;go_simp
     refine bg ?_;go_simp;clear Pc lM lZ lP lW lR lw lS;have Ie:H9 _:=Df.o;have Ld:H9 _:=Zb.o;have Cd:H9 _:=Xb.o;have Nd:H9 _:=Ac.o;have Od:H9 _:=Yb.o;have Je:H9 _:=Bc.o;have Pd:H9 _:=Cc.o;have Qd:H9 _:=Dc.o;have Sd:H9 _:=Ec.o;have Hh:H9 _:=Ai.o;have Ih:H9 _:=Gh.o;have Dh:H9 _:=Zh.o;have Jh:H9 _:=Wc;clear Wc;clear Zh Df Zb Xb Ac Yb Bc Cc Dc Ec Ai Qb Wa Nb Ah Ob Gh Ch Ed Fd Gd Id Db Bh Pb;generalize La=qb at Jh Dh ⊢;revert Jh Dh Ih Hh Sd Qd Pd Je Od Nd Cd Ld Ie;revert wx;revert qb;revert Ab;revert h4;revert Za;revert h3;revert Ya;revert h2;revert Sa;revert h1;clear Vh Wh Xh;revert Zc;revert o2;revert L2;revert r4;revert r3;revert r2;revert r1;revert ty;revert tx;exact key
   case h=>
    intro tx ty r1 r2 r3 r4 L2 o2 Zc h1 Sa h2 Ya h3 Za h4 Ab qb wx Ie Ld Cd Nd Od Je Pd Qd Sd Hh Ih Jh Dh;clear Ke Ja Qc Rc Fc Jc Kc Gc Ia;have Aa:H9 (au wx (w.heap.size+1) cI):=Ld.o;have Ha:H9 (au wx pb (bp p1 p2 p3 p4 g1 L Ca g2 L Fa g3 L Ga g4 L Ba)):=Cd.o;have Xd:=Hd Nd.o;have Yd:=Hd Od.o;have Zd:H9 (aC 2 wx wq.heap.size g2 L Fa z2):=Pd.o;have Ae:H9 (aC 2 wx wq.heap.size g3 L Ga z3):=Qd.o;have Be:H9 (aC 2 wx wq.heap.size g4 L Ba z4):=Sd.o;have Ii:H9 (aC 2 wx w2.heap.size h1 L2 Sa Zc):=Hh.o;have Aj:H9 (au wx qb (bp r1 r2 r3 r4 h1 L2 Sa h2 L2 Ya h3 L2 Za h4 L2 Ab)):=Dh.o;have Jj:=Ih.o;have LH:=Ii.o.lo;have Kj:=Vi;have Bj:∀q,h1=some q→q.block≠w.heap.size+1:=fun q hq=>by have:=LH q hq;omega
    have Cj:∀q,h1=some q→q.block≠pb:=fun q hq=>by have:=LH q hq;omega
    have Dj:∀q,h1=some q→w.heap.size≤q.block:=fun q hq=>by have:=LH q hq;omega
    clear Ie Ld Cd Nd Od Je Pd Qd Sd Hh Ih Dh Jh;have c0:=Ha.c 0;have c1:=Ha.c 1;have c2:=Ha.c 2;have c3:=Ha.c 3;have c4:=Ha.c 4;have c5:=Ha.c 5;have c6:=Ha.c 6;have c7:=Ha.c 7;have y0:=Aa.c 0;have y1:=Aa.c 1;have y2:=Aa.c 2;have y3:=Aa.c 3;have y4:=Aa.c 4;have y5:=Aa.c 5;have y6:=Aa.c 6;have y7:=Aa.c 7;have f0:=Aa.o.fr 0;have f1:=Aa.o.fr 1;have f2:=Aa.o.fr 2;have f3:=Aa.o.fr 3;have f4:=Aa.o.fr 4;have f5:=Aa.o.fr 5;have f6:=Aa.o.fr 6;have f7:=Aa.o.fr 7;have r0:=Ha.o.fr 0;have r1:=Ha.o.fr 1;have r2:=Ha.o.fr 2;have r3:=Ha.o.fr 3;have r4:=Ha.o.fr 4;have r5:=Ha.o.fr 5;have r6:=Ha.o.fr 6;have r7:=Ha.o.fr 7;have q4:=Aj.c 4;go_wp2;refine m7 (v:=.agg (bp p1 p2 p3 p4 h1 L2 Sa g2 L Fa g3 L Ga g4 L Ba).toArray) (by simp[results,results68,go_sem,y0,y1,y2,y3,y4,y5,y6,y7]) rfl ⟨_,_,_,_,_,_,_,Zc,_,_,_,z2,_,_,_,z3,_,_,_,z4,⟨rfl,?_,?_,?_,?_,⟨by omega,by omega,by omega,by omega⟩,⟨Dj,Oe,Qe,Se⟩,?_,?_⟩⟩
    ·
     repeat refine aw.setS ?_ Bj
     exact aw.setS (Ii.o.sees) Cj
    ·
     repeat refine aw.setS ?_ Le
     exact aw.setS (Zd.o.sees) Hf
    ·
     repeat refine aw.setS ?_ Pe
     exact aw.setS (Ae.o.sees) If
    ·
     repeat refine aw.setS ?_ Re
     exact aw.setS (Be.o.sees) Te
    ·
     repeat refine Rd.setS ?_ (by omega) (by omega)
     exact Xd.o
    ·
     repeat refine b7 ?_ (by omega)
     exact Yd.o
  by_cases h9:v2=9
  ·
   subst h9;have d2:=Ia.c 2;have d3:=Ia.c 3;have Da:=eK w2 (.cells #[it p3,it p4] 33);have Aa:=Ja.b Da;have Xd:=Hd (Qc.o.grow Da);have Yd:=Hd (Rc.o.trans (aB Da _));have Pf:=Hd (Fc.o.below Da);have Zd:=Hd (Jc.o.below Da);have Ae:=Hd (Kc.o.below Da);have Be:=Hd (Gc.o.below Da);have Ha:=Ia.b Da;clear Ke Ja Qc Rc Fc Jc Kc Gc Ia;clear Da;have Ji:=ct w2 [it p3,it p4] 33;have c0:=Ha.c 0;have c1:=Ha.c 1;have c2:=Ha.c 2;have c3:=Ha.c 3;have c4:=Ha.c 4;have c5:=Ha.c 5;have c6:=Ha.c 6;have c7:=Ha.c 7;have y0:=Aa.c 0;have y1:=Aa.c 1;have y2:=Aa.c 2;have y3:=Aa.c 3;have y4:=Aa.c 4;have y5:=Aa.c 5;have y6:=Aa.c 6;have y7:=Aa.c 7;have f0:=Aa.o.fr 0;have f1:=Aa.o.fr 1;have f2:=Aa.o.fr 2;have f3:=Aa.o.fr 3;have f4:=Aa.o.fr 4;have f5:=Aa.o.fr 5;have f6:=Aa.o.fr 6;have f7:=Aa.o.fr 7;have r0:=Ha.o.fr 0;have r1:=Ha.o.fr 1;have r2:=Ha.o.fr 2;have r3:=Ha.o.fr 3;have r4:=Ha.o.fr 4;have r5:=Ha.o.fr 5;have r6:=Ha.o.fr 6;have r7:=Ha.o.fr 7;have n0:=Ji.c 0;have n1:=Ji.c 1;go_wp2;refine m7 (v:=.agg (bp p3 p4 p1 p2 g1 L Ca g2 L Fa g3 L Ga g4 L Ba).toArray) (by simp[results,results68,go_sem,y0,y1,y2,y3,y4,y5,y6,y7]) rfl ⟨_,_,_,_,_,_,_,z1,_,_,_,z2,_,_,_,z3,_,_,_,z4,⟨rfl,?_,?_,?_,?_,⟨by omega,by omega,by omega,by omega⟩,⟨Ff,Oe,Qe,Se⟩,?_,?_⟩⟩
   ·
    repeat refine aw.setS ?_ Ef
    exact aw.setS ((aw.setS ((aw.setS ((aw.setS (Pf.o.sees) Gf)) Gf)) Gf)) Gf
   ·
    repeat refine aw.setS ?_ Le
    exact aw.setS ((aw.setS ((aw.setS ((aw.setS (Zd.o.sees) Hf)) Hf)) Hf)) Hf
   ·
    repeat refine aw.setS ?_ Pe
    exact aw.setS ((aw.setS ((aw.setS ((aw.setS (Ae.o.sees) If)) If)) If)) If
   ·
    repeat refine aw.setS ?_ Re
    exact aw.setS ((aw.setS ((aw.setS ((aw.setS (Be.o.sees) Te)) Te)) Te)) Te
   ·
    repeat refine Rd.setS ?_ (by omega) (by omega)
    exact Xd.o
   ·
    repeat refine b7 ?_ (by omega)
    exact Yd.o
  have e5:(v2==5)=false:=(by simp[h5]);have e6:(v2==6)=false:=(by simp[h6]);have e7:(v2==7)=false:=(by simp[h7]);have e8:(v2==8)=false:=(by simp[h8]);have e9:(v2==9)=false:=(by simp[h9]);clear h5 h6 h7 h8 h9;have c0:=Ia.c 0;have c1:=Ia.c 1;have c2:=Ia.c 2;have c3:=Ia.c 3;have c4:=Ia.c 4;have c5:=Ia.c 5;have c6:=Ia.c 6;have c7:=Ia.c 7;have y0:=Ja.c 0;have y1:=Ja.c 1;have y2:=Ja.c 2;have y3:=Ja.c 3;have y4:=Ja.c 4;have y5:=Ja.c 5;have y6:=Ja.c 6;have y7:=Ja.c 7;have f0:=Ja.o.fr 0;have f1:=Ja.o.fr 1;have f2:=Ja.o.fr 2;have f3:=Ja.o.fr 3;have f4:=Ja.o.fr 4;have f5:=Ja.o.fr 5;have f6:=Ja.o.fr 6;have f7:=Ja.o.fr 7;have r0:=Ia.o.fr 0;have r1:=Ia.o.fr 1;have r2:=Ia.o.fr 2;have r3:=Ia.o.fr 3;have r4:=Ia.o.fr 4;have r5:=Ia.o.fr 5;have r6:=Ia.o.fr 6;have r7:=Ia.o.fr 7;go_wp2;refine m7 (v:=.agg (bp p1 p2 p3 p4 g1 L Ca g2 L Fa g3 L Ga g4 L Ba).toArray) (by simp[results,results68,go_sem,y0,y1,y2,y3,y4,y5,y6,y7]) rfl ⟨_,_,_,_,_,_,_,z1,_,_,_,z2,_,_,_,z3,_,_,_,z4,⟨rfl,?_,?_,?_,?_,⟨by omega,by omega,by omega,by omega⟩,⟨Ff,Oe,Qe,Se⟩,?_,?_⟩⟩
  ·
   repeat refine aw.setS ?_ Ef
   exact Fc.o.sees
  ·
   repeat refine aw.setS ?_ Le
   exact Jc.o.sees
  ·
   repeat refine aw.setS ?_ Pe
   exact Kc.o.sees
  ·
   repeat refine aw.setS ?_ Re
   exact Gc.o.sees
  ·
   repeat refine Rd.setS ?_ (by omega) (by omega)
   exact Qc.o
  ·
   repeat refine b7 ?_ (by omega)
   exact Rc.o
theorem aP(w:World):aw w none 0 0 []:=(show aC 2 w 0 none 0 0 []from World.ownsRow_nil _ _ _ _).sees
structure un(G:Prop) where
 p0:Prop
 p1:Prop
 p2:Prop
 p3:Prop
 p4:Prop
 p5:Prop
 p6:Prop
 p7:Prop
 p8:Prop
 h:mT p0→mT p1→mT p2→mT p3→mT p4→mT p5→mT p6→mT p7→mT p8→G
def sH(w0 w:World)(R:Nat)(ca:Option Addr)(len cap:Nat)(e:Ending)(W:World):Prop:=∃(t' id s' l' tr m0 I J Q V T Y Z L U A B t1 t2 p1 p2 p3 p4:Int) (a1 a2 a3 a4:Option Addr) (n1 n2 n3 n4 c1 c2 c3 c4:Nat) (z1 z2 z3 z4:List Int),
 e=.returned (.agg #[.int .i64 t',.int .i64 id,.int .i64 s',.int .i64 l',.int .i64 tr,.int .i64 m0,.int .i64 I,.int .i64 J,.int .i64 Q,.int .i64 V,.int .i64 T,.int .i64 Y,.int .i64 Z,.int .i64 L,.int .i64 U,.int .i64 A,.int .i64 B,.int .i64 t1,.int .i64 t2,.int .i64 p1,.int .i64 p2,.int .i64 p3,.int .i64 p4,.slice a1 n1 c1,.slice a2 n2 c2,.slice a3 n3 c3,.slice a4 n4 c4])∧(aw W a1 n1 c1 z1∧aw W a2 n2 c2 z2∧aw W a3 n3 c3 z3∧aw W a4 n4 c4 z4)∧(n1≤64∧n2≤64∧n3≤64∧n4≤64)∧
 ((∀q,a1=some q→w.heap.size≤q.block)∧(∀q,a2=some q→w.heap.size≤q.block)∧(∀q,a3=some q→w.heap.size≤q.block)∧(∀q,a4=some q→w.heap.size≤q.block))∧Rd w0 R ca len cap W∧w.grownBy W (some R)
def nY:Prop:=∀(w0:World) (R:Nat) (ca:Option Addr) (len cap:Nat) (zs:List Int) (_:Row .u8 w0 ca len cap zs) (i':Nat) (ab aj:Option Addr) (nb cb nj cj:Nat) (bs:List Int) (qs:List MQ) (now uB:Int) (w:World) (_:aV w i' ab nb cb bs aj nj cj qs) (_:R<i') (_:∀q∈qs,0≤q.1.rows∧q.1.rows≤16∧q.1.ts.length≤8) (_:nj≤6) (_:Rd w0 R ca len cap w),
  Calls prog 35 #[.pointer (some ⟨R,0,none⟩),.agg #[.int .i64 now,.int .i64 uB,.slice ab nb cb,.slice aj nj cj]] w (sH w0 w R ca len cap)
set_option maxRecDepth 10000 in
def cz:un nY:=by
 apply un.mk
 case h=>
  intro key0 key1 key2 key3 key4 key5 key6 key7 key8 w0 R ca Da Ea zs Eb Fa ab aj nb cb nj cj bs qs Aa Ba w H Ka hj La h;have Ca:=Hd Eb;have HJ:=Hd hj;have Na:=h.hi;have Oa:=h.below.size;have Ga:=fun g hg=>(H.lt g hg).2;have Ha:m1 w ((w.alloc (.cells (aI Aa Ba ab nb cb aj nj cj).toArray 27)).alloc (.cells (bM 0).toArray 37)):=((m5 _ _).alloc (m3 _) _).alloc (by simp) _;have Fb:H9 (au ((w.alloc (.cells (aI Aa Ba ab nb cb aj nj cj).toArray 27)).alloc (.cells (bM 0).toArray 37)) w.heap.size (aI Aa Ba ab nb cb aj nj cj)):=(aO _ _ _).alloc _;have Gb:H9 (au ((w.alloc (.cells (aI Aa Ba ab nb cb aj nj cj).toArray 27)).alloc (.cells (bM 0).toArray 37)) (w.heap.size+1) (bM 0)):=ba _ _ _ _;have Hb:H9 (Rd w0 R ca Da Ea ((w.alloc (.cells (aI Aa Ba ab nb cb aj nj cj).toArray 27)).alloc (.cells (bM 0).toArray 37))):=(h.alloc _).alloc _;have Ib:H9 (w.grownBy ((w.alloc (.cells (aI Aa Ba ab nb cb aj nj cj).toArray 27)).alloc (.cells (bM 0).toArray 37)) (some R)):=aB Ha _;have Bb:=Hd (H.below Ha);have Pa:((w.alloc (.cells (aI Aa Ba ab nb cb aj nj cj).toArray 27)).alloc (.cells (bM 0).toArray 37)).heap.size=w.heap.size+2:=(by simp);clear Ha h Eb hj H;go_enter func35,ntmps35;(go_wp2_with fail);generalize((w.alloc (.cells (aI Aa Ba ab nb cb aj nj cj).toArray 27)).alloc (.cells (bM 0).toArray 37))=wq at *;refine(bi Ca.o 3 (by decide) (by decide) _ Hb.o).mono ?_;rintro e w1 ⟨v,v0,v1,rfl,hr,hg⟩;have Jb:=Hd (Fb.o.grown hg (by simp;omega));have Cb:=Hd (Gb.o.grown hg (by simp;omega));have Kb:=Hd hr;have Lb:=Hd (Ib.o.trans hg);have Nb:=Hd (Bb.o.grown hg (fun g hg e=>by have:=(Bb.o.lt g hg).1;have:=m2 e;omega));clear Fb Gb Hb Ib Bb;clear hg hr;have Ia:IntKind.i64.wrap (1+v)=1+v:=(by rw[uQ];omega);generalize Qa:1+v=wk at Ia;have Ja:w.heap.size+2≤w1.heap.size:=(by have:=Cb.o;have:=this.2.2;omega);(go_wp2_with(with_reducible refine aA 5 ?_ ?_;rfl));show wpList _ _ _ _ _ _;have Ob:(Instr.alloc 37 true (.tuple #[])).run prog w1=.ok (.pointer (some ⟨w1.heap.size,0,none⟩)) (w1.alloc (.cells (bM 0).toArray 37)):=(by kernel_rfl);with_reducible refine bF ?qg 37 ?qo (bM 0).toArray Ob ?_
  case qg | qo=>exact rfl
  clear Ob;show wpList _ _ _ _ _ _;with_reducible refine Hx (fq 37 w1.heap.size 0 (bM wk) ?q6 ?q5 ?_)
  case q6=>exact(aO _ _ _).there _ 27 (by simp)
  case q5=>exact⟨rfl,by kernel_rfl,by kernel_rfl,_,_,rfl,by kernel_rfl,by kernel_rfl⟩
  have Ha:m1 w1 ((w1.alloc (.cells (bM 0).toArray 37)).setCells w1.heap.size 0 (bM wk)):=aM _ _ ((m5 _ _).alloc (m3 _) _) (m3 _);have Pb:=Jb.b Ha;have Qb:=Cb.b Ha;have Rb:=Hd (Kb.o.grow Ha);have Sb:=Hd (Lb.o.trans (aB Ha _));have Db:=Hd (Nb.o.below Ha);clear Jb Cb Kb Lb Nb;clear Ha;have Ab:H9 (au ((w1.alloc (.cells (bM 0).toArray 37)).setCells w1.heap.size 0 (bM wk)) w1.heap.size (bM wk)):=(aO w1 (bM 0).toArray 37).setCells (bM wk) 0 (by simp);generalize((w1.alloc (.cells (bM 0).toArray 37)).setCells w1.heap.size 0 (bM wk))=w2 at *;generalize w1.heap.size=ac at Ab Ja ⊢;have Ra:R<ac:=(by omega);have Sa:=Ab.o.2.2;have Ta:=Hd Ga;(go_wp2_with fail);refine(bi Ca.o 9 (by decide) (by decide) _ Rb.o).mono ?_;rintro e w3 ⟨x,x0,x9,rfl,hr,hg⟩;have Ua:=Hd (Pb.o.grown hg (by simp;omega));have Va:=Hd (Qb.o.grown hg (by simp;omega));have Wa:=Hd hr;have Xa:=Hd (Sb.o.trans hg);have Ya:=Hd (Db.o.grown hg (fun g hg e=>by have:=(Db.o.lt g hg).1;have:=m2 e;omega));have Za:=Hd (Ab.o.grown hg (by simp;omega));clear Pb Qb Rb Sb Db Ab;clear hg hr;obtain rfl | rfl | rfl | rfl | rfl | rfl | rfl | rfl | rfl:x=0∨x=1∨x=2∨x=3∨x=4∨x=5∨x=6∨x=7∨x=8:=by omega
  all_goals clear x0 x9
  ·
   rename_i Tb Ub Vb Wb Xb Yb;revert w0 R ca Da Ea zs Fa ab aj nb cb nj cj bs qs Aa Ba w Ka La Ca HJ Na Oa Ga wq Pa w1 v v0 v1 wk Qa Ia w2 ac Ja Ra Sa Ta Tb Ub Vb Wb Xb Yb w3 Ua Va Wa Xa Ya Za;exact key0.out
  ·
   rename_i Zb Ac Bc Cc Dc Ec;revert w0 R ca Da Ea zs Fa ab aj nb cb nj cj bs qs Aa Ba w Ka La Ca HJ Na Oa Ga wq Pa w1 v v0 v1 wk Qa Ia w2 ac Ja Ra Sa Ta Zb Ac Bc Cc Dc Ec w3 Ua Va Wa Xa Ya Za;exact key1.out
  ·
   rename_i Fc Gc Hc Ic Jc Kc;revert w0 R ca Da Ea zs Fa ab aj nb cb nj cj bs qs Aa Ba w Ka La Ca HJ Na Oa Ga wq Pa w1 v v0 v1 wk Qa Ia w2 ac Ja Ra Sa Ta Fc Gc Hc Ic Jc Kc w3 Ua Va Wa Xa Ya Za;exact key2.out
  ·
   rename_i Lc Nc Oc Pc Qc Rc;revert w0 R ca Da Ea zs Fa ab aj nb cb nj cj bs qs Aa Ba w Ka La Ca HJ Na Oa Ga wq Pa w1 v v0 v1 wk Qa Ia w2 ac Ja Ra Sa Ta Lc Nc Oc Pc Qc Rc w3 Ua Va Wa Xa Ya Za;exact key3.out
  ·
   rename_i Sc Tc Uc Vc Wc Xc;revert w0 R ca Da Ea zs Fa ab aj nb cb nj cj bs qs Aa Ba w Ka La Ca HJ Na Oa Ga wq Pa w1 v v0 v1 wk Qa Ia w2 ac Ja Ra Sa Ta Sc Tc Uc Vc Wc Xc w3 Ua Va Wa Xa Ya Za;exact key4.out
  ·
   rename_i Yc Zc Ad Bd Cd Dd;revert w0 R ca Da Ea zs Fa ab aj nb cb nj cj bs qs Aa Ba w Ka La Ca HJ Na Oa Ga wq Pa w1 v v0 v1 wk Qa Ia w2 ac Ja Ra Sa Ta Yc Zc Ad Bd Cd Dd w3 Ua Va Wa Xa Ya Za;exact key5.out
  ·
   rename_i Ed Fd Gd Id Jd Kd;revert w0 R ca Da Ea zs Fa ab aj nb cb nj cj bs qs Aa Ba w Ka La Ca HJ Na Oa Ga wq Pa w1 v v0 v1 wk Qa Ia w2 ac Ja Ra Sa Ta Ed Fd Gd Id Jd Kd w3 Ua Va Wa Xa Ya Za;exact key6.out
  ·
   rename_i Ld Nd Od Pd Qd Sd;revert w0 R ca Da Ea zs Fa ab aj nb cb nj cj bs qs Aa Ba w Ka La Ca HJ Na Oa Ga wq Pa w1 v v0 v1 wk Qa Ia w2 ac Ja Ra Sa Ta Ld Nd Od Pd Qd Sd w3 Ua Va Wa Xa Ya Za;exact key7.out
  ·
   rename_i Td Ud Vd Wd Xd Yd;revert w0 R ca Da Ea zs Fa ab aj nb cb nj cj bs qs Aa Ba w Ka La Ca HJ Na Oa Ga wq Pa w1 v v0 v1 wk Qa Ia w2 ac Ja Ra Sa Ta Td Ud Vd Wd Xd Yd w3 Ua Va Wa Xa Ya Za;exact key8.out
def df:HJ:=⟨M.j0,0,none,0⟩
theorem dg(hi:i<qs.length):qs.getD i df∈qs:=M.getD_mem hi
theorem fF{α β:Type}(f:α→β)(d:α){qs:List α}{q:α}(h:f q=f (qs.getD i d))(hi:i<qs.length):(qs.set i q).map f=qs.map f:=by
 rw[List.map_set,h,m4,m6 hi];show(qs.map f).set i (f qs[i])=_;rw[←List.getElem_map f (h:=by simpa using hi),List.set_getElem_self]
section
variable {w w':World} {i' h:Nat} {now uB:Int} {ab:Option Addr} {nb cb:Nat} {bs:List Int} {ai:Option Addr} {ni ci:Nat} {mb:Nat} {qs:List HJ}
theorem bh.upd(H:bh w i' h now uB ab nb cb bs ai ni ci mb qs)(hi:i<qs.length)(q':HJ){row:Option Nat}(hid:q'.j.id=(qs.getD i df).j.id)(hb:q'.b=(qs.getD i df).b)(ha:q'.a=(qs.getD i df).a)
 (hg:w.grownBy w' row)(hr:∀g,row=some g→g∈(qs.getD i df).bl)(hL:au w' q'.b q'.vs)(hO:bw w' i' q'.a q'.j.ts.length q'.c q'.j.ts):bh w' i' h now uB ab nb cb bs ai ni ci mb (qs.set i q'):=by
 obtain⟨⟨hm,Pa,Qa,Da⟩,⟨Ra,Sa,Ea⟩,Fa,Ga,Ha⟩:=bT.1 H.d;have Aa:=fun g e=>uO.2 ⟨_,dg hi,hr g e⟩;have Ia:q'.bl=(qs.getD i df).bl:=(by unfold HJ.bl;rw[hb,ha]);have Ja:=dq HJ.bl df qs i q' Ia hi;have Ba:di h mb ab ai (qs.set i q')=di h mb ab ai qs:=(by unfold di;rw[Ja]);have Ka:=fF HJ.ent df (by unfold HJ.ent;rw[hid,hb]) hi;have La:(qs.set i q').map (fun q:HJ=>q.j.id)=qs.map (fun q:HJ=>q.j.id):=fF _ df hid hi;refine⟨H.l.grown hg fun e=>Da (Aa _ e),H.b.grown hg fun g hg' e=>(Fa g hg').2 (Aa _ e),?_,?_,?_,by rw[Ba];exact H.d,by rw[Ba];exact H.lo⟩
 ·rw[La];exact H.i.grown hg fun g hg' e=>Ga g hg' (Aa _ e)
 ·rw[Ka];exact H.m.grown hg fun e=>Ea (Aa _ e)
 ·
  intro q hq
  rcases dP (d:=df) hq with rfl | ⟨k,h3,h4,rfl⟩
  ·exact⟨hL,hO⟩
  ·
   obtain⟨Na,Oa⟩:=H.j _ (dg h4);have Ca:∀g∈(qs.getD k df).bl,row≠some g:=fun g hg' e=>ie (f:=HJ.bl) (d:=df) Ha hi h4 h3 g (hr g e) hg';exact⟨Na.grown hg (Ca _ (by simp[HJ.bl])),Oa.grown hg fun g hg'=>Ca g (by unfold HJ.bl;exact List.mem_cons_of_mem _ hg')⟩
theorem bh.tasks(H:bh w i' h now uB ab nb cb bs ai ni ci mb qs)(hi:i<qs.length)(hl:ts.length=(qs.getD i df).j.ts.length)(hg:w.grownBy w' (Value.slice (qs.getD i df).a n c).ownBlock)
 (hO:bw w' i' (qs.getD i df).a ts.length (qs.getD i df).c ts):bh w' i' h now uB ab nb cb bs ai ni ci mb (qs.set i ⟨{(qs.getD i df).j with ts:=ts},(qs.getD i df).b,(qs.getD i df).a,(qs.getD i df).c⟩):=by
 have hq:=H.j _ (dg hi)
 have hd:(qs.getD i df).b∉ob (qs.getD i df).a:=by
  obtain⟨_,_,_,_,Aa⟩:=bT.1 H.d;have h1:=List.Nodup.sublist (List.sublist_flatten_of_mem (List.mem_map_of_mem (dg hi))) Aa;unfold HJ.bl at h1;exact(List.nodup_cons.1 h1).1
 refine H.upd hi _ rfl rfl rfl hg (fun g e=>by unfold HJ.bl;exact List.mem_cons_of_mem _ (bq e)) ?_ hO;have:=hq.1.grown hg fun e=>hd (bq e);unfold HJ.vs eN at this ⊢;rw[←hl]at this;exact this
theorem bh.gone(H:bh w i' h now uB ab nb cb bs ai ni ci mb qs)(hi:i<qs.length)(g:Bool):
  bh (w.setCell ⟨(qs.getD i df).b,16,none⟩ (.bool g)) i' h now uB ab nb cb bs ai ni ci mb (qs.set i ⟨{(qs.getD i df).j with gone:=g},(qs.getD i df).b,(qs.getD i df).a,(qs.getD i df).c⟩):=by
 have hq:=H.j _ (dg hi)
 have hd:(qs.getD i df).b∉ob (qs.getD i df).a:=by
  obtain⟨_,_,_,_,Aa⟩:=bT.1 H.d;have h1:=List.Nodup.sublist (List.sublist_flatten_of_mem (List.mem_map_of_mem (dg hi))) Aa;unfold HJ.bl at h1;exact(List.nodup_cons.1 h1).1
 have hg:=aU w ⟨(qs.getD i df).b,16,none⟩ (.bool g);exact H.upd hi _ rfl rfl rfl hg (fun g e=>by unfold HJ.bl;rw[←m2 e];simp) (hq.1.set 16 (by show 16<18;omega) _) (hq.2.grown hg fun g hg' e=>hd (by rw[show(qs.getD i df).b=g from m2 e];exact hg'))
theorem bh.head(H:bh w i' h now uB ab nb cb bs ai ni ci mb qs)(hg:w.grownBy w' (some h)){now' next':Int}(hl:au w' h [.int .i64 now',.int .i64 next',.slice ab nb cb,.slice ai ni ci,.map (some mb)]):bh w' i' h now' next' ab nb cb bs ai ni ci mb qs:=by
 obtain⟨⟨hm,Aa,Ba,Ca⟩,_⟩:=bT.1 H.d;have ne:∀{g},h≠g→some h≠some g:=fun hne e=>hne (m2 e);exact⟨hl,H.b.grown hg fun g hg'=>ne fun e=>Aa (e ▸ hg'),H.i.grown hg fun g hg'=>ne fun e=>Ba (e ▸ hg'),H.m.grown hg (ne hm),H.j.grown hg fun g hg'=>ne fun e=>Ca (e ▸ hg'),H.d,H.lo⟩
theorem bh.order(H:bh w i' h now uB ab nb cb bs ai ni ci mb qs)(hg:w.grownBy w' (Value.slice ab n c).ownBlock)(hO:aC 2 w' i' ab nb cb bs'):bh w' i' h now uB ab nb cb bs' ai ni ci mb qs:=by
 obtain⟨⟨hm,Ba,Da,Ea⟩,⟨Ca,Fa,Ga⟩,Aa,Ha,Ia⟩:=bT.1 H.d;have ne:∀{g},(Value.slice ab n c).ownBlock=some g→g∈ob ab:=fun e=>bq e;exact⟨H.l.grown hg fun e=>Ba (ne e),hO,H.i.grown hg fun g hg' e=>(Aa g (ne e)).1 hg',H.m.grown hg fun e=>Ca (ne e),H.j.grown hg fun g hg' e=>(Aa g (ne e)).2 hg',H.d,H.lo⟩
theorem bh.banned{w8:World}(H:bh w i' h now uB ab nb cb bs ai ni ci mb qs){ab':Option Addr}{nb' cb' z:Nat}(hg:w.grownBy w' (Value.slice ab n c).ownBlock)(hO:aC 2 w' i' ab' nb' cb' bs')(hz:w.heap.size≤z)
 (hat:(Value.slice ab' nb' cb').ownBlock=(Value.slice ab n c).ownBlock∨(Value.slice ab' nb' cb').ownBlock=some z)(g8:w'.grownBy w8 (some h))(l8:au w8 h [.int .i64 now,.int .i64 uB,.slice ab' nb' cb',.slice ai ni ci,.map (some mb)]):
  bh w8 i' h now uB ab' nb' cb' bs' ai ni ci mb qs:=by
 obtain⟨⟨hm,Ea,Fa,Ga⟩,⟨Ha,Ia,Ja⟩,Ca,Ka,La⟩:=bT.1 H.d;have Na:=H.lt;have ne:∀{g},(Value.slice ab n c).ownBlock=some g→g∈ob ab:=fun e=>bq e;have Da:∀{g},h≠g→some h≠some g:=fun hne e=>hne (m2 e);have sj:∀{g},g∈qs.flatMap HJ.bl→g∈di h mb ab ai qs:=fun{g} hg=>by unfold di;simp only[List.mem_cons,uG];exact .inr (.inr (.inr (.inr hg)))
 have si:∀{g},g∈ob ai→g∈di h mb ab ai qs:=fun{g} hg=>by simp[di,hg]
 have sh:h∈di h mb ab ai qs:=(by simp[di]);have sm:mb∈di h mb ab ai qs:=by simp[di]
 have ha:∀{g},g∈ob ab'→g∈ob ab∨w.heap.size≤g:=fun{g} hg=>by
  have e:=cv (n:=nb') (c:=cb') hg
  rcases hat with e2 | e2
  ·exact .inl (ne (e2.symm.trans e))
  ·rw[e2]at e;injection e with e;exact .inr (by omega)
 have Ba:∀{g},g∈di h mb ab ai qs→g∉ob ab→g∉ob ab':=fun{g} hg hn hi=>by
  rcases ha hi with h1 | h1
  ·exact hn h1
  ·have:=Na g hg;omega
 refine⟨l8,hO.grown g8 fun g Aa=>Da fun e=>Ba sh Ea (e ▸ Aa),(H.i.grown hg fun g Aa e=>(Ca g (ne e)).1 Aa).grown g8 fun g Aa=>Da fun e=>Fa (e ▸ Aa),(H.m.grown hg fun e=>Ha (ne e)).grown g8 (Da hm),(H.j.grown hg fun g Aa e=>(Ca g (ne e)).2 Aa).grown g8 fun g Aa=>Da fun e=>Ga (e ▸ Aa),?_,?_⟩
 ·exact bT.2 ⟨⟨hm,Ba sh Ea,Fa,Ga⟩,⟨Ba sm Ha,Ia,Ja⟩,fun g Aa=>⟨fun e=>Ba (si e) (fun e2=>(Ca g e2).1 e) Aa,fun e=>Ba (sj e) (fun e2=>(Ca g e2).2 e) Aa⟩,Ka,La⟩
 ·
  intro g Aa;unfold di at Aa;simp only[List.mem_cons,uG]at Aa
  rcases Aa with rfl | rfl | Aa | Aa | Aa
  ·exact H.lo _ sh
  ·exact H.lo _ sm
  ·exact(uH hO g (cv Aa)).1
  ·exact H.lo _ (si Aa)
  ·exact H.lo _ (sj Aa)
end
theorem mD(hr:(qs.map (fun q:HJ=>q.j.id)).Pairwise (·< ·)):∀{i:Nat},i<qs.length→fY (qs.getD i df).j.id (qs.map HJ.ent)=some (.pointer (some ⟨(qs.getD i df).b,0,none⟩)):=by
 induction qs with
 | nil=>intro i h;simp at h
 | cons q l ih=>
  intro i hi;rw[List.map_cons,List.pairwise_cons]at hr
  match i with
  | 0=>
   show(if q.j.id=q.j.id then _ else _)=_;rw[if_pos rfl];rfl
  | k+1=>
   have hk:k<l.length:=(by simpa using hi);have Aa:=hr.1 _ (List.mem_map_of_mem (f:=fun q:HJ=>q.j.id) (dg hk));show(if(l.getD k df).j.id=q.j.id then _ else fY _ (l.map HJ.ent))=_;rw[if_neg (by omega)];exact ih hr.2 hk
theorem mr(hk:k<qs.length):(qs.map (fun q:HJ=>q.j.id)).getD k 0=(qs.getD k df).j.id:=by
 rw[m4,m4,List.getElem?_map,m6 hk];rfl
theorem lD(hk:k<qs.length):(qs.map (fun q:HJ=>q.j)).getD k M.j0=(qs.getD k df).j:=by
 rw[m4,m4,List.getElem?_map,m6 hk];rfl
theorem bh.count(H:bh w i' h now uB ab nb cb bs ai ni ci mb qs):qs.length=ni:=by have:=H.i.count;rwa[List.length_map]at this
theorem bh.apart(H:bh w i' h now uB ab nb cb bs ai ni ci mb qs)(hi:i<qs.length):
  (∀g∈ob (qs.getD i df).a,i'≤g∧g≠h∧g≠mb∧g≠(qs.getD i df).b)∧(qs.getD i df).b≠h:=by
 obtain⟨⟨hm,Fa,Ga,Ba⟩,⟨Ha,Ia,Da⟩,Ja,Ka,Ea⟩:=bT.1 H.d;have Aa:∀{g},g∈(qs.getD i df).bl→g∈qs.flatMap HJ.bl:=fun hg=>uO.2 ⟨_,dg hi,hg⟩;have h1:=List.Nodup.sublist (List.sublist_flatten_of_mem (List.mem_map_of_mem (dg hi))) Ea;unfold HJ.bl at h1;have h2:=(List.nodup_cons.1 h1).1;have hb:(qs.getD i df).b∈(qs.getD i df).bl:=(by simp[HJ.bl]);refine⟨fun g hg=>?_,fun e=>Ba (e ▸ Aa hb)⟩;have Ca:g∈(qs.getD i df).bl:=(by unfold HJ.bl;exact List.mem_cons_of_mem _ hg);exact⟨((H.j _ (dg hi)).2.lt g hg).1,fun e=>Ba (e ▸ Aa Ca),fun e=>Da (e ▸ Aa Ca),fun e=>h2 (e ▸ hg)⟩
theorem sQ(hi:i<qs.length)(q:HJ):(qs.set i q).getD i df=q:=by rw[m4,List.getElem?_set_self hi];rfl
def bx(w:World)(i' h:Nat)(now uB:Int)(ab:Option Addr)(nb cb:Nat)(bs:List Int)(ai:Option Addr)(ni ci:Nat)(mb:Nat)(qs:List HJ)(i:Nat)(q:HJ):Prop:=bh w i' h now uB ab nb cb bs ai ni ci mb qs∧i<qs.length∧qs.getD i df=q
section
variable {w w':World} {i' h:Nat} {now uB:Int} {ab:Option Addr} {nb cb:Nat} {bs:List Int} {ai:Option Addr} {ni ci:Nat} {mb:Nat} {qs:List HJ} {i:Nat} {q:HJ}
theorem bx.below(H:bx w i' h now uB ab nb cb bs ai ni ci mb qs i q)(hb:m1 w w'):bx w' i' h now uB ab nb cb bs ai ni ci mb qs i q:=⟨H.1.below hb,H.2⟩
theorem bx.lies(H:bx w i' h now uB ab nb cb bs ai ni ci mb qs i q):au w q.b q.vs:=by have:=(H.1.j _ (dg H.2.1)).1;rwa[H.2.2]at this
theorem bx.owns(H:bx w i' h now uB ab nb cb bs ai ni ci mb qs i q):bw w i' q.a q.j.ts.length q.c q.j.ts:=by have:=(H.1.j _ (dg H.2.1)).2;rwa[H.2.2]at this
theorem bx.apart(H:bx w i' h now uB ab nb cb bs ai ni ci mb qs i q):(∀g∈ob q.a,i'≤g∧g≠h∧g≠mb∧g≠q.b)∧q.b≠h:=by have:=H.1.apart H.2.1;rwa[H.2.2]at this
theorem bx.own(H:bx w i' h now uB ab nb cb bs ai ni ci mb qs i q):q.b∉ob q.a:=fun e=>(H.apart.1 _ e).2.2.2 rfl
theorem bx.lo(H:bx w i' h now uB ab nb cb bs ai ni ci mb qs i q):i'≤q.b:=by
 have:=H.1.lo (qs.getD i df).b (by unfold di;simp only[List.mem_cons,uG];exact .inr (.inr (.inr (.inr (uO.2 ⟨_,dg H.2.1,by simp[HJ.bl]⟩)))))
 rwa[H.2.2]at this
theorem bx.look(H:bx w i' h now uB ab nb cb bs ai ni ci mb qs i q)(hr:(qs.map (fun q:HJ=>q.j.id)).Pairwise (·< ·)):fY q.j.id (qs.map HJ.ent)=some (.pointer (some ⟨q.b,0,none⟩)):=by have:=mD hr H.2.1;rwa[H.2.2]at this
theorem bx.gone(H:bx w i' h now uB ab nb cb bs ai ni ci mb qs i q)(g:Bool):bx (w.setCell ⟨q.b,16,none⟩ (.bool g)) i' h now uB ab nb cb bs ai ni ci mb (qs.set i ⟨{q.j with gone:=g},q.b,q.a,q.c⟩) i ⟨{q.j with gone:=g},q.b,q.a,q.c⟩:=by
 obtain⟨h1,h2,rfl⟩:=H;exact⟨h1.gone h2 g,by rw[List.length_set];exact h2,sQ h2 _⟩
theorem bx.tasks(H:bx w i' h now uB ab nb cb bs ai ni ci mb qs i q)(hl:ts.length=q.j.ts.length)(hg:w.grownBy w' (Value.slice q.a n c).ownBlock)(hO:bw w' i' q.a ts.length q.c ts):
  bx w' i' h now uB ab nb cb bs ai ni ci mb (qs.set i ⟨{q.j with ts:=ts},q.b,q.a,q.c⟩) i ⟨{q.j with ts:=ts},q.b,q.a,q.c⟩:=by
 obtain⟨h1,h2,rfl⟩:=H;exact⟨h1.tasks h2 hl hg hO,by rw[List.length_set];exact h2,sQ h2 _⟩
end
def uo(w:World)(i' h:Nat)(m:M.Mt):Prop:=∃ab nb cb ai ni ci mb qs,bh w i' h m.now m.next ab nb cb m.bs ai ni ci mb qs∧qs.map (fun q:HJ=>q.j)=m.js
def fM(w:World)(i' h:Nat)(r:M.Mt×Int×Int)(e:Ending)(w':World):Prop:=e=.returned (.tuple #[.int .i64 r.2.1,.int .i64 r.2.2])∧uo w' i' h r.1∧Below i' w w'
def cP(p:M.Tk→Bool)(k:Nat):List M.Tk→Int
 | []=>-1
 | t::l=>if p t then(k:Int)else cP p (k+1) l
theorem jk(p:M.Tk→Bool):∀(ts:List M.Tk) (k:Nat),cP p k ts=(match ts.findIdx? p with | some i=>((k+i:Nat):Int) | none=>-1)
 | [],_=>rfl
 | t::l,k=>by
  unfold cP;rw[List.findIdx?_cons];by_cases e:p t
  ·rw[if_pos e,if_pos e];rfl
  ·
   rw[if_neg e,if_neg e,jk p l (k+1)]
   cases l.findIdx? p with
   | none=>rfl
   | some i=>show((k+1+i:Nat):Int)=((k+(i+1):Nat):Int);omega
theorem jU(p:M.Tk→Bool):∀(ts:List M.Tk) (k:Nat),decide (0≤cP p k ts)=ts.any p
 | [],_=>rfl
 | t::l,k=>by
  unfold cP;rw[List.any_cons];by_cases e:p t
  ·rw[if_pos e,e];simp
  ·rw[if_neg e,jU p l (k+1)];simp[e]
theorem qz(t:M.Tk)(w:World):Rt 232 #[lO t] w (.bool (M.isFree t)):=by
 have C1:=dY t;unfold M.isFree;generalize M.leased t=ol at *;obtain⟨d,x,y⟩:=t;dsimp only[lO]at C1 ⊢;have HB:H9 (m1 w (w.alloc (.cells (eG d x y).toArray 47))):=(m5 _ _).alloc (m3 _) _;go_enter func232,ntmps232
 cases d with
 | true=>
  go_wp2;go_ret;exact⟨by simp,HB.o⟩
 | false=>
  (go_wp2_with fail);refine(C1 _).mono ?_;rintro e w2 ⟨rfl,hb⟩;have Aa:=HB.t hb;go_wp2;go_ret;exact⟨by simp,Aa.o⟩
theorem kK{a:Option Addr}(w:World)(hz:bW w a n c ts):
  Rt 231 #[.slice a n c,.func (.func 232) #[] #[]] w (.int .i64 (cP (M.isFree) 0 ts)):=by
 have bn:(n:Int)≤9223372036854775807:=(by have:=hz.big;have:=hz.le;omega);have Ha:(n:Int)≤c:=(by have:=hz.le;omega);have HZ:=Hd hz
 generalize hR:cP (M.isFree) 0 ts=R;have HR:=Hd hR;clear hR hz;go_enter func231,ntmps231;go_wp2
 go_loopw [8] (fun i wr=>∃k:Nat,k≤n∧i=it k∧cP (M.isFree) k (ts.drop k)=R∧m1 w wr) (fun i _=>n-(intOf i).toNat)
 case atStart=>exact⟨0,by omega,rfl,HR.o,m5 _ _⟩
 case round=>
  obtain⟨k,hk,rfl,hg,Ca⟩:=hrel;have Ba:=Hd Ca;clear Ca;by_cases Da:k<n
  ·
   obtain⟨b1,o1,rfl,Ea⟩:=(HZ.o.below Ba.o).at (by omega)
   have hG:(if(M.isFree) (ts.getD k M.t0)then(k:Int)else cP (M.isFree) (k+1) (ts.drop (k+1)))=R:=by
    rw[←hg,aY M.t0 HZ.o.len Da];rfl
   have hA:=Ea k Da;have C1:Calls prog _ _ wr _:=qz (ts.getD k M.t0) wr;generalize ts.getD k M.t0=x at hA hG C1;obtain⟨d,x,y⟩:=x;dsimp only[lO]at C1;have HG:=Hd hG;have a0:wr.cell? ⟨b1,o1+k*3,none⟩=some (.bool d):=hA 0 (by omega);have a1:wr.cell? ⟨b1,o1+k*3+1,none⟩=some (it x):=hA 1 (by omega);have a2:wr.cell? ⟨b1,o1+k*3+2,none⟩=some (it y):=hA 2 (by omega);clear Ea hA hg hG;generalize(M.isFree) ⟨d,x,y⟩=ow at C1 HG;have hI:(k:Int)<(n:Int):=(by omega);(go_wp2_with fail);refine C1.mono ?_;rintro e w2 ⟨rfl,Fa⟩;have Ga:=Ba.t Fa;clear Fa
   cases ow with
   | true=>
    have Aa:H9 ((k:Int)=R):=(by show _=_;have:=HG.o;simpa using this);go_wp2;go_ret;exact⟨by rw[Aa.o];rfl,Ga.o⟩
   | false=>
    have Aa:H9 (cP (M.isFree) (k+1) (ts.drop (k+1))=R):=(by show _=_;have:=HG.o;simpa using this);go_wp2;go_roundw
    case rel=>exact⟨k+1,by omega,by go_num,Aa.o,Ga.o⟩
    case measure=>simp[intOf];omega
  ·
   have Aa:H9 ((-1:Int)=R):=by
    show _=_;rw[m9 (by rw[HZ.o.len];omega)]at hg;exact hg
   go_wp2;go_ret;exact⟨by rw[←Aa.o];rfl,Ba.o⟩
def iy(j:M.Jb):Int:=if j.gone then -1 else cP M.isFree 0 j.ts
theorem pF(j:M.Jb):iy j=(match M.openP j with | some k=>(k:Int) | none=>-1):=by
 unfold iy M.openP;by_cases e:j.gone
 ·rw[if_pos e,if_pos e]
 ·
  rw[if_neg e,if_neg e,jk]
  cases j.ts.findIdx? M.isFree with
  | none=>rfl
  | some i=>simp
theorem kO{q:HJ}(w:World)(hl:au w q.b q.vs)(ho:bw w i' q.a q.j.ts.length q.c q.j.ts):
  Rt 159 #[.pointer (some ⟨q.b,0,none⟩)] w (.int .i64 (iy q.j)):=by
 have Ba:=hl.c 16;have Aa:=hl.c 17;have C1:=kK w ho.sees;unfold iy;generalize cP M.isFree 0 q.j.ts=r at *;clear hl ho;generalize q.j.gone=g at *;generalize q.j.ts.length=tn at Aa C1;generalize q.a=ta at Aa C1;generalize q.c=tc at Aa C1;generalize q.b=b at *;go_enter func159,ntmps159
 cases g with
 | true=>
  go_wp2;go_ret;exact⟨rfl,m5 _ _⟩
 | false=>
  (go_wp2_with fail);refine C1.mono ?_;rintro e w2 ⟨rfl,hb⟩;have HB:=Hd hb;go_wp2;go_ret;exact⟨rfl,HB.o⟩
theorem gM(who:Int)(w:World)(H:bh w i' h now uB ab nb cb bs ai ni ci mb qs):
  Rq 56 #[.pointer (some ⟨h,0,none⟩),.int .i64 who] w (.bool (bs.contains who)):=by
 have x2:=H.l.c 2;have C1:=fL who w H.b.sees;generalize bs.contains who=o at *;go_enter func56,ntmps56;(go_wp2_with fail);refine C1.mono ?_;rintro e wz ⟨rfl,rfl⟩;go_wp2;go_ret;exact⟨rfl,rfl⟩
theorem rj(who:Int)(t:M.Tk)(w:World)(hc:w.cell? ⟨kb,0,none⟩=some (.int .i64 who)):Rt 230 #[lO t,.pointer (some ⟨kb,0,none⟩)] w (.bool (M.mineT who t)):=by
 have e:M.mineT who t=(t.l'==who):=(by unfold M.mineT;by_cases e:t.l'=who <;> simp[e]);rw[e];obtain⟨d,x,y⟩:=t;dsimp only[lO];have HB:H9 (m1 w (w.alloc (.cells (eG d x y).toArray 47))):=(m5 _ _).alloc (m3 _) _;have Aa:(w.alloc (.cells (eG d x y).toArray 47)).cell? ⟨kb,0,none⟩=some (it who):=(HB.o.cell (p:=⟨kb,0,none⟩) (uP w _ hc)).trans hc;go_enter func230,ntmps230;go_wp2;go_ret;exact⟨rfl,HB.o⟩
theorem jI{a:Option Addr}(who:Int)(w:World)(hz:bW w a n c ts)(hc:w.cell? ⟨kb,0,none⟩=some (.int .i64 who)):
  Rt 231 #[.slice a n c,.func (.func 230) #[] #[.pointer (some ⟨kb,0,none⟩)]] w (.int .i64 (cP (M.mineT who) 0 ts)):=by
 have bn:(n:Int)≤9223372036854775807:=(by have:=hz.big;have:=hz.le;omega);have Ha:(n:Int)≤c:=(by have:=hz.le;omega);have HZ:=Hd hz;have HC:=Hd hc;clear hc;generalize hR:cP (M.mineT who) 0 ts=R;have HR:=Hd hR;clear hR hz;go_enter func231,ntmps231;go_wp2
 go_loopw [8] (fun i wr=>∃k:Nat,k≤n∧i=it k∧cP (M.mineT who) k (ts.drop k)=R∧m1 w wr) (fun i _=>n-(intOf i).toNat)
 case atStart=>exact⟨0,by omega,rfl,HR.o,m5 _ _⟩
 case round=>
  obtain⟨k,hk,rfl,hg,Ca⟩:=hrel;have Aa:=Hd Ca;clear Ca;by_cases Da:k<n
  ·
   obtain⟨b1,o1,rfl,Ea⟩:=(HZ.o.below Aa.o).at (by omega)
   have hG:(if(M.mineT who) (ts.getD k M.t0)then(k:Int)else cP (M.mineT who) (k+1) (ts.drop (k+1)))=R:=by
    rw[←hg,aY M.t0 HZ.o.len Da];rfl
   have hA:=Ea k Da;have C1:Calls prog _ _ wr _:=rj (kb:=kb) who (ts.getD k M.t0) wr ((Aa.o.cell (p:=⟨kb,0,none⟩) (uP w _ HC.o)).trans HC.o);generalize ts.getD k M.t0=x at hA hG C1;obtain⟨d,x,y⟩:=x;dsimp only[lO]at C1;have HG:=Hd hG;have a0:wr.cell? ⟨b1,o1+k*3,none⟩=some (.bool d):=hA 0 (by omega);have a1:wr.cell? ⟨b1,o1+k*3+1,none⟩=some (it x):=hA 1 (by omega);have a2:wr.cell? ⟨b1,o1+k*3+2,none⟩=some (it y):=hA 2 (by omega);clear Ea hA hg hG;generalize(M.mineT who) ⟨d,x,y⟩=ow at C1 HG;have hI:(k:Int)<(n:Int):=(by omega);(go_wp2_with fail);refine C1.mono ?_;rintro e w2 ⟨rfl,Fa⟩;have Ga:=Aa.t Fa;clear Fa
   cases ow with
   | true=>
    have Ba:H9 ((k:Int)=R):=(by show _=_;have:=HG.o;simpa using this);go_wp2;go_ret;exact⟨by rw[Ba.o];rfl,Ga.o⟩
   | false=>
    have Ba:H9 (cP (M.mineT who) (k+1) (ts.drop (k+1))=R):=(by show _=_;have:=HG.o;simpa using this);go_wp2;go_roundw
    case rel=>exact⟨k+1,by omega,by go_num,Ba.o,Ga.o⟩
    case measure=>simp[intOf];omega
  ·
   have Ba:H9 ((-1:Int)=R):=by
    show _=_;rw[m9 (by rw[HZ.o.len];omega)]at hg;exact hg
   go_wp2;go_ret;exact⟨by rw[←Ba.o];rfl,Aa.o⟩
theorem ib{a:Option Addr}(who:Int)(w:World)(hz:bW w a n c ts)(hc:w.cell? ⟨kb,0,none⟩=some (.int .i64 who)):
  Rt 190 #[.slice a n c,.func (.func 230) #[] #[.pointer (some ⟨kb,0,none⟩)]] w (.bool (ts.any (M.mineT who))):=by
 have C1:=jI who w hz hc;have HR:H9 (decide (0≤cP (M.mineT who) 0 ts)=ts.any (M.mineT who)):=jU _ ts 0;generalize cP (M.mineT who) 0 ts=r at C1 HR;generalize ts.any (M.mineT who)=o at *;go_enter func190,ntmps190;(go_wp2_with fail);refine C1.mono ?_;rintro e w1 ⟨rfl,hb⟩;have HB:=Hd hb;go_wp2;go_ret;exact⟨aD HR.o,HB.o⟩
theorem qv(who:Int)(w:World)(H:bh w i' h now uB ab nb cb bs ai ni ci mb qs)(hr:(qs.map (fun q:HJ=>q.j.id)).Pairwise (·< ·)):
  Rt 158 #[.pointer (some ⟨h,0,none⟩),.int .i64 who] w (.bool (qs.any (fun q=>q.j.ts.any (M.mineT who)))):=by
 have HH:=Hd H;have Sa:=Hd hr;have Ta:=H.count;have bn:(ni:Int)≤9223372036854775807:=(by have:=H.i.sees.big;have:=H.i.sees.le;omega);have Va:(ni:Int)≤ci:=(by have:=H.i.sees.le;omega);generalize hR:qs.any (fun q=>q.j.ts.any (M.mineT who))=R;have HR:=Hd hR;have Ga:H9 (m1 w (w.alloc (.cells #[it who] 2))):=(m5 _ _).alloc (m3 _) _;have Ha:=ct w [it who] 2;have x3:(w.alloc (.cells #[it who] 2)).cell? ⟨h,3,none⟩=some (.slice ai ni ci):=(H.l.alloc _).at 3;go_enter func158,ntmps158;(go_wp2_with fail);clear x3;generalize w.alloc (.cells #[it who] 2)=wa at *
 go_loopw [14] (fun i wr=>∃k:Nat,k≤ni∧i=it k∧(qs.drop k).any (fun q=>q.j.ts.any (M.mineT who))=R∧au wr w.heap.size [it who]∧m1 w wr) (fun i _=>ni-(intOf i).toNat)
 case atStart=>exact⟨0,by omega,rfl,HR.o,Ha.o,Ga.o⟩
 case round=>
  clear Ga Ha HR;obtain⟨k,hk,rfl,hg,Ia,Ca⟩:=hrel;have Da:=Hd Ca;have Ja:=Hd Ia;have HW:=Hd (HH.o.below Ca);clear Ca Ia;by_cases Ka:k<ni
  ·
   obtain⟨b1,o1,rfl,La⟩:=HW.o.i.sees.at (by omega);have c1:=La k Ka;have Na:=mr (qs:=qs) (k:=k) (by omega);rw[Na]at c1;have Oa:=mD Sa.o (i:=k) (by omega);obtain⟨Pa,Qa⟩:=HW.o.j _ (dg (i:=k) (by omega))
   have hG:((qs.getD k df).j.ts.any (M.mineT who)||(qs.drop (k+1)).any (fun q=>q.j.ts.any (M.mineT who)))=R:=by
    rw[←hg,aY df Ta Ka,List.any_cons]
   have Ba:=Pa.c 17;have C1:=ib (kb:=w.heap.size) who wr Qa.sees (Ja.o.at 0);have Ea:=HW.o.m.get (P:=prog) (t:=111) underlying111 underlying2 _ _ Oa false;simp only[Bool.false_eq_true,if_false]at Ea;have h3:=HW.o.l.c 3;have h4:=HW.o.l.c 4;clear Pa Qa Oa La hg Na;generalize(qs.getD k df).j.ts.any (M.mineT who)=o at hG C1;generalize(qs.getD k df).j.ts.length=tn at Ba C1;generalize(qs.getD k df).a=ta at Ba C1;generalize(qs.getD k df).c=tc at Ba C1;generalize(qs.getD k df).b=qb at Ba Ea;generalize(qs.getD k df).j.id=qi at c1 Ea;have HG:=Hd hG;have hI:(k:Int)<(ni:Int):=(by omega);(go_wp2_with fail);refine C1.mono ?_;rintro e w2 ⟨rfl,Fa⟩;have Ra:=Da.t Fa;have Ua:=Ja.b Fa;clear Fa
   cases o with
   | true=>
    have Aa:H9 (true=R):=(by show _=_;have:=HG.o;simpa using this);go_wp2;go_ret;exact⟨by rw[←Aa.o];rfl,Ra.o⟩
   | false=>
    have Aa:H9 ((qs.drop (k+1)).any (fun q=>q.j.ts.any (M.mineT who))=R):=(by show _=_;have:=HG.o;rwa[Bool.false_or]at this);go_wp2;go_roundw
    case rel=>exact⟨k+1,by omega,by go_num,Aa.o,Ua.o,Ra.o⟩
    case measure=>simp[intOf];omega
  ·
   have Aa:H9 (false=R):=by
    show _=_;rw[m9 (by omega)]at hg;exact hg
   go_wp2;go_ret;exact⟨by rw[←Aa.o];rfl,Da.o⟩
theorem jt{b:Nat}{a:Option Addr}(now:Int)(w:World)(hc:w.cell? ⟨b,17,none⟩=some (.slice a n c))(hba:b∉ob a)(ho:bw w i' a n c ts):
  Calls prog 156 #[.pointer (some ⟨b,0,none⟩),.int .i64 now] w fun e w'=>e=.returned (.tuple #[])∧bw w' i' a n c (M.free (M.dueT now) ts)∧w.grownBy w' (Value.slice a n c).ownBlock:=by
 have bn:(n:Int)≤9223372036854775807:=(by have:=ho.sees.big;have:=ho.sees.le;omega);have Ra:(n:Int)≤c:=(by have:=ho.sees.le;omega);have HO:=Hd ho;have HC:H9 (∀W,w.grownBy W (Value.slice a n c).ownBlock→W.cell? ⟨b,17,none⟩=some (.slice a n c)):=fun W hg=>hg.cell hc (fun e=>hba (bq e.symm));generalize hR:M.free (M.dueT now) ts=R;have HR:=Hd hR;clear hR ho hba;go_enter func156,ntmps156;(go_wp2_with fail);clear hc
 go_loopw [11] (fun i wr=>∃(p:Nat) (Aa:List M.Tk),p≤n∧i=it p∧bw wr i' a n c Aa∧eZ (M.dueT now) p Aa=R∧w.grownBy wr (Value.slice a n c).ownBlock) (fun i _=>n-(intOf i).toNat)
 case atStart=>exact⟨0,ts,by omega,rfl,HO.o,HR.o,World.grownBy.refl _ _⟩
 case round=>
  clear HO HR;obtain⟨p,Aa,hp,rfl,ho,hg,Da⟩:=hrel;by_cases Ca:p<n
  ·
   obtain⟨g,rfl⟩:=ho.block (by omega);have hl':=ho.1;have a0:wr.cell? ⟨g,p*3,none⟩=some (.bool (Aa.getD p M.t0).done):=ho.cells Ca (j:=0) (by omega);have a1:wr.cell? ⟨g,p*3+1,none⟩=some (it (Aa.getD p M.t0).l'):=ho.cells Ca (j:=1) (by omega);have a2:wr.cell? ⟨g,p*3+2,none⟩=some (it (Aa.getD p M.t0).due):=ho.cells Ca (j:=2) (by omega);have hk:=@jQ (M.dueT now) Aa p (by omega);have hs:=@lm (M.dueT now) Aa p (by omega);have C1:=dY (Aa.getD p M.t0);unfold M.dueT at hk hs;generalize Aa.getD p M.t0=x at a0 a1 a2 hk hs C1;obtain⟨d,x,y⟩:=x;dsimp only[lO]at a0 a1 a2 hk hs C1;generalize M.leased ⟨d,x,y⟩=ol at hk hs C1;have HK:=Hd hk;have HS:=Hd hs;have HG:=Hd hg;have HO:=Hd ho;have HW:=Hd Da;have Ga:=ct wr (eG d x y) 47;have Ha:H9 (bw (wr.alloc (.cells (eG d x y).toArray 47)) i' (some ⟨g,0,none⟩) n c Aa):=HO.o.grown (uK wr _ none) (fun _ _=>by simp);have Ia:H9 (w.grownBy (wr.alloc (.cells (eG d x y).toArray 47)) (Value.slice (some ⟨g,0,none⟩) n c).ownBlock):=HW.o.trans (uK wr _ _);have hI:(p:Int)<(n:Int):=(by omega);clear hk hs hg ho Da;(go_wp2_with fail);clear a0 a1 a2 HO HW;generalize wr.alloc (.cells (eG d x y).toArray 47)=w5 at *;generalize wr.heap.size=tb at Ga ⊢;refine(C1 w5).mono ?_;rintro e w6 ⟨rfl,hb⟩;have La:=Ga.b hb;have Ba:=Hd (Ha.o.grown (bv hb none) (fun _ _=>by simp));have Ea:=Hd (Ia.o.trans (bv hb _));clear hb Ga Ha Ia C1;have y2:=La.c 2
   cases hd:(ol&&decide (y≤now))with
   | false=>
    have Fa:H9 (eZ (M.dueT now) (p+1) Aa=R):=(HK.o hd).trans HG.o;clear HK HS HG
    cases ol with
    | false=>
     clear hd;go_wp2;go_roundw
     case rel=>exact⟨p+1,Aa,by omega,by go_num,Ba.o,Fa.o,Ea.o⟩
     case measure=>simp[intOf];omega
    | true=>
     have Na:decide (y≤now)=false:=(by simpa using hd);clear hd;go_wp2;go_roundw
     case rel=>exact⟨p+1,Aa,by omega,by go_num,Ba.o,Fa.o,Ea.o⟩
     case measure=>simp[intOf];omega
   | true=>
    have Fa:H9 (eZ (M.dueT now) (p+1) (Aa.set p M.t0)=R):=(HS.o hd).trans HG.o;clear HK HS HG;obtain⟨rfl,Na⟩:=Bool.and_eq_true_iff.1 hd;clear hd;have Sa:=HC.o w6 Ea.o;obtain⟨Ja,Ka⟩:=Ba.o.put Ca M.t0;have Oa:=Hd Ja;have Pa:=Hd (Ea.o.trans Ka);have b0:=Ba.o.cells Ca (j:=0) (by omega);have b1:=Ba.o.cells Ca (j:=1) (by omega);have b2:=Ba.o.cells Ca (j:=2) (by omega);have Qa:=Ba.o.2.frozenAt (p*3+0);have Ta:=Ba.o.2.frozenAt (p*3+1);have Ua:=Ba.o.2.frozenAt (p*3+2);rw[Nat.add_zero]at b0 Qa;generalize Aa.getD p M.t0=zz at b0 b1 b2;obtain⟨z1,z2,z3⟩:=zz;simp only[dW,List.getElem?_cons_zero,List.getElem?_cons_succ]at b0 b1 b2;clear Ja Ka;go_wp2;go_roundw
    case rel=>exact⟨p+1,Aa.set p M.t0,by omega,by go_num,Oa.o,Fa.o,Pa.o⟩
    case measure=>simp[intOf];omega
  ·
   have HF:H9 (bw wr i' a n c R∧w.grownBy wr (Value.slice a n c).ownBlock):=⟨by rw[←hg,ll (by have:=ho.1;omega)];exact ho,Da⟩;clear ho hg Da;go_wp2;exact bodyPost_end (v:=.tuple #[]) (by simp[results,results156,go_sem]) rfl ⟨rfl,HF.o⟩
def HJ.fr(f:M.Tk→Bool)(q:HJ):HJ:=⟨M.freeJ f q.j,q.b,q.a,q.c⟩
def HJ.ff(f:M.Tk→Bool)(i:Nat)(qs:List HJ):List HJ:=qs.take i++(qs.drop i).map (HJ.fr f)
theorem HJ.ff_end(h:qs.length≤i):HJ.ff f i qs=qs:=by
 unfold HJ.ff;rw[uD h,m9 h];simp
theorem HJ.ff_in(h:i<qs.length):HJ.ff f (i+1) (qs.set i (HJ.fr f (qs.getD i df)))=HJ.ff f i qs:=by
 unfold HJ.ff;rw[aY df rfl h,List.take_add_one,List.getElem?_set_self h,List.drop_set_of_lt (by omega),List.take_set_of_le (m3 _)];simp
theorem HJ.ff_js(f:M.Tk→Bool)(qs:List HJ):(HJ.ff f 0 qs).map (fun q:HJ=>q.j)=(qs.map (fun q:HJ=>q.j)).map (M.freeJ f):=by
 unfold HJ.ff;simp[HJ.fr]
theorem sZ(tr:Int)(w:World)(H:bh w i' h now uB ab nb cb bs ai ni ci mb qs)(HRt:M.Right now uB bs (qs.map (fun q:HJ=>q.j)))(hm0:1≤tr)(hm1:tr≤1000000000)(uy:i'≤w.heap.size):
  Calls prog 94 #[.pointer (some ⟨h,0,none⟩),.agg #[.int .i64 tr]] w (fM w i' h (M.tick ⟨now,uB,bs,qs.map (fun q:HJ=>q.j)⟩ tr)):=by
 have Gb:=HRt.now0;have Hb:=HRt.now1;have Ka:H9 ((qs.map (fun q:HJ=>q.j.id)).Pairwise (·< ·)):=(by have:=HRt.rise;rw[List.pairwise_map]at this;exact List.pairwise_map.2 this);have La:=H.count;have bn:(ni:Int)≤9223372036854775807:=(by have:=H.i.sees.big;have:=H.i.sees.le;omega);have Ib:(ni:Int)≤ci:=(by have:=H.i.sees.le;omega);unfold fM M.tick;dsimp only;rw[←HJ.ff_js];generalize hN:M.tickN now tr=N;have HN:=Hd hN;generalize Na:HJ.ff (M.dueT N) 0 qs=RQ;have Oa:=Hd Na;have Ea:H9 (m1 w (w.alloc (.cells #[it tr] 115))):=(m5 _ _).alloc (m3 _) _;have Pa:=ct w [it tr] 115;have Ca:=Hd (H.below Ea.o);clear H HRt hN Na;go_enter func94,ntmps94;(go_wp2_with fail);generalize w.alloc (.cells #[it tr] 115)=wa at *;have x0:=Ca.o.l.c 0;have f0:=Ca.o.l.fr 0;have t0:=Pa.c 0;apply eV
 case f=>
  intro key
  go_region_law (fail)
  all_goals exact key.out
 case h=>
  have hv:(if 1000000000<IntKind.i64.wrap (now+tr)then(1000000000:Int)else IntKind.i64.wrap (now+tr))=N:=by
   have hw:IntKind.i64.wrap (now+tr)=now+tr:=(by rw[uQ];omega);rw[←HN.o,hw];unfold M.tickN;by_cases e:now+tr<1000000000
   ·rw[if_pos e,if_neg (by omega)]
   ·
    rw[if_neg e];by_cases e2:1000000000<now+tr
    ·rw[if_pos e2]
    ·rw[if_neg e2];omega
  rw[hv];have Qa:=Ca.o.l.set 0 (by simp) (it N);have Ha:=aU wa ⟨h,0,none⟩ (it N);have Ia:=Hd ((Ca.o.head Ha Qa).below (m5 _ _).drew);have Ra:=Hd (((Ea.o.mono uy).trans (ap Ha (m8 uy Ea.o.size) (fun z e=>by rw[←m2 e];exact Ca.o.lo h (by simp[di])))).drew);clear hv Qa Ha x0 f0 t0 Ea Pa Ca HN;generalize(wa.setCell ⟨h,0,none⟩ (it N)).drew=wb at *;have y3:=Ia.o.l.c 3;(go_wp2_with fail);clear y3;generalize hIDS:qs.map (fun q:HJ=>q.j.id)=IDS at Ka;have Sa:=Hd hIDS;clear hIDS
  go_loopw [24] (fun i wr=>∃(k:Nat) (Ba:List HJ),k≤ni∧i=it k∧bh wr i' h N uB ab nb cb bs ai ni ci mb Ba∧HJ.ff (M.dueT N) k Ba=RQ∧Ba.map (fun q:HJ=>q.j.id)=IDS∧Below i' w wr) (fun i _=>ni-(intOf i).toNat)
  case atStart=>exact⟨0,qs,by omega,rfl,Ia.o,Oa.o,Sa.o,Ra.o⟩
  case round=>
   clear Ia Ra Oa Sa La;obtain⟨k,Ba,hk,rfl,hh,hg,Fa,Ga⟩:=hrel;have La:=hh.count;have Za:=m8 uy Ga.size;have HB:=Hd Ga;by_cases Ab:k<ni
   ·
    obtain⟨b1,o1,rfl,Ta⟩:=hh.i.sees.at (by omega);have c1:=Ta k Ab;rw[mr (by omega)]at c1;obtain⟨q,hq⟩:∃q,Ba.getD k df=q:=⟨_,rfl⟩;have Bb:H9 (HJ.ff (M.dueT N) (k+1) (Ba.set k (HJ.fr (M.dueT N) q))=RQ):=(by show _=_;rw[←hq,HJ.ff_in (by omega)];exact hg);have Cb:H9 ((Ba.set k (HJ.fr (M.dueT N) q)).map (fun q:HJ=>q.j.id)=IDS):=(by show _=_;rw[fF (fun q:HJ=>q.j.id) df (by rw[hq];rfl) (by omega)];exact Fa);rw[hq]at c1;have HA:H9 (bx wr i' h N uB ab nb cb bs (some ⟨b1,o1,none⟩) ni ci mb Ba k q):=⟨hh,by omega,hq⟩;have Ua:=Hd (HA.o.look (by rw[Fa];exact Ka.o));have Ja:H9 ((Value.slice q.a q.j.ts.length q.c).ownBlock≠some h):=fun e=>(HA.o.apart.1 h (bq e)).2.1 rfl;have Va:H9 ((Value.slice q.a q.j.ts.length q.c).ownBlock≠some mb):=fun e=>(HA.o.apart.1 mb (bq e)).2.2.1 rfl;have hI:(k:Int)<(ni:Int):=(by omega);clear Ta hg hh Fa Ga hq;(go_wp2_with fail);clear c1;refine cB wr (Value.slice q.a q.j.ts.length q.c).ownBlock (by kernel_rfl) fun hHeld=>?_;have Da:=Hd (HA.o.below (m5 _ _).drew);have Wa:=Hd HB.o.drew;have Xa:i'≤wr.drew.heap.size:=Za;generalize wr.drew=Db at *;refine tk 0 (.pointer (some ⟨h,0,none⟩)) ?_ ?_
    ·intro wq Aa;go_simp
    refine tk 1 (.pointer (some ⟨h,0,none⟩)) ?_ ?_
    ·intro wq Aa;go_simp
    refine tk 2 (.pointer (some ⟨h,4,none⟩)) ?_ ?_
    ·intro wq Aa;go_simp
    refine tk 3 (.map (some mb)) ?_ ?_
    ·intro wq Aa;have c0:=(HA.o.1.l.grown Aa Ja.o).c 4;go_simp
    refine tk 4 (it q.j.id) ?_ ?_
    ·intro wq Aa;go_simp
    refine tk 5 (.pointer (some ⟨q.b,0,none⟩)) ?_ ?_
    ·intro wq Aa;have Eb:=(HA.o.1.m.grown Aa Va.o).get (P:=prog) (t:=111) underlying111 underlying2 _ _ Ua.o false;simp only[Bool.false_eq_true,if_false]at Eb;go_simp
    refine tk 6 (.pointer (some ⟨h,0,none⟩)) ?_ ?_
    ·intro wq Aa;go_simp
    refine tk 7 (.pointer (some ⟨h,0,none⟩)) ?_ ?_
    ·intro wq Aa;go_simp
    refine tk 8 (.pointer (some ⟨h,0,none⟩)) ?_ ?_
    ·intro wq Aa;go_simp
    refine tk 9 (it N) ?_ ?_
    ·intro wq Aa;have c0:=(HA.o.1.l.grown Aa Ja.o).c 0;go_simp
    refine aX 10 fun Kk hK=>?_;go_simp;refine(jt N Db (Da.o.lies.at 17) Da.o.own Da.o.owns).mono ?_;rintro e Ya ⟨rfl,ho,hg⟩;go_simp;refine hK.out _ _ (hHeld.trans hg) (fun _=>?_);clear hK Kk;refine bg ?_;go_simp;have HF:H9 (bh Ya i' h N uB ab nb cb bs (some ⟨b1,o1,none⟩) ni ci mb (Ba.set k (HJ.fr (M.dueT N) q))):=(Da.o.tasks (by rw[M.free_len]) hg (by rw[M.free_len];exact ho)).1;have Fb:=Hd (Wa.o.trans (ap hg Xa (fun z e=>(Da.o.apart.1 z (bq e)).1)));clear ho hg hHeld Da Wa Xa HA HB Ua Ja Va;go_wp2;go_roundw
    case rel=>exact⟨k+1,_,by omega,by go_num,HF.o,Bb.o,Cb.o,Fb.o⟩
    case measure=>simp[intOf];omega
   ·
    have HF:H9 (bh wr i' h N uB ab nb cb bs ai ni ci mb RQ):=(by show bh _ _ _ _ _ _ _ _ _ _ _ _ _ _;rw[←hg,HJ.ff_end (by omega)];exact hh);clear hh hg Fa Ga;go_wp2;exact m7 (v:=.tuple #[it 0,it 0]) (by simp[results,results94,go_sem]) rfl ⟨rfl,⟨_,_,_,_,_,_,_,_,HF.o,rfl⟩,HB.o⟩
theorem im(id:Int):∀(qs:List HJ) (k:Nat),(∃i,i<qs.length∧fY id (qs.map HJ.ent)=some (.pointer (some ⟨(qs.getD i df).b,0,none⟩))∧M.jobAt id k (qs.map (fun q:HJ=>q.j))=((k+i:Nat):Int))∨(fY id (qs.map HJ.ent)=none∧M.jobAt id k (qs.map (fun q:HJ=>q.j))=-1)
 | [],_=>.inr ⟨rfl,rfl⟩
 | q::qs,k=>by
  rw[List.map_cons,List.map_cons];unfold M.jobAt;show(∃i,_∧(if id=q.j.id then _ else fY id (qs.map HJ.ent))=_∧_)∨((if id=q.j.id then _ else fY id (qs.map HJ.ent))=none∧_);by_cases e:id=q.j.id
  ·
   rw[if_pos e.symm,if_pos e];exact .inl ⟨0,by simp,rfl,rfl⟩
  ·
   rw[if_neg e,if_neg (fun e2=>e e2.symm)]
   rcases im id qs (k+1)with⟨i,h1,h2,h3⟩ | ⟨h1,h2⟩
   ·exact .inl ⟨i+1,by simpa using h1,h2,by rw[h3];congr 1;omega⟩
   ·exact .inr ⟨h1,h2⟩
theorem ox{id:Int}(hi:i<qs.length)(h:M.jobAt id 0 (qs.map (fun q:HJ=>q.j))=(i:Int)):M.jobOf id (qs.map (fun q:HJ=>q.j))=(qs.getD i df).j:=by
 unfold M.jobOf;rw[h,u'];exact lD hi
set_option maxRecDepth 10000 in
theorem pY(id:Int)(w:World)(H:bh w i' h now uB ab nb cb bs ai ni ci mb qs)(HRt:M.Right now uB bs (qs.map (fun q:HJ=>q.j)))(uy:i'≤w.heap.size):
  Calls prog 95 #[.pointer (some ⟨h,0,none⟩),.agg #[.int .i64 id]] w (fM w i' h (M.cancel ⟨now,uB,bs,qs.map (fun q:HJ=>q.j)⟩ id)):=by
 have Fb:=HRt.now0;have Gb:=HRt.now1;have Da:H9 (m1 w (w.alloc (.cells #[it id] 163))):=(m5 _ _).alloc (m3 _) _;have Ga:=ct w [it id] 163;have Aa:=Hd (H.below Da.o);have x4:=Aa.o.l.c 4;have t0:=Ga.c 0;have Fa:=Hd ((Da.o.drew).mono uy);have Ha:=m8 uy (Da.o.drew).size;unfold M.cancel;dsimp only
 rcases im id qs 0 with⟨i,hi,hlk,hat⟩ | ⟨hlk,hat⟩
 ·
  rw[Nat.zero_add]at hat;obtain⟨q,hq⟩:∃q,qs.getD i df=q:=⟨_,rfl⟩;have Ia:=ox hi hat;rw[hq]at hlk Ia;have Ta:H9 (M.free (M.dueT (now+5)) q.j.ts=M.free M.leased q.j.ts):=HRt.due (by rw[←hq,←lD hi];exact M.getD_mem (by simpa using hi));have HA:H9 (bx (w.alloc (.cells #[it id] 163)).drew i' h now uB ab nb cb bs ai ni ci mb qs i q):=⟨Aa.o.below (m5 _ _).drew,hi,hq⟩;have Ea:=(show bV (w.alloc (.cells #[it id] 163)).drew mb (qs.map HJ.ent)from Aa.o.m).get (P:=prog) (t:=111) underlying111 underlying2 id _ hlk true;simp only[if_true]at Ea;rw[Ia,hat,u',if_neg (by omega)];generalize Na:q.j.ts.all (·.done)=oa;have Ua:=Hd Na;generalize Oa:q.j.gone=og;have Va:=Hd Oa;clear hlk hat Ia hq HRt Na Oa;go_enter func95,ntmps95;(go_wp2_with fail);generalize(w.alloc (.cells #[it id] 163))=wa at *;apply eV
  case f=>
   intro key
   go_region_law (fail)
   all_goals exact key.out
  case h=>
   clear Ea x4 t0 Aa Ga Da;generalize wa.drew=wb at *;have Ja:wb.cell? ⟨q.b,16,none⟩=some (.bool og):=(by rw[←Va.o];exact HA.o.lies.at 16);have Pa:=HA.o.lies.c 17;have C1:=fU wb Pa HA.o.owns.sees;rw[Ua.o]at C1
   cases og with
   | true=>
    go_wp2;exact m7 (v:=.tuple #[it 8,it 0]) (by simp[results,results95,go_sem]) rfl ⟨rfl,⟨_,_,_,_,_,_,_,_,HA.o.1,rfl⟩,Fa.o⟩
   | false=>
    (go_wp2_with fail);refine C1.mono ?_;rintro e wc ⟨rfl,hb⟩;have Ba:=Hd (HA.o.below hb);have Qa:=Hd (Fa.o.trans (hb.mono Ha));have Ra:=m8 Ha hb.size;clear hb HA Fa Ja Pa C1 Ha
    cases oa with
    | true=>
     go_wp2;exact m7 (v:=.tuple #[it 8,it 0]) (by simp[results,results95,go_sem]) rfl ⟨rfl,⟨_,_,_,_,_,_,_,_,Ba.o.1,rfl⟩,Qa.o⟩
    | false=>
     have Ja:=Ba.o.lies.c 16;have Wa:=Ba.o.lies.fr 16;have Ca:=Ba.o.gone true;have Xa:=Hd Ca;have y0:=Ca.1.l.c 0;have C2:=jt (now+5) (wc.setCell ⟨q.b,16,none⟩ (.bool true)) (Ca.lies.at 17) Ca.own Ca.owns;have Ka:=aU wc ⟨q.b,16,none⟩ (.bool true);have Ya:=Hd (Qa.o.trans (ap Ka Ra (fun z e=>by rw[←m2 e];exact Ba.o.lo)));have Za:=m8 Ra Ka.size;clear Ka Ca;(go_wp2_with fail);clear Ja Wa y0;generalize(wc.setCell ⟨q.b,16,none⟩ (.bool true))=wg at *;refine C2.mono ?_;rintro e wf ⟨rfl,ho,hg⟩;have HF:=Xa.o.tasks (ts:=M.free (M.dueT (now+5)) q.j.ts) (by rw[M.free_len]) hg (by rw[M.free_len];exact ho);have Ab:=Hd (Ya.o.trans (ap hg Za (fun z e=>(Ba.o.apart.1 z (bq e)).1)))
     have Bb:H9 (∃La,bh wf i' h now uB ab nb cb bs ai ni ci mb La∧La.map (fun q:HJ=>q.j)=(qs.map (fun q:HJ=>q.j)).set i {M.freeJ M.leased q.j with gone:=true}):=⟨_,HF.1,by
      rw[List.set_set,List.map_set]
      congr 1
      show(M.Jb.mk _ _ _ _ _ _)=_;rw[Ta.o]
      rfl⟩
     clear C2 ho hg HF;go_wp2;obtain⟨La,Cb,Db⟩:=Bb.o;exact m7 (v:=.tuple #[it 0,it 0]) (by simp[results,results95,go_sem]) rfl ⟨rfl,⟨_,_,_,_,_,_,_,_,Cb,Db⟩,Ab.o⟩
 ·
  have Eb:=Hd (Aa.o.below (m5 _ _).drew);have Sa:(zeroValue 120).run prog (w.alloc (.cells #[it id] 163)).drew=.ok (.pointer none) (w.alloc (.cells #[it id] 163)).drew:=(by kernel_rfl);have Ea:=(show bV (w.alloc (.cells #[it id] 163)).drew mb (qs.map HJ.ent)from Aa.o.m).miss (P:=prog) (t:=111) underlying111 underlying2 id Sa hlk true;simp only[if_true]at Ea;rw[hat,if_pos (by omega)];clear hlk Sa hat HRt;go_enter func95,ntmps95;(go_wp2_with fail);generalize(w.alloc (.cells #[it id] 163))=wa at *;apply eV
  case f=>
   intro key
   go_region_law (fail)
   all_goals exact key.out
  case h=>
   clear Ea x4 t0 Aa Ga Da;generalize wa.drew=wb at *;go_wp2;exact m7 (v:=.tuple #[it 4,it 0]) (by simp[results,results95,go_sem]) rfl ⟨rfl,⟨_,_,_,_,_,_,_,_,Eb.o,rfl⟩,Fa.o⟩
end Go.Proofs.YtjcjonncaknhnaaGreatDoor
