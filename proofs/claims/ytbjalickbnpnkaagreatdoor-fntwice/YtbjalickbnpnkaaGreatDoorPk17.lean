import Derived.Test.YtbjalickbnpnkaaGreatDoorPk10
import Derived.Test.YtbjalickbnpnkaaGreatDoorPk16
namespace Go.Proofs.YtbjalickbnpnkaaGreatDoor
open Go.RowKit Go.Proofs.Tryz
set_option linter.unusedSimpArgs false
set_option maxHeartbeats 32000000
variable {f:M.Tk->Bool}{k i dA nb cb nj cj g n c h ni ci mb kb:Nat}{qs:List HJ}{ab aj ai:Option Addr}{w:World}{bs bs':List Int}{ad:Addr}{v:Value}{P:Program}{ops:Array Oper}{rest:List Oper}{op o:Oper}{a:Act}{Q:Exit->Act->World->Prop}{K:Act->World->Prop}{E:Prop}{ts:List M.Tk}{now sr:Int}
def bt(now who:Int)(t:M.Tk):Bool:=M.leased t&&(decide (t.dC=who)||(decide (who=0)&&decide (t.due<=now)))
def fP(f:M.Tk->Bool)(k:Nat)(l:List M.Tk):List M.Tk:=l.take k++M.free f (l.drop k)
theorem kH(f:M.Tk->Bool)(l:List M.Tk):fP f 0 l=M.free f l:=rfl
theorem mA{l:List M.Tk}(h:l.length<=k):fP f k l=l:=by
 unfold fP;rw[xt h,t' h];simp[M.free]
theorem kG{f:M.Tk->Bool}{l:List M.Tk}{k:Nat}(h:k<l.length)(hf:f (l.getD k M.t0)=false):fP f (k+1) l=fP f k l:=by
 unfold fP;rw[aX M.t0 rfl h,List.take_add_one,m9 h];have e:l.getD k M.t0=l[k]:=(by rw[m5,m9 h];rfl);rw[e]at hf |-;show(l.take k++[l[k]])++M.free f (l.drop (k+1))=l.take k++((if f l[k]then M.t0 else l[k])::M.free f (l.drop (k+1)));rw[hf,List.append_assoc]
 rfl
theorem mB{f:M.Tk->Bool}{l:List M.Tk}{k:Nat}(h:k<l.length)(hf:f (l.getD k M.t0)=true):fP f (k+1) (l.set k M.t0)=fP f k l:=by
 unfold fP;rw[aX M.t0 rfl h,List.take_add_one,List.getElem?_set_self h,List.drop_set_of_lt (by omega),List.take_set_of_le (m3 _)];simp only[M.free,List.map_cons,hf,if_true];simp
def MQ.fr(f:M.Tk->Bool)(q:MQ):MQ:=(M.freeJ f q.1,q.2)
def MQ.at(f:M.Tk->Bool)(k:Nat)(q:MQ):MQ:=({q.1 with ts:=fP f k q.1.ts},q.2)
def MQ.ff(f:M.Tk->Bool)(i:Nat)(qs:List MQ):List MQ:=qs.take i++(qs.drop i).map (MQ.fr f)
theorem MQ.ff_end{qs:List MQ}(h:qs.length<=i):MQ.ff f i qs=qs:=by
 unfold MQ.ff;rw[xt h,t' h];simp
theorem MQ.ff_in{qs:List MQ}(h:i<qs.length):MQ.ff f (i+1) (qs.set i (MQ.at f 0 (qs.getD i q0)))=MQ.ff f i qs:=by
 unfold MQ.ff;rw[aX q0 rfl h,List.take_add_one,List.getElem?_set_self h,List.drop_set_of_lt (by omega),List.take_set_of_le (m3 _)];simp[MQ.at,MQ.fr,M.freeJ,kH]
theorem MQ.at_end{qs:List MQ}(h:i<qs.length)(hk:(qs.getD i q0).1.ts.length<=k):qs.set i (MQ.at f k (qs.getD i q0))=qs:=by
 have e:MQ.at f k (qs.getD i q0)=qs[i]:=by
  have e2:qs.getD i q0=qs[i]:=(by rw[m5,m9 h];rfl);unfold MQ.at;rw[mA hk,e2]
 rw[e,List.set_getElem_self]
theorem MQ.at_keep{f:M.Tk->Bool}{q:MQ}{k:Nat}(h:k<q.1.ts.length)(hf:f (q.1.ts.getD k M.t0)=false):MQ.at f (k+1) q=MQ.at f k q:=by unfold MQ.at;rw[kG h hf]
theorem bZ{qs:List MQ}(h:i<qs.length)(q:MQ):(qs.set i q).getD i q0=q:=by rw[m5,List.getElem?_set_self h];rfl
theorem MQ.at_set{f:M.Tk->Bool}{q:MQ}{k:Nat}(h:k<q.1.ts.length)(hf:f (q.1.ts.getD k M.t0)=true):MQ.at f (k+1) ({q.1 with ts:=q.1.ts.set k M.t0},q.2)=MQ.at f k q:=by unfold MQ.at;dsimp only;rw[mB h hf]
theorem gC{qs:List MQ}(q:MQ)(h:i<qs.length)(he:q.2=(qs.getD i q0).2):b7 ab aj (qs.set i q)=b7 ab aj qs:=by
 unfold b7;rw[dJ (λq:MQ=>ob q.2.1) q0 qs i q (by rw[he]) h]
theorem aW.block{qs:List MQ}(H:aW w dA ab nb cb bs aj nj cj qs)(h0:0<nj):∃g,aj=some ⟨g,0,none⟩:=by
 rcases H.j.2 with⟨_,e⟩ | ⟨g,cap,cur,e,_⟩
 .omega
 .simp only[Value.slice.injEq]at e;exact⟨g,e.1⟩
theorem aW.jcell{qs:List MQ}(H:aW w dA ab nb cb bs (some ⟨g,0,none⟩) nj cj qs){j:Nat}(hi:i<nj)(hj:j<18):w.cell? ⟨g,i*18+j,none⟩=(jy (qs.getD i q0))[j]?:=by
 have hl:=H.jl;rw[H.j.cellAt _ (by omega),fS iw q0 qs (by omega) hj]
theorem aW.jtask{qs:List MQ}(H:aW w dA ab nb cb bs aj nj cj qs)(hi:i<nj):bw w dA (qs.getD i q0).2.1 (qs.getD i q0).1.ts.length (qs.getD i q0).2.2 (qs.getD i q0).1.ts:=by
 have hl:=H.jl;exact H.t _ (by rw[m5,m9 (by omega)];simp)
set_option maxRecDepth 10000 in
theorem ja{qs:List MQ}(now sr who:Int)(w:World)(H:aW w dA ab nb cb bs aj nj cj qs)(mr:dA<=w.heap.size):
  Calls prog 24 #[.agg #[it now,it sr,.slice ab nb cb,.slice aj nj cj],it who] w λe w'=>e=.returned (.agg #[it now,it sr,.slice ab nb cb,.slice aj nj cj])/\aW w' dA ab nb cb bs aj nj cj (qs.map λq=>(M.freeJ (bt now who) q.1,q.2))/\(∀b vs,aw w b vs->b∉b7 ab aj qs->aw w' b vs)/\Below dA w w':=by
 have HM:=Hd H;have Ld:=H.jl;have Nd:(nj:Int)<=9223372036854775807:=(by have:=H.sees.j.big;have:=H.sees.j.le;omega);have Od:(nj:Int)<=cj:=(by have:=H.sees.j.le;omega);clear H;go_enter func24,ntmps24;have Na:H7 (aw ((w.alloc (.cells (aJ now sr ab nb cb aj nj cj).toArray 27)).alloc (.cells cm.toArray 27)) w.heap.size (aJ now sr ab nb cb aj nj cj)):=(aQ _ _ _).alloc _;have Cb:H7 (aw ((w.alloc (.cells (aJ now sr ab nb cb aj nj cj).toArray 27)).alloc (.cells cm.toArray 27)) (w.heap.size+1) cm):=aZ _ _ _ _;have Ta:H7 (m1 w ((w.alloc (.cells (aJ now sr ab nb cb aj nj cj).toArray 27)).alloc (.cells cm.toArray 27))):=((m8 _ _).alloc (m3 _) _).alloc (by simp) _;(go_wp2_with fail);generalize((w.alloc (.cells (aJ now sr ab nb cb aj nj cj).toArray 27)).alloc (.cells cm.toArray 27))=wa at *;have x0:=Na.c 0;have x1:=Na.c 1;have x2:=Na.c 2;have x3:=Na.c 3;(go_wp2_with fail);clear x0 x1 x2 x3;generalize hRQ:(qs.map λq=>(M.freeJ (bt now who) q.1,q.2))=RQ;have Rc:=Hd hRQ;have Gc:=Hd hRQ;have Hc:=Hd (HM.o.below Ta.o);have Wb:=Hd HM.o.lt;have Ic:=Hd (Ta.o.mono mr);clear hRQ HM
 go_loopw [5] (λi wr=>∃(n:Nat) (Ba:List MQ),n<=nj/\i=it n/\aW wr dA ab nb cb bs aj nj cj Ba/\b7 ab aj Ba=b7 ab aj qs/\MQ.ff (bt now who) n Ba=RQ/\aw wr w.heap.size (aJ now sr ab nb cb aj nj cj)/\aw wr (w.heap.size+1) cm/\(∀b vs,aw w b vs->b∉b7 ab aj qs->aw wr b vs)/\Below dA w wr) (λi _=>nj-(intOf i).toNat)
 case atStart=>exact⟨0,qs,by omega,rfl,Hc.o,rfl,Gc.o,Na.o,Cb.o,(λb vs h _=>h.belowS Ta.o),Ic.o⟩
 case round=>
  obtain⟨n,Ba,hn,rfl,hG,Oa,hR,Ea,Da,Pa,Qa⟩:=hrel;clear Hc Gc Ic Na Cb Ta;by_cases La:n<nj
  case pos=>
   obtain⟨gj,rfl⟩:=hG.block (by omega);have Sc:(n:Int)<(nj:Int):=(by omega);have Jc:=hG.jl;have Kc:MQ.ff (bt now who) (n+1) (Ba.set n (MQ.at (bt now who) 0 (Ba.getD n q0)))=RQ:=(by rw[MQ.ff_in (by omega)];exact hR);have hT:=hG.jtask La;have Ha:wr.cell? ⟨gj,n*18+17,none⟩=some (.slice (Ba.getD n q0).2.1 (Ba.getD n q0).1.ts.length (Ba.getD n q0).2.2):=hG.jcell La (by omega);have Tc:((Ba.getD n q0).1.ts.length:Int)<=9223372036854775807:=(by have:=hT.sees.big;have:=hT.sees.le;omega);have Lc:((Ba.getD n q0).1.ts.length:Int)<=(Ba.getD n q0).2.2:=(by have:=hT.sees.le;omega);generalize Ua:(Ba.getD n q0).1.ts.length=tn at Ha Tc Lc hT;generalize Va:(Ba.getD n q0).2.1=ta at Ha hT;generalize Wa:(Ba.getD n q0).2.2=tc at Ha hT Lc;have x3:=Ea.c 3;have Nb:=Hd hG;have Ob:=Hd Oa;have Pb:=Hd Kc;have Nc:H7 ((Ba.getD n q0).1.ts.length=tn/\(Ba.getD n q0).2.1=ta/\(Ba.getD n q0).2.2=tc):=⟨Ua,Va,Wa⟩;have Qb:=Hd Ea;have Rb:=Hd Da;have Sb:=Hd Qa;have Tb:=Hd Pa;clear Pa hG Oa hR Kc Ea Da Qa Ua Va Wa hT;(go_wp2_with fail);clear x3 Ha
   go_loopw [6] (λi wr=>∃(p:Nat) (Ba:List MQ),p<=tn/\i=it p/\aW wr dA ab nb cb bs (some ⟨gj,0,none⟩) nj cj Ba/\b7 ab (some ⟨gj,0,none⟩) Ba=b7 ab (some ⟨gj,0,none⟩) qs/\MQ.ff (bt now who) (n+1) (Ba.set n (MQ.at (bt now who) p (Ba.getD n q0)))=RQ/\((Ba.getD n q0).1.ts.length=tn/\(Ba.getD n q0).2.1=ta/\(Ba.getD n q0).2.2=tc)/\aw wr w.heap.size (aJ now sr ab nb cb (some ⟨gj,0,none⟩) nj cj)/\aw wr (w.heap.size+1) cm/\(∀b vs,aw w b vs->b∉b7 ab (some ⟨gj,0,none⟩) qs->aw wr b vs)/\Below dA w wr) (λi _=>tn-(intOf i).toNat)
   case atStart=>exact⟨0,Ba,by omega,rfl,Nb.o,Ob.o,Pb.o,Nc.o,Qb.o,Rb.o,Tb.o,Sb.o⟩
   case round=>
    clear Nb Ob Pb Nc Qb Rb Tb Sb Jc;obtain⟨p,Aa,hp,rfl,hG,Oa,hR,⟨Ua,Va,Wa⟩,Ea,Da,Pa,Qa⟩:=hrel;have Jc:=hG.jl;have Ha:wr.cell? ⟨gj,n*18+17,none⟩=some (.slice (Aa.getD n q0).2.1 (Aa.getD n q0).1.ts.length (Aa.getD n q0).2.2):=hG.jcell La (by omega);rw[Ua,Va,Wa]at Ha;have x3:=Ea.c 3;have x0:=Ea.c 0;by_cases Ia:p<tn
    case neg=>
     have Pd:p=tn:=(by omega);have Nb:=Hd hG;have Ob:=Hd Oa;have Pb:H7 (MQ.ff (bt now who) (n+1) Aa=RQ):=(by show _=_;rw[MQ.at_end (by omega) (by omega)]at hR;exact hR);have Qb:=Hd Ea;have Rb:=Hd Da;have Sb:=Hd Qa;have Tb:=Hd Pa;clear Pa;have Uc:¬ (p:Int)<(tn:Int):=(by omega);clear hG Oa hR Ea Da Qa Ua Va Wa;go_wp2;go_roundw
     case rel=>exact⟨n+1,Aa,by omega,by go_num,Nb.o,Ob.o,Pb.o,Qb.o,Rb.o,Tb.o,Sb.o⟩
     case measure=>simp[intOf];omega
    have hT:=hG.jtask La;rw[Ua,Va,Wa]at hT;obtain⟨g,rfl⟩:=hT.block (by omega);have Uc:(p:Int)<(tn:Int):=(by omega);have a0:wr.cell? ⟨g,p*3,none⟩=some (.bool ((Aa.getD n q0).1.ts.getD p M.t0).done):=hT.cells Ia (j:=0) (by omega);have a1:wr.cell? ⟨g,p*3+1,none⟩=some (it ((Aa.getD n q0).1.ts.getD p M.t0).dC):=hT.cells Ia (j:=1) (by omega);have a2:wr.cell? ⟨g,p*3+2,none⟩=some (it ((Aa.getD n q0).1.ts.getD p M.t0).due):=hT.cells Ia (j:=2) (by omega);have Xb:=@MQ.at_keep (bt now who) (Aa.getD n q0) p (by omega);have Yb:=@MQ.at_set (bt now who) (Aa.getD n q0) p (by omega);generalize Vc:(Aa.getD n q0).1.ts.getD p M.t0=cq at a0 a1 a2 Xb Yb;obtain⟨td,x,y⟩:=cq;dsimp only at a0 a1 a2;have Xa:=Hd Xb;have Ya:=Hd Yb;clear Xb Yb Vc;have Oc:=Hd hG;have Na:=Hd Ea;have Cb:=Hd Da;have Ta:=Hd Qa;have Pc:=Hd Pa;clear Pa;have HQ:=Hd Oa;have HR:=Hd hR;have Ja:H7 ((Aa.getD n q0).1.ts.length=tn/\(Aa.getD n q0).2.1=some ⟨g,0,none⟩/\(Aa.getD n q0).2.2=tc):=⟨Ua,Va,Wa⟩;clear hG Ea Da Qa Oa hR Ua Va Wa hT;have Ab:=gW wr (.cells (fp td x y).toArray 75);have Db:=Hd (Oc.o.below Ab);have Fa:=Na.b Ab;have Eb:=Cb.b Ab;have Za:=Hd (Ta.o.trans (Ab.mono (tr mr Ta.o.size)));have Fb:=Hd (λb vs h n=>(Pc.o b vs h n).belowS Ab);clear Oc Na Cb Ta Pc;clear Ab;have Ka:=cQ wr (fp td x y) 75;(go_wp2_with(with_reducible refine au 35 ?_ ?_;rfl));show wpList _ _ _ _ _ _;clear a0 a1 a2 x3 x0 Ha;generalize(wr.alloc (.cells (fp td x y).toArray 75))=w5 at *;generalize wr.heap.size=tb at Ka |-;by_cases Gb:x=0
    ·
     have g1:(x != 0)=false:=(by simp[Gb]);have Ub:=Ka.c 1;have Vb:=Ka.c 2;have x3:=Fa.c 3;have x0:=Fa.c 0;have Ga:bt now who ⟨td,x,y⟩=false:=(by unfold bt M.leased;simp[Gb]);have Ra:H7 (MQ.ff (bt now who) (n+1) (Aa.set n (MQ.at (bt now who) (p+1) (Aa.getD n q0)))=RQ):=(by show _=_;rw[Xa.o Ga];exact HR.o);clear Xa Ya HR Ga;go_wp2;go_roundw
     case rel=>exact⟨p+1,Aa,by omega,by go_num,Db.o,HQ.o,Ra.o,Ja.o,Fa.o,Eb.o,Fb.o,Za.o⟩
     case measure=>simp[intOf];omega
    have g1:(x != 0)=true:=(by simp[Gb]);by_cases Bb:x=who
    ·
     have g2:(x==who)=true:=(by simp[Bb]);have Ub:=Ka.c 1;have Vb:=Ka.c 2;have x3:=Fa.c 3;have x0:=Fa.c 0;have Ga:bt now who ⟨td,x,y⟩=true:=(by unfold bt M.leased;simp[Bb];intro e;exact Gb (Bb.trans e));have hG:=Db.o;have Ca:=Ja.o;have Ha:w5.cell? ⟨gj,n*18+17,none⟩=some (.slice (Aa.getD n q0).2.1 (Aa.getD n q0).1.ts.length (Aa.getD n q0).2.2):=hG.jcell La (by omega);rw[Ca.1,Ca.2.1,Ca.2.2]at Ha;have hT:=hG.jtask La;rw[Ca.1,Ca.2.1,Ca.2.2]at hT;have b0:=hT.cells Ia (j:=0) (by omega);have Zb:=hT.2.frozenAt (p*3+0);have b1:=hT.cells Ia (j:=1) (by omega);have Wc:=hT.2.frozenAt (p*3+1);have b2:=hT.cells Ia (j:=2) (by omega);have Xc:=hT.2.frozenAt (p*3+2);rw[Nat.add_zero]at b0 Zb;generalize Ac:(Aa.getD n q0).1.ts.getD p M.t0=zz at b0 b1 b2;obtain⟨z1,z2,z3⟩:=zz;simp only[eK,List.getElem?_cons_zero,List.getElem?_cons_succ]at b0 b1 b2;have HP:=hG.task La (Ca.2.1) (k:=p) (by rw[Ca.1];exact Ia) M.t0;obtain⟨Hb,Ib⟩:=HP;have Bc:H7 _:=Hb;have Sa:H7 _:=Ib;clear Hb Ib hG hT Ac Ca
     have Jb:g∈b7 ab (some ⟨gj,0,none⟩) Aa:=by
      have hm:Aa.getD n q0∈Aa:=(by rw[m5,m9 (by omega)];simp);unfold b7;simp only[xw];exact .inr (.inr (xI.2 ⟨_,hm,by rw[Ja.o.2.1];simp[ob]⟩))
     have Kb:g∈b7 ab (some ⟨gj,0,none⟩) qs:=(by rw[<-HQ.o];exact Jb);have Yc:=Wb.o g Kb;have HF':=Hd (λb vs h n=>(Fb.o b vs h n).grown Sa.o (λe=>n (m2 e ▸ Kb)));clear Jb;have HA':=Hd (Fa.o.grown Sa.o (λe=>by have:=m2 e;omega));have HZ':=Hd (Eb.o.grown Sa.o (λe=>by have:=m2 e;omega));have HB':=Hd (Za.o.trans (ap Sa.o (tr mr Za.o.size) (λz e=>by have:=m2 e;omega)));have Ra:H7 (MQ.ff (bt now who) (n+1) ((Aa.set n ({(Aa.getD n q0).1 with ts:=(Aa.getD n q0).1.ts.set p M.t0},(Aa.getD n q0).2)).set n (MQ.at (bt now who) (p+1) ((Aa.set n ({(Aa.getD n q0).1 with ts:=(Aa.getD n q0).1.ts.set p M.t0},(Aa.getD n q0).2)).getD n q0)))=RQ):=(by show _=_;rw[bZ (by omega),Ya.o Ga,List.set_set];exact HR.o);have Cc:H7 (((Aa.set n ({(Aa.getD n q0).1 with ts:=(Aa.getD n q0).1.ts.set p M.t0},(Aa.getD n q0).2)).getD n q0).1.ts.length=tn/\((Aa.set n ({(Aa.getD n q0).1 with ts:=(Aa.getD n q0).1.ts.set p M.t0},(Aa.getD n q0).2)).getD n q0).2.1=some ⟨g,0,none⟩/\((Aa.set n ({(Aa.getD n q0).1 with ts:=(Aa.getD n q0).1.ts.set p M.t0},(Aa.getD n q0).2)).getD n q0).2.2=tc):=(by show _/\_/\_;rw[bZ (by omega)];dsimp only;rw[List.length_set];exact Ja.o);have Dc:H7 (b7 ab (some ⟨gj,0,none⟩) (Aa.set n ({(Aa.getD n q0).1 with ts:=(Aa.getD n q0).1.ts.set p M.t0},(Aa.getD n q0).2))=b7 ab (some ⟨gj,0,none⟩) qs):=(gC (qs:=Aa) (i:=n) _ (by omega) (by rfl)).trans HQ.o;clear Xa Ya HR Ga Ja HQ;go_wp2;go_roundw
     case rel=>exact⟨p+1,_,by omega,by go_num,Bc.o,Dc.o,Ra.o,Cc.o,HA'.o,HZ'.o,HF'.o,HB'.o⟩
     case measure=>simp[intOf];omega
    have g2:(x==who)=false:=(by simp[Bb]);by_cases Lb:who=0
    ·
     have g3:(who==0)=true:=(by simp[Lb]);have Zc:=Hd Lb;clear Lb;by_cases Ec:y<=now
     ·
      have g4:decide (y<=now)=true:=(by simp[Ec]);have Ub:=Ka.c 1;have Vb:=Ka.c 2;have x3:=Fa.c 3;have x0:=Fa.c 0;have Ga:bt now who ⟨td,x,y⟩=true:=(by unfold bt M.leased;simp[Gb,Zc.o,Ec]);have hG:=Db.o;have Ca:=Ja.o;have Ha:w5.cell? ⟨gj,n*18+17,none⟩=some (.slice (Aa.getD n q0).2.1 (Aa.getD n q0).1.ts.length (Aa.getD n q0).2.2):=hG.jcell La (by omega);rw[Ca.1,Ca.2.1,Ca.2.2]at Ha;have hT:=hG.jtask La;rw[Ca.1,Ca.2.1,Ca.2.2]at hT;have b0:=hT.cells Ia (j:=0) (by omega);have Zb:=hT.2.frozenAt (p*3+0);have b1:=hT.cells Ia (j:=1) (by omega);have Wc:=hT.2.frozenAt (p*3+1);have b2:=hT.cells Ia (j:=2) (by omega);have Xc:=hT.2.frozenAt (p*3+2);rw[Nat.add_zero]at b0 Zb;generalize Ac:(Aa.getD n q0).1.ts.getD p M.t0=zz at b0 b1 b2;obtain⟨z1,z2,z3⟩:=zz;simp only[eK,List.getElem?_cons_zero,List.getElem?_cons_succ]at b0 b1 b2;have HP:=hG.task La (Ca.2.1) (k:=p) (by rw[Ca.1];exact Ia) M.t0;obtain⟨Hb,Ib⟩:=HP;have Bc:H7 _:=Hb;have Sa:H7 _:=Ib;clear Hb Ib hG hT Ac Ca
      have Jb:g∈b7 ab (some ⟨gj,0,none⟩) Aa:=by
       have hm:Aa.getD n q0∈Aa:=(by rw[m5,m9 (by omega)];simp);unfold b7;simp only[xw];exact .inr (.inr (xI.2 ⟨_,hm,by rw[Ja.o.2.1];simp[ob]⟩))
      have Kb:g∈b7 ab (some ⟨gj,0,none⟩) qs:=(by rw[<-HQ.o];exact Jb);have Yc:=Wb.o g Kb;have HF':=Hd (λb vs h n=>(Fb.o b vs h n).grown Sa.o (λe=>n (m2 e ▸ Kb)));clear Jb;have HA':=Hd (Fa.o.grown Sa.o (λe=>by have:=m2 e;omega));have HZ':=Hd (Eb.o.grown Sa.o (λe=>by have:=m2 e;omega));have HB':=Hd (Za.o.trans (ap Sa.o (tr mr Za.o.size) (λz e=>by have:=m2 e;omega)));have Ra:H7 (MQ.ff (bt now who) (n+1) ((Aa.set n ({(Aa.getD n q0).1 with ts:=(Aa.getD n q0).1.ts.set p M.t0},(Aa.getD n q0).2)).set n (MQ.at (bt now who) (p+1) ((Aa.set n ({(Aa.getD n q0).1 with ts:=(Aa.getD n q0).1.ts.set p M.t0},(Aa.getD n q0).2)).getD n q0)))=RQ):=(by show _=_;rw[bZ (by omega),Ya.o Ga,List.set_set];exact HR.o);have Cc:H7 (((Aa.set n ({(Aa.getD n q0).1 with ts:=(Aa.getD n q0).1.ts.set p M.t0},(Aa.getD n q0).2)).getD n q0).1.ts.length=tn/\((Aa.set n ({(Aa.getD n q0).1 with ts:=(Aa.getD n q0).1.ts.set p M.t0},(Aa.getD n q0).2)).getD n q0).2.1=some ⟨g,0,none⟩/\((Aa.set n ({(Aa.getD n q0).1 with ts:=(Aa.getD n q0).1.ts.set p M.t0},(Aa.getD n q0).2)).getD n q0).2.2=tc):=(by show _/\_/\_;rw[bZ (by omega)];dsimp only;rw[List.length_set];exact Ja.o);have Dc:H7 (b7 ab (some ⟨gj,0,none⟩) (Aa.set n ({(Aa.getD n q0).1 with ts:=(Aa.getD n q0).1.ts.set p M.t0},(Aa.getD n q0).2))=b7 ab (some ⟨gj,0,none⟩) qs):=(gC (qs:=Aa) (i:=n) _ (by omega) (by rfl)).trans HQ.o;clear Xa Ya HR Ga Ja HQ;go_wp2;go_roundw
      case rel=>exact⟨p+1,_,by omega,by go_num,Bc.o,Dc.o,Ra.o,Cc.o,HA'.o,HZ'.o,HF'.o,HB'.o⟩
      case measure=>simp[intOf];omega
     have g4:decide (y<=now)=false:=(by simp;omega);have Ub:=Ka.c 1;have Vb:=Ka.c 2;have x3:=Fa.c 3;have x0:=Fa.c 0;have Ga:bt now who ⟨td,x,y⟩=false:=(by unfold bt M.leased;simp[Bb,Ec]);have Ra:H7 (MQ.ff (bt now who) (n+1) (Aa.set n (MQ.at (bt now who) (p+1) (Aa.getD n q0)))=RQ):=(by show _=_;rw[Xa.o Ga];exact HR.o);clear Xa Ya HR Ga;go_wp2;go_roundw
     case rel=>exact⟨p+1,Aa,by omega,by go_num,Db.o,HQ.o,Ra.o,Ja.o,Fa.o,Eb.o,Fb.o,Za.o⟩
     case measure=>simp[intOf];omega
    have g3:(who==0)=false:=(by simp[Lb]);have Ub:=Ka.c 1;have Vb:=Ka.c 2;have x3:=Fa.c 3;have x0:=Fa.c 0;have Ga:bt now who ⟨td,x,y⟩=false:=(by unfold bt M.leased;simp[Bb,Lb]);have Ra:H7 (MQ.ff (bt now who) (n+1) (Aa.set n (MQ.at (bt now who) (p+1) (Aa.getD n q0)))=RQ):=(by show _=_;rw[Xa.o Ga];exact HR.o);clear Xa Ya HR Ga;go_wp2;go_roundw
    case rel=>exact⟨p+1,Aa,by omega,by go_num,Db.o,HQ.o,Ra.o,Ja.o,Fa.o,Eb.o,Fb.o,Za.o⟩
    case measure=>simp[intOf];omega
  have Ad:n=nj:=(by omega);have Bd:H7 (Ba=RQ):=(by show _=_;rw[MQ.ff_end (by have:=hG.jl;omega)]at hR;exact hR);have Cd:=Hd hG;have Dd:=Hd Oa;have Qc:=Hd Qa;have Ed:=Hd Pa;have Fd:=Hd Da;have Sc:¬ (n:Int)<(nj:Int):=(by omega);have o0:=Ea.c 0;have o1:=Ea.c 1;have o2:=Ea.c 2;have o3:=Ea.c 3;have r0:=Da.c 0;have Qd:=Da.fr 0;have r1:=Da.c 1;have Rd:=Da.fr 1;have r2:=Da.c 2;have Sd:=Da.fr 2;have r3:=Da.c 3;have Td:=Da.fr 3;clear hG Oa hR Ea Da Pa Qa;subst Ad;(go_wp2_with fail);show bodyPost _ _ _ _ _ (wr.setCells (w.heap.size+1) 0 (aJ now sr ab nb cb aj n cj));have Gd:aw (wr.setCells (w.heap.size+1) 0 (aJ now sr ab nb cb aj n cj)) (w.heap.size+1) (aJ now sr ab nb cb aj n cj):=Fd.o.setCells (aJ now sr ab nb cb aj n cj) 0 (by simp);have Fc:=dS wr (w.heap.size+1) 0 (aJ now sr ab nb cb aj n cj);have Id:=Bd.o ▸ Cd.o.grown Fc (λg hg e=>by rw[Dd.o]at hg;have:=Wb.o g hg;have:=m2 e;omega);have Jd:=Qc.o.trans (ap Fc (tr mr Qc.o.size) (λz e=>by have:=m2 e;omega));have Kd:=λb vs h n=>(Ed.o b vs h n).grown Fc (λe=>by have:=m2 e;have:=h.2.2;omega);generalize(wr.setCells (w.heap.size+1) 0 (aJ now sr ab nb cb aj n cj))=wf at *;exact s' (aM rfl rfl (xH wf (w.heap.size+1) 0 27 _ _ Gd.row underlying27 rfl (by kernel_rfl))) rfl ⟨rfl,by rw[Rc.o];exact Id,Kd,Jd⟩
theorem lH{ty:TypeId}{u:Value}(h:v.cells=u.cells):storeVar ty ad v=storeVar ty ad u:=by unfold storeVar;rw[h]
theorem gd(hgd:op.guard=none)(ty:TypeId)(x y:Operand)(ho:op.op=.store ty x y)(b o:Nat)(v:Value)(hv:v.cells=#[v])(hx:a.eval x=.pointer (some ⟨b,o,none⟩))(hy:a.eval y=v)
 (ht:w.there b o 1)(hi:(P.info? ty).map (·.size)=some 1)(h1:v.oneCell'=true)(h:wpList P ops Q rest (a.put op.dst undef) (w.setCells b o [v])):wpList P ops Q (op::rest) a w:=by
 refine wpList_plain hgd λ_ hK=>?_;unfold Oper.wp execOp;simp only[ho,hx,hy,Instr.storeAt,Instr.sureAddr,Sem.run_bind,Sem.run_pure,Result.andThen_ok];rw[lH (v:=v) (u:=.agg #[v]) (by rw[hv];rfl),run_storeVar_mid w b o ty #[v] ht hi (by simp[h1])];exact hK _ _ h
theorem fh(hg:o.guard=none)(l:Operand)(t:TypeId)(hop:o.op=Op.makeSlice t l l)(dA:Nat)(e:TypeId)(i:TypeInfo)(z:Value)(size:Nat)(ht:P.underlying t=some (.slice e))(hi:P.info? e=some i)(hz:i.zero=some z)(hsize:i.size=size)
 (n:Nat)(hl:a.eval l=it n)(hcells:n*size<=16777216)(hbytes:i.bytes*n<=281474976710656)(h63:n<=maxLen)(mr:dA<=w.heap.size)
 (hK:∀g w',w.heap.size=g->w'.ownsRow dA e size (.slice (some ⟨g,0,none⟩) n n) n (madeCells z.cells (n*size)).toList->w.grownBy w' none->K (a.put o.dst (.slice (some ⟨g,0,none⟩) n n)) w'):
  if Region.wanted o (yielded ops a.tmps)=true then Oper.wp P o a w K Q else E:=by
 have hw:Region.wanted o (yielded ops a.tmps)=true:=(by simp[Region.wanted,hg]);rw[if_pos hw];obtain⟨w',Aa,r1,r2⟩:=run_makeSlice_full (P:=P) (w:=w) dA t e i z size ht hi hz hsize .i64 .i64 n hcells hbytes h63 mr;unfold Oper.wp;simp[execOp,hop,hl,Aa,Result.andThen];exact hK _ w' rfl r1 r2
theorem dq(hg:o.guard=none)(ty:TypeId)(x:Operand)(hop:o.op=.load ty x)(ad:Addr)(hx:a.eval x=.pointer (some ad))(v:Value)(hl:(loadVar ty ad).run P w=.ok v w)(hK:K (a.put o.dst v) w):
  if Region.wanted o (yielded ops a.tmps)=true then Oper.wp P o a w K Q else E:=by
 have hw:Region.wanted o (yielded ops a.tmps)=true:=(by simp[Region.wanted,hg]);rw[if_pos hw];unfold Oper.wp execOp;simp only[hop,hx,Instr.loadAt,Instr.sureAddr,Sem.run_bind,Sem.run_pure,Result.andThen_ok,hl];exact hK
theorem uV(hg:o.guard=none)(v:Value)(w':World)(hrun:(execOp a.eval o).run P w=.ok (.value v) w')(hK:K (a.put o.dst v) w'):
  if Region.wanted o (yielded ops a.tmps)=true then Oper.wp P o a w K Q else E:=by
 have hw:Region.wanted o (yielded ops a.tmps)=true:=(by simp[Region.wanted,hg]);rw[if_pos hw];unfold Oper.wp;rw[hrun];exact hK
theorem dR(hg:o.guard=none)(f:Nat->Value)(w':World)(hrun:(execOp a.eval o).run P w=.ok (.value (f w.heap.size)) w')(hK:∀g W,w.heap.size=g->w'=W->K (a.put o.dst (f g)) W):
  if Region.wanted o (yielded ops a.tmps)=true then Oper.wp P o a w K Q else E:=uV hg _ _ hrun (hK _ _ rfl rfl)
theorem ns{qs:List MQ}
 (hg:o.guard=none)(s x:Operand)(hop:o.op=Op.call {callee:=Callee.builtin Builtin.append,args:=#[s,x],argTypes:=#[25,25]})(hs:a.eval s=.slice aj nj cj)(gb:Nat)(hx:a.eval x=.slice (some ⟨gb,0,none⟩) 1 1)(H:aW w dA ab nb cb bs aj nj cj qs)(q:MQ)(hL:aw w gb (jy q))
 (hT:bw w dA q.2.1 q.1.ts.length q.2.2 q.1.ts)(hqa:∀g∈ob q.2.1,g∉b7 ab aj qs)(hn:nj<=1000)(mr:dA<=w.heap.size)
 (hK:∀aj' cj' w7,aW w7 dA ab nb cb bs aj' (nj+1) cj' (qs++[q])->(∀g,g<w.heap.size->g∉b7 ab aj qs->g∉ob q.2.1->g∉b7 ab aj' (qs++[q]))->w.grownBy w7 (Value.slice aj nj cj).ownBlock->K (a.put o.dst (.slice aj' (nj+1) cj')) w7):
  if Region.wanted o (yielded ops a.tmps)=true then Oper.wp prog o a w K Q else E:=by
 obtain⟨i1,Ca,Da,Ea,Fa⟩:=info_parts fV;refine dX hg s x 25 hop dA 70 i1 _ 18 160 underlying25 Ca Da Ea Fa rfl (by decide) (.slice aj nj cj) nj (qs.flatMap jy) hs H.j ⟨gb,0,none⟩ 1 1 (jy q) hx (by rw[iw]) (ix hL) (nY _ _ _) (by unfold maxLen;omega) (by omega) mr ?_;intro v' w8 Aa Ba Ga;obtain⟨Ia,Ja,rfl⟩:=jE Aa;obtain⟨hP,Ha⟩:=H.push q hT hqa Ba Aa (m3 _) Ga;exact hK _ _ _ hP Ha Ba
theorem jV(h:w.cell? ad=some v):(loadVar 25 ad).run prog w=.ok v w:=by go_simp
theorem oh{mq:Nat}{a:Option Addr}(h8:mq<=8)(h:w.ownsRow dA 75 3 (.slice a n c) mq (madeCells (Value.agg #[.bool false,it 0,it 0]).cells (mq*3)).toList)(hn:n=mq):bw w dA a n c (List.replicate mq M.t0):=by
 subst hn;refine⟨xM,?_⟩
 have e:(madeCells (Value.agg ug.toArray).cells (n*3)).toList=(List.replicate n M.t0).flatMap eK:=by
  obtain rfl | rfl | rfl | rfl | rfl | rfl | rfl | rfl | rfl:n=0\/n=1\/n=2\/n=3\/n=4\/n=5\/n=6\/n=7\/n=8:=by omega
  all_goals kernel_rfl
 rw[<-e];exact h
theorem wT(T:TypeId)(b o:Nat)(v:Value)(ht:w.there b o 1)
   (hs:op.guard=none/\v.cells=#[v]/\v.oneCell'=true/\(P.info? T).map (·.size)=some 1/\∃x y,op.op=.store T x y/\a.eval x=.pointer (some ⟨b,o,none⟩)/\a.eval y=v)
   (h:wpList P ops Q rest (a.put op.dst undef) (w.setCells b o [v])):H7 (wpList P ops Q (op::rest) a w):=by
  obtain⟨h1,h2,h3,h4,x,y,h5,h6,h7⟩:=hs
  exact gd h1 T x y h5 b o v h2 h6 h7 ht h4 h3 h
theorem mP{α:Type}{f:α->List Value}(hf:∀x,(f x).length=k)(d:α):∀(xs:List α) {i:Nat} (c:α) (o:Nat) (us:List Value),i<xs.length->o+us.length<=k->f c=mh (f (xs.getD i d)) o us->mh (xs.flatMap f) (i*k+o) us=(xs.set i c).flatMap f
 | [],_,_,_,_,h,_,_=>by simp at h
 | x::xs,0,c,o,us,_,ho,hc=>by
  have hc':f c=mh (f x) o us:=hc;rw[List.set_cons_zero,xV,xV,hc'];unfold mh;rw[Nat.zero_mul,Nat.zero_add,List.take_append_of_le_length (by rw[hf];omega),List.drop_append_of_le_length (by rw[hf];omega)];simp only[List.append_assoc]
 | x::xs,i+1,c,o,us,h,ho,hc=>by
  have ih:=mP hf d xs (i:=i) c o us (by simpa using h) ho hc;unfold mh at ih |-;rw[xV,List.set_cons_succ,xV,<-ih,show(i+1)*k+o=k+(i*k+o) by rw[Nat.add_mul];omega];rw[List.take_append,List.drop_append,hf,xt (by rw[hf];omega),t' (by rw[hf];omega)];rw[show k+(i*k+o)-k=i*k+o by omega,show k+(i*k+o)+us.length-k=i*k+o+us.length by omega];simp
theorem aW.gone{qs:List MQ}(H:aW w dA ab nb cb bs (some ⟨g,0,none⟩) nj cj qs)(hi:i<nj)(b:Bool):
  aW (w.setCells g (i*18+16) [.bool b]) dA ab nb cb bs (some ⟨g,0,none⟩) nj cj (qs.set i ({(qs.getD i q0).1 with gone:=b},(qs.getD i q0).2))/\w.grownBy (w.setCells g (i*18+16) [.bool b]) (some g):=by
 have hl:=H.jl;obtain⟨h1,h2⟩:=gD [.bool b] (i*18+16) H.j (by rw[eB iw];show i*18+16+1<=_;omega)
 have hc:jy ({(qs.getD i q0).1 with gone:=b},(qs.getD i q0).2)=mh (jy (qs.getD i q0)) 16 [.bool b]:=by
  generalize qs.getD i q0=q
  rfl
 rw[mP iw q0 qs _ 16 [.bool b] (by omega) (by show 16+1<=18;omega) hc]at h1;obtain⟨c3,c2,c1⟩:=cU.1 H.d;have Aa:qs.getD i q0∈qs:=(by rw[m5,m9 (by omega)];simp);have Ba:g∈ob (some (⟨g,0,none⟩:Addr)):=(by simp[ob]);have Ca:∀q∈qs,∀x∈ob q.2.1,some g≠some x:=λq hq x hx e=>c2 g Ba (m2 e ▸ xI.2 ⟨q,hq,hx⟩);refine⟨⟨H.b.grown h2 λx hx e=>(c3 x hx).1 (m2 e ▸ Ba),by rw[List.length_set];exact hl,h1,?_,?_⟩,h2⟩
 ·
  intro q hq
  rcases eu (d:=q0) hq with rfl | ⟨k',h3,h4,rfl⟩
  .exact(H.t _ Aa).grown h2 (Ca _ Aa)
  ·
   have Da:qs.getD k' q0∈qs:=(by rw[m5,m9 h4];simp);exact(H.t _ Da).grown h2 (Ca _ Da)
 ·
  have e:=gC (ab:=ab) (aj:=some ⟨g,0,none⟩) (qs:=qs) (i:=i) ({(qs.getD i q0).1 with gone:=b},(qs.getD i q0).2) (by omega) rfl;rw[e];exact H.d
theorem aW.jthere{qs:List MQ}(H:aW w dA ab nb cb bs (some ⟨g,0,none⟩) nj cj qs)(hi:i<nj):w.there g (i*18+16) 1:=λj hj=>by
 obtain rfl:j=0:=by omega
 refine⟨?_,H.j.frozenAt _⟩;rw[Nat.add_zero,H.jcell hi (by omega)]
 rfl
def gI(m:M.Mc)(s:Int×Int)(n:Int):Nat:=if cK m s n=true then 4*n.toNat else 0
theorem uu(m:M.Mc)(s:Int×Int)(n:Int):gI m s n<=64:=by
 unfold gI
 split
 ·
  rename_i h;obtain⟨-,-,N,rfl,hN⟩:=gU h;have:=M.rowsN_pos hN;omega
 .omega
def jt(m:M.Mc)(s:Int×Int)(n:Int)(w:World)(e:Ending)(w':World):Prop:=
 ∃(a1:Option Addr) (c1:Nat) (a2:Option Addr) (c2:Nat) (a3:Option Addr) (c3:Nat) (a4:Option Addr) (c4:Nat),e=.returned (.tuple #[.agg #[it (eI m s n).s.1,it (eI m s n).s.2,it (eI m s n).e.1,it (eI m s n).e.2,.slice a1 (gI m s n) c1,.slice a2 (gI m s n) c2,.slice a3 (gI m s n) c3,.slice a4 (gI m s n) c4],.bool (cK m s n)])/\
  (aA 2 w' w.heap.size a1 (gI m s n) c1 (eI m s n).X/\aA 2 w' w.heap.size a2 (gI m s n) c2 (eI m s n).Y/\aA 2 w' w.heap.size a3 (gI m s n) c3 (eI m s n).QX/\aA 2 w' w.heap.size a4 (gI m s n) c4 (eI m s n).QY)/\(iZ a1 a2/\iZ a1 a3/\iZ a1 a4/\iZ a2 a3/\iZ a2 a4/\iZ a3 a4)/\m1 w w'
theorem ot{m:M.Mc}{s:Int×Int}{n:Int}{w':World}{e:Ending}(h:cK m s n=false)(he:e=.returned (.tuple #[.agg #[it 0,it 0,it 0,it 0,.slice none 0 0,.slice none 0 0,.slice none 0 0,.slice none 0 0],.bool false]))(hb:m1 w w'):jt m s n w e w':=by
 have e1:=tF h;have e2:gI m s n=0:=if_neg (by rw[h];decide);unfold jt;rw[e1,e2,h];exact⟨none,0,none,0,none,0,none,0,he,⟨aA.empty _ _ _,aA.empty _ _ _,aA.empty _ _ _,aA.empty _ _ _⟩,⟨fY _,fY _,fY _,fY _,fY _,fY _⟩,hb⟩
theorem lE(m:M.Mc)(s:Int×Int)(n:Int)(w:World):Calls prog 42 #[dp m,dd s,it n] w (jt m s n w):=by
 cases h:cK m s n with
 | false=>exact(lF m s n w h).mono λe w' ⟨h1,h2⟩=>ot h h1 h2
 | true=>
  obtain⟨hm,hs,N,rfl,hN⟩:=gU h;refine(mg m s N w hm hs hN).mono λe w' hp=>?_;have e1:eI m s N=m.pf s N:=uv h;have e2:gI m s N=4*N:=if_pos h;unfold jt;rw[e1,e2,h];exact hp
def du:HJ:=⟨M.j0,0,none,0⟩
theorem dz(hi:i<qs.length):qs.getD i du∈qs:=M.getD_mem hi
theorem gB{α β:Type}(f:α->β)(d:α){qs:List α}{q:α}(h:f q=f (qs.getD i d))(hi:i<qs.length):(qs.set i q).map f=qs.map f:=by
 rw[List.map_set,h,m5,m9 hi];show(qs.map f).set i (f qs[i])=_;rw[<-List.getElem_map f (h:=by simpa using hi),List.set_getElem_self]
section
variable {w w':World} {dA h:Nat} {now sr:Int} {ab:Option Addr} {nb cb:Nat} {bs:List Int} {ai:Option Addr} {ni ci:Nat} {mb:Nat} {qs:List HJ}
theorem bq.upd(H:bq w dA h now sr ab nb cb bs ai ni ci mb qs)(hi:i<qs.length)(q':HJ){row:Option Nat}(hid:q'.j.id=(qs.getD i du).j.id)(hb:q'.b=(qs.getD i du).b)(ha:q'.a=(qs.getD i du).a)
 (hg:w.grownBy w' row)(hr:∀g,row=some g->g∈(qs.getD i du).bl)(hL:aw w' q'.b q'.vs)(hO:bw w' dA q'.a q'.j.ts.length q'.c q'.j.ts):bq w' dA h now sr ab nb cb bs ai ni ci mb (qs.set i q'):=by
 obtain⟨⟨hm,Pa,Qa,Da⟩,⟨Ra,Sa,Ea⟩,Fa,Ga,Ha⟩:=bW.1 H.d;have Aa:=λg e=>xI.2 ⟨_,dz hi,hr g e⟩;have Ia:q'.bl=(qs.getD i du).bl:=(by unfold HJ.bl;rw[hb,ha]);have Ja:=dJ HJ.bl du qs i q' Ia hi;have Ba:dD h mb ab ai (qs.set i q')=dD h mb ab ai qs:=(by unfold dD;rw[Ja]);have Ka:=gB HJ.ent du (by unfold HJ.ent;rw[hid,hb]) hi;have La:(qs.set i q').map (λq:HJ=>q.j.id)=qs.map (λq:HJ=>q.j.id):=gB _ du hid hi;refine⟨H.l.grown hg λe=>Da (Aa _ e),H.b.grown hg λg hg' e=>(Fa g hg').2 (Aa _ e),?_,?_,?_,by rw[Ba];exact H.d,by rw[Ba];exact H.lo⟩
 .rw[La];exact H.i.grown hg λg hg' e=>Ga g hg' (Aa _ e)
 .rw[Ka];exact H.m.grown hg λe=>Ea (Aa _ e)
 ·
  intro q hq
  rcases eu (d:=du) hq with rfl | ⟨k,h3,h4,rfl⟩
  .exact⟨hL,hO⟩
  ·
   obtain⟨Na,Oa⟩:=H.j _ (dz h4);have Ca:∀g∈(qs.getD k du).bl,row≠some g:=λg hg' e=>i2 (f:=HJ.bl) (d:=du) Ha hi h4 h3 g (hr g e) hg';exact⟨Na.grown hg (Ca _ (by simp[HJ.bl])),Oa.grown hg λg hg'=>Ca g (by unfold HJ.bl;exact List.mem_cons_of_mem _ hg')⟩
theorem bq.tasks(H:bq w dA h now sr ab nb cb bs ai ni ci mb qs)(hi:i<qs.length)(hl:ts.length=(qs.getD i du).j.ts.length)(hg:w.grownBy w' (Value.slice (qs.getD i du).a n c).ownBlock)
 (hO:bw w' dA (qs.getD i du).a ts.length (qs.getD i du).c ts):bq w' dA h now sr ab nb cb bs ai ni ci mb (qs.set i ⟨{(qs.getD i du).j with ts:=ts},(qs.getD i du).b,(qs.getD i du).a,(qs.getD i du).c⟩):=by
 have hq:=H.j _ (dz hi)
 have hd:(qs.getD i du).b∉ob (qs.getD i du).a:=by
  obtain⟨_,_,_,_,Aa⟩:=bW.1 H.d;have h1:=List.Nodup.sublist (List.sublist_flatten_of_mem (List.mem_map_of_mem (dz hi))) Aa;unfold HJ.bl at h1;exact(List.nodup_cons.1 h1).1
 refine H.upd hi _ rfl rfl rfl hg (λg e=>by unfold HJ.bl;exact List.mem_cons_of_mem _ (bA e)) ?_ hO;have:=hq.1.grown hg λe=>hd (bA e);unfold HJ.vs fk at this |-;rw[<-hl]at this;exact this
theorem bq.gone(H:bq w dA h now sr ab nb cb bs ai ni ci mb qs)(hi:i<qs.length)(g:Bool):
  bq (w.setCell ⟨(qs.getD i du).b,16,none⟩ (.bool g)) dA h now sr ab nb cb bs ai ni ci mb (qs.set i ⟨{(qs.getD i du).j with gone:=g},(qs.getD i du).b,(qs.getD i du).a,(qs.getD i du).c⟩):=by
 have hq:=H.j _ (dz hi)
 have hd:(qs.getD i du).b∉ob (qs.getD i du).a:=by
  obtain⟨_,_,_,_,Aa⟩:=bW.1 H.d;have h1:=List.Nodup.sublist (List.sublist_flatten_of_mem (List.mem_map_of_mem (dz hi))) Aa;unfold HJ.bl at h1;exact(List.nodup_cons.1 h1).1
 have hg:=aV w ⟨(qs.getD i du).b,16,none⟩ (.bool g);exact H.upd hi _ rfl rfl rfl hg (λg e=>by unfold HJ.bl;rw[<-m2 e];simp) (hq.1.set 16 (by show 16<18;omega) _) (hq.2.grown hg λg hg' e=>hd (by rw[show(qs.getD i du).b=g from m2 e];exact hg'))
theorem bq.head(H:bq w dA h now sr ab nb cb bs ai ni ci mb qs)(hg:w.grownBy w' (some h)){now' next':Int}(hl:aw w' h [it now',it next',.slice ab nb cb,.slice ai ni ci,.map (some mb)]):bq w' dA h now' next' ab nb cb bs ai ni ci mb qs:=by
 obtain⟨⟨hm,Aa,Ba,Ca⟩,_⟩:=bW.1 H.d;have ne:∀{g},h≠g->some h≠some g:=λhne e=>hne (m2 e);exact⟨hl,H.b.grown hg λg hg'=>ne λe=>Aa (e ▸ hg'),H.i.grown hg λg hg'=>ne λe=>Ba (e ▸ hg'),H.m.grown hg (ne hm),H.j.grown hg λg hg'=>ne λe=>Ca (e ▸ hg'),H.d,H.lo⟩
theorem bq.order(H:bq w dA h now sr ab nb cb bs ai ni ci mb qs)(hg:w.grownBy w' (Value.slice ab n c).ownBlock)(hO:aA 2 w' dA ab nb cb bs'):bq w' dA h now sr ab nb cb bs' ai ni ci mb qs:=by
 obtain⟨⟨hm,Ba,Da,Ea⟩,⟨Ca,Fa,Ga⟩,Aa,Ha,Ia⟩:=bW.1 H.d;have ne:∀{g},(Value.slice ab n c).ownBlock=some g->g∈ob ab:=λe=>bA e;exact⟨H.l.grown hg λe=>Ba (ne e),hO,H.i.grown hg λg hg' e=>(Aa g (ne e)).1 hg',H.m.grown hg λe=>Ca (ne e),H.j.grown hg λg hg' e=>(Aa g (ne e)).2 hg',H.d,H.lo⟩
theorem bq.banned{w8:World}(H:bq w dA h now sr ab nb cb bs ai ni ci mb qs){ab':Option Addr}{nb' cb' z:Nat}(hg:w.grownBy w' (Value.slice ab n c).ownBlock)(hO:aA 2 w' dA ab' nb' cb' bs')(hz:w.heap.size<=z)
 (hat:(Value.slice ab' nb' cb').ownBlock=(Value.slice ab n c).ownBlock\/(Value.slice ab' nb' cb').ownBlock=some z)(g8:w'.grownBy w8 (some h))(l8:aw w8 h [it now,it sr,.slice ab' nb' cb',.slice ai ni ci,.map (some mb)]):
  bq w8 dA h now sr ab' nb' cb' bs' ai ni ci mb qs:=by
 obtain⟨⟨hm,Ea,Fa,Ga⟩,⟨Ha,Ia,Ja⟩,Ca,Ka,La⟩:=bW.1 H.d;have Na:=H.lt;have ne:∀{g},(Value.slice ab n c).ownBlock=some g->g∈ob ab:=λe=>bA e;have Da:∀{g},h≠g->some h≠some g:=λhne e=>hne (m2 e);have sj:∀{g},g∈qs.flatMap HJ.bl->g∈dD h mb ab ai qs:=λ{g} hg=>by unfold dD;simp only[List.mem_cons,xw];exact .inr (.inr (.inr (.inr hg)))
 have si:∀{g},g∈ob ai->g∈dD h mb ab ai qs:=λ{g} hg=>by simp[dD,hg]
 have sh:h∈dD h mb ab ai qs:=(by simp[dD]);have sm:mb∈dD h mb ab ai qs:=by simp[dD]
 have ha:∀{g},g∈ob ab'->g∈ob ab\/w.heap.size<=g:=λ{g} hg=>by
  have e:=cz (n:=nb') (c:=cb') hg
  rcases hat with e2 | e2
  .exact .inl (ne (e2.symm.trans e))
  .rw[e2]at e;injection e with e;exact .inr (by omega)
 have Ba:∀{g},g∈dD h mb ab ai qs->g∉ob ab->g∉ob ab':=λ{g} hg hn hi=>by
  rcases ha hi with h1 | h1
  .exact hn h1
  .have:=Na g hg;omega
 refine⟨l8,hO.grown g8 λg Aa=>Da λe=>Ba sh Ea (e ▸ Aa),(H.i.grown hg λg Aa e=>(Ca g (ne e)).1 Aa).grown g8 λg Aa=>Da λe=>Fa (e ▸ Aa),(H.m.grown hg λe=>Ha (ne e)).grown g8 (Da hm),(H.j.grown hg λg Aa e=>(Ca g (ne e)).2 Aa).grown g8 λg Aa=>Da λe=>Ga (e ▸ Aa),?_,?_⟩
 .exact bW.2 ⟨⟨hm,Ba sh Ea,Fa,Ga⟩,⟨Ba sm Ha,Ia,Ja⟩,λg Aa=>⟨λe=>Ba (si e) (λe2=>(Ca g e2).1 e) Aa,λe=>Ba (sj e) (λe2=>(Ca g e2).2 e) Aa⟩,Ka,La⟩
 ·
  intro g Aa;unfold dD at Aa;simp only[List.mem_cons,xw]at Aa
  rcases Aa with rfl | rfl | Aa | Aa | Aa
  .exact H.lo _ sh
  .exact H.lo _ sm
  .exact(xz hO g (cz Aa)).1
  .exact H.lo _ (si Aa)
  .exact H.lo _ (sj Aa)
end
theorem n9(hr:(qs.map (λq:HJ=>q.j.id)).Pairwise (·< ·)):∀{i:Nat},i<qs.length->gZ (qs.getD i du).j.id (qs.map HJ.ent)=some (tG ((qs.getD i du).b)):=by
 induction qs with
 | nil=>intro i h;simp at h
 | cons q l ih=>
  intro i hi;rw[List.map_cons,List.pairwise_cons]at hr
  match i with
  | 0=>
   show(if q.j.id=q.j.id then _ else _)=_;rw[if_pos rfl];rfl
  | k+1=>
   have hk:k<l.length:=(by simpa using hi);have Aa:=hr.1 _ (List.mem_map_of_mem (f:=λq:HJ=>q.j.id) (dz hk));show(if(l.getD k du).j.id=q.j.id then _ else gZ _ (l.map HJ.ent))=_;rw[if_neg (by omega)];exact ih hr.2 hk
theorem nU(hk:k<qs.length):(qs.map (λq:HJ=>q.j.id)).getD k 0=(qs.getD k du).j.id:=by
 rw[m5,m5,List.getElem?_map,m9 hk];rfl
theorem mQ(hk:k<qs.length):(qs.map (λq:HJ=>q.j)).getD k M.j0=(qs.getD k du).j:=by
 rw[m5,m5,List.getElem?_map,m9 hk];rfl
theorem bq.count(H:bq w dA h now sr ab nb cb bs ai ni ci mb qs):qs.length=ni:=by have:=H.i.count;rwa[List.length_map]at this
theorem bq.apart(H:bq w dA h now sr ab nb cb bs ai ni ci mb qs)(hi:i<qs.length):
  (∀g∈ob (qs.getD i du).a,dA<=g/\g≠h/\g≠mb/\g≠(qs.getD i du).b)/\(qs.getD i du).b≠h:=by
 obtain⟨⟨hm,Fa,Ga,Ba⟩,⟨Ha,Ia,Da⟩,Ja,Ka,Ea⟩:=bW.1 H.d;have Aa:∀{g},g∈(qs.getD i du).bl->g∈qs.flatMap HJ.bl:=λhg=>xI.2 ⟨_,dz hi,hg⟩;have h1:=List.Nodup.sublist (List.sublist_flatten_of_mem (List.mem_map_of_mem (dz hi))) Ea;unfold HJ.bl at h1;have h2:=(List.nodup_cons.1 h1).1;have hb:(qs.getD i du).b∈(qs.getD i du).bl:=(by simp[HJ.bl]);refine⟨λg hg=>?_,λe=>Ba (e ▸ Aa hb)⟩;have Ca:g∈(qs.getD i du).bl:=(by unfold HJ.bl;exact List.mem_cons_of_mem _ hg);exact⟨((H.j _ (dz hi)).2.lt g hg).1,λe=>Ba (e ▸ Aa Ca),λe=>Da (e ▸ Aa Ca),λe=>h2 (e ▸ hg)⟩
theorem uM(hi:i<qs.length)(q:HJ):(qs.set i q).getD i du=q:=by rw[m5,List.getElem?_set_self hi];rfl
def bC(w:World)(dA h:Nat)(now sr:Int)(ab:Option Addr)(nb cb:Nat)(bs:List Int)(ai:Option Addr)(ni ci:Nat)(mb:Nat)(qs:List HJ)(i:Nat)(q:HJ):Prop:=bq w dA h now sr ab nb cb bs ai ni ci mb qs/\i<qs.length/\qs.getD i du=q
section
variable {w w':World} {dA h:Nat} {now sr:Int} {ab:Option Addr} {nb cb:Nat} {bs:List Int} {ai:Option Addr} {ni ci:Nat} {mb:Nat} {qs:List HJ} {i:Nat} {q:HJ}
theorem bC.below(H:bC w dA h now sr ab nb cb bs ai ni ci mb qs i q)(hb:m1 w w'):bC w' dA h now sr ab nb cb bs ai ni ci mb qs i q:=⟨H.1.below hb,H.2⟩
theorem bC.lies(H:bC w dA h now sr ab nb cb bs ai ni ci mb qs i q):aw w q.b q.vs:=by have:=(H.1.j _ (dz H.2.1)).1;rwa[H.2.2]at this
theorem bC.owns(H:bC w dA h now sr ab nb cb bs ai ni ci mb qs i q):bw w dA q.a q.j.ts.length q.c q.j.ts:=by have:=(H.1.j _ (dz H.2.1)).2;rwa[H.2.2]at this
theorem bC.apart(H:bC w dA h now sr ab nb cb bs ai ni ci mb qs i q):(∀g∈ob q.a,dA<=g/\g≠h/\g≠mb/\g≠q.b)/\q.b≠h:=by have:=H.1.apart H.2.1;rwa[H.2.2]at this
theorem bC.own(H:bC w dA h now sr ab nb cb bs ai ni ci mb qs i q):q.b∉ob q.a:=λe=>(H.apart.1 _ e).2.2.2 rfl
theorem bC.lo(H:bC w dA h now sr ab nb cb bs ai ni ci mb qs i q):dA<=q.b:=by
 have:=H.1.lo (qs.getD i du).b (by unfold dD;simp only[List.mem_cons,xw];exact .inr (.inr (.inr (.inr (xI.2 ⟨_,dz H.2.1,by simp[HJ.bl]⟩)))))
 rwa[H.2.2]at this
theorem bC.look(H:bC w dA h now sr ab nb cb bs ai ni ci mb qs i q)(hr:(qs.map (λq:HJ=>q.j.id)).Pairwise (·< ·)):gZ q.j.id (qs.map HJ.ent)=some (tG q.b):=by have:=n9 hr H.2.1;rwa[H.2.2]at this
theorem bC.gone(H:bC w dA h now sr ab nb cb bs ai ni ci mb qs i q)(g:Bool):bC (w.setCell ⟨q.b,16,none⟩ (.bool g)) dA h now sr ab nb cb bs ai ni ci mb (qs.set i ⟨{q.j with gone:=g},q.b,q.a,q.c⟩) i ⟨{q.j with gone:=g},q.b,q.a,q.c⟩:=by
 obtain⟨h1,h2,rfl⟩:=H;exact⟨h1.gone h2 g,by rw[List.length_set];exact h2,uM h2 _⟩
theorem bC.tasks(H:bC w dA h now sr ab nb cb bs ai ni ci mb qs i q)(hl:ts.length=q.j.ts.length)(hg:w.grownBy w' (Value.slice q.a n c).ownBlock)(hO:bw w' dA q.a ts.length q.c ts):
  bC w' dA h now sr ab nb cb bs ai ni ci mb (qs.set i ⟨{q.j with ts:=ts},q.b,q.a,q.c⟩) i ⟨{q.j with ts:=ts},q.b,q.a,q.c⟩:=by
 obtain⟨h1,h2,rfl⟩:=H;exact⟨h1.tasks h2 hl hg hO,by rw[List.length_set];exact h2,uM h2 _⟩
end
def wV(w:World)(dA h:Nat)(m:M.Mt):Prop:=∃ab nb cb ai ni ci mb qs,bq w dA h m.now m.next ab nb cb m.bs ai ni ci mb qs/\qs.map (λq:HJ=>q.j)=m.js
def gO(w:World)(dA h:Nat)(r:M.Mt×Int×Int)(e:Ending)(w':World):Prop:=e=.returned (.tuple #[it r.2.1,it r.2.2])/\wV w' dA h r.1/\Below dA w w'
def c8(p:M.Tk->Bool)(k:Nat):List M.Tk->Int
 | []=>-1
 | t::l=>if p t then(k:Int)else c8 p (k+1) l
theorem j9(p:M.Tk->Bool):∀(ts:List M.Tk) (k:Nat),c8 p k ts=(match ts.findIdx? p with | some i=>((k+i:Nat):Int) | none=>-1)
 | [],_=>rfl
 | t::l,k=>by
  unfold c8;rw[List.findIdx?_cons];by_cases e:p t
  .rw[if_pos e,if_pos e];rfl
  ·
   rw[if_neg e,if_neg e,j9 p l (k+1)]
   cases l.findIdx? p with
   | none=>rfl
   | some i=>show((k+1+i:Nat):Int)=((k+(i+1):Nat):Int);omega
theorem kK(p:M.Tk->Bool):∀(ts:List M.Tk) (k:Nat),decide (0<=c8 p k ts)=ts.any p
 | [],_=>rfl
 | t::l,k=>by
  unfold c8;rw[List.any_cons];by_cases e:p t
  .rw[if_pos e,e];simp
  .rw[if_neg e,kK p l (k+1)];simp[e]
theorem sd(t:M.Tk)(w:World):Rt 152 #[nt t] w (.bool (M.isFree t)):=by
 have C1:=eN t;unfold M.isFree;generalize M.leased t=ol at *;obtain⟨d,x,y⟩:=t;dsimp only[nt]at C1 |-;have HB:H7 (m1 w (w.alloc (.cells (fp d x y).toArray 75))):=(m8 _ _).alloc (m3 _) _;go_enter func152,ntmps152
 cases d with
 | true=>
  go_wp2;go_ret;exact⟨by simp,HB.o⟩
 | false=>
  (go_wp2_with fail);refine(C1 _).mono ?_;rintro e w2 ⟨rfl,hb⟩;have Aa:=HB.t hb;go_wp2;go_ret;exact⟨by simp,Aa.o⟩
theorem lW{a:Option Addr}(w:World)(hz:bS w a n c ts):
  Rt 151 #[.slice a n c,.func (.func 152) #[] #[]] w (it (c8 (M.isFree) 0 ts)):=by
 have bn:(n:Int)<=9223372036854775807:=(by have:=hz.big;have:=hz.le;omega);have Ha:(n:Int)<=c:=(by have:=hz.le;omega);have HZ:=Hd hz
 generalize hR:c8 (M.isFree) 0 ts=R;have HR:=Hd hR;clear hR hz;go_enter func151,ntmps151;go_wp2
 go_loopw [8] (λi wr=>∃k:Nat,k<=n/\i=it k/\c8 (M.isFree) k (ts.drop k)=R/\m1 w wr) (λi _=>n-(intOf i).toNat)
 case atStart=>exact⟨0,by omega,rfl,HR.o,m8 _ _⟩
 case round=>
  obtain⟨k,hk,rfl,hg,Ca⟩:=hrel;have Ba:=Hd Ca;clear Ca;by_cases Da:k<n
  ·
   obtain⟨b1,o1,rfl,Ea⟩:=(HZ.o.below Ba.o).at (by omega)
   have hG:(if(M.isFree) (ts.getD k M.t0)then(k:Int)else c8 (M.isFree) (k+1) (ts.drop (k+1)))=R:=by
    rw[<-hg,aX M.t0 HZ.o.len Da];rfl
   have hA:=Ea k Da;have C1:Calls prog _ _ wr _:=sd (ts.getD k M.t0) wr;generalize ts.getD k M.t0=x at hA hG C1;obtain⟨d,x,y⟩:=x;dsimp only[nt]at C1;have HG:=Hd hG;have a0:wr.cell? ⟨b1,o1+k*3,none⟩=some (.bool d):=hA 0 (by omega);have a1:wr.cell? ⟨b1,o1+k*3+1,none⟩=some (it x):=hA 1 (by omega);have a2:wr.cell? ⟨b1,o1+k*3+2,none⟩=some (it y):=hA 2 (by omega);clear Ea hA hg hG;generalize(M.isFree) ⟨d,x,y⟩=ow at C1 HG;have hI:(k:Int)<(n:Int):=(by omega);(go_wp2_with fail);refine C1.mono ?_;rintro e w2 ⟨rfl,Fa⟩;have Ga:=Ba.t Fa;clear Fa
   cases ow with
   | true=>
    have Aa:H7 ((k:Int)=R):=(by show _=_;have:=HG.o;simpa using this);go_wp2;go_ret;exact⟨by rw[Aa.o];rfl,Ga.o⟩
   | false=>
    have Aa:H7 (c8 (M.isFree) (k+1) (ts.drop (k+1))=R):=(by show _=_;have:=HG.o;simpa using this);go_wp2;go_roundw
    case rel=>exact⟨k+1,by omega,by go_num,Aa.o,Ga.o⟩
    case measure=>simp[intOf];omega
  ·
   have Aa:H7 ((-1:Int)=R):=by
    show _=_;rw[t' (by rw[HZ.o.len];omega)]at hg;exact hg
   go_wp2;go_ret;exact⟨by rw[<-Aa.o];rfl,Ba.o⟩
def jm(j:M.Jb):Int:=if j.gone then -1 else c8 M.isFree 0 j.ts
theorem rq(j:M.Jb):jm j=(match M.openP j with | some k=>(k:Int) | none=>-1):=by
 unfold jm M.openP;by_cases e:j.gone
 .rw[if_pos e,if_pos e]
 ·
  rw[if_neg e,if_neg e,j9]
  cases j.ts.findIdx? M.isFree with
  | none=>rfl
  | some i=>simp
theorem lY{q:HJ}(w:World)(hl:aw w q.b q.vs)(ho:bw w dA q.a q.j.ts.length q.c q.j.ts):
  Rt 98 #[tG q.b] w (it (jm q.j)):=by
 have Ba:=hl.c 16;have Aa:=hl.c 17;have C1:=lW w ho.sees;unfold jm;generalize c8 M.isFree 0 q.j.ts=r at *;clear hl ho;generalize q.j.gone=g at *;generalize q.j.ts.length=tn at Aa C1;generalize q.a=ta at Aa C1;generalize q.c=tc at Aa C1;generalize q.b=b at *;go_enter func98,ntmps98
 cases g with
 | true=>
  go_wp2;go_ret;exact⟨rfl,m8 _ _⟩
 | false=>
  (go_wp2_with fail);refine C1.mono ?_;rintro e w2 ⟨rfl,hb⟩;have HB:=Hd hb;go_wp2;go_ret;exact⟨rfl,HB.o⟩
theorem iJ(who:Int)(w:World)(H:bq w dA h now sr ab nb cb bs ai ni ci mb qs):
  Rq 96 #[tG h,it who] w (.bool (bs.contains who)):=by
 have x2:=H.l.c 2;have C1:=gJ who w H.b.sees;generalize bs.contains who=o at *;go_enter func96,ntmps96;(go_wp2_with fail);refine C1.mono ?_;rintro e wz ⟨rfl,rfl⟩;go_wp2;go_ret;exact⟨rfl,rfl⟩
theorem sR(who:Int)(t:M.Tk)(w:World)(hc:w.cell? ⟨kb,0,none⟩=some (it who)):Rt 149 #[nt t,tG kb] w (.bool (M.mineT who t)):=by
 have e:M.mineT who t=(t.dC==who):=(by unfold M.mineT;by_cases e:t.dC=who <;> simp[e]);rw[e];obtain⟨d,x,y⟩:=t;dsimp only[nt];have HB:H7 (m1 w (w.alloc (.cells (fp d x y).toArray 75))):=(m8 _ _).alloc (m3 _) _;have Aa:(w.alloc (.cells (fp d x y).toArray 75)).cell? ⟨kb,0,none⟩=some (it who):=(HB.o.cell (p:=⟨kb,0,none⟩) (xJ w _ hc)).trans hc;go_enter func149,ntmps149;go_wp2;go_ret;exact⟨rfl,HB.o⟩
theorem kz{a:Option Addr}(who:Int)(w:World)(hz:bS w a n c ts)(hc:w.cell? ⟨kb,0,none⟩=some (it who)):
  Rt 151 #[.slice a n c,.func (.func 149) #[] #[tG kb]] w (it (c8 (M.mineT who) 0 ts)):=by
 have bn:(n:Int)<=9223372036854775807:=(by have:=hz.big;have:=hz.le;omega);have Ha:(n:Int)<=c:=(by have:=hz.le;omega);have HZ:=Hd hz;have HC:=Hd hc;clear hc;generalize hR:c8 (M.mineT who) 0 ts=R;have HR:=Hd hR;clear hR hz;go_enter func151,ntmps151;go_wp2
 go_loopw [8] (λi wr=>∃k:Nat,k<=n/\i=it k/\c8 (M.mineT who) k (ts.drop k)=R/\m1 w wr) (λi _=>n-(intOf i).toNat)
 case atStart=>exact⟨0,by omega,rfl,HR.o,m8 _ _⟩
 case round=>
  obtain⟨k,hk,rfl,hg,Ca⟩:=hrel;have Aa:=Hd Ca;clear Ca;by_cases Da:k<n
  ·
   obtain⟨b1,o1,rfl,Ea⟩:=(HZ.o.below Aa.o).at (by omega)
   have hG:(if(M.mineT who) (ts.getD k M.t0)then(k:Int)else c8 (M.mineT who) (k+1) (ts.drop (k+1)))=R:=by
    rw[<-hg,aX M.t0 HZ.o.len Da];rfl
   have hA:=Ea k Da;have C1:Calls prog _ _ wr _:=sR (kb:=kb) who (ts.getD k M.t0) wr ((Aa.o.cell (p:=⟨kb,0,none⟩) (xJ w _ HC.o)).trans HC.o);generalize ts.getD k M.t0=x at hA hG C1;obtain⟨d,x,y⟩:=x;dsimp only[nt]at C1;have HG:=Hd hG;have a0:wr.cell? ⟨b1,o1+k*3,none⟩=some (.bool d):=hA 0 (by omega);have a1:wr.cell? ⟨b1,o1+k*3+1,none⟩=some (it x):=hA 1 (by omega);have a2:wr.cell? ⟨b1,o1+k*3+2,none⟩=some (it y):=hA 2 (by omega);clear Ea hA hg hG;generalize(M.mineT who) ⟨d,x,y⟩=ow at C1 HG;have hI:(k:Int)<(n:Int):=(by omega);(go_wp2_with fail);refine C1.mono ?_;rintro e w2 ⟨rfl,Fa⟩;have Ga:=Aa.t Fa;clear Fa
   cases ow with
   | true=>
    have Ba:H7 ((k:Int)=R):=(by show _=_;have:=HG.o;simpa using this);go_wp2;go_ret;exact⟨by rw[Ba.o];rfl,Ga.o⟩
   | false=>
    have Ba:H7 (c8 (M.mineT who) (k+1) (ts.drop (k+1))=R):=(by show _=_;have:=HG.o;simpa using this);go_wp2;go_roundw
    case rel=>exact⟨k+1,by omega,by go_num,Ba.o,Ga.o⟩
    case measure=>simp[intOf];omega
  ·
   have Ba:H7 ((-1:Int)=R):=by
    show _=_;rw[t' (by rw[HZ.o.len];omega)]at hg;exact hg
   go_wp2;go_ret;exact⟨by rw[<-Ba.o];rfl,Aa.o⟩
theorem iY{a:Option Addr}(who:Int)(w:World)(hz:bS w a n c ts)(hc:w.cell? ⟨kb,0,none⟩=some (it who)):
  Rt 150 #[.slice a n c,.func (.func 149) #[] #[tG kb]] w (.bool (ts.any (M.mineT who))):=by
 have C1:=kz who w hz hc;have HR:H7 (decide (0<=c8 (M.mineT who) 0 ts)=ts.any (M.mineT who)):=kK _ ts 0;generalize c8 (M.mineT who) 0 ts=r at C1 HR;generalize ts.any (M.mineT who)=o at *;go_enter func150,ntmps150;(go_wp2_with fail);refine C1.mono ?_;rintro e w1 ⟨rfl,hb⟩;have HB:=Hd hb;go_wp2;go_ret;exact⟨aB HR.o,HB.o⟩
theorem rZ(who:Int)(w:World)(H:bq w dA h now sr ab nb cb bs ai ni ci mb qs)(hr:(qs.map (λq:HJ=>q.j.id)).Pairwise (·< ·)):
  Rt 97 #[tG h,it who] w (.bool (qs.any (λq=>q.j.ts.any (M.mineT who)))):=by
 have HH:=Hd H;have Sa:=Hd hr;have Ta:=H.count;have bn:(ni:Int)<=9223372036854775807:=(by have:=H.i.sees.big;have:=H.i.sees.le;omega);have Va:(ni:Int)<=ci:=(by have:=H.i.sees.le;omega);generalize hR:qs.any (λq=>q.j.ts.any (M.mineT who))=R;have HR:=Hd hR;have Ga:H7 (m1 w (w.alloc (.cells #[it who] 2))):=(m8 _ _).alloc (m3 _) _;have Ha:=cQ w [it who] 2;have x3:(w.alloc (.cells #[it who] 2)).cell? ⟨h,3,none⟩=some (.slice ai ni ci):=(H.l.alloc _).at 3;go_enter func97,ntmps97;(go_wp2_with fail);clear x3;generalize w.alloc (.cells #[it who] 2)=wa at *
 go_loopw [14] (λi wr=>∃k:Nat,k<=ni/\i=it k/\(qs.drop k).any (λq=>q.j.ts.any (M.mineT who))=R/\aw wr w.heap.size [it who]/\m1 w wr) (λi _=>ni-(intOf i).toNat)
 case atStart=>exact⟨0,by omega,rfl,HR.o,Ha.o,Ga.o⟩
 case round=>
  clear Ga Ha HR;obtain⟨k,hk,rfl,hg,Ia,Ca⟩:=hrel;have Da:=Hd Ca;have Ja:=Hd Ia;have HW:=Hd (HH.o.below Ca);clear Ca Ia;by_cases Ka:k<ni
  ·
   obtain⟨b1,o1,rfl,La⟩:=HW.o.i.sees.at (by omega);have c1:=La k Ka;have Na:=nU (qs:=qs) (k:=k) (by omega);rw[Na]at c1;have Oa:=n9 Sa.o (i:=k) (by omega);obtain⟨Pa,Qa⟩:=HW.o.j _ (dz (i:=k) (by omega))
   have hG:((qs.getD k du).j.ts.any (M.mineT who)||(qs.drop (k+1)).any (λq=>q.j.ts.any (M.mineT who)))=R:=by
    rw[<-hg,aX du Ta Ka,List.any_cons]
   have Ba:=Pa.c 17;have C1:=iY (kb:=w.heap.size) who wr Qa.sees (Ja.o.at 0);have Ea:=HW.o.m.get (P:=prog) (t:=103) underlying103 underlying2 _ _ Oa false;simp only[Bool.false_eq_true,if_false]at Ea;have h3:=HW.o.l.c 3;have h4:=HW.o.l.c 4;clear Pa Qa Oa La hg Na;generalize(qs.getD k du).j.ts.any (M.mineT who)=o at hG C1;generalize(qs.getD k du).j.ts.length=tn at Ba C1;generalize(qs.getD k du).a=ta at Ba C1;generalize(qs.getD k du).c=tc at Ba C1;generalize(qs.getD k du).b=qb at Ba Ea;generalize(qs.getD k du).j.id=qi at c1 Ea;have HG:=Hd hG;have hI:(k:Int)<(ni:Int):=(by omega);(go_wp2_with fail);refine C1.mono ?_;rintro e w2 ⟨rfl,Fa⟩;have Ra:=Da.t Fa;have Ua:=Ja.b Fa;clear Fa
   cases o with
   | true=>
    have Aa:H7 (true=R):=(by show _=_;have:=HG.o;simpa using this);go_wp2;go_ret;exact⟨by rw[<-Aa.o];rfl,Ra.o⟩
   | false=>
    have Aa:H7 ((qs.drop (k+1)).any (λq=>q.j.ts.any (M.mineT who))=R):=(by show _=_;have:=HG.o;rwa[Bool.false_or]at this);go_wp2;go_roundw
    case rel=>exact⟨k+1,by omega,by go_num,Aa.o,Ua.o,Ra.o⟩
    case measure=>simp[intOf];omega
  ·
   have Aa:H7 (false=R):=by
    show _=_;rw[t' (by omega)]at hg;exact hg
   go_wp2;go_ret;exact⟨by rw[<-Aa.o];rfl,Da.o⟩
theorem kj{b:Nat}{a:Option Addr}(now:Int)(w:World)(hc:w.cell? ⟨b,17,none⟩=some (.slice a n c))(hba:b∉ob a)(ho:bw w dA a n c ts):
  Calls prog 94 #[tG b,it now] w λe w'=>e=.returned (.tuple #[])/\bw w' dA a n c (M.free (M.dueT now) ts)/\w.grownBy w' (Value.slice a n c).ownBlock:=by
 have bn:(n:Int)<=9223372036854775807:=(by have:=ho.sees.big;have:=ho.sees.le;omega);have Ra:(n:Int)<=c:=(by have:=ho.sees.le;omega);have HO:=Hd ho;have HC:H7 (∀W,w.grownBy W (Value.slice a n c).ownBlock->W.cell? ⟨b,17,none⟩=some (.slice a n c)):=λW hg=>hg.cell hc (λe=>hba (bA e.symm));generalize hR:M.free (M.dueT now) ts=R;have HR:=Hd hR;clear hR ho hba;go_enter func94,ntmps94;(go_wp2_with fail);clear hc
 go_loopw [11] (λi wr=>∃(p:Nat) (Aa:List M.Tk),p<=n/\i=it p/\bw wr dA a n c Aa/\fP (M.dueT now) p Aa=R/\w.grownBy wr (Value.slice a n c).ownBlock) (λi _=>n-(intOf i).toNat)
 case atStart=>exact⟨0,ts,by omega,rfl,HO.o,HR.o,World.grownBy.refl _ _⟩
 case round=>
  clear HO HR;obtain⟨p,Aa,hp,rfl,ho,hg,Da⟩:=hrel;by_cases Ca:p<n
  ·
   obtain⟨g,rfl⟩:=ho.block (by omega);have hl':=ho.1;have a0:wr.cell? ⟨g,p*3,none⟩=some (.bool (Aa.getD p M.t0).done):=ho.cells Ca (j:=0) (by omega);have a1:wr.cell? ⟨g,p*3+1,none⟩=some (it (Aa.getD p M.t0).dC):=ho.cells Ca (j:=1) (by omega);have a2:wr.cell? ⟨g,p*3+2,none⟩=some (it (Aa.getD p M.t0).due):=ho.cells Ca (j:=2) (by omega);have hk:=@kG (M.dueT now) Aa p (by omega);have hs:=@mB (M.dueT now) Aa p (by omega);have C1:=eN (Aa.getD p M.t0);unfold M.dueT at hk hs;generalize Aa.getD p M.t0=x at a0 a1 a2 hk hs C1;obtain⟨d,x,y⟩:=x;dsimp only[nt]at a0 a1 a2 hk hs C1;generalize M.leased ⟨d,x,y⟩=ol at hk hs C1;have HK:=Hd hk;have HS:=Hd hs;have HG:=Hd hg;have HO:=Hd ho;have HW:=Hd Da;have Ga:=cQ wr (fp d x y) 75;have Ha:H7 (bw (wr.alloc (.cells (fp d x y).toArray 75)) dA (some ⟨g,0,none⟩) n c Aa):=HO.o.grown (xC wr _ none) (λ_ _=>by simp);have Ia:H7 (w.grownBy (wr.alloc (.cells (fp d x y).toArray 75)) (Value.slice (some ⟨g,0,none⟩) n c).ownBlock):=HW.o.trans (xC wr _ _);have hI:(p:Int)<(n:Int):=(by omega);clear hk hs hg ho Da;(go_wp2_with fail);clear a0 a1 a2 HO HW;generalize wr.alloc (.cells (fp d x y).toArray 75)=w5 at *;generalize wr.heap.size=tb at Ga |-;refine(C1 w5).mono ?_;rintro e w6 ⟨rfl,hb⟩;have La:=Ga.b hb;have Ba:=Hd (Ha.o.grown (bB hb none) (λ_ _=>by simp));have Ea:=Hd (Ia.o.trans (bB hb _));clear hb Ga Ha Ia C1;have y2:=La.c 2
   cases hd:(ol&&decide (y<=now))with
   | false=>
    have Fa:H7 (fP (M.dueT now) (p+1) Aa=R):=(HK.o hd).trans HG.o;clear HK HS HG
    cases ol with
    | false=>
     clear hd;go_wp2;go_roundw
     case rel=>exact⟨p+1,Aa,by omega,by go_num,Ba.o,Fa.o,Ea.o⟩
     case measure=>simp[intOf];omega
    | true=>
     have Na:decide (y<=now)=false:=(by simpa using hd);clear hd;go_wp2;go_roundw
     case rel=>exact⟨p+1,Aa,by omega,by go_num,Ba.o,Fa.o,Ea.o⟩
     case measure=>simp[intOf];omega
   | true=>
    have Fa:H7 (fP (M.dueT now) (p+1) (Aa.set p M.t0)=R):=(HS.o hd).trans HG.o;clear HK HS HG;obtain⟨rfl,Na⟩:=Bool.and_eq_true_iff.1 hd;clear hd;have Sa:=HC.o w6 Ea.o;obtain⟨Ja,Ka⟩:=Ba.o.put Ca M.t0;have Oa:=Hd Ja;have Pa:=Hd (Ea.o.trans Ka);have b0:=Ba.o.cells Ca (j:=0) (by omega);have b1:=Ba.o.cells Ca (j:=1) (by omega);have b2:=Ba.o.cells Ca (j:=2) (by omega);have Qa:=Ba.o.2.frozenAt (p*3+0);have Ta:=Ba.o.2.frozenAt (p*3+1);have Ua:=Ba.o.2.frozenAt (p*3+2);rw[Nat.add_zero]at b0 Qa;generalize Aa.getD p M.t0=zz at b0 b1 b2;obtain⟨z1,z2,z3⟩:=zz;simp only[eK,List.getElem?_cons_zero,List.getElem?_cons_succ]at b0 b1 b2;clear Ja Ka;go_wp2;go_roundw
    case rel=>exact⟨p+1,Aa.set p M.t0,by omega,by go_num,Oa.o,Fa.o,Pa.o⟩
    case measure=>simp[intOf];omega
  ·
   have HF:H7 (bw wr dA a n c R/\w.grownBy wr (Value.slice a n c).ownBlock):=⟨by rw[<-hg,mA (by have:=ho.1;omega)];exact ho,Da⟩;clear ho hg Da;go_wp2;exact bodyPost_end (v:=.tuple #[]) (by simp[results,results94,go_sem]) rfl ⟨rfl,HF.o⟩
def HJ.fr(f:M.Tk->Bool)(q:HJ):HJ:=⟨M.freeJ f q.j,q.b,q.a,q.c⟩
def HJ.ff(f:M.Tk->Bool)(i:Nat)(qs:List HJ):List HJ:=qs.take i++(qs.drop i).map (HJ.fr f)
theorem HJ.ff_end(h:qs.length<=i):HJ.ff f i qs=qs:=by
 unfold HJ.ff;rw[xt h,t' h];simp
theorem HJ.ff_in(h:i<qs.length):HJ.ff f (i+1) (qs.set i (HJ.fr f (qs.getD i du)))=HJ.ff f i qs:=by
 unfold HJ.ff;rw[aX du rfl h,List.take_add_one,List.getElem?_set_self h,List.drop_set_of_lt (by omega),List.take_set_of_le (m3 _)];simp
theorem HJ.ff_js(f:M.Tk->Bool)(qs:List HJ):(HJ.ff f 0 qs).map (λq:HJ=>q.j)=(qs.map (λq:HJ=>q.j)).map (M.freeJ f):=by
 unfold HJ.ff;simp[HJ.fr]
theorem uW(i':Int)(w:World)(H:bq w dA h now sr ab nb cb bs ai ni ci mb qs)(HRt:M.Right now sr bs (qs.map (λq:HJ=>q.j)))(hm0:1<=i')(hm1:i'<=1000000000)(mr:dA<=w.heap.size):
  Calls prog 48 #[tG h,.agg #[it i']] w (gO w dA h (M.tick ⟨now,sr,bs,qs.map (λq:HJ=>q.j)⟩ i')):=by
 have Gb:=HRt.now0;have Hb:=HRt.now1;have Ka:H7 ((qs.map (λq:HJ=>q.j.id)).Pairwise (·< ·)):=(by have:=HRt.rise;rw[List.pairwise_map]at this;exact List.pairwise_map.2 this);have La:=H.count;have bn:(ni:Int)<=9223372036854775807:=(by have:=H.i.sees.big;have:=H.i.sees.le;omega);have Ib:(ni:Int)<=ci:=(by have:=H.i.sees.le;omega);unfold gO M.tick;dsimp only;rw[<-HJ.ff_js];generalize hN:M.tickN now i'=N;have HN:=Hd hN;generalize Na:HJ.ff (M.dueT N) 0 qs=RQ;have Oa:=Hd Na;have Ea:H7 (m1 w (w.alloc (.cells #[it i'] 114))):=(m8 _ _).alloc (m3 _) _;have Pa:=cQ w [it i'] 114;have Ca:=Hd (H.below Ea.o);clear H HRt hN Na;go_enter func48,ntmps48;(go_wp2_with fail);generalize w.alloc (.cells #[it i'] 114)=wa at *;have x0:=Ca.o.l.c 0;have f0:=Ca.o.l.fr 0;have t0:=Pa.c 0;apply fR
 case f=>
  intro key
  go_region_law (fail)
  all_goals exact key.out
 case h=>
  have hv:(if 1000000000<IntKind.i64.wrap (now+i')then(1000000000:Int)else IntKind.i64.wrap (now+i'))=N:=by
   have hw:IntKind.i64.wrap (now+i')=now+i':=(by rw[xK];omega);rw[<-HN.o,hw];unfold M.tickN;by_cases e:now+i'<1000000000
   .rw[if_pos e,if_neg (by omega)]
   ·
    rw[if_neg e];by_cases e2:1000000000<now+i'
    .rw[if_pos e2]
    .rw[if_neg e2];omega
  rw[hv];have Qa:=Ca.o.l.set 0 (by simp) (it N);have Ha:=aV wa ⟨h,0,none⟩ (it N);have Ia:=Hd ((Ca.o.head Ha Qa).below (m8 _ _).drew);have Ra:=Hd (((Ea.o.mono mr).trans (ap Ha (tr mr Ea.o.size) (λz e=>by rw[<-m2 e];exact Ca.o.lo h (by simp[dD])))).drew);clear hv Qa Ha x0 f0 t0 Ea Pa Ca HN;generalize(wa.setCell ⟨h,0,none⟩ (it N)).drew=wb at *;have y3:=Ia.o.l.c 3;(go_wp2_with fail);clear y3;generalize hIDS:qs.map (λq:HJ=>q.j.id)=IDS at Ka;have Sa:=Hd hIDS;clear hIDS
  go_loopw [24] (λi wr=>∃(k:Nat) (Ba:List HJ),k<=ni/\i=it k/\bq wr dA h N sr ab nb cb bs ai ni ci mb Ba/\HJ.ff (M.dueT N) k Ba=RQ/\Ba.map (λq:HJ=>q.j.id)=IDS/\Below dA w wr) (λi _=>ni-(intOf i).toNat)
  case atStart=>exact⟨0,qs,by omega,rfl,Ia.o,Oa.o,Sa.o,Ra.o⟩
  case round=>
   clear Ia Ra Oa Sa La;obtain⟨k,Ba,hk,rfl,hh,hg,Fa,Ga⟩:=hrel;have La:=hh.count;have Za:=tr mr Ga.size;have HB:=Hd Ga;by_cases Ab:k<ni
   ·
    obtain⟨b1,o1,rfl,Ta⟩:=hh.i.sees.at (by omega);have c1:=Ta k Ab;rw[nU (by omega)]at c1;obtain⟨q,hq⟩:∃q,Ba.getD k du=q:=⟨_,rfl⟩;have Bb:H7 (HJ.ff (M.dueT N) (k+1) (Ba.set k (HJ.fr (M.dueT N) q))=RQ):=(by show _=_;rw[<-hq,HJ.ff_in (by omega)];exact hg);have Cb:H7 ((Ba.set k (HJ.fr (M.dueT N) q)).map (λq:HJ=>q.j.id)=IDS):=(by show _=_;rw[gB (λq:HJ=>q.j.id) du (by rw[hq];rfl) (by omega)];exact Fa);rw[hq]at c1;have HA:H7 (bC wr dA h N sr ab nb cb bs (some ⟨b1,o1,none⟩) ni ci mb Ba k q):=⟨hh,by omega,hq⟩;have Ua:=Hd (HA.o.look (by rw[Fa];exact Ka.o));have Ja:H7 ((Value.slice q.a q.j.ts.length q.c).ownBlock≠some h):=λe=>(HA.o.apart.1 h (bA e)).2.1 rfl;have Va:H7 ((Value.slice q.a q.j.ts.length q.c).ownBlock≠some mb):=λe=>(HA.o.apart.1 mb (bA e)).2.2.1 rfl;have hI:(k:Int)<(ni:Int):=(by omega);clear Ta hg hh Fa Ga hq;(go_wp2_with fail);clear c1;refine cP wr (Value.slice q.a q.j.ts.length q.c).ownBlock (by kernel_rfl) λhHeld=>?_;have Da:=Hd (HA.o.below (m8 _ _).drew);have Wa:=Hd HB.o.drew;have Xa:dA<=wr.drew.heap.size:=Za;generalize wr.drew=Db at *;refine tE 0 (tG h) ?_;refine tE 1 (tG h) ?_;refine tE 2 (.pointer (some ⟨h,4,none⟩)) ?_;refine tk 3 (.map (some mb)) ?_ ?_
    .intro wq Aa;have c0:=(HA.o.1.l.grown Aa Ja.o).c 4;go_simp
    refine tE 4 (it q.j.id) ?_;refine tk 5 (tG q.b) ?_ ?_
    .intro wq Aa;have Eb:=(HA.o.1.m.grown Aa Va.o).get (P:=prog) (t:=103) underlying103 underlying2 _ _ Ua.o false;simp only[Bool.false_eq_true,if_false]at Eb;go_simp
    refine tE 6 (tG h) ?_;refine tE 7 (tG h) ?_;refine tE 8 (tG h) ?_;refine tk 9 (it N) ?_ ?_
    .intro wq Aa;have c0:=(HA.o.1.l.grown Aa Ja.o).c 0;go_simp
    refine aT 10 λKk hK=>?_;go_simp;refine(kj N Db (Da.o.lies.at 17) Da.o.own Da.o.owns).mono ?_;rintro e Ya ⟨rfl,ho,hg⟩;go_simp;refine hK.out _ _ (hHeld.trans hg) (λ_=>?_);clear hK Kk;refine bi ?_;go_simp;have HF:H7 (bq Ya dA h N sr ab nb cb bs (some ⟨b1,o1,none⟩) ni ci mb (Ba.set k (HJ.fr (M.dueT N) q))):=(Da.o.tasks (by rw[M.free_len]) hg (by rw[M.free_len];exact ho)).1;have Fb:=Hd (Wa.o.trans (ap hg Xa (λz e=>(Da.o.apart.1 z (bA e)).1)));clear ho hg hHeld Da Wa Xa HA HB Ua Ja Va;go_wp2;go_roundw
    case rel=>exact⟨k+1,_,by omega,by go_num,HF.o,Bb.o,Cb.o,Fb.o⟩
    case measure=>simp[intOf];omega
   ·
    have HF:H7 (bq wr dA h N sr ab nb cb bs ai ni ci mb RQ):=(by show bq _ _ _ _ _ _ _ _ _ _ _ _ _ _;rw[<-hg,HJ.ff_end (by omega)];exact hh);clear hh hg Fa Ga;go_wp2;exact s' (v:=.tuple #[it 0,it 0]) (by simp[results,results48,go_sem]) rfl ⟨rfl,⟨_,_,_,_,_,_,_,_,HF.o,rfl⟩,HB.o⟩
theorem i8(id:Int):∀(qs:List HJ) (k:Nat),(∃i,i<qs.length/\gZ id (qs.map HJ.ent)=some (tG ((qs.getD i du).b))/\M.jobAt id k (qs.map (λq:HJ=>q.j))=((k+i:Nat):Int))\/(gZ id (qs.map HJ.ent)=none/\M.jobAt id k (qs.map (λq:HJ=>q.j))=-1)
 | [],_=>.inr ⟨rfl,rfl⟩
 | q::qs,k=>by
  rw[List.map_cons,List.map_cons];unfold M.jobAt;show(∃i,_/\(if id=q.j.id then _ else gZ id (qs.map HJ.ent))=_/\_)\/((if id=q.j.id then _ else gZ id (qs.map HJ.ent))=none/\_);by_cases e:id=q.j.id
  ·
   rw[if_pos e.symm,if_pos e];exact .inl ⟨0,by simp,rfl,rfl⟩
  ·
   rw[if_neg e,if_neg (λe2=>e e2.symm)]
   rcases i8 id qs (k+1)with⟨i,h1,h2,h3⟩ | ⟨h1,h2⟩
   .exact .inl ⟨i+1,by simpa using h1,h2,by rw[h3];congr 1;omega⟩
   .exact .inr ⟨h1,h2⟩
theorem pZ{id:Int}(hi:i<qs.length)(h:M.jobAt id 0 (qs.map (λq:HJ=>q.j))=(i:Int)):M.jobOf id (qs.map (λq:HJ=>q.j))=(qs.getD i du).j:=by
 unfold M.jobOf;rw[h,xX];exact mQ hi
set_option maxRecDepth 10000 in
theorem rQ(id:Int)(w:World)(H:bq w dA h now sr ab nb cb bs ai ni ci mb qs)(HRt:M.Right now sr bs (qs.map (λq:HJ=>q.j)))(mr:dA<=w.heap.size):
  Calls prog 49 #[tG h,.agg #[it id]] w (gO w dA h (M.cancel ⟨now,sr,bs,qs.map (λq:HJ=>q.j)⟩ id)):=by
 have Fb:=HRt.now0;have Gb:=HRt.now1;have Da:H7 (m1 w (w.alloc (.cells #[it id] 116))):=(m8 _ _).alloc (m3 _) _;have Ga:=cQ w [it id] 116;have Aa:=Hd (H.below Da.o);have x4:=Aa.o.l.c 4;have t0:=Ga.c 0;have Fa:=Hd ((Da.o.drew).mono mr);have Ha:=tr mr (Da.o.drew).size;unfold M.cancel;dsimp only
 rcases i8 id qs 0 with⟨i,hi,hlk,hat⟩ | ⟨hlk,hat⟩
 ·
  rw[Nat.zero_add]at hat;obtain⟨q,hq⟩:∃q,qs.getD i du=q:=⟨_,rfl⟩;have Ia:=pZ hi hat;rw[hq]at hlk Ia;have Ta:H7 (M.free (M.dueT (now+5)) q.j.ts=M.free M.leased q.j.ts):=HRt.due (by rw[<-hq,<-mQ hi];exact M.getD_mem (by simpa using hi));have HA:H7 (bC (w.alloc (.cells #[it id] 116)).drew dA h now sr ab nb cb bs ai ni ci mb qs i q):=⟨Aa.o.below (m8 _ _).drew,hi,hq⟩;have Ea:=(show bY (w.alloc (.cells #[it id] 116)).drew mb (qs.map HJ.ent)from Aa.o.m).get (P:=prog) (t:=103) underlying103 underlying2 id _ hlk true;simp only[if_true]at Ea;rw[Ia,hat,xX,if_neg (by omega)];generalize Na:q.j.ts.all (·.done)=oa;have Ua:=Hd Na;generalize Oa:q.j.gone=og;have Va:=Hd Oa;clear hlk hat Ia hq HRt Na Oa;go_enter func49,ntmps49;(go_wp2_with fail);generalize(w.alloc (.cells #[it id] 116))=wa at *;apply fR
  case f=>
   intro key
   go_region_law (fail)
   all_goals exact key.out
  case h=>
   clear Ea x4 t0 Aa Ga Da;generalize wa.drew=wb at *;have Ja:wb.cell? ⟨q.b,16,none⟩=some (.bool og):=(by rw[<-Va.o];exact HA.o.lies.at 16);have Pa:=HA.o.lies.c 17;have C1:=gV wb Pa HA.o.owns.sees;rw[Ua.o]at C1
   cases og with
   | true=>
    go_wp2;exact s' (v:=.tuple #[it 8,it 0]) (by simp[results,results49,go_sem]) rfl ⟨rfl,⟨_,_,_,_,_,_,_,_,HA.o.1,rfl⟩,Fa.o⟩
   | false=>
    (go_wp2_with fail);refine C1.mono ?_;rintro e wc ⟨rfl,hb⟩;have Ba:=Hd (HA.o.below hb);have Qa:=Hd (Fa.o.trans (hb.mono Ha));have Ra:=tr Ha hb.size;clear hb HA Fa Ja Pa C1 Ha
    cases oa with
    | true=>
     go_wp2;exact s' (v:=.tuple #[it 8,it 0]) (by simp[results,results49,go_sem]) rfl ⟨rfl,⟨_,_,_,_,_,_,_,_,Ba.o.1,rfl⟩,Qa.o⟩
    | false=>
     have Ja:=Ba.o.lies.c 16;have Wa:=Ba.o.lies.fr 16;have Ca:=Ba.o.gone true;have Xa:=Hd Ca;have y0:=Ca.1.l.c 0;have C2:=kj (now+5) (wc.setCell ⟨q.b,16,none⟩ (.bool true)) (Ca.lies.at 17) Ca.own Ca.owns;have Ka:=aV wc ⟨q.b,16,none⟩ (.bool true);have Ya:=Hd (Qa.o.trans (ap Ka Ra (λz e=>by rw[<-m2 e];exact Ba.o.lo)));have Za:=tr Ra Ka.size;clear Ka Ca;(go_wp2_with fail);clear Ja Wa y0;generalize(wc.setCell ⟨q.b,16,none⟩ (.bool true))=wg at *;refine C2.mono ?_;rintro e wf ⟨rfl,ho,hg⟩;have HF:=Xa.o.tasks (ts:=M.free (M.dueT (now+5)) q.j.ts) (by rw[M.free_len]) hg (by rw[M.free_len];exact ho);have Ab:=Hd (Ya.o.trans (ap hg Za (λz e=>(Ba.o.apart.1 z (bA e)).1)))
     have Bb:H7 (∃La,bq wf dA h now sr ab nb cb bs ai ni ci mb La/\La.map (λq:HJ=>q.j)=(qs.map (λq:HJ=>q.j)).set i {M.freeJ M.leased q.j with gone:=true}):=⟨_,HF.1,by
      rw[List.set_set,List.map_set]
      congr 1
      show(M.Jb.mk _ _ _ _ _ _)=_;rw[Ta.o]
      rfl⟩
     clear C2 ho hg HF;go_wp2;obtain⟨La,Cb,Db⟩:=Bb.o;exact s' (v:=.tuple #[it 0,it 0]) (by simp[results,results49,go_sem]) rfl ⟨rfl,⟨_,_,_,_,_,_,_,_,Cb,Db⟩,Ab.o⟩
 ·
  have Eb:=Hd (Aa.o.below (m8 _ _).drew);have Sa:(zeroValue 118).run prog (w.alloc (.cells #[it id] 116)).drew=.ok (.pointer none) (w.alloc (.cells #[it id] 116)).drew:=(by kernel_rfl);have Ea:=(show bY (w.alloc (.cells #[it id] 116)).drew mb (qs.map HJ.ent)from Aa.o.m).miss (P:=prog) (t:=103) underlying103 underlying2 id Sa hlk true;simp only[if_true]at Ea;rw[hat,if_pos (by omega)];clear hlk Sa hat HRt;go_enter func49,ntmps49;(go_wp2_with fail);generalize(w.alloc (.cells #[it id] 116))=wa at *;apply fR
  case f=>
   intro key
   go_region_law (fail)
   all_goals exact key.out
  case h=>
   clear Ea x4 t0 Aa Ga Da;generalize wa.drew=wb at *;go_wp2;exact s' (v:=.tuple #[it 4,it 0]) (by simp[results,results49,go_sem]) rfl ⟨rfl,⟨_,_,_,_,_,_,_,_,Eb.o,rfl⟩,Fa.o⟩
end Go.Proofs.YtbjalickbnpnkaaGreatDoor
