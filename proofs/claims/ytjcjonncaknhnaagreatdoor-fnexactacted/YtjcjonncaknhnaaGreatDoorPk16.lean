import Derived.Test.YtjcjonncaknhnaaGreatDoorPk15
namespace Go.Proofs.YtjcjonncaknhnaaGreatDoor
open Go.RowKit Go.Proofs.Tryz
set_option linter.unusedSimpArgs false
set_option maxHeartbeats 32000000
set_option maxRecDepth 10000
namespace M
def scT(who:Int)(gone:Bool)(i k:Nat)(acc:Option (Nat×Nat)):List Tk→Option (Option (Nat×Nat))
 | []=>some acc
 | t::l=>if t.l'=who then none else scT who gone i (k+1) (if acc.isNone&&(!gone&&(!t.done&&decide (t.l'=0)))then some (i,k)else acc) l
def scJ(who:Int)(i:Nat)(acc:Option (Nat×Nat)):List Jb→Option (Option (Nat×Nat))
 | []=>some acc
 | j::l=>match scT who j.gone i 0 acc j.ts with
  | none=>none
  | some acc'=>scJ who (i+1) acc' l
def scI(who:Int)(i:Nat)(l:List Jb):Option (Option (Nat×Nat))→Option (Option (Nat×Nat))
 | none=>none
 | some acc=>scJ who i acc l
def lsA:Option (Nat×Nat)→Int
 | none=>-1
 | some x=>x.1
def lsP:Option (Nat×Nat)→Int
 | none=>-1
 | some x=>x.2
end M
set_option linter.unusedVariables false in
def pU:Prop:=∀(i':Nat) (ab aj:Option Addr) (nb cb nj cj:Nat) (bs:List Int) (qs:List MQ) (now tj who:Int) (w:World) (H:aF w i' ab nb cb bs aj nj cj qs) (tf:i'≤w.heap.size) (n0:0≤now) (n1:now≤1000000000) (hid:∀q∈qs,0<q.1.id∧q.1.id≤1000000000) (hT:∀q∈qs,q.1.ts.length≤8),
  Calls prog 47 #[.agg #[.int .i64 now,.int .i64 tj,.slice ab nb cb,.slice aj nj cj],.int .i64 who] w fun e w'=>
   match M.scJ who 0 none (qs.map (·.1))with
   | none=>e=.returned (.tuple #[.agg (au now tj ab nb cb aj nj cj).toArray,it 6,it 0])∧aF w' i' ab nb cb bs aj nj cj qs∧Below i' w w'
   | some none=>e=.returned (.tuple #[.agg (au now tj ab nb cb aj nj cj).toArray,it 4,it 0])∧aF w' i' ab nb cb bs aj nj cj qs∧Below i' w w'
   | some (some (i,k))=>e=.returned (.tuple #[.agg (au now tj ab nb cb aj nj cj).toArray,it 0,it (100*(qs.getD i q0).1.id+k)])∧aF w' i' ab nb cb bs aj nj cj (qs.set i ({(qs.getD i q0).1 with ts:=(qs.getD i q0).1.ts.set k ⟨false,who,now+5⟩},(qs.getD i q0).2))∧Below i' w w'
def su:sR pU:=by
 apply sR.mk
 case h=>
  intro key0 Pa ab aj nb cb nj cj bs qs Aa Ca Ba w H Bb n0 n1 Xb hT;have HM:=Hd (H);have Yb:qs.length=nj:=H.jl;have Yc:(nj:Int)≤9223372036854775807:=(by have:=H.sees.j.big;have:=H.sees.j.le;omega);have Zc:(nj:Int)≤cj:=(by have:=H.sees.j.le;omega);clear H;generalize Zb:M.scJ Ba 0 none (qs.map (·.1))=RQ;have Ac:=Hd (Zb);clear Zb;go_enter func47,ntmps47;have Ea:H9 (ae ((w.alloc (.cells (au Aa Ca ab nb cb aj nj cj).toArray 27)).alloc (.cells be.toArray 27)) w.heap.size (au Aa Ca ab nb cb aj nj cj)):=(aI _ _ _).alloc _;have Fa:H9 (ae ((w.alloc (.cells (au Aa Ca ab nb cb aj nj cj).toArray 27)).alloc (.cells be.toArray 27)) (w.heap.size+1) be):=aO _ _ _ _;have Ja:H9 (Below w.heap.size w ((w.alloc (.cells (au Aa Ca ab nb cb aj nj cj).toArray 27)).alloc (.cells be.toArray 27))):=((tv _ _).alloc (tr _) _).alloc (by simp) _;(go_wp2_with fail);generalize((w.alloc (.cells (au Aa Ca ab nb cb aj nj cj).toArray 27)).alloc (.cells be.toArray 27))=wa at *;have x0:=Ea.o.c 0;have x1:=Ea.o.c 1;have x2:=Ea.o.c 2;have x3:=Ea.o.c 3;(go_wp2_with fail);clear x0 x1 x2 x3;have Bc:=Hd (HM.o.below Ja.o);have Ib:H9 (∀g∈bj ab aj qs,Pa≤g∧g<w.heap.size):=HM.o.lt;have Cc:=Hd (Ja.o.mono Bb);have Dc:=Hd (Xb);have Ec:=Hd (hT);clear HM Xb hT
  go_loopw [7,8,9] (fun a b i wr=>∃(n:Nat) (Da:Option (Nat×Nat)),n≤nj∧i=it n∧a=it (M.lsA Da)∧b=it (M.lsP Da)∧M.scJ Ba n Da ((qs.map (·.1)).drop n)=RQ∧(∀x,Da=some x→x.1<nj∧x.2<(qs.getD x.1 q0).1.ts.length)∧aF wr Pa ab nb cb bs aj nj cj qs∧ae wr w.heap.size (au Aa Ca ab nb cb aj nj cj)∧ae wr (w.heap.size+1) be∧Below Pa w wr) (fun _ _ i _=>nj-(intOf i).toNat)
  case atStart=>exact⟨0,none,by omega,rfl,rfl,rfl,Ac.o,(fun x h=>by simp at h),Bc.o,Ea.o,Fa.o,Cc.o⟩
  case round=>
   obtain⟨n,Da,hn,rfl,rfl,rfl,hR,Qa,hG,Ka,Ra,Sa⟩:=hrel;clear Bc Ac Cc Ea Fa Ja;by_cases Ta:n<nj
   case pos=>
    obtain⟨gj,rfl⟩:=hG.block (by omega);have Fc:(n:Int)<(nj:Int):=(by omega);have hT:=hG.jtask Ta;have Wa:wr.cell? ⟨gj,n*18+17,none⟩=some (.slice (qs.getD n q0).2.1 (qs.getD n q0).1.ts.length (qs.getD n q0).2.2):=hG.jcell Ta (by omega);have Gc:wr.cell? ⟨gj,n*18+16,none⟩=some (.bool (qs.getD n q0).1.gone):=hG.jcell Ta (by omega);have Cb:((qs.getD n q0).1.ts.length:Int)≤9223372036854775807:=(by have:=hT.sees.big;have:=hT.sees.le;omega);have Hc:((qs.getD n q0).1.ts.length:Int)≤(qs.getD n q0).2.2:=(by have:=hT.sees.le;omega);have Ha:M.scI Ba (n+1) ((qs.map (·.1)).drop (n+1)) (M.scT Ba (qs.getD n q0).1.gone n 0 Da (qs.getD n q0).1.ts)=RQ:=(by rw[←hR,aQ M.j0 (by simp;exact Yb) Ta,dh];unfold M.scJ M.scI;cases M.scT Ba (qs.getD n q0).1.gone n 0 Da (qs.getD n q0).1.ts <;> rfl);generalize Za:(qs.getD n q0).1.ts.length=tn at Wa Cb Hc hT;generalize Ic:(qs.getD n q0).2.1=ta at Wa hT;generalize Jb:(qs.getD n q0).2.2=tc at Wa hT Hc;generalize Jc:(qs.getD n q0).1.gone=Ab at Gc Ha;generalize Tb:(qs.getD n q0).1.ts=tl at Za Ha hT;have x3:=Ka.c 3;generalize Kc:(qs.map (·.1)).drop (n+1)=DR at Ha;have Kb:=Hd (hG);have Lb:=Hd (Ha);have Ua:H9 ((qs.getD n q0).1.ts=tl∧(qs.getD n q0).1.ts.length=tn∧(qs.getD n q0).2.1=ta∧(qs.getD n q0).2.2=tc∧(qs.getD n q0).1.gone=Ab):=⟨Tb,by rw[Tb];exact Za,Ic,Jb,Jc⟩;have Lc:=Hd (Za);have Ad:=Hd (Kc);have Nb:=Hd (Ka);have Ob:=Hd (Ra);have Pb:=Hd (Sa);have Ia:=Hd (Qa);clear hG hR Ha Ka Ra Sa Za Ic Jb hT Jc Tb Kc Qa Gc;(go_wp2_with fail);clear x3 Wa
    go_loopw [7,8,10] (fun a b i wr=>∃(p:Nat) (Da:Option (Nat×Nat)),p≤tn∧i=it p∧a=it (M.lsA Da)∧b=it (M.lsP Da)∧M.scI Ba (n+1) DR (M.scT Ba Ab n p Da (tl.drop p))=RQ∧(∀x,Da=some x→x.1<nj∧x.2<(qs.getD x.1 q0).1.ts.length)∧aF wr Pa ab nb cb bs (some ⟨gj,0,none⟩) nj cj qs∧ae wr w.heap.size (au Aa Ca ab nb cb (some ⟨gj,0,none⟩) nj cj)∧ae wr (w.heap.size+1) be∧Below Pa w wr) (fun _ _ i _=>tn-(intOf i).toNat)
    case atStart=>exact⟨0,Da,by omega,rfl,rfl,rfl,Lb.o,Ia.o,Kb.o,Nb.o,Ob.o,Pb.o⟩
    case round=>
     clear Kb Lb Nb Ob Pb Ia;obtain⟨p,Da,hp,rfl,rfl,rfl,hR,Qa,hG,Ka,Ra,Sa⟩:=hrel;have Wa:wr.cell? ⟨gj,n*18+17,none⟩=some (.slice (qs.getD n q0).2.1 (qs.getD n q0).1.ts.length (qs.getD n q0).2.2):=hG.jcell Ta (by omega);rw[Ua.o.2.1,Ua.o.2.2.1,Ua.o.2.2.2.1]at Wa;have x3:=Ka.c 3;by_cases Db:p<tn
     case neg=>
      have Je:p=tn:=(by omega);have Kb:=Hd (hG);have Lb:H9 (M.scJ Ba (n+1) Da ((qs.map (·.1)).drop (n+1))=RQ):=(by show _=_;rw[Ad.o,←hR,tC (by have:=Lc.o;omega)];rfl);have Nb:=Hd (Ka);have Ob:=Hd (Ra);have Pb:=Hd (Sa);have Ia:=Hd (Qa);have Bd:¬ (p:Int)<(tn:Int):=(by omega);clear hG hR Ka Ra Sa Qa;go_wp2;go_roundw
      case rel=>exact⟨n+1,Da,by omega,by go_num,rfl,rfl,Lb.o,Ia.o,Kb.o,Nb.o,Ob.o,Pb.o⟩
      case measure=>simp[intOf];omega
     have hT:=hG.jtask Ta;rw[Ua.o.2.1,Ua.o.2.2.1,Ua.o.2.2.2.1,Ua.o.1]at hT;obtain⟨g,rfl⟩:=hT.block (by omega);have Bd:(p:Int)<(tn:Int):=(by omega);have a0:wr.cell? ⟨g,p*3,none⟩=some (.bool (tl.getD p M.t0).done):=hT.cells Db (j:=0) (by omega);have a1:wr.cell? ⟨g,p*3+1,none⟩=some (it (tl.getD p M.t0).l'):=hT.cells Db (j:=1) (by omega);have a2:wr.cell? ⟨g,p*3+2,none⟩=some (it (tl.getD p M.t0).due):=hT.cells Db (j:=2) (by omega);have Ha:=hR;rw[aQ M.t0 Lc.o Db]at Ha;unfold M.scT at Ha;generalize tl.getD p M.t0=cq at a0 a1 a2 Ha;obtain⟨td,x,y⟩:=cq;dsimp only at a0 a1 a2 Ha;have HR:H9 (_=RQ):=Ha;clear hR Ha hT;have La:=Hd (hG);have Ea:=Hd (Ka);have Fa:=Hd (Ra);have Ja:=Hd (Sa);have Ia:=Hd (Qa);clear hG Ka Ra Sa Qa;have Eb:=il wr (.cells (dq td x y).toArray 47);have Xa:=Hd (La.o.below Eb);have Na:=Hd (Ea.o.belowS Eb);have Ga:=Hd (Fa.o.belowS Eb);have Ya:H9 (Below Pa w (wr.alloc (.cells (dq td x y).toArray 47))):=Ja.o.trans (Eb.mono (tB Bb Ja.o.size));clear La Ea Fa Ja;clear Eb;have Qb:=cz wr (dq td x y) 47;(go_wp2_with(with_reducible refine af 39 ?_ ?_;rfl));show wpList _ _ _ _ _ _;clear a0 a1 a2 x3 Wa;generalize(wr.alloc (.cells (dq td x y).toArray 47))=w5 at *;generalize wr.heap.size=tb at Qb ⊢;have Ke:=Qb.o.c 0;have Le:=Qb.o.c 1;have Ne:=Qb.o.c 2;by_cases Fb:x=Ba
     ·
      skip
      have g2:(x==Ba)=true:=(by simp[Fb]);obtain rfl:RQ=none:=by have:=HR.o;rw[if_pos Fb]at this;exact this.symm
      clear HR Fb;have o0:=Na.o.c 0;have o1:=Na.o.c 1;have o2:=Na.o.c 2;have o3:=Na.o.c 3;have r0:=Ga.o.c 0;have Cd:=Ga.o.fr 0;have r1:=Ga.o.c 1;have Dd:=Ga.o.fr 1;have r2:=Ga.o.c 2;have Ed:=Ga.o.fr 2;have r3:=Ga.o.c 3;have Fd:=Ga.o.fr 3;(go_wp2_with fail);show bodyPost _ _ _ _ _ (w5.setCells (w.heap.size+1) 0 (au Aa Ca ab nb cb (some ⟨gj,0,none⟩) nj cj));have Ub:ae (w5.setCells (w.heap.size+1) 0 (au Aa Ca ab nb cb (some ⟨gj,0,none⟩) nj cj)) (w.heap.size+1) (au Aa Ca ab nb cb (some ⟨gj,0,none⟩) nj cj):=Ga.o.setCells (au Aa Ca ab nb cb (some ⟨gj,0,none⟩) nj cj) 0 (by simp);have Gb:=dv w5 (w.heap.size+1) 0 (au Aa Ca ab nb cb (some ⟨gj,0,none⟩) nj cj);have Vb:=Xa.o.grown Gb (fun g hg e=>by skip;have:=Ib.o g hg;have:=tm e;omega);have Wb:Below Pa w (w5.setCells (w.heap.size+1) 0 (au Aa Ca ab nb cb (some ⟨gj,0,none⟩) nj cj)):=Ya.o.trans (ac Gb (tB Bb Ya.o.size) (fun z e=>by have:=tm e;omega));generalize(w5.setCells (w.heap.size+1) 0 (au Aa Ca ab nb cb (some ⟨gj,0,none⟩) nj cj))=wf at *;exact tx (aA rfl rfl (tS wf (w.heap.size+1) 0 27 _ _ Ub.row underlying27 rfl (by kernel_rfl))) rfl ⟨rfl,Vb,Wb⟩
     have g2:(x==Ba)=false:=(by simp[Fb]);have Oa:H9 (M.scI Ba (n+1) DR (M.scT Ba Ab n (p+1) (if Da.isNone&&(!Ab&&(!td&&decide (x=0)))then some (n,p)else Da) (tl.drop (p+1)))=RQ):=(by show _=_;have:=HR.o;rw[if_neg Fb]at this;exact this);clear HR;have x3:=Na.o.c 3;have Gd:w5.cell? ⟨gj,n*18+16,none⟩=some (.bool (qs.getD n q0).1.gone):=Xa.o.jcell Ta (by omega);rw[Ua.o.2.2.2.2]at Gd
     cases Da with
     | some xa=>
      have gA:decide (M.lsA (some xa)<0)=false:=decide_eq_false (by show ¬ ((xa.1:Nat):Int)<0;omega);have Va:H9 (M.scI Ba (n+1) DR (M.scT Ba Ab n (p+1) (some xa) (tl.drop (p+1)))=RQ):=(by show _=_;have:=Oa.o;rw[show(some xa:Option (Nat×Nat)).isNone=false from rfl,Bool.false_and,if_neg (by simp)]at this;exact this);clear Oa;generalize Nc:M.lsA (some xa)=la at *;generalize Oc:M.lsP (some xa)=lp;have Pc:H9 (M.lsA (some xa)=la∧M.lsP (some xa)=lp):=⟨Nc,Oc⟩;clear Nc Oc;have Oe:¬ la<0:=(by simpa using gA);go_wp2;go_roundw
      case rel=>exact⟨p+1,some xa,by omega,by go_num,by rw[Pc.o.1],by rw[Pc.o.2],Va.o,Ia.o,Xa.o,Na.o,Ga.o,Ya.o⟩
      case measure=>simp[intOf];omega
     | none=>
      cases Ab with
      | true=>
       have Va:H9 (M.scI Ba (n+1) DR (M.scT Ba true n (p+1) none (tl.drop (p+1)))=RQ):=(by show _=_;have:=Oa.o;simpa using this);clear Oa;have gA:M.lsA none=-1:=rfl;have gP:M.lsP none=-1:=rfl;go_wp2;go_roundw
       case rel=>exact⟨p+1,none,by omega,by go_num,rfl,rfl,Va.o,Ia.o,Xa.o,Na.o,Ga.o,Ya.o⟩
       case measure=>simp[intOf];omega
      | false=>
       cases td with
       | true=>
        have Va:H9 (M.scI Ba (n+1) DR (M.scT Ba false n (p+1) none (tl.drop (p+1)))=RQ):=(by show _=_;have:=Oa.o;simpa using this);clear Oa;have gA:M.lsA none=-1:=rfl;have gP:M.lsP none=-1:=rfl;go_wp2;go_roundw
        case rel=>exact⟨p+1,none,by omega,by go_num,rfl,rfl,Va.o,Ia.o,Xa.o,Na.o,Ga.o,Ya.o⟩
        case measure=>simp[intOf];omega
       | false=>
        by_cases Rb:x=0
        ·
         skip
         have g3:(x==0)=true:=(by simp[Rb]);have Va:H9 (M.scI Ba (n+1) DR (M.scT Ba false n (p+1) (some (n,p)) (tl.drop (p+1)))=RQ):=(by show _=_;have:=Oa.o;rw[Rb]at this;simpa using this);clear Oa;have Id:H9 (∀x,some (n,p)=some x→x.1<nj∧x.2<(qs.getD x.1 q0).1.ts.length):=fun x h=>by injection h with h;subst h;exact⟨Ta,by show p<_;rw[Ua.o.2.1];exact Db⟩
         have gA:M.lsA none=-1:=rfl;have gP:M.lsP none=-1:=rfl;go_wp2;go_roundw
         case rel=>exact⟨p+1,(some (n,p)),by omega,by go_num,rfl,rfl,Va.o,Id.o,Xa.o,Na.o,Ga.o,Ya.o⟩
         case measure=>simp[intOf];omega
        have g3:(x==0)=false:=(by simp[Rb]);have Va:H9 (M.scI Ba (n+1) DR (M.scT Ba false n (p+1) none (tl.drop (p+1)))=RQ):=(by show _=_;have:=Oa.o;simpa[Rb]using this);clear Oa;have gA:M.lsA none=-1:=rfl;have gP:M.lsP none=-1:=rfl;go_wp2;go_roundw
        case rel=>exact⟨p+1,none,by omega,by go_num,rfl,rfl,Va.o,Ia.o,Xa.o,Na.o,Ga.o,Ya.o⟩
        case measure=>simp[intOf];omega
   have Jd:n=nj:=(by omega);obtain rfl:RQ=some Da:=by rw[←hR,tC (by simp;omega)];rfl
   have Fc:¬ (n:Int)<(nj:Int):=(by omega);have Ia:=Hd (Qa);have La:=Hd (hG);have Ea:=Hd (Ka);have Fa:=Hd (Ra);have Ja:=Hd (Sa);clear hG Ka Ra Sa hR Qa;subst Jd
   cases Da with
   | none=>
    have gA:M.lsA none=-1:=rfl;have o0:=Ea.o.c 0;have o1:=Ea.o.c 1;have o2:=Ea.o.c 2;have o3:=Ea.o.c 3;have r0:=Fa.o.c 0;have Cd:=Fa.o.fr 0;have r1:=Fa.o.c 1;have Dd:=Fa.o.fr 1;have r2:=Fa.o.c 2;have Ed:=Fa.o.fr 2;have r3:=Fa.o.c 3;have Fd:=Fa.o.fr 3;(go_wp2_with fail);show bodyPost _ _ _ _ _ (wr.setCells (w.heap.size+1) 0 (au Aa Ca ab nb cb aj n cj));have Ub:ae (wr.setCells (w.heap.size+1) 0 (au Aa Ca ab nb cb aj n cj)) (w.heap.size+1) (au Aa Ca ab nb cb aj n cj):=Fa.o.setCells (au Aa Ca ab nb cb aj n cj) 0 (by simp);have Gb:=dv wr (w.heap.size+1) 0 (au Aa Ca ab nb cb aj n cj);have Vb:=La.o.grown Gb (fun g hg e=>by skip;have:=Ib.o g hg;have:=tm e;omega);have Wb:Below Pa w (wr.setCells (w.heap.size+1) 0 (au Aa Ca ab nb cb aj n cj)):=Ja.o.trans (ac Gb (tB Bb Ja.o.size) (fun z e=>by have:=tm e;omega));generalize(wr.setCells (w.heap.size+1) 0 (au Aa Ca ab nb cb aj n cj))=wf at *;exact tx (aA rfl rfl (tS wf (w.heap.size+1) 0 27 _ _ Ub.row underlying27 rfl (by kernel_rfl))) rfl ⟨rfl,Vb,Wb⟩
   | some xa=>
    obtain⟨i,j⟩:=xa;obtain⟨hi,hj⟩:=Ia.o _ rfl;dsimp only at hi hj;have eA:M.lsA (some (i,j))=(i:Int):=rfl;have eP:M.lsP (some (i,j))=(j:Int):=rfl;rw[eA,eP];clear eA eP Ia;obtain⟨gj,rfl⟩:=La.o.block (by omega);have hT:=La.o.jtask hi;obtain⟨g,hg⟩:=hT.block (by omega);rw[hg]at hT;have Sb:wr.cell? ⟨gj,i*18+17,none⟩=some (.slice (qs.getD i q0).2.1 (qs.getD i q0).1.ts.length (qs.getD i q0).2.2):=La.o.jcell hi (by omega);rw[hg]at Sb;have c0:wr.cell? ⟨gj,i*18,none⟩=some (it (qs.getD i q0).1.id):=La.o.jcell hi (j:=0) (by omega);have b0:=hT.cells hj (j:=0) (by omega);have Qc:=hT.2.frozenAt (j*3+0);have b1:=hT.cells hj (j:=1) (by omega);have Kd:=hT.2.frozenAt (j*3+1);have b2:=hT.cells hj (j:=2) (by omega);have Ld:=hT.2.frozenAt (j*3+2);rw[Nat.add_zero]at b0 Qc;generalize Nd:(qs.getD i q0).1.ts.getD j M.t0=zz at b0 b1 b2;obtain⟨z1,z2,z3⟩:=zz;simp only[bO,List.getElem?_cons_zero,List.getElem?_cons_succ]at b0 b1 b2;clear Nd;have Hb:qs.getD i q0∈qs:=(by rw[tu,tw (by omega)];simp);have Rc:=Dc.o _ Hb;have Sc:=Ec.o _ Hb;have Cb:((qs.getD i q0).1.ts.length:Int)≤(qs.getD i q0).2.2:=(by have:=hT.sees.le;omega);have HP:=La.o.task hi hg hj ⟨false,Ba,Aa+5⟩;obtain⟨Tc,Uc⟩:=HP;have Od:H9 _:=Tc;have Pd:H9 _:=Uc
    have Vc:g∈bj ab (some ⟨gj,0,none⟩) qs:=by
     unfold bj;simp only[tI];exact .inr (.inr (tU.2 ⟨_,Hb,by rw[hg];simp[ob]⟩))
    have Qd:=Ib.o g Vc;have Rd:g≠gj:=fun e=>(bK.1 La.o.d).2.1 gj (by simp[ob]) (tU.2 ⟨_,Hb,by rw[hg];simp[ob,e]⟩);have Wc:bj ab (some ⟨gj,0,none⟩) (qs.set i ({(qs.getD i q0).1 with ts:=(qs.getD i q0).1.ts.set j ⟨false,Ba,Aa+5⟩},(qs.getD i q0).2))=bj ab (some ⟨gj,0,none⟩) qs:=dL (qs:=qs) (i:=i) _ (by omega) (by rfl);have Sd:H9 _:=Wc;generalize Za:(qs.getD i q0).1.ts.length=tn at Sb Cb Sc hj;generalize Jb:(qs.getD i q0).2.2=tc at Sb Cb;generalize Xc:(qs.getD i q0).1.id=iv at c0 Rc;have Td:=Hd (Xc);have Ud:(i:Int)<(n:Int):=(by omega);have Vd:(j:Int)<(tn:Int):=(by omega);have Wd:¬ (i:Int)<0:=(by omega);have Xd:(0:Int)≤(i:Int):=(by omega);have Yd:(0:Int)≤(j:Int):=(by omega);have Zd:IntKind.i64.wrap (Aa+5)=Aa+5:=(by rw[tW];omega);have Ae:IntKind.i64.wrap (100*iv)=100*iv:=(by rw[tW];omega);have Be:IntKind.i64.wrap (100*iv+(j:Int))=100*iv+(j:Int):=(by rw[tW];omega);clear Tc Uc hT hg Hb Za Jb Xc Vc Wc;have x0:=Ea.o.c 0;have x3:=Ea.o.c 3;(go_wp2_with fail);apply dU
    case f=>
     intro key
     go_region_law (fail)
     all_goals exact key.out
    case h=>
     rename_i Ce De Ee Fe Ge He Ie;revert Pa ab nb cb cj bs qs Aa Ca Ba w Bb n0 n1 Ce wa Dc Ec wr u5 u6 u10 u11 u12 u13 u14 u15 u16 u17 u18 u19 u20 u21 u22 u23 u24 u25 u26 u27 u28 u29 u30 u31 u32 u33 u34 u35 u36 u37 u38 u39 u40 u41 u42 u43 u44 u45 u46 u47 u48 u49 u50 u51 u52 u53 u54 u55 u56 u57 u58 u59 u60 u61 u62 u63 u64 u65 u66 n Fa Ja Yb Yc Zc hn Ta i j hi gj Ib La Ea De g Qc Kd Ld z1 z2 z3 b0 b1 b2 Od Pd Qd Rd Sd tn Sc hj tc Sb Cb iv c0 Rc Td Ud Vd Xd Yd Zd Ae Be x0 x3 Ee Fe Ge He Ie Fc Wd;exact key0.out
theorem sa:su.p:=by
    intro La ab nb cb cj bs qs Aa Ba Ca w Na n0 n1 Sb wa Tb Ub wr u5 u6 Vb Wb Xb Yb Zb Ac Bc Cc Dc Ec Fc Gc Hc Ic Jc Kc Lc Nc Oc Pc Qc Rc Sc Tc Uc Vc Wc Xc Yc Zc Ad Bd Cd Dd Ed Fd Gd Id Jd Kd Ld Nd Od Pd Qd Rd Sd Td Ud Vd Wd Xd Yd Zd Ae Be Ce n Ha Ea De Ee Fe hn Ge i j hi gj Oa Ja Fa He g Fb Gb Hb z1 z2 z3 b0 b1 b2 Pa Qa Ie Ib Jb tn Je hj tc Kb Ke iv c0 Le Lb Ne Oe Pe Qe Re Se Te x0 x3 Ue Ve We Xe Ye Ze Af;show Exit.then _ _ Exit.normal _ (wr.setCells g (j*3) (bO ⟨false,Ca,Aa+5⟩)).drew;have Ra:Below (wr.setCells g (j*3) (bO ⟨false,Ca,Aa+5⟩)).heap.size (wr.setCells g (j*3) (bO ⟨false,Ca,Aa+5⟩)) (wr.setCells g (j*3) (bO ⟨false,Ca,Aa+5⟩)).drew:=(tv _ _).drew;have Ga:wr.grownBy (wr.setCells g (j*3) (bO ⟨false,Ca,Aa+5⟩)).drew (some g):=Qa.o.trans (cY _ _);have Sa:=Hd (Pa.o.below Ra);have Ta:=Hd (Fa.o.grown Ga (fun e=>by have:=tm e;omega));have Ua:=Hd (Ha.o.grown Ga (fun e=>by have:=tm e;omega));have Va:H9 (Below La w (wr.setCells g (j*3) (bO ⟨false,Ca,Aa+5⟩)).drew):=Ea.o.trans (ac Ga (tB Na Ea.o.size) (fun z e=>by have:=tm e;omega));have Nb:(wr.setCells g (j*3) (bO ⟨false,Ca,Aa+5⟩)).drew.cell? ⟨gj,i*18,none⟩=some (it iv):=Ga.cell c0 (by simp;exact fun e=>Ib e.symm);generalize(wr.setCells g (j*3) (bO ⟨false,Ca,Aa+5⟩)).drew=w2 at *;clear Ra Ga Pa Qa c0 Kb b0 b1 b2 Fb Gb Hb x0 x3 Ja Fa Ha Ea;have Ja:=Sa;have Fa:=Ta;have Ha:=Ua;have Ea:=Va;clear Sa Ta Ua Va;have Bf:=Oa.o gj (by simp[bj,ob]);(go_wp2_with fail);refine cw w2 (some (w.heap.size+1)) (by kernel_rfl) fun hHeld=>?_;have Wa:Below w2.heap.size w2 w2.drew:=(tv _ _).drew;have Xa:=Hd (Ha.o.belowS Wa);generalize w2.drew=Ia at *;clear Wa;refine wpAnyH_take (i:=0) (v:=.agg (au Aa Ba ab nb cb (some ⟨gj,0,none⟩) n cj).toArray) rfl (by kernel_rfl) (by kernel_rfl) (by kernel_rfl) (fun _ _ _ h=>h) (tQ (by kernel_rfl) 27 (.tmp 2) rfl w.heap.size 0 rfl (au Aa Ba ab nb cb (some ⟨gj,0,none⟩) n cj) _ (fun W h=>(Fa.o.grown h (by simp)).row) underlying27 rfl (by kernel_rfl)) (by assumption) ?_;refine tk 1 (.pointer (some ⟨w.heap.size,3,none⟩)) ?_ ?_
    ·intro wq Da;go_simp
    refine tk 2 (.slice (some ⟨gj,0,none⟩) n cj) ?_ ?_
    ·intro wp Ka;have q0:=(Fa.o.grown Ka (by simp)).c 3;go_simp
    refine tk 3 (it (i:Nat)) ?_ ?_
    ·intro wq Da;go_simp
    refine tk 4 (.pointer (some ⟨gj,i*18,none⟩)) ?_ ?_
    ·intro wq Da;go_simp
    refine tk 5 (.pointer (some ⟨gj,i*18,none⟩)) ?_ ?_
    ·intro wq Da;go_simp
    refine tk 6 (it iv) ?_ ?_
    ·intro wp Ka;have q0:wp.cell? ⟨gj,i*18,none⟩=some (it iv):=Ka.cell Nb (by simp;omega);go_simp
    refine tk 7 (it (100*iv)) ?_ ?_
    ·intro wq Da;go_simp
    refine tk 8 (it (j:Nat)) ?_ ?_
    ·intro wq Da;go_simp
    refine tk 9 (it (100*iv+(j:Int))) ?_ ?_
    ·intro wq Da;go_simp
    refine ba 10 fun Kk hK=>?_;rw[if_pos (by kernel_rfl)];with_reducible refine wp_store_mid 27 (.tmp 4) (.tmp 83) ?_ (w.heap.size+1) 0 ((au Aa Ba ab nb cb (some ⟨gj,0,none⟩) n cj):List Value).toArray ?_ ?_ ?_ (by kernel_rfl) (by kernel_rfl) ?_
    ·kernel_rfl
    ·kernel_rfl
    ·kernel_rfl
    ·exact Xa.o.there 0 4 (by simp)
    refine hK.out _ _ (bY hHeld 0 _) (fun hHeld2=>?_);clear hK Kk;refine tk 11 (it 0) ?_ ?_
    ·intro wq Da;go_simp
    refine tk 12 (it (100*iv+(j:Int))) ?_ ?_
    ·intro wq Da;go_simp
    refine bt ?_;go_simp;have hS:w2.grownBy (Ia.setCells (w.heap.size+1) 0 (au Aa Ba ab nb cb (some ⟨gj,0,none⟩) n cj)) (some (w.heap.size+1)):=bY hHeld 0 _;have Ya:ae (Ia.setCells (w.heap.size+1) 0 (au Aa Ba ab nb cb (some ⟨gj,0,none⟩) n cj)) (w.heap.size+1) (au Aa Ba ab nb cb (some ⟨gj,0,none⟩) n cj):=Xa.o.setCells (au Aa Ba ab nb cb (some ⟨gj,0,none⟩) n cj) 0 (by simp);have Za:=Ja.o.grown hS (fun g hg e=>by rw[Jb.o]at hg;have:=Oa.o g hg;have:=tm e;omega);have Ab:Below La w (Ia.setCells (w.heap.size+1) 0 (au Aa Ba ab nb cb (some ⟨gj,0,none⟩) n cj)):=Ea.o.trans (ac hS (tB Na Ea.o.size) (fun z e=>by have:=tm e;omega));generalize(Ia.setCells (w.heap.size+1) 0 (au Aa Ba ab nb cb (some ⟨gj,0,none⟩) n cj))=wf at *;have Ob:H9 _:=Za;have Pb:H9 _:=Ab;have Qb:=Hd (Ya);clear Za Ab Ya hS;(go_wp2_with fail);have Bb:i<qs.length:=(by omega);have Cb:qs.getD i q0=qs[i]'Bb:=(by rw[tu,tw Bb];rfl);have Db:=Ob.o;rw[Cb]at Db;have Eb:=Lb.o;rw[Cb]at Eb;have Rb:=Qb.o.row;refine tx (aA rfl rfl (tS wf (w.heap.size+1) 0 27 _ _ Rb underlying27 rfl (by kernel_rfl))) rfl ?_;refine⟨?_,Db,Pb.o⟩;rw[Eb]
    rfl
theorem mO{i':Nat}{ab aj:Option Addr}{nb cb nj cj:Nat}{bs:List Int}{qs:List MQ}(now tj who:Int)(w:World)(H:aF w i' ab nb cb bs aj nj cj qs)(tf:i'≤w.heap.size)(n0:0≤now)(n1:now≤1000000000)(hid:∀q∈qs,0<q.1.id∧q.1.id≤1000000000)(hT:∀q∈qs,q.1.ts.length≤8):
  Calls prog 47 #[.agg #[.int .i64 now,.int .i64 tj,.slice ab nb cb,.slice aj nj cj],.int .i64 who] w fun e w'=>
   match M.scJ who 0 none (qs.map (·.1))with
   | none=>e=.returned (.tuple #[.agg (au now tj ab nb cb aj nj cj).toArray,it 6,it 0])∧aF w' i' ab nb cb bs aj nj cj qs∧Below i' w w'
   | some none=>e=.returned (.tuple #[.agg (au now tj ab nb cb aj nj cj).toArray,it 4,it 0])∧aF w' i' ab nb cb bs aj nj cj qs∧Below i' w w'
   | some (some (i,k))=>e=.returned (.tuple #[.agg (au now tj ab nb cb aj nj cj).toArray,it 0,it (100*(qs.getD i q0).1.id+k)])∧aF w' i' ab nb cb bs aj nj cj (qs.set i ({(qs.getD i q0).1 with ts:=(qs.getD i q0).1.ts.set k ⟨false,who,now+5⟩},(qs.getD i q0).2))∧Below i' w w':=su.h ⟨sa⟩ i' ab aj nb cb nj cj bs qs now tj who w H tf n0 n1 hid hT
end Go.Proofs.YtjcjonncaknhnaaGreatDoor
