import Derived.Test.YtobnifjhikoleaaGreatDoorPk17
namespace Go.Proofs.YtobnifjhikoleaaGreatDoor
open Go.RowKit Go.Proofs.Tryz
set_option linter.unusedSimpArgs false
set_option maxHeartbeats 32000000
variable {i' nb cb h ni ci mb:Nat}{ab ai:Option Addr}{bs:List Int}{qs:List HJ}{now uN:Int}
namespace M
def scT(who:Int)(gone:Bool)(i k:Nat)(acc:Option (Nat×Nat)):List Tk→Option (Option (Nat×Nat))
 | []=>some acc
 | t::l=>if t.l'=who then none else scT who gone i (k+1) (if acc.isNone&&(!gone&&(!t.done&&decide (t.l'=0)))then some (i,k)else acc) l
def scJ(who:Int)(i:Nat)(acc:Option (Nat×Nat)):List Jb→Option (Option (Nat×Nat))
 | []=>some acc
 | j::l=>match scT who j.gone i 0 acc j.ts with
  | none=>none
  | some acc'=>scJ who (i+1) acc' l
def scI(who:Int)(i:Nat)(l:List Jb):Option (Option (Nat×Nat))→Option (Option (Nat×Nat))
 | none=>none
 | some acc=>scJ who i acc l
def lsA:Option (Nat×Nat)→Int
 | none=>-1
 | some x=>x.1
def lsP:Option (Nat×Nat)→Int
 | none=>-1
 | some x=>x.2
end M
set_option linter.unusedVariables false in
def rM:Prop:=∀(i':Nat) (ab aj:Option Addr) (nb cb nj cj:Nat) (bs:List Int) (qs:List MQ) (now uN who:Int) (w:World) (H:aW w i' ab nb cb bs aj nj cj qs) (uK:i'≤w.heap.size) (n0:0≤now) (n1:now≤1000000000) (hid:∀q∈qs,0<q.1.id∧q.1.id≤1000000000) (hT:∀q∈qs,q.1.ts.length≤8),
  Calls prog 25 #[.agg #[.int .i64 now,.int .i64 uN,.slice ab nb cb,.slice aj nj cj],.int .i64 who] w fun e w'=>
   match M.scJ who 0 none (qs.map (·.1))with
   | none=>e=.returned (.tuple #[.agg (aI now uN ab nb cb aj nj cj).toArray,it 6,it 0])∧aW w' i' ab nb cb bs aj nj cj qs∧Below i' w w'
   | some none=>e=.returned (.tuple #[.agg (aI now uN ab nb cb aj nj cj).toArray,it 4,it 0])∧aW w' i' ab nb cb bs aj nj cj qs∧Below i' w w'
   | some (some (i,k))=>e=.returned (.tuple #[.agg (aI now uN ab nb cb aj nj cj).toArray,it 0,it (100*(qs.getD i q0).1.id+k)])∧aW w' i' ab nb cb bs aj nj cj (qs.set i ({(qs.getD i q0).1 with ts:=(qs.getD i q0).1.ts.set k ⟨false,who,now+5⟩},(qs.getD i q0).2))∧Below i' w w'
set_option maxRecDepth 10000 in
def ub:uy rM:=by
 apply uy.mk
 case h=>
  intro key0 Pa ab aj nb cb nj cj bs qs Aa Ca Ba w H Bb n0 n1 Xb hT;have HM:=Hd H;have Yb:=H.jl;have Yc:(nj:Int)≤9223372036854775807:=(by have:=H.sees.j.big;have:=H.sees.j.le;omega);have Zc:(nj:Int)≤cj:=(by have:=H.sees.j.le;omega);clear H;generalize Zb:M.scJ Ba 0 none (qs.map (·.1))=RQ;have Ac:=Hd Zb;clear Zb;go_enter func25,ntmps25;have Ea:H9 (au ((w.alloc (.cells (aI Aa Ca ab nb cb aj nj cj).toArray 27)).alloc (.cells aV.toArray 27)) w.heap.size (aI Aa Ca ab nb cb aj nj cj)):=(aM _ _ _).alloc _;have Fa:H9 (au ((w.alloc (.cells (aI Aa Ca ab nb cb aj nj cj).toArray 27)).alloc (.cells aV.toArray 27)) (w.heap.size+1) aV):=aZ _ _ _ _;have Ja:H9 (m1 w ((w.alloc (.cells (aI Aa Ca ab nb cb aj nj cj).toArray 27)).alloc (.cells aV.toArray 27))):=((m5 _ _).alloc (m3 _) _).alloc (by simp) _;(go_wp2_with fail);generalize((w.alloc (.cells (aI Aa Ca ab nb cb aj nj cj).toArray 27)).alloc (.cells aV.toArray 27))=wa at *;have x0:=Ea.c 0;have x1:=Ea.c 1;have x2:=Ea.c 2;have x3:=Ea.c 3;(go_wp2_with fail);clear x0 x1 x2 x3;have Bc:=Hd (HM.o.below Ja.o);have Ib:=Hd HM.o.lt;have Cc:=Hd (Ja.o.mono Bb);have Dc:=Hd Xb;have Ec:=Hd hT;clear HM Xb hT
  go_loopw [7,8,9] (fun a b i wr=>∃(n:Nat) (Da:Option (Nat×Nat)),n≤nj∧i=it n∧a=it (M.lsA Da)∧b=it (M.lsP Da)∧M.scJ Ba n Da ((qs.map (·.1)).drop n)=RQ∧(∀x,Da=some x→x.1<nj∧x.2<(qs.getD x.1 q0).1.ts.length)∧aW wr Pa ab nb cb bs aj nj cj qs∧au wr w.heap.size (aI Aa Ca ab nb cb aj nj cj)∧au wr (w.heap.size+1) aV∧Below Pa w wr) (fun _ _ i _=>nj-(intOf i).toNat)
  case atStart=>exact⟨0,none,by omega,rfl,rfl,rfl,Ac.o,(fun x h=>by simp at h),Bc.o,Ea.o,Fa.o,Cc.o⟩
  case round=>
   obtain⟨n,Da,hn,rfl,rfl,rfl,hR,Qa,hG,Ka,Ra,Sa⟩:=hrel;clear Bc Ac Cc Ea Fa Ja;by_cases Ta:n<nj
   case pos=>
    obtain⟨gj,rfl⟩:=hG.block (by omega);have Fc:(n:Int)<(nj:Int):=(by omega);have hT:=hG.jtask Ta;have Wa:wr.cell? ⟨gj,n*18+17,none⟩=some (.slice (qs.getD n q0).2.1 (qs.getD n q0).1.ts.length (qs.getD n q0).2.2):=hG.jcell Ta (by omega);have Gc:wr.cell? ⟨gj,n*18+16,none⟩=some (.bool (qs.getD n q0).1.gone):=hG.jcell Ta (by omega);have Cb:((qs.getD n q0).1.ts.length:Int)≤9223372036854775807:=(by have:=hT.sees.big;have:=hT.sees.le;omega);have Hc:((qs.getD n q0).1.ts.length:Int)≤(qs.getD n q0).2.2:=(by have:=hT.sees.le;omega);have Ha:M.scI Ba (n+1) ((qs.map (·.1)).drop (n+1)) (M.scT Ba (qs.getD n q0).1.gone n 0 Da (qs.getD n q0).1.ts)=RQ:=(by rw[←hR,aY M.j0 (by simp;exact Yb) Ta,dC];unfold M.scJ M.scI;cases M.scT Ba (qs.getD n q0).1.gone n 0 Da (qs.getD n q0).1.ts <;> rfl);generalize Za:(qs.getD n q0).1.ts.length=tn at Wa Cb Hc hT;generalize Ic:(qs.getD n q0).2.1=ta at Wa hT;generalize Jb:(qs.getD n q0).2.2=tc at Wa hT Hc;generalize Jc:(qs.getD n q0).1.gone=Ab at Gc Ha;generalize Tb:(qs.getD n q0).1.ts=tl at Za Ha hT;have x3:=Ka.c 3;generalize Kc:(qs.map (·.1)).drop (n+1)=DR at Ha;have Kb:=Hd hG;have Lb:=Hd Ha;have Ua:H9 ((qs.getD n q0).1.ts=tl∧(qs.getD n q0).1.ts.length=tn∧(qs.getD n q0).2.1=ta∧(qs.getD n q0).2.2=tc∧(qs.getD n q0).1.gone=Ab):=⟨Tb,by rw[Tb];exact Za,Ic,Jb,Jc⟩;have Lc:=Hd Za;have Ad:=Hd Kc;have Nb:=Hd Ka;have Ob:=Hd Ra;have Pb:=Hd Sa;have Ia:=Hd Qa;clear hG hR Ha Ka Ra Sa Za Ic Jb hT Jc Tb Kc Qa Gc;(go_wp2_with fail);clear x3 Wa
    go_loopw [7,8,10] (fun a b i wr=>∃(p:Nat) (Da:Option (Nat×Nat)),p≤tn∧i=it p∧a=it (M.lsA Da)∧b=it (M.lsP Da)∧M.scI Ba (n+1) DR (M.scT Ba Ab n p Da (tl.drop p))=RQ∧(∀x,Da=some x→x.1<nj∧x.2<(qs.getD x.1 q0).1.ts.length)∧aW wr Pa ab nb cb bs (some ⟨gj,0,none⟩) nj cj qs∧au wr w.heap.size (aI Aa Ca ab nb cb (some ⟨gj,0,none⟩) nj cj)∧au wr (w.heap.size+1) aV∧Below Pa w wr) (fun _ _ i _=>tn-(intOf i).toNat)
    case atStart=>exact⟨0,Da,by omega,rfl,rfl,rfl,Lb.o,Ia.o,Kb.o,Nb.o,Ob.o,Pb.o⟩
    case round=>
     clear Kb Lb Nb Ob Pb Ia;obtain⟨p,Da,hp,rfl,rfl,rfl,hR,Qa,hG,Ka,Ra,Sa⟩:=hrel;have Wa:wr.cell? ⟨gj,n*18+17,none⟩=some (.slice (qs.getD n q0).2.1 (qs.getD n q0).1.ts.length (qs.getD n q0).2.2):=hG.jcell Ta (by omega);rw[Ua.o.2.1,Ua.o.2.2.1,Ua.o.2.2.2.1]at Wa;have x3:=Ka.c 3;by_cases Db:p<tn
     case neg=>
      have Je:p=tn:=(by omega);have Kb:=Hd hG;have Lb:H9 (M.scJ Ba (n+1) Da ((qs.map (·.1)).drop (n+1))=RQ):=(by show _=_;rw[Ad.o,←hR,uO (by have:=Lc.o;omega)];rfl);have Nb:=Hd Ka;have Ob:=Hd Ra;have Pb:=Hd Sa;have Ia:=Hd Qa;have Bd:¬ (p:Int)<(tn:Int):=(by omega);clear hG hR Ka Ra Sa Qa;go_wp2;go_roundw
      case rel=>exact⟨n+1,Da,by omega,by go_num,rfl,rfl,Lb.o,Ia.o,Kb.o,Nb.o,Ob.o,Pb.o⟩
      case measure=>simp[intOf];omega
     have hT:=hG.jtask Ta;rw[Ua.o.2.1,Ua.o.2.2.1,Ua.o.2.2.2.1,Ua.o.1]at hT;obtain⟨g,rfl⟩:=hT.block (by omega);have Bd:(p:Int)<(tn:Int):=(by omega);have a0:wr.cell? ⟨g,p*3,none⟩=some (.bool (tl.getD p M.t0).done):=hT.cells Db (j:=0) (by omega);have a1:wr.cell? ⟨g,p*3+1,none⟩=some (it (tl.getD p M.t0).l'):=hT.cells Db (j:=1) (by omega);have a2:wr.cell? ⟨g,p*3+2,none⟩=some (it (tl.getD p M.t0).due):=hT.cells Db (j:=2) (by omega);have Ha:=hR;rw[aY M.t0 Lc.o Db]at Ha;unfold M.scT at Ha;generalize tl.getD p M.t0=cq at a0 a1 a2 Ha;obtain⟨td,x,y⟩:=cq;dsimp only at a0 a1 a2 Ha;have HR:H9 (_=RQ):=Ha;clear hR Ha hT;have La:=Hd hG;have Ea:=Hd Ka;have Fa:=Hd Ra;have Ja:=Hd Sa;have Ia:=Hd Qa;clear hG Ka Ra Sa Qa;have Eb:=fh wr (.cells (eM td x y).toArray 47);have Xa:=Hd (La.o.below Eb);have Na:=Ea.b Eb;have Ga:=Fa.b Eb;have Ya:=Hd (Ja.o.trans (Eb.mono (m9 Bb Ja.o.size)));clear La Ea Fa Ja;clear Eb;have Qb:=cC wr (eM td x y) 47;(go_wp2_with(with_reducible refine aA 39 ?_ ?_;rfl));show wpList _ _ _ _ _ _;clear a0 a1 a2 x3 Wa;generalize(wr.alloc (.cells (eM td x y).toArray 47))=w5 at *;generalize wr.heap.size=tb at Qb ⊢;have Ke:=Qb.c 0;have Le:=Qb.c 1;have Ne:=Qb.c 2;by_cases Fb:x=Ba
     ·
      have g2:(x==Ba)=true:=(by simp[Fb]);obtain rfl:RQ=none:=by have:=HR.o;rw[if_pos Fb]at this;exact this.symm
      clear HR Fb;have o0:=Na.c 0;have o1:=Na.c 1;have o2:=Na.c 2;have o3:=Na.c 3;have r0:=Ga.c 0;have Cd:=Ga.o.fr 0;have r1:=Ga.c 1;have Dd:=Ga.o.fr 1;have r2:=Ga.c 2;have Ed:=Ga.o.fr 2;have r3:=Ga.c 3;have Fd:=Ga.o.fr 3;(go_wp2_with fail);show bodyPost _ _ _ _ _ (w5.setCells (w.heap.size+1) 0 (aI Aa Ca ab nb cb (some ⟨gj,0,none⟩) nj cj));have Ub:au (w5.setCells (w.heap.size+1) 0 (aI Aa Ca ab nb cb (some ⟨gj,0,none⟩) nj cj)) (w.heap.size+1) (aI Aa Ca ab nb cb (some ⟨gj,0,none⟩) nj cj):=Ga.o.setCells (aI Aa Ca ab nb cb (some ⟨gj,0,none⟩) nj cj) 0 (by simp);have Gb:=ct w5 (w.heap.size+1) 0 (aI Aa Ca ab nb cb (some ⟨gj,0,none⟩) nj cj);have Vb:=Xa.o.grown Gb (fun g hg e=>by skip;have:=Ib.o g hg;have:=m2 e;omega);have Wb:=Ya.o.trans (ap Gb (m9 Bb Ya.o.size) (fun z e=>by have:=m2 e;omega));generalize(w5.setCells (w.heap.size+1) 0 (aI Aa Ca ab nb cb (some ⟨gj,0,none⟩) nj cj))=wf at *;exact m8 (aJ rfl rfl (u' wf (w.heap.size+1) 0 27 _ _ Ub.row underlying27 rfl (by kernel_rfl))) rfl ⟨rfl,Vb,Wb⟩
     have g2:(x==Ba)=false:=(by simp[Fb]);have Oa:H9 (M.scI Ba (n+1) DR (M.scT Ba Ab n (p+1) (if Da.isNone&&(!Ab&&(!td&&decide (x=0)))then some (n,p)else Da) (tl.drop (p+1)))=RQ):=(by show _=_;have:=HR.o;rw[if_neg Fb]at this;exact this);clear HR;have x3:=Na.c 3;have Gd:w5.cell? ⟨gj,n*18+16,none⟩=some (.bool (qs.getD n q0).1.gone):=Xa.o.jcell Ta (by omega);rw[Ua.o.2.2.2.2]at Gd
     cases Da with
     | some xa=>
      have gA:decide (M.lsA (some xa)<0)=false:=decide_eq_false (by show ¬ ((xa.1:Nat):Int)<0;omega);have Va:H9 (M.scI Ba (n+1) DR (M.scT Ba Ab n (p+1) (some xa) (tl.drop (p+1)))=RQ):=(by show _=_;have:=Oa.o;rw[show(some xa:Option (Nat×Nat)).isNone=false from rfl,Bool.false_and,if_neg (by simp)]at this;exact this);clear Oa;generalize Nc:M.lsA (some xa)=la at *;generalize Oc:M.lsP (some xa)=lp;have Pc:H9 (M.lsA (some xa)=la∧M.lsP (some xa)=lp):=⟨Nc,Oc⟩;clear Nc Oc;have Oe:¬ la<0:=(by simpa using gA);go_wp2;go_roundw
      case rel=>exact⟨p+1,some xa,by omega,by go_num,by rw[Pc.o.1],by rw[Pc.o.2],Va.o,Ia.o,Xa.o,Na.o,Ga.o,Ya.o⟩
      case measure=>simp[intOf];omega
     | none=>
      cases Ab with
      | true=>
       have Va:H9 (M.scI Ba (n+1) DR (M.scT Ba true n (p+1) none (tl.drop (p+1)))=RQ):=(by show _=_;have:=Oa.o;simpa using this);clear Oa;have gA:M.lsA none=-1:=rfl;have gP:M.lsP none=-1:=rfl;go_wp2;go_roundw
       case rel=>exact⟨p+1,none,by omega,by go_num,rfl,rfl,Va.o,Ia.o,Xa.o,Na.o,Ga.o,Ya.o⟩
       case measure=>simp[intOf];omega
      | false=>
       cases td with
       | true=>
        have Va:H9 (M.scI Ba (n+1) DR (M.scT Ba false n (p+1) none (tl.drop (p+1)))=RQ):=(by show _=_;have:=Oa.o;simpa using this);clear Oa;have gA:M.lsA none=-1:=rfl;have gP:M.lsP none=-1:=rfl;go_wp2;go_roundw
        case rel=>exact⟨p+1,none,by omega,by go_num,rfl,rfl,Va.o,Ia.o,Xa.o,Na.o,Ga.o,Ya.o⟩
        case measure=>simp[intOf];omega
       | false=>
        by_cases Rb:x=0
        ·
         have g3:(x==0)=true:=(by simp[Rb]);have Va:H9 (M.scI Ba (n+1) DR (M.scT Ba false n (p+1) (some (n,p)) (tl.drop (p+1)))=RQ):=(by show _=_;have:=Oa.o;rw[Rb]at this;simpa using this);clear Oa;have Id:H9 (∀x,some (n,p)=some x→x.1<nj∧x.2<(qs.getD x.1 q0).1.ts.length):=fun x h=>by injection h with h;subst h;exact⟨Ta,by show p<_;rw[Ua.o.2.1];exact Db⟩
         have gA:M.lsA none=-1:=rfl;have gP:M.lsP none=-1:=rfl;go_wp2;go_roundw
         case rel=>exact⟨p+1,(some (n,p)),by omega,by go_num,rfl,rfl,Va.o,Id.o,Xa.o,Na.o,Ga.o,Ya.o⟩
         case measure=>simp[intOf];omega
        have g3:(x==0)=false:=(by simp[Rb]);have Va:H9 (M.scI Ba (n+1) DR (M.scT Ba false n (p+1) none (tl.drop (p+1)))=RQ):=(by show _=_;have:=Oa.o;simpa[Rb]using this);clear Oa;have gA:M.lsA none=-1:=rfl;have gP:M.lsP none=-1:=rfl;go_wp2;go_roundw
        case rel=>exact⟨p+1,none,by omega,by go_num,rfl,rfl,Va.o,Ia.o,Xa.o,Na.o,Ga.o,Ya.o⟩
        case measure=>simp[intOf];omega
   have Jd:n=nj:=(by omega);obtain rfl:RQ=some Da:=by rw[←hR,uO (by simp;omega)];rfl
   have Fc:¬ (n:Int)<(nj:Int):=(by omega);have Ia:=Hd Qa;have La:=Hd hG;have Ea:=Hd Ka;have Fa:=Hd Ra;have Ja:=Hd Sa;clear hG Ka Ra Sa hR Qa;subst Jd
   cases Da with
   | none=>
    have gA:M.lsA none=-1:=rfl;have o0:=Ea.c 0;have o1:=Ea.c 1;have o2:=Ea.c 2;have o3:=Ea.c 3;have r0:=Fa.c 0;have Cd:=Fa.o.fr 0;have r1:=Fa.c 1;have Dd:=Fa.o.fr 1;have r2:=Fa.c 2;have Ed:=Fa.o.fr 2;have r3:=Fa.c 3;have Fd:=Fa.o.fr 3;(go_wp2_with fail);show bodyPost _ _ _ _ _ (wr.setCells (w.heap.size+1) 0 (aI Aa Ca ab nb cb aj n cj));have Ub:au (wr.setCells (w.heap.size+1) 0 (aI Aa Ca ab nb cb aj n cj)) (w.heap.size+1) (aI Aa Ca ab nb cb aj n cj):=Fa.o.setCells (aI Aa Ca ab nb cb aj n cj) 0 (by simp);have Gb:=ct wr (w.heap.size+1) 0 (aI Aa Ca ab nb cb aj n cj);have Vb:=La.o.grown Gb (fun g hg e=>by skip;have:=Ib.o g hg;have:=m2 e;omega);have Wb:=Ja.o.trans (ap Gb (m9 Bb Ja.o.size) (fun z e=>by have:=m2 e;omega));generalize(wr.setCells (w.heap.size+1) 0 (aI Aa Ca ab nb cb aj n cj))=wf at *;exact m8 (aJ rfl rfl (u' wf (w.heap.size+1) 0 27 _ _ Ub.row underlying27 rfl (by kernel_rfl))) rfl ⟨rfl,Vb,Wb⟩
   | some xa=>
    obtain⟨i,j⟩:=xa;obtain⟨hi,hj⟩:=Ia.o _ rfl;dsimp only at hi hj;have eA:M.lsA (some (i,j))=(i:Int):=rfl;have eP:M.lsP (some (i,j))=(j:Int):=rfl;rw[eA,eP];clear eA eP Ia;obtain⟨gj,rfl⟩:=La.o.block (by omega);have hT:=La.o.jtask hi;obtain⟨g,hg⟩:=hT.block (by omega);rw[hg]at hT;have Sb:wr.cell? ⟨gj,i*18+17,none⟩=some (.slice (qs.getD i q0).2.1 (qs.getD i q0).1.ts.length (qs.getD i q0).2.2):=La.o.jcell hi (by omega);rw[hg]at Sb;have c0:wr.cell? ⟨gj,i*18,none⟩=some (it (qs.getD i q0).1.id):=La.o.jcell hi (j:=0) (by omega);have b0:=hT.cells hj (j:=0) (by omega);have Qc:=hT.2.frozenAt (j*3+0);have b1:=hT.cells hj (j:=1) (by omega);have Kd:=hT.2.frozenAt (j*3+1);have b2:=hT.cells hj (j:=2) (by omega);have Ld:=hT.2.frozenAt (j*3+2);rw[Nat.add_zero]at b0 Qc;generalize Nd:(qs.getD i q0).1.ts.getD j M.t0=zz at b0 b1 b2;obtain⟨z1,z2,z3⟩:=zz;simp only[d7,List.getElem?_cons_zero,List.getElem?_cons_succ]at b0 b1 b2;clear Nd;have Hb:qs.getD i q0∈qs:=(by rw[m4,m6 (by omega)];simp);have Rc:=Dc.o _ Hb;have Sc:=Ec.o _ Hb;have Cb:((qs.getD i q0).1.ts.length:Int)≤(qs.getD i q0).2.2:=(by have:=hT.sees.le;omega);have HP:=La.o.task hi hg hj ⟨false,Ba,Aa+5⟩;obtain⟨Tc,Uc⟩:=HP;have Od:H9 _:=Tc;have Pd:H9 _:=Uc
    have Vc:g∈b8 ab (some ⟨gj,0,none⟩) qs:=by
     unfold b8;simp only[uT];exact .inr (.inr (vg.2 ⟨_,Hb,by rw[hg];simp[ob]⟩))
    have Qd:=Ib.o g Vc;have Rd:g≠gj:=fun e=>(cO.1 La.o.d).2.1 gj (by simp[ob]) (vg.2 ⟨_,Hb,by rw[hg];simp[ob,e]⟩);have Wc:b8 ab (some ⟨gj,0,none⟩) (qs.set i ({(qs.getD i q0).1 with ts:=(qs.getD i q0).1.ts.set j ⟨false,Ba,Aa+5⟩},(qs.getD i q0).2))=b8 ab (some ⟨gj,0,none⟩) qs:=fL (qs:=qs) (i:=i) _ (by omega) (by rfl);have Sd:H9 _:=Wc;generalize Za:(qs.getD i q0).1.ts.length=tn at Sb Cb Sc hj;generalize Jb:(qs.getD i q0).2.2=tc at Sb Cb;generalize Xc:(qs.getD i q0).1.id=iv at c0 Rc;have Td:=Hd Xc;have Ud:(i:Int)<(n:Int):=(by omega);have Vd:(j:Int)<(tn:Int):=(by omega);have Wd:¬ (i:Int)<0:=(by omega);have Xd:(0:Int)≤(i:Int):=(by omega);have Yd:(0:Int)≤(j:Int):=(by omega);have Zd:IntKind.i64.wrap (Aa+5)=Aa+5:=(by rw[vi];omega);have Ae:IntKind.i64.wrap (100*iv)=100*iv:=(by rw[vi];omega);have Be:IntKind.i64.wrap (100*iv+(j:Int))=100*iv+(j:Int):=(by rw[vi];omega);clear Tc Uc hT hg Hb Za Jb Xc Vc Wc;have x0:=Ea.c 0;have x3:=Ea.c 3;(go_wp2_with fail);apply fi
    case f=>
     intro key
     go_region_law (fail)
     all_goals exact key.out
    case h=>
     rename_i Ce De Ee Fe Ge He Ie;revert Pa ab nb cb cj bs qs Aa Ca Ba w Bb n0 n1 Ce wa Dc Ec wr u5 u6 u10 u11 u12 u13 u14 u15 u16 u17 u18 u19 u20 u21 u22 u23 u24 u25 u26 u27 u28 u29 u30 u31 u32 u33 u34 u35 u36 u37 u38 u39 u40 u41 u42 u43 u44 u45 u46 u47 u48 u49 u50 u51 u52 u53 u54 u55 u56 u57 u58 u59 u60 u61 u62 u63 u64 u65 u66 n Fa Ja Yb Yc Zc hn Ta i j hi gj Ib La Ea De g Qc Kd Ld z1 z2 z3 b0 b1 b2 Od Pd Qd Rd Sd tn Sc hj tc Sb Cb iv c0 Rc Td Ud Vd Xd Yd Zd Ae Be x0 x3 Ee Fe Ge He Ie Fc Wd;exact key0.out
set_option maxRecDepth 10000 in
theorem tS:ub.p:=by
    intro La ab nb cb cj bs qs Aa Ba Ca w Na n0 n1 Sb wa Tb Ub wr u5 u6 Vb Wb Xb Yb Zb Ac Bc Cc Dc Ec Fc Gc Hc Ic Jc Kc Lc Nc Oc Pc Qc Rc Sc Tc Uc Vc Wc Xc Yc Zc Ad Bd Cd Dd Ed Fd Gd Id Jd Kd Ld Nd Od Pd Qd Rd Sd Td Ud Vd Wd Xd Yd Zd Ae Be Ce n Ha Ea De Ee Fe hn Ge i j hi gj Oa Ja Fa He g Fb Gb Hb z1 z2 z3 b0 b1 b2 Pa Qa Ie Ib Jb tn Je hj tc Kb Ke iv c0 Le Lb Ne Oe Pe Qe Re Se Te x0 x3 Ue Ve We Xe Ye Ze Af;show Exit.then _ _ Exit.normal _ (wr.setCells g (j*3) (d7 ⟨false,Ca,Aa+5⟩)).drew;have Ra:Below (wr.setCells g (j*3) (d7 ⟨false,Ca,Aa+5⟩)).heap.size (wr.setCells g (j*3) (d7 ⟨false,Ca,Aa+5⟩)) (wr.setCells g (j*3) (d7 ⟨false,Ca,Aa+5⟩)).drew:=(m5 _ _).drew;have Ga:=Qa.o.trans (cW _ _);have Sa:=Hd (Pa.o.below Ra);have Ta:=Hd (Fa.o.grown Ga (fun e=>by have:=m2 e;omega));have Ua:=Hd (Ha.o.grown Ga (fun e=>by have:=m2 e;omega));have Va:=Hd (Ea.o.trans (ap Ga (m9 Na Ea.o.size) (fun z e=>by have:=m2 e;omega)));have Nb:=Ga.cell c0 (by simp;exact fun e=>Ib e.symm);generalize(wr.setCells g (j*3) (d7 ⟨false,Ca,Aa+5⟩)).drew=w2 at *;clear Ra Ga Pa Qa c0 Kb b0 b1 b2 Fb Gb Hb x0 x3 Ja Fa Ha Ea;have Ja:=Sa;have Fa:=Ta;have Ha:=Ua;have Ea:=Va;clear Sa Ta Ua Va;have Bf:=Oa.o gj (by simp[b8,ob]);(go_wp2_with fail);refine cH w2 (some (w.heap.size+1)) (by kernel_rfl) fun hHeld=>?_;have Wa:m1 w2 w2.drew:=(m5 _ _).drew;have Xa:=Ha.b Wa;generalize w2.drew=Ia at *;clear Wa;refine wpAnyH_take (i:=0) (v:=.agg (aI Aa Ba ab nb cb (some ⟨gj,0,none⟩) n cj).toArray) rfl (by kernel_rfl) (by kernel_rfl) (by kernel_rfl) (fun _ _ _ h=>h) (uZ (by kernel_rfl) 27 (.tmp 2) rfl w.heap.size 0 rfl (aI Aa Ba ab nb cb (some ⟨gj,0,none⟩) n cj) _ (fun W h=>(Fa.o.grown h (by simp)).row) underlying27 rfl (by kernel_rfl)) (by assumption) ?_;refine tk 1 (.pointer (some ⟨w.heap.size,3,none⟩)) ?_ ?_
    ·intro wq Da;go_simp
    refine tk 2 (.slice (some ⟨gj,0,none⟩) n cj) ?_ ?_
    ·intro wp Ka;have q0:=(Fa.o.grown Ka (by simp)).c 3;go_simp
    refine tk 3 (it (i:Nat)) ?_ ?_
    ·intro wq Da;go_simp
    refine tk 4 (.pointer (some ⟨gj,i*18,none⟩)) ?_ ?_
    ·intro wq Da;go_simp
    refine tk 5 (.pointer (some ⟨gj,i*18,none⟩)) ?_ ?_
    ·intro wq Da;go_simp
    refine tk 6 (it iv) ?_ ?_
    ·intro wp Ka;have q0:=Ka.cell Nb (by simp;omega);go_simp
    refine tk 7 (it (100*iv)) ?_ ?_
    ·intro wq Da;go_simp
    refine tk 8 (it (j:Nat)) ?_ ?_
    ·intro wq Da;go_simp
    refine tk 9 (it (100*iv+(j:Int))) ?_ ?_
    ·intro wq Da;go_simp
    refine aX 10 fun Kk hK=>?_;rw[if_pos (by kernel_rfl)];with_reducible refine wp_store_mid 27 (.tmp 4) (.tmp 83) ?_ (w.heap.size+1) 0 ((aI Aa Ba ab nb cb (some ⟨gj,0,none⟩) n cj):List Value).toArray ?_ ?_ ?_ (by kernel_rfl) (by kernel_rfl) ?_
    ·kernel_rfl
    ·kernel_rfl
    ·kernel_rfl
    ·exact Xa.o.there 0 4 (by simp)
    refine hK.out _ _ (a8 hHeld 0 _) (fun hHeld2=>?_);clear hK Kk;refine tk 11 (it 0) ?_ ?_
    ·intro wq Da;go_simp
    refine tk 12 (it (100*iv+(j:Int))) ?_ ?_
    ·intro wq Da;go_simp
    refine bg ?_;go_simp;have hS:w2.grownBy (Ia.setCells (w.heap.size+1) 0 (aI Aa Ba ab nb cb (some ⟨gj,0,none⟩) n cj)) (some (w.heap.size+1)):=a8 hHeld 0 _;have Ya:au (Ia.setCells (w.heap.size+1) 0 (aI Aa Ba ab nb cb (some ⟨gj,0,none⟩) n cj)) (w.heap.size+1) (aI Aa Ba ab nb cb (some ⟨gj,0,none⟩) n cj):=Xa.o.setCells (aI Aa Ba ab nb cb (some ⟨gj,0,none⟩) n cj) 0 (by simp);have Za:=Ja.o.grown hS (fun g hg e=>by rw[Jb.o]at hg;have:=Oa.o g hg;have:=m2 e;omega);have Ab:=Ea.o.trans (ap hS (m9 Na Ea.o.size) (fun z e=>by have:=m2 e;omega));generalize(Ia.setCells (w.heap.size+1) 0 (aI Aa Ba ab nb cb (some ⟨gj,0,none⟩) n cj))=wf at *;have Ob:H9 _:=Za;have Pb:H9 _:=Ab;have Qb:=Hd Ya;clear Za Ab Ya hS;(go_wp2_with fail);have Bb:i<qs.length:=(by omega);have Cb:qs.getD i q0=qs[i]'Bb:=(by rw[m4,m6 Bb];rfl);have Db:=Ob.o;rw[Cb]at Db;have Eb:=Lb.o;rw[Cb]at Eb;have Rb:=Qb.o.row;refine m8 (aJ rfl rfl (u' wf (w.heap.size+1) 0 27 _ _ Rb underlying27 rfl (by kernel_rfl))) rfl ?_;refine⟨?_,Db,Pb.o⟩;rw[Eb]
    rfl
theorem oQ{aj:Option Addr}{nj cj:Nat}{qs:List MQ}(now uN who:Int)(w:World)(H:aW w i' ab nb cb bs aj nj cj qs)(uK:i'≤w.heap.size)(n0:0≤now)(n1:now≤1000000000)(hid:∀q∈qs,0<q.1.id∧q.1.id≤1000000000)(hT:∀q∈qs,q.1.ts.length≤8):
  Calls prog 25 #[.agg #[.int .i64 now,.int .i64 uN,.slice ab nb cb,.slice aj nj cj],.int .i64 who] w fun e w'=>
   match M.scJ who 0 none (qs.map (·.1))with
   | none=>e=.returned (.tuple #[.agg (aI now uN ab nb cb aj nj cj).toArray,it 6,it 0])∧aW w' i' ab nb cb bs aj nj cj qs∧Below i' w w'
   | some none=>e=.returned (.tuple #[.agg (aI now uN ab nb cb aj nj cj).toArray,it 4,it 0])∧aW w' i' ab nb cb bs aj nj cj qs∧Below i' w w'
   | some (some (i,k))=>e=.returned (.tuple #[.agg (aI now uN ab nb cb aj nj cj).toArray,it 0,it (100*(qs.getD i q0).1.id+k)])∧aW w' i' ab nb cb bs aj nj cj (qs.set i ({(qs.getD i q0).1 with ts:=(qs.getD i q0).1.ts.set k ⟨false,who,now+5⟩},(qs.getD i q0).2))∧Below i' w w':=ub.h ⟨tS⟩ i' ab aj nb cb nj cj bs qs now uN who w H uK n0 n1 hid hT
theorem pN{j:M.Jb}{p:Nat}(h:M.openP j=some p):p<j.ts.length:=by
 unfold M.openP at h
 split at h
 ·simp at h
 ·exact(List.findIdx?_eq_some_iff_getElem.1 h).1
def nT(m:M.Mt)(who:Int):Option (Nat×Nat)→M.Mt×Int×Int
 | none=>(m,4,0)
 | some (i,k)=>(⟨m.now,m.next,m.bs,M.setT m.js i k ⟨false,who,m.now+5⟩⟩,0,100*(m.js.getD i M.j0).id+k)
theorem pK(m:M.Mt)(who:Int):M.lease m who=if m.bs.contains who then(m,5,0)else if m.js.any (fun j=>j.ts.any (M.mineT who))then(m,6,0)else nT m who (M.place 0 m.js):=by
 unfold M.lease nT
 rfl
set_option maxRecDepth 10000 in
theorem sr(who:Int)(w:World)(H:bj w i' h now uN ab nb cb bs ai ni ci mb qs)(HRt:M.Right now uN bs (qs.map (fun q:HJ=>q.j)))(uK:i'≤w.heap.size):
  Calls prog 46 #[.pointer (some ⟨h,0,none⟩),.agg #[.int .i64 who]] w (fS w i' h (M.lease ⟨now,uN,bs,qs.map (fun q:HJ=>q.j)⟩ who)):=by
 have Ub:=HRt.now0;have Vb:=HRt.now1;have Ua:H9 ((qs.map (fun q:HJ=>q.j.id)).Pairwise (·< ·)):=by have:=HRt.rise;rw[List.pairwise_map]at this;exact List.pairwise_map.2 this
 have Gb:H9 (∀k,k<qs.length→0<(qs.getD k dg).j.id∧(qs.getD k dg).j.id<1000000000∧(qs.getD k dg).j.ts.length≤8):=fun k hk=>by
  have hm:(qs.getD k dg).j∈qs.map (fun q:HJ=>q.j):=(by rw[←lK hk];exact M.getD_mem (by simpa using hk));have h1:=HRt.job _ hm;have h2:=HRt.next1;exact⟨h1.1,by omega,(HRt.tasks _ hm).2⟩
 have Hb:=H.count;have bn:(ni:Int)≤9223372036854775807:=(by have:=H.i.sees.big;have:=H.i.sees.le;omega);have Wb:(ni:Int)≤ci:=(by have:=H.i.sees.le;omega);have Ea:H9 (m1 w (w.alloc (.cells #[it who] 96))):=(m5 _ _).alloc (m3 _) _;have Ja:=cC w [it who] 96;have Da:=Hd (H.below Ea.o);have C1:=gU who (w.alloc (.cells #[it who] 96)) Da.o;have C2:=qF who (w.alloc (.cells #[it who] 96)) Da.o Ua.o;clear H HRt;rw[pK];dsimp only;have e:(qs.map (fun q:HJ=>q.j)).any (fun j=>j.ts.any (M.mineT who))=qs.any (fun q=>q.j.ts.any (M.mineT who)):=(by rw[List.any_map];rfl);rw[e];clear e;generalize bs.contains who=ob' at C1 ⊢;generalize qs.any (fun q=>q.j.ts.any (M.mineT who))=oy at *;generalize hR:M.place 0 (qs.map (fun q:HJ=>q.j))=R;have HR:=Hd hR;clear hR;have t0:=Ja.c 0;go_enter func46,ntmps46;(go_wp2_with fail);generalize(w.alloc (.cells #[it who] 96))=wa at *;refine C1.mono ?_;rintro e wz ⟨rfl,Va⟩;have Ib:=Va.symm;clear Va C1;subst Ib;have Ka:=Hd (Ea.o.mono uK);have Wa:=m9 uK Ea.o.size
 cases ob' with
 | true=>
  go_wp2;exact m8 (v:=.tuple #[it 5,it 0]) (by simp[results,results46,go_sem]) rfl ⟨rfl,⟨_,_,_,_,_,_,_,_,Da.o,rfl⟩,Ka.o⟩
 | false=>
  (go_wp2_with fail);refine C2.mono ?_;rintro e wb ⟨rfl,hb⟩;have Xa:=Ja.b hb;have Fa:=Hd (Da.o.below hb);have La:=Hd (Ka.o.trans (hb.mono Wa));clear hb Ja Da Ea Ka C2 t0 Wa
  cases oy with
  | true=>
   go_wp2;exact m8 (v:=.tuple #[it 6,it 0]) (by simp[results,results46,go_sem]) rfl ⟨rfl,⟨_,_,_,_,_,_,_,_,Fa.o,rfl⟩,La.o⟩
  | false=>
   have x3:=Fa.o.l.c 3;(go_wp2_with fail);clear x3
   go_loopw [23] (fun i wr=>∃k:Nat,k≤ni∧i=it k∧M.place k ((qs.drop k).map (fun q:HJ=>q.j))=R∧bj wr i' h now uN ab nb cb bs ai ni ci mb qs∧au wr w.heap.size [it who]∧Below i' w wr) (fun i _=>ni-(intOf i).toNat)
   case atStart=>exact⟨0,by omega,rfl,HR.o,Fa.o,Xa.o,La.o⟩
   case round=>
    clear Fa Xa La HR;obtain⟨k,hk,rfl,hg,hh,ht,Ga⟩:=hrel;have Na:=m9 uK Ga.size;have HT:=Hd ht;have HB:=Hd Ga;by_cases Ya:k<ni
    ·
     obtain⟨b1,o1,rfl,Za⟩:=hh.i.sees.at (by omega);have c1:=Za k Ya;rw[mD (by omega)]at c1;obtain⟨q,hq⟩:∃q,qs.getD k dg=q:=⟨_,rfl⟩;have Ab:=Gb.o k (by omega)
     have hG:(match M.openP q.j with | some p=>some (k,p) | none=>M.place (k+1) ((qs.drop (k+1)).map (fun q:HJ=>q.j)))=R:=by
      rw[←hg,aY dg Hb Ya,hq];rfl
     have Bb:H9 ((qs.map (fun q:HJ=>q.j)).getD k M.j0=q.j):=(by show _=_;rw[←hq];exact lK (by omega));rw[hq]at c1 Ab;have HA:H9 (bA wr i' h now uN ab nb cb bs (some ⟨b1,o1,none⟩) ni ci mb qs k q):=⟨hh,by omega,hq⟩;have Oa:=hh.m.get (P:=prog) (t:=89) underlying89 underlying2 _ _ (HA.o.look Ua.o) false;simp only[Bool.false_eq_true,if_false]at Oa;have h3:=hh.l.c 3;have h4:=hh.l.c 4;have C3:=kY wr HA.o.lies HA.o.owns;have Aa:=pM q.j;generalize iE q.j=oi at C3 Aa;generalize Cb:q.j.id=qi at c1 Oa Ab;have Jb:=Hd Cb;have hI:(k:Int)<(ni:Int):=(by omega);clear Za hg hh ht Ga hq Cb;have HG:=Hd hG;have Ca:=Hd Aa;clear hG Aa;(go_wp2_with fail);refine C3.mono ?_;rintro e w2 ⟨rfl,hb⟩;have Ba:=Hd (HA.o.below hb);have Pa:=HT.b hb;have Qa:=Hd (HB.o.trans (hb.mono Na));have Kb:=m9 Na hb.size;clear hb HA HT HB Na C3 c1 h3 h4 Oa
     cases Aa:M.openP q.j with
     | none=>
      rw[Aa]at HG Ca;have Lb:=Hd HG.o;have Ra:oi=-1:=Ca.o;clear Aa HG Ca;subst Ra;go_wp2;go_roundw
      case rel=>exact⟨k+1,by omega,by go_num,Lb.o,Ba.o.1,Pa.o,Qa.o⟩
      case measure=>simp[intOf];omega
     | some p=>
      rw[Aa]at HG Ca;have hR:some (k,p)=R:=HG.o;have Ra:oi=(p:Int):=Ca.o;have Ha:=pN Aa;clear Aa HG Ca;subst Ra;subst hR;have hO:=Ba.o.owns;obtain⟨g,Ia⟩:=hO.block (by omega);have Db:=Ba.o.lies.c 17;rw[Ia]at hO Db;have x0:=Ba.o.1.l.c 0;have t0:=Pa.c 0;have y0:=hO.cells Ha (j:=0) (by omega);have y1:=hO.cells Ha (j:=1) (by omega);have y2:=hO.cells Ha (j:=2) (by omega);have Eb:=hO.2.frozenAt (p*3+0);have Nb:=hO.2.frozenAt (p*3+1);have Ob:=hO.2.frozenAt (p*3+2);rw[Nat.add_zero]at y0 Eb;generalize q.j.ts.getD p M.t0=zz at y0 y1 y2;obtain⟨z1,z2,z3⟩:=zz;simp only[d7,List.getElem?_cons_zero,List.getElem?_cons_succ]at y0 y1 y2;obtain⟨Fb,Sa⟩:=hO.put Ha ⟨false,who,now+5⟩;have Pb:g∈ob q.a:=(by rw[Ia];simp[ob]);have HF:=(Ba.o.tasks (n:=0) (c:=0) (ts:=q.j.ts.set p ⟨false,who,now+5⟩) (by rw[List.length_set]) (by rw[Ia];exact Sa) (by rw[List.length_set,Ia];exact Fb)).below (m5 _ _).drew;have Qb:=Hd ((Qa.o.trans (ap Sa Kb (fun z e=>by rw[←m2 e];exact(Ba.o.apart.1 g Pb).1))).drew)
      have Rb:H9 (∃Ta,bj (w2.setCells g (p*3) (d7 ⟨false,who,now+5⟩)).drew i' h now uN ab nb cb bs (some ⟨b1,o1,none⟩) ni ci mb Ta∧Ta.map (fun q:HJ=>q.j)=M.setT (qs.map (fun q:HJ=>q.j)) k p ⟨false,who,now+5⟩):=⟨_,HF.1,by
       rw[List.map_set];unfold M.setT;rw[Bb.o]⟩
      have Xb:(p:Int)<(q.j.ts.length:Int):=(by omega);have Yb:(0:Int)≤(p:Int):=(by omega);have Zb:IntKind.i64.wrap (p:Int)=p:=(by rw[vi];have:=hO.sees.big;have:=hO.sees.le;omega);have Ac:(q.j.ts.length:Int)≤q.c:=(by have:=hO.sees.le;omega);have Bc:IntKind.i64.wrap (now+5)=now+5:=by rw[vi];omega
      have Cc:H9 (IntKind.i64.wrap (IntKind.i64.wrap (100*qi)+(p:Int))=100*qi+p):=by
       have h8:(p:Int)<9000000000000:=(by omega);show _=_;rw[vi,vi];omega
      clear hO Fb Sa HF Ba Pa Qa;(go_wp2_with fail);apply fi
      case f=>
       intro key
       go_region_law (fail)
       all_goals exact key.out
      case h=>
       clear Db x0 t0 y0 y1 y2 Eb Nb Ob;go_wp2;obtain⟨Ta,Sb,Tb⟩:=Rb.o;exact m8 (v:=.tuple #[it 0,it (100*qi+(p:Int))]) (by simp[results,results46,go_sem]) rfl ⟨by rw[←Jb.o,←Bb.o];rfl,⟨_,_,_,_,_,_,_,_,Sb,Tb⟩,Qb.o⟩
    ·
     have hR:none=R:=by
      rw[uO (by omega)]at hg;exact hg
     have HH:=Hd hh;clear hg hh ht Ga;subst hR;go_wp2;exact m8 (v:=.tuple #[it 4,it 0]) (by simp[results,results46,go_sem]) rfl ⟨rfl,⟨_,_,_,_,_,_,_,_,HH.o,rfl⟩,HB.o⟩
set_option maxRecDepth 10000 in
theorem rr(a b c d f k a' b' c' d' f' k' s1 s2 rows tr:Int)(w:World)(H:bj w i' h now uN ab nb cb bs ai ni ci mb qs)(HRt:M.Right now uN bs (qs.map (fun q:HJ=>q.j)))(hm0:1≤tr)(hm1:tr≤8)(uK:i'≤w.heap.size):
  Calls prog 43 #[.pointer (some ⟨h,0,none⟩),.agg #[.int .i64 a,.int .i64 b,.int .i64 c,.int .i64 d,.int .i64 f,.int .i64 k,.int .i64 a',.int .i64 b',.int .i64 c',.int .i64 d',.int .i64 f',.int .i64 k',.int .i64 s1,.int .i64 s2,.int .i64 rows,.int .i64 tr]] w (fS w i' h (M.submit ⟨now,uN,bs,qs.map (fun q:HJ=>q.j)⟩ ⟨⟨a,b,c,d,f,k⟩,⟨a',b',c',d',f',k'⟩⟩ (s1,s2) rows tr)):=by
 have Rb:=HRt.next0;have Sb:=HRt.next1;have Ua:=H.count;have h6:ni≤6:=(by have:=HRt.few;rw[List.length_map]at this;omega);have Va:H9 (∀q∈qs,q.j.id≠uN):=fun q hq e=>by have:=(HRt.job q.j (List.mem_map_of_mem (f:=fun q:HJ=>q.j) hq)).2.1;omega
 have Da:H9 (m1 w (w.alloc (.cells (eK a b c d f k a' b' c' d' f' k' s1 s2 rows tr).toArray 94))):=(m5 _ _).alloc (m3 _) _;have Ga:=cC w (eK a b c d f k a' b' c' d' f' k' s1 s2 rows tr) 94;have Ba:=Hd (H.below Da.o);have La:=Hd H.lt;have bn:(ni:Int)≤9223372036854775807:=(by omega);have x3:=Ba.o.l.c 3;have x1:=Ba.o.l.c 1;have Ha:=Hd (Da.o.mono uK);have Wa:=m9 uK Da.o.size;obtain⟨i0,hi,Xa,Ya,Za⟩:=info_parts fH;unfold M.submit;dsimp only;rw[List.length_map,Ua];by_cases Ia:ni=6
 ·
  have g6:((ni:Int)==6)=true:=(by simp[Ia]);rw[if_pos (by simp[Ia])];go_enter func43,ntmps43;go_wp2;exact m8 (v:=.tuple #[it 3,it 0]) (by simp[results,results43,go_sem]) rfl ⟨rfl,⟨_,_,_,_,_,_,_,_,Ba.o,rfl⟩,Ha.o⟩
 have g6:((ni:Int)==6)=false:=(by simp;omega);by_cases Ea:uN=1000000000
 ·
  have gx:(uN==1000000000)=true:=(by simp[Ea]);rw[if_pos (by simp[Ea])];go_enter func43,ntmps43;go_wp2;exact m8 (v:=.tuple #[it 3,it 0]) (by simp[results,results43,go_sem]) rfl ⟨rfl,⟨_,_,_,_,_,_,_,_,Ba.o,rfl⟩,Ha.o⟩
 have gx:(uN==1000000000)=false:=(by simp[Ea]);rw[if_neg (by simp[Ia,Ea])];obtain⟨mn,rfl⟩:∃mn:Nat,tr=(mn:Int):=⟨tr.toNat,by omega⟩;rw[vv];go_enter func43,ntmps43;(go_wp2_with fail);generalize(w.alloc (.cells (eK a b c d f k a' b' c' d' f' k' s1 s2 rows (mn:Nat)).toArray 94))=wa at *;have Ab:=Ga.o.2.2;have Na:H9 (w.heap.size∉dj h mb ab ai qs):=fun e=>by have:=La.o _ e;omega
 have Bb:mn≤8:=(by omega);have Cb:mn*3≤16777216:=(by omega);have Db:i0.bytes*mn≤281474976710656:=(by rw[Za];omega);have Eb:mn≤maxLen:=(by unfold maxLen;omega);clear Da;generalize w.heap.size=tb at Ga La Na Ab ⊢;refine wp_region_noPanic ?_;refine wp_region_held_drew (S:=fun W=>au W tb (eK a b c d f k a' b' c' d' f' k' s1 s2 rows (mn:Nat))) (by kernel_rfl) (Ga.o.belowS (m5 _ _).drew) (fun hHeld=>?_);have Ja:=Hd (Ba.o.below (m5 _ _).drew);have Oa:=Hd Ha.o.drew;have Fa:i'≤wa.drew.heap.size:=Wa;generalize wa.drew=Tb at *;refine tk 0 (.pointer (some ⟨h,0,none⟩)) ?_ ?_
 ·intro wq Aa;go_simp
 refine tk 1 (it uN) ?_ ?_
 ·intro wq Aa;go_simp
 refine tk 2 (.pointer (some ⟨tb,0,none⟩)) ?_ ?_
 ·intro wq Aa;go_simp
 refine wpAnyH_take (i:=3) (v:=.agg ((cr a b c d f k a' b' c' d' f' k'):List Value).toArray) rfl (by kernel_rfl) (by kernel_rfl) (by kernel_rfl) (fun _ _ _ h=>h) (uZ (by kernel_rfl) 31 (.tmp 26) rfl tb 0 rfl ((cr a b c d f k a' b' c' d' f' k'):List Value) _ (fun W hW=>au.mid hW 0 12) underlying31 rfl (by kernel_rfl)) (by assumption) ?_;refine tk 4 (.pointer (some ⟨tb,12,none⟩)) ?_ ?_
 ·intro wq Aa;go_simp
 refine tk 5 (.agg #[it s1,it s2]) ?_ ?_
 ·intro wq Aa;have c0:=Aa.c 12;have c1:=Aa.c 13;go_simp
 refine tk 6 (.pointer (some ⟨tb,14,none⟩)) ?_ ?_
 ·intro wq Aa;go_simp
 refine tk 7 (it rows) ?_ ?_
 ·intro wq Aa;have c0:=Aa.c 14;go_simp
 refine tk 8 (.pointer (some ⟨tb,15,none⟩)) ?_ ?_
 ·intro wq Aa;go_simp
 refine tk 9 (it (mn:Nat)) ?_ ?_
 ·intro wq Aa;have c0:=Aa.c 15;go_simp
 refine vk (rs:=[10]) (by kernel_rfl) (by simp) ?_;apply uP
 case ho=>exact rfl
 case hs=>exact uW
 intro Kk hK;with_reducible refine eJ ?qg (.tmp 33) 43 ?qo i' 47 i0 (.agg sC.toArray) 3 underlying43 hi Xa Ya mn ?qm Cb Db Eb Fa ?_
 case qg | qo=>exact rfl
 case qm=>kernel_rfl
 intro g wm Fb Pa hg;have Gb:=Hd (mP Bb Pa rfl);have Qa:=Hd (Ja.o.grown hg (fun _ _=>by simp));have Ra:=Hd (Oa.o.trans (ap hg Fa (by simp)));have Sa:=m9 Fa hg.size;have Ka:=hHeld.grown hg (by simp);have Hb:H9 (∀x∈ob (some (⟨g,0,none⟩:Addr)),x∉dj h mb ab ai qs):=fun x hx e=>by simp[ob]at hx;have:=Ja.o.lt _ e;omega
 refine hK.out _ _ Ka (fun hzz=>?_);clear hK Kk hzz Pa hg Fb hHeld Ja Oa Fa;refine tk 11 (.agg ((bO uN a b c d f k a' b' c' d' f' k' s1 s2 rows false (some ⟨g,0,none⟩) mn mn):List Value).toArray) ?_ ?_
 ·intro wq Aa;go_simp
 refine aX 12 fun Kk hK=>?_;go_simp;have C1:=lI (⟨uN,⟨⟨a,b,c,d,f,k⟩,⟨a',b',c',d',f',k'⟩⟩,(s1,s2),rows,false,List.replicate mn M.t0⟩:M.Jb) (some ⟨g,0,none⟩) mn wm Qa.o Va.o (by rw[vj];exact Gb.o) Hb.o Sa (by omega);dsimp only[ed]at C1;rw[vj]at C1;refine C1.mono ?_;rintro e wn ⟨rfl,Ib,Kb,hH,hB,hF⟩;go_simp;have Ca:=Hd hH;have Lb:=Hd (Ra.o.trans hB);have Nb:=m9 Sa hB.size;refine hK.out _ _ (hF tb _ Ka Na.o) (fun _=>?_);clear hK Kk hH hB hF C1 Ka Qa Ra;refine bg ?_;go_simp;have y1:=Ca.o.l.c 1;have f1:=Ca.o.l.fr 1;have Ob:=Ca.o.l.set 1 (by simp) (it (uN+1));have Ta:=aT wn ⟨h,1,none⟩ (it (uN+1));have Pb:=Hd (Ca.o.head Ta Ob);have Qb:H9 (Below i' w (wn.setCell ⟨h,1,none⟩ (it (uN+1)))):=Lb.o.trans (ap Ta Nb (fun z e=>by rw[←m2 e];exact Ca.o.lo h (by simp[dj])));go_wp2;exact m8 (v:=.tuple #[it 0,it uN]) (by simp[results,results43,go_sem]) rfl ⟨rfl,⟨_,_,_,_,_,_,_,_,Pb.o,(by rw[vq];rfl)⟩,Qb.o⟩
end Go.Proofs.YtobnifjhikoleaaGreatDoor
