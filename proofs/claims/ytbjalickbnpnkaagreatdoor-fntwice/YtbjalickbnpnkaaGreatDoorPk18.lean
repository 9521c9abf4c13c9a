import Derived.Test.YtbjalickbnpnkaaGreatDoorPk17
namespace Go.Proofs.YtbjalickbnpnkaaGreatDoor
open Go.RowKit Go.Proofs.Tryz
set_option linter.unusedSimpArgs false
set_option maxHeartbeats 32000000
variable {dA nb cb h ni ci mb:Nat}{ab ai:Option Addr}{bs:List Int}{qs:List HJ}{now sr:Int}
namespace M
def scT(who:Int)(gone:Bool)(i k:Nat)(acc:Option (Nat×Nat)):List Tk->Option (Option (Nat×Nat))
 | []=>some acc
 | t::l=>if t.dC=who then none else scT who gone i (k+1) (if acc.isNone&&(!gone&&(!t.done&&decide (t.dC=0)))then some (i,k)else acc) l
def scJ(who:Int)(i:Nat)(acc:Option (Nat×Nat)):List Jb->Option (Option (Nat×Nat))
 | []=>some acc
 | j::l=>match scT who j.gone i 0 acc j.ts with
  | none=>none
  | some acc'=>scJ who (i+1) acc' l
def scI(who:Int)(i:Nat)(l:List Jb):Option (Option (Nat×Nat))->Option (Option (Nat×Nat))
 | none=>none
 | some acc=>scJ who i acc l
def lsA:Option (Nat×Nat)->Int
 | none=>-1
 | some x=>x.1
def lsP:Option (Nat×Nat)->Int
 | none=>-1
 | some x=>x.2
end M
set_option linter.unusedVariables false in
def tt:Prop:=∀(dA:Nat) (ab aj:Option Addr) (nb cb nj cj:Nat) (bs:List Int) (qs:List MQ) (now sr who:Int) (w:World) (H:aW w dA ab nb cb bs aj nj cj qs) (mr:dA<=w.heap.size) (n0:0<=now) (n1:now<=1000000000) (hid:∀q∈qs,0<q.1.id/\q.1.id<=1000000000) (hT:∀q∈qs,q.1.ts.length<=8),
  Calls prog 28 #[.agg #[it now,it sr,.slice ab nb cb,.slice aj nj cj],it who] w λe w'=>
   match M.scJ who 0 none (qs.map (·.1))with
   | none=>e=.returned (.tuple #[.agg (aJ now sr ab nb cb aj nj cj).toArray,it 6,it 0])/\aW w' dA ab nb cb bs aj nj cj qs/\Below dA w w'
   | some none=>e=.returned (.tuple #[.agg (aJ now sr ab nb cb aj nj cj).toArray,it 4,it 0])/\aW w' dA ab nb cb bs aj nj cj qs/\Below dA w w'
   | some (some (i,k))=>e=.returned (.tuple #[.agg (aJ now sr ab nb cb aj nj cj).toArray,it 0,it (100*(qs.getD i q0).1.id+k)])/\aW w' dA ab nb cb bs aj nj cj (qs.set i ({(qs.getD i q0).1 with ts:=(qs.getD i q0).1.ts.set k ⟨false,who,now+5⟩},(qs.getD i q0).2))/\Below dA w w'
set_option maxRecDepth 10000 in
def vT:wS tt:=by
 apply wS.mk
 case h=>
  intro key0 Pa ab aj nb cb nj cj bs qs Aa Ca Ba w H Bb n0 n1 Xb hT;have HM:=Hd H;have Yb:=H.jl;have Yc:(nj:Int)<=9223372036854775807:=(by have:=H.sees.j.big;have:=H.sees.j.le;omega);have Zc:(nj:Int)<=cj:=(by have:=H.sees.j.le;omega);clear H;generalize Zb:M.scJ Ba 0 none (qs.map (·.1))=RQ;have Ac:=Hd Zb;clear Zb;go_enter func28,ntmps28;have Ea:H7 (aw ((w.alloc (.cells (aJ Aa Ca ab nb cb aj nj cj).toArray 27)).alloc (.cells cm.toArray 27)) w.heap.size (aJ Aa Ca ab nb cb aj nj cj)):=(aQ _ _ _).alloc _;have Fa:H7 (aw ((w.alloc (.cells (aJ Aa Ca ab nb cb aj nj cj).toArray 27)).alloc (.cells cm.toArray 27)) (w.heap.size+1) cm):=aZ _ _ _ _;have Ja:H7 (m1 w ((w.alloc (.cells (aJ Aa Ca ab nb cb aj nj cj).toArray 27)).alloc (.cells cm.toArray 27))):=((m8 _ _).alloc (m3 _) _).alloc (by simp) _;(go_wp2_with fail);generalize((w.alloc (.cells (aJ Aa Ca ab nb cb aj nj cj).toArray 27)).alloc (.cells cm.toArray 27))=wa at *;have x0:=Ea.c 0;have x1:=Ea.c 1;have x2:=Ea.c 2;have x3:=Ea.c 3;(go_wp2_with fail);clear x0 x1 x2 x3;have Bc:=Hd (HM.o.below Ja.o);have Ib:=Hd HM.o.lt;have Cc:=Hd (Ja.o.mono Bb);have Dc:=Hd Xb;have Ec:=Hd hT;clear HM Xb hT
  go_loopw [7,8,9] (λa b i wr=>∃(n:Nat) (Da:Option (Nat×Nat)),n<=nj/\i=it n/\a=it (M.lsA Da)/\b=it (M.lsP Da)/\M.scJ Ba n Da ((qs.map (·.1)).drop n)=RQ/\(∀x,Da=some x->x.1<nj/\x.2<(qs.getD x.1 q0).1.ts.length)/\aW wr Pa ab nb cb bs aj nj cj qs/\aw wr w.heap.size (aJ Aa Ca ab nb cb aj nj cj)/\aw wr (w.heap.size+1) cm/\Below Pa w wr) (λ_ _ i _=>nj-(intOf i).toNat)
  case atStart=>exact⟨0,none,by omega,rfl,rfl,rfl,Ac.o,(λx h=>by simp at h),Bc.o,Ea.o,Fa.o,Cc.o⟩
  case round=>
   obtain⟨n,Da,hn,rfl,rfl,rfl,hR,Qa,hG,Ka,Ra,Sa⟩:=hrel;clear Bc Ac Cc Ea Fa Ja;by_cases Ta:n<nj
   case pos=>
    obtain⟨gj,rfl⟩:=hG.block (by omega);have Fc:(n:Int)<(nj:Int):=(by omega);have hT:=hG.jtask Ta;have Wa:wr.cell? ⟨gj,n*18+17,none⟩=some (.slice (qs.getD n q0).2.1 (qs.getD n q0).1.ts.length (qs.getD n q0).2.2):=hG.jcell Ta (by omega);have Gc:wr.cell? ⟨gj,n*18+16,none⟩=some (.bool (qs.getD n q0).1.gone):=hG.jcell Ta (by omega);have Cb:((qs.getD n q0).1.ts.length:Int)<=9223372036854775807:=(by have:=hT.sees.big;have:=hT.sees.le;omega);have Hc:((qs.getD n q0).1.ts.length:Int)<=(qs.getD n q0).2.2:=(by have:=hT.sees.le;omega);have Ha:M.scI Ba (n+1) ((qs.map (·.1)).drop (n+1)) (M.scT Ba (qs.getD n q0).1.gone n 0 Da (qs.getD n q0).1.ts)=RQ:=(by rw[<-hR,aX M.j0 (by simp;exact Yb) Ta,dU];unfold M.scJ M.scI;cases M.scT Ba (qs.getD n q0).1.gone n 0 Da (qs.getD n q0).1.ts <;> rfl);generalize Za:(qs.getD n q0).1.ts.length=tn at Wa Cb Hc hT;generalize Ic:(qs.getD n q0).2.1=ta at Wa hT;generalize Jb:(qs.getD n q0).2.2=tc at Wa hT Hc;generalize Jc:(qs.getD n q0).1.gone=Ab at Gc Ha;generalize Tb:(qs.getD n q0).1.ts=tl at Za Ha hT;have x3:=Ka.c 3;generalize Kc:(qs.map (·.1)).drop (n+1)=DR at Ha;have Kb:=Hd hG;have Lb:=Hd Ha;have Ua:H7 ((qs.getD n q0).1.ts=tl/\(qs.getD n q0).1.ts.length=tn/\(qs.getD n q0).2.1=ta/\(qs.getD n q0).2.2=tc/\(qs.getD n q0).1.gone=Ab):=⟨Tb,by rw[Tb];exact Za,Ic,Jb,Jc⟩;have Lc:=Hd Za;have Ad:=Hd Kc;have Nb:=Hd Ka;have Ob:=Hd Ra;have Pb:=Hd Sa;have Ia:=Hd Qa;clear hG hR Ha Ka Ra Sa Za Ic Jb hT Jc Tb Kc Qa Gc;(go_wp2_with fail);clear x3 Wa
    go_loopw [7,8,10] (λa b i wr=>∃(p:Nat) (Da:Option (Nat×Nat)),p<=tn/\i=it p/\a=it (M.lsA Da)/\b=it (M.lsP Da)/\M.scI Ba (n+1) DR (M.scT Ba Ab n p Da (tl.drop p))=RQ/\(∀x,Da=some x->x.1<nj/\x.2<(qs.getD x.1 q0).1.ts.length)/\aW wr Pa ab nb cb bs (some ⟨gj,0,none⟩) nj cj qs/\aw wr w.heap.size (aJ Aa Ca ab nb cb (some ⟨gj,0,none⟩) nj cj)/\aw wr (w.heap.size+1) cm/\Below Pa w wr) (λ_ _ i _=>tn-(intOf i).toNat)
    case atStart=>exact⟨0,Da,by omega,rfl,rfl,rfl,Lb.o,Ia.o,Kb.o,Nb.o,Ob.o,Pb.o⟩
    case round=>
     clear Kb Lb Nb Ob Pb Ia;obtain⟨p,Da,hp,rfl,rfl,rfl,hR,Qa,hG,Ka,Ra,Sa⟩:=hrel;have Wa:wr.cell? ⟨gj,n*18+17,none⟩=some (.slice (qs.getD n q0).2.1 (qs.getD n q0).1.ts.length (qs.getD n q0).2.2):=hG.jcell Ta (by omega);rw[Ua.o.2.1,Ua.o.2.2.1,Ua.o.2.2.2.1]at Wa;have x3:=Ka.c 3;by_cases Db:p<tn
     case neg=>
      have Je:p=tn:=(by omega);have Kb:=Hd hG;have Lb:H7 (M.scJ Ba (n+1) Da ((qs.map (·.1)).drop (n+1))=RQ):=(by show _=_;rw[Ad.o,<-hR,t' (by have:=Lc.o;omega)];rfl);have Nb:=Hd Ka;have Ob:=Hd Ra;have Pb:=Hd Sa;have Ia:=Hd Qa;have Bd:¬ (p:Int)<(tn:Int):=(by omega);clear hG hR Ka Ra Sa Qa;go_wp2;go_roundw
      case rel=>exact⟨n+1,Da,by omega,by go_num,rfl,rfl,Lb.o,Ia.o,Kb.o,Nb.o,Ob.o,Pb.o⟩
      case measure=>simp[intOf];omega
     have hT:=hG.jtask Ta;rw[Ua.o.2.1,Ua.o.2.2.1,Ua.o.2.2.2.1,Ua.o.1]at hT;obtain⟨g,rfl⟩:=hT.block (by omega);have Bd:(p:Int)<(tn:Int):=(by omega);have a0:wr.cell? ⟨g,p*3,none⟩=some (.bool (tl.getD p M.t0).done):=hT.cells Db (j:=0) (by omega);have a1:wr.cell? ⟨g,p*3+1,none⟩=some (it (tl.getD p M.t0).dC):=hT.cells Db (j:=1) (by omega);have a2:wr.cell? ⟨g,p*3+2,none⟩=some (it (tl.getD p M.t0).due):=hT.cells Db (j:=2) (by omega);have Ha:=hR;rw[aX M.t0 Lc.o Db]at Ha;unfold M.scT at Ha;generalize tl.getD p M.t0=cq at a0 a1 a2 Ha;obtain⟨td,x,y⟩:=cq;dsimp only at a0 a1 a2 Ha;have HR:H7 (_=RQ):=Ha;clear hR Ha hT;have La:=Hd hG;have Ea:=Hd Ka;have Fa:=Hd Ra;have Ja:=Hd Sa;have Ia:=Hd Qa;clear hG Ka Ra Sa Qa;have Eb:=gW wr (.cells (fp td x y).toArray 75);have Xa:=Hd (La.o.below Eb);have Na:=Ea.b Eb;have Ga:=Fa.b Eb;have Ya:=Hd (Ja.o.trans (Eb.mono (tr Bb Ja.o.size)));clear La Ea Fa Ja;clear Eb;have Qb:=cQ wr (fp td x y) 75;(go_wp2_with(with_reducible refine au 39 ?_ ?_;rfl));show wpList _ _ _ _ _ _;clear a0 a1 a2 x3 Wa;generalize(wr.alloc (.cells (fp td x y).toArray 75))=w5 at *;generalize wr.heap.size=tb at Qb |-;have Ke:=Qb.c 0;have Le:=Qb.c 1;have Ne:=Qb.c 2;by_cases Fb:x=Ba
     ·
      have g2:(x==Ba)=true:=(by simp[Fb]);obtain rfl:RQ=none:=by have:=HR.o;rw[if_pos Fb]at this;exact this.symm
      clear HR Fb;have o0:=Na.c 0;have o1:=Na.c 1;have o2:=Na.c 2;have o3:=Na.c 3;have r0:=Ga.c 0;have Cd:=Ga.o.fr 0;have r1:=Ga.c 1;have Dd:=Ga.o.fr 1;have r2:=Ga.c 2;have Ed:=Ga.o.fr 2;have r3:=Ga.c 3;have Fd:=Ga.o.fr 3;(go_wp2_with fail);show bodyPost _ _ _ _ _ (w5.setCells (w.heap.size+1) 0 (aJ Aa Ca ab nb cb (some ⟨gj,0,none⟩) nj cj));have Ub:aw (w5.setCells (w.heap.size+1) 0 (aJ Aa Ca ab nb cb (some ⟨gj,0,none⟩) nj cj)) (w.heap.size+1) (aJ Aa Ca ab nb cb (some ⟨gj,0,none⟩) nj cj):=Ga.o.setCells (aJ Aa Ca ab nb cb (some ⟨gj,0,none⟩) nj cj) 0 (by simp);have Gb:=dS w5 (w.heap.size+1) 0 (aJ Aa Ca ab nb cb (some ⟨gj,0,none⟩) nj cj);have Vb:=Xa.o.grown Gb (λg hg e=>by skip;have:=Ib.o g hg;have:=m2 e;omega);have Wb:=Ya.o.trans (ap Gb (tr Bb Ya.o.size) (λz e=>by have:=m2 e;omega));generalize(w5.setCells (w.heap.size+1) 0 (aJ Aa Ca ab nb cb (some ⟨gj,0,none⟩) nj cj))=wf at *;exact s' (aK rfl rfl (xH wf (w.heap.size+1) 0 27 _ _ Ub.row underlying27 rfl (by kernel_rfl))) rfl ⟨rfl,Vb,Wb⟩
     have g2:(x==Ba)=false:=(by simp[Fb]);have Oa:H7 (M.scI Ba (n+1) DR (M.scT Ba Ab n (p+1) (if Da.isNone&&(!Ab&&(!td&&decide (x=0)))then some (n,p)else Da) (tl.drop (p+1)))=RQ):=(by show _=_;have:=HR.o;rw[if_neg Fb]at this;exact this);clear HR;have x3:=Na.c 3;have Gd:w5.cell? ⟨gj,n*18+16,none⟩=some (.bool (qs.getD n q0).1.gone):=Xa.o.jcell Ta (by omega);rw[Ua.o.2.2.2.2]at Gd
     cases Da with
     | some xa=>
      have gA:decide (M.lsA (some xa)<0)=false:=decide_eq_false (by show ¬ ((xa.1:Nat):Int)<0;omega);have Va:H7 (M.scI Ba (n+1) DR (M.scT Ba Ab n (p+1) (some xa) (tl.drop (p+1)))=RQ):=(by show _=_;have:=Oa.o;rw[show(some xa:Option (Nat×Nat)).isNone=false from rfl,Bool.false_and,if_neg (by simp)]at this;exact this);clear Oa;generalize Nc:M.lsA (some xa)=la at *;generalize Oc:M.lsP (some xa)=lp;have Pc:H7 (M.lsA (some xa)=la/\M.lsP (some xa)=lp):=⟨Nc,Oc⟩;clear Nc Oc;have Oe:¬ la<0:=(by simpa using gA);go_wp2;go_roundw
      case rel=>exact⟨p+1,some xa,by omega,by go_num,by rw[Pc.o.1],by rw[Pc.o.2],Va.o,Ia.o,Xa.o,Na.o,Ga.o,Ya.o⟩
      case measure=>simp[intOf];omega
     | none=>
      cases Ab with
      | true=>
       have Va:H7 (M.scI Ba (n+1) DR (M.scT Ba true n (p+1) none (tl.drop (p+1)))=RQ):=(by show _=_;have:=Oa.o;simpa using this);clear Oa;have gA:M.lsA none=-1:=rfl;have gP:M.lsP none=-1:=rfl;go_wp2;go_roundw
       case rel=>exact⟨p+1,none,by omega,by go_num,rfl,rfl,Va.o,Ia.o,Xa.o,Na.o,Ga.o,Ya.o⟩
       case measure=>simp[intOf];omega
      | false=>
       cases td with
       | true=>
        have Va:H7 (M.scI Ba (n+1) DR (M.scT Ba false n (p+1) none (tl.drop (p+1)))=RQ):=(by show _=_;have:=Oa.o;simpa using this);clear Oa;have gA:M.lsA none=-1:=rfl;have gP:M.lsP none=-1:=rfl;go_wp2;go_roundw
        case rel=>exact⟨p+1,none,by omega,by go_num,rfl,rfl,Va.o,Ia.o,Xa.o,Na.o,Ga.o,Ya.o⟩
        case measure=>simp[intOf];omega
       | false=>
        by_cases Rb:x=0
        ·
         have g3:(x==0)=true:=(by simp[Rb]);have Va:H7 (M.scI Ba (n+1) DR (M.scT Ba false n (p+1) (some (n,p)) (tl.drop (p+1)))=RQ):=(by show _=_;have:=Oa.o;rw[Rb]at this;simpa using this);clear Oa;have Id:H7 (∀x,some (n,p)=some x->x.1<nj/\x.2<(qs.getD x.1 q0).1.ts.length):=λx h=>by injection h with h;subst h;exact⟨Ta,by show p<_;rw[Ua.o.2.1];exact Db⟩
         have gA:M.lsA none=-1:=rfl;have gP:M.lsP none=-1:=rfl;go_wp2;go_roundw
         case rel=>exact⟨p+1,(some (n,p)),by omega,by go_num,rfl,rfl,Va.o,Id.o,Xa.o,Na.o,Ga.o,Ya.o⟩
         case measure=>simp[intOf];omega
        have g3:(x==0)=false:=(by simp[Rb]);have Va:H7 (M.scI Ba (n+1) DR (M.scT Ba false n (p+1) none (tl.drop (p+1)))=RQ):=(by show _=_;have:=Oa.o;simpa[Rb]using this);clear Oa;have gA:M.lsA none=-1:=rfl;have gP:M.lsP none=-1:=rfl;go_wp2;go_roundw
        case rel=>exact⟨p+1,none,by omega,by go_num,rfl,rfl,Va.o,Ia.o,Xa.o,Na.o,Ga.o,Ya.o⟩
        case measure=>simp[intOf];omega
   have Jd:n=nj:=(by omega);obtain rfl:RQ=some Da:=by rw[<-hR,t' (by simp;omega)];rfl
   have Fc:¬ (n:Int)<(nj:Int):=(by omega);have Ia:=Hd Qa;have La:=Hd hG;have Ea:=Hd Ka;have Fa:=Hd Ra;have Ja:=Hd Sa;clear hG Ka Ra Sa hR Qa;subst Jd
   cases Da with
   | none=>
    have gA:M.lsA none=-1:=rfl;have o0:=Ea.c 0;have o1:=Ea.c 1;have o2:=Ea.c 2;have o3:=Ea.c 3;have r0:=Fa.c 0;have Cd:=Fa.o.fr 0;have r1:=Fa.c 1;have Dd:=Fa.o.fr 1;have r2:=Fa.c 2;have Ed:=Fa.o.fr 2;have r3:=Fa.c 3;have Fd:=Fa.o.fr 3;(go_wp2_with fail);show bodyPost _ _ _ _ _ (wr.setCells (w.heap.size+1) 0 (aJ Aa Ca ab nb cb aj n cj));have Ub:aw (wr.setCells (w.heap.size+1) 0 (aJ Aa Ca ab nb cb aj n cj)) (w.heap.size+1) (aJ Aa Ca ab nb cb aj n cj):=Fa.o.setCells (aJ Aa Ca ab nb cb aj n cj) 0 (by simp);have Gb:=dS wr (w.heap.size+1) 0 (aJ Aa Ca ab nb cb aj n cj);have Vb:=La.o.grown Gb (λg hg e=>by skip;have:=Ib.o g hg;have:=m2 e;omega);have Wb:=Ja.o.trans (ap Gb (tr Bb Ja.o.size) (λz e=>by have:=m2 e;omega));generalize(wr.setCells (w.heap.size+1) 0 (aJ Aa Ca ab nb cb aj n cj))=wf at *;exact s' (aK rfl rfl (xH wf (w.heap.size+1) 0 27 _ _ Ub.row underlying27 rfl (by kernel_rfl))) rfl ⟨rfl,Vb,Wb⟩
   | some xa=>
    obtain⟨i,j⟩:=xa;obtain⟨hi,hj⟩:=Ia.o _ rfl;dsimp only at hi hj;have eA:M.lsA (some (i,j))=(i:Int):=rfl;have eP:M.lsP (some (i,j))=(j:Int):=rfl;rw[eA,eP];clear eA eP Ia;obtain⟨gj,rfl⟩:=La.o.block (by omega);have hT:=La.o.jtask hi;obtain⟨g,hg⟩:=hT.block (by omega);rw[hg]at hT;have Sb:wr.cell? ⟨gj,i*18+17,none⟩=some (.slice (qs.getD i q0).2.1 (qs.getD i q0).1.ts.length (qs.getD i q0).2.2):=La.o.jcell hi (by omega);rw[hg]at Sb;have c0:wr.cell? ⟨gj,i*18,none⟩=some (it (qs.getD i q0).1.id):=La.o.jcell hi (j:=0) (by omega);have b0:=hT.cells hj (j:=0) (by omega);have Qc:=hT.2.frozenAt (j*3+0);have b1:=hT.cells hj (j:=1) (by omega);have Kd:=hT.2.frozenAt (j*3+1);have b2:=hT.cells hj (j:=2) (by omega);have Ld:=hT.2.frozenAt (j*3+2);rw[Nat.add_zero]at b0 Qc;generalize Nd:(qs.getD i q0).1.ts.getD j M.t0=zz at b0 b1 b2;obtain⟨z1,z2,z3⟩:=zz;simp only[eK,List.getElem?_cons_zero,List.getElem?_cons_succ]at b0 b1 b2;clear Nd;have Hb:qs.getD i q0∈qs:=(by rw[m5,m9 (by omega)];simp);have Rc:=Dc.o _ Hb;have Sc:=Ec.o _ Hb;have Cb:((qs.getD i q0).1.ts.length:Int)<=(qs.getD i q0).2.2:=(by have:=hT.sees.le;omega);have HP:=La.o.task hi hg hj ⟨false,Ba,Aa+5⟩;obtain⟨Tc,Uc⟩:=HP;have Od:H7 _:=Tc;have Pd:H7 _:=Uc
    have Vc:g∈b7 ab (some ⟨gj,0,none⟩) qs:=by
     unfold b7;simp only[xw];exact .inr (.inr (xI.2 ⟨_,Hb,by rw[hg];simp[ob]⟩))
    have Qd:=Ib.o g Vc;have Rd:g≠gj:=λe=>(cU.1 La.o.d).2.1 gj (by simp[ob]) (xI.2 ⟨_,Hb,by rw[hg];simp[ob,e]⟩);have Wc:b7 ab (some ⟨gj,0,none⟩) (qs.set i ({(qs.getD i q0).1 with ts:=(qs.getD i q0).1.ts.set j ⟨false,Ba,Aa+5⟩},(qs.getD i q0).2))=b7 ab (some ⟨gj,0,none⟩) qs:=gC (qs:=qs) (i:=i) _ (by omega) (by rfl);have Sd:H7 _:=Wc;generalize Za:(qs.getD i q0).1.ts.length=tn at Sb Cb Sc hj;generalize Jb:(qs.getD i q0).2.2=tc at Sb Cb;generalize Xc:(qs.getD i q0).1.id=iv at c0 Rc;have Td:=Hd Xc;have Ud:(i:Int)<(n:Int):=(by omega);have Vd:(j:Int)<(tn:Int):=(by omega);have Wd:¬ (i:Int)<0:=(by omega);have Xd:(0:Int)<=(i:Int):=(by omega);have Yd:(0:Int)<=(j:Int):=(by omega);have Zd:IntKind.i64.wrap (Aa+5)=Aa+5:=(by rw[xK];omega);have Ae:IntKind.i64.wrap (100*iv)=100*iv:=(by rw[xK];omega);have Be:IntKind.i64.wrap (100*iv+(j:Int))=100*iv+(j:Int):=(by rw[xK];omega);clear Tc Uc hT hg Hb Za Jb Xc Vc Wc;have x0:=Ea.c 0;have x3:=Ea.c 3;(go_wp2_with fail);apply fR
    case f=>
     intro key
     go_region_law (fail)
     all_goals exact key.out
    case h=>
     rename_i Ce De Ee Fe Ge He Ie;revert Pa ab nb cb cj bs qs Aa Ca Ba w Bb n0 n1 Ce wa Dc Ec wr u5 u6 u10 u11 u12 u13 u14 u15 u16 u17 u18 u19 u20 u21 u22 u23 u24 u25 u26 u27 u28 u29 u30 u31 u32 u33 u34 u35 u36 u37 u38 u39 u40 u41 u42 u43 u44 u45 u46 u47 u48 u49 u50 u51 u52 u53 u54 u55 u56 u57 u58 u59 u60 u61 u62 u63 u64 u65 u66 n Fa Ja Yb Yc Zc hn Ta i j hi gj Ib La Ea De g Qc Kd Ld z1 z2 z3 b0 b1 b2 Od Pd Qd Rd Sd tn Sc hj tc Sb Cb iv c0 Rc Td Ud Vd Xd Yd Zd Ae Be x0 x3 Ee Fe Ge He Ie Fc Wd;exact key0.out
set_option maxRecDepth 10000 in
theorem vD:vT.p:=by
    intro La ab nb cb cj bs qs Aa Ba Ca w Na n0 n1 Sb wa Tb Ub wr u5 u6 Vb Wb Xb Yb Zb Ac Bc Cc Dc Ec Fc Gc Hc Ic Jc Kc Lc Nc Oc Pc Qc Rc Sc Tc Uc Vc Wc Xc Yc Zc Ad Bd Cd Dd Ed Fd Gd Id Jd Kd Ld Nd Od Pd Qd Rd Sd Td Ud Vd Wd Xd Yd Zd Ae Be Ce n Ha Ea De Ee Fe hn Ge i j hi gj Oa Ja Fa He g Fb Gb Hb z1 z2 z3 b0 b1 b2 Pa Qa Ie Ib Jb tn Je hj tc Kb Ke iv c0 Le Lb Ne Oe Pe Qe Re Se Te x0 x3 Ue Ve We Xe Ye Ze Af;show Exit.then _ _ Exit.normal _ (wr.setCells g (j*3) (eK ⟨false,Ca,Aa+5⟩)).drew;have Ra:Below (wr.setCells g (j*3) (eK ⟨false,Ca,Aa+5⟩)).heap.size (wr.setCells g (j*3) (eK ⟨false,Ca,Aa+5⟩)) (wr.setCells g (j*3) (eK ⟨false,Ca,Aa+5⟩)).drew:=(m8 _ _).drew;have Ga:=Qa.o.trans (dy _ _);have Sa:=Hd (Pa.o.below Ra);have Ta:=Hd (Fa.o.grown Ga (λe=>by have:=m2 e;omega));have Ua:=Hd (Ha.o.grown Ga (λe=>by have:=m2 e;omega));have Va:=Hd (Ea.o.trans (ap Ga (tr Na Ea.o.size) (λz e=>by have:=m2 e;omega)));have Nb:=Ga.cell c0 (by simp;exact λe=>Ib e.symm);generalize(wr.setCells g (j*3) (eK ⟨false,Ca,Aa+5⟩)).drew=w2 at *;clear Ra Ga Pa Qa c0 Kb b0 b1 b2 Fb Gb Hb x0 x3 Ja Fa Ha Ea;have Ja:=Sa;have Fa:=Ta;have Ha:=Ua;have Ea:=Va;clear Sa Ta Ua Va;have Bf:=Oa.o gj (by simp[b7,ob]);(go_wp2_with fail);refine cP w2 (some (w.heap.size+1)) (by kernel_rfl) λhHeld=>?_;have Wa:m1 w2 w2.drew:=(m8 _ _).drew;have Xa:=Ha.b Wa;generalize w2.drew=Ia at *;clear Wa;refine wpAnyH_take (i:=0) (v:=.agg (aJ Aa Ba ab nb cb (some ⟨gj,0,none⟩) n cj).toArray) rfl (by kernel_rfl) (by kernel_rfl) (by kernel_rfl) (λ_ _ _ h=>h) (xF (by kernel_rfl) 27 (.tmp 2) rfl w.heap.size 0 rfl (aJ Aa Ba ab nb cb (some ⟨gj,0,none⟩) n cj) _ (λW h=>(Fa.o.grown h (by simp)).row) underlying27 rfl (by kernel_rfl)) (by assumption) ?_;refine tE 1 (.pointer (some ⟨w.heap.size,3,none⟩)) ?_;refine tk 2 (.slice (some ⟨gj,0,none⟩) n cj) ?_ ?_
    .intro wp Ka;have q0:=(Fa.o.grown Ka (by simp)).c 3;go_simp
    refine tE 3 (it (i:Nat)) ?_;refine tE 4 (.pointer (some ⟨gj,i*18,none⟩)) ?_;refine tE 5 (.pointer (some ⟨gj,i*18,none⟩)) ?_;refine tk 6 (it iv) ?_ ?_
    .intro wp Ka;have q0:=Ka.cell Nb (by simp;omega);go_simp
    refine tE 7 (it (100*iv)) ?_;refine tE 8 (it (j:Nat)) ?_;refine tE 9 (it (100*iv+(j:Int))) ?_;refine aT 10 λKk hK=>?_;rw[if_pos (by kernel_rfl)];with_reducible refine wp_store_mid 27 (.tmp 4) (.tmp 83) ?_ (w.heap.size+1) 0 ((aJ Aa Ba ab nb cb (some ⟨gj,0,none⟩) n cj):List Value).toArray ?_ ?_ ?_ (by kernel_rfl) (by kernel_rfl) ?_
    .kernel_rfl
    .kernel_rfl
    .kernel_rfl
    .exact Xa.o.there 0 4 (by simp)
    refine hK.out _ _ (aO hHeld 0 _) (λhHeld2=>?_);clear hK Kk;refine tE 11 (it 0) ?_;refine tE 12 (it (100*iv+(j:Int))) ?_;refine bi ?_;go_simp;have hS:w2.grownBy (Ia.setCells (w.heap.size+1) 0 (aJ Aa Ba ab nb cb (some ⟨gj,0,none⟩) n cj)) (some (w.heap.size+1)):=aO hHeld 0 _;have Ya:aw (Ia.setCells (w.heap.size+1) 0 (aJ Aa Ba ab nb cb (some ⟨gj,0,none⟩) n cj)) (w.heap.size+1) (aJ Aa Ba ab nb cb (some ⟨gj,0,none⟩) n cj):=Xa.o.setCells (aJ Aa Ba ab nb cb (some ⟨gj,0,none⟩) n cj) 0 (by simp);have Za:=Ja.o.grown hS (λg hg e=>by rw[Jb.o]at hg;have:=Oa.o g hg;have:=m2 e;omega);have Ab:=Ea.o.trans (ap hS (tr Na Ea.o.size) (λz e=>by have:=m2 e;omega));generalize(Ia.setCells (w.heap.size+1) 0 (aJ Aa Ba ab nb cb (some ⟨gj,0,none⟩) n cj))=wf at *;have Ob:H7 _:=Za;have Pb:H7 _:=Ab;have Qb:=Hd Ya;clear Za Ab Ya hS;(go_wp2_with fail);have Bb:i<qs.length:=(by omega);have Cb:qs.getD i q0=qs[i]'Bb:=(by rw[m5,m9 Bb];rfl);have Db:=Ob.o;rw[Cb]at Db;have Eb:=Lb.o;rw[Cb]at Eb;have Rb:=Qb.o.row;refine s' (aK rfl rfl (xH wf (w.heap.size+1) 0 27 _ _ Rb underlying27 rfl (by kernel_rfl))) rfl ?_;refine⟨?_,Db,Pb.o⟩;rw[Eb]
    rfl
theorem qq{aj:Option Addr}{nj cj:Nat}{qs:List MQ}(now sr who:Int)(w:World)(H:aW w dA ab nb cb bs aj nj cj qs)(mr:dA<=w.heap.size)(n0:0<=now)(n1:now<=1000000000)(hid:∀q∈qs,0<q.1.id/\q.1.id<=1000000000)(hT:∀q∈qs,q.1.ts.length<=8):
  Calls prog 28 #[.agg #[it now,it sr,.slice ab nb cb,.slice aj nj cj],it who] w λe w'=>
   match M.scJ who 0 none (qs.map (·.1))with
   | none=>e=.returned (.tuple #[.agg (aJ now sr ab nb cb aj nj cj).toArray,it 6,it 0])/\aW w' dA ab nb cb bs aj nj cj qs/\Below dA w w'
   | some none=>e=.returned (.tuple #[.agg (aJ now sr ab nb cb aj nj cj).toArray,it 4,it 0])/\aW w' dA ab nb cb bs aj nj cj qs/\Below dA w w'
   | some (some (i,k))=>e=.returned (.tuple #[.agg (aJ now sr ab nb cb aj nj cj).toArray,it 0,it (100*(qs.getD i q0).1.id+k)])/\aW w' dA ab nb cb bs aj nj cj (qs.set i ({(qs.getD i q0).1 with ts:=(qs.getD i q0).1.ts.set k ⟨false,who,now+5⟩},(qs.getD i q0).2))/\Below dA w w':=vT.h ⟨vD⟩ dA ab aj nb cb nj cj bs qs now sr who w H mr n0 n1 hid hT
theorem ru{j:M.Jb}{p:Nat}(h:M.openP j=some p):p<j.ts.length:=by
 unfold M.openP at h
 split at h
 .simp at h
 .exact(List.findIdx?_eq_some_iff_getElem.1 h).1
def pj(m:M.Mt)(who:Int):Option (Nat×Nat)->M.Mt×Int×Int
 | none=>(m,4,0)
 | some (i,k)=>(⟨m.now,m.next,m.bs,M.setT m.js i k ⟨false,who,m.now+5⟩⟩,0,100*(m.js.getD i M.j0).id+k)
theorem rh(m:M.Mt)(who:Int):M.lease m who=if m.bs.contains who then(m,5,0)else if m.js.any (λj=>j.ts.any (M.mineT who))then(m,6,0)else pj m who (M.place 0 m.js):=by
 unfold M.lease pj
 rfl
set_option maxRecDepth 10000 in
theorem ub(who:Int)(w:World)(H:bq w dA h now sr ab nb cb bs ai ni ci mb qs)(HRt:M.Right now sr bs (qs.map (λq:HJ=>q.j)))(mr:dA<=w.heap.size):
  Calls prog 50 #[tG h,.agg #[it who]] w (gO w dA h (M.lease ⟨now,sr,bs,qs.map (λq:HJ=>q.j)⟩ who)):=by
 have Ub:=HRt.now0;have Vb:=HRt.now1;have Ua:H7 ((qs.map (λq:HJ=>q.j.id)).Pairwise (·< ·)):=by have:=HRt.rise;rw[List.pairwise_map]at this;exact List.pairwise_map.2 this
 have Gb:H7 (∀k,k<qs.length->0<(qs.getD k du).j.id/\(qs.getD k du).j.id<1000000000/\(qs.getD k du).j.ts.length<=8):=λk hk=>by
  have hm:(qs.getD k du).j∈qs.map (λq:HJ=>q.j):=(by rw[<-mQ hk];exact M.getD_mem (by simpa using hk));have h1:=HRt.job _ hm;have h2:=HRt.next1;exact⟨h1.1,by omega,(HRt.tasks _ hm).2⟩
 have Hb:=H.count;have bn:(ni:Int)<=9223372036854775807:=(by have:=H.i.sees.big;have:=H.i.sees.le;omega);have Wb:(ni:Int)<=ci:=(by have:=H.i.sees.le;omega);have Ea:H7 (m1 w (w.alloc (.cells #[it who] 110))):=(m8 _ _).alloc (m3 _) _;have Ja:=cQ w [it who] 110;have Da:=Hd (H.below Ea.o);have C1:=iJ who (w.alloc (.cells #[it who] 110)) Da.o;have C2:=rZ who (w.alloc (.cells #[it who] 110)) Da.o Ua.o;clear H HRt;rw[rh];dsimp only;have e:(qs.map (λq:HJ=>q.j)).any (λj=>j.ts.any (M.mineT who))=qs.any (λq=>q.j.ts.any (M.mineT who)):=(by rw[List.any_map];rfl);rw[e];clear e;generalize bs.contains who=ob' at C1 |-;generalize qs.any (λq=>q.j.ts.any (M.mineT who))=oy at *;generalize hR:M.place 0 (qs.map (λq:HJ=>q.j))=R;have HR:=Hd hR;clear hR;have t0:=Ja.c 0;go_enter func50,ntmps50;(go_wp2_with fail);generalize(w.alloc (.cells #[it who] 110))=wa at *;refine C1.mono ?_;rintro e wz ⟨rfl,Va⟩;have Ib:=Va.symm;clear Va C1;subst Ib;have Ka:=Hd (Ea.o.mono mr);have Wa:=tr mr Ea.o.size
 cases ob' with
 | true=>
  go_wp2;exact s' (v:=.tuple #[it 5,it 0]) (by simp[results,results50,go_sem]) rfl ⟨rfl,⟨_,_,_,_,_,_,_,_,Da.o,rfl⟩,Ka.o⟩
 | false=>
  (go_wp2_with fail);refine C2.mono ?_;rintro e wb ⟨rfl,hb⟩;have Xa:=Ja.b hb;have Fa:=Hd (Da.o.below hb);have La:=Hd (Ka.o.trans (hb.mono Wa));clear hb Ja Da Ea Ka C2 t0 Wa
  cases oy with
  | true=>
   go_wp2;exact s' (v:=.tuple #[it 6,it 0]) (by simp[results,results50,go_sem]) rfl ⟨rfl,⟨_,_,_,_,_,_,_,_,Fa.o,rfl⟩,La.o⟩
  | false=>
   have x3:=Fa.o.l.c 3;(go_wp2_with fail);clear x3
   go_loopw [23] (λi wr=>∃k:Nat,k<=ni/\i=it k/\M.place k ((qs.drop k).map (λq:HJ=>q.j))=R/\bq wr dA h now sr ab nb cb bs ai ni ci mb qs/\aw wr w.heap.size [it who]/\Below dA w wr) (λi _=>ni-(intOf i).toNat)
   case atStart=>exact⟨0,by omega,rfl,HR.o,Fa.o,Xa.o,La.o⟩
   case round=>
    clear Fa Xa La HR;obtain⟨k,hk,rfl,hg,hh,ht,Ga⟩:=hrel;have Na:=tr mr Ga.size;have HT:=Hd ht;have HB:=Hd Ga;by_cases Ya:k<ni
    ·
     obtain⟨b1,o1,rfl,Za⟩:=hh.i.sees.at (by omega);have c1:=Za k Ya;rw[nU (by omega)]at c1;obtain⟨q,hq⟩:∃q,qs.getD k du=q:=⟨_,rfl⟩;have Ab:=Gb.o k (by omega)
     have hG:(match M.openP q.j with | some p=>some (k,p) | none=>M.place (k+1) ((qs.drop (k+1)).map (λq:HJ=>q.j)))=R:=by
      rw[<-hg,aX du Hb Ya,hq];rfl
     have Bb:H7 ((qs.map (λq:HJ=>q.j)).getD k M.j0=q.j):=(by show _=_;rw[<-hq];exact mQ (by omega));rw[hq]at c1 Ab;have HA:H7 (bC wr dA h now sr ab nb cb bs (some ⟨b1,o1,none⟩) ni ci mb qs k q):=⟨hh,by omega,hq⟩;have Oa:=hh.m.get (P:=prog) (t:=103) underlying103 underlying2 _ _ (HA.o.look Ua.o) false;simp only[Bool.false_eq_true,if_false]at Oa;have h3:=hh.l.c 3;have h4:=hh.l.c 4;have C3:=lY wr HA.o.lies HA.o.owns;have Aa:=rq q.j;generalize jm q.j=oi at C3 Aa;generalize Cb:q.j.id=qi at c1 Oa Ab;have Jb:=Hd Cb;have hI:(k:Int)<(ni:Int):=(by omega);clear Za hg hh ht Ga hq Cb;have HG:=Hd hG;have Ca:=Hd Aa;clear hG Aa;(go_wp2_with fail);refine C3.mono ?_;rintro e w2 ⟨rfl,hb⟩;have Ba:=Hd (HA.o.below hb);have Pa:=HT.b hb;have Qa:=Hd (HB.o.trans (hb.mono Na));have Kb:=tr Na hb.size;clear hb HA HT HB Na C3 c1 h3 h4 Oa
     cases Aa:M.openP q.j with
     | none=>
      rw[Aa]at HG Ca;have Lb:=Hd HG.o;have Ra:oi=-1:=Ca.o;clear Aa HG Ca;subst Ra;go_wp2;go_roundw
      case rel=>exact⟨k+1,by omega,by go_num,Lb.o,Ba.o.1,Pa.o,Qa.o⟩
      case measure=>simp[intOf];omega
     | some p=>
      rw[Aa]at HG Ca;have hR:some (k,p)=R:=HG.o;have Ra:oi=(p:Int):=Ca.o;have Ha:=ru Aa;clear Aa HG Ca;subst Ra;subst hR;have hO:=Ba.o.owns;obtain⟨g,Ia⟩:=hO.block (by omega);have Db:=Ba.o.lies.c 17;rw[Ia]at hO Db;have x0:=Ba.o.1.l.c 0;have t0:=Pa.c 0;have y0:=hO.cells Ha (j:=0) (by omega);have y1:=hO.cells Ha (j:=1) (by omega);have y2:=hO.cells Ha (j:=2) (by omega);have Eb:=hO.2.frozenAt (p*3+0);have Nb:=hO.2.frozenAt (p*3+1);have Ob:=hO.2.frozenAt (p*3+2);rw[Nat.add_zero]at y0 Eb;generalize q.j.ts.getD p M.t0=zz at y0 y1 y2;obtain⟨z1,z2,z3⟩:=zz;simp only[eK,List.getElem?_cons_zero,List.getElem?_cons_succ]at y0 y1 y2;obtain⟨Fb,Sa⟩:=hO.put Ha ⟨false,who,now+5⟩;have Pb:g∈ob q.a:=(by rw[Ia];simp[ob]);have HF:=(Ba.o.tasks (n:=0) (c:=0) (ts:=q.j.ts.set p ⟨false,who,now+5⟩) (by rw[List.length_set]) (by rw[Ia];exact Sa) (by rw[List.length_set,Ia];exact Fb)).below (m8 _ _).drew;have Qb:=Hd ((Qa.o.trans (ap Sa Kb (λz e=>by rw[<-m2 e];exact(Ba.o.apart.1 g Pb).1))).drew)
      have Rb:H7 (∃Ta,bq (w2.setCells g (p*3) (eK ⟨false,who,now+5⟩)).drew dA h now sr ab nb cb bs (some ⟨b1,o1,none⟩) ni ci mb Ta/\Ta.map (λq:HJ=>q.j)=M.setT (qs.map (λq:HJ=>q.j)) k p ⟨false,who,now+5⟩):=⟨_,HF.1,by
       rw[List.map_set];unfold M.setT;rw[Bb.o]⟩
      have Xb:(p:Int)<(q.j.ts.length:Int):=(by omega);have Yb:(0:Int)<=(p:Int):=(by omega);have Zb:IntKind.i64.wrap (p:Int)=p:=(by rw[xK];have:=hO.sees.big;have:=hO.sees.le;omega);have Ac:(q.j.ts.length:Int)<=q.c:=(by have:=hO.sees.le;omega);have Bc:IntKind.i64.wrap (now+5)=now+5:=by rw[xK];omega
      have Cc:H7 (IntKind.i64.wrap (IntKind.i64.wrap (100*qi)+(p:Int))=100*qi+p):=by
       have h8:(p:Int)<9000000000000:=(by omega);show _=_;rw[xK,xK];omega
      clear hO Fb Sa HF Ba Pa Qa;(go_wp2_with fail);apply fR
      case f=>
       intro key
       go_region_law (fail)
       all_goals exact key.out
      case h=>
       clear Db x0 t0 y0 y1 y2 Eb Nb Ob;go_wp2;obtain⟨Ta,Sb,Tb⟩:=Rb.o;exact s' (v:=.tuple #[it 0,it (100*qi+(p:Int))]) (by simp[results,results50,go_sem]) rfl ⟨by rw[<-Jb.o,<-Bb.o];rfl,⟨_,_,_,_,_,_,_,_,Sb,Tb⟩,Qb.o⟩
    ·
     have hR:none=R:=by
      rw[t' (by omega)]at hg;exact hg
     have HH:=Hd hh;clear hg hh ht Ga;subst hR;go_wp2;exact s' (v:=.tuple #[it 4,it 0]) (by simp[results,results50,go_sem]) rfl ⟨rfl,⟨_,_,_,_,_,_,_,_,HH.o,rfl⟩,HB.o⟩
set_option maxRecDepth 10000 in
theorem sP(a b c d f k a' b' c' d' f' k' s1 s2 rows i':Int)(w:World)(H:bq w dA h now sr ab nb cb bs ai ni ci mb qs)(HRt:M.Right now sr bs (qs.map (λq:HJ=>q.j)))(hm0:1<=i')(hm1:i'<=8)(mr:dA<=w.heap.size):
  Calls prog 47 #[tG h,.agg #[it a,it b,it c,it d,it f,it k,it a',it b',it c',it d',it f',it k',it s1,it s2,it rows,it i']] w (gO w dA h (M.submit ⟨now,sr,bs,qs.map (λq:HJ=>q.j)⟩ ⟨⟨a,b,c,d,f,k⟩,⟨a',b',c',d',f',k'⟩⟩ (s1,s2) rows i')):=by
 have Rb:=HRt.next0;have Sb:=HRt.next1;have Ua:=H.count;have h6:ni<=6:=(by have:=HRt.few;rw[List.length_map]at this;omega);have Va:H7 (∀q∈qs,q.j.id≠sr):=λq hq e=>by have:=(HRt.job q.j (List.mem_map_of_mem (f:=λq:HJ=>q.j) hq)).2.1;omega
 have Da:H7 (m1 w (w.alloc (.cells (fi a b c d f k a' b' c' d' f' k' s1 s2 rows i').toArray 108))):=(m8 _ _).alloc (m3 _) _;have Ga:=cQ w (fi a b c d f k a' b' c' d' f' k' s1 s2 rows i') 108;have Ba:=Hd (H.below Da.o);have La:=Hd H.lt;have bn:(ni:Int)<=9223372036854775807:=(by omega);have x3:=Ba.o.l.c 3;have x1:=Ba.o.l.c 1;have Ha:=Hd (Da.o.mono mr);have Wa:=tr mr Da.o.size;obtain⟨i0,hi,Xa,Ya,Za⟩:=info_parts gm;unfold M.submit;dsimp only;rw[List.length_map,Ua];by_cases Ia:ni=6
 ·
  have g6:((ni:Int)==6)=true:=(by simp[Ia]);rw[if_pos (by simp[Ia])];go_enter func47,ntmps47;go_wp2;exact s' (v:=.tuple #[it 3,it 0]) (by simp[results,results47,go_sem]) rfl ⟨rfl,⟨_,_,_,_,_,_,_,_,Ba.o,rfl⟩,Ha.o⟩
 have g6:((ni:Int)==6)=false:=(by simp;omega);by_cases Ea:sr=1000000000
 ·
  have gx:(sr==1000000000)=true:=(by simp[Ea]);rw[if_pos (by simp[Ea])];go_enter func47,ntmps47;go_wp2;exact s' (v:=.tuple #[it 3,it 0]) (by simp[results,results47,go_sem]) rfl ⟨rfl,⟨_,_,_,_,_,_,_,_,Ba.o,rfl⟩,Ha.o⟩
 have gx:(sr==1000000000)=false:=(by simp[Ea]);rw[if_neg (by simp[Ia,Ea])];obtain⟨mn,rfl⟩:∃mn:Nat,i'=(mn:Int):=⟨i'.toNat,by omega⟩;rw[xX];go_enter func47,ntmps47;(go_wp2_with fail);generalize(w.alloc (.cells (fi a b c d f k a' b' c' d' f' k' s1 s2 rows (mn:Nat)).toArray 108))=wa at *;have Ab:=Ga.o.2.2;have Na:H7 (w.heap.size∉dD h mb ab ai qs):=λe=>by have:=La.o _ e;omega
 have Bb:mn<=8:=(by omega);have Cb:mn*3<=16777216:=(by omega);have Db:i0.bytes*mn<=281474976710656:=(by rw[Za];omega);have Eb:mn<=maxLen:=(by unfold maxLen;omega);clear Da;generalize w.heap.size=tb at Ga La Na Ab |-;refine wp_region_noPanic ?_;refine wp_region_held_drew (S:=λW=>aw W tb (fi a b c d f k a' b' c' d' f' k' s1 s2 rows (mn:Nat))) (by kernel_rfl) (Ga.o.belowS (m8 _ _).drew) (λhHeld=>?_);have Ja:=Hd (Ba.o.below (m8 _ _).drew);have Oa:=Hd Ha.o.drew;have Fa:dA<=wa.drew.heap.size:=Wa;generalize wa.drew=Tb at *;refine tE 0 (tG h) ?_;refine tE 1 (it sr) ?_;refine tE 2 (tG tb) ?_;refine wpAnyH_take (i:=3) (v:=.agg ((cW a b c d f k a' b' c' d' f' k'):List Value).toArray) rfl (by kernel_rfl) (by kernel_rfl) (by kernel_rfl) (λ_ _ _ h=>h) (xF (by kernel_rfl) 31 (.tmp 26) rfl tb 0 rfl ((cW a b c d f k a' b' c' d' f' k'):List Value) _ (λW hW=>aw.mid hW 0 12) underlying31 rfl (by kernel_rfl)) (by assumption) ?_;refine tE 4 (.pointer (some ⟨tb,12,none⟩)) ?_;refine tk 5 (.agg #[it s1,it s2]) ?_ ?_
 .intro wq Aa;have c0:=Aa.c 12;have c1:=Aa.c 13;go_simp
 refine tE 6 (.pointer (some ⟨tb,14,none⟩)) ?_;refine tk 7 (it rows) ?_ ?_
 .intro wq Aa;have c0:=Aa.c 14;go_simp
 refine tE 8 (.pointer (some ⟨tb,15,none⟩)) ?_;refine tk 9 (it (mn:Nat)) ?_ ?_
 .intro wq Aa;have c0:=Aa.c 15;go_simp
 refine xO (rs:=[10]) (by kernel_rfl) (by simp) ?_;apply u'
 case ho=>exact rfl
 case hs=>exact xB
 intro Kk hK;with_reducible refine fh ?qg (.tmp 33) 68 ?qo dA 75 i0 (.agg ug.toArray) 3 underlying68 hi Xa Ya mn ?qm Cb Db Eb Fa ?_
 case qg | qo=>exact rfl
 case qm=>kernel_rfl
 intro g wm Fb Pa hg;have Gb:=Hd (oh Bb Pa rfl);have Qa:=Hd (Ja.o.grown hg (λ_ _=>by simp));have Ra:=Hd (Oa.o.trans (ap hg Fa (by simp)));have Sa:=tr Fa hg.size;have Ka:=hHeld.grown hg (by simp);have Hb:H7 (∀x∈ob (some (⟨g,0,none⟩:Addr)),x∉dD h mb ab ai qs):=λx hx e=>by simp[ob]at hx;have:=Ja.o.lt _ e;omega
 refine hK.out _ _ Ka (λhzz=>?_);clear hK Kk hzz Pa hg Fb hHeld Ja Oa Fa;refine tE 11 (.agg ((bO sr a b c d f k a' b' c' d' f' k' s1 s2 rows false (some ⟨g,0,none⟩) mn mn):List Value).toArray) ?_;refine aT 12 λKk hK=>?_;go_simp;have C1:=mO (⟨sr,⟨⟨a,b,c,d,f,k⟩,⟨a',b',c',d',f',k'⟩⟩,(s1,s2),rows,false,List.replicate mn M.t0⟩:M.Jb) (some ⟨g,0,none⟩) mn wm Qa.o Va.o (by rw[xM];exact Gb.o) Hb.o Sa (by omega);dsimp only[fk]at C1;rw[xM]at C1;refine C1.mono ?_;rintro e wn ⟨rfl,Ib,Kb,hH,hB,hF⟩;go_simp;have Ca:=Hd hH;have Lb:=Hd (Ra.o.trans hB);have Nb:=tr Sa hB.size;refine hK.out _ _ (hF tb _ Ka Na.o) (λ_=>?_);clear hK Kk hH hB hF C1 Ka Qa Ra;refine bi ?_;go_simp;have y1:=Ca.o.l.c 1;have f1:=Ca.o.l.fr 1;have Ob:=Ca.o.l.set 1 (by simp) (it (sr+1));have Ta:=aV wn ⟨h,1,none⟩ (it (sr+1));have Pb:=Hd (Ca.o.head Ta Ob);have Qb:H7 (Below dA w (wn.setCell ⟨h,1,none⟩ (it (sr+1)))):=Lb.o.trans (ap Ta Nb (λz e=>by rw[<-m2 e];exact Ca.o.lo h (by simp[dD])));go_wp2;exact s' (v:=.tuple #[it 0,it sr]) (by simp[results,results47,go_sem]) rfl ⟨rfl,⟨_,_,_,_,_,_,_,_,Pb.o,(by rw[xU];rfl)⟩,Qb.o⟩
end Go.Proofs.YtbjalickbnpnkaaGreatDoor
