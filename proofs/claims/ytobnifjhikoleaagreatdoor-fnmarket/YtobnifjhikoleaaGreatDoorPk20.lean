import Derived.Test.YtobnifjhikoleaaGreatDoorPk19
import Derived.Test.YtobnifjhikoleaaGreatDoorPk15
namespace Go.Proofs.YtobnifjhikoleaaGreatDoor
open Go.RowKit Go.Proofs.Tryz
set_option linter.unusedSimpArgs false
set_option maxHeartbeats 32000000
set_option maxRecDepth 10000
def eQ(w:World)(i':Nat)(now uN:Int)(ab:Option Addr)(nb cb:Nat)(bs:List Int)(aj:Option Addr)(nj cj:Nat)(qs:List MQ)(l' id s':Int)(p:M.Pf)(e:Ending)(w':World):Prop:=
 Below i' w w'∧
 (((M.jobAt id 0 (qs.map (·.1))<0∨((M.jobOf id (qs.map (·.1))).ts.length:Int)≤s')∧e=.returned (.tuple #[.agg #[.int .i64 now,.int .i64 uN,.slice ab nb cb,.slice aj nj cj],.int .i64 4,.int .i64 0])∧aW w' i' ab nb cb bs aj nj cj qs)∨
  (¬ (M.jobAt id 0 (qs.map (·.1))<0∨((M.jobOf id (qs.map (·.1))).ts.length:Int)≤s')∧((M.jobOf id (qs.map (·.1))).ts.getD s'.toNat M.t0).l'≠l'∧e=.returned (.tuple #[.agg #[.int .i64 now,.int .i64 uN,.slice ab nb cb,.slice aj nj cj],.int .i64 8,.int .i64 0])∧aW w' i' ab nb cb bs aj nj cj qs)∨
  (¬ (M.jobAt id 0 (qs.map (·.1))<0∨((M.jobOf id (qs.map (·.1))).ts.length:Int)≤s')∧((M.jobOf id (qs.map (·.1))).ts.getD s'.toNat M.t0).l'=l'∧cn s' p (M.jobOf id (qs.map (·.1)))=false∧∃ab' nb' cb',e=.returned (.tuple #[.agg #[.int .i64 now,.int .i64 uN,.slice ab' nb' cb',.slice aj nj cj],.int .i64 7,.int .i64 0])∧aW w' i' ab' nb' cb' (M.banned bs l') aj nj cj (qs.map fun q=>(M.freeJ (bt now l') q.1,q.2)))∨
  (¬ (M.jobAt id 0 (qs.map (·.1))<0∨((M.jobOf id (qs.map (·.1))).ts.length:Int)≤s')∧((M.jobOf id (qs.map (·.1))).ts.getD s'.toNat M.t0).l'=l'∧cn s' p (M.jobOf id (qs.map (·.1)))=true∧∃i,M.jobAt id 0 (qs.map (·.1))=((i:Nat):Int)∧e=.returned (.tuple #[.agg #[.int .i64 now,.int .i64 uN,.slice ab nb cb,.slice aj nj cj],.int .i64 0,.int .i64 (if((qs.getD i q0).1.ts.set s'.toNat ⟨true,0,0⟩).all (·.done)then 1 else 0)])∧aW w' i' ab nb cb bs aj nj cj (qs.set i ({(qs.getD i q0).1 with ts:=(qs.getD i q0).1.ts.set s'.toNat ⟨true,0,0⟩},(qs.getD i q0).2))))
set_option linter.unusedVariables false in
def j5:Prop:=∀(i':Nat) (ab aj:Option Addr) (nb cb nj cj:Nat) (bs:List Int) (qs:List MQ) (now uN:Int) (t' id s' l' tr m0 J L T Y U Z m7 Q V A I t1 t2 p1 p2 p3 p4:Int) (a1 a2 a3 a4:Option Addr) (n1 n2 n3 n4 c1 c2 c3 c4:Nat) (z1 z2 z3 z4:List Int) (w:World) (H:aW w i' ab nb cb bs aj nj cj qs) (uK:i'≤w.heap.size) (h1:aw w a1 n1 c1 z1) (h2:aw w a2 n2 c2 z2) (h3:aw w a3 n3 c3 z3) (h4:aw w a4 n4 c4 z4) (l1:n1≤1048576) (l2:n2≤1048576) (l3:n3≤1048576) (l4:n4≤1048576) (hp0:0≤s') (hp7:s'≤7),
  Calls prog 26 #[.agg #[.int .i64 now,.int .i64 uN,.slice ab nb cb,.slice aj nj cj],.agg #[.int .i64 t',.int .i64 id,.int .i64 s',.int .i64 l',.int .i64 tr,.int .i64 m0,.int .i64 J,.int .i64 L,.int .i64 T,.int .i64 Y,.int .i64 U,.int .i64 Z,.int .i64 m7,.int .i64 Q,.int .i64 V,.int .i64 A,.int .i64 I,.int .i64 t1,.int .i64 t2,.int .i64 p1,.int .i64 p2,.int .i64 p3,.int .i64 p4,.slice a1 n1 c1,.slice a2 n2 c2,.slice a3 n3 c3,.slice a4 n4 c4]] w fun e w'=>eQ w i' now uN ab nb cb bs aj nj cj qs l' id s' ⟨(p1,p2),(p3,p4),z1,z2,z3,z4⟩ e w'
def ue:uy j5:=by
 apply uy.mk
 case h=>
  intro key0 Gb ab aj nb cb nj cj bs qs Ba Ca Pa id Ha Qa Ra m0 J L T Y U Z m7 Q V Sa Ta t1 t2 p1 p2 p3 p4 a1 a2 a3 a4 n1 n2 n3 n4 c1 c2 c3 c4 z1 z2 z3 z4 w H Wa h1 h2 h3 h4 l1 l2 l3 l4 Ad Bd;have HM:=Hd H;have Yb:=Hd H.sees;have Zb:=H.jl;have Cd:(nj:Int)≤9223372036854775807:=(by have:=H.sees.j.big;have:=H.sees.j.le;omega);have Dd:(nj:Int)≤cj:=(by have:=H.sees.j.le;omega);have Ib:=Hd H.lt;have S1:=Hd h1;have S2:=Hd h2;have S3:=Hd h3;have S4:=Hd h4;have Jb:=M.jobAt_some id (qs.map (·.1)) 0;have C1:∀W,eB W aj nj cj (qs.map (·.1))→Rt 22 #[.agg (aI Ba Ca ab nb cb aj nj cj).toArray,it id] W (it (M.jobAt id 0 (qs.map (·.1)))):=fun W h=>lN Ba Ca id W h;clear H h1 h2 h3 h4;go_enter func26,ntmps26;have Kb:H9 (au (((w.alloc (.cells (aI Ba Ca ab nb cb aj nj cj).toArray 27)).alloc (.cells (bH Pa id Ha Qa Ra m0 J L T Y U Z m7 Q V Sa Ta t1 t2 p1 p2 p3 p4 a1 n1 c1 a2 n2 c2 a3 n3 c3 a4 n4 c4).toArray 37)).alloc (.cells aV.toArray 27)) w.heap.size (aI Ba Ca ab nb cb aj nj cj)):=((aM _ _ _).alloc _).alloc _;have Lb:H9 (au (((w.alloc (.cells (aI Ba Ca ab nb cb aj nj cj).toArray 27)).alloc (.cells (bH Pa id Ha Qa Ra m0 J L T Y U Z m7 Q V Sa Ta t1 t2 p1 p2 p3 p4 a1 n1 c1 a2 n2 c2 a3 n3 c3 a4 n4 c4).toArray 37)).alloc (.cells aV.toArray 27)) (w.heap.size+1) (bH Pa id Ha Qa Ra m0 J L T Y U Z m7 Q V Sa Ta t1 t2 p1 p2 p3 p4 a1 n1 c1 a2 n2 c2 a3 n3 c3 a4 n4 c4)):=(aZ _ _ _ _).alloc _;have Nb:H9 (au (((w.alloc (.cells (aI Ba Ca ab nb cb aj nj cj).toArray 27)).alloc (.cells (bH Pa id Ha Qa Ra m0 J L T Y U Z m7 Q V Sa Ta t1 t2 p1 p2 p3 p4 a1 n1 c1 a2 n2 c2 a3 n3 c3 a4 n4 c4).toArray 37)).alloc (.cells aV.toArray 27)) (w.heap.size+1+1) aV):=dm _ _ _ _ _;have Xa:H9 (m1 w (((w.alloc (.cells (aI Ba Ca ab nb cb aj nj cj).toArray 27)).alloc (.cells (bH Pa id Ha Qa Ra m0 J L T Y U Z m7 Q V Sa Ta t1 t2 p1 p2 p3 p4 a1 n1 c1 a2 n2 c2 a3 n3 c3 a4 n4 c4).toArray 37)).alloc (.cells aV.toArray 27))):=(((m5 _ _).alloc (m3 _) _).alloc (by simp) _).alloc (by simp;omega) _;(go_wp2_with fail);generalize(((w.alloc (.cells (aI Ba Ca ab nb cb aj nj cj).toArray 27)).alloc (.cells (bH Pa id Ha Qa Ra m0 J L T Y U Z m7 Q V Sa Ta t1 t2 p1 p2 p3 p4 a1 n1 c1 a2 n2 c2 a3 n3 c3 a4 n4 c4).toArray 37)).alloc (.cells aV.toArray 27))=wa at Kb Lb Nb Xa ⊢;refine(C1 _ (Yb.o.j.below Xa.o)).mono ?_;rintro e wb ⟨rfl,hb⟩;have Ua:=Kb.b hb;have Ya:=Lb.b hb;have Va:=Nb.b hb;have Ja:=Xa.t hb;clear Kb Lb Nb Xa;clear hb;generalize Ac:M.jobAt id 0 (qs.map (·.1))=Ob at Jb ⊢;have Pb:=Hd Ac;clear Ac C1;by_cases Qb:Ob<0
  ·
   have Bc:decide (Ob<0)=true:=(by simp[Qb]);(go_wp2_with fail);refine cH wb none (by kernel_rfl) fun hHeld=>?_;generalize wb.drew=Aa at hHeld ⊢;have Ia:H9 (m1 wb Aa):=⟨hHeld.os,hHeld.tape,hHeld.output,hHeld.size,fun k hk=>hHeld.block k hk (by simp)⟩;refine tk 0 (it Ob) ?_ ?_
   ·intro wq Fa;go_simp
   refine tk 1 (.bool true) ?_ ?_
   ·intro wq Fa;go_simp
   refine tk 2 (.bool true) ?_ ?_
   ·intro wq Fa;go_simp
   refine sk 3 ?_;refine sk 4 ?_;refine sk 5 ?_;refine sk 6 ?_;refine sk 7 ?_;refine sk 8 ?_;refine sk 9 ?_;refine sk 10 ?_;refine sk 11 ?_;refine sk 12 ?_;refine tk 13 (.bool true) ?_ ?_
   ·intro wq Fa;go_simp
   refine bg ?_;go_simp;have Ga:=Hd (Ua.o.belowS Ia.o);have Da:=Hd (Va.o.belowS Ia.o);have Ea:=Hd (Ja.o.trans (Ia.o.mono Ja.o.size));clear Ua Ya Va Ja;have o0:=Ga.c 0;have o1:=Ga.c 1;have o2:=Ga.c 2;have o3:=Ga.c 3;have r0:=Da.c 0;have Ed:=Da.o.fr 0;have r1:=Da.c 1;have Fd:=Da.o.fr 1;have r2:=Da.c 2;have Gd:=Da.o.fr 2;have r3:=Da.c 3;have Id:=Da.o.fr 3;(go_wp2_with fail);show bodyPost _ _ _ _ _ (Aa.setCells (w.heap.size+1+1) 0 (aI Ba Ca ab nb cb aj nj cj));have Za:au (Aa.setCells (w.heap.size+1+1) 0 (aI Ba Ca ab nb cb aj nj cj)) (w.heap.size+1+1) (aI Ba Ca ab nb cb aj nj cj):=Da.o.setCells (aI Ba Ca ab nb cb aj nj cj) 0 (by simp);have Ab:=ct Aa (w.heap.size+1+1) 0 (aI Ba Ca ab nb cb aj nj cj);have Bb:=(HM.o.below Ea.o).grown Ab (fun g hg e=>by have:=Ib.o g hg;have:=m2 e;omega);have Cb:=(Ea.o.mono Wa).trans (ap Ab (m9 Wa Ea.o.size) (fun z e=>by have:=m2 e;omega));generalize(Aa.setCells (w.heap.size+1+1) 0 (aI Ba Ca ab nb cb aj nj cj))=wf at Za Bb Cb ⊢;exact m8 (aJ rfl rfl (u' wf (w.heap.size+1+1) 0 27 _ _ Za.row underlying27 rfl (by kernel_rfl))) rfl ⟨Cb,.inl ⟨.inl (by rw[Pb.o];exact Qb),rfl,Bb⟩⟩
  obtain⟨i,hi,Cc,_⟩:=Jb (by omega);rw[Nat.zero_add]at Cc;rw[List.length_map,Zb]at hi;subst Cc;obtain⟨gj,rfl⟩:=HM.o.block (by omega);have Rb:=HM.o.below Ja.o;have Db:wb.cell? ⟨gj,i*18+17,none⟩=some (.slice (qs.getD i q0).2.1 (qs.getD i q0).1.ts.length (qs.getD i q0).2.2):=Rb.jcell hi (by omega);have hT:=Rb.jtask hi;have Dc:((qs.getD i q0).1.ts.length:Int)≤9223372036854775807:=(by have:=hT.sees.big;have:=hT.sees.le;omega);have Sb:((qs.getD i q0).1.ts.length:Int)≤(qs.getD i q0).2.2:=(by have:=hT.sees.le;omega);generalize Ec:(qs.getD i q0).1.ts.length=tn at Db Dc Sb;generalize Fc:(qs.getD i q0).2.1=ta at Db;generalize Gc:(qs.getD i q0).2.2=tc at Db Sb;have Hc:M.jobOf id (qs.map (·.1))=(qs.getD i q0).1:=(by unfold M.jobOf;rw[Pb.o,vv,dC]);have Tb:=Hd Hc;have Oa:H9 ((qs.getD i q0).1.ts.length=tn∧(qs.getD i q0).2.1=ta∧(qs.getD i q0).2.2=tc):=⟨Ec,Fc,Gc⟩;clear Rb hT Ec Fc Gc Hc Jb;have Jd:(i:Int)<(nj:Int):=(by omega);have Kd:(0:Int)≤(i:Int):=(by omega);have Ld:¬ (i:Int)<0:=(by omega);have Bc:decide ((i:Int)<0)=false:=(by simp);clear Qb;(go_wp2_with fail);refine cH wb none (by kernel_rfl) fun hHeld=>?_;generalize wb.drew=Aa at hHeld ⊢;have Ia:H9 (m1 wb Aa):=⟨hHeld.os,hHeld.tape,hHeld.output,hHeld.size,fun k hk=>hHeld.block k hk (by simp)⟩;refine tk 0 (it (i:Nat)) ?_ ?_
  ·intro wq Fa;go_simp
  refine tk 1 (.bool false) ?_ ?_
  ·intro wq Fa;go_simp
  refine tk 2 (.bool false) ?_ ?_
  ·intro wq Fa;go_simp
  refine tk 3 (.pointer (some ⟨w.heap.size+1,2,none⟩)) ?_ ?_
  ·intro wq Fa;go_simp
  refine tk 4 (it Ha) ?_ ?_
  ·intro wp Eb;have c0:=(Ya.o.grown Eb (by simp)).c 2;go_simp
  refine tk 5 (.pointer (some ⟨w.heap.size,3,none⟩)) ?_ ?_
  ·intro wq Fa;go_simp
  refine tk 6 (.slice (some ⟨gj,0,none⟩) nj cj) ?_ ?_
  ·intro wp Eb;have c0:=(Ua.o.grown Eb (by simp)).c 3;go_simp
  refine tk 7 (it (i:Nat)) ?_ ?_
  ·intro wq Fa;go_simp
  refine tk 8 (.pointer (some ⟨gj,i*18,none⟩)) ?_ ?_
  ·intro wq Fa;go_simp
  refine tk 9 (.pointer (some ⟨gj,i*18+17,none⟩)) ?_ ?_
  ·intro wq Fa;go_simp
  refine tk 10 (.slice ta tn tc) ?_ ?_
  ·intro wp Eb;have c0:=Eb.cell Db (by simp);go_simp
  refine tk 11 (it (tn:Nat)) ?_ ?_
  ·intro wq Fa;go_simp
  by_cases Ub:(tn:Int)≤Ha
  ·
   have gp:decide ((tn:Int)≤Ha)=true:=(by simp[Ub]);refine tk 12 (.bool true) ?_ ?_
   ·intro wq Fa;go_simp
   refine tk 13 (.bool true) ?_ ?_
   ·intro wq Fa;go_simp
   refine bg ?_;go_simp;have Ga:=Hd (Ua.o.belowS Ia.o);have Da:=Hd (Va.o.belowS Ia.o);have Ea:=Hd (Ja.o.trans (Ia.o.mono Ja.o.size));clear Ua Ya Va Ja;have o0:=Ga.c 0;have o1:=Ga.c 1;have o2:=Ga.c 2;have o3:=Ga.c 3;have r0:=Da.c 0;have Ed:=Da.o.fr 0;have r1:=Da.c 1;have Fd:=Da.o.fr 1;have r2:=Da.c 2;have Gd:=Da.o.fr 2;have r3:=Da.c 3;have Id:=Da.o.fr 3;(go_wp2_with fail);show bodyPost _ _ _ _ _ (Aa.setCells (w.heap.size+1+1) 0 (aI Ba Ca ab nb cb (some ⟨gj,0,none⟩) nj cj));have Za:au (Aa.setCells (w.heap.size+1+1) 0 (aI Ba Ca ab nb cb (some ⟨gj,0,none⟩) nj cj)) (w.heap.size+1+1) (aI Ba Ca ab nb cb (some ⟨gj,0,none⟩) nj cj):=Da.o.setCells (aI Ba Ca ab nb cb (some ⟨gj,0,none⟩) nj cj) 0 (by simp);have Ab:=ct Aa (w.heap.size+1+1) 0 (aI Ba Ca ab nb cb (some ⟨gj,0,none⟩) nj cj);have Bb:=(HM.o.below Ea.o).grown Ab (fun g hg e=>by have:=Ib.o g hg;have:=m2 e;omega);have Cb:=(Ea.o.mono Wa).trans (ap Ab (m9 Wa Ea.o.size) (fun z e=>by have:=m2 e;omega));generalize(Aa.setCells (w.heap.size+1+1) 0 (aI Ba Ca ab nb cb (some ⟨gj,0,none⟩) nj cj))=wf at Za Bb Cb ⊢;exact m8 (aJ rfl rfl (u' wf (w.heap.size+1+1) 0 27 _ _ Za.row underlying27 rfl (by kernel_rfl))) rfl ⟨Cb,.inl ⟨.inr (by rw[Tb.o,Oa.o.1];exact Ub),rfl,Bb⟩⟩
  have gp:decide ((tn:Int)≤Ha)=false:=(by simp;omega);refine tk 12 (.bool false) ?_ ?_
  ·intro wq Fa;go_simp
  refine tk 13 (.bool false) ?_ ?_
  ·intro wq Fa;go_simp
  refine bg ?_;go_simp;have Ga:=Hd (Ua.o.belowS Ia.o);have Ic:=Hd (Ya.o.belowS Ia.o);have Da:=Hd (Va.o.belowS Ia.o);have Ea:=Hd (Ja.o.trans (Ia.o.mono Ja.o.size));clear Ua Ya Va Ja;have Vb:=HM.o.below Ea.o;have hT:=Vb.jtask hi;rw[Oa.o.1,Oa.o.2.1,Oa.o.2.2]at hT;have hA:∀j,j<18→Aa.cell? ⟨gj,i*18+j,none⟩=(ed (qs.getD i q0).1 ta tc)[j]?:=fun j hj=>by have:=Vb.jcell hi hj;rw[this];unfold iM;rw[Oa.o.2.1,Oa.o.2.2]
  have Wb:=Tb.o;have Fb:=Oa.o.1;generalize Jc:(qs.getD i q0).1=cq at hA Wb hT Fb;have Nd:=Hd Jc;clear Jc;obtain⟨La,⟨⟨a,b,c',d,f,k⟩,⟨a',b',Na,d',f',k'⟩⟩,⟨s1,s2⟩,jr,jg,tl⟩:=cq;dsimp only at hT Fb;have hR:Aa.rangeAt gj (i*18) (ed ⟨La,⟨⟨a,b,c',d,f,k⟩,⟨a',b',Na,d',f',k'⟩⟩,(s1,s2),jr,jg,tl⟩ ta tc):=bF rfl hA;dsimp only[ed]at hR;rw[Fb]at hR;have Od:=Hd Fb;have Pd:=Hd Wb;obtain⟨P,hP⟩:∃P:Nat,Ha=(P:Int):=⟨Ha.toNat,by omega⟩;subst hP;have Hb:P<tn:=(by omega);obtain⟨g,rfl⟩:=hT.block (by omega);have Qd:Aa.cell? ⟨g,P*3,none⟩=some (.bool (tl.getD P M.t0).done):=hT.cells Hb (j:=0) (by omega);have Rd:Aa.cell? ⟨g,P*3+1,none⟩=some (it (tl.getD P M.t0).l'):=hT.cells Hb (j:=1) (by omega);have Sd:Aa.cell? ⟨g,P*3+2,none⟩=some (it (tl.getD P M.t0).due):=hT.cells Hb (j:=2) (by omega);clear hA Vb hT Wb Fb Db;have Kc:=Hd (S1.o.below Ea.o);have Lc:=Hd (S2.o.below Ea.o);have Nc:=Hd (S3.o.below Ea.o);have Oc:=Hd (S4.o.below Ea.o);have Pc:=Hd (HM.o.below Ea.o);have x3:=Ga.c 3;(go_wp2_with(with_reducible refine aA 34 ?_ ?_;rfl));clear x3 Qd Rd Sd S1 S2 S3 S4;with_reducible refine fu 45 gj (i*18) (bO La a b c' d f k a' b' Na d' f' k' s1 s2 jr jg (some ⟨g,0,none⟩) tn tc) hR underlying45 ?q5 ?_
  case q5=>exact⟨rfl,rfl,by kernel_rfl,_,rfl,by kernel_rfl⟩
  clear hR;(go_wp2_with(with_reducible refine aA 8 ?_ ?_;rfl));show wpList _ _ _ _ _ _;have Qc:(Instr.alloc 45 true (.tuple #[])).run prog Aa=.ok (.pointer (some ⟨Aa.heap.size,0,none⟩)) (Aa.alloc (.cells dE.toArray 45)):=(by kernel_rfl);with_reducible refine bG ?qg 45 ?qo dE.toArray Qc ?_
  case qg | qo=>exact rfl
  clear Qc;show wpList _ _ _ _ _ _;with_reducible refine Hx (fB 45 Aa.heap.size 0 (bO La a b c' d f k a' b' Na d' f' k' s1 s2 jr jg (some ⟨g,0,none⟩) tn tc) ?q6 ?q5 ?_)
  case q6=>exact(aM _ _ _).there _ 18 (by simp)
  case q5=>exact⟨rfl,by kernel_rfl,by kernel_rfl,_,_,rfl,by kernel_rfl,by kernel_rfl⟩
  have Ka:m1 Aa ((Aa.alloc (.cells dE.toArray 45)).setCells Aa.heap.size 0 (bO La a b c' d f k a' b' Na d' f' k' s1 s2 jr jg (some ⟨g,0,none⟩) tn tc)):=aO _ _ ((m5 _ _).alloc (m3 _) _) (m3 _);have Rc:=Ga.b Ka;have Sc:=Ic.b Ka;have Tc:=Da.b Ka;have Uc:=Ea.t Ka;have Vc:=Hd (Kc.o.below Ka);have Wc:=Hd (Lc.o.below Ka);have Xc:=Hd (Nc.o.below Ka);have Yc:=Hd (Oc.o.below Ka);have Zc:=Hd (Pc.o.below Ka);clear Ga Ic Da Ea Kc Lc Nc Oc Pc;clear Ka;have Xb:H9 (au ((Aa.alloc (.cells dE.toArray 45)).setCells Aa.heap.size 0 (bO La a b c' d f k a' b' Na d' f' k' s1 s2 jr jg (some ⟨g,0,none⟩) tn tc)) Aa.heap.size (bO La a b c' d f k a' b' Na d' f' k' s1 s2 jr jg (some ⟨g,0,none⟩) tn tc)):=(aM Aa dE.toArray 45).setCells (bO La a b c' d f k a' b' Na d' f' k' s1 s2 jr jg (some ⟨g,0,none⟩) tn tc) 0 (by simp);generalize((Aa.alloc (.cells dE.toArray 45)).setCells Aa.heap.size 0 (bO La a b c' d f k a' b' Na d' f' k' s1 s2 jr jg (some ⟨g,0,none⟩) tn tc))=w2 at Rc Sc Tc Uc Vc Wc Xc Yc Zc Xb ⊢;generalize Aa.heap.size=jb at Xb ⊢;clear HM Yb;rename_i Td Ud Vd Wd;revert Gb ab nb cb nj cj bs qs Ba Ca Pa id Qa Ra m0 J L T Y U Z m7 Q V Sa Ta t1 t2 p1 p2 p3 p4 a1 a2 a3 a4 n1 n2 n3 n4 c1 c2 c3 c4 z1 z2 z3 z4 w Wa l1 l2 l3 l4 Zb Cd Dd wa wb i hi Td Pb gj Ib tn Dc tc Sb Tb Jd Kd Bc Ld Aa hHeld Ia La jr jg tl a b c' d f k a' b' Na d' f' k' s1 s2 Nd Od Pd P Ad Bd Ud gp Hb g Oa Vd Wd Ub w2 Rc Sc Tc Uc Vc Wc Xc Yc Zc jb Xb;exact key0.out
theorem nW(p:M.Pf):M.Pf.rows p≤16:=by
 unfold M.Pf.rows
 repeat' split
 all_goals omega
structure tu(G:Prop) where
 p1:Prop
 p2:Prop
 p3:Prop
 p4:Prop
 p5:Prop
 h:ns p1→ns p2→ns p3→ns p4→ns p5→G
def fd:tu ue.p:=by
 apply tu.mk
 case h=>
  intro key1 key2 key3 key4 key5;intro Vb ab nb cb nj cj bs qs Va Wa Jc id Ab Kc m0 J L T Y U Z m7 Q V Lc Nc t1 t2 p1 p2 p3 p4 a1 a2 a3 a4 n1 n2 n3 n4 c1 c2 c3 c4 z1 z2 z3 z4 w Pb l1 l2 l3 l4 Oc Pc Qc wa wb i hi Rc Wb gj Xb tn Sc tc Tc Uc Vc Wc Xc Yc Ja Ea Ca Pa jr jg tl a b c' d f k a' b' Fa d' f' k' s1 s2 Yb Zb Qb P Zc Ad Bd gp Ac g Nb Gg Hg Cd w2 Kd Dd Ld Bc Qd Rd Sd Td Ed jb Nd;have hT:=Ed.o.jtask hi;rw[Nb.o.1,Nb.o.2.1,Nb.o.2.2,Yb.o]at hT;have Ud:w2.cell? ⟨g,P*3+1,none⟩=some (it (tl.getD P M.t0).l'):=hT.cells Ac (j:=1) (by omega);generalize hx:(tl.getD P M.t0).l'=x at Ud;have HX:=Hd hx;clear hx hT;have Fd:(P:Int)<(tn:Int):=(by omega);have Cc:(0:Int)≤(P:Int):=by omega
  have Dc:H9 (¬ (M.jobAt id 0 (qs.map (·.1))<0∨((M.jobOf id (qs.map (·.1))).ts.length:Int)≤(P:Int))):=fun h=>by
   rw[Wb.o,Qb.o]at h;have:=Zb.o;dsimp only at h;omega
  have Ec:H9 (((M.jobOf id (qs.map (·.1))).ts.getD (P:Int).toNat M.t0).l'=x):=(by show _=_;rw[Qb.o,vv];exact HX.o);(go_wp2_with fail);refine cH w2 none (by kernel_rfl) fun Ea=>?_;generalize w2.drew=Ja at Ea ⊢;have Ca:H9 (m1 w2 Ja):=⟨Ea.os,Ea.tape,Ea.output,Ea.size,fun k hk=>Ea.block k hk (by simp)⟩;refine tk 0 (.pointer (some ⟨jb,17,none⟩)) ?_ ?_
  ·intro wq Aa;go_simp
  refine tk 1 (.slice (some ⟨g,0,none⟩) tn tc) ?_ ?_
  ·intro wp Na;have c0:=(Nd.o.grown Na (by simp)).c 17;go_simp
  refine tk 2 (.pointer (some ⟨w.heap.size+1,2,none⟩)) ?_ ?_
  ·intro wq Aa;go_simp
  refine tk 3 (it (P:Nat)) ?_ ?_
  ·intro wp Na;have c0:=(Dd.o.grown Na (by simp)).c 2;go_simp
  refine tk 4 (.pointer (some ⟨g,P*3,none⟩)) ?_ ?_
  ·intro wq Aa;go_simp
  refine tk 5 (.pointer (some ⟨g,P*3+1,none⟩)) ?_ ?_
  ·intro wq Aa;go_simp
  refine tk 6 (it x) ?_ ?_
  ·intro wp Na;have c0:=Na.cell Ud (by simp);go_simp
  refine tk 7 (.pointer (some ⟨w.heap.size+1,3,none⟩)) ?_ ?_
  ·intro wq Aa;go_simp
  refine tk 8 (it Ab) ?_ ?_
  ·intro wp Na;have c0:=(Dd.o.grown Na (by simp)).c 3;go_simp
  by_cases Fc:x=Ab
  case neg=>
   have gx:(x != Ab)=true:=(by simp[Fc]);refine tk 9 (.bool true) ?_ ?_
   ·intro wq Aa;go_simp;first | done | exact Fc
   refine bg ?_;go_simp;have Ia:=Hd (Kd.o.belowS Ca.o);have Ga:=Hd (Ld.o.belowS Ca.o);have Ha:=Hd (Bc.o.trans (Ca.o.mono Bc.o.size));have Qa:=Hd (Ed.o.below Ca.o);clear Kd Dd Ld Bc Qd Rd Sd Td Ed Nd;have o0:=Ia.c 0;have o1:=Ia.c 1;have o2:=Ia.c 2;have o3:=Ia.c 3;have r0:=Ga.c 0;have Ig:=Ga.o.fr 0;have r1:=Ga.c 1;have Jg:=Ga.o.fr 1;have r2:=Ga.c 2;have Kg:=Ga.o.fr 2;have r3:=Ga.c 3;have Lg:=Ga.o.fr 3;(go_wp2_with fail);show bodyPost _ _ _ _ _ (Ja.setCells (w.heap.size+1+1) 0 (aI Va Wa ab nb cb (some ⟨gj,0,none⟩) nj cj));have Wd:au (Ja.setCells (w.heap.size+1+1) 0 (aI Va Wa ab nb cb (some ⟨gj,0,none⟩) nj cj)) (w.heap.size+1+1) (aI Va Wa ab nb cb (some ⟨gj,0,none⟩) nj cj):=Ga.o.setCells (aI Va Wa ab nb cb (some ⟨gj,0,none⟩) nj cj) 0 (by simp);have Xd:=ct Ja (w.heap.size+1+1) 0 (aI Va Wa ab nb cb (some ⟨gj,0,none⟩) nj cj);have Yd:=Qa.o.grown Xd (fun g hg e=>by have:=Xb.o g hg;have:=m2 e;omega);have Zd:=(Ha.o.mono Pb).trans (ap Xd (m9 Pb Ha.o.size) (fun z e=>by have:=m2 e;omega));generalize(Ja.setCells (w.heap.size+1+1) 0 (aI Va Wa ab nb cb (some ⟨gj,0,none⟩) nj cj))=wf at Wd Yd Zd ⊢;exact m8 (aJ rfl rfl (u' wf (w.heap.size+1+1) 0 27 _ _ Wd.row underlying27 rfl (by kernel_rfl))) rfl ⟨Zd,.inr (.inl ⟨Dc.o,by rw[Ec.o];exact Fc,rfl,Yd⟩)⟩
  have gx:(x != Ab)=false:=(by simp[Fc]);have Gc:=Hd Fc;clear Fc;refine tk 9 (.bool false) ?_ ?_
  ·intro wq Aa;go_simp;first | done | exact Gc.o
  refine bg ?_;go_simp;have Ia:=Hd (Kd.o.belowS Ca.o);have Ka:=Hd (Dd.o.belowS Ca.o);have Ga:=Hd (Ld.o.belowS Ca.o);have Ha:=Hd (Bc.o.trans (Ca.o.mono Bc.o.size));have Ra:=Hd (Qd.o.below Ca.o);have Sa:=Hd (Rd.o.below Ca.o);have Ta:=Hd (Sd.o.below Ca.o);have Ua:=Hd (Td.o.below Ca.o);have Qa:=Hd (Ed.o.below Ca.o);have Oa:=Hd (Nd.o.belowS Ca.o);clear Kd Dd Ld Bc Qd Rd Sd Td Ed Nd;clear Ea;generalize Ja=w3 at Ia Ka Ga Ha Ra Sa Ta Ua Qa Oa ⊢;clear Ca;clear Ud;have CR:=fun W (h1:aw W a1 n1 c1 z1) (h2:aw W a2 n2 c2 z2) (h3:aw W a3 n3 c3 z3) (h4:aw W a4 n4 c4 z4)=>eI p1 p2 p3 p4 W h1 h2 h3 h4 l1 l2 l3 l4;have CA:=fun W (h1:aw W a1 n1 c1 z1) (h2:aw W a2 n2 c2 z2) (h3:aw W a3 n3 c3 z3) (h4:aw W a4 n4 c4 z4)=>jh ⟨⟨a,b,c',d,f,k⟩,⟨a',b',Fa,d',f',k'⟩⟩ p1 p2 p3 p4 W h1 h2 h3 h4 l1 l2 l3 l4;dsimp only[cZ]at CA;have Ya:H9 (cn (P:Int) ⟨(p1,p2),(p3,p4),z1,z2,z3,z4⟩ ⟨Pa,⟨⟨a,b,c',d,f,k⟩,⟨a',b',Fa,d',f',k'⟩⟩,(s1,s2),jr,jg,tl⟩=(decide ((M.Pf.rows ⟨(p1,p2),(p3,p4),z1,z2,z3,z4⟩:Int)=jr)&&(decide ((p1,p2)=eu ⟨⟨a,b,c',d,f,k⟩,⟨a',b',Fa,d',f',k'⟩⟩ (s1,s2) ((P:Int)*(jr-1)))&&M.acc ⟨⟨a,b,c',d,f,k⟩,⟨a',b',Fa,d',f',k'⟩⟩ ⟨(p1,p2),(p3,p4),z1,z2,z3,z4⟩))):=rfl;have Hc:M.Pf.rows ⟨(p1,p2),(p3,p4),z1,z2,z3,z4⟩≤16:=nW _;generalize M.Pf.rows ⟨(p1,p2),(p3,p4),z1,z2,z3,z4⟩=nr at CR Ya Hc;generalize M.acc ⟨⟨a,b,c',d,f,k⟩,⟨a',b',Fa,d',f',k'⟩⟩ ⟨(p1,p2),(p3,p4),z1,z2,z3,z4⟩=oa at CA Ya;(go_wp2_with fail);refine cH w3 none (by kernel_rfl) fun Ea=>?_;generalize w3.drew=Ja at Ea ⊢;have Ca:H9 (m1 w3 Ja):=⟨Ea.os,Ea.tape,Ea.output,Ea.size,fun k hk=>Ea.block k hk (by simp)⟩;refine tk 0 (.pointer (some ⟨w.heap.size+1,19,none⟩)) ?_ ?_
  ·intro wq Aa;go_simp
  have Rb:∀W:World,w3.grownBy W none→W.rangeAt (w.heap.size+1) 19 (bi p1 p2 p3 p4 a1 n1 c1 a2 n2 c2 a3 n3 c3 a4 n4 c4):=fun W h=>(Ka.o.grown h (by simp)).mid 19 8;refine wpAnyH_take (i:=1) (v:=.agg ((bi p1 p2 p3 p4 a1 n1 c1 a2 n2 c2 a3 n3 c3 a4 n4 c4):List Value).toArray) rfl (by kernel_rfl) (by kernel_rfl) (by kernel_rfl) (fun _ _ _ h=>h) (uZ (by kernel_rfl) 35 (.tmp 46) rfl (w.heap.size+1) 19 (by kernel_rfl) ((bi p1 p2 p3 p4 a1 n1 c1 a2 n2 c2 a3 n3 c3 a4 n4 c4):List Value) _ Rb underlying35 rfl (by kernel_rfl)) (by assumption) ?_;refine tk 3 (.pointer (some ⟨jb,15,none⟩)) ?_ ?_
  ·intro wq Aa;go_simp
  refine tk 4 (it jr) ?_ ?_
  ·intro wp Na;have c0:=(Oa.o.grown Na (by simp)).c 15;go_simp
  refine aX 2 fun Kk hK=>?_;go_simp;refine(CR _ (Ra.o.below Ca.o) (Sa.o.below Ca.o) (Ta.o.below Ca.o) (Ua.o.below Ca.o)).mono ?_;rintro e Sb ⟨rfl,Ae⟩;go_simp;have Xa:=aH Ea Ae;have La:H9 (m1 w3 Sb):=⟨Xa.os,Xa.tape,Xa.output,Xa.size,fun k hk=>Xa.block k hk (by simp)⟩;refine hK.out _ _ Xa (fun _=>?_);clear hK Kk Ae;by_cases Gd:(nr:Int)=jr
  case neg=>
   have Tb:H9 (cn (P:Int) ⟨(p1,p2),(p3,p4),z1,z2,z3,z4⟩ ⟨Pa,⟨⟨a,b,c',d,f,k⟩,⟨a',b',Fa,d',f',k'⟩⟩,(s1,s2),jr,jg,tl⟩=false):=(by show _=_;rw[Ya.o,decide_eq_false Gd];rfl);have Bb:=Hd Gd;clear Gd;refine tk 5 (.bool true) ?_ ?_
   ·intro wq Aa;go_simp;first | done | exact Bb.o
   refine tk 6 (.bool true) ?_ ?_
   ·intro wq Aa;go_simp
   refine sk 7 ?_;refine sk 8 ?_;refine sk 9 ?_;refine sk 10 ?_;refine sk 11 ?_;refine sk 12 ?_;refine sk 13 ?_;refine sk 14 ?_;refine tk 15 (.bool true) ?_ ?_
   ·intro wq Aa;go_simp
   refine tk 16 (.bool true) ?_ ?_
   ·intro wq Aa;go_simp
   refine sk 17 ?_;refine sk 18 ?_;refine sk 19 ?_;refine sk 20 ?_;refine sk 21 ?_;refine sk 22 ?_;refine tk 23 (.bool true) ?_ ?_
   ·intro wq Aa;go_simp
   refine bg ?_;go_simp;have Cb:=Hd (Ia.o.belowS La.o);have Db:=Hd (Ka.o.belowS La.o);have Eb:=Hd (Ga.o.belowS La.o);have Fb:=Hd (Ha.o.trans (La.o.mono Ha.o.size));have Gb:=Hd (Ra.o.below La.o);have Hb:=Hd (Sa.o.below La.o);have Ib:=Hd (Ta.o.below La.o);have Jb:=Hd (Ua.o.below La.o);have Kb:=Hd (Qa.o.below La.o);have Lb:=Hd (Oa.o.belowS La.o);clear Ia Ka Ga Ha Ra Sa Ta Ua Qa Oa;clear Rb CR CA Ya Bb;rename_i De Ee Fe Ge He Ie Je Ke Le;revert Vb ab nb cb nj cj bs qs Va Wa Jc id Ab Kc m0 J L T Y U Z m7 Q V Lc Nc t1 t2 p1 p2 p3 p4 a1 a2 a3 a4 n1 n2 n3 n4 c1 c2 c3 c4 z1 z2 z3 z4 w Pb l1 l2 l3 l4 Oc Pc Qc wa wb i hi Rc Wb gj Xb tn Sc tc Tc Uc Vc Wc Xc Yc De Ee Fe Pa jr jg tl a b c' d f k a' b' Fa d' f' k' s1 s2 Yb Zb Qb P Zc Ad Bd gp Ac g Nb Cd w2 jb x HX Fd Cc Dc Ec Ge gx Gc w3 nr Hc oa He Ie Je Ke Ja Ea Ca Sb Xa La Le Tb Cb Db Eb Fb Gb Hb Ib Jb Kb Lb;exact key1.out
  have Bb:=Hd Gd;have Id:0≤jr:=(by omega);have Jd:jr≤16:=(by omega);clear Gd;refine tk 5 (.bool false) ?_ ?_
  ·intro wq Aa;go_simp;first | done | exact Bb.o
  refine tk 6 (.bool false) ?_ ?_
  ·intro wq Aa;go_simp
  refine tk 7 (.pointer (some ⟨w.heap.size+1,19,none⟩)) ?_ ?_
  ·intro wq Aa;go_simp
  refine tk 8 (.pointer (some ⟨w.heap.size+1,19,none⟩)) ?_ ?_
  ·intro wq Aa;go_simp
  refine tk 9 (.agg #[it p1,it p2]) ?_ ?_
  ·intro wp Na;have c0:=(Ka.o.grown Na (by simp)).c 19;have c1:=(Ka.o.grown Na (by simp)).c 20;go_simp
  refine wpAnyH_take (i:=10) (v:=.agg (bO Pa a b c' d f k a' b' Fa d' f' k' s1 s2 jr jg (some ⟨g,0,none⟩) tn tc).toArray) rfl (by kernel_rfl) (by kernel_rfl) (by kernel_rfl) (fun _ _ _ h=>h) (uZ (by kernel_rfl) 45 (.tmp 8) rfl jb 0 rfl (bO Pa a b c' d f k a' b' Fa d' f' k' s1 s2 jr jg (some ⟨g,0,none⟩) tn tc) _ (fun W h=>(Oa.o.grown h (by simp)).row) underlying45 rfl (by kernel_rfl)) (by assumption) ?_;refine tk 11 (.pointer (some ⟨w.heap.size+1,2,none⟩)) ?_ ?_
  ·intro wq Aa;go_simp
  refine tk 12 (it (P:Nat)) ?_ ?_
  ·intro wp Na;have c0:=(Ka.o.grown Na (by simp)).c 2;go_simp
  have Ub:=jy Pa a b c' d f k a' b' Fa d' f' k' s1 s2 jr jg (some ⟨g,0,none⟩) tn tc (P:Int) Cc (by omega) Id Jd;generalize eu ⟨⟨a,b,c',d,f,k⟩,⟨a',b',Fa,d',f',k'⟩⟩ (s1,s2) ((P:Int)*(jr-1))=rs at Ub Ya;obtain⟨u,v⟩:=rs;dsimp only[cP]at Ub;refine aX 13 fun Kk hK=>?_;go_simp;refine(Ub _).mono ?_;rintro e Ic ⟨rfl,Be⟩;go_simp;have Za:=aH Xa Be;have Ba:H9 (m1 w3 Ic):=⟨Za.os,Za.tape,Za.output,Za.size,fun k hk=>Za.block k hk (by simp)⟩;refine hK.out _ _ Za (fun _=>?_);clear hK Kk Be;by_cases hu:p1=u
  case neg=>
   have Tb:H9 (cn (P:Int) ⟨(p1,p2),(p3,p4),z1,z2,z3,z4⟩ ⟨Pa,⟨⟨a,b,c',d,f,k⟩,⟨a',b',Fa,d',f',k'⟩⟩,(s1,s2),jr,jg,tl⟩=false):=(by show _=_;rw[Ya.o];simp[hu]);refine tk 14 (.bool true) ?_ ?_
   ·intro wq Aa;go_simp;first | done | (simp[*];done)
   clear hu;refine tk 15 (.bool true) ?_ ?_
   ·intro wq Aa;go_simp
   refine tk 16 (.bool true) ?_ ?_
   ·intro wq Aa;go_simp
   refine sk 17 ?_;refine sk 18 ?_;refine sk 19 ?_;refine sk 20 ?_;refine sk 21 ?_;refine sk 22 ?_;refine tk 23 (.bool true) ?_ ?_
   ·intro wq Aa;go_simp
   refine bg ?_;go_simp;have Cb:=Hd (Ia.o.belowS Ba.o);have Db:=Hd (Ka.o.belowS Ba.o);have Eb:=Hd (Ga.o.belowS Ba.o);have Fb:=Hd (Ha.o.trans (Ba.o.mono Ha.o.size));have Gb:=Hd (Ra.o.below Ba.o);have Hb:=Hd (Sa.o.below Ba.o);have Ib:=Hd (Ta.o.below Ba.o);have Jb:=Hd (Ua.o.below Ba.o);have Kb:=Hd (Qa.o.below Ba.o);have Lb:=Hd (Oa.o.belowS Ba.o);clear Ia Ka Ga Ha Ra Sa Ta Ua Qa Oa;clear Rb CR CA Ub Ya Bb;rename_i Ne Oe Pe Qe Re Se Te Ue Ve We;revert Vb ab nb cb nj cj bs qs Va Wa Jc id Ab Kc m0 J L T Y U Z m7 Q V Lc Nc t1 t2 p1 p2 p3 p4 a1 a2 a3 a4 n1 n2 n3 n4 c1 c2 c3 c4 z1 z2 z3 z4 w Pb l1 l2 l3 l4 Oc Pc Qc wa wb i hi Rc Wb gj Xb tn Sc tc Tc Uc Vc Wc Xc Yc Ne Oe Pe Pa jr jg tl a b c' d f k a' b' Fa d' f' k' s1 s2 Yb Zb Qb P Zc Ad Bd gp Ac g Nb Cd w2 jb x HX Fd Cc Dc Ec Qe gx Gc w3 nr Hc oa Re Se Te Ue Ja Ea Ca Sb Xa La Ve Id Jd u v Ic Za Ba We Tb Cb Db Eb Fb Gb Hb Ib Jb Kb Lb;exact key2.out
  by_cases hv:p2=v
  case neg=>
   have Tb:H9 (cn (P:Int) ⟨(p1,p2),(p3,p4),z1,z2,z3,z4⟩ ⟨Pa,⟨⟨a,b,c',d,f,k⟩,⟨a',b',Fa,d',f',k'⟩⟩,(s1,s2),jr,jg,tl⟩=false):=(by show _=_;rw[Ya.o];simp[hv]);refine tk 14 (.bool true) ?_ ?_
   ·intro wq Aa;go_simp;first | done | (simp[*];done)
   clear hu hv;refine tk 15 (.bool true) ?_ ?_
   ·intro wq Aa;go_simp
   refine tk 16 (.bool true) ?_ ?_
   ·intro wq Aa;go_simp
   refine sk 17 ?_;refine sk 18 ?_;refine sk 19 ?_;refine sk 20 ?_;refine sk 21 ?_;refine sk 22 ?_;refine tk 23 (.bool true) ?_ ?_
   ·intro wq Aa;go_simp
   refine bg ?_;go_simp;have Cb:=Hd (Ia.o.belowS Ba.o);have Db:=Hd (Ka.o.belowS Ba.o);have Eb:=Hd (Ga.o.belowS Ba.o);have Fb:=Hd (Ha.o.trans (Ba.o.mono Ha.o.size));have Gb:=Hd (Ra.o.below Ba.o);have Hb:=Hd (Sa.o.below Ba.o);have Ib:=Hd (Ta.o.below Ba.o);have Jb:=Hd (Ua.o.below Ba.o);have Kb:=Hd (Qa.o.below Ba.o);have Lb:=Hd (Oa.o.belowS Ba.o);clear Ia Ka Ga Ha Ra Sa Ta Ua Qa Oa;clear Rb CR CA Ub Ya Bb;rename_i Xe Ye Ze Af Bf Cf Df Ef Ff Gf;revert Vb ab nb cb nj cj bs qs Va Wa Jc id Ab Kc m0 J L T Y U Z m7 Q V Lc Nc t1 t2 p1 p2 p3 p4 a1 a2 a3 a4 n1 n2 n3 n4 c1 c2 c3 c4 z1 z2 z3 z4 w Pb l1 l2 l3 l4 Oc Pc Qc wa wb i hi Rc Wb gj Xb tn Sc tc Tc Uc Vc Wc Xc Yc Xe Ye Ze Pa jr jg tl a b c' d f k a' b' Fa d' f' k' s1 s2 Yb Zb Qb P Zc Ad Bd gp Ac g Nb Cd w2 jb x HX Fd Cc Dc Ec Af gx Gc w3 nr Hc oa Bf Cf Df Ef Ja Ea Ca Sb Xa La Ff Id Jd u v Ic Za Ba Gf Tb Cb Db Eb Fb Gb Hb Ib Jb Kb Lb;exact key3.out
  refine tk 14 (.bool false) ?_ ?_
  ·intro wq Aa;go_simp;first | done | (simp[*];done)
  have Od:H9 (cn (P:Int) ⟨(p1,p2),(p3,p4),z1,z2,z3,z4⟩ ⟨Pa,⟨⟨a,b,c',d,f,k⟩,⟨a',b',Fa,d',f',k'⟩⟩,(s1,s2),jr,jg,tl⟩=oa):=(by show _=_;rw[Ya.o,decide_eq_true Bb.o,hu,hv];simp);clear hu hv Ya;refine tk 15 (.bool false) ?_ ?_
  ·intro wq Aa;go_simp
  refine tk 16 (.bool false) ?_ ?_
  ·intro wq Aa;go_simp
  refine tk 17 (.pointer (some ⟨jb,1,none⟩)) ?_ ?_
  ·intro wq Aa;go_simp
  have Vd:∀W:World,w3.grownBy W none→W.rangeAt jb 1 (cr a b c' d f k a' b' Fa d' f' k'):=fun W h=>(Oa.o.grown h (by simp)).mid 1 12;refine wpAnyH_take (i:=18) (v:=.agg ((cr a b c' d f k a' b' Fa d' f' k'):List Value).toArray) rfl (by kernel_rfl) (by kernel_rfl) (by kernel_rfl) (fun _ _ _ h=>h) (uZ (by kernel_rfl) 31 (.tmp 63) rfl jb 1 (by kernel_rfl) ((cr a b c' d f k a' b' Fa d' f' k'):List Value) _ Vd underlying31 rfl (by kernel_rfl)) (by assumption) ?_;refine tk 19 (.pointer (some ⟨w.heap.size+1,19,none⟩)) ?_ ?_
  ·intro wq Aa;go_simp
  refine wpAnyH_take (i:=20) (v:=.agg ((bi p1 p2 p3 p4 a1 n1 c1 a2 n2 c2 a3 n3 c3 a4 n4 c4):List Value).toArray) rfl (by kernel_rfl) (by kernel_rfl) (by kernel_rfl) (fun _ _ _ h=>h) (uZ (by kernel_rfl) 35 (.tmp 65) rfl (w.heap.size+1) 19 (by kernel_rfl) ((bi p1 p2 p3 p4 a1 n1 c1 a2 n2 c2 a3 n3 c3 a4 n4 c4):List Value) _ Rb underlying35 rfl (by kernel_rfl)) (by assumption) ?_;refine aX 21 fun Kk hK=>?_;go_simp;refine(CA _ (Ra.o.below Ba.o) (Sa.o.below Ba.o) (Ta.o.below Ba.o) (Ua.o.below Ba.o)).mono ?_;rintro e Pd ⟨rfl,Ce⟩;go_simp;have Ob:=aH Za Ce;have Da:H9 (m1 w3 Pd):=⟨Ob.os,Ob.tape,Ob.output,Ob.size,fun k hk=>Ob.block k hk (by simp)⟩;refine hK.out _ _ Ob (fun _=>?_);clear hK Kk Ce
  cases oa with
  | false=>
   have Tb:=Hd Od.o;refine tk 22 (.bool true) ?_ ?_
   ·intro wq Aa;go_simp
   refine tk 23 (.bool true) ?_ ?_
   ·intro wq Aa;go_simp
   refine bg ?_;go_simp;have Cb:=Hd (Ia.o.belowS Da.o);have Db:=Hd (Ka.o.belowS Da.o);have Eb:=Hd (Ga.o.belowS Da.o);have Fb:=Hd (Ha.o.trans (Da.o.mono Ha.o.size));have Gb:=Hd (Ra.o.below Da.o);have Hb:=Hd (Sa.o.below Da.o);have Ib:=Hd (Ta.o.below Da.o);have Jb:=Hd (Ua.o.below Da.o);have Kb:=Hd (Qa.o.below Da.o);have Lb:=Hd (Oa.o.belowS Da.o);clear Ia Ka Ga Ha Ra Sa Ta Ua Qa Oa;clear Rb Vd CR CA Ub Od Bb;rename_i Hf If Jf Kf Lf Nf Of Qf Rf Sf Tf;revert Vb ab nb cb nj cj bs qs Va Wa Jc id Ab Kc m0 J L T Y U Z m7 Q V Lc Nc t1 t2 p1 p2 p3 p4 a1 a2 a3 a4 n1 n2 n3 n4 c1 c2 c3 c4 z1 z2 z3 z4 w Pb l1 l2 l3 l4 Oc Pc Qc wa wb i hi Rc Wb gj Xb tn Sc tc Tc Uc Vc Wc Xc Yc Hf If Jf Pa jr jg tl a b c' d f k a' b' Fa d' f' k' s1 s2 Yb Zb Qb P Zc Ad Bd gp Ac g Nb Cd w2 jb x HX Fd Cc Dc Ec Kf gx Gc w3 nr Hc Lf Nf Of Qf Ja Ea Ca Sb Xa La Rf Id Jd u v Ic Za Ba Sf Pd Ob Da Tf Tb Cb Db Eb Fb Gb Hb Ib Jb Kb Lb;exact key4.out
  | true=>
   have Uf:=Hd Od.o;refine tk 22 (.bool false) ?_ ?_
   ·intro wq Aa;go_simp
   refine tk 23 (.bool false) ?_ ?_
   ·intro wq Aa;go_simp
   refine bg ?_;go_simp;have Cb:=Hd (Ia.o.belowS Da.o);have Db:=Hd (Ka.o.belowS Da.o);have Eb:=Hd (Ga.o.belowS Da.o);have Fb:=Hd (Ha.o.trans (Da.o.mono Ha.o.size));have Gb:=Hd (Ra.o.below Da.o);have Hb:=Hd (Sa.o.below Da.o);have Ib:=Hd (Ta.o.below Da.o);have Jb:=Hd (Ua.o.below Da.o);have Kb:=Hd (Qa.o.below Da.o);have Lb:=Hd (Oa.o.belowS Da.o);clear Ia Ka Ga Ha Ra Sa Ta Ua Qa Oa;clear Rb Vd CR CA Ub Od Bb;rename_i Vf Wf Xf Yf Zf Ag Bg Cg Dg Eg Fg;revert Vb ab nb cb nj cj bs qs Va Wa Jc id Ab Kc m0 J L T Y U Z m7 Q V Lc Nc t1 t2 p1 p2 p3 p4 a1 a2 a3 a4 n1 n2 n3 n4 c1 c2 c3 c4 z1 z2 z3 z4 w Pb l1 l2 l3 l4 Oc Pc Qc wa wb i hi Rc Wb gj Xb tn Sc tc Tc Uc Vc Wc Xc Yc Vf Wf Xf Pa jr jg tl a b c' d f k a' b' Fa d' f' k' s1 s2 Yb Zb Qb P Zc Ad Bd gp Ac g Nb Cd w2 jb x HX Fd Cc Dc Ec Yf gx Gc w3 nr Hc Zf Ag Bg Cg Ja Ea Ca Sb Xa La Dg Id Jd u v Ic Za Ba Eg Pd Ob Da Fg Uf Cb Db Eb Fb Gb Hb Ib Jb Kb Lb;exact key5.out
end Go.Proofs.YtobnifjhikoleaaGreatDoor
