import Derived.Test.YtjcjonncaknhnaaGreatDoorPk17
import Derived.Test.YtjcjonncaknhnaaGreatDoorPk16
import Derived.Test.YtjcjonncaknhnaaGreatDoorPk19
namespace Go.Proofs.YtjcjonncaknhnaaGreatDoor
open Go.RowKit Go.Proofs.Tryz
set_option linter.unusedSimpArgs false
set_option maxHeartbeats 32000000
set_option maxRecDepth 10000
def er(w:World)(i':Nat)(now tj:Int)(ab:Option Addr)(nb cb:Nat)(bs:List Int)(aj:Option Addr)(nj cj:Nat)(qs:List MQ)(l' id p':Int)(p:M.Pf)(e:Ending)(w':World):Prop:=
 Below i' w w'∧
 (((M.jobAt id 0 (qs.map (·.1))<0∨((M.jobOf id (qs.map (·.1))).ts.length:Int)≤p')∧e=.returned (.tuple #[.agg #[.int .i64 now,.int .i64 tj,.slice ab nb cb,.slice aj nj cj],.int .i64 4,.int .i64 0])∧aF w' i' ab nb cb bs aj nj cj qs)∨
  (¬ (M.jobAt id 0 (qs.map (·.1))<0∨((M.jobOf id (qs.map (·.1))).ts.length:Int)≤p')∧((M.jobOf id (qs.map (·.1))).ts.getD p'.toNat M.t0).l'≠l'∧e=.returned (.tuple #[.agg #[.int .i64 now,.int .i64 tj,.slice ab nb cb,.slice aj nj cj],.int .i64 8,.int .i64 0])∧aF w' i' ab nb cb bs aj nj cj qs)∨
  (¬ (M.jobAt id 0 (qs.map (·.1))<0∨((M.jobOf id (qs.map (·.1))).ts.length:Int)≤p')∧((M.jobOf id (qs.map (·.1))).ts.getD p'.toNat M.t0).l'=l'∧cf p' p (M.jobOf id (qs.map (·.1)))=false∧∃ab' nb' cb',e=.returned (.tuple #[.agg #[.int .i64 now,.int .i64 tj,.slice ab' nb' cb',.slice aj nj cj],.int .i64 7,.int .i64 0])∧aF w' i' ab' nb' cb' (M.banned bs l') aj nj cj (qs.map fun q=>(M.freeJ (bi now l') q.1,q.2)))∨
  (¬ (M.jobAt id 0 (qs.map (·.1))<0∨((M.jobOf id (qs.map (·.1))).ts.length:Int)≤p')∧((M.jobOf id (qs.map (·.1))).ts.getD p'.toNat M.t0).l'=l'∧cf p' p (M.jobOf id (qs.map (·.1)))=true∧∃i,M.jobAt id 0 (qs.map (·.1))=((i:Nat):Int)∧e=.returned (.tuple #[.agg #[.int .i64 now,.int .i64 tj,.slice ab nb cb,.slice aj nj cj],.int .i64 0,.int .i64 (if((qs.getD i q0).1.ts.set p'.toNat ⟨true,0,0⟩).all (·.done)then 1 else 0)])∧aF w' i' ab nb cb bs aj nj cj (qs.set i ({(qs.getD i q0).1 with ts:=(qs.getD i q0).1.ts.set p'.toNat ⟨true,0,0⟩},(qs.getD i q0).2))))
set_option linter.unusedVariables false in
def jJ:Prop:=∀(i':Nat) (ab aj:Option Addr) (nb cb nj cj:Nat) (bs:List Int) (qs:List MQ) (now tj:Int) (te id p' l' s' m0 m1 m2 m3 m4 m5 m6 m7 m8 m9 m10 m11 t1 t2 p1 p2 p3 p4:Int) (a1 a2 a3 a4:Option Addr) (n1 n2 n3 n4 c1 c2 c3 c4:Nat) (z1 z2 z3 z4:List Int) (w:World) (H:aF w i' ab nb cb bs aj nj cj qs) (tf:i'≤w.heap.size) (h1:ah w a1 n1 c1 z1) (h2:ah w a2 n2 c2 z2) (h3:ah w a3 n3 c3 z3) (h4:ah w a4 n4 c4 z4) (l1:n1≤1048576) (l2:n2≤1048576) (l3:n3≤1048576) (l4:n4≤1048576) (hp0:0≤p') (hp7:p'≤7),
  Calls prog 48 #[.agg #[.int .i64 now,.int .i64 tj,.slice ab nb cb,.slice aj nj cj],.agg #[.int .i64 te,.int .i64 id,.int .i64 p',.int .i64 l',.int .i64 s',.int .i64 m0,.int .i64 m1,.int .i64 m2,.int .i64 m3,.int .i64 m4,.int .i64 m5,.int .i64 m6,.int .i64 m7,.int .i64 m8,.int .i64 m9,.int .i64 m10,.int .i64 m11,.int .i64 t1,.int .i64 t2,.int .i64 p1,.int .i64 p2,.int .i64 p3,.int .i64 p4,.slice a1 n1 c1,.slice a2 n2 c2,.slice a3 n3 c3,.slice a4 n4 c4]] w fun e w'=>er w i' now tj ab nb cb bs aj nj cj qs l' id p' ⟨(p1,p2),(p3,p4),z1,z2,z3,z4⟩ e w'
def sw:sR jJ:=by
 apply sR.mk
 case h=>
  intro key0 Gb ab aj nb cb nj cj bs qs Ba Ca Pa id Ha Qa Ra m0 m1 m2 m3 m4 m5 m6 m7 m8 m9 Sa Ta t1 t2 p1 p2 p3 p4 a1 a2 a3 a4 n1 n2 n3 n4 c1 c2 c3 c4 z1 z2 z3 z4 w H Wa h1 h2 h3 h4 l1 l2 l3 l4 Ad Bd;have HM:=Hd (H);have Yb:H9 (bv w ab nb cb aj nj cj bs (qs.map (·.1))):=H.sees;have Zb:qs.length=nj:=H.jl;have Cd:(nj:Int)≤9223372036854775807:=(by have:=H.sees.j.big;have:=H.sees.j.le;omega);have Dd:(nj:Int)≤cj:=(by have:=H.sees.j.le;omega);have Ib:H9 (∀g∈bj ab aj qs,Gb≤g∧g<w.heap.size):=H.lt;have S1:=Hd (h1);have S2:=Hd (h2);have S3:=Hd (h3);have S4:=Hd (h4);have Jb:=M.jobAt_some id (qs.map (·.1)) 0;have C1:∀W,dp W aj nj cj (qs.map (·.1))→Rt 44 #[.agg (au Ba Ca ab nb cb aj nj cj).toArray,it id] W (it (M.jobAt id 0 (qs.map (·.1)))):=fun W h=>kU Ba Ca id W h;clear H h1 h2 h3 h4;go_enter func48,ntmps48;have Kb:H9 (ae (((w.alloc (.cells (au Ba Ca ab nb cb aj nj cj).toArray 27)).alloc (.cells (bE Pa id Ha Qa Ra m0 m1 m2 m3 m4 m5 m6 m7 m8 m9 Sa Ta t1 t2 p1 p2 p3 p4 a1 n1 c1 a2 n2 c2 a3 n3 c3 a4 n4 c4).toArray 37)).alloc (.cells be.toArray 27)) w.heap.size (au Ba Ca ab nb cb aj nj cj)):=((aI _ _ _).alloc _).alloc _;have Lb:H9 (ae (((w.alloc (.cells (au Ba Ca ab nb cb aj nj cj).toArray 27)).alloc (.cells (bE Pa id Ha Qa Ra m0 m1 m2 m3 m4 m5 m6 m7 m8 m9 Sa Ta t1 t2 p1 p2 p3 p4 a1 n1 c1 a2 n2 c2 a3 n3 c3 a4 n4 c4).toArray 37)).alloc (.cells be.toArray 27)) (w.heap.size+1) (bE Pa id Ha Qa Ra m0 m1 m2 m3 m4 m5 m6 m7 m8 m9 Sa Ta t1 t2 p1 p2 p3 p4 a1 n1 c1 a2 n2 c2 a3 n3 c3 a4 n4 c4)):=(aO _ _ _ _).alloc _;have Nb:H9 (ae (((w.alloc (.cells (au Ba Ca ab nb cb aj nj cj).toArray 27)).alloc (.cells (bE Pa id Ha Qa Ra m0 m1 m2 m3 m4 m5 m6 m7 m8 m9 Sa Ta t1 t2 p1 p2 p3 p4 a1 n1 c1 a2 n2 c2 a3 n3 c3 a4 n4 c4).toArray 37)).alloc (.cells be.toArray 27)) (w.heap.size+1+1) be):=cB _ _ _ _ _;have Xa:H9 (Below w.heap.size w (((w.alloc (.cells (au Ba Ca ab nb cb aj nj cj).toArray 27)).alloc (.cells (bE Pa id Ha Qa Ra m0 m1 m2 m3 m4 m5 m6 m7 m8 m9 Sa Ta t1 t2 p1 p2 p3 p4 a1 n1 c1 a2 n2 c2 a3 n3 c3 a4 n4 c4).toArray 37)).alloc (.cells be.toArray 27))):=(((tv _ _).alloc (tr _) _).alloc (by simp) _).alloc (by simp;omega) _;(go_wp2_with fail);generalize(((w.alloc (.cells (au Ba Ca ab nb cb aj nj cj).toArray 27)).alloc (.cells (bE Pa id Ha Qa Ra m0 m1 m2 m3 m4 m5 m6 m7 m8 m9 Sa Ta t1 t2 p1 p2 p3 p4 a1 n1 c1 a2 n2 c2 a3 n3 c3 a4 n4 c4).toArray 37)).alloc (.cells be.toArray 27))=wa at Kb Lb Nb Xa ⊢;refine(C1 _ (Yb.o.j.below Xa.o)).mono ?_;rintro e wb ⟨rfl,hb⟩;have Ua:=Hd (Kb.o.belowS hb);have Ya:=Hd (Lb.o.belowS hb);have Va:=Hd (Nb.o.belowS hb);have Ja:=Hd (Xa.o.trans (hb.mono Xa.o.size));clear Kb Lb Nb Xa;clear hb;generalize Ac:M.jobAt id 0 (qs.map (·.1))=Ob at Jb ⊢;have Pb:=Hd (Ac);clear Ac C1;by_cases Qb:Ob<0
  ·
   skip
   have Bc:decide (Ob<0)=true:=(by simp[Qb]);(go_wp2_with fail);refine cw wb none (by kernel_rfl) fun hHeld=>?_;generalize wb.drew=Aa at hHeld ⊢;have Ia:H9 (Below wb.heap.size wb Aa):=⟨hHeld.os,hHeld.tape,hHeld.output,hHeld.size,fun k hk=>hHeld.block k hk (by simp)⟩;refine tk 0 (it Ob) ?_ ?_
   ·intro wq Fa;go_simp
   refine tk 1 (.bool true) ?_ ?_
   ·intro wq Fa;go_simp
   refine tk 2 (.bool true) ?_ ?_
   ·intro wq Fa;go_simp
   refine sk 3 ?_;refine sk 4 ?_;refine sk 5 ?_;refine sk 6 ?_;refine sk 7 ?_;refine sk 8 ?_;refine sk 9 ?_;refine sk 10 ?_;refine sk 11 ?_;refine sk 12 ?_;refine tk 13 (.bool true) ?_ ?_
   ·intro wq Fa;go_simp
   refine bt ?_;go_simp;have Ga:=Hd (Ua.o.belowS Ia.o);have Da:=Hd (Va.o.belowS Ia.o);have Ea:=Hd (Ja.o.trans (Ia.o.mono Ja.o.size));clear Ua Ya Va Ja;have o0:=Ga.o.c 0;have o1:=Ga.o.c 1;have o2:=Ga.o.c 2;have o3:=Ga.o.c 3;have r0:=Da.o.c 0;have Ed:=Da.o.fr 0;have r1:=Da.o.c 1;have Fd:=Da.o.fr 1;have r2:=Da.o.c 2;have Gd:=Da.o.fr 2;have r3:=Da.o.c 3;have Id:=Da.o.fr 3;(go_wp2_with fail);show bodyPost _ _ _ _ _ (Aa.setCells (w.heap.size+1+1) 0 (au Ba Ca ab nb cb aj nj cj));have Za:ae (Aa.setCells (w.heap.size+1+1) 0 (au Ba Ca ab nb cb aj nj cj)) (w.heap.size+1+1) (au Ba Ca ab nb cb aj nj cj):=Da.o.setCells (au Ba Ca ab nb cb aj nj cj) 0 (by simp);have Ab:=dv Aa (w.heap.size+1+1) 0 (au Ba Ca ab nb cb aj nj cj);have Bb:=(HM.o.below Ea.o).grown Ab (fun g hg e=>by have:=Ib.o g hg;have:=tm e;omega);have Cb:Below Gb w (Aa.setCells (w.heap.size+1+1) 0 (au Ba Ca ab nb cb aj nj cj)):=(Ea.o.mono Wa).trans (ac Ab (tB Wa Ea.o.size) (fun z e=>by have:=tm e;omega));generalize(Aa.setCells (w.heap.size+1+1) 0 (au Ba Ca ab nb cb aj nj cj))=wf at Za Bb Cb ⊢;exact tx (aA rfl rfl (tS wf (w.heap.size+1+1) 0 27 _ _ Za.row underlying27 rfl (by kernel_rfl))) rfl ⟨Cb,.inl ⟨.inl (by rw[Pb.o];exact Qb),rfl,Bb⟩⟩
  obtain⟨i,hi,Cc,_⟩:=Jb (by omega);rw[Nat.zero_add]at Cc;rw[List.length_map,Zb]at hi;subst Cc;obtain⟨gj,rfl⟩:=HM.o.block (by omega);have Rb:=HM.o.below Ja.o;have Db:wb.cell? ⟨gj,i*18+17,none⟩=some (.slice (qs.getD i q0).2.1 (qs.getD i q0).1.ts.length (qs.getD i q0).2.2):=Rb.jcell hi (by omega);have hT:=Rb.jtask hi;have Dc:((qs.getD i q0).1.ts.length:Int)≤9223372036854775807:=(by have:=hT.sees.big;have:=hT.sees.le;omega);have Sb:((qs.getD i q0).1.ts.length:Int)≤(qs.getD i q0).2.2:=(by have:=hT.sees.le;omega);generalize Ec:(qs.getD i q0).1.ts.length=tn at Db Dc Sb;generalize Fc:(qs.getD i q0).2.1=ta at Db;generalize Gc:(qs.getD i q0).2.2=tc at Db Sb;have Hc:M.jobOf id (qs.map (·.1))=(qs.getD i q0).1:=(by unfold M.jobOf;rw[Pb.o,ub,dh]);have Tb:=Hd (Hc);have Oa:H9 ((qs.getD i q0).1.ts.length=tn∧(qs.getD i q0).2.1=ta∧(qs.getD i q0).2.2=tc):=⟨Ec,Fc,Gc⟩;clear Rb hT Ec Fc Gc Hc Jb;have Jd:(i:Int)<(nj:Int):=(by omega);have Kd:(0:Int)≤(i:Int):=(by omega);have Ld:¬ (i:Int)<0:=(by omega);have Bc:decide ((i:Int)<0)=false:=(by simp);clear Qb;(go_wp2_with fail);refine cw wb none (by kernel_rfl) fun hHeld=>?_;generalize wb.drew=Aa at hHeld ⊢;have Ia:H9 (Below wb.heap.size wb Aa):=⟨hHeld.os,hHeld.tape,hHeld.output,hHeld.size,fun k hk=>hHeld.block k hk (by simp)⟩;refine tk 0 (it (i:Nat)) ?_ ?_
  ·intro wq Fa;go_simp
  refine tk 1 (.bool false) ?_ ?_
  ·intro wq Fa;go_simp
  refine tk 2 (.bool false) ?_ ?_
  ·intro wq Fa;go_simp
  refine tk 3 (.pointer (some ⟨w.heap.size+1,2,none⟩)) ?_ ?_
  ·intro wq Fa;go_simp
  refine tk 4 (it Ha) ?_ ?_
  ·intro wp Eb;have c0:=(Ya.o.grown Eb (by simp)).c 2;go_simp
  refine tk 5 (.pointer (some ⟨w.heap.size,3,none⟩)) ?_ ?_
  ·intro wq Fa;go_simp
  refine tk 6 (.slice (some ⟨gj,0,none⟩) nj cj) ?_ ?_
  ·intro wp Eb;have c0:=(Ua.o.grown Eb (by simp)).c 3;go_simp
  refine tk 7 (it (i:Nat)) ?_ ?_
  ·intro wq Fa;go_simp
  refine tk 8 (.pointer (some ⟨gj,i*18,none⟩)) ?_ ?_
  ·intro wq Fa;go_simp
  refine tk 9 (.pointer (some ⟨gj,i*18+17,none⟩)) ?_ ?_
  ·intro wq Fa;go_simp
  refine tk 10 (.slice ta tn tc) ?_ ?_
  ·intro wp Eb;have c0:wp.cell? ⟨gj,i*18+17,none⟩=some (.slice ta tn tc):=Eb.cell Db (by simp);go_simp
  refine tk 11 (it (tn:Nat)) ?_ ?_
  ·intro wq Fa;go_simp
  by_cases Ub:(tn:Int)≤Ha
  ·
   skip
   have gp:decide ((tn:Int)≤Ha)=true:=(by simp[Ub]);refine tk 12 (.bool true) ?_ ?_
   ·intro wq Fa;go_simp
   refine tk 13 (.bool true) ?_ ?_
   ·intro wq Fa;go_simp
   refine bt ?_;go_simp;have Ga:=Hd (Ua.o.belowS Ia.o);have Da:=Hd (Va.o.belowS Ia.o);have Ea:=Hd (Ja.o.trans (Ia.o.mono Ja.o.size));clear Ua Ya Va Ja;have o0:=Ga.o.c 0;have o1:=Ga.o.c 1;have o2:=Ga.o.c 2;have o3:=Ga.o.c 3;have r0:=Da.o.c 0;have Ed:=Da.o.fr 0;have r1:=Da.o.c 1;have Fd:=Da.o.fr 1;have r2:=Da.o.c 2;have Gd:=Da.o.fr 2;have r3:=Da.o.c 3;have Id:=Da.o.fr 3;(go_wp2_with fail);show bodyPost _ _ _ _ _ (Aa.setCells (w.heap.size+1+1) 0 (au Ba Ca ab nb cb (some ⟨gj,0,none⟩) nj cj));have Za:ae (Aa.setCells (w.heap.size+1+1) 0 (au Ba Ca ab nb cb (some ⟨gj,0,none⟩) nj cj)) (w.heap.size+1+1) (au Ba Ca ab nb cb (some ⟨gj,0,none⟩) nj cj):=Da.o.setCells (au Ba Ca ab nb cb (some ⟨gj,0,none⟩) nj cj) 0 (by simp);have Ab:=dv Aa (w.heap.size+1+1) 0 (au Ba Ca ab nb cb (some ⟨gj,0,none⟩) nj cj);have Bb:=(HM.o.below Ea.o).grown Ab (fun g hg e=>by have:=Ib.o g hg;have:=tm e;omega);have Cb:Below Gb w (Aa.setCells (w.heap.size+1+1) 0 (au Ba Ca ab nb cb (some ⟨gj,0,none⟩) nj cj)):=(Ea.o.mono Wa).trans (ac Ab (tB Wa Ea.o.size) (fun z e=>by have:=tm e;omega));generalize(Aa.setCells (w.heap.size+1+1) 0 (au Ba Ca ab nb cb (some ⟨gj,0,none⟩) nj cj))=wf at Za Bb Cb ⊢;exact tx (aA rfl rfl (tS wf (w.heap.size+1+1) 0 27 _ _ Za.row underlying27 rfl (by kernel_rfl))) rfl ⟨Cb,.inl ⟨.inr (by rw[Tb.o,Oa.o.1];exact Ub),rfl,Bb⟩⟩
  have gp:decide ((tn:Int)≤Ha)=false:=(by simp;omega);refine tk 12 (.bool false) ?_ ?_
  ·intro wq Fa;go_simp
  refine tk 13 (.bool false) ?_ ?_
  ·intro wq Fa;go_simp
  refine bt ?_;go_simp;have Ga:=Hd (Ua.o.belowS Ia.o);have Ic:=Hd (Ya.o.belowS Ia.o);have Da:=Hd (Va.o.belowS Ia.o);have Ea:=Hd (Ja.o.trans (Ia.o.mono Ja.o.size));clear Ua Ya Va Ja;have Vb:=HM.o.below Ea.o;have hT:=Vb.jtask hi;rw[Oa.o.1,Oa.o.2.1,Oa.o.2.2]at hT;have hA:∀j,j<18→Aa.cell? ⟨gj,i*18+j,none⟩=(dJ (qs.getD i q0).1 ta tc)[j]?:=fun j hj=>by have:=Vb.jcell hi hj;rw[this];unfold fu;rw[Oa.o.2.1,Oa.o.2.2]
  have Wb:=Tb.o;have Fb:=Oa.o.1;generalize Jc:(qs.getD i q0).1=cq at hA Wb hT Fb;have Nd:=Hd (Jc);clear Jc;obtain⟨La,⟨⟨a,b,c',d,f,k⟩,⟨a',b',Na,d',f',k'⟩⟩,⟨s1,s2⟩,jr,jg,tl⟩:=cq;dsimp only at hT Fb;have hR:Aa.rangeAt gj (i*18) (dJ ⟨La,⟨⟨a,b,c',d,f,k⟩,⟨a',b',Na,d',f',k'⟩⟩,(s1,s2),jr,jg,tl⟩ ta tc):=bw rfl hA;dsimp only[dJ]at hR;rw[Fb]at hR;have Od:=Hd (Fb);have Pd:=Hd (Wb);obtain⟨P,hP⟩:∃P:Nat,Ha=(P:Int):=⟨Ha.toNat,by omega⟩;subst hP;have Hb:P<tn:=(by omega);obtain⟨g,rfl⟩:=hT.block (by omega);have Qd:Aa.cell? ⟨g,P*3,none⟩=some (.bool (tl.getD P M.t0).done):=hT.cells Hb (j:=0) (by omega);have Rd:Aa.cell? ⟨g,P*3+1,none⟩=some (it (tl.getD P M.t0).l'):=hT.cells Hb (j:=1) (by omega);have Sd:Aa.cell? ⟨g,P*3+2,none⟩=some (it (tl.getD P M.t0).due):=hT.cells Hb (j:=2) (by omega);clear hA Vb hT Wb Fb Db;have Kc:=Hd (S1.o.below Ea.o);have Lc:=Hd (S2.o.below Ea.o);have Nc:=Hd (S3.o.below Ea.o);have Oc:=Hd (S4.o.below Ea.o);have Pc:=Hd (HM.o.below Ea.o);have x3:=Ga.o.c 3;(go_wp2_with(with_reducible refine af 34 ?_ ?_;rfl));clear x3 Qd Rd Sd S1 S2 S3 S4;with_reducible refine dO 45 gj (i*18) (br La a b c' d f k a' b' Na d' f' k' s1 s2 jr jg (some ⟨g,0,none⟩) tn tc) hR underlying45 ?q5 ?_
  case q5=>exact⟨rfl,rfl,by kernel_rfl,_,rfl,by kernel_rfl⟩
  clear hR;(go_wp2_with(with_reducible refine af 8 ?_ ?_;rfl));show wpList _ _ _ _ _ _;have Qc:(Instr.alloc 45 true (.tuple #[])).run prog Aa=.ok (.pointer (some ⟨Aa.heap.size,0,none⟩)) (Aa.alloc (.cells dS.toArray 45)):=(by kernel_rfl);with_reducible refine bU ?qg 45 ?qo dS.toArray Qc ?_
  case qg | qo=>exact rfl
  clear Qc;show wpList _ _ _ _ _ _;with_reducible refine Hx (iN 45 Aa.heap.size 0 (br La a b c' d f k a' b' Na d' f' k' s1 s2 jr jg (some ⟨g,0,none⟩) tn tc) ?q6 ?q5 ?_)
  case q6=>exact(aI _ _ _).there _ 18 (by simp)
  case q5=>exact⟨rfl,by kernel_rfl,by kernel_rfl,_,_,rfl,by kernel_rfl,by kernel_rfl⟩
  have Ka:Below Aa.heap.size Aa ((Aa.alloc (.cells dS.toArray 45)).setCells Aa.heap.size 0 (br La a b c' d f k a' b' Na d' f' k' s1 s2 jr jg (some ⟨g,0,none⟩) tn tc)):=aD _ _ ((tv _ _).alloc (tr _) _) (tr _);have Rc:=Hd (Ga.o.belowS Ka);have Sc:=Hd (Ic.o.belowS Ka);have Tc:=Hd (Da.o.belowS Ka);have Uc:=Hd (Ea.o.trans (Ka.mono Ea.o.size));have Vc:=Hd (Kc.o.below Ka);have Wc:=Hd (Lc.o.below Ka);have Xc:=Hd (Nc.o.below Ka);have Yc:=Hd (Oc.o.below Ka);have Zc:=Hd (Pc.o.below Ka);clear Ga Ic Da Ea Kc Lc Nc Oc Pc;clear Ka;have Xb:H9 (ae ((Aa.alloc (.cells dS.toArray 45)).setCells Aa.heap.size 0 (br La a b c' d f k a' b' Na d' f' k' s1 s2 jr jg (some ⟨g,0,none⟩) tn tc)) Aa.heap.size (br La a b c' d f k a' b' Na d' f' k' s1 s2 jr jg (some ⟨g,0,none⟩) tn tc)):=(aI Aa dS.toArray 45).setCells (br La a b c' d f k a' b' Na d' f' k' s1 s2 jr jg (some ⟨g,0,none⟩) tn tc) 0 (by simp);generalize((Aa.alloc (.cells dS.toArray 45)).setCells Aa.heap.size 0 (br La a b c' d f k a' b' Na d' f' k' s1 s2 jr jg (some ⟨g,0,none⟩) tn tc))=w2 at Rc Sc Tc Uc Vc Wc Xc Yc Zc Xb ⊢;generalize Aa.heap.size=jb at Xb ⊢;clear HM Yb;rename_i Td Ud Vd Wd;revert Gb ab nb cb nj cj bs qs Ba Ca Pa id Qa Ra m0 m1 m2 m3 m4 m5 m6 m7 m8 m9 Sa Ta t1 t2 p1 p2 p3 p4 a1 a2 a3 a4 n1 n2 n3 n4 c1 c2 c3 c4 z1 z2 z3 z4 w Wa l1 l2 l3 l4 Zb Cd Dd wa wb i hi Td Pb gj Ib tn Dc tc Sb Tb Jd Kd Bc Ld Aa hHeld Ia La jr jg tl a b c' d f k a' b' Na d' f' k' s1 s2 Nd Od Pd P Ad Bd Ud gp Hb g Oa Vd Wd Ub w2 Rc Sc Tc Uc Vc Wc Xc Yc Zc jb Xb;exact key0.out
theorem mh(p:M.Pf):M.Pf.rows p≤16:=by
 unfold M.Pf.rows
 repeat' split
 all_goals omega
structure rL(G:Prop) where
 p1:Prop
 p2:Prop
 p3:Prop
 p4:Prop
 p5:Prop
 h:rM p1→rM p2→rM p3→rM p4→rM p5→G
def eE:rL sw.p:=by
 apply rL.mk
 case h=>
  intro key1 key2 key3 key4 key5;intro Vb ab nb cb nj cj bs qs Va Wa Jc id Ab Kc m0 m1 m2 m3 m4 m5 m6 m7 m8 m9 Lc Nc t1 t2 p1 p2 p3 p4 a1 a2 a3 a4 n1 n2 n3 n4 c1 c2 c3 c4 z1 z2 z3 z4 w Pb l1 l2 l3 l4 Oc Pc Qc wa wb i hi Rc Wb gj Xb tn Sc tc Tc Uc Vc Wc Xc Yc Ja Ea Ca Pa jr jg tl a b c' d f k a' b' Fa d' f' k' s1 s2 Yb Zb Qb P Zc Ad Bd gp Ac g Nb Gg Hg Cd w2 Kd Dd Ld Bc Qd Rd Sd Td Ed jb Nd;have hT:=Ed.o.jtask hi;rw[Nb.o.1,Nb.o.2.1,Nb.o.2.2,Yb.o]at hT;have Ud:w2.cell? ⟨g,P*3+1,none⟩=some (it (tl.getD P M.t0).l'):=hT.cells Ac (j:=1) (by omega);generalize hx:(tl.getD P M.t0).l'=x at Ud;have HX:=Hd (hx);clear hx hT;have Fd:(P:Int)<(tn:Int):=(by omega);have Cc:(0:Int)≤(P:Int):=by omega
  have Dc:H9 (¬ (M.jobAt id 0 (qs.map (·.1))<0∨((M.jobOf id (qs.map (·.1))).ts.length:Int)≤(P:Int))):=fun h=>by
   rw[Wb.o,Qb.o]at h;have:=Zb.o;dsimp only at h;omega
  have Ec:H9 (((M.jobOf id (qs.map (·.1))).ts.getD (P:Int).toNat M.t0).l'=x):=(by show _=_;rw[Qb.o,ub];exact HX.o);(go_wp2_with fail);refine cw w2 none (by kernel_rfl) fun Ea=>?_;generalize w2.drew=Ja at Ea ⊢;have Ca:H9 (Below w2.heap.size w2 Ja):=⟨Ea.os,Ea.tape,Ea.output,Ea.size,fun k hk=>Ea.block k hk (by simp)⟩;refine tk 0 (.pointer (some ⟨jb,17,none⟩)) ?_ ?_
  ·intro wq Aa;go_simp
  refine tk 1 (.slice (some ⟨g,0,none⟩) tn tc) ?_ ?_
  ·intro wp Na;have c0:=(Nd.o.grown Na (by simp)).c 17;go_simp
  refine tk 2 (.pointer (some ⟨w.heap.size+1,2,none⟩)) ?_ ?_
  ·intro wq Aa;go_simp
  refine tk 3 (it (P:Nat)) ?_ ?_
  ·intro wp Na;have c0:=(Dd.o.grown Na (by simp)).c 2;go_simp
  refine tk 4 (.pointer (some ⟨g,P*3,none⟩)) ?_ ?_
  ·intro wq Aa;go_simp
  refine tk 5 (.pointer (some ⟨g,P*3+1,none⟩)) ?_ ?_
  ·intro wq Aa;go_simp
  refine tk 6 (it x) ?_ ?_
  ·intro wp Na;have c0:wp.cell? ⟨g,P*3+1,none⟩=some (it x):=Na.cell Ud (by simp);go_simp
  refine tk 7 (.pointer (some ⟨w.heap.size+1,3,none⟩)) ?_ ?_
  ·intro wq Aa;go_simp
  refine tk 8 (it Ab) ?_ ?_
  ·intro wp Na;have c0:=(Dd.o.grown Na (by simp)).c 3;go_simp
  by_cases Fc:x=Ab
  case neg=>
   have gx:(x != Ab)=true:=(by simp[Fc]);refine tk 9 (.bool true) ?_ ?_
   ·intro wq Aa;go_simp;first | done | exact Fc
   refine bt ?_;go_simp;have Ia:=Hd (Kd.o.belowS Ca.o);have Ga:=Hd (Ld.o.belowS Ca.o);have Ha:=Hd (Bc.o.trans (Ca.o.mono Bc.o.size));have Qa:=Hd (Ed.o.below Ca.o);clear Kd Dd Ld Bc Qd Rd Sd Td Ed Nd;have o0:=Ia.o.c 0;have o1:=Ia.o.c 1;have o2:=Ia.o.c 2;have o3:=Ia.o.c 3;have r0:=Ga.o.c 0;have Ig:=Ga.o.fr 0;have r1:=Ga.o.c 1;have Jg:=Ga.o.fr 1;have r2:=Ga.o.c 2;have Kg:=Ga.o.fr 2;have r3:=Ga.o.c 3;have Lg:=Ga.o.fr 3;(go_wp2_with fail);show bodyPost _ _ _ _ _ (Ja.setCells (w.heap.size+1+1) 0 (au Va Wa ab nb cb (some ⟨gj,0,none⟩) nj cj));have Wd:ae (Ja.setCells (w.heap.size+1+1) 0 (au Va Wa ab nb cb (some ⟨gj,0,none⟩) nj cj)) (w.heap.size+1+1) (au Va Wa ab nb cb (some ⟨gj,0,none⟩) nj cj):=Ga.o.setCells (au Va Wa ab nb cb (some ⟨gj,0,none⟩) nj cj) 0 (by simp);have Xd:=dv Ja (w.heap.size+1+1) 0 (au Va Wa ab nb cb (some ⟨gj,0,none⟩) nj cj);have Yd:=Qa.o.grown Xd (fun g hg e=>by have:=Xb.o g hg;have:=tm e;omega);have Zd:Below Vb w (Ja.setCells (w.heap.size+1+1) 0 (au Va Wa ab nb cb (some ⟨gj,0,none⟩) nj cj)):=(Ha.o.mono Pb).trans (ac Xd (tB Pb Ha.o.size) (fun z e=>by have:=tm e;omega));generalize(Ja.setCells (w.heap.size+1+1) 0 (au Va Wa ab nb cb (some ⟨gj,0,none⟩) nj cj))=wf at Wd Yd Zd ⊢;exact tx (aA rfl rfl (tS wf (w.heap.size+1+1) 0 27 _ _ Wd.row underlying27 rfl (by kernel_rfl))) rfl ⟨Zd,.inr (.inl ⟨Dc.o,by rw[Ec.o];exact Fc,rfl,Yd⟩)⟩
  have gx:(x != Ab)=false:=(by simp[Fc]);have Gc:H9 (x=Ab):=Fc;clear Fc;refine tk 9 (.bool false) ?_ ?_
  ·intro wq Aa;go_simp;first | done | exact Gc.o
  refine bt ?_;go_simp;have Ia:=Hd (Kd.o.belowS Ca.o);have Ka:=Hd (Dd.o.belowS Ca.o);have Ga:=Hd (Ld.o.belowS Ca.o);have Ha:=Hd (Bc.o.trans (Ca.o.mono Bc.o.size));have Ra:=Hd (Qd.o.below Ca.o);have Sa:=Hd (Rd.o.below Ca.o);have Ta:=Hd (Sd.o.below Ca.o);have Ua:=Hd (Td.o.below Ca.o);have Qa:=Hd (Ed.o.below Ca.o);have Oa:=Hd (Nd.o.belowS Ca.o);clear Kd Dd Ld Bc Qd Rd Sd Td Ed Nd;clear Ea;generalize Ja=w3 at Ia Ka Ga Ha Ra Sa Ta Ua Qa Oa ⊢;clear Ca;clear Ud;have CR:=fun W (h1:ah W a1 n1 c1 z1) (h2:ah W a2 n2 c2 z2) (h3:ah W a3 n3 c3 z3) (h4:ah W a4 n4 c4 z4)=>ej p1 p2 p3 p4 W h1 h2 h3 h4 l1 l2 l3 l4;have CA:=fun W (h1:ah W a1 n1 c1 z1) (h2:ah W a2 n2 c2 z2) (h3:ah W a3 n3 c3 z3) (h4:ah W a4 n4 c4 z4)=>iI ⟨⟨a,b,c',d,f,k⟩,⟨a',b',Fa,d',f',k'⟩⟩ p1 p2 p3 p4 W h1 h2 h3 h4 l1 l2 l3 l4;dsimp only[cQ]at CA;have Ya:H9 (cf (P:Int) ⟨(p1,p2),(p3,p4),z1,z2,z3,z4⟩ ⟨Pa,⟨⟨a,b,c',d,f,k⟩,⟨a',b',Fa,d',f',k'⟩⟩,(s1,s2),jr,jg,tl⟩=(decide ((M.Pf.rows ⟨(p1,p2),(p3,p4),z1,z2,z3,z4⟩:Int)=jr)&&(decide ((p1,p2)=ep ⟨⟨a,b,c',d,f,k⟩,⟨a',b',Fa,d',f',k'⟩⟩ (s1,s2) ((P:Int)*(jr-1)))&&M.acc ⟨⟨a,b,c',d,f,k⟩,⟨a',b',Fa,d',f',k'⟩⟩ ⟨(p1,p2),(p3,p4),z1,z2,z3,z4⟩))):=rfl;have Hc:M.Pf.rows ⟨(p1,p2),(p3,p4),z1,z2,z3,z4⟩≤16:=mh _;generalize M.Pf.rows ⟨(p1,p2),(p3,p4),z1,z2,z3,z4⟩=nr at CR Ya Hc;generalize M.acc ⟨⟨a,b,c',d,f,k⟩,⟨a',b',Fa,d',f',k'⟩⟩ ⟨(p1,p2),(p3,p4),z1,z2,z3,z4⟩=oa at CA Ya;(go_wp2_with fail);refine cw w3 none (by kernel_rfl) fun Ea=>?_;generalize w3.drew=Ja at Ea ⊢;have Ca:H9 (Below w3.heap.size w3 Ja):=⟨Ea.os,Ea.tape,Ea.output,Ea.size,fun k hk=>Ea.block k hk (by simp)⟩;refine tk 0 (.pointer (some ⟨w.heap.size+1,19,none⟩)) ?_ ?_
  ·intro wq Aa;go_simp
  have Rb:∀W:World,w3.grownBy W none→W.rangeAt (w.heap.size+1) 19 (bh p1 p2 p3 p4 a1 n1 c1 a2 n2 c2 a3 n3 c3 a4 n4 c4):=fun W h=>(Ka.o.grown h (by simp)).mid 19 8;refine wpAnyH_take (i:=1) (v:=.agg ((bh p1 p2 p3 p4 a1 n1 c1 a2 n2 c2 a3 n3 c3 a4 n4 c4):List Value).toArray) rfl (by kernel_rfl) (by kernel_rfl) (by kernel_rfl) (fun _ _ _ h=>h) (tQ (by kernel_rfl) 35 (.tmp 46) rfl (w.heap.size+1) 19 (by kernel_rfl) ((bh p1 p2 p3 p4 a1 n1 c1 a2 n2 c2 a3 n3 c3 a4 n4 c4):List Value) _ Rb underlying35 rfl (by kernel_rfl)) (by assumption) ?_;refine tk 3 (.pointer (some ⟨jb,15,none⟩)) ?_ ?_
  ·intro wq Aa;go_simp
  refine tk 4 (it jr) ?_ ?_
  ·intro wp Na;have c0:=(Oa.o.grown Na (by simp)).c 15;go_simp
  refine ba 2 fun Kk hK=>?_;go_simp;refine(CR _ (Ra.o.below Ca.o) (Sa.o.below Ca.o) (Ta.o.below Ca.o) (Ua.o.below Ca.o)).mono ?_;rintro e Sb ⟨rfl,Ae⟩;go_simp;have Xa:w3.grownBy Sb none:=ap Ea Ae;have La:H9 (Below w3.heap.size w3 Sb):=⟨Xa.os,Xa.tape,Xa.output,Xa.size,fun k hk=>Xa.block k hk (by simp)⟩;refine hK.out _ _ Xa (fun _=>?_);clear hK Kk Ae;by_cases Gd:(nr:Int)=jr
  case neg=>
   have Tb:H9 (cf (P:Int) ⟨(p1,p2),(p3,p4),z1,z2,z3,z4⟩ ⟨Pa,⟨⟨a,b,c',d,f,k⟩,⟨a',b',Fa,d',f',k'⟩⟩,(s1,s2),jr,jg,tl⟩=false):=(by show _=_;rw[Ya.o,decide_eq_false Gd];rfl);have Bb:=Hd (Gd);clear Gd;refine tk 5 (.bool true) ?_ ?_
   ·intro wq Aa;go_simp;first | done | exact Bb.o
   refine tk 6 (.bool true) ?_ ?_
   ·intro wq Aa;go_simp
   refine sk 7 ?_;refine sk 8 ?_;refine sk 9 ?_;refine sk 10 ?_;refine sk 11 ?_;refine sk 12 ?_;refine sk 13 ?_;refine sk 14 ?_;refine tk 15 (.bool true) ?_ ?_
   ·intro wq Aa;go_simp
   refine tk 16 (.bool true) ?_ ?_
   ·intro wq Aa;go_simp
   refine sk 17 ?_;refine sk 18 ?_;refine sk 19 ?_;refine sk 20 ?_;refine sk 21 ?_;refine sk 22 ?_;refine tk 23 (.bool true) ?_ ?_
   ·intro wq Aa;go_simp
   refine bt ?_;go_simp;have Cb:=Hd (Ia.o.belowS La.o);have Db:=Hd (Ka.o.belowS La.o);have Eb:=Hd (Ga.o.belowS La.o);have Fb:=Hd (Ha.o.trans (La.o.mono Ha.o.size));have Gb:=Hd (Ra.o.below La.o);have Hb:=Hd (Sa.o.below La.o);have Ib:=Hd (Ta.o.below La.o);have Jb:=Hd (Ua.o.below La.o);have Kb:=Hd (Qa.o.below La.o);have Lb:=Hd (Oa.o.belowS La.o);clear Ia Ka Ga Ha Ra Sa Ta Ua Qa Oa;clear Rb CR CA Ya Bb;rename_i De Ee Fe Ge He Ie Je Ke Le;revert Vb ab nb cb nj cj bs qs Va Wa Jc id Ab Kc m0 m1 m2 m3 m4 m5 m6 m7 m8 m9 Lc Nc t1 t2 p1 p2 p3 p4 a1 a2 a3 a4 n1 n2 n3 n4 c1 c2 c3 c4 z1 z2 z3 z4 w Pb l1 l2 l3 l4 Oc Pc Qc wa wb i hi Rc Wb gj Xb tn Sc tc Tc Uc Vc Wc Xc Yc De Ee Fe Pa jr jg tl a b c' d f k a' b' Fa d' f' k' s1 s2 Yb Zb Qb P Zc Ad Bd gp Ac g Nb Cd w2 jb x HX Fd Cc Dc Ec Ge gx Gc w3 nr Hc oa He Ie Je Ke Ja Ea Ca Sb Xa La Le Tb Cb Db Eb Fb Gb Hb Ib Jb Kb Lb;exact key1.out
  have Bb:=Hd (Gd);have Id:0≤jr:=(by omega);have Jd:jr≤16:=(by omega);clear Gd;refine tk 5 (.bool false) ?_ ?_
  ·intro wq Aa;go_simp;first | done | exact Bb.o
  refine tk 6 (.bool false) ?_ ?_
  ·intro wq Aa;go_simp
  refine tk 7 (.pointer (some ⟨w.heap.size+1,19,none⟩)) ?_ ?_
  ·intro wq Aa;go_simp
  refine tk 8 (.pointer (some ⟨w.heap.size+1,19,none⟩)) ?_ ?_
  ·intro wq Aa;go_simp
  refine tk 9 (.agg #[it p1,it p2]) ?_ ?_
  ·intro wp Na;have c0:=(Ka.o.grown Na (by simp)).c 19;have c1:=(Ka.o.grown Na (by simp)).c 20;go_simp
  refine wpAnyH_take (i:=10) (v:=.agg (br Pa a b c' d f k a' b' Fa d' f' k' s1 s2 jr jg (some ⟨g,0,none⟩) tn tc).toArray) rfl (by kernel_rfl) (by kernel_rfl) (by kernel_rfl) (fun _ _ _ h=>h) (tQ (by kernel_rfl) 45 (.tmp 8) rfl jb 0 rfl (br Pa a b c' d f k a' b' Fa d' f' k' s1 s2 jr jg (some ⟨g,0,none⟩) tn tc) _ (fun W h=>(Oa.o.grown h (by simp)).row) underlying45 rfl (by kernel_rfl)) (by assumption) ?_;refine tk 11 (.pointer (some ⟨w.heap.size+1,2,none⟩)) ?_ ?_
  ·intro wq Aa;go_simp
  refine tk 12 (it (P:Nat)) ?_ ?_
  ·intro wp Na;have c0:=(Ka.o.grown Na (by simp)).c 2;go_simp
  have Ub:=mP Pa a b c' d f k a' b' Fa d' f' k' s1 s2 jr jg (some ⟨g,0,none⟩) tn tc (P:Int) Cc (by omega) Id Jd;generalize ep ⟨⟨a,b,c',d,f,k⟩,⟨a',b',Fa,d',f',k'⟩⟩ (s1,s2) ((P:Int)*(jr-1))=rs at Ub Ya;obtain⟨u,v⟩:=rs;dsimp only[cC]at Ub;refine ba 13 fun Kk hK=>?_;go_simp;refine(Ub _).mono ?_;rintro e Ic ⟨rfl,Be⟩;go_simp;have Za:w3.grownBy Ic none:=ap Xa Be;have Ba:H9 (Below w3.heap.size w3 Ic):=⟨Za.os,Za.tape,Za.output,Za.size,fun k hk=>Za.block k hk (by simp)⟩;refine hK.out _ _ Za (fun _=>?_);clear hK Kk Be;by_cases hu:p1=u
  case neg=>
   have Tb:H9 (cf (P:Int) ⟨(p1,p2),(p3,p4),z1,z2,z3,z4⟩ ⟨Pa,⟨⟨a,b,c',d,f,k⟩,⟨a',b',Fa,d',f',k'⟩⟩,(s1,s2),jr,jg,tl⟩=false):=(by show _=_;rw[Ya.o];simp[hu]);refine tk 14 (.bool true) ?_ ?_
   ·intro wq Aa;go_simp;first | done | (simp[*];done)
   clear hu;refine tk 15 (.bool true) ?_ ?_
   ·intro wq Aa;go_simp
   refine tk 16 (.bool true) ?_ ?_
   ·intro wq Aa;go_simp
   refine sk 17 ?_;refine sk 18 ?_;refine sk 19 ?_;refine sk 20 ?_;refine sk 21 ?_;refine sk 22 ?_;refine tk 23 (.bool true) ?_ ?_
   ·intro wq Aa;go_simp
   refine bt ?_;go_simp;have Cb:=Hd (Ia.o.belowS Ba.o);have Db:=Hd (Ka.o.belowS Ba.o);have Eb:=Hd (Ga.o.belowS Ba.o);have Fb:=Hd (Ha.o.trans (Ba.o.mono Ha.o.size));have Gb:=Hd (Ra.o.below Ba.o);have Hb:=Hd (Sa.o.below Ba.o);have Ib:=Hd (Ta.o.below Ba.o);have Jb:=Hd (Ua.o.below Ba.o);have Kb:=Hd (Qa.o.below Ba.o);have Lb:=Hd (Oa.o.belowS Ba.o);clear Ia Ka Ga Ha Ra Sa Ta Ua Qa Oa;clear Rb CR CA Ub Ya Bb;rename_i Ne Oe Pe Qe Re Se Te Ue Ve We;revert Vb ab nb cb nj cj bs qs Va Wa Jc id Ab Kc m0 m1 m2 m3 m4 m5 m6 m7 m8 m9 Lc Nc t1 t2 p1 p2 p3 p4 a1 a2 a3 a4 n1 n2 n3 n4 c1 c2 c3 c4 z1 z2 z3 z4 w Pb l1 l2 l3 l4 Oc Pc Qc wa wb i hi Rc Wb gj Xb tn Sc tc Tc Uc Vc Wc Xc Yc Ne Oe Pe Pa jr jg tl a b c' d f k a' b' Fa d' f' k' s1 s2 Yb Zb Qb P Zc Ad Bd gp Ac g Nb Cd w2 jb x HX Fd Cc Dc Ec Qe gx Gc w3 nr Hc oa Re Se Te Ue Ja Ea Ca Sb Xa La Ve Id Jd u v Ic Za Ba We Tb Cb Db Eb Fb Gb Hb Ib Jb Kb Lb;exact key2.out
  by_cases hv:p2=v
  case neg=>
   have Tb:H9 (cf (P:Int) ⟨(p1,p2),(p3,p4),z1,z2,z3,z4⟩ ⟨Pa,⟨⟨a,b,c',d,f,k⟩,⟨a',b',Fa,d',f',k'⟩⟩,(s1,s2),jr,jg,tl⟩=false):=(by show _=_;rw[Ya.o];simp[hv]);refine tk 14 (.bool true) ?_ ?_
   ·intro wq Aa;go_simp;first | done | (simp[*];done)
   clear hu hv;refine tk 15 (.bool true) ?_ ?_
   ·intro wq Aa;go_simp
   refine tk 16 (.bool true) ?_ ?_
   ·intro wq Aa;go_simp
   refine sk 17 ?_;refine sk 18 ?_;refine sk 19 ?_;refine sk 20 ?_;refine sk 21 ?_;refine sk 22 ?_;refine tk 23 (.bool true) ?_ ?_
   ·intro wq Aa;go_simp
   refine bt ?_;go_simp;have Cb:=Hd (Ia.o.belowS Ba.o);have Db:=Hd (Ka.o.belowS Ba.o);have Eb:=Hd (Ga.o.belowS Ba.o);have Fb:=Hd (Ha.o.trans (Ba.o.mono Ha.o.size));have Gb:=Hd (Ra.o.below Ba.o);have Hb:=Hd (Sa.o.below Ba.o);have Ib:=Hd (Ta.o.below Ba.o);have Jb:=Hd (Ua.o.below Ba.o);have Kb:=Hd (Qa.o.below Ba.o);have Lb:=Hd (Oa.o.belowS Ba.o);clear Ia Ka Ga Ha Ra Sa Ta Ua Qa Oa;clear Rb CR CA Ub Ya Bb;rename_i Xe Ye Ze Af Bf Cf Df Ef Ff Gf;revert Vb ab nb cb nj cj bs qs Va Wa Jc id Ab Kc m0 m1 m2 m3 m4 m5 m6 m7 m8 m9 Lc Nc t1 t2 p1 p2 p3 p4 a1 a2 a3 a4 n1 n2 n3 n4 c1 c2 c3 c4 z1 z2 z3 z4 w Pb l1 l2 l3 l4 Oc Pc Qc wa wb i hi Rc Wb gj Xb tn Sc tc Tc Uc Vc Wc Xc Yc Xe Ye Ze Pa jr jg tl a b c' d f k a' b' Fa d' f' k' s1 s2 Yb Zb Qb P Zc Ad Bd gp Ac g Nb Cd w2 jb x HX Fd Cc Dc Ec Af gx Gc w3 nr Hc oa Bf Cf Df Ef Ja Ea Ca Sb Xa La Ff Id Jd u v Ic Za Ba Gf Tb Cb Db Eb Fb Gb Hb Ib Jb Kb Lb;exact key3.out
  refine tk 14 (.bool false) ?_ ?_
  ·intro wq Aa;go_simp;first | done | (simp[*];done)
  have Od:H9 (cf (P:Int) ⟨(p1,p2),(p3,p4),z1,z2,z3,z4⟩ ⟨Pa,⟨⟨a,b,c',d,f,k⟩,⟨a',b',Fa,d',f',k'⟩⟩,(s1,s2),jr,jg,tl⟩=oa):=(by show _=_;rw[Ya.o,decide_eq_true Bb.o,hu,hv];simp);clear hu hv Ya;refine tk 15 (.bool false) ?_ ?_
  ·intro wq Aa;go_simp
  refine tk 16 (.bool false) ?_ ?_
  ·intro wq Aa;go_simp
  refine tk 17 (.pointer (some ⟨jb,1,none⟩)) ?_ ?_
  ·intro wq Aa;go_simp
  have Vd:∀W:World,w3.grownBy W none→W.rangeAt jb 1 (cu a b c' d f k a' b' Fa d' f' k'):=fun W h=>(Oa.o.grown h (by simp)).mid 1 12;refine wpAnyH_take (i:=18) (v:=.agg ((cu a b c' d f k a' b' Fa d' f' k'):List Value).toArray) rfl (by kernel_rfl) (by kernel_rfl) (by kernel_rfl) (fun _ _ _ h=>h) (tQ (by kernel_rfl) 31 (.tmp 63) rfl jb 1 (by kernel_rfl) ((cu a b c' d f k a' b' Fa d' f' k'):List Value) _ Vd underlying31 rfl (by kernel_rfl)) (by assumption) ?_;refine tk 19 (.pointer (some ⟨w.heap.size+1,19,none⟩)) ?_ ?_
  ·intro wq Aa;go_simp
  refine wpAnyH_take (i:=20) (v:=.agg ((bh p1 p2 p3 p4 a1 n1 c1 a2 n2 c2 a3 n3 c3 a4 n4 c4):List Value).toArray) rfl (by kernel_rfl) (by kernel_rfl) (by kernel_rfl) (fun _ _ _ h=>h) (tQ (by kernel_rfl) 35 (.tmp 65) rfl (w.heap.size+1) 19 (by kernel_rfl) ((bh p1 p2 p3 p4 a1 n1 c1 a2 n2 c2 a3 n3 c3 a4 n4 c4):List Value) _ Rb underlying35 rfl (by kernel_rfl)) (by assumption) ?_;refine ba 21 fun Kk hK=>?_;go_simp;refine(CA _ (Ra.o.below Ba.o) (Sa.o.below Ba.o) (Ta.o.below Ba.o) (Ua.o.below Ba.o)).mono ?_;rintro e Pd ⟨rfl,Ce⟩;go_simp;have Ob:w3.grownBy Pd none:=ap Za Ce;have Da:H9 (Below w3.heap.size w3 Pd):=⟨Ob.os,Ob.tape,Ob.output,Ob.size,fun k hk=>Ob.block k hk (by simp)⟩;refine hK.out _ _ Ob (fun _=>?_);clear hK Kk Ce
  cases oa with
  | false=>
   have Tb:=Hd (Od.o);refine tk 22 (.bool true) ?_ ?_
   ·intro wq Aa;go_simp
   refine tk 23 (.bool true) ?_ ?_
   ·intro wq Aa;go_simp
   refine bt ?_;go_simp;have Cb:=Hd (Ia.o.belowS Da.o);have Db:=Hd (Ka.o.belowS Da.o);have Eb:=Hd (Ga.o.belowS Da.o);have Fb:=Hd (Ha.o.trans (Da.o.mono Ha.o.size));have Gb:=Hd (Ra.o.below Da.o);have Hb:=Hd (Sa.o.below Da.o);have Ib:=Hd (Ta.o.below Da.o);have Jb:=Hd (Ua.o.below Da.o);have Kb:=Hd (Qa.o.below Da.o);have Lb:=Hd (Oa.o.belowS Da.o);clear Ia Ka Ga Ha Ra Sa Ta Ua Qa Oa;clear Rb Vd CR CA Ub Od Bb;rename_i Hf If Jf Kf Lf Nf Of Qf Rf Sf Tf;revert Vb ab nb cb nj cj bs qs Va Wa Jc id Ab Kc m0 m1 m2 m3 m4 m5 m6 m7 m8 m9 Lc Nc t1 t2 p1 p2 p3 p4 a1 a2 a3 a4 n1 n2 n3 n4 c1 c2 c3 c4 z1 z2 z3 z4 w Pb l1 l2 l3 l4 Oc Pc Qc wa wb i hi Rc Wb gj Xb tn Sc tc Tc Uc Vc Wc Xc Yc Hf If Jf Pa jr jg tl a b c' d f k a' b' Fa d' f' k' s1 s2 Yb Zb Qb P Zc Ad Bd gp Ac g Nb Cd w2 jb x HX Fd Cc Dc Ec Kf gx Gc w3 nr Hc Lf Nf Of Qf Ja Ea Ca Sb Xa La Rf Id Jd u v Ic Za Ba Sf Pd Ob Da Tf Tb Cb Db Eb Fb Gb Hb Ib Jb Kb Lb;exact key4.out
  | true=>
   have Uf:=Hd (Od.o);refine tk 22 (.bool false) ?_ ?_
   ·intro wq Aa;go_simp
   refine tk 23 (.bool false) ?_ ?_
   ·intro wq Aa;go_simp
   refine bt ?_;go_simp;have Cb:=Hd (Ia.o.belowS Da.o);have Db:=Hd (Ka.o.belowS Da.o);have Eb:=Hd (Ga.o.belowS Da.o);have Fb:=Hd (Ha.o.trans (Da.o.mono Ha.o.size));have Gb:=Hd (Ra.o.below Da.o);have Hb:=Hd (Sa.o.below Da.o);have Ib:=Hd (Ta.o.below Da.o);have Jb:=Hd (Ua.o.below Da.o);have Kb:=Hd (Qa.o.below Da.o);have Lb:=Hd (Oa.o.belowS Da.o);clear Ia Ka Ga Ha Ra Sa Ta Ua Qa Oa;clear Rb Vd CR CA Ub Od Bb;rename_i Vf Wf Xf Yf Zf Ag Bg Cg Dg Eg Fg;revert Vb ab nb cb nj cj bs qs Va Wa Jc id Ab Kc m0 m1 m2 m3 m4 m5 m6 m7 m8 m9 Lc Nc t1 t2 p1 p2 p3 p4 a1 a2 a3 a4 n1 n2 n3 n4 c1 c2 c3 c4 z1 z2 z3 z4 w Pb l1 l2 l3 l4 Oc Pc Qc wa wb i hi Rc Wb gj Xb tn Sc tc Tc Uc Vc Wc Xc Yc Vf Wf Xf Pa jr jg tl a b c' d f k a' b' Fa d' f' k' s1 s2 Yb Zb Qb P Zc Ad Bd gp Ac g Nb Cd w2 jb x HX Fd Cc Dc Ec Yf gx Gc w3 nr Hc Zf Ag Bg Cg Ja Ea Ca Sb Xa La Dg Id Jd u v Ic Za Ba Eg Pd Ob Da Fg Uf Cb Db Eb Fb Gb Hb Ib Jb Kb Lb;exact key5.out
theorem sd:eE.p5:=by
 intro Da ab nb cb nj cj bs qs Aa Ba Ed id Kb Fd m0 m1 m2 m3 m4 m5 m6 m7 m8 m9 Gd Id t1 t2 p1 p2 p3 p4 a1 a2 a3 a4 n1 n2 n3 n4 c1 c2 c3 c4 z1 z2 z3 z4 w Ja l1 l2 l3 l4 Jd Kd Ld wa wb i hi Nd La gj Xa tn Od tc Pd Qd Rd Sd Td Ud Vd Wd Xd Na jr jg tl a b c' d f k a' b' Oa d' f' k' s1 s2 Ya Hc Lb P Yd Zd Ae gp Pa g Ia Be w2 jb x HX Ce De Qa Ra Ee gx Nb w3 nr Fe Ge He Ie Je Ke Ic Jc Le Kc Lc Ne Oe Pe u v Qe Nc Oc Re Fa Pc Qc Se Sa Za Ob Pb Ab Rc Sc Tc Uc Qb Vc;clear Ic Jc Kc Lc Nc Oc Pc Qc;have hG:=Qb.o;have hT:=hG.jtask hi;have Ea:=Ia.o;rw[Ea.1,Ea.2.1,Ea.2.2]at hT;have Rb:Fa.cell? ⟨gj,i*18+17,none⟩=some (.slice (qs.getD i q0).2.1 (qs.getD i q0).1.ts.length (qs.getD i q0).2.2):=hG.jcell hi (by omega);rw[Ea.1,Ea.2.1,Ea.2.2]at Rb;have b0:=hT.cells Pa (j:=0) (by omega);have Sb:=hT.2.frozenAt (P*3+0);have b1:=hT.cells Pa (j:=1) (by omega);have Wc:=hT.2.frozenAt (P*3+1);have b2:=hT.cells Pa (j:=2) (by omega);have Xc:=hT.2.frozenAt (P*3+2);rw[Nat.add_zero]at b0 Sb;generalize(qs.getD i q0).1.ts.getD P M.t0=zz at b0 b1 b2;obtain⟨Te,Ue,Ve⟩:=zz;simp only[bO,List.getElem?_cons_zero,List.getElem?_cons_succ]at b0 b1 b2;have Tb:qs.getD i q0∈qs:=(by rw[tu,tw (by omega)];simp);obtain⟨Ub,Vb⟩:=hG.task hi Ea.2.1 (k:=P) (by rw[Ea.1];exact Pa) ⟨true,0,0⟩
 have Wb:g∈bj ab (some ⟨gj,0,none⟩) qs:=by
  unfold bj;simp only[tI];exact .inr (.inr (tU.2 ⟨_,Tb,by rw[Ea.2.1];simp[ob]⟩))
 have We:=Xa.o g Wb;have Xb:bj ab (some ⟨gj,0,none⟩) (qs.set i ({(qs.getD i q0).1 with ts:=(qs.getD i q0).1.ts.set P ⟨true,0,0⟩},(qs.getD i q0).2))=bj ab (some ⟨gj,0,none⟩) qs:=dL (qs:=qs) (i:=i) _ (by omega) (by rfl);have Yb:=Hd (Xb);have Zb:=Hd (Ub);have Ac:=Hd (Vb);clear Ub Vb hG hT Tb Wb Xb Ea;have x3:=Za.o.c 3;have v2:=Ob.o.c 2;(go_wp2_with fail);apply dU
 case f=>
  intro key
  go_region_law (fail)
  all_goals exact key.out
 case h=>
  show Exit.then _ _ Exit.normal _ (Fa.setCells g (P*3) (bO ⟨true,0,0⟩)).drew;have Bc:Below (Fa.setCells g (P*3) (bO ⟨true,0,0⟩)).heap.size (Fa.setCells g (P*3) (bO ⟨true,0,0⟩)) (Fa.setCells g (P*3) (bO ⟨true,0,0⟩)).drew:=(tv _ _).drew;have Ta:Fa.grownBy (Fa.setCells g (P*3) (bO ⟨true,0,0⟩)).drew (some g):=Ac.o.trans (cY _ _);have Ua:=Hd (Zb.o.below Bc);have Bb:=Hd (Za.o.grown Ta (fun e=>by have:=tm e;omega));have Cc:=Hd (Pb.o.grown Ta (fun e=>by have:=tm e;omega));have Dc:H9 (Below Da w (Fa.setCells g (P*3) (bO ⟨true,0,0⟩)).drew):=(Ab.o.mono Ja).trans (ac Ta (tB Ja Ab.o.size) (fun z e=>by have:=tm e;omega));generalize(Fa.setCells g (P*3) (bO ⟨true,0,0⟩)).drew=w4 at *;clear Bc Ta Zb Ac Rb b0 b1 b2 Sb Wc Xc x3 v2 Za Ob Pb Ab Rc Sc Tc Uc Qb Vc;have Yc:i<qs.length:=(by omega);have Cb:=bP Yc ({(qs.getD i q0).1 with ts:=(qs.getD i q0).1.ts.set P ⟨true,0,0⟩},(qs.getD i q0).2)
  have hA:∀j,j<18→w4.cell? ⟨gj,i*18+j,none⟩=(dJ ⟨Na,⟨⟨a,b,c',d,f,k⟩,⟨a',b',Oa,d',f',k'⟩⟩,(s1,s2),jr,jg,tl⟩ (some ⟨g,0,none⟩) tc)[j]?:=fun j hj=>by
   have h0:=Ua.o.jcell hi hj;rw[Cb]at h0;rw[h0];unfold fu;dsimp only;rw[Ia.o.2.1,Ia.o.2.2,Ya.o];unfold dJ;dsimp only;rw[List.length_set]
  have hT:=Ua.o.jtask hi;rw[Cb]at hT;dsimp only at hT;rw[Ia.o.2.1,Ia.o.2.2,List.length_set,Ia.o.1,Ya.o]at hT;dsimp only at hT;have hR:w4.rangeAt gj (i*18) (dJ ⟨Na,⟨⟨a,b,c',d,f,k⟩,⟨a',b',Oa,d',f',k'⟩⟩,(s1,s2),jr,jg,tl⟩ (some ⟨g,0,none⟩) tc):=bw rfl hA;dsimp only[dJ]at hR;rw[Hc.o]at hR;have HS:H9 (aY w4 (some ⟨g,0,none⟩) tn tc (tl.set P ⟨true,0,0⟩)):=hT.sees;have C3:=fun W (h:aY W (some ⟨g,0,none⟩) tn tc (tl.set P ⟨true,0,0⟩))=>iB Na a b c' d f k a' b' Oa d' f' k' s1 s2 jr jg W h;have Ka:H9 (((qs.getD i q0).1.ts.set P ⟨true,0,0⟩).all (·.done)=(tl.set P ⟨true,0,0⟩).all (·.done)):=(by show _=_;rw[Ya.o]);generalize(tl.set P ⟨true,0,0⟩).all (·.done)=Zc at C3 Ka;clear hA hT Cb;have x3:=Bb.o.c 3;(go_wp2_with(with_reducible refine af 109 ?_ ?_;rfl));clear x3;with_reducible refine dO 45 gj (i*18) (br Na a b c' d f k a' b' Oa d' f' k' s1 s2 jr jg (some ⟨g,0,none⟩) tn tc) hR underlying45 ?q5 ?_
  case q5=>exact⟨rfl,rfl,by kernel_rfl,_,rfl,by kernel_rfl⟩
  clear hR;(go_wp2_with fail);have Ec:=Hd (Ua.o);have Fc:=Hd (Bb.o);have Gc:=Hd (Cc.o);have Db:=Hd (Dc.o);clear Ua Bb Cc Dc;refine(C3 _ HS.o).mono ?_;rintro e w5 ⟨rfl,hb⟩;have Va:=Hd (Ec.o.below hb);have Ha:=Hd (Fc.o.belowS hb);have Ca:=Hd (Gc.o.belowS hb);have Wa:H9 (Below Da w w5):=Db.o.trans (hb.mono (tB Ja Db.o.size));clear Ec Fc Gc Db;clear hb
  cases Zc with
  | true=>
   have o0:=Ha.o.c 0;have o1:=Ha.o.c 1;have o2:=Ha.o.c 2;have o3:=Ha.o.c 3;have r0:=Ca.o.c 0;have Ad:=Ca.o.fr 0;have r1:=Ca.o.c 1;have Bd:=Ca.o.fr 1;have r2:=Ca.o.c 2;have Cd:=Ca.o.fr 2;have r3:=Ca.o.c 3;have Dd:=Ca.o.fr 3;have Eb:H9 (∀wf,w5.grownBy wf (some (w.heap.size+1+1))→aF wf Da ab nb cb bs (some ⟨gj,0,none⟩) nj cj (qs.set i ({(qs.getD i q0).1 with ts:=(qs.getD i q0).1.ts.set P ⟨true,0,0⟩},(qs.getD i q0).2))):=fun wf Ga=>Va.o.grown Ga (fun g hg e=>by rw[Yb.o]at hg;have:=Xa.o g hg;have:=tm e;omega);have Fb:H9 (∀wf,aF wf Da ab nb cb bs (some ⟨gj,0,none⟩) nj cj (qs.set i ({(qs.getD i q0).1 with ts:=(qs.getD i q0).1.ts.set P ⟨true,0,0⟩},(qs.getD i q0).2))→Below Da w wf→er w Da Aa Ba ab nb cb bs (some ⟨gj,0,none⟩) nj cj qs Kb id (P:Int) ⟨(p1,p2),(p3,p4),z1,z2,z3,z4⟩ (.returned (.tuple #[.agg (au Aa Ba ab nb cb (some ⟨gj,0,none⟩) nj cj).toArray,it 0,it 1])) wf):=fun wf hM hB=>⟨hB,.inr (.inr (.inr ⟨Qa.o,by rw[Ra.o];exact Nb.o,by rw[Lb.o];exact Sa.o,i,La.o,by rw[ub,Ka.o];rfl,by rw[ub];exact hM⟩))⟩;clear Qa Ra Sa La Ka Va;(go_wp2_with fail);show bodyPost _ _ _ _ _ (w5.setCells (w.heap.size+1+1) 0 (au Aa Ba ab nb cb (some ⟨gj,0,none⟩) nj cj));have Gb:ae (w5.setCells (w.heap.size+1+1) 0 (au Aa Ba ab nb cb (some ⟨gj,0,none⟩) nj cj)) (w.heap.size+1+1) (au Aa Ba ab nb cb (some ⟨gj,0,none⟩) nj cj):=Ca.o.setCells (au Aa Ba ab nb cb (some ⟨gj,0,none⟩) nj cj) 0 (by simp);have Ga:=dv w5 (w.heap.size+1+1) 0 (au Aa Ba ab nb cb (some ⟨gj,0,none⟩) nj cj);have Hb:=Eb.o _ Ga;have Ib:Below Da w (w5.setCells (w.heap.size+1+1) 0 (au Aa Ba ab nb cb (some ⟨gj,0,none⟩) nj cj)):=Wa.o.trans (ac Ga (tB Ja Wa.o.size) (fun z e=>by have:=tm e;omega));have Jb:=Fb.o _ Hb Ib;generalize(w5.setCells (w.heap.size+1+1) 0 (au Aa Ba ab nb cb (some ⟨gj,0,none⟩) nj cj))=wf at *;exact tx (aA rfl rfl (tS wf (w.heap.size+1+1) 0 27 _ _ Gb.row underlying27 rfl (by kernel_rfl))) rfl Jb
  | false=>
   have o0:=Ha.o.c 0;have o1:=Ha.o.c 1;have o2:=Ha.o.c 2;have o3:=Ha.o.c 3;have r0:=Ca.o.c 0;have Ad:=Ca.o.fr 0;have r1:=Ca.o.c 1;have Bd:=Ca.o.fr 1;have r2:=Ca.o.c 2;have Cd:=Ca.o.fr 2;have r3:=Ca.o.c 3;have Dd:=Ca.o.fr 3;have Eb:H9 (∀wf,w5.grownBy wf (some (w.heap.size+1+1))→aF wf Da ab nb cb bs (some ⟨gj,0,none⟩) nj cj (qs.set i ({(qs.getD i q0).1 with ts:=(qs.getD i q0).1.ts.set P ⟨true,0,0⟩},(qs.getD i q0).2))):=fun wf Ga=>Va.o.grown Ga (fun g hg e=>by rw[Yb.o]at hg;have:=Xa.o g hg;have:=tm e;omega);have Fb:H9 (∀wf,aF wf Da ab nb cb bs (some ⟨gj,0,none⟩) nj cj (qs.set i ({(qs.getD i q0).1 with ts:=(qs.getD i q0).1.ts.set P ⟨true,0,0⟩},(qs.getD i q0).2))→Below Da w wf→er w Da Aa Ba ab nb cb bs (some ⟨gj,0,none⟩) nj cj qs Kb id (P:Int) ⟨(p1,p2),(p3,p4),z1,z2,z3,z4⟩ (.returned (.tuple #[.agg (au Aa Ba ab nb cb (some ⟨gj,0,none⟩) nj cj).toArray,it 0,it 0])) wf):=fun wf hM hB=>⟨hB,.inr (.inr (.inr ⟨Qa.o,by rw[Ra.o];exact Nb.o,by rw[Lb.o];exact Sa.o,i,La.o,by rw[ub,Ka.o];rfl,by rw[ub];exact hM⟩))⟩;clear Qa Ra Sa La Ka Va;(go_wp2_with fail);show bodyPost _ _ _ _ _ (w5.setCells (w.heap.size+1+1) 0 (au Aa Ba ab nb cb (some ⟨gj,0,none⟩) nj cj));have Gb:ae (w5.setCells (w.heap.size+1+1) 0 (au Aa Ba ab nb cb (some ⟨gj,0,none⟩) nj cj)) (w.heap.size+1+1) (au Aa Ba ab nb cb (some ⟨gj,0,none⟩) nj cj):=Ca.o.setCells (au Aa Ba ab nb cb (some ⟨gj,0,none⟩) nj cj) 0 (by simp);have Ga:=dv w5 (w.heap.size+1+1) 0 (au Aa Ba ab nb cb (some ⟨gj,0,none⟩) nj cj);have Hb:=Eb.o _ Ga;have Ib:Below Da w (w5.setCells (w.heap.size+1+1) 0 (au Aa Ba ab nb cb (some ⟨gj,0,none⟩) nj cj)):=Wa.o.trans (ac Ga (tB Ja Wa.o.size) (fun z e=>by have:=tm e;omega));have Jb:=Fb.o _ Hb Ib;generalize(w5.setCells (w.heap.size+1+1) 0 (au Aa Ba ab nb cb (some ⟨gj,0,none⟩) nj cj))=wf at *;exact tx (aA rfl rfl (tS wf (w.heap.size+1+1) 0 27 _ _ Gb.row underlying27 rfl (by kernel_rfl))) rfl Jb
end Go.Proofs.YtjcjonncaknhnaaGreatDoor
