import Derived.Test.YtjcjonncaknhnaaGreatDoorPk15
import Derived.Test.YtjcjonncaknhnaaGreatDoorPk17
namespace Go.Proofs.YtjcjonncaknhnaaGreatDoor
open Go.RowKit Go.Proofs.Tryz
set_option linter.unusedSimpArgs false
set_option maxHeartbeats 32000000
variable {i' i h nb cb ni ci mb:Nat}{f:M.Tk→Bool}{qs:List HJ}{now tj:Int}{ab ai:Option Addr}{bs:List Int}
theorem iY{b:Nat}{a:Option Addr}{n c:Nat}{ts:List M.Tk}(now:Int)(w:World)(hc:w.cell? ⟨b,17,none⟩=some (.slice a n c))(hba:b∉ob a)(ho:aK w i' a n c ts):
  Calls prog 156 #[.pointer (some ⟨b,0,none⟩),.int .i64 now] w fun e w'=>e=.returned (.tuple #[])∧aK w' i' a n c (M.free (M.dueT now) ts)∧w.grownBy w' (Value.slice a n c).ownBlock:=by
 have bn:(n:Int)≤9223372036854775807:=(by have:=ho.sees.big;have:=ho.sees.le;omega);have Ra:(n:Int)≤c:=(by have:=ho.sees.le;omega);have HO:=Hd (ho);have HC:H9 (∀W,w.grownBy W (Value.slice a n c).ownBlock→W.cell? ⟨b,17,none⟩=some (.slice a n c)):=fun W hg=>hg.cell hc (fun e=>hba (aZ e.symm));generalize hR:M.free (M.dueT now) ts=R;have HR:=Hd (hR);clear hR ho hba;go_enter func156,ntmps156;(go_wp2_with fail);clear hc
 go_loopw [11] (fun i wr=>∃(p:Nat) (Aa:List M.Tk),p≤n∧i=it p∧aK wr i' a n c Aa∧eI (M.dueT now) p Aa=R∧w.grownBy wr (Value.slice a n c).ownBlock) (fun i _=>n-(intOf i).toNat)
 case atStart=>exact⟨0,ts,by omega,rfl,HO.o,HR.o,World.grownBy.refl _ _⟩
 case round=>
  clear HO HR;obtain⟨p,Aa,hp,rfl,ho,hg,Da⟩:=hrel;by_cases Ca:p<n
  ·
   obtain⟨g,rfl⟩:=ho.block (by omega);have hl':=ho.1;have a0:wr.cell? ⟨g,p*3,none⟩=some (.bool (Aa.getD p M.t0).done):=ho.cells Ca (j:=0) (by omega);have a1:wr.cell? ⟨g,p*3+1,none⟩=some (it (Aa.getD p M.t0).l'):=ho.cells Ca (j:=1) (by omega);have a2:wr.cell? ⟨g,p*3+2,none⟩=some (it (Aa.getD p M.t0).due):=ho.cells Ca (j:=2) (by omega);have hk:=@jD (M.dueT now) Aa p (by omega);have hs:=@kI (M.dueT now) Aa p (by omega);have C1:=dW (Aa.getD p M.t0);unfold M.dueT at hk hs;generalize Aa.getD p M.t0=x at a0 a1 a2 hk hs C1;obtain⟨d,x,y⟩:=x;dsimp only[ia]at a0 a1 a2 hk hs C1;generalize M.leased ⟨d,x,y⟩=ol at hk hs C1;have HK:=Hd (hk);have HS:=Hd (hs);have HG:=Hd (hg);have HO:=Hd (ho);have HW:=Hd (Da);have Ga:=cz wr (dq d x y) 47;have Ha:H9 (aK (wr.alloc (.cells (dq d x y).toArray 47)) i' (some ⟨g,0,none⟩) n c Aa):=HO.o.grown (tO wr _ none) (fun _ _=>by simp);have Ia:H9 (w.grownBy (wr.alloc (.cells (dq d x y).toArray 47)) (Value.slice (some ⟨g,0,none⟩) n c).ownBlock):=HW.o.trans (tO wr _ _);have hI:(p:Int)<(n:Int):=(by omega);clear hk hs hg ho Da;(go_wp2_with fail);clear a0 a1 a2 HO HW;generalize wr.alloc (.cells (dq d x y).toArray 47)=w5 at *;generalize wr.heap.size=tb at Ga ⊢;refine(C1 w5).mono ?_;rintro e w6 ⟨rfl,hb⟩;have La:=Hd (Ga.o.belowS hb);have Ba:H9 (aK w6 i' (some ⟨g,0,none⟩) n c Aa):=Ha.o.grown (aS hb none) (fun _ _=>by simp);have Ea:H9 (w.grownBy w6 (Value.slice (some ⟨g,0,none⟩) n c).ownBlock):=Ia.o.trans (aS hb _);clear hb Ga Ha Ia C1;have y2:=La.o.c 2
   cases hd:(ol&&decide (y≤now))with
   | false=>
    have Fa:H9 (eI (M.dueT now) (p+1) Aa=R):=(HK.o hd).trans HG.o;clear HK HS HG
    cases ol with
    | false=>
     clear hd;go_wp2;go_roundw
     case rel=>exact⟨p+1,Aa,by omega,by go_num,Ba.o,Fa.o,Ea.o⟩
     case measure=>simp[intOf];omega
    | true=>
     have Na:decide (y≤now)=false:=(by simpa using hd);clear hd;go_wp2;go_roundw
     case rel=>exact⟨p+1,Aa,by omega,by go_num,Ba.o,Fa.o,Ea.o⟩
     case measure=>simp[intOf];omega
   | true=>
    have Fa:H9 (eI (M.dueT now) (p+1) (Aa.set p M.t0)=R):=(HS.o hd).trans HG.o;clear HK HS HG;obtain⟨rfl,Na⟩:=Bool.and_eq_true_iff.1 hd;clear hd;have Sa:=HC.o w6 Ea.o;obtain⟨Ja,Ka⟩:=Ba.o.put Ca M.t0;have Oa:=Hd (Ja);have Pa:=Hd (Ea.o.trans Ka);have b0:=Ba.o.cells Ca (j:=0) (by omega);have b1:=Ba.o.cells Ca (j:=1) (by omega);have b2:=Ba.o.cells Ca (j:=2) (by omega);have Qa:=Ba.o.2.frozenAt (p*3+0);have Ta:=Ba.o.2.frozenAt (p*3+1);have Ua:=Ba.o.2.frozenAt (p*3+2);rw[Nat.add_zero]at b0 Qa;generalize Aa.getD p M.t0=zz at b0 b1 b2;obtain⟨z1,z2,z3⟩:=zz;simp only[bO,List.getElem?_cons_zero,List.getElem?_cons_succ]at b0 b1 b2;clear Ja Ka;go_wp2;go_roundw
    case rel=>exact⟨p+1,Aa.set p M.t0,by omega,by go_num,Oa.o,Fa.o,Pa.o⟩
    case measure=>simp[intOf];omega
  ·
   have HF:H9 (aK wr i' a n c R∧w.grownBy wr (Value.slice a n c).ownBlock):=⟨by rw[←hg,kH (by have:=ho.1;omega)];exact ho,Da⟩;clear ho hg Da;go_wp2;exact bodyPost_end (v:=.tuple #[]) (by simp[results,results156,go_sem]) rfl ⟨rfl,HF.o⟩
def HJ.fr(f:M.Tk→Bool)(q:HJ):HJ:=⟨M.freeJ f q.j,q.b,q.a,q.c⟩
def HJ.ff(f:M.Tk→Bool)(i:Nat)(qs:List HJ):List HJ:=qs.take i++(qs.drop i).map (HJ.fr f)
theorem HJ.ff_end(h:qs.length≤i):HJ.ff f i qs=qs:=by
 unfold HJ.ff;rw[tF h,tC h];simp
theorem HJ.ff_in(h:i<qs.length):HJ.ff f (i+1) (qs.set i (HJ.fr f (qs.getD i cX)))=HJ.ff f i qs:=by
 unfold HJ.ff;rw[aQ cX rfl h,List.take_add_one,List.getElem?_set_self h,List.drop_set_of_lt (by omega),List.take_set_of_le (tr _)];simp
theorem HJ.ff_js(f:M.Tk→Bool)(qs:List HJ):(HJ.ff f 0 qs).map (fun q:HJ=>q.j)=(qs.map (fun q:HJ=>q.j)).map (M.freeJ f):=by
 unfold HJ.ff;simp[HJ.fr]
theorem rF(s':Int)(w:World)(H:aP w i' h now tj ab nb cb bs ai ni ci mb qs)(HRt:M.Right now tj bs (qs.map (fun q:HJ=>q.j)))(hm0:1≤s')(hm1:s'≤1000000000)(tf:i'≤w.heap.size):
  Calls prog 94 #[.pointer (some ⟨h,0,none⟩),.agg #[.int .i64 s']] w (eT w i' h (M.tick ⟨now,tj,bs,qs.map (fun q:HJ=>q.j)⟩ s')):=by
 have Gb:=HRt.now0;have Hb:=HRt.now1;have Ka:H9 ((qs.map (fun q:HJ=>q.j.id)).Pairwise (·< ·)):=(by have:=HRt.rise;rw[List.pairwise_map]at this;exact List.pairwise_map.2 this);have La:qs.length=ni:=H.count;have bn:(ni:Int)≤9223372036854775807:=(by have:=H.i.sees.big;have:=H.i.sees.le;omega);have Ib:(ni:Int)≤ci:=(by have:=H.i.sees.le;omega);unfold eT M.tick;dsimp only;rw[←HJ.ff_js];generalize hN:M.tickN now s'=N;have HN:=Hd (hN);generalize Na:HJ.ff (M.dueT N) 0 qs=RQ;have Oa:=Hd (Na);have Ea:H9 (Below w.heap.size w (w.alloc (.cells #[it s'] 115))):=(tv _ _).alloc (tr _) _;have Pa:=cz w [it s'] 115;have Ca:H9 (aP (w.alloc (.cells #[it s'] 115)) i' h now tj ab nb cb bs ai ni ci mb qs):=H.below Ea.o;clear H HRt hN Na;go_enter func94,ntmps94;(go_wp2_with fail);generalize w.alloc (.cells #[it s'] 115)=wa at *;have x0:wa.cell? ⟨h,0,none⟩=some (it now):=Ca.o.l.at 0;have f0:wa.frozen? ⟨h,0,none⟩=false:=Ca.o.l.fr 0;have t0:=Pa.o.c 0;apply dU
 case f=>
  intro key
  go_region_law (fail)
  all_goals exact key.out
 case h=>
  have hv:min (IntKind.i64.wrap (now+s')) 1000000000=N:=(by rw[←HN.o,tW];unfold M.tickN;split<;>omega)
  rw[hv];have Qa:=Ca.o.l.set 0 (by simp) (it N);have Ha:=aM wa ⟨h,0,none⟩ (it N);have Ia:H9 (aP (wa.setCell ⟨h,0,none⟩ (it N)).drew i' h N tj ab nb cb bs ai ni ci mb qs):=(Ca.o.head Ha Qa).below (tv _ _).drew;have Ra:H9 (Below i' w (wa.setCell ⟨h,0,none⟩ (it N)).drew):=((Ea.o.mono tf).trans (ac Ha (tB tf Ea.o.size) (fun z e=>by rw[←tm e];exact Ca.o.lo h (by simp[cW])))).drew;clear hv Qa Ha x0 f0 t0 Ea Pa Ca HN;generalize(wa.setCell ⟨h,0,none⟩ (it N)).drew=wb at *;have y3:wb.cell? ⟨h,3,none⟩=some (.slice ai ni ci):=Ia.o.l.at 3;(go_wp2_with fail);clear y3;generalize hIDS:qs.map (fun q:HJ=>q.j.id)=IDS at Ka;have Sa:=Hd (hIDS);clear hIDS
  go_loopw [24] (fun i wr=>∃(k:Nat) (Ba:List HJ),k≤ni∧i=it k∧aP wr i' h N tj ab nb cb bs ai ni ci mb Ba∧HJ.ff (M.dueT N) k Ba=RQ∧Ba.map (fun q:HJ=>q.j.id)=IDS∧Below i' w wr) (fun i _=>ni-(intOf i).toNat)
  case atStart=>exact⟨0,qs,by omega,rfl,Ia.o,Oa.o,Sa.o,Ra.o⟩
  case round=>
   clear Ia Ra Oa Sa La;obtain⟨k,Ba,hk,rfl,hh,hg,Fa,Ga⟩:=hrel;have La:=hh.count;have Za:i'≤wr.heap.size:=tB tf Ga.size;have HB:=Hd (Ga);by_cases Ab:k<ni
   ·
    obtain⟨b1,o1,rfl,Ta⟩:=hh.i.sees.at (by omega);have c1:=Ta k Ab;rw[lx (by omega)]at c1;obtain⟨q,hq⟩:∃q,Ba.getD k cX=q:=⟨_,rfl⟩;have Bb:H9 (HJ.ff (M.dueT N) (k+1) (Ba.set k (HJ.fr (M.dueT N) q))=RQ):=(by show _=_;rw[←hq,HJ.ff_in (by omega)];exact hg);have Cb:H9 ((Ba.set k (HJ.fr (M.dueT N) q)).map (fun q:HJ=>q.j.id)=IDS):=(by show _=_;rw[fh (fun q:HJ=>q.j.id) cX (by rw[hq];rfl) (by omega)];exact Fa);rw[hq]at c1;have HA:H9 (bp wr i' h N tj ab nb cb bs (some ⟨b1,o1,none⟩) ni ci mb Ba k q):=⟨hh,by omega,hq⟩;have Ua:H9 (fw q.j.id (Ba.map HJ.ent)=some (.pointer (some ⟨q.b,0,none⟩))):=HA.o.look (by rw[Fa];exact Ka.o);have Ja:H9 ((Value.slice q.a q.j.ts.length q.c).ownBlock≠some h):=fun e=>(HA.o.apart.1 h (aZ e)).2.1 rfl;have Va:H9 ((Value.slice q.a q.j.ts.length q.c).ownBlock≠some mb):=fun e=>(HA.o.apart.1 mb (aZ e)).2.2.1 rfl;have hI:(k:Int)<(ni:Int):=(by omega);clear Ta hg hh Fa Ga hq;(go_wp2_with fail);clear c1;refine cw wr (Value.slice q.a q.j.ts.length q.c).ownBlock (by kernel_rfl) fun hHeld=>?_;have Da:H9 (bp wr.drew i' h N tj ab nb cb bs (some ⟨b1,o1,none⟩) ni ci mb Ba k q):=HA.o.below (tv _ _).drew;have Wa:H9 (Below i' w wr.drew):=HB.o.drew;have Xa:i'≤wr.drew.heap.size:=Za;generalize wr.drew=Db at *;refine tk 0 (.pointer (some ⟨h,0,none⟩)) ?_ ?_
    ·intro wq Aa;go_simp
    refine tk 1 (.pointer (some ⟨h,0,none⟩)) ?_ ?_
    ·intro wq Aa;go_simp
    refine tk 2 (.pointer (some ⟨h,4,none⟩)) ?_ ?_
    ·intro wq Aa;go_simp
    refine tk 3 (.map (some mb)) ?_ ?_
    ·intro wq Aa;have c0:=(HA.o.1.l.grown Aa Ja.o).c 4;go_simp
    refine tk 4 (it q.j.id) ?_ ?_
    ·intro wq Aa;go_simp
    refine tk 5 (.pointer (some ⟨q.b,0,none⟩)) ?_ ?_
    ·intro wq Aa;have Eb:=(HA.o.1.m.grown Aa Va.o).get (P:=prog) (t:=111) underlying111 underlying2 _ _ Ua.o false;simp only[Bool.false_eq_true,if_false]at Eb;go_simp
    refine tk 6 (.pointer (some ⟨h,0,none⟩)) ?_ ?_
    ·intro wq Aa;go_simp
    refine tk 7 (.pointer (some ⟨h,0,none⟩)) ?_ ?_
    ·intro wq Aa;go_simp
    refine tk 8 (.pointer (some ⟨h,0,none⟩)) ?_ ?_
    ·intro wq Aa;go_simp
    refine tk 9 (it N) ?_ ?_
    ·intro wq Aa;have c0:=(HA.o.1.l.grown Aa Ja.o).c 0;go_simp
    refine ba 10 fun Kk hK=>?_;go_simp;refine(iY N Db (Da.o.lies.at 17) Da.o.own Da.o.owns).mono ?_;rintro e Ya ⟨rfl,ho,hg⟩;go_simp;refine hK.out _ _ (hHeld.trans hg) (fun _=>?_);clear hK Kk;refine bt ?_;go_simp;have HF:H9 (aP Ya i' h N tj ab nb cb bs (some ⟨b1,o1,none⟩) ni ci mb (Ba.set k (HJ.fr (M.dueT N) q))):=(Da.o.tasks (by rw[M.free_len]) hg (by rw[M.free_len];exact ho)).1;have Fb:H9 (Below i' w Ya):=Wa.o.trans (ac hg Xa (fun z e=>(Da.o.apart.1 z (aZ e)).1));clear ho hg hHeld Da Wa Xa HA HB Ua Ja Va;go_wp2;go_roundw
    case rel=>exact⟨k+1,_,by omega,by go_num,HF.o,Bb.o,Cb.o,Fb.o⟩
    case measure=>simp[intOf];omega
   ·
    have HF:H9 (aP wr i' h N tj ab nb cb bs ai ni ci mb RQ):=(by show aP _ _ _ _ _ _ _ _ _ _ _ _ _ _;rw[←hg,HJ.ff_end (by omega)];exact hh);clear hh hg Fa Ga;go_wp2;exact tx (v:=.tuple #[it 0,it 0]) (by simp[results,results94,go_sem]) rfl ⟨rfl,⟨_,_,_,_,_,_,_,_,HF.o,rfl⟩,HB.o⟩
theorem gw(id:Int):∀(qs:List HJ) (k:Nat),(∃i,i<qs.length∧fw id (qs.map HJ.ent)=some (.pointer (some ⟨(qs.getD i cX).b,0,none⟩))∧M.jobAt id k (qs.map (fun q:HJ=>q.j))=((k+i:Nat):Int))∨(fw id (qs.map HJ.ent)=none∧M.jobAt id k (qs.map (fun q:HJ=>q.j))=-1)
 | [],_=>.inr ⟨rfl,rfl⟩
 | q::qs,k=>by
  rw[List.map_cons,List.map_cons];unfold M.jobAt;show(∃i,_∧(if id=q.j.id then _ else fw id (qs.map HJ.ent))=_∧_)∨((if id=q.j.id then _ else fw id (qs.map HJ.ent))=none∧_);by_cases e:id=q.j.id
  ·
   rw[if_pos e.symm,if_pos e];exact .inl ⟨0,by simp,rfl,rfl⟩
  ·
   rw[if_neg e,if_neg (fun e2=>e e2.symm)]
   rcases gw id qs (k+1)with⟨i,h1,h2,h3⟩ | ⟨h1,h2⟩
   ·exact .inl ⟨i+1,by simpa using h1,h2,by rw[h3];congr 1;omega⟩
   ·exact .inr ⟨h1,h2⟩
theorem mJ{id:Int}(hi:i<qs.length)(h:M.jobAt id 0 (qs.map (fun q:HJ=>q.j))=(i:Int)):M.jobOf id (qs.map (fun q:HJ=>q.j))=(qs.getD i cX).j:=by
 unfold M.jobOf;rw[h,ub];exact kS hi
set_option maxRecDepth 10000 in
theorem ot(id:Int)(w:World)(H:aP w i' h now tj ab nb cb bs ai ni ci mb qs)(HRt:M.Right now tj bs (qs.map (fun q:HJ=>q.j)))(tf:i'≤w.heap.size):
  Calls prog 95 #[.pointer (some ⟨h,0,none⟩),.agg #[.int .i64 id]] w (eT w i' h (M.cancel ⟨now,tj,bs,qs.map (fun q:HJ=>q.j)⟩ id)):=by
 have Fb:=HRt.now0;have Gb:=HRt.now1;have Da:H9 (Below w.heap.size w (w.alloc (.cells #[it id] 163))):=(tv _ _).alloc (tr _) _;have Ga:=cz w [it id] 163;have Aa:H9 (aP (w.alloc (.cells #[it id] 163)) i' h now tj ab nb cb bs ai ni ci mb qs):=H.below Da.o;have x4:(w.alloc (.cells #[it id] 163)).cell? ⟨h,4,none⟩=some (.map (some mb)):=Aa.o.l.at 4;have t0:(w.alloc (.cells #[it id] 163)).cell? ⟨w.heap.size,0,none⟩=some (it id):=Ga.o.at 0;have Fa:H9 (Below i' w (w.alloc (.cells #[it id] 163)).drew):=(Da.o.drew).mono tf;have Ha:i'≤(w.alloc (.cells #[it id] 163)).drew.heap.size:=tB tf (Da.o.drew).size;unfold M.cancel;dsimp only
 rcases gw id qs 0 with⟨i,hi,hlk,hat⟩ | ⟨hlk,hat⟩
 ·
  rw[Nat.zero_add]at hat;obtain⟨q,hq⟩:∃q,qs.getD i cX=q:=⟨_,rfl⟩;have Ia:=mJ hi hat;rw[hq]at hlk Ia;have Ta:H9 (M.free (M.dueT (now+5)) q.j.ts=M.free M.leased q.j.ts):=HRt.due (by rw[←hq,←kS hi];exact M.getD_mem (by simpa using hi));have HA:H9 (bp (w.alloc (.cells #[it id] 163)).drew i' h now tj ab nb cb bs ai ni ci mb qs i q):=⟨Aa.o.below (tv _ _).drew,hi,hq⟩;have Ea:=(show bN (w.alloc (.cells #[it id] 163)).drew mb (qs.map HJ.ent)from Aa.o.m).get (P:=prog) (t:=111) underlying111 underlying2 id _ hlk true;simp only[if_true]at Ea;rw[Ia,hat,ub,if_neg (by omega)];generalize Na:q.j.ts.all (·.done)=oa;have Ua:=Hd (Na);generalize Oa:q.j.gone=og;have Va:=Hd (Oa);clear hlk hat Ia hq HRt Na Oa;go_enter func95,ntmps95;(go_wp2_with fail);generalize(w.alloc (.cells #[it id] 163))=wa at *;apply dU
  case f=>
   intro key
   go_region_law (fail)
   all_goals exact key.out
  case h=>
   clear Ea x4 t0 Aa Ga Da;generalize wa.drew=wb at *;have Ja:wb.cell? ⟨q.b,16,none⟩=some (.bool og):=(by rw[←Va.o];exact HA.o.lies.at 16);have Pa:wb.cell? ⟨q.b,17,none⟩=some (.slice q.a q.j.ts.length q.c):=HA.o.lies.at 17;have C1:=fy wb Pa HA.o.owns.sees;rw[Ua.o]at C1
   cases og with
   | true=>
    go_wp2;exact tx (v:=.tuple #[it 8,it 0]) (by simp[results,results95,go_sem]) rfl ⟨rfl,⟨_,_,_,_,_,_,_,_,HA.o.1,rfl⟩,Fa.o⟩
   | false=>
    (go_wp2_with fail);refine C1.mono ?_;rintro e wc ⟨rfl,hb⟩;have Ba:=Hd (HA.o.below hb);have Qa:H9 (Below i' w wc):=Fa.o.trans (hb.mono Ha);have Ra:i'≤wc.heap.size:=tB Ha hb.size;clear hb HA Fa Ja Pa C1 Ha
    cases oa with
    | true=>
     go_wp2;exact tx (v:=.tuple #[it 8,it 0]) (by simp[results,results95,go_sem]) rfl ⟨rfl,⟨_,_,_,_,_,_,_,_,Ba.o.1,rfl⟩,Qa.o⟩
    | false=>
     have Ja:wc.cell? ⟨q.b,16,none⟩=some (.bool q.j.gone):=Ba.o.lies.at 16;have Wa:wc.frozen? ⟨q.b,16,none⟩=false:=Ba.o.lies.fr 16;have Ca:=Ba.o.gone true;have Xa:=Hd (Ca);have y0:(wc.setCell ⟨q.b,16,none⟩ (.bool true)).cell? ⟨h,0,none⟩=some (it now):=Ca.1.l.at 0;have C2:=iY (now+5) (wc.setCell ⟨q.b,16,none⟩ (.bool true)) (Ca.lies.at 17) Ca.own Ca.owns;have Ka:=aM wc ⟨q.b,16,none⟩ (.bool true);have Ya:H9 (Below i' w (wc.setCell ⟨q.b,16,none⟩ (.bool true))):=Qa.o.trans (ac Ka Ra (fun z e=>by rw[←tm e];exact Ba.o.lo));have Za:i'≤(wc.setCell ⟨q.b,16,none⟩ (.bool true)).heap.size:=tB Ra Ka.size;clear Ka Ca;(go_wp2_with fail);clear Ja Wa y0;generalize(wc.setCell ⟨q.b,16,none⟩ (.bool true))=wg at *;refine C2.mono ?_;rintro e wf ⟨rfl,ho,hg⟩;have HF:=Xa.o.tasks (ts:=M.free (M.dueT (now+5)) q.j.ts) (by rw[M.free_len]) hg (by rw[M.free_len];exact ho);have Ab:H9 (Below i' w wf):=Ya.o.trans (ac hg Za (fun z e=>(Ba.o.apart.1 z (aZ e)).1))
     have Bb:H9 (∃La,aP wf i' h now tj ab nb cb bs ai ni ci mb La∧La.map (fun q:HJ=>q.j)=(qs.map (fun q:HJ=>q.j)).set i {M.freeJ M.leased q.j with gone:=true}):=⟨_,HF.1,by
      rw[List.set_set,List.map_set]
      congr 1
      show(M.Jb.mk _ _ _ _ _ _)=_;rw[Ta.o]
      rfl⟩
     clear C2 ho hg HF;go_wp2;obtain⟨La,Cb,Db⟩:=Bb.o;exact tx (v:=.tuple #[it 0,it 0]) (by simp[results,results95,go_sem]) rfl ⟨rfl,⟨_,_,_,_,_,_,_,_,Cb,Db⟩,Ab.o⟩
 ·
  have Eb:H9 (aP (w.alloc (.cells #[it id] 163)).drew i' h now tj ab nb cb bs ai ni ci mb qs):=Aa.o.below (tv _ _).drew;have Sa:(zeroValue 120).run prog (w.alloc (.cells #[it id] 163)).drew=.ok (.pointer none) (w.alloc (.cells #[it id] 163)).drew:=(by kernel_rfl);have Ea:=(show bN (w.alloc (.cells #[it id] 163)).drew mb (qs.map HJ.ent)from Aa.o.m).miss (P:=prog) (t:=111) underlying111 underlying2 id Sa hlk true;simp only[if_true]at Ea;rw[hat,if_pos (by omega)];clear hlk Sa hat HRt;go_enter func95,ntmps95;(go_wp2_with fail);generalize(w.alloc (.cells #[it id] 163))=wa at *;apply dU
  case f=>
   intro key
   go_region_law (fail)
   all_goals exact key.out
  case h=>
   clear Ea x4 t0 Aa Ga Da;generalize wa.drew=wb at *;go_wp2;exact tx (v:=.tuple #[it 4,it 0]) (by simp[results,results95,go_sem]) rfl ⟨rfl,⟨_,_,_,_,_,_,_,_,Eb.o,rfl⟩,Fa.o⟩
theorem nQ{j:M.Jb}{p:Nat}(h:M.openP j=some p):p<j.ts.length:=by
 unfold M.openP at h
 split at h
 ·simp at h
 ·exact(List.findIdx?_eq_some_iff_getElem.1 h).1
def me(m:M.Mt)(who:Int):Option (Nat×Nat)→M.Mt×Int×Int
 | none=>(m,4,0)
 | some (i,k)=>(⟨m.now,m.next,m.bs,M.setT m.js i k ⟨false,who,m.now+5⟩⟩,0,100*(m.js.getD i M.j0).id+k)
theorem nK(m:M.Mt)(who:Int):M.lease m who=if m.bs.contains who then(m,5,0)else if m.js.any (fun j=>j.ts.any (M.mineT who))then(m,6,0)else me m who (M.place 0 m.js):=by
 unfold M.lease me
 rfl
set_option maxRecDepth 10000 in
theorem qF(who:Int)(w:World)(H:aP w i' h now tj ab nb cb bs ai ni ci mb qs)(HRt:M.Right now tj bs (qs.map (fun q:HJ=>q.j)))(tf:i'≤w.heap.size):
  Calls prog 96 #[.pointer (some ⟨h,0,none⟩),.agg #[.int .i64 who]] w (eT w i' h (M.lease ⟨now,tj,bs,qs.map (fun q:HJ=>q.j)⟩ who)):=by
 have Ub:=HRt.now0;have Vb:=HRt.now1;have Ua:H9 ((qs.map (fun q:HJ=>q.j.id)).Pairwise (·< ·)):=by have:=HRt.rise;rw[List.pairwise_map]at this;exact List.pairwise_map.2 this
 have Gb:H9 (∀k,k<qs.length→0<(qs.getD k cX).j.id∧(qs.getD k cX).j.id<1000000000∧(qs.getD k cX).j.ts.length≤8):=fun k hk=>by
  have hm:(qs.getD k cX).j∈qs.map (fun q:HJ=>q.j):=(by rw[←kS hk];exact M.getD_mem (by simpa using hk));have h1:=HRt.job _ hm;have h2:=HRt.next1;exact⟨h1.1,by omega,(HRt.tasks _ hm).2⟩
 have Hb:qs.length=ni:=H.count;have bn:(ni:Int)≤9223372036854775807:=(by have:=H.i.sees.big;have:=H.i.sees.le;omega);have Wb:(ni:Int)≤ci:=(by have:=H.i.sees.le;omega);have Ea:H9 (Below w.heap.size w (w.alloc (.cells #[it who] 159))):=(tv _ _).alloc (tr _) _;have Ja:=cz w [it who] 159;have Da:H9 (aP (w.alloc (.cells #[it who] 159)) i' h now tj ab nb cb bs ai ni ci mb qs):=H.below Ea.o;have C1:=fX who (w.alloc (.cells #[it who] 159)) Da.o;have C2:=oK who (w.alloc (.cells #[it who] 159)) Da.o Ua.o;clear H HRt;rw[nK];dsimp only;have e:(qs.map (fun q:HJ=>q.j)).any (fun j=>j.ts.any (M.mineT who))=qs.any (fun q=>q.j.ts.any (M.mineT who)):=(by rw[List.any_map];rfl);rw[e];clear e;generalize bs.contains who=ob' at C1 ⊢;generalize qs.any (fun q=>q.j.ts.any (M.mineT who))=oy at *;generalize hR:M.place 0 (qs.map (fun q:HJ=>q.j))=R;have HR:=Hd (hR);clear hR;have t0:(w.alloc (.cells #[it who] 159)).cell? ⟨w.heap.size,0,none⟩=some (it who):=Ja.o.at 0;go_enter func96,ntmps96;(go_wp2_with fail);generalize(w.alloc (.cells #[it who] 159))=wa at *;refine C1.mono ?_;rintro e wz ⟨rfl,Va⟩;have Ib:=Va.symm;clear Va C1;subst Ib;have Ka:=Hd (Ea.o.mono tf);have Wa:i'≤wa.heap.size:=tB tf Ea.o.size
 cases ob' with
 | true=>
  go_wp2;exact tx (v:=.tuple #[it 5,it 0]) (by simp[results,results96,go_sem]) rfl ⟨rfl,⟨_,_,_,_,_,_,_,_,Da.o,rfl⟩,Ka.o⟩
 | false=>
  (go_wp2_with fail);refine C2.mono ?_;rintro e wb ⟨rfl,hb⟩;have Xa:=Hd (Ja.o.belowS hb);have Fa:=Hd (Da.o.below hb);have La:H9 (Below i' w wb):=Ka.o.trans (hb.mono Wa);clear hb Ja Da Ea Ka C2 t0 Wa
  cases oy with
  | true=>
   go_wp2;exact tx (v:=.tuple #[it 6,it 0]) (by simp[results,results96,go_sem]) rfl ⟨rfl,⟨_,_,_,_,_,_,_,_,Fa.o,rfl⟩,La.o⟩
  | false=>
   have x3:wb.cell? ⟨h,3,none⟩=some (.slice ai ni ci):=Fa.o.l.at 3;(go_wp2_with fail);clear x3
   go_loopw [23] (fun i wr=>∃k:Nat,k≤ni∧i=it k∧M.place k ((qs.drop k).map (fun q:HJ=>q.j))=R∧aP wr i' h now tj ab nb cb bs ai ni ci mb qs∧ae wr w.heap.size [it who]∧Below i' w wr) (fun i _=>ni-(intOf i).toNat)
   case atStart=>exact⟨0,by omega,rfl,HR.o,Fa.o,Xa.o,La.o⟩
   case round=>
    clear Fa Xa La HR;obtain⟨k,hk,rfl,hg,hh,ht,Ga⟩:=hrel;have Na:i'≤wr.heap.size:=tB tf Ga.size;have HT:=Hd (ht);have HB:=Hd (Ga);by_cases Ya:k<ni
    ·
     obtain⟨b1,o1,rfl,Za⟩:=hh.i.sees.at (by omega);have c1:=Za k Ya;rw[lx (by omega)]at c1;obtain⟨q,hq⟩:∃q,qs.getD k cX=q:=⟨_,rfl⟩;have Ab:=Gb.o k (by omega)
     have hG:(match M.openP q.j with | some p=>some (k,p) | none=>M.place (k+1) ((qs.drop (k+1)).map (fun q:HJ=>q.j)))=R:=by
      rw[←hg,aQ cX Hb Ya,hq];rfl
     have Bb:H9 ((qs.map (fun q:HJ=>q.j)).getD k M.j0=q.j):=(by show _=_;rw[←hq];exact kS (by omega));rw[hq]at c1 Ab;have HA:H9 (bp wr i' h now tj ab nb cb bs (some ⟨b1,o1,none⟩) ni ci mb qs k q):=⟨hh,by omega,hq⟩;have Oa:=hh.m.get (P:=prog) (t:=111) underlying111 underlying2 _ _ (HA.o.look Ua.o) false;simp only[Bool.false_eq_true,if_false]at Oa;have h3:wr.cell? ⟨h,3,none⟩=some (.slice (some ⟨b1,o1,none⟩) ni ci):=hh.l.at 3;have h4:wr.cell? ⟨h,4,none⟩=some (.map (some mb)):=hh.l.at 4;have C3:=kr wr HA.o.lies HA.o.owns;have Aa:=nP q.j;generalize gO q.j=oi at C3 Aa;generalize Cb:q.j.id=qi at c1 Oa Ab;have Jb:H9 (q.j.id=qi):=Cb;have hI:(k:Int)<(ni:Int):=(by omega);clear Za hg hh ht Ga hq Cb;have HG:=Hd (hG);have Ca:=Hd (Aa);clear hG Aa;(go_wp2_with fail);refine C3.mono ?_;rintro e w2 ⟨rfl,hb⟩;have Ba:=Hd (HA.o.below hb);have Pa:=Hd (HT.o.belowS hb);have Qa:H9 (Below i' w w2):=HB.o.trans (hb.mono Na);have Kb:i'≤w2.heap.size:=tB Na hb.size;clear hb HA HT HB Na C3 c1 h3 h4 Oa
     cases Aa:M.openP q.j with
     | none=>
      rw[Aa]at HG Ca;have Lb:=Hd (HG.o);have Ra:oi=-1:=Ca.o;clear Aa HG Ca;subst Ra;go_wp2;go_roundw
      case rel=>exact⟨k+1,by omega,by go_num,Lb.o,Ba.o.1,Pa.o,Qa.o⟩
      case measure=>simp[intOf];omega
     | some p=>
      rw[Aa]at HG Ca;have hR:some (k,p)=R:=HG.o;have Ra:oi=(p:Int):=Ca.o;have Ha:=nQ Aa;clear Aa HG Ca;subst Ra;subst hR;have hO:=Ba.o.owns;obtain⟨g,Ia⟩:=hO.block (by omega);have Db:w2.cell? ⟨q.b,17,none⟩=some (.slice q.a q.j.ts.length q.c):=Ba.o.lies.at 17;rw[Ia]at hO Db;have x0:w2.cell? ⟨h,0,none⟩=some (it now):=Ba.o.1.l.at 0;have t0:=Pa.o.c 0;have y0:=hO.cells Ha (j:=0) (by omega);have y1:=hO.cells Ha (j:=1) (by omega);have y2:=hO.cells Ha (j:=2) (by omega);have Eb:=hO.2.frozenAt (p*3+0);have Nb:=hO.2.frozenAt (p*3+1);have Ob:=hO.2.frozenAt (p*3+2);rw[Nat.add_zero]at y0 Eb;generalize q.j.ts.getD p M.t0=zz at y0 y1 y2;obtain⟨z1,z2,z3⟩:=zz;simp only[bO,List.getElem?_cons_zero,List.getElem?_cons_succ]at y0 y1 y2;obtain⟨Fb,Sa⟩:=hO.put Ha ⟨false,who,now+5⟩;have Pb:g∈ob q.a:=(by rw[Ia];simp[ob]);have HF:=(Ba.o.tasks (n:=0) (c:=0) (ts:=q.j.ts.set p ⟨false,who,now+5⟩) (by rw[List.length_set]) (by rw[Ia];exact Sa) (by rw[List.length_set,Ia];exact Fb)).below (tv _ _).drew;have Qb:H9 (Below i' w (w2.setCells g (p*3) (bO ⟨false,who,now+5⟩)).drew):=(Qa.o.trans (ac Sa Kb (fun z e=>by rw[←tm e];exact(Ba.o.apart.1 g Pb).1))).drew
      have Rb:H9 (∃Ta,aP (w2.setCells g (p*3) (bO ⟨false,who,now+5⟩)).drew i' h now tj ab nb cb bs (some ⟨b1,o1,none⟩) ni ci mb Ta∧Ta.map (fun q:HJ=>q.j)=M.setT (qs.map (fun q:HJ=>q.j)) k p ⟨false,who,now+5⟩):=⟨_,HF.1,by
       rw[List.map_set];unfold M.setT;rw[Bb.o]⟩
      have Xb:(p:Int)<(q.j.ts.length:Int):=(by omega);have Yb:(0:Int)≤(p:Int):=(by omega);have Zb:IntKind.i64.wrap (p:Int)=p:=(by rw[tW];have:=hO.sees.big;have:=hO.sees.le;omega);have Ac:(q.j.ts.length:Int)≤q.c:=(by have:=hO.sees.le;omega);have Bc:IntKind.i64.wrap (now+5)=now+5:=by rw[tW];omega
      have Cc:H9 (IntKind.i64.wrap (IntKind.i64.wrap (100*qi)+(p:Int))=100*qi+p):=by
       have h8:(p:Int)<9000000000000:=(by omega);show _=_;rw[tW,tW];omega
      clear hO Fb Sa HF Ba Pa Qa;(go_wp2_with fail);apply dU
      case f=>
       intro key
       go_region_law (fail)
       all_goals exact key.out
      case h=>
       clear Db x0 t0 y0 y1 y2 Eb Nb Ob;go_wp2;obtain⟨Ta,Sb,Tb⟩:=Rb.o;exact tx (v:=.tuple #[it 0,it (100*qi+(p:Int))]) (by simp[results,results96,go_sem]) rfl ⟨by rw[←Jb.o,←Bb.o];rfl,⟨_,_,_,_,_,_,_,_,Sb,Tb⟩,Qb.o⟩
    ·
     have hR:none=R:=by
      rw[tC (by omega)]at hg;exact hg
     have HH:=Hd (hh);clear hg hh ht Ga;subst hR;go_wp2;exact tx (v:=.tuple #[it 4,it 0]) (by simp[results,results96,go_sem]) rfl ⟨rfl,⟨_,_,_,_,_,_,_,_,HH.o,rfl⟩,HB.o⟩
theorem ix(s':Int)(w:World):Rt 324 #[.agg #[.int .i64 s']] w (.bool (M.inB s' 1 1000000000)):=by
 have C1:=cv s' 1 1000000000;unfold M.inB;generalize(decide (1≤s')&&decide (s'≤1000000000))=o at *;have HB:H9 (Below w.heap.size w (w.alloc (.cells #[it s'] 115))):=(tv _ _).alloc (tr _) _;go_enter func324,ntmps324;(go_wp2_with fail);refine(C1 _).mono ?_;rintro e wz ⟨rfl,Aa⟩;have Ba:=Aa.symm;clear Aa;subst Ba;go_wp2;go_ret;exact⟨rfl,HB.o⟩
theorem gk(id:Int)(w:World):Rt 328 #[.agg #[.int .i64 id]] w (.bool (M.inB id 1 1000000000)):=by
 have C1:=cv id 1 1000000000;unfold M.inB;generalize(decide (1≤id)&&decide (id≤1000000000))=o at *;have HB:H9 (Below w.heap.size w (w.alloc (.cells #[it id] 163))):=(tv _ _).alloc (tr _) _;go_enter func328,ntmps328;(go_wp2_with fail);refine(C1 _).mono ?_;rintro e wz ⟨rfl,Aa⟩;have Ba:=Aa.symm;clear Aa;subst Ba;go_wp2;go_ret;exact⟨rfl,HB.o⟩
theorem gX(who:Int)(w:World):Rt 326 #[.agg #[.int .i64 who]] w (.bool (M.wkOk who)):=by
 have C1:=d7 who
 skip
 generalize M.wkOk who=o at *;have HB:H9 (Below w.heap.size w (w.alloc (.cells #[it who] 159))):=(tv _ _).alloc (tr _) _;go_enter func326,ntmps326;(go_wp2_with fail);refine(C1 _).mono ?_;rintro e wz ⟨rfl,Aa⟩;have Ba:=Aa.symm;clear Aa;subst Ba;go_wp2;go_ret;exact⟨rfl,HB.o⟩
theorem gt{a1 a2 a3 a4:Option Addr}{n1 n2 n3 n4 c1 c2 c3 c4:Nat}(who id p' p1 p2 p3 p4:Int)(w:World):Rt 327 #[.agg #[.int .i64 who,.int .i64 id,.int .i64 p',.int .i64 p1,.int .i64 p2,.int .i64 p3,.int .i64 p4,.slice a1 n1 c1,.slice a2 n2 c2,.slice a3 n3 c3,.slice a4 n4 c4]] w (.bool (M.wkOk who&&(M.inB id 1 1000000000&&M.inB p' 0 7))):=by
 have C1:=d7 who;have C2:=cv id 1 1000000000;have C3:=cv p' 0 7;unfold M.inB;generalize M.wkOk who=o1 at *;generalize(decide (1≤id)&&decide (id≤1000000000))=o2 at *;generalize(decide (0≤p')&&decide (p'≤7))=o3 at *;have HB:H9 (Below w.heap.size w (w.alloc (.cells (bW who id p' p1 p2 p3 p4 a1 n1 c1 a2 n2 c2 a3 n3 c3 a4 n4 c4).toArray 161))):=(tv _ _).alloc (tr _) _;have HL:=cz w (bW who id p' p1 p2 p3 p4 a1 n1 c1 a2 n2 c2 a3 n3 c3 a4 n4 c4) 161;go_enter func327,ntmps327;(go_wp2_with fail);generalize(w.alloc (.cells (bW who id p' p1 p2 p3 p4 a1 n1 c1 a2 n2 c2 a3 n3 c3 a4 n4 c4).toArray 161))=wa at *;refine(C1 _).mono ?_;rintro e wz ⟨rfl,Aa⟩;have Ba:=Aa.symm;clear Aa;subst Ba;have x1:=HL.o.c 1;have x2:=HL.o.c 2
 cases o1 with
 | false=>
  go_wp2;go_ret;exact⟨rfl,HB.o⟩
 | true=>
  (go_wp2_with fail);refine(C2 _).mono ?_;rintro e wz ⟨rfl,Aa⟩;have Ba:=Aa.symm;clear Aa;subst Ba
  cases o2 with
  | false=>
   go_wp2;go_ret;exact⟨rfl,HB.o⟩
  | true=>
   (go_wp2_with fail);refine(C3 _).mono ?_;rintro e wz ⟨rfl,Aa⟩;have Ba:=Aa.symm;clear Aa;subst Ba;go_wp2;go_ret;exact⟨by simp,HB.o⟩
set_option maxRecDepth 10000 in
theorem gu(m0 m1 m2 m3 m4 m5 m6 m7 m8 m9 m10 m11 s1 s2 rows s':Int)(w:World):Rt 325 #[.agg #[.int .i64 m0,.int .i64 m1,.int .i64 m2,.int .i64 m3,.int .i64 m4,.int .i64 m5,.int .i64 m6,.int .i64 m7,.int .i64 m8,.int .i64 m9,.int .i64 m10,.int .i64 m11,.int .i64 s1,.int .i64 s2,.int .i64 rows,.int .i64 s']] w (.bool (M.Mc.ok ⟨⟨m0,m1,m2,m3,m4,m5⟩,⟨m6,m7,m8,m9,m10,m11⟩⟩&&(M.sOk (s1,s2)&&(M.rows rows&&M.inB s' 1 8)))):=by
 have C1:=et ⟨⟨m0,m1,m2,m3,m4,m5⟩,⟨m6,m7,m8,m9,m10,m11⟩⟩;have C2:=dj (s1,s2);have C3:=gF rows;have C4:=cv s' 1 8;unfold M.inB;dsimp only[cQ,cC]at C1 C2;generalize M.Mc.ok ⟨⟨m0,m1,m2,m3,m4,m5⟩,⟨m6,m7,m8,m9,m10,m11⟩⟩=o1 at *;generalize M.sOk (s1,s2)=o2 at *;generalize M.rows rows=o3 at *;generalize(decide (1≤s')&&decide (s'≤8))=o4 at *;have HB:H9 (Below w.heap.size w (w.alloc (.cells (dY m0 m1 m2 m3 m4 m5 m6 m7 m8 m9 m10 m11 s1 s2 rows s').toArray 157))):=(tv _ _).alloc (tr _) _;have HL:=cz w (dY m0 m1 m2 m3 m4 m5 m6 m7 m8 m9 m10 m11 s1 s2 rows s') 157;go_enter func325,ntmps325;(go_wp2_with fail);generalize(w.alloc (.cells (dY m0 m1 m2 m3 m4 m5 m6 m7 m8 m9 m10 m11 s1 s2 rows s').toArray 157))=wa at *;refine(C1 _).mono ?_;rintro e wb ⟨rfl,hb⟩;have Ba:=Hd (HL.o.belowS hb);have Ca:=Hd (HB.o.trans (hb.mono HB.o.size));clear hb HL HB;have Ga:=Ba.o.c 12;have Ha:=Ba.o.c 13
 cases o1 with
 | false=>
  go_wp2;go_ret;exact⟨rfl,Ca.o⟩
 | true=>
  (go_wp2_with fail);refine(C2 _).mono ?_;rintro e wc ⟨rfl,hb⟩;have Fa:=Hd (Ba.o.belowS hb);have Da:=Hd (Ca.o.trans (hb.mono Ca.o.size));clear hb Ba Ca Ga Ha;have Ia:=Fa.o.c 14;have Ja:=Fa.o.c 15
  cases o2 with
  | false=>
   go_wp2;go_ret;exact⟨rfl,Da.o⟩
  | true=>
   (go_wp2_with fail);refine(C3 _).mono ?_;rintro e wz ⟨rfl,Aa⟩;have Ea:=Aa.symm;clear Aa;subst Ea
   cases o3 with
   | false=>
    go_wp2;go_ret;exact⟨rfl,Da.o⟩
   | true=>
    (go_wp2_with fail);refine(C4 _).mono ?_;rintro e wz ⟨rfl,Aa⟩;have Ea:=Aa.symm;clear Aa;subst Ea;go_wp2;go_ret;exact⟨by simp,Da.o⟩
end Go.Proofs.YtjcjonncaknhnaaGreatDoor
