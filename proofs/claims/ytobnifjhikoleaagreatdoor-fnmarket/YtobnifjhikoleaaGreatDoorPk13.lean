import Derived.Test.YtobnifjhikoleaaGreatDoorPk11
import Derived.Test.YtobnifjhikoleaaGreatDoorPk12
namespace Go.Proofs.YtobnifjhikoleaaGreatDoor
open Go.RowKit Go.Proofs.Tryz
set_option linter.unusedSimpArgs false
set_option maxHeartbeats 32000000
set_option maxRecDepth 10000
variable {N n1 n2 n3 n4 c1 c2 c3 c4 n c d:Nat}{w w':World}{aL aN aG aE aR:Addr}{a1 a2 a3 a4 a b:Option Addr}{z1 z2 z3 z4 zs ms:List Int}{m:M.Mc}{ok:Bool}{p:M.Pf}
section
open Go.Extern.Stop Go.Stop Go.Extern
theorem fC{z:List Int}(h:M.rowsN N=true)(hl:z.length=4*N)(ha:M.allEl z=true):jR z 3 (N:Int)=M.lenOk z N:=by
 have h1:=M.frOk_wide h hl ha;unfold jR jV M.lenOk;rw[h1];simp
structure EnvX(w:World)(aL aN aG aE aR:Addr):Prop where
 env:Env w aL aN
 cG:w.cell? ⟨3,0,none⟩=some (.iface 293 (.pointer (some aG)))
 cE:w.cell? ⟨4,0,none⟩=some (.iface 293 (.pointer (some aE)))
 cR:w.cell? ⟨5,0,none⟩=some (.iface 293 (.pointer (some aR)))
theorem EnvX.below(h:EnvX w aL aN aG aE aR)(hb:m1 w w'):EnvX w' aL aN aG aE aR where
 env:=h.env.below hb
 cG:=(hb.cell (p:=⟨3,0,none⟩) (vh w _ h.cG)).trans h.cG
 cE:=(hb.cell (p:=⟨4,0,none⟩) (vh w _ h.cE)).trans h.cE
 cR:=(hb.cell (p:=⟨5,0,none⟩) (vh w _ h.cR)).trans h.cR
def FP(ok:Bool)(e:Ending):Prop:=(ok=true∧e=.returned .nilIface)∨(ok=false∧∃s p a,e=.returned (iB s p a))
theorem FP.no{e:Ending}(h:∃s p a,e=.returned (iB s p a)):FP false e:=.inr ⟨rfl,h⟩
theorem jM(s1 s2 e1 e2:Int)(N:Nat)(w:World)(h:M.rowsN N=true)(he:EnvX w aL aN aG aE aR)(h1:aw w a1 n1 c1 z1)(h2:aw w a2 n2 c2 z2)(h3:aw w a3 n3 c3 z3)(h4:aw w a4 n4 c4 z4)(ha1:M.allEl z1=true)(ha2:M.allEl z2=true)(ha3:M.allEl z3=true)(ha4:M.allEl z4=true)(l1:z1.length=4*N)(l2:z2.length=4*N)(l3:z3.length=4*N)(l4:z4.length=4*N):
  Calls prog 107 #[kP N,.agg #[.int .i64 s1,.int .i64 s2,.int .i64 e1,.int .i64 e2,.slice a1 n1 c1,.slice a2 n2 c2,.slice a3 n3 c3,.slice a4 n4 c4]] w fun e w'=>FP (M.lenOk z1 N&&(M.lenOk z2 N&&(M.lenOk z3 N&&M.lenOk z4 N))) e∧m1 w w':=by
 have Ta:(N:Int)≤16:=(by have:=M.rowsN_pos h;omega);have q1:=fC h l1 ha1;have q2:=fC h l2 ha2;have q3:=fC h l3 ha3;have q4:=fC h l4 ha4;have H1:=Hd h1;have H2:=Hd h2;have H3:=Hd h3;have H4:=Hd h4;have Pa:H9 (au ((w.alloc (.cells (cF (N:Int) (M.root (N:Int)) (4*(N:Int)) (M.root (4*(N:Int))) (M.lst N)).toArray 127)).alloc (.cells (bi s1 s2 e1 e2 a1 n1 c1 a2 n2 c2 a3 n3 c3 a4 n4 c4).toArray 35)) w.heap.size (cF (N:Int) (M.root (N:Int)) (4*(N:Int)) (M.root (4*(N:Int))) (M.lst N))):=(aM _ _ _).alloc _;have Na:H9 (m1 w ((w.alloc (.cells (cF (N:Int) (M.root (N:Int)) (4*(N:Int)) (M.root (4*(N:Int))) (M.lst N)).toArray 127)).alloc (.cells (bi s1 s2 e1 e2 a1 n1 c1 a2 n2 c2 a3 n3 c3 a4 n4 c4).toArray 35))):=((m5 _ _).alloc (m3 _) _).alloc (by simp) _;have Qa:=Hd (he.below Na.o);have CL:=jz (a1:=a1) (a2:=a2) (a3:=a3) (a4:=a4) (n1:=n1) (n2:=n2) (n3:=n3) (n4:=n4) (c1:=c1) (c2:=c2) (c3:=c3) (c4:=c4) s1 s2 e1 e2;clear he h1 h2 h3 h4 ha1 ha2 ha3 ha4 l1 l2 l3 l4;have Q1:=Hd q1;have Q2:=Hd q2;have Q3:=Hd q3;have Q4:=Hd q4;clear q1 q2 q3 q4;generalize M.lenOk z1 N=o1 at *;generalize M.lenOk z2 N=o2 at *;generalize M.lenOk z3 N=o3 at *;generalize M.lenOk z4 N=o4 at *;unfold kP;go_enter func107,ntmps107;(go_wp2_with fail);refine(CL _).mono ?_;rintro e w2 ⟨g,rfl,Ra,Oa⟩;have HF:=Pa.b Oa;have Ba:=Hd Ra;have HB:=Na.t Oa;have HE:=Hd (Qa.o.below Oa);clear Ra Oa Pa Na Qa CL;go_wp2;refine wp_loop_rounds 5 ?_;have x0:=Ba.c 0;have x1:=Ba.c 1;have Ea:H9 (au (w2.alloc (.cells #[.string {data:=#[88]},.slice a1 n1 c1] 213)) w.heap.size (cF (N:Int) (M.root (N:Int)) (4*(N:Int)) (M.root (4*(N:Int))) (M.lst N))):=HF.o.alloc _;have Ka:H9 (au (w2.alloc (.cells #[.string {data:=#[88]},.slice a1 n1 c1] 213)) g [.string {data:=#[88]},.slice a1 n1 c1,.string {data:=#[89]},.slice a2 n2 c2,.string {data:=#[81,88]},.slice a3 n3 c3,.string {data:=#[81,89]},.slice a4 n4 c4]):=Ba.o.alloc _;have Aa:H9 (m1 w (w2.alloc (.cells #[.string {data:=#[88]},.slice a1 n1 c1] 213))):=HB.o.alloc HB.o.size _;have Fa:H9 (EnvX (w2.alloc (.cells #[.string {data:=#[88]},.slice a1 n1 c1] 213)) aL aN aG aE aR):=HE.o.below ((m5 _ _).alloc (m3 _) _);have Ca:=cC w2 [.string {data:=#[88]},.slice a1 n1 c1] 213;have f0:(w2.alloc (.cells #[.string {data:=#[88]},.slice a1 n1 c1] 213)).cell? ⟨w.heap.size,0,none⟩=some (it (N:Int)):=Ea.o.at 0;have Da:=dQ 3 (N:Int) (w2.alloc (.cells #[.string {data:=#[88]},.slice a1 n1 c1] 213)) (H1.o.below Aa.o);rw[Q1.o]at Da;rw[rounds_succ];(go_wp2_with fail);refine Da.mono ?_;rintro e Ha ⟨rfl,hb⟩;generalize(w2.alloc (.cells #[.string {data:=#[88]},.slice a1 n1 c1] 213))=wv at *;generalize w2.heap.size=vb at Ca ⊢;clear x0 x1 HF Ba HB HE Da f0;have HF:=Ea.b hb;have Ba:=Ka.b hb;have HB:=Aa.t hb;have HE:=Hd (Fa.o.below hb);have y0:Ha.cell? ⟨vb,0,none⟩=some (.string {data:=#[88]}):=(Ca.o.belowS hb).at 0;clear hb Ea Ka Aa Fa Ca
 cases o1 with
 | false=>
  have gG:=HE.o.cG;(go_wp2_with fail);refine(bJ _ aG _ HE.o.env).mono ?_;rintro e w9 ⟨rfl,Ga⟩;have La:=HB.t Ga;clear Ga;go_wp2;go_ret;exact⟨.inr ⟨by simp,_,_,_,rfl⟩,La.o⟩
 | true=>
 clear y0;go_wp2;have x0:=Ba.c 2;have x1:=Ba.c 3;have Ea:H9 (au (Ha.alloc (.cells #[.string {data:=#[89]},.slice a2 n2 c2] 213)) w.heap.size (cF (N:Int) (M.root (N:Int)) (4*(N:Int)) (M.root (4*(N:Int))) (M.lst N))):=HF.o.alloc _;have Ka:H9 (au (Ha.alloc (.cells #[.string {data:=#[89]},.slice a2 n2 c2] 213)) g [.string {data:=#[88]},.slice a1 n1 c1,.string {data:=#[89]},.slice a2 n2 c2,.string {data:=#[81,88]},.slice a3 n3 c3,.string {data:=#[81,89]},.slice a4 n4 c4]):=Ba.o.alloc _;have Aa:H9 (m1 w (Ha.alloc (.cells #[.string {data:=#[89]},.slice a2 n2 c2] 213))):=HB.o.alloc HB.o.size _;have Fa:H9 (EnvX (Ha.alloc (.cells #[.string {data:=#[89]},.slice a2 n2 c2] 213)) aL aN aG aE aR):=HE.o.below ((m5 _ _).alloc (m3 _) _);have Ca:=cC Ha [.string {data:=#[89]},.slice a2 n2 c2] 213;have f0:(Ha.alloc (.cells #[.string {data:=#[89]},.slice a2 n2 c2] 213)).cell? ⟨w.heap.size,0,none⟩=some (it (N:Int)):=Ea.o.at 0;have Da:=dQ 3 (N:Int) (Ha.alloc (.cells #[.string {data:=#[89]},.slice a2 n2 c2] 213)) (H2.o.below Aa.o);rw[Q2.o]at Da;rw[rounds_succ];(go_wp2_with fail);refine Da.mono ?_;rintro e Ia ⟨rfl,hb⟩;generalize(Ha.alloc (.cells #[.string {data:=#[89]},.slice a2 n2 c2] 213))=wv at *;generalize Ha.heap.size=vb at Ca ⊢;clear x0 x1 HF Ba HB HE Da f0;have HF:=Ea.b hb;have Ba:=Ka.b hb;have HB:=Aa.t hb;have HE:=Hd (Fa.o.below hb);have y0:Ia.cell? ⟨vb,0,none⟩=some (.string {data:=#[89]}):=(Ca.o.belowS hb).at 0;clear hb Ea Ka Aa Fa Ca
 cases o2 with
 | false=>
  have gG:=HE.o.cG;(go_wp2_with fail);refine(bJ _ aG _ HE.o.env).mono ?_;rintro e w9 ⟨rfl,Ga⟩;have La:=HB.t Ga;clear Ga;go_wp2;go_ret;exact⟨.inr ⟨by simp,_,_,_,rfl⟩,La.o⟩
 | true=>
 clear y0;go_wp2;have x0:=Ba.c 4;have x1:=Ba.c 5;have Ea:H9 (au (Ia.alloc (.cells #[.string {data:=#[81,88]},.slice a3 n3 c3] 213)) w.heap.size (cF (N:Int) (M.root (N:Int)) (4*(N:Int)) (M.root (4*(N:Int))) (M.lst N))):=HF.o.alloc _;have Ka:H9 (au (Ia.alloc (.cells #[.string {data:=#[81,88]},.slice a3 n3 c3] 213)) g [.string {data:=#[88]},.slice a1 n1 c1,.string {data:=#[89]},.slice a2 n2 c2,.string {data:=#[81,88]},.slice a3 n3 c3,.string {data:=#[81,89]},.slice a4 n4 c4]):=Ba.o.alloc _;have Aa:H9 (m1 w (Ia.alloc (.cells #[.string {data:=#[81,88]},.slice a3 n3 c3] 213))):=HB.o.alloc HB.o.size _;have Fa:H9 (EnvX (Ia.alloc (.cells #[.string {data:=#[81,88]},.slice a3 n3 c3] 213)) aL aN aG aE aR):=HE.o.below ((m5 _ _).alloc (m3 _) _);have Ca:=cC Ia [.string {data:=#[81,88]},.slice a3 n3 c3] 213;have f0:(Ia.alloc (.cells #[.string {data:=#[81,88]},.slice a3 n3 c3] 213)).cell? ⟨w.heap.size,0,none⟩=some (it (N:Int)):=Ea.o.at 0;have Da:=dQ 3 (N:Int) (Ia.alloc (.cells #[.string {data:=#[81,88]},.slice a3 n3 c3] 213)) (H3.o.below Aa.o);rw[Q3.o]at Da;rw[rounds_succ];(go_wp2_with fail);refine Da.mono ?_;rintro e Ja ⟨rfl,hb⟩;generalize(Ia.alloc (.cells #[.string {data:=#[81,88]},.slice a3 n3 c3] 213))=wv at *;generalize Ia.heap.size=vb at Ca ⊢;clear x0 x1 HF Ba HB HE Da f0;have HF:=Ea.b hb;have Ba:=Ka.b hb;have HB:=Aa.t hb;have HE:=Hd (Fa.o.below hb);have y0:Ja.cell? ⟨vb,0,none⟩=some (.string {data:=#[81,88]}):=(Ca.o.belowS hb).at 0;clear hb Ea Ka Aa Fa Ca
 cases o3 with
 | false=>
  have gG:=HE.o.cG;(go_wp2_with fail);refine(bJ _ aG _ HE.o.env).mono ?_;rintro e w9 ⟨rfl,Ga⟩;have La:=HB.t Ga;clear Ga;go_wp2;go_ret;exact⟨.inr ⟨by simp,_,_,_,rfl⟩,La.o⟩
 | true=>
 clear y0;go_wp2;have x0:=Ba.c 6;have x1:=Ba.c 7;have Ea:H9 (au (Ja.alloc (.cells #[.string {data:=#[81,89]},.slice a4 n4 c4] 213)) w.heap.size (cF (N:Int) (M.root (N:Int)) (4*(N:Int)) (M.root (4*(N:Int))) (M.lst N))):=HF.o.alloc _;have Aa:H9 (m1 w (Ja.alloc (.cells #[.string {data:=#[81,89]},.slice a4 n4 c4] 213))):=HB.o.alloc HB.o.size _;have Fa:H9 (EnvX (Ja.alloc (.cells #[.string {data:=#[81,89]},.slice a4 n4 c4] 213)) aL aN aG aE aR):=HE.o.below ((m5 _ _).alloc (m3 _) _);have Ca:=cC Ja [.string {data:=#[81,89]},.slice a4 n4 c4] 213;have f0:(Ja.alloc (.cells #[.string {data:=#[81,89]},.slice a4 n4 c4] 213)).cell? ⟨w.heap.size,0,none⟩=some (it (N:Int)):=Ea.o.at 0;have Da:=dQ 3 (N:Int) (Ja.alloc (.cells #[.string {data:=#[81,89]},.slice a4 n4 c4] 213)) (H4.o.below Aa.o);rw[Q4.o]at Da;rw[rounds_succ];(go_wp2_with fail);refine Da.mono ?_;rintro e Sa ⟨rfl,hb⟩;generalize(Ja.alloc (.cells #[.string {data:=#[81,89]},.slice a4 n4 c4] 213))=wv at *;generalize Ja.heap.size=vb at Ca ⊢;clear x0 x1 HF Ba HB HE Da f0;have HB:=Aa.t hb;have HE:=Hd (Fa.o.below hb);have y0:Sa.cell? ⟨vb,0,none⟩=some (.string {data:=#[81,89]}):=(Ca.o.belowS hb).at 0;clear hb Ea Aa Fa Ca
 cases o4 with
 | false=>
  have gG:=HE.o.cG;(go_wp2_with fail);refine(bJ _ aG _ HE.o.env).mono ?_;rintro e w9 ⟨rfl,Ga⟩;have La:=HB.t Ga;clear Ga;go_wp2;go_ret;exact⟨.inr ⟨by simp,_,_,_,rfl⟩,La.o⟩
 | true=>
 clear y0;go_wp2;rw[rounds_succ];go_wp2;go_ret;exact⟨.inl ⟨rfl,rfl⟩,HB.o⟩
def gJ(zs ms:List Int)(N k:Nat):Bool:=(List.range k).all fun i=>zs.getD i 0*M.zer N i%65537==ms.getD i 0
theorem rR(zs ms:List Int)(N k:Nat):gJ zs ms N (k+1)=(gJ zs ms N k&&(zs.getD k 0*M.zer N k%65537==ms.getD k 0)):=by
 unfold gJ;rw[List.range_succ,List.all_append];simp
theorem tD{k:Nat}(hk:k<n)(h:(zs.getD k 0*M.zer N k%65537==ms.getD k 0)=false):gJ zs ms N n=false:=by
 cases e:gJ zs ms N n with
 | false=>rfl
 | true=>
  unfold gJ at e;have:=List.all_eq_true.1 e k (List.mem_range.2 hk);rw[h]at this;cases this
theorem eV(N:Nat)(w:World)(h:M.rowsN N=true)(he:EnvX w aL aN aG aE aR)(hz:aw w a (4*N) c zs)(hm:aw w b (4*N) d ms)(az:M.allEl zs=true):
  Calls prog 112 #[kP N,.slice a (4*N) c,.slice b (4*N) d] w fun e w'=>FP (gJ zs ms N (4*N)) e∧m1 w w':=by
 have Za:=M.rowsN_pos h;obtain⟨K,hK⟩:∃K:Nat,K=4*N:=⟨_,rfl⟩;have Ka:4*(N:Int)=(K:Int):=(by omega);have CZ:=fun W=>sD N W h;have CT:H9 (∀i W,Rq 148 #[it (zs.getD i 0),it (M.zer N i)] W (it (zs.getD i 0*M.zer N i%65537))):=fun i W=>bY _ _ W (M.el_at az i).1 (M.el_at az i).2 (M.zer_bd N i).1 (M.zer_bd N i).2;have HT:H9 (∀k,k<K→(M.tab K (M.zer N)).getD k 0=M.zer N k):=fun k hk=>M.tab_get _ _ _ hk;have Ta:H9 (gJ zs ms N 0=true):=rfl;have Ua:H9 (∀k,gJ zs ms N k=true→(zs.getD k 0*M.zer N k%65537==ms.getD k 0)=true→gJ zs ms N (k+1)=true):=fun k h1 h2=>by rw[rR,h1,h2];rfl
 have Va:H9 (∀k,k<K→(zs.getD k 0*M.zer N k%65537==ms.getD k 0)=false→gJ zs ms N K=false):=fun k h1 h2=>tD h1 h2;unfold kP at CZ ⊢;rw[Ka,←hK]at CZ ⊢;rw[←hK]at hz hm;have Ab:K≤64:=(by omega);generalize M.tab K (M.zer N)=G at CZ HT;generalize M.root (N:Int)=R1 at *;generalize M.root (K:Int)=R4 at *;generalize M.lst N=la at *;have Fa:H9 (m1 w (w.alloc (.cells (cF (N:Int) R1 (K:Int) R4 la).toArray 127))):=(m5 _ _).alloc (m3 _) _;have La:=Hd hz;have Na:=Hd hm;have Oa:=Hd he;clear hz hm he az h hK Ka;go_enter func112,ntmps112;(go_wp2_with fail);refine(CZ _).mono ?_;rintro e w1 ⟨za,zc,rfl,ho,hb⟩;have HO:=Hd ho.sees;have HB:=Fa.t hb;have HZ:=Hd (La.o.below HB.o);have HM:=Hd (Na.o.below HB.o);have HE:=Hd (Oa.o.below HB.o);clear ho hb Fa La Na Oa CZ;go_wp2
 go_loopw [12] (fun i wr=>∃k:Nat,k≤K∧i=it k∧m1 w1 wr∧gJ zs ms N k=true) (fun i _=>K-(intOf i).toNat)
 case atStart=>exact⟨0,by omega,rfl,m5 _ _,Ta.o⟩
 case round=>
  obtain⟨k,hk,rfl,Ga,hq⟩:=hrel;have HQ:=Hd hq;have Ba:=Hd Ga;have Ha:=HB.t Ga;clear hq Ga;by_cases Ca:k<K
  ·
   obtain⟨b1,o1,rfl,Pa⟩:=(HO.o.below Ba.o).at (by omega);obtain⟨b2,o2,rfl,Qa⟩:=(HZ.o.below Ba.o).at (by omega);obtain⟨b3,o3,rfl,Ra⟩:=(HM.o.below Ba.o).at (by omega);have r1:=Pa k Ca;have r2:=Qa k Ca;have r3:=Ra k Ca;rw[HT.o k Ca]at r1;have hI:(k:Int)<(K:Int):=(by omega);have Bb:(0:Int)≤(k:Int):=(by omega);have C1:=CT.o k;have Da:=Ua.o k;have Ea:=Va.o k Ca;generalize zs.getD k 0*M.zer N k%65537=pr at C1 Da Ea;generalize zs.getD k 0=zk at r2 C1;generalize M.zer N k=ek at r1 C1;generalize ms.getD k 0=mk at r3 Da Ea;have R2:=Hd r2;have R3:=Hd r3;have HS1':H9 _:=Da;have HS2':H9 _:=Ea;clear Pa Qa Ra r2 r3 Da Ea;(go_wp2_with fail);refine cH wr none (by kernel_rfl) fun hHeld=>?_;generalize wr.drew=Cb at *;refine tk 0 (.slice (some ⟨b2,o2,none⟩) K c) ?_ ?_
   ·intro wq Aa;go_simp
   refine tk 1 (it (k:Int)) ?_ ?_
   ·intro wq Aa;go_simp
   refine tk 2 (.pointer (some ⟨b2,o2+k,none⟩)) ?_ ?_
   ·intro wq Aa;go_simp
   refine tk 3 (it zk) ?_ ?_
   ·intro wp Ia;have c0:wp.cell? ⟨b2,o2+k,none⟩=some (it zk):=Ia.cell R2.o (by simp);go_simp
   refine tk 4 (it ek) ?_ ?_
   ·intro wq Aa;go_simp
   refine tk 6 (.slice (some ⟨b3,o3,none⟩) K d) ?_ ?_
   ·intro wq Aa;go_simp
   refine tk 7 (it (k:Int)) ?_ ?_
   ·intro wq Aa;go_simp
   refine tk 8 (.pointer (some ⟨b3,o3+k,none⟩)) ?_ ?_
   ·intro wq Aa;go_simp
   refine tk 9 (it mk) ?_ ?_
   ·intro wp Ia;have c0:wp.cell? ⟨b3,o3+k,none⟩=some (it mk):=Ia.cell R3.o (by simp);go_simp
   refine aX 5 fun Kk hK=>?_;go_simp;refine(C1 _).mono ?_;rintro e wn ⟨rfl,rfl⟩;go_simp;refine hK.out _ _ (by assumption) (fun hHeld1=>?_);clear hK Kk;refine tk 10 (.bool (pr != mk)) ?_ ?_
   ·intro wq Aa;go_simp
   refine bg ?_;go_simp;have Sa:=Hd (Ba.o.grown hHeld Ba.o.size (by simp));have Wa:=Hd (Ha.o.grown hHeld Ha.o.size (by simp));clear hHeld1 hHeld
   cases hd:(pr==mk)with
   | true=>
    have Xa:(pr != mk)=false:=(by simp[bne,hd]);have Ja:=Hd (HS1'.o HQ.o hd);clear HS1' HS2' hd;go_wp2;go_roundw
    case rel=>exact⟨k+1,by omega,by go_num,Sa.o,Ja.o⟩
    case measure=>simp[intOf];omega
   | false=>
    have Xa:(pr != mk)=true:=(by simp[bne,hd]);have Ja:=Hd (HS2'.o hd);have gR:=(HE.o.below Sa.o).cR;clear HS1' HS2' hd;go_wp2;go_ret;exact⟨.inr ⟨Ja.o,_,_,_,rfl⟩,Wa.o⟩
  ·
   have Ya:k=K:=(by omega);subst Ya;go_wp2;go_ret;exact⟨.inl ⟨HQ.o,rfl⟩,Ha.o⟩
theorem mA{m:Nat}(s1 s2 e1 e2:Int)(N:Nat)(w:World)(he:EnvX w aL aN aG aE aR)(hz:aw w a n c zs)(hm:aw w b m d ms)(az:M.allEl zs=true)(am:M.allEl ms=true):
  Calls prog 108 #[kP N,.slice a n c,.slice b m d,.agg #[.int .i64 s1,.int .i64 s2],.agg #[.int .i64 e1,.int .i64 e2]] w fun e w'=>FP ((decide (M.ev zs 1=s1)&&decide (M.ev ms 1=s2))&&(decide (M.ev zs (M.lst N)=e1)&&decide (M.ev ms (M.lst N)=e2))) e∧m1 w w':=by
 have hl:=(M.el_iff _).1 (M.el_lst N);have Ib:∀W,aw W a n c zs→Rt 152 #[.slice a n c,it 1] W (it (M.ev zs 1)):=fun W hW=>fO 1 W hW az (by omega) (by omega);have Jb:∀W,aw W b m d ms→Rt 152 #[.slice b m d,it 1] W (it (M.ev ms 1)):=fun W hW=>fO 1 W hW am (by omega) (by omega);have Kb:∀W,aw W a n c zs→Rt 152 #[.slice a n c,it (M.lst N)] W (it (M.ev zs (M.lst N))):=fun W hW=>fO _ W hW az hl.1 hl.2;have Lb:∀W,aw W b m d ms→Rt 152 #[.slice b m d,it (M.lst N)] W (it (M.ev ms (M.lst N))):=fun W hW=>fO _ W hW am hl.1 hl.2;unfold kP;generalize M.ev zs 1=x1 at *;generalize M.ev ms 1=y1 at *;generalize M.ev zs (M.lst N)=x2 at *;generalize M.ev ms (M.lst N)=y2 at *;generalize M.lst N=la at *;generalize M.root (N:Int)=R1;generalize M.root (4*(N:Int))=R4;generalize 4*(N:Int)=N4;have Ga:m1 w (((w.alloc (.cells (cF (N:Int) R1 N4 R4 la).toArray 127)).alloc (.cells #[it s1,it s2] 33)).alloc (.cells #[it e1,it e2] 33)):=(((m5 _ _).alloc (m3 _) _).alloc (by simp) _).alloc (by simp;omega) _;have Cb:H9 (au (((w.alloc (.cells (cF (N:Int) R1 N4 R4 la).toArray 127)).alloc (.cells #[it s1,it s2] 33)).alloc (.cells #[it e1,it e2] 33)) w.heap.size (cF (N:Int) R1 N4 R4 la)):=((aM _ _ _).alloc _).alloc _;have Qa:H9 (au (((w.alloc (.cells (cF (N:Int) R1 N4 R4 la).toArray 127)).alloc (.cells #[it s1,it s2] 33)).alloc (.cells #[it e1,it e2] 33)) (w.heap.size+1) [it s1,it s2]):=(aZ _ _ _ _).alloc _;have Db:H9 (au (((w.alloc (.cells (cF (N:Int) R1 N4 R4 la).toArray 127)).alloc (.cells #[it s1,it s2] 33)).alloc (.cells #[it e1,it e2] 33)) (w.heap.size+1+1) [it e1,it e2]):=dm _ _ _ _ _;have Ra:=Hd Ga;have Eb:=Hd (he.below Ga);have Sa:=Hd (hz.below Ga);have Ta:=Hd (hm.below Ga);clear Ga he hz hm az am hl;go_enter func108,ntmps108;(go_wp2_with fail);generalize(((w.alloc (.cells (cF (N:Int) R1 N4 R4 la).toArray 127)).alloc (.cells #[it s1,it s2] 33)).alloc (.cells #[it e1,it e2] 33))=wq at *;refine cH wq none (by kernel_rfl) fun hHeld=>?_;generalize wq.drew=Ua at *;have Va:H9 (m1 wq Ua):=⟨hHeld.os,hHeld.tape,hHeld.output,hHeld.size,fun k hk=>hHeld.block k hk (by simp)⟩;refine tk 0 (.slice a n c) ?_ ?_
 ·intro wq Ea;go_simp
 refine tk 2 (.slice b m d) ?_ ?_
 ·intro wq Ea;go_simp
 refine tk 6 (.agg #[it s1,it s2]) ?_ ?_
 ·intro wp Ca;have c0:=(Qa.o.grown Ca (by simp)).c 0;have c1:=(Qa.o.grown Ca (by simp)).c 1;go_simp
 refine aX 1 fun Kk hK=>?_;go_simp;refine(Ib _ (Sa.o.below Va.o)).mono ?_;rintro e Ha ⟨rfl,Ia⟩;go_simp;have Aa:=aH hHeld Ia;have Wa:H9 (m1 wq Ha):=⟨Aa.os,Aa.tape,Aa.output,Aa.size,fun k hk=>Aa.block k hk (by simp)⟩;refine hK.out _ _ Aa (fun _=>?_);clear hK Kk Ia;refine aX 3 fun Kk hK=>?_;go_simp;refine(Jb _ (Ta.o.below Wa.o)).mono ?_;rintro e Xa ⟨rfl,Ja⟩;go_simp;have Ka:=aH Aa Ja;refine hK.out _ _ Ka (fun _=>?_);clear hK Kk Ja;refine tk 4 (.agg #[it x1,it y1]) ?_ ?_
 ·intro wq Ea;go_simp
 refine aX 5 fun Kk hK=>?_;go_simp;refine(jk (x1,y1) _).mono ?_;rintro e Fa ⟨rfl,La⟩;go_simp;have Ba:=aH Ka La;have Da:H9 (m1 wq Fa):=⟨Ba.os,Ba.tape,Ba.output,Ba.size,fun k hk=>Ba.block k hk (by simp)⟩;refine hK.out _ _ Ba (fun _=>?_);clear hK Kk La;refine tk 7 (.bool (!(decide (x1=s1)&&decide (y1=s2)))) ?_ ?_
 ·intro wp Ca;dsimp only[cP];go_simp;by_cases hx:x1=s1 <;> by_cases hy:y1=s2 <;> simp[hx,hy]
 refine bg ?_;go_simp;have Ya:=Hd (Cb.o.belowS Da.o);have Za:=Hd (Db.o.belowS Da.o);have Na:=Hd (Ra.o.trans (Da.o.mono Ra.o.size));have Pa:=Hd (Eb.o.below Da.o);have Fb:=Hd (Sa.o.below Da.o);have Gb:=Hd (Ta.o.below Da.o);clear Cb Qa Db Ra Eb Sa Ta
 cases hd:(!decide (x1=s1)||!decide (y1=s2))with
 | true=>
  have gE:=Pa.o.cE;(go_wp2_with fail);refine(bJ _ aE _ Pa.o.env).mono ?_;rintro e w9 ⟨rfl,Oa⟩;have Ab:=Na.t Oa;clear Oa;go_wp2;go_ret;refine⟨.inr ⟨?_,_,_,_,rfl⟩,Ab.o⟩
  cases h1:decide (x1=s1) <;> cases h2:decide (y1=s2) <;> simp_all
 | false=>
 have Nb:H9 ((decide (x1=s1)&&decide (y1=s2))=true):=(by show _=_;cases h1:decide (x1=s1) <;> cases h2:decide (y1=s2) <;> simp_all);(go_wp2_with fail);generalize Fa=wq at *;refine cH wq none (by kernel_rfl) fun hHeld=>?_;generalize wq.drew=Ua at *;have Va:H9 (m1 wq Ua):=⟨hHeld.os,hHeld.tape,hHeld.output,hHeld.size,fun k hk=>hHeld.block k hk (by simp)⟩;refine tk 0 (.slice a n c) ?_ ?_
 ·intro wq Ea;go_simp
 refine tk 4 (.slice b m d) ?_ ?_
 ·intro wq Ea;go_simp
 refine tk 1 (.pointer (some ⟨w.heap.size,6,none⟩)) ?_ ?_
 ·intro wq Ea;go_simp
 refine tk 5 (.pointer (some ⟨w.heap.size,6,none⟩)) ?_ ?_
 ·intro wq Ea;go_simp
 refine tk 2 (it la) ?_ ?_
 ·intro wp Ca;have c6:=(Ya.o.grown Ca (by simp)).c 6;go_simp
 refine tk 6 (it la) ?_ ?_
 ·intro wp Ca;have c6:=(Ya.o.grown Ca (by simp)).c 6;go_simp
 refine tk 10 (.agg #[it e1,it e2]) ?_ ?_
 ·intro wp Ca;have c0:=(Za.o.grown Ca (by simp)).c 0;have c1:=(Za.o.grown Ca (by simp)).c 1;go_simp
 refine aX 3 fun Kk hK=>?_;go_simp;refine(Kb _ (Fb.o.below Va.o)).mono ?_;rintro e Ha ⟨rfl,Ia⟩;go_simp;have Aa:=aH hHeld Ia;have Wa:H9 (m1 wq Ha):=⟨Aa.os,Aa.tape,Aa.output,Aa.size,fun k hk=>Aa.block k hk (by simp)⟩;refine hK.out _ _ Aa (fun _=>?_);clear hK Kk Ia;refine aX 7 fun Kk hK=>?_;go_simp;refine(Lb _ (Gb.o.below Wa.o)).mono ?_;rintro e Xa ⟨rfl,Ja⟩;go_simp;have Ka:=aH Aa Ja;refine hK.out _ _ Ka (fun _=>?_);clear hK Kk Ja;refine tk 8 (.agg #[it x2,it y2]) ?_ ?_
 ·intro wq Ea;go_simp
 refine aX 9 fun Kk hK=>?_;go_simp;refine(jk (x2,y2) _).mono ?_;rintro e Fa ⟨rfl,La⟩;go_simp;have Ba:=aH Ka La;have Da:H9 (m1 wq Fa):=⟨Ba.os,Ba.tape,Ba.output,Ba.size,fun k hk=>Ba.block k hk (by simp)⟩;refine hK.out _ _ Ba (fun _=>?_);clear hK Kk La;refine tk 11 (.bool (!(decide (x2=e1)&&decide (y2=e2)))) ?_ ?_
 ·intro wp Ca;dsimp only[cP];go_simp;by_cases hx:x2=e1 <;> by_cases hy:y2=e2 <;> simp[hx,hy]
 refine bg ?_;go_simp;have Bb:=Hd (Na.o.trans (Da.o.mono Na.o.size));have Hb:=Hd (Pa.o.below Da.o);clear Ya Za Na Pa Fb Gb
 cases hd:(!decide (x2=e1)||!decide (y2=e2))with
 | true=>
  have gE:=Hb.o.cE;(go_wp2_with fail);refine(bJ _ aE _ Hb.o.env).mono ?_;rintro e w9 ⟨rfl,Oa⟩;have Ab:=Bb.t Oa;clear Oa;go_wp2;go_ret;refine⟨.inr ⟨?_,_,_,_,rfl⟩,Ab.o⟩
  cases h1:decide (x2=e1) <;> cases h2:decide (y2=e2) <;> simp_all
 | false=>
 have Ob:H9 ((decide (x2=e1)&&decide (y2=e2))=true):=(by show _=_;cases h1:decide (x2=e1) <;> cases h2:decide (y2=e2) <;> simp_all);go_wp2;go_ret;exact⟨.inl ⟨by rw[Nb.o,Ob.o];rfl,rfl⟩,Bb.o⟩
open Go.Extern.Stop Go.Stop Go.Extern
theorem ui(m:M.Mc)(X Y Q:List Int)(N:Nat):gJ Q (bU (cV (4*N) (cm m (cz X Y (4*N)) N))) N (4*N)=M.qOk m.X X Y X Q N (4*N):=by
 have e:∀i,i<4*N→(bU (cV (4*N) (cm m (cz X Y (4*N)) N))).getD i 0=M.mis m.X X Y X N i:=fun i hi=>by rw[jW,j3 _ hi,me m X Y hi]
 unfold gJ M.qOk;rw[Bool.eq_iff_iff,List.all_eq_true,List.all_eq_true]
 constructor
 ·
  intro h i hi;have:=h i hi;rw[e i (List.mem_range.1 hi)]at this;exact this
 ·
  intro h i hi;rw[e i (List.mem_range.1 hi)];exact h i hi
theorem uj(m:M.Mc)(X Y Q:List Int)(N:Nat):gJ Q (bW (cV (4*N) (cm m (cz X Y (4*N)) N))) N (4*N)=M.qOk m.Y X Y Y Q N (4*N):=by
 have e:∀i,i<4*N→(bW (cV (4*N) (cm m (cz X Y (4*N)) N))).getD i 0=M.mis m.Y X Y Y N i:=fun i hi=>by rw[j2,j3 _ hi,mf m X Y hi]
 unfold gJ M.qOk;rw[Bool.eq_iff_iff,List.all_eq_true,List.all_eq_true]
 constructor
 ·
  intro h i hi;have:=h i hi;rw[e i (List.mem_range.1 hi)]at this;exact this
 ·
  intro h i hi;rw[e i (List.mem_range.1 hi)];exact h i hi
def FV(ok:Bool)(v:Value):Prop:=(ok=true∧v=.nilIface)∨(ok=false∧∃s p a,v=iB s p a)
theorem FP.val{e:Ending}(h:FP ok e∧m1 w w'):∃v,e=.returned v∧FV ok v∧m1 w w':=by
 obtain⟨⟨h1,h2⟩ | ⟨h1,s,p,a,h2⟩,hb⟩:=h
 ·exact⟨_,h2,.inl ⟨h1,rfl⟩,hb⟩
 ·exact⟨_,h2,.inr ⟨h1,s,p,a,rfl⟩,hb⟩
theorem qD(s:ByteArray)(w:World):Rt 57 #[.string s,.nilIface] w .nilIface:=by
 go_enter func57,ntmps57;go_wp2;go_ret
 first | exact⟨rfl,m5 _ _⟩ | exact⟨rfl,(m5 _ _).alloc (m3 _) _⟩
theorem qE(s:ByteArray){v:Value}(hv:FV ok v)(w:World)(he:Env w aL aN):Calls prog 57 #[.string s,v] w fun e w'=>∃v',e=.returned v'∧FV ok v'∧m1 w w':=by
 rcases hv with⟨h1,rfl⟩ | ⟨h1,s0,p,a,rfl⟩
 ·exact(qD s w).mono fun e w' ⟨h,hb⟩=>⟨_,h,.inl ⟨h1,rfl⟩,hb⟩
 ·exact(dK s s0 p a w he).mono fun e w' ⟨h,hb⟩=>⟨_,h,.inr ⟨h1,_,_,_,rfl⟩,hb⟩
theorem oD(m:M.Mc)(s1 s2 e1 e2:Int)(N:Nat)(w:World)(h:M.rowsN N=true)(hm:m.ok=true)(he:EnvX w aL aN aG aE aR)(h1:aw w a1 (4*N) c1 z1)(h2:aw w a2 (4*N) c2 z2)(h3:aw w a3 (4*N) c3 z3)(h4:aw w a4 (4*N) c4 z4)(ha1:M.allEl z1=true)(ha2:M.allEl z2=true)(ha3:M.allEl z3=true)(ha4:M.allEl z4=true):
  Calls prog 60 #[kP N,.iface 165 (cZ m),.agg #[.int .i64 s1,.int .i64 s2,.int .i64 e1,.int .i64 e2,.slice a1 (4*N) c1,.slice a2 (4*N) c2,.slice a3 (4*N) c3,.slice a4 (4*N) c4]] w fun e w'=>FP (M.accN m ⟨(s1,s2),(e1,e2),z1,z2,z3,z4⟩ N) e∧m1 w w':=by
 have Sd:=M.rowsN_pos h;obtain⟨K,hK⟩:∃K:Nat,K=4*N:=⟨_,rfl⟩;have Kc:4*(N:Int)=(K:Int):=(by omega);have Fe:K≤64:=(by omega);have Lc:0<K:=(by omega);obtain⟨MS,Ab⟩:∃MS,MS=cV (4*N) (cm m (cz z1 z2 (4*N)) N):=⟨_,rfl⟩;obtain⟨oL,Ib⟩:∃o,o=(M.lenOk z1 N&&(M.lenOk z2 N&&(M.lenOk z3 N&&M.lenOk z4 N))):=⟨_,rfl⟩;obtain⟨oE,Jb⟩:∃o,o=M.endOk ⟨(s1,s2),(e1,e2),z1,z2,z3,z4⟩ N:=⟨_,rfl⟩;obtain⟨oX,Kb⟩:∃o,o=M.qOk m.X z1 z2 z1 z3 N (4*N):=⟨_,rfl⟩;obtain⟨oY,Lb⟩:∃o,o=M.qOk m.Y z1 z2 z2 z4 N (4*N):=⟨_,rfl⟩;have Nc:M.accN m ⟨(s1,s2),(e1,e2),z1,z2,z3,z4⟩ N=(oL&&(oE&&(oX&&oY))):=(by rw[Ib,Jb,Kb,Lb];rfl);rw[Nc];have CE:∀{a:Option Addr} {c:Nat} {z:List Int} (W:World),aw W a (4*N) c z→Calls prog 106 #[.slice a (4*N) c] W fun e w'=>∃a' cap',e=.returned (.slice a' (4*N) cap')∧aD 123 w' W.heap.size a' (4*N) cap' z∧m1 W w':=fun W hW=>eC W hW (by omega)
 have Nb:∀W,EnvX W aL aN aG aE aR→aw W a1 (4*N) c1 z1→aw W a2 (4*N) c2 z2→aw W a3 (4*N) c3 z3→aw W a4 (4*N) c4 z4→Calls prog 107 #[kP N,.agg #[.int .i64 s1,.int .i64 s2,.int .i64 e1,.int .i64 e2,.slice a1 (4*N) c1,.slice a2 (4*N) c2,.slice a3 (4*N) c3,.slice a4 (4*N) c4]] W fun e w'=>FP oL e∧m1 W w':=fun W e g1 g2 g3 g4=>by
  rw[Ib];exact jM s1 s2 e1 e2 N W h e g1 g2 g3 g4 ha1 ha2 ha3 ha4 g1.len g2.len g3.len g4.len
 have Bb:∀{a:Option Addr} {c:Nat} {z:List Int} (W:World),M.allEl z=true→aw W a (4*N) c z→Calls prog 109 #[.agg #[.int .i64 ((4*N:Nat):Int),.int .i64 3,.int .i64 (M.root ((4*N:Nat):Int))],.slice a (4*N) c] W fun e w'=>∃a' m c',e=.returned (.slice a' m c')∧aD 123 w' W.heap.size a' m c' (M.frs z 3)∧m1 W w':=fun W hz hW=>kt 3 W hW hz (M.rowsN_pt h)
 have Ya:∀{xa ya:Option Addr} {nx ny cx cy:Nat} (W:World),EnvX W aL aN aG aE aR→aw W xa nx cx (M.frs z1 3)→aw W ya ny cy (M.frs z2 3)→Calls prog 108 #[kP N,.slice xa nx cx,.slice ya ny cy,.agg #[.int .i64 s1,.int .i64 s2],.agg #[.int .i64 e1,.int .i64 e2]] W fun e w'=>∃v,e=.returned v∧FV oE v∧m1 W w':=fun W e gx gy=>by
  rw[Jb];exact(mA s1 s2 e1 e2 N W e gx gy (M.frs_all _ _) (M.frs_all _ _)).mono fun _ _ hp=>FP.val hp
 have Ob:∀{xa ya:Option Addr} {cx cy:Nat} (W:World),aw W xa (4*N) cx z1→aw W ya (4*N) cy z2→Calls prog 111 #[.slice xa (4*N) cx,.slice ya (4*N) cy] W fun e w'=>∃a' cap',e=.returned (.slice a' (4*N) cap')∧bf 224 w' W.heap.size a' (4*N) cap' (cz z1 z2 (4*N))∧m1 W w':=fun W gx gy=>oV W gx gy (by omega)
 have Cb:∀{xa:Option Addr} {cx:Nat} (W:World),dU W xa (4*N) cx (cz z1 z2 (4*N))→Calls prog 110 #[kP N,.iface 165 (cZ m),.slice xa (4*N) cx] W fun e w'=>∃a' c',e=.returned (.slice a' (4*N) c')∧bf 224 w' W.heap.size a' (4*N) c' MS∧m1 W w':=fun W gx=>by
  rw[Ab];exact qX m N W h hm gx (sQ ha1 ha2)
 have Pb:∀{xa:Option Addr} {cx:Nat} (W:World),dU W xa (4*N) cx MS→Calls prog 113 #[.slice xa (4*N) cx] W fun e w'=>∃a' cap',e=.returned (.slice a' (4*N) cap')∧aD 123 w' W.heap.size a' (4*N) cap' (bU MS)∧m1 W w':=fun W gx=>tq W gx (by omega);have Qb:∀{xa:Option Addr} {cx:Nat} (W:World),dU W xa (4*N) cx MS→Calls prog 114 #[.slice xa (4*N) cx] W fun e w'=>∃a' cap',e=.returned (.slice a' (4*N) cap')∧aD 123 w' W.heap.size a' (4*N) cap' (bW MS)∧m1 W w':=fun W gx=>tt W gx (by omega)
 have Db:∀{xa ya:Option Addr} {cx cy:Nat} (W:World),EnvX W aL aN aG aE aR→aw W xa (4*N) cx z3→aw W ya (4*N) cy (bU MS)→Calls prog 112 #[kP N,.slice xa (4*N) cx,.slice ya (4*N) cy] W fun e w'=>∃v,e=.returned v∧FV oX v∧m1 W w':=fun W e gx gy=>by
  have:=eV N W h e gx gy ha3;rw[Ab,ui,←Kb]at this;exact this.mono fun _ _ hp=>FP.val hp
 have Eb:∀{xa ya:Option Addr} {cx cy:Nat} (W:World),EnvX W aL aN aG aE aR→aw W xa (4*N) cx z4→aw W ya (4*N) cy (bW MS)→Calls prog 112 #[kP N,.slice xa (4*N) cx,.slice ya (4*N) cy] W fun e w'=>∃v,e=.returned v∧FV oY v∧m1 W w':=fun W e gx gy=>by
  have:=eV N W h e gx gy ha4;rw[Ab,uj,←Lb]at this;exact this.mono fun _ _ hp=>FP.val hp
 clear Ib Jb Kb Lb Nc Ab hm;unfold kP at Nb Ya Cb Db Eb ⊢;simp only[Kc,←hK]at CE Nb Bb Ya Ob Cb Pb Qb Db Eb h1 h2 h3 h4 ⊢;generalize cz z1 z2 K=ZP at Ob Cb;generalize bU MS=XS at Pb Db;generalize bW MS=YS at Qb Eb;have Oc:=fun{a c} W=>@Bb a c z1 W ha1;have Pc:=fun{a c} W=>@Bb a c z2 W ha2;generalize M.frs z1 3=F1 at Ya Oc;generalize M.frs z2 3=F2 at Ya Pc;clear Bb ha1 ha2 ha3 ha4;generalize M.root (N:Int)=R1 at *;generalize M.root (K:Int)=R4 at *;generalize M.lst N=la at *;generalize Value.iface 165 (cZ m)=IF at *;have Ta:m1 w ((w.alloc (.cells (cF (N:Int) R1 (K:Int) R4 la).toArray 127)).alloc (.cells (bi s1 s2 e1 e2 a1 K c1 a2 K c2 a3 K c3 a4 K c4).toArray 35)):=((m5 _ _).alloc (m3 _) _).alloc (by simp) _;have Qc:H9 (au ((w.alloc (.cells (cF (N:Int) R1 (K:Int) R4 la).toArray 127)).alloc (.cells (bi s1 s2 e1 e2 a1 K c1 a2 K c2 a3 K c3 a4 K c4).toArray 35)) w.heap.size (cF (N:Int) R1 (K:Int) R4 la)):=(aM _ _ _).alloc _;have Va:H9 (au ((w.alloc (.cells (cF (N:Int) R1 (K:Int) R4 la).toArray 127)).alloc (.cells (bi s1 s2 e1 e2 a1 K c1 a2 K c2 a3 K c3 a4 K c4).toArray 35)) (w.heap.size+1) (bi s1 s2 e1 e2 a1 K c1 a2 K c2 a3 K c3 a4 K c4)):=aZ _ _ _ _;have Rb:=Hd Ta;have Rc:=Hd (he.below Ta);have Sb:=Hd (h1.below Ta);have Tb:=Hd (h2.below Ta);have Sc:=Hd (h3.below Ta);have Tc:=Hd (h4.below Ta);clear Ta he h1 h2 h3 h4 hK Kc h Sd;have p4:=Va.c 4;have p5:=Va.c 5;go_enter func60,ntmps60;(go_wp2_with fail);generalize((w.alloc (.cells (cF (N:Int) R1 (K:Int) R4 la).toArray 127)).alloc (.cells (bi s1 s2 e1 e2 a1 K c1 a2 K c2 a3 K c3 a4 K c4).toArray 35))=wq at *;clear p4 p5;refine cH wq none (by kernel_rfl) fun hHeld=>?_;generalize wq.drew=Pa at *;have La:H9 (m1 wq Pa):=⟨hHeld.os,hHeld.tape,hHeld.output,hHeld.size,fun k hk=>hHeld.block k hk (by simp)⟩;refine tk 0 (.pointer (some ⟨w.heap.size+1,4,none⟩)) ?_ ?_
 ·intro wq Fa;go_simp
 refine tk 1 (.slice a1 K c1) ?_ ?_
 ·intro wp Ca;have c0:=(Va.o.grown Ca (by simp)).c 4;go_simp
 refine tk 3 (.pointer (some ⟨w.heap.size+1,5,none⟩)) ?_ ?_
 ·intro wq Fa;go_simp
 refine tk 4 (.slice a2 K c2) ?_ ?_
 ·intro wp Ca;have c0:=(Va.o.grown Ca (by simp)).c 5;go_simp
 refine aX 2 fun Kk hK=>?_;go_simp;refine(CE _ (Sb.o.below La.o)).mono ?_;rintro e Ha ⟨xa,xc,rfl,ho,Ka⟩;go_simp;have Ba:=aH hHeld Ka;have Ua:H9 (m1 wq Ha):=⟨Ba.os,Ba.tape,Ba.output,Ba.size,fun k hk=>Ba.block k hk (by simp)⟩;have Td:=Hd ho.sees;refine hK.out _ _ Ba (fun _=>?_);clear hK Kk Ka;refine aX 5 fun Kk hK=>?_;go_simp;refine(CE _ (Tb.o.below Ua.o)).mono ?_;rintro e Ga ⟨ya,yc,rfl,ho,Ia⟩;go_simp;have Aa:=aH Ba Ia;have Da:H9 (m1 wq Ga):=⟨Aa.os,Aa.tape,Aa.output,Aa.size,fun k hk=>Aa.block k hk (by simp)⟩;have Ud:=Hd (Td.o.below Ia);have Vd:=Hd ho.sees;refine hK.out _ _ Aa (fun _=>?_);clear hK Kk Ia;refine tk 6 (.slice xa K xc) ?_ ?_
 ·intro wq Fa;go_simp
 refine tk 7 (.slice ya K yc) ?_ ?_
 ·intro wq Fa;go_simp
 refine bg ?_;go_simp;have Qa:=Hd (Qc.o.belowS Da.o);have Na:=Hd (Va.o.belowS Da.o);have Ub:=Hd (Rb.o.trans (Da.o.mono Rb.o.size));have Vb:=Hd (Rc.o.below Da.o);have Uc:=Hd (Sb.o.below Da.o);have Vc:=Hd (Tb.o.below Da.o);have Wb:=Hd (Sc.o.below Da.o);have Xb:=Hd (Tc.o.below Da.o);clear Qc Va Rb Rc Sb Tb Sc Tc;have Wc:=Hd Ud.o;have Xc:=Hd Vd.o;have p0:=Na.c 0;have p1:=Na.c 1;have p2:=Na.c 2;have p3:=Na.c 3;have p4:=Na.c 4;have p5:=Na.c 5;have p6:=Na.c 6;have p7:=Na.c 7;have f0:=Qa.c 0;have f1:=Qa.c 1;have f2:=Qa.c 2;have f3:=Qa.c 3;have f4:=Qa.c 4;have f5:=Qa.c 5;have f6:=Qa.c 6;(go_wp2_with fail);refine(Nb _ Vb.o Uc.o Vc.o Wb.o Xb.o).mono ?_;rintro e w3 ⟨hp,hb⟩;have Ra:=Qa.b hb;have Wa:=Na.b hb;have Fb:=Ub.t hb;have Yb:=Hd (Vb.o.below hb);have Yc:=Hd (Wb.o.below hb);have Zc:=Hd (Xb.o.below hb);have Zb:=Hd (Wc.o.below hb);have Ac:=Hd (Xc.o.below hb);clear Qa Na Ub Vb Uc Vc Wb Xb Wc Xc;clear hb
 rcases hp with⟨ho,rfl⟩ | ⟨ho,ps,pq,pv,rfl⟩
 rotate_left
 ·
  subst ho;have Ad:=fun W=>aP (P:=prog) W 167 (.agg #[.string ps,it pq,.iface 293 (.pointer (some pv))]) underlying73;unfold iB;go_wp2;go_ret;exact⟨.inr ⟨by simp,_,_,_,rfl⟩,Fb.o⟩
 subst ho;clear p0 p1 p2 p3 p4 p5 p6 p7 f0 f1 f2 f3 f4 f5 f6;(go_wp2_with fail);generalize w3=wq at *;refine cH wq none (by kernel_rfl) fun hHeld=>?_;generalize wq.drew=Pa at *;have La:H9 (m1 wq Pa):=⟨hHeld.os,hHeld.tape,hHeld.output,hHeld.size,fun k hk=>hHeld.block k hk (by simp)⟩;refine wpAnyH_take (i:=0) (v:=.agg (cF (N:Int) R1 (K:Int) R4 la).toArray) rfl (by kernel_rfl) (by kernel_rfl) (by kernel_rfl) (fun _ _ _ h=>h) (uZ (by kernel_rfl) 127 (.tmp 3) rfl w.heap.size 0 rfl (cF (N:Int) R1 (K:Int) R4 la) _ (fun W h=>(Ra.o.grown h (by simp)).row) underlying127 rfl (by kernel_rfl)) (by assumption) ?_;refine tk 1 (.pointer (some ⟨w.heap.size,3,none⟩)) ?_ ?_
 ·intro wq Fa;go_simp
 refine tk 2 (.agg (lq (K:Int) R4).toArray) ?_ ?_
 ·intro wp Ca;have c0:=(Ra.o.grown Ca (by simp)).c 3;have c1:=(Ra.o.grown Ca (by simp)).c 4;have c2:=(Ra.o.grown Ca (by simp)).c 5;go_simp
 refine tk 5 (.pointer (some ⟨w.heap.size,3,none⟩)) ?_ ?_
 ·intro wq Fa;go_simp
 refine tk 6 (.agg (lq (K:Int) R4).toArray) ?_ ?_
 ·intro wp Ca;have c0:=(Ra.o.grown Ca (by simp)).c 3;have c1:=(Ra.o.grown Ca (by simp)).c 4;have c2:=(Ra.o.grown Ca (by simp)).c 5;go_simp
 refine tk 3 (.slice xa K xc) ?_ ?_
 ·intro wq Fa;go_simp
 refine tk 7 (.slice ya K yc) ?_ ?_
 ·intro wq Fa;go_simp
 refine tk 9 (.pointer (some ⟨w.heap.size+1,0,none⟩)) ?_ ?_
 ·intro wq Fa;go_simp
 refine tk 10 (.agg #[it s1,it s2]) ?_ ?_
 ·intro wp Ca;have c0:=(Wa.o.grown Ca (by simp)).c 0;have c1:=(Wa.o.grown Ca (by simp)).c 1;go_simp
 refine tk 11 (.pointer (some ⟨w.heap.size+1,2,none⟩)) ?_ ?_
 ·intro wq Fa;go_simp
 refine tk 12 (.agg #[it e1,it e2]) ?_ ?_
 ·intro wp Ca;have c0:=(Wa.o.grown Ca (by simp)).c 2;have c1:=(Wa.o.grown Ca (by simp)).c 3;go_simp
 refine aX 4 fun Kk hK=>?_;go_simp;refine(Oc _ (Zb.o.below La.o)).mono ?_;rintro e Ha ⟨fa,fn,fc,rfl,ho,Ka⟩;go_simp;have Ba:=aH hHeld Ka;have Ua:H9 (m1 wq Ha):=⟨Ba.os,Ba.tape,Ba.output,Ba.size,fun k hk=>Ba.block k hk (by simp)⟩;have Wd:=Hd ho.sees;refine hK.out _ _ Ba (fun _=>?_);clear hK Kk Ka;refine aX 8 fun Kk hK=>?_;go_simp;refine(Pc _ (Ac.o.below Ua.o)).mono ?_;rintro e Ga ⟨ga,gn,gc,rfl,ho,Ia⟩;go_simp;have Aa:=aH Ba Ia;have Da:H9 (m1 wq Ga):=⟨Aa.os,Aa.tape,Aa.output,Aa.size,fun k hk=>Aa.block k hk (by simp)⟩;have Xd:=Hd (Wd.o.below Ia);have Yd:=Hd ho.sees;refine hK.out _ _ Aa (fun _=>?_);clear hK Kk Ia;refine aX 13 fun Kk hK=>?_;go_simp;refine(Ya _ (Yb.o.below Da.o) Xd.o Yd.o).mono ?_;rintro e Oa ⟨v,rfl,hv,Sa⟩;go_simp;have Ea:=aH Aa Sa;have Ja:H9 (m1 wq Oa):=⟨Ea.os,Ea.tape,Ea.output,Ea.size,fun k hk=>Ea.block k hk (by simp)⟩;refine hK.out _ _ Ea (fun _=>?_);clear hK Kk Sa;refine tk 14 v ?_ ?_
 ·intro wq Fa;go_simp
 refine bg ?_;go_simp;have Bc:=Hd (Ra.o.belowS Ja.o);have Bd:=Hd (Wa.o.belowS Ja.o);have Gb:=Hd (Fb.o.trans (Ja.o.mono Fb.o.size));have Cd:=Hd (Yb.o.below Ja.o);have Dd:=Hd (Yc.o.below Ja.o);have Ed:=Hd (Zc.o.below Ja.o);have Fd:=Hd (Zb.o.below Ja.o);have Gd:=Hd (Ac.o.below Ja.o);clear Ra Wa Fb Yb Yc Zc Zb Ac
 rcases hv with⟨ho,rfl⟩ | ⟨ho,ps,pq,pv,rfl⟩
 rotate_left
 ·
  subst ho;have Ad:=fun W=>aP (P:=prog) W 167 (.agg #[.string ps,it pq,.iface 293 (.pointer (some pv))]) underlying73;unfold iB;go_wp2;go_ret;exact⟨.inr ⟨by simp,_,_,_,rfl⟩,Gb.o⟩
 subst ho;(go_wp2_with fail);generalize Oa=wq at *;refine cH wq none (by kernel_rfl) fun hHeld=>?_;generalize wq.drew=Pa at *;have La:H9 (m1 wq Pa):=⟨hHeld.os,hHeld.tape,hHeld.output,hHeld.size,fun k hk=>hHeld.block k hk (by simp)⟩;refine wpAnyH_take (i:=0) (v:=.agg (cF (N:Int) R1 (K:Int) R4 la).toArray) rfl (by kernel_rfl) (by kernel_rfl) (by kernel_rfl) (fun _ _ _ h=>h) (uZ (by kernel_rfl) 127 (.tmp 3) rfl w.heap.size 0 rfl (cF (N:Int) R1 (K:Int) R4 la) _ (fun W h=>(Bc.o.grown h (by simp)).row) underlying127 rfl (by kernel_rfl)) (by assumption) ?_;refine tk 1 IF ?_ ?_
 ·intro wq Fa;go_simp
 refine tk 2 (.slice xa K xc) ?_ ?_
 ·intro wq Fa;go_simp
 refine tk 3 (.slice ya K yc) ?_ ?_
 ·intro wq Fa;go_simp
 refine aX 4 fun Kk hK=>?_;go_simp;refine(Ob _ (Fd.o.below La.o) (Gd.o.below La.o)).mono ?_;rintro e Ha ⟨pa,pc,rfl,ho,Ka⟩;go_simp;have Ba:=aH hHeld Ka;have Zd:=Hd (ho.sees Lc);refine hK.out _ _ Ba (fun _=>?_);clear hK Kk Ka;refine aX 5 fun Kk hK=>?_;go_simp;refine(Cb _ Zd.o).mono ?_;rintro e Ga ⟨ma,mc,rfl,ho,Ia⟩;go_simp;have Aa:=aH Ba Ia;have Da:H9 (m1 wq Ga):=⟨Aa.os,Aa.tape,Aa.output,Aa.size,fun k hk=>Aa.block k hk (by simp)⟩;have Ae:=Hd (ho.sees Lc);refine hK.out _ _ Aa (fun _=>?_);clear hK Kk Ia;refine tk 6 (.slice ma K mc) ?_ ?_
 ·intro wq Fa;go_simp
 refine bg ?_;go_simp;have Cc:=Hd (Bc.o.belowS Da.o);have Dc:=Hd (Bd.o.belowS Da.o);have Ec:=Hd (Gb.o.trans (Da.o.mono Gb.o.size));have Fc:=Hd (Cd.o.below Da.o);have Id:=Hd (Dd.o.below Da.o);have Jd:=Hd (Ed.o.below Da.o);clear Bc Bd Gb Cd Dd Ed Fd Gd;have Gc:=Hd Ae.o;(go_wp2_with fail);generalize Ga=wq at *;refine cH wq none (by kernel_rfl) fun hHeld=>?_;generalize wq.drew=Pa at *;have La:H9 (m1 wq Pa):=⟨hHeld.os,hHeld.tape,hHeld.output,hHeld.size,fun k hk=>hHeld.block k hk (by simp)⟩;refine wpAnyH_take (i:=0) (v:=.agg (cF (N:Int) R1 (K:Int) R4 la).toArray) rfl (by kernel_rfl) (by kernel_rfl) (by kernel_rfl) (fun _ _ _ h=>h) (uZ (by kernel_rfl) 127 (.tmp 3) rfl w.heap.size 0 rfl (cF (N:Int) R1 (K:Int) R4 la) _ (fun W h=>(Cc.o.grown h (by simp)).row) underlying127 rfl (by kernel_rfl)) (by assumption) ?_;refine tk 1 (.pointer (some ⟨w.heap.size+1,6,none⟩)) ?_ ?_
 ·intro wq Fa;go_simp
 refine tk 2 (.slice a3 K c3) ?_ ?_
 ·intro wp Ca;have c0:=(Dc.o.grown Ca (by simp)).c 6;go_simp
 refine tk 4 (.slice ma K mc) ?_ ?_
 ·intro wq Fa;go_simp
 refine aX 3 fun Kk hK=>?_;go_simp;refine(CE _ (Id.o.below La.o)).mono ?_;rintro e Ha ⟨qa,qc,rfl,ho,Ka⟩;go_simp;have Ba:=aH hHeld Ka;have Ua:H9 (m1 wq Ha):=⟨Ba.os,Ba.tape,Ba.output,Ba.size,fun k hk=>Ba.block k hk (by simp)⟩;have Hc:=Hd ho.sees;refine hK.out _ _ Ba (fun _=>?_);clear hK Kk Ka;refine aX 5 fun Kk hK=>?_;go_simp;refine(Pb _ (Gc.o.below Ua.o)).mono ?_;rintro e Ga ⟨ra,rc,rfl,ho,Ia⟩;go_simp;have Aa:=aH Ba Ia;have Da:H9 (m1 wq Ga):=⟨Aa.os,Aa.tape,Aa.output,Aa.size,fun k hk=>Aa.block k hk (by simp)⟩;have Ic:=Hd (Hc.o.below Ia);have Jc:=Hd ho.sees;refine hK.out _ _ Aa (fun _=>?_);clear hK Kk Ia;refine aX 6 fun Kk hK=>?_;go_simp;refine(Db _ (Fc.o.below Da.o) Ic.o Jc.o).mono ?_;rintro e Oa ⟨v,rfl,hv,Sa⟩;go_simp;have Ea:=aH Aa Sa;have Ja:H9 (m1 wq Oa):=⟨Ea.os,Ea.tape,Ea.output,Ea.size,fun k hk=>Ea.block k hk (by simp)⟩;refine hK.out _ _ Ea (fun _=>?_);clear hK Kk Sa;refine tk 7 v ?_ ?_
 ·intro wq Fa;go_simp
 refine bg ?_;go_simp;have Kd:=Hd (Cc.o.belowS Ja.o);have Ld:=Hd (Dc.o.belowS Ja.o);have Za:=Hd (Ec.o.trans (Ja.o.mono Ec.o.size));have Hb:=Hd (Fc.o.below Ja.o);have Nd:=Hd (Jd.o.below Ja.o);have Od:=Hd (Gc.o.below Ja.o);clear Cc Dc Ec Fc Id Jd Gc
 rcases hv with⟨ho,rfl⟩ | ⟨ho,ps,pq,pv,rfl⟩
 rotate_left
 ·
  subst ho;have Ad:=fun W=>aP (P:=prog) W 167 (.agg #[.string ps,it pq,.iface 293 (.pointer (some pv))]) underlying73;unfold iB;(go_wp2_with fail);refine(dK _ ps pq pv _ Hb.o.env).mono ?_;rintro e w9 ⟨rfl,Pd⟩;have Be:=Za.t Pd;clear Pd;go_wp2;go_ret;exact⟨.inr ⟨by simp,_,_,_,rfl⟩,Be.o⟩
 subst ho;(go_wp2_with fail);generalize Oa=wq at *;refine cH wq none (by kernel_rfl) fun hHeld=>?_;generalize wq.drew=Pa at *;have La:H9 (m1 wq Pa):=⟨hHeld.os,hHeld.tape,hHeld.output,hHeld.size,fun k hk=>hHeld.block k hk (by simp)⟩;refine wpAnyH_take (i:=0) (v:=.agg (cF (N:Int) R1 (K:Int) R4 la).toArray) rfl (by kernel_rfl) (by kernel_rfl) (by kernel_rfl) (fun _ _ _ h=>h) (uZ (by kernel_rfl) 127 (.tmp 3) rfl w.heap.size 0 rfl (cF (N:Int) R1 (K:Int) R4 la) _ (fun W h=>(Kd.o.grown h (by simp)).row) underlying127 rfl (by kernel_rfl)) (by assumption) ?_;refine tk 1 (.pointer (some ⟨w.heap.size+1,7,none⟩)) ?_ ?_
 ·intro wq Fa;go_simp
 refine tk 2 (.slice a4 K c4) ?_ ?_
 ·intro wp Ca;have c0:=(Ld.o.grown Ca (by simp)).c 7;go_simp
 refine tk 4 (.slice ma K mc) ?_ ?_
 ·intro wq Fa;go_simp
 refine aX 3 fun Kk hK=>?_;go_simp;refine(CE _ (Nd.o.below La.o)).mono ?_;rintro e Ha ⟨qa,qc,rfl,ho,Ka⟩;go_simp;have Ba:=aH hHeld Ka;have Ua:H9 (m1 wq Ha):=⟨Ba.os,Ba.tape,Ba.output,Ba.size,fun k hk=>Ba.block k hk (by simp)⟩;have Hc:=Hd ho.sees;refine hK.out _ _ Ba (fun _=>?_);clear hK Kk Ka;refine aX 5 fun Kk hK=>?_;go_simp;refine(Qb _ (Od.o.below Ua.o)).mono ?_;rintro e Ga ⟨ra,rc,rfl,ho,Ia⟩;go_simp;have Aa:=aH Ba Ia;have Da:H9 (m1 wq Ga):=⟨Aa.os,Aa.tape,Aa.output,Aa.size,fun k hk=>Aa.block k hk (by simp)⟩;have Ic:=Hd (Hc.o.below Ia);have Jc:=Hd ho.sees;refine hK.out _ _ Aa (fun _=>?_);clear hK Kk Ia;refine aX 6 fun Kk hK=>?_;go_simp;refine(Eb _ (Hb.o.below Da.o) Ic.o Jc.o).mono ?_;rintro e Oa ⟨v,rfl,hv,Sa⟩;go_simp;have Ea:=aH Aa Sa;have Ja:H9 (m1 wq Oa):=⟨Ea.os,Ea.tape,Ea.output,Ea.size,fun k hk=>Ea.block k hk (by simp)⟩;refine hK.out _ _ Ea (fun _=>?_);clear hK Kk Sa;refine aX 7 fun Kk hK=>?_;go_simp;refine(qE _ hv _ (Hb.o.below Ja.o).env).mono ?_;rintro e Qd ⟨v2,rfl,Ce,Rd⟩;go_simp;have Xa:=aH Ea Rd;have De:H9 (m1 wq Qd):=⟨Xa.os,Xa.tape,Xa.output,Xa.size,fun k hk=>Xa.block k hk (by simp)⟩;refine hK.out _ _ Xa (fun _=>?_);clear hK Kk Rd;refine tk 8 v2 ?_ ?_
 ·intro wq Fa;go_simp
 refine bg ?_;go_simp;have Ee:=Hd (Za.o.trans (De.o.mono Za.o.size));clear Kd Ld Za Hb Nd Od;go_wp2;go_ret;refine⟨?_,Ee.o⟩
 rcases Ce with⟨h1,rfl⟩ | ⟨h1,s,p,a,rfl⟩
 ·exact .inl ⟨by rw[h1];rfl,rfl⟩
 ·exact .inr ⟨by rw[h1];rfl,s,p,a,rfl⟩
open Go.Extern.Stop Go.Stop Go.Extern
theorem rz(h:m.ok=false):M.acc m p=false:=by unfold M.acc;rw[h];rfl
theorem rA(h:p.rows=0):M.acc m p=false:=by unfold M.acc;rw[h];simp
theorem nu(h:m.ok=true)(hr:p.rows≠0):M.acc m p=M.accN m p p.rows:=by unfold M.acc;rw[h,decide_eq_true hr];rfl
theorem oC(m:M.Mc)(s1 s2 e1 e2:Int)(w:World)(he:EnvX w aL aN aG aE aR)(h1:aw w a1 n1 c1 z1)(h2:aw w a2 n2 c2 z2)(h3:aw w a3 n3 c3 z3)(h4:aw w a4 n4 c4 z4):
  Calls prog 28 #[cZ m,.agg #[.int .i64 s1,.int .i64 s2,.int .i64 e1,.int .i64 e2,.slice a1 n1 c1,.slice a2 n2 c2,.slice a3 n3 c3,.slice a4 n4 c4]] w fun e w'=>FP (M.acc m (⟨(s1,s2),(e1,e2),z1,z2,z3,z4⟩:M.Pf)) e∧m1 w w':=by
 have C1:∀W,Calls prog 56 #[cZ m] W fun e w'=>∃v,e=.returned (.tuple #[v,.bool m.ok])∧(m.ok=true→v=.iface 165 (cZ m))∧m1 W w':=fun W=>(fe m W).mono fun e w' ⟨m',h1,h2,h3⟩=>⟨_,h1,fun h=>by rw[h2 h],h3⟩;have Ya:∀W,EnvX W aL aN aG aE aR→aw W a1 n1 c1 z1→aw W a2 n2 c2 z2→aw W a3 n3 c3 z3→aw W a4 n4 c4 z4→Calls prog 58 #[.agg #[.int .i64 s1,.int .i64 s2,.int .i64 e1,.int .i64 e2,.slice a1 n1 c1,.slice a2 n2 c2,.slice a3 n3 c3,.slice a4 n4 c4]] W fun e w'=>sT (⟨(s1,s2),(e1,e2),z1,z2,z3,z4⟩:M.Pf) e∧m1 W w':=fun W e g1 g2 g3 g4=>ku s1 s2 e1 e2 W e.env g1 g2 g3 g4;have Ja:H9 (m.ok=false→M.acc m (⟨(s1,s2),(e1,e2),z1,z2,z3,z4⟩:M.Pf)=false):=rz;have Oa:H9 ((⟨(s1,s2),(e1,e2),z1,z2,z3,z4⟩:M.Pf).rows=0→M.acc m (⟨(s1,s2),(e1,e2),z1,z2,z3,z4⟩:M.Pf)=false):=rA;have Ga:H9 (m.ok=true→(⟨(s1,s2),(e1,e2),z1,z2,z3,z4⟩:M.Pf).rows≠0→M.acc m (⟨(s1,s2),(e1,e2),z1,z2,z3,z4⟩:M.Pf)=M.accN m (⟨(s1,s2),(e1,e2),z1,z2,z3,z4⟩:M.Pf) (⟨(s1,s2),(e1,e2),z1,z2,z3,z4⟩:M.Pf).rows):=nu;have Ka:H9 ((⟨(s1,s2),(e1,e2),z1,z2,z3,z4⟩:M.Pf).rows≠0→M.rowsN (⟨(s1,s2),(e1,e2),z1,z2,z3,z4⟩:M.Pf).rows=true∧(⟨(s1,s2),(e1,e2),z1,z2,z3,z4⟩:M.Pf).form (⟨(s1,s2),(e1,e2),z1,z2,z3,z4⟩:M.Pf).rows=true):=M.rows_some;have HE:=Hd he;have H1:=Hd h1;have H2:=Hd h2;have H3:=Hd h3;have H4:=Hd h4;clear he h1 h2 h3 h4
 have Fa:∀(N:Nat) (W:World),M.rowsN N=true→m.ok=true→(⟨(s1,s2),(e1,e2),z1,z2,z3,z4⟩:M.Pf).form N=true→EnvX W aL aN aG aE aR→aw W a1 n1 c1 z1→aw W a2 n2 c2 z2→aw W a3 n3 c3 z3→aw W a4 n4 c4 z4→Calls prog 60 #[kP N,.iface 165 (cZ m),.agg #[.int .i64 s1,.int .i64 s2,.int .i64 e1,.int .i64 e2,.slice a1 n1 c1,.slice a2 n2 c2,.slice a3 n3 c3,.slice a4 n4 c4]] W fun e w'=>FP (M.accN m (⟨(s1,s2),(e1,e2),z1,z2,z3,z4⟩:M.Pf) N) e∧m1 W w':=fun N W hN hm hf e g1 g2 g3 g4=>by
  obtain⟨⟨q1,r1⟩,⟨q2,r2⟩,⟨q3,r3⟩,⟨q4,r4⟩,_,_⟩:=(M.form_iff _ _).1 hf;dsimp only at q1 q2 q3 q4 r1 r2 r3 r4;have u1:=g1.len.symm.trans q1;have u2:=g2.len.symm.trans q2;have u3:=g3.len.symm.trans q3;have u4:=g4.len.symm.trans q4;subst u1 u2 u3 u4;exact oD m s1 s2 e1 e2 N W hN hm e g1 g2 g3 g4 r1 r2 r3 r4
 have Za:=fun N W h=>qA N W h;generalize M.acc m (⟨(s1,s2),(e1,e2),z1,z2,z3,z4⟩:M.Pf)=oA at *;generalize(⟨(s1,s2),(e1,e2),z1,z2,z3,z4⟩:M.Pf)=P at Ya Ja Oa Ga Ka Fa;generalize m.ok=om at C1 Ja Ga Fa;generalize Ab:Value.iface 165 (cZ m)=IF at Fa;rw[Ab]at C1;have La:H9 (∃Pa:M.Pf→Nat→Bool,Pa=M.accN m):=⟨_,rfl⟩;obtain⟨Pa,Bb⟩:=La.o;rw[←Bb]at Ga Fa;clear Ab Bb La;obtain⟨⟨a,b,c,d,f,k⟩,⟨a',b',c',d',f',k'⟩⟩:=m;dsimp only[cZ]at C1 ⊢;have Ea:m1 w ((w.alloc (.cells (cr a b c d f k a' b' c' d' f' k').toArray 31)).alloc (.cells (bi s1 s2 e1 e2 a1 n1 c1 a2 n2 c2 a3 n3 c3 a4 n4 c4).toArray 35)):=((m5 _ _).alloc (m3 _) _).alloc (by simp) _;have Cb:H9 (au ((w.alloc (.cells (cr a b c d f k a' b' c' d' f' k').toArray 31)).alloc (.cells (bi s1 s2 e1 e2 a1 n1 c1 a2 n2 c2 a3 n3 c3 a4 n4 c4).toArray 35)) (w.heap.size+1) (bi s1 s2 e1 e2 a1 n1 c1 a2 n2 c2 a3 n3 c3 a4 n4 c4)):=aZ _ _ _ _;have Qa:=Hd Ea;have Db:=Hd (HE.o.below Ea);have Eb:=Hd (H1.o.below Ea);have Fb:=Hd (H2.o.below Ea);have Gb:=Hd (H3.o.below Ea);have Hb:=Hd (H4.o.below Ea);clear Ea HE H1 H2 H3 H4;go_enter func28,ntmps28;(go_wp2_with fail);refine(C1 _).mono ?_;rintro e w1 ⟨v,rfl,hv,hb⟩;have Aa:=Cb.b hb;have Ha:=Qa.t hb;have Ia:=Hd (Db.o.below hb);have Ra:=Hd (Eb.o.below hb);have Sa:=Hd (Fb.o.below hb);have Ta:=Hd (Gb.o.below hb);have Ua:=Hd (Hb.o.below hb);clear Cb Qa Db Eb Fb Gb Hb;clear hb;have HV:=Hd hv;clear hv
 cases om with
 | false=>
  have gN:=Ia.o.env.cN;(go_wp2_with fail);refine(bJ _ aN _ Ia.o.env).mono ?_;rintro e w9 ⟨rfl,Ib⟩;have Bc:=Ha.t Ib;clear Ib;go_wp2;go_ret;exact⟨.inr ⟨Ja.o (by simp),_,_,_,rfl⟩,Bc.o⟩
 | true=>
 obtain rfl:v=IF:=HV.o rfl;clear HV;have p0:=Aa.c 0;have p1:=Aa.c 1;have p2:=Aa.c 2;have p3:=Aa.c 3;have p4:=Aa.c 4;have p5:=Aa.c 5;have p6:=Aa.c 6;have p7:=Aa.c 7;(go_wp2_with fail);refine(Ya _ Ia.o Ra.o Sa.o Ta.o Ua.o).mono ?_;rintro e w2 ⟨hp,hb⟩;have Jb:=Aa.b hb;have Na:=Ha.t hb;have Kb:=Hd (Ia.o.below hb);have Lb:=Hd (Ra.o.below hb);have Nb:=Hd (Sa.o.below hb);have Ob:=Hd (Ta.o.below hb);have Pb:=Hd (Ua.o.below hb);clear Aa Ha Ia Ra Sa Ta Ua;clear hb;clear p0 p1 p2 p3 p4 p5 p6 p7
 rcases hp with⟨hr,rfl⟩ | ⟨hr,ps,pq,pv,rfl⟩
 rotate_left
 ·
  have HR:=Hd hr;clear hr;have Fc:=fun W=>aP (P:=prog) W 167 (.agg #[.string ps,it pq,.iface 293 (.pointer (some pv))]) underlying73;unfold iB;go_wp2;go_ret;exact⟨.inr ⟨Oa.o HR.o,_,_,_,rfl⟩,Na.o⟩
 have Va:=Hd ((Ka.o hr).1);have Cc:=Hd ((Ka.o hr).2);have La:=Hd (Ga.o (by simp) hr);have Gc:=(M.rowsN_pos Va.o).2;clear hr Ga Ka Oa Ja;generalize P.rows=R at *;(go_wp2_with fail);refine(Za R _ Va.o).mono ?_;rintro e w3 ⟨rfl,hb⟩;have Qb:=Jb.b hb;have Wa:=Na.t hb;have Rb:=Hd (Kb.o.below hb);have Sb:=Hd (Lb.o.below hb);have Tb:=Hd (Nb.o.below hb);have Ub:=Hd (Ob.o.below hb);have Vb:=Hd (Pb.o.below hb);clear Jb Na Kb Lb Nb Ob Pb;clear hb;have CF:=fun W e g1 g2 g3 g4=>Fa R W Va.o (by simp) Cc.o e g1 g2 g3 g4;clear Fa Za;unfold kP at CF ⊢;generalize M.root (R:Int)=R1 at *;generalize M.root (4*(R:Int))=R4 at *;generalize M.lst R=la at *;have Ca:=fh w3 (.cells (cF (R:Int) R1 (4*(R:Int)) R4 la).toArray 127);have Ba:=Qb.b Ca;have Xa:=Wa.t Ca;have Wb:=Hd (Rb.o.below Ca);have Xb:=Hd (Sb.o.below Ca);have Yb:=Hd (Tb.o.below Ca);have Zb:=Hd (Ub.o.below Ca);have Ac:=Hd (Vb.o.below Ca);clear Qb Wa Rb Sb Tb Ub Vb;clear Ca;have Da:=cC w3 (cF (R:Int) R1 (4*(R:Int)) R4 la) 127;have f0:=Da.c 0;have f1:=Da.c 1;have f2:=Da.c 2;have f3:=Da.c 3;have f4:=Da.c 4;have f5:=Da.c 5;have f6:=Da.c 6;have p0:=Ba.c 0;have p1:=Ba.c 1;have p2:=Ba.c 2;have p3:=Ba.c 3;have p4:=Ba.c 4;have p5:=Ba.c 5;have p6:=Ba.c 6;have p7:=Ba.c 7;(go_wp2_with fail);clear p0 p1 p2 p3 p4 p5 p6 p7 f0 f1 f2 f3 f4 f5 f6;refine((CF _ Wb.o Xb.o Yb.o Zb.o Ac.o).mono fun _ _ hp=>FP.val hp).mono ?_;rintro e w5 ⟨v2,rfl,Dc,hb⟩;have Ec:=Xa.t hb;clear Ba Xa Wb Xb Yb Zb Ac Da;clear hb;go_wp2;go_ret;refine⟨?_,Ec.o⟩;rw[La.o]
 rcases Dc with⟨h1,rfl⟩ | ⟨h1,s,p,a,rfl⟩
 ·exact .inl ⟨h1,rfl⟩
 ·exact .inr ⟨h1,s,p,a,rfl⟩
theorem fk(m:M.Mc)(s1 s2 e1 e2:Int)(w:World)(he:EnvX w aL aN aG aE aR)(h1:aw w a1 n1 c1 z1)(h2:aw w a2 n2 c2 z2)(h3:aw w a3 n3 c3 z3)(h4:aw w a4 n4 c4 z4):
  Rt 9 #[cZ m,.agg #[.int .i64 s1,.int .i64 s2,.int .i64 e1,.int .i64 e2,.slice a1 n1 c1,.slice a2 n2 c2,.slice a3 n3 c3,.slice a4 n4 c4]] w (.bool (M.acc m (⟨(s1,s2),(e1,e2),z1,z2,z3,z4⟩:M.Pf))):=by
 have CF:∀W,EnvX W aL aN aG aE aR→aw W a1 n1 c1 z1→aw W a2 n2 c2 z2→aw W a3 n3 c3 z3→aw W a4 n4 c4 z4→Calls prog 28 #[cZ m,.agg #[.int .i64 s1,.int .i64 s2,.int .i64 e1,.int .i64 e2,.slice a1 n1 c1,.slice a2 n2 c2,.slice a3 n3 c3,.slice a4 n4 c4]] W fun e w'=>∃v,e=.returned v∧FV (M.acc m (⟨(s1,s2),(e1,e2),z1,z2,z3,z4⟩:M.Pf)) v∧m1 W w':=fun W e g1 g2 g3 g4=>(oC m s1 s2 e1 e2 W e g1 g2 g3 g4).mono fun _ _ hp=>FP.val hp;generalize M.acc m (⟨(s1,s2),(e1,e2),z1,z2,z3,z4⟩:M.Pf)=oA at *;obtain⟨⟨a,b,c,d,f,k⟩,⟨a',b',c',d',f',k'⟩⟩:=m;dsimp only[cZ]at CF ⊢;have Aa:m1 w ((w.alloc (.cells (cr a b c d f k a' b' c' d' f' k').toArray 31)).alloc (.cells (bi s1 s2 e1 e2 a1 n1 c1 a2 n2 c2 a3 n3 c3 a4 n4 c4).toArray 35)):=((m5 _ _).alloc (m3 _) _).alloc (by simp) _;have Ba:=Hd Aa;have Ca:=Hd (he.below Aa);have Da:=Hd (h1.below Aa);have Ea:=Hd (h2.below Aa);have Fa:=Hd (h3.below Aa);have Ga:=Hd (h4.below Aa);clear Aa he h1 h2 h3 h4;go_enter func9,ntmps9;(go_wp2_with fail);refine(CF _ Ca.o Da.o Ea.o Fa.o Ga.o).mono ?_;rintro e w1 ⟨v,rfl,hv,hb⟩;have Ha:=Ba.t hb;clear Ba Ca Da Ea Fa Ga;clear hb
 rcases hv with⟨rfl,rfl⟩ | ⟨rfl,ps,pq,pv,rfl⟩
 ·
  go_wp2;go_ret;exact⟨rfl,Ha.o⟩
 ·
  have Ia:=fun W=>run_eql_iface_nil_left (P:=prog) W 167 (.agg #[.string ps,it pq,.iface 293 (.pointer (some pv))]) underlying73;unfold iB;go_wp2;go_ret;exact⟨rfl,Ha.o⟩
end
end Go.Proofs.YtobnifjhikoleaaGreatDoor
