import Derived.Test.YtjcjonncaknhnaaGreatDoorPk06
import Derived.Test.YtjcjonncaknhnaaGreatDoorPk05
namespace Go.Proofs.YtjcjonncaknhnaaGreatDoor
open Go.RowKit Go.Proofs.Tryz
set_option linter.unusedSimpArgs false
set_option maxHeartbeats 32000000
variable {n N lc i':Nat}{zs:List Int}{la:Option Addr}{t:TypeId}{w w':World}
theorem qe(h:M.two (n:Int)=true)(h0:0<n):M.root n≠0:=by
 intro e;have h1:=M.root_n h;rw[e]at h1;obtain⟨k,rfl⟩:∃k,n=k+1:=⟨n-1,by omega⟩;rw[Int.pow_succ,Int.mul_zero]at h1;unfold M.cg at h1;omega
theorem pY{i:Nat}(st:Int)(h:i<zs.length):(M.pv (zs.take i) st%65537+zs.getD i 0*(st ^ i%65537))%65537=M.pv (zs.take (i+1)) st%65537:=by
 rw[M.pv_take _ _ h];exact(M.cg_mod _).add ((M.cg.refl _).mul (M.cg_mod _))
theorem qX(st:Int)(i:Nat):st ^ i%65537*st%65537=st ^ (i+1)%65537:=by
 rw[M.mm,Int.pow_succ]
def eV(zs:List Int)(s:Int)(N k:Nat):List Int:=M.tab N (fun i=>if i<k then M.frc zs s i else 0)
theorem l6(zs:List Int)(s:Int)(N:Nat):List.replicate N 0=eV zs s N 0:=by
 refine ii (by simp) fun i hi=>?_;rw[if_neg (by omega),tu,tw (by simpa using hi)];simp
theorem nD(zs:List Int)(s:Int)(N:Nat):eV zs s N N=M.tab N (M.frc zs s):=dn fun _ hi=>if_pos hi
theorem l5(zs:List Int)(s:Int){k:Nat}:(eV zs s N k).set k (M.frc zs s k)=eV zs s N (k+1):=by
 unfold eV;rw[ij];refine dn fun i _=>?_;by_cases e:i=k
 ·subst e;rw[if_pos rfl,if_pos (by omega)]
 ·
  rw[if_neg e];by_cases e2:i<k
  ·rw[if_pos e2,if_pos (by omega)]
  ·rw[if_neg e2,if_neg (by omega)]
theorem oU(s:Int)(w:World)(hz:ah w la N lc zs)(az:M.allEl zs=true)(hp:M.ptOk N s=true):
  Calls prog 124 #[.slice la N lc,.int .i64 s] w fun e w'=>∃a' m c',e=.returned (.slice a' m c')∧ar 2 w' w.heap.size a' m c' (M.frs zs s)∧Below w.heap.size w w':=by
 have HZ:=Hd (hz);have HA:=Hd (az);obtain⟨h1,h2,h3⟩:=M.ptOk_parts hp;obtain⟨s0,s1⟩:=(M.el_iff s).1 h2;obtain⟨kk,Ua,hN,Va⟩:=pO h1;clear Ua;have Wa:H9 (M.inv (M.root N)=M.pw (M.root N) 65535):=M.inv_in (M.root_el (M.two64_two h1)) (qe (M.two64_two h1) Va);have Xa:H9 (M.inv (N:Int)=M.pw (N:Int) 65535):=M.inv_in ((M.el_iff _).2 ⟨by omega,by omega⟩) (by omega);have Ya:H9 (M.inv s=M.pw s 65535):=M.inv_in h2 h3
 have HM:H9 (∀k,M.pv zs (M.pw (M.pw (M.root N) 65535) k)%65537*M.pw N 65535%65537*M.pw (M.pw s 65535) k%65537=M.frc zs s k):=fun k=>by
  have:=l7 zs s k;rw[hz.len]at this;exact this
 have HF:H9 (M.trim (M.tab N (M.frc zs s))=M.frs zs s):=(by show _=_;unfold M.frs;rw[hz.len]);obtain⟨r0,r1⟩:=M.pw_bd (M.root N) 65535;obtain⟨n0,n1⟩:=M.pw_bd (N:Int) 65535;obtain⟨u0,u1⟩:=M.pw_bd s 65535;clear hz az h1 h2 h3 hp;go_enter func124,ntmps124;(go_wp2_with fail);refine(fj N _).mono ?_;rintro e w ⟨rfl,rfl⟩;(go_wp2_with fail);refine(fG (M.root N) _).mono ?_;rintro e w ⟨rfl,rfl⟩;rw[Wa.o];(go_wp2_with fail);refine(fG (N:Int) _).mono ?_;rintro e w ⟨rfl,rfl⟩;rw[Xa.o];(go_wp2_with fail);refine(fG s _).mono ?_;rintro e w ⟨rfl,rfl⟩;rw[Ya.o];generalize M.pw (M.root N) 65535=bk at *;generalize M.pw (N:Int) 65535=sl at *;generalize M.pw s 65535=us at *;obtain⟨i0,hi,Ea,Fa,Ga⟩:=info_parts cn;(go_wp2_with(at_make;refine wpList_make_full _ rfl _ _ 24 rfl w.heap.size 2 i0 (it 0) 1 underlying24 hi Ea Fa .i64 .i64 _ _ N rfl rfl rfl rfl (by rw[Ga];omega) (by unfold maxLen;omega) (tr _) ?_));intro w1 Ba hg
 have HO:H9 (ar 2 w1 w.heap.size (some ⟨w.heap.size,0,none⟩) N N (eV zs s N 0)):=by
  show w1.ownsRow _ _ _ _ _ _;rw[iE,l6 zs s]at Ba;exact Ba
 have HB:H9 (Below w.heap.size w w1):=bq hg;clear Ba hg hi Ea Fa Ga;go_wp2
 go_loopw [10] (fun i wr=>∃k:Nat,k≤N∧i=it k∧ar 2 wr w.heap.size (some ⟨w.heap.size,0,none⟩) N N (eV zs s N k)∧Below w.heap.size w wr) (fun i _=>N-(intOf i).toNat)
 case atStart=>exact⟨0,by omega,rfl,HO.o,HB.o⟩
 case round=>
  obtain⟨k,hk,rfl,Ha,Ia⟩:=hrel;have Ca:=Hd (Ha);have Aa:=Hd (Ia);clear Ha Ia HO HB;by_cases Za:k<N
  ·
   have hI:(k:Int)<(N:Int):=(by omega);have Ja:H9 (M.pv zs (M.pw bk k)%65537*sl%65537*M.pw us k%65537=M.frc zs s k):=HM.o k;obtain⟨t0,t1⟩:=M.pw_bd bk k;obtain⟨v0,v1⟩:=M.pw_bd us k;(go_wp2_with fail);refine(dC bk k _ r0 r1 (by omega)).mono ?_;rintro e wr ⟨rfl,rfl⟩;generalize M.pw bk k=st at *;generalize Ka:M.pw us k=pu at Ja v0 v1;have Ab:=Hd (Ka);clear Ka;have Bb:=Hd (HZ.o.below Aa.o);go_wp2
   go_loop [11,12,14] (fun a x i=>∃j:Nat,j≤N∧i=it j∧a=it (M.pv (zs.take j) st%65537)∧x=it (st ^ j%65537)) (fun _ _ i=>N-(intOf i).toNat)
   case atStart=>exact⟨0,by omega,rfl,rfl,by rw[Int.pow_zero];rfl⟩
   case round=>
    obtain⟨j,hj,rfl,rfl,rfl⟩:=hrel;by_cases La:j<N
    ·
     obtain⟨b1,o1,rfl,Na⟩:=Bb.o.at (by omega);have d1:=Na j La;have Oa:=cc HA.o j;have Pa:H9 ((M.pv (zs.take j) st%65537+zs.getD j 0*(st ^ j%65537))%65537=M.pv (zs.take (j+1)) st%65537):=pY st (by rw[HZ.o.len];exact La);have Cb:H9 (st ^ j%65537*st%65537=st ^ (j+1)%65537):=qX st j;have Da:0≤M.pv (zs.take j) st%65537∧M.pv (zs.take j) st%65537<65537:=(by omega);have Db:0≤st ^ j%65537∧st ^ j%65537<65537:=(by omega);generalize zs.getD j 0=x at d1 Oa Pa;generalize M.pv (zs.take j) st%65537=a at *;generalize st ^ j%65537=y at *;obtain⟨x0,x1⟩:=Oa;obtain⟨a0,a1⟩:=Da;obtain⟨y0,y1⟩:=Db;obtain⟨m0,m1⟩:=M.mul_bd x0 x1 y0 y1;obtain⟨m2,m3⟩:=M.mul_bd y0 y1 t0 t1;have hJ:(j:Int)<(N:Int):=(by omega);clear Na;go_wp2
     go_round
     case rel=>exact⟨j+1,by omega,by go_num,by rw[Pa.o],by rw[Cb.o]⟩
     case measure=>simp[intOf];omega
    ·
     have Eb:j=N:=(by omega);subst Eb;have HT:H9 (M.pv (zs.take j) st=M.pv zs st):=(by show _=_;rw[tF (by rw[HZ.o.len];exact tr _)]);have Da:0≤M.pv (zs.take j) st%65537∧M.pv (zs.take j) st%65537<65537:=(by omega);have HV:H9 (M.pv (zs.take j) st%65537*sl%65537*pu%65537=M.frc zs s k):=(by show _=_;rw[HT.o];exact Ja.o);generalize M.pv (zs.take j) st%65537=a at *;obtain⟨a0,a1⟩:=Da;obtain⟨m0,m1⟩:=M.mul_bd a0 a1 n0 n1;have b0:0≤a*sl%65537:=Int.emod_nonneg _ (by decide);have b1:a*sl%65537<65537:=Int.emod_lt_of_pos _ (by decide);obtain⟨m2,m3⟩:=M.mul_bd b0 b1 v0 v1;obtain⟨g,Qa,_,_,Ra,hf⟩:=Ca.o.block (by omega);simp only[Option.some.injEq,Addr.mk.injEq,and_true]at Qa;subst Qa;have d2:=Ra k Za;have f2:=hf k;have Fb:H9 ((eV zs s j k).set k (M.frc zs s k)=eV zs s j (k+1)):=l5 zs s;clear Ra hf;(go_wp2_with fail);refine(dC us k _ u0 u1 (by omega)).mono ?_;rintro e wr ⟨rfl,rfl⟩;rw[Ab.o];go_wp2;go_roundw
     case rel=>exact⟨k+1,by omega,by go_num,by rw[←Fb.o,←HV.o];exact Ca.o.set k _,Aa.o.setCell (tr _) _⟩
     case measure=>simp[intOf];omega
  ·
   have Gb:k=N:=(by omega);subst Gb;(go_wp2_with fail);refine(oT _ Ca.o.sees (by omega)).mono ?_;rintro e w2 ⟨a2,m2,c2,rfl,Sa,Ta⟩
   have Hb:H9 (ar 2 w2 w.heap.size a2 m2 c2 (M.frs zs s)):=by
    show ar _ _ _ _ _ _ _;rw[←HF.o,←nD];exact Sa.mono Aa.o.size
   have Ib:=Hd (Aa.o.trans (Ta.mono Aa.o.size));clear Sa Ta;go_wp2;go_ret;exact⟨a2,m2,c2,rfl,Hb.o,Ib.o⟩
def jC(zs:List Int)(s m:Int):Bool:=M.frOk zs s&&decide (((iQ zs s).length:Int)≤m)
theorem dI(s m:Int)(w:World)(hz:ah w la N lc zs):
  Rt 247 #[.slice la N lc,.int .i64 s,.int .i64 m] w (.bool (jC zs s m)):=by
 have HZ:=Hd (hz);clear hz
 cases h:M.frOk zs s with
 | false=>
  have E:H9 (jC zs s m=false):=(by show _=_;simp[jC,h]);go_enter func247,ntmps247;(go_wp2_with fail);refine(es s _ HZ.o).mono ?_;rintro e w1 ⟨a1,m1,c1,rfl,hm,Ba,Aa⟩;have Ca:=Hd (Aa);clear Ba Aa;go_wp2;go_ret;exact⟨ag E.o.symm,Ca.o⟩
 | true=>
  have E:H9 (jC zs s m=decide (((iQ zs s).length:Int)≤m)):=(by show _=_;simp[jC,h]);go_enter func247,ntmps247;(go_wp2_with fail);refine(es s _ HZ.o).mono ?_;rintro e w1 ⟨a1,m1,c1,rfl,hm,Ba,Aa⟩;have HL:H9 ((iQ zs s).length=m1):=Ba.len;have Ca:=Hd (Aa);clear Ba Aa;go_wp2;go_ret;exact⟨ag (by rw[E.o,HL.o]),Ca.o⟩
namespace M
theorem gp_get(s q:Int)(n i:Nat)(h:i<n):(gp s q n).getD i 0=s*q ^ i%65537:=tab_get _ _ _ h
theorem frs_all(v:List Int)(s:Int):allEl (frs v s)=true:=all_trim (all_tab fun i _=>(el_iff _).2 ⟨by unfold frc;omega,by unfold frc;omega⟩)
end M
namespace M
def turn(f:List Int)(g:Int):List Int:=trim (tab f.length (fun i=>f.getD i 0*(g ^ i%65537)%65537))
def rl(r:Rl)(x y:List Int):List Int:=
 trim (padd (trim (padd (trim (padd (trim (padd (trim (padd (trim (pscale (pmul x x) r.xx)) (trim (pscale (pmul x y) r.xy)))) (trim (pscale (pmul y y) r.yy)))) (trim (pscale x r.x)))) (trim (pscale y r.y)))) (trim [r.k]))
def left(f rule:List Int)(g last:Int):List Int:=pmul (trim (padd (turn f g) (trim (pscale rule 65536)))) [sub 0 last,1]
def lst(n:Nat):Int:=pw (root n) (n-1)
theorem el_lst(n:Nat):el (lst n)=true:=el_pw _ _
theorem row_pt(h:two64 (n:Int)=true):ptOk n 1=true:=ptOk_mk h (by decide) (by decide)
def zp(n i:Nat):Int:=3*root (4*n:Nat) ^ i%65537
theorem zp_bd(n i:Nat):0≤zp n i∧zp n i<65537:=by unfold zp;omega
theorem el_zp(n i:Nat):el (zp n i)=true:=(el_iff _).2 (zp_bd n i)
def zer(n i:Nat):Int:=(pw (zp n i) n+65537-1)%65537
theorem zer_bd(n i:Nat):0≤zer n i∧zer n i<65537:=by unfold zer;omega
def rowsN(n:Nat):Bool:=n==2||n==4||n==8||n==16
theorem rowsN_cases(h:rowsN n=true):n=2∨n=4∨n=8∨n=16:=by
 unfold rowsN at h;simp only[Bool.or_eq_true,beq_iff_eq]at h;omega
theorem rowsN_two(h:rowsN n=true):two64 (n:Int)=true:=by
 rcases rowsN_cases h with rfl | rfl | rfl | rfl <;> decide
theorem rowsN_two4(h:rowsN n=true):two64 ((4*n:Nat):Int)=true:=by
 rcases rowsN_cases h with rfl | rfl | rfl | rfl <;> decide
theorem rowsN_pt(h:rowsN n=true):ptOk ((4*n:Nat):Int) 3=true:=ptOk_mk (rowsN_two4 h) (by decide) (by decide)
def mis(r:Rl)(X Y F:List Int)(n i:Nat):Int:=(F.getD ((i+4)%(4*n)) 0+65537-r.app (X.getD i 0) (Y.getD i 0))%65537*((zp n i+65537-lst n)%65537)%65537
end M
namespace M
theorem frOk_wide{v:List Int}(h:rowsN n=true)(hl:v.length=4*n)(ha:allEl v=true):frOk v 3=true:=by
 unfold frOk;rw[hl,rowsN_pt h,ha];rfl
theorem rowsN_pos(h:rowsN n=true):2≤n∧n≤16:=by rcases rowsN_cases h with rfl | rfl | rfl | rfl <;> omega
structure Pf where
 s:Int×Int
 e:Int×Int
 X:List Int
 Y:List Int
 QX:List Int
 QY:List Int
def lenEl(l:List Int)(n:Nat):Bool:=decide (l.length=4*n)&&allEl l
def Pf.form(p:Pf)(n:Nat):Bool:=lenEl p.X n&&(lenEl p.Y n&&(lenEl p.QX n&&(lenEl p.QY n&&(sOk p.s&&sOk p.e))))
def Pf.rows(p:Pf):Nat:=if p.form 2=true then 2 else if p.form 4=true then 4 else if p.form 8=true then 8 else if p.form 16=true then 16 else 0
theorem lenEl_iff(l:List Int)(n:Nat):lenEl l n=true↔l.length=4*n∧allEl l=true:=by unfold lenEl;rw[tZ,decide_eq_true_iff]
theorem form_iff(p:Pf)(n:Nat):p.form n=true↔(p.X.length=4*n∧allEl p.X=true)∧(p.Y.length=4*n∧allEl p.Y=true)∧(p.QX.length=4*n∧allEl p.QX=true)∧(p.QY.length=4*n∧allEl p.QY=true)∧sOk p.s=true∧sOk p.e=true:=by
 unfold Pf.form;simp only[tZ,lenEl_iff]
theorem rows_of{p:Pf}(h:rowsN n=true)(hf:p.form n=true):p.rows=n:=by
 have hl:=((form_iff p n).1 hf).1.1;have no:∀k,k≠n→¬ p.form k=true:=fun k hk hc=>by have:=((form_iff p k).1 hc).1.1;omega
 unfold Pf.rows
 rcases rowsN_cases h with rfl | rfl | rfl | rfl
 ·rw[if_pos hf]
 ·rw[if_neg (no 2 (by omega)),if_pos hf]
 ·rw[if_neg (no 2 (by omega)),if_neg (no 4 (by omega)),if_pos hf]
 ·rw[if_neg (no 2 (by omega)),if_neg (no 4 (by omega)),if_neg (no 8 (by omega)),if_pos hf]
theorem rows_some{p:Pf}(h:p.rows≠0):rowsN p.rows=true∧p.form p.rows=true:=by
 unfold Pf.rows at *;by_cases h2:p.form 2=true
 ·rw[if_pos h2];exact⟨rfl,h2⟩
 rw[if_neg h2]at *;by_cases h4:p.form 4=true
 ·rw[if_pos h4];exact⟨rfl,h4⟩
 rw[if_neg h4]at *;by_cases h8:p.form 8=true
 ·rw[if_pos h8];exact⟨rfl,h8⟩
 rw[if_neg h8]at *;by_cases Aa:p.form 16=true
 ·rw[if_pos Aa];exact⟨rfl,Aa⟩
 rw[if_neg Aa]at h;exact absurd rfl h
def qOk(r:Rl)(X Y F Q:List Int)(n k:Nat):Bool:=(List.range k).all fun i=>Q.getD i 0*zer n i%65537==mis r X Y F n i
def lenOk(l:List Int)(n:Nat):Bool:=decide ((frs l 3).length≤n)
def endOk(p:Pf)(n:Nat):Bool:=(decide (ev (frs p.X 3) 1=p.s.1)&&decide (ev (frs p.Y 3) 1=p.s.2))&&(decide (ev (frs p.X 3) (lst n)=p.e.1)&&decide (ev (frs p.Y 3) (lst n)=p.e.2))
def accN(m:Mc)(p:Pf)(n:Nat):Bool:=(lenOk p.X n&&(lenOk p.Y n&&(lenOk p.QX n&&lenOk p.QY n)))&&(endOk p n&&(qOk m.X p.X p.Y p.X p.QX n (4*n)&&qOk m.Y p.X p.Y p.Y p.QY n (4*n)))
def acc(m:Mc)(p:Pf):Bool:=m.ok&&(decide (p.rows≠0)&&accN m p p.rows)
end M
structure PA where
 x:Option Addr
 xc:Nat
 y:Option Addr
 yc:Nat
 qx:Option Addr
 qxc:Nat
 qy:Option Addr
 qyc:Nat
def PA.zero:PA:=⟨none,0,none,0,none,0,none,0⟩
def M.Pf.zero:M.Pf:=⟨(0,0),(0,0),[],[],[],[]⟩
structure pN(w:World)(p:M.Pf)(a:PA):Prop where
 x:ah w a.x p.X.length a.xc p.X
 y:ah w a.y p.Y.length a.yc p.Y
 qx:ah w a.qx p.QX.length a.qxc p.QX
 qy:ah w a.qy p.QY.length a.qyc p.QY
structure iW(t:TypeId)(w:World)(i':Nat)(p:M.Pf)(a:PA):Prop where
 x:ar t w i' a.x p.X.length a.xc p.X
 y:ar t w i' a.y p.Y.length a.yc p.Y
 qx:ar t w i' a.qx p.QX.length a.qxc p.QX
 qy:ar t w i' a.qy p.QY.length a.qyc p.QY
def kf(a b:Option Addr):Prop:=∀x y,a=some x→b=some y→x.block≠y.block
theorem kf.symm{a b:Option Addr}(h:kf a b):kf b a:=fun x y hx hy e=>h y x hy hx e.symm
theorem iW.sees{p:M.Pf}{a:PA}(h:iW t w i' p a):pN w p a:=⟨h.x.sees,h.y.sees,h.qx.sees,h.qy.sees⟩
theorem iW.below{p:M.Pf}{a:PA}(h:iW t w i' p a)(hb:Below w.heap.size w w'):iW t w' i' p a:=⟨h.x.below hb,h.y.below hb,h.qx.below hb,h.qy.below hb⟩
theorem iW.mono{base':Nat}{p:M.Pf}{a:PA}(h:iW t w i' p a)(hb:base'≤i'):iW t w base' p a:=⟨h.x.mono hb,h.y.mono hb,h.qx.mono hb,h.qy.mono hb⟩
theorem pN.below{p:M.Pf}{a:PA}(h:pN w p a)(hb:Below w.heap.size w w'):pN w' p a:=⟨h.x.below hb,h.y.below hb,h.qx.below hb,h.qy.below hb⟩
end Go.Proofs.YtjcjonncaknhnaaGreatDoor
