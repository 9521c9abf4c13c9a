import Derived.Test.YtbjalickbnpnkaaGreatDoorPk30
import Derived.Test.YtbjalickbnpnkaaGreatDoorPk23
import Derived.Test.YtbjalickbnpnkaaGreatDoorPk26
namespace Go.Proofs.YtbjalickbnpnkaaGreatDoor
open Go.RowKit Go.Proofs.Tryz
set_option linter.unusedSimpArgs false
set_option maxHeartbeats 32000000
set_option maxRecDepth 10000
variable {now sr:Int}{bs:List Int}{qs:List MQ}{len p nb cb nj cj R:Nat}{m:M.Mt}{A:aY}{ab aj:Option Addr}{W w:World}
theorem M.Right.shape(h:M.Right now sr bs (qs.map (·.1))):(∀q∈qs,0<=q.1.rows/\q.1.rows<=16/\q.1.ts.length<=8):=λq hq=>by
 have hm:q.1∈qs.map (·.1):=List.mem_map.2 ⟨q,hq,rfl⟩;have h1:=(h.jok hm);have h2:=(h.tasks _ hm).2;have h3:=gk h1.r;exact⟨by omega,by omega,h2⟩
def ge(m:M.Mt)(a:aY):M.Mt×Int×Int:=bu m.now m.next m.bs m.js a.kind a.id a.part a.dC a.many a.m.X.xx a.m.X.xy a.m.X.yy a.m.X.x a.m.X.y a.m.X.k a.m.Y.xx a.m.Y.xy a.m.Y.yy a.m.Y.x a.m.Y.y a.m.Y.k a.s.1 a.s.2 a.P.s.1 a.P.s.2 a.P.e.1 a.P.e.2 a.P.X.length a.P.Y.length a.P.QX.length a.P.QY.length a.P.X a.P.Y a.P.QX a.P.QY
def mJ(zs:List Int)(len:Nat):Nat->M.Mt->Nat->M.Mt×Nat
 | 0,m,p=>(m,p)
 | n+1,m,p=>be (dZ zs len m.js p) λa p=>mJ zs len n (ge m a).1 p
theorem rm{zs:List Int}{n:Nat}{a:aY}{q:Nat}(hn:0<n)(h:dZ zs len m.js p=(a,q)):mJ zs len n m p=mJ zs len (n-1) (ge m a).1 q:=by
 obtain⟨k,rfl⟩:∃k,n=k+1:=⟨n-1,by omega⟩;show be _ _=_;rw[h]
 rfl
def kL(zs:List Int)(len:Nat)(m:M.Mt)(p:Nat):M.Mt×Nat:=be (cV zs len 40 p) λy p=>if y=38 then be (pp zs len 0 9 p) λz p=>(⟨z,m.next,m.bs,m.js⟩,p)else if y=39 then be (pp zs len 1 9 p) λz p=>(⟨m.now,m.next,m.bs++[z],m.js⟩,p)else(m,p)
def rj(zs:List Int)(len:Nat)(most:Int)(p:Nat):M.Mt×Nat:=be (cV zs len (most+1) p) λv p=>be (mJ zs len v.toNat ⟨0,1,[],[]⟩ p) (kL zs len)
theorem nv(h:M.Right m.now m.next m.bs m.js):(ge m A).1.right:=M.acted_right (m:=m) h
theorem fM.av(h:fM){js:List M.Jb}{a:PA}(hz:co W ab nb cb aj nj cj bs js)(hs:dw W A.P a)(hf:A.P.few):Calls prog 7 #[.agg #[it now,it sr,.slice ab nb cb,.slice aj nj cj],.agg (bQ A a).toArray] W (bp W W.heap.size (ge ⟨now,sr,bs,js⟩ A)):=
 h ab aj nb cb nj cj bs js now sr _ _ _ _ _ _ _ _ _ _ _ _ _ _ _ _ _ _ _ _ _ _ _ _ _ _ _ _ _ _ _ _ _ _ _ _ _ _ _ W hz hs.x hs.y hs.qx hs.qy (tr hf.1 (by decide)) (tr hf.2.1 (by decide)) (tr hf.2.2.1 (by decide)) (tr hf.2.2.2 (by decide))
def pL(w0 w:World)(R:Nat)(ca:Option Addr)(len cap:Nat)(V:M.Mt×Nat)(e:Ending)(W:World):Prop:=∃(now sr:Int) (ab:Option Addr) (nb cb:Nat) (bs:List Int) (aj:Option Addr) (nj cj:Nat) (qs:List MQ) (p':Nat),
 e=.returned (.agg #[it now,it sr,.slice ab nb cb,.slice aj nj cj])/\aW W w.heap.size ab nb cb bs aj nj cj qs/\(∀q∈qs,0<=q.1.rows/\q.1.rows<=16/\q.1.ts.length<=8)/\nj<=6/\Rd w0 R ca len cap p' W/\w.grownBy W (some R)/\V=(⟨now,sr,bs,qs.map (·.1)⟩,p')
def uD(w:World)(R:Nat)(now sr:Int)(ab:Option Addr)(nb cb:Nat)(bs:List Int)(aj:Option Addr)(nj cj:Nat)(qs:List MQ)(W:World):Prop:=aw W w.heap.size [it 0,it 0,.slice none 0 0,.slice none 0 0]/\aw W (w.heap.size+1) [it now,it sr,.slice ab nb cb,.slice aj nj cj]/\w.grownBy W (some R)/\w.heap.size+2<=W.heap.size/\aW W (w.heap.size+2) ab nb cb bs aj nj cj qs
theorem uD.read{W':World}(h:uD w R now sr ab nb cb bs aj nj cj qs W)(hg:W.grownBy W' (some R))(hR:R<w.heap.size):uD w R now sr ab nb cb bs aj nj cj qs W':=
 ⟨h.1.grown hg (by simp;omega),h.2.1.grown hg (by simp;omega),h.2.2.1.trans hg,tr h.2.2.2.1 hg.size,h.2.2.2.2.grown hg (λg hm e=>by have:=(h.2.2.2.2.lt g hm).1;have:=m2 e;omega)⟩
theorem uD.cells(h:uD w R now sr ab nb cb bs aj nj cj qs W)(now' next':Int)(ab':Option Addr)(nb' cb':Nat)(bs':List Int)(aj':Option Addr)(nj' cj':Nat)(qs':List MQ)(o:Nat)(us:List Value)(hl:o+us.length<=4)(hs:mh [it now,it sr,.slice ab nb cb,.slice aj nj cj] o us=[it now',it next',.slice ab' nb' cb',.slice aj' nj' cj'])(hM:aW W (w.heap.size+2) ab' nb' cb' bs' aj' nj' cj' qs'):uD w R now' next' ab' nb' cb' bs' aj' nj' cj' qs' (W.setCells (w.heap.size+1) o us):=by
 have hg:=aO (World.grownBy.refl W (some (w.heap.size+1))) o us;exact⟨h.1.farCells us o (by omega),hs ▸ h.2.1.setCells us o hl,bX h.2.2.1 hg (λb e=>by have:=m2 e;omega),tr h.2.2.2.1 hg.size,hM.grown hg (λg hm e=>by have:=(hM.lt g hm).1;have:=m2 e;omega)⟩
theorem uD.told{w0:World}{ca:Option Addr}{cap:Nat}{V:M.Mt×Nat}(h:uD w R now sr ab nb cb bs aj nj cj qs W)(rd:Rd w0 R ca len cap p W)(hw:w0.heap.size<=w.heap.size)(hR:R<w.heap.size)(hS:(∀q∈qs,0<=q.1.rows/\q.1.rows<=16/\q.1.ts.length<=8))(h6:nj<=6)(hv:V=(⟨now,sr,bs,qs.map (·.1)⟩,p)):aw (W.setCells w.heap.size 0 [it now,it sr,.slice ab nb cb,.slice aj nj cj]) w.heap.size [it now,it sr,.slice ab nb cb,.slice aj nj cj]/\pL w0 w R ca len cap V (.returned (.agg #[it now,it sr,.slice ab nb cb,.slice aj nj cj])) (W.setCells w.heap.size 0 [it now,it sr,.slice ab nb cb,.slice aj nj cj]):=by
 have hg:=aO (World.grownBy.refl W (some w.heap.size)) 0 (aJ now sr ab nb cb aj nj cj);exact⟨h.1.whole rfl,now,sr,ab,nb,cb,bs,aj,nj,cj,qs,p,rfl,(h.2.2.2.2.grown hg (λg hm e=>by have:=(h.2.2.2.2.lt g hm).1;have:=m2 e;omega)).mono (by omega),hS,h6,rd.cells (by omega) (by omega) _,bX h.2.2.1 hg (λb e=>by have:=m2 e;omega),hv⟩
set_option linter.unusedVariables false in
def rK:Prop:=∀(_:fM) (w0:World) (R:Nat) (ca:Option Addr) (len cap:Nat) (zs:List Int) (hrow:Row .u8 w0 ca len cap zs) (most:Int) (hm0:0<=most) (hm1:most<=99) (P0:Nat) (w:World) (h:Rd w0 R ca len cap P0 w),Calls prog 15 #[tG R,it most] w (pL w0 w R ca len cap (rj zs len most P0))
theorem qt:rK:=by
 intro Fb w0 R ca Ea Qa zs Gb Na Dc Ec P0 w h;have Xb:=aI Fb;have Ka:=aI Gb;have Ca:=h.hi;have Bb:=h.below.size;have Da:m1 w ((w.alloc (.cells cm.toArray 27)).alloc (.cells #[it 0,it 1,.slice none 0 0,.slice none 0 0] 27)):=((m8 _ _).alloc (m3 _) _).alloc (by simp) _;have T0:H7 (uD w R 0 1 none 0 0 [] none 0 0 [] ((w.alloc (.cells cm.toArray 27)).alloc (.cells #[it 0,it 1,.slice none 0 0,.slice none 0 0] 27))):=⟨(aQ _ _ _).alloc _,aZ _ _ _ _,aF Da _,by simp,aW.zero _ _⟩;have Hb:H7 (Rd w0 R ca Ea Qa P0 ((w.alloc (.cells cm.toArray 27)).alloc (.cells #[it 0,it 1,.slice none 0 0,.slice none 0 0] 27))):=(h.alloc _).alloc _;have Fc:IntKind.i64.wrap (Na+1)=Na+1:=(by rw[xK];omega);clear Da h Gb Fb;go_enter func15,ntmps15;(go_wp2_with fail);generalize((w.alloc (.cells cm.toArray 27)).alloc (.cells #[it 0,it 1,.slice none 0 0,.slice none 0 0] 27))=wq at *;refine(bh Ka.o (Na+1) (by omega) (by omega) _ Hb.o).mono ?_;rintro e w1 ⟨v,Q1,v0,v1,rfl,hr,hg,hv⟩;have T1:=aI (T0.o.read hg Ca);have Ib:=aI hr;obtain⟨n0,Yb⟩:∃n:Nat,v=(n:Int):=⟨v.toNat,by omega⟩;subst Yb;obtain⟨Cb,Xa⟩:∃R,H7 (rj zs Ea Na P0=R):=⟨_,rfl⟩;have Jb:H7 (be (mJ zs Ea n0 ⟨0,1,[],[]⟩ Q1) (kL zs Ea)=Cb):=(by show _=_;rw[<-Xa.o];unfold rj;rw[hv];simp[be]);have Kb:H7 (M.Right 0 1 [] []):=cC (by decide);clear hr hg hv T0 Hb;go_wp2_with fail
 go_loopw [6] (λx wr=>∃(n PL:Nat) (Ba Aa:Int) (ab:Option Addr) (nb cb:Nat) (bs:List Int) (aj:Option Addr) (nj cj:Nat) (qs:List MQ),n<=100/\x=it n/\uD w R Ba Aa ab nb cb bs aj nj cj qs wr/\Rd w0 R ca Ea Qa PL wr/\M.Right Ba Aa bs (qs.map (·.1))/\be (mJ zs Ea n ⟨Ba,Aa,bs,qs.map (·.1)⟩ PL) (kL zs Ea)=Cb) (λx _=>(intOf x).toNat)
 case atStart=>exact⟨n0,_,0,1,none,0,0,[],none,0,0,[],by omega,rfl,T1.o,Ib.o,Kb.o,Jb.o⟩
 case round=>
  obtain⟨n,PL,Ba,Aa,ab,nb,cb,bs,aj,nj,cj,qs,hn,rfl,hT,Lb,hF,hE⟩:=hrel;have T2:=aI hT;have Ya:=aI Lb;have HF:=aI hF;have HS:=aI hF.shape;have HE:=aI hE;have Ra:nj<=6:=(by have h1:=hF.few;have h2:=hT.2.2.2.2.jl;rw[List.length_map]at h1;omega);clear hT Lb hF hE Kb Jb T1 Ib;by_cases hp:0<n
  case neg=>
   have HT:H7 (kL zs Ea ⟨Ba,Aa,bs,qs.map (·.1)⟩ PL=Cb):=(by show _=_;rw[<-HE.o,show n=0 by omega];rfl);have Zb:¬ (0:Int)<(n:Int):=(by omega);clear HE;(go_wp2_with fail);refine(bh Ka.o 40 (by decide) (by decide) _ Ya.o).mono ?_;rintro e wa ⟨y,Q2,-,-,rfl,hr,hg,hv⟩;have T3:=aI (T2.o.read hg Ca);have Va:=aI hr;have Db:=aI hv;clear hr hg hv T2 Ya;by_cases Za:y=38
   case pos=>
    subst Za;(go_wp2_with fail);refine(fB Ka.o 0 9 (by decide) (by decide) (by decide) _ Va.o).mono ?_;rintro e wb ⟨z,Q3,-,-,rfl,hr,hg,hv⟩;have T4:=aI (T3.o.read hg Ca);have Nb:=aI hr;have Fa:=aI hv;clear hr hg hv T3 Va;(go_wp2_with(with_reducible refine aD ?_ ?_;rfl));refine wQ 2 (w.heap.size+1) 0 (it z) (T4.o.2.1.there 0 1 (by simp)) ⟨rfl,rfl,rfl,by kernel_rfl,_,_,rfl,by kernel_rfl,by kernel_rfl⟩ ?_;have T5:=aI (T4.o.cells z Aa ab nb cb bs aj nj cj qs 0 [it z] (by simp) rfl T4.o.2.2.2.2);have Ac:=aI (Nb.o.cells (by omega) (by omega) [it z] (o:=0) (b:=(w.heap.size+1)));generalize wb.setCells (w.heap.size+1) 0 [it z]=wc at *;clear T4 Nb;(go_wp2_with(with_reducible refine au 41 ?_ ?_;rfl));refine dY 27 (w.heap.size+1) 0 (aJ z Aa ab nb cb aj nj cj) T5.o.2.1.row underlying27 ⟨rfl,rfl,by kernel_rfl,_,rfl,by kernel_rfl⟩ ?_;(go_wp2_with(with_reducible refine aD ?_ ?_;rfl));refine eF 27 w.heap.size 0 (aJ z Aa ab nb cb aj nj cj) (T5.o.1.there 0 4 (by simp)) ⟨rfl,by kernel_rfl,by kernel_rfl,_,_,rfl,by kernel_rfl,by kernel_rfl⟩ ?_;obtain⟨hL,hD⟩:=T5.o.told (V:=rj zs Ea Na P0) Ac.o Bb Ca HS.o Ra (by rw[Xa.o,<-HT.o];simp[kL,be,Db.o,Fa.o]);have HL:=aI hL;have HD:=aI hD;clear hL hD;generalize wc.setCells w.heap.size 0 (aJ z Aa ab nb cb aj nj cj)=wf at *;(go_wp2_with fail);have hl:=xH wf w.heap.size 0 27 (aJ z Aa ab nb cb aj nj cj) _ HL.o.row underlying27 rfl (by kernel_rfl);refine s' (aM rfl rfl hl) rfl ?_;exact HD.o
   case neg=>
    have Gc:(y==38)=false:=(by simp[Za]);by_cases Ab:y=39
    case pos=>
     subst Ab;have Hc:nb<=9:=(by have h1:=jh HF.o.bn;have h2:=T3.o.2.2.2.2.b.len;omega);(go_wp2_with fail);apply sX
     case f=>
      intro key;have Oa:m1 wa wa.drew:=(m8 _ _).drew;have t0:=aI (T3.o.read (aF Oa _) Ca);have d0:=aI (Va.o.grow Oa);clear Oa;have Eb:=trivial;refine wp_region_noPanic ?_;refine wp_region_held_drew (S:=λ_=>True) (by kernel_rfl) trivial (λhzz=>?_);clear hzz;generalize wa.drew=e0 at *;refine tE 0 (.pointer (some ⟨w.heap.size+1,2,none⟩)) ?_;refine tE 2 (tG R) ?_;refine xO (rs:=[1,3]) (by kernel_rfl) (by simp) ?_;refine u' rfl (λKk hK=>?_) (u' rfl (λKk hK=>?_) (xB));have c2:=t0.o.2.1.c 2;with_reducible refine dq ?_ 24 (.tmp 34) ?_ ⟨w.heap.size+1,2,none⟩ ?_ (.slice ab nb cb) (jU c2) ?_
      .exact rfl
      .exact rfl
      .kernel_rfl
      clear c2;refine hK.out _ _ trivial (λhzz=>?_);clear hzz hK Kk;refine aT 3 λKk hK=>?_;go_simp;refine(fB Ka.o 1 9 (by decide) (by decide) (by decide) _ d0.o).mono ?_;rintro e e1 ⟨z,Q3,-,-,rfl,hr,hg,hv⟩;go_simp;have t1:=aI (t0.o.read hg Ca);have d1:=aI hr;have Fa:=aI hv;refine hK.out _ _ trivial (λhzz=>?_);clear hzz hK Kk hr hg hv t0 d0;refine aT 4 λKk hK=>?_;with_reducible refine dR ?_ (λx=>.slice (some ⟨x,0,none⟩) 1 1) (e1.alloc (.cells #[it z] 2)) ?_ ?_
      .exact rfl
      .kernel_rfl
      intro gb e2 La Ha;have Da:=gW e1 (.cells #[it z] 2);rw[Ha]at Da;have t2:=aI (t1.o.read (aF Da _) Ca);have d2:=aI (d1.o.grow Da);have LJ:H7 (aw e2 gb [it z]):=(by show aw e2 gb _;rw[<-Ha,<-La];exact aQ _ _ _);refine hK.out _ _ trivial (λhzz=>?_);clear hzz hK Kk Da Ha La t1 d1
      rotate_left
      go_simp;refine(fB Ka.o 1 9 (by decide) (by decide) (by decide) _ d0.o).mono ?_;rintro e e1 ⟨z,Q3,-,-,rfl,hr,hg,hv⟩;go_simp;have t1:=aI (t0.o.read hg Ca);have d1:=aI hr;have Fa:=aI hv;refine hK.out _ _ trivial (λhzz=>?_);clear hzz hK Kk hr hg hv t0 d0;refine xO (rs:=[1,4]) (by kernel_rfl) (by simp) ?_;refine u' rfl (λKk hK=>?_) (u' rfl (λKk hK=>?_) (xB));have c2:=t1.o.2.1.c 2;with_reducible refine dq ?_ 24 (.tmp 34) ?_ ⟨w.heap.size+1,2,none⟩ ?_ (.slice ab nb cb) (jU c2) ?_
      .exact rfl
      .exact rfl
      .kernel_rfl
      clear c2;refine hK.out _ _ trivial (λhzz=>?_);clear hzz hK Kk;refine aT 4 λKk hK=>?_;with_reducible refine dR ?_ (λx=>.slice (some ⟨x,0,none⟩) 1 1) (e1.alloc (.cells #[it z] 2)) ?_ ?_
      .exact rfl
      .kernel_rfl
      intro gb e2 La Ha;have Da:=gW e1 (.cells #[it z] 2);rw[Ha]at Da;have t2:=aI (t1.o.read (aF Da _) Ca);have d2:=aI (d1.o.grow Da);have LJ:H7 (aw e2 gb [it z]):=(by show aw e2 gb _;rw[<-Ha,<-La];exact aQ _ _ _);refine hK.out _ _ trivial (λhzz=>?_);clear hzz hK Kk Da Ha La t1 d1
      rotate_left
      with_reducible refine dR ?_ (λx=>.slice (some ⟨x,0,none⟩) 1 1) (e1.alloc (.cells #[it z] 2)) ?_ ?_
      .exact rfl
      .kernel_rfl
      intro gb e2 La Ha;have Da:=gW e1 (.cells #[it z] 2);rw[Ha]at Da;have t2:=aI (t1.o.read (aF Da _) Ca);have d2:=aI (d1.o.grow Da);have LJ:H7 (aw e2 gb [it z]):=(by show aw e2 gb _;rw[<-Ha,<-La];exact aQ _ _ _);refine hK.out _ _ trivial (λhzz=>?_);clear hzz hK Kk Da Ha La t1 d1;refine aT 1 λKk hK=>?_;have c2:=t2.o.2.1.c 2;with_reducible refine dq ?_ 24 (.tmp 34) ?_ ⟨w.heap.size+1,2,none⟩ ?_ (.slice ab nb cb) (jU c2) ?_
      .exact rfl
      .exact rfl
      .kernel_rfl
      clear c2;refine hK.out _ _ trivial (λhzz=>?_);clear hzz hK Kk
      rotate_left
      all_goals
       have j1:=t2;have j2:=d2;have j3:=Fa;have j4:=LJ;clear t2 d2 Fa LJ;revert j1 j2 j3 j4;revert gb;revert e2;revert Q3;revert z;exact key.out
     case h=>
      intro z Q3 e2 gb t2 d2 Fa LJ;have Eb:=trivial;clear T3 Va;refine aT 5 λKk hK=>?_;have Bc:nb<=1000:=(by omega);have Ob:=t2.o.2.2.2.2;have Pb:=t2.o.2.2.2.1;with_reducible refine uU ?_ (.tmp 35) (.tmp 38) ?_ ?_ gb ?_ Ob z LJ.o Bc Pb ?_
      .exact rfl
      .exact rfl
      .kernel_rfl
      .kernel_rfl
      clear Ob Pb;intro Ia Ja e3 Qb Sa;have Ta:∀g,(Value.slice ab nb cb).ownBlock=some g->w.heap.size+2<=g:=λg e=>(t2.o.2.2.2.2.lt g (by simp[b7,bA e])).1;have t3:H7 (aw e3 w.heap.size cm/\aw e3 (w.heap.size+1) (aJ Ba Aa ab nb cb aj nj cj)/\w.grownBy e3 (some R)/\w.heap.size+2<=e3.heap.size/\aW e3 (w.heap.size+2) Ia (nb+1) Ja (bs++[z]) aj nj cj qs):=⟨t2.o.1.grown Sa (λe=>by have:=Ta _ e;omega),t2.o.2.1.grown Sa (λe=>by have:=Ta _ e;omega),bX t2.o.2.2.1 Sa (λb e=>by have:=Ta b e;omega),tr t2.o.2.2.2.1 Sa.size,Qb⟩;have d3:=aI (d2.o.keep Sa (λx hx=>by have:=Ta x.block (by rw[hx];rfl);omega) (λx hx=>by have:=Ta x.block (by rw[hx];rfl);omega));refine hK.out _ _ trivial (λhzz=>?_);clear hzz hK Kk Qb Sa Ta t2 d2 LJ;refine tE 6 (.pointer (some ⟨w.heap.size+1,2,none⟩)) ?_;refine aT 7 λKk hK=>?_;have c2:=t3.o.2.1.c 2;have f2:=t3.o.2.1.fr 2;go_simp;have Wa:e3.grownBy (e3.setCell ⟨w.heap.size+1,2,none⟩ (.slice Ia (nb+1) Ja)) (some (w.heap.size+1)):=bE (World.grownBy.refl _ _) _ rfl _;have t4:H7 (uD w R Ba Aa Ia (nb+1) Ja (bs++[z]) aj nj cj qs (e3.setCell ⟨w.heap.size+1,2,none⟩ (.slice Ia (nb+1) Ja))):=⟨t3.o.1.grown Wa (by simp),t3.o.2.1.set 2 (by simp) _,bX t3.o.2.2.1 Wa (λb e=>by have:=m2 e;omega),tr t3.o.2.2.2.1 Wa.size,t3.o.2.2.2.2.grown Wa (λg hg e=>by have:=(t3.o.2.2.2.2.lt g hg).1;have:=m2 e;omega)⟩;have d4:H7 (Rd w0 R ca Ea Qa Q3 (e3.setCell ⟨w.heap.size+1,2,none⟩ (.slice Ia (nb+1) Ja))):=Rd.setS d3.o (by omega) (by omega);refine hK.out _ _ trivial (λhzz=>?_);clear hzz hK Kk Wa c2 f2 t3 d3;generalize(e3.setCell ⟨w.heap.size+1,2,none⟩ (.slice Ia (nb+1) Ja))=wg at *;refine bi ?_;go_simp;(go_wp2_with(with_reducible refine au 41 ?_ ?_;rfl));refine dY 27 (w.heap.size+1) 0 (aJ Ba Aa Ia (nb+1) Ja aj nj cj) t4.o.2.1.row underlying27 ⟨rfl,rfl,by kernel_rfl,_,rfl,by kernel_rfl⟩ ?_;(go_wp2_with(with_reducible refine aD ?_ ?_;rfl));refine eF 27 w.heap.size 0 (aJ Ba Aa Ia (nb+1) Ja aj nj cj) (t4.o.1.there 0 4 (by simp)) ⟨rfl,by kernel_rfl,by kernel_rfl,_,_,rfl,by kernel_rfl,by kernel_rfl⟩ ?_;obtain⟨hL,hD⟩:=t4.o.told (V:=rj zs Ea Na P0) d4.o Bb Ca HS.o Ra (by rw[Xa.o,<-HT.o];simp[kL,be,Db.o,Fa.o]);have HL:=aI hL;have HD:=aI hD;clear hL hD;generalize wg.setCells w.heap.size 0 (aJ Ba Aa Ia (nb+1) Ja aj nj cj)=wf at *;(go_wp2_with fail);have hl:=xH wf w.heap.size 0 27 (aJ Ba Aa Ia (nb+1) Ja aj nj cj) _ HL.o.row underlying27 rfl (by kernel_rfl);refine s' (aM rfl rfl hl) rfl ?_;exact HD.o
    case neg=>
     have Ic:(y==39)=false:=(by simp[Ab]);have H8:=aI Za;have H9:=aI Ab;clear Za Ab;(go_wp2_with(with_reducible refine au 41 ?_ ?_;rfl));refine dY 27 (w.heap.size+1) 0 (aJ Ba Aa ab nb cb aj nj cj) T3.o.2.1.row underlying27 ⟨rfl,rfl,by kernel_rfl,_,rfl,by kernel_rfl⟩ ?_;(go_wp2_with(with_reducible refine aD ?_ ?_;rfl));refine eF 27 w.heap.size 0 (aJ Ba Aa ab nb cb aj nj cj) (T3.o.1.there 0 4 (by simp)) ⟨rfl,by kernel_rfl,by kernel_rfl,_,_,rfl,by kernel_rfl,by kernel_rfl⟩ ?_;obtain⟨hL,hD⟩:=T3.o.told (V:=rj zs Ea Na P0) Va.o Bb Ca HS.o Ra (by rw[Xa.o,<-HT.o];simp[kL,be,Db.o,H8.o,H9.o]);have HL:=aI hL;have HD:=aI hD;clear hL hD;generalize wa.setCells w.heap.size 0 (aJ Ba Aa ab nb cb aj nj cj)=wf at *;(go_wp2_with fail);have hl:=xH wf w.heap.size 0 27 (aJ Ba Aa ab nb cb aj nj cj) _ HL.o.row underlying27 rfl (by kernel_rfl);refine s' (aM rfl rfl hl) rfl ?_;exact HD.o
  case pos=>
   have Zb:(0:Int)<(n:Int):=(by omega);(go_wp2_with fail);have Cc:IntKind.i64.wrap ((n:Int)-1)=((n-1:Nat):Int):=(by rw[xK];omega);have iL:(prog.info? 27).map (·.size)=some ((aJ Ba Aa ab nb cb aj nj cj):List Value).length:=(show(prog.info? 27).map (·.size)=some 4 by kernel_rfl);apply sX
   case f=>
    intro key;have Oa:m1 wr wr.drew:=(m8 _ _).drew;have t0:=aI (T2.o.read (aF Oa _) Ca);have d0:=aI (Ya.o.grow Oa);clear Oa;have Eb:=trivial;refine wp_region_noPanic ?_;refine wp_region_held_drew (S:=λ_=>True) (by kernel_rfl) trivial (λhzz=>?_);clear hzz;generalize wr.drew=e0 at *;refine tE 1 (tG R) ?_;refine xO (rs:=[0,2]) (by kernel_rfl) (by simp) ?_;refine u' rfl (λKk hK=>?_) (u' rfl (λKk hK=>?_) (xB));have Ga:=t0.o.2.1.row;with_reducible refine dK ?_ 27 (.tmp 5) ?_ (w.heap.size+1) 0 ?_ (aJ Ba Aa ab nb cb aj nj cj) _ Ga underlying27 ?_ iL ?_
    .exact rfl
    .exact rfl
    .kernel_rfl
    .exact rfl
    clear Ga;refine hK.out _ _ trivial (λhzz=>?_);clear hzz hK Kk;refine aT 2 λKk hK=>?_;have Ga:=t0.o.2.1.row;with_reducible refine dK ?_ 27 (.tmp 5) ?_ (w.heap.size+1) 0 ?_ (aJ Ba Aa ab nb cb aj nj cj) _ Ga underlying27 ?_ iL ?_
    .exact rfl
    .exact rfl
    .kernel_rfl
    .exact rfl
    clear Ga;refine hK.out _ _ trivial (λhzz=>?_);clear hzz hK Kk;refine aT 3 λKk hK=>?_;go_simp;refine(jC w0 R ca Ea Qa zs Ka.o (w.heap.size+2) ab aj nb cb nj cj bs qs Ba Aa _ t0.o.2.2.2.2 (by omega) HS.o Ra _ d0.o).mono ?_;rintro e e1 ⟨A,pa,Q3,rfl,hs,hf,-,hr,hg,hv⟩;go_simp;have t1:=aI (t0.o.read hg Ca);have d1:=aI hr;have Fa:=aI hv;have SP:=aI hs;have Ua:=aI hf;refine hK.out _ _ trivial (λhzz=>?_);clear hzz hK Kk hr hg hv hs hf t0 d0
    rotate_left
    have Ga:=t0.o.2.1.row;with_reducible refine dK ?_ 27 (.tmp 5) ?_ (w.heap.size+1) 0 ?_ (aJ Ba Aa ab nb cb aj nj cj) _ Ga underlying27 ?_ iL ?_
    .exact rfl
    .exact rfl
    .kernel_rfl
    .exact rfl
    clear Ga;refine hK.out _ _ trivial (λhzz=>?_);clear hzz hK Kk;refine xO (rs:=[0,3]) (by kernel_rfl) (by simp) ?_;refine u' rfl (λKk hK=>?_) (u' rfl (λKk hK=>?_) (xB));have Ga:=t0.o.2.1.row;with_reducible refine dK ?_ 27 (.tmp 5) ?_ (w.heap.size+1) 0 ?_ (aJ Ba Aa ab nb cb aj nj cj) _ Ga underlying27 ?_ iL ?_
    .exact rfl
    .exact rfl
    .kernel_rfl
    .exact rfl
    clear Ga;refine hK.out _ _ trivial (λhzz=>?_);clear hzz hK Kk;refine aT 3 λKk hK=>?_;go_simp;refine(jC w0 R ca Ea Qa zs Ka.o (w.heap.size+2) ab aj nb cb nj cj bs qs Ba Aa _ t0.o.2.2.2.2 (by omega) HS.o Ra _ d0.o).mono ?_;rintro e e1 ⟨A,pa,Q3,rfl,hs,hf,-,hr,hg,hv⟩;go_simp;have t1:=aI (t0.o.read hg Ca);have d1:=aI hr;have Fa:=aI hv;have SP:=aI hs;have Ua:=aI hf;refine hK.out _ _ trivial (λhzz=>?_);clear hzz hK Kk hr hg hv hs hf t0 d0
    rotate_left
    go_simp;refine(jC w0 R ca Ea Qa zs Ka.o (w.heap.size+2) ab aj nb cb nj cj bs qs Ba Aa _ t0.o.2.2.2.2 (by omega) HS.o Ra _ d0.o).mono ?_;rintro e e1 ⟨A,pa,Q3,rfl,hs,hf,-,hr,hg,hv⟩;go_simp;have t1:=aI (t0.o.read hg Ca);have d1:=aI hr;have Fa:=aI hv;have SP:=aI hs;have Ua:=aI hf;refine hK.out _ _ trivial (λhzz=>?_);clear hzz hK Kk hr hg hv hs hf t0 d0;refine aT 0 λKk hK=>?_;have Ga:=t1.o.2.1.row;with_reducible refine dK ?_ 27 (.tmp 5) ?_ (w.heap.size+1) 0 ?_ (aJ Ba Aa ab nb cb aj nj cj) _ Ga underlying27 ?_ iL ?_
    .exact rfl
    .exact rfl
    .kernel_rfl
    .exact rfl
    clear Ga;refine hK.out _ _ trivial (λhzz=>?_);clear hzz hK Kk
    rotate_left
    all_goals
     revert t1 d1 Fa SP Ua;revert e1;revert Q3;revert pa;revert A;exact key.out
   case h=>
    intro A pa Q3 e1 t1 d1 Fa SP Ua;clear T2 Ya;have Eb:=trivial;refine aT 4 λKk hK=>?_;have hC:=Xb.o.av (now:=Ba) (sr:=Aa) t1.o.2.2.2.2.sees SP.o Ua.o;have Rb:=aI (nv (m:=⟨Ba,Aa,bs,qs.map (·.1)⟩) (A:=A) HF.o);have HN:=aI (rm (m:=⟨Ba,Aa,bs,qs.map (·.1)⟩) hp Fa.o);generalize ge ⟨Ba,Aa,bs,qs.map (·.1)⟩ A=r at hC Rb HN;go_simp;refine hC.mono ?_;clear hC;rintro e e2 ⟨v2,rfl,eb,en,ec,fb,fn,fc,Sb,rfl,Tb,Ub,hb⟩;go_simp;have t2:=aI (t1.o.read (aF hb _) Ca);have d2:=aI (d1.o.grow hb);have Vb:=aI (Tb.mono t1.o.2.2.2.1);have Wb:=aI Ub;refine hK.out _ _ trivial (λhzz=>?_);clear hzz hK Kk Tb Ub hb t1 d1 SP Ua Fa;refine tE 5 (.tuple #[.agg (aJ r.1.now r.1.next eb en ec fb fn fc).toArray,it r.2.1,it r.2.2]) ?_;refine tE 6 (.agg (aJ r.1.now r.1.next eb en ec fb fn fc).toArray) ?_;refine tE 7 (it r.2.1) ?_;refine tE 8 (it r.2.2) ?_;refine aT 9 λKk hK=>?_;have tA:e2.there (w.heap.size+1) 0 ((aJ r.1.now r.1.next eb en ec fb fn fc):List Value).toArray.size:=t2.o.2.1.there _ 4 (by simp);have iA:(prog.info? 27).map (·.size)=some ((aJ r.1.now r.1.next eb en ec fb fn fc):List Value).toArray.size:=(show(prog.info? 27).map (·.size)=some 4 by kernel_rfl);with_reducible refine lG ?_ 27 (.tmp 5) (.tmp 22) ?_ (w.heap.size+1) 0 ((aJ r.1.now r.1.next eb en ec fb fn fc):List Value).toArray ?_ ?_ tA iA ?_ ?_
    .exact rfl
    .exact rfl
    .kernel_rfl
    .kernel_rfl
    .kernel_rfl
    show Kk _ (e2.setCells (w.heap.size+1) 0 (aJ r.1.now r.1.next eb en ec fb fn fc));have t3:=aI (t2.o.cells r.1.now r.1.next eb en ec r.1.bs fb fn fc Sb 0 (aJ r.1.now r.1.next eb en ec fb fn fc) (by simp) rfl Vb.o);have d3:=aI (d2.o.cells (by omega) (by omega) (aJ r.1.now r.1.next eb en ec fb fn fc) (o:=0) (b:=(w.heap.size+1)));refine hK.out _ _ trivial (λhzz=>?_);clear hzz hK Kk tA iA t2 d2 Vb;generalize(e2.setCells (w.heap.size+1) 0 (aJ r.1.now r.1.next eb en ec fb fn fc))=we at *;refine bi ?_;go_simp;go_wp2;go_roundw
    case rel=>exact⟨n-1,_,r.1.now,r.1.next,eb,en,ec,r.1.bs,fb,fn,fc,Sb,by omega,by first | rw[Cc] | rfl | go_num,t3.o,d3.o,by rw[Wb.o];exact Rb.o,by rw[Wb.o,<-HE.o,HN.o]⟩
    case measure=>simp[intOf];omega
end Go.Proofs.YtbjalickbnpnkaaGreatDoor
