import Derived.Test.YtbjalickbnpnkaaGreatDoorPk17
namespace Go.Proofs.YtbjalickbnpnkaaGreatDoor
open Go.RowKit Go.Proofs.Tryz
set_option linter.unusedSimpArgs false
set_option maxHeartbeats 32000000
theorem je{P:Program}{ops:Array Oper}{o:Oper}{a:Act}{w:World}{K:Act->World->Prop}{Q:Exit->Act->World->Prop}{E:Prop}(hg:o.guard=none)(T:TypeId)(hop:o.op=.alloc T)(cs:Array Value)
 (hs:(Instr.alloc T true (.tuple #[])).run P w=.ok (.pointer (some ⟨w.heap.size,0,none⟩)) (w.alloc (.cells cs T)))
 (hK:∀g W,aw W g cs.toList->w.heap.size<=g->g<W.heap.size->m1 w W->K (a.put o.dst (.pointer (some ⟨g,0,none⟩))) W):if Region.wanted o (yielded ops a.tmps)=true then Oper.wp P o a w K Q else E:=by
 have hw:Region.wanted o (yielded ops a.tmps)=true:=(by simp[Region.wanted,hg]);rw[if_pos hw];exact b9 T hop cs hs (hK _ _ (aQ _ _ _) (m3 _) (by simp) ((m8 _ _).alloc (m3 _) _))
set_option maxRecDepth 10000 in
theorem qz{b tn tc:Nat}{ta:Option Addr}(jid e1 e2 e3 e4 e5 e6 e7 e8 e9 e10 e11 e12 t1 t2 jr:Int)(jg:Bool)(em:Int)(w:World)(hl:aw w b [.int .i64 jid,.int .i64 e1,.int .i64 e2,.int .i64 e3,.int .i64 e4,.int .i64 e5,.int .i64 e6,.int .i64 e7,.int .i64 e8,.int .i64 e9,.int .i64 e10,.int .i64 e11,.int .i64 e12,.int .i64 t1,.int .i64 t2,.int .i64 jr,.bool jg,.slice ta tn tc])(h0:0<=em)(h7:em<=7)(r0:0<=jr)(r1:jr<=16):
  Rt 99 #[.pointer (some ⟨b,0,none⟩),.int .i64 em] w (.agg #[.int .i64 e1,.int .i64 e2,.int .i64 e3,.int .i64 e4,.int .i64 e5,.int .i64 e6,.int .i64 e7,.int .i64 e8,.int .i64 e9,.int .i64 e10,.int .i64 e11,.int .i64 e12,.int .i64 (eH ⟨⟨e1,e2,e3,e4,e5,e6⟩,⟨e7,e8,e9,e10,e11,e12⟩⟩ (t1,t2) (em*(jr-1))).1,.int .i64 (eH ⟨⟨e1,e2,e3,e4,e5,e6⟩,⟨e7,e8,e9,e10,e11,e12⟩⟩ (t1,t2) (em*(jr-1))).2,.int .i64 jr]):=by
 have C1:=lV ⟨⟨e1,e2,e3,e4,e5,e6⟩,⟨e7,e8,e9,e10,e11,e12⟩⟩ (t1,t2) (em*(jr-1));generalize eH ⟨⟨e1,e2,e3,e4,e5,e6⟩,⟨e7,e8,e9,e10,e11,e12⟩⟩ (t1,t2) (em*(jr-1))=y at *;generalize bG ⟨⟨e1,e2,e3,e4,e5,e6⟩,⟨e7,e8,e9,e10,e11,e12⟩⟩ (t1,t2) (em*(jr-1))=ok at C1;obtain⟨y1,y2⟩:=y;dsimp only[dp,dd]at C1 |-;have Ib:IntKind.i64.wrap (jr-1)=jr-1:=by rw[xK];omega
 have Bb:0<=em*(jr-1)+7/\em*(jr-1)<=105:=by
  have h1:em=0\/em=1\/em=2\/em=3\/em=4\/em=5\/em=6\/em=7:=by omega
  rcases h1 with rfl | rfl | rfl | rfl | rfl | rfl | rfl | rfl <;> omega
 have Cb:IntKind.i64.wrap (em*(jr-1))=em*(jr-1):=(by rw[xK];omega);generalize Wa:em*(jr-1)=nn at C1 Bb Cb;have Db:=Hd Wa;clear Wa;go_enter func99,ntmps99;have Ta:H7 (m1 w (w.alloc (.cells (fj 0 0 0 0 0 0 0 0 0 0 0 0 0 0 0).toArray 175))):=(m8 _ _).alloc (m3 _) _;have Ua:=cQ w (fj 0 0 0 0 0 0 0 0 0 0 0 0 0 0 0) 175;have Oa:H7 (aw (w.alloc (.cells (fj 0 0 0 0 0 0 0 0 0 0 0 0 0 0 0).toArray 175)) b (bO jid e1 e2 e3 e4 e5 e6 e7 e8 e9 e10 e11 e12 t1 t2 jr jg ta tn tc)):=hl.alloc _;have Eb:=Hd hl.2.2;clear hl;(go_wp2_with fail);generalize(w.alloc (.cells (fj 0 0 0 0 0 0 0 0 0 0 0 0 0 0 0).toArray 175))=wa at *;apply fR
 case f=>
  intro key;refine cP wa none (by kernel_rfl) λhHeld=>?_;generalize wa.drew=Fb at *;refine tE 0 (.pointer (some ⟨b,0,none⟩)) ?_;refine tE 1 (.pointer (some ⟨b,0,none⟩)) ?_;refine tE 2 (.pointer (some ⟨b,1,none⟩)) ?_;refine wpAnyH_take (i:=3) (v:=.agg ((cW e1 e2 e3 e4 e5 e6 e7 e8 e9 e10 e11 e12):List Value).toArray) rfl (by kernel_rfl) (by kernel_rfl) (by kernel_rfl) (λ_ _ _ h=>h) (xF (by kernel_rfl) 31 (.tmp 10) rfl b 1 rfl ((cW e1 e2 e3 e4 e5 e6 e7 e8 e9 e10 e11 e12):List Value) _ (λW hW=>aw.mid (Oa.o.grown hW (by simp)) 1 12) underlying31 rfl (by kernel_rfl)) (by assumption) ?_;refine tE 4 (.pointer (some ⟨b,0,none⟩)) ?_;refine tE 5 (.pointer (some ⟨b,0,none⟩)) ?_;refine tE 6 (.pointer (some ⟨b,13,none⟩)) ?_;refine tk 7 (.agg #[it t1,it t2]) ?_ ?_
  .intro wq Aa;have c0:=(Oa.o.grown Aa (by simp)).c 13;have c1:=(Oa.o.grown Aa (by simp)).c 14;go_simp
  refine tE 8 (it em) ?_;refine tE 9 (.pointer (some ⟨b,0,none⟩)) ?_;refine tE 10 (.pointer (some ⟨b,0,none⟩)) ?_;refine tE 11 (.pointer (some ⟨b,15,none⟩)) ?_;refine tk 12 (it jr) ?_ ?_
  .intro wq Aa;have c0:=(Oa.o.grown Aa (by simp)).c 15;go_simp
  refine tE 13 (it (jr-1)) ?_;refine tk 14 (it nn) ?_ ?_
  .intro wq Aa;go_simp;rw[Db.o];go_simp
  refine xO (rs:=[15,19]) (by kernel_rfl) (by simp) ?_;apply u'
  case ho=>exact rfl
  case h=>
   intro Kk hK;go_simp;refine(C1 Fb).mono ?_;rintro e Qa ⟨rfl,hb⟩;go_simp;have Ha:=aH hHeld hb;refine hK.out _ _ Ha (λhzz=>?_);clear hzz hK Kk hb;refine tE 16 (.tuple #[.agg #[it y1,it y2],.bool ok]) ?_;refine tE 17 (.agg #[it y1,it y2]) ?_;refine xO (rs:=[18,19]) (by kernel_rfl) (by simp) ?_;apply u'
   case ho=>exact rfl
   case h=>
    intro Kk hK;go_simp;refine hK.out _ _ Ha (λhzz=>?_);clear hzz hK Kk;refine xO (rs:=[19]) (by kernel_rfl) (by simp) ?_;apply u'
    case ho=>exact rfl
    case h=>
     intro Kk hK;with_reducible refine je ?qg 33 ?qo #[it 0,it 0] ?qs ?qk
     case qg | qo=>exact rfl
     case qs=>kernel_rfl
     case qk=>
      intro sb Ba Fa Na Pa hb;have Ga:=aH Ha hb;have Ia:=tr Ha.size Na;refine hK.out _ _ Ga (λhzz=>?_);clear hzz hK Kk hb Na Pa;refine xO (rs:=[20]) (by kernel_rfl) (by simp) ?_;apply u'
      case ho=>exact rfl
      case h=>
       intro Kk hK;rw[if_pos (by kernel_rfl)];with_reducible refine wp_store_mid 33 (.tmp 5) (.tmp 24) ?_ sb 0 ([it y1,it y2]:List Value).toArray ?_ ?_ ?_ (by kernel_rfl) (by kernel_rfl) ?_
       .exact rfl
       .kernel_rfl
       .kernel_rfl
       .exact Fa.there 0 2 (by simp)
       have Ea:=dS Ba sb 0 [it y1,it y2];have Ca:=cO Ga Ea Ia;have Ja:aw (Ba.setCells sb 0 [it y1,it y2]) sb [it y1,it y2]:=Fa.setCells [it y1,it y2] 0 (by simp);refine hK.out _ _ Ca (λhzz=>?_);clear hzz hK Kk Ea;generalize(Ba.setCells sb 0 [it y1,it y2])=Da at *;refine tE 21 (.bool ok) ?_;refine bi ?_;go_simp;have Ka:=Ca;have La:=Ja;clear hHeld Ha Ga Fa Ca Ja;revert Ka La;generalize Da=wz;revert Ia;revert wz sb;exact key.out
      case hs=>exact xB
    case hs=>exact xB
   case hs=>
    apply u'
    case ho=>exact rfl
    case h=>
     intro Kk hK;with_reducible refine je ?qg 33 ?qo #[it 0,it 0] ?qs ?qk
     case qg | qo=>exact rfl
     case qs=>kernel_rfl
     case qk=>
      intro sb Ba Fa Na Pa hb;have Ga:=aH Ha hb;have Ia:=tr Ha.size Na;refine hK.out _ _ Ga (λhzz=>?_);clear hzz hK Kk hb Na Pa;refine xO (rs:=[18,20]) (by kernel_rfl) (by simp) ?_;apply u'
      case ho=>exact rfl
      case h=>
       intro Kk hK;go_simp;refine hK.out _ _ Ga (λhzz=>?_);clear hzz hK Kk;refine xO (rs:=[20]) (by kernel_rfl) (by simp) ?_;apply u'
       case ho=>exact rfl
       case h=>
        intro Kk hK;rw[if_pos (by kernel_rfl)];with_reducible refine wp_store_mid 33 (.tmp 5) (.tmp 24) ?_ sb 0 ([it y1,it y2]:List Value).toArray ?_ ?_ ?_ (by kernel_rfl) (by kernel_rfl) ?_
        .exact rfl
        .kernel_rfl
        .kernel_rfl
        .exact Fa.there 0 2 (by simp)
        have Ea:=dS Ba sb 0 [it y1,it y2];have Ca:=cO Ga Ea Ia;have Ja:aw (Ba.setCells sb 0 [it y1,it y2]) sb [it y1,it y2]:=Fa.setCells [it y1,it y2] 0 (by simp);refine hK.out _ _ Ca (λhzz=>?_);clear hzz hK Kk Ea;generalize(Ba.setCells sb 0 [it y1,it y2])=Da at *;refine tE 21 (.bool ok) ?_;refine bi ?_;go_simp;have Ka:=Ca;have La:=Ja;clear hHeld Ha Ga Fa Ca Ja;revert Ka La;generalize Da=wz;revert Ia;revert wz sb;exact key.out
       case hs=>exact xB
      case hs=>
       apply u'
       case ho=>exact rfl
       case h=>
        intro Kk hK;rw[if_pos (by kernel_rfl)];with_reducible refine wp_store_mid 33 (.tmp 5) (.tmp 24) ?_ sb 0 ([it y1,it y2]:List Value).toArray ?_ ?_ ?_ (by kernel_rfl) (by kernel_rfl) ?_
        .exact rfl
        .kernel_rfl
        .kernel_rfl
        .exact Fa.there 0 2 (by simp)
        have Ea:=dS Ba sb 0 [it y1,it y2];have Ca:=cO Ga Ea Ia;have Ja:aw (Ba.setCells sb 0 [it y1,it y2]) sb [it y1,it y2]:=Fa.setCells [it y1,it y2] 0 (by simp);refine hK.out _ _ Ca (λhzz=>?_);clear hzz hK Kk Ea;generalize(Ba.setCells sb 0 [it y1,it y2])=Da at *;refine xO (rs:=[18]) (by kernel_rfl) (by simp) ?_;apply u'
        case ho=>exact rfl
        case h=>
         intro Kk hK;go_simp;refine hK.out _ _ Ca (λhzz=>?_);clear hzz hK Kk;refine tE 21 (.bool ok) ?_;refine bi ?_;go_simp;have Ka:=Ca;have La:=Ja;clear hHeld Ha Ga Fa Ca Ja;revert Ka La;generalize Da=wz;revert Ia;revert wz sb;exact key.out
        case hs=>exact xB
       case hs=>exact xB
    case hs=>exact xB
  case hs=>
   apply u'
   case ho=>exact rfl
   case h=>
    intro Kk hK;with_reducible refine je ?qg 33 ?qo #[it 0,it 0] ?qs ?qk
    case qg | qo=>exact rfl
    case qs=>kernel_rfl
    case qk=>
     intro sb Qa Va Na Pa hb;have Ha:=aH hHeld hb;have Ia:=tr hHeld.size Na;refine hK.out _ _ Ha (λhzz=>?_);clear hzz hK Kk hb Na Pa;refine xO (rs:=[15]) (by kernel_rfl) (by simp) ?_;apply u'
     case ho=>exact rfl
     case h=>
      intro Kk hK;go_simp;refine(C1 Qa).mono ?_;rintro e Ba ⟨rfl,hb⟩;go_simp;have Ga:=aH Ha hb;have Fa:aw Ba sb [it 0,it 0]:=Va.belowS hb;refine hK.out _ _ Ga (λhzz=>?_);clear hzz hK Kk hb;refine tE 16 (.tuple #[.agg #[it y1,it y2],.bool ok]) ?_;refine tE 17 (.agg #[it y1,it y2]) ?_;refine xO (rs:=[18,20]) (by kernel_rfl) (by simp) ?_;apply u'
      case ho=>exact rfl
      case h=>
       intro Kk hK;go_simp;refine hK.out _ _ Ga (λhzz=>?_);clear hzz hK Kk;refine xO (rs:=[20]) (by kernel_rfl) (by simp) ?_;apply u'
       case ho=>exact rfl
       case h=>
        intro Kk hK;rw[if_pos (by kernel_rfl)];with_reducible refine wp_store_mid 33 (.tmp 5) (.tmp 24) ?_ sb 0 ([it y1,it y2]:List Value).toArray ?_ ?_ ?_ (by kernel_rfl) (by kernel_rfl) ?_
        .exact rfl
        .kernel_rfl
        .kernel_rfl
        .exact Fa.there 0 2 (by simp)
        have Ea:=dS Ba sb 0 [it y1,it y2];have Ca:=cO Ga Ea Ia;have Ja:aw (Ba.setCells sb 0 [it y1,it y2]) sb [it y1,it y2]:=Fa.setCells [it y1,it y2] 0 (by simp);refine hK.out _ _ Ca (λhzz=>?_);clear hzz hK Kk Ea;generalize(Ba.setCells sb 0 [it y1,it y2])=Da at *;refine tE 21 (.bool ok) ?_;refine bi ?_;go_simp;have Ka:=Ca;have La:=Ja;clear hHeld Ha Va Ga Fa Ca Ja;revert Ka La;generalize Da=wz;revert Ia;revert wz sb;exact key.out
       case hs=>exact xB
      case hs=>
       apply u'
       case ho=>exact rfl
       case h=>
        intro Kk hK;rw[if_pos (by kernel_rfl)];with_reducible refine wp_store_mid 33 (.tmp 5) (.tmp 24) ?_ sb 0 ([it y1,it y2]:List Value).toArray ?_ ?_ ?_ (by kernel_rfl) (by kernel_rfl) ?_
        .exact rfl
        .kernel_rfl
        .kernel_rfl
        .exact Fa.there 0 2 (by simp)
        have Ea:=dS Ba sb 0 [it y1,it y2];have Ca:=cO Ga Ea Ia;have Ja:aw (Ba.setCells sb 0 [it y1,it y2]) sb [it y1,it y2]:=Fa.setCells [it y1,it y2] 0 (by simp);refine hK.out _ _ Ca (λhzz=>?_);clear hzz hK Kk Ea;generalize(Ba.setCells sb 0 [it y1,it y2])=Da at *;refine xO (rs:=[18]) (by kernel_rfl) (by simp) ?_;apply u'
        case ho=>exact rfl
        case h=>
         intro Kk hK;go_simp;refine hK.out _ _ Ca (λhzz=>?_);clear hzz hK Kk;refine tE 21 (.bool ok) ?_;refine bi ?_;go_simp;have Ka:=Ca;have La:=Ja;clear hHeld Ha Va Ga Fa Ca Ja;revert Ka La;generalize Da=wz;revert Ia;revert wz sb;exact key.out
        case hs=>exact xB
       case hs=>exact xB
     case hs=>exact xB
   case hs=>exact xB
 case h=>
  intro sb wz Ia Xa Ra;have LJ:=Hd Ra;have Sa:=ap Xa (m3 _) (λz e=>by simp at e);have Ya:=Oa.b Sa;have Gb:=Ua.b Sa;have Za:=Ta.t Sa;have Jb:=xD Ua.o.2.2 Ia;have Kb:=Eb.o;clear Xa Ra Sa Ta Ua Oa C1;(go_wp2_with fail);refine cP wz (some w.heap.size) (by kernel_rfl) λhHeld=>?_;have Ab:=Hd (Gb.o.belowS (m8 _ _).drew);generalize wz.drew=wy at *;refine tE 0 (.pointer (some ⟨b,0,none⟩)) ?_;refine tE 1 (.pointer (some ⟨b,0,none⟩)) ?_;refine tE 2 (.pointer (some ⟨b,1,none⟩)) ?_;refine wpAnyH_take (i:=3) (v:=.agg ((cW e1 e2 e3 e4 e5 e6 e7 e8 e9 e10 e11 e12):List Value).toArray) rfl (by kernel_rfl) (by kernel_rfl) (by kernel_rfl) (λ_ _ _ h=>h) (xF (by kernel_rfl) 31 (.tmp 28) rfl b 1 rfl ((cW e1 e2 e3 e4 e5 e6 e7 e8 e9 e10 e11 e12):List Value) _ (λW hW=>aw.mid (Ya.o.grown hW (λe=>by have:=m2 e;omega)) 1 12) underlying31 rfl (by kernel_rfl)) (by assumption) ?_;refine tk 4 (.agg #[it y1,it y2]) ?_ ?_
  .intro wq Aa;have c0:=(LJ.o.grown Aa (λe=>by have:=m2 e;omega)).c 0;have c1:=(LJ.o.grown Aa (λe=>by have:=m2 e;omega)).c 1;go_simp
  refine tE 5 (.pointer (some ⟨b,0,none⟩)) ?_;refine tE 6 (.pointer (some ⟨b,0,none⟩)) ?_;refine tE 7 (.pointer (some ⟨b,15,none⟩)) ?_;refine tk 8 (it jr) ?_ ?_
  .intro wq Aa;have c0:=(Ya.o.grown Aa (λe=>by have:=m2 e;omega)).c 15;go_simp
  refine tE 9 (.agg ((fj e1 e2 e3 e4 e5 e6 e7 e8 e9 e10 e11 e12 y1 y2 jr):List Value).toArray) ?_;refine aT 10 λKk hK=>?_;rw[if_pos (by kernel_rfl)];with_reducible refine wp_store_mid 175 (.tmp 4) (.tmp 35) ?_ w.heap.size 0 ((fj e1 e2 e3 e4 e5 e6 e7 e8 e9 e10 e11 e12 y1 y2 jr):List Value).toArray ?_ ?_ ?_ (by kernel_rfl) (by kernel_rfl) ?_
  .exact rfl
  .kernel_rfl
  .kernel_rfl
  .exact Ab.o.there 0 15 (by simp)
  have Ea:wz.grownBy (wy.setCells w.heap.size 0 (fj e1 e2 e3 e4 e5 e6 e7 e8 e9 e10 e11 e12 y1 y2 jr)) (some w.heap.size):=hHeld.trans (aO (World.grownBy.refl _ _) 0 _);have Ra:aw (wy.setCells w.heap.size 0 (fj e1 e2 e3 e4 e5 e6 e7 e8 e9 e10 e11 e12 y1 y2 jr)) w.heap.size (fj e1 e2 e3 e4 e5 e6 e7 e8 e9 e10 e11 e12 y1 y2 jr):=Ab.o.setCells (fj e1 e2 e3 e4 e5 e6 e7 e8 e9 e10 e11 e12 y1 y2 jr) 0 (by simp);refine hK.out _ _ Ea (λhzz=>?_);clear hzz hK Kk;refine bi ?_;go_simp;have Hb:=Za.o.trans (ap Ea Za.o.size (λz e=>by have:=m2 e;omega));generalize(wy.setCells w.heap.size 0 (fj e1 e2 e3 e4 e5 e6 e7 e8 e9 e10 e11 e12 y1 y2 jr))=wf at *;clear Ea hHeld;go_wp2;exact s' (aM rfl rfl (xH wf w.heap.size 0 175 _ _ Ra.row underlying175 rfl (by kernel_rfl))) rfl ⟨rfl,Hb⟩
def HJ.mq(q:HJ):MQ:=(q.j,q.a,q.c)
theorem wX(qs:List HJ):(qs.map HJ.mq).map (·.1)=qs.map (λq:HJ=>q.j):=by rw[List.map_map];rfl
theorem vU(qs:List HJ):∀g,g∈((qs.map HJ.mq).flatMap λq=>ob q.2.1)->g∈qs.flatMap HJ.bl:=by
 intro g hg;obtain⟨q,hq,hg⟩:=xI.1 hg;obtain⟨q',hq',rfl⟩:=List.mem_map.1 hq;exact xI.2 ⟨q',hq',by unfold HJ.bl;exact List.mem_cons_of_mem _ hg⟩
set_option maxRecDepth 10000 in
theorem lj{dA h:Nat}{now sr:Int}{ab:Option Addr}{nb cb:Nat}{bs:List Int}{ai:Option Addr}{ni ci:Nat}{mb:Nat}{qs:List HJ}(w:World)(H:bq w dA h now sr ab nb cb bs ai ni ci mb qs)(hr:(qs.map (λq:HJ=>q.j.id)).Pairwise (·< ·))(hni:ni<=1000)(mr:dA<=w.heap.size):
  Calls prog 19 #[.pointer (some ⟨h,0,none⟩)] w λe w'=>∃aj nj cj qm,e=.returned (.agg #[.int .i64 now,.int .i64 sr,.slice ab nb cb,.slice aj nj cj])/\aW w' dA ab nb cb bs aj nj cj qm/\qm.map (·.1)=qs.map (λq:HJ=>q.j)/\m1 w w':=by
 have HRi:=Hd hr;have hnq:=H.count;have bn:(ni:Int)<=9223372036854775807:=(by omega);have hcI:(ni:Int)<=ci:=(by have:=H.i.sees.le;omega);have HLT:=Hd H.lt;have HB0:H7 (m1 w (w.alloc (.cells #[.int .i64 0,.int .i64 0,.slice none 0 0,.slice none 0 0] 27))):=(m8 _ _).alloc (m3 _) _;have HZ0:H7 (aw (w.alloc (.cells #[.int .i64 0,.int .i64 0,.slice none 0 0,.slice none 0 0] 27)) w.heap.size [.int .i64 0,.int .i64 0,.slice none 0 0,.slice none 0 0]):=aQ _ _ _;have HG0:=Hd (H.below HB0.o);have HS0:H7 ((w.alloc (.cells #[.int .i64 0,.int .i64 0,.slice none 0 0,.slice none 0 0] 27)).heap.size=w.heap.size+1):=(by show _=_;simp);have x3:=HG0.o.l.c 3;obtain⟨i0,hi,hz0,hz1,hz2⟩:=info_parts fV;go_enter func19,ntmps19;(go_wp2_with(at_make;refine wpList_make_own _ rfl _ _ 25 rfl dA 70 i0 (.agg #[.int .i64 0,.int .i64 0,.int .i64 0,.int .i64 0,.int .i64 0,.int .i64 0,.int .i64 0,.int .i64 0,.int .i64 0,.int .i64 0,.int .i64 0,.int .i64 0,.int .i64 0,.int .i64 0,.int .i64 0,.int .i64 0,.bool false,.slice none 0 0]) 18 underlying25 hi hz0 hz1 .i64 .i64 _ ni rfl rfl rfl (by rw[hz2];omega) (by unfold maxLen;omega) (by have:=HS0.o;omega) ?_));intro w1 hown hg;have HO1:=Hd hown;have hb1:Below (w.alloc (.cells #[.int .i64 0,.int .i64 0,.slice none 0 0,.slice none 0 0] 27)).heap.size (w.alloc (.cells #[.int .i64 0,.int .i64 0,.slice none 0 0,.slice none 0 0] 27)) w1:=ap hg (m3 _) (λz e=>by simp at e);have HB1:=HB0.t hb1;have HZ1:=HZ0.b hb1;have HG1:=Hd (HG0.o.below hb1);have y3:=HG1.o.l.c 3;(go_wp2_with fail);have HM1:H7 (aW w1 dA ab nb cb bs (some ⟨w.heap.size+1,0,none⟩) 0 ni []):=⟨HG1.o.b,rfl,HO1.o,λq hq=>by simp at hq,cU.2 ⟨λg hg=>⟨λe=>by simp[ob]at e;have:=HLT.o g (by simp[dD,hg]);omega,by simp⟩,λg _=>by simp,by simp⟩⟩;have HA1:H7 (∀g∈ob (some (⟨w.heap.size+1,0,none⟩:Addr)),w.heap.size<g):=λg hg=>by simp[ob]at hg;omega
 clear HO1
 go_loopw [3,17] (λs i wr=>∃(k:Nat) (aj:Option Addr) (cj:Nat),k<=ni/\i=.int .i64 k/\s=.slice aj k cj/\aW wr dA ab nb cb bs aj k cj ((qs.take k).map HJ.mq)/\(∀g∈ob aj,w.heap.size<g)/\bq wr dA h now sr ab nb cb bs ai ni ci mb qs/\aw wr w.heap.size [.int .i64 0,.int .i64 0,.slice none 0 0,.slice none 0 0]/\m1 w wr) (λ_ i _=>ni-(intOf i).toNat)
 case atStart=>exact⟨0,_,_,by omega,rfl,rfl,HM1.o,HA1.o,HG1.o,HZ1.o,HB1.o⟩
 case round=>
  clear HM1 HA1 HG1 HZ1 HB1;obtain⟨k,aj,cj,hk,rfl,rfl,hm,ha,hh,hz,hb⟩:=hrel;by_cases hlt:k<ni
  ·
   obtain⟨b1,o1,rfl,hc1⟩:=hh.i.sees.at (by omega);have c1:=hc1 k hlt;rw[nU (by omega)]at c1;have hlk:=n9 HRi.o (i:=k) (by omega);obtain⟨hq1,hq2⟩:=hh.j _ (dz (i:=k) (by omega));have hrun:=hh.m.get (P:=prog) (t:=103) underlying103 underlying2 _ _ hlk false;simp only[Bool.false_eq_true,if_false]at hrun;have h4:=hh.l.c 4;have htk:(qs.take (k+1)).map HJ.mq=(qs.take k).map HJ.mq++[(qs.getD k du).mq]:=by rw[List.take_add_one,m5,m9 (by omega),xU];rfl
   have hqd:∀g∈ob (qs.getD k du).a,g∉b7 ab aj ((qs.take k).map HJ.mq):=by
    intro g hg hm2;obtain⟨⟨_,_,_,_⟩,_,dab,_,djs⟩:=bW.1 hh.d;have hin:g∈qs.flatMap HJ.bl:=xI.2 ⟨_,dz (i:=k) (by omega),by unfold HJ.bl;exact List.mem_cons_of_mem _ hg⟩;unfold b7 at hm2;simp only[xw]at hm2
    rcases hm2 with e | e | e
    .exact(dab g e).2 hin
    ·
     have h1:=ha g e;have h2:=HLT.o g (by unfold dD;simp only[List.mem_cons,xw];exact .inr (.inr (.inr (.inr hin))));omega
    ·
     have e2:=vU _ g e;rw[<-List.take_append_drop k qs,List.flatMap_append,List.nodup_append]at djs;refine djs.2.2 g e2 g ?_ rfl;rw[aX du hnq hlt,xV];exact xw.2 (.inl (by unfold HJ.bl;exact List.mem_cons_of_mem _ hg))
   have HMk:=Hd hm;have HAk:=Hd ha;have HHk:=Hd hh;have HZk:=Hd hz;have HBk:=Hd hb;have hkI:(k:Int)<(ni:Int):=(by omega);have hkl:=hm.jl;clear hc1 hlk hm ha hh hz hb;generalize qs.getD k du=q at htk hqd hq1 hq2 hrun c1;obtain⟨⟨jid,⟨⟨e1,e2,e3,e4,e5,e6⟩,⟨e7,e8,e9,e10,e11,e12⟩⟩,⟨t1,t2⟩,jr,jg,tl⟩,qb,qa,qc⟩:=q;dsimp only[HJ.vs,fk]at hq1 hq2 hrun c1 hqd;generalize htl:tl.length=tn at hq1 hq2;have HTL:=Hd htl;have HTK:H7 ((qs.take (k+1)).map HJ.mq=(qs.take k).map HJ.mq++[(⟨jid,⟨⟨e1,e2,e3,e4,e5,e6⟩,⟨e7,e8,e9,e10,e11,e12⟩⟩,(t1,t2),jr,jg,tl⟩,qa,qc)]):=htk;have HQD:=Hd hqd;have HQ1:=Hd hq1;have HQ2:=Hd hq2;(go_wp2_with(with_reducible refine au 29 ?_ ?_;rfl));refine dY 70 qb 0 [.int .i64 jid,.int .i64 e1,.int .i64 e2,.int .i64 e3,.int .i64 e4,.int .i64 e5,.int .i64 e6,.int .i64 e7,.int .i64 e8,.int .i64 e9,.int .i64 e10,.int .i64 e11,.int .i64 e12,.int .i64 t1,.int .i64 t2,.int .i64 jr,.bool jg,.slice qa tn qc] HQ1.o.row underlying70 ⟨rfl,rfl,by kernel_rfl,_,rfl,rfl⟩ ?_;(go_wp2_with(with_reducible refine au 31 ?_ ?_;rfl));show wpList _ _ _ _ _ _;have hba:m1 wr (wr.alloc (.cells #[.int .i64 jid,.int .i64 e1,.int .i64 e2,.int .i64 e3,.int .i64 e4,.int .i64 e5,.int .i64 e6,.int .i64 e7,.int .i64 e8,.int .i64 e9,.int .i64 e10,.int .i64 e11,.int .i64 e12,.int .i64 t1,.int .i64 t2,.int .i64 jr,.bool jg,.slice qa tn qc] 70)):=(m8 _ _).alloc (m3 _) _;have HMn:=Hd (HMk.o.below hba);have HTn:=Hd (HQ2.o.grown (bB hba none) (λ_ _=>by simp));have HHn:=Hd (HHk.o.below hba);have HZn:=HZk.b hba;have HBn:=HBk.t hba;have HLn:H7 (aw (wr.alloc (.cells #[.int .i64 jid,.int .i64 e1,.int .i64 e2,.int .i64 e3,.int .i64 e4,.int .i64 e5,.int .i64 e6,.int .i64 e7,.int .i64 e8,.int .i64 e9,.int .i64 e10,.int .i64 e11,.int .i64 e12,.int .i64 t1,.int .i64 t2,.int .i64 jr,.bool jg,.slice qa tn qc] 70)) wr.heap.size [.int .i64 jid,.int .i64 e1,.int .i64 e2,.int .i64 e3,.int .i64 e4,.int .i64 e5,.int .i64 e6,.int .i64 e7,.int .i64 e8,.int .i64 e9,.int .i64 e10,.int .i64 e11,.int .i64 e12,.int .i64 t1,.int .i64 t2,.int .i64 jr,.bool jg,.slice qa tn qc]):=aQ _ _ _;have HRW:=Hd HBk.o.size;generalize(wr.alloc (.cells #[.int .i64 jid,.int .i64 e1,.int .i64 e2,.int .i64 e3,.int .i64 e4,.int .i64 e5,.int .i64 e6,.int .i64 e7,.int .i64 e8,.int .i64 e9,.int .i64 e10,.int .i64 e11,.int .i64 e12,.int .i64 t1,.int .i64 t2,.int .i64 jr,.bool jg,.slice qa tn qc] 70))=wn at *;generalize wr.heap.size=jb at HLn HRW |-;clear hba HMk HQ2 HHk HZk HBk HQ1;obtain⟨i0,hi,hz0,hz1,hz2⟩:=info_parts fV;refine wpList_append_own_at _ rfl _ _ 25 rfl dA 70 i0 (.agg #[.int .i64 0,.int .i64 0,.int .i64 0,.int .i64 0,.int .i64 0,.int .i64 0,.int .i64 0,.int .i64 0,.int .i64 0,.int .i64 0,.int .i64 0,.int .i64 0,.int .i64 0,.int .i64 0,.int .i64 0,.int .i64 0,.bool false,.slice none 0 0]) 18 160 underlying25 hi hz0 hz1 hz2 rfl (by decide) _ k (((qs.take k).map HJ.mq).flatMap jy) rfl HMn.o.j ⟨jb,0,none⟩ 1 1 [.int .i64 jid,.int .i64 e1,.int .i64 e2,.int .i64 e3,.int .i64 e4,.int .i64 e5,.int .i64 e6,.int .i64 e7,.int .i64 e8,.int .i64 e9,.int .i64 e10,.int .i64 e11,.int .i64 e12,.int .i64 t1,.int .i64 t2,.int .i64 jr,.bool jg,.slice qa tn qc] rfl rfl (ix HLn.o) (by have h1:=nY ⟨jid,⟨⟨e1,e2,e3,e4,e5,e6⟩,⟨e7,e8,e9,e10,e11,e12⟩⟩,(t1,t2),jr,jg,tl⟩ qa qc;dsimp only[fk]at h1;rw[HTL.o]at h1;exact h1) (by unfold maxLen;omega) (by omega) (tr mr HBn.o.size) ?_;intro v' w8 hown hgrow _ hat;obtain⟨aj2,cj2,rfl⟩:=jE hown;have hjr:[.int .i64 jid,.int .i64 e1,.int .i64 e2,.int .i64 e3,.int .i64 e4,.int .i64 e5,.int .i64 e6,.int .i64 e7,.int .i64 e8,.int .i64 e9,.int .i64 e10,.int .i64 e11,.int .i64 e12,.int .i64 t1,.int .i64 t2,.int .i64 jr,.bool jg,.slice qa tn qc]=jy (⟨jid,⟨⟨e1,e2,e3,e4,e5,e6⟩,⟨e7,e8,e9,e10,e11,e12⟩⟩,(t1,t2),jr,jg,tl⟩,qa,qc):=(by dsimp only[jy,fk];rw[HTL.o]);rw[hjr]at hown;obtain⟨hP,_⟩:=HMn.o.push (⟨jid,⟨⟨e1,e2,e3,e4,e5,e6⟩,⟨e7,e8,e9,e10,e11,e12⟩⟩,(t1,t2),jr,jg,tl⟩,qa,qc) (by show bw _ _ _ tl.length _ _;rw[HTL.o];exact HTn.o) HQD.o hgrow hown (m3 _) hat;have hlow:∀z,(Value.slice aj k cj).ownBlock=some z->w.heap.size<z:=λz e=>HAk.o z (bA e);have HP8:H7 (aW w8 dA ab nb cb bs aj2 (k+1) cj2 ((qs.take (k+1)).map HJ.mq)):=(by show aW _ _ _ _ _ _ _ _ _ _;rw[HTK.o];exact hP);have HZ8:=Hd (HZn.o.grown hgrow (λe=>by have:=hlow _ e;omega));have HH8:=Hd (HHn.o.grown hgrow (λg hg e=>by have:=hlow _ e;have:=HLT.o g hg;omega));have HB8:=Hd (HBn.o.trans (ap hgrow HBn.o.size (λz e=>Nat.le_of_lt (hlow z e))))
   have HA8:H7 (∀g∈ob aj2,w.heap.size<g):=λg hg=>by
    have e:=cz (n:=k+1) (c:=cj2) hg
    rcases hat with e2 | e2
    .exact hlow g (e2.symm.trans e)
    .rw[e2]at e;have e:=m2 e;have:=HLn.o.2.2;have:=HRW.o;omega
   go_wp2;go_roundw
   case rel=>exact⟨k+1,aj2,cj2,by omega,by go_num,rfl,HP8.o,HA8.o,HH8.o,HZ8.o,HB8.o⟩
   case measure=>simp[intOf];omega
  ·
   have hke:k=ni:=(by omega);have HMf:H7 (aW wr dA ab nb cb bs aj k cj (qs.map HJ.mq)):=(by show aW _ _ _ _ _ _ _ _ _ _;rw[xt (by omega)]at hm;exact hm);have HAf:=Hd ha;have HHf:=Hd hh;have HZf:=Hd hz;have HBf:=Hd hb;clear hm ha hh hz hb;subst hke;have hkI:¬ (k:Int)<(k:Int):=(by omega);have x0:=HHf.o.l.c 0;have x1:=HHf.o.l.c 1;have x2:=HHf.o.l.c 2;have r0:=HZf.c 0;have fr0:=HZf.o.fr 0;have r1:=HZf.c 1;have fr1:=HZf.o.fr 1;have r2:=HZf.c 2;have fr2:=HZf.o.fr 2;have r3:=HZf.c 3;have fr3:=HZf.o.fr 3;(go_wp2_with fail);apply fR
   case f=>
    intro key
    go_region_law (fail)
    all_goals exact key.out
   case h=>
    go_wp2;show bodyPost _ _ _ _ _ (wr.setCells w.heap.size 0 [.int .i64 now,.int .i64 sr,.slice ab nb cb,.slice aj k cj]).drew;have hgf:wr.grownBy (wr.setCells w.heap.size 0 [.int .i64 now,.int .i64 sr,.slice ab nb cb,.slice aj k cj]).drew (some w.heap.size):=(aO (World.grownBy.refl _ _) 0 _).trans (dy _ _);have hLf:aw (wr.setCells w.heap.size 0 [.int .i64 now,.int .i64 sr,.slice ab nb cb,.slice aj k cj]).drew w.heap.size [.int .i64 now,.int .i64 sr,.slice ab nb cb,.slice aj k cj]:=(HZf.o.setCells [.int .i64 now,.int .i64 sr,.slice ab nb cb,.slice aj k cj] 0 (by simp)).belowS (m8 _ _).drew
    have hMf:=HMf.o.grown hgf (λg hg e=>by
     have he:=m2 e;unfold b7 at hg;simp only[xw]at hg
     rcases hg with hg | hg | hg
     .have:=HLT.o g (by simp[dD,hg]);omega
     .have:=HAf.o g hg;omega
     .have:=HLT.o g (by unfold dD;simp only[List.mem_cons,xw];exact .inr (.inr (.inr (.inr (vU _ g hg)))));omega)
    have hBf:=HBf.o.trans (ap hgf HBf.o.size (λz e=>by have:=m2 e;omega));generalize(wr.setCells w.heap.size 0 [.int .i64 now,.int .i64 sr,.slice ab nb cb,.slice aj k cj]).drew=wf at *;exact s' (aM rfl rfl (xH wf w.heap.size 0 27 _ _ hLf.row underlying27 rfl (by kernel_rfl))) rfl ⟨aj,k,cj,_,rfl,hMf,wX qs,hBf⟩
end Go.Proofs.YtbjalickbnpnkaaGreatDoor
