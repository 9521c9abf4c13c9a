import Derived.Test.YtobnifjhikoleaaGreatDoorPk17
namespace Go.Proofs.YtobnifjhikoleaaGreatDoor
open Go.RowKit Go.Proofs.Tryz
set_option linter.unusedSimpArgs false
set_option maxHeartbeats 32000000
theorem iz{P:Program}{ops:Array Oper}{o:Oper}{a:Act}{w:World}{K:Act→World→Prop}{Q:Exit→Act→World→Prop}{E:Prop}(hg:o.guard=none)(T:TypeId)(hop:o.op=.alloc T)(cs:Array Value)
 (hs:(Instr.alloc T true (.tuple #[])).run P w=.ok (.pointer (some ⟨w.heap.size,0,none⟩)) (w.alloc (.cells cs T)))
 (hK:∀g W,au W g cs.toList→w.heap.size≤g→g<W.heap.size→m1 w W→K (a.put o.dst (.pointer (some ⟨g,0,none⟩))) W):if Region.wanted o (yielded ops a.tmps)=true then Oper.wp P o a w K Q else E:=by
 have hw:Region.wanted o (yielded ops a.tmps)=true:=(by simp[Region.wanted,hg]);rw[if_pos hw];exact ce T hop cs hs (hK _ _ (aM _ _ _) (m3 _) (by simp) ((m5 _ _).alloc (m3 _) _))
set_option maxRecDepth 10000 in
theorem oW{b tn tc:Nat}{ta:Option Addr}(jid e1 e2 e3 e4 e5 e6 e7 e8 e9 e10 e11 e12 t1 t2 jr:Int)(jg:Bool)(s':Int)(w:World)(hl:au w b [.int .i64 jid,.int .i64 e1,.int .i64 e2,.int .i64 e3,.int .i64 e4,.int .i64 e5,.int .i64 e6,.int .i64 e7,.int .i64 e8,.int .i64 e9,.int .i64 e10,.int .i64 e11,.int .i64 e12,.int .i64 t1,.int .i64 t2,.int .i64 jr,.bool jg,.slice ta tn tc])(h0:0≤s')(h7:s'≤7)(r0:0≤jr)(r1:jr≤16):
  Rt 85 #[.pointer (some ⟨b,0,none⟩),.int .i64 s'] w (.agg #[.int .i64 e1,.int .i64 e2,.int .i64 e3,.int .i64 e4,.int .i64 e5,.int .i64 e6,.int .i64 e7,.int .i64 e8,.int .i64 e9,.int .i64 e10,.int .i64 e11,.int .i64 e12,.int .i64 (eu ⟨⟨e1,e2,e3,e4,e5,e6⟩,⟨e7,e8,e9,e10,e11,e12⟩⟩ (t1,t2) (s'*(jr-1))).1,.int .i64 (eu ⟨⟨e1,e2,e3,e4,e5,e6⟩,⟨e7,e8,e9,e10,e11,e12⟩⟩ (t1,t2) (s'*(jr-1))).2,.int .i64 jr]):=by
 have C1:=kT ⟨⟨e1,e2,e3,e4,e5,e6⟩,⟨e7,e8,e9,e10,e11,e12⟩⟩ (t1,t2) (s'*(jr-1));generalize eu ⟨⟨e1,e2,e3,e4,e5,e6⟩,⟨e7,e8,e9,e10,e11,e12⟩⟩ (t1,t2) (s'*(jr-1))=y at *;generalize bE ⟨⟨e1,e2,e3,e4,e5,e6⟩,⟨e7,e8,e9,e10,e11,e12⟩⟩ (t1,t2) (s'*(jr-1))=ok at C1;obtain⟨y1,y2⟩:=y;dsimp only[cZ,cP]at C1 ⊢;have Ib:IntKind.i64.wrap (jr-1)=jr-1:=by rw[vi];omega
 have Bb:0≤s'*(jr-1)+7∧s'*(jr-1)≤105:=by
  have h1:s'=0∨s'=1∨s'=2∨s'=3∨s'=4∨s'=5∨s'=6∨s'=7:=by omega
  rcases h1 with rfl | rfl | rfl | rfl | rfl | rfl | rfl | rfl <;> omega
 have Cb:IntKind.i64.wrap (s'*(jr-1))=s'*(jr-1):=(by rw[vi];omega);generalize Wa:s'*(jr-1)=nn at C1 Bb Cb;have Db:=Hd Wa;clear Wa;go_enter func85,ntmps85;have Ta:H9 (m1 w (w.alloc (.cells (eL 0 0 0 0 0 0 0 0 0 0 0 0 0 0 0).toArray 152))):=(m5 _ _).alloc (m3 _) _;have Ua:=cC w (eL 0 0 0 0 0 0 0 0 0 0 0 0 0 0 0) 152;have Oa:H9 (au (w.alloc (.cells (eL 0 0 0 0 0 0 0 0 0 0 0 0 0 0 0).toArray 152)) b (bO jid e1 e2 e3 e4 e5 e6 e7 e8 e9 e10 e11 e12 t1 t2 jr jg ta tn tc)):=hl.alloc _;have Eb:=Hd hl.2.2;clear hl;(go_wp2_with fail);generalize(w.alloc (.cells (eL 0 0 0 0 0 0 0 0 0 0 0 0 0 0 0).toArray 152))=wa at *;apply fi
 case f=>
  intro key;refine cH wa none (by kernel_rfl) fun hHeld=>?_;generalize wa.drew=Fb at *;refine tk 0 (.pointer (some ⟨b,0,none⟩)) ?_ ?_
  ·intro wq Aa;go_simp
  refine tk 1 (.pointer (some ⟨b,0,none⟩)) ?_ ?_
  ·intro wq Aa;go_simp
  refine tk 2 (.pointer (some ⟨b,1,none⟩)) ?_ ?_
  ·intro wq Aa;go_simp
  refine wpAnyH_take (i:=3) (v:=.agg ((cr e1 e2 e3 e4 e5 e6 e7 e8 e9 e10 e11 e12):List Value).toArray) rfl (by kernel_rfl) (by kernel_rfl) (by kernel_rfl) (fun _ _ _ h=>h) (uZ (by kernel_rfl) 31 (.tmp 10) rfl b 1 rfl ((cr e1 e2 e3 e4 e5 e6 e7 e8 e9 e10 e11 e12):List Value) _ (fun W hW=>au.mid (Oa.o.grown hW (by simp)) 1 12) underlying31 rfl (by kernel_rfl)) (by assumption) ?_;refine tk 4 (.pointer (some ⟨b,0,none⟩)) ?_ ?_
  ·intro wq Aa;go_simp
  refine tk 5 (.pointer (some ⟨b,0,none⟩)) ?_ ?_
  ·intro wq Aa;go_simp
  refine tk 6 (.pointer (some ⟨b,13,none⟩)) ?_ ?_
  ·intro wq Aa;go_simp
  refine tk 7 (.agg #[it t1,it t2]) ?_ ?_
  ·intro wq Aa;have c0:=(Oa.o.grown Aa (by simp)).c 13;have c1:=(Oa.o.grown Aa (by simp)).c 14;go_simp
  refine tk 8 (it s') ?_ ?_
  ·intro wq Aa;go_simp
  refine tk 9 (.pointer (some ⟨b,0,none⟩)) ?_ ?_
  ·intro wq Aa;go_simp
  refine tk 10 (.pointer (some ⟨b,0,none⟩)) ?_ ?_
  ·intro wq Aa;go_simp
  refine tk 11 (.pointer (some ⟨b,15,none⟩)) ?_ ?_
  ·intro wq Aa;go_simp
  refine tk 12 (it jr) ?_ ?_
  ·intro wq Aa;have c0:=(Oa.o.grown Aa (by simp)).c 15;go_simp
  refine tk 13 (it (jr-1)) ?_ ?_
  ·intro wq Aa;go_simp
  refine tk 14 (it nn) ?_ ?_
  ·intro wq Aa;go_simp;rw[Db.o];go_simp
  refine vk (rs:=[15,19]) (by kernel_rfl) (by simp) ?_;apply uP
  case ho=>exact rfl
  case h=>
   intro Kk hK;go_simp;refine(C1 Fb).mono ?_;rintro e Qa ⟨rfl,hb⟩;go_simp;have Ha:=aH hHeld hb;refine hK.out _ _ Ha (fun hzz=>?_);clear hzz hK Kk hb;refine tk 16 (.tuple #[.agg #[it y1,it y2],.bool ok]) ?_ ?_
   ·intro wq Aa;go_simp
   refine tk 17 (.agg #[it y1,it y2]) ?_ ?_
   ·intro wq Aa;go_simp
   refine vk (rs:=[18,19]) (by kernel_rfl) (by simp) ?_;apply uP
   case ho=>exact rfl
   case h=>
    intro Kk hK;go_simp;refine hK.out _ _ Ha (fun hzz=>?_);clear hzz hK Kk;refine vk (rs:=[19]) (by kernel_rfl) (by simp) ?_;apply uP
    case ho=>exact rfl
    case h=>
     intro Kk hK;with_reducible refine iz ?qg 33 ?qo #[it 0,it 0] ?qs ?qk
     case qg | qo=>exact rfl
     case qs=>kernel_rfl
     case qk=>
      intro sb Ba Fa Na Pa hb;have Ga:=aH Ha hb;have Ia:=m9 Ha.size Na;refine hK.out _ _ Ga (fun hzz=>?_);clear hzz hK Kk hb Na Pa;refine vk (rs:=[20]) (by kernel_rfl) (by simp) ?_;apply uP
      case ho=>exact rfl
      case h=>
       intro Kk hK;rw[if_pos (by kernel_rfl)];with_reducible refine wp_store_mid 33 (.tmp 5) (.tmp 24) ?_ sb 0 ([it y1,it y2]:List Value).toArray ?_ ?_ ?_ (by kernel_rfl) (by kernel_rfl) ?_
       ·exact rfl
       ·kernel_rfl
       ·kernel_rfl
       ·exact Fa.there 0 2 (by simp)
       have Ea:=ct Ba sb 0 [it y1,it y2];have Ca:=aK Ga Ea Ia;have Ja:au (Ba.setCells sb 0 [it y1,it y2]) sb [it y1,it y2]:=Fa.setCells [it y1,it y2] 0 (by simp);refine hK.out _ _ Ca (fun hzz=>?_);clear hzz hK Kk Ea;generalize(Ba.setCells sb 0 [it y1,it y2])=Da at *;refine tk 21 (.bool ok) ?_ ?_
       ·intro wq Aa;go_simp
       refine bg ?_;go_simp;have Ka:=Ca;have La:=Ja;clear hHeld Ha Ga Fa Ca Ja;revert Ka La;generalize Da=wz;revert Ia;revert wz sb;exact key.out
      case hs=>exact uW
    case hs=>exact uW
   case hs=>
    apply uP
    case ho=>exact rfl
    case h=>
     intro Kk hK;with_reducible refine iz ?qg 33 ?qo #[it 0,it 0] ?qs ?qk
     case qg | qo=>exact rfl
     case qs=>kernel_rfl
     case qk=>
      intro sb Ba Fa Na Pa hb;have Ga:=aH Ha hb;have Ia:=m9 Ha.size Na;refine hK.out _ _ Ga (fun hzz=>?_);clear hzz hK Kk hb Na Pa;refine vk (rs:=[18,20]) (by kernel_rfl) (by simp) ?_;apply uP
      case ho=>exact rfl
      case h=>
       intro Kk hK;go_simp;refine hK.out _ _ Ga (fun hzz=>?_);clear hzz hK Kk;refine vk (rs:=[20]) (by kernel_rfl) (by simp) ?_;apply uP
       case ho=>exact rfl
       case h=>
        intro Kk hK;rw[if_pos (by kernel_rfl)];with_reducible refine wp_store_mid 33 (.tmp 5) (.tmp 24) ?_ sb 0 ([it y1,it y2]:List Value).toArray ?_ ?_ ?_ (by kernel_rfl) (by kernel_rfl) ?_
        ·exact rfl
        ·kernel_rfl
        ·kernel_rfl
        ·exact Fa.there 0 2 (by simp)
        have Ea:=ct Ba sb 0 [it y1,it y2];have Ca:=aK Ga Ea Ia;have Ja:au (Ba.setCells sb 0 [it y1,it y2]) sb [it y1,it y2]:=Fa.setCells [it y1,it y2] 0 (by simp);refine hK.out _ _ Ca (fun hzz=>?_);clear hzz hK Kk Ea;generalize(Ba.setCells sb 0 [it y1,it y2])=Da at *;refine tk 21 (.bool ok) ?_ ?_
        ·intro wq Aa;go_simp
        refine bg ?_;go_simp;have Ka:=Ca;have La:=Ja;clear hHeld Ha Ga Fa Ca Ja;revert Ka La;generalize Da=wz;revert Ia;revert wz sb;exact key.out
       case hs=>exact uW
      case hs=>
       apply uP
       case ho=>exact rfl
       case h=>
        intro Kk hK;rw[if_pos (by kernel_rfl)];with_reducible refine wp_store_mid 33 (.tmp 5) (.tmp 24) ?_ sb 0 ([it y1,it y2]:List Value).toArray ?_ ?_ ?_ (by kernel_rfl) (by kernel_rfl) ?_
        ·exact rfl
        ·kernel_rfl
        ·kernel_rfl
        ·exact Fa.there 0 2 (by simp)
        have Ea:=ct Ba sb 0 [it y1,it y2];have Ca:=aK Ga Ea Ia;have Ja:au (Ba.setCells sb 0 [it y1,it y2]) sb [it y1,it y2]:=Fa.setCells [it y1,it y2] 0 (by simp);refine hK.out _ _ Ca (fun hzz=>?_);clear hzz hK Kk Ea;generalize(Ba.setCells sb 0 [it y1,it y2])=Da at *;refine vk (rs:=[18]) (by kernel_rfl) (by simp) ?_;apply uP
        case ho=>exact rfl
        case h=>
         intro Kk hK;go_simp;refine hK.out _ _ Ca (fun hzz=>?_);clear hzz hK Kk;refine tk 21 (.bool ok) ?_ ?_
         ·intro wq Aa;go_simp
         refine bg ?_;go_simp;have Ka:=Ca;have La:=Ja;clear hHeld Ha Ga Fa Ca Ja;revert Ka La;generalize Da=wz;revert Ia;revert wz sb;exact key.out
        case hs=>exact uW
       case hs=>exact uW
    case hs=>exact uW
  case hs=>
   apply uP
   case ho=>exact rfl
   case h=>
    intro Kk hK;with_reducible refine iz ?qg 33 ?qo #[it 0,it 0] ?qs ?qk
    case qg | qo=>exact rfl
    case qs=>kernel_rfl
    case qk=>
     intro sb Qa Va Na Pa hb;have Ha:=aH hHeld hb;have Ia:=m9 hHeld.size Na;refine hK.out _ _ Ha (fun hzz=>?_);clear hzz hK Kk hb Na Pa;refine vk (rs:=[15]) (by kernel_rfl) (by simp) ?_;apply uP
     case ho=>exact rfl
     case h=>
      intro Kk hK;go_simp;refine(C1 Qa).mono ?_;rintro e Ba ⟨rfl,hb⟩;go_simp;have Ga:=aH Ha hb;have Fa:au Ba sb [it 0,it 0]:=Va.belowS hb;refine hK.out _ _ Ga (fun hzz=>?_);clear hzz hK Kk hb;refine tk 16 (.tuple #[.agg #[it y1,it y2],.bool ok]) ?_ ?_
      ·intro wq Aa;go_simp
      refine tk 17 (.agg #[it y1,it y2]) ?_ ?_
      ·intro wq Aa;go_simp
      refine vk (rs:=[18,20]) (by kernel_rfl) (by simp) ?_;apply uP
      case ho=>exact rfl
      case h=>
       intro Kk hK;go_simp;refine hK.out _ _ Ga (fun hzz=>?_);clear hzz hK Kk;refine vk (rs:=[20]) (by kernel_rfl) (by simp) ?_;apply uP
       case ho=>exact rfl
       case h=>
        intro Kk hK;rw[if_pos (by kernel_rfl)];with_reducible refine wp_store_mid 33 (.tmp 5) (.tmp 24) ?_ sb 0 ([it y1,it y2]:List Value).toArray ?_ ?_ ?_ (by kernel_rfl) (by kernel_rfl) ?_
        ·exact rfl
        ·kernel_rfl
        ·kernel_rfl
        ·exact Fa.there 0 2 (by simp)
        have Ea:=ct Ba sb 0 [it y1,it y2];have Ca:=aK Ga Ea Ia;have Ja:au (Ba.setCells sb 0 [it y1,it y2]) sb [it y1,it y2]:=Fa.setCells [it y1,it y2] 0 (by simp);refine hK.out _ _ Ca (fun hzz=>?_);clear hzz hK Kk Ea;generalize(Ba.setCells sb 0 [it y1,it y2])=Da at *;refine tk 21 (.bool ok) ?_ ?_
        ·intro wq Aa;go_simp
        refine bg ?_;go_simp;have Ka:=Ca;have La:=Ja;clear hHeld Ha Va Ga Fa Ca Ja;revert Ka La;generalize Da=wz;revert Ia;revert wz sb;exact key.out
       case hs=>exact uW
      case hs=>
       apply uP
       case ho=>exact rfl
       case h=>
        intro Kk hK;rw[if_pos (by kernel_rfl)];with_reducible refine wp_store_mid 33 (.tmp 5) (.tmp 24) ?_ sb 0 ([it y1,it y2]:List Value).toArray ?_ ?_ ?_ (by kernel_rfl) (by kernel_rfl) ?_
        ·exact rfl
        ·kernel_rfl
        ·kernel_rfl
        ·exact Fa.there 0 2 (by simp)
        have Ea:=ct Ba sb 0 [it y1,it y2];have Ca:=aK Ga Ea Ia;have Ja:au (Ba.setCells sb 0 [it y1,it y2]) sb [it y1,it y2]:=Fa.setCells [it y1,it y2] 0 (by simp);refine hK.out _ _ Ca (fun hzz=>?_);clear hzz hK Kk Ea;generalize(Ba.setCells sb 0 [it y1,it y2])=Da at *;refine vk (rs:=[18]) (by kernel_rfl) (by simp) ?_;apply uP
        case ho=>exact rfl
        case h=>
         intro Kk hK;go_simp;refine hK.out _ _ Ca (fun hzz=>?_);clear hzz hK Kk;refine tk 21 (.bool ok) ?_ ?_
         ·intro wq Aa;go_simp
         refine bg ?_;go_simp;have Ka:=Ca;have La:=Ja;clear hHeld Ha Va Ga Fa Ca Ja;revert Ka La;generalize Da=wz;revert Ia;revert wz sb;exact key.out
        case hs=>exact uW
       case hs=>exact uW
     case hs=>exact uW
   case hs=>exact uW
 case h=>
  intro sb wz Ia Xa Ra;have LJ:=Hd Ra;have Sa:=ap Xa (m3 _) (fun z e=>by simp at e);have Ya:=Oa.b Sa;have Gb:=Ua.b Sa;have Za:=Ta.t Sa;have Jb:=uY Ua.o.2.2 Ia;have Kb:=Eb.o;clear Xa Ra Sa Ta Ua Oa C1;(go_wp2_with fail);refine cH wz (some w.heap.size) (by kernel_rfl) fun hHeld=>?_;have Ab:=Hd (Gb.o.belowS (m5 _ _).drew);generalize wz.drew=wy at *;refine tk 0 (.pointer (some ⟨b,0,none⟩)) ?_ ?_
  ·intro wq Aa;go_simp
  refine tk 1 (.pointer (some ⟨b,0,none⟩)) ?_ ?_
  ·intro wq Aa;go_simp
  refine tk 2 (.pointer (some ⟨b,1,none⟩)) ?_ ?_
  ·intro wq Aa;go_simp
  refine wpAnyH_take (i:=3) (v:=.agg ((cr e1 e2 e3 e4 e5 e6 e7 e8 e9 e10 e11 e12):List Value).toArray) rfl (by kernel_rfl) (by kernel_rfl) (by kernel_rfl) (fun _ _ _ h=>h) (uZ (by kernel_rfl) 31 (.tmp 28) rfl b 1 rfl ((cr e1 e2 e3 e4 e5 e6 e7 e8 e9 e10 e11 e12):List Value) _ (fun W hW=>au.mid (Ya.o.grown hW (fun e=>by have:=m2 e;omega)) 1 12) underlying31 rfl (by kernel_rfl)) (by assumption) ?_;refine tk 4 (.agg #[it y1,it y2]) ?_ ?_
  ·intro wq Aa;have c0:=(LJ.o.grown Aa (fun e=>by have:=m2 e;omega)).c 0;have c1:=(LJ.o.grown Aa (fun e=>by have:=m2 e;omega)).c 1;go_simp
  refine tk 5 (.pointer (some ⟨b,0,none⟩)) ?_ ?_
  ·intro wq Aa;go_simp
  refine tk 6 (.pointer (some ⟨b,0,none⟩)) ?_ ?_
  ·intro wq Aa;go_simp
  refine tk 7 (.pointer (some ⟨b,15,none⟩)) ?_ ?_
  ·intro wq Aa;go_simp
  refine tk 8 (it jr) ?_ ?_
  ·intro wq Aa;have c0:=(Ya.o.grown Aa (fun e=>by have:=m2 e;omega)).c 15;go_simp
  refine tk 9 (.agg ((eL e1 e2 e3 e4 e5 e6 e7 e8 e9 e10 e11 e12 y1 y2 jr):List Value).toArray) ?_ ?_
  ·intro wq Aa;go_simp
  refine aX 10 fun Kk hK=>?_;rw[if_pos (by kernel_rfl)];with_reducible refine wp_store_mid 152 (.tmp 4) (.tmp 35) ?_ w.heap.size 0 ((eL e1 e2 e3 e4 e5 e6 e7 e8 e9 e10 e11 e12 y1 y2 jr):List Value).toArray ?_ ?_ ?_ (by kernel_rfl) (by kernel_rfl) ?_
  ·exact rfl
  ·kernel_rfl
  ·kernel_rfl
  ·exact Ab.o.there 0 15 (by simp)
  have Ea:wz.grownBy (wy.setCells w.heap.size 0 (eL e1 e2 e3 e4 e5 e6 e7 e8 e9 e10 e11 e12 y1 y2 jr)) (some w.heap.size):=hHeld.trans (a8 (World.grownBy.refl _ _) 0 _);have Ra:au (wy.setCells w.heap.size 0 (eL e1 e2 e3 e4 e5 e6 e7 e8 e9 e10 e11 e12 y1 y2 jr)) w.heap.size (eL e1 e2 e3 e4 e5 e6 e7 e8 e9 e10 e11 e12 y1 y2 jr):=Ab.o.setCells (eL e1 e2 e3 e4 e5 e6 e7 e8 e9 e10 e11 e12 y1 y2 jr) 0 (by simp);refine hK.out _ _ Ea (fun hzz=>?_);clear hzz hK Kk;refine bg ?_;go_simp;have Hb:=Za.o.trans (ap Ea Za.o.size (fun z e=>by have:=m2 e;omega));generalize(wy.setCells w.heap.size 0 (eL e1 e2 e3 e4 e5 e6 e7 e8 e9 e10 e11 e12 y1 y2 jr))=wf at *;clear Ea hHeld;go_wp2;exact m8 (aQ rfl rfl (u' wf w.heap.size 0 152 _ _ Ra.row underlying152 rfl (by kernel_rfl))) rfl ⟨rfl,Hb⟩
def HJ.mq(q:HJ):MQ:=(q.j,q.a,q.c)
theorem uB(qs:List HJ):(qs.map HJ.mq).map (·.1)=qs.map (fun q:HJ=>q.j):=by rw[List.map_map];rfl
theorem ud(qs:List HJ):∀g,g∈((qs.map HJ.mq).flatMap fun q=>ob q.2.1)→g∈qs.flatMap HJ.bl:=by
 intro g hg;obtain⟨q,hq,hg⟩:=vg.1 hg;obtain⟨q',hq',rfl⟩:=List.mem_map.1 hq;exact vg.2 ⟨q',hq',by unfold HJ.bl;exact List.mem_cons_of_mem _ hg⟩
set_option maxRecDepth 10000 in
theorem ko{i' h:Nat}{now uN:Int}{ab:Option Addr}{nb cb:Nat}{bs:List Int}{ai:Option Addr}{ni ci:Nat}{mb:Nat}{qs:List HJ}(w:World)(H:bj w i' h now uN ab nb cb bs ai ni ci mb qs)(hr:(qs.map (fun q:HJ=>q.j.id)).Pairwise (·< ·))(hni:ni≤1000)(uK:i'≤w.heap.size):
  Calls prog 16 #[.pointer (some ⟨h,0,none⟩)] w fun e w'=>∃aj nj cj qm,e=.returned (.agg #[.int .i64 now,.int .i64 uN,.slice ab nb cb,.slice aj nj cj])∧aW w' i' ab nb cb bs aj nj cj qm∧qm.map (·.1)=qs.map (fun q:HJ=>q.j)∧m1 w w':=by
 have HRi:=Hd hr;have hnq:=H.count;have bn:(ni:Int)≤9223372036854775807:=(by omega);have hcI:(ni:Int)≤ci:=(by have:=H.i.sees.le;omega);have HLT:=Hd H.lt;have HB0:H9 (m1 w (w.alloc (.cells #[.int .i64 0,.int .i64 0,.slice none 0 0,.slice none 0 0] 27))):=(m5 _ _).alloc (m3 _) _;have HZ0:H9 (au (w.alloc (.cells #[.int .i64 0,.int .i64 0,.slice none 0 0,.slice none 0 0] 27)) w.heap.size [.int .i64 0,.int .i64 0,.slice none 0 0,.slice none 0 0]):=aM _ _ _;have HG0:=Hd (H.below HB0.o);have HS0:H9 ((w.alloc (.cells #[.int .i64 0,.int .i64 0,.slice none 0 0,.slice none 0 0] 27)).heap.size=w.heap.size+1):=(by show _=_;simp);have x3:=HG0.o.l.c 3;obtain⟨i0,hi,hz0,hz1,hz2⟩:=info_parts fp;go_enter func16,ntmps16;(go_wp2_with(at_make;refine wpList_make_own _ rfl _ _ 25 rfl i' 45 i0 (.agg #[.int .i64 0,.int .i64 0,.int .i64 0,.int .i64 0,.int .i64 0,.int .i64 0,.int .i64 0,.int .i64 0,.int .i64 0,.int .i64 0,.int .i64 0,.int .i64 0,.int .i64 0,.int .i64 0,.int .i64 0,.int .i64 0,.bool false,.slice none 0 0]) 18 underlying25 hi hz0 hz1 .i64 .i64 _ ni rfl rfl rfl (by rw[hz2];omega) (by unfold maxLen;omega) (by have:=HS0.o;omega) ?_));intro w1 hown hg;have HO1:=Hd hown;have hb1:Below (w.alloc (.cells #[.int .i64 0,.int .i64 0,.slice none 0 0,.slice none 0 0] 27)).heap.size (w.alloc (.cells #[.int .i64 0,.int .i64 0,.slice none 0 0,.slice none 0 0] 27)) w1:=ap hg (m3 _) (fun z e=>by simp at e);have HB1:=HB0.t hb1;have HZ1:=HZ0.b hb1;have HG1:=Hd (HG0.o.below hb1);have y3:=HG1.o.l.c 3;(go_wp2_with fail);have HM1:H9 (aW w1 i' ab nb cb bs (some ⟨w.heap.size+1,0,none⟩) 0 ni []):=⟨HG1.o.b,rfl,HO1.o,fun q hq=>by simp at hq,cO.2 ⟨fun g hg=>⟨fun e=>by simp[ob]at e;have:=HLT.o g (by simp[dj,hg]);omega,by simp⟩,fun g _=>by simp,by simp⟩⟩;have HA1:H9 (∀g∈ob (some (⟨w.heap.size+1,0,none⟩:Addr)),w.heap.size<g):=fun g hg=>by simp[ob]at hg;omega
 clear HO1
 go_loopw [3,17] (fun s i wr=>∃(k:Nat) (aj:Option Addr) (cj:Nat),k≤ni∧i=.int .i64 k∧s=.slice aj k cj∧aW wr i' ab nb cb bs aj k cj ((qs.take k).map HJ.mq)∧(∀g∈ob aj,w.heap.size<g)∧bj wr i' h now uN ab nb cb bs ai ni ci mb qs∧au wr w.heap.size [.int .i64 0,.int .i64 0,.slice none 0 0,.slice none 0 0]∧m1 w wr) (fun _ i _=>ni-(intOf i).toNat)
 case atStart=>exact⟨0,_,_,by omega,rfl,rfl,HM1.o,HA1.o,HG1.o,HZ1.o,HB1.o⟩
 case round=>
  clear HM1 HA1 HG1 HZ1 HB1;obtain⟨k,aj,cj,hk,rfl,rfl,hm,ha,hh,hz,hb⟩:=hrel;by_cases hlt:k<ni
  ·
   obtain⟨b1,o1,rfl,hc1⟩:=hh.i.sees.at (by omega);have c1:=hc1 k hlt;rw[mD (by omega)]at c1;have hlk:=mK HRi.o (i:=k) (by omega);obtain⟨hq1,hq2⟩:=hh.j _ (dh (i:=k) (by omega));have hrun:=hh.m.get (P:=prog) (t:=89) underlying89 underlying2 _ _ hlk false;simp only[Bool.false_eq_true,if_false]at hrun;have h4:=hh.l.c 4;have htk:(qs.take (k+1)).map HJ.mq=(qs.take k).map HJ.mq++[(qs.getD k dg).mq]:=by rw[List.take_add_one,m4,m6 (by omega),vq];rfl
   have hqd:∀g∈ob (qs.getD k dg).a,g∉b8 ab aj ((qs.take k).map HJ.mq):=by
    intro g hg hm2;obtain⟨⟨_,_,_,_⟩,_,dab,_,djs⟩:=bX.1 hh.d;have hin:g∈qs.flatMap HJ.bl:=vg.2 ⟨_,dh (i:=k) (by omega),by unfold HJ.bl;exact List.mem_cons_of_mem _ hg⟩;unfold b8 at hm2;simp only[uT]at hm2
    rcases hm2 with e | e | e
    ·exact(dab g e).2 hin
    ·
     have h1:=ha g e;have h2:=HLT.o g (by unfold dj;simp only[List.mem_cons,uT];exact .inr (.inr (.inr (.inr hin))));omega
    ·
     have e2:=ud _ g e;rw[←List.take_append_drop k qs,List.flatMap_append,List.nodup_append]at djs;refine djs.2.2 g e2 g ?_ rfl;rw[aY dg hnq hlt,vt];exact uT.2 (.inl (by unfold HJ.bl;exact List.mem_cons_of_mem _ hg))
   have HMk:=Hd hm;have HAk:=Hd ha;have HHk:=Hd hh;have HZk:=Hd hz;have HBk:=Hd hb;have hkI:(k:Int)<(ni:Int):=(by omega);have hkl:=hm.jl;clear hc1 hlk hm ha hh hz hb;generalize qs.getD k dg=q at htk hqd hq1 hq2 hrun c1;obtain⟨⟨jid,⟨⟨e1,e2,e3,e4,e5,e6⟩,⟨e7,e8,e9,e10,e11,e12⟩⟩,⟨t1,t2⟩,jr,jg,tl⟩,qb,qa,qc⟩:=q;dsimp only[HJ.vs,ed]at hq1 hq2 hrun c1 hqd;generalize htl:tl.length=tn at hq1 hq2;have HTL:=Hd htl;have HTK:H9 ((qs.take (k+1)).map HJ.mq=(qs.take k).map HJ.mq++[(⟨jid,⟨⟨e1,e2,e3,e4,e5,e6⟩,⟨e7,e8,e9,e10,e11,e12⟩⟩,(t1,t2),jr,jg,tl⟩,qa,qc)]):=htk;have HQD:=Hd hqd;have HQ1:=Hd hq1;have HQ2:=Hd hq2;(go_wp2_with(with_reducible refine aA 29 ?_ ?_;rfl));refine fu 45 qb 0 [.int .i64 jid,.int .i64 e1,.int .i64 e2,.int .i64 e3,.int .i64 e4,.int .i64 e5,.int .i64 e6,.int .i64 e7,.int .i64 e8,.int .i64 e9,.int .i64 e10,.int .i64 e11,.int .i64 e12,.int .i64 t1,.int .i64 t2,.int .i64 jr,.bool jg,.slice qa tn qc] HQ1.o.row underlying45 ⟨rfl,rfl,by kernel_rfl,_,rfl,rfl⟩ ?_;(go_wp2_with(with_reducible refine aA 31 ?_ ?_;rfl));show wpList _ _ _ _ _ _;have hba:m1 wr (wr.alloc (.cells #[.int .i64 jid,.int .i64 e1,.int .i64 e2,.int .i64 e3,.int .i64 e4,.int .i64 e5,.int .i64 e6,.int .i64 e7,.int .i64 e8,.int .i64 e9,.int .i64 e10,.int .i64 e11,.int .i64 e12,.int .i64 t1,.int .i64 t2,.int .i64 jr,.bool jg,.slice qa tn qc] 45)):=(m5 _ _).alloc (m3 _) _;have HMn:=Hd (HMk.o.below hba);have HTn:=Hd (HQ2.o.grown (bw hba none) (fun _ _=>by simp));have HHn:=Hd (HHk.o.below hba);have HZn:=HZk.b hba;have HBn:=HBk.t hba;have HLn:H9 (au (wr.alloc (.cells #[.int .i64 jid,.int .i64 e1,.int .i64 e2,.int .i64 e3,.int .i64 e4,.int .i64 e5,.int .i64 e6,.int .i64 e7,.int .i64 e8,.int .i64 e9,.int .i64 e10,.int .i64 e11,.int .i64 e12,.int .i64 t1,.int .i64 t2,.int .i64 jr,.bool jg,.slice qa tn qc] 45)) wr.heap.size [.int .i64 jid,.int .i64 e1,.int .i64 e2,.int .i64 e3,.int .i64 e4,.int .i64 e5,.int .i64 e6,.int .i64 e7,.int .i64 e8,.int .i64 e9,.int .i64 e10,.int .i64 e11,.int .i64 e12,.int .i64 t1,.int .i64 t2,.int .i64 jr,.bool jg,.slice qa tn qc]):=aM _ _ _;have HRW:=Hd HBk.o.size;generalize(wr.alloc (.cells #[.int .i64 jid,.int .i64 e1,.int .i64 e2,.int .i64 e3,.int .i64 e4,.int .i64 e5,.int .i64 e6,.int .i64 e7,.int .i64 e8,.int .i64 e9,.int .i64 e10,.int .i64 e11,.int .i64 e12,.int .i64 t1,.int .i64 t2,.int .i64 jr,.bool jg,.slice qa tn qc] 45))=wn at *;generalize wr.heap.size=jb at HLn HRW ⊢;clear hba HMk HQ2 HHk HZk HBk HQ1;obtain⟨i0,hi,hz0,hz1,hz2⟩:=info_parts fp;refine wpList_append_own_at _ rfl _ _ 25 rfl i' 45 i0 (.agg #[.int .i64 0,.int .i64 0,.int .i64 0,.int .i64 0,.int .i64 0,.int .i64 0,.int .i64 0,.int .i64 0,.int .i64 0,.int .i64 0,.int .i64 0,.int .i64 0,.int .i64 0,.int .i64 0,.int .i64 0,.int .i64 0,.bool false,.slice none 0 0]) 18 160 underlying25 hi hz0 hz1 hz2 rfl (by decide) _ k (((qs.take k).map HJ.mq).flatMap iM) rfl HMn.o.j ⟨jb,0,none⟩ 1 1 [.int .i64 jid,.int .i64 e1,.int .i64 e2,.int .i64 e3,.int .i64 e4,.int .i64 e5,.int .i64 e6,.int .i64 e7,.int .i64 e8,.int .i64 e9,.int .i64 e10,.int .i64 e11,.int .i64 e12,.int .i64 t1,.int .i64 t2,.int .i64 jr,.bool jg,.slice qa tn qc] rfl rfl (gH HLn.o) (by have h1:=mH ⟨jid,⟨⟨e1,e2,e3,e4,e5,e6⟩,⟨e7,e8,e9,e10,e11,e12⟩⟩,(t1,t2),jr,jg,tl⟩ qa qc;dsimp only[ed]at h1;rw[HTL.o]at h1;exact h1) (by unfold maxLen;omega) (by omega) (m9 uK HBn.o.size) ?_;intro v' w8 hown hgrow _ hat;obtain⟨aj2,cj2,rfl⟩:=iR hown;have hjr:[.int .i64 jid,.int .i64 e1,.int .i64 e2,.int .i64 e3,.int .i64 e4,.int .i64 e5,.int .i64 e6,.int .i64 e7,.int .i64 e8,.int .i64 e9,.int .i64 e10,.int .i64 e11,.int .i64 e12,.int .i64 t1,.int .i64 t2,.int .i64 jr,.bool jg,.slice qa tn qc]=iM (⟨jid,⟨⟨e1,e2,e3,e4,e5,e6⟩,⟨e7,e8,e9,e10,e11,e12⟩⟩,(t1,t2),jr,jg,tl⟩,qa,qc):=(by dsimp only[iM,ed];rw[HTL.o]);rw[hjr]at hown;obtain⟨hP,_⟩:=HMn.o.push (⟨jid,⟨⟨e1,e2,e3,e4,e5,e6⟩,⟨e7,e8,e9,e10,e11,e12⟩⟩,(t1,t2),jr,jg,tl⟩,qa,qc) (by show bx _ _ _ tl.length _ _;rw[HTL.o];exact HTn.o) HQD.o hgrow hown (m3 _) hat;have hlow:∀z,(Value.slice aj k cj).ownBlock=some z→w.heap.size<z:=fun z e=>HAk.o z (br e);have HP8:H9 (aW w8 i' ab nb cb bs aj2 (k+1) cj2 ((qs.take (k+1)).map HJ.mq)):=(by show aW _ _ _ _ _ _ _ _ _ _;rw[HTK.o];exact hP);have HZ8:=Hd (HZn.o.grown hgrow (fun e=>by have:=hlow _ e;omega));have HH8:=Hd (HHn.o.grown hgrow (fun g hg e=>by have:=hlow _ e;have:=HLT.o g hg;omega));have HB8:=Hd (HBn.o.trans (ap hgrow HBn.o.size (fun z e=>Nat.le_of_lt (hlow z e))))
   have HA8:H9 (∀g∈ob aj2,w.heap.size<g):=fun g hg=>by
    have e:=cA (n:=k+1) (c:=cj2) hg
    rcases hat with e2 | e2
    ·exact hlow g (e2.symm.trans e)
    ·rw[e2]at e;have e:=m2 e;have:=HLn.o.2.2;have:=HRW.o;omega
   go_wp2;go_roundw
   case rel=>exact⟨k+1,aj2,cj2,by omega,by go_num,rfl,HP8.o,HA8.o,HH8.o,HZ8.o,HB8.o⟩
   case measure=>simp[intOf];omega
  ·
   have hke:k=ni:=(by omega);have HMf:H9 (aW wr i' ab nb cb bs aj k cj (qs.map HJ.mq)):=(by show aW _ _ _ _ _ _ _ _ _ _;rw[uQ (by omega)]at hm;exact hm);have HAf:=Hd ha;have HHf:=Hd hh;have HZf:=Hd hz;have HBf:=Hd hb;clear hm ha hh hz hb;subst hke;have hkI:¬ (k:Int)<(k:Int):=(by omega);have x0:=HHf.o.l.c 0;have x1:=HHf.o.l.c 1;have x2:=HHf.o.l.c 2;have r0:=HZf.c 0;have fr0:=HZf.o.fr 0;have r1:=HZf.c 1;have fr1:=HZf.o.fr 1;have r2:=HZf.c 2;have fr2:=HZf.o.fr 2;have r3:=HZf.c 3;have fr3:=HZf.o.fr 3;(go_wp2_with fail);apply fi
   case f=>
    intro key
    go_region_law (fail)
    all_goals exact key.out
   case h=>
    go_wp2;show bodyPost _ _ _ _ _ (wr.setCells w.heap.size 0 [.int .i64 now,.int .i64 uN,.slice ab nb cb,.slice aj k cj]).drew;have hgf:wr.grownBy (wr.setCells w.heap.size 0 [.int .i64 now,.int .i64 uN,.slice ab nb cb,.slice aj k cj]).drew (some w.heap.size):=(a8 (World.grownBy.refl _ _) 0 _).trans (cW _ _);have hLf:au (wr.setCells w.heap.size 0 [.int .i64 now,.int .i64 uN,.slice ab nb cb,.slice aj k cj]).drew w.heap.size [.int .i64 now,.int .i64 uN,.slice ab nb cb,.slice aj k cj]:=(HZf.o.setCells [.int .i64 now,.int .i64 uN,.slice ab nb cb,.slice aj k cj] 0 (by simp)).belowS (m5 _ _).drew
    have hMf:=HMf.o.grown hgf (fun g hg e=>by
     have he:=m2 e;unfold b8 at hg;simp only[uT]at hg
     rcases hg with hg | hg | hg
     ·have:=HLT.o g (by simp[dj,hg]);omega
     ·have:=HAf.o g hg;omega
     ·have:=HLT.o g (by unfold dj;simp only[List.mem_cons,uT];exact .inr (.inr (.inr (.inr (ud _ g hg)))));omega)
    have hBf:=HBf.o.trans (ap hgf HBf.o.size (fun z e=>by have:=m2 e;omega));generalize(wr.setCells w.heap.size 0 [.int .i64 now,.int .i64 uN,.slice ab nb cb,.slice aj k cj]).drew=wf at *;exact m8 (aQ rfl rfl (u' wf w.heap.size 0 27 _ _ hLf.row underlying27 rfl (by kernel_rfl))) rfl ⟨aj,k,cj,_,rfl,hMf,uB qs,hBf⟩
end Go.Proofs.YtobnifjhikoleaaGreatDoor
