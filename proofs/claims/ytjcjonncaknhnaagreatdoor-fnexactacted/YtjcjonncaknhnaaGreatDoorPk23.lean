import Derived.Test.YtjcjonncaknhnaaGreatDoorPk21
import Derived.Test.YtjcjonncaknhnaaGreatDoorPk22
namespace Go.Proofs.YtjcjonncaknhnaaGreatDoor
open Go.RowKit Go.Proofs.Tryz
set_option linter.unusedSimpArgs false
set_option maxHeartbeats 32000000
theorem gH{P:Program}{ops:Array Oper}{o:Oper}{a:Act}{w:World}{K:Act→World→Prop}{Q:Exit→Act→World→Prop}{E:Prop}(hg:o.guard=none)(T:TypeId)(hop:o.op=.alloc T)(cs:Array Value)
 (hs:(Instr.alloc T true (.tuple #[])).run P w=.ok (.pointer (some ⟨w.heap.size,0,none⟩)) (w.alloc (.cells cs T)))
 (hK:∀g W,ae W g cs.toList→w.heap.size≤g→g<W.heap.size→Below w.heap.size w W→K (a.put o.dst (.pointer (some ⟨g,0,none⟩))) W):if Region.wanted o (yielded ops a.tmps)=true then Oper.wp P o a w K Q else E:=by
 have hw:Region.wanted o (yielded ops a.tmps)=true:=(by simp[Region.wanted,hg]);rw[if_pos hw];exact bH T hop cs hs (hK _ _ (aI _ _ _) (tr _) (by simp) ((tv _ _).alloc (tr _) _))
set_option maxRecDepth 10000 in
theorem mW{b tn tc:Nat}{ta:Option Addr}(jid e1 e2 e3 e4 e5 e6 e7 e8 e9 e10 e11 e12 t1 t2 jr:Int)(jg:Bool)(p':Int)(w:World)(hl:ae w b [.int .i64 jid,.int .i64 e1,.int .i64 e2,.int .i64 e3,.int .i64 e4,.int .i64 e5,.int .i64 e6,.int .i64 e7,.int .i64 e8,.int .i64 e9,.int .i64 e10,.int .i64 e11,.int .i64 e12,.int .i64 t1,.int .i64 t2,.int .i64 jr,.bool jg,.slice ta tn tc])(h0:0≤p')(h7:p'≤7)(r0:0≤jr)(r1:jr≤16):
  Rt 121 #[.pointer (some ⟨b,0,none⟩),.int .i64 p'] w (.agg #[.int .i64 e1,.int .i64 e2,.int .i64 e3,.int .i64 e4,.int .i64 e5,.int .i64 e6,.int .i64 e7,.int .i64 e8,.int .i64 e9,.int .i64 e10,.int .i64 e11,.int .i64 e12,.int .i64 (ep ⟨⟨e1,e2,e3,e4,e5,e6⟩,⟨e7,e8,e9,e10,e11,e12⟩⟩ (t1,t2) (p'*(jr-1))).1,.int .i64 (ep ⟨⟨e1,e2,e3,e4,e5,e6⟩,⟨e7,e8,e9,e10,e11,e12⟩⟩ (t1,t2) (p'*(jr-1))).2,.int .i64 jr]):=by
 have C1:=ko ⟨⟨e1,e2,e3,e4,e5,e6⟩,⟨e7,e8,e9,e10,e11,e12⟩⟩ (t1,t2) (p'*(jr-1));generalize ep ⟨⟨e1,e2,e3,e4,e5,e6⟩,⟨e7,e8,e9,e10,e11,e12⟩⟩ (t1,t2) (p'*(jr-1))=y at *;generalize bB ⟨⟨e1,e2,e3,e4,e5,e6⟩,⟨e7,e8,e9,e10,e11,e12⟩⟩ (t1,t2) (p'*(jr-1))=ok at C1;obtain⟨y1,y2⟩:=y;dsimp only[cQ,cC]at C1 ⊢;have Ib:IntKind.i64.wrap (jr-1)=jr-1:=by rw[tW];omega
 have Bb:0≤p'*(jr-1)+7∧p'*(jr-1)≤105:=by
  have h1:p'=0∨p'=1∨p'=2∨p'=3∨p'=4∨p'=5∨p'=6∨p'=7:=by omega
  rcases h1 with rfl | rfl | rfl | rfl | rfl | rfl | rfl | rfl <;> omega
 have Cb:IntKind.i64.wrap (p'*(jr-1))=p'*(jr-1):=(by rw[tW];omega);generalize Wa:p'*(jr-1)=nn at C1 Bb Cb;have Db:=Hd (Wa);clear Wa;go_enter func121,ntmps121;have Ta:H9 (Below w.heap.size w (w.alloc (.cells rG.toArray 209))):=(tv _ _).alloc (tr _) _;have Ua:=cz w rG 209;have Oa:H9 (ae (w.alloc (.cells rG.toArray 209)) b (br jid e1 e2 e3 e4 e5 e6 e7 e8 e9 e10 e11 e12 t1 t2 jr jg ta tn tc)):=hl.alloc _;have Eb:=Hd (hl.2.2);clear hl;(go_wp2_with fail);generalize(w.alloc (.cells rG.toArray 209))=wa at *;apply dU
 case f=>
  intro key;refine cw wa none (by kernel_rfl) fun hHeld=>?_;generalize wa.drew=Fb at *;refine tk 0 (.pointer (some ⟨b,0,none⟩)) ?_ ?_
  ·intro wq Aa;go_simp
  refine tk 1 (.pointer (some ⟨b,0,none⟩)) ?_ ?_
  ·intro wq Aa;go_simp
  refine tk 2 (.pointer (some ⟨b,1,none⟩)) ?_ ?_
  ·intro wq Aa;go_simp
  refine wpAnyH_take (i:=3) (v:=.agg ((cu e1 e2 e3 e4 e5 e6 e7 e8 e9 e10 e11 e12):List Value).toArray) rfl (by kernel_rfl) (by kernel_rfl) (by kernel_rfl) (fun _ _ _ h=>h) (tQ (by kernel_rfl) 31 (.tmp 10) rfl b 1 rfl ((cu e1 e2 e3 e4 e5 e6 e7 e8 e9 e10 e11 e12):List Value) _ (fun W hW=>ae.mid (Oa.o.grown hW (by simp)) 1 12) underlying31 rfl (by kernel_rfl)) (by assumption) ?_;refine tk 4 (.pointer (some ⟨b,0,none⟩)) ?_ ?_
  ·intro wq Aa;go_simp
  refine tk 5 (.pointer (some ⟨b,0,none⟩)) ?_ ?_
  ·intro wq Aa;go_simp
  refine tk 6 (.pointer (some ⟨b,13,none⟩)) ?_ ?_
  ·intro wq Aa;go_simp
  refine tk 7 (.agg #[it t1,it t2]) ?_ ?_
  ·intro wq Aa;have c0:=(Oa.o.grown Aa (by simp)).c 13;have c1:=(Oa.o.grown Aa (by simp)).c 14;go_simp
  refine tk 8 (it p') ?_ ?_
  ·intro wq Aa;go_simp
  refine tk 9 (.pointer (some ⟨b,0,none⟩)) ?_ ?_
  ·intro wq Aa;go_simp
  refine tk 10 (.pointer (some ⟨b,0,none⟩)) ?_ ?_
  ·intro wq Aa;go_simp
  refine tk 11 (.pointer (some ⟨b,15,none⟩)) ?_ ?_
  ·intro wq Aa;go_simp
  refine tk 12 (it jr) ?_ ?_
  ·intro wq Aa;have c0:=(Oa.o.grown Aa (by simp)).c 15;go_simp
  refine tk 13 (it (jr-1)) ?_ ?_
  ·intro wq Aa;go_simp
  refine tk 14 (it nn) ?_ ?_
  ·intro wq Aa;go_simp;rw[Db.o];go_simp
  refine tY (rs:=[15,19]) (by kernel_rfl) (by simp) ?_;apply tD
  case ho=>exact rfl
  case h=>
   intro Kk hK;go_simp;refine(C1 Fb).mono ?_;rintro e Qa ⟨rfl,hb⟩;go_simp;have Ha:wa.grownBy Qa none:=ap hHeld hb;refine hK.out _ _ Ha (fun hzz=>?_);clear hzz hK Kk hb;refine tk 16 (.tuple #[.agg #[it y1,it y2],.bool ok]) ?_ ?_
   ·intro wq Aa;go_simp
   refine tk 17 (.agg #[it y1,it y2]) ?_ ?_
   ·intro wq Aa;go_simp
   refine tY (rs:=[18,19]) (by kernel_rfl) (by simp) ?_;apply tD
   case ho=>exact rfl
   case h=>
    intro Kk hK;go_simp;refine hK.out _ _ Ha (fun hzz=>?_);clear hzz hK Kk;refine tY (rs:=[19]) (by kernel_rfl) (by simp) ?_;apply tD
    case ho=>exact rfl
    case h=>
     intro Kk hK;with_reducible refine gH ?qg 33 ?qo #[it 0,it 0] ?qs ?qk
     case qg | qo=>exact rfl
     case qs=>kernel_rfl
     case qk=>
      intro sb Ba Fa Na Pa hb;have Ga:wa.grownBy Ba none:=ap Ha hb;have Ia:wa.heap.size≤sb:=tB Ha.size Na;refine hK.out _ _ Ga (fun hzz=>?_);clear hzz hK Kk hb Na Pa;refine tY (rs:=[20]) (by kernel_rfl) (by simp) ?_;apply tD
      case ho=>exact rfl
      case h=>
       intro Kk hK;rw[if_pos (by kernel_rfl)];with_reducible refine wp_store_mid 33 (.tmp 5) (.tmp 24) ?_ sb 0 ([it y1,it y2]:List Value).toArray ?_ ?_ ?_ (by kernel_rfl) (by kernel_rfl) ?_
       ·exact rfl
       ·kernel_rfl
       ·kernel_rfl
       ·exact Fa.there 0 2 (by simp)
       have Ea:=dv Ba sb 0 [it y1,it y2];have Ca:wa.grownBy (Ba.setCells sb 0 [it y1,it y2]) none:=bZ Ga Ea Ia;have Ja:ae (Ba.setCells sb 0 [it y1,it y2]) sb [it y1,it y2]:=Fa.setCells [it y1,it y2] 0 (by simp);refine hK.out _ _ Ca (fun hzz=>?_);clear hzz hK Kk Ea;generalize(Ba.setCells sb 0 [it y1,it y2])=Da at *;refine tk 21 (.bool ok) ?_ ?_
       ·intro wq Aa;go_simp
       refine bt ?_;go_simp;have Ka:wa.grownBy Da none:=Ca;have La:ae Da sb [it y1,it y2]:=Ja;clear hHeld Ha Ga Fa Ca Ja;revert Ka La;generalize Da=wz;revert Ia;revert wz sb;exact key.out
      case hs=>exact tM
    case hs=>exact tM
   case hs=>
    apply tD
    case ho=>exact rfl
    case h=>
     intro Kk hK;with_reducible refine gH ?qg 33 ?qo #[it 0,it 0] ?qs ?qk
     case qg | qo=>exact rfl
     case qs=>kernel_rfl
     case qk=>
      intro sb Ba Fa Na Pa hb;have Ga:wa.grownBy Ba none:=ap Ha hb;have Ia:wa.heap.size≤sb:=tB Ha.size Na;refine hK.out _ _ Ga (fun hzz=>?_);clear hzz hK Kk hb Na Pa;refine tY (rs:=[18,20]) (by kernel_rfl) (by simp) ?_;apply tD
      case ho=>exact rfl
      case h=>
       intro Kk hK;go_simp;refine hK.out _ _ Ga (fun hzz=>?_);clear hzz hK Kk;refine tY (rs:=[20]) (by kernel_rfl) (by simp) ?_;apply tD
       case ho=>exact rfl
       case h=>
        intro Kk hK;rw[if_pos (by kernel_rfl)];with_reducible refine wp_store_mid 33 (.tmp 5) (.tmp 24) ?_ sb 0 ([it y1,it y2]:List Value).toArray ?_ ?_ ?_ (by kernel_rfl) (by kernel_rfl) ?_
        ·exact rfl
        ·kernel_rfl
        ·kernel_rfl
        ·exact Fa.there 0 2 (by simp)
        have Ea:=dv Ba sb 0 [it y1,it y2];have Ca:wa.grownBy (Ba.setCells sb 0 [it y1,it y2]) none:=bZ Ga Ea Ia;have Ja:ae (Ba.setCells sb 0 [it y1,it y2]) sb [it y1,it y2]:=Fa.setCells [it y1,it y2] 0 (by simp);refine hK.out _ _ Ca (fun hzz=>?_);clear hzz hK Kk Ea;generalize(Ba.setCells sb 0 [it y1,it y2])=Da at *;refine tk 21 (.bool ok) ?_ ?_
        ·intro wq Aa;go_simp
        refine bt ?_;go_simp;have Ka:wa.grownBy Da none:=Ca;have La:ae Da sb [it y1,it y2]:=Ja;clear hHeld Ha Ga Fa Ca Ja;revert Ka La;generalize Da=wz;revert Ia;revert wz sb;exact key.out
       case hs=>exact tM
      case hs=>
       apply tD
       case ho=>exact rfl
       case h=>
        intro Kk hK;rw[if_pos (by kernel_rfl)];with_reducible refine wp_store_mid 33 (.tmp 5) (.tmp 24) ?_ sb 0 ([it y1,it y2]:List Value).toArray ?_ ?_ ?_ (by kernel_rfl) (by kernel_rfl) ?_
        ·exact rfl
        ·kernel_rfl
        ·kernel_rfl
        ·exact Fa.there 0 2 (by simp)
        have Ea:=dv Ba sb 0 [it y1,it y2];have Ca:wa.grownBy (Ba.setCells sb 0 [it y1,it y2]) none:=bZ Ga Ea Ia;have Ja:ae (Ba.setCells sb 0 [it y1,it y2]) sb [it y1,it y2]:=Fa.setCells [it y1,it y2] 0 (by simp);refine hK.out _ _ Ca (fun hzz=>?_);clear hzz hK Kk Ea;generalize(Ba.setCells sb 0 [it y1,it y2])=Da at *;refine tY (rs:=[18]) (by kernel_rfl) (by simp) ?_;apply tD
        case ho=>exact rfl
        case h=>
         intro Kk hK;go_simp;refine hK.out _ _ Ca (fun hzz=>?_);clear hzz hK Kk;refine tk 21 (.bool ok) ?_ ?_
         ·intro wq Aa;go_simp
         refine bt ?_;go_simp;have Ka:wa.grownBy Da none:=Ca;have La:ae Da sb [it y1,it y2]:=Ja;clear hHeld Ha Ga Fa Ca Ja;revert Ka La;generalize Da=wz;revert Ia;revert wz sb;exact key.out
        case hs=>exact tM
       case hs=>exact tM
    case hs=>exact tM
  case hs=>
   apply tD
   case ho=>exact rfl
   case h=>
    intro Kk hK;with_reducible refine gH ?qg 33 ?qo #[it 0,it 0] ?qs ?qk
    case qg | qo=>exact rfl
    case qs=>kernel_rfl
    case qk=>
     intro sb Qa Va Na Pa hb;have Ha:wa.grownBy Qa none:=ap hHeld hb;have Ia:wa.heap.size≤sb:=tB hHeld.size Na;refine hK.out _ _ Ha (fun hzz=>?_);clear hzz hK Kk hb Na Pa;refine tY (rs:=[15]) (by kernel_rfl) (by simp) ?_;apply tD
     case ho=>exact rfl
     case h=>
      intro Kk hK;go_simp;refine(C1 Qa).mono ?_;rintro e Ba ⟨rfl,hb⟩;go_simp;have Ga:wa.grownBy Ba none:=ap Ha hb;have Fa:ae Ba sb [it 0,it 0]:=Va.belowS hb;refine hK.out _ _ Ga (fun hzz=>?_);clear hzz hK Kk hb;refine tk 16 (.tuple #[.agg #[it y1,it y2],.bool ok]) ?_ ?_
      ·intro wq Aa;go_simp
      refine tk 17 (.agg #[it y1,it y2]) ?_ ?_
      ·intro wq Aa;go_simp
      refine tY (rs:=[18,20]) (by kernel_rfl) (by simp) ?_;apply tD
      case ho=>exact rfl
      case h=>
       intro Kk hK;go_simp;refine hK.out _ _ Ga (fun hzz=>?_);clear hzz hK Kk;refine tY (rs:=[20]) (by kernel_rfl) (by simp) ?_;apply tD
       case ho=>exact rfl
       case h=>
        intro Kk hK;rw[if_pos (by kernel_rfl)];with_reducible refine wp_store_mid 33 (.tmp 5) (.tmp 24) ?_ sb 0 ([it y1,it y2]:List Value).toArray ?_ ?_ ?_ (by kernel_rfl) (by kernel_rfl) ?_
        ·exact rfl
        ·kernel_rfl
        ·kernel_rfl
        ·exact Fa.there 0 2 (by simp)
        have Ea:=dv Ba sb 0 [it y1,it y2];have Ca:wa.grownBy (Ba.setCells sb 0 [it y1,it y2]) none:=bZ Ga Ea Ia;have Ja:ae (Ba.setCells sb 0 [it y1,it y2]) sb [it y1,it y2]:=Fa.setCells [it y1,it y2] 0 (by simp);refine hK.out _ _ Ca (fun hzz=>?_);clear hzz hK Kk Ea;generalize(Ba.setCells sb 0 [it y1,it y2])=Da at *;refine tk 21 (.bool ok) ?_ ?_
        ·intro wq Aa;go_simp
        refine bt ?_;go_simp;have Ka:wa.grownBy Da none:=Ca;have La:ae Da sb [it y1,it y2]:=Ja;clear hHeld Ha Va Ga Fa Ca Ja;revert Ka La;generalize Da=wz;revert Ia;revert wz sb;exact key.out
       case hs=>exact tM
      case hs=>
       apply tD
       case ho=>exact rfl
       case h=>
        intro Kk hK;rw[if_pos (by kernel_rfl)];with_reducible refine wp_store_mid 33 (.tmp 5) (.tmp 24) ?_ sb 0 ([it y1,it y2]:List Value).toArray ?_ ?_ ?_ (by kernel_rfl) (by kernel_rfl) ?_
        ·exact rfl
        ·kernel_rfl
        ·kernel_rfl
        ·exact Fa.there 0 2 (by simp)
        have Ea:=dv Ba sb 0 [it y1,it y2];have Ca:wa.grownBy (Ba.setCells sb 0 [it y1,it y2]) none:=bZ Ga Ea Ia;have Ja:ae (Ba.setCells sb 0 [it y1,it y2]) sb [it y1,it y2]:=Fa.setCells [it y1,it y2] 0 (by simp);refine hK.out _ _ Ca (fun hzz=>?_);clear hzz hK Kk Ea;generalize(Ba.setCells sb 0 [it y1,it y2])=Da at *;refine tY (rs:=[18]) (by kernel_rfl) (by simp) ?_;apply tD
        case ho=>exact rfl
        case h=>
         intro Kk hK;go_simp;refine hK.out _ _ Ca (fun hzz=>?_);clear hzz hK Kk;refine tk 21 (.bool ok) ?_ ?_
         ·intro wq Aa;go_simp
         refine bt ?_;go_simp;have Ka:wa.grownBy Da none:=Ca;have La:ae Da sb [it y1,it y2]:=Ja;clear hHeld Ha Va Ga Fa Ca Ja;revert Ka La;generalize Da=wz;revert Ia;revert wz sb;exact key.out
        case hs=>exact tM
       case hs=>exact tM
     case hs=>exact tM
   case hs=>exact tM
 case h=>
  intro sb wz Ia Xa Ra;have LJ:=Hd (Ra);have Sa:Below wa.heap.size wa wz:=ac Xa (tr _) (fun z e=>by simp at e);have Ya:=Hd (Oa.o.belowS Sa);have Gb:=Hd (Ua.o.belowS Sa);have Za:=Hd (Ta.o.trans (Sa.mono Ta.o.size));have Jb:w.heap.size<sb:=tP Ua.o.2.2 Ia;have Kb:b<w.heap.size:=Eb.o;clear Xa Ra Sa Ta Ua Oa C1;(go_wp2_with fail);refine cw wz (some w.heap.size) (by kernel_rfl) fun hHeld=>?_;have Ab:H9 (ae wz.drew w.heap.size rG):=Gb.o.belowS (tv _ _).drew;generalize wz.drew=wy at *;refine tk 0 (.pointer (some ⟨b,0,none⟩)) ?_ ?_
  ·intro wq Aa;go_simp
  refine tk 1 (.pointer (some ⟨b,0,none⟩)) ?_ ?_
  ·intro wq Aa;go_simp
  refine tk 2 (.pointer (some ⟨b,1,none⟩)) ?_ ?_
  ·intro wq Aa;go_simp
  refine wpAnyH_take (i:=3) (v:=.agg ((cu e1 e2 e3 e4 e5 e6 e7 e8 e9 e10 e11 e12):List Value).toArray) rfl (by kernel_rfl) (by kernel_rfl) (by kernel_rfl) (fun _ _ _ h=>h) (tQ (by kernel_rfl) 31 (.tmp 28) rfl b 1 rfl ((cu e1 e2 e3 e4 e5 e6 e7 e8 e9 e10 e11 e12):List Value) _ (fun W hW=>ae.mid (Ya.o.grown hW (fun e=>by have:=tm e;omega)) 1 12) underlying31 rfl (by kernel_rfl)) (by assumption) ?_;refine tk 4 (.agg #[it y1,it y2]) ?_ ?_
  ·intro wq Aa;have c0:=(LJ.o.grown Aa (fun e=>by have:=tm e;omega)).c 0;have c1:=(LJ.o.grown Aa (fun e=>by have:=tm e;omega)).c 1;go_simp
  refine tk 5 (.pointer (some ⟨b,0,none⟩)) ?_ ?_
  ·intro wq Aa;go_simp
  refine tk 6 (.pointer (some ⟨b,0,none⟩)) ?_ ?_
  ·intro wq Aa;go_simp
  refine tk 7 (.pointer (some ⟨b,15,none⟩)) ?_ ?_
  ·intro wq Aa;go_simp
  refine tk 8 (it jr) ?_ ?_
  ·intro wq Aa;have c0:=(Ya.o.grown Aa (fun e=>by have:=tm e;omega)).c 15;go_simp
  refine tk 9 (.agg ((eS e1 e2 e3 e4 e5 e6 e7 e8 e9 e10 e11 e12 y1 y2 jr):List Value).toArray) ?_ ?_
  ·intro wq Aa;go_simp
  refine ba 10 fun Kk hK=>?_;rw[if_pos (by kernel_rfl)];with_reducible refine wp_store_mid 209 (.tmp 4) (.tmp 35) ?_ w.heap.size 0 ((eS e1 e2 e3 e4 e5 e6 e7 e8 e9 e10 e11 e12 y1 y2 jr):List Value).toArray ?_ ?_ ?_ (by kernel_rfl) (by kernel_rfl) ?_
  ·exact rfl
  ·kernel_rfl
  ·kernel_rfl
  ·exact Ab.o.there 0 15 (by simp)
  have Ea:wz.grownBy (wy.setCells w.heap.size 0 (eS e1 e2 e3 e4 e5 e6 e7 e8 e9 e10 e11 e12 y1 y2 jr)) (some w.heap.size):=hHeld.trans (bY (World.grownBy.refl _ _) 0 _);have Ra:ae (wy.setCells w.heap.size 0 (eS e1 e2 e3 e4 e5 e6 e7 e8 e9 e10 e11 e12 y1 y2 jr)) w.heap.size (eS e1 e2 e3 e4 e5 e6 e7 e8 e9 e10 e11 e12 y1 y2 jr):=Ab.o.setCells (eS e1 e2 e3 e4 e5 e6 e7 e8 e9 e10 e11 e12 y1 y2 jr) 0 (by simp);refine hK.out _ _ Ea (fun hzz=>?_);clear hzz hK Kk;refine bt ?_;go_simp;have Hb:Below w.heap.size w (wy.setCells w.heap.size 0 (eS e1 e2 e3 e4 e5 e6 e7 e8 e9 e10 e11 e12 y1 y2 jr)):=Za.o.trans (ac Ea Za.o.size (fun z e=>by have:=tm e;omega));generalize(wy.setCells w.heap.size 0 (eS e1 e2 e3 e4 e5 e6 e7 e8 e9 e10 e11 e12 y1 y2 jr))=wf at *;clear Ea hHeld;go_wp2;exact tx (bX rfl rfl (tS wf w.heap.size 0 209 _ _ Ra.row underlying209 rfl (by kernel_rfl))) rfl ⟨rfl,Hb⟩
set_option maxRecDepth 100000 in
theorem lJ:sc.p∧sc.q:=by
 refine⟨?tax,?tbx⟩
 case' tax=>
  intro ab cb nj cj bs js Fa Va w Vd Wd Xd HI R Yd w1 Qa C1 C2 Fd Gd Zd Ae h6 Be Ce SJ De Ee Fe Ge He Ie Je Ke Le Ne Oe Pe Qe Re Se Te Ue Ve We Xe Ye Ze Af Bf Cf Df Ef Ff Gf Hf If Jf Kf Lf q l Nf Of Pf h9 Qf Rf hq Sf Tf Uf Vf we eb wr u2 u6 u7 u8 u9 Wf Xf Yf Zf Ag Bg Cg Dg Eg Fg Gg Hg Ig Jg Kg Lg Ng Og Pg Qg Rg Sg Tg Ug Vg Wg Xg Yg Zg Ah Bh Ch Dh Eh Fh Gh Hh Ih Jh Kh Lh Nh Oh Ph Qh Rh Sh Th Uh Vh Wh Xh Yh Zh Ai Bi Ci Di Ei Fi Gi Hi Ii Ji Ki Li Ni Oi Pi Qi Ri Si Ti Ui Vi Wi Xi Yi Zi Aj Bj Cj Dj Ej Fj Gj Hj Ij Jj Kj Lj Nj Oj Pj Qj Rj Sj Tj Uj Vj Wj Xj Yj Zj Ak Bk Ck Dk Ek Fk Gk Hk Ik Jk Kk Lk Nk Ok Pk Qk Rk Sk Tk j ws hj Uk al ml cl Vk b1 o1 Id Jd Wk Xk ta tc Yk Da jr jg tl a b c' d f k a' b' Wa d' f' k' s1 s2 tn HT Ib Lc Zk Al Vl Wl Xl w2 jb Nc Yl Zl Am Bm Cm Dm Xa Ba La Em C3 Oc Bl Cl Dl El Ya Fm CM Fl Gl Hl Gm CS Il CR HG Jl Kl Ll Nl Ga Kd Na Oa
 case' tbx=>
  intro ab cb nj cj bs js Fa Va w Vd Wd Xd HI R Yd w1 Qa C1 C2 Fd Gd Zd Ae h6 Be Ce SJ De Ee Fe Ge He Ie Je Ke Le Ne Oe Pe Qe Re Se Te Ue Ve We Xe Ye Ze Af Bf Cf Df Ef Ff Gf Hf If Jf Kf Lf q l Nf Of Pf h9 Qf Rf hq Sf Tf Uf Vf we eb wr u2 u6 u7 u8 u9 Wf Xf Yf Zf Ag Bg Cg Dg Eg Fg Gg Hg Ig Jg Kg Lg Ng Og Pg Qg Rg Sg Tg Ug Vg Wg Xg Yg Zg Ah Bh Ch Dh Eh Fh Gh Hh Ih Jh Kh Lh Nh Oh Ph Qh Rh Sh Th Uh Vh Wh Xh Yh Zh Ai Bi Ci Di Ei Fi Gi Hi Ii Ji Ki Li Ni Oi Pi Qi Ri Si Ti Ui Vi Wi Xi Yi Zi Aj Bj Cj Dj Ej Fj Gj Hj Ij Jj Kj Lj Nj Oj Pj Qj Rj Sj Tj Uj Vj Wj Xj Yj Zj Ak Bk Ck Dk Ek Fk Gk Hk Ik Jk Kk Lk Nk Ok Pk Qk Rk Sk Tk j Ol ws hj Uk al ml cl Vk b1 o1 Id Jd Wk Xk ta tc Yk Da jr jg tl a b c' d f k a' b' Wa d' f' k' s1 s2 tn HT Ib Lc Zk Al Hm Im Jm w2 jb Nc Km Lm Nm Om p c0 Pm Qm Rm Sm Tm Um Xa Ba La Vm C3 Oc Bl Cl Pc Wm Dl El Ya Xm CM Fl Gl Hl Ym CS Il CR HG Jl Kl Ll Nl Ga Kd Na Oa
 all_goals
  have Zm:=Oc.o rfl;have Qc:H9 (((M.spT Fa bs jg ws tl&&!(jg&&tl.all (·.done)))&&M.spJ Fa Va bs Da (ws++tl.map (·.l')) (js.drop (j+1)))=R):=by first | (show _=_;have:=HG.o;rw[show decide (Da<Va)=true by simp;omega,show decide ((0:Int)<Da)=true by simp;omega,show decide (1≤tn)=true by simp;omega,show decide (tn≤8)=true by simp;omega]at this;simpa using this) | (show _=_;have:=HG.o;rw[show decide (Da<Va)=true by simp;omega,show decide (Ol<Da)=true by simp;omega,show decide (1≤tn)=true by simp;omega,show decide (tn≤8)=true by simp;omega]at this;simpa using this)
  clear HG Oc C3 CM CS CR;generalize Ld:M.spJ Fa Va bs Da (ws++tl.map (·.l')) (js.drop (j+1))=SN at Qc;have Rc:=Hd (Ld);generalize Nd:ws++tl.map (·.l')=WF at Rc;have Od:=Hd (Nd);clear Ld Nd;have Pd:WF.length≤8*(j+1):=(by rw[←Od.o,t7,List.length_map,Ib.o];omega);clear Kd;go_wp2
  go_loopw [4,7] (fun l i wr=>∃(p:Nat) (us:List Int),p≤tn∧i=it p∧s9 Fa bs jg tl R SN WF w1 jb (br Da a b c' d f k a' b' Wa d' f' k' s1 s2 jr jg ta tn tc) p us l wr) (fun _ i _=>tn-(intOf i).toNat)
  case atStart=>exact⟨0,ws,by omega,rfl,Qc.o,Od.o,Oa.o,Nc,_,_,_,rfl,Na.o,Ga.o⟩
  case round=>
   obtain⟨p,us,hp,rfl,Jb,Sc,Qd,Rd,ai,mi,ci,rfl,Tc,Ec⟩:=hrel;clear Qc Nc Ga Na Oa;have Uc:=Hd (Sc);have An:us.length≤64:=(by have:=congrArg List.length Sc;rw[t7]at this;omega);have Bn:=Tc.count;have Fc:=Hd (Rd);clear Sc Rd;have Za:=Hd (Ec);have Vc:=Hd (Id.o.belowS Ec);have Ra:=Hd (Qd);have Kb:=Hd (Tc);have Wc:=HT.o.below Ec;clear Ec Qd Tc;by_cases Xc:p<tn
   case pos=>
    obtain⟨b2,o2,rfl,Pc⟩:=Wc.at (by omega);have hA:=Pc p Xc;have Cn:(p:Int)<(tn:Int):=(by omega);have Sa:=Jb;rw[aQ M.t0 Ib.o Xc]at Sa;have Gb:=Uc.o;rw[aQ M.t0 Ib.o Xc]at Gb;unfold M.spT at Sa;have C4:∀W,ah W ab q cb bs→Rt 101 #[.agg (au Fa Va ab q cb (some ⟨b1,o1,none⟩) nj cj).toArray,ia (tl.getD p M.t0)] W (.bool (M.spK Fa bs (tl.getD p M.t0))):=fun W h=>o8 Fa Va _ Fd Gd W h;generalize tl.getD p M.t0=x at hA Sa Gb C4;obtain⟨td,x,y⟩:=x;dsimp only[ia]at C4;rw[List.map_cons]at Gb;dsimp only at Gb Sa;generalize M.spK Fa bs ⟨td,x,y⟩=o4 at C4 Sa;generalize Sd:(M.leased ⟨td,x,y⟩&&us.contains x)=oc at Sa;have Lb:=Hd (Sd);have Ab:H9 (M.leased ⟨td,x,y⟩=(x != 0)):=(by show _=_;unfold M.leased;by_cases e:x=0 <;> simp[e]);generalize M.leased ⟨td,x,y⟩=ol at Sa Lb Ab;have Pa:H9 (_=R):=Sa;have Td:=Hd (Gb);clear Jb Sa Sd Gb Pc Wc;have Gc:=Ra.o.c 17;have a0:wr.cell? ⟨b2,o2+p*3,none⟩=some (.bool td):=hA 0 (by omega);have a1:wr.cell? ⟨b2,o2+p*3+1,none⟩=some (it x):=hA 1 (by omega);have a2:wr.cell? ⟨b2,o2+p*3+2,none⟩=some (it y):=hA 2 (by omega);clear hA;have Nb:=il wr (.cells (dq td x y).toArray 47);have Bb:=Hd (Za.o.trans (Nb.mono Za.o.size));have Ob:=Hd (Vc.o.belowS Nb);have Ud:=Hd (Ra.o.belowS Nb);have Hc:=Hd (Kb.o.below Nb);clear Za Vc Ra Kb;clear Nb;have Yc:=cz wr (dq td x y) 47;have m0:(wr.alloc (.cells (dq td x y).toArray 47)).cell? ⟨w.heap.size,0,none⟩=some (it Fa):=Ob.o.at 0;have m1:(wr.alloc (.cells (dq td x y).toArray 47)).cell? ⟨w.heap.size,1,none⟩=some (it Va):=Ob.o.at 1;have m2:(wr.alloc (.cells (dq td x y).toArray 47)).cell? ⟨w.heap.size,2,none⟩=some (.slice ab q cb):=Ob.o.at 2;have m3:(wr.alloc (.cells (dq td x y).toArray 47)).cell? ⟨w.heap.size,3,none⟩=some (.slice (some ⟨b1,o1,none⟩) nj cj):=Ob.o.at 3;(go_wp2_with fail);clear Gc a0 a1 a2 m0 m1 m2 m3;generalize(wr.alloc (.cells (dq td x y).toArray 47))=w5 at *;generalize wr.heap.size=tb at Yc ⊢;refine(C4 _ (Jd.o.b.below Bb.o)).mono ?_;rintro e w6 ⟨rfl,hb⟩;have Ga:=Hd (Bb.o.trans (hb.mono Bb.o.size));have Oa:=Hd (Ud.o.belowS hb);have Na:=Hd (Hc.o.below hb);have Pb:=Hd (Yc.o.belowS hb);clear Bb Ob Ud Hc Yc;clear hb;clear C4
    cases o4 with
    | false=>
     have HF:H9 (false=R):=(by show _=_;have:=Pa.o;simpa using this);clear Pa;go_wp2;go_ret;exact⟨ag HF.o,(Qa.o.trans (Ga.o.mono Qa.o.size))⟩
    | true=>
     cases jg with
     | false=>
      have Hb:=Oa.o.c 16;go_wp2;clear Hb;have Cb:=Na.o.sees;have Pl:(mi:Int)≤9223372036854775807:=(by omega);have Ql:(mi:Int)≤ci:=(by have:=Cb.le;omega);have Qb:=Cb.len;clear Cb
      go_loopw [9] (fun i wr=>∃n:Nat,n≤mi∧i=it n∧((x != 0)&&(us.drop n).contains x)=oc∧Below w6.heap.size w6 wr) (fun i _=>mi-(intOf i).toNat)
      case atStart=>exact⟨0,by omega,rfl,by rw[←Ab.o];exact Lb.o,tv _ _⟩
      case round=>
       obtain⟨n,hn,rfl,Aa,Ea⟩:=hrel;have Ha:=Hd (Ga.o.trans (Ea.mono Ga.o.size));have Ta:=Hd (Oa.o.belowS Ea);have Ia:=Hd (Na.o.below Ea);have Ja:=Hd (Pb.o.belowS Ea);clear Ga Oa Na Pb;have Db:=Hd (Ea);clear Ea;have Eb:=Ia.o.sees;by_cases Rb:n<mi
       case pos=>
        obtain⟨b3,o3,rfl,Sb⟩:=Eb.at (by omega);have c3:=Sb n Rb;have Rl:(n:Int)<(mi:Int):=(by omega);rw[aQ 0 Qb Rb,List.contains_cons]at Aa;generalize us.getD n 0=z at c3 Aa;clear Sb Eb;(go_wp2_with fail);by_cases Ka:x=0
        ·
         have Tb:(x != 0)=false:=(by simp[Ka]);have Ub:H9 (((x != 0)&&(us.drop (n+1)).contains x)=oc):=(by show _=_;rw[Tb]at Aa ⊢;exact Aa);have Ya:H9 (x=0):=Ka;clear Aa Ka;refine cw wr none (by kernel_rfl) fun Ba=>?_;generalize wr.drew=Xa at *;have La:H9 (Below wr.heap.size wr Xa):=⟨Ba.os,Ba.tape,Ba.output,Ba.size,fun k hk=>Ba.block k hk (by simp)⟩;refine tk 0 (.pointer (some ⟨tb,1,none⟩)) ?_ ?_
         ·intro wq Ca;go_simp
         refine tk 1 (it x) ?_ ?_
         ·intro wp Ua;have c0:=(Ja.o.grown Ua (by simp)).c 1;go_simp
         refine tk 2 (.bool false) ?_ ?_
         ·intro wq Ca;go_simp;first | done | exact Ya.o
         refine tk 3 (.bool false) ?_ ?_
         ·intro wq Ca;go_simp
         refine sk 4 ?_;refine sk 5 ?_;refine sk 6 ?_;refine sk 7 ?_;refine sk 8 ?_;refine sk 9 ?_;refine sk 10 ?_;refine tk 11 (.bool false) ?_ ?_
         ·intro wq Ca;go_simp
         refine bt ?_;go_simp;clear Ha Ta Ia Ja;have Vb:=Hd (Db.o.trans (La.o.mono Db.o.size));go_wp2;go_roundw
         case rel=>exact⟨n+1,by omega,by go_num,Ub.o,Vb.o⟩
         case measure=>simp[intOf];omega
        have Tb:(x != 0)=true:=(by simp[Ka]);have Ya:H9 (¬ x=0):=Ka;clear Ka;refine cw wr none (by kernel_rfl) fun Ba=>?_;generalize wr.drew=Xa at *;have La:H9 (Below wr.heap.size wr Xa):=⟨Ba.os,Ba.tape,Ba.output,Ba.size,fun k hk=>Ba.block k hk (by simp)⟩;refine tk 0 (.pointer (some ⟨tb,1,none⟩)) ?_ ?_
        ·intro wq Ca;go_simp
        refine tk 1 (it x) ?_ ?_
        ·intro wp Ua;have c0:=(Ja.o.grown Ua (by simp)).c 1;go_simp
        refine tk 2 (.bool true) ?_ ?_
        ·intro wq Ca;go_simp;first | done | exact Ya.o
        refine tk 3 (.bool true) ?_ ?_
        ·intro wq Ca;go_simp
        refine tk 4 (.slice (some ⟨b3,o3,none⟩) mi ci) ?_ ?_
        ·intro wq Ca;go_simp
        refine tk 5 (it (n:Nat)) ?_ ?_
        ·intro wq Ca;go_simp
        refine tk 6 (.pointer (some ⟨b3,o3+n,none⟩)) ?_ ?_
        ·intro wq Ca;go_simp
        refine tk 7 (it z) ?_ ?_
        ·intro wp Ua;have c0:wp.cell? ⟨b3,o3+n,none⟩=some (it z):=Ua.cell c3 (by simp);go_simp
        refine tk 8 (.pointer (some ⟨tb,1,none⟩)) ?_ ?_
        ·intro wq Ca;go_simp
        refine tk 9 (it x) ?_ ?_
        ·intro wp Ua;have c0:=(Ja.o.grown Ua (by simp)).c 1;go_simp
        by_cases hz:z=x
        ·
         have gz:(z==x)=true:=(by simp[hz]);have Zc:(x==z)=true:=(by simp[hz]);have HF:H9 (false=R):=(by show _=_;have h1:=Pa.o;rw[Tb,Zc]at Aa;rw[←Aa]at h1;simpa using h1);have HZ:H9 (z=x):=hz;clear Pa Aa hz;refine tk 10 (.bool true) ?_ ?_
         ·intro wq Ca;go_simp;first | done | exact HZ.o
         refine tk 11 (.bool true) ?_ ?_
         ·intro wq Ca;go_simp
         refine bt ?_;go_simp;have Sl:=Hd (Ha.o.trans (La.o.mono Ha.o.size));clear Ha Ta Ia Ja;go_wp2;go_ret;exact⟨ag HF.o,(Qa.o.trans (Sl.o.mono Qa.o.size))⟩
        ·
         have gz:(z==x)=false:=(by simp[hz]);have Zc:(x==z)=false:=(by simp;exact fun e=>hz e.symm);have Ub:H9 (((x != 0)&&(us.drop (n+1)).contains x)=oc):=(by show _=_;rw[Zc,Bool.false_or]at Aa;exact Aa);have HZ:H9 (¬ z=x):=hz;clear Aa hz;refine tk 10 (.bool false) ?_ ?_
         ·intro wq Ca;go_simp;first | done | exact HZ.o
         refine tk 11 (.bool false) ?_ ?_
         ·intro wq Ca;go_simp
         refine bt ?_;go_simp;clear Ha Ta Ia Ja;have Vb:=Hd (Db.o.trans (La.o.mono Db.o.size));go_wp2;go_roundw
         case rel=>exact⟨n+1,by omega,by go_num,Ub.o,Vb.o⟩
         case measure=>simp[intOf];omega
       rw[tC (by rw[Qb];omega)]at Aa;have Ad:oc=false:=(by rw[←Aa];simp);have Bd:H9 (((M.spT Fa bs false (us++[x]) (tl.drop (p+1))&&!(false&&tl.all (·.done)))&&SN)=R):=(by show _=_;have h1:=Pa.o;rw[Ad]at h1;simpa using h1);clear Pa Aa Lb Ab Eb;have Cd:H9 ((us++[x])++(tl.drop (p+1)).map (·.l')=WF):=(by show _=_;rw[List.append_assoc];exact Td.o);obtain⟨i0,hi,Wb,Xb,Yb⟩:=HI.o;have Zb:=Ha.o.size;have Dd:=Ta.o.2.2;have t1:=Ja.o.c 1;(go_wp2_with(at_builtin;refine wpList_append_own_at _ rfl _ _ 24 rfl w1.heap.size 2 i0 (it 0) 1 8 underlying24 hi Wb Xb Yb rfl (by decide) _ mi (us.map (Value.int .i64)) rfl (uc Ia.o _) ⟨wr.heap.size,0,none⟩ 1 1 [it x] rfl rfl (b7 wr x _) (cJ x) (by unfold maxLen;omega) (by omega) (by simp;omega) ?_));intro v' w7 Ac Fb _ Bc;have hown':w7.ownsRow w1.heap.size 2 1 v' (mi+1) ((us++[x]).map (Value.int .i64)):=(by rw[t8];exact Ac);have HN':H9 (v'.ownBlock≠some jb):=jN (w:=wr.alloc (.cells #[it x] 2)) (by simpa using Bc) (by simp;omega) Fc.o;obtain⟨a9,Cc,rfl,Dc⟩:=ar.form hown';have HO':H9 (ar 2 w7 w1.heap.size a9 (mi+1) Cc (us++[x])):=Dc;have HB':H9 (Below w1.heap.size w1 w7):=eC Ha.o ((tO wr _ _).trans Fb) Zb (fun z hz=>(tJ Ia.o z hz).1);have HJ':H9 (ae w7 jb (fI Da a b c' d f k a' b' Wa d' f' k' s1 s2 jr (some ⟨b2,o2,none⟩) tn tc)):=Ta.o.grown ((tO wr _ _).trans Fb) Fc.o;clear Ac hown' Fb Bc Dc hi Wb Xb Yb Zb Dd;go_wp2;go_roundw
       case rel=>exact⟨p+1,us++[x],by omega,by go_num,Bd.o,Cd.o,HJ'.o,HN'.o,a9,mi+1,Cc,rfl,HO'.o,HB'.o⟩
       case measure=>simp[intOf];omega
     | true=>
      have Hb:=Oa.o.c 16;have Tl:=Pb.o.c 1;by_cases Ic:x=0
      ·
       have gx:(x != 0)=false:=(by simp[Ic]);go_wp2;clear Hb Tl;have La:H9 (x=0):=Ic;clear Ic;have Cb:=Na.o.sees;have Pl:(mi:Int)≤9223372036854775807:=(by omega);have Ql:(mi:Int)≤ci:=(by have:=Cb.le;omega);have Qb:=Cb.len;clear Cb
       go_loopw [9] (fun i wr=>∃n:Nat,n≤mi∧i=it n∧((x != 0)&&(us.drop n).contains x)=oc∧Below w6.heap.size w6 wr) (fun i _=>mi-(intOf i).toNat)
       case atStart=>exact⟨0,by omega,rfl,by rw[←Ab.o];exact Lb.o,tv _ _⟩
       case round=>
        obtain⟨n,hn,rfl,Aa,Ea⟩:=hrel;have Ha:=Hd (Ga.o.trans (Ea.mono Ga.o.size));have Ta:=Hd (Oa.o.belowS Ea);have Ia:=Hd (Na.o.below Ea);have Ja:=Hd (Pb.o.belowS Ea);clear Ga Oa Na Pb;have Db:=Hd (Ea);clear Ea;have Eb:=Ia.o.sees;by_cases Rb:n<mi
        case pos=>
         obtain⟨b3,o3,rfl,Sb⟩:=Eb.at (by omega);have c3:=Sb n Rb;have Rl:(n:Int)<(mi:Int):=(by omega);rw[aQ 0 Qb Rb,List.contains_cons]at Aa;generalize us.getD n 0=z at c3 Aa;clear Sb Eb;(go_wp2_with fail);by_cases Ka:x=0
         ·
          have Tb:(x != 0)=false:=(by simp[Ka]);have Ub:H9 (((x != 0)&&(us.drop (n+1)).contains x)=oc):=(by show _=_;rw[Tb]at Aa ⊢;exact Aa);have Ya:H9 (x=0):=Ka;clear Aa Ka;refine cw wr none (by kernel_rfl) fun Ba=>?_;generalize wr.drew=Xa at *;have La:H9 (Below wr.heap.size wr Xa):=⟨Ba.os,Ba.tape,Ba.output,Ba.size,fun k hk=>Ba.block k hk (by simp)⟩;refine tk 0 (.pointer (some ⟨tb,1,none⟩)) ?_ ?_
          ·intro wq Ca;go_simp
          refine tk 1 (it x) ?_ ?_
          ·intro wp Ua;have c0:=(Ja.o.grown Ua (by simp)).c 1;go_simp
          refine tk 2 (.bool false) ?_ ?_
          ·intro wq Ca;go_simp;first | done | exact Ya.o
          refine tk 3 (.bool false) ?_ ?_
          ·intro wq Ca;go_simp
          refine sk 4 ?_;refine sk 5 ?_;refine sk 6 ?_;refine sk 7 ?_;refine sk 8 ?_;refine sk 9 ?_;refine sk 10 ?_;refine tk 11 (.bool false) ?_ ?_
          ·intro wq Ca;go_simp
          refine bt ?_;go_simp;clear Ha Ta Ia Ja;have Vb:=Hd (Db.o.trans (La.o.mono Db.o.size));go_wp2;go_roundw
          case rel=>exact⟨n+1,by omega,by go_num,Ub.o,Vb.o⟩
          case measure=>simp[intOf];omega
         exact absurd La.o Ka
        rw[tC (by rw[Qb];omega)]at Aa;have Ad:oc=false:=(by rw[←Aa];simp);have Bd:H9 (((M.spT Fa bs true (us++[x]) (tl.drop (p+1))&&!(true&&tl.all (·.done)))&&SN)=R):=(by show _=_;have h1:=Pa.o;rw[Ad,Ab.o,gx]at h1;simpa using h1);clear Pa Aa Lb Ab Eb;have Cd:H9 ((us++[x])++(tl.drop (p+1)).map (·.l')=WF):=(by show _=_;rw[List.append_assoc];exact Td.o);obtain⟨i0,hi,Wb,Xb,Yb⟩:=HI.o;have Zb:=Ha.o.size;have Dd:=Ta.o.2.2;have t1:=Ja.o.c 1;(go_wp2_with(at_builtin;refine wpList_append_own_at _ rfl _ _ 24 rfl w1.heap.size 2 i0 (it 0) 1 8 underlying24 hi Wb Xb Yb rfl (by decide) _ mi (us.map (Value.int .i64)) rfl (uc Ia.o _) ⟨wr.heap.size,0,none⟩ 1 1 [it x] rfl rfl (b7 wr x _) (cJ x) (by unfold maxLen;omega) (by omega) (by simp;omega) ?_));intro v' w7 Ac Fb _ Bc;have hown':w7.ownsRow w1.heap.size 2 1 v' (mi+1) ((us++[x]).map (Value.int .i64)):=(by rw[t8];exact Ac);have HN':H9 (v'.ownBlock≠some jb):=jN (w:=wr.alloc (.cells #[it x] 2)) (by simpa using Bc) (by simp;omega) Fc.o;obtain⟨a9,Cc,rfl,Dc⟩:=ar.form hown';have HO':H9 (ar 2 w7 w1.heap.size a9 (mi+1) Cc (us++[x])):=Dc;have HB':H9 (Below w1.heap.size w1 w7):=eC Ha.o ((tO wr _ _).trans Fb) Zb (fun z hz=>(tJ Ia.o z hz).1);have HJ':H9 (ae w7 jb [it Da,it a,it b,it c',it d,it f,it k,it a',it b',it Wa,it d',it f',it k',it s1,it s2,it jr,.bool true,.slice (some ⟨b2,o2,none⟩) tn tc]):=Ta.o.grown ((tO wr _ _).trans Fb) Fc.o;clear Ac hown' Fb Bc Dc hi Wb Xb Yb Zb Dd;go_wp2;go_roundw
        case rel=>exact⟨p+1,us++[x],by omega,by go_num,Bd.o,Cd.o,HJ'.o,HN'.o,a9,mi+1,Cc,rfl,HO'.o,HB'.o⟩
        case measure=>simp[intOf];omega
      ·
       have gx:(x != 0)=true:=(by simp[Ic]);have HF:H9 (false=R):=(by show _=_;have:=Pa.o;rw[Ab.o,gx]at this;simpa using this);clear Pa;go_wp2;go_ret;exact⟨ag HF.o,(Qa.o.trans (Ga.o.mono Qa.o.size))⟩
   have Ul:tn=p:=(by omega);subst Ul;have e0:tl.drop tn=[]:=tC (Nat.le_of_eq Ib.o);have Jc:H9 (us=WF):=(by show _=_;have:=Uc.o;rw[e0]at this;simpa using this);rw[e0]at Jb;have Kc:H9 ((!(jg&&tl.all (·.done))&&SN)=R):=(by show _=_;have:=Jb;unfold M.spT at this;simpa using this);clear Jb e0 Uc;have Dn:(j:Int)+1≤9223372036854775807:=by omega
   cases jg with
   | false=>
    have Hb:=Ra.o.c 16;have Gc:=Ra.o.c 17;have Ed:H9 (SN=R):=(by show _=_;have:=Kc.o;simpa using this);go_wp2;go_roundw
    case rel=>exact⟨j+1,Da,us,by omega,by go_num,(fun h=>by omega),Lc.o,by rw[Jc.o];exact Rc.o.trans Ed.o,by rw[Jc.o];exact Pd,ai,mi,ci,rfl,Kb.o,Za.o⟩
    case measure=>simp[intOf];omega
   | true=>
    have C7:∀W,aY W ta tn tc tl→Rt 45 #[.agg #[it Da,it a,it b,it c',it d,it f,it k,it a',it b',it Wa,it d',it f',it k',it s1,it s2,it jr,.bool true,.slice ta tn tc]] W (.bool (tl.all (·.done))):=fun W h=>iB Da a b c' d f k a' b' Wa d' f' k' s1 s2 jr true W h;generalize tl.all (·.done)=o7 at C7 Kc;have Gc:=Ra.o.c 17;(go_wp2_with(with_reducible refine af 183 ?_ ?_;rfl));show wpList _ _ _ _ _ _;clear Gc;have Hb:=Ra.o.c 16;with_reducible refine b9 ?qg (.bool true) wr ?qrun ?_
    case qg=>exact rfl
    case qrun=>go_simp
    show wpList _ _ _ _ _ _;with_reducible refine b9 ?qg (.bool true) wr ?qrun ?_
    case qg | qrun=>exact rfl
    show wpList _ _ _ _ _ _;have iL:(prog.info? 45).map (·.size)=some ([it Da,it a,it b,it c',it d,it f,it k,it a',it b',it Wa,it d',it f',it k',it s1,it s2,it jr,.bool true,.slice ta tn tc]:List Value).length:=(show(prog.info? 45).map (·.size)=some 18 by kernel_rfl);with_reducible refine bz ?qw 45 ?qlw ?qo jb 0 ?qhx [it Da,it a,it b,it c',it d,it f,it k,it a',it b',it Wa,it d',it f',it k',it s1,it s2,it jr,.bool true,.slice ta tn tc] _ Ra.o.row underlying45 ?qd iL ?_
    case qw=>kernel_rfl
    case qo=>exact rfl
    case qhx=>kernel_rfl
    case qd=>exact rfl
    clear iL;show wpList _ _ _ _ _ _;clear Hb;(go_wp2_with fail);refine(C7 _ Wc).mono ?_;rintro e w8 ⟨rfl,hb⟩;have Bb:=Hd (Za.o.trans (hb.mono Za.o.size));have Hc:=Hd (Kb.o.below hb);clear Za Vc Ra Kb;clear hb
    cases o7 with
    | true=>
     have HF:H9 (false=R):=(by show _=_;have:=Kc.o;simpa using this);go_wp2;go_ret;exact⟨ag HF.o,(Qa.o.trans (Bb.o.mono Qa.o.size))⟩
    | false=>
     have Ed:H9 (SN=R):=(by show _=_;have:=Kc.o;simpa using this);go_wp2;go_roundw
     case rel=>exact⟨j+1,Da,us,by omega,by go_num,(fun h=>by omega),Lc.o,by rw[Jc.o];exact Rc.o.trans Ed.o,by rw[Jc.o];exact Pd,ai,mi,ci,rfl,Hc.o,Bb.o⟩
     case measure=>simp[intOf];omega
end Go.Proofs.YtjcjonncaknhnaaGreatDoor
