import Derived.Test.YtjcjonncaknhnaaGreatDoorPk10
import Derived.Test.YtjcjonncaknhnaaGreatDoorPk11
namespace Go.Proofs.YtjcjonncaknhnaaGreatDoor
open Go.RowKit Go.Proofs.Tryz
set_option linter.unusedSimpArgs false
set_option maxHeartbeats 32000000
variable {a1 a2 a3 a4:Option Addr}{n1 n2 n3 n4 c1 c2 c3 c4:Nat}
theorem ir{P:Program}{ops:Array Oper}{o:Oper}{a:Act}{w:World}{K:Act→World→Prop}{Q:Exit→Act→World→Prop}{E:Prop}(hg:o.guard=none)(T:TypeId)(hop:o.op=.alloc T)(cs:Array Value)
 (hs:(Instr.alloc T true (.tuple #[])).run P w=.ok (.pointer (some ⟨w.heap.size,0,none⟩)) (w.alloc (.cells cs T)))
 (hK:∀g W,au W g cs.toList→w.heap.size≤g→g<W.heap.size→m1 w W→K (a.put o.dst (.pointer (some ⟨g,0,none⟩))) W):if Region.wanted o (yielded ops a.tmps)=true then Oper.wp P o a w K Q else E:=by
 have hw:Region.wanted o (yielded ops a.tmps)=true:=(by simp[Region.wanted,hg]);rw[if_pos hw];exact bL T hop cs hs (hK _ _ (aO _ _ _) (m3 _) (by simp) ((m5 _ _).alloc (m3 _) _))
set_option maxRecDepth 10000 in
theorem oK{b tn tc:Nat}{ta:Option Addr}(jid e1 e2 e3 e4 e5 e6 e7 e8 e9 e10 e11 e12 t1 t2 jr:Int)(jg:Bool)(s':Int)(w:World)(hl:au w b [.int .i64 jid,.int .i64 e1,.int .i64 e2,.int .i64 e3,.int .i64 e4,.int .i64 e5,.int .i64 e6,.int .i64 e7,.int .i64 e8,.int .i64 e9,.int .i64 e10,.int .i64 e11,.int .i64 e12,.int .i64 t1,.int .i64 t2,.int .i64 jr,.bool jg,.slice ta tn tc])(h0:0≤s')(h7:s'≤7)(r0:0≤jr)(r1:jr≤16):
  Rt 121 #[.pointer (some ⟨b,0,none⟩),.int .i64 s'] w (.agg #[.int .i64 e1,.int .i64 e2,.int .i64 e3,.int .i64 e4,.int .i64 e5,.int .i64 e6,.int .i64 e7,.int .i64 e8,.int .i64 e9,.int .i64 e10,.int .i64 e11,.int .i64 e12,.int .i64 (ei ⟨⟨e1,e2,e3,e4,e5,e6⟩,⟨e7,e8,e9,e10,e11,e12⟩⟩ (t1,t2) (s'*(jr-1))).1,.int .i64 (ei ⟨⟨e1,e2,e3,e4,e5,e6⟩,⟨e7,e8,e9,e10,e11,e12⟩⟩ (t1,t2) (s'*(jr-1))).2,.int .i64 jr]):=by
 have C1:=kJ ⟨⟨e1,e2,e3,e4,e5,e6⟩,⟨e7,e8,e9,e10,e11,e12⟩⟩ (t1,t2) (s'*(jr-1));generalize ei ⟨⟨e1,e2,e3,e4,e5,e6⟩,⟨e7,e8,e9,e10,e11,e12⟩⟩ (t1,t2) (s'*(jr-1))=y at *;generalize bE ⟨⟨e1,e2,e3,e4,e5,e6⟩,⟨e7,e8,e9,e10,e11,e12⟩⟩ (t1,t2) (s'*(jr-1))=ok at C1;obtain⟨y1,y2⟩:=y;dsimp only[da,cM]at C1 ⊢;have Ib:IntKind.i64.wrap (jr-1)=jr-1:=by rw[uQ];omega
 have Bb:0≤s'*(jr-1)+7∧s'*(jr-1)≤105:=by
  have h1:s'=0∨s'=1∨s'=2∨s'=3∨s'=4∨s'=5∨s'=6∨s'=7:=by omega
  rcases h1 with rfl | rfl | rfl | rfl | rfl | rfl | rfl | rfl <;> omega
 have Cb:IntKind.i64.wrap (s'*(jr-1))=s'*(jr-1):=(by rw[uQ];omega);generalize Wa:s'*(jr-1)=nn at C1 Bb Cb;have Db:=Hd Wa;clear Wa;go_enter func121,ntmps121;have Ta:H9 (m1 w (w.alloc (.cells (eF 0 0 0 0 0 0 0 0 0 0 0 0 0 0 0).toArray 209))):=(m5 _ _).alloc (m3 _) _;have Ua:=ct w (eF 0 0 0 0 0 0 0 0 0 0 0 0 0 0 0) 209;have Oa:H9 (au (w.alloc (.cells (eF 0 0 0 0 0 0 0 0 0 0 0 0 0 0 0).toArray 209)) b (ce jid e1 e2 e3 e4 e5 e6 e7 e8 e9 e10 e11 e12 t1 t2 jr jg ta tn tc)):=hl.alloc _;have Eb:=Hd hl.2.2;clear hl;(go_wp2_with fail);generalize(w.alloc (.cells (eF 0 0 0 0 0 0 0 0 0 0 0 0 0 0 0).toArray 209))=wa at *;apply eV
 case f=>
  intro key;refine cB wa none (by kernel_rfl) fun hHeld=>?_;generalize wa.drew=Fb at *;refine tk 0 (.pointer (some ⟨b,0,none⟩)) ?_ ?_
  ·intro wq Aa;go_simp
  refine tk 1 (.pointer (some ⟨b,0,none⟩)) ?_ ?_
  ·intro wq Aa;go_simp
  refine tk 2 (.pointer (some ⟨b,1,none⟩)) ?_ ?_
  ·intro wq Aa;go_simp
  refine wpAnyH_take (i:=3) (v:=.agg ((co e1 e2 e3 e4 e5 e6 e7 e8 e9 e10 e11 e12):List Value).toArray) rfl (by kernel_rfl) (by kernel_rfl) (by kernel_rfl) (fun _ _ _ h=>h) (uM (by kernel_rfl) 31 (.tmp 10) rfl b 1 rfl ((co e1 e2 e3 e4 e5 e6 e7 e8 e9 e10 e11 e12):List Value) _ (fun W hW=>au.mid (Oa.o.grown hW (by simp)) 1 12) underlying31 rfl (by kernel_rfl)) (by assumption) ?_;refine tk 4 (.pointer (some ⟨b,0,none⟩)) ?_ ?_
  ·intro wq Aa;go_simp
  refine tk 5 (.pointer (some ⟨b,0,none⟩)) ?_ ?_
  ·intro wq Aa;go_simp
  refine tk 6 (.pointer (some ⟨b,13,none⟩)) ?_ ?_
  ·intro wq Aa;go_simp
  refine tk 7 (.agg #[it t1,it t2]) ?_ ?_
  ·intro wq Aa;have c0:=(Oa.o.grown Aa (by simp)).c 13;have c1:=(Oa.o.grown Aa (by simp)).c 14;go_simp
  refine tk 8 (it s') ?_ ?_
  ·intro wq Aa;go_simp
  refine tk 9 (.pointer (some ⟨b,0,none⟩)) ?_ ?_
  ·intro wq Aa;go_simp
  refine tk 10 (.pointer (some ⟨b,0,none⟩)) ?_ ?_
  ·intro wq Aa;go_simp
  refine tk 11 (.pointer (some ⟨b,15,none⟩)) ?_ ?_
  ·intro wq Aa;go_simp
  refine tk 12 (it jr) ?_ ?_
  ·intro wq Aa;have c0:=(Oa.o.grown Aa (by simp)).c 15;go_simp
  refine tk 13 (it (jr-1)) ?_ ?_
  ·intro wq Aa;go_simp
  refine tk 14 (it nn) ?_ ?_
  ·intro wq Aa;go_simp;rw[Db.o];go_simp
  refine uT (rs:=[15,19]) (by kernel_rfl) (by simp) ?_;apply uC
  case ho=>exact rfl
  case h=>
   intro Kk hK;go_simp;refine(C1 Fb).mono ?_;rintro e Qa ⟨rfl,hb⟩;go_simp;have Ha:=aH hHeld hb;refine hK.out _ _ Ha (fun hzz=>?_);clear hzz hK Kk hb;refine tk 16 (.tuple #[.agg #[it y1,it y2],.bool ok]) ?_ ?_
   ·intro wq Aa;go_simp
   refine tk 17 (.agg #[it y1,it y2]) ?_ ?_
   ·intro wq Aa;go_simp
   refine uT (rs:=[18,19]) (by kernel_rfl) (by simp) ?_;apply uC
   case ho=>exact rfl
   case h=>
    intro Kk hK;go_simp;refine hK.out _ _ Ha (fun hzz=>?_);clear hzz hK Kk;refine uT (rs:=[19]) (by kernel_rfl) (by simp) ?_;apply uC
    case ho=>exact rfl
    case h=>
     intro Kk hK;with_reducible refine ir ?qg 33 ?qo #[it 0,it 0] ?qs ?qk
     case qg | qo=>exact rfl
     case qs=>kernel_rfl
     case qk=>
      intro sb Ba Fa Na Pa hb;have Ga:=aH Ha hb;have Ia:=m8 Ha.size Na;refine hK.out _ _ Ga (fun hzz=>?_);clear hzz hK Kk hb Na Pa;refine uT (rs:=[20]) (by kernel_rfl) (by simp) ?_;apply uC
      case ho=>exact rfl
      case h=>
       intro Kk hK;rw[if_pos (by kernel_rfl)];with_reducible refine wp_store_mid 33 (.tmp 5) (.tmp 24) ?_ sb 0 ([it y1,it y2]:List Value).toArray ?_ ?_ ?_ (by kernel_rfl) (by kernel_rfl) ?_
       ·exact rfl
       ·kernel_rfl
       ·kernel_rfl
       ·exact Fa.there 0 2 (by simp)
       have Ea:=cm Ba sb 0 [it y1,it y2];have Ca:=aK Ga Ea Ia;have Ja:au (Ba.setCells sb 0 [it y1,it y2]) sb [it y1,it y2]:=Fa.setCells [it y1,it y2] 0 (by simp);refine hK.out _ _ Ca (fun hzz=>?_);clear hzz hK Kk Ea;generalize(Ba.setCells sb 0 [it y1,it y2])=Da at *;refine tk 21 (.bool ok) ?_ ?_
       ·intro wq Aa;go_simp
       refine bg ?_;go_simp;have Ka:=Ca;have La:=Ja;clear hHeld Ha Ga Fa Ca Ja;revert Ka La;generalize Da=wz;revert Ia;revert wz sb;exact key.out
      case hs=>exact uJ
    case hs=>exact uJ
   case hs=>
    apply uC
    case ho=>exact rfl
    case h=>
     intro Kk hK;with_reducible refine ir ?qg 33 ?qo #[it 0,it 0] ?qs ?qk
     case qg | qo=>exact rfl
     case qs=>kernel_rfl
     case qk=>
      intro sb Ba Fa Na Pa hb;have Ga:=aH Ha hb;have Ia:=m8 Ha.size Na;refine hK.out _ _ Ga (fun hzz=>?_);clear hzz hK Kk hb Na Pa;refine uT (rs:=[18,20]) (by kernel_rfl) (by simp) ?_;apply uC
      case ho=>exact rfl
      case h=>
       intro Kk hK;go_simp;refine hK.out _ _ Ga (fun hzz=>?_);clear hzz hK Kk;refine uT (rs:=[20]) (by kernel_rfl) (by simp) ?_;apply uC
       case ho=>exact rfl
       case h=>
        intro Kk hK;rw[if_pos (by kernel_rfl)];with_reducible refine wp_store_mid 33 (.tmp 5) (.tmp 24) ?_ sb 0 ([it y1,it y2]:List Value).toArray ?_ ?_ ?_ (by kernel_rfl) (by kernel_rfl) ?_
        ·exact rfl
        ·kernel_rfl
        ·kernel_rfl
        ·exact Fa.there 0 2 (by simp)
        have Ea:=cm Ba sb 0 [it y1,it y2];have Ca:=aK Ga Ea Ia;have Ja:au (Ba.setCells sb 0 [it y1,it y2]) sb [it y1,it y2]:=Fa.setCells [it y1,it y2] 0 (by simp);refine hK.out _ _ Ca (fun hzz=>?_);clear hzz hK Kk Ea;generalize(Ba.setCells sb 0 [it y1,it y2])=Da at *;refine tk 21 (.bool ok) ?_ ?_
        ·intro wq Aa;go_simp
        refine bg ?_;go_simp;have Ka:=Ca;have La:=Ja;clear hHeld Ha Ga Fa Ca Ja;revert Ka La;generalize Da=wz;revert Ia;revert wz sb;exact key.out
       case hs=>exact uJ
      case hs=>
       apply uC
       case ho=>exact rfl
       case h=>
        intro Kk hK;rw[if_pos (by kernel_rfl)];with_reducible refine wp_store_mid 33 (.tmp 5) (.tmp 24) ?_ sb 0 ([it y1,it y2]:List Value).toArray ?_ ?_ ?_ (by kernel_rfl) (by kernel_rfl) ?_
        ·exact rfl
        ·kernel_rfl
        ·kernel_rfl
        ·exact Fa.there 0 2 (by simp)
        have Ea:=cm Ba sb 0 [it y1,it y2];have Ca:=aK Ga Ea Ia;have Ja:au (Ba.setCells sb 0 [it y1,it y2]) sb [it y1,it y2]:=Fa.setCells [it y1,it y2] 0 (by simp);refine hK.out _ _ Ca (fun hzz=>?_);clear hzz hK Kk Ea;generalize(Ba.setCells sb 0 [it y1,it y2])=Da at *;refine uT (rs:=[18]) (by kernel_rfl) (by simp) ?_;apply uC
        case ho=>exact rfl
        case h=>
         intro Kk hK;go_simp;refine hK.out _ _ Ca (fun hzz=>?_);clear hzz hK Kk;refine tk 21 (.bool ok) ?_ ?_
         ·intro wq Aa;go_simp
         refine bg ?_;go_simp;have Ka:=Ca;have La:=Ja;clear hHeld Ha Ga Fa Ca Ja;revert Ka La;generalize Da=wz;revert Ia;revert wz sb;exact key.out
        case hs=>exact uJ
       case hs=>exact uJ
    case hs=>exact uJ
  case hs=>
   apply uC
   case ho=>exact rfl
   case h=>
    intro Kk hK;with_reducible refine ir ?qg 33 ?qo #[it 0,it 0] ?qs ?qk
    case qg | qo=>exact rfl
    case qs=>kernel_rfl
    case qk=>
     intro sb Qa Va Na Pa hb;have Ha:=aH hHeld hb;have Ia:=m8 hHeld.size Na;refine hK.out _ _ Ha (fun hzz=>?_);clear hzz hK Kk hb Na Pa;refine uT (rs:=[15]) (by kernel_rfl) (by simp) ?_;apply uC
     case ho=>exact rfl
     case h=>
      intro Kk hK;go_simp;refine(C1 Qa).mono ?_;rintro e Ba ⟨rfl,hb⟩;go_simp;have Ga:=aH Ha hb;have Fa:au Ba sb [it 0,it 0]:=Va.belowS hb;refine hK.out _ _ Ga (fun hzz=>?_);clear hzz hK Kk hb;refine tk 16 (.tuple #[.agg #[it y1,it y2],.bool ok]) ?_ ?_
      ·intro wq Aa;go_simp
      refine tk 17 (.agg #[it y1,it y2]) ?_ ?_
      ·intro wq Aa;go_simp
      refine uT (rs:=[18,20]) (by kernel_rfl) (by simp) ?_;apply uC
      case ho=>exact rfl
      case h=>
       intro Kk hK;go_simp;refine hK.out _ _ Ga (fun hzz=>?_);clear hzz hK Kk;refine uT (rs:=[20]) (by kernel_rfl) (by simp) ?_;apply uC
       case ho=>exact rfl
       case h=>
        intro Kk hK;rw[if_pos (by kernel_rfl)];with_reducible refine wp_store_mid 33 (.tmp 5) (.tmp 24) ?_ sb 0 ([it y1,it y2]:List Value).toArray ?_ ?_ ?_ (by kernel_rfl) (by kernel_rfl) ?_
        ·exact rfl
        ·kernel_rfl
        ·kernel_rfl
        ·exact Fa.there 0 2 (by simp)
        have Ea:=cm Ba sb 0 [it y1,it y2];have Ca:=aK Ga Ea Ia;have Ja:au (Ba.setCells sb 0 [it y1,it y2]) sb [it y1,it y2]:=Fa.setCells [it y1,it y2] 0 (by simp);refine hK.out _ _ Ca (fun hzz=>?_);clear hzz hK Kk Ea;generalize(Ba.setCells sb 0 [it y1,it y2])=Da at *;refine tk 21 (.bool ok) ?_ ?_
        ·intro wq Aa;go_simp
        refine bg ?_;go_simp;have Ka:=Ca;have La:=Ja;clear hHeld Ha Va Ga Fa Ca Ja;revert Ka La;generalize Da=wz;revert Ia;revert wz sb;exact key.out
       case hs=>exact uJ
      case hs=>
       apply uC
       case ho=>exact rfl
       case h=>
        intro Kk hK;rw[if_pos (by kernel_rfl)];with_reducible refine wp_store_mid 33 (.tmp 5) (.tmp 24) ?_ sb 0 ([it y1,it y2]:List Value).toArray ?_ ?_ ?_ (by kernel_rfl) (by kernel_rfl) ?_
        ·exact rfl
        ·kernel_rfl
        ·kernel_rfl
        ·exact Fa.there 0 2 (by simp)
        have Ea:=cm Ba sb 0 [it y1,it y2];have Ca:=aK Ga Ea Ia;have Ja:au (Ba.setCells sb 0 [it y1,it y2]) sb [it y1,it y2]:=Fa.setCells [it y1,it y2] 0 (by simp);refine hK.out _ _ Ca (fun hzz=>?_);clear hzz hK Kk Ea;generalize(Ba.setCells sb 0 [it y1,it y2])=Da at *;refine uT (rs:=[18]) (by kernel_rfl) (by simp) ?_;apply uC
        case ho=>exact rfl
        case h=>
         intro Kk hK;go_simp;refine hK.out _ _ Ca (fun hzz=>?_);clear hzz hK Kk;refine tk 21 (.bool ok) ?_ ?_
         ·intro wq Aa;go_simp
         refine bg ?_;go_simp;have Ka:=Ca;have La:=Ja;clear hHeld Ha Va Ga Fa Ca Ja;revert Ka La;generalize Da=wz;revert Ia;revert wz sb;exact key.out
        case hs=>exact uJ
       case hs=>exact uJ
     case hs=>exact uJ
   case hs=>exact uJ
 case h=>
  intro sb wz Ia Xa Ra;have LJ:=Hd Ra;have Sa:=ap Xa (m3 _) (fun z e=>by simp at e);have Ya:=Oa.b Sa;have Gb:=Ua.b Sa;have Za:=Ta.t Sa;have Jb:=uL Ua.o.2.2 Ia;have Kb:=Eb.o;clear Xa Ra Sa Ta Ua Oa C1;(go_wp2_with fail);refine cB wz (some w.heap.size) (by kernel_rfl) fun hHeld=>?_;have Ab:=Hd (Gb.o.belowS (m5 _ _).drew);generalize wz.drew=wy at *;refine tk 0 (.pointer (some ⟨b,0,none⟩)) ?_ ?_
  ·intro wq Aa;go_simp
  refine tk 1 (.pointer (some ⟨b,0,none⟩)) ?_ ?_
  ·intro wq Aa;go_simp
  refine tk 2 (.pointer (some ⟨b,1,none⟩)) ?_ ?_
  ·intro wq Aa;go_simp
  refine wpAnyH_take (i:=3) (v:=.agg ((co e1 e2 e3 e4 e5 e6 e7 e8 e9 e10 e11 e12):List Value).toArray) rfl (by kernel_rfl) (by kernel_rfl) (by kernel_rfl) (fun _ _ _ h=>h) (uM (by kernel_rfl) 31 (.tmp 28) rfl b 1 rfl ((co e1 e2 e3 e4 e5 e6 e7 e8 e9 e10 e11 e12):List Value) _ (fun W hW=>au.mid (Ya.o.grown hW (fun e=>by have:=m2 e;omega)) 1 12) underlying31 rfl (by kernel_rfl)) (by assumption) ?_;refine tk 4 (.agg #[it y1,it y2]) ?_ ?_
  ·intro wq Aa;have c0:=(LJ.o.grown Aa (fun e=>by have:=m2 e;omega)).c 0;have c1:=(LJ.o.grown Aa (fun e=>by have:=m2 e;omega)).c 1;go_simp
  refine tk 5 (.pointer (some ⟨b,0,none⟩)) ?_ ?_
  ·intro wq Aa;go_simp
  refine tk 6 (.pointer (some ⟨b,0,none⟩)) ?_ ?_
  ·intro wq Aa;go_simp
  refine tk 7 (.pointer (some ⟨b,15,none⟩)) ?_ ?_
  ·intro wq Aa;go_simp
  refine tk 8 (it jr) ?_ ?_
  ·intro wq Aa;have c0:=(Ya.o.grown Aa (fun e=>by have:=m2 e;omega)).c 15;go_simp
  refine tk 9 (.agg ((eF e1 e2 e3 e4 e5 e6 e7 e8 e9 e10 e11 e12 y1 y2 jr):List Value).toArray) ?_ ?_
  ·intro wq Aa;go_simp
  refine aX 10 fun Kk hK=>?_;rw[if_pos (by kernel_rfl)];with_reducible refine wp_store_mid 209 (.tmp 4) (.tmp 35) ?_ w.heap.size 0 ((eF e1 e2 e3 e4 e5 e6 e7 e8 e9 e10 e11 e12 y1 y2 jr):List Value).toArray ?_ ?_ ?_ (by kernel_rfl) (by kernel_rfl) ?_
  ·exact rfl
  ·kernel_rfl
  ·kernel_rfl
  ·exact Ab.o.there 0 15 (by simp)
  have Ea:wz.grownBy (wy.setCells w.heap.size 0 (eF e1 e2 e3 e4 e5 e6 e7 e8 e9 e10 e11 e12 y1 y2 jr)) (some w.heap.size):=hHeld.trans (a8 (World.grownBy.refl _ _) 0 _);have Ra:au (wy.setCells w.heap.size 0 (eF e1 e2 e3 e4 e5 e6 e7 e8 e9 e10 e11 e12 y1 y2 jr)) w.heap.size (eF e1 e2 e3 e4 e5 e6 e7 e8 e9 e10 e11 e12 y1 y2 jr):=Ab.o.setCells (eF e1 e2 e3 e4 e5 e6 e7 e8 e9 e10 e11 e12 y1 y2 jr) 0 (by simp);refine hK.out _ _ Ea (fun hzz=>?_);clear hzz hK Kk;refine bg ?_;go_simp;have Hb:=Za.o.trans (ap Ea Za.o.size (fun z e=>by have:=m2 e;omega));generalize(wy.setCells w.heap.size 0 (eF e1 e2 e3 e4 e5 e6 e7 e8 e9 e10 e11 e12 y1 y2 jr))=wf at *;clear Ea hHeld;go_wp2;exact m7 (aS rfl rfl (uN wf w.heap.size 0 209 _ _ Ra.row underlying209 rfl (by kernel_rfl))) rfl ⟨rfl,Hb⟩
theorem gI(tr:Int)(uz:Nat)(w:World):(method (uz+1) 115 (.agg #[.int .i64 tr]) "loop.example/g00319/impl.formOk").run prog w=.ok (324,.agg #[.int .i64 tr]) w:=by kernel_rfl
set_option maxRecDepth 10000 in
theorem kE(id s' l' tr m0 I J Q V T Y Z L U A B t1 t2 p1 p2 p3 p4:Int)(ob:Bool)(CB:∀W,Rt 92 #[.agg #[.int .i64 4,.int .i64 id,.int .i64 s',.int .i64 l',.int .i64 0,.int .i64 m0,.int .i64 I,.int .i64 J,.int .i64 Q,.int .i64 V,.int .i64 T,.int .i64 Y,.int .i64 Z,.int .i64 L,.int .i64 U,.int .i64 A,.int .i64 B,.int .i64 t1,.int .i64 t2,.int .i64 p1,.int .i64 p2,.int .i64 p3,.int .i64 p4,.slice a1 n1 c1,.slice a2 n2 c2,.slice a3 n3 c3,.slice a4 n4 c4]] W (.bool ob))(w:World):
  Rt 37 #[.agg #[.int .i64 4,.int .i64 id,.int .i64 s',.int .i64 l',.int .i64 tr,.int .i64 m0,.int .i64 I,.int .i64 J,.int .i64 Q,.int .i64 V,.int .i64 T,.int .i64 Y,.int .i64 Z,.int .i64 L,.int .i64 U,.int .i64 A,.int .i64 B,.int .i64 t1,.int .i64 t2,.int .i64 p1,.int .i64 p2,.int .i64 p3,.int .i64 p4,.slice a1 n1 c1,.slice a2 n2 c2,.slice a3 n3 c3,.slice a4 n4 c4]] w (.tuple #[.iface 115 (.agg #[.int .i64 tr]),.bool (M.inB tr 1 1000000000&&ob)]):=by
 have CF:=iX tr;generalize M.inB tr 1 1000000000=of at *;have hm:=gI tr;have HB:H9 (m1 w (w.alloc (.cells (bG 4 id s' l' tr m0 I J Q V T Y Z L U A B t1 t2 p1 p2 p3 p4 a1 n1 c1 a2 n2 c2 a3 n3 c3 a4 n4 c4).toArray 37))):=(m5 _ _).alloc (m3 _) _;have HA:=ct w (bG 4 id s' l' tr m0 I J Q V T Y Z L U A B t1 t2 p1 p2 p3 p4 a1 n1 c1 a2 n2 c2 a3 n3 c3 a4 n4 c4) 37;go_enter func37,ntmps37;(go_wp2_with(with_reducible refine aA 6 ?_ ?_;rfl));refine fE 37 w.heap.size 0 (bG 4 id s' l' tr m0 I J Q V T Y Z L U A B t1 t2 p1 p2 p3 p4 a1 n1 c1 a2 n2 c2 a3 n3 c3 a4 n4 c4) HA.o.row underlying37 ⟨rfl,rfl,by kernel_rfl,_,rfl,by kernel_rfl⟩ ?_;(go_wp2_with(with_reducible refine aA 5 ?_ ?_;rfl));generalize(w.alloc (.cells (bG 4 id s' l' tr m0 I J Q V T Y Z L U A B t1 t2 p1 p2 p3 p4 a1 n1 c1 a2 n2 c2 a3 n3 c3 a4 n4 c4).toArray 37))=wa at *;refine sn 37 (bM 0).toArray ⟨rfl,rfl,by kernel_rfl⟩ ?_;have Ja:=HA.o.2.2;have Ca:=(m5 wa.heap.size wa).alloc (m3 _) (.cells (bM 0).toArray 37);have Da:=HB.t Ca;have Ka:=HA.b Ca;have Aa:=ct wa (bM 0) 37;generalize(wa.alloc (.cells (bM 0).toArray 37))=wb at *;generalize wa.heap.size=pb at Ja Aa ⊢;(go_wp2_with(with_reducible refine aF ?_ ?_;rfl));refine fq 37 pb 0 (bG 4 id s' l' tr m0 I J Q V T Y Z L U A B t1 t2 p1 p2 p3 p4 a1 n1 c1 a2 n2 c2 a3 n3 c3 a4 n4 c4) (Aa.o.there 0 27 (by simp)) ⟨rfl,by kernel_rfl,by kernel_rfl,_,_,rfl,by kernel_rfl,by kernel_rfl⟩ ?_;have Ea:=cm wb pb 0 (bG 4 id s' l' tr m0 I J Q V T Y Z L U A B t1 t2 p1 p2 p3 p4 a1 n1 c1 a2 n2 c2 a3 n3 c3 a4 n4 c4);have Fa:=Hd (Da.o.trans (ap Ea Da.o.size (fun z e=>by have:=m2 e;omega)));have Ga:=Hd (Ka.o.grown Ea (fun e=>by have:=m2 e;omega));have Ba:H9 (au (wb.setCells pb 0 (bG 4 id s' l' tr m0 I J Q V T Y Z L U A B t1 t2 p1 p2 p3 p4 a1 n1 c1 a2 n2 c2 a3 n3 c3 a4 n4 c4)) pb (bG 4 id s' l' tr m0 I J Q V T Y Z L U A B t1 t2 p1 p2 p3 p4 a1 n1 c1 a2 n2 c2 a3 n3 c3 a4 n4 c4)):=Aa.o.setCells (bG 4 id s' l' tr m0 I J Q V T Y Z L U A B t1 t2 p1 p2 p3 p4 a1 n1 c1 a2 n2 c2 a3 n3 c3 a4 n4 c4) 0 (by simp);generalize wb.setCells pb 0 (bG 4 id s' l' tr m0 I J Q V T Y Z L U A B t1 t2 p1 p2 p3 p4 a1 n1 c1 a2 n2 c2 a3 n3 c3 a4 n4 c4)=wc at *;have x0:=Ga.c 0;have x4:=Ga.c 4;have r4:=Ba.c 4;have f4:=Ba.o.fr 4;(go_wp2_with fail);have La:=aU wc ⟨pb,4,none⟩ (it 0);have Na:H9 (au (wc.setCell ⟨pb,4,none⟩ (it 0)) pb [it 4,it id,it s',it l',it 0,it m0,it I,it J,it Q,it V,it T,it Y,it Z,it L,it U,it A,it B,it t1,it t2,it p1,it p2,it p3,it p4,.slice a1 n1 c1,.slice a2 n2 c2,.slice a3 n3 c3,.slice a4 n4 c4]):=Ba.o.set 4 (by simp) _;have Ha:=Hd (Fa.o.trans (ap La Fa.o.size (fun z e=>by have:=m2 e;dsimp only at this;omega)));generalize wc.setCell ⟨pb,4,none⟩ (it 0)=wd at *;refine(CF wd).mono ?_;rintro e we ⟨rfl,hb⟩;have Oa:=Na.b hb;have Ia:=Ha.t hb
 cases of with
 | false=>
  go_wp2;exact m7 (v:=.tuple #[.iface 115 (.agg #[it tr]),.bool false]) (by simp[results,results37,go_sem]) rfl ⟨rfl,Ia.o⟩
 | true=>
  dsimp only;rename_i hk;refine hk _ _ ?_;with_reducible refine cn ?qg (.bool true) we ?qrun ?_
  case qg=>exact rfl
  case qrun=>kernel_rfl
  show wpList _ _ _ _ _ _;have iL:(prog.info? 37).map (·.size)=some ([it 4,it id,it s',it l',it 0,it m0,it I,it J,it Q,it V,it T,it Y,it Z,it L,it U,it A,it B,it t1,it t2,it p1,it p2,it p3,it p4,.slice a1 n1 c1,.slice a2 n2 c2,.slice a3 n3 c3,.slice a4 n4 c4]:List Value).length:=(show(prog.info? 37).map (·.size)=some 27 by kernel_rfl);with_reducible refine bK ?qw 37 ?qlw ?qo pb 0 ?qhx [it 4,it id,it s',it l',it 0,it m0,it I,it J,it Q,it V,it T,it Y,it Z,it L,it U,it A,it B,it t1,it t2,it p1,it p2,it p3,it p4,.slice a1 n1 c1,.slice a2 n2 c2,.slice a3 n3 c3,.slice a4 n4 c4] _ Oa.o.row underlying37 ?qd iL ?qrz
  case qw=>kernel_rfl
  case qo=>exact rfl
  case qhx=>kernel_rfl
  case qd=>exact rfl
  case qrz=>
   (go_wp2_with fail);refine(CB we).mono ?_;rintro e wf ⟨rfl,hb⟩;have Pa:=Ia.t hb;go_wp2;exact m7 (v:=.tuple #[.iface 115 (.agg #[it tr]),.bool ob]) (by simp[results,results37,go_sem]) rfl ⟨by simp,Pa.o⟩
theorem f9(l':Int)(uz:Nat)(w:World):(method (uz+1) 159 (.agg #[.int .i64 l']) "loop.example/g00319/impl.formOk").run prog w=.ok (326,.agg #[.int .i64 l']) w:=by kernel_rfl
set_option maxRecDepth 10000 in
theorem j3(id s' l' tr m0 I J Q V T Y Z L U A B t1 t2 p1 p2 p3 p4:Int)(ob:Bool)(CB:∀W,Rt 92 #[.agg #[.int .i64 2,.int .i64 id,.int .i64 s',.int .i64 0,.int .i64 tr,.int .i64 m0,.int .i64 I,.int .i64 J,.int .i64 Q,.int .i64 V,.int .i64 T,.int .i64 Y,.int .i64 Z,.int .i64 L,.int .i64 U,.int .i64 A,.int .i64 B,.int .i64 t1,.int .i64 t2,.int .i64 p1,.int .i64 p2,.int .i64 p3,.int .i64 p4,.slice a1 n1 c1,.slice a2 n2 c2,.slice a3 n3 c3,.slice a4 n4 c4]] W (.bool ob))(w:World):
  Rt 37 #[.agg #[.int .i64 2,.int .i64 id,.int .i64 s',.int .i64 l',.int .i64 tr,.int .i64 m0,.int .i64 I,.int .i64 J,.int .i64 Q,.int .i64 V,.int .i64 T,.int .i64 Y,.int .i64 Z,.int .i64 L,.int .i64 U,.int .i64 A,.int .i64 B,.int .i64 t1,.int .i64 t2,.int .i64 p1,.int .i64 p2,.int .i64 p3,.int .i64 p4,.slice a1 n1 c1,.slice a2 n2 c2,.slice a3 n3 c3,.slice a4 n4 c4]] w (.tuple #[.iface 159 (.agg #[.int .i64 l']),.bool (M.wkOk l'&&ob)]):=by
 have CF:=iE l';generalize M.wkOk l'=of at *;have hm:=f9 l';have HB:H9 (m1 w (w.alloc (.cells (bG 2 id s' l' tr m0 I J Q V T Y Z L U A B t1 t2 p1 p2 p3 p4 a1 n1 c1 a2 n2 c2 a3 n3 c3 a4 n4 c4).toArray 37))):=(m5 _ _).alloc (m3 _) _;have HA:=ct w (bG 2 id s' l' tr m0 I J Q V T Y Z L U A B t1 t2 p1 p2 p3 p4 a1 n1 c1 a2 n2 c2 a3 n3 c3 a4 n4 c4) 37;go_enter func37,ntmps37;(go_wp2_with(with_reducible refine aA 6 ?_ ?_;rfl));refine fE 37 w.heap.size 0 (bG 2 id s' l' tr m0 I J Q V T Y Z L U A B t1 t2 p1 p2 p3 p4 a1 n1 c1 a2 n2 c2 a3 n3 c3 a4 n4 c4) HA.o.row underlying37 ⟨rfl,rfl,by kernel_rfl,_,rfl,by kernel_rfl⟩ ?_;(go_wp2_with(with_reducible refine aA 5 ?_ ?_;rfl));generalize(w.alloc (.cells (bG 2 id s' l' tr m0 I J Q V T Y Z L U A B t1 t2 p1 p2 p3 p4 a1 n1 c1 a2 n2 c2 a3 n3 c3 a4 n4 c4).toArray 37))=wa at *;refine sn 37 (bM 0).toArray ⟨rfl,rfl,by kernel_rfl⟩ ?_;have Ja:=HA.o.2.2;have Ca:=(m5 wa.heap.size wa).alloc (m3 _) (.cells (bM 0).toArray 37);have Da:=HB.t Ca;have Ka:=HA.b Ca;have Aa:=ct wa (bM 0) 37;generalize(wa.alloc (.cells (bM 0).toArray 37))=wb at *;generalize wa.heap.size=pb at Ja Aa ⊢;(go_wp2_with(with_reducible refine aF ?_ ?_;rfl));refine fq 37 pb 0 (bG 2 id s' l' tr m0 I J Q V T Y Z L U A B t1 t2 p1 p2 p3 p4 a1 n1 c1 a2 n2 c2 a3 n3 c3 a4 n4 c4) (Aa.o.there 0 27 (by simp)) ⟨rfl,by kernel_rfl,by kernel_rfl,_,_,rfl,by kernel_rfl,by kernel_rfl⟩ ?_;have Ea:=cm wb pb 0 (bG 2 id s' l' tr m0 I J Q V T Y Z L U A B t1 t2 p1 p2 p3 p4 a1 n1 c1 a2 n2 c2 a3 n3 c3 a4 n4 c4);have Fa:=Hd (Da.o.trans (ap Ea Da.o.size (fun z e=>by have:=m2 e;omega)));have Ga:=Hd (Ka.o.grown Ea (fun e=>by have:=m2 e;omega));have Ba:H9 (au (wb.setCells pb 0 (bG 2 id s' l' tr m0 I J Q V T Y Z L U A B t1 t2 p1 p2 p3 p4 a1 n1 c1 a2 n2 c2 a3 n3 c3 a4 n4 c4)) pb (bG 2 id s' l' tr m0 I J Q V T Y Z L U A B t1 t2 p1 p2 p3 p4 a1 n1 c1 a2 n2 c2 a3 n3 c3 a4 n4 c4)):=Aa.o.setCells (bG 2 id s' l' tr m0 I J Q V T Y Z L U A B t1 t2 p1 p2 p3 p4 a1 n1 c1 a2 n2 c2 a3 n3 c3 a4 n4 c4) 0 (by simp);generalize wb.setCells pb 0 (bG 2 id s' l' tr m0 I J Q V T Y Z L U A B t1 t2 p1 p2 p3 p4 a1 n1 c1 a2 n2 c2 a3 n3 c3 a4 n4 c4)=wc at *;have x0:=Ga.c 0;have x4:=Ga.c 3;have r4:=Ba.c 3;have f4:=Ba.o.fr 3;(go_wp2_with fail);have La:=aU wc ⟨pb,3,none⟩ (it 0);have Na:H9 (au (wc.setCell ⟨pb,3,none⟩ (it 0)) pb [it 2,it id,it s',it 0,it tr,it m0,it I,it J,it Q,it V,it T,it Y,it Z,it L,it U,it A,it B,it t1,it t2,it p1,it p2,it p3,it p4,.slice a1 n1 c1,.slice a2 n2 c2,.slice a3 n3 c3,.slice a4 n4 c4]):=Ba.o.set 3 (by simp) _;have Ha:=Hd (Fa.o.trans (ap La Fa.o.size (fun z e=>by have:=m2 e;dsimp only at this;omega)));generalize wc.setCell ⟨pb,3,none⟩ (it 0)=wd at *;refine(CF wd).mono ?_;rintro e we ⟨rfl,hb⟩;have Oa:=Na.b hb;have Ia:=Ha.t hb
 cases of with
 | false=>
  go_wp2;exact m7 (v:=.tuple #[.iface 159 (.agg #[it l']),.bool false]) (by simp[results,results37,go_sem]) rfl ⟨rfl,Ia.o⟩
 | true=>
  dsimp only;rename_i hk;refine hk _ _ ?_;with_reducible refine cn ?qg (.bool true) we ?qrun ?_
  case qg=>exact rfl
  case qrun=>kernel_rfl
  show wpList _ _ _ _ _ _;have iL:(prog.info? 37).map (·.size)=some ([it 2,it id,it s',it 0,it tr,it m0,it I,it J,it Q,it V,it T,it Y,it Z,it L,it U,it A,it B,it t1,it t2,it p1,it p2,it p3,it p4,.slice a1 n1 c1,.slice a2 n2 c2,.slice a3 n3 c3,.slice a4 n4 c4]:List Value).length:=(show(prog.info? 37).map (·.size)=some 27 by kernel_rfl);with_reducible refine bK ?qw 37 ?qlw ?qo pb 0 ?qhx [it 2,it id,it s',it 0,it tr,it m0,it I,it J,it Q,it V,it T,it Y,it Z,it L,it U,it A,it B,it t1,it t2,it p1,it p2,it p3,it p4,.slice a1 n1 c1,.slice a2 n2 c2,.slice a3 n3 c3,.slice a4 n4 c4] _ Oa.o.row underlying37 ?qd iL ?qrz
  case qw=>kernel_rfl
  case qo=>exact rfl
  case qhx=>kernel_rfl
  case qd=>exact rfl
  case qrz=>
   (go_wp2_with fail);refine(CB we).mono ?_;rintro e wf ⟨rfl,hb⟩;have Pa:=Ia.t hb;go_wp2;exact m7 (v:=.tuple #[.iface 159 (.agg #[it l']),.bool ob]) (by simp[results,results37,go_sem]) rfl ⟨by simp,Pa.o⟩
theorem fO(id:Int)(uz:Nat)(w:World):(method (uz+1) 163 (.agg #[.int .i64 id]) "loop.example/g00319/impl.formOk").run prog w=.ok (328,.agg #[.int .i64 id]) w:=by kernel_rfl
set_option maxRecDepth 10000 in
theorem jA(id s' l' tr m0 I J Q V T Y Z L U A B t1 t2 p1 p2 p3 p4:Int)(ob:Bool)(CB:∀W,Rt 92 #[.agg #[.int .i64 5,.int .i64 0,.int .i64 s',.int .i64 l',.int .i64 tr,.int .i64 m0,.int .i64 I,.int .i64 J,.int .i64 Q,.int .i64 V,.int .i64 T,.int .i64 Y,.int .i64 Z,.int .i64 L,.int .i64 U,.int .i64 A,.int .i64 B,.int .i64 t1,.int .i64 t2,.int .i64 p1,.int .i64 p2,.int .i64 p3,.int .i64 p4,.slice a1 n1 c1,.slice a2 n2 c2,.slice a3 n3 c3,.slice a4 n4 c4]] W (.bool ob))(w:World):
  Rt 37 #[.agg #[.int .i64 5,.int .i64 id,.int .i64 s',.int .i64 l',.int .i64 tr,.int .i64 m0,.int .i64 I,.int .i64 J,.int .i64 Q,.int .i64 V,.int .i64 T,.int .i64 Y,.int .i64 Z,.int .i64 L,.int .i64 U,.int .i64 A,.int .i64 B,.int .i64 t1,.int .i64 t2,.int .i64 p1,.int .i64 p2,.int .i64 p3,.int .i64 p4,.slice a1 n1 c1,.slice a2 n2 c2,.slice a3 n3 c3,.slice a4 n4 c4]] w (.tuple #[.iface 163 (.agg #[.int .i64 id]),.bool (M.inB id 1 1000000000&&ob)]):=by
 have CF:=ii id;generalize M.inB id 1 1000000000=of at *;have hm:=fO id;have HB:H9 (m1 w (w.alloc (.cells (bG 5 id s' l' tr m0 I J Q V T Y Z L U A B t1 t2 p1 p2 p3 p4 a1 n1 c1 a2 n2 c2 a3 n3 c3 a4 n4 c4).toArray 37))):=(m5 _ _).alloc (m3 _) _;have HA:=ct w (bG 5 id s' l' tr m0 I J Q V T Y Z L U A B t1 t2 p1 p2 p3 p4 a1 n1 c1 a2 n2 c2 a3 n3 c3 a4 n4 c4) 37;go_enter func37,ntmps37;(go_wp2_with(with_reducible refine aA 6 ?_ ?_;rfl));refine fE 37 w.heap.size 0 (bG 5 id s' l' tr m0 I J Q V T Y Z L U A B t1 t2 p1 p2 p3 p4 a1 n1 c1 a2 n2 c2 a3 n3 c3 a4 n4 c4) HA.o.row underlying37 ⟨rfl,rfl,by kernel_rfl,_,rfl,by kernel_rfl⟩ ?_;(go_wp2_with(with_reducible refine aA 5 ?_ ?_;rfl));generalize(w.alloc (.cells (bG 5 id s' l' tr m0 I J Q V T Y Z L U A B t1 t2 p1 p2 p3 p4 a1 n1 c1 a2 n2 c2 a3 n3 c3 a4 n4 c4).toArray 37))=wa at *;refine sn 37 (bM 0).toArray ⟨rfl,rfl,by kernel_rfl⟩ ?_;have Ja:=HA.o.2.2;have Ca:=(m5 wa.heap.size wa).alloc (m3 _) (.cells (bM 0).toArray 37);have Da:=HB.t Ca;have Ka:=HA.b Ca;have Aa:=ct wa (bM 0) 37;generalize(wa.alloc (.cells (bM 0).toArray 37))=wb at *;generalize wa.heap.size=pb at Ja Aa ⊢;(go_wp2_with(with_reducible refine aF ?_ ?_;rfl));refine fq 37 pb 0 (bG 5 id s' l' tr m0 I J Q V T Y Z L U A B t1 t2 p1 p2 p3 p4 a1 n1 c1 a2 n2 c2 a3 n3 c3 a4 n4 c4) (Aa.o.there 0 27 (by simp)) ⟨rfl,by kernel_rfl,by kernel_rfl,_,_,rfl,by kernel_rfl,by kernel_rfl⟩ ?_;have Ea:=cm wb pb 0 (bG 5 id s' l' tr m0 I J Q V T Y Z L U A B t1 t2 p1 p2 p3 p4 a1 n1 c1 a2 n2 c2 a3 n3 c3 a4 n4 c4);have Fa:=Hd (Da.o.trans (ap Ea Da.o.size (fun z e=>by have:=m2 e;omega)));have Ga:=Hd (Ka.o.grown Ea (fun e=>by have:=m2 e;omega));have Ba:H9 (au (wb.setCells pb 0 (bG 5 id s' l' tr m0 I J Q V T Y Z L U A B t1 t2 p1 p2 p3 p4 a1 n1 c1 a2 n2 c2 a3 n3 c3 a4 n4 c4)) pb (bG 5 id s' l' tr m0 I J Q V T Y Z L U A B t1 t2 p1 p2 p3 p4 a1 n1 c1 a2 n2 c2 a3 n3 c3 a4 n4 c4)):=Aa.o.setCells (bG 5 id s' l' tr m0 I J Q V T Y Z L U A B t1 t2 p1 p2 p3 p4 a1 n1 c1 a2 n2 c2 a3 n3 c3 a4 n4 c4) 0 (by simp);generalize wb.setCells pb 0 (bG 5 id s' l' tr m0 I J Q V T Y Z L U A B t1 t2 p1 p2 p3 p4 a1 n1 c1 a2 n2 c2 a3 n3 c3 a4 n4 c4)=wc at *;have x0:=Ga.c 0;have x4:=Ga.c 1;have r4:=Ba.c 1;have f4:=Ba.o.fr 1;(go_wp2_with fail);have La:=aU wc ⟨pb,1,none⟩ (it 0);have Na:H9 (au (wc.setCell ⟨pb,1,none⟩ (it 0)) pb [it 5,it 0,it s',it l',it tr,it m0,it I,it J,it Q,it V,it T,it Y,it Z,it L,it U,it A,it B,it t1,it t2,it p1,it p2,it p3,it p4,.slice a1 n1 c1,.slice a2 n2 c2,.slice a3 n3 c3,.slice a4 n4 c4]):=Ba.o.set 1 (by simp) _;have Ha:=Hd (Fa.o.trans (ap La Fa.o.size (fun z e=>by have:=m2 e;dsimp only at this;omega)));generalize wc.setCell ⟨pb,1,none⟩ (it 0)=wd at *;refine(CF wd).mono ?_;rintro e we ⟨rfl,hb⟩;have Oa:=Na.b hb;have Ia:=Ha.t hb
 cases of with
 | false=>
  go_wp2;exact m7 (v:=.tuple #[.iface 163 (.agg #[it id]),.bool false]) (by simp[results,results37,go_sem]) rfl ⟨rfl,Ia.o⟩
 | true=>
  dsimp only;rename_i hk;refine hk _ _ ?_;with_reducible refine cn ?qg (.bool true) we ?qrun ?_
  case qg=>exact rfl
  case qrun=>kernel_rfl
  show wpList _ _ _ _ _ _;have iL:(prog.info? 37).map (·.size)=some ([it 5,it 0,it s',it l',it tr,it m0,it I,it J,it Q,it V,it T,it Y,it Z,it L,it U,it A,it B,it t1,it t2,it p1,it p2,it p3,it p4,.slice a1 n1 c1,.slice a2 n2 c2,.slice a3 n3 c3,.slice a4 n4 c4]:List Value).length:=(show(prog.info? 37).map (·.size)=some 27 by kernel_rfl);with_reducible refine bK ?qw 37 ?qlw ?qo pb 0 ?qhx [it 5,it 0,it s',it l',it tr,it m0,it I,it J,it Q,it V,it T,it Y,it Z,it L,it U,it A,it B,it t1,it t2,it p1,it p2,it p3,it p4,.slice a1 n1 c1,.slice a2 n2 c2,.slice a3 n3 c3,.slice a4 n4 c4] _ Oa.o.row underlying37 ?qd iL ?qrz
  case qw=>kernel_rfl
  case qo=>exact rfl
  case qhx=>kernel_rfl
  case qd=>exact rfl
  case qrz=>
   (go_wp2_with fail);refine(CB we).mono ?_;rintro e wf ⟨rfl,hb⟩;have Pa:=Ia.t hb;go_wp2;exact m7 (v:=.tuple #[.iface 163 (.agg #[it id]),.bool ob]) (by simp[results,results37,go_sem]) rfl ⟨by simp,Pa.o⟩
set_option maxRecDepth 10000 in
theorem jB(id s' l' tr m0 I J Q V T Y Z L U A B t1 t2 p1 p2 p3 p4:Int)(ob:Bool)(CB:∀W,Rt 92 #[.agg #[.int .i64 3,.int .i64 0,.int .i64 0,.int .i64 0,.int .i64 tr,.int .i64 m0,.int .i64 I,.int .i64 J,.int .i64 Q,.int .i64 V,.int .i64 T,.int .i64 Y,.int .i64 Z,.int .i64 L,.int .i64 U,.int .i64 A,.int .i64 B,.int .i64 t1,.int .i64 t2,.int .i64 0,.int .i64 0,.int .i64 0,.int .i64 0,.slice none 0 0,.slice none 0 0,.slice none 0 0,.slice none 0 0]] W (.bool ob))(w:World):
  Rt 37 #[.agg #[.int .i64 3,.int .i64 id,.int .i64 s',.int .i64 l',.int .i64 tr,.int .i64 m0,.int .i64 I,.int .i64 J,.int .i64 Q,.int .i64 V,.int .i64 T,.int .i64 Y,.int .i64 Z,.int .i64 L,.int .i64 U,.int .i64 A,.int .i64 B,.int .i64 t1,.int .i64 t2,.int .i64 p1,.int .i64 p2,.int .i64 p3,.int .i64 p4,.slice a1 n1 c1,.slice a2 n2 c2,.slice a3 n3 c3,.slice a4 n4 c4]] w (.tuple #[.iface 161 (.agg #[.int .i64 l',.int .i64 id,.int .i64 s',.int .i64 p1,.int .i64 p2,.int .i64 p3,.int .i64 p4,.slice a1 n1 c1,.slice a2 n2 c2,.slice a3 n3 c3,.slice a4 n4 c4]),.bool ((M.wkOk l'&&(M.inB id 1 1000000000&&M.inB s' 0 7))&&ob)]):=by
 have CF:=ij (a1:=a1) (a2:=a2) (a3:=a3) (a4:=a4) (n1:=n1) (n2:=n2) (n3:=n3) (n4:=n4) (c1:=c1) (c2:=c2) (c3:=c3) (c4:=c4) l' id s' p1 p2 p3 p4;generalize(M.wkOk l'&&(M.inB id 1 1000000000&&M.inB s' 0 7))=of at *;have hm:=fun(uz:Nat) (w:World)=>(show(method (uz+1) 161 (.agg (de l' id s' p1 p2 p3 p4 a1 n1 c1 a2 n2 c2 a3 n3 c3 a4 n4 c4).toArray) "loop.example/g00319/impl.formOk").run prog w=.ok (327,.agg (de l' id s' p1 p2 p3 p4 a1 n1 c1 a2 n2 c2 a3 n3 c3 a4 n4 c4).toArray) w by kernel_rfl)
 have HB:H9 (m1 w (w.alloc (.cells (bG 3 id s' l' tr m0 I J Q V T Y Z L U A B t1 t2 p1 p2 p3 p4 a1 n1 c1 a2 n2 c2 a3 n3 c3 a4 n4 c4).toArray 37))):=(m5 _ _).alloc (m3 _) _;have HA:=ct w (bG 3 id s' l' tr m0 I J Q V T Y Z L U A B t1 t2 p1 p2 p3 p4 a1 n1 c1 a2 n2 c2 a3 n3 c3 a4 n4 c4) 37;go_enter func37,ntmps37;(go_wp2_with(with_reducible refine aA 6 ?_ ?_;rfl));refine fE 37 w.heap.size 0 (bG 3 id s' l' tr m0 I J Q V T Y Z L U A B t1 t2 p1 p2 p3 p4 a1 n1 c1 a2 n2 c2 a3 n3 c3 a4 n4 c4) HA.o.row underlying37 ⟨rfl,rfl,by kernel_rfl,_,rfl,by kernel_rfl⟩ ?_;(go_wp2_with(with_reducible refine aA 5 ?_ ?_;rfl));generalize(w.alloc (.cells (bG 3 id s' l' tr m0 I J Q V T Y Z L U A B t1 t2 p1 p2 p3 p4 a1 n1 c1 a2 n2 c2 a3 n3 c3 a4 n4 c4).toArray 37))=wa at *;refine sn 37 (bM 0).toArray ⟨rfl,rfl,by kernel_rfl⟩ ?_;have Ra:=HA.o.2.2;have Ca:=(m5 wa.heap.size wa).alloc (m3 _) (.cells (bM 0).toArray 37);have Ga:=HB.t Ca;have Sa:=HA.b Ca;have Da:=ct wa (bM 0) 37;generalize(wa.alloc (.cells (bM 0).toArray 37))=wb at *;clear Ca HB HA;generalize wa.heap.size=pb at Ra Da ⊢;(go_wp2_with(with_reducible refine aF ?_ ?_;rfl));refine fq 37 pb 0 (bG 3 id s' l' tr m0 I J Q V T Y Z L U A B t1 t2 p1 p2 p3 p4 a1 n1 c1 a2 n2 c2 a3 n3 c3 a4 n4 c4) (Da.o.there 0 27 (by simp)) ⟨rfl,by kernel_rfl,by kernel_rfl,_,_,rfl,by kernel_rfl,by kernel_rfl⟩ ?_;have Aa:=cm wb pb 0 (bG 3 id s' l' tr m0 I J Q V T Y Z L U A B t1 t2 p1 p2 p3 p4 a1 n1 c1 a2 n2 c2 a3 n3 c3 a4 n4 c4);have Ha:=Hd (Ga.o.trans (ap Aa Ga.o.size (fun z e=>by have:=m2 e;omega)));have Ba:=Hd (Sa.o.grown Aa (fun e=>by have:=m2 e;omega));have Ia:H9 (au (wb.setCells pb 0 (bG 3 id s' l' tr m0 I J Q V T Y Z L U A B t1 t2 p1 p2 p3 p4 a1 n1 c1 a2 n2 c2 a3 n3 c3 a4 n4 c4)) pb (bG 3 id s' l' tr m0 I J Q V T Y Z L U A B t1 t2 p1 p2 p3 p4 a1 n1 c1 a2 n2 c2 a3 n3 c3 a4 n4 c4)):=Da.o.setCells (bG 3 id s' l' tr m0 I J Q V T Y Z L U A B t1 t2 p1 p2 p3 p4 a1 n1 c1 a2 n2 c2 a3 n3 c3 a4 n4 c4) 0 (by simp);generalize wb.setCells pb 0 (bG 3 id s' l' tr m0 I J Q V T Y Z L U A B t1 t2 p1 p2 p3 p4 a1 n1 c1 a2 n2 c2 a3 n3 c3 a4 n4 c4)=wc at *;have x0:=Ba.c 0;have x1:=Ba.c 1;have x2:=Ba.c 2;have x3:=Ba.c 3;(go_wp2_with(with_reducible refine aA 43 ?_ ?_;rfl));refine fE 35 w.heap.size 19 (bp p1 p2 p3 p4 a1 n1 c1 a2 n2 c2 a3 n3 c3 a4 n4 c4) (Ba.o.mid 19 8) underlying35 ⟨rfl,rfl,by kernel_rfl,_,rfl,by kernel_rfl⟩ ?_;(go_wp2_with(with_reducible refine aF ?_ ?_;rfl));refine mO 2 pb 3 (it 0) (Ia.o.there 3 1 (by simp)) ⟨rfl,rfl,rfl,by kernel_rfl,_,_,rfl,by kernel_rfl,by kernel_rfl⟩ ?_;have Aa:=cm wc pb 3 [it 0];have Ja:H9 (au (wc.setCells pb 3 [it 0]) pb [it 3,it id,it s',it 0,it tr,it m0,it I,it J,it Q,it V,it T,it Y,it Z,it L,it U,it A,it B,it t1,it t2,it p1,it p2,it p3,it p4,.slice a1 n1 c1,.slice a2 n2 c2,.slice a3 n3 c3,.slice a4 n4 c4]):=Ia.o.setCells [it 0] 3 (by simp);have Ka:=Hd (Ha.o.trans (ap Aa Ha.o.size (fun z e=>by have:=m2 e;omega)));clear Ba x0 x1 x2 x3;generalize(wc.setCells pb 3 [it 0])=w4 at *;(go_wp2_with(with_reducible refine aF ?_ ?_;rfl));refine mO 2 pb 1 (it 0) (Ja.o.there 1 1 (by simp)) ⟨rfl,rfl,rfl,by kernel_rfl,_,_,rfl,by kernel_rfl,by kernel_rfl⟩ ?_;have Aa:=cm w4 pb 1 [it 0];have La:H9 (au (w4.setCells pb 1 [it 0]) pb [it 3,it 0,it s',it 0,it tr,it m0,it I,it J,it Q,it V,it T,it Y,it Z,it L,it U,it A,it B,it t1,it t2,it p1,it p2,it p3,it p4,.slice a1 n1 c1,.slice a2 n2 c2,.slice a3 n3 c3,.slice a4 n4 c4]):=Ja.o.setCells [it 0] 1 (by simp);have Na:=Hd (Ka.o.trans (ap Aa Ka.o.size (fun z e=>by have:=m2 e;omega)));generalize(w4.setCells pb 1 [it 0])=w5 at *;(go_wp2_with(with_reducible refine aF ?_ ?_;rfl));refine mO 2 pb 2 (it 0) (La.o.there 2 1 (by simp)) ⟨rfl,rfl,rfl,by kernel_rfl,_,_,rfl,by kernel_rfl,by kernel_rfl⟩ ?_;have Aa:=cm w5 pb 2 [it 0];have Oa:H9 (au (w5.setCells pb 2 [it 0]) pb [it 3,it 0,it 0,it 0,it tr,it m0,it I,it J,it Q,it V,it T,it Y,it Z,it L,it U,it A,it B,it t1,it t2,it p1,it p2,it p3,it p4,.slice a1 n1 c1,.slice a2 n2 c2,.slice a3 n3 c3,.slice a4 n4 c4]):=La.o.setCells [it 0] 2 (by simp);have Pa:=Hd (Na.o.trans (ap Aa Na.o.size (fun z e=>by have:=m2 e;omega)));generalize(w5.setCells pb 2 [it 0])=w6 at *;(go_wp2_with(with_reducible refine aF ?_ ?_;rfl));refine fq 35 pb 19 cI (Oa.o.there 19 8 (by simp)) ⟨rfl,by kernel_rfl,by kernel_rfl,_,_,rfl,by kernel_rfl,by kernel_rfl⟩ ?_;have Aa:=cm w6 pb 19 cI;have Qa:H9 (au (w6.setCells pb 19 cI) pb (bG 3 0 0 0 tr m0 I J Q V T Y Z L U A B t1 t2 0 0 0 0 none 0 0 none 0 0 none 0 0 none 0 0)):=Oa.o.setCells cI 19 (by simp);have Ea:=Hd (Pa.o.trans (ap Aa Pa.o.size (fun z e=>by have:=m2 e;omega)));generalize(w6.setCells pb 19 cI)=w7 at *;(go_wp2_with fail);refine(CF w7).mono ?_;rintro e we ⟨rfl,hb⟩;have Ta:=Qa.b hb;have Fa:=Ea.t hb;clear hb Qa Ea CF
 cases of with
 | false=>
  go_wp2;exact m7 (v:=.tuple #[.iface 161 (.agg (de l' id s' p1 p2 p3 p4 a1 n1 c1 a2 n2 c2 a3 n3 c3 a4 n4 c4).toArray),.bool false]) (by simp[results,results37,go_sem]) rfl ⟨rfl,Fa.o⟩
 | true=>
  dsimp only;rename_i hk;refine hk _ _ ?_;with_reducible refine cn ?qg (.bool true) we ?qrun ?_
  case qg=>exact rfl
  case qrun=>kernel_rfl
  show wpList _ _ _ _ _ _;have iL:(prog.info? 37).map (·.size)=some ((bG 3 0 0 0 tr m0 I J Q V T Y Z L U A B t1 t2 0 0 0 0 none 0 0 none 0 0 none 0 0 none 0 0):List Value).length:=(show(prog.info? 37).map (·.size)=some 27 by kernel_rfl);with_reducible refine bK ?qw 37 ?qlw ?qo pb 0 ?qhx (bG 3 0 0 0 tr m0 I J Q V T Y Z L U A B t1 t2 0 0 0 0 none 0 0 none 0 0 none 0 0 none 0 0) _ Ta.o.row underlying37 ?qd iL ?qrz
  case qw=>kernel_rfl
  case qo=>exact rfl
  case qhx=>kernel_rfl
  case qd=>exact rfl
  case qrz=>
   (go_wp2_with fail);refine(CB we).mono ?_;rintro e wf ⟨rfl,hb⟩;have Ua:=Fa.t hb;go_wp2;exact m7 (v:=.tuple #[.iface 161 (.agg (de l' id s' p1 p2 p3 p4 a1 n1 c1 a2 n2 c2 a3 n3 c3 a4 n4 c4).toArray),.bool ob]) (by simp[results,results37,go_sem]) rfl ⟨by simp,Ua.o⟩
set_option maxRecDepth 10000 in
theorem jC(id s' l' tr m0 I J Q V T Y Z L U A B t1 t2 p1 p2 p3 p4:Int)(ob:Bool)(CB:∀W,Rt 92 #[.agg #[.int .i64 1,.int .i64 id,.int .i64 0,.int .i64 l',.int .i64 0,.int .i64 0,.int .i64 0,.int .i64 0,.int .i64 0,.int .i64 0,.int .i64 0,.int .i64 0,.int .i64 0,.int .i64 0,.int .i64 0,.int .i64 0,.int .i64 0,.int .i64 0,.int .i64 0,.int .i64 p1,.int .i64 p2,.int .i64 p3,.int .i64 p4,.slice a1 n1 c1,.slice a2 n2 c2,.slice a3 n3 c3,.slice a4 n4 c4]] W (.bool ob))(w:World):
  Rt 37 #[.agg #[.int .i64 1,.int .i64 id,.int .i64 s',.int .i64 l',.int .i64 tr,.int .i64 m0,.int .i64 I,.int .i64 J,.int .i64 Q,.int .i64 V,.int .i64 T,.int .i64 Y,.int .i64 Z,.int .i64 L,.int .i64 U,.int .i64 A,.int .i64 B,.int .i64 t1,.int .i64 t2,.int .i64 p1,.int .i64 p2,.int .i64 p3,.int .i64 p4,.slice a1 n1 c1,.slice a2 n2 c2,.slice a3 n3 c3,.slice a4 n4 c4]] w (.tuple #[.iface 157 (.agg #[.int .i64 m0,.int .i64 I,.int .i64 J,.int .i64 Q,.int .i64 V,.int .i64 T,.int .i64 Y,.int .i64 Z,.int .i64 L,.int .i64 U,.int .i64 A,.int .i64 B,.int .i64 t1,.int .i64 t2,.int .i64 s',.int .i64 tr]),.bool ((M.Mc.ok ⟨⟨m0,I,J,Q,V,T⟩,⟨Y,Z,L,U,A,B⟩⟩&&(M.sOk (t1,t2)&&(M.rows s'&&M.inB tr 1 8)))&&ob)]):=by
 have CF:=ik m0 I J Q V T Y Z L U A B t1 t2 s' tr;generalize(M.Mc.ok ⟨⟨m0,I,J,Q,V,T⟩,⟨Y,Z,L,U,A,B⟩⟩&&(M.sOk (t1,t2)&&(M.rows s'&&M.inB tr 1 8)))=of at *;have hm:=fun(uz:Nat) (w:World)=>(show(method (uz+1) 157 (.agg (eE m0 I J Q V T Y Z L U A B t1 t2 s' tr).toArray) "loop.example/g00319/impl.formOk").run prog w=.ok (325,.agg (eE m0 I J Q V T Y Z L U A B t1 t2 s' tr).toArray) w by kernel_rfl)
 have HB:H9 (m1 w (w.alloc (.cells (bG 1 id s' l' tr m0 I J Q V T Y Z L U A B t1 t2 p1 p2 p3 p4 a1 n1 c1 a2 n2 c2 a3 n3 c3 a4 n4 c4).toArray 37))):=(m5 _ _).alloc (m3 _) _;have HA:=ct w (bG 1 id s' l' tr m0 I J Q V T Y Z L U A B t1 t2 p1 p2 p3 p4 a1 n1 c1 a2 n2 c2 a3 n3 c3 a4 n4 c4) 37;go_enter func37,ntmps37;(go_wp2_with(with_reducible refine aA 6 ?_ ?_;rfl));refine fE 37 w.heap.size 0 (bG 1 id s' l' tr m0 I J Q V T Y Z L U A B t1 t2 p1 p2 p3 p4 a1 n1 c1 a2 n2 c2 a3 n3 c3 a4 n4 c4) HA.o.row underlying37 ⟨rfl,rfl,by kernel_rfl,_,rfl,by kernel_rfl⟩ ?_;(go_wp2_with(with_reducible refine aA 5 ?_ ?_;rfl));generalize(w.alloc (.cells (bG 1 id s' l' tr m0 I J Q V T Y Z L U A B t1 t2 p1 p2 p3 p4 a1 n1 c1 a2 n2 c2 a3 n3 c3 a4 n4 c4).toArray 37))=wa at *;refine sn 37 (bM 0).toArray ⟨rfl,rfl,by kernel_rfl⟩ ?_;have Ra:=HA.o.2.2;have Ca:=(m5 wa.heap.size wa).alloc (m3 _) (.cells (bM 0).toArray 37);have Ga:=HB.t Ca;have Sa:=HA.b Ca;have Da:=ct wa (bM 0) 37;generalize(wa.alloc (.cells (bM 0).toArray 37))=wb at *;clear Ca HB HA;generalize wa.heap.size=pb at Ra Da ⊢;(go_wp2_with(with_reducible refine aF ?_ ?_;rfl));refine fq 37 pb 0 (bG 1 id s' l' tr m0 I J Q V T Y Z L U A B t1 t2 p1 p2 p3 p4 a1 n1 c1 a2 n2 c2 a3 n3 c3 a4 n4 c4) (Da.o.there 0 27 (by simp)) ⟨rfl,by kernel_rfl,by kernel_rfl,_,_,rfl,by kernel_rfl,by kernel_rfl⟩ ?_;have Aa:=cm wb pb 0 (bG 1 id s' l' tr m0 I J Q V T Y Z L U A B t1 t2 p1 p2 p3 p4 a1 n1 c1 a2 n2 c2 a3 n3 c3 a4 n4 c4);have Ha:=Hd (Ga.o.trans (ap Aa Ga.o.size (fun z e=>by have:=m2 e;omega)));have Ba:=Hd (Sa.o.grown Aa (fun e=>by have:=m2 e;omega));have Ia:H9 (au (wb.setCells pb 0 (bG 1 id s' l' tr m0 I J Q V T Y Z L U A B t1 t2 p1 p2 p3 p4 a1 n1 c1 a2 n2 c2 a3 n3 c3 a4 n4 c4)) pb (bG 1 id s' l' tr m0 I J Q V T Y Z L U A B t1 t2 p1 p2 p3 p4 a1 n1 c1 a2 n2 c2 a3 n3 c3 a4 n4 c4)):=Da.o.setCells (bG 1 id s' l' tr m0 I J Q V T Y Z L U A B t1 t2 p1 p2 p3 p4 a1 n1 c1 a2 n2 c2 a3 n3 c3 a4 n4 c4) 0 (by simp);generalize wb.setCells pb 0 (bG 1 id s' l' tr m0 I J Q V T Y Z L U A B t1 t2 p1 p2 p3 p4 a1 n1 c1 a2 n2 c2 a3 n3 c3 a4 n4 c4)=wc at *;have x0:=Ba.c 0;have x2:=Ba.c 2;have x4:=Ba.c 4;have Ta:=Ba.c 17;have Ua:=Ba.c 18;(go_wp2_with(with_reducible refine aA 12 ?_ ?_;rfl));refine fE 31 w.heap.size 5 (co m0 I J Q V T Y Z L U A B) (Ba.o.mid 5 12) underlying31 ⟨rfl,rfl,by kernel_rfl,_,rfl,by kernel_rfl⟩ ?_;(go_wp2_with(with_reducible refine aF ?_ ?_;rfl));refine fq 31 pb 5 (iQ 0 0 0 0 0 0) (Ia.o.there 5 12 (by simp)) ⟨rfl,by kernel_rfl,by kernel_rfl,_,_,rfl,by kernel_rfl,by kernel_rfl⟩ ?_;have Aa:=cm wc pb 5 (iQ 0 0 0 0 0 0);have Ja:H9 (au (wc.setCells pb 5 (iQ 0 0 0 0 0 0)) pb [it 1,it id,it s',it l',it tr,it 0,it 0,it 0,it 0,it 0,it 0,it 0,it 0,it 0,it 0,it 0,it 0,it t1,it t2,it p1,it p2,it p3,it p4,.slice a1 n1 c1,.slice a2 n2 c2,.slice a3 n3 c3,.slice a4 n4 c4]):=Ia.o.setCells (iQ 0 0 0 0 0 0) 5 (by simp);have Ka:=Hd (Ha.o.trans (ap Aa Ha.o.size (fun z e=>by have:=m2 e;omega)));clear Ba x0 x2 x4 Ta Ua;generalize(wc.setCells pb 5 (iQ 0 0 0 0 0 0))=w4 at *;(go_wp2_with(with_reducible refine aF ?_ ?_;rfl));refine fq 33 pb 17 [it 0,it 0] (Ja.o.there 17 2 (by simp)) ⟨rfl,by kernel_rfl,by kernel_rfl,_,_,rfl,by kernel_rfl,by kernel_rfl⟩ ?_;have Aa:=cm w4 pb 17 [it 0,it 0];have La:H9 (au (w4.setCells pb 17 [it 0,it 0]) pb [it 1,it id,it s',it l',it tr,it 0,it 0,it 0,it 0,it 0,it 0,it 0,it 0,it 0,it 0,it 0,it 0,it 0,it 0,it p1,it p2,it p3,it p4,.slice a1 n1 c1,.slice a2 n2 c2,.slice a3 n3 c3,.slice a4 n4 c4]):=Ja.o.setCells [it 0,it 0] 17 (by simp);have Na:=Hd (Ka.o.trans (ap Aa Ka.o.size (fun z e=>by have:=m2 e;omega)));generalize(w4.setCells pb 17 [it 0,it 0])=w5 at *;(go_wp2_with(with_reducible refine aF ?_ ?_;rfl));refine mO 2 pb 2 (it 0) (La.o.there 2 1 (by simp)) ⟨rfl,rfl,rfl,by kernel_rfl,_,_,rfl,by kernel_rfl,by kernel_rfl⟩ ?_;have Aa:=cm w5 pb 2 [it 0];have Oa:H9 (au (w5.setCells pb 2 [it 0]) pb [it 1,it id,it 0,it l',it tr,it 0,it 0,it 0,it 0,it 0,it 0,it 0,it 0,it 0,it 0,it 0,it 0,it 0,it 0,it p1,it p2,it p3,it p4,.slice a1 n1 c1,.slice a2 n2 c2,.slice a3 n3 c3,.slice a4 n4 c4]):=La.o.setCells [it 0] 2 (by simp);have Pa:=Hd (Na.o.trans (ap Aa Na.o.size (fun z e=>by have:=m2 e;omega)));generalize(w5.setCells pb 2 [it 0])=w6 at *;(go_wp2_with(with_reducible refine aF ?_ ?_;rfl));refine mO 2 pb 4 (it 0) (Oa.o.there 4 1 (by simp)) ⟨rfl,rfl,rfl,by kernel_rfl,_,_,rfl,by kernel_rfl,by kernel_rfl⟩ ?_;have Aa:=cm w6 pb 4 [it 0];have Qa:H9 (au (w6.setCells pb 4 [it 0]) pb (bG 1 id 0 l' 0 0 0 0 0 0 0 0 0 0 0 0 0 0 0 p1 p2 p3 p4 a1 n1 c1 a2 n2 c2 a3 n3 c3 a4 n4 c4)):=Oa.o.setCells [it 0] 4 (by simp);have Ea:=Hd (Pa.o.trans (ap Aa Pa.o.size (fun z e=>by have:=m2 e;omega)));generalize(w6.setCells pb 4 [it 0])=w7 at *;(go_wp2_with fail);refine(CF w7).mono ?_;rintro e we ⟨rfl,hb⟩;have Va:=Qa.b hb;have Fa:=Ea.t hb;clear hb Qa Ea CF
 cases of with
 | false=>
  go_wp2;exact m7 (v:=.tuple #[.iface 157 (.agg (eE m0 I J Q V T Y Z L U A B t1 t2 s' tr).toArray),.bool false]) (by simp[results,results37,go_sem]) rfl ⟨rfl,Fa.o⟩
 | true=>
  dsimp only;rename_i hk;refine hk _ _ ?_;with_reducible refine cn ?qg (.bool true) we ?qrun ?_
  case qg=>exact rfl
  case qrun=>kernel_rfl
  show wpList _ _ _ _ _ _;have iL:(prog.info? 37).map (·.size)=some ((bG 1 id 0 l' 0 0 0 0 0 0 0 0 0 0 0 0 0 0 0 p1 p2 p3 p4 a1 n1 c1 a2 n2 c2 a3 n3 c3 a4 n4 c4):List Value).length:=(show(prog.info? 37).map (·.size)=some 27 by kernel_rfl);with_reducible refine bK ?qw 37 ?qlw ?qo pb 0 ?qhx (bG 1 id 0 l' 0 0 0 0 0 0 0 0 0 0 0 0 0 0 0 p1 p2 p3 p4 a1 n1 c1 a2 n2 c2 a3 n3 c3 a4 n4 c4) _ Va.o.row underlying37 ?qd iL ?qrz
  case qw=>kernel_rfl
  case qo=>exact rfl
  case qhx=>kernel_rfl
  case qd=>exact rfl
  case qrz=>
   (go_wp2_with fail);refine(CB we).mono ?_;rintro e wf ⟨rfl,hb⟩;have Wa:=Fa.t hb;go_wp2;exact m7 (v:=.tuple #[.iface 157 (.agg (eE m0 I J Q V T Y Z L U A B t1 t2 s' tr).toArray),.bool ob]) (by simp[results,results37,go_sem]) rfl ⟨by simp,Wa.o⟩
set_option maxRecDepth 10000 in
theorem pT(t' id s' l' tr m0 I J Q V T Y Z L U A B t1 t2 p1 p2 p3 p4:Int)(hk:t'<1∨5<t')(w:World):
  Rt 37 #[.agg #[.int .i64 t',.int .i64 id,.int .i64 s',.int .i64 l',.int .i64 tr,.int .i64 m0,.int .i64 I,.int .i64 J,.int .i64 Q,.int .i64 V,.int .i64 T,.int .i64 Y,.int .i64 Z,.int .i64 L,.int .i64 U,.int .i64 A,.int .i64 B,.int .i64 t1,.int .i64 t2,.int .i64 p1,.int .i64 p2,.int .i64 p3,.int .i64 p4,.slice a1 n1 c1,.slice a2 n2 c2,.slice a3 n3 c3,.slice a4 n4 c4]] w (.tuple #[.nilIface,.bool false]):=by
 have g1:(t'==1)=false:=(by simp;omega);have g2:(t'==2)=false:=(by simp;omega);have g3:(t'==3)=false:=(by simp;omega);have g4:(t'==4)=false:=(by simp;omega);have g5:(t'==5)=false:=(by simp;omega);have HB:H9 (m1 w (w.alloc (.cells (bG t' id s' l' tr m0 I J Q V T Y Z L U A B t1 t2 p1 p2 p3 p4 a1 n1 c1 a2 n2 c2 a3 n3 c3 a4 n4 c4).toArray 37))):=(m5 _ _).alloc (m3 _) _;have HA:=ct w (bG t' id s' l' tr m0 I J Q V T Y Z L U A B t1 t2 p1 p2 p3 p4 a1 n1 c1 a2 n2 c2 a3 n3 c3 a4 n4 c4) 37;go_enter func37,ntmps37;(go_wp2_with(with_reducible refine aA 6 ?_ ?_;rfl));refine fE 37 w.heap.size 0 (bG t' id s' l' tr m0 I J Q V T Y Z L U A B t1 t2 p1 p2 p3 p4 a1 n1 c1 a2 n2 c2 a3 n3 c3 a4 n4 c4) HA.o.row underlying37 ⟨rfl,rfl,by kernel_rfl,_,rfl,by kernel_rfl⟩ ?_;(go_wp2_with(with_reducible refine aA 5 ?_ ?_;rfl));generalize(w.alloc (.cells (bG t' id s' l' tr m0 I J Q V T Y Z L U A B t1 t2 p1 p2 p3 p4 a1 n1 c1 a2 n2 c2 a3 n3 c3 a4 n4 c4).toArray 37))=wa at *;refine sn 37 (bM 0).toArray ⟨rfl,rfl,by kernel_rfl⟩ ?_;have Ea:=HA.o.2.2;have Aa:=(m5 wa.heap.size wa).alloc (m3 _) (.cells (bM 0).toArray 37);have Ba:=HB.t Aa;have Fa:=HA.b Aa;have Ca:=ct wa (bM 0) 37;generalize(wa.alloc (.cells (bM 0).toArray 37))=wb at *;clear Aa HB HA;generalize wa.heap.size=pb at Ea Ca ⊢;(go_wp2_with(with_reducible refine aF ?_ ?_;rfl));refine fq 37 pb 0 (bG t' id s' l' tr m0 I J Q V T Y Z L U A B t1 t2 p1 p2 p3 p4 a1 n1 c1 a2 n2 c2 a3 n3 c3 a4 n4 c4) (Ca.o.there 0 27 (by simp)) ⟨rfl,by kernel_rfl,by kernel_rfl,_,_,rfl,by kernel_rfl,by kernel_rfl⟩ ?_;have Da:=cm wb pb 0 (bG t' id s' l' tr m0 I J Q V T Y Z L U A B t1 t2 p1 p2 p3 p4 a1 n1 c1 a2 n2 c2 a3 n3 c3 a4 n4 c4);have Ga:=Hd (Ba.o.trans (ap Da Ba.o.size (fun z e=>by have:=m2 e;omega)));have Ha:=Hd (Fa.o.grown Da (fun e=>by have:=m2 e;omega));generalize wb.setCells pb 0 (bG t' id s' l' tr m0 I J Q V T Y Z L U A B t1 t2 p1 p2 p3 p4 a1 n1 c1 a2 n2 c2 a3 n3 c3 a4 n4 c4)=wc at *;have x0:=Ha.c 0;go_wp2;exact m7 (v:=.tuple #[.nilIface,.bool false]) (by simp[results,results37,go_sem]) rfl ⟨rfl,Ga.o⟩
def HJ.mq(q:HJ):MQ:=(q.j,q.a,q.c)
theorem up(qs:List HJ):(qs.map HJ.mq).map (·.1)=qs.map (fun q:HJ=>q.j):=by rw[List.map_map];rfl
theorem tS(qs:List HJ):∀g,g∈((qs.map HJ.mq).flatMap fun q=>ob q.2.1)→g∈qs.flatMap HJ.bl:=by
 intro g hg;obtain⟨q,hq,hg⟩:=uO.1 hg;obtain⟨q',hq',rfl⟩:=List.mem_map.1 hq;exact uO.2 ⟨q',hq',by unfold HJ.bl;exact List.mem_cons_of_mem _ hg⟩
set_option maxRecDepth 10000 in
theorem kj{i' h:Nat}{now uB:Int}{ab:Option Addr}{nb cb:Nat}{bs:List Int}{ai:Option Addr}{ni ci:Nat}{mb:Nat}{qs:List HJ}(w:World)(H:bh w i' h now uB ab nb cb bs ai ni ci mb qs)(hr:(qs.map (fun q:HJ=>q.j.id)).Pairwise (·< ·))(hni:ni≤1000)(uy:i'≤w.heap.size):
  Calls prog 38 #[.pointer (some ⟨h,0,none⟩)] w fun e w'=>∃aj nj cj qm,e=.returned (.agg #[.int .i64 now,.int .i64 uB,.slice ab nb cb,.slice aj nj cj])∧aV w' i' ab nb cb bs aj nj cj qm∧qm.map (·.1)=qs.map (fun q:HJ=>q.j)∧m1 w w':=by
 have HRi:=Hd hr;have hnq:=H.count;have bn:(ni:Int)≤9223372036854775807:=(by omega);have hcI:(ni:Int)≤ci:=(by have:=H.i.sees.le;omega);have HLT:=Hd H.lt;have HB0:H9 (m1 w (w.alloc (.cells #[.int .i64 0,.int .i64 0,.slice none 0 0,.slice none 0 0] 27))):=(m5 _ _).alloc (m3 _) _;have HZ0:H9 (au (w.alloc (.cells #[.int .i64 0,.int .i64 0,.slice none 0 0,.slice none 0 0] 27)) w.heap.size [.int .i64 0,.int .i64 0,.slice none 0 0,.slice none 0 0]):=aO _ _ _;have HG0:=Hd (H.below HB0.o);have HS0:H9 ((w.alloc (.cells #[.int .i64 0,.int .i64 0,.slice none 0 0,.slice none 0 0] 27)).heap.size=w.heap.size+1):=(by show _=_;simp);have x3:=HG0.o.l.c 3;obtain⟨i0,hi,hz0,hz1,hz2⟩:=info_parts fg;go_enter func38,ntmps38;(go_wp2_with(at_make;refine wpList_make_own _ rfl _ _ 25 rfl i' 45 i0 (.agg #[.int .i64 0,.int .i64 0,.int .i64 0,.int .i64 0,.int .i64 0,.int .i64 0,.int .i64 0,.int .i64 0,.int .i64 0,.int .i64 0,.int .i64 0,.int .i64 0,.int .i64 0,.int .i64 0,.int .i64 0,.int .i64 0,.bool false,.slice none 0 0]) 18 underlying25 hi hz0 hz1 .i64 .i64 _ ni rfl rfl rfl (by rw[hz2];omega) (by unfold maxLen;omega) (by have:=HS0.o;omega) ?_));intro w1 hown hg;have HO1:=Hd hown;have hb1:Below (w.alloc (.cells #[.int .i64 0,.int .i64 0,.slice none 0 0,.slice none 0 0] 27)).heap.size (w.alloc (.cells #[.int .i64 0,.int .i64 0,.slice none 0 0,.slice none 0 0] 27)) w1:=ap hg (m3 _) (fun z e=>by simp at e);have HB1:=HB0.t hb1;have HZ1:=HZ0.b hb1;have HG1:=Hd (HG0.o.below hb1);have y3:=HG1.o.l.c 3;(go_wp2_with fail);have HM1:H9 (aV w1 i' ab nb cb bs (some ⟨w.heap.size+1,0,none⟩) 0 ni []):=⟨HG1.o.b,rfl,HO1.o,fun q hq=>by simp at hq,cK.2 ⟨fun g hg=>⟨fun e=>by simp[ob]at e;have:=HLT.o g (by simp[di,hg]);omega,by simp⟩,fun g _=>by simp,by simp⟩⟩;have HA1:H9 (∀g∈ob (some (⟨w.heap.size+1,0,none⟩:Addr)),w.heap.size<g):=fun g hg=>by simp[ob]at hg;omega
 clear HO1
 go_loopw [3,17] (fun s i wr=>∃(k:Nat) (aj:Option Addr) (cj:Nat),k≤ni∧i=.int .i64 k∧s=.slice aj k cj∧aV wr i' ab nb cb bs aj k cj ((qs.take k).map HJ.mq)∧(∀g∈ob aj,w.heap.size<g)∧bh wr i' h now uB ab nb cb bs ai ni ci mb qs∧au wr w.heap.size [.int .i64 0,.int .i64 0,.slice none 0 0,.slice none 0 0]∧m1 w wr) (fun _ i _=>ni-(intOf i).toNat)
 case atStart=>exact⟨0,_,_,by omega,rfl,rfl,HM1.o,HA1.o,HG1.o,HZ1.o,HB1.o⟩
 case round=>
  clear HM1 HA1 HG1 HZ1 HB1;obtain⟨k,aj,cj,hk,rfl,rfl,hm,ha,hh,hz,hb⟩:=hrel;by_cases hlt:k<ni
  ·
   obtain⟨b1,o1,rfl,hc1⟩:=hh.i.sees.at (by omega);have c1:=hc1 k hlt;rw[mr (by omega)]at c1;have hlk:=mD HRi.o (i:=k) (by omega);obtain⟨hq1,hq2⟩:=hh.j _ (dg (i:=k) (by omega));have hrun:=hh.m.get (P:=prog) (t:=111) underlying111 underlying2 _ _ hlk false;simp only[Bool.false_eq_true,if_false]at hrun;have h4:=hh.l.c 4;have htk:(qs.take (k+1)).map HJ.mq=(qs.take k).map HJ.mq++[(qs.getD k df).mq]:=by rw[List.take_add_one,m4,m6 (by omega),uX];rfl
   have hqd:∀g∈ob (qs.getD k df).a,g∉bY ab aj ((qs.take k).map HJ.mq):=by
    intro g hg hm2;obtain⟨⟨_,_,_,_⟩,_,dab,_,djs⟩:=bT.1 hh.d;have hin:g∈qs.flatMap HJ.bl:=uO.2 ⟨_,dg (i:=k) (by omega),by unfold HJ.bl;exact List.mem_cons_of_mem _ hg⟩;unfold bY at hm2;simp only[uG]at hm2
    rcases hm2 with e | e | e
    ·exact(dab g e).2 hin
    ·
     have h1:=ha g e;have h2:=HLT.o g (by unfold di;simp only[List.mem_cons,uG];exact .inr (.inr (.inr (.inr hin))));omega
    ·
     have e2:=tS _ g e;rw[←List.take_append_drop k qs,List.flatMap_append,List.nodup_append]at djs;refine djs.2.2 g e2 g ?_ rfl;rw[aY df hnq hlt,uY];exact uG.2 (.inl (by unfold HJ.bl;exact List.mem_cons_of_mem _ hg))
   have HMk:=Hd hm;have HAk:=Hd ha;have HHk:=Hd hh;have HZk:=Hd hz;have HBk:=Hd hb;have hkI:(k:Int)<(ni:Int):=(by omega);have hkl:=hm.jl;clear hc1 hlk hm ha hh hz hb;generalize qs.getD k df=q at htk hqd hq1 hq2 hrun c1;obtain⟨⟨jid,⟨⟨e1,e2,e3,e4,e5,e6⟩,⟨e7,e8,e9,e10,e11,e12⟩⟩,⟨t1,t2⟩,jr,jg,tl⟩,qb,qa,qc⟩:=q;dsimp only[HJ.vs,eN]at hq1 hq2 hrun c1 hqd;generalize htl:tl.length=tn at hq1 hq2;have HTL:=Hd htl;have HTK:H9 ((qs.take (k+1)).map HJ.mq=(qs.take k).map HJ.mq++[(⟨jid,⟨⟨e1,e2,e3,e4,e5,e6⟩,⟨e7,e8,e9,e10,e11,e12⟩⟩,(t1,t2),jr,jg,tl⟩,qa,qc)]):=htk;have HQD:=Hd hqd;have HQ1:=Hd hq1;have HQ2:=Hd hq2;(go_wp2_with(with_reducible refine aA 29 ?_ ?_;rfl));refine fE 45 qb 0 [.int .i64 jid,.int .i64 e1,.int .i64 e2,.int .i64 e3,.int .i64 e4,.int .i64 e5,.int .i64 e6,.int .i64 e7,.int .i64 e8,.int .i64 e9,.int .i64 e10,.int .i64 e11,.int .i64 e12,.int .i64 t1,.int .i64 t2,.int .i64 jr,.bool jg,.slice qa tn qc] HQ1.o.row underlying45 ⟨rfl,rfl,by kernel_rfl,_,rfl,rfl⟩ ?_;(go_wp2_with(with_reducible refine aA 31 ?_ ?_;rfl));show wpList _ _ _ _ _ _;have hba:m1 wr (wr.alloc (.cells #[.int .i64 jid,.int .i64 e1,.int .i64 e2,.int .i64 e3,.int .i64 e4,.int .i64 e5,.int .i64 e6,.int .i64 e7,.int .i64 e8,.int .i64 e9,.int .i64 e10,.int .i64 e11,.int .i64 e12,.int .i64 t1,.int .i64 t2,.int .i64 jr,.bool jg,.slice qa tn qc] 45)):=(m5 _ _).alloc (m3 _) _;have HMn:=Hd (HMk.o.below hba);have HTn:=Hd (HQ2.o.grown (bv hba none) (fun _ _=>by simp));have HHn:=Hd (HHk.o.below hba);have HZn:=HZk.b hba;have HBn:=HBk.t hba;have HLn:H9 (au (wr.alloc (.cells #[.int .i64 jid,.int .i64 e1,.int .i64 e2,.int .i64 e3,.int .i64 e4,.int .i64 e5,.int .i64 e6,.int .i64 e7,.int .i64 e8,.int .i64 e9,.int .i64 e10,.int .i64 e11,.int .i64 e12,.int .i64 t1,.int .i64 t2,.int .i64 jr,.bool jg,.slice qa tn qc] 45)) wr.heap.size [.int .i64 jid,.int .i64 e1,.int .i64 e2,.int .i64 e3,.int .i64 e4,.int .i64 e5,.int .i64 e6,.int .i64 e7,.int .i64 e8,.int .i64 e9,.int .i64 e10,.int .i64 e11,.int .i64 e12,.int .i64 t1,.int .i64 t2,.int .i64 jr,.bool jg,.slice qa tn qc]):=aO _ _ _;have HRW:=Hd HBk.o.size;generalize(wr.alloc (.cells #[.int .i64 jid,.int .i64 e1,.int .i64 e2,.int .i64 e3,.int .i64 e4,.int .i64 e5,.int .i64 e6,.int .i64 e7,.int .i64 e8,.int .i64 e9,.int .i64 e10,.int .i64 e11,.int .i64 e12,.int .i64 t1,.int .i64 t2,.int .i64 jr,.bool jg,.slice qa tn qc] 45))=wn at *;generalize wr.heap.size=jb at HLn HRW ⊢;clear hba HMk HQ2 HHk HZk HBk HQ1;obtain⟨i0,hi,hz0,hz1,hz2⟩:=info_parts fg;refine wpList_append_own_at _ rfl _ _ 25 rfl i' 45 i0 (.agg #[.int .i64 0,.int .i64 0,.int .i64 0,.int .i64 0,.int .i64 0,.int .i64 0,.int .i64 0,.int .i64 0,.int .i64 0,.int .i64 0,.int .i64 0,.int .i64 0,.int .i64 0,.int .i64 0,.int .i64 0,.int .i64 0,.bool false,.slice none 0 0]) 18 160 underlying25 hi hz0 hz1 hz2 rfl (by decide) _ k (((qs.take k).map HJ.mq).flatMap iG) rfl HMn.o.j ⟨jb,0,none⟩ 1 1 [.int .i64 jid,.int .i64 e1,.int .i64 e2,.int .i64 e3,.int .i64 e4,.int .i64 e5,.int .i64 e6,.int .i64 e7,.int .i64 e8,.int .i64 e9,.int .i64 e10,.int .i64 e11,.int .i64 e12,.int .i64 t1,.int .i64 t2,.int .i64 jr,.bool jg,.slice qa tn qc] rfl rfl (gv HLn.o) (by have h1:=mA ⟨jid,⟨⟨e1,e2,e3,e4,e5,e6⟩,⟨e7,e8,e9,e10,e11,e12⟩⟩,(t1,t2),jr,jg,tl⟩ qa qc;dsimp only[eN]at h1;rw[HTL.o]at h1;exact h1) (by unfold maxLen;omega) (by omega) (m8 uy HBn.o.size) ?_;intro v' w8 hown hgrow _ hat;obtain⟨aj2,cj2,rfl⟩:=iM hown;have hjr:[.int .i64 jid,.int .i64 e1,.int .i64 e2,.int .i64 e3,.int .i64 e4,.int .i64 e5,.int .i64 e6,.int .i64 e7,.int .i64 e8,.int .i64 e9,.int .i64 e10,.int .i64 e11,.int .i64 e12,.int .i64 t1,.int .i64 t2,.int .i64 jr,.bool jg,.slice qa tn qc]=iG (⟨jid,⟨⟨e1,e2,e3,e4,e5,e6⟩,⟨e7,e8,e9,e10,e11,e12⟩⟩,(t1,t2),jr,jg,tl⟩,qa,qc):=(by dsimp only[iG,eN];rw[HTL.o]);rw[hjr]at hown;obtain⟨hP,_⟩:=HMn.o.push (⟨jid,⟨⟨e1,e2,e3,e4,e5,e6⟩,⟨e7,e8,e9,e10,e11,e12⟩⟩,(t1,t2),jr,jg,tl⟩,qa,qc) (by show bw _ _ _ tl.length _ _;rw[HTL.o];exact HTn.o) HQD.o hgrow hown (m3 _) hat;have hlow:∀z,(Value.slice aj k cj).ownBlock=some z→w.heap.size<z:=fun z e=>HAk.o z (bq e);have HP8:H9 (aV w8 i' ab nb cb bs aj2 (k+1) cj2 ((qs.take (k+1)).map HJ.mq)):=(by show aV _ _ _ _ _ _ _ _ _ _;rw[HTK.o];exact hP);have HZ8:=Hd (HZn.o.grown hgrow (fun e=>by have:=hlow _ e;omega));have HH8:=Hd (HHn.o.grown hgrow (fun g hg e=>by have:=hlow _ e;have:=HLT.o g hg;omega));have HB8:=Hd (HBn.o.trans (ap hgrow HBn.o.size (fun z e=>Nat.le_of_lt (hlow z e))))
   have HA8:H9 (∀g∈ob aj2,w.heap.size<g):=fun g hg=>by
    have e:=cv (n:=k+1) (c:=cj2) hg
    rcases hat with e2 | e2
    ·exact hlow g (e2.symm.trans e)
    ·rw[e2]at e;have e:=m2 e;have:=HLn.o.2.2;have:=HRW.o;omega
   go_wp2;go_roundw
   case rel=>exact⟨k+1,aj2,cj2,by omega,by go_num,rfl,HP8.o,HA8.o,HH8.o,HZ8.o,HB8.o⟩
   case measure=>simp[intOf];omega
  ·
   have hke:k=ni:=(by omega);have HMf:H9 (aV wr i' ab nb cb bs aj k cj (qs.map HJ.mq)):=(by show aV _ _ _ _ _ _ _ _ _ _;rw[uD (by omega)]at hm;exact hm);have HAf:=Hd ha;have HHf:=Hd hh;have HZf:=Hd hz;have HBf:=Hd hb;clear hm ha hh hz hb;subst hke;have hkI:¬ (k:Int)<(k:Int):=(by omega);have x0:=HHf.o.l.c 0;have x1:=HHf.o.l.c 1;have x2:=HHf.o.l.c 2;have r0:=HZf.c 0;have fr0:=HZf.o.fr 0;have r1:=HZf.c 1;have fr1:=HZf.o.fr 1;have r2:=HZf.c 2;have fr2:=HZf.o.fr 2;have r3:=HZf.c 3;have fr3:=HZf.o.fr 3;(go_wp2_with fail);apply eV
   case f=>
    intro key
    go_region_law (fail)
    all_goals exact key.out
   case h=>
    go_wp2;show bodyPost _ _ _ _ _ (wr.setCells w.heap.size 0 [.int .i64 now,.int .i64 uB,.slice ab nb cb,.slice aj k cj]).drew;have hgf:wr.grownBy (wr.setCells w.heap.size 0 [.int .i64 now,.int .i64 uB,.slice ab nb cb,.slice aj k cj]).drew (some w.heap.size):=(a8 (World.grownBy.refl _ _) 0 _).trans (cU _ _);have hLf:au (wr.setCells w.heap.size 0 [.int .i64 now,.int .i64 uB,.slice ab nb cb,.slice aj k cj]).drew w.heap.size [.int .i64 now,.int .i64 uB,.slice ab nb cb,.slice aj k cj]:=(HZf.o.setCells [.int .i64 now,.int .i64 uB,.slice ab nb cb,.slice aj k cj] 0 (by simp)).belowS (m5 _ _).drew
    have hMf:=HMf.o.grown hgf (fun g hg e=>by
     have he:=m2 e;unfold bY at hg;simp only[uG]at hg
     rcases hg with hg | hg | hg
     ·have:=HLT.o g (by simp[di,hg]);omega
     ·have:=HAf.o g hg;omega
     ·have:=HLT.o g (by unfold di;simp only[List.mem_cons,uG];exact .inr (.inr (.inr (.inr (tS _ g hg)))));omega)
    have hBf:=HBf.o.trans (ap hgf HBf.o.size (fun z e=>by have:=m2 e;omega));generalize(wr.setCells w.heap.size 0 [.int .i64 now,.int .i64 uB,.slice ab nb cb,.slice aj k cj]).drew=wf at *;exact m7 (aS rfl rfl (uN wf w.heap.size 0 27 _ _ hLf.row underlying27 rfl (by kernel_rfl))) rfl ⟨aj,k,cj,_,rfl,hMf,up qs,hBf⟩
end Go.Proofs.YtjcjonncaknhnaaGreatDoor
