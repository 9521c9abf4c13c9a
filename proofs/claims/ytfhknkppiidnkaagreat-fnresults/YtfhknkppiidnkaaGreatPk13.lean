import Derived.Test.YtfhknkppiidnkaaGreatPk00
import Derived.Test.YtfhknkppiidnkaaGreatPk01
import Derived.Test.YtfhknkppiidnkaaGreatPk03
import Derived.Test.YtfhknkppiidnkaaGreatPk12
namespace Go.Proofs.YtfhknkppiidnkaaGreat
open Go.RowKit
set_option maxHeartbeats 32000000
set_option maxRecDepth 10000
set_option maxRecDepth 100000 in
def mkxC : Cut2 (mkxB.p∧mkxB.q):=by
 apply Cut2.mk
 case h =>
 intro key1 key2;refine ⟨?tax,?tbx⟩
 case' tax=>(intro ab cb nj cj bs js now next w hlen bnj hcj HI R mkx2z1 w1 HB0 C1 C2 now0 now1 next0 next1 h6 h6I mkx2z2 SJ mkx2z3 mkx2z4 u32 u33 u34 u35 u36 u37 u38 u39 u40 u41 u42 u43 u44 u45 u46 u47 u48 u49 u50 u51 u52 u53 u54 u55 u56 u57 u58 u59 u60 u61 u62 u63 q l hlb bnb hcb h9 h9I mkx2z5 hq mkx2z6 mkx2z8 mkx2z10 mkx2z11 we eb wr u2 u6 u7 u8 u9 u65 u66 u67 u68 u69 u70 u71 u72 u73 u74 u75 u76 u77 u78 u79 u80 u81 u82 u83 u84 u85 u86 u87 u88 u89 u90 u91 u92 u93 u94 u95 u96 u97 u98 u99 u100 u101 u102 u103 u104 u105 u106 u107 u108 u109 u110 u111 u112 u113 u114 u115 u116 u117 u118 u119 u120 u121 u122 u123 u124 u125 u126 u127 u128 u129 u130 u131 u132 u133 u134 u135 u136 u137 u138 u139 u140 u141 u142 u143 u144 u145 u146 u147 u148 u149 u150 u151 u152 u153 u154 u155 u156 u157 u158 u159 u160 u161 u162 u163 u164 u165 u166 u167 u168 u169 u170 u171 u172 u173 u174 u175 u176 u177 u178 u179 u180 u181 u182 u183 u184 u185 u186 u187 j ws hj hws al ml cl hlt b1 o1 HL0 HM0 mkx2z7 mkx2z9 ta tc hjI jid jr jg tl a b c' d f k a' b' c'' d' f' k' s1 s2 tn HT HTL HNI htcI htnb oR CR oS CS oM CM oI C3 HI1 mkx3z1 mkx3z2 mkx3z3 w2 HB_1 HL_1 HO_1 jb HJ_1 hne0 mkx3z4 mkx3z5 mkx3z6 mkx3z7 HG hgt HQ0)
 case' tbx=>(intro ab cb nj cj bs js now next w hlen bnj hcj HI R mkx2z1 w1 HB0 C1 C2 now0 now1 next0 next1 h6 h6I mkx2z2 SJ mkx2z3 mkx2z4 u32 u33 u34 u35 u36 u37 u38 u39 u40 u41 u42 u43 u44 u45 u46 u47 u48 u49 u50 u51 u52 u53 u54 u55 u56 u57 u58 u59 u60 u61 u62 u63 q l hlb bnb hcb h9 h9I mkx2z5 hq mkx2z6 mkx2z8 mkx2z10 mkx2z11 we eb wr u2 u6 u7 u8 u9 u65 u66 u67 u68 u69 u70 u71 u72 u73 u74 u75 u76 u77 u78 u79 u80 u81 u82 u83 u84 u85 u86 u87 u88 u89 u90 u91 u92 u93 u94 u95 u96 u97 u98 u99 u100 u101 u102 u103 u104 u105 u106 u107 u108 u109 u110 u111 u112 u113 u114 u115 u116 u117 u118 u119 u120 u121 u122 u123 u124 u125 u126 u127 u128 u129 u130 u131 u132 u133 u134 u135 u136 u137 u138 u139 u140 u141 u142 u143 u144 u145 u146 u147 u148 u149 u150 u151 u152 u153 u154 u155 u156 u157 u158 u159 u160 u161 u162 u163 u164 u165 u166 u167 u168 u169 u170 u171 u172 u173 u174 u175 u176 u177 u178 u179 u180 u181 u182 u183 u184 u185 u186 u187 j lst ws hj hws al ml cl hlt b1 o1 HL0 HM0 mkx2z7 mkx2z9 ta tc hjI jid jr jg tl a b c' d f k a' b' c'' d' f' k' s1 s2 tn HT HTL HNI htcI htnb oR CR oS CS oM CM oI C3 HI1 HG mkx4z1 mkx4z2 mkx4z3 w2 HB_1 HL_1 HO_1 jb HJ_1 hne0 mkx4z4 mkx4z5 mkx4z6 mkx4z7 p c0 hsb2 hwp hpos hpn hp0 HQP)
 all_goals
  have hX:True:=trivial;clear hX;refine hst' w2 none (by kernel_rfl) fun hHeld=>?_;generalize w2.drew=Ka at hHeld ⊢;have Ga:H9 (Below w2.heap.size w2 Ka):=⟨hHeld.os,hHeld.tape,hHeld.output,hHeld.size,fun k hk=>hHeld.block k hk (by simp)⟩;refine tk 0 (.pointer (some ⟨jb,0,none⟩)) ?_ ?_
  · intro wq Aa;go_simp
  (try simp only [Act.put]);refine tk 1 (it jid) ?_ ?_
  · intro wp Ba;have c0:=(HJ_1.o.grown Ba (by simp)).c 0 rfl;go_simp
  (try simp only [Act.put]);refine rdy' 2 fun Kk hK=>?_;go_simp;refine (C3 _).mono ?_;rintro e wn ⟨rfl,Ha⟩;have La:=Ha.symm;clear Ha;subst La;go_simp;refine hK.out _ _ (by assumption) (fun hHeld1=>?_);clear hK Kk;(try simp only [Act.put]);refine tk 3 (.bool (!oI)) ?_ ?_
  · intro wq Aa;go_simp
  (try simp only [Act.put]);refine tk 4 (.bool (!oI)) ?_ ?_
  · intro wq Aa;go_simp
  try simp only [Act.put]
  cases oI with
  | false =>
   with_reducible refine wpAnyH_finS [5,6,7,8,9,10,11,12,13,14,15,16,17,18,19,20,21,22,23,24,25,26,27,28,29,30,31,32,33,34,35,36,37,38,39,40,41,42,43,44,45,46,47,48,49,50,51,52,53,54,55,56] [(82,undef),(83,undef),(84,undef),(85,undef),(86,undef),(87,.bool true),(88,.bool true),(89,undef),(90,undef),(91,undef),(92,undef),(93,undef),(94,undef),(95,undef),(96,undef),(97,undef),(98,undef),(99,undef),(100,undef),(101,undef),(102,undef),(103,.bool true),(104,.bool true),(105,undef),(106,undef),(107,undef),(108,undef),(109,.bool true),(110,.bool true),(111,undef),(112,undef),(113,undef),(114,undef),(115,.bool true),(116,.bool true),(117,undef),(118,undef),(119,undef),(120,undef),(121,.bool true),(122,.bool true),(123,undef),(124,undef),(125,undef),(126,undef),(127,.bool true),(128,.bool true),(129,undef),(130,undef),(131,undef),(132,undef),(133,.bool true)] ?qs ?qQ ?qS ?qf ?qh ?qk
   case qs=>kernel_rfl
   case qQ=>exact fun _ _ _ _ h=>h
   case qS=>assumption
   case qf=>decide
   case qh=>as_aux_lemma=>kernel_rfl
   case qk =>
    dsimp only [List.foldl];refine NoPanic.normal ?_;go_simp;have HF:H9 (false=R):=(by show _=_;have:=HG.o;simpa using this);have Ca:=Hd (HB0.o.trans ((HB_1.o.trans (Ga.o.mono HB_1.o.size)).mono HB0.o.size));clear HG;go_wp2;go_ret;exact ⟨ret_bool HF.o,Ca.o⟩
  | true =>
   refine tk 5 (.pointer (some ⟨jb,0,none⟩)) ?_ ?_
   · intro wq Aa;go_simp
   (try simp only [Act.put]);refine tk 6 (it jid) ?_ ?_
   · intro wp Ba;have c0:=(HJ_1.o.grown Ba (by simp)).c 0 rfl;go_simp
   (try simp only [Act.put]);refine tk 7 (.pointer (some ⟨w.heap.size,1,none⟩)) ?_ ?_
   · intro wq Aa;go_simp
   (try simp only [Act.put]);refine tk 8 (it next) ?_ ?_
   · intro wp Ba;have c0:=(HL_1.o.grown Ba (by simp)).c 1 rfl;go_simp
   (try simp only [Act.put]);by_cases Oa:next≤jid
   ·
    skip
    refine tk 9 (.bool true) ?_ ?_
    · intro wq Aa;go_simp
    (try simp only [Act.put]);with_reducible refine wpAnyH_finS [10,11,12,13,14,15,16,17,18,19,20,21,22,23,24,25,26,27,28,29,30,31,32,33,34,35,36,37,38,39,40,41,42,43,44,45,46,47,48,49,50,51,52,53,54,55,56] [(87,.bool true),(88,.bool true),(89,undef),(90,undef),(91,undef),(92,undef),(93,undef),(94,undef),(95,undef),(96,undef),(97,undef),(98,undef),(99,undef),(100,undef),(101,undef),(102,undef),(103,.bool true),(104,.bool true),(105,undef),(106,undef),(107,undef),(108,undef),(109,.bool true),(110,.bool true),(111,undef),(112,undef),(113,undef),(114,undef),(115,.bool true),(116,.bool true),(117,undef),(118,undef),(119,undef),(120,undef),(121,.bool true),(122,.bool true),(123,undef),(124,undef),(125,undef),(126,undef),(127,.bool true),(128,.bool true),(129,undef),(130,undef),(131,undef),(132,undef),(133,.bool true)] ?qs ?qQ ?qS ?qf ?qh ?qk
    case qs=>kernel_rfl
    case qQ=>exact fun _ _ _ _ h=>h
    case qS=>assumption
    case qf=>decide
    case qh=>as_aux_lemma=>kernel_rfl
    case qk =>
     dsimp only [List.foldl];refine NoPanic.normal ?_;go_simp;have HF:H9 (false=R):=(by show _=_;have:=HG.o;rw [show decide (jid<next)=false by simp;omega] at this;simpa using this);have Ca:=Hd (HB0.o.trans ((HB_1.o.trans (Ga.o.mono HB_1.o.size)).mono HB0.o.size));clear HG;go_wp2;go_ret;exact ⟨ret_bool HF.o,Ca.o⟩
   have Pa:jid<next:=(by omega);refine tk 9 (.bool false) ?_ ?_
   · intro wq Aa;go_simp
   (try simp only [Act.put]);refine tk 10 (.bool false) ?_ ?_
   · intro wq Aa;go_simp
   (try simp only [Act.put]);refine tk 11 (.bool false) ?_ ?_
   · intro wq Aa;go_simp
   (try simp only [Act.put]);refine tk 12 (it (j:Nat)) ?_ ?_
   · intro wq Aa;go_simp
   try simp only [Act.put]
   first
   | (
    refine tk 13 (.bool false) ?_ ?_
    · intro wq Aa;go_simp;exact HQ0.o
    (try simp only [Act.put]);refine tk 14 (.bool false) ?_ ?_
    · intro wq Aa;go_simp
    (try simp only [Act.put]);refine sk 15 ?_;(try simp only [Act.put]);refine sk 16 ?_;(try simp only [Act.put]);refine sk 17 ?_;(try simp only [Act.put]);refine sk 18 ?_;(try simp only [Act.put]);refine sk 19 ?_;(try simp only [Act.put]);refine sk 20 ?_;(try simp only [Act.put]);refine sk 21 ?_;(try simp only [Act.put]);refine sk 22 ?_;(try simp only [Act.put]);refine sk 23 ?_;(try simp only [Act.put]);refine sk 24 ?_;(try simp only [Act.put]);refine tk 25 (.bool false) ?_ ?_
    · intro wq Aa;go_simp
    try simp only [Act.put]
    )
   | (
    refine tk 13 (.bool true) ?_ ?_
    · intro wq Aa;go_simp;exact HQP.o
    (try simp only [Act.put]);refine tk 14 (.bool true) ?_ ?_
    · intro wq Aa;go_simp
    (try simp only [Act.put]);refine tk 15 (.pointer (some ⟨w.heap.size,3,none⟩)) ?_ ?_
    · intro wq Aa;go_simp
    (try simp only [Act.put]);refine tk 16 (.slice (some ⟨b1,o1,none⟩) nj cj) ?_ ?_
    · intro wp Ba;have c0:=(HL_1.o.grown Ba (by simp)).c 3 rfl;go_simp
    (try simp only [Act.put]);refine tk 17 (it (j:Nat)) ?_ ?_
    · intro wq Aa;go_simp
    (try simp only [Act.put]);refine tk 18 (it p) ?_ ?_
    · intro wq Aa;go_simp
    (try simp only [Act.put]);refine tk 19 (.pointer (some ⟨b1,o1+p*18,none⟩)) ?_ ?_
    · intro wq Aa;go_simp
    (try simp only [Act.put]);refine tk 20 (.pointer (some ⟨b1,o1+p*18,none⟩)) ?_ ?_
    · intro wq Aa;go_simp
    (try simp only [Act.put]);refine tk 21 (it lst) ?_ ?_
    · intro wp Ba;have c0:wp.cell? ⟨b1,o1+p*18,none⟩=some (it lst):=Ba.cell c0 (by simp);go_simp
    (try simp only [Act.put]);refine tk 22 (.pointer (some ⟨jb,0,none⟩)) ?_ ?_
    · intro wq Aa;go_simp
    (try simp only [Act.put]);refine tk 23 (it jid) ?_ ?_
    · intro wp Ba;have c0:=(HJ_1.o.grown Ba (by simp)).c 0 rfl;go_simp
    (try simp only [Act.put]);by_cases Bb:jid≤lst
    ·
     skip
     refine tk 24 (.bool true) ?_ ?_
     · intro wq Aa;go_simp
     (try simp only [Act.put]);refine tk 25 (.bool true) ?_ ?_
     · intro wq Aa;go_simp
     (try simp only [Act.put]);with_reducible refine wpAnyH_finS [26,27,28,29,30,31,32,33,34,35,36,37,38,39,40,41,42,43,44,45,46,47,48,49,50,51,52,53,54,55,56] [(103,.bool true),(104,.bool true),(105,undef),(106,undef),(107,undef),(108,undef),(109,.bool true),(110,.bool true),(111,undef),(112,undef),(113,undef),(114,undef),(115,.bool true),(116,.bool true),(117,undef),(118,undef),(119,undef),(120,undef),(121,.bool true),(122,.bool true),(123,undef),(124,undef),(125,undef),(126,undef),(127,.bool true),(128,.bool true),(129,undef),(130,undef),(131,undef),(132,undef),(133,.bool true)] ?qs ?qQ ?qS ?qf ?qh ?qk
     case qs=>kernel_rfl
     case qQ=>exact fun _ _ _ _ h=>h
     case qS=>assumption
     case qf=>decide
     case qh=>as_aux_lemma=>kernel_rfl
     case qk =>
      dsimp only [List.foldl];refine NoPanic.normal ?_;go_simp;have HF:H9 (false=R):=(by show _=_;have:=HG.o;rw [show decide (lst<jid)=false by simp;omega] at this;simpa using this);have Ca:=Hd (HB0.o.trans ((HB_1.o.trans (Ga.o.mono HB_1.o.size)).mono HB0.o.size));clear HG;go_wp2;go_ret;exact ⟨ret_bool HF.o,Ca.o⟩
    have Cb:lst<jid:=(by omega);refine tk 24 (.bool false) ?_ ?_
    · intro wq Aa;go_simp
    (try simp only [Act.put]);refine tk 25 (.bool false) ?_ ?_
    · intro wq Aa;go_simp
    try simp only [Act.put]
    )
   refine tk 26 (.bool false) ?_ ?_
   · intro wq Aa;go_simp
   (try simp only [Act.put]);refine tk 27 (.bool false) ?_ ?_
   · intro wq Aa;go_simp
   (try simp only [Act.put]);refine tk 28 (.pointer (some ⟨jb,1,none⟩)) ?_ ?_
   · intro wq Aa;go_simp
   (try simp only [Act.put]);have Qa:∀ W:World,w2.grownBy W none→W.rangeAt jb 1 (v1' a b c' d f k a' b' c'' d' f' k'):=fun W h=>(HJ_1.o.grown h (by simp)).mid 1 12;refine wpAnyH_take (i:=29) (v:=.agg ((v1' a b c' d f k a' b' c'' d' f' k'):List Value).toArray) rfl (by kernel_rfl) (by kernel_rfl) (by kernel_rfl) (fun _ _ _ h=>h) (yieldsIf_load_mid (by kernel_rfl) 41 (.tmp 105) rfl jb 1 (by kernel_rfl) ((v1' a b c' d f k a' b' c'' d' f' k'):List Value) _ Qa Tryz.underlying41 rfl (by kernel_rfl)) (by assumption) ?_;(try simp only [Act.put]);clear Qa;refine rdy' 30 fun Kk hK=>?_;go_simp;refine (CM _).mono ?_;rintro e Ia ⟨rfl,Ra⟩;go_simp;have Ea:w2.grownBy Ia none:=grown_step hHeld Ra;have Na:H9 (Below w2.heap.size w2 Ia):=⟨Ea.os,Ea.tape,Ea.output,Ea.size,fun k hk=>Ea.block k hk (by simp)⟩;refine hK.out _ _ Ea (fun _=>?_);clear hK Kk Ra;(try simp only [Act.put]);refine tk 31 (.bool (!oM)) ?_ ?_
   · intro wq Aa;go_simp
   (try simp only [Act.put]);refine tk 32 (.bool (!oM)) ?_ ?_
   · intro wq Aa;go_simp
   (try simp only [Act.put]);refine tk 33 (.bool (!oM)) ?_ ?_
   · intro wq Aa;go_simp
   try simp only [Act.put]
   cases oM with
   | false =>
    with_reducible refine wpAnyH_finS [34,35,36,37,38,39,40,41,42,43,44,45,46,47,48,49,50,51,52,53,54,55,56] [(111,undef),(112,undef),(113,undef),(114,undef),(115,.bool true),(116,.bool true),(117,undef),(118,undef),(119,undef),(120,undef),(121,.bool true),(122,.bool true),(123,undef),(124,undef),(125,undef),(126,undef),(127,.bool true),(128,.bool true),(129,undef),(130,undef),(131,undef),(132,undef),(133,.bool true)] ?qs ?qQ ?qS ?qf ?qh ?qk
    case qs=>kernel_rfl
    case qQ=>exact fun _ _ _ _ h=>h
    case qS=>assumption
    case qf=>decide
    case qh=>as_aux_lemma=>kernel_rfl
    case qk =>
     dsimp only [List.foldl];refine NoPanic.normal ?_;go_simp;have HF:H9 (false=R):=(by show _=_;have:=HG.o;simpa using this);have Ca:=Hd (HB0.o.trans ((HB_1.o.trans (Na.o.mono HB_1.o.size)).mono HB0.o.size));clear HG;go_wp2;go_ret;exact ⟨ret_bool HF.o,Ca.o⟩
   | true =>
    refine tk 34 (.pointer (some ⟨jb,13,none⟩)) ?_ ?_
    · intro wq Aa;go_simp
    (try simp only [Act.put]);refine tk 35 (.agg #[it s1,it s2]) ?_ ?_
    · intro wp Ba;have c0:=(HJ_1.o.grown Ba (by simp)).c 13 rfl;have c1:=(HJ_1.o.grown Ba (by simp)).c 14 rfl;go_simp
    (try simp only [Act.put]);refine rdy' 36 fun Kk hK=>?_;go_simp;refine (CS _).mono ?_;rintro e Ja ⟨rfl,Sa⟩;go_simp;have Fa:w2.grownBy Ja none:=grown_step Ea Sa;have Da:H9 (Below w2.heap.size w2 Ja):=⟨Fa.os,Fa.tape,Fa.output,Fa.size,fun k hk=>Fa.block k hk (by simp)⟩;refine hK.out _ _ Fa (fun _=>?_);clear hK Kk Sa;(try simp only [Act.put]);refine tk 37 (.bool (!oS)) ?_ ?_
    · intro wq Aa;go_simp
    (try simp only [Act.put]);refine tk 38 (.bool (!oS)) ?_ ?_
    · intro wq Aa;go_simp
    (try simp only [Act.put]);refine tk 39 (.bool (!oS)) ?_ ?_
    · intro wq Aa;go_simp
    try simp only [Act.put]
    cases oS with
    | false =>
     with_reducible refine wpAnyH_finS [40,41,42,43,44,45,46,47,48,49,50,51,52,53,54,55,56] [(117,undef),(118,undef),(119,undef),(120,undef),(121,.bool true),(122,.bool true),(123,undef),(124,undef),(125,undef),(126,undef),(127,.bool true),(128,.bool true),(129,undef),(130,undef),(131,undef),(132,undef),(133,.bool true)] ?qs ?qQ ?qS ?qf ?qh ?qk
     case qs=>kernel_rfl
     case qQ=>exact fun _ _ _ _ h=>h
     case qS=>assumption
     case qf=>decide
     case qh=>as_aux_lemma=>kernel_rfl
     case qk =>
      dsimp only [List.foldl];refine NoPanic.normal ?_;go_simp;have HF:H9 (false=R):=(by show _=_;have:=HG.o;simpa using this);have Ca:=Hd (HB0.o.trans ((HB_1.o.trans (Da.o.mono HB_1.o.size)).mono HB0.o.size));clear HG;go_wp2;go_ret;exact ⟨ret_bool HF.o,Ca.o⟩
    | true =>
     refine tk 40 (.pointer (some ⟨jb,15,none⟩)) ?_ ?_
     · intro wq Aa;go_simp
     (try simp only [Act.put]);refine tk 41 (it jr) ?_ ?_
     · intro wp Ba;have c0:=(HJ_1.o.grown Ba (by simp)).c 15 rfl;go_simp
     (try simp only [Act.put]);refine rdy' 42 fun Kk hK=>?_;go_simp;refine (CR _).mono ?_;rintro e wn ⟨rfl,Ha⟩;have La:=Ha.symm;clear Ha;subst La;go_simp;refine hK.out _ _ (by assumption) (fun hHeld1=>?_);clear hK Kk;(try simp only [Act.put]);refine tk 43 (.bool (!oR)) ?_ ?_
     · intro wq Aa;go_simp
     (try simp only [Act.put]);refine tk 44 (.bool (!oR)) ?_ ?_
     · intro wq Aa;go_simp
     (try simp only [Act.put]);refine tk 45 (.bool (!oR)) ?_ ?_
     · intro wq Aa;go_simp
     try simp only [Act.put]
     cases oR with
     | false =>
      with_reducible refine wpAnyH_finS [46,47,48,49,50,51,52,53,54,55,56] [(123,undef),(124,undef),(125,undef),(126,undef),(127,.bool true),(128,.bool true),(129,undef),(130,undef),(131,undef),(132,undef),(133,.bool true)] ?qs ?qQ ?qS ?qf ?qh ?qk
      case qs=>kernel_rfl
      case qQ=>exact fun _ _ _ _ h=>h
      case qS=>assumption
      case qf=>decide
      case qh=>as_aux_lemma=>kernel_rfl
      case qk =>
       dsimp only [List.foldl];refine NoPanic.normal ?_;go_simp;have HF:H9 (false=R):=(by show _=_;have:=HG.o;simpa using this);have Ca:=Hd (HB0.o.trans ((HB_1.o.trans (Da.o.mono HB_1.o.size)).mono HB0.o.size));clear HG;go_wp2;go_ret;exact ⟨ret_bool HF.o,Ca.o⟩
     | true =>
      refine tk 46 (.pointer (some ⟨jb,17,none⟩)) ?_ ?_
      · intro wq Aa;go_simp
      (try simp only [Act.put]);refine tk 47 (.slice ta tn tc) ?_ ?_
      · intro wp Ba;have c0:=(HJ_1.o.grown Ba (by simp)).c 17 rfl;go_simp
      (try simp only [Act.put]);refine tk 48 (it tn) ?_ ?_
      · intro wq Aa;go_simp
      (try simp only [Act.put]);by_cases Ta:(tn:Int)<1
      ·
       skip
       refine tk 49 (.bool true) ?_ ?_
       · intro wq Aa;go_simp
       (try simp only [Act.put]);with_reducible refine wpAnyH_finS [50,51,52,53,54,55,56] [(127,.bool true),(128,.bool true),(129,undef),(130,undef),(131,undef),(132,undef),(133,.bool true)] ?qs ?qQ ?qS ?qf ?qh ?qk
       case qs=>kernel_rfl
       case qQ=>exact fun _ _ _ _ h=>h
       case qS=>assumption
       case qf=>decide
       case qh=>as_aux_lemma=>kernel_rfl
       case qk =>
        dsimp only [List.foldl];refine NoPanic.normal ?_;go_simp;have HF:H9 (false=R):=(by show _=_;have:=HG.o;rw [show decide (1≤tn)=false by simp;omega] at this;simpa using this);have Ca:=Hd (HB0.o.trans ((HB_1.o.trans (Da.o.mono HB_1.o.size)).mono HB0.o.size));clear HG;go_wp2;go_ret;exact ⟨ret_bool HF.o,Ca.o⟩
      have Ua:(1:Int)≤(tn:Int):=(by omega);refine tk 49 (.bool false) ?_ ?_
      · intro wq Aa;go_simp
      (try simp only [Act.put]);refine tk 50 (.bool false) ?_ ?_
      · intro wq Aa;go_simp
      (try simp only [Act.put]);refine tk 51 (.bool false) ?_ ?_
      · intro wq Aa;go_simp
      (try simp only [Act.put]);refine tk 52 (.pointer (some ⟨jb,17,none⟩)) ?_ ?_
      · intro wq Aa;go_simp
      (try simp only [Act.put]);refine tk 53 (.slice ta tn tc) ?_ ?_
      · intro wp Ba;have c0:=(HJ_1.o.grown Ba (by simp)).c 17 rfl;go_simp
      (try simp only [Act.put]);refine tk 54 (it tn) ?_ ?_
      · intro wq Aa;go_simp
      (try simp only [Act.put]);by_cases Va:(8:Int)<(tn:Int)
      ·
       skip
       refine tk 55 (.bool true) ?_ ?_
       · intro wq Aa;go_simp
       (try simp only [Act.put]);with_reducible refine wpAnyH_finS [56] [(133,.bool true)] ?qs ?qQ ?qS ?qf ?qh ?qk
       case qs=>kernel_rfl
       case qQ=>exact fun _ _ _ _ h=>h
       case qS=>assumption
       case qf=>decide
       case qh=>as_aux_lemma=>kernel_rfl
       case qk =>
        dsimp only [List.foldl];refine NoPanic.normal ?_;go_simp;have HF:H9 (false=R):=(by show _=_;have:=HG.o;rw [show decide (tn≤8)=false by simp;omega] at this;simpa using this);have Ca:=Hd (HB0.o.trans ((HB_1.o.trans (Da.o.mono HB_1.o.size)).mono HB0.o.size));clear HG;go_wp2;go_ret;exact ⟨ret_bool HF.o,Ca.o⟩
      have Wa:(tn:Int)≤8:=(by omega);refine tk 55 (.bool false) ?_ ?_
      · intro wq Aa;go_simp
      (try simp only [Act.put]);refine tk 56 (.bool false) ?_ ?_
      · intro wq Aa;go_simp
      (try simp only [Act.put]);refine dne' ?_;go_simp;have Xa:=Hd (HB_1.o.trans (Da.o.mono HB_1.o.size));have Ya:=Hd (HL_1.o.belowS Da.o);have Za:=Hd (HO_1.o.below Da.o);have Ab:=Hd (HJ_1.o.belowS Da.o);clear HB_1 HL_1 HO_1 HJ_1
      first
      | (
       have Db:=HQ0.o;clear Db;rename_i Eb Fb Gb;revert ab cb nj cj bs js now next w hlen bnj hcj HI R mkx2z1 w1 HB0 C1 C2 now0 now1 next0 next1 h6 h6I mkx2z2 SJ mkx2z3 mkx2z4 u32 u33 u34 u35 u36 u37 u38 u39 u40 u41 u42 u43 u44 u45 u46 u47 u48 u49 u50 u51 u52 u53 u54 u55 u56 u57 u58 u59 u60 u61 u62 u63 q l hlb bnb hcb h9 h9I mkx2z5 hq mkx2z6 mkx2z8 mkx2z10 mkx2z11 we eb wr u2 u6 u7 u8 u9 u65 u66 u67 u68 u69 u70 u71 u72 u73 u74 u75 u76 u77 u78 u79 u80 u81 u82 u83 u84 u85 u86 u87 u88 u89 u90 u91 u92 u93 u94 u95 u96 u97 u98 u99 u100 u101 u102 u103 u104 u105 u106 u107 u108 u109 u110 u111 u112 u113 u114 u115 u116 u117 u118 u119 u120 u121 u122 u123 u124 u125 u126 u127 u128 u129 u130 u131 u132 u133 u134 u135 u136 u137 u138 u139 u140 u141 u142 u143 u144 u145 u146 u147 u148 u149 u150 u151 u152 u153 u154 u155 u156 u157 u158 u159 u160 u161 u162 u163 u164 u165 u166 u167 u168 u169 u170 u171 u172 u173 u174 u175 u176 u177 u178 u179 u180 u181 u182 u183 u184 u185 u186 u187 j ws hj hws al ml cl hlt b1 o1 HL0 HM0 mkx2z7 mkx2z9 ta tc hjI jid jr jg tl a b c' d f k a' b' c'' d' f' k' s1 s2 tn HT HTL HNI htcI htnb mkx3z1 mkx3z2 mkx3z3 w2 jb hne0 mkx3z4 mkx3z5 mkx3z6 mkx3z7 hgt HQ0 Ka hHeld Ga Eb C3 HI1 Oa Pa Ia Ea Na Fb CM Ja Fa Da Gb CS hHeld1 CR HG Ta Ua Va Wa Xa Ya Za Ab;exact key1.out
       )
      | (
       rename_i Hb Ib Jb;revert ab cb nj cj bs js now next w hlen bnj hcj HI R mkx2z1 w1 HB0 C1 C2 now0 now1 next0 next1 h6 h6I mkx2z2 SJ mkx2z3 mkx2z4 u32 u33 u34 u35 u36 u37 u38 u39 u40 u41 u42 u43 u44 u45 u46 u47 u48 u49 u50 u51 u52 u53 u54 u55 u56 u57 u58 u59 u60 u61 u62 u63 q l hlb bnb hcb h9 h9I mkx2z5 hq mkx2z6 mkx2z8 mkx2z10 mkx2z11 we eb wr u2 u6 u7 u8 u9 u65 u66 u67 u68 u69 u70 u71 u72 u73 u74 u75 u76 u77 u78 u79 u80 u81 u82 u83 u84 u85 u86 u87 u88 u89 u90 u91 u92 u93 u94 u95 u96 u97 u98 u99 u100 u101 u102 u103 u104 u105 u106 u107 u108 u109 u110 u111 u112 u113 u114 u115 u116 u117 u118 u119 u120 u121 u122 u123 u124 u125 u126 u127 u128 u129 u130 u131 u132 u133 u134 u135 u136 u137 u138 u139 u140 u141 u142 u143 u144 u145 u146 u147 u148 u149 u150 u151 u152 u153 u154 u155 u156 u157 u158 u159 u160 u161 u162 u163 u164 u165 u166 u167 u168 u169 u170 u171 u172 u173 u174 u175 u176 u177 u178 u179 u180 u181 u182 u183 u184 u185 u186 u187 j lst ws hj hws al ml cl hlt b1 o1 HL0 HM0 mkx2z7 mkx2z9 ta tc hjI jid jr jg tl a b c' d f k a' b' c'' d' f' k' s1 s2 tn HT HTL HNI htcI htnb mkx4z1 mkx4z2 mkx4z3 w2 jb hne0 mkx4z4 mkx4z5 mkx4z6 mkx4z7 p c0 hsb2 hwp hpos hpn hp0 HQP Ka hHeld Ga Hb C3 HI1 Oa Pa Bb Cb Ia Ea Na Ib CM Ja Fa Da Jb CS hHeld1 CR HG Ta Ua Va Wa Xa Ya Za Ab;exact key2.out
       )
set_option maxRecDepth 100000 in
theorem mkxC_t : mkxC.p∧mkxC.q:=by
 refine ⟨?tax,?tbx⟩
 case' tax =>
  intro ab cb nj cj bs js Fa Va w Vd Wd Xd HI R Yd w1 Qa C1 C2 Gd Id Zd Ae h6 Be Ce SJ De Ee Fe Ge He Ie Je Ke Le Ne Oe Pe Qe Re Se Te Ue Ve We Xe Ye Ze Af Bf Cf Df Ef Ff Gf Hf If Jf Kf Lf q l Nf Of Pf h9 Qf Rf hq Sf Tf Uf Vf we eb wr u2 u6 u7 u8 u9 Wf Xf Yf Zf Ag Bg Cg Dg Eg Fg Gg Hg Ig Jg Kg Lg Ng Og Pg Qg Rg Sg Tg Ug Vg Wg Xg Yg Zg Ah Bh Ch Dh Eh Fh Gh Hh Ih Jh Kh Lh Nh Oh Ph Qh Rh Sh Th Uh Vh Wh Xh Yh Zh Ai Bi Ci Di Ei Fi Gi Hi Ii Ji Ki Li Ni Oi Pi Qi Ri Si Ti Ui Vi Wi Xi Yi Zi Aj Bj Cj Dj Ej Fj Gj Hj Ij Jj Kj Lj Nj Oj Pj Qj Rj Sj Tj Uj Vj Wj Xj Yj Zj Ak Bk Ck Dk Ek Fk Gk Hk Ik Jk Kk Lk Nk Ok Pk Qk Rk Sk Tk j ws hj Uk al ml cl Vk b1 o1 Jd Kd Wk Xk ta tc Yk Da jr jg tl a b c' d f k a' b' Wa d' f' k' s1 s2 tn HT Jb Nc Zk Al Vl Wl Xl w2 jb Oc Yl Zl Am Bm Cm Dm Ya Ba La Em C3 Pc Bl Cl Dl El Za Fm CM Fl Gl Hl Gm CS Il CR HG Jl Kl Ll Nl Ga Ld Na Oa
 case' tbx =>
  intro ab cb nj cj bs js Fa Va w Vd Wd Xd HI R Yd w1 Qa C1 C2 Gd Id Zd Ae h6 Be Ce SJ De Ee Fe Ge He Ie Je Ke Le Ne Oe Pe Qe Re Se Te Ue Ve We Xe Ye Ze Af Bf Cf Df Ef Ff Gf Hf If Jf Kf Lf q l Nf Of Pf h9 Qf Rf hq Sf Tf Uf Vf we eb wr u2 u6 u7 u8 u9 Wf Xf Yf Zf Ag Bg Cg Dg Eg Fg Gg Hg Ig Jg Kg Lg Ng Og Pg Qg Rg Sg Tg Ug Vg Wg Xg Yg Zg Ah Bh Ch Dh Eh Fh Gh Hh Ih Jh Kh Lh Nh Oh Ph Qh Rh Sh Th Uh Vh Wh Xh Yh Zh Ai Bi Ci Di Ei Fi Gi Hi Ii Ji Ki Li Ni Oi Pi Qi Ri Si Ti Ui Vi Wi Xi Yi Zi Aj Bj Cj Dj Ej Fj Gj Hj Ij Jj Kj Lj Nj Oj Pj Qj Rj Sj Tj Uj Vj Wj Xj Yj Zj Ak Bk Ck Dk Ek Fk Gk Hk Ik Jk Kk Lk Nk Ok Pk Qk Rk Sk Tk j Ol ws hj Uk al ml cl Vk b1 o1 Jd Kd Wk Xk ta tc Yk Da jr jg tl a b c' d f k a' b' Wa d' f' k' s1 s2 tn HT Jb Nc Zk Al Hm Im Jm w2 jb Oc Km Lm Nm Om p c0 Pm Qm Rm Sm Tm Um Ya Ba La Vm C3 Pc Bl Cl Qc Wm Dl El Za Xm CM Fl Gl Hl Ym CS Il CR HG Jl Kl Ll Nl Ga Ld Na Oa
 all_goals
  have Zm:=Pc.o rfl;have Rc:H9 (((M.spT Fa bs jg ws tl && !(jg && tl.all (·.done))) && M.spJ Fa Va bs Da (ws++tl.map (·.worker)) (js.drop (j+1)))=R):=by first | (show _=_;have:=HG.o;rw [show decide (Da<Va)=true by simp;omega,show decide ((0:Int)<Da)=true by simp;omega,show decide (1≤tn)=true by simp;omega,show decide (tn≤8)=true by simp;omega] at this;simpa using this) | (show _=_;have:=HG.o;rw [show decide (Da<Va)=true by simp;omega,show decide (Ol<Da)=true by simp;omega,show decide (1≤tn)=true by simp;omega,show decide (tn≤8)=true by simp;omega] at this;simpa using this)
  clear HG Pc C3 CM CS CR;generalize Nd:M.spJ Fa Va bs Da (ws++tl.map (·.worker)) (js.drop (j+1))=SN at Rc;have Sc:=Hd (Nd);generalize Od:ws++tl.map (·.worker)=WF at Sc;have Pd:=Hd (Od);clear Nd Od;have Qd:WF.length≤8*(j+1):=(by rw [← Pd.o,List.length_append,List.length_map,Jb.o];omega);clear Ld;go_wp2
  go_loopw [4,7] (fun l i wr=>∃ (p:Nat) (us:List Int),p≤tn∧i=it p∧SpL Fa bs jg tl R SN WF w1 jb (v0' Da a b c' d f k a' b' Wa d' f' k' s1 s2 jr jg ta tn tc) p us l wr) (fun _ i _=>tn-(intOf i).toNat)
  case atStart=>exact ⟨0,ws,by omega,rfl,Rc.o,Pd.o,Oa.o,Oc,_,_,_,rfl,Na.o,Ga.o⟩
  case round =>
   obtain ⟨p,us,hp,rfl,Kb,Tc,Rd,Sd,ai,mi,ci,rfl,Uc,Fc⟩:=hrel;clear Rc Oc Ga Na Oa;have Vc:=Hd (Tc);have An:us.length≤64:=(by have:=congrArg List.length Tc;rw [List.length_append] at this;omega);have Bn:=Uc.count;have Gc:=Hd (Sd);clear Tc Sd;have Ab:=Hd (Fc);have Wc:=Hd (Jd.o.belowS Fc);have Ra:=Hd (Rd);have Lb:H9 (Owns 2 wr w1.heap.size ai mi ci us):=Uc;have Xc:=HT.o.below Fc;clear Fc Rd Uc;by_cases Yc:p<tn
   case pos =>
    obtain ⟨b2,o2,rfl,Qc⟩:=Xc.at (by omega);have hA:=Qc p Yc;have Cn:(p:Int)<(tn:Int):=(by omega);have Sa:=Kb;rw [drop_step M.t0 Jb.o Yc] at Sa;have Gb:=Vc.o;rw [drop_step M.t0 Jb.o Yc] at Gb;unfold M.spT at Sa;have C4:∀ W,Sees W ab q cb bs→Calls Tryz.prog 56 #[.agg #[.int .i64 Fa,.int .i64 Va,.slice ab q cb,.slice (some ⟨b1,o1,none⟩) nj cj],tkv (tl.getD p M.t0)] W fun e w'=>e=.returned (.bool (M.spK Fa bs (tl.getD p M.t0)))∧Below W.heap.size W w':=fun W h=>l8Task_any Fa Va _ Gd Id W h;generalize tl.getD p M.t0=x at hA Sa Gb C4;obtain ⟨td,x,y⟩:=x;dsimp only [tkv] at C4;rw [List.map_cons] at Gb;dsimp only at Gb Sa;generalize M.spK Fa bs ⟨td,x,y⟩=o4 at C4 Sa;generalize Td:(M.leased ⟨td,x,y⟩ && us.contains x)=oc at Sa;have Nb:=Hd (Td);have Bb:H9 (M.leased ⟨td,x,y⟩=(x != 0)):=(by show _=_;unfold M.leased;by_cases e:x=0 <;> simp [e]);generalize M.leased ⟨td,x,y⟩=ol at Sa Nb Bb;have Pa:H9 (_=R):=Sa;have Ud:=Hd (Gb);clear Kb Sa Td Gb Qc Xc;have Hc:=Ra.o.c 17 rfl;have a0:wr.cell? ⟨b2,o2+p*3,none⟩=some (.bool td):=hA 0 (by omega);have a1:wr.cell? ⟨b2,o2+p*3+1,none⟩=some (it x):=hA 1 (by omega);have a2:wr.cell? ⟨b2,o2+p*3+2,none⟩=some (it y):=hA 2 (by omega);clear hA;have Ob:=bal wr (.cells (v27' td x y).toArray 74);have Xa:=Hd (Ab.o.trans (Ob.mono Ab.o.size));have Hb:=Hd (Wc.o.belowS Ob);have Zc:=Hd (Ra.o.belowS Ob);have Pb:=Hd (Lb.o.below Ob);clear Ab Wc Ra Lb;clear Ob;have Ic:=lnw wr (v27' td x y) 74;have m0:(wr.alloc (.cells (v27' td x y).toArray 74)).cell? ⟨w.heap.size,0,none⟩=some (it Fa):=Hb.o.at 0;have m1:(wr.alloc (.cells (v27' td x y).toArray 74)).cell? ⟨w.heap.size,1,none⟩=some (it Va):=Hb.o.at 1;have m2:(wr.alloc (.cells (v27' td x y).toArray 74)).cell? ⟨w.heap.size,2,none⟩=some (.slice ab q cb):=Hb.o.at 2;have m3:(wr.alloc (.cells (v27' td x y).toArray 74)).cell? ⟨w.heap.size,3,none⟩=some (.slice (some ⟨b1,o1,none⟩) nj cj):=Hb.o.at 3;(go_wp2_with fail);clear Hc a0 a1 a2 m0 m1 m2 m3;generalize (wr.alloc (.cells (v27' td x y).toArray 74))=w5 at Xa Hb Zc Pb Ic  ⊢;generalize wr.heap.size=tb at Ic  ⊢;refine (C4 _ (Kd.o.b.below Xa.o)).mono ?_;rintro e w6 ⟨rfl,hb⟩;have Ga:=Hd (Xa.o.trans (hb.mono Xa.o.size));have Oa:=Hd (Zc.o.belowS hb);have Na:=Hd (Pb.o.below hb);have Qb:=Hd (Ic.o.belowS hb);clear Xa Hb Zc Pb Ic;clear hb;clear C4
    cases o4 with
    | false =>
     have HF:H9 (false=R):=(by show _=_;have:=Pa.o;simpa using this);clear Pa;go_wp2;go_ret;exact ⟨ret_bool HF.o,(Qa.o.trans (Ga.o.mono Qa.o.size))⟩
    | true =>
     cases jg with
     | false =>
      have Ib:=Oa.o.c 16 rfl;go_wp2;clear Ib;have Cb:=Na.o.sees;have Pl:(mi:Int)≤9223372036854775807:=(by omega);have Ql:(mi:Int)≤ci:=(by have:=Cb.le;omega);have Rb:=Cb.len;clear Cb
      go_loopw [9] (fun i wr=>∃ n:Nat,n≤mi∧i=it n∧((x != 0) && (us.drop n).contains x)=oc∧Below w6.heap.size w6 wr) (fun i _=>mi-(intOf i).toNat)
      case atStart=>exact ⟨0,by omega,rfl,by rw [← Bb.o];exact Nb.o,Below.refl _ _⟩
      case round =>
       obtain ⟨n,hn,rfl,Aa,Ea⟩:=hrel;have Ha:=Hd (Ga.o.trans (Ea.mono Ga.o.size));have Ta:=Hd (Oa.o.belowS Ea);have Ia:=Hd (Na.o.below Ea);have Ja:=Hd (Qb.o.belowS Ea);clear Ga Oa Na Qb;have Db:=Hd (Ea);clear Ea;have Eb:=Ia.o.sees;by_cases Sb:n<mi
       case pos =>
        obtain ⟨b3,o3,rfl,Tb⟩:=Eb.at (by omega);have c3:=Tb n Sb;have Rl:(n:Int)<(mi:Int):=(by omega);rw [drop_step 0 Rb Sb,List.contains_cons] at Aa;generalize us.getD n 0=z at c3 Aa;clear Tb Eb;(go_wp2_with fail);by_cases Ka:x=0
        ·
         have Ub:(x != 0)=false:=(by simp [Ka]);have Vb:H9 (((x != 0) && (us.drop (n+1)).contains x)=oc):=(by show _=_;rw [Ub] at Aa ⊢;exact Aa);have Za:H9 (x=0):=Ka;clear Aa Ka;refine hst' wr none (by kernel_rfl) fun Ba=>?_;generalize wr.drew=Ya at Ba ⊢;have La:H9 (Below wr.heap.size wr Ya):=⟨Ba.os,Ba.tape,Ba.output,Ba.size,fun k hk=>Ba.block k hk (by simp)⟩;refine tk 0 (.pointer (some ⟨tb,1,none⟩)) ?_ ?_
         · intro wq Ca;go_simp
         (try simp only [Act.put]);refine tk 1 (it x) ?_ ?_
         · intro wp Ua;have c0:=(Ja.o.grown Ua (by simp)).c 1 rfl;go_simp
         (try simp only [Act.put]);refine tk 2 (.bool false) ?_ ?_
         · intro wq Ca;go_simp;first | done | exact Za.o
         (try simp only [Act.put]);refine tk 3 (.bool false) ?_ ?_
         · intro wq Ca;go_simp
         (try simp only [Act.put]);refine sk 4 ?_;(try simp only [Act.put]);refine sk 5 ?_;(try simp only [Act.put]);refine sk 6 ?_;(try simp only [Act.put]);refine sk 7 ?_;(try simp only [Act.put]);refine sk 8 ?_;(try simp only [Act.put]);refine sk 9 ?_;(try simp only [Act.put]);refine sk 10 ?_;(try simp only [Act.put]);refine tk 11 (.bool false) ?_ ?_
         · intro wq Ca;go_simp
         (try simp only [Act.put]);refine dne' ?_;go_simp;clear Ha Ta Ia Ja;have Wb:=Hd (Db.o.trans (La.o.mono Db.o.size));go_wp2;go_roundw
         case rel=>exact ⟨n+1,by omega,by go_num,Vb.o,Wb.o⟩
         case measure=>simp [intOf];omega
        have Ub:(x != 0)=true:=(by simp [Ka]);have Za:H9 (¬ x=0):=Ka;clear Ka;refine hst' wr none (by kernel_rfl) fun Ba=>?_;generalize wr.drew=Ya at Ba ⊢;have La:H9 (Below wr.heap.size wr Ya):=⟨Ba.os,Ba.tape,Ba.output,Ba.size,fun k hk=>Ba.block k hk (by simp)⟩;refine tk 0 (.pointer (some ⟨tb,1,none⟩)) ?_ ?_
        · intro wq Ca;go_simp
        (try simp only [Act.put]);refine tk 1 (it x) ?_ ?_
        · intro wp Ua;have c0:=(Ja.o.grown Ua (by simp)).c 1 rfl;go_simp
        (try simp only [Act.put]);refine tk 2 (.bool true) ?_ ?_
        · intro wq Ca;go_simp;first | done | exact Za.o
        (try simp only [Act.put]);refine tk 3 (.bool true) ?_ ?_
        · intro wq Ca;go_simp
        (try simp only [Act.put]);refine tk 4 (.slice (some ⟨b3,o3,none⟩) mi ci) ?_ ?_
        · intro wq Ca;go_simp
        (try simp only [Act.put]);refine tk 5 (it (n:Nat)) ?_ ?_
        · intro wq Ca;go_simp
        (try simp only [Act.put]);refine tk 6 (.pointer (some ⟨b3,o3+n,none⟩)) ?_ ?_
        · intro wq Ca;go_simp
        (try simp only [Act.put]);refine tk 7 (it z) ?_ ?_
        · intro wp Ua;have c0:wp.cell? ⟨b3,o3+n,none⟩=some (it z):=Ua.cell c3 (by simp);go_simp
        (try simp only [Act.put]);refine tk 8 (.pointer (some ⟨tb,1,none⟩)) ?_ ?_
        · intro wq Ca;go_simp
        (try simp only [Act.put]);refine tk 9 (it x) ?_ ?_
        · intro wp Ua;have c0:=(Ja.o.grown Ua (by simp)).c 1 rfl;go_simp
        (try simp only [Act.put]);by_cases hz:z=x
        ·
         have gz:(z == x)=true:=(by simp [hz]);have Ad:(x == z)=true:=(by simp [hz]);have HF:H9 (false=R):=(by show _=_;have h1:=Pa.o;rw [Ub,Ad] at Aa;rw [← Aa] at h1;simpa using h1);have HZ:H9 (z=x):=hz;clear Pa Aa hz;refine tk 10 (.bool true) ?_ ?_
         · intro wq Ca;go_simp;first | done | exact HZ.o
         (try simp only [Act.put]);refine tk 11 (.bool true) ?_ ?_
         · intro wq Ca;go_simp
         (try simp only [Act.put]);refine dne' ?_;go_simp;have Sl:=Hd (Ha.o.trans (La.o.mono Ha.o.size));clear Ha Ta Ia Ja;go_wp2;go_ret;exact ⟨ret_bool HF.o,(Qa.o.trans (Sl.o.mono Qa.o.size))⟩
        ·
         have gz:(z == x)=false:=(by simp [hz]);have Ad:(x == z)=false:=(by simp;exact fun e=>hz e.symm);have Vb:H9 (((x != 0) && (us.drop (n+1)).contains x)=oc):=(by show _=_;rw [Ad,Bool.false_or] at Aa;exact Aa);have HZ:H9 (¬ z=x):=hz;clear Aa hz;refine tk 10 (.bool false) ?_ ?_
         · intro wq Ca;go_simp;first | done | exact HZ.o
         (try simp only [Act.put]);refine tk 11 (.bool false) ?_ ?_
         · intro wq Ca;go_simp
         (try simp only [Act.put]);refine dne' ?_;go_simp;clear Ha Ta Ia Ja;have Wb:=Hd (Db.o.trans (La.o.mono Db.o.size));go_wp2;go_roundw
         case rel=>exact ⟨n+1,by omega,by go_num,Vb.o,Wb.o⟩
         case measure=>simp [intOf];omega
       rw [List.drop_of_length_le (by rw [Rb];omega)] at Aa;have Bd:oc=false:=(by rw [← Aa];simp);have Cd:H9 (((M.spT Fa bs false (us++[x]) (tl.drop (p+1)) && !(false && tl.all (·.done))) && SN)=R):=(by show _=_;have h1:=Pa.o;rw [Bd] at h1;simpa using h1);clear Pa Aa Nb Bb Eb;have Dd:H9 ((us++[x])++(tl.drop (p+1)).map (·.worker)=WF):=(by show _=_;rw [List.append_assoc];exact Ud.o);obtain ⟨i0,hi,Xb,Yb,Zb⟩:=HI.o;have Ac:=Ha.o.size;have Ed:=Ta.o.2.2;have t1:=Ja.o.c 1 rfl;(go_wp2_with (at_builtin;refine wpList_append_own_at _ rfl _ _ 24 rfl w1.heap.size 2 i0 (it 0) 1 8 Tryz.underlying24 hi Xb Yb Zb rfl (by decide) _ mi (us.map (Value.int .i64)) rfl (World.ownsRow.alloc Ia.o _) ⟨wr.heap.size,0,none⟩ 1 1 [it x] rfl rfl (cell_one wr x _) (one_int x) (by unfold maxLen;omega) (by omega) (by simp;omega) ?_));intro v' w7 Bc Fb _ Cc;have hown':w7.ownsRow w1.heap.size 2 1 v' (mi+1) ((us++[x]).map (Value.int .i64)):=(by rw [List.map_append];exact Bc);have HN':H9 (v'.ownBlock≠some jb):=far_next (w:=wr.alloc (.cells #[it x] 2)) (by simpa using Cc) (by simp;omega) Gc.o;obtain ⟨a9,Dc,rfl,Ec⟩:=Owns.form hown';have HO':H9 (Owns 2 w7 w1.heap.size a9 (mi+1) Dc (us++[x])):=Ec;have HB':H9 (Below w1.heap.size w1 w7):=below_grownBy Ha.o ((World.grownBy_alloc wr _ _).trans Fb) Ac (fun z hz=>(World.ownsRow.lt Ia.o z hz).1);have HJ':H9 (Lies w7 jb (v19' Da a b c' d f k a' b' Wa d' f' k' s1 s2 jr (some ⟨b2,o2,none⟩) tn tc)):=Ta.o.grown ((World.grownBy_alloc wr _ _).trans Fb) Gc.o;clear Bc hown' Fb Cc Ec hi Xb Yb Zb Ac Ed;go_wp2;go_roundw
       case rel=>exact ⟨p+1,us++[x],by omega,by go_num,Cd.o,Dd.o,HJ'.o,HN'.o,a9,mi+1,Dc,rfl,HO'.o,HB'.o⟩
       case measure=>simp [intOf];omega
     | true =>
      have Ib:=Oa.o.c 16 rfl;have Tl:=Qb.o.c 1 rfl;by_cases Jc:x=0
      ·
       have gx:(x != 0)=false:=(by simp [Jc]);go_wp2;clear Ib Tl;have La:H9 (x=0):=Jc;clear Jc;have Cb:=Na.o.sees;have Pl:(mi:Int)≤9223372036854775807:=(by omega);have Ql:(mi:Int)≤ci:=(by have:=Cb.le;omega);have Rb:=Cb.len;clear Cb
       go_loopw [9] (fun i wr=>∃ n:Nat,n≤mi∧i=it n∧((x != 0) && (us.drop n).contains x)=oc∧Below w6.heap.size w6 wr) (fun i _=>mi-(intOf i).toNat)
       case atStart=>exact ⟨0,by omega,rfl,by rw [← Bb.o];exact Nb.o,Below.refl _ _⟩
       case round =>
        obtain ⟨n,hn,rfl,Aa,Ea⟩:=hrel;have Ha:=Hd (Ga.o.trans (Ea.mono Ga.o.size));have Ta:=Hd (Oa.o.belowS Ea);have Ia:=Hd (Na.o.below Ea);have Ja:=Hd (Qb.o.belowS Ea);clear Ga Oa Na Qb;have Db:=Hd (Ea);clear Ea;have Eb:=Ia.o.sees;by_cases Sb:n<mi
        case pos =>
         obtain ⟨b3,o3,rfl,Tb⟩:=Eb.at (by omega);have c3:=Tb n Sb;have Rl:(n:Int)<(mi:Int):=(by omega);rw [drop_step 0 Rb Sb,List.contains_cons] at Aa;generalize us.getD n 0=z at c3 Aa;clear Tb Eb;(go_wp2_with fail);by_cases Ka:x=0
         ·
          have Ub:(x != 0)=false:=(by simp [Ka]);have Vb:H9 (((x != 0) && (us.drop (n+1)).contains x)=oc):=(by show _=_;rw [Ub] at Aa ⊢;exact Aa);have Za:H9 (x=0):=Ka;clear Aa Ka;refine hst' wr none (by kernel_rfl) fun Ba=>?_;generalize wr.drew=Ya at Ba ⊢;have La:H9 (Below wr.heap.size wr Ya):=⟨Ba.os,Ba.tape,Ba.output,Ba.size,fun k hk=>Ba.block k hk (by simp)⟩;refine tk 0 (.pointer (some ⟨tb,1,none⟩)) ?_ ?_
          · intro wq Ca;go_simp
          (try simp only [Act.put]);refine tk 1 (it x) ?_ ?_
          · intro wp Ua;have c0:=(Ja.o.grown Ua (by simp)).c 1 rfl;go_simp
          (try simp only [Act.put]);refine tk 2 (.bool false) ?_ ?_
          · intro wq Ca;go_simp;first | done | exact Za.o
          (try simp only [Act.put]);refine tk 3 (.bool false) ?_ ?_
          · intro wq Ca;go_simp
          (try simp only [Act.put]);refine sk 4 ?_;(try simp only [Act.put]);refine sk 5 ?_;(try simp only [Act.put]);refine sk 6 ?_;(try simp only [Act.put]);refine sk 7 ?_;(try simp only [Act.put]);refine sk 8 ?_;(try simp only [Act.put]);refine sk 9 ?_;(try simp only [Act.put]);refine sk 10 ?_;(try simp only [Act.put]);refine tk 11 (.bool false) ?_ ?_
          · intro wq Ca;go_simp
          (try simp only [Act.put]);refine dne' ?_;go_simp;clear Ha Ta Ia Ja;have Wb:=Hd (Db.o.trans (La.o.mono Db.o.size));go_wp2;go_roundw
          case rel=>exact ⟨n+1,by omega,by go_num,Vb.o,Wb.o⟩
          case measure=>simp [intOf];omega
         exact absurd La.o Ka
        rw [List.drop_of_length_le (by rw [Rb];omega)] at Aa;have Bd:oc=false:=(by rw [← Aa];simp);have Cd:H9 (((M.spT Fa bs true (us++[x]) (tl.drop (p+1)) && !(true && tl.all (·.done))) && SN)=R):=(by show _=_;have h1:=Pa.o;rw [Bd,Bb.o,gx] at h1;simpa using h1);clear Pa Aa Nb Bb Eb;have Dd:H9 ((us++[x])++(tl.drop (p+1)).map (·.worker)=WF):=(by show _=_;rw [List.append_assoc];exact Ud.o);obtain ⟨i0,hi,Xb,Yb,Zb⟩:=HI.o;have Ac:=Ha.o.size;have Ed:=Ta.o.2.2;have t1:=Ja.o.c 1 rfl;(go_wp2_with (at_builtin;refine wpList_append_own_at _ rfl _ _ 24 rfl w1.heap.size 2 i0 (it 0) 1 8 Tryz.underlying24 hi Xb Yb Zb rfl (by decide) _ mi (us.map (Value.int .i64)) rfl (World.ownsRow.alloc Ia.o _) ⟨wr.heap.size,0,none⟩ 1 1 [it x] rfl rfl (cell_one wr x _) (one_int x) (by unfold maxLen;omega) (by omega) (by simp;omega) ?_));intro v' w7 Bc Fb _ Cc;have hown':w7.ownsRow w1.heap.size 2 1 v' (mi+1) ((us++[x]).map (Value.int .i64)):=(by rw [List.map_append];exact Bc);have HN':H9 (v'.ownBlock≠some jb):=far_next (w:=wr.alloc (.cells #[it x] 2)) (by simpa using Cc) (by simp;omega) Gc.o;obtain ⟨a9,Dc,rfl,Ec⟩:=Owns.form hown';have HO':H9 (Owns 2 w7 w1.heap.size a9 (mi+1) Dc (us++[x])):=Ec;have HB':H9 (Below w1.heap.size w1 w7):=below_grownBy Ha.o ((World.grownBy_alloc wr _ _).trans Fb) Ac (fun z hz=>(World.ownsRow.lt Ia.o z hz).1);have HJ':H9 (Lies w7 jb [it Da,it a,it b,it c',it d,it f,it k,it a',it b',it Wa,it d',it f',it k',it s1,it s2,it jr,.bool true,.slice (some ⟨b2,o2,none⟩) tn tc]):=Ta.o.grown ((World.grownBy_alloc wr _ _).trans Fb) Gc.o;clear Bc hown' Fb Cc Ec hi Xb Yb Zb Ac Ed;go_wp2;go_roundw
        case rel=>exact ⟨p+1,us++[x],by omega,by go_num,Cd.o,Dd.o,HJ'.o,HN'.o,a9,mi+1,Dc,rfl,HO'.o,HB'.o⟩
        case measure=>simp [intOf];omega
      ·
       have gx:(x != 0)=true:=(by simp [Jc]);have HF:H9 (false=R):=(by show _=_;have:=Pa.o;rw [Bb.o,gx] at this;simpa using this);clear Pa;go_wp2;go_ret;exact ⟨ret_bool HF.o,(Qa.o.trans (Ga.o.mono Qa.o.size))⟩
   have Ul:tn=p:=(by omega);subst Ul;have e0:tl.drop tn=[]:=List.drop_of_length_le (Nat.le_of_eq Jb.o);have Kc:H9 (us=WF):=(by show _=_;have:=Vc.o;rw [e0] at this;simpa using this);rw [e0] at Kb;have Lc:H9 ((!(jg && tl.all (·.done)) && SN)=R):=(by show _=_;have:=Kb;unfold M.spT at this;simpa using this);clear Kb e0 Vc;have Dn:(j:Int)+1≤9223372036854775807:=by omega
   cases jg with
   | false =>
    have Ib:=Ra.o.c 16 rfl;have Hc:=Ra.o.c 17 rfl;have Fd:H9 (SN=R):=(by show _=_;have:=Lc.o;simpa using this);go_wp2;go_roundw
    case rel=>exact ⟨j+1,Da,us,by omega,by go_num,(fun h=>by omega),Nc.o,by rw [Kc.o];exact Sc.o.trans Fd.o,by rw [Kc.o];exact Qd,ai,mi,ci,rfl,Lb.o,Ab.o⟩
    case measure=>simp [intOf];omega
   | true =>
    have C7:∀ W,SeesT W ta tn tc tl→Calls Tryz.prog 27 #[.agg #[.int .i64 Da,.int .i64 a,.int .i64 b,.int .i64 c',.int .i64 d,.int .i64 f,.int .i64 k,.int .i64 a',.int .i64 b',.int .i64 Wa,.int .i64 d',.int .i64 f',.int .i64 k',.int .i64 s1,.int .i64 s2,.int .i64 jr,.bool true,.slice ta tn tc]] W fun e w'=>e=.returned (.bool (tl.all (·.done)))∧Below W.heap.size W w':=fun W h=>l8All_any Da a b c' d f k a' b' Wa d' f' k' s1 s2 jr true W h;generalize tl.all (·.done)=o7 at C7 Lc;have Hc:=Ra.o.c 17 rfl;(go_wp2_with (with_reducible refine wpList_stop 183 ?_ ?_;rfl));show wpList _ _ _ _ _ _;clear Hc;have Ib:=Ra.o.c 16 rfl;with_reducible refine wpList_run ?qg (.bool true) wr ?qrun ?_
    case qg=>exact rfl
    case qrun=>go_simp
    show wpList _ _ _ _ _ _;with_reducible refine wpList_run ?qg (.bool true) wr ?qrun ?_
    case qg | qrun=>exact rfl
    show wpList _ _ _ _ _ _;have iL:(Tryz.prog.info? 44).map (·.size)=some ([it Da,it a,it b,it c',it d,it f,it k,it a',it b',it Wa,it d',it f',it k',it s1,it s2,it jr,.bool true,.slice ta tn tc]:List Value).length:=(show (Tryz.prog.info? 44).map (·.size)=some 18 by kernel_rfl);with_reducible refine wpList_load_want ?qw 44 ?qlw ?qo jb 0 ?qhx [it Da,it a,it b,it c',it d,it f,it k,it a',it b',it Wa,it d',it f',it k',it s1,it s2,it jr,.bool true,.slice ta tn tc] _ Ra.o.row Tryz.underlying44 ?qd iL ?_
    case qw=>kernel_rfl
    case qo=>exact rfl
    case qhx=>kernel_rfl
    case qd=>exact rfl
    clear iL;show wpList _ _ _ _ _ _;clear Ib;(go_wp2_with fail);refine (C7 _ Xc).mono ?_;rintro e w8 ⟨rfl,hb⟩;have Xa:=Hd (Ab.o.trans (hb.mono Ab.o.size));have Pb:=Hd (Lb.o.below hb);clear Ab Wc Ra Lb;clear hb
    cases o7 with
    | true =>
     have HF:H9 (false=R):=(by show _=_;have:=Lc.o;simpa using this);go_wp2;go_ret;exact ⟨ret_bool HF.o,(Qa.o.trans (Xa.o.mono Qa.o.size))⟩
    | false =>
     have Fd:H9 (SN=R):=(by show _=_;have:=Lc.o;simpa using this);go_wp2;go_roundw
     case rel=>exact ⟨j+1,Da,us,by omega,by go_num,(fun h=>by omega),Nc.o,by rw [Kc.o];exact Sc.o.trans Fd.o,by rw [Kc.o];exact Qd,ai,mi,ci,rfl,Pb.o,Xa.o⟩
     case measure=>simp [intOf];omega
end Go.Proofs.YtfhknkppiidnkaaGreat
