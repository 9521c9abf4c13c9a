/- A later job of the market, in the model. Whether a market is right, in the model. -/
import Derived.Test.YtfhknkppiidnkaaGreatMkX3
import Derived.Test.YtfhknkppiidnkaaGreatMkX4
namespace Go.Proofs.YtfhknkppiidnkaaGreat
open Go.RowKit

set_option maxHeartbeats 32000000 in
set_option maxRecDepth 100000 in
theorem mkxB_2 : mkxB.q := by
                  intro ab cb nj cj bs js now next w hlen bnj hcj HI R mkx2z1 w1 HB0 C1 C2 now0 now1 next0 next1 h6 h6I mkx2z2 SJ mkx2z3 mkx2z4 u32 u33 u34 u35 u36 u37 u38 u39 u40 u41 u42 u43 u44 u45 u46 u47 u48 u49 u50 u51 u52 u53 u54 u55 u56 u57 u58 u59 u60 u61 u62 u63 q l hlb bnb hcb h9 h9I mkx2z5 hq mkx2z6 mkx2z8 mkx2z10 mkx2z11 we eb wr u2 u6 u7 u8 u9 u65 u66 u67 u68 u69 u70 u71 u72 u73 u74 u75 u76 u77 u78 u79 u80 u81 u82 u83 u84 u85 u86 u87 u88 u89 u90 u91 u92 u93 u94 u95 u96 u97 u98 u99 u100 u101 u102 u103 u104 u105 u106 u107 u108 u109 u110 u111 u112 u113 u114 u115 u116 u117 u118 u119 u120 u121 u122 u123 u124 u125 u126 u127 u128 u129 u130 u131 u132 u133 u134 u135 u136 u137 u138 u139 u140 u141 u142 u143 u144 u145 u146 u147 u148 u149 u150 u151 u152 u153 u154 u155 u156 u157 u158 u159 u160 u161 u162 u163 u164 u165 u166 u167 u168 u169 u170 u171 u172 u173 u174 u175 u176 u177 u178 u179 u180 u181 u182 u183 u184 u185 u186 u187 j lst ws hj hws al ml cl hlt b1 o1 HL0 HM0 mkx2z7 mkx2z9 ta tc hjI jid jr jg tl a b c' d f k a' b' c'' d' f' k' s1 s2 tn HT HTL HNI htcI htnb oR CR oS CS oM CM oI C3 HI1 HG mkx4z1 mkx4z2 mkx4z3 w2 HB_1 HL_1 HO_1 jb HJ_1 hne0 mkx4z4 mkx4z5 mkx4z6 mkx4z7 p c0 hsb2 hwp hpos hpn hp0 HQP
                  have hX : True := trivial
                  clear hX
                  refine wp_region_noPanic ?_
                  refine wp_region_held_drew (S := fun W => w2.grownBy W none) (by kernel_rfl) (grown_drew _ _) (fun hHeld => ?_)
                  generalize w2.drew = wd0 at hHeld ⊢
                  have HX0 : Hid (Below w2.heap.size w2 wd0) := ⟨hHeld.os, hHeld.tape, hHeld.output, hHeld.size, fun k hk => hHeld.block k hk (by simp)⟩
                  refine wpAnyH_take (i := 0) (v := .pointer (some ⟨jb, 0, none⟩)) rfl (by kernel_rfl) (by kernel_rfl) (by kernel_rfl) (fun _ _ _ h => h) (Or.inl ⟨by kernel_rfl, ?_⟩) (by assumption) ?_
                  · intro wq hSq; go_simp
                  try simp only [Act.put]
                  refine wpAnyH_take (i := 1) (v := .int .i64 jid) rfl (by kernel_rfl) (by kernel_rfl) (by kernel_rfl) (fun _ _ _ h => h) (Or.inl ⟨by kernel_rfl, ?_⟩) (by assumption) ?_
                  · intro wp hSp; have c0 : wp.cell? ⟨jb, 0, none⟩ = some (.int .i64 jid) := (HJ_1.out.grown hSp (by simp)).at 0; go_simp
                  try simp only [Act.put]
                  refine wpAnyH_ready (rs := [2]) (by kernel_rfl) (by simp) ?_
                  refine AllReadyH.cons rfl (fun Kk hK => ?_) AllReadyH.nil
                  go_simp
                  refine (C3 _).mono ?_
                  rintro e wn ⟨rfl, hwn⟩; have hwm := hwn.symm; clear hwn; subst hwm
                  go_simp
                  refine hK.out _ _ (by assumption) (fun hHeld1 => ?_)
                  clear hK Kk
                  try simp only [Act.put]
                  refine wpAnyH_take (i := 3) (v := .bool (!oI)) rfl (by kernel_rfl) (by kernel_rfl) (by kernel_rfl) (fun _ _ _ h => h) (Or.inl ⟨by kernel_rfl, ?_⟩) (by assumption) ?_
                  · intro wq hSq; go_simp
                  try simp only [Act.put]
                  refine wpAnyH_take (i := 4) (v := .bool (!oI)) rfl (by kernel_rfl) (by kernel_rfl) (by kernel_rfl) (fun _ _ _ h => h) (Or.inl ⟨by kernel_rfl, ?_⟩) (by assumption) ?_
                  · intro wq hSq; go_simp
                  try simp only [Act.put]
                  cases oI with
                  | false =>
                    with_reducible refine wpAnyH_finS [5, 6, 7, 8, 9, 10, 11, 12, 13, 14, 15, 16, 17, 18, 19, 20, 21, 22, 23, 24, 25, 26, 27, 28, 29, 30, 31, 32, 33, 34, 35, 36, 37, 38, 39, 40, 41, 42, 43, 44, 45, 46, 47, 48, 49, 50, 51, 52, 53, 54, 55, 56] [(82, undef), (83, undef), (84, undef), (85, undef), (86, undef), (87, .bool true), (88, .bool true), (89, undef), (90, undef), (91, undef), (92, undef), (93, undef), (94, undef), (95, undef), (96, undef), (97, undef), (98, undef), (99, undef), (100, undef), (101, undef), (102, undef), (103, .bool true), (104, .bool true), (105, undef), (106, undef), (107, undef), (108, undef), (109, .bool true), (110, .bool true), (111, undef), (112, undef), (113, undef), (114, undef), (115, .bool true), (116, .bool true), (117, undef), (118, undef), (119, undef), (120, undef), (121, .bool true), (122, .bool true), (123, undef), (124, undef), (125, undef), (126, undef), (127, .bool true), (128, .bool true), (129, undef), (130, undef), (131, undef), (132, undef), (133, .bool true)] ?qs ?qQ ?qS ?qf ?qh ?qk
                    case qs => kernel_rfl
                    case qQ => exact fun _ _ _ _ h => h
                    case qS => assumption
                    case qf => decide
                    case qh => as_aux_lemma => kernel_rfl
                    case qk =>
                      dsimp only [List.foldl]
                      refine NoPanic.normal ?_
                      go_simp
                      have HF : Hid (false = R) := by show _ = _; have := HG.out; simpa using this
                      have HBx : Hid (Below w.heap.size w wd0) := HB0.out.trans ((HB_1.out.trans (HX0.out.mono HB_1.out.size)).mono HB0.out.size)
                      clear HG
                      go_wp2
                      go_ret
                      exact ⟨ret_bool HF.out, HBx.out⟩
                  | true =>
                    refine wpAnyH_take (i := 5) (v := .pointer (some ⟨jb, 0, none⟩)) rfl (by kernel_rfl) (by kernel_rfl) (by kernel_rfl) (fun _ _ _ h => h) (Or.inl ⟨by kernel_rfl, ?_⟩) (by assumption) ?_
                    · intro wq hSq; go_simp
                    try simp only [Act.put]
                    refine wpAnyH_take (i := 6) (v := .int .i64 jid) rfl (by kernel_rfl) (by kernel_rfl) (by kernel_rfl) (fun _ _ _ h => h) (Or.inl ⟨by kernel_rfl, ?_⟩) (by assumption) ?_
                    · intro wp hSp; have c0 : wp.cell? ⟨jb, 0, none⟩ = some (.int .i64 jid) := (HJ_1.out.grown hSp (by simp)).at 0; go_simp
                    try simp only [Act.put]
                    refine wpAnyH_take (i := 7) (v := .pointer (some ⟨w.heap.size, 1, none⟩)) rfl (by kernel_rfl) (by kernel_rfl) (by kernel_rfl) (fun _ _ _ h => h) (Or.inl ⟨by kernel_rfl, ?_⟩) (by assumption) ?_
                    · intro wq hSq; go_simp
                    try simp only [Act.put]
                    refine wpAnyH_take (i := 8) (v := .int .i64 next) rfl (by kernel_rfl) (by kernel_rfl) (by kernel_rfl) (fun _ _ _ h => h) (Or.inl ⟨by kernel_rfl, ?_⟩) (by assumption) ?_
                    · intro wp hSp; have c0 : wp.cell? ⟨w.heap.size, 1, none⟩ = some (.int .i64 next) := (HL_1.out.grown hSp (by simp)).at 1; go_simp
                    try simp only [Act.put]
                    by_cases hc1 : next ≤ jid
                    · skip
                      refine wpAnyH_take (i := 9) (v := .bool true) rfl (by kernel_rfl) (by kernel_rfl) (by kernel_rfl) (fun _ _ _ h => h) (Or.inl ⟨by kernel_rfl, ?_⟩) (by assumption) ?_
                      · intro wq hSq; go_simp
                      try simp only [Act.put]
                      with_reducible refine wpAnyH_finS [10, 11, 12, 13, 14, 15, 16, 17, 18, 19, 20, 21, 22, 23, 24, 25, 26, 27, 28, 29, 30, 31, 32, 33, 34, 35, 36, 37, 38, 39, 40, 41, 42, 43, 44, 45, 46, 47, 48, 49, 50, 51, 52, 53, 54, 55, 56] [(87, .bool true), (88, .bool true), (89, undef), (90, undef), (91, undef), (92, undef), (93, undef), (94, undef), (95, undef), (96, undef), (97, undef), (98, undef), (99, undef), (100, undef), (101, undef), (102, undef), (103, .bool true), (104, .bool true), (105, undef), (106, undef), (107, undef), (108, undef), (109, .bool true), (110, .bool true), (111, undef), (112, undef), (113, undef), (114, undef), (115, .bool true), (116, .bool true), (117, undef), (118, undef), (119, undef), (120, undef), (121, .bool true), (122, .bool true), (123, undef), (124, undef), (125, undef), (126, undef), (127, .bool true), (128, .bool true), (129, undef), (130, undef), (131, undef), (132, undef), (133, .bool true)] ?qs ?qQ ?qS ?qf ?qh ?qk
                      case qs => kernel_rfl
                      case qQ => exact fun _ _ _ _ h => h
                      case qS => assumption
                      case qf => decide
                      case qh => as_aux_lemma => kernel_rfl
                      case qk =>
                        dsimp only [List.foldl]
                        refine NoPanic.normal ?_
                        go_simp
                        have HF : Hid (false = R) := by show _ = _; have := HG.out; rw [show decide (jid < next) = false by simp; omega] at this; simpa using this
                        have HBx : Hid (Below w.heap.size w wd0) := HB0.out.trans ((HB_1.out.trans (HX0.out.mono HB_1.out.size)).mono HB0.out.size)
                        clear HG
                        go_wp2
                        go_ret
                        exact ⟨ret_bool HF.out, HBx.out⟩
                    have hd1 : jid < next := by omega
                    refine wpAnyH_take (i := 9) (v := .bool false) rfl (by kernel_rfl) (by kernel_rfl) (by kernel_rfl) (fun _ _ _ h => h) (Or.inl ⟨by kernel_rfl, ?_⟩) (by assumption) ?_
                    · intro wq hSq; go_simp
                    try simp only [Act.put]
                    refine wpAnyH_take (i := 10) (v := .bool false) rfl (by kernel_rfl) (by kernel_rfl) (by kernel_rfl) (fun _ _ _ h => h) (Or.inl ⟨by kernel_rfl, ?_⟩) (by assumption) ?_
                    · intro wq hSq; go_simp
                    try simp only [Act.put]
                    refine wpAnyH_take (i := 11) (v := .bool false) rfl (by kernel_rfl) (by kernel_rfl) (by kernel_rfl) (fun _ _ _ h => h) (Or.inl ⟨by kernel_rfl, ?_⟩) (by assumption) ?_
                    · intro wq hSq; go_simp
                    try simp only [Act.put]
                    refine wpAnyH_take (i := 12) (v := .int .i64 (j : Nat)) rfl (by kernel_rfl) (by kernel_rfl) (by kernel_rfl) (fun _ _ _ h => h) (Or.inl ⟨by kernel_rfl, ?_⟩) (by assumption) ?_
                    · intro wq hSq; go_simp
                    try simp only [Act.put]
                    refine wpAnyH_take (i := 13) (v := .bool true) rfl (by kernel_rfl) (by kernel_rfl) (by kernel_rfl) (fun _ _ _ h => h) (Or.inl ⟨by kernel_rfl, ?_⟩) (by assumption) ?_
                    · intro wq hSq; go_simp; exact HQP.out
                    try simp only [Act.put]
                    refine wpAnyH_take (i := 14) (v := .bool true) rfl (by kernel_rfl) (by kernel_rfl) (by kernel_rfl) (fun _ _ _ h => h) (Or.inl ⟨by kernel_rfl, ?_⟩) (by assumption) ?_
                    · intro wq hSq; go_simp
                    try simp only [Act.put]
                    refine wpAnyH_take (i := 15) (v := .pointer (some ⟨w.heap.size, 3, none⟩)) rfl (by kernel_rfl) (by kernel_rfl) (by kernel_rfl) (fun _ _ _ h => h) (Or.inl ⟨by kernel_rfl, ?_⟩) (by assumption) ?_
                    · intro wq hSq; go_simp
                    try simp only [Act.put]
                    refine wpAnyH_take (i := 16) (v := .slice (some ⟨b1, o1, none⟩) nj cj) rfl (by kernel_rfl) (by kernel_rfl) (by kernel_rfl) (fun _ _ _ h => h) (Or.inl ⟨by kernel_rfl, ?_⟩) (by assumption) ?_
                    · intro wp hSp; have c0 : wp.cell? ⟨w.heap.size, 3, none⟩ = some (.slice (some ⟨b1, o1, none⟩) nj cj) := (HL_1.out.grown hSp (by simp)).at 3; go_simp
                    try simp only [Act.put]
                    refine wpAnyH_take (i := 17) (v := .int .i64 (j : Nat)) rfl (by kernel_rfl) (by kernel_rfl) (by kernel_rfl) (fun _ _ _ h => h) (Or.inl ⟨by kernel_rfl, ?_⟩) (by assumption) ?_
                    · intro wq hSq; go_simp
                    try simp only [Act.put]
                    refine wpAnyH_take (i := 18) (v := .int .i64 p) rfl (by kernel_rfl) (by kernel_rfl) (by kernel_rfl) (fun _ _ _ h => h) (Or.inl ⟨by kernel_rfl, ?_⟩) (by assumption) ?_
                    · intro wq hSq; go_simp
                    try simp only [Act.put]
                    refine wpAnyH_take (i := 19) (v := .pointer (some ⟨b1, o1 + p * 18, none⟩)) rfl (by kernel_rfl) (by kernel_rfl) (by kernel_rfl) (fun _ _ _ h => h) (Or.inl ⟨by kernel_rfl, ?_⟩) (by assumption) ?_
                    · intro wq hSq; go_simp
                    try simp only [Act.put]
                    refine wpAnyH_take (i := 20) (v := .pointer (some ⟨b1, o1 + p * 18, none⟩)) rfl (by kernel_rfl) (by kernel_rfl) (by kernel_rfl) (fun _ _ _ h => h) (Or.inl ⟨by kernel_rfl, ?_⟩) (by assumption) ?_
                    · intro wq hSq; go_simp
                    try simp only [Act.put]
                    refine wpAnyH_take (i := 21) (v := .int .i64 lst) rfl (by kernel_rfl) (by kernel_rfl) (by kernel_rfl) (fun _ _ _ h => h) (Or.inl ⟨by kernel_rfl, ?_⟩) (by assumption) ?_
                    · intro wp hSp; have c0 : wp.cell? ⟨b1, o1 + p * 18, none⟩ = some (.int .i64 lst) := hSp.cell c0 (by simp); go_simp
                    try simp only [Act.put]
                    refine wpAnyH_take (i := 22) (v := .pointer (some ⟨jb, 0, none⟩)) rfl (by kernel_rfl) (by kernel_rfl) (by kernel_rfl) (fun _ _ _ h => h) (Or.inl ⟨by kernel_rfl, ?_⟩) (by assumption) ?_
                    · intro wq hSq; go_simp
                    try simp only [Act.put]
                    refine wpAnyH_take (i := 23) (v := .int .i64 jid) rfl (by kernel_rfl) (by kernel_rfl) (by kernel_rfl) (fun _ _ _ h => h) (Or.inl ⟨by kernel_rfl, ?_⟩) (by assumption) ?_
                    · intro wp hSp; have c0 : wp.cell? ⟨jb, 0, none⟩ = some (.int .i64 jid) := (HJ_1.out.grown hSp (by simp)).at 0; go_simp
                    try simp only [Act.put]
                    by_cases hc2 : jid ≤ lst
                    · skip
                      refine wpAnyH_take (i := 24) (v := .bool true) rfl (by kernel_rfl) (by kernel_rfl) (by kernel_rfl) (fun _ _ _ h => h) (Or.inl ⟨by kernel_rfl, ?_⟩) (by assumption) ?_
                      · intro wq hSq; go_simp
                      try simp only [Act.put]
                      refine wpAnyH_take (i := 25) (v := .bool true) rfl (by kernel_rfl) (by kernel_rfl) (by kernel_rfl) (fun _ _ _ h => h) (Or.inl ⟨by kernel_rfl, ?_⟩) (by assumption) ?_
                      · intro wq hSq; go_simp
                      try simp only [Act.put]
                      with_reducible refine wpAnyH_finS [26, 27, 28, 29, 30, 31, 32, 33, 34, 35, 36, 37, 38, 39, 40, 41, 42, 43, 44, 45, 46, 47, 48, 49, 50, 51, 52, 53, 54, 55, 56] [(103, .bool true), (104, .bool true), (105, undef), (106, undef), (107, undef), (108, undef), (109, .bool true), (110, .bool true), (111, undef), (112, undef), (113, undef), (114, undef), (115, .bool true), (116, .bool true), (117, undef), (118, undef), (119, undef), (120, undef), (121, .bool true), (122, .bool true), (123, undef), (124, undef), (125, undef), (126, undef), (127, .bool true), (128, .bool true), (129, undef), (130, undef), (131, undef), (132, undef), (133, .bool true)] ?qs ?qQ ?qS ?qf ?qh ?qk
                      case qs => kernel_rfl
                      case qQ => exact fun _ _ _ _ h => h
                      case qS => assumption
                      case qf => decide
                      case qh => as_aux_lemma => kernel_rfl
                      case qk =>
                        dsimp only [List.foldl]
                        refine NoPanic.normal ?_
                        go_simp
                        have HF : Hid (false = R) := by show _ = _; have := HG.out; rw [show decide (lst < jid) = false by simp; omega] at this; simpa using this
                        have HBx : Hid (Below w.heap.size w wd0) := HB0.out.trans ((HB_1.out.trans (HX0.out.mono HB_1.out.size)).mono HB0.out.size)
                        clear HG
                        go_wp2
                        go_ret
                        exact ⟨ret_bool HF.out, HBx.out⟩
                    have hd2 : lst < jid := by omega
                    refine wpAnyH_take (i := 24) (v := .bool false) rfl (by kernel_rfl) (by kernel_rfl) (by kernel_rfl) (fun _ _ _ h => h) (Or.inl ⟨by kernel_rfl, ?_⟩) (by assumption) ?_
                    · intro wq hSq; go_simp
                    try simp only [Act.put]
                    refine wpAnyH_take (i := 25) (v := .bool false) rfl (by kernel_rfl) (by kernel_rfl) (by kernel_rfl) (fun _ _ _ h => h) (Or.inl ⟨by kernel_rfl, ?_⟩) (by assumption) ?_
                    · intro wq hSq; go_simp
                    try simp only [Act.put]
                    refine wpAnyH_take (i := 26) (v := .bool false) rfl (by kernel_rfl) (by kernel_rfl) (by kernel_rfl) (fun _ _ _ h => h) (Or.inl ⟨by kernel_rfl, ?_⟩) (by assumption) ?_
                    · intro wq hSq; go_simp
                    try simp only [Act.put]
                    refine wpAnyH_take (i := 27) (v := .bool false) rfl (by kernel_rfl) (by kernel_rfl) (by kernel_rfl) (fun _ _ _ h => h) (Or.inl ⟨by kernel_rfl, ?_⟩) (by assumption) ?_
                    · intro wq hSq; go_simp
                    try simp only [Act.put]
                    refine wpAnyH_take (i := 28) (v := .pointer (some ⟨jb, 1, none⟩)) rfl (by kernel_rfl) (by kernel_rfl) (by kernel_rfl) (fun _ _ _ h => h) (Or.inl ⟨by kernel_rfl, ?_⟩) (by assumption) ?_
                    · intro wq hSq; go_simp
                    try simp only [Act.put]
                    have hMM : ∀ W : World, w2.grownBy W none → W.rangeAt jb 1 [.int .i64 a, .int .i64 b, .int .i64 c', .int .i64 d, .int .i64 f, .int .i64 k, .int .i64 a', .int .i64 b', .int .i64 c'', .int .i64 d', .int .i64 f', .int .i64 k'] := fun W h => (HJ_1.out.grown h (by simp)).mid 1 12
                    refine wpAnyH_take (i := 29) (v := .agg ([.int .i64 a, .int .i64 b, .int .i64 c', .int .i64 d, .int .i64 f, .int .i64 k, .int .i64 a', .int .i64 b', .int .i64 c'', .int .i64 d', .int .i64 f', .int .i64 k'] : List Value).toArray) rfl (by kernel_rfl) (by kernel_rfl) (by kernel_rfl) (fun _ _ _ h => h) (yieldsIf_load_mid (by kernel_rfl) 41 (.tmp 105) rfl jb 1 (by kernel_rfl) ([.int .i64 a, .int .i64 b, .int .i64 c', .int .i64 d, .int .i64 f, .int .i64 k, .int .i64 a', .int .i64 b', .int .i64 c'', .int .i64 d', .int .i64 f', .int .i64 k'] : List Value) _ hMM Tryz.underlying41 rfl (by kernel_rfl)) (by assumption) ?_
                    try simp only [Act.put]
                    clear hMM
                    refine wpAnyH_ready (rs := [30]) (by kernel_rfl) (by simp) ?_
                    refine AllReadyH.cons rfl (fun Kk hK => ?_) AllReadyH.nil
                    go_simp
                    refine (CM _).mono ?_
                    rintro e wd1 ⟨rfl, hb1⟩
                    go_simp
                    have hS1 : w2.grownBy wd1 none := grown_step hHeld hb1
                    have HX1 : Hid (Below w2.heap.size w2 wd1) := ⟨hS1.os, hS1.tape, hS1.output, hS1.size, fun k hk => hS1.block k hk (by simp)⟩
                    refine hK.out _ _ hS1 (fun _ => ?_)
                    clear hK Kk hb1
                    try simp only [Act.put]
                    refine wpAnyH_take (i := 31) (v := .bool (!oM)) rfl (by kernel_rfl) (by kernel_rfl) (by kernel_rfl) (fun _ _ _ h => h) (Or.inl ⟨by kernel_rfl, ?_⟩) (by assumption) ?_
                    · intro wq hSq; go_simp
                    try simp only [Act.put]
                    refine wpAnyH_take (i := 32) (v := .bool (!oM)) rfl (by kernel_rfl) (by kernel_rfl) (by kernel_rfl) (fun _ _ _ h => h) (Or.inl ⟨by kernel_rfl, ?_⟩) (by assumption) ?_
                    · intro wq hSq; go_simp
                    try simp only [Act.put]
                    refine wpAnyH_take (i := 33) (v := .bool (!oM)) rfl (by kernel_rfl) (by kernel_rfl) (by kernel_rfl) (fun _ _ _ h => h) (Or.inl ⟨by kernel_rfl, ?_⟩) (by assumption) ?_
                    · intro wq hSq; go_simp
                    try simp only [Act.put]
                    cases oM with
                    | false =>
                      with_reducible refine wpAnyH_finS [34, 35, 36, 37, 38, 39, 40, 41, 42, 43, 44, 45, 46, 47, 48, 49, 50, 51, 52, 53, 54, 55, 56] [(111, undef), (112, undef), (113, undef), (114, undef), (115, .bool true), (116, .bool true), (117, undef), (118, undef), (119, undef), (120, undef), (121, .bool true), (122, .bool true), (123, undef), (124, undef), (125, undef), (126, undef), (127, .bool true), (128, .bool true), (129, undef), (130, undef), (131, undef), (132, undef), (133, .bool true)] ?qs ?qQ ?qS ?qf ?qh ?qk
                      case qs => kernel_rfl
                      case qQ => exact fun _ _ _ _ h => h
                      case qS => assumption
                      case qf => decide
                      case qh => as_aux_lemma => kernel_rfl
                      case qk =>
                        dsimp only [List.foldl]
                        refine NoPanic.normal ?_
                        go_simp
                        have HF : Hid (false = R) := by show _ = _; have := HG.out; simpa using this
                        have HBx : Hid (Below w.heap.size w wd1) := HB0.out.trans ((HB_1.out.trans (HX1.out.mono HB_1.out.size)).mono HB0.out.size)
                        clear HG
                        go_wp2
                        go_ret
                        exact ⟨ret_bool HF.out, HBx.out⟩
                    | true =>
                      refine wpAnyH_take (i := 34) (v := .pointer (some ⟨jb, 13, none⟩)) rfl (by kernel_rfl) (by kernel_rfl) (by kernel_rfl) (fun _ _ _ h => h) (Or.inl ⟨by kernel_rfl, ?_⟩) (by assumption) ?_
                      · intro wq hSq; go_simp
                      try simp only [Act.put]
                      refine wpAnyH_take (i := 35) (v := .agg #[.int .i64 s1, .int .i64 s2]) rfl (by kernel_rfl) (by kernel_rfl) (by kernel_rfl) (fun _ _ _ h => h) (Or.inl ⟨by kernel_rfl, ?_⟩) (by assumption) ?_
                      · intro wp hSp; have c0 : wp.cell? ⟨jb, 13, none⟩ = some (.int .i64 s1) := (HJ_1.out.grown hSp (by simp)).at 13; have c1 : wp.cell? ⟨jb, 14, none⟩ = some (.int .i64 s2) := (HJ_1.out.grown hSp (by simp)).at 14; go_simp
                      try simp only [Act.put]
                      refine wpAnyH_ready (rs := [36]) (by kernel_rfl) (by simp) ?_
                      refine AllReadyH.cons rfl (fun Kk hK => ?_) AllReadyH.nil
                      go_simp
                      refine (CS _).mono ?_
                      rintro e wd2 ⟨rfl, hb2⟩
                      go_simp
                      have hS2 : w2.grownBy wd2 none := grown_step hS1 hb2
                      have HX2 : Hid (Below w2.heap.size w2 wd2) := ⟨hS2.os, hS2.tape, hS2.output, hS2.size, fun k hk => hS2.block k hk (by simp)⟩
                      refine hK.out _ _ hS2 (fun _ => ?_)
                      clear hK Kk hb2
                      try simp only [Act.put]
                      refine wpAnyH_take (i := 37) (v := .bool (!oS)) rfl (by kernel_rfl) (by kernel_rfl) (by kernel_rfl) (fun _ _ _ h => h) (Or.inl ⟨by kernel_rfl, ?_⟩) (by assumption) ?_
                      · intro wq hSq; go_simp
                      try simp only [Act.put]
                      refine wpAnyH_take (i := 38) (v := .bool (!oS)) rfl (by kernel_rfl) (by kernel_rfl) (by kernel_rfl) (fun _ _ _ h => h) (Or.inl ⟨by kernel_rfl, ?_⟩) (by assumption) ?_
                      · intro wq hSq; go_simp
                      try simp only [Act.put]
                      refine wpAnyH_take (i := 39) (v := .bool (!oS)) rfl (by kernel_rfl) (by kernel_rfl) (by kernel_rfl) (fun _ _ _ h => h) (Or.inl ⟨by kernel_rfl, ?_⟩) (by assumption) ?_
                      · intro wq hSq; go_simp
                      try simp only [Act.put]
                      cases oS with
                      | false =>
                        with_reducible refine wpAnyH_finS [40, 41, 42, 43, 44, 45, 46, 47, 48, 49, 50, 51, 52, 53, 54, 55, 56] [(117, undef), (118, undef), (119, undef), (120, undef), (121, .bool true), (122, .bool true), (123, undef), (124, undef), (125, undef), (126, undef), (127, .bool true), (128, .bool true), (129, undef), (130, undef), (131, undef), (132, undef), (133, .bool true)] ?qs ?qQ ?qS ?qf ?qh ?qk
                        case qs => kernel_rfl
                        case qQ => exact fun _ _ _ _ h => h
                        case qS => assumption
                        case qf => decide
                        case qh => as_aux_lemma => kernel_rfl
                        case qk =>
                          dsimp only [List.foldl]
                          refine NoPanic.normal ?_
                          go_simp
                          have HF : Hid (false = R) := by show _ = _; have := HG.out; simpa using this
                          have HBx : Hid (Below w.heap.size w wd2) := HB0.out.trans ((HB_1.out.trans (HX2.out.mono HB_1.out.size)).mono HB0.out.size)
                          clear HG
                          go_wp2
                          go_ret
                          exact ⟨ret_bool HF.out, HBx.out⟩
                      | true =>
                        refine wpAnyH_take (i := 40) (v := .pointer (some ⟨jb, 15, none⟩)) rfl (by kernel_rfl) (by kernel_rfl) (by kernel_rfl) (fun _ _ _ h => h) (Or.inl ⟨by kernel_rfl, ?_⟩) (by assumption) ?_
                        · intro wq hSq; go_simp
                        try simp only [Act.put]
                        refine wpAnyH_take (i := 41) (v := .int .i64 jr) rfl (by kernel_rfl) (by kernel_rfl) (by kernel_rfl) (fun _ _ _ h => h) (Or.inl ⟨by kernel_rfl, ?_⟩) (by assumption) ?_
                        · intro wp hSp; have c0 : wp.cell? ⟨jb, 15, none⟩ = some (.int .i64 jr) := (HJ_1.out.grown hSp (by simp)).at 15; go_simp
                        try simp only [Act.put]
                        refine wpAnyH_ready (rs := [42]) (by kernel_rfl) (by simp) ?_
                        refine AllReadyH.cons rfl (fun Kk hK => ?_) AllReadyH.nil
                        go_simp
                        refine (CR _).mono ?_
                        rintro e wn ⟨rfl, hwn⟩; have hwm := hwn.symm; clear hwn; subst hwm
                        go_simp
                        refine hK.out _ _ (by assumption) (fun hHeld1 => ?_)
                        clear hK Kk
                        try simp only [Act.put]
                        refine wpAnyH_take (i := 43) (v := .bool (!oR)) rfl (by kernel_rfl) (by kernel_rfl) (by kernel_rfl) (fun _ _ _ h => h) (Or.inl ⟨by kernel_rfl, ?_⟩) (by assumption) ?_
                        · intro wq hSq; go_simp
                        try simp only [Act.put]
                        refine wpAnyH_take (i := 44) (v := .bool (!oR)) rfl (by kernel_rfl) (by kernel_rfl) (by kernel_rfl) (fun _ _ _ h => h) (Or.inl ⟨by kernel_rfl, ?_⟩) (by assumption) ?_
                        · intro wq hSq; go_simp
                        try simp only [Act.put]
                        refine wpAnyH_take (i := 45) (v := .bool (!oR)) rfl (by kernel_rfl) (by kernel_rfl) (by kernel_rfl) (fun _ _ _ h => h) (Or.inl ⟨by kernel_rfl, ?_⟩) (by assumption) ?_
                        · intro wq hSq; go_simp
                        try simp only [Act.put]
                        cases oR with
                        | false =>
                          with_reducible refine wpAnyH_finS [46, 47, 48, 49, 50, 51, 52, 53, 54, 55, 56] [(123, undef), (124, undef), (125, undef), (126, undef), (127, .bool true), (128, .bool true), (129, undef), (130, undef), (131, undef), (132, undef), (133, .bool true)] ?qs ?qQ ?qS ?qf ?qh ?qk
                          case qs => kernel_rfl
                          case qQ => exact fun _ _ _ _ h => h
                          case qS => assumption
                          case qf => decide
                          case qh => as_aux_lemma => kernel_rfl
                          case qk =>
                            dsimp only [List.foldl]
                            refine NoPanic.normal ?_
                            go_simp
                            have HF : Hid (false = R) := by show _ = _; have := HG.out; simpa using this
                            have HBx : Hid (Below w.heap.size w wd2) := HB0.out.trans ((HB_1.out.trans (HX2.out.mono HB_1.out.size)).mono HB0.out.size)
                            clear HG
                            go_wp2
                            go_ret
                            exact ⟨ret_bool HF.out, HBx.out⟩
                        | true =>
                          refine wpAnyH_take (i := 46) (v := .pointer (some ⟨jb, 17, none⟩)) rfl (by kernel_rfl) (by kernel_rfl) (by kernel_rfl) (fun _ _ _ h => h) (Or.inl ⟨by kernel_rfl, ?_⟩) (by assumption) ?_
                          · intro wq hSq; go_simp
                          try simp only [Act.put]
                          refine wpAnyH_take (i := 47) (v := .slice ta tn tc) rfl (by kernel_rfl) (by kernel_rfl) (by kernel_rfl) (fun _ _ _ h => h) (Or.inl ⟨by kernel_rfl, ?_⟩) (by assumption) ?_
                          · intro wp hSp; have c0 : wp.cell? ⟨jb, 17, none⟩ = some (.slice ta tn tc) := (HJ_1.out.grown hSp (by simp)).at 17; go_simp
                          try simp only [Act.put]
                          refine wpAnyH_take (i := 48) (v := .int .i64 tn) rfl (by kernel_rfl) (by kernel_rfl) (by kernel_rfl) (fun _ _ _ h => h) (Or.inl ⟨by kernel_rfl, ?_⟩) (by assumption) ?_
                          · intro wq hSq; go_simp
                          try simp only [Act.put]
                          by_cases hc6 : (tn : Int) < 1
                          · skip
                            refine wpAnyH_take (i := 49) (v := .bool true) rfl (by kernel_rfl) (by kernel_rfl) (by kernel_rfl) (fun _ _ _ h => h) (Or.inl ⟨by kernel_rfl, ?_⟩) (by assumption) ?_
                            · intro wq hSq; go_simp
                            try simp only [Act.put]
                            with_reducible refine wpAnyH_finS [50, 51, 52, 53, 54, 55, 56] [(127, .bool true), (128, .bool true), (129, undef), (130, undef), (131, undef), (132, undef), (133, .bool true)] ?qs ?qQ ?qS ?qf ?qh ?qk
                            case qs => kernel_rfl
                            case qQ => exact fun _ _ _ _ h => h
                            case qS => assumption
                            case qf => decide
                            case qh => as_aux_lemma => kernel_rfl
                            case qk =>
                              dsimp only [List.foldl]
                              refine NoPanic.normal ?_
                              go_simp
                              have HF : Hid (false = R) := by show _ = _; have := HG.out; rw [show decide (1 ≤ tn) = false by simp; omega] at this; simpa using this
                              have HBx : Hid (Below w.heap.size w wd2) := HB0.out.trans ((HB_1.out.trans (HX2.out.mono HB_1.out.size)).mono HB0.out.size)
                              clear HG
                              go_wp2
                              go_ret
                              exact ⟨ret_bool HF.out, HBx.out⟩
                          have hd6 : (1 : Int) ≤ (tn : Int) := by omega
                          refine wpAnyH_take (i := 49) (v := .bool false) rfl (by kernel_rfl) (by kernel_rfl) (by kernel_rfl) (fun _ _ _ h => h) (Or.inl ⟨by kernel_rfl, ?_⟩) (by assumption) ?_
                          · intro wq hSq; go_simp
                          try simp only [Act.put]
                          refine wpAnyH_take (i := 50) (v := .bool false) rfl (by kernel_rfl) (by kernel_rfl) (by kernel_rfl) (fun _ _ _ h => h) (Or.inl ⟨by kernel_rfl, ?_⟩) (by assumption) ?_
                          · intro wq hSq; go_simp
                          try simp only [Act.put]
                          refine wpAnyH_take (i := 51) (v := .bool false) rfl (by kernel_rfl) (by kernel_rfl) (by kernel_rfl) (fun _ _ _ h => h) (Or.inl ⟨by kernel_rfl, ?_⟩) (by assumption) ?_
                          · intro wq hSq; go_simp
                          try simp only [Act.put]
                          refine wpAnyH_take (i := 52) (v := .pointer (some ⟨jb, 17, none⟩)) rfl (by kernel_rfl) (by kernel_rfl) (by kernel_rfl) (fun _ _ _ h => h) (Or.inl ⟨by kernel_rfl, ?_⟩) (by assumption) ?_
                          · intro wq hSq; go_simp
                          try simp only [Act.put]
                          refine wpAnyH_take (i := 53) (v := .slice ta tn tc) rfl (by kernel_rfl) (by kernel_rfl) (by kernel_rfl) (fun _ _ _ h => h) (Or.inl ⟨by kernel_rfl, ?_⟩) (by assumption) ?_
                          · intro wp hSp; have c0 : wp.cell? ⟨jb, 17, none⟩ = some (.slice ta tn tc) := (HJ_1.out.grown hSp (by simp)).at 17; go_simp
                          try simp only [Act.put]
                          refine wpAnyH_take (i := 54) (v := .int .i64 tn) rfl (by kernel_rfl) (by kernel_rfl) (by kernel_rfl) (fun _ _ _ h => h) (Or.inl ⟨by kernel_rfl, ?_⟩) (by assumption) ?_
                          · intro wq hSq; go_simp
                          try simp only [Act.put]
                          by_cases hc7 : (8 : Int) < (tn : Int)
                          · skip
                            refine wpAnyH_take (i := 55) (v := .bool true) rfl (by kernel_rfl) (by kernel_rfl) (by kernel_rfl) (fun _ _ _ h => h) (Or.inl ⟨by kernel_rfl, ?_⟩) (by assumption) ?_
                            · intro wq hSq; go_simp
                            try simp only [Act.put]
                            with_reducible refine wpAnyH_finS [56] [(133, .bool true)] ?qs ?qQ ?qS ?qf ?qh ?qk
                            case qs => kernel_rfl
                            case qQ => exact fun _ _ _ _ h => h
                            case qS => assumption
                            case qf => decide
                            case qh => as_aux_lemma => kernel_rfl
                            case qk =>
                              dsimp only [List.foldl]
                              refine NoPanic.normal ?_
                              go_simp
                              have HF : Hid (false = R) := by show _ = _; have := HG.out; rw [show decide (tn ≤ 8) = false by simp; omega] at this; simpa using this
                              have HBx : Hid (Below w.heap.size w wd2) := HB0.out.trans ((HB_1.out.trans (HX2.out.mono HB_1.out.size)).mono HB0.out.size)
                              clear HG
                              go_wp2
                              go_ret
                              exact ⟨ret_bool HF.out, HBx.out⟩
                          have hd7 : (tn : Int) ≤ 8 := by omega
                          refine wpAnyH_take (i := 55) (v := .bool false) rfl (by kernel_rfl) (by kernel_rfl) (by kernel_rfl) (fun _ _ _ h => h) (Or.inl ⟨by kernel_rfl, ?_⟩) (by assumption) ?_
                          · intro wq hSq; go_simp
                          try simp only [Act.put]
                          refine wpAnyH_take (i := 56) (v := .bool false) rfl (by kernel_rfl) (by kernel_rfl) (by kernel_rfl) (fun _ _ _ h => h) (Or.inl ⟨by kernel_rfl, ?_⟩) (by assumption) ?_
                          · intro wq hSq; go_simp
                          try simp only [Act.put]
                          refine wpAnyH_done (by kernel_rfl) ?_ _
                          refine NoPanic.normal ?_
                          go_simp
                          have HB_2 : Hid (Below w1.heap.size w1 wd2) := HB_1.out.trans (HX2.out.mono HB_1.out.size)
                          have HL_2 : Hid (Lies wd2 w.heap.size [.int .i64 now, .int .i64 next, .slice ab q cb, .slice (some ⟨b1, o1, none⟩) nj cj]) := HL_1.out.belowS HX2.out
                          have HO_2 : Hid (Owns 2 wd2 w1.heap.size al ml cl ws) := HO_1.out.below HX2.out
                          have HJ_2 : Hid (Lies wd2 jb [.int .i64 jid, .int .i64 a, .int .i64 b, .int .i64 c', .int .i64 d, .int .i64 f, .int .i64 k, .int .i64 a', .int .i64 b', .int .i64 c'', .int .i64 d', .int .i64 f', .int .i64 k', .int .i64 s1, .int .i64 s2, .int .i64 jr, .bool jg, .slice ta tn tc]) := HJ_1.out.belowS HX2.out
                          clear HB_1 HL_1 HO_1 HJ_1
                          have hj1 := HI1.out rfl
                          have HG2 : Hid (((M.spT now bs jg ws tl && !(jg && tl.all (·.done))) && M.spJ now next bs jid (ws ++ tl.map (·.worker)) (js.drop (j + 1))) = R) := by show _ = _; have := HG.out; rw [show decide (jid < next) = true by simp; omega, show decide (lst < jid) = true by simp; omega, show decide (1 ≤ tn) = true by simp; omega, show decide (tn ≤ 8) = true by simp; omega] at this; simpa using this
                          clear HG HI1 C3 CM CS CR
                          generalize hSN : M.spJ now next bs jid (ws ++ tl.map (·.worker)) (js.drop (j + 1)) = SN at HG2
                          have HSN : Hid (M.spJ now next bs jid (ws ++ tl.map (·.worker)) (js.drop (j + 1)) = SN) := hSN
                          generalize hWF : ws ++ tl.map (·.worker) = WF at HSN
                          have HWF : Hid (ws ++ tl.map (·.worker) = WF) := hWF
                          clear hSN hWF
                          have hWL : WF.length ≤ 8 * (j + 1) := by rw [← HWF.out, List.length_append, List.length_map, HTL.out]; omega
                          clear HL_2
                          go_wp2
                          go_loopw [4, 7] (fun l i wr => ∃ (p : Nat) (us : List Int), p ≤ tn ∧ i = .int .i64 p ∧ SpL now bs jg tl R SN WF w1 jb [.int .i64 jid, .int .i64 a, .int .i64 b, .int .i64 c', .int .i64 d, .int .i64 f, .int .i64 k, .int .i64 a', .int .i64 b', .int .i64 c'', .int .i64 d', .int .i64 f', .int .i64 k', .int .i64 s1, .int .i64 s2, .int .i64 jr, .bool jg, .slice ta tn tc] p us l wr) (fun _ i _ => tn - (intOf i).toNat)
                          case atStart => exact ⟨0, ws, by omega, rfl, HG2.out, HWF.out, HJ_2.out, hne0, _, _, _, rfl, HO_2.out, HB_2.out⟩
                          case round =>
                            obtain ⟨p, us, hp, rfl, hg3, hwf, hlj, hne, ai, mi, ci, rfl, ho3, hb3⟩ := hrel
                            clear HG2 hne0 HB_2 HO_2 HJ_2
                            have HWF3 : Hid (us ++ (tl.drop p).map (·.worker) = WF) := hwf
                            have hul : us.length ≤ 64 := by have := congrArg List.length hwf; rw [List.length_append] at this; omega
                            have hmi := ho3.count
                            have HNE : Hid ((Value.slice ai mi ci).ownBlock ≠ some jb) := hne
                            clear hwf hne
                            have HB_0 : Hid (Below w1.heap.size w1 wr) := hb3
                            have HL_0 : Hid (Lies wr w.heap.size [.int .i64 now, .int .i64 next, .slice ab q cb, .slice (some ⟨b1, o1, none⟩) nj cj]) := HL0.out.belowS hb3
                            have HJ_0 : Hid (Lies wr jb [.int .i64 jid, .int .i64 a, .int .i64 b, .int .i64 c', .int .i64 d, .int .i64 f, .int .i64 k, .int .i64 a', .int .i64 b', .int .i64 c'', .int .i64 d', .int .i64 f', .int .i64 k', .int .i64 s1, .int .i64 s2, .int .i64 jr, .bool jg, .slice ta tn tc]) := hlj
                            have HO_0 : Hid (Owns 2 wr w1.heap.size ai mi ci us) := ho3
                            have hT2 := HT.out.below hb3
                            clear hb3 hlj ho3
                            by_cases hpt : p < tn
                            case pos =>
                              obtain ⟨b2, o2, rfl, hc2⟩ := hT2.at (by omega)
                              have hA := hc2 p hpt
                              have hpI : (p : Int) < (tn : Int) := by omega
                              have hG3 := hg3
                              rw [drop_step M.t0 HTL.out hpt] at hG3
                              have hW3 := HWF3.out
                              rw [drop_step M.t0 HTL.out hpt] at hW3
                              unfold M.spT at hG3
                              have C4 : ∀ W, Sees W ab q cb bs → Calls Tryz.prog 56 #[.agg #[.int .i64 now, .int .i64 next, .slice ab q cb, .slice (some ⟨b1, o1, none⟩) nj cj], tkv (tl.getD p M.t0)] W fun e w' => e = .returned (.bool (M.spK now bs (tl.getD p M.t0))) ∧ Below W.heap.size W w' := fun W h => l8Task_any now next _ now0 now1 W h
                              generalize tl.getD p M.t0 = x at hA hG3 hW3 C4
                              obtain ⟨td, x, y⟩ := x
                              dsimp only [tkv] at C4
                              rw [List.map_cons] at hW3
                              dsimp only at hW3 hG3
                              generalize M.spK now bs ⟨td, x, y⟩ = o4 at C4 hG3
                              generalize hoc : (M.leased ⟨td, x, y⟩ && us.contains x) = oc at hG3
                              have HOC : Hid ((M.leased ⟨td, x, y⟩ && us.contains x) = oc) := hoc
                              have HLd : Hid (M.leased ⟨td, x, y⟩ = (x != 0)) := by show _ = _; unfold M.leased; by_cases e : x = 0 <;> simp [e]
                              generalize M.leased ⟨td, x, y⟩ = ol at hG3 HOC HLd
                              have HG3 : Hid (_ = R) := hG3
                              have HW3 : Hid (us ++ (x :: (tl.drop (p + 1)).map (·.worker)) = WF) := hW3
                              clear hg3 hG3 hoc hW3 hc2 hT2
                              have x17 : wr.cell? ⟨jb, 17, none⟩ = some (.slice (some ⟨b2, o2, none⟩) tn tc) := HJ_0.out.at 17
                              have a0 : wr.cell? ⟨b2, o2 + p * 3, none⟩ = some (.bool td) := hA 0 (by omega)
                              have a1 : wr.cell? ⟨b2, o2 + p * 3 + 1, none⟩ = some (.int .i64 x) := hA 1 (by omega)
                              have a2 : wr.cell? ⟨b2, o2 + p * 3 + 2, none⟩ = some (.int .i64 y) := hA 2 (by omega)
                              clear hA
                              have hba : Below wr.heap.size wr (wr.alloc (.cells #[.bool td, .int .i64 x, .int .i64 y] 74)) := (Below.refl _ _).alloc (Nat.le_refl _) _
                              have HB_1 : Hid (Below w1.heap.size w1 (wr.alloc (.cells #[.bool td, .int .i64 x, .int .i64 y] 74))) := HB_0.out.trans (hba.mono HB_0.out.size)
                              have HL_1 : Hid (Lies (wr.alloc (.cells #[.bool td, .int .i64 x, .int .i64 y] 74)) w.heap.size [.int .i64 now, .int .i64 next, .slice ab q cb, .slice (some ⟨b1, o1, none⟩) nj cj]) := HL_0.out.belowS hba
                              have HJ_1 : Hid (Lies (wr.alloc (.cells #[.bool td, .int .i64 x, .int .i64 y] 74)) jb [.int .i64 jid, .int .i64 a, .int .i64 b, .int .i64 c', .int .i64 d, .int .i64 f, .int .i64 k, .int .i64 a', .int .i64 b', .int .i64 c'', .int .i64 d', .int .i64 f', .int .i64 k', .int .i64 s1, .int .i64 s2, .int .i64 jr, .bool jg, .slice (some ⟨b2, o2, none⟩) tn tc]) := HJ_0.out.belowS hba
                              have HO_1 : Hid (Owns 2 (wr.alloc (.cells #[.bool td, .int .i64 x, .int .i64 y] 74)) w1.heap.size ai mi ci us) := HO_0.out.below hba
                              clear HB_0 HL_0 HJ_0 HO_0
                              clear hba
                              have HK_1 : Hid (Lies (wr.alloc (.cells #[.bool td, .int .i64 x, .int .i64 y] 74)) wr.heap.size [.bool td, .int .i64 x, .int .i64 y]) := lies_new _ _ _
                              have m0 : (wr.alloc (.cells #[.bool td, .int .i64 x, .int .i64 y] 74)).cell? ⟨w.heap.size, 0, none⟩ = some (.int .i64 now) := HL_1.out.at 0
                              have m1 : (wr.alloc (.cells #[.bool td, .int .i64 x, .int .i64 y] 74)).cell? ⟨w.heap.size, 1, none⟩ = some (.int .i64 next) := HL_1.out.at 1
                              have m2 : (wr.alloc (.cells #[.bool td, .int .i64 x, .int .i64 y] 74)).cell? ⟨w.heap.size, 2, none⟩ = some (.slice ab q cb) := HL_1.out.at 2
                              have m3 : (wr.alloc (.cells #[.bool td, .int .i64 x, .int .i64 y] 74)).cell? ⟨w.heap.size, 3, none⟩ = some (.slice (some ⟨b1, o1, none⟩) nj cj) := HL_1.out.at 3
                              go_wp2_with fail
                              clear x17 a0 a1 a2 m0 m1 m2 m3
                              generalize (wr.alloc (.cells #[.bool td, .int .i64 x, .int .i64 y] 74)) = w5 at HB_1 HL_1 HJ_1 HO_1 HK_1  ⊢
                              generalize wr.heap.size = tb at HK_1  ⊢
                              refine (C4 _ (HM0.out.b.below HB_1.out)).mono ?_
                              rintro e w6 ⟨rfl, hb⟩
                              have HB_2 : Hid (Below w1.heap.size w1 w6) := HB_1.out.trans (hb.mono HB_1.out.size)
                              have HL_2 : Hid (Lies w6 w.heap.size [.int .i64 now, .int .i64 next, .slice ab q cb, .slice (some ⟨b1, o1, none⟩) nj cj]) := HL_1.out.belowS hb
                              have HJ_2 : Hid (Lies w6 jb [.int .i64 jid, .int .i64 a, .int .i64 b, .int .i64 c', .int .i64 d, .int .i64 f, .int .i64 k, .int .i64 a', .int .i64 b', .int .i64 c'', .int .i64 d', .int .i64 f', .int .i64 k', .int .i64 s1, .int .i64 s2, .int .i64 jr, .bool jg, .slice (some ⟨b2, o2, none⟩) tn tc]) := HJ_1.out.belowS hb
                              have HO_2 : Hid (Owns 2 w6 w1.heap.size ai mi ci us) := HO_1.out.below hb
                              have HK_2 : Hid (Lies w6 tb [.bool td, .int .i64 x, .int .i64 y]) := HK_1.out.belowS hb
                              clear HB_1 HL_1 HJ_1 HO_1 HK_1
                              clear hb
                              clear C4
                              cases o4 with
                              | false =>
                                have HF : Hid (false = R) := by show _ = _; have := HG3.out; simpa using this
                                clear HG3
                                go_wp2
                                go_ret
                                exact ⟨ret_bool HF.out, (HB0.out.trans (HB_2.out.mono HB0.out.size))⟩
                              | true =>
                                cases jg with
                                | false =>
                                  have x16 : w6.cell? ⟨jb, 16, none⟩ = some (.bool false) := HJ_2.out.at 16
                                  go_wp2
                                  clear x16
                                  have hS0 := HO_2.out.sees
                                  have hmI : (mi : Int) ≤ 9223372036854775807 := by omega
                                  have hciI : (mi : Int) ≤ ci := by have := hS0.le; omega
                                  have hlu := hS0.len
                                  clear hS0
                                  go_loopw [9] (fun i wr => ∃ n : Nat, n ≤ mi ∧ i = .int .i64 n ∧ ((x != 0) && (us.drop n).contains x) = oc ∧ Below w6.heap.size w6 wr) (fun i _ => mi - (intOf i).toNat)
                                  case atStart => exact ⟨0, by omega, rfl, by rw [← HLd.out]; exact HOC.out, Below.refl _ _⟩
                                  case round =>
                                    obtain ⟨n, hn, rfl, hgn, hb4⟩ := hrel
                                    have HB_3 : Hid (Below w1.heap.size w1 wr) := HB_2.out.trans (hb4.mono HB_2.out.size)
                                    have HL_3 : Hid (Lies wr w.heap.size [.int .i64 now, .int .i64 next, .slice ab q cb, .slice (some ⟨b1, o1, none⟩) nj cj]) := HL_2.out.belowS hb4
                                    have HJ_3 : Hid (Lies wr jb [.int .i64 jid, .int .i64 a, .int .i64 b, .int .i64 c', .int .i64 d, .int .i64 f, .int .i64 k, .int .i64 a', .int .i64 b', .int .i64 c'', .int .i64 d', .int .i64 f', .int .i64 k', .int .i64 s1, .int .i64 s2, .int .i64 jr, .bool false, .slice (some ⟨b2, o2, none⟩) tn tc]) := HJ_2.out.belowS hb4
                                    have HO_3 : Hid (Owns 2 wr w1.heap.size ai mi ci us) := HO_2.out.below hb4
                                    have HK_3 : Hid (Lies wr tb [.bool td, .int .i64 x, .int .i64 y]) := HK_2.out.belowS hb4
                                    clear HB_2 HL_2 HJ_2 HO_2 HK_2
                                    have HB4 : Hid (Below w6.heap.size w6 wr) := hb4
                                    clear hb4
                                    have hS4 := HO_3.out.sees
                                    by_cases hnm : n < mi
                                    case pos =>
                                      obtain ⟨b3, o3, rfl, hc3⟩ := hS4.at (by omega)
                                      have c3 := hc3 n hnm
                                      have hnI : (n : Int) < (mi : Int) := by omega
                                      rw [drop_step 0 hlu hnm, List.contains_cons] at hgn
                                      generalize us.getD n 0 = z at c3 hgn
                                      clear hc3 hS4
                                      go_wp2_with fail
                                      by_cases hx1 : x = 0
                                      · have gx1 : (x != 0) = false := by simp [hx1]
                                        have HGn : Hid (((x != 0) && (us.drop (n + 1)).contains x) = oc) := by show _ = _; rw [gx1] at hgn ⊢; exact hgn
                                        have HX1 : Hid (x = 0) := hx1
                                        clear hgn hx1
                                        refine wp_region_noPanic ?_
                                        refine wp_region_held_drew (S := fun W => wr.grownBy W none) (by kernel_rfl) (grown_drew _ _) (fun hHeld => ?_)
                                        generalize wr.drew = wd0 at hHeld ⊢
                                        have HX0 : Hid (Below wr.heap.size wr wd0) := ⟨hHeld.os, hHeld.tape, hHeld.output, hHeld.size, fun k hk => hHeld.block k hk (by simp)⟩
                                        refine wpAnyH_take (i := 0) (v := .pointer (some ⟨tb, 1, none⟩)) rfl (by kernel_rfl) (by kernel_rfl) (by kernel_rfl) (fun _ _ _ h => h) (Or.inl ⟨by kernel_rfl, ?_⟩) (by assumption) ?_
                                        · intro wq hSq; go_simp
                                        try simp only [Act.put]
                                        refine wpAnyH_take (i := 1) (v := .int .i64 x) rfl (by kernel_rfl) (by kernel_rfl) (by kernel_rfl) (fun _ _ _ h => h) (Or.inl ⟨by kernel_rfl, ?_⟩) (by assumption) ?_
                                        · intro wp hSp; have c0 : wp.cell? ⟨tb, 1, none⟩ = some (.int .i64 x) := (HK_3.out.grown hSp (by simp)).at 1; go_simp
                                        try simp only [Act.put]
                                        refine wpAnyH_take (i := 2) (v := .bool false) rfl (by kernel_rfl) (by kernel_rfl) (by kernel_rfl) (fun _ _ _ h => h) (Or.inl ⟨by kernel_rfl, ?_⟩) (by assumption) ?_
                                        · intro wq hSq; go_simp; first | done | exact HX1.out
                                        try simp only [Act.put]
                                        refine wpAnyH_take (i := 3) (v := .bool false) rfl (by kernel_rfl) (by kernel_rfl) (by kernel_rfl) (fun _ _ _ h => h) (Or.inl ⟨by kernel_rfl, ?_⟩) (by assumption) ?_
                                        · intro wq hSq; go_simp
                                        try simp only [Act.put]
                                        refine wpAnyH_take (i := 4) (v := undef) rfl (by kernel_rfl) (by kernel_rfl) (by kernel_rfl) (fun _ _ _ h => h) (Or.inr ⟨by kernel_rfl, rfl⟩) (by assumption) ?_
                                        try simp only [Act.put]
                                        refine wpAnyH_take (i := 5) (v := undef) rfl (by kernel_rfl) (by kernel_rfl) (by kernel_rfl) (fun _ _ _ h => h) (Or.inr ⟨by kernel_rfl, rfl⟩) (by assumption) ?_
                                        try simp only [Act.put]
                                        refine wpAnyH_take (i := 6) (v := undef) rfl (by kernel_rfl) (by kernel_rfl) (by kernel_rfl) (fun _ _ _ h => h) (Or.inr ⟨by kernel_rfl, rfl⟩) (by assumption) ?_
                                        try simp only [Act.put]
                                        refine wpAnyH_take (i := 7) (v := undef) rfl (by kernel_rfl) (by kernel_rfl) (by kernel_rfl) (fun _ _ _ h => h) (Or.inr ⟨by kernel_rfl, rfl⟩) (by assumption) ?_
                                        try simp only [Act.put]
                                        refine wpAnyH_take (i := 8) (v := undef) rfl (by kernel_rfl) (by kernel_rfl) (by kernel_rfl) (fun _ _ _ h => h) (Or.inr ⟨by kernel_rfl, rfl⟩) (by assumption) ?_
                                        try simp only [Act.put]
                                        refine wpAnyH_take (i := 9) (v := undef) rfl (by kernel_rfl) (by kernel_rfl) (by kernel_rfl) (fun _ _ _ h => h) (Or.inr ⟨by kernel_rfl, rfl⟩) (by assumption) ?_
                                        try simp only [Act.put]
                                        refine wpAnyH_take (i := 10) (v := undef) rfl (by kernel_rfl) (by kernel_rfl) (by kernel_rfl) (fun _ _ _ h => h) (Or.inr ⟨by kernel_rfl, rfl⟩) (by assumption) ?_
                                        try simp only [Act.put]
                                        refine wpAnyH_take (i := 11) (v := .bool false) rfl (by kernel_rfl) (by kernel_rfl) (by kernel_rfl) (fun _ _ _ h => h) (Or.inl ⟨by kernel_rfl, ?_⟩) (by assumption) ?_
                                        · intro wq hSq; go_simp
                                        try simp only [Act.put]
                                        refine wpAnyH_done (by kernel_rfl) ?_ _
                                        refine NoPanic.normal ?_
                                        go_simp
                                        have HB_4 : Hid (Below w1.heap.size w1 wd0) := HB_3.out.trans (HX0.out.mono HB_3.out.size)
                                        have HL_4 : Hid (Lies wd0 w.heap.size [.int .i64 now, .int .i64 next, .slice ab q cb, .slice (some ⟨b1, o1, none⟩) nj cj]) := HL_3.out.belowS HX0.out
                                        have HJ_4 : Hid (Lies wd0 jb [.int .i64 jid, .int .i64 a, .int .i64 b, .int .i64 c', .int .i64 d, .int .i64 f, .int .i64 k, .int .i64 a', .int .i64 b', .int .i64 c'', .int .i64 d', .int .i64 f', .int .i64 k', .int .i64 s1, .int .i64 s2, .int .i64 jr, .bool false, .slice (some ⟨b2, o2, none⟩) tn tc]) := HJ_3.out.belowS HX0.out
                                        have HO_4 : Hid (Owns 2 wd0 w1.heap.size (some ⟨b3, o3, none⟩) mi ci us) := HO_3.out.below HX0.out
                                        have HK_4 : Hid (Lies wd0 tb [.bool td, .int .i64 x, .int .i64 y]) := HK_3.out.belowS HX0.out
                                        clear HB_3 HL_3 HJ_3 HO_3 HK_3
                                        have HBn : Hid (Below w6.heap.size w6 wd0) := HB4.out.trans (HX0.out.mono HB4.out.size)
                                        go_wp2
                                        go_roundw
                                        case rel => exact ⟨n + 1, by omega, by go_num, HGn.out, HBn.out⟩
                                        case measure => simp [intOf]; omega
                                      have gx1 : (x != 0) = true := by simp [hx1]
                                      have HX1 : Hid (¬ x = 0) := hx1
                                      clear hx1
                                      refine wp_region_noPanic ?_
                                      refine wp_region_held_drew (S := fun W => wr.grownBy W none) (by kernel_rfl) (grown_drew _ _) (fun hHeld => ?_)
                                      generalize wr.drew = wd0 at hHeld ⊢
                                      have HX0 : Hid (Below wr.heap.size wr wd0) := ⟨hHeld.os, hHeld.tape, hHeld.output, hHeld.size, fun k hk => hHeld.block k hk (by simp)⟩
                                      refine wpAnyH_take (i := 0) (v := .pointer (some ⟨tb, 1, none⟩)) rfl (by kernel_rfl) (by kernel_rfl) (by kernel_rfl) (fun _ _ _ h => h) (Or.inl ⟨by kernel_rfl, ?_⟩) (by assumption) ?_
                                      · intro wq hSq; go_simp
                                      try simp only [Act.put]
                                      refine wpAnyH_take (i := 1) (v := .int .i64 x) rfl (by kernel_rfl) (by kernel_rfl) (by kernel_rfl) (fun _ _ _ h => h) (Or.inl ⟨by kernel_rfl, ?_⟩) (by assumption) ?_
                                      · intro wp hSp; have c0 : wp.cell? ⟨tb, 1, none⟩ = some (.int .i64 x) := (HK_3.out.grown hSp (by simp)).at 1; go_simp
                                      try simp only [Act.put]
                                      refine wpAnyH_take (i := 2) (v := .bool true) rfl (by kernel_rfl) (by kernel_rfl) (by kernel_rfl) (fun _ _ _ h => h) (Or.inl ⟨by kernel_rfl, ?_⟩) (by assumption) ?_
                                      · intro wq hSq; go_simp; first | done | exact HX1.out
                                      try simp only [Act.put]
                                      refine wpAnyH_take (i := 3) (v := .bool true) rfl (by kernel_rfl) (by kernel_rfl) (by kernel_rfl) (fun _ _ _ h => h) (Or.inl ⟨by kernel_rfl, ?_⟩) (by assumption) ?_
                                      · intro wq hSq; go_simp
                                      try simp only [Act.put]
                                      refine wpAnyH_take (i := 4) (v := .slice (some ⟨b3, o3, none⟩) mi ci) rfl (by kernel_rfl) (by kernel_rfl) (by kernel_rfl) (fun _ _ _ h => h) (Or.inl ⟨by kernel_rfl, ?_⟩) (by assumption) ?_
                                      · intro wq hSq; go_simp
                                      try simp only [Act.put]
                                      refine wpAnyH_take (i := 5) (v := .int .i64 (n : Nat)) rfl (by kernel_rfl) (by kernel_rfl) (by kernel_rfl) (fun _ _ _ h => h) (Or.inl ⟨by kernel_rfl, ?_⟩) (by assumption) ?_
                                      · intro wq hSq; go_simp
                                      try simp only [Act.put]
                                      refine wpAnyH_take (i := 6) (v := .pointer (some ⟨b3, o3 + n, none⟩)) rfl (by kernel_rfl) (by kernel_rfl) (by kernel_rfl) (fun _ _ _ h => h) (Or.inl ⟨by kernel_rfl, ?_⟩) (by assumption) ?_
                                      · intro wq hSq; go_simp
                                      try simp only [Act.put]
                                      refine wpAnyH_take (i := 7) (v := .int .i64 z) rfl (by kernel_rfl) (by kernel_rfl) (by kernel_rfl) (fun _ _ _ h => h) (Or.inl ⟨by kernel_rfl, ?_⟩) (by assumption) ?_
                                      · intro wp hSp; have c0 : wp.cell? ⟨b3, o3 + n, none⟩ = some (.int .i64 z) := hSp.cell c3 (by simp); go_simp
                                      try simp only [Act.put]
                                      refine wpAnyH_take (i := 8) (v := .pointer (some ⟨tb, 1, none⟩)) rfl (by kernel_rfl) (by kernel_rfl) (by kernel_rfl) (fun _ _ _ h => h) (Or.inl ⟨by kernel_rfl, ?_⟩) (by assumption) ?_
                                      · intro wq hSq; go_simp
                                      try simp only [Act.put]
                                      refine wpAnyH_take (i := 9) (v := .int .i64 x) rfl (by kernel_rfl) (by kernel_rfl) (by kernel_rfl) (fun _ _ _ h => h) (Or.inl ⟨by kernel_rfl, ?_⟩) (by assumption) ?_
                                      · intro wp hSp; have c0 : wp.cell? ⟨tb, 1, none⟩ = some (.int .i64 x) := (HK_3.out.grown hSp (by simp)).at 1; go_simp
                                      try simp only [Act.put]
                                      by_cases hz : z = x
                                      · have gz : (z == x) = true := by simp [hz]
                                        have gz2 : (x == z) = true := by simp [hz]
                                        have HF : Hid (false = R) := by show _ = _; have h1 := HG3.out; rw [gx1, gz2] at hgn; rw [← hgn] at h1; simpa using h1
                                        have HZ : Hid (z = x) := hz
                                        clear HG3 hgn hz
                                        refine wpAnyH_take (i := 10) (v := .bool true) rfl (by kernel_rfl) (by kernel_rfl) (by kernel_rfl) (fun _ _ _ h => h) (Or.inl ⟨by kernel_rfl, ?_⟩) (by assumption) ?_
                                        · intro wq hSq; go_simp; first | done | exact HZ.out
                                        try simp only [Act.put]
                                        refine wpAnyH_take (i := 11) (v := .bool true) rfl (by kernel_rfl) (by kernel_rfl) (by kernel_rfl) (fun _ _ _ h => h) (Or.inl ⟨by kernel_rfl, ?_⟩) (by assumption) ?_
                                        · intro wq hSq; go_simp
                                        try simp only [Act.put]
                                        refine wpAnyH_done (by kernel_rfl) ?_ _
                                        refine NoPanic.normal ?_
                                        go_simp
                                        have HB_4 : Hid (Below w1.heap.size w1 wd0) := HB_3.out.trans (HX0.out.mono HB_3.out.size)
                                        have HL_4 : Hid (Lies wd0 w.heap.size [.int .i64 now, .int .i64 next, .slice ab q cb, .slice (some ⟨b1, o1, none⟩) nj cj]) := HL_3.out.belowS HX0.out
                                        have HJ_4 : Hid (Lies wd0 jb [.int .i64 jid, .int .i64 a, .int .i64 b, .int .i64 c', .int .i64 d, .int .i64 f, .int .i64 k, .int .i64 a', .int .i64 b', .int .i64 c'', .int .i64 d', .int .i64 f', .int .i64 k', .int .i64 s1, .int .i64 s2, .int .i64 jr, .bool false, .slice (some ⟨b2, o2, none⟩) tn tc]) := HJ_3.out.belowS HX0.out
                                        have HO_4 : Hid (Owns 2 wd0 w1.heap.size (some ⟨b3, o3, none⟩) mi ci us) := HO_3.out.below HX0.out
                                        have HK_4 : Hid (Lies wd0 tb [.bool td, .int .i64 x, .int .i64 y]) := HK_3.out.belowS HX0.out
                                        clear HB_3 HL_3 HJ_3 HO_3 HK_3
                                        go_wp2
                                        go_ret
                                        exact ⟨ret_bool HF.out, (HB0.out.trans (HB_4.out.mono HB0.out.size))⟩
                                      · have gz : (z == x) = false := by simp [hz]
                                        have gz2 : (x == z) = false := by simp; exact fun e => hz e.symm
                                        have HGn : Hid (((x != 0) && (us.drop (n + 1)).contains x) = oc) := by show _ = _; rw [gz2, Bool.false_or] at hgn; exact hgn
                                        have HZ : Hid (¬ z = x) := hz
                                        clear hgn hz
                                        refine wpAnyH_take (i := 10) (v := .bool false) rfl (by kernel_rfl) (by kernel_rfl) (by kernel_rfl) (fun _ _ _ h => h) (Or.inl ⟨by kernel_rfl, ?_⟩) (by assumption) ?_
                                        · intro wq hSq; go_simp; first | done | exact HZ.out
                                        try simp only [Act.put]
                                        refine wpAnyH_take (i := 11) (v := .bool false) rfl (by kernel_rfl) (by kernel_rfl) (by kernel_rfl) (fun _ _ _ h => h) (Or.inl ⟨by kernel_rfl, ?_⟩) (by assumption) ?_
                                        · intro wq hSq; go_simp
                                        try simp only [Act.put]
                                        refine wpAnyH_done (by kernel_rfl) ?_ _
                                        refine NoPanic.normal ?_
                                        go_simp
                                        have HB_4 : Hid (Below w1.heap.size w1 wd0) := HB_3.out.trans (HX0.out.mono HB_3.out.size)
                                        have HL_4 : Hid (Lies wd0 w.heap.size [.int .i64 now, .int .i64 next, .slice ab q cb, .slice (some ⟨b1, o1, none⟩) nj cj]) := HL_3.out.belowS HX0.out
                                        have HJ_4 : Hid (Lies wd0 jb [.int .i64 jid, .int .i64 a, .int .i64 b, .int .i64 c', .int .i64 d, .int .i64 f, .int .i64 k, .int .i64 a', .int .i64 b', .int .i64 c'', .int .i64 d', .int .i64 f', .int .i64 k', .int .i64 s1, .int .i64 s2, .int .i64 jr, .bool false, .slice (some ⟨b2, o2, none⟩) tn tc]) := HJ_3.out.belowS HX0.out
                                        have HO_4 : Hid (Owns 2 wd0 w1.heap.size (some ⟨b3, o3, none⟩) mi ci us) := HO_3.out.below HX0.out
                                        have HK_4 : Hid (Lies wd0 tb [.bool td, .int .i64 x, .int .i64 y]) := HK_3.out.belowS HX0.out
                                        clear HB_3 HL_3 HJ_3 HO_3 HK_3
                                        have HBn : Hid (Below w6.heap.size w6 wd0) := HB4.out.trans (HX0.out.mono HB4.out.size)
                                        go_wp2
                                        go_roundw
                                        case rel => exact ⟨n + 1, by omega, by go_num, HGn.out, HBn.out⟩
                                        case measure => simp [intOf]; omega
                                    rw [List.drop_of_length_le (by rw [hlu]; omega)] at hgn
                                    have hocf : oc = false := by rw [← hgn]; simp
                                    have HG4 : Hid (((M.spT now bs false (us ++ [x]) (tl.drop (p + 1)) && !(false && tl.all (·.done))) && SN) = R) := by show _ = _; have h1 := HG3.out; rw [hocf] at h1; simpa using h1
                                    clear HG3 hgn HOC HLd hS4
                                    have HW4 : Hid ((us ++ [x]) ++ (tl.drop (p + 1)).map (·.worker) = WF) := by show _ = _; rw [List.append_assoc]; exact HW3.out
                                    obtain ⟨i0, hi, hz0, hz1, hz2⟩ := HI.out
                                    have hsz := HB_3.out.size
                                    have hjl := HJ_3.out.2.2
                                    have t1 : wr.cell? ⟨tb, 1, none⟩ = some (.int .i64 x) := HK_3.out.at 1
                                    go_wp2_with (at_builtin; refine wpList_append_own_at _ rfl _ _ 24 rfl w1.heap.size 2 i0 (.int .i64 0) 1 8 Tryz.underlying24 hi hz0 hz1 hz2 rfl (by decide) _ mi (us.map (Value.int .i64)) rfl (World.ownsRow.alloc HO_3.out _) ⟨wr.heap.size, 0, none⟩ 1 1 [.int .i64 x] rfl rfl (cell_one wr x _) (one_int x) (by unfold maxLen; omega) (by omega) (by simp; omega) ?_)
                                    intro v' w7 hown hgrow _ hat
                                    have hown' : w7.ownsRow w1.heap.size 2 1 v' (mi + 1) ((us ++ [x]).map (Value.int .i64)) := by rw [List.map_append]; exact hown
                                    have HN' : Hid (v'.ownBlock ≠ some jb) := far_next (w := wr.alloc (.cells #[.int .i64 x] 2)) (by simpa using hat) (by simp; omega) HNE.out
                                    obtain ⟨a9, cap9, rfl, ho9⟩ := Owns.form hown'
                                    have HO' : Hid (Owns 2 w7 w1.heap.size a9 (mi + 1) cap9 (us ++ [x])) := ho9
                                    have HB' : Hid (Below w1.heap.size w1 w7) := below_grownBy HB_3.out ((World.grownBy_alloc wr _ _).trans hgrow) hsz (fun z hz => (World.ownsRow.lt HO_3.out z hz).1)
                                    have HJ' : Hid (Lies w7 jb [.int .i64 jid, .int .i64 a, .int .i64 b, .int .i64 c', .int .i64 d, .int .i64 f, .int .i64 k, .int .i64 a', .int .i64 b', .int .i64 c'', .int .i64 d', .int .i64 f', .int .i64 k', .int .i64 s1, .int .i64 s2, .int .i64 jr, .bool false, .slice (some ⟨b2, o2, none⟩) tn tc]) := HJ_3.out.grown ((World.grownBy_alloc wr _ _).trans hgrow) HNE.out
                                    clear hown hown' hgrow hat ho9 hi hz0 hz1 hz2 hsz hjl
                                    go_wp2
                                    go_roundw
                                    case rel => exact ⟨p + 1, us ++ [x], by omega, by go_num, HG4.out, HW4.out, HJ'.out, HN'.out, a9, mi + 1, cap9, rfl, HO'.out, HB'.out⟩
                                    case measure => simp [intOf]; omega
                                | true =>
                                  have x16 : w6.cell? ⟨jb, 16, none⟩ = some (.bool true) := HJ_2.out.at 16
                                  have t_1 : w6.cell? ⟨tb, 1, none⟩ = some (.int .i64 x) := HK_2.out.at 1
                                  by_cases hx0 : x = 0
                                  · have gx : (x != 0) = false := by simp [hx0]
                                    go_wp2
                                    clear x16 t_1
                                    have HX0 : Hid (x = 0) := hx0
                                    clear hx0
                                    have hS0 := HO_2.out.sees
                                    have hmI : (mi : Int) ≤ 9223372036854775807 := by omega
                                    have hciI : (mi : Int) ≤ ci := by have := hS0.le; omega
                                    have hlu := hS0.len
                                    clear hS0
                                    go_loopw [9] (fun i wr => ∃ n : Nat, n ≤ mi ∧ i = .int .i64 n ∧ ((x != 0) && (us.drop n).contains x) = oc ∧ Below w6.heap.size w6 wr) (fun i _ => mi - (intOf i).toNat)
                                    case atStart => exact ⟨0, by omega, rfl, by rw [← HLd.out]; exact HOC.out, Below.refl _ _⟩
                                    case round =>
                                      obtain ⟨n, hn, rfl, hgn, hb4⟩ := hrel
                                      have HB_3 : Hid (Below w1.heap.size w1 wr) := HB_2.out.trans (hb4.mono HB_2.out.size)
                                      have HL_3 : Hid (Lies wr w.heap.size [.int .i64 now, .int .i64 next, .slice ab q cb, .slice (some ⟨b1, o1, none⟩) nj cj]) := HL_2.out.belowS hb4
                                      have HJ_3 : Hid (Lies wr jb [.int .i64 jid, .int .i64 a, .int .i64 b, .int .i64 c', .int .i64 d, .int .i64 f, .int .i64 k, .int .i64 a', .int .i64 b', .int .i64 c'', .int .i64 d', .int .i64 f', .int .i64 k', .int .i64 s1, .int .i64 s2, .int .i64 jr, .bool true, .slice (some ⟨b2, o2, none⟩) tn tc]) := HJ_2.out.belowS hb4
                                      have HO_3 : Hid (Owns 2 wr w1.heap.size ai mi ci us) := HO_2.out.below hb4
                                      have HK_3 : Hid (Lies wr tb [.bool td, .int .i64 x, .int .i64 y]) := HK_2.out.belowS hb4
                                      clear HB_2 HL_2 HJ_2 HO_2 HK_2
                                      have HB4 : Hid (Below w6.heap.size w6 wr) := hb4
                                      clear hb4
                                      have hS4 := HO_3.out.sees
                                      by_cases hnm : n < mi
                                      case pos =>
                                        obtain ⟨b3, o3, rfl, hc3⟩ := hS4.at (by omega)
                                        have c3 := hc3 n hnm
                                        have hnI : (n : Int) < (mi : Int) := by omega
                                        rw [drop_step 0 hlu hnm, List.contains_cons] at hgn
                                        generalize us.getD n 0 = z at c3 hgn
                                        clear hc3 hS4
                                        go_wp2_with fail
                                        by_cases hx1 : x = 0
                                        · have gx1 : (x != 0) = false := by simp [hx1]
                                          have HGn : Hid (((x != 0) && (us.drop (n + 1)).contains x) = oc) := by show _ = _; rw [gx1] at hgn ⊢; exact hgn
                                          have HX1 : Hid (x = 0) := hx1
                                          clear hgn hx1
                                          refine wp_region_noPanic ?_
                                          refine wp_region_held_drew (S := fun W => wr.grownBy W none) (by kernel_rfl) (grown_drew _ _) (fun hHeld => ?_)
                                          generalize wr.drew = wd0 at hHeld ⊢
                                          have HX0 : Hid (Below wr.heap.size wr wd0) := ⟨hHeld.os, hHeld.tape, hHeld.output, hHeld.size, fun k hk => hHeld.block k hk (by simp)⟩
                                          refine wpAnyH_take (i := 0) (v := .pointer (some ⟨tb, 1, none⟩)) rfl (by kernel_rfl) (by kernel_rfl) (by kernel_rfl) (fun _ _ _ h => h) (Or.inl ⟨by kernel_rfl, ?_⟩) (by assumption) ?_
                                          · intro wq hSq; go_simp
                                          try simp only [Act.put]
                                          refine wpAnyH_take (i := 1) (v := .int .i64 x) rfl (by kernel_rfl) (by kernel_rfl) (by kernel_rfl) (fun _ _ _ h => h) (Or.inl ⟨by kernel_rfl, ?_⟩) (by assumption) ?_
                                          · intro wp hSp; have c0 : wp.cell? ⟨tb, 1, none⟩ = some (.int .i64 x) := (HK_3.out.grown hSp (by simp)).at 1; go_simp
                                          try simp only [Act.put]
                                          refine wpAnyH_take (i := 2) (v := .bool false) rfl (by kernel_rfl) (by kernel_rfl) (by kernel_rfl) (fun _ _ _ h => h) (Or.inl ⟨by kernel_rfl, ?_⟩) (by assumption) ?_
                                          · intro wq hSq; go_simp; first | done | exact HX1.out
                                          try simp only [Act.put]
                                          refine wpAnyH_take (i := 3) (v := .bool false) rfl (by kernel_rfl) (by kernel_rfl) (by kernel_rfl) (fun _ _ _ h => h) (Or.inl ⟨by kernel_rfl, ?_⟩) (by assumption) ?_
                                          · intro wq hSq; go_simp
                                          try simp only [Act.put]
                                          refine wpAnyH_take (i := 4) (v := undef) rfl (by kernel_rfl) (by kernel_rfl) (by kernel_rfl) (fun _ _ _ h => h) (Or.inr ⟨by kernel_rfl, rfl⟩) (by assumption) ?_
                                          try simp only [Act.put]
                                          refine wpAnyH_take (i := 5) (v := undef) rfl (by kernel_rfl) (by kernel_rfl) (by kernel_rfl) (fun _ _ _ h => h) (Or.inr ⟨by kernel_rfl, rfl⟩) (by assumption) ?_
                                          try simp only [Act.put]
                                          refine wpAnyH_take (i := 6) (v := undef) rfl (by kernel_rfl) (by kernel_rfl) (by kernel_rfl) (fun _ _ _ h => h) (Or.inr ⟨by kernel_rfl, rfl⟩) (by assumption) ?_
                                          try simp only [Act.put]
                                          refine wpAnyH_take (i := 7) (v := undef) rfl (by kernel_rfl) (by kernel_rfl) (by kernel_rfl) (fun _ _ _ h => h) (Or.inr ⟨by kernel_rfl, rfl⟩) (by assumption) ?_
                                          try simp only [Act.put]
                                          refine wpAnyH_take (i := 8) (v := undef) rfl (by kernel_rfl) (by kernel_rfl) (by kernel_rfl) (fun _ _ _ h => h) (Or.inr ⟨by kernel_rfl, rfl⟩) (by assumption) ?_
                                          try simp only [Act.put]
                                          refine wpAnyH_take (i := 9) (v := undef) rfl (by kernel_rfl) (by kernel_rfl) (by kernel_rfl) (fun _ _ _ h => h) (Or.inr ⟨by kernel_rfl, rfl⟩) (by assumption) ?_
                                          try simp only [Act.put]
                                          refine wpAnyH_take (i := 10) (v := undef) rfl (by kernel_rfl) (by kernel_rfl) (by kernel_rfl) (fun _ _ _ h => h) (Or.inr ⟨by kernel_rfl, rfl⟩) (by assumption) ?_
                                          try simp only [Act.put]
                                          refine wpAnyH_take (i := 11) (v := .bool false) rfl (by kernel_rfl) (by kernel_rfl) (by kernel_rfl) (fun _ _ _ h => h) (Or.inl ⟨by kernel_rfl, ?_⟩) (by assumption) ?_
                                          · intro wq hSq; go_simp
                                          try simp only [Act.put]
                                          refine wpAnyH_done (by kernel_rfl) ?_ _
                                          refine NoPanic.normal ?_
                                          go_simp
                                          have HB_4 : Hid (Below w1.heap.size w1 wd0) := HB_3.out.trans (HX0.out.mono HB_3.out.size)
                                          have HL_4 : Hid (Lies wd0 w.heap.size [.int .i64 now, .int .i64 next, .slice ab q cb, .slice (some ⟨b1, o1, none⟩) nj cj]) := HL_3.out.belowS HX0.out
                                          have HJ_4 : Hid (Lies wd0 jb [.int .i64 jid, .int .i64 a, .int .i64 b, .int .i64 c', .int .i64 d, .int .i64 f, .int .i64 k, .int .i64 a', .int .i64 b', .int .i64 c'', .int .i64 d', .int .i64 f', .int .i64 k', .int .i64 s1, .int .i64 s2, .int .i64 jr, .bool true, .slice (some ⟨b2, o2, none⟩) tn tc]) := HJ_3.out.belowS HX0.out
                                          have HO_4 : Hid (Owns 2 wd0 w1.heap.size (some ⟨b3, o3, none⟩) mi ci us) := HO_3.out.below HX0.out
                                          have HK_4 : Hid (Lies wd0 tb [.bool td, .int .i64 x, .int .i64 y]) := HK_3.out.belowS HX0.out
                                          clear HB_3 HL_3 HJ_3 HO_3 HK_3
                                          have HBn : Hid (Below w6.heap.size w6 wd0) := HB4.out.trans (HX0.out.mono HB4.out.size)
                                          go_wp2
                                          go_roundw
                                          case rel => exact ⟨n + 1, by omega, by go_num, HGn.out, HBn.out⟩
                                          case measure => simp [intOf]; omega
                                        exact absurd HX0.out hx1
                                      rw [List.drop_of_length_le (by rw [hlu]; omega)] at hgn
                                      have hocf : oc = false := by rw [← hgn]; simp
                                      have HG4 : Hid (((M.spT now bs true (us ++ [x]) (tl.drop (p + 1)) && !(true && tl.all (·.done))) && SN) = R) := by show _ = _; have h1 := HG3.out; rw [hocf, HLd.out, gx] at h1; simpa using h1
                                      clear HG3 hgn HOC HLd hS4
                                      have HW4 : Hid ((us ++ [x]) ++ (tl.drop (p + 1)).map (·.worker) = WF) := by show _ = _; rw [List.append_assoc]; exact HW3.out
                                      obtain ⟨i0, hi, hz0, hz1, hz2⟩ := HI.out
                                      have hsz := HB_3.out.size
                                      have hjl := HJ_3.out.2.2
                                      have t1 : wr.cell? ⟨tb, 1, none⟩ = some (.int .i64 x) := HK_3.out.at 1
                                      go_wp2_with (at_builtin; refine wpList_append_own_at _ rfl _ _ 24 rfl w1.heap.size 2 i0 (.int .i64 0) 1 8 Tryz.underlying24 hi hz0 hz1 hz2 rfl (by decide) _ mi (us.map (Value.int .i64)) rfl (World.ownsRow.alloc HO_3.out _) ⟨wr.heap.size, 0, none⟩ 1 1 [.int .i64 x] rfl rfl (cell_one wr x _) (one_int x) (by unfold maxLen; omega) (by omega) (by simp; omega) ?_)
                                      intro v' w7 hown hgrow _ hat
                                      have hown' : w7.ownsRow w1.heap.size 2 1 v' (mi + 1) ((us ++ [x]).map (Value.int .i64)) := by rw [List.map_append]; exact hown
                                      have HN' : Hid (v'.ownBlock ≠ some jb) := far_next (w := wr.alloc (.cells #[.int .i64 x] 2)) (by simpa using hat) (by simp; omega) HNE.out
                                      obtain ⟨a9, cap9, rfl, ho9⟩ := Owns.form hown'
                                      have HO' : Hid (Owns 2 w7 w1.heap.size a9 (mi + 1) cap9 (us ++ [x])) := ho9
                                      have HB' : Hid (Below w1.heap.size w1 w7) := below_grownBy HB_3.out ((World.grownBy_alloc wr _ _).trans hgrow) hsz (fun z hz => (World.ownsRow.lt HO_3.out z hz).1)
                                      have HJ' : Hid (Lies w7 jb [.int .i64 jid, .int .i64 a, .int .i64 b, .int .i64 c', .int .i64 d, .int .i64 f, .int .i64 k, .int .i64 a', .int .i64 b', .int .i64 c'', .int .i64 d', .int .i64 f', .int .i64 k', .int .i64 s1, .int .i64 s2, .int .i64 jr, .bool true, .slice (some ⟨b2, o2, none⟩) tn tc]) := HJ_3.out.grown ((World.grownBy_alloc wr _ _).trans hgrow) HNE.out
                                      clear hown hown' hgrow hat ho9 hi hz0 hz1 hz2 hsz hjl
                                      go_wp2
                                      go_roundw
                                      case rel => exact ⟨p + 1, us ++ [x], by omega, by go_num, HG4.out, HW4.out, HJ'.out, HN'.out, a9, mi + 1, cap9, rfl, HO'.out, HB'.out⟩
                                      case measure => simp [intOf]; omega
                                  · have gx : (x != 0) = true := by simp [hx0]
                                    have HF : Hid (false = R) := by show _ = _; have := HG3.out; rw [HLd.out, gx] at this; simpa using this
                                    clear HG3
                                    go_wp2
                                    go_ret
                                    exact ⟨ret_bool HF.out, (HB0.out.trans (HB_2.out.mono HB0.out.size))⟩
                            have hpe : tn = p := by omega
                            subst hpe
                            have e0 : tl.drop tn = [] := List.drop_of_length_le (Nat.le_of_eq HTL.out)
                            have HUW : Hid (us = WF) := by show _ = _; have := HWF3.out; rw [e0] at this; simpa using this
                            rw [e0] at hg3
                            have HG5 : Hid ((!(jg && tl.all (·.done)) && SN) = R) := by show _ = _; have := hg3; unfold M.spT at this; simpa using this
                            clear hg3 e0 HWF3
                            have hjn : (j : Int) + 1 ≤ 9223372036854775807 := by omega
                            cases jg with
                            | false =>
                              have x16 : wr.cell? ⟨jb, 16, none⟩ = some (.bool false) := HJ_0.out.at 16
                              have x17 : wr.cell? ⟨jb, 17, none⟩ = some (.slice ta tn tc) := HJ_0.out.at 17
                              have HS6 : Hid (SN = R) := by show _ = _; have := HG5.out; simpa using this
                              go_wp2
                              go_roundw
                              case rel => exact ⟨j + 1, jid, us, by omega, by go_num, (fun h => by omega), HNI.out, by rw [HUW.out]; exact HSN.out.trans HS6.out, by rw [HUW.out]; exact hWL, ai, mi, ci, rfl, HO_0.out, HB_0.out⟩
                              case measure => simp [intOf]; omega
                            | true =>
                              have C7 : ∀ W, SeesT W ta tn tc tl → Calls Tryz.prog 27 #[.agg #[.int .i64 jid, .int .i64 a, .int .i64 b, .int .i64 c', .int .i64 d, .int .i64 f, .int .i64 k, .int .i64 a', .int .i64 b', .int .i64 c'', .int .i64 d', .int .i64 f', .int .i64 k', .int .i64 s1, .int .i64 s2, .int .i64 jr, .bool true, .slice ta tn tc]] W fun e w' => e = .returned (.bool (tl.all (·.done))) ∧ Below W.heap.size W w' := fun W h => l8All_any jid a b c' d f k a' b' c'' d' f' k' s1 s2 jr true W h
                              generalize tl.all (·.done) = o7 at C7 HG5
                              have x17 : wr.cell? ⟨jb, 17, none⟩ = some (.slice ta tn tc) := HJ_0.out.at 17
                              go_wp2_with (with_reducible refine wpList_stop 183 ?_ ?_; rfl)
                              show wpList _ _ _ _ _ _
                              clear x17
                              have x16 : wr.cell? ⟨jb, 16, none⟩ = some (.bool true) := HJ_0.out.at 16
                              with_reducible refine wpList_run ?qg (.bool true) wr ?qrun ?qr
                              case qg => exact rfl
                              case qrun => go_simp
                              case qr =>
                                show wpList _ _ _ _ _ _
                                with_reducible refine wpList_run ?qg (.bool true) wr ?qrun ?qr
                                case qg => exact rfl
                                case qrun => exact rfl
                                case qr =>
                                  show wpList _ _ _ _ _ _
                                  have iL : (Tryz.prog.info? 44).map (·.size) = some ([.int .i64 jid, .int .i64 a, .int .i64 b, .int .i64 c', .int .i64 d, .int .i64 f, .int .i64 k, .int .i64 a', .int .i64 b', .int .i64 c'', .int .i64 d', .int .i64 f', .int .i64 k', .int .i64 s1, .int .i64 s2, .int .i64 jr, .bool true, .slice ta tn tc] : List Value).length := (show (Tryz.prog.info? 44).map (·.size) = some 18 by kernel_rfl)
                                  with_reducible refine wpList_load_want ?qw 44 ?qlw ?qo jb 0 ?qhx [.int .i64 jid, .int .i64 a, .int .i64 b, .int .i64 c', .int .i64 d, .int .i64 f, .int .i64 k, .int .i64 a', .int .i64 b', .int .i64 c'', .int .i64 d', .int .i64 f', .int .i64 k', .int .i64 s1, .int .i64 s2, .int .i64 jr, .bool true, .slice ta tn tc] _ HJ_0.out.row Tryz.underlying44 ?qd iL ?qr
                                  case qw => kernel_rfl
                                  case qo => exact rfl
                                  case qhx => kernel_rfl
                                  case qd => exact rfl
                                  case qr =>
                                    clear iL
                                    show wpList _ _ _ _ _ _
                                    clear x16
                                    go_wp2_with fail
                                    refine (C7 _ hT2).mono ?_
                                    rintro e w8 ⟨rfl, hb⟩
                                    have HB_1 : Hid (Below w1.heap.size w1 w8) := HB_0.out.trans (hb.mono HB_0.out.size)
                                    have HL_1 : Hid (Lies w8 w.heap.size [.int .i64 now, .int .i64 next, .slice ab q cb, .slice (some ⟨b1, o1, none⟩) nj cj]) := HL_0.out.belowS hb
                                    have HJ_1 : Hid (Lies w8 jb [.int .i64 jid, .int .i64 a, .int .i64 b, .int .i64 c', .int .i64 d, .int .i64 f, .int .i64 k, .int .i64 a', .int .i64 b', .int .i64 c'', .int .i64 d', .int .i64 f', .int .i64 k', .int .i64 s1, .int .i64 s2, .int .i64 jr, .bool true, .slice ta tn tc]) := HJ_0.out.belowS hb
                                    have HO_1 : Hid (Owns 2 w8 w1.heap.size ai mi ci us) := HO_0.out.below hb
                                    clear HB_0 HL_0 HJ_0 HO_0
                                    clear hb
                                    cases o7 with
                                    | true =>
                                      have HF : Hid (false = R) := by show _ = _; have := HG5.out; simpa using this
                                      go_wp2
                                      go_ret
                                      exact ⟨ret_bool HF.out, (HB0.out.trans (HB_1.out.mono HB0.out.size))⟩
                                    | false =>
                                      have HS6 : Hid (SN = R) := by show _ = _; have := HG5.out; simpa using this
                                      go_wp2
                                      go_roundw
                                      case rel => exact ⟨j + 1, jid, us, by omega, by go_num, (fun h => by omega), HNI.out, by rw [HUW.out]; exact HSN.out.trans HS6.out, by rw [HUW.out]; exact hWL, ai, mi, ci, rfl, HO_1.out, HB_1.out⟩
                                      case measure => simp [intOf]; omega
end Go.Proofs.YtfhknkppiidnkaaGreat
namespace Go.Proofs.YtfhknkppiidnkaaGreat
open Go.RowKit

theorem specMarketOk_any {ab aj : Option Addr} {nb cb nj cj : Nat} {bs : List Int} {js : List M.Jb} (now next : Int) (w : World) (hz : SeesM w ab nb cb aj nj cj bs js) :
    Calls Tryz.prog 26 #[.agg #[.int .i64 now, .int .i64 next, .slice ab nb cb, .slice aj nj cj]] w fun e w' => e = .returned (.bool (M.mkOk now next bs js)) ∧ Below w.heap.size w w' :=
  mkxA.h ⟨mkxA_1⟩ ⟨mkxB.h ⟨mkxB_1⟩ ⟨mkxB_2⟩⟩ ab aj nb cb nj cj bs js now next w hz
end Go.Proofs.YtfhknkppiidnkaaGreat
