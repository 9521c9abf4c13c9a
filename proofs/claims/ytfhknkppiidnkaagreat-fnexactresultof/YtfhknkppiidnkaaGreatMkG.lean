/- Markets held against one another. -/
import Derived.Test.YtfhknkppiidnkaaGreatMkF
import Derived.Test.YtfhknkppiidnkaaGreatGrA
namespace Go.Proofs.YtfhknkppiidnkaaGreat
open Go.RowKit Go.ChangeShapes Go.WideShapes

set_option maxHeartbeats 2000000 in
theorem eqRule_same (r : M.Rl) (w : World) : Calls Tryz.prog 129 #[rlv r, rlv r] w fun e w' => e = .returned (.bool true) ∧ Below w.heap.size w w' := by
  obtain ⟨a, b, c, d, f, k⟩ := r
  dsimp only [rlv]
  have n0 : (a != a) = false := by simp
  have n1 : (b != b) = false := by simp
  have n2 : (c != c) = false := by simp
  have n3 : (d != d) = false := by simp
  have n4 : (f != f) = false := by simp
  have n5 : (k != k) = false := by simp
  go_enter Tryz.func129, Tryz.ntmps129
  go_wp2
  go_ret
  exact ⟨rfl, ((Below.refl _ _).alloc (Nat.le_refl _) _).alloc (by simp) _⟩
set_option maxHeartbeats 4000000 in
theorem eqMachine_same (m : M.Mc) (w : World) : Calls Tryz.prog 98 #[mcv m, mcv m] w fun e w' => e = .returned (.bool true) ∧ Below w.heap.size w w' := by
  have C1 := eqRule_same m.X
  have C2 := eqRule_same m.Y
  obtain ⟨⟨a, b, c, d, f, k⟩, ⟨a', b', c', d', f', k'⟩⟩ := m
  dsimp only [mcv, rlv] at C1 C2 ⊢
  go_enter Tryz.func98, Tryz.ntmps98
  have HA_0 : Hid (Lies ((w.alloc (.cells #[.int .i64 a, .int .i64 b, .int .i64 c, .int .i64 d, .int .i64 f, .int .i64 k, .int .i64 a', .int .i64 b', .int .i64 c', .int .i64 d', .int .i64 f', .int .i64 k'] 41)).alloc (.cells #[.int .i64 a, .int .i64 b, .int .i64 c, .int .i64 d, .int .i64 f, .int .i64 k, .int .i64 a', .int .i64 b', .int .i64 c', .int .i64 d', .int .i64 f', .int .i64 k'] 41)) w.heap.size [.int .i64 a, .int .i64 b, .int .i64 c, .int .i64 d, .int .i64 f, .int .i64 k, .int .i64 a', .int .i64 b', .int .i64 c', .int .i64 d', .int .i64 f', .int .i64 k']) := (lies_new _ _ _).alloc _
  have HC_0 : Hid (Lies ((w.alloc (.cells #[.int .i64 a, .int .i64 b, .int .i64 c, .int .i64 d, .int .i64 f, .int .i64 k, .int .i64 a', .int .i64 b', .int .i64 c', .int .i64 d', .int .i64 f', .int .i64 k'] 41)).alloc (.cells #[.int .i64 a, .int .i64 b, .int .i64 c, .int .i64 d, .int .i64 f, .int .i64 k, .int .i64 a', .int .i64 b', .int .i64 c', .int .i64 d', .int .i64 f', .int .i64 k'] 41)) (w.heap.size + 1) [.int .i64 a, .int .i64 b, .int .i64 c, .int .i64 d, .int .i64 f, .int .i64 k, .int .i64 a', .int .i64 b', .int .i64 c', .int .i64 d', .int .i64 f', .int .i64 k']) := lies_new2 _ _ _ _
  have HB_0 : Hid (Below w.heap.size w ((w.alloc (.cells #[.int .i64 a, .int .i64 b, .int .i64 c, .int .i64 d, .int .i64 f, .int .i64 k, .int .i64 a', .int .i64 b', .int .i64 c', .int .i64 d', .int .i64 f', .int .i64 k'] 41)).alloc (.cells #[.int .i64 a, .int .i64 b, .int .i64 c, .int .i64 d, .int .i64 f, .int .i64 k, .int .i64 a', .int .i64 b', .int .i64 c', .int .i64 d', .int .i64 f', .int .i64 k'] 41))) := ((Below.refl _ _).alloc (Nat.le_refl _) _).alloc (by simp) _
  go_wp2_with fail
  generalize ((w.alloc (.cells #[.int .i64 a, .int .i64 b, .int .i64 c, .int .i64 d, .int .i64 f, .int .i64 k, .int .i64 a', .int .i64 b', .int .i64 c', .int .i64 d', .int .i64 f', .int .i64 k'] 41)).alloc (.cells #[.int .i64 a, .int .i64 b, .int .i64 c, .int .i64 d, .int .i64 f, .int .i64 k, .int .i64 a', .int .i64 b', .int .i64 c', .int .i64 d', .int .i64 f', .int .i64 k'] 41)) = wa at HA_0 HC_0 HB_0  ⊢
  refine (C1 _).mono ?_
  rintro e wb ⟨rfl, hb⟩
  have HA_1 : Hid (Lies wb w.heap.size [.int .i64 a, .int .i64 b, .int .i64 c, .int .i64 d, .int .i64 f, .int .i64 k, .int .i64 a', .int .i64 b', .int .i64 c', .int .i64 d', .int .i64 f', .int .i64 k']) := HA_0.out.belowS hb
  have HC_1 : Hid (Lies wb (w.heap.size + 1) [.int .i64 a, .int .i64 b, .int .i64 c, .int .i64 d, .int .i64 f, .int .i64 k, .int .i64 a', .int .i64 b', .int .i64 c', .int .i64 d', .int .i64 f', .int .i64 k']) := HC_0.out.belowS hb
  have HB_1 : Hid (Below w.heap.size w wb) := HB_0.out.trans (hb.mono HB_0.out.size)
  clear HA_0 HC_0 HB_0
  clear hb
  have x6 : wb.cell? ⟨w.heap.size, 6, none⟩ = some (.int .i64 a') := HA_1.out.at 6
  have x7 : wb.cell? ⟨w.heap.size, 7, none⟩ = some (.int .i64 b') := HA_1.out.at 7
  have x8 : wb.cell? ⟨w.heap.size, 8, none⟩ = some (.int .i64 c') := HA_1.out.at 8
  have x9 : wb.cell? ⟨w.heap.size, 9, none⟩ = some (.int .i64 d') := HA_1.out.at 9
  have x10 : wb.cell? ⟨w.heap.size, 10, none⟩ = some (.int .i64 f') := HA_1.out.at 10
  have x11 : wb.cell? ⟨w.heap.size, 11, none⟩ = some (.int .i64 k') := HA_1.out.at 11
  have y6 : wb.cell? ⟨w.heap.size + 1, 6, none⟩ = some (.int .i64 a') := HC_1.out.at 6
  have y7 : wb.cell? ⟨w.heap.size + 1, 7, none⟩ = some (.int .i64 b') := HC_1.out.at 7
  have y8 : wb.cell? ⟨w.heap.size + 1, 8, none⟩ = some (.int .i64 c') := HC_1.out.at 8
  have y9 : wb.cell? ⟨w.heap.size + 1, 9, none⟩ = some (.int .i64 d') := HC_1.out.at 9
  have y10 : wb.cell? ⟨w.heap.size + 1, 10, none⟩ = some (.int .i64 f') := HC_1.out.at 10
  have y11 : wb.cell? ⟨w.heap.size + 1, 11, none⟩ = some (.int .i64 k') := HC_1.out.at 11
  go_wp2_with fail
  clear x6 x7 x8 x9 x10 x11 y6 y7 y8 y9 y10 y11
  refine (C2 _).mono ?_
  rintro e wc ⟨rfl, hb⟩
  have HA_2 : Hid (Lies wc w.heap.size [.int .i64 a, .int .i64 b, .int .i64 c, .int .i64 d, .int .i64 f, .int .i64 k, .int .i64 a', .int .i64 b', .int .i64 c', .int .i64 d', .int .i64 f', .int .i64 k']) := HA_1.out.belowS hb
  have HC_2 : Hid (Lies wc (w.heap.size + 1) [.int .i64 a, .int .i64 b, .int .i64 c, .int .i64 d, .int .i64 f, .int .i64 k, .int .i64 a', .int .i64 b', .int .i64 c', .int .i64 d', .int .i64 f', .int .i64 k']) := HC_1.out.belowS hb
  have HB_2 : Hid (Below w.heap.size w wc) := HB_1.out.trans (hb.mono HB_1.out.size)
  clear HA_1 HC_1 HB_1
  clear hb
  go_wp2
  go_ret
  exact ⟨rfl, HB_2.out⟩
set_option maxHeartbeats 8000000 in
set_option maxRecDepth 10000 in
theorem eqJob_same {ta tb : Option Addr} {tn tc td : Nat} {tl : List M.Tk} (jid a b c d f k a' b' c' d' f' k' s1 s2 jr : Int) (jg : Bool) (w : World) (hz : SeesT w ta tn tc tl) (hy : SeesT w tb tn td tl) :
    Calls Tryz.prog 67 #[.agg #[.int .i64 jid, .int .i64 a, .int .i64 b, .int .i64 c, .int .i64 d, .int .i64 f, .int .i64 k, .int .i64 a', .int .i64 b', .int .i64 c', .int .i64 d', .int .i64 f', .int .i64 k', .int .i64 s1, .int .i64 s2, .int .i64 jr, .bool jg, .slice ta tn tc], .agg #[.int .i64 jid, .int .i64 a, .int .i64 b, .int .i64 c, .int .i64 d, .int .i64 f, .int .i64 k, .int .i64 a', .int .i64 b', .int .i64 c', .int .i64 d', .int .i64 f', .int .i64 k', .int .i64 s1, .int .i64 s2, .int .i64 jr, .bool jg, .slice tb tn td]] w fun e w' => e = .returned (.bool true) ∧ Below w.heap.size w w' := by
  have HZ : Hid (SeesT w ta tn tc tl) := hz
  have HY : Hid (SeesT w tb tn td tl) := hy
  have C1 := eqMachine_same ⟨⟨a, b, c, d, f, k⟩, ⟨a', b', c', d', f', k'⟩⟩
  have C2 := eqState_same (s1, s2)
  dsimp only [mcv, stv] at C1 C2
  have n0 : (jid != jid) = false := by simp
  have n1 : (jr != jr) = false := by simp
  have n2 : (jg != jg) = false := by simp
  clear hz hy
  go_enter Tryz.func67, Tryz.ntmps67
  have HA_0 : Hid (Lies ((w.alloc (.cells #[.int .i64 jid, .int .i64 a, .int .i64 b, .int .i64 c, .int .i64 d, .int .i64 f, .int .i64 k, .int .i64 a', .int .i64 b', .int .i64 c', .int .i64 d', .int .i64 f', .int .i64 k', .int .i64 s1, .int .i64 s2, .int .i64 jr, .bool jg, .slice ta tn tc] 44)).alloc (.cells #[.int .i64 jid, .int .i64 a, .int .i64 b, .int .i64 c, .int .i64 d, .int .i64 f, .int .i64 k, .int .i64 a', .int .i64 b', .int .i64 c', .int .i64 d', .int .i64 f', .int .i64 k', .int .i64 s1, .int .i64 s2, .int .i64 jr, .bool jg, .slice tb tn td] 44)) w.heap.size [.int .i64 jid, .int .i64 a, .int .i64 b, .int .i64 c, .int .i64 d, .int .i64 f, .int .i64 k, .int .i64 a', .int .i64 b', .int .i64 c', .int .i64 d', .int .i64 f', .int .i64 k', .int .i64 s1, .int .i64 s2, .int .i64 jr, .bool jg, .slice ta tn tc]) := (lies_new _ _ _).alloc _
  have HC_0 : Hid (Lies ((w.alloc (.cells #[.int .i64 jid, .int .i64 a, .int .i64 b, .int .i64 c, .int .i64 d, .int .i64 f, .int .i64 k, .int .i64 a', .int .i64 b', .int .i64 c', .int .i64 d', .int .i64 f', .int .i64 k', .int .i64 s1, .int .i64 s2, .int .i64 jr, .bool jg, .slice ta tn tc] 44)).alloc (.cells #[.int .i64 jid, .int .i64 a, .int .i64 b, .int .i64 c, .int .i64 d, .int .i64 f, .int .i64 k, .int .i64 a', .int .i64 b', .int .i64 c', .int .i64 d', .int .i64 f', .int .i64 k', .int .i64 s1, .int .i64 s2, .int .i64 jr, .bool jg, .slice tb tn td] 44)) (w.heap.size + 1) [.int .i64 jid, .int .i64 a, .int .i64 b, .int .i64 c, .int .i64 d, .int .i64 f, .int .i64 k, .int .i64 a', .int .i64 b', .int .i64 c', .int .i64 d', .int .i64 f', .int .i64 k', .int .i64 s1, .int .i64 s2, .int .i64 jr, .bool jg, .slice tb tn td]) := lies_new2 _ _ _ _
  have HB_0 : Hid (Below w.heap.size w ((w.alloc (.cells #[.int .i64 jid, .int .i64 a, .int .i64 b, .int .i64 c, .int .i64 d, .int .i64 f, .int .i64 k, .int .i64 a', .int .i64 b', .int .i64 c', .int .i64 d', .int .i64 f', .int .i64 k', .int .i64 s1, .int .i64 s2, .int .i64 jr, .bool jg, .slice ta tn tc] 44)).alloc (.cells #[.int .i64 jid, .int .i64 a, .int .i64 b, .int .i64 c, .int .i64 d, .int .i64 f, .int .i64 k, .int .i64 a', .int .i64 b', .int .i64 c', .int .i64 d', .int .i64 f', .int .i64 k', .int .i64 s1, .int .i64 s2, .int .i64 jr, .bool jg, .slice tb tn td] 44))) := ((Below.refl _ _).alloc (Nat.le_refl _) _).alloc (by simp) _
  go_wp2_with fail
  generalize ((w.alloc (.cells #[.int .i64 jid, .int .i64 a, .int .i64 b, .int .i64 c, .int .i64 d, .int .i64 f, .int .i64 k, .int .i64 a', .int .i64 b', .int .i64 c', .int .i64 d', .int .i64 f', .int .i64 k', .int .i64 s1, .int .i64 s2, .int .i64 jr, .bool jg, .slice ta tn tc] 44)).alloc (.cells #[.int .i64 jid, .int .i64 a, .int .i64 b, .int .i64 c, .int .i64 d, .int .i64 f, .int .i64 k, .int .i64 a', .int .i64 b', .int .i64 c', .int .i64 d', .int .i64 f', .int .i64 k', .int .i64 s1, .int .i64 s2, .int .i64 jr, .bool jg, .slice tb tn td] 44)) = wa at HA_0 HC_0 HB_0  ⊢
  refine (C1 _).mono ?_
  rintro e wb ⟨rfl, hb⟩
  have HA_1 : Hid (Lies wb w.heap.size [.int .i64 jid, .int .i64 a, .int .i64 b, .int .i64 c, .int .i64 d, .int .i64 f, .int .i64 k, .int .i64 a', .int .i64 b', .int .i64 c', .int .i64 d', .int .i64 f', .int .i64 k', .int .i64 s1, .int .i64 s2, .int .i64 jr, .bool jg, .slice ta tn tc]) := HA_0.out.belowS hb
  have HC_1 : Hid (Lies wb (w.heap.size + 1) [.int .i64 jid, .int .i64 a, .int .i64 b, .int .i64 c, .int .i64 d, .int .i64 f, .int .i64 k, .int .i64 a', .int .i64 b', .int .i64 c', .int .i64 d', .int .i64 f', .int .i64 k', .int .i64 s1, .int .i64 s2, .int .i64 jr, .bool jg, .slice tb tn td]) := HC_0.out.belowS hb
  have HB_1 : Hid (Below w.heap.size w wb) := HB_0.out.trans (hb.mono HB_0.out.size)
  clear HA_0 HC_0 HB_0
  clear hb
  have x13 : wb.cell? ⟨w.heap.size, 13, none⟩ = some (.int .i64 s1) := HA_1.out.at 13
  have x14 : wb.cell? ⟨w.heap.size, 14, none⟩ = some (.int .i64 s2) := HA_1.out.at 14
  have y13 : wb.cell? ⟨w.heap.size + 1, 13, none⟩ = some (.int .i64 s1) := HC_1.out.at 13
  have y14 : wb.cell? ⟨w.heap.size + 1, 14, none⟩ = some (.int .i64 s2) := HC_1.out.at 14
  go_wp2_with fail
  clear x13 x14 y13 y14
  refine (C2 _).mono ?_
  rintro e wc ⟨rfl, hb⟩
  have HA_2 : Hid (Lies wc w.heap.size [.int .i64 jid, .int .i64 a, .int .i64 b, .int .i64 c, .int .i64 d, .int .i64 f, .int .i64 k, .int .i64 a', .int .i64 b', .int .i64 c', .int .i64 d', .int .i64 f', .int .i64 k', .int .i64 s1, .int .i64 s2, .int .i64 jr, .bool jg, .slice ta tn tc]) := HA_1.out.belowS hb
  have HC_2 : Hid (Lies wc (w.heap.size + 1) [.int .i64 jid, .int .i64 a, .int .i64 b, .int .i64 c, .int .i64 d, .int .i64 f, .int .i64 k, .int .i64 a', .int .i64 b', .int .i64 c', .int .i64 d', .int .i64 f', .int .i64 k', .int .i64 s1, .int .i64 s2, .int .i64 jr, .bool jg, .slice tb tn td]) := HC_1.out.belowS hb
  have HB_2 : Hid (Below w.heap.size w wc) := HB_1.out.trans (hb.mono HB_1.out.size)
  clear HA_1 HC_1 HB_1
  clear hb
  have x15 : wc.cell? ⟨w.heap.size, 15, none⟩ = some (.int .i64 jr) := HA_2.out.at 15
  have x16 : wc.cell? ⟨w.heap.size, 16, none⟩ = some (.bool jg) := HA_2.out.at 16
  have x17 : wc.cell? ⟨w.heap.size, 17, none⟩ = some (.slice ta tn tc) := HA_2.out.at 17
  have y15 : wc.cell? ⟨w.heap.size + 1, 15, none⟩ = some (.int .i64 jr) := HC_2.out.at 15
  have y16 : wc.cell? ⟨w.heap.size + 1, 16, none⟩ = some (.bool jg) := HC_2.out.at 16
  have y17 : wc.cell? ⟨w.heap.size + 1, 17, none⟩ = some (.slice tb tn td) := HC_2.out.at 17
  go_wp2_with fail
  clear x15 x16 x17 y15 y16 y17
  refine (eqT_same _ (HZ.out.below HB_2.out) (HY.out.below HB_2.out)).mono ?_
  rintro e wd ⟨rfl, hb⟩
  have HA_3 : Hid (Lies wd w.heap.size [.int .i64 jid, .int .i64 a, .int .i64 b, .int .i64 c, .int .i64 d, .int .i64 f, .int .i64 k, .int .i64 a', .int .i64 b', .int .i64 c', .int .i64 d', .int .i64 f', .int .i64 k', .int .i64 s1, .int .i64 s2, .int .i64 jr, .bool jg, .slice ta tn tc]) := HA_2.out.belowS hb
  have HC_3 : Hid (Lies wd (w.heap.size + 1) [.int .i64 jid, .int .i64 a, .int .i64 b, .int .i64 c, .int .i64 d, .int .i64 f, .int .i64 k, .int .i64 a', .int .i64 b', .int .i64 c', .int .i64 d', .int .i64 f', .int .i64 k', .int .i64 s1, .int .i64 s2, .int .i64 jr, .bool jg, .slice tb tn td]) := HC_2.out.belowS hb
  have HB_3 : Hid (Below w.heap.size w wd) := HB_2.out.trans (hb.mono HB_2.out.size)
  clear HA_2 HC_2 HB_2
  clear hb
  go_wp2
  go_ret
  exact ⟨rfl, HB_3.out⟩
set_option maxHeartbeats 8000000 in
set_option maxRecDepth 10000 in
theorem eqJ_same {a b : Option Addr} {n c dd : Nat} {js : List M.Jb} (w : World) (hz : SeesJ w a n c js) (hy : SeesJ w b n dd js) :
    Calls Tryz.prog 39 #[.slice a n c, .slice b n dd] w fun e w' => e = .returned (.bool true) ∧ Below w.heap.size w w' := by
  have HZ : Hid (SeesJ w a n c js) := hz
  have HY : Hid (SeesJ w b n dd js) := hy
  have hnb : (n : Int) ≤ 9223372036854775807 := by have := hz.big; have := hz.le; omega
  have hcI : (n : Int) ≤ c := by have := hz.le; omega
  have hdI : (n : Int) ≤ dd := by have := hy.le; omega
  clear hz hy
  have n1 : ((n : Int) != (n : Int)) = false := by simp
  go_enter Tryz.func39, Tryz.ntmps39
  go_wp2
  go_loopw [5] (fun i wr => ∃ j : Nat, j ≤ n ∧ i = .int .i64 j ∧ Below w.heap.size w wr) (fun i _ => n - (intOf i).toNat)
  case atStart => exact ⟨0, by omega, rfl, Below.refl _ _⟩
  case round =>
    obtain ⟨j, hj, rfl, hb1⟩ := hrel
    have HB1 : Hid (Below w.heap.size w wr) := hb1
    clear hb1
    by_cases hlt : j < n
    · obtain ⟨b1, o1, rfl, hc1⟩ := (HZ.out.below HB1.out).at (by omega)
      obtain ⟨b2, o2, rfl, hc2⟩ := (HY.out.below HB1.out).at (by omega)
      obtain ⟨ta, tc, hA, hT⟩ := hc1 j hlt
      obtain ⟨tb, td, hA2, hT2⟩ := hc2 j hlt
      have hI : (j : Int) < (n : Int) := by omega
      generalize js.getD j M.j0 = cq at hA hT hA2 hT2
      obtain ⟨jid, ⟨⟨a, b, c', d, f, k⟩, ⟨a', b', c'', d', f', k'⟩⟩, ⟨s1, s2⟩, jr, jg, tl⟩ := cq
      dsimp only at hT hT2
      have hR : wr.rangeAt b1 (o1 + j * 18) (jvs ⟨jid, ⟨⟨a, b, c', d, f, k⟩, ⟨a', b', c'', d', f', k'⟩⟩, (s1, s2), jr, jg, tl⟩ ta tc) := row_of_cells rfl hA
      have hR2 : wr.rangeAt b2 (o2 + j * 18) (jvs ⟨jid, ⟨⟨a, b, c', d, f, k⟩, ⟨a', b', c'', d', f', k'⟩⟩, (s1, s2), jr, jg, tl⟩ tb td) := row_of_cells rfl hA2
      dsimp only [jvs] at hR hR2
      have HT : Hid (SeesT wr ta tl.length tc tl) := hT
      have HT2 : Hid (SeesT wr tb tl.length td tl) := hT2
      generalize tl.length = tn at hR hR2 HT HT2
      clear hc1 hA hT hc2 hA2 hT2
      go_wp2
      have HB_0 : Hid (Below w.heap.size w wr) := HB1.out
      have T1_0 : Hid (SeesT wr ta tn tc tl) := HT.out
      have T2_0 : Hid (SeesT wr tb tn td tl) := HT2.out
      clear HB1 HT HT2
      refine wp_region_noPanic ?_
      refine wp_region_held_drew (S := fun W => wr.grownBy W none) (by kernel_rfl) (grown_drew _ _) (fun hHeld => ?_)
      generalize wr.drew = wd0 at hHeld ⊢
      have HX0 : Hid (Below wr.heap.size wr wd0) := ⟨hHeld.os, hHeld.tape, hHeld.output, hHeld.size, fun k hk => hHeld.block k hk (by simp)⟩
      refine wpAnyH_take (i := 0) (v := .slice (some ⟨b1, o1, none⟩) n c) rfl (by kernel_rfl) (by kernel_rfl) (by kernel_rfl) (fun _ _ _ h => h) (Or.inl ⟨by kernel_rfl, ?_⟩) (by assumption) ?_
      · intro wq hSq; go_simp
      try simp only [Act.put]
      refine wpAnyH_take (i := 1) (v := .int .i64 j) rfl (by kernel_rfl) (by kernel_rfl) (by kernel_rfl) (fun _ _ _ h => h) (Or.inl ⟨by kernel_rfl, ?_⟩) (by assumption) ?_
      · intro wq hSq; go_simp
      try simp only [Act.put]
      refine wpAnyH_take (i := 2) (v := .pointer (some ⟨b1, o1 + j * 18, none⟩)) rfl (by kernel_rfl) (by kernel_rfl) (by kernel_rfl) (fun _ _ _ h => h) (Or.inl ⟨by kernel_rfl, ?_⟩) (by assumption) ?_
      · intro wq hSq; go_simp
      try simp only [Act.put]
      refine wpAnyH_take (i := 3) (v := .agg ([.int .i64 jid, .int .i64 a, .int .i64 b, .int .i64 c', .int .i64 d, .int .i64 f, .int .i64 k, .int .i64 a', .int .i64 b', .int .i64 c'', .int .i64 d', .int .i64 f', .int .i64 k', .int .i64 s1, .int .i64 s2, .int .i64 jr, .bool jg, .slice ta tn tc]).toArray) rfl (by kernel_rfl) (by kernel_rfl) (by kernel_rfl) (fun _ _ _ h => h) (yieldsIf_load_mid (by kernel_rfl) 44 (.tmp 19) rfl b1 (o1 + j * 18) rfl ([.int .i64 jid, .int .i64 a, .int .i64 b, .int .i64 c', .int .i64 d, .int .i64 f, .int .i64 k, .int .i64 a', .int .i64 b', .int .i64 c'', .int .i64 d', .int .i64 f', .int .i64 k', .int .i64 s1, .int .i64 s2, .int .i64 jr, .bool jg, .slice ta tn tc]) _ (fun W h i v hv => h.cell (hR i v hv) (by simp)) Tryz.underlying44 rfl (by kernel_rfl)) (by assumption) ?_
      try simp only [Act.put]
      refine wpAnyH_take (i := 4) (v := .slice (some ⟨b2, o2, none⟩) n dd) rfl (by kernel_rfl) (by kernel_rfl) (by kernel_rfl) (fun _ _ _ h => h) (Or.inl ⟨by kernel_rfl, ?_⟩) (by assumption) ?_
      · intro wq hSq; go_simp
      try simp only [Act.put]
      refine wpAnyH_take (i := 5) (v := .int .i64 j) rfl (by kernel_rfl) (by kernel_rfl) (by kernel_rfl) (fun _ _ _ h => h) (Or.inl ⟨by kernel_rfl, ?_⟩) (by assumption) ?_
      · intro wq hSq; go_simp
      try simp only [Act.put]
      refine wpAnyH_take (i := 6) (v := .pointer (some ⟨b2, o2 + j * 18, none⟩)) rfl (by kernel_rfl) (by kernel_rfl) (by kernel_rfl) (fun _ _ _ h => h) (Or.inl ⟨by kernel_rfl, ?_⟩) (by assumption) ?_
      · intro wq hSq; go_simp
      try simp only [Act.put]
      refine wpAnyH_take (i := 7) (v := .agg ([.int .i64 jid, .int .i64 a, .int .i64 b, .int .i64 c', .int .i64 d, .int .i64 f, .int .i64 k, .int .i64 a', .int .i64 b', .int .i64 c'', .int .i64 d', .int .i64 f', .int .i64 k', .int .i64 s1, .int .i64 s2, .int .i64 jr, .bool jg, .slice tb tn td]).toArray) rfl (by kernel_rfl) (by kernel_rfl) (by kernel_rfl) (fun _ _ _ h => h) (yieldsIf_load_mid (by kernel_rfl) 44 (.tmp 23) rfl b2 (o2 + j * 18) rfl ([.int .i64 jid, .int .i64 a, .int .i64 b, .int .i64 c', .int .i64 d, .int .i64 f, .int .i64 k, .int .i64 a', .int .i64 b', .int .i64 c'', .int .i64 d', .int .i64 f', .int .i64 k', .int .i64 s1, .int .i64 s2, .int .i64 jr, .bool jg, .slice tb tn td]) _ (fun W h i v hv => h.cell (hR2 i v hv) (by simp)) Tryz.underlying44 rfl (by kernel_rfl)) (by assumption) ?_
      try simp only [Act.put]
      refine wpAnyH_ready (rs := [8]) (by kernel_rfl) (by simp) ?_
      refine AllReadyH.cons rfl (fun Kk hK => ?_) AllReadyH.nil
      go_simp
      refine (eqJob_same jid a b c' d f k a' b' c'' d' f' k' s1 s2 jr jg _ (T1_0.out.below HX0.out) (T2_0.out.below HX0.out)).mono ?_
      rintro e wd1 ⟨rfl, hb1⟩
      go_simp
      have hS1 : wr.grownBy wd1 none := grown_step hHeld hb1
      have HX1 : Hid (Below wr.heap.size wr wd1) := ⟨hS1.os, hS1.tape, hS1.output, hS1.size, fun k hk => hS1.block k hk (by simp)⟩
      refine hK.out _ _ hS1 (fun _ => ?_)
      clear hK Kk hb1
      try simp only [Act.put]
      refine wpAnyH_take (i := 9) (v := .bool false) rfl (by kernel_rfl) (by kernel_rfl) (by kernel_rfl) (fun _ _ _ h => h) (Or.inl ⟨by kernel_rfl, ?_⟩) (by assumption) ?_
      · intro wq hSq; go_simp
      try simp only [Act.put]
      refine wpAnyH_done (by kernel_rfl) ?_ _
      refine NoPanic.normal ?_
      go_simp
      have HB_1 : Hid (Below w.heap.size w wd1) := HB_0.out.trans (HX1.out.mono HB_0.out.size)
      have T1_1 : Hid (SeesT wd1 ta tn tc tl) := T1_0.out.below HX1.out
      have T2_1 : Hid (SeesT wd1 tb tn td tl) := T2_0.out.below HX1.out
      clear HB_0 T1_0 T2_0
      clear hR hR2
      go_wp2
      go_roundw
      case rel => exact ⟨j + 1, by omega, by go_num, HB_1.out⟩
      case measure => simp [intOf]; omega
    · have hjn : j = n := by omega
      subst hjn
      go_wp2
      go_ret
      exact ⟨rfl, HB1.out⟩
set_option maxHeartbeats 4000000 in
theorem eqMarket_same {ab aj ab' aj' : Option Addr} {nb cb nj cj cb' cj' : Nat} {bs : List Int} {js : List M.Jb} (now next : Int) (w : World) (hz : SeesM w ab nb cb aj nj cj bs js) (hy : SeesM w ab' nb cb' aj' nj cj' bs js) :
    Calls Tryz.prog 15 #[.agg #[.int .i64 now, .int .i64 next, .slice ab nb cb, .slice aj nj cj], .agg #[.int .i64 now, .int .i64 next, .slice ab' nb cb', .slice aj' nj cj']] w fun e w' => e = .returned (.bool true) ∧ Below w.heap.size w w' := by
  have HZ : Hid (SeesM w ab nb cb aj nj cj bs js) := hz
  have HY : Hid (SeesM w ab' nb cb' aj' nj cj' bs js) := hy
  have n0 : (now != now) = false := by simp
  have n1 : (next != next) = false := by simp
  clear hz hy
  go_enter Tryz.func15, Tryz.ntmps15
  have HA_0 : Hid (Lies ((w.alloc (.cells #[.int .i64 now, .int .i64 next, .slice ab nb cb, .slice aj nj cj] 27)).alloc (.cells #[.int .i64 now, .int .i64 next, .slice ab' nb cb', .slice aj' nj cj'] 27)) w.heap.size [.int .i64 now, .int .i64 next, .slice ab nb cb, .slice aj nj cj]) := (lies_new _ _ _).alloc _
  have HC_0 : Hid (Lies ((w.alloc (.cells #[.int .i64 now, .int .i64 next, .slice ab nb cb, .slice aj nj cj] 27)).alloc (.cells #[.int .i64 now, .int .i64 next, .slice ab' nb cb', .slice aj' nj cj'] 27)) (w.heap.size + 1) [.int .i64 now, .int .i64 next, .slice ab' nb cb', .slice aj' nj cj']) := lies_new2 _ _ _ _
  have HB_0 : Hid (Below w.heap.size w ((w.alloc (.cells #[.int .i64 now, .int .i64 next, .slice ab nb cb, .slice aj nj cj] 27)).alloc (.cells #[.int .i64 now, .int .i64 next, .slice ab' nb cb', .slice aj' nj cj'] 27))) := ((Below.refl _ _).alloc (Nat.le_refl _) _).alloc (by simp) _
  go_wp2_with fail
  generalize ((w.alloc (.cells #[.int .i64 now, .int .i64 next, .slice ab nb cb, .slice aj nj cj] 27)).alloc (.cells #[.int .i64 now, .int .i64 next, .slice ab' nb cb', .slice aj' nj cj'] 27)) = wa at HA_0 HC_0 HB_0  ⊢
  refine (eqS_yes _ (HZ.out.b.below HB_0.out) (HY.out.b.below HB_0.out)).mono ?_
  rintro e wb ⟨rfl, hb⟩
  have HA_1 : Hid (Lies wb w.heap.size [.int .i64 now, .int .i64 next, .slice ab nb cb, .slice aj nj cj]) := HA_0.out.belowS hb
  have HC_1 : Hid (Lies wb (w.heap.size + 1) [.int .i64 now, .int .i64 next, .slice ab' nb cb', .slice aj' nj cj']) := HC_0.out.belowS hb
  have HB_1 : Hid (Below w.heap.size w wb) := HB_0.out.trans (hb.mono HB_0.out.size)
  clear HA_0 HC_0 HB_0
  clear hb
  have x3 : wb.cell? ⟨w.heap.size, 3, none⟩ = some (.slice aj nj cj) := HA_1.out.at 3
  have y3 : wb.cell? ⟨w.heap.size + 1, 3, none⟩ = some (.slice aj' nj cj') := HC_1.out.at 3
  go_wp2_with fail
  clear x3 y3
  refine (eqJ_same _ (HZ.out.j.below HB_1.out) (HY.out.j.below HB_1.out)).mono ?_
  rintro e wc ⟨rfl, hb⟩
  have HA_2 : Hid (Lies wc w.heap.size [.int .i64 now, .int .i64 next, .slice ab nb cb, .slice aj nj cj]) := HA_1.out.belowS hb
  have HC_2 : Hid (Lies wc (w.heap.size + 1) [.int .i64 now, .int .i64 next, .slice ab' nb cb', .slice aj' nj cj']) := HC_1.out.belowS hb
  have HB_2 : Hid (Below w.heap.size w wc) := HB_1.out.trans (hb.mono HB_1.out.size)
  clear HA_1 HC_1 HB_1
  clear hb
  go_wp2
  go_ret
  exact ⟨rfl, HB_2.out⟩
end Go.Proofs.YtfhknkppiidnkaaGreat
