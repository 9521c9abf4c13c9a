/- Whether a claim holds, in the program and in the model. What FnHolds says, in plain terms. -/
import Derived.Test.YtjeoenieoejolajClA
namespace Go.Proofs.Ytjeoenieoejolaj
open Go.RowKit

def M.holds (m : M.Mc) (c : M.Cl) : Bool := m.ok && (M.clOk c && (decide ((M.aft m c.s c.n).1 = c.e.1) && decide ((M.aft m c.s c.n).2 = c.e.2)))
theorem M.runOk_cl {m : M.Mc} {c : M.Cl} (h : M.clOk c = true) : M.runOk m c.s c.n = m.ok := by
  have hn := M.clOk_n h
  have hs : M.sOk c.s = true := by unfold M.clOk at h; simp only [Bool.and_eq_true] at h; exact h.1
  cases hm : m.ok with
  | true => exact M.runOk_mk hm hs (by omega) hn.2
  | false =>
    cases hr : M.runOk m c.s c.n with
    | false => rfl
    | true => have := (M.runOk_parts hr).1; rw [hm] at this; cases this
set_option maxHeartbeats 4000000 in
theorem implHolds_any (mm : M.Mc) (cl : M.Cl) (w : World) : Calls Try.prog 10 #[mcv mm, clv cl] w fun e w' => e = .returned (.bool (M.holds mm cl)) ∧ Below w.heap.size w w' := by
  have C1 := implAfter_any mm cl.s cl.n
  have C2 := claimOk_any cl
  have hr := @M.runOk_cl mm cl
  unfold M.holds
  generalize M.aft mm cl.s cl.n = q at C1 ⊢
  generalize M.clOk cl = o at C2 hr ⊢
  generalize mm.ok = o2 at hr ⊢
  generalize M.runOk mm cl.s cl.n = o3 at C1 hr
  obtain ⟨⟨a, b, c, d, f, k⟩, ⟨a', b', c', d', f', k'⟩⟩ := mm
  obtain ⟨⟨x, y⟩, ⟨x', y'⟩, n⟩ := cl
  obtain ⟨u, v⟩ := q
  dsimp only [mcv, clv, stv] at C1 C2 ⊢
  have LA : Hid (Lies ((w.alloc (.cells #[.int .i64 a, .int .i64 b, .int .i64 c, .int .i64 d, .int .i64 f, .int .i64 k, .int .i64 a', .int .i64 b', .int .i64 c', .int .i64 d', .int .i64 f', .int .i64 k'] 33)).alloc (.cells #[.int .i64 x, .int .i64 y, .int .i64 x', .int .i64 y', .int .i64 n] 37)) (w.heap.size + 1) [.int .i64 x, .int .i64 y, .int .i64 x', .int .i64 y', .int .i64 n]) := lies_new2 _ _ _ _
  go_enter Try.func10, Try.ntmps10
  go_wp2_with fail
  refine (C1 _).mono ?_
  rintro e w1 ⟨rfl, hb1⟩
  have HB1 : Hid (Below w.heap.size w w1) := (((Below.refl _ _).alloc (Nat.le_refl _) _).alloc (by simp) _).trans (hb1.mono (by simp; omega))
  have HBE : Hid (Below w.heap.size w (w1.alloc (.cells #[.int .i64 u, .int .i64 v] 35))) := HB1.out.alloc HB1.out.size _
  have LE : Hid (Lies (w1.alloc (.cells #[.int .i64 u, .int .i64 v] 35)) w1.heap.size [.int .i64 u, .int .i64 v]) := lies_new _ _ _
  have LC : Hid (Lies (w1.alloc (.cells #[.int .i64 u, .int .i64 v] 35)) (w.heap.size + 1) [.int .i64 x, .int .i64 y, .int .i64 x', .int .i64 y', .int .i64 n]) := (LA.out.belowS hb1).alloc _
  have p0 : (w1.alloc (.cells #[.int .i64 u, .int .i64 v] 35)).cell? ⟨w.heap.size + 1, 0, none⟩ = some (.int .i64 x) := LC.out.at 0
  have p1 : (w1.alloc (.cells #[.int .i64 u, .int .i64 v] 35)).cell? ⟨w.heap.size + 1, 1, none⟩ = some (.int .i64 y) := LC.out.at 1
  have p2 : (w1.alloc (.cells #[.int .i64 u, .int .i64 v] 35)).cell? ⟨w.heap.size + 1, 2, none⟩ = some (.int .i64 x') := LC.out.at 2
  have p3 : (w1.alloc (.cells #[.int .i64 u, .int .i64 v] 35)).cell? ⟨w.heap.size + 1, 3, none⟩ = some (.int .i64 y') := LC.out.at 3
  have p4 : (w1.alloc (.cells #[.int .i64 u, .int .i64 v] 35)).cell? ⟨w.heap.size + 1, 4, none⟩ = some (.int .i64 n) := LC.out.at 4
  clear hb1 LA
  cases o3 with
  | false =>
    go_wp2
    go_ret
    exact ⟨by cases o <;> simp_all, HBE.out⟩
  | true =>
    go_wp2_with fail
    refine (C2 _).mono ?_
    rintro e w2 ⟨rfl, hb2⟩
    have HB2 : Hid (Below w.heap.size w w2) := HBE.out.trans (hb2.mono HBE.out.size)
    have LC2 := LC.out.belowS hb2
    have LE2 := LE.out.belowS hb2
    clear p0 p1 p2 p3 p4
    have p0 : w2.cell? ⟨w.heap.size + 1, 0, none⟩ = some (.int .i64 x) := LC2.at 0
    have p1 : w2.cell? ⟨w.heap.size + 1, 1, none⟩ = some (.int .i64 y) := LC2.at 1
    have p2 : w2.cell? ⟨w.heap.size + 1, 2, none⟩ = some (.int .i64 x') := LC2.at 2
    have p3 : w2.cell? ⟨w.heap.size + 1, 3, none⟩ = some (.int .i64 y') := LC2.at 3
    have p4 : w2.cell? ⟨w.heap.size + 1, 4, none⟩ = some (.int .i64 n) := LC2.at 4
    have e0 : w2.cell? ⟨w1.heap.size, 0, none⟩ = some (.int .i64 u) := LE2.at 0
    have e1 : w2.cell? ⟨w1.heap.size, 1, none⟩ = some (.int .i64 v) := LE2.at 1
    clear hb2 LC LE LC2 LE2 HBE
    cases o with
    | false =>
      go_wp2
      go_ret
      exact ⟨by simp, HB2.out⟩
    | true =>
      obtain rfl : true = o2 := hr (by simp)
      by_cases h1 : u = x'
      · by_cases h2 : v = y'
        · subst h1 h2
          have j1 : (u == u) = true := by simp
          have j2 : (v == v) = true := by simp
          go_wp2
          go_ret
          exact ⟨by simp, HB2.out⟩
        · subst h1
          have j1 : (u == u) = true := by simp
          have j2 : (v == y') = false := by simpa using h2
          go_wp2
          go_ret
          exact ⟨by simp, HB2.out⟩
      · have j1 : (u == x') = false := by simpa using h1
        go_wp2
        go_ret
        exact ⟨by simp [h1], HB2.out⟩
set_option maxHeartbeats 4000000 in
theorem specHolds_any (mm : M.Mc) (cl : M.Cl) (w : World) : Calls Try.prog 7 #[mcv mm, clv cl] w fun e w' => e = .returned (.bool (M.holds mm cl)) ∧ Below w.heap.size w w' := by
  have C0 := specMachineOk_any mm
  have C1 := specAfter_any mm cl.s cl.n
  have C2 := l7Ok_any cl
  have hr := @M.runOk_cl mm cl
  unfold M.holds
  generalize M.aft mm cl.s cl.n = q at C1 ⊢
  generalize M.clOk cl = o at C2 hr ⊢
  generalize mm.ok = o2 at C0 hr ⊢
  generalize M.runOk mm cl.s cl.n = o3 at C1 hr
  obtain ⟨⟨a, b, c, d, f, k⟩, ⟨a', b', c', d', f', k'⟩⟩ := mm
  obtain ⟨⟨x, y⟩, ⟨x', y'⟩, n⟩ := cl
  obtain ⟨u, v⟩ := q
  dsimp only [mcv, clv, stv] at C0 C1 C2 ⊢
  have LM : Hid (Lies ((w.alloc (.cells #[.int .i64 a, .int .i64 b, .int .i64 c, .int .i64 d, .int .i64 f, .int .i64 k, .int .i64 a', .int .i64 b', .int .i64 c', .int .i64 d', .int .i64 f', .int .i64 k'] 33)).alloc (.cells #[.int .i64 x, .int .i64 y, .int .i64 x', .int .i64 y', .int .i64 n] 37)) w.heap.size [.int .i64 a, .int .i64 b, .int .i64 c, .int .i64 d, .int .i64 f, .int .i64 k, .int .i64 a', .int .i64 b', .int .i64 c', .int .i64 d', .int .i64 f', .int .i64 k']) := (lies_new _ _ _).alloc _
  have LA : Hid (Lies ((w.alloc (.cells #[.int .i64 a, .int .i64 b, .int .i64 c, .int .i64 d, .int .i64 f, .int .i64 k, .int .i64 a', .int .i64 b', .int .i64 c', .int .i64 d', .int .i64 f', .int .i64 k'] 33)).alloc (.cells #[.int .i64 x, .int .i64 y, .int .i64 x', .int .i64 y', .int .i64 n] 37)) (w.heap.size + 1) [.int .i64 x, .int .i64 y, .int .i64 x', .int .i64 y', .int .i64 n]) := lies_new2 _ _ _ _
  have HBa : Hid (Below w.heap.size w ((w.alloc (.cells #[.int .i64 a, .int .i64 b, .int .i64 c, .int .i64 d, .int .i64 f, .int .i64 k, .int .i64 a', .int .i64 b', .int .i64 c', .int .i64 d', .int .i64 f', .int .i64 k'] 33)).alloc (.cells #[.int .i64 x, .int .i64 y, .int .i64 x', .int .i64 y', .int .i64 n] 37))) := ((Below.refl _ _).alloc (Nat.le_refl _) _).alloc (by simp) _
  go_enter Try.func7, Try.ntmps7
  go_wp2_with fail
  refine (C0 _).mono ?_
  rintro e w0 ⟨rfl, hb0⟩
  have HB0 : Hid (Below w.heap.size w w0) := HBa.out.trans (hb0.mono HBa.out.size)
  have LM0 : Hid (Lies w0 w.heap.size [.int .i64 a, .int .i64 b, .int .i64 c, .int .i64 d, .int .i64 f, .int .i64 k, .int .i64 a', .int .i64 b', .int .i64 c', .int .i64 d', .int .i64 f', .int .i64 k']) := LM.out.belowS hb0
  have LA0 : Hid (Lies w0 (w.heap.size + 1) [.int .i64 x, .int .i64 y, .int .i64 x', .int .i64 y', .int .i64 n]) := LA.out.belowS hb0
  have p0 : w0.cell? ⟨w.heap.size + 1, 0, none⟩ = some (.int .i64 x) := LA0.out.at 0
  have p1 : w0.cell? ⟨w.heap.size + 1, 1, none⟩ = some (.int .i64 y) := LA0.out.at 1
  have p2 : w0.cell? ⟨w.heap.size + 1, 2, none⟩ = some (.int .i64 x') := LA0.out.at 2
  have p3 : w0.cell? ⟨w.heap.size + 1, 3, none⟩ = some (.int .i64 y') := LA0.out.at 3
  have p4 : w0.cell? ⟨w.heap.size + 1, 4, none⟩ = some (.int .i64 n) := LA0.out.at 4
  clear hb0 LA LM HBa
  cases o2 with
  | false =>
    go_wp2
    go_ret
    exact ⟨by simp, HB0.out⟩
  | true =>
    go_wp2_with fail
    refine (C2 _).mono ?_
    rintro e w1 ⟨rfl, hb1⟩
    have HB1 : Hid (Below w.heap.size w w1) := HB0.out.trans (hb1.mono HB0.out.size)
    have LM1 : Hid (Lies w1 w.heap.size [.int .i64 a, .int .i64 b, .int .i64 c, .int .i64 d, .int .i64 f, .int .i64 k, .int .i64 a', .int .i64 b', .int .i64 c', .int .i64 d', .int .i64 f', .int .i64 k']) := LM0.out.belowS hb1
    have LA1 : Hid (Lies w1 (w.heap.size + 1) [.int .i64 x, .int .i64 y, .int .i64 x', .int .i64 y', .int .i64 n]) := LA0.out.belowS hb1
    clear p0 p1 p2 p3 p4 hb1 LM0 LA0 HB0
    have p0 : w1.cell? ⟨w.heap.size + 1, 0, none⟩ = some (.int .i64 x) := LA1.out.at 0
    have p1 : w1.cell? ⟨w.heap.size + 1, 1, none⟩ = some (.int .i64 y) := LA1.out.at 1
    have p2 : w1.cell? ⟨w.heap.size + 1, 2, none⟩ = some (.int .i64 x') := LA1.out.at 2
    have p3 : w1.cell? ⟨w.heap.size + 1, 3, none⟩ = some (.int .i64 y') := LA1.out.at 3
    have p4 : w1.cell? ⟨w.heap.size + 1, 4, none⟩ = some (.int .i64 n) := LA1.out.at 4
    have m0 : w1.cell? ⟨w.heap.size, 0, none⟩ = some (.int .i64 a) := LM1.out.at 0
    have m1 : w1.cell? ⟨w.heap.size, 1, none⟩ = some (.int .i64 b) := LM1.out.at 1
    have m2 : w1.cell? ⟨w.heap.size, 2, none⟩ = some (.int .i64 c) := LM1.out.at 2
    have m3 : w1.cell? ⟨w.heap.size, 3, none⟩ = some (.int .i64 d) := LM1.out.at 3
    have m4 : w1.cell? ⟨w.heap.size, 4, none⟩ = some (.int .i64 f) := LM1.out.at 4
    have m5 : w1.cell? ⟨w.heap.size, 5, none⟩ = some (.int .i64 k) := LM1.out.at 5
    have m6 : w1.cell? ⟨w.heap.size, 6, none⟩ = some (.int .i64 a') := LM1.out.at 6
    have m7 : w1.cell? ⟨w.heap.size, 7, none⟩ = some (.int .i64 b') := LM1.out.at 7
    have m8 : w1.cell? ⟨w.heap.size, 8, none⟩ = some (.int .i64 c') := LM1.out.at 8
    have m9 : w1.cell? ⟨w.heap.size, 9, none⟩ = some (.int .i64 d') := LM1.out.at 9
    have m10 : w1.cell? ⟨w.heap.size, 10, none⟩ = some (.int .i64 f') := LM1.out.at 10
    have m11 : w1.cell? ⟨w.heap.size, 11, none⟩ = some (.int .i64 k') := LM1.out.at 11
    cases o with
    | false =>
      go_wp2
      go_ret
      exact ⟨by simp, HB1.out⟩
    | true =>
      obtain rfl : o3 = true := hr (by simp)
      go_wp2_with fail
      refine (C1 _).mono ?_
      rintro e w2 ⟨rfl, hb2⟩
      have HB2 : Hid (Below w.heap.size w w2) := HB1.out.trans (hb2.mono HB1.out.size)
      have HBE : Hid (Below w.heap.size w (w2.alloc (.cells #[.int .i64 u, .int .i64 v] 35))) := HB2.out.alloc HB2.out.size _
      have LE : Hid (Lies (w2.alloc (.cells #[.int .i64 u, .int .i64 v] 35)) w2.heap.size [.int .i64 u, .int .i64 v]) := lies_new _ _ _
      have LC : Hid (Lies (w2.alloc (.cells #[.int .i64 u, .int .i64 v] 35)) (w.heap.size + 1) [.int .i64 x, .int .i64 y, .int .i64 x', .int .i64 y', .int .i64 n]) := (LA1.out.belowS hb2).alloc _
      clear p0 p1 p2 p3 p4 m0 m1 m2 m3 m4 m5 m6 m7 m8 m9 m10 m11 hb2 LM1 LA1 HB1
      have p0 : (w2.alloc (.cells #[.int .i64 u, .int .i64 v] 35)).cell? ⟨w.heap.size + 1, 0, none⟩ = some (.int .i64 x) := LC.out.at 0
      have p1 : (w2.alloc (.cells #[.int .i64 u, .int .i64 v] 35)).cell? ⟨w.heap.size + 1, 1, none⟩ = some (.int .i64 y) := LC.out.at 1
      have p2 : (w2.alloc (.cells #[.int .i64 u, .int .i64 v] 35)).cell? ⟨w.heap.size + 1, 2, none⟩ = some (.int .i64 x') := LC.out.at 2
      have p3 : (w2.alloc (.cells #[.int .i64 u, .int .i64 v] 35)).cell? ⟨w.heap.size + 1, 3, none⟩ = some (.int .i64 y') := LC.out.at 3
      have p4 : (w2.alloc (.cells #[.int .i64 u, .int .i64 v] 35)).cell? ⟨w.heap.size + 1, 4, none⟩ = some (.int .i64 n) := LC.out.at 4
      have e0 : (w2.alloc (.cells #[.int .i64 u, .int .i64 v] 35)).cell? ⟨w2.heap.size, 0, none⟩ = some (.int .i64 u) := LE.out.at 0
      have e1 : (w2.alloc (.cells #[.int .i64 u, .int .i64 v] 35)).cell? ⟨w2.heap.size, 1, none⟩ = some (.int .i64 v) := LE.out.at 1
      by_cases h1 : u = x'
      · by_cases h2 : v = y'
        · subst h1 h2
          have j1 : (u == u) = true := by simp
          have j2 : (v == v) = true := by simp
          go_wp2
          go_ret
          exact ⟨by simp, HBE.out⟩
        · subst h1
          have j1 : (u == u) = true := by simp
          have j2 : (v == y') = false := by simpa using h2
          go_wp2
          go_ret
          exact ⟨by simp, HBE.out⟩
      · have j1 : (u == x') = false := by simpa using h1
        go_wp2
        go_ret
        exact ⟨by simp [h1], HBE.out⟩
end Go.Proofs.Ytjeoenieoejolaj
namespace Go.Proofs.Ytjeoenieoejolaj
open Go.RowKit

theorem M.holds_after {m : M.Mc} {c : M.Cl} (hm : m.ok = true) : M.holds m c = (M.runOk m c.s c.n && ((decide ((M.aft m c.s c.n).1 = c.e.1) && decide ((M.aft m c.s c.n).2 = c.e.2)) && decide (1 ≤ c.n))) := by
  unfold M.holds
  rw [hm, Bool.true_and]
  cases hc : M.clOk c with
  | true =>
    have h1 := M.clOk_n hc
    rw [M.runOk_cl hc, hm, decide_eq_true h1.1]; simp
  | false =>
    cases hr : M.runOk m c.s c.n with
    | false => simp
    | true =>
      rw [Bool.false_and, Bool.true_and]
      obtain ⟨_, hs, h0, h1⟩ := M.runOk_parts hr
      symm
      by_cases he : (M.aft m c.s c.n).1 = c.e.1 ∧ (M.aft m c.s c.n).2 = c.e.2
      · by_cases hn : 1 ≤ c.n
        · have e : M.aft m c.s c.n = c.e := Prod.ext he.1 he.2
          have hse : M.sOk c.e = true := by rw [← e, M.aft_in hr]; exact M.sOk_rn m hs _
          unfold M.clOk at hc
          rw [hs, hse, decide_eq_true hn, decide_eq_true h1] at hc
          cases hc
        · rw [decide_eq_false hn, Bool.and_false]
      · by_cases h1 : (M.aft m c.s c.n).1 = c.e.1
        · have h2 : ¬ (M.aft m c.s c.n).2 = c.e.2 := fun h => he ⟨h1, h⟩
          rw [decide_eq_false h2]; simp
        · rw [decide_eq_false h1]; simp
end Go.Proofs.Ytjeoenieoejolaj
