/- After and Next, in the model's text. -/
import Derived.Test.YtmclkkbefimbkaiMaK
namespace Go.Proofs.Ytmclkkbefimbkai
open Go.RowKit

set_option maxHeartbeats 2000000 in
theorem specAfter_any (m : M.Mc) (s : Int × Int) (n : Int) (w : World) : Calls Try.prog 18 #[mcv m, stv s, .int .i64 n] w fun e w' => e = .returned (.tuple #[stv (M.aft m s n), .bool (M.runOk m s n)]) ∧ Below w.heap.size w w' := by
  have C1 := specRunOf_any m s n
  have HT : Hid (∀ W, Below (((w.alloc (.cells #[.int .i64 m.X.xx, .int .i64 m.X.xy, .int .i64 m.X.yy, .int .i64 m.X.x, .int .i64 m.X.y, .int .i64 m.X.k, .int .i64 m.Y.xx, .int .i64 m.Y.xy, .int .i64 m.Y.yy, .int .i64 m.Y.x, .int .i64 m.Y.y, .int .i64 m.Y.k] 33)).alloc (.cells #[.int .i64 s.1, .int .i64 s.2] 28)).alloc (.cells #[.int .i64 0, .int .i64 0] 28)).heap.size (((w.alloc (.cells #[.int .i64 m.X.xx, .int .i64 m.X.xy, .int .i64 m.X.yy, .int .i64 m.X.x, .int .i64 m.X.y, .int .i64 m.X.k, .int .i64 m.Y.xx, .int .i64 m.Y.xy, .int .i64 m.Y.yy, .int .i64 m.Y.x, .int .i64 m.Y.y, .int .i64 m.Y.k] 33)).alloc (.cells #[.int .i64 s.1, .int .i64 s.2] 28)).alloc (.cells #[.int .i64 0, .int .i64 0] 28)) W → W.cell? ⟨w.heap.size + 1 + 1, 0, none⟩ = some (.int .i64 0) ∧ W.cell? ⟨w.heap.size + 1 + 1, 1, none⟩ = some (.int .i64 0) ∧ W.frozen? ⟨w.heap.size + 1 + 1, 0, none⟩ = false ∧ W.frozen? ⟨w.heap.size + 1 + 1, 1, none⟩ = false) := fun W hW =>
    ⟨(hW.cell (p := ⟨w.heap.size + 1 + 1, 0, none⟩) (by simp)).trans (chain3m w _ _ _ _ _ _ 0).2.2.1, (hW.cell (p := ⟨w.heap.size + 1 + 1, 1, none⟩) (by simp)).trans (chain3m w _ _ _ _ _ _ 1).2.2.1, (frozen_kept hW (show w.heap.size + 1 + 1 < _ by simp)).trans (chain3m w _ _ _ _ _ _ 0).2.2.2, (frozen_kept hW (show w.heap.size + 1 + 1 < _ by simp)).trans (chain3m w _ _ _ _ _ _ 1).2.2.2⟩
  cases hok : M.runOk m s n with
  | false =>
    rw [M.aft_out hok]
    rw [hok] at C1
    obtain ⟨⟨a, b, c, d, f, k⟩, ⟨a', b', c', d', f', k'⟩⟩ := m
    obtain ⟨x, y⟩ := s
    dsimp only [mcv, stv] at C1 HT ⊢
    clear hok
    go_enter Try.func18, Try.ntmps18
    go_wp2_with fail
    refine (C1 _).mono ?_
    rintro e w1 ⟨ra, rl, rc, rfl, -, -, hb1⟩
    have HB1 : Hid (Below w.heap.size w w1) := ((((Below.refl _ _).alloc (Nat.le_refl _) _).alloc (by simp) _).alloc (by simp; omega) _).trans (hb1.mono (by simp; omega))
    obtain ⟨t0, t1, t2, t3⟩ := HT.out _ hb1
    clear hb1
    go_wp2
    refine bodyPost_ret (v := .tuple #[.agg #[.int .i64 0, .int .i64 0], .bool false]) (by simp [results, Try.results18, go_sem, t0, t1]) rfl ⟨rfl, ?_⟩
    exact (HB1.out.setCell (by show w.heap.size ≤ w.heap.size + 1 + 1; omega) _).setCell (by show w.heap.size ≤ w.heap.size + 1 + 1; omega) _
  | true =>
    obtain ⟨hm, hs, h3, h4⟩ := M.runOk_parts hok
    rw [M.aft_in hok]
    have hlen := len0 hok
    have HG : Hid ((M.runv m s n).getD n.toNat (0, 0) = m.rn s n.toNat) := by show _ = _; rw [M.runv_in hok]; exact M.run_get m s _ _ (Nat.le_refl _)
    rw [hok] at C1
    generalize M.runv m s n = rn at C1 HG hlen
    generalize m.rn s n.toNat = q at HG ⊢
    obtain ⟨N, rfl⟩ := Int.eq_ofNat_of_zero_le h3
    rw [Int.toNat_natCast] at HG hlen
    have hN : N ≤ 1000 := by omega
    obtain ⟨⟨a, b, c, d, f, k⟩, ⟨a', b', c', d', f', k'⟩⟩ := m
    obtain ⟨x, y⟩ := s
    obtain ⟨u, v⟩ := q
    dsimp only [mcv, stv] at C1 HT ⊢
    clear hok hm hs h3 h4
    go_enter Try.func18, Try.ntmps18
    go_wp2_with fail
    refine (C1 _).mono ?_
    rintro e w1 ⟨ra, rl, rc, rfl, -, ho1, hb1⟩
    have HB1 : Hid (Below w.heap.size w w1) := ((((Below.refl _ _).alloc (Nat.le_refl _) _).alloc (by simp) _).alloc (by simp; omega) _).trans (hb1.mono (by simp; omega))
    obtain ⟨t0, t1, t2, t3⟩ := HT.out _ hb1
    have hrl : rl = N + 1 := by rw [← ho1.1]; exact hlen
    subst hrl
    obtain ⟨g, rfl, hgb, hcap, hbig, hc⟩ := ho1.block (by omega)
    obtain ⟨e1, e2⟩ := hc N (by omega)
    rw [HG.out] at e1 e2
    have hcI : (N : Int) + 1 ≤ rc := by omega
    have hNN : (N : Int) < (N : Int) + 1 := by omega
    have hgne : g ≠ w.heap.size + 1 + 1 := by simp at hgb; omega
    clear hb1 ho1 hc hgb
    dsimp only at e1 e2
    go_wp2
    refine bodyPost_ret (v := .tuple #[.agg #[.int .i64 u, .int .i64 v], .bool true]) (by simp [results, Try.results18, go_sem, t0, t1]) rfl ⟨rfl, ?_⟩
    exact (HB1.out.setCell (by show w.heap.size ≤ w.heap.size + 1 + 1; omega) _).setCell (by show w.heap.size ≤ w.heap.size + 1 + 1; omega) _
theorem M.runOk_one (m : M.Mc) (s : Int × Int) : M.runOk m s 1 = (m.ok && M.sOk s) := by unfold M.runOk; simp
theorem M.aft_one {m : M.Mc} {s : Int × Int} (h : M.runOk m s 1 = true) : M.aft m s 1 = m.nx s := M.aft_in h
set_option maxHeartbeats 2000000 in
theorem specNextE_any (m : M.Mc) (s : Int × Int) (w : World) : Calls Try.prog 8 #[mcv m, stv s] w fun e w' => e = .returned (.tuple #[stv (M.aft m s 1), .bool (M.runOk m s 1)]) ∧ Below w.heap.size w w' := by
  have C1 := specMachineOk_any m
  have C2 := specStateOk_any s
  have HT : Hid (∀ W, Below (((w.alloc (.cells #[.int .i64 m.X.xx, .int .i64 m.X.xy, .int .i64 m.X.yy, .int .i64 m.X.x, .int .i64 m.X.y, .int .i64 m.X.k, .int .i64 m.Y.xx, .int .i64 m.Y.xy, .int .i64 m.Y.yy, .int .i64 m.Y.x, .int .i64 m.Y.y, .int .i64 m.Y.k] 33)).alloc (.cells #[.int .i64 s.1, .int .i64 s.2] 28)).alloc (.cells #[.int .i64 0, .int .i64 0] 28)).heap.size (((w.alloc (.cells #[.int .i64 m.X.xx, .int .i64 m.X.xy, .int .i64 m.X.yy, .int .i64 m.X.x, .int .i64 m.X.y, .int .i64 m.X.k, .int .i64 m.Y.xx, .int .i64 m.Y.xy, .int .i64 m.Y.yy, .int .i64 m.Y.x, .int .i64 m.Y.y, .int .i64 m.Y.k] 33)).alloc (.cells #[.int .i64 s.1, .int .i64 s.2] 28)).alloc (.cells #[.int .i64 0, .int .i64 0] 28)) W → W.cell? ⟨w.heap.size + 1 + 1, 0, none⟩ = some (.int .i64 0) ∧ W.cell? ⟨w.heap.size + 1 + 1, 1, none⟩ = some (.int .i64 0) ∧ W.frozen? ⟨w.heap.size + 1 + 1, 0, none⟩ = false ∧ W.frozen? ⟨w.heap.size + 1 + 1, 1, none⟩ = false) := fun W hW =>
    ⟨(hW.cell (p := ⟨w.heap.size + 1 + 1, 0, none⟩) (by simp)).trans (chain3m w _ _ _ _ _ _ 0).2.2.1, (hW.cell (p := ⟨w.heap.size + 1 + 1, 1, none⟩) (by simp)).trans (chain3m w _ _ _ _ _ _ 1).2.2.1, (frozen_kept hW (show w.heap.size + 1 + 1 < _ by simp)).trans (chain3m w _ _ _ _ _ _ 0).2.2.2, (frozen_kept hW (show w.heap.size + 1 + 1 < _ by simp)).trans (chain3m w _ _ _ _ _ _ 1).2.2.2⟩
  have HT2 : Hid (∀ W, Below (((w.alloc (.cells #[.int .i64 m.X.xx, .int .i64 m.X.xy, .int .i64 m.X.yy, .int .i64 m.X.x, .int .i64 m.X.y, .int .i64 m.X.k, .int .i64 m.Y.xx, .int .i64 m.Y.xy, .int .i64 m.Y.yy, .int .i64 m.Y.x, .int .i64 m.Y.y, .int .i64 m.Y.k] 33)).alloc (.cells #[.int .i64 s.1, .int .i64 s.2] 28)).alloc (.cells #[.int .i64 0, .int .i64 0] 28)).heap.size (((w.alloc (.cells #[.int .i64 m.X.xx, .int .i64 m.X.xy, .int .i64 m.X.yy, .int .i64 m.X.x, .int .i64 m.X.y, .int .i64 m.X.k, .int .i64 m.Y.xx, .int .i64 m.Y.xy, .int .i64 m.Y.yy, .int .i64 m.Y.x, .int .i64 m.Y.y, .int .i64 m.Y.k] 33)).alloc (.cells #[.int .i64 s.1, .int .i64 s.2] 28)).alloc (.cells #[.int .i64 0, .int .i64 0] 28)) W → ∀ i, W.cell? ⟨w.heap.size, i, none⟩ = ((#[.int .i64 m.X.xx, .int .i64 m.X.xy, .int .i64 m.X.yy, .int .i64 m.X.x, .int .i64 m.X.y, .int .i64 m.X.k, .int .i64 m.Y.xx, .int .i64 m.Y.xy, .int .i64 m.Y.yy, .int .i64 m.Y.x, .int .i64 m.Y.y, .int .i64 m.Y.k] : Array Value))[i]? ∧ W.cell? ⟨w.heap.size + 1, i, none⟩ = ((#[.int .i64 s.1, .int .i64 s.2] : Array Value))[i]?) := fun W hW i =>
    ⟨(hW.cell (p := ⟨w.heap.size, i, none⟩) (by simp; omega)).trans (chain3m w _ _ _ _ _ _ i).1, (hW.cell (p := ⟨w.heap.size + 1, i, none⟩) (by simp)).trans (chain3m w _ _ _ _ _ _ i).2.1⟩
  cases hok : M.runOk m s 1 with
  | false =>
    rw [M.aft_out hok]
    rw [M.runOk_one] at hok
    generalize m.ok = o1 at C1 hok
    generalize M.sOk s = o2 at C2 hok
    obtain ⟨⟨a, b, c, d, f, k⟩, ⟨a', b', c', d', f', k'⟩⟩ := m
    obtain ⟨x, y⟩ := s
    dsimp only [mcv, stv] at C1 C2 HT HT2 ⊢
    cases o1 with
    | false =>
      go_enter Try.func8, Try.ntmps8
      go_wp2_with fail
      refine (C1 _).mono ?_
      rintro e w1 ⟨rfl, hb1⟩
      have HB1 : Hid (Below w.heap.size w w1) := ((((Below.refl _ _).alloc (Nat.le_refl _) _).alloc (by simp) _).alloc (by simp; omega) _).trans (hb1.mono (by simp; omega))
      obtain ⟨t0, t1, t2, t3⟩ := HT.out _ hb1
      clear hb1
      go_wp2
      refine bodyPost_ret (v := .tuple #[.agg #[.int .i64 0, .int .i64 0], .bool false]) (by simp [results, Try.results8, go_sem, t0, t1]) rfl ⟨rfl, ?_⟩
      exact (HB1.out.setCell (by show w.heap.size ≤ w.heap.size + 1 + 1; omega) _).setCell (by show w.heap.size ≤ w.heap.size + 1 + 1; omega) _
    | true =>
      obtain rfl : o2 = false := by simpa using hok
      go_enter Try.func8, Try.ntmps8
      go_wp2_with fail
      refine (C1 _).mono ?_
      rintro e w1 ⟨rfl, hb1⟩
      have HB1 : Hid (Below w.heap.size w w1) := ((((Below.refl _ _).alloc (Nat.le_refl _) _).alloc (by simp) _).alloc (by simp; omega) _).trans (hb1.mono (by simp; omega))
      have HB1' : Hid (Below _ _ w1) := hb1
      have q0 : w1.cell? ⟨w.heap.size + 1, 0, none⟩ = some (.int .i64 x) := (HT2.out _ hb1 0).2
      have q1 : w1.cell? ⟨w.heap.size + 1, 1, none⟩ = some (.int .i64 y) := (HT2.out _ hb1 1).2
      clear hb1
      go_wp2_with fail
      refine (C2 _).mono ?_
      rintro e w2 ⟨rfl, hb2⟩
      have HB2 : Hid (Below w.heap.size w w2) := HB1.out.trans (hb2.mono HB1.out.size)
      obtain ⟨t0, t1, t2, t3⟩ := HT.out _ (HB1'.out.trans (hb2.mono HB1'.out.size))
      clear hb2 HB1'
      go_wp2
      refine bodyPost_ret (v := .tuple #[.agg #[.int .i64 0, .int .i64 0], .bool false]) (by simp [results, Try.results8, go_sem, t0, t1]) rfl ⟨rfl, ?_⟩
      exact (HB2.out.setCell (by show w.heap.size ≤ w.heap.size + 1 + 1; omega) _).setCell (by show w.heap.size ≤ w.heap.size + 1 + 1; omega) _
  | true =>
    obtain ⟨hm, hs, -, -⟩ := M.runOk_parts hok
    have C3 := fun w => specNext_any m s w hm hs
    rw [M.aft_one hok]
    rw [hm] at C1
    rw [hs] at C2
    generalize m.nx s = q at C3 ⊢
    obtain ⟨⟨a, b, c, d, f, k⟩, ⟨a', b', c', d', f', k'⟩⟩ := m
    obtain ⟨x, y⟩ := s
    obtain ⟨u, v⟩ := q
    dsimp only [mcv, stv] at C1 C2 C3 HT HT2 ⊢
    clear hok hm hs
    go_enter Try.func8, Try.ntmps8
    go_wp2_with fail
    refine (C1 _).mono ?_
    rintro e w1 ⟨rfl, hb1⟩
    have HB1 : Hid (Below w.heap.size w w1) := ((((Below.refl _ _).alloc (Nat.le_refl _) _).alloc (by simp) _).alloc (by simp; omega) _).trans (hb1.mono (by simp; omega))
    have HB1' : Hid (Below _ _ w1) := hb1
    have q0 : w1.cell? ⟨w.heap.size + 1, 0, none⟩ = some (.int .i64 x) := (HT2.out _ hb1 0).2
    have q1 : w1.cell? ⟨w.heap.size + 1, 1, none⟩ = some (.int .i64 y) := (HT2.out _ hb1 1).2
    clear hb1
    go_wp2_with fail
    refine (C2 _).mono ?_
    rintro e w2 ⟨rfl, hb2⟩
    have HB2 : Hid (Below w.heap.size w w2) := HB1.out.trans (hb2.mono HB1.out.size)
    have hb2' := HB1'.out.trans (hb2.mono HB1'.out.size)
    have HB2' : Hid (Below _ _ w2) := hb2'
    have ht := HT2.out _ hb2'
    have z0 : w2.cell? ⟨w.heap.size, 0, none⟩ = some (.int .i64 a) := (ht 0).1
    have z1 : w2.cell? ⟨w.heap.size, 1, none⟩ = some (.int .i64 b) := (ht 1).1
    have z2 : w2.cell? ⟨w.heap.size, 2, none⟩ = some (.int .i64 c) := (ht 2).1
    have z3 : w2.cell? ⟨w.heap.size, 3, none⟩ = some (.int .i64 d) := (ht 3).1
    have z4 : w2.cell? ⟨w.heap.size, 4, none⟩ = some (.int .i64 f) := (ht 4).1
    have z5 : w2.cell? ⟨w.heap.size, 5, none⟩ = some (.int .i64 k) := (ht 5).1
    have z6 : w2.cell? ⟨w.heap.size, 6, none⟩ = some (.int .i64 a') := (ht 6).1
    have z7 : w2.cell? ⟨w.heap.size, 7, none⟩ = some (.int .i64 b') := (ht 7).1
    have z8 : w2.cell? ⟨w.heap.size, 8, none⟩ = some (.int .i64 c') := (ht 8).1
    have z9 : w2.cell? ⟨w.heap.size, 9, none⟩ = some (.int .i64 d') := (ht 9).1
    have z10 : w2.cell? ⟨w.heap.size, 10, none⟩ = some (.int .i64 f') := (ht 10).1
    have z11 : w2.cell? ⟨w.heap.size, 11, none⟩ = some (.int .i64 k') := (ht 11).1
    have q2 : w2.cell? ⟨w.heap.size + 1, 0, none⟩ = some (.int .i64 x) := (ht 0).2
    have q3 : w2.cell? ⟨w.heap.size + 1, 1, none⟩ = some (.int .i64 y) := (ht 1).2
    clear hb2 HB1' ht hb2' q0 q1
    go_wp2_with fail
    refine (C3 _).mono ?_
    rintro e w3 ⟨rfl, hb3⟩
    have HB3 : Hid (Below w.heap.size w w3) := HB2.out.trans (hb3.mono HB2.out.size)
    obtain ⟨t0, t1, t2, t3⟩ := HT.out _ (HB2'.out.trans (hb3.mono HB2'.out.size))
    clear hb3 HB2' q2 q3 z0 z1 z2 z3 z4 z5 z6 z7 z8 z9 z10 z11
    go_wp2
    refine bodyPost_ret (v := .tuple #[.agg #[.int .i64 u, .int .i64 v], .bool true]) (by simp [results, Try.results8, go_sem, t0, t1]) rfl ⟨rfl, ?_⟩
    exact (HB3.out.setCell (by show w.heap.size ≤ w.heap.size + 1 + 1; omega) _).setCell (by show w.heap.size ≤ w.heap.size + 1 + 1; omega) _
theorem eqState_same (s : Int × Int) (w : World) : Calls Try.prog 12 #[stv s, stv s] w fun e w' => e = .returned (.bool true) ∧ Below w.heap.size w w' := by
  obtain ⟨x, y⟩ := s
  dsimp only [stv]
  have n1 : (x != x) = false := by simp
  have n2 : (y != y) = false := by simp
  go_enter Try.func12, Try.ntmps12
  go_wp2
  go_ret
  exact ⟨rfl, ((Below.refl _ _).alloc (Nat.le_refl _) _).alloc (by simp) _⟩
end Go.Proofs.Ytmclkkbefimbkai
