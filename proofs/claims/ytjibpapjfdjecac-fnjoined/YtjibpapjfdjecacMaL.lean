/- After and Next, in the model's text. -/
import Derived.Test.YtjibpapjfdjecacMaK
namespace Go.Proofs.Ytjibpapjfdjecac
open Go.RowKit

set_option maxHeartbeats 2000000 in
theorem specAfter_any (m : M.Mc) (s : Int × Int) (n : Int) (w : World) : Calls Try.prog 42 #[mcv m, stv s, .int .i64 n] w fun e w' => e = .returned (.tuple #[stv (M.aft m s n), .bool (M.runOk m s n)]) ∧ Below w.heap.size w w' := by
  have C1 := specRunOf_any m s n
  have HT : Hid (∀ W, Below (((w.alloc (.cells #[.int .i64 m.X.xx, .int .i64 m.X.xy, .int .i64 m.X.yy, .int .i64 m.X.x, .int .i64 m.X.y, .int .i64 m.X.k, .int .i64 m.Y.xx, .int .i64 m.Y.xy, .int .i64 m.Y.yy, .int .i64 m.Y.x, .int .i64 m.Y.y, .int .i64 m.Y.k] 27)).alloc (.cells #[.int .i64 s.1, .int .i64 s.2] 35)).alloc (.cells #[.int .i64 0, .int .i64 0] 35)).heap.size (((w.alloc (.cells #[.int .i64 m.X.xx, .int .i64 m.X.xy, .int .i64 m.X.yy, .int .i64 m.X.x, .int .i64 m.X.y, .int .i64 m.X.k, .int .i64 m.Y.xx, .int .i64 m.Y.xy, .int .i64 m.Y.yy, .int .i64 m.Y.x, .int .i64 m.Y.y, .int .i64 m.Y.k] 27)).alloc (.cells #[.int .i64 s.1, .int .i64 s.2] 35)).alloc (.cells #[.int .i64 0, .int .i64 0] 35)) W → W.cell? ⟨w.heap.size + 1 + 1, 0, none⟩ = some (.int .i64 0) ∧ W.cell? ⟨w.heap.size + 1 + 1, 1, none⟩ = some (.int .i64 0) ∧ W.frozen? ⟨w.heap.size + 1 + 1, 0, none⟩ = false ∧ W.frozen? ⟨w.heap.size + 1 + 1, 1, none⟩ = false) := fun W hW =>
    ⟨(hW.cell (p := ⟨w.heap.size + 1 + 1, 0, none⟩) (by simp)).trans (chain3m w _ _ _ _ _ _ 0).2.2.1, (hW.cell (p := ⟨w.heap.size + 1 + 1, 1, none⟩) (by simp)).trans (chain3m w _ _ _ _ _ _ 1).2.2.1, (frozen_kept hW (show w.heap.size + 1 + 1 < _ by simp)).trans (chain3m w _ _ _ _ _ _ 0).2.2.2, (frozen_kept hW (show w.heap.size + 1 + 1 < _ by simp)).trans (chain3m w _ _ _ _ _ _ 1).2.2.2⟩
  cases hok : M.runOk m s n with
  | false =>
    rw [M.aft_out hok]
    rw [hok] at C1
    obtain ⟨⟨a, b, c, d, f, k⟩, ⟨a', b', c', d', f', k'⟩⟩ := m
    obtain ⟨x, y⟩ := s
    dsimp only [mcv, stv] at C1 HT ⊢
    clear hok
    go_enter Try.func42, Try.ntmps42
    go_wp2_with fail
    refine (C1 _).mono ?_
    rintro e w1 ⟨ra, rl, rc, rfl, -, -, hb1⟩
    have HB1 : Hid (Below w.heap.size w w1) := ((((Below.refl _ _).alloc (Nat.le_refl _) _).alloc (by simp) _).alloc (by simp; omega) _).trans (hb1.mono (by simp; omega))
    obtain ⟨t0, t1, t2, t3⟩ := HT.out _ hb1
    clear hb1
    go_wp2
    refine bodyPost_ret (v := .tuple #[.agg #[.int .i64 0, .int .i64 0], .bool false]) (by simp [results, Try.results42, go_sem, t0, t1]) rfl ⟨rfl, ?_⟩
    exact (HB1.out.setCell (by show w.heap.size ≤ w.heap.size + 1 + 1; omega) _).setCell (by show w.heap.size ≤ w.heap.size + 1 + 1; omega) _
  | true =>
    obtain ⟨hm, hs, h3, h4⟩ := M.runOk_parts hok
    rw [M.aft_in hok]
    have hlen := len0 hok
    have HG : Hid ((M.runv m s n).getD n.toNat (0, 0) = m.rn s n.toNat) := by show _ = _; rw [M.runv_in hok]; exact M.run_get m s _ _ (Nat.le_refl _)
    rw [hok] at C1
    generalize M.runv m s n = rn at C1 HG hlen
    generalize m.rn s n.toNat = q at HG ⊢
    obtain ⟨N, rfl⟩ := Int.eq_ofNat_of_zero_le h3
    rw [Int.toNat_natCast] at HG hlen
    have hN : N ≤ 1000 := by omega
    obtain ⟨⟨a, b, c, d, f, k⟩, ⟨a', b', c', d', f', k'⟩⟩ := m
    obtain ⟨x, y⟩ := s
    obtain ⟨u, v⟩ := q
    dsimp only [mcv, stv] at C1 HT ⊢
    clear hok hm hs h3 h4
    go_enter Try.func42, Try.ntmps42
    go_wp2_with fail
    refine (C1 _).mono ?_
    rintro e w1 ⟨ra, rl, rc, rfl, -, ho1, hb1⟩
    have HB1 : Hid (Below w.heap.size w w1) := ((((Below.refl _ _).alloc (Nat.le_refl _) _).alloc (by simp) _).alloc (by simp; omega) _).trans (hb1.mono (by simp; omega))
    obtain ⟨t0, t1, t2, t3⟩ := HT.out _ hb1
    have hrl : rl = N + 1 := by rw [← ho1.1]; exact hlen
    subst hrl
    obtain ⟨g, rfl, hgb, hcap, hbig, hc⟩ := ho1.block (by omega)
    obtain ⟨e1, e2⟩ := hc N (by omega)
    rw [HG.out] at e1 e2
    have hcI : (N : Int) + 1 ≤ rc := by omega
    have hNN : (N : Int) < (N : Int) + 1 := by omega
    have hgne : g ≠ w.heap.size + 1 + 1 := by simp at hgb; omega
    clear hb1 ho1 hc hgb
    dsimp only at e1 e2
    go_wp2
    refine bodyPost_ret (v := .tuple #[.agg #[.int .i64 u, .int .i64 v], .bool true]) (by simp [results, Try.results42, go_sem, t0, t1]) rfl ⟨rfl, ?_⟩
    exact (HB1.out.setCell (by show w.heap.size ≤ w.heap.size + 1 + 1; omega) _).setCell (by show w.heap.size ≤ w.heap.size + 1 + 1; omega) _
theorem M.runOk_one (m : M.Mc) (s : Int × Int) : M.runOk m s 1 = (m.ok && M.sOk s) := by unfold M.runOk; simp
theorem M.aft_one {m : M.Mc} {s : Int × Int} (h : M.runOk m s 1 = true) : M.aft m s 1 = m.nx s := M.aft_in h
end Go.Proofs.Ytjibpapjfdjecac
