/- Rules, machines and states, in the model's text. -/
import Derived.Test.YtfhknkppiidnkaaGreatMaA
import Derived.Test.YtfhknkppiidnkaaGreatFieldC
namespace Go.Proofs.YtfhknkppiidnkaaGreat
open Go.RowKit

set_option maxHeartbeats 4000000 in
theorem applyAt_any (a b c d f k x y : Int) (w : World) (a0 : 0 ≤ a) (a1 : a < 65537) (b0 : 0 ≤ b) (b1 : b < 65537) (c0 : 0 ≤ c) (c1 : c < 65537) (d0 : 0 ≤ d) (d1 : d < 65537) (f0 : 0 ≤ f) (f1 : f < 65537) (k0 : 0 ≤ k) (k1 : k < 65537) (x0 : 0 ≤ x) (x1 : x < 65537) (y0 : 0 ≤ y) (y1 : y < 65537) :
    Calls Tryz.prog 132 #[.agg #[.int .i64 a, .int .i64 b, .int .i64 c, .int .i64 d, .int .i64 f, .int .i64 k], .int .i64 x, .int .i64 y] w fun e w' => e = .returned (.int .i64 (((((((a * (x * x % 65537) % 65537) + b * (x * y % 65537) % 65537) % 65537 + c * (y * y % 65537) % 65537) % 65537 + d * x % 65537) % 65537 + f * y % 65537) % 65537 + k) % 65537)) ∧ Below w.heap.size w w' := by
  obtain ⟨p1, hp1⟩ : ∃ u, x * x % 65537 = u := ⟨_, rfl⟩
  have p10 : 0 ≤ p1 := by omega
  have p11 : p1 < 65537 := by omega
  have Tp1 : ∀ w, Calls Tryz.prog 131 #[.int .i64 x, .int .i64 x] w fun e w' => e = .returned (.int .i64 p1) ∧ w' = w := by
    intro w; rw [← hp1, ← M.mul_in ((M.el_iff x).2 ⟨x0, x1⟩) ((M.el_iff x).2 ⟨x0, x1⟩)]; exact specMul_any x x w
  obtain ⟨p2, hp2⟩ : ∃ u, a * p1 % 65537 = u := ⟨_, rfl⟩
  have p20 : 0 ≤ p2 := by omega
  have p21 : p2 < 65537 := by omega
  have Tp2 : ∀ w, Calls Tryz.prog 131 #[.int .i64 a, .int .i64 p1] w fun e w' => e = .returned (.int .i64 p2) ∧ w' = w := by
    intro w; rw [← hp2, ← M.mul_in ((M.el_iff a).2 ⟨a0, a1⟩) ((M.el_iff p1).2 ⟨p10, p11⟩)]; exact specMul_any a p1 w
  obtain ⟨q1, hq1⟩ : ∃ u, x * y % 65537 = u := ⟨_, rfl⟩
  have q10 : 0 ≤ q1 := by omega
  have q11 : q1 < 65537 := by omega
  have Tq1 : ∀ w, Calls Tryz.prog 131 #[.int .i64 x, .int .i64 y] w fun e w' => e = .returned (.int .i64 q1) ∧ w' = w := by
    intro w; rw [← hq1, ← M.mul_in ((M.el_iff x).2 ⟨x0, x1⟩) ((M.el_iff y).2 ⟨y0, y1⟩)]; exact specMul_any x y w
  obtain ⟨q2, hq2⟩ : ∃ u, b * q1 % 65537 = u := ⟨_, rfl⟩
  have q20 : 0 ≤ q2 := by omega
  have q21 : q2 < 65537 := by omega
  have Tq2 : ∀ w, Calls Tryz.prog 131 #[.int .i64 b, .int .i64 q1] w fun e w' => e = .returned (.int .i64 q2) ∧ w' = w := by
    intro w; rw [← hq2, ← M.mul_in ((M.el_iff b).2 ⟨b0, b1⟩) ((M.el_iff q1).2 ⟨q10, q11⟩)]; exact specMul_any b q1 w
  obtain ⟨n2, hn2⟩ : ∃ u, (p2 + q2) % 65537 = u := ⟨_, rfl⟩
  have n20 : 0 ≤ n2 := by omega
  have n21 : n2 < 65537 := by omega
  have Tn2 : ∀ w, Calls Tryz.prog 143 #[.int .i64 p2, .int .i64 q2] w fun e w' => e = .returned (.int .i64 n2) ∧ w' = w := by
    intro w; rw [← hn2, ← M.add_in ((M.el_iff p2).2 ⟨p20, p21⟩) ((M.el_iff q2).2 ⟨q20, q21⟩)]; exact specAdd_any p2 q2 w
  obtain ⟨r1, hr1⟩ : ∃ u, y * y % 65537 = u := ⟨_, rfl⟩
  have r10 : 0 ≤ r1 := by omega
  have r11 : r1 < 65537 := by omega
  have Tr1 : ∀ w, Calls Tryz.prog 131 #[.int .i64 y, .int .i64 y] w fun e w' => e = .returned (.int .i64 r1) ∧ w' = w := by
    intro w; rw [← hr1, ← M.mul_in ((M.el_iff y).2 ⟨y0, y1⟩) ((M.el_iff y).2 ⟨y0, y1⟩)]; exact specMul_any y y w
  obtain ⟨r2, hr2⟩ : ∃ u, c * r1 % 65537 = u := ⟨_, rfl⟩
  have r20 : 0 ≤ r2 := by omega
  have r21 : r2 < 65537 := by omega
  have Tr2 : ∀ w, Calls Tryz.prog 131 #[.int .i64 c, .int .i64 r1] w fun e w' => e = .returned (.int .i64 r2) ∧ w' = w := by
    intro w; rw [← hr2, ← M.mul_in ((M.el_iff c).2 ⟨c0, c1⟩) ((M.el_iff r1).2 ⟨r10, r11⟩)]; exact specMul_any c r1 w
  obtain ⟨n3, hn3⟩ : ∃ u, (n2 + r2) % 65537 = u := ⟨_, rfl⟩
  have n30 : 0 ≤ n3 := by omega
  have n31 : n3 < 65537 := by omega
  have Tn3 : ∀ w, Calls Tryz.prog 143 #[.int .i64 n2, .int .i64 r2] w fun e w' => e = .returned (.int .i64 n3) ∧ w' = w := by
    intro w; rw [← hn3, ← M.add_in ((M.el_iff n2).2 ⟨n20, n21⟩) ((M.el_iff r2).2 ⟨r20, r21⟩)]; exact specAdd_any n2 r2 w
  obtain ⟨s1, hs1⟩ : ∃ u, d * x % 65537 = u := ⟨_, rfl⟩
  have s10 : 0 ≤ s1 := by omega
  have s11 : s1 < 65537 := by omega
  have Ts1 : ∀ w, Calls Tryz.prog 131 #[.int .i64 d, .int .i64 x] w fun e w' => e = .returned (.int .i64 s1) ∧ w' = w := by
    intro w; rw [← hs1, ← M.mul_in ((M.el_iff d).2 ⟨d0, d1⟩) ((M.el_iff x).2 ⟨x0, x1⟩)]; exact specMul_any d x w
  obtain ⟨n4, hn4⟩ : ∃ u, (n3 + s1) % 65537 = u := ⟨_, rfl⟩
  have n40 : 0 ≤ n4 := by omega
  have n41 : n4 < 65537 := by omega
  have Tn4 : ∀ w, Calls Tryz.prog 143 #[.int .i64 n3, .int .i64 s1] w fun e w' => e = .returned (.int .i64 n4) ∧ w' = w := by
    intro w; rw [← hn4, ← M.add_in ((M.el_iff n3).2 ⟨n30, n31⟩) ((M.el_iff s1).2 ⟨s10, s11⟩)]; exact specAdd_any n3 s1 w
  obtain ⟨t1, ht1⟩ : ∃ u, f * y % 65537 = u := ⟨_, rfl⟩
  have t10 : 0 ≤ t1 := by omega
  have t11 : t1 < 65537 := by omega
  have Tt1 : ∀ w, Calls Tryz.prog 131 #[.int .i64 f, .int .i64 y] w fun e w' => e = .returned (.int .i64 t1) ∧ w' = w := by
    intro w; rw [← ht1, ← M.mul_in ((M.el_iff f).2 ⟨f0, f1⟩) ((M.el_iff y).2 ⟨y0, y1⟩)]; exact specMul_any f y w
  obtain ⟨n5, hn5⟩ : ∃ u, (n4 + t1) % 65537 = u := ⟨_, rfl⟩
  have n50 : 0 ≤ n5 := by omega
  have n51 : n5 < 65537 := by omega
  have Tn5 : ∀ w, Calls Tryz.prog 143 #[.int .i64 n4, .int .i64 t1] w fun e w' => e = .returned (.int .i64 n5) ∧ w' = w := by
    intro w; rw [← hn5, ← M.add_in ((M.el_iff n4).2 ⟨n40, n41⟩) ((M.el_iff t1).2 ⟨t10, t11⟩)]; exact specAdd_any n4 t1 w
  obtain ⟨n6, hn6⟩ : ∃ u, (n5 + k) % 65537 = u := ⟨_, rfl⟩
  have n60 : 0 ≤ n6 := by omega
  have n61 : n6 < 65537 := by omega
  have Tn6 : ∀ w, Calls Tryz.prog 143 #[.int .i64 n5, .int .i64 k] w fun e w' => e = .returned (.int .i64 n6) ∧ w' = w := by
    intro w; rw [← hn6, ← M.add_in ((M.el_iff n5).2 ⟨n50, n51⟩) ((M.el_iff k).2 ⟨k0, k1⟩)]; exact specAdd_any n5 k w
  rw [hp1, hp2, hq1, hq2, hn2, hr1, hr2, hn3, hs1, hn4, ht1, hn5, hn6]
  clear hp1 hp2 hq1 hq2 hn2 hr1 hr2 hn3 hs1 hn4 ht1 hn5 hn6
  go_enter Tryz.func132, Tryz.ntmps132
  go_wp2
  go_quiet (first
    | (go_at_call_of 131 (Value.int .i64 p1); exact Calls.quiet_of_same (v := .int .i64 p2) (Tp2 _))
    | (go_at_call 131; exact Calls.quiet_of_same (v := .int .i64 p1) (Tp1 _)))
  obtain ⟨k1, hk1⟩ : ∃ u, u = nq := ⟨_, rfl⟩
  subst hk1
  go_wp2
  go_quiet (first
    | (go_at_call_of 131 (Value.int .i64 q1); exact quiet_more (v := .int .i64 q2) (Tq2 _))
    | (go_at_call 131; exact quiet_more (v := .int .i64 q1) (Tq1 _))
    | (go_at_call 143; exact quiet_more (v := .int .i64 n2) (Tn2 _)))
  obtain ⟨k2, hk2⟩ : ∃ u, u = nq := ⟨_, rfl⟩
  subst hk2
  go_wp2
  go_quiet (first
    | (go_at_call_of 131 (Value.int .i64 r1); exact quiet_more (v := .int .i64 r2) (Tr2 _))
    | (go_at_call 131; exact quiet_more (v := .int .i64 r1) (Tr1 _))
    | (go_at_call 143; exact quiet_more (v := .int .i64 n3) (Tn3 _)))
  obtain ⟨k3, hk3⟩ : ∃ u, u = nq := ⟨_, rfl⟩
  subst hk3
  go_wp2_with fail
  refine (Ts1 _).mono ?_
  rintro e wz ⟨rfl, rfl⟩
  go_wp2_with fail
  refine (Tn4 _).mono ?_
  rintro e wz ⟨rfl, rfl⟩
  go_wp2_with fail
  refine (Tt1 _).mono ?_
  rintro e wz ⟨rfl, rfl⟩
  go_wp2_with fail
  refine (Tn5 _).mono ?_
  rintro e wz ⟨rfl, rfl⟩
  go_wp2_with fail
  refine (Tn6 _).mono ?_
  rintro e wz ⟨rfl, rfl⟩
  go_wp2
  go_ret
  exact ⟨rfl, Below.drewN' ((Below.refl _ _).alloc (Nat.le_refl _) _) _⟩
theorem apply_in (r : M.Rl) (s : Int × Int) {B : Nat} {w wc : World} (hr : r.ok = true) (hs : M.sOk s = true) (hb : Below B w wc) (hB : B ≤ w.heap.size) :
    Calls Tryz.prog 132 #[rlv r, .int .i64 s.1, .int .i64 s.2] wc fun e w' => e = .returned (.int .i64 (r.app s.1 s.2)) ∧ Below B w w' := by
  obtain ⟨⟨a0, a1⟩, ⟨b0, b1⟩, ⟨c0, c1⟩, ⟨d0, d1⟩, ⟨f0, f1⟩, k0, k1⟩ := M.rl_bd hr
  obtain ⟨⟨x0, x1⟩, y0, y1⟩ := (M.sOk_iff s).1 hs
  refine (applyAt_any r.xx r.xy r.yy r.x r.y r.k s.1 s.2 wc a0 a1 b0 b1 c0 c1 d0 d1 f0 f1 k0 k1 x0 x1 y0 y1).mono ?_
  rintro e w' ⟨rfl, hb'⟩
  exact ⟨by rw [M.app_model], hb.trans (hb'.mono (by have := hb.size; omega))⟩
set_option maxHeartbeats 8000000 in
theorem specNext_any (m : M.Mc) (s : Int × Int) (w : World) (hm : m.ok = true) (hs : M.sOk s = true) :
    Calls Tryz.prog 106 #[mcv m, stv s] w fun e w' => e = .returned (stv (m.nx s)) ∧ Below w.heap.size w w' := by
  obtain ⟨hX, hY⟩ : m.X.ok = true ∧ m.Y.ok = true := by unfold M.Mc.ok at hm; simpa using hm
  have CX : ∀ {wa wc : World}, Below (w.heap.size + 3) wa wc → w.heap.size + 3 ≤ wa.heap.size → Calls Tryz.prog 132 #[rlv m.X, .int .i64 s.1, .int .i64 s.2] wc fun e w' => e = .returned (.int .i64 (m.X.app s.1 s.2)) ∧ Below (w.heap.size + 3) wa w' := fun h hB => apply_in m.X s hX hs h hB
  have CY : ∀ {wa wc : World}, Below (w.heap.size + 3) wa wc → w.heap.size + 3 ≤ wa.heap.size → Calls Tryz.prog 132 #[rlv m.Y, .int .i64 s.1, .int .i64 s.2] wc fun e w' => e = .returned (.int .i64 (m.Y.app s.1 s.2)) ∧ Below (w.heap.size + 3) wa w' := fun h hB => apply_in m.Y s hY hs h hB
  unfold M.Mc.nx
  obtain ⟨⟨a, b, c, d, f, k⟩, ⟨a', b', c', d', f', k'⟩⟩ := m
  obtain ⟨x, y⟩ := s
  dsimp only [mcv, rlv, stv] at CX CY ⊢
  generalize M.Rl.app ⟨a, b, c, d, f, k⟩ x y = u at CX ⊢
  generalize M.Rl.app ⟨a', b', c', d', f', k'⟩ x y = v at CY ⊢
  clear hX hY hm hs
  have HBa : Hid (Below w.heap.size w (((w.alloc (.cells #[Value.int .i64 a, Value.int .i64 b, Value.int .i64 c, Value.int .i64 d, Value.int .i64 f, Value.int .i64 k, Value.int .i64 a', Value.int .i64 b', Value.int .i64 c', Value.int .i64 d', Value.int .i64 f', Value.int .i64 k'] 41)).alloc (.cells #[Value.int .i64 x, Value.int .i64 y] 31)).alloc (.cells #[Value.int .i64 0, Value.int .i64 0] 31))) := (((Below.refl _ _).alloc (Nat.le_refl _) _).alloc (by simp) _).alloc (by simp; omega) _
  have hsz : (((w.alloc (.cells #[Value.int .i64 a, Value.int .i64 b, Value.int .i64 c, Value.int .i64 d, Value.int .i64 f, Value.int .i64 k, Value.int .i64 a', Value.int .i64 b', Value.int .i64 c', Value.int .i64 d', Value.int .i64 f', Value.int .i64 k'] 41)).alloc (.cells #[Value.int .i64 x, Value.int .i64 y] 31)).alloc (.cells #[Value.int .i64 0, Value.int .i64 0] 31)).heap.size = w.heap.size + 3 := by simp
  have HK : Hid (∀ W, Below (w.heap.size + 3) (((w.alloc (.cells #[Value.int .i64 a, Value.int .i64 b, Value.int .i64 c, Value.int .i64 d, Value.int .i64 f, Value.int .i64 k, Value.int .i64 a', Value.int .i64 b', Value.int .i64 c', Value.int .i64 d', Value.int .i64 f', Value.int .i64 k'] 41)).alloc (.cells #[Value.int .i64 x, Value.int .i64 y] 31)).alloc (.cells #[Value.int .i64 0, Value.int .i64 0] 31)) W → (W.cell? ⟨w.heap.size, 0, none⟩ = some (.int .i64 a) ∧ W.cell? ⟨w.heap.size, 1, none⟩ = some (.int .i64 b) ∧ W.cell? ⟨w.heap.size, 2, none⟩ = some (.int .i64 c) ∧ W.cell? ⟨w.heap.size, 3, none⟩ = some (.int .i64 d) ∧ W.cell? ⟨w.heap.size, 4, none⟩ = some (.int .i64 f) ∧ W.cell? ⟨w.heap.size, 5, none⟩ = some (.int .i64 k) ∧ W.cell? ⟨w.heap.size, 6, none⟩ = some (.int .i64 a') ∧ W.cell? ⟨w.heap.size, 7, none⟩ = some (.int .i64 b') ∧ W.cell? ⟨w.heap.size, 8, none⟩ = some (.int .i64 c') ∧ W.cell? ⟨w.heap.size, 9, none⟩ = some (.int .i64 d') ∧ W.cell? ⟨w.heap.size, 10, none⟩ = some (.int .i64 f') ∧ W.cell? ⟨w.heap.size, 11, none⟩ = some (.int .i64 k') ∧ W.cell? ⟨w.heap.size + 1, 0, none⟩ = some (.int .i64 x) ∧ W.cell? ⟨w.heap.size + 1, 1, none⟩ = some (.int .i64 y)) ∧ (W.cell? ⟨w.heap.size + 1 + 1, 0, none⟩ = some (.int .i64 0) ∧ W.frozen? ⟨w.heap.size + 1 + 1, 0, none⟩ = false ∧ W.cell? ⟨w.heap.size + 1 + 1, 1, none⟩ = some (.int .i64 0) ∧ W.frozen? ⟨w.heap.size + 1 + 1, 1, none⟩ = false)) := by
    intro W hW
    exact ⟨⟨(hW.cell (p := ⟨w.heap.size, 0, none⟩) (show w.heap.size < _ by omega)).trans (chain3m w _ _ _ _ _ _ 0).1, (hW.cell (p := ⟨w.heap.size, 1, none⟩) (show w.heap.size < _ by omega)).trans (chain3m w _ _ _ _ _ _ 1).1, (hW.cell (p := ⟨w.heap.size, 2, none⟩) (show w.heap.size < _ by omega)).trans (chain3m w _ _ _ _ _ _ 2).1, (hW.cell (p := ⟨w.heap.size, 3, none⟩) (show w.heap.size < _ by omega)).trans (chain3m w _ _ _ _ _ _ 3).1, (hW.cell (p := ⟨w.heap.size, 4, none⟩) (show w.heap.size < _ by omega)).trans (chain3m w _ _ _ _ _ _ 4).1, (hW.cell (p := ⟨w.heap.size, 5, none⟩) (show w.heap.size < _ by omega)).trans (chain3m w _ _ _ _ _ _ 5).1, (hW.cell (p := ⟨w.heap.size, 6, none⟩) (show w.heap.size < _ by omega)).trans (chain3m w _ _ _ _ _ _ 6).1, (hW.cell (p := ⟨w.heap.size, 7, none⟩) (show w.heap.size < _ by omega)).trans (chain3m w _ _ _ _ _ _ 7).1, (hW.cell (p := ⟨w.heap.size, 8, none⟩) (show w.heap.size < _ by omega)).trans (chain3m w _ _ _ _ _ _ 8).1, (hW.cell (p := ⟨w.heap.size, 9, none⟩) (show w.heap.size < _ by omega)).trans (chain3m w _ _ _ _ _ _ 9).1, (hW.cell (p := ⟨w.heap.size, 10, none⟩) (show w.heap.size < _ by omega)).trans (chain3m w _ _ _ _ _ _ 10).1, (hW.cell (p := ⟨w.heap.size, 11, none⟩) (show w.heap.size < _ by omega)).trans (chain3m w _ _ _ _ _ _ 11).1, (hW.cell (p := ⟨w.heap.size + 1, 0, none⟩) (show w.heap.size + 1 < _ by omega)).trans (chain3m w _ _ _ _ _ _ 0).2.1, (hW.cell (p := ⟨w.heap.size + 1, 1, none⟩) (show w.heap.size + 1 < _ by omega)).trans (chain3m w _ _ _ _ _ _ 1).2.1⟩, ⟨(hW.cell (p := ⟨w.heap.size + 1 + 1, 0, none⟩) (show w.heap.size + 1 + 1 < _ by omega)).trans (chain3m w _ _ _ _ _ _ 0).2.2.1, (frozen_kept hW (show w.heap.size + 1 + 1 < _ by omega)).trans (chain3m w _ _ _ _ _ _ 0).2.2.2, (hW.cell (p := ⟨w.heap.size + 1 + 1, 1, none⟩) (show w.heap.size + 1 + 1 < _ by omega)).trans (chain3m w _ _ _ _ _ _ 1).2.2.1, (frozen_kept hW (show w.heap.size + 1 + 1 < _ by omega)).trans (chain3m w _ _ _ _ _ _ 1).2.2.2⟩⟩
  generalize hwa : (((w.alloc (.cells #[Value.int .i64 a, Value.int .i64 b, Value.int .i64 c, Value.int .i64 d, Value.int .i64 f, Value.int .i64 k, Value.int .i64 a', Value.int .i64 b', Value.int .i64 c', Value.int .i64 d', Value.int .i64 f', Value.int .i64 k'] 41)).alloc (.cells #[Value.int .i64 x, Value.int .i64 y] 31)).alloc (.cells #[Value.int .i64 0, Value.int .i64 0] 31)) = wa at HBa hsz HK
  have HWA : Hid ((((w.alloc (.cells #[Value.int .i64 a, Value.int .i64 b, Value.int .i64 c, Value.int .i64 d, Value.int .i64 f, Value.int .i64 k, Value.int .i64 a', Value.int .i64 b', Value.int .i64 c', Value.int .i64 d', Value.int .i64 f', Value.int .i64 k'] 41)).alloc (.cells #[Value.int .i64 x, Value.int .i64 y] 31)).alloc (.cells #[Value.int .i64 0, Value.int .i64 0] 31)) = wa) := hwa
  clear hwa
  have hb0 : Below (w.heap.size + 3) wa wa.drew := (Below.refl _ _).drew
  have HST : Hid (∀ (W : World) (u v : Value), (W.cell? ⟨w.heap.size, 0, none⟩ = some (.int .i64 a) ∧ W.cell? ⟨w.heap.size, 1, none⟩ = some (.int .i64 b) ∧ W.cell? ⟨w.heap.size, 2, none⟩ = some (.int .i64 c) ∧ W.cell? ⟨w.heap.size, 3, none⟩ = some (.int .i64 d) ∧ W.cell? ⟨w.heap.size, 4, none⟩ = some (.int .i64 f) ∧ W.cell? ⟨w.heap.size, 5, none⟩ = some (.int .i64 k) ∧ W.cell? ⟨w.heap.size, 6, none⟩ = some (.int .i64 a') ∧ W.cell? ⟨w.heap.size, 7, none⟩ = some (.int .i64 b') ∧ W.cell? ⟨w.heap.size, 8, none⟩ = some (.int .i64 c') ∧ W.cell? ⟨w.heap.size, 9, none⟩ = some (.int .i64 d') ∧ W.cell? ⟨w.heap.size, 10, none⟩ = some (.int .i64 f') ∧ W.cell? ⟨w.heap.size, 11, none⟩ = some (.int .i64 k') ∧ W.cell? ⟨w.heap.size + 1, 0, none⟩ = some (.int .i64 x) ∧ W.cell? ⟨w.heap.size + 1, 1, none⟩ = some (.int .i64 y)) → ((W.setCell ⟨w.heap.size + 1 + 1, 0, none⟩ u).setCell ⟨w.heap.size + 1 + 1, 1, none⟩ v).cell? ⟨w.heap.size, 0, none⟩ = some (.int .i64 a) ∧ ((W.setCell ⟨w.heap.size + 1 + 1, 0, none⟩ u).setCell ⟨w.heap.size + 1 + 1, 1, none⟩ v).cell? ⟨w.heap.size, 1, none⟩ = some (.int .i64 b) ∧ ((W.setCell ⟨w.heap.size + 1 + 1, 0, none⟩ u).setCell ⟨w.heap.size + 1 + 1, 1, none⟩ v).cell? ⟨w.heap.size, 2, none⟩ = some (.int .i64 c) ∧ ((W.setCell ⟨w.heap.size + 1 + 1, 0, none⟩ u).setCell ⟨w.heap.size + 1 + 1, 1, none⟩ v).cell? ⟨w.heap.size, 3, none⟩ = some (.int .i64 d) ∧ ((W.setCell ⟨w.heap.size + 1 + 1, 0, none⟩ u).setCell ⟨w.heap.size + 1 + 1, 1, none⟩ v).cell? ⟨w.heap.size, 4, none⟩ = some (.int .i64 f) ∧ ((W.setCell ⟨w.heap.size + 1 + 1, 0, none⟩ u).setCell ⟨w.heap.size + 1 + 1, 1, none⟩ v).cell? ⟨w.heap.size, 5, none⟩ = some (.int .i64 k) ∧ ((W.setCell ⟨w.heap.size + 1 + 1, 0, none⟩ u).setCell ⟨w.heap.size + 1 + 1, 1, none⟩ v).cell? ⟨w.heap.size, 6, none⟩ = some (.int .i64 a') ∧ ((W.setCell ⟨w.heap.size + 1 + 1, 0, none⟩ u).setCell ⟨w.heap.size + 1 + 1, 1, none⟩ v).cell? ⟨w.heap.size, 7, none⟩ = some (.int .i64 b') ∧ ((W.setCell ⟨w.heap.size + 1 + 1, 0, none⟩ u).setCell ⟨w.heap.size + 1 + 1, 1, none⟩ v).cell? ⟨w.heap.size, 8, none⟩ = some (.int .i64 c') ∧ ((W.setCell ⟨w.heap.size + 1 + 1, 0, none⟩ u).setCell ⟨w.heap.size + 1 + 1, 1, none⟩ v).cell? ⟨w.heap.size, 9, none⟩ = some (.int .i64 d') ∧ ((W.setCell ⟨w.heap.size + 1 + 1, 0, none⟩ u).setCell ⟨w.heap.size + 1 + 1, 1, none⟩ v).cell? ⟨w.heap.size, 10, none⟩ = some (.int .i64 f') ∧ ((W.setCell ⟨w.heap.size + 1 + 1, 0, none⟩ u).setCell ⟨w.heap.size + 1 + 1, 1, none⟩ v).cell? ⟨w.heap.size, 11, none⟩ = some (.int .i64 k') ∧ ((W.setCell ⟨w.heap.size + 1 + 1, 0, none⟩ u).setCell ⟨w.heap.size + 1 + 1, 1, none⟩ v).cell? ⟨w.heap.size + 1, 0, none⟩ = some (.int .i64 x) ∧ ((W.setCell ⟨w.heap.size + 1 + 1, 0, none⟩ u).setCell ⟨w.heap.size + 1 + 1, 1, none⟩ v).cell? ⟨w.heap.size + 1, 1, none⟩ = some (.int .i64 y)) := fun W u v ⟨g0, g1, g2, g3, g4, g5, g6, g7, g8, g9, g10, g11, g12, g13⟩ => ⟨(far_setm W _ _ u v (show w.heap.size ≠ w.heap.size + 1 + 1 by omega)).trans g0, (far_setm W _ _ u v (show w.heap.size ≠ w.heap.size + 1 + 1 by omega)).trans g1, (far_setm W _ _ u v (show w.heap.size ≠ w.heap.size + 1 + 1 by omega)).trans g2, (far_setm W _ _ u v (show w.heap.size ≠ w.heap.size + 1 + 1 by omega)).trans g3, (far_setm W _ _ u v (show w.heap.size ≠ w.heap.size + 1 + 1 by omega)).trans g4, (far_setm W _ _ u v (show w.heap.size ≠ w.heap.size + 1 + 1 by omega)).trans g5, (far_setm W _ _ u v (show w.heap.size ≠ w.heap.size + 1 + 1 by omega)).trans g6, (far_setm W _ _ u v (show w.heap.size ≠ w.heap.size + 1 + 1 by omega)).trans g7, (far_setm W _ _ u v (show w.heap.size ≠ w.heap.size + 1 + 1 by omega)).trans g8, (far_setm W _ _ u v (show w.heap.size ≠ w.heap.size + 1 + 1 by omega)).trans g9, (far_setm W _ _ u v (show w.heap.size ≠ w.heap.size + 1 + 1 by omega)).trans g10, (far_setm W _ _ u v (show w.heap.size ≠ w.heap.size + 1 + 1 by omega)).trans g11, (far_setm W _ _ u v (show w.heap.size + 1 ≠ w.heap.size + 1 + 1 by omega)).trans g12, (far_setm W _ _ u v (show w.heap.size + 1 ≠ w.heap.size + 1 + 1 by omega)).trans g13⟩
  go_enter Tryz.func106, Tryz.ntmps106
  go_wp2
  rw [HWA.out]
  go_region_held3 (fun W => W.cell? ⟨w.heap.size, 0, none⟩ = some (.int .i64 a) ∧ W.cell? ⟨w.heap.size, 1, none⟩ = some (.int .i64 b) ∧ W.cell? ⟨w.heap.size, 2, none⟩ = some (.int .i64 c) ∧ W.cell? ⟨w.heap.size, 3, none⟩ = some (.int .i64 d) ∧ W.cell? ⟨w.heap.size, 4, none⟩ = some (.int .i64 f) ∧ W.cell? ⟨w.heap.size, 5, none⟩ = some (.int .i64 k) ∧ W.cell? ⟨w.heap.size, 6, none⟩ = some (.int .i64 a') ∧ W.cell? ⟨w.heap.size, 7, none⟩ = some (.int .i64 b') ∧ W.cell? ⟨w.heap.size, 8, none⟩ = some (.int .i64 c') ∧ W.cell? ⟨w.heap.size, 9, none⟩ = some (.int .i64 d') ∧ W.cell? ⟨w.heap.size, 10, none⟩ = some (.int .i64 f') ∧ W.cell? ⟨w.heap.size, 11, none⟩ = some (.int .i64 k') ∧ W.cell? ⟨w.heap.size + 1, 0, none⟩ = some (.int .i64 x) ∧ W.cell? ⟨w.heap.size + 1, 1, none⟩ = some (.int .i64 y)) (first | exact (HK.out _ hbb).1 | exact (HK.out _ hb0).1 | exact HST.out _ _ _ (by assumption))
    (first
      | (go_at_call_of 132 (Value.int .i64 a); refine (CX (by assumption) (by omega)).mono ?_; rintro e w1 ⟨rfl, hbb⟩; (try clear hb0))
      | (go_at_call_of 132 (Value.int .i64 a'); refine (CY (by assumption) (by omega)).mono ?_; rintro e w2 ⟨rfl, hbb⟩; obtain ⟨-, t0, t1, t2, t3⟩ := HK.out _ hbb))
  all_goals
    have HBB : Hid (Below (w.heap.size + 3) wa _) := hbb
    clear hbb
    go_wp2
    refine bodyPost_ret (v := .agg #[.int .i64 u, .int .i64 v]) (by simp [results, Tryz.results106, go_sem, t0, t2]) rfl ⟨rfl, ?_⟩
    exact ((HBa.out.trans (HBB.out.mono (by omega))).setCell (by show w.heap.size ≤ w.heap.size + 1 + 1; omega) _).setCell (by show w.heap.size ≤ w.heap.size + 1 + 1; omega) _
theorem rl_sees (w : World) (g : Nat) (hg : w.heap.size = g) (r : M.Rl) (t : TypeId) : Sees (w.alloc (.cells #[.int .i64 r.xx, .int .i64 r.xy, .int .i64 r.yy, .int .i64 r.x, .int .i64 r.y, .int .i64 r.k] t)) (some ⟨g, 0, none⟩) 6 6 r.nums := by
  subst hg
  refine ⟨rfl, Nat.le_refl _, by decide, fun h => by simp at h, .inr ⟨_, _, rfl, fun i hi => ?_⟩⟩
  rw [Nat.zero_add, World.cell?_alloc_new]
  match i, hi with
  | 0, _ => rfl
  | 1, _ => rfl
  | 2, _ => rfl
  | 3, _ => rfl
  | 4, _ => rfl
  | 5, _ => rfl
theorem l5Rule_any (r : M.Rl) (w : World) : Calls Tryz.prog 88 #[rlv r] w fun e w' => e = .returned (.bool r.ok) ∧ Below w.heap.size w w' := by
  have HS : Hid (∀ (W : World) (g : Nat), W.heap.size = g → Sees (W.alloc (.cells #[.int .i64 r.xx, .int .i64 r.xy, .int .i64 r.yy, .int .i64 r.x, .int .i64 r.y, .int .i64 r.k] 2)) (some ⟨g, 0, none⟩) 6 6 r.nums) := fun W g hg => rl_sees W g hg r _
  have HO : Hid (M.allEl r.nums = r.ok) := rfl
  dsimp only [rlv]
  obtain ⟨a, b, c, d, f, k⟩ := r
  dsimp only at HS ⊢
  generalize M.Rl.nums ⟨a, b, c, d, f, k⟩ = zs at HS HO
  generalize M.Rl.ok ⟨a, b, c, d, f, k⟩ = ok at HO
  go_enter Tryz.func88, Tryz.ntmps88
  go_wp2_with fail
  refine (l1All_any _ (HS.out _ _ (by simp))).mono ?_
  rintro e w' ⟨rfl, rfl⟩
  rw [HO.out]
  go_wp2
  go_ret
  exact ⟨rfl, ((Below.refl _ _).alloc (Nat.le_refl _) _).alloc (by simp) _⟩
theorem specMachineOk_any (m : M.Mc) (w : World) : Calls Tryz.prog 53 #[mcv m] w fun e w' => e = .returned (.bool m.ok) ∧ Below w.heap.size w w' := by
  have C1 : ∀ w, Calls Tryz.prog 88 #[rlv m.X] w fun e w' => e = .returned (.bool m.X.ok) ∧ Below w.heap.size w w' := l5Rule_any m.X
  have C2 : ∀ w, Calls Tryz.prog 88 #[rlv m.Y] w fun e w' => e = .returned (.bool m.Y.ok) ∧ Below w.heap.size w w' := l5Rule_any m.Y
  unfold M.Mc.ok
  obtain ⟨⟨a, b, c, d, f, k⟩, ⟨a', b', c', d', f', k'⟩⟩ := m
  dsimp only [mcv, rlv] at C1 C2 ⊢
  generalize M.Rl.ok ⟨a, b, c, d, f, k⟩ = o1 at C1 ⊢
  generalize M.Rl.ok ⟨a', b', c', d', f', k'⟩ = o2 at C2 ⊢
  cases o1 with
  | false =>
    go_enter Tryz.func53, Tryz.ntmps53
    go_wp2_with fail
    refine (C1 _).mono ?_
    rintro e w1 ⟨rfl, hb⟩
    have HB : Hid (Below w.heap.size w w1) := ((Below.refl _ _).alloc (Nat.le_refl _) _).trans (hb.mono (by simp))
    clear hb
    go_wp2
    go_ret
    exact ⟨rfl, HB.out⟩
  | true =>
    go_enter Tryz.func53, Tryz.ntmps53
    go_wp2_with fail
    refine (C1 _).mono ?_
    rintro e w1 ⟨rfl, hb⟩
    have HB : Hid (Below w.heap.size w w1) := ((Below.refl _ _).alloc (Nat.le_refl _) _).trans (hb.mono (by simp))
    have hc : ∀ i, w1.cell? ⟨w.heap.size, i, none⟩ = #[Value.int .i64 a, .int .i64 b, .int .i64 c, .int .i64 d, .int .i64 f, .int .i64 k, .int .i64 a', .int .i64 b', .int .i64 c', .int .i64 d', .int .i64 f', .int .i64 k'][i]? := fun i => (hb.cell (p := ⟨w.heap.size, i, none⟩) (by simp)).trans (World.cell?_alloc_new _ _ _ _)
    have h6 := hc 6
    have h7 := hc 7
    have h8 := hc 8
    have h9 := hc 9
    have h10 := hc 10
    have h11 := hc 11
    clear hc hb
    simp only [List.getElem?_toArray, List.getElem?_cons_succ, List.getElem?_cons_zero] at h6 h7 h8 h9 h10 h11
    go_wp2_with fail
    refine (C2 _).mono ?_
    rintro e w2 ⟨rfl, hb⟩
    have HB2 : Hid (Below w.heap.size w w2) := HB.out.trans (hb.mono HB.out.size)
    clear hb
    go_wp2
    go_ret
    exact ⟨rfl, HB2.out⟩
theorem specStateOk_any (s : Int × Int) (w : World) : Calls Tryz.prog 54 #[stv s] w fun e w' => e = .returned (.bool (M.sOk s)) ∧ Below w.heap.size w w' := by
  obtain ⟨x, y⟩ := s
  unfold M.sOk
  dsimp only [stv]
  have C1 : ∀ w, Calls Tryz.prog 89 #[.int .i64 x] w fun e w' => e = .returned (.bool (M.el x)) ∧ w' = w := l1F_any x
  have C2 : ∀ w, Calls Tryz.prog 89 #[.int .i64 y] w fun e w' => e = .returned (.bool (M.el y)) ∧ w' = w := l1F_any y
  generalize M.el x = o1 at C1 ⊢
  generalize M.el y = o2 at C2 ⊢
  cases o1 with
  | false =>
    go_enter Tryz.func54, Tryz.ntmps54
    go_wp2_with fail
    refine (C1 _).mono ?_
    rintro e w1 ⟨rfl, rfl⟩
    go_wp2
    go_ret
    exact ⟨rfl, (Below.refl _ _).alloc (Nat.le_refl _) _⟩
  | true =>
    go_enter Tryz.func54, Tryz.ntmps54
    go_wp2_with fail
    refine (C1 _).mono ?_
    rintro e w1 ⟨rfl, rfl⟩
    go_wp2_with fail
    refine (C2 _).mono ?_
    rintro e w1 ⟨rfl, rfl⟩
    go_wp2
    go_ret
    exact ⟨rfl, (Below.refl _ _).alloc (Nat.le_refl _) _⟩
end Go.Proofs.YtfhknkppiidnkaaGreat
