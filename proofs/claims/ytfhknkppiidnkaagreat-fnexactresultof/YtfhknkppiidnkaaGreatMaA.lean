/- Rules and states, in the program. -/
import Derived.Test.YtfhknkppiidnkaaGreatMaMath
import Derived.Test.YtfhknkppiidnkaaGreatFieldA
import Derived.BigQuiet
import Derived.Sort.AtCall
import Derived.Deep.RegionHeld3
namespace Go.Proofs.YtfhknkppiidnkaaGreat
open Go.RowKit

theorem quiet_more {P : Program} {f : FuncId} {args : Array Value} {w : World} {q n : Nat} {v : Value}
    (h : Calls P f args (w.drewN (q + n)) fun e w' => e = .returned v ∧ w' = w.drewN (q + n)) : Calls P f args (w.drewN (q + n)) fun e w'' => e = .returned v ∧ ∃ m, w'' = w.drewN (q + m) :=
  h.mono fun _ _ h' => ⟨h'.1, n, h'.2⟩
/-- a rule, a machine, a state as values -/
abbrev rlv (r : M.Rl) : Value := .agg #[.int .i64 r.xx, .int .i64 r.xy, .int .i64 r.yy, .int .i64 r.x, .int .i64 r.y, .int .i64 r.k]
abbrev mcv (m : M.Mc) : Value := .agg #[.int .i64 m.X.xx, .int .i64 m.X.xy, .int .i64 m.X.yy, .int .i64 m.X.x, .int .i64 m.X.y, .int .i64 m.X.k, .int .i64 m.Y.xx, .int .i64 m.Y.xy, .int .i64 m.Y.yy, .int .i64 m.Y.x, .int .i64 m.Y.y, .int .i64 m.Y.k]
abbrev stv (s : Int × Int) : Value := .agg #[.int .i64 s.1, .int .i64 s.2]
set_option maxHeartbeats 4000000 in
theorem ruleAt_any (a b c d f k x y : Int) (w : World) (a0 : 0 ≤ a) (a1 : a < 65537) (b0 : 0 ≤ b) (b1 : b < 65537) (c0 : 0 ≤ c) (c1 : c < 65537) (d0 : 0 ≤ d) (d1 : d < 65537) (f0 : 0 ≤ f) (f1 : f < 65537) (k0 : 0 ≤ k) (k1 : k < 65537) (x0 : 0 ≤ x) (x1 : x < 65537) (y0 : 0 ≤ y) (y1 : y < 65537) :
    Calls Tryz.prog 173 #[.agg #[.int .i64 a, .int .i64 b, .int .i64 c, .int .i64 d, .int .i64 f, .int .i64 k], .agg #[.int .i64 x, .int .i64 y]] w fun e w' => e = .returned (.int .i64 (((((a * x % 65537 + b * y % 65537) % 65537 + d) % 65537 * x % 65537 + (c * y % 65537 + f) % 65537 * y % 65537) % 65537 + k) % 65537)) ∧ Below w.heap.size w w' := by
  obtain ⟨p1, hp1⟩ : ∃ u, a * x % 65537 = u := ⟨_, rfl⟩
  have p10 : 0 ≤ p1 := by omega
  have p11 : p1 < 65537 := by omega
  have Tp1 : ∀ w, Calls Tryz.prog 175 #[.int .i64 a, .int .i64 x] w fun e w' => e = .returned (.int .i64 p1) ∧ w' = w := by intro w; rw [← hp1]; exact times_any a x w a0 a1 x0 x1
  obtain ⟨p2, hp2⟩ : ∃ u, b * y % 65537 = u := ⟨_, rfl⟩
  have p20 : 0 ≤ p2 := by omega
  have p21 : p2 < 65537 := by omega
  have Tp2 : ∀ w, Calls Tryz.prog 175 #[.int .i64 b, .int .i64 y] w fun e w' => e = .returned (.int .i64 p2) ∧ w' = w := by intro w; rw [← hp2]; exact times_any b y w b0 b1 y0 y1
  obtain ⟨p3, hp3⟩ : ∃ u, (p1 + p2) % 65537 = u := ⟨_, rfl⟩
  have p30 : 0 ≤ p3 := by omega
  have p31 : p3 < 65537 := by omega
  have Tp3 : ∀ w, Calls Tryz.prog 176 #[.int .i64 p1, .int .i64 p2] w fun e w' => e = .returned (.int .i64 p3) ∧ w' = w := by intro w; rw [← hp3]; exact plus_any p1 p2 w p10 p11 p20 p21
  obtain ⟨p4, hp4⟩ : ∃ u, (p3 + d) % 65537 = u := ⟨_, rfl⟩
  have p40 : 0 ≤ p4 := by omega
  have p41 : p4 < 65537 := by omega
  have Tp4 : ∀ w, Calls Tryz.prog 176 #[.int .i64 p3, .int .i64 d] w fun e w' => e = .returned (.int .i64 p4) ∧ w' = w := by intro w; rw [← hp4]; exact plus_any p3 d w p30 p31 d0 d1
  obtain ⟨p5, hp5⟩ : ∃ u, c * y % 65537 = u := ⟨_, rfl⟩
  have p50 : 0 ≤ p5 := by omega
  have p51 : p5 < 65537 := by omega
  have Tp5 : ∀ w, Calls Tryz.prog 175 #[.int .i64 c, .int .i64 y] w fun e w' => e = .returned (.int .i64 p5) ∧ w' = w := by intro w; rw [← hp5]; exact times_any c y w c0 c1 y0 y1
  obtain ⟨p6, hp6⟩ : ∃ u, (p5 + f) % 65537 = u := ⟨_, rfl⟩
  have p60 : 0 ≤ p6 := by omega
  have p61 : p6 < 65537 := by omega
  have Tp6 : ∀ w, Calls Tryz.prog 176 #[.int .i64 p5, .int .i64 f] w fun e w' => e = .returned (.int .i64 p6) ∧ w' = w := by intro w; rw [← hp6]; exact plus_any p5 f w p50 p51 f0 f1
  obtain ⟨p7, hp7⟩ : ∃ u, p4 * x % 65537 = u := ⟨_, rfl⟩
  have p70 : 0 ≤ p7 := by omega
  have p71 : p7 < 65537 := by omega
  have Tp7 : ∀ w, Calls Tryz.prog 175 #[.int .i64 p4, .int .i64 x] w fun e w' => e = .returned (.int .i64 p7) ∧ w' = w := by intro w; rw [← hp7]; exact times_any p4 x w p40 p41 x0 x1
  obtain ⟨p8, hp8⟩ : ∃ u, p6 * y % 65537 = u := ⟨_, rfl⟩
  have p80 : 0 ≤ p8 := by omega
  have p81 : p8 < 65537 := by omega
  have Tp8 : ∀ w, Calls Tryz.prog 175 #[.int .i64 p6, .int .i64 y] w fun e w' => e = .returned (.int .i64 p8) ∧ w' = w := by intro w; rw [← hp8]; exact times_any p6 y w p60 p61 y0 y1
  obtain ⟨p9, hp9⟩ : ∃ u, (p7 + p8) % 65537 = u := ⟨_, rfl⟩
  have p90 : 0 ≤ p9 := by omega
  have p91 : p9 < 65537 := by omega
  have Tp9 : ∀ w, Calls Tryz.prog 176 #[.int .i64 p7, .int .i64 p8] w fun e w' => e = .returned (.int .i64 p9) ∧ w' = w := by intro w; rw [← hp9]; exact plus_any p7 p8 w p70 p71 p80 p81
  obtain ⟨q1, hq1⟩ : ∃ u, (p9 + k) % 65537 = u := ⟨_, rfl⟩
  have q10 : 0 ≤ q1 := by omega
  have q11 : q1 < 65537 := by omega
  have Tq1 : ∀ w, Calls Tryz.prog 176 #[.int .i64 p9, .int .i64 k] w fun e w' => e = .returned (.int .i64 q1) ∧ w' = w := by intro w; rw [← hq1]; exact plus_any p9 k w p90 p91 k0 k1
  rw [hp1, hp2, hp3, hp4, hp5, hp6, hp7, hp8, hp9, hq1]
  clear hp1 hp2 hp3 hp4 hp5 hp6 hp7 hp8 hp9 hq1
  go_enter Tryz.func173, Tryz.ntmps173
  go_wp2
  go_quiet (first
    | (go_at_call_of 175 (Value.int .i64 a); exact Calls.quiet_of_same (v := .int .i64 p1) (Tp1 _))
    | (go_at_call_of 175 (Value.int .i64 b); exact Calls.quiet_of_same (v := .int .i64 p2) (Tp2 _))
    | (go_at_call_of 176 (Value.int .i64 p1); exact Calls.quiet_of_same (v := .int .i64 p3) (Tp3 _))
    | (go_at_call_of 176 (Value.int .i64 p3); exact Calls.quiet_of_same (v := .int .i64 p4) (Tp4 _)))
  obtain ⟨n1, hn1⟩ : ∃ n1, n1 = nq := ⟨_, rfl⟩
  subst hn1
  go_wp2
  go_quiet (first
    | (go_at_call_of 175 (Value.int .i64 c); exact quiet_more (v := .int .i64 p5) (Tp5 _))
    | (go_at_call_of 176 (Value.int .i64 p5); exact quiet_more (v := .int .i64 p6) (Tp6 _)))
  obtain ⟨n2, hn2⟩ : ∃ n2, n2 = nq := ⟨_, rfl⟩
  subst hn2
  go_wp2
  go_quiet (first
    | (go_at_call_of 175 (Value.int .i64 p4); exact quiet_more (v := .int .i64 p7) (Tp7 _))
    | (go_at_call_of 175 (Value.int .i64 p6); exact quiet_more (v := .int .i64 p8) (Tp8 _))
    | (go_at_call_of 176 (Value.int .i64 p7); exact quiet_more (v := .int .i64 p9) (Tp9 _))
    | (go_at_call_of 176 (Value.int .i64 p9); exact quiet_more (v := .int .i64 q1) (Tq1 _)))
  go_wp2
  go_ret
  exact ⟨rfl, Below.drewN' (Below.drewN' (Below.drewN' (((Below.refl _ _).alloc (Nat.le_refl _) _).alloc (by simp) _) _) _) _⟩
theorem rule_in (r : M.Rl) (s : Int × Int) {B : Nat} {w wc : World} (hr : r.ok = true) (hs : M.sOk s = true) (hb : Below B w wc) (hB : B ≤ w.heap.size) :
    Calls Tryz.prog 173 #[rlv r, stv s] wc fun e w' => e = .returned (.int .i64 (r.app s.1 s.2)) ∧ Below B w w' := by
  obtain ⟨⟨a0, a1⟩, ⟨b0, b1⟩, ⟨c0, c1⟩, ⟨d0, d1⟩, ⟨f0, f1⟩, k0, k1⟩ := M.rl_bd hr
  obtain ⟨⟨x0, x1⟩, y0, y1⟩ := (M.sOk_iff s).1 hs
  refine (ruleAt_any r.xx r.xy r.yy r.x r.y r.k s.1 s.2 wc a0 a1 b0 b1 c0 c1 d0 d1 f0 f1 k0 k1 x0 x1 y0 y1).mono ?_
  rintro e w' ⟨rfl, hb'⟩
  exact ⟨by rw [M.app_code], hb.trans (hb'.mono (by have := hb.size; omega))⟩
theorem frozen_kept {B : Nat} {w w' : World} {p : Addr} (hb : Below B w w') (hp : p.block < B) : w'.frozen? p = w.frozen? p := by
  simp only [World.frozen?]; rw [hb.block p.block hp]
theorem chain3m (w : World) (A B C : Array Value) (t1 t2 t3 : TypeId) (i : Nat) :
    (((w.alloc (.cells A t1)).alloc (.cells B t2)).alloc (.cells C t3)).cell? ⟨w.heap.size, i, none⟩ = A[i]? ∧ (((w.alloc (.cells A t1)).alloc (.cells B t2)).alloc (.cells C t3)).cell? ⟨w.heap.size + 1, i, none⟩ = B[i]? ∧ (((w.alloc (.cells A t1)).alloc (.cells B t2)).alloc (.cells C t3)).cell? ⟨w.heap.size + 1 + 1, i, none⟩ = C[i]? ∧ (((w.alloc (.cells A t1)).alloc (.cells B t2)).alloc (.cells C t3)).frozen? ⟨w.heap.size + 1 + 1, i, none⟩ = false := by
  have s1 : (w.alloc (.cells A t1)).heap.size = w.heap.size + 1 := by simp
  have s2 : ((w.alloc (.cells A t1)).alloc (.cells B t2)).heap.size = w.heap.size + 1 + 1 := by simp
  refine ⟨?_, ?_, ?_, ?_⟩
  · refine (World.cell?_alloc_lt (w := (w.alloc (.cells A t1)).alloc (.cells B t2)) (o := .cells C t3) (a := ⟨w.heap.size, i, none⟩) (h := by rw [s2]; simp; omega)).trans ((World.cell?_alloc_lt (w := w.alloc (.cells A t1)) (o := .cells B t2) (a := ⟨w.heap.size, i, none⟩) (h := by rw [s1]; simp)).trans ?_)
    rw [World.cell?_alloc_new]
  · refine (World.cell?_alloc_lt (w := (w.alloc (.cells A t1)).alloc (.cells B t2)) (o := .cells C t3) (a := ⟨w.heap.size + 1, i, none⟩) (h := by rw [s2]; simp)).trans ?_
    rw [← s1, World.cell?_alloc_new]
  · rw [← s2, World.cell?_alloc_new]
  · rw [frozen?_alloc_cells, frozen?_alloc_cells, frozen?_alloc_cells]; simp only [World.frozen?]; rw [Array.getElem?_eq_none (by omega)]
theorem far_setm (W : World) (B : Nat) (p : Addr) (u v : Value) (hp : p.block ≠ B) : ((W.setCell ⟨B, 0, none⟩ u).setCell ⟨B, 1, none⟩ v).cell? p = W.cell? p := by
  refine (World.cell?_setCell_other (w := W.setCell ⟨B, 0, none⟩ u) (a := ⟨B, 1, none⟩) (b := p) (v := v) (h := ?_)).trans (World.cell?_setCell_other (w := W) (a := ⟨B, 0, none⟩) (b := p) (v := u) (h := ?_))
  · intro e; exact hp (by rw [← e])
  · intro e; exact hp (by rw [← e])
set_option maxHeartbeats 8000000 in
theorem stepM_any (m : M.Mc) (s : Int × Int) (w : World) (hm : m.ok = true) (hs : M.sOk s = true) :
    Calls Tryz.prog 174 #[mcv m, stv s] w fun e w' => e = .returned (stv (m.nx s)) ∧ Below w.heap.size w w' := by
  obtain ⟨hX, hY⟩ : m.X.ok = true ∧ m.Y.ok = true := by unfold M.Mc.ok at hm; simpa using hm
  have CX : ∀ {wa wc : World}, Below (w.heap.size + 3) wa wc → w.heap.size + 3 ≤ wa.heap.size → Calls Tryz.prog 173 #[rlv m.X, stv s] wc fun e w' => e = .returned (.int .i64 (m.X.app s.1 s.2)) ∧ Below (w.heap.size + 3) wa w' := fun h hB => rule_in m.X s hX hs h hB
  have CY : ∀ {wa wc : World}, Below (w.heap.size + 3) wa wc → w.heap.size + 3 ≤ wa.heap.size → Calls Tryz.prog 173 #[rlv m.Y, stv s] wc fun e w' => e = .returned (.int .i64 (m.Y.app s.1 s.2)) ∧ Below (w.heap.size + 3) wa w' := fun h hB => rule_in m.Y s hY hs h hB
  unfold M.Mc.nx
  obtain ⟨⟨a, b, c, d, f, k⟩, ⟨a', b', c', d', f', k'⟩⟩ := m
  obtain ⟨x, y⟩ := s
  dsimp only [mcv, rlv, stv] at CX CY ⊢
  generalize M.Rl.app ⟨a, b, c, d, f, k⟩ x y = u at CX ⊢
  generalize M.Rl.app ⟨a', b', c', d', f', k'⟩ x y = v at CY ⊢
  clear hX hY hm hs
  have HBa : Hid (Below w.heap.size w (((w.alloc (.cells #[Value.int .i64 a, Value.int .i64 b, Value.int .i64 c, Value.int .i64 d, Value.int .i64 f, Value.int .i64 k, Value.int .i64 a', Value.int .i64 b', Value.int .i64 c', Value.int .i64 d', Value.int .i64 f', Value.int .i64 k'] 190)).alloc (.cells #[Value.int .i64 x, Value.int .i64 y] 128)).alloc (.cells #[Value.int .i64 0, Value.int .i64 0] 128))) := (((Below.refl _ _).alloc (Nat.le_refl _) _).alloc (by simp) _).alloc (by simp; omega) _
  have hsz : (((w.alloc (.cells #[Value.int .i64 a, Value.int .i64 b, Value.int .i64 c, Value.int .i64 d, Value.int .i64 f, Value.int .i64 k, Value.int .i64 a', Value.int .i64 b', Value.int .i64 c', Value.int .i64 d', Value.int .i64 f', Value.int .i64 k'] 190)).alloc (.cells #[Value.int .i64 x, Value.int .i64 y] 128)).alloc (.cells #[Value.int .i64 0, Value.int .i64 0] 128)).heap.size = w.heap.size + 3 := by simp
  have HK : Hid (∀ W, Below (w.heap.size + 3) (((w.alloc (.cells #[Value.int .i64 a, Value.int .i64 b, Value.int .i64 c, Value.int .i64 d, Value.int .i64 f, Value.int .i64 k, Value.int .i64 a', Value.int .i64 b', Value.int .i64 c', Value.int .i64 d', Value.int .i64 f', Value.int .i64 k'] 190)).alloc (.cells #[Value.int .i64 x, Value.int .i64 y] 128)).alloc (.cells #[Value.int .i64 0, Value.int .i64 0] 128)) W → (W.cell? ⟨w.heap.size, 0, none⟩ = some (.int .i64 a) ∧ W.cell? ⟨w.heap.size, 1, none⟩ = some (.int .i64 b) ∧ W.cell? ⟨w.heap.size, 2, none⟩ = some (.int .i64 c) ∧ W.cell? ⟨w.heap.size, 3, none⟩ = some (.int .i64 d) ∧ W.cell? ⟨w.heap.size, 4, none⟩ = some (.int .i64 f) ∧ W.cell? ⟨w.heap.size, 5, none⟩ = some (.int .i64 k) ∧ W.cell? ⟨w.heap.size, 6, none⟩ = some (.int .i64 a') ∧ W.cell? ⟨w.heap.size, 7, none⟩ = some (.int .i64 b') ∧ W.cell? ⟨w.heap.size, 8, none⟩ = some (.int .i64 c') ∧ W.cell? ⟨w.heap.size, 9, none⟩ = some (.int .i64 d') ∧ W.cell? ⟨w.heap.size, 10, none⟩ = some (.int .i64 f') ∧ W.cell? ⟨w.heap.size, 11, none⟩ = some (.int .i64 k') ∧ W.cell? ⟨w.heap.size + 1, 0, none⟩ = some (.int .i64 x) ∧ W.cell? ⟨w.heap.size + 1, 1, none⟩ = some (.int .i64 y)) ∧ (W.cell? ⟨w.heap.size + 1 + 1, 0, none⟩ = some (.int .i64 0) ∧ W.frozen? ⟨w.heap.size + 1 + 1, 0, none⟩ = false ∧ W.cell? ⟨w.heap.size + 1 + 1, 1, none⟩ = some (.int .i64 0) ∧ W.frozen? ⟨w.heap.size + 1 + 1, 1, none⟩ = false)) := by
    intro W hW
    exact ⟨⟨(hW.cell (p := ⟨w.heap.size, 0, none⟩) (show w.heap.size < _ by omega)).trans (chain3m w _ _ _ _ _ _ 0).1, (hW.cell (p := ⟨w.heap.size, 1, none⟩) (show w.heap.size < _ by omega)).trans (chain3m w _ _ _ _ _ _ 1).1, (hW.cell (p := ⟨w.heap.size, 2, none⟩) (show w.heap.size < _ by omega)).trans (chain3m w _ _ _ _ _ _ 2).1, (hW.cell (p := ⟨w.heap.size, 3, none⟩) (show w.heap.size < _ by omega)).trans (chain3m w _ _ _ _ _ _ 3).1, (hW.cell (p := ⟨w.heap.size, 4, none⟩) (show w.heap.size < _ by omega)).trans (chain3m w _ _ _ _ _ _ 4).1, (hW.cell (p := ⟨w.heap.size, 5, none⟩) (show w.heap.size < _ by omega)).trans (chain3m w _ _ _ _ _ _ 5).1, (hW.cell (p := ⟨w.heap.size, 6, none⟩) (show w.heap.size < _ by omega)).trans (chain3m w _ _ _ _ _ _ 6).1, (hW.cell (p := ⟨w.heap.size, 7, none⟩) (show w.heap.size < _ by omega)).trans (chain3m w _ _ _ _ _ _ 7).1, (hW.cell (p := ⟨w.heap.size, 8, none⟩) (show w.heap.size < _ by omega)).trans (chain3m w _ _ _ _ _ _ 8).1, (hW.cell (p := ⟨w.heap.size, 9, none⟩) (show w.heap.size < _ by omega)).trans (chain3m w _ _ _ _ _ _ 9).1, (hW.cell (p := ⟨w.heap.size, 10, none⟩) (show w.heap.size < _ by omega)).trans (chain3m w _ _ _ _ _ _ 10).1, (hW.cell (p := ⟨w.heap.size, 11, none⟩) (show w.heap.size < _ by omega)).trans (chain3m w _ _ _ _ _ _ 11).1, (hW.cell (p := ⟨w.heap.size + 1, 0, none⟩) (show w.heap.size + 1 < _ by omega)).trans (chain3m w _ _ _ _ _ _ 0).2.1, (hW.cell (p := ⟨w.heap.size + 1, 1, none⟩) (show w.heap.size + 1 < _ by omega)).trans (chain3m w _ _ _ _ _ _ 1).2.1⟩, ⟨(hW.cell (p := ⟨w.heap.size + 1 + 1, 0, none⟩) (show w.heap.size + 1 + 1 < _ by omega)).trans (chain3m w _ _ _ _ _ _ 0).2.2.1, (frozen_kept hW (show w.heap.size + 1 + 1 < _ by omega)).trans (chain3m w _ _ _ _ _ _ 0).2.2.2, (hW.cell (p := ⟨w.heap.size + 1 + 1, 1, none⟩) (show w.heap.size + 1 + 1 < _ by omega)).trans (chain3m w _ _ _ _ _ _ 1).2.2.1, (frozen_kept hW (show w.heap.size + 1 + 1 < _ by omega)).trans (chain3m w _ _ _ _ _ _ 1).2.2.2⟩⟩
  generalize hwa : (((w.alloc (.cells #[Value.int .i64 a, Value.int .i64 b, Value.int .i64 c, Value.int .i64 d, Value.int .i64 f, Value.int .i64 k, Value.int .i64 a', Value.int .i64 b', Value.int .i64 c', Value.int .i64 d', Value.int .i64 f', Value.int .i64 k'] 190)).alloc (.cells #[Value.int .i64 x, Value.int .i64 y] 128)).alloc (.cells #[Value.int .i64 0, Value.int .i64 0] 128)) = wa at HBa hsz HK
  have HWA : Hid ((((w.alloc (.cells #[Value.int .i64 a, Value.int .i64 b, Value.int .i64 c, Value.int .i64 d, Value.int .i64 f, Value.int .i64 k, Value.int .i64 a', Value.int .i64 b', Value.int .i64 c', Value.int .i64 d', Value.int .i64 f', Value.int .i64 k'] 190)).alloc (.cells #[Value.int .i64 x, Value.int .i64 y] 128)).alloc (.cells #[Value.int .i64 0, Value.int .i64 0] 128)) = wa) := hwa
  clear hwa
  have hb0 : Below (w.heap.size + 3) wa wa.drew := (Below.refl _ _).drew
  have HST : Hid (∀ (W : World) (u v : Value), (W.cell? ⟨w.heap.size, 0, none⟩ = some (.int .i64 a) ∧ W.cell? ⟨w.heap.size, 1, none⟩ = some (.int .i64 b) ∧ W.cell? ⟨w.heap.size, 2, none⟩ = some (.int .i64 c) ∧ W.cell? ⟨w.heap.size, 3, none⟩ = some (.int .i64 d) ∧ W.cell? ⟨w.heap.size, 4, none⟩ = some (.int .i64 f) ∧ W.cell? ⟨w.heap.size, 5, none⟩ = some (.int .i64 k) ∧ W.cell? ⟨w.heap.size, 6, none⟩ = some (.int .i64 a') ∧ W.cell? ⟨w.heap.size, 7, none⟩ = some (.int .i64 b') ∧ W.cell? ⟨w.heap.size, 8, none⟩ = some (.int .i64 c') ∧ W.cell? ⟨w.heap.size, 9, none⟩ = some (.int .i64 d') ∧ W.cell? ⟨w.heap.size, 10, none⟩ = some (.int .i64 f') ∧ W.cell? ⟨w.heap.size, 11, none⟩ = some (.int .i64 k') ∧ W.cell? ⟨w.heap.size + 1, 0, none⟩ = some (.int .i64 x) ∧ W.cell? ⟨w.heap.size + 1, 1, none⟩ = some (.int .i64 y)) → ((W.setCell ⟨w.heap.size + 1 + 1, 0, none⟩ u).setCell ⟨w.heap.size + 1 + 1, 1, none⟩ v).cell? ⟨w.heap.size, 0, none⟩ = some (.int .i64 a) ∧ ((W.setCell ⟨w.heap.size + 1 + 1, 0, none⟩ u).setCell ⟨w.heap.size + 1 + 1, 1, none⟩ v).cell? ⟨w.heap.size, 1, none⟩ = some (.int .i64 b) ∧ ((W.setCell ⟨w.heap.size + 1 + 1, 0, none⟩ u).setCell ⟨w.heap.size + 1 + 1, 1, none⟩ v).cell? ⟨w.heap.size, 2, none⟩ = some (.int .i64 c) ∧ ((W.setCell ⟨w.heap.size + 1 + 1, 0, none⟩ u).setCell ⟨w.heap.size + 1 + 1, 1, none⟩ v).cell? ⟨w.heap.size, 3, none⟩ = some (.int .i64 d) ∧ ((W.setCell ⟨w.heap.size + 1 + 1, 0, none⟩ u).setCell ⟨w.heap.size + 1 + 1, 1, none⟩ v).cell? ⟨w.heap.size, 4, none⟩ = some (.int .i64 f) ∧ ((W.setCell ⟨w.heap.size + 1 + 1, 0, none⟩ u).setCell ⟨w.heap.size + 1 + 1, 1, none⟩ v).cell? ⟨w.heap.size, 5, none⟩ = some (.int .i64 k) ∧ ((W.setCell ⟨w.heap.size + 1 + 1, 0, none⟩ u).setCell ⟨w.heap.size + 1 + 1, 1, none⟩ v).cell? ⟨w.heap.size, 6, none⟩ = some (.int .i64 a') ∧ ((W.setCell ⟨w.heap.size + 1 + 1, 0, none⟩ u).setCell ⟨w.heap.size + 1 + 1, 1, none⟩ v).cell? ⟨w.heap.size, 7, none⟩ = some (.int .i64 b') ∧ ((W.setCell ⟨w.heap.size + 1 + 1, 0, none⟩ u).setCell ⟨w.heap.size + 1 + 1, 1, none⟩ v).cell? ⟨w.heap.size, 8, none⟩ = some (.int .i64 c') ∧ ((W.setCell ⟨w.heap.size + 1 + 1, 0, none⟩ u).setCell ⟨w.heap.size + 1 + 1, 1, none⟩ v).cell? ⟨w.heap.size, 9, none⟩ = some (.int .i64 d') ∧ ((W.setCell ⟨w.heap.size + 1 + 1, 0, none⟩ u).setCell ⟨w.heap.size + 1 + 1, 1, none⟩ v).cell? ⟨w.heap.size, 10, none⟩ = some (.int .i64 f') ∧ ((W.setCell ⟨w.heap.size + 1 + 1, 0, none⟩ u).setCell ⟨w.heap.size + 1 + 1, 1, none⟩ v).cell? ⟨w.heap.size, 11, none⟩ = some (.int .i64 k') ∧ ((W.setCell ⟨w.heap.size + 1 + 1, 0, none⟩ u).setCell ⟨w.heap.size + 1 + 1, 1, none⟩ v).cell? ⟨w.heap.size + 1, 0, none⟩ = some (.int .i64 x) ∧ ((W.setCell ⟨w.heap.size + 1 + 1, 0, none⟩ u).setCell ⟨w.heap.size + 1 + 1, 1, none⟩ v).cell? ⟨w.heap.size + 1, 1, none⟩ = some (.int .i64 y)) := fun W u v ⟨g0, g1, g2, g3, g4, g5, g6, g7, g8, g9, g10, g11, g12, g13⟩ => ⟨(far_setm W _ _ u v (show w.heap.size ≠ w.heap.size + 1 + 1 by omega)).trans g0, (far_setm W _ _ u v (show w.heap.size ≠ w.heap.size + 1 + 1 by omega)).trans g1, (far_setm W _ _ u v (show w.heap.size ≠ w.heap.size + 1 + 1 by omega)).trans g2, (far_setm W _ _ u v (show w.heap.size ≠ w.heap.size + 1 + 1 by omega)).trans g3, (far_setm W _ _ u v (show w.heap.size ≠ w.heap.size + 1 + 1 by omega)).trans g4, (far_setm W _ _ u v (show w.heap.size ≠ w.heap.size + 1 + 1 by omega)).trans g5, (far_setm W _ _ u v (show w.heap.size ≠ w.heap.size + 1 + 1 by omega)).trans g6, (far_setm W _ _ u v (show w.heap.size ≠ w.heap.size + 1 + 1 by omega)).trans g7, (far_setm W _ _ u v (show w.heap.size ≠ w.heap.size + 1 + 1 by omega)).trans g8, (far_setm W _ _ u v (show w.heap.size ≠ w.heap.size + 1 + 1 by omega)).trans g9, (far_setm W _ _ u v (show w.heap.size ≠ w.heap.size + 1 + 1 by omega)).trans g10, (far_setm W _ _ u v (show w.heap.size ≠ w.heap.size + 1 + 1 by omega)).trans g11, (far_setm W _ _ u v (show w.heap.size + 1 ≠ w.heap.size + 1 + 1 by omega)).trans g12, (far_setm W _ _ u v (show w.heap.size + 1 ≠ w.heap.size + 1 + 1 by omega)).trans g13⟩
  go_enter Tryz.func174, Tryz.ntmps174
  go_wp2
  rw [HWA.out]
  go_region_held3 (fun W => W.cell? ⟨w.heap.size, 0, none⟩ = some (.int .i64 a) ∧ W.cell? ⟨w.heap.size, 1, none⟩ = some (.int .i64 b) ∧ W.cell? ⟨w.heap.size, 2, none⟩ = some (.int .i64 c) ∧ W.cell? ⟨w.heap.size, 3, none⟩ = some (.int .i64 d) ∧ W.cell? ⟨w.heap.size, 4, none⟩ = some (.int .i64 f) ∧ W.cell? ⟨w.heap.size, 5, none⟩ = some (.int .i64 k) ∧ W.cell? ⟨w.heap.size, 6, none⟩ = some (.int .i64 a') ∧ W.cell? ⟨w.heap.size, 7, none⟩ = some (.int .i64 b') ∧ W.cell? ⟨w.heap.size, 8, none⟩ = some (.int .i64 c') ∧ W.cell? ⟨w.heap.size, 9, none⟩ = some (.int .i64 d') ∧ W.cell? ⟨w.heap.size, 10, none⟩ = some (.int .i64 f') ∧ W.cell? ⟨w.heap.size, 11, none⟩ = some (.int .i64 k') ∧ W.cell? ⟨w.heap.size + 1, 0, none⟩ = some (.int .i64 x) ∧ W.cell? ⟨w.heap.size + 1, 1, none⟩ = some (.int .i64 y)) (first | exact (HK.out _ hbb).1 | exact (HK.out _ hb0).1 | exact HST.out _ _ _ (by assumption))
    (first
      | (go_at_call_of 173 (Value.int .i64 a); refine (CX (by assumption) (by omega)).mono ?_; rintro e w1 ⟨rfl, hbb⟩; (try clear hb0))
      | (go_at_call_of 173 (Value.int .i64 a'); refine (CY (by assumption) (by omega)).mono ?_; rintro e w2 ⟨rfl, hbb⟩; obtain ⟨-, t0, t1, t2, t3⟩ := HK.out _ hbb))
  all_goals
    have HBB : Hid (Below (w.heap.size + 3) wa _) := hbb
    clear hbb
    go_wp2
    refine bodyPost_ret (v := .agg #[.int .i64 u, .int .i64 v]) (by simp [results, Tryz.results174, go_sem, t0, t2]) rfl ⟨rfl, ?_⟩
    exact ((HBa.out.trans (HBB.out.mono (by omega))).setCell (by show w.heap.size ≤ w.heap.size + 1 + 1; omega) _).setCell (by show w.heap.size ≤ w.heap.size + 1 + 1; omega) _
end Go.Proofs.YtfhknkppiidnkaaGreat
