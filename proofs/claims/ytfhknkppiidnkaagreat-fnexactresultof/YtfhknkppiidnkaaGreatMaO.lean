/- Arguments that are structs of numbers, opened. What the laws make of their arguments: machines and states. -/
import Derived.Test.YtfhknkppiidnkaaGreatMaA
import Derived.WideShapes
import Derived.Test.YtfhknkppiidnkaaGreatMaS
namespace Go.Proofs.YtfhknkppiidnkaaGreat
open Go.RowKit Go.WideShapes

theorem agg_ints {P : Program} {W : World} {r : Reach} {base : Nat} {t : TypeId} {v : Value} {fs : Array Field} (ts : List TypeId) (ht : P.underlying t = some (.struct fs)) (hts : P.cellTypes P.depth t = some ts) (hi : ∀ u ∈ ts, P.underlying u = some (.int .i64)) (h : Value.okWide P W r base t v) :
    ∃ zs : List Int, zs.length = P.cellsOf t ∧ v = .agg (zs.map (Value.int .i64)).toArray := by
  simp only [Value.okWide, ht] at h
  obtain ⟨cs, rfl, hsz, ts', h1, _, h3⟩ := h
  rw [hts] at h1
  cases h1
  have hc : ∀ x ∈ cs.toList, ∃ n, x = Value.int .i64 n := by
    intro x hx
    obtain ⟨i, hi', e⟩ := List.mem_iff_getElem.1 hx
    obtain ⟨u, hu, ho⟩ := h3 i x (by rw [← e]; simp)
    have hm : u ∈ ts := List.mem_of_getElem? hu
    have := okWide_int (P := P) (w := W) (r := r) (base := base) (t := u) (v := x) (hi u hm) (by simp only [Value.okWide, hi u hm]; exact ho)
    exact this
  refine ⟨cs.toList.map intOf, by rw [List.length_map, Array.length_toList]; exact hsz, ?_⟩
  congr 1
  rw [List.map_map]
  have : cs.toList.map (Value.int .i64 ∘ intOf) = cs.toList := by
    conv => rhs; rw [← List.map_id cs.toList]
    refine List.map_congr_left fun x hx => ?_
    obtain ⟨n, rfl⟩ := hc x hx
    rfl
  rw [this]
theorem mc_of (zs : List Int) (h : zs.length = 12) : ∃ m : M.Mc, Value.agg (zs.map (Value.int .i64)).toArray = mcv m := by
  match zs, h with
  | [a, b, c, d, f, k, a', b', c', d', f', k'], _ => exact ⟨⟨⟨a, b, c, d, f, k⟩, ⟨a', b', c', d', f', k'⟩⟩, rfl⟩
theorem st_of (zs : List Int) (h : zs.length = 2) : ∃ s : Int × Int, Value.agg (zs.map (Value.int .i64)).toArray = stv s := by
  match zs, h with
  | [x, y], _ => exact ⟨(x, y), rfl⟩
theorem i64_list (n : Nat) (u : TypeId) (hu : u ∈ List.replicate n 2) : Tryz.prog.underlying u = some (.int .i64) := by
  have e := List.eq_of_mem_replicate hu
  rw [e]; exact Tryz.underlying2
set_option maxRecDepth 10000 in
theorem open_machine {W : World} {r : Reach} {base : Nat} {v : Value} (h : Value.okWide Tryz.prog W r base 133 v) : ∃ m : M.Mc, v = mcv m := by
  obtain ⟨zs, hl, rfl⟩ := agg_ints (List.replicate 12 2) Tryz.underlying133 (by kernel_rfl) (i64_list _) h
  exact mc_of zs (hl.trans (by kernel_rfl))
set_option maxRecDepth 10000 in
theorem open_state {W : World} {r : Reach} {base : Nat} {v : Value} (h : Value.okWide Tryz.prog W r base 134 v) : ∃ s : Int × Int, v = stv s := by
  obtain ⟨zs, hl, rfl⟩ := agg_ints (List.replicate 2 2) Tryz.underlying134 (by kernel_rfl) (i64_list _) h
  exact st_of zs (hl.trans (by kernel_rfl))
end Go.Proofs.YtfhknkppiidnkaaGreat
namespace Go.Proofs.YtfhknkppiidnkaaGreat
open Go.RowKit

theorem frozen_newt (w : World) (A B C : Array Value) (t1 t2 t3 : TypeId) (i : Nat) :
    (((w.alloc (.cells A t1)).alloc (.cells B t2)).alloc (.cells C t3)).frozen? ⟨w.heap.size + 1, i, none⟩ = false := by
  rw [frozen?_alloc_cells, frozen?_alloc_cells, frozen?_alloc_cells]; simp only [World.frozen?]; rw [Array.getElem?_eq_none (by omega)]
theorem sets_high (B j : Nat) : ∀ (vs : List Value) (W : World) (i : Nat), i + vs.length ≤ j → (sets W B i vs).cell? ⟨B, j, none⟩ = W.cell? ⟨B, j, none⟩
  | [], _, _, _ => rfl
  | v :: vs, W, i, h => (sets_high B j vs (W.setCell ⟨B, i, none⟩ v) (i + 1) (by simp at h; omega)).trans (World.cell?_setCell_other (w := W) (a := ⟨B, i, none⟩) (b := ⟨B, j, none⟩) (v := v) (h := by intro e; simp only [Addr.mk.injEq] at e; simp at h; omega))
theorem alloc_keptm {w w' : World} {t : TypeId} {x y : Value} (hb : Below (w.alloc (.cells #[x, y] t)).heap.size (w.alloc (.cells #[x, y] t)) w') : w'.cell? ⟨w.heap.size, 0, none⟩ = some x ∧ w'.cell? ⟨w.heap.size, 1, none⟩ = some y ∧ w'.frozen? ⟨w.heap.size, 0, none⟩ = false ∧ w'.frozen? ⟨w.heap.size, 1, none⟩ = false := by
  have hs : w.heap.size < (w.alloc (.cells #[x, y] t)).heap.size := by simp
  refine ⟨(hb.cell (p := ⟨w.heap.size, 0, none⟩) hs).trans ?_, (hb.cell (p := ⟨w.heap.size, 1, none⟩) hs).trans ?_, (hb.frozen (p := ⟨w.heap.size, 0, none⟩) hs).trans ?_, (hb.frozen (p := ⟨w.heap.size, 1, none⟩) hs).trans ?_⟩
  · rw [World.cell?_alloc_new]; rfl
  · rw [World.cell?_alloc_new]; rfl
  · rw [frozen?_alloc_cells]; simp [World.frozen?]
  · rw [frozen?_alloc_cells]; simp [World.frozen?]
theorem cells_keptm {w w' : World} {p : Nat} {x y : Value} (hb : Below w.heap.size w w') (h : w.cell? ⟨p, 0, none⟩ = some x ∧ w.cell? ⟨p, 1, none⟩ = some y ∧ w.frozen? ⟨p, 0, none⟩ = false ∧ w.frozen? ⟨p, 1, none⟩ = false) : w'.cell? ⟨p, 0, none⟩ = some x ∧ w'.cell? ⟨p, 1, none⟩ = some y ∧ w'.frozen? ⟨p, 0, none⟩ = false ∧ w'.frozen? ⟨p, 1, none⟩ = false := by
  have hs : p < w.heap.size := World.block_lt_of_cell? w _ h.1
  exact ⟨(hb.cell (p := ⟨p, 0, none⟩) hs).trans h.1, (hb.cell (p := ⟨p, 1, none⟩) hs).trans h.2.1, (hb.frozen (p := ⟨p, 0, none⟩) hs).trans h.2.2.1, (hb.frozen (p := ⟨p, 1, none⟩) hs).trans h.2.2.2⟩
theorem leafA {B : Nat} {a W : World} {t : TypeId} {u v : Value} (hb : Below B a W) (hB : B ≤ a.heap.size) :
    Below B a (W.alloc (.cells #[u, v] t)) ∧ ((W.alloc (.cells #[u, v] t)).cell? ⟨W.heap.size, 0, none⟩ = some u ∧ (W.alloc (.cells #[u, v] t)).cell? ⟨W.heap.size, 1, none⟩ = some v) ∧ (∀ q : Addr, q.block < W.heap.size → (W.alloc (.cells #[u, v] t)).cell? q = W.cell? q) ∧ W.heap.size < (W.alloc (.cells #[u, v] t)).heap.size :=
  ⟨hb.alloc (Nat.le_trans hB hb.size) _, ⟨by rw [World.cell?_alloc_new]; rfl, by rw [World.cell?_alloc_new]; rfl⟩, fun q hq => World.cell?_alloc_lt (w := W) (o := .cells #[u, v] t) (a := q) (h := hq), by simp⟩
theorem leafS {B p : Nat} {a W : World} {u v x y : Value} (hb : Below B a W) (hp : B ≤ p) (h0 : W.cell? ⟨p, 0, none⟩ = some x) (h1 : W.cell? ⟨p, 1, none⟩ = some y) :
    Below B a ((W.setCell ⟨p, 0, none⟩ u).setCell ⟨p, 1, none⟩ v) ∧ (((W.setCell ⟨p, 0, none⟩ u).setCell ⟨p, 1, none⟩ v).cell? ⟨p, 0, none⟩ = some u ∧ ((W.setCell ⟨p, 0, none⟩ u).setCell ⟨p, 1, none⟩ v).cell? ⟨p, 1, none⟩ = some v) ∧ (∀ q : Addr, q.block ≠ p → ((W.setCell ⟨p, 0, none⟩ u).setCell ⟨p, 1, none⟩ v).cell? q = W.cell? q) ∧ p < ((W.setCell ⟨p, 0, none⟩ u).setCell ⟨p, 1, none⟩ v).heap.size := by
  have ha := sets_at p [u, v] W 0 (fun j hj => by
    match j, hj with
    | 0, _ => exact ⟨_, h0⟩
    | 1, _ => exact ⟨_, h1⟩)
  refine ⟨(hb.setCell hp _).setCell hp _, ⟨ha 0 u rfl, ha 1 v rfl⟩, fun q hq => sets_far p hq [u, v] W 0, ?_⟩
  have := World.block_lt_of_cell? W _ h0
  have e := sets_size p [u, v] W 0
  exact Nat.lt_of_lt_of_eq this e.symm
set_option maxHeartbeats 2000000 in
theorem toState_any (s : Int × Int) (w : World) : Calls Tryz.prog 96 #[stv s] w fun e w' => e = .returned (stv s) ∧ Below w.heap.size w w' := by
  obtain ⟨x, y⟩ := s
  dsimp only [stv]
  go_enter Tryz.func96, Tryz.ntmps96
  go_wp2
  refine bodyPost_ret (v := .agg #[.int .i64 x, .int .i64 y]) (by simp [results, Tryz.results96, go_sem]) rfl ⟨rfl, ?_⟩
  exact (((Below.refl _ _).alloc (Nat.le_refl _) _).alloc (by simp) _).alloc (by simp; omega) _
set_option maxHeartbeats 2000000 in
theorem toRule_any (r : M.Rl) (w : World) : Calls Tryz.prog 127 #[rlv r] w fun e w' => e = .returned (rlv r) ∧ Below w.heap.size w w' := by
  obtain ⟨a, b, c, d, f, k⟩ := r
  dsimp only [rlv]
  go_enter Tryz.func127, Tryz.ntmps127
  go_wp2
  refine bodyPost_ret (v := .agg #[.int .i64 a, .int .i64 b, .int .i64 c, .int .i64 d, .int .i64 f, .int .i64 k]) (by simp [results, Tryz.results127, go_sem]) rfl ⟨rfl, ?_⟩
  exact (((Below.refl _ _).alloc (Nat.le_refl _) _).alloc (by simp) _).alloc (by simp; omega) _
set_option maxHeartbeats 8000000 in
theorem toMachine_any (m : M.Mc) (w : World) : Calls Tryz.prog 95 #[mcv m] w fun e w' => e = .returned (mcv m) ∧ Below w.heap.size w w' := by
  have C1 := toRule_any m.X
  have C2 := toRule_any m.Y
  obtain ⟨⟨a, b, c, d, f, k⟩, ⟨a', b', c', d', f', k'⟩⟩ := m
  dsimp only [mcv, rlv] at C1 C2 ⊢
  have HT : Hid (∀ W, Below (((w.alloc (.cells #[.int .i64 a, .int .i64 b, .int .i64 c, .int .i64 d, .int .i64 f, .int .i64 k, .int .i64 a', .int .i64 b', .int .i64 c', .int .i64 d', .int .i64 f', .int .i64 k'] 133)).alloc (.cells #[.int .i64 0, .int .i64 0, .int .i64 0, .int .i64 0, .int .i64 0, .int .i64 0, .int .i64 0, .int .i64 0, .int .i64 0, .int .i64 0, .int .i64 0, .int .i64 0] 41)).alloc (.cells #[.int .i64 0, .int .i64 0, .int .i64 0, .int .i64 0, .int .i64 0, .int .i64 0, .int .i64 0, .int .i64 0, .int .i64 0, .int .i64 0, .int .i64 0, .int .i64 0] 41)).heap.size (((w.alloc (.cells #[.int .i64 a, .int .i64 b, .int .i64 c, .int .i64 d, .int .i64 f, .int .i64 k, .int .i64 a', .int .i64 b', .int .i64 c', .int .i64 d', .int .i64 f', .int .i64 k'] 133)).alloc (.cells #[.int .i64 0, .int .i64 0, .int .i64 0, .int .i64 0, .int .i64 0, .int .i64 0, .int .i64 0, .int .i64 0, .int .i64 0, .int .i64 0, .int .i64 0, .int .i64 0] 41)).alloc (.cells #[.int .i64 0, .int .i64 0, .int .i64 0, .int .i64 0, .int .i64 0, .int .i64 0, .int .i64 0, .int .i64 0, .int .i64 0, .int .i64 0, .int .i64 0, .int .i64 0] 41)) W → ∀ i, W.cell? ⟨w.heap.size, i, none⟩ = ((#[.int .i64 a, .int .i64 b, .int .i64 c, .int .i64 d, .int .i64 f, .int .i64 k, .int .i64 a', .int .i64 b', .int .i64 c', .int .i64 d', .int .i64 f', .int .i64 k'] : Array Value))[i]? ∧ W.cell? ⟨w.heap.size + 1, i, none⟩ = ((#[.int .i64 0, .int .i64 0, .int .i64 0, .int .i64 0, .int .i64 0, .int .i64 0, .int .i64 0, .int .i64 0, .int .i64 0, .int .i64 0, .int .i64 0, .int .i64 0] : Array Value))[i]? ∧ W.cell? ⟨w.heap.size + 1 + 1, i, none⟩ = ((#[.int .i64 0, .int .i64 0, .int .i64 0, .int .i64 0, .int .i64 0, .int .i64 0, .int .i64 0, .int .i64 0, .int .i64 0, .int .i64 0, .int .i64 0, .int .i64 0] : Array Value))[i]? ∧ W.frozen? ⟨w.heap.size + 1, i, none⟩ = false ∧ W.frozen? ⟨w.heap.size + 1 + 1, i, none⟩ = false) := fun W hW i =>
    ⟨(hW.cell (p := ⟨w.heap.size, i, none⟩) (by simp; omega)).trans (chain3m w _ _ _ _ _ _ i).1, (hW.cell (p := ⟨w.heap.size + 1, i, none⟩) (by simp)).trans (chain3m w _ _ _ _ _ _ i).2.1, (hW.cell (p := ⟨w.heap.size + 1 + 1, i, none⟩) (by simp)).trans (chain3m w _ _ _ _ _ _ i).2.2.1, (frozen_kept hW (show w.heap.size + 1 < _ by simp)).trans (frozen_newt w _ _ _ _ _ _ i), (frozen_kept hW (show w.heap.size + 1 + 1 < _ by simp)).trans (chain3m w _ _ _ _ _ _ i).2.2.2⟩
  go_enter Tryz.func95, Tryz.ntmps95
  go_wp2_with fail
  refine (C1 _).mono ?_
  rintro e w1 ⟨rfl, hb1⟩
  have HBw1 : Hid (Below w.heap.size w w1) := ((((Below.refl _ _).alloc (Nat.le_refl _) _).alloc (by simp) _).alloc (by simp; omega) _).trans (hb1.mono (by simp; omega))
  have HSw1 : Hid (w.heap.size + 3 ≤ w1.heap.size) := by have := hb1.size; simp at this; show _ ≤ _; omega
  have ht := HT.out _ hb1
  clear hb1
  have w1s6 : w1.cell? ⟨w.heap.size, 6, none⟩ = some (.int .i64 a') := (ht 6).1
  have w1s7 : w1.cell? ⟨w.heap.size, 7, none⟩ = some (.int .i64 b') := (ht 7).1
  have w1s8 : w1.cell? ⟨w.heap.size, 8, none⟩ = some (.int .i64 c') := (ht 8).1
  have w1s9 : w1.cell? ⟨w.heap.size, 9, none⟩ = some (.int .i64 d') := (ht 9).1
  have w1s10 : w1.cell? ⟨w.heap.size, 10, none⟩ = some (.int .i64 f') := (ht 10).1
  have w1s11 : w1.cell? ⟨w.heap.size, 11, none⟩ = some (.int .i64 k') := (ht 11).1
  have w1r0 : w1.cell? ⟨w.heap.size + 1, 0, none⟩ = some (.int .i64 0) := (ht 0).2.1
  have w1c0 : w1.cell? ⟨w.heap.size + 1 + 1, 0, none⟩ = some (.int .i64 0) := (ht 0).2.2.1
  have w1f0 : w1.frozen? ⟨w.heap.size + 1, 0, none⟩ = false := (ht 0).2.2.2.1
  have w1g0 : w1.frozen? ⟨w.heap.size + 1 + 1, 0, none⟩ = false := (ht 0).2.2.2.2
  have w1r1 : w1.cell? ⟨w.heap.size + 1, 1, none⟩ = some (.int .i64 0) := (ht 1).2.1
  have w1c1 : w1.cell? ⟨w.heap.size + 1 + 1, 1, none⟩ = some (.int .i64 0) := (ht 1).2.2.1
  have w1f1 : w1.frozen? ⟨w.heap.size + 1, 1, none⟩ = false := (ht 1).2.2.2.1
  have w1g1 : w1.frozen? ⟨w.heap.size + 1 + 1, 1, none⟩ = false := (ht 1).2.2.2.2
  have w1r2 : w1.cell? ⟨w.heap.size + 1, 2, none⟩ = some (.int .i64 0) := (ht 2).2.1
  have w1c2 : w1.cell? ⟨w.heap.size + 1 + 1, 2, none⟩ = some (.int .i64 0) := (ht 2).2.2.1
  have w1f2 : w1.frozen? ⟨w.heap.size + 1, 2, none⟩ = false := (ht 2).2.2.2.1
  have w1g2 : w1.frozen? ⟨w.heap.size + 1 + 1, 2, none⟩ = false := (ht 2).2.2.2.2
  have w1r3 : w1.cell? ⟨w.heap.size + 1, 3, none⟩ = some (.int .i64 0) := (ht 3).2.1
  have w1c3 : w1.cell? ⟨w.heap.size + 1 + 1, 3, none⟩ = some (.int .i64 0) := (ht 3).2.2.1
  have w1f3 : w1.frozen? ⟨w.heap.size + 1, 3, none⟩ = false := (ht 3).2.2.2.1
  have w1g3 : w1.frozen? ⟨w.heap.size + 1 + 1, 3, none⟩ = false := (ht 3).2.2.2.2
  have w1r4 : w1.cell? ⟨w.heap.size + 1, 4, none⟩ = some (.int .i64 0) := (ht 4).2.1
  have w1c4 : w1.cell? ⟨w.heap.size + 1 + 1, 4, none⟩ = some (.int .i64 0) := (ht 4).2.2.1
  have w1f4 : w1.frozen? ⟨w.heap.size + 1, 4, none⟩ = false := (ht 4).2.2.2.1
  have w1g4 : w1.frozen? ⟨w.heap.size + 1 + 1, 4, none⟩ = false := (ht 4).2.2.2.2
  have w1r5 : w1.cell? ⟨w.heap.size + 1, 5, none⟩ = some (.int .i64 0) := (ht 5).2.1
  have w1c5 : w1.cell? ⟨w.heap.size + 1 + 1, 5, none⟩ = some (.int .i64 0) := (ht 5).2.2.1
  have w1f5 : w1.frozen? ⟨w.heap.size + 1, 5, none⟩ = false := (ht 5).2.2.2.1
  have w1g5 : w1.frozen? ⟨w.heap.size + 1 + 1, 5, none⟩ = false := (ht 5).2.2.2.2
  have w1r6 : w1.cell? ⟨w.heap.size + 1, 6, none⟩ = some (.int .i64 0) := (ht 6).2.1
  have w1c6 : w1.cell? ⟨w.heap.size + 1 + 1, 6, none⟩ = some (.int .i64 0) := (ht 6).2.2.1
  have w1f6 : w1.frozen? ⟨w.heap.size + 1, 6, none⟩ = false := (ht 6).2.2.2.1
  have w1g6 : w1.frozen? ⟨w.heap.size + 1 + 1, 6, none⟩ = false := (ht 6).2.2.2.2
  have w1r7 : w1.cell? ⟨w.heap.size + 1, 7, none⟩ = some (.int .i64 0) := (ht 7).2.1
  have w1c7 : w1.cell? ⟨w.heap.size + 1 + 1, 7, none⟩ = some (.int .i64 0) := (ht 7).2.2.1
  have w1f7 : w1.frozen? ⟨w.heap.size + 1, 7, none⟩ = false := (ht 7).2.2.2.1
  have w1g7 : w1.frozen? ⟨w.heap.size + 1 + 1, 7, none⟩ = false := (ht 7).2.2.2.2
  have w1r8 : w1.cell? ⟨w.heap.size + 1, 8, none⟩ = some (.int .i64 0) := (ht 8).2.1
  have w1c8 : w1.cell? ⟨w.heap.size + 1 + 1, 8, none⟩ = some (.int .i64 0) := (ht 8).2.2.1
  have w1f8 : w1.frozen? ⟨w.heap.size + 1, 8, none⟩ = false := (ht 8).2.2.2.1
  have w1g8 : w1.frozen? ⟨w.heap.size + 1 + 1, 8, none⟩ = false := (ht 8).2.2.2.2
  have w1r9 : w1.cell? ⟨w.heap.size + 1, 9, none⟩ = some (.int .i64 0) := (ht 9).2.1
  have w1c9 : w1.cell? ⟨w.heap.size + 1 + 1, 9, none⟩ = some (.int .i64 0) := (ht 9).2.2.1
  have w1f9 : w1.frozen? ⟨w.heap.size + 1, 9, none⟩ = false := (ht 9).2.2.2.1
  have w1g9 : w1.frozen? ⟨w.heap.size + 1 + 1, 9, none⟩ = false := (ht 9).2.2.2.2
  have w1r10 : w1.cell? ⟨w.heap.size + 1, 10, none⟩ = some (.int .i64 0) := (ht 10).2.1
  have w1c10 : w1.cell? ⟨w.heap.size + 1 + 1, 10, none⟩ = some (.int .i64 0) := (ht 10).2.2.1
  have w1f10 : w1.frozen? ⟨w.heap.size + 1, 10, none⟩ = false := (ht 10).2.2.2.1
  have w1g10 : w1.frozen? ⟨w.heap.size + 1 + 1, 10, none⟩ = false := (ht 10).2.2.2.2
  have w1r11 : w1.cell? ⟨w.heap.size + 1, 11, none⟩ = some (.int .i64 0) := (ht 11).2.1
  have w1c11 : w1.cell? ⟨w.heap.size + 1 + 1, 11, none⟩ = some (.int .i64 0) := (ht 11).2.2.1
  have w1f11 : w1.frozen? ⟨w.heap.size + 1, 11, none⟩ = false := (ht 11).2.2.2.1
  have w1g11 : w1.frozen? ⟨w.heap.size + 1 + 1, 11, none⟩ = false := (ht 11).2.2.2.2
  clear ht HT
  have hs1 := HSw1.out
  obtain ⟨w2, hw2⟩ : ∃ u, u = sets w1 (w.heap.size + 1 + 1) 0 [.int .i64 a, .int .i64 b, .int .i64 c, .int .i64 d, .int .i64 f, .int .i64 k] := ⟨_, rfl⟩
  have haw2 := sets_at (w.heap.size + 1 + 1) [Value.int .i64 a, .int .i64 b, .int .i64 c, .int .i64 d, .int .i64 f, .int .i64 k] w1 0 (fun j hj => by
    match j, hj with
    | 0, _ => exact ⟨_, w1c0⟩
    | 1, _ => exact ⟨_, w1c1⟩
    | 2, _ => exact ⟨_, w1c2⟩
    | 3, _ => exact ⟨_, w1c3⟩
    | 4, _ => exact ⟨_, w1c4⟩
    | 5, _ => exact ⟨_, w1c5⟩)
  rw [← hw2] at haw2
  have w2c0 : w2.cell? ⟨w.heap.size + 1 + 1, 0, none⟩ = some (.int .i64 a) := by simpa using haw2 0 _ rfl
  have w2c1 : w2.cell? ⟨w.heap.size + 1 + 1, 1, none⟩ = some (.int .i64 b) := by simpa using haw2 1 _ rfl
  have w2c2 : w2.cell? ⟨w.heap.size + 1 + 1, 2, none⟩ = some (.int .i64 c) := by simpa using haw2 2 _ rfl
  have w2c3 : w2.cell? ⟨w.heap.size + 1 + 1, 3, none⟩ = some (.int .i64 d) := by simpa using haw2 3 _ rfl
  have w2c4 : w2.cell? ⟨w.heap.size + 1 + 1, 4, none⟩ = some (.int .i64 f) := by simpa using haw2 4 _ rfl
  have w2c5 : w2.cell? ⟨w.heap.size + 1 + 1, 5, none⟩ = some (.int .i64 k) := by simpa using haw2 5 _ rfl
  have w2s6 : w2.cell? ⟨w.heap.size, 6, none⟩ = some (.int .i64 a') := by rw [hw2, sets_far (w.heap.size + 1 + 1) (show w.heap.size ≠ w.heap.size + 1 + 1 by omega)]; exact w1s6
  have w2s7 : w2.cell? ⟨w.heap.size, 7, none⟩ = some (.int .i64 b') := by rw [hw2, sets_far (w.heap.size + 1 + 1) (show w.heap.size ≠ w.heap.size + 1 + 1 by omega)]; exact w1s7
  have w2s8 : w2.cell? ⟨w.heap.size, 8, none⟩ = some (.int .i64 c') := by rw [hw2, sets_far (w.heap.size + 1 + 1) (show w.heap.size ≠ w.heap.size + 1 + 1 by omega)]; exact w1s8
  have w2s9 : w2.cell? ⟨w.heap.size, 9, none⟩ = some (.int .i64 d') := by rw [hw2, sets_far (w.heap.size + 1 + 1) (show w.heap.size ≠ w.heap.size + 1 + 1 by omega)]; exact w1s9
  have w2s10 : w2.cell? ⟨w.heap.size, 10, none⟩ = some (.int .i64 f') := by rw [hw2, sets_far (w.heap.size + 1 + 1) (show w.heap.size ≠ w.heap.size + 1 + 1 by omega)]; exact w1s10
  have w2s11 : w2.cell? ⟨w.heap.size, 11, none⟩ = some (.int .i64 k') := by rw [hw2, sets_far (w.heap.size + 1 + 1) (show w.heap.size ≠ w.heap.size + 1 + 1 by omega)]; exact w1s11
  have w2r0 : w2.cell? ⟨w.heap.size + 1, 0, none⟩ = some (.int .i64 0) := by rw [hw2, sets_far (w.heap.size + 1 + 1) (show w.heap.size + 1 ≠ w.heap.size + 1 + 1 by omega)]; exact w1r0
  have w2r1 : w2.cell? ⟨w.heap.size + 1, 1, none⟩ = some (.int .i64 0) := by rw [hw2, sets_far (w.heap.size + 1 + 1) (show w.heap.size + 1 ≠ w.heap.size + 1 + 1 by omega)]; exact w1r1
  have w2r2 : w2.cell? ⟨w.heap.size + 1, 2, none⟩ = some (.int .i64 0) := by rw [hw2, sets_far (w.heap.size + 1 + 1) (show w.heap.size + 1 ≠ w.heap.size + 1 + 1 by omega)]; exact w1r2
  have w2r3 : w2.cell? ⟨w.heap.size + 1, 3, none⟩ = some (.int .i64 0) := by rw [hw2, sets_far (w.heap.size + 1 + 1) (show w.heap.size + 1 ≠ w.heap.size + 1 + 1 by omega)]; exact w1r3
  have w2r4 : w2.cell? ⟨w.heap.size + 1, 4, none⟩ = some (.int .i64 0) := by rw [hw2, sets_far (w.heap.size + 1 + 1) (show w.heap.size + 1 ≠ w.heap.size + 1 + 1 by omega)]; exact w1r4
  have w2r5 : w2.cell? ⟨w.heap.size + 1, 5, none⟩ = some (.int .i64 0) := by rw [hw2, sets_far (w.heap.size + 1 + 1) (show w.heap.size + 1 ≠ w.heap.size + 1 + 1 by omega)]; exact w1r5
  have w2r6 : w2.cell? ⟨w.heap.size + 1, 6, none⟩ = some (.int .i64 0) := by rw [hw2, sets_far (w.heap.size + 1 + 1) (show w.heap.size + 1 ≠ w.heap.size + 1 + 1 by omega)]; exact w1r6
  have w2r7 : w2.cell? ⟨w.heap.size + 1, 7, none⟩ = some (.int .i64 0) := by rw [hw2, sets_far (w.heap.size + 1 + 1) (show w.heap.size + 1 ≠ w.heap.size + 1 + 1 by omega)]; exact w1r7
  have w2r8 : w2.cell? ⟨w.heap.size + 1, 8, none⟩ = some (.int .i64 0) := by rw [hw2, sets_far (w.heap.size + 1 + 1) (show w.heap.size + 1 ≠ w.heap.size + 1 + 1 by omega)]; exact w1r8
  have w2r9 : w2.cell? ⟨w.heap.size + 1, 9, none⟩ = some (.int .i64 0) := by rw [hw2, sets_far (w.heap.size + 1 + 1) (show w.heap.size + 1 ≠ w.heap.size + 1 + 1 by omega)]; exact w1r9
  have w2r10 : w2.cell? ⟨w.heap.size + 1, 10, none⟩ = some (.int .i64 0) := by rw [hw2, sets_far (w.heap.size + 1 + 1) (show w.heap.size + 1 ≠ w.heap.size + 1 + 1 by omega)]; exact w1r10
  have w2r11 : w2.cell? ⟨w.heap.size + 1, 11, none⟩ = some (.int .i64 0) := by rw [hw2, sets_far (w.heap.size + 1 + 1) (show w.heap.size + 1 ≠ w.heap.size + 1 + 1 by omega)]; exact w1r11
  have w2f0 : w2.frozen? ⟨w.heap.size + 1, 0, none⟩ = false := by rw [hw2, sets_frozen]; exact w1f0
  have w2f1 : w2.frozen? ⟨w.heap.size + 1, 1, none⟩ = false := by rw [hw2, sets_frozen]; exact w1f1
  have w2f2 : w2.frozen? ⟨w.heap.size + 1, 2, none⟩ = false := by rw [hw2, sets_frozen]; exact w1f2
  have w2f3 : w2.frozen? ⟨w.heap.size + 1, 3, none⟩ = false := by rw [hw2, sets_frozen]; exact w1f3
  have w2f4 : w2.frozen? ⟨w.heap.size + 1, 4, none⟩ = false := by rw [hw2, sets_frozen]; exact w1f4
  have w2f5 : w2.frozen? ⟨w.heap.size + 1, 5, none⟩ = false := by rw [hw2, sets_frozen]; exact w1f5
  have w2f6 : w2.frozen? ⟨w.heap.size + 1, 6, none⟩ = false := by rw [hw2, sets_frozen]; exact w1f6
  have w2f7 : w2.frozen? ⟨w.heap.size + 1, 7, none⟩ = false := by rw [hw2, sets_frozen]; exact w1f7
  have w2f8 : w2.frozen? ⟨w.heap.size + 1, 8, none⟩ = false := by rw [hw2, sets_frozen]; exact w1f8
  have w2f9 : w2.frozen? ⟨w.heap.size + 1, 9, none⟩ = false := by rw [hw2, sets_frozen]; exact w1f9
  have w2f10 : w2.frozen? ⟨w.heap.size + 1, 10, none⟩ = false := by rw [hw2, sets_frozen]; exact w1f10
  have w2f11 : w2.frozen? ⟨w.heap.size + 1, 11, none⟩ = false := by rw [hw2, sets_frozen]; exact w1f11
  have w2g0 : w2.frozen? ⟨w.heap.size + 1 + 1, 0, none⟩ = false := by rw [hw2, sets_frozen]; exact w1g0
  have w2g1 : w2.frozen? ⟨w.heap.size + 1 + 1, 1, none⟩ = false := by rw [hw2, sets_frozen]; exact w1g1
  have w2g2 : w2.frozen? ⟨w.heap.size + 1 + 1, 2, none⟩ = false := by rw [hw2, sets_frozen]; exact w1g2
  have w2g3 : w2.frozen? ⟨w.heap.size + 1 + 1, 3, none⟩ = false := by rw [hw2, sets_frozen]; exact w1g3
  have w2g4 : w2.frozen? ⟨w.heap.size + 1 + 1, 4, none⟩ = false := by rw [hw2, sets_frozen]; exact w1g4
  have w2g5 : w2.frozen? ⟨w.heap.size + 1 + 1, 5, none⟩ = false := by rw [hw2, sets_frozen]; exact w1g5
  have w2g6 : w2.frozen? ⟨w.heap.size + 1 + 1, 6, none⟩ = false := by rw [hw2, sets_frozen]; exact w1g6
  have w2g7 : w2.frozen? ⟨w.heap.size + 1 + 1, 7, none⟩ = false := by rw [hw2, sets_frozen]; exact w1g7
  have w2g8 : w2.frozen? ⟨w.heap.size + 1 + 1, 8, none⟩ = false := by rw [hw2, sets_frozen]; exact w1g8
  have w2g9 : w2.frozen? ⟨w.heap.size + 1 + 1, 9, none⟩ = false := by rw [hw2, sets_frozen]; exact w1g9
  have w2g10 : w2.frozen? ⟨w.heap.size + 1 + 1, 10, none⟩ = false := by rw [hw2, sets_frozen]; exact w1g10
  have w2g11 : w2.frozen? ⟨w.heap.size + 1 + 1, 11, none⟩ = false := by rw [hw2, sets_frozen]; exact w1g11
  have HBw2 : Hid (Below w.heap.size w w2) := by show Below _ _ _; rw [hw2]; exact sets_below (by omega) _ _ _ HBw1.out
  have HSw2 : Hid (w.heap.size + 3 ≤ w2.heap.size) := by show _ ≤ _; rw [hw2, sets_size]; exact HSw1.out
  have HWw2 : Hid (sets w1 (w.heap.size + 1 + 1) 0 [.int .i64 a, .int .i64 b, .int .i64 c, .int .i64 d, .int .i64 f, .int .i64 k] = w2) := hw2.symm
  clear haw2 hw2
  have w2c6 : w2.cell? ⟨w.heap.size + 1 + 1, 6, none⟩ = some (.int .i64 0) := by rw [← HWw2.out, sets_high (w.heap.size + 1 + 1) 6 _ _ _ (by simp)]; exact w1c6
  have w2c7 : w2.cell? ⟨w.heap.size + 1 + 1, 7, none⟩ = some (.int .i64 0) := by rw [← HWw2.out, sets_high (w.heap.size + 1 + 1) 7 _ _ _ (by simp)]; exact w1c7
  have w2c8 : w2.cell? ⟨w.heap.size + 1 + 1, 8, none⟩ = some (.int .i64 0) := by rw [← HWw2.out, sets_high (w.heap.size + 1 + 1) 8 _ _ _ (by simp)]; exact w1c8
  have w2c9 : w2.cell? ⟨w.heap.size + 1 + 1, 9, none⟩ = some (.int .i64 0) := by rw [← HWw2.out, sets_high (w.heap.size + 1 + 1) 9 _ _ _ (by simp)]; exact w1c9
  have w2c10 : w2.cell? ⟨w.heap.size + 1 + 1, 10, none⟩ = some (.int .i64 0) := by rw [← HWw2.out, sets_high (w.heap.size + 1 + 1) 10 _ _ _ (by simp)]; exact w1c10
  have w2c11 : w2.cell? ⟨w.heap.size + 1 + 1, 11, none⟩ = some (.int .i64 0) := by rw [← HWw2.out, sets_high (w.heap.size + 1 + 1) 11 _ _ _ (by simp)]; exact w1c11
  clear w1s6 w1s7 w1s8 w1s9 w1s10 w1s11 w1r0 w1r1 w1r2 w1r3 w1r4 w1r5 w1r6 w1r7 w1r8 w1r9 w1r10 w1r11 w1f0 w1f1 w1f2 w1f3 w1f4 w1f5 w1f6 w1f7 w1f8 w1f9 w1f10 w1f11
  go_wp2_with (rw [show ((((((w1.setCell ⟨w.heap.size + 1 + 1, 0, none⟩ (.int .i64 a)).setCell ⟨w.heap.size + 1 + 1, 1, none⟩ (.int .i64 b)).setCell ⟨w.heap.size + 1 + 1, 2, none⟩ (.int .i64 c)).setCell ⟨w.heap.size + 1 + 1, 3, none⟩ (.int .i64 d)).setCell ⟨w.heap.size + 1 + 1, 4, none⟩ (.int .i64 f)).setCell ⟨w.heap.size + 1 + 1, 5, none⟩ (.int .i64 k)) = w2 from HWw2.out])
  refine (C2 _).mono ?_
  rintro e w3 ⟨rfl, hb3⟩
  have hs2 := HSw2.out
  clear w1c0 w1c1 w1c2 w1c3 w1c4 w1c5 w1c6 w1c7 w1c8 w1c9 w1c10 w1c11 w1g0 w1g1 w1g2 w1g3 w1g4 w1g5 w1g6 w1g7 w1g8 w1g9 w1g10 w1g11
  have HBw3 : Hid (Below w.heap.size w w3) := HBw2.out.trans (hb3.mono HBw2.out.size)
  have HSw3 : Hid (w.heap.size + 3 ≤ w3.heap.size) := Nat.le_trans hs2 hb3.size
  have w3c0 : w3.cell? ⟨w.heap.size + 1 + 1, 0, none⟩ = some (.int .i64 a) := (hb3.cell (p := ⟨w.heap.size + 1 + 1, 0, none⟩) (by simp; omega)).trans w2c0
  have w3c1 : w3.cell? ⟨w.heap.size + 1 + 1, 1, none⟩ = some (.int .i64 b) := (hb3.cell (p := ⟨w.heap.size + 1 + 1, 1, none⟩) (by simp; omega)).trans w2c1
  have w3c2 : w3.cell? ⟨w.heap.size + 1 + 1, 2, none⟩ = some (.int .i64 c) := (hb3.cell (p := ⟨w.heap.size + 1 + 1, 2, none⟩) (by simp; omega)).trans w2c2
  have w3c3 : w3.cell? ⟨w.heap.size + 1 + 1, 3, none⟩ = some (.int .i64 d) := (hb3.cell (p := ⟨w.heap.size + 1 + 1, 3, none⟩) (by simp; omega)).trans w2c3
  have w3c4 : w3.cell? ⟨w.heap.size + 1 + 1, 4, none⟩ = some (.int .i64 f) := (hb3.cell (p := ⟨w.heap.size + 1 + 1, 4, none⟩) (by simp; omega)).trans w2c4
  have w3c5 : w3.cell? ⟨w.heap.size + 1 + 1, 5, none⟩ = some (.int .i64 k) := (hb3.cell (p := ⟨w.heap.size + 1 + 1, 5, none⟩) (by simp; omega)).trans w2c5
  have w3c6 : w3.cell? ⟨w.heap.size + 1 + 1, 6, none⟩ = some (.int .i64 0) := (hb3.cell (p := ⟨w.heap.size + 1 + 1, 6, none⟩) (by simp; omega)).trans w2c6
  have w3c7 : w3.cell? ⟨w.heap.size + 1 + 1, 7, none⟩ = some (.int .i64 0) := (hb3.cell (p := ⟨w.heap.size + 1 + 1, 7, none⟩) (by simp; omega)).trans w2c7
  have w3c8 : w3.cell? ⟨w.heap.size + 1 + 1, 8, none⟩ = some (.int .i64 0) := (hb3.cell (p := ⟨w.heap.size + 1 + 1, 8, none⟩) (by simp; omega)).trans w2c8
  have w3c9 : w3.cell? ⟨w.heap.size + 1 + 1, 9, none⟩ = some (.int .i64 0) := (hb3.cell (p := ⟨w.heap.size + 1 + 1, 9, none⟩) (by simp; omega)).trans w2c9
  have w3c10 : w3.cell? ⟨w.heap.size + 1 + 1, 10, none⟩ = some (.int .i64 0) := (hb3.cell (p := ⟨w.heap.size + 1 + 1, 10, none⟩) (by simp; omega)).trans w2c10
  have w3c11 : w3.cell? ⟨w.heap.size + 1 + 1, 11, none⟩ = some (.int .i64 0) := (hb3.cell (p := ⟨w.heap.size + 1 + 1, 11, none⟩) (by simp; omega)).trans w2c11
  have w3r0 : w3.cell? ⟨w.heap.size + 1, 0, none⟩ = some (.int .i64 0) := (hb3.cell (p := ⟨w.heap.size + 1, 0, none⟩) (by simp; omega)).trans w2r0
  have w3f0 : w3.frozen? ⟨w.heap.size + 1, 0, none⟩ = false := (frozen_kept hb3 (by simp; omega)).trans w2f0
  have w3g0 : w3.frozen? ⟨w.heap.size + 1 + 1, 0, none⟩ = false := (frozen_kept hb3 (by simp; omega)).trans w2g0
  have w3r1 : w3.cell? ⟨w.heap.size + 1, 1, none⟩ = some (.int .i64 0) := (hb3.cell (p := ⟨w.heap.size + 1, 1, none⟩) (by simp; omega)).trans w2r1
  have w3f1 : w3.frozen? ⟨w.heap.size + 1, 1, none⟩ = false := (frozen_kept hb3 (by simp; omega)).trans w2f1
  have w3g1 : w3.frozen? ⟨w.heap.size + 1 + 1, 1, none⟩ = false := (frozen_kept hb3 (by simp; omega)).trans w2g1
  have w3r2 : w3.cell? ⟨w.heap.size + 1, 2, none⟩ = some (.int .i64 0) := (hb3.cell (p := ⟨w.heap.size + 1, 2, none⟩) (by simp; omega)).trans w2r2
  have w3f2 : w3.frozen? ⟨w.heap.size + 1, 2, none⟩ = false := (frozen_kept hb3 (by simp; omega)).trans w2f2
  have w3g2 : w3.frozen? ⟨w.heap.size + 1 + 1, 2, none⟩ = false := (frozen_kept hb3 (by simp; omega)).trans w2g2
  have w3r3 : w3.cell? ⟨w.heap.size + 1, 3, none⟩ = some (.int .i64 0) := (hb3.cell (p := ⟨w.heap.size + 1, 3, none⟩) (by simp; omega)).trans w2r3
  have w3f3 : w3.frozen? ⟨w.heap.size + 1, 3, none⟩ = false := (frozen_kept hb3 (by simp; omega)).trans w2f3
  have w3g3 : w3.frozen? ⟨w.heap.size + 1 + 1, 3, none⟩ = false := (frozen_kept hb3 (by simp; omega)).trans w2g3
  have w3r4 : w3.cell? ⟨w.heap.size + 1, 4, none⟩ = some (.int .i64 0) := (hb3.cell (p := ⟨w.heap.size + 1, 4, none⟩) (by simp; omega)).trans w2r4
  have w3f4 : w3.frozen? ⟨w.heap.size + 1, 4, none⟩ = false := (frozen_kept hb3 (by simp; omega)).trans w2f4
  have w3g4 : w3.frozen? ⟨w.heap.size + 1 + 1, 4, none⟩ = false := (frozen_kept hb3 (by simp; omega)).trans w2g4
  have w3r5 : w3.cell? ⟨w.heap.size + 1, 5, none⟩ = some (.int .i64 0) := (hb3.cell (p := ⟨w.heap.size + 1, 5, none⟩) (by simp; omega)).trans w2r5
  have w3f5 : w3.frozen? ⟨w.heap.size + 1, 5, none⟩ = false := (frozen_kept hb3 (by simp; omega)).trans w2f5
  have w3g5 : w3.frozen? ⟨w.heap.size + 1 + 1, 5, none⟩ = false := (frozen_kept hb3 (by simp; omega)).trans w2g5
  have w3r6 : w3.cell? ⟨w.heap.size + 1, 6, none⟩ = some (.int .i64 0) := (hb3.cell (p := ⟨w.heap.size + 1, 6, none⟩) (by simp; omega)).trans w2r6
  have w3f6 : w3.frozen? ⟨w.heap.size + 1, 6, none⟩ = false := (frozen_kept hb3 (by simp; omega)).trans w2f6
  have w3g6 : w3.frozen? ⟨w.heap.size + 1 + 1, 6, none⟩ = false := (frozen_kept hb3 (by simp; omega)).trans w2g6
  have w3r7 : w3.cell? ⟨w.heap.size + 1, 7, none⟩ = some (.int .i64 0) := (hb3.cell (p := ⟨w.heap.size + 1, 7, none⟩) (by simp; omega)).trans w2r7
  have w3f7 : w3.frozen? ⟨w.heap.size + 1, 7, none⟩ = false := (frozen_kept hb3 (by simp; omega)).trans w2f7
  have w3g7 : w3.frozen? ⟨w.heap.size + 1 + 1, 7, none⟩ = false := (frozen_kept hb3 (by simp; omega)).trans w2g7
  have w3r8 : w3.cell? ⟨w.heap.size + 1, 8, none⟩ = some (.int .i64 0) := (hb3.cell (p := ⟨w.heap.size + 1, 8, none⟩) (by simp; omega)).trans w2r8
  have w3f8 : w3.frozen? ⟨w.heap.size + 1, 8, none⟩ = false := (frozen_kept hb3 (by simp; omega)).trans w2f8
  have w3g8 : w3.frozen? ⟨w.heap.size + 1 + 1, 8, none⟩ = false := (frozen_kept hb3 (by simp; omega)).trans w2g8
  have w3r9 : w3.cell? ⟨w.heap.size + 1, 9, none⟩ = some (.int .i64 0) := (hb3.cell (p := ⟨w.heap.size + 1, 9, none⟩) (by simp; omega)).trans w2r9
  have w3f9 : w3.frozen? ⟨w.heap.size + 1, 9, none⟩ = false := (frozen_kept hb3 (by simp; omega)).trans w2f9
  have w3g9 : w3.frozen? ⟨w.heap.size + 1 + 1, 9, none⟩ = false := (frozen_kept hb3 (by simp; omega)).trans w2g9
  have w3r10 : w3.cell? ⟨w.heap.size + 1, 10, none⟩ = some (.int .i64 0) := (hb3.cell (p := ⟨w.heap.size + 1, 10, none⟩) (by simp; omega)).trans w2r10
  have w3f10 : w3.frozen? ⟨w.heap.size + 1, 10, none⟩ = false := (frozen_kept hb3 (by simp; omega)).trans w2f10
  have w3g10 : w3.frozen? ⟨w.heap.size + 1 + 1, 10, none⟩ = false := (frozen_kept hb3 (by simp; omega)).trans w2g10
  have w3r11 : w3.cell? ⟨w.heap.size + 1, 11, none⟩ = some (.int .i64 0) := (hb3.cell (p := ⟨w.heap.size + 1, 11, none⟩) (by simp; omega)).trans w2r11
  have w3f11 : w3.frozen? ⟨w.heap.size + 1, 11, none⟩ = false := (frozen_kept hb3 (by simp; omega)).trans w2f11
  have w3g11 : w3.frozen? ⟨w.heap.size + 1 + 1, 11, none⟩ = false := (frozen_kept hb3 (by simp; omega)).trans w2g11
  have hs3 := HSw3.out
  clear hb3 w2s6 w2s7 w2s8 w2s9 w2s10 w2s11 w2r0 w2r1 w2r2 w2r3 w2r4 w2r5 w2r6 w2r7 w2r8 w2r9 w2r10 w2r11 w2c0 w2c1 w2c2 w2c3 w2c4 w2c5 w2c6 w2c7 w2c8 w2c9 w2c10 w2c11 w2f0 w2f1 w2f2 w2f3 w2f4 w2f5 w2f6 w2f7 w2f8 w2f9 w2f10 w2f11 w2g0 w2g1 w2g2 w2g3 w2g4 w2g5 w2g6 w2g7 w2g8 w2g9 w2g10 w2g11
  obtain ⟨w4, hw4⟩ : ∃ u, u = sets w3 (w.heap.size + 1 + 1) 6 [.int .i64 a', .int .i64 b', .int .i64 c', .int .i64 d', .int .i64 f', .int .i64 k'] := ⟨_, rfl⟩
  have haw4 := sets_at (w.heap.size + 1 + 1) [Value.int .i64 a', .int .i64 b', .int .i64 c', .int .i64 d', .int .i64 f', .int .i64 k'] w3 6 (fun j hj => by
    match j, hj with
    | 0, _ => exact ⟨_, w3c6⟩
    | 1, _ => exact ⟨_, w3c7⟩
    | 2, _ => exact ⟨_, w3c8⟩
    | 3, _ => exact ⟨_, w3c9⟩
    | 4, _ => exact ⟨_, w3c10⟩
    | 5, _ => exact ⟨_, w3c11⟩)
  rw [← hw4] at haw4
  have w4c6 : w4.cell? ⟨w.heap.size + 1 + 1, 6, none⟩ = some (.int .i64 a') := by simpa using haw4 0 _ rfl
  have w4c7 : w4.cell? ⟨w.heap.size + 1 + 1, 7, none⟩ = some (.int .i64 b') := by simpa using haw4 1 _ rfl
  have w4c8 : w4.cell? ⟨w.heap.size + 1 + 1, 8, none⟩ = some (.int .i64 c') := by simpa using haw4 2 _ rfl
  have w4c9 : w4.cell? ⟨w.heap.size + 1 + 1, 9, none⟩ = some (.int .i64 d') := by simpa using haw4 3 _ rfl
  have w4c10 : w4.cell? ⟨w.heap.size + 1 + 1, 10, none⟩ = some (.int .i64 f') := by simpa using haw4 4 _ rfl
  have w4c11 : w4.cell? ⟨w.heap.size + 1 + 1, 11, none⟩ = some (.int .i64 k') := by simpa using haw4 5 _ rfl
  have w4c0 : w4.cell? ⟨w.heap.size + 1 + 1, 0, none⟩ = some (.int .i64 a) := by rw [hw4, sets_low (w.heap.size + 1 + 1) 0 _ _ _ (by omega)]; exact w3c0
  have w4c1 : w4.cell? ⟨w.heap.size + 1 + 1, 1, none⟩ = some (.int .i64 b) := by rw [hw4, sets_low (w.heap.size + 1 + 1) 1 _ _ _ (by omega)]; exact w3c1
  have w4c2 : w4.cell? ⟨w.heap.size + 1 + 1, 2, none⟩ = some (.int .i64 c) := by rw [hw4, sets_low (w.heap.size + 1 + 1) 2 _ _ _ (by omega)]; exact w3c2
  have w4c3 : w4.cell? ⟨w.heap.size + 1 + 1, 3, none⟩ = some (.int .i64 d) := by rw [hw4, sets_low (w.heap.size + 1 + 1) 3 _ _ _ (by omega)]; exact w3c3
  have w4c4 : w4.cell? ⟨w.heap.size + 1 + 1, 4, none⟩ = some (.int .i64 f) := by rw [hw4, sets_low (w.heap.size + 1 + 1) 4 _ _ _ (by omega)]; exact w3c4
  have w4c5 : w4.cell? ⟨w.heap.size + 1 + 1, 5, none⟩ = some (.int .i64 k) := by rw [hw4, sets_low (w.heap.size + 1 + 1) 5 _ _ _ (by omega)]; exact w3c5
  have w4r0 : w4.cell? ⟨w.heap.size + 1, 0, none⟩ = some (.int .i64 0) := by rw [hw4, sets_far (w.heap.size + 1 + 1) (show w.heap.size + 1 ≠ w.heap.size + 1 + 1 by omega)]; exact w3r0
  have w4r1 : w4.cell? ⟨w.heap.size + 1, 1, none⟩ = some (.int .i64 0) := by rw [hw4, sets_far (w.heap.size + 1 + 1) (show w.heap.size + 1 ≠ w.heap.size + 1 + 1 by omega)]; exact w3r1
  have w4r2 : w4.cell? ⟨w.heap.size + 1, 2, none⟩ = some (.int .i64 0) := by rw [hw4, sets_far (w.heap.size + 1 + 1) (show w.heap.size + 1 ≠ w.heap.size + 1 + 1 by omega)]; exact w3r2
  have w4r3 : w4.cell? ⟨w.heap.size + 1, 3, none⟩ = some (.int .i64 0) := by rw [hw4, sets_far (w.heap.size + 1 + 1) (show w.heap.size + 1 ≠ w.heap.size + 1 + 1 by omega)]; exact w3r3
  have w4r4 : w4.cell? ⟨w.heap.size + 1, 4, none⟩ = some (.int .i64 0) := by rw [hw4, sets_far (w.heap.size + 1 + 1) (show w.heap.size + 1 ≠ w.heap.size + 1 + 1 by omega)]; exact w3r4
  have w4r5 : w4.cell? ⟨w.heap.size + 1, 5, none⟩ = some (.int .i64 0) := by rw [hw4, sets_far (w.heap.size + 1 + 1) (show w.heap.size + 1 ≠ w.heap.size + 1 + 1 by omega)]; exact w3r5
  have w4r6 : w4.cell? ⟨w.heap.size + 1, 6, none⟩ = some (.int .i64 0) := by rw [hw4, sets_far (w.heap.size + 1 + 1) (show w.heap.size + 1 ≠ w.heap.size + 1 + 1 by omega)]; exact w3r6
  have w4r7 : w4.cell? ⟨w.heap.size + 1, 7, none⟩ = some (.int .i64 0) := by rw [hw4, sets_far (w.heap.size + 1 + 1) (show w.heap.size + 1 ≠ w.heap.size + 1 + 1 by omega)]; exact w3r7
  have w4r8 : w4.cell? ⟨w.heap.size + 1, 8, none⟩ = some (.int .i64 0) := by rw [hw4, sets_far (w.heap.size + 1 + 1) (show w.heap.size + 1 ≠ w.heap.size + 1 + 1 by omega)]; exact w3r8
  have w4r9 : w4.cell? ⟨w.heap.size + 1, 9, none⟩ = some (.int .i64 0) := by rw [hw4, sets_far (w.heap.size + 1 + 1) (show w.heap.size + 1 ≠ w.heap.size + 1 + 1 by omega)]; exact w3r9
  have w4r10 : w4.cell? ⟨w.heap.size + 1, 10, none⟩ = some (.int .i64 0) := by rw [hw4, sets_far (w.heap.size + 1 + 1) (show w.heap.size + 1 ≠ w.heap.size + 1 + 1 by omega)]; exact w3r10
  have w4r11 : w4.cell? ⟨w.heap.size + 1, 11, none⟩ = some (.int .i64 0) := by rw [hw4, sets_far (w.heap.size + 1 + 1) (show w.heap.size + 1 ≠ w.heap.size + 1 + 1 by omega)]; exact w3r11
  have w4f0 : w4.frozen? ⟨w.heap.size + 1, 0, none⟩ = false := by rw [hw4, sets_frozen]; exact w3f0
  have w4f1 : w4.frozen? ⟨w.heap.size + 1, 1, none⟩ = false := by rw [hw4, sets_frozen]; exact w3f1
  have w4f2 : w4.frozen? ⟨w.heap.size + 1, 2, none⟩ = false := by rw [hw4, sets_frozen]; exact w3f2
  have w4f3 : w4.frozen? ⟨w.heap.size + 1, 3, none⟩ = false := by rw [hw4, sets_frozen]; exact w3f3
  have w4f4 : w4.frozen? ⟨w.heap.size + 1, 4, none⟩ = false := by rw [hw4, sets_frozen]; exact w3f4
  have w4f5 : w4.frozen? ⟨w.heap.size + 1, 5, none⟩ = false := by rw [hw4, sets_frozen]; exact w3f5
  have w4f6 : w4.frozen? ⟨w.heap.size + 1, 6, none⟩ = false := by rw [hw4, sets_frozen]; exact w3f6
  have w4f7 : w4.frozen? ⟨w.heap.size + 1, 7, none⟩ = false := by rw [hw4, sets_frozen]; exact w3f7
  have w4f8 : w4.frozen? ⟨w.heap.size + 1, 8, none⟩ = false := by rw [hw4, sets_frozen]; exact w3f8
  have w4f9 : w4.frozen? ⟨w.heap.size + 1, 9, none⟩ = false := by rw [hw4, sets_frozen]; exact w3f9
  have w4f10 : w4.frozen? ⟨w.heap.size + 1, 10, none⟩ = false := by rw [hw4, sets_frozen]; exact w3f10
  have w4f11 : w4.frozen? ⟨w.heap.size + 1, 11, none⟩ = false := by rw [hw4, sets_frozen]; exact w3f11
  have HBw4 : Hid (Below w.heap.size w w4) := by show Below _ _ _; rw [hw4]; exact sets_below (by omega) _ _ _ HBw3.out
  have HSw4 : Hid (w.heap.size + 3 ≤ w4.heap.size) := by show _ ≤ _; rw [hw4, sets_size]; exact HSw3.out
  have HWw4 : Hid (sets w3 (w.heap.size + 1 + 1) 6 [.int .i64 a', .int .i64 b', .int .i64 c', .int .i64 d', .int .i64 f', .int .i64 k'] = w4) := hw4.symm
  clear haw4 hw4
  have hs4 := HSw4.out
  obtain ⟨w5, hw5⟩ : ∃ u, u = sets w4 (w.heap.size + 1) 0 [.int .i64 a, .int .i64 b, .int .i64 c, .int .i64 d, .int .i64 f, .int .i64 k, .int .i64 a', .int .i64 b', .int .i64 c', .int .i64 d', .int .i64 f', .int .i64 k'] := ⟨_, rfl⟩
  have haw5 := sets_at (w.heap.size + 1) [Value.int .i64 a, .int .i64 b, .int .i64 c, .int .i64 d, .int .i64 f, .int .i64 k, .int .i64 a', .int .i64 b', .int .i64 c', .int .i64 d', .int .i64 f', .int .i64 k'] w4 0 (fun j hj => by
    match j, hj with
    | 0, _ => exact ⟨_, w4r0⟩
    | 1, _ => exact ⟨_, w4r1⟩
    | 2, _ => exact ⟨_, w4r2⟩
    | 3, _ => exact ⟨_, w4r3⟩
    | 4, _ => exact ⟨_, w4r4⟩
    | 5, _ => exact ⟨_, w4r5⟩
    | 6, _ => exact ⟨_, w4r6⟩
    | 7, _ => exact ⟨_, w4r7⟩
    | 8, _ => exact ⟨_, w4r8⟩
    | 9, _ => exact ⟨_, w4r9⟩
    | 10, _ => exact ⟨_, w4r10⟩
    | 11, _ => exact ⟨_, w4r11⟩)
  rw [← hw5] at haw5
  have w5c0 : w5.cell? ⟨w.heap.size + 1, 0, none⟩ = some (.int .i64 a) := by simpa using haw5 0 _ rfl
  have w5c1 : w5.cell? ⟨w.heap.size + 1, 1, none⟩ = some (.int .i64 b) := by simpa using haw5 1 _ rfl
  have w5c2 : w5.cell? ⟨w.heap.size + 1, 2, none⟩ = some (.int .i64 c) := by simpa using haw5 2 _ rfl
  have w5c3 : w5.cell? ⟨w.heap.size + 1, 3, none⟩ = some (.int .i64 d) := by simpa using haw5 3 _ rfl
  have w5c4 : w5.cell? ⟨w.heap.size + 1, 4, none⟩ = some (.int .i64 f) := by simpa using haw5 4 _ rfl
  have w5c5 : w5.cell? ⟨w.heap.size + 1, 5, none⟩ = some (.int .i64 k) := by simpa using haw5 5 _ rfl
  have w5c6 : w5.cell? ⟨w.heap.size + 1, 6, none⟩ = some (.int .i64 a') := by simpa using haw5 6 _ rfl
  have w5c7 : w5.cell? ⟨w.heap.size + 1, 7, none⟩ = some (.int .i64 b') := by simpa using haw5 7 _ rfl
  have w5c8 : w5.cell? ⟨w.heap.size + 1, 8, none⟩ = some (.int .i64 c') := by simpa using haw5 8 _ rfl
  have w5c9 : w5.cell? ⟨w.heap.size + 1, 9, none⟩ = some (.int .i64 d') := by simpa using haw5 9 _ rfl
  have w5c10 : w5.cell? ⟨w.heap.size + 1, 10, none⟩ = some (.int .i64 f') := by simpa using haw5 10 _ rfl
  have w5c11 : w5.cell? ⟨w.heap.size + 1, 11, none⟩ = some (.int .i64 k') := by simpa using haw5 11 _ rfl
  have HBw5 : Hid (Below w.heap.size w w5) := by show Below _ _ _; rw [hw5]; exact sets_below (by omega) _ _ _ HBw4.out
  have HSw5 : Hid (w.heap.size + 3 ≤ w5.heap.size) := by show _ ≤ _; rw [hw5, sets_size]; exact HSw4.out
  have HWw5 : Hid (sets w4 (w.heap.size + 1) 0 [.int .i64 a, .int .i64 b, .int .i64 c, .int .i64 d, .int .i64 f, .int .i64 k, .int .i64 a', .int .i64 b', .int .i64 c', .int .i64 d', .int .i64 f', .int .i64 k'] = w5) := hw5.symm
  clear haw5 hw5
  clear w3r0 w3r1 w3r2 w3r3 w3r4 w3r5 w3r6 w3r7 w3r8 w3r9 w3r10 w3r11 w3f0 w3f1 w3f2 w3f3 w3f4 w3f5 w3f6 w3f7 w3f8 w3f9 w3f10 w3f11
  go_wp2_with (first | rw [show ((((((w3.setCell ⟨w.heap.size + 1 + 1, 6, none⟩ (.int .i64 a')).setCell ⟨w.heap.size + 1 + 1, 7, none⟩ (.int .i64 b')).setCell ⟨w.heap.size + 1 + 1, 8, none⟩ (.int .i64 c')).setCell ⟨w.heap.size + 1 + 1, 9, none⟩ (.int .i64 d')).setCell ⟨w.heap.size + 1 + 1, 10, none⟩ (.int .i64 f')).setCell ⟨w.heap.size + 1 + 1, 11, none⟩ (.int .i64 k')) = w4 from HWw4.out] | rw [show ((((((((((((w4.setCell ⟨w.heap.size + 1, 0, none⟩ (.int .i64 a)).setCell ⟨w.heap.size + 1, 1, none⟩ (.int .i64 b)).setCell ⟨w.heap.size + 1, 2, none⟩ (.int .i64 c)).setCell ⟨w.heap.size + 1, 3, none⟩ (.int .i64 d)).setCell ⟨w.heap.size + 1, 4, none⟩ (.int .i64 f)).setCell ⟨w.heap.size + 1, 5, none⟩ (.int .i64 k)).setCell ⟨w.heap.size + 1, 6, none⟩ (.int .i64 a')).setCell ⟨w.heap.size + 1, 7, none⟩ (.int .i64 b')).setCell ⟨w.heap.size + 1, 8, none⟩ (.int .i64 c')).setCell ⟨w.heap.size + 1, 9, none⟩ (.int .i64 d')).setCell ⟨w.heap.size + 1, 10, none⟩ (.int .i64 f')).setCell ⟨w.heap.size + 1, 11, none⟩ (.int .i64 k')) = w5 from HWw5.out])
  refine bodyPost_ret (v := .agg #[.int .i64 a, .int .i64 b, .int .i64 c, .int .i64 d, .int .i64 f, .int .i64 k, .int .i64 a', .int .i64 b', .int .i64 c', .int .i64 d', .int .i64 f', .int .i64 k']) (by simp [results, Tryz.results95, go_sem, w5c0, w5c1, w5c2, w5c3, w5c4, w5c5, w5c6, w5c7, w5c8, w5c9, w5c10, w5c11]) rfl ⟨rfl, HBw5.out⟩
end Go.Proofs.YtfhknkppiidnkaaGreat
