/- Arguments that are structs of numbers, opened. What the laws make of their arguments: machines and states. -/
import Derived.Test.YtbcfjbkmkknmfaaDoorMaA
import Derived.WideShapes
import Derived.Test.YtbcfjbkmkknmfaaDoorMaS
namespace Go.Proofs.YtbcfjbkmkknmfaaDoor
open Go.RowKit Go.WideShapes

theorem agg_ints {P : Program} {W : World} {r : Reach} {base : Nat} {t : TypeId} {v : Value} {fs : Array Field} (ts : List TypeId) (ht : P.underlying t = some (.struct fs)) (hts : P.cellTypes P.depth t = some ts) (hi : ∀ u ∈ ts, P.underlying u = some (.int .i64)) (h : Value.okWide P W r base t v) :
    ∃ zs : List Int, zs.length = P.cellsOf t ∧ v = .agg (zs.map (Value.int .i64)).toArray := by
  simp only [Value.okWide, ht] at h
  obtain ⟨cs, rfl, hsz, ts', h1, _, h3⟩ := h
  rw [hts] at h1
  cases h1
  have hc : ∀ x ∈ cs.toList, ∃ n, x = Value.int .i64 n := by
    intro x hx
    obtain ⟨i, hi', e⟩ := List.mem_iff_getElem.1 hx
    obtain ⟨u, hu, ho⟩ := h3 i x (by rw [← e]; simp)
    have hm : u ∈ ts := List.mem_of_getElem? hu
    have := okWide_int (P := P) (w := W) (r := r) (base := base) (t := u) (v := x) (hi u hm) (by simp only [Value.okWide, hi u hm]; exact ho)
    exact this
  refine ⟨cs.toList.map intOf, by rw [List.length_map, Array.length_toList]; exact hsz, ?_⟩
  congr 1
  rw [List.map_map]
  have : cs.toList.map (Value.int .i64 ∘ intOf) = cs.toList := by
    conv => rhs; rw [← List.map_id cs.toList]
    refine List.map_congr_left fun x hx => ?_
    obtain ⟨n, rfl⟩ := hc x hx
    rfl
  rw [this]
theorem mc_of (zs : List Int) (h : zs.length = 12) : ∃ m : M.Mc, Value.agg (zs.map (Value.int .i64)).toArray = mcv m := by
  match zs, h with
  | [a, b, c, d, f, k, a', b', c', d', f', k'], _ => exact ⟨⟨⟨a, b, c, d, f, k⟩, ⟨a', b', c', d', f', k'⟩⟩, rfl⟩
theorem st_of (zs : List Int) (h : zs.length = 2) : ∃ s : Int × Int, Value.agg (zs.map (Value.int .i64)).toArray = stv s := by
  match zs, h with
  | [x, y], _ => exact ⟨(x, y), rfl⟩
theorem i64_list (n : Nat) (u : TypeId) (hu : u ∈ List.replicate n 2) : Tryd.prog.underlying u = some (.int .i64) := by
  have e := List.eq_of_mem_replicate hu
  rw [e]; exact Tryd.underlying2
set_option maxRecDepth 10000 in
theorem open_state {W : World} {r : Reach} {base : Nat} {v : Value} (h : Value.okWide Tryd.prog W r base 23 v) : ∃ s : Int × Int, v = stv s := by
  obtain ⟨zs, hl, rfl⟩ := agg_ints (List.replicate 2 2) Tryd.underlying23 (by kernel_rfl) (i64_list _) h
  exact st_of zs (hl.trans (by kernel_rfl))
end Go.Proofs.YtbcfjbkmkknmfaaDoor
namespace Go.Proofs.YtbcfjbkmkknmfaaDoor
open Go.RowKit

theorem frozen_newt (w : World) (A B C : Array Value) (t1 t2 t3 : TypeId) (i : Nat) :
    (((w.alloc (.cells A t1)).alloc (.cells B t2)).alloc (.cells C t3)).frozen? ⟨w.heap.size + 1, i, none⟩ = false := by
  rw [frozen?_alloc_cells, frozen?_alloc_cells, frozen?_alloc_cells]; simp only [World.frozen?]; rw [Array.getElem?_eq_none (by omega)]
theorem sets_high (B j : Nat) : ∀ (vs : List Value) (W : World) (i : Nat), i + vs.length ≤ j → (sets W B i vs).cell? ⟨B, j, none⟩ = W.cell? ⟨B, j, none⟩
  | [], _, _, _ => rfl
  | v :: vs, W, i, h => (sets_high B j vs (W.setCell ⟨B, i, none⟩ v) (i + 1) (by simp at h; omega)).trans (World.cell?_setCell_other (w := W) (a := ⟨B, i, none⟩) (b := ⟨B, j, none⟩) (v := v) (h := by intro e; simp only [Addr.mk.injEq] at e; simp at h; omega))
theorem alloc_keptm {w w' : World} {t : TypeId} {x y : Value} (hb : Below (w.alloc (.cells #[x, y] t)).heap.size (w.alloc (.cells #[x, y] t)) w') : w'.cell? ⟨w.heap.size, 0, none⟩ = some x ∧ w'.cell? ⟨w.heap.size, 1, none⟩ = some y ∧ w'.frozen? ⟨w.heap.size, 0, none⟩ = false ∧ w'.frozen? ⟨w.heap.size, 1, none⟩ = false := by
  have hs : w.heap.size < (w.alloc (.cells #[x, y] t)).heap.size := by simp
  refine ⟨(hb.cell (p := ⟨w.heap.size, 0, none⟩) hs).trans ?_, (hb.cell (p := ⟨w.heap.size, 1, none⟩) hs).trans ?_, (hb.frozen (p := ⟨w.heap.size, 0, none⟩) hs).trans ?_, (hb.frozen (p := ⟨w.heap.size, 1, none⟩) hs).trans ?_⟩
  · rw [World.cell?_alloc_new]; rfl
  · rw [World.cell?_alloc_new]; rfl
  · rw [frozen?_alloc_cells]; simp [World.frozen?]
  · rw [frozen?_alloc_cells]; simp [World.frozen?]
theorem cells_keptm {w w' : World} {p : Nat} {x y : Value} (hb : Below w.heap.size w w') (h : w.cell? ⟨p, 0, none⟩ = some x ∧ w.cell? ⟨p, 1, none⟩ = some y ∧ w.frozen? ⟨p, 0, none⟩ = false ∧ w.frozen? ⟨p, 1, none⟩ = false) : w'.cell? ⟨p, 0, none⟩ = some x ∧ w'.cell? ⟨p, 1, none⟩ = some y ∧ w'.frozen? ⟨p, 0, none⟩ = false ∧ w'.frozen? ⟨p, 1, none⟩ = false := by
  have hs : p < w.heap.size := World.block_lt_of_cell? w _ h.1
  exact ⟨(hb.cell (p := ⟨p, 0, none⟩) hs).trans h.1, (hb.cell (p := ⟨p, 1, none⟩) hs).trans h.2.1, (hb.frozen (p := ⟨p, 0, none⟩) hs).trans h.2.2.1, (hb.frozen (p := ⟨p, 1, none⟩) hs).trans h.2.2.2⟩
theorem leafA {B : Nat} {a W : World} {t : TypeId} {u v : Value} (hb : Below B a W) (hB : B ≤ a.heap.size) :
    Below B a (W.alloc (.cells #[u, v] t)) ∧ ((W.alloc (.cells #[u, v] t)).cell? ⟨W.heap.size, 0, none⟩ = some u ∧ (W.alloc (.cells #[u, v] t)).cell? ⟨W.heap.size, 1, none⟩ = some v) ∧ (∀ q : Addr, q.block < W.heap.size → (W.alloc (.cells #[u, v] t)).cell? q = W.cell? q) ∧ W.heap.size < (W.alloc (.cells #[u, v] t)).heap.size :=
  ⟨hb.alloc (Nat.le_trans hB hb.size) _, ⟨by rw [World.cell?_alloc_new]; rfl, by rw [World.cell?_alloc_new]; rfl⟩, fun q hq => World.cell?_alloc_lt (w := W) (o := .cells #[u, v] t) (a := q) (h := hq), by simp⟩
theorem leafS {B p : Nat} {a W : World} {u v x y : Value} (hb : Below B a W) (hp : B ≤ p) (h0 : W.cell? ⟨p, 0, none⟩ = some x) (h1 : W.cell? ⟨p, 1, none⟩ = some y) :
    Below B a ((W.setCell ⟨p, 0, none⟩ u).setCell ⟨p, 1, none⟩ v) ∧ (((W.setCell ⟨p, 0, none⟩ u).setCell ⟨p, 1, none⟩ v).cell? ⟨p, 0, none⟩ = some u ∧ ((W.setCell ⟨p, 0, none⟩ u).setCell ⟨p, 1, none⟩ v).cell? ⟨p, 1, none⟩ = some v) ∧ (∀ q : Addr, q.block ≠ p → ((W.setCell ⟨p, 0, none⟩ u).setCell ⟨p, 1, none⟩ v).cell? q = W.cell? q) ∧ p < ((W.setCell ⟨p, 0, none⟩ u).setCell ⟨p, 1, none⟩ v).heap.size := by
  have ha := sets_at p [u, v] W 0 (fun j hj => by
    match j, hj with
    | 0, _ => exact ⟨_, h0⟩
    | 1, _ => exact ⟨_, h1⟩)
  refine ⟨(hb.setCell hp _).setCell hp _, ⟨ha 0 u rfl, ha 1 v rfl⟩, fun q hq => sets_far p hq [u, v] W 0, ?_⟩
  have := World.block_lt_of_cell? W _ h0
  have e := sets_size p [u, v] W 0
  exact Nat.lt_of_lt_of_eq this e.symm
set_option maxHeartbeats 2000000 in
theorem toState_any (s : Int × Int) (w : World) : Calls Tryd.prog 17 #[stv s] w fun e w' => e = .returned (stv s) ∧ Below w.heap.size w w' := by
  obtain ⟨x, y⟩ := s
  dsimp only [stv]
  go_enter Tryd.func17, Tryd.ntmps17
  go_wp2
  refine bodyPost_ret (v := .agg #[.int .i64 x, .int .i64 y]) (by simp [results, Tryd.results17, go_sem]) rfl ⟨rfl, ?_⟩
  exact (((Below.refl _ _).alloc (Nat.le_refl _) _).alloc (by simp) _).alloc (by simp; omega) _
end Go.Proofs.YtbcfjbkmkknmfaaDoor
