/- Arguments that are structs of numbers, opened. -/
import Derived.Test.YtjibpapjfdjecacMaA
import Derived.WideShapes
namespace Go.Proofs.Ytjibpapjfdjecac
open Go.RowKit Go.WideShapes

theorem agg_ints {P : Program} {W : World} {r : Reach} {base : Nat} {t : TypeId} {v : Value} {fs : Array Field} (ts : List TypeId) (ht : P.underlying t = some (.struct fs)) (hts : P.cellTypes P.depth t = some ts) (hi : ∀ u ∈ ts, P.underlying u = some (.int .i64)) (h : Value.okWide P W r base t v) :
    ∃ zs : List Int, zs.length = P.cellsOf t ∧ v = .agg (zs.map (Value.int .i64)).toArray := by
  simp only [Value.okWide, ht] at h
  obtain ⟨cs, rfl, hsz, ts', h1, _, h3⟩ := h
  rw [hts] at h1
  cases h1
  have hc : ∀ x ∈ cs.toList, ∃ n, x = Value.int .i64 n := by
    intro x hx
    obtain ⟨i, hi', e⟩ := List.mem_iff_getElem.1 hx
    obtain ⟨u, hu, ho⟩ := h3 i x (by rw [← e]; simp)
    have hm : u ∈ ts := List.mem_of_getElem? hu
    have := okWide_int (P := P) (w := W) (r := r) (base := base) (t := u) (v := x) (hi u hm) (by simp only [Value.okWide, hi u hm]; exact ho)
    exact this
  refine ⟨cs.toList.map intOf, by rw [List.length_map, Array.length_toList]; exact hsz, ?_⟩
  congr 1
  rw [List.map_map]
  have : cs.toList.map (Value.int .i64 ∘ intOf) = cs.toList := by
    conv => rhs; rw [← List.map_id cs.toList]
    refine List.map_congr_left fun x hx => ?_
    obtain ⟨n, rfl⟩ := hc x hx
    rfl
  rw [this]
theorem mc_of (zs : List Int) (h : zs.length = 12) : ∃ m : M.Mc, Value.agg (zs.map (Value.int .i64)).toArray = mcv m := by
  match zs, h with
  | [a, b, c, d, f, k, a', b', c', d', f', k'], _ => exact ⟨⟨⟨a, b, c, d, f, k⟩, ⟨a', b', c', d', f', k'⟩⟩, rfl⟩
theorem st_of (zs : List Int) (h : zs.length = 2) : ∃ s : Int × Int, Value.agg (zs.map (Value.int .i64)).toArray = stv s := by
  match zs, h with
  | [x, y], _ => exact ⟨(x, y), rfl⟩
theorem i64_list (n : Nat) (u : TypeId) (hu : u ∈ List.replicate n 2) : Try.prog.underlying u = some (.int .i64) := by
  have e := List.eq_of_mem_replicate hu
  rw [e]; exact Try.underlying2
end Go.Proofs.Ytjibpapjfdjecac
