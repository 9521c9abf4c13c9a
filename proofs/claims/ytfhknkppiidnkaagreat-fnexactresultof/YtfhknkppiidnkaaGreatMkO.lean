/- A market that came in, opened. -/
import Derived.Test.YtfhknkppiidnkaaGreatOpA
import Derived.Test.YtfhknkppiidnkaaGreatMkA
import Derived.Test.YtfhknkppiidnkaaGreatSlB
namespace Go.Proofs.YtfhknkppiidnkaaGreat
open Go.RowKit Go.ChangeShapes Go.WideShapes Go.Deep

theorem ints_part {H : Type} {enc : TypeId × Value → H} {W : World} {v : Value} (h : ∃ fuel y, DataW.trod enc Tryz.prog W 0 (fun _ => true) true fuel 24 [v] = some y) : ∃ a n c z, v = .slice a n c ∧ Sees W a n c z := by
  obtain ⟨fuel, y, hf⟩ := h
  rcases open_ints Tryz.underlying24 Tryz.underlying2 (by kernel_rfl) hf with ⟨hcs, _⟩ | ⟨x, l, c, zs, hcs, _, hl, hm, hz, _, hcell, hwz⟩
  · simp at hcs
    subst hcs
    exact ⟨none, 0, 0, [], rfl, rfl, by omega, by omega, fun _ => ⟨rfl, rfl⟩, .inl rfl⟩
  · simp at hcs
    subst hcs
    exact ⟨some x, l, c, _, rfl, sees_of_row (.inr ⟨_, rfl, hl, hm, by simpa using hz, hcell, hwz⟩)⟩
set_option maxRecDepth 10000 in
theorem tasks_part {H : Type} {enc : TypeId × Value → H} {W : World} {v : Value} (h : ∃ fuel y, DataW.trod enc Tryz.prog W 0 (fun _ => true) true fuel 135 [v] = some y) : ∃ a n c z, v = .slice a n c ∧ SeesT W a n c z := by
  obtain ⟨fuel, y, hf⟩ := h
  rcases Go.Deep.open_slice Tryz.underlying135 hf with ⟨hcs, _⟩ | ⟨x, n, c, m, nn, D, Pl, hcs, _, hl, hm, hmm, _, hx⟩
  · simp at hcs
    subst hcs
    exact ⟨none, 0, 0, [], rfl, rfl, by omega, by omega, fun _ => ⟨rfl, rfl⟩, .inl rfl⟩
  · simp at hcs
    subst hcs
    have hmc : m = c := by simpa using hmm
    subst hmc
    have ce : Tryz.prog.cellsOf 196 = 3 := by kernel_rfl
    have each : ∀ i, i < m → ∃ q : M.Tk, ∀ j, j < 3 → W.cell? (x.add (i * 3 + j)) = (tvs q)[j]? := by
      intro i hi
      obtain ⟨cs', h1, h2⟩ := hx i hi
      rw [ce] at h1
      obtain ⟨_, hlen, hcell⟩ := World.cells?_some h1
      have P0 := part_all h2 3 (by omega)
      obtain ⟨x0, e0⟩ := (P0.field Tryz.underlying196 0 _ rfl 1 (by kernel_rfl) (by decide)).bool Tryz.underlying4
      obtain ⟨x1, e1, -⟩ := (P0.field Tryz.underlying196 1 _ rfl 1 (by kernel_rfl) (by decide)).int Tryz.underlying2
      obtain ⟨x2, e2, -⟩ := (P0.field Tryz.underlying196 2 _ rfl 1 (by kernel_rfl) (by decide)).int Tryz.underlying2
      refine ⟨⟨x0, x1, x2⟩, fun j hj => ?_⟩
      have hc := hcell j (by omega)
      rw [add_add] at hc
      rw [hc]
      have hj3 : j = 0 ∨ j = 1 ∨ j = 2 := by omega
      rcases hj3 with rfl | rfl | rfl
      · exact e0
      · exact e1
      · exact e2
    haveI : Inhabited (M.Tk) := ⟨M.t0⟩
    obtain ⟨q, hq⟩ := Go.Deep.choose_lt each
    refine ⟨some x, n, m, (List.range n).map q, rfl, by simp, hl, (by unfold maxLen at hm; omega), (fun h => by cases h), ?_⟩
    by_cases h0 : n = 0
    · exact .inl h0
    · obtain ⟨b, off, spot⟩ := x
      have hspot : spot = none := by
        have := hq 0 (by omega) 0 (by omega)
        simpa [Addr.add] using World.cell?_spot (this.trans rfl)
      subst hspot
      refine .inr ⟨b, off, rfl, fun i hi j hj => ?_⟩
      have hg : ((List.range n).map q).getD i M.t0 = q i := by rw [List.getD_eq_getElem?_getD]; simp [hi]
      rw [hg]
      have := hq i (by omega) j hj
      rw [Go.WideShapes.add_plain, ← Nat.add_assoc] at this
      exact this
set_option maxRecDepth 10000 in
theorem jobs_part {H : Type} {enc : TypeId × Value → H} {W : World} {v : Value} (h : ∃ fuel y, DataW.trod enc Tryz.prog W 0 (fun _ => true) true fuel 46 [v] = some y) : ∃ a n c z, v = .slice a n c ∧ SeesJ W a n c z := by
  obtain ⟨fuel, y, hf⟩ := h
  rcases Go.Deep.open_slice Tryz.underlying46 hf with ⟨hcs, _⟩ | ⟨x, n, c, m, nn, D, Pl, hcs, _, hl, hm, hmm, _, hx⟩
  · simp at hcs
    subst hcs
    exact ⟨none, 0, 0, [], rfl, rfl, by omega, by omega, fun _ => ⟨rfl, rfl⟩, .inl rfl⟩
  · simp at hcs
    subst hcs
    have hmc : m = c := by simpa using hmm
    subst hmc
    have ce : Tryz.prog.cellsOf 137 = 18 := by kernel_rfl
    have each : ∀ i, i < m → ∃ q : M.Jb × Option Addr × Nat, (∀ j, j < 18 → W.cell? (x.add (i * 18 + j)) = (jvs q.1 q.2.1 q.2.2)[j]?) ∧ SeesT W q.2.1 q.1.ts.length q.2.2 q.1.ts := by
      intro i hi
      obtain ⟨cs', h1, h2⟩ := hx i hi
      rw [ce] at h1
      obtain ⟨_, hlen, hcell⟩ := World.cells?_some h1
      have P0 := part_all h2 18 (by omega)
      obtain ⟨i0, ie0, -⟩ := (P0.field Tryz.underlying137 0 _ rfl 1 (by kernel_rfl) (by decide)).int Tryz.underlying2
      have PM := P0.field Tryz.underlying137 1 _ rfl 12 (by kernel_rfl) (by decide)
      have PX := PM.field Tryz.underlying133 0 _ rfl 6 (by kernel_rfl) (by decide)
      have PY := PM.field Tryz.underlying133 1 _ rfl 6 (by kernel_rfl) (by decide)
      obtain ⟨x0, xe0, -⟩ := (PX.field Tryz.underlying131 0 _ rfl 1 (by kernel_rfl) (by decide)).int Tryz.underlying2
      obtain ⟨x1, xe1, -⟩ := (PX.field Tryz.underlying131 1 _ rfl 1 (by kernel_rfl) (by decide)).int Tryz.underlying2
      obtain ⟨x2, xe2, -⟩ := (PX.field Tryz.underlying131 2 _ rfl 1 (by kernel_rfl) (by decide)).int Tryz.underlying2
      obtain ⟨x3, xe3, -⟩ := (PX.field Tryz.underlying131 3 _ rfl 1 (by kernel_rfl) (by decide)).int Tryz.underlying2
      obtain ⟨x4, xe4, -⟩ := (PX.field Tryz.underlying131 4 _ rfl 1 (by kernel_rfl) (by decide)).int Tryz.underlying2
      obtain ⟨x5, xe5, -⟩ := (PX.field Tryz.underlying131 5 _ rfl 1 (by kernel_rfl) (by decide)).int Tryz.underlying2
      obtain ⟨y0, ye0, -⟩ := (PY.field Tryz.underlying131 0 _ rfl 1 (by kernel_rfl) (by decide)).int Tryz.underlying2
      obtain ⟨y1, ye1, -⟩ := (PY.field Tryz.underlying131 1 _ rfl 1 (by kernel_rfl) (by decide)).int Tryz.underlying2
      obtain ⟨y2, ye2, -⟩ := (PY.field Tryz.underlying131 2 _ rfl 1 (by kernel_rfl) (by decide)).int Tryz.underlying2
      obtain ⟨y3, ye3, -⟩ := (PY.field Tryz.underlying131 3 _ rfl 1 (by kernel_rfl) (by decide)).int Tryz.underlying2
      obtain ⟨y4, ye4, -⟩ := (PY.field Tryz.underlying131 4 _ rfl 1 (by kernel_rfl) (by decide)).int Tryz.underlying2
      obtain ⟨y5, ye5, -⟩ := (PY.field Tryz.underlying131 5 _ rfl 1 (by kernel_rfl) (by decide)).int Tryz.underlying2
      have PS := P0.field Tryz.underlying137 2 _ rfl 2 (by kernel_rfl) (by decide)
      obtain ⟨s0, se0, -⟩ := (PS.field Tryz.underlying134 0 _ rfl 1 (by kernel_rfl) (by decide)).int Tryz.underlying2
      obtain ⟨s1, se1, -⟩ := (PS.field Tryz.underlying134 1 _ rfl 1 (by kernel_rfl) (by decide)).int Tryz.underlying2
      obtain ⟨r0, re0, -⟩ := (P0.field Tryz.underlying137 3 _ rfl 1 (by kernel_rfl) (by decide)).int Tryz.underlying2
      obtain ⟨g0, ge0⟩ := (P0.field Tryz.underlying137 4 _ rfl 1 (by kernel_rfl) (by decide)).bool Tryz.underlying4
      obtain ⟨vt, te0, tt⟩ := (P0.field Tryz.underlying137 5 _ rfl 1 (by kernel_rfl) (by decide)).whole (by rw [hlen]; decide)
      obtain ⟨ta, tn, tc, tz, rfl, hT⟩ := tasks_part tt
      have hTl := hT.len
      refine ⟨(⟨i0, ⟨⟨x0, x1, x2, x3, x4, x5⟩, ⟨y0, y1, y2, y3, y4, y5⟩⟩, (s0, s1), r0, g0, tz⟩, ta, tc), fun j hj => ?_, by dsimp only; rw [hTl]; exact hT⟩
      have hc := hcell j (by omega)
      rw [add_add] at hc
      rw [hc]
      dsimp only [jvs]
      rw [hTl]
      match j, hj with
      | 0, _ => exact ie0
      | 1, _ => exact xe0
      | 2, _ => exact xe1
      | 3, _ => exact xe2
      | 4, _ => exact xe3
      | 5, _ => exact xe4
      | 6, _ => exact xe5
      | 7, _ => exact ye0
      | 8, _ => exact ye1
      | 9, _ => exact ye2
      | 10, _ => exact ye3
      | 11, _ => exact ye4
      | 12, _ => exact ye5
      | 13, _ => exact se0
      | 14, _ => exact se1
      | 15, _ => exact re0
      | 16, _ => exact ge0
      | 17, _ => exact te0
      | j + 18, h => exact absurd h (by omega)
    haveI : Inhabited (M.Jb × Option Addr × Nat) := ⟨(M.j0, none, 0)⟩
    obtain ⟨q, hq⟩ := Go.Deep.choose_lt each
    refine ⟨some x, n, m, ((List.range n).map fun i => (q i).1), rfl, by simp, hl, (by unfold maxLen at hm; omega), (fun h => by cases h), ?_⟩
    by_cases h0 : n = 0
    · exact .inl h0
    · obtain ⟨b, off, spot⟩ := x
      have hspot : spot = none := by
        have := (hq 0 (by omega)).1 0 (by omega)
        simpa [Addr.add] using World.cell?_spot (this.trans rfl)
      subst hspot
      refine .inr ⟨b, off, rfl, fun i hi => ?_⟩
      have hg : ((List.range n).map fun i => (q i).1).getD i M.j0 = (q i).1 := by rw [List.getD_eq_getElem?_getD]; simp [hi]
      rw [hg]
      refine ⟨(q i).2.1, (q i).2.2, fun j hj => ?_, (hq i (by omega)).2⟩
      have := (hq i (by omega)).1 j hj
      rw [Go.WideShapes.add_plain, ← Nat.add_assoc] at this
      exact this
theorem list4 {l : List Value} (h : l.length = 4) : ∃ a b c d, l = [a, b, c, d] := by
  match l, h with
  | [a, b, c, d], _ => exact ⟨a, b, c, d, rfl⟩
set_option maxRecDepth 10000 in
theorem open_market {H : Type} {enc : TypeId × Value → H} {W : World} {base : Nat} {v : Value} {d : DataW H} {p : List MemPlace} (ho : Value.okWide Tryz.prog W .any base 48 v) (h : DataW.Trod enc Tryz.prog W 0 (fun _ => true) true 48 v d p) :
    ∃ (now next : Int) (ab : Option Addr) (nb cb : Nat) (aj : Option Addr) (nj cj : Nat) (bs : List Int) (js : List M.Jb), v = .agg #[.int .i64 now, .int .i64 next, .slice ab nb cb, .slice aj nj cj] ∧ SeesM W ab nb cb aj nj cj bs js := by
  simp only [Value.okWide, Tryz.underlying48] at ho
  obtain ⟨cs, rfl, hsz, -⟩ := ho
  have ce : Tryz.prog.cellsOf 48 = 4 := by kernel_rfl
  rw [ce] at hsz
  obtain ⟨l⟩ := cs
  obtain ⟨fuel, hf⟩ := h
  have hf : DataW.trod enc Tryz.prog W 0 (fun _ => true) true fuel 48 l = some (d, p) := hf
  have hl : l.length = 4 := hsz
  have P0 := part_all hf 4 (by omega)
  obtain ⟨now, g0, -⟩ := (P0.field Tryz.underlying48 0 _ rfl 1 (by kernel_rfl) (by decide)).int Tryz.underlying2
  obtain ⟨next, g1, -⟩ := (P0.field Tryz.underlying48 1 _ rfl 1 (by kernel_rfl) (by decide)).int Tryz.underlying2
  obtain ⟨v2, g2, t2⟩ := (P0.field Tryz.underlying48 2 _ rfl 1 (by kernel_rfl) (by decide)).whole (by rw [hl]; decide)
  obtain ⟨v3, g3, t3⟩ := (P0.field Tryz.underlying48 3 _ rfl 1 (by kernel_rfl) (by decide)).whole (by rw [hl]; decide)
  obtain ⟨ab, nb, cb, bs, rfl, h2⟩ := ints_part t2
  obtain ⟨aj, nj, cj, js, rfl, h3⟩ := jobs_part t3
  clear t2 t3 P0 hf
  obtain ⟨x0, x1, x2, x3, rfl⟩ := list4 hl
  obtain rfl := Option.some.inj (show some x0 = some _ from g0)
  obtain rfl := Option.some.inj (show some x1 = some _ from g1)
  obtain rfl := Option.some.inj (show some x2 = some _ from g2)
  obtain rfl := Option.some.inj (show some x3 = some _ from g3)
  exact ⟨now, next, ab, nb, cb, aj, nj, cj, bs, js, rfl, h2, h3⟩
end Go.Proofs.YtfhknkppiidnkaaGreat
