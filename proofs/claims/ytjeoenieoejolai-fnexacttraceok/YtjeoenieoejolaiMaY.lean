/- A slice of states that came in, opened. -/
import Derived.Test.YtjeoenieoejolaiMaP
import Derived.Test.YtjeoenieoejolaiMaO
import Derived.Deep.SlicePairs
import Derived.OpenShut
namespace Go.Proofs.Ytjeoenieoejolai
open Go.RowKit Go.ChangeShapes Go.WideShapes

theorem seesQ_open {H : Type} {enc : TypeId × Value → H} {P : Program} {W : World} {t e : TypeId} {f0 f1 : Field} {d : DataW H} {p : List MemPlace} {a : Option Addr} {n c : Nat}
    (ht : P.underlying t = some (.slice e)) (he : P.underlying e = some (.struct #[f0, f1])) (ce : P.cellsOf e = 2) (o0 : f0.offset = 0) (o1 : f1.offset = 1) (c0 : P.cellsOf f0.type = 1) (c1 : P.cellsOf f1.type = 1)
    (i0 : P.underlying f0.type = some (.int .i64)) (i1 : P.underlying f1.type = some (.int .i64))
    (h : DataW.Trod enc P W 0 (fun _ => true) true t (.slice a n c) d p) : ∃ ps, SeesQ W a n c ps := by
  obtain ⟨fuel, hf⟩ := h
  rcases Go.Deep.open_slice_pairs ht he ce o0 o1 c0 c1 hf with ⟨hcs, _⟩ | ⟨x, l, cp, m, nn, V0, V1, D0, D1, P0, P1, hcs, _, hl, hm, hmm, _, hx⟩
  · simp [Value.cells] at hcs
    obtain ⟨rfl, rfl, rfl⟩ := hcs
    exact ⟨[], rfl, by omega, by omega, fun _ => ⟨rfl, rfl⟩, .inl rfl⟩
  · simp [Value.cells] at hcs
    obtain ⟨rfl, rfl, rfl⟩ := hcs
    have hmc : m = c := by simpa using hmm
    subst hmc
    refine ⟨(List.range n).map fun i => (intOf (V0 i), intOf (V1 i)), by simp, hl, (by unfold maxLen at hm; omega), (fun h => by cases h), ?_⟩
    by_cases h0 : n = 0
    · exact .inl h0
    · obtain ⟨b, off, spot⟩ := x
      have hspot : spot = none := by simpa [Addr.add] using World.cell?_spot (hx 0 (by omega)).1
      subst hspot
      refine .inr ⟨b, off, rfl, fun i hi => ?_⟩
      obtain ⟨e1, e2, t1, t2⟩ := hx i (by omega)
      obtain ⟨z0, q0, _⟩ := DataW.trod_int i0 t1
      obtain ⟨z1, q1, _⟩ := DataW.trod_int i1 t2
      simp only [List.cons.injEq, and_true] at q0 q1
      have hg : ((List.range n).map fun i => (intOf (V0 i), intOf (V1 i))).getD i (0, 0) = (z0, z1) := by
        rw [List.getD_eq_getElem?_getD]; simp [hi, q0, q1, intOf]
      rw [hg, ← q0, ← q1]
      rw [Go.WideShapes.add_plain] at e1 e2
      exact ⟨e1, e2⟩
theorem open_states {H : Type} {enc : TypeId × Value → H} {W : World} {d : DataW H} {p : List MemPlace} {a : Option Addr} {n c : Nat} (h : DataW.Trod enc Try.prog W 0 (fun _ => true) true 45 (.slice a n c) d p) : ∃ ps, SeesQ W a n c ps :=
  seesQ_open Try.underlying45 Try.underlying27 (by kernel_rfl) rfl rfl (by kernel_rfl) (by kernel_rfl) Try.underlying2 Try.underlying2 h
theorem szStateS_any (a : Option Addr) (n c : Nat) (k : Int) (w : World) (hn : (n : Int) ≤ 9223372036854775807) (h0 : 0 ≤ k) (hk : k ≤ 9223372036854775807) :
    Calls Try.prog 20 #[.slice a n c, .int .i64 k] w fun e w' => e = .returned (.int .i64 (if k - (n : Int) < 0 then -1 else k - n)) ∧ w' = w := by
  by_cases h : k - (n : Int) < 0
  · rw [if_pos h]
    go_enter Try.func20, Try.ntmps20
    go_wp2
    go_ret
    exact ⟨rfl, rfl⟩
  · rw [if_neg h]
    go_enter Try.func20, Try.ntmps20
    go_wp2
    go_ret
    exact ⟨rfl, rfl⟩
end Go.Proofs.Ytjeoenieoejolai
