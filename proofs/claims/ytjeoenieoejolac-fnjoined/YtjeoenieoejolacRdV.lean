/- What DrawHolds draws: some machine, some claim. -/
import Derived.Test.YtjeoenieoejolacRdU
namespace Go.Proofs.Ytjeoenieoejolac
open Go.RowKit

theorem lies_sets_far {W : World} {b B : Nat} {us vs : List Value} (h : Lies W b us) (hb : b ≠ B) : ∀ i, (sets W B i vs).cell? ⟨b, 0, none⟩ = us[0]? := fun i => (sets_far B (p := ⟨b, 0, none⟩) hb vs W i).trans (h.at 0)
theorem twelve {W : World} {b : Nat} {v0 v1 v2 v3 v4 v5 v6 v7 v8 v9 v10 v11 : Value} (h : Lies W b [v0, v1, v2, v3, v4, v5, v6, v7, v8, v9, v10, v11]) :
    W.cell? ⟨b, 0, none⟩ = some v0 ∧ W.cell? ⟨b, 1, none⟩ = some v1 ∧ W.cell? ⟨b, 2, none⟩ = some v2 ∧ W.cell? ⟨b, 3, none⟩ = some v3 ∧ W.cell? ⟨b, 4, none⟩ = some v4 ∧ W.cell? ⟨b, 5, none⟩ = some v5 ∧ W.cell? ⟨b, 6, none⟩ = some v6 ∧ W.cell? ⟨b, 7, none⟩ = some v7 ∧ W.cell? ⟨b, 8, none⟩ = some v8 ∧ W.cell? ⟨b, 9, none⟩ = some v9 ∧ W.cell? ⟨b, 10, none⟩ = some v10 ∧ W.cell? ⟨b, 11, none⟩ = some v11 ∧ W.frozen? ⟨b, 0, none⟩ = false ∧ W.frozen? ⟨b, 1, none⟩ = false ∧ W.frozen? ⟨b, 2, none⟩ = false ∧ W.frozen? ⟨b, 3, none⟩ = false ∧ W.frozen? ⟨b, 4, none⟩ = false ∧ W.frozen? ⟨b, 5, none⟩ = false ∧ W.frozen? ⟨b, 6, none⟩ = false ∧ W.frozen? ⟨b, 7, none⟩ = false ∧ W.frozen? ⟨b, 8, none⟩ = false ∧ W.frozen? ⟨b, 9, none⟩ = false ∧ W.frozen? ⟨b, 10, none⟩ = false ∧ W.frozen? ⟨b, 11, none⟩ = false :=
  ⟨h.at 0, h.at 1, h.at 2, h.at 3, h.at 4, h.at 5, h.at 6, h.at 7, h.at 8, h.at 9, h.at 10, h.at 11, h.fr 0, h.fr 1, h.fr 2, h.fr 3, h.fr 4, h.fr 5, h.fr 6, h.fr 7, h.fr 8, h.fr 9, h.fr 10, h.fr 11⟩
theorem five {W : World} {b : Nat} {v0 v1 v2 v3 v4 : Value} (h : Lies W b [v0, v1, v2, v3, v4]) :
    W.cell? ⟨b, 0, none⟩ = some v0 ∧ W.cell? ⟨b, 1, none⟩ = some v1 ∧ W.cell? ⟨b, 2, none⟩ = some v2 ∧ W.cell? ⟨b, 3, none⟩ = some v3 ∧ W.cell? ⟨b, 4, none⟩ = some v4 ∧ W.frozen? ⟨b, 0, none⟩ = false ∧ W.frozen? ⟨b, 1, none⟩ = false ∧ W.frozen? ⟨b, 2, none⟩ = false ∧ W.frozen? ⟨b, 3, none⟩ = false ∧ W.frozen? ⟨b, 4, none⟩ = false :=
  ⟨h.at 0, h.at 1, h.at 2, h.at 3, h.at 4, h.fr 0, h.fr 1, h.fr 2, h.fr 3, h.fr 4⟩
theorem Dc.claim {w0 w W : World} {R len cap g n c i : Nat} {a : Option Addr} (h : Dc w0 w R a len cap g n c W) (hi : i < n) : ∃ s1 s2 t1 t2 st : Int, W.cell? ⟨g, i * 5, none⟩ = some (.int .i64 s1) ∧ W.cell? ⟨g, i * 5 + 1, none⟩ = some (.int .i64 s2) ∧ W.cell? ⟨g, i * 5 + 2, none⟩ = some (.int .i64 t1) ∧ W.cell? ⟨g, i * 5 + 3, none⟩ = some (.int .i64 t2) ∧ W.cell? ⟨g, i * 5 + 4, none⟩ = some (.int .i64 st) := by
  obtain ⟨cs, hs⟩ := h.se
  obtain ⟨b', off', e, hc⟩ := hs.at (by omega)
  simp only [Option.some.injEq, Addr.mk.injEq, and_true] at e
  obtain ⟨rfl, rfl⟩ := e
  have q := hc i hi
  simp only [Nat.zero_add] at q
  exact ⟨_, _, _, _, _, q 0 (by omega), q 1 (by omega), q 2 (by omega), q 3 (by omega), q 4 (by omega)⟩
end Go.Proofs.Ytjeoenieoejolac
