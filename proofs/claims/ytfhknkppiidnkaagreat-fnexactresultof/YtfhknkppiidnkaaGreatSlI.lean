/- Sums of polynomials in the program; what PolyAdd answers. -/
import Derived.Test.YtfhknkppiidnkaaGreatSlH
namespace Go.Proofs.YtfhknkppiidnkaaGreat
open Go.RowKit

theorem Owns.whole {t : TypeId} {w : World} {base g n : Nat} {zs : List Int} (h : Owns t w base (some ⟨g, 0, none⟩) n n zs) : w.heap[g]? = some (.cells (zs.map (Value.int .i64)).toArray t (0, 0)) := by
  rcases h.2 with ⟨e, _⟩ | ⟨g', c, cur, e, _, hh, _, _, hs, ht⟩
  · simp at e
  · simp only [Value.slice.injEq, Option.some.injEq, Addr.mk.injEq] at e
    obtain ⟨⟨rfl, -, -⟩, -, rfl⟩ := e
    rw [hh]
    have : cur.toList = zs.map (Value.int .i64) := by
      rw [List.take_of_length_le (by rw [Array.length_toList, hs]; exact Nat.le_refl _)] at ht; exact ht
    congr 2
    rw [← this]
theorem Owns.of_whole {t : TypeId} {w : World} {base g n : Nat} {zs : List Int} (hl : zs.length = n) (hb : base ≤ g) (hn : n ≤ 2000000) (h : w.heap[g]? = some (.cells (zs.map (Value.int .i64)).toArray t (0, 0))) : Owns t w base (some ⟨g, 0, none⟩) n n zs := by
  refine ⟨by simpa using hl, .inr ⟨g, n, _, rfl, hb, h, Nat.le_refl _, by unfold maxLen; omega, by simpa using hl, ?_⟩⟩
  rw [List.take_of_length_le (by simp [hl])]


theorem M.polyOk_parts {zs : List Int} (h : M.polyOk zs = true) : zs.length ≤ 128 ∧ M.allEl zs = true := by
  unfold M.polyOk at h
  simp only [Bool.and_eq_true, decide_eq_true_eq] at h
  exact ⟨h.1, h.2.1⟩
def M.both (zs ys : List Int) : Bool := M.polyOk zs && M.polyOk ys
theorem M.both_parts {zs ys : List Int} (h : M.both zs ys = true) : M.polyOk zs = true ∧ M.polyOk ys = true := by
  unfold M.both at h; simpa using h
theorem M.padd_len (zs ys : List Int) : (M.padd zs ys).length = max zs.length ys.length := M.tab_len _ _
def M.addv (zs ys : List Int) : List Int := if M.both zs ys = true then M.trim (M.padd zs ys) else []
end Go.Proofs.YtfhknkppiidnkaaGreat
