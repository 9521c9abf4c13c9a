/- What FnJoined says of two pieces of a run, in plain terms. -/
import Derived.Test.YtjeoenieoejolacClH
import Derived.Test.YtjeoenieoejolacClP
namespace Go.Proofs.Ytjeoenieoejolac
open Go.RowKit

theorem M.clOk_mk {c : M.Cl} (h1 : M.sOk c.s = true) (h2 : M.sOk c.e = true) (h3 : 1 ≤ c.n) (h4 : c.n ≤ 1000) : M.clOk c = true := by
  unfold M.clOk; rw [h1, h2, decide_eq_true h3, decide_eq_true h4]; rfl
theorem M.holds_mk {m : M.Mc} {s : Int × Int} {k : Nat} (hm : m.ok = true) (hs : M.sOk s = true) (h1 : 1 ≤ k) (h2 : k ≤ 1000) : M.holds m ⟨s, m.rn s k, (k : Int)⟩ = true := by
  have hr : M.runOk m s (k : Int) = true := M.runOk_mk hm hs (by omega) (by omega)
  rw [M.holds_after hm]
  show (M.runOk m s (k : Int) && ((decide ((M.aft m s (k : Int)).1 = (m.rn s k).1) && decide ((M.aft m s (k : Int)).2 = (m.rn s k).2)) && decide (1 ≤ (k : Int)))) = true
  rw [hr, M.aft_in hr, Int.toNat_natCast]
  simp; omega
theorem M.cut_two {m : M.Mc} {s : Int × Int} {rows many : Int} (h : M.cutOk m s rows many = true) (h2 : 2 ≤ (M.cutv m s rows many).length) :
    M.joinOk ((M.cutv m s rows many).getD 0 M.c0) ((M.cutv m s rows many).getD 1 M.c0) = true ∧
    M.holds m (M.joinv ((M.cutv m s rows many).getD 0 M.c0) ((M.cutv m s rows many).getD 1 M.c0)) = true ∧
    M.holds m ((M.cutv m s rows many).getD 0 M.c0) = true := by
  obtain ⟨hm, hs, hrw, h1, h8⟩ := M.cutOk_parts h
  rw [M.cutv_in h] at h2 ⊢
  have hl := M.cuts_len m s (rows - 1).toNat many.toNat
  obtain ⟨K, hK⟩ : ∃ K, K = (rows - 1).toNat := ⟨_, rfl⟩
  have hK1 : 1 ≤ K ∧ K ≤ 15 := by rcases M.rows_yes hrw with e | e | e | e <;> omega
  rw [← hK] at h2 hl ⊢
  rw [M.cuts_get m s K many.toNat (i := 0) (by omega), M.cuts_get m s K many.toNat (i := 1) (by omega)]
  have e0 : m.rn s (0 * K) = s := by rw [Nat.zero_mul]; rfl
  have e1 : m.rn s ((0 + 1) * K) = m.rn s K := by rw [Nat.zero_add, Nat.one_mul]
  have e3 : m.rn s ((1 + 1) * K) = m.rn s (K + K) := by rw [show (1 + 1) * K = K + K by omega]
  rw [e0, e1, e3]
  have hj : M.joinOk ⟨s, m.rn s K, (K : Int)⟩ ⟨m.rn s K, m.rn s (K + K), (K : Int)⟩ = true := by
    unfold M.joinOk
    rw [M.clOk_mk hs (M.sOk_rn m hs K) (show 1 ≤ (K : Int) by omega) (show (K : Int) ≤ 1000 by omega), M.clOk_mk (M.sOk_rn m hs K) (M.sOk_rn m hs (K + K)) (show 1 ≤ (K : Int) by omega) (show (K : Int) ≤ 1000 by omega)]
    simp; omega
  refine ⟨hj, ?_, M.holds_mk hm hs (by omega) (by omega)⟩
  rw [M.joinv_in hj]
  have := M.holds_mk (m := m) (s := s) (k := K + K) hm hs (by omega) (by omega)
  rw [show ((K + K : Nat) : Int) = (K : Int) + (K : Int) by omega] at this
  exact this
end Go.Proofs.Ytjeoenieoejolac
