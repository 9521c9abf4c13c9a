/- What FnRuns says, in plain terms. -/
import Derived.Test.YtjeoenieoejolacMaM
import Derived.Test.YtjeoenieoejolacMaJ
namespace Go.Proofs.Ytjeoenieoejolac
open Go.RowKit

theorem M.isRn_run {m : M.Mc} {s : Int × Int} {n : Nat} (hs : M.sOk s = true) : ∀ k, k ≤ n + 1 → M.isRn m s (m.run s n) (M.sOk s) k = true
  | 0, _ => hs
  | k + 1, h => by
    rw [M.isRn, M.isRn_run hs k (by omega), M.run_get m s n k (by omega)]; simp
theorem M.traceOk_run {m : M.Mc} {s : Int × Int} {n : Int} (h : M.runOk m s n = true) : M.traceOk m (M.runv m s n) = true := by
  obtain ⟨hm, hs, h0, h1⟩ := M.runOk_parts h
  have hl := len0 h
  rw [M.traceOk_yes hm (by omega) (by omega), M.runv_in h]
  unfold M.trOk
  have e : (m.run s n.toNat).getD 0 (0, 0) = s := M.run_get m s _ 0 (by omega)
  rw [e, M.run_len]
  exact M.isRn_run hs _ (Nat.le_refl _)
theorem M.two_pieces {m : M.Mc} {s : Int × Int} {n k : Int} (h : M.runOk m s n = true) (h0 : 0 ≤ k) (h1 : k ≤ n) : M.runOk m s k = true ∧ M.runOk m (M.aft m s k) (n - k) = true ∧ M.aft m (M.aft m s k) (n - k) = m.rn s n.toNat := by
  obtain ⟨hm, hs, h2, h3⟩ := M.runOk_parts h
  have a : M.runOk m s k = true := M.runOk_mk hm hs h0 (by omega)
  have e : M.aft m s k = m.rn s k.toNat := M.aft_in a
  have b : M.runOk m (M.aft m s k) (n - k) = true := M.runOk_mk hm (by rw [e]; exact M.sOk_rn m hs _) (by omega) (by omega)
  refine ⟨a, b, ?_⟩
  rw [M.aft_in b, e, M.rn_add, show k.toNat + (n - k).toNat = n.toNat by omega]
end Go.Proofs.Ytjeoenieoejolac
