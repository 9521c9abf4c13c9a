/- A run cut into claims, in the program. -/
import Derived.Test.YtmclkkbefimbkadClP
import Derived.Test.YtmclkkbefimbkadClR
namespace Go.Proofs.Ytmclkkbefimbkad
open Go.RowKit

def M.cutOk (m : M.Mc) (s : Int × Int) (rows many : Int) : Bool := m.ok && (M.sOk s && (M.rows rows && (decide (1 ≤ many) && decide (many ≤ 8))))
def M.cutv (m : M.Mc) (s : Int × Int) (rows many : Int) : List M.Cl := if M.cutOk m s rows many = true then M.cuts m s (rows - 1).toNat many.toNat else []
theorem M.cutv_in {m : M.Mc} {s : Int × Int} {rows many : Int} (h : M.cutOk m s rows many = true) : M.cutv m s rows many = M.cuts m s (rows - 1).toNat many.toNat := if_pos h
theorem M.cutv_out {m : M.Mc} {s : Int × Int} {rows many : Int} (h : M.cutOk m s rows many = false) : M.cutv m s rows many = [] := if_neg (by rw [h]; decide)
theorem M.cutOk_parts {m : M.Mc} {s : Int × Int} {rows many : Int} (h : M.cutOk m s rows many = true) : m.ok = true ∧ M.sOk s = true ∧ M.rows rows = true ∧ 1 ≤ many ∧ many ≤ 8 := by
  unfold M.cutOk at h; simp only [Bool.and_eq_true, decide_eq_true_eq] at h; exact ⟨h.1, h.2.1, h.2.2.1, h.2.2.2.1, h.2.2.2.2⟩
theorem info_claim : (Try.prog.info? 29).map (fun i => (i.zero, i.size, i.bytes)) = some (some (.agg #[.int .i64 0, .int .i64 0, .int .i64 0, .int .i64 0, .int .i64 0]), 5, 40) := by kernel_rfl
end Go.Proofs.Ytmclkkbefimbkad
