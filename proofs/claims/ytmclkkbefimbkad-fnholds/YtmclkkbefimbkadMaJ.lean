/- Whether states are a run, in the program. -/
import Derived.Test.YtmclkkbefimbkadMaI
import Derived.Deep.RegionWith
import Derived.Laws.StructEq
namespace Go.Proofs.Ytmclkkbefimbkad
open Go.RowKit

/-- are the first k states what comes from p? -/
def M.isRn (m : M.Mc) (p : Int × Int) (ps : List (Int × Int)) (o : Bool) : Nat → Bool
  | 0 => o
  | k + 1 => M.isRn m p ps o k && (decide ((ps.getD k (0, 0)).1 = (m.rn p k).1) && decide ((ps.getD k (0, 0)).2 = (m.rn p k).2))
def M.trOk (m : M.Mc) (ps : List (Int × Int)) : Bool := M.isRn m (ps.getD 0 (0, 0)) ps (M.sOk (ps.getD 0 (0, 0))) ps.length
def M.traceOk (m : M.Mc) (ps : List (Int × Int)) : Bool := m.ok && (decide (1 ≤ ps.length) && (decide (ps.length ≤ 1001) && M.trOk m ps))
theorem M.isRn_false (m : M.Mc) (p : Int × Int) (ps : List (Int × Int)) : ∀ k, M.isRn m p ps false k = false
  | 0 => rfl
  | k + 1 => by rw [M.isRn, M.isRn_false m p ps k]; rfl
end Go.Proofs.Ytmclkkbefimbkad
