/- Rules and machines made of what is handed in, in the program. A machine behind an interface, in the program. -/
import Derived.Test.YtbcfjbkmkknmfaaDoorMaC
import Derived.Test.YtbcfjbkmkknmfaaDoorMaS
import Derived.BigRegion
namespace Go.Proofs.YtbcfjbkmkknmfaaDoor
open Go.RowKit

theorem frozen_new (w : World) (A B C : Array Value) (t1 t2 t3 : TypeId) (i : Nat) :
    (((w.alloc (.cells A t1)).alloc (.cells B t2)).alloc (.cells C t3)).frozen? ⟨w.heap.size + 1, i, none⟩ = false := by
  rw [frozen?_alloc_cells, frozen?_alloc_cells, frozen?_alloc_cells]; simp only [World.frozen?]; rw [Array.getElem?_eq_none (by omega)]
end Go.Proofs.YtbcfjbkmkknmfaaDoor
namespace Go.Proofs.YtbcfjbkmkknmfaaDoor
open Go.RowKit

end Go.Proofs.YtbcfjbkmkknmfaaDoor
