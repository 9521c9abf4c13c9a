/- What DrawRunOf draws: some machine, some state, some number. -/
import Derived.Test.YtjeoenieoejoladRdM
import Derived.Deep.RegionHeld3
namespace Go.Proofs.Ytjeoenieoejolad
open Go.RowKit

theorem Row.below2 {w0 w : World} {a : Option Addr} {len cap : Nat} {zs : List Int} (h : Row .u8 w0 a len cap zs) (hb0 : Below w0.heap.size w0 w) : Row .u8 w a len cap zs := by
  rcases h with h | ⟨x, e, hl, hm, hz, hc, hw⟩
  · exact .inl h
  · exact .inr ⟨x, e, hl, hm, hz, fun i hi => (hb0.cell (p := x.add i) (World.block_lt_of_cell? w0 _ (hc i hi))).trans (hc i hi), hw⟩
end Go.Proofs.Ytjeoenieoejolad
