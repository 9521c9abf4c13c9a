/- What the laws make of claims, and whether two are alike. -/
import Derived.Test.YtjibpapjfdjecacClA
import Derived.Test.YtjibpapjfdjecacMaO
namespace Go.Proofs.Ytjibpapjfdjecac
open Go.RowKit Go.WideShapes

theorem cl_of (zs : List Int) (h : zs.length = 5) : ∃ c : M.Cl, Value.agg (zs.map (Value.int .i64)).toArray = clv c := by
  match zs, h with
  | [x, y, x', y', n], _ => exact ⟨⟨(x, y), (x', y'), n⟩, rfl⟩
end Go.Proofs.Ytjibpapjfdjecac
