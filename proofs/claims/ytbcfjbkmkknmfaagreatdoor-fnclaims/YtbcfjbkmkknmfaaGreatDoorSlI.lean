/- Sums of polynomials in the program; what PolyAdd answers. -/
import Derived.Test.YtbcfjbkmkknmfaaGreatDoorSlH
namespace Go.Proofs.YtbcfjbkmkknmfaaGreatDoor
open Go.RowKit

theorem M.padd_len (zs ys : List Int) : (M.padd zs ys).length = max zs.length ys.length := M.tab_len _ _
end Go.Proofs.YtbcfjbkmkknmfaaGreatDoor
