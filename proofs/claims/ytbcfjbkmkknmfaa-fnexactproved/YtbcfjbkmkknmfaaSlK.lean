/- Products of polynomials in the program. -/
import Derived.Test.YtbcfjbkmkknmfaaSlJ
import Derived.Deep.RegionWith
namespace Go.Proofs.Ytbcfjbkmkknmfaa
open Go.RowKit

end Go.Proofs.Ytbcfjbkmkknmfaa
