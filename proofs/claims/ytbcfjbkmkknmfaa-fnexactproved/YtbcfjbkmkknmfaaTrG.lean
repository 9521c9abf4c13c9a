/- What FromEvals and Below answer, in the program and in its model. -/
import Derived.Test.YtbcfjbkmkknmfaaTrF
namespace Go.Proofs.Ytbcfjbkmkknmfaa
open Go.RowKit

end Go.Proofs.Ytbcfjbkmkknmfaa
