/- The states of a run, in the program. -/
import Derived.Test.YtljcnmaecnbdoahMaG
namespace Go.Proofs.Ytljcnmaecnbdoah
open Go.RowKit

end Go.Proofs.Ytljcnmaecnbdoah
