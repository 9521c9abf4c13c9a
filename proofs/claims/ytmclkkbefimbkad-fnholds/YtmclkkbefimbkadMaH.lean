/- The states of a run, in the program. -/
import Derived.Test.YtmclkkbefimbkadMaG
namespace Go.Proofs.Ytmclkkbefimbkad
open Go.RowKit

end Go.Proofs.Ytmclkkbefimbkad
