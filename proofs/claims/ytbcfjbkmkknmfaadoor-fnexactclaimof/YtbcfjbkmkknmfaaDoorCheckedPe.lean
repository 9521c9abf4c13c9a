-- MADE BY PROGRAM (checked-in-parts.mjs) out of YtbcfjbkmkknmfaaDoorChecked.lean: the equation that is no list of items.
import Derived.Test.YtbcfjbkmkknmfaaDoorProg
import Derived.KernelRfl
import Derived.Items
import Derived.PartsItems
import Derived.CheckFast
import Derived.HeadItems
import GoSem.Claims
import Derived.Test.YtbcfjbkmkknmfaaDoorCheckedPd
namespace Go.Proofs
theorem Tryd.el.bare : (Elab.partsBare Tryd.src).toList = Tryd.bare := by kernel_rfl
end Go.Proofs
