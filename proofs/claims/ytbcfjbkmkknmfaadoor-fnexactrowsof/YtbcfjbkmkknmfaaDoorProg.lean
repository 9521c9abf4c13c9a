-- MADE BY PROGRAM (prog-in-parts.mjs): THE LOAD, out of its parts: the constants and facts that the one row below made, under the same names. The row stands here as a remark: the kit's tools read the dump's path and the alias off it.
-- load_go "../../toys/ytbcfjbkmkknmfaadoor/ytbcfjbkmkknmfaadoor.cut.gsa" as Tryd
import Derived.Test.YtbcfjbkmkknmfaaDoorCheckedLc
import Derived.Test.YtbcfjbkmkknmfaaDoorCheckedLf0
import Derived.Test.YtbcfjbkmkknmfaaDoorCheckedLf1
import Derived.Test.YtbcfjbkmkknmfaaDoorCheckedLf2
import Derived.Test.YtbcfjbkmkknmfaaDoorCheckedLf3
