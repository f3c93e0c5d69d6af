/-
  Walks of package alidaderef04, for the seat Ytkeijfbpkdelpaa. (Made by mkref04.py.)
-/
import Derived.Test.YtkeijfbpkdelpaaXSpec
import Derived.Test.YtkeijfbpkdelpaaXMath
import Derived.Test.YtkeijfbpkdelpaaVMem
import Derived.Test.YtkeijfbpkdelpaaVNear
import Derived.Test.YtkeijfbpkdelpaaVFold
import Derived.Handy
import Derived.Deep.RegionHeld3
namespace Go.Proofs.Ytkeijfbpkdelpaa
open Go.RowKit

end Go.Proofs.Ytkeijfbpkdelpaa
