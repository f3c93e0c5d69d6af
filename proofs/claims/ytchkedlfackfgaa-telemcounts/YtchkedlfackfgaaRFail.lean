/-
  The reference's Fail, for the seat Ytchkedlfackfgaa.
-/
import Derived.Test.YtchkedlfackfgaaVMem
import Derived.Handy
namespace Go.Proofs.Ytchkedlfackfgaa
open Go.RowKit

end Go.Proofs.Ytchkedlfackfgaa
