/-
  The reference's Fail, for the seat Ytpceomcnknjiiaa.
-/
import Derived.Test.YtpceomcnknjiiaaJB
import Derived.Handy
namespace Go.Proofs.Ytpceomcnknjiiaa
open Go.RowKit

end Go.Proofs.Ytpceomcnknjiiaa
