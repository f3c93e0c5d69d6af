/-
  The walks of package fixed's lengths (square, Norm), for the seat Ytibjmmlnkgapeaa.
-/
import Derived.Test.YtibjmmlnkgapeaaMeth
import Derived.Handy
namespace Go.Proofs.Ytibjmmlnkgapeaa
open Go.RowKit

end Go.Proofs.Ytibjmmlnkgapeaa
