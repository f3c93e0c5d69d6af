/-
  The walk of the reference's lengths (alidaderef01.Norm), for the seat Yteooceapkkdcpab.
-/
import Derived.Test.YteooceapkkdcpabRAbove
import Derived.Handy
import Derived.Deep.RegionHeld3
import Derived.Deep.DrawnRows
namespace Go.Proofs.Yteooceapkkdcpab
open Go.RowKit
attribute [local go_sem ↓] Go.wp_at_zero Go.wp_at_succ

end Go.Proofs.Yteooceapkkdcpab
