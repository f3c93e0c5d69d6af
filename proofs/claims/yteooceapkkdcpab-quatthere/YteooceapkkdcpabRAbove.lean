/-
  The walk of the reference's comparison of two words (alidaderef01.above), for the seat Yteooceapkkdcpab.
-/
import Derived.Test.YteooceapkkdcpabRTimes
import Derived.Handy
namespace Go.Proofs.Yteooceapkkdcpab
open Go.RowKit

end Go.Proofs.Yteooceapkkdcpab
