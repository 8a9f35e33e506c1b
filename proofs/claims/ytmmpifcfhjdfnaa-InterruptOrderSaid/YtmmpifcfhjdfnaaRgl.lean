/- The registers as a list of values. -/
import Derived.Test.YtmmpifcfhjdfnaaP05
set_option linter.unusedVariables false
namespace Go.Proofs.Ytmmpifcfhjdfnaa
open Go.RowKit
/-- The cells of registers. -/
def rgList (r : Rg) : List Value := [.int .u16 r.A, .int .u16 r.L, .int .u16 r.Q, .int .i64 r.Z, .int .i64 r.EB, .int .i64 r.FB, .int .i64 r.Su, .bool r.Ex, .int .u16 r.Ix, .bool r.Hd, .int .u16 r.B, .bool r.Ih, .bool r.Sv]
end Go.Proofs.Ytmmpifcfhjdfnaa
