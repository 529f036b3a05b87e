/- law02's Is. -/
import Derived.Test.YtnljadejcfgmaaaGT
import Derived.Test.YtnljadejcfgmaaaLawE
namespace Go.Proofs.Ytnljadejcfgmaaa
open Go.RowKit
set_option maxRecDepth 100000

/-- 0, and nothing below turned. -/
def ZeroPost (w : World) (e : Ending) (w' : World) : Prop := e = .returned (.int .i64 0) ∧ Below w.heap.size w w'

end Go.Proofs.Ytnljadejcfgmaaa
