/- That functions are called. -/
import Derived.Test.YtnljadejcfgmaaaRg
namespace Go.Proofs.Ytnljadejcfgmaaa
open Go.RowKit
set_option maxRecDepth 100000
set_option linter.unusedVariables false

end Go.Proofs.Ytnljadejcfgmaaa
