import Derived.Test.YtplngpfpcheofaaKC2
import Derived.Test.YtplngpfpcheofaaKC19
namespace Go.Proofs.Ytplngpfpcheofaa
open Go.RowKit
set_option maxRecDepth 100000
set_option linter.unusedVariables false
set_option maxHeartbeats 8000000
section
section
variable {P:Program} {ops:Array Oper} {Q:Exit→Act→World→Prop}
end
end
end Go.Proofs.Ytplngpfpcheofaa
