import Derived.Test.YtplngpfpcheofaaKC33
namespace Go.Proofs.Ytplngpfpcheofaa
open Go.RowKit
set_option maxRecDepth 100000
set_option linter.unusedVariables false
set_option maxHeartbeats 8000000
def kN (c:Int):Int:=if c=0 then 12 else if c=1 then 30 else if c=4 then 60 else 27
end Go.Proofs.Ytplngpfpcheofaa
