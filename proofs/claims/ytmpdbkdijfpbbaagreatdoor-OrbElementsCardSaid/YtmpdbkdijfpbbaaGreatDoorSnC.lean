/- The laws of layer 10. -/
import Derived.Test.YtmpdbkdijfpbbaaGreatDoorGZ
namespace Go.Proofs.YtmpdbkdijfpbbaaGreatDoor
open Go.RowKit
set_option maxRecDepth 100000
set_option linter.unusedVariables false

end Go.Proofs.YtmpdbkdijfpbbaaGreatDoor
