import Derived.Test.YtmpdbkdijfpbbaaGreatDoorRefA
namespace Go.Proofs.YtmpdbkdijfpbbaaGreatDoor
open Go.RowKit
set_option maxRecDepth 100000

end Go.Proofs.YtmpdbkdijfpbbaaGreatDoor
