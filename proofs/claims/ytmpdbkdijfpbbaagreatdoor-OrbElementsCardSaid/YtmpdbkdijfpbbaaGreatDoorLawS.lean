/- law03's awake. -/
import Derived.Test.YtmpdbkdijfpbbaaGreatDoorLawR
import Derived.Test.YtmpdbkdijfpbbaaGreatDoorGU
import Derived.Test.YtmpdbkdijfpbbaaGreatDoorGF
import Derived.Test.YtmpdbkdijfpbbaaGreatDoorGL
import Derived.Deep.RegionHeld3
namespace Go.Proofs.YtmpdbkdijfpbbaaGreatDoor
open Go.RowKit
set_option maxRecDepth 100000

end Go.Proofs.YtmpdbkdijfpbbaaGreatDoor
