/- law03's awake. -/
import Derived.Test.YtmpdbkdijfpbbaaGreatLawR
import Derived.Test.YtmpdbkdijfpbbaaGreatGU
import Derived.Test.YtmpdbkdijfpbbaaGreatGF
import Derived.Test.YtmpdbkdijfpbbaaGreatGL
import Derived.Deep.RegionHeld3
namespace Go.Proofs.YtmpdbkdijfpbbaaGreat
open Go.RowKit
set_option maxRecDepth 100000

end Go.Proofs.YtmpdbkdijfpbbaaGreat
