/- law03's awake. -/
import Derived.Test.YtmpdbkdijfpbbaaDoorLawR
import Derived.Test.YtmpdbkdijfpbbaaDoorGU
import Derived.Test.YtmpdbkdijfpbbaaDoorGF
import Derived.Test.YtmpdbkdijfpbbaaDoorGL
import Derived.Deep.RegionHeld3
namespace Go.Proofs.YtmpdbkdijfpbbaaDoor
open Go.RowKit
set_option maxRecDepth 100000

end Go.Proofs.YtmpdbkdijfpbbaaDoor
