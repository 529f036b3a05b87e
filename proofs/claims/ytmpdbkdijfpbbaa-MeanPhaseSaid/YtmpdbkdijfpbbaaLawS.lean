/- law03's awake. -/
import Derived.Test.YtmpdbkdijfpbbaaLawR
import Derived.Test.YtmpdbkdijfpbbaaGU
import Derived.Test.YtmpdbkdijfpbbaaGF
import Derived.Test.YtmpdbkdijfpbbaaGL
import Derived.Deep.RegionHeld3
namespace Go.Proofs.Ytmpdbkdijfpbbaa
open Go.RowKit
set_option maxRecDepth 100000

end Go.Proofs.Ytmpdbkdijfpbbaa
