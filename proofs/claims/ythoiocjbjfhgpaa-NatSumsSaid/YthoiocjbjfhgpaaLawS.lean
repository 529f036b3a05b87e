/- law03's awake. -/
import Derived.Test.YthoiocjbjfhgpaaLawR
import Derived.Test.YthoiocjbjfhgpaaGU
import Derived.Test.YthoiocjbjfhgpaaGF
import Derived.Test.YthoiocjbjfhgpaaGL
import Derived.Deep.RegionHeld3
namespace Go.Proofs.Ythoiocjbjfhgpaa
open Go.RowKit
set_option maxRecDepth 100000

end Go.Proofs.Ythoiocjbjfhgpaa
