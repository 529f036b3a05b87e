/- law03's awake. -/
import Derived.Test.YtpkhdajnppoinaaLawR
import Derived.Test.YtpkhdajnppoinaaGU
import Derived.Test.YtpkhdajnppoinaaGF
import Derived.Test.YtpkhdajnppoinaaGL
import Derived.Deep.RegionHeld3
namespace Go.Proofs.Ytpkhdajnppoinaa
open Go.RowKit
set_option maxRecDepth 100000

end Go.Proofs.Ytpkhdajnppoinaa
