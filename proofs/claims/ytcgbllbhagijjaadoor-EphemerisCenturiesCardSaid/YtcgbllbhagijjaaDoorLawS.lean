/- law03's awake. -/
import Derived.Test.YtcgbllbhagijjaaDoorLawR
import Derived.Test.YtcgbllbhagijjaaDoorWhG
import Derived.Test.YtcgbllbhagijjaaDoorGF
import Derived.Test.YtcgbllbhagijjaaDoorLawB
import Derived.Deep.RegionHeld3
namespace Go.Proofs.YtcgbllbhagijjaaDoor
open Go.RowKit
set_option maxRecDepth 100000

end Go.Proofs.YtcgbllbhagijjaaDoor
