/- law03's awake. -/
import Derived.Test.YteafnboehmfmiaaDoorLawR
import Derived.Test.YteafnboehmfmiaaDoorGU
import Derived.Test.YteafnboehmfmiaaDoorGF
import Derived.Test.YteafnboehmfmiaaDoorGL
import Derived.Deep.RegionHeld3
namespace Go.Proofs.YteafnboehmfmiaaDoor
open Go.RowKit
set_option maxRecDepth 100000

end Go.Proofs.YteafnboehmfmiaaDoor
