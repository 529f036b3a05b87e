/- law03's awake. -/
import Derived.Test.YteafnboehmfmiaaGreatDoorLawR
import Derived.Test.YteafnboehmfmiaaGreatDoorGU
import Derived.Test.YteafnboehmfmiaaGreatDoorGF
import Derived.Test.YteafnboehmfmiaaGreatDoorGL
import Derived.Deep.RegionHeld3
namespace Go.Proofs.YteafnboehmfmiaaGreatDoor
open Go.RowKit
set_option maxRecDepth 100000

end Go.Proofs.YteafnboehmfmiaaGreatDoor
