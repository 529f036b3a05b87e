/- law03's awake. -/
import Derived.Test.YthoiocjbjfhgpaaGreatLawR
import Derived.Test.YthoiocjbjfhgpaaGreatGU
import Derived.Test.YthoiocjbjfhgpaaGreatGF
import Derived.Test.YthoiocjbjfhgpaaGreatGL
import Derived.Deep.RegionHeld3
namespace Go.Proofs.YthoiocjbjfhgpaaGreat
open Go.RowKit
set_option maxRecDepth 100000

end Go.Proofs.YthoiocjbjfhgpaaGreat
