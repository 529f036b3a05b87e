/- law03's awake. -/
import Derived.Test.YtjdmnchndnpdlaaLawR
import Derived.Test.YtjdmnchndnpdlaaWhG
import Derived.Test.YtjdmnchndnpdlaaGF
import Derived.Test.YtjdmnchndnpdlaaLawB
import Derived.Deep.RegionHeld3
namespace Go.Proofs.Ytjdmnchndnpdlaa
open Go.RowKit
set_option maxRecDepth 100000

end Go.Proofs.Ytjdmnchndnpdlaa
