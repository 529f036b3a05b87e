/- Nothing is taken off the shelf here: strings.Repeat does not stand in this program. -/
import Derived.Shelf.Strings.Repeat
import Derived.Test.YthoiocjbjfhgpaaGreatProg
namespace Go.Proofs.YthoiocjbjfhgpaaGreat
end Go.Proofs.YthoiocjbjfhgpaaGreat
