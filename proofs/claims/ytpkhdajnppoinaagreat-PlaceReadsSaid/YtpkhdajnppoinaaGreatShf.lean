/- strings.Repeat is not reached here. -/
import Derived.Shelf.Strings.Repeat
import Derived.Test.YtpkhdajnppoinaaGreatProg
