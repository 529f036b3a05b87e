import Derived.Test.YtpkhdajnppoinaaGreatKC27
import Derived.Test.YtpkhdajnppoinaaGreatShf
namespace Go.Proofs.YtpkhdajnppoinaaGreat
open Go.RowKit
set_option maxRecDepth 100000
set_option linter.unusedVariables false
set_option maxHeartbeats 8000000
section
section
def fits (z:Int):Prop:= -9223372036854775808≤z∧z≤9223372036854775807
instance (z:Int):Decidable (fits z):=by unfold fits;infer_instance
def sn (xs:List Nat):Int:=if pe xs≠0 then 0 else if fits (pz xs) then pz xs else 0
end
section
end
end
def hi (N:Nat):List Nat:=(asc (dg 10 N)).reverse
end Go.Proofs.YtpkhdajnppoinaaGreat
