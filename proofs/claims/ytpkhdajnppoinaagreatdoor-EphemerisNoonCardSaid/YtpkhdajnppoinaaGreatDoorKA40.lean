import Derived.Test.YtpkhdajnppoinaaGreatDoorKA38
namespace Go.Proofs.YtpkhdajnppoinaaGreatDoor
open Go.RowKit
set_option maxRecDepth 100000
set_option linter.unusedVariables false
set_option maxHeartbeats 8000000
theorem sz0_of {q:Rat} (h:q=0):sz q.num=0:=by subst h;rfl
theorem qc_lt0 {p q:Rat} (h:p<q):qc p q<0:=by rw[qc_def,if_pos h];decide
end Go.Proofs.YtpkhdajnppoinaaGreatDoor
