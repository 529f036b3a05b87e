import Derived.Test.YtpkhdajnppoinaaGreatDoorKA31
namespace Go.Proofs.YtpkhdajnppoinaaGreatDoor
open Go.RowKit
set_option maxRecDepth 100000
set_option linter.unusedVariables false
set_option maxHeartbeats 8000000
theorem qc_no {a b:Rat} (h:a≤b):¬0<qc a b:=by rw[qc_pos];grind
end Go.Proofs.YtpkhdajnppoinaaGreatDoor
