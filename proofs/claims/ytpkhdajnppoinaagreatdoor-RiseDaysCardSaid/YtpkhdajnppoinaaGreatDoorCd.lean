/- What the tied cards of the seat share. -/
import Derived.Test.YtpkhdajnppoinaaGreatDoorRows
import GoSem.ClaimSeven
import Derived.KernelRfl
namespace Go.Proofs.YtpkhdajnppoinaaGreatDoor
theorem main_is : Tryz.pinned.checked.prog.mainIs = some (true, "dd175ff866c4b6f9af7bf768bd1e4fc8a78ff92d53146c01aa4ce7166a8fa472".toList) := by kernel_rfl
theorem looks_is : false = Tryz.pinned.checked.prog.looks [] := by kernel_rfl
end Go.Proofs.YtpkhdajnppoinaaGreatDoor
