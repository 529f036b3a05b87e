/- What the tied cards of the seat share. -/
import Derived.Test.YtplngpfpcheofaaGreatDoorRows
import GoSem.ClaimSeven
import Derived.KernelRfl
namespace Go.Proofs.YtplngpfpcheofaaGreatDoor
theorem main_is : Tryz.pinned.checked.prog.mainIs = some (true, "694e97fb0dd963b7048202cb2c4898b1ac93110231eacd157d49d38fe4a297c1".toList) := by kernel_rfl
theorem looks_is : false = Tryz.pinned.checked.prog.looks [] := by kernel_rfl
end Go.Proofs.YtplngpfpcheofaaGreatDoor
