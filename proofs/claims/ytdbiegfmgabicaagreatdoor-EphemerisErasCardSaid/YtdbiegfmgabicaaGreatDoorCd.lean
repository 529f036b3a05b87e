/- What the tied cards of the seat share. -/
import Derived.Test.YtdbiegfmgabicaaGreatDoorRows
import GoSem.ClaimSeven
import Derived.KernelRfl
namespace Go.Proofs.YtdbiegfmgabicaaGreatDoor
theorem main_is : Tryz.pinned.checked.prog.mainIs = some (true, "a763a1409b365c71ad7e200f1dd2eec6f40abc3da9f618cc9ce37827de347739".toList) := by kernel_rfl
theorem looks_is : false = Tryz.pinned.checked.prog.looks [] := by kernel_rfl
end Go.Proofs.YtdbiegfmgabicaaGreatDoor
