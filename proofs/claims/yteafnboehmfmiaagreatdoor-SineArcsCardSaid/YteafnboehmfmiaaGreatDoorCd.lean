/- What the tied cards of the seat share. -/
import Derived.Test.YteafnboehmfmiaaGreatDoorRows
import GoSem.ClaimSeven
import Derived.KernelRfl
namespace Go.Proofs.YteafnboehmfmiaaGreatDoor
theorem main_is : Tryz.pinned.checked.prog.mainIs = some (true, "d89dd36d014eba81a81b46ea7f2fc0c55c1614b740cc4faf852397e9f1d50e6b".toList) := by kernel_rfl
theorem looks_is : false = Tryz.pinned.checked.prog.looks [] := by kernel_rfl
end Go.Proofs.YteafnboehmfmiaaGreatDoor
