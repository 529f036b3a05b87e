/- What the tied cards of the seat share. -/
import Derived.Test.YtmpdbkdijfpbbaaGreatDoorRows
import GoSem.ClaimSeven
import Derived.KernelRfl
namespace Go.Proofs.YtmpdbkdijfpbbaaGreatDoor
theorem main_is : Tryz.pinned.checked.prog.mainIs = some (true, "693f2c20b2eac11903c42a7d3bfe93cefd6c1622f5a802164d0c996bd1e8703a".toList) := by kernel_rfl
theorem looks_is : false = Tryz.pinned.checked.prog.looks [] := by kernel_rfl
end Go.Proofs.YtmpdbkdijfpbbaaGreatDoor
