/- What the tied cards of the seat share. -/
import Derived.Test.YtgdpkknapcgcbaaGreatDoorRows
import GoSem.ClaimSeven
import Derived.KernelRfl
namespace Go.Proofs.YtgdpkknapcgcbaaGreatDoor
theorem main_is : Tryz.pinned.checked.prog.mainIs = some (true, "5d657ca230917a1f103d2ad5461352f839a02abcb3f7807d5672e577b146ac0c".toList) := by kernel_rfl
theorem looks_is : false = Tryz.pinned.checked.prog.looks [] := by kernel_rfl
end Go.Proofs.YtgdpkknapcgcbaaGreatDoor
