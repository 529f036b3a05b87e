/- What the tied cards of the seat share. -/
import Derived.Test.YtnljadejcfgmaaaGreatDoorRows
import GoSem.ClaimSeven
import Derived.KernelRfl
namespace Go.Proofs.YtnljadejcfgmaaaGreatDoor
theorem main_is : Tryz.pinned.checked.prog.mainIs = some (true, "60ef4d75bcb700be400508d8a901d7c9f3fe0a46a62d5e78e894d0ff63d7f921".toList) := by kernel_rfl
theorem looks_is : false = Tryz.pinned.checked.prog.looks [] := by kernel_rfl
end Go.Proofs.YtnljadejcfgmaaaGreatDoor
