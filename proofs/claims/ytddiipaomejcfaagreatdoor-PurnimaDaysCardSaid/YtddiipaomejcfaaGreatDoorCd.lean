/- What the tied cards of the seat share. -/
import Derived.Test.YtddiipaomejcfaaGreatDoorRows
import GoSem.ClaimSeven
import Derived.KernelRfl
namespace Go.Proofs.YtddiipaomejcfaaGreatDoor
theorem main_is : Tryz.pinned.checked.prog.mainIs = some (true, "eb73d24495fc61b0293f71ed66abeeafb838c597c38aed539b9e4910de48c86e".toList) := by kernel_rfl
theorem looks_is : false = Tryz.pinned.checked.prog.looks [] := by kernel_rfl
end Go.Proofs.YtddiipaomejcfaaGreatDoor
