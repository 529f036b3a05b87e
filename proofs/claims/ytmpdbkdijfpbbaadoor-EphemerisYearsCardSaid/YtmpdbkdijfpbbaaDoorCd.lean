/- What the tied cards of the seat share. -/
import Derived.Test.YtmpdbkdijfpbbaaDoorRows
import GoSem.ClaimSeven
import Derived.KernelRfl
namespace Go.Proofs.YtmpdbkdijfpbbaaDoor
theorem main_is : Tryd.pinned.checked.prog.mainIs = some (true, "737ee5940bb5e7ed431b9ed5b5f071819b88e9f333425f0cf099894534e2ae61".toList) := by kernel_rfl
theorem looks_is : false = Tryd.pinned.checked.prog.looks [] := by kernel_rfl
end Go.Proofs.YtmpdbkdijfpbbaaDoor
