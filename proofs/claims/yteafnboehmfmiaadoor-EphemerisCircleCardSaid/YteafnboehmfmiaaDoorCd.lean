/- What the tied cards of the seat share. -/
import Derived.Test.YteafnboehmfmiaaDoorRows
import GoSem.ClaimSeven
import Derived.KernelRfl
namespace Go.Proofs.YteafnboehmfmiaaDoor
theorem main_is : Tryd.pinned.checked.prog.mainIs = some (true, "d3fadd8fd2626c9c4a6fbedfc13280faa2c6250523040b9406a0bb98f499fb1b".toList) := by kernel_rfl
theorem looks_is : false = Tryd.pinned.checked.prog.looks [] := by kernel_rfl
end Go.Proofs.YteafnboehmfmiaaDoor
