/- What the tied cards of the seat share. -/
import Derived.Test.YtdkmjclbhfnegaaDoorRows
import GoSem.ClaimSeven
import Derived.KernelRfl
namespace Go.Proofs.YtdkmjclbhfnegaaDoor
theorem main_is : Tryd.pinned.checked.prog.mainIs = some (true, "81b038761d22a4eebad912a9bd7755a28b5d5bdc85c1aeea263607cef5c60b04".toList) := by kernel_rfl
theorem looks_is : false = Tryd.pinned.checked.prog.looks [] := by kernel_rfl
end Go.Proofs.YtdkmjclbhfnegaaDoor
