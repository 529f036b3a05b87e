/- What the tied cards of the seat share. -/
import Derived.Test.YtcgbllbhagijjaaDoorRows
import GoSem.ClaimSeven
import Derived.KernelRfl
namespace Go.Proofs.YtcgbllbhagijjaaDoor
theorem main_is : Tryd.pinned.checked.prog.mainIs = some (true, "ff1ba36dbf670d3c41f7fa2862d1ce5195a4c7036914166965e4d75d96c6ef4e".toList) := by kernel_rfl
theorem looks_is : false = Tryd.pinned.checked.prog.looks [] := by kernel_rfl
end Go.Proofs.YtcgbllbhagijjaaDoor
