/- That functions are called (newer ones). -/
import Derived.Test.YtnljadejcfgmaaaRg
namespace Go.Proofs.Ytnljadejcfgmaaa
open Go.RowKit
set_option maxRecDepth 100000
set_option linter.unusedVariables false

theorem k7 : CallOk Try.prog 7 := ⟨_, Try.func7, by decide +kernel, by kernel_rfl⟩
theorem k8 : CallOk Try.prog 8 := ⟨_, Try.func8, by decide +kernel, by kernel_rfl⟩
theorem k5 : CallOk Try.prog 5 := ⟨_, Try.func5, by decide +kernel, by kernel_rfl⟩
theorem k4 : CallOk Try.prog 4 := ⟨_, Try.func4, by decide +kernel, by kernel_rfl⟩
theorem k9 : CallOk Try.prog 9 := ⟨_, Try.func9, by decide +kernel, by kernel_rfl⟩
theorem k6 : CallOk Try.prog 6 := ⟨_, Try.func6, by decide +kernel, by kernel_rfl⟩
end Go.Proofs.Ytnljadejcfgmaaa
