/- That functions of layers 7 and 8 are entered. -/
import Derived.Test.YtcgbllbhagijjaaDoorTyI
namespace Go.Proofs.YtcgbllbhagijjaaDoor
open Go.RowKit
set_option maxRecDepth 100000
set_option linter.unusedVariables false

theorem en42 : (Tryd.f42.name == "runtime.NumGoroutine") = false ∧ Tryd.f42.body.isNone = false := ⟨by decide +kernel, by kernel_rfl⟩
theorem en24 : (Tryd.f24.name == "runtime.NumGoroutine") = false ∧ Tryd.f24.body.isNone = false := ⟨by decide +kernel, by kernel_rfl⟩
theorem en18 : (Tryd.f18.name == "runtime.NumGoroutine") = false ∧ Tryd.f18.body.isNone = false := ⟨by decide +kernel, by kernel_rfl⟩
theorem en20 : (Tryd.f20.name == "runtime.NumGoroutine") = false ∧ Tryd.f20.body.isNone = false := ⟨by decide +kernel, by kernel_rfl⟩
theorem en38 : (Tryd.f38.name == "runtime.NumGoroutine") = false ∧ Tryd.f38.body.isNone = false := ⟨by decide +kernel, by kernel_rfl⟩
theorem en40 : (Tryd.f40.name == "runtime.NumGoroutine") = false ∧ Tryd.f40.body.isNone = false := ⟨by decide +kernel, by kernel_rfl⟩
theorem en17 : (Tryd.f17.name == "runtime.NumGoroutine") = false ∧ Tryd.f17.body.isNone = false := ⟨by decide +kernel, by kernel_rfl⟩
theorem en39 : (Tryd.f39.name == "runtime.NumGoroutine") = false ∧ Tryd.f39.body.isNone = false := ⟨by decide +kernel, by kernel_rfl⟩
theorem en15 : (Tryd.f15.name == "runtime.NumGoroutine") = false ∧ Tryd.f15.body.isNone = false := ⟨by decide +kernel, by kernel_rfl⟩
theorem en19 : (Tryd.f19.name == "runtime.NumGoroutine") = false ∧ Tryd.f19.body.isNone = false := ⟨by decide +kernel, by kernel_rfl⟩
theorem en21 : (Tryd.f21.name == "runtime.NumGoroutine") = false ∧ Tryd.f21.body.isNone = false := ⟨by decide +kernel, by kernel_rfl⟩
theorem en49 : (Tryd.f49.name == "runtime.NumGoroutine") = false ∧ Tryd.f49.body.isNone = false := ⟨by decide +kernel, by kernel_rfl⟩
theorem en41 : (Tryd.f41.name == "runtime.NumGoroutine") = false ∧ Tryd.f41.body.isNone = false := ⟨by decide +kernel, by kernel_rfl⟩
theorem en16 : (Tryd.f16.name == "runtime.NumGoroutine") = false ∧ Tryd.f16.body.isNone = false := ⟨by decide +kernel, by kernel_rfl⟩
theorem en23 : (Tryd.f23.name == "runtime.NumGoroutine") = false ∧ Tryd.f23.body.isNone = false := ⟨by decide +kernel, by kernel_rfl⟩
theorem en14 : (Tryd.f14.name == "runtime.NumGoroutine") = false ∧ Tryd.f14.body.isNone = false := ⟨by decide +kernel, by kernel_rfl⟩
theorem en22 : (Tryd.f22.name == "runtime.NumGoroutine") = false ∧ Tryd.f22.body.isNone = false := ⟨by decide +kernel, by kernel_rfl⟩
theorem en50 : (Tryd.f50.name == "runtime.NumGoroutine") = false ∧ Tryd.f50.body.isNone = false := ⟨by decide +kernel, by kernel_rfl⟩
theorem en29 : (Tryd.f29.name == "runtime.NumGoroutine") = false ∧ Tryd.f29.body.isNone = false := ⟨by decide +kernel, by kernel_rfl⟩
theorem en31 : (Tryd.f31.name == "runtime.NumGoroutine") = false ∧ Tryd.f31.body.isNone = false := ⟨by decide +kernel, by kernel_rfl⟩
theorem en43 : (Tryd.f43.name == "runtime.NumGoroutine") = false ∧ Tryd.f43.body.isNone = false := ⟨by decide +kernel, by kernel_rfl⟩
theorem en45 : (Tryd.f45.name == "runtime.NumGoroutine") = false ∧ Tryd.f45.body.isNone = false := ⟨by decide +kernel, by kernel_rfl⟩
theorem en28 : (Tryd.f28.name == "runtime.NumGoroutine") = false ∧ Tryd.f28.body.isNone = false := ⟨by decide +kernel, by kernel_rfl⟩
theorem en44 : (Tryd.f44.name == "runtime.NumGoroutine") = false ∧ Tryd.f44.body.isNone = false := ⟨by decide +kernel, by kernel_rfl⟩
theorem en26 : (Tryd.f26.name == "runtime.NumGoroutine") = false ∧ Tryd.f26.body.isNone = false := ⟨by decide +kernel, by kernel_rfl⟩
theorem en30 : (Tryd.f30.name == "runtime.NumGoroutine") = false ∧ Tryd.f30.body.isNone = false := ⟨by decide +kernel, by kernel_rfl⟩
theorem en32 : (Tryd.f32.name == "runtime.NumGoroutine") = false ∧ Tryd.f32.body.isNone = false := ⟨by decide +kernel, by kernel_rfl⟩
theorem en51 : (Tryd.f51.name == "runtime.NumGoroutine") = false ∧ Tryd.f51.body.isNone = false := ⟨by decide +kernel, by kernel_rfl⟩
theorem en46 : (Tryd.f46.name == "runtime.NumGoroutine") = false ∧ Tryd.f46.body.isNone = false := ⟨by decide +kernel, by kernel_rfl⟩
theorem en27 : (Tryd.f27.name == "runtime.NumGoroutine") = false ∧ Tryd.f27.body.isNone = false := ⟨by decide +kernel, by kernel_rfl⟩
theorem en34 : (Tryd.f34.name == "runtime.NumGoroutine") = false ∧ Tryd.f34.body.isNone = false := ⟨by decide +kernel, by kernel_rfl⟩
theorem en25 : (Tryd.f25.name == "runtime.NumGoroutine") = false ∧ Tryd.f25.body.isNone = false := ⟨by decide +kernel, by kernel_rfl⟩
theorem en33 : (Tryd.f33.name == "runtime.NumGoroutine") = false ∧ Tryd.f33.body.isNone = false := ⟨by decide +kernel, by kernel_rfl⟩
theorem en35 : (Tryd.f35.name == "runtime.NumGoroutine") = false ∧ Tryd.f35.body.isNone = false := ⟨by decide +kernel, by kernel_rfl⟩
theorem en37 : (Tryd.f37.name == "runtime.NumGoroutine") = false ∧ Tryd.f37.body.isNone = false := ⟨by decide +kernel, by kernel_rfl⟩
end Go.Proofs.YtcgbllbhagijjaaDoor
