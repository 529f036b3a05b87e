import Derived.Test.YtdkmjclbhfnegaaDoorKA17
namespace Go.Proofs.YtdkmjclbhfnegaaDoor
open Go.RowKit
set_option maxRecDepth 100000
set_option linter.unusedVariables false
set_option maxHeartbeats 8000000
theorem k10:CallOk Tryd.prog 10:=⟨_,Tryd.func10,by decide+kernel,by kernel_rfl⟩
theorem k6:CallOk Tryd.prog 6:=⟨_,Tryd.func6,by decide+kernel,by kernel_rfl⟩
theorem k8:CallOk Tryd.prog 8:=⟨_,Tryd.func8,by decide+kernel,by kernel_rfl⟩
theorem k12:CallOk Tryd.prog 12:=⟨_,Tryd.func12,by decide+kernel,by kernel_rfl⟩
theorem k14:CallOk Tryd.prog 14:=⟨_,Tryd.func14,by decide+kernel,by kernel_rfl⟩
theorem k7:CallOk Tryd.prog 7:=⟨_,Tryd.func7,by decide+kernel,by kernel_rfl⟩
theorem k11:CallOk Tryd.prog 11:=⟨_,Tryd.func11,by decide+kernel,by kernel_rfl⟩
theorem k9:CallOk Tryd.prog 9:=⟨_,Tryd.func9,by decide+kernel,by kernel_rfl⟩
theorem k16:CallOk Tryd.prog 16:=⟨_,Tryd.func16,by decide+kernel,by kernel_rfl⟩
theorem k13:CallOk Tryd.prog 13:=⟨_,Tryd.func13,by decide+kernel,by kernel_rfl⟩
theorem k15:CallOk Tryd.prog 15:=⟨_,Tryd.func15,by decide+kernel,by kernel_rfl⟩
end Go.Proofs.YtdkmjclbhfnegaaDoor
