import Derived.Test.YtnljadejcfgmaaaGreatDoorKA25
namespace Go.Proofs.YtnljadejcfgmaaaGreatDoor
open Go.RowKit
set_option maxRecDepth 100000
set_option linter.unusedVariables false
set_option maxHeartbeats 8000000
theorem k49:CallOk Tryz.prog 49:=⟨_,Tryz.func49,by decide+kernel,by kernel_rfl⟩
theorem k87:CallOk Tryz.prog 87:=⟨_,Tryz.func87,by decide+kernel,by kernel_rfl⟩
theorem k29:CallOk Tryz.prog 29:=⟨_,Tryz.func29,by decide+kernel,by kernel_rfl⟩
theorem k25:CallOk Tryz.prog 25:=⟨_,Tryz.func25,by decide+kernel,by kernel_rfl⟩
theorem k86:CallOk Tryz.prog 86:=⟨_,Tryz.func86,by decide+kernel,by kernel_rfl⟩
theorem k92:CallOk Tryz.prog 92:=⟨_,Tryz.func92,by decide+kernel,by kernel_rfl⟩
theorem k90:CallOk Tryz.prog 90:=⟨_,Tryz.func90,by decide+kernel,by kernel_rfl⟩
end Go.Proofs.YtnljadejcfgmaaaGreatDoor
