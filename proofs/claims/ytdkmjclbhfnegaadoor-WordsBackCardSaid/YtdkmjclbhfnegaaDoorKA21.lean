import Derived.Test.YtdkmjclbhfnegaaDoorKA20
import Derived.ScopeJumps
namespace Go.Proofs.YtdkmjclbhfnegaaDoor
open Go.RowKit
set_option maxRecDepth 100000
set_option linter.unusedVariables false
set_option maxHeartbeats 8000000
section
section
section
variable {P:Program} {Q:Exit→Act→World→Prop} {a:Act} {w:World}
end
section
variable {P:Program} {dst:Option Tmp} {ty:TypeId} {pos:String} {af:Array Edge} {gd:Option (Nat×Bool)} {a:Act} {w:World}
end
section
variable {P:Program} {ops:Array Oper} {Q:Exit→Act→World→Prop} {W w:World} {bs:List (Nat×List Value)} {fs:List (World→Prop)} {nt d:Nat} {L:List (Nat×Value)} {rest:List Oper} {a:Act} {T:TypeId} {x y:Operand} {ty:TypeId} {pos:String} {af:Array Edge}
end
section
variable {P:Program} {Q:Exit→Act→World→Prop} {W w:World} {bs:List (Nat×List Value)} {fs:List (World→Prop)} {nt n:Nat} {L:List (Nat×Value)} {a:Act} {T:TypeId} {zs:List Value}
end
theorem ze_int:(Tryd.prog.info? 3).bind (·.zero)=some (.int .i64 0):=by kernel_rfl
end
end
end Go.Proofs.YtdkmjclbhfnegaaDoor
