import Derived.Test.YtdkmjclbhfnegaaDoorKA21
namespace Go.Proofs.YtdkmjclbhfnegaaDoor
open Go.RowKit
set_option maxRecDepth 100000
set_option linter.unusedVariables false
set_option maxHeartbeats 8000000
section
section
def KeepU (w w':World):Prop:=∀ad xs,Rd w .u32 ad xs→Rd w' .u32 ad xs
def ClU (F:World→Prop):Prop:=∀w w',F w→KeepU w w'→F w'
theorem clU0:∀F∈([]:List (World→Prop)),ClU F:=fun _ h=>by cases h
section
variable {W w w':World} {bs:List (Nat×List Value)} {fs:List (World→Prop)}
end
section
variable {P:Program} {ops:Array Oper} {Q:Exit→Act→World→Prop} {W w:World} {bs:List (Nat×List Value)} {fs:List (World→Prop)} {nt d:Nat} {L:List (Nat×Value)} {rest:List Oper} {a:Act} {T:TypeId} {x y:Operand} {ty:TypeId} {pos:String} {af:Array Edge}
end
section
variable {P:Program} {ops:Array Oper} {Q:Exit→Act→World→Prop} {W w:World} {bs:List (Nat×List Value)} {fs:List (World→Prop)} {nt d:Nat} {L:List (Nat×Value)} {rest:List Oper} {a:Act} {T:TypeId} {ty:TypeId} {pos:String} {af:Array Edge}
end
end
end
end Go.Proofs.YtdkmjclbhfnegaaDoor
