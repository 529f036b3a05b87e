import Derived.Test.YtdkmjclbhfnegaaDoorKA19
import Derived.Laws.BytesString
import Derived.Laws.StructEq
import Derived.Deep.RegionHeld3
import Derived.OpenShut
import Derived.Deep.LoopGhost
namespace Go.Proofs.YtdkmjclbhfnegaaDoor
open Go.RowKit
set_option maxRecDepth 100000
set_option linter.unusedVariables false
set_option maxHeartbeats 8000000
section
section
end
section
def bstr (xs:List Nat):ByteArray:=⟨(xs.map UInt8.ofNat).toArray⟩
theorem bstr_size (xs:List Nat):(bstr xs).size =xs.length:=by simp[bstr,ByteArray.size]
theorem bstr_append (xs ys:List Nat):bstr xs++bstr ys=bstr (xs++ys):=by
 apply ByteArray.ext
 simp[bstr,ByteArray.data_append]
theorem bstr_toList (xs:List Nat):(bstr xs).toList =xs.map UInt8.ofNat:=by
 rw[ByteArray.toList_eq];simp[bstr]
section
variable {P:Program} {w:World}
theorem bl_str {t ty:TypeId} {s:List Nat} (ht:P.underlying t=some .string):(builtin .len #[t] ty #[false] #[.string (bstr s)]).run P w= .ok (.value (.int .i64 ((s.length:Nat):Int))) w:=by
 simp[Builtin.len_,go_sem,bstr_size,run_underlying ht]
theorem sb_eq {t:TypeId} {xs ys:List Nat} {c:Bool} (h:(xs.map UInt8.ofNat == ys.map UInt8.ofNat)=c):(binOp .eql t (.string (bstr xs)) (.string (bstr ys))).run P w= .ok (.bool c) w:=by
 subst h
 simp only [binOp,Op.stringOp,bstr_toList];rfl
theorem sb_ne {t:TypeId} {xs ys:List Nat} {c:Bool} (h:(!(xs.map UInt8.ofNat == ys.map UInt8.ofNat))=c):(binOp .neq t (.string (bstr xs)) (.string (bstr ys))).run P w= .ok (.bool c) w:=by
 subst h
 simp only [binOp,Op.stringOp,bstr_toList];rfl
theorem sb_add {t:TypeId} {xs ys:List Nat} (h:xs.length+ys.length≤9223372036854775807):(binOp .add t (.string (bstr xs)) (.string (bstr ys))).run P w= .ok (.string (bstr (xs++ys))) w:=by
 have h':¬(((bstr xs).size +(bstr ys).size :Nat):Int)>IntKind.i64.max:=by
  rw[bstr_size,bstr_size];simp[IntKind.max,IntKind.bits,IntKind.signed];omega
 simp only [binOp,Op.stringOp,if_neg h',bstr_append]
 rfl
theorem eg_str {op:BinOp} {t:TypeId} {x y:Operand} {a b:ByteArray}:(eqGuard op t x y (.string a) (.string b)).run P w= .ok () w:=by
 unfold eqGuard;split <;> rfl
end
end
section
end
section
end
section
section
variable {P:Program} {ops:Array Oper} {Q:Exit→Act→World→Prop}
end
section
variable {ops:Array Oper} {nt:Nat} {L:List (Nat×Value)} {rval:Nat→Value} {St:List Nat→World→Prop} {ys z1 z2:List Nat} {d:Nat→Bool} {a:Act} {w w':World}
end
end
section
end
section
end
section
end
end
end Go.Proofs.YtdkmjclbhfnegaaDoor
