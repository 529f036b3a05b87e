import Derived.Test.YtdkmjclbhfnegaaDoorKA17
namespace Go.Proofs.YtdkmjclbhfnegaaDoor
open Go.RowKit
set_option maxRecDepth 100000
set_option linter.unusedVariables false
set_option maxHeartbeats 8000000
section
section
section
variable {P:Program} {f:FuncId} {args:Array Value} {w:World}
end
section
variable {P:Program} {ops:Array Oper} {Q:Exit→Act→World→Prop} {nt:Nat} {L:List (Nat×Value)} {W:World} {ds:List Nat} {ks:List Pk} {al:List Nat} {i:Nat} {dst:Option Tmp} {ty:TypeId} {pos:String} {af:Array Edge}
theorem rld {T:TypeId} {x:Operand} {g o:Nat} {v:Value} (h:(edgeOk af ds x && !al.contains i,ks[i]?,argK L ds ks x)=(true,some (.ex v),.ex (.pointer (some ⟨g,o,none⟩)))) (hl:∀w':World,Below W.heap.size W w'→(Instr.loadAt T (.pointer (some ⟨g,o,none⟩))).run P w'= .ok v w'):
 StepOk P ops Q nt L W ds (ks.map Pk.H) al i ⟨dst,.load T x,ty,pos,af,none⟩:=by
 intro a' w' hF hb hd
 simp only [Prod.mk.injEq] at h
 obtain⟨h1,h2,h3⟩:=h
 rw[Bool.and_eq_true,Bool.not_eq_true'] at h1
 have hx:=arg_is hF hd x h1.1
 rw[h3] at hx
 exact if_does (wanted_free rfl) (Does.vals (r_load hx (hl w' hb)) ⟨by rw[Hat_map,h2];rfl,Below.refl _ _,fun y=>by rw[h1.2] at y;cases y⟩)
end
end
end
end Go.Proofs.YtdkmjclbhfnegaaDoor
