/- A part of a block of numbers is written. -/
import Derived.Test.YtpkhdajnppoinaaGI
namespace Go.Proofs.Ytpkhdajnppoinaa
open Go.RowKit
set_option maxRecDepth 100000
set_option linter.unusedVariables false

section
variable {P : Program} {ops : Array Oper} {Q : Exit → Act → World → Prop} {W w : World} {bs : List (Nat × List Value)} {fs : List (World → Prop)} {nt d : Nat} {L : List (Nat × Value)} {rest : List Oper} {a : Act} {T : TypeId} {x y : Operand} {v : Value} {cs vs zs : List Value} {g n : Nat} {ty : TypeId} {pos : String} {af : Array Edge}
/-- A part of a block that holds numbers is written: no facts stand behind it. -/
theorem S.stooI {o : Nat} {ws : List Value} (st : St W w bs fs) (hF : Fr nt a L) (i : Nat) (hb : bs[i]? = some (g, cs)) (he : a.eval x = .pointer (some ⟨g, o, none⟩)) (hv : a.eval y = v) (hcv : v.cells = vs.toArray) (hT : (P.info? T).map (·.size) = some n) (hl : vs.length = n) (ho : Nat.ble (o + n) cs.length = true) (hc' : vs.all cell1 = true) (hw : cs.take o ++ vs ++ cs.drop (o + n) = ws)
    (k : ∀ w' a', St W w' (bs.set i (g, ws)) [] → Fr nt a' L → wpS P ops Q rest a' w') : wpS P ops Q (⟨none, .store T x y, ty, pos, af, none⟩ :: rest) a w := by
  obtain ⟨w1, hr, tu, on⟩ := blk_store (P := P) (o := o) (ws := ws) (st.bk i hb) hT hl ho (cell1.oc hc') hw
  exact E.st hF (r_store he hv (hr _ hcv)) rfl rfl fun a' hF' => k w1 a' (st.setI i hb tu on) hF'
end
end Go.Proofs.Ytpkhdajnppoinaa
