/- Layer 12's structs. -/
import Derived.Test.YtpkhdajnppoinaaGO
import Derived.Test.YtpkhdajnppoinaaGH
namespace Go.Proofs.Ytpkhdajnppoinaa
open Go.RowKit
set_option maxRecDepth 100000
set_option linter.unusedVariables false

theorem pair4 {a : Act} {i j k l : Nat} {x y z u : Operand} {p q r s : Value} (h : a.eval x = p) (h2 : a.eval y = q) (h3 : a.eval z = r) (h4 : a.eval u = s) : (#[(i, x), (j, y), (k, z), (l, u)].map fun (p : Nat × Operand) => (p.1, a.eval p.2)) = #[(i, p), (j, q), (k, r), (l, s)] := by simp [h, h2, h3, h4]
theorem pair5 {a : Act} {i j k l m : Nat} {x y z u v : Operand} {p q r s t : Value} (h : a.eval x = p) (h2 : a.eval y = q) (h3 : a.eval z = r) (h4 : a.eval u = s) (h5 : a.eval v = t) : (#[(i, x), (j, y), (k, z), (l, u), (m, v)].map fun (p : Nat × Operand) => (p.1, a.eval p.2)) = #[(i, p), (j, q), (k, r), (l, s), (m, t)] := by simp [h, h2, h3, h4, h5]
theorem fill3 {place : Nat → Option (Nat × Nat)} {cells : Array Value} {i off : Nat} {x y z : Value} {rest : List (Nat × Value)} (hp : place i = some (off, 3)) (hc : off + 3 ≤ cells.size) :
    Instr.fill place cells ((i, .agg #[x, y, z]) :: rest) = Instr.fill place (((cells.setIfInBounds off x).setIfInBounds (off + 1) y).setIfInBounds (off + 2) z) rest := by
  conv => lhs; unfold Instr.fill
  rw [hp]
  have h1 : (Value.agg #[x, y, z]).cells = #[x, y, z] := rfl
  simp only [h1]
  rw [if_neg (by simp; omega)]
  have h2 : ∀ f : Array Value → Value × Nat → Array Value, Array.foldl f cells #[x, y, z].zipIdx = f (f (f cells (x, 0)) (y, 1)) (z, 2) := fun f => rfl
  rw [h2]
  rfl
/-- An orbit of four rational numbers. -/
def Orb (w : World) (v : Value) (p an s c : Rat) : Prop :=
  ∃ b1 a1 n1 c1 d1 m1 e1 b2 a2 n2 c2 d2 m2 e2 b3 a3 n3 c3 d3 m3 e3 b4 a4 n4 c4 d4 m4 e4, v = .agg #[.bool b1, .slice a1 n1 c1, .slice d1 m1 e1, .bool b2, .slice a2 n2 c2, .slice d2 m2 e2, .bool b3, .slice a3 n3 c3, .slice d3 m3 e3, .bool b4, .slice a4 n4 c4, .slice d4 m4 e4] ∧
    Rq w (.agg #[.bool b1, .slice a1 n1 c1, .slice d1 m1 e1]) p ∧ Rq w (.agg #[.bool b2, .slice a2 n2 c2, .slice d2 m2 e2]) an ∧ Rq w (.agg #[.bool b3, .slice a3 n3 c3, .slice d3 m3 e3]) s ∧ Rq w (.agg #[.bool b4, .slice a4 n4 c4, .slice d4 m4 e4]) c
theorem Orb.below {w w' : World} {v : Value} {p an s c : Rat} (h : Orb w v p an s c) (hb : Below w.heap.size w w') : Orb w' v p an s c := by
  obtain ⟨b1, a1, n1, c1, d1, m1, e1, b2, a2, n2, c2, d2, m2, e2, b3, a3, n3, c3, d3, m3, e3, b4, a4, n4, c4, d4, m4, e4, h0, h1, h2, h3, h4⟩ := h
  exact ⟨b1, a1, n1, c1, d1, m1, e1, b2, a2, n2, c2, d2, m2, e2, b3, a3, n3, c3, d3, m3, e3, b4, a4, n4, c4, d4, m4, e4, h0, h1.below hb, h2.below hb, h3.below hb, h4.below hb⟩
theorem Orb.keep {w w' : World} {v : Value} {p an s c : Rat} (h : Orb w v p an s c) (kp : Keep w w') : Orb w' v p an s c := by
  obtain ⟨b1, a1, n1, c1, d1, m1, e1, b2, a2, n2, c2, d2, m2, e2, b3, a3, n3, c3, d3, m3, e3, b4, a4, n4, c4, d4, m4, e4, h0, h1, h2, h3, h4⟩ := h
  exact ⟨b1, a1, n1, c1, d1, m1, e1, b2, a2, n2, c2, d2, m2, e2, b3, a3, n3, c3, d3, m3, e3, b4, a4, n4, c4, d4, m4, e4, h0, h1.keep kp, h2.keep kp, h3.keep kp, h4.keep kp⟩
theorem Orb.cl {p an s c : Rat} (v : Value) : Cl fun w => Orb w v p an s c := fun _ _ h kp => h.keep kp
def OrbPost (w : World) (p an s c : Rat) (e : Ending) (w' : World) : Prop := ∃ v, e = .returned v ∧ Orb w' v p an s c ∧ Below w.heap.size w w'
end Go.Proofs.Ytpkhdajnppoinaa
