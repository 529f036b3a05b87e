/- The document's place. -/
import Derived.Test.YtpkhdajnppoinaaGO
import Derived.Test.YtpkhdajnppoinaaGI
namespace Go.Proofs.Ytpkhdajnppoinaa
open Go.RowKit
set_option maxRecDepth 100000
set_option linter.unusedVariables false

theorem sz_RPl : (Try.prog.info? 40).map (·.size) = some 6 := by kernel_rfl
theorem ze_RPl : (Try.prog.info? 40).bind (·.zero) = some (.agg #[.bool false, .slice none 0 0, .slice none 0 0, .bool false, .slice none 0 0, .slice none 0 0]) := by kernel_rfl
theorem ld_RPl {w : World} {g o : Nat} {cs vs : List Value} (h : Own w g cs) (hv : (cs.drop o).take 6 = vs) (hl : vs.length = 6) : (Instr.loadAt 40 (.pointer (some ⟨g, o, none⟩))).run Try.prog w = .ok (.agg vs.toArray) w := own_load h hv hl Try.underlying40 rfl sz_RPl
theorem st_RPl {w : World} {g o : Nat} {cs ws vs : List Value} (h : Own w g cs) (hl : vs.length = 6) (ho : Nat.ble (o + 6) cs.length = true) (h1 : ∀ v ∈ vs, v.oneCell' = true) (hn : ∀ v ∈ vs, notInt v) (hw : cs.take o ++ vs ++ cs.drop (o + 6) = ws) : ∃ w', (∀ v : Value, v.cells = vs.toArray → (Instr.storeAt 40 (.pointer (some ⟨g, o, none⟩)) v).run Try.prog w = .ok () w') ∧ Turned g w w' ∧ Own w' g ws := own_store h sz_RPl hl ho h1 hn hw
theorem fa_RPl_0 {w : World} {g o p : Nat} (hp : o + 0 = p) : (Instr.fieldAt 40 (.pointer (some ⟨g, o, none⟩)) 0).run Try.prog w = .ok (.pointer (some ⟨g, p, none⟩)) w := own_field Try.underlying40 rfl rfl sz_RRat rfl p hp
theorem fa_RPl_1 {w : World} {g o p : Nat} (hp : o + 3 = p) : (Instr.fieldAt 40 (.pointer (some ⟨g, o, none⟩)) 1).run Try.prog w = .ok (.pointer (some ⟨g, p, none⟩)) w := own_field Try.underlying40 rfl rfl sz_RRat rfl p hp
theorem bd_RPl_  (w : World) : (Instr.build 40 #[]).run Try.prog w = .ok (.agg #[.bool false, .slice none 0 0, .slice none 0 0, .bool false, .slice none 0 0, .slice none 0 0]) w := by
  have hz := zero_run ze_RPl w
  have h_RRat : ∀ w, (sizeOf 38).run Try.prog w = .ok 3 w := fun w => size_run sz_RRat w
  simp only [Instr.build, Sem.run_bind, hz, Result.andThen_ok, run_underlying Try.underlying40, List.mapM_toArray, List.mapM_cons, List.mapM_nil, Sem.run_map, h_RRat, Sem.run_pure]
  rfl
theorem fill3p {place : Nat → Option (Nat × Nat)} {cells : Array Value} {i off : Nat} {x y z : Value} {rest : List (Nat × Value)} (hp : place i = some (off, 3)) (hc : off + 3 ≤ cells.size) :
    Instr.fill place cells ((i, .agg #[x, y, z]) :: rest) = Instr.fill place (((cells.setIfInBounds off x).setIfInBounds (off + 1) y).setIfInBounds (off + 2) z) rest := by
  conv => lhs; unfold Instr.fill
  rw [hp]
  have h1 : (Value.agg #[x, y, z]).cells = #[x, y, z] := rfl
  simp only [h1]
  rw [if_neg (by simp; omega)]
  have h2 : ∀ f : Array Value → Value × Nat → Array Value, Array.foldl f cells #[x, y, z].zipIdx = f (f (f cells (x, 0)) (y, 1)) (z, 2) := fun f => rfl
  rw [h2]
  rfl
theorem bd_RPl_01 (b00 : Bool) (a01 : Option Addr) (n01 c01 : Nat) (a02 : Option Addr) (n02 c02 : Nat) (b10 : Bool) (a11 : Option Addr) (n11 c11 : Nat) (a12 : Option Addr) (n12 c12 : Nat) (w : World) : (Instr.build 40 #[(0, .agg #[.bool b00, .slice a01 n01 c01, .slice a02 n02 c02]), (1, .agg #[.bool b10, .slice a11 n11 c11, .slice a12 n12 c12])]).run Try.prog w = .ok (.agg #[.bool b00, .slice a01 n01 c01, .slice a02 n02 c02, .bool b10, .slice a11 n11 c11, .slice a12 n12 c12]) w := by
  have hz := zero_run ze_RPl w
  have h_RRat : ∀ w, (sizeOf 38).run Try.prog w = .ok 3 w := fun w => size_run sz_RRat w
  simp only [Instr.build, Sem.run_bind, hz, Result.andThen_ok, run_underlying Try.underlying40, List.mapM_toArray, List.mapM_cons, List.mapM_nil, Sem.run_map, h_RRat, Sem.run_pure]
  rw [show (Value.agg #[Value.bool false, Value.slice none 0 0, Value.slice none 0 0, Value.bool false, Value.slice none 0 0, Value.slice none 0 0]).cells = #[Value.bool false, Value.slice none 0 0, Value.slice none 0 0, Value.bool false, Value.slice none 0 0, Value.slice none 0 0] from rfl]
  rw [fill3p (off := 0) rfl (by simp), fill3p (off := 3) rfl (by simp)]
  simp only [List.setIfInBounds_toArray, List.set_cons_zero, List.set_cons_succ, Nat.reduceAdd, Nat.zero_add]
  rfl
theorem fv_RPl_0 (bx0 : Bool) (ax1 : Option Addr) (nx1 cx1 : Nat) (ax2 : Option Addr) (nx2 cx2 : Nat) (bx3 : Bool) (ax4 : Option Addr) (nx4 cx4 : Nat) (ax5 : Option Addr) (nx5 cx5 : Nat) (w : World) : (Instr.field 40 (.agg #[.bool bx0, .slice ax1 nx1 cx1, .slice ax2 nx2 cx2, .bool bx3, .slice ax4 nx4 cx4, .slice ax5 nx5 cx5]) 0).run Try.prog w = .ok (.agg #[.bool bx0, .slice ax1 nx1 cx1, .slice ax2 nx2 cx2]) w := by
  have ha : (isAgg 38).run Try.prog w = .ok true w := by
    unfold isAgg
    rw [Sem.run_bind, run_underlying Try.underlying38 w]
    rfl
  simp only [Instr.field, Sem.run_bind, run_underlying Try.underlying40, Result.andThen_ok]
  show ((part 38 #[.bool bx0, .slice ax1 nx1 cx1, .slice ax2 nx2 cx2, .bool bx3, .slice ax4 nx4 cx4, .slice ax5 nx5 cx5] 0).run Try.prog w) = _
  simp only [part, Sem.run_bind, ha, Result.andThen_ok]
  rfl
theorem fv_RPl_1 (bx0 : Bool) (ax1 : Option Addr) (nx1 cx1 : Nat) (ax2 : Option Addr) (nx2 cx2 : Nat) (bx3 : Bool) (ax4 : Option Addr) (nx4 cx4 : Nat) (ax5 : Option Addr) (nx5 cx5 : Nat) (w : World) : (Instr.field 40 (.agg #[.bool bx0, .slice ax1 nx1 cx1, .slice ax2 nx2 cx2, .bool bx3, .slice ax4 nx4 cx4, .slice ax5 nx5 cx5]) 1).run Try.prog w = .ok (.agg #[.bool bx3, .slice ax4 nx4 cx4, .slice ax5 nx5 cx5]) w := by
  have ha : (isAgg 38).run Try.prog w = .ok true w := by
    unfold isAgg
    rw [Sem.run_bind, run_underlying Try.underlying38 w]
    rfl
  simp only [Instr.field, Sem.run_bind, run_underlying Try.underlying40, Result.andThen_ok]
  show ((part 38 #[.bool bx0, .slice ax1 nx1 cx1, .slice ax2 nx2 cx2, .bool bx3, .slice ax4 nx4 cx4, .slice ax5 nx5 cx5] 3).run Try.prog w) = _
  simp only [part, Sem.run_bind, ha, Result.andThen_ok]
  rfl
/-- The document's place of two angles. -/
def RPl (w : World) (v : Value) (p q : Rat) (k : Nat) : Prop :=
  ∃ b1 a1 n1 c1 d1 m1 e1 b2 a2 n2 c2 d2 m2 e2, v = .agg #[.bool b1, .slice a1 n1 c1, .slice d1 m1 e1, .bool b2, .slice a2 n2 c2, .slice d2 m2 e2] ∧ Rr w (.agg #[.bool b1, .slice a1 n1 c1, .slice d1 m1 e1]) p k ∧ Rr w (.agg #[.bool b2, .slice a2 n2 c2, .slice d2 m2 e2]) q k
theorem RPl.below {w w' : World} {v : Value} {p q : Rat} {k : Nat} (h : RPl w v p q k) (hb : Below w.heap.size w w') : RPl w' v p q k := by
  obtain ⟨b1, a1, n1, c1, d1, m1, e1, b2, a2, n2, c2, d2, m2, e2, h0, h1, h2⟩ := h
  exact ⟨b1, a1, n1, c1, d1, m1, e1, b2, a2, n2, c2, d2, m2, e2, h0, h1.below hb, h2.below hb⟩
theorem RPl.keep {w w' : World} {v : Value} {p q : Rat} {k : Nat} (h : RPl w v p q k) (kp : Keep w w') : RPl w' v p q k := by
  obtain ⟨b1, a1, n1, c1, d1, m1, e1, b2, a2, n2, c2, d2, m2, e2, h0, h1, h2⟩ := h
  exact ⟨b1, a1, n1, c1, d1, m1, e1, b2, a2, n2, c2, d2, m2, e2, h0, h1.keep kp, h2.keep kp⟩
theorem RPl.cl {p q : Rat} {k : Nat} (v : Value) : Cl fun w => RPl w v p q k := fun _ _ h kp => h.keep kp
theorem RPl.form {w : World} {v : Value} {p q : Rat} {k : Nat} (h : RPl w v p q k) : ∃ b1 a1 n1 c1 d1 m1 e1 b2 a2 n2 c2 d2 m2 e2, v = .agg #[.bool b1, .slice a1 n1 c1, .slice d1 m1 e1, .bool b2, .slice a2 n2 c2, .slice d2 m2 e2] := by
  obtain ⟨b1, a1, n1, c1, d1, m1, e1, b2, a2, n2, c2, d2, m2, e2, h0, h1, h2⟩ := h
  exact ⟨b1, a1, n1, c1, d1, m1, e1, b2, a2, n2, c2, d2, m2, e2, h0⟩
theorem RPl.shape {w : World} {v : Value} {p q : Rat} {k : Nat} (h : RPl w v p q k) : ∃ b1 a1 n1 c1 d1 m1 e1 b2 a2 n2 c2 d2 m2 e2, v = .agg #[.bool b1, .slice a1 n1 c1, .slice d1 m1 e1, .bool b2, .slice a2 n2 c2, .slice d2 m2 e2] ∧ Rr w (.agg #[.bool b1, .slice a1 n1 c1, .slice d1 m1 e1]) p k ∧ Rr w (.agg #[.bool b2, .slice a2 n2 c2, .slice d2 m2 e2]) q k := h
theorem RPl.mono (p q : Rat) (k : Nat) : ∀ w w' v, RPl w v p q k → Below w.heap.size w w' → RPl w' v p q k := fun _ _ _ h hb => h.below hb
def RPlPost (w : World) (p q : Rat) (k : Nat) (e : Ending) (w' : World) : Prop := ∃ v, e = .returned v ∧ RPl w' v p q k ∧ Below w.heap.size w w'
theorem ty_RPl : Ty Try.prog 40 6 [.bool false, .slice none 0 0, .slice none 0 0, .bool false, .slice none 0 0, .slice none 0 0] := ⟨⟨_, Try.underlying40, rfl⟩, sz_RPl, ze_RPl⟩
end Go.Proofs.Ytpkhdajnppoinaa
