/- WhA WhB WhC WhD -/
import Derived.Test.YtnljadejcfgmaaaNtS

/- Whole numbers: what a value says of one; whole.signed, whole.Make. -/
namespace Go.Proofs.Ytnljadejcfgmaaa
open Go.RowKit
set_option maxRecDepth 100000

/-- A sign, and how great it is. -/
def sg (neg : Bool) (N : Nat) : Int := if neg then -(N : Int) else (N : Int)
theorem sg_natAbs (neg : Bool) (N : Nat) : (sg neg N).natAbs = N := by unfold sg; split <;> omega
theorem sg_true (N : Nat) : sg true N = -(N : Int) := rfl
theorem sg_false (N : Nat) : sg false N = (N : Int) := rfl
theorem sg_zero (neg : Bool) : sg neg 0 = 0 := by unfold sg; split <;> omega
theorem sg_neg (neg : Bool) {N : Nat} (h : 0 < N) : decide (sg neg N < 0) = neg := by
  unfold sg; cases neg <;> simp <;> omega
theorem sg_self (z : Int) : sg (decide (z < 0)) z.natAbs = z := by
  unfold sg
  by_cases h : z < 0
  · rw [if_pos (by simpa using h)]; omega
  · rw [if_neg (by simpa using h)]; omega

/-- A whole number as it may be handed in. -/
def Wz (w : World) (v : Value) (z : Int) : Prop := ∃ neg a N, v = .agg #[.bool neg, a] ∧ Nt w a N ∧ z = sg neg N
/-- A whole number as it is answered. -/
def Wc (w : World) (v : Value) (z : Int) : Prop := ∃ a, v = .agg #[.bool (decide (z < 0)), a] ∧ Dg w .u32 B32 a z.natAbs
theorem Wz.below {w w' : World} {v : Value} {z : Int} (h : Wz w v z) (hb : Below w.heap.size w w') : Wz w' v z := by
  obtain ⟨neg, a, N, h1, h2, h3⟩ := h
  exact ⟨neg, a, N, h1, h2.below hb, h3⟩
theorem Wc.below {w w' : World} {v : Value} {z : Int} (h : Wc w v z) (hb : Below w.heap.size w w') : Wc w' v z := by
  obtain ⟨a, h1, h2⟩ := h
  exact ⟨a, h1, h2.below hb⟩
theorem Wc.wz {w : World} {v : Value} {z : Int} (h : Wc w v z) : Wz w v z := by
  obtain ⟨a, h1, h2⟩ := h
  exact ⟨_, a, z.natAbs, h1, h2.nt, (sg_self z).symm⟩
theorem Keep.wc {w w' : World} (k : Keep w w') {v : Value} {z : Int} (h : Wc w v z) : Wc w' v z := by
  obtain ⟨a, h1, h2⟩ := h
  exact ⟨a, h1, k.dg h2⟩
theorem Keep.wz {w w' : World} (k : Keep w w') {v : Value} {z : Int} (h : Wz w v z) : Wz w' v z := by
  obtain ⟨neg, a, N, h1, h2, h3⟩ := h
  exact ⟨neg, a, N, h1, k.nt h2, h3⟩
theorem Wz.shape {w : World} {v : Value} {z : Int} (h : Wz w v z) : ∃ neg ad n cap N, v = .agg #[.bool neg, .slice ad n cap] ∧ Nt w (.slice ad n cap) N ∧ z = sg neg N := by
  obtain ⟨neg, a, N, rfl, h2, h3⟩ := h
  obtain ⟨ad, n, cap, rfl⟩ := h2.shape
  exact ⟨neg, ad, n, cap, N, rfl, h2, h3⟩
def WcPost (w : World) (z : Int) (e : Ending) (w' : World) : Prop := ∃ v, e = .returned v ∧ Wc w' v z ∧ Below w.heap.size w w'

theorem Wc.zero (w : World) : Wc w (.agg #[.bool false, .slice none 0 0]) 0 :=
  ⟨_, rfl, Dg.zero _ _ _ _ (by unfold maxLen; omega) (fun _ => rfl)⟩
theorem Wc.sg {w : World} {neg : Bool} {v : Value} {N : Nat} (h : Dg w .u32 B32 v N) (hp : 0 < N) : Wc w (.agg #[.bool neg, v]) (sg neg N) :=
  ⟨v, by rw [sg_neg neg hp], by rw [sg_natAbs]; exact h⟩

theorem Wc.shape {w : World} {v : Value} {z : Int} (h : Wc w v z) : ∃ ad n cap, v = .agg #[.bool (decide (z < 0)), .slice ad n cap] ∧ Dg w .u32 B32 (.slice ad n cap) z.natAbs := by
  obtain ⟨a, rfl, h2⟩ := h
  have h3 := h2
  obtain ⟨ad, cap, rfl, _⟩ := h3
  exact ⟨ad, _, cap, rfl, h2⟩

theorem Wc.form {w : World} {v : Value} {z : Int} (h : Wc w v z) : ∃ (b : Bool) (ad : Option Addr) (n cap : Nat), v = .agg #[.bool b, .slice ad n cap] := by
  obtain ⟨ad, n, cap, h1, _⟩ := h.shape
  exact ⟨_, ad, n, cap, h1⟩

end Go.Proofs.Ytnljadejcfgmaaa

/- whole.Of, Sign. -/
namespace Go.Proofs.Ytnljadejcfgmaaa
open Go.RowKit
set_option maxRecDepth 100000

/-- -1, 0, 1. -/
def sz (z : Int) : Int := if z = 0 then 0 else if z < 0 then -1 else 1
/-- An int, and nothing below turned. -/
def IntPost (w : World) (n : Int) (e : Ending) (w' : World) : Prop := e = .returned (.int .i64 n) ∧ Below w.heap.size w w'
end Go.Proofs.Ytnljadejcfgmaaa

/- whole.plus. -/
namespace Go.Proofs.Ytnljadejcfgmaaa
open Go.RowKit
set_option maxRecDepth 100000

end Go.Proofs.Ytnljadejcfgmaaa

/- whole.Add, Sub. -/
namespace Go.Proofs.Ytnljadejcfgmaaa
open Go.RowKit
set_option maxRecDepth 100000

end Go.Proofs.Ytnljadejcfgmaaa
