/- RzA RzB RzC RzD RzE RzF -/
import Derived.Deep.RegionHeld3
import Derived.Test.YtnljadejcfgmaaaGE
import Derived.Test.YtnljadejcfgmaaaGT
import Derived.Test.YtnljadejcfgmaaaGU
import Derived.Test.YtnljadejcfgmaaaGL

/- The document's whole numbers: ref03.Make. -/
namespace Go.Proofs.Ytnljadejcfgmaaa
open Go.RowKit
set_option maxRecDepth 100000

theorem cell_bd {w : World} {a : Addr} {v : Value} (_h : w.cell? a = some v) : Below w.heap.size w w.drew := (Below.refl _ _).drew
/-- The document's whole number: a sign, digits of base 65536. -/
def Rz (w : World) (v : Value) (z : Int) : Prop := ∃ a, v = .agg #[.bool (decide (z < 0)), a] ∧ Dg w .i64 65536 a z.natAbs
theorem Rz.below {w w' : World} {v : Value} {z : Int} (h : Rz w v z) (hb : Below w.heap.size w w') : Rz w' v z := by
  obtain ⟨a, h1, h2⟩ := h
  exact ⟨a, h1, h2.below hb⟩
theorem Keep.rz {w w' : World} (k : Keep w w') {v : Value} {z : Int} (h : Rz w v z) : Rz w' v z := by
  obtain ⟨a, h1, h2⟩ := h
  exact ⟨a, h1, k.dg h2⟩
theorem Rz.shape {w : World} {v : Value} {z : Int} (h : Rz w v z) : ∃ b ad n cap, v = .agg #[.bool b, .slice ad n cap] ∧ Hid (b = decide (z < 0)) ∧ Dg w .i64 65536 (.slice ad n cap) z.natAbs := by
  obtain ⟨a, rfl, h2⟩ := h
  have h3 := h2
  obtain ⟨ad, cap, rfl, _⟩ := h3
  exact ⟨_, ad, _, cap, rfl, Lib.hid rfl, h2⟩
theorem Rz.form {w : World} {v : Value} {z : Int} (h : Rz w v z) : ∃ (b : Bool) (ad : Option Addr) (n cap : Nat), v = .agg #[.bool b, .slice ad n cap] := by
  obtain ⟨b, ad, n, cap, h1, _⟩ := h.shape
  exact ⟨b, ad, n, cap, h1⟩
def RzPost (w : World) (z : Int) (e : Ending) (w' : World) : Prop := ∃ v, e = .returned v ∧ Rz w' v z ∧ Below w.heap.size w w'
theorem Rz.sg {w : World} {neg : Bool} {v : Value} {N : Nat} (h : Dg w .i64 65536 v N) : Rz w (.agg #[.bool (neg && decide (0 < N)), v]) (sg neg N) := by
  refine ⟨v, ?_, by rw [sg_natAbs]; exact h⟩
  by_cases h0 : N = 0
  · subst h0; rw [sg_zero]; simp
  · rw [sg_neg neg (by omega), show decide (0 < N) = true from by simp; omega, Bool.and_true]
end Go.Proofs.Ytnljadejcfgmaaa

/- ref03.Opp, Sign, Mul. -/
namespace Go.Proofs.Ytnljadejcfgmaaa
open Go.RowKit
set_option maxRecDepth 100000

theorem sg_not {b : Bool} {z : Int} (h : b = decide (z < 0)) : sg (!b) z.natAbs = -z := by
  subst h; unfold sg
  by_cases h : z < 0
  · simp [h]; omega
  · simp [h]; omega
theorem sg_is {b : Bool} {z : Int} (h : b = decide (z < 0)) : sg b z.natAbs = z := by subst h; exact sg_self z
theorem Rz.len {w : World} {ad : Option Addr} {n cap N : Nat} (h : Dg w .i64 65536 (.slice ad n cap) N) : n = dl 65536 N := by
  obtain ⟨_, _, h1, _⟩ := h
  injection h1
end Go.Proofs.Ytnljadejcfgmaaa

/- ref03.Add. -/
namespace Go.Proofs.Ytnljadejcfgmaaa
open Go.RowKit
set_option maxRecDepth 100000

end Go.Proofs.Ytnljadejcfgmaaa

/- ref03.Cmp. -/
namespace Go.Proofs.Ytnljadejcfgmaaa
open Go.RowKit
set_option maxRecDepth 100000

theorem sz_sub (x y : Int) : sz (x + -y) = ci x y := by
  unfold sz ci
  split <;> (try split) <;> (try split) <;> (try split) <;> omega
end Go.Proofs.Ytnljadejcfgmaaa

/- ref02.Of, ref03.Of. -/
namespace Go.Proofs.Ytnljadejcfgmaaa
open Go.RowKit
set_option maxRecDepth 100000

def OfInv (w : World) (N : Nat) (n o i : Value) (wr : World) : Prop :=
  ∃ k m : Nat, k ≤ 4 ∧ k ≤ dl 65536 N ∧ i = .int .i64 k ∧ n = .int .i64 m ∧ m = N / 65536 ^ k ∧ Acc wr .i64 3 w.heap.size o ((dg 65536 N).take k) ∧ Below w.heap.size w wr

theorem of_more {N k : Nat} (h : 0 < N / 65536 ^ k) : k < dl 65536 N := by
  by_cases hk : k < dl 65536 N
  · exact hk
  · exfalso
    have h1 := lt_dl (b := 65536) (by omega) N
    have h2 : (65536 : Nat) ^ dl 65536 N ≤ 65536 ^ k := Nat.pow_le_pow_right (by omega) (by omega)
    rw [Nat.div_eq_of_lt (by omega)] at h
    omega
theorem of_done {N k : Nat} (h : N / 65536 ^ k = 0) : (dg 65536 N).take k = dg 65536 N := by
  have h1 : N < 65536 ^ k := by
    by_cases hh : N < 65536 ^ k
    · exact hh
    · have := Nat.div_pos (Nat.le_of_not_lt hh) (Nat.pow_pos (n := k) (show 0 < 65536 by omega)); omega
  exact List.take_of_length_le (dl_le (by omega) h1)
theorem of_four {N : Nat} (h : N < 18446744073709551616) : N / 65536 ^ 4 = 0 := Nat.div_eq_of_lt (Nat.lt_of_lt_of_le h (by decide))

end Go.Proofs.Ytnljadejcfgmaaa

/- ref03.Of. -/
namespace Go.Proofs.Ytnljadejcfgmaaa
open Go.RowKit
set_option maxRecDepth 100000

end Go.Proofs.Ytnljadejcfgmaaa
