/- LawA LawB LawC -/
import Derived.Test.YtnljadejcfgmaaaGV
import Derived.Test.YtnljadejcfgmaaaGA
import Derived.Test.YtnljadejcfgmaaaRowIn
import Derived.Test.YtnljadejcfgmaaaGB

namespace Go.Proofs.Ytnljadejcfgmaaa
open Go.RowKit
set_option maxRecDepth 100000

theorem dg_two (a b : Nat) (hb : 0 < b) (h1 : a < 4294967296) (h2 : b < 4294967296) : dg B32 (a + b * 4294967296) = [a, b] := by
  have ho : okb B32 [a, b] := by intro x hx; simp at hx; rw [B32_eq]; omega
  have hn : norm [a, b] := by intro _; show b ≠ 0; omega
  have := dg_unique B32_two ho hn
  simp only [vl] at this
  rw [← this]; congr 1; rw [B32_eq]; omega

theorem dg_one (a : Nat) (h0 : 0 < a) (h1 : a < 4294967296) : dg B32 a = [a] := by
  have ho : okb B32 [a] := by intro x hx; simp at hx; rw [B32_eq]; omega
  have hn : norm [a] := by intro _; show a ≠ 0; omega
  have := dg_unique B32_two ho hn
  simp only [vl] at this
  rw [← this]; congr 1
def TruePost (w : World) (e : Ending) (w' : World) : Prop := e = .returned (.bool true) ∧ Below w.heap.size w w'
theorem dl33 : dl 2 4294967296 = 33 := dl_eq (k := 32) (by omega) (by decide) (by decide)

end Go.Proofs.Ytnljadejcfgmaaa

namespace Go.Proofs.Ytnljadejcfgmaaa
open Go.RowKit
set_option maxRecDepth 100000

theorem c3_add (p q r : Nat) : c3 (p + r) (q + r) = c3 p q := by unfold c3; split <;> split <;> (try split) <;> omega
theorem c3_neg (p q : Nat) : c3 q p = - c3 p q := by unfold c3; split <;> split <;> (try split) <;> omega
theorem c3_self (p : Nat) : c3 p p = 0 := by unfold c3; split <;> omega
theorem c3_range (p q : Nat) : -1 ≤ c3 p q ∧ c3 p q ≤ 1 := by unfold c3; split <;> (try split) <;> omega
theorem c3_le {p q : Nat} : c3 p q ≤ 0 ↔ p ≤ q := by unfold c3; split <;> (try split) <;> omega

/-- A number out of what came in, of at most m limbs. -/
theorem Acc.nt {w : World} {T base : Nat} {v : Value} {xs : List Nat} {m : Nat} (h : Acc w .u32 T base v (xs.take m)) (ho : okb B32 xs) (hm : m ≤ 1000) :
    ∃ N, Nt w v N ∧ N < B32 ^ m := by
  have hl : (xs.take m).length ≤ m := by simp; omega
  refine ⟨vl B32 (xs.take m), ⟨xs.take m, okb_take ho m, rfl, h.sq (by omega)⟩, ?_⟩
  exact Nat.lt_of_lt_of_le (vl_lt (okb_take ho m)) (Nat.pow_le_pow_right B32_pos hl)

theorem few_nt {w : World} {m : Nat} (hm : m ≤ 1000) {xs : List Nat} (ho : okb B32 xs) {e : Ending} {w' : World} (h : AccPost w .u32 38 (xs.take m) e w') :
    ∃ v N, e = .returned v ∧ Nt w' v N ∧ N < B32 ^ m ∧ Below w.heap.size w w' := by
  obtain ⟨v, h1, h2, h3⟩ := h
  obtain ⟨N, h4, h5⟩ := h2.nt ho hm
  exact ⟨v, N, h1, h4, h5, h3⟩

theorem dl_small {N m : Nat} (h : N < B32 ^ m) (hm : m ≤ 1000) : dl B32 N ≤ 1099511627776 := Nat.le_trans (dl_le B32_two h) (by omega)
theorem add_small {N M m : Nat} (h1 : N < B32 ^ m) (h2 : M < B32 ^ m) : N + M < B32 ^ (m + 1) := by
  rw [Nat.pow_succ, B32_eq]; rw [B32_eq] at h1 h2; omega

end Go.Proofs.Ytnljadejcfgmaaa

namespace Go.Proofs.Ytnljadejcfgmaaa
open Go.RowKit
set_option maxRecDepth 100000

theorem pow_mul_lt {P a m b : Nat} (h : P < B32 ^ a) (hm : m ≤ 32 * b) : P * 2 ^ m < B32 ^ (a + b) := by
  rw [Nat.pow_add]
  have h2 : (2 : Nat) ^ m ≤ B32 ^ b := by
    rw [show B32 ^ b = 2 ^ (32 * b) from by rw [Nat.pow_mul]; rfl]
    exact Nat.pow_le_pow_right (by omega) hm
  exact Nat.lt_of_le_of_lt (Nat.mul_le_mul_left P h2) (Nat.mul_lt_mul_of_pos_right h (Nat.pow_pos B32_pos))
theorem c3_ge {p q : Nat} : 0 ≤ c3 p q ↔ q ≤ p := by unfold c3; split <;> (try split) <;> omega
theorem shlOf_small {m : Nat} (h : m ≤ 8192) : shlOf (m : Int) = m := by unfold shlOf; omega

end Go.Proofs.Ytnljadejcfgmaaa
