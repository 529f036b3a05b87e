/- What comes in, in one word, and what the walks of laws say of it. -/
import Derived.Test.YtnljadejcfgmaaaLawI
import Derived.Test.YtnljadejcfgmaaaLawE
import Derived.Test.YtnljadejcfgmaaaRowIn
namespace Go.Proofs.Ytnljadejcfgmaaa
open Go.RowKit

/-- A slice of limbs that comes in. -/
def In32 (w : World) (a : Option Addr) (n c : Nat) : Prop :=
  ∃ xs : List Nat, n = xs.length ∧ Rd w .u32 a xs ∧ okb B32 xs ∧ xs.length ≤ c ∧ c ≤ maxLen ∧ (a = none → c = 0)
theorem In32.below {w w' : World} {a : Option Addr} {n c : Nat} (h : In32 w a n c) (hb : Below w.heap.size w w') : In32 w' a n c := by
  obtain ⟨xs, h1, h2, h3⟩ := h
  exact ⟨xs, h1, h2.below hb, h3⟩

def RawPost (w : World) (m : Nat) (e : Ending) (w' : World) : Prop :=
  ∃ v xs, e = .returned v ∧ Sq w' .u32 v xs ∧ okb B32 xs ∧ xs.length ≤ m ∧ Below w.heap.size w w'
def SqPost (w : World) (xs : List Nat) (e : Ending) (w' : World) : Prop := ∃ v, e = .returned v ∧ Sq w' .u32 v xs ∧ Below w.heap.size w w'
def NumPost (w : World) (m : Nat) (e : Ending) (w' : World) : Prop := ∃ v N, e = .returned v ∧ Nt w' v N ∧ N < B32 ^ m ∧ Below w.heap.size w w'

/-- How many limbs a number has at most. -/
def Lim (N k : Nat) : Prop := N < B32 ^ k
theorem Lim.of_sq {xs : List Nat} {m : Nat} (ho : okb B32 xs) (hl : xs.length ≤ m) : Lim (vl B32 xs) m :=
  Nat.lt_of_lt_of_le (vl_lt ho) (Nat.pow_le_pow_right B32_pos hl)
theorem Lim.add {N M a b : Nat} (h1 : Lim N a) (h2 : Lim M b) (c : Nat) (ha : a < c) (hb : b < c) : Lim (N + M) c := by
  have k1 : N < B32 ^ (c - 1) := Nat.lt_of_lt_of_le h1 (Nat.pow_le_pow_right B32_pos (by omega))
  have k2 : M < B32 ^ (c - 1) := Nat.lt_of_lt_of_le h2 (Nat.pow_le_pow_right B32_pos (by omega))
  have := add_small k1 k2
  rwa [show c - 1 + 1 = c from by omega] at this
theorem Lim.mul {N M a b : Nat} (h1 : Lim N a) (h2 : Lim M b) : Lim (N * M) (a + b) := by
  unfold Lim at *
  rw [Nat.pow_add]
  exact Nat.mul_lt_mul'' h1 h2
theorem Lim.le {N M a : Nat} (h : Lim M a) (hl : N ≤ M) : Lim N a := Nat.lt_of_le_of_lt hl h
theorem Lim.up {N a : Nat} (h : Lim N a) (b : Nat) (hl : a ≤ b) : Lim N b := Nat.lt_of_lt_of_le h (Nat.pow_le_pow_right B32_pos hl)
theorem Lim.dl {N a : Nat} (h : Lim N a) (c : Nat) (hc : a ≤ c) : dl B32 N ≤ c := Nat.le_trans (dl_le B32_two h) hc
theorem Lim.dh {N a : Nat} (h : Lim N a) (c : Nat) (hc : 2 * a ≤ c) : Go.Proofs.Ytnljadejcfgmaaa.dl 65536 N ≤ c := by
  refine Nat.le_trans (dl_le (b := 65536) (by omega) (k := 2 * a) ?_) hc
  rw [show (65536 : Nat) ^ (2 * a) = B32 ^ a from by rw [Nat.pow_mul]; rfl]
  exact h
theorem Lim.of64 {N : Nat} (h : N < 18446744073709551616) : Lim N 2 := Nat.lt_of_lt_of_le h (by decide)
theorem Lim.of32 {N : Nat} (h : N < 4294967296) : Lim N 1 := Nat.lt_of_lt_of_le h (by decide)
end Go.Proofs.Ytnljadejcfgmaaa
