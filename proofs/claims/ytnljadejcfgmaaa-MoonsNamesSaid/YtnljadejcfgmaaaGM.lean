/- MulA MulB -/
import Derived.Test.YtnljadejcfgmaaaLawE

/- Contracts of package mult: cut, Mul, Product, Small. -/
namespace Go.Proofs.Ytnljadejcfgmaaa
open Go.RowKit
set_option maxRecDepth 100000

theorem dl_of_bits (N : Nat) : (dl 2 N + 31) / 32 = dl B32 N := by
  by_cases h : N = 0
  · subst h; rw [dl_zero, dl_zero]
  · have hp := dl_pos (b := 2) (by omega) (show 0 < N by omega)
    have := dl_limbs (N := N) (m := (dl 2 N + 31) / 32) (by omega) (by omega) (by omega)
    exact this.symm

theorem mul_le_max {a b : Nat} (ha : a < 4294967296) (hb : b < 4294967296) : a * b ≤ 18446744065119617025 :=
  Nat.mul_le_mul (show a ≤ 4294967295 by omega) (show b ≤ 4294967295 by omega)

theorem mul_step {zs : List Nat} {i j c a b Z0 T : Nat} (hlen : i + j < zs.length) (h : vl B32 zs + c * B32 ^ (i + j) = T) (hT : Z0 = c + a * b + lg zs (i + j)) :
    vl B32 (zs.set (i + j) (Z0 % B32)) + Z0 / B32 * B32 ^ (i + (j + 1)) = T + a * (b * B32 ^ j) * B32 ^ i := by
  have h1 := vl_set B32 (xs := zs) (i := i + j) (Z0 % B32) hlen
  have h2 := carry_arith B32 (B32 ^ (i + j)) Z0
  rw [← Nat.pow_succ] at h2
  have h3 : Z0 * B32 ^ (i + j) = c * B32 ^ (i + j) + a * b * B32 ^ (i + j) + lg zs (i + j) * B32 ^ (i + j) := by rw [hT, Nat.add_mul, Nat.add_mul]
  have h4 : a * (b * B32 ^ j) * B32 ^ i = a * b * B32 ^ (i + j) := by
    rw [Nat.pow_add, ← Nat.mul_assoc a b, Nat.mul_assoc (a * b), Nat.mul_comm (B32 ^ j)]
  rw [h4, show i + (j + 1) = i + j + 1 from by omega]
  simp only [Nat.succ_eq_add_one] at h2
  omega

def MulOut (w : World) (g d e X Y : Nat) (i : Value) (wr : World) : Prop :=
  ∃ (k : Nat) (zs : List Nat), k ≤ d ∧ i = .int .i64 k ∧ zs.length = d + e ∧ okb B32 zs ∧ Row wr .u32 38 w.heap.size g (d + e) zs ∧ Below w.heap.size w wr ∧ (∀ t, k + e ≤ t → lg zs t = 0) ∧ vl B32 zs = vl B32 ((dg B32 X).take k) * Y
def MulIn (w : World) (g d e k a Y T : Nat) (c j : Value) (wr : World) : Prop :=
  ∃ (u cc : Nat) (zs : List Nat), u ≤ e ∧ j = .int .i64 u ∧ c = .int .u64 cc ∧ cc < 4294967296 ∧ zs.length = d + e ∧ okb B32 zs ∧ Row wr .u32 38 w.heap.size g (d + e) zs ∧ Below w.heap.size w wr ∧ (∀ t, k + e ≤ t → lg zs t = 0) ∧
    vl B32 zs + cc * B32 ^ (k + u) = T + a * vl B32 ((dg B32 Y).take u) * B32 ^ k

end Go.Proofs.Ytnljadejcfgmaaa

/- Contracts of package mult: Small, Product. -/
namespace Go.Proofs.Ytnljadejcfgmaaa
open Go.RowKit
set_option maxRecDepth 100000

def SmallPost (w : World) (N y : Nat) (e : Ending) (w' : World) : Prop :=
  ∃ v, e = .returned (.tuple #[v, .int .u32 (if y = 0 then 0 else N % y : Nat)]) ∧ Dg w' .u32 B32 v (N / y) ∧ Below w.heap.size w w'

theorem small_step {x T y : Nat} (hy : 0 < y) (hx : x < 4294967296) :
    (x + B32 * T) / y = (T % y * 4294967296 + x) / y + B32 * (T / y) ∧ (x + B32 * T) % y = (T % y * 4294967296 + x) % y ∧ (T % y * 4294967296 + x) / y < 4294967296 := by
  have h1 := Nat.div_add_mod T y
  have e : x + B32 * T = (T % y * 4294967296 + x) + y * (B32 * (T / y)) := by
    rw [B32_eq]
    have : 4294967296 * T = 4294967296 * (y * (T / y) + T % y) := by rw [h1]
    rw [this, Nat.mul_add, Nat.mul_left_comm]
    omega
  refine ⟨?_, ?_, ?_⟩
  · rw [e, Nat.add_mul_div_left _ _ hy]
  · rw [e, Nat.add_mul_mod_self_left]
  · apply Nat.div_lt_of_lt_mul
    have hm := Nat.mod_lt T hy
    have := Nat.mul_le_mul_right 4294967296 (show T % y + 1 ≤ y from hm)
    rw [Nat.add_mul] at this
    omega

def SmallInv (w : World) (g d N y : Nat) (r i : Value) (wr : World) : Prop :=
  ∃ (k rr : Nat) (zs : List Nat), k ≤ d ∧ i = .int .i64 ((k : Int) - 1) ∧ r = .int .u64 rr ∧ rr < y ∧ zs.length = d ∧ okb B32 zs ∧ Row wr .u32 38 w.heap.size g d zs ∧ Below w.heap.size w wr ∧
    vl B32 (zs.drop k) = N / B32 ^ k / y ∧ rr = N / B32 ^ k % y

end Go.Proofs.Ytnljadejcfgmaaa
