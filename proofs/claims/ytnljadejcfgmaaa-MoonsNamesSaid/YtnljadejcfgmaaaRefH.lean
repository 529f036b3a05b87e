/- Contracts of the reference of layer 2: Mul, Cmp, Sub, part. -/
import Derived.Test.YtnljadejcfgmaaaGS
import Derived.Test.YtnljadejcfgmaaaLawE
import Derived.Deep.DeepCutAuto
namespace Go.Proofs.Ytnljadejcfgmaaa
open Go.RowKit
set_option maxRecDepth 100000

def SmulInv (w : World) (d N M : Nat) (o i : Value) (wr : World) : Prop :=
  ∃ k : Nat, k ≤ d ∧ i = .int .i64 k ∧ Dg wr .i64 65536 o (N * vl 65536 ((dg 65536 M).take k)) ∧ Below w.heap.size w wr

theorem dl_mul_le {N M a b : Nat} (h1 : dl 65536 N ≤ a) (h2 : dl 65536 M ≤ b) : dl 65536 (N * M) ≤ a + b := by
  by_cases h0 : M = 0
  · subst h0; rw [Nat.mul_zero, dl_zero]; omega
  apply dl_le (by omega)
  rw [Nat.pow_add]
  have e1 : N < 65536 ^ a := Nat.lt_of_lt_of_le (lt_dl (by omega) N) (Nat.pow_le_pow_right (by omega) h1)
  have e2 : M < 65536 ^ b := Nat.lt_of_lt_of_le (lt_dl (by omega) M) (Nat.pow_le_pow_right (by omega) h2)
  exact Nat.lt_of_lt_of_le (Nat.mul_lt_mul_of_pos_right e1 (by omega)) (Nat.mul_le_mul_left _ (by omega))

def ScmpInv (w : World) (d N M : Nat) (i : Value) (wr : World) : Prop :=
  ∃ (k n : Nat), k ≤ d ∧ i = .int .i64 ((k : Int) - 1) ∧ (∀ j, k ≤ j → lg (dg 65536 N) j = lg (dg 65536 M) j) ∧ wr = w.drewN n

end Go.Proofs.Ytnljadejcfgmaaa
