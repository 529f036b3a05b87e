import Derived.Test.YtjdmnchndnpdlaaNatE
import Derived.Deep.DeepCutAuto
import Derived.Deep.LoopGhost
namespace Go.Proofs.Ytjdmnchndnpdlaa
open Go.RowKit
set_option maxRecDepth 100000

/-- The loop of Nat.Shr. -/
def ShrInv (w : World) (g m R : Nat) (i : Value) (wr : World) : Prop :=
  ∃ (k : Nat) (zs : List Nat), k ≤ m ∧ i = .int .i64 k ∧ zs.length = m ∧ okb B32 zs ∧ Row wr .u32 77 w.heap.size g m zs ∧ Below w.heap.size w wr ∧ (∀ j, j < k → lg zs j = lg (dg B32 R) j)

theorem shr_digit {N q r i : Nat} (hr : r < 32) : (lg (dg B32 N) (i + q + 1) * 4294967296 + lg (dg B32 N) (i + q)) / 2 ^ r % 4294967296 = lg (dg B32 (N / 2 ^ (32 * q + r))) i := by
  rw [lg_dg B32_two, lg_dg B32_two, lg_dg B32_two, B32_eq]
  have e1 : (4294967296 : Nat) ^ q = 2 ^ (32 * q) := by rw [Nat.pow_mul]
  have e2 : N / 2 ^ (32 * q + r) / 4294967296 ^ i = N / 4294967296 ^ (i + q) / 2 ^ r := by
    rw [Nat.div_div_eq_div_mul, Nat.div_div_eq_div_mul, Nat.pow_add, Nat.pow_add, e1]
    congr 1
    rw [Nat.mul_comm, Nat.mul_assoc]
  have e3 : N / 4294967296 ^ (i + q + 1) = N / 4294967296 ^ (i + q) / 4294967296 := by rw [Nat.pow_succ, Nat.div_div_eq_div_mul]
  rw [e2, e3]
  generalize N / 4294967296 ^ (i + q) = M
  obtain ⟨L, hL⟩ : ∃ L, L = M / 4294967296 % 4294967296 * 4294967296 + M % 4294967296 := ⟨_, rfl⟩
  rw [← hL]
  have h1 : M = L + 2 ^ r * (4294967296 * (2 ^ (32 - r) * (M / 4294967296 / 4294967296))) := by
    have : (2 : Nat) ^ r * (4294967296 * (2 ^ (32 - r) * (M / 4294967296 / 4294967296))) = 2 ^ r * 2 ^ (32 - r) * (4294967296 * (M / 4294967296 / 4294967296)) := by
      rw [Nat.mul_assoc, Nat.mul_left_comm (2 ^ (32 - r)) 4294967296]
    rw [this, ← Nat.pow_add, show r + (32 - r) = 32 from by omega, show (2 : Nat) ^ 32 = 4294967296 from by decide]
    omega
  have h2 : M / 2 ^ r = L / 2 ^ r + 4294967296 * (2 ^ (32 - r) * (M / 4294967296 / 4294967296)) := by
    rw [show M / 2 ^ r = (L + 2 ^ r * (4294967296 * (2 ^ (32 - r) * (M / 4294967296 / 4294967296)))) / 2 ^ r from congrArg (· / 2 ^ r) h1]
    rw [Nat.add_mul_div_left _ _ (Nat.pow_pos (by omega))]
  rw [h2, Nat.add_mul_mod_self_left]

theorem shr_top {N q r : Nat} : N / 2 ^ (32 * q + r) < B32 ^ (dl B32 N - q) := by
  have h1 := lt_dl B32_two N
  have h2 : B32 ^ dl B32 N ≤ B32 ^ (dl B32 N - q) * 2 ^ (32 * q + r) := by
    rw [Nat.pow_add, show (2 : Nat) ^ (32 * q) = B32 ^ q from by rw [Nat.pow_mul]; rfl, ← Nat.mul_assoc, ← Nat.pow_add]
    have h3 : B32 ^ dl B32 N ≤ B32 ^ (dl B32 N - q + q) := Nat.pow_le_pow_right B32_pos (by omega)
    exact Nat.le_trans h3 (Nat.le_mul_of_pos_right _ (Nat.pow_pos (by omega)))
  rw [Nat.div_lt_iff_lt_mul (Nat.pow_pos (by omega))]
  omega

end Go.Proofs.Ytjdmnchndnpdlaa
