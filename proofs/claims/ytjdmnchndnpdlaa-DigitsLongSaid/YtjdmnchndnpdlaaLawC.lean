import Derived.Test.YtjdmnchndnpdlaaLawB
import Derived.Test.YtjdmnchndnpdlaaGB
namespace Go.Proofs.Ytjdmnchndnpdlaa
open Go.RowKit
set_option maxRecDepth 100000

theorem pow_mul_lt {P a m b : Nat} (h : P < B32 ^ a) (hm : m ≤ 32 * b) : P * 2 ^ m < B32 ^ (a + b) := by
  rw [Nat.pow_add]
  have h2 : (2 : Nat) ^ m ≤ B32 ^ b := by
    rw [show B32 ^ b = 2 ^ (32 * b) from by rw [Nat.pow_mul]; rfl]
    exact Nat.pow_le_pow_right (by omega) hm
  exact Nat.lt_of_le_of_lt (Nat.mul_le_mul_left P h2) (Nat.mul_lt_mul_of_pos_right h (Nat.pow_pos B32_pos))
theorem c3_ge {p q : Nat} : 0 ≤ c3 p q ↔ q ≤ p := by unfold c3; split <;> (try split) <;> omega
theorem shlOf_small {m : Nat} (h : m ≤ 8192) : shlOf (m : Int) = m := by unfold shlOf; omega

end Go.Proofs.Ytjdmnchndnpdlaa
