/- More plain facts on bits of numbers, over no program. -/
import Derived.Test.YtbjgcnhilakimaaBit
namespace Go.Proofs.Ytbjgcnhilakimaa
open Go.RowKit

theorem and_low (n : Int) (k m : Nat) (hm : m = 2 ^ k) (hk : k ≤ 62) (hb : (BitVec.ofInt 64 ((m : Int) - 1)).toNat = 2 ^ k - 1) : bits .and .i64 n ((m : Int) - 1) = n % (m : Int) := by
  have key : (BitVec.ofInt 64 n &&& BitVec.ofInt 64 ((m : Int) - 1)).toNat = (n % ((2 ^ 64 : Nat) : Int)).toNat % m := by
    rw [BitVec.toNat_and, BitVec.toNat_ofInt, hb, Nat.and_two_pow_sub_one_eq_mod, hm]
  show IntKind.i64.wrap ((BitVec.ofInt 64 n &&& BitVec.ofInt 64 ((m : Int) - 1)).toNat : Nat) = n % (m : Int)
  have hle : m ≤ 4611686018427387904 := by rw [hm]; exact Nat.le_trans (Nat.pow_le_pow_right (by omega) hk) (by decide)
  have hpos : 0 < m := by rw [hm]; exact Nat.pow_pos (by omega)
  have hml : (n % ((2 ^ 64 : Nat) : Int)).toNat % m < m := Nat.mod_lt _ hpos
  have hd : (m : Int) ∣ ((2 ^ 64 : Nat) : Int) := by
    rw [hm]
    have : (2 : Nat) ^ 64 = 2 ^ k * 2 ^ (64 - k) := by rw [← Nat.pow_add, show k + (64 - k) = 64 from by omega]
    exact ⟨((2 ^ (64 - k) : Nat) : Int), by rw [this]; push_cast; rfl⟩
  have e : (((n % ((2 ^ 64 : Nat) : Int)).toNat % m : Nat) : Int) = n % (m : Int) := by
    rw [Int.natCast_emod, Int.toNat_of_nonneg (Int.emod_nonneg _ (by decide)), Int.emod_emod_of_dvd _ hd]
  rw [key, IntKind.wrap_i64, ← e]
  omega
theorem and511 (n : Int) : bits .and .i64 n 511 = n % 512 := and_low n 9 512 (by decide) (by decide) (by decide)
theorem and255 (n : Int) : bits .and .i64 n 255 = n % 256 := and_low n 8 256 (by decide) (by decide) (by decide)

end Go.Proofs.Ytbjgcnhilakimaa
