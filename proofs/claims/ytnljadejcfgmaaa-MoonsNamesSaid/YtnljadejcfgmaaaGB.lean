/- Bit BitB -/
import Derived.Laws.BitsAllLaws
import Derived.Test.YtnljadejcfgmaaaGA

/- Plain facts on bits of numbers, over no program. -/
namespace Go.Proofs.Ytnljadejcfgmaaa
open Go.RowKit

theorem top32 {v : Nat} (h : v < 4294967296) : v / 2147483648 = (v.testBit 31).toNat := by
  rw [Nat.testBit_eq_decide_div_mod_eq]
  have e : (2 : Nat) ^ 31 = 2147483648 := by decide
  rw [e]
  by_cases h1 : v < 2147483648
  · rw [Nat.div_eq_of_lt h1]; rfl
  · have : v / 2147483648 = 1 := by omega
    rw [this]; rfl
theorem top32_lt {v : Nat} (h : v < 4294967296) : v.testBit 31 = decide (2147483648 ≤ v) := by
  rw [Nat.testBit_eq_decide_div_mod_eq]
  have e : (2 : Nat) ^ 31 = 2147483648 := by decide
  rw [e, decide_eq_decide]
  omega
theorem umax32 : IntKind.u32.max = ((4294967295 : Nat) : Int) := by decide

theorem borrow32 (x y c : Nat) (hx : x < 4294967296) (hy : y < 4294967296) (hc : c ≤ 1) :
    bits BinOp.or IntKind.u32 (bits BinOp.and IntKind.u32 (bits BinOp.xor IntKind.u32 IntKind.u32.max (x : Int)) (y : Int))
      (bits BinOp.and IntKind.u32 (bits BinOp.xor IntKind.u32 IntKind.u32.max (bits BinOp.xor IntKind.u32 (x : Int) (y : Int))) (((x : Int) - (y : Int) - (c : Int)) % 4294967296)) / 2147483648 =
      ((if x < y + c then 1 else 0 : Nat) : Int) := by
  obtain ⟨d, hd⟩ : ∃ d : Nat, d = (x + 8589934592 - y - c) % 4294967296 := ⟨_, rfl⟩
  have hd1 : d < 4294967296 := by omega
  have e1 : ((x : Int) - (y : Int) - (c : Int)) % 4294967296 = (d : Int) := by omega
  rw [e1, umax32, u32_xor_nat _ _ (by decide) hx, u32_xor_nat _ _ hx hy]
  have p1 : x ^^^ y < 4294967296 := Nat.xor_lt_two_pow (n := 32) hx hy
  have p2 : 4294967295 ^^^ x < 4294967296 := Nat.xor_lt_two_pow (n := 32) (by decide) hx
  rw [u32_xor_nat _ _ (by decide) p1, u32_and_nat _ _ p2 hy]
  have p3 : 4294967295 ^^^ (x ^^^ y) < 4294967296 := Nat.xor_lt_two_pow (n := 32) (by decide) p1
  rw [u32_and_nat _ _ p3 hd1]
  have p4 : (4294967295 ^^^ x) &&& y < 4294967296 := Nat.and_lt_two_pow (n := 32) _ hy
  have p5 : (4294967295 ^^^ (x ^^^ y)) &&& d < 4294967296 := Nat.and_lt_two_pow (n := 32) _ hd1
  rw [u32_or_nat _ _ p4 p5]
  have p6 : (4294967295 ^^^ x) &&& y ||| (4294967295 ^^^ (x ^^^ y)) &&& d < 4294967296 := Nat.or_lt_two_pow (n := 32) p4 p5
  have key : ((4294967295 ^^^ x) &&& y ||| (4294967295 ^^^ (x ^^^ y)) &&& d) / 2147483648 = (if x < y + c then 1 else 0) := by
    rw [top32 p6]
    simp only [Nat.testBit_or, Nat.testBit_and, Nat.testBit_xor]
    rw [top32_lt hx, top32_lt hy, top32_lt hd1, show Nat.testBit 4294967295 31 = true by decide]
    by_cases a : 2147483648 ≤ x <;> by_cases b : 2147483648 ≤ y <;> by_cases k : x < y + c <;> by_cases q : 2147483648 ≤ d <;> simp [a, b, k, q] <;> omega
  rw [← key]; rfl

theorem and_one32 (a r : Nat) (h : a < 4294967296) : wrap64 (bits BinOp.and IntKind.u32 ((a : Int) / 2 ^ r) 1) = ((a / 2 ^ r % 2 : Nat) : Int) := by
  have e : (a : Int) / 2 ^ r = ((a / 2 ^ r : Nat) : Int) := by push_cast; rfl
  have hl : a / 2 ^ r < 4294967296 := Nat.lt_of_le_of_lt (Nat.div_le_self _ _) h
  rw [e, show (1 : Int) = ((1 : Nat) : Int) from rfl, u32_and_nat _ _ hl (by decide), nat_mask1]
  unfold wrap64
  omega
theorem or_low64 (a b : Nat) (ha : a < 4294967296) (hb : b < 4294967296) : bits BinOp.or IntKind.u64 ((a : Int) * 4294967296) (b : Int) = ((a * 4294967296 + b : Nat) : Int) := by
  have e : (a : Int) * 4294967296 = ((a * 4294967296 : Nat) : Int) := by omega
  rw [e, u64_or_nat _ _ (by omega) (by omega), nat_join 32 _ _ (by omega) (by omega)]

theorem wrap_u64_of {n : Int} (h0 : 0 ≤ n) (h1 : n < 18446744073709551616) : IntKind.u64.wrap n = n := by
  rw [IntKind.wrap_u64]; omega
theorem pow_le_32 {r : Nat} (hr : r < 32) : (2 : Nat) ^ r ≤ 2147483648 := by
  have : (2 : Nat) ^ r ≤ 2 ^ 31 := Nat.pow_le_pow_right (by omega) (by omega)
  exact Nat.le_trans this (by decide)
theorem shl_wide {x r : Nat} (hx : x < 4294967296) (hr : r < 32) : IntKind.u64.wrap (IntKind.u64.wrap (x : Int) * 2 ^ r) = ((x * 2 ^ r : Nat) : Int) := by
  have h1 := pow_le_32 hr
  have h2 : x * 2 ^ r ≤ 4294967295 * 2147483648 := Nat.mul_le_mul (by omega) h1
  rw [wrap_u64_of (n := (x : Int)) (by omega) (by omega)]
  have e : (x : Int) * 2 ^ r = ((x * 2 ^ r : Nat) : Int) := by push_cast; rfl
  rw [e]
  exact wrap_u64_of (by omega) (by omega)
theorem shl_low {x r c : Nat} (hr : r < 32) (hc : c < 2 ^ r) : c + x * 2 ^ r % 4294967296 < 4294967296 ∧ (c ||| x * 2 ^ r % 4294967296) = c + x * 2 ^ r % 4294967296 := by
  have hd : (2 : Nat) ^ r ∣ 4294967296 := by
    have : (4294967296 : Nat) = 2 ^ r * 2 ^ (32 - r) := by rw [← Nat.pow_add, show r + (32 - r) = 32 from by omega]
    exact ⟨_, this⟩
  have hz : x * 2 ^ r % 4294967296 % 2 ^ r = 0 := by rw [Nat.mod_mod_of_dvd _ hd, Nat.mul_mod_left]
  refine ⟨?_, ?_⟩
  · obtain ⟨b, hb⟩ := hd
    obtain ⟨a, ha⟩ := Nat.dvd_of_mod_eq_zero hz
    have hl : x * 2 ^ r % 4294967296 < 4294967296 := Nat.mod_lt _ (by decide)
    rw [ha] at hl ⊢
    rw [hb] at hl ⊢
    have hab : a < b := Nat.lt_of_mul_lt_mul_left hl
    have := Nat.mul_le_mul_left (2 ^ r) (show a + 1 ≤ b from hab)
    rw [Nat.mul_add, Nat.mul_one] at this
    omega
  · rw [Nat.or_comm, nat_join r _ _ hz hc, Nat.add_comm]
theorem cast_div_pow (a r : Nat) : (a : Int) / 2 ^ r = ((a / 2 ^ r : Nat) : Int) := by push_cast; rfl
theorem cast_shr (a r : Nat) : (a : Int) / 2 ^ r % 4294967296 = ((a / 2 ^ r % 4294967296 : Nat) : Int) := by rw [cast_div_pow]; omega
theorem shl_high {x r : Nat} (hx : x < 4294967296) : x * 2 ^ r / 4294967296 < 2 ^ r := by
  apply Nat.div_lt_of_lt_mul
  exact Nat.mul_lt_mul_of_pos_right hx (Nat.pow_pos (by omega))

end Go.Proofs.Ytnljadejcfgmaaa

/- More plain facts on bits of numbers, over no program. -/
namespace Go.Proofs.Ytnljadejcfgmaaa
open Go.RowKit

theorem and_low (n : Int) (k m : Nat) (hm : m = 2 ^ k) (hk : k ≤ 62) (hb : (BitVec.ofInt 64 ((m : Int) - 1)).toNat = 2 ^ k - 1) : bits .and .i64 n ((m : Int) - 1) = n % (m : Int) := by
  have key : (BitVec.ofInt 64 n &&& BitVec.ofInt 64 ((m : Int) - 1)).toNat = (n % ((2 ^ 64 : Nat) : Int)).toNat % m := by
    rw [BitVec.toNat_and, BitVec.toNat_ofInt, hb, Nat.and_two_pow_sub_one_eq_mod, hm]
  show IntKind.i64.wrap ((BitVec.ofInt 64 n &&& BitVec.ofInt 64 ((m : Int) - 1)).toNat : Nat) = n % (m : Int)
  have hle : m ≤ 4611686018427387904 := by rw [hm]; exact Nat.le_trans (Nat.pow_le_pow_right (by omega) hk) (by decide)
  have hpos : 0 < m := by rw [hm]; exact Nat.pow_pos (by omega)
  have hml : (n % ((2 ^ 64 : Nat) : Int)).toNat % m < m := Nat.mod_lt _ hpos
  have hd : (m : Int) ∣ ((2 ^ 64 : Nat) : Int) := by
    rw [hm]
    have : (2 : Nat) ^ 64 = 2 ^ k * 2 ^ (64 - k) := by rw [← Nat.pow_add, show k + (64 - k) = 64 from by omega]
    exact ⟨((2 ^ (64 - k) : Nat) : Int), by rw [this]; push_cast; rfl⟩
  have e : (((n % ((2 ^ 64 : Nat) : Int)).toNat % m : Nat) : Int) = n % (m : Int) := by
    rw [Int.natCast_emod, Int.toNat_of_nonneg (Int.emod_nonneg _ (by decide)), Int.emod_emod_of_dvd _ hd]
  rw [key, IntKind.wrap_i64, ← e]
  omega
theorem and511 (n : Int) : bits .and .i64 n 511 = n % 512 := and_low n 9 512 (by decide) (by decide) (by decide)
theorem and255 (n : Int) : bits .and .i64 n 255 = n % 256 := and_low n 8 256 (by decide) (by decide) (by decide)

end Go.Proofs.Ytnljadejcfgmaaa
