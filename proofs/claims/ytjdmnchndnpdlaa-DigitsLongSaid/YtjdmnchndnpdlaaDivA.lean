/- Plain mathematics of a quotient of two limbs by one, digit for digit; Len64, LeadingZeros64. -/
import Derived.Test.YtjdmnchndnpdlaaNatE
namespace Go.Proofs.Ytjdmnchndnpdlaa
open Go.RowKit
set_option maxRecDepth 100000

/-- What a guess of a digit is held to. -/
structure Guess (U V Y1 Y0 q r : Nat) : Prop where
  sum : q * Y1 + r = U
  low : (U * 4294967296 + V) / (Y1 * 4294967296 + Y0) ≤ q
  high : q ≤ 4294967297
theorem mulY (q Y1 Y0 r U : Nat) (h : q * Y1 + r = U) : q * (Y1 * 4294967296 + Y0) + r * 4294967296 = U * 4294967296 + q * Y0 := by
  rw [Nat.mul_add, ← Nat.mul_assoc, ← h, Nat.add_mul]; omega
theorem Guess.done {U V Y1 Y0 q r : Nat} (h : Guess U V Y1 Y0 q r) (hy : 0 < Y1) (hc : q * Y0 ≤ 4294967296 * r + V) : q = (U * 4294967296 + V) / (Y1 * 4294967296 + Y0) := by
  have h1 := mulY q Y1 Y0 r U h.sum
  have h2 : q ≤ (U * 4294967296 + V) / (Y1 * 4294967296 + Y0) := by
    rw [Nat.le_div_iff_mul_le (by omega)]
    omega
  have := h.low
  omega
theorem top_digit {U V Y1 Y0 : Nat} (hU : U < Y1 * 4294967296 + Y0) (hV : V < 4294967296) : (U * 4294967296 + V) / (Y1 * 4294967296 + Y0) < 4294967296 := by
  rw [Nat.div_lt_iff_lt_mul (by omega)]
  have := Nat.mul_le_mul_left 4294967296 (show U + 1 ≤ Y1 * 4294967296 + Y0 from hU)
  omega
theorem Guess.down {U V Y1 Y0 q r : Nat} (h : Guess U V Y1 Y0 q r) (hU : U < Y1 * 4294967296 + Y0) (hV : V < 4294967296) (hc : 4294967296 ≤ q ∨ 4294967296 * r + V < q * Y0) :
    1 ≤ q ∧ Guess U V Y1 Y0 (q - 1) (r + Y1) ∧ q - 1 ≤ 4294967296 := by
  have ht := top_digit hU hV
  have hlt : (U * 4294967296 + V) / (Y1 * 4294967296 + Y0) < q := by
    rcases hc with hc | hc
    · exact Nat.lt_of_lt_of_le ht hc
    · rw [Nat.div_lt_iff_lt_mul (by omega)]
      have h1 := mulY q Y1 Y0 r U h.sum
      omega
  have hh := h.high
  have h1 := h.sum
  have hq1 : 1 ≤ q := Nat.lt_of_le_of_lt (Nat.zero_le _) hlt
  have hlow : (U * 4294967296 + V) / (Y1 * 4294967296 + Y0) ≤ q - 1 := Nat.le_sub_one_of_lt hlt
  refine ⟨hq1, ⟨?_, hlow, by omega⟩, by omega⟩
  obtain ⟨p, rfl⟩ : ∃ p, q = p + 1 := ⟨q - 1, by omega⟩
  rw [Nat.add_mul] at h1
  simp only [Nat.add_sub_cancel]
  omega
theorem Guess.broke {U V Y1 Y0 q r : Nat} (h : Guess U V Y1 Y0 q r) (hy : 0 < Y1) (h0 : Y0 < 4294967296) (hq : q ≤ 4294967296) (hr : 4294967296 ≤ r) : q = (U * 4294967296 + V) / (Y1 * 4294967296 + Y0) := by
  apply h.done hy
  have h1 : q * Y0 ≤ 4294967296 * 4294967295 := Nat.mul_le_mul hq (by omega)
  omega
theorem Guess.first {U V Y1 Y0 : Nat} (hU : U < Y1 * 4294967296 + Y0) (hV : V < 4294967296) (h0 : Y0 < 4294967296) (h1 : 2147483648 ≤ Y1) : Guess U V Y1 Y0 (U / Y1) (U % Y1) := by
  refine ⟨by rw [Nat.mul_comm]; exact Nat.div_add_mod U Y1, ?_, ?_⟩
  · rw [Nat.le_div_iff_mul_le (by omega)]
    have h2 := Nat.div_mul_le_self (U * 4294967296 + V) (Y1 * 4294967296 + Y0)
    generalize (U * 4294967296 + V) / (Y1 * 4294967296 + Y0) = q at *
    rw [Nat.mul_add, ← Nat.mul_assoc] at h2
    omega
  · have : U / Y1 < 4294967298 := by
      rw [Nat.div_lt_iff_lt_mul (by omega)]
      omega
    omega

/-- The whole quotient out of its two digits. -/
theorem two_digits {U V1 V0 Y q1 r1 : Nat} (hY : 0 < Y) (h1 : q1 = (U * 4294967296 + V1) / Y) (hr : r1 = (U * 4294967296 + V1) % Y) :
    (U * 18446744073709551616 + V1 * 4294967296 + V0) / Y = q1 * 4294967296 + (r1 * 4294967296 + V0) / Y := by
  have hd := Nat.div_add_mod (U * 4294967296 + V1) Y
  rw [← h1, ← hr] at hd
  have e : U * 18446744073709551616 + V1 * 4294967296 + V0 = r1 * 4294967296 + V0 + Y * (q1 * 4294967296) := by
    rw [← Nat.mul_assoc]
    omega
  rw [e, Nat.add_mul_div_left _ _ hY]; omega
theorem shift_div {a y s : Nat} : a * 2 ^ s / (y * 2 ^ s) = a / y := Nat.mul_div_mul_right a y (Nat.pow_pos (by omega))

set_option maxHeartbeats 2000000 in
set_option maxRecDepth 100000 in
theorem len64_int (x : Int) (w : World) (h0 : 4294967296 ≤ x) (h1 : x ≤ 18446744073709551615) :
    Calls Try.prog 124 #[.int .u64 x] w fun e w' => e = .returned (.int .i64 (Lib.bitLen x.toNat : Nat)) ∧ w' = w := by
  by_cases h16 : 65536 ≤ x / 4294967296
  · by_cases h8 : 256 ≤ x / 4294967296 / 65536
    · have hix := fun (w : World) => Lib.run_index_len8tab (P := Try.prog) w 9 .u8 (x / 4294967296 / 65536 / 256) Try.underlying9 (by omega) (by omega)
      have HB := Lib.hid (Lib.len8_of (x / 4294967296 / 65536 / 256) (by omega) (by omega))
      have HL := Lib.hid (Lib.bitLen_le8' (x / 4294967296 / 65536 / 256) (by omega) (by omega))
      go_enter Try.func124, Try.ntmps124
      go_wp2
      go_ret
      have hb := HB.out; have hl := HL.out
      refine ⟨ret_int ?_, rfl⟩
      rw [hb]
      have hs := Lib.bitLen_shift56 x.toNat (by omega) (by omega)
      rw [show (x / 4294967296 / 65536 / 256).toNat = x.toNat / 72057594037927936 from by omega] at hl ⊢
      unfold wrap64
      omega
    · have hix := fun (w : World) => Lib.run_index_len8tab (P := Try.prog) w 9 .u8 (x / 4294967296 / 65536) Try.underlying9 (by omega) (by omega)
      have HB := Lib.hid (Lib.len8_of (x / 4294967296 / 65536) (by omega) (by omega))
      have HL := Lib.hid (Lib.bitLen_le8' (x / 4294967296 / 65536) (by omega) (by omega))
      go_enter Try.func124, Try.ntmps124
      go_wp2
      go_ret
      have hb := HB.out; have hl := HL.out
      refine ⟨ret_int ?_, rfl⟩
      rw [hb]
      have hs := Lib.bitLen_shift48 x.toNat (by omega) (by omega)
      rw [show (x / 4294967296 / 65536).toNat = x.toNat / 281474976710656 from by omega] at hl ⊢
      unfold wrap64
      omega
  · by_cases h8 : 256 ≤ x / 4294967296
    · have hix := fun (w : World) => Lib.run_index_len8tab (P := Try.prog) w 9 .u8 (x / 4294967296 / 256) Try.underlying9 (by omega) (by omega)
      have HB := Lib.hid (Lib.len8_of (x / 4294967296 / 256) (by omega) (by omega))
      have HL := Lib.hid (Lib.bitLen_le8' (x / 4294967296 / 256) (by omega) (by omega))
      go_enter Try.func124, Try.ntmps124
      go_wp2
      go_ret
      have hb := HB.out; have hl := HL.out
      refine ⟨ret_int ?_, rfl⟩
      rw [hb]
      have hs := Lib.bitLen_shift40 x.toNat (by omega) (by omega)
      rw [show (x / 4294967296 / 256).toNat = x.toNat / 1099511627776 from by omega] at hl ⊢
      unfold wrap64
      omega
    · have hix := fun (w : World) => Lib.run_index_len8tab (P := Try.prog) w 9 .u8 (x / 4294967296) Try.underlying9 (by omega) (by omega)
      have HB := Lib.hid (Lib.len8_of (x / 4294967296) (by omega) (by omega))
      have HL := Lib.hid (Lib.bitLen_le8' (x / 4294967296) (by omega) (by omega))
      go_enter Try.func124, Try.ntmps124
      go_wp2
      go_ret
      have hb := HB.out; have hl := HL.out
      refine ⟨ret_int ?_, rfl⟩
      rw [hb]
      have hs := Lib.bitLen_shift32 x.toNat (by omega) (by omega)
      rw [show (x / 4294967296).toNat = x.toNat / 4294967296 from by omega] at hl ⊢
      unfold wrap64
      omega

set_option maxHeartbeats 400000 in
theorem lz64_any (y s : Nat) (w : World) (h0 : 4294967296 ≤ y) (h1 : y < 18446744073709551616) (hs : s = 64 - dl 2 y) :
    Calls Try.prog 121 #[.int .u64 y] w fun e w' => e = .returned (.int .i64 s) ∧ w' = w := by
  have h := len64_int (y : Int) w (by omega) (by omega)
  rw [Int.toNat_natCast, bitLen_dl y (Nat.lt_of_lt_of_le h1 (by decide))] at h
  have hd : dl 2 y ≤ 64 := dl_le (by omega) (Nat.lt_of_lt_of_le h1 (by decide))
  obtain ⟨d, hdd⟩ : ∃ d, d = dl 2 y := ⟨_, rfl⟩
  rw [← hdd] at h hd hs
  have H := Lib.hid h
  have HS := Lib.hid hs
  clear h hdd hs
  go_enter Try.func121, Try.ntmps121
  go_wp2_with fail
  refine H.out.mono ?_
  rintro e w' ⟨rfl, hw⟩
  have hw := hw.symm; subst hw
  go_wp2
  go_ret
  exact ⟨ret_int (by rw [HS.out]; omega), rfl⟩
end Go.Proofs.Ytjdmnchndnpdlaa
