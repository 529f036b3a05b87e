/- DivA DivB DivC DivD DivE DivF DivG DivH DivI DivJ DivK -/
import Derived.Deep.LoopGhost
import Derived.Deep.DeepCutAuto
import Derived.Deep.CutBlock
import Derived.BigRegion
import Derived.Deep.RegionHeld3
import Derived.Laws.CopyOwn
import Derived.WalkMore
import Derived.ScopeJumps
import Derived.Test.YtnljadejcfgmaaaGV
import Derived.Test.YtnljadejcfgmaaaGB
import Derived.Test.YtnljadejcfgmaaaGM

/- Plain mathematics of a quotient of two limbs by one, digit for digit; Len64, LeadingZeros64. -/
namespace Go.Proofs.Ytnljadejcfgmaaa
open Go.RowKit
set_option maxRecDepth 100000

/-- What a guess of a digit is held to. -/
structure Guess (U V Y1 Y0 q r : Nat) : Prop where
  sum : q * Y1 + r = U
  low : (U * 4294967296 + V) / (Y1 * 4294967296 + Y0) ≤ q
  high : q ≤ 4294967297
theorem mulY (q Y1 Y0 r U : Nat) (h : q * Y1 + r = U) : q * (Y1 * 4294967296 + Y0) + r * 4294967296 = U * 4294967296 + q * Y0 := by
  rw [Nat.mul_add, ← Nat.mul_assoc, ← h, Nat.add_mul]; omega
theorem Guess.done {U V Y1 Y0 q r : Nat} (h : Guess U V Y1 Y0 q r) (hy : 0 < Y1) (hc : q * Y0 ≤ 4294967296 * r + V) : q = (U * 4294967296 + V) / (Y1 * 4294967296 + Y0) := by
  have h1 := mulY q Y1 Y0 r U h.sum
  have h2 : q ≤ (U * 4294967296 + V) / (Y1 * 4294967296 + Y0) := by
    rw [Nat.le_div_iff_mul_le (by omega)]
    omega
  have := h.low
  omega
theorem top_digit {U V Y1 Y0 : Nat} (hU : U < Y1 * 4294967296 + Y0) (hV : V < 4294967296) : (U * 4294967296 + V) / (Y1 * 4294967296 + Y0) < 4294967296 := by
  rw [Nat.div_lt_iff_lt_mul (by omega)]
  have := Nat.mul_le_mul_left 4294967296 (show U + 1 ≤ Y1 * 4294967296 + Y0 from hU)
  omega
theorem Guess.down {U V Y1 Y0 q r : Nat} (h : Guess U V Y1 Y0 q r) (hU : U < Y1 * 4294967296 + Y0) (hV : V < 4294967296) (hc : 4294967296 ≤ q ∨ 4294967296 * r + V < q * Y0) :
    1 ≤ q ∧ Guess U V Y1 Y0 (q - 1) (r + Y1) ∧ q - 1 ≤ 4294967296 := by
  have ht := top_digit hU hV
  have hlt : (U * 4294967296 + V) / (Y1 * 4294967296 + Y0) < q := by
    rcases hc with hc | hc
    · exact Nat.lt_of_lt_of_le ht hc
    · rw [Nat.div_lt_iff_lt_mul (by omega)]
      have h1 := mulY q Y1 Y0 r U h.sum
      omega
  have hh := h.high
  have h1 := h.sum
  have hq1 : 1 ≤ q := Nat.lt_of_le_of_lt (Nat.zero_le _) hlt
  have hlow : (U * 4294967296 + V) / (Y1 * 4294967296 + Y0) ≤ q - 1 := Nat.le_sub_one_of_lt hlt
  refine ⟨hq1, ⟨?_, hlow, by omega⟩, by omega⟩
  obtain ⟨p, rfl⟩ : ∃ p, q = p + 1 := ⟨q - 1, by omega⟩
  rw [Nat.add_mul] at h1
  simp only [Nat.add_sub_cancel]
  omega
theorem Guess.broke {U V Y1 Y0 q r : Nat} (h : Guess U V Y1 Y0 q r) (hy : 0 < Y1) (h0 : Y0 < 4294967296) (hq : q ≤ 4294967296) (hr : 4294967296 ≤ r) : q = (U * 4294967296 + V) / (Y1 * 4294967296 + Y0) := by
  apply h.done hy
  have h1 : q * Y0 ≤ 4294967296 * 4294967295 := Nat.mul_le_mul hq (by omega)
  omega
theorem Guess.first {U V Y1 Y0 : Nat} (hU : U < Y1 * 4294967296 + Y0) (hV : V < 4294967296) (h0 : Y0 < 4294967296) (h1 : 2147483648 ≤ Y1) : Guess U V Y1 Y0 (U / Y1) (U % Y1) := by
  refine ⟨by rw [Nat.mul_comm]; exact Nat.div_add_mod U Y1, ?_, ?_⟩
  · rw [Nat.le_div_iff_mul_le (by omega)]
    have h2 := Nat.div_mul_le_self (U * 4294967296 + V) (Y1 * 4294967296 + Y0)
    generalize (U * 4294967296 + V) / (Y1 * 4294967296 + Y0) = q at *
    rw [Nat.mul_add, ← Nat.mul_assoc] at h2
    omega
  · have : U / Y1 < 4294967298 := by
      rw [Nat.div_lt_iff_lt_mul (by omega)]
      omega
    omega

/-- The whole quotient out of its two digits. -/
theorem two_digits {U V1 V0 Y q1 r1 : Nat} (hY : 0 < Y) (h1 : q1 = (U * 4294967296 + V1) / Y) (hr : r1 = (U * 4294967296 + V1) % Y) :
    (U * 18446744073709551616 + V1 * 4294967296 + V0) / Y = q1 * 4294967296 + (r1 * 4294967296 + V0) / Y := by
  have hd := Nat.div_add_mod (U * 4294967296 + V1) Y
  rw [← h1, ← hr] at hd
  have e : U * 18446744073709551616 + V1 * 4294967296 + V0 = r1 * 4294967296 + V0 + Y * (q1 * 4294967296) := by
    rw [← Nat.mul_assoc]
    omega
  rw [e, Nat.add_mul_div_left _ _ hY]; omega
theorem shift_div {a y s : Nat} : a * 2 ^ s / (y * 2 ^ s) = a / y := Nat.mul_div_mul_right a y (Nat.pow_pos (by omega))

end Go.Proofs.Ytnljadejcfgmaaa

/- The contract of bits.Div64. -/
namespace Go.Proofs.Ytnljadejcfgmaaa
open Go.RowKit
set_option maxRecDepth 100000

/-- What Div64 answers: the quotient. -/
def DivPost (w : World) (Q : Nat) (e : Ending) (w' : World) : Prop := ∃ (r : Int) (n : Nat), e = .returned (.tuple #[.int .u64 Q, .int .u64 r]) ∧ w' = w.drewN n

theorem divpost_of {w : World} {Q : Nat} {z r : Int} (h : z = (Q : Nat)) : DivPost w Q (.returned (.tuple #[.int .u64 z, .int .u64 r])) w := ⟨r, 0, by rw [h], rfl⟩
theorem mask64 (Y : Nat) (h : Y < 18446744073709551616) : bits BinOp.and IntKind.u64 (Y : Int) 4294967295 = ((Y % 4294967296 : Nat) : Int) := by
  rw [show (4294967295 : Int) = ((4294967295 : Nat) : Int) from rfl, u64_and_nat _ _ h (by decide)]
  congr 1
  exact Nat.and_two_pow_sub_one_eq_mod Y 32
theorem or_shift64 {H L s : Nat} (hH : H % 2 ^ s = 0) (hL : L < 2 ^ s) (hs : s ≤ 31) (hH2 : H < 18446744073709551616) : bits BinOp.or IntKind.u64 (H : Int) (L : Int) = ((H + L : Nat) : Int) := by
  have : (2 : Nat) ^ s ≤ 2 ^ 31 := Nat.pow_le_pow_right (by omega) hs
  rw [u64_or_nat _ _ hH2 (by omega), nat_join s _ _ hH hL]

/-- The numbers of a division, moved up. -/
structure Moved (hi lo y s Y U W : Nat) : Prop where
  s31 : s ≤ 31
  Yd : Y = y * 2 ^ s
  Y63 : 9223372036854775808 ≤ Y
  Y64 : Y < 18446744073709551616
  Ud : U = hi * 2 ^ s + lo / 2 ^ (64 - s)
  UY : U < Y
  Wd : W = lo * 2 ^ s % 18446744073709551616
  whole : U * 18446744073709551616 + W = (hi * 18446744073709551616 + lo) * 2 ^ s
  L : lo / 2 ^ (64 - s) < 2 ^ s
  H64 : hi * 2 ^ s < 18446744073709551616
theorem moved {hi lo y : Nat} (h0 : 4294967296 ≤ y) (h1 : y < 18446744073709551616) (hh : hi < y) (hl : lo < 18446744073709551616) :
    Moved hi lo y (64 - dl 2 y) (y * 2 ^ (64 - dl 2 y)) (hi * 2 ^ (64 - dl 2 y) + lo / 2 ^ (64 - (64 - dl 2 y))) (lo * 2 ^ (64 - dl 2 y) % 18446744073709551616) := by
  have hd : dl 2 y ≤ 64 := dl_le (by omega) (Nat.lt_of_lt_of_le h1 (by decide))
  have hd2 : 33 ≤ dl 2 y := by
    by_cases h : dl 2 y ≤ 32
    · have := lt_dl (b := 2) (by omega) y
      have h3 : (2 : Nat) ^ dl 2 y ≤ 2 ^ 32 := Nat.pow_le_pow_right (by omega) h
      have h4 : (2 : Nat) ^ 32 = 4294967296 := by decide
      omega
    · omega
  have e1 := lt_dl (b := 2) (by omega) y
  have e2 := pow_dl_le (b := 2) (by omega) (show 0 < y by omega)
  obtain ⟨s, hs⟩ : ∃ s, s = 64 - dl 2 y := ⟨_, rfl⟩
  have hdd : dl 2 y = 64 - s := by omega
  rw [hdd] at e1 e2
  rw [← hs]
  have p1 : (2 : Nat) ^ (64 - s) * 2 ^ s = 18446744073709551616 := by rw [← Nat.pow_add, show 64 - s + s = 64 from by omega]
  have p2 : (2 : Nat) ^ (64 - s - 1) * 2 ^ s = 9223372036854775808 := by rw [← Nat.pow_add, show 64 - s - 1 + s = 63 from by omega]
  have hsp : 0 < 2 ^ s := Nat.pow_pos (by omega)
  have f1 : y * 2 ^ s < 18446744073709551616 := by rw [← p1]; exact Nat.mul_lt_mul_of_pos_right e1 hsp
  have f2 : 9223372036854775808 ≤ y * 2 ^ s := by rw [← p2]; exact Nat.mul_le_mul_right _ e2
  have f3 : lo / 2 ^ (64 - s) < 2 ^ s := by
    rw [Nat.div_lt_iff_lt_mul (Nat.pow_pos (by omega)), Nat.mul_comm, p1]; exact hl
  have f4 : hi * 2 ^ s + 2 ^ s ≤ y * 2 ^ s := by
    have := Nat.mul_le_mul_right (2 ^ s) (show hi + 1 ≤ y from hh)
    rw [Nat.add_mul, Nat.one_mul] at this
    exact this
  refine ⟨by omega, rfl, f2, f1, rfl, by omega, rfl, ?_, f3, by omega⟩
  have g1 := Nat.div_add_mod (lo * 2 ^ s) 18446744073709551616
  have g2 : lo * 2 ^ s / 18446744073709551616 = lo / 2 ^ (64 - s) := by rw [← p1, Nat.mul_div_mul_right _ _ hsp]
  rw [g2] at g1
  rw [Nat.add_mul, Nat.add_mul, Nat.mul_right_comm hi]
  omega

theorem join_div {U V1 V0 W Y Z : Nat} (hW : W = V1 * 4294967296 + V0) (h : (U * 18446744073709551616 + V1 * 4294967296 + V0) / Y = Z) :
    (U * 18446744073709551616 + W) / Y = Z := by
  subst hW
  rw [← Nat.add_assoc]
  exact h

end Go.Proofs.Ytnljadejcfgmaaa

/- Contracts of package mult: at, pair. -/
namespace Go.Proofs.Ytnljadejcfgmaaa
open Go.RowKit
set_option maxRecDepth 100000

theorem ret_u64 {a b : Int} (h : a = b) : Ending.returned (.int .u64 a) = .returned (.int .u64 b) := by rw [h]

/-- The limb i and the one below it. -/
def pr (xs : List Nat) (i : Nat) : Nat := lg xs i * 4294967296 + (if i = 0 then 0 else lg xs (i - 1))

end Go.Proofs.Ytnljadejcfgmaaa

/- A world that differs in one block only; contract of mult.take. -/
namespace Go.Proofs.Ytnljadejcfgmaaa
open Go.RowKit
set_option maxRecDepth 100000

/-- w' differs from w in block g only. -/
structure Only (g : Nat) (w w' : World) : Prop where
  os : w'.os = w.os
  tape : w'.tape = w.tape
  output : w'.output = w.output
  size : w'.heap.size = w.heap.size
  block : ∀ k, k ≠ g → w'.heap[k]? = w.heap[k]?

theorem Only.refl (g : Nat) (w : World) : Only g w w := ⟨rfl, rfl, rfl, rfl, fun _ _ => rfl⟩
theorem Only.trans {g : Nat} {a b c : World} (h : Only g a b) (k : Only g b c) : Only g a c :=
  ⟨k.os.trans h.os, k.tape.trans h.tape, k.output.trans h.output, k.size.trans h.size, fun i hi => (k.block i hi).trans (h.block i hi)⟩
theorem Only.drew {g : Nat} {a w : World} (h : Only g a w) : Only g a w.drew := ⟨h.os, h.tape, h.output, h.size, h.block⟩
theorem Only.setCell {g : Nat} {a w : World} (h : Only g a w) {p : Addr} (hp : p.block = g) (u : Value) : Only g a (w.setCell p u) :=
  h.trans ⟨rfl, rfl, rfl, by simp [World.setCell], fun k hk => Below.heap_setCell _ _ _ _ (by omega)⟩
theorem Only.below {g B : Nat} {w w' : World} (h : Only g w w') (hB : B ≤ g) : Below B w w' :=
  ⟨h.os, h.tape, h.output, Nat.le_of_eq h.size.symm, fun k hk => h.block k (by omega)⟩
/-- An address that doesn't lie in block g. -/
def Apart (ad : Option Addr) (g : Nat) : Prop := ∀ b off, ad = some ⟨b, off, none⟩ → b ≠ g
theorem Only.rd {g : Nat} {w w' : World} {k : IntKind} {ad : Option Addr} {xs : List Nat} (h : Only g w w') (r : Rd w k ad xs) (ha : Apart ad g) : Rd w' k ad xs := by
  refine ⟨fun i hi => ?_⟩
  obtain ⟨b, off, e, hlt, hc⟩ := r.cell i hi
  refine ⟨b, off, e, by rw [h.size]; exact hlt, ?_⟩
  rw [← hc]
  unfold World.cell?
  rw [h.block b (ha b off e)]

theorem take_step {zs : List Nat} {i y c q v bor T P Q : Nat} (hlen : i < zs.length) (h : vl B32 zs + Q = P + c * B32 ^ i) (hT : T = c + q * y) (hv : v + T % B32 = lg zs i + bor * B32) :
    vl B32 (zs.set i v) + (Q + q * y * B32 ^ i) = P + (T / B32 + bor) * B32 ^ (i + 1) := by
  have h1 := vl_set B32 (xs := zs) (i := i) v hlen
  have h2 := carry_arith B32 (B32 ^ i) T
  rw [show B32 ^ i * B32 = B32 ^ (i + 1) from (Nat.pow_succ ..).symm] at h2
  have h3 : (v + T % B32) * B32 ^ i = (lg zs i + bor * B32) * B32 ^ i := by rw [hv]
  rw [Nat.add_mul, Nat.add_mul] at h3
  have h4 : bor * B32 * B32 ^ i = bor * B32 ^ (i + 1) := by rw [Nat.pow_succ, Nat.mul_assoc, Nat.mul_comm B32]
  have h5 : T * B32 ^ i = c * B32 ^ i + q * y * B32 ^ i := by rw [hT, Nat.add_mul]
  rw [Nat.add_mul]
  omega

def TakeInv (w : World) (base g cap : Nat) (xs : List Nat) (j : Nat) (ys : List Nat) (q : Nat) (c i : Value) (wr : World) : Prop :=
  ∃ (k cc : Nat) (zs : List Nat), k ≤ ys.length ∧ i = .int .i64 k ∧ c = .int .u64 cc ∧ cc < 4294967296 ∧ zs.length = xs.length ∧ okb B32 zs ∧ Row wr .u32 38 base g cap zs ∧ Only g w wr ∧
    (∀ t, t < j ∨ j + ys.length ≤ t → lg zs t = lg xs t) ∧ vl B32 zs + q * vl B32 (ys.take k) * B32 ^ j = vl B32 xs + cc * B32 ^ (j + k)

def TakePost (w : World) (base g cap : Nat) (xs : List Nat) (j : Nat) (ys : List Nat) (q : Nat) (e : Ending) (w' : World) : Prop :=
  ∃ (cc : Nat) (zs : List Nat), e = .returned (.bool (decide (lg xs (j + ys.length) < cc))) ∧ cc < 4294967296 ∧ zs.length = xs.length ∧ okb B32 zs ∧ Row w' .u32 38 base g cap zs ∧ Only g w w' ∧
    (∀ t, t < j ∨ j + ys.length ≤ t → lg zs t = lg xs t) ∧ vl B32 zs + q * vl B32 ys * B32 ^ j = vl B32 xs + cc * B32 ^ (j + ys.length)

end Go.Proofs.Ytnljadejcfgmaaa

/- Contract of mult.putBack. -/
namespace Go.Proofs.Ytnljadejcfgmaaa
open Go.RowKit
set_option maxRecDepth 100000

theorem put_step {zs : List Nat} {i y c P Q : Nat} (hlen : i < zs.length) (h : vl B32 zs + c * B32 ^ i = P + Q) :
    vl B32 (zs.set i ((lg zs i + y + c) % B32)) + (lg zs i + y + c) / B32 * B32 ^ (i + 1) = P + (Q + y * B32 ^ i) := by
  obtain ⟨T, hT⟩ : ∃ T, T = lg zs i + y + c := ⟨_, rfl⟩
  rw [← hT]
  have h1 := vl_set B32 (xs := zs) (i := i) (T % B32) hlen
  have h2 := carry_arith B32 (B32 ^ i) T
  rw [show B32 ^ i * B32 = B32 ^ (i + 1) from (Nat.pow_succ ..).symm] at h2
  have h5 : T * B32 ^ i = lg zs i * B32 ^ i + y * B32 ^ i + c * B32 ^ i := by rw [hT, Nat.add_mul, Nat.add_mul]
  omega

def PutInv (w : World) (base g cap : Nat) (xs : List Nat) (j : Nat) (ys : List Nat) (c i : Value) (wr : World) : Prop :=
  ∃ (k cc : Nat) (zs : List Nat), k ≤ ys.length ∧ i = .int .i64 k ∧ c = .int .u32 cc ∧ cc ≤ 1 ∧ zs.length = xs.length ∧ okb B32 zs ∧ Row wr .u32 38 base g cap zs ∧ Only g w wr ∧
    (∀ t, t < j ∨ j + ys.length ≤ t → lg zs t = lg xs t) ∧ vl B32 zs + cc * B32 ^ (j + k) = vl B32 xs + vl B32 (ys.take k) * B32 ^ j

def PutPost (w : World) (base g cap : Nat) (xs : List Nat) (j : Nat) (ys : List Nat) (e : Ending) (w' : World) : Prop :=
  ∃ (cc : Nat) (zs : List Nat), e = .returned (.tuple #[]) ∧ cc ≤ 1 ∧ zs.length = xs.length ∧ okb B32 zs ∧ Row w' .u32 38 base g cap zs ∧ Only g w w' ∧
    (∀ t, t < j ∨ j + ys.length ≤ t → lg zs t = lg xs t) ∧ vl B32 zs + cc * B32 ^ (j + ys.length) = vl B32 xs + vl B32 ys * B32 ^ j

end Go.Proofs.Ytnljadejcfgmaaa

/- The quotient's digit of reduce: the plain arithmetic, over no program. -/
namespace Go.Proofs.Ytnljadejcfgmaaa
open Go.RowKit

/-- Limbs 0 from k on: the first k are all. -/
theorem vl_take_zero {xs : List Nat} {k : Nat} (h : ∀ t, k ≤ t → lg xs t = 0) : vl B32 (xs.take k) = vl B32 xs := by
  by_cases hk : xs.length ≤ k
  · exact vl_take_all hk
  · rw [vl_split' B32 xs k]
    have : vl B32 (xs.drop k) = 0 := by
      have h2 := vl_congr B32 (xs := xs.drop k) (ys := []) (fun t => by rw [lg_drop, h (k + t) (by omega)]; rfl)
      rw [h2]; rfl
    rw [this, Nat.mul_zero, Nat.add_zero]

theorem vl_lt_zero {xs : List Nat} {k : Nat} (ho : okb B32 xs) (h : ∀ t, k ≤ t → lg xs t = 0) : vl B32 xs < B32 ^ k := by
  rw [← vl_take_zero h]; exact vl_take_lt ho B32_pos k

/-- A number by its three top limbs. -/
theorem pr_split {xs : List Nat} {i : Nat} (ho : okb B32 xs) (h : ∀ t, i + 2 ≤ t → lg xs t = 0) :
    ∃ r, vl B32 xs * B32 = r + (lg xs (i + 1) * 18446744073709551616 + pr xs i) * B32 ^ i ∧ r < B32 ^ i := by
  have hv := vl_take_zero h
  rw [vl_take_succ, vl_take_succ] at hv
  have e2 : lg xs (i + 1) * B32 ^ (i + 1) * B32 = lg xs (i + 1) * 18446744073709551616 * B32 ^ i := by
    rw [Nat.pow_succ, Nat.mul_assoc, Nat.mul_assoc (B32 ^ i), Nat.mul_comm (B32 ^ i), ← Nat.mul_assoc]
    rfl
  have e1 : lg xs i * B32 ^ i * B32 = lg xs i * 4294967296 * B32 ^ i := by
    rw [Nat.mul_assoc, Nat.mul_comm (B32 ^ i), ← Nat.mul_assoc]
    rfl
  by_cases h0 : i = 0
  · subst h0
    refine ⟨0, ?_, by simp⟩
    rw [← hv, Nat.add_mul, Nat.add_mul, e1, e2]
    unfold pr
    rw [if_pos rfl, Nat.add_mul, Nat.add_zero]
    simp [vl]
    omega
  · obtain ⟨l, rfl⟩ : ∃ l, i = l + 1 := ⟨i - 1, by omega⟩
    refine ⟨vl B32 (xs.take l) * B32, ?_, ?_⟩
    · rw [← hv, Nat.add_mul, Nat.add_mul, e1, e2, vl_take_succ, Nat.add_mul]
      unfold pr
      rw [if_neg h0, Nat.add_sub_cancel, Nat.add_mul, Nat.add_mul]
      have : lg xs l * B32 ^ l * B32 = lg xs l * B32 ^ (l + 1) := by rw [Nat.pow_succ, Nat.mul_assoc]
      omega
    · rw [Nat.pow_succ]
      exact Nat.mul_lt_mul_of_pos_right (vl_take_lt ho B32_pos l) B32_pos

theorem est_lo {V E A H F r1 r2 d s : Nat} (h1 : V * s = r1 + A * F) (h2 : E * s = r2 + H * F) (b2 : r2 < F) (hH : 4294967296 ≤ H) (hd : d ≤ A / H) (hm : d < 4294967296) :
    d * E < V + E := by
  have hdH : d * H ≤ A := by
    have := Nat.mul_le_mul_right H hd
    exact Nat.le_trans this (Nat.div_mul_le_self A H)
  have hdHF : d * H * F ≤ A * F := Nat.mul_le_mul_right F hdH
  have hdr : d * r2 ≤ d * F := Nat.mul_le_mul_left d (Nat.le_of_lt b2)
  have hdF : (d + 1) * F ≤ H * F := Nat.mul_le_mul_right F (by omega)
  rw [Nat.add_mul] at hdF
  have e : d * E * s = d * r2 + d * H * F := by rw [Nat.mul_assoc, h2, Nat.mul_add, Nat.mul_assoc]
  have hlt : d * E * s < (V + E) * s := by
    rw [e, Nat.add_mul, h1, h2]
    omega
  exact Nat.lt_of_mul_lt_mul_right hlt

theorem est_hi {V E A H F r1 r2 s : Nat} (h1 : V * s = r1 + A * F) (b1 : r1 < F) (h2 : E * s = r2 + H * F) (hH : 0 < H) :
    V < (A / H + 1) * E := by
  have hA : A + 1 ≤ (A / H + 1) * H := by
    have := Nat.div_add_mod A H
    have := Nat.mod_lt A hH
    rw [Nat.add_mul, Nat.mul_comm (A / H)]
    omega
  have hAF := Nat.mul_le_mul_right F hA
  rw [Nat.add_mul] at hAF
  have e : (A / H + 1) * E * s = (A / H + 1) * r2 + (A / H + 1) * H * F := by rw [Nat.mul_assoc, h2, Nat.mul_add, Nat.mul_assoc]
  have hlt : V * s < (A / H + 1) * E * s := by
    rw [e, h1]
    omega
  exact Nat.lt_of_mul_lt_mul_right hlt

/-- take left no debt: the digit was right. -/
theorem digit_ok {V V' E D N u cc : Nat} (h : V' + u * N + D = V + cc * N) (hlo : V < D + E) (hE : E < N) (hc : cc ≤ u) : V = D + V' ∧ V' < E := by
  obtain ⟨t, rfl⟩ : ∃ t, u = cc + t := ⟨u - cc, by omega⟩
  rw [Nat.add_mul] at h
  have : t = 0 := by
    by_cases ht : t = 0
    · exact ht
    · have := Nat.mul_le_mul_right N (show 1 ≤ t by omega)
      omega
  subst this
  omega

/-- take left a debt: the digit was 1 too great, and putBack makes up for it. -/
theorem digit_less {V V' V2 E D N u cc c2 : Nat} (h : V' + u * N + D = V + cc * N) (hhi : D < V + E) (hE : E < N) (hc : u < cc) (hV : V' < N) (hp : V2 + c2 * N = V' + E) (hV2 : V2 < N) (hc2 : c2 ≤ 1) :
    V + E = D + V2 ∧ V2 < E := by
  obtain ⟨t, rfl⟩ : ∃ t, cc = u + 1 + t := ⟨cc - u - 1, by omega⟩
  rw [Nat.add_mul, Nat.add_mul] at h
  have ht : t = 0 := by
    by_cases ht : t = 0
    · exact ht
    · have := Nat.mul_le_mul_right N (show 1 ≤ t by omega)
      omega
  subst ht
  have h2 : c2 = 1 := by
    by_cases h2 : c2 = 1
    · exact h2
    · obtain rfl : c2 = 0 := by omega
      omega
  subst h2
  omega

/-- One round of reduce: what is left over by Y b^(j+1) turns into what is left over by Y b^j. -/
theorem reduce_step {X V E d R b : Nat} (hV : V = X % (E * b)) (hd : V = d * E + R) (hR : R < E) : R = X % E ∧ X / E = X / (E * b) * b + d := by
  have hE : 0 < E := by omega
  have hx := Nat.div_add_mod X (E * b)
  rw [← hV, hd] at hx
  have e : X = R + E * (X / (E * b) * b + d) := by
    rw [Nat.mul_add, Nat.mul_comm E d]
    rw [Nat.mul_assoc, Nat.mul_comm b] at hx
    omega
  constructor
  · conv => rhs; rw [e]
    rw [Nat.add_mul_mod_self_left, Nat.mod_eq_of_lt hR]
  · conv => lhs; rw [e]
    rw [Nat.add_mul_div_left _ _ hE, Nat.div_eq_of_lt hR, Nat.zero_add]
end Go.Proofs.Ytnljadejcfgmaaa

/- One round of reduce, on the limbs: plain, over no program. -/
namespace Go.Proofs.Ytnljadejcfgmaaa
open Go.RowKit

theorem high_zero {xs : List Nat} {k : Nat} (h : vl B32 xs < B32 ^ k) : ∀ t, k ≤ t → lg xs t = 0 := by
  intro t ht
  by_cases h0 : lg xs t = 0
  · exact h0
  · exfalso
    have h1 := vl_split' B32 xs t
    rw [vl_drop_succ] at h1
    have h2 := Nat.mul_le_mul_left (B32 ^ t) (show 1 ≤ lg xs t + B32 * vl B32 (xs.drop (t + 1)) by omega)
    have h3 : B32 ^ k ≤ B32 ^ t := Nat.pow_le_pow_right B32_pos ht
    omega

theorem join_lt {a b : Nat} (ha : a < 4294967296) (hb : b < 4294967296) : a * 4294967296 + b < 18446744073709551616 := by omega
theorem pr_lt {xs : List Nat} {i : Nat} (ho : okb B32 xs) : pr xs i < 18446744073709551616 := by
  have h1 := lg_lt ho B32_pos i
  have h2 := lg_lt ho B32_pos (i - 1)
  rw [B32_eq] at h1 h2
  have h3 : (if i = 0 then 0 else lg xs (i - 1)) < 4294967296 := by split <;> omega
  unfold pr
  exact join_lt h1 h3
theorem pr_ge {xs : List Nat} {i : Nat} (h : lg xs i ≠ 0) : 4294967296 ≤ pr xs i := by
  have h1 : 4294967296 ≤ lg xs i * 4294967296 := by omega
  unfold pr
  exact Nat.le_trans h1 (Nat.le_add_right _ _)

/-- What one round's digit is told from. -/
theorem digit_est {zs ys : List Nat} {j d : Nat} (oz : okb B32 zs) (oy : okb B32 ys) (hn : 1 ≤ ys.length) (hV : vl B32 zs < vl B32 ys * B32 ^ (j + 1))
    (hd : d = min ((lg zs (j + ys.length) * 18446744073709551616 + pr zs (j + ys.length - 1)) / pr ys (ys.length - 1)) 4294967295) (ht : lg ys (ys.length - 1) ≠ 0) :
    d * (vl B32 ys * B32 ^ j) < vl B32 zs + vl B32 ys * B32 ^ j ∧ vl B32 zs < (d + 1) * (vl B32 ys * B32 ^ j) ∧ (∀ t, j + ys.length < t → lg zs t = 0) ∧ vl B32 ys * B32 ^ j < B32 ^ (j + ys.length) := by
  have hH := pr_ge ht
  obtain ⟨n, hnn⟩ : ∃ n, ys.length = n + 1 := ⟨ys.length - 1, by omega⟩
  have hY := vl_lt oy
  have hE : vl B32 ys * B32 ^ j < B32 ^ (j + ys.length) := by
    rw [Nat.add_comm, Nat.pow_add]
    exact Nat.mul_lt_mul_of_pos_right hY (Nat.pow_pos B32_pos)
  have hz : ∀ t, j + ys.length + 1 ≤ t → lg zs t = 0 := by
    apply high_zero
    refine Nat.lt_trans hV ?_
    rw [show j + ys.length + 1 = ys.length + (j + 1) from by omega, Nat.pow_add B32 ys.length (j + 1)]
    exact Nat.mul_lt_mul_of_pos_right hY (Nat.pow_pos B32_pos)
  rw [hnn] at hz hd ht hH ⊢
  obtain ⟨r1, e1, b1⟩ := pr_split (i := j + n) oz (fun t h => hz t (by omega))
  obtain ⟨r2, e2, b2⟩ := pr_split (xs := ys) (i := n) oy (fun t h => lg_out (by omega))
  rw [lg_out (xs := ys) (i := n + 1) (by omega), Nat.zero_mul, Nat.zero_add] at e2
  rw [show j + (n + 1) - 1 = j + n from by omega, Nat.add_sub_cancel, show j + (n + 1) = j + n + 1 from by omega] at hd
  rw [Nat.add_sub_cancel] at hH
  have e3 : vl B32 ys * B32 ^ j * B32 = r2 * B32 ^ j + pr ys n * B32 ^ (j + n) := by
    rw [Nat.mul_assoc, Nat.mul_comm (B32 ^ j) B32, ← Nat.mul_assoc, e2, Nat.add_mul, Nat.mul_assoc, ← Nat.pow_add, Nat.add_comm n j]
  have b3 : r2 * B32 ^ j < B32 ^ (j + n) := by
    rw [Nat.add_comm, Nat.pow_add]
    exact Nat.mul_lt_mul_of_pos_right b2 (Nat.pow_pos B32_pos)
  refine ⟨?_, ?_, fun t h => hz t (by omega), by rw [← hnn]; exact hE⟩
  · exact est_lo e1 e3 b3 hH (by rw [hd]; exact Nat.min_le_left _ _) (by rw [hd]; have := Nat.min_le_right ((lg zs (j + n + 1) * 18446744073709551616 + pr zs (j + n)) / pr ys n) 4294967295; omega)
  · by_cases hm : (lg zs (j + n + 1) * 18446744073709551616 + pr zs (j + n)) / pr ys n ≤ 4294967295
    · rw [hd, Nat.min_eq_left hm]
      exact est_hi e1 b1 e3 (by omega)
    · rw [hd, Nat.min_eq_right (by omega)]
      rw [Nat.pow_succ, ← Nat.mul_assoc, Nat.mul_comm, B32_eq] at hV
      exact hV

/-- A number by its limbs below K and limb K. -/
theorem limb_split {zs : List Nat} {K : Nat} (oz : okb B32 zs) (hz : ∀ t, K < t → lg zs t = 0) : ∃ V', vl B32 zs = V' + lg zs K * B32 ^ K ∧ V' < B32 ^ K :=
  ⟨vl B32 (zs.take K), by rw [← vl_take_succ, vl_take_zero (fun t h => hz t (by omega))], vl_take_lt oz B32_pos K⟩

/-- Behind take, no debt. -/
theorem round_ok {V E d u cc N W : Nat} {z1 : List Nat} {K : Nat} (hN : N = B32 ^ K) (o1 : okb B32 z1) (hz : ∀ t, K < t → lg z1 t = 0) (hu : lg z1 K = u) (hW : W = vl B32 z1)
    (h : W + d * E = V + cc * N) (hlo : V < (d + 1) * E) (hE : E < N) (hc : cc ≤ u) : ∃ R, W = R + u * N ∧ V = d * E + R ∧ R < E := by
  obtain ⟨V', e, hV'⟩ := limb_split o1 hz
  rw [← hW, hu, ← hN] at e
  rw [Nat.add_mul, Nat.one_mul] at hlo
  have := digit_ok (by rw [← e]; exact h) hlo hE hc
  exact ⟨V', e, this⟩

theorem debt_pos {V E d u cc N W : Nat} {z1 : List Nat} {K : Nat} (hN : N = B32 ^ K) (o1 : okb B32 z1) (hz : ∀ t, K < t → lg z1 t = 0) (hu : lg z1 K = u) (hW : W = vl B32 z1)
    (h : W + d * E = V + cc * N) (hc : u < cc) : 1 ≤ d := by
  obtain ⟨V', e, hV'⟩ := limb_split o1 hz
  rw [← hW, hu, ← hN] at e
  rw [← hN] at hV'
  by_cases h0 : d = 0
  · subst h0
    obtain ⟨t, rfl⟩ : ∃ t, cc = u + 1 + t := ⟨cc - u - 1, by omega⟩
    rw [Nat.add_mul, Nat.add_mul] at h
    omega
  · omega

/-- Behind putBack. -/
theorem round_less {V E d u cc c2 N W W2 : Nat} {z1 z2 : List Nat} {K : Nat} (hN : N = B32 ^ K) (o1 : okb B32 z1) (hz : ∀ t, K < t → lg z1 t = 0) (hu : lg z1 K = u) (hW : W = vl B32 z1)
    (o2 : okb B32 z2) (hz2 : ∀ t, K < t → lg z2 t = 0) (hu2 : lg z2 K = u) (hW2 : W2 = vl B32 z2)
    (h : W + d * E = V + cc * N) (hhi : d * E < V + E) (hE : E < N) (hc : u < cc) (hp : W2 + c2 * N = W + E) (hc2 : c2 ≤ 1) : 1 ≤ d ∧ ∃ R, W2 = R + u * N ∧ V = (d - 1) * E + R ∧ R < E := by
  obtain ⟨V', e, hV'⟩ := limb_split o1 hz
  rw [← hW, hu, ← hN] at e
  obtain ⟨V2, e2, hV2⟩ := limb_split o2 hz2
  rw [← hW2, hu2, ← hN] at e2
  rw [← hN] at hV' hV2
  have hh := digit_less (V' := V') (V2 := V2) (c2 := c2) (by rw [← e]; exact h) hhi hE hc hV' (by rw [e, e2] at hp; omega) hV2 hc2
  have hd : 1 ≤ d := by
    by_cases h0 : d = 0
    · subst h0; omega
    · omega
  refine ⟨hd, V2, e2, ?_, hh.2⟩
  obtain ⟨f, rfl⟩ : ∃ f, d = f + 1 := ⟨d - 1, by omega⟩
  rw [Nat.add_sub_cancel]
  have h1 := hh.1
  rw [Nat.add_mul, Nat.one_mul] at h1
  omega

/-- Limb K set to 0. -/
theorem set_zero {zs : List Nat} {K R u : Nat} (hu : lg zs K = u) (h : vl B32 zs = R + u * B32 ^ K) (hk : K < zs.length) : vl B32 (zs.set K 0) = R := by
  have := vl_set B32 (xs := zs) (i := K) 0 hk
  rw [hu, h] at this
  omega
end Go.Proofs.Ytnljadejcfgmaaa

/- Contract of mult.reduce. -/
namespace Go.Proofs.Ytnljadejcfgmaaa
open Go.RowKit
set_option maxRecDepth 100000

/-- w' differs from w in the blocks g and h only. -/
structure Two (g h : Nat) (w w' : World) : Prop where
  os : w'.os = w.os
  tape : w'.tape = w.tape
  output : w'.output = w.output
  size : w'.heap.size = w.heap.size
  block : ∀ k, k ≠ g → k ≠ h → w'.heap[k]? = w.heap[k]?

theorem Two.refl (g h : Nat) (w : World) : Two g h w w := ⟨rfl, rfl, rfl, rfl, fun _ _ _ => rfl⟩
theorem Two.trans {g h : Nat} {a b c : World} (x : Two g h a b) (y : Two g h b c) : Two g h a c :=
  ⟨y.os.trans x.os, y.tape.trans x.tape, y.output.trans x.output, y.size.trans x.size, fun i h1 h2 => (y.block i h1 h2).trans (x.block i h1 h2)⟩
theorem Only.two {g h : Nat} {a b : World} (x : Only g a b) : Two g h a b := ⟨x.os, x.tape, x.output, x.size, fun k h1 _ => x.block k h1⟩
theorem Only.two' {g h : Nat} {a b : World} (x : Only h a b) : Two g h a b := ⟨x.os, x.tape, x.output, x.size, fun k _ h2 => x.block k h2⟩
theorem Two.one {g : Nat} {a b : World} (x : Two g g a b) : Only g a b := ⟨x.os, x.tape, x.output, x.size, fun k h1 => x.block k h1 h1⟩
theorem Two.below {g h B : Nat} {w w' : World} (x : Two g h w w') (h1 : B ≤ g) (h2 : B ≤ h) : Below B w w' :=
  ⟨x.os, x.tape, x.output, Nat.le_of_eq x.size.symm, fun k hk => x.block k (by omega) (by omega)⟩
theorem Only.drewN {g : Nat} {a w : World} (x : Only g a w) (n : Nat) : Only g a (w.drewN n) := ⟨x.os, x.tape, x.output, x.size, x.block⟩
theorem Two.rd {g h : Nat} {w w' : World} {k : IntKind} {ad : Option Addr} {xs : List Nat} (x : Two g h w w') (r : Rd w k ad xs) (ha : Apart ad g) (hb : Apart ad h) : Rd w' k ad xs := by
  refine ⟨fun i hi => ?_⟩
  obtain ⟨b, off, e, hlt, hc⟩ := r.cell i hi
  refine ⟨b, off, e, by rw [x.size]; exact hlt, ?_⟩
  rw [← hc]
  unfold World.cell?
  rw [x.block b (ha b off e) (hb b off e)]

/-- Where the quotient goes: nowhere, or into a row of its own that holds Qv, with its limbs below m still 0. -/
def QHas (w : World) (base g h cq D m Qv : Nat) (vq : Value) : Prop :=
  vq = .slice none 0 0 ∨ (vq = .slice (some ⟨h, 0, none⟩) D cq ∧ h ≠ g ∧ ∃ qs, qs.length = D ∧ okb B32 qs ∧ Row w .u32 38 base h cq qs ∧ (∀ t, t < m → lg qs t = 0) ∧ vl B32 qs = Qv)

theorem QHas.only {w w' : World} {base g h cq D m Qv : Nat} {vq : Value} (x : QHas w base g h cq D m Qv vq) (o : Only g w w') : QHas w' base g h cq D m Qv vq := by
  rcases x with x | ⟨e, hne, qs, l, ok, r, z, v⟩
  · exact .inl x
  · exact .inr ⟨e, hne, qs, l, ok, r.of_block (o.block h hne), z, v⟩
theorem QHas.to {w : World} {base g h cq D m Qv Qv' : Nat} {vq : Value} (x : QHas w base g h cq D m Qv vq) (e : Qv = Qv') : QHas w base g h cq D m Qv' vq := e ▸ x

def RedInv (w : World) (base g cap L X Y n h cq D : Nat) (vq i : Value) (wr : World) : Prop :=
  ∃ (m : Nat) (zs : List Nat), m ≤ L + 1 - n ∧ i = .int .i64 ((m : Int) - 1) ∧ zs.length = L ∧ okb B32 zs ∧ Row wr .u32 38 base g cap zs ∧ Two g h w wr ∧ vl B32 zs = X % (Y * B32 ^ m) ∧ QHas wr base g h cq D m (X / (Y * B32 ^ m) * B32 ^ m) vq

def RedPost (w : World) (base g cap L X Y h cq D : Nat) (vq : Value) (e : Ending) (w' : World) : Prop :=
  ∃ (zs : List Nat), e = .returned (.tuple #[]) ∧ zs.length = L ∧ okb B32 zs ∧ Row w' .u32 38 base g cap zs ∧ Two g h w w' ∧ vl B32 zs = X % Y ∧ QHas w' base g h cq D 0 (X / Y) vq

/-- Behind the digit: the row holds what is left over, and limb K as it was. -/
def RedCut (w : World) (base g cap L K E V : Nat) (s9 : Value) (wc : World) : Prop :=
  ∃ (dd R : Nat) (zs : List Nat), s9 = .int .u64 dd ∧ dd < 4294967296 ∧ zs.length = L ∧ okb B32 zs ∧ Row wc .u32 38 base g cap zs ∧ Only g w wc ∧ vl B32 zs = R + lg zs K * B32 ^ K ∧ V = dd * E + R ∧ R < E

/-- Behind the top limb set to 0. -/
def RedCut2 (w : World) (base g cap L dd R : Nat) (s9 : Value) (wc : World) : Prop :=
  ∃ (zs : List Nat), s9 = .int .u64 dd ∧ zs.length = L ∧ okb B32 zs ∧ Row wc .u32 38 base g cap zs ∧ Only g w wc ∧ vl B32 zs = R

theorem mod_of_top {X Y L n : Nat} (h : n ≤ L) (hX : X < B32 ^ L) (hY : B32 ^ n ≤ Y * B32) : X < Y * B32 ^ (L + 1 - n) := by
  have e : B32 ^ L * B32 = B32 ^ n * B32 ^ (L + 1 - n) * 1 := by rw [Nat.mul_one, ← Nat.pow_add, ← Nat.pow_succ]; congr 1; omega
  have h1 := Nat.mul_le_mul_right (B32 ^ (L + 1 - n)) hY
  have h2 := Nat.mul_lt_mul_of_pos_right hX B32_pos
  rw [e, Nat.mul_one] at h2
  have h3 : X * B32 < Y * B32 ^ (L + 1 - n) * B32 := by
    rw [Nat.mul_assoc Y, Nat.mul_comm (B32 ^ _) B32, ← Nat.mul_assoc]
    exact Nat.lt_of_lt_of_le h2 h1
  exact Nat.lt_of_mul_lt_mul_right h3

/-- A number's size, when its top limb isn't 0. -/
theorem row_top_le {ys : List Nat} {n : Nat} (hn : n = ys.length) (h1 : 1 ≤ n) (ht : lg ys (n - 1) ≠ 0) : B32 ^ n ≤ vl B32 ys * B32 := by
  by_cases h : vl B32 ys < B32 ^ (n - 1)
  · exact absurd (high_zero h (n - 1) (Nat.le_refl _)) ht
  · have := Nat.mul_le_mul_right B32 (show B32 ^ (n - 1) ≤ vl B32 ys by omega)
    rw [← Nat.pow_succ, show (n - 1).succ = n from by omega] at this
    exact this

end Go.Proofs.Ytnljadejcfgmaaa

/- Contract of mult.DivMod. -/
namespace Go.Proofs.Ytnljadejcfgmaaa
open Go.RowKit
set_option maxRecDepth 100000

theorem Row.heap {w : World} {k : IntKind} {T base g n : Nat} {xs : List Nat} (h : Row w k T base g n xs) (hn : xs.length = n) : w.heap[g]? = some (.cells (cl k xs).toArray T (0, 0)) := by
  rcases h.own.2 with ⟨h', _⟩ | ⟨g', cap', cur, h', hb, hg, hnc, hcm, hsz, htk⟩
  · simp at h'
  · simp only [Value.slice.injEq, Option.some.injEq, Addr.mk.injEq, and_true, true_and] at h'
    obtain ⟨rfl, rfl⟩ := h'
    rw [hg, ← htk, List.take_of_length_le (by simp; omega)]
theorem Row.of_heap {w : World} {k : IntKind} {T base g n : Nat} {xs : List Nat} (hg : w.heap[g]? = some (.cells (cl k xs).toArray T (0, 0))) (hn : xs.length = n) (hm : n ≤ maxLen) (hb : base ≤ g) : Row w k T base g n xs := by
  refine ⟨?_, .inr ⟨g, n, _, rfl, hb, hg, by omega, hm, by simp [cl_length, hn], ?_⟩⟩
  · simp [cl_length]
  · rw [List.take_of_length_le (by simp [cl_length])]

theorem copy_src {w : World} {ad : Option Addr} {xs : List Nat} (r : Rd w .u32 ad xs) (g : Nat) : 0 < (cl .u32 xs).length → (some (⟨g, 0, none⟩ : Addr) = some ⟨g, 0, none⟩) ∧ ∃ a, ad = some a ∧ ∀ j v, (cl .u32 xs)[j]? = some v → w.cell? (a.add j) = some v := by
  intro h
  rw [cl_length] at h
  obtain ⟨b, off, rfl, _, hc⟩ := r.get h
  refine ⟨rfl, _, rfl, fun j v hv => ?_⟩
  have hj : j < xs.length := by
    have := (List.getElem?_eq_some_iff.1 hv).1
    rwa [cl_length] at this
  rw [cl_get hj] at hv
  injection hv with hv
  subst hv
  have hcj := hc j hj
  unfold Addr.add
  split
  · rename_i h0; subst h0; exact hcj
  · exact hcj

theorem rd_apart {w : World} {k : IntKind} {ad : Option Addr} {xs : List Nat} (r : Rd w k ad xs) (hp : 0 < xs.length) {g : Nat} (hg : w.heap.size ≤ g) : Apart ad g := by
  intro b off e
  obtain ⟨b', off', e', hb, _⟩ := r.get hp
  rw [e] at e'
  injection e' with e'; injection e' with e1 _
  omega
theorem lg_replicate_zero (D t : Nat) : lg (List.replicate D 0) t = 0 := by
  by_cases h : t < D
  · rw [lg_get (by simp; exact h)]; simp
  · exact lg_out (by simp; omega)
theorem vl_replicate_zero (D : Nat) : vl B32 (List.replicate D 0) = 0 := by
  have := vl_congr B32 (xs := List.replicate D 0) (ys := []) (fun t => by rw [lg_replicate_zero]; rfl)
  rw [this]; rfl
theorem dl_zero_B32 : dl B32 0 = 0 := by
  rw [← length_dg, dg_zero]; rfl
/-- What cut leaves of a row of its own. -/
theorem cut_dg {w : World} {T base g n N : Nat} {xs : List Nat} (r : Row w .u32 T base g n xs) (ho : okb B32 xs) (hl : xs.length = n) (hn : n ≤ 1099511627776) (hv : vl B32 xs = N) : Dg w .u32 B32 (.slice (some ⟨g, 0, none⟩) (dl B32 (vl B32 xs)) n) N := by
  have hle := dl_vl_le B32_two ho
  have hrd := r.rd.dg ho
  have hp := r.parts
  rw [hv] at hle hrd ⊢
  exact ⟨_, _, by rw [length_dg], hrd, by rw [length_dg]; omega, hp.2.2.2, by rw [length_dg]; omega, fun h => by cases h⟩

/-- The quotient, and what is left over: 0 and 0 by 0. -/
def DMPost (w : World) (N M : Nat) (e : Ending) (w' : World) : Prop :=
  ∃ v1 v2, e = .returned (.tuple #[v1, v2]) ∧ Dg w' .u32 B32 v1 (N / M) ∧ Dg w' .u32 B32 v2 (if M = 0 then 0 else N % M) ∧ Below w.heap.size w w'

end Go.Proofs.Ytnljadejcfgmaaa

/- mult.Gcd: a cut row, reduce on nothing, the measure. -/
namespace Go.Proofs.Ytnljadejcfgmaaa
open Go.RowKit
set_option maxRecDepth 100000

theorem Row.take {w : World} {k : IntKind} {T base g cap : Nat} {xs : List Nat} (h : Row w k T base g cap xs) (m : Nat) (hm : m ≤ xs.length) : Row w k T base g cap (xs.take m) := by
  rcases h.own.2 with ⟨h', _⟩ | ⟨g', cap', cur, h', hb, hg, hnc, hcm, hsz, htk⟩
  · simp at h'
  · simp only [Value.slice.injEq, Option.some.injEq, Addr.mk.injEq, and_true, true_and] at h'
    obtain ⟨rfl, rfl⟩ := h'
    have hl : (xs.take m).length = m := by simp; omega
    refine ⟨?_, .inr ⟨g, cap, cur, rfl, hb, hg, by omega, hcm, hsz, ?_⟩⟩
    · rw [cl_length, Nat.mul_one]
    · have e : cl k (xs.take m) = (cl k xs).take m := by simp [cl, List.map_take]
      rw [hl, e, ← htk, List.take_take]
      congr 1
      omega

theorem dg_take {xs : List Nat} {N : Nat} (ho : okb B32 xs) (hv : vl B32 xs = N) : xs.take (dl B32 N) = dg B32 N := by
  have hle := dl_vl_le B32_two ho
  rw [hv] at hle
  have hd := Nat.lt_of_lt_of_le (vl_lt (okb_dg B32_two N)) (Nat.le_refl _)
  rw [vl_dg B32_two, length_dg] at hd
  have hz := high_zero (xs := xs) (k := dl B32 N) (by rw [hv]; exact hd)
  have ht := (take_dg B32_two ho hle (fun h0 => by
    have hs := top_split B32_two (n := N) h0
    intro h1
    have hlt : vl B32 xs < B32 ^ (dl B32 N - 1) := vl_lt_zero ho (fun t ht => by
      by_cases e : t = dl B32 N - 1
      · rw [e]; exact h1
      · exact hz t (by omega))
    rw [hv] at hlt
    have := Nat.mul_le_mul_right (B32 ^ (dl B32 N - 1)) hs.2
    rw [Nat.succ_mul, Nat.zero_mul, Nat.zero_add] at this
    have h5 := Nat.le_add_left (lg (dg B32 N) (dl B32 N - 1) * B32 ^ (dl B32 N - 1)) (N % B32 ^ (dl B32 N - 1))
    rw [← hs.1] at h5
    omega) hz)
  rw [ht.1, hv]

/-- The value of the slice in slot 6: Gcd's measure. -/
def gm (a : Act) (w : World) : Nat :=
  match a.tmps.getD 6 undef with
  | .slice (some ad) n _ => match w.heap[ad.block]? with
    | some (.cells cur _ _) => vl B32 ((cur.toList.take n).map (fun v => (intOf v).toNat))
    | _ => 0
  | _ => 0
theorem gm_row {a : Act} {w : World} {T base g cap B : Nat} (h : Row w .u32 T base g cap (dg B32 B)) (e : a.tmps.getD 6 undef = .slice (some ⟨g, 0, none⟩) (dl B32 B) cap) : gm a w = B := by
  rcases h.own.2 with ⟨h', _⟩ | ⟨g', cap', cur, h', hb, hg, hnc, hcm, hsz, htk⟩
  · simp at h'
  · simp only [Value.slice.injEq, Option.some.injEq, Addr.mk.injEq, and_true, true_and] at h'
    obtain ⟨rfl, rfl⟩ := h'
    unfold gm
    rw [e]
    simp only [hg]
    rw [length_dg, Nat.mul_one] at htk
    rw [htk]
    have : (cl .u32 (dg B32 B)).map (fun v => (intOf v).toNat) = dg B32 B := by simp [cl, intOf, Function.comp_def]
    rw [this, vl_dg B32_two]
end Go.Proofs.Ytnljadejcfgmaaa

/- Contract of mult.Gcd. -/
namespace Go.Proofs.Ytnljadejcfgmaaa
open Go.RowKit
set_option maxRecDepth 100000

/-- 'wp_scope_jumps' where the way in runs into the label too: what is shown of a pass serves there. -/
theorem scope_jumps2 {P : Program} {a : Act} {w : World} {Q : Exit → Act → World → Prop} {c rest : Code} (l : Nat) (J : Act → World → Prop) (μ : Act → World → Nat) (hf : findLabel c l = some (Code.skip.seq rest))
    (pass : ∀ a w, J a w → rest.wp P (Exit.jump l (fun a' w' => J a' w' ∧ μ a' w' < μ a w) Q) a w)
    (first : (∀ a w, J a w → rest.wp P (Exit.jump l J Q) a w) → c.wp P (Exit.jump l J Q) a w) : (Code.scope c).wp P Q a w :=
  wp_scope_jumps l J μ hf (first (fun a w h => Code.wp_mono (fun e a' w' => by cases e <;> first | exact fun h => h | exact fun h => ⟨h.1, h.2.1⟩) (pass a w h))) (fun a w h => wp_seq (wp_skip (pass a w h)))

/-- Gcd's two rows. -/
structure GI (w w' : World) (N M A B g h ca cb : Nat) : Prop where
  ne : g ≠ h
  pos : 0 < B
  ra : Row w' .u32 38 w.heap.size g ca (dg B32 A)
  rb : Row w' .u32 38 w.heap.size h cb (dg B32 B)
  gcd : Nat.gcd A B = Nat.gcd N M
  la : dl B32 A ≤ 1099511627776
  lb : dl B32 B ≤ 1099511627776
  below : Below w.heap.size w w'

def GJ (v1 v2 : Value) (w : World) (N M : Nat) (a : Act) (w' : World) : Prop :=
  ∃ (A B g h ca cb : Nat) (u7 u8 u9 u10 u11 u12 u13 u14 u15 u16 u17 u18 u19 u20 u21 u22 u23 u24 : Value),
    a = { tmps := #[v1, v2, undef, undef, .slice none 0 0, .slice (some ⟨g, 0, none⟩) (dl B32 A) ca, .slice (some ⟨h, 0, none⟩) (dl B32 B) cb, u7, u8, u9, u10, u11, u12, u13, u14, u15, u16, u17, u18, u19, u20, u21, u22, u23, u24], defers := [] } ∧ GI w w' N M A B g h ca cb

theorem nt_dl {w : World} {v : Value} {N : Nat} (h : Nt w v N) : dl B32 N ≤ 1099511627776 := by
  obtain ⟨xs, ox, rfl, ad, cap, rfl, r, c, m, l, n⟩ := h
  have := dl_vl_le B32_two ox
  omega

end Go.Proofs.Ytnljadejcfgmaaa
