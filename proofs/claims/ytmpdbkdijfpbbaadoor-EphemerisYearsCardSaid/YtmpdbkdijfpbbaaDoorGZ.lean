/- SnA SnB -/
import Derived.Test.YtmpdbkdijfpbbaaDoorGY
import Derived.Test.YtmpdbkdijfpbbaaDoorGX
import Derived.Test.YtmpdbkdijfpbbaaDoorGO

/- Words: sines and arcs. -/
namespace Go.Proofs.YtmpdbkdijfpbbaaDoor
open Go.RowKit
set_option maxRecDepth 100000
set_option linter.unusedVariables false

theorem fl_of {q : Rat} {k : Int} (h1 : (k : Rat) ≤ q) (h2 : q < (k : Rat) + 1) : q.floor = k := by
  have l1 : k ≤ q.floor := Rat.le_floor_iff.2 h1
  have l2 : q.floor < k + 1 := Rat.floor_lt_iff.2 (by rw [Rat.intCast_add, Rat.intCast_one]; exact h2)
  omega
/-- What lies between whole numbers' values. -/
def lin (S : Int → Int) (y : Rat) : Rat := (S y.floor : Rat) + (y - (y.floor : Rat)) * ((S (y.floor + 1) : Rat) - (S y.floor : Rat))


theorem lin_int (S : Int → Int) (k : Int) : lin S (k : Rat) = (S k : Rat) := by
  unfold lin; rw [Rat.floor_intCast]; grind
theorem lin_more {S : Int → Int} {n : Int} (h : ∀ k, S (k + n) = S k) (y : Rat) : lin S (y + (n : Rat)) = lin S y := by
  unfold lin
  rw [Rat.floor_add_intCast, h, show y.floor + n + 1 = y.floor + 1 + n by omega, h, Rat.intCast_add]
  grind
/-- Turned round a point: y ↦ c - y. -/
theorem fl_back {y : Rat} (c : Int) (h : (y.floor : Rat) ≠ y) : ((c : Rat) - y).floor = c - y.floor - 1 := by
  have h1 := fl_le y
  have h2 := fl_lt y
  refine fl_of ?_ ?_
  · rw [Rat.intCast_sub, Rat.intCast_sub, Rat.intCast_one]; grind
  · rw [Rat.intCast_sub, Rat.intCast_sub, Rat.intCast_one]; grind
theorem lin_back {S : Int → Int} (c : Int) (h : ∀ k, S (c - k) = S k) (y : Rat) : lin S ((c : Rat) - y) = lin S y := by
  by_cases e : (y.floor : Rat) = y
  · rw [← e, ← Rat.intCast_sub, lin_int, lin_int, h]
  · unfold lin
    rw [fl_back c e, show c - y.floor - 1 + 1 = c - y.floor by omega, h, show c - y.floor - 1 = c - (y.floor + 1) by omega, h, Rat.intCast_sub, Rat.intCast_add, Rat.intCast_one]
    grind
theorem lin_turn {S : Int → Int} (c : Int) (h : ∀ k, S (c - k) = -S k) (y : Rat) : lin S ((c : Rat) - y) = -lin S y := by
  by_cases e : (y.floor : Rat) = y
  · rw [← e, ← Rat.intCast_sub, lin_int, lin_int, h, Rat.intCast_neg]
  · unfold lin
    rw [fl_back c e, show c - y.floor - 1 + 1 = c - y.floor by omega, h, show c - y.floor - 1 = c - (y.floor + 1) by omega, h, Rat.intCast_sub, Rat.intCast_add, Rat.intCast_one]
    simp only [Rat.intCast_neg]
    grind
theorem lin_opp {S : Int → Int} (c : Int) (h : ∀ k, S (k + c) = -S k) (y : Rat) : lin S (y + (c : Rat)) = -lin S y := by
  unfold lin
  rw [Rat.floor_add_intCast, h, show y.floor + c + 1 = y.floor + 1 + c by omega, h, Rat.intCast_add]
  simp only [Rat.intCast_neg]
  grind
theorem up_le {S : Int → Int} (h : ∀ k, S k ≤ S (k + 1)) {a b : Int} (hab : a ≤ b) : S a ≤ S b := by
  obtain ⟨n, rfl⟩ : ∃ n : Nat, b = a + n := ⟨(b - a).toNat, by omega⟩
  clear hab
  induction n with
  | zero => simp
  | succ n ih =>
    have := h (a + n)
    rw [show a + ((n + 1 : Nat) : Int) = a + n + 1 by omega]
    omega
theorem cast_le {a b : Int} (h : a ≤ b) : (a : Rat) ≤ (b : Rat) := Rat.intCast_le_intCast.2 h
theorem cast_lt {a b : Int} (h : a < b) : (a : Rat) < (b : Rat) := Rat.intCast_lt_intCast.2 h
theorem lin_low {S : Int → Int} {y : Rat} (h : S y.floor ≤ S (y.floor + 1)) : (S y.floor : Rat) ≤ lin S y := by
  have h1 := fl_le y
  have h2 := cast_le h
  have := Rat.mul_nonneg (show 0 ≤ y - (y.floor : Rat) by grind) (show 0 ≤ (S (y.floor + 1) : Rat) - (S y.floor : Rat) by grind)
  unfold lin; grind
theorem lin_high {S : Int → Int} {y : Rat} (h : S y.floor ≤ S (y.floor + 1)) : lin S y ≤ (S (y.floor + 1) : Rat) := by
  have h1 := fl_lt y
  have h2 := cast_le h
  have := Rat.mul_nonneg (show 0 ≤ (y.floor : Rat) + 1 - y by grind) (show 0 ≤ (S (y.floor + 1) : Rat) - (S y.floor : Rat) by grind)
  unfold lin; grind
theorem lin_hight {S : Int → Int} {y : Rat} (h : S y.floor < S (y.floor + 1)) : lin S y < (S (y.floor + 1) : Rat) := by
  have h1 := fl_lt y
  have h2 := cast_lt h
  have := Rat.mul_pos (show 0 < (y.floor : Rat) + 1 - y by grind) (show 0 < (S (y.floor + 1) : Rat) - (S y.floor : Rat) by grind)
  unfold lin; grind
theorem lin_up {S : Int → Int} (h : ∀ k, S k ≤ S (k + 1)) {y z : Rat} (hyz : y ≤ z) : lin S y ≤ lin S z := by
  by_cases e : y.floor = z.floor
  · have h2 := cast_le (h z.floor)
    have := Rat.mul_nonneg (show 0 ≤ z - y by grind) (show 0 ≤ (S (z.floor + 1) : Rat) - (S z.floor : Rat) by grind)
    unfold lin; rw [e]; grind
  · have hm := Rat.floor_monotone hyz
    have h1 := lin_high (h y.floor)
    have h2 := lin_low (h z.floor)
    have h3 := cast_le (up_le h (show y.floor + 1 ≤ z.floor by omega))
    grind
theorem lin_comb (S : Int → Int) (c d : Int) (y : Rat) : lin (fun k => c * k + d * S k) y = (c : Rat) * y + (d : Rat) * lin S y := by
  unfold lin
  simp only [Rat.intCast_add, Rat.intCast_mul, Rat.intCast_one]
  grind
theorem lin_lip {S : Int → Int} (c : Int) (h : ∀ k, -c ≤ S (k + 1) - S k ∧ S (k + 1) - S k ≤ c) {y z : Rat} (hyz : y ≤ z) : (lin S y - lin S z).abs ≤ (c : Rat) * (z - y) := by
  have h1 := lin_up (S := fun k => c * k + 1 * S k) (fun k => by have := h k; show c * k + 1 * S k ≤ c * (k + 1) + 1 * S (k + 1); rw [Int.mul_add]; omega) hyz
  have h2 := lin_up (S := fun k => c * k + (-1) * S k) (fun k => by have := h k; show c * k + (-1) * S k ≤ c * (k + 1) + (-1) * S (k + 1); rw [Int.mul_add]; omega) hyz
  rw [lin_comb, lin_comb] at h1 h2
  rw [Rat.intCast_one] at h1
  rw [Rat.intCast_neg, Rat.intCast_one] at h2
  unfold Rat.abs
  split <;> grind
theorem lin_bd {S : Int → Int} (c : Int) (h : ∀ k, -c ≤ S k ∧ S k ≤ c) (y : Rat) : -(c : Rat) ≤ lin S y ∧ lin S y ≤ (c : Rat) := by
  have a1 := h y.floor
  have a2 := h (y.floor + 1)
  have f1 := fl_le y
  have f2 := fl_lt y
  have b1 := cast_le a1.1; have b2 := cast_le a1.2; have b3 := cast_le a2.1; have b4 := cast_le a2.2
  rw [Rat.intCast_neg] at b1 b3
  have m1 := Rat.mul_nonneg (show 0 ≤ (y.floor : Rat) + 1 - y by grind) (show 0 ≤ (c : Rat) - (S y.floor : Rat) by grind)
  have m2 := Rat.mul_nonneg (show 0 ≤ y - (y.floor : Rat) by grind) (show 0 ≤ (c : Rat) - (S (y.floor + 1) : Rat) by grind)
  have m3 := Rat.mul_nonneg (show 0 ≤ (y.floor : Rat) + 1 - y by grind) (show 0 ≤ (S y.floor : Rat) + (c : Rat) by grind)
  have m4 := Rat.mul_nonneg (show 0 ≤ y - (y.floor : Rat) by grind) (show 0 ≤ (S (y.floor + 1) : Rat) + (c : Rat) by grind)
  unfold lin
  constructor <;> grind
theorem fl_ge {y : Rat} {k : Int} (h : (k : Rat) ≤ y) : k ≤ y.floor := Rat.le_floor_iff.2 h
theorem fl_less {y : Rat} {k : Int} (h : y < (k : Rat)) : y.floor < k := Rat.floor_lt_iff.2 h
theorem lin_rise {y z : Rat} (h1 : ((-24 : Int) : Rat) ≤ y) (h2 : y < z) (h3 : z ≤ ((24 : Int) : Rat)) : lin spk y < lin spk z := by
  have fy := fl_ge h1
  have fy2 : y.floor < 24 := fl_less (by grind)
  have hm := Rat.floor_monotone (show y ≤ z by grind)
  by_cases e : y.floor = z.floor
  · have := cast_lt (sp_up (k := z.floor) (by omega) (by omega))
    have := Rat.mul_pos (show 0 < z - y by grind) (show 0 < (spk (z.floor + 1) : Rat) - (spk z.floor : Rat) by grind)
    unfold lin; rw [e]; grind
  · have a1 := lin_hight (S := spk) (y := y) (sp_up fy fy2)
    have fz : z.floor ≤ 24 := by
      have := Rat.floor_monotone h3
      rwa [Rat.floor_intCast] at this
    have a2 := cast_le (sp_le (a := y.floor + 1) (b := z.floor) (by omega) (by omega) fz)
    have a3 : (spk z.floor : Rat) ≤ lin spk z := by
      by_cases e2 : z.floor < 24
      · exact lin_low (Int.le_of_lt (sp_up (by omega) e2))
      · have e3 : z.floor = 24 := by omega
        have e4 : z = ((24 : Int) : Rat) := by
          have := fl_le z; rw [e3] at this; grind
        rw [e4, lin_int, Rat.floor_intCast]; grind
    grind
theorem lin_inj {y z : Rat} (h1 : ((-24 : Int) : Rat) ≤ y) (h2 : y ≤ ((24 : Int) : Rat)) (h3 : ((-24 : Int) : Rat) ≤ z) (h4 : z ≤ ((24 : Int) : Rat)) (e : lin spk y = lin spk z) : y = z := by
  by_cases a : y < z
  · have := lin_rise h1 a h4; grind
  · by_cases b : z < y
    · have := lin_rise h3 b h2; grind
    · grind
/-! ### Arcs -/
/-- The least place from k on, of n, whose next one isn't below h. -/
def ykf (h : Rat) : Nat → Nat → Nat
  | 0, k => k
  | n + 1, k => if h ≤ (spk ((k : Int) + 1) : Rat) then k else ykf h n (k + 1)
def yk (h : Rat) : Nat := ykf h 24 0
theorem ykf_le (h : Rat) : ∀ n k : Nat, k ≤ ykf h n k ∧ ykf h n k ≤ k + n
  | 0, k => by simp [ykf]
  | n + 1, k => by
    unfold ykf
    split
    · omega
    · have := ykf_le h n (k + 1); omega
theorem ykf_low (h : Rat) : ∀ n k : Nat, (spk (k : Int) : Rat) ≤ h → (spk ((ykf h n k : Nat) : Int) : Rat) ≤ h
  | 0, k, hk => by simpa [ykf] using hk
  | n + 1, k, hk => by
    unfold ykf
    split
    · exact hk
    · refine ykf_low h n (k + 1) ?_
      rw [show ((k + 1 : Nat) : Int) = (k : Int) + 1 by omega]
      grind
theorem ykf_high (h : Rat) : ∀ n k : Nat, ykf h n k < k + n → h ≤ (spk ((ykf h n k : Nat) + 1 : Int) : Rat)
  | 0, k, hk => by simp [ykf] at hk
  | n + 1, k, hk => by
    unfold ykf at hk ⊢
    split
    · assumption
    · rename_i hn
      rw [if_neg hn] at hk
      exact ykf_high h n (k + 1) (by omega)
theorem ykf_end (h : Rat) : ∀ n k : Nat, ykf h n k = k + n → 0 < n → (spk ((k : Int) + n) : Rat) < h
  | 0, _, _, hn => by omega
  | n + 1, k, hk, _ => by
    unfold ykf at hk
    split at hk
    · omega
    · rename_i hh
      by_cases e : n = 0
      · subst e
        rw [show (k : Int) + ((0 + 1 : Nat) : Int) = (k : Int) + 1 by omega]
        grind
      · have := ykf_end h n (k + 1) (by omega) (by omega)
        rw [show ((k + 1 : Nat) : Int) + (n : Int) = (k : Int) + ((n + 1 : Nat) : Int) by omega] at this
        exact this
/-- The place of a height from 0 on. -/
def ay (h : Rat) : Rat := if yk h < 24 then (h - (spk (yk h) : Rat)) / ((spk ((yk h : Nat) + 1 : Int) - spk (yk h) : Int) : Rat) + ((yk h : Nat) : Int) else ((24 : Int) : Rat)
theorem ay_of {h : Rat} (h0 : 0 ≤ h) (h1 : h ≤ ((3438 : Int) : Rat)) : 0 ≤ ay h ∧ ay h ≤ ((24 : Int) : Rat) ∧ lin spk (ay h) = h := by
  have hl := ykf_low h 24 0 (by have e : spk ((0 : Nat) : Int) = 0 := by decide +kernel
                                rw [e, Rat.intCast_zero]; exact h0)
  have hk := ykf_le h 24 0
  have hh := ykf_high h 24 0
  have he := ykf_end h 24 0
  change (spk (yk h : Nat) : Rat) ≤ h at hl
  change 0 ≤ yk h ∧ yk h ≤ 0 + 24 at hk
  change yk h < 0 + 24 → _ at hh
  change yk h = 0 + 24 → _ at he
  change _ → h ≤ (spk ((yk h : Nat) + 1 : Int) : Rat) at hh
  by_cases c : yk h < 24
  · have hh := hh (by omega)
    have up := sp_up (k := (yk h : Nat)) (by omega) (by omega)
    unfold ay
    rw [if_pos c]
    generalize yk h = n at *
    have upq := cast_lt up
    have hd : (0 : Rat) < ((spk ((n : Nat) + 1 : Int) - spk (n : Nat) : Int) : Rat) := by rw [Rat.intCast_sub]; grind
    have f0 : 0 ≤ (h - (spk (n : Nat) : Rat)) / ((spk ((n : Nat) + 1 : Int) - spk (n : Nat) : Int) : Rat) := Rat.not_lt.1 fun hn => by rw [Rat.div_lt_iff hd] at hn; grind
    have f1 : (h - (spk (n : Nat) : Rat)) / ((spk ((n : Nat) + 1 : Int) - spk (n : Nat) : Int) : Rat) ≤ 1 := Rat.not_lt.1 fun hn => by rw [Rat.lt_div_iff hd, Rat.intCast_sub] at hn; grind
    have fm : (h - (spk (n : Nat) : Rat)) / ((spk ((n : Nat) + 1 : Int) - spk (n : Nat) : Int) : Rat) * ((spk ((n : Nat) + 1 : Int) - spk (n : Nat) : Int) : Rat) = h - (spk (n : Nat) : Rat) := Rat.div_mul_cancel (by grind)
    generalize (h - (spk (n : Nat) : Rat)) / ((spk ((n : Nat) + 1 : Int) - spk (n : Nat) : Int) : Rat) = f at *
    have k0 := cast_le (show (0 : Int) ≤ ((n : Nat) : Int) by omega)
    have k1 := cast_le (show ((n : Nat) : Int) + 1 ≤ 24 by omega)
    rw [Rat.intCast_add, Rat.intCast_one] at k1
    rw [Rat.intCast_zero] at k0
    rw [Rat.intCast_sub] at fm
    refine ⟨by grind, by grind, ?_⟩
    by_cases c1 : f = 1
    · rw [c1, show (1 : Rat) + (((n : Nat) : Int) : Rat) = (((n : Nat) + 1 : Int) : Rat) by rw [Rat.intCast_add, Rat.intCast_one]; grind, lin_int]
      grind
    · have ef : (f + (((n : Nat) : Int) : Rat)).floor = ((n : Nat) : Int) := fl_of (by grind) (by grind)
      unfold lin
      rw [ef]
      grind
  · have e : yk h = 24 := by omega
    have := he (by omega) (by decide)
    rw [show spk (((0 : Nat) : Int) + ((24 : Nat) : Int)) = 3438 by decide +kernel] at this
    grind
/-- The place of any height. -/
def ap (a : Rat) : Rat := if a < 0 then -ay (-a) else ay a
theorem ap_of {h : Rat} (h0 : ((-3438 : Int) : Rat) ≤ h) (h1 : h ≤ ((3438 : Int) : Rat)) : ((-24 : Int) : Rat) ≤ ap h ∧ ap h ≤ ((24 : Int) : Rat) ∧ lin spk (ap h) = h := by
  have e1 : ((-3438 : Int) : Rat) = -((3438 : Int) : Rat) := Rat.intCast_neg _
  have e2 : ((-24 : Int) : Rat) = -((24 : Int) : Rat) := Rat.intCast_neg _
  unfold ap
  split
  · obtain ⟨a, b, c⟩ := ay_of (h := -h) (by grind) (by grind)
    refine ⟨by grind, by grind, ?_⟩
    have := lin_turn (S := spk) 0 (fun k => by rw [Int.zero_sub]; exact sp_neg k) (ay (-h))
    rw [show ((0 : Int) : Rat) - ay (-h) = -ay (-h) by rw [Rat.intCast_zero]; grind, c] at this
    rw [this]; grind
  · obtain ⟨a, b, c⟩ := ay_of (h := h) (by grind) h1
    have : (0 : Rat) ≤ ((24 : Int) : Rat) := by decide +kernel
    exact ⟨by grind, b, c⟩
/-! ### Sines, of degrees -/
/-- How many degrees lie between two places. -/
def wd : Rat := ((360 : Int) : Rat) / ((96 : Int) : Rat)
theorem wd_eq : wd = 15 / 4 := by decide +kernel
theorem wd_eq' : ((360 : Int) : Rat) / ((96 : Int) : Rat) = 15 / 4 := by decide +kernel
def sof (x : Rat) : Rat := lin spk (x / wd) / ((3438 : Int) : Rat)
def arcv (a : Rat) : Rat := ap (a * ((3438 : Int) : Rat)) * wd
theorem c3438 : ((3438 : Int) : Rat) = 3438 := rfl
theorem lin_around (y : Rat) (n : Int) : lin spk (y + ((96 * n : Int) : Rat)) = lin spk y := lin_more (fun k => sp_more k n) y
theorem lin_rmod (y : Rat) : lin spk (rmod y ((96 : Int) : Rat)) = lin spk y := by
  unfold rmod
  rw [if_neg (by decide +kernel)]
  have := lin_around y (-(y / ((96 : Int) : Rat)).floor)
  rw [← this]
  congr 1
  rw [Rat.intCast_mul, Rat.intCast_neg]; grind
theorem sof_eq (x : Rat) : (((spk (rmod (x / wd) ((96 : Int) : Rat)).floor : Int) : Rat) + (rmod (x / wd) ((96 : Int) : Rat) - (((rmod (x / wd) ((96 : Int) : Rat)).floor : Int) : Rat)) * ((spk ((rmod (x / wd) ((96 : Int) : Rat)).floor + 1) - spk (rmod (x / wd) ((96 : Int) : Rat)).floor : Int) : Rat)) / ((3438 : Int) : Rat) = sof x := by
  unfold sof
  rw [← lin_rmod (x / wd)]
  unfold lin
  rw [Rat.intCast_sub]
theorem div_wd (a b : Rat) : (a + b) / wd = a / wd + b / wd := by rw [wd_eq]; grind
theorem sof_turn (p : Rat) (n : Int) : sof (p + ((360 : Int) : Rat) * (n : Rat)) = sof p := by
  unfold sof
  rw [div_wd, show ((360 : Int) : Rat) * (n : Rat) / wd = ((96 * n : Int) : Rat) by rw [wd_eq, Rat.intCast_mul, show ((360 : Int) : Rat) = 360 from rfl, show ((96 : Int) : Rat) = 96 from rfl]; grind, lin_around]
theorem sof_neg (p : Rat) : sof (-p) = -sof p := by
  unfold sof
  have := lin_turn (S := spk) 0 (fun k => by rw [Int.zero_sub]; exact sp_neg k) (p / wd)
  rw [show -p / wd = ((0 : Int) : Rat) - p / wd by rw [wd_eq, Rat.intCast_zero]; grind, this]
  rw [c3438]; grind
theorem sof_half (p : Rat) : sof (((180 : Int) : Rat) - p) = sof p := by
  unfold sof
  rw [show (((180 : Int) : Rat) - p) / wd = ((48 : Int) : Rat) - p / wd by rw [wd_eq, show ((180 : Int) : Rat) = 180 from rfl, show ((48 : Int) : Rat) = 48 from rfl]; grind, lin_back 48 sp_half]
theorem wd_mul (p : Rat) : p / wd * wd = p := by rw [wd_eq]; grind
theorem sof_arc {a : Rat} (h1 : ((-1 : Int) : Rat) ≤ a) (h2 : a ≤ ((1 : Int) : Rat)) : sof (arcv a) = a := by
  have e1 : ((-1 : Int) : Rat) = -1 := by decide +kernel
  have e2 : ((1 : Int) : Rat) = 1 := by decide +kernel
  have e3 : ((-3438 : Int) : Rat) = -3438 := by decide +kernel
  obtain ⟨_, _, h⟩ := ap_of (h := a * ((3438 : Int) : Rat)) (by rw [c3438]; grind) (by rw [c3438]; grind)
  unfold sof arcv
  rw [show ap (a * ((3438 : Int) : Rat)) * wd / wd = ap (a * ((3438 : Int) : Rat)) by rw [wd_eq]; grind, h, c3438]
  grind
theorem sof_bd (p : Rat) : -1 ≤ sof p ∧ sof p ≤ 1 := by
  have := lin_bd (S := spk) 3438 sp_bd (p / wd)
  unfold sof
  rw [c3438] at *
  constructor <;> grind
theorem wd90 {d : Rat} (h1 : ((-90 : Int) : Rat) ≤ d) (h2 : d ≤ ((90 : Int) : Rat)) : ((-24 : Int) : Rat) ≤ d / wd ∧ d / wd ≤ ((24 : Int) : Rat) := by
  have e1 : ((-90 : Int) : Rat) = -90 := by decide +kernel
  have e2 : ((90 : Int) : Rat) = 90 := by decide +kernel
  have e3 : ((-24 : Int) : Rat) = -24 := by decide +kernel
  have e4 : ((24 : Int) : Rat) = 24 := by decide +kernel
  rw [wd_eq]
  constructor <;> grind
theorem lin_sof (p : Rat) : sof p * ((3438 : Int) : Rat) = lin spk (p / wd) := by unfold sof; rw [c3438]; grind
theorem arc_sof {d : Rat} (h1 : ((-90 : Int) : Rat) ≤ d) (h2 : d ≤ ((90 : Int) : Rat)) : arcv (sof d) = d := by
  have b := lin_bd (S := spk) 3438 sp_bd (d / wd)
  have e3 : ((-3438 : Int) : Rat) = -((3438 : Int) : Rat) := by decide +kernel
  obtain ⟨a1, a2, a3⟩ := ap_of (h := lin spk (d / wd)) (by grind) b.2
  obtain ⟨w1, w2⟩ := wd90 h1 h2
  unfold arcv
  rw [lin_sof, lin_inj a1 a2 w1 w2 a3, wd_mul]
theorem abs_le {a b : Rat} (h1 : -b ≤ a) (h2 : a ≤ b) : a.abs ≤ b := by unfold Rat.abs; split <;> grind
theorem le_abs (a : Rat) : a ≤ a.abs ∧ -a ≤ a.abs ∧ (a.abs = a ∨ a.abs = -a) := by unfold Rat.abs; split <;> grind
theorem sof_lip (p q : Rat) : (sof p - sof q).abs ≤ (p - q).abs * (((60 : Int) : Rat) / ((3438 : Int) : Rat)) := by
  have key : ∀ {p q : Rat}, p ≤ q → -((q - p) * (60 / 3438)) ≤ sof p - sof q ∧ sof p - sof q ≤ (q - p) * (60 / 3438) := by
    intro p q h
    have hw : p / wd ≤ q / wd := by rw [wd_eq]; grind
    have := lin_lip (S := spk) 225 sp_step hw
    obtain ⟨l1, l2, _⟩ := le_abs (lin spk (p / wd) - lin spk (q / wd))
    have e : ((225 : Int) : Rat) * (q / wd - p / wd) = 60 * (q - p) := by rw [wd_eq, show ((225 : Int) : Rat) = 225 from rfl]; grind
    rw [e] at this
    have s1 := lin_sof p
    have s2 := lin_sof q
    rw [c3438] at s1 s2
    constructor <;> grind
  have e : ((60 : Int) : Rat) / ((3438 : Int) : Rat) = 60 / 3438 := by decide +kernel
  rw [e]
  by_cases h : p ≤ q
  · obtain ⟨a, b⟩ := key h
    have : (p - q).abs = q - p := by unfold Rat.abs; split <;> grind
    rw [this]; exact abs_le a b
  · obtain ⟨a, b⟩ := key (show q ≤ p by grind)
    have : (p - q).abs = p - q := by unfold Rat.abs; split <;> grind
    rw [this]; exact abs_le (by grind) (by grind)
theorem sof_rise {p q : Rat} (h1 : ((-90 : Int) : Rat) ≤ p) (h2 : p < q) (h3 : q ≤ ((90 : Int) : Rat)) : sof p < sof q := by
  have w1 := (wd90 h1 (by grind)).1
  have w2 := (wd90 (by grind) h3).2
  have := lin_rise w1 (show p / wd < q / wd by rw [wd_eq]; grind) w2
  have s1 := lin_sof p
  have s2 := lin_sof q
  rw [c3438] at s1 s2
  grind
theorem sof_same {p q : Rat} (h1 : ((-90 : Int) : Rat) ≤ p) (h2 : p ≤ ((90 : Int) : Rat)) (h3 : ((-90 : Int) : Rat) ≤ q) (h4 : q ≤ ((90 : Int) : Rat)) : (sof p < sof q ↔ p < q) := by
  constructor
  · intro h
    by_cases e : q < p
    · have := sof_rise h3 e h2; grind
    · by_cases e2 : p = q
      · subst e2; grind
      · grind
  · intro h; exact sof_rise h1 h h4
/-! ### The circle -/
theorem comb_bd {f e0 e1 v : Rat} (h0 : 0 ≤ f) (h1 : f ≤ 1) (a1 : e0 ≤ 4000) (a2 : -4000 ≤ e0) (b1 : e1 ≤ 4000) (b2 : -4000 ≤ e1) (c1 : v ≤ 4000) (c2 : -30000 ≤ v) :
    (1 - f) * (1 - f) * e0 + f * f * e1 + 2 * (f * (1 - f)) * v ≤ 4000 ∧ -17000 ≤ (1 - f) * (1 - f) * e0 + f * f * e1 + 2 * (f * (1 - f)) * v := by
  have t0 : 0 ≤ f * (1 - f) := Rat.mul_nonneg h0 (by grind)
  have s1 : 0 ≤ (1 - f) * (1 - f) := Rat.mul_nonneg (by grind) (by grind)
  have s2 : 0 ≤ f * f := Rat.mul_nonneg h0 h0
  have m1 := Rat.mul_nonneg s1 (show 0 ≤ 4000 - e0 by grind)
  have m2 := Rat.mul_nonneg s1 (show 0 ≤ e0 + 4000 by grind)
  have m3 := Rat.mul_nonneg s2 (show 0 ≤ 4000 - e1 by grind)
  have m4 := Rat.mul_nonneg s2 (show 0 ≤ e1 + 4000 by grind)
  have m5 := Rat.mul_nonneg t0 (show 0 ≤ 4000 - v by grind)
  have m6 := Rat.mul_nonneg t0 (show 0 ≤ v + 30000 by grind)
  have sq : 0 ≤ (f - 1 / 2) * (f - 1 / 2) := by
    by_cases h : f - 1 / 2 ≤ 0
    · have := Rat.mul_nonneg (show 0 ≤ -(f - 1 / 2) by grind) (show 0 ≤ -(f - 1 / 2) by grind); grind
    · exact Rat.mul_nonneg (by grind) (by grind)
  constructor <;> grind
theorem lin_circ (y : Rat) : lin spk y * lin spk y + lin spk (y + ((24 : Int) : Rat)) * lin spk (y + ((24 : Int) : Rat)) - 11819844 ≤ 4000 ∧ -17000 ≤ lin spk y * lin spk y + lin spk (y + ((24 : Int) : Rat)) * lin spk (y + ((24 : Int) : Rat)) - 11819844 := by
  have f0 := fl_le y
  have f1 := fl_lt y
  have e : lin spk (y + ((24 : Int) : Rat)) = (spk (y.floor + 24) : Rat) + (y - (y.floor : Rat)) * ((spk (y.floor + 25) : Rat) - (spk (y.floor + 24) : Rat)) := by
    unfold lin
    rw [Rat.floor_add_intCast, show y.floor + 24 + 1 = y.floor + 25 by omega, Rat.intCast_add]; grind
  rw [e]
  unfold lin
  obtain ⟨⟨t1, t2⟩, t3, t4⟩ := circ_tab y.floor
  obtain ⟨⟨t5, t6⟩, _⟩ := circ_tab (y.floor + 1)
  rw [show y.floor + 1 + 24 = y.floor + 25 by omega] at t5 t6
  replace t1 := cast_le t1; replace t2 := cast_le t2; replace t3 := cast_le t3; replace t4 := cast_le t4; replace t5 := cast_le t5; replace t6 := cast_le t6
  simp only [Rat.intCast_add, Rat.intCast_mul, Rat.intCast_sub] at t1 t2 t3 t4 t5 t6
  rw [show ((11819844 : Int) : Rat) = 11819844 from rfl] at *
  rw [show ((4000 : Int) : Rat) = 4000 from rfl] at t1 t3 t5
  rw [show ((-4000 : Int) : Rat) = -4000 from rfl] at t2 t6
  rw [show ((-30000 : Int) : Rat) = -30000 from rfl] at t4
  generalize (spk y.floor : Rat) = A at *
  generalize (spk (y.floor + 1) : Rat) = B at *
  generalize (spk (y.floor + 24) : Rat) = C at *
  generalize (spk (y.floor + 25) : Rat) = D at *
  obtain ⟨f, hf⟩ : ∃ f, f = y - (y.floor : Rat) := ⟨_, rfl⟩
  rw [← hf]
  have := comb_bd (f := f) (e0 := A * A + C * C - 11819844) (e1 := B * B + D * D - 11819844) (v := A * B + C * D - 11819844) (by grind) (by grind) t1 t2 t5 t6 t3 t4
  have e2 : (A + f * (B - A)) * (A + f * (B - A)) + (C + f * (D - C)) * (C + f * (D - C)) - 11819844 = (1 - f) * (1 - f) * (A * A + C * C - 11819844) + f * f * (B * B + D * D - 11819844) + 2 * (f * (1 - f)) * (A * B + C * D - 11819844) := by grind
  rw [e2]
  exact this
theorem circ_near (p : Rat) : (sof p * sof p + sof (p + ((90 : Int) : Rat)) * sof (p + ((90 : Int) : Rat)) - ((1 : Int) : Rat)).abs ≤ ((1 : Int) : Rat) / ((500 : Int) : Rat) := by
  have e1 : ((1 : Int) : Rat) = 1 := by decide +kernel
  have e2 : ((1 : Int) : Rat) / ((500 : Int) : Rat) = 1 / 500 := by decide +kernel
  rw [e2, e1]
  have h := lin_circ (p / wd)
  have e3 : (p + ((90 : Int) : Rat)) / wd = p / wd + ((24 : Int) : Rat) := by rw [wd_eq, show ((90 : Int) : Rat) = 90 from rfl, show ((24 : Int) : Rat) = 24 from rfl]; grind
  have s1 := lin_sof p
  have s2 := lin_sof (p + ((90 : Int) : Rat))
  rw [e3] at s2
  rw [← s1, ← s2, c3438] at h
  generalize sof p = s at *
  generalize sof (p + ((90 : Int) : Rat)) = c at *
  exact abs_le (by grind) (by grind)
theorem lin_side (y : Rat) : ∃ z : Rat, ((-24 : Int) : Rat) ≤ z ∧ z ≤ ((24 : Int) : Rat) ∧ lin spk z = lin spk y ∧ lin spk (z + ((24 : Int) : Rat)) = (lin spk (y + ((24 : Int) : Rat))).abs := by
  have e24 : ((24 : Int) : Rat) = 24 := by decide +kernel
  have e48 : ((48 : Int) : Rat) = 48 := by decide +kernel
  have em24 : ((-24 : Int) : Rat) = -24 := by decide +kernel
  have e96 : ((96 : Int) : Rat) = 96 := by decide +kernel
  obtain ⟨r, hr0, hr1, n, hn⟩ : ∃ r : Rat, -24 ≤ r ∧ r < 72 ∧ ∃ n : Int, y = r + ((96 * n : Int) : Rat) := by
    refine ⟨rmod (y + 24) 96 - 24, ?_, ?_, ((y + 24) / 96).floor, ?_⟩
    · have := rmod_low (x := y + 24) (m := 96) (by grind); grind
    · have := rmod_high (x := y + 24) (m := 96) (by grind); grind
    · unfold rmod; rw [if_neg (by grind), Rat.intCast_mul, e96]; grind
  have y1 : lin spk y = lin spk r := by rw [hn, lin_around]
  have y2 : lin spk (y + ((24 : Int) : Rat)) = lin spk (r + ((24 : Int) : Rat)) := by
    rw [hn, show r + ((96 * n : Int) : Rat) + ((24 : Int) : Rat) = r + ((24 : Int) : Rat) + ((96 * n : Int) : Rat) by grind, lin_around]
  have pos : ∀ z : Rat, 0 ≤ z → z ≤ 48 → 0 ≤ lin spk z := by
    have l0 : lin spk 0 = 0 := by have := lin_int spk 0; rw [Rat.intCast_zero] at this; rw [this]; decide +kernel
    have low : ∀ z : Rat, 0 ≤ z → z ≤ 24 → 0 ≤ lin spk z := by
      intro z a b
      by_cases c : z = 0
      · rw [c, l0]; grind
      · have := lin_rise (y := 0) (z := z) (by rw [em24]; grind) (by grind) (by rw [e24]; grind); grind
    intro z a b
    by_cases c : z ≤ 24
    · exact low z a c
    · have := lin_back (S := spk) 48 sp_half z
      rw [← this, e48]; exact low _ (by grind) (by grind)
  rw [y1, y2]
  by_cases c : r ≤ 24
  · refine ⟨r, by rw [em24]; exact hr0, by rw [e24]; exact c, rfl, ?_⟩
    have := pos (r + ((24 : Int) : Rat)) (by rw [e24]; grind) (by rw [e24]; grind)
    unfold Rat.abs; rw [if_pos this]
  · refine ⟨((48 : Int) : Rat) - r, by rw [em24, e48]; grind, by rw [e24, e48]; grind, lin_back 48 sp_half r, ?_⟩
    have h1 : lin spk (((48 : Int) : Rat) - r + ((24 : Int) : Rat)) = lin spk (r - ((24 : Int) : Rat)) := by
      rw [← lin_back (S := spk) 48 sp_half (r - ((24 : Int) : Rat))]
      congr 1; grind
    have h2 := lin_opp (S := spk) 48 sp_opp (r - ((24 : Int) : Rat))
    rw [show r - ((24 : Int) : Rat) + ((48 : Int) : Rat) = r + ((24 : Int) : Rat) by rw [e24, e48]; grind] at h2
    have := pos (r - ((24 : Int) : Rat)) (by rw [e24]; grind) (by rw [e24]; grind)
    rw [h1, h2]
    unfold Rat.abs; split <;> grind
theorem arc_circ (p : Rat) : sof (arcv (sof p)) = sof p ∧ sof (arcv (sof p) + ((90 : Int) : Rat)) = (sof (p + ((90 : Int) : Rat))).abs := by
  obtain ⟨z, h1, h2, h3, h4⟩ := lin_side (p / wd)
  have b := sof_bd p
  refine ⟨sof_arc (by rw [show ((-1 : Int) : Rat) = -1 from rfl]; exact b.1) (by rw [show ((1 : Int) : Rat) = 1 from rfl]; exact b.2), ?_⟩
  have e : arcv (sof p) = z * wd := by
    have q := lin_bd (S := spk) 3438 sp_bd (p / wd)
    have e3 : ((-3438 : Int) : Rat) = -((3438 : Int) : Rat) := by decide +kernel
    obtain ⟨a1, a2, a3⟩ := ap_of (h := lin spk (p / wd)) (by grind) q.2
    unfold arcv
    rw [lin_sof, lin_inj a1 a2 h1 h2 (a3.trans h3.symm)]
  rw [e]
  unfold sof
  rw [show (z * wd + ((90 : Int) : Rat)) / wd = z + ((24 : Int) : Rat) by rw [wd_eq, show ((90 : Int) : Rat) = 90 from rfl, show ((24 : Int) : Rat) = 24 from rfl]; grind, show (p + ((90 : Int) : Rat)) / wd = p / wd + ((24 : Int) : Rat) by rw [wd_eq, show ((90 : Int) : Rat) = 90 from rfl, show ((24 : Int) : Rat) = 24 from rfl]; grind, h4, c3438]
  unfold Rat.abs
  split <;> split <;> grind

/-! ### The walks' words -/
def pk (x : Rat) : Int := (rmod (x / wd) ((96 : Int) : Rat)).floor
def pfr (x : Rat) : Rat := rmod (x / wd) ((96 : Int) : Rat) - ((pk x : Int) : Rat)
theorem pk_bd (x : Rat) : 0 ≤ pk x ∧ pk x < 96 := by
  have h : (0 : Rat) < ((96 : Int) : Rat) := by decide +kernel
  have h1 := rmod_low (x := x / wd) h
  have h2 := rmod_high (x := x / wd) h
  refine ⟨Rat.le_floor_iff.2 (by rw [Rat.intCast_zero]; exact h1), Rat.floor_lt_iff.2 h2⟩
theorem pk_sm (x : Rat) : sm64 (rmod (x / wd) ((96 : Int) : Rat)).floor = pk x := sm64_t (by have := pk_bd x; unfold pk at this; omega) (by have := pk_bd x; unfold pk at this; omega)
theorem sof_pk (x : Rat) : (((spk (pk x) : Int) : Rat) + pfr x * ((spk (pk x + 1) - spk (pk x) : Int) : Rat)) / ((3438 : Int) : Rat) = sof x := sof_eq x
theorem wd_lim : RLim wd 2 := (rlim_mk2 (limz_64 (by decide) (by decide)) (limz_64 (by decide) (by decide))).up 2 (by decide)
theorem lim64 {n : Int} (h0 : -9223372036854775808 ≤ n) (h1 : n ≤ 9223372036854775807) : RLim ((n : Int) : Rat) 2 := rlim_int (limz_64 h0 h1) (by decide)
theorem around_lim {x : Rat} {k : Nat} (h : RLim x k) : RLim (rmod (x / wd) ((96 : Int) : Rat)) (2 * k + 20) := (rmod_lim (rlim_div h wd_lim) (lim64 (by decide) (by decide))).up _ (by omega)
theorem pfr_lim {x : Rat} {k : Nat} (h : RLim x k) : RLim (pfr x) (4 * k + 50) := (frac_lim (around_lim h)).up _ (by omega)
theorem spk64 (k : Int) : -9223372036854775808 ≤ spk k ∧ spk k ≤ 9223372036854775807 := by have := sp_bd k; omega
theorem dif64 (k : Int) : -9223372036854775808 ≤ spk (k + 1) - spk k ∧ spk (k + 1) - spk k ≤ 9223372036854775807 := by have := sp_step k; omega
theorem sof_lim {x : Rat} {k : Nat} (h : RLim x k) : RLim (sof x) (4 * k + 60) := by
  rw [← sof_pk]
  exact (rlim_div (rlim_add (lim64 (spk64 _).1 (spk64 _).2) (rlim_mul (pfr_lim h) (lim64 (dif64 _).1 (dif64 _).2))) (lim64 (n := 3438) (by decide) (by decide))).up _ (by omega)
theorem ay_lim {h : Rat} {k : Nat} (l : RLim h k) : RLim (ay h) (k + 10) := by
  unfold ay
  split
  · exact (rlim_add (rlim_div (rlim_sub l (lim64 (spk64 _).1 (spk64 _).2)) (lim64 (dif64 _).1 (dif64 _).2)) (lim64 (by omega) (by omega))).up _ (by omega)
  · exact (lim64 (by decide) (by decide)).up _ (by omega)
theorem arcv_lim {x : Rat} {k : Nat} (l : RLim x k) : RLim (arcv x) (k + 20) := by
  have h := rlim_mul l (lim64 (n := 3438) (by decide) (by decide))
  unfold arcv ap
  refine (rlim_mul (k := k + 12) ?_ wd_lim).up _ (by omega)
  split
  · exact rlim_neg (ay_lim (rlim_neg h))
  · exact ay_lim h
theorem hiv_spk {k : Int} (h0 : 0 ≤ k) (h1 : k ≤ 24) : hiT.getD (max 0 (min k 24)).toNat 0 = spk k := by
  have t : ∀ n : Nat, n < 25 → hiT.getD (max 0 (min (n : Int) 24)).toNat 0 = spk (n : Int) := by decide +kernel
  have := t k.toNat (by omega)
  rwa [show ((k.toNat : Nat) : Int) = k by omega] at this
theorem qc_pos {a b : Rat} : 0 < qc a b ↔ b < a := by
  rw [qc_def]
  split
  · constructor
    · intro h; omega
    · intro h; grind
  · split
    · constructor
      · intro; assumption
      · intro; omega
    · constructor
      · intro h; omega
      · intro h; contradiction
theorem yk_next {h : Rat} {j : Nat} (hj : j < 24) (e : ykf h (24 - j) j = yk h) (hc : 0 < qc h ((spk (((j : Nat) : Int) + 1) : Int) : Rat)) : ykf h (24 - (j + 1)) (j + 1) = yk h := by
  rw [← e, show 24 - j = (24 - (j + 1)) + 1 by omega]
  show _ = if h ≤ _ then _ else _
  have := qc_pos.1 hc
  rw [if_neg (by grind)]
theorem yk_here {h : Rat} {j : Nat} (hj : j < 24) (e : ykf h (24 - j) j = yk h) (hc : ¬ 0 < qc h ((spk (((j : Nat) : Int) + 1) : Int) : Rat)) : yk h = j := by
  rw [← e, show 24 - j = (24 - (j + 1)) + 1 by omega]
  show (if h ≤ _ then _ else _) = _
  have : ¬ _ < _ := fun q => hc (qc_pos.2 q)
  rw [if_pos (by grind)]
theorem arc_here {x : Rat} {j : Nat} (hx : ¬ x < 0) (hj : j < 24) (e : yk (x * ((3438 : Int) : Rat)) = j) : ((x * ((3438 : Int) : Rat) - ((spk ((j : Nat) : Int) : Int) : Rat)) / ((spk (((j : Nat) : Int) + 1) - spk ((j : Nat) : Int) : Int) : Rat) + ((((j : Nat) : Int) : Int) : Rat)) * wd = arcv x := by
  unfold arcv ap
  rw [if_neg (by rw [c3438]; grind)]
  unfold ay
  rw [e, if_pos hj]
theorem arc_end {x : Rat} (hx : ¬ x < 0) (e : yk (x * ((3438 : Int) : Rat)) = 24) : ((90 : Int) : Rat) = arcv x := by
  unfold arcv ap
  rw [if_neg (by rw [c3438]; grind)]
  unfold ay
  rw [e, if_neg (by decide)]
  decide +kernel
theorem arc_neg {x : Rat} (hx : x < 0) : -(arcv (-x)) = arcv x := by
  unfold arcv ap
  rw [if_neg (by rw [c3438]; grind), if_pos (by rw [c3438]; grind), show -x * ((3438 : Int) : Rat) = -(x * ((3438 : Int) : Rat)) by grind]
  grind
theorem sz_lt0 {q : Rat} : sz q.num < 0 ↔ q < 0 := by
  rw [sz_def]
  split
  · constructor <;> intro <;> first | assumption | omega
  · split
    · constructor <;> intro <;> first | contradiction | omega
    · constructor <;> intro <;> first | contradiction | omega
theorem neg_not {q : Rat} (h : q < 0) : ¬ sz (-q).num < 0 := by
  rw [sz_lt0]; grind
def PlacePost (w : World) (x : Rat) : Ending → World → Prop := fun e w' => ∃ v, e = .returned (.tuple #[.int .i64 (pk x), v]) ∧ Rq w' v (pfr x) ∧ Below w.heap.size w w'
theorem rv_iv {a b : Int} {v : Value} (h : a = b) : Ending.returned (.tuple #[.int .i64 a, v]) = .returned (.tuple #[.int .i64 b, v]) := by rw [h]
theorem res_tmpcell {P : Program} {fn : Func} {a : Act} {w : World} {t u : Tmp} {T : TypeId} {p : Addr} {v x : Value} (h : fn.results = #[.tmp t, .cell u T]) (hx : a.tmps.getD t undef = x) (ha : a.tmps.getD u undef = .pointer (some p)) (hl : (Instr.loadAt T (.pointer (some p))).run P w = .ok v w) :
    (results fn a.tmps).run P w = .ok (.tuple #[x, v]) w := by
  have hl' : (loadVar T p).run P w = .ok v w := hl
  have e : (asAddr (a.tmps.getD u undef)).run P w = .ok p w := by rw [ha]; rfl
  simp only [results, h, List.mapM_toArray, List.mapM_cons, List.mapM_nil, Sem.run_bind, e, Result.andThen_ok, hl', Sem.run_pure, Sem.run_map, hx]
  rfl
end Go.Proofs.YtmpdbkdijfpbbaaDoor

/- sine: its functions. -/
namespace Go.Proofs.YtmpdbkdijfpbbaaDoor
open Go.RowKit
set_option maxRecDepth 100000
set_option linter.unusedVariables false

theorem en77 : (Tryd.f77.name == "runtime.NumGoroutine") = false ∧ Tryd.f77.body.isNone = false := ⟨by decide +kernel, by kernel_rfl⟩
theorem en71 : (Tryd.f71.name == "runtime.NumGoroutine") = false ∧ Tryd.f71.body.isNone = false := ⟨by decide +kernel, by kernel_rfl⟩
theorem en73 : (Tryd.f73.name == "runtime.NumGoroutine") = false ∧ Tryd.f73.body.isNone = false := ⟨by decide +kernel, by kernel_rfl⟩
theorem en41 : (Tryd.f41.name == "runtime.NumGoroutine") = false ∧ Tryd.f41.body.isNone = false := ⟨by decide +kernel, by kernel_rfl⟩
theorem en43 : (Tryd.f43.name == "runtime.NumGoroutine") = false ∧ Tryd.f43.body.isNone = false := ⟨by decide +kernel, by kernel_rfl⟩
theorem high_spk (k : Int) (w : World) (hT : TabD w) (h0 : 0 ≤ k) (h1 : k ≤ 24) : Calls Tryd.prog 76 #[.int .i64 k] w (ValPost w (.int .i64 (spk k))) := by
  have := high_any k w hT
  rwa [show hiv k = spk k from hiv_spk h0 h1] at this
set_option maxHeartbeats 1000000 in
theorem width_any (w : World) :
    Calls Tryd.prog 77 #[] w (RqPost w wd) := by
  have bel : Below w.heap.size w w := Below.refl _ _
  refine E.enter (nt := 2) (L := []) Tryd.func77 rfl rfl rfl args_nil ?_
  intro a hF
  refine wp_seq ?_
  refine E.seq ?_
  obtain ⟨g0, w1, ge0, hr, bb, o0⟩ := own_alloc (P := Tryd.prog) (w := w) (cs := [.bool false, .slice none 0 0, .slice none 0 0]) 32 ze_Rat rfl (niB (niS (niS ni0)))
  replace ge0 : w.heap.size ≤ g0 := by rw [← ge0]; exact bel.size
  refine E.opv hF (r_alloc hr) rfl rfl rfl rfl fun a hF => ?_
  clear hr
  replace bel := below_to bel bb
  clear bb
  refine E.nil ?_
  refine wp_seq ?_
  refine E.seq ?_
  refine E.call hF (r_call Tryd.func15 en15.1 en15.2 (map2 ev_c ev_c)) (rOf2_any (360) (96) _ (by decide) (by decide) (by decide) (by decide)) rfl rfl rfl rfl ?_
  rintro e w2 ⟨vv3, rfl, hh4, bb⟩
  refine ⟨_, rfl, ?_⟩
  intro a hF
  replace o0 := o0.below bb
  replace bel := below_to bel bb
  clear bb
  obtain ⟨b5, ad5, n5, c5, ae5, m5, d5, rfl, hn5, hd5⟩ := Rq.shape hh4
  have hf6 := Wc.abs hn5
  obtain ⟨w7, hr, tu, on⟩ := st_Rat (vs := [.bool b5, .slice ad5 n5 c5, .slice ae5 m5 d5]) o0 rfl rfl (ocB (ocS (ocS oc0))) (niB (niS (niS ni0))) (o := 0) rfl
  have kp := tu.keep o0
  refine E.st hF (r_store (hF.at 1 rfl) (hF.at 0 rfl) (hr _ rfl)) rfl rfl fun a hF => ?_
  clear hr
  replace hh4 := hh4.keep kp
  replace hn5 := hn5.keep kp
  replace hf6 := hf6.keep kp
  replace hd5 := hd5.keep kp
  replace bel := tu.below bel ge0
  clear tu kp
  replace o0 := on
  clear on
  refine E.nil ?_
  refine wp_ret ?_
  refine bodyPost_ret (res_cell Tryd.results77 (hF.at 1 rfl) (ld_Rat (vs := [.bool b5, .slice ad5 n5 c5, .slice ae5 m5 d5]) o0 rfl rfl)) hF.dfr ?_
  exact ⟨_, rfl, hh4, bel⟩

set_option maxHeartbeats 1000000 in
theorem rise_any (k : Int) (w : World) (hT : TabD w) (h0 : -1000000 ≤ k) (h1 : k ≤ 1000000) :
    Calls Tryd.prog 73 #[.int .i64 k] w (ValPost w (.int .i64 (spk (k + 1) - spk k))) := by
  have hsa := sp_bd k
  have hsb := sp_bd (k + 1)
  have bel : Below w.heap.size w w := Below.refl _ _
  refine E.enter (nt := 9) (L := [(0, .int .i64 k)]) Tryd.func73 rfl rfl rfl (args_cons (i := 0) rfl args_nil) ?_
  intro a hF
  refine wp_seq ?_
  refine E.seq ?_
  refine E.opv hF (r_assign ev_c) rfl rfl rfl rfl fun a hF => ?_
  refine E.nil ?_
  refine wp_seq ?_
  refine E.seq ?_
  refine E.opv hF (r_move (hF.at 1 rfl)) rfl rfl rfl rfl fun a hF => ?_
  refine E.opv hF (r_bin (hF.at 0 rfl) ev_c eg_scalar (ia_add (by omega) (by omega))) rfl rfl rfl rfl fun a hF => ?_
  refine E.call hF (r_call Tryd.func72 en72.1 en72.2 (map1 (hF.at 0 rfl))) (dsine_any (k + 1) _ (hT.below bel)) rfl rfl rfl rfl ?_
  rintro e w1 ⟨rfl, bb⟩
  refine ⟨_, rfl, ?_⟩
  intro a hF
  replace bel := below_to bel bb
  clear bb
  refine E.opv hF (r_move (hF.at 4 rfl)) rfl rfl rfl rfl fun a hF => ?_
  refine E.call hF (r_call Tryd.func72 en72.1 en72.2 (map1 (hF.at 0 rfl))) (dsine_any k _ (hT.below bel)) rfl rfl rfl rfl ?_
  rintro e w2 ⟨rfl, bb⟩
  refine ⟨_, rfl, ?_⟩
  intro a hF
  replace bel := below_to bel bb
  clear bb
  refine E.opv hF (r_bin (hF.at 2 rfl) (hF.at 0 rfl) eg_scalar (ia_sub (by omega) (by omega))) rfl rfl rfl rfl fun a hF => ?_
  refine E.opset (L' := [(2, .int .i64 ((spk (k + 1)) - (spk k))), (8, .int .i64 ((spk (k + 1)) - (spk k))), (7, .int .i64 (spk k)), (6, .int .i64 k), (5, .int .i64 (spk (k + 1))), (4, .int .i64 (k + 1)), (3, .int .i64 k), (0, .int .i64 k)]) hF (r_assign (hF.at 0 rfl)) rfl rfl rfl rfl fun a hF => ?_
  refine E.nil ?_
  refine wp_ret ?_
  refine bodyPost_ret (res_tmp Tryd.results73 (hF.at 0 rfl)) hF.dfr ?_
  exact ⟨rfl, bel⟩

set_option maxHeartbeats 1000000 in
theorem place_any (v1 : Value) (qx : Rat) (k : Nat) (w : World) (h1 : Rq w v1 qx) (hl : RLim qx k) (hk : k ≤ 900) :
    Calls Tryd.prog 71 #[v1] w (PlacePost w qx) := by
  have bel : Below w.heap.size w w := Below.refl _ _
  refine E.enter (nt := 20) (L := [(0, v1)]) Tryd.func71 rfl rfl rfl (args_cons (i := 0) rfl args_nil) ?_
  intro a hF
  refine wp_seq ?_
  refine E.seq ?_
  obtain ⟨b1, ad1, n1, c1, ae1, m1, d1, rfl, hn1, hd1⟩ := Rq.shape h1
  have hf2 := Wc.abs hn1
  obtain ⟨g1, w3, ge1, hr, bb, o1⟩ := own_box (P := Tryd.prog) (w := w) (cs := [.bool b1, .slice ad1 n1 c1, .slice ae1 m1 d1]) (v := .agg #[.bool b1, .slice ad1 n1 c1, .slice ae1 m1 d1]) 32 rfl (niB (niS (niS ni0)))
  replace ge1 : w.heap.size ≤ g1 := by rw [← ge1]; exact bel.size
  refine E.opv hF (r_box (hF.at 0 rfl) hr) rfl rfl rfl rfl fun a hF => ?_
  clear hr
  replace h1 := h1.below bb
  replace hn1 := hn1.below bb
  replace hf2 := hf2.below bb
  replace hd1 := hd1.below bb
  replace bel := below_to bel bb
  clear bb
  refine E.opv hF (r_assign ev_c) rfl rfl rfl rfl fun a hF => ?_
  obtain ⟨g3, w4, ge3, hr, bb, o3⟩ := own_alloc (P := Tryd.prog) (w := w3) (cs := [.bool false, .slice none 0 0, .slice none 0 0]) 32 ze_Rat rfl (niB (niS (niS ni0)))
  have ne1_3 : g1 ≠ g3 := by rw [← ge3]; exact o1.ne_new
  replace ge3 : w.heap.size ≤ g3 := by rw [← ge3]; exact bel.size
  refine E.opv hF (r_alloc hr) rfl rfl rfl rfl fun a hF => ?_
  clear hr
  replace hf2 := hf2.below bb
  replace hd1 := hd1.below bb
  replace h1 := h1.below bb
  replace hn1 := hn1.below bb
  replace o1 := o1.below bb
  replace bel := below_to bel bb
  clear bb
  refine E.nil ?_
  refine wp_seq ?_
  refine E.drawn 6 mixed hF [7, 8, 9, 10, 11, 4] [(fun _ v => v = .agg #[.bool b1, .slice ad1 n1 c1, .slice ae1 m1 d1]), (fun w v => Rq w v (wd)), (fun w v => Rq w v ((qx) / (wd))), (fun w v => Rq w v (((96 : Int) : Rat))), (fun w v => Rq w v (rmod ((qx) / (wd)) (((96 : Int) : Rat)))), (fun w v => ∃ g, v = .pointer (some ⟨g, 0, none⟩) ∧ w4.heap.size ≤ g ∧ Own w g [.bool false, .slice none 0 0, .slice none 0 0])] [5] (by decide +kernel) (by decide +kernel) rfl rfl rfl ⟨(Mb.eq _), (fun _ _ _ h hb => h.below hb), (fun _ _ _ h hb => h.below hb), (fun _ _ _ h hb => h.below hb), (fun _ _ _ h hb => h.below hb), (fun _ _ _ ⟨g, e, l, o⟩ hb => ⟨g, e, l, o.below hb⟩), trivial⟩ ⟨fun _ _ ⟨g, e, _, o⟩ => ⟨g, e, o.lt⟩, trivial⟩ ⟨?_, ?_, ?_, ?_, ?_, ?_, trivial⟩ ?_
  · intro a' w' hF' hb hd
    exact if_does (wanted_free rfl) (Does.vals (r_load (hF'.at 2 rfl) (ld_Rat (vs := [.bool b1, .slice ad1 n1 c1, .slice ae1 m1 d1]) (o1.below hb) rfl rfl)) ⟨rfl, Below.refl _ _, (fun h => absurd h (by decide))⟩)
  · intro a' w' hF' hb hd
    refine if_does (wanted_free rfl) (Does.calls (r_call Tryd.func77 en77.1 en77.2 map0) (width_any _) ?_)
    rintro e w'' ⟨v', rfl, h', bb⟩
    exact ⟨_, rfl, h', bb, (fun h => absurd h (by decide))⟩
  · intro a' w' hF' hb hd
    have e7 : a'.tmps.getD 7 undef = .agg #[.bool b1, .slice ad1 n1 c1, .slice ae1 m1 d1] := hd _ 7 (Array.mem_of_getElem? (i := 0) rfl) rfl rfl
    obtain ⟨v8_0, e8, h8_1⟩ : ∃ v, a'.tmps.getD 8 undef = v ∧ Rq w' v (wd) := ⟨_, rfl, hd _ 8 (Array.mem_of_getElem? (i := 1) rfl) rfl rfl⟩
    refine if_does (wanted_free rfl) (Does.calls (r_call Tryd.func55 en55.1 en55.2 (map2 e7 e8)) (rDiv_any _ _ (qx) (wd) (max k 2) _ (h1.below hb) h8_1 (hl.up _ (by omega)) (wd_lim.up _ (by omega)) (by omega)) ?_)
    rintro e w'' ⟨v', rfl, h', bb⟩
    exact ⟨_, rfl, h', bb, (fun h => absurd h (by decide))⟩
  · intro a' w' hF' hb hd
    refine if_does (wanted_free rfl) (Does.calls (r_call Tryd.func19 en19.1 en19.2 (map1 ev_c)) (rWhole_any (96) _ (by decide) (by decide)) ?_)
    rintro e w'' ⟨v', rfl, h', bb⟩
    exact ⟨_, rfl, h', bb, (fun h => absurd h (by decide))⟩
  · intro a' w' hF' hb hd
    obtain ⟨v9_0, e9, h9_1⟩ : ∃ v, a'.tmps.getD 9 undef = v ∧ Rq w' v ((qx) / (wd)) := ⟨_, rfl, hd _ 9 (Array.mem_of_getElem? (i := 0) rfl) rfl rfl⟩
    obtain ⟨v10_0, e10, h10_1⟩ : ∃ v, a'.tmps.getD 10 undef = v ∧ Rq w' v (((96 : Int) : Rat)) := ⟨_, rfl, hd _ 10 (Array.mem_of_getElem? (i := 1) rfl) rfl rfl⟩
    refine if_does (wanted_free rfl) (Does.calls (r_call Tryd.func16 en16.1 en16.2 (map2 e9 e10)) (cMod_any _ _ ((qx) / (wd)) (((96 : Int) : Rat)) (k + 2) 2 _ h9_1 h10_1 (rlim_div hl wd_lim) (rlim_int (limz_64 (by decide) (by decide)) (by omega)) (by omega) (by omega)) ?_)
    rintro e w'' ⟨v', rfl, h', bb⟩
    exact ⟨_, rfl, h', bb, (fun h => absurd h (by decide))⟩
  · intro a' w' hF' hb hd
    obtain ⟨g, w2, ge, hr, bb, on⟩ := own_alloc (P := Tryd.prog) (w := w') (cs := [.bool false, .slice none 0 0, .slice none 0 0]) 32 ze_Rat rfl (niB (niS (niS ni0)))
    subst ge
    exact if_does (wanted_free rfl) (Does.vals (r_alloc hr) ⟨⟨_, rfl, hb.size, on⟩, bb, fun _ => rfl⟩)
  intro a w5 hF bb hall hne
  obtain ⟨vv6, e11, hh7⟩ : ∃ v, a.tmps.getD 11 undef = v ∧ Rq w5 v (rmod ((qx) / (wd)) (((96 : Int) : Rat))) := ⟨_, rfl, hall 4 11 rfl⟩
  obtain ⟨g4, e4, ge4, o4⟩ : ∃ g, a.tmps.getD 4 undef = .pointer (some ⟨g, 0, none⟩) ∧ w4.heap.size ≤ g ∧ Own w5 g [.bool false, .slice none 0 0, .slice none 0 0] := hall 5 4 rfl
  have ne3_4 : g3 ≠ g4 := Nat.ne_of_lt (Nat.lt_of_lt_of_le o3.lt ge4)
  replace ge4 : w.heap.size ≤ g4 := Nat.le_trans bel.size ge4
  clear hall hne
  replace o3 := o3.below bb
  replace bel := below_to bel bb
  clear bb
  obtain ⟨b8, ad8, n8, c8, ae8, m8, d8, rfl, hn8, hd8⟩ := Rq.shape hh7
  have hf9 := Wc.abs hn8
  replace hF := hF.add e11
  clear e11
  replace hF := hF.add e4
  clear e4
  obtain ⟨w10, hr, tu, on⟩ := st_Rat (vs := [.bool b8, .slice ad8 n8 c8, .slice ae8 m8 d8]) o4 rfl rfl (ocB (ocS (ocS oc0))) (niB (niS (niS ni0))) (o := 0) rfl
  have kp := tu.keep o4
  refine E.st hF (r_store (hF.at 0 rfl) (hF.at 1 rfl) (hr _ rfl)) rfl rfl fun a hF => ?_
  clear hr
  replace hh7 := hh7.keep kp
  replace hn8 := hn8.keep kp
  replace hf9 := hf9.keep kp
  replace hd8 := hd8.keep kp
  replace o3 := tu.own o3 ne3_4
  replace bel := tu.below bel ge4
  clear tu kp
  replace o4 := on
  clear on
  refine E.nil ?_
  refine wp_seq ?_
  refine E.seq ?_
  refine E.opv hF (r_load (hF.at 0 rfl) (ld_Rat (vs := [.bool b8, .slice ad8 n8 c8, .slice ae8 m8 d8]) o4 rfl rfl)) rfl rfl rfl rfl fun a hF => ?_
  refine E.call hF (r_call Tryd.func93 en93.1 en93.2 (map1 (hF.at 0 rfl))) (cDays_any _ (rmod ((qx) / (wd)) (((96 : Int) : Rat))) ((k + 2) + (k + 2) + 2 + 2 + 3) _ hh7 (rmod_lim (rlim_div hl wd_lim) (rlim_int (limz_64 (by decide) (by decide)) (by omega))) (by omega)) rfl rfl rfl rfl ?_
  rintro e w11 ⟨rfl, bb⟩
  refine ⟨_, rfl, ?_⟩
  intro a hF
  replace hf9 := hf9.below bb
  replace hd8 := hd8.below bb
  replace hh7 := hh7.below bb
  replace hn8 := hn8.below bb
  replace o3 := o3.below bb
  replace o4 := o4.below bb
  replace bel := below_to bel bb
  clear bb
  refine E.opv hF (r_move (hF.at 0 rfl)) rfl rfl rfl rfl fun a hF => ?_
  refine E.opv hF (r_extract (v := .int .i64 (sm64 (Rat.floor (rmod ((qx) / (wd)) (((96 : Int) : Rat)))))) (hF.at 0 rfl) rfl) rfl rfl rfl rfl fun a hF => ?_
  refine E.opv hF (r_extract (v := .bool (fit64 (Rat.floor (rmod ((qx) / (wd)) (((96 : Int) : Rat)))))) (hF.at 1 rfl) rfl) rfl rfl rfl rfl fun a hF => ?_
  refine E.opv hF (r_assign (hF.at 1 rfl)) rfl rfl rfl rfl fun a hF => ?_
  refine E.opv hF (r_assign (hF.at 1 rfl)) rfl rfl rfl rfl fun a hF => ?_
  refine E.nil ?_
  refine wp_seq ?_
  refine E.seq ?_
  refine E.opv hF (r_move (hF.at 1 rfl)) rfl rfl rfl rfl fun a hF => ?_
  refine E.opv hF (r_load (hF.at 8 rfl) (ld_Rat (vs := [.bool b8, .slice ad8 n8 c8, .slice ae8 m8 d8]) o4 rfl rfl)) rfl rfl rfl rfl fun a hF => ?_
  refine E.call hF (r_call Tryd.func74 en74.1 en74.2 (map1 (hF.at 0 rfl))) (cFrac_any _ (rmod ((qx) / (wd)) (((96 : Int) : Rat))) ((k + 2) + (k + 2) + 2 + 2 + 3) _ hh7 (rmod_lim (rlim_div hl wd_lim) (rlim_int (limz_64 (by decide) (by decide)) (by omega))) (by omega)) rfl rfl rfl rfl ?_
  rintro e w12 ⟨vv13, rfl, hh14, bb⟩
  refine ⟨_, rfl, ?_⟩
  intro a hF
  replace o3 := o3.below bb
  replace bel := below_to bel bb
  clear bb
  obtain ⟨b15, ad15, n15, c15, ae15, m15, d15, rfl, hn15, hd15⟩ := Rq.shape hh14
  have hf16 := Wc.abs hn15
  refine E.opset (L' := [(2, .int .i64 (sm64 (Rat.floor (rmod ((qx) / (wd)) (((96 : Int) : Rat)))))), (19, .agg #[.bool b15, .slice ad15 n15 c15, .slice ae15 m15 d15]), (18, .agg #[.bool b8, .slice ad8 n8 c8, .slice ae8 m8 d8]), (17, .int .i64 (sm64 (Rat.floor (rmod ((qx) / (wd)) (((96 : Int) : Rat)))))), (6, .bool (fit64 (Rat.floor (rmod ((qx) / (wd)) (((96 : Int) : Rat)))))), (5, .int .i64 (sm64 (Rat.floor (rmod ((qx) / (wd)) (((96 : Int) : Rat)))))), (16, .bool (fit64 (Rat.floor (rmod ((qx) / (wd)) (((96 : Int) : Rat)))))), (15, .int .i64 (sm64 (Rat.floor (rmod ((qx) / (wd)) (((96 : Int) : Rat)))))), (12, .tuple #[.int .i64 (sm64 (Rat.floor (rmod ((qx) / (wd)) (((96 : Int) : Rat))))), .bool (fit64 (Rat.floor (rmod ((qx) / (wd)) (((96 : Int) : Rat)))))]), (14, .tuple #[.int .i64 (sm64 (Rat.floor (rmod ((qx) / (wd)) (((96 : Int) : Rat))))), .bool (fit64 (Rat.floor (rmod ((qx) / (wd)) (((96 : Int) : Rat)))))]), (13, .agg #[.bool b8, .slice ad8 n8 c8, .slice ae8 m8 d8]), (4, .pointer (some ⟨g4, 0, none⟩)), (11, .agg #[.bool b8, .slice ad8 n8 c8, .slice ae8 m8 d8]), (3, .pointer (some ⟨g3, 0, none⟩)), (1, .pointer (some ⟨g1, 0, none⟩)), (0, .agg #[.bool b1, .slice ad1 n1 c1, .slice ae1 m1 d1])]) hF (r_assign (hF.at 2 rfl)) rfl rfl rfl rfl fun a hF => ?_
  obtain ⟨w17, hr, tu, on⟩ := st_Rat (vs := [.bool b15, .slice ad15 n15 c15, .slice ae15 m15 d15]) o3 rfl rfl (ocB (ocS (ocS oc0))) (niB (niS (niS ni0))) (o := 0) rfl
  have kp := tu.keep o3
  refine E.st hF (r_store (hF.at 13 rfl) (hF.at 1 rfl) (hr _ rfl)) rfl rfl fun a hF => ?_
  clear hr
  replace hh14 := hh14.keep kp
  replace hn15 := hn15.keep kp
  replace hf16 := hf16.keep kp
  replace hd15 := hd15.keep kp
  replace bel := tu.below bel ge3
  clear tu kp
  replace o3 := on
  clear on
  refine E.nil ?_
  refine wp_ret ?_
  refine bodyPost_ret (res_tmpcell Tryd.results71 (hF.at 0 rfl) (hF.at 13 rfl) (ld_Rat (vs := [.bool b15, .slice ad15 n15 c15, .slice ae15 m15 d15]) o3 rfl rfl)) hF.dfr ?_
  exact ⟨_, rv_iv (pk_sm qx), hh14, bel⟩

set_option maxHeartbeats 4000000 in
theorem sof_any (v1 : Value) (qx : Rat) (k : Nat) (w : World) (hT : TabD w) (h1 : Rq w v1 qx) (hl : RLim qx k) (hk : k ≤ 800) :
    Calls Tryd.prog 41 #[v1] w (RqPost w (sof qx)) := by
  have bel : Below w.heap.size w w := Below.refl _ _
  refine E.enter (nt := 23) (L := [(0, v1)]) Tryd.func41 rfl rfl rfl (args_cons (i := 0) rfl args_nil) ?_
  intro a hF
  refine wp_seq ?_
  refine E.seq ?_
  obtain ⟨b1, ad1, n1, c1, ae1, m1, d1, rfl, hn1, hd1⟩ := Rq.shape h1
  have hf2 := Wc.abs hn1
  obtain ⟨g1, w3, ge1, hr, bb, o1⟩ := own_box (P := Tryd.prog) (w := w) (cs := [.bool b1, .slice ad1 n1 c1, .slice ae1 m1 d1]) (v := .agg #[.bool b1, .slice ad1 n1 c1, .slice ae1 m1 d1]) 32 rfl (niB (niS (niS ni0)))
  replace ge1 : w.heap.size ≤ g1 := by rw [← ge1]; exact bel.size
  refine E.opv hF (r_box (hF.at 0 rfl) hr) rfl rfl rfl rfl fun a hF => ?_
  clear hr
  replace h1 := h1.below bb
  replace hn1 := hn1.below bb
  replace hf2 := hf2.below bb
  replace hd1 := hd1.below bb
  replace bel := below_to bel bb
  clear bb
  obtain ⟨g2, w4, ge2, hr, bb, o2⟩ := own_alloc (P := Tryd.prog) (w := w3) (cs := [.bool false, .slice none 0 0, .slice none 0 0]) 32 ze_Rat rfl (niB (niS (niS ni0)))
  have ne1_2 : g1 ≠ g2 := by rw [← ge2]; exact o1.ne_new
  replace ge2 : w.heap.size ≤ g2 := by rw [← ge2]; exact bel.size
  refine E.opv hF (r_alloc hr) rfl rfl rfl rfl fun a hF => ?_
  clear hr
  replace hf2 := hf2.below bb
  replace hd1 := hd1.below bb
  replace h1 := h1.below bb
  replace hn1 := hn1.below bb
  replace o1 := o1.below bb
  replace bel := below_to bel bb
  clear bb
  refine E.nil ?_
  refine wp_seq ?_
  refine E.seq ?_
  refine E.opv hF (r_load (hF.at 1 rfl) (ld_Rat (vs := [.bool b1, .slice ad1 n1 c1, .slice ae1 m1 d1]) o1 rfl rfl)) rfl rfl rfl rfl fun a hF => ?_
  refine E.call hF (r_call Tryd.func71 en71.1 en71.2 (map1 (hF.at 0 rfl))) (place_any _ (qx) k _ h1 hl (by omega)) rfl rfl rfl rfl ?_
  rintro e w5 ⟨vv6, rfl, hh7, bb⟩
  refine ⟨_, rfl, ?_⟩
  intro a hF
  have hpk := pk_bd (qx)
  replace o2 := o2.below bb
  replace bel := below_to bel bb
  clear bb
  obtain ⟨b8, ad8, n8, c8, ae8, m8, d8, rfl, hn8, hd8⟩ := Rq.shape hh7
  have hf9 := Wc.abs hn8
  refine E.opv hF (r_move (hF.at 0 rfl)) rfl rfl rfl rfl fun a hF => ?_
  refine E.opv hF (r_extract (v := .int .i64 (pk (qx))) (hF.at 0 rfl) rfl) rfl rfl rfl rfl fun a hF => ?_
  refine E.opv hF (r_extract (v := .agg #[.bool b8, .slice ad8 n8 c8, .slice ae8 m8 d8]) (hF.at 1 rfl) rfl) rfl rfl rfl rfl fun a hF => ?_
  obtain ⟨g4, w10, ge4, hr, bb, o4⟩ := own_alloc (P := Tryd.prog) (w := w5) (cs := [.bool false, .slice none 0 0, .slice none 0 0]) 32 ze_Rat rfl (niB (niS (niS ni0)))
  have ne2_4 : g2 ≠ g4 := by rw [← ge4]; exact o2.ne_new
  replace ge4 : w.heap.size ≤ g4 := by rw [← ge4]; exact bel.size
  refine E.opv hF (r_alloc hr) rfl rfl rfl rfl fun a hF => ?_
  clear hr
  replace hh7 := hh7.below bb
  replace hn8 := hn8.below bb
  replace hf9 := hf9.below bb
  replace hd8 := hd8.below bb
  replace o2 := o2.below bb
  replace bel := below_to bel bb
  clear bb
  refine E.opv hF (r_assign (hF.at 2 rfl)) rfl rfl rfl rfl fun a hF => ?_
  obtain ⟨w11, hr, tu, on⟩ := st_Rat (vs := [.bool b8, .slice ad8 n8 c8, .slice ae8 m8 d8]) o4 rfl rfl (ocB (ocS (ocS oc0))) (niB (niS (niS ni0))) (o := 0) rfl
  have kp := tu.keep o4
  refine E.st hF (r_store (hF.at 1 rfl) (hF.at 2 rfl) (hr _ rfl)) rfl rfl fun a hF => ?_
  clear hr
  replace hh7 := hh7.keep kp
  replace hn8 := hn8.keep kp
  replace hf9 := hf9.keep kp
  replace hd8 := hd8.keep kp
  replace o2 := tu.own o2 ne2_4
  replace bel := tu.below bel ge4
  clear tu kp
  replace o4 := on
  clear on
  refine E.nil ?_
  refine wp_seq ?_
  refine E.drawn 10 mixed hF [11, 12, 13, 14, 15, 16, 17, 18, 19, 5] [(fun _ v => v = .int .i64 (pk (qx))), (fun _ v => v = .int .i64 (spk (pk (qx)))), (fun w v => Rq w v (((spk (pk (qx)) : Int) : Rat))), (fun _ v => v = .agg #[.bool b8, .slice ad8 n8 c8, .slice ae8 m8 d8]), (fun _ v => v = .int .i64 (pk (qx))), (fun _ v => v = .int .i64 (spk (pk (qx) + 1) - spk (pk (qx)))), (fun w v => Rq w v (((spk (pk (qx) + 1) - spk (pk (qx)) : Int) : Rat))), (fun w v => Rq w v ((pfr (qx)) * (((spk (pk (qx) + 1) - spk (pk (qx)) : Int) : Rat)))), (fun w v => Rq w v ((((spk (pk (qx)) : Int) : Rat)) + ((pfr (qx)) * (((spk (pk (qx) + 1) - spk (pk (qx)) : Int) : Rat))))), (fun w v => ∃ g, v = .pointer (some ⟨g, 0, none⟩) ∧ w11.heap.size ≤ g ∧ Own w g [.bool false, .slice none 0 0, .slice none 0 0])] [9] (by decide +kernel) (by decide +kernel) rfl rfl rfl ⟨(Mb.eq _), (Mb.eq _), (fun _ _ _ h hb => h.below hb), (Mb.eq _), (Mb.eq _), (Mb.eq _), (fun _ _ _ h hb => h.below hb), (fun _ _ _ h hb => h.below hb), (fun _ _ _ h hb => h.below hb), (fun _ _ _ ⟨g, e, l, o⟩ hb => ⟨g, e, l, o.below hb⟩), trivial⟩ ⟨fun _ _ ⟨g, e, _, o⟩ => ⟨g, e, o.lt⟩, trivial⟩ ⟨?_, ?_, ?_, ?_, ?_, ?_, ?_, ?_, ?_, ?_, trivial⟩ ?_
  · intro a' w' hF' hb hd
    exact if_does (wanted_free rfl) (Does.vals (r_move (hF'.at 0 rfl)) ⟨rfl, Below.refl _ _, (fun h => absurd h (by decide))⟩)
  · intro a' w' hF' hb hd
    have e11 : a'.tmps.getD 11 undef = .int .i64 (pk (qx)) := hd _ 11 (Array.mem_of_getElem? (i := 0) rfl) rfl rfl
    refine if_does (wanted_free rfl) (Does.calls (r_call Tryd.func72 en72.1 en72.2 (map1 e11)) (dsine_any (pk (qx)) _ (hT.below (below_to bel hb))) ?_)
    rintro e w'' ⟨rfl, bb⟩
    exact ⟨_, rfl, rfl, bb, (fun h => absurd h (by decide))⟩
  · intro a' w' hF' hb hd
    have e12 : a'.tmps.getD 12 undef = .int .i64 (spk (pk (qx))) := hd _ 12 (Array.mem_of_getElem? (i := 0) rfl) rfl rfl
    refine if_does (wanted_free rfl) (Does.calls (r_call Tryd.func19 en19.1 en19.2 (map1 e12)) (rWhole_any (spk (pk (qx))) _ (spk64 (pk (qx))).1 (spk64 (pk (qx))).2) ?_)
    rintro e w'' ⟨v', rfl, h', bb⟩
    exact ⟨_, rfl, h', bb, (fun h => absurd h (by decide))⟩
  · intro a' w' hF' hb hd
    exact if_does (wanted_free rfl) (Does.vals (r_load (hF'.at 1 rfl) (ld_Rat (vs := [.bool b8, .slice ad8 n8 c8, .slice ae8 m8 d8]) (o4.below hb) rfl rfl)) ⟨rfl, Below.refl _ _, (fun h => absurd h (by decide))⟩)
  · intro a' w' hF' hb hd
    exact if_does (wanted_free rfl) (Does.vals (r_move (hF'.at 0 rfl)) ⟨rfl, Below.refl _ _, (fun h => absurd h (by decide))⟩)
  · intro a' w' hF' hb hd
    have e15 : a'.tmps.getD 15 undef = .int .i64 (pk (qx)) := hd _ 15 (Array.mem_of_getElem? (i := 0) rfl) rfl rfl
    refine if_does (wanted_free rfl) (Does.calls (r_call Tryd.func73 en73.1 en73.2 (map1 e15)) (rise_any (pk (qx)) _ (hT.below (below_to bel hb)) (by omega) (by omega)) ?_)
    rintro e w'' ⟨rfl, bb⟩
    exact ⟨_, rfl, rfl, bb, (fun h => absurd h (by decide))⟩
  · intro a' w' hF' hb hd
    have e16 : a'.tmps.getD 16 undef = .int .i64 (spk (pk (qx) + 1) - spk (pk (qx))) := hd _ 16 (Array.mem_of_getElem? (i := 0) rfl) rfl rfl
    refine if_does (wanted_free rfl) (Does.calls (r_call Tryd.func19 en19.1 en19.2 (map1 e16)) (rWhole_any (spk (pk (qx) + 1) - spk (pk (qx))) _ (dif64 (pk (qx))).1 (dif64 (pk (qx))).2) ?_)
    rintro e w'' ⟨v', rfl, h', bb⟩
    exact ⟨_, rfl, h', bb, (fun h => absurd h (by decide))⟩
  · intro a' w' hF' hb hd
    have e14 : a'.tmps.getD 14 undef = .agg #[.bool b8, .slice ad8 n8 c8, .slice ae8 m8 d8] := hd _ 14 (Array.mem_of_getElem? (i := 0) rfl) rfl rfl
    obtain ⟨v17_0, e17, h17_1⟩ : ∃ v, a'.tmps.getD 17 undef = v ∧ Rq w' v (((spk (pk (qx) + 1) - spk (pk (qx)) : Int) : Rat)) := ⟨_, rfl, hd _ 17 (Array.mem_of_getElem? (i := 1) rfl) rfl rfl⟩
    refine if_does (wanted_free rfl) (Does.calls (r_call Tryd.func33 en33.1 en33.2 (map2 e14 e17)) (rMul_any _ _ (pfr (qx)) (((spk (pk (qx) + 1) - spk (pk (qx)) : Int) : Rat)) (max (4 * k + 50) 2) _ (hh7.below hb) h17_1 ((pfr_lim hl).up _ (by omega)) ((rlim_int (limz_64 (dif64 (pk (qx))).1 (dif64 (pk (qx))).2) (by omega)).up _ (by omega)) (by omega)) ?_)
    rintro e w'' ⟨v', rfl, h', bb⟩
    exact ⟨_, rfl, h', bb, (fun h => absurd h (by decide))⟩
  · intro a' w' hF' hb hd
    obtain ⟨v13_0, e13, h13_1⟩ : ∃ v, a'.tmps.getD 13 undef = v ∧ Rq w' v (((spk (pk (qx)) : Int) : Rat)) := ⟨_, rfl, hd _ 13 (Array.mem_of_getElem? (i := 0) rfl) rfl rfl⟩
    obtain ⟨v18_0, e18, h18_1⟩ : ∃ v, a'.tmps.getD 18 undef = v ∧ Rq w' v ((pfr (qx)) * (((spk (pk (qx) + 1) - spk (pk (qx)) : Int) : Rat))) := ⟨_, rfl, hd _ 18 (Array.mem_of_getElem? (i := 1) rfl) rfl rfl⟩
    refine if_does (wanted_free rfl) (Does.calls (r_call Tryd.func18 en18.1 en18.2 (map2 e13 e18)) (rAdd_any _ _ (((spk (pk (qx)) : Int) : Rat)) ((pfr (qx)) * (((spk (pk (qx) + 1) - spk (pk (qx)) : Int) : Rat))) (max 2 ((4 * k + 50) + 2)) _ h13_1 h18_1 ((rlim_int (limz_64 (spk64 (pk (qx))).1 (spk64 (pk (qx))).2) (by omega)).up _ (by omega)) ((rlim_mul (pfr_lim hl) (rlim_int (limz_64 (dif64 (pk (qx))).1 (dif64 (pk (qx))).2) (by omega))).up _ (by omega)) (by omega)) ?_)
    rintro e w'' ⟨v', rfl, h', bb⟩
    exact ⟨_, rfl, h', bb, (fun h => absurd h (by decide))⟩
  · intro a' w' hF' hb hd
    obtain ⟨g, w2, ge, hr, bb, on⟩ := own_alloc (P := Tryd.prog) (w := w') (cs := [.bool false, .slice none 0 0, .slice none 0 0]) 32 ze_Rat rfl (niB (niS (niS ni0)))
    subst ge
    exact if_does (wanted_free rfl) (Does.vals (r_alloc hr) ⟨⟨_, rfl, hb.size, on⟩, bb, fun _ => rfl⟩)
  intro a w12 hF bb hall hne
  obtain ⟨vv13, e19, hh14⟩ : ∃ v, a.tmps.getD 19 undef = v ∧ Rq w12 v ((((spk (pk (qx)) : Int) : Rat)) + ((pfr (qx)) * (((spk (pk (qx) + 1) - spk (pk (qx)) : Int) : Rat)))) := ⟨_, rfl, hall 8 19 rfl⟩
  obtain ⟨g5, e5, ge5, o5⟩ : ∃ g, a.tmps.getD 5 undef = .pointer (some ⟨g, 0, none⟩) ∧ w11.heap.size ≤ g ∧ Own w12 g [.bool false, .slice none 0 0, .slice none 0 0] := hall 9 5 rfl
  have ne2_5 : g2 ≠ g5 := Nat.ne_of_lt (Nat.lt_of_lt_of_le o2.lt ge5)
  replace ge5 : w.heap.size ≤ g5 := Nat.le_trans bel.size ge5
  clear hall hne
  replace o2 := o2.below bb
  replace bel := below_to bel bb
  clear bb
  obtain ⟨b15, ad15, n15, c15, ae15, m15, d15, rfl, hn15, hd15⟩ := Rq.shape hh14
  have hf16 := Wc.abs hn15
  replace hF := hF.add e19
  clear e19
  replace hF := hF.add e5
  clear e5
  obtain ⟨w17, hr, tu, on⟩ := st_Rat (vs := [.bool b15, .slice ad15 n15 c15, .slice ae15 m15 d15]) o5 rfl rfl (ocB (ocS (ocS oc0))) (niB (niS (niS ni0))) (o := 0) rfl
  have kp := tu.keep o5
  refine E.st hF (r_store (hF.at 0 rfl) (hF.at 1 rfl) (hr _ rfl)) rfl rfl fun a hF => ?_
  clear hr
  replace hh14 := hh14.keep kp
  replace hn15 := hn15.keep kp
  replace hf16 := hf16.keep kp
  replace hd15 := hd15.keep kp
  replace o2 := tu.own o2 ne2_5
  replace bel := tu.below bel ge5
  clear tu kp
  replace o5 := on
  clear on
  refine E.nil ?_
  refine wp_seq ?_
  refine E.drawn 3 mixed hF [20, 21, 22] [(fun _ v => v = .agg #[.bool b15, .slice ad15 n15 c15, .slice ae15 m15 d15]), (fun w v => Rq w v (((3438 : Int) : Rat))), (fun w v => Rq w v (((((spk (pk (qx)) : Int) : Rat)) + ((pfr (qx)) * (((spk (pk (qx) + 1) - spk (pk (qx)) : Int) : Rat)))) / (((3438 : Int) : Rat))))] [] (by decide +kernel) (by decide +kernel) rfl rfl rfl ⟨(Mb.eq _), (fun _ _ _ h hb => h.below hb), (fun _ _ _ h hb => h.below hb), trivial⟩ trivial ⟨?_, ?_, ?_, trivial⟩ ?_
  · intro a' w' hF' hb hd
    exact if_does (wanted_free rfl) (Does.vals (r_load (hF'.at 0 rfl) (ld_Rat (vs := [.bool b15, .slice ad15 n15 c15, .slice ae15 m15 d15]) (o5.below hb) rfl rfl)) ⟨rfl, Below.refl _ _, (fun h => absurd h (by decide))⟩)
  · intro a' w' hF' hb hd
    refine if_does (wanted_free rfl) (Does.calls (r_call Tryd.func19 en19.1 en19.2 (map1 ev_c)) (rWhole_any (3438) _ (by decide) (by decide)) ?_)
    rintro e w'' ⟨v', rfl, h', bb⟩
    exact ⟨_, rfl, h', bb, (fun h => absurd h (by decide))⟩
  · intro a' w' hF' hb hd
    have e20 : a'.tmps.getD 20 undef = .agg #[.bool b15, .slice ad15 n15 c15, .slice ae15 m15 d15] := hd _ 20 (Array.mem_of_getElem? (i := 0) rfl) rfl rfl
    obtain ⟨v21_0, e21, h21_1⟩ : ∃ v, a'.tmps.getD 21 undef = v ∧ Rq w' v (((3438 : Int) : Rat)) := ⟨_, rfl, hd _ 21 (Array.mem_of_getElem? (i := 1) rfl) rfl rfl⟩
    refine if_does (wanted_free rfl) (Does.calls (r_call Tryd.func55 en55.1 en55.2 (map2 e20 e21)) (rDiv_any _ _ ((((spk (pk (qx)) : Int) : Rat)) + ((pfr (qx)) * (((spk (pk (qx) + 1) - spk (pk (qx)) : Int) : Rat)))) (((3438 : Int) : Rat)) (max (2 + ((4 * k + 50) + 2) + 1) 2) _ (hh14.below hb) h21_1 ((rlim_add (rlim_int (limz_64 (spk64 (pk (qx))).1 (spk64 (pk (qx))).2) (by omega)) (rlim_mul (pfr_lim hl) (rlim_int (limz_64 (dif64 (pk (qx))).1 (dif64 (pk (qx))).2) (by omega)))).up _ (by omega)) ((rlim_int (limz_64 (by decide) (by decide)) (by omega)).up _ (by omega)) (by omega)) ?_)
    rintro e w'' ⟨v', rfl, h', bb⟩
    exact ⟨_, rfl, h', bb, (fun h => absurd h (by decide))⟩
  intro a w18 hF bb hall hne
  obtain ⟨vv19, e22, hh20⟩ : ∃ v, a.tmps.getD 22 undef = v ∧ Rq w18 v (((((spk (pk (qx)) : Int) : Rat)) + ((pfr (qx)) * (((spk (pk (qx) + 1) - spk (pk (qx)) : Int) : Rat)))) / (((3438 : Int) : Rat))) := ⟨_, rfl, hall 2 22 rfl⟩
  clear hall hne
  replace o2 := o2.below bb
  replace bel := below_to bel bb
  clear bb
  obtain ⟨b21, ad21, n21, c21, ae21, m21, d21, rfl, hn21, hd21⟩ := Rq.shape hh20
  have hf22 := Wc.abs hn21
  replace hF := hF.add e22
  clear e22
  obtain ⟨w23, hr, tu, on⟩ := st_Rat (vs := [.bool b21, .slice ad21 n21 c21, .slice ae21 m21 d21]) o2 rfl rfl (ocB (ocS (ocS oc0))) (niB (niS (niS ni0))) (o := 0) rfl
  have kp := tu.keep o2
  refine E.st hF (r_store (hF.at 10 rfl) (hF.at 0 rfl) (hr _ rfl)) rfl rfl fun a hF => ?_
  clear hr
  replace hh20 := hh20.keep kp
  replace hn21 := hn21.keep kp
  replace hf22 := hf22.keep kp
  replace hd21 := hd21.keep kp
  replace bel := tu.below bel ge2
  clear tu kp
  replace o2 := on
  clear on
  refine E.nil ?_
  refine wp_ret ?_
  refine bodyPost_ret (res_cell Tryd.results41 (hF.at 10 rfl) (ld_Rat (vs := [.bool b21, .slice ad21 n21 c21, .slice ae21 m21 d21]) o2 rfl rfl)) hF.dfr ?_
  exact ⟨_, rfl, Rq.castM hh20 (sof_pk qx), bel⟩

set_option maxHeartbeats 8000000 in
theorem arc_pos (v1 : Value) (qx : Rat) (k : Nat) (w : World) (hT : TabD w) (h1 : Rq w v1 qx) (hl : RLim qx k) (hk : k ≤ 1000) (hn : ¬ sz (Rat.num qx) < 0) :
    Calls Tryd.prog 43 #[v1] w (RqPost w (arcv qx)) := by
  have hx : ¬ qx < 0 := fun e => hn (sz_lt0.2 e)
  have bel : Below w.heap.size w w := Below.refl _ _
  refine E.enter (nt := 45) (L := [(0, v1)]) Tryd.func43 rfl rfl rfl (args_cons (i := 0) rfl args_nil) ?_
  intro a hF
  refine wp_seq ?_
  refine E.seq ?_
  obtain ⟨b1, ad1, n1, c1, ae1, m1, d1, rfl, hn1, hd1⟩ := Rq.shape h1
  have hf2 := Wc.abs hn1
  obtain ⟨g1, w3, ge1, hr, bb, o1⟩ := own_box (P := Tryd.prog) (w := w) (cs := [.bool b1, .slice ad1 n1 c1, .slice ae1 m1 d1]) (v := .agg #[.bool b1, .slice ad1 n1 c1, .slice ae1 m1 d1]) 32 rfl (niB (niS (niS ni0)))
  replace ge1 : w.heap.size ≤ g1 := by rw [← ge1]; exact bel.size
  refine E.opv hF (r_box (hF.at 0 rfl) hr) rfl rfl rfl rfl fun a hF => ?_
  clear hr
  replace h1 := h1.below bb
  replace hn1 := hn1.below bb
  replace hf2 := hf2.below bb
  replace hd1 := hd1.below bb
  replace bel := below_to bel bb
  clear bb
  obtain ⟨g2, w4, ge2, hr, bb, o2⟩ := own_alloc (P := Tryd.prog) (w := w3) (cs := [.bool false, .slice none 0 0, .slice none 0 0]) 32 ze_Rat rfl (niB (niS (niS ni0)))
  have ne1_2 : g1 ≠ g2 := by rw [← ge2]; exact o1.ne_new
  replace ge2 : w.heap.size ≤ g2 := by rw [← ge2]; exact bel.size
  refine E.opv hF (r_alloc hr) rfl rfl rfl rfl fun a hF => ?_
  clear hr
  replace hf2 := hf2.below bb
  replace hd1 := hd1.below bb
  replace h1 := h1.below bb
  replace hn1 := hn1.below bb
  replace o1 := o1.below bb
  replace bel := below_to bel bb
  clear bb
  refine E.nil ?_
  refine wp_seq ?_
  refine wp_seq ?_
  refine E.seq ?_
  refine E.opv hF (r_load (hF.at 1 rfl) (ld_Rat (vs := [.bool b1, .slice ad1 n1 c1, .slice ae1 m1 d1]) o1 rfl rfl)) rfl rfl rfl rfl fun a hF => ?_
  refine E.call hF (r_call Tryd.func36 en36.1 en36.2 (map1 (hF.at 0 rfl))) (rsgn_any _ (qx) _ h1) rfl rfl rfl rfl ?_
  rintro e w5 ⟨rfl, bb⟩
  refine ⟨_, rfl, ?_⟩
  intro a hF
  replace hf2 := hf2.below bb
  replace hd1 := hd1.below bb
  replace h1 := h1.below bb
  replace hn1 := hn1.below bb
  replace o1 := o1.below bb
  replace o2 := o2.below bb
  replace bel := below_to bel bb
  clear bb
  refine E.opv hF (r_bin (hF.at 0 rfl) ev_c eg_scalar (bi_int (ic_lss (c := false) (dec_ff hn)) (by simp))) rfl rfl rfl rfl fun a hF => ?_
  refine E.nil ?_
  refine wp_cond_false (hF.at 0 rfl) ?_
  refine wp_skip ?_
  refine E.norm ?_
  refine wp_seq ?_
  refine E.drawn 4 mixed hF [14, 15, 16, 3] [(fun _ v => v = .agg #[.bool b1, .slice ad1 n1 c1, .slice ae1 m1 d1]), (fun w v => Rq w v (((3438 : Int) : Rat))), (fun w v => Rq w v ((qx) * (((3438 : Int) : Rat)))), (fun w v => ∃ g, v = .pointer (some ⟨g, 0, none⟩) ∧ w5.heap.size ≤ g ∧ Own w g [.bool false, .slice none 0 0, .slice none 0 0])] [3] (by decide +kernel) (by decide +kernel) rfl rfl rfl ⟨(Mb.eq _), (fun _ _ _ h hb => h.below hb), (fun _ _ _ h hb => h.below hb), (fun _ _ _ ⟨g, e, l, o⟩ hb => ⟨g, e, l, o.below hb⟩), trivial⟩ ⟨fun _ _ ⟨g, e, _, o⟩ => ⟨g, e, o.lt⟩, trivial⟩ ⟨?_, ?_, ?_, ?_, trivial⟩ ?_
  · intro a' w' hF' hb hd
    exact if_does (wanted_free rfl) (Does.vals (r_load (hF'.at 4 rfl) (ld_Rat (vs := [.bool b1, .slice ad1 n1 c1, .slice ae1 m1 d1]) (o1.below hb) rfl rfl)) ⟨rfl, Below.refl _ _, (fun h => absurd h (by decide))⟩)
  · intro a' w' hF' hb hd
    refine if_does (wanted_free rfl) (Does.calls (r_call Tryd.func19 en19.1 en19.2 (map1 ev_c)) (rWhole_any (3438) _ (by decide) (by decide)) ?_)
    rintro e w'' ⟨v', rfl, h', bb⟩
    exact ⟨_, rfl, h', bb, (fun h => absurd h (by decide))⟩
  · intro a' w' hF' hb hd
    have e14 : a'.tmps.getD 14 undef = .agg #[.bool b1, .slice ad1 n1 c1, .slice ae1 m1 d1] := hd _ 14 (Array.mem_of_getElem? (i := 0) rfl) rfl rfl
    obtain ⟨v15_0, e15, h15_1⟩ : ∃ v, a'.tmps.getD 15 undef = v ∧ Rq w' v (((3438 : Int) : Rat)) := ⟨_, rfl, hd _ 15 (Array.mem_of_getElem? (i := 1) rfl) rfl rfl⟩
    refine if_does (wanted_free rfl) (Does.calls (r_call Tryd.func33 en33.1 en33.2 (map2 e14 e15)) (rMul_any _ _ (qx) (((3438 : Int) : Rat)) (max k 2) _ (h1.below hb) h15_1 (hl.up _ (by omega)) ((rlim_int (limz_64 (by decide) (by decide)) (by omega)).up _ (by omega)) (by omega)) ?_)
    rintro e w'' ⟨v', rfl, h', bb⟩
    exact ⟨_, rfl, h', bb, (fun h => absurd h (by decide))⟩
  · intro a' w' hF' hb hd
    obtain ⟨g, w2, ge, hr, bb, on⟩ := own_alloc (P := Tryd.prog) (w := w') (cs := [.bool false, .slice none 0 0, .slice none 0 0]) 32 ze_Rat rfl (niB (niS (niS ni0)))
    subst ge
    exact if_does (wanted_free rfl) (Does.vals (r_alloc hr) ⟨⟨_, rfl, hb.size, on⟩, bb, fun _ => rfl⟩)
  intro a w6 hF bb hall hne
  obtain ⟨vv7, e16, hh8⟩ : ∃ v, a.tmps.getD 16 undef = v ∧ Rq w6 v ((qx) * (((3438 : Int) : Rat))) := ⟨_, rfl, hall 2 16 rfl⟩
  obtain ⟨g3, e3, ge3, o3⟩ : ∃ g, a.tmps.getD 3 undef = .pointer (some ⟨g, 0, none⟩) ∧ w5.heap.size ≤ g ∧ Own w6 g [.bool false, .slice none 0 0, .slice none 0 0] := hall 3 3 rfl
  have ne2_3 : g2 ≠ g3 := Nat.ne_of_lt (Nat.lt_of_lt_of_le o2.lt ge3)
  replace ge3 : w.heap.size ≤ g3 := Nat.le_trans bel.size ge3
  clear hall hne
  replace o2 := o2.below bb
  replace bel := below_to bel bb
  clear bb
  obtain ⟨b9, ad9, n9, c9, ae9, m9, d9, rfl, hn9, hd9⟩ := Rq.shape hh8
  have hf10 := Wc.abs hn9
  replace hF := hF.add e16
  clear e16
  replace hF := hF.add e3
  clear e3
  obtain ⟨w11, hr, tu, on⟩ := st_Rat (vs := [.bool b9, .slice ad9 n9 c9, .slice ae9 m9 d9]) o3 rfl rfl (ocB (ocS (ocS oc0))) (niB (niS (niS ni0))) (o := 0) rfl
  have kp := tu.keep o3
  refine E.st hF (r_store (hF.at 0 rfl) (hF.at 1 rfl) (hr _ rfl)) rfl rfl fun a hF => ?_
  clear hr
  replace hh8 := hh8.keep kp
  replace hn9 := hn9.keep kp
  replace hf10 := hf10.keep kp
  replace hd9 := hd9.keep kp
  replace o2 := tu.own o2 ne2_3
  replace bel := tu.below bel ge3
  clear tu kp
  replace o3 := on
  clear on
  refine E.nil ?_
  refine wp_seq ?_
  refine wp_seq ?_
  refine E.seq ?_
  refine E.opv hF (r_move ev_c) rfl rfl rfl rfl fun a hF => ?_
  refine E.nil ?_
  refine wp_block ?_
  have nint := nn1 o2.noInt
  refine E.loop (fun mq a wv => ∃ (j : Nat), j ≤ 24 ∧ ykf (qx * ((3438 : Int) : Rat)) (24 - j) j = yk (qx * ((3438 : Int) : Rat)) ∧ Fr 45 a [(17, .int .i64 ((j : Nat) : Int)), (3, .pointer (some ⟨g3, 0, none⟩)), (2, .pointer (some ⟨g2, 0, none⟩))] ∧ Stay [g2] w11 wv ∧ Below w.heap.size w wv ∧ Own wv g2 [.bool false, .slice none 0 0, .slice none 0 0] ∧ Rq wv (.agg #[.bool false, .slice none 0 0, .slice none 0 0]) 0 ∧ mq = 24 - j) (24 - 0) ?_ ?_
  · exact ⟨0, (by omega), rfl, hF.sub (by intro p hp; simp only [List.mem_cons, List.not_mem_nil, or_false] at hp ⊢; rcases hp with rfl | rfl | rfl <;> simp), Stay.refl _ _, bel, o2, (Rq.zero _), rfl⟩
  · rintro mq a w12 ⟨j, hj, hyk, hF, sty, bel, o2, hz0, hm⟩
    have kps := sty.keep nint
    replace hf10 := hf10.keep kps
    replace hd9 := hd9.keep kps
    replace hh8 := hh8.keep kps
    replace hn9 := hn9.keep kps
    replace o3 := sty.own o3 (by simp only [List.mem_cons, List.not_mem_nil, or_false]; first | exact (Ne.symm ne2_3) | (intro e; exact (Ne.symm ne2_3) e))
    clear kps
    by_cases hjn : j < 24
    · refine wp_seq ?_
      refine E.seq ?_
      refine E.opv hF (r_bin (hF.at 0 rfl) ev_c eg_scalar (bi_int (ic_lss (c := true) (dec_tt (by omega))) (by simp))) rfl rfl rfl rfl fun a hF => ?_
      refine E.nil ?_
      refine wp_seq ?_
      refine wp_cond_true (hF.at 0 rfl) ?_
      refine wp_skip ?_
      refine E.norm ?_
      refine wp_seq ?_
      refine wp_block ?_
      refine wp_seq ?_
      refine E.seq ?_
      refine E.opv hF (r_move (hF.at 1 rfl)) rfl rfl rfl rfl fun a hF => ?_
      refine E.opv hF (r_assign (hF.at 0 rfl)) rfl rfl rfl rfl fun a hF => ?_
      refine E.nil ?_
      refine wp_seq ?_
      refine wp_seq ?_
      by_cases hc13 : 0 < qc ((qx) * (((3438 : Int) : Rat))) (((spk (((j : Nat) : Int) + 1) : Int) : Rat))
      · refine E.drawn 7 mixed hF [20, 21, 22, 23, 24, 25, 26] [(fun _ v => v = .agg #[.bool b9, .slice ad9 n9 c9, .slice ae9 m9 d9]), (fun _ v => v = .int .i64 ((j : Nat) : Int)), (fun _ v => v = .int .i64 (((j : Nat) : Int) + 1)), (fun _ v => v = .int .i64 (spk (((j : Nat) : Int) + 1))), (fun w v => Rq w v (((spk (((j : Nat) : Int) + 1) : Int) : Rat))), (fun _ v => v = .int .i64 (qc ((qx) * (((3438 : Int) : Rat))) (((spk (((j : Nat) : Int) + 1) : Int) : Rat)))), (fun _ v => v = .bool true)] [] (by decide +kernel) (by decide +kernel) rfl rfl rfl ⟨(Mb.eq _), (Mb.eq _), (Mb.eq _), (Mb.eq _), (fun _ _ _ h hb => h.below hb), (Mb.eq _), (Mb.eq _), trivial⟩ trivial ⟨?_, ?_, ?_, ?_, ?_, ?_, ?_, trivial⟩ ?_
        · intro a' w' hF' hb hd
          exact if_does (wanted_free rfl) (Does.vals (r_load (hF'.at 4 rfl) (ld_Rat (vs := [.bool b9, .slice ad9 n9 c9, .slice ae9 m9 d9]) (o3.below hb) rfl rfl)) ⟨rfl, Below.refl _ _, (fun h => absurd h (by decide))⟩)
        · intro a' w' hF' hb hd
          exact if_does (wanted_free rfl) (Does.vals (r_move (hF'.at 0 rfl)) ⟨rfl, Below.refl _ _, (fun h => absurd h (by decide))⟩)
        · intro a' w' hF' hb hd
          have e21 : a'.tmps.getD 21 undef = .int .i64 ((j : Nat) : Int) := hd _ 21 (Array.mem_of_getElem? (i := 0) rfl) rfl rfl
          exact if_does (wanted_free rfl) (Does.vals (r_bin e21 ev_c eg_scalar (ia_add (by omega) (by omega))) ⟨rfl, Below.refl _ _, (fun h => absurd h (by decide))⟩)
        · intro a' w' hF' hb hd
          have e22 : a'.tmps.getD 22 undef = .int .i64 (((j : Nat) : Int) + 1) := hd _ 22 (Array.mem_of_getElem? (i := 0) rfl) rfl rfl
          refine if_does (wanted_free rfl) (Does.calls (r_call Tryd.func76 en76.1 en76.2 (map1 e22)) (high_spk (((j : Nat) : Int) + 1) _ (hT.below (below_to bel hb)) (by omega) (by omega)) ?_)
          rintro e w'' ⟨rfl, bb⟩
          exact ⟨_, rfl, rfl, bb, (fun h => absurd h (by decide))⟩
        · intro a' w' hF' hb hd
          have e23 : a'.tmps.getD 23 undef = .int .i64 (spk (((j : Nat) : Int) + 1)) := hd _ 23 (Array.mem_of_getElem? (i := 0) rfl) rfl rfl
          refine if_does (wanted_free rfl) (Does.calls (r_call Tryd.func19 en19.1 en19.2 (map1 e23)) (rWhole_any (spk (((j : Nat) : Int) + 1)) _ (spk64 (((j : Nat) : Int) + 1)).1 (spk64 (((j : Nat) : Int) + 1)).2) ?_)
          rintro e w'' ⟨v', rfl, h', bb⟩
          exact ⟨_, rfl, h', bb, (fun h => absurd h (by decide))⟩
        · intro a' w' hF' hb hd
          have e20 : a'.tmps.getD 20 undef = .agg #[.bool b9, .slice ad9 n9 c9, .slice ae9 m9 d9] := hd _ 20 (Array.mem_of_getElem? (i := 0) rfl) rfl rfl
          obtain ⟨v24_0, e24, h24_1⟩ : ∃ v, a'.tmps.getD 24 undef = v ∧ Rq w' v (((spk (((j : Nat) : Int) + 1) : Int) : Rat)) := ⟨_, rfl, hd _ 24 (Array.mem_of_getElem? (i := 1) rfl) rfl rfl⟩
          refine if_does (wanted_free rfl) (Does.calls (r_call Tryd.func14 en14.1 en14.2 (map2 e20 e24)) (rCmp_any _ _ ((qx) * (((3438 : Int) : Rat))) (((spk (((j : Nat) : Int) + 1) : Int) : Rat)) (max (k + 2) 2) _ (hh8.below hb) h24_1 ((rlim_mul hl (rlim_int (limz_64 (by decide) (by decide)) (by omega))).up _ (by omega)) ((rlim_int (limz_64 (spk64 (((j : Nat) : Int) + 1)).1 (spk64 (((j : Nat) : Int) + 1)).2) (by omega)).up _ (by omega)) (by omega)) ?_)
          rintro e w'' ⟨rfl, bb⟩
          exact ⟨_, rfl, rfl, bb, (fun h => absurd h (by decide))⟩
        · intro a' w' hF' hb hd
          have e25 : a'.tmps.getD 25 undef = .int .i64 (qc ((qx) * (((3438 : Int) : Rat))) (((spk (((j : Nat) : Int) + 1) : Int) : Rat))) := hd _ 25 (Array.mem_of_getElem? (i := 0) rfl) rfl rfl
          exact if_does (wanted_free rfl) (Does.vals (r_bin e25 ev_c eg_scalar (bi_int (ic_gtr (c := true) (dec_tt hc13)) (by simp))) ⟨rfl, Below.refl _ _, (fun h => absurd h (by decide))⟩)
        intro a w14 hF bb hall hne
        have e26 : a.tmps.getD 26 undef = .bool true := hall 6 26 rfl
        clear hall hne
        replace hz0 := hz0.below bb
        replace hf10 := hf10.below bb
        replace hd9 := hd9.below bb
        replace hh8 := hh8.below bb
        replace hn9 := hn9.below bb
        replace o2 := o2.below bb
        replace o3 := o3.below bb
        replace sty := sty.below bb
        replace bel := below_to bel bb
        clear bb
        replace hF := hF.add e26
        clear e26
        refine E.nil ?_
        refine wp_cond_true (hF.at 0 rfl) ?_
        refine wp_exit ?_
        refine E.past ?_
        refine E.out (id := 1) ?_
        refine E.norm ?_
        refine E.seq ?_
        refine E.opv hF (r_bin (hF.at 4 rfl) ev_c eg_scalar (ia_add (by omega) (by omega))) rfl rfl rfl rfl fun a hF => ?_
        refine E.opset (L' := [(17, .int .i64 (((j : Nat) : Int) + 1)), (43, .int .i64 (((j : Nat) : Int) + 1)), (26, .bool true), (4, .int .i64 ((j : Nat) : Int)), (19, .int .i64 ((j : Nat) : Int)), (18, .bool true), (3, .pointer (some ⟨g3, 0, none⟩)), (2, .pointer (some ⟨g2, 0, none⟩))]) hF (r_move (hF.at 0 rfl)) rfl rfl rfl rfl fun a hF => ?_
        refine E.nil0 ?_
        refine E.norm ?_
        exact ⟨24 - (j + 1), by omega, ⟨(j + 1), (by omega), (yk_next (by omega) hyk hc13), (by rw [show ((j + 1 : Nat) : Int) = ((j : Nat) : Int) + 1 from by omega]; exact Fr.sub (L' := [(17, .int .i64 (((j : Nat) : Int) + 1)), (3, .pointer (some ⟨g3, 0, none⟩)), (2, .pointer (some ⟨g2, 0, none⟩))]) hF (by intro p hp; simp only [List.mem_cons, List.not_mem_nil, or_false] at hp ⊢; rcases hp with rfl | rfl | rfl <;> simp)), sty, bel, o2, hz0, rfl⟩⟩
      · refine E.drawn 7 mixed hF [20, 21, 22, 23, 24, 25, 26] [(fun _ v => v = .agg #[.bool b9, .slice ad9 n9 c9, .slice ae9 m9 d9]), (fun _ v => v = .int .i64 ((j : Nat) : Int)), (fun _ v => v = .int .i64 (((j : Nat) : Int) + 1)), (fun _ v => v = .int .i64 (spk (((j : Nat) : Int) + 1))), (fun w v => Rq w v (((spk (((j : Nat) : Int) + 1) : Int) : Rat))), (fun _ v => v = .int .i64 (qc ((qx) * (((3438 : Int) : Rat))) (((spk (((j : Nat) : Int) + 1) : Int) : Rat)))), (fun _ v => v = .bool false)] [] (by decide +kernel) (by decide +kernel) rfl rfl rfl ⟨(Mb.eq _), (Mb.eq _), (Mb.eq _), (Mb.eq _), (fun _ _ _ h hb => h.below hb), (Mb.eq _), (Mb.eq _), trivial⟩ trivial ⟨?_, ?_, ?_, ?_, ?_, ?_, ?_, trivial⟩ ?_
        · intro a' w' hF' hb hd
          exact if_does (wanted_free rfl) (Does.vals (r_load (hF'.at 4 rfl) (ld_Rat (vs := [.bool b9, .slice ad9 n9 c9, .slice ae9 m9 d9]) (o3.below hb) rfl rfl)) ⟨rfl, Below.refl _ _, (fun h => absurd h (by decide))⟩)
        · intro a' w' hF' hb hd
          exact if_does (wanted_free rfl) (Does.vals (r_move (hF'.at 0 rfl)) ⟨rfl, Below.refl _ _, (fun h => absurd h (by decide))⟩)
        · intro a' w' hF' hb hd
          have e21 : a'.tmps.getD 21 undef = .int .i64 ((j : Nat) : Int) := hd _ 21 (Array.mem_of_getElem? (i := 0) rfl) rfl rfl
          exact if_does (wanted_free rfl) (Does.vals (r_bin e21 ev_c eg_scalar (ia_add (by omega) (by omega))) ⟨rfl, Below.refl _ _, (fun h => absurd h (by decide))⟩)
        · intro a' w' hF' hb hd
          have e22 : a'.tmps.getD 22 undef = .int .i64 (((j : Nat) : Int) + 1) := hd _ 22 (Array.mem_of_getElem? (i := 0) rfl) rfl rfl
          refine if_does (wanted_free rfl) (Does.calls (r_call Tryd.func76 en76.1 en76.2 (map1 e22)) (high_spk (((j : Nat) : Int) + 1) _ (hT.below (below_to bel hb)) (by omega) (by omega)) ?_)
          rintro e w'' ⟨rfl, bb⟩
          exact ⟨_, rfl, rfl, bb, (fun h => absurd h (by decide))⟩
        · intro a' w' hF' hb hd
          have e23 : a'.tmps.getD 23 undef = .int .i64 (spk (((j : Nat) : Int) + 1)) := hd _ 23 (Array.mem_of_getElem? (i := 0) rfl) rfl rfl
          refine if_does (wanted_free rfl) (Does.calls (r_call Tryd.func19 en19.1 en19.2 (map1 e23)) (rWhole_any (spk (((j : Nat) : Int) + 1)) _ (spk64 (((j : Nat) : Int) + 1)).1 (spk64 (((j : Nat) : Int) + 1)).2) ?_)
          rintro e w'' ⟨v', rfl, h', bb⟩
          exact ⟨_, rfl, h', bb, (fun h => absurd h (by decide))⟩
        · intro a' w' hF' hb hd
          have e20 : a'.tmps.getD 20 undef = .agg #[.bool b9, .slice ad9 n9 c9, .slice ae9 m9 d9] := hd _ 20 (Array.mem_of_getElem? (i := 0) rfl) rfl rfl
          obtain ⟨v24_0, e24, h24_1⟩ : ∃ v, a'.tmps.getD 24 undef = v ∧ Rq w' v (((spk (((j : Nat) : Int) + 1) : Int) : Rat)) := ⟨_, rfl, hd _ 24 (Array.mem_of_getElem? (i := 1) rfl) rfl rfl⟩
          refine if_does (wanted_free rfl) (Does.calls (r_call Tryd.func14 en14.1 en14.2 (map2 e20 e24)) (rCmp_any _ _ ((qx) * (((3438 : Int) : Rat))) (((spk (((j : Nat) : Int) + 1) : Int) : Rat)) (max (k + 2) 2) _ (hh8.below hb) h24_1 ((rlim_mul hl (rlim_int (limz_64 (by decide) (by decide)) (by omega))).up _ (by omega)) ((rlim_int (limz_64 (spk64 (((j : Nat) : Int) + 1)).1 (spk64 (((j : Nat) : Int) + 1)).2) (by omega)).up _ (by omega)) (by omega)) ?_)
          rintro e w'' ⟨rfl, bb⟩
          exact ⟨_, rfl, rfl, bb, (fun h => absurd h (by decide))⟩
        · intro a' w' hF' hb hd
          have e25 : a'.tmps.getD 25 undef = .int .i64 (qc ((qx) * (((3438 : Int) : Rat))) (((spk (((j : Nat) : Int) + 1) : Int) : Rat))) := hd _ 25 (Array.mem_of_getElem? (i := 0) rfl) rfl rfl
          exact if_does (wanted_free rfl) (Does.vals (r_bin e25 ev_c eg_scalar (bi_int (ic_gtr (c := false) (dec_ff hc13)) (by simp))) ⟨rfl, Below.refl _ _, (fun h => absurd h (by decide))⟩)
        intro a w15 hF bb hall hne
        have e26 : a.tmps.getD 26 undef = .bool false := hall 6 26 rfl
        clear hall hne
        replace hz0 := hz0.below bb
        replace hf10 := hf10.below bb
        replace hd9 := hd9.below bb
        replace hh8 := hh8.below bb
        replace hn9 := hn9.below bb
        replace o2 := o2.below bb
        replace o3 := o3.below bb
        replace sty := sty.below bb
        replace bel := below_to bel bb
        clear bb
        replace hF := hF.add e26
        clear e26
        refine E.nil ?_
        refine wp_cond_false (hF.at 0 rfl) ?_
        refine wp_skip ?_
        refine E.norm ?_
        refine wp_seq ?_
        refine E.drawn 6 mixed hF [27, 28, 29, 30, 31, 5] [(fun _ v => v = .agg #[.bool b9, .slice ad9 n9 c9, .slice ae9 m9 d9]), (fun _ v => v = .int .i64 ((j : Nat) : Int)), (fun _ v => v = .int .i64 (spk ((j : Nat) : Int))), (fun w v => Rq w v (((spk ((j : Nat) : Int) : Int) : Rat))), (fun w v => Rq w v (((qx) * (((3438 : Int) : Rat))) - (((spk ((j : Nat) : Int) : Int) : Rat)))), (fun w v => ∃ g, v = .pointer (some ⟨g, 0, none⟩) ∧ w15.heap.size ≤ g ∧ Own w g [.bool false, .slice none 0 0, .slice none 0 0])] [5] (by decide +kernel) (by decide +kernel) rfl rfl rfl ⟨(Mb.eq _), (Mb.eq _), (Mb.eq _), (fun _ _ _ h hb => h.below hb), (fun _ _ _ h hb => h.below hb), (fun _ _ _ ⟨g, e, l, o⟩ hb => ⟨g, e, l, o.below hb⟩), trivial⟩ ⟨fun _ _ ⟨g, e, _, o⟩ => ⟨g, e, o.lt⟩, trivial⟩ ⟨?_, ?_, ?_, ?_, ?_, ?_, trivial⟩ ?_
        · intro a' w' hF' hb hd
          exact if_does (wanted_free rfl) (Does.vals (r_load (hF'.at 5 rfl) (ld_Rat (vs := [.bool b9, .slice ad9 n9 c9, .slice ae9 m9 d9]) (o3.below hb) rfl rfl)) ⟨rfl, Below.refl _ _, (fun h => absurd h (by decide))⟩)
        · intro a' w' hF' hb hd
          exact if_does (wanted_free rfl) (Does.vals (r_move (hF'.at 1 rfl)) ⟨rfl, Below.refl _ _, (fun h => absurd h (by decide))⟩)
        · intro a' w' hF' hb hd
          have e28 : a'.tmps.getD 28 undef = .int .i64 ((j : Nat) : Int) := hd _ 28 (Array.mem_of_getElem? (i := 0) rfl) rfl rfl
          refine if_does (wanted_free rfl) (Does.calls (r_call Tryd.func76 en76.1 en76.2 (map1 e28)) (high_spk ((j : Nat) : Int) _ (hT.below (below_to bel hb)) (by omega) (by omega)) ?_)
          rintro e w'' ⟨rfl, bb⟩
          exact ⟨_, rfl, rfl, bb, (fun h => absurd h (by decide))⟩
        · intro a' w' hF' hb hd
          have e29 : a'.tmps.getD 29 undef = .int .i64 (spk ((j : Nat) : Int)) := hd _ 29 (Array.mem_of_getElem? (i := 0) rfl) rfl rfl
          refine if_does (wanted_free rfl) (Does.calls (r_call Tryd.func19 en19.1 en19.2 (map1 e29)) (rWhole_any (spk ((j : Nat) : Int)) _ (spk64 ((j : Nat) : Int)).1 (spk64 ((j : Nat) : Int)).2) ?_)
          rintro e w'' ⟨v', rfl, h', bb⟩
          exact ⟨_, rfl, h', bb, (fun h => absurd h (by decide))⟩
        · intro a' w' hF' hb hd
          have e27 : a'.tmps.getD 27 undef = .agg #[.bool b9, .slice ad9 n9 c9, .slice ae9 m9 d9] := hd _ 27 (Array.mem_of_getElem? (i := 0) rfl) rfl rfl
          obtain ⟨v30_0, e30, h30_1⟩ : ∃ v, a'.tmps.getD 30 undef = v ∧ Rq w' v (((spk ((j : Nat) : Int) : Int) : Rat)) := ⟨_, rfl, hd _ 30 (Array.mem_of_getElem? (i := 1) rfl) rfl rfl⟩
          refine if_does (wanted_free rfl) (Does.calls (r_call Tryd.func25 en25.1 en25.2 (map2 e27 e30)) (rSub_any _ _ ((qx) * (((3438 : Int) : Rat))) (((spk ((j : Nat) : Int) : Int) : Rat)) (max (k + 2) 2) _ (hh8.below hb) h30_1 ((rlim_mul hl (rlim_int (limz_64 (by decide) (by decide)) (by omega))).up _ (by omega)) ((rlim_int (limz_64 (spk64 ((j : Nat) : Int)).1 (spk64 ((j : Nat) : Int)).2) (by omega)).up _ (by omega)) (by omega)) ?_)
          rintro e w'' ⟨v', rfl, h', bb⟩
          exact ⟨_, rfl, h', bb, (fun h => absurd h (by decide))⟩
        · intro a' w' hF' hb hd
          obtain ⟨g, w2, ge, hr, bb, on⟩ := own_alloc (P := Tryd.prog) (w := w') (cs := [.bool false, .slice none 0 0, .slice none 0 0]) 32 ze_Rat rfl (niB (niS (niS ni0)))
          subst ge
          exact if_does (wanted_free rfl) (Does.vals (r_alloc hr) ⟨⟨_, rfl, hb.size, on⟩, bb, fun _ => rfl⟩)
        intro a w16 hF bb hall hne
        obtain ⟨vv17, e31, hh18⟩ : ∃ v, a.tmps.getD 31 undef = v ∧ Rq w16 v (((qx) * (((3438 : Int) : Rat))) - (((spk ((j : Nat) : Int) : Int) : Rat))) := ⟨_, rfl, hall 4 31 rfl⟩
        obtain ⟨g5, e5, ge5, o5⟩ : ∃ g, a.tmps.getD 5 undef = .pointer (some ⟨g, 0, none⟩) ∧ w15.heap.size ≤ g ∧ Own w16 g [.bool false, .slice none 0 0, .slice none 0 0] := hall 5 5 rfl
        have ne2_5 : g2 ≠ g5 := Nat.ne_of_lt (Nat.lt_of_lt_of_le o2.lt ge5)
        have ne3_5 : g3 ≠ g5 := Nat.ne_of_lt (Nat.lt_of_lt_of_le o3.lt ge5)
        have gl5 : w11.heap.size ≤ g5 := Nat.le_trans sty.size ge5
        replace ge5 : w.heap.size ≤ g5 := Nat.le_trans bel.size ge5
        clear hall hne
        replace hz0 := hz0.below bb
        replace hf10 := hf10.below bb
        replace hd9 := hd9.below bb
        replace hh8 := hh8.below bb
        replace hn9 := hn9.below bb
        replace o2 := o2.below bb
        replace o3 := o3.below bb
        replace sty := sty.below bb
        replace bel := below_to bel bb
        clear bb
        obtain ⟨b19, ad19, n19, c19, ae19, m19, d19, rfl, hn19, hd19⟩ := Rq.shape hh18
        have hf20 := Wc.abs hn19
        replace hF := hF.add e31
        clear e31
        replace hF := hF.add e5
        clear e5
        obtain ⟨w21, hr, tu, on⟩ := st_Rat (vs := [.bool b19, .slice ad19 n19 c19, .slice ae19 m19 d19]) o5 rfl rfl (ocB (ocS (ocS oc0))) (niB (niS (niS ni0))) (o := 0) rfl
        have kp := tu.keep o5
        refine E.st hF (r_store (hF.at 0 rfl) (hF.at 1 rfl) (hr _ rfl)) rfl rfl fun a hF => ?_
        clear hr
        replace hz0 := hz0.keep kp
        replace hf10 := hf10.keep kp
        replace hd9 := hd9.keep kp
        replace hh8 := hh8.keep kp
        replace hn9 := hn9.keep kp
        replace hh18 := hh18.keep kp
        replace hn19 := hn19.keep kp
        replace hf20 := hf20.keep kp
        replace hd19 := hd19.keep kp
        replace o2 := tu.own o2 ne2_5
        replace o3 := tu.own o3 ne3_5
        replace bel := tu.below bel ge5
        replace sty := sty.turned tu (.inr gl5)
        clear tu kp
        replace o5 := on
        clear on
        refine E.nil ?_
        refine wp_seq ?_
        refine E.drawn 6 mixed hF [32, 33, 34, 35, 36, 6] [(fun _ v => v = .agg #[.bool b19, .slice ad19 n19 c19, .slice ae19 m19 d19]), (fun _ v => v = .int .i64 ((j : Nat) : Int)), (fun _ v => v = .int .i64 (spk (((j : Nat) : Int) + 1) - spk ((j : Nat) : Int))), (fun w v => Rq w v (((spk (((j : Nat) : Int) + 1) - spk ((j : Nat) : Int) : Int) : Rat))), (fun w v => Rq w v ((((qx) * (((3438 : Int) : Rat))) - (((spk ((j : Nat) : Int) : Int) : Rat))) / (((spk (((j : Nat) : Int) + 1) - spk ((j : Nat) : Int) : Int) : Rat)))), (fun w v => ∃ g, v = .pointer (some ⟨g, 0, none⟩) ∧ w21.heap.size ≤ g ∧ Own w g [.bool false, .slice none 0 0, .slice none 0 0])] [5] (by decide +kernel) (by decide +kernel) rfl rfl rfl ⟨(Mb.eq _), (Mb.eq _), (Mb.eq _), (fun _ _ _ h hb => h.below hb), (fun _ _ _ h hb => h.below hb), (fun _ _ _ ⟨g, e, l, o⟩ hb => ⟨g, e, l, o.below hb⟩), trivial⟩ ⟨fun _ _ ⟨g, e, _, o⟩ => ⟨g, e, o.lt⟩, trivial⟩ ⟨?_, ?_, ?_, ?_, ?_, ?_, trivial⟩ ?_
        · intro a' w' hF' hb hd
          exact if_does (wanted_free rfl) (Does.vals (r_load (hF'.at 0 rfl) (ld_Rat (vs := [.bool b19, .slice ad19 n19 c19, .slice ae19 m19 d19]) (o5.below hb) rfl rfl)) ⟨rfl, Below.refl _ _, (fun h => absurd h (by decide))⟩)
        · intro a' w' hF' hb hd
          exact if_does (wanted_free rfl) (Does.vals (r_move (hF'.at 3 rfl)) ⟨rfl, Below.refl _ _, (fun h => absurd h (by decide))⟩)
        · intro a' w' hF' hb hd
          have e33 : a'.tmps.getD 33 undef = .int .i64 ((j : Nat) : Int) := hd _ 33 (Array.mem_of_getElem? (i := 0) rfl) rfl rfl
          refine if_does (wanted_free rfl) (Does.calls (r_call Tryd.func73 en73.1 en73.2 (map1 e33)) (rise_any ((j : Nat) : Int) _ (hT.below (below_to bel hb)) (by omega) (by omega)) ?_)
          rintro e w'' ⟨rfl, bb⟩
          exact ⟨_, rfl, rfl, bb, (fun h => absurd h (by decide))⟩
        · intro a' w' hF' hb hd
          have e34 : a'.tmps.getD 34 undef = .int .i64 (spk (((j : Nat) : Int) + 1) - spk ((j : Nat) : Int)) := hd _ 34 (Array.mem_of_getElem? (i := 0) rfl) rfl rfl
          refine if_does (wanted_free rfl) (Does.calls (r_call Tryd.func19 en19.1 en19.2 (map1 e34)) (rWhole_any (spk (((j : Nat) : Int) + 1) - spk ((j : Nat) : Int)) _ (dif64 (((j : Nat) : Int))).1 (dif64 (((j : Nat) : Int))).2) ?_)
          rintro e w'' ⟨v', rfl, h', bb⟩
          exact ⟨_, rfl, h', bb, (fun h => absurd h (by decide))⟩
        · intro a' w' hF' hb hd
          have e32 : a'.tmps.getD 32 undef = .agg #[.bool b19, .slice ad19 n19 c19, .slice ae19 m19 d19] := hd _ 32 (Array.mem_of_getElem? (i := 0) rfl) rfl rfl
          obtain ⟨v35_0, e35, h35_1⟩ : ∃ v, a'.tmps.getD 35 undef = v ∧ Rq w' v (((spk (((j : Nat) : Int) + 1) - spk ((j : Nat) : Int) : Int) : Rat)) := ⟨_, rfl, hd _ 35 (Array.mem_of_getElem? (i := 1) rfl) rfl rfl⟩
          refine if_does (wanted_free rfl) (Does.calls (r_call Tryd.func55 en55.1 en55.2 (map2 e32 e35)) (rDiv_any _ _ (((qx) * (((3438 : Int) : Rat))) - (((spk ((j : Nat) : Int) : Int) : Rat))) (((spk (((j : Nat) : Int) + 1) - spk ((j : Nat) : Int) : Int) : Rat)) (max ((k + 2) + 2 + 1) 2) _ (hh18.below hb) h35_1 ((rlim_sub (rlim_mul hl (rlim_int (limz_64 (by decide) (by decide)) (by omega))) (rlim_int (limz_64 (spk64 ((j : Nat) : Int)).1 (spk64 ((j : Nat) : Int)).2) (by omega))).up _ (by omega)) ((rlim_int (limz_64 (dif64 (((j : Nat) : Int))).1 (dif64 (((j : Nat) : Int))).2) (by omega)).up _ (by omega)) (by omega)) ?_)
          rintro e w'' ⟨v', rfl, h', bb⟩
          exact ⟨_, rfl, h', bb, (fun h => absurd h (by decide))⟩
        · intro a' w' hF' hb hd
          obtain ⟨g, w2, ge, hr, bb, on⟩ := own_alloc (P := Tryd.prog) (w := w') (cs := [.bool false, .slice none 0 0, .slice none 0 0]) 32 ze_Rat rfl (niB (niS (niS ni0)))
          subst ge
          exact if_does (wanted_free rfl) (Does.vals (r_alloc hr) ⟨⟨_, rfl, hb.size, on⟩, bb, fun _ => rfl⟩)
        intro a w22 hF bb hall hne
        obtain ⟨vv23, e36, hh24⟩ : ∃ v, a.tmps.getD 36 undef = v ∧ Rq w22 v ((((qx) * (((3438 : Int) : Rat))) - (((spk ((j : Nat) : Int) : Int) : Rat))) / (((spk (((j : Nat) : Int) + 1) - spk ((j : Nat) : Int) : Int) : Rat))) := ⟨_, rfl, hall 4 36 rfl⟩
        obtain ⟨g6, e6, ge6, o6⟩ : ∃ g, a.tmps.getD 6 undef = .pointer (some ⟨g, 0, none⟩) ∧ w21.heap.size ≤ g ∧ Own w22 g [.bool false, .slice none 0 0, .slice none 0 0] := hall 5 6 rfl
        have ne2_6 : g2 ≠ g6 := Nat.ne_of_lt (Nat.lt_of_lt_of_le o2.lt ge6)
        have ne3_6 : g3 ≠ g6 := Nat.ne_of_lt (Nat.lt_of_lt_of_le o3.lt ge6)
        have gl6 : w11.heap.size ≤ g6 := Nat.le_trans sty.size ge6
        replace ge6 : w.heap.size ≤ g6 := Nat.le_trans bel.size ge6
        clear hall hne
        replace hz0 := hz0.below bb
        replace hf10 := hf10.below bb
        replace hd9 := hd9.below bb
        replace hh8 := hh8.below bb
        replace hn9 := hn9.below bb
        replace o2 := o2.below bb
        replace o3 := o3.below bb
        replace sty := sty.below bb
        replace bel := below_to bel bb
        clear bb
        obtain ⟨b25, ad25, n25, c25, ae25, m25, d25, rfl, hn25, hd25⟩ := Rq.shape hh24
        have hf26 := Wc.abs hn25
        replace hF := hF.add e36
        clear e36
        replace hF := hF.add e6
        clear e6
        obtain ⟨w27, hr, tu, on⟩ := st_Rat (vs := [.bool b25, .slice ad25 n25 c25, .slice ae25 m25 d25]) o6 rfl rfl (ocB (ocS (ocS oc0))) (niB (niS (niS ni0))) (o := 0) rfl
        have kp := tu.keep o6
        refine E.st hF (r_store (hF.at 0 rfl) (hF.at 1 rfl) (hr _ rfl)) rfl rfl fun a hF => ?_
        clear hr
        replace hz0 := hz0.keep kp
        replace hf10 := hf10.keep kp
        replace hd9 := hd9.keep kp
        replace hh8 := hh8.keep kp
        replace hn9 := hn9.keep kp
        replace hh24 := hh24.keep kp
        replace hn25 := hn25.keep kp
        replace hf26 := hf26.keep kp
        replace hd25 := hd25.keep kp
        replace o2 := tu.own o2 ne2_6
        replace o3 := tu.own o3 ne3_6
        replace bel := tu.below bel ge6
        replace sty := sty.turned tu (.inr gl6)
        clear tu kp
        replace o6 := on
        clear on
        refine E.nil ?_
        refine wp_seq ?_
        refine E.drawn 6 mixed hF [37, 38, 39, 40, 41, 42] [(fun _ v => v = .agg #[.bool b25, .slice ad25 n25 c25, .slice ae25 m25 d25]), (fun _ v => v = .int .i64 ((j : Nat) : Int)), (fun w v => Rq w v (((((j : Nat) : Int) : Int) : Rat))), (fun w v => Rq w v (((((qx) * (((3438 : Int) : Rat))) - (((spk ((j : Nat) : Int) : Int) : Rat))) / (((spk (((j : Nat) : Int) + 1) - spk ((j : Nat) : Int) : Int) : Rat))) + (((((j : Nat) : Int) : Int) : Rat)))), (fun w v => Rq w v (wd)), (fun w v => Rq w v ((((((qx) * (((3438 : Int) : Rat))) - (((spk ((j : Nat) : Int) : Int) : Rat))) / (((spk (((j : Nat) : Int) + 1) - spk ((j : Nat) : Int) : Int) : Rat))) + (((((j : Nat) : Int) : Int) : Rat))) * (wd)))] [] (by decide +kernel) (by decide +kernel) rfl rfl rfl ⟨(Mb.eq _), (Mb.eq _), (fun _ _ _ h hb => h.below hb), (fun _ _ _ h hb => h.below hb), (fun _ _ _ h hb => h.below hb), (fun _ _ _ h hb => h.below hb), trivial⟩ trivial ⟨?_, ?_, ?_, ?_, ?_, ?_, trivial⟩ ?_
        · intro a' w' hF' hb hd
          exact if_does (wanted_free rfl) (Does.vals (r_load (hF'.at 0 rfl) (ld_Rat (vs := [.bool b25, .slice ad25 n25 c25, .slice ae25 m25 d25]) (o6.below hb) rfl rfl)) ⟨rfl, Below.refl _ _, (fun h => absurd h (by decide))⟩)
        · intro a' w' hF' hb hd
          exact if_does (wanted_free rfl) (Does.vals (r_move (hF'.at 5 rfl)) ⟨rfl, Below.refl _ _, (fun h => absurd h (by decide))⟩)
        · intro a' w' hF' hb hd
          have e38 : a'.tmps.getD 38 undef = .int .i64 ((j : Nat) : Int) := hd _ 38 (Array.mem_of_getElem? (i := 0) rfl) rfl rfl
          refine if_does (wanted_free rfl) (Does.calls (r_call Tryd.func19 en19.1 en19.2 (map1 e38)) (rWhole_any (((j : Nat) : Int)) _ (by omega) (by omega)) ?_)
          rintro e w'' ⟨v', rfl, h', bb⟩
          exact ⟨_, rfl, h', bb, (fun h => absurd h (by decide))⟩
        · intro a' w' hF' hb hd
          have e37 : a'.tmps.getD 37 undef = .agg #[.bool b25, .slice ad25 n25 c25, .slice ae25 m25 d25] := hd _ 37 (Array.mem_of_getElem? (i := 0) rfl) rfl rfl
          obtain ⟨v39_0, e39, h39_1⟩ : ∃ v, a'.tmps.getD 39 undef = v ∧ Rq w' v (((((j : Nat) : Int) : Int) : Rat)) := ⟨_, rfl, hd _ 39 (Array.mem_of_getElem? (i := 1) rfl) rfl rfl⟩
          refine if_does (wanted_free rfl) (Does.calls (r_call Tryd.func18 en18.1 en18.2 (map2 e37 e39)) (rAdd_any _ _ ((((qx) * (((3438 : Int) : Rat))) - (((spk ((j : Nat) : Int) : Int) : Rat))) / (((spk (((j : Nat) : Int) + 1) - spk ((j : Nat) : Int) : Int) : Rat))) (((((j : Nat) : Int) : Int) : Rat)) (max (((k + 2) + 2 + 1) + 2) 2) _ (hh24.below hb) h39_1 ((rlim_div (rlim_sub (rlim_mul hl (rlim_int (limz_64 (by decide) (by decide)) (by omega))) (rlim_int (limz_64 (spk64 ((j : Nat) : Int)).1 (spk64 ((j : Nat) : Int)).2) (by omega))) (rlim_int (limz_64 (dif64 (((j : Nat) : Int))).1 (dif64 (((j : Nat) : Int))).2) (by omega))).up _ (by omega)) ((rlim_int (limz_64 (by omega) (by omega)) (by omega)).up _ (by omega)) (by omega)) ?_)
          rintro e w'' ⟨v', rfl, h', bb⟩
          exact ⟨_, rfl, h', bb, (fun h => absurd h (by decide))⟩
        · intro a' w' hF' hb hd
          refine if_does (wanted_free rfl) (Does.calls (r_call Tryd.func77 en77.1 en77.2 map0) (width_any _) ?_)
          rintro e w'' ⟨v', rfl, h', bb⟩
          exact ⟨_, rfl, h', bb, (fun h => absurd h (by decide))⟩
        · intro a' w' hF' hb hd
          obtain ⟨v40_0, e40, h40_1⟩ : ∃ v, a'.tmps.getD 40 undef = v ∧ Rq w' v (((((qx) * (((3438 : Int) : Rat))) - (((spk ((j : Nat) : Int) : Int) : Rat))) / (((spk (((j : Nat) : Int) + 1) - spk ((j : Nat) : Int) : Int) : Rat))) + (((((j : Nat) : Int) : Int) : Rat))) := ⟨_, rfl, hd _ 40 (Array.mem_of_getElem? (i := 0) rfl) rfl rfl⟩
          obtain ⟨v41_0, e41, h41_1⟩ : ∃ v, a'.tmps.getD 41 undef = v ∧ Rq w' v (wd) := ⟨_, rfl, hd _ 41 (Array.mem_of_getElem? (i := 1) rfl) rfl rfl⟩
          refine if_does (wanted_free rfl) (Does.calls (r_call Tryd.func33 en33.1 en33.2 (map2 e40 e41)) (rMul_any _ _ (((((qx) * (((3438 : Int) : Rat))) - (((spk ((j : Nat) : Int) : Int) : Rat))) / (((spk (((j : Nat) : Int) + 1) - spk ((j : Nat) : Int) : Int) : Rat))) + (((((j : Nat) : Int) : Int) : Rat))) (wd) (max ((((k + 2) + 2 + 1) + 2) + 2 + 1) 2) _ h40_1 h41_1 ((rlim_add (rlim_div (rlim_sub (rlim_mul hl (rlim_int (limz_64 (by decide) (by decide)) (by omega))) (rlim_int (limz_64 (spk64 ((j : Nat) : Int)).1 (spk64 ((j : Nat) : Int)).2) (by omega))) (rlim_int (limz_64 (dif64 (((j : Nat) : Int))).1 (dif64 (((j : Nat) : Int))).2) (by omega))) (rlim_int (limz_64 (by omega) (by omega)) (by omega))).up _ (by omega)) (wd_lim.up _ (by omega)) (by omega)) ?_)
          rintro e w'' ⟨v', rfl, h', bb⟩
          exact ⟨_, rfl, h', bb, (fun h => absurd h (by decide))⟩
        intro a w28 hF bb hall hne
        obtain ⟨vv29, e42, hh30⟩ : ∃ v, a.tmps.getD 42 undef = v ∧ Rq w28 v ((((((qx) * (((3438 : Int) : Rat))) - (((spk ((j : Nat) : Int) : Int) : Rat))) / (((spk (((j : Nat) : Int) + 1) - spk ((j : Nat) : Int) : Int) : Rat))) + (((((j : Nat) : Int) : Int) : Rat))) * (wd)) := ⟨_, rfl, hall 5 42 rfl⟩
        clear hall hne
        replace hz0 := hz0.below bb
        replace hf10 := hf10.below bb
        replace hd9 := hd9.below bb
        replace hh8 := hh8.below bb
        replace hn9 := hn9.below bb
        replace o2 := o2.below bb
        replace o3 := o3.below bb
        replace sty := sty.below bb
        replace bel := below_to bel bb
        clear bb
        obtain ⟨b31, ad31, n31, c31, ae31, m31, d31, rfl, hn31, hd31⟩ := Rq.shape hh30
        have hf32 := Wc.abs hn31
        replace hF := hF.add e42
        clear e42
        obtain ⟨w33, hr, tu, on⟩ := st_Rat (vs := [.bool b31, .slice ad31 n31 c31, .slice ae31 m31 d31]) o2 rfl rfl (ocB (ocS (ocS oc0))) (niB (niS (niS ni0))) (o := 0) rfl
        have kp := tu.keep o2
        refine E.st hF (r_store (hF.at 11 rfl) (hF.at 0 rfl) (hr _ rfl)) rfl rfl fun a hF => ?_
        clear hr
        replace hz0 := hz0.keep kp
        replace hf10 := hf10.keep kp
        replace hd9 := hd9.keep kp
        replace hh8 := hh8.keep kp
        replace hn9 := hn9.keep kp
        replace hh30 := hh30.keep kp
        replace hn31 := hn31.keep kp
        replace hf32 := hf32.keep kp
        replace hd31 := hd31.keep kp
        replace o3 := tu.own o3 (Ne.symm ne2_3)
        replace bel := tu.below bel ge2
        replace sty := sty.turned tu (.inl (by simp))
        clear tu kp
        replace o2 := on
        clear on
        refine E.nil ?_
        refine wp_ret ?_
        refine bodyPost_ret (res_cell Tryd.results43 (hF.at 11 rfl) (ld_Rat (vs := [.bool b31, .slice ad31 n31 c31, .slice ae31 m31 d31]) o2 rfl rfl)) hF.dfr ?_
        exact ⟨_, rfl, Rq.castM hh30 (arc_here hx hjn (yk_here hjn hyk hc13)), bel⟩
    · refine wp_seq ?_
      refine E.seq ?_
      refine E.opv hF (r_bin (hF.at 0 rfl) ev_c eg_scalar (bi_int (ic_lss (c := false) (dec_ff (by omega))) (by simp))) rfl rfl rfl rfl fun a hF => ?_
      refine E.nil ?_
      refine wp_seq ?_
      refine wp_cond_false (hF.at 0 rfl) ?_
      refine wp_exit ?_
      refine E.past ?_
      refine E.past ?_
      refine E.out (id := 0) ?_
      refine E.norm ?_
      refine wp_seq ?_
      refine E.seq ?_
      refine E.call hF (r_call Tryd.func19 en19.1 en19.2 (map1 ev_c)) (rWhole_any (90) _ (by decide) (by decide)) rfl rfl rfl rfl ?_
      rintro e w13 ⟨vv14, rfl, hh15, bb⟩
      refine ⟨_, rfl, ?_⟩
      intro a hF
      replace hz0 := hz0.below bb
      replace o2 := o2.below bb
      replace bel := below_to bel bb
      clear bb
      obtain ⟨b16, ad16, n16, c16, ae16, m16, d16, rfl, hn16, hd16⟩ := Rq.shape hh15
      have hf17 := Wc.abs hn16
      obtain ⟨w18, hr, tu, on⟩ := st_Rat (vs := [.bool b16, .slice ad16 n16 c16, .slice ae16 m16 d16]) o2 rfl rfl (ocB (ocS (ocS oc0))) (niB (niS (niS ni0))) (o := 0) rfl
      have kp := tu.keep o2
      refine E.st hF (r_store (hF.at 4 rfl) (hF.at 0 rfl) (hr _ rfl)) rfl rfl fun a hF => ?_
      clear hr
      replace hz0 := hz0.keep kp
      replace hh15 := hh15.keep kp
      replace hn16 := hn16.keep kp
      replace hf17 := hf17.keep kp
      replace hd16 := hd16.keep kp
      replace bel := tu.below bel ge2
      clear tu kp
      replace o2 := on
      clear on
      refine E.nil ?_
      refine wp_ret ?_
      refine bodyPost_ret (res_cell Tryd.results43 (hF.at 4 rfl) (ld_Rat (vs := [.bool b16, .slice ad16 n16 c16, .slice ae16 m16 d16]) o2 rfl rfl)) hF.dfr ?_
      have e24 : j = 24 := by omega
      subst e24
      exact ⟨_, rfl, Rq.castM hh15 (arc_end hx hyk.symm), bel⟩

set_option maxHeartbeats 4000000 in
theorem arc_neg_any (v1 : Value) (qx : Rat) (k : Nat) (w : World) (hT : TabD w) (h1 : Rq w v1 qx) (hl : RLim qx k) (hk : k ≤ 1000) (hn : sz (Rat.num qx) < 0) :
    Calls Tryd.prog 43 #[v1] w (RqPost w (arcv qx)) := by
  have hx : qx < 0 := sz_lt0.1 hn
  have bel : Below w.heap.size w w := Below.refl _ _
  refine E.enter (nt := 45) (L := [(0, v1)]) Tryd.func43 rfl rfl rfl (args_cons (i := 0) rfl args_nil) ?_
  intro a hF
  refine wp_seq ?_
  refine E.seq ?_
  obtain ⟨b1, ad1, n1, c1, ae1, m1, d1, rfl, hn1, hd1⟩ := Rq.shape h1
  have hf2 := Wc.abs hn1
  obtain ⟨g1, w3, ge1, hr, bb, o1⟩ := own_box (P := Tryd.prog) (w := w) (cs := [.bool b1, .slice ad1 n1 c1, .slice ae1 m1 d1]) (v := .agg #[.bool b1, .slice ad1 n1 c1, .slice ae1 m1 d1]) 32 rfl (niB (niS (niS ni0)))
  replace ge1 : w.heap.size ≤ g1 := by rw [← ge1]; exact bel.size
  refine E.opv hF (r_box (hF.at 0 rfl) hr) rfl rfl rfl rfl fun a hF => ?_
  clear hr
  replace h1 := h1.below bb
  replace hn1 := hn1.below bb
  replace hf2 := hf2.below bb
  replace hd1 := hd1.below bb
  replace bel := below_to bel bb
  clear bb
  obtain ⟨g2, w4, ge2, hr, bb, o2⟩ := own_alloc (P := Tryd.prog) (w := w3) (cs := [.bool false, .slice none 0 0, .slice none 0 0]) 32 ze_Rat rfl (niB (niS (niS ni0)))
  have ne1_2 : g1 ≠ g2 := by rw [← ge2]; exact o1.ne_new
  replace ge2 : w.heap.size ≤ g2 := by rw [← ge2]; exact bel.size
  refine E.opv hF (r_alloc hr) rfl rfl rfl rfl fun a hF => ?_
  clear hr
  replace hf2 := hf2.below bb
  replace hd1 := hd1.below bb
  replace h1 := h1.below bb
  replace hn1 := hn1.below bb
  replace o1 := o1.below bb
  replace bel := below_to bel bb
  clear bb
  refine E.nil ?_
  refine wp_seq ?_
  refine wp_seq ?_
  refine E.seq ?_
  refine E.opv hF (r_load (hF.at 1 rfl) (ld_Rat (vs := [.bool b1, .slice ad1 n1 c1, .slice ae1 m1 d1]) o1 rfl rfl)) rfl rfl rfl rfl fun a hF => ?_
  refine E.call hF (r_call Tryd.func36 en36.1 en36.2 (map1 (hF.at 0 rfl))) (rsgn_any _ (qx) _ h1) rfl rfl rfl rfl ?_
  rintro e w5 ⟨rfl, bb⟩
  refine ⟨_, rfl, ?_⟩
  intro a hF
  replace hf2 := hf2.below bb
  replace hd1 := hd1.below bb
  replace h1 := h1.below bb
  replace hn1 := hn1.below bb
  replace o1 := o1.below bb
  replace o2 := o2.below bb
  replace bel := below_to bel bb
  clear bb
  refine E.opv hF (r_bin (hF.at 0 rfl) ev_c eg_scalar (bi_int (ic_lss (c := true) (dec_tt hn)) (by simp))) rfl rfl rfl rfl fun a hF => ?_
  refine E.nil ?_
  refine wp_cond_true (hF.at 0 rfl) ?_
  refine wp_seq ?_
  refine E.seq ?_
  refine E.opv hF (r_load (hF.at 4 rfl) (ld_Rat (vs := [.bool b1, .slice ad1 n1 c1, .slice ae1 m1 d1]) o1 rfl rfl)) rfl rfl rfl rfl fun a hF => ?_
  refine E.call hF (r_call Tryd.func63 en63.1 en63.2 (map1 (hF.at 0 rfl))) (rOpp_any _ (qx) _ h1) rfl rfl rfl rfl ?_
  rintro e w6 ⟨vv7, rfl, hh8, bb⟩
  refine ⟨_, rfl, ?_⟩
  intro a hF
  replace hf2 := hf2.below bb
  replace hd1 := hd1.below bb
  replace h1 := h1.below bb
  replace hn1 := hn1.below bb
  replace o1 := o1.below bb
  replace o2 := o2.below bb
  replace bel := below_to bel bb
  clear bb
  obtain ⟨b9, ad9, n9, c9, ae9, m9, d9, rfl, hn9, hd9⟩ := Rq.shape hh8
  have hf10 := Wc.abs hn9
  refine E.call hF (r_call Tryd.func43 en43.1 en43.2 (map1 (hF.at 0 rfl))) (arc_pos _ (-(qx)) k _ (hT.below bel) hh8 (rlim_neg hl) (by omega) (neg_not hx)) rfl rfl rfl rfl ?_
  rintro e w11 ⟨vv12, rfl, hh13, bb⟩
  refine ⟨_, rfl, ?_⟩
  intro a hF
  replace hf2 := hf2.below bb
  replace hd1 := hd1.below bb
  replace h1 := h1.below bb
  replace hn1 := hn1.below bb
  replace o1 := o1.below bb
  replace o2 := o2.below bb
  replace bel := below_to bel bb
  clear bb
  obtain ⟨b14, ad14, n14, c14, ae14, m14, d14, rfl, hn14, hd14⟩ := Rq.shape hh13
  have hf15 := Wc.abs hn14
  refine E.call hF (r_call Tryd.func63 en63.1 en63.2 (map1 (hF.at 0 rfl))) (rOpp_any _ (arcv (-(qx))) _ hh13) rfl rfl rfl rfl ?_
  rintro e w16 ⟨vv17, rfl, hh18, bb⟩
  refine ⟨_, rfl, ?_⟩
  intro a hF
  replace hf2 := hf2.below bb
  replace hd1 := hd1.below bb
  replace h1 := h1.below bb
  replace hn1 := hn1.below bb
  replace o1 := o1.below bb
  replace o2 := o2.below bb
  replace bel := below_to bel bb
  clear bb
  obtain ⟨b19, ad19, n19, c19, ae19, m19, d19, rfl, hn19, hd19⟩ := Rq.shape hh18
  have hf20 := Wc.abs hn19
  obtain ⟨w21, hr, tu, on⟩ := st_Rat (vs := [.bool b19, .slice ad19 n19 c19, .slice ae19 m19 d19]) o2 rfl rfl (ocB (ocS (ocS oc0))) (niB (niS (niS ni0))) (o := 0) rfl
  have kp := tu.keep o2
  refine E.st hF (r_store (hF.at 7 rfl) (hF.at 0 rfl) (hr _ rfl)) rfl rfl fun a hF => ?_
  clear hr
  replace hf2 := hf2.keep kp
  replace hd1 := hd1.keep kp
  replace h1 := h1.keep kp
  replace hn1 := hn1.keep kp
  replace hh18 := hh18.keep kp
  replace hn19 := hn19.keep kp
  replace hf20 := hf20.keep kp
  replace hd19 := hd19.keep kp
  replace o1 := tu.own o1 ne1_2
  replace bel := tu.below bel ge2
  clear tu kp
  replace o2 := on
  clear on
  refine E.nil ?_
  refine wp_ret ?_
  refine bodyPost_ret (res_cell Tryd.results43 (hF.at 7 rfl) (ld_Rat (vs := [.bool b19, .slice ad19 n19 c19, .slice ae19 m19 d19]) o2 rfl rfl)) hF.dfr ?_
  exact ⟨_, rfl, Rq.castM hh18 (arc_neg hx), bel⟩

theorem sarc_any (v1 : Value) (qx : Rat) (k : Nat) (w : World) (hT : TabD w) (h1 : Rq w v1 qx) (hl : RLim qx k) (hk : k ≤ 1000) : Calls Tryd.prog 43 #[v1] w (RqPost w (arcv qx)) := by
  by_cases hn : sz (Rat.num qx) < 0
  · exact arc_neg_any v1 qx k w hT h1 hl hk hn
  · exact arc_pos v1 qx k w hT h1 hl hk hn
end Go.Proofs.YtmpdbkdijfpbbaaDoor
