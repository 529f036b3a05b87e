/- The Gregorian and the Julian calendar. -/
import Derived.Test.YtcgbllbhagijjaaDoorBlk
namespace Go.Proofs.YtcgbllbhagijjaaDoor
open Go.RowKit
set_option maxRecDepth 100000
set_option linter.unusedVariables false

/-- A calendar: its years' first days, and which are leap. -/
structure Cal where
  first : Int → Int
  leap : Int → Bool
  step : ∀ y, first (y + 1) = first y + 365 + (if leap y then 1 else 0)
def mlen (l : Bool) (m : Int) : Int :=
  if m < 1 then 0 else if 12 < m then 0 else if m = 2 then (if l then 29 else 28) else if m = 4 then 30 else if m = 6 then 30 else if m = 9 then 30 else if m = 11 then 30 else 31
def cum (l : Bool) (m : Int) : Int := (367 * m - 362) / 12 + (if m ≤ 2 then 0 else if l then -1 else -2)
theorem cum_one (l : Bool) : cum l 1 = 0 := by cases l <;> decide
theorem cum_end (l : Bool) : cum l 13 = 365 + (if l then 1 else 0) := by cases l <;> decide
theorem months {m : Int} (h1 : 1 ≤ m) (h2 : m ≤ 12) : m = 1 ∨ m = 2 ∨ m = 3 ∨ m = 4 ∨ m = 5 ∨ m = 6 ∨ m = 7 ∨ m = 8 ∨ m = 9 ∨ m = 10 ∨ m = 11 ∨ m = 12 := by omega
theorem cum_step (l : Bool) {m : Int} (h1 : 1 ≤ m) (h2 : m ≤ 12) : cum l (m + 1) = cum l m + mlen l m := by
  rcases months h1 h2 with rfl | rfl | rfl | rfl | rfl | rfl | rfl | rfl | rfl | rfl | rfl | rfl <;> cases l <;> decide
theorem mlen_pos (l : Bool) {m : Int} (h1 : 1 ≤ m) (h2 : m ≤ 12) : 28 ≤ mlen l m ∧ mlen l m ≤ 31 := by
  rcases months h1 h2 with rfl | rfl | rfl | rfl | rfl | rfl | rfl | rfl | rfl | rfl | rfl | rfl <;> cases l <;> decide
theorem mlen_bd (l : Bool) (m : Int) : 0 ≤ mlen l m ∧ mlen l m ≤ 31 := by
  unfold mlen
  repeat' split
  all_goals omega
theorem mlen_none (l : Bool) {m : Int} (h : m < 1 ∨ 12 < m) : mlen l m = 0 := by
  unfold mlen
  split
  · rfl
  · split
    · rfl
    · omega
theorem cum_mono (l : Bool) {m : Int} (h1 : 1 ≤ m) : ∀ k : Nat, m + k ≤ 13 → cum l m ≤ cum l (m + k)
  | 0, _ => by simp
  | k + 1, h => by
    have ih := cum_mono l h1 k (by omega)
    have hs := cum_step l (m := m + k) (by omega) (by omega)
    have hp := mlen_bd l (m + k)
    have e : m + ((k + 1 : Nat) : Int) = m + k + 1 := by omega
    rw [e, hs]; omega
theorem cum_le (l : Bool) {m n : Int} (h1 : 1 ≤ m) (h : m ≤ n) (h2 : n ≤ 13) : cum l m ≤ cum l n := by
  have := cum_mono l h1 (n - m).toNat (by omega)
  rwa [show m + ((n - m).toNat : Int) = n by omega] at this
theorem cum_bd (l : Bool) {m : Int} (h1 : 1 ≤ m) (h2 : m ≤ 13) : 0 ≤ cum l m ∧ cum l m ≤ 366 := by
  have a := cum_le l (by omega) h1 h2
  have b := cum_le l h1 h2 (by omega)
  rw [cum_one] at a
  rw [cum_end] at b
  refine ⟨a, Int.le_trans b ?_⟩
  split <;> omega
def Val (l : Bool) (m d : Int) : Prop := 1 ≤ m ∧ m ≤ 12 ∧ 1 ≤ d ∧ d ≤ mlen l m
namespace Cal
variable (c : Cal)
def day (y m d : Int) : Int := c.first y + cum (c.leap y) m + d - 1
theorem first_mono (y : Int) : ∀ k : Nat, c.first y + 365 * k ≤ c.first (y + k)
  | 0 => by simp
  | k + 1 => by
    have ih := first_mono y k
    have hs := c.step (y + k)
    have e : y + ((k + 1 : Nat) : Int) = y + k + 1 := by omega
    rw [e, hs]
    split <;> omega
theorem first_top (y : Int) : ∀ k : Nat, c.first (y + k) ≤ c.first y + 366 * k
  | 0 => by simp
  | k + 1 => by
    have ih := first_top y k
    have hs := c.step (y + k)
    have e : y + ((k + 1 : Nat) : Int) = y + k + 1 := by omega
    rw [e, hs]
    split <;> omega
theorem first_le {y z : Int} (h : y ≤ z) : c.first y + 365 * (z - y) ≤ c.first z ∧ c.first z ≤ c.first y + 366 * (z - y) := by
  have h1 := c.first_mono y (z - y).toNat
  have h2 := c.first_top y (z - y).toNat
  rw [show y + ((z - y).toNat : Int) = z by omega] at h1 h2
  rw [show (((z - y).toNat : Nat) : Int) = z - y by omega] at h1 h2
  exact ⟨h1, h2⟩
theorem day_in {y m d : Int} (h : Val (c.leap y) m d) : c.first y ≤ c.day y m d ∧ c.day y m d < c.first (y + 1) := by
  obtain ⟨h1, h2, h3, h4⟩ := h
  have a := cum_bd (c.leap y) h1 (by omega)
  have b := cum_step (c.leap y) h1 h2
  have e := cum_le (c.leap y) (m := m + 1) (n := 13) (by omega) (by omega) (by omega)
  rw [cum_end] at e
  have s := c.step y
  unfold day
  constructor <;> omega
theorem year_eq {y z n : Int} (h1 : c.first y ≤ n) (h2 : n < c.first (y + 1)) (h3 : c.first z ≤ n) (h4 : n < c.first (z + 1)) : y = z := by
  by_cases h : y < z
  · have := (c.first_le (y := y + 1) (z := z) (by omega)).1; omega
  · by_cases h' : z < y
    · have := (c.first_le (y := z + 1) (z := y) (by omega)).1; omega
    · omega
theorem month_eq {l : Bool} {m n r d e : Int} (h : Val l m d) (k : Val l n e) (h1 : r = cum l m + d - 1) (h2 : r = cum l n + e - 1) : m = n ∧ d = e := by
  obtain ⟨a1, a2, a3, a4⟩ := h
  obtain ⟨b1, b2, b3, b4⟩ := k
  have s := cum_step l a1 a2
  have t := cum_step l b1 b2
  by_cases h : m < n
  · have := cum_le l (m := m + 1) (n := n) (by omega) (by omega) (by omega); omega
  · by_cases h' : n < m
    · have := cum_le l (m := n + 1) (n := m) (by omega) (by omega) (by omega); omega
    · have : m = n := by omega
      subst this
      exact ⟨rfl, by omega⟩
theorem day_inj {y m d y' m' d' : Int} (h : Val (c.leap y) m d) (h' : Val (c.leap y') m' d') (e : c.day y m d = c.day y' m' d') : y = y' ∧ m = m' ∧ d = d' := by
  have a := c.day_in h
  have b := c.day_in h'
  rw [← e] at b
  obtain rfl := c.year_eq a.1 a.2 b.1 b.2
  unfold day at e
  have := month_eq h h' (r := cum (c.leap y) m + d - 1) rfl (by omega)
  exact ⟨rfl, this⟩
/-- The date behind one. -/
def next (y m d : Int) : Int × Int × Int :=
  if d < mlen (c.leap y) m then (y, m, d + 1) else if m < 12 then (y, m + 1, 1) else (y + 1, 1, 1)
theorem next_val {y m d : Int} (h : Val (c.leap y) m d) : Val (c.leap (c.next y m d).1) (c.next y m d).2.1 (c.next y m d).2.2 ∧ c.day (c.next y m d).1 (c.next y m d).2.1 (c.next y m d).2.2 = c.day y m d + 1 := by
  obtain ⟨h1, h2, h3, h4⟩ := h
  unfold next
  split
  · refine ⟨⟨h1, h2, by simp only; omega, by simp only; omega⟩, ?_⟩
    simp only [day]; omega
  · split
    · have p := mlen_pos (c.leap y) (m := m + 1) (by omega) (by omega)
      refine ⟨⟨by simp only; omega, by simp only; omega, by simp only; omega, by simp only; omega⟩, ?_⟩
      have s := cum_step (c.leap y) h1 h2
      simp only [day]; omega
    · have p := mlen_pos (c.leap (y + 1)) (m := 1) (by omega) (by omega)
      refine ⟨⟨by simp only; omega, by simp only; omega, by simp only; omega, by simp only; omega⟩, ?_⟩
      have s := cum_step (c.leap y) h1 h2
      have e : m + 1 = 13 := by omega
      rw [e, cum_end] at s
      have t := c.step y
      simp only [day, cum_one]; omega
end Cal
def leapC (y : Int) : Bool := decide (y % 400 = 0 ∨ y % 4 = 0 ∧ y % 100 ≠ 0)
def leapJ (y : Int) : Bool := decide (y % 4 = 0)
def firstC (y : Int) : Int := (y - 1) * 365 + (y - 1) / 4 - (y - 1) / 100 + (y - 1) / 400 + 1
def firstJ (y : Int) : Int := (y - 1) * 365 + (y - 1) / 4 - 1
theorem stepC (y : Int) : firstC (y + 1) = firstC y + 365 + (if leapC y then 1 else 0) := by
  unfold firstC leapC
  simp only [decide_eq_true_eq]
  split <;> omega
theorem stepJ (y : Int) : firstJ (y + 1) = firstJ y + 365 + (if leapJ y then 1 else 0) := by
  unfold firstJ leapJ
  simp only [decide_eq_true_eq]
  split <;> omega
def calC : Cal := ⟨firstC, leapC, stepC⟩
def calJ : Cal := ⟨firstJ, leapJ, stepJ⟩
/-- In which year a day lies. -/
def yearC (n : Int) : Int :=
  let r := n - 1
  let c := r / 146097
  let r1 := r - c * 146097
  let ce := min (r1 / 36524) 3
  let r2 := r1 - ce * 36524
  let f := r2 / 1461
  let r3 := r2 - f * 1461
  400 * c + 100 * ce + 4 * f + min (r3 / 365) 3 + 1
theorem firstC_at {c ce f g : Int} (h1 : 0 ≤ ce) (h2 : ce ≤ 3) (h3 : 0 ≤ f) (h4 : f ≤ 24) (h5 : 0 ≤ g) (h6 : g ≤ 3) :
    firstC (400 * c + 100 * ce + 4 * f + g + 1) = c * 146097 + ce * 36524 + f * 1461 + g * 365 + 1 := by
  have q4 : (400 * c + 100 * ce + 4 * f + g) / 4 = 100 * c + 25 * ce + f := by omega
  have q100 : (400 * c + 100 * ce + 4 * f + g) / 100 = 4 * c + ce := by omega
  have q400 : (400 * c + 100 * ce + 4 * f + g) / 400 = c := by omega
  unfold firstC
  rw [show 400 * c + 100 * ce + 4 * f + g + 1 - 1 = 400 * c + 100 * ce + 4 * f + g by omega, q4, q100, q400]
  omega
theorem leapC_at {c ce f g : Int} (h1 : 0 ≤ ce) (h2 : ce ≤ 3) (h3 : 0 ≤ f) (h4 : f ≤ 24) (h5 : 0 ≤ g) (h6 : g ≤ 3) :
    leapC (400 * c + 100 * ce + 4 * f + g + 1) = decide (g = 3 ∧ (f = 24 → ce = 3)) := by
  unfold leapC
  apply decide_eq_decide.2
  constructor
  · intro h; refine ⟨by omega, by omega⟩
  · rintro ⟨a, b⟩
    by_cases e : f = 24
    · have := b e; left; omega
    · right; constructor <;> omega
theorem part3 {r n : Int} (h1 : 0 ≤ r) (h2 : r ≤ 4 * n) (hn : 0 < n) (q : Int) (hq : q = min (r / n) 3) : 0 ≤ q ∧ q ≤ 3 ∧ 0 ≤ r - q * n ∧ (q < 3 → r - q * n < n) ∧ r - q * n ≤ r := by
  have a : 0 ≤ r / n := Int.ediv_nonneg h1 (by omega)
  have b := Int.mul_ediv_add_emod r n
  have c := Int.emod_nonneg r (by omega : n ≠ 0)
  have d := Int.emod_lt_of_pos r hn
  have q0 : 0 ≤ q := by omega
  have q3 : q ≤ 3 := by omega
  have qn : 0 ≤ q * n := Int.mul_nonneg q0 (by omega)
  by_cases h : r / n ≤ 3
  · have this : q = r / n := by omega
    have e2 : q * n = n * (r / n) := by rw [this, Int.mul_comm]
    refine ⟨by omega, by omega, by omega, by omega, by omega⟩
  · have e : q = 3 := by omega
    subst e
    have : 3 * n ≤ n * (r / n) := by rw [Int.mul_comm 3 n]; exact Int.mul_le_mul_of_nonneg_left (by omega) (by omega)
    refine ⟨by omega, by omega, by omega, by omega, by omega⟩
theorem yearC_in (n : Int) : firstC (yearC n) ≤ n ∧ n < firstC (yearC n + 1) := by
  unfold yearC
  simp only
  generalize hc : (n - 1) / 146097 = c
  generalize hr1 : n - 1 - c * 146097 = r1
  have b1 : 0 ≤ r1 ∧ r1 < 146097 := by omega
  have b2 := part3 b1.1 (n := 36524) (by omega) (by omega) _ rfl
  have b2' : r1 - min (r1 / 36524) 3 * 36524 < 36525 := by omega
  generalize min (r1 / 36524) 3 = ce at *
  generalize hr2 : r1 - ce * 36524 = r2 at *
  generalize hf : r2 / 1461 = f
  have b3 : 0 ≤ f ∧ f ≤ 24 ∧ 0 ≤ r2 - f * 1461 ∧ r2 - f * 1461 < 1461 ∧ (f = 24 → ce < 3 → r2 - f * 1461 < 1460) := by omega
  generalize hr3 : r2 - f * 1461 = r3 at *
  have b4 := part3 b3.2.2.1 (n := 365) (by omega) (by omega) _ rfl
  have b4' : r3 - min (r3 / 365) 3 * 365 < 366 := by omega
  generalize min (r3 / 365) 3 = g at *
  have s := stepC (400 * c + 100 * ce + 4 * f + g + 1)
  have k1 := firstC_at (c := c) b2.1 b2.2.1 b3.1 b3.2.1 b4.1 b4.2.1
  have k2 := leapC_at (c := c) b2.1 b2.2.1 b3.1 b3.2.1 b4.1 b4.2.1
  rw [s, k1, k2]
  clear s k1 k2 hf
  refine ⟨by omega, ?_⟩
  simp only [decide_eq_true_eq]
  split
  · omega
  · rename_i hh
    have : g < 3 ∨ (f = 24 ∧ ce < 3) := by
      by_cases g3 : g = 3
      · right
        by_cases f4 : f = 24
        · refine ⟨f4, ?_⟩
          have : ¬ ce = 3 := fun e => hh ⟨g3, fun _ => e⟩
          omega
        · exact absurd ⟨g3, fun e => absurd e f4⟩ hh
      · omega
    omega
def yearJ (n : Int) : Int :=
  let r := n + 1
  let f := r / 1461
  let r3 := r - f * 1461
  4 * f + min (r3 / 365) 3 + 1
theorem yearJ_in (n : Int) : firstJ (yearJ n) ≤ n ∧ n < firstJ (yearJ n + 1) := by
  unfold yearJ
  simp only
  unfold firstJ
  omega
/-! What the walks ask of the calendars. -/
theorem fl_neg {n d : Int} (hd : 0 < d) (h : (if 0 ≤ n then n % d else -(-n % d)) < 0) : (if 0 ≤ n then n / d else -(-n / d)) - 1 = n / d := by
  have b := Int.emod_nonneg n (by omega : d ≠ 0)
  by_cases h0 : 0 ≤ n
  · rw [if_pos h0] at h; omega
  · rw [if_neg h0] at h ⊢
    have c := Int.mul_ediv_add_emod (-n) d
    have e := Int.emod_lt_of_pos (-n) hd
    generalize -n / d = q at *
    generalize -n % d = r at *
    have k : n = (d - r) + d * (-q - 1) := by rw [Int.mul_sub, Int.mul_neg]; omega
    rw [k, Int.add_mul_ediv_left _ _ (by omega), Int.ediv_eq_zero_of_lt (by omega) (by omega)]
    omega
theorem fl_pos {n d : Int} (hd : 0 < d) (h : ¬ (if 0 ≤ n then n % d else -(-n % d)) < 0) : (if 0 ≤ n then n / d else -(-n / d)) = n / d := by
  by_cases h0 : 0 ≤ n
  · rw [if_pos h0]
  · rw [if_neg h0] at h ⊢
    have c := Int.mul_ediv_add_emod (-n) d
    have e := Int.emod_nonneg (-n) (by omega : d ≠ 0)
    have e2 : -n % d = 0 := by omega
    rw [e2, Int.add_zero] at c
    generalize -n / d = q at *
    have k : n = d * (-q) := by rw [Int.mul_neg]; omega
    rw [k, Int.mul_ediv_cancel_left _ (by omega)]
theorem fl_in {n d : Int} (hd : 0 < d) (h0 : -9223372036854775808 ≤ n) (h1 : n ≤ 9223372036854775807) : -9223372036854775808 ≤ n / d ∧ n / d ≤ 9223372036854775807 := by
  by_cases h : 0 ≤ n
  · have := Int.ediv_nonneg h (by omega : 0 ≤ d)
    have := Int.ediv_le_self (a := n) d h
    omega
  · have c := Int.mul_ediv_add_emod n d
    have e := Int.emod_lt_of_pos n hd
    have e0 := Int.emod_nonneg n (by omega : d ≠ 0)
    have hq : n / d < 0 := Int.ediv_neg_of_neg_of_pos (by omega) hd
    have : d * (n / d) ≤ 1 * (n / d) := Int.mul_le_mul_of_nonpos_right (by omega) (by omega)
    have k : n / d ≥ n := by
      by_cases h' : n / d < n
      · exfalso
        have h2 : n / d + 1 ≤ n := by omega
        have h3 : d * (n / d + 1) ≤ 1 * (n / d + 1) := Int.mul_le_mul_of_nonpos_right (by omega) (by omega)
        rw [Int.mul_add] at h3
        omega
      · omega
    omega
theorem mlen_2t {l : Bool} {m : Int} (h : m = 2) (hl : l = true) : 29 = mlen l m := by subst h; subst hl; rfl
theorem mlen_2t' {l : Bool} {m : Int} (h : m = 2) (hl : l = true) : mlen false m + 1 = mlen l m := by subst h; subst hl; rfl
theorem mlen_ne2 {l : Bool} {m : Int} (h : m ≠ 2) : mlen false m = mlen l m := by unfold mlen; simp only [if_neg h]
theorem mlen_2f {l : Bool} {m : Int} (hl : l = false) : mlen false m = mlen l m := by rw [hl]
theorem mlen_in {l : Bool} {m : Int} (h : 1 ≤ mlen l m) : 1 ≤ m ∧ m ≤ 12 := by
  by_cases h1 : m < 1
  · rw [mlen_none l (.inl h1)] at h; omega
  · by_cases h2 : 12 < m
    · rw [mlen_none l (.inr h2)] at h; omega
    · omega
instance (l : Bool) (m d : Int) : Decidable (Val l m d) := by unfold Val; infer_instance
def mayB (n : Int) : Bool := decide (-3000000 ≤ n ∧ n ≤ 3000000)
/-- A date's day, and the error. -/
def fixN (c : Cal) (y m d : Int) : Int := if y < -9000 ∨ 9000 < y then 0 else if Val (c.leap y) m d then (if mayB (c.day y m d) = true then c.day y m d else 0) else 0
def fixE (c : Cal) (y m d : Int) : Int := if y < -9000 ∨ 9000 < y then 2 else if Val (c.leap y) m d then (if mayB (c.day y m d) = true then 0 else 2) else 4
theorem fix_year {c : Cal} {y m d : Int} (h : y < -9000 ∨ 9000 < y) : 0 = fixN c y m d ∧ 2 = fixE c y m d := by unfold fixN fixE; rw [if_pos h, if_pos h]; exact ⟨rfl, rfl⟩
theorem fix_bad {c : Cal} {y m d : Int} (h : ¬ (y < -9000 ∨ 9000 < y)) (k : ¬ Val (c.leap y) m d) : 0 = fixN c y m d ∧ 4 = fixE c y m d := by unfold fixN fixE; rw [if_neg h, if_neg h, if_neg k, if_neg k]; exact ⟨rfl, rfl⟩
theorem fix_far {c : Cal} {y m d : Int} (h : ¬ (y < -9000 ∨ 9000 < y)) (k : Val (c.leap y) m d) (f : mayB (c.day y m d) = false) : 0 = fixN c y m d ∧ 2 = fixE c y m d := by unfold fixN fixE; rw [if_neg h, if_neg h, if_pos k, if_pos k, f]; exact ⟨rfl, rfl⟩
theorem fix_ok {c : Cal} {y m d : Int} (h : ¬ (y < -9000 ∨ 9000 < y)) (k : Val (c.leap y) m d) (f : mayB (c.day y m d) = true) : c.day y m d = fixN c y m d ∧ 0 = fixE c y m d := by unfold fixN fixE; rw [if_neg h, if_neg h, if_pos k, if_pos k, f]; exact ⟨rfl, rfl⟩
theorem mayB_t {n : Int} (h1 : -3000000 ≤ n) (h2 : n ≤ 3000000) : mayB n = true := decide_eq_true ⟨h1, h2⟩
theorem mayB_f {n : Int} (h : n < -3000000 ∨ 3000000 < n) : mayB n = false := decide_eq_false (by omega)
theorem mayB_of {n : Int} (h : mayB n = true) : -3000000 ≤ n ∧ n ≤ 3000000 := of_decide_eq_true h
theorem mayB_off {n : Int} (h : mayB n = false) : n < -3000000 ∨ 3000000 < n := by have := of_decide_eq_false h; omega
theorem firstC_bd {y : Int} (h1 : -20000 ≤ y) (h2 : y ≤ 20000) : -8000000 ≤ firstC y ∧ firstC y ≤ 8000000 := by unfold firstC; omega
theorem firstJ_bd {y : Int} (h1 : -20000 ≤ y) (h2 : y ≤ 20000) : -8000000 ≤ firstJ y ∧ firstJ y ≤ 8000000 := by unfold firstJ; omega
theorem yearC_bd {n : Int} (h1 : -3000000 ≤ n) (h2 : n ≤ 3000000) : -8214 ≤ yearC n ∧ yearC n ≤ 8215 := by
  have h := yearC_in n
  constructor
  · by_cases k : yearC n + 1 ≤ -8214
    · have := (calC.first_le k).2
      have e : calC.first (-8214) = -3000466 := by decide +kernel
      have e2 : calC.first (yearC n + 1) = firstC (yearC n + 1) := rfl
      have := (calC.first_le k).1
      omega
    · omega
  · by_cases k : 8216 ≤ yearC n
    · have := (calC.first_le k).1
      have e : calC.first 8216 = 3000467 := by decide +kernel
      have e2 : calC.first (yearC n) = firstC (yearC n) := rfl
      omega
    · omega
theorem yearJ_bd {n : Int} (h1 : -3000000 ≤ n) (h2 : n ≤ 3000000) : -8214 ≤ yearJ n ∧ yearJ n ≤ 8215 := by
  unfold yearJ; simp only; omega
/-! What the laws ask. -/
theorem val_bd {l : Bool} {m d : Int} (h : Val l m d) : 1 ≤ m ∧ m ≤ 12 ∧ 1 ≤ d ∧ d ≤ 31 := by
  obtain ⟨h1, h2, h3, h4⟩ := h
  have := mlen_bd l m
  omega
theorem yrC {y m d n : Int} (h : Val (calC.leap y) m d) (e : calC.day y m d = n) (h1 : -3100000 ≤ n) (h2 : n ≤ 3100000) : -8500 ≤ y ∧ y ≤ 8500 := by
  have i := calC.day_in h
  rw [e] at i
  have e1 : calC.first (-8500) = -3104926 := by decide +kernel
  have e2 : calC.first 8501 = 3104562 := by decide +kernel
  constructor
  · by_cases k : y + 1 ≤ -8500
    · have := (calC.first_le k).1; omega
    · omega
  · by_cases k : 8501 ≤ y
    · have := (calC.first_le k).1; omega
    · omega
theorem yrJ {y m d n : Int} (h : Val (calJ.leap y) m d) (e : calJ.day y m d = n) (h1 : -3100000 ≤ n) (h2 : n ≤ 3100000) : -8500 ≤ y ∧ y ≤ 8500 := by
  have i := calJ.day_in h
  rw [e] at i
  have e1 : calJ.first (-8500) = -3104992 := by decide +kernel
  have e2 : calJ.first 8501 = 3104624 := by decide +kernel
  constructor
  · by_cases k : y + 1 ≤ -8500
    · have := (calJ.first_le k).1; omega
    · omega
  · by_cases k : 8501 ≤ y
    · have := (calJ.first_le k).1; omega
    · omega
theorem fix_good {c : Cal} {y m d n : Int} (h : Val (c.leap y) m d) (e : c.day y m d = n) (h1 : -9000 ≤ y) (h2 : y ≤ 9000) (h3 : -3000000 ≤ n) (h4 : n ≤ 3000000) : fixN c y m d = n ∧ fixE c y m d = 0 := by
  have := fix_ok (c := c) (y := y) (m := m) (d := d) (by omega) h (by rw [e]; exact mayB_t h3 h4)
  rw [e] at this
  exact ⟨this.1.symm, this.2.symm⟩
theorem next_eq {c : Cal} {y m d y' m' d' n : Int} (h : Val (c.leap y) m d) (e : c.day y m d = n) (h' : Val (c.leap y') m' d') (e' : c.day y' m' d' = n + 1) : y' = (c.next y m d).1 ∧ m' = (c.next y m d).2.1 ∧ d' = (c.next y m d).2.2 := by
  have k := c.next_val h
  exact c.day_inj h' k.1 (by rw [k.2, e, e'])
theorem leapC_400 (y : Int) : leapC (y + 400) = leapC y := by unfold leapC; exact decide_eq_decide.2 (by omega)
theorem firstC_400 (y : Int) : firstC (y + 400) = firstC y + 146097 := by unfold firstC; omega
theorem leapJ_4 (y : Int) : leapJ (y + 4) = leapJ y := by unfold leapJ; exact decide_eq_decide.2 (by omega)
theorem firstJ_4 (y : Int) : firstJ (y + 4) = firstJ y + 1461 := by unfold firstJ; omega
theorem fourC {y m d y' m' d' n : Int} (h : Val (calC.leap y) m d) (e : calC.day y m d = n) (h' : Val (calC.leap y') m' d') (e' : calC.day y' m' d' = n + 146097) : y' = y + 400 ∧ m' = m ∧ d' = d := by
  refine calC.day_inj h' (by show Val (leapC (y + 400)) m d; rw [leapC_400]; exact h) ?_
  rw [e', ← e]
  show firstC y + cum (leapC y) m + d - 1 + 146097 = firstC (y + 400) + cum (leapC (y + 400)) m + d - 1
  rw [leapC_400, firstC_400]; omega
theorem fourJ {y m d y' m' d' n : Int} (h : Val (calJ.leap y) m d) (e : calJ.day y m d = n) (h' : Val (calJ.leap y') m' d') (e' : calJ.day y' m' d' = n + 1461) : y' = y + 4 ∧ m' = m ∧ d' = d := by
  refine calJ.day_inj h' (by show Val (leapJ (y + 4)) m d; rw [leapJ_4]; exact h) ?_
  rw [e', ← e]
  show firstJ y + cum (leapJ y) m + d - 1 + 1461 = firstJ (y + 4) + cum (leapJ (y + 4)) m + d - 1
  rw [leapJ_4, firstJ_4]; omega
theorem clipN {c : Cal} (y m d : Int) : fixN c y m d = fixN c (min (max y (-9001)) 9001) m d ∧ fixE c y m d = fixE c (min (max y (-9001)) 9001) m d := by
  by_cases h : y < -9000 ∨ 9000 < y
  · have h' : min (max y (-9001)) 9001 < -9000 ∨ 9000 < min (max y (-9001)) 9001 := by omega
    have a := fix_year (c := c) (m := m) (d := d) h
    have b := fix_year (c := c) (m := m) (d := d) h'
    exact ⟨a.1.symm.trans b.1, a.2.symm.trans b.2⟩
  · rw [show min (max y (-9001)) 9001 = y by omega]; exact ⟨rfl, rfl⟩
theorem fl_up {n d : Int} (hd : 0 < d) : -((-n + d - 1) / d) = n / d := by
  have c := Int.mul_ediv_add_emod n d
  have e := Int.emod_lt_of_pos n hd
  have e0 := Int.emod_nonneg n (by omega : d ≠ 0)
  generalize n / d = q at *
  generalize n % d = r at *
  have k : -n + d - 1 = (d - 1 - r) + d * (-q) := by rw [Int.mul_neg]; omega
  rw [k, Int.add_mul_ediv_left _ _ (by omega), Int.ediv_eq_zero_of_lt (by omega) (by omega)]
  omega
theorem cum_mar (l : Bool) : cum l 3 = 59 + (if l then 1 else 0) := by cases l <;> decide
theorem mar {y : Int} (h1 : -8000 < y) (h2 : y < 8000) : fixN calC y 3 1 = firstC y + cum (leapC y) 3 ∧ fixE calC y 3 1 = 0 ∧ fixN calJ y 3 1 = firstJ y + cum (leapJ y) 3 ∧ fixE calJ y 3 1 = 0 := by
  have b1 := firstC_bd (y := y) (by omega) (by omega)
  have c1 := cum_bd (leapC y) (m := 3) (by omega) (by omega)
  have c2 := cum_bd (leapJ y) (m := 3) (by omega) (by omega)
  have a1 : -2930000 ≤ firstC y ∧ firstC y ≤ 2930000 := by unfold firstC; omega
  have a2 : -2930000 ≤ firstJ y ∧ firstJ y ≤ 2930000 := by unfold firstJ; omega
  have v1 : Val (calC.leap y) 3 1 := ⟨by omega, by omega, by omega, by have := mlen_pos (calC.leap y) (m := 3) (by omega) (by omega); omega⟩
  have v2 : Val (calJ.leap y) 3 1 := ⟨by omega, by omega, by omega, by have := mlen_pos (calJ.leap y) (m := 3) (by omega) (by omega); omega⟩
  have e1 : calC.day y 3 1 = firstC y + cum (leapC y) 3 := by show firstC y + cum (leapC y) 3 + 1 - 1 = _; omega
  have e2 : calJ.day y 3 1 = firstJ y + cum (leapJ y) 3 := by show firstJ y + cum (leapJ y) 3 + 1 - 1 = _; omega
  have g1 := fix_good v1 e1 (by omega) (by omega) (by omega) (by omega)
  have g2 := fix_good v2 e2 (by omega) (by omega) (by omega) (by omega)
  exact ⟨g1.1, g1.2, g2.1, g2.2⟩
theorem apart {y : Int} (h1 : -8000 < y) (h2 : y < 8000) : fixN calJ y 3 1 - fixN calC y 3 1 = y / 100 - y / 400 - 2 := by
  have m := mar h1 h2
  rw [m.1, m.2.2.1, cum_mar, cum_mar]
  unfold firstC firstJ leapC leapJ
  simp only [decide_eq_true_eq]
  split <;> split <;> omega
end Go.Proofs.YtcgbllbhagijjaaDoor
