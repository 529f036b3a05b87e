/- EnI CalM CvA JuA -/
import Derived.Test.YtcgbllbhagijjaaDoorGO

/- That functions of layers 7 and 8 are entered. -/
namespace Go.Proofs.YtcgbllbhagijjaaDoor
open Go.RowKit
set_option maxRecDepth 100000
set_option linter.unusedVariables false

theorem en42 : (Tryd.f42.name == "runtime.NumGoroutine") = false ∧ Tryd.f42.body.isNone = false := ⟨by decide +kernel, by kernel_rfl⟩
theorem en24 : (Tryd.f24.name == "runtime.NumGoroutine") = false ∧ Tryd.f24.body.isNone = false := ⟨by decide +kernel, by kernel_rfl⟩
theorem en18 : (Tryd.f18.name == "runtime.NumGoroutine") = false ∧ Tryd.f18.body.isNone = false := ⟨by decide +kernel, by kernel_rfl⟩
theorem en20 : (Tryd.f20.name == "runtime.NumGoroutine") = false ∧ Tryd.f20.body.isNone = false := ⟨by decide +kernel, by kernel_rfl⟩
theorem en38 : (Tryd.f38.name == "runtime.NumGoroutine") = false ∧ Tryd.f38.body.isNone = false := ⟨by decide +kernel, by kernel_rfl⟩
theorem en40 : (Tryd.f40.name == "runtime.NumGoroutine") = false ∧ Tryd.f40.body.isNone = false := ⟨by decide +kernel, by kernel_rfl⟩
theorem en17 : (Tryd.f17.name == "runtime.NumGoroutine") = false ∧ Tryd.f17.body.isNone = false := ⟨by decide +kernel, by kernel_rfl⟩
theorem en39 : (Tryd.f39.name == "runtime.NumGoroutine") = false ∧ Tryd.f39.body.isNone = false := ⟨by decide +kernel, by kernel_rfl⟩
theorem en15 : (Tryd.f15.name == "runtime.NumGoroutine") = false ∧ Tryd.f15.body.isNone = false := ⟨by decide +kernel, by kernel_rfl⟩
theorem en19 : (Tryd.f19.name == "runtime.NumGoroutine") = false ∧ Tryd.f19.body.isNone = false := ⟨by decide +kernel, by kernel_rfl⟩
theorem en21 : (Tryd.f21.name == "runtime.NumGoroutine") = false ∧ Tryd.f21.body.isNone = false := ⟨by decide +kernel, by kernel_rfl⟩
theorem en49 : (Tryd.f49.name == "runtime.NumGoroutine") = false ∧ Tryd.f49.body.isNone = false := ⟨by decide +kernel, by kernel_rfl⟩
theorem en41 : (Tryd.f41.name == "runtime.NumGoroutine") = false ∧ Tryd.f41.body.isNone = false := ⟨by decide +kernel, by kernel_rfl⟩
theorem en16 : (Tryd.f16.name == "runtime.NumGoroutine") = false ∧ Tryd.f16.body.isNone = false := ⟨by decide +kernel, by kernel_rfl⟩
theorem en23 : (Tryd.f23.name == "runtime.NumGoroutine") = false ∧ Tryd.f23.body.isNone = false := ⟨by decide +kernel, by kernel_rfl⟩
theorem en14 : (Tryd.f14.name == "runtime.NumGoroutine") = false ∧ Tryd.f14.body.isNone = false := ⟨by decide +kernel, by kernel_rfl⟩
theorem en22 : (Tryd.f22.name == "runtime.NumGoroutine") = false ∧ Tryd.f22.body.isNone = false := ⟨by decide +kernel, by kernel_rfl⟩
theorem en50 : (Tryd.f50.name == "runtime.NumGoroutine") = false ∧ Tryd.f50.body.isNone = false := ⟨by decide +kernel, by kernel_rfl⟩
theorem en29 : (Tryd.f29.name == "runtime.NumGoroutine") = false ∧ Tryd.f29.body.isNone = false := ⟨by decide +kernel, by kernel_rfl⟩
theorem en31 : (Tryd.f31.name == "runtime.NumGoroutine") = false ∧ Tryd.f31.body.isNone = false := ⟨by decide +kernel, by kernel_rfl⟩
theorem en43 : (Tryd.f43.name == "runtime.NumGoroutine") = false ∧ Tryd.f43.body.isNone = false := ⟨by decide +kernel, by kernel_rfl⟩
theorem en45 : (Tryd.f45.name == "runtime.NumGoroutine") = false ∧ Tryd.f45.body.isNone = false := ⟨by decide +kernel, by kernel_rfl⟩
theorem en28 : (Tryd.f28.name == "runtime.NumGoroutine") = false ∧ Tryd.f28.body.isNone = false := ⟨by decide +kernel, by kernel_rfl⟩
theorem en44 : (Tryd.f44.name == "runtime.NumGoroutine") = false ∧ Tryd.f44.body.isNone = false := ⟨by decide +kernel, by kernel_rfl⟩
theorem en26 : (Tryd.f26.name == "runtime.NumGoroutine") = false ∧ Tryd.f26.body.isNone = false := ⟨by decide +kernel, by kernel_rfl⟩
theorem en30 : (Tryd.f30.name == "runtime.NumGoroutine") = false ∧ Tryd.f30.body.isNone = false := ⟨by decide +kernel, by kernel_rfl⟩
theorem en32 : (Tryd.f32.name == "runtime.NumGoroutine") = false ∧ Tryd.f32.body.isNone = false := ⟨by decide +kernel, by kernel_rfl⟩
theorem en51 : (Tryd.f51.name == "runtime.NumGoroutine") = false ∧ Tryd.f51.body.isNone = false := ⟨by decide +kernel, by kernel_rfl⟩
theorem en46 : (Tryd.f46.name == "runtime.NumGoroutine") = false ∧ Tryd.f46.body.isNone = false := ⟨by decide +kernel, by kernel_rfl⟩
theorem en27 : (Tryd.f27.name == "runtime.NumGoroutine") = false ∧ Tryd.f27.body.isNone = false := ⟨by decide +kernel, by kernel_rfl⟩
theorem en34 : (Tryd.f34.name == "runtime.NumGoroutine") = false ∧ Tryd.f34.body.isNone = false := ⟨by decide +kernel, by kernel_rfl⟩
theorem en25 : (Tryd.f25.name == "runtime.NumGoroutine") = false ∧ Tryd.f25.body.isNone = false := ⟨by decide +kernel, by kernel_rfl⟩
theorem en33 : (Tryd.f33.name == "runtime.NumGoroutine") = false ∧ Tryd.f33.body.isNone = false := ⟨by decide +kernel, by kernel_rfl⟩
theorem en35 : (Tryd.f35.name == "runtime.NumGoroutine") = false ∧ Tryd.f35.body.isNone = false := ⟨by decide +kernel, by kernel_rfl⟩
theorem en37 : (Tryd.f37.name == "runtime.NumGoroutine") = false ∧ Tryd.f37.body.isNone = false := ⟨by decide +kernel, by kernel_rfl⟩
end Go.Proofs.YtcgbllbhagijjaaDoor

/- The Gregorian and the Julian calendar. -/
namespace Go.Proofs.YtcgbllbhagijjaaDoor
open Go.RowKit
set_option maxRecDepth 100000
set_option linter.unusedVariables false

/-- A calendar: its years' first days, and which are leap. -/
structure Cal where
  first : Int → Int
  leap : Int → Bool
  step : ∀ y, first (y + 1) = first y + 365 + (if leap y then 1 else 0)
def mlen (l : Bool) (m : Int) : Int :=
  if m < 1 then 0 else if 12 < m then 0 else if m = 2 then (if l then 29 else 28) else if m = 4 then 30 else if m = 6 then 30 else if m = 9 then 30 else if m = 11 then 30 else 31
def cum (l : Bool) (m : Int) : Int := (367 * m - 362) / 12 + (if m ≤ 2 then 0 else if l then -1 else -2)
theorem cum_one (l : Bool) : cum l 1 = 0 := by cases l <;> decide
theorem cum_end (l : Bool) : cum l 13 = 365 + (if l then 1 else 0) := by cases l <;> decide
theorem months {m : Int} (h1 : 1 ≤ m) (h2 : m ≤ 12) : m = 1 ∨ m = 2 ∨ m = 3 ∨ m = 4 ∨ m = 5 ∨ m = 6 ∨ m = 7 ∨ m = 8 ∨ m = 9 ∨ m = 10 ∨ m = 11 ∨ m = 12 := by omega
theorem cum_step (l : Bool) {m : Int} (h1 : 1 ≤ m) (h2 : m ≤ 12) : cum l (m + 1) = cum l m + mlen l m := by
  rcases months h1 h2 with rfl | rfl | rfl | rfl | rfl | rfl | rfl | rfl | rfl | rfl | rfl | rfl <;> cases l <;> decide
theorem mlen_pos (l : Bool) {m : Int} (h1 : 1 ≤ m) (h2 : m ≤ 12) : 28 ≤ mlen l m ∧ mlen l m ≤ 31 := by
  rcases months h1 h2 with rfl | rfl | rfl | rfl | rfl | rfl | rfl | rfl | rfl | rfl | rfl | rfl <;> cases l <;> decide
theorem mlen_bd (l : Bool) (m : Int) : 0 ≤ mlen l m ∧ mlen l m ≤ 31 := by
  unfold mlen
  repeat' split
  all_goals omega
theorem mlen_none (l : Bool) {m : Int} (h : m < 1 ∨ 12 < m) : mlen l m = 0 := by
  unfold mlen
  split
  · rfl
  · split
    · rfl
    · omega
theorem cum_mono (l : Bool) {m : Int} (h1 : 1 ≤ m) : ∀ k : Nat, m + k ≤ 13 → cum l m ≤ cum l (m + k)
  | 0, _ => by simp
  | k + 1, h => by
    have ih := cum_mono l h1 k (by omega)
    have hs := cum_step l (m := m + k) (by omega) (by omega)
    have hp := mlen_bd l (m + k)
    have e : m + ((k + 1 : Nat) : Int) = m + k + 1 := by omega
    rw [e, hs]; omega
theorem cum_le (l : Bool) {m n : Int} (h1 : 1 ≤ m) (h : m ≤ n) (h2 : n ≤ 13) : cum l m ≤ cum l n := by
  have := cum_mono l h1 (n - m).toNat (by omega)
  rwa [show m + ((n - m).toNat : Int) = n by omega] at this
theorem cum_bd (l : Bool) {m : Int} (h1 : 1 ≤ m) (h2 : m ≤ 13) : 0 ≤ cum l m ∧ cum l m ≤ 366 := by
  have a := cum_le l (by omega) h1 h2
  have b := cum_le l h1 h2 (by omega)
  rw [cum_one] at a
  rw [cum_end] at b
  refine ⟨a, Int.le_trans b ?_⟩
  split <;> omega
def Val (l : Bool) (m d : Int) : Prop := 1 ≤ m ∧ m ≤ 12 ∧ 1 ≤ d ∧ d ≤ mlen l m
namespace Cal
variable (c : Cal)
def day (y m d : Int) : Int := c.first y + cum (c.leap y) m + d - 1
theorem first_mono (y : Int) : ∀ k : Nat, c.first y + 365 * k ≤ c.first (y + k)
  | 0 => by simp
  | k + 1 => by
    have ih := first_mono y k
    have hs := c.step (y + k)
    have e : y + ((k + 1 : Nat) : Int) = y + k + 1 := by omega
    rw [e, hs]
    split <;> omega
theorem first_top (y : Int) : ∀ k : Nat, c.first (y + k) ≤ c.first y + 366 * k
  | 0 => by simp
  | k + 1 => by
    have ih := first_top y k
    have hs := c.step (y + k)
    have e : y + ((k + 1 : Nat) : Int) = y + k + 1 := by omega
    rw [e, hs]
    split <;> omega
theorem first_le {y z : Int} (h : y ≤ z) : c.first y + 365 * (z - y) ≤ c.first z ∧ c.first z ≤ c.first y + 366 * (z - y) := by
  have h1 := c.first_mono y (z - y).toNat
  have h2 := c.first_top y (z - y).toNat
  rw [show y + ((z - y).toNat : Int) = z by omega] at h1 h2
  rw [show (((z - y).toNat : Nat) : Int) = z - y by omega] at h1 h2
  exact ⟨h1, h2⟩
theorem day_in {y m d : Int} (h : Val (c.leap y) m d) : c.first y ≤ c.day y m d ∧ c.day y m d < c.first (y + 1) := by
  obtain ⟨h1, h2, h3, h4⟩ := h
  have a := cum_bd (c.leap y) h1 (by omega)
  have b := cum_step (c.leap y) h1 h2
  have e := cum_le (c.leap y) (m := m + 1) (n := 13) (by omega) (by omega) (by omega)
  rw [cum_end] at e
  have s := c.step y
  unfold day
  constructor <;> omega
theorem year_eq {y z n : Int} (h1 : c.first y ≤ n) (h2 : n < c.first (y + 1)) (h3 : c.first z ≤ n) (h4 : n < c.first (z + 1)) : y = z := by
  by_cases h : y < z
  · have := (c.first_le (y := y + 1) (z := z) (by omega)).1; omega
  · by_cases h' : z < y
    · have := (c.first_le (y := z + 1) (z := y) (by omega)).1; omega
    · omega
theorem month_eq {l : Bool} {m n r d e : Int} (h : Val l m d) (k : Val l n e) (h1 : r = cum l m + d - 1) (h2 : r = cum l n + e - 1) : m = n ∧ d = e := by
  obtain ⟨a1, a2, a3, a4⟩ := h
  obtain ⟨b1, b2, b3, b4⟩ := k
  have s := cum_step l a1 a2
  have t := cum_step l b1 b2
  by_cases h : m < n
  · have := cum_le l (m := m + 1) (n := n) (by omega) (by omega) (by omega); omega
  · by_cases h' : n < m
    · have := cum_le l (m := n + 1) (n := m) (by omega) (by omega) (by omega); omega
    · have : m = n := by omega
      subst this
      exact ⟨rfl, by omega⟩
theorem day_inj {y m d y' m' d' : Int} (h : Val (c.leap y) m d) (h' : Val (c.leap y') m' d') (e : c.day y m d = c.day y' m' d') : y = y' ∧ m = m' ∧ d = d' := by
  have a := c.day_in h
  have b := c.day_in h'
  rw [← e] at b
  obtain rfl := c.year_eq a.1 a.2 b.1 b.2
  unfold day at e
  have := month_eq h h' (r := cum (c.leap y) m + d - 1) rfl (by omega)
  exact ⟨rfl, this⟩
/-- The date behind one. -/
def next (y m d : Int) : Int × Int × Int :=
  if d < mlen (c.leap y) m then (y, m, d + 1) else if m < 12 then (y, m + 1, 1) else (y + 1, 1, 1)
theorem next_val {y m d : Int} (h : Val (c.leap y) m d) : Val (c.leap (c.next y m d).1) (c.next y m d).2.1 (c.next y m d).2.2 ∧ c.day (c.next y m d).1 (c.next y m d).2.1 (c.next y m d).2.2 = c.day y m d + 1 := by
  obtain ⟨h1, h2, h3, h4⟩ := h
  unfold next
  split
  · refine ⟨⟨h1, h2, by simp only; omega, by simp only; omega⟩, ?_⟩
    simp only [day]; omega
  · split
    · have p := mlen_pos (c.leap y) (m := m + 1) (by omega) (by omega)
      refine ⟨⟨by simp only; omega, by simp only; omega, by simp only; omega, by simp only; omega⟩, ?_⟩
      have s := cum_step (c.leap y) h1 h2
      simp only [day]; omega
    · have p := mlen_pos (c.leap (y + 1)) (m := 1) (by omega) (by omega)
      refine ⟨⟨by simp only; omega, by simp only; omega, by simp only; omega, by simp only; omega⟩, ?_⟩
      have s := cum_step (c.leap y) h1 h2
      have e : m + 1 = 13 := by omega
      rw [e, cum_end] at s
      have t := c.step y
      simp only [day, cum_one]; omega
end Cal
def leapC (y : Int) : Bool := decide (y % 400 = 0 ∨ y % 4 = 0 ∧ y % 100 ≠ 0)
def leapJ (y : Int) : Bool := decide (y % 4 = 0)
def firstC (y : Int) : Int := (y - 1) * 365 + (y - 1) / 4 - (y - 1) / 100 + (y - 1) / 400 + 1
def firstJ (y : Int) : Int := (y - 1) * 365 + (y - 1) / 4 - 1
theorem stepC (y : Int) : firstC (y + 1) = firstC y + 365 + (if leapC y then 1 else 0) := by
  unfold firstC leapC
  simp only [decide_eq_true_eq]
  split <;> omega
theorem stepJ (y : Int) : firstJ (y + 1) = firstJ y + 365 + (if leapJ y then 1 else 0) := by
  unfold firstJ leapJ
  simp only [decide_eq_true_eq]
  split <;> omega
def calC : Cal := ⟨firstC, leapC, stepC⟩
def calJ : Cal := ⟨firstJ, leapJ, stepJ⟩
/-- In which year a day lies. -/
def yearC (n : Int) : Int :=
  let r := n - 1
  let c := r / 146097
  let r1 := r - c * 146097
  let ce := min (r1 / 36524) 3
  let r2 := r1 - ce * 36524
  let f := r2 / 1461
  let r3 := r2 - f * 1461
  400 * c + 100 * ce + 4 * f + min (r3 / 365) 3 + 1
theorem firstC_at {c ce f g : Int} (h1 : 0 ≤ ce) (h2 : ce ≤ 3) (h3 : 0 ≤ f) (h4 : f ≤ 24) (h5 : 0 ≤ g) (h6 : g ≤ 3) :
    firstC (400 * c + 100 * ce + 4 * f + g + 1) = c * 146097 + ce * 36524 + f * 1461 + g * 365 + 1 := by
  have q4 : (400 * c + 100 * ce + 4 * f + g) / 4 = 100 * c + 25 * ce + f := by omega
  have q100 : (400 * c + 100 * ce + 4 * f + g) / 100 = 4 * c + ce := by omega
  have q400 : (400 * c + 100 * ce + 4 * f + g) / 400 = c := by omega
  unfold firstC
  rw [show 400 * c + 100 * ce + 4 * f + g + 1 - 1 = 400 * c + 100 * ce + 4 * f + g by omega, q4, q100, q400]
  omega
theorem leapC_at {c ce f g : Int} (h1 : 0 ≤ ce) (h2 : ce ≤ 3) (h3 : 0 ≤ f) (h4 : f ≤ 24) (h5 : 0 ≤ g) (h6 : g ≤ 3) :
    leapC (400 * c + 100 * ce + 4 * f + g + 1) = decide (g = 3 ∧ (f = 24 → ce = 3)) := by
  unfold leapC
  apply decide_eq_decide.2
  constructor
  · intro h; refine ⟨by omega, by omega⟩
  · rintro ⟨a, b⟩
    by_cases e : f = 24
    · have := b e; left; omega
    · right; constructor <;> omega
theorem part3 {r n : Int} (h1 : 0 ≤ r) (h2 : r ≤ 4 * n) (hn : 0 < n) (q : Int) (hq : q = min (r / n) 3) : 0 ≤ q ∧ q ≤ 3 ∧ 0 ≤ r - q * n ∧ (q < 3 → r - q * n < n) ∧ r - q * n ≤ r := by
  have a : 0 ≤ r / n := Int.ediv_nonneg h1 (by omega)
  have b := Int.mul_ediv_add_emod r n
  have c := Int.emod_nonneg r (by omega : n ≠ 0)
  have d := Int.emod_lt_of_pos r hn
  have q0 : 0 ≤ q := by omega
  have q3 : q ≤ 3 := by omega
  have qn : 0 ≤ q * n := Int.mul_nonneg q0 (by omega)
  by_cases h : r / n ≤ 3
  · have this : q = r / n := by omega
    have e2 : q * n = n * (r / n) := by rw [this, Int.mul_comm]
    refine ⟨by omega, by omega, by omega, by omega, by omega⟩
  · have e : q = 3 := by omega
    subst e
    have : 3 * n ≤ n * (r / n) := by rw [Int.mul_comm 3 n]; exact Int.mul_le_mul_of_nonneg_left (by omega) (by omega)
    refine ⟨by omega, by omega, by omega, by omega, by omega⟩
theorem yearC_in (n : Int) : firstC (yearC n) ≤ n ∧ n < firstC (yearC n + 1) := by
  unfold yearC
  simp only
  generalize hc : (n - 1) / 146097 = c
  generalize hr1 : n - 1 - c * 146097 = r1
  have b1 : 0 ≤ r1 ∧ r1 < 146097 := by omega
  have b2 := part3 b1.1 (n := 36524) (by omega) (by omega) _ rfl
  have b2' : r1 - min (r1 / 36524) 3 * 36524 < 36525 := by omega
  generalize min (r1 / 36524) 3 = ce at *
  generalize hr2 : r1 - ce * 36524 = r2 at *
  generalize hf : r2 / 1461 = f
  have b3 : 0 ≤ f ∧ f ≤ 24 ∧ 0 ≤ r2 - f * 1461 ∧ r2 - f * 1461 < 1461 ∧ (f = 24 → ce < 3 → r2 - f * 1461 < 1460) := by omega
  generalize hr3 : r2 - f * 1461 = r3 at *
  have b4 := part3 b3.2.2.1 (n := 365) (by omega) (by omega) _ rfl
  have b4' : r3 - min (r3 / 365) 3 * 365 < 366 := by omega
  generalize min (r3 / 365) 3 = g at *
  have s := stepC (400 * c + 100 * ce + 4 * f + g + 1)
  have k1 := firstC_at (c := c) b2.1 b2.2.1 b3.1 b3.2.1 b4.1 b4.2.1
  have k2 := leapC_at (c := c) b2.1 b2.2.1 b3.1 b3.2.1 b4.1 b4.2.1
  rw [s, k1, k2]
  clear s k1 k2 hf
  refine ⟨by omega, ?_⟩
  simp only [decide_eq_true_eq]
  split
  · omega
  · rename_i hh
    have : g < 3 ∨ (f = 24 ∧ ce < 3) := by
      by_cases g3 : g = 3
      · right
        by_cases f4 : f = 24
        · refine ⟨f4, ?_⟩
          have : ¬ ce = 3 := fun e => hh ⟨g3, fun _ => e⟩
          omega
        · exact absurd ⟨g3, fun e => absurd e f4⟩ hh
      · omega
    omega
def yearJ (n : Int) : Int :=
  let r := n + 1
  let f := r / 1461
  let r3 := r - f * 1461
  4 * f + min (r3 / 365) 3 + 1
theorem yearJ_in (n : Int) : firstJ (yearJ n) ≤ n ∧ n < firstJ (yearJ n + 1) := by
  unfold yearJ
  simp only
  unfold firstJ
  omega
/-! What the walks ask of the calendars. -/
theorem fl_neg {n d : Int} (hd : 0 < d) (h : (if 0 ≤ n then n % d else -(-n % d)) < 0) : (if 0 ≤ n then n / d else -(-n / d)) - 1 = n / d := by
  have b := Int.emod_nonneg n (by omega : d ≠ 0)
  by_cases h0 : 0 ≤ n
  · rw [if_pos h0] at h; omega
  · rw [if_neg h0] at h ⊢
    have c := Int.mul_ediv_add_emod (-n) d
    have e := Int.emod_lt_of_pos (-n) hd
    generalize -n / d = q at *
    generalize -n % d = r at *
    have k : n = (d - r) + d * (-q - 1) := by rw [Int.mul_sub, Int.mul_neg]; omega
    rw [k, Int.add_mul_ediv_left _ _ (by omega), Int.ediv_eq_zero_of_lt (by omega) (by omega)]
    omega
theorem fl_pos {n d : Int} (hd : 0 < d) (h : ¬ (if 0 ≤ n then n % d else -(-n % d)) < 0) : (if 0 ≤ n then n / d else -(-n / d)) = n / d := by
  by_cases h0 : 0 ≤ n
  · rw [if_pos h0]
  · rw [if_neg h0] at h ⊢
    have c := Int.mul_ediv_add_emod (-n) d
    have e := Int.emod_nonneg (-n) (by omega : d ≠ 0)
    have e2 : -n % d = 0 := by omega
    rw [e2, Int.add_zero] at c
    generalize -n / d = q at *
    have k : n = d * (-q) := by rw [Int.mul_neg]; omega
    rw [k, Int.mul_ediv_cancel_left _ (by omega)]
theorem fl_in {n d : Int} (hd : 0 < d) (h0 : -9223372036854775808 ≤ n) (h1 : n ≤ 9223372036854775807) : -9223372036854775808 ≤ n / d ∧ n / d ≤ 9223372036854775807 := by
  by_cases h : 0 ≤ n
  · have := Int.ediv_nonneg h (by omega : 0 ≤ d)
    have := Int.ediv_le_self (a := n) d h
    omega
  · have c := Int.mul_ediv_add_emod n d
    have e := Int.emod_lt_of_pos n hd
    have e0 := Int.emod_nonneg n (by omega : d ≠ 0)
    have hq : n / d < 0 := Int.ediv_neg_of_neg_of_pos (by omega) hd
    have : d * (n / d) ≤ 1 * (n / d) := Int.mul_le_mul_of_nonpos_right (by omega) (by omega)
    have k : n / d ≥ n := by
      by_cases h' : n / d < n
      · exfalso
        have h2 : n / d + 1 ≤ n := by omega
        have h3 : d * (n / d + 1) ≤ 1 * (n / d + 1) := Int.mul_le_mul_of_nonpos_right (by omega) (by omega)
        rw [Int.mul_add] at h3
        omega
      · omega
    omega
theorem mlen_2t {l : Bool} {m : Int} (h : m = 2) (hl : l = true) : 29 = mlen l m := by subst h; subst hl; rfl
theorem mlen_2t' {l : Bool} {m : Int} (h : m = 2) (hl : l = true) : mlen false m + 1 = mlen l m := by subst h; subst hl; rfl
theorem mlen_ne2 {l : Bool} {m : Int} (h : m ≠ 2) : mlen false m = mlen l m := by unfold mlen; simp only [if_neg h]
theorem mlen_2f {l : Bool} {m : Int} (hl : l = false) : mlen false m = mlen l m := by rw [hl]
theorem mlen_in {l : Bool} {m : Int} (h : 1 ≤ mlen l m) : 1 ≤ m ∧ m ≤ 12 := by
  by_cases h1 : m < 1
  · rw [mlen_none l (.inl h1)] at h; omega
  · by_cases h2 : 12 < m
    · rw [mlen_none l (.inr h2)] at h; omega
    · omega
instance (l : Bool) (m d : Int) : Decidable (Val l m d) := by unfold Val; infer_instance
def mayB (n : Int) : Bool := decide (-3000000 ≤ n ∧ n ≤ 3000000)
/-- A date's day, and the error. -/
def fixN (c : Cal) (y m d : Int) : Int := if y < -9000 ∨ 9000 < y then 0 else if Val (c.leap y) m d then (if mayB (c.day y m d) = true then c.day y m d else 0) else 0
def fixE (c : Cal) (y m d : Int) : Int := if y < -9000 ∨ 9000 < y then 2 else if Val (c.leap y) m d then (if mayB (c.day y m d) = true then 0 else 2) else 4
theorem fix_year {c : Cal} {y m d : Int} (h : y < -9000 ∨ 9000 < y) : 0 = fixN c y m d ∧ 2 = fixE c y m d := by unfold fixN fixE; rw [if_pos h, if_pos h]; exact ⟨rfl, rfl⟩
theorem fix_bad {c : Cal} {y m d : Int} (h : ¬ (y < -9000 ∨ 9000 < y)) (k : ¬ Val (c.leap y) m d) : 0 = fixN c y m d ∧ 4 = fixE c y m d := by unfold fixN fixE; rw [if_neg h, if_neg h, if_neg k, if_neg k]; exact ⟨rfl, rfl⟩
theorem fix_far {c : Cal} {y m d : Int} (h : ¬ (y < -9000 ∨ 9000 < y)) (k : Val (c.leap y) m d) (f : mayB (c.day y m d) = false) : 0 = fixN c y m d ∧ 2 = fixE c y m d := by unfold fixN fixE; rw [if_neg h, if_neg h, if_pos k, if_pos k, f]; exact ⟨rfl, rfl⟩
theorem fix_ok {c : Cal} {y m d : Int} (h : ¬ (y < -9000 ∨ 9000 < y)) (k : Val (c.leap y) m d) (f : mayB (c.day y m d) = true) : c.day y m d = fixN c y m d ∧ 0 = fixE c y m d := by unfold fixN fixE; rw [if_neg h, if_neg h, if_pos k, if_pos k, f]; exact ⟨rfl, rfl⟩
theorem mayB_t {n : Int} (h1 : -3000000 ≤ n) (h2 : n ≤ 3000000) : mayB n = true := decide_eq_true ⟨h1, h2⟩
theorem mayB_f {n : Int} (h : n < -3000000 ∨ 3000000 < n) : mayB n = false := decide_eq_false (by omega)
theorem mayB_of {n : Int} (h : mayB n = true) : -3000000 ≤ n ∧ n ≤ 3000000 := of_decide_eq_true h
theorem mayB_off {n : Int} (h : mayB n = false) : n < -3000000 ∨ 3000000 < n := by have := of_decide_eq_false h; omega
theorem firstC_bd {y : Int} (h1 : -20000 ≤ y) (h2 : y ≤ 20000) : -8000000 ≤ firstC y ∧ firstC y ≤ 8000000 := by unfold firstC; omega
theorem firstJ_bd {y : Int} (h1 : -20000 ≤ y) (h2 : y ≤ 20000) : -8000000 ≤ firstJ y ∧ firstJ y ≤ 8000000 := by unfold firstJ; omega
theorem yearC_bd {n : Int} (h1 : -3000000 ≤ n) (h2 : n ≤ 3000000) : -8214 ≤ yearC n ∧ yearC n ≤ 8215 := by
  have h := yearC_in n
  constructor
  · by_cases k : yearC n + 1 ≤ -8214
    · have := (calC.first_le k).2
      have e : calC.first (-8214) = -3000466 := by decide +kernel
      have e2 : calC.first (yearC n + 1) = firstC (yearC n + 1) := rfl
      have := (calC.first_le k).1
      omega
    · omega
  · by_cases k : 8216 ≤ yearC n
    · have := (calC.first_le k).1
      have e : calC.first 8216 = 3000467 := by decide +kernel
      have e2 : calC.first (yearC n) = firstC (yearC n) := rfl
      omega
    · omega
theorem yearJ_bd {n : Int} (h1 : -3000000 ≤ n) (h2 : n ≤ 3000000) : -8214 ≤ yearJ n ∧ yearJ n ≤ 8215 := by
  unfold yearJ; simp only; omega
/-! What the laws ask. -/
theorem val_bd {l : Bool} {m d : Int} (h : Val l m d) : 1 ≤ m ∧ m ≤ 12 ∧ 1 ≤ d ∧ d ≤ 31 := by
  obtain ⟨h1, h2, h3, h4⟩ := h
  have := mlen_bd l m
  omega
theorem yrC {y m d n : Int} (h : Val (calC.leap y) m d) (e : calC.day y m d = n) (h1 : -3100000 ≤ n) (h2 : n ≤ 3100000) : -8500 ≤ y ∧ y ≤ 8500 := by
  have i := calC.day_in h
  rw [e] at i
  have e1 : calC.first (-8500) = -3104926 := by decide +kernel
  have e2 : calC.first 8501 = 3104562 := by decide +kernel
  constructor
  · by_cases k : y + 1 ≤ -8500
    · have := (calC.first_le k).1; omega
    · omega
  · by_cases k : 8501 ≤ y
    · have := (calC.first_le k).1; omega
    · omega
theorem yrJ {y m d n : Int} (h : Val (calJ.leap y) m d) (e : calJ.day y m d = n) (h1 : -3100000 ≤ n) (h2 : n ≤ 3100000) : -8500 ≤ y ∧ y ≤ 8500 := by
  have i := calJ.day_in h
  rw [e] at i
  have e1 : calJ.first (-8500) = -3104992 := by decide +kernel
  have e2 : calJ.first 8501 = 3104624 := by decide +kernel
  constructor
  · by_cases k : y + 1 ≤ -8500
    · have := (calJ.first_le k).1; omega
    · omega
  · by_cases k : 8501 ≤ y
    · have := (calJ.first_le k).1; omega
    · omega
theorem fix_good {c : Cal} {y m d n : Int} (h : Val (c.leap y) m d) (e : c.day y m d = n) (h1 : -9000 ≤ y) (h2 : y ≤ 9000) (h3 : -3000000 ≤ n) (h4 : n ≤ 3000000) : fixN c y m d = n ∧ fixE c y m d = 0 := by
  have := fix_ok (c := c) (y := y) (m := m) (d := d) (by omega) h (by rw [e]; exact mayB_t h3 h4)
  rw [e] at this
  exact ⟨this.1.symm, this.2.symm⟩
theorem next_eq {c : Cal} {y m d y' m' d' n : Int} (h : Val (c.leap y) m d) (e : c.day y m d = n) (h' : Val (c.leap y') m' d') (e' : c.day y' m' d' = n + 1) : y' = (c.next y m d).1 ∧ m' = (c.next y m d).2.1 ∧ d' = (c.next y m d).2.2 := by
  have k := c.next_val h
  exact c.day_inj h' k.1 (by rw [k.2, e, e'])
theorem leapC_400 (y : Int) : leapC (y + 400) = leapC y := by unfold leapC; exact decide_eq_decide.2 (by omega)
theorem firstC_400 (y : Int) : firstC (y + 400) = firstC y + 146097 := by unfold firstC; omega
theorem leapJ_4 (y : Int) : leapJ (y + 4) = leapJ y := by unfold leapJ; exact decide_eq_decide.2 (by omega)
theorem firstJ_4 (y : Int) : firstJ (y + 4) = firstJ y + 1461 := by unfold firstJ; omega
theorem fourC {y m d y' m' d' n : Int} (h : Val (calC.leap y) m d) (e : calC.day y m d = n) (h' : Val (calC.leap y') m' d') (e' : calC.day y' m' d' = n + 146097) : y' = y + 400 ∧ m' = m ∧ d' = d := by
  refine calC.day_inj h' (by show Val (leapC (y + 400)) m d; rw [leapC_400]; exact h) ?_
  rw [e', ← e]
  show firstC y + cum (leapC y) m + d - 1 + 146097 = firstC (y + 400) + cum (leapC (y + 400)) m + d - 1
  rw [leapC_400, firstC_400]; omega
theorem fourJ {y m d y' m' d' n : Int} (h : Val (calJ.leap y) m d) (e : calJ.day y m d = n) (h' : Val (calJ.leap y') m' d') (e' : calJ.day y' m' d' = n + 1461) : y' = y + 4 ∧ m' = m ∧ d' = d := by
  refine calJ.day_inj h' (by show Val (leapJ (y + 4)) m d; rw [leapJ_4]; exact h) ?_
  rw [e', ← e]
  show firstJ y + cum (leapJ y) m + d - 1 + 1461 = firstJ (y + 4) + cum (leapJ (y + 4)) m + d - 1
  rw [leapJ_4, firstJ_4]; omega
theorem clipN {c : Cal} (y m d : Int) : fixN c y m d = fixN c (min (max y (-9001)) 9001) m d ∧ fixE c y m d = fixE c (min (max y (-9001)) 9001) m d := by
  by_cases h : y < -9000 ∨ 9000 < y
  · have h' : min (max y (-9001)) 9001 < -9000 ∨ 9000 < min (max y (-9001)) 9001 := by omega
    have a := fix_year (c := c) (m := m) (d := d) h
    have b := fix_year (c := c) (m := m) (d := d) h'
    exact ⟨a.1.symm.trans b.1, a.2.symm.trans b.2⟩
  · rw [show min (max y (-9001)) 9001 = y by omega]; exact ⟨rfl, rfl⟩
theorem fl_up {n d : Int} (hd : 0 < d) : -((-n + d - 1) / d) = n / d := by
  have c := Int.mul_ediv_add_emod n d
  have e := Int.emod_lt_of_pos n hd
  have e0 := Int.emod_nonneg n (by omega : d ≠ 0)
  generalize n / d = q at *
  generalize n % d = r at *
  have k : -n + d - 1 = (d - 1 - r) + d * (-q) := by rw [Int.mul_neg]; omega
  rw [k, Int.add_mul_ediv_left _ _ (by omega), Int.ediv_eq_zero_of_lt (by omega) (by omega)]
  omega
theorem cum_mar (l : Bool) : cum l 3 = 59 + (if l then 1 else 0) := by cases l <;> decide
theorem mar {y : Int} (h1 : -8000 < y) (h2 : y < 8000) : fixN calC y 3 1 = firstC y + cum (leapC y) 3 ∧ fixE calC y 3 1 = 0 ∧ fixN calJ y 3 1 = firstJ y + cum (leapJ y) 3 ∧ fixE calJ y 3 1 = 0 := by
  have b1 := firstC_bd (y := y) (by omega) (by omega)
  have c1 := cum_bd (leapC y) (m := 3) (by omega) (by omega)
  have c2 := cum_bd (leapJ y) (m := 3) (by omega) (by omega)
  have a1 : -2930000 ≤ firstC y ∧ firstC y ≤ 2930000 := by unfold firstC; omega
  have a2 : -2930000 ≤ firstJ y ∧ firstJ y ≤ 2930000 := by unfold firstJ; omega
  have v1 : Val (calC.leap y) 3 1 := ⟨by omega, by omega, by omega, by have := mlen_pos (calC.leap y) (m := 3) (by omega) (by omega); omega⟩
  have v2 : Val (calJ.leap y) 3 1 := ⟨by omega, by omega, by omega, by have := mlen_pos (calJ.leap y) (m := 3) (by omega) (by omega); omega⟩
  have e1 : calC.day y 3 1 = firstC y + cum (leapC y) 3 := by show firstC y + cum (leapC y) 3 + 1 - 1 = _; omega
  have e2 : calJ.day y 3 1 = firstJ y + cum (leapJ y) 3 := by show firstJ y + cum (leapJ y) 3 + 1 - 1 = _; omega
  have g1 := fix_good v1 e1 (by omega) (by omega) (by omega) (by omega)
  have g2 := fix_good v2 e2 (by omega) (by omega) (by omega) (by omega)
  exact ⟨g1.1, g1.2, g2.1, g2.2⟩
theorem apart {y : Int} (h1 : -8000 < y) (h2 : y < 8000) : fixN calJ y 3 1 - fixN calC y 3 1 = y / 100 - y / 400 - 2 := by
  have m := mar h1 h2
  rw [m.1, m.2.2.1, cum_mar, cum_mar]
  unfold firstC firstJ leapC leapJ
  simp only [decide_eq_true_eq]
  split <;> split <;> omega
end Go.Proofs.YtcgbllbhagijjaaDoor

/- civil: its functions. -/
namespace Go.Proofs.YtcgbllbhagijjaaDoor
open Go.RowKit
set_option maxRecDepth 100000
set_option linter.unusedVariables false

def lensC : List Int := [31, 28, 31, 30, 31, 30, 31, 31, 30, 31, 30, 31]
theorem lens_at {m : Int} (h1 : 1 ≤ m) (h2 : m ≤ 12) : lensC.getD (m - 1).toNat 0 = mlen false m := by
  rcases months h1 h2 with rfl | rfl | rfl | rfl | rfl | rfl | rfl | rfl | rfl | rfl | rfl | rfl <;> rfl
/-- The table of the months stands. -/
def TabC (w : World) : Prop := ∀ i : Nat, i < 12 → Cel w 0 i (.int .i64 (lensC.getD i 0))
theorem TabC.below {w w' : World} (h : TabC w) (hb : Below w.heap.size w w') : TabC w' := fun i hi => (h i hi).below hb
theorem TabC.at {w : World} (h : TabC w) {m : Int} (h1 : 1 ≤ m) (h2 : m ≤ 12) : Cel w 0 (m - 1).toNat (.int .i64 (mlen false m)) := by
  have := h (m - 1).toNat (by omega)
  rw [lens_at h1 h2] at this
  exact this
theorem ix_tabC {w : World} {i : Int} (h0 : 0 ≤ i) (h1 : i < 12) : (Instr.indexAt 48 (.pointer (some ⟨0, 0, none⟩)) (.int .i64 i)).run Tryd.prog w = .ok (.pointer (some ⟨0, i.toNat, none⟩)) w := by
  simp [Instr.indexAt, asIntOf, Instr.sureAddr, run_underlying Tryd.underlying48, Sem.run_bind, h0, h1, Addr.add_mid]
set_option maxHeartbeats 1000000 in
theorem cfloorC_any (n d : Int) (w : World) (hd : 0 < d) (hn0 : -9223372036854775808 ≤ n) (hn1 : n ≤ 9223372036854775807) :
    Calls Tryd.prog 42 #[.int .i64 n, .int .i64 d] w (ValPost w (.int .i64 (n / d))) := by
  have bel : Below w.heap.size w w := Below.refl _ _
  refine E.enter (nt := 16) (L := [(0, .int .i64 n), (1, .int .i64 d)]) Tryd.func42 rfl rfl rfl (args_cons (i := 0) rfl (args_cons (i := 1) rfl args_nil)) ?_
  intro a hF
  refine wp_seq ?_
  refine E.seq ?_
  refine E.opv hF (r_assign ev_c) rfl rfl rfl rfl fun a hF => ?_
  refine E.nil ?_
  refine wp_seq ?_
  refine wp_seq ?_
  refine E.seq ?_
  refine E.opv hF (r_move (hF.at 1 rfl)) rfl rfl rfl rfl fun a hF => ?_
  refine E.opv hF (r_move (hF.at 3 rfl)) rfl rfl rfl rfl fun a hF => ?_
  refine E.opv hF (r_bin (hF.at 1 rfl) (hF.at 0 rfl) eg_scalar (id_rem (a := n) (b := d) hd)) rfl rfl rfl rfl fun a hF => ?_
  by_cases hc1 : (if 0 ≤ n then n % d else -(-n % d)) < 0
  · refine E.opv hF (r_bin (hF.at 0 rfl) ev_c eg_scalar (bi_int (ic_lss (c := true) (dec_tt hc1)) (by simp))) rfl rfl rfl rfl fun a hF => ?_
    refine E.nil ?_
    refine wp_cond_true (hF.at 0 rfl) ?_
    refine wp_seq ?_
    refine E.seq ?_
    refine E.opv hF (r_move (hF.at 5 rfl)) rfl rfl rfl rfl fun a hF => ?_
    refine E.opv hF (r_move (hF.at 7 rfl)) rfl rfl rfl rfl fun a hF => ?_
    refine E.opv hF (r_bin (hF.at 1 rfl) (hF.at 0 rfl) eg_scalar (id_quo (a := n) (b := d) hd hn0 hn1)) rfl rfl rfl rfl fun a hF => ?_
    refine E.opv hF (r_bin (hF.at 0 rfl) ev_c eg_scalar (ia_sub (by rw [fl_neg hd (by assumption)]; exact (fl_in hd hn0 hn1).1) (by rw [fl_neg hd (by assumption)]; exact (fl_in hd hn0 hn1).2))) rfl rfl rfl rfl fun a hF => ?_
    refine E.opset (L' := [(4, .int .i64 ((if 0 ≤ n then n / d else -(-n / d)) - 1)), (12, .int .i64 ((if 0 ≤ n then n / d else -(-n / d)) - 1)), (11, .int .i64 (if 0 ≤ n then n / d else -(-n / d))), (10, .int .i64 d), (9, .int .i64 n), (8, .bool true), (7, .int .i64 (if 0 ≤ n then n % d else -(-n % d))), (6, .int .i64 d), (5, .int .i64 n), (0, .int .i64 n), (1, .int .i64 d)]) hF (r_assign (hF.at 0 rfl)) rfl rfl rfl rfl fun a hF => ?_
    refine E.nil ?_
    refine wp_ret ?_
    refine bodyPost_ret (res_tmp Tryd.results42 (hF.at 0 rfl)) hF.dfr ?_
    refine ⟨rv_int ?_, bel⟩
    exact fl_neg hd hc1
  · refine E.opv hF (r_bin (hF.at 0 rfl) ev_c eg_scalar (bi_int (ic_lss (c := false) (dec_ff hc1)) (by simp))) rfl rfl rfl rfl fun a hF => ?_
    refine E.nil ?_
    refine wp_cond_false (hF.at 0 rfl) ?_
    refine wp_skip ?_
    refine E.norm ?_
    refine wp_seq ?_
    refine E.seq ?_
    refine E.opv hF (r_move (hF.at 5 rfl)) rfl rfl rfl rfl fun a hF => ?_
    refine E.opv hF (r_move (hF.at 7 rfl)) rfl rfl rfl rfl fun a hF => ?_
    refine E.opv hF (r_bin (hF.at 1 rfl) (hF.at 0 rfl) eg_scalar (id_quo (a := n) (b := d) hd hn0 hn1)) rfl rfl rfl rfl fun a hF => ?_
    refine E.opset (L' := [(4, .int .i64 (if 0 ≤ n then n / d else -(-n / d))), (15, .int .i64 (if 0 ≤ n then n / d else -(-n / d))), (14, .int .i64 d), (13, .int .i64 n), (8, .bool false), (7, .int .i64 (if 0 ≤ n then n % d else -(-n % d))), (6, .int .i64 d), (5, .int .i64 n), (0, .int .i64 n), (1, .int .i64 d)]) hF (r_assign (hF.at 0 rfl)) rfl rfl rfl rfl fun a hF => ?_
    refine E.nil ?_
    refine wp_ret ?_
    refine bodyPost_ret (res_tmp Tryd.results42 (hF.at 0 rfl)) hF.dfr ?_
    refine ⟨rv_int ?_, bel⟩
    exact fl_pos hd hc1

set_option maxHeartbeats 1000000 in
theorem cweekC_any (n : Int) (w : World) (h0 : -1152921504606846976 ≤ n) (h1 : n ≤ 1152921504606846975) :
    Calls Tryd.prog 24 #[.int .i64 n] w (ValPost w (.int .i64 (n % 7))) := by
  have bel : Below w.heap.size w w := Below.refl _ _
  refine E.enter (nt := 8) (L := [(0, .int .i64 n)]) Tryd.func24 rfl rfl rfl (args_cons (i := 0) rfl args_nil) ?_
  intro a hF
  refine wp_seq ?_
  refine E.seq ?_
  refine E.opv hF (r_assign ev_c) rfl rfl rfl rfl fun a hF => ?_
  refine E.nil ?_
  refine wp_seq ?_
  refine E.seq ?_
  refine E.opv hF (r_move (hF.at 1 rfl)) rfl rfl rfl rfl fun a hF => ?_
  refine E.opv hF (r_move (hF.at 2 rfl)) rfl rfl rfl rfl fun a hF => ?_
  refine E.call hF (r_call Tryd.func42 en42.1 en42.2 (map2 (hF.at 0 rfl) ev_c)) (cfloorC_any n 7 _ (by omega) (by omega) (by omega)) rfl rfl rfl rfl ?_
  rintro e w1 ⟨rfl, bb⟩
  refine ⟨_, rfl, ?_⟩
  intro a hF
  replace bel := below_to bel bb
  clear bb
  refine E.opv hF (r_bin ev_c (hF.at 0 rfl) eg_scalar (ia_mul (by omega) (by omega))) rfl rfl rfl rfl fun a hF => ?_
  refine E.opv hF (r_bin (hF.at 3 rfl) (hF.at 0 rfl) eg_scalar (ia_sub (by omega) (by omega))) rfl rfl rfl rfl fun a hF => ?_
  refine E.opset (L' := [(2, .int .i64 (n - (7 * (n / 7)))), (7, .int .i64 (n - (7 * (n / 7)))), (6, .int .i64 (7 * (n / 7))), (5, .int .i64 (n / 7)), (4, .int .i64 n), (3, .int .i64 n), (0, .int .i64 n)]) hF (r_assign (hF.at 0 rfl)) rfl rfl rfl rfl fun a hF => ?_
  refine E.nil ?_
  refine wp_ret ?_
  refine bodyPost_ret (res_tmp Tryd.results24 (hF.at 0 rfl)) hF.dfr ?_
  refine ⟨rv_int ?_, bel⟩
  omega

set_option maxHeartbeats 1000000 in
theorem cleapC_any (y : Int) (w : World) :
    Calls Tryd.prog 18 #[.int .i64 y] w (ValPost w (.bool (leapC y))) := by
  have bel : Below w.heap.size w w := Below.refl _ _
  refine E.enter (nt := 16) (L := [(0, .int .i64 y)]) Tryd.func18 rfl rfl rfl (args_cons (i := 0) rfl args_nil) ?_
  intro a hF
  refine wp_seq ?_
  refine E.seq ?_
  refine E.opv hF (r_assign ev_c) rfl rfl rfl rfl fun a hF => ?_
  refine E.nil ?_
  refine wp_seq ?_
  refine E.seq ?_
  refine E.opv hF (r_move (hF.at 1 rfl)) rfl rfl rfl rfl fun a hF => ?_
  refine E.opv hF (r_bin (hF.at 0 rfl) ev_c eg_scalar (id_rem (a := y) (b := 4) (by omega))) rfl rfl rfl rfl fun a hF => ?_
  by_cases hc1 : (if 0 ≤ y then y % 4 else -(-y % 4)) = 0
  · first
    | (exfalso; omega)
    | (refine E.opv hF (r_bin (hF.at 0 rfl) ev_c eg_scalar (bi_int (ic_eql (c := true) (dec_tt hc1)) (by simp))) rfl rfl rfl rfl fun a hF => ?_
       refine E.opv hF (r_move (hF.at 0 rfl)) rfl rfl rfl rfl fun a hF => ?_
       refine E.opvg hF (r_move (hF.at 5 rfl)) (wanted_by rfl rfl (hF.at 0 rfl) rfl) rfl rfl rfl fun a hF => ?_
       refine E.opvg hF (r_bin (hF.at 0 rfl) ev_c eg_scalar (id_rem (a := y) (b := 100) (by omega))) (wanted_by rfl rfl (hF.at 1 rfl) rfl) rfl rfl rfl fun a hF => ?_
       by_cases hc2 : (if 0 ≤ y then y % 100 else -(-y % 100)) ≠ 0
       · first
         | (exfalso; omega)
         | (refine E.opvg hF (r_bin (hF.at 0 rfl) ev_c eg_scalar (bi_int (ic_neq (c := true) (dec_tt hc2)) (by simp))) (wanted_by rfl rfl (hF.at 2 rfl) rfl) rfl rfl rfl fun a hF => ?_
            refine E.opv hF (r_pick_t (hF.at 3 rfl) (hF.at 0 rfl)) rfl rfl rfl rfl fun a hF => ?_
            refine E.opv hF (r_move (hF.at 0 rfl)) rfl rfl rfl rfl fun a hF => ?_
            refine E.unwanted hF (wanted_by rfl rfl (hF.at 0 rfl) rfl) rfl rfl rfl fun a hF => ?_
            refine E.unwanted hF (wanted_by rfl rfl (hF.at 1 rfl) rfl) rfl rfl rfl fun a hF => ?_
            refine E.unwanted hF (wanted_by rfl rfl (hF.at 2 rfl) rfl) rfl rfl rfl fun a hF => ?_
            refine E.opv hF (r_pick_t (hF.at 3 rfl) ev_c) rfl rfl rfl rfl fun a hF => ?_
            refine E.opset (L' := [(2, .bool true), (15, .bool true), (14, undef), (13, undef), (12, undef), (11, .bool true), (10, .bool true), (9, .bool true), (8, .int .i64 (if 0 ≤ y then y % 100 else -(-y % 100))), (7, .int .i64 y), (6, .bool true), (5, .bool true), (4, .int .i64 (if 0 ≤ y then y % 4 else -(-y % 4))), (3, .int .i64 y), (0, .int .i64 y)]) hF (r_assign (hF.at 0 rfl)) rfl rfl rfl rfl fun a hF => ?_
            refine E.nil ?_
            refine wp_ret ?_
            refine bodyPost_ret (res_tmp Tryd.results18 (hF.at 0 rfl)) hF.dfr ?_
            refine ⟨rv_bool ?_, bel⟩
            exact (decide_eq_true (by omega)).symm)
       · first
         | (exfalso; omega)
         | (refine E.opvg hF (r_bin (hF.at 0 rfl) ev_c eg_scalar (bi_int (ic_neq (c := false) (dec_ff hc2)) (by simp))) (wanted_by rfl rfl (hF.at 2 rfl) rfl) rfl rfl rfl fun a hF => ?_
            refine E.opv hF (r_pick_t (hF.at 3 rfl) (hF.at 0 rfl)) rfl rfl rfl rfl fun a hF => ?_
            refine E.opv hF (r_move (hF.at 0 rfl)) rfl rfl rfl rfl fun a hF => ?_
            refine E.opvg hF (r_move (hF.at 10 rfl)) (wanted_by rfl rfl (hF.at 0 rfl) rfl) rfl rfl rfl fun a hF => ?_
            refine E.opvg hF (r_bin (hF.at 0 rfl) ev_c eg_scalar (id_rem (a := y) (b := 400) (by omega))) (wanted_by rfl rfl (hF.at 1 rfl) rfl) rfl rfl rfl fun a hF => ?_
            by_cases hc3 : (if 0 ≤ y then y % 400 else -(-y % 400)) = 0
            · first
              | (exfalso; omega)
              | (refine E.opvg hF (r_bin (hF.at 0 rfl) ev_c eg_scalar (bi_int (ic_eql (c := true) (dec_tt hc3)) (by simp))) (wanted_by rfl rfl (hF.at 2 rfl) rfl) rfl rfl rfl fun a hF => ?_
                 refine E.opv hF (r_pick_f (hF.at 3 rfl) (hF.at 0 rfl)) rfl rfl rfl rfl fun a hF => ?_
                 refine E.opset (L' := [(2, .bool true), (15, .bool true), (14, .bool true), (13, .int .i64 (if 0 ≤ y then y % 400 else -(-y % 400))), (12, .int .i64 y), (11, .bool false), (10, .bool false), (9, .bool false), (8, .int .i64 (if 0 ≤ y then y % 100 else -(-y % 100))), (7, .int .i64 y), (6, .bool true), (5, .bool true), (4, .int .i64 (if 0 ≤ y then y % 4 else -(-y % 4))), (3, .int .i64 y), (0, .int .i64 y)]) hF (r_assign (hF.at 0 rfl)) rfl rfl rfl rfl fun a hF => ?_
                 refine E.nil ?_
                 refine wp_ret ?_
                 refine bodyPost_ret (res_tmp Tryd.results18 (hF.at 0 rfl)) hF.dfr ?_
                 refine ⟨rv_bool ?_, bel⟩
                 exact (decide_eq_true (by omega)).symm)
            · first
              | (exfalso; omega)
              | (refine E.opvg hF (r_bin (hF.at 0 rfl) ev_c eg_scalar (bi_int (ic_eql (c := false) (dec_ff hc3)) (by simp))) (wanted_by rfl rfl (hF.at 2 rfl) rfl) rfl rfl rfl fun a hF => ?_
                 refine E.opv hF (r_pick_f (hF.at 3 rfl) (hF.at 0 rfl)) rfl rfl rfl rfl fun a hF => ?_
                 refine E.opset (L' := [(2, .bool false), (15, .bool false), (14, .bool false), (13, .int .i64 (if 0 ≤ y then y % 400 else -(-y % 400))), (12, .int .i64 y), (11, .bool false), (10, .bool false), (9, .bool false), (8, .int .i64 (if 0 ≤ y then y % 100 else -(-y % 100))), (7, .int .i64 y), (6, .bool true), (5, .bool true), (4, .int .i64 (if 0 ≤ y then y % 4 else -(-y % 4))), (3, .int .i64 y), (0, .int .i64 y)]) hF (r_assign (hF.at 0 rfl)) rfl rfl rfl rfl fun a hF => ?_
                 refine E.nil ?_
                 refine wp_ret ?_
                 refine bodyPost_ret (res_tmp Tryd.results18 (hF.at 0 rfl)) hF.dfr ?_
                 refine ⟨rv_bool ?_, bel⟩
                 exact (decide_eq_false (by omega)).symm)))
  · first
    | (exfalso; omega)
    | (refine E.opv hF (r_bin (hF.at 0 rfl) ev_c eg_scalar (bi_int (ic_eql (c := false) (dec_ff hc1)) (by simp))) rfl rfl rfl rfl fun a hF => ?_
       refine E.opv hF (r_move (hF.at 0 rfl)) rfl rfl rfl rfl fun a hF => ?_
       refine E.unwanted hF (wanted_by rfl rfl (hF.at 0 rfl) rfl) rfl rfl rfl fun a hF => ?_
       refine E.unwanted hF (wanted_by rfl rfl (hF.at 1 rfl) rfl) rfl rfl rfl fun a hF => ?_
       refine E.unwanted hF (wanted_by rfl rfl (hF.at 2 rfl) rfl) rfl rfl rfl fun a hF => ?_
       refine E.opv hF (r_pick_f (hF.at 3 rfl) ev_c) rfl rfl rfl rfl fun a hF => ?_
       refine E.opv hF (r_move (hF.at 0 rfl)) rfl rfl rfl rfl fun a hF => ?_
       refine E.opvg hF (r_move (hF.at 10 rfl)) (wanted_by rfl rfl (hF.at 0 rfl) rfl) rfl rfl rfl fun a hF => ?_
       refine E.opvg hF (r_bin (hF.at 0 rfl) ev_c eg_scalar (id_rem (a := y) (b := 400) (by omega))) (wanted_by rfl rfl (hF.at 1 rfl) rfl) rfl rfl rfl fun a hF => ?_
       by_cases hc4 : (if 0 ≤ y then y % 400 else -(-y % 400)) = 0
       · first
         | (exfalso; omega)
         | (refine E.opvg hF (r_bin (hF.at 0 rfl) ev_c eg_scalar (bi_int (ic_eql (c := true) (dec_tt hc4)) (by simp))) (wanted_by rfl rfl (hF.at 2 rfl) rfl) rfl rfl rfl fun a hF => ?_
            refine E.opv hF (r_pick_f (hF.at 3 rfl) (hF.at 0 rfl)) rfl rfl rfl rfl fun a hF => ?_
            refine E.opset (L' := [(2, .bool true), (15, .bool true), (14, .bool true), (13, .int .i64 (if 0 ≤ y then y % 400 else -(-y % 400))), (12, .int .i64 y), (11, .bool false), (10, .bool false), (9, undef), (8, undef), (7, undef), (6, .bool false), (5, .bool false), (4, .int .i64 (if 0 ≤ y then y % 4 else -(-y % 4))), (3, .int .i64 y), (0, .int .i64 y)]) hF (r_assign (hF.at 0 rfl)) rfl rfl rfl rfl fun a hF => ?_
            refine E.nil ?_
            refine wp_ret ?_
            refine bodyPost_ret (res_tmp Tryd.results18 (hF.at 0 rfl)) hF.dfr ?_
            refine ⟨rv_bool ?_, bel⟩
            exact (decide_eq_true (by omega)).symm)
       · first
         | (exfalso; omega)
         | (refine E.opvg hF (r_bin (hF.at 0 rfl) ev_c eg_scalar (bi_int (ic_eql (c := false) (dec_ff hc4)) (by simp))) (wanted_by rfl rfl (hF.at 2 rfl) rfl) rfl rfl rfl fun a hF => ?_
            refine E.opv hF (r_pick_f (hF.at 3 rfl) (hF.at 0 rfl)) rfl rfl rfl rfl fun a hF => ?_
            refine E.opset (L' := [(2, .bool false), (15, .bool false), (14, .bool false), (13, .int .i64 (if 0 ≤ y then y % 400 else -(-y % 400))), (12, .int .i64 y), (11, .bool false), (10, .bool false), (9, undef), (8, undef), (7, undef), (6, .bool false), (5, .bool false), (4, .int .i64 (if 0 ≤ y then y % 4 else -(-y % 4))), (3, .int .i64 y), (0, .int .i64 y)]) hF (r_assign (hF.at 0 rfl)) rfl rfl rfl rfl fun a hF => ?_
            refine E.nil ?_
            refine wp_ret ?_
            refine bodyPost_ret (res_tmp Tryd.results18 (hF.at 0 rfl)) hF.dfr ?_
            refine ⟨rv_bool ?_, bel⟩
            exact (decide_eq_false (by omega)).symm))

set_option maxHeartbeats 4000000 in
theorem clenC_any (y m : Int) (w : World) (hT : TabC w) :
    Calls Tryd.prog 20 #[.int .i64 y, .int .i64 m] w (ValPost w (.int .i64 (mlen (leapC y) m))) := by
  have bel : Below w.heap.size w w := Below.refl _ _
  refine E.enter (nt := 23) (L := [(0, .int .i64 y), (1, .int .i64 m)]) Tryd.func20 rfl rfl rfl (args_cons (i := 0) rfl (args_cons (i := 1) rfl args_nil)) ?_
  intro a hF
  refine wp_seq ?_
  refine E.seq ?_
  refine E.opv hF (r_assign ev_c) rfl rfl rfl rfl fun a hF => ?_
  refine E.nil ?_
  refine wp_seq ?_
  refine wp_block ?_
  refine wp_seq ?_
  refine E.seq ?_
  refine E.opv hF (r_move (hF.at 2 rfl)) rfl rfl rfl rfl fun a hF => ?_
  by_cases hc1 : m < 1
  · first
    | (exfalso; omega)
    | (refine E.opv hF (r_bin (hF.at 0 rfl) ev_c eg_scalar (bi_int (ic_lss (c := true) (dec_tt hc1)) (by simp))) rfl rfl rfl rfl fun a hF => ?_
       refine E.opv hF (r_move (hF.at 0 rfl)) rfl rfl rfl rfl fun a hF => ?_
       refine E.unwanted hF (wanted_by rfl rfl (hF.at 0 rfl) rfl) rfl rfl rfl fun a hF => ?_
       refine E.unwanted hF (wanted_by rfl rfl (hF.at 1 rfl) rfl) rfl rfl rfl fun a hF => ?_
       refine E.opv hF (r_pick_t (hF.at 2 rfl) ev_c) rfl rfl rfl rfl fun a hF => ?_
       refine E.opv hF (r_assign (hF.at 0 rfl)) rfl rfl rfl rfl fun a hF => ?_
       refine E.nil ?_
       refine wp_cond_true (hF.at 0 rfl) ?_
       refine wp_seq ?_
       refine E.seq ?_
       refine E.opset (L' := [(4, .int .i64 0), (5, .bool true), (11, .bool true), (10, undef), (9, undef), (8, .bool true), (7, .bool true), (6, .int .i64 m), (0, .int .i64 y), (1, .int .i64 m)]) hF (r_assign ev_c) rfl rfl rfl rfl fun a hF => ?_
       refine E.nil ?_
       refine wp_ret ?_
       refine bodyPost_ret (res_tmp Tryd.results20 (hF.at 0 rfl)) hF.dfr ?_
       refine ⟨rv_int ?_, bel⟩
       first
         | exact (mlen_none _ (by omega)).symm
         | exact mlen_2t (by omega) (by assumption)
         | exact mlen_2t' (by omega) (by assumption)
         | exact mlen_ne2 (by omega)
         | exact mlen_2f (eq_false_of_ne_true (by assumption)))
  · first
    | (exfalso; omega)
    | (refine E.opv hF (r_bin (hF.at 0 rfl) ev_c eg_scalar (bi_int (ic_lss (c := false) (dec_ff hc1)) (by simp))) rfl rfl rfl rfl fun a hF => ?_
       refine E.opv hF (r_move (hF.at 0 rfl)) rfl rfl rfl rfl fun a hF => ?_
       refine E.opvg hF (r_move (hF.at 5 rfl)) (wanted_by rfl rfl (hF.at 0 rfl) rfl) rfl rfl rfl fun a hF => ?_
       by_cases hc2 : 12 < m
       · first
         | (exfalso; omega)
         | (refine E.opvg hF (r_bin (hF.at 0 rfl) ev_c eg_scalar (bi_int (ic_gtr (c := true) (dec_tt hc2)) (by simp))) (wanted_by rfl rfl (hF.at 1 rfl) rfl) rfl rfl rfl fun a hF => ?_
            refine E.opv hF (r_pick_f (hF.at 2 rfl) (hF.at 0 rfl)) rfl rfl rfl rfl fun a hF => ?_
            refine E.opv hF (r_assign (hF.at 0 rfl)) rfl rfl rfl rfl fun a hF => ?_
            refine E.nil ?_
            refine wp_cond_true (hF.at 0 rfl) ?_
            refine wp_seq ?_
            refine E.seq ?_
            refine E.opset (L' := [(4, .int .i64 0), (5, .bool true), (11, .bool true), (10, .bool true), (9, .int .i64 m), (8, .bool false), (7, .bool false), (6, .int .i64 m), (0, .int .i64 y), (1, .int .i64 m)]) hF (r_assign ev_c) rfl rfl rfl rfl fun a hF => ?_
            refine E.nil ?_
            refine wp_ret ?_
            refine bodyPost_ret (res_tmp Tryd.results20 (hF.at 0 rfl)) hF.dfr ?_
            refine ⟨rv_int ?_, bel⟩
            first
              | exact (mlen_none _ (by omega)).symm
              | exact mlen_2t (by omega) (by assumption)
              | exact mlen_2t' (by omega) (by assumption)
              | exact mlen_ne2 (by omega)
              | exact mlen_2f (eq_false_of_ne_true (by assumption)))
       · first
         | (exfalso; omega)
         | (refine E.opvg hF (r_bin (hF.at 0 rfl) ev_c eg_scalar (bi_int (ic_gtr (c := false) (dec_ff hc2)) (by simp))) (wanted_by rfl rfl (hF.at 1 rfl) rfl) rfl rfl rfl fun a hF => ?_
            refine E.opv hF (r_pick_f (hF.at 2 rfl) (hF.at 0 rfl)) rfl rfl rfl rfl fun a hF => ?_
            refine E.opv hF (r_assign (hF.at 0 rfl)) rfl rfl rfl rfl fun a hF => ?_
            refine E.nil ?_
            refine wp_cond_false (hF.at 0 rfl) ?_
            refine wp_seq ?_
            refine E.seq ?_
            refine E.opv hF (r_move (hF.at 9 rfl)) rfl rfl rfl rfl fun a hF => ?_
            by_cases hc3 : m = 2
            · first
              | (exfalso; omega)
              | (refine E.opv hF (r_bin (hF.at 0 rfl) ev_c eg_scalar (bi_int (ic_eql (c := true) (dec_tt hc3)) (by simp))) rfl rfl rfl rfl fun a hF => ?_
                 refine E.opv hF (r_move (hF.at 0 rfl)) rfl rfl rfl rfl fun a hF => ?_
                 refine E.opvg hF (r_move (hF.at 11 rfl)) (wanted_by rfl rfl (hF.at 0 rfl) rfl) rfl rfl rfl fun a hF => ?_
                 refine E.callg hF (r_call Tryd.func18 en18.1 en18.2 (map1 (hF.at 0 rfl))) (cleapC_any y _) (wanted_by rfl rfl (hF.at 1 rfl) rfl) rfl rfl rfl ?_
                 rintro e w4 ⟨rfl, bb⟩
                 refine ⟨_, rfl, ?_⟩
                 intro a hF
                 replace bel := below_to bel bb
                 clear bb
                 refine E.opv hF (r_pick_t (hF.at 2 rfl) (hF.at 0 rfl)) rfl rfl rfl rfl fun a hF => ?_
                 refine E.opv hF (r_assign (hF.at 0 rfl)) rfl rfl rfl rfl fun a hF => ?_
                 refine E.nil ?_
                 by_cases hc5 : leapC y = true
                 · first
                   | (exfalso; omega)
                   | (refine wp_cond_true (Eq.trans (hF.at 0 rfl) (congrArg Value.bool hc5)) ?_
                      refine wp_seq ?_
                      refine E.seq ?_
                      refine E.opset (L' := [(4, .int .i64 29), (12, .bool (leapC y)), (18, .bool (leapC y)), (17, .bool (leapC y)), (16, .int .i64 y), (15, .bool true), (14, .bool true), (13, .int .i64 m), (5, .bool false), (11, .bool false), (10, .bool false), (9, .int .i64 m), (8, .bool false), (7, .bool false), (6, .int .i64 m), (0, .int .i64 y), (1, .int .i64 m)]) hF (r_assign ev_c) rfl rfl rfl rfl fun a hF => ?_
                      refine E.nil ?_
                      refine wp_ret ?_
                      refine bodyPost_ret (res_tmp Tryd.results20 (hF.at 0 rfl)) hF.dfr ?_
                      refine ⟨rv_int ?_, bel⟩
                      first
                        | exact (mlen_none _ (by omega)).symm
                        | exact mlen_2t (by omega) (by assumption)
                        | exact mlen_2t' (by omega) (by assumption)
                        | exact mlen_ne2 (by omega)
                        | exact mlen_2f (eq_false_of_ne_true (by assumption)))
                 · first
                   | (exfalso; omega)
                   | (refine wp_cond_false (Eq.trans (hF.at 0 rfl) (congrArg Value.bool (eq_false_of_ne_true hc5))) ?_
                      refine wp_skip ?_
                      refine E.blk ?_
                      refine E.norm ?_
                      refine wp_seq ?_
                      refine E.seq ?_
                      refine E.opv hF (r_move (hF.at 16 rfl)) rfl rfl rfl rfl fun a hF => ?_
                      refine E.opv hF (r_bin (hF.at 0 rfl) ev_c eg_scalar (ia_sub (by omega) (by omega))) rfl rfl rfl rfl fun a hF => ?_
                      refine E.opv hF (r_index rfl (hF.at 0 rfl) (ix_tabC (by omega) (by omega))) rfl rfl rfl rfl fun a hF => ?_
                      refine E.opv hF (r_load (hF.at 0 rfl) (ldc_int ((hT.below bel).at (m := m) (by omega) (by omega)))) rfl rfl rfl rfl fun a hF => ?_
                      refine E.opset (L' := [(4, .int .i64 (mlen false m)), (22, .int .i64 (mlen false m)), (21, .pointer (some ⟨0, (m - 1).toNat, none⟩)), (20, .int .i64 (m - 1)), (19, .int .i64 m), (12, .bool (leapC y)), (18, .bool (leapC y)), (17, .bool (leapC y)), (16, .int .i64 y), (15, .bool true), (14, .bool true), (13, .int .i64 m), (5, .bool false), (11, .bool false), (10, .bool false), (9, .int .i64 m), (8, .bool false), (7, .bool false), (6, .int .i64 m), (0, .int .i64 y), (1, .int .i64 m)]) hF (r_assign (hF.at 0 rfl)) rfl rfl rfl rfl fun a hF => ?_
                      refine E.nil ?_
                      refine wp_ret ?_
                      refine bodyPost_ret (res_tmp Tryd.results20 (hF.at 0 rfl)) hF.dfr ?_
                      refine ⟨rv_int ?_, bel⟩
                      first
                        | exact (mlen_none _ (by omega)).symm
                        | exact mlen_2t (by omega) (by assumption)
                        | exact mlen_2t' (by omega) (by assumption)
                        | exact mlen_ne2 (by omega)
                        | exact mlen_2f (eq_false_of_ne_true (by assumption))))
            · first
              | (exfalso; omega)
              | (refine E.opv hF (r_bin (hF.at 0 rfl) ev_c eg_scalar (bi_int (ic_eql (c := false) (dec_ff hc3)) (by simp))) rfl rfl rfl rfl fun a hF => ?_
                 refine E.opv hF (r_move (hF.at 0 rfl)) rfl rfl rfl rfl fun a hF => ?_
                 refine E.unwanted hF (wanted_by rfl rfl (hF.at 0 rfl) rfl) rfl rfl rfl fun a hF => ?_
                 refine E.unwanted hF (wanted_by rfl rfl (hF.at 1 rfl) rfl) rfl rfl rfl fun a hF => ?_
                 refine E.opv hF (r_pick_f (hF.at 2 rfl) ev_c) rfl rfl rfl rfl fun a hF => ?_
                 refine E.opv hF (r_assign (hF.at 0 rfl)) rfl rfl rfl rfl fun a hF => ?_
                 refine E.nil ?_
                 refine wp_cond_false (hF.at 0 rfl) ?_
                 refine wp_skip ?_
                 refine E.blk ?_
                 refine E.norm ?_
                 refine wp_seq ?_
                 refine E.seq ?_
                 refine E.opv hF (r_move (hF.at 16 rfl)) rfl rfl rfl rfl fun a hF => ?_
                 refine E.opv hF (r_bin (hF.at 0 rfl) ev_c eg_scalar (ia_sub (by omega) (by omega))) rfl rfl rfl rfl fun a hF => ?_
                 refine E.opv hF (r_index rfl (hF.at 0 rfl) (ix_tabC (by omega) (by omega))) rfl rfl rfl rfl fun a hF => ?_
                 refine E.opv hF (r_load (hF.at 0 rfl) (ldc_int ((hT.below bel).at (m := m) (by omega) (by omega)))) rfl rfl rfl rfl fun a hF => ?_
                 refine E.opset (L' := [(4, .int .i64 (mlen false m)), (22, .int .i64 (mlen false m)), (21, .pointer (some ⟨0, (m - 1).toNat, none⟩)), (20, .int .i64 (m - 1)), (19, .int .i64 m), (12, .bool false), (18, .bool false), (17, undef), (16, undef), (15, .bool false), (14, .bool false), (13, .int .i64 m), (5, .bool false), (11, .bool false), (10, .bool false), (9, .int .i64 m), (8, .bool false), (7, .bool false), (6, .int .i64 m), (0, .int .i64 y), (1, .int .i64 m)]) hF (r_assign (hF.at 0 rfl)) rfl rfl rfl rfl fun a hF => ?_
                 refine E.nil ?_
                 refine wp_ret ?_
                 refine bodyPost_ret (res_tmp Tryd.results20 (hF.at 0 rfl)) hF.dfr ?_
                 refine ⟨rv_int ?_, bel⟩
                 first
                   | exact (mlen_none _ (by omega)).symm
                   | exact mlen_2t (by omega) (by assumption)
                   | exact mlen_2t' (by omega) (by assumption)
                   | exact mlen_ne2 (by omega)
                   | exact mlen_2f (eq_false_of_ne_true (by assumption)))))

set_option maxHeartbeats 1000000 in
theorem cmayC_any (n : Int) (w : World) :
    Calls Tryd.prog 38 #[.int .i64 n] w (ValPost w (.bool (mayB n))) := by
  have bel : Below w.heap.size w w := Below.refl _ _
  refine E.enter (nt := 9) (L := [(0, .int .i64 n)]) Tryd.func38 rfl rfl rfl (args_cons (i := 0) rfl args_nil) ?_
  intro a hF
  refine wp_seq ?_
  refine E.seq ?_
  refine E.opv hF (r_assign ev_c) rfl rfl rfl rfl fun a hF => ?_
  refine E.nil ?_
  refine wp_seq ?_
  refine E.seq ?_
  refine E.opv hF (r_move (hF.at 1 rfl)) rfl rfl rfl rfl fun a hF => ?_
  by_cases hc1 : (-3000000) ≤ n
  · first
    | (exfalso; omega)
    | (refine E.opv hF (r_bin (hF.at 0 rfl) ev_c eg_scalar (bi_int (ic_geq (c := true) (dec_tt hc1)) (by simp))) rfl rfl rfl rfl fun a hF => ?_
       refine E.opv hF (r_move (hF.at 0 rfl)) rfl rfl rfl rfl fun a hF => ?_
       refine E.opvg hF (r_move (hF.at 4 rfl)) (wanted_by rfl rfl (hF.at 0 rfl) rfl) rfl rfl rfl fun a hF => ?_
       by_cases hc2 : n ≤ 3000000
       · first
         | (exfalso; omega)
         | (refine E.opvg hF (r_bin (hF.at 0 rfl) ev_c eg_scalar (bi_int (ic_leq (c := true) (dec_tt hc2)) (by simp))) (wanted_by rfl rfl (hF.at 1 rfl) rfl) rfl rfl rfl fun a hF => ?_
            refine E.opv hF (r_pick_t (hF.at 2 rfl) (hF.at 0 rfl)) rfl rfl rfl rfl fun a hF => ?_
            refine E.opset (L' := [(2, .bool true), (8, .bool true), (7, .bool true), (6, .int .i64 n), (5, .bool true), (4, .bool true), (3, .int .i64 n), (0, .int .i64 n)]) hF (r_assign (hF.at 0 rfl)) rfl rfl rfl rfl fun a hF => ?_
            refine E.nil ?_
            refine wp_ret ?_
            refine bodyPost_ret (res_tmp Tryd.results38 (hF.at 0 rfl)) hF.dfr ?_
            refine ⟨rv_bool ?_, bel⟩
            exact (decide_eq_true (by omega)).symm)
       · first
         | (exfalso; omega)
         | (refine E.opvg hF (r_bin (hF.at 0 rfl) ev_c eg_scalar (bi_int (ic_leq (c := false) (dec_ff hc2)) (by simp))) (wanted_by rfl rfl (hF.at 1 rfl) rfl) rfl rfl rfl fun a hF => ?_
            refine E.opv hF (r_pick_t (hF.at 2 rfl) (hF.at 0 rfl)) rfl rfl rfl rfl fun a hF => ?_
            refine E.opset (L' := [(2, .bool false), (8, .bool false), (7, .bool false), (6, .int .i64 n), (5, .bool true), (4, .bool true), (3, .int .i64 n), (0, .int .i64 n)]) hF (r_assign (hF.at 0 rfl)) rfl rfl rfl rfl fun a hF => ?_
            refine E.nil ?_
            refine wp_ret ?_
            refine bodyPost_ret (res_tmp Tryd.results38 (hF.at 0 rfl)) hF.dfr ?_
            refine ⟨rv_bool ?_, bel⟩
            exact (decide_eq_false (by omega)).symm))
  · first
    | (exfalso; omega)
    | (refine E.opv hF (r_bin (hF.at 0 rfl) ev_c eg_scalar (bi_int (ic_geq (c := false) (dec_ff hc1)) (by simp))) rfl rfl rfl rfl fun a hF => ?_
       refine E.opv hF (r_move (hF.at 0 rfl)) rfl rfl rfl rfl fun a hF => ?_
       refine E.unwanted hF (wanted_by rfl rfl (hF.at 0 rfl) rfl) rfl rfl rfl fun a hF => ?_
       refine E.unwanted hF (wanted_by rfl rfl (hF.at 1 rfl) rfl) rfl rfl rfl fun a hF => ?_
       refine E.opv hF (r_pick_f (hF.at 2 rfl) ev_c) rfl rfl rfl rfl fun a hF => ?_
       refine E.opset (L' := [(2, .bool false), (8, .bool false), (7, undef), (6, undef), (5, .bool false), (4, .bool false), (3, .int .i64 n), (0, .int .i64 n)]) hF (r_assign (hF.at 0 rfl)) rfl rfl rfl rfl fun a hF => ?_
       refine E.nil ?_
       refine wp_ret ?_
       refine bodyPost_ret (res_tmp Tryd.results38 (hF.at 0 rfl)) hF.dfr ?_
       refine ⟨rv_bool ?_, bel⟩
       exact (decide_eq_false (by omega)).symm)

set_option maxHeartbeats 1000000 in
theorem cfirstC_any (y : Int) (w : World) (h0 : -100000 ≤ y) (h1 : y ≤ 100000) :
    Calls Tryd.prog 40 #[.int .i64 y] w (ValPost w (.int .i64 (firstC y))) := by
  have bel : Below w.heap.size w w := Below.refl _ _
  refine E.enter (nt := 18) (L := [(0, .int .i64 y)]) Tryd.func40 rfl rfl rfl (args_cons (i := 0) rfl args_nil) ?_
  intro a hF
  refine wp_seq ?_
  refine E.seq ?_
  refine E.opv hF (r_assign ev_c) rfl rfl rfl rfl fun a hF => ?_
  refine E.nil ?_
  refine wp_seq ?_
  refine E.seq ?_
  refine E.opv hF (r_move (hF.at 1 rfl)) rfl rfl rfl rfl fun a hF => ?_
  refine E.opv hF (r_bin (hF.at 0 rfl) ev_c eg_scalar (ia_sub (by omega) (by omega))) rfl rfl rfl rfl fun a hF => ?_
  refine E.opv hF (r_assign (hF.at 0 rfl)) rfl rfl rfl rfl fun a hF => ?_
  refine E.nil ?_
  refine wp_seq ?_
  refine E.seq ?_
  refine E.opv hF (r_move (hF.at 0 rfl)) rfl rfl rfl rfl fun a hF => ?_
  refine E.opv hF (r_bin (hF.at 0 rfl) ev_c eg_scalar (ia_mul (by omega) (by omega))) rfl rfl rfl rfl fun a hF => ?_
  refine E.opv hF (r_move (hF.at 2 rfl)) rfl rfl rfl rfl fun a hF => ?_
  refine E.call hF (r_call Tryd.func42 en42.1 en42.2 (map2 (hF.at 0 rfl) ev_c)) (cfloorC_any (y - 1) 4 _ (by omega) (by omega) (by omega)) rfl rfl rfl rfl ?_
  rintro e w1 ⟨rfl, bb⟩
  refine ⟨_, rfl, ?_⟩
  intro a hF
  replace bel := below_to bel bb
  clear bb
  refine E.opv hF (r_bin (hF.at 2 rfl) (hF.at 0 rfl) eg_scalar (ia_add (by omega) (by omega))) rfl rfl rfl rfl fun a hF => ?_
  refine E.opv hF (r_move (hF.at 5 rfl)) rfl rfl rfl rfl fun a hF => ?_
  refine E.call hF (r_call Tryd.func42 en42.1 en42.2 (map2 (hF.at 0 rfl) ev_c)) (cfloorC_any (y - 1) 100 _ (by omega) (by omega) (by omega)) rfl rfl rfl rfl ?_
  rintro e w2 ⟨rfl, bb⟩
  refine ⟨_, rfl, ?_⟩
  intro a hF
  replace bel := below_to bel bb
  clear bb
  refine E.opv hF (r_bin (hF.at 2 rfl) (hF.at 0 rfl) eg_scalar (ia_sub (by omega) (by omega))) rfl rfl rfl rfl fun a hF => ?_
  refine E.opv hF (r_move (hF.at 8 rfl)) rfl rfl rfl rfl fun a hF => ?_
  refine E.call hF (r_call Tryd.func42 en42.1 en42.2 (map2 (hF.at 0 rfl) ev_c)) (cfloorC_any (y - 1) 400 _ (by omega) (by omega) (by omega)) rfl rfl rfl rfl ?_
  rintro e w3 ⟨rfl, bb⟩
  refine ⟨_, rfl, ?_⟩
  intro a hF
  replace bel := below_to bel bb
  clear bb
  refine E.opv hF (r_bin (hF.at 2 rfl) (hF.at 0 rfl) eg_scalar (ia_add (by omega) (by omega))) rfl rfl rfl rfl fun a hF => ?_
  refine E.opv hF (r_bin (hF.at 0 rfl) ev_c eg_scalar (ia_add (by omega) (by omega))) rfl rfl rfl rfl fun a hF => ?_
  refine E.opset (L' := [(2, .int .i64 ((((((y - 1) * 365) + ((y - 1) / 4)) - ((y - 1) / 100)) + ((y - 1) / 400)) + 1)), (17, .int .i64 ((((((y - 1) * 365) + ((y - 1) / 4)) - ((y - 1) / 100)) + ((y - 1) / 400)) + 1)), (16, .int .i64 (((((y - 1) * 365) + ((y - 1) / 4)) - ((y - 1) / 100)) + ((y - 1) / 400))), (15, .int .i64 ((y - 1) / 400)), (14, .int .i64 (y - 1)), (13, .int .i64 ((((y - 1) * 365) + ((y - 1) / 4)) - ((y - 1) / 100))), (12, .int .i64 ((y - 1) / 100)), (11, .int .i64 (y - 1)), (10, .int .i64 (((y - 1) * 365) + ((y - 1) / 4))), (9, .int .i64 ((y - 1) / 4)), (8, .int .i64 (y - 1)), (7, .int .i64 ((y - 1) * 365)), (6, .int .i64 (y - 1)), (3, .int .i64 (y - 1)), (5, .int .i64 (y - 1)), (4, .int .i64 y), (0, .int .i64 y)]) hF (r_assign (hF.at 0 rfl)) rfl rfl rfl rfl fun a hF => ?_
  refine E.nil ?_
  refine wp_ret ?_
  refine bodyPost_ret (res_tmp Tryd.results40 (hF.at 0 rfl)) hF.dfr ?_
  refine ⟨rv_int ?_, bel⟩
  unfold firstC; omega

set_option maxHeartbeats 8000000 in
theorem cyearC_any (n : Int) (w : World) (h0 : -3000000 ≤ n) (h1 : n ≤ 3000000) :
    Calls Tryd.prog 39 #[.int .i64 n] w (ValPost w (.int .i64 (yearC n))) := by
  have bel : Below w.heap.size w w := Below.refl _ _
  refine E.enter (nt := 41) (L := [(0, .int .i64 n)]) Tryd.func39 rfl rfl rfl (args_cons (i := 0) rfl args_nil) ?_
  intro a hF
  refine wp_seq ?_
  refine E.seq ?_
  refine E.opv hF (r_assign ev_c) rfl rfl rfl rfl fun a hF => ?_
  refine E.nil ?_
  refine wp_seq ?_
  refine E.seq ?_
  refine E.opv hF (r_move (hF.at 1 rfl)) rfl rfl rfl rfl fun a hF => ?_
  refine E.opv hF (r_bin (hF.at 0 rfl) ev_c eg_scalar (ia_sub (by omega) (by omega))) rfl rfl rfl rfl fun a hF => ?_
  refine E.opv hF (r_assign (hF.at 0 rfl)) rfl rfl rfl rfl fun a hF => ?_
  refine E.nil ?_
  refine wp_seq ?_
  refine E.seq ?_
  refine E.opv hF (r_move (hF.at 0 rfl)) rfl rfl rfl rfl fun a hF => ?_
  refine E.call hF (r_call Tryd.func42 en42.1 en42.2 (map2 (hF.at 0 rfl) ev_c)) (cfloorC_any (n - 1) 146097 _ (by omega) (by omega) (by omega)) rfl rfl rfl rfl ?_
  rintro e w1 ⟨rfl, bb⟩
  refine ⟨_, rfl, ?_⟩
  intro a hF
  replace bel := below_to bel bb
  clear bb
  refine E.opv hF (r_assign (hF.at 0 rfl)) rfl rfl rfl rfl fun a hF => ?_
  refine E.nil ?_
  refine wp_seq ?_
  refine E.seq ?_
  refine E.opv hF (r_move (hF.at 3 rfl)) rfl rfl rfl rfl fun a hF => ?_
  refine E.opv hF (r_move (hF.at 1 rfl)) rfl rfl rfl rfl fun a hF => ?_
  refine E.opv hF (r_bin (hF.at 0 rfl) ev_c eg_scalar (ia_mul (by omega) (by omega))) rfl rfl rfl rfl fun a hF => ?_
  refine E.opv hF (r_bin (hF.at 2 rfl) (hF.at 0 rfl) eg_scalar (ia_sub (by omega) (by omega))) rfl rfl rfl rfl fun a hF => ?_
  refine E.opset (L' := [(3, .int .i64 ((n - 1) - (((n - 1) / 146097) * 146097))), (14, .int .i64 ((n - 1) - (((n - 1) / 146097) * 146097))), (13, .int .i64 (((n - 1) / 146097) * 146097)), (12, .int .i64 ((n - 1) / 146097)), (11, .int .i64 (n - 1)), (4, .int .i64 ((n - 1) / 146097)), (10, .int .i64 ((n - 1) / 146097)), (9, .int .i64 (n - 1)), (8, .int .i64 (n - 1)), (7, .int .i64 n), (2, .int .i64 0), (0, .int .i64 n)]) hF (r_assign (hF.at 0 rfl)) rfl rfl rfl rfl fun a hF => ?_
  refine E.nil ?_
  refine wp_seq ?_
  refine E.seq ?_
  refine E.opv hF (r_move (hF.at 0 rfl)) rfl rfl rfl rfl fun a hF => ?_
  refine E.opv hF (r_bin (hF.at 0 rfl) ev_c eg_scalar (id_quon (a := (n - 1) - (((n - 1) / 146097) * 146097)) (b := 36524) (by omega) (by omega) (by omega) (by omega))) rfl rfl rfl rfl fun a hF => ?_
  refine E.opv hF (r_builtin (map2 (hF.at 0 rfl) ev_c) bl_min) rfl rfl rfl rfl fun a hF => ?_
  refine E.opv hF (r_assign (hF.at 0 rfl)) rfl rfl rfl rfl fun a hF => ?_
  refine E.nil ?_
  refine wp_seq ?_
  refine E.seq ?_
  refine E.opv hF (r_move (hF.at 4 rfl)) rfl rfl rfl rfl fun a hF => ?_
  refine E.opv hF (r_move (hF.at 1 rfl)) rfl rfl rfl rfl fun a hF => ?_
  refine E.opv hF (r_bin (hF.at 0 rfl) ev_c eg_scalar (ia_mul (by omega) (by omega))) rfl rfl rfl rfl fun a hF => ?_
  refine E.opv hF (r_bin (hF.at 2 rfl) (hF.at 0 rfl) eg_scalar (ia_sub (by omega) (by omega))) rfl rfl rfl rfl fun a hF => ?_
  refine E.opset (L' := [(3, .int .i64 (((n - 1) - (((n - 1) / 146097) * 146097)) - ((min (((n - 1) - (((n - 1) / 146097) * 146097)) / 36524) 3) * 36524))), (21, .int .i64 (((n - 1) - (((n - 1) / 146097) * 146097)) - ((min (((n - 1) - (((n - 1) / 146097) * 146097)) / 36524) 3) * 36524))), (20, .int .i64 ((min (((n - 1) - (((n - 1) / 146097) * 146097)) / 36524) 3) * 36524)), (19, .int .i64 (min (((n - 1) - (((n - 1) / 146097) * 146097)) / 36524) 3)), (18, .int .i64 ((n - 1) - (((n - 1) / 146097) * 146097))), (5, .int .i64 (min (((n - 1) - (((n - 1) / 146097) * 146097)) / 36524) 3)), (17, .int .i64 (min (((n - 1) - (((n - 1) / 146097) * 146097)) / 36524) 3)), (16, .int .i64 (((n - 1) - (((n - 1) / 146097) * 146097)) / 36524)), (15, .int .i64 ((n - 1) - (((n - 1) / 146097) * 146097))), (14, .int .i64 ((n - 1) - (((n - 1) / 146097) * 146097))), (13, .int .i64 (((n - 1) / 146097) * 146097)), (12, .int .i64 ((n - 1) / 146097)), (11, .int .i64 (n - 1)), (4, .int .i64 ((n - 1) / 146097)), (10, .int .i64 ((n - 1) / 146097)), (9, .int .i64 (n - 1)), (8, .int .i64 (n - 1)), (7, .int .i64 n), (2, .int .i64 0), (0, .int .i64 n)]) hF (r_assign (hF.at 0 rfl)) rfl rfl rfl rfl fun a hF => ?_
  refine E.nil ?_
  refine wp_seq ?_
  refine E.seq ?_
  refine E.opv hF (r_move (hF.at 0 rfl)) rfl rfl rfl rfl fun a hF => ?_
  refine E.opv hF (r_bin (hF.at 0 rfl) ev_c eg_scalar (id_quon (a := ((n - 1) - (((n - 1) / 146097) * 146097)) - ((min (((n - 1) - (((n - 1) / 146097) * 146097)) / 36524) 3) * 36524)) (b := 1461) (by omega) (by omega) (by omega) (by omega))) rfl rfl rfl rfl fun a hF => ?_
  refine E.opv hF (r_assign (hF.at 0 rfl)) rfl rfl rfl rfl fun a hF => ?_
  refine E.nil ?_
  refine wp_seq ?_
  refine E.seq ?_
  refine E.opv hF (r_move (hF.at 3 rfl)) rfl rfl rfl rfl fun a hF => ?_
  refine E.opv hF (r_move (hF.at 1 rfl)) rfl rfl rfl rfl fun a hF => ?_
  refine E.opv hF (r_bin (hF.at 0 rfl) ev_c eg_scalar (ia_mul (by omega) (by omega))) rfl rfl rfl rfl fun a hF => ?_
  refine E.opv hF (r_bin (hF.at 2 rfl) (hF.at 0 rfl) eg_scalar (ia_sub (by omega) (by omega))) rfl rfl rfl rfl fun a hF => ?_
  refine E.opset (L' := [(3, .int .i64 ((((n - 1) - (((n - 1) / 146097) * 146097)) - ((min (((n - 1) - (((n - 1) / 146097) * 146097)) / 36524) 3) * 36524)) - (((((n - 1) - (((n - 1) / 146097) * 146097)) - ((min (((n - 1) - (((n - 1) / 146097) * 146097)) / 36524) 3) * 36524)) / 1461) * 1461))), (27, .int .i64 ((((n - 1) - (((n - 1) / 146097) * 146097)) - ((min (((n - 1) - (((n - 1) / 146097) * 146097)) / 36524) 3) * 36524)) - (((((n - 1) - (((n - 1) / 146097) * 146097)) - ((min (((n - 1) - (((n - 1) / 146097) * 146097)) / 36524) 3) * 36524)) / 1461) * 1461))), (26, .int .i64 (((((n - 1) - (((n - 1) / 146097) * 146097)) - ((min (((n - 1) - (((n - 1) / 146097) * 146097)) / 36524) 3) * 36524)) / 1461) * 1461)), (25, .int .i64 ((((n - 1) - (((n - 1) / 146097) * 146097)) - ((min (((n - 1) - (((n - 1) / 146097) * 146097)) / 36524) 3) * 36524)) / 1461)), (24, .int .i64 (((n - 1) - (((n - 1) / 146097) * 146097)) - ((min (((n - 1) - (((n - 1) / 146097) * 146097)) / 36524) 3) * 36524))), (6, .int .i64 ((((n - 1) - (((n - 1) / 146097) * 146097)) - ((min (((n - 1) - (((n - 1) / 146097) * 146097)) / 36524) 3) * 36524)) / 1461)), (23, .int .i64 ((((n - 1) - (((n - 1) / 146097) * 146097)) - ((min (((n - 1) - (((n - 1) / 146097) * 146097)) / 36524) 3) * 36524)) / 1461)), (22, .int .i64 (((n - 1) - (((n - 1) / 146097) * 146097)) - ((min (((n - 1) - (((n - 1) / 146097) * 146097)) / 36524) 3) * 36524))), (21, .int .i64 (((n - 1) - (((n - 1) / 146097) * 146097)) - ((min (((n - 1) - (((n - 1) / 146097) * 146097)) / 36524) 3) * 36524))), (20, .int .i64 ((min (((n - 1) - (((n - 1) / 146097) * 146097)) / 36524) 3) * 36524)), (19, .int .i64 (min (((n - 1) - (((n - 1) / 146097) * 146097)) / 36524) 3)), (18, .int .i64 ((n - 1) - (((n - 1) / 146097) * 146097))), (5, .int .i64 (min (((n - 1) - (((n - 1) / 146097) * 146097)) / 36524) 3)), (17, .int .i64 (min (((n - 1) - (((n - 1) / 146097) * 146097)) / 36524) 3)), (16, .int .i64 (((n - 1) - (((n - 1) / 146097) * 146097)) / 36524)), (15, .int .i64 ((n - 1) - (((n - 1) / 146097) * 146097))), (14, .int .i64 ((n - 1) - (((n - 1) / 146097) * 146097))), (13, .int .i64 (((n - 1) / 146097) * 146097)), (12, .int .i64 ((n - 1) / 146097)), (11, .int .i64 (n - 1)), (4, .int .i64 ((n - 1) / 146097)), (10, .int .i64 ((n - 1) / 146097)), (9, .int .i64 (n - 1)), (8, .int .i64 (n - 1)), (7, .int .i64 n), (2, .int .i64 0), (0, .int .i64 n)]) hF (r_assign (hF.at 0 rfl)) rfl rfl rfl rfl fun a hF => ?_
  refine E.nil ?_
  refine wp_seq ?_
  refine E.seq ?_
  refine E.opv hF (r_move (hF.at 20 rfl)) rfl rfl rfl rfl fun a hF => ?_
  refine E.opv hF (r_bin ev_c (hF.at 0 rfl) eg_scalar (ia_mul (by omega) (by omega))) rfl rfl rfl rfl fun a hF => ?_
  refine E.opv hF (r_move (hF.at 14 rfl)) rfl rfl rfl rfl fun a hF => ?_
  refine E.opv hF (r_bin ev_c (hF.at 0 rfl) eg_scalar (ia_mul (by omega) (by omega))) rfl rfl rfl rfl fun a hF => ?_
  refine E.opv hF (r_bin (hF.at 2 rfl) (hF.at 0 rfl) eg_scalar (ia_add (by omega) (by omega))) rfl rfl rfl rfl fun a hF => ?_
  refine E.opv hF (r_move (hF.at 10 rfl)) rfl rfl rfl rfl fun a hF => ?_
  refine E.opv hF (r_bin ev_c (hF.at 0 rfl) eg_scalar (ia_mul (by omega) (by omega))) rfl rfl rfl rfl fun a hF => ?_
  refine E.opv hF (r_bin (hF.at 2 rfl) (hF.at 0 rfl) eg_scalar (ia_add (by omega) (by omega))) rfl rfl rfl rfl fun a hF => ?_
  refine E.opv hF (r_move (hF.at 8 rfl)) rfl rfl rfl rfl fun a hF => ?_
  refine E.opv hF (r_bin (hF.at 0 rfl) ev_c eg_scalar (id_quon (a := (((n - 1) - (((n - 1) / 146097) * 146097)) - ((min (((n - 1) - (((n - 1) / 146097) * 146097)) / 36524) 3) * 36524)) - (((((n - 1) - (((n - 1) / 146097) * 146097)) - ((min (((n - 1) - (((n - 1) / 146097) * 146097)) / 36524) 3) * 36524)) / 1461) * 1461)) (b := 365) (by omega) (by omega) (by omega) (by omega))) rfl rfl rfl rfl fun a hF => ?_
  refine E.opv hF (r_builtin (map2 (hF.at 0 rfl) ev_c) bl_min) rfl rfl rfl rfl fun a hF => ?_
  refine E.opv hF (r_bin (hF.at 3 rfl) (hF.at 0 rfl) eg_scalar (ia_add (by omega) (by omega))) rfl rfl rfl rfl fun a hF => ?_
  refine E.opv hF (r_bin (hF.at 0 rfl) ev_c eg_scalar (ia_add (by omega) (by omega))) rfl rfl rfl rfl fun a hF => ?_
  refine E.opset (L' := [(2, .int .i64 (((((400 * ((n - 1) / 146097)) + (100 * (min (((n - 1) - (((n - 1) / 146097) * 146097)) / 36524) 3))) + (4 * ((((n - 1) - (((n - 1) / 146097) * 146097)) - ((min (((n - 1) - (((n - 1) / 146097) * 146097)) / 36524) 3) * 36524)) / 1461))) + (min (((((n - 1) - (((n - 1) / 146097) * 146097)) - ((min (((n - 1) - (((n - 1) / 146097) * 146097)) / 36524) 3) * 36524)) - (((((n - 1) - (((n - 1) / 146097) * 146097)) - ((min (((n - 1) - (((n - 1) / 146097) * 146097)) / 36524) 3) * 36524)) / 1461) * 1461)) / 365) 3)) + 1)), (40, .int .i64 (((((400 * ((n - 1) / 146097)) + (100 * (min (((n - 1) - (((n - 1) / 146097) * 146097)) / 36524) 3))) + (4 * ((((n - 1) - (((n - 1) / 146097) * 146097)) - ((min (((n - 1) - (((n - 1) / 146097) * 146097)) / 36524) 3) * 36524)) / 1461))) + (min (((((n - 1) - (((n - 1) / 146097) * 146097)) - ((min (((n - 1) - (((n - 1) / 146097) * 146097)) / 36524) 3) * 36524)) - (((((n - 1) - (((n - 1) / 146097) * 146097)) - ((min (((n - 1) - (((n - 1) / 146097) * 146097)) / 36524) 3) * 36524)) / 1461) * 1461)) / 365) 3)) + 1)), (39, .int .i64 ((((400 * ((n - 1) / 146097)) + (100 * (min (((n - 1) - (((n - 1) / 146097) * 146097)) / 36524) 3))) + (4 * ((((n - 1) - (((n - 1) / 146097) * 146097)) - ((min (((n - 1) - (((n - 1) / 146097) * 146097)) / 36524) 3) * 36524)) / 1461))) + (min (((((n - 1) - (((n - 1) / 146097) * 146097)) - ((min (((n - 1) - (((n - 1) / 146097) * 146097)) / 36524) 3) * 36524)) - (((((n - 1) - (((n - 1) / 146097) * 146097)) - ((min (((n - 1) - (((n - 1) / 146097) * 146097)) / 36524) 3) * 36524)) / 1461) * 1461)) / 365) 3))), (38, .int .i64 (min (((((n - 1) - (((n - 1) / 146097) * 146097)) - ((min (((n - 1) - (((n - 1) / 146097) * 146097)) / 36524) 3) * 36524)) - (((((n - 1) - (((n - 1) / 146097) * 146097)) - ((min (((n - 1) - (((n - 1) / 146097) * 146097)) / 36524) 3) * 36524)) / 1461) * 1461)) / 365) 3)), (37, .int .i64 (((((n - 1) - (((n - 1) / 146097) * 146097)) - ((min (((n - 1) - (((n - 1) / 146097) * 146097)) / 36524) 3) * 36524)) - (((((n - 1) - (((n - 1) / 146097) * 146097)) - ((min (((n - 1) - (((n - 1) / 146097) * 146097)) / 36524) 3) * 36524)) / 1461) * 1461)) / 365)), (36, .int .i64 ((((n - 1) - (((n - 1) / 146097) * 146097)) - ((min (((n - 1) - (((n - 1) / 146097) * 146097)) / 36524) 3) * 36524)) - (((((n - 1) - (((n - 1) / 146097) * 146097)) - ((min (((n - 1) - (((n - 1) / 146097) * 146097)) / 36524) 3) * 36524)) / 1461) * 1461))), (35, .int .i64 (((400 * ((n - 1) / 146097)) + (100 * (min (((n - 1) - (((n - 1) / 146097) * 146097)) / 36524) 3))) + (4 * ((((n - 1) - (((n - 1) / 146097) * 146097)) - ((min (((n - 1) - (((n - 1) / 146097) * 146097)) / 36524) 3) * 36524)) / 1461)))), (34, .int .i64 (4 * ((((n - 1) - (((n - 1) / 146097) * 146097)) - ((min (((n - 1) - (((n - 1) / 146097) * 146097)) / 36524) 3) * 36524)) / 1461))), (33, .int .i64 ((((n - 1) - (((n - 1) / 146097) * 146097)) - ((min (((n - 1) - (((n - 1) / 146097) * 146097)) / 36524) 3) * 36524)) / 1461)), (32, .int .i64 ((400 * ((n - 1) / 146097)) + (100 * (min (((n - 1) - (((n - 1) / 146097) * 146097)) / 36524) 3)))), (31, .int .i64 (100 * (min (((n - 1) - (((n - 1) / 146097) * 146097)) / 36524) 3))), (30, .int .i64 (min (((n - 1) - (((n - 1) / 146097) * 146097)) / 36524) 3)), (29, .int .i64 (400 * ((n - 1) / 146097))), (28, .int .i64 ((n - 1) / 146097)), (3, .int .i64 ((((n - 1) - (((n - 1) / 146097) * 146097)) - ((min (((n - 1) - (((n - 1) / 146097) * 146097)) / 36524) 3) * 36524)) - (((((n - 1) - (((n - 1) / 146097) * 146097)) - ((min (((n - 1) - (((n - 1) / 146097) * 146097)) / 36524) 3) * 36524)) / 1461) * 1461))), (27, .int .i64 ((((n - 1) - (((n - 1) / 146097) * 146097)) - ((min (((n - 1) - (((n - 1) / 146097) * 146097)) / 36524) 3) * 36524)) - (((((n - 1) - (((n - 1) / 146097) * 146097)) - ((min (((n - 1) - (((n - 1) / 146097) * 146097)) / 36524) 3) * 36524)) / 1461) * 1461))), (26, .int .i64 (((((n - 1) - (((n - 1) / 146097) * 146097)) - ((min (((n - 1) - (((n - 1) / 146097) * 146097)) / 36524) 3) * 36524)) / 1461) * 1461)), (25, .int .i64 ((((n - 1) - (((n - 1) / 146097) * 146097)) - ((min (((n - 1) - (((n - 1) / 146097) * 146097)) / 36524) 3) * 36524)) / 1461)), (24, .int .i64 (((n - 1) - (((n - 1) / 146097) * 146097)) - ((min (((n - 1) - (((n - 1) / 146097) * 146097)) / 36524) 3) * 36524))), (6, .int .i64 ((((n - 1) - (((n - 1) / 146097) * 146097)) - ((min (((n - 1) - (((n - 1) / 146097) * 146097)) / 36524) 3) * 36524)) / 1461)), (23, .int .i64 ((((n - 1) - (((n - 1) / 146097) * 146097)) - ((min (((n - 1) - (((n - 1) / 146097) * 146097)) / 36524) 3) * 36524)) / 1461)), (22, .int .i64 (((n - 1) - (((n - 1) / 146097) * 146097)) - ((min (((n - 1) - (((n - 1) / 146097) * 146097)) / 36524) 3) * 36524))), (21, .int .i64 (((n - 1) - (((n - 1) / 146097) * 146097)) - ((min (((n - 1) - (((n - 1) / 146097) * 146097)) / 36524) 3) * 36524))), (20, .int .i64 ((min (((n - 1) - (((n - 1) / 146097) * 146097)) / 36524) 3) * 36524)), (19, .int .i64 (min (((n - 1) - (((n - 1) / 146097) * 146097)) / 36524) 3)), (18, .int .i64 ((n - 1) - (((n - 1) / 146097) * 146097))), (5, .int .i64 (min (((n - 1) - (((n - 1) / 146097) * 146097)) / 36524) 3)), (17, .int .i64 (min (((n - 1) - (((n - 1) / 146097) * 146097)) / 36524) 3)), (16, .int .i64 (((n - 1) - (((n - 1) / 146097) * 146097)) / 36524)), (15, .int .i64 ((n - 1) - (((n - 1) / 146097) * 146097))), (14, .int .i64 ((n - 1) - (((n - 1) / 146097) * 146097))), (13, .int .i64 (((n - 1) / 146097) * 146097)), (12, .int .i64 ((n - 1) / 146097)), (11, .int .i64 (n - 1)), (4, .int .i64 ((n - 1) / 146097)), (10, .int .i64 ((n - 1) / 146097)), (9, .int .i64 (n - 1)), (8, .int .i64 (n - 1)), (7, .int .i64 n), (0, .int .i64 n)]) hF (r_assign (hF.at 0 rfl)) rfl rfl rfl rfl fun a hF => ?_
  refine E.nil ?_
  refine wp_ret ?_
  refine bodyPost_ret (res_tmp Tryd.results39 (hF.at 0 rfl)) hF.dfr ?_
  refine ⟨rv_int ?_, bel⟩
  rfl

set_option maxHeartbeats 8000000 in
theorem cfixC_any (y m d : Int) (w : World) (hT : TabC w) :
    Calls Tryd.prog 17 #[.agg #[.int .i64 y, .int .i64 m, .int .i64 d]] w (ValPost w (.tuple #[.int .i64 (fixN calC y m d), .int .i64 (fixE calC y m d)])) := by
  have hmd := mlen_bd (leapC y) m
  have bel : Below w.heap.size w w := Below.refl _ _
  refine E.enter (nt := 52) (L := [(0, .agg #[.int .i64 y, .int .i64 m, .int .i64 d])]) Tryd.func17 rfl rfl rfl (args_cons (i := 0) rfl args_nil) ?_
  intro a hF
  refine wp_seq ?_
  refine E.seq ?_
  obtain ⟨g1, w1, ge1, hr, bb, o1⟩ := blk_box (P := Tryd.prog) (w := w) (cs := [.int .i64 y, .int .i64 m, .int .i64 d]) (v := .agg #[.int .i64 y, .int .i64 m, .int .i64 d]) 24 rfl
  replace ge1 : w.heap.size ≤ g1 := by rw [← ge1]; exact bel.size
  refine E.opv hF (r_box (hF.at 0 rfl) hr) rfl rfl rfl rfl fun a hF => ?_
  clear hr
  replace bel := below_to bel bb
  clear bb
  refine E.opv hF (r_assign ev_c) rfl rfl rfl rfl fun a hF => ?_
  refine E.opv hF (r_assign ev_c) rfl rfl rfl rfl fun a hF => ?_
  refine E.nil ?_
  refine wp_seq ?_
  refine wp_block ?_
  refine wp_seq ?_
  refine E.seq ?_
  refine E.opv hF (r_field (hF.at 2 rfl) (fa_CDate_0 (p := 0) rfl)) rfl rfl rfl rfl fun a hF => ?_
  refine E.opv hF (r_load (hF.at 0 rfl) (ldb_i64 (v := .int .i64 y) o1 rfl)) rfl rfl rfl rfl fun a hF => ?_
  by_cases hc2 : y < (-9000)
  · first
    | (exfalso; omega)
    | (refine E.opv hF (r_bin (hF.at 0 rfl) ev_c eg_scalar (bi_int (ic_lss (c := true) (dec_tt hc2)) (by simp))) rfl rfl rfl rfl fun a hF => ?_
       refine E.opv hF (r_move (hF.at 0 rfl)) rfl rfl rfl rfl fun a hF => ?_
       refine E.unwanted hF (wanted_by rfl rfl (hF.at 0 rfl) rfl) rfl rfl rfl fun a hF => ?_
       refine E.unwanted hF (wanted_by rfl rfl (hF.at 1 rfl) rfl) rfl rfl rfl fun a hF => ?_
       refine E.unwanted hF (wanted_by rfl rfl (hF.at 2 rfl) rfl) rfl rfl rfl fun a hF => ?_
       refine E.opv hF (r_pick_t (hF.at 3 rfl) ev_c) rfl rfl rfl rfl fun a hF => ?_
       refine E.opv hF (r_assign (hF.at 0 rfl)) rfl rfl rfl rfl fun a hF => ?_
       refine E.nil ?_
       refine wp_cond_true (hF.at 0 rfl) ?_
       refine wp_seq ?_
       refine E.seq ?_
       refine E.opset (L' := [(2, .int .i64 0), (6, .bool true), (14, .bool true), (13, undef), (12, undef), (11, undef), (10, .bool true), (9, .bool true), (8, .int .i64 y), (7, .pointer (some ⟨g1, 0, none⟩)), (3, .int .i64 0), (1, .pointer (some ⟨g1, 0, none⟩)), (0, .agg #[.int .i64 y, .int .i64 m, .int .i64 d])]) hF (r_assign ev_c) rfl rfl rfl rfl fun a hF => ?_
       refine E.opset (L' := [(3, .int .i64 2), (2, .int .i64 0), (6, .bool true), (14, .bool true), (13, undef), (12, undef), (11, undef), (10, .bool true), (9, .bool true), (8, .int .i64 y), (7, .pointer (some ⟨g1, 0, none⟩)), (1, .pointer (some ⟨g1, 0, none⟩)), (0, .agg #[.int .i64 y, .int .i64 m, .int .i64 d])]) hF (r_assign ev_c) rfl rfl rfl rfl fun a hF => ?_
       refine E.nil ?_
       refine wp_ret ?_
       refine bodyPost_ret (res_tmp2 Tryd.results17 (hF.at 1 rfl) (hF.at 0 rfl)) hF.dfr ?_
       refine ⟨rv_int2 ?_ ?_, bel⟩
       · exact (fix_year (by omega)).1
       · exact (fix_year (by omega)).2)
  · first
    | (exfalso; omega)
    | (refine E.opv hF (r_bin (hF.at 0 rfl) ev_c eg_scalar (bi_int (ic_lss (c := false) (dec_ff hc2)) (by simp))) rfl rfl rfl rfl fun a hF => ?_
       refine E.opv hF (r_move (hF.at 0 rfl)) rfl rfl rfl rfl fun a hF => ?_
       refine E.opvg hF (r_field (hF.at 6 rfl) (fa_CDate_0 (p := 0) rfl)) (wanted_by rfl rfl (hF.at 0 rfl) rfl) rfl rfl rfl fun a hF => ?_
       refine E.opvg hF (r_load (hF.at 0 rfl) (ldb_i64 (v := .int .i64 y) o1 rfl)) (wanted_by rfl rfl (hF.at 1 rfl) rfl) rfl rfl rfl fun a hF => ?_
       by_cases hc3 : 9000 < y
       · first
         | (exfalso; omega)
         | (refine E.opvg hF (r_bin (hF.at 0 rfl) ev_c eg_scalar (bi_int (ic_gtr (c := true) (dec_tt hc3)) (by simp))) (wanted_by rfl rfl (hF.at 2 rfl) rfl) rfl rfl rfl fun a hF => ?_
            refine E.opv hF (r_pick_f (hF.at 3 rfl) (hF.at 0 rfl)) rfl rfl rfl rfl fun a hF => ?_
            refine E.opv hF (r_assign (hF.at 0 rfl)) rfl rfl rfl rfl fun a hF => ?_
            refine E.nil ?_
            refine wp_cond_true (hF.at 0 rfl) ?_
            refine wp_seq ?_
            refine E.seq ?_
            refine E.opset (L' := [(2, .int .i64 0), (6, .bool true), (14, .bool true), (13, .bool true), (12, .int .i64 y), (11, .pointer (some ⟨g1, 0, none⟩)), (10, .bool false), (9, .bool false), (8, .int .i64 y), (7, .pointer (some ⟨g1, 0, none⟩)), (3, .int .i64 0), (1, .pointer (some ⟨g1, 0, none⟩)), (0, .agg #[.int .i64 y, .int .i64 m, .int .i64 d])]) hF (r_assign ev_c) rfl rfl rfl rfl fun a hF => ?_
            refine E.opset (L' := [(3, .int .i64 2), (2, .int .i64 0), (6, .bool true), (14, .bool true), (13, .bool true), (12, .int .i64 y), (11, .pointer (some ⟨g1, 0, none⟩)), (10, .bool false), (9, .bool false), (8, .int .i64 y), (7, .pointer (some ⟨g1, 0, none⟩)), (1, .pointer (some ⟨g1, 0, none⟩)), (0, .agg #[.int .i64 y, .int .i64 m, .int .i64 d])]) hF (r_assign ev_c) rfl rfl rfl rfl fun a hF => ?_
            refine E.nil ?_
            refine wp_ret ?_
            refine bodyPost_ret (res_tmp2 Tryd.results17 (hF.at 1 rfl) (hF.at 0 rfl)) hF.dfr ?_
            refine ⟨rv_int2 ?_ ?_, bel⟩
            · exact (fix_year (by omega)).1
            · exact (fix_year (by omega)).2)
       · first
         | (exfalso; omega)
         | (refine E.opvg hF (r_bin (hF.at 0 rfl) ev_c eg_scalar (bi_int (ic_gtr (c := false) (dec_ff hc3)) (by simp))) (wanted_by rfl rfl (hF.at 2 rfl) rfl) rfl rfl rfl fun a hF => ?_
            refine E.opv hF (r_pick_f (hF.at 3 rfl) (hF.at 0 rfl)) rfl rfl rfl rfl fun a hF => ?_
            refine E.opv hF (r_assign (hF.at 0 rfl)) rfl rfl rfl rfl fun a hF => ?_
            refine E.nil ?_
            refine wp_cond_false (hF.at 0 rfl) ?_
            refine wp_seq ?_
            by_cases hc4 : d < 1
            · first
              | (exfalso; omega)
              | (refine E.drawn 14 mixed hF [16, 17, 18, 19, 20, 21, 22, 23, 24, 25, 26, 27, 28, 15] [(fun _ v => v = .pointer (some ⟨g1, 2, none⟩)), (fun _ v => v = .int .i64 d), (fun _ v => v = .bool true), (fun _ v => v = .bool true), (fun _ v => v = undef), (fun _ v => v = undef), (fun _ v => v = undef), (fun _ v => v = undef), (fun _ v => v = undef), (fun _ v => v = undef), (fun _ v => v = undef), (fun _ v => v = undef), (fun _ v => v = .bool true), (fun _ v => v = .bool true)] [] (by decide +kernel) (by decide +kernel) rfl rfl rfl ⟨(Mb.eq _), (Mb.eq _), (Mb.eq _), (Mb.eq _), (Mb.eq _), (Mb.eq _), (Mb.eq _), (Mb.eq _), (Mb.eq _), (Mb.eq _), (Mb.eq _), (Mb.eq _), (Mb.eq _), (Mb.eq _), trivial⟩ trivial ⟨?_, ?_, ?_, ?_, ?_, ?_, ?_, ?_, ?_, ?_, ?_, ?_, ?_, ?_, trivial⟩ ?_
                 · intro a' w' hF' hb hd
                   exact if_does (wanted_free rfl) (Does.vals (r_field (hF'.at 11 rfl) (fa_CDate_2 (p := 2) rfl)) ⟨rfl, Below.refl _ _, (fun h => absurd h (by decide))⟩)
                 · intro a' w' hF' hb hd
                   have e16 : a'.tmps.getD 16 undef = .pointer (some ⟨g1, 2, none⟩) := hd _ 16 (Array.mem_of_getElem? (i := 0) rfl) rfl rfl
                   exact if_does (wanted_free rfl) (Does.vals (r_load e16 (ldb_int (v := .int .i64 d) (o1.below hb) rfl)) ⟨rfl, Below.refl _ _, (fun h => absurd h (by decide))⟩)
                 · intro a' w' hF' hb hd
                   have e17 : a'.tmps.getD 17 undef = .int .i64 d := hd _ 17 (Array.mem_of_getElem? (i := 0) rfl) rfl rfl
                   exact if_does (wanted_free rfl) (Does.vals (r_bin e17 ev_c eg_scalar (bi_int (ic_lss (c := true) (dec_tt hc4)) (by simp))) ⟨rfl, Below.refl _ _, (fun h => absurd h (by decide))⟩)
                 · intro a' w' hF' hb hd
                   have e18 : a'.tmps.getD 18 undef = .bool true := hd _ 18 (Array.mem_of_getElem? (i := 0) rfl) rfl rfl
                   exact if_does (wanted_free rfl) (Does.vals (r_move e18) ⟨rfl, Below.refl _ _, (fun h => absurd h (by decide))⟩)
                 · intro a' w' hF' hb hd
                   have e19 : a'.tmps.getD 19 undef = .bool true := hd _ 19 (Array.mem_of_getElem? (i := 0) rfl) rfl rfl
                   exact if_not (wanted_by rfl rfl e19 rfl) ⟨rfl, by decide⟩
                 · intro a' w' hF' hb hd
                   have e19 : a'.tmps.getD 19 undef = .bool true := hd _ 19 (Array.mem_of_getElem? (i := 1) rfl) rfl rfl
                   exact if_not (wanted_by rfl rfl e19 rfl) ⟨rfl, by decide⟩
                 · intro a' w' hF' hb hd
                   have e19 : a'.tmps.getD 19 undef = .bool true := hd _ 19 (Array.mem_of_getElem? (i := 0) rfl) rfl rfl
                   exact if_not (wanted_by rfl rfl e19 rfl) ⟨rfl, by decide⟩
                 · intro a' w' hF' hb hd
                   have e19 : a'.tmps.getD 19 undef = .bool true := hd _ 19 (Array.mem_of_getElem? (i := 1) rfl) rfl rfl
                   exact if_not (wanted_by rfl rfl e19 rfl) ⟨rfl, by decide⟩
                 · intro a' w' hF' hb hd
                   have e19 : a'.tmps.getD 19 undef = .bool true := hd _ 19 (Array.mem_of_getElem? (i := 0) rfl) rfl rfl
                   exact if_not (wanted_by rfl rfl e19 rfl) ⟨rfl, by decide⟩
                 · intro a' w' hF' hb hd
                   have e19 : a'.tmps.getD 19 undef = .bool true := hd _ 19 (Array.mem_of_getElem? (i := 1) rfl) rfl rfl
                   exact if_not (wanted_by rfl rfl e19 rfl) ⟨rfl, by decide⟩
                 · intro a' w' hF' hb hd
                   have e19 : a'.tmps.getD 19 undef = .bool true := hd _ 19 (Array.mem_of_getElem? (i := 2) rfl) rfl rfl
                   exact if_not (wanted_by rfl rfl e19 rfl) ⟨rfl, by decide⟩
                 · intro a' w' hF' hb hd
                   have e19 : a'.tmps.getD 19 undef = .bool true := hd _ 19 (Array.mem_of_getElem? (i := 2) rfl) rfl rfl
                   exact if_not (wanted_by rfl rfl e19 rfl) ⟨rfl, by decide⟩
                 · intro a' w' hF' hb hd
                   have e19 : a'.tmps.getD 19 undef = .bool true := hd _ 19 (Array.mem_of_getElem? (i := 0) rfl) rfl rfl
                   exact if_does (wanted_free rfl) (Does.vals (r_pick_t e19 ev_c) ⟨rfl, Below.refl _ _, (fun h => absurd h (by decide))⟩)
                 · intro a' w' hF' hb hd
                   have e28 : a'.tmps.getD 28 undef = .bool true := hd _ 28 (Array.mem_of_getElem? (i := 0) rfl) rfl rfl
                   exact if_does (wanted_free rfl) (Does.vals (r_assign e28) ⟨rfl, Below.refl _ _, (fun h => absurd h (by decide))⟩)
                 intro a w5 hF bb hall hne
                 have e15 : a.tmps.getD 15 undef = .bool true := hall 13 15 rfl
                 clear hall hne
                 replace o1 := o1.below bb
                 replace bel := below_to bel bb
                 clear bb
                 replace hF := hF.add e15
                 clear e15
                 refine E.nil ?_
                 refine wp_cond_true (hF.at 0 rfl) ?_
                 refine wp_seq ?_
                 refine E.seq ?_
                 refine E.opset (L' := [(2, .int .i64 0), (15, .bool true), (6, .bool false), (14, .bool false), (13, .bool false), (12, .int .i64 y), (11, .pointer (some ⟨g1, 0, none⟩)), (10, .bool false), (9, .bool false), (8, .int .i64 y), (7, .pointer (some ⟨g1, 0, none⟩)), (3, .int .i64 0), (1, .pointer (some ⟨g1, 0, none⟩)), (0, .agg #[.int .i64 y, .int .i64 m, .int .i64 d])]) hF (r_assign ev_c) rfl rfl rfl rfl fun a hF => ?_
                 refine E.opset (L' := [(3, .int .i64 4), (2, .int .i64 0), (15, .bool true), (6, .bool false), (14, .bool false), (13, .bool false), (12, .int .i64 y), (11, .pointer (some ⟨g1, 0, none⟩)), (10, .bool false), (9, .bool false), (8, .int .i64 y), (7, .pointer (some ⟨g1, 0, none⟩)), (1, .pointer (some ⟨g1, 0, none⟩)), (0, .agg #[.int .i64 y, .int .i64 m, .int .i64 d])]) hF (r_assign ev_c) rfl rfl rfl rfl fun a hF => ?_
                 refine E.nil ?_
                 refine wp_ret ?_
                 refine bodyPost_ret (res_tmp2 Tryd.results17 (hF.at 1 rfl) (hF.at 0 rfl)) hF.dfr ?_
                 refine ⟨rv_int2 ?_ ?_, bel⟩
                 · exact (fix_bad (by omega) (by unfold Val; show ¬ (1 ≤ m ∧ m ≤ 12 ∧ 1 ≤ d ∧ d ≤ mlen (leapC y) m); omega)).1
                 · exact (fix_bad (by omega) (by unfold Val; show ¬ (1 ≤ m ∧ m ≤ 12 ∧ 1 ≤ d ∧ d ≤ mlen (leapC y) m); omega)).2)
            · first
              | (exfalso; omega)
              | (by_cases hc6 : mlen (leapC y) m < d
                 · first
                   | (exfalso; omega)
                   | (refine E.drawn 14 mixed hF [16, 17, 18, 19, 20, 21, 22, 23, 24, 25, 26, 27, 28, 15] [(fun _ v => v = .pointer (some ⟨g1, 2, none⟩)), (fun _ v => v = .int .i64 d), (fun _ v => v = .bool false), (fun _ v => v = .bool false), (fun _ v => v = .pointer (some ⟨g1, 2, none⟩)), (fun _ v => v = .int .i64 d), (fun _ v => v = .pointer (some ⟨g1, 0, none⟩)), (fun _ v => v = .int .i64 y), (fun _ v => v = .pointer (some ⟨g1, 1, none⟩)), (fun _ v => v = .int .i64 m), (fun _ v => v = .int .i64 (mlen (leapC y) m)), (fun _ v => v = .bool true), (fun _ v => v = .bool true), (fun _ v => v = .bool true)] [] (by decide +kernel) (by decide +kernel) rfl rfl rfl ⟨(Mb.eq _), (Mb.eq _), (Mb.eq _), (Mb.eq _), (Mb.eq _), (Mb.eq _), (Mb.eq _), (Mb.eq _), (Mb.eq _), (Mb.eq _), (Mb.eq _), (Mb.eq _), (Mb.eq _), (Mb.eq _), trivial⟩ trivial ⟨?_, ?_, ?_, ?_, ?_, ?_, ?_, ?_, ?_, ?_, ?_, ?_, ?_, ?_, trivial⟩ ?_
                      · intro a' w' hF' hb hd
                        exact if_does (wanted_free rfl) (Does.vals (r_field (hF'.at 11 rfl) (fa_CDate_2 (p := 2) rfl)) ⟨rfl, Below.refl _ _, (fun h => absurd h (by decide))⟩)
                      · intro a' w' hF' hb hd
                        have e16 : a'.tmps.getD 16 undef = .pointer (some ⟨g1, 2, none⟩) := hd _ 16 (Array.mem_of_getElem? (i := 0) rfl) rfl rfl
                        exact if_does (wanted_free rfl) (Does.vals (r_load e16 (ldb_int (v := .int .i64 d) (o1.below hb) rfl)) ⟨rfl, Below.refl _ _, (fun h => absurd h (by decide))⟩)
                      · intro a' w' hF' hb hd
                        have e17 : a'.tmps.getD 17 undef = .int .i64 d := hd _ 17 (Array.mem_of_getElem? (i := 0) rfl) rfl rfl
                        exact if_does (wanted_free rfl) (Does.vals (r_bin e17 ev_c eg_scalar (bi_int (ic_lss (c := false) (dec_ff hc4)) (by simp))) ⟨rfl, Below.refl _ _, (fun h => absurd h (by decide))⟩)
                      · intro a' w' hF' hb hd
                        have e18 : a'.tmps.getD 18 undef = .bool false := hd _ 18 (Array.mem_of_getElem? (i := 0) rfl) rfl rfl
                        exact if_does (wanted_free rfl) (Does.vals (r_move e18) ⟨rfl, Below.refl _ _, (fun h => absurd h (by decide))⟩)
                      · intro a' w' hF' hb hd
                        have e19 : a'.tmps.getD 19 undef = .bool false := hd _ 19 (Array.mem_of_getElem? (i := 0) rfl) rfl rfl
                        exact if_does (wanted_by rfl rfl e19 rfl) (Does.vals (r_field (hF'.at 11 rfl) (fa_CDate_2 (p := 2) rfl)) ⟨rfl, Below.refl _ _, (fun h => absurd h (by decide))⟩)
                      · intro a' w' hF' hb hd
                        have e19 : a'.tmps.getD 19 undef = .bool false := hd _ 19 (Array.mem_of_getElem? (i := 1) rfl) rfl rfl
                        have e20 : a'.tmps.getD 20 undef = .pointer (some ⟨g1, 2, none⟩) := hd _ 20 (Array.mem_of_getElem? (i := 0) rfl) rfl rfl
                        exact if_does (wanted_by rfl rfl e19 rfl) (Does.vals (r_load e20 (ldb_int (v := .int .i64 d) (o1.below hb) rfl)) ⟨rfl, Below.refl _ _, (fun h => absurd h (by decide))⟩)
                      · intro a' w' hF' hb hd
                        have e19 : a'.tmps.getD 19 undef = .bool false := hd _ 19 (Array.mem_of_getElem? (i := 0) rfl) rfl rfl
                        exact if_does (wanted_by rfl rfl e19 rfl) (Does.vals (r_field (hF'.at 11 rfl) (fa_CDate_0 (p := 0) rfl)) ⟨rfl, Below.refl _ _, (fun h => absurd h (by decide))⟩)
                      · intro a' w' hF' hb hd
                        have e19 : a'.tmps.getD 19 undef = .bool false := hd _ 19 (Array.mem_of_getElem? (i := 1) rfl) rfl rfl
                        have e22 : a'.tmps.getD 22 undef = .pointer (some ⟨g1, 0, none⟩) := hd _ 22 (Array.mem_of_getElem? (i := 0) rfl) rfl rfl
                        exact if_does (wanted_by rfl rfl e19 rfl) (Does.vals (r_load e22 (ldb_i64 (v := .int .i64 y) (o1.below hb) rfl)) ⟨rfl, Below.refl _ _, (fun h => absurd h (by decide))⟩)
                      · intro a' w' hF' hb hd
                        have e19 : a'.tmps.getD 19 undef = .bool false := hd _ 19 (Array.mem_of_getElem? (i := 0) rfl) rfl rfl
                        exact if_does (wanted_by rfl rfl e19 rfl) (Does.vals (r_field (hF'.at 11 rfl) (fa_CDate_1 (p := 1) rfl)) ⟨rfl, Below.refl _ _, (fun h => absurd h (by decide))⟩)
                      · intro a' w' hF' hb hd
                        have e19 : a'.tmps.getD 19 undef = .bool false := hd _ 19 (Array.mem_of_getElem? (i := 1) rfl) rfl rfl
                        have e24 : a'.tmps.getD 24 undef = .pointer (some ⟨g1, 1, none⟩) := hd _ 24 (Array.mem_of_getElem? (i := 0) rfl) rfl rfl
                        exact if_does (wanted_by rfl rfl e19 rfl) (Does.vals (r_load e24 (ldb_int (v := .int .i64 m) (o1.below hb) rfl)) ⟨rfl, Below.refl _ _, (fun h => absurd h (by decide))⟩)
                      · intro a' w' hF' hb hd
                        have e19 : a'.tmps.getD 19 undef = .bool false := hd _ 19 (Array.mem_of_getElem? (i := 2) rfl) rfl rfl
                        have e23 : a'.tmps.getD 23 undef = .int .i64 y := hd _ 23 (Array.mem_of_getElem? (i := 0) rfl) rfl rfl
                        have e25 : a'.tmps.getD 25 undef = .int .i64 m := hd _ 25 (Array.mem_of_getElem? (i := 1) rfl) rfl rfl
                        refine if_does (wanted_by rfl rfl e19 rfl) (Does.calls (r_call Tryd.func20 en20.1 en20.2 (map2 e23 e25)) (clenC_any y m _ (hT.below (below_to bel hb))) ?_)
                        rintro e w'' ⟨rfl, bb⟩
                        exact ⟨_, rfl, rfl, bb, (fun h => absurd h (by decide))⟩
                      · intro a' w' hF' hb hd
                        have e19 : a'.tmps.getD 19 undef = .bool false := hd _ 19 (Array.mem_of_getElem? (i := 2) rfl) rfl rfl
                        have e21 : a'.tmps.getD 21 undef = .int .i64 d := hd _ 21 (Array.mem_of_getElem? (i := 0) rfl) rfl rfl
                        have e26 : a'.tmps.getD 26 undef = .int .i64 (mlen (leapC y) m) := hd _ 26 (Array.mem_of_getElem? (i := 1) rfl) rfl rfl
                        exact if_does (wanted_by rfl rfl e19 rfl) (Does.vals (r_bin e21 e26 eg_scalar (bi_int (ic_gtr (c := true) (dec_tt hc6)) (by simp))) ⟨rfl, Below.refl _ _, (fun h => absurd h (by decide))⟩)
                      · intro a' w' hF' hb hd
                        have e19 : a'.tmps.getD 19 undef = .bool false := hd _ 19 (Array.mem_of_getElem? (i := 0) rfl) rfl rfl
                        have e27 : a'.tmps.getD 27 undef = .bool true := hd _ 27 (Array.mem_of_getElem? (i := 1) rfl) rfl rfl
                        exact if_does (wanted_free rfl) (Does.vals (r_pick_f e19 e27) ⟨rfl, Below.refl _ _, (fun h => absurd h (by decide))⟩)
                      · intro a' w' hF' hb hd
                        have e28 : a'.tmps.getD 28 undef = .bool true := hd _ 28 (Array.mem_of_getElem? (i := 0) rfl) rfl rfl
                        exact if_does (wanted_free rfl) (Does.vals (r_assign e28) ⟨rfl, Below.refl _ _, (fun h => absurd h (by decide))⟩)
                      intro a w7 hF bb hall hne
                      have e15 : a.tmps.getD 15 undef = .bool true := hall 13 15 rfl
                      clear hall hne
                      replace o1 := o1.below bb
                      replace bel := below_to bel bb
                      clear bb
                      replace hF := hF.add e15
                      clear e15
                      refine E.nil ?_
                      refine wp_cond_true (hF.at 0 rfl) ?_
                      refine wp_seq ?_
                      refine E.seq ?_
                      refine E.opset (L' := [(2, .int .i64 0), (15, .bool true), (6, .bool false), (14, .bool false), (13, .bool false), (12, .int .i64 y), (11, .pointer (some ⟨g1, 0, none⟩)), (10, .bool false), (9, .bool false), (8, .int .i64 y), (7, .pointer (some ⟨g1, 0, none⟩)), (3, .int .i64 0), (1, .pointer (some ⟨g1, 0, none⟩)), (0, .agg #[.int .i64 y, .int .i64 m, .int .i64 d])]) hF (r_assign ev_c) rfl rfl rfl rfl fun a hF => ?_
                      refine E.opset (L' := [(3, .int .i64 4), (2, .int .i64 0), (15, .bool true), (6, .bool false), (14, .bool false), (13, .bool false), (12, .int .i64 y), (11, .pointer (some ⟨g1, 0, none⟩)), (10, .bool false), (9, .bool false), (8, .int .i64 y), (7, .pointer (some ⟨g1, 0, none⟩)), (1, .pointer (some ⟨g1, 0, none⟩)), (0, .agg #[.int .i64 y, .int .i64 m, .int .i64 d])]) hF (r_assign ev_c) rfl rfl rfl rfl fun a hF => ?_
                      refine E.nil ?_
                      refine wp_ret ?_
                      refine bodyPost_ret (res_tmp2 Tryd.results17 (hF.at 1 rfl) (hF.at 0 rfl)) hF.dfr ?_
                      refine ⟨rv_int2 ?_ ?_, bel⟩
                      · exact (fix_bad (by omega) (by unfold Val; show ¬ (1 ≤ m ∧ m ≤ 12 ∧ 1 ≤ d ∧ d ≤ mlen (leapC y) m); omega)).1
                      · exact (fix_bad (by omega) (by unfold Val; show ¬ (1 ≤ m ∧ m ≤ 12 ∧ 1 ≤ d ∧ d ≤ mlen (leapC y) m); omega)).2)
                 · first
                   | (exfalso; omega)
                   | (refine E.drawn 14 mixed hF [16, 17, 18, 19, 20, 21, 22, 23, 24, 25, 26, 27, 28, 15] [(fun _ v => v = .pointer (some ⟨g1, 2, none⟩)), (fun _ v => v = .int .i64 d), (fun _ v => v = .bool false), (fun _ v => v = .bool false), (fun _ v => v = .pointer (some ⟨g1, 2, none⟩)), (fun _ v => v = .int .i64 d), (fun _ v => v = .pointer (some ⟨g1, 0, none⟩)), (fun _ v => v = .int .i64 y), (fun _ v => v = .pointer (some ⟨g1, 1, none⟩)), (fun _ v => v = .int .i64 m), (fun _ v => v = .int .i64 (mlen (leapC y) m)), (fun _ v => v = .bool false), (fun _ v => v = .bool false), (fun _ v => v = .bool false)] [] (by decide +kernel) (by decide +kernel) rfl rfl rfl ⟨(Mb.eq _), (Mb.eq _), (Mb.eq _), (Mb.eq _), (Mb.eq _), (Mb.eq _), (Mb.eq _), (Mb.eq _), (Mb.eq _), (Mb.eq _), (Mb.eq _), (Mb.eq _), (Mb.eq _), (Mb.eq _), trivial⟩ trivial ⟨?_, ?_, ?_, ?_, ?_, ?_, ?_, ?_, ?_, ?_, ?_, ?_, ?_, ?_, trivial⟩ ?_
                      · intro a' w' hF' hb hd
                        exact if_does (wanted_free rfl) (Does.vals (r_field (hF'.at 11 rfl) (fa_CDate_2 (p := 2) rfl)) ⟨rfl, Below.refl _ _, (fun h => absurd h (by decide))⟩)
                      · intro a' w' hF' hb hd
                        have e16 : a'.tmps.getD 16 undef = .pointer (some ⟨g1, 2, none⟩) := hd _ 16 (Array.mem_of_getElem? (i := 0) rfl) rfl rfl
                        exact if_does (wanted_free rfl) (Does.vals (r_load e16 (ldb_int (v := .int .i64 d) (o1.below hb) rfl)) ⟨rfl, Below.refl _ _, (fun h => absurd h (by decide))⟩)
                      · intro a' w' hF' hb hd
                        have e17 : a'.tmps.getD 17 undef = .int .i64 d := hd _ 17 (Array.mem_of_getElem? (i := 0) rfl) rfl rfl
                        exact if_does (wanted_free rfl) (Does.vals (r_bin e17 ev_c eg_scalar (bi_int (ic_lss (c := false) (dec_ff hc4)) (by simp))) ⟨rfl, Below.refl _ _, (fun h => absurd h (by decide))⟩)
                      · intro a' w' hF' hb hd
                        have e18 : a'.tmps.getD 18 undef = .bool false := hd _ 18 (Array.mem_of_getElem? (i := 0) rfl) rfl rfl
                        exact if_does (wanted_free rfl) (Does.vals (r_move e18) ⟨rfl, Below.refl _ _, (fun h => absurd h (by decide))⟩)
                      · intro a' w' hF' hb hd
                        have e19 : a'.tmps.getD 19 undef = .bool false := hd _ 19 (Array.mem_of_getElem? (i := 0) rfl) rfl rfl
                        exact if_does (wanted_by rfl rfl e19 rfl) (Does.vals (r_field (hF'.at 11 rfl) (fa_CDate_2 (p := 2) rfl)) ⟨rfl, Below.refl _ _, (fun h => absurd h (by decide))⟩)
                      · intro a' w' hF' hb hd
                        have e19 : a'.tmps.getD 19 undef = .bool false := hd _ 19 (Array.mem_of_getElem? (i := 1) rfl) rfl rfl
                        have e20 : a'.tmps.getD 20 undef = .pointer (some ⟨g1, 2, none⟩) := hd _ 20 (Array.mem_of_getElem? (i := 0) rfl) rfl rfl
                        exact if_does (wanted_by rfl rfl e19 rfl) (Does.vals (r_load e20 (ldb_int (v := .int .i64 d) (o1.below hb) rfl)) ⟨rfl, Below.refl _ _, (fun h => absurd h (by decide))⟩)
                      · intro a' w' hF' hb hd
                        have e19 : a'.tmps.getD 19 undef = .bool false := hd _ 19 (Array.mem_of_getElem? (i := 0) rfl) rfl rfl
                        exact if_does (wanted_by rfl rfl e19 rfl) (Does.vals (r_field (hF'.at 11 rfl) (fa_CDate_0 (p := 0) rfl)) ⟨rfl, Below.refl _ _, (fun h => absurd h (by decide))⟩)
                      · intro a' w' hF' hb hd
                        have e19 : a'.tmps.getD 19 undef = .bool false := hd _ 19 (Array.mem_of_getElem? (i := 1) rfl) rfl rfl
                        have e22 : a'.tmps.getD 22 undef = .pointer (some ⟨g1, 0, none⟩) := hd _ 22 (Array.mem_of_getElem? (i := 0) rfl) rfl rfl
                        exact if_does (wanted_by rfl rfl e19 rfl) (Does.vals (r_load e22 (ldb_i64 (v := .int .i64 y) (o1.below hb) rfl)) ⟨rfl, Below.refl _ _, (fun h => absurd h (by decide))⟩)
                      · intro a' w' hF' hb hd
                        have e19 : a'.tmps.getD 19 undef = .bool false := hd _ 19 (Array.mem_of_getElem? (i := 0) rfl) rfl rfl
                        exact if_does (wanted_by rfl rfl e19 rfl) (Does.vals (r_field (hF'.at 11 rfl) (fa_CDate_1 (p := 1) rfl)) ⟨rfl, Below.refl _ _, (fun h => absurd h (by decide))⟩)
                      · intro a' w' hF' hb hd
                        have e19 : a'.tmps.getD 19 undef = .bool false := hd _ 19 (Array.mem_of_getElem? (i := 1) rfl) rfl rfl
                        have e24 : a'.tmps.getD 24 undef = .pointer (some ⟨g1, 1, none⟩) := hd _ 24 (Array.mem_of_getElem? (i := 0) rfl) rfl rfl
                        exact if_does (wanted_by rfl rfl e19 rfl) (Does.vals (r_load e24 (ldb_int (v := .int .i64 m) (o1.below hb) rfl)) ⟨rfl, Below.refl _ _, (fun h => absurd h (by decide))⟩)
                      · intro a' w' hF' hb hd
                        have e19 : a'.tmps.getD 19 undef = .bool false := hd _ 19 (Array.mem_of_getElem? (i := 2) rfl) rfl rfl
                        have e23 : a'.tmps.getD 23 undef = .int .i64 y := hd _ 23 (Array.mem_of_getElem? (i := 0) rfl) rfl rfl
                        have e25 : a'.tmps.getD 25 undef = .int .i64 m := hd _ 25 (Array.mem_of_getElem? (i := 1) rfl) rfl rfl
                        refine if_does (wanted_by rfl rfl e19 rfl) (Does.calls (r_call Tryd.func20 en20.1 en20.2 (map2 e23 e25)) (clenC_any y m _ (hT.below (below_to bel hb))) ?_)
                        rintro e w'' ⟨rfl, bb⟩
                        exact ⟨_, rfl, rfl, bb, (fun h => absurd h (by decide))⟩
                      · intro a' w' hF' hb hd
                        have e19 : a'.tmps.getD 19 undef = .bool false := hd _ 19 (Array.mem_of_getElem? (i := 2) rfl) rfl rfl
                        have e21 : a'.tmps.getD 21 undef = .int .i64 d := hd _ 21 (Array.mem_of_getElem? (i := 0) rfl) rfl rfl
                        have e26 : a'.tmps.getD 26 undef = .int .i64 (mlen (leapC y) m) := hd _ 26 (Array.mem_of_getElem? (i := 1) rfl) rfl rfl
                        exact if_does (wanted_by rfl rfl e19 rfl) (Does.vals (r_bin e21 e26 eg_scalar (bi_int (ic_gtr (c := false) (dec_ff hc6)) (by simp))) ⟨rfl, Below.refl _ _, (fun h => absurd h (by decide))⟩)
                      · intro a' w' hF' hb hd
                        have e19 : a'.tmps.getD 19 undef = .bool false := hd _ 19 (Array.mem_of_getElem? (i := 0) rfl) rfl rfl
                        have e27 : a'.tmps.getD 27 undef = .bool false := hd _ 27 (Array.mem_of_getElem? (i := 1) rfl) rfl rfl
                        exact if_does (wanted_free rfl) (Does.vals (r_pick_f e19 e27) ⟨rfl, Below.refl _ _, (fun h => absurd h (by decide))⟩)
                      · intro a' w' hF' hb hd
                        have e28 : a'.tmps.getD 28 undef = .bool false := hd _ 28 (Array.mem_of_getElem? (i := 0) rfl) rfl rfl
                        exact if_does (wanted_free rfl) (Does.vals (r_assign e28) ⟨rfl, Below.refl _ _, (fun h => absurd h (by decide))⟩)
                      intro a w8 hF bb hall hne
                      have e15 : a.tmps.getD 15 undef = .bool false := hall 13 15 rfl
                      clear hall hne
                      replace o1 := o1.below bb
                      replace bel := below_to bel bb
                      clear bb
                      replace hF := hF.add e15
                      clear e15
                      refine E.nil ?_
                      refine wp_cond_false (hF.at 0 rfl) ?_
                      refine wp_skip ?_
                      refine E.blk ?_
                      refine E.norm ?_
                      refine wp_seq ?_
                      refine E.drawn 8 mixed hF [29, 30, 31, 32, 33, 34, 35, 4] [(fun _ v => v = .pointer (some ⟨g1, 0, none⟩)), (fun _ v => v = .int .i64 y), (fun _ v => v = .int .i64 (firstC y)), (fun _ v => v = .pointer (some ⟨g1, 2, none⟩)), (fun _ v => v = .int .i64 d), (fun _ v => v = .int .i64 (d - 1)), (fun _ v => v = .int .i64 ((firstC y) + (d - 1))), (fun _ v => v = .int .i64 ((firstC y) + (d - 1)))] [] (by decide +kernel) (by decide +kernel) rfl rfl rfl ⟨(Mb.eq _), (Mb.eq _), (Mb.eq _), (Mb.eq _), (Mb.eq _), (Mb.eq _), (Mb.eq _), (Mb.eq _), trivial⟩ trivial ⟨?_, ?_, ?_, ?_, ?_, ?_, ?_, ?_, trivial⟩ ?_
                      · intro a' w' hF' hb hd
                        exact if_does (wanted_free rfl) (Does.vals (r_field (hF'.at 12 rfl) (fa_CDate_0 (p := 0) rfl)) ⟨rfl, Below.refl _ _, (fun h => absurd h (by decide))⟩)
                      · intro a' w' hF' hb hd
                        have e29 : a'.tmps.getD 29 undef = .pointer (some ⟨g1, 0, none⟩) := hd _ 29 (Array.mem_of_getElem? (i := 0) rfl) rfl rfl
                        exact if_does (wanted_free rfl) (Does.vals (r_load e29 (ldb_i64 (v := .int .i64 y) (o1.below hb) rfl)) ⟨rfl, Below.refl _ _, (fun h => absurd h (by decide))⟩)
                      · intro a' w' hF' hb hd
                        have e30 : a'.tmps.getD 30 undef = .int .i64 y := hd _ 30 (Array.mem_of_getElem? (i := 0) rfl) rfl rfl
                        refine if_does (wanted_free rfl) (Does.calls (r_call Tryd.func40 en40.1 en40.2 (map1 e30)) (cfirstC_any y _ (by omega) (by omega)) ?_)
                        rintro e w'' ⟨rfl, bb⟩
                        exact ⟨_, rfl, rfl, bb, (fun h => absurd h (by decide))⟩
                      · intro a' w' hF' hb hd
                        exact if_does (wanted_free rfl) (Does.vals (r_field (hF'.at 12 rfl) (fa_CDate_2 (p := 2) rfl)) ⟨rfl, Below.refl _ _, (fun h => absurd h (by decide))⟩)
                      · intro a' w' hF' hb hd
                        have e32 : a'.tmps.getD 32 undef = .pointer (some ⟨g1, 2, none⟩) := hd _ 32 (Array.mem_of_getElem? (i := 0) rfl) rfl rfl
                        exact if_does (wanted_free rfl) (Does.vals (r_load e32 (ldb_int (v := .int .i64 d) (o1.below hb) rfl)) ⟨rfl, Below.refl _ _, (fun h => absurd h (by decide))⟩)
                      · intro a' w' hF' hb hd
                        have e33 : a'.tmps.getD 33 undef = .int .i64 d := hd _ 33 (Array.mem_of_getElem? (i := 0) rfl) rfl rfl
                        exact if_does (wanted_free rfl) (Does.vals (r_bin e33 ev_c eg_scalar (ia_sub (by omega) (by omega))) ⟨rfl, Below.refl _ _, (fun h => absurd h (by decide))⟩)
                      · intro a' w' hF' hb hd
                        have e31 : a'.tmps.getD 31 undef = .int .i64 (firstC y) := hd _ 31 (Array.mem_of_getElem? (i := 0) rfl) rfl rfl
                        have hfb := firstC_bd (y := y) (by omega) (by omega)
                        have e34 : a'.tmps.getD 34 undef = .int .i64 (d - 1) := hd _ 34 (Array.mem_of_getElem? (i := 1) rfl) rfl rfl
                        exact if_does (wanted_free rfl) (Does.vals (r_bin e31 e34 eg_scalar (ia_add (by omega) (by omega))) ⟨rfl, Below.refl _ _, (fun h => absurd h (by decide))⟩)
                      · intro a' w' hF' hb hd
                        have e35 : a'.tmps.getD 35 undef = .int .i64 ((firstC y) + (d - 1)) := hd _ 35 (Array.mem_of_getElem? (i := 0) rfl) rfl rfl
                        exact if_does (wanted_free rfl) (Does.vals (r_assign e35) ⟨rfl, Below.refl _ _, (fun h => absurd h (by decide))⟩)
                      intro a w9 hF bb hall hne
                      have e4 : a.tmps.getD 4 undef = .int .i64 ((firstC y) + (d - 1)) := hall 7 4 rfl
                      clear hall hne
                      replace o1 := o1.below bb
                      replace bel := below_to bel bb
                      clear bb
                      replace hF := hF.add e4
                      clear e4
                      refine E.nil ?_
                      refine wp_seq ?_
                      refine wp_seq ?_
                      refine E.seq ?_
                      refine E.opv hF (r_assign ev_c) rfl rfl rfl rfl fun a hF => ?_
                      refine E.nil ?_
                      refine wp_block ?_
                      refine E.loop (fun mq a wv => ∃ (n : Int) (k : Int), 1 ≤ k ∧ k ≤ m ∧ n = firstC y + (d - 1) + cum (leapC y) k ∧ Fr 52 a [(5, .int .i64 k), (4, .int .i64 n), (3, .int .i64 0), (2, .int .i64 0), (1, .pointer (some ⟨g1, 0, none⟩))] ∧ Below w9.heap.size w9 wv ∧ Below w.heap.size w wv ∧ mq = (m - k : Int).toNat) ((m - (1) : Int).toNat) ?_ ?_
                      · exact ⟨((firstC y) + (d - 1) : Int), (1 : Int), (by omega), ((mlen_in (l := leapC y) (m := m) (by omega)).1), (by rw [cum_one]; omega), hF.sub (by intro p hp; simp only [List.mem_cons, List.not_mem_nil, or_false] at hp ⊢; rcases hp with rfl | rfl | rfl | rfl | rfl <;> simp), Below.refl _ _, bel, rfl⟩
                      · rintro mq a w10 ⟨n, k, hk1, hk2, hn, hF, sty, bel, hm⟩
                        replace o1 := o1.below sty
                        have hm2 := mlen_in (l := leapC y) (m := m) (by omega)
                        have hcb := cum_bd (leapC y) (m := k) hk1 (by omega)
                        have hmb := mlen_bd (leapC y) k
                        have hmd := mlen_bd (leapC y) m
                        have hfb := firstC_bd (y := y) (by omega) (by omega)
                        refine wp_seq ?_
                        refine wp_seq ?_
                        refine E.seq ?_
                        refine E.opv hF (r_move (hF.at 0 rfl)) rfl rfl rfl rfl fun a hF => ?_
                        refine E.opv hF (r_field (hF.at 5 rfl) (fa_CDate_1 (p := 1) rfl)) rfl rfl rfl rfl fun a hF => ?_
                        refine E.opv hF (r_load (hF.at 0 rfl) (ldb_int (v := .int .i64 m) o1 rfl)) rfl rfl rfl rfl fun a hF => ?_
                        by_cases hc11 : k < m
                        · first
                          | (exfalso; omega)
                          | (refine E.opv hF (r_bin (hF.at 2 rfl) (hF.at 0 rfl) eg_scalar (bi_int (ic_lss (c := true) (dec_tt hc11)) (by simp))) rfl rfl rfl rfl fun a hF => ?_
                             refine E.nil ?_
                             refine wp_cond_true (hF.at 0 rfl) ?_
                             refine wp_skip ?_
                             refine E.norm ?_
                             refine wp_seq ?_
                             refine wp_block ?_
                             refine E.seq ?_
                             refine E.opv hF (r_move (hF.at 5 rfl)) rfl rfl rfl rfl fun a hF => ?_
                             refine E.opv hF (r_field (hF.at 9 rfl) (fa_CDate_0 (p := 0) rfl)) rfl rfl rfl rfl fun a hF => ?_
                             refine E.opv hF (r_load (hF.at 0 rfl) (ldb_i64 (v := .int .i64 y) o1 rfl)) rfl rfl rfl rfl fun a hF => ?_
                             refine E.opv hF (r_move (hF.at 7 rfl)) rfl rfl rfl rfl fun a hF => ?_
                             refine E.call hF (r_call Tryd.func20 en20.1 en20.2 (map2 (hF.at 1 rfl) (hF.at 0 rfl))) (clenC_any y k _ (hT.below bel)) rfl rfl rfl rfl ?_
                             rintro e w12 ⟨rfl, bb⟩
                             refine ⟨_, rfl, ?_⟩
                             intro a hF
                             replace o1 := o1.below bb
                             replace bel := below_to bel bb
                             replace sty := below_to sty bb
                             clear bb
                             refine E.opv hF (r_bin (hF.at 4 rfl) (hF.at 0 rfl) eg_scalar (ia_add (by omega) (by omega))) rfl rfl rfl rfl fun a hF => ?_
                             refine E.opset (L' := [(4, .int .i64 (n + (mlen (leapC y) k))), (47, .int .i64 (n + (mlen (leapC y) k))), (46, .int .i64 (mlen (leapC y) k)), (45, .int .i64 k), (44, .int .i64 y), (43, .pointer (some ⟨g1, 0, none⟩)), (42, .int .i64 n), (39, .bool true), (38, .int .i64 m), (37, .pointer (some ⟨g1, 1, none⟩)), (36, .int .i64 k), (5, .int .i64 k), (3, .int .i64 0), (2, .int .i64 0), (1, .pointer (some ⟨g1, 0, none⟩))]) hF (r_assign (hF.at 0 rfl)) rfl rfl rfl rfl fun a hF => ?_
                             refine E.nil0 ?_
                             refine E.blk ?_
                             refine E.norm ?_
                             refine E.seq ?_
                             refine E.opv hF (r_move (hF.at 11 rfl)) rfl rfl rfl rfl fun a hF => ?_
                             refine E.opv hF (r_bin (hF.at 0 rfl) ev_c eg_scalar (ia_add (by omega) (by omega))) rfl rfl rfl rfl fun a hF => ?_
                             refine E.opset (L' := [(5, .int .i64 (k + 1)), (41, .int .i64 (k + 1)), (40, .int .i64 k), (4, .int .i64 (n + (mlen (leapC y) k))), (47, .int .i64 (n + (mlen (leapC y) k))), (46, .int .i64 (mlen (leapC y) k)), (45, .int .i64 k), (44, .int .i64 y), (43, .pointer (some ⟨g1, 0, none⟩)), (42, .int .i64 n), (39, .bool true), (38, .int .i64 m), (37, .pointer (some ⟨g1, 1, none⟩)), (36, .int .i64 k), (3, .int .i64 0), (2, .int .i64 0), (1, .pointer (some ⟨g1, 0, none⟩))]) hF (r_assign (hF.at 0 rfl)) rfl rfl rfl rfl fun a hF => ?_
                             refine E.nil0 ?_
                             refine E.norm ?_
                             exact ⟨(m - (k + 1) : Int).toNat, by omega, ⟨(n + (mlen (leapC y) k) : Int), (k + 1 : Int), (by omega), (by omega), (by have := cum_step (leapC y) (m := k) hk1 (by omega); omega), Fr.sub (L' := [(5, .int .i64 (k + 1)), (4, .int .i64 (n + (mlen (leapC y) k))), (3, .int .i64 0), (2, .int .i64 0), (1, .pointer (some ⟨g1, 0, none⟩))]) hF (by intro p hp; simp only [List.mem_cons, List.not_mem_nil, or_false] at hp ⊢; rcases hp with rfl | rfl | rfl | rfl | rfl <;> simp), sty, bel, rfl⟩⟩)
                        · first
                          | (exfalso; omega)
                          | (refine E.opv hF (r_bin (hF.at 2 rfl) (hF.at 0 rfl) eg_scalar (bi_int (ic_lss (c := false) (dec_ff hc11)) (by simp))) rfl rfl rfl rfl fun a hF => ?_
                             refine E.nil ?_
                             refine wp_cond_false (hF.at 0 rfl) ?_
                             refine wp_exit ?_
                             refine E.past ?_
                             refine E.past ?_
                             refine E.out (id := 1) ?_
                             refine E.norm ?_
                             refine wp_seq ?_
                             refine wp_seq ?_
                             refine E.seq ?_
                             refine E.opv hF (r_move (hF.at 5 rfl)) rfl rfl rfl rfl fun a hF => ?_
                             refine E.call hF (r_call Tryd.func38 en38.1 en38.2 (map1 (hF.at 0 rfl))) (cmayC_any n _) rfl rfl rfl rfl ?_
                             rintro e w13 ⟨rfl, bb⟩
                             refine ⟨_, rfl, ?_⟩
                             intro a hF
                             replace bel := below_to bel bb
                             clear bb
                             by_cases hc14 : mayB n = true
                             · first
                               | (exfalso; omega)
                               | (refine E.opv hF (r_un (Eq.trans (hF.at 0 rfl) (congrArg Value.bool hc14)) (bn_not _ false rfl)) rfl rfl rfl rfl fun a hF => ?_
                                  refine E.nil ?_
                                  refine wp_cond_false (hF.at 0 rfl) ?_
                                  refine wp_skip ?_
                                  refine E.norm ?_
                                  refine wp_seq ?_
                                  refine E.seq ?_
                                  refine E.opv hF (r_move (hF.at 8 rfl)) rfl rfl rfl rfl fun a hF => ?_
                                  refine E.opset (L' := [(2, .int .i64 n), (51, .int .i64 n), (50, .bool false), (49, .bool (mayB n)), (48, .int .i64 n), (39, .bool false), (38, .int .i64 m), (37, .pointer (some ⟨g1, 1, none⟩)), (36, .int .i64 k), (5, .int .i64 k), (4, .int .i64 n), (3, .int .i64 0), (1, .pointer (some ⟨g1, 0, none⟩))]) hF (r_assign (hF.at 0 rfl)) rfl rfl rfl rfl fun a hF => ?_
                                  refine E.opset (L' := [(3, .int .i64 0), (2, .int .i64 n), (51, .int .i64 n), (50, .bool false), (49, .bool (mayB n)), (48, .int .i64 n), (39, .bool false), (38, .int .i64 m), (37, .pointer (some ⟨g1, 1, none⟩)), (36, .int .i64 k), (5, .int .i64 k), (4, .int .i64 n), (1, .pointer (some ⟨g1, 0, none⟩))]) hF (r_assign ev_c) rfl rfl rfl rfl fun a hF => ?_
                                  refine E.nil ?_
                                  refine wp_ret ?_
                                  refine bodyPost_ret (res_tmp2 Tryd.results17 (hF.at 1 rfl) (hF.at 0 rfl)) hF.dfr ?_
                                  have hkm : k = m := by omega
                                  subst hkm
                                  have hday : n = calC.day y k d := by rw [hn]; show _ = firstC y + cum (leapC y) k + d - 1; omega
                                  have hval : Val (calC.leap y) k d := ⟨hk1, hm2.2, by omega, by show d ≤ mlen (leapC y) k; omega⟩
                                  refine ⟨rv_int2 ?_ ?_, bel⟩
                                  · exact hday.trans (fix_ok (by omega) hval (by rw [← hday]; first | assumption | simp_all)).1
                                  · exact (fix_ok (by omega) hval (by rw [← hday]; first | assumption | simp_all)).2)
                             · first
                               | (exfalso; omega)
                               | (refine E.opv hF (r_un (Eq.trans (hF.at 0 rfl) (congrArg Value.bool (eq_false_of_ne_true hc14))) (bn_not _ true rfl)) rfl rfl rfl rfl fun a hF => ?_
                                  refine E.nil ?_
                                  refine wp_cond_true (hF.at 0 rfl) ?_
                                  refine wp_seq ?_
                                  refine E.seq ?_
                                  refine E.opset (L' := [(2, .int .i64 0), (50, .bool true), (49, .bool (mayB n)), (48, .int .i64 n), (39, .bool false), (38, .int .i64 m), (37, .pointer (some ⟨g1, 1, none⟩)), (36, .int .i64 k), (5, .int .i64 k), (4, .int .i64 n), (3, .int .i64 0), (1, .pointer (some ⟨g1, 0, none⟩))]) hF (r_assign ev_c) rfl rfl rfl rfl fun a hF => ?_
                                  refine E.opset (L' := [(3, .int .i64 2), (2, .int .i64 0), (50, .bool true), (49, .bool (mayB n)), (48, .int .i64 n), (39, .bool false), (38, .int .i64 m), (37, .pointer (some ⟨g1, 1, none⟩)), (36, .int .i64 k), (5, .int .i64 k), (4, .int .i64 n), (1, .pointer (some ⟨g1, 0, none⟩))]) hF (r_assign ev_c) rfl rfl rfl rfl fun a hF => ?_
                                  refine E.nil ?_
                                  refine wp_ret ?_
                                  refine bodyPost_ret (res_tmp2 Tryd.results17 (hF.at 1 rfl) (hF.at 0 rfl)) hF.dfr ?_
                                  have hkm : k = m := by omega
                                  subst hkm
                                  have hday : n = calC.day y k d := by rw [hn]; show _ = firstC y + cum (leapC y) k + d - 1; omega
                                  have hval : Val (calC.leap y) k d := ⟨hk1, hm2.2, by omega, by show d ≤ mlen (leapC y) k; omega⟩
                                  refine ⟨rv_int2 ?_ ?_, bel⟩
                                  · exact (fix_far (by omega) hval (by rw [← hday]; first | assumption | exact eq_false_of_ne_true (by assumption))).1
                                  · exact (fix_far (by omega) hval (by rw [← hday]; first | assumption | exact eq_false_of_ne_true (by assumption))).2))))))

set_option maxHeartbeats 8000000 in
theorem cofC_any (n : Int) (w : World) (hT : TabC w) (hmay : mayB n = true) :
    Calls Tryd.prog 15 #[.int .i64 n] w (fun e w' => ∃ y mo d, e = .returned (.tuple #[.agg #[.int .i64 y, .int .i64 mo, .int .i64 d], .int .i64 0]) ∧ Val (leapC y) mo d ∧ calC.day y mo d = n ∧ Below w.heap.size w w') := by
  have hmay1 := mayB_of hmay
  have hyb := yearC_bd hmay1.1 hmay1.2
  have hyi := yearC_in n
  have bel : Below w.heap.size w w := Below.refl _ _
  refine E.enter (nt := 34) (L := [(0, .int .i64 n)]) Tryd.func15 rfl rfl rfl (args_cons (i := 0) rfl args_nil) ?_
  intro a hF
  refine wp_seq ?_
  refine E.seq ?_
  obtain ⟨g2, w1, ge2, hr, bb, o2⟩ := blk_alloc (P := Tryd.prog) (w := w) (cs := [.int .i64 0, .int .i64 0, .int .i64 0]) 24 ze_CDate rfl
  replace ge2 : w.heap.size ≤ g2 := by rw [← ge2]; exact bel.size
  refine E.opv hF (r_alloc hr) rfl rfl rfl rfl fun a hF => ?_
  clear hr
  replace bel := below_to bel bb
  clear bb
  refine E.opv hF (r_assign ev_c) rfl rfl rfl rfl fun a hF => ?_
  refine E.nil ?_
  refine wp_seq ?_
  refine wp_seq ?_
  refine E.seq ?_
  refine E.opv hF (r_move (hF.at 2 rfl)) rfl rfl rfl rfl fun a hF => ?_
  refine E.call hF (r_call Tryd.func38 en38.1 en38.2 (map1 (hF.at 0 rfl))) (cmayC_any n _) rfl rfl rfl rfl ?_
  rintro e w2 ⟨rfl, bb⟩
  refine ⟨_, rfl, ?_⟩
  intro a hF
  replace o2 := o2.below bb
  replace bel := below_to bel bb
  clear bb
  refine E.opv hF (r_un (Eq.trans (hF.at 0 rfl) (congrArg Value.bool hmay)) (bn_not _ false rfl)) rfl rfl rfl rfl fun a hF => ?_
  refine E.nil ?_
  refine wp_cond_false (hF.at 0 rfl) ?_
  refine wp_skip ?_
  refine E.norm ?_
  refine wp_seq ?_
  refine E.seq ?_
  refine E.opv hF (r_move (hF.at 5 rfl)) rfl rfl rfl rfl fun a hF => ?_
  refine E.call hF (r_call Tryd.func39 en39.1 en39.2 (map1 (hF.at 0 rfl))) (cyearC_any n _ (by omega) (by omega)) rfl rfl rfl rfl ?_
  rintro e w3 ⟨rfl, bb⟩
  refine ⟨_, rfl, ?_⟩
  intro a hF
  have hyb := yearC_bd (n := n) (by omega) (by omega)
  have hyi := yearC_in n
  replace o2 := o2.below bb
  replace bel := below_to bel bb
  clear bb
  refine E.opv hF (r_assign (hF.at 0 rfl)) rfl rfl rfl rfl fun a hF => ?_
  refine E.opv hF (r_assign ev_c) rfl rfl rfl rfl fun a hF => ?_
  refine E.nil ?_
  refine wp_seq ?_
  refine E.seq ?_
  refine E.opv hF (r_move (hF.at 9 rfl)) rfl rfl rfl rfl fun a hF => ?_
  refine E.opv hF (r_move (hF.at 2 rfl)) rfl rfl rfl rfl fun a hF => ?_
  refine E.call hF (r_call Tryd.func40 en40.1 en40.2 (map1 (hF.at 0 rfl))) (cfirstC_any (yearC n) _ (by omega) (by omega)) rfl rfl rfl rfl ?_
  rintro e w4 ⟨rfl, bb⟩
  refine ⟨_, rfl, ?_⟩
  intro a hF
  have hfb := firstC_bd (y := yearC n) (by omega) (by omega)
  replace o2 := o2.below bb
  replace bel := below_to bel bb
  clear bb
  refine E.opv hF (r_bin (hF.at 2 rfl) (hF.at 0 rfl) eg_scalar (ia_sub (by omega) (by omega))) rfl rfl rfl rfl fun a hF => ?_
  refine E.opv hF (r_assign (hF.at 0 rfl)) rfl rfl rfl rfl fun a hF => ?_
  refine E.nil ?_
  refine wp_seq ?_
  refine wp_block ?_
  refine E.loop (fun mq a wv => ∃ (k : Int) (r : Int), 1 ≤ k ∧ k ≤ 12 ∧ r = n - firstC (yearC n) - cum (leapC (yearC n)) k ∧ 0 ≤ r ∧ Fr 34 a [(6, .int .i64 r), (5, .int .i64 k), (4, .int .i64 (yearC n)), (3, .int .i64 0), (2, .pointer (some ⟨g2, 0, none⟩))] ∧ Below w4.heap.size w4 wv ∧ Below w.heap.size w wv ∧ mq = (13 - k : Int).toNat) ((13 - (1) : Int).toNat) ?_ ?_
  · exact ⟨(1 : Int), (n - (firstC (yearC n)) : Int), (by omega), (by omega), (by rw [cum_one]; omega), (by omega), hF.sub (by intro p hp; simp only [List.mem_cons, List.not_mem_nil, or_false] at hp ⊢; rcases hp with rfl | rfl | rfl | rfl | rfl <;> simp), Below.refl _ _, bel, rfl⟩
  · rintro mq a w5 ⟨k, r, hk1, hk2, hr, hr0, hF, sty, bel, hm⟩
    replace o2 := o2.below sty
    have hcb := cum_bd (leapC (yearC n)) (m := k) hk1 (by omega)
    have hmb := mlen_bd (leapC (yearC n)) k
    have hfb := firstC_bd (y := yearC n) (by omega) (by omega)
    have hce := cum_end (leapC (yearC n))
    have hst := stepC (yearC n)
    have hcs := cum_step (leapC (yearC n)) (m := k) hk1 (by omega)
    have hk12 : mlen (leapC (yearC n)) k ≤ r → k + 1 ≤ 12 := by
      intro hh
      by_cases e : k = 12
      · exfalso
        subst e
        rw [show ((12 : Int) + 1) = 13 from rfl, hce] at hcs
        omega
      · omega
    refine wp_seq ?_
    refine wp_seq ?_
    refine E.seq ?_
    refine E.opv hF (r_move (hF.at 0 rfl)) rfl rfl rfl rfl fun a hF => ?_
    refine E.opv hF (r_move (hF.at 3 rfl)) rfl rfl rfl rfl fun a hF => ?_
    refine E.opv hF (r_move (hF.at 3 rfl)) rfl rfl rfl rfl fun a hF => ?_
    refine E.call hF (r_call Tryd.func20 en20.1 en20.2 (map2 (hF.at 1 rfl) (hF.at 0 rfl))) (clenC_any (yearC n) k _ (hT.below bel)) rfl rfl rfl rfl ?_
    rintro e w6 ⟨rfl, bb⟩
    refine ⟨_, rfl, ?_⟩
    intro a hF
    replace o2 := o2.below bb
    replace bel := below_to bel bb
    replace sty := below_to sty bb
    clear bb
    by_cases hc7 : mlen (leapC (yearC n)) k ≤ r
    · first
      | (exfalso; omega)
      | (refine E.opv hF (r_bin (hF.at 3 rfl) (hF.at 0 rfl) eg_scalar (bi_int (ic_geq (c := true) (dec_tt hc7)) (by simp))) rfl rfl rfl rfl fun a hF => ?_
         refine E.nil ?_
         refine wp_cond_true (hF.at 0 rfl) ?_
         refine wp_skip ?_
         refine E.norm ?_
         refine wp_block ?_
         refine wp_seq ?_
         refine E.seq ?_
         refine E.opv hF (r_move (hF.at 5 rfl)) rfl rfl rfl rfl fun a hF => ?_
         refine E.opv hF (r_move (hF.at 8 rfl)) rfl rfl rfl rfl fun a hF => ?_
         refine E.opv hF (r_move (hF.at 8 rfl)) rfl rfl rfl rfl fun a hF => ?_
         refine E.call hF (r_call Tryd.func20 en20.1 en20.2 (map2 (hF.at 1 rfl) (hF.at 0 rfl))) (clenC_any (yearC n) k _ (hT.below bel)) rfl rfl rfl rfl ?_
         rintro e w8 ⟨rfl, bb⟩
         refine ⟨_, rfl, ?_⟩
         intro a hF
         replace o2 := o2.below bb
         replace bel := below_to bel bb
         replace sty := below_to sty bb
         clear bb
         refine E.opv hF (r_bin (hF.at 3 rfl) (hF.at 0 rfl) eg_scalar (ia_sub (by omega) (by omega))) rfl rfl rfl rfl fun a hF => ?_
         refine E.opset (L' := [(6, .int .i64 (r - (mlen (leapC (yearC n)) k))), (26, .int .i64 (r - (mlen (leapC (yearC n)) k))), (25, .int .i64 (mlen (leapC (yearC n)) k)), (24, .int .i64 k), (23, .int .i64 (yearC n)), (22, .int .i64 r), (21, .bool true), (20, .int .i64 (mlen (leapC (yearC n)) k)), (19, .int .i64 k), (18, .int .i64 (yearC n)), (17, .int .i64 r), (5, .int .i64 k), (4, .int .i64 (yearC n)), (3, .int .i64 0), (2, .pointer (some ⟨g2, 0, none⟩))]) hF (r_assign (hF.at 0 rfl)) rfl rfl rfl rfl fun a hF => ?_
         refine E.nil ?_
         refine E.seq ?_
         refine E.opv hF (r_move (hF.at 11 rfl)) rfl rfl rfl rfl fun a hF => ?_
         refine E.opv hF (r_bin (hF.at 0 rfl) ev_c eg_scalar (ia_add (by omega) (by omega))) rfl rfl rfl rfl fun a hF => ?_
         refine E.opset (L' := [(5, .int .i64 (k + 1)), (28, .int .i64 (k + 1)), (27, .int .i64 k), (6, .int .i64 (r - (mlen (leapC (yearC n)) k))), (26, .int .i64 (r - (mlen (leapC (yearC n)) k))), (25, .int .i64 (mlen (leapC (yearC n)) k)), (24, .int .i64 k), (23, .int .i64 (yearC n)), (22, .int .i64 r), (21, .bool true), (20, .int .i64 (mlen (leapC (yearC n)) k)), (19, .int .i64 k), (18, .int .i64 (yearC n)), (17, .int .i64 r), (4, .int .i64 (yearC n)), (3, .int .i64 0), (2, .pointer (some ⟨g2, 0, none⟩))]) hF (r_assign (hF.at 0 rfl)) rfl rfl rfl rfl fun a hF => ?_
         refine E.nil0 ?_
         refine E.blk ?_
         refine E.norm ?_
         exact ⟨(13 - (k + 1) : Int).toNat, by omega, ⟨(k + 1 : Int), (r - (mlen (leapC (yearC n)) k) : Int), (by omega), (hk12 (by omega)), (by have := cum_step (leapC (yearC n)) (m := k) hk1 (by omega); omega), (by omega), Fr.sub (L' := [(6, .int .i64 (r - (mlen (leapC (yearC n)) k))), (5, .int .i64 (k + 1)), (4, .int .i64 (yearC n)), (3, .int .i64 0), (2, .pointer (some ⟨g2, 0, none⟩))]) hF (by intro p hp; simp only [List.mem_cons, List.not_mem_nil, or_false] at hp ⊢; rcases hp with rfl | rfl | rfl | rfl | rfl <;> simp), sty, bel, rfl⟩⟩)
    · first
      | (exfalso; omega)
      | (refine E.opv hF (r_bin (hF.at 3 rfl) (hF.at 0 rfl) eg_scalar (bi_int (ic_geq (c := false) (dec_ff hc7)) (by simp))) rfl rfl rfl rfl fun a hF => ?_
         refine E.nil ?_
         refine wp_cond_false (hF.at 0 rfl) ?_
         refine wp_exit ?_
         refine E.past ?_
         refine E.past ?_
         refine E.out (id := 0) ?_
         refine E.norm ?_
         refine wp_seq ?_
         refine E.seq ?_
         refine E.opv hF (r_move (hF.at 7 rfl)) rfl rfl rfl rfl fun a hF => ?_
         refine E.opv hF (r_move (hF.at 7 rfl)) rfl rfl rfl rfl fun a hF => ?_
         refine E.opv hF (r_move (hF.at 7 rfl)) rfl rfl rfl rfl fun a hF => ?_
         refine E.opv hF (r_bin (hF.at 0 rfl) ev_c eg_scalar (ia_add (by omega) (by omega))) rfl rfl rfl rfl fun a hF => ?_
         refine E.opv hF (r_build (pair3 (hF.at 3 rfl) (hF.at 2 rfl) (hF.at 0 rfl)) (bd_CDate_012 _ _ _ _)) rfl rfl rfl rfl fun a hF => ?_
         obtain ⟨w9, hr, tu, on⟩ := stb_CDate (vs := [.int .i64 (yearC n), .int .i64 k, .int .i64 (r + 1)]) o2 rfl rfl (ocI (ocI (ocI oc0))) (o := 0) rfl
         refine E.st hF (r_store (hF.at 14 rfl) (hF.at 0 rfl) (hr _ rfl)) rfl rfl fun a hF => ?_
         clear hr
         replace bel := tu.below bel ge2
         clear tu
         replace o2 := on
         clear on
         refine E.opset (L' := [(3, .int .i64 0), (33, .agg #[.int .i64 (yearC n), .int .i64 k, .int .i64 (r + 1)]), (32, .int .i64 (r + 1)), (31, .int .i64 r), (30, .int .i64 k), (29, .int .i64 (yearC n)), (21, .bool false), (20, .int .i64 (mlen (leapC (yearC n)) k)), (19, .int .i64 k), (18, .int .i64 (yearC n)), (17, .int .i64 r), (6, .int .i64 r), (5, .int .i64 k), (4, .int .i64 (yearC n)), (2, .pointer (some ⟨g2, 0, none⟩))]) hF (r_assign ev_c) rfl rfl rfl rfl fun a hF => ?_
         refine E.nil ?_
         refine wp_ret ?_
         refine bodyPost_ret (res_celltmp Tryd.results15 (hF.at 14 rfl) (ldb_CDate (vs := [.int .i64 (yearC n), .int .i64 k, .int .i64 (r + 1)]) o2 rfl rfl) (hF.at 0 rfl)) hF.dfr ?_
         have hvd : Val (leapC (yearC n)) k (r + 1) := ⟨hk1, hk2, by omega, by omega⟩
         exact ⟨_, _, _, rfl, hvd, by show firstC (yearC n) + cum (leapC (yearC n)) k + (r + 1) - 1 = n; omega, bel⟩)

set_option maxHeartbeats 1000000 in
theorem cofxC_any (n : Int) (w : World) (hT : TabC w) (hmay : mayB n = false) :
    Calls Tryd.prog 15 #[.int .i64 n] w (ValPost w (.tuple #[.agg #[.int .i64 0, .int .i64 0, .int .i64 0], .int .i64 2])) := by
  have bel : Below w.heap.size w w := Below.refl _ _
  refine E.enter (nt := 34) (L := [(0, .int .i64 n)]) Tryd.func15 rfl rfl rfl (args_cons (i := 0) rfl args_nil) ?_
  intro a hF
  refine wp_seq ?_
  refine E.seq ?_
  obtain ⟨g2, w1, ge2, hr, bb, o2⟩ := blk_alloc (P := Tryd.prog) (w := w) (cs := [.int .i64 0, .int .i64 0, .int .i64 0]) 24 ze_CDate rfl
  replace ge2 : w.heap.size ≤ g2 := by rw [← ge2]; exact bel.size
  refine E.opv hF (r_alloc hr) rfl rfl rfl rfl fun a hF => ?_
  clear hr
  replace bel := below_to bel bb
  clear bb
  refine E.opv hF (r_assign ev_c) rfl rfl rfl rfl fun a hF => ?_
  refine E.nil ?_
  refine wp_seq ?_
  refine wp_seq ?_
  refine E.seq ?_
  refine E.opv hF (r_move (hF.at 2 rfl)) rfl rfl rfl rfl fun a hF => ?_
  refine E.call hF (r_call Tryd.func38 en38.1 en38.2 (map1 (hF.at 0 rfl))) (cmayC_any n _) rfl rfl rfl rfl ?_
  rintro e w2 ⟨rfl, bb⟩
  refine ⟨_, rfl, ?_⟩
  intro a hF
  replace o2 := o2.below bb
  replace bel := below_to bel bb
  clear bb
  refine E.opv hF (r_un (Eq.trans (hF.at 0 rfl) (congrArg Value.bool hmay)) (bn_not _ true rfl)) rfl rfl rfl rfl fun a hF => ?_
  refine E.nil ?_
  refine wp_cond_true (hF.at 0 rfl) ?_
  refine wp_seq ?_
  refine E.seq ?_
  refine E.opv hF (r_build (by simp) (bd_CDate_ _)) rfl rfl rfl rfl fun a hF => ?_
  obtain ⟨w3, hr, tu, on⟩ := stb_CDate (vs := [.int .i64 0, .int .i64 0, .int .i64 0]) o2 rfl rfl (ocI (ocI (ocI oc0))) (o := 0) rfl
  refine E.st hF (r_store (hF.at 5 rfl) (hF.at 0 rfl) (hr _ rfl)) rfl rfl fun a hF => ?_
  clear hr
  replace bel := tu.below bel ge2
  clear tu
  replace o2 := on
  clear on
  refine E.opset (L' := [(3, .int .i64 2), (10, .agg #[.int .i64 0, .int .i64 0, .int .i64 0]), (9, .bool true), (8, .bool (mayB n)), (7, .int .i64 n), (2, .pointer (some ⟨g2, 0, none⟩)), (0, .int .i64 n)]) hF (r_assign ev_c) rfl rfl rfl rfl fun a hF => ?_
  refine E.nil ?_
  refine wp_ret ?_
  refine bodyPost_ret (res_celltmp Tryd.results15 (hF.at 5 rfl) (ldb_CDate (vs := [.int .i64 0, .int .i64 0, .int .i64 0]) o2 rfl rfl) (hF.at 0 rfl)) hF.dfr ?_
  exact ⟨rfl, bel⟩

end Go.Proofs.YtcgbllbhagijjaaDoor

/- julian: its functions. -/
namespace Go.Proofs.YtcgbllbhagijjaaDoor
open Go.RowKit
set_option maxRecDepth 100000
set_option linter.unusedVariables false

/-- The table of the months stands. -/
def TabJ (w : World) : Prop := ∀ i : Nat, i < 12 → Cel w 1 i (.int .i64 (lensC.getD i 0))
theorem TabJ.below {w w' : World} (h : TabJ w) (hb : Below w.heap.size w w') : TabJ w' := fun i hi => (h i hi).below hb
theorem TabJ.at {w : World} (h : TabJ w) {m : Int} (h1 : 1 ≤ m) (h2 : m ≤ 12) : Cel w 1 (m - 1).toNat (.int .i64 (mlen false m)) := by
  have := h (m - 1).toNat (by omega)
  rw [lens_at h1 h2] at this
  exact this
theorem ix_tabJ {w : World} {i : Int} (h0 : 0 ≤ i) (h1 : i < 12) : (Instr.indexAt 48 (.pointer (some ⟨1, 0, none⟩)) (.int .i64 i)).run Tryd.prog w = .ok (.pointer (some ⟨1, i.toNat, none⟩)) w := by
  simp [Instr.indexAt, asIntOf, Instr.sureAddr, run_underlying Tryd.underlying48, Sem.run_bind, h0, h1, Addr.add_mid]
set_option maxHeartbeats 1000000 in
theorem cfloorJ_any (n d : Int) (w : World) (hd : 0 < d) (hn0 : -9223372036854775808 ≤ n) (hn1 : n ≤ 9223372036854775807) :
    Calls Tryd.prog 50 #[.int .i64 n, .int .i64 d] w (ValPost w (.int .i64 (n / d))) := by
  have bel : Below w.heap.size w w := Below.refl _ _
  refine E.enter (nt := 16) (L := [(0, .int .i64 n), (1, .int .i64 d)]) Tryd.func50 rfl rfl rfl (args_cons (i := 0) rfl (args_cons (i := 1) rfl args_nil)) ?_
  intro a hF
  refine wp_seq ?_
  refine E.seq ?_
  refine E.opv hF (r_assign ev_c) rfl rfl rfl rfl fun a hF => ?_
  refine E.nil ?_
  refine wp_seq ?_
  refine wp_seq ?_
  refine E.seq ?_
  refine E.opv hF (r_move (hF.at 1 rfl)) rfl rfl rfl rfl fun a hF => ?_
  refine E.opv hF (r_move (hF.at 3 rfl)) rfl rfl rfl rfl fun a hF => ?_
  refine E.opv hF (r_bin (hF.at 1 rfl) (hF.at 0 rfl) eg_scalar (id_rem (a := n) (b := d) hd)) rfl rfl rfl rfl fun a hF => ?_
  by_cases hc1 : (if 0 ≤ n then n % d else -(-n % d)) < 0
  · refine E.opv hF (r_bin (hF.at 0 rfl) ev_c eg_scalar (bi_int (ic_lss (c := true) (dec_tt hc1)) (by simp))) rfl rfl rfl rfl fun a hF => ?_
    refine E.nil ?_
    refine wp_cond_true (hF.at 0 rfl) ?_
    refine wp_seq ?_
    refine E.seq ?_
    refine E.opv hF (r_move (hF.at 5 rfl)) rfl rfl rfl rfl fun a hF => ?_
    refine E.opv hF (r_move (hF.at 7 rfl)) rfl rfl rfl rfl fun a hF => ?_
    refine E.opv hF (r_bin (hF.at 1 rfl) (hF.at 0 rfl) eg_scalar (id_quo (a := n) (b := d) hd hn0 hn1)) rfl rfl rfl rfl fun a hF => ?_
    refine E.opv hF (r_bin (hF.at 0 rfl) ev_c eg_scalar (ia_sub (by rw [fl_neg hd (by assumption)]; exact (fl_in hd hn0 hn1).1) (by rw [fl_neg hd (by assumption)]; exact (fl_in hd hn0 hn1).2))) rfl rfl rfl rfl fun a hF => ?_
    refine E.opset (L' := [(4, .int .i64 ((if 0 ≤ n then n / d else -(-n / d)) - 1)), (12, .int .i64 ((if 0 ≤ n then n / d else -(-n / d)) - 1)), (11, .int .i64 (if 0 ≤ n then n / d else -(-n / d))), (10, .int .i64 d), (9, .int .i64 n), (8, .bool true), (7, .int .i64 (if 0 ≤ n then n % d else -(-n % d))), (6, .int .i64 d), (5, .int .i64 n), (0, .int .i64 n), (1, .int .i64 d)]) hF (r_assign (hF.at 0 rfl)) rfl rfl rfl rfl fun a hF => ?_
    refine E.nil ?_
    refine wp_ret ?_
    refine bodyPost_ret (res_tmp Tryd.results50 (hF.at 0 rfl)) hF.dfr ?_
    refine ⟨rv_int ?_, bel⟩
    exact fl_neg hd hc1
  · refine E.opv hF (r_bin (hF.at 0 rfl) ev_c eg_scalar (bi_int (ic_lss (c := false) (dec_ff hc1)) (by simp))) rfl rfl rfl rfl fun a hF => ?_
    refine E.nil ?_
    refine wp_cond_false (hF.at 0 rfl) ?_
    refine wp_skip ?_
    refine E.norm ?_
    refine wp_seq ?_
    refine E.seq ?_
    refine E.opv hF (r_move (hF.at 5 rfl)) rfl rfl rfl rfl fun a hF => ?_
    refine E.opv hF (r_move (hF.at 7 rfl)) rfl rfl rfl rfl fun a hF => ?_
    refine E.opv hF (r_bin (hF.at 1 rfl) (hF.at 0 rfl) eg_scalar (id_quo (a := n) (b := d) hd hn0 hn1)) rfl rfl rfl rfl fun a hF => ?_
    refine E.opset (L' := [(4, .int .i64 (if 0 ≤ n then n / d else -(-n / d))), (15, .int .i64 (if 0 ≤ n then n / d else -(-n / d))), (14, .int .i64 d), (13, .int .i64 n), (8, .bool false), (7, .int .i64 (if 0 ≤ n then n % d else -(-n % d))), (6, .int .i64 d), (5, .int .i64 n), (0, .int .i64 n), (1, .int .i64 d)]) hF (r_assign (hF.at 0 rfl)) rfl rfl rfl rfl fun a hF => ?_
    refine E.nil ?_
    refine wp_ret ?_
    refine bodyPost_ret (res_tmp Tryd.results50 (hF.at 0 rfl)) hF.dfr ?_
    refine ⟨rv_int ?_, bel⟩
    exact fl_pos hd hc1

set_option maxHeartbeats 1000000 in
theorem cleapJ_any (y : Int) (w : World) :
    Calls Tryd.prog 29 #[.int .i64 y] w (ValPost w (.bool (leapJ y))) := by
  have bel : Below w.heap.size w w := Below.refl _ _
  refine E.enter (nt := 6) (L := [(0, .int .i64 y)]) Tryd.func29 rfl rfl rfl (args_cons (i := 0) rfl args_nil) ?_
  intro a hF
  refine wp_seq ?_
  refine E.seq ?_
  refine E.opv hF (r_assign ev_c) rfl rfl rfl rfl fun a hF => ?_
  refine E.nil ?_
  refine wp_seq ?_
  refine E.seq ?_
  refine E.opv hF (r_move (hF.at 1 rfl)) rfl rfl rfl rfl fun a hF => ?_
  refine E.opv hF (r_bin (hF.at 0 rfl) ev_c eg_scalar (id_rem (a := y) (b := 4) (by omega))) rfl rfl rfl rfl fun a hF => ?_
  by_cases hc1 : (if 0 ≤ y then y % 4 else -(-y % 4)) = 0
  · first
    | (exfalso; omega)
    | (refine E.opv hF (r_bin (hF.at 0 rfl) ev_c eg_scalar (bi_int (ic_eql (c := true) (dec_tt hc1)) (by simp))) rfl rfl rfl rfl fun a hF => ?_
       refine E.opset (L' := [(2, .bool true), (5, .bool true), (4, .int .i64 (if 0 ≤ y then y % 4 else -(-y % 4))), (3, .int .i64 y), (0, .int .i64 y)]) hF (r_assign (hF.at 0 rfl)) rfl rfl rfl rfl fun a hF => ?_
       refine E.nil ?_
       refine wp_ret ?_
       refine bodyPost_ret (res_tmp Tryd.results29 (hF.at 0 rfl)) hF.dfr ?_
       refine ⟨rv_bool ?_, bel⟩
       exact (decide_eq_true (by omega)).symm)
  · first
    | (exfalso; omega)
    | (refine E.opv hF (r_bin (hF.at 0 rfl) ev_c eg_scalar (bi_int (ic_eql (c := false) (dec_ff hc1)) (by simp))) rfl rfl rfl rfl fun a hF => ?_
       refine E.opset (L' := [(2, .bool false), (5, .bool false), (4, .int .i64 (if 0 ≤ y then y % 4 else -(-y % 4))), (3, .int .i64 y), (0, .int .i64 y)]) hF (r_assign (hF.at 0 rfl)) rfl rfl rfl rfl fun a hF => ?_
       refine E.nil ?_
       refine wp_ret ?_
       refine bodyPost_ret (res_tmp Tryd.results29 (hF.at 0 rfl)) hF.dfr ?_
       refine ⟨rv_bool ?_, bel⟩
       exact (decide_eq_false (by omega)).symm)

set_option maxHeartbeats 4000000 in
theorem clenJ_any (y m : Int) (w : World) (hT : TabJ w) :
    Calls Tryd.prog 31 #[.int .i64 y, .int .i64 m] w (ValPost w (.int .i64 (mlen (leapJ y) m))) := by
  have bel : Below w.heap.size w w := Below.refl _ _
  refine E.enter (nt := 23) (L := [(0, .int .i64 y), (1, .int .i64 m)]) Tryd.func31 rfl rfl rfl (args_cons (i := 0) rfl (args_cons (i := 1) rfl args_nil)) ?_
  intro a hF
  refine wp_seq ?_
  refine E.seq ?_
  refine E.opv hF (r_assign ev_c) rfl rfl rfl rfl fun a hF => ?_
  refine E.nil ?_
  refine wp_seq ?_
  refine wp_block ?_
  refine wp_seq ?_
  refine E.seq ?_
  refine E.opv hF (r_move (hF.at 2 rfl)) rfl rfl rfl rfl fun a hF => ?_
  by_cases hc1 : m < 1
  · first
    | (exfalso; omega)
    | (refine E.opv hF (r_bin (hF.at 0 rfl) ev_c eg_scalar (bi_int (ic_lss (c := true) (dec_tt hc1)) (by simp))) rfl rfl rfl rfl fun a hF => ?_
       refine E.opv hF (r_move (hF.at 0 rfl)) rfl rfl rfl rfl fun a hF => ?_
       refine E.unwanted hF (wanted_by rfl rfl (hF.at 0 rfl) rfl) rfl rfl rfl fun a hF => ?_
       refine E.unwanted hF (wanted_by rfl rfl (hF.at 1 rfl) rfl) rfl rfl rfl fun a hF => ?_
       refine E.opv hF (r_pick_t (hF.at 2 rfl) ev_c) rfl rfl rfl rfl fun a hF => ?_
       refine E.opv hF (r_assign (hF.at 0 rfl)) rfl rfl rfl rfl fun a hF => ?_
       refine E.nil ?_
       refine wp_cond_true (hF.at 0 rfl) ?_
       refine wp_seq ?_
       refine E.seq ?_
       refine E.opset (L' := [(4, .int .i64 0), (5, .bool true), (11, .bool true), (10, undef), (9, undef), (8, .bool true), (7, .bool true), (6, .int .i64 m), (0, .int .i64 y), (1, .int .i64 m)]) hF (r_assign ev_c) rfl rfl rfl rfl fun a hF => ?_
       refine E.nil ?_
       refine wp_ret ?_
       refine bodyPost_ret (res_tmp Tryd.results31 (hF.at 0 rfl)) hF.dfr ?_
       refine ⟨rv_int ?_, bel⟩
       first
         | exact (mlen_none _ (by omega)).symm
         | exact mlen_2t (by omega) (by assumption)
         | exact mlen_2t' (by omega) (by assumption)
         | exact mlen_ne2 (by omega)
         | exact mlen_2f (eq_false_of_ne_true (by assumption)))
  · first
    | (exfalso; omega)
    | (refine E.opv hF (r_bin (hF.at 0 rfl) ev_c eg_scalar (bi_int (ic_lss (c := false) (dec_ff hc1)) (by simp))) rfl rfl rfl rfl fun a hF => ?_
       refine E.opv hF (r_move (hF.at 0 rfl)) rfl rfl rfl rfl fun a hF => ?_
       refine E.opvg hF (r_move (hF.at 5 rfl)) (wanted_by rfl rfl (hF.at 0 rfl) rfl) rfl rfl rfl fun a hF => ?_
       by_cases hc2 : 12 < m
       · first
         | (exfalso; omega)
         | (refine E.opvg hF (r_bin (hF.at 0 rfl) ev_c eg_scalar (bi_int (ic_gtr (c := true) (dec_tt hc2)) (by simp))) (wanted_by rfl rfl (hF.at 1 rfl) rfl) rfl rfl rfl fun a hF => ?_
            refine E.opv hF (r_pick_f (hF.at 2 rfl) (hF.at 0 rfl)) rfl rfl rfl rfl fun a hF => ?_
            refine E.opv hF (r_assign (hF.at 0 rfl)) rfl rfl rfl rfl fun a hF => ?_
            refine E.nil ?_
            refine wp_cond_true (hF.at 0 rfl) ?_
            refine wp_seq ?_
            refine E.seq ?_
            refine E.opset (L' := [(4, .int .i64 0), (5, .bool true), (11, .bool true), (10, .bool true), (9, .int .i64 m), (8, .bool false), (7, .bool false), (6, .int .i64 m), (0, .int .i64 y), (1, .int .i64 m)]) hF (r_assign ev_c) rfl rfl rfl rfl fun a hF => ?_
            refine E.nil ?_
            refine wp_ret ?_
            refine bodyPost_ret (res_tmp Tryd.results31 (hF.at 0 rfl)) hF.dfr ?_
            refine ⟨rv_int ?_, bel⟩
            first
              | exact (mlen_none _ (by omega)).symm
              | exact mlen_2t (by omega) (by assumption)
              | exact mlen_2t' (by omega) (by assumption)
              | exact mlen_ne2 (by omega)
              | exact mlen_2f (eq_false_of_ne_true (by assumption)))
       · first
         | (exfalso; omega)
         | (refine E.opvg hF (r_bin (hF.at 0 rfl) ev_c eg_scalar (bi_int (ic_gtr (c := false) (dec_ff hc2)) (by simp))) (wanted_by rfl rfl (hF.at 1 rfl) rfl) rfl rfl rfl fun a hF => ?_
            refine E.opv hF (r_pick_f (hF.at 2 rfl) (hF.at 0 rfl)) rfl rfl rfl rfl fun a hF => ?_
            refine E.opv hF (r_assign (hF.at 0 rfl)) rfl rfl rfl rfl fun a hF => ?_
            refine E.nil ?_
            refine wp_cond_false (hF.at 0 rfl) ?_
            refine wp_seq ?_
            refine E.seq ?_
            refine E.opv hF (r_move (hF.at 9 rfl)) rfl rfl rfl rfl fun a hF => ?_
            by_cases hc3 : m = 2
            · first
              | (exfalso; omega)
              | (refine E.opv hF (r_bin (hF.at 0 rfl) ev_c eg_scalar (bi_int (ic_eql (c := true) (dec_tt hc3)) (by simp))) rfl rfl rfl rfl fun a hF => ?_
                 refine E.opv hF (r_move (hF.at 0 rfl)) rfl rfl rfl rfl fun a hF => ?_
                 refine E.opvg hF (r_move (hF.at 11 rfl)) (wanted_by rfl rfl (hF.at 0 rfl) rfl) rfl rfl rfl fun a hF => ?_
                 refine E.callg hF (r_call Tryd.func29 en29.1 en29.2 (map1 (hF.at 0 rfl))) (cleapJ_any y _) (wanted_by rfl rfl (hF.at 1 rfl) rfl) rfl rfl rfl ?_
                 rintro e w4 ⟨rfl, bb⟩
                 refine ⟨_, rfl, ?_⟩
                 intro a hF
                 replace bel := below_to bel bb
                 clear bb
                 refine E.opv hF (r_pick_t (hF.at 2 rfl) (hF.at 0 rfl)) rfl rfl rfl rfl fun a hF => ?_
                 refine E.opv hF (r_assign (hF.at 0 rfl)) rfl rfl rfl rfl fun a hF => ?_
                 refine E.nil ?_
                 by_cases hc5 : leapJ y = true
                 · first
                   | (exfalso; omega)
                   | (refine wp_cond_true (Eq.trans (hF.at 0 rfl) (congrArg Value.bool hc5)) ?_
                      refine wp_seq ?_
                      refine E.seq ?_
                      refine E.opset (L' := [(4, .int .i64 29), (12, .bool (leapJ y)), (18, .bool (leapJ y)), (17, .bool (leapJ y)), (16, .int .i64 y), (15, .bool true), (14, .bool true), (13, .int .i64 m), (5, .bool false), (11, .bool false), (10, .bool false), (9, .int .i64 m), (8, .bool false), (7, .bool false), (6, .int .i64 m), (0, .int .i64 y), (1, .int .i64 m)]) hF (r_assign ev_c) rfl rfl rfl rfl fun a hF => ?_
                      refine E.nil ?_
                      refine wp_ret ?_
                      refine bodyPost_ret (res_tmp Tryd.results31 (hF.at 0 rfl)) hF.dfr ?_
                      refine ⟨rv_int ?_, bel⟩
                      first
                        | exact (mlen_none _ (by omega)).symm
                        | exact mlen_2t (by omega) (by assumption)
                        | exact mlen_2t' (by omega) (by assumption)
                        | exact mlen_ne2 (by omega)
                        | exact mlen_2f (eq_false_of_ne_true (by assumption)))
                 · first
                   | (exfalso; omega)
                   | (refine wp_cond_false (Eq.trans (hF.at 0 rfl) (congrArg Value.bool (eq_false_of_ne_true hc5))) ?_
                      refine wp_skip ?_
                      refine E.blk ?_
                      refine E.norm ?_
                      refine wp_seq ?_
                      refine E.seq ?_
                      refine E.opv hF (r_move (hF.at 16 rfl)) rfl rfl rfl rfl fun a hF => ?_
                      refine E.opv hF (r_bin (hF.at 0 rfl) ev_c eg_scalar (ia_sub (by omega) (by omega))) rfl rfl rfl rfl fun a hF => ?_
                      refine E.opv hF (r_index rfl (hF.at 0 rfl) (ix_tabJ (by omega) (by omega))) rfl rfl rfl rfl fun a hF => ?_
                      refine E.opv hF (r_load (hF.at 0 rfl) (ldc_int ((hT.below bel).at (m := m) (by omega) (by omega)))) rfl rfl rfl rfl fun a hF => ?_
                      refine E.opset (L' := [(4, .int .i64 (mlen false m)), (22, .int .i64 (mlen false m)), (21, .pointer (some ⟨1, (m - 1).toNat, none⟩)), (20, .int .i64 (m - 1)), (19, .int .i64 m), (12, .bool (leapJ y)), (18, .bool (leapJ y)), (17, .bool (leapJ y)), (16, .int .i64 y), (15, .bool true), (14, .bool true), (13, .int .i64 m), (5, .bool false), (11, .bool false), (10, .bool false), (9, .int .i64 m), (8, .bool false), (7, .bool false), (6, .int .i64 m), (0, .int .i64 y), (1, .int .i64 m)]) hF (r_assign (hF.at 0 rfl)) rfl rfl rfl rfl fun a hF => ?_
                      refine E.nil ?_
                      refine wp_ret ?_
                      refine bodyPost_ret (res_tmp Tryd.results31 (hF.at 0 rfl)) hF.dfr ?_
                      refine ⟨rv_int ?_, bel⟩
                      first
                        | exact (mlen_none _ (by omega)).symm
                        | exact mlen_2t (by omega) (by assumption)
                        | exact mlen_2t' (by omega) (by assumption)
                        | exact mlen_ne2 (by omega)
                        | exact mlen_2f (eq_false_of_ne_true (by assumption))))
            · first
              | (exfalso; omega)
              | (refine E.opv hF (r_bin (hF.at 0 rfl) ev_c eg_scalar (bi_int (ic_eql (c := false) (dec_ff hc3)) (by simp))) rfl rfl rfl rfl fun a hF => ?_
                 refine E.opv hF (r_move (hF.at 0 rfl)) rfl rfl rfl rfl fun a hF => ?_
                 refine E.unwanted hF (wanted_by rfl rfl (hF.at 0 rfl) rfl) rfl rfl rfl fun a hF => ?_
                 refine E.unwanted hF (wanted_by rfl rfl (hF.at 1 rfl) rfl) rfl rfl rfl fun a hF => ?_
                 refine E.opv hF (r_pick_f (hF.at 2 rfl) ev_c) rfl rfl rfl rfl fun a hF => ?_
                 refine E.opv hF (r_assign (hF.at 0 rfl)) rfl rfl rfl rfl fun a hF => ?_
                 refine E.nil ?_
                 refine wp_cond_false (hF.at 0 rfl) ?_
                 refine wp_skip ?_
                 refine E.blk ?_
                 refine E.norm ?_
                 refine wp_seq ?_
                 refine E.seq ?_
                 refine E.opv hF (r_move (hF.at 16 rfl)) rfl rfl rfl rfl fun a hF => ?_
                 refine E.opv hF (r_bin (hF.at 0 rfl) ev_c eg_scalar (ia_sub (by omega) (by omega))) rfl rfl rfl rfl fun a hF => ?_
                 refine E.opv hF (r_index rfl (hF.at 0 rfl) (ix_tabJ (by omega) (by omega))) rfl rfl rfl rfl fun a hF => ?_
                 refine E.opv hF (r_load (hF.at 0 rfl) (ldc_int ((hT.below bel).at (m := m) (by omega) (by omega)))) rfl rfl rfl rfl fun a hF => ?_
                 refine E.opset (L' := [(4, .int .i64 (mlen false m)), (22, .int .i64 (mlen false m)), (21, .pointer (some ⟨1, (m - 1).toNat, none⟩)), (20, .int .i64 (m - 1)), (19, .int .i64 m), (12, .bool false), (18, .bool false), (17, undef), (16, undef), (15, .bool false), (14, .bool false), (13, .int .i64 m), (5, .bool false), (11, .bool false), (10, .bool false), (9, .int .i64 m), (8, .bool false), (7, .bool false), (6, .int .i64 m), (0, .int .i64 y), (1, .int .i64 m)]) hF (r_assign (hF.at 0 rfl)) rfl rfl rfl rfl fun a hF => ?_
                 refine E.nil ?_
                 refine wp_ret ?_
                 refine bodyPost_ret (res_tmp Tryd.results31 (hF.at 0 rfl)) hF.dfr ?_
                 refine ⟨rv_int ?_, bel⟩
                 first
                   | exact (mlen_none _ (by omega)).symm
                   | exact mlen_2t (by omega) (by assumption)
                   | exact mlen_2t' (by omega) (by assumption)
                   | exact mlen_ne2 (by omega)
                   | exact mlen_2f (eq_false_of_ne_true (by assumption)))))

set_option maxHeartbeats 1000000 in
theorem cmayJ_any (n : Int) (w : World) :
    Calls Tryd.prog 43 #[.int .i64 n] w (ValPost w (.bool (mayB n))) := by
  have bel : Below w.heap.size w w := Below.refl _ _
  refine E.enter (nt := 9) (L := [(0, .int .i64 n)]) Tryd.func43 rfl rfl rfl (args_cons (i := 0) rfl args_nil) ?_
  intro a hF
  refine wp_seq ?_
  refine E.seq ?_
  refine E.opv hF (r_assign ev_c) rfl rfl rfl rfl fun a hF => ?_
  refine E.nil ?_
  refine wp_seq ?_
  refine E.seq ?_
  refine E.opv hF (r_move (hF.at 1 rfl)) rfl rfl rfl rfl fun a hF => ?_
  by_cases hc1 : (-3000000) ≤ n
  · first
    | (exfalso; omega)
    | (refine E.opv hF (r_bin (hF.at 0 rfl) ev_c eg_scalar (bi_int (ic_geq (c := true) (dec_tt hc1)) (by simp))) rfl rfl rfl rfl fun a hF => ?_
       refine E.opv hF (r_move (hF.at 0 rfl)) rfl rfl rfl rfl fun a hF => ?_
       refine E.opvg hF (r_move (hF.at 4 rfl)) (wanted_by rfl rfl (hF.at 0 rfl) rfl) rfl rfl rfl fun a hF => ?_
       by_cases hc2 : n ≤ 3000000
       · first
         | (exfalso; omega)
         | (refine E.opvg hF (r_bin (hF.at 0 rfl) ev_c eg_scalar (bi_int (ic_leq (c := true) (dec_tt hc2)) (by simp))) (wanted_by rfl rfl (hF.at 1 rfl) rfl) rfl rfl rfl fun a hF => ?_
            refine E.opv hF (r_pick_t (hF.at 2 rfl) (hF.at 0 rfl)) rfl rfl rfl rfl fun a hF => ?_
            refine E.opset (L' := [(2, .bool true), (8, .bool true), (7, .bool true), (6, .int .i64 n), (5, .bool true), (4, .bool true), (3, .int .i64 n), (0, .int .i64 n)]) hF (r_assign (hF.at 0 rfl)) rfl rfl rfl rfl fun a hF => ?_
            refine E.nil ?_
            refine wp_ret ?_
            refine bodyPost_ret (res_tmp Tryd.results43 (hF.at 0 rfl)) hF.dfr ?_
            refine ⟨rv_bool ?_, bel⟩
            exact (decide_eq_true (by omega)).symm)
       · first
         | (exfalso; omega)
         | (refine E.opvg hF (r_bin (hF.at 0 rfl) ev_c eg_scalar (bi_int (ic_leq (c := false) (dec_ff hc2)) (by simp))) (wanted_by rfl rfl (hF.at 1 rfl) rfl) rfl rfl rfl fun a hF => ?_
            refine E.opv hF (r_pick_t (hF.at 2 rfl) (hF.at 0 rfl)) rfl rfl rfl rfl fun a hF => ?_
            refine E.opset (L' := [(2, .bool false), (8, .bool false), (7, .bool false), (6, .int .i64 n), (5, .bool true), (4, .bool true), (3, .int .i64 n), (0, .int .i64 n)]) hF (r_assign (hF.at 0 rfl)) rfl rfl rfl rfl fun a hF => ?_
            refine E.nil ?_
            refine wp_ret ?_
            refine bodyPost_ret (res_tmp Tryd.results43 (hF.at 0 rfl)) hF.dfr ?_
            refine ⟨rv_bool ?_, bel⟩
            exact (decide_eq_false (by omega)).symm))
  · first
    | (exfalso; omega)
    | (refine E.opv hF (r_bin (hF.at 0 rfl) ev_c eg_scalar (bi_int (ic_geq (c := false) (dec_ff hc1)) (by simp))) rfl rfl rfl rfl fun a hF => ?_
       refine E.opv hF (r_move (hF.at 0 rfl)) rfl rfl rfl rfl fun a hF => ?_
       refine E.unwanted hF (wanted_by rfl rfl (hF.at 0 rfl) rfl) rfl rfl rfl fun a hF => ?_
       refine E.unwanted hF (wanted_by rfl rfl (hF.at 1 rfl) rfl) rfl rfl rfl fun a hF => ?_
       refine E.opv hF (r_pick_f (hF.at 2 rfl) ev_c) rfl rfl rfl rfl fun a hF => ?_
       refine E.opset (L' := [(2, .bool false), (8, .bool false), (7, undef), (6, undef), (5, .bool false), (4, .bool false), (3, .int .i64 n), (0, .int .i64 n)]) hF (r_assign (hF.at 0 rfl)) rfl rfl rfl rfl fun a hF => ?_
       refine E.nil ?_
       refine wp_ret ?_
       refine bodyPost_ret (res_tmp Tryd.results43 (hF.at 0 rfl)) hF.dfr ?_
       refine ⟨rv_bool ?_, bel⟩
       exact (decide_eq_false (by omega)).symm)

set_option maxHeartbeats 1000000 in
theorem cfirstJ_any (y : Int) (w : World) (h0 : -100000 ≤ y) (h1 : y ≤ 100000) :
    Calls Tryd.prog 45 #[.int .i64 y] w (ValPost w (.int .i64 (firstJ y))) := by
  have bel : Below w.heap.size w w := Below.refl _ _
  refine E.enter (nt := 12) (L := [(0, .int .i64 y)]) Tryd.func45 rfl rfl rfl (args_cons (i := 0) rfl args_nil) ?_
  intro a hF
  refine wp_seq ?_
  refine E.seq ?_
  refine E.opv hF (r_assign ev_c) rfl rfl rfl rfl fun a hF => ?_
  refine E.nil ?_
  refine wp_seq ?_
  refine E.seq ?_
  refine E.opv hF (r_move (hF.at 1 rfl)) rfl rfl rfl rfl fun a hF => ?_
  refine E.opv hF (r_bin (hF.at 0 rfl) ev_c eg_scalar (ia_sub (by omega) (by omega))) rfl rfl rfl rfl fun a hF => ?_
  refine E.opv hF (r_assign (hF.at 0 rfl)) rfl rfl rfl rfl fun a hF => ?_
  refine E.nil ?_
  refine wp_seq ?_
  refine E.seq ?_
  refine E.opv hF (r_move (hF.at 0 rfl)) rfl rfl rfl rfl fun a hF => ?_
  refine E.opv hF (r_bin (hF.at 0 rfl) ev_c eg_scalar (ia_mul (by omega) (by omega))) rfl rfl rfl rfl fun a hF => ?_
  refine E.opv hF (r_bin ev_c (hF.at 0 rfl) eg_scalar (ia_add (by omega) (by omega))) rfl rfl rfl rfl fun a hF => ?_
  refine E.opv hF (r_move (hF.at 3 rfl)) rfl rfl rfl rfl fun a hF => ?_
  refine E.call hF (r_call Tryd.func50 en50.1 en50.2 (map2 (hF.at 0 rfl) ev_c)) (cfloorJ_any (y - 1) 4 _ (by omega) (by omega) (by omega)) rfl rfl rfl rfl ?_
  rintro e w1 ⟨rfl, bb⟩
  refine ⟨_, rfl, ?_⟩
  intro a hF
  replace bel := below_to bel bb
  clear bb
  refine E.opv hF (r_bin (hF.at 2 rfl) (hF.at 0 rfl) eg_scalar (ia_add (by omega) (by omega))) rfl rfl rfl rfl fun a hF => ?_
  refine E.opset (L' := [(2, .int .i64 (((-1) + ((y - 1) * 365)) + ((y - 1) / 4))), (11, .int .i64 (((-1) + ((y - 1) * 365)) + ((y - 1) / 4))), (10, .int .i64 ((y - 1) / 4)), (9, .int .i64 (y - 1)), (8, .int .i64 ((-1) + ((y - 1) * 365))), (7, .int .i64 ((y - 1) * 365)), (6, .int .i64 (y - 1)), (3, .int .i64 (y - 1)), (5, .int .i64 (y - 1)), (4, .int .i64 y), (0, .int .i64 y)]) hF (r_assign (hF.at 0 rfl)) rfl rfl rfl rfl fun a hF => ?_
  refine E.nil ?_
  refine wp_ret ?_
  refine bodyPost_ret (res_tmp Tryd.results45 (hF.at 0 rfl)) hF.dfr ?_
  refine ⟨rv_int ?_, bel⟩
  unfold firstJ; omega

set_option maxHeartbeats 8000000 in
theorem cyearJ_any (n : Int) (w : World) (h0 : -3000000 ≤ n) (h1 : n ≤ 3000000) :
    Calls Tryd.prog 44 #[.int .i64 n] w (ValPost w (.int .i64 (yearJ n))) := by
  have bel : Below w.heap.size w w := Below.refl _ _
  refine E.enter (nt := 20) (L := [(0, .int .i64 n)]) Tryd.func44 rfl rfl rfl (args_cons (i := 0) rfl args_nil) ?_
  intro a hF
  refine wp_seq ?_
  refine E.seq ?_
  refine E.opv hF (r_assign ev_c) rfl rfl rfl rfl fun a hF => ?_
  refine E.nil ?_
  refine wp_seq ?_
  refine E.seq ?_
  refine E.opv hF (r_move (hF.at 1 rfl)) rfl rfl rfl rfl fun a hF => ?_
  refine E.opv hF (r_bin (hF.at 0 rfl) ev_c eg_scalar (ia_sub (by omega) (by omega))) rfl rfl rfl rfl fun a hF => ?_
  refine E.opv hF (r_assign (hF.at 0 rfl)) rfl rfl rfl rfl fun a hF => ?_
  refine E.nil ?_
  refine wp_seq ?_
  refine E.seq ?_
  refine E.opv hF (r_move (hF.at 0 rfl)) rfl rfl rfl rfl fun a hF => ?_
  refine E.call hF (r_call Tryd.func50 en50.1 en50.2 (map2 (hF.at 0 rfl) ev_c)) (cfloorJ_any (n - (-1)) 1461 _ (by omega) (by omega) (by omega)) rfl rfl rfl rfl ?_
  rintro e w1 ⟨rfl, bb⟩
  refine ⟨_, rfl, ?_⟩
  intro a hF
  replace bel := below_to bel bb
  clear bb
  refine E.opv hF (r_assign (hF.at 0 rfl)) rfl rfl rfl rfl fun a hF => ?_
  refine E.nil ?_
  refine wp_seq ?_
  refine E.seq ?_
  refine E.opv hF (r_move (hF.at 3 rfl)) rfl rfl rfl rfl fun a hF => ?_
  refine E.opv hF (r_move (hF.at 1 rfl)) rfl rfl rfl rfl fun a hF => ?_
  refine E.opv hF (r_bin (hF.at 0 rfl) ev_c eg_scalar (ia_mul (by omega) (by omega))) rfl rfl rfl rfl fun a hF => ?_
  refine E.opv hF (r_bin (hF.at 2 rfl) (hF.at 0 rfl) eg_scalar (ia_sub (by omega) (by omega))) rfl rfl rfl rfl fun a hF => ?_
  refine E.opset (L' := [(3, .int .i64 ((n - (-1)) - (((n - (-1)) / 1461) * 1461))), (12, .int .i64 ((n - (-1)) - (((n - (-1)) / 1461) * 1461))), (11, .int .i64 (((n - (-1)) / 1461) * 1461)), (10, .int .i64 ((n - (-1)) / 1461)), (9, .int .i64 (n - (-1))), (4, .int .i64 ((n - (-1)) / 1461)), (8, .int .i64 ((n - (-1)) / 1461)), (7, .int .i64 (n - (-1))), (6, .int .i64 (n - (-1))), (5, .int .i64 n), (2, .int .i64 0), (0, .int .i64 n)]) hF (r_assign (hF.at 0 rfl)) rfl rfl rfl rfl fun a hF => ?_
  refine E.nil ?_
  refine wp_seq ?_
  refine E.seq ?_
  refine E.opv hF (r_move (hF.at 5 rfl)) rfl rfl rfl rfl fun a hF => ?_
  refine E.opv hF (r_bin ev_c (hF.at 0 rfl) eg_scalar (ia_mul (by omega) (by omega))) rfl rfl rfl rfl fun a hF => ?_
  refine E.opv hF (r_move (hF.at 2 rfl)) rfl rfl rfl rfl fun a hF => ?_
  refine E.opv hF (r_bin (hF.at 0 rfl) ev_c eg_scalar (id_quon (a := (n - (-1)) - (((n - (-1)) / 1461) * 1461)) (b := 365) (by omega) (by omega) (by omega) (by omega))) rfl rfl rfl rfl fun a hF => ?_
  refine E.opv hF (r_builtin (map2 (hF.at 0 rfl) ev_c) bl_min) rfl rfl rfl rfl fun a hF => ?_
  refine E.opv hF (r_bin (hF.at 3 rfl) (hF.at 0 rfl) eg_scalar (ia_add (by omega) (by omega))) rfl rfl rfl rfl fun a hF => ?_
  refine E.opv hF (r_bin (hF.at 0 rfl) ev_c eg_scalar (ia_add (by omega) (by omega))) rfl rfl rfl rfl fun a hF => ?_
  refine E.opset (L' := [(2, .int .i64 (((4 * ((n - (-1)) / 1461)) + (min (((n - (-1)) - (((n - (-1)) / 1461) * 1461)) / 365) 3)) + 1)), (19, .int .i64 (((4 * ((n - (-1)) / 1461)) + (min (((n - (-1)) - (((n - (-1)) / 1461) * 1461)) / 365) 3)) + 1)), (18, .int .i64 ((4 * ((n - (-1)) / 1461)) + (min (((n - (-1)) - (((n - (-1)) / 1461) * 1461)) / 365) 3))), (17, .int .i64 (min (((n - (-1)) - (((n - (-1)) / 1461) * 1461)) / 365) 3)), (16, .int .i64 (((n - (-1)) - (((n - (-1)) / 1461) * 1461)) / 365)), (15, .int .i64 ((n - (-1)) - (((n - (-1)) / 1461) * 1461))), (14, .int .i64 (4 * ((n - (-1)) / 1461))), (13, .int .i64 ((n - (-1)) / 1461)), (3, .int .i64 ((n - (-1)) - (((n - (-1)) / 1461) * 1461))), (12, .int .i64 ((n - (-1)) - (((n - (-1)) / 1461) * 1461))), (11, .int .i64 (((n - (-1)) / 1461) * 1461)), (10, .int .i64 ((n - (-1)) / 1461)), (9, .int .i64 (n - (-1))), (4, .int .i64 ((n - (-1)) / 1461)), (8, .int .i64 ((n - (-1)) / 1461)), (7, .int .i64 (n - (-1))), (6, .int .i64 (n - (-1))), (5, .int .i64 n), (0, .int .i64 n)]) hF (r_assign (hF.at 0 rfl)) rfl rfl rfl rfl fun a hF => ?_
  refine E.nil ?_
  refine wp_ret ?_
  refine bodyPost_ret (res_tmp Tryd.results44 (hF.at 0 rfl)) hF.dfr ?_
  refine ⟨rv_int ?_, bel⟩
  rfl

set_option maxHeartbeats 8000000 in
theorem cfixJ_any (y m d : Int) (w : World) (hT : TabJ w) :
    Calls Tryd.prog 28 #[.agg #[.int .i64 y, .int .i64 m, .int .i64 d]] w (ValPost w (.tuple #[.int .i64 (fixN calJ y m d), .int .i64 (fixE calJ y m d)])) := by
  have hmd := mlen_bd (leapJ y) m
  have bel : Below w.heap.size w w := Below.refl _ _
  refine E.enter (nt := 52) (L := [(0, .agg #[.int .i64 y, .int .i64 m, .int .i64 d])]) Tryd.func28 rfl rfl rfl (args_cons (i := 0) rfl args_nil) ?_
  intro a hF
  refine wp_seq ?_
  refine E.seq ?_
  obtain ⟨g1, w1, ge1, hr, bb, o1⟩ := blk_box (P := Tryd.prog) (w := w) (cs := [.int .i64 y, .int .i64 m, .int .i64 d]) (v := .agg #[.int .i64 y, .int .i64 m, .int .i64 d]) 42 rfl
  replace ge1 : w.heap.size ≤ g1 := by rw [← ge1]; exact bel.size
  refine E.opv hF (r_box (hF.at 0 rfl) hr) rfl rfl rfl rfl fun a hF => ?_
  clear hr
  replace bel := below_to bel bb
  clear bb
  refine E.opv hF (r_assign ev_c) rfl rfl rfl rfl fun a hF => ?_
  refine E.opv hF (r_assign ev_c) rfl rfl rfl rfl fun a hF => ?_
  refine E.nil ?_
  refine wp_seq ?_
  refine wp_block ?_
  refine wp_seq ?_
  refine E.seq ?_
  refine E.opv hF (r_field (hF.at 2 rfl) (fa_JDate_0 (p := 0) rfl)) rfl rfl rfl rfl fun a hF => ?_
  refine E.opv hF (r_load (hF.at 0 rfl) (ldb_i64 (v := .int .i64 y) o1 rfl)) rfl rfl rfl rfl fun a hF => ?_
  by_cases hc2 : y < (-9000)
  · first
    | (exfalso; omega)
    | (refine E.opv hF (r_bin (hF.at 0 rfl) ev_c eg_scalar (bi_int (ic_lss (c := true) (dec_tt hc2)) (by simp))) rfl rfl rfl rfl fun a hF => ?_
       refine E.opv hF (r_move (hF.at 0 rfl)) rfl rfl rfl rfl fun a hF => ?_
       refine E.unwanted hF (wanted_by rfl rfl (hF.at 0 rfl) rfl) rfl rfl rfl fun a hF => ?_
       refine E.unwanted hF (wanted_by rfl rfl (hF.at 1 rfl) rfl) rfl rfl rfl fun a hF => ?_
       refine E.unwanted hF (wanted_by rfl rfl (hF.at 2 rfl) rfl) rfl rfl rfl fun a hF => ?_
       refine E.opv hF (r_pick_t (hF.at 3 rfl) ev_c) rfl rfl rfl rfl fun a hF => ?_
       refine E.opv hF (r_assign (hF.at 0 rfl)) rfl rfl rfl rfl fun a hF => ?_
       refine E.nil ?_
       refine wp_cond_true (hF.at 0 rfl) ?_
       refine wp_seq ?_
       refine E.seq ?_
       refine E.opset (L' := [(2, .int .i64 0), (6, .bool true), (14, .bool true), (13, undef), (12, undef), (11, undef), (10, .bool true), (9, .bool true), (8, .int .i64 y), (7, .pointer (some ⟨g1, 0, none⟩)), (3, .int .i64 0), (1, .pointer (some ⟨g1, 0, none⟩)), (0, .agg #[.int .i64 y, .int .i64 m, .int .i64 d])]) hF (r_assign ev_c) rfl rfl rfl rfl fun a hF => ?_
       refine E.opset (L' := [(3, .int .i64 2), (2, .int .i64 0), (6, .bool true), (14, .bool true), (13, undef), (12, undef), (11, undef), (10, .bool true), (9, .bool true), (8, .int .i64 y), (7, .pointer (some ⟨g1, 0, none⟩)), (1, .pointer (some ⟨g1, 0, none⟩)), (0, .agg #[.int .i64 y, .int .i64 m, .int .i64 d])]) hF (r_assign ev_c) rfl rfl rfl rfl fun a hF => ?_
       refine E.nil ?_
       refine wp_ret ?_
       refine bodyPost_ret (res_tmp2 Tryd.results28 (hF.at 1 rfl) (hF.at 0 rfl)) hF.dfr ?_
       refine ⟨rv_int2 ?_ ?_, bel⟩
       · exact (fix_year (by omega)).1
       · exact (fix_year (by omega)).2)
  · first
    | (exfalso; omega)
    | (refine E.opv hF (r_bin (hF.at 0 rfl) ev_c eg_scalar (bi_int (ic_lss (c := false) (dec_ff hc2)) (by simp))) rfl rfl rfl rfl fun a hF => ?_
       refine E.opv hF (r_move (hF.at 0 rfl)) rfl rfl rfl rfl fun a hF => ?_
       refine E.opvg hF (r_field (hF.at 6 rfl) (fa_JDate_0 (p := 0) rfl)) (wanted_by rfl rfl (hF.at 0 rfl) rfl) rfl rfl rfl fun a hF => ?_
       refine E.opvg hF (r_load (hF.at 0 rfl) (ldb_i64 (v := .int .i64 y) o1 rfl)) (wanted_by rfl rfl (hF.at 1 rfl) rfl) rfl rfl rfl fun a hF => ?_
       by_cases hc3 : 9000 < y
       · first
         | (exfalso; omega)
         | (refine E.opvg hF (r_bin (hF.at 0 rfl) ev_c eg_scalar (bi_int (ic_gtr (c := true) (dec_tt hc3)) (by simp))) (wanted_by rfl rfl (hF.at 2 rfl) rfl) rfl rfl rfl fun a hF => ?_
            refine E.opv hF (r_pick_f (hF.at 3 rfl) (hF.at 0 rfl)) rfl rfl rfl rfl fun a hF => ?_
            refine E.opv hF (r_assign (hF.at 0 rfl)) rfl rfl rfl rfl fun a hF => ?_
            refine E.nil ?_
            refine wp_cond_true (hF.at 0 rfl) ?_
            refine wp_seq ?_
            refine E.seq ?_
            refine E.opset (L' := [(2, .int .i64 0), (6, .bool true), (14, .bool true), (13, .bool true), (12, .int .i64 y), (11, .pointer (some ⟨g1, 0, none⟩)), (10, .bool false), (9, .bool false), (8, .int .i64 y), (7, .pointer (some ⟨g1, 0, none⟩)), (3, .int .i64 0), (1, .pointer (some ⟨g1, 0, none⟩)), (0, .agg #[.int .i64 y, .int .i64 m, .int .i64 d])]) hF (r_assign ev_c) rfl rfl rfl rfl fun a hF => ?_
            refine E.opset (L' := [(3, .int .i64 2), (2, .int .i64 0), (6, .bool true), (14, .bool true), (13, .bool true), (12, .int .i64 y), (11, .pointer (some ⟨g1, 0, none⟩)), (10, .bool false), (9, .bool false), (8, .int .i64 y), (7, .pointer (some ⟨g1, 0, none⟩)), (1, .pointer (some ⟨g1, 0, none⟩)), (0, .agg #[.int .i64 y, .int .i64 m, .int .i64 d])]) hF (r_assign ev_c) rfl rfl rfl rfl fun a hF => ?_
            refine E.nil ?_
            refine wp_ret ?_
            refine bodyPost_ret (res_tmp2 Tryd.results28 (hF.at 1 rfl) (hF.at 0 rfl)) hF.dfr ?_
            refine ⟨rv_int2 ?_ ?_, bel⟩
            · exact (fix_year (by omega)).1
            · exact (fix_year (by omega)).2)
       · first
         | (exfalso; omega)
         | (refine E.opvg hF (r_bin (hF.at 0 rfl) ev_c eg_scalar (bi_int (ic_gtr (c := false) (dec_ff hc3)) (by simp))) (wanted_by rfl rfl (hF.at 2 rfl) rfl) rfl rfl rfl fun a hF => ?_
            refine E.opv hF (r_pick_f (hF.at 3 rfl) (hF.at 0 rfl)) rfl rfl rfl rfl fun a hF => ?_
            refine E.opv hF (r_assign (hF.at 0 rfl)) rfl rfl rfl rfl fun a hF => ?_
            refine E.nil ?_
            refine wp_cond_false (hF.at 0 rfl) ?_
            refine wp_seq ?_
            by_cases hc4 : d < 1
            · first
              | (exfalso; omega)
              | (refine E.drawn 14 mixed hF [16, 17, 18, 19, 20, 21, 22, 23, 24, 25, 26, 27, 28, 15] [(fun _ v => v = .pointer (some ⟨g1, 2, none⟩)), (fun _ v => v = .int .i64 d), (fun _ v => v = .bool true), (fun _ v => v = .bool true), (fun _ v => v = undef), (fun _ v => v = undef), (fun _ v => v = undef), (fun _ v => v = undef), (fun _ v => v = undef), (fun _ v => v = undef), (fun _ v => v = undef), (fun _ v => v = undef), (fun _ v => v = .bool true), (fun _ v => v = .bool true)] [] (by decide +kernel) (by decide +kernel) rfl rfl rfl ⟨(Mb.eq _), (Mb.eq _), (Mb.eq _), (Mb.eq _), (Mb.eq _), (Mb.eq _), (Mb.eq _), (Mb.eq _), (Mb.eq _), (Mb.eq _), (Mb.eq _), (Mb.eq _), (Mb.eq _), (Mb.eq _), trivial⟩ trivial ⟨?_, ?_, ?_, ?_, ?_, ?_, ?_, ?_, ?_, ?_, ?_, ?_, ?_, ?_, trivial⟩ ?_
                 · intro a' w' hF' hb hd
                   exact if_does (wanted_free rfl) (Does.vals (r_field (hF'.at 11 rfl) (fa_JDate_2 (p := 2) rfl)) ⟨rfl, Below.refl _ _, (fun h => absurd h (by decide))⟩)
                 · intro a' w' hF' hb hd
                   have e16 : a'.tmps.getD 16 undef = .pointer (some ⟨g1, 2, none⟩) := hd _ 16 (Array.mem_of_getElem? (i := 0) rfl) rfl rfl
                   exact if_does (wanted_free rfl) (Does.vals (r_load e16 (ldb_int (v := .int .i64 d) (o1.below hb) rfl)) ⟨rfl, Below.refl _ _, (fun h => absurd h (by decide))⟩)
                 · intro a' w' hF' hb hd
                   have e17 : a'.tmps.getD 17 undef = .int .i64 d := hd _ 17 (Array.mem_of_getElem? (i := 0) rfl) rfl rfl
                   exact if_does (wanted_free rfl) (Does.vals (r_bin e17 ev_c eg_scalar (bi_int (ic_lss (c := true) (dec_tt hc4)) (by simp))) ⟨rfl, Below.refl _ _, (fun h => absurd h (by decide))⟩)
                 · intro a' w' hF' hb hd
                   have e18 : a'.tmps.getD 18 undef = .bool true := hd _ 18 (Array.mem_of_getElem? (i := 0) rfl) rfl rfl
                   exact if_does (wanted_free rfl) (Does.vals (r_move e18) ⟨rfl, Below.refl _ _, (fun h => absurd h (by decide))⟩)
                 · intro a' w' hF' hb hd
                   have e19 : a'.tmps.getD 19 undef = .bool true := hd _ 19 (Array.mem_of_getElem? (i := 0) rfl) rfl rfl
                   exact if_not (wanted_by rfl rfl e19 rfl) ⟨rfl, by decide⟩
                 · intro a' w' hF' hb hd
                   have e19 : a'.tmps.getD 19 undef = .bool true := hd _ 19 (Array.mem_of_getElem? (i := 1) rfl) rfl rfl
                   exact if_not (wanted_by rfl rfl e19 rfl) ⟨rfl, by decide⟩
                 · intro a' w' hF' hb hd
                   have e19 : a'.tmps.getD 19 undef = .bool true := hd _ 19 (Array.mem_of_getElem? (i := 0) rfl) rfl rfl
                   exact if_not (wanted_by rfl rfl e19 rfl) ⟨rfl, by decide⟩
                 · intro a' w' hF' hb hd
                   have e19 : a'.tmps.getD 19 undef = .bool true := hd _ 19 (Array.mem_of_getElem? (i := 1) rfl) rfl rfl
                   exact if_not (wanted_by rfl rfl e19 rfl) ⟨rfl, by decide⟩
                 · intro a' w' hF' hb hd
                   have e19 : a'.tmps.getD 19 undef = .bool true := hd _ 19 (Array.mem_of_getElem? (i := 0) rfl) rfl rfl
                   exact if_not (wanted_by rfl rfl e19 rfl) ⟨rfl, by decide⟩
                 · intro a' w' hF' hb hd
                   have e19 : a'.tmps.getD 19 undef = .bool true := hd _ 19 (Array.mem_of_getElem? (i := 1) rfl) rfl rfl
                   exact if_not (wanted_by rfl rfl e19 rfl) ⟨rfl, by decide⟩
                 · intro a' w' hF' hb hd
                   have e19 : a'.tmps.getD 19 undef = .bool true := hd _ 19 (Array.mem_of_getElem? (i := 2) rfl) rfl rfl
                   exact if_not (wanted_by rfl rfl e19 rfl) ⟨rfl, by decide⟩
                 · intro a' w' hF' hb hd
                   have e19 : a'.tmps.getD 19 undef = .bool true := hd _ 19 (Array.mem_of_getElem? (i := 2) rfl) rfl rfl
                   exact if_not (wanted_by rfl rfl e19 rfl) ⟨rfl, by decide⟩
                 · intro a' w' hF' hb hd
                   have e19 : a'.tmps.getD 19 undef = .bool true := hd _ 19 (Array.mem_of_getElem? (i := 0) rfl) rfl rfl
                   exact if_does (wanted_free rfl) (Does.vals (r_pick_t e19 ev_c) ⟨rfl, Below.refl _ _, (fun h => absurd h (by decide))⟩)
                 · intro a' w' hF' hb hd
                   have e28 : a'.tmps.getD 28 undef = .bool true := hd _ 28 (Array.mem_of_getElem? (i := 0) rfl) rfl rfl
                   exact if_does (wanted_free rfl) (Does.vals (r_assign e28) ⟨rfl, Below.refl _ _, (fun h => absurd h (by decide))⟩)
                 intro a w5 hF bb hall hne
                 have e15 : a.tmps.getD 15 undef = .bool true := hall 13 15 rfl
                 clear hall hne
                 replace o1 := o1.below bb
                 replace bel := below_to bel bb
                 clear bb
                 replace hF := hF.add e15
                 clear e15
                 refine E.nil ?_
                 refine wp_cond_true (hF.at 0 rfl) ?_
                 refine wp_seq ?_
                 refine E.seq ?_
                 refine E.opset (L' := [(2, .int .i64 0), (15, .bool true), (6, .bool false), (14, .bool false), (13, .bool false), (12, .int .i64 y), (11, .pointer (some ⟨g1, 0, none⟩)), (10, .bool false), (9, .bool false), (8, .int .i64 y), (7, .pointer (some ⟨g1, 0, none⟩)), (3, .int .i64 0), (1, .pointer (some ⟨g1, 0, none⟩)), (0, .agg #[.int .i64 y, .int .i64 m, .int .i64 d])]) hF (r_assign ev_c) rfl rfl rfl rfl fun a hF => ?_
                 refine E.opset (L' := [(3, .int .i64 4), (2, .int .i64 0), (15, .bool true), (6, .bool false), (14, .bool false), (13, .bool false), (12, .int .i64 y), (11, .pointer (some ⟨g1, 0, none⟩)), (10, .bool false), (9, .bool false), (8, .int .i64 y), (7, .pointer (some ⟨g1, 0, none⟩)), (1, .pointer (some ⟨g1, 0, none⟩)), (0, .agg #[.int .i64 y, .int .i64 m, .int .i64 d])]) hF (r_assign ev_c) rfl rfl rfl rfl fun a hF => ?_
                 refine E.nil ?_
                 refine wp_ret ?_
                 refine bodyPost_ret (res_tmp2 Tryd.results28 (hF.at 1 rfl) (hF.at 0 rfl)) hF.dfr ?_
                 refine ⟨rv_int2 ?_ ?_, bel⟩
                 · exact (fix_bad (by omega) (by unfold Val; show ¬ (1 ≤ m ∧ m ≤ 12 ∧ 1 ≤ d ∧ d ≤ mlen (leapJ y) m); omega)).1
                 · exact (fix_bad (by omega) (by unfold Val; show ¬ (1 ≤ m ∧ m ≤ 12 ∧ 1 ≤ d ∧ d ≤ mlen (leapJ y) m); omega)).2)
            · first
              | (exfalso; omega)
              | (by_cases hc6 : mlen (leapJ y) m < d
                 · first
                   | (exfalso; omega)
                   | (refine E.drawn 14 mixed hF [16, 17, 18, 19, 20, 21, 22, 23, 24, 25, 26, 27, 28, 15] [(fun _ v => v = .pointer (some ⟨g1, 2, none⟩)), (fun _ v => v = .int .i64 d), (fun _ v => v = .bool false), (fun _ v => v = .bool false), (fun _ v => v = .pointer (some ⟨g1, 2, none⟩)), (fun _ v => v = .int .i64 d), (fun _ v => v = .pointer (some ⟨g1, 0, none⟩)), (fun _ v => v = .int .i64 y), (fun _ v => v = .pointer (some ⟨g1, 1, none⟩)), (fun _ v => v = .int .i64 m), (fun _ v => v = .int .i64 (mlen (leapJ y) m)), (fun _ v => v = .bool true), (fun _ v => v = .bool true), (fun _ v => v = .bool true)] [] (by decide +kernel) (by decide +kernel) rfl rfl rfl ⟨(Mb.eq _), (Mb.eq _), (Mb.eq _), (Mb.eq _), (Mb.eq _), (Mb.eq _), (Mb.eq _), (Mb.eq _), (Mb.eq _), (Mb.eq _), (Mb.eq _), (Mb.eq _), (Mb.eq _), (Mb.eq _), trivial⟩ trivial ⟨?_, ?_, ?_, ?_, ?_, ?_, ?_, ?_, ?_, ?_, ?_, ?_, ?_, ?_, trivial⟩ ?_
                      · intro a' w' hF' hb hd
                        exact if_does (wanted_free rfl) (Does.vals (r_field (hF'.at 11 rfl) (fa_JDate_2 (p := 2) rfl)) ⟨rfl, Below.refl _ _, (fun h => absurd h (by decide))⟩)
                      · intro a' w' hF' hb hd
                        have e16 : a'.tmps.getD 16 undef = .pointer (some ⟨g1, 2, none⟩) := hd _ 16 (Array.mem_of_getElem? (i := 0) rfl) rfl rfl
                        exact if_does (wanted_free rfl) (Does.vals (r_load e16 (ldb_int (v := .int .i64 d) (o1.below hb) rfl)) ⟨rfl, Below.refl _ _, (fun h => absurd h (by decide))⟩)
                      · intro a' w' hF' hb hd
                        have e17 : a'.tmps.getD 17 undef = .int .i64 d := hd _ 17 (Array.mem_of_getElem? (i := 0) rfl) rfl rfl
                        exact if_does (wanted_free rfl) (Does.vals (r_bin e17 ev_c eg_scalar (bi_int (ic_lss (c := false) (dec_ff hc4)) (by simp))) ⟨rfl, Below.refl _ _, (fun h => absurd h (by decide))⟩)
                      · intro a' w' hF' hb hd
                        have e18 : a'.tmps.getD 18 undef = .bool false := hd _ 18 (Array.mem_of_getElem? (i := 0) rfl) rfl rfl
                        exact if_does (wanted_free rfl) (Does.vals (r_move e18) ⟨rfl, Below.refl _ _, (fun h => absurd h (by decide))⟩)
                      · intro a' w' hF' hb hd
                        have e19 : a'.tmps.getD 19 undef = .bool false := hd _ 19 (Array.mem_of_getElem? (i := 0) rfl) rfl rfl
                        exact if_does (wanted_by rfl rfl e19 rfl) (Does.vals (r_field (hF'.at 11 rfl) (fa_JDate_2 (p := 2) rfl)) ⟨rfl, Below.refl _ _, (fun h => absurd h (by decide))⟩)
                      · intro a' w' hF' hb hd
                        have e19 : a'.tmps.getD 19 undef = .bool false := hd _ 19 (Array.mem_of_getElem? (i := 1) rfl) rfl rfl
                        have e20 : a'.tmps.getD 20 undef = .pointer (some ⟨g1, 2, none⟩) := hd _ 20 (Array.mem_of_getElem? (i := 0) rfl) rfl rfl
                        exact if_does (wanted_by rfl rfl e19 rfl) (Does.vals (r_load e20 (ldb_int (v := .int .i64 d) (o1.below hb) rfl)) ⟨rfl, Below.refl _ _, (fun h => absurd h (by decide))⟩)
                      · intro a' w' hF' hb hd
                        have e19 : a'.tmps.getD 19 undef = .bool false := hd _ 19 (Array.mem_of_getElem? (i := 0) rfl) rfl rfl
                        exact if_does (wanted_by rfl rfl e19 rfl) (Does.vals (r_field (hF'.at 11 rfl) (fa_JDate_0 (p := 0) rfl)) ⟨rfl, Below.refl _ _, (fun h => absurd h (by decide))⟩)
                      · intro a' w' hF' hb hd
                        have e19 : a'.tmps.getD 19 undef = .bool false := hd _ 19 (Array.mem_of_getElem? (i := 1) rfl) rfl rfl
                        have e22 : a'.tmps.getD 22 undef = .pointer (some ⟨g1, 0, none⟩) := hd _ 22 (Array.mem_of_getElem? (i := 0) rfl) rfl rfl
                        exact if_does (wanted_by rfl rfl e19 rfl) (Does.vals (r_load e22 (ldb_i64 (v := .int .i64 y) (o1.below hb) rfl)) ⟨rfl, Below.refl _ _, (fun h => absurd h (by decide))⟩)
                      · intro a' w' hF' hb hd
                        have e19 : a'.tmps.getD 19 undef = .bool false := hd _ 19 (Array.mem_of_getElem? (i := 0) rfl) rfl rfl
                        exact if_does (wanted_by rfl rfl e19 rfl) (Does.vals (r_field (hF'.at 11 rfl) (fa_JDate_1 (p := 1) rfl)) ⟨rfl, Below.refl _ _, (fun h => absurd h (by decide))⟩)
                      · intro a' w' hF' hb hd
                        have e19 : a'.tmps.getD 19 undef = .bool false := hd _ 19 (Array.mem_of_getElem? (i := 1) rfl) rfl rfl
                        have e24 : a'.tmps.getD 24 undef = .pointer (some ⟨g1, 1, none⟩) := hd _ 24 (Array.mem_of_getElem? (i := 0) rfl) rfl rfl
                        exact if_does (wanted_by rfl rfl e19 rfl) (Does.vals (r_load e24 (ldb_int (v := .int .i64 m) (o1.below hb) rfl)) ⟨rfl, Below.refl _ _, (fun h => absurd h (by decide))⟩)
                      · intro a' w' hF' hb hd
                        have e19 : a'.tmps.getD 19 undef = .bool false := hd _ 19 (Array.mem_of_getElem? (i := 2) rfl) rfl rfl
                        have e23 : a'.tmps.getD 23 undef = .int .i64 y := hd _ 23 (Array.mem_of_getElem? (i := 0) rfl) rfl rfl
                        have e25 : a'.tmps.getD 25 undef = .int .i64 m := hd _ 25 (Array.mem_of_getElem? (i := 1) rfl) rfl rfl
                        refine if_does (wanted_by rfl rfl e19 rfl) (Does.calls (r_call Tryd.func31 en31.1 en31.2 (map2 e23 e25)) (clenJ_any y m _ (hT.below (below_to bel hb))) ?_)
                        rintro e w'' ⟨rfl, bb⟩
                        exact ⟨_, rfl, rfl, bb, (fun h => absurd h (by decide))⟩
                      · intro a' w' hF' hb hd
                        have e19 : a'.tmps.getD 19 undef = .bool false := hd _ 19 (Array.mem_of_getElem? (i := 2) rfl) rfl rfl
                        have e21 : a'.tmps.getD 21 undef = .int .i64 d := hd _ 21 (Array.mem_of_getElem? (i := 0) rfl) rfl rfl
                        have e26 : a'.tmps.getD 26 undef = .int .i64 (mlen (leapJ y) m) := hd _ 26 (Array.mem_of_getElem? (i := 1) rfl) rfl rfl
                        exact if_does (wanted_by rfl rfl e19 rfl) (Does.vals (r_bin e21 e26 eg_scalar (bi_int (ic_gtr (c := true) (dec_tt hc6)) (by simp))) ⟨rfl, Below.refl _ _, (fun h => absurd h (by decide))⟩)
                      · intro a' w' hF' hb hd
                        have e19 : a'.tmps.getD 19 undef = .bool false := hd _ 19 (Array.mem_of_getElem? (i := 0) rfl) rfl rfl
                        have e27 : a'.tmps.getD 27 undef = .bool true := hd _ 27 (Array.mem_of_getElem? (i := 1) rfl) rfl rfl
                        exact if_does (wanted_free rfl) (Does.vals (r_pick_f e19 e27) ⟨rfl, Below.refl _ _, (fun h => absurd h (by decide))⟩)
                      · intro a' w' hF' hb hd
                        have e28 : a'.tmps.getD 28 undef = .bool true := hd _ 28 (Array.mem_of_getElem? (i := 0) rfl) rfl rfl
                        exact if_does (wanted_free rfl) (Does.vals (r_assign e28) ⟨rfl, Below.refl _ _, (fun h => absurd h (by decide))⟩)
                      intro a w7 hF bb hall hne
                      have e15 : a.tmps.getD 15 undef = .bool true := hall 13 15 rfl
                      clear hall hne
                      replace o1 := o1.below bb
                      replace bel := below_to bel bb
                      clear bb
                      replace hF := hF.add e15
                      clear e15
                      refine E.nil ?_
                      refine wp_cond_true (hF.at 0 rfl) ?_
                      refine wp_seq ?_
                      refine E.seq ?_
                      refine E.opset (L' := [(2, .int .i64 0), (15, .bool true), (6, .bool false), (14, .bool false), (13, .bool false), (12, .int .i64 y), (11, .pointer (some ⟨g1, 0, none⟩)), (10, .bool false), (9, .bool false), (8, .int .i64 y), (7, .pointer (some ⟨g1, 0, none⟩)), (3, .int .i64 0), (1, .pointer (some ⟨g1, 0, none⟩)), (0, .agg #[.int .i64 y, .int .i64 m, .int .i64 d])]) hF (r_assign ev_c) rfl rfl rfl rfl fun a hF => ?_
                      refine E.opset (L' := [(3, .int .i64 4), (2, .int .i64 0), (15, .bool true), (6, .bool false), (14, .bool false), (13, .bool false), (12, .int .i64 y), (11, .pointer (some ⟨g1, 0, none⟩)), (10, .bool false), (9, .bool false), (8, .int .i64 y), (7, .pointer (some ⟨g1, 0, none⟩)), (1, .pointer (some ⟨g1, 0, none⟩)), (0, .agg #[.int .i64 y, .int .i64 m, .int .i64 d])]) hF (r_assign ev_c) rfl rfl rfl rfl fun a hF => ?_
                      refine E.nil ?_
                      refine wp_ret ?_
                      refine bodyPost_ret (res_tmp2 Tryd.results28 (hF.at 1 rfl) (hF.at 0 rfl)) hF.dfr ?_
                      refine ⟨rv_int2 ?_ ?_, bel⟩
                      · exact (fix_bad (by omega) (by unfold Val; show ¬ (1 ≤ m ∧ m ≤ 12 ∧ 1 ≤ d ∧ d ≤ mlen (leapJ y) m); omega)).1
                      · exact (fix_bad (by omega) (by unfold Val; show ¬ (1 ≤ m ∧ m ≤ 12 ∧ 1 ≤ d ∧ d ≤ mlen (leapJ y) m); omega)).2)
                 · first
                   | (exfalso; omega)
                   | (refine E.drawn 14 mixed hF [16, 17, 18, 19, 20, 21, 22, 23, 24, 25, 26, 27, 28, 15] [(fun _ v => v = .pointer (some ⟨g1, 2, none⟩)), (fun _ v => v = .int .i64 d), (fun _ v => v = .bool false), (fun _ v => v = .bool false), (fun _ v => v = .pointer (some ⟨g1, 2, none⟩)), (fun _ v => v = .int .i64 d), (fun _ v => v = .pointer (some ⟨g1, 0, none⟩)), (fun _ v => v = .int .i64 y), (fun _ v => v = .pointer (some ⟨g1, 1, none⟩)), (fun _ v => v = .int .i64 m), (fun _ v => v = .int .i64 (mlen (leapJ y) m)), (fun _ v => v = .bool false), (fun _ v => v = .bool false), (fun _ v => v = .bool false)] [] (by decide +kernel) (by decide +kernel) rfl rfl rfl ⟨(Mb.eq _), (Mb.eq _), (Mb.eq _), (Mb.eq _), (Mb.eq _), (Mb.eq _), (Mb.eq _), (Mb.eq _), (Mb.eq _), (Mb.eq _), (Mb.eq _), (Mb.eq _), (Mb.eq _), (Mb.eq _), trivial⟩ trivial ⟨?_, ?_, ?_, ?_, ?_, ?_, ?_, ?_, ?_, ?_, ?_, ?_, ?_, ?_, trivial⟩ ?_
                      · intro a' w' hF' hb hd
                        exact if_does (wanted_free rfl) (Does.vals (r_field (hF'.at 11 rfl) (fa_JDate_2 (p := 2) rfl)) ⟨rfl, Below.refl _ _, (fun h => absurd h (by decide))⟩)
                      · intro a' w' hF' hb hd
                        have e16 : a'.tmps.getD 16 undef = .pointer (some ⟨g1, 2, none⟩) := hd _ 16 (Array.mem_of_getElem? (i := 0) rfl) rfl rfl
                        exact if_does (wanted_free rfl) (Does.vals (r_load e16 (ldb_int (v := .int .i64 d) (o1.below hb) rfl)) ⟨rfl, Below.refl _ _, (fun h => absurd h (by decide))⟩)
                      · intro a' w' hF' hb hd
                        have e17 : a'.tmps.getD 17 undef = .int .i64 d := hd _ 17 (Array.mem_of_getElem? (i := 0) rfl) rfl rfl
                        exact if_does (wanted_free rfl) (Does.vals (r_bin e17 ev_c eg_scalar (bi_int (ic_lss (c := false) (dec_ff hc4)) (by simp))) ⟨rfl, Below.refl _ _, (fun h => absurd h (by decide))⟩)
                      · intro a' w' hF' hb hd
                        have e18 : a'.tmps.getD 18 undef = .bool false := hd _ 18 (Array.mem_of_getElem? (i := 0) rfl) rfl rfl
                        exact if_does (wanted_free rfl) (Does.vals (r_move e18) ⟨rfl, Below.refl _ _, (fun h => absurd h (by decide))⟩)
                      · intro a' w' hF' hb hd
                        have e19 : a'.tmps.getD 19 undef = .bool false := hd _ 19 (Array.mem_of_getElem? (i := 0) rfl) rfl rfl
                        exact if_does (wanted_by rfl rfl e19 rfl) (Does.vals (r_field (hF'.at 11 rfl) (fa_JDate_2 (p := 2) rfl)) ⟨rfl, Below.refl _ _, (fun h => absurd h (by decide))⟩)
                      · intro a' w' hF' hb hd
                        have e19 : a'.tmps.getD 19 undef = .bool false := hd _ 19 (Array.mem_of_getElem? (i := 1) rfl) rfl rfl
                        have e20 : a'.tmps.getD 20 undef = .pointer (some ⟨g1, 2, none⟩) := hd _ 20 (Array.mem_of_getElem? (i := 0) rfl) rfl rfl
                        exact if_does (wanted_by rfl rfl e19 rfl) (Does.vals (r_load e20 (ldb_int (v := .int .i64 d) (o1.below hb) rfl)) ⟨rfl, Below.refl _ _, (fun h => absurd h (by decide))⟩)
                      · intro a' w' hF' hb hd
                        have e19 : a'.tmps.getD 19 undef = .bool false := hd _ 19 (Array.mem_of_getElem? (i := 0) rfl) rfl rfl
                        exact if_does (wanted_by rfl rfl e19 rfl) (Does.vals (r_field (hF'.at 11 rfl) (fa_JDate_0 (p := 0) rfl)) ⟨rfl, Below.refl _ _, (fun h => absurd h (by decide))⟩)
                      · intro a' w' hF' hb hd
                        have e19 : a'.tmps.getD 19 undef = .bool false := hd _ 19 (Array.mem_of_getElem? (i := 1) rfl) rfl rfl
                        have e22 : a'.tmps.getD 22 undef = .pointer (some ⟨g1, 0, none⟩) := hd _ 22 (Array.mem_of_getElem? (i := 0) rfl) rfl rfl
                        exact if_does (wanted_by rfl rfl e19 rfl) (Does.vals (r_load e22 (ldb_i64 (v := .int .i64 y) (o1.below hb) rfl)) ⟨rfl, Below.refl _ _, (fun h => absurd h (by decide))⟩)
                      · intro a' w' hF' hb hd
                        have e19 : a'.tmps.getD 19 undef = .bool false := hd _ 19 (Array.mem_of_getElem? (i := 0) rfl) rfl rfl
                        exact if_does (wanted_by rfl rfl e19 rfl) (Does.vals (r_field (hF'.at 11 rfl) (fa_JDate_1 (p := 1) rfl)) ⟨rfl, Below.refl _ _, (fun h => absurd h (by decide))⟩)
                      · intro a' w' hF' hb hd
                        have e19 : a'.tmps.getD 19 undef = .bool false := hd _ 19 (Array.mem_of_getElem? (i := 1) rfl) rfl rfl
                        have e24 : a'.tmps.getD 24 undef = .pointer (some ⟨g1, 1, none⟩) := hd _ 24 (Array.mem_of_getElem? (i := 0) rfl) rfl rfl
                        exact if_does (wanted_by rfl rfl e19 rfl) (Does.vals (r_load e24 (ldb_int (v := .int .i64 m) (o1.below hb) rfl)) ⟨rfl, Below.refl _ _, (fun h => absurd h (by decide))⟩)
                      · intro a' w' hF' hb hd
                        have e19 : a'.tmps.getD 19 undef = .bool false := hd _ 19 (Array.mem_of_getElem? (i := 2) rfl) rfl rfl
                        have e23 : a'.tmps.getD 23 undef = .int .i64 y := hd _ 23 (Array.mem_of_getElem? (i := 0) rfl) rfl rfl
                        have e25 : a'.tmps.getD 25 undef = .int .i64 m := hd _ 25 (Array.mem_of_getElem? (i := 1) rfl) rfl rfl
                        refine if_does (wanted_by rfl rfl e19 rfl) (Does.calls (r_call Tryd.func31 en31.1 en31.2 (map2 e23 e25)) (clenJ_any y m _ (hT.below (below_to bel hb))) ?_)
                        rintro e w'' ⟨rfl, bb⟩
                        exact ⟨_, rfl, rfl, bb, (fun h => absurd h (by decide))⟩
                      · intro a' w' hF' hb hd
                        have e19 : a'.tmps.getD 19 undef = .bool false := hd _ 19 (Array.mem_of_getElem? (i := 2) rfl) rfl rfl
                        have e21 : a'.tmps.getD 21 undef = .int .i64 d := hd _ 21 (Array.mem_of_getElem? (i := 0) rfl) rfl rfl
                        have e26 : a'.tmps.getD 26 undef = .int .i64 (mlen (leapJ y) m) := hd _ 26 (Array.mem_of_getElem? (i := 1) rfl) rfl rfl
                        exact if_does (wanted_by rfl rfl e19 rfl) (Does.vals (r_bin e21 e26 eg_scalar (bi_int (ic_gtr (c := false) (dec_ff hc6)) (by simp))) ⟨rfl, Below.refl _ _, (fun h => absurd h (by decide))⟩)
                      · intro a' w' hF' hb hd
                        have e19 : a'.tmps.getD 19 undef = .bool false := hd _ 19 (Array.mem_of_getElem? (i := 0) rfl) rfl rfl
                        have e27 : a'.tmps.getD 27 undef = .bool false := hd _ 27 (Array.mem_of_getElem? (i := 1) rfl) rfl rfl
                        exact if_does (wanted_free rfl) (Does.vals (r_pick_f e19 e27) ⟨rfl, Below.refl _ _, (fun h => absurd h (by decide))⟩)
                      · intro a' w' hF' hb hd
                        have e28 : a'.tmps.getD 28 undef = .bool false := hd _ 28 (Array.mem_of_getElem? (i := 0) rfl) rfl rfl
                        exact if_does (wanted_free rfl) (Does.vals (r_assign e28) ⟨rfl, Below.refl _ _, (fun h => absurd h (by decide))⟩)
                      intro a w8 hF bb hall hne
                      have e15 : a.tmps.getD 15 undef = .bool false := hall 13 15 rfl
                      clear hall hne
                      replace o1 := o1.below bb
                      replace bel := below_to bel bb
                      clear bb
                      replace hF := hF.add e15
                      clear e15
                      refine E.nil ?_
                      refine wp_cond_false (hF.at 0 rfl) ?_
                      refine wp_skip ?_
                      refine E.blk ?_
                      refine E.norm ?_
                      refine wp_seq ?_
                      refine E.drawn 8 mixed hF [29, 30, 31, 32, 33, 34, 35, 4] [(fun _ v => v = .pointer (some ⟨g1, 0, none⟩)), (fun _ v => v = .int .i64 y), (fun _ v => v = .int .i64 (firstJ y)), (fun _ v => v = .pointer (some ⟨g1, 2, none⟩)), (fun _ v => v = .int .i64 d), (fun _ v => v = .int .i64 (d - 1)), (fun _ v => v = .int .i64 ((firstJ y) + (d - 1))), (fun _ v => v = .int .i64 ((firstJ y) + (d - 1)))] [] (by decide +kernel) (by decide +kernel) rfl rfl rfl ⟨(Mb.eq _), (Mb.eq _), (Mb.eq _), (Mb.eq _), (Mb.eq _), (Mb.eq _), (Mb.eq _), (Mb.eq _), trivial⟩ trivial ⟨?_, ?_, ?_, ?_, ?_, ?_, ?_, ?_, trivial⟩ ?_
                      · intro a' w' hF' hb hd
                        exact if_does (wanted_free rfl) (Does.vals (r_field (hF'.at 12 rfl) (fa_JDate_0 (p := 0) rfl)) ⟨rfl, Below.refl _ _, (fun h => absurd h (by decide))⟩)
                      · intro a' w' hF' hb hd
                        have e29 : a'.tmps.getD 29 undef = .pointer (some ⟨g1, 0, none⟩) := hd _ 29 (Array.mem_of_getElem? (i := 0) rfl) rfl rfl
                        exact if_does (wanted_free rfl) (Does.vals (r_load e29 (ldb_i64 (v := .int .i64 y) (o1.below hb) rfl)) ⟨rfl, Below.refl _ _, (fun h => absurd h (by decide))⟩)
                      · intro a' w' hF' hb hd
                        have e30 : a'.tmps.getD 30 undef = .int .i64 y := hd _ 30 (Array.mem_of_getElem? (i := 0) rfl) rfl rfl
                        refine if_does (wanted_free rfl) (Does.calls (r_call Tryd.func45 en45.1 en45.2 (map1 e30)) (cfirstJ_any y _ (by omega) (by omega)) ?_)
                        rintro e w'' ⟨rfl, bb⟩
                        exact ⟨_, rfl, rfl, bb, (fun h => absurd h (by decide))⟩
                      · intro a' w' hF' hb hd
                        exact if_does (wanted_free rfl) (Does.vals (r_field (hF'.at 12 rfl) (fa_JDate_2 (p := 2) rfl)) ⟨rfl, Below.refl _ _, (fun h => absurd h (by decide))⟩)
                      · intro a' w' hF' hb hd
                        have e32 : a'.tmps.getD 32 undef = .pointer (some ⟨g1, 2, none⟩) := hd _ 32 (Array.mem_of_getElem? (i := 0) rfl) rfl rfl
                        exact if_does (wanted_free rfl) (Does.vals (r_load e32 (ldb_int (v := .int .i64 d) (o1.below hb) rfl)) ⟨rfl, Below.refl _ _, (fun h => absurd h (by decide))⟩)
                      · intro a' w' hF' hb hd
                        have e33 : a'.tmps.getD 33 undef = .int .i64 d := hd _ 33 (Array.mem_of_getElem? (i := 0) rfl) rfl rfl
                        exact if_does (wanted_free rfl) (Does.vals (r_bin e33 ev_c eg_scalar (ia_sub (by omega) (by omega))) ⟨rfl, Below.refl _ _, (fun h => absurd h (by decide))⟩)
                      · intro a' w' hF' hb hd
                        have e31 : a'.tmps.getD 31 undef = .int .i64 (firstJ y) := hd _ 31 (Array.mem_of_getElem? (i := 0) rfl) rfl rfl
                        have hfb := firstJ_bd (y := y) (by omega) (by omega)
                        have e34 : a'.tmps.getD 34 undef = .int .i64 (d - 1) := hd _ 34 (Array.mem_of_getElem? (i := 1) rfl) rfl rfl
                        exact if_does (wanted_free rfl) (Does.vals (r_bin e31 e34 eg_scalar (ia_add (by omega) (by omega))) ⟨rfl, Below.refl _ _, (fun h => absurd h (by decide))⟩)
                      · intro a' w' hF' hb hd
                        have e35 : a'.tmps.getD 35 undef = .int .i64 ((firstJ y) + (d - 1)) := hd _ 35 (Array.mem_of_getElem? (i := 0) rfl) rfl rfl
                        exact if_does (wanted_free rfl) (Does.vals (r_assign e35) ⟨rfl, Below.refl _ _, (fun h => absurd h (by decide))⟩)
                      intro a w9 hF bb hall hne
                      have e4 : a.tmps.getD 4 undef = .int .i64 ((firstJ y) + (d - 1)) := hall 7 4 rfl
                      clear hall hne
                      replace o1 := o1.below bb
                      replace bel := below_to bel bb
                      clear bb
                      replace hF := hF.add e4
                      clear e4
                      refine E.nil ?_
                      refine wp_seq ?_
                      refine wp_seq ?_
                      refine E.seq ?_
                      refine E.opv hF (r_assign ev_c) rfl rfl rfl rfl fun a hF => ?_
                      refine E.nil ?_
                      refine wp_block ?_
                      refine E.loop (fun mq a wv => ∃ (n : Int) (k : Int), 1 ≤ k ∧ k ≤ m ∧ n = firstJ y + (d - 1) + cum (leapJ y) k ∧ Fr 52 a [(5, .int .i64 k), (4, .int .i64 n), (3, .int .i64 0), (2, .int .i64 0), (1, .pointer (some ⟨g1, 0, none⟩))] ∧ Below w9.heap.size w9 wv ∧ Below w.heap.size w wv ∧ mq = (m - k : Int).toNat) ((m - (1) : Int).toNat) ?_ ?_
                      · exact ⟨((firstJ y) + (d - 1) : Int), (1 : Int), (by omega), ((mlen_in (l := leapJ y) (m := m) (by omega)).1), (by rw [cum_one]; omega), hF.sub (by intro p hp; simp only [List.mem_cons, List.not_mem_nil, or_false] at hp ⊢; rcases hp with rfl | rfl | rfl | rfl | rfl <;> simp), Below.refl _ _, bel, rfl⟩
                      · rintro mq a w10 ⟨n, k, hk1, hk2, hn, hF, sty, bel, hm⟩
                        replace o1 := o1.below sty
                        have hm2 := mlen_in (l := leapJ y) (m := m) (by omega)
                        have hcb := cum_bd (leapJ y) (m := k) hk1 (by omega)
                        have hmb := mlen_bd (leapJ y) k
                        have hmd := mlen_bd (leapJ y) m
                        have hfb := firstJ_bd (y := y) (by omega) (by omega)
                        refine wp_seq ?_
                        refine wp_seq ?_
                        refine E.seq ?_
                        refine E.opv hF (r_move (hF.at 0 rfl)) rfl rfl rfl rfl fun a hF => ?_
                        refine E.opv hF (r_field (hF.at 5 rfl) (fa_JDate_1 (p := 1) rfl)) rfl rfl rfl rfl fun a hF => ?_
                        refine E.opv hF (r_load (hF.at 0 rfl) (ldb_int (v := .int .i64 m) o1 rfl)) rfl rfl rfl rfl fun a hF => ?_
                        by_cases hc11 : k < m
                        · first
                          | (exfalso; omega)
                          | (refine E.opv hF (r_bin (hF.at 2 rfl) (hF.at 0 rfl) eg_scalar (bi_int (ic_lss (c := true) (dec_tt hc11)) (by simp))) rfl rfl rfl rfl fun a hF => ?_
                             refine E.nil ?_
                             refine wp_cond_true (hF.at 0 rfl) ?_
                             refine wp_skip ?_
                             refine E.norm ?_
                             refine wp_seq ?_
                             refine wp_block ?_
                             refine E.seq ?_
                             refine E.opv hF (r_move (hF.at 5 rfl)) rfl rfl rfl rfl fun a hF => ?_
                             refine E.opv hF (r_field (hF.at 9 rfl) (fa_JDate_0 (p := 0) rfl)) rfl rfl rfl rfl fun a hF => ?_
                             refine E.opv hF (r_load (hF.at 0 rfl) (ldb_i64 (v := .int .i64 y) o1 rfl)) rfl rfl rfl rfl fun a hF => ?_
                             refine E.opv hF (r_move (hF.at 7 rfl)) rfl rfl rfl rfl fun a hF => ?_
                             refine E.call hF (r_call Tryd.func31 en31.1 en31.2 (map2 (hF.at 1 rfl) (hF.at 0 rfl))) (clenJ_any y k _ (hT.below bel)) rfl rfl rfl rfl ?_
                             rintro e w12 ⟨rfl, bb⟩
                             refine ⟨_, rfl, ?_⟩
                             intro a hF
                             replace o1 := o1.below bb
                             replace bel := below_to bel bb
                             replace sty := below_to sty bb
                             clear bb
                             refine E.opv hF (r_bin (hF.at 4 rfl) (hF.at 0 rfl) eg_scalar (ia_add (by omega) (by omega))) rfl rfl rfl rfl fun a hF => ?_
                             refine E.opset (L' := [(4, .int .i64 (n + (mlen (leapJ y) k))), (47, .int .i64 (n + (mlen (leapJ y) k))), (46, .int .i64 (mlen (leapJ y) k)), (45, .int .i64 k), (44, .int .i64 y), (43, .pointer (some ⟨g1, 0, none⟩)), (42, .int .i64 n), (39, .bool true), (38, .int .i64 m), (37, .pointer (some ⟨g1, 1, none⟩)), (36, .int .i64 k), (5, .int .i64 k), (3, .int .i64 0), (2, .int .i64 0), (1, .pointer (some ⟨g1, 0, none⟩))]) hF (r_assign (hF.at 0 rfl)) rfl rfl rfl rfl fun a hF => ?_
                             refine E.nil0 ?_
                             refine E.blk ?_
                             refine E.norm ?_
                             refine E.seq ?_
                             refine E.opv hF (r_move (hF.at 11 rfl)) rfl rfl rfl rfl fun a hF => ?_
                             refine E.opv hF (r_bin (hF.at 0 rfl) ev_c eg_scalar (ia_add (by omega) (by omega))) rfl rfl rfl rfl fun a hF => ?_
                             refine E.opset (L' := [(5, .int .i64 (k + 1)), (41, .int .i64 (k + 1)), (40, .int .i64 k), (4, .int .i64 (n + (mlen (leapJ y) k))), (47, .int .i64 (n + (mlen (leapJ y) k))), (46, .int .i64 (mlen (leapJ y) k)), (45, .int .i64 k), (44, .int .i64 y), (43, .pointer (some ⟨g1, 0, none⟩)), (42, .int .i64 n), (39, .bool true), (38, .int .i64 m), (37, .pointer (some ⟨g1, 1, none⟩)), (36, .int .i64 k), (3, .int .i64 0), (2, .int .i64 0), (1, .pointer (some ⟨g1, 0, none⟩))]) hF (r_assign (hF.at 0 rfl)) rfl rfl rfl rfl fun a hF => ?_
                             refine E.nil0 ?_
                             refine E.norm ?_
                             exact ⟨(m - (k + 1) : Int).toNat, by omega, ⟨(n + (mlen (leapJ y) k) : Int), (k + 1 : Int), (by omega), (by omega), (by have := cum_step (leapJ y) (m := k) hk1 (by omega); omega), Fr.sub (L' := [(5, .int .i64 (k + 1)), (4, .int .i64 (n + (mlen (leapJ y) k))), (3, .int .i64 0), (2, .int .i64 0), (1, .pointer (some ⟨g1, 0, none⟩))]) hF (by intro p hp; simp only [List.mem_cons, List.not_mem_nil, or_false] at hp ⊢; rcases hp with rfl | rfl | rfl | rfl | rfl <;> simp), sty, bel, rfl⟩⟩)
                        · first
                          | (exfalso; omega)
                          | (refine E.opv hF (r_bin (hF.at 2 rfl) (hF.at 0 rfl) eg_scalar (bi_int (ic_lss (c := false) (dec_ff hc11)) (by simp))) rfl rfl rfl rfl fun a hF => ?_
                             refine E.nil ?_
                             refine wp_cond_false (hF.at 0 rfl) ?_
                             refine wp_exit ?_
                             refine E.past ?_
                             refine E.past ?_
                             refine E.out (id := 1) ?_
                             refine E.norm ?_
                             refine wp_seq ?_
                             refine wp_seq ?_
                             refine E.seq ?_
                             refine E.opv hF (r_move (hF.at 5 rfl)) rfl rfl rfl rfl fun a hF => ?_
                             refine E.call hF (r_call Tryd.func43 en43.1 en43.2 (map1 (hF.at 0 rfl))) (cmayJ_any n _) rfl rfl rfl rfl ?_
                             rintro e w13 ⟨rfl, bb⟩
                             refine ⟨_, rfl, ?_⟩
                             intro a hF
                             replace bel := below_to bel bb
                             clear bb
                             by_cases hc14 : mayB n = true
                             · first
                               | (exfalso; omega)
                               | (refine E.opv hF (r_un (Eq.trans (hF.at 0 rfl) (congrArg Value.bool hc14)) (bn_not _ false rfl)) rfl rfl rfl rfl fun a hF => ?_
                                  refine E.nil ?_
                                  refine wp_cond_false (hF.at 0 rfl) ?_
                                  refine wp_skip ?_
                                  refine E.norm ?_
                                  refine wp_seq ?_
                                  refine E.seq ?_
                                  refine E.opv hF (r_move (hF.at 8 rfl)) rfl rfl rfl rfl fun a hF => ?_
                                  refine E.opset (L' := [(2, .int .i64 n), (51, .int .i64 n), (50, .bool false), (49, .bool (mayB n)), (48, .int .i64 n), (39, .bool false), (38, .int .i64 m), (37, .pointer (some ⟨g1, 1, none⟩)), (36, .int .i64 k), (5, .int .i64 k), (4, .int .i64 n), (3, .int .i64 0), (1, .pointer (some ⟨g1, 0, none⟩))]) hF (r_assign (hF.at 0 rfl)) rfl rfl rfl rfl fun a hF => ?_
                                  refine E.opset (L' := [(3, .int .i64 0), (2, .int .i64 n), (51, .int .i64 n), (50, .bool false), (49, .bool (mayB n)), (48, .int .i64 n), (39, .bool false), (38, .int .i64 m), (37, .pointer (some ⟨g1, 1, none⟩)), (36, .int .i64 k), (5, .int .i64 k), (4, .int .i64 n), (1, .pointer (some ⟨g1, 0, none⟩))]) hF (r_assign ev_c) rfl rfl rfl rfl fun a hF => ?_
                                  refine E.nil ?_
                                  refine wp_ret ?_
                                  refine bodyPost_ret (res_tmp2 Tryd.results28 (hF.at 1 rfl) (hF.at 0 rfl)) hF.dfr ?_
                                  have hkm : k = m := by omega
                                  subst hkm
                                  have hday : n = calJ.day y k d := by rw [hn]; show _ = firstJ y + cum (leapJ y) k + d - 1; omega
                                  have hval : Val (calJ.leap y) k d := ⟨hk1, hm2.2, by omega, by show d ≤ mlen (leapJ y) k; omega⟩
                                  refine ⟨rv_int2 ?_ ?_, bel⟩
                                  · exact hday.trans (fix_ok (by omega) hval (by rw [← hday]; first | assumption | simp_all)).1
                                  · exact (fix_ok (by omega) hval (by rw [← hday]; first | assumption | simp_all)).2)
                             · first
                               | (exfalso; omega)
                               | (refine E.opv hF (r_un (Eq.trans (hF.at 0 rfl) (congrArg Value.bool (eq_false_of_ne_true hc14))) (bn_not _ true rfl)) rfl rfl rfl rfl fun a hF => ?_
                                  refine E.nil ?_
                                  refine wp_cond_true (hF.at 0 rfl) ?_
                                  refine wp_seq ?_
                                  refine E.seq ?_
                                  refine E.opset (L' := [(2, .int .i64 0), (50, .bool true), (49, .bool (mayB n)), (48, .int .i64 n), (39, .bool false), (38, .int .i64 m), (37, .pointer (some ⟨g1, 1, none⟩)), (36, .int .i64 k), (5, .int .i64 k), (4, .int .i64 n), (3, .int .i64 0), (1, .pointer (some ⟨g1, 0, none⟩))]) hF (r_assign ev_c) rfl rfl rfl rfl fun a hF => ?_
                                  refine E.opset (L' := [(3, .int .i64 2), (2, .int .i64 0), (50, .bool true), (49, .bool (mayB n)), (48, .int .i64 n), (39, .bool false), (38, .int .i64 m), (37, .pointer (some ⟨g1, 1, none⟩)), (36, .int .i64 k), (5, .int .i64 k), (4, .int .i64 n), (1, .pointer (some ⟨g1, 0, none⟩))]) hF (r_assign ev_c) rfl rfl rfl rfl fun a hF => ?_
                                  refine E.nil ?_
                                  refine wp_ret ?_
                                  refine bodyPost_ret (res_tmp2 Tryd.results28 (hF.at 1 rfl) (hF.at 0 rfl)) hF.dfr ?_
                                  have hkm : k = m := by omega
                                  subst hkm
                                  have hday : n = calJ.day y k d := by rw [hn]; show _ = firstJ y + cum (leapJ y) k + d - 1; omega
                                  have hval : Val (calJ.leap y) k d := ⟨hk1, hm2.2, by omega, by show d ≤ mlen (leapJ y) k; omega⟩
                                  refine ⟨rv_int2 ?_ ?_, bel⟩
                                  · exact (fix_far (by omega) hval (by rw [← hday]; first | assumption | exact eq_false_of_ne_true (by assumption))).1
                                  · exact (fix_far (by omega) hval (by rw [← hday]; first | assumption | exact eq_false_of_ne_true (by assumption))).2))))))

set_option maxHeartbeats 8000000 in
theorem cofJ_any (n : Int) (w : World) (hT : TabJ w) (hmay : mayB n = true) :
    Calls Tryd.prog 26 #[.int .i64 n] w (fun e w' => ∃ y mo d, e = .returned (.tuple #[.agg #[.int .i64 y, .int .i64 mo, .int .i64 d], .int .i64 0]) ∧ Val (leapJ y) mo d ∧ calJ.day y mo d = n ∧ Below w.heap.size w w') := by
  have hmay1 := mayB_of hmay
  have hyb := yearJ_bd hmay1.1 hmay1.2
  have hyi := yearJ_in n
  have bel : Below w.heap.size w w := Below.refl _ _
  refine E.enter (nt := 34) (L := [(0, .int .i64 n)]) Tryd.func26 rfl rfl rfl (args_cons (i := 0) rfl args_nil) ?_
  intro a hF
  refine wp_seq ?_
  refine E.seq ?_
  obtain ⟨g2, w1, ge2, hr, bb, o2⟩ := blk_alloc (P := Tryd.prog) (w := w) (cs := [.int .i64 0, .int .i64 0, .int .i64 0]) 42 ze_JDate rfl
  replace ge2 : w.heap.size ≤ g2 := by rw [← ge2]; exact bel.size
  refine E.opv hF (r_alloc hr) rfl rfl rfl rfl fun a hF => ?_
  clear hr
  replace bel := below_to bel bb
  clear bb
  refine E.opv hF (r_assign ev_c) rfl rfl rfl rfl fun a hF => ?_
  refine E.nil ?_
  refine wp_seq ?_
  refine wp_seq ?_
  refine E.seq ?_
  refine E.opv hF (r_move (hF.at 2 rfl)) rfl rfl rfl rfl fun a hF => ?_
  refine E.call hF (r_call Tryd.func43 en43.1 en43.2 (map1 (hF.at 0 rfl))) (cmayJ_any n _) rfl rfl rfl rfl ?_
  rintro e w2 ⟨rfl, bb⟩
  refine ⟨_, rfl, ?_⟩
  intro a hF
  replace o2 := o2.below bb
  replace bel := below_to bel bb
  clear bb
  refine E.opv hF (r_un (Eq.trans (hF.at 0 rfl) (congrArg Value.bool hmay)) (bn_not _ false rfl)) rfl rfl rfl rfl fun a hF => ?_
  refine E.nil ?_
  refine wp_cond_false (hF.at 0 rfl) ?_
  refine wp_skip ?_
  refine E.norm ?_
  refine wp_seq ?_
  refine E.seq ?_
  refine E.opv hF (r_move (hF.at 5 rfl)) rfl rfl rfl rfl fun a hF => ?_
  refine E.call hF (r_call Tryd.func44 en44.1 en44.2 (map1 (hF.at 0 rfl))) (cyearJ_any n _ (by omega) (by omega)) rfl rfl rfl rfl ?_
  rintro e w3 ⟨rfl, bb⟩
  refine ⟨_, rfl, ?_⟩
  intro a hF
  have hyb := yearJ_bd (n := n) (by omega) (by omega)
  have hyi := yearJ_in n
  replace o2 := o2.below bb
  replace bel := below_to bel bb
  clear bb
  refine E.opv hF (r_assign (hF.at 0 rfl)) rfl rfl rfl rfl fun a hF => ?_
  refine E.opv hF (r_assign ev_c) rfl rfl rfl rfl fun a hF => ?_
  refine E.nil ?_
  refine wp_seq ?_
  refine E.seq ?_
  refine E.opv hF (r_move (hF.at 9 rfl)) rfl rfl rfl rfl fun a hF => ?_
  refine E.opv hF (r_move (hF.at 2 rfl)) rfl rfl rfl rfl fun a hF => ?_
  refine E.call hF (r_call Tryd.func45 en45.1 en45.2 (map1 (hF.at 0 rfl))) (cfirstJ_any (yearJ n) _ (by omega) (by omega)) rfl rfl rfl rfl ?_
  rintro e w4 ⟨rfl, bb⟩
  refine ⟨_, rfl, ?_⟩
  intro a hF
  have hfb := firstJ_bd (y := yearJ n) (by omega) (by omega)
  replace o2 := o2.below bb
  replace bel := below_to bel bb
  clear bb
  refine E.opv hF (r_bin (hF.at 2 rfl) (hF.at 0 rfl) eg_scalar (ia_sub (by omega) (by omega))) rfl rfl rfl rfl fun a hF => ?_
  refine E.opv hF (r_assign (hF.at 0 rfl)) rfl rfl rfl rfl fun a hF => ?_
  refine E.nil ?_
  refine wp_seq ?_
  refine wp_block ?_
  refine E.loop (fun mq a wv => ∃ (k : Int) (r : Int), 1 ≤ k ∧ k ≤ 12 ∧ r = n - firstJ (yearJ n) - cum (leapJ (yearJ n)) k ∧ 0 ≤ r ∧ Fr 34 a [(6, .int .i64 r), (5, .int .i64 k), (4, .int .i64 (yearJ n)), (3, .int .i64 0), (2, .pointer (some ⟨g2, 0, none⟩))] ∧ Below w4.heap.size w4 wv ∧ Below w.heap.size w wv ∧ mq = (13 - k : Int).toNat) ((13 - (1) : Int).toNat) ?_ ?_
  · exact ⟨(1 : Int), (n - (firstJ (yearJ n)) : Int), (by omega), (by omega), (by rw [cum_one]; omega), (by omega), hF.sub (by intro p hp; simp only [List.mem_cons, List.not_mem_nil, or_false] at hp ⊢; rcases hp with rfl | rfl | rfl | rfl | rfl <;> simp), Below.refl _ _, bel, rfl⟩
  · rintro mq a w5 ⟨k, r, hk1, hk2, hr, hr0, hF, sty, bel, hm⟩
    replace o2 := o2.below sty
    have hcb := cum_bd (leapJ (yearJ n)) (m := k) hk1 (by omega)
    have hmb := mlen_bd (leapJ (yearJ n)) k
    have hfb := firstJ_bd (y := yearJ n) (by omega) (by omega)
    have hce := cum_end (leapJ (yearJ n))
    have hst := stepJ (yearJ n)
    have hcs := cum_step (leapJ (yearJ n)) (m := k) hk1 (by omega)
    have hk12 : mlen (leapJ (yearJ n)) k ≤ r → k + 1 ≤ 12 := by
      intro hh
      by_cases e : k = 12
      · exfalso
        subst e
        rw [show ((12 : Int) + 1) = 13 from rfl, hce] at hcs
        omega
      · omega
    refine wp_seq ?_
    refine wp_seq ?_
    refine E.seq ?_
    refine E.opv hF (r_move (hF.at 0 rfl)) rfl rfl rfl rfl fun a hF => ?_
    refine E.opv hF (r_move (hF.at 3 rfl)) rfl rfl rfl rfl fun a hF => ?_
    refine E.opv hF (r_move (hF.at 3 rfl)) rfl rfl rfl rfl fun a hF => ?_
    refine E.call hF (r_call Tryd.func31 en31.1 en31.2 (map2 (hF.at 1 rfl) (hF.at 0 rfl))) (clenJ_any (yearJ n) k _ (hT.below bel)) rfl rfl rfl rfl ?_
    rintro e w6 ⟨rfl, bb⟩
    refine ⟨_, rfl, ?_⟩
    intro a hF
    replace o2 := o2.below bb
    replace bel := below_to bel bb
    replace sty := below_to sty bb
    clear bb
    by_cases hc7 : mlen (leapJ (yearJ n)) k ≤ r
    · first
      | (exfalso; omega)
      | (refine E.opv hF (r_bin (hF.at 3 rfl) (hF.at 0 rfl) eg_scalar (bi_int (ic_geq (c := true) (dec_tt hc7)) (by simp))) rfl rfl rfl rfl fun a hF => ?_
         refine E.nil ?_
         refine wp_cond_true (hF.at 0 rfl) ?_
         refine wp_skip ?_
         refine E.norm ?_
         refine wp_block ?_
         refine wp_seq ?_
         refine E.seq ?_
         refine E.opv hF (r_move (hF.at 5 rfl)) rfl rfl rfl rfl fun a hF => ?_
         refine E.opv hF (r_move (hF.at 8 rfl)) rfl rfl rfl rfl fun a hF => ?_
         refine E.opv hF (r_move (hF.at 8 rfl)) rfl rfl rfl rfl fun a hF => ?_
         refine E.call hF (r_call Tryd.func31 en31.1 en31.2 (map2 (hF.at 1 rfl) (hF.at 0 rfl))) (clenJ_any (yearJ n) k _ (hT.below bel)) rfl rfl rfl rfl ?_
         rintro e w8 ⟨rfl, bb⟩
         refine ⟨_, rfl, ?_⟩
         intro a hF
         replace o2 := o2.below bb
         replace bel := below_to bel bb
         replace sty := below_to sty bb
         clear bb
         refine E.opv hF (r_bin (hF.at 3 rfl) (hF.at 0 rfl) eg_scalar (ia_sub (by omega) (by omega))) rfl rfl rfl rfl fun a hF => ?_
         refine E.opset (L' := [(6, .int .i64 (r - (mlen (leapJ (yearJ n)) k))), (26, .int .i64 (r - (mlen (leapJ (yearJ n)) k))), (25, .int .i64 (mlen (leapJ (yearJ n)) k)), (24, .int .i64 k), (23, .int .i64 (yearJ n)), (22, .int .i64 r), (21, .bool true), (20, .int .i64 (mlen (leapJ (yearJ n)) k)), (19, .int .i64 k), (18, .int .i64 (yearJ n)), (17, .int .i64 r), (5, .int .i64 k), (4, .int .i64 (yearJ n)), (3, .int .i64 0), (2, .pointer (some ⟨g2, 0, none⟩))]) hF (r_assign (hF.at 0 rfl)) rfl rfl rfl rfl fun a hF => ?_
         refine E.nil ?_
         refine E.seq ?_
         refine E.opv hF (r_move (hF.at 11 rfl)) rfl rfl rfl rfl fun a hF => ?_
         refine E.opv hF (r_bin (hF.at 0 rfl) ev_c eg_scalar (ia_add (by omega) (by omega))) rfl rfl rfl rfl fun a hF => ?_
         refine E.opset (L' := [(5, .int .i64 (k + 1)), (28, .int .i64 (k + 1)), (27, .int .i64 k), (6, .int .i64 (r - (mlen (leapJ (yearJ n)) k))), (26, .int .i64 (r - (mlen (leapJ (yearJ n)) k))), (25, .int .i64 (mlen (leapJ (yearJ n)) k)), (24, .int .i64 k), (23, .int .i64 (yearJ n)), (22, .int .i64 r), (21, .bool true), (20, .int .i64 (mlen (leapJ (yearJ n)) k)), (19, .int .i64 k), (18, .int .i64 (yearJ n)), (17, .int .i64 r), (4, .int .i64 (yearJ n)), (3, .int .i64 0), (2, .pointer (some ⟨g2, 0, none⟩))]) hF (r_assign (hF.at 0 rfl)) rfl rfl rfl rfl fun a hF => ?_
         refine E.nil0 ?_
         refine E.blk ?_
         refine E.norm ?_
         exact ⟨(13 - (k + 1) : Int).toNat, by omega, ⟨(k + 1 : Int), (r - (mlen (leapJ (yearJ n)) k) : Int), (by omega), (hk12 (by omega)), (by have := cum_step (leapJ (yearJ n)) (m := k) hk1 (by omega); omega), (by omega), Fr.sub (L' := [(6, .int .i64 (r - (mlen (leapJ (yearJ n)) k))), (5, .int .i64 (k + 1)), (4, .int .i64 (yearJ n)), (3, .int .i64 0), (2, .pointer (some ⟨g2, 0, none⟩))]) hF (by intro p hp; simp only [List.mem_cons, List.not_mem_nil, or_false] at hp ⊢; rcases hp with rfl | rfl | rfl | rfl | rfl <;> simp), sty, bel, rfl⟩⟩)
    · first
      | (exfalso; omega)
      | (refine E.opv hF (r_bin (hF.at 3 rfl) (hF.at 0 rfl) eg_scalar (bi_int (ic_geq (c := false) (dec_ff hc7)) (by simp))) rfl rfl rfl rfl fun a hF => ?_
         refine E.nil ?_
         refine wp_cond_false (hF.at 0 rfl) ?_
         refine wp_exit ?_
         refine E.past ?_
         refine E.past ?_
         refine E.out (id := 0) ?_
         refine E.norm ?_
         refine wp_seq ?_
         refine E.seq ?_
         refine E.opv hF (r_move (hF.at 7 rfl)) rfl rfl rfl rfl fun a hF => ?_
         refine E.opv hF (r_move (hF.at 7 rfl)) rfl rfl rfl rfl fun a hF => ?_
         refine E.opv hF (r_move (hF.at 7 rfl)) rfl rfl rfl rfl fun a hF => ?_
         refine E.opv hF (r_bin (hF.at 0 rfl) ev_c eg_scalar (ia_add (by omega) (by omega))) rfl rfl rfl rfl fun a hF => ?_
         refine E.opv hF (r_build (pair3 (hF.at 3 rfl) (hF.at 2 rfl) (hF.at 0 rfl)) (bd_JDate_012 _ _ _ _)) rfl rfl rfl rfl fun a hF => ?_
         obtain ⟨w9, hr, tu, on⟩ := stb_JDate (vs := [.int .i64 (yearJ n), .int .i64 k, .int .i64 (r + 1)]) o2 rfl rfl (ocI (ocI (ocI oc0))) (o := 0) rfl
         refine E.st hF (r_store (hF.at 14 rfl) (hF.at 0 rfl) (hr _ rfl)) rfl rfl fun a hF => ?_
         clear hr
         replace bel := tu.below bel ge2
         clear tu
         replace o2 := on
         clear on
         refine E.opset (L' := [(3, .int .i64 0), (33, .agg #[.int .i64 (yearJ n), .int .i64 k, .int .i64 (r + 1)]), (32, .int .i64 (r + 1)), (31, .int .i64 r), (30, .int .i64 k), (29, .int .i64 (yearJ n)), (21, .bool false), (20, .int .i64 (mlen (leapJ (yearJ n)) k)), (19, .int .i64 k), (18, .int .i64 (yearJ n)), (17, .int .i64 r), (6, .int .i64 r), (5, .int .i64 k), (4, .int .i64 (yearJ n)), (2, .pointer (some ⟨g2, 0, none⟩))]) hF (r_assign ev_c) rfl rfl rfl rfl fun a hF => ?_
         refine E.nil ?_
         refine wp_ret ?_
         refine bodyPost_ret (res_celltmp Tryd.results26 (hF.at 14 rfl) (ldb_JDate (vs := [.int .i64 (yearJ n), .int .i64 k, .int .i64 (r + 1)]) o2 rfl rfl) (hF.at 0 rfl)) hF.dfr ?_
         have hvd : Val (leapJ (yearJ n)) k (r + 1) := ⟨hk1, hk2, by omega, by omega⟩
         exact ⟨_, _, _, rfl, hvd, by show firstJ (yearJ n) + cum (leapJ (yearJ n)) k + (r + 1) - 1 = n; omega, bel⟩)

set_option maxHeartbeats 1000000 in
theorem cofxJ_any (n : Int) (w : World) (hT : TabJ w) (hmay : mayB n = false) :
    Calls Tryd.prog 26 #[.int .i64 n] w (ValPost w (.tuple #[.agg #[.int .i64 0, .int .i64 0, .int .i64 0], .int .i64 2])) := by
  have bel : Below w.heap.size w w := Below.refl _ _
  refine E.enter (nt := 34) (L := [(0, .int .i64 n)]) Tryd.func26 rfl rfl rfl (args_cons (i := 0) rfl args_nil) ?_
  intro a hF
  refine wp_seq ?_
  refine E.seq ?_
  obtain ⟨g2, w1, ge2, hr, bb, o2⟩ := blk_alloc (P := Tryd.prog) (w := w) (cs := [.int .i64 0, .int .i64 0, .int .i64 0]) 42 ze_JDate rfl
  replace ge2 : w.heap.size ≤ g2 := by rw [← ge2]; exact bel.size
  refine E.opv hF (r_alloc hr) rfl rfl rfl rfl fun a hF => ?_
  clear hr
  replace bel := below_to bel bb
  clear bb
  refine E.opv hF (r_assign ev_c) rfl rfl rfl rfl fun a hF => ?_
  refine E.nil ?_
  refine wp_seq ?_
  refine wp_seq ?_
  refine E.seq ?_
  refine E.opv hF (r_move (hF.at 2 rfl)) rfl rfl rfl rfl fun a hF => ?_
  refine E.call hF (r_call Tryd.func43 en43.1 en43.2 (map1 (hF.at 0 rfl))) (cmayJ_any n _) rfl rfl rfl rfl ?_
  rintro e w2 ⟨rfl, bb⟩
  refine ⟨_, rfl, ?_⟩
  intro a hF
  replace o2 := o2.below bb
  replace bel := below_to bel bb
  clear bb
  refine E.opv hF (r_un (Eq.trans (hF.at 0 rfl) (congrArg Value.bool hmay)) (bn_not _ true rfl)) rfl rfl rfl rfl fun a hF => ?_
  refine E.nil ?_
  refine wp_cond_true (hF.at 0 rfl) ?_
  refine wp_seq ?_
  refine E.seq ?_
  refine E.opv hF (r_build (by simp) (bd_JDate_ _)) rfl rfl rfl rfl fun a hF => ?_
  obtain ⟨w3, hr, tu, on⟩ := stb_JDate (vs := [.int .i64 0, .int .i64 0, .int .i64 0]) o2 rfl rfl (ocI (ocI (ocI oc0))) (o := 0) rfl
  refine E.st hF (r_store (hF.at 5 rfl) (hF.at 0 rfl) (hr _ rfl)) rfl rfl fun a hF => ?_
  clear hr
  replace bel := tu.below bel ge2
  clear tu
  replace o2 := on
  clear on
  refine E.opset (L' := [(3, .int .i64 2), (10, .agg #[.int .i64 0, .int .i64 0, .int .i64 0]), (9, .bool true), (8, .bool (mayB n)), (7, .int .i64 n), (2, .pointer (some ⟨g2, 0, none⟩)), (0, .int .i64 n)]) hF (r_assign ev_c) rfl rfl rfl rfl fun a hF => ?_
  refine E.nil ?_
  refine wp_ret ?_
  refine bodyPost_ret (res_celltmp Tryd.results26 (hF.at 5 rfl) (ldb_JDate (vs := [.int .i64 0, .int .i64 0, .int .i64 0]) o2 rfl rfl) (hF.at 0 rfl)) hF.dfr ?_
  exact ⟨rfl, bel⟩

end Go.Proofs.YtcgbllbhagijjaaDoor
