/- Fractions: words. -/
import Derived.Test.YthoiocjbjfhgpaaQac
import Derived.Test.YthoiocjbjfhgpaaGY
import Derived.Test.YthoiocjbjfhgpaaGJ
namespace Go.Proofs.Ythoiocjbjfhgpaa
open Go.RowKit
set_option maxRecDepth 100000
set_option linter.unusedVariables false

/-- What is above the floor. -/
def frac (q : Rat) : Rat := q - (q.floor : Rat)
theorem fr_mk (q : Rat) : frac q = mkRat (q.num - q.floor * (q.den : Int)) q.den := by
  unfold frac
  rw [Rat.mkRat_eq_div, Rat.intCast_sub, Rat.intCast_mul, Rat.intCast_natCast]
  have h : (q.den : Rat) ≠ 0 := by
    intro e
    have := Rat.natCast_pos.2 q.den_pos
    grind
  have e : (q.num : Rat) = q * (q.den : Rat) := by
    have h1 : q = (q.num : Rat) / (q.den : Rat) := by rw [← Rat.mkRat_eq_div, Rat.mkRat_self]
    have : q * (q.den : Rat) = (q.num : Rat) / (q.den : Rat) * (q.den : Rat) := by rw [← h1]
    rw [this, Rat.div_mul_cancel h]
  rw [e]
  grind
theorem fr_mod (q : Rat) : q.num - q.floor * (q.den : Int) = q.num % (q.den : Int) := by
  rw [Rat.floor_def]
  have := Int.mul_ediv_add_emod q.num (q.den : Int)
  rw [Int.mul_comm] at this
  omega
theorem fr_parts (q : Rat) : (frac q).den ≤ q.den ∧ 0 ≤ (frac q).num ∧ (frac q).num < ((frac q).den : Int) ∧ (frac q).num ≤ q.num % (q.den : Int) := by
  have hd := q.den_pos
  have h0 := Int.emod_nonneg q.num (b := (q.den : Int)) (by omega)
  have h1 := Int.emod_lt_of_pos q.num (b := (q.den : Int)) (by omega)
  rw [fr_mk, fr_mod]
  rw [Rat.num_mkRat, Rat.den_mkRat, if_neg (by omega), if_neg (by omega)]
  generalize q.num % (q.den : Int) = m at *
  generalize q.den = D at *
  have hg : 0 < Nat.gcd D m.natAbs := Nat.gcd_pos_of_pos_left _ hd
  obtain ⟨a, ha⟩ := Nat.gcd_dvd_left D m.natAbs
  obtain ⟨b, hb⟩ := Nat.gcd_dvd_right D m.natAbs
  have hm : m = ((Nat.gcd D m.natAbs * b : Nat) : Int) := by omega
  generalize Nat.gcd D m.natAbs = g at *
  have e1 : D / g = a := by rw [ha, Nat.mul_div_cancel_left _ hg]
  have e2 : m / (g : Int) = (b : Int) := by rw [hm, Int.natCast_mul, Int.mul_ediv_cancel_left _ (by omega)]
  rw [e1, e2]
  have hab : b < a := by
    have : g * b < g * a := by omega
    exact Nat.lt_of_mul_lt_mul_left this
  refine ⟨Nat.le_trans (Nat.le_mul_of_pos_left a hg) (Nat.le_of_eq ha.symm), by omega, by omega, ?_⟩
  have := Nat.le_mul_of_pos_left b hg
  omega
theorem inv_eq (r : Rat) : ((1 : Int) : Rat) / r = r⁻¹ := by rw [Rat.div_def, Rat.intCast_one, Rat.one_mul]
/-- What comes behind it. -/
def nextq (q : Rat) : Rat := ((1 : Int) : Rat) / frac q
theorem next_parts {q : Rat} (h : frac q ≠ 0) : (nextq q).num = ((frac q).den : Int) ∧ (nextq q).den = (frac q).num.natAbs ∧ 0 < (frac q).num := by
  have hp := fr_parts q
  have hn : (frac q).num ≠ 0 := fun e => h (Rat.num_eq_zero.1 e)
  unfold nextq
  rw [inv_eq, Rat.num_inv, Rat.den_inv, if_neg hn, Int.sign_eq_one_of_pos (by omega), Int.one_mul]
  exact ⟨rfl, rfl, by omega⟩
theorem next_half {q : Rat} (h : frac q ≠ 0) : 2 * (frac (nextq q)).num < (q.den : Int) := by
  obtain ⟨e1, e2, hp⟩ := next_parts h
  obtain ⟨a1, a2, a3, a4⟩ := fr_parts q
  obtain ⟨b1, b2, b3, b4⟩ := fr_parts (nextq q)
  rw [e1, e2] at b4
  have e3 : (((frac q).num.natAbs : Nat) : Int) = (frac q).num := by omega
  rw [e3] at b4
  have h1 := Int.emod_lt_of_pos ((frac q).den : Int) hp
  have h2 := Int.mul_ediv_add_emod ((frac q).den : Int) (frac q).num
  have h3 : 1 ≤ ((frac q).den : Int) / (frac q).num := by
    have := Int.ediv_le_ediv hp (Int.le_of_lt a3)
    rwa [Int.ediv_self (by omega)] at this
  have h4 : (frac q).num * 1 ≤ (frac q).num * (((frac q).den : Int) / (frac q).num) := Int.mul_le_mul_of_nonneg_left h3 (by omega)
  omega
/-- How small what is left is at step i. -/
def Small (q : Rat) (i : Nat) : Prop := q.den * 2 ^ (i / 2) < 2 ^ 96 ∧ (frac q).num.natAbs * 2 ^ ((i + 1) / 2) < 2 ^ 96
theorem Small.start {q : Rat} (h : q.den < 2 ^ 96) : Small q 0 := by
  obtain ⟨a1, a2, a3, a4⟩ := fr_parts q
  refine ⟨by simpa using h, ?_⟩
  simp only [Nat.zero_add, show (1 : Nat) / 2 = 0 from rfl, Nat.pow_zero, Nat.mul_one]
  omega
theorem Small.next {q : Rat} {i : Nat} (h : Small q i) (hf : frac q ≠ 0) : Small (nextq q) (i + 1) := by
  obtain ⟨e1, e2, hp⟩ := next_parts hf
  have hh := next_half hf
  obtain ⟨b1, b2, b3, b4⟩ := fr_parts (nextq q)
  refine ⟨by rw [e2]; exact h.2, ?_⟩
  rw [show (i + 1 + 1) / 2 = i / 2 + 1 by omega, Nat.pow_succ]
  have h1 : (frac (nextq q)).num.natAbs * 2 ≤ q.den := by omega
  have h2 := Nat.mul_le_mul_right (2 ^ (i / 2)) h1
  have h3 := h.1
  have e : (frac (nextq q)).num.natAbs * (2 ^ (i / 2) * 2) = (frac (nextq q)).num.natAbs * 2 * 2 ^ (i / 2) := by
    rw [Nat.mul_comm (2 ^ (i / 2)) 2, Nat.mul_assoc]
  rw [e]
  omega
theorem Small.end {q : Rat} {i : Nat} (h : Small q i) (hf : frac q ≠ 0) : i < 192 := by
  obtain ⟨_, _, hp⟩ := next_parts hf
  rcases Nat.lt_or_ge i 192 with k | k
  · exact k
  · exfalso
    have h1 := h.2
    have h2 : 2 ^ 96 ≤ 2 ^ ((i + 1) / 2) := Nat.pow_le_pow_right (by decide) (by omega)
    have h3 : 1 * 2 ^ ((i + 1) / 2) ≤ (frac q).num.natAbs * 2 ^ ((i + 1) / 2) := Nat.mul_le_mul_right _ (by omega)
    omega
theorem back_eq {q : Rat} (hf : frac q ≠ 0) : (q.floor : Rat) + ((1 : Int) : Rat) / nextq q = q := by
  unfold nextq
  rw [inv_eq, inv_eq, Rat.inv_inv]
  unfold frac
  grind

/-- What is left at step m. -/
def itq (p : Rat) : Nat → Rat
  | 0 => p
  | m + 1 => nextq (itq p m)
/-- The floors of the first m steps. -/
def flq (p : Rat) (m : Nat) : List Rat := (List.range m).map (fun j => (((itq p j).floor : Int) : Rat))
def Going (p : Rat) (m : Nat) : Prop := ∀ j, j < m → frac (itq p j) ≠ 0
theorem flq_len (p : Rat) (m : Nat) : (flq p m).length = m := by simp [flq]
theorem flq_get {p : Rat} {m j : Nat} (hj : j < m) : (flq p m).getD j 0 = (((itq p j).floor : Int) : Rat) := by simp [flq, List.getD, hj]
theorem flq_succ (p : Rat) (m : Nat) : flq p m ++ [(((itq p m).floor : Int) : Rat)] = flq p (m + 1) := by simp [flq, List.range_succ]
theorem next_lim {q : Rat} (h : RLim q 3) (hf : frac q ≠ 0) : RLim (nextq q) 3 := by
  obtain ⟨e1, e2, hp⟩ := next_parts hf
  obtain ⟨a1, a2, a3, a4⟩ := fr_parts q
  have h2 : q.den < B32 ^ 3 := h.2
  refine ⟨show _ < B32 ^ 3 from ?_, show _ < B32 ^ 3 from ?_⟩ <;> generalize B32 ^ 3 = b at *
  · rw [e1]; omega
  · rw [e2]; omega
theorem itq_lim {p : Rat} (h : RLim p 3) : ∀ m, Going p m → RLim (itq p m) 3
  | 0, _ => h
  | m + 1, g => next_lim (itq_lim h m (fun j hj => g j (by omega))) (g m (by omega))
theorem itq_small {p : Rat} (h : p.den < 2 ^ 96) : ∀ m, Going p m → Small (itq p m) m
  | 0, _ => Small.start h
  | m + 1, g => (itq_small h m (fun j hj => g j (by omega))).next (g m (by omega))
theorem sz_0 {q : Rat} : sz (Rat.num q) = 0 ↔ q = 0 := by
  rw [sz_def]
  constructor
  · intro h
    split at h
    · omega
    · split at h
      · omega
      · grind
  · rintro rfl
    simp
theorem go_end {p : Rat} (h : RLim p 3) {m : Nat} (g : Going p m) (hc : ¬ sz (Rat.num (itq p m - (((itq p m).floor : Int) : Rat))) = 0) : m < 192 := by
  have h2 : p.den < 2 ^ 96 := by
    have : p.den < B32 ^ 3 := h.2
    rwa [show B32 ^ 3 = 2 ^ 96 by decide +kernel] at this
  exact (itq_small h2 m g).end (fun e => hc (sz_0.2 e))
theorem go_more {p : Rat} {m : Nat} (g : Going p m) (hc : ¬ sz (Rat.num (itq p m - (((itq p m).floor : Int) : Rat))) = 0) : Going p (m + 1) := by
  intro j hj
  rcases Nat.lt_or_ge j m with k | k
  · exact g j k
  · obtain rfl : j = m := by omega
    exact fun e => hc (sz_0.2 e)
theorem go_less {p : Rat} {m k : Nat} (g : Going p m) (hk : k ≤ m) : Going p k := fun j hj => g j (by omega)
theorem go_stop {q : Rat} (hc : sz (Rat.num (q - ((q.floor : Int) : Rat))) = 0) : ((q.floor : Int) : Rat) = q := by
  have := sz_0.1 hc
  grind
theorem go_back {p : Rat} {k m : Nat} (g : Going p m) (h1 : 1 ≤ k) (hk : k ≤ m) : (((itq p (k - 1)).floor : Int) : Rat) + ((1 : Int) : Rat) / itq p k = itq p (k - 1) := by
  obtain ⟨j, rfl⟩ : ∃ j, k = j + 1 := ⟨k - 1, by omega⟩
  exact back_eq (g j (by omega))
theorem QAcc.cast {w : World} {base : Nat} {v : Value} {xs ys : List Rat} (h : QAcc w base v xs) (e : xs = ys) : QAcc w base v ys := e ▸ h
end Go.Proofs.Ythoiocjbjfhgpaa
