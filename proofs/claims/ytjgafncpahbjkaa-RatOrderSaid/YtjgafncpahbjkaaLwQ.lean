/- How two rational numbers stand. -/
import Derived.Test.YtjgafncpahbjkaaLwB
namespace Go.Proofs.Ytjgafncpahbjkaa
open Go.RowKit
set_option maxRecDepth 100000
set_option linter.unusedVariables false

theorem qc_def (a b : Rat) : qc a b = if a < b then -1 else if b < a then 1 else 0 := by
  unfold qc ci
  simp only [← Rat.lt_iff]
theorem qc_bd (a b : Rat) : -1 ≤ qc a b ∧ qc a b ≤ 1 := by rw [qc_def]; split <;> (try split) <;> omega
theorem sz_bd (z : Int) : -1 ≤ sz z ∧ sz z ≤ 1 := by unfold sz; split <;> (try split) <;> omega
theorem sz_def (q : Rat) : sz q.num = if q < 0 then -1 else if 0 < q then 1 else 0 := by
  have h1 : q < 0 ↔ q.num < 0 := by rw [Rat.lt_iff]; simp
  have h2 : 0 < q ↔ 0 < q.num := by rw [Rat.lt_iff]; simp
  simp only [h1, h2]
  unfold sz
  split
  · rename_i e; rw [e]; simp
  · split
    · rfl
    · rw [if_pos (by omega)]
theorem small_mul {a b : Int} (ha : -1 ≤ a ∧ a ≤ 1) (hb : -1 ≤ b ∧ b ≤ 1) : -9223372036854775808 ≤ a * b ∧ a * b ≤ 9223372036854775807 := by
  obtain ⟨a1, a2⟩ := ha
  obtain ⟨b1, b2⟩ := hb
  have h : a = -1 ∨ a = 0 ∨ a = 1 := by omega
  rcases h with rfl | rfl | rfl <;> constructor <;> omega
theorem qc_symm (a b : Rat) : qc b a = -qc a b := by
  rw [qc_def, qc_def]; split <;> split <;> (try split) <;> grind
theorem qc_add (a b c : Rat) : qc (a + c) (b + c) = qc a b := by
  rw [qc_def, qc_def]; simp only [Rat.add_lt_add_right]
theorem qc_sub (a b : Rat) : sz (a - b).num = qc a b := by
  rw [sz_def, qc_def]
  have h1 : a - b < 0 ↔ a < b := by grind
  have h2 : 0 < a - b ↔ b < a := by grind
  simp only [h1, h2]
theorem qc_mul (a b c : Rat) : qc (a * c) (b * c) = qc a b * sz c.num := by
  rw [sz_def]
  by_cases h1 : c < 0
  · rw [if_pos h1, qc_def, qc_def]
    have e1 : a * c < b * c ↔ b < a := by
      have := Rat.mul_lt_mul_right (a := b) (b := a) (c := -c) (by grind)
      rw [Rat.mul_neg, Rat.mul_neg, Rat.neg_lt_neg_iff] at this
      exact this
    have e2 : b * c < a * c ↔ a < b := by
      have := Rat.mul_lt_mul_right (a := a) (b := b) (c := -c) (by grind)
      rw [Rat.mul_neg, Rat.mul_neg, Rat.neg_lt_neg_iff] at this
      exact this
    simp only [e1, e2]
    split <;> split <;> (try split) <;> grind
  · rw [if_neg h1]
    by_cases h2 : 0 < c
    · rw [if_pos h2, qc_def, qc_def]
      simp only [Rat.mul_lt_mul_right h2, Int.mul_one]
    · rw [if_neg h2]
      have : c = 0 := by grind
      subst this
      rw [Rat.mul_zero, Rat.mul_zero, qc_def, if_neg Rat.lt_irrefl, if_neg Rat.lt_irrefl]
      omega
theorem qc_trans {a b c : Rat} (h1 : qc a b ≤ 0) (h2 : qc b c ≤ 0) : qc a c ≤ 0 := by
  rw [qc_def] at *
  grind
theorem neg_rng {a : Int} (h : -1 ≤ a ∧ a ≤ 1) : -9223372036854775808 ≤ -a ∧ -a ≤ 9223372036854775807 := ⟨by omega, by omega⟩
end Go.Proofs.Ytjgafncpahbjkaa
