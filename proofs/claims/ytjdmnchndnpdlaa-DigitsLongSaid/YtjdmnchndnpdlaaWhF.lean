/- Quotients rounded down: the arithmetic of whole.DivMod. -/
import Derived.Test.YtjdmnchndnpdlaaGE
namespace Go.Proofs.Ytjdmnchndnpdlaa
open Go.RowKit
set_option maxRecDepth 100000

/-- What is left over by the quotient rounded down; by 0: 0. -/
def fr (a b : Int) : Int := if b = 0 then 0 else a.fmod b
theorem f_pos {a b q r : Int} (h : a = b * q + r) (h0 : 0 ≤ r) (h1 : r < b) : a.fdiv b = q ∧ a.fmod b = r := by
  have hb : 0 < b := by omega
  have := (Int.ediv_emod_unique (a := a) (q := q) (r := r) hb).2 ⟨by omega, h0, h1⟩
  rw [Int.fdiv_eq_ediv_of_nonneg _ (by omega), Int.fmod_eq_emod_of_nonneg _ (by omega)]
  exact this
theorem f_neg {a b q r : Int} (h : a = b * q + r) (h0 : r ≤ 0) (h1 : b < r) : a.fdiv b = q ∧ a.fmod b = r := by
  have hq : (-a).fdiv (-b) = q ∧ (-a).fmod (-b) = -r := f_pos (by rw [h, Int.neg_mul]; omega) (by omega) (by omega)
  rw [Int.neg_fdiv_neg] at hq
  refine ⟨hq.1, ?_⟩
  have := Int.fmod_def a b
  rw [hq.1] at this
  omega
theorem cast_dm (N M : Nat) : (N : Int) = (M : Int) * ((N / M : Nat) : Int) + ((N % M : Nat) : Int) := by
  have := Nat.div_add_mod N M
  exact_mod_cast this.symm
theorem fdm_zero' (z : Int) : z.fdiv 0 = 0 ∧ fr z 0 = 0 := ⟨Int.fdiv_zero z, if_pos rfl⟩
theorem fdm_same (n : Bool) (N M : Nat) : (sg n N).fdiv (sg n M) = sg false (N / M) ∧ fr (sg n N) (sg n M) = sg n (if M = 0 then 0 else N % M) := by
  by_cases hm : M = 0
  · subst hm
    rw [sg_zero, if_pos rfl, sg_zero, Nat.div_zero, sg_zero]; exact fdm_zero' _
  · have h1 := cast_dm N M
    have h2 := Nat.mod_lt N (show 0 < M by omega)
    rw [if_neg hm]
    generalize N / M = q at *
    generalize N % M = r at *
    unfold fr
    cases n with
    | false => rw [sg_false, sg_false, sg_false, sg_false, if_neg (by omega)]; exact f_pos h1 (by omega) (by omega)
    | true => rw [sg_true, sg_true, sg_true, sg_false, if_neg (by omega)]; exact f_neg (by rw [h1, Int.neg_mul]; omega) (by omega) (by omega)
theorem fdm_zero (n : Bool) (N M : Nat) (h : (if M = 0 then 0 else N % M) = 0) : (sg n N).fdiv (sg (!n) M) = sg true (N / M) ∧ fr (sg n N) (sg (!n) M) = sg (!n) 0 := by
  by_cases hm : M = 0
  · subst hm
    rw [sg_zero, Nat.div_zero, sg_zero]; exact fdm_zero' _
  · have h1 := cast_dm N M
    rw [if_neg hm] at h
    rw [h] at h1
    rw [sg_zero]
    generalize N / M = q at *
    unfold fr
    cases n with
    | false => rw [show (!false) = true from rfl, sg_false, sg_true, sg_true, if_neg (by omega)]; exact f_neg (by rw [h1, Int.neg_mul, Int.mul_neg]; omega) (by omega) (by omega)
    | true => rw [show (!true) = false from rfl, sg_false, sg_true, sg_true, if_neg (by omega)]; exact f_pos (by rw [h1, Int.mul_neg]; omega) (by omega) (by omega)
theorem fdm_rest (n : Bool) (N M : Nat) (h : ¬ (if M = 0 then 0 else N % M) = 0) : (sg n N).fdiv (sg (!n) M) = sg true (N / M + 1) ∧ fr (sg n N) (sg (!n) M) = sg (!n) (M - (if M = 0 then 0 else N % M)) := by
  by_cases hm : M = 0
  · subst hm
    exact absurd (if_pos rfl) h
  · have h1 := cast_dm N M
    have h2 := Nat.mod_lt N (show 0 < M by omega)
    rw [if_neg hm] at h ⊢
    generalize N / M = q at *
    generalize N % M = r at *
    unfold fr
    cases n with
    | false => rw [show (!false) = true from rfl, sg_false, sg_true, sg_true, sg_true, if_neg (by omega)]; exact f_neg (by rw [h1, Int.neg_mul, Int.mul_neg]; push_cast; rw [Int.mul_add]; omega) (by omega) (by omega)
    | true => rw [show (!true) = false from rfl, sg_false, sg_true, sg_true, sg_false, if_neg (by omega)]; exact f_pos (by rw [h1, Int.mul_neg]; push_cast; rw [Int.mul_add]; omega) (by omega) (by omega)
end Go.Proofs.Ytjdmnchndnpdlaa
