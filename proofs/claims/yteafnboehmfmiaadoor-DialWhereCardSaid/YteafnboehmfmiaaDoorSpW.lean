/- How high places are. -/
import Derived.Test.YteafnboehmfmiaaDoorGO
namespace Go.Proofs.YteafnboehmfmiaaDoor
open Go.RowKit
set_option maxRecDepth 100000
set_option linter.unusedVariables false

def hiT : List Int := [0, 225, 449, 671, 890, 1105, 1315, 1520, 1719, 1910, 2093, 2267, 2431, 2585, 2728, 2859, 2978, 3084, 3177, 3256, 3321, 3372, 3409, 3431, 3438]
/-- How high a place from 0 to 95 is. -/
def sn0 (n : Nat) : Int := if n < 24 then hiT.getD n 0 else if n < 48 then hiT.getD (48 - n) 0 else if n < 72 then -hiT.getD (n - 48) 0 else -hiT.getD (96 - n) 0
/-- How high any place is. -/
def spk (k : Int) : Int := sn0 (k % 96).toNat
theorem sp_mod (k : Int) : spk (k % 96) = spk k := by unfold spk; rw [Int.emod_emod_of_dvd _ (Int.dvd_refl _)]
theorem sp_more (k n : Int) : spk (k + 96 * n) = spk k := by unfold spk; rw [Int.add_mul_emod_self_left]
theorem sp_nat (P : Int → Prop) (h : ∀ n : Nat, n < 96 → P (n : Int)) (k : Int) : P (k % 96) := by
  have := h (k % 96).toNat (by omega)
  rwa [show (((k % 96).toNat : Nat) : Int) = k % 96 by omega] at this
theorem sp_cong {a b : Int} (h : a % 96 = b % 96) : spk a = spk b := by unfold spk; rw [h]
theorem sp_neg (k : Int) : spk (-k) = -spk k := by
  have := sp_nat (fun r => spk (-r) = -spk r) (by decide +kernel) k
  rw [sp_mod] at this
  rw [← this]; exact sp_cong (by omega)
theorem sp_half (k : Int) : spk (48 - k) = spk k := by
  have := sp_nat (fun r => spk (48 - r) = spk r) (by decide +kernel) k
  rw [sp_mod] at this
  rw [← this]; exact sp_cong (by omega)
theorem sp_opp (k : Int) : spk (k + 48) = -spk k := by
  have := sp_nat (fun r => spk (r + 48) = -spk r) (by decide +kernel) k
  rw [sp_mod] at this
  rw [← this]; exact sp_cong (by omega)
theorem sp_bd (k : Int) : -3438 ≤ spk k ∧ spk k ≤ 3438 := by
  have := sp_nat (fun r => -3438 ≤ spk r ∧ spk r ≤ 3438) (by decide +kernel) k
  rwa [sp_mod] at this
theorem sp_step (k : Int) : -225 ≤ spk (k + 1) - spk k ∧ spk (k + 1) - spk k ≤ 225 := by
  have := sp_nat (fun r => -225 ≤ spk (r + 1) - spk r ∧ spk (r + 1) - spk r ≤ 225) (by decide +kernel) k
  rw [sp_mod, sp_cong (b := k + 1) (by omega)] at this
  exact this
theorem sp_up {k : Int} (h : -24 ≤ k) (h' : k < 24) : spk k < spk (k + 1) := by
  have h2 : ∀ n : Nat, n < 48 → spk ((n : Int) - 24) < spk ((n : Int) - 24 + 1) := by decide +kernel
  have := h2 (k + 24).toNat (by omega)
  rwa [show (((k + 24).toNat : Nat) : Int) - 24 = k by omega] at this
theorem sp_le {a b : Int} (h : -24 ≤ a) (h2 : a ≤ b) (h3 : b ≤ 24) : spk a ≤ spk b := by
  obtain ⟨n, rfl⟩ : ∃ n : Nat, b = a + n := ⟨(b - a).toNat, by omega⟩
  clear h2
  induction n with
  | zero => simp
  | succ n ih =>
    have := sp_up (k := a + n) (by omega) (by omega)
    have := ih (by omega)
    rw [show a + ((n + 1 : Nat) : Int) = a + n + 1 by omega]
    omega
theorem circ_tab (k : Int) : (spk k * spk k + spk (k + 24) * spk (k + 24) - 11819844 ≤ 4000 ∧ -4000 ≤ spk k * spk k + spk (k + 24) * spk (k + 24) - 11819844) ∧ (spk k * spk (k + 1) + spk (k + 24) * spk (k + 25) - 11819844 ≤ 4000 ∧ -30000 ≤ spk k * spk (k + 1) + spk (k + 24) * spk (k + 25) - 11819844) := by
  have := sp_nat (fun k => (spk k * spk k + spk (k + 24) * spk (k + 24) - 11819844 ≤ 4000 ∧ -4000 ≤ spk k * spk k + spk (k + 24) * spk (k + 24) - 11819844) ∧ (spk k * spk (k + 1) + spk (k + 24) * spk (k + 25) - 11819844 ≤ 4000 ∧ -30000 ≤ spk k * spk (k + 1) + spk (k + 24) * spk (k + 25) - 11819844)) (by decide +kernel) k
  rw [sp_mod, sp_cong (a := k % 96 + 1) (b := k + 1) (by omega), sp_cong (a := k % 96 + 24) (b := k + 24) (by omega), sp_cong (a := k % 96 + 25) (b := k + 25) (by omega)] at this
  exact this
end Go.Proofs.YteafnboehmfmiaaDoor
