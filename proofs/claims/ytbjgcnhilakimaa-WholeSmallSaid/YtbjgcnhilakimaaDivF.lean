/- The quotient's digit of reduce: the plain arithmetic, over no program. -/
import Derived.Test.YtbjgcnhilakimaaDivE
namespace Go.Proofs.Ytbjgcnhilakimaa
open Go.RowKit

/-- Limbs 0 from k on: the first k are all. -/
theorem vl_take_zero {xs : List Nat} {k : Nat} (h : ∀ t, k ≤ t → lg xs t = 0) : vl B32 (xs.take k) = vl B32 xs := by
  by_cases hk : xs.length ≤ k
  · exact vl_take_all hk
  · rw [vl_split' B32 xs k]
    have : vl B32 (xs.drop k) = 0 := by
      have h2 := vl_congr B32 (xs := xs.drop k) (ys := []) (fun t => by rw [lg_drop, h (k + t) (by omega)]; rfl)
      rw [h2]; rfl
    rw [this, Nat.mul_zero, Nat.add_zero]

theorem vl_lt_zero {xs : List Nat} {k : Nat} (ho : okb B32 xs) (h : ∀ t, k ≤ t → lg xs t = 0) : vl B32 xs < B32 ^ k := by
  rw [← vl_take_zero h]; exact vl_take_lt ho B32_pos k

/-- A number by its three top limbs. -/
theorem pr_split {xs : List Nat} {i : Nat} (ho : okb B32 xs) (h : ∀ t, i + 2 ≤ t → lg xs t = 0) :
    ∃ r, vl B32 xs * B32 = r + (lg xs (i + 1) * 18446744073709551616 + pr xs i) * B32 ^ i ∧ r < B32 ^ i := by
  have hv := vl_take_zero h
  rw [vl_take_succ, vl_take_succ] at hv
  have e2 : lg xs (i + 1) * B32 ^ (i + 1) * B32 = lg xs (i + 1) * 18446744073709551616 * B32 ^ i := by
    rw [Nat.pow_succ, Nat.mul_assoc, Nat.mul_assoc (B32 ^ i), Nat.mul_comm (B32 ^ i), ← Nat.mul_assoc]
    rfl
  have e1 : lg xs i * B32 ^ i * B32 = lg xs i * 4294967296 * B32 ^ i := by
    rw [Nat.mul_assoc, Nat.mul_comm (B32 ^ i), ← Nat.mul_assoc]
    rfl
  by_cases h0 : i = 0
  · subst h0
    refine ⟨0, ?_, by simp⟩
    rw [← hv, Nat.add_mul, Nat.add_mul, e1, e2]
    unfold pr
    rw [if_pos rfl, Nat.add_mul, Nat.add_zero]
    simp [vl]
    omega
  · obtain ⟨l, rfl⟩ : ∃ l, i = l + 1 := ⟨i - 1, by omega⟩
    refine ⟨vl B32 (xs.take l) * B32, ?_, ?_⟩
    · rw [← hv, Nat.add_mul, Nat.add_mul, e1, e2, vl_take_succ, Nat.add_mul]
      unfold pr
      rw [if_neg h0, Nat.add_sub_cancel, Nat.add_mul, Nat.add_mul]
      have : lg xs l * B32 ^ l * B32 = lg xs l * B32 ^ (l + 1) := by rw [Nat.pow_succ, Nat.mul_assoc]
      omega
    · rw [Nat.pow_succ]
      exact Nat.mul_lt_mul_of_pos_right (vl_take_lt ho B32_pos l) B32_pos

theorem est_lo {V E A H F r1 r2 d s : Nat} (h1 : V * s = r1 + A * F) (h2 : E * s = r2 + H * F) (b2 : r2 < F) (hH : 4294967296 ≤ H) (hd : d ≤ A / H) (hm : d < 4294967296) :
    d * E < V + E := by
  have hdH : d * H ≤ A := by
    have := Nat.mul_le_mul_right H hd
    exact Nat.le_trans this (Nat.div_mul_le_self A H)
  have hdHF : d * H * F ≤ A * F := Nat.mul_le_mul_right F hdH
  have hdr : d * r2 ≤ d * F := Nat.mul_le_mul_left d (Nat.le_of_lt b2)
  have hdF : (d + 1) * F ≤ H * F := Nat.mul_le_mul_right F (by omega)
  rw [Nat.add_mul] at hdF
  have e : d * E * s = d * r2 + d * H * F := by rw [Nat.mul_assoc, h2, Nat.mul_add, Nat.mul_assoc]
  have hlt : d * E * s < (V + E) * s := by
    rw [e, Nat.add_mul, h1, h2]
    omega
  exact Nat.lt_of_mul_lt_mul_right hlt

theorem est_hi {V E A H F r1 r2 s : Nat} (h1 : V * s = r1 + A * F) (b1 : r1 < F) (h2 : E * s = r2 + H * F) (hH : 0 < H) :
    V < (A / H + 1) * E := by
  have hA : A + 1 ≤ (A / H + 1) * H := by
    have := Nat.div_add_mod A H
    have := Nat.mod_lt A hH
    rw [Nat.add_mul, Nat.mul_comm (A / H)]
    omega
  have hAF := Nat.mul_le_mul_right F hA
  rw [Nat.add_mul] at hAF
  have e : (A / H + 1) * E * s = (A / H + 1) * r2 + (A / H + 1) * H * F := by rw [Nat.mul_assoc, h2, Nat.mul_add, Nat.mul_assoc]
  have hlt : V * s < (A / H + 1) * E * s := by
    rw [e, h1]
    omega
  exact Nat.lt_of_mul_lt_mul_right hlt

/-- take left no debt: the digit was right. -/
theorem digit_ok {V V' E D N u cc : Nat} (h : V' + u * N + D = V + cc * N) (hlo : V < D + E) (hE : E < N) (hc : cc ≤ u) : V = D + V' ∧ V' < E := by
  obtain ⟨t, rfl⟩ : ∃ t, u = cc + t := ⟨u - cc, by omega⟩
  rw [Nat.add_mul] at h
  have : t = 0 := by
    by_cases ht : t = 0
    · exact ht
    · have := Nat.mul_le_mul_right N (show 1 ≤ t by omega)
      omega
  subst this
  omega

/-- take left a debt: the digit was 1 too great, and putBack makes up for it. -/
theorem digit_less {V V' V2 E D N u cc c2 : Nat} (h : V' + u * N + D = V + cc * N) (hhi : D < V + E) (hE : E < N) (hc : u < cc) (hV : V' < N) (hp : V2 + c2 * N = V' + E) (hV2 : V2 < N) (hc2 : c2 ≤ 1) :
    V + E = D + V2 ∧ V2 < E := by
  obtain ⟨t, rfl⟩ : ∃ t, cc = u + 1 + t := ⟨cc - u - 1, by omega⟩
  rw [Nat.add_mul, Nat.add_mul] at h
  have ht : t = 0 := by
    by_cases ht : t = 0
    · exact ht
    · have := Nat.mul_le_mul_right N (show 1 ≤ t by omega)
      omega
  subst ht
  have h2 : c2 = 1 := by
    by_cases h2 : c2 = 1
    · exact h2
    · obtain rfl : c2 = 0 := by omega
      omega
  subst h2
  omega

/-- One round of reduce: what is left over by Y b^(j+1) turns into what is left over by Y b^j. -/
theorem reduce_step {X V E d R b : Nat} (hV : V = X % (E * b)) (hd : V = d * E + R) (hR : R < E) : R = X % E ∧ X / E = X / (E * b) * b + d := by
  have hE : 0 < E := by omega
  have hx := Nat.div_add_mod X (E * b)
  rw [← hV, hd] at hx
  have e : X = R + E * (X / (E * b) * b + d) := by
    rw [Nat.mul_add, Nat.mul_comm E d]
    rw [Nat.mul_assoc, Nat.mul_comm b] at hx
    omega
  constructor
  · conv => rhs; rw [e]
    rw [Nat.add_mul_mod_self_left, Nat.mod_eq_of_lt hR]
  · conv => lhs; rw [e]
    rw [Nat.add_mul_div_left _ _ hE, Nat.div_eq_of_lt hR, Nat.zero_add]
end Go.Proofs.Ytbjgcnhilakimaa
