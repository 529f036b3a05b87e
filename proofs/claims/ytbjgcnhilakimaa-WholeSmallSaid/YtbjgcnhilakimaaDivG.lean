/- One round of reduce, on the limbs: plain, over no program. -/
import Derived.Test.YtbjgcnhilakimaaDivF
namespace Go.Proofs.Ytbjgcnhilakimaa
open Go.RowKit

theorem high_zero {xs : List Nat} {k : Nat} (h : vl B32 xs < B32 ^ k) : ∀ t, k ≤ t → lg xs t = 0 := by
  intro t ht
  by_cases h0 : lg xs t = 0
  · exact h0
  · exfalso
    have h1 := vl_split' B32 xs t
    rw [vl_drop_succ] at h1
    have h2 := Nat.mul_le_mul_left (B32 ^ t) (show 1 ≤ lg xs t + B32 * vl B32 (xs.drop (t + 1)) by omega)
    have h3 : B32 ^ k ≤ B32 ^ t := Nat.pow_le_pow_right B32_pos ht
    omega

theorem join_lt {a b : Nat} (ha : a < 4294967296) (hb : b < 4294967296) : a * 4294967296 + b < 18446744073709551616 := by omega
theorem pr_lt {xs : List Nat} {i : Nat} (ho : okb B32 xs) : pr xs i < 18446744073709551616 := by
  have h1 := lg_lt ho B32_pos i
  have h2 := lg_lt ho B32_pos (i - 1)
  rw [B32_eq] at h1 h2
  have h3 : (if i = 0 then 0 else lg xs (i - 1)) < 4294967296 := by split <;> omega
  unfold pr
  exact join_lt h1 h3
theorem pr_ge {xs : List Nat} {i : Nat} (h : lg xs i ≠ 0) : 4294967296 ≤ pr xs i := by
  have h1 : 4294967296 ≤ lg xs i * 4294967296 := by omega
  unfold pr
  exact Nat.le_trans h1 (Nat.le_add_right _ _)

/-- What one round's digit is told from. -/
theorem digit_est {zs ys : List Nat} {j d : Nat} (oz : okb B32 zs) (oy : okb B32 ys) (hn : 1 ≤ ys.length) (hV : vl B32 zs < vl B32 ys * B32 ^ (j + 1))
    (hd : d = min ((lg zs (j + ys.length) * 18446744073709551616 + pr zs (j + ys.length - 1)) / pr ys (ys.length - 1)) 4294967295) (ht : lg ys (ys.length - 1) ≠ 0) :
    d * (vl B32 ys * B32 ^ j) < vl B32 zs + vl B32 ys * B32 ^ j ∧ vl B32 zs < (d + 1) * (vl B32 ys * B32 ^ j) ∧ (∀ t, j + ys.length < t → lg zs t = 0) ∧ vl B32 ys * B32 ^ j < B32 ^ (j + ys.length) := by
  have hH := pr_ge ht
  obtain ⟨n, hnn⟩ : ∃ n, ys.length = n + 1 := ⟨ys.length - 1, by omega⟩
  have hY := vl_lt oy
  have hE : vl B32 ys * B32 ^ j < B32 ^ (j + ys.length) := by
    rw [Nat.add_comm, Nat.pow_add]
    exact Nat.mul_lt_mul_of_pos_right hY (Nat.pow_pos B32_pos)
  have hz : ∀ t, j + ys.length + 1 ≤ t → lg zs t = 0 := by
    apply high_zero
    refine Nat.lt_trans hV ?_
    rw [show j + ys.length + 1 = ys.length + (j + 1) from by omega, Nat.pow_add B32 ys.length (j + 1)]
    exact Nat.mul_lt_mul_of_pos_right hY (Nat.pow_pos B32_pos)
  rw [hnn] at hz hd ht hH ⊢
  obtain ⟨r1, e1, b1⟩ := pr_split (i := j + n) oz (fun t h => hz t (by omega))
  obtain ⟨r2, e2, b2⟩ := pr_split (xs := ys) (i := n) oy (fun t h => lg_out (by omega))
  rw [lg_out (xs := ys) (i := n + 1) (by omega), Nat.zero_mul, Nat.zero_add] at e2
  rw [show j + (n + 1) - 1 = j + n from by omega, Nat.add_sub_cancel, show j + (n + 1) = j + n + 1 from by omega] at hd
  rw [Nat.add_sub_cancel] at hH
  have e3 : vl B32 ys * B32 ^ j * B32 = r2 * B32 ^ j + pr ys n * B32 ^ (j + n) := by
    rw [Nat.mul_assoc, Nat.mul_comm (B32 ^ j) B32, ← Nat.mul_assoc, e2, Nat.add_mul, Nat.mul_assoc, ← Nat.pow_add, Nat.add_comm n j]
  have b3 : r2 * B32 ^ j < B32 ^ (j + n) := by
    rw [Nat.add_comm, Nat.pow_add]
    exact Nat.mul_lt_mul_of_pos_right b2 (Nat.pow_pos B32_pos)
  refine ⟨?_, ?_, fun t h => hz t (by omega), by rw [← hnn]; exact hE⟩
  · exact est_lo e1 e3 b3 hH (by rw [hd]; exact Nat.min_le_left _ _) (by rw [hd]; have := Nat.min_le_right ((lg zs (j + n + 1) * 18446744073709551616 + pr zs (j + n)) / pr ys n) 4294967295; omega)
  · by_cases hm : (lg zs (j + n + 1) * 18446744073709551616 + pr zs (j + n)) / pr ys n ≤ 4294967295
    · rw [hd, Nat.min_eq_left hm]
      exact est_hi e1 b1 e3 (by omega)
    · rw [hd, Nat.min_eq_right (by omega)]
      rw [Nat.pow_succ, ← Nat.mul_assoc, Nat.mul_comm, B32_eq] at hV
      exact hV

/-- A number by its limbs below K and limb K. -/
theorem limb_split {zs : List Nat} {K : Nat} (oz : okb B32 zs) (hz : ∀ t, K < t → lg zs t = 0) : ∃ V', vl B32 zs = V' + lg zs K * B32 ^ K ∧ V' < B32 ^ K :=
  ⟨vl B32 (zs.take K), by rw [← vl_take_succ, vl_take_zero (fun t h => hz t (by omega))], vl_take_lt oz B32_pos K⟩

/-- Behind take, no debt. -/
theorem round_ok {V E d u cc N W : Nat} {z1 : List Nat} {K : Nat} (hN : N = B32 ^ K) (o1 : okb B32 z1) (hz : ∀ t, K < t → lg z1 t = 0) (hu : lg z1 K = u) (hW : W = vl B32 z1)
    (h : W + d * E = V + cc * N) (hlo : V < (d + 1) * E) (hE : E < N) (hc : cc ≤ u) : ∃ R, W = R + u * N ∧ V = d * E + R ∧ R < E := by
  obtain ⟨V', e, hV'⟩ := limb_split o1 hz
  rw [← hW, hu, ← hN] at e
  rw [Nat.add_mul, Nat.one_mul] at hlo
  have := digit_ok (by rw [← e]; exact h) hlo hE hc
  exact ⟨V', e, this⟩

theorem debt_pos {V E d u cc N W : Nat} {z1 : List Nat} {K : Nat} (hN : N = B32 ^ K) (o1 : okb B32 z1) (hz : ∀ t, K < t → lg z1 t = 0) (hu : lg z1 K = u) (hW : W = vl B32 z1)
    (h : W + d * E = V + cc * N) (hc : u < cc) : 1 ≤ d := by
  obtain ⟨V', e, hV'⟩ := limb_split o1 hz
  rw [← hW, hu, ← hN] at e
  rw [← hN] at hV'
  by_cases h0 : d = 0
  · subst h0
    obtain ⟨t, rfl⟩ : ∃ t, cc = u + 1 + t := ⟨cc - u - 1, by omega⟩
    rw [Nat.add_mul, Nat.add_mul] at h
    omega
  · omega

/-- Behind putBack. -/
theorem round_less {V E d u cc c2 N W W2 : Nat} {z1 z2 : List Nat} {K : Nat} (hN : N = B32 ^ K) (o1 : okb B32 z1) (hz : ∀ t, K < t → lg z1 t = 0) (hu : lg z1 K = u) (hW : W = vl B32 z1)
    (o2 : okb B32 z2) (hz2 : ∀ t, K < t → lg z2 t = 0) (hu2 : lg z2 K = u) (hW2 : W2 = vl B32 z2)
    (h : W + d * E = V + cc * N) (hhi : d * E < V + E) (hE : E < N) (hc : u < cc) (hp : W2 + c2 * N = W + E) (hc2 : c2 ≤ 1) : 1 ≤ d ∧ ∃ R, W2 = R + u * N ∧ V = (d - 1) * E + R ∧ R < E := by
  obtain ⟨V', e, hV'⟩ := limb_split o1 hz
  rw [← hW, hu, ← hN] at e
  obtain ⟨V2, e2, hV2⟩ := limb_split o2 hz2
  rw [← hW2, hu2, ← hN] at e2
  rw [← hN] at hV' hV2
  have hh := digit_less (V' := V') (V2 := V2) (c2 := c2) (by rw [← e]; exact h) hhi hE hc hV' (by rw [e, e2] at hp; omega) hV2 hc2
  have hd : 1 ≤ d := by
    by_cases h0 : d = 0
    · subst h0; omega
    · omega
  refine ⟨hd, V2, e2, ?_, hh.2⟩
  obtain ⟨f, rfl⟩ : ∃ f, d = f + 1 := ⟨d - 1, by omega⟩
  rw [Nat.add_sub_cancel]
  have h1 := hh.1
  rw [Nat.add_mul, Nat.one_mul] at h1
  omega

/-- Limb K set to 0. -/
theorem set_zero {zs : List Nat} {K R u : Nat} (hu : lg zs K = u) (h : vl B32 zs = R + u * B32 ^ K) (hk : K < zs.length) : vl B32 (zs.set K 0) = R := by
  have := vl_set B32 (xs := zs) (i := K) 0 hk
  rw [hu, h] at this
  omega
end Go.Proofs.Ytbjgcnhilakimaa
