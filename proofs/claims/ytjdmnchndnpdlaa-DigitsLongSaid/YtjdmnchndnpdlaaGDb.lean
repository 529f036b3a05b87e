/- DivE DivF DivG -/
import Derived.BigRegion
import Derived.Deep.RegionHeld3
import Derived.Test.YtjdmnchndnpdlaaGDa

/- Contract of mult.putBack. -/
namespace Go.Proofs.Ytjdmnchndnpdlaa
open Go.RowKit
set_option maxRecDepth 100000

theorem put_step {zs : List Nat} {i y c P Q : Nat} (hlen : i < zs.length) (h : vl B32 zs + c * B32 ^ i = P + Q) :
    vl B32 (zs.set i ((lg zs i + y + c) % B32)) + (lg zs i + y + c) / B32 * B32 ^ (i + 1) = P + (Q + y * B32 ^ i) := by
  obtain ⟨T, hT⟩ : ∃ T, T = lg zs i + y + c := ⟨_, rfl⟩
  rw [← hT]
  have h1 := vl_set B32 (xs := zs) (i := i) (T % B32) hlen
  have h2 := carry_arith B32 (B32 ^ i) T
  rw [show B32 ^ i * B32 = B32 ^ (i + 1) from (Nat.pow_succ ..).symm] at h2
  have h5 : T * B32 ^ i = lg zs i * B32 ^ i + y * B32 ^ i + c * B32 ^ i := by rw [hT, Nat.add_mul, Nat.add_mul]
  omega

def PutInv (w : World) (base g cap : Nat) (xs : List Nat) (j : Nat) (ys : List Nat) (c i : Value) (wr : World) : Prop :=
  ∃ (k cc : Nat) (zs : List Nat), k ≤ ys.length ∧ i = .int .i64 k ∧ c = .int .u32 cc ∧ cc ≤ 1 ∧ zs.length = xs.length ∧ okb B32 zs ∧ Row wr .u32 77 base g cap zs ∧ Only g w wr ∧
    (∀ t, t < j ∨ j + ys.length ≤ t → lg zs t = lg xs t) ∧ vl B32 zs + cc * B32 ^ (j + k) = vl B32 xs + vl B32 (ys.take k) * B32 ^ j

def PutPost (w : World) (base g cap : Nat) (xs : List Nat) (j : Nat) (ys : List Nat) (e : Ending) (w' : World) : Prop :=
  ∃ (cc : Nat) (zs : List Nat), e = .returned (.tuple #[]) ∧ cc ≤ 1 ∧ zs.length = xs.length ∧ okb B32 zs ∧ Row w' .u32 77 base g cap zs ∧ Only g w w' ∧
    (∀ t, t < j ∨ j + ys.length ≤ t → lg zs t = lg xs t) ∧ vl B32 zs + cc * B32 ^ (j + ys.length) = vl B32 xs + vl B32 ys * B32 ^ j

set_option maxHeartbeats 2000000 in
set_option maxRecDepth 100000 in
theorem putBack_any (base g cap cp2 cp1 j n1 n : Nat) (ad : Option Addr) (xs ys : List Nat) (w : World) (hr : Row w .u32 77 base g cap xs) (ho : okb B32 xs) (ry : Rd w .u32 ad ys) (oy : okb B32 ys) (ha : Apart ad g)
    (hn1 : n1 = xs.length - j) (hn : n = ys.length) (hj : j + ys.length ≤ xs.length) (hl : xs.length ≤ 1099511627777) :
    Calls Try.prog 113 #[.slice (some ⟨g, j, none⟩) n1 cp1, .slice ad n cp2] w (PutPost w base g cap xs j ys) := by
  have HN := Lib.hid hn; have HN1 := Lib.hid hn1; have HO := Lib.hid ho; have HR := Lib.hid hr; have RY := Lib.hid ry; have OY := Lib.hid oy; have HA := Lib.hid ha
  have hnj : n ≤ n1 := by omega
  have hn1b : n1 ≤ 1099511627777 := by omega
  have hjb : j ≤ 1099511627777 := by omega
  clear hn hn1 ho hr ry oy ha
  go_enter Try.func113, Try.ntmps113
  go_wp2
  go_loopw [4, 8] (fun c i wr => PutInv w base g cap xs j ys c i wr) (fun _ i _ => n - (intOf i).toNat)
  case atStart => exact ⟨0, 0, xs, Nat.zero_le _, rfl, rfl, by omega, rfl, HO.out, HR.out, Only.refl _ _, fun _ _ => rfl, by simp [vl]⟩
  case round =>
    obtain ⟨k, cc, zs, hk, rfl, rfl, hcc, hzl, hzo, hro, hon, hsame, hv⟩ := hrel
    have HV := Lib.hid hv; have HZ := Lib.hid hsame; have HZL := Lib.hid hzl; have HZO := Lib.hid hzo; have HON := Lib.hid hon
    clear hv hsame hzl
    by_cases hlt : k < n
    · obtain ⟨b, off, ha, hbs, hcy⟩ := (hon.rd RY.out HA.out).get (by have := HN.out; omega)
      have hcy := hcy k (by have := HN.out; omega)
      have hbg : b ≠ g := HA.out b off ha
      subst ha
      have ly : lg ys k < B32 := lg_lt OY.out B32_pos k
      have lz : lg zs (j + k) < B32 := lg_lt hzo B32_pos (j + k)
      have hcs := hro.cell (j := j + k) (by rw [HZL.out]; have := HN.out; omega)
      have hfr := hro.free (j + k)
      have HRO := Lib.hid hro
      clear hzo hro hon
      go_upto_region 4 with fail
      go_region_with (go_at_call 79; refine (add32_any (lg zs (j + k)) (lg ys k) cc _ lz ly hcc).mono ?_; rintro e w' ⟨rfl, hw⟩; have hw := hw.symm; subst hw)
      all_goals
        go_wp2
        go_roundw
        case rel =>
          refine ⟨k + 1, (lg zs (j + k) + lg ys k + cc) / B32, zs.set (j + k) ((lg zs (j + k) + lg ys k + cc) % B32), by have := HN.out; omega, by go_num, by rw [B32_eq]; go_num, by rw [B32_eq] at ly lz ⊢; omega, by rw [List.length_set]; exact HZL.out,
            okb_set HZO.out (Nat.mod_lt _ B32_pos), ?_, ?_, ?_, ?_⟩
          · have hs := (HRO.out.set (j + k) ((lg zs (j + k) + lg ys k + cc) % B32)).drew
            rw [show (((lg zs (j + k) + lg ys k + cc) % B32 : Nat) : Int) = ((lg zs (j + k) : Nat) + (lg ys k : Nat) + (cc : Nat) : Int) % 4294967296 from by rw [B32_eq]; omega] at hs
            exact hs
          · exact (HON.out.setCell (p := ⟨g, j + k, none⟩) rfl _).drew
          · intro t ht
            rw [lg_set_other _ (by have := HN.out; omega)]
            exact HZ.out t ht
          · have hs := put_step (y := lg ys k) (by rw [HZL.out]; have := HN.out; omega) HV.out
            rw [vl_take_succ, Nat.add_mul, Nat.mul_assoc (lg ys k), ← Nat.pow_add, Nat.add_comm k j]
            exact hs
        case measure => simp [intOf]; omega
    · obtain rfl : k = n := by have := HN.out; omega
      have HRO := Lib.hid hro
      clear hzo hro hon
      go_wp2
      go_end0
      refine ⟨cc, zs, rfl, hcc, HZL.out, HZO.out, HRO.out, HON.out, HZ.out, ?_⟩
      have hv := HV.out
      rw [vl_take_all (by have := HN.out; omega), HN.out] at hv
      exact hv
end Go.Proofs.Ytjdmnchndnpdlaa

/- The quotient's digit of reduce: the plain arithmetic, over no program. -/
namespace Go.Proofs.Ytjdmnchndnpdlaa
open Go.RowKit

/-- Limbs 0 from k on: the first k are all. -/
theorem vl_take_zero {xs : List Nat} {k : Nat} (h : ∀ t, k ≤ t → lg xs t = 0) : vl B32 (xs.take k) = vl B32 xs := by
  by_cases hk : xs.length ≤ k
  · exact vl_take_all hk
  · rw [vl_split' B32 xs k]
    have : vl B32 (xs.drop k) = 0 := by
      have h2 := vl_congr B32 (xs := xs.drop k) (ys := []) (fun t => by rw [lg_drop, h (k + t) (by omega)]; rfl)
      rw [h2]; rfl
    rw [this, Nat.mul_zero, Nat.add_zero]

theorem vl_lt_zero {xs : List Nat} {k : Nat} (ho : okb B32 xs) (h : ∀ t, k ≤ t → lg xs t = 0) : vl B32 xs < B32 ^ k := by
  rw [← vl_take_zero h]; exact vl_take_lt ho B32_pos k

/-- A number by its three top limbs. -/
theorem pr_split {xs : List Nat} {i : Nat} (ho : okb B32 xs) (h : ∀ t, i + 2 ≤ t → lg xs t = 0) :
    ∃ r, vl B32 xs * B32 = r + (lg xs (i + 1) * 18446744073709551616 + pr xs i) * B32 ^ i ∧ r < B32 ^ i := by
  have hv := vl_take_zero h
  rw [vl_take_succ, vl_take_succ] at hv
  have e2 : lg xs (i + 1) * B32 ^ (i + 1) * B32 = lg xs (i + 1) * 18446744073709551616 * B32 ^ i := by
    rw [Nat.pow_succ, Nat.mul_assoc, Nat.mul_assoc (B32 ^ i), Nat.mul_comm (B32 ^ i), ← Nat.mul_assoc]
    rfl
  have e1 : lg xs i * B32 ^ i * B32 = lg xs i * 4294967296 * B32 ^ i := by
    rw [Nat.mul_assoc, Nat.mul_comm (B32 ^ i), ← Nat.mul_assoc]
    rfl
  by_cases h0 : i = 0
  · subst h0
    refine ⟨0, ?_, by simp⟩
    rw [← hv, Nat.add_mul, Nat.add_mul, e1, e2]
    unfold pr
    rw [if_pos rfl, Nat.add_mul, Nat.add_zero]
    simp [vl]
    omega
  · obtain ⟨l, rfl⟩ : ∃ l, i = l + 1 := ⟨i - 1, by omega⟩
    refine ⟨vl B32 (xs.take l) * B32, ?_, ?_⟩
    · rw [← hv, Nat.add_mul, Nat.add_mul, e1, e2, vl_take_succ, Nat.add_mul]
      unfold pr
      rw [if_neg h0, Nat.add_sub_cancel, Nat.add_mul, Nat.add_mul]
      have : lg xs l * B32 ^ l * B32 = lg xs l * B32 ^ (l + 1) := by rw [Nat.pow_succ, Nat.mul_assoc]
      omega
    · rw [Nat.pow_succ]
      exact Nat.mul_lt_mul_of_pos_right (vl_take_lt ho B32_pos l) B32_pos

theorem est_lo {V E A H F r1 r2 d s : Nat} (h1 : V * s = r1 + A * F) (h2 : E * s = r2 + H * F) (b2 : r2 < F) (hH : 4294967296 ≤ H) (hd : d ≤ A / H) (hm : d < 4294967296) :
    d * E < V + E := by
  have hdH : d * H ≤ A := by
    have := Nat.mul_le_mul_right H hd
    exact Nat.le_trans this (Nat.div_mul_le_self A H)
  have hdHF : d * H * F ≤ A * F := Nat.mul_le_mul_right F hdH
  have hdr : d * r2 ≤ d * F := Nat.mul_le_mul_left d (Nat.le_of_lt b2)
  have hdF : (d + 1) * F ≤ H * F := Nat.mul_le_mul_right F (by omega)
  rw [Nat.add_mul] at hdF
  have e : d * E * s = d * r2 + d * H * F := by rw [Nat.mul_assoc, h2, Nat.mul_add, Nat.mul_assoc]
  have hlt : d * E * s < (V + E) * s := by
    rw [e, Nat.add_mul, h1, h2]
    omega
  exact Nat.lt_of_mul_lt_mul_right hlt

theorem est_hi {V E A H F r1 r2 s : Nat} (h1 : V * s = r1 + A * F) (b1 : r1 < F) (h2 : E * s = r2 + H * F) (hH : 0 < H) :
    V < (A / H + 1) * E := by
  have hA : A + 1 ≤ (A / H + 1) * H := by
    have := Nat.div_add_mod A H
    have := Nat.mod_lt A hH
    rw [Nat.add_mul, Nat.mul_comm (A / H)]
    omega
  have hAF := Nat.mul_le_mul_right F hA
  rw [Nat.add_mul] at hAF
  have e : (A / H + 1) * E * s = (A / H + 1) * r2 + (A / H + 1) * H * F := by rw [Nat.mul_assoc, h2, Nat.mul_add, Nat.mul_assoc]
  have hlt : V * s < (A / H + 1) * E * s := by
    rw [e, h1]
    omega
  exact Nat.lt_of_mul_lt_mul_right hlt

/-- take left no debt: the digit was right. -/
theorem digit_ok {V V' E D N u cc : Nat} (h : V' + u * N + D = V + cc * N) (hlo : V < D + E) (hE : E < N) (hc : cc ≤ u) : V = D + V' ∧ V' < E := by
  obtain ⟨t, rfl⟩ : ∃ t, u = cc + t := ⟨u - cc, by omega⟩
  rw [Nat.add_mul] at h
  have : t = 0 := by
    by_cases ht : t = 0
    · exact ht
    · have := Nat.mul_le_mul_right N (show 1 ≤ t by omega)
      omega
  subst this
  omega

/-- take left a debt: the digit was 1 too great, and putBack makes up for it. -/
theorem digit_less {V V' V2 E D N u cc c2 : Nat} (h : V' + u * N + D = V + cc * N) (hhi : D < V + E) (hE : E < N) (hc : u < cc) (hV : V' < N) (hp : V2 + c2 * N = V' + E) (hV2 : V2 < N) (hc2 : c2 ≤ 1) :
    V + E = D + V2 ∧ V2 < E := by
  obtain ⟨t, rfl⟩ : ∃ t, cc = u + 1 + t := ⟨cc - u - 1, by omega⟩
  rw [Nat.add_mul, Nat.add_mul] at h
  have ht : t = 0 := by
    by_cases ht : t = 0
    · exact ht
    · have := Nat.mul_le_mul_right N (show 1 ≤ t by omega)
      omega
  subst ht
  have h2 : c2 = 1 := by
    by_cases h2 : c2 = 1
    · exact h2
    · obtain rfl : c2 = 0 := by omega
      omega
  subst h2
  omega

/-- One round of reduce: what is left over by Y b^(j+1) turns into what is left over by Y b^j. -/
theorem reduce_step {X V E d R b : Nat} (hV : V = X % (E * b)) (hd : V = d * E + R) (hR : R < E) : R = X % E ∧ X / E = X / (E * b) * b + d := by
  have hE : 0 < E := by omega
  have hx := Nat.div_add_mod X (E * b)
  rw [← hV, hd] at hx
  have e : X = R + E * (X / (E * b) * b + d) := by
    rw [Nat.mul_add, Nat.mul_comm E d]
    rw [Nat.mul_assoc, Nat.mul_comm b] at hx
    omega
  constructor
  · conv => rhs; rw [e]
    rw [Nat.add_mul_mod_self_left, Nat.mod_eq_of_lt hR]
  · conv => lhs; rw [e]
    rw [Nat.add_mul_div_left _ _ hE, Nat.div_eq_of_lt hR, Nat.zero_add]
end Go.Proofs.Ytjdmnchndnpdlaa

/- One round of reduce, on the limbs: plain, over no program. -/
namespace Go.Proofs.Ytjdmnchndnpdlaa
open Go.RowKit

theorem high_zero {xs : List Nat} {k : Nat} (h : vl B32 xs < B32 ^ k) : ∀ t, k ≤ t → lg xs t = 0 := by
  intro t ht
  by_cases h0 : lg xs t = 0
  · exact h0
  · exfalso
    have h1 := vl_split' B32 xs t
    rw [vl_drop_succ] at h1
    have h2 := Nat.mul_le_mul_left (B32 ^ t) (show 1 ≤ lg xs t + B32 * vl B32 (xs.drop (t + 1)) by omega)
    have h3 : B32 ^ k ≤ B32 ^ t := Nat.pow_le_pow_right B32_pos ht
    omega

theorem join_lt {a b : Nat} (ha : a < 4294967296) (hb : b < 4294967296) : a * 4294967296 + b < 18446744073709551616 := by omega
theorem pr_lt {xs : List Nat} {i : Nat} (ho : okb B32 xs) : pr xs i < 18446744073709551616 := by
  have h1 := lg_lt ho B32_pos i
  have h2 := lg_lt ho B32_pos (i - 1)
  rw [B32_eq] at h1 h2
  have h3 : (if i = 0 then 0 else lg xs (i - 1)) < 4294967296 := by split <;> omega
  unfold pr
  exact join_lt h1 h3
theorem pr_ge {xs : List Nat} {i : Nat} (h : lg xs i ≠ 0) : 4294967296 ≤ pr xs i := by
  have h1 : 4294967296 ≤ lg xs i * 4294967296 := by omega
  unfold pr
  exact Nat.le_trans h1 (Nat.le_add_right _ _)

/-- What one round's digit is told from. -/
theorem digit_est {zs ys : List Nat} {j d : Nat} (oz : okb B32 zs) (oy : okb B32 ys) (hn : 1 ≤ ys.length) (hV : vl B32 zs < vl B32 ys * B32 ^ (j + 1))
    (hd : d = min ((lg zs (j + ys.length) * 18446744073709551616 + pr zs (j + ys.length - 1)) / pr ys (ys.length - 1)) 4294967295) (ht : lg ys (ys.length - 1) ≠ 0) :
    d * (vl B32 ys * B32 ^ j) < vl B32 zs + vl B32 ys * B32 ^ j ∧ vl B32 zs < (d + 1) * (vl B32 ys * B32 ^ j) ∧ (∀ t, j + ys.length < t → lg zs t = 0) ∧ vl B32 ys * B32 ^ j < B32 ^ (j + ys.length) := by
  have hH := pr_ge ht
  obtain ⟨n, hnn⟩ : ∃ n, ys.length = n + 1 := ⟨ys.length - 1, by omega⟩
  have hY := vl_lt oy
  have hE : vl B32 ys * B32 ^ j < B32 ^ (j + ys.length) := by
    rw [Nat.add_comm, Nat.pow_add]
    exact Nat.mul_lt_mul_of_pos_right hY (Nat.pow_pos B32_pos)
  have hz : ∀ t, j + ys.length + 1 ≤ t → lg zs t = 0 := by
    apply high_zero
    refine Nat.lt_trans hV ?_
    rw [show j + ys.length + 1 = ys.length + (j + 1) from by omega, Nat.pow_add B32 ys.length (j + 1)]
    exact Nat.mul_lt_mul_of_pos_right hY (Nat.pow_pos B32_pos)
  rw [hnn] at hz hd ht hH ⊢
  obtain ⟨r1, e1, b1⟩ := pr_split (i := j + n) oz (fun t h => hz t (by omega))
  obtain ⟨r2, e2, b2⟩ := pr_split (xs := ys) (i := n) oy (fun t h => lg_out (by omega))
  rw [lg_out (xs := ys) (i := n + 1) (by omega), Nat.zero_mul, Nat.zero_add] at e2
  rw [show j + (n + 1) - 1 = j + n from by omega, Nat.add_sub_cancel, show j + (n + 1) = j + n + 1 from by omega] at hd
  rw [Nat.add_sub_cancel] at hH
  have e3 : vl B32 ys * B32 ^ j * B32 = r2 * B32 ^ j + pr ys n * B32 ^ (j + n) := by
    rw [Nat.mul_assoc, Nat.mul_comm (B32 ^ j) B32, ← Nat.mul_assoc, e2, Nat.add_mul, Nat.mul_assoc, ← Nat.pow_add, Nat.add_comm n j]
  have b3 : r2 * B32 ^ j < B32 ^ (j + n) := by
    rw [Nat.add_comm, Nat.pow_add]
    exact Nat.mul_lt_mul_of_pos_right b2 (Nat.pow_pos B32_pos)
  refine ⟨?_, ?_, fun t h => hz t (by omega), by rw [← hnn]; exact hE⟩
  · exact est_lo e1 e3 b3 hH (by rw [hd]; exact Nat.min_le_left _ _) (by rw [hd]; have := Nat.min_le_right ((lg zs (j + n + 1) * 18446744073709551616 + pr zs (j + n)) / pr ys n) 4294967295; omega)
  · by_cases hm : (lg zs (j + n + 1) * 18446744073709551616 + pr zs (j + n)) / pr ys n ≤ 4294967295
    · rw [hd, Nat.min_eq_left hm]
      exact est_hi e1 b1 e3 (by omega)
    · rw [hd, Nat.min_eq_right (by omega)]
      rw [Nat.pow_succ, ← Nat.mul_assoc, Nat.mul_comm, B32_eq] at hV
      exact hV

/-- A number by its limbs below K and limb K. -/
theorem limb_split {zs : List Nat} {K : Nat} (oz : okb B32 zs) (hz : ∀ t, K < t → lg zs t = 0) : ∃ V', vl B32 zs = V' + lg zs K * B32 ^ K ∧ V' < B32 ^ K :=
  ⟨vl B32 (zs.take K), by rw [← vl_take_succ, vl_take_zero (fun t h => hz t (by omega))], vl_take_lt oz B32_pos K⟩

/-- Behind take, no debt. -/
theorem round_ok {V E d u cc N W : Nat} {z1 : List Nat} {K : Nat} (hN : N = B32 ^ K) (o1 : okb B32 z1) (hz : ∀ t, K < t → lg z1 t = 0) (hu : lg z1 K = u) (hW : W = vl B32 z1)
    (h : W + d * E = V + cc * N) (hlo : V < (d + 1) * E) (hE : E < N) (hc : cc ≤ u) : ∃ R, W = R + u * N ∧ V = d * E + R ∧ R < E := by
  obtain ⟨V', e, hV'⟩ := limb_split o1 hz
  rw [← hW, hu, ← hN] at e
  rw [Nat.add_mul, Nat.one_mul] at hlo
  have := digit_ok (by rw [← e]; exact h) hlo hE hc
  exact ⟨V', e, this⟩

theorem debt_pos {V E d u cc N W : Nat} {z1 : List Nat} {K : Nat} (hN : N = B32 ^ K) (o1 : okb B32 z1) (hz : ∀ t, K < t → lg z1 t = 0) (hu : lg z1 K = u) (hW : W = vl B32 z1)
    (h : W + d * E = V + cc * N) (hc : u < cc) : 1 ≤ d := by
  obtain ⟨V', e, hV'⟩ := limb_split o1 hz
  rw [← hW, hu, ← hN] at e
  rw [← hN] at hV'
  by_cases h0 : d = 0
  · subst h0
    obtain ⟨t, rfl⟩ : ∃ t, cc = u + 1 + t := ⟨cc - u - 1, by omega⟩
    rw [Nat.add_mul, Nat.add_mul] at h
    omega
  · omega

/-- Behind putBack. -/
theorem round_less {V E d u cc c2 N W W2 : Nat} {z1 z2 : List Nat} {K : Nat} (hN : N = B32 ^ K) (o1 : okb B32 z1) (hz : ∀ t, K < t → lg z1 t = 0) (hu : lg z1 K = u) (hW : W = vl B32 z1)
    (o2 : okb B32 z2) (hz2 : ∀ t, K < t → lg z2 t = 0) (hu2 : lg z2 K = u) (hW2 : W2 = vl B32 z2)
    (h : W + d * E = V + cc * N) (hhi : d * E < V + E) (hE : E < N) (hc : u < cc) (hp : W2 + c2 * N = W + E) (hc2 : c2 ≤ 1) : 1 ≤ d ∧ ∃ R, W2 = R + u * N ∧ V = (d - 1) * E + R ∧ R < E := by
  obtain ⟨V', e, hV'⟩ := limb_split o1 hz
  rw [← hW, hu, ← hN] at e
  obtain ⟨V2, e2, hV2⟩ := limb_split o2 hz2
  rw [← hW2, hu2, ← hN] at e2
  rw [← hN] at hV' hV2
  have hh := digit_less (V' := V') (V2 := V2) (c2 := c2) (by rw [← e]; exact h) hhi hE hc hV' (by rw [e, e2] at hp; omega) hV2 hc2
  have hd : 1 ≤ d := by
    by_cases h0 : d = 0
    · subst h0; omega
    · omega
  refine ⟨hd, V2, e2, ?_, hh.2⟩
  obtain ⟨f, rfl⟩ : ∃ f, d = f + 1 := ⟨d - 1, by omega⟩
  rw [Nat.add_sub_cancel]
  have h1 := hh.1
  rw [Nat.add_mul, Nat.one_mul] at h1
  omega

/-- Limb K set to 0. -/
theorem set_zero {zs : List Nat} {K R u : Nat} (hu : lg zs K = u) (h : vl B32 zs = R + u * B32 ^ K) (hk : K < zs.length) : vl B32 (zs.set K 0) = R := by
  have := vl_set B32 (xs := zs) (i := K) 0 hk
  rw [hu, h] at this
  omega
end Go.Proofs.Ytjdmnchndnpdlaa
