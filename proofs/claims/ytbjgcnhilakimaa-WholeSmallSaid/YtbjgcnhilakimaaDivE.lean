/- Contract of mult.putBack. -/
import Derived.Test.YtbjgcnhilakimaaDivD
import Derived.BigRegion
import Derived.Deep.RegionHeld3
namespace Go.Proofs.Ytbjgcnhilakimaa
open Go.RowKit
set_option maxRecDepth 100000

theorem put_step {zs : List Nat} {i y c P Q : Nat} (hlen : i < zs.length) (h : vl B32 zs + c * B32 ^ i = P + Q) :
    vl B32 (zs.set i ((lg zs i + y + c) % B32)) + (lg zs i + y + c) / B32 * B32 ^ (i + 1) = P + (Q + y * B32 ^ i) := by
  obtain ⟨T, hT⟩ : ∃ T, T = lg zs i + y + c := ⟨_, rfl⟩
  rw [← hT]
  have h1 := vl_set B32 (xs := zs) (i := i) (T % B32) hlen
  have h2 := carry_arith B32 (B32 ^ i) T
  rw [show B32 ^ i * B32 = B32 ^ (i + 1) from (Nat.pow_succ ..).symm] at h2
  have h5 : T * B32 ^ i = lg zs i * B32 ^ i + y * B32 ^ i + c * B32 ^ i := by rw [hT, Nat.add_mul, Nat.add_mul]
  omega

def PutInv (w : World) (base g cap : Nat) (xs : List Nat) (j : Nat) (ys : List Nat) (c i : Value) (wr : World) : Prop :=
  ∃ (k cc : Nat) (zs : List Nat), k ≤ ys.length ∧ i = .int .i64 k ∧ c = .int .u32 cc ∧ cc ≤ 1 ∧ zs.length = xs.length ∧ okb B32 zs ∧ Row wr .u32 65 base g cap zs ∧ Only g w wr ∧
    (∀ t, t < j ∨ j + ys.length ≤ t → lg zs t = lg xs t) ∧ vl B32 zs + cc * B32 ^ (j + k) = vl B32 xs + vl B32 (ys.take k) * B32 ^ j

def PutPost (w : World) (base g cap : Nat) (xs : List Nat) (j : Nat) (ys : List Nat) (e : Ending) (w' : World) : Prop :=
  ∃ (cc : Nat) (zs : List Nat), e = .returned (.tuple #[]) ∧ cc ≤ 1 ∧ zs.length = xs.length ∧ okb B32 zs ∧ Row w' .u32 65 base g cap zs ∧ Only g w w' ∧
    (∀ t, t < j ∨ j + ys.length ≤ t → lg zs t = lg xs t) ∧ vl B32 zs + cc * B32 ^ (j + ys.length) = vl B32 xs + vl B32 ys * B32 ^ j

set_option maxHeartbeats 2000000 in
set_option maxRecDepth 100000 in
theorem putBack_any (base g cap cp2 cp1 j n1 n : Nat) (ad : Option Addr) (xs ys : List Nat) (w : World) (hr : Row w .u32 65 base g cap xs) (ho : okb B32 xs) (ry : Rd w .u32 ad ys) (oy : okb B32 ys) (ha : Apart ad g)
    (hn1 : n1 = xs.length - j) (hn : n = ys.length) (hj : j + ys.length ≤ xs.length) (hl : xs.length ≤ 1099511627777) :
    Calls Try.prog 121 #[.slice (some ⟨g, j, none⟩) n1 cp1, .slice ad n cp2] w (PutPost w base g cap xs j ys) := by
  have HN := Lib.hid hn; have HN1 := Lib.hid hn1; have HO := Lib.hid ho; have HR := Lib.hid hr; have RY := Lib.hid ry; have OY := Lib.hid oy; have HA := Lib.hid ha
  have hnj : n ≤ n1 := by omega
  have hn1b : n1 ≤ 1099511627777 := by omega
  have hjb : j ≤ 1099511627777 := by omega
  clear hn hn1 ho hr ry oy ha
  go_enter Try.func121, Try.ntmps121
  go_wp2
  go_loopw [4, 8] (fun c i wr => PutInv w base g cap xs j ys c i wr) (fun _ i _ => n - (intOf i).toNat)
  case atStart => exact ⟨0, 0, xs, Nat.zero_le _, rfl, rfl, by omega, rfl, HO.out, HR.out, Only.refl _ _, fun _ _ => rfl, by simp [vl]⟩
  case round =>
    obtain ⟨k, cc, zs, hk, rfl, rfl, hcc, hzl, hzo, hro, hon, hsame, hv⟩ := hrel
    have HV := Lib.hid hv; have HZ := Lib.hid hsame; have HZL := Lib.hid hzl; have HZO := Lib.hid hzo; have HON := Lib.hid hon
    clear hv hsame hzl
    by_cases hlt : k < n
    · obtain ⟨b, off, ha, hbs, hcy⟩ := (hon.rd RY.out HA.out).get (by have := HN.out; omega)
      have hcy := hcy k (by have := HN.out; omega)
      have hbg : b ≠ g := HA.out b off ha
      subst ha
      have ly : lg ys k < B32 := lg_lt OY.out B32_pos k
      have lz : lg zs (j + k) < B32 := lg_lt hzo B32_pos (j + k)
      have hcs := hro.cell (j := j + k) (by rw [HZL.out]; have := HN.out; omega)
      have hfr := hro.free (j + k)
      have HRO := Lib.hid hro
      clear hzo hro hon
      go_upto_region 4 with fail
      go_region_with (go_at_call 89; refine (add32_any (lg zs (j + k)) (lg ys k) cc _ lz ly hcc).mono ?_; rintro e w' ⟨rfl, hw⟩; have hw := hw.symm; subst hw)
      all_goals
        go_wp2
        go_roundw
        case rel =>
          refine ⟨k + 1, (lg zs (j + k) + lg ys k + cc) / B32, zs.set (j + k) ((lg zs (j + k) + lg ys k + cc) % B32), by have := HN.out; omega, by go_num, by rw [B32_eq]; go_num, by rw [B32_eq] at ly lz ⊢; omega, by rw [List.length_set]; exact HZL.out,
            okb_set HZO.out (Nat.mod_lt _ B32_pos), ?_, ?_, ?_, ?_⟩
          · have hs := (HRO.out.set (j + k) ((lg zs (j + k) + lg ys k + cc) % B32)).drew
            rw [show (((lg zs (j + k) + lg ys k + cc) % B32 : Nat) : Int) = ((lg zs (j + k) : Nat) + (lg ys k : Nat) + (cc : Nat) : Int) % 4294967296 from by rw [B32_eq]; omega] at hs
            exact hs
          · exact (HON.out.setCell (p := ⟨g, j + k, none⟩) rfl _).drew
          · intro t ht
            rw [lg_set_other _ (by have := HN.out; omega)]
            exact HZ.out t ht
          · have hs := put_step (y := lg ys k) (by rw [HZL.out]; have := HN.out; omega) HV.out
            rw [vl_take_succ, Nat.add_mul, Nat.mul_assoc (lg ys k), ← Nat.pow_add, Nat.add_comm k j]
            exact hs
        case measure => simp [intOf]; omega
    · obtain rfl : k = n := by have := HN.out; omega
      have HRO := Lib.hid hro
      clear hzo hro hon
      go_wp2
      go_end0
      refine ⟨cc, zs, rfl, hcc, HZL.out, HZO.out, HRO.out, HON.out, HZ.out, ?_⟩
      have hv := HV.out
      rw [vl_take_all (by have := HN.out; omega), HN.out] at hv
      exact hv
end Go.Proofs.Ytbjgcnhilakimaa
