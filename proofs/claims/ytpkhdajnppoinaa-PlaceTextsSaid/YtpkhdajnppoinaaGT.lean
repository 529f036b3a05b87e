/- RefI RefJ -/
import Derived.Test.YtpkhdajnppoinaaRefH

/- Contracts of the reference of layer 2: Sub, part. -/
namespace Go.Proofs.Ytpkhdajnppoinaa
open Go.RowKit
set_option maxRecDepth 100000

def SsubInv (w : World) (d N M : Nat) (o c i : Value) (wr : World) : Prop :=
  ∃ (k cc : Nat) (L : List Nat), k ≤ d ∧ i = .int .i64 k ∧ c = .int .i64 cc ∧ cc ≤ 1 ∧ L.length = k ∧ okb 65536 L ∧ Acc wr .i64 3 w.heap.size o L ∧ Below w.heap.size w wr ∧
    vl 65536 L + vl 65536 ((dg 65536 M).take k) = vl 65536 ((dg 65536 N).take k) + cc * 65536 ^ k
theorem sub_last3 {d cc Z X Y : Nat} (h : Z + Y = X + cc * 65536 ^ d) (hz : Z < 65536 ^ d) (hcc : cc ≤ 1) (hle : Y ≤ X) : Z = X - Y := by
  by_cases hc : cc = 0
  · subst hc; omega
  · obtain rfl : cc = 1 := by omega
    omega

set_option maxHeartbeats 2000000 in
set_option maxRecDepth 100000 in
theorem ssub_any (v1 v2 : Value) (N M : Nat) (w : World) (h1 : Dg w .i64 65536 v1 N) (h2 : Dg w .i64 65536 v2 M) (hle : M ≤ N) (hb : dl 65536 N ≤ 1000000) :
    Calls Try.prog 88 #[v1, v2] w (DhPost w (N - M)) := by
  obtain ⟨ad1, cap1, rfl, r1, c1, m1, l1, n1⟩ := h1
  obtain ⟨ad2, cap2, rfl, r2, c2, m2, l2, n2⟩ := h2
  rw [length_dg] at l1 l2 c1 c2 ⊢
  rw [length_dg]
  obtain ⟨i0, hi, hz0, hz1, hz2⟩ := info_parts Try.info3
  have hdd := dl_mono (b := 65536) (by omega) hle
  have HLE := Lib.hid hle; clear hle
  obtain ⟨d1, hd1⟩ : ∃ d1 : Nat, d1 = dl 65536 N := ⟨_, rfl⟩
  obtain ⟨d2, hd2⟩ : ∃ d2 : Nat, d2 = dl 65536 M := ⟨_, rfl⟩
  rw [← hd1] at c1 l1 hdd hb ⊢
  rw [← hd2] at c2 l2 hdd ⊢
  have HD1 := Lib.hid hd1; have HD2 := Lib.hid hd2
  clear hd1 hd2
  go_enter Try.func88, Try.ntmps88
  go_wp2
  go_loopw [5, 6, 12] (fun o c i wr => SsubInv w d1 N M o c i wr) (fun _ _ i _ => d1 - (intOf i).toNat)
  case atStart => exact ⟨0, 0, [], by omega, rfl, rfl, by omega, rfl, okb_nil _, Acc.empty w .i64 3 w.heap.size (Nat.le_refl _), (Below.refl _ _).alloc (Nat.le_refl _) _, by simp [vl]⟩
  case round =>
    obtain ⟨k, cc, L, hk, rfl, rfl, hcc, hlen, hok, hacc, hbe, hmath⟩ := hrel
    have HM := Lib.hid hmath; have HLN := Lib.hid hlen
    have hll : L.length ≤ 2199023255552 := by omega
    clear hmath hlen
    by_cases hlt : k < d1
    · have x1 : lg (dg 65536 N) k < 65536 := lg_lt (okb_dg (b := 65536) (by omega) N) (by omega) k
      have x2 : lg (dg 65536 M) k < 65536 := lg_lt (okb_dg (b := 65536) (by omega) M) (by omega) k
      obtain ⟨b, off, ha, _, hc⟩ := (r1.below hbe).get (by rw [length_dg, ← HD1.out]; omega)
      have hc := hc k (by rw [length_dg, ← HD1.out]; exact hlt)
      have r2' := r2.below hbe
      have HR1 := Lib.hid r1; have HR2 := Lib.hid r2
      obtain ⟨y, hy⟩ : ∃ y, y = lg (dg 65536 M) k := ⟨_, rfl⟩
      have HY := Lib.hid hy
      obtain ⟨r, c', hcr⟩ : ∃ r c' : Nat, r < 65536 ∧ c' ≤ 1 ∧ r + y + cc = lg (dg 65536 N) k + c' * 65536 ∧ (c' = 1 ↔ lg (dg 65536 N) k < y + cc) := by
        by_cases q : lg (dg 65536 N) k < y + cc
        · exact ⟨lg (dg 65536 N) k + 65536 - y - cc, 1, by omega, by omega, by omega, by simp [q]⟩
        · exact ⟨lg (dg 65536 N) k - y - cc, 0, by omega, by omega, by omega, by simp; omega⟩
      obtain ⟨hr, hc1, hsum, hiff⟩ := hcr
      have hstep := sub_step (y := y) HM.out hsum
      have hfin : ∀ (o : Value) (w' : World) (z zc : Int), Acc w' .i64 3 w.heap.size o (L ++ [r]) → Below w.heap.size wr w' → z = (k : Int) + 1 → zc = (c' : Int) → SsubInv w d1 N M o (.int .i64 zc) (.int .i64 z) w' := by
        intro o w' z zc ha2 hb2 hz hzc
        exact ⟨k + 1, c', L ++ [r], by omega, by rw [hz]; rfl, by rw [hzc], hc1, by simp; exact HLN.out, okb_append hok (okb_one hr), ha2, hbe.trans hb2, by rw [vl_snoc, HLN.out, vl_take_succ, vl_take_succ, ← HY.out]; exact hstep⟩
      have HF := Lib.hid hfin
      subst ha
      clear hstep hfin r1 r2
      rw [← hy] at x2
      by_cases q2 : k < d2
      · obtain ⟨b', off', ha', _, hc'⟩ := r2'.get (by rw [length_dg, ← HD2.out]; omega)
        have hc' := hc' k (by rw [length_dg, ← HD2.out]; exact q2)
        rw [← hy] at hc'
        subst ha'
        clear hy r2'
        by_cases hneg : lg (dg 65536 N) k < y + cc
        · have e1 : c' = 1 := hiff.2 hneg
          clear hiff
          subst e1
          go_wp2_with (at_builtin; refine wp_acc wr rfl _ _ 34 rfl .i64 3 i0 8 Try.underlying34 hi hz0 hz1 hz2 (by decide) w.heap.size _ L hacc rfl _ r ?_ rfl hll hbe.size ?_)
          · omega
          · intro v' w' hacc2 hbel2
            clear hacc
            go_wp2
            go_roundw
            case rel => exact HF.out _ _ _ _ hacc2 hbel2 rfl rfl
            case measure => simp [intOf]; omega
        · have e1 : c' = 0 := by
            by_cases q : c' = 1
            · exact absurd (hiff.1 q) hneg
            · omega
          clear hiff
          subst e1
          go_wp2_with (at_builtin; refine wp_acc wr rfl _ _ 34 rfl .i64 3 i0 8 Try.underlying34 hi hz0 hz1 hz2 (by decide) w.heap.size _ L hacc rfl _ r ?_ rfl hll hbe.size ?_)
          · omega
          · intro v' w' hacc2 hbel2
            clear hacc
            go_wp2
            go_roundw
            case rel => exact HF.out _ _ _ _ hacc2 hbel2 rfl rfl
            case measure => simp [intOf]; omega
      · have hy0 : y = 0 := by rw [hy]; exact lg_out (by rw [length_dg, ← HD2.out]; omega)
        clear hy r2'
        by_cases hneg : lg (dg 65536 N) k < y + cc
        · have e1 : c' = 1 := hiff.2 hneg
          clear hiff
          subst e1
          subst hy0
          go_wp2_with (at_builtin; refine wp_acc wr rfl _ _ 34 rfl .i64 3 i0 8 Try.underlying34 hi hz0 hz1 hz2 (by decide) w.heap.size _ L hacc rfl _ r ?_ rfl hll hbe.size ?_)
          · omega
          · intro v' w' hacc2 hbel2
            clear hacc
            go_wp2
            go_roundw
            case rel => exact HF.out _ _ _ _ hacc2 hbel2 rfl rfl
            case measure => simp [intOf]; omega
        · have e1 : c' = 0 := by
            by_cases q : c' = 1
            · exact absurd (hiff.1 q) hneg
            · omega
          clear hiff
          subst e1
          subst hy0
          go_wp2_with (at_builtin; refine wp_acc wr rfl _ _ 34 rfl .i64 3 i0 8 Try.underlying34 hi hz0 hz1 hz2 (by decide) w.heap.size _ L hacc rfl _ r ?_ rfl hll hbe.size ?_)
          · omega
          · intro v' w' hacc2 hbel2
            clear hacc
            go_wp2
            go_roundw
            case rel => exact HF.out _ _ _ _ hacc2 hbel2 rfl rfl
            case measure => simp [intOf]; omega
    · have hkd : k = d1 := by omega
      have hsub : vl 65536 L = N - M := by
        have hm := HM.out
        rw [vl_take_all (by rw [length_dg, ← HD2.out]; omega), vl_take_all (by rw [length_dg, ← HD1.out]; omega), vl_dg (by omega), vl_dg (by omega)] at hm
        have hz := vl_lt hok
        rw [HLN.out] at hz
        exact sub_last3 hm hz hcc HLE.out
      have HS := Lib.hid hsub
      have hsq := hacc.sq (by rw [HLN.out]; omega)
      have hl4 : L.length ≤ 1099511627776 := by rw [HLN.out]; omega
      clear hacc hsub r1 r2 hkd
      go_wp2_with fail
      obtain ⟨ad3, cap3, hv3, hrd, hc3, hm3, hl3, hn3⟩ := hsq
      rw [hv3]
      refine (strim_any 65536 (by omega) _ _ _ L _ rfl hrd hok (by omega) hc3 hn3).mono ?_
      rintro e w1 ⟨rfl, hw⟩
      have hw := hw.symm; subst hw
      rw [HS.out]
      have hend := strim_end hok HS.out hrd hc3 hm3 hl4 hn3 hbe
      clear hv3
      go_wp2
      go_ret
      exact hend

/-- What part answers: a digit and a place, so that so many times M is not above N. -/
def PartPost (w : World) (N M : Nat) (e : Ending) (w' : World) : Prop :=
  ∃ m up n : Nat, e = .returned (.tuple #[.int .i64 m, .int .i64 up]) ∧ 1 ≤ m ∧ m < 65536 ∧ up ≤ dl 65536 N ∧ m * M * 65536 ^ up ≤ N ∧ w' = w.drewN n

theorem part_bound {N M A t m up e : Nat} (hM : M ≤ t * 65536 ^ (dl 65536 M - 1)) (hup : dl 65536 M - 1 + up = e) (hm : m * t ≤ A) (hN : A * 65536 ^ e ≤ N) : m * M * 65536 ^ up ≤ N := by
  have h1 : m * M * 65536 ^ up ≤ m * (t * 65536 ^ (dl 65536 M - 1)) * 65536 ^ up := Nat.mul_le_mul_right _ (Nat.mul_le_mul_left _ hM)
  have h2 : m * (t * 65536 ^ (dl 65536 M - 1)) * 65536 ^ up = m * t * 65536 ^ e := by
    rw [← hup, Nat.pow_add, Nat.mul_assoc, Nat.mul_assoc, Nat.mul_assoc]
  have h3 : m * t * 65536 ^ e ≤ A * 65536 ^ e := Nat.mul_le_mul_right _ hm
  omega
theorem top_le {N : Nat} (h : 0 < dl 65536 N) : N ≤ (lg (dg 65536 N) (dl 65536 N - 1) + 1) * 65536 ^ (dl 65536 N - 1) ∧ lg (dg 65536 N) (dl 65536 N - 1) * 65536 ^ (dl 65536 N - 1) ≤ N ∧ 0 < lg (dg 65536 N) (dl 65536 N - 1) := by
  obtain ⟨h1, h2⟩ := top_split (b := 65536) (by omega) h
  have h3 : N % 65536 ^ (dl 65536 N - 1) < 65536 ^ (dl 65536 N - 1) := Nat.mod_lt _ (Nat.pow_pos (by omega))
  rw [Nat.add_mul]
  refine ⟨by omega, by omega, h2⟩
theorem two_le {N : Nat} (h : 1 < dl 65536 N) : (65536 * lg (dg 65536 N) (dl 65536 N - 1) + lg (dg 65536 N) (dl 65536 N - 2)) * 65536 ^ (dl 65536 N - 2) ≤ N := by
  have h1 := vl_split' 65536 (dg 65536 N) (dl 65536 N - 2)
  have h2 := vl_drop_succ 65536 (dg 65536 N) (dl 65536 N - 2)
  have h3 := vl_drop_succ 65536 (dg 65536 N) (dl 65536 N - 2 + 1)
  have hz : (dg 65536 N).drop (dl 65536 N - 2 + 1 + 1) = [] := List.drop_eq_nil_of_le (by rw [length_dg]; omega)
  rw [hz] at h3
  rw [show dl 65536 N - 2 + 1 = dl 65536 N - 1 from by omega] at h2 h3
  simp only [vl, Nat.mul_zero, Nat.add_zero] at h3
  rw [h3] at h2
  rw [vl_dg (by omega), h2] at h1
  rw [Nat.mul_comm, Nat.add_comm (65536 * _)]
  omega

end Go.Proofs.Ytpkhdajnppoinaa

/- Contracts of the reference of layer 2: DivMod, Gcd. -/
namespace Go.Proofs.Ytpkhdajnppoinaa
open Go.RowKit
set_option maxRecDepth 100000

theorem dg16_one : dg 65536 1 = [1] := by
  have := dg_unique (b := 65536) (by omega) (xs := [1]) (okb_one (by omega)) (by intro _; show (1 : Nat) ≠ 0; omega)
  simpa [vl] using this
theorem one_new (w : World) (T : TypeId) : Dg (w.alloc (.cells #[.int .i64 1] T)) .i64 65536 (.slice (some ⟨w.heap.size, 0, none⟩) 1 1) 1 := by
  have hr : Row (w.alloc (.cells #[.int .i64 1] T)) .i64 T w.heap.size w.heap.size 1 [1] := ⟨World.ownsRow_lit w #[.int .i64 1] 1 (Nat.le_refl _) (by unfold maxLen; omega) (by simp)⟩
  unfold Dg
  rw [dg16_one]
  exact hr.sq (by simp)

/-- What leaves a quotient and what is left over. -/
def SdivPost (w : World) (N M : Nat) (e : Ending) (w' : World) : Prop :=
  ∃ v1 v2, e = .returned (.tuple #[v1, v2]) ∧ Dg w' .i64 65536 v1 (N / M) ∧ Dg w' .i64 65536 v2 (if M = 0 then 0 else N % M) ∧ Below w.heap.size w w'

theorem div_end {N M Q c : Nat} (h : Q * M + c = N) (hc : c < M) : Q = N / M ∧ c = N % M := by
  have hm : 0 < M := by omega
  rw [← h, Nat.add_comm, Nat.add_mul_div_right _ _ hm, Nat.add_mul_mod_self_right, Nat.div_eq_of_lt hc, Nat.mod_eq_of_lt hc]
  omega

end Go.Proofs.Ytpkhdajnppoinaa
