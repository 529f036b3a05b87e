import Derived.Test.YthoiocjbjfhgpaaRefA
namespace Go.Proofs.Ythoiocjbjfhgpaa
open Go.RowKit
set_option maxRecDepth 100000

def LimbsOut (w : World) (d N : Nat) (o i : Value) (wr : World) : Prop :=
  ∃ (j : Nat) (L : List Nat), 32 * j < d + 32 ∧ i = .int .i64 ((32 * j : Nat) : Int) ∧ Acc wr .u32 73 w.heap.size o L ∧ okb B32 L ∧ L.length = j ∧ (∀ t, t < j → lg L t = lg (dg B32 N) t) ∧ Below w.heap.size w wr

theorem limb_field (N j : Nat) : N / 2 ^ (32 * j) % 2 ^ 32 = lg (dg B32 N) j := by
  rw [lg_dg B32_two, show B32 ^ j = 2 ^ (32 * j) from by rw [Nat.pow_mul]; rfl]; rfl
theorem limbs_end {N j d : Nat} {L : List Nat} (hd : d = dl 2 N) (h1 : 32 * j < d + 32) (h2 : d ≤ 32 * j) (hl : L.length = j) (hdig : ∀ t, t < j → lg L t = lg (dg B32 N) t) : L = dg B32 N := by
  have hlen : dl B32 N = j := by
    by_cases h0 : 0 < j
    · exact dl_limbs h0 (by omega) (by omega)
    · have : N = 0 := dl_eq_zero (b := 2) (by omega) (by omega)
      subst this; rw [dl_zero]; omega
  apply ext_lg
  · rw [length_dg, hlen, hl]
  · intro i hi; exact hdig i (by omega)

set_option maxHeartbeats 2000000 in
set_option maxRecDepth 100000 in
theorem rlimbs_any (v1 : Value) (N : Nat) (w : World) (h1 : Dg w .i64 2 v1 N) :
    Calls Try.prog 39 #[v1] w (AccPost w .u32 73 (dg B32 N)) := by
  obtain ⟨ad1, cap1, rfl, r1, c1, m1, l1, n1⟩ := h1
  rw [length_dg] at l1 c1 ⊢
  obtain ⟨i0, hi, hz0, hz1, hz2⟩ := info_parts Try.info73
  obtain ⟨d, hd⟩ : ∃ d : Nat, d = dl 2 N := ⟨_, rfl⟩
  rw [← hd] at c1 l1 ⊢
  have HD := Lib.hid hd; clear hd
  go_enter Try.func39, Try.ntmps39
  go_wp2
  go_loopw [3, 4] (fun o i wr => LimbsOut w d N o i wr) (fun _ i _ => d + 32 - (intOf i).toNat)
  case atStart => exact ⟨0, [], by omega, rfl, Acc.empty w .u32 73 w.heap.size (Nat.le_refl _), okb_nil _, rfl, fun t ht => absurd ht (by omega), (Below.refl _ _).alloc (Nat.le_refl _) _⟩
  case round =>
    obtain ⟨j, L, hj, rfl, hacc, hok, hlen, hdig, hbe⟩ := hrel
    obtain ⟨i, hi32⟩ : ∃ i : Nat, i = 32 * j := ⟨_, rfl⟩
    rw [← hi32]
    have HI := Lib.hid hi32
    have hil : i < d + 32 := by omega
    have HLN := Lib.hid hlen
    have HDG := Lib.hid hdig
    have hll : L.length ≤ 2199023255552 := by omega
    clear hlen hdig hi32
    obtain ⟨wo, rfl⟩ : ∃ wo : World, wo = wr := ⟨_, rfl⟩
    by_cases hlt : i < d
    · go_wp2
      go_loopw [5, 6] (fun n k wr => ∃ t y : Nat, t ≤ 32 ∧ k = .int .i64 ((t : Int) - 1) ∧ n = .int .u32 y ∧ y = N / 2 ^ (i + t) % 2 ^ (32 - t) ∧ wr = wo) (fun _ k _ => (intOf k + 1).toNat)
      case atStart => exact ⟨32, 0, by omega, rfl, rfl, by simp [Nat.mod_one], rfl⟩
      case round =>
        obtain ⟨t, y, ht, rfl, rfl, hy, rfl⟩ := hrel
        by_cases hp : 0 < t
        · obtain ⟨s, rfl⟩ : ∃ s, t = s + 1 := ⟨t - 1, by omega⟩
          rw [show ((s + 1 : Nat) : Int) - 1 = (s : Int) from by omega]
          have hyb : y < 2147483648 := by
            have h1 : y < 2 ^ (32 - (s + 1)) := by rw [hy]; exact Nat.mod_lt _ (Nat.pow_pos (by omega))
            have h2 : (2 : Nat) ^ (32 - (s + 1)) ≤ 2 ^ 31 := Nat.pow_le_pow_right (by omega) (by omega)
            exact Nat.lt_of_lt_of_le h1 h2
          have hf := field_step N (i + s) (32 - (s + 1))
          rw [show i + s + 1 = i + (s + 1) from by omega, ← hy, show 32 - (s + 1) + 1 = 32 - s from by omega, ← lg_dg (b := 2) (by omega)] at hf
          have HF := Lib.hid hf
          have hbit := lg_lt (okb_dg (b := 2) (by omega) N) (by omega) (i + s)
          clear hf hy
          by_cases hin : i + s < d
          · obtain ⟨b, off, rfl, hbs, hc⟩ := (r1.below hbe).get (by rw [length_dg, ← HD.out]; omega)
            have hc := hc (i + s) (by rw [length_dg, ← HD.out]; omega)
            by_cases hb1 : lg (dg 2 N) (i + s) = 1
            · rw [hb1] at hc
              have HB1 := Lib.hid hb1
              clear hb1 r1
              go_wp2
              go_roundw
              case rel => exact ⟨s, 2 * y + 1, by omega, by go_num, by go_num, by rw [HF.out, HB1.out], trivial⟩
              case measure => simp [intOf]
            · have hb0 : lg (dg 2 N) (i + s) = 0 := by omega
              rw [hb0] at hc
              have HB0 := Lib.hid hb0
              clear hb1 hb0 r1
              go_wp2
              go_roundw
              case rel => exact ⟨s, 2 * y, by omega, by go_num, by go_num, by rw [HF.out, HB0.out]; omega, trivial⟩
              case measure => simp [intOf]
          · have hb0 : lg (dg 2 N) (i + s) = 0 := lg_out (by rw [length_dg, ← HD.out]; omega)
            have HB0 := Lib.hid hb0
            clear hb0 r1
            go_wp2
            go_roundw
            case rel => exact ⟨s, 2 * y, by omega, by go_num, by go_num, by rw [HF.out, HB0.out]; omega, trivial⟩
            case measure => simp [intOf]
        · obtain rfl : t = 0 := by omega
          have hyv : y = lg (dg B32 N) j := by rw [hy, HI.out]; exact limb_field N j
          have HY := Lib.hid hyv
          have hyl : y < B32 := by rw [hyv]; exact lg_lt (okb_dg B32_two N) B32_pos j
          clear hy hyv
          go_wp2_with (at_builtin; refine wp_acc _ rfl _ _ 26 rfl .u32 73 i0 4 Try.underlying26 hi hz0 hz1 hz2 (by decide) w.heap.size _ L hacc rfl _ y rfl rfl hll hbe.size ?_)
          intro v' w' hacc2 hbel2
          clear hacc
          go_wp2
          go_roundw
          case rel =>
            refine ⟨j + 1, L ++ [y], by have := HI.out; omega, ?_, hacc2, okb_append hok (okb_one hyl), by simp; exact HLN.out, ?_, hbe.trans hbel2⟩
            · have := HI.out
              rw [show ((32 * (j + 1) : Nat) : Int) = (i : Int) + 32 from by omega]
            · intro u hu
              by_cases e : u = j
              · subst e
                have hs := lg_snoc L y
                rw [HLN.out] at hs
                rw [hs]; exact HY.out
              · rw [lg_append_left (by rw [HLN.out]; omega)]; exact HDG.out u (by omega)
          case measure => simp [intOf]; omega
    · have hL := limbs_end HD.out hj (by have := HI.out; omega) HLN.out HDG.out
      subst hL
      clear r1
      go_wp2
      go_ret
      exact ⟨_, rfl, hacc, hbe⟩
end Go.Proofs.Ythoiocjbjfhgpaa
