/- mult.Gcd: a cut row, reduce on nothing, the measure. -/
import Derived.Test.YtbjgcnhilakimaaDivI
namespace Go.Proofs.Ytbjgcnhilakimaa
open Go.RowKit
set_option maxRecDepth 100000

theorem Row.take {w : World} {k : IntKind} {T base g cap : Nat} {xs : List Nat} (h : Row w k T base g cap xs) (m : Nat) (hm : m ≤ xs.length) : Row w k T base g cap (xs.take m) := by
  rcases h.own.2 with ⟨h', _⟩ | ⟨g', cap', cur, h', hb, hg, hnc, hcm, hsz, htk⟩
  · simp at h'
  · simp only [Value.slice.injEq, Option.some.injEq, Addr.mk.injEq, and_true, true_and] at h'
    obtain ⟨rfl, rfl⟩ := h'
    have hl : (xs.take m).length = m := by simp; omega
    refine ⟨?_, .inr ⟨g, cap, cur, rfl, hb, hg, by omega, hcm, hsz, ?_⟩⟩
    · rw [cl_length, Nat.mul_one]
    · have e : cl k (xs.take m) = (cl k xs).take m := by simp [cl, List.map_take]
      rw [hl, e, ← htk, List.take_take]
      congr 1
      omega

theorem dg_take {xs : List Nat} {N : Nat} (ho : okb B32 xs) (hv : vl B32 xs = N) : xs.take (dl B32 N) = dg B32 N := by
  have hle := dl_vl_le B32_two ho
  rw [hv] at hle
  have hd := Nat.lt_of_lt_of_le (vl_lt (okb_dg B32_two N)) (Nat.le_refl _)
  rw [vl_dg B32_two, length_dg] at hd
  have hz := high_zero (xs := xs) (k := dl B32 N) (by rw [hv]; exact hd)
  have ht := (take_dg B32_two ho hle (fun h0 => by
    have hs := top_split B32_two (n := N) h0
    intro h1
    have hlt : vl B32 xs < B32 ^ (dl B32 N - 1) := vl_lt_zero ho (fun t ht => by
      by_cases e : t = dl B32 N - 1
      · rw [e]; exact h1
      · exact hz t (by omega))
    rw [hv] at hlt
    have := Nat.mul_le_mul_right (B32 ^ (dl B32 N - 1)) hs.2
    rw [Nat.succ_mul, Nat.zero_mul, Nat.zero_add] at this
    have h5 := Nat.le_add_left (lg (dg B32 N) (dl B32 N - 1) * B32 ^ (dl B32 N - 1)) (N % B32 ^ (dl B32 N - 1))
    rw [← hs.1] at h5
    omega) hz)
  rw [ht.1, hv]

set_option maxHeartbeats 400000 in
theorem reduce_nil (n cp2 : Nat) (ad : Option Addr) (ys : List Nat) (w : World) (ry : Rd w .u32 ad ys) (oy : okb B32 ys) (hn : n = ys.length) (hn1 : 1 ≤ n) (hnl : n ≤ 1099511627777) :
    Calls Try.prog 100 #[.slice none 0 0, .slice ad n cp2, .slice none 0 0] w fun e w' => e = .returned (.tuple #[]) ∧ w' = w := by
  have hpair := pair_any ad n cp2 ys (n - 1) w hn ry oy (by omega) (by omega)
  rw [show ((n - 1 : Nat) : Int) = (n : Int) - 1 from by omega] at hpair
  have HPAIR := Lib.hid hpair
  clear hpair hn ry
  go_enter Try.func100, Try.ntmps100
  go_wp2_with fail
  refine (HPAIR.out).mono ?_
  rintro e w' ⟨rfl, hw⟩
  have hw := hw.symm; subst hw
  go_wp2
  go_loopw [8] (fun i wr => i = .int .i64 (0 - (n : Int)) ∧ wr = w) (fun _ _ => 0)
  case atStart => exact ⟨by simp, rfl⟩
  case round =>
    obtain ⟨rfl, hw⟩ := hrel
    have hw := hw.symm; subst hw
    go_wp2
    go_end0
    exact ⟨rfl, rfl⟩

/-- The value of the slice in slot 6: Gcd's measure. -/
def gm (a : Act) (w : World) : Nat :=
  match a.tmps.getD 6 undef with
  | .slice (some ad) n _ => match w.heap[ad.block]? with
    | some (.cells cur _ _) => vl B32 ((cur.toList.take n).map (fun v => (intOf v).toNat))
    | _ => 0
  | _ => 0
theorem gm_row {a : Act} {w : World} {T base g cap B : Nat} (h : Row w .u32 T base g cap (dg B32 B)) (e : a.tmps.getD 6 undef = .slice (some ⟨g, 0, none⟩) (dl B32 B) cap) : gm a w = B := by
  rcases h.own.2 with ⟨h', _⟩ | ⟨g', cap', cur, h', hb, hg, hnc, hcm, hsz, htk⟩
  · simp at h'
  · simp only [Value.slice.injEq, Option.some.injEq, Addr.mk.injEq, and_true, true_and] at h'
    obtain ⟨rfl, rfl⟩ := h'
    unfold gm
    rw [e]
    simp only [hg]
    rw [length_dg, Nat.mul_one] at htk
    rw [htk]
    have : (cl .u32 (dg B32 B)).map (fun v => (intOf v).toNat) = dg B32 B := by simp [cl, intOf, Function.comp_def]
    rw [this, vl_dg B32_two]
end Go.Proofs.Ytbjgcnhilakimaa
