import Derived.Test.YtcgbllbhagijjaaDoorNatA
import Derived.Deep.DeepCutAuto
import Derived.Deep.LoopGhost
namespace Go.Proofs.YtcgbllbhagijjaaDoor
open Go.RowKit
set_option maxRecDepth 100000

/-- The loop of Nat.Cmp. -/
def CmpInv (w : World) (X Y : Nat) (i : Value) (wr : World) : Prop :=
  ∃ (k n : Nat), k ≤ dl B32 X ∧ i = .int .i64 ((k : Int) - 1) ∧ (∀ j, k ≤ j → lg (dg B32 X) j = lg (dg B32 Y) j) ∧ wr = w.drewN n

theorem cmp_end {w : World} {X Y n : Nat} {e : Ending} {z : Int} (hz : z = c3 X Y) (he : e = .returned (.int .i64 z)) : Quiet w (.int .i64 (c3 X Y)) e (w.drewN n) := ⟨by rw [he, hz], n, rfl⟩
theorem cmp_end0 {w : World} {X Y : Nat} {e : Ending} {z : Int} (hz : z = c3 X Y) (he : e = .returned (.int .i64 z)) : Quiet w (.int .i64 (c3 X Y)) e w := ⟨by rw [he, hz], 0, rfl⟩
theorem c3_digit {X Y i : Nat} (ha : ∀ j, i < j → lg (dg B32 X) j = lg (dg B32 Y) j) (hne : ¬ lg (dg B32 X) i = lg (dg B32 Y) i) : c3 (lg (dg B32 X) i) (lg (dg B32 Y) i) = c3 X Y := by
  by_cases h : lg (dg B32 X) i < lg (dg B32 Y) i
  · have := lt_of_digit (okb_dg B32_two X) B32_pos h ha
    rw [vl_dg B32_two, vl_dg B32_two] at this
    rw [c3_lt h, c3_lt this]
  · have h' : lg (dg B32 Y) i < lg (dg B32 X) i := by omega
    have := lt_of_digit (okb_dg B32_two Y) B32_pos h' (fun j hj => (ha j hj).symm)
    rw [vl_dg B32_two, vl_dg B32_two] at this
    rw [c3_gt h', c3_gt this]
theorem c3_dl {X Y : Nat} (h : ¬ dl B32 X = dl B32 Y) : c3 (dl B32 X) (dl B32 Y) = c3 X Y := by
  by_cases h1 : dl B32 X < dl B32 Y
  · rw [c3_lt h1, c3_lt (lt_of_dl B32_two h1)]
  · have h2 : dl B32 Y < dl B32 X := by omega
    rw [c3_gt h2, c3_gt (lt_of_dl B32_two h2)]
theorem eq_of_digits {X Y : Nat} (h : ∀ j, 0 ≤ j → lg (dg B32 X) j = lg (dg B32 Y) j) : X = Y := by
  have := vl_congr B32 (fun j => h j (Nat.zero_le j))
  rwa [vl_dg B32_two, vl_dg B32_two] at this

set_option maxHeartbeats 1000000 in
theorem cmp_any (v1 v2 : Value) (N M : Nat) (w : World) (h1 : Nt w v1 N) (h2 : Nt w v2 M) :
    Calls Tryd.prog 64 #[v1, v2] w (Quiet w (.int .i64 (c3 N M))) := by
  obtain ⟨xs, ox, rfl, ad1, cap1, rfl, r1, c1, m1, l1, n1⟩ := h1
  obtain ⟨ys, oy, rfl, ad2, cap2, rfl, r2, c2, m2, l2, n2⟩ := h2
  have dx := dl_vl_le B32_two ox
  have dy := dl_vl_le B32_two oy
  have rX := r1.dg ox
  have rY := r2.dg oy
  go_enter Tryd.func64, Tryd.ntmps64
  go_wp2_with fail
  refine (cut_any ad1 _ cap1 xs _ rfl r1 ox (by omega) c1 n1).mono ?_
  rintro e w' ⟨rfl, hw⟩
  have hw := hw.symm; subst hw
  go_wp2_with fail
  refine (cut_any ad2 _ cap2 ys _ rfl r2 oy (by omega) c2 n2).mono ?_
  rintro e w' ⟨rfl, hw⟩
  have hw := hw.symm; subst hw
  clear r1 r2 c1 c2 m1 m2 n1 n2
  generalize vl B32 xs = X at *
  generalize vl B32 ys = Y at *
  by_cases hl : dl B32 X = dl B32 Y
  · have HL := Lib.hid hl
    obtain ⟨d, hd⟩ : ∃ d, d = dl B32 X := ⟨_, rfl⟩
    rw [← hl, ← hd]
    rw [← hd] at dx
    have HD := Lib.hid hd; clear hd hl dy
    go_wp2
    go_loopw [5] (fun i wr => CmpInv w X Y i wr) (fun i _ => (intOf i + 1).toNat)
    case atStart => exact ⟨dl B32 X, 0, Nat.le_refl _, by rw [HD.out], fun j hj => by rw [lg_out hj, lg_out (by rw [length_dg, ← HL.out]; exact hj)], rfl⟩
    case round =>
      obtain ⟨k, n, hk, rfl, ha, rfl⟩ := hrel
      rw [← HD.out] at hk
      by_cases hp : 0 < k
      · obtain ⟨j, rfl⟩ : ∃ j, k = j + 1 := ⟨k - 1, by omega⟩
        have HA := Lib.hid ha; clear ha
        obtain ⟨b, off, rfl, hb, hc⟩ := rX.get (by rw [length_dg, ← HD.out]; omega)
        obtain ⟨b', off', rfl, hb', hc'⟩ := rY.get (by rw [length_dg, ← HL.out, ← HD.out]; omega)
        have hcx := hc j (by rw [length_dg, ← HD.out]; omega)
        have hcy := hc' j (by rw [length_dg, ← HL.out, ← HD.out]; omega)
        clear hc hc' rX rY
        rw [show ((j + 1 : Nat) : Int) - 1 = (j : Int) from by omega]
        by_cases hne : lg (dg B32 X) j = lg (dg B32 Y) j
        · go_upto_region 7 with fail
          go_quiet (fail)
          have HN := Lib.hid hne
          clear hne
          go_wp2
          go_roundw
          case rel => exact ⟨j, n + nq, by rw [← HD.out]; omega, by go_num, fun i hi => by
            by_cases e : i = j
            · subst e; exact HN.out
            · exact HA.out i (by omega), rfl⟩
          case measure => simp [intOf]
        · go_upto_region 7 with fail
          go_quiet (fail)
          go_wp2
          rw [World.drewN_drewN]
          obtain ⟨wq, hq⟩ : ∃ wq, wq = w.drewN (n + nq) := ⟨_, rfl⟩
          have hcx' : wq.cell? ⟨b, off + j, none⟩ = some (.int .u32 (lg (dg B32 X) j : Nat)) := by rw [hq]; exact hcx
          have hcy' : wq.cell? ⟨b', off' + j, none⟩ = some (.int .u32 (lg (dg B32 Y) j : Nat)) := by rw [hq]; exact hcy
          rw [← hq]
          have HQ := Lib.hid hq
          clear hq hcx hcy
          have hjd : (j : Int) < (d : Int) := by omega
          have HC := Lib.hid (c3_digit (fun i hi => HA.out i (by omega)) hne)
          clear hne
          go_quiet ((go_at_call 76; exact Calls.quiet_of_same (compare_u32 _ _ _)))
          go_wp2
          go_ret
          rw [HQ.out, World.drewN_drewN]
          exact cmp_end HC.out rfl
      · obtain rfl : k = 0 := by omega
        clear rX rY
        go_wp2
        go_ret
        exact cmp_end (c3_eq (eq_of_digits ha)).symm rfl
  · have HL := Lib.hid hl
    clear rX rY
    by_cases hl2 : dl B32 X < dl B32 Y
    all_goals
      go_wp2_with (go_at_call 63; refine (compare_int (dl B32 X) (dl B32 Y) _).mono ?_; rintro e w' ⟨rfl, hw⟩; have hw := hw.symm; subst hw)
      go_ret
      exact cmp_end0 (c3_dl HL.out) rfl


/-- The loop of Nat.Sub. -/
def SubInv (w : World) (g d X Y : Nat) (c i : Value) (wr : World) : Prop :=
  ∃ (k cc : Nat) (zs : List Nat), k ≤ d ∧ i = .int .i64 k ∧ c = .int .u32 cc ∧ cc ≤ 1 ∧ zs.length = d ∧ okb B32 zs ∧ Row wr .u32 75 w.heap.size g d zs ∧ Below w.heap.size w wr ∧
    vl B32 (zs.take k) + vl B32 ((dg B32 Y).take k) = vl B32 ((dg B32 X).take k) + cc * B32 ^ k
/-- What Nat.Sub leaves. -/
def SubPost (w : World) (N M : Nat) (e : Ending) (w' : World) : Prop :=
  (N < M ∧ e = .returned (.tuple #[.slice none 0 0, .bool false]) ∧ Below w.heap.size w w') ∨
  (M ≤ N ∧ ∃ v, e = .returned (.tuple #[v, .bool true]) ∧ Dg w' .u32 B32 v (N - M) ∧ Below w.heap.size w w')

theorem sub_last {d cc Z X Y : Nat} (h : Z + Y = X + cc * B32 ^ d) (hz : Z < B32 ^ d) (hcc : cc ≤ 1) (hle : Y ≤ X) : Z = X - Y := by
  by_cases hc : cc = 0
  · subst hc; omega
  · obtain rfl : cc = 1 := by omega
    omega

end Go.Proofs.YtcgbllbhagijjaaDoor
