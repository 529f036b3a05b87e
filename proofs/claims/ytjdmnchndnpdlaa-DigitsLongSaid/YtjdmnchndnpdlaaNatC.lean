import Derived.Test.YtjdmnchndnpdlaaNatA
import Derived.Deep.DeepCutAuto
import Derived.Deep.LoopGhost
namespace Go.Proofs.Ytjdmnchndnpdlaa
open Go.RowKit
set_option maxRecDepth 100000

/-- The loop of Nat.Cmp. -/
def CmpInv (w : World) (X Y : Nat) (i : Value) (wr : World) : Prop :=
  ∃ (k n : Nat), k ≤ dl B32 X ∧ i = .int .i64 ((k : Int) - 1) ∧ (∀ j, k ≤ j → lg (dg B32 X) j = lg (dg B32 Y) j) ∧ wr = w.drewN n

theorem cmp_end {w : World} {X Y n : Nat} {e : Ending} {z : Int} (hz : z = c3 X Y) (he : e = .returned (.int .i64 z)) : Quiet w (.int .i64 (c3 X Y)) e (w.drewN n) := ⟨by rw [he, hz], n, rfl⟩
theorem cmp_end0 {w : World} {X Y : Nat} {e : Ending} {z : Int} (hz : z = c3 X Y) (he : e = .returned (.int .i64 z)) : Quiet w (.int .i64 (c3 X Y)) e w := ⟨by rw [he, hz], 0, rfl⟩
theorem c3_digit {X Y i : Nat} (ha : ∀ j, i < j → lg (dg B32 X) j = lg (dg B32 Y) j) (hne : ¬ lg (dg B32 X) i = lg (dg B32 Y) i) : c3 (lg (dg B32 X) i) (lg (dg B32 Y) i) = c3 X Y := by
  by_cases h : lg (dg B32 X) i < lg (dg B32 Y) i
  · have := lt_of_digit (okb_dg B32_two X) B32_pos h ha
    rw [vl_dg B32_two, vl_dg B32_two] at this
    rw [c3_lt h, c3_lt this]
  · have h' : lg (dg B32 Y) i < lg (dg B32 X) i := by omega
    have := lt_of_digit (okb_dg B32_two Y) B32_pos h' (fun j hj => (ha j hj).symm)
    rw [vl_dg B32_two, vl_dg B32_two] at this
    rw [c3_gt h', c3_gt this]
theorem c3_dl {X Y : Nat} (h : ¬ dl B32 X = dl B32 Y) : c3 (dl B32 X) (dl B32 Y) = c3 X Y := by
  by_cases h1 : dl B32 X < dl B32 Y
  · rw [c3_lt h1, c3_lt (lt_of_dl B32_two h1)]
  · have h2 : dl B32 Y < dl B32 X := by omega
    rw [c3_gt h2, c3_gt (lt_of_dl B32_two h2)]
theorem eq_of_digits {X Y : Nat} (h : ∀ j, 0 ≤ j → lg (dg B32 X) j = lg (dg B32 Y) j) : X = Y := by
  have := vl_congr B32 (fun j => h j (Nat.zero_le j))
  rwa [vl_dg B32_two, vl_dg B32_two] at this

set_option maxHeartbeats 1000000 in
theorem cmp_any (v1 v2 : Value) (N M : Nat) (w : World) (h1 : Nt w v1 N) (h2 : Nt w v2 M) :
    Calls Try.prog 71 #[v1, v2] w (Quiet w (.int .i64 (c3 N M))) := by
  obtain ⟨xs, ox, rfl, ad1, cap1, rfl, r1, c1, m1, l1, n1⟩ := h1
  obtain ⟨ys, oy, rfl, ad2, cap2, rfl, r2, c2, m2, l2, n2⟩ := h2
  have dx := dl_vl_le B32_two ox
  have dy := dl_vl_le B32_two oy
  have rX := r1.dg ox
  have rY := r2.dg oy
  go_enter Try.func71, Try.ntmps71
  go_wp2_with fail
  refine (cut_any ad1 _ cap1 xs _ rfl r1 ox (by omega) c1 n1).mono ?_
  rintro e w' ⟨rfl, hw⟩
  have hw := hw.symm; subst hw
  go_wp2_with fail
  refine (cut_any ad2 _ cap2 ys _ rfl r2 oy (by omega) c2 n2).mono ?_
  rintro e w' ⟨rfl, hw⟩
  have hw := hw.symm; subst hw
  clear r1 r2 c1 c2 m1 m2 n1 n2
  generalize vl B32 xs = X at *
  generalize vl B32 ys = Y at *
  by_cases hl : dl B32 X = dl B32 Y
  · have HL := Lib.hid hl
    obtain ⟨d, hd⟩ : ∃ d, d = dl B32 X := ⟨_, rfl⟩
    rw [← hl, ← hd]
    rw [← hd] at dx
    have HD := Lib.hid hd; clear hd hl dy
    go_wp2
    go_loopw [5] (fun i wr => CmpInv w X Y i wr) (fun i _ => (intOf i + 1).toNat)
    case atStart => exact ⟨dl B32 X, 0, Nat.le_refl _, by rw [HD.out], fun j hj => by rw [lg_out hj, lg_out (by rw [length_dg, ← HL.out]; exact hj)], rfl⟩
    case round =>
      obtain ⟨k, n, hk, rfl, ha, rfl⟩ := hrel
      rw [← HD.out] at hk
      by_cases hp : 0 < k
      · obtain ⟨j, rfl⟩ : ∃ j, k = j + 1 := ⟨k - 1, by omega⟩
        have HA := Lib.hid ha; clear ha
        obtain ⟨b, off, rfl, hb, hc⟩ := rX.get (by rw [length_dg, ← HD.out]; omega)
        obtain ⟨b', off', rfl, hb', hc'⟩ := rY.get (by rw [length_dg, ← HL.out, ← HD.out]; omega)
        have hcx := hc j (by rw [length_dg, ← HD.out]; omega)
        have hcy := hc' j (by rw [length_dg, ← HL.out, ← HD.out]; omega)
        clear hc hc' rX rY
        rw [show ((j + 1 : Nat) : Int) - 1 = (j : Int) from by omega]
        by_cases hne : lg (dg B32 X) j = lg (dg B32 Y) j
        · go_upto_region 7 with fail
          go_quiet (fail)
          have HN := Lib.hid hne
          clear hne
          go_wp2
          go_roundw
          case rel => exact ⟨j, n + nq, by rw [← HD.out]; omega, by go_num, fun i hi => by
            by_cases e : i = j
            · subst e; exact HN.out
            · exact HA.out i (by omega), rfl⟩
          case measure => simp [intOf]
        · go_upto_region 7 with fail
          go_quiet (fail)
          go_wp2
          rw [World.drewN_drewN]
          obtain ⟨wq, hq⟩ : ∃ wq, wq = w.drewN (n + nq) := ⟨_, rfl⟩
          have hcx' : wq.cell? ⟨b, off + j, none⟩ = some (.int .u32 (lg (dg B32 X) j : Nat)) := by rw [hq]; exact hcx
          have hcy' : wq.cell? ⟨b', off' + j, none⟩ = some (.int .u32 (lg (dg B32 Y) j : Nat)) := by rw [hq]; exact hcy
          rw [← hq]
          have HQ := Lib.hid hq
          clear hq hcx hcy
          have hjd : (j : Int) < (d : Int) := by omega
          have HC := Lib.hid (c3_digit (fun i hi => HA.out i (by omega)) hne)
          clear hne
          go_quiet ((go_at_call 97; exact Calls.quiet_of_same (compare_u32 _ _ _)))
          go_wp2
          go_ret
          rw [HQ.out, World.drewN_drewN]
          exact cmp_end HC.out rfl
      · obtain rfl : k = 0 := by omega
        clear rX rY
        go_wp2
        go_ret
        exact cmp_end (c3_eq (eq_of_digits ha)).symm rfl
  · have HL := Lib.hid hl
    clear rX rY
    by_cases hl2 : dl B32 X < dl B32 Y
    all_goals
      go_wp2_with (go_at_call 96; refine (compare_int (dl B32 X) (dl B32 Y) _).mono ?_; rintro e w' ⟨rfl, hw⟩; have hw := hw.symm; subst hw)
      go_ret
      exact cmp_end0 (c3_dl HL.out) rfl


/-- The loop of Nat.Sub. -/
def SubInv (w : World) (g d X Y : Nat) (c i : Value) (wr : World) : Prop :=
  ∃ (k cc : Nat) (zs : List Nat), k ≤ d ∧ i = .int .i64 k ∧ c = .int .u32 cc ∧ cc ≤ 1 ∧ zs.length = d ∧ okb B32 zs ∧ Row wr .u32 77 w.heap.size g d zs ∧ Below w.heap.size w wr ∧
    vl B32 (zs.take k) + vl B32 ((dg B32 Y).take k) = vl B32 ((dg B32 X).take k) + cc * B32 ^ k
/-- What Nat.Sub leaves. -/
def SubPost (w : World) (N M : Nat) (e : Ending) (w' : World) : Prop :=
  (N < M ∧ e = .returned (.tuple #[.slice none 0 0, .bool false]) ∧ Below w.heap.size w w') ∨
  (M ≤ N ∧ ∃ v, e = .returned (.tuple #[v, .bool true]) ∧ Dg w' .u32 B32 v (N - M) ∧ Below w.heap.size w w')

theorem sub_last {d cc Z X Y : Nat} (h : Z + Y = X + cc * B32 ^ d) (hz : Z < B32 ^ d) (hcc : cc ≤ 1) (hle : Y ≤ X) : Z = X - Y := by
  by_cases hc : cc = 0
  · subst hc; omega
  · obtain rfl : cc = 1 := by omega
    omega

set_option maxHeartbeats 1000000 in
theorem sub_any (v1 v2 : Value) (N M : Nat) (w : World) (h1 : Nt w v1 N) (h2 : Nt w v2 M) :
    Calls Try.prog 100 #[v1, v2] w (SubPost w N M) := by
  by_cases hlt : N < M
  · have hc := Lib.hid (c3_lt hlt)
    have HL := Lib.hid hlt
    clear hlt
    go_enter Try.func100, Try.ntmps100
    go_wp2_with fail
    refine (cmp_any v1 v2 N M _ h1 h2).mono ?_
    rw [hc.out]
    rintro e w' ⟨rfl, n, rfl⟩
    go_wp2_with fail
    go_ret2
    exact Or.inl ⟨HL.out, rfl, below_draws (Below.refl _ _) n⟩
  · have hc : c3 N M = (if M < N then 1 else 0) := by unfold c3; rw [if_neg hlt]
    have hc0 : 0 ≤ c3 N M := by rw [hc]; split <;> decide
    obtain ⟨z, hz⟩ : ∃ z, z = c3 N M := ⟨_, rfl⟩
    rw [← hz] at hc0
    have HZ := Lib.hid hz
    have HLT := Lib.hid hlt
    clear hc hz hlt
    have HH1 := Lib.hid h1; have HH2 := Lib.hid h2
    obtain ⟨xs, ox, vx, ad1, cap1, rfl, r1, c1, m1, l1, n1⟩ := h1
    obtain ⟨ys, oy, vy, ad2, cap2, rfl, r2, c2, m2, l2, n2⟩ := h2
    have HX := Lib.hid vx; have HY := Lib.hid vy; clear vx vy
    have dx := dl_vl_le B32_two ox
    have dy := dl_vl_le B32_two oy
    obtain ⟨i0, hi, hz0, hz1, hz2⟩ := info_parts Try.info77
    go_enter Try.func100, Try.ntmps100
    go_wp2_with fail
    refine (cmp_any _ _ N M _ HH1.out HH2.out).mono ?_
    rw [← HZ.out]
    intro e wq hq
    obtain ⟨rfl, hbq, hsz⟩ := quiet_below hq
    clear hq
    have HSZ := Lib.hid hsz; clear hsz
    have r1' := r1.below hbq
    have r2' := r2.below hbq
    clear r1 r2
    go_wp2_with fail
    refine (cut_any ad1 _ cap1 xs _ rfl r1' ox (by omega) c1 n1).mono ?_
    rintro e w' ⟨rfl, hw⟩
    have hw := hw.symm; subst hw
    go_wp2_with fail
    refine (cut_any ad2 _ cap2 ys _ rfl r2' oy (by omega) c2 n2).mono ?_
    rintro e w' ⟨rfl, hw⟩
    have hw := hw.symm; subst hw
    have rX := r1'.dg ox
    have rY := r2'.dg oy
    have ox' := HX.out; have oy' := HY.out
    rw [ox'] at rX dx; rw [oy'] at rY dy
    rw [ox', oy']
    clear r1' r2' ox oy ox' oy' n1 n2 HX HY HH1 HH2
    obtain ⟨d, hd⟩ : ∃ d, d = dl B32 N := ⟨_, rfl⟩
    have hYX : dl B32 M ≤ d := by rw [hd]; exact dl_mono B32_two (by have := HLT.out; omega)
    rw [← hd] at dx
    rw [← hd]
    have HD := Lib.hid hd; clear hd
    go_wp2_with (at_make; refine wpList_make_full _ rfl _ _ 27 rfl wq.heap.size 77 i0 (.int .u32 0) 1 Try.underlying27 hi hz0 hz1 .i64 .i64 _ _ d rfl rfl (by omega) (by omega) (by rw [hz2]; omega) (by unfold maxLen; omega) (Nat.le_refl _) ?_)
    intro w1 hown hgrow
    have hrow := Row.of_made hown
    have hb1 : Below wq.heap.size wq w1 := (Below.refl _ _).grown hgrow (Nat.le_refl _) (fun k h => by cases h)
    clear hown hgrow
    obtain ⟨g, hg⟩ : ∃ g, g = wq.heap.size := ⟨_, rfl⟩
    rw [← hg] at hrow
    rw [← hg]
    have HG := Lib.hid hg; clear hg
    go_wp2
    go_loopw [7, 22] (fun c i wr => SubInv wq g d N M c i wr) (fun _ i _ => d - (intOf i).toNat)
    case atStart => exact ⟨0, 0, _, Nat.zero_le _, rfl, rfl, by omega, by simp, okb_replicate B32_pos _, hrow.rebase (Nat.le_of_eq HG.out.symm), hb1, by simp [vl]⟩
    case round =>
      obtain ⟨k, cc, zs, hk, rfl, rfl, hcc, hzl, hzo, hro, hbe, hmath⟩ := hrel
      have HM := Lib.hid hmath; clear hmath
      have HZ2 := Lib.hid hzl
      by_cases hlt : k < d
      · have hX := (rX.below hbe).get (by rw [length_dg, ← HD.out]; omega)
        obtain ⟨b, off, ha, hbs, hcx⟩ := hX
        have hcx := hcx k (by rw [length_dg, ← HD.out]; omega)
        have hbb : b < g := by
          obtain ⟨b', off', ha', hb', _⟩ := rX.get (by rw [length_dg, ← HD.out]; omega)
          rw [ha] at ha'; simp at ha'; rw [HG.out]; omega
        subst ha
        have hcs := hro.cell (j := k) (by omega)
        have hfr := hro.free k
        have lx := lg_lt (okb_dg B32_two N) B32_pos k
        have ly := lg_lt (okb_dg B32_two M) B32_pos k
        have rY' := (rY.below hbe).drew
        have HRO := Lib.hid hro; have HBE := Lib.hid hbe
        clear rX rY hzl hro hbe hb1 hrow
        obtain ⟨r, hr⟩ : ∃ r, r = (lg (dg B32 N) k + 8589934592 - lg (dg B32 M) k - cc) % 4294967296 := ⟨_, rfl⟩
        obtain ⟨c', hc'⟩ : ∃ c', c' = (if lg (dg B32 N) k < lg (dg B32 M) k + cc then 1 else 0) := ⟨_, rfl⟩
        have hrb : r < B32 := by rw [hr, B32_eq]; exact Nat.mod_lt _ (by decide)
        have hcb : c' ≤ 1 := by rw [hc']; split <;> decide
        have hsum : Hid (r + lg (dg B32 M) k + cc = lg (dg B32 N) k + c' * B32) := by
          unfold Hid; rw [hr, hc', B32_eq]; rw [B32_eq] at lx ly; split <;> omega
        have hsub := sub32_any (lg (dg B32 N) k) (lg (dg B32 M) k) cc wr.drew lx ly hcc
        unfold Sub32Post at hsub
        rw [← hr, ← hc'] at hsub
        have HSUB := Lib.hid hsub
        clear hsub hr hc'
        go_upto_region 9 with fail
        go_region_with (first | (go_at_call 80; refine (at_any ad2 (dl B32 M) cap2 (dg B32 M) k _ rfl (by assumption) (by rw [length_dg]; omega) (by omega)).mono ?_; rintro e w' ⟨rfl, hw⟩; have hw := hw.symm; subst hw) | (go_at_call 116; refine (HSUB.out).mono ?_; rintro e w' ⟨rfl, hw⟩; have hw := hw.symm; subst hw))
        all_goals
          go_wp2
          go_roundw
          case rel =>
            refine ⟨k + 1, c', zs.set k r, by omega, by go_num, rfl, hcb, by rw [List.length_set]; exact HZ2.out, okb_set hzo hrb, ?_, ?_, ?_⟩
            · exact (HRO.out.set k r).drew
            · exact (HBE.out.setCell (p := ⟨g, k, none⟩) (Nat.le_of_eq HG.out.symm) _).drew
            · rw [vl_set_succ _ _ (by rw [HZ2.out]; omega), vl_take_succ, vl_take_succ]; exact sub_step HM.out hsum.out
          case measure => simp [intOf]; omega
      · obtain rfl : k = d := by omega
        have hv : vl B32 zs = N - M := by
          have e1 := vl_take_all (b := B32) (xs := dg B32 N) (k := k) (by rw [length_dg, ← HD.out]; omega)
          have e2 := vl_take_all (b := B32) (xs := dg B32 M) (k := k) (by rw [length_dg]; omega)
          have e3 := vl_take_all (b := B32) (xs := zs) (k := k) (by omega)
          have hm := HM.out
          rw [e1, e2, e3, vl_dg B32_two, vl_dg B32_two] at hm
          have hz := vl_lt hzo
          rw [hzl] at hz
          exact sub_last hm hz hcc (by have := HLT.out; omega)
        have HV := Lib.hid hv
        clear rX rY hv hb1 hrow
        go_wp2_with fail
        refine (cut_any _ _ _ zs _ (by rw [hzl]) hro.rd hzo (by omega) (by omega) (fun h => by cases h)).mono ?_
        rintro e w2 ⟨rfl, hw⟩
        have hw := hw.symm; subst hw
        have hrd := hro.rd.dg hzo
        have hle := dl_vl_le B32_two hzo
        rw [HV.out] at hrd hle ⊢
        go_wp2
        go_ret2
        refine Or.inr ⟨by have := HLT.out; omega, _, rfl, ⟨_, _, rfl, hrd, by rw [length_dg]; omega, by unfold maxLen; omega, by rw [length_dg]; omega, fun h => by cases h⟩, hbq.trans ?_⟩
        exact hbe.mono (Nat.le_of_eq HSZ.out.symm)
end Go.Proofs.Ytjdmnchndnpdlaa
