import Derived.Test.YtbjgcnhilakimaaNatE
import Derived.Deep.DeepCutAuto
import Derived.Deep.LoopGhost
namespace Go.Proofs.Ytbjgcnhilakimaa
open Go.RowKit
set_option maxRecDepth 100000

/-- The loop of Nat.Shr. -/
def ShrInv (w : World) (g m R : Nat) (i : Value) (wr : World) : Prop :=
  ∃ (k : Nat) (zs : List Nat), k ≤ m ∧ i = .int .i64 k ∧ zs.length = m ∧ okb B32 zs ∧ Row wr .u32 65 w.heap.size g m zs ∧ Below w.heap.size w wr ∧ (∀ j, j < k → lg zs j = lg (dg B32 R) j)

theorem shr_digit {N q r i : Nat} (hr : r < 32) : (lg (dg B32 N) (i + q + 1) * 4294967296 + lg (dg B32 N) (i + q)) / 2 ^ r % 4294967296 = lg (dg B32 (N / 2 ^ (32 * q + r))) i := by
  rw [lg_dg B32_two, lg_dg B32_two, lg_dg B32_two, B32_eq]
  have e1 : (4294967296 : Nat) ^ q = 2 ^ (32 * q) := by rw [Nat.pow_mul]
  have e2 : N / 2 ^ (32 * q + r) / 4294967296 ^ i = N / 4294967296 ^ (i + q) / 2 ^ r := by
    rw [Nat.div_div_eq_div_mul, Nat.div_div_eq_div_mul, Nat.pow_add, Nat.pow_add, e1]
    congr 1
    rw [Nat.mul_comm, Nat.mul_assoc]
  have e3 : N / 4294967296 ^ (i + q + 1) = N / 4294967296 ^ (i + q) / 4294967296 := by rw [Nat.pow_succ, Nat.div_div_eq_div_mul]
  rw [e2, e3]
  generalize N / 4294967296 ^ (i + q) = M
  obtain ⟨L, hL⟩ : ∃ L, L = M / 4294967296 % 4294967296 * 4294967296 + M % 4294967296 := ⟨_, rfl⟩
  rw [← hL]
  have h1 : M = L + 2 ^ r * (4294967296 * (2 ^ (32 - r) * (M / 4294967296 / 4294967296))) := by
    have : (2 : Nat) ^ r * (4294967296 * (2 ^ (32 - r) * (M / 4294967296 / 4294967296))) = 2 ^ r * 2 ^ (32 - r) * (4294967296 * (M / 4294967296 / 4294967296)) := by
      rw [Nat.mul_assoc, Nat.mul_left_comm (2 ^ (32 - r)) 4294967296]
    rw [this, ← Nat.pow_add, show r + (32 - r) = 32 from by omega, show (2 : Nat) ^ 32 = 4294967296 from by decide]
    omega
  have h2 : M / 2 ^ r = L / 2 ^ r + 4294967296 * (2 ^ (32 - r) * (M / 4294967296 / 4294967296)) := by
    rw [show M / 2 ^ r = (L + 2 ^ r * (4294967296 * (2 ^ (32 - r) * (M / 4294967296 / 4294967296)))) / 2 ^ r from congrArg (· / 2 ^ r) h1]
    rw [Nat.add_mul_div_left _ _ (Nat.pow_pos (by omega))]
  rw [h2, Nat.add_mul_mod_self_left]

theorem shr_top {N q r : Nat} : N / 2 ^ (32 * q + r) < B32 ^ (dl B32 N - q) := by
  have h1 := lt_dl B32_two N
  have h2 : B32 ^ dl B32 N ≤ B32 ^ (dl B32 N - q) * 2 ^ (32 * q + r) := by
    rw [Nat.pow_add, show (2 : Nat) ^ (32 * q) = B32 ^ q from by rw [Nat.pow_mul]; rfl, ← Nat.mul_assoc, ← Nat.pow_add]
    have h3 : B32 ^ dl B32 N ≤ B32 ^ (dl B32 N - q + q) := Nat.pow_le_pow_right B32_pos (by omega)
    exact Nat.le_trans h3 (Nat.le_mul_of_pos_right _ (Nat.pow_pos (by omega)))
  rw [Nat.div_lt_iff_lt_mul (Nat.pow_pos (by omega))]
  omega

set_option maxHeartbeats 1000000 in
theorem shr_any (v1 : Value) (N : Nat) (n : Int) (w : World) (h1 : Nt w v1 N) (hn : n ≤ 9223372036854775807) :
    Calls Try.prog 38 #[v1, .int .i64 n] w (DgPost w (N / 2 ^ (max n 0).toNat)) := by
  obtain ⟨xs, ox, vx, ad, cap, rfl, r1, c1, m1, l1, n1⟩ := h1
  have HX := Lib.hid vx; clear vx
  have dx := dl_vl_le B32_two ox
  have rX := r1.dg ox
  obtain ⟨s, hs⟩ : ∃ s : Nat, s = (max n 0).toNat := ⟨_, rfl⟩
  have hsn : (s : Int) = max n 0 := by omega
  have hs2 : s ≤ 9223372036854775807 := by omega
  rw [← hs]
  obtain ⟨i0, hi, hz0, hz1, hz2⟩ := info_parts Try.info65
  have HS := Lib.hid hsn
  obtain ⟨q, hq⟩ : ∃ q : Nat, q = s / 32 := ⟨_, rfl⟩
  obtain ⟨r, hr⟩ : ∃ r : Nat, r = s % 32 := ⟨_, rfl⟩
  have hsq : s = 32 * q + r := by omega
  have hr32 : r < 32 := by omega
  have hq8 : q ≤ 9223372036854775807 := by omega
  have e1 : (s : Int) / 32 = (q : Int) := by omega
  have e2 : (s : Int) % 32 = (r : Int) := by omega
  have HSQ := Lib.hid hsq
  clear hs hsn hq hr hsq
  go_enter Try.func38, Try.ntmps38
  go_wp2_with fail
  rw [← HS.out]
  refine (cut_any ad _ cap xs _ rfl r1 ox (by omega) c1 n1).mono ?_
  rintro e w' ⟨rfl, hw⟩
  have hw := hw.symm; subst hw
  rw [HX.out] at rX dx ⊢
  obtain ⟨d, hd⟩ : ∃ d, d = dl B32 N := ⟨_, rfl⟩
  have htop := shr_top (N := N) (q := q) (r := r)
  rw [← HSQ.out, ← hd] at htop
  rw [← hd] at dx ⊢
  have HT := Lib.hid htop; clear htop
  have HD := Lib.hid hd; clear hd
  by_cases hge : d ≤ q
  · have hz : N / 2 ^ s = 0 := by
      have := HT.out
      rw [show d - q = 0 from by omega] at this
      exact Nat.lt_one_iff.1 this
    have HZ := Lib.hid hz; clear hz
    clear rX r1
    go_wp2
    go_ret
    refine ⟨_, rfl, ?_, Below.refl _ _⟩
    rw [HZ.out]
    exact ⟨none, 0, by rw [dg_zero]; rfl, by rw [dg_zero]; exact Rd.nil _ _ _, by simp [dg_zero], by unfold maxLen; omega, by simp [dg_zero], fun _ => rfl⟩
  · obtain ⟨m, hm⟩ : ∃ m : Nat, d = q + m := ⟨d - q, by omega⟩
    have em : (d : Int) - (q : Int) = (m : Int) := by omega
    have hmp : 0 < m := by omega
    have HM := Lib.hid hm
    have hmd : m ≤ d := by omega
    have hmq : m + q ≤ d := by omega
    have hmq2 : d ≤ m + q := by omega
    clear hm
    go_wp2_with (at_make; refine wpList_make_full _ rfl _ _ 27 rfl w.heap.size 65 i0 (.int .u32 0) 1 Try.underlying27 hi hz0 hz1 .i64 .i64 _ _ m rfl rfl (by omega) (by omega) (by rw [hz2]; omega) (by unfold maxLen; omega) (Nat.le_refl _) ?_)
    intro w1 hown hgrow
    have hrow := Row.of_made hown
    have hb1 : Below w.heap.size w w1 := (Below.refl _ _).grown hgrow (Nat.le_refl _) (fun k h => by cases h)
    clear hown hgrow
    obtain ⟨g, hg⟩ : ∃ g, g = w.heap.size := ⟨_, rfl⟩
    rw [← hg] at hrow
    rw [← hg]
    have HG := Lib.hid hg; clear hg
    go_wp2
    go_loopw [29] (fun i wr => ShrInv w g m (N / 2 ^ s) i wr) (fun i _ => m - (intOf i).toNat)
    case atStart => exact ⟨0, _, Nat.zero_le _, rfl, by simp, okb_replicate B32_pos _, hrow.rebase (Nat.le_of_eq HG.out.symm), hb1, fun j hj => absurd hj (by omega)⟩
    case round =>
      obtain ⟨k, zs, hk, rfl, hzl, hzo, hro, hbe, hdig⟩ := hrel
      have HDG := Lib.hid hdig; clear hdig
      have HZL := Lib.hid hzl
      by_cases hlt : k < m
      · have hX := (rX.below hbe).get (by rw [length_dg, ← HD.out]; omega)
        obtain ⟨b, off, ha, hbs, hcx⟩ := hX
        have hcx := hcx (k + q) (by rw [length_dg, ← HD.out]; omega)
        have hbb : b < g := by
          obtain ⟨b', off', ha', hb', _⟩ := rX.get (by rw [length_dg, ← HD.out]; omega)
          rw [ha] at ha'; simp at ha'; rw [HG.out]; omega
        have rX' := rX.below hbe
        subst ha
        have hcs := hro.cell (j := k) (by omega)
        have hfr := hro.free k
        have lx : lg (dg B32 N) (k + q) < 4294967296 := lg_lt (okb_dg B32_two N) B32_pos (k + q)
        have ly : lg (dg B32 N) (k + q + 1) < 4294967296 := lg_lt (okb_dg B32_two N) B32_pos (k + q + 1)
        have ho := or_low64 _ _ ly lx
        have HO := Lib.hid ho; clear ho
        have HRO := Lib.hid hro; have HBE := Lib.hid hbe
        clear rX hzl hro hbe hb1 hrow
        go_upto_region 10 with fail
        go_quiet ((go_at_call 87; exact Calls.quiet_of_same (at_any _ _ _ (dg B32 N) (k + q + 1) _ (by rw [length_dg]; exact HD.out) (rX'.drewN _) (by rw [length_dg, ← HD.out]; omega) (by omega))))
        go_wp2
        go_roundw
        case rel =>
          have hdv := shr_digit (N := N) (q := q) (r := r) (i := k) hr32
          rw [← HSQ.out] at hdv
          have hval : bits BinOp.or IntKind.u64 (((lg (dg B32 N) (k + q + 1) : Nat) : Int) * 4294967296) ((lg (dg B32 N) (k + q) : Nat) : Int) / 2 ^ r % 4294967296 = ((lg (dg B32 (N / 2 ^ s)) k : Nat) : Int) := by
            rw [HO.out, ← hdv, cast_shr]
          have hrow2 := (HRO.out.set k (lg (dg B32 (N / 2 ^ s)) k))
          rw [← hval] at hrow2
          refine ⟨k + 1, zs.set k (lg (dg B32 (N / 2 ^ s)) k), by omega, by go_num, by simp; exact HZL.out, okb_set hzo (lg_lt (okb_dg B32_two _) B32_pos _), ?_, ?_, ?_⟩
          · exact hrow2.drewN nq
          · exact below_draws (HBE.out.setCell (p := ⟨g, k, none⟩) (Nat.le_of_eq HG.out.symm) _) nq
          · intro j hj
            by_cases e : j = k
            · subst e; rw [lg_set_same _ (by rw [HZL.out]; exact hlt)]
            · rw [lg_set_other _ (by omega)]; exact HDG.out j (by omega)
        case measure => simp [intOf]; omega
      · obtain rfl : k = m := by omega
        have hle2 : dl B32 (N / 2 ^ s) ≤ k := by
          have h := HT.out
          rw [show d - q = k from by omega] at h
          exact dl_le B32_two h
        have hvv : vl B32 zs = N / 2 ^ s := by
          rw [← vl_dg B32_two (N / 2 ^ s)]
          exact vl_congr B32 (fun j => by
            by_cases hj : j < k
            · exact HDG.out j hj
            · rw [lg_out (by omega), lg_out (by rw [length_dg]; omega)])
        have HVV := Lib.hid hvv
        clear hvv rX hb1 hrow
        go_wp2_with fail
        refine (cut_any _ _ _ zs _ (by rw [hzl]) hro.rd hzo (by omega) (by omega) (fun h => by cases h)).mono ?_
        rintro e w2 ⟨rfl, hw⟩
        have hw := hw.symm; subst hw
        have hrd := hro.rd.dg hzo
        have hle := dl_vl_le B32_two hzo
        rw [HVV.out] at hrd hle ⊢
        go_wp2
        go_ret
        exact ⟨_, rfl, ⟨_, _, rfl, hrd, by rw [length_dg]; omega, by unfold maxLen; omega, by rw [length_dg]; omega, fun h => by cases h⟩, hbe⟩
end Go.Proofs.Ytbjgcnhilakimaa
