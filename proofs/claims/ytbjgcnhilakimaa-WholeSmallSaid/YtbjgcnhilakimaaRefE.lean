import Derived.Test.YtbjgcnhilakimaaRefD
namespace Go.Proofs.Ytbjgcnhilakimaa
open Go.RowKit
set_option maxRecDepth 100000

def RsubInv (w : World) (d N M : Nat) (o c i : Value) (wr : World) : Prop :=
  ∃ (k cc : Nat) (L : List Nat), k ≤ d ∧ i = .int .i64 k ∧ c = .int .i64 cc ∧ cc ≤ 1 ∧ L.length = k ∧ okb 2 L ∧ Acc wr .i64 3 w.heap.size o L ∧ Below w.heap.size w wr ∧
    vl 2 L + vl 2 ((dg 2 M).take k) = vl 2 ((dg 2 N).take k) + cc * 2 ^ k

theorem sub_last2 {d cc Z X Y : Nat} (h : Z + Y = X + cc * 2 ^ d) (hz : Z < 2 ^ d) (hcc : cc ≤ 1) (hle : Y ≤ X) : Z = X - Y := by
  by_cases hc : cc = 0
  · subst hc; omega
  · obtain rfl : cc = 1 := by omega
    omega

set_option maxHeartbeats 1000000 in
theorem rsub_any (v1 v2 : Value) (N M : Nat) (w : World) (h1 : Dg w .i64 2 v1 N) (h2 : Dg w .i64 2 v2 M) (hle : M ≤ N) :
    Calls Try.prog 33 #[v1, v2] w (DbPost w (N - M)) := by
  obtain ⟨ad1, cap1, rfl, r1, c1, m1, l1, n1⟩ := h1
  obtain ⟨ad2, cap2, rfl, r2, c2, m2, l2, n2⟩ := h2
  rw [length_dg] at l1 l2 c1 c2 ⊢
  rw [length_dg]
  obtain ⟨i0, hi, hz0, hz1, hz2⟩ := info_parts Try.info3
  have hdd := dl_mono (b := 2) (by omega) hle
  have HLE := Lib.hid hle; clear hle
  obtain ⟨d1, hd1⟩ : ∃ d1 : Nat, d1 = dl 2 N := ⟨_, rfl⟩
  obtain ⟨d2, hd2⟩ : ∃ d2 : Nat, d2 = dl 2 M := ⟨_, rfl⟩
  rw [← hd1] at c1 l1 hdd ⊢
  rw [← hd2] at c2 l2 hdd ⊢
  have HD1 := Lib.hid hd1; have HD2 := Lib.hid hd2
  clear hd1 hd2
  go_enter Try.func33, Try.ntmps33
  go_wp2
  go_loopw [5, 6, 12] (fun o c i wr => RsubInv w d1 N M o c i wr) (fun _ _ i _ => d1 - (intOf i).toNat)
  case atStart => exact ⟨0, 0, [], by omega, rfl, rfl, by omega, rfl, okb_nil 2, Acc.empty w .i64 3 w.heap.size (Nat.le_refl _), (Below.refl _ _).alloc (Nat.le_refl _) _, by simp [vl]⟩
  case round =>
    obtain ⟨k, cc, L, hk, rfl, rfl, hcc, hlen, hok, hacc, hbe, hmath⟩ := hrel
    have HM := Lib.hid hmath; have HLN := Lib.hid hlen
    have hll : L.length ≤ 2199023255552 := by omega
    clear hmath hlen
    have x1 := lg_lt (okb_dg (b := 2) (by omega) N) (by omega) k
    have x2 := lg_lt (okb_dg (b := 2) (by omega) M) (by omega) k
    by_cases hlt : k < d1
    · by_cases hneg : lg (dg 2 N) k < lg (dg 2 M) k + cc
      · obtain ⟨r, hr⟩ : ∃ r : Nat, r = lg (dg 2 N) k + 2 - lg (dg 2 M) k - cc := ⟨_, rfl⟩
        have er : (lg (dg 2 N) k : Int) - (lg (dg 2 M) k : Int) - (cc : Int) + 2 = (r : Int) := by omega
        have hr2 : r < 2 := by omega
        have hstep := Lib.hid (sub_step (x := lg (dg 2 N) k) (y := lg (dg 2 M) k) (r := r) (c' := 1) HM.out (by omega))
        have ER := Lib.hid er
        clear hr er
        go_wp2_with fail
        refine (rat_any ad1 _ cap1 (dg 2 N) k _ (by rw [length_dg]; exact HD1.out) (r1.below hbe) (by rw [length_dg, ← HD1.out]; omega) (by omega)).mono ?_
        rintro e w1 ⟨rfl, hw⟩
        have hw := hw.symm; subst hw
        go_wp2_with fail
        refine (rat_any ad2 _ cap2 (dg 2 M) k _ (by rw [length_dg]; exact HD2.out) (r2.below hbe) (by rw [length_dg, ← HD2.out]; omega) (by omega)).mono ?_
        rintro e w1 ⟨rfl, hw⟩
        have hw := hw.symm; subst hw
        go_wp2_with (at_builtin; refine wp_acc wr rfl _ _ 25 rfl .i64 3 i0 8 Try.underlying25 hi hz0 hz1 hz2 (by decide) w.heap.size _ L hacc rfl _ r ?_ rfl hll hbe.size ?_)
        · exact ER.out
        · intro v' w' hacc2 hbel2
          clear hacc
          go_wp2
          go_roundw
          case rel => exact ⟨k + 1, 1, L ++ [r], by omega, by go_num, rfl, by omega, by simp; exact HLN.out, okb_append hok (okb_one hr2), hacc2, hbe.trans hbel2, by rw [vl_snoc, HLN.out, vl_take_succ, vl_take_succ]; exact hstep.out⟩
          case measure => simp [intOf]; omega
      · obtain ⟨r, hr⟩ : ∃ r : Nat, r = lg (dg 2 N) k - lg (dg 2 M) k - cc := ⟨_, rfl⟩
        have er : (lg (dg 2 N) k : Int) - (lg (dg 2 M) k : Int) - (cc : Int) = (r : Int) := by omega
        have hr2 : r < 2 := by omega
        have hstep := Lib.hid (sub_step (x := lg (dg 2 N) k) (y := lg (dg 2 M) k) (r := r) (c' := 0) HM.out (by omega))
        have ER := Lib.hid er
        clear hr er
        go_wp2_with fail
        refine (rat_any ad1 _ cap1 (dg 2 N) k _ (by rw [length_dg]; exact HD1.out) (r1.below hbe) (by rw [length_dg, ← HD1.out]; omega) (by omega)).mono ?_
        rintro e w1 ⟨rfl, hw⟩
        have hw := hw.symm; subst hw
        go_wp2_with fail
        refine (rat_any ad2 _ cap2 (dg 2 M) k _ (by rw [length_dg]; exact HD2.out) (r2.below hbe) (by rw [length_dg, ← HD2.out]; omega) (by omega)).mono ?_
        rintro e w1 ⟨rfl, hw⟩
        have hw := hw.symm; subst hw
        go_wp2_with (at_builtin; refine wp_acc wr rfl _ _ 25 rfl .i64 3 i0 8 Try.underlying25 hi hz0 hz1 hz2 (by decide) w.heap.size _ L hacc rfl _ r ?_ rfl hll hbe.size ?_)
        · exact ER.out
        · intro v' w' hacc2 hbel2
          clear hacc
          go_wp2
          go_roundw
          case rel => exact ⟨k + 1, 0, L ++ [r], by omega, by go_num, rfl, by omega, by simp; exact HLN.out, okb_append hok (okb_one hr2), hacc2, hbe.trans hbel2, by rw [vl_snoc, HLN.out, vl_take_succ, vl_take_succ]; exact hstep.out⟩
          case measure => simp [intOf]; omega
    · have hkd : k = d1 := by omega
      have hsub : vl 2 L = N - M := by
        have hm := HM.out
        rw [vl_take_all (by rw [length_dg, ← HD2.out]; omega), vl_take_all (by rw [length_dg, ← HD1.out]; omega), vl_dg (by omega), vl_dg (by omega)] at hm
        have hz := vl_lt hok
        rw [HLN.out] at hz
        exact sub_last2 hm hz hcc HLE.out
      have HS := Lib.hid hsub
      have hsq := hacc.sq (by rw [HLN.out]; omega)
      have hl4 : L.length ≤ 1099511627776 := by rw [HLN.out]; omega
      clear hacc hsub r1 r2 hkd
      go_wp2_with fail
      obtain ⟨ad3, cap3, hv3, hrd, hc3, hm3, hl3, hn3⟩ := hsq
      rw [hv3]
      refine (rtrim_any 2 (by omega) _ _ _ L _ rfl hrd hok (by omega) hc3 hn3).mono ?_
      rintro e w1 ⟨rfl, hw⟩
      have hw := hw.symm; subst hw
      rw [HS.out]
      have hend := trim_end (w := w) hok HS.out hrd hc3 hm3 hl4 hn3 hbe rfl
      clear hv3
      go_wp2
      go_ret
      exact hend

def RshlInv (w : World) (m : Nat) (o i : Value) (wr : World) : Prop :=
  ∃ k : Nat, k ≤ m ∧ i = .int .i64 k ∧ Acc wr .i64 3 w.heap.size o (List.replicate k 0) ∧ Below w.heap.size w wr

theorem dg_shl {N m : Nat} (hN : 0 < N) : List.replicate m 0 ++ dg 2 N = dg 2 (N * 2 ^ m) := by
  have ho : okb 2 (List.replicate m 0 ++ dg 2 N) := okb_append (okb_replicate (by omega) m) (okb_dg (by omega) N)
  have hz : ∀ j, lg (List.replicate m 0) j = 0 := fun j => by unfold lg; simp [List.getD, List.getElem?_replicate]; split <;> rfl
  have hv : vl 2 (List.replicate m 0 ++ dg 2 N) = N * 2 ^ m := by
    rw [vl_append, vl_dg (by omega), show vl 2 (List.replicate m 0) = vl 2 [] from vl_congr 2 (fun j => by rw [hz, lg_nil])]
    simp [vl, Nat.mul_comm]
  have hn : norm (List.replicate m 0 ++ dg 2 N) := by
    intro _
    have hp := dl_pos (b := 2) (by omega) hN
    have hnd := norm_dg (b := 2) (by omega) N hp
    rw [List.length_append, List.length_replicate, lg_append_right (by simp; rw [length_dg]; omega), List.length_replicate]
    rw [length_dg] at hnd ⊢
    rw [show m + dl 2 N - 1 - m = dl 2 N - 1 from by omega]
    exact hnd
  rw [← hv]
  exact (dg_unique (by omega) ho hn).symm

set_option maxHeartbeats 1000000 in
theorem rshl_any (v1 : Value) (N m : Nat) (w : World) (h1 : Dg w .i64 2 v1 N) (hm : m ≤ 1048576) (hdl : dl 2 N ≤ 1099510579200) :
    Calls Try.prog 37 #[v1, .int .i64 m] w (DbPost w (N * 2 ^ m)) := by
  obtain ⟨ad1, cap1, rfl, r1, c1, m1, l1, n1⟩ := h1
  rw [length_dg] at l1 c1 ⊢
  obtain ⟨i0, hi, hz0, hz1, hz2⟩ := info_parts Try.info3
  by_cases hN : 0 < N
  · have hp := dl_pos (b := 2) (by omega) hN
    have HG := Lib.hid (dg_shl (m := m) hN)
    have hlen : dl 2 (N * 2 ^ m) = m + dl 2 N := by unfold dl; rw [← HG.out]; simp
    have HLE := Lib.hid hlen
    obtain ⟨b, off, rfl, hb, hc⟩ := r1.get (by rw [length_dg]; exact hp)
    clear hlen hN hc
    go_enter Try.func37, Try.ntmps37
    go_wp2
    go_loopw [5, 6] (fun o i wr => RshlInv w m o i wr) (fun _ i _ => m - (intOf i).toNat)
    case atStart => exact ⟨0, Nat.zero_le _, rfl, Acc.empty w .i64 3 w.heap.size (Nat.le_refl _), (Below.refl _ _).alloc (Nat.le_refl _) _⟩
    case round =>
      obtain ⟨k, hk, rfl, hacc, hbe⟩ := hrel
      by_cases hlt : k < m
      · go_wp2_with (at_builtin; refine wp_acc wr rfl _ _ 25 rfl .i64 3 i0 8 Try.underlying25 hi hz0 hz1 hz2 (by decide) w.heap.size _ (List.replicate k 0) hacc rfl _ 0 rfl rfl ?_ hbe.size ?_)
        · simp; omega
        · intro v' w' hacc2 hbel2
          clear hacc
          go_wp2
          go_roundw
          case rel => exact ⟨k + 1, by omega, by go_num, by rw [show List.replicate (k + 1) 0 = List.replicate k 0 ++ [0] from List.replicate_succ']; exact hacc2, hbe.trans hbel2⟩
          case measure => simp [intOf]; omega
      · obtain rfl : k = m := by omega
        go_wp2_with (at_builtin; refine wp_accs wr rfl _ _ 25 rfl .i64 3 i0 8 Try.underlying25 hi hz0 hz1 hz2 (by decide) w.heap.size _ (List.replicate k 0) hacc rfl _ (dl 2 N) cap1 (dg 2 N) rfl rfl (r1.below hbe) ?_ ?_ hbe.size ?_)
        · simp; omega
        · rw [length_dg]; omega
        · intro v' w' hacc2 hbel2 _
          rw [HG.out] at hacc2
          have hsq := hacc2.sq (by rw [length_dg, HLE.out]; omega)
          clear hacc hacc2
          go_wp2
          go_ret
          exact ⟨_, rfl, hsq, hbe.trans hbel2⟩
  · have h0 : N = 0 := by omega
    subst h0
    rw [Nat.zero_mul]
    rw [dl_zero]
    cases ad1 with
    | none =>
      have hc0 := n1 rfl
      subst hc0
      go_enter Try.func37, Try.ntmps37
      go_wp2_with fail
      refine wp_loop_rounds 1 ?_
      rw [rounds_succ]
      by_cases hm0 : 0 < m
      all_goals
        go_wp2_with (at_builtin; refine wpList_append_own_none rfl _ _ 25 rfl w.heap.size 3 i0 1 Try.underlying25 hi _ 0 [] rfl (Acc.empty w .i64 3 w.heap.size (Nat.le_refl _)).own rfl ?_)
        go_wp2
        go_ret
        exact ⟨_, rfl, Dg.zero _ _ _ _ (by unfold maxLen; omega) (fun h => by cases h), (Below.refl _ _).alloc (Nat.le_refl _) _⟩
    | some a =>
      go_enter Try.func37, Try.ntmps37
      go_wp2_with fail
      refine wp_loop_rounds 1 ?_
      rw [rounds_succ]
      by_cases hm0 : 0 < m
      all_goals
        go_wp2_with (at_builtin; refine wp_accs _ rfl _ _ 25 rfl .i64 3 i0 8 Try.underlying25 hi hz0 hz1 hz2 (by decide) w.heap.size _ [] (Acc.empty w .i64 3 w.heap.size (Nat.le_refl _)) rfl a 0 cap1 [] rfl rfl (Rd.nil _ _ _) (by simp) (by simp) (by simp) ?_)
        intro v' w' hacc2 hbel2 _
        have hsq := hacc2.sq (by simp)
        clear hacc2
        go_wp2
        go_ret
        refine ⟨_, rfl, ?_, ((Below.refl _ _).alloc (Nat.le_refl _) _).trans hbel2⟩
        unfold Dg
        rw [dg_zero]
        exact hsq

theorem dg_shr (N m : Nat) : (dg 2 N).drop m = dg 2 (N / 2 ^ m) := by
  have ho : okb 2 ((dg 2 N).drop m) := okb_drop (okb_dg (by omega) N) m
  have hv : vl 2 ((dg 2 N).drop m) = N / 2 ^ m := by rw [vl_drop (okb_dg (by omega) N) m (by omega), vl_dg (by omega)]
  have hn : norm ((dg 2 N).drop m) := by
    intro hp
    simp [length_dg] at hp
    rw [lg_drop, List.length_drop, length_dg]
    have hnd := norm_dg (b := 2) (by omega) N (by rw [length_dg]; omega)
    rw [length_dg] at hnd
    rw [show m + (dl 2 N - m - 1) = dl 2 N - 1 from by omega]
    exact hnd
  rw [← hv]
  exact (dg_unique (by omega) ho hn).symm

theorem Rd.drop {w : World} {k : IntKind} {b off : Nat} {xs : List Nat} (h : Rd w k (some ⟨b, off, none⟩) xs) (n : Nat) : Rd w k (some ⟨b, off + n, none⟩) (xs.drop n) := by
  refine ⟨fun i hi => ?_⟩
  simp at hi
  obtain ⟨b', off', ha, hlt, hc⟩ := h.cell (n + i) (by omega)
  simp at ha
  obtain ⟨rfl, rfl⟩ := ha
  exact ⟨b, off + n, rfl, hlt, by rw [lg_drop, Nat.add_assoc]; exact hc⟩

set_option maxHeartbeats 1000000 in
theorem rshr_any (v1 : Value) (N m : Nat) (w : World) (h1 : Dg w .i64 2 v1 N) (hm : m ≤ 9223372036854775807) :
    Calls Try.prog 39 #[v1, .int .i64 m] w (DbPost w (N / 2 ^ m)) := by
  obtain ⟨ad1, cap1, rfl, r1, c1, m1, l1, n1⟩ := h1
  have HG := Lib.hid (dg_shr N m)
  rw [length_dg] at l1 c1 ⊢
  obtain ⟨i0, hi, hz0, hz1, hz2⟩ := info_parts Try.info3
  by_cases hge : dl 2 N ≤ m
  · have hz : N / 2 ^ m = 0 := Nat.div_eq_of_lt (Nat.lt_of_lt_of_le (lt_dl (by omega) N) (Nat.pow_le_pow_right (by omega) hge))
    have HZ := Lib.hid hz; clear hz r1
    go_enter Try.func39, Try.ntmps39
    go_wp2
    go_ret
    exact ⟨_, rfl, by rw [HZ.out]; exact Dg.zero _ _ _ _ (by unfold maxLen; omega) (fun h => by cases h), (Below.refl _ _).alloc (Nat.le_refl _) _⟩
  · obtain ⟨b, off, rfl, hb, hc⟩ := r1.get (by rw [length_dg]; omega)
    have hdr := r1.drop m
    have hlt : m < dl 2 N := by omega
    have hlc : m < cap1 := by omega
    clear hc hge
    go_enter Try.func39, Try.ntmps39
    go_wp2_with (at_builtin; refine wp_accs _ rfl _ _ 25 rfl .i64 3 i0 8 Try.underlying25 hi hz0 hz1 hz2 (by decide) w.heap.size _ [] (Acc.empty w .i64 3 w.heap.size (Nat.le_refl _)) rfl ⟨b, off + m, none⟩ (dl 2 N - m) _ ((dg 2 N).drop m) ?_ rfl (hdr.below ((Below.refl _ _).alloc (Nat.le_refl _) _)) (by simp) ?_ (by simp) ?_)
    · rw [List.length_drop, length_dg]
    · rw [List.length_drop, length_dg]; omega
    · intro v' w' hacc2 hbel2 _
      rw [HG.out] at hacc2
      have hsq := hacc2.sq (by rw [← HG.out, List.length_drop, length_dg]; omega)
      clear hacc2
      go_wp2
      go_ret
      exact ⟨_, rfl, hsq, ((Below.refl _ _).alloc (Nat.le_refl _) _).trans hbel2⟩
end Go.Proofs.Ytbjgcnhilakimaa
