import Derived.Test.YtnkdjldieegpjaaLawE
namespace Go.Proofs.Ytnkdjldieegpjaa
open Go.RowKit

def bitAt (N : Nat) (i : Int) : Nat := if i < 0 then 0 else lg (dg 2 N) i.toNat
theorem bitAt_lt (N : Nat) (i : Int) : bitAt N i < 2 := by
  unfold bitAt; split
  · omega
  · exact lg_lt (okb_dg (by omega) N) (by omega) _

set_option maxHeartbeats 400000 in
theorem rat_int (ad : Option Addr) (n cap : Nat) (N : Nat) (i : Int) (w : World) (hn : n = dl 2 N) (hr : Rd w .i64 ad (dg 2 N)) (hl : n ≤ 1099511627777) (hi : i ≤ 9223372036854775807) :
    Calls Try.prog 55 #[.slice ad n cap, .int .i64 i] w fun e w' => e = .returned (.int .i64 (bitAt N i : Nat)) ∧ w' = w := by
  by_cases hneg : i < 0
  · have hb : bitAt N i = 0 := by unfold bitAt; rw [if_pos hneg]
    rw [hb]
    clear hb
    go_enter Try.func55, Try.ntmps55
    go_wp2
    go_ret
    exact ⟨rfl, rfl⟩
  · obtain ⟨m, rfl⟩ : ∃ m : Nat, i = (m : Int) := ⟨i.toNat, by omega⟩
    have hb : bitAt N m = lg (dg 2 N) m := by unfold bitAt; rw [if_neg (by omega)]; rfl
    rw [hb]
    clear hb hneg
    have HN := Lib.hid hn
    by_cases h : m < n
    · obtain ⟨b, off, rfl, hbs, hc⟩ := hr.get (by rw [length_dg, ← hn]; omega)
      have hc := hc m (by rw [length_dg, ← hn]; exact h)
      clear hr hn
      go_enter Try.func55, Try.ntmps55
      go_wp2
      go_ret
      exact ⟨rfl, rfl⟩
    · clear hn
      go_enter Try.func55, Try.ntmps55
      go_wp2
      go_ret
      exact ⟨by rw [lg_out (by rw [length_dg, ← HN.out]; omega)]; rfl, rfl⟩
set_option maxHeartbeats 400000 in
theorem rbit_int (ad : Option Addr) (n cap : Nat) (N : Nat) (i : Int) (w : World) (hn : n = dl 2 N) (hr : Rd w .i64 ad (dg 2 N)) (hl : n ≤ 1099511627777) (hi : i ≤ 9223372036854775807) :
    Calls Try.prog 34 #[.slice ad n cap, .int .i64 i] w fun e w' => e = .returned (.int .i64 (bitAt N i : Nat)) ∧ w' = w := by
  have K := Lib.hid (rat_int ad n cap N i w hn hr hl hi)
  clear hn hr
  go_enter Try.func34, Try.ntmps34
  go_wp2_with fail
  refine K.out.mono ?_
  rintro e w2 ⟨rfl, hw⟩
  have hw := hw.symm; subst hw
  go_wp2
  go_ret
  exact ⟨rfl, rfl⟩

theorem field64 (N j : Nat) : N / 2 ^ j % 2 ^ (64 - j + 1) = 2 * (N / 2 ^ (j + 1) % 2 ^ (64 - j)) + lg (dg 2 N) j := by
  rw [field_step, lg_dg (by omega)]
theorem small64 {N : Nat} (h : dl 2 N ≤ 64) : N % 2 ^ 64 = N :=
  Nat.mod_eq_of_lt (Nat.lt_of_lt_of_le (lt_dl (by omega) N) (Nat.pow_le_pow_right (by omega) h))

set_option maxHeartbeats 4000000 in
set_option maxRecDepth 100000 in
theorem natNumbers_walk (n : Nat) (a0 : Option Addr) (n0 c0 : Nat) (x0 : List Nat) (i : Int) (w : World) (hn : n < 18446744073709551616) (hi : i ≤ 9223372036854775807)
    (e0 : n0 = x0.length) (r0 : Rd w .u32 a0 x0) (o0 : okb B32 x0) (l0 : x0.length ≤ c0) (m0 : c0 ≤ maxLen) (z0 : a0 = none → c0 = 0) :
    Calls Try.prog 5 #[.int .u64 n, .slice a0 n0 c0, .int .i64 i] w (TruePost w) := by
  have E0 := Lib.hid e0
  clear e0
  have T0 := Lib.hid (take_take_self x0 6)
  have ox := okb_take o0 6
  have lx : (x0.take 6).length ≤ 6 := by simp; omega
  have hn2 : dl 2 n ≤ 64 := dl_le (by omega) (Nat.lt_of_lt_of_le hn (by decide))
  have HN := Lib.hid hn
  clear hn
  go_enter Try.func5, Try.ntmps5
  go_wp2_with fail
  refine (few_in a0 _ c0 x0 6 _ E0.out r0 l0 m0 z0 (by omega)).mono ?_
  rintro e wa ⟨x, rfl, sx, ba⟩
  clear r0 E0 z0 l0 m0 o0
  go_wp2_with fail
  refine (awake_any _).mono ?_
  rintro e wc ⟨rfl, bc⟩
  have ac := below_to ba bc
  have sx := sx.below bc
  clear ba bc
  go_wp2_with fail
  refine (few_sq x (x0.take 6) 6 wc sx (by omega)).mono ?_
  rintro e wf ⟨p, rfl, sp, bf⟩
  rw [T0.out] at sp
  have af := below_to ac bf
  have sx := sx.below bf
  clear ac bf T0
  go_wp2_with fail
  refine (rbits_sq x (x0.take 6) wf sx ox (by omega)).mono ?_
  rintro e wd ⟨a, rfl, da, bd⟩
  have ad := below_to af bd
  have sp := sp.below bd
  clear af bd sx
  generalize x0.take 6 = xs at *
  obtain ⟨P, hP⟩ : ∃ P, P = vl B32 xs := ⟨_, rfl⟩
  rw [← hP] at da
  have hp : Nt wd p P := by rw [hP]; exact sp.nt ox
  have bp : P < B32 ^ 6 := by rw [hP]; exact Nat.lt_of_lt_of_le (vl_lt ox) (Nat.pow_le_pow_right B32_pos lx)
  have d2 := dl2_small bp (by omega)
  clear hP sp bp lx ox
  go_wp2_with fail
  refine (of_any n _ HN.out).mono ?_
  rintro e we ⟨v1, rfl, d1, be⟩
  have ae := below_to ad be
  have hp := hp.below be; have da := da.below be
  clear ad be
  go_wp2_with fail
  have kc := uint_any v1 n we d1.nt
  unfold UintPost at kc
  rw [if_pos hn2, show decide (dl 2 n ≤ 64) = true from by simpa using hn2] at kc
  refine kc.mono ?_
  rintro e w2 ⟨rfl, hw⟩
  have hw := hw.symm; subst hw
  clear kc d1
  obtain ⟨ada, capa, rfl, rda, ca, ma, la, na⟩ := da
  rw [length_dg] at ca la ⊢
  obtain ⟨d, hd⟩ : ∃ d, d = dl 2 P := ⟨_, rfl⟩
  rw [← hd] at ca la d2 ⊢
  have HD := Lib.hid hd
  clear hd
  have hex : ∃ (kv : Nat) (sm : Bool), UintPost P we = (fun e w' => e = .returned (.tuple #[.int .u64 kv, .bool sm]) ∧ w' = we) ∧ ((d ≤ 64 ∧ sm = true ∧ kv = P % 2 ^ 64) ∨ (64 < d ∧ sm = false ∧ kv = 0)) := by
    unfold UintPost
    by_cases hs : dl 2 P ≤ 64
    · exact ⟨P, true, by rw [if_pos hs, show decide (dl 2 P ≤ 64) = true from by simpa using hs], Or.inl ⟨by rw [HD.out]; exact hs, rfl, (small64 hs).symm⟩⟩
    · exact ⟨0, false, by rw [if_neg hs, show decide (dl 2 P ≤ 64) = false from by simpa using hs], Or.inr ⟨by rw [HD.out]; omega, rfl, rfl⟩⟩
  obtain ⟨kv, sm, hpost, hsm⟩ := hex
  have kc := uint_any p P we hp
  rw [hpost] at kc
  have KC := Lib.hid kc
  have HSM := Lib.hid hsm
  clear hpost kc hsm
  go_wp2_with fail
  refine KC.out.mono ?_
  rintro e w2 ⟨rfl, hw⟩
  have hw := hw.symm; subst hw
  clear KC
  go_wp2_with fail
  go_loop [13, 14] (fun y k => ∃ t z : Nat, t ≤ 64 ∧ k = .int .i64 ((t : Int) - 1) ∧ y = .int .u64 z ∧ z = P / 2 ^ t % 2 ^ (64 - t)) (fun _ k => (intOf k + 1).toNat)
  case atStart => exact ⟨64, 0, by omega, rfl, rfl, by simp [Nat.mod_one]⟩
  case round =>
    obtain ⟨t, z, ht, rfl, rfl, hz⟩ := hrel
    by_cases hpos : 0 < t
    · obtain ⟨s, rfl⟩ : ∃ s, t = s + 1 := ⟨t - 1, by omega⟩
      rw [show ((s + 1 : Nat) : Int) - 1 = (s : Int) from by omega]
      have hf := field64 P s
      have hzb : z < 9223372036854775808 := by
        have h1 : z < 2 ^ (64 - (s + 1)) := by rw [hz]; exact Nat.mod_lt _ (Nat.pow_pos (by omega))
        have h2 : (2 : Nat) ^ (64 - (s + 1)) ≤ 2 ^ 63 := Nat.pow_le_pow_right (by omega) (by omega)
        exact Nat.lt_of_lt_of_le h1 h2
      have HZ := Lib.hid hz
      have hb := bitAt_lt P (s : Int)
      have hbe : bitAt P (s : Int) = lg (dg 2 P) s := by unfold bitAt; rw [if_neg (by omega)]; rfl
      have HBE := Lib.hid hbe
      have HF := Lib.hid hf
      clear hz hf hbe
      go_wp2_with fail
      refine (rbit_int ada d capa P (s : Int) _ HD.out rda (by omega) (by omega)).mono ?_
      rintro e w2 ⟨rfl, hw⟩
      have hw := hw.symm; subst hw
      go_wp2
      go_round
      case rel =>
        refine ⟨s, 2 * z + bitAt P (s : Int), by omega, by go_num, by go_num, ?_⟩
        have h1 := HF.out
        have h2 := HZ.out
        have h3 := field_step P s (64 - (s + 1))
        rw [show 64 - (s + 1) + 1 = 64 - s from by omega, ← lg_dg (b := 2) (by omega), ← h2] at h3
        rw [h3, HBE.out]
      case measure => simp [intOf]
    · obtain rfl : t = 0 := by omega
      have hz64 : z = P % 2 ^ 64 := by simpa using hz
      have HZ := Lib.hid hz64
      clear hz hz64
      rcases HSM.out with ⟨q1, q2, q3⟩ | ⟨q1, q2, q3⟩
      · have hkz2 : kv = z := by rw [q3, HZ.out]
        subst q2
        clear q3 HSM
        subst hkz2
        go_wp2_with fail
        have kb := bits_any p P we hp
        rw [← HD.out] at kb
        refine kb.mono ?_
        rintro e w2 ⟨rfl, hw⟩
        have hw := hw.symm; subst hw
        clear kb
        go_wp2_with fail
        refine (bit_any p P i we hp hi).mono ?_
        rw [show (if i < 0 then 0 else lg (dg 2 P) i.toNat : Nat) = bitAt P i from rfl]
        rintro e w2 ⟨rfl, hw⟩
        have hw := hw.symm; subst hw
        go_wp2_with fail
        refine (rbit_int ada d capa P i _ HD.out rda (by omega) hi).mono ?_
        rintro e w2 ⟨rfl, hw⟩
        have hw := hw.symm; subst hw
        have N2 := Lib.hid (Nat.le_trans (dl_le B32_two (k := 2) (show n < B32 ^ 2 from Nat.lt_of_lt_of_le HN.out (by decide))) (show 2 ≤ 1000 by omega))
        have CS := Lib.hid (c3_self n)
        clear hp rda
        go_wp2_with fail
        refine (of_any n _ HN.out).mono ?_
        rintro e wg ⟨v2, rfl, d2', bg⟩
        have ag := below_to ae bg
        clear ae bg
        go_wp2_with fail
        refine (trim_dg v2 n wg d2'.nt N2.out).mono ?_
        rintro e wh ⟨v3, rfl, d3, bh⟩
        have ah := below_to ag bh
        clear ag bh d2'
        go_wp2_with fail
        refine (of_any n _ HN.out).mono ?_
        rintro e wi ⟨v4, rfl, d4, bi⟩
        have ai := below_to ah bi
        have d3 := d3.below bi
        clear ah bi
        go_wp2_with fail
        have kc := cmp_any v3 v4 n n wi d3.nt d4.nt
        rw [CS.out] at kc
        refine kc.mono ?_
        intro e wj hh
        obtain ⟨rfl, bj, _⟩ := quiet_below hh
        have aj := below_to ai bj
        clear kc hh bj ai d3 d4
        go_wp2_with fail
        go_ret
        exact ⟨rfl, aj⟩
      · subst q2
        subst q3
        clear HSM
        go_wp2_with fail
        have kb := bits_any p P we hp
        rw [← HD.out] at kb
        refine kb.mono ?_
        rintro e w2 ⟨rfl, hw⟩
        have hw := hw.symm; subst hw
        clear kb
        go_wp2_with fail
        refine (bit_any p P i we hp hi).mono ?_
        rw [show (if i < 0 then 0 else lg (dg 2 P) i.toNat : Nat) = bitAt P i from rfl]
        rintro e w2 ⟨rfl, hw⟩
        have hw := hw.symm; subst hw
        go_wp2_with fail
        refine (rbit_int ada d capa P i _ HD.out rda (by omega) hi).mono ?_
        rintro e w2 ⟨rfl, hw⟩
        have hw := hw.symm; subst hw
        have N2 := Lib.hid (Nat.le_trans (dl_le B32_two (k := 2) (show n < B32 ^ 2 from Nat.lt_of_lt_of_le HN.out (by decide))) (show 2 ≤ 1000 by omega))
        have CS := Lib.hid (c3_self n)
        clear hp rda
        go_wp2_with fail
        refine (of_any n _ HN.out).mono ?_
        rintro e wg ⟨v2, rfl, d2', bg⟩
        have ag := below_to ae bg
        clear ae bg
        go_wp2_with fail
        refine (trim_dg v2 n wg d2'.nt N2.out).mono ?_
        rintro e wh ⟨v3, rfl, d3, bh⟩
        have ah := below_to ag bh
        clear ag bh d2'
        go_wp2_with fail
        refine (of_any n _ HN.out).mono ?_
        rintro e wi ⟨v4, rfl, d4, bi⟩
        have ai := below_to ah bi
        have d3 := d3.below bi
        clear ah bi
        go_wp2_with fail
        have kc := cmp_any v3 v4 n n wi d3.nt d4.nt
        rw [CS.out] at kc
        refine kc.mono ?_
        intro e wj hh
        obtain ⟨rfl, bj, _⟩ := quiet_below hh
        have aj := below_to ai bj
        clear kc hh bj ai d3 d4
        go_wp2_with fail
        go_ret
        exact ⟨rfl, aj⟩
end Go.Proofs.Ytnkdjldieegpjaa
