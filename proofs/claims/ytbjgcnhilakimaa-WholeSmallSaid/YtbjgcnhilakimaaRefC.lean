import Derived.Test.YtbjgcnhilakimaaRefA
namespace Go.Proofs.Ytbjgcnhilakimaa
open Go.RowKit
set_option maxRecDepth 100000

theorem lt_digit {b N M j : Nat} (hb : 2 ≤ b) (ha : ∀ i, j < i → lg (dg b N) i = lg (dg b M) i) (h : lg (dg b N) j < lg (dg b M) j) : N < M := by
  have := lt_of_digit (okb_dg hb N) (by omega) h ha
  rwa [vl_dg hb, vl_dg hb] at this
theorem eq_digits {b N M : Nat} (hb : 2 ≤ b) (h : ∀ j, lg (dg b N) j = lg (dg b M) j) : N = M := by
  have := vl_congr b h
  rwa [vl_dg hb, vl_dg hb] at this
theorem less_bit {N M j : Nat} (ha : ∀ i, j < i → lg (dg 2 N) i = lg (dg 2 M) i) (hne : ¬ lg (dg 2 N) j = lg (dg 2 M) j) : ((lg (dg 2 N) j : Int) == 0) = decide (N < M) := by
  have l1 := lg_lt (okb_dg (b := 2) (by omega) N) (by omega) j
  have l2 := lg_lt (okb_dg (b := 2) (by omega) M) (by omega) j
  by_cases h0 : lg (dg 2 N) j = 0
  · have h := lt_digit (b := 2) (by omega) ha (by omega)
    rw [h0]; simp [h]
  · have h := lt_digit (b := 2) (by omega) (fun i hi => (ha i hi).symm) (show lg (dg 2 M) j < lg (dg 2 N) j by omega)
    have h2 : ¬ N < M := by omega
    simp [h2]; omega

def LessPost (N M : Nat) (w : World) (e : Ending) (w' : World) : Prop := e = .returned (.bool (decide (N < M))) ∧ w' = w
theorem ret_bool {a b : Bool} (h : a = b) : Ending.returned (.bool a) = .returned (.bool b) := by rw [h]

set_option maxHeartbeats 1000000 in
theorem rless_any (v1 v2 : Value) (N M : Nat) (w : World) (h1 : Dg w .i64 2 v1 N) (h2 : Dg w .i64 2 v2 M) :
    Calls Try.prog 32 #[v1, v2] w (LessPost N M w) := by
  obtain ⟨ad1, cap1, rfl, r1, c1, m1, l1, n1⟩ := h1
  obtain ⟨ad2, cap2, rfl, r2, c2, m2, l2, n2⟩ := h2
  rw [length_dg] at l1 l2 c1 c2 ⊢
  rw [length_dg]
  obtain ⟨mx, hcase⟩ : ∃ mx : Nat, (dl 2 N < dl 2 M ∧ mx = dl 2 M) ∨ (dl 2 M ≤ dl 2 N ∧ mx = dl 2 N) := by
    rcases Nat.lt_or_ge (dl 2 N) (dl 2 M) with h | h
    · exact ⟨_, Or.inl ⟨h, rfl⟩⟩
    · exact ⟨_, Or.inr ⟨h, rfl⟩⟩
  rcases hcase with ⟨hle, hmx⟩ | ⟨hle, hmx⟩
  all_goals
    have HMX := Lib.hid hmx
    have hm1 : dl 2 N ≤ mx := by omega
    have hm2 : dl 2 M ≤ mx := by omega
    have hml : mx ≤ 1099511627776 := by omega
    clear hmx
    go_enter Try.func32, Try.ntmps32
    go_wp2
    go_loop [5] (fun i => ∃ k : Nat, k ≤ mx ∧ i = .int .i64 ((k : Int) - 1) ∧ Hid (∀ j, k ≤ j → lg (dg 2 N) j = lg (dg 2 M) j)) (fun i => (intOf i + 1).toNat)
    case atStart => exact ⟨mx, Nat.le_refl _, by rw [HMX.out], Lib.hid (fun j hj => by rw [lg_out (by rw [length_dg]; omega), lg_out (by rw [length_dg]; omega)])⟩
    case round =>
      obtain ⟨k, hk, rfl, ha⟩ := hrel
      by_cases hp : 0 < k
      · obtain ⟨j, rfl⟩ : ∃ j, k = j + 1 := ⟨k - 1, by omega⟩
        rw [show ((j + 1 : Nat) : Int) - 1 = (j : Int) from by omega]
        by_cases he : lg (dg 2 N) j = lg (dg 2 M) j
        · have HE := Lib.hid he
          clear he
          go_wp2_with fail
          refine (rat_any ad1 _ cap1 (dg 2 N) j _ (by rw [length_dg]) r1 (by rw [length_dg]; omega) (by omega)).mono ?_
          rintro e w1 ⟨rfl, hw⟩
          have hw := hw.symm; subst hw
          go_wp2_with fail
          refine (rat_any ad2 _ cap2 (dg 2 M) j _ (by rw [length_dg]) r2 (by rw [length_dg]; omega) (by omega)).mono ?_
          rintro e w1 ⟨rfl, hw⟩
          have hw := hw.symm; subst hw
          rw [HE.out]
          go_wp2
          go_round
          case rel => exact ⟨j, by omega, by go_num, fun i hi => by
            by_cases e : i = j
            · subst e; exact HE.out
            · exact ha.out i (by omega)⟩
          case measure => simp [intOf]
        · go_wp2_with fail
          refine (rat_any ad1 _ cap1 (dg 2 N) j _ (by rw [length_dg]) r1 (by rw [length_dg]; omega) (by omega)).mono ?_
          rintro e w1 ⟨rfl, hw⟩
          have hw := hw.symm; subst hw
          go_wp2_with fail
          refine (rat_any ad2 _ cap2 (dg 2 M) j _ (by rw [length_dg]) r2 (by rw [length_dg]; omega) (by omega)).mono ?_
          rintro e w1 ⟨rfl, hw⟩
          have hw := hw.symm; subst hw
          have HB := Lib.hid (less_bit (fun i hi => ha.out i (by omega)) he)
          go_wp2_with fail
          refine (rat_any ad1 _ cap1 (dg 2 N) j _ (by rw [length_dg]) r1 (by rw [length_dg]; omega) (by omega)).mono ?_
          rintro e w1 ⟨rfl, hw⟩
          have hw := hw.symm; subst hw
          clear he
          go_wp2
          go_ret
          exact ⟨ret_bool HB.out, rfl⟩
      · obtain rfl : k = 0 := by omega
        have hnl : ¬ N < M := by have := eq_digits (b := 2) (by omega) (fun j => ha.out j (Nat.zero_le j)); omega
        have HN := Lib.hid hnl; clear hnl
        go_wp2
        go_ret
        exact ⟨ret_bool (by simpa using HN.out), rfl⟩

set_option maxHeartbeats 400000 in
theorem rcmp_any (v1 v2 : Value) (N M : Nat) (w : World) (h1 : Dg w .i64 2 v1 N) (h2 : Dg w .i64 2 v2 M) :
    Calls Try.prog 31 #[v1, v2] w fun e w' => e = .returned (.int .i64 (c3 N M)) ∧ w' = w := by
  have k1 := rless_any v1 v2 N M w h1 h2
  have k2 := rless_any v2 v1 M N w h2 h1
  unfold LessPost at k1 k2
  by_cases hlt : N < M
  · rw [c3_lt hlt]
    rw [show decide (N < M) = true from by simpa using hlt] at k1
    have K1 := Lib.hid k1
    clear k1 k2 hlt h1 h2
    go_enter Try.func31, Try.ntmps31
    go_wp2_with fail
    refine K1.out.mono ?_
    rintro e w1 ⟨rfl, hw⟩
    have hw := hw.symm; subst hw
    go_wp2
    go_ret
    exact ⟨rfl, rfl⟩
  · rw [show decide (N < M) = false from by simpa using hlt] at k1
    have K1 := Lib.hid k1
    by_cases hgt : M < N
    · rw [c3_gt hgt]
      rw [show decide (M < N) = true from by simpa using hgt] at k2
      have K2 := Lib.hid k2
      clear k1 k2 hlt hgt h1 h2
      go_enter Try.func31, Try.ntmps31
      go_wp2_with fail
      refine K1.out.mono ?_
      rintro e w1 ⟨rfl, hw⟩
      have hw := hw.symm; subst hw
      go_wp2_with fail
      refine K2.out.mono ?_
      rintro e w1 ⟨rfl, hw⟩
      have hw := hw.symm; subst hw
      go_wp2
      go_ret
      exact ⟨rfl, rfl⟩
    · rw [c3_eq (show N = M by omega)]
      rw [show decide (M < N) = false from by simpa using hgt] at k2
      have K2 := Lib.hid k2
      clear k1 k2 hlt hgt h1 h2
      go_enter Try.func31, Try.ntmps31
      go_wp2_with fail
      refine K1.out.mono ?_
      rintro e w1 ⟨rfl, hw⟩
      have hw := hw.symm; subst hw
      go_wp2_with fail
      refine K2.out.mono ?_
      rintro e w1 ⟨rfl, hw⟩
      have hw := hw.symm; subst hw
      go_wp2
      go_ret
      exact ⟨rfl, rfl⟩
end Go.Proofs.Ytbjgcnhilakimaa
