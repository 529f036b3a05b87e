/- The walk of MultBack. -/
import Derived.Test.YtbjgcnhilakimaaLawK
import Derived.Test.YtbjgcnhilakimaaLawJ
namespace Go.Proofs.Ytbjgcnhilakimaa
open Go.RowKit
set_option maxRecDepth 100000

theorem nil_shape {w : World} {k : IntKind} {b : Nat} {v : Value} {n : Nat} (hn : n = 0) (h : Dg w k b v n) : ∃ ad cap, v = .slice ad 0 cap := by
  subst hn
  obtain ⟨ad, cap, h1, _⟩ := h
  rw [dg_zero] at h1
  exact ⟨ad, cap, h1⟩

set_option maxHeartbeats 4000000 in
theorem multBack_walk (a0 : Option Addr) (n0 c0 : Nat) (a1 : Option Addr) (n1 c1 : Nat) (a2 : Option Addr) (n2 c2 : Nat) (w : World) (h0 : In32 w a0 n0 c0) (h1 : In32 w a1 n1 c1) (h2 : In32 w a2 n2 c2) :
    Calls Try.prog 11 #[.slice a0 n0 c0, .slice a1 n1 c1, .slice a2 n2 c2] w (TruePost w) := by
  go_enter Try.func11, Try.ntmps11
  go_wp2_with fail
  refine (few_num _ _ _ 10 _ h0 (by omega)).mono ?_
  rintro e w1 ⟨p, P, rfl, np, lP, bb⟩
  replace h1 := h1.below bb
  replace h2 := h2.below bb
  have bel := bb
  clear bb
  replace lP : Lim P 10 := lP
  clear h0
  go_wp2_with fail
  refine (few_num _ _ _ 10 _ h1 (by omega)).mono ?_
  rintro e w2 ⟨q, Q, rfl, nq, lQ, bb⟩
  replace h2 := h2.below bb
  replace np := np.below bb
  replace bel := below_to bel bb
  clear bb
  replace lQ : Lim Q 10 := lQ
  clear h1
  go_wp2_with fail
  refine (few_num _ _ _ 10 _ h2 (by omega)).mono ?_
  rintro e w3 ⟨r, R, rfl, nr, lR, bb⟩
  replace np := np.below bb
  replace nq := nq.below bb
  replace bel := below_to bel bb
  clear bb
  replace lR : Lim R 10 := lR
  clear h2
  go_wp2_with fail
  refine (awake2_any _).mono ?_
  rintro e w4 ⟨rfl, bb⟩
  replace np := np.below bb
  replace nq := nq.below bb
  replace nr := nr.below bb
  replace bel := below_to bel bb
  clear bb
  by_cases hq0 : Q = 0
  · subst hq0
    go_wp2_with fail
    have kc := bits_any q 0 _ nq
    rw [dl_zero] at kc
    refine kc.mono ?_
    rintro e wx ⟨rfl, hw⟩
    have hw := hw.symm; subst hw
    clear kc
    go_wp2_with fail
    refine (divMod_any p q P 0 _ np nq).mono ?_
    rintro e w5 ⟨d, m, rfl, dd, dm, bb⟩
    replace np := np.below bb
    replace nq := nq.below bb
    replace nr := nr.below bb
    replace bel := below_to bel bb
    clear bb
    obtain ⟨ad1, cp1, rfl⟩ := nil_shape (by rw [Nat.div_zero]) dd
    obtain ⟨ad2, cp2, rfl⟩ := nil_shape (if_pos rfl) dm
    clear dd dm np nq nr
    go_wp2_with fail
    go_ret
    exact ⟨rfl, bel⟩
  · have hq1 : 0 < Q := by omega
    obtain ⟨B, hB⟩ : ∃ B, B = dl 2 Q := ⟨_, rfl⟩
    have hbp : (((B : Nat) : Int) == 0) = false := by have := dl_pos (b := 2) (by omega) hq1; simp; omega
    have HB := Lib.hid hB
    clear hB hq0
    go_wp2_with fail
    have kc := bits_any q Q _ nq
    rw [← HB.out] at kc
    refine kc.mono ?_
    rintro e wx ⟨rfl, hw⟩
    have hw := hw.symm; subst hw
    clear kc
    go_wp2_with fail
    refine (divMod_any p q P Q _ np nq).mono ?_
    rintro e w5 ⟨d, m, rfl, dd, dm, bb⟩
    replace np := np.below bb
    replace nq := nq.below bb
    replace nr := nr.below bb
    replace bel := below_to bel bb
    clear bb
    rw [if_neg (by omega)] at dm
    go_wp2_with fail
    refine (mul_any d q (P / Q) Q _ dd.nt nq ((lP.le (Nat.div_le_self P Q)).dl 1000000 (by omega)) (lQ.dl 1000000 (by omega))).mono ?_
    rintro e w6 ⟨v1, rfl, d1, bb⟩
    replace np := np.below bb
    replace nq := nq.below bb
    replace nr := nr.below bb
    replace dd := dd.below bb
    replace dm := dm.below bb
    replace bel := below_to bel bb
    clear bb
    clear dd
    go_wp2_with fail
    have kc := add_any v1 m (P / Q * Q) (P % Q) _ d1.nt dm.nt (by rw [Nat.div_add_mod']; exact lP.dl _ (by omega))
    rw [Nat.div_add_mod'] at kc
    refine kc.mono ?_
    rintro e w7 ⟨v2, rfl, d2, bb⟩
    clear kc
    replace np := np.below bb
    replace nq := nq.below bb
    replace nr := nr.below bb
    replace dm := dm.below bb
    replace d1 := d1.below bb
    replace bel := below_to bel bb
    clear bb
    clear d1
    go_wp2_with fail
    have kc := cmp_any v2 p P P _ d2.nt np
    rw [c3_self] at kc
    refine kc.mono ?_
    intro e w8 hh
    obtain ⟨rfl, bb, _⟩ := quiet_below hh
    clear hh kc
    replace np := np.below bb
    replace nq := nq.below bb
    replace nr := nr.below bb
    replace dm := dm.below bb
    replace d2 := d2.below bb
    replace bel := below_to bel bb
    clear bb
    clear d2
    go_wp2_with fail
    have kc := cmp_any m q (P % Q) Q _ dm.nt nq
    rw [c3_lt (Nat.mod_lt P hq1)] at kc
    refine kc.mono ?_
    intro e w9 hh
    obtain ⟨rfl, bb, _⟩ := quiet_below hh
    clear hh kc
    replace np := np.below bb
    replace nq := nq.below bb
    replace nr := nr.below bb
    replace dm := dm.below bb
    replace bel := below_to bel bb
    clear bb
    clear dm
    by_cases hrq : R < Q
    · go_wp2_with fail
      have kc := cmp_any r q R Q _ nr nq
      rw [c3_lt hrq] at kc
      refine kc.mono ?_
      intro e w10 hh
      obtain ⟨rfl, bb, _⟩ := quiet_below hh
      clear hh kc
      replace np := np.below bb
      replace nq := nq.below bb
      replace nr := nr.below bb
      replace bel := below_to bel bb
      clear bb
      go_wp2_with fail
      refine (mul_any p q P Q _ np nq (lP.dl 1000000 (by omega)) (lQ.dl 1000000 (by omega))).mono ?_
      rintro e w11 ⟨v3, rfl, d3, bb⟩
      replace np := np.below bb
      replace nq := nq.below bb
      replace nr := nr.below bb
      replace bel := below_to bel bb
      clear bb
      go_wp2_with fail
      refine (add_any v3 r (P * Q) R _ d3.nt nr (((lP.mul lQ).add lR 21 (by omega) (by omega)).dl _ (by omega))).mono ?_
      rintro e w12 ⟨v4, rfl, d4, bb⟩
      replace np := np.below bb
      replace nq := nq.below bb
      replace nr := nr.below bb
      replace d3 := d3.below bb
      replace bel := below_to bel bb
      clear bb
      clear d3
      go_wp2_with fail
      refine (divMod_any v4 q (P * Q + R) Q _ d4.nt nq).mono ?_
      rintro e w13 ⟨t, u, rfl, dt, du, bb⟩
      replace np := np.below bb
      replace nq := nq.below bb
      replace nr := nr.below bb
      replace d4 := d4.below bb
      replace bel := below_to bel bb
      clear bb
      clear d4
      rw [if_neg (by omega), Nat.add_comm, Nat.add_mul_mod_self_right, Nat.mod_eq_of_lt hrq] at du
      rw [Nat.add_comm, Nat.add_mul_div_right _ _ hq1, Nat.div_eq_of_lt hrq, Nat.zero_add] at dt
      go_wp2_with fail
      have kc := cmp_any t p P P _ dt.nt np
      rw [c3_self] at kc
      refine kc.mono ?_
      intro e w14 hh
      obtain ⟨rfl, bb, _⟩ := quiet_below hh
      clear hh kc
      replace np := np.below bb
      replace nq := nq.below bb
      replace nr := nr.below bb
      replace dt := dt.below bb
      replace du := du.below bb
      replace bel := below_to bel bb
      clear bb
      clear dt
      go_wp2_with fail
      have kc := cmp_any u r R R _ du.nt nr
      rw [c3_self] at kc
      refine kc.mono ?_
      intro e w15 hh
      obtain ⟨rfl, bb, _⟩ := quiet_below hh
      clear hh kc
      replace np := np.below bb
      replace nq := nq.below bb
      replace nr := nr.below bb
      replace du := du.below bb
      replace bel := below_to bel bb
      clear bb
      go_wp2_with fail
      go_ret
      exact ⟨rfl, bel⟩
    · have hge : 0 ≤ c3 R Q := c3_ge.2 (by omega)
      have kc := cmp_any r q R Q _ nr nq
      generalize c3 R Q = c at hge kc
      go_wp2_with fail
      refine kc.mono ?_
      intro e wz hh
      obtain ⟨rfl, bb, _⟩ := quiet_below hh
      clear hh kc
      replace np := np.below bb
      replace nq := nq.below bb
      replace nr := nr.below bb
      replace bel := below_to bel bb
      clear bb
      go_wp2_with fail
      go_ret
      exact ⟨rfl, bel⟩
end Go.Proofs.Ytbjgcnhilakimaa
