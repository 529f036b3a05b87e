/- The walk of MultParts. -/
import Derived.Test.YtbjgcnhilakimaaNtS
import Derived.Test.YtbjgcnhilakimaaLawJ
namespace Go.Proofs.Ytbjgcnhilakimaa
open Go.RowKit
set_option maxRecDepth 100000

theorem none_dl : ∀ k, k ≤ ([] : List Nat).length → dl B32 (pl (([] : List Nat).take k)) ≤ 1000000 := by
  intro k hk
  obtain rfl : k = 0 := by simpa using hk
  exact Lim.dl (a := 2) (show Lim 1 2 from Lim.of64 (by decide)) _ (by omega)
theorem pl_three (P Q R : Nat) : pl [P, Q, R] = P * R * Q := by
  unfold pl; simp only [List.foldl_cons, List.foldl_nil, Nat.one_mul]; rw [Nat.mul_assoc, Nat.mul_assoc, Nat.mul_comm Q R]
theorem three_dl {P Q R m : Nat} (lP : Lim P m) (lQ : Lim Q m) (lR : Lim R m) (hm : m ≤ 1000 := by omega) : ∀ k, k ≤ [P, Q, R].length → dl B32 (pl ([P, Q, R].take k)) ≤ 1000000 := by
  intro k hk
  simp only [List.length_cons, List.length_nil] at hk
  match k, hk with
  | 0, _ => exact Lim.dl (a := 2) (show Lim 1 2 from Lim.of64 (by decide)) _ (by omega)
  | 1, _ => exact Lim.dl (a := m) (by simpa [pl] using lP) _ (by omega)
  | 2, _ => exact Lim.dl (a := m + m) (by simpa [pl] using lP.mul lQ) _ (by omega)
  | 3, _ => exact Lim.dl (a := m + m + m) (by simpa [pl] using (lP.mul lQ).mul lR) _ (by omega)
theorem three_lg {P Q R m : Nat} (lP : Lim P m) (lQ : Lim Q m) (lR : Lim R m) (hm : m ≤ 1000 := by omega) : ∀ k, k < [P, Q, R].length → dl B32 (lg [P, Q, R] k) ≤ 1000000 := by
  intro k hk
  simp only [List.length_cons, List.length_nil] at hk
  match k, hk with
  | 0, _ => exact lP.dl _ (by omega)
  | 1, _ => exact lQ.dl _ (by omega)
  | 2, _ => exact lR.dl _ (by omega)

set_option maxHeartbeats 4000000 in
theorem multParts_walk (a0 : Option Addr) (n0 c0 : Nat) (a1 : Option Addr) (n1 c1 : Nat) (a2 : Option Addr) (n2 c2 : Nat) (w : World) (h0 : In32 w a0 n0 c0) (h1 : In32 w a1 n1 c1) (h2 : In32 w a2 n2 c2) :
    Calls Try.prog 14 #[.slice a0 n0 c0, .slice a1 n1 c1, .slice a2 n2 c2] w (TruePost w) := by
  go_enter Try.func14, Try.ntmps14
  go_wp2_with fail
  refine (few_num _ _ _ 6 _ h0 (by omega)).mono ?_
  rintro e w1 ⟨p, P, rfl, np, lP, bb⟩
  replace h1 := h1.below bb
  replace h2 := h2.below bb
  have bel := bb
  clear bb
  replace lP : Lim P 6 := lP
  clear h0
  go_wp2_with fail
  refine (few_num _ _ _ 6 _ h1 (by omega)).mono ?_
  rintro e w2 ⟨q, Q, rfl, nq, lQ, bb⟩
  replace h2 := h2.below bb
  replace np := np.below bb
  replace bel := below_to bel bb
  clear bb
  replace lQ : Lim Q 6 := lQ
  clear h1
  go_wp2_with fail
  refine (few_num _ _ _ 6 _ h2 (by omega)).mono ?_
  rintro e w3 ⟨r, R, rfl, nr, lR, bb⟩
  replace np := np.below bb
  replace nq := nq.below bb
  replace bel := below_to bel bb
  clear bb
  replace lR : Lim R 6 := lR
  clear h2
  go_wp2_with fail
  refine (awake2_any _).mono ?_
  rintro e w4 ⟨rfl, bb⟩
  replace np := np.below bb
  replace nq := nq.below bb
  replace nr := nr.below bb
  replace bel := below_to bel bb
  clear bb
  go_wp2_with fail
  refine (mul_any p q P Q _ np nq (lP.dl 1000000 (by omega)) (lQ.dl 1000000 (by omega))).mono ?_
  rintro e w5 ⟨a, rfl, da, bb⟩
  replace np := np.below bb
  replace nq := nq.below bb
  replace nr := nr.below bb
  replace bel := below_to bel bb
  clear bb
  go_wp2_with fail
  refine (mul_any p r P R _ np nr (lP.dl 1000000 (by omega)) (lR.dl 1000000 (by omega))).mono ?_
  rintro e w6 ⟨b, rfl, db, bb⟩
  replace np := np.below bb
  replace nq := nq.below bb
  replace nr := nr.below bb
  replace da := da.below bb
  replace bel := below_to bel bb
  clear bb
  have lQR := lQ.add lR 7 (by omega) (by omega)
  have lPQ := lP.mul lQ
  have lPR := lP.mul lR
  go_wp2_with fail
  refine (add_any q r Q R _ nq nr (lQR.dl _ (by omega))).mono ?_
  rintro e w7 ⟨v1, rfl, d1, bb⟩
  replace np := np.below bb
  replace nq := nq.below bb
  replace nr := nr.below bb
  replace da := da.below bb
  replace db := db.below bb
  replace bel := below_to bel bb
  clear bb
  go_wp2_with fail
  refine (mul_any p v1 P (Q + R) _ np d1.nt (lP.dl 1000000 (by omega)) (lQR.dl 1000000 (by omega))).mono ?_
  rintro e w8 ⟨v2, rfl, d2, bb⟩
  replace np := np.below bb
  replace nq := nq.below bb
  replace nr := nr.below bb
  replace da := da.below bb
  replace db := db.below bb
  replace d1 := d1.below bb
  replace bel := below_to bel bb
  clear bb
  clear d1
  go_wp2_with fail
  have kc := add_any a b (P * Q) (P * R) _ da.nt db.nt ((lPQ.add lPR 13 (by omega) (by omega)).dl _ (by omega))
  rw [← Nat.mul_add] at kc
  refine kc.mono ?_
  rintro e w9 ⟨v3, rfl, d3, bb⟩
  clear kc
  replace np := np.below bb
  replace nq := nq.below bb
  replace nr := nr.below bb
  replace da := da.below bb
  replace db := db.below bb
  replace d2 := d2.below bb
  replace bel := below_to bel bb
  clear bb
  go_wp2_with fail
  have kc := cmp_any v2 v3 _ _ _ d2.nt d3.nt
  rw [c3_self] at kc
  refine kc.mono ?_
  intro e w10 hh
  obtain ⟨rfl, bb, hsz⟩ := quiet_below hh
  clear hh hsz kc
  replace np := np.below bb
  replace nq := nq.below bb
  replace nr := nr.below bb
  replace da := da.below bb
  replace db := db.below bb
  replace d2 := d2.below bb
  replace d3 := d3.below bb
  replace bel := below_to bel bb
  clear bb
  clear d2 d3
  go_wp2_with fail
  have kc := mul_any q p Q P _ nq np (lQ.dl 1000000 (by omega)) (lP.dl 1000000 (by omega))
  rw [Nat.mul_comm Q P] at kc
  refine kc.mono ?_
  rintro e w11 ⟨v4, rfl, d4, bb⟩
  clear kc
  replace np := np.below bb
  replace nq := nq.below bb
  replace nr := nr.below bb
  replace da := da.below bb
  replace db := db.below bb
  replace bel := below_to bel bb
  clear bb
  go_wp2_with fail
  have kc := cmp_any v4 a _ _ _ d4.nt da.nt
  rw [c3_self] at kc
  refine kc.mono ?_
  intro e w12 hh
  obtain ⟨rfl, bb, hsz⟩ := quiet_below hh
  clear hh hsz kc
  replace np := np.below bb
  replace nq := nq.below bb
  replace nr := nr.below bb
  replace da := da.below bb
  replace db := db.below bb
  replace d4 := d4.below bb
  replace bel := below_to bel bb
  clear bb
  clear d4
  have hp1 := np.shape; have hq1 := nq.shape; have hr1 := nr.shape
  obtain ⟨ap, lp, cp, rfl⟩ := hp1
  obtain ⟨aq, lq, cq, rfl⟩ := hq1
  obtain ⟨ar, lr, cr, rfl⟩ := hr1
  have hr3 := RdN.three (w := w12) 27 np nq nr
  have HPL := Lib.hid (pl_three P Q R)
  have kc := product_any _ 3 3 [.slice ap lp cp, .slice aq lq cq, .slice ar lr cr] [P, Q, R] _ rfl hr3 (three_dl lP lQ lR) (three_lg lP lQ lR) (by simp)
  rw [HPL.out] at kc
  go_wp2_with fail
  refine kc.mono ?_
  rintro e w13 ⟨v5, rfl, d5, bb⟩
  clear kc hr3
  replace bb : Below w12.heap.size w12 w13 := ((Below.refl _ _).alloc (Nat.le_refl _) _).trans (bb.mono (by simp))
  replace np := np.below bb
  replace nq := nq.below bb
  replace nr := nr.below bb
  replace da := da.below bb
  replace db := db.below bb
  replace bel := below_to bel bb
  clear bb
  go_wp2_with fail
  refine (mul_any b _ (P * R) Q _ db.nt nq (lPR.dl 1000000 (by omega)) (lQ.dl 1000000 (by omega))).mono ?_
  rintro e w14 ⟨v6, rfl, d6, bb⟩
  replace np := np.below bb
  replace nq := nq.below bb
  replace nr := nr.below bb
  replace da := da.below bb
  replace db := db.below bb
  replace d5 := d5.below bb
  replace bel := below_to bel bb
  clear bb
  go_wp2_with fail
  have kc := cmp_any v5 v6 _ _ _ d5.nt d6.nt
  rw [c3_self] at kc
  refine kc.mono ?_
  intro e w15 hh
  obtain ⟨rfl, bb, hsz⟩ := quiet_below hh
  clear hh hsz kc
  replace np := np.below bb
  replace nq := nq.below bb
  replace nr := nr.below bb
  replace da := da.below bb
  replace db := db.below bb
  replace d5 := d5.below bb
  replace d6 := d6.below bb
  replace bel := below_to bel bb
  clear bb
  clear d5 d6
  go_wp2_with fail
  refine (product_any none 0 0 [] [] _ rfl ⟨rfl, fun i h => absurd h (by simp)⟩ none_dl (fun k hk => absurd hk (by simp)) (by simp)).mono ?_
  rintro e w16 ⟨v7, rfl, d7, bb⟩
  replace np := np.below bb
  replace nq := nq.below bb
  replace nr := nr.below bb
  replace da := da.below bb
  replace db := db.below bb
  replace bel := below_to bel bb
  clear bb
  go_wp2_with fail
  refine (of_any 1 _ (by decide)).mono ?_
  rintro e w17 ⟨v8, rfl, d8, bb⟩
  replace np := np.below bb
  replace nq := nq.below bb
  replace nr := nr.below bb
  replace da := da.below bb
  replace db := db.below bb
  replace d7 := d7.below bb
  replace bel := below_to bel bb
  clear bb
  go_wp2_with fail
  have kc := cmp_any v7 v8 1 1 _ d7.nt d8.nt
  rw [c3_self] at kc
  refine kc.mono ?_
  intro e w18 hh
  obtain ⟨rfl, bb, hsz⟩ := quiet_below hh
  clear hh hsz kc
  replace np := np.below bb
  replace nq := nq.below bb
  replace nr := nr.below bb
  replace da := da.below bb
  replace db := db.below bb
  replace d7 := d7.below bb
  replace d8 := d8.below bb
  replace bel := below_to bel bb
  clear bb
  go_wp2_with fail
  go_ret
  exact ⟨rfl, bel⟩
end Go.Proofs.Ytbjgcnhilakimaa
