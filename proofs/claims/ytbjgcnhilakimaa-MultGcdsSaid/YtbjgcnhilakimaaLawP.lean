/- The walk of MultGcds. -/
import Derived.Test.YtbjgcnhilakimaaLawK
import Derived.Test.YtbjgcnhilakimaaLawJ
namespace Go.Proofs.Ytbjgcnhilakimaa
open Go.RowKit
set_option maxRecDepth 100000

set_option maxHeartbeats 4000000 in
theorem multGcds_walk (a0 : Option Addr) (n0 c0 : Nat) (a1 : Option Addr) (n1 c1 : Nat) (z : Nat) (w : World) (h0 : In32 w a0 n0 c0) (h1 : In32 w a1 n1 c1) (hz : z < 4294967296) :
    Calls Try.prog 13 #[.slice a0 n0 c0, .slice a1 n1 c1, .int .u32 z] w (TruePost w) := by
  go_enter Try.func13, Try.ntmps13
  go_wp2_with fail
  refine (few_raw _ _ _ 6 _ h0 (by omega)).mono ?_
  rintro e w1 ⟨x, xs, rfl, sx, ox, lx, bb⟩
  replace h1 := h1.below bb
  have bel := bb
  clear bb
  clear h0
  go_wp2_with fail
  refine (few_raw _ _ _ 6 _ h1 (by omega)).mono ?_
  rintro e w2 ⟨y, ys, rfl, sy, oy, ly, bb⟩
  replace sx := sx.below bb
  replace bel := below_to bel bb
  clear bb
  clear h1
  go_wp2_with fail
  refine (few_again x xs 6 _ sx lx (by omega)).mono ?_
  rintro e w3 ⟨p, rfl, sp, bb⟩
  replace sx := sx.below bb
  replace sy := sy.below bb
  replace bel := below_to bel bb
  clear bb
  obtain ⟨P, hP⟩ : ∃ P, P = vl B32 xs := ⟨_, rfl⟩
  have lP : Lim P 6 := by rw [hP]; exact Lim.of_sq ox lx
  have np : Nt w3 p P := by rw [hP]; exact sp.nt ox
  have HP := Lib.hid hP; clear hP
  go_wp2_with fail
  refine (few_again y ys 6 _ sy ly (by omega)).mono ?_
  rintro e w4 ⟨q, rfl, sq, bb⟩
  replace sx := sx.below bb
  replace sy := sy.below bb
  replace sp := sp.below bb
  replace np := np.below bb
  replace bel := below_to bel bb
  clear bb
  obtain ⟨Q, hQ⟩ : ∃ Q, Q = vl B32 ys := ⟨_, rfl⟩
  have lQ : Lim Q 6 := by rw [hQ]; exact Lim.of_sq oy ly
  have nq : Nt w4 q Q := by rw [hQ]; exact sq.nt oy
  have HQ := Lib.hid hQ; clear hQ
  go_wp2_with fail
  refine (awake2_any _).mono ?_
  rintro e w5 ⟨rfl, bb⟩
  replace sx := sx.below bb
  replace sy := sy.below bb
  replace sp := sp.below bb
  replace np := np.below bb
  replace sq := sq.below bb
  replace nq := nq.below bb
  replace bel := below_to bel bb
  clear bb
  have lG : Lim (Nat.gcd P Q) 6 := by
    by_cases h : P = 0
    · rw [h, Nat.gcd_zero_left]; exact lQ
    · exact lP.le (Nat.gcd_le_left Q (by omega))
  go_wp2_with fail
  refine (gcd_any p q P Q _ np nq).mono ?_
  rintro e w6 ⟨g, rfl, dg1, bb⟩
  replace sx := sx.below bb
  replace sy := sy.below bb
  replace sp := sp.below bb
  replace np := np.below bb
  replace sq := sq.below bb
  replace nq := nq.below bb
  replace bel := below_to bel bb
  clear bb
  go_wp2_with fail
  have kc := sfrom_any x xs _ sx ox (by omega)
  rw [← HP.out] at kc
  refine kc.mono ?_
  rintro e w7 ⟨a, rfl, da, bb⟩
  clear kc
  replace sx := sx.below bb
  replace sy := sy.below bb
  replace sp := sp.below bb
  replace np := np.below bb
  replace sq := sq.below bb
  replace nq := nq.below bb
  replace dg1 := dg1.below bb
  replace bel := below_to bel bb
  clear bb
  go_wp2_with fail
  have kc := sfrom_any y ys _ sy oy (by omega)
  rw [← HQ.out] at kc
  refine kc.mono ?_
  rintro e w8 ⟨b, rfl, db, bb⟩
  clear kc
  replace sx := sx.below bb
  replace sy := sy.below bb
  replace sp := sp.below bb
  replace np := np.below bb
  replace sq := sq.below bb
  replace nq := nq.below bb
  replace dg1 := dg1.below bb
  replace da := da.below bb
  replace bel := below_to bel bb
  clear bb
  clear sx sy sp sq
  go_wp2_with fail
  refine (sgcd_any a b P Q _ da db (lP.dh 10000 (by omega)) (lQ.dh 10000 (by omega))).mono ?_
  rintro e w9 ⟨s, rfl, ds, bb⟩
  replace np := np.below bb
  replace nq := nq.below bb
  replace dg1 := dg1.below bb
  replace da := da.below bb
  replace db := db.below bb
  replace bel := below_to bel bb
  clear bb
  clear da db
  go_wp2_with fail
  refine (Is_any g s (Nat.gcd P Q) _ dg1 ds).mono ?_
  rintro e w10 ⟨rfl, bb⟩
  replace np := np.below bb
  replace nq := nq.below bb
  replace dg1 := dg1.below bb
  replace ds := ds.below bb
  replace bel := below_to bel bb
  clear bb
  clear ds
  go_wp2_with fail
  have kc := gcd_any q p Q P _ nq np
  rw [Nat.gcd_comm Q P] at kc
  refine kc.mono ?_
  rintro e w11 ⟨g2, rfl, dg2, bb⟩
  clear kc
  replace np := np.below bb
  replace nq := nq.below bb
  replace dg1 := dg1.below bb
  replace bel := below_to bel bb
  clear bb
  go_wp2_with fail
  have kc := cmp_any g2 g _ _ _ dg2.nt dg1.nt
  rw [c3_self] at kc
  refine kc.mono ?_
  intro e w12 hh
  obtain ⟨rfl, bb, _⟩ := quiet_below hh
  clear hh kc
  replace np := np.below bb
  replace nq := nq.below bb
  replace dg1 := dg1.below bb
  replace dg2 := dg2.below bb
  replace bel := below_to bel bb
  clear bb
  clear dg2
  go_wp2_with fail
  refine (of_any z _ (by omega)).mono ?_
  rintro e w13 ⟨f, rfl, df, bb⟩
  replace np := np.below bb
  replace nq := nq.below bb
  replace dg1 := dg1.below bb
  replace bel := below_to bel bb
  clear bb
  go_wp2_with fail
  refine (mul_any p f P z _ np df.nt (lP.dl 1000000 (by omega)) ((Lim.of32 hz).dl 1000000 (by omega))).mono ?_
  rintro e w14 ⟨v1, rfl, d1, bb⟩
  replace np := np.below bb
  replace nq := nq.below bb
  replace dg1 := dg1.below bb
  replace df := df.below bb
  replace bel := below_to bel bb
  clear bb
  go_wp2_with fail
  refine (mul_any q f Q z _ nq df.nt (lQ.dl 1000000 (by omega)) ((Lim.of32 hz).dl 1000000 (by omega))).mono ?_
  rintro e w15 ⟨v2, rfl, d2, bb⟩
  replace np := np.below bb
  replace nq := nq.below bb
  replace dg1 := dg1.below bb
  replace df := df.below bb
  replace d1 := d1.below bb
  replace bel := below_to bel bb
  clear bb
  go_wp2_with fail
  have kc := gcd_any v1 v2 (P * z) (Q * z) _ d1.nt d2.nt
  rw [Nat.gcd_mul_right] at kc
  refine kc.mono ?_
  rintro e w16 ⟨v3, rfl, d3, bb⟩
  clear kc
  replace np := np.below bb
  replace nq := nq.below bb
  replace dg1 := dg1.below bb
  replace df := df.below bb
  replace d1 := d1.below bb
  replace d2 := d2.below bb
  replace bel := below_to bel bb
  clear bb
  clear d1 d2
  go_wp2_with fail
  refine (mul_any g f (Nat.gcd P Q) z _ dg1.nt df.nt (lG.dl 1000000 (by omega)) ((Lim.of32 hz).dl 1000000 (by omega))).mono ?_
  rintro e w17 ⟨v4, rfl, d4, bb⟩
  replace np := np.below bb
  replace nq := nq.below bb
  replace dg1 := dg1.below bb
  replace df := df.below bb
  replace d3 := d3.below bb
  replace bel := below_to bel bb
  clear bb
  go_wp2_with fail
  have kc := cmp_any v3 v4 _ _ _ d3.nt d4.nt
  rw [c3_self] at kc
  refine kc.mono ?_
  intro e w18 hh
  obtain ⟨rfl, bb, _⟩ := quiet_below hh
  clear hh kc
  replace np := np.below bb
  replace nq := nq.below bb
  replace dg1 := dg1.below bb
  replace df := df.below bb
  replace d3 := d3.below bb
  replace d4 := d4.below bb
  replace bel := below_to bel bb
  clear bb
  go_wp2_with fail
  go_ret
  exact ⟨rfl, bel⟩
end Go.Proofs.Ytbjgcnhilakimaa
