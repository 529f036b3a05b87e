/- The walk of MultDivs. -/
import Derived.Test.YtbjgcnhilakimaaLawK
import Derived.Test.YtbjgcnhilakimaaLawJ
namespace Go.Proofs.Ytbjgcnhilakimaa
open Go.RowKit
set_option maxRecDepth 100000

set_option maxHeartbeats 4000000 in
theorem multDivs_walk (a0 : Option Addr) (n0 c0 : Nat) (a1 : Option Addr) (n1 c1 : Nat) (w : World) (h0 : In32 w a0 n0 c0) (h1 : In32 w a1 n1 c1) :
    Calls Try.prog 10 #[.slice a0 n0 c0, .slice a1 n1 c1] w (TruePost w) := by
  go_enter Try.func10, Try.ntmps10
  go_wp2_with fail
  refine (few_raw _ _ _ 12 _ h0 (by omega)).mono ?_
  rintro e w1 ⟨x, xs, rfl, sx, ox, lx, bb⟩
  replace h1 := h1.below bb
  have bel := bb
  clear bb
  clear h0
  go_wp2_with fail
  refine (few_raw _ _ _ 12 _ h1 (by omega)).mono ?_
  rintro e w2 ⟨y, ys, rfl, sy, oy, ly, bb⟩
  replace sx := sx.below bb
  replace bel := below_to bel bb
  clear bb
  clear h1
  go_wp2_with fail
  refine (few_again x xs 12 _ sx lx (by omega)).mono ?_
  rintro e w3 ⟨p, rfl, sp, bb⟩
  replace sx := sx.below bb
  replace sy := sy.below bb
  replace bel := below_to bel bb
  clear bb
  obtain ⟨P, hP⟩ : ∃ P, P = vl B32 xs := ⟨_, rfl⟩
  have lP : Lim P 12 := by rw [hP]; exact Lim.of_sq ox lx
  have np : Nt w3 p P := by rw [hP]; exact sp.nt ox
  have HP := Lib.hid hP; clear hP
  go_wp2_with fail
  refine (few_again y ys 12 _ sy ly (by omega)).mono ?_
  rintro e w4 ⟨q, rfl, sq, bb⟩
  replace sx := sx.below bb
  replace sy := sy.below bb
  replace sp := sp.below bb
  replace np := np.below bb
  replace bel := below_to bel bb
  clear bb
  obtain ⟨Q, hQ⟩ : ∃ Q, Q = vl B32 ys := ⟨_, rfl⟩
  have lQ : Lim Q 12 := by rw [hQ]; exact Lim.of_sq oy ly
  have nq : Nt w4 q Q := by rw [hQ]; exact sq.nt oy
  have HQ := Lib.hid hQ; clear hQ
  go_wp2_with fail
  refine (awake2_any _).mono ?_
  rintro e w5 ⟨rfl, bb⟩
  replace sx := sx.below bb
  replace sy := sy.below bb
  replace sp := sp.below bb
  replace np := np.below bb
  replace sq := sq.below bb
  replace nq := nq.below bb
  replace bel := below_to bel bb
  clear bb
  go_wp2_with fail
  refine (divMod_any p q P Q _ np nq).mono ?_
  rintro e w6 ⟨d, r, rfl, dd, dr, bb⟩
  replace sx := sx.below bb
  replace sy := sy.below bb
  replace sp := sp.below bb
  replace np := np.below bb
  replace sq := sq.below bb
  replace nq := nq.below bb
  replace bel := below_to bel bb
  clear bb
  clear np nq
  go_wp2_with fail
  have kc := sfrom_any x xs _ sx ox (by omega)
  rw [← HP.out] at kc
  refine kc.mono ?_
  rintro e w7 ⟨a, rfl, da, bb⟩
  clear kc
  replace sx := sx.below bb
  replace sy := sy.below bb
  replace sp := sp.below bb
  replace sq := sq.below bb
  replace dd := dd.below bb
  replace dr := dr.below bb
  replace bel := below_to bel bb
  clear bb
  go_wp2_with fail
  have kc := sfrom_any y ys _ sy oy (by omega)
  rw [← HQ.out] at kc
  refine kc.mono ?_
  rintro e w8 ⟨b, rfl, db, bb⟩
  clear kc
  replace sx := sx.below bb
  replace sy := sy.below bb
  replace sp := sp.below bb
  replace sq := sq.below bb
  replace dd := dd.below bb
  replace dr := dr.below bb
  replace da := da.below bb
  replace bel := below_to bel bb
  clear bb
  go_wp2_with fail
  refine (sdivmod_any a b P Q _ da db (lP.dh 10000 (by omega)) (lQ.dh 10000 (by omega))).mono ?_
  rintro e w9 ⟨t, u, rfl, dt, du, bb⟩
  replace sx := sx.below bb
  replace sy := sy.below bb
  replace sp := sp.below bb
  replace sq := sq.below bb
  replace dd := dd.below bb
  replace dr := dr.below bb
  replace da := da.below bb
  replace db := db.below bb
  replace bel := below_to bel bb
  clear bb
  clear da db
  go_wp2_with fail
  refine (Is_any d t (P / Q) _ dd dt).mono ?_
  rintro e w10 ⟨rfl, bb⟩
  replace sx := sx.below bb
  replace sy := sy.below bb
  replace sp := sp.below bb
  replace sq := sq.below bb
  replace dd := dd.below bb
  replace dr := dr.below bb
  replace dt := dt.below bb
  replace du := du.below bb
  replace bel := below_to bel bb
  clear bb
  clear dd dt
  go_wp2_with fail
  refine (Is_any r u _ _ dr du).mono ?_
  rintro e w11 ⟨rfl, bb⟩
  replace sx := sx.below bb
  replace sy := sy.below bb
  replace sp := sp.below bb
  replace sq := sq.below bb
  replace dr := dr.below bb
  replace du := du.below bb
  replace bel := below_to bel bb
  clear bb
  clear dr du
  go_wp2_with fail
  refine (same_any p x xs _ sp sx).mono ?_
  intro e w12 hh
  obtain ⟨rfl, bb, _⟩ := quiet_below hh
  clear hh
  replace sx := sx.below bb
  replace sy := sy.below bb
  replace sp := sp.below bb
  replace sq := sq.below bb
  replace bel := below_to bel bb
  clear bb
  go_wp2_with fail
  refine (same_any q y ys _ sq sy).mono ?_
  intro e w13 hh
  obtain ⟨rfl, bb, _⟩ := quiet_below hh
  clear hh
  replace sx := sx.below bb
  replace sy := sy.below bb
  replace sp := sp.below bb
  replace sq := sq.below bb
  replace bel := below_to bel bb
  clear bb
  go_wp2_with fail
  go_ret
  exact ⟨rfl, bel⟩
end Go.Proofs.Ytbjgcnhilakimaa
