/- The walk of MultSmall. -/
import Derived.Test.YtbjgcnhilakimaaLawK
import Derived.Test.YtbjgcnhilakimaaLawJ
namespace Go.Proofs.Ytbjgcnhilakimaa
open Go.RowKit
set_option maxRecDepth 100000

theorem small_rest (P : Nat) {y : Nat} (hy : y < 4294967296) : (if y = 0 then 0 else P % y) < 4294967296 := by
  split
  · omega
  · exact Nat.lt_trans (Nat.mod_lt _ (by omega)) hy
theorem vl_single (b y : Nat) : vl b [y] = y := by simp [vl]
theorem Sq.one_lit {w : World} (T : TypeId) (y : Nat) : Sq (w.alloc (.cells #[.int .u32 (y : Nat)] T)) .u32 (.slice (some ⟨w.heap.size, 0, none⟩) 1 1) [y] := by
  refine ⟨some ⟨w.heap.size, 0, none⟩, 1, rfl, ⟨fun i hi => ?_⟩, by simp, by unfold maxLen; omega, by simp, fun h => by cases h⟩
  simp at hi
  subst hi
  have hg := heap_alloc_new w (.cells #[.int .u32 (y : Nat)] T)
  exact ⟨w.heap.size, 0, rfl, by simp, by rw [Nat.add_zero, cell_of_row _ w.heap.size 0 _ T (0, 0) hg]; rfl⟩

set_option maxHeartbeats 4000000 in
theorem multSmall_walk (a0 : Option Addr) (n0 c0 y : Nat) (w : World) (h0 : In32 w a0 n0 c0) (hy : y < 4294967296) :
    Calls Try.prog 12 #[.slice a0 n0 c0, .int .u32 y] w (TruePost w) := by
  go_enter Try.func12, Try.ntmps12
  go_wp2_with fail
  refine (few_raw _ _ _ 12 _ h0 (by omega)).mono ?_
  rintro e w1 ⟨x, xs, rfl, sx, ox, lx, bb⟩
  have bel := bb
  clear bb
  clear h0
  go_wp2_with fail
  refine (few_again x xs 12 _ sx lx (by omega)).mono ?_
  rintro e w2 ⟨p, rfl, sp, bb⟩
  replace sx := sx.below bb
  replace bel := below_to bel bb
  clear bb
  obtain ⟨P, hP⟩ : ∃ P, P = vl B32 xs := ⟨_, rfl⟩
  have lP : Lim P 12 := by rw [hP]; exact Lim.of_sq ox lx
  have np : Nt w2 p P := by rw [hP]; exact sp.nt ox
  have HP := Lib.hid hP; clear hP
  obtain ⟨S, hS⟩ : ∃ S, S = (if y = 0 then 0 else P % y) := ⟨_, rfl⟩
  have hSb : S < 4294967296 := by rw [hS]; exact small_rest P hy
  have kc := small_any p P y _ np hy
  unfold SmallPost at kc
  rw [← hS] at kc
  have HS := Lib.hid hS
  clear hS
  go_wp2_with fail
  refine kc.mono ?_
  rintro e w3 ⟨d, rfl, dd, bb⟩
  clear kc
  replace sx := sx.below bb
  replace sp := sp.below bb
  replace np := np.below bb
  replace bel := below_to bel bb
  clear bb
  clear np
  go_wp2_with fail
  have kc := sfrom_any x xs _ sx ox (by omega)
  rw [← HP.out] at kc
  refine kc.mono ?_
  rintro e w4 ⟨a, rfl, da, bb⟩
  clear kc
  replace sx := sx.below bb
  replace sp := sp.below bb
  replace dd := dd.below bb
  replace bel := below_to bel bb
  clear bb
  have sl := Sq.one_lit (w := w4) 65 y
  have kc := sfrom_any _ [y] _ sl (okb_one (by rw [B32_eq]; exact hy)) (by simp)
  rw [vl_single] at kc
  go_wp2_with fail
  refine kc.mono ?_
  rintro e w5 ⟨b, rfl, db, bb⟩
  clear kc sl
  replace bb : Below w4.heap.size w4 w5 := ((Below.refl _ _).alloc (Nat.le_refl _) _).trans (bb.mono (by simp))
  replace sx := sx.below bb
  replace sp := sp.below bb
  replace dd := dd.below bb
  replace da := da.below bb
  replace bel := below_to bel bb
  clear bb
  go_wp2_with fail
  refine (sdivmod_any a b P y _ da db (lP.dh 10000 (by omega)) ((Lim.of32 hy).dh 10000 (by omega))).mono ?_
  rintro e w6 ⟨t, u, rfl, dt, du, bb⟩
  replace sx := sx.below bb
  replace sp := sp.below bb
  replace dd := dd.below bb
  replace da := da.below bb
  replace db := db.below bb
  replace bel := below_to bel bb
  clear bb
  clear da db
  rw [← HS.out] at du
  go_wp2_with fail
  refine (awake2_any _).mono ?_
  rintro e w7 ⟨rfl, bb⟩
  replace sx := sx.below bb
  replace sp := sp.below bb
  replace dd := dd.below bb
  replace dt := dt.below bb
  replace du := du.below bb
  replace bel := below_to bel bb
  clear bb
  go_wp2_with fail
  refine (Is_any d t (P / y) _ dd dt).mono ?_
  rintro e w8 ⟨rfl, bb⟩
  replace sx := sx.below bb
  replace sp := sp.below bb
  replace dd := dd.below bb
  replace dt := dt.below bb
  replace du := du.below bb
  replace bel := below_to bel bb
  clear bb
  clear dd dt
  go_wp2_with fail
  refine (of_any S _ (by omega)).mono ?_
  rintro e w9 ⟨r, rfl, dr, bb⟩
  replace sx := sx.below bb
  replace sp := sp.below bb
  replace du := du.below bb
  replace bel := below_to bel bb
  clear bb
  go_wp2_with fail
  refine (Is_any r u S _ dr du).mono ?_
  rintro e w10 ⟨rfl, bb⟩
  replace sx := sx.below bb
  replace sp := sp.below bb
  replace du := du.below bb
  replace dr := dr.below bb
  replace bel := below_to bel bb
  clear bb
  go_wp2_with fail
  go_ret
  exact ⟨rfl, bel⟩
end Go.Proofs.Ytbjgcnhilakimaa
