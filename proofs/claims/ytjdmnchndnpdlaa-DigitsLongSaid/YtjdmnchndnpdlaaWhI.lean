/- whole.Small. -/
import Derived.Test.YtjdmnchndnpdlaaGE
import Derived.Test.YtjdmnchndnpdlaaLawE
namespace Go.Proofs.Ytjdmnchndnpdlaa
open Go.RowKit
set_option maxRecDepth 100000

def TwoPost (w : World) (u : Value) (b : Bool) (e : Ending) (w' : World) : Prop := e = .returned (.tuple #[u, .bool b]) ∧ Below w.heap.size w w'
theorem uint_lo (v : Value) (N : Nat) (w : World) (h : Nt w v N) (hl : N < 18446744073709551616) : Calls Try.prog 60 #[v] w fun e w' => e = .returned (.tuple #[.int .u64 N, .bool true]) ∧ w' = w := by
  have hd : dl 2 N ≤ 64 := dl_le (by omega) (Nat.lt_of_lt_of_le hl (by decide))
  have := uint_any v N w h
  unfold UintPost at this
  rw [if_pos hd, show decide (dl 2 N ≤ 64) = true from by simpa using hd] at this
  exact this
theorem uint_hi (v : Value) (N : Nat) (w : World) (h : Nt w v N) (hl : 18446744073709551616 ≤ N) : Calls Try.prog 60 #[v] w fun e w' => e = .returned (.tuple #[.int .u64 (0 : Nat), .bool false]) ∧ w' = w := by
  have hd : ¬ dl 2 N ≤ 64 := by
    intro hh
    have h1 := lt_dl (b := 2) (by omega) N
    have h2 : (2 : Nat) ^ dl 2 N ≤ 2 ^ 64 := Nat.pow_le_pow_right (by omega) hh
    have h3 : (2 : Nat) ^ 64 = 18446744073709551616 := by decide
    omega
  have := uint_any v N w h
  unfold UintPost at this
  rw [if_neg hd, show decide (dl 2 N ≤ 64) = false from by simpa using hd] at this
  exact this
set_option maxHeartbeats 400000 in
theorem small_f_yes (ad : Option Addr) (n cap N : Nat) (w : World) (hN : Nt w (.slice ad n cap) N) (hc : N ≤ 9223372036854775807) :
    Calls Try.prog 25 #[.agg #[.bool false, .slice ad n cap]] w (TwoPost w (.int .i64 (N : Nat)) true) := by
  have hb0 := (Below.refl w.heap.size w).alloc (Nat.le_refl _) (.cells #[.bool false, .slice ad n cap] 37)
  have hN' := hN.below hb0
  have KU := Lib.hid (uint_lo _ N _ hN' (by omega))
  go_enter Try.func25, Try.ntmps25
  go_wp2_with fail
  refine KU.out.mono ?_
  rintro e wx ⟨rfl, hw⟩
  have hw := hw.symm; subst hw
  clear KU
  go_wp2
  go_ret2
  exact ⟨rfl, hb0⟩
set_option maxHeartbeats 400000 in
theorem small_f_mid (ad : Option Addr) (n cap N : Nat) (w : World) (hN : Nt w (.slice ad n cap) N) (hc : 9223372036854775807 < N ∧ N < 18446744073709551616) :
    Calls Try.prog 25 #[.agg #[.bool false, .slice ad n cap]] w (TwoPost w (.int .i64 0) false) := by
  have hb0 := (Below.refl w.heap.size w).alloc (Nat.le_refl _) (.cells #[.bool false, .slice ad n cap] 37)
  have hN' := hN.below hb0
  have KU := Lib.hid (uint_lo _ N _ hN' (by omega))
  go_enter Try.func25, Try.ntmps25
  go_wp2_with fail
  refine KU.out.mono ?_
  rintro e wx ⟨rfl, hw⟩
  have hw := hw.symm; subst hw
  clear KU
  go_wp2
  go_ret2
  exact ⟨rfl, hb0⟩
set_option maxHeartbeats 400000 in
theorem small_f_no (ad : Option Addr) (n cap N : Nat) (w : World) (hN : Nt w (.slice ad n cap) N) (hc : 18446744073709551616 ≤ N) :
    Calls Try.prog 25 #[.agg #[.bool false, .slice ad n cap]] w (TwoPost w (.int .i64 0) false) := by
  have hb0 := (Below.refl w.heap.size w).alloc (Nat.le_refl _) (.cells #[.bool false, .slice ad n cap] 37)
  have hN' := hN.below hb0
  have KU := Lib.hid (uint_hi _ N _ hN' (by omega))
  clear hc
  go_enter Try.func25, Try.ntmps25
  go_wp2_with fail
  refine KU.out.mono ?_
  rintro e wx ⟨rfl, hw⟩
  have hw := hw.symm; subst hw
  clear KU
  go_wp2
  go_ret2
  exact ⟨rfl, hb0⟩
set_option maxHeartbeats 400000 in
theorem small_t_yes (ad : Option Addr) (n cap N : Nat) (w : World) (hN : Nt w (.slice ad n cap) N) (hc : N ≤ 9223372036854775808) :
    Calls Try.prog 25 #[.agg #[.bool true, .slice ad n cap]] w (TwoPost w (.int .i64 (-(N : Int))) true) := by
  have hb0 := (Below.refl w.heap.size w).alloc (Nat.le_refl _) (.cells #[.bool true, .slice ad n cap] 37)
  have hN' := hN.below hb0
  have KU := Lib.hid (uint_lo _ N _ hN' (by omega))
  have EW := Lib.hid (show wrap64 (IntKind.u64.wrap (-(N : Int))) = -(N : Int) by unfold wrap64; rw [IntKind.wrap_u64]; omega)
  go_enter Try.func25, Try.ntmps25
  go_wp2_with fail
  refine KU.out.mono ?_
  rintro e wx ⟨rfl, hw⟩
  have hw := hw.symm; subst hw
  clear KU
  go_wp2
  go_ret2
  exact ⟨by show Ending.returned (.tuple #[.int .i64 (wrap64 (IntKind.u64.wrap (-(N : Int)))), .bool true]) = _; rw [EW.out], hb0⟩
set_option maxHeartbeats 400000 in
theorem small_t_mid (ad : Option Addr) (n cap N : Nat) (w : World) (hN : Nt w (.slice ad n cap) N) (hc : 9223372036854775808 < N ∧ N < 18446744073709551616) :
    Calls Try.prog 25 #[.agg #[.bool true, .slice ad n cap]] w (TwoPost w (.int .i64 0) false) := by
  have hb0 := (Below.refl w.heap.size w).alloc (Nat.le_refl _) (.cells #[.bool true, .slice ad n cap] 37)
  have hN' := hN.below hb0
  have KU := Lib.hid (uint_lo _ N _ hN' (by omega))
  go_enter Try.func25, Try.ntmps25
  go_wp2_with fail
  refine KU.out.mono ?_
  rintro e wx ⟨rfl, hw⟩
  have hw := hw.symm; subst hw
  clear KU
  go_wp2
  go_ret2
  exact ⟨rfl, hb0⟩
set_option maxHeartbeats 400000 in
theorem small_t_no (ad : Option Addr) (n cap N : Nat) (w : World) (hN : Nt w (.slice ad n cap) N) (hc : 18446744073709551616 ≤ N) :
    Calls Try.prog 25 #[.agg #[.bool true, .slice ad n cap]] w (TwoPost w (.int .i64 0) false) := by
  have hb0 := (Below.refl w.heap.size w).alloc (Nat.le_refl _) (.cells #[.bool true, .slice ad n cap] 37)
  have hN' := hN.below hb0
  have KU := Lib.hid (uint_hi _ N _ hN' (by omega))
  clear hc
  go_enter Try.func25, Try.ntmps25
  go_wp2_with fail
  refine KU.out.mono ?_
  rintro e wx ⟨rfl, hw⟩
  have hw := hw.symm; subst hw
  clear KU
  go_wp2
  go_ret2
  exact ⟨rfl, hb0⟩

theorem whSmall_yes (v : Value) (z : Int) (w : World) (h : Wz w v z) (h0 : -9223372036854775808 ≤ z) (h1 : z ≤ 9223372036854775807) : Calls Try.prog 25 #[v] w (TwoPost w (.int .i64 z) true) := by
  obtain ⟨neg, ad, n, cap, N, rfl, hN, rfl⟩ := h.shape
  cases neg with
  | false => rw [sg_false] at *; exact small_f_yes ad n cap N w hN (by omega)
  | true => rw [sg_true] at *; exact small_t_yes ad n cap N w hN (by omega)
theorem whSmall_no (v : Value) (z : Int) (w : World) (h : Wz w v z) (hz : z < -9223372036854775808 ∨ 9223372036854775807 < z) : Calls Try.prog 25 #[v] w (TwoPost w (.int .i64 0) false) := by
  obtain ⟨neg, ad, n, cap, N, rfl, hN, rfl⟩ := h.shape
  cases neg with
  | false =>
    rw [sg_false] at *
    by_cases hh : N < 18446744073709551616
    · exact small_f_mid ad n cap N w hN (by omega)
    · exact small_f_no ad n cap N w hN (by omega)
  | true =>
    rw [sg_true] at *
    by_cases hh : N < 18446744073709551616
    · exact small_t_mid ad n cap N w hN (by omega)
    · exact small_t_no ad n cap N w hN (by omega)
end Go.Proofs.Ytjdmnchndnpdlaa
