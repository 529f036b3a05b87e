/- RzA RzB RzC RzD RzE RzF -/
import Derived.Deep.RegionHeld3
import Derived.Test.YthoiocjbjfhgpaaGE
import Derived.Test.YthoiocjbjfhgpaaGT
import Derived.Test.YthoiocjbjfhgpaaGU
import Derived.Test.YthoiocjbjfhgpaaGL

/- The document's whole numbers: ref03.Make. -/
namespace Go.Proofs.Ythoiocjbjfhgpaa
open Go.RowKit
set_option maxRecDepth 100000

theorem cell_bd {w : World} {a : Addr} {v : Value} (_h : w.cell? a = some v) : Below w.heap.size w w.drew := (Below.refl _ _).drew
/-- The document's whole number: a sign, digits of base 65536. -/
def Rz (w : World) (v : Value) (z : Int) : Prop := ∃ a, v = .agg #[.bool (decide (z < 0)), a] ∧ Dg w .i64 65536 a z.natAbs
theorem Rz.below {w w' : World} {v : Value} {z : Int} (h : Rz w v z) (hb : Below w.heap.size w w') : Rz w' v z := by
  obtain ⟨a, h1, h2⟩ := h
  exact ⟨a, h1, h2.below hb⟩
theorem Keep.rz {w w' : World} (k : Keep w w') {v : Value} {z : Int} (h : Rz w v z) : Rz w' v z := by
  obtain ⟨a, h1, h2⟩ := h
  exact ⟨a, h1, k.dg h2⟩
theorem Rz.shape {w : World} {v : Value} {z : Int} (h : Rz w v z) : ∃ b ad n cap, v = .agg #[.bool b, .slice ad n cap] ∧ Hid (b = decide (z < 0)) ∧ Dg w .i64 65536 (.slice ad n cap) z.natAbs := by
  obtain ⟨a, rfl, h2⟩ := h
  have h3 := h2
  obtain ⟨ad, cap, rfl, _⟩ := h3
  exact ⟨_, ad, _, cap, rfl, Lib.hid rfl, h2⟩
theorem Rz.form {w : World} {v : Value} {z : Int} (h : Rz w v z) : ∃ (b : Bool) (ad : Option Addr) (n cap : Nat), v = .agg #[.bool b, .slice ad n cap] := by
  obtain ⟨b, ad, n, cap, h1, _⟩ := h.shape
  exact ⟨b, ad, n, cap, h1⟩
def RzPost (w : World) (z : Int) (e : Ending) (w' : World) : Prop := ∃ v, e = .returned v ∧ Rz w' v z ∧ Below w.heap.size w w'
theorem Rz.sg {w : World} {neg : Bool} {v : Value} {N : Nat} (h : Dg w .i64 65536 v N) : Rz w (.agg #[.bool (neg && decide (0 < N)), v]) (sg neg N) := by
  refine ⟨v, ?_, by rw [sg_natAbs]; exact h⟩
  by_cases h0 : N = 0
  · subst h0; rw [sg_zero]; simp
  · rw [sg_neg neg (by omega), show decide (0 < N) = true from by simp; omega, Bool.and_true]
theorem strim_dg (v : Value) (N : Nat) (w : World) (h : Dg w .i64 65536 v N) : Calls Try.prog 81 #[v] w fun e w' => e = .returned v ∧ w' = w := by
  obtain ⟨ad, cap, rfl, rd, hc, hm, hl, hn⟩ := h
  have ho := okb_dg (b := 65536) (by omega) N
  refine (strim_any 65536 (by omega) ad _ cap (dg 65536 N) w rfl rd ho (by omega) hc hn).mono ?_
  rintro e w' ⟨rfl, hw⟩
  exact ⟨by rw [vl_dg (by omega)]; rfl, hw⟩

set_option maxHeartbeats 1000000 in
theorem rmake_any (neg : Bool) (v : Value) (N : Nat) (w : World) (h : Dg w .i64 65536 v N) :
    Calls Try.prog 43 #[.bool neg, v] w (RzPost w (sg neg N)) := by
  have hsh : ∃ ad n cap, v = .slice ad n cap ∧ Hid (n = dl 65536 N) ∧ n ≤ 1099511627776 := by
    obtain ⟨ad, cap, h1, _, _, _, hl, _⟩ := h
    exact ⟨ad, _, cap, h1, Lib.hid rfl, hl⟩
  obtain ⟨ad, n, cap, rfl, HN, hl⟩ := hsh
  have hb0 := (Below.refl w.heap.size w).alloc (Nat.le_refl _) (.cells #[.bool false, .slice none 0 0] 41)
  have ni9 : NoInt (w.alloc (.cells #[.bool false, .slice none 0 0] 41)) w.heap.size := by
    have k0 := NoInt.box (w := w) (l := [.bool false, .slice none 0 0]) (T := 41) (by simp [notInt_bool, notInt_slice])
    exact k0
  have h' := h.below hb0
  have KT := Lib.hid (strim_dg _ N _ h')
  have hd : decide (0 < (n : Int)) = decide (0 < N) := by
    by_cases h0 : N = 0
    · subst h0; rw [HN.out, dl_zero]; rfl
    · have := dl_pos (b := 65536) (by omega) (show 0 < N by omega)
      rw [← HN.out] at this; simp; omega
  have hp : 0 < N ∨ N = 0 := by omega
  clear ni9
  cases neg
  · have bel9 : Below w.heap.size w (w.alloc (.cells #[.bool false, .slice ad n cap] 41)) := (Below.refl _ _).alloc (Nat.le_refl _) _
    have hz : Rz (w.alloc (.cells #[.bool false, .slice ad n cap] 41)) (.agg #[.bool false, .slice ad n cap]) (sg false N) := by
      exact Rz.sg (neg := false) (h.below bel9)
    have HZ := Lib.hid hz
    clear hz hd hp
    go_enter Try.func43, Try.ntmps43
    go_wp2_with fail
    refine KT.out.mono ?_
    rintro e wx ⟨rfl, hw⟩
    have hw := hw.symm; subst hw
    go_wp2
    exact bodyPost_ret (by simp [results, Try.results43, go_sem]) rfl ⟨_, rfl, HZ.out, bel9⟩
  · rcases hp with hp | hp
    · have hn : 0 < n := by have := dl_pos (b := 65536) (by omega) hp; rw [← HN.out] at this; exact this
      have bel9 : Below w.heap.size w (w.alloc (.cells #[.bool true, .slice ad n cap] 41)) := (Below.refl _ _).alloc (Nat.le_refl _) _
      have hz : Rz (w.alloc (.cells #[.bool true, .slice ad n cap] 41)) (.agg #[.bool true, .slice ad n cap]) (sg true N) := by
        have := Rz.sg (neg := true) (h.below bel9)
        simp [hp] at this
        exact this
      have HZ := Lib.hid hz
      clear hz hd hp
      go_enter Try.func43, Try.ntmps43
      go_wp2_with fail
      refine KT.out.mono ?_
      rintro e wx ⟨rfl, hw⟩
      have hw := hw.symm; subst hw
      go_wp2
      exact bodyPost_ret (by simp [results, Try.results43, go_sem]) rfl ⟨_, rfl, HZ.out, bel9⟩
    · have hn : n = 0 := by rw [HN.out, hp]; exact dl_zero _
      subst hn
      have bel9 : Below w.heap.size w (w.alloc (.cells #[.bool false, .slice ad 0 cap] 41)) := (Below.refl _ _).alloc (Nat.le_refl _) _
      have hz : Rz (w.alloc (.cells #[.bool false, .slice ad 0 cap] 41)) (.agg #[.bool false, .slice ad 0 cap]) (sg true N) := by
        have := Rz.sg (neg := true) (h.below bel9)
        rw [show decide (0 < N) = false from by rw [hp]; rfl] at this
        exact this
      have HZ := Lib.hid hz
      clear hz hd hp
      go_enter Try.func43, Try.ntmps43
      go_wp2_with fail
      refine KT.out.mono ?_
      rintro e wx ⟨rfl, hw⟩
      have hw := hw.symm; subst hw
      go_wp2
      exact bodyPost_ret (by simp [results, Try.results43, go_sem]) rfl ⟨_, rfl, HZ.out, bel9⟩
end Go.Proofs.Ythoiocjbjfhgpaa

/- ref03.Opp, Sign, Mul. -/
namespace Go.Proofs.Ythoiocjbjfhgpaa
open Go.RowKit
set_option maxRecDepth 100000

theorem sg_not {b : Bool} {z : Int} (h : b = decide (z < 0)) : sg (!b) z.natAbs = -z := by
  subst h; unfold sg
  by_cases h : z < 0
  · simp [h]; omega
  · simp [h]; omega
theorem sg_is {b : Bool} {z : Int} (h : b = decide (z < 0)) : sg b z.natAbs = z := by subst h; exact sg_self z
theorem Rz.len {w : World} {ad : Option Addr} {n cap N : Nat} (h : Dg w .i64 65536 (.slice ad n cap) N) : n = dl 65536 N := by
  obtain ⟨_, _, h1, _⟩ := h
  injection h1
end Go.Proofs.Ythoiocjbjfhgpaa

/- ref03.Add. -/
namespace Go.Proofs.Ythoiocjbjfhgpaa
open Go.RowKit
set_option maxRecDepth 100000

end Go.Proofs.Ythoiocjbjfhgpaa

/- ref03.Cmp. -/
namespace Go.Proofs.Ythoiocjbjfhgpaa
open Go.RowKit
set_option maxRecDepth 100000

theorem sz_sub (x y : Int) : sz (x + -y) = ci x y := by
  unfold sz ci
  split <;> (try split) <;> (try split) <;> (try split) <;> omega
end Go.Proofs.Ythoiocjbjfhgpaa

/- ref02.Of, ref03.Of. -/
namespace Go.Proofs.Ythoiocjbjfhgpaa
open Go.RowKit
set_option maxRecDepth 100000

def OfInv (w : World) (N : Nat) (n o i : Value) (wr : World) : Prop :=
  ∃ k m : Nat, k ≤ 4 ∧ k ≤ dl 65536 N ∧ i = .int .i64 k ∧ n = .int .i64 m ∧ m = N / 65536 ^ k ∧ Acc wr .i64 3 w.heap.size o ((dg 65536 N).take k) ∧ Below w.heap.size w wr

theorem of_more {N k : Nat} (h : 0 < N / 65536 ^ k) : k < dl 65536 N := by
  by_cases hk : k < dl 65536 N
  · exact hk
  · exfalso
    have h1 := lt_dl (b := 65536) (by omega) N
    have h2 : (65536 : Nat) ^ dl 65536 N ≤ 65536 ^ k := Nat.pow_le_pow_right (by omega) (by omega)
    rw [Nat.div_eq_of_lt (by omega)] at h
    omega
theorem of_done {N k : Nat} (h : N / 65536 ^ k = 0) : (dg 65536 N).take k = dg 65536 N := by
  have h1 : N < 65536 ^ k := by
    by_cases hh : N < 65536 ^ k
    · exact hh
    · have := Nat.div_pos (Nat.le_of_not_lt hh) (Nat.pow_pos (n := k) (show 0 < 65536 by omega)); omega
  exact List.take_of_length_le (dl_le (by omega) h1)
theorem of_four {N : Nat} (h : N < 18446744073709551616) : N / 65536 ^ 4 = 0 := Nat.div_eq_of_lt (Nat.lt_of_lt_of_le h (by decide))

set_option maxHeartbeats 1000000 in
theorem sOf_any (N : Nat) (w : World) (hN : N < 9223372036854775808) :
    Calls Try.prog 56 #[.int .i64 N] w (DhPost w N) := by
  obtain ⟨i0, hi, hz0, hz1, hz2⟩ := info_parts Try.info3
  have HN := Lib.hid hN
  have hd4 : dl 65536 N ≤ 1099511627776 := Nat.le_trans (dl_le (k := 4) (by omega) (Nat.lt_of_lt_of_le hN (by decide))) (by omega)
  go_enter Try.func56, Try.ntmps56
  go_wp2
  go_loopw [0, 3, 4] (fun n o i wr => OfInv w N n o i wr) (fun _ _ i _ => 4 - (intOf i).toNat)
  case atStart => exact ⟨0, N, by omega, by omega, rfl, rfl, by simp, Acc.empty w .i64 3 w.heap.size (Nat.le_refl _), (Below.refl _ _).alloc (Nat.le_refl _) _⟩
  case round =>
    obtain ⟨k, m, hk, hkd, rfl, rfl, hm, hacc, hbe⟩ := hrel
    have HM := Lib.hid hm
    have hmb : m < 9223372036854775808 := by rw [hm]; exact Nat.lt_of_le_of_lt (Nat.div_le_self _ _) HN.out
    clear hm
    by_cases hc : k < 4 ∧ 0 < m
    · obtain ⟨h4, hp⟩ := hc
      have hmore := of_more (N := N) (k := k) (by rw [← HM.out]; exact hp)
      have HT := Lib.hid (take_succ_lg (xs := dg 65536 N) (k := k) hmore)
      have HL := Lib.hid (lg_dg (b := 65536) (by omega) N k)
      have hlen : ((dg 65536 N).take k).length ≤ 2199023255552 := by simp; omega
      have HD := Lib.hid (show m / 65536 = N / 65536 ^ (k + 1) from by rw [HM.out, Nat.div_div_eq_div_mul, Nat.pow_succ])
      go_wp2_with (at_builtin; refine wp_acc _ rfl _ _ 39 rfl .i64 3 i0 8 Try.underlying39 hi hz0 hz1 hz2 (by decide) w.heap.size _ _ hacc rfl _ (m % 65536) (by omega) rfl hlen hbe.size ?_)
      intro v' w' hacc2 hbel2
      go_wp2
      go_roundw
      case rel => exact ⟨k + 1, m / 65536, by omega, hmore, by go_num, by go_num, HD.out, by rw [HT.out, HL.out, ← HM.out]; exact hacc2, hbe.trans hbel2⟩
      case measure => simp [intOf]; omega
    · have hz : m = 0 := by
        by_cases h4 : k < 4
        · omega
        · obtain rfl : k = 4 := by omega
          rw [HM.out]; exact of_four (by have := HN.out; omega)
      have HZ := Lib.hid hz
      have hend : DhPost w N (.returned _) _ := ⟨_, rfl, (by rw [of_done (by rw [← HM.out]; exact hz)] at hacc; exact hacc.sq (by rw [length_dg]; exact hd4)), hbe⟩
      have HE := Lib.hid hend
      clear hz hend hacc
      have hz1 : ¬ 0 < m := by have := HZ.out; omega
      by_cases h4 : k < 4
      all_goals
        go_wp2
        go_ret
        exact HE.out
end Go.Proofs.Ythoiocjbjfhgpaa

/- ref03.Of. -/
namespace Go.Proofs.Ythoiocjbjfhgpaa
open Go.RowKit
set_option maxRecDepth 100000

end Go.Proofs.Ythoiocjbjfhgpaa
