import Derived.Test.YtnkdjldieegpjaaLawE
namespace Go.Proofs.Ytnkdjldieegpjaa
open Go.RowKit

set_option maxHeartbeats 4000000 in
theorem natShifts_walk (a0 : Option Addr) (n0 c0 : Nat) (x0 : List Nat) (n : Int) (w : World) (hn : n ≤ 9223372036854775807)
    (e0 : n0 = x0.length) (r0 : Rd w .u32 a0 x0) (o0 : okb B32 x0) (l0 : x0.length ≤ c0) (m0 : c0 ≤ maxLen) (z0 : a0 = none → c0 = 0) :
    Calls Try.prog 4 #[.slice a0 n0 c0, .int .i64 n] w (TruePost w) := by
  have E0 := Lib.hid e0
  clear e0
  have T0 := Lib.hid (take_take_self x0 12)
  have ox := okb_take o0 12
  have lx : (x0.take 12).length ≤ 12 := by simp; omega
  obtain ⟨t, ht⟩ : ∃ t : Nat, t = (max n 0).toNat := ⟨_, rfl⟩
  obtain ⟨s, hs⟩ : ∃ s : Nat, s = shlOf n := ⟨_, rfl⟩
  have e1 : max n 0 = (t : Int) := by omega
  have e2 : min (t : Int) 8192 = (s : Int) := by rw [hs]; unfold shlOf; omega
  have hs8 : s ≤ 8192 := by rw [hs]; unfold shlOf; omega
  have ht8 : t ≤ 9223372036854775807 := by omega
  have HT := Lib.hid ht; have HS := Lib.hid hs
  clear ht hs
  go_enter Try.func4, Try.ntmps4
  go_wp2_with fail
  refine (few_in a0 _ c0 x0 12 _ E0.out r0 l0 m0 z0 (by omega)).mono ?_
  rintro e wa ⟨x, rfl, sx, ba⟩
  clear r0 E0 z0 l0 m0 o0
  go_wp2_with fail
  refine (awake_any _).mono ?_
  rintro e wc ⟨rfl, bc⟩
  have ac := below_to ba bc
  have sx := sx.below bc
  clear ba bc
  go_wp2_with fail
  refine (rbits_sq x (x0.take 12) wc sx ox (by omega)).mono ?_
  rintro e wd ⟨a, rfl, da, bd⟩
  have ad := below_to ac bd
  have sx := sx.below bd
  clear ac bd
  go_wp2_with fail
  refine (few_sq x (x0.take 12) 12 wd sx (by omega)).mono ?_
  rintro e wf ⟨p, rfl, sp, bf⟩
  rw [T0.out] at sp
  have af := below_to ad bf
  have sx := sx.below bf; have da := da.below bf
  clear ad bf T0
  generalize x0.take 12 = xs at *
  obtain ⟨P, hP⟩ : ∃ P, P = vl B32 xs := ⟨_, rfl⟩
  rw [← hP] at da
  have bp : P < B32 ^ 12 := by rw [hP]; exact Nat.lt_of_lt_of_le (vl_lt ox) (Nat.pow_le_pow_right B32_pos lx)
  have HP := Lib.hid hP
  have hp : Nt wf p P := by rw [hP]; exact sp.nt ox
  clear hP
  have D2 := Lib.hid (dl2_small bp (by omega))
  have DU := Lib.hid (dl_small (pow_mul_lt (b := 256) bp (show s ≤ 32 * 256 by omega)) (by omega))
  have DP := Lib.hid (Nat.le_trans (dl_le B32_two bp) (show 12 ≤ 1099511627000 by omega))
  clear bp lx
  go_wp2_with fail
  have kc := shl_any p P n wf hp (by rw [← HS.out]; exact DU.out) DP.out
  rw [← HS.out] at kc
  refine kc.mono ?_
  rintro e wg ⟨v1, rfl, d1, bg⟩
  have ag := below_to af bg
  have sx := sx.below bg; have da := da.below bg; have sp := sp.below bg; have hp := hp.below bg
  clear kc af bg
  go_wp2_with fail
  refine (rshl_any a P s wg da (by omega) (by have := D2.out; omega)).mono ?_
  rintro e wh ⟨v2, rfl, d2, bh⟩
  have ah := below_to ag bh
  have sx := sx.below bh; have da := da.below bh; have sp := sp.below bh; have hp := hp.below bh; have d1 := d1.below bh
  clear ag bh
  go_wp2_with fail
  refine (is_any v1 v2 _ wh d1 d2).mono ?_
  rintro e wi ⟨rfl, bi⟩
  have ai := below_to ah bi
  have sx := sx.below bi; have da := da.below bi; have sp := sp.below bi; have hp := hp.below bi
  clear ah bi d1 d2
  go_wp2_with fail
  have kc := shr_any p P n wi hp hn
  rw [← HT.out] at kc
  refine kc.mono ?_
  rintro e wj ⟨v3, rfl, d3, bj⟩
  have aj := below_to ai bj
  have sx := sx.below bj; have da := da.below bj; have sp := sp.below bj; have hp := hp.below bj
  clear kc ai bj
  go_wp2_with fail
  refine (rshr_any a P t wj da ht8).mono ?_
  rintro e wk ⟨v4, rfl, d4, bk⟩
  have ak := below_to aj bk
  have sx := sx.below bk; have sp := sp.below bk; have d3 := d3.below bk
  clear aj bk
  go_wp2_with fail
  refine (is_any v3 v4 _ wk d3 d4).mono ?_
  rintro e wl ⟨rfl, bl⟩
  have al := below_to ak bl
  have sx := sx.below bl; have sp := sp.below bl
  clear ak bl d3 d4
  go_wp2_with fail
  refine (same_any p x xs wl sp sx).mono ?_
  intro e wm hh
  obtain ⟨rfl, bm, _⟩ := quiet_below hh
  have am := below_to al bm
  clear hh bm al
  go_wp2_with fail
  go_ret
  exact ⟨rfl, am⟩
end Go.Proofs.Ytnkdjldieegpjaa
