import Derived.Test.YtbjgcnhilakimaaLawB
import Derived.Test.YtbjgcnhilakimaaBitB
namespace Go.Proofs.Ytbjgcnhilakimaa
open Go.RowKit
set_option maxRecDepth 100000

theorem pow_mul_lt {P a m b : Nat} (h : P < B32 ^ a) (hm : m ≤ 32 * b) : P * 2 ^ m < B32 ^ (a + b) := by
  rw [Nat.pow_add]
  have h2 : (2 : Nat) ^ m ≤ B32 ^ b := by
    rw [show B32 ^ b = 2 ^ (32 * b) from by rw [Nat.pow_mul]; rfl]
    exact Nat.pow_le_pow_right (by omega) hm
  exact Nat.lt_of_le_of_lt (Nat.mul_le_mul_left P h2) (Nat.mul_lt_mul_of_pos_right h (Nat.pow_pos B32_pos))
theorem c3_ge {p q : Nat} : 0 ≤ c3 p q ↔ q ≤ p := by unfold c3; split <;> (try split) <;> omega
theorem shlOf_small {m : Nat} (h : m ≤ 8192) : shlOf (m : Int) = m := by unfold shlOf; omega

set_option maxHeartbeats 4000000 in
theorem natBack_walk (a0 a1 : Option Addr) (n0 c0 n1 c1 : Nat) (x0 x1 : List Nat) (n : Int) (w : World)
    (e0 : n0 = x0.length) (r0 : Rd w .u32 a0 x0) (o0 : okb B32 x0) (l0 : x0.length ≤ c0) (m0 : c0 ≤ maxLen) (z0 : a0 = none → c0 = 0)
    (e1 : n1 = x1.length) (r1 : Rd w .u32 a1 x1) (o1 : okb B32 x1) (l1 : x1.length ≤ c1) (m1 : c1 ≤ maxLen) (z1 : a1 = none → c1 = 0) :
    Calls Try.prog 8 #[.slice a0 n0 c0, .slice a1 n1 c1, .int .i64 n] w (TruePost w) := by
  have E0 := Lib.hid e0; have E1 := Lib.hid e1
  clear e0 e1
  obtain ⟨m, hm⟩ : ∃ m : Nat, n % 512 = (m : Int) := ⟨(n % 512).toNat, by omega⟩
  have hm5 : m < 512 := by omega
  have ha := and511 n
  rw [hm] at ha
  clear hm
  go_enter Try.func8, Try.ntmps8
  go_wp2_with fail
  refine (few_any a0 _ c0 x0 8 _ E0.out r0 l0 m0 z0 (by omega)).mono ?_
  intro e wa hf
  obtain ⟨p, P, rfl, hp, bp, ba⟩ := few_nt (by omega) o0 hf
  clear hf
  go_wp2_with fail
  refine (few_any a1 _ c1 x1 8 _ E1.out (r1.below ba) l1 m1 z1 (by omega)).mono ?_
  intro e wb hf
  obtain ⟨q, Q, rfl, hq, bq, bb⟩ := few_nt (by omega) o1 hf
  have ab := below_to ba bb
  have hp := hp.below bb
  clear hf r0 r1 ba bb E0 E1 z0 z1 l0 l1 m0 m1 o0 o1
  go_wp2_with fail
  refine (awake_any _).mono ?_
  rintro e wd ⟨rfl, bd⟩
  have ad := below_to ab bd
  have hp := hp.below bd
  have hq := hq.below bd
  clear ab bd
  go_wp2_with fail
  refine (add_any p q P Q _ hp hq (dl_small (add_small bp bq) (by omega))).mono ?_
  rintro e we ⟨v1, rfl, d1, bd⟩
  have ae := below_to ad bd
  have hp := hp.below bd
  have hq := hq.below bd
  clear ad bd
  go_wp2_with fail
  refine (sub_any v1 q (P + Q) Q _ d1.nt hq).mono ?_
  rintro e wf hs
  obtain ⟨v2, rfl, d2, bd⟩ : ∃ v2, e = .returned (.tuple #[v2, .bool true]) ∧ Dg wf .u32 B32 v2 P ∧ Below we.heap.size we wf := by
    rcases hs with ⟨h, _⟩ | ⟨_, v2, h1, h2, h3⟩
    · omega
    · exact ⟨v2, h1, by rw [Nat.add_sub_cancel] at h2; exact h2, h3⟩
  have af := below_to ae bd
  have hp := hp.below bd
  clear ae bd hs hq d1
  have S1 := Lib.hid (c3_self P)
  go_wp2_with fail
  have kc := cmp_any v2 p P P wf d2.nt hp
  rw [S1.out] at kc
  refine kc.mono ?_
  intro e wg hh
  obtain ⟨rfl, bd, _⟩ := quiet_below hh
  have ag := below_to af bd
  have hp := hp.below bd
  clear kc hh af bd d2
  have HS := Lib.hid (shlOf_small (m := m) (by omega))
  have hd1 : dl B32 (P * 2 ^ shlOf (m : Int)) ≤ 1099511627776 := by rw [HS.out]; exact dl_small (pow_mul_lt (b := 16) bp (by omega)) (by omega)
  have hd2 : dl B32 P ≤ 1099511627000 := Nat.le_trans (dl_le B32_two bp) (by omega)
  go_wp2_with fail
  have kc := shl_any p P (m : Int) wg hp hd1 hd2
  rw [HS.out] at kc
  refine kc.mono ?_
  rintro e wh ⟨v3, rfl, d3, bd⟩
  have ah := below_to ag bd
  have hp := hp.below bd
  clear kc ag bd
  go_wp2_with fail
  have kc := shr_any v3 (P * 2 ^ m) (m : Int) wh d3.nt (by omega)
  rw [show (max (m : Int) 0).toNat = m from by omega, Nat.mul_div_cancel _ (Nat.pow_pos (by omega))] at kc
  refine kc.mono ?_
  rintro e wi ⟨v4, rfl, d4, bd⟩
  have ai := below_to ah bd
  have hp := hp.below bd
  clear kc ah bd d3
  go_wp2_with fail
  have kc := cmp_any v4 p P P wi d4.nt hp
  rw [S1.out] at kc
  refine kc.mono ?_
  intro e wj hh
  obtain ⟨rfl, bd, _⟩ := quiet_below hh
  have aj := below_to ai bd
  have hp := hp.below bd
  clear kc hh ai bd d4
  go_wp2_with fail
  have kc := shl_any p P (m : Int) wj hp hd1 hd2
  rw [HS.out] at kc
  refine kc.mono ?_
  rintro e wk ⟨v5, rfl, d5, bd⟩
  have ak := below_to aj bd
  have hp := hp.below bd
  clear kc aj bd
  have hge : 0 ≤ c3 (P * 2 ^ m) P := c3_ge.2 (Nat.le_mul_of_pos_right _ (Nat.pow_pos (by omega)))
  go_wp2_with fail
  refine (cmp_any v5 p (P * 2 ^ m) P wk d5.nt hp).mono ?_
  intro e wl hh
  obtain ⟨rfl, bd, _⟩ := quiet_below hh
  have al := below_to ak bd
  have hp := hp.below bd
  clear hh ak bd d5
  go_wp2_with fail
  have kc := shr_any p P (m : Int) wl hp (by omega)
  rw [show (max (m : Int) 0).toNat = m from by omega] at kc
  refine kc.mono ?_
  rintro e wm ⟨v6, rfl, d6, bd⟩
  have am := below_to al bd
  have hp := hp.below bd
  clear kc al bd
  have hle : c3 (P / 2 ^ m) P ≤ 0 := c3_le.2 (Nat.div_le_self _ _)
  go_wp2_with fail
  refine (cmp_any v6 p (P / 2 ^ m) P wm d6.nt hp).mono ?_
  intro e wn hh
  obtain ⟨rfl, bd, _⟩ := quiet_below hh
  have an := below_to am bd
  clear hh am bd d6
  go_wp2_with fail
  go_ret
  exact ⟨rfl, an⟩
end Go.Proofs.Ytbjgcnhilakimaa
