import Derived.Test.YtbjgcnhilakimaaLawA
import Derived.Test.YtbjgcnhilakimaaRowIn
namespace Go.Proofs.Ytbjgcnhilakimaa
open Go.RowKit
set_option maxRecDepth 100000

theorem c3_add (p q r : Nat) : c3 (p + r) (q + r) = c3 p q := by unfold c3; split <;> split <;> (try split) <;> omega
theorem c3_neg (p q : Nat) : c3 q p = - c3 p q := by unfold c3; split <;> split <;> (try split) <;> omega
theorem c3_self (p : Nat) : c3 p p = 0 := by unfold c3; split <;> omega
theorem c3_range (p q : Nat) : -1 ≤ c3 p q ∧ c3 p q ≤ 1 := by unfold c3; split <;> (try split) <;> omega
theorem c3_le {p q : Nat} : c3 p q ≤ 0 ↔ p ≤ q := by unfold c3; split <;> (try split) <;> omega

/-- A number out of what came in, of at most m limbs. -/
theorem Acc.nt {w : World} {T base : Nat} {v : Value} {xs : List Nat} {m : Nat} (h : Acc w .u32 T base v (xs.take m)) (ho : okb B32 xs) (hm : m ≤ 1000) :
    ∃ N, Nt w v N ∧ N < B32 ^ m := by
  have hl : (xs.take m).length ≤ m := by simp; omega
  refine ⟨vl B32 (xs.take m), ⟨xs.take m, okb_take ho m, rfl, h.sq (by omega)⟩, ?_⟩
  exact Nat.lt_of_lt_of_le (vl_lt (okb_take ho m)) (Nat.pow_le_pow_right B32_pos hl)

theorem few_nt {w : World} {m : Nat} (hm : m ≤ 1000) {xs : List Nat} (ho : okb B32 xs) {e : Ending} {w' : World} (h : AccPost w .u32 65 (xs.take m) e w') :
    ∃ v N, e = .returned v ∧ Nt w' v N ∧ N < B32 ^ m ∧ Below w.heap.size w w' := by
  obtain ⟨v, h1, h2, h3⟩ := h
  obtain ⟨N, h4, h5⟩ := h2.nt ho hm
  exact ⟨v, N, h1, h4, h5, h3⟩

theorem dl_small {N m : Nat} (h : N < B32 ^ m) (hm : m ≤ 1000) : dl B32 N ≤ 1099511627776 := Nat.le_trans (dl_le B32_two h) (by omega)
theorem add_small {N M m : Nat} (h1 : N < B32 ^ m) (h2 : M < B32 ^ m) : N + M < B32 ^ (m + 1) := by
  rw [Nat.pow_succ, B32_eq]; rw [B32_eq] at h1 h2; omega
theorem below_to {w0 w w' : World} (h : Below w0.heap.size w0 w) (k : Below w.heap.size w w') : Below w0.heap.size w0 w' := h.trans (k.mono h.size)

set_option maxHeartbeats 4000000 in
theorem natOrder_walk (a0 a1 a2 : Option Addr) (n0 c0 n1 c1 n2 c2 : Nat) (x0 x1 x2 : List Nat) (w : World)
    (e0 : n0 = x0.length) (r0 : Rd w .u32 a0 x0) (o0 : okb B32 x0) (l0 : x0.length ≤ c0) (m0 : c0 ≤ maxLen) (z0 : a0 = none → c0 = 0)
    (e1 : n1 = x1.length) (r1 : Rd w .u32 a1 x1) (o1 : okb B32 x1) (l1 : x1.length ≤ c1) (m1 : c1 ≤ maxLen) (z1 : a1 = none → c1 = 0)
    (e2 : n2 = x2.length) (r2 : Rd w .u32 a2 x2) (o2 : okb B32 x2) (l2 : x2.length ≤ c2) (m2 : c2 ≤ maxLen) (z2 : a2 = none → c2 = 0) :
    Calls Try.prog 7 #[.slice a0 n0 c0, .slice a1 n1 c1, .slice a2 n2 c2] w (TruePost w) := by
  have E0 := Lib.hid e0; have E1 := Lib.hid e1; have E2 := Lib.hid e2
  clear e0 e1 e2
  go_enter Try.func7, Try.ntmps7
  go_wp2_with fail
  refine (few_any a0 _ c0 x0 8 _ E0.out r0 l0 m0 z0 (by omega)).mono ?_
  intro e wa ha
  obtain ⟨p, P, rfl, hp, bp, ba⟩ := few_nt (by omega) o0 ha
  clear ha
  go_wp2_with fail
  refine (few_any a1 _ c1 x1 8 _ E1.out (r1.below ba) l1 m1 z1 (by omega)).mono ?_
  intro e wb hb
  obtain ⟨q, Q, rfl, hq, bq, bb⟩ := few_nt (by omega) o1 hb
  have ab := below_to ba bb
  clear hb
  go_wp2_with fail
  refine (few_any a2 _ c2 x2 8 _ E2.out (r2.below ab) l2 m2 z2 (by omega)).mono ?_
  intro e wc hc
  obtain ⟨r, R, rfl, hr, br, bc⟩ := few_nt (by omega) o2 hc
  have ac := below_to ab bc
  have hp := (hp.below bb).below bc
  have hq := hq.below bc
  clear hc r0 r1 r2 ba bb ab bc E0 E1 E2 z0 z1 z2 l0 l1 l2 m0 m1 m2 o0 o1 o2
  go_wp2_with fail
  refine (awake_any _).mono ?_
  rintro e wd ⟨rfl, bd⟩
  have ad := below_to ac bd
  have hp := hp.below bd
  have hq := hq.below bd
  have hr := hr.below bd
  clear ac bd
  go_wp2_with fail
  have kc := cmp_any p q P Q wd hp hq
  refine kc.mono ?_
  intro e we hh
  obtain ⟨rfl, bd, _⟩ := quiet_below hh
  have ae := below_to ad bd
  have hp := hp.below bd
  have hq := hq.below bd
  have hr := hr.below bd
  clear kc hh ad bd
  go_wp2_with fail
  refine (add_any p r P R _ hp hr (dl_small (add_small bp br) (by omega))).mono ?_
  rintro e wf ⟨v1, rfl, d1, bd⟩
  have af := below_to ae bd
  have hp := hp.below bd
  have hq := hq.below bd
  have hr := hr.below bd
  clear ae bd
  go_wp2_with fail
  refine (add_any q r Q R _ hq hr (dl_small (add_small bq br) (by omega))).mono ?_
  rintro e wg ⟨v2, rfl, d2, bd⟩
  have ag := below_to af bd
  have hp := hp.below bd
  have hq := hq.below bd
  have hr := hr.below bd
  have d1 := d1.below bd
  clear af bd
  go_wp2_with fail
  have kc := cmp_any v1 v2 (P + R) (Q + R) wg d1.nt d2.nt
  rw [c3_add] at kc
  refine kc.mono ?_
  intro e wh hh
  obtain ⟨rfl, bd, _⟩ := quiet_below hh
  have ah := below_to ag bd
  have hp := hp.below bd
  have hq := hq.below bd
  have hr := hr.below bd
  clear kc hh ag bd d1 d2
  have hrange := c3_range P Q
  have HPQ := Lib.hid (c3_le (p := P) (q := Q))
  have HN := Lib.hid (c3_neg P Q)
  obtain ⟨c, hcc⟩ : ∃ c, c = c3 P Q := ⟨_, rfl⟩
  rw [← hcc] at HPQ HN hrange ⊢
  clear hcc
  obtain ⟨hr1, hr2⟩ := hrange
  go_wp2_with fail
  have kc := cmp_any q p Q P wh hq hp
  rw [HN.out] at kc
  refine kc.mono ?_
  intro e wi hh
  obtain ⟨rfl, bd, _⟩ := quiet_below hh
  have ai := below_to ah bd
  have hp := hp.below bd
  have hq := hq.below bd
  have hr := hr.below bd
  clear kc hh ah bd
  go_wp2_with fail
  have kc := cmp_any p p P P wi hp hp
  rw [c3_self] at kc
  refine kc.mono ?_
  intro e wj hh
  obtain ⟨rfl, bd, _⟩ := quiet_below hh
  have aj := below_to ai bd
  have hp := hp.below bd
  have hq := hq.below bd
  have hr := hr.below bd
  clear kc hh ai bd
  by_cases q1 : c ≤ 0
  · go_wp2_with fail
    have kc := cmp_any q r Q R wj hq hr
    refine kc.mono ?_
    intro e wk hh
    obtain ⟨rfl, bd, _⟩ := quiet_below hh
    have ak := below_to aj bd
    have hp := hp.below bd
    have hr := hr.below bd
    clear kc hh aj bd
    have HQR := Lib.hid (c3_le (p := Q) (q := R))
    obtain ⟨d, hdd⟩ : ∃ d, d = c3 Q R := ⟨_, rfl⟩
    rw [← hdd] at HQR ⊢
    clear hdd
    by_cases q2 : d ≤ 0
    · have hle : c3 P R ≤ 0 := c3_le.2 (Nat.le_trans (HPQ.out.1 q1) (HQR.out.1 q2))
      go_wp2_with fail
      have kc := cmp_any p r P R wk hp hr
      refine kc.mono ?_
      intro e wl hh
      obtain ⟨rfl, bd, _⟩ := quiet_below hh
      have al := below_to ak bd
      clear kc hh ak bd
      go_wp2_with fail
      go_ret
      exact ⟨rfl, al⟩
    · go_wp2_with fail
      go_ret
      exact ⟨rfl, ak⟩
  · go_wp2_with fail
    go_ret
    exact ⟨rfl, aj⟩
end Go.Proofs.Ytbjgcnhilakimaa
