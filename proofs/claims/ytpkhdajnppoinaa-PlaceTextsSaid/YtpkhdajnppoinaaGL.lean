/- LawA LawB LawC -/
import Derived.Test.YtpkhdajnppoinaaGV
import Derived.Test.YtpkhdajnppoinaaGA
import Derived.Test.YtpkhdajnppoinaaRowIn
import Derived.Test.YtpkhdajnppoinaaGB

namespace Go.Proofs.Ytpkhdajnppoinaa
open Go.RowKit
set_option maxRecDepth 100000

set_option maxHeartbeats 400000 in
theorem few_any (ad : Option Addr) (n cap : Nat) (xs : List Nat) (m : Nat) (w : World) (hn : n = xs.length) (hr : Rd w .u32 ad xs) (hcap : xs.length ≤ cap) (hcm : cap ≤ maxLen) (hnil : ad = none → cap = 0) (hm : m ≤ 1099511627776) :
    Calls Try.prog 100 #[.slice ad n cap, .int .i64 m] w (AccPost w .u32 95 (xs.take m)) := by
  subst hn
  unfold maxLen at hcm
  obtain ⟨i0, hi, hz0, hz1, hz2⟩ := info_parts Try.info95
  have e0 := Acc.empty w .u32 95 w.heap.size (Nat.le_refl _)
  have hbl := (Below.refl w.heap.size w).alloc (Nat.le_refl _) (.cells #[] 95)
  cases ad with
  | none =>
    have h0 := hnil rfl
    subst h0
    have : xs = [] := List.length_eq_zero_iff.1 (by omega)
    subst this
    go_enter Try.func100, Try.ntmps100
    go_wp2_with (at_builtin; refine wpList_append_own_none rfl _ _ 42 rfl w.heap.size 95 i0 1 Try.underlying42 hi _ 0 [] rfl e0.own rfl ?_)
    go_ret
    exact ⟨_, rfl, by simpa using e0, hbl⟩
  | some a =>
    by_cases hlt : m < xs.length
    · have hlen : (xs.take m).length = m := by simp; omega
      have HLN := Lib.hid hlen
      have hr' := (hr.take m).below hbl
      clear hlen
      go_enter Try.func100, Try.ntmps100
      go_wp2_with (at_builtin; refine wp_accs _ rfl _ _ 42 rfl .u32 95 i0 4 Try.underlying42 hi hz0 hz1 hz2 (by decide) w.heap.size _ [] e0 rfl a m _ (xs.take m) HLN.out.symm rfl hr' (by simp) ?_ (by simp) ?_)
      · rw [HLN.out]; omega
      · intro v' w' hacc2 hbel2 _
        go_wp2
        go_ret
        exact ⟨_, rfl, by simpa using hacc2, hbl.trans hbel2⟩
    · have hlen : xs.take m = xs := List.take_of_length_le (by omega)
      have HLN := Lib.hid hlen
      have hr' := hr.below hbl
      clear hlen
      go_enter Try.func100, Try.ntmps100
      go_wp2_with (at_builtin; refine wp_accs _ rfl _ _ 42 rfl .u32 95 i0 4 Try.underlying42 hi hz0 hz1 hz2 (by decide) w.heap.size _ [] e0 rfl a xs.length cap xs rfl rfl hr' (by simp) ?_ (by simp) ?_)
      · omega
      · intro v' w' hacc2 hbel2 _
        go_wp2
        go_ret
        exact ⟨_, rfl, by rw [HLN.out]; simpa using hacc2, hbl.trans hbel2⟩

theorem dg_two (a b : Nat) (hb : 0 < b) (h1 : a < 4294967296) (h2 : b < 4294967296) : dg B32 (a + b * 4294967296) = [a, b] := by
  have ho : okb B32 [a, b] := by intro x hx; simp at hx; rw [B32_eq]; omega
  have hn : norm [a, b] := by intro _; show b ≠ 0; omega
  have := dg_unique B32_two ho hn
  simp only [vl] at this
  rw [← this]; congr 1; rw [B32_eq]; omega

theorem dg_one (a : Nat) (h0 : 0 < a) (h1 : a < 4294967296) : dg B32 a = [a] := by
  have ho : okb B32 [a] := by intro x hx; simp at hx; rw [B32_eq]; omega
  have hn : norm [a] := by intro _; show a ≠ 0; omega
  have := dg_unique B32_two ho hn
  simp only [vl] at this
  rw [← this]; congr 1
def TruePost (w : World) (e : Ending) (w' : World) : Prop := e = .returned (.bool true) ∧ Below w.heap.size w w'
theorem dl33 : dl 2 4294967296 = 33 := dl_eq (k := 32) (by omega) (by decide) (by decide)

end Go.Proofs.Ytpkhdajnppoinaa

namespace Go.Proofs.Ytpkhdajnppoinaa
open Go.RowKit
set_option maxRecDepth 100000

theorem c3_add (p q r : Nat) : c3 (p + r) (q + r) = c3 p q := by unfold c3; split <;> split <;> (try split) <;> omega
theorem c3_neg (p q : Nat) : c3 q p = - c3 p q := by unfold c3; split <;> split <;> (try split) <;> omega
theorem c3_self (p : Nat) : c3 p p = 0 := by unfold c3; split <;> omega
theorem c3_range (p q : Nat) : -1 ≤ c3 p q ∧ c3 p q ≤ 1 := by unfold c3; split <;> (try split) <;> omega
theorem c3_le {p q : Nat} : c3 p q ≤ 0 ↔ p ≤ q := by unfold c3; split <;> (try split) <;> omega

/-- A number out of what came in, of at most m limbs. -/
theorem Acc.nt {w : World} {T base : Nat} {v : Value} {xs : List Nat} {m : Nat} (h : Acc w .u32 T base v (xs.take m)) (ho : okb B32 xs) (hm : m ≤ 1000) :
    ∃ N, Nt w v N ∧ N < B32 ^ m := by
  have hl : (xs.take m).length ≤ m := by simp; omega
  refine ⟨vl B32 (xs.take m), ⟨xs.take m, okb_take ho m, rfl, h.sq (by omega)⟩, ?_⟩
  exact Nat.lt_of_lt_of_le (vl_lt (okb_take ho m)) (Nat.pow_le_pow_right B32_pos hl)

theorem few_nt {w : World} {m : Nat} (hm : m ≤ 1000) {xs : List Nat} (ho : okb B32 xs) {e : Ending} {w' : World} (h : AccPost w .u32 95 (xs.take m) e w') :
    ∃ v N, e = .returned v ∧ Nt w' v N ∧ N < B32 ^ m ∧ Below w.heap.size w w' := by
  obtain ⟨v, h1, h2, h3⟩ := h
  obtain ⟨N, h4, h5⟩ := h2.nt ho hm
  exact ⟨v, N, h1, h4, h5, h3⟩

theorem dl_small {N m : Nat} (h : N < B32 ^ m) (hm : m ≤ 1000) : dl B32 N ≤ 1099511627776 := Nat.le_trans (dl_le B32_two h) (by omega)
theorem add_small {N M m : Nat} (h1 : N < B32 ^ m) (h2 : M < B32 ^ m) : N + M < B32 ^ (m + 1) := by
  rw [Nat.pow_succ, B32_eq]; rw [B32_eq] at h1 h2; omega

end Go.Proofs.Ytpkhdajnppoinaa

namespace Go.Proofs.Ytpkhdajnppoinaa
open Go.RowKit
set_option maxRecDepth 100000

theorem pow_mul_lt {P a m b : Nat} (h : P < B32 ^ a) (hm : m ≤ 32 * b) : P * 2 ^ m < B32 ^ (a + b) := by
  rw [Nat.pow_add]
  have h2 : (2 : Nat) ^ m ≤ B32 ^ b := by
    rw [show B32 ^ b = 2 ^ (32 * b) from by rw [Nat.pow_mul]; rfl]
    exact Nat.pow_le_pow_right (by omega) hm
  exact Nat.lt_of_le_of_lt (Nat.mul_le_mul_left P h2) (Nat.mul_lt_mul_of_pos_right h (Nat.pow_pos B32_pos))
theorem c3_ge {p q : Nat} : 0 ≤ c3 p q ↔ q ≤ p := by unfold c3; split <;> (try split) <;> omega
theorem shlOf_small {m : Nat} (h : m ≤ 8192) : shlOf (m : Int) = m := by unfold shlOf; omega

end Go.Proofs.Ytpkhdajnppoinaa
