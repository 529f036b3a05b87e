import Derived.Test.YthoiocjbjfhgpaaGL
import Derived.Test.YthoiocjbjfhgpaaRefB
import Derived.Test.YthoiocjbjfhgpaaGR
namespace Go.Proofs.Ythoiocjbjfhgpaa
open Go.RowKit
set_option maxRecDepth 100000

def SameInv (w : World) (d : Nat) (i : Value) (wr : World) : Prop := ∃ k n : Nat, k ≤ d ∧ i = .int .i64 k ∧ wr = w.drewN n
set_option maxHeartbeats 1000000 in
theorem same_any (v1 v2 : Value) (xs : List Nat) (w : World) (h1 : Sq w .u32 v1 xs) (h2 : Sq w .u32 v2 xs) :
    Calls Try.prog 38 #[v1, v2] w (Quiet w (.int .i64 0)) := by
  obtain ⟨ad1, cap1, rfl, r1, c1, m1, l1, n1⟩ := h1
  obtain ⟨ad2, cap2, rfl, r2, c2, m2, l2, n2⟩ := h2
  go_enter Try.func38, Try.ntmps38
  go_wp2
  go_loopw [13] (fun i wr => SameInv w xs.length i wr) (fun i _ => xs.length - (intOf i).toNat)
  case atStart => exact ⟨0, 0, Nat.zero_le _, rfl, rfl⟩
  case round =>
    obtain ⟨k, n, hk, rfl, hw⟩ := hrel
    by_cases hlt : k < xs.length
    · obtain ⟨b1, o1, rfl, _, hc1⟩ := r1.get (by omega)
      obtain ⟨b2, o2, rfl, _, hc2⟩ := r2.get (by omega)
      have hcx : wr.cell? ⟨b1, o1 + k, none⟩ = some (.int .u32 (lg xs k : Nat)) := by rw [hw]; exact hc1 k hlt
      have hcy : wr.cell? ⟨b2, o2 + k, none⟩ = some (.int .u32 (lg xs k : Nat)) := by rw [hw]; exact hc2 k hlt
      have hkd : (k : Int) < (xs.length : Int) := by omega
      have HW := Lib.hid hw
      clear hc1 hc2 r1 r2 hw
      go_upto_region 6 with fail
      go_quiet (fail)
      go_wp2
      go_roundw
      case rel => exact ⟨k + 1, n + nq, by omega, by go_num, by rw [HW.out, World.drewN_drewN]⟩
      case measure => simp [intOf]; omega
    · have HW := Lib.hid hw
      clear r1 r2 hw
      go_wp2
      go_ret
      exact ⟨rfl, n, HW.out⟩

set_option maxHeartbeats 400000 in
theorem is_any (v1 v2 : Value) (N : Nat) (w : World) (h1 : Dg w .u32 B32 v1 N) (h2 : Dg w .i64 2 v2 N) :
    Calls Try.prog 11 #[v1, v2] w (TruePost w) := by
  have hl : (dg B32 N).length ≤ 1099511627776 := by obtain ⟨_, _, _, _, _, _, h, _⟩ := h1; exact h
  go_enter Try.func11, Try.ntmps11
  go_wp2_with fail
  refine (rlimbs_any v2 N _ h2).mono ?_
  rintro e wa ⟨v3, rfl, h3, ba⟩
  have h1 : Sq wa .u32 v1 (dg B32 N) := Dg.below h1 ba
  go_wp2_with fail
  refine (same_any v1 v3 (dg B32 N) wa h1 (h3.sq hl)).mono ?_
  intro e wb hh
  obtain ⟨rfl, bb, _⟩ := quiet_below hh
  clear hh h1 h3
  go_wp2
  go_ret
  exact ⟨rfl, below_to ba bb⟩

theorem Sq.nt {w : World} {v : Value} {xs : List Nat} (h : Sq w .u32 v xs) (ho : okb B32 xs) : Nt w v (vl B32 xs) := ⟨xs, ho, rfl, h⟩

theorem few_sq (v : Value) (xs : List Nat) (m : Nat) (w : World) (h : Sq w .u32 v xs) (hm : m ≤ 1000) :
    Calls Try.prog 8 #[v, .int .i64 m] w fun e w' => ∃ v', e = .returned v' ∧ Sq w' .u32 v' (xs.take m) ∧ Below w.heap.size w w' := by
  obtain ⟨ad, cap, rfl, r, c, m1, l, n⟩ := h
  refine (few_any ad _ cap xs m w rfl r c m1 n (by omega)).mono ?_
  rintro e w' ⟨v', h1, h2, h3⟩
  exact ⟨v', h1, h2.sq (by simp; omega), h3⟩
theorem few_in (a : Option Addr) (n c : Nat) (xs : List Nat) (m : Nat) (w : World) (e0 : n = xs.length) (r0 : Rd w .u32 a xs) (l0 : xs.length ≤ c) (m0 : c ≤ maxLen) (z0 : a = none → c = 0) (hm : m ≤ 1000) :
    Calls Try.prog 8 #[.slice a n c, .int .i64 m] w fun e w' => ∃ v', e = .returned v' ∧ Sq w' .u32 v' (xs.take m) ∧ Below w.heap.size w w' := by
  refine (few_any a n c xs m w e0 r0 l0 m0 z0 (by omega)).mono ?_
  rintro e w' ⟨v', h1, h2, h3⟩
  exact ⟨v', h1, h2.sq (by simp; omega), h3⟩
theorem rbits_sq (v : Value) (xs : List Nat) (w : World) (h : Sq w .u32 v xs) (ho : okb B32 xs) (hl : xs.length ≤ 1000) :
    Calls Try.prog 10 #[v] w (DbPost w (vl B32 xs)) := by
  obtain ⟨ad, cap, rfl, r, c, m1, l, n⟩ := h
  exact rbits_any ad _ cap xs w rfl r ho (by omega)
theorem trim_dg (v : Value) (N : Nat) (w : World) (h : Nt w v N) (hl : dl B32 N ≤ 1000) : Calls Try.prog 84 #[v] w (DgPost w N) := by
  refine (trim_any v N w h).mono ?_
  rintro e w' ⟨v', h1, h2, h3⟩
  exact ⟨v', h1, h2.sq (by rw [length_dg]; omega), h3⟩

/-- What stands in the law NatAdds. -/
structure AddsSt (w0 w : World) (x y p q a b : Value) (xs ys : List Nat) : Prop where
  bel : Below w0.heap.size w0 w
  sx : Sq w .u32 x xs
  sy : Sq w .u32 y ys
  sp : Sq w .u32 p xs
  sq : Sq w .u32 q ys
  da : Dg w .i64 2 a (vl B32 xs)
  db : Dg w .i64 2 b (vl B32 ys)
theorem AddsSt.below {w0 w w' : World} {x y p q a b : Value} {xs ys : List Nat} (h : AddsSt w0 w x y p q a b xs ys) (k : Below w.heap.size w w') : AddsSt w0 w' x y p q a b xs ys :=
  ⟨below_to h.bel k, h.sx.below k, h.sy.below k, h.sp.below k, h.sq.below k, h.da.below k, h.db.below k⟩

theorem take_take_self (xs : List Nat) (m : Nat) : (xs.take m).take m = xs.take m := by rw [List.take_take, Nat.min_self]
theorem dl2_small {N m : Nat} (h : N < B32 ^ m) (hm : m ≤ 1000) : dl 2 N ≤ 32000 := by
  refine Nat.le_trans (dl_le (b := 2) (by omega) (k := 32 * m) ?_) (by omega)
  rw [show (2 : Nat) ^ (32 * m) = B32 ^ m from by rw [Nat.pow_mul]; rfl]
  exact h
theorem ret_true {b : Bool} (h : b = true) : Ending.returned (.bool b) = .returned (.bool true) := by rw [h]
end Go.Proofs.Ythoiocjbjfhgpaa
