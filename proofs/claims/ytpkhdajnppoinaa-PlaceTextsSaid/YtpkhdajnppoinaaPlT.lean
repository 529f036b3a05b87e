/- Words: a place's text, read again. -/
import Derived.Test.YtpkhdajnppoinaaPlB
namespace Go.Proofs.Ytpkhdajnppoinaa
open Go.RowKit
set_option maxRecDepth 100000
set_option linter.unusedVariables false

theorem ci44_app : ∀ (xs ys : List Nat), (∀ x ∈ xs, x ≠ 44) → ci44 (xs ++ 44 :: ys) = xs.length
  | [], _, _ => rfl
  | x :: l, ys, h => by
    show (if x = 44 then 0 else ci44 (l ++ 44 :: ys) + 1) = _
    rw [if_neg (h x List.mem_cons_self), ci44_app l ys fun y hy => h y (List.mem_cons_of_mem _ hy)]
    simp
theorem ci44_no : ∀ (xs : List Nat), (∀ x ∈ xs, x ≠ 44) → ci44 xs = xs.length
  | [], _ => rfl
  | x :: l, h => by
    show (if x = 44 then 0 else ci44 l + 1) = _
    rw [if_neg (h x List.mem_cons_self), ci44_no l fun y hy => h y (List.mem_cons_of_mem _ hy)]
    simp
theorem tx_no44 (z : Int) : ∀ x ∈ tx z, x ≠ 44 := by
  intro x hx
  unfold tx at hx
  split at hx
  · simp at hx; omega
  · rcases List.mem_append.1 hx with h | h
    · split at h
      · simp at h; omega
      · simp at h
    · have h2 := List.mem_reverse.1 h
      unfold asc at h2
      obtain ⟨y, _, e⟩ := List.mem_map.1 h2
      omega
theorem cx_no44 (q : Rat) : ∀ x ∈ cx q, x ≠ 44 := by
  intro x hx
  unfold cx at hx
  split at hx
  · exact tx_no44 _ x hx
  · rcases List.mem_append.1 hx with h | h
    · rcases List.mem_append.1 h with h | h
      · exact tx_no44 _ x h
      · simp at h; omega
    · exact tx_no44 _ x h
theorem two44 (p q : Rat) : has44 (cx p ++ [44] ++ cx q) = true ∧ hd44 (cx p ++ [44] ++ cx q) = cx p ∧ tl44 (cx p ++ [44] ++ cx q) = cx q := by
  have e : cx p ++ [44] ++ cx q = cx p ++ 44 :: cx q := by simp
  have e1 : ci44 (cx p ++ 44 :: cx q) = (cx p).length := ci44_app _ _ (cx_no44 _)
  have hs : has44 (cx p ++ 44 :: cx q) = true := by unfold has44; rw [e1]; exact decide_eq_true (by simp)
  rw [e]
  refine ⟨hs, by unfold hd44; rw [e1, List.take_left], ?_⟩
  unfold tl44; rw [if_pos hs, e1, List.drop_append]; simp
theorem okb44 (p q : Rat) : okb 256 (cx p ++ [44] ++ cx q) := okb_append (okb_append (cx_okb p) (by intro x hx; simp at hx; omega)) (cx_okb q)
theorem len44 {p q : Rat} (h : RLim p 2) (k : RLim q 2) : (cx p ++ [44] ++ cx q).length ≤ 1000000000 := by
  have a := cx_len h
  have b := cx_len k
  simp only [List.length_append, List.length_cons, List.length_nil]; omega
theorem frac_mk {a b : Int} (h : 1 ≤ b) : ((a : Int) : Rat) / ((b : Int) : Rat) = mkRat a b.toNat := by
  rw [Rat.mkRat_eq_div, show ((b.toNat : Nat) : Rat) = ((b : Int) : Rat) by rw [← Rat.intCast_natCast, show ((b.toNat : Nat) : Int) = b by omega]]
theorem frac_den {a b : Int} (h : 1 ≤ b) : (((((a : Int) : Rat) / ((b : Int) : Rat)).den : Nat) : Int) ≤ b := by
  rw [frac_mk h, Rat.den_mkRat, if_neg (by omega)]
  have := Nat.div_le_self b.toNat (Nat.gcd b.toNat a.natAbs)
  omega
theorem num_bd {q : Rat} {m : Int} (h0 : ((-m : Int) : Rat) ≤ q) (h1 : q ≤ ((m : Int) : Rat)) : -m * ((q.den : Nat) : Int) ≤ q.num ∧ q.num ≤ m * ((q.den : Nat) : Int) := by
  have dp := Rat.natCast_pos.2 q.den_pos
  have e : (q.num : Rat) = q * (q.den : Rat) := by
    have k : q = (q.num : Rat) / (q.den : Rat) := by rw [← Rat.mkRat_eq_div, Rat.mkRat_self]
    have : q * (q.den : Rat) = (q.num : Rat) / (q.den : Rat) * (q.den : Rat) := by rw [← k]
    rw [this, Rat.div_mul_cancel (by grind)]
  have m1 := Rat.mul_le_mul_of_nonneg_right (c := (q.den : Rat)) h1 (by grind)
  have m0 := Rat.mul_le_mul_of_nonneg_right (c := (q.den : Rat)) h0 (by grind)
  rw [← e] at m1 m0
  exact ⟨Rat.intCast_le_intCast.1 (by rw [Rat.intCast_mul, Rat.intCast_natCast]; exact m0), Rat.intCast_le_intCast.1 (by rw [Rat.intCast_mul, Rat.intCast_natCast]; exact m1)⟩
theorem an_cx {q : Rat} {m : Int} (hq : RLim q 2) (hd : ((q.den : Nat) : Int) ≤ 3600) (hm : 0 ≤ m) (hm2 : m ≤ 1000) (h0 : ((-m : Int) : Rat) ≤ q) (h1 : q ≤ ((m : Int) : Rat)) : anE (cx q) = 0 ∧ anA (cx q) = q.num ∧ anB (cx q) = ((q.den : Nat) : Int) ∧ wiB m q.num ((q.den : Nat) : Int) = true := by
  have c := ce_cxl hq (by decide)
  have n := num_bd h0 h1
  have dp : 0 < q.den := q.den_pos
  have l : m * ((q.den : Nat) : Int) ≤ 1000 * 3600 := Int.mul_le_mul hm2 hd (by omega) (by omega)
  have l2 : -m * ((q.den : Nat) : Int) = -(m * ((q.den : Nat) : Int)) := Int.neg_mul _ _
  have a := an_4 (xs := cx q) (by rw [c.1]; decide) (by rw [c.2]; exact fit64_t (by omega) (by omega)) (by rw [c.2]; exact fit64_t (by omega) (by omega)) (by rw [c.2]; omega)
  rw [c.2] at a
  exact ⟨a.1, a.2.1, a.2.2, decide_eq_true ⟨by omega, hd, n.1, n.2⟩⟩
theorem num_den (q : Rat) : ((q.num : Int) : Rat) / ((((q.den : Nat) : Int) : Int) : Rat) = q := by rw [Rat.intCast_natCast, ← Rat.mkRat_eq_div, Rat.mkRat_self]
/-- A place's text, read again. -/
theorem pp_text {a b c d : Int} (h : PlOk a b c d) :
    ppE (cx (((a : Int) : Rat) / ((b : Int) : Rat)) ++ [44] ++ cx (((c : Int) : Rat) / ((d : Int) : Rat))) = 0 ∧
    anA (hd44 (cx (((a : Int) : Rat) / ((b : Int) : Rat)) ++ [44] ++ cx (((c : Int) : Rat) / ((d : Int) : Rat)))) = (((a : Int) : Rat) / ((b : Int) : Rat)).num ∧
    anB (hd44 (cx (((a : Int) : Rat) / ((b : Int) : Rat)) ++ [44] ++ cx (((c : Int) : Rat) / ((d : Int) : Rat)))) = ((((((a : Int) : Rat) / ((b : Int) : Rat)).den : Nat) : Int)) ∧
    anA (tl44 (cx (((a : Int) : Rat) / ((b : Int) : Rat)) ++ [44] ++ cx (((c : Int) : Rat) / ((d : Int) : Rat)))) = (((c : Int) : Rat) / ((d : Int) : Rat)).num ∧
    anB (tl44 (cx (((a : Int) : Rat) / ((b : Int) : Rat)) ++ [44] ++ cx (((c : Int) : Rat) / ((d : Int) : Rat)))) = ((((((c : Int) : Rat) / ((d : Int) : Rat)).den : Nat) : Int)) := by
  have t := two44 (((a : Int) : Rat) / ((b : Int) : Rat)) (((c : Int) : Rat) / ((d : Int) : Rat))
  have b0 := h.b0; have b1 := h.b1; have a0 := h.a0; have a1 := h.a1; have d0 := h.d0; have d1 := h.d1; have c0 := h.c0; have c1 := h.c1
  have x := an_cx (q := ((a : Int) : Rat) / ((b : Int) : Rat)) (m := 60) (lim64q (by omega) (by omega) (by omega) (by omega)) (by have := frac_den (a := a) h.b0; omega) (by decide) (by decide) h.la.1 h.la.2
  have y := an_cx (q := ((c : Int) : Rat) / ((d : Int) : Rat)) (m := 180) (lim64q (by omega) (by omega) (by omega) (by omega)) (by have := frac_den (a := c) h.d0; omega) (by decide) (by decide) h.lo.1 h.lo.2
  generalize ((a : Int) : Rat) / ((b : Int) : Rat) = p at *
  generalize ((c : Int) : Rat) / ((d : Int) : Rat) = q at *
  have e := pp_4 (hast44 t.1) (by rw [t.2.1, x.1]; decide) (by rw [t.2.2, y.1]; decide)
  rw [t.2.1, t.2.2]
  refine ⟨?_, x.2.1, x.2.2.1, y.2.1, y.2.2.1⟩
  rw [e, t.2.1, t.2.2, x.2.1, x.2.2.1, y.2.1, y.2.2.1]
  unfold plE; rw [if_pos ⟨x.2.2.2, y.2.2.2⟩]
theorem ppI_yes {xs : List Nat} {z : Int} (h : ppE xs = 0) : ppI xs z = z := by unfold ppI; rw [if_pos h]
theorem ppI_bd (xs : List Nat) {z l u : Int} (h0 : l ≤ z) (h1 : z ≤ u) (l0 : l ≤ 0) (u0 : 0 ≤ u) : l ≤ ppI xs z ∧ ppI xs z ≤ u := by unfold ppI; split <;> omega
theorem pp_bd (xs : List Nat) : (-9223372036854775808 ≤ ppI xs (anA (hd44 xs)) ∧ ppI xs (anA (hd44 xs)) ≤ 9223372036854775807) ∧ (0 ≤ ppI xs (anB (hd44 xs)) ∧ ppI xs (anB (hd44 xs)) ≤ 3600) ∧ (-9223372036854775808 ≤ ppI xs (anA (tl44 xs)) ∧ ppI xs (anA (tl44 xs)) ≤ 9223372036854775807) ∧ (0 ≤ ppI xs (anB (tl44 xs)) ∧ ppI xs (anB (tl44 xs)) ≤ 3600) := by
  have a := an_bd (hd44 xs)
  have b := an_bd (tl44 xs)
  exact ⟨ppI_bd xs a.1 a.2.1 (by decide) (by decide), ppI_bd xs a.2.2.1 a.2.2.2 (by decide) (by decide), ppI_bd xs b.1 b.2.1 (by decide) (by decide), ppI_bd xs b.2.2.1 b.2.2.2 (by decide) (by decide)⟩
theorem pp_lat {a b c d : Int} (h : PlOk a b c d) :
    ((ppI (cx (((a : Int) : Rat) / ((b : Int) : Rat)) ++ [44] ++ cx (((c : Int) : Rat) / ((d : Int) : Rat))) (anA (hd44 (cx (((a : Int) : Rat) / ((b : Int) : Rat)) ++ [44] ++ cx (((c : Int) : Rat) / ((d : Int) : Rat))))) : Int) : Rat) / ((ppI (cx (((a : Int) : Rat) / ((b : Int) : Rat)) ++ [44] ++ cx (((c : Int) : Rat) / ((d : Int) : Rat))) (anB (hd44 (cx (((a : Int) : Rat) / ((b : Int) : Rat)) ++ [44] ++ cx (((c : Int) : Rat) / ((d : Int) : Rat))))) : Int) : Rat) = ((a : Int) : Rat) / ((b : Int) : Rat) := by
  have p := pp_text h
  rw [ppI_yes p.1, ppI_yes p.1, p.2.1, p.2.2.1, num_den]
theorem pp_lon {a b c d : Int} (h : PlOk a b c d) :
    ((ppI (cx (((a : Int) : Rat) / ((b : Int) : Rat)) ++ [44] ++ cx (((c : Int) : Rat) / ((d : Int) : Rat))) (anA (tl44 (cx (((a : Int) : Rat) / ((b : Int) : Rat)) ++ [44] ++ cx (((c : Int) : Rat) / ((d : Int) : Rat))))) : Int) : Rat) / ((ppI (cx (((a : Int) : Rat) / ((b : Int) : Rat)) ++ [44] ++ cx (((c : Int) : Rat) / ((d : Int) : Rat))) (anB (tl44 (cx (((a : Int) : Rat) / ((b : Int) : Rat)) ++ [44] ++ cx (((c : Int) : Rat) / ((d : Int) : Rat))))) : Int) : Rat) = ((c : Int) : Rat) / ((d : Int) : Rat) := by
  have p := pp_text h
  rw [ppI_yes p.1, ppI_yes p.1, p.2.2.2.1, p.2.2.2.2, num_den]
theorem plE_ok {a b c d : Int} (h : PlOk a b c d) : plE a b c d = 0 := by unfold plE; rw [if_pos ⟨decide_eq_true ⟨h.b0, h.b1, h.a0, h.a1⟩, decide_eq_true ⟨h.d0, h.d1, h.c0, h.c1⟩⟩]
theorem str_same {xs ys : List Nat} (h : xs = ys) : (xs.map UInt8.ofNat == ys.map UInt8.ofNat) = true := by rw [h]; simp
/-! ### How far from 0 -/
def farB (m : Int) (q : Rat) : Bool := decide (((m : Int) : Rat) < q.abs)
theorem far_iff {m a b : Int} (hb : 1 ≤ b) : farB m (((a : Int) : Rat) / ((b : Int) : Rat)) = false ↔ -m * b ≤ a ∧ a ≤ m * b := by
  have p : (0 : Rat) < ((b : Int) : Rat) := Rat.intCast_pos.2 (by omega)
  have e : ((a : Int) : Rat) = ((a : Int) : Rat) / ((b : Int) : Rat) * ((b : Int) : Rat) := (Rat.div_mul_cancel (by grind)).symm
  unfold farB
  rw [decide_eq_false_iff_not]
  constructor
  · intro h
    have h2 : (((a : Int) : Rat) / ((b : Int) : Rat)).abs ≤ ((m : Int) : Rat) := Rat.not_lt.1 h
    have u : ((a : Int) : Rat) / ((b : Int) : Rat) ≤ ((m : Int) : Rat) := by unfold Rat.abs at h2; split at h2 <;> grind
    have l : ((-m : Int) : Rat) ≤ ((a : Int) : Rat) / ((b : Int) : Rat) := by rw [Rat.intCast_neg]; unfold Rat.abs at h2; split at h2 <;> grind
    have m1 := Rat.mul_le_mul_of_nonneg_right (c := ((b : Int) : Rat)) u (by grind)
    have m0 := Rat.mul_le_mul_of_nonneg_right (c := ((b : Int) : Rat)) l (by grind)
    rw [← e] at m1 m0
    exact ⟨Rat.intCast_le_intCast.1 (by rw [Rat.intCast_mul]; exact m0), Rat.intCast_le_intCast.1 (by rw [Rat.intCast_mul]; exact m1)⟩
  · rintro ⟨h0, h1⟩
    have k0 : ((-m * b : Int) : Rat) ≤ ((a : Int) : Rat) := Rat.intCast_le_intCast.2 h0
    have k1 : ((a : Int) : Rat) ≤ ((m * b : Int) : Rat) := Rat.intCast_le_intCast.2 h1
    rw [Rat.intCast_mul, Rat.intCast_neg] at k0
    rw [Rat.intCast_mul] at k1
    have u := dv_le p k1
    have l := le_dv p k0
    refine Rat.not_lt.2 ?_
    unfold Rat.abs; split <;> grind
def rcE (a b c d : Int) : Int := if b < 1 ∨ 3600 < b ∨ d < 1 ∨ 3600 < d then 2 else if farB 60 (((a : Int) : Rat) / ((b : Int) : Rat)) = true ∨ farB 180 (((c : Int) : Rat) / ((d : Int) : Rat)) = true then 2 else 0
theorem rcE_pl (a b c d : Int) : rcE a b c d = plE a b c d := by
  unfold rcE plE
  by_cases h : b < 1 ∨ 3600 < b ∨ d < 1 ∨ 3600 < d
  · rw [if_pos h, if_neg]
    rintro ⟨x, y⟩
    have := of_decide_eq_true x
    have := of_decide_eq_true y
    omega
  · rw [if_neg h]
    have f := far_iff (m := 60) (a := a) (b := b) (by omega)
    have g := far_iff (m := 180) (a := c) (b := d) (by omega)
    by_cases k : farB 60 (((a : Int) : Rat) / ((b : Int) : Rat)) = true ∨ farB 180 (((c : Int) : Rat) / ((d : Int) : Rat)) = true
    · rw [if_pos k, if_neg]
      rintro ⟨x, y⟩
      have x := of_decide_eq_true x
      have y := of_decide_eq_true y
      rcases k with k | k
      · rw [f.2 ⟨x.2.2.1, x.2.2.2⟩] at k; cases k
      · rw [g.2 ⟨y.2.2.1, y.2.2.2⟩] at k; cases k
    · rw [if_neg k]
      have k1 : farB 60 (((a : Int) : Rat) / ((b : Int) : Rat)) = false := by simpa using fun e => k (.inl e)
      have k2 : farB 180 (((c : Int) : Rat) / ((d : Int) : Rat)) = false := by simpa using fun e => k (.inr e)
      have x := f.1 k1
      have y := g.1 k2
      rw [if_pos ⟨decide_eq_true ⟨by omega, by omega, x.1, x.2⟩, decide_eq_true ⟨by omega, by omega, y.1, y.2⟩⟩]
theorem plE_cl (a b c d : Int) : plE a b c d = plE a (min (max b (-1)) 4000) c (min (max d (-1)) 4000) := by
  unfold plE
  have e : ∀ m n b : Int, (wiB m n b = true) = (wiB m n (min (max b (-1)) 4000) = true) := by
    intro m n b
    by_cases h : 1 ≤ b ∧ b ≤ 3600
    · rw [show min (max b (-1)) 4000 = b by omega]
    · have f1 : wiB m n b = false := decide_eq_false (by omega)
      have f2 : wiB m n (min (max b (-1)) 4000) = false := decide_eq_false (by omega)
      rw [f1, f2]
  simp only [e 60 a b, e 180 c d]
end Go.Proofs.Ytpkhdajnppoinaa
