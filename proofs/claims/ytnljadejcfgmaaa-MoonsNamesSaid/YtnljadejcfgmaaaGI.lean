/- Rr StQ RrA RrB -/
import Derived.Test.YtnljadejcfgmaaaGH
import Derived.Test.YtnljadejcfgmaaaGF
import Derived.Test.YtnljadejcfgmaaaGG

/- The document's rational numbers: what a value says of one. -/
namespace Go.Proofs.Ytnljadejcfgmaaa
open Go.RowKit
set_option maxRecDepth 100000
set_option linter.unusedVariables false

theorem Rz.nat {w : World} {s : Value} {d : Nat} (h : Dg w .i64 65536 s d) : Rz w (.agg #[.bool false, s]) ((d : Nat) : Int) := by
  refine ⟨s, ?_, by simpa using h⟩
  rw [decide_eq_false (by omega)]
theorem lim_cast {N k : Nat} (h : Lim N k) : Lim ((N : Nat) : Int).natAbs k := by rw [Int.natAbs_natCast]; exact h
theorem Rz.zero (w : World) : Rz w (.agg #[.bool false, .slice none 0 0]) 0 := ⟨_, rfl, Dg.zero _ _ _ _ (by unfold maxLen; omega) (fun _ => rfl)⟩
theorem Rz.neg {w : World} {b : Bool} {a : Value} {z : Int} (h : Rz w (.agg #[.bool b, a]) z) : b = decide (z < 0) := by
  obtain ⟨a', h1, h2⟩ := h
  injection h1 with h1
  simp only [Array.mk.injEq, List.cons.injEq, and_true, Value.bool.injEq] at h1
  exact h1.1
def Rr (w : World) (v : Value) (q : Rat) (k : Nat) : Prop :=
  ∃ b ad n c ae m d z D, v = .agg #[.bool b, .slice ad n c, .slice ae m d] ∧ Rz w (.agg #[.bool b, .slice ad n c]) z ∧ Dg w .i64 65536 (.slice ae m d) D ∧ 0 < D ∧ q = mkRat z D ∧ Lim z.natAbs k ∧ Lim D k
def RrPost (w : World) (q : Rat) (k : Nat) (e : Ending) (w' : World) : Prop := ∃ v, e = .returned v ∧ Rr w' v q k ∧ Below w.heap.size w w'
theorem Rr.shape {w : World} {v : Value} {q : Rat} {k : Nat} (h : Rr w v q k) : ∃ b ad n c ae m d z D, v = .agg #[.bool b, .slice ad n c, .slice ae m d] ∧ Rz w (.agg #[.bool b, .slice ad n c]) z ∧ Dg w .i64 65536 (.slice ae m d) D ∧ 0 < D ∧ q = mkRat z D ∧ Lim z.natAbs k ∧ Lim D k := h
theorem Rr.form {w : World} {v : Value} {q : Rat} {k : Nat} (h : Rr w v q k) : ∃ b ad n c ae m d, v = .agg #[.bool b, .slice ad n c, .slice ae m d] := by
  obtain ⟨b, ad, n, c, ae, m, d, z, D, h1, _⟩ := h
  exact ⟨b, ad, n, c, ae, m, d, h1⟩
theorem Rr.below {w w' : World} {v : Value} {q : Rat} {k : Nat} (h : Rr w v q k) (hb : Below w.heap.size w w') : Rr w' v q k := by
  obtain ⟨b, ad, n, c, ae, m, d, z, D, h1, h2, h3, h4⟩ := h
  exact ⟨b, ad, n, c, ae, m, d, z, D, h1, h2.below hb, h3.below hb, h4⟩
theorem Rr.keep {w w' : World} {v : Value} {q : Rat} {k : Nat} (h : Rr w v q k) (kp : Keep w w') : Rr w' v q k := by
  obtain ⟨b, ad, n, c, ae, m, d, z, D, h1, h2, h3, h4⟩ := h
  exact ⟨b, ad, n, c, ae, m, d, z, D, h1, h2.keep kp, h3.keep kp, h4⟩
theorem Rr.mk {w : World} {b : Bool} {ad ae : Option Addr} {n c m d : Nat} {z : Int} {D : Nat} {q : Rat} {k : Nat} (h1 : Rz w (.agg #[.bool b, .slice ad n c]) z) (h2 : Dg w .i64 65536 (.slice ae m d) D) (hD : 0 < D) (hq : q = mkRat z D) (l1 : Lim z.natAbs k) (l2 : Lim D k) :
    Rr w (.agg #[.bool b, .slice ad n c, .slice ae m d]) q k := ⟨b, ad, n, c, ae, m, d, z, D, rfl, h1, h2, hD, hq, l1, l2⟩
theorem Rr.up {w : World} {v : Value} {q : Rat} {k : Nat} (h : Rr w v q k) (j : Nat) (hj : k ≤ j) : Rr w v q j := by
  obtain ⟨b, ad, n, c, ae, m, d, z, D, h1, h2, h3, h4, h5, h6, h7⟩ := h
  exact ⟨b, ad, n, c, ae, m, d, z, D, h1, h2, h3, h4, h5, h6.up j hj, h7.up j hj⟩
theorem Rr.cast {w : World} {v : Value} {q q' : Rat} {k : Nat} (h : Rr w v q k) (e : q = q') : Rr w v q' k := by subst e; exact h
theorem mk_div (z y : Int) (h : y ≠ 0) : mkRat (sg (decide (z < 0) != decide (y < 0)) z.natAbs) y.natAbs = (z : Rat) / (y : Rat) := by
  rw [← Rat.divInt_eq_div]
  have hz : z = sg (decide (z < 0)) z.natAbs := (sg_self z).symm
  generalize hb : decide (z < 0) = b at *
  rcases Int.lt_or_gt_of_ne h with h' | h'
  · obtain ⟨m, rfl⟩ : ∃ m : Nat, y = -(m : Int) := ⟨y.natAbs, by omega⟩
    rw [decide_eq_true h', Rat.divInt_neg', Rat.divInt_ofNat, Int.natAbs_neg, Int.natAbs_natCast]
    congr 1
    generalize z.natAbs = N at *
    subst hz
    cases b <;> simp [sg]
  · obtain ⟨m, rfl⟩ : ∃ m : Nat, y = (m : Int) := ⟨y.natAbs, by omega⟩
    rw [decide_eq_false (by omega), Rat.divInt_ofNat, Int.natAbs_natCast]
    congr 1
    generalize z.natAbs = N at *
    subst hz
    cases b <;> simp [sg]
theorem radd_eq {z1 z2 : Int} {d1 d2 : Nat} (h1 : 0 < d1) (h2 : 0 < d2) : ((z1 * (d2 : Int) + z2 * (d1 : Int) : Int) : Rat) / (((d1 : Int) * (d2 : Int) : Int) : Rat) = mkRat z1 d1 + mkRat z2 d2 := by
  rw [Rat.mkRat_add_mkRat _ _ (by omega) (by omega), ← Rat.divInt_eq_div, Int.ofNat_mul_ofNat, Rat.divInt_ofNat]
theorem rmul_eq {z1 z2 : Int} {d1 d2 : Nat} (h1 : 0 < d1) (h2 : 0 < d2) : ((z1 * z2 : Int) : Rat) / (((d1 * d2 : Nat) : Int) : Rat) = mkRat z1 d1 * mkRat z2 d2 := by
  rw [Rat.mkRat_mul_mkRat, ← Rat.divInt_eq_div, Rat.divInt_ofNat]
theorem rdiv_eq {z1 z2 : Int} {d1 d2 : Nat} (h1 : 0 < d1) (h2 : 0 < d2) : ((z1 * (d2 : Int) : Int) : Rat) / (((d1 : Int) * z2 : Int) : Rat) = mkRat z1 d1 / mkRat z2 d2 := by
  have e1 : mkRat z1 d1 = Rat.divInt z1 (d1 : Int) := (Rat.divInt_ofNat z1 d1).symm
  have e2 : mkRat z2 d2 = Rat.divInt z2 (d2 : Int) := (Rat.divInt_ofNat z2 d2).symm
  rw [e1, e2, Rat.div_def (Rat.divInt z1 (d1 : Int)), Rat.inv_divInt, Rat.divInt_mul_divInt, Rat.divInt_eq_div]
theorem sz_mk {z : Int} {d : Nat} (h : 0 < d) : sz z = sz (mkRat z d).num := by
  rw [Rat.num_mkRat, if_neg (by omega)]
  have hg : Nat.gcd d z.natAbs ∣ z.natAbs := Nat.gcd_dvd_right _ _
  have hp : 0 < Nat.gcd d z.natAbs := Nat.gcd_pos_of_pos_left _ h
  obtain ⟨t, ht⟩ : ((Nat.gcd d z.natAbs : Nat) : Int) ∣ z := Int.ofNat_dvd_left.2 hg
  generalize Nat.gcd d z.natAbs = g at *
  subst ht
  rw [Int.mul_ediv_cancel_left _ (by omega)]
  unfold sz
  rcases Int.lt_trichotomy t 0 with h1 | h1 | h1
  · have := Int.mul_neg_of_pos_of_neg (show (0 : Int) < g by omega) h1
    rw [if_neg (by omega), if_pos this, if_neg (by omega), if_pos h1]
  · subst h1; simp
  · have := Int.mul_pos (show (0 : Int) < g by omega) h1
    rw [if_neg (by omega), if_neg (by omega), if_neg (by omega), if_neg (by omega)]
theorem cross_lt {z1 z2 : Int} {d1 d2 : Nat} (h1 : 0 < d1) (h2 : 0 < d2) : z1 * (d2 : Int) < z2 * (d1 : Int) ↔ mkRat z1 d1 < mkRat z2 d2 := by
  have e1 := Rat.mkRat_eq_div z1 d1
  have e2 := Rat.mkRat_eq_div z2 d2
  have p1 : (0 : Rat) < (d1 : Rat) := Rat.natCast_pos.2 h1
  have p2 : (0 : Rat) < (d2 : Rat) := Rat.natCast_pos.2 h2
  rw [e1, e2, Rat.div_lt_iff p1, ← Rat.intCast_lt_intCast, Rat.intCast_mul, Rat.intCast_mul, Rat.intCast_natCast, Rat.intCast_natCast]
  rw [show (z2 : Rat) / (d2 : Rat) * (d1 : Rat) = (z2 * (d1 : Rat)) / (d2 : Rat) by rw [Rat.div_def, Rat.div_def, Rat.mul_assoc, Rat.mul_assoc, Rat.mul_comm (d2 : Rat)⁻¹]]
  rw [Rat.lt_div_iff p2]
theorem ci_cross {z1 z2 : Int} {d1 d2 : Nat} (h1 : 0 < d1) (h2 : 0 < d2) : ci (z1 * (d2 : Int)) (z2 * (d1 : Int)) = qc (mkRat z1 d1) (mkRat z2 d2) := by
  have a := cross_lt (z1 := z1) (z2 := z2) h1 h2
  have b := cross_lt (z1 := z2) (z2 := z1) h2 h1
  have c := Rat.lt_iff (mkRat z1 d1) (mkRat z2 d2)
  have d := Rat.lt_iff (mkRat z2 d2) (mkRat z1 d1)
  unfold qc ci
  simp only [← c, ← d, a, b]
end Go.Proofs.Ytnljadejcfgmaaa

/- The document's: which facts stand; its structs. -/
namespace Go.Proofs.Ytnljadejcfgmaaa
open Go.RowKit
set_option linter.unusedVariables false
theorem Rr.cl {q : Rat} {k : Nat} (v : Value) : Cl fun w => Rr w v q k := fun _ _ h kp => h.keep kp
theorem Rz.cl {z : Int} (v : Value) : Cl fun w => Rz w v z := fun _ _ h kp => h.keep kp
end Go.Proofs.Ytnljadejcfgmaaa

/- The document's rational numbers: Make, Add, Mul, Div, Opp, Sub, Sign, Cmp, Abs, Of. -/
namespace Go.Proofs.Ytnljadejcfgmaaa
open Go.RowKit
set_option maxRecDepth 100000
set_option linter.unusedVariables false

theorem rz_lim {k : Nat} (h : 1 ≤ k) : Lim (0 : Int).natAbs k := Nat.lt_of_lt_of_le (by decide : 0 < B32 ^ 1) (Nat.pow_le_pow_right B32_pos h)
theorem sz_neg {z : Int} : sz z < 0 ↔ z < 0 := by unfold sz; split <;> (try split) <;> omega
theorem abs_neg_of {q : Rat} (h : sz q.num < 0) : -q = Rat.abs q := by
  have h1 := sz_neg.1 h
  rw [Rat.abs_of_nonpos]
  exact Rat.not_lt.1 (fun h2 => by have := Rat.num_nonneg.2 (Rat.le_of_lt h2); omega)
theorem abs_pos_of {q : Rat} (h : ¬ sz q.num < 0) : q = Rat.abs q := by
  have h1 : 0 ≤ q.num := by 
    rcases Int.lt_or_le q.num 0 with e | e
    · exact absurd (sz_neg.2 e) h
    · exact e
  rw [Rat.abs_of_nonneg (Rat.num_nonneg.1 h1)]
theorem limz_64' {n : Int} (h0 : -9223372036854775808 < n) (h1 : n ≤ 9223372036854775807) : Lim n.natAbs 2 := Lim.of64 (by omega)
end Go.Proofs.Ytnljadejcfgmaaa

/- The document's sums and differences. -/
namespace Go.Proofs.Ytnljadejcfgmaaa
open Go.RowKit
set_option maxRecDepth 100000
set_option linter.unusedVariables false

end Go.Proofs.Ytnljadejcfgmaaa
