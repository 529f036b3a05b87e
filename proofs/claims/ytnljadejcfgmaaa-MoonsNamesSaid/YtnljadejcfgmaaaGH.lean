/- Rq StA RtA RtB -/
import Derived.Test.YtnljadejcfgmaaaQ
import Derived.Test.YtnljadejcfgmaaaGD
import Derived.Test.YtnljadejcfgmaaaGO

/- Rational numbers: what a value says of one; their numbers. -/
namespace Go.Proofs.Ytnljadejcfgmaaa
open Go.RowKit
set_option maxRecDepth 100000
set_option linter.unusedVariables false

theorem Dg.len {w : World} {k : IntKind} {b : Nat} {ad : Option Addr} {m c N : Nat} (h : Dg w k b (.slice ad m c) N) : m = dl b N := by
  obtain ⟨ad', cap, h1, _⟩ := h
  rw [length_dg] at h1
  injection h1
theorem Dg.len0 {w : World} {k : IntKind} {b : Nat} {ad : Option Addr} {m c : Nat} (h : Dg w k b (.slice ad m c) 0) : m = 0 := by rw [h.len, dl_zero]
theorem Dg.lenp {w : World} {k : IntKind} {b : Nat} (hb : 2 ≤ b) {ad : Option Addr} {m c N : Nat} (h : Dg w k b (.slice ad m c) N) (hN : 0 < N) : 0 < m := by rw [h.len]; exact dl_pos hb hN

theorem Wc.cast {w : World} {v : Value} {z z' : Int} (h : Wc w v z) (e : z = z') : Wc w v z' := by subst e; exact h
/-- What is kept of the lower number: nothing of 0. -/
def dn (q : Rat) : Nat := if q = 0 then 0 else q.den
theorem dn_zero : dn 0 = 0 := if_pos rfl
theorem dn_of {q : Rat} (h : q ≠ 0) : dn q = q.den := if_neg h
def Rq (w : World) (v : Value) (q : Rat) : Prop :=
  ∃ b ad n c ae m d, v = .agg #[.bool b, .slice ad n c, .slice ae m d] ∧ Wc w (.agg #[.bool b, .slice ad n c]) q.num ∧ Dg w .u32 B32 (.slice ae m d) (dn q)
def RqPost (w : World) (q : Rat) (e : Ending) (w' : World) : Prop := ∃ v, e = .returned v ∧ Rq w' v q ∧ Below w.heap.size w w'
theorem Rq.shape {w : World} {v : Value} {q : Rat} (h : Rq w v q) : ∃ b ad n c ae m d, v = .agg #[.bool b, .slice ad n c, .slice ae m d] ∧ Wc w (.agg #[.bool b, .slice ad n c]) q.num ∧ Dg w .u32 B32 (.slice ae m d) (dn q) := h
theorem Rq.form {w : World} {v : Value} {q : Rat} (h : Rq w v q) : ∃ b ad n c ae m d, v = .agg #[.bool b, .slice ad n c, .slice ae m d] := by
  obtain ⟨b, ad, n, c, ae, m, d, h1, _⟩ := h
  exact ⟨b, ad, n, c, ae, m, d, h1⟩
theorem Rq.below {w w' : World} {v : Value} {q : Rat} (h : Rq w v q) (hb : Below w.heap.size w w') : Rq w' v q := by
  obtain ⟨b, ad, n, c, ae, m, d, h1, h2, h3⟩ := h
  exact ⟨b, ad, n, c, ae, m, d, h1, h2.below hb, h3.below hb⟩
theorem Rq.keep {w w' : World} {v : Value} {q : Rat} (h : Rq w v q) (kp : Keep w w') : Rq w' v q := by
  obtain ⟨b, ad, n, c, ae, m, d, h1, h2, h3⟩ := h
  exact ⟨b, ad, n, c, ae, m, d, h1, h2.keep kp, h3.keep kp⟩
theorem num_ne {q : Rat} (h : q.num ≠ 0) : q ≠ 0 := fun e => h (by rw [e]; rfl)
theorem ne_num {q : Rat} (h : q ≠ 0) : q.num ≠ 0 := fun e => h (Rat.num_eq_zero.1 e)
theorem Rq.zero (w : World) : Rq w (.agg #[.bool false, .slice none 0 0, .slice none 0 0]) 0 :=
  ⟨false, none, 0, 0, none, 0, 0, rfl, Wc.zero w, by rw [dn_zero]; exact Dg.nil w⟩
theorem Rq.mk {w : World} {b : Bool} {ad ae : Option Addr} {n c m d N D : Nat} {q : Rat} (h1 : Dg w .u32 B32 (.slice ad n c) N) (h2 : Dg w .u32 B32 (.slice ae m d) D) (hN : N ≠ 0) (hz : sg b N = q.num) (hd : D = q.den) :
    Rq w (.agg #[.bool b, .slice ad n c, .slice ae m d]) q := by
  have hp : 0 < N := by omega
  have hne : q.num ≠ 0 := by rw [← hz]; intro e; have := congrArg Int.natAbs e; rw [sg_natAbs] at this; simp at this; omega
  have hw : Wc w (.agg #[.bool b, .slice ad n c]) (sg b N) := by
    have := Wc.sg (neg := b) h1 hp
    exact this
  rw [hz] at hw
  exact ⟨b, ad, n, c, ae, m, d, rfl, hw, by rw [dn_of (num_ne hne), ← hd]; exact h2⟩
theorem sz_sg0 {b : Bool} {N : Nat} (h : N = 0) : sz (sg b N) = 0 := by subst h; rw [sg_zero]; rfl
theorem sz_sgp {b : Bool} {N : Nat} (h : N ≠ 0) : sz (sg b N) ≠ 0 := by
  unfold sz sg
  cases b <;> simp <;> (repeat' split) <;> omega
theorem sz_eq0 {z : Int} : sz z = 0 ↔ z = 0 := by
  unfold sz; split <;> (try split) <;> simp_all
theorem eq0f {x : Int} (h : x ≠ 0) : decide (x = 0) = false := decide_eq_false h
theorem ne0t {x : Int} (h : x ≠ 0) : decide (x ≠ 0) = true := decide_eq_true h

/-! ### How great their numbers are -/
def RLim (q : Rat) (k : Nat) : Prop := Lim q.num.natAbs k ∧ Lim q.den k
theorem dn_lim {q : Rat} {k : Nat} (h : RLim q k) : Lim (dn q) k := by
  unfold dn; split
  · exact Nat.lt_of_le_of_lt (Nat.zero_le _) h.2
  · exact h.2
theorem Lim.one {k : Nat} (hk : 1 ≤ k) : Lim 1 k := Nat.lt_of_lt_of_le (by decide : 1 < B32 ^ 1) (Nat.pow_le_pow_right B32_pos hk)
theorem gcd_liml {a b k : Nat} (h : Lim a k) (ha : 0 < a) : Lim (Nat.gcd a b) k := h.le (Nat.gcd_le_left b ha)
theorem gcd_limr {a b k : Nat} (h : Lim b k) (hb : 0 < b) : Lim (Nat.gcd a b) k := h.le (Nat.gcd_le_right a hb)
theorem div_lim {a b k : Nat} (h : Lim a k) : Lim (a / b) k := h.le (Nat.div_le_self a b)

/-! ### Sums, products, quotients, as they are made -/
theorem div_parts (b1 b2 : Bool) (N M : Nat) (hM : M ≠ 0) : sg (b1 != b2) (N / Nat.gcd N M) = ((sg b1 N : Rat) / (sg b2 M : Rat)).num ∧ (N / Nat.gcd N M ≠ 0 → M / Nat.gcd N M = ((sg b1 N : Rat) / (sg b2 M : Rat)).den) := by
  have e : ((sg b1 N : Rat) / (sg b2 M : Rat)) = mkRat (sg (b1 != b2) N) M := by
    rw [← Rat.divInt_eq_div]
    cases b1 <;> cases b2 <;> simp [sg, Rat.divInt_neg', Rat.divInt_ofNat]
  rw [e, Rat.num_mkRat, Rat.den_mkRat, if_neg hM, if_neg hM, sg_natAbs, Nat.gcd_comm M N]
  refine ⟨?_, fun _ => rfl⟩
  have hg := Nat.gcd_dvd_left N M
  obtain ⟨t, ht⟩ := hg
  generalize Nat.gcd N M = g at *
  subst ht
  by_cases hg0 : g = 0
  · subst hg0; simp [sg]
  · have hgp : 0 < g := by omega
    rw [Nat.mul_div_cancel_left t hgp]
    unfold sg
    split
    · have : (-(((g * t : Nat) : Int))) = (g : Int) * (-(t : Int)) := by rw [Int.mul_neg]; simp
      rw [this, Int.mul_ediv_cancel_left _ (by omega)]
    · have : (((g * t : Nat) : Int)) = (g : Int) * (t : Int) := by simp
      rw [this, Int.mul_ediv_cancel_left _ (by omega)]
theorem sg_dec (z : Int) : sg (decide (z < 0)) z.natAbs = z := sg_self z
theorem sg_tdiv (b : Bool) (N g : Nat) : (sg b N).tdiv (g : Int) = sg b (N / g) := by
  unfold sg; cases b <;> simp
theorem sg_edvd (b : Bool) {N g : Nat} (h : g ∣ N) : sg b N / (g : Int) = sg b (N / g) := by
  obtain ⟨t, rfl⟩ := h
  by_cases hg0 : g = 0
  · subst hg0; simp [sg]
  · have hgp : 0 < g := by omega
    rw [Nat.mul_div_cancel_left t hgp]
    unfold sg
    split
    · have : (-(((g * t : Nat) : Int))) = (g : Int) * (-(t : Int)) := by rw [Int.mul_neg]; simp
      rw [this, Int.mul_ediv_cancel_left _ (by omega)]
    · have : (((g * t : Nat) : Int)) = (g : Int) * (t : Int) := by simp
      rw [this, Int.mul_ediv_cancel_left _ (by omega)]
theorem add_parts (a b : Rat) :
    sg (decide (a.num * ((b.den / Nat.gcd a.den b.den : Nat) : Int) + b.num * ((a.den / Nat.gcd a.den b.den : Nat) : Int) < 0)) ((a.num * ((b.den / Nat.gcd a.den b.den : Nat) : Int) + b.num * ((a.den / Nat.gcd a.den b.den : Nat) : Int)).natAbs / Nat.gcd (a.num * ((b.den / Nat.gcd a.den b.den : Nat) : Int) + b.num * ((a.den / Nat.gcd a.den b.den : Nat) : Int)).natAbs (Nat.gcd a.den b.den)) = (a + b).num ∧
    (a.den / Nat.gcd a.den b.den) * (b.den / Nat.gcd (a.num * ((b.den / Nat.gcd a.den b.den : Nat) : Int) + b.num * ((a.den / Nat.gcd a.den b.den : Nat) : Int)).natAbs (Nat.gcd a.den b.den)) = (a + b).den := by
  have haux := Rat.add.aux a b (g := Nat.gcd a.den b.den) (ad := a.den / Nat.gcd a.den b.den) (bd := b.den / Nat.gcd a.den b.den) rfl rfl rfl
  dsimp only at haux
  have hg : Nat.gcd a.den b.den ≠ 0 := Nat.gcd_ne_zero_left a.den_nz
  have e1 : a.den / Nat.gcd a.den b.den * Nat.gcd a.den b.den = a.den := Nat.div_mul_cancel (Nat.gcd_dvd_left _ _)
  have e2 : b.den / Nat.gcd a.den b.den * Nat.gcd a.den b.den = b.den := Nat.div_mul_cancel (Nat.gcd_dvd_right _ _)
  have hd2 : Nat.gcd a.den b.den ∣ b.den := Nat.gcd_dvd_right _ _
  have hd0 : a.den / Nat.gcd a.den b.den * b.den ≠ 0 := Nat.mul_ne_zero (fun e => a.den_nz (by rw [← e1, e, Nat.zero_mul])) b.den_nz
  have key : a + b = mkRat (a.num * ((b.den / Nat.gcd a.den b.den : Nat) : Int) + b.num * ((a.den / Nat.gcd a.den b.den : Nat) : Int)) (a.den / Nat.gcd a.den b.den * b.den) := by
    rw [Rat.add_def', ← Rat.mkRat_mul_right hg (n := a.num * ((b.den / Nat.gcd a.den b.den : Nat) : Int) + b.num * ((a.den / Nat.gcd a.den b.den : Nat) : Int))]
    congr 1
    · rw [Int.add_mul, Int.mul_assoc, Int.mul_assoc, Int.ofNat_mul_ofNat, Int.ofNat_mul_ofNat, e1, e2]
    · rw [Nat.mul_right_comm, e1]
  generalize a.num * ((b.den / Nat.gcd a.den b.den : Nat) : Int) + b.num * ((a.den / Nat.gcd a.den b.den : Nat) : Int) = S at *
  generalize Nat.gcd a.den b.den = g at *
  rw [key, Rat.num_mkRat, Rat.den_mkRat, if_neg hd0, if_neg hd0, Nat.gcd_comm _ S.natAbs, ← haux]
  refine ⟨?_, ?_⟩
  · have := sg_edvd (decide (S < 0)) (Nat.gcd_dvd_left S.natAbs g)
    rw [sg_dec] at this
    exact this.symm
  · rw [Nat.mul_div_assoc _ (Nat.dvd_trans (Nat.gcd_dvd_right S.natAbs g) hd2)]
theorem mul_parts (a b : Rat) :
    sg (decide (a.num < 0) != decide (b.num < 0)) (a.num.natAbs / Nat.gcd a.num.natAbs b.den * (b.num.natAbs / Nat.gcd b.num.natAbs a.den)) = (a * b).num ∧
    a.den / Nat.gcd b.num.natAbs a.den * (b.den / Nat.gcd a.num.natAbs b.den) = (a * b).den := by
  have e1 : (a * b).num = a.num.tdiv (Nat.gcd a.num.natAbs b.den : Nat) * b.num.tdiv (Nat.gcd b.num.natAbs a.den : Nat) := by
    show (Rat.mul a b).num = _
    delta Rat.mul
    simp only [Int.divExact_eq_tdiv]
  have e2 : (a * b).den = a.den / Nat.gcd b.num.natAbs a.den * (b.den / Nat.gcd a.num.natAbs b.den) := by
    show (Rat.mul a b).den = _
    delta Rat.mul
    simp only [Nat.divExact_eq_div]
  refine ⟨?_, e2.symm⟩
  rw [e1]
  have h1 := sg_tdiv (decide (a.num < 0)) a.num.natAbs (Nat.gcd a.num.natAbs b.den)
  have h2 := sg_tdiv (decide (b.num < 0)) b.num.natAbs (Nat.gcd b.num.natAbs a.den)
  rw [sg_dec] at h1 h2
  rw [h1, h2, ← sg_mul]
  rfl
theorem inv_parts {a : Rat} (h : a ≠ 0) : sg (decide (a.num < 0)) a.den = (a⁻¹).num ∧ a.num.natAbs = (a⁻¹).den := by
  have hn := ne_num h
  rw [Rat.num_inv, Rat.den_inv, if_neg hn]
  refine ⟨?_, rfl⟩
  unfold sg
  by_cases hl : a.num < 0
  · rw [if_pos (by simpa using hl), Int.sign_eq_neg_one_of_neg hl]; omega
  · rw [if_neg (by simpa using hl), Int.sign_eq_one_of_pos (by omega)]; omega

theorem rlim_mk {z : Int} {d k : Nat} (h1 : Lim z.natAbs k) (h2 : Lim d k) (hd : d ≠ 0) : RLim (mkRat z d) k := by
  refine ⟨h1.le ?_, h2.le ?_⟩
  · rw [Rat.num_mkRat, if_neg hd, Int.natAbs_ediv_of_dvd (by rw [Int.ofNat_dvd_left]; exact Nat.gcd_dvd_right _ _)]
    exact Nat.div_le_self _ _
  · rw [Rat.den_mkRat, if_neg hd]; exact Nat.div_le_self _ _
theorem RLim.up {q : Rat} {a : Nat} (h : RLim q a) (b : Nat) (hl : a ≤ b) : RLim q b := ⟨h.1.up b hl, h.2.up b hl⟩
theorem RLim.pos {q : Rat} {a : Nat} (h : RLim q a) : 1 ≤ a := by
  by_cases e : a = 0
  · subst e
    have h2 := h.2
    unfold Lim at h2
    have := q.den_pos
    rw [Nat.pow_zero] at h2
    omega
  · omega
theorem rlim_add {a b : Rat} {k l : Nat} (h1 : RLim a k) (h2 : RLim b l) : RLim (a + b) (k + l + 1) := by
  rw [Rat.add_def']
  refine rlim_mk ?_ ((h1.2.mul h2.2).up _ (by omega)) (Nat.mul_ne_zero a.den_nz b.den_nz)
  refine limz_add (a := k + l) (b := k + l) ?_ ?_ _ (by omega) (by omega)
  · rw [Int.natAbs_mul]; exact h1.1.mul h2.2
  · rw [Int.natAbs_mul]; exact (h2.1.mul h1.2).up _ (by omega)
theorem rlim_neg {a : Rat} {k : Nat} (h : RLim a k) : RLim (-a) k := ⟨by rw [Rat.neg_num, Int.natAbs_neg]; exact h.1, h.2⟩
theorem rlim_sub {a b : Rat} {k l : Nat} (h1 : RLim a k) (h2 : RLim b l) : RLim (a - b) (k + l + 1) := by
  rw [Rat.sub_eq_add_neg]; exact rlim_add h1 (rlim_neg h2)
theorem rlim_mul {a b : Rat} {k l : Nat} (h1 : RLim a k) (h2 : RLim b l) : RLim (a * b) (k + l) := by
  rw [Rat.mul_def']
  exact rlim_mk (by rw [Int.natAbs_mul]; exact h1.1.mul h2.1) (h1.2.mul h2.2) (Nat.mul_ne_zero a.den_nz b.den_nz)
theorem rlim_inv {a : Rat} {k : Nat} (h : RLim a k) : RLim a⁻¹ k := by
  by_cases h0 : a = 0
  · subst h0; rw [Rat.inv_zero]; exact h
  · obtain ⟨e1, e2⟩ := inv_parts h0
    exact ⟨by rw [← e1, sg_natAbs]; exact h.2, by rw [← e2]; exact h.1⟩
theorem rlim_div {a b : Rat} {k l : Nat} (h1 : RLim a k) (h2 : RLim b l) : RLim (a / b) (k + l) := by
  rw [Rat.div_def]; exact rlim_mul h1 (rlim_inv h2)
theorem rlim_int {z : Int} {k : Nat} (h : Lim z.natAbs k) (hk : 1 ≤ k) : RLim (z : Rat) k := ⟨h, Lim.one hk⟩
theorem rlim_zero {k : Nat} (hk : 1 ≤ k) : RLim 0 k := ⟨Nat.lt_of_lt_of_le (by decide : 0 < B32 ^ 1) (Nat.pow_le_pow_right B32_pos hk), Lim.one hk⟩
theorem rlim_abs {a : Rat} {k : Nat} (h : RLim a k) : RLim a.abs k := by
  unfold Rat.abs; split
  · exact h
  · exact rlim_neg h
end Go.Proofs.Ytnljadejcfgmaaa

/- Which facts stand wherever rows of numbers read as they did; the program's structs. -/
namespace Go.Proofs.Ytnljadejcfgmaaa
open Go.RowKit
set_option linter.unusedVariables false
theorem Dg.cl {k : IntKind} {b n : Nat} (v : Value) : Cl fun w => Dg w k b v n := fun _ _ h kp => Dg.keep h kp
theorem Nt.cl {N : Nat} (v : Value) : Cl fun w => Nt w v N := fun _ _ h kp => h.keep kp
theorem Wg.cl {b : Bool} {N : Nat} (v : Value) : Cl fun w => Wg w v b N := fun _ _ h kp => h.keep kp
theorem Rq.cl {q : Rat} (v : Value) : Cl fun w => Rq w v q := fun _ _ h kp => h.keep kp
theorem Wc.cl {z : Int} (v : Value) : Cl fun w => Wc w v z := fun _ _ h kp => h.keep kp
theorem Wz.cl {z : Int} (v : Value) : Cl fun w => Wz w v z := fun _ _ h kp => h.keep kp
end Go.Proofs.Ytnljadejcfgmaaa

/- rat: by, times, below, ratio, Sign, Num, Den, Make. -/
namespace Go.Proofs.Ytnljadejcfgmaaa
open Go.RowKit
set_option maxRecDepth 100000
set_option linter.unusedVariables false

theorem Rz0 {q : Rat} (h : q = 0) (w : World) : Rq w (.agg #[.bool false, .slice none 0 0, .slice none 0 0]) q := by subst h; exact Rq.zero w
end Go.Proofs.Ytnljadejcfgmaaa

/- rat: Opp, Abs, Of, Whole, Add, Mul, Sub, Div, Cmp, Same. -/
namespace Go.Proofs.Ytnljadejcfgmaaa
open Go.RowKit
set_option maxRecDepth 100000
set_option linter.unusedVariables false

/-- How two stand. -/
def qc (a b : Rat) : Int := ci (a.num * (b.den : Int)) (b.num * (a.den : Int))
theorem limz_64 {n : Int} (h0 : -9223372036854775808 ≤ n) (h1 : n ≤ 9223372036854775807) : Lim n.natAbs 2 := Lim.of64 (by omega)
theorem rlim_mk2 {z y : Int} {a b : Nat} (h1 : Lim z.natAbs a) (h2 : Lim y.natAbs b) : RLim ((z : Rat) / (y : Rat)) (max 1 (max a b)) := by
  rw [Rat.div_def]
  by_cases h0 : y = 0
  · subst h0; rw [Rat.intCast_zero, Rat.inv_zero, Rat.mul_zero]; exact rlim_zero (by omega)
  · have e : (z : Rat) * (y : Rat)⁻¹ = mkRat (z * y.sign) y.natAbs := by
      rw [← Rat.div_def, ← Rat.divInt_eq_div]
      rcases Int.lt_or_gt_of_ne h0 with h | h
      · obtain ⟨m, rfl⟩ : ∃ m : Nat, y = -(m : Int) := ⟨y.natAbs, by omega⟩
        rw [Rat.divInt_neg', Rat.divInt_ofNat, Int.sign_eq_neg_one_of_neg h, Int.natAbs_neg, Int.natAbs_natCast, Int.mul_neg, Int.mul_one]
      · obtain ⟨m, rfl⟩ : ∃ m : Nat, y = (m : Int) := ⟨y.natAbs, by omega⟩
        rw [Rat.divInt_ofNat, Int.sign_eq_one_of_pos h, Int.natAbs_natCast, Int.mul_one]
    rw [e]
    refine rlim_mk ((h1.le ?_).up _ (by omega)) (h2.up _ (by omega)) (by omega)
    rw [Int.natAbs_mul]
    have : y.sign.natAbs ≤ 1 := by rcases Int.lt_or_gt_of_ne h0 with h | h
                                   · rw [Int.sign_eq_neg_one_of_neg h]; decide
                                   · rw [Int.sign_eq_one_of_pos h]; decide
    exact Nat.le_trans (Nat.mul_le_mul_left _ this) (by omega)
theorem abs_parts (q : Rat) : sg false q.num.natAbs = q.abs.num ∧ q.den = q.abs.den := by
  unfold Rat.abs
  split
  · rename_i h
    have := Rat.num_nonneg.2 h
    exact ⟨by rw [sg_false]; omega, rfl⟩
  · rename_i h
    have : ¬ 0 ≤ q.num := fun h' => h (Rat.num_nonneg.1 h')
    exact ⟨by rw [sg_false, Rat.neg_num]; omega, rfl⟩
def BoolPost (w : World) (b : Bool) (e : Ending) (w' : World) : Prop := e = .returned (.bool b) ∧ Below w.heap.size w w'
theorem same_num {a b : Rat} (h : a.num = b.num) (hd : dn a = dn b) : a = b := by
  by_cases h0 : a = 0
  · subst h0
    exact (Rat.num_eq_zero.1 h.symm).symm
  · have h1 : b ≠ 0 := num_ne (by rw [← h]; exact ne_num h0)
    rw [dn_of h0, dn_of h1] at hd
    exact Rat.ext h hd
theorem c3_eqx {m n : Nat} (h : m = n) : c3 m n = 0 := by subst h; unfold c3; simp
theorem c3_ne {m n : Nat} (h : m ≠ n) : c3 m n ≠ 0 := by unfold c3; split <;> (try split) <;> omega
theorem ci_ne {m n : Int} (h : m ≠ n) : ci m n ≠ 0 := by unfold ci; split <;> (try split) <;> omega
end Go.Proofs.Ytnljadejcfgmaaa
