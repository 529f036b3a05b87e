/- Rq RtA RtB -/
import Derived.Test.YtmpdbkdijfpbbaaGreatQ
import Derived.Test.YtmpdbkdijfpbbaaGreatGD

/- Rational numbers: what a value says of one; their numbers. -/
namespace Go.Proofs.YtmpdbkdijfpbbaaGreat
open Go.RowKit
set_option maxRecDepth 100000
set_option linter.unusedVariables false

theorem Dg.len {w : World} {k : IntKind} {b : Nat} {ad : Option Addr} {m c N : Nat} (h : Dg w k b (.slice ad m c) N) : m = dl b N := by
  obtain ⟨ad', cap, h1, _⟩ := h
  rw [length_dg] at h1
  injection h1
theorem Dg.len0 {w : World} {k : IntKind} {b : Nat} {ad : Option Addr} {m c : Nat} (h : Dg w k b (.slice ad m c) 0) : m = 0 := by rw [h.len, dl_zero]
theorem Dg.lenp {w : World} {k : IntKind} {b : Nat} (hb : 2 ≤ b) {ad : Option Addr} {m c N : Nat} (h : Dg w k b (.slice ad m c) N) (hN : 0 < N) : 0 < m := by rw [h.len]; exact dl_pos hb hN

theorem Wc.cast {w : World} {v : Value} {z z' : Int} (h : Wc w v z) (e : z = z') : Wc w v z' := by subst e; exact h
/-- What is kept of the lower number: nothing of 0. -/
def dn (q : Rat) : Nat := if q = 0 then 0 else q.den
theorem dn_zero : dn 0 = 0 := if_pos rfl
theorem dn_of {q : Rat} (h : q ≠ 0) : dn q = q.den := if_neg h
def Rq (w : World) (v : Value) (q : Rat) : Prop :=
  ∃ b ad n c ae m d, v = .agg #[.bool b, .slice ad n c, .slice ae m d] ∧ Wc w (.agg #[.bool b, .slice ad n c]) q.num ∧ Dg w .u32 B32 (.slice ae m d) (dn q)
def RqPost (w : World) (q : Rat) (e : Ending) (w' : World) : Prop := ∃ v, e = .returned v ∧ Rq w' v q ∧ Below w.heap.size w w'
theorem Rq.shape {w : World} {v : Value} {q : Rat} (h : Rq w v q) : ∃ b ad n c ae m d, v = .agg #[.bool b, .slice ad n c, .slice ae m d] ∧ Wc w (.agg #[.bool b, .slice ad n c]) q.num ∧ Dg w .u32 B32 (.slice ae m d) (dn q) := h
theorem Rq.form {w : World} {v : Value} {q : Rat} (h : Rq w v q) : ∃ b ad n c ae m d, v = .agg #[.bool b, .slice ad n c, .slice ae m d] := by
  obtain ⟨b, ad, n, c, ae, m, d, h1, _⟩ := h
  exact ⟨b, ad, n, c, ae, m, d, h1⟩
theorem Rq.below {w w' : World} {v : Value} {q : Rat} (h : Rq w v q) (hb : Below w.heap.size w w') : Rq w' v q := by
  obtain ⟨b, ad, n, c, ae, m, d, h1, h2, h3⟩ := h
  exact ⟨b, ad, n, c, ae, m, d, h1, h2.below hb, h3.below hb⟩
theorem Rq.keep {w w' : World} {v : Value} {q : Rat} (h : Rq w v q) (kp : Keep w w') : Rq w' v q := by
  obtain ⟨b, ad, n, c, ae, m, d, h1, h2, h3⟩ := h
  exact ⟨b, ad, n, c, ae, m, d, h1, h2.keep kp, h3.keep kp⟩
theorem num_ne {q : Rat} (h : q.num ≠ 0) : q ≠ 0 := fun e => h (by rw [e]; rfl)
theorem ne_num {q : Rat} (h : q ≠ 0) : q.num ≠ 0 := fun e => h (Rat.num_eq_zero.1 e)
theorem Rq.zero (w : World) : Rq w (.agg #[.bool false, .slice none 0 0, .slice none 0 0]) 0 :=
  ⟨false, none, 0, 0, none, 0, 0, rfl, Wc.zero w, by rw [dn_zero]; exact Dg.nil w⟩
theorem Rq.mk {w : World} {b : Bool} {ad ae : Option Addr} {n c m d N D : Nat} {q : Rat} (h1 : Dg w .u32 B32 (.slice ad n c) N) (h2 : Dg w .u32 B32 (.slice ae m d) D) (hN : N ≠ 0) (hz : sg b N = q.num) (hd : D = q.den) :
    Rq w (.agg #[.bool b, .slice ad n c, .slice ae m d]) q := by
  have hp : 0 < N := by omega
  have hne : q.num ≠ 0 := by rw [← hz]; intro e; have := congrArg Int.natAbs e; rw [sg_natAbs] at this; simp at this; omega
  have hw : Wc w (.agg #[.bool b, .slice ad n c]) (sg b N) := by
    have := Wc.sg (neg := b) h1 hp
    exact this
  rw [hz] at hw
  exact ⟨b, ad, n, c, ae, m, d, rfl, hw, by rw [dn_of (num_ne hne), ← hd]; exact h2⟩
theorem sz_sg0 {b : Bool} {N : Nat} (h : N = 0) : sz (sg b N) = 0 := by subst h; rw [sg_zero]; rfl
theorem sz_sgp {b : Bool} {N : Nat} (h : N ≠ 0) : sz (sg b N) ≠ 0 := by
  unfold sz sg
  cases b <;> simp <;> (repeat' split) <;> omega
theorem sz_eq0 {z : Int} : sz z = 0 ↔ z = 0 := by
  unfold sz; split <;> (try split) <;> simp_all
theorem eq0f {x : Int} (h : x ≠ 0) : decide (x = 0) = false := decide_eq_false h
theorem ne0t {x : Int} (h : x ≠ 0) : decide (x ≠ 0) = true := decide_eq_true h

/-! ### How great their numbers are -/
def RLim (q : Rat) (k : Nat) : Prop := Lim q.num.natAbs k ∧ Lim q.den k
theorem dn_lim {q : Rat} {k : Nat} (h : RLim q k) : Lim (dn q) k := by
  unfold dn; split
  · exact Nat.lt_of_le_of_lt (Nat.zero_le _) h.2
  · exact h.2
theorem Lim.one {k : Nat} (hk : 1 ≤ k) : Lim 1 k := Nat.lt_of_lt_of_le (by decide : 1 < B32 ^ 1) (Nat.pow_le_pow_right B32_pos hk)
theorem gcd_liml {a b k : Nat} (h : Lim a k) (ha : 0 < a) : Lim (Nat.gcd a b) k := h.le (Nat.gcd_le_left b ha)
theorem gcd_limr {a b k : Nat} (h : Lim b k) (hb : 0 < b) : Lim (Nat.gcd a b) k := h.le (Nat.gcd_le_right a hb)
theorem div_lim {a b k : Nat} (h : Lim a k) : Lim (a / b) k := h.le (Nat.div_le_self a b)

/-! ### Sums, products, quotients, as they are made -/
theorem div_parts (b1 b2 : Bool) (N M : Nat) (hM : M ≠ 0) : sg (b1 != b2) (N / Nat.gcd N M) = ((sg b1 N : Rat) / (sg b2 M : Rat)).num ∧ (N / Nat.gcd N M ≠ 0 → M / Nat.gcd N M = ((sg b1 N : Rat) / (sg b2 M : Rat)).den) := by
  have e : ((sg b1 N : Rat) / (sg b2 M : Rat)) = mkRat (sg (b1 != b2) N) M := by
    rw [← Rat.divInt_eq_div]
    cases b1 <;> cases b2 <;> simp [sg, Rat.divInt_neg', Rat.divInt_ofNat]
  rw [e, Rat.num_mkRat, Rat.den_mkRat, if_neg hM, if_neg hM, sg_natAbs, Nat.gcd_comm M N]
  refine ⟨?_, fun _ => rfl⟩
  have hg := Nat.gcd_dvd_left N M
  obtain ⟨t, ht⟩ := hg
  generalize Nat.gcd N M = g at *
  subst ht
  by_cases hg0 : g = 0
  · subst hg0; simp [sg]
  · have hgp : 0 < g := by omega
    rw [Nat.mul_div_cancel_left t hgp]
    unfold sg
    split
    · have : (-(((g * t : Nat) : Int))) = (g : Int) * (-(t : Int)) := by rw [Int.mul_neg]; simp
      rw [this, Int.mul_ediv_cancel_left _ (by omega)]
    · have : (((g * t : Nat) : Int)) = (g : Int) * (t : Int) := by simp
      rw [this, Int.mul_ediv_cancel_left _ (by omega)]
theorem sg_dec (z : Int) : sg (decide (z < 0)) z.natAbs = z := sg_self z
theorem sg_tdiv (b : Bool) (N g : Nat) : (sg b N).tdiv (g : Int) = sg b (N / g) := by
  unfold sg; cases b <;> simp
theorem sg_edvd (b : Bool) {N g : Nat} (h : g ∣ N) : sg b N / (g : Int) = sg b (N / g) := by
  obtain ⟨t, rfl⟩ := h
  by_cases hg0 : g = 0
  · subst hg0; simp [sg]
  · have hgp : 0 < g := by omega
    rw [Nat.mul_div_cancel_left t hgp]
    unfold sg
    split
    · have : (-(((g * t : Nat) : Int))) = (g : Int) * (-(t : Int)) := by rw [Int.mul_neg]; simp
      rw [this, Int.mul_ediv_cancel_left _ (by omega)]
    · have : (((g * t : Nat) : Int)) = (g : Int) * (t : Int) := by simp
      rw [this, Int.mul_ediv_cancel_left _ (by omega)]
theorem add_parts (a b : Rat) :
    sg (decide (a.num * ((b.den / Nat.gcd a.den b.den : Nat) : Int) + b.num * ((a.den / Nat.gcd a.den b.den : Nat) : Int) < 0)) ((a.num * ((b.den / Nat.gcd a.den b.den : Nat) : Int) + b.num * ((a.den / Nat.gcd a.den b.den : Nat) : Int)).natAbs / Nat.gcd (a.num * ((b.den / Nat.gcd a.den b.den : Nat) : Int) + b.num * ((a.den / Nat.gcd a.den b.den : Nat) : Int)).natAbs (Nat.gcd a.den b.den)) = (a + b).num ∧
    (a.den / Nat.gcd a.den b.den) * (b.den / Nat.gcd (a.num * ((b.den / Nat.gcd a.den b.den : Nat) : Int) + b.num * ((a.den / Nat.gcd a.den b.den : Nat) : Int)).natAbs (Nat.gcd a.den b.den)) = (a + b).den := by
  have haux := Rat.add.aux a b (g := Nat.gcd a.den b.den) (ad := a.den / Nat.gcd a.den b.den) (bd := b.den / Nat.gcd a.den b.den) rfl rfl rfl
  dsimp only at haux
  have hg : Nat.gcd a.den b.den ≠ 0 := Nat.gcd_ne_zero_left a.den_nz
  have e1 : a.den / Nat.gcd a.den b.den * Nat.gcd a.den b.den = a.den := Nat.div_mul_cancel (Nat.gcd_dvd_left _ _)
  have e2 : b.den / Nat.gcd a.den b.den * Nat.gcd a.den b.den = b.den := Nat.div_mul_cancel (Nat.gcd_dvd_right _ _)
  have hd2 : Nat.gcd a.den b.den ∣ b.den := Nat.gcd_dvd_right _ _
  have hd0 : a.den / Nat.gcd a.den b.den * b.den ≠ 0 := Nat.mul_ne_zero (fun e => a.den_nz (by rw [← e1, e, Nat.zero_mul])) b.den_nz
  have key : a + b = mkRat (a.num * ((b.den / Nat.gcd a.den b.den : Nat) : Int) + b.num * ((a.den / Nat.gcd a.den b.den : Nat) : Int)) (a.den / Nat.gcd a.den b.den * b.den) := by
    rw [Rat.add_def', ← Rat.mkRat_mul_right hg (n := a.num * ((b.den / Nat.gcd a.den b.den : Nat) : Int) + b.num * ((a.den / Nat.gcd a.den b.den : Nat) : Int))]
    congr 1
    · rw [Int.add_mul, Int.mul_assoc, Int.mul_assoc, Int.ofNat_mul_ofNat, Int.ofNat_mul_ofNat, e1, e2]
    · rw [Nat.mul_right_comm, e1]
  generalize a.num * ((b.den / Nat.gcd a.den b.den : Nat) : Int) + b.num * ((a.den / Nat.gcd a.den b.den : Nat) : Int) = S at *
  generalize Nat.gcd a.den b.den = g at *
  rw [key, Rat.num_mkRat, Rat.den_mkRat, if_neg hd0, if_neg hd0, Nat.gcd_comm _ S.natAbs, ← haux]
  refine ⟨?_, ?_⟩
  · have := sg_edvd (decide (S < 0)) (Nat.gcd_dvd_left S.natAbs g)
    rw [sg_dec] at this
    exact this.symm
  · rw [Nat.mul_div_assoc _ (Nat.dvd_trans (Nat.gcd_dvd_right S.natAbs g) hd2)]
theorem mul_parts (a b : Rat) :
    sg (decide (a.num < 0) != decide (b.num < 0)) (a.num.natAbs / Nat.gcd a.num.natAbs b.den * (b.num.natAbs / Nat.gcd b.num.natAbs a.den)) = (a * b).num ∧
    a.den / Nat.gcd b.num.natAbs a.den * (b.den / Nat.gcd a.num.natAbs b.den) = (a * b).den := by
  have e1 : (a * b).num = a.num.tdiv (Nat.gcd a.num.natAbs b.den : Nat) * b.num.tdiv (Nat.gcd b.num.natAbs a.den : Nat) := by
    show (Rat.mul a b).num = _
    delta Rat.mul
    simp only [Int.divExact_eq_tdiv]
  have e2 : (a * b).den = a.den / Nat.gcd b.num.natAbs a.den * (b.den / Nat.gcd a.num.natAbs b.den) := by
    show (Rat.mul a b).den = _
    delta Rat.mul
    simp only [Nat.divExact_eq_div]
  refine ⟨?_, e2.symm⟩
  rw [e1]
  have h1 := sg_tdiv (decide (a.num < 0)) a.num.natAbs (Nat.gcd a.num.natAbs b.den)
  have h2 := sg_tdiv (decide (b.num < 0)) b.num.natAbs (Nat.gcd b.num.natAbs a.den)
  rw [sg_dec] at h1 h2
  rw [h1, h2, ← sg_mul]
  rfl
theorem inv_parts {a : Rat} (h : a ≠ 0) : sg (decide (a.num < 0)) a.den = (a⁻¹).num ∧ a.num.natAbs = (a⁻¹).den := by
  have hn := ne_num h
  rw [Rat.num_inv, Rat.den_inv, if_neg hn]
  refine ⟨?_, rfl⟩
  unfold sg
  by_cases hl : a.num < 0
  · rw [if_pos (by simpa using hl), Int.sign_eq_neg_one_of_neg hl]; omega
  · rw [if_neg (by simpa using hl), Int.sign_eq_one_of_pos (by omega)]; omega

theorem rlim_mk {z : Int} {d k : Nat} (h1 : Lim z.natAbs k) (h2 : Lim d k) (hd : d ≠ 0) : RLim (mkRat z d) k := by
  refine ⟨h1.le ?_, h2.le ?_⟩
  · rw [Rat.num_mkRat, if_neg hd, Int.natAbs_ediv_of_dvd (by rw [Int.ofNat_dvd_left]; exact Nat.gcd_dvd_right _ _)]
    exact Nat.div_le_self _ _
  · rw [Rat.den_mkRat, if_neg hd]; exact Nat.div_le_self _ _
theorem RLim.up {q : Rat} {a : Nat} (h : RLim q a) (b : Nat) (hl : a ≤ b) : RLim q b := ⟨h.1.up b hl, h.2.up b hl⟩
theorem RLim.pos {q : Rat} {a : Nat} (h : RLim q a) : 1 ≤ a := by
  by_cases e : a = 0
  · subst e
    have h2 := h.2
    unfold Lim at h2
    have := q.den_pos
    rw [Nat.pow_zero] at h2
    omega
  · omega
theorem rlim_add {a b : Rat} {k l : Nat} (h1 : RLim a k) (h2 : RLim b l) : RLim (a + b) (k + l + 1) := by
  rw [Rat.add_def']
  refine rlim_mk ?_ ((h1.2.mul h2.2).up _ (by omega)) (Nat.mul_ne_zero a.den_nz b.den_nz)
  refine limz_add (a := k + l) (b := k + l) ?_ ?_ _ (by omega) (by omega)
  · rw [Int.natAbs_mul]; exact h1.1.mul h2.2
  · rw [Int.natAbs_mul]; exact (h2.1.mul h1.2).up _ (by omega)
theorem rlim_neg {a : Rat} {k : Nat} (h : RLim a k) : RLim (-a) k := ⟨by rw [Rat.neg_num, Int.natAbs_neg]; exact h.1, h.2⟩
theorem rlim_sub {a b : Rat} {k l : Nat} (h1 : RLim a k) (h2 : RLim b l) : RLim (a - b) (k + l + 1) := by
  rw [Rat.sub_eq_add_neg]; exact rlim_add h1 (rlim_neg h2)
theorem rlim_mul {a b : Rat} {k l : Nat} (h1 : RLim a k) (h2 : RLim b l) : RLim (a * b) (k + l) := by
  rw [Rat.mul_def']
  exact rlim_mk (by rw [Int.natAbs_mul]; exact h1.1.mul h2.1) (h1.2.mul h2.2) (Nat.mul_ne_zero a.den_nz b.den_nz)
theorem rlim_inv {a : Rat} {k : Nat} (h : RLim a k) : RLim a⁻¹ k := by
  by_cases h0 : a = 0
  · subst h0; rw [Rat.inv_zero]; exact h
  · obtain ⟨e1, e2⟩ := inv_parts h0
    exact ⟨by rw [← e1, sg_natAbs]; exact h.2, by rw [← e2]; exact h.1⟩
theorem rlim_div {a b : Rat} {k l : Nat} (h1 : RLim a k) (h2 : RLim b l) : RLim (a / b) (k + l) := by
  rw [Rat.div_def]; exact rlim_mul h1 (rlim_inv h2)
theorem rlim_int {z : Int} {k : Nat} (h : Lim z.natAbs k) (hk : 1 ≤ k) : RLim (z : Rat) k := ⟨h, Lim.one hk⟩
theorem rlim_zero {k : Nat} (hk : 1 ≤ k) : RLim 0 k := ⟨Nat.lt_of_lt_of_le (by decide : 0 < B32 ^ 1) (Nat.pow_le_pow_right B32_pos hk), Lim.one hk⟩
theorem rlim_abs {a : Rat} {k : Nat} (h : RLim a k) : RLim a.abs k := by
  unfold Rat.abs; split
  · exact h
  · exact rlim_neg h
end Go.Proofs.YtmpdbkdijfpbbaaGreat

/- rat: by, times, below, ratio, Sign, Num, Den, Make. -/
namespace Go.Proofs.YtmpdbkdijfpbbaaGreat
open Go.RowKit
set_option maxRecDepth 100000
set_option linter.unusedVariables false

set_option maxHeartbeats 1000000 in
theorem rby_any (v1 v2 : Value) (N M : Nat) (w : World) (h1 : Nt w v1 N) (h2 : Nt w v2 M) :
    Calls Tryz.prog 59 #[v1, v2] w (DgPost w (N / M)) := by
  have bel : Below w.heap.size w w := Below.refl _ _
  refine E.enter (nt := 14) (L := [(0, v1), (1, v2)]) Tryz.func59 rfl rfl rfl (args_cons (i := 0) rfl (args_cons (i := 1) rfl args_nil)) ?_
  intro a hF
  refine wp_seq ?_
  refine E.seq ?_
  refine E.opv hF (r_assign ev_c) rfl rfl rfl rfl fun a hF => ?_
  refine E.nil ?_
  refine wp_seq ?_
  refine E.seq ?_
  refine E.opv hF (r_move (hF.at 1 rfl)) rfl rfl rfl rfl fun a hF => ?_
  refine E.opv hF (r_move (hF.at 3 rfl)) rfl rfl rfl rfl fun a hF => ?_
  refine E.call hF (r_call Tryz.func87 en87.1 en87.2 (map2 (hF.at 1 rfl) (hF.at 0 rfl))) (divMod_any _ _ N M _ h1 h2) rfl rfl rfl rfl ?_
  rintro e w1 ⟨vv2, vv3, rfl, hh4, hh5, bb⟩
  refine ⟨_, rfl, ?_⟩
  intro a hF
  replace bel := below_to bel bb
  clear bb
  obtain ⟨ad6, n6, c6, rfl⟩ := Dg.form hh4
  obtain ⟨ad7, n7, c7, rfl⟩ := Dg.form hh5
  refine E.opv hF (r_move (hF.at 0 rfl)) rfl rfl rfl rfl fun a hF => ?_
  refine E.opv hF (r_extract (v := .slice ad6 n6 c6) (hF.at 0 rfl) rfl) rfl rfl rfl rfl fun a hF => ?_
  refine E.opv hF (r_extract (v := .slice ad7 n7 c7) (hF.at 1 rfl) rfl) rfl rfl rfl rfl fun a hF => ?_
  refine E.opv hF (r_assign (hF.at 1 rfl)) rfl rfl rfl rfl fun a hF => ?_
  refine E.opv hF (r_assign (hF.at 1 rfl)) rfl rfl rfl rfl fun a hF => ?_
  refine E.nil ?_
  refine wp_seq ?_
  refine E.seq ?_
  refine E.opv hF (r_move (hF.at 1 rfl)) rfl rfl rfl rfl fun a hF => ?_
  refine E.opset (L' := [(4, .slice ad6 n6 c6), (13, .slice ad6 n6 c6), (6, .slice ad7 n7 c7), (5, .slice ad6 n6 c6), (12, .slice ad7 n7 c7), (11, .slice ad6 n6 c6), (7, .tuple #[.slice ad6 n6 c6, .slice ad7 n7 c7]), (10, .tuple #[.slice ad6 n6 c6, .slice ad7 n7 c7]), (9, v2), (8, v1), (0, v1), (1, v2)]) hF (r_assign (hF.at 0 rfl)) rfl rfl rfl rfl fun a hF => ?_
  refine E.nil ?_
  refine wp_ret ?_
  refine bodyPost_ret (res_tmp Tryz.results59 (hF.at 0 rfl)) hF.dfr ?_
  exact ⟨_, rfl, hh4, bel⟩

set_option maxHeartbeats 1000000 in
theorem rtimes_any (v1 v2 : Value) (z : Int) (N j k : Nat) (w : World) (h1 : Wz w v1 z) (h2 : Nt w v2 N) (l1 : Lim z.natAbs j) (l2 : Lim N k) (hj : j ≤ 1000000) (hk : k ≤ 1000000) :
    Calls Tryz.prog 60 #[v1, v2] w (WcPost w (z * (N : Int))) := by
  obtain ⟨neg1, ad1, n1, c1, N1, rfl, hN1, rfl⟩ := h1.shape
  have h1 : Wz w (.agg #[.bool neg1, .slice ad1 n1 c1]) (sg neg1 N1) := ⟨_, _, _, rfl, hN1, rfl⟩
  obtain ⟨ad2, n2, c2, rfl⟩ := h2.form
  have bel : Below w.heap.size w w := Below.refl _ _
  refine E.enter (nt := 9) (L := [(0, .agg #[.bool neg1, .slice ad1 n1 c1]), (1, .slice ad2 n2 c2)]) Tryz.func60 rfl rfl rfl (args_cons (i := 0) rfl (args_cons (i := 1) rfl args_nil)) ?_
  intro a hF
  refine wp_seq ?_
  refine E.seq ?_
  obtain ⟨g2, w1, ge2, hr, bb, o2⟩ := own_box (P := Tryz.prog) (w := w) (cs := [.bool neg1, .slice ad1 n1 c1]) (v := .agg #[.bool neg1, .slice ad1 n1 c1]) 30 rfl (niB (niS ni0))
  replace ge2 : w.heap.size ≤ g2 := by rw [← ge2]; exact bel.size
  refine E.opv hF (r_box (hF.at 0 rfl) hr) rfl rfl rfl rfl fun a hF => ?_
  clear hr
  replace h2 := h2.below bb
  replace h1 := h1.below bb
  replace hN1 := hN1.below bb
  replace bel := below_to bel bb
  clear bb
  obtain ⟨g4, w2, ge4, hr, bb, o4⟩ := own_alloc (P := Tryz.prog) (w := w1) (cs := [.bool false, .slice none 0 0]) 30 ze_Int rfl (niB (niS ni0))
  have ne2_4 : g2 ≠ g4 := by rw [← ge4]; exact o2.ne_new
  replace ge4 : w.heap.size ≤ g4 := by rw [← ge4]; exact bel.size
  refine E.opv hF (r_alloc hr) rfl rfl rfl rfl fun a hF => ?_
  clear hr
  replace h2 := h2.below bb
  replace hN1 := hN1.below bb
  replace h1 := h1.below bb
  replace o2 := o2.below bb
  replace bel := below_to bel bb
  clear bb
  refine E.nil ?_
  refine wp_seq ?_
  refine E.seq ?_
  refine E.opv hF (r_load (hF.at 1 rfl) (ld_Int (vs := [.bool neg1, .slice ad1 n1 c1]) o2 rfl rfl)) rfl rfl rfl rfl fun a hF => ?_
  refine E.opv hF (r_move (hF.at 4 rfl)) rfl rfl rfl rfl fun a hF => ?_
  refine E.opv hF (r_build (pair1 (hF.at 0 rfl)) (bd_Int_1 _ _ _ _)) rfl rfl rfl rfl fun a hF => ?_
  refine E.call hF (r_call Tryz.func88 en88.1 en88.2 (map2 (hF.at 2 rfl) (hF.at 0 rfl))) (whMul_any _ _ _ _ j k _ h1 (Wz.mk h2) l1 (sg_lim _ l2) (by omega) (by omega)) rfl rfl rfl rfl ?_
  rintro e w3 ⟨vv4, rfl, hh5, bb⟩
  refine ⟨_, rfl, ?_⟩
  intro a hF
  replace o4 := o4.below bb
  replace bel := below_to bel bb
  clear bb
  obtain ⟨ad6, n6, c6, rfl, _⟩ := Wc.shape hh5
  obtain ⟨w7, hr, tu, on⟩ := st_Int (vs := [.bool (decide ((sg neg1 N1) * (sg false (N)) < 0)), .slice ad6 n6 c6]) o4 rfl rfl (ocB (ocS oc0)) (niB (niS ni0)) (o := 0) rfl
  have kp := tu.keep o4
  refine E.st hF (r_store (hF.at 4 rfl) (hF.at 0 rfl) (hr _ rfl)) rfl rfl fun a hF => ?_
  clear hr
  replace hh5 := hh5.keep kp
  replace bel := tu.below bel ge4
  clear tu kp
  replace o4 := on
  clear on
  have hf8 := Wc.abs hh5
  refine E.nil ?_
  refine wp_ret ?_
  refine bodyPost_ret (res_cell Tryz.results60 (hF.at 4 rfl) (ld_Int (vs := [.bool (decide ((sg neg1 N1) * (sg false (N)) < 0)), .slice ad6 n6 c6]) o4 rfl rfl)) hF.dfr ?_
  exact ⟨_, rfl, hh5, bel⟩

set_option maxHeartbeats 1000000 in
theorem rbelow_any (v1 : Value) (q1 : Rat) (w : World) (h1 : Rq w v1 q1) :
    Calls Tryz.prog 58 #[v1] w (DgPost w (q1.den)) := by
  obtain ⟨b1, ad1, n1, c1, ae1, m1, d1, rfl, hn1, hd1⟩ := h1.shape
  have h1 : Rq w (.agg #[.bool b1, .slice ad1 n1 c1, .slice ae1 m1 d1]) q1 := ⟨_, _, _, _, _, _, _, rfl, hn1, hd1⟩
  have ha1 := hn1.abs
  have hb1 := hn1.neg
  by_cases h0 : q1 = 0
  · subst h0
    rw [dn_zero] at hd1
    have hm := hd1.len0
    clear h1
    have bel : Below w.heap.size w w := Below.refl _ _
    refine E.enter (nt := 10) (L := [(0, .agg #[.bool b1, .slice ad1 n1 c1, .slice ae1 m1 d1])]) Tryz.func58 rfl rfl rfl (args_cons (i := 0) rfl args_nil) ?_
    intro a hF
    refine wp_seq ?_
    refine E.seq ?_
    obtain ⟨g1, w1, ge1, hr, bb, o1⟩ := own_box (P := Tryz.prog) (w := w) (cs := [.bool b1, .slice ad1 n1 c1, .slice ae1 m1 d1]) (v := .agg #[.bool b1, .slice ad1 n1 c1, .slice ae1 m1 d1]) 32 rfl (niB (niS (niS ni0)))
    replace ge1 : w.heap.size ≤ g1 := by rw [← ge1]; exact bel.size
    refine E.opv hF (r_box (hF.at 0 rfl) hr) rfl rfl rfl rfl fun a hF => ?_
    clear hr
    replace h1 := h1.below bb
    replace hn1 := hn1.below bb
    replace ha1 := ha1.below bb
    replace hd1 := hd1.below bb
    replace bel := below_to bel bb
    clear bb
    refine E.opv hF (r_assign ev_c) rfl rfl rfl rfl fun a hF => ?_
    refine E.nil ?_
    refine wp_seq ?_
    refine wp_seq ?_
    refine E.seq ?_
    refine E.opv hF (r_field (hF.at 1 rfl) (fa_Rat_1 (p := 2) rfl)) rfl rfl rfl rfl fun a hF => ?_
    refine E.opv hF (r_load (hF.at 0 rfl) (ld_Nat (v := .slice ae1 m1 d1) o1 rfl)) rfl rfl rfl rfl fun a hF => ?_
    refine E.opv hF (r_builtin (map1 (hF.at 0 rfl)) bl_nat) rfl rfl rfl rfl fun a hF => ?_
    refine E.opv hF (r_bin (hF.at 0 rfl) ev_c eg_scalar (bi_int (ic_eql (c := true) (eq0 (by rw [hm]; rfl))) (by simp))) rfl rfl rfl rfl fun a hF => ?_
    refine E.nil ?_
    refine wp_cond_true (hF.at 0 rfl) ?_
    refine wp_seq ?_
    refine E.seq ?_
    refine E.call hF (r_call Tryz.func41 en41.1 en41.2 (map1 ev_c)) (of_any 1 _ (by decide)) rfl rfl rfl rfl ?_
    rintro e w2 ⟨vv3, rfl, hh4, bb⟩
    refine ⟨_, rfl, ?_⟩
    intro a hF
    replace ha1 := ha1.below bb
    replace hd1 := hd1.below bb
    replace h1 := h1.below bb
    replace hn1 := hn1.below bb
    replace o1 := o1.below bb
    replace bel := below_to bel bb
    clear bb
    obtain ⟨ad5, n5, c5, rfl⟩ := Dg.form hh4
    refine E.opset (L' := [(2, .slice ad5 n5 c5), (7, .slice ad5 n5 c5), (6, .bool true), (5, .int .i64 ((m1 : Nat) : Int)), (4, .slice ae1 m1 d1), (3, .pointer (some ⟨g1, 2, none⟩)), (1, .pointer (some ⟨g1, 0, none⟩)), (0, .agg #[.bool b1, .slice ad1 n1 c1, .slice ae1 m1 d1])]) hF (r_assign (hF.at 0 rfl)) rfl rfl rfl rfl fun a hF => ?_
    refine E.nil ?_
    refine wp_ret ?_
    refine bodyPost_ret (res_tmp Tryz.results58 (hF.at 0 rfl)) hF.dfr ?_
    exact ⟨_, rfl, hh4, bel⟩
  · rw [dn_of h0] at hd1
    have hm := hd1.lenp B32_two (Rat.den_pos q1)
    clear h1
    have bel : Below w.heap.size w w := Below.refl _ _
    refine E.enter (nt := 10) (L := [(0, .agg #[.bool b1, .slice ad1 n1 c1, .slice ae1 m1 d1])]) Tryz.func58 rfl rfl rfl (args_cons (i := 0) rfl args_nil) ?_
    intro a hF
    refine wp_seq ?_
    refine E.seq ?_
    obtain ⟨g1, w1, ge1, hr, bb, o1⟩ := own_box (P := Tryz.prog) (w := w) (cs := [.bool b1, .slice ad1 n1 c1, .slice ae1 m1 d1]) (v := .agg #[.bool b1, .slice ad1 n1 c1, .slice ae1 m1 d1]) 32 rfl (niB (niS (niS ni0)))
    replace ge1 : w.heap.size ≤ g1 := by rw [← ge1]; exact bel.size
    refine E.opv hF (r_box (hF.at 0 rfl) hr) rfl rfl rfl rfl fun a hF => ?_
    clear hr
    replace h1 := h1.below bb
    replace hn1 := hn1.below bb
    replace ha1 := ha1.below bb
    replace hd1 := hd1.below bb
    replace bel := below_to bel bb
    clear bb
    refine E.opv hF (r_assign ev_c) rfl rfl rfl rfl fun a hF => ?_
    refine E.nil ?_
    refine wp_seq ?_
    refine wp_seq ?_
    refine E.seq ?_
    refine E.opv hF (r_field (hF.at 1 rfl) (fa_Rat_1 (p := 2) rfl)) rfl rfl rfl rfl fun a hF => ?_
    refine E.opv hF (r_load (hF.at 0 rfl) (ld_Nat (v := .slice ae1 m1 d1) o1 rfl)) rfl rfl rfl rfl fun a hF => ?_
    refine E.opv hF (r_builtin (map1 (hF.at 0 rfl)) bl_nat) rfl rfl rfl rfl fun a hF => ?_
    refine E.opv hF (r_bin (hF.at 0 rfl) ev_c eg_scalar (bi_int (ic_eql (c := false) (eq0f (by omega))) (by simp))) rfl rfl rfl rfl fun a hF => ?_
    refine E.nil ?_
    refine wp_cond_false (hF.at 0 rfl) ?_
    refine wp_skip ?_
    refine E.norm ?_
    refine wp_seq ?_
    refine E.seq ?_
    refine E.opv hF (r_field (hF.at 5 rfl) (fa_Rat_1 (p := 2) rfl)) rfl rfl rfl rfl fun a hF => ?_
    refine E.opv hF (r_load (hF.at 0 rfl) (ld_Nat (v := .slice ae1 m1 d1) o1 rfl)) rfl rfl rfl rfl fun a hF => ?_
    refine E.opset (L' := [(2, .slice ae1 m1 d1), (9, .slice ae1 m1 d1), (8, .pointer (some ⟨g1, 2, none⟩)), (6, .bool false), (5, .int .i64 ((m1 : Nat) : Int)), (4, .slice ae1 m1 d1), (3, .pointer (some ⟨g1, 2, none⟩)), (1, .pointer (some ⟨g1, 0, none⟩)), (0, .agg #[.bool b1, .slice ad1 n1 c1, .slice ae1 m1 d1])]) hF (r_assign (hF.at 0 rfl)) rfl rfl rfl rfl fun a hF => ?_
    refine E.nil ?_
    refine wp_ret ?_
    refine bodyPost_ret (res_tmp Tryz.results58 (hF.at 0 rfl)) hF.dfr ?_
    exact ⟨_, rfl, hd1, bel⟩

theorem Rz0 {q : Rat} (h : q = 0) (w : World) : Rq w (.agg #[.bool false, .slice none 0 0, .slice none 0 0]) q := by subst h; exact Rq.zero w
set_option maxHeartbeats 1000000 in
theorem ratio_any (b : Bool) (s v2 : Value) (N D : Nat) (q : Rat) (w : World) (h1 : Dg w .u32 B32 s N) (h2 : Dg w .u32 B32 v2 D) (hz : sg b N = q.num) (hd : N ≠ 0 → D = q.den) :
    Calls Tryz.prog 62 #[.agg #[.bool b, s], v2] w (RqPost w q) := by
  obtain ⟨ad1, n1, c1, rfl⟩ := h1.form
  obtain ⟨ae1, m1, d1, rfl⟩ := h2.form
  have hg : Wg w (.agg #[.bool b, .slice ad1 n1 c1]) b N := Wg.mk h1
  by_cases h0 : N = 0
  · have hq : q = 0 := Rat.num_eq_zero.1 (by rw [← hz, h0, sg_zero])
    have bel : Below w.heap.size w w := Below.refl _ _
    refine E.enter (nt := 12) (L := [(0, .agg #[.bool b, .slice ad1 n1 c1]), (1, .slice ae1 m1 d1)]) Tryz.func62 rfl rfl rfl (args_cons (i := 0) rfl (args_cons (i := 1) rfl args_nil)) ?_
    intro a hF
    refine wp_seq ?_
    refine E.seq ?_
    obtain ⟨g2, w1, ge2, hr, bb, o2⟩ := own_box (P := Tryz.prog) (w := w) (cs := [.bool b, .slice ad1 n1 c1]) (v := .agg #[.bool b, .slice ad1 n1 c1]) 30 rfl (niB (niS ni0))
    replace ge2 : w.heap.size ≤ g2 := by rw [← ge2]; exact bel.size
    refine E.opv hF (r_box (hF.at 0 rfl) hr) rfl rfl rfl rfl fun a hF => ?_
    clear hr
    replace h2 := h2.below bb
    replace hg := hg.below bb
    replace h1 := h1.below bb
    replace bel := below_to bel bb
    clear bb
    obtain ⟨g4, w2, ge4, hr, bb, o4⟩ := own_alloc (P := Tryz.prog) (w := w1) (cs := [.bool false, .slice none 0 0, .slice none 0 0]) 32 ze_Rat rfl (niB (niS (niS ni0)))
    have ne2_4 : g2 ≠ g4 := by rw [← ge4]; exact o2.ne_new
    replace ge4 : w.heap.size ≤ g4 := by rw [← ge4]; exact bel.size
    refine E.opv hF (r_alloc hr) rfl rfl rfl rfl fun a hF => ?_
    clear hr
    replace h2 := h2.below bb
    replace h1 := h1.below bb
    replace hg := hg.below bb
    replace o2 := o2.below bb
    replace bel := below_to bel bb
    clear bb
    refine E.nil ?_
    refine wp_seq ?_
    refine wp_seq ?_
    refine E.seq ?_
    refine E.opv hF (r_load (hF.at 1 rfl) (ld_Int (vs := [.bool b, .slice ad1 n1 c1]) o2 rfl rfl)) rfl rfl rfl rfl fun a hF => ?_
    refine E.call hF (r_call Tryz.func57 en57.1 en57.2 (map1 (hF.at 0 rfl))) (whSign_any _ _ _ (Wg.wz hg)) rfl rfl rfl rfl ?_
    rintro e w3 ⟨rfl, bb⟩
    refine ⟨_, rfl, ?_⟩
    intro a hF
    replace h2 := h2.below bb
    replace h1 := h1.below bb
    replace hg := hg.below bb
    replace o2 := o2.below bb
    replace o4 := o4.below bb
    replace bel := below_to bel bb
    clear bb
    refine E.opv hF (r_bin (hF.at 0 rfl) ev_c eg_scalar (bi_int (ic_eql (c := true) (eq0 (sz_sg0 h0))) (by simp))) rfl rfl rfl rfl fun a hF => ?_
    refine E.nil ?_
    refine wp_cond_true (hF.at 0 rfl) ?_
    refine wp_seq ?_
    refine E.seq ?_
    refine E.opv hF (r_build (by simp) (bd_Rat_ _)) rfl rfl rfl rfl fun a hF => ?_
    obtain ⟨w4, hr, tu, on⟩ := st_Rat (vs := [.bool false, .slice none 0 0, .slice none 0 0]) o4 rfl rfl (ocB (ocS (ocS oc0))) (niB (niS (niS ni0))) (o := 0) rfl
    have kp := tu.keep o4
    refine E.st hF (r_store (hF.at 4 rfl) (hF.at 0 rfl) (hr _ rfl)) rfl rfl fun a hF => ?_
    clear hr
    replace h2 := h2.keep kp
    replace h1 := h1.keep kp
    replace hg := hg.keep kp
    replace o2 := tu.own o2 ne2_4
    replace bel := tu.below bel ge4
    clear tu kp
    replace o4 := on
    clear on
    refine E.nil ?_
    refine wp_ret ?_
    refine bodyPost_ret (res_cell Tryz.results62 (hF.at 4 rfl) (ld_Rat (vs := [.bool false, .slice none 0 0, .slice none 0 0]) o4 rfl rfl)) hF.dfr ?_
    exact ⟨_, rfl, Rz0 hq _, bel⟩
  · have bel : Below w.heap.size w w := Below.refl _ _
    refine E.enter (nt := 12) (L := [(0, .agg #[.bool b, .slice ad1 n1 c1]), (1, .slice ae1 m1 d1)]) Tryz.func62 rfl rfl rfl (args_cons (i := 0) rfl (args_cons (i := 1) rfl args_nil)) ?_
    intro a hF
    refine wp_seq ?_
    refine E.seq ?_
    obtain ⟨g2, w1, ge2, hr, bb, o2⟩ := own_box (P := Tryz.prog) (w := w) (cs := [.bool b, .slice ad1 n1 c1]) (v := .agg #[.bool b, .slice ad1 n1 c1]) 30 rfl (niB (niS ni0))
    replace ge2 : w.heap.size ≤ g2 := by rw [← ge2]; exact bel.size
    refine E.opv hF (r_box (hF.at 0 rfl) hr) rfl rfl rfl rfl fun a hF => ?_
    clear hr
    replace h2 := h2.below bb
    replace hg := hg.below bb
    replace h1 := h1.below bb
    replace bel := below_to bel bb
    clear bb
    obtain ⟨g4, w2, ge4, hr, bb, o4⟩ := own_alloc (P := Tryz.prog) (w := w1) (cs := [.bool false, .slice none 0 0, .slice none 0 0]) 32 ze_Rat rfl (niB (niS (niS ni0)))
    have ne2_4 : g2 ≠ g4 := by rw [← ge4]; exact o2.ne_new
    replace ge4 : w.heap.size ≤ g4 := by rw [← ge4]; exact bel.size
    refine E.opv hF (r_alloc hr) rfl rfl rfl rfl fun a hF => ?_
    clear hr
    replace h2 := h2.below bb
    replace h1 := h1.below bb
    replace hg := hg.below bb
    replace o2 := o2.below bb
    replace bel := below_to bel bb
    clear bb
    refine E.nil ?_
    refine wp_seq ?_
    refine wp_seq ?_
    refine E.seq ?_
    refine E.opv hF (r_load (hF.at 1 rfl) (ld_Int (vs := [.bool b, .slice ad1 n1 c1]) o2 rfl rfl)) rfl rfl rfl rfl fun a hF => ?_
    refine E.call hF (r_call Tryz.func57 en57.1 en57.2 (map1 (hF.at 0 rfl))) (whSign_any _ _ _ (Wg.wz hg)) rfl rfl rfl rfl ?_
    rintro e w3 ⟨rfl, bb⟩
    refine ⟨_, rfl, ?_⟩
    intro a hF
    replace h2 := h2.below bb
    replace h1 := h1.below bb
    replace hg := hg.below bb
    replace o2 := o2.below bb
    replace o4 := o4.below bb
    replace bel := below_to bel bb
    clear bb
    refine E.opv hF (r_bin (hF.at 0 rfl) ev_c eg_scalar (bi_int (ic_eql (c := false) (eq0f (sz_sgp h0))) (by simp))) rfl rfl rfl rfl fun a hF => ?_
    refine E.nil ?_
    refine wp_cond_false (hF.at 0 rfl) ?_
    refine wp_skip ?_
    refine E.norm ?_
    refine wp_seq ?_
    refine E.seq ?_
    refine E.opv hF (r_load (hF.at 4 rfl) (ld_Int (vs := [.bool b, .slice ad1 n1 c1]) o2 rfl rfl)) rfl rfl rfl rfl fun a hF => ?_
    refine E.opv hF (r_move (hF.at 7 rfl)) rfl rfl rfl rfl fun a hF => ?_
    refine E.opv hF (r_build (pair2 (hF.at 1 rfl) (hF.at 0 rfl)) (bd_Rat_01 _ _ _ _ _ _ _ _)) rfl rfl rfl rfl fun a hF => ?_
    obtain ⟨w4, hr, tu, on⟩ := st_Rat (vs := [.bool b, .slice ad1 n1 c1, .slice ae1 m1 d1]) o4 rfl rfl (ocB (ocS (ocS oc0))) (niB (niS (niS ni0))) (o := 0) rfl
    have kp := tu.keep o4
    refine E.st hF (r_store (hF.at 6 rfl) (hF.at 0 rfl) (hr _ rfl)) rfl rfl fun a hF => ?_
    clear hr
    replace hg := hg.keep kp
    replace h1 := h1.keep kp
    replace h2 := h2.keep kp
    replace bel := tu.below bel ge4
    clear tu kp
    replace o4 := on
    clear on
    refine E.nil ?_
    refine wp_ret ?_
    refine bodyPost_ret (res_cell Tryz.results62 (hF.at 6 rfl) (ld_Rat (vs := [.bool b, .slice ad1 n1 c1, .slice ae1 m1 d1]) o4 rfl rfl)) hF.dfr ?_
    exact ⟨_, rfl, Rq.mk h1 h2 h0 hz (hd h0), bel⟩

theorem ratio_wg (v1 v2 : Value) (b : Bool) (N D : Nat) (q : Rat) (w : World) (h1 : Wg w v1 b N) (h2 : Dg w .u32 B32 v2 D) (hz : sg b N = q.num) (hd : N ≠ 0 → D = q.den) : Calls Tryz.prog 62 #[v1, v2] w (RqPost w q) := by
  obtain ⟨s, rfl, h⟩ := h1
  exact ratio_any b s v2 N D q w h h2 hz hd
theorem ratio_wc (v1 v2 : Value) (z : Int) (D : Nat) (q : Rat) (w : World) (h1 : Wc w v1 z) (h2 : Dg w .u32 B32 v2 D) (hz : z = q.num) (hd : z ≠ 0 → D = q.den) : Calls Tryz.prog 62 #[v1, v2] w (RqPost w q) := by
  obtain ⟨s, rfl, h⟩ := h1
  exact ratio_any _ s v2 z.natAbs D q w h h2 ((sg_dec z).trans hz) (fun hn => hd (by omega))
set_option maxHeartbeats 1000000 in
theorem rsgn_any (v1 : Value) (q1 : Rat) (w : World) (h1 : Rq w v1 q1) :
    Calls Tryz.prog 20 #[v1] w (IntPost w (sz q1.num)) := by
  obtain ⟨b1, ad1, n1, c1, ae1, m1, d1, rfl, hn1, hd1⟩ := h1.shape
  have h1 : Rq w (.agg #[.bool b1, .slice ad1 n1 c1, .slice ae1 m1 d1]) q1 := ⟨_, _, _, _, _, _, _, rfl, hn1, hd1⟩
  have ha1 := hn1.abs
  have hb1 := hn1.neg
  have bel : Below w.heap.size w w := Below.refl _ _
  refine E.enter (nt := 6) (L := [(0, .agg #[.bool b1, .slice ad1 n1 c1, .slice ae1 m1 d1])]) Tryz.func20 rfl rfl rfl (args_cons (i := 0) rfl args_nil) ?_
  intro a hF
  refine wp_seq ?_
  refine E.seq ?_
  obtain ⟨g1, w1, ge1, hr, bb, o1⟩ := own_box (P := Tryz.prog) (w := w) (cs := [.bool b1, .slice ad1 n1 c1, .slice ae1 m1 d1]) (v := .agg #[.bool b1, .slice ad1 n1 c1, .slice ae1 m1 d1]) 32 rfl (niB (niS (niS ni0)))
  replace ge1 : w.heap.size ≤ g1 := by rw [← ge1]; exact bel.size
  refine E.opv hF (r_box (hF.at 0 rfl) hr) rfl rfl rfl rfl fun a hF => ?_
  clear hr
  replace h1 := h1.below bb
  replace hn1 := hn1.below bb
  replace ha1 := ha1.below bb
  replace hd1 := hd1.below bb
  replace bel := below_to bel bb
  clear bb
  refine E.opv hF (r_assign ev_c) rfl rfl rfl rfl fun a hF => ?_
  refine E.nil ?_
  refine wp_seq ?_
  refine E.seq ?_
  refine E.opv hF (r_field (hF.at 1 rfl) (fa_Rat_0 (p := 0) rfl)) rfl rfl rfl rfl fun a hF => ?_
  refine E.opv hF (r_load (hF.at 0 rfl) (ld_Int (vs := [.bool b1, .slice ad1 n1 c1]) o1 rfl rfl)) rfl rfl rfl rfl fun a hF => ?_
  refine E.call hF (r_call Tryz.func57 en57.1 en57.2 (map1 (hF.at 0 rfl))) (whSign_any _ _ _ (Wc.wz hn1)) rfl rfl rfl rfl ?_
  rintro e w2 ⟨rfl, bb⟩
  refine ⟨_, rfl, ?_⟩
  intro a hF
  replace bel := below_to bel bb
  clear bb
  refine E.opset (L' := [(2, .int .i64 (sz (Rat.num (q1)))), (5, .int .i64 (sz (Rat.num (q1)))), (4, .agg #[.bool b1, .slice ad1 n1 c1]), (3, .pointer (some ⟨g1, 0, none⟩)), (1, .pointer (some ⟨g1, 0, none⟩)), (0, .agg #[.bool b1, .slice ad1 n1 c1, .slice ae1 m1 d1])]) hF (r_assign (hF.at 0 rfl)) rfl rfl rfl rfl fun a hF => ?_
  refine E.nil ?_
  refine wp_ret ?_
  refine bodyPost_ret (res_tmp Tryz.results20 (hF.at 0 rfl)) hF.dfr ?_
  exact ⟨rfl, bel⟩

set_option maxHeartbeats 1000000 in
theorem rnum_any (v1 : Value) (q1 : Rat) (w : World) (h1 : Rq w v1 q1) :
    Calls Tryz.prog 36 #[v1] w (WcPost w (q1.num)) := by
  obtain ⟨b1, ad1, n1, c1, ae1, m1, d1, rfl, hn1, hd1⟩ := h1.shape
  have h1 : Rq w (.agg #[.bool b1, .slice ad1 n1 c1, .slice ae1 m1 d1]) q1 := ⟨_, _, _, _, _, _, _, rfl, hn1, hd1⟩
  have ha1 := hn1.abs
  have hb1 := hn1.neg
  have ES := Lib.hid (show sg b1 (Int.natAbs (Rat.num q1)) = q1.num by rw [hb1, sg_dec])
  have bel : Below w.heap.size w w := Below.refl _ _
  refine E.enter (nt := 10) (L := [(0, .agg #[.bool b1, .slice ad1 n1 c1, .slice ae1 m1 d1])]) Tryz.func36 rfl rfl rfl (args_cons (i := 0) rfl args_nil) ?_
  intro a hF
  refine wp_seq ?_
  refine E.seq ?_
  obtain ⟨g1, w1, ge1, hr, bb, o1⟩ := own_box (P := Tryz.prog) (w := w) (cs := [.bool b1, .slice ad1 n1 c1, .slice ae1 m1 d1]) (v := .agg #[.bool b1, .slice ad1 n1 c1, .slice ae1 m1 d1]) 32 rfl (niB (niS (niS ni0)))
  replace ge1 : w.heap.size ≤ g1 := by rw [← ge1]; exact bel.size
  refine E.opv hF (r_box (hF.at 0 rfl) hr) rfl rfl rfl rfl fun a hF => ?_
  clear hr
  replace h1 := h1.below bb
  replace hn1 := hn1.below bb
  replace ha1 := ha1.below bb
  replace hd1 := hd1.below bb
  replace bel := below_to bel bb
  clear bb
  obtain ⟨g2, w2, ge2, hr, bb, o2⟩ := own_alloc (P := Tryz.prog) (w := w1) (cs := [.bool false, .slice none 0 0]) 30 ze_Int rfl (niB (niS ni0))
  have ne1_2 : g1 ≠ g2 := by rw [← ge2]; exact o1.ne_new
  replace ge2 : w.heap.size ≤ g2 := by rw [← ge2]; exact bel.size
  refine E.opv hF (r_alloc hr) rfl rfl rfl rfl fun a hF => ?_
  clear hr
  replace ha1 := ha1.below bb
  replace hd1 := hd1.below bb
  replace h1 := h1.below bb
  replace hn1 := hn1.below bb
  replace o1 := o1.below bb
  replace bel := below_to bel bb
  clear bb
  refine E.nil ?_
  refine wp_seq ?_
  refine E.seq ?_
  refine E.opv hF (r_field (hF.at 1 rfl) (fa_Rat_0 (p := 0) rfl)) rfl rfl rfl rfl fun a hF => ?_
  refine E.opv hF (r_field (hF.at 0 rfl) (fa_Int_0 (p := 0) rfl)) rfl rfl rfl rfl fun a hF => ?_
  refine E.opv hF (r_load (hF.at 0 rfl) (ld_bool (v := .bool b1) o1 rfl)) rfl rfl rfl rfl fun a hF => ?_
  refine E.opv hF (r_field (hF.at 4 rfl) (fa_Rat_0 (p := 0) rfl)) rfl rfl rfl rfl fun a hF => ?_
  refine E.opv hF (r_field (hF.at 0 rfl) (fa_Int_1 (p := 1) rfl)) rfl rfl rfl rfl fun a hF => ?_
  refine E.opv hF (r_load (hF.at 0 rfl) (ld_Nat (v := .slice ad1 n1 c1) o1 rfl)) rfl rfl rfl rfl fun a hF => ?_
  refine E.call hF (r_call Tryz.func66 en66.1 en66.2 (map2 (hF.at 3 rfl) (hF.at 0 rfl))) (make_any _ _ (Int.natAbs (Rat.num (q1))) _ (Dg.nt ha1)) rfl rfl rfl rfl ?_
  rintro e w3 ⟨vv4, rfl, hh5, bb⟩
  refine ⟨_, rfl, ?_⟩
  intro a hF
  replace o2 := o2.below bb
  replace bel := below_to bel bb
  clear bb
  obtain ⟨ad6, n6, c6, rfl, _⟩ := Wc.shape hh5
  obtain ⟨w7, hr, tu, on⟩ := st_Int (vs := [.bool (decide (sg b1 (Int.natAbs (Rat.num (q1))) < 0)), .slice ad6 n6 c6]) o2 rfl rfl (ocB (ocS oc0)) (niB (niS ni0)) (o := 0) rfl
  have kp := tu.keep o2
  refine E.st hF (r_store (hF.at 7 rfl) (hF.at 0 rfl) (hr _ rfl)) rfl rfl fun a hF => ?_
  clear hr
  replace hh5 := hh5.keep kp
  replace bel := tu.below bel ge2
  clear tu kp
  replace o2 := on
  clear on
  have hf8 := Wc.abs hh5
  refine E.nil ?_
  refine wp_ret ?_
  refine bodyPost_ret (res_cell Tryz.results36 (hF.at 7 rfl) (ld_Int (vs := [.bool (decide (sg b1 (Int.natAbs (Rat.num (q1))) < 0)), .slice ad6 n6 c6]) o2 rfl rfl)) hF.dfr ?_
  exact ⟨_, rfl, Wc.cast hh5 ES.out, bel⟩

set_option maxHeartbeats 1000000 in
theorem rden_any (v1 : Value) (q1 : Rat) (w : World) (h1 : Rq w v1 q1) :
    Calls Tryz.prog 37 #[v1] w (DgPost w (q1.den)) := by
  obtain ⟨b1, ad1, n1, c1, ae1, m1, d1, rfl, hn1, hd1⟩ := h1.shape
  have h1 : Rq w (.agg #[.bool b1, .slice ad1 n1 c1, .slice ae1 m1 d1]) q1 := ⟨_, _, _, _, _, _, _, rfl, hn1, hd1⟩
  have ha1 := hn1.abs
  have hb1 := hn1.neg
  have bel : Below w.heap.size w w := Below.refl _ _
  refine E.enter (nt := 6) (L := [(0, .agg #[.bool b1, .slice ad1 n1 c1, .slice ae1 m1 d1])]) Tryz.func37 rfl rfl rfl (args_cons (i := 0) rfl args_nil) ?_
  intro a hF
  refine wp_seq ?_
  refine E.seq ?_
  obtain ⟨g1, w1, ge1, hr, bb, o1⟩ := own_box (P := Tryz.prog) (w := w) (cs := [.bool b1, .slice ad1 n1 c1, .slice ae1 m1 d1]) (v := .agg #[.bool b1, .slice ad1 n1 c1, .slice ae1 m1 d1]) 32 rfl (niB (niS (niS ni0)))
  replace ge1 : w.heap.size ≤ g1 := by rw [← ge1]; exact bel.size
  refine E.opv hF (r_box (hF.at 0 rfl) hr) rfl rfl rfl rfl fun a hF => ?_
  clear hr
  replace h1 := h1.below bb
  replace hn1 := hn1.below bb
  replace ha1 := ha1.below bb
  replace hd1 := hd1.below bb
  replace bel := below_to bel bb
  clear bb
  refine E.opv hF (r_assign ev_c) rfl rfl rfl rfl fun a hF => ?_
  refine E.nil ?_
  refine wp_seq ?_
  refine E.seq ?_
  refine E.opv hF (r_load (hF.at 1 rfl) (ld_Rat (vs := [.bool b1, .slice ad1 n1 c1, .slice ae1 m1 d1]) o1 rfl rfl)) rfl rfl rfl rfl fun a hF => ?_
  refine E.call hF (r_call Tryz.func58 en58.1 en58.2 (map1 (hF.at 0 rfl))) (rbelow_any _ (q1) _ h1) rfl rfl rfl rfl ?_
  rintro e w2 ⟨vv3, rfl, hh4, bb⟩
  refine ⟨_, rfl, ?_⟩
  intro a hF
  replace bel := below_to bel bb
  clear bb
  obtain ⟨ad5, n5, c5, rfl⟩ := Dg.form hh4
  refine E.call hF (r_call Tryz.func67 en67.1 en67.2 (map1 (hF.at 0 rfl))) (trim_nt _ (Rat.den (q1)) _ (Dg.nt hh4)) rfl rfl rfl rfl ?_
  rintro e w6 ⟨vv7, rfl, hh8, bb⟩
  refine ⟨_, rfl, ?_⟩
  intro a hF
  replace bel := below_to bel bb
  clear bb
  obtain ⟨ad9, n9, c9, rfl⟩ := Dg.form hh8
  refine E.opset (L' := [(2, .slice ad9 n9 c9), (5, .slice ad9 n9 c9), (4, .slice ad5 n5 c5), (3, .agg #[.bool b1, .slice ad1 n1 c1, .slice ae1 m1 d1]), (1, .pointer (some ⟨g1, 0, none⟩)), (0, .agg #[.bool b1, .slice ad1 n1 c1, .slice ae1 m1 d1])]) hF (r_assign (hF.at 0 rfl)) rfl rfl rfl rfl fun a hF => ?_
  refine E.nil ?_
  refine wp_ret ?_
  refine bodyPost_ret (res_tmp Tryz.results37 (hF.at 0 rfl)) hF.dfr ?_
  exact ⟨_, rfl, hh8, bel⟩

set_option maxHeartbeats 1000000 in
theorem rmk_any (v1 v2 : Value) (z1 z2 : Int) (w : World) (h1 : Wz w v1 z1) (h2 : Wz w v2 z2) :
    Calls Tryz.prog 24 #[v1, v2] w (RqPost w ((z1 : Rat) / (z2 : Rat))) := by
  obtain ⟨neg1, ad1, n1, c1, N1, rfl, hN1, rfl⟩ := h1.shape
  have h1 : Wz w (.agg #[.bool neg1, .slice ad1 n1 c1]) (sg neg1 N1) := ⟨_, _, _, rfl, hN1, rfl⟩
  obtain ⟨neg2, ad2, n2, c2, N2, rfl, hN2, rfl⟩ := h2.shape
  have h2 : Wz w (.agg #[.bool neg2, .slice ad2 n2 c2]) (sg neg2 N2) := ⟨_, _, _, rfl, hN2, rfl⟩
  by_cases h0 : N2 = 0
  · have hq : (sg neg1 N1 : Rat) / (sg neg2 N2 : Rat) = 0 := by rw [h0, sg_zero, Rat.intCast_zero, Rat.div_def, Rat.inv_zero, Rat.mul_zero]
    have bel : Below w.heap.size w w := Below.refl _ _
    refine E.enter (nt := 30) (L := [(0, .agg #[.bool neg1, .slice ad1 n1 c1]), (1, .agg #[.bool neg2, .slice ad2 n2 c2])]) Tryz.func24 rfl rfl rfl (args_cons (i := 0) rfl (args_cons (i := 1) rfl args_nil)) ?_
    intro a hF
    refine wp_seq ?_
    refine E.seq ?_
    obtain ⟨g2, w1, ge2, hr, bb, o2⟩ := own_box (P := Tryz.prog) (w := w) (cs := [.bool neg1, .slice ad1 n1 c1]) (v := .agg #[.bool neg1, .slice ad1 n1 c1]) 30 rfl (niB (niS ni0))
    replace ge2 : w.heap.size ≤ g2 := by rw [← ge2]; exact bel.size
    refine E.opv hF (r_box (hF.at 0 rfl) hr) rfl rfl rfl rfl fun a hF => ?_
    clear hr
    replace h2 := h2.below bb
    replace hN2 := hN2.below bb
    replace h1 := h1.below bb
    replace hN1 := hN1.below bb
    replace bel := below_to bel bb
    clear bb
    obtain ⟨g3, w2, ge3, hr, bb, o3⟩ := own_box (P := Tryz.prog) (w := w1) (cs := [.bool neg2, .slice ad2 n2 c2]) (v := .agg #[.bool neg2, .slice ad2 n2 c2]) 30 rfl (niB (niS ni0))
    have ne2_3 : g2 ≠ g3 := by rw [← ge3]; exact o2.ne_new
    replace ge3 : w.heap.size ≤ g3 := by rw [← ge3]; exact bel.size
    refine E.opv hF (r_box (hF.at 2 rfl) hr) rfl rfl rfl rfl fun a hF => ?_
    clear hr
    replace hN1 := hN1.below bb
    replace h1 := h1.below bb
    replace h2 := h2.below bb
    replace hN2 := hN2.below bb
    replace o2 := o2.below bb
    replace bel := below_to bel bb
    clear bb
    obtain ⟨g4, w3, ge4, hr, bb, o4⟩ := own_alloc (P := Tryz.prog) (w := w2) (cs := [.bool false, .slice none 0 0, .slice none 0 0]) 32 ze_Rat rfl (niB (niS (niS ni0)))
    have ne2_4 : g2 ≠ g4 := by rw [← ge4]; exact o2.ne_new
    have ne3_4 : g3 ≠ g4 := by rw [← ge4]; exact o3.ne_new
    replace ge4 : w.heap.size ≤ g4 := by rw [← ge4]; exact bel.size
    refine E.opv hF (r_alloc hr) rfl rfl rfl rfl fun a hF => ?_
    clear hr
    replace hN1 := hN1.below bb
    replace h1 := h1.below bb
    replace hN2 := hN2.below bb
    replace h2 := h2.below bb
    replace o2 := o2.below bb
    replace o3 := o3.below bb
    replace bel := below_to bel bb
    clear bb
    refine E.nil ?_
    refine wp_seq ?_
    refine wp_seq ?_
    refine E.seq ?_
    refine E.opv hF (r_load (hF.at 1 rfl) (ld_Int (vs := [.bool neg2, .slice ad2 n2 c2]) o3 rfl rfl)) rfl rfl rfl rfl fun a hF => ?_
    refine E.call hF (r_call Tryz.func57 en57.1 en57.2 (map1 (hF.at 0 rfl))) (whSign_any _ _ _ h2) rfl rfl rfl rfl ?_
    rintro e w4 ⟨rfl, bb⟩
    refine ⟨_, rfl, ?_⟩
    intro a hF
    replace hN1 := hN1.below bb
    replace h1 := h1.below bb
    replace hN2 := hN2.below bb
    replace h2 := h2.below bb
    replace o2 := o2.below bb
    replace o3 := o3.below bb
    replace o4 := o4.below bb
    replace bel := below_to bel bb
    clear bb
    refine E.opv hF (r_bin (hF.at 0 rfl) ev_c eg_scalar (bi_int (ic_eql (c := true) (eq0 (sz_sg0 h0))) (by simp))) rfl rfl rfl rfl fun a hF => ?_
    refine E.nil ?_
    refine wp_cond_true (hF.at 0 rfl) ?_
    refine wp_seq ?_
    refine E.seq ?_
    refine E.opv hF (r_build (by simp) (bd_Rat_ _)) rfl rfl rfl rfl fun a hF => ?_
    obtain ⟨w5, hr, tu, on⟩ := st_Rat (vs := [.bool false, .slice none 0 0, .slice none 0 0]) o4 rfl rfl (ocB (ocS (ocS oc0))) (niB (niS (niS ni0))) (o := 0) rfl
    have kp := tu.keep o4
    refine E.st hF (r_store (hF.at 4 rfl) (hF.at 0 rfl) (hr _ rfl)) rfl rfl fun a hF => ?_
    clear hr
    replace hN1 := hN1.keep kp
    replace h1 := h1.keep kp
    replace hN2 := hN2.keep kp
    replace h2 := h2.keep kp
    replace o2 := tu.own o2 ne2_4
    replace o3 := tu.own o3 ne3_4
    replace bel := tu.below bel ge4
    clear tu kp
    replace o4 := on
    clear on
    refine E.nil ?_
    refine wp_ret ?_
    refine bodyPost_ret (res_cell Tryz.results24 (hF.at 4 rfl) (ld_Rat (vs := [.bool false, .slice none 0 0, .slice none 0 0]) o4 rfl rfl)) hF.dfr ?_
    exact ⟨_, rfl, Rz0 hq _, bel⟩
  · have HP := Lib.hid (div_parts neg1 neg2 N1 N2 h0)
    have bel : Below w.heap.size w w := Below.refl _ _
    refine E.enter (nt := 30) (L := [(0, .agg #[.bool neg1, .slice ad1 n1 c1]), (1, .agg #[.bool neg2, .slice ad2 n2 c2])]) Tryz.func24 rfl rfl rfl (args_cons (i := 0) rfl (args_cons (i := 1) rfl args_nil)) ?_
    intro a hF
    refine wp_seq ?_
    refine E.seq ?_
    obtain ⟨g2, w1, ge2, hr, bb, o2⟩ := own_box (P := Tryz.prog) (w := w) (cs := [.bool neg1, .slice ad1 n1 c1]) (v := .agg #[.bool neg1, .slice ad1 n1 c1]) 30 rfl (niB (niS ni0))
    replace ge2 : w.heap.size ≤ g2 := by rw [← ge2]; exact bel.size
    refine E.opv hF (r_box (hF.at 0 rfl) hr) rfl rfl rfl rfl fun a hF => ?_
    clear hr
    replace h2 := h2.below bb
    replace hN2 := hN2.below bb
    replace h1 := h1.below bb
    replace hN1 := hN1.below bb
    replace bel := below_to bel bb
    clear bb
    obtain ⟨g3, w2, ge3, hr, bb, o3⟩ := own_box (P := Tryz.prog) (w := w1) (cs := [.bool neg2, .slice ad2 n2 c2]) (v := .agg #[.bool neg2, .slice ad2 n2 c2]) 30 rfl (niB (niS ni0))
    have ne2_3 : g2 ≠ g3 := by rw [← ge3]; exact o2.ne_new
    replace ge3 : w.heap.size ≤ g3 := by rw [← ge3]; exact bel.size
    refine E.opv hF (r_box (hF.at 2 rfl) hr) rfl rfl rfl rfl fun a hF => ?_
    clear hr
    replace hN1 := hN1.below bb
    replace h1 := h1.below bb
    replace h2 := h2.below bb
    replace hN2 := hN2.below bb
    replace o2 := o2.below bb
    replace bel := below_to bel bb
    clear bb
    obtain ⟨g4, w3, ge4, hr, bb, o4⟩ := own_alloc (P := Tryz.prog) (w := w2) (cs := [.bool false, .slice none 0 0, .slice none 0 0]) 32 ze_Rat rfl (niB (niS (niS ni0)))
    have ne2_4 : g2 ≠ g4 := by rw [← ge4]; exact o2.ne_new
    have ne3_4 : g3 ≠ g4 := by rw [← ge4]; exact o3.ne_new
    replace ge4 : w.heap.size ≤ g4 := by rw [← ge4]; exact bel.size
    refine E.opv hF (r_alloc hr) rfl rfl rfl rfl fun a hF => ?_
    clear hr
    replace hN1 := hN1.below bb
    replace h1 := h1.below bb
    replace hN2 := hN2.below bb
    replace h2 := h2.below bb
    replace o2 := o2.below bb
    replace o3 := o3.below bb
    replace bel := below_to bel bb
    clear bb
    refine E.nil ?_
    refine wp_seq ?_
    refine wp_seq ?_
    refine E.seq ?_
    refine E.opv hF (r_load (hF.at 1 rfl) (ld_Int (vs := [.bool neg2, .slice ad2 n2 c2]) o3 rfl rfl)) rfl rfl rfl rfl fun a hF => ?_
    refine E.call hF (r_call Tryz.func57 en57.1 en57.2 (map1 (hF.at 0 rfl))) (whSign_any _ _ _ h2) rfl rfl rfl rfl ?_
    rintro e w4 ⟨rfl, bb⟩
    refine ⟨_, rfl, ?_⟩
    intro a hF
    replace hN1 := hN1.below bb
    replace h1 := h1.below bb
    replace hN2 := hN2.below bb
    replace h2 := h2.below bb
    replace o2 := o2.below bb
    replace o3 := o3.below bb
    replace o4 := o4.below bb
    replace bel := below_to bel bb
    clear bb
    refine E.opv hF (r_bin (hF.at 0 rfl) ev_c eg_scalar (bi_int (ic_eql (c := false) (eq0f (sz_sgp h0))) (by simp))) rfl rfl rfl rfl fun a hF => ?_
    refine E.nil ?_
    refine wp_cond_false (hF.at 0 rfl) ?_
    refine wp_skip ?_
    refine E.norm ?_
    refine wp_seq ?_
    refine E.seq ?_
    refine E.opv hF (r_field (hF.at 5 rfl) (fa_Int_1 (p := 1) rfl)) rfl rfl rfl rfl fun a hF => ?_
    refine E.opv hF (r_load (hF.at 0 rfl) (ld_Nat (v := .slice ad1 n1 c1) o2 rfl)) rfl rfl rfl rfl fun a hF => ?_
    refine E.opv hF (r_field (hF.at 6 rfl) (fa_Int_1 (p := 1) rfl)) rfl rfl rfl rfl fun a hF => ?_
    refine E.opv hF (r_load (hF.at 0 rfl) (ld_Nat (v := .slice ad2 n2 c2) o3 rfl)) rfl rfl rfl rfl fun a hF => ?_
    refine E.call hF (r_call Tryz.func39 en39.1 en39.2 (map2 (hF.at 2 rfl) (hF.at 0 rfl))) (gcd_any _ _ N1 N2 _ hN1 hN2) rfl rfl rfl rfl ?_
    rintro e w5 ⟨vv6, rfl, hh7, bb⟩
    refine ⟨_, rfl, ?_⟩
    intro a hF
    replace hN1 := hN1.below bb
    replace h1 := h1.below bb
    replace hN2 := hN2.below bb
    replace h2 := h2.below bb
    replace o2 := o2.below bb
    replace o3 := o3.below bb
    replace o4 := o4.below bb
    replace bel := below_to bel bb
    clear bb
    obtain ⟨ad8, n8, c8, rfl⟩ := Dg.form hh7
    refine E.opv hF (r_assign (hF.at 0 rfl)) rfl rfl rfl rfl fun a hF => ?_
    refine E.nil ?_
    refine wp_seq ?_
    refine E.drawn 15 mixed hF [15, 16, 17, 18, 19, 20, 21, 22, 23, 24, 25, 26, 27, 28, 29] [(fun _ v => v = .pointer (some ⟨g2, 0, none⟩)), (fun _ v => v = .bool neg1), (fun _ v => v = .pointer (some ⟨g3, 0, none⟩)), (fun _ v => v = .bool neg2), (fun _ v => v = .bool (neg1 != neg2)), (fun _ v => v = .pointer (some ⟨g2, 1, none⟩)), (fun _ v => v = .slice ad1 n1 c1), (fun _ v => v = .slice ad8 n8 c8), (fun w v => Dg w .u32 B32 v ((N1) / (Nat.gcd (N1) (N2)))), (fun w v => Wg w v (neg1 != neg2) ((N1) / (Nat.gcd (N1) (N2)))), (fun _ v => v = .pointer (some ⟨g3, 1, none⟩)), (fun _ v => v = .slice ad2 n2 c2), (fun _ v => v = .slice ad8 n8 c8), (fun w v => Dg w .u32 B32 v ((N2) / (Nat.gcd (N1) (N2)))), (fun w v => Rq w v ((sg neg1 N1 : Rat) / (sg neg2 N2 : Rat)))] [] (by decide +kernel) (by decide +kernel) rfl rfl rfl ⟨(Mb.eq _), (Mb.eq _), (Mb.eq _), (Mb.eq _), (Mb.eq _), (Mb.eq _), (Mb.eq _), (Mb.eq _), (fun _ _ _ h hb => h.below hb), (fun _ _ _ h hb => h.below hb), (Mb.eq _), (Mb.eq _), (Mb.eq _), (fun _ _ _ h hb => h.below hb), (fun _ _ _ h hb => h.below hb), trivial⟩ trivial ⟨?_, ?_, ?_, ?_, ?_, ?_, ?_, ?_, ?_, ?_, ?_, ?_, ?_, ?_, ?_, trivial⟩ ?_
    · intro a' w' hF' hb hd
      exact if_does (wanted_free rfl) (Does.vals (r_field (hF'.at 11 rfl) (fa_Int_0 (p := 0) rfl)) ⟨rfl, Below.refl _ _, (fun h => absurd h (by decide))⟩)
    · intro a' w' hF' hb hd
      have e15 : a'.tmps.getD 15 undef = .pointer (some ⟨g2, 0, none⟩) := hd _ 15 (Array.mem_of_getElem? (i := 0) rfl) rfl rfl
      exact if_does (wanted_free rfl) (Does.vals (r_load e15 (ld_bool (v := .bool neg1) (o2.below hb) rfl)) ⟨rfl, Below.refl _ _, (fun h => absurd h (by decide))⟩)
    · intro a' w' hF' hb hd
      exact if_does (wanted_free rfl) (Does.vals (r_field (hF'.at 10 rfl) (fa_Int_0 (p := 0) rfl)) ⟨rfl, Below.refl _ _, (fun h => absurd h (by decide))⟩)
    · intro a' w' hF' hb hd
      have e17 : a'.tmps.getD 17 undef = .pointer (some ⟨g3, 0, none⟩) := hd _ 17 (Array.mem_of_getElem? (i := 0) rfl) rfl rfl
      exact if_does (wanted_free rfl) (Does.vals (r_load e17 (ld_bool (v := .bool neg2) (o3.below hb) rfl)) ⟨rfl, Below.refl _ _, (fun h => absurd h (by decide))⟩)
    · intro a' w' hF' hb hd
      have e16 : a'.tmps.getD 16 undef = .bool neg1 := hd _ 16 (Array.mem_of_getElem? (i := 0) rfl) rfl rfl
      have e18 : a'.tmps.getD 18 undef = .bool neg2 := hd _ 18 (Array.mem_of_getElem? (i := 1) rfl) rfl rfl
      exact if_does (wanted_free rfl) (Does.vals (r_bin e16 e18 eg_bool (bb_neq (d := (neg1 != neg2)) rfl)) ⟨rfl, Below.refl _ _, (fun h => absurd h (by decide))⟩)
    · intro a' w' hF' hb hd
      exact if_does (wanted_free rfl) (Does.vals (r_field (hF'.at 11 rfl) (fa_Int_1 (p := 1) rfl)) ⟨rfl, Below.refl _ _, (fun h => absurd h (by decide))⟩)
    · intro a' w' hF' hb hd
      have e20 : a'.tmps.getD 20 undef = .pointer (some ⟨g2, 1, none⟩) := hd _ 20 (Array.mem_of_getElem? (i := 0) rfl) rfl rfl
      exact if_does (wanted_free rfl) (Does.vals (r_load e20 (ld_Nat (v := .slice ad1 n1 c1) (o2.below hb) rfl)) ⟨rfl, Below.refl _ _, (fun h => absurd h (by decide))⟩)
    · intro a' w' hF' hb hd
      exact if_does (wanted_free rfl) (Does.vals (r_move (hF'.at 0 rfl)) ⟨rfl, Below.refl _ _, (fun h => absurd h (by decide))⟩)
    · intro a' w' hF' hb hd
      have e21 : a'.tmps.getD 21 undef = .slice ad1 n1 c1 := hd _ 21 (Array.mem_of_getElem? (i := 0) rfl) rfl rfl
      have e22 : a'.tmps.getD 22 undef = .slice ad8 n8 c8 := hd _ 22 (Array.mem_of_getElem? (i := 1) rfl) rfl rfl
      refine if_does (wanted_free rfl) (Does.calls (r_call Tryz.func59 en59.1 en59.2 (map2 e21 e22)) (rby_any _ _ N1 (Nat.gcd (N1) (N2)) _ (hN1.below hb) (Dg.nt (hh7.below hb))) ?_)
      rintro e w'' ⟨v', rfl, h', bb⟩
      exact ⟨_, rfl, h', bb, (fun h => absurd h (by decide))⟩
    · intro a' w' hF' hb hd
      have e19 : a'.tmps.getD 19 undef = .bool (neg1 != neg2) := hd _ 19 (Array.mem_of_getElem? (i := 0) rfl) rfl rfl
      obtain ⟨v23_0, e23, h23_1⟩ : ∃ v, a'.tmps.getD 23 undef = v ∧ Dg w' .u32 B32 v ((N1) / (Nat.gcd (N1) (N2))) := ⟨_, rfl, hd _ 23 (Array.mem_of_getElem? (i := 1) rfl) rfl rfl⟩
      obtain ⟨ad9, n9, c9, rfl⟩ := Dg.form h23_1
      exact if_does (wanted_free rfl) (Does.vals (r_build (pair2 e19 e23) (bd_Int_01 _ _ _ _ _)) ⟨(Wg.mk h23_1), Below.refl _ _, (fun h => absurd h (by decide))⟩)
    · intro a' w' hF' hb hd
      exact if_does (wanted_free rfl) (Does.vals (r_field (hF'.at 10 rfl) (fa_Int_1 (p := 1) rfl)) ⟨rfl, Below.refl _ _, (fun h => absurd h (by decide))⟩)
    · intro a' w' hF' hb hd
      have e25 : a'.tmps.getD 25 undef = .pointer (some ⟨g3, 1, none⟩) := hd _ 25 (Array.mem_of_getElem? (i := 0) rfl) rfl rfl
      exact if_does (wanted_free rfl) (Does.vals (r_load e25 (ld_Nat (v := .slice ad2 n2 c2) (o3.below hb) rfl)) ⟨rfl, Below.refl _ _, (fun h => absurd h (by decide))⟩)
    · intro a' w' hF' hb hd
      exact if_does (wanted_free rfl) (Does.vals (r_move (hF'.at 0 rfl)) ⟨rfl, Below.refl _ _, (fun h => absurd h (by decide))⟩)
    · intro a' w' hF' hb hd
      have e26 : a'.tmps.getD 26 undef = .slice ad2 n2 c2 := hd _ 26 (Array.mem_of_getElem? (i := 0) rfl) rfl rfl
      have e27 : a'.tmps.getD 27 undef = .slice ad8 n8 c8 := hd _ 27 (Array.mem_of_getElem? (i := 1) rfl) rfl rfl
      refine if_does (wanted_free rfl) (Does.calls (r_call Tryz.func59 en59.1 en59.2 (map2 e26 e27)) (rby_any _ _ N2 (Nat.gcd (N1) (N2)) _ (hN2.below hb) (Dg.nt (hh7.below hb))) ?_)
      rintro e w'' ⟨v', rfl, h', bb⟩
      exact ⟨_, rfl, h', bb, (fun h => absurd h (by decide))⟩
    · intro a' w' hF' hb hd
      obtain ⟨v24, e24, h24⟩ : ∃ v, a'.tmps.getD 24 undef = v ∧ Wg w' v (neg1 != neg2) ((N1) / (Nat.gcd (N1) (N2))) := ⟨_, rfl, hd _ 24 (Array.mem_of_getElem? (i := 0) rfl) rfl rfl⟩
      obtain ⟨v28_0, e28, h28_1⟩ : ∃ v, a'.tmps.getD 28 undef = v ∧ Dg w' .u32 B32 v ((N2) / (Nat.gcd (N1) (N2))) := ⟨_, rfl, hd _ 28 (Array.mem_of_getElem? (i := 1) rfl) rfl rfl⟩
      refine if_does (wanted_free rfl) (Does.calls (r_call Tryz.func62 en62.1 en62.2 (map2 e24 e28)) (ratio_wg _ _ ((neg1 != neg2)) ((N1) / (Nat.gcd (N1) (N2))) ((N2) / (Nat.gcd (N1) (N2))) ((sg neg1 N1 : Rat) / (sg neg2 N2 : Rat)) _ h24 h28_1 HP.out.1 HP.out.2) ?_)
      rintro e w'' ⟨v', rfl, h', bb⟩
      exact ⟨_, rfl, h', bb, (fun h => absurd h (by decide))⟩
    intro a w10 hF bb hall hne
    obtain ⟨vv11, e29, hh12⟩ : ∃ v, a.tmps.getD 29 undef = v ∧ Rq w10 v ((sg neg1 N1 : Rat) / (sg neg2 N2 : Rat)) := ⟨_, rfl, hall 14 29 rfl⟩
    clear hall hne
    replace o4 := o4.below bb
    replace bel := below_to bel bb
    clear bb
    obtain ⟨b13, ad13, n13, c13, ae13, m13, d13, rfl, hn13, hd13⟩ := Rq.shape hh12
    have hf14 := Wc.abs hn13
    replace hF := hF.add e29
    clear e29
    obtain ⟨w15, hr, tu, on⟩ := st_Rat (vs := [.bool b13, .slice ad13 n13 c13, .slice ae13 m13 d13]) o4 rfl rfl (ocB (ocS (ocS oc0))) (niB (niS (niS ni0))) (o := 0) rfl
    have kp := tu.keep o4
    refine E.st hF (r_store (hF.at 10 rfl) (hF.at 0 rfl) (hr _ rfl)) rfl rfl fun a hF => ?_
    clear hr
    replace hh12 := hh12.keep kp
    replace hn13 := hn13.keep kp
    replace hf14 := hf14.keep kp
    replace hd13 := hd13.keep kp
    replace bel := tu.below bel ge4
    clear tu kp
    replace o4 := on
    clear on
    refine E.nil ?_
    refine wp_ret ?_
    refine bodyPost_ret (res_cell Tryz.results24 (hF.at 10 rfl) (ld_Rat (vs := [.bool b13, .slice ad13 n13 c13, .slice ae13 m13 d13]) o4 rfl rfl)) hF.dfr ?_
    exact ⟨_, rfl, hh12, bel⟩

end Go.Proofs.YtmpdbkdijfpbbaaGreat

/- rat: Opp, Abs, Of, Whole, Add, Mul, Sub, Div, Cmp, Same. -/
namespace Go.Proofs.YtmpdbkdijfpbbaaGreat
open Go.RowKit
set_option maxRecDepth 100000
set_option linter.unusedVariables false

/-- How two stand. -/
def qc (a b : Rat) : Int := ci (a.num * (b.den : Int)) (b.num * (a.den : Int))
theorem limz_64 {n : Int} (h0 : -9223372036854775808 ≤ n) (h1 : n ≤ 9223372036854775807) : Lim n.natAbs 2 := Lim.of64 (by omega)
theorem rlim_mk2 {z y : Int} {a b : Nat} (h1 : Lim z.natAbs a) (h2 : Lim y.natAbs b) : RLim ((z : Rat) / (y : Rat)) (max 1 (max a b)) := by
  rw [Rat.div_def]
  by_cases h0 : y = 0
  · subst h0; rw [Rat.intCast_zero, Rat.inv_zero, Rat.mul_zero]; exact rlim_zero (by omega)
  · have e : (z : Rat) * (y : Rat)⁻¹ = mkRat (z * y.sign) y.natAbs := by
      rw [← Rat.div_def, ← Rat.divInt_eq_div]
      rcases Int.lt_or_gt_of_ne h0 with h | h
      · obtain ⟨m, rfl⟩ : ∃ m : Nat, y = -(m : Int) := ⟨y.natAbs, by omega⟩
        rw [Rat.divInt_neg', Rat.divInt_ofNat, Int.sign_eq_neg_one_of_neg h, Int.natAbs_neg, Int.natAbs_natCast, Int.mul_neg, Int.mul_one]
      · obtain ⟨m, rfl⟩ : ∃ m : Nat, y = (m : Int) := ⟨y.natAbs, by omega⟩
        rw [Rat.divInt_ofNat, Int.sign_eq_one_of_pos h, Int.natAbs_natCast, Int.mul_one]
    rw [e]
    refine rlim_mk ((h1.le ?_).up _ (by omega)) (h2.up _ (by omega)) (by omega)
    rw [Int.natAbs_mul]
    have : y.sign.natAbs ≤ 1 := by rcases Int.lt_or_gt_of_ne h0 with h | h
                                   · rw [Int.sign_eq_neg_one_of_neg h]; decide
                                   · rw [Int.sign_eq_one_of_pos h]; decide
    exact Nat.le_trans (Nat.mul_le_mul_left _ this) (by omega)
theorem abs_parts (q : Rat) : sg false q.num.natAbs = q.abs.num ∧ q.den = q.abs.den := by
  unfold Rat.abs
  split
  · rename_i h
    have := Rat.num_nonneg.2 h
    exact ⟨by rw [sg_false]; omega, rfl⟩
  · rename_i h
    have : ¬ 0 ≤ q.num := fun h' => h (Rat.num_nonneg.1 h')
    exact ⟨by rw [sg_false, Rat.neg_num]; omega, rfl⟩
set_option maxHeartbeats 1000000 in
theorem rOpp_any (v1 : Value) (q1 : Rat) (w : World) (h1 : Rq w v1 q1) :
    Calls Tryz.prog 103 #[v1] w (RqPost w (-q1)) := by
  obtain ⟨b1, ad1, n1, c1, ae1, m1, d1, rfl, hn1, hd1⟩ := h1.shape
  have h1 : Rq w (.agg #[.bool b1, .slice ad1 n1 c1, .slice ae1 m1 d1]) q1 := ⟨_, _, _, _, _, _, _, rfl, hn1, hd1⟩
  have ha1 := hn1.abs
  have hb1 := hn1.neg
  have bel : Below w.heap.size w w := Below.refl _ _
  refine E.enter (nt := 9) (L := [(0, .agg #[.bool b1, .slice ad1 n1 c1, .slice ae1 m1 d1])]) Tryz.func103 rfl rfl rfl (args_cons (i := 0) rfl args_nil) ?_
  intro a hF
  refine wp_seq ?_
  refine E.seq ?_
  obtain ⟨g1, w1, ge1, hr, bb, o1⟩ := own_box (P := Tryz.prog) (w := w) (cs := [.bool b1, .slice ad1 n1 c1, .slice ae1 m1 d1]) (v := .agg #[.bool b1, .slice ad1 n1 c1, .slice ae1 m1 d1]) 32 rfl (niB (niS (niS ni0)))
  replace ge1 : w.heap.size ≤ g1 := by rw [← ge1]; exact bel.size
  refine E.opv hF (r_box (hF.at 0 rfl) hr) rfl rfl rfl rfl fun a hF => ?_
  clear hr
  replace h1 := h1.below bb
  replace hn1 := hn1.below bb
  replace ha1 := ha1.below bb
  replace hd1 := hd1.below bb
  replace bel := below_to bel bb
  clear bb
  obtain ⟨g2, w2, ge2, hr, bb, o2⟩ := own_alloc (P := Tryz.prog) (w := w1) (cs := [.bool false, .slice none 0 0, .slice none 0 0]) 32 ze_Rat rfl (niB (niS (niS ni0)))
  have ne1_2 : g1 ≠ g2 := by rw [← ge2]; exact o1.ne_new
  replace ge2 : w.heap.size ≤ g2 := by rw [← ge2]; exact bel.size
  refine E.opv hF (r_alloc hr) rfl rfl rfl rfl fun a hF => ?_
  clear hr
  replace ha1 := ha1.below bb
  replace hd1 := hd1.below bb
  replace h1 := h1.below bb
  replace hn1 := hn1.below bb
  replace o1 := o1.below bb
  replace bel := below_to bel bb
  clear bb
  refine E.nil ?_
  refine wp_seq ?_
  refine E.drawn 6 mixed hF [3, 4, 5, 6, 7, 8] [(fun _ v => v = .pointer (some ⟨g1, 0, none⟩)), (fun _ v => v = .agg #[.bool b1, .slice ad1 n1 c1]), (fun w v => Wc w v (-(Rat.num (q1)))), (fun _ v => v = .agg #[.bool b1, .slice ad1 n1 c1, .slice ae1 m1 d1]), (fun w v => Dg w .u32 B32 v (Rat.den (q1))), (fun w v => Rq w v (-q1))] [] (by decide +kernel) (by decide +kernel) rfl rfl rfl ⟨(Mb.eq _), (Mb.eq _), (fun _ _ _ h hb => h.below hb), (Mb.eq _), (fun _ _ _ h hb => h.below hb), (fun _ _ _ h hb => h.below hb), trivial⟩ trivial ⟨?_, ?_, ?_, ?_, ?_, ?_, trivial⟩ ?_
  · intro a' w' hF' hb hd
    exact if_does (wanted_free rfl) (Does.vals (r_field (hF'.at 1 rfl) (fa_Rat_0 (p := 0) rfl)) ⟨rfl, Below.refl _ _, (fun h => absurd h (by decide))⟩)
  · intro a' w' hF' hb hd
    have e3 : a'.tmps.getD 3 undef = .pointer (some ⟨g1, 0, none⟩) := hd _ 3 (Array.mem_of_getElem? (i := 0) rfl) rfl rfl
    exact if_does (wanted_free rfl) (Does.vals (r_load e3 (ld_Int (vs := [.bool b1, .slice ad1 n1 c1]) (o1.below hb) rfl rfl)) ⟨rfl, Below.refl _ _, (fun h => absurd h (by decide))⟩)
  · intro a' w' hF' hb hd
    have e4 : a'.tmps.getD 4 undef = .agg #[.bool b1, .slice ad1 n1 c1] := hd _ 4 (Array.mem_of_getElem? (i := 0) rfl) rfl rfl
    refine if_does (wanted_free rfl) (Does.calls (r_call Tryz.func112 en112.1 en112.2 (map1 e4)) (whOpp_any _ _ _ (Wc.wz (hn1.below hb))) ?_)
    rintro e w'' ⟨v', rfl, h', bb⟩
    exact ⟨_, rfl, h', bb, (fun h => absurd h (by decide))⟩
  · intro a' w' hF' hb hd
    exact if_does (wanted_free rfl) (Does.vals (r_load (hF'.at 1 rfl) (ld_Rat (vs := [.bool b1, .slice ad1 n1 c1, .slice ae1 m1 d1]) (o1.below hb) rfl rfl)) ⟨rfl, Below.refl _ _, (fun h => absurd h (by decide))⟩)
  · intro a' w' hF' hb hd
    have e6 : a'.tmps.getD 6 undef = .agg #[.bool b1, .slice ad1 n1 c1, .slice ae1 m1 d1] := hd _ 6 (Array.mem_of_getElem? (i := 0) rfl) rfl rfl
    refine if_does (wanted_free rfl) (Does.calls (r_call Tryz.func37 en37.1 en37.2 (map1 e6)) (rden_any _ (q1) _ (h1.below hb)) ?_)
    rintro e w'' ⟨v', rfl, h', bb⟩
    exact ⟨_, rfl, h', bb, (fun h => absurd h (by decide))⟩
  · intro a' w' hF' hb hd
    obtain ⟨v5_0, e5, h5_1⟩ : ∃ v, a'.tmps.getD 5 undef = v ∧ Wc w' v (-(Rat.num (q1))) := ⟨_, rfl, hd _ 5 (Array.mem_of_getElem? (i := 0) rfl) rfl rfl⟩
    obtain ⟨v7_0, e7, h7_1⟩ : ∃ v, a'.tmps.getD 7 undef = v ∧ Dg w' .u32 B32 v (Rat.den (q1)) := ⟨_, rfl, hd _ 7 (Array.mem_of_getElem? (i := 1) rfl) rfl rfl⟩
    refine if_does (wanted_free rfl) (Does.calls (r_call Tryz.func62 en62.1 en62.2 (map2 e5 e7)) (ratio_wc _ _ (-(Rat.num (q1))) (Rat.den (q1)) (-q1) _ h5_1 h7_1 rfl (fun _ => rfl)) ?_)
    rintro e w'' ⟨v', rfl, h', bb⟩
    exact ⟨_, rfl, h', bb, (fun h => absurd h (by decide))⟩
  intro a w3 hF bb hall hne
  obtain ⟨vv4, e8, hh5⟩ : ∃ v, a.tmps.getD 8 undef = v ∧ Rq w3 v (-q1) := ⟨_, rfl, hall 5 8 rfl⟩
  clear hall hne
  replace o2 := o2.below bb
  replace bel := below_to bel bb
  clear bb
  obtain ⟨b6, ad6, n6, c6, ae6, m6, d6, rfl, hn6, hd6⟩ := Rq.shape hh5
  have hf7 := Wc.abs hn6
  replace hF := hF.add e8
  clear e8
  obtain ⟨w8, hr, tu, on⟩ := st_Rat (vs := [.bool b6, .slice ad6 n6 c6, .slice ae6 m6 d6]) o2 rfl rfl (ocB (ocS (ocS oc0))) (niB (niS (niS ni0))) (o := 0) rfl
  have kp := tu.keep o2
  refine E.st hF (r_store (hF.at 1 rfl) (hF.at 0 rfl) (hr _ rfl)) rfl rfl fun a hF => ?_
  clear hr
  replace hh5 := hh5.keep kp
  replace hn6 := hn6.keep kp
  replace hf7 := hf7.keep kp
  replace hd6 := hd6.keep kp
  replace bel := tu.below bel ge2
  clear tu kp
  replace o2 := on
  clear on
  refine E.nil ?_
  refine wp_ret ?_
  refine bodyPost_ret (res_cell Tryz.results103 (hF.at 1 rfl) (ld_Rat (vs := [.bool b6, .slice ad6 n6 c6, .slice ae6 m6 d6]) o2 rfl rfl)) hF.dfr ?_
  exact ⟨_, rfl, hh5, bel⟩

set_option maxHeartbeats 1000000 in
theorem rOf2_any (n d : Int) (w : World) (b1 : -9223372036854775808 ≤ n) (b2 : n ≤ 9223372036854775807) (b3 : -9223372036854775808 ≤ d) (b4 : d ≤ 9223372036854775807) :
    Calls Tryz.prog 19 #[.int .i64 n, .int .i64 d] w (RqPost w ((n : Rat) / (d : Rat))) := by
  have bel : Below w.heap.size w w := Below.refl _ _
  refine E.enter (nt := 10) (L := [(0, .int .i64 n), (1, .int .i64 d)]) Tryz.func19 rfl rfl rfl (args_cons (i := 0) rfl (args_cons (i := 1) rfl args_nil)) ?_
  intro a hF
  refine wp_seq ?_
  refine E.seq ?_
  obtain ⟨g4, w1, ge4, hr, bb, o4⟩ := own_alloc (P := Tryz.prog) (w := w) (cs := [.bool false, .slice none 0 0, .slice none 0 0]) 32 ze_Rat rfl (niB (niS (niS ni0)))
  replace ge4 : w.heap.size ≤ g4 := by rw [← ge4]; exact bel.size
  refine E.opv hF (r_alloc hr) rfl rfl rfl rfl fun a hF => ?_
  clear hr
  replace bel := below_to bel bb
  clear bb
  refine E.nil ?_
  refine wp_seq ?_
  refine E.seq ?_
  refine E.opv hF (r_move (hF.at 1 rfl)) rfl rfl rfl rfl fun a hF => ?_
  refine E.call hF (r_call Tryz.func56 en56.1 en56.2 (map1 (hF.at 0 rfl))) (whOf_any n _ b1 b2) rfl rfl rfl rfl ?_
  rintro e w2 ⟨vv3, rfl, hh4, bb⟩
  refine ⟨_, rfl, ?_⟩
  intro a hF
  replace o4 := o4.below bb
  replace bel := below_to bel bb
  clear bb
  obtain ⟨ad5, n5, c5, rfl, _⟩ := Wc.shape hh4
  refine E.opv hF (r_move (hF.at 4 rfl)) rfl rfl rfl rfl fun a hF => ?_
  refine E.call hF (r_call Tryz.func56 en56.1 en56.2 (map1 (hF.at 0 rfl))) (whOf_any d _ b3 b4) rfl rfl rfl rfl ?_
  rintro e w6 ⟨vv7, rfl, hh8, bb⟩
  refine ⟨_, rfl, ?_⟩
  intro a hF
  replace hh4 := hh4.below bb
  replace o4 := o4.below bb
  replace bel := below_to bel bb
  clear bb
  obtain ⟨ad9, n9, c9, rfl, _⟩ := Wc.shape hh8
  refine E.call hF (r_call Tryz.func24 en24.1 en24.2 (map2 (hF.at 2 rfl) (hF.at 0 rfl))) (rmk_any _ _ (n) (d) _ (Wc.wz hh4) (Wc.wz hh8)) rfl rfl rfl rfl ?_
  rintro e w10 ⟨vv11, rfl, hh12, bb⟩
  refine ⟨_, rfl, ?_⟩
  intro a hF
  replace o4 := o4.below bb
  replace bel := below_to bel bb
  clear bb
  obtain ⟨b13, ad13, n13, c13, ae13, m13, d13, rfl, hn13, hd13⟩ := Rq.shape hh12
  have hf14 := Wc.abs hn13
  obtain ⟨w15, hr, tu, on⟩ := st_Rat (vs := [.bool b13, .slice ad13 n13 c13, .slice ae13 m13 d13]) o4 rfl rfl (ocB (ocS (ocS oc0))) (niB (niS (niS ni0))) (o := 0) rfl
  have kp := tu.keep o4
  refine E.st hF (r_store (hF.at 5 rfl) (hF.at 0 rfl) (hr _ rfl)) rfl rfl fun a hF => ?_
  clear hr
  replace hh12 := hh12.keep kp
  replace hn13 := hn13.keep kp
  replace hf14 := hf14.keep kp
  replace hd13 := hd13.keep kp
  replace bel := tu.below bel ge4
  clear tu kp
  replace o4 := on
  clear on
  refine E.nil ?_
  refine wp_ret ?_
  refine bodyPost_ret (res_cell Tryz.results19 (hF.at 5 rfl) (ld_Rat (vs := [.bool b13, .slice ad13 n13 c13, .slice ae13 m13 d13]) o4 rfl rfl)) hF.dfr ?_
  exact ⟨_, rfl, hh12, bel⟩

set_option maxHeartbeats 1000000 in
theorem rWhole_any (n : Int) (w : World) (b1 : -9223372036854775808 ≤ n) (b2 : n ≤ 9223372036854775807) :
    Calls Tryz.prog 23 #[.int .i64 n] w (RqPost w (n : Rat)) := by
  have bel : Below w.heap.size w w := Below.refl _ _
  refine E.enter (nt := 7) (L := [(0, .int .i64 n)]) Tryz.func23 rfl rfl rfl (args_cons (i := 0) rfl args_nil) ?_
  intro a hF
  refine wp_seq ?_
  refine E.seq ?_
  obtain ⟨g2, w1, ge2, hr, bb, o2⟩ := own_alloc (P := Tryz.prog) (w := w) (cs := [.bool false, .slice none 0 0, .slice none 0 0]) 32 ze_Rat rfl (niB (niS (niS ni0)))
  replace ge2 : w.heap.size ≤ g2 := by rw [← ge2]; exact bel.size
  refine E.opv hF (r_alloc hr) rfl rfl rfl rfl fun a hF => ?_
  clear hr
  replace bel := below_to bel bb
  clear bb
  refine E.nil ?_
  refine wp_seq ?_
  refine E.seq ?_
  refine E.opv hF (r_move (hF.at 1 rfl)) rfl rfl rfl rfl fun a hF => ?_
  refine E.call hF (r_call Tryz.func56 en56.1 en56.2 (map1 (hF.at 0 rfl))) (whOf_any n _ b1 b2) rfl rfl rfl rfl ?_
  rintro e w2 ⟨vv3, rfl, hh4, bb⟩
  refine ⟨_, rfl, ?_⟩
  intro a hF
  replace o2 := o2.below bb
  replace bel := below_to bel bb
  clear bb
  obtain ⟨ad5, n5, c5, rfl, _⟩ := Wc.shape hh4
  refine E.call hF (r_call Tryz.func41 en41.1 en41.2 (map1 ev_c)) (of_any 1 _ (by decide)) rfl rfl rfl rfl ?_
  rintro e w6 ⟨vv7, rfl, hh8, bb⟩
  refine ⟨_, rfl, ?_⟩
  intro a hF
  replace hh4 := hh4.below bb
  replace o2 := o2.below bb
  replace bel := below_to bel bb
  clear bb
  obtain ⟨ad9, n9, c9, rfl⟩ := Dg.form hh8
  refine E.call hF (r_call Tryz.func62 en62.1 en62.2 (map2 (hF.at 1 rfl) (hF.at 0 rfl))) (ratio_wc _ _ (n) (1) ((n : Rat)) _ hh4 hh8 rfl (fun _ => rfl)) rfl rfl rfl rfl ?_
  rintro e w10 ⟨vv11, rfl, hh12, bb⟩
  refine ⟨_, rfl, ?_⟩
  intro a hF
  replace o2 := o2.below bb
  replace bel := below_to bel bb
  clear bb
  obtain ⟨b13, ad13, n13, c13, ae13, m13, d13, rfl, hn13, hd13⟩ := Rq.shape hh12
  have hf14 := Wc.abs hn13
  obtain ⟨w15, hr, tu, on⟩ := st_Rat (vs := [.bool b13, .slice ad13 n13 c13, .slice ae13 m13 d13]) o2 rfl rfl (ocB (ocS (ocS oc0))) (niB (niS (niS ni0))) (o := 0) rfl
  have kp := tu.keep o2
  refine E.st hF (r_store (hF.at 4 rfl) (hF.at 0 rfl) (hr _ rfl)) rfl rfl fun a hF => ?_
  clear hr
  replace hh12 := hh12.keep kp
  replace hn13 := hn13.keep kp
  replace hf14 := hf14.keep kp
  replace hd13 := hd13.keep kp
  replace bel := tu.below bel ge2
  clear tu kp
  replace o2 := on
  clear on
  refine E.nil ?_
  refine wp_ret ?_
  refine bodyPost_ret (res_cell Tryz.results23 (hF.at 4 rfl) (ld_Rat (vs := [.bool b13, .slice ad13 n13 c13, .slice ae13 m13 d13]) o2 rfl rfl)) hF.dfr ?_
  exact ⟨_, rfl, hh12, bel⟩

set_option maxHeartbeats 1000000 in
theorem rAdd_any (v1 v2 : Value) (q1 q2 : Rat) (k : Nat) (w : World) (h1 : Rq w v1 q1) (h2 : Rq w v2 q2) (l1 : RLim q1 k) (l2 : RLim q2 k) (hk : k ≤ 100000) :
    Calls Tryz.prog 21 #[v1, v2] w (RqPost w (q1 + q2)) := by
  obtain ⟨b1, ad1, n1, c1, ae1, m1, d1, rfl, hn1, hd1⟩ := h1.shape
  have h1 : Rq w (.agg #[.bool b1, .slice ad1 n1 c1, .slice ae1 m1 d1]) q1 := ⟨_, _, _, _, _, _, _, rfl, hn1, hd1⟩
  have ha1 := hn1.abs
  have hb1 := hn1.neg
  obtain ⟨b2, ad2, n2, c2, ae2, m2, d2, rfl, hn2, hd2⟩ := h2.shape
  have h2 : Rq w (.agg #[.bool b2, .slice ad2 n2 c2, .slice ae2 m2 d2]) q2 := ⟨_, _, _, _, _, _, _, rfl, hn2, hd2⟩
  have ha2 := hn2.abs
  have hb2 := hn2.neg
  have HP := Lib.hid (add_parts q1 q2)
  have bel : Below w.heap.size w w := Below.refl _ _
  refine E.enter (nt := 47) (L := [(0, .agg #[.bool b1, .slice ad1 n1 c1, .slice ae1 m1 d1]), (1, .agg #[.bool b2, .slice ad2 n2 c2, .slice ae2 m2 d2])]) Tryz.func21 rfl rfl rfl (args_cons (i := 0) rfl (args_cons (i := 1) rfl args_nil)) ?_
  intro a hF
  refine wp_seq ?_
  refine E.seq ?_
  obtain ⟨g2, w1, ge2, hr, bb, o2⟩ := own_box (P := Tryz.prog) (w := w) (cs := [.bool b1, .slice ad1 n1 c1, .slice ae1 m1 d1]) (v := .agg #[.bool b1, .slice ad1 n1 c1, .slice ae1 m1 d1]) 32 rfl (niB (niS (niS ni0)))
  replace ge2 : w.heap.size ≤ g2 := by rw [← ge2]; exact bel.size
  refine E.opv hF (r_box (hF.at 0 rfl) hr) rfl rfl rfl rfl fun a hF => ?_
  clear hr
  replace h2 := h2.below bb
  replace hn2 := hn2.below bb
  replace ha2 := ha2.below bb
  replace hd2 := hd2.below bb
  replace h1 := h1.below bb
  replace hn1 := hn1.below bb
  replace ha1 := ha1.below bb
  replace hd1 := hd1.below bb
  replace bel := below_to bel bb
  clear bb
  obtain ⟨g3, w2, ge3, hr, bb, o3⟩ := own_box (P := Tryz.prog) (w := w1) (cs := [.bool b2, .slice ad2 n2 c2, .slice ae2 m2 d2]) (v := .agg #[.bool b2, .slice ad2 n2 c2, .slice ae2 m2 d2]) 32 rfl (niB (niS (niS ni0)))
  have ne2_3 : g2 ≠ g3 := by rw [← ge3]; exact o2.ne_new
  replace ge3 : w.heap.size ≤ g3 := by rw [← ge3]; exact bel.size
  refine E.opv hF (r_box (hF.at 2 rfl) hr) rfl rfl rfl rfl fun a hF => ?_
  clear hr
  replace ha1 := ha1.below bb
  replace hd1 := hd1.below bb
  replace h1 := h1.below bb
  replace hn1 := hn1.below bb
  replace h2 := h2.below bb
  replace hn2 := hn2.below bb
  replace ha2 := ha2.below bb
  replace hd2 := hd2.below bb
  replace o2 := o2.below bb
  replace bel := below_to bel bb
  clear bb
  obtain ⟨g4, w3, ge4, hr, bb, o4⟩ := own_alloc (P := Tryz.prog) (w := w2) (cs := [.bool false, .slice none 0 0, .slice none 0 0]) 32 ze_Rat rfl (niB (niS (niS ni0)))
  have ne2_4 : g2 ≠ g4 := by rw [← ge4]; exact o2.ne_new
  have ne3_4 : g3 ≠ g4 := by rw [← ge4]; exact o3.ne_new
  replace ge4 : w.heap.size ≤ g4 := by rw [← ge4]; exact bel.size
  refine E.opv hF (r_alloc hr) rfl rfl rfl rfl fun a hF => ?_
  clear hr
  replace ha1 := ha1.below bb
  replace hd1 := hd1.below bb
  replace h1 := h1.below bb
  replace hn1 := hn1.below bb
  replace ha2 := ha2.below bb
  replace hd2 := hd2.below bb
  replace h2 := h2.below bb
  replace hn2 := hn2.below bb
  replace o2 := o2.below bb
  replace o3 := o3.below bb
  replace bel := below_to bel bb
  clear bb
  refine E.nil ?_
  refine wp_seq ?_
  refine E.drawn 6 mixed hF [9, 10, 11, 12, 13, 5] [(fun _ v => v = .agg #[.bool b1, .slice ad1 n1 c1, .slice ae1 m1 d1]), (fun w v => Dg w .u32 B32 v (Rat.den (q1))), (fun _ v => v = .agg #[.bool b2, .slice ad2 n2 c2, .slice ae2 m2 d2]), (fun w v => Dg w .u32 B32 v (Rat.den (q2))), (fun w v => Dg w .u32 B32 v (Nat.gcd (Rat.den (q1)) (Rat.den (q2)))), (fun w v => Dg w .u32 B32 v (Nat.gcd (Rat.den (q1)) (Rat.den (q2))))] [] (by decide +kernel) (by decide +kernel) rfl rfl rfl ⟨(Mb.eq _), (fun _ _ _ h hb => h.below hb), (Mb.eq _), (fun _ _ _ h hb => h.below hb), (fun _ _ _ h hb => h.below hb), (fun _ _ _ h hb => h.below hb), trivial⟩ trivial ⟨?_, ?_, ?_, ?_, ?_, ?_, trivial⟩ ?_
  · intro a' w' hF' hb hd
    exact if_does (wanted_free rfl) (Does.vals (r_load (hF'.at 2 rfl) (ld_Rat (vs := [.bool b1, .slice ad1 n1 c1, .slice ae1 m1 d1]) (o2.below hb) rfl rfl)) ⟨rfl, Below.refl _ _, (fun h => absurd h (by decide))⟩)
  · intro a' w' hF' hb hd
    have e9 : a'.tmps.getD 9 undef = .agg #[.bool b1, .slice ad1 n1 c1, .slice ae1 m1 d1] := hd _ 9 (Array.mem_of_getElem? (i := 0) rfl) rfl rfl
    refine if_does (wanted_free rfl) (Does.calls (r_call Tryz.func58 en58.1 en58.2 (map1 e9)) (rbelow_any _ (q1) _ (h1.below hb)) ?_)
    rintro e w'' ⟨v', rfl, h', bb⟩
    exact ⟨_, rfl, h', bb, (fun h => absurd h (by decide))⟩
  · intro a' w' hF' hb hd
    exact if_does (wanted_free rfl) (Does.vals (r_load (hF'.at 1 rfl) (ld_Rat (vs := [.bool b2, .slice ad2 n2 c2, .slice ae2 m2 d2]) (o3.below hb) rfl rfl)) ⟨rfl, Below.refl _ _, (fun h => absurd h (by decide))⟩)
  · intro a' w' hF' hb hd
    have e11 : a'.tmps.getD 11 undef = .agg #[.bool b2, .slice ad2 n2 c2, .slice ae2 m2 d2] := hd _ 11 (Array.mem_of_getElem? (i := 0) rfl) rfl rfl
    refine if_does (wanted_free rfl) (Does.calls (r_call Tryz.func58 en58.1 en58.2 (map1 e11)) (rbelow_any _ (q2) _ (h2.below hb)) ?_)
    rintro e w'' ⟨v', rfl, h', bb⟩
    exact ⟨_, rfl, h', bb, (fun h => absurd h (by decide))⟩
  · intro a' w' hF' hb hd
    obtain ⟨v10_0, e10, h10_1⟩ : ∃ v, a'.tmps.getD 10 undef = v ∧ Dg w' .u32 B32 v (Rat.den (q1)) := ⟨_, rfl, hd _ 10 (Array.mem_of_getElem? (i := 0) rfl) rfl rfl⟩
    obtain ⟨v12_0, e12, h12_1⟩ : ∃ v, a'.tmps.getD 12 undef = v ∧ Dg w' .u32 B32 v (Rat.den (q2)) := ⟨_, rfl, hd _ 12 (Array.mem_of_getElem? (i := 1) rfl) rfl rfl⟩
    refine if_does (wanted_free rfl) (Does.calls (r_call Tryz.func39 en39.1 en39.2 (map2 e10 e12)) (gcd_any _ _ (Rat.den (q1)) (Rat.den (q2)) _ (Dg.nt h10_1) (Dg.nt h12_1)) ?_)
    rintro e w'' ⟨v', rfl, h', bb⟩
    exact ⟨_, rfl, h', bb, (fun h => absurd h (by decide))⟩
  · intro a' w' hF' hb hd
    obtain ⟨v13_0, e13, h13_1⟩ : ∃ v, a'.tmps.getD 13 undef = v ∧ Dg w' .u32 B32 v (Nat.gcd (Rat.den (q1)) (Rat.den (q2))) := ⟨_, rfl, hd _ 13 (Array.mem_of_getElem? (i := 0) rfl) rfl rfl⟩
    exact if_does (wanted_free rfl) (Does.vals (r_assign e13) ⟨h13_1, Below.refl _ _, (fun h => absurd h (by decide))⟩)
  intro a w4 hF bb hall hne
  obtain ⟨vv5, e5, hh6⟩ : ∃ v, a.tmps.getD 5 undef = v ∧ Dg w4 .u32 B32 v (Nat.gcd (Rat.den (q1)) (Rat.den (q2))) := ⟨_, rfl, hall 5 5 rfl⟩
  clear hall hne
  replace ha1 := ha1.below bb
  replace hd1 := hd1.below bb
  replace h1 := h1.below bb
  replace hn1 := hn1.below bb
  replace ha2 := ha2.below bb
  replace hd2 := hd2.below bb
  replace h2 := h2.below bb
  replace hn2 := hn2.below bb
  replace o2 := o2.below bb
  replace o3 := o3.below bb
  replace o4 := o4.below bb
  replace bel := below_to bel bb
  clear bb
  obtain ⟨ad7, n7, c7, rfl⟩ := Dg.form hh6
  replace hF := hF.add e5
  clear e5
  refine E.nil ?_
  refine wp_seq ?_
  refine E.seq ?_
  refine E.opv hF (r_load (hF.at 3 rfl) (ld_Rat (vs := [.bool b1, .slice ad1 n1 c1, .slice ae1 m1 d1]) o2 rfl rfl)) rfl rfl rfl rfl fun a hF => ?_
  refine E.call hF (r_call Tryz.func58 en58.1 en58.2 (map1 (hF.at 0 rfl))) (rbelow_any _ (q1) _ h1) rfl rfl rfl rfl ?_
  rintro e w8 ⟨vv9, rfl, hh10, bb⟩
  refine ⟨_, rfl, ?_⟩
  intro a hF
  replace hh6 := hh6.below bb
  replace ha1 := ha1.below bb
  replace hd1 := hd1.below bb
  replace h1 := h1.below bb
  replace hn1 := hn1.below bb
  replace ha2 := ha2.below bb
  replace hd2 := hd2.below bb
  replace h2 := h2.below bb
  replace hn2 := hn2.below bb
  replace o2 := o2.below bb
  replace o3 := o3.below bb
  replace o4 := o4.below bb
  replace bel := below_to bel bb
  clear bb
  obtain ⟨ad11, n11, c11, rfl⟩ := Dg.form hh10
  refine E.opv hF (r_move (hF.at 2 rfl)) rfl rfl rfl rfl fun a hF => ?_
  refine E.call hF (r_call Tryz.func59 en59.1 en59.2 (map2 (hF.at 1 rfl) (hF.at 0 rfl))) (rby_any _ _ (Rat.den (q1)) (Nat.gcd (Rat.den (q1)) (Rat.den (q2))) _ (Dg.nt hh10) (Dg.nt hh6)) rfl rfl rfl rfl ?_
  rintro e w12 ⟨vv13, rfl, hh14, bb⟩
  refine ⟨_, rfl, ?_⟩
  intro a hF
  replace hh6 := hh6.below bb
  replace ha1 := ha1.below bb
  replace hd1 := hd1.below bb
  replace h1 := h1.below bb
  replace hn1 := hn1.below bb
  replace ha2 := ha2.below bb
  replace hd2 := hd2.below bb
  replace h2 := h2.below bb
  replace hn2 := hn2.below bb
  replace o2 := o2.below bb
  replace o3 := o3.below bb
  replace o4 := o4.below bb
  replace bel := below_to bel bb
  clear bb
  obtain ⟨ad15, n15, c15, rfl⟩ := Dg.form hh14
  refine E.opv hF (r_assign (hF.at 0 rfl)) rfl rfl rfl rfl fun a hF => ?_
  refine E.nil ?_
  refine wp_seq ?_
  refine E.drawn 13 mixed hF [18, 19, 20, 21, 22, 23, 24, 25, 26, 27, 28, 29, 7] [(fun _ v => v = .pointer (some ⟨g2, 0, none⟩)), (fun _ v => v = .agg #[.bool b1, .slice ad1 n1 c1]), (fun _ v => v = .agg #[.bool b2, .slice ad2 n2 c2, .slice ae2 m2 d2]), (fun w v => Dg w .u32 B32 v (Rat.den (q2))), (fun _ v => v = .slice ad7 n7 c7), (fun w v => Dg w .u32 B32 v ((Rat.den (q2)) / (Nat.gcd (Rat.den (q1)) (Rat.den (q2))))), (fun w v => Wc w v ((Rat.num (q1)) * (((Rat.den (q2)) / (Nat.gcd (Rat.den (q1)) (Rat.den (q2))) : Nat) : Int))), (fun _ v => v = .pointer (some ⟨g3, 0, none⟩)), (fun _ v => v = .agg #[.bool b2, .slice ad2 n2 c2]), (fun _ v => v = .slice ad15 n15 c15), (fun w v => Wc w v ((Rat.num (q2)) * (((Rat.den (q1)) / (Nat.gcd (Rat.den (q1)) (Rat.den (q2))) : Nat) : Int))), (fun w v => Wc w v (((Rat.num (q1)) * (((Rat.den (q2)) / (Nat.gcd (Rat.den (q1)) (Rat.den (q2))) : Nat) : Int)) + ((Rat.num (q2)) * (((Rat.den (q1)) / (Nat.gcd (Rat.den (q1)) (Rat.den (q2))) : Nat) : Int)))), (fun w v => ∃ g, v = .pointer (some ⟨g, 0, none⟩) ∧ w12.heap.size ≤ g ∧ Own w g [.bool false, .slice none 0 0])] [12] (by decide +kernel) (by decide +kernel) rfl rfl rfl ⟨(Mb.eq _), (Mb.eq _), (Mb.eq _), (fun _ _ _ h hb => h.below hb), (Mb.eq _), (fun _ _ _ h hb => h.below hb), (fun _ _ _ h hb => h.below hb), (Mb.eq _), (Mb.eq _), (Mb.eq _), (fun _ _ _ h hb => h.below hb), (fun _ _ _ h hb => h.below hb), (fun _ _ _ ⟨g, e, l, o⟩ hb => ⟨g, e, l, o.below hb⟩), trivial⟩ ⟨fun _ _ ⟨g, e, _, o⟩ => ⟨g, e, o.lt⟩, trivial⟩ ⟨?_, ?_, ?_, ?_, ?_, ?_, ?_, ?_, ?_, ?_, ?_, ?_, ?_, trivial⟩ ?_
  · intro a' w' hF' hb hd
    exact if_does (wanted_free rfl) (Does.vals (r_field (hF'.at 8 rfl) (fa_Rat_0 (p := 0) rfl)) ⟨rfl, Below.refl _ _, (fun h => absurd h (by decide))⟩)
  · intro a' w' hF' hb hd
    have e18 : a'.tmps.getD 18 undef = .pointer (some ⟨g2, 0, none⟩) := hd _ 18 (Array.mem_of_getElem? (i := 0) rfl) rfl rfl
    exact if_does (wanted_free rfl) (Does.vals (r_load e18 (ld_Int (vs := [.bool b1, .slice ad1 n1 c1]) (o2.below hb) rfl rfl)) ⟨rfl, Below.refl _ _, (fun h => absurd h (by decide))⟩)
  · intro a' w' hF' hb hd
    exact if_does (wanted_free rfl) (Does.vals (r_load (hF'.at 7 rfl) (ld_Rat (vs := [.bool b2, .slice ad2 n2 c2, .slice ae2 m2 d2]) (o3.below hb) rfl rfl)) ⟨rfl, Below.refl _ _, (fun h => absurd h (by decide))⟩)
  · intro a' w' hF' hb hd
    have e20 : a'.tmps.getD 20 undef = .agg #[.bool b2, .slice ad2 n2 c2, .slice ae2 m2 d2] := hd _ 20 (Array.mem_of_getElem? (i := 0) rfl) rfl rfl
    refine if_does (wanted_free rfl) (Does.calls (r_call Tryz.func58 en58.1 en58.2 (map1 e20)) (rbelow_any _ (q2) _ (h2.below hb)) ?_)
    rintro e w'' ⟨v', rfl, h', bb⟩
    exact ⟨_, rfl, h', bb, (fun h => absurd h (by decide))⟩
  · intro a' w' hF' hb hd
    exact if_does (wanted_free rfl) (Does.vals (r_move (hF'.at 5 rfl)) ⟨rfl, Below.refl _ _, (fun h => absurd h (by decide))⟩)
  · intro a' w' hF' hb hd
    obtain ⟨v21_0, e21, h21_1⟩ : ∃ v, a'.tmps.getD 21 undef = v ∧ Dg w' .u32 B32 v (Rat.den (q2)) := ⟨_, rfl, hd _ 21 (Array.mem_of_getElem? (i := 0) rfl) rfl rfl⟩
    have e22 : a'.tmps.getD 22 undef = .slice ad7 n7 c7 := hd _ 22 (Array.mem_of_getElem? (i := 1) rfl) rfl rfl
    refine if_does (wanted_free rfl) (Does.calls (r_call Tryz.func59 en59.1 en59.2 (map2 e21 e22)) (rby_any _ _ (Rat.den (q2)) (Nat.gcd (Rat.den (q1)) (Rat.den (q2))) _ (Dg.nt h21_1) (Dg.nt (hh6.below hb))) ?_)
    rintro e w'' ⟨v', rfl, h', bb⟩
    exact ⟨_, rfl, h', bb, (fun h => absurd h (by decide))⟩
  · intro a' w' hF' hb hd
    have e19 : a'.tmps.getD 19 undef = .agg #[.bool b1, .slice ad1 n1 c1] := hd _ 19 (Array.mem_of_getElem? (i := 0) rfl) rfl rfl
    obtain ⟨v23_0, e23, h23_1⟩ : ∃ v, a'.tmps.getD 23 undef = v ∧ Dg w' .u32 B32 v ((Rat.den (q2)) / (Nat.gcd (Rat.den (q1)) (Rat.den (q2)))) := ⟨_, rfl, hd _ 23 (Array.mem_of_getElem? (i := 1) rfl) rfl rfl⟩
    refine if_does (wanted_free rfl) (Does.calls (r_call Tryz.func60 en60.1 en60.2 (map2 e19 e23)) (rtimes_any _ _ (Rat.num (q1)) ((Rat.den (q2)) / (Nat.gcd (Rat.den (q1)) (Rat.den (q2)))) k k _ (Wc.wz (hn1.below hb)) (Dg.nt h23_1) (l1.1) (div_lim (l2.2)) (by omega) (by omega)) ?_)
    rintro e w'' ⟨v', rfl, h', bb⟩
    exact ⟨_, rfl, h', bb, (fun h => absurd h (by decide))⟩
  · intro a' w' hF' hb hd
    exact if_does (wanted_free rfl) (Does.vals (r_field (hF'.at 7 rfl) (fa_Rat_0 (p := 0) rfl)) ⟨rfl, Below.refl _ _, (fun h => absurd h (by decide))⟩)
  · intro a' w' hF' hb hd
    have e25 : a'.tmps.getD 25 undef = .pointer (some ⟨g3, 0, none⟩) := hd _ 25 (Array.mem_of_getElem? (i := 0) rfl) rfl rfl
    exact if_does (wanted_free rfl) (Does.vals (r_load e25 (ld_Int (vs := [.bool b2, .slice ad2 n2 c2]) (o3.below hb) rfl rfl)) ⟨rfl, Below.refl _ _, (fun h => absurd h (by decide))⟩)
  · intro a' w' hF' hb hd
    exact if_does (wanted_free rfl) (Does.vals (r_move (hF'.at 0 rfl)) ⟨rfl, Below.refl _ _, (fun h => absurd h (by decide))⟩)
  · intro a' w' hF' hb hd
    have e26 : a'.tmps.getD 26 undef = .agg #[.bool b2, .slice ad2 n2 c2] := hd _ 26 (Array.mem_of_getElem? (i := 0) rfl) rfl rfl
    have e27 : a'.tmps.getD 27 undef = .slice ad15 n15 c15 := hd _ 27 (Array.mem_of_getElem? (i := 1) rfl) rfl rfl
    refine if_does (wanted_free rfl) (Does.calls (r_call Tryz.func60 en60.1 en60.2 (map2 e26 e27)) (rtimes_any _ _ (Rat.num (q2)) ((Rat.den (q1)) / (Nat.gcd (Rat.den (q1)) (Rat.den (q2)))) k k _ (Wc.wz (hn2.below hb)) (Dg.nt (hh14.below hb)) (l2.1) (div_lim (l1.2)) (by omega) (by omega)) ?_)
    rintro e w'' ⟨v', rfl, h', bb⟩
    exact ⟨_, rfl, h', bb, (fun h => absurd h (by decide))⟩
  · intro a' w' hF' hb hd
    obtain ⟨v24_0, e24, h24_1⟩ : ∃ v, a'.tmps.getD 24 undef = v ∧ Wc w' v ((Rat.num (q1)) * (((Rat.den (q2)) / (Nat.gcd (Rat.den (q1)) (Rat.den (q2))) : Nat) : Int)) := ⟨_, rfl, hd _ 24 (Array.mem_of_getElem? (i := 0) rfl) rfl rfl⟩
    obtain ⟨v28_0, e28, h28_1⟩ : ∃ v, a'.tmps.getD 28 undef = v ∧ Wc w' v ((Rat.num (q2)) * (((Rat.den (q1)) / (Nat.gcd (Rat.den (q1)) (Rat.den (q2))) : Nat) : Int)) := ⟨_, rfl, hd _ 28 (Array.mem_of_getElem? (i := 1) rfl) rfl rfl⟩
    refine if_does (wanted_free rfl) (Does.calls (r_call Tryz.func61 en61.1 en61.2 (map2 e24 e28)) (whAdd_any _ _ _ _ (k + k) (k + k) _ (Wc.wz h24_1) (Wc.wz h28_1) (limz_mul (l1.1) (div_lim (l2.2))) (limz_mul (l2.1) (div_lim (l1.2))) (by omega) (by omega)) ?_)
    rintro e w'' ⟨v', rfl, h', bb⟩
    exact ⟨_, rfl, h', bb, (fun h => absurd h (by decide))⟩
  · intro a' w' hF' hb hd
    obtain ⟨g, w2, ge, hr, bb, on⟩ := own_alloc (P := Tryz.prog) (w := w') (cs := [.bool false, .slice none 0 0]) 30 ze_Int rfl (niB (niS ni0))
    subst ge
    exact if_does (wanted_free rfl) (Does.vals (r_alloc hr) ⟨⟨_, rfl, hb.size, on⟩, bb, fun _ => rfl⟩)
  intro a w16 hF bb hall hne
  obtain ⟨vv17, e29, hh18⟩ : ∃ v, a.tmps.getD 29 undef = v ∧ Wc w16 v (((Rat.num (q1)) * (((Rat.den (q2)) / (Nat.gcd (Rat.den (q1)) (Rat.den (q2))) : Nat) : Int)) + ((Rat.num (q2)) * (((Rat.den (q1)) / (Nat.gcd (Rat.den (q1)) (Rat.den (q2))) : Nat) : Int))) := ⟨_, rfl, hall 11 29 rfl⟩
  obtain ⟨g7, e7, ge7, o7⟩ : ∃ g, a.tmps.getD 7 undef = .pointer (some ⟨g, 0, none⟩) ∧ w12.heap.size ≤ g ∧ Own w16 g [.bool false, .slice none 0 0] := hall 12 7 rfl
  have ne3_7 : g3 ≠ g7 := Nat.ne_of_lt (Nat.lt_of_lt_of_le o3.lt ge7)
  have ne4_7 : g4 ≠ g7 := Nat.ne_of_lt (Nat.lt_of_lt_of_le o4.lt ge7)
  replace ge7 : w.heap.size ≤ g7 := Nat.le_trans bel.size ge7
  clear hall hne
  replace hh14 := hh14.below bb
  replace hh6 := hh6.below bb
  replace ha2 := ha2.below bb
  replace hd2 := hd2.below bb
  replace h2 := h2.below bb
  replace hn2 := hn2.below bb
  replace o3 := o3.below bb
  replace o4 := o4.below bb
  replace bel := below_to bel bb
  clear bb
  obtain ⟨ad19, n19, c19, rfl, _⟩ := Wc.shape hh18
  replace hF := hF.add e29
  clear e29
  replace hF := hF.add e7
  clear e7
  obtain ⟨w20, hr, tu, on⟩ := st_Int (vs := [.bool (decide (((Rat.num (q1)) * (((Rat.den (q2)) / (Nat.gcd (Rat.den (q1)) (Rat.den (q2))) : Nat) : Int)) + ((Rat.num (q2)) * (((Rat.den (q1)) / (Nat.gcd (Rat.den (q1)) (Rat.den (q2))) : Nat) : Int)) < 0)), .slice ad19 n19 c19]) o7 rfl rfl (ocB (ocS oc0)) (niB (niS ni0)) (o := 0) rfl
  have kp := tu.keep o7
  refine E.st hF (r_store (hF.at 0 rfl) (hF.at 1 rfl) (hr _ rfl)) rfl rfl fun a hF => ?_
  clear hr
  replace hh14 := hh14.keep kp
  replace hh6 := hh6.keep kp
  replace ha2 := ha2.keep kp
  replace hd2 := hd2.keep kp
  replace h2 := h2.keep kp
  replace hn2 := hn2.keep kp
  replace hh18 := hh18.keep kp
  replace o3 := tu.own o3 ne3_7
  replace o4 := tu.own o4 ne4_7
  replace bel := tu.below bel ge7
  clear tu kp
  replace o7 := on
  clear on
  have hf21 := Wc.abs hh18
  refine E.nil ?_
  refine wp_seq ?_
  refine E.seq ?_
  refine E.opv hF (r_field (hF.at 0 rfl) (fa_Int_1 (p := 1) rfl)) rfl rfl rfl rfl fun a hF => ?_
  refine E.opv hF (r_load (hF.at 0 rfl) (ld_Nat (v := .slice ad19 n19 c19) o7 rfl)) rfl rfl rfl rfl fun a hF => ?_
  refine E.opv hF (r_move (hF.at 9 rfl)) rfl rfl rfl rfl fun a hF => ?_
  refine E.call hF (r_call Tryz.func39 en39.1 en39.2 (map2 (hF.at 1 rfl) (hF.at 0 rfl))) (gcd_any _ _ (Int.natAbs (((Rat.num (q1)) * (((Rat.den (q2)) / (Nat.gcd (Rat.den (q1)) (Rat.den (q2))) : Nat) : Int)) + ((Rat.num (q2)) * (((Rat.den (q1)) / (Nat.gcd (Rat.den (q1)) (Rat.den (q2))) : Nat) : Int)))) (Nat.gcd (Rat.den (q1)) (Rat.den (q2))) _ (Dg.nt hf21) (Dg.nt hh6)) rfl rfl rfl rfl ?_
  rintro e w22 ⟨vv23, rfl, hh24, bb⟩
  refine ⟨_, rfl, ?_⟩
  intro a hF
  replace hh14 := hh14.below bb
  replace ha2 := ha2.below bb
  replace hd2 := hd2.below bb
  replace h2 := h2.below bb
  replace hn2 := hn2.below bb
  replace hf21 := hf21.below bb
  replace hh18 := hh18.below bb
  replace o3 := o3.below bb
  replace o4 := o4.below bb
  replace o7 := o7.below bb
  replace bel := below_to bel bb
  clear bb
  obtain ⟨ad25, n25, c25, rfl⟩ := Dg.form hh24
  refine E.opv hF (r_assign (hF.at 0 rfl)) rfl rfl rfl rfl fun a hF => ?_
  refine E.nil ?_
  refine wp_seq ?_
  refine E.seq ?_
  refine E.opv hF (r_field (hF.at 5 rfl) (fa_Int_1 (p := 1) rfl)) rfl rfl rfl rfl fun a hF => ?_
  refine E.opv hF (r_load (hF.at 0 rfl) (ld_Nat (v := .slice ad19 n19 c19) o7 rfl)) rfl rfl rfl rfl fun a hF => ?_
  refine E.opv hF (r_move (hF.at 2 rfl)) rfl rfl rfl rfl fun a hF => ?_
  refine E.call hF (r_call Tryz.func59 en59.1 en59.2 (map2 (hF.at 1 rfl) (hF.at 0 rfl))) (rby_any _ _ (Int.natAbs (((Rat.num (q1)) * (((Rat.den (q2)) / (Nat.gcd (Rat.den (q1)) (Rat.den (q2))) : Nat) : Int)) + ((Rat.num (q2)) * (((Rat.den (q1)) / (Nat.gcd (Rat.den (q1)) (Rat.den (q2))) : Nat) : Int)))) (Nat.gcd (Int.natAbs (((Rat.num (q1)) * (((Rat.den (q2)) / (Nat.gcd (Rat.den (q1)) (Rat.den (q2))) : Nat) : Int)) + ((Rat.num (q2)) * (((Rat.den (q1)) / (Nat.gcd (Rat.den (q1)) (Rat.den (q2))) : Nat) : Int)))) (Nat.gcd (Rat.den (q1)) (Rat.den (q2)))) _ (Dg.nt hf21) (Dg.nt hh24)) rfl rfl rfl rfl ?_
  rintro e w26 ⟨vv27, rfl, hh28, bb⟩
  refine ⟨_, rfl, ?_⟩
  intro a hF
  replace hh24 := hh24.below bb
  replace hh14 := hh14.below bb
  replace ha2 := ha2.below bb
  replace hd2 := hd2.below bb
  replace h2 := h2.below bb
  replace hn2 := hn2.below bb
  replace hf21 := hf21.below bb
  replace hh18 := hh18.below bb
  replace o3 := o3.below bb
  replace o4 := o4.below bb
  replace o7 := o7.below bb
  replace bel := below_to bel bb
  clear bb
  obtain ⟨ad29, n29, c29, rfl⟩ := Dg.form hh28
  refine E.opv hF (r_field (hF.at 9 rfl) (fa_Int_1 (p := 1) rfl)) rfl rfl rfl rfl fun a hF => ?_
  obtain ⟨w30, hr, tu, on⟩ := st_Nat (vs := [.slice ad29 n29 c29]) o7 rfl rfl (ocS oc0) (niS ni0) (o := 1) rfl
  have kp := tu.keep o7
  refine E.st hF (r_store (hF.at 0 rfl) (hF.at 1 rfl) (hr _ rfl)) rfl rfl fun a hF => ?_
  clear hr
  replace hh24 := hh24.keep kp
  replace hh14 := hh14.keep kp
  replace ha2 := ha2.keep kp
  replace hd2 := hd2.keep kp
  replace h2 := h2.keep kp
  replace hn2 := hn2.keep kp
  replace hf21 := hf21.keep kp
  replace hh18 := hh18.keep kp
  replace hh28 := hh28.keep kp
  replace o3 := tu.own o3 ne3_7
  replace o4 := tu.own o4 ne4_7
  replace bel := tu.below bel ge7
  clear tu kp
  replace o7 := on
  clear on
  refine E.nil ?_
  refine wp_seq ?_
  refine E.drawn 8 mixed hF [39, 40, 41, 42, 43, 44, 45, 46] [(fun _ v => v = .agg #[.bool (decide (((Rat.num (q1)) * (((Rat.den (q2)) / (Nat.gcd (Rat.den (q1)) (Rat.den (q2))) : Nat) : Int)) + ((Rat.num (q2)) * (((Rat.den (q1)) / (Nat.gcd (Rat.den (q1)) (Rat.den (q2))) : Nat) : Int)) < 0)), .slice ad29 n29 c29]), (fun _ v => v = .slice ad15 n15 c15), (fun _ v => v = .agg #[.bool b2, .slice ad2 n2 c2, .slice ae2 m2 d2]), (fun w v => Dg w .u32 B32 v (Rat.den (q2))), (fun _ v => v = .slice ad25 n25 c25), (fun w v => Dg w .u32 B32 v ((Rat.den (q2)) / (Nat.gcd (Int.natAbs (((Rat.num (q1)) * (((Rat.den (q2)) / (Nat.gcd (Rat.den (q1)) (Rat.den (q2))) : Nat) : Int)) + ((Rat.num (q2)) * (((Rat.den (q1)) / (Nat.gcd (Rat.den (q1)) (Rat.den (q2))) : Nat) : Int)))) (Nat.gcd (Rat.den (q1)) (Rat.den (q2)))))), (fun w v => Dg w .u32 B32 v (((Rat.den (q1)) / (Nat.gcd (Rat.den (q1)) (Rat.den (q2)))) * ((Rat.den (q2)) / (Nat.gcd (Int.natAbs (((Rat.num (q1)) * (((Rat.den (q2)) / (Nat.gcd (Rat.den (q1)) (Rat.den (q2))) : Nat) : Int)) + ((Rat.num (q2)) * (((Rat.den (q1)) / (Nat.gcd (Rat.den (q1)) (Rat.den (q2))) : Nat) : Int)))) (Nat.gcd (Rat.den (q1)) (Rat.den (q2))))))), (fun w v => Rq w v (q1 + q2))] [] (by decide +kernel) (by decide +kernel) rfl rfl rfl ⟨(Mb.eq _), (Mb.eq _), (Mb.eq _), (fun _ _ _ h hb => h.below hb), (Mb.eq _), (fun _ _ _ h hb => h.below hb), (fun _ _ _ h hb => h.below hb), (fun _ _ _ h hb => h.below hb), trivial⟩ trivial ⟨?_, ?_, ?_, ?_, ?_, ?_, ?_, ?_, trivial⟩ ?_
  · intro a' w' hF' hb hd
    exact if_does (wanted_free rfl) (Does.vals (r_load (hF'.at 10 rfl) (ld_Int (vs := [.bool (decide (((Rat.num (q1)) * (((Rat.den (q2)) / (Nat.gcd (Rat.den (q1)) (Rat.den (q2))) : Nat) : Int)) + ((Rat.num (q2)) * (((Rat.den (q1)) / (Nat.gcd (Rat.den (q1)) (Rat.den (q2))) : Nat) : Int)) < 0)), .slice ad29 n29 c29]) (o7.below hb) rfl rfl)) ⟨rfl, Below.refl _ _, (fun h => absurd h (by decide))⟩)
  · intro a' w' hF' hb hd
    exact if_does (wanted_free rfl) (Does.vals (r_move (hF'.at 12 rfl)) ⟨rfl, Below.refl _ _, (fun h => absurd h (by decide))⟩)
  · intro a' w' hF' hb hd
    exact if_does (wanted_free rfl) (Does.vals (r_load (hF'.at 19 rfl) (ld_Rat (vs := [.bool b2, .slice ad2 n2 c2, .slice ae2 m2 d2]) (o3.below hb) rfl rfl)) ⟨rfl, Below.refl _ _, (fun h => absurd h (by decide))⟩)
  · intro a' w' hF' hb hd
    have e41 : a'.tmps.getD 41 undef = .agg #[.bool b2, .slice ad2 n2 c2, .slice ae2 m2 d2] := hd _ 41 (Array.mem_of_getElem? (i := 0) rfl) rfl rfl
    refine if_does (wanted_free rfl) (Does.calls (r_call Tryz.func58 en58.1 en58.2 (map1 e41)) (rbelow_any _ (q2) _ (h2.below hb)) ?_)
    rintro e w'' ⟨v', rfl, h', bb⟩
    exact ⟨_, rfl, h', bb, (fun h => absurd h (by decide))⟩
  · intro a' w' hF' hb hd
    exact if_does (wanted_free rfl) (Does.vals (r_move (hF'.at 5 rfl)) ⟨rfl, Below.refl _ _, (fun h => absurd h (by decide))⟩)
  · intro a' w' hF' hb hd
    obtain ⟨v42_0, e42, h42_1⟩ : ∃ v, a'.tmps.getD 42 undef = v ∧ Dg w' .u32 B32 v (Rat.den (q2)) := ⟨_, rfl, hd _ 42 (Array.mem_of_getElem? (i := 0) rfl) rfl rfl⟩
    have e43 : a'.tmps.getD 43 undef = .slice ad25 n25 c25 := hd _ 43 (Array.mem_of_getElem? (i := 1) rfl) rfl rfl
    refine if_does (wanted_free rfl) (Does.calls (r_call Tryz.func59 en59.1 en59.2 (map2 e42 e43)) (rby_any _ _ (Rat.den (q2)) (Nat.gcd (Int.natAbs (((Rat.num (q1)) * (((Rat.den (q2)) / (Nat.gcd (Rat.den (q1)) (Rat.den (q2))) : Nat) : Int)) + ((Rat.num (q2)) * (((Rat.den (q1)) / (Nat.gcd (Rat.den (q1)) (Rat.den (q2))) : Nat) : Int)))) (Nat.gcd (Rat.den (q1)) (Rat.den (q2)))) _ (Dg.nt h42_1) (Dg.nt (hh24.below hb))) ?_)
    rintro e w'' ⟨v', rfl, h', bb⟩
    exact ⟨_, rfl, h', bb, (fun h => absurd h (by decide))⟩
  · intro a' w' hF' hb hd
    have e40 : a'.tmps.getD 40 undef = .slice ad15 n15 c15 := hd _ 40 (Array.mem_of_getElem? (i := 0) rfl) rfl rfl
    obtain ⟨v44_0, e44, h44_1⟩ : ∃ v, a'.tmps.getD 44 undef = v ∧ Dg w' .u32 B32 v ((Rat.den (q2)) / (Nat.gcd (Int.natAbs (((Rat.num (q1)) * (((Rat.den (q2)) / (Nat.gcd (Rat.den (q1)) (Rat.den (q2))) : Nat) : Int)) + ((Rat.num (q2)) * (((Rat.den (q1)) / (Nat.gcd (Rat.den (q1)) (Rat.den (q2))) : Nat) : Int)))) (Nat.gcd (Rat.den (q1)) (Rat.den (q2))))) := ⟨_, rfl, hd _ 44 (Array.mem_of_getElem? (i := 1) rfl) rfl rfl⟩
    refine if_does (wanted_free rfl) (Does.calls (r_call Tryz.func63 en63.1 en63.2 (map2 e40 e44)) (mul_any _ _ ((Rat.den (q1)) / (Nat.gcd (Rat.den (q1)) (Rat.den (q2)))) ((Rat.den (q2)) / (Nat.gcd (Int.natAbs (((Rat.num (q1)) * (((Rat.den (q2)) / (Nat.gcd (Rat.den (q1)) (Rat.den (q2))) : Nat) : Int)) + ((Rat.num (q2)) * (((Rat.den (q1)) / (Nat.gcd (Rat.den (q1)) (Rat.den (q2))) : Nat) : Int)))) (Nat.gcd (Rat.den (q1)) (Rat.den (q2))))) _ (Dg.nt (hh14.below hb)) (Dg.nt h44_1) (Lim.dl (div_lim (l1.2)) _ (by omega)) (Lim.dl (div_lim (l2.2)) _ (by omega))) ?_)
    rintro e w'' ⟨v', rfl, h', bb⟩
    exact ⟨_, rfl, h', bb, (fun h => absurd h (by decide))⟩
  · intro a' w' hF' hb hd
    have e39 : a'.tmps.getD 39 undef = .agg #[.bool (decide (((Rat.num (q1)) * (((Rat.den (q2)) / (Nat.gcd (Rat.den (q1)) (Rat.den (q2))) : Nat) : Int)) + ((Rat.num (q2)) * (((Rat.den (q1)) / (Nat.gcd (Rat.den (q1)) (Rat.den (q2))) : Nat) : Int)) < 0)), .slice ad29 n29 c29] := hd _ 39 (Array.mem_of_getElem? (i := 0) rfl) rfl rfl
    obtain ⟨v45_0, e45, h45_1⟩ : ∃ v, a'.tmps.getD 45 undef = v ∧ Dg w' .u32 B32 v (((Rat.den (q1)) / (Nat.gcd (Rat.den (q1)) (Rat.den (q2)))) * ((Rat.den (q2)) / (Nat.gcd (Int.natAbs (((Rat.num (q1)) * (((Rat.den (q2)) / (Nat.gcd (Rat.den (q1)) (Rat.den (q2))) : Nat) : Int)) + ((Rat.num (q2)) * (((Rat.den (q1)) / (Nat.gcd (Rat.den (q1)) (Rat.den (q2))) : Nat) : Int)))) (Nat.gcd (Rat.den (q1)) (Rat.den (q2)))))) := ⟨_, rfl, hd _ 45 (Array.mem_of_getElem? (i := 1) rfl) rfl rfl⟩
    refine if_does (wanted_free rfl) (Does.calls (r_call Tryz.func62 en62.1 en62.2 (map2 e39 e45)) (ratio_any _ _ _ ((Int.natAbs (((Rat.num (q1)) * (((Rat.den (q2)) / (Nat.gcd (Rat.den (q1)) (Rat.den (q2))) : Nat) : Int)) + ((Rat.num (q2)) * (((Rat.den (q1)) / (Nat.gcd (Rat.den (q1)) (Rat.den (q2))) : Nat) : Int)))) / (Nat.gcd (Int.natAbs (((Rat.num (q1)) * (((Rat.den (q2)) / (Nat.gcd (Rat.den (q1)) (Rat.den (q2))) : Nat) : Int)) + ((Rat.num (q2)) * (((Rat.den (q1)) / (Nat.gcd (Rat.den (q1)) (Rat.den (q2))) : Nat) : Int)))) (Nat.gcd (Rat.den (q1)) (Rat.den (q2))))) (((Rat.den (q1)) / (Nat.gcd (Rat.den (q1)) (Rat.den (q2)))) * ((Rat.den (q2)) / (Nat.gcd (Int.natAbs (((Rat.num (q1)) * (((Rat.den (q2)) / (Nat.gcd (Rat.den (q1)) (Rat.den (q2))) : Nat) : Int)) + ((Rat.num (q2)) * (((Rat.den (q1)) / (Nat.gcd (Rat.den (q1)) (Rat.den (q2))) : Nat) : Int)))) (Nat.gcd (Rat.den (q1)) (Rat.den (q2)))))) (q1 + q2) _ (hh28.below hb) h45_1 HP.out.1 (fun _ => HP.out.2)) ?_)
    rintro e w'' ⟨v', rfl, h', bb⟩
    exact ⟨_, rfl, h', bb, (fun h => absurd h (by decide))⟩
  intro a w31 hF bb hall hne
  obtain ⟨vv32, e46, hh33⟩ : ∃ v, a.tmps.getD 46 undef = v ∧ Rq w31 v (q1 + q2) := ⟨_, rfl, hall 7 46 rfl⟩
  clear hall hne
  replace o4 := o4.below bb
  replace bel := below_to bel bb
  clear bb
  obtain ⟨b34, ad34, n34, c34, ae34, m34, d34, rfl, hn34, hd34⟩ := Rq.shape hh33
  have hf35 := Wc.abs hn34
  replace hF := hF.add e46
  clear e46
  obtain ⟨w36, hr, tu, on⟩ := st_Rat (vs := [.bool b34, .slice ad34 n34 c34, .slice ae34 m34 d34]) o4 rfl rfl (ocB (ocS (ocS oc0))) (niB (niS (niS ni0))) (o := 0) rfl
  have kp := tu.keep o4
  refine E.st hF (r_store (hF.at 19 rfl) (hF.at 0 rfl) (hr _ rfl)) rfl rfl fun a hF => ?_
  clear hr
  replace hh33 := hh33.keep kp
  replace hn34 := hn34.keep kp
  replace hf35 := hf35.keep kp
  replace hd34 := hd34.keep kp
  replace bel := tu.below bel ge4
  clear tu kp
  replace o4 := on
  clear on
  refine E.nil ?_
  refine wp_ret ?_
  refine bodyPost_ret (res_cell Tryz.results21 (hF.at 19 rfl) (ld_Rat (vs := [.bool b34, .slice ad34 n34 c34, .slice ae34 m34 d34]) o4 rfl rfl)) hF.dfr ?_
  exact ⟨_, rfl, hh33, bel⟩

set_option maxHeartbeats 1000000 in
theorem rMul_any (v1 v2 : Value) (q1 q2 : Rat) (k : Nat) (w : World) (h1 : Rq w v1 q1) (h2 : Rq w v2 q2) (l1 : RLim q1 k) (l2 : RLim q2 k) (hk : k ≤ 100000) :
    Calls Tryz.prog 22 #[v1, v2] w (RqPost w (q1 * q2)) := by
  obtain ⟨b1, ad1, n1, c1, ae1, m1, d1, rfl, hn1, hd1⟩ := h1.shape
  have h1 : Rq w (.agg #[.bool b1, .slice ad1 n1 c1, .slice ae1 m1 d1]) q1 := ⟨_, _, _, _, _, _, _, rfl, hn1, hd1⟩
  have ha1 := hn1.abs
  have hb1 := hn1.neg
  obtain ⟨b2, ad2, n2, c2, ae2, m2, d2, rfl, hn2, hd2⟩ := h2.shape
  have h2 : Rq w (.agg #[.bool b2, .slice ad2 n2 c2, .slice ae2 m2 d2]) q2 := ⟨_, _, _, _, _, _, _, rfl, hn2, hd2⟩
  have ha2 := hn2.abs
  have hb2 := hn2.neg
  have HP := mul_parts q1 q2
  rw [← hb1, ← hb2] at HP
  replace HP := Lib.hid HP
  have bel : Below w.heap.size w w := Below.refl _ _
  refine E.enter (nt := 52) (L := [(0, .agg #[.bool b1, .slice ad1 n1 c1, .slice ae1 m1 d1]), (1, .agg #[.bool b2, .slice ad2 n2 c2, .slice ae2 m2 d2])]) Tryz.func22 rfl rfl rfl (args_cons (i := 0) rfl (args_cons (i := 1) rfl args_nil)) ?_
  intro a hF
  refine wp_seq ?_
  refine E.seq ?_
  obtain ⟨g2, w1, ge2, hr, bb, o2⟩ := own_box (P := Tryz.prog) (w := w) (cs := [.bool b1, .slice ad1 n1 c1, .slice ae1 m1 d1]) (v := .agg #[.bool b1, .slice ad1 n1 c1, .slice ae1 m1 d1]) 32 rfl (niB (niS (niS ni0)))
  replace ge2 : w.heap.size ≤ g2 := by rw [← ge2]; exact bel.size
  refine E.opv hF (r_box (hF.at 0 rfl) hr) rfl rfl rfl rfl fun a hF => ?_
  clear hr
  replace h2 := h2.below bb
  replace hn2 := hn2.below bb
  replace ha2 := ha2.below bb
  replace hd2 := hd2.below bb
  replace h1 := h1.below bb
  replace hn1 := hn1.below bb
  replace ha1 := ha1.below bb
  replace hd1 := hd1.below bb
  replace bel := below_to bel bb
  clear bb
  obtain ⟨g3, w2, ge3, hr, bb, o3⟩ := own_box (P := Tryz.prog) (w := w1) (cs := [.bool b2, .slice ad2 n2 c2, .slice ae2 m2 d2]) (v := .agg #[.bool b2, .slice ad2 n2 c2, .slice ae2 m2 d2]) 32 rfl (niB (niS (niS ni0)))
  have ne2_3 : g2 ≠ g3 := by rw [← ge3]; exact o2.ne_new
  replace ge3 : w.heap.size ≤ g3 := by rw [← ge3]; exact bel.size
  refine E.opv hF (r_box (hF.at 2 rfl) hr) rfl rfl rfl rfl fun a hF => ?_
  clear hr
  replace ha1 := ha1.below bb
  replace hd1 := hd1.below bb
  replace h1 := h1.below bb
  replace hn1 := hn1.below bb
  replace h2 := h2.below bb
  replace hn2 := hn2.below bb
  replace ha2 := ha2.below bb
  replace hd2 := hd2.below bb
  replace o2 := o2.below bb
  replace bel := below_to bel bb
  clear bb
  obtain ⟨g4, w3, ge4, hr, bb, o4⟩ := own_alloc (P := Tryz.prog) (w := w2) (cs := [.bool false, .slice none 0 0, .slice none 0 0]) 32 ze_Rat rfl (niB (niS (niS ni0)))
  have ne2_4 : g2 ≠ g4 := by rw [← ge4]; exact o2.ne_new
  have ne3_4 : g3 ≠ g4 := by rw [← ge4]; exact o3.ne_new
  replace ge4 : w.heap.size ≤ g4 := by rw [← ge4]; exact bel.size
  refine E.opv hF (r_alloc hr) rfl rfl rfl rfl fun a hF => ?_
  clear hr
  replace ha1 := ha1.below bb
  replace hd1 := hd1.below bb
  replace h1 := h1.below bb
  replace hn1 := hn1.below bb
  replace ha2 := ha2.below bb
  replace hd2 := hd2.below bb
  replace h2 := h2.below bb
  replace hn2 := hn2.below bb
  replace o2 := o2.below bb
  replace o3 := o3.below bb
  replace bel := below_to bel bb
  clear bb
  refine E.nil ?_
  refine wp_seq ?_
  refine E.drawn 14 mixed hF [9, 10, 11, 12, 13, 14, 15, 16, 17, 18, 19, 20, 5, 6] [(fun _ v => v = .pointer (some ⟨g2, 0, none⟩)), (fun _ v => v = .pointer (some ⟨g2, 1, none⟩)), (fun _ v => v = .slice ad1 n1 c1), (fun _ v => v = .agg #[.bool b2, .slice ad2 n2 c2, .slice ae2 m2 d2]), (fun w v => Dg w .u32 B32 v (Rat.den (q2))), (fun w v => Dg w .u32 B32 v (Nat.gcd (Int.natAbs (Rat.num (q1))) (Rat.den (q2)))), (fun _ v => v = .pointer (some ⟨g3, 0, none⟩)), (fun _ v => v = .pointer (some ⟨g3, 1, none⟩)), (fun _ v => v = .slice ad2 n2 c2), (fun _ v => v = .agg #[.bool b1, .slice ad1 n1 c1, .slice ae1 m1 d1]), (fun w v => Dg w .u32 B32 v (Rat.den (q1))), (fun w v => Dg w .u32 B32 v (Nat.gcd (Int.natAbs (Rat.num (q2))) (Rat.den (q1)))), (fun w v => Dg w .u32 B32 v (Nat.gcd (Int.natAbs (Rat.num (q1))) (Rat.den (q2)))), (fun w v => Dg w .u32 B32 v (Nat.gcd (Int.natAbs (Rat.num (q2))) (Rat.den (q1))))] [] (by decide +kernel) (by decide +kernel) rfl rfl rfl ⟨(Mb.eq _), (Mb.eq _), (Mb.eq _), (Mb.eq _), (fun _ _ _ h hb => h.below hb), (fun _ _ _ h hb => h.below hb), (Mb.eq _), (Mb.eq _), (Mb.eq _), (Mb.eq _), (fun _ _ _ h hb => h.below hb), (fun _ _ _ h hb => h.below hb), (fun _ _ _ h hb => h.below hb), (fun _ _ _ h hb => h.below hb), trivial⟩ trivial ⟨?_, ?_, ?_, ?_, ?_, ?_, ?_, ?_, ?_, ?_, ?_, ?_, ?_, ?_, trivial⟩ ?_
  · intro a' w' hF' hb hd
    exact if_does (wanted_free rfl) (Does.vals (r_field (hF'.at 2 rfl) (fa_Rat_0 (p := 0) rfl)) ⟨rfl, Below.refl _ _, (fun h => absurd h (by decide))⟩)
  · intro a' w' hF' hb hd
    have e9 : a'.tmps.getD 9 undef = .pointer (some ⟨g2, 0, none⟩) := hd _ 9 (Array.mem_of_getElem? (i := 0) rfl) rfl rfl
    exact if_does (wanted_free rfl) (Does.vals (r_field e9 (fa_Int_1 (p := 1) rfl)) ⟨rfl, Below.refl _ _, (fun h => absurd h (by decide))⟩)
  · intro a' w' hF' hb hd
    have e10 : a'.tmps.getD 10 undef = .pointer (some ⟨g2, 1, none⟩) := hd _ 10 (Array.mem_of_getElem? (i := 0) rfl) rfl rfl
    exact if_does (wanted_free rfl) (Does.vals (r_load e10 (ld_Nat (v := .slice ad1 n1 c1) (o2.below hb) rfl)) ⟨rfl, Below.refl _ _, (fun h => absurd h (by decide))⟩)
  · intro a' w' hF' hb hd
    exact if_does (wanted_free rfl) (Does.vals (r_load (hF'.at 1 rfl) (ld_Rat (vs := [.bool b2, .slice ad2 n2 c2, .slice ae2 m2 d2]) (o3.below hb) rfl rfl)) ⟨rfl, Below.refl _ _, (fun h => absurd h (by decide))⟩)
  · intro a' w' hF' hb hd
    have e12 : a'.tmps.getD 12 undef = .agg #[.bool b2, .slice ad2 n2 c2, .slice ae2 m2 d2] := hd _ 12 (Array.mem_of_getElem? (i := 0) rfl) rfl rfl
    refine if_does (wanted_free rfl) (Does.calls (r_call Tryz.func58 en58.1 en58.2 (map1 e12)) (rbelow_any _ (q2) _ (h2.below hb)) ?_)
    rintro e w'' ⟨v', rfl, h', bb⟩
    exact ⟨_, rfl, h', bb, (fun h => absurd h (by decide))⟩
  · intro a' w' hF' hb hd
    have e11 : a'.tmps.getD 11 undef = .slice ad1 n1 c1 := hd _ 11 (Array.mem_of_getElem? (i := 0) rfl) rfl rfl
    obtain ⟨v13_0, e13, h13_1⟩ : ∃ v, a'.tmps.getD 13 undef = v ∧ Dg w' .u32 B32 v (Rat.den (q2)) := ⟨_, rfl, hd _ 13 (Array.mem_of_getElem? (i := 1) rfl) rfl rfl⟩
    refine if_does (wanted_free rfl) (Does.calls (r_call Tryz.func39 en39.1 en39.2 (map2 e11 e13)) (gcd_any _ _ (Int.natAbs (Rat.num (q1))) (Rat.den (q2)) _ (Dg.nt (ha1.below hb)) (Dg.nt h13_1)) ?_)
    rintro e w'' ⟨v', rfl, h', bb⟩
    exact ⟨_, rfl, h', bb, (fun h => absurd h (by decide))⟩
  · intro a' w' hF' hb hd
    exact if_does (wanted_free rfl) (Does.vals (r_field (hF'.at 1 rfl) (fa_Rat_0 (p := 0) rfl)) ⟨rfl, Below.refl _ _, (fun h => absurd h (by decide))⟩)
  · intro a' w' hF' hb hd
    have e15 : a'.tmps.getD 15 undef = .pointer (some ⟨g3, 0, none⟩) := hd _ 15 (Array.mem_of_getElem? (i := 0) rfl) rfl rfl
    exact if_does (wanted_free rfl) (Does.vals (r_field e15 (fa_Int_1 (p := 1) rfl)) ⟨rfl, Below.refl _ _, (fun h => absurd h (by decide))⟩)
  · intro a' w' hF' hb hd
    have e16 : a'.tmps.getD 16 undef = .pointer (some ⟨g3, 1, none⟩) := hd _ 16 (Array.mem_of_getElem? (i := 0) rfl) rfl rfl
    exact if_does (wanted_free rfl) (Does.vals (r_load e16 (ld_Nat (v := .slice ad2 n2 c2) (o3.below hb) rfl)) ⟨rfl, Below.refl _ _, (fun h => absurd h (by decide))⟩)
  · intro a' w' hF' hb hd
    exact if_does (wanted_free rfl) (Does.vals (r_load (hF'.at 2 rfl) (ld_Rat (vs := [.bool b1, .slice ad1 n1 c1, .slice ae1 m1 d1]) (o2.below hb) rfl rfl)) ⟨rfl, Below.refl _ _, (fun h => absurd h (by decide))⟩)
  · intro a' w' hF' hb hd
    have e18 : a'.tmps.getD 18 undef = .agg #[.bool b1, .slice ad1 n1 c1, .slice ae1 m1 d1] := hd _ 18 (Array.mem_of_getElem? (i := 0) rfl) rfl rfl
    refine if_does (wanted_free rfl) (Does.calls (r_call Tryz.func58 en58.1 en58.2 (map1 e18)) (rbelow_any _ (q1) _ (h1.below hb)) ?_)
    rintro e w'' ⟨v', rfl, h', bb⟩
    exact ⟨_, rfl, h', bb, (fun h => absurd h (by decide))⟩
  · intro a' w' hF' hb hd
    have e17 : a'.tmps.getD 17 undef = .slice ad2 n2 c2 := hd _ 17 (Array.mem_of_getElem? (i := 0) rfl) rfl rfl
    obtain ⟨v19_0, e19, h19_1⟩ : ∃ v, a'.tmps.getD 19 undef = v ∧ Dg w' .u32 B32 v (Rat.den (q1)) := ⟨_, rfl, hd _ 19 (Array.mem_of_getElem? (i := 1) rfl) rfl rfl⟩
    refine if_does (wanted_free rfl) (Does.calls (r_call Tryz.func39 en39.1 en39.2 (map2 e17 e19)) (gcd_any _ _ (Int.natAbs (Rat.num (q2))) (Rat.den (q1)) _ (Dg.nt (ha2.below hb)) (Dg.nt h19_1)) ?_)
    rintro e w'' ⟨v', rfl, h', bb⟩
    exact ⟨_, rfl, h', bb, (fun h => absurd h (by decide))⟩
  · intro a' w' hF' hb hd
    obtain ⟨v14_0, e14, h14_1⟩ : ∃ v, a'.tmps.getD 14 undef = v ∧ Dg w' .u32 B32 v (Nat.gcd (Int.natAbs (Rat.num (q1))) (Rat.den (q2))) := ⟨_, rfl, hd _ 14 (Array.mem_of_getElem? (i := 0) rfl) rfl rfl⟩
    exact if_does (wanted_free rfl) (Does.vals (r_assign e14) ⟨h14_1, Below.refl _ _, (fun h => absurd h (by decide))⟩)
  · intro a' w' hF' hb hd
    obtain ⟨v20_0, e20, h20_1⟩ : ∃ v, a'.tmps.getD 20 undef = v ∧ Dg w' .u32 B32 v (Nat.gcd (Int.natAbs (Rat.num (q2))) (Rat.den (q1))) := ⟨_, rfl, hd _ 20 (Array.mem_of_getElem? (i := 0) rfl) rfl rfl⟩
    exact if_does (wanted_free rfl) (Does.vals (r_assign e20) ⟨h20_1, Below.refl _ _, (fun h => absurd h (by decide))⟩)
  intro a w4 hF bb hall hne
  obtain ⟨vv5, e5, hh6⟩ : ∃ v, a.tmps.getD 5 undef = v ∧ Dg w4 .u32 B32 v (Nat.gcd (Int.natAbs (Rat.num (q1))) (Rat.den (q2))) := ⟨_, rfl, hall 12 5 rfl⟩
  obtain ⟨vv7, e6, hh8⟩ : ∃ v, a.tmps.getD 6 undef = v ∧ Dg w4 .u32 B32 v (Nat.gcd (Int.natAbs (Rat.num (q2))) (Rat.den (q1))) := ⟨_, rfl, hall 13 6 rfl⟩
  clear hall hne
  replace ha1 := ha1.below bb
  replace hd1 := hd1.below bb
  replace h1 := h1.below bb
  replace hn1 := hn1.below bb
  replace ha2 := ha2.below bb
  replace hd2 := hd2.below bb
  replace h2 := h2.below bb
  replace hn2 := hn2.below bb
  replace o2 := o2.below bb
  replace o3 := o3.below bb
  replace o4 := o4.below bb
  replace bel := below_to bel bb
  clear bb
  obtain ⟨ad9, n9, c9, rfl⟩ := Dg.form hh6
  replace hF := hF.add e5
  clear e5
  obtain ⟨ad10, n10, c10, rfl⟩ := Dg.form hh8
  replace hF := hF.add e6
  clear e6
  refine E.nil ?_
  refine wp_seq ?_
  refine E.drawn 12 mixed hF [21, 22, 23, 24, 25, 26, 27, 28, 29, 30, 31, 7] [(fun _ v => v = .pointer (some ⟨g2, 0, none⟩)), (fun _ v => v = .pointer (some ⟨g2, 1, none⟩)), (fun _ v => v = .slice ad1 n1 c1), (fun _ v => v = .slice ad9 n9 c9), (fun w v => Dg w .u32 B32 v ((Int.natAbs (Rat.num (q1))) / (Nat.gcd (Int.natAbs (Rat.num (q1))) (Rat.den (q2))))), (fun _ v => v = .pointer (some ⟨g3, 0, none⟩)), (fun _ v => v = .pointer (some ⟨g3, 1, none⟩)), (fun _ v => v = .slice ad2 n2 c2), (fun _ v => v = .slice ad10 n10 c10), (fun w v => Dg w .u32 B32 v ((Int.natAbs (Rat.num (q2))) / (Nat.gcd (Int.natAbs (Rat.num (q2))) (Rat.den (q1))))), (fun w v => Dg w .u32 B32 v (((Int.natAbs (Rat.num (q1))) / (Nat.gcd (Int.natAbs (Rat.num (q1))) (Rat.den (q2)))) * ((Int.natAbs (Rat.num (q2))) / (Nat.gcd (Int.natAbs (Rat.num (q2))) (Rat.den (q1)))))), (fun w v => Dg w .u32 B32 v (((Int.natAbs (Rat.num (q1))) / (Nat.gcd (Int.natAbs (Rat.num (q1))) (Rat.den (q2)))) * ((Int.natAbs (Rat.num (q2))) / (Nat.gcd (Int.natAbs (Rat.num (q2))) (Rat.den (q1))))))] [] (by decide +kernel) (by decide +kernel) rfl rfl rfl ⟨(Mb.eq _), (Mb.eq _), (Mb.eq _), (Mb.eq _), (fun _ _ _ h hb => h.below hb), (Mb.eq _), (Mb.eq _), (Mb.eq _), (Mb.eq _), (fun _ _ _ h hb => h.below hb), (fun _ _ _ h hb => h.below hb), (fun _ _ _ h hb => h.below hb), trivial⟩ trivial ⟨?_, ?_, ?_, ?_, ?_, ?_, ?_, ?_, ?_, ?_, ?_, ?_, trivial⟩ ?_
  · intro a' w' hF' hb hd
    exact if_does (wanted_free rfl) (Does.vals (r_field (hF'.at 4 rfl) (fa_Rat_0 (p := 0) rfl)) ⟨rfl, Below.refl _ _, (fun h => absurd h (by decide))⟩)
  · intro a' w' hF' hb hd
    have e21 : a'.tmps.getD 21 undef = .pointer (some ⟨g2, 0, none⟩) := hd _ 21 (Array.mem_of_getElem? (i := 0) rfl) rfl rfl
    exact if_does (wanted_free rfl) (Does.vals (r_field e21 (fa_Int_1 (p := 1) rfl)) ⟨rfl, Below.refl _ _, (fun h => absurd h (by decide))⟩)
  · intro a' w' hF' hb hd
    have e22 : a'.tmps.getD 22 undef = .pointer (some ⟨g2, 1, none⟩) := hd _ 22 (Array.mem_of_getElem? (i := 0) rfl) rfl rfl
    exact if_does (wanted_free rfl) (Does.vals (r_load e22 (ld_Nat (v := .slice ad1 n1 c1) (o2.below hb) rfl)) ⟨rfl, Below.refl _ _, (fun h => absurd h (by decide))⟩)
  · intro a' w' hF' hb hd
    exact if_does (wanted_free rfl) (Does.vals (r_move (hF'.at 1 rfl)) ⟨rfl, Below.refl _ _, (fun h => absurd h (by decide))⟩)
  · intro a' w' hF' hb hd
    have e23 : a'.tmps.getD 23 undef = .slice ad1 n1 c1 := hd _ 23 (Array.mem_of_getElem? (i := 0) rfl) rfl rfl
    have e24 : a'.tmps.getD 24 undef = .slice ad9 n9 c9 := hd _ 24 (Array.mem_of_getElem? (i := 1) rfl) rfl rfl
    refine if_does (wanted_free rfl) (Does.calls (r_call Tryz.func59 en59.1 en59.2 (map2 e23 e24)) (rby_any _ _ (Int.natAbs (Rat.num (q1))) (Nat.gcd (Int.natAbs (Rat.num (q1))) (Rat.den (q2))) _ (Dg.nt (ha1.below hb)) (Dg.nt (hh6.below hb))) ?_)
    rintro e w'' ⟨v', rfl, h', bb⟩
    exact ⟨_, rfl, h', bb, (fun h => absurd h (by decide))⟩
  · intro a' w' hF' hb hd
    exact if_does (wanted_free rfl) (Does.vals (r_field (hF'.at 3 rfl) (fa_Rat_0 (p := 0) rfl)) ⟨rfl, Below.refl _ _, (fun h => absurd h (by decide))⟩)
  · intro a' w' hF' hb hd
    have e26 : a'.tmps.getD 26 undef = .pointer (some ⟨g3, 0, none⟩) := hd _ 26 (Array.mem_of_getElem? (i := 0) rfl) rfl rfl
    exact if_does (wanted_free rfl) (Does.vals (r_field e26 (fa_Int_1 (p := 1) rfl)) ⟨rfl, Below.refl _ _, (fun h => absurd h (by decide))⟩)
  · intro a' w' hF' hb hd
    have e27 : a'.tmps.getD 27 undef = .pointer (some ⟨g3, 1, none⟩) := hd _ 27 (Array.mem_of_getElem? (i := 0) rfl) rfl rfl
    exact if_does (wanted_free rfl) (Does.vals (r_load e27 (ld_Nat (v := .slice ad2 n2 c2) (o3.below hb) rfl)) ⟨rfl, Below.refl _ _, (fun h => absurd h (by decide))⟩)
  · intro a' w' hF' hb hd
    exact if_does (wanted_free rfl) (Does.vals (r_move (hF'.at 0 rfl)) ⟨rfl, Below.refl _ _, (fun h => absurd h (by decide))⟩)
  · intro a' w' hF' hb hd
    have e28 : a'.tmps.getD 28 undef = .slice ad2 n2 c2 := hd _ 28 (Array.mem_of_getElem? (i := 0) rfl) rfl rfl
    have e29 : a'.tmps.getD 29 undef = .slice ad10 n10 c10 := hd _ 29 (Array.mem_of_getElem? (i := 1) rfl) rfl rfl
    refine if_does (wanted_free rfl) (Does.calls (r_call Tryz.func59 en59.1 en59.2 (map2 e28 e29)) (rby_any _ _ (Int.natAbs (Rat.num (q2))) (Nat.gcd (Int.natAbs (Rat.num (q2))) (Rat.den (q1))) _ (Dg.nt (ha2.below hb)) (Dg.nt (hh8.below hb))) ?_)
    rintro e w'' ⟨v', rfl, h', bb⟩
    exact ⟨_, rfl, h', bb, (fun h => absurd h (by decide))⟩
  · intro a' w' hF' hb hd
    obtain ⟨v25_0, e25, h25_1⟩ : ∃ v, a'.tmps.getD 25 undef = v ∧ Dg w' .u32 B32 v ((Int.natAbs (Rat.num (q1))) / (Nat.gcd (Int.natAbs (Rat.num (q1))) (Rat.den (q2)))) := ⟨_, rfl, hd _ 25 (Array.mem_of_getElem? (i := 0) rfl) rfl rfl⟩
    obtain ⟨v30_0, e30, h30_1⟩ : ∃ v, a'.tmps.getD 30 undef = v ∧ Dg w' .u32 B32 v ((Int.natAbs (Rat.num (q2))) / (Nat.gcd (Int.natAbs (Rat.num (q2))) (Rat.den (q1)))) := ⟨_, rfl, hd _ 30 (Array.mem_of_getElem? (i := 1) rfl) rfl rfl⟩
    refine if_does (wanted_free rfl) (Does.calls (r_call Tryz.func63 en63.1 en63.2 (map2 e25 e30)) (mul_any _ _ ((Int.natAbs (Rat.num (q1))) / (Nat.gcd (Int.natAbs (Rat.num (q1))) (Rat.den (q2)))) ((Int.natAbs (Rat.num (q2))) / (Nat.gcd (Int.natAbs (Rat.num (q2))) (Rat.den (q1)))) _ (Dg.nt h25_1) (Dg.nt h30_1) (Lim.dl (div_lim (l1.1)) _ (by omega)) (Lim.dl (div_lim (l2.1)) _ (by omega))) ?_)
    rintro e w'' ⟨v', rfl, h', bb⟩
    exact ⟨_, rfl, h', bb, (fun h => absurd h (by decide))⟩
  · intro a' w' hF' hb hd
    obtain ⟨v31_0, e31, h31_1⟩ : ∃ v, a'.tmps.getD 31 undef = v ∧ Dg w' .u32 B32 v (((Int.natAbs (Rat.num (q1))) / (Nat.gcd (Int.natAbs (Rat.num (q1))) (Rat.den (q2)))) * ((Int.natAbs (Rat.num (q2))) / (Nat.gcd (Int.natAbs (Rat.num (q2))) (Rat.den (q1))))) := ⟨_, rfl, hd _ 31 (Array.mem_of_getElem? (i := 0) rfl) rfl rfl⟩
    exact if_does (wanted_free rfl) (Does.vals (r_assign e31) ⟨h31_1, Below.refl _ _, (fun h => absurd h (by decide))⟩)
  intro a w11 hF bb hall hne
  obtain ⟨vv12, e7, hh13⟩ : ∃ v, a.tmps.getD 7 undef = v ∧ Dg w11 .u32 B32 v (((Int.natAbs (Rat.num (q1))) / (Nat.gcd (Int.natAbs (Rat.num (q1))) (Rat.den (q2)))) * ((Int.natAbs (Rat.num (q2))) / (Nat.gcd (Int.natAbs (Rat.num (q2))) (Rat.den (q1))))) := ⟨_, rfl, hall 11 7 rfl⟩
  clear hall hne
  replace hh8 := hh8.below bb
  replace hh6 := hh6.below bb
  replace ha1 := ha1.below bb
  replace hd1 := hd1.below bb
  replace h1 := h1.below bb
  replace hn1 := hn1.below bb
  replace ha2 := ha2.below bb
  replace hd2 := hd2.below bb
  replace h2 := h2.below bb
  replace hn2 := hn2.below bb
  replace o2 := o2.below bb
  replace o3 := o3.below bb
  replace o4 := o4.below bb
  replace bel := below_to bel bb
  clear bb
  obtain ⟨ad14, n14, c14, rfl⟩ := Dg.form hh13
  replace hF := hF.add e7
  clear e7
  refine E.nil ?_
  refine wp_seq ?_
  refine E.drawn 10 mixed hF [32, 33, 34, 35, 36, 37, 38, 39, 40, 8] [(fun _ v => v = .agg #[.bool b1, .slice ad1 n1 c1, .slice ae1 m1 d1]), (fun w v => Dg w .u32 B32 v (Rat.den (q1))), (fun _ v => v = .slice ad10 n10 c10), (fun w v => Dg w .u32 B32 v ((Rat.den (q1)) / (Nat.gcd (Int.natAbs (Rat.num (q2))) (Rat.den (q1))))), (fun _ v => v = .agg #[.bool b2, .slice ad2 n2 c2, .slice ae2 m2 d2]), (fun w v => Dg w .u32 B32 v (Rat.den (q2))), (fun _ v => v = .slice ad9 n9 c9), (fun w v => Dg w .u32 B32 v ((Rat.den (q2)) / (Nat.gcd (Int.natAbs (Rat.num (q1))) (Rat.den (q2))))), (fun w v => Dg w .u32 B32 v (((Rat.den (q1)) / (Nat.gcd (Int.natAbs (Rat.num (q2))) (Rat.den (q1)))) * ((Rat.den (q2)) / (Nat.gcd (Int.natAbs (Rat.num (q1))) (Rat.den (q2)))))), (fun w v => Dg w .u32 B32 v (((Rat.den (q1)) / (Nat.gcd (Int.natAbs (Rat.num (q2))) (Rat.den (q1)))) * ((Rat.den (q2)) / (Nat.gcd (Int.natAbs (Rat.num (q1))) (Rat.den (q2))))))] [] (by decide +kernel) (by decide +kernel) rfl rfl rfl ⟨(Mb.eq _), (fun _ _ _ h hb => h.below hb), (Mb.eq _), (fun _ _ _ h hb => h.below hb), (Mb.eq _), (fun _ _ _ h hb => h.below hb), (Mb.eq _), (fun _ _ _ h hb => h.below hb), (fun _ _ _ h hb => h.below hb), (fun _ _ _ h hb => h.below hb), trivial⟩ trivial ⟨?_, ?_, ?_, ?_, ?_, ?_, ?_, ?_, ?_, ?_, trivial⟩ ?_
  · intro a' w' hF' hb hd
    exact if_does (wanted_free rfl) (Does.vals (r_load (hF'.at 5 rfl) (ld_Rat (vs := [.bool b1, .slice ad1 n1 c1, .slice ae1 m1 d1]) (o2.below hb) rfl rfl)) ⟨rfl, Below.refl _ _, (fun h => absurd h (by decide))⟩)
  · intro a' w' hF' hb hd
    have e32 : a'.tmps.getD 32 undef = .agg #[.bool b1, .slice ad1 n1 c1, .slice ae1 m1 d1] := hd _ 32 (Array.mem_of_getElem? (i := 0) rfl) rfl rfl
    refine if_does (wanted_free rfl) (Does.calls (r_call Tryz.func58 en58.1 en58.2 (map1 e32)) (rbelow_any _ (q1) _ (h1.below hb)) ?_)
    rintro e w'' ⟨v', rfl, h', bb⟩
    exact ⟨_, rfl, h', bb, (fun h => absurd h (by decide))⟩
  · intro a' w' hF' hb hd
    exact if_does (wanted_free rfl) (Does.vals (r_move (hF'.at 1 rfl)) ⟨rfl, Below.refl _ _, (fun h => absurd h (by decide))⟩)
  · intro a' w' hF' hb hd
    obtain ⟨v33_0, e33, h33_1⟩ : ∃ v, a'.tmps.getD 33 undef = v ∧ Dg w' .u32 B32 v (Rat.den (q1)) := ⟨_, rfl, hd _ 33 (Array.mem_of_getElem? (i := 0) rfl) rfl rfl⟩
    have e34 : a'.tmps.getD 34 undef = .slice ad10 n10 c10 := hd _ 34 (Array.mem_of_getElem? (i := 1) rfl) rfl rfl
    refine if_does (wanted_free rfl) (Does.calls (r_call Tryz.func59 en59.1 en59.2 (map2 e33 e34)) (rby_any _ _ (Rat.den (q1)) (Nat.gcd (Int.natAbs (Rat.num (q2))) (Rat.den (q1))) _ (Dg.nt h33_1) (Dg.nt (hh8.below hb))) ?_)
    rintro e w'' ⟨v', rfl, h', bb⟩
    exact ⟨_, rfl, h', bb, (fun h => absurd h (by decide))⟩
  · intro a' w' hF' hb hd
    exact if_does (wanted_free rfl) (Does.vals (r_load (hF'.at 4 rfl) (ld_Rat (vs := [.bool b2, .slice ad2 n2 c2, .slice ae2 m2 d2]) (o3.below hb) rfl rfl)) ⟨rfl, Below.refl _ _, (fun h => absurd h (by decide))⟩)
  · intro a' w' hF' hb hd
    have e36 : a'.tmps.getD 36 undef = .agg #[.bool b2, .slice ad2 n2 c2, .slice ae2 m2 d2] := hd _ 36 (Array.mem_of_getElem? (i := 0) rfl) rfl rfl
    refine if_does (wanted_free rfl) (Does.calls (r_call Tryz.func58 en58.1 en58.2 (map1 e36)) (rbelow_any _ (q2) _ (h2.below hb)) ?_)
    rintro e w'' ⟨v', rfl, h', bb⟩
    exact ⟨_, rfl, h', bb, (fun h => absurd h (by decide))⟩
  · intro a' w' hF' hb hd
    exact if_does (wanted_free rfl) (Does.vals (r_move (hF'.at 2 rfl)) ⟨rfl, Below.refl _ _, (fun h => absurd h (by decide))⟩)
  · intro a' w' hF' hb hd
    obtain ⟨v37_0, e37, h37_1⟩ : ∃ v, a'.tmps.getD 37 undef = v ∧ Dg w' .u32 B32 v (Rat.den (q2)) := ⟨_, rfl, hd _ 37 (Array.mem_of_getElem? (i := 0) rfl) rfl rfl⟩
    have e38 : a'.tmps.getD 38 undef = .slice ad9 n9 c9 := hd _ 38 (Array.mem_of_getElem? (i := 1) rfl) rfl rfl
    refine if_does (wanted_free rfl) (Does.calls (r_call Tryz.func59 en59.1 en59.2 (map2 e37 e38)) (rby_any _ _ (Rat.den (q2)) (Nat.gcd (Int.natAbs (Rat.num (q1))) (Rat.den (q2))) _ (Dg.nt h37_1) (Dg.nt (hh6.below hb))) ?_)
    rintro e w'' ⟨v', rfl, h', bb⟩
    exact ⟨_, rfl, h', bb, (fun h => absurd h (by decide))⟩
  · intro a' w' hF' hb hd
    obtain ⟨v35_0, e35, h35_1⟩ : ∃ v, a'.tmps.getD 35 undef = v ∧ Dg w' .u32 B32 v ((Rat.den (q1)) / (Nat.gcd (Int.natAbs (Rat.num (q2))) (Rat.den (q1)))) := ⟨_, rfl, hd _ 35 (Array.mem_of_getElem? (i := 0) rfl) rfl rfl⟩
    obtain ⟨v39_0, e39, h39_1⟩ : ∃ v, a'.tmps.getD 39 undef = v ∧ Dg w' .u32 B32 v ((Rat.den (q2)) / (Nat.gcd (Int.natAbs (Rat.num (q1))) (Rat.den (q2)))) := ⟨_, rfl, hd _ 39 (Array.mem_of_getElem? (i := 1) rfl) rfl rfl⟩
    refine if_does (wanted_free rfl) (Does.calls (r_call Tryz.func63 en63.1 en63.2 (map2 e35 e39)) (mul_any _ _ ((Rat.den (q1)) / (Nat.gcd (Int.natAbs (Rat.num (q2))) (Rat.den (q1)))) ((Rat.den (q2)) / (Nat.gcd (Int.natAbs (Rat.num (q1))) (Rat.den (q2)))) _ (Dg.nt h35_1) (Dg.nt h39_1) (Lim.dl (div_lim (l1.2)) _ (by omega)) (Lim.dl (div_lim (l2.2)) _ (by omega))) ?_)
    rintro e w'' ⟨v', rfl, h', bb⟩
    exact ⟨_, rfl, h', bb, (fun h => absurd h (by decide))⟩
  · intro a' w' hF' hb hd
    obtain ⟨v40_0, e40, h40_1⟩ : ∃ v, a'.tmps.getD 40 undef = v ∧ Dg w' .u32 B32 v (((Rat.den (q1)) / (Nat.gcd (Int.natAbs (Rat.num (q2))) (Rat.den (q1)))) * ((Rat.den (q2)) / (Nat.gcd (Int.natAbs (Rat.num (q1))) (Rat.den (q2))))) := ⟨_, rfl, hd _ 40 (Array.mem_of_getElem? (i := 0) rfl) rfl rfl⟩
    exact if_does (wanted_free rfl) (Does.vals (r_assign e40) ⟨h40_1, Below.refl _ _, (fun h => absurd h (by decide))⟩)
  intro a w15 hF bb hall hne
  obtain ⟨vv16, e8, hh17⟩ : ∃ v, a.tmps.getD 8 undef = v ∧ Dg w15 .u32 B32 v (((Rat.den (q1)) / (Nat.gcd (Int.natAbs (Rat.num (q2))) (Rat.den (q1)))) * ((Rat.den (q2)) / (Nat.gcd (Int.natAbs (Rat.num (q1))) (Rat.den (q2))))) := ⟨_, rfl, hall 9 8 rfl⟩
  clear hall hne
  replace hh13 := hh13.below bb
  replace ha1 := ha1.below bb
  replace hd1 := hd1.below bb
  replace h1 := h1.below bb
  replace hn1 := hn1.below bb
  replace ha2 := ha2.below bb
  replace hd2 := hd2.below bb
  replace h2 := h2.below bb
  replace hn2 := hn2.below bb
  replace o2 := o2.below bb
  replace o3 := o3.below bb
  replace o4 := o4.below bb
  replace bel := below_to bel bb
  clear bb
  obtain ⟨ad18, n18, c18, rfl⟩ := Dg.form hh17
  replace hF := hF.add e8
  clear e8
  refine E.nil ?_
  refine wp_seq ?_
  refine E.seq ?_
  refine E.opv hF (r_field (hF.at 6 rfl) (fa_Rat_0 (p := 0) rfl)) rfl rfl rfl rfl fun a hF => ?_
  refine E.opv hF (r_field (hF.at 0 rfl) (fa_Int_0 (p := 0) rfl)) rfl rfl rfl rfl fun a hF => ?_
  refine E.opv hF (r_load (hF.at 0 rfl) (ld_bool (v := .bool b1) o2 rfl)) rfl rfl rfl rfl fun a hF => ?_
  refine E.opv hF (r_field (hF.at 8 rfl) (fa_Rat_0 (p := 0) rfl)) rfl rfl rfl rfl fun a hF => ?_
  refine E.opv hF (r_field (hF.at 0 rfl) (fa_Int_0 (p := 0) rfl)) rfl rfl rfl rfl fun a hF => ?_
  refine E.opv hF (r_load (hF.at 0 rfl) (ld_bool (v := .bool b2) o3 rfl)) rfl rfl rfl rfl fun a hF => ?_
  refine E.opv hF (r_bin (hF.at 3 rfl) (hF.at 0 rfl) eg_bool (bb_neq (d := (b1 != b2)) rfl)) rfl rfl rfl rfl fun a hF => ?_
  refine E.opv hF (r_move (hF.at 8 rfl)) rfl rfl rfl rfl fun a hF => ?_
  refine E.opv hF (r_build (pair2 (hF.at 1 rfl) (hF.at 0 rfl)) (bd_Int_01 _ _ _ _ _)) rfl rfl rfl rfl fun a hF => ?_
  refine E.opv hF (r_move (hF.at 9 rfl)) rfl rfl rfl rfl fun a hF => ?_
  refine E.call hF (r_call Tryz.func62 en62.1 en62.2 (map2 (hF.at 1 rfl) (hF.at 0 rfl))) (ratio_any _ _ _ (((Int.natAbs (Rat.num (q1))) / (Nat.gcd (Int.natAbs (Rat.num (q1))) (Rat.den (q2)))) * ((Int.natAbs (Rat.num (q2))) / (Nat.gcd (Int.natAbs (Rat.num (q2))) (Rat.den (q1))))) (((Rat.den (q1)) / (Nat.gcd (Int.natAbs (Rat.num (q2))) (Rat.den (q1)))) * ((Rat.den (q2)) / (Nat.gcd (Int.natAbs (Rat.num (q1))) (Rat.den (q2))))) (q1 * q2) _ hh13 hh17 HP.out.1 (fun _ => HP.out.2)) rfl rfl rfl rfl ?_
  rintro e w19 ⟨vv20, rfl, hh21, bb⟩
  refine ⟨_, rfl, ?_⟩
  intro a hF
  replace o4 := o4.below bb
  replace bel := below_to bel bb
  clear bb
  obtain ⟨b22, ad22, n22, c22, ae22, m22, d22, rfl, hn22, hd22⟩ := Rq.shape hh21
  have hf23 := Wc.abs hn22
  obtain ⟨w24, hr, tu, on⟩ := st_Rat (vs := [.bool b22, .slice ad22 n22 c22, .slice ae22 m22 d22]) o4 rfl rfl (ocB (ocS (ocS oc0))) (niB (niS (niS ni0))) (o := 0) rfl
  have kp := tu.keep o4
  refine E.st hF (r_store (hF.at 15 rfl) (hF.at 0 rfl) (hr _ rfl)) rfl rfl fun a hF => ?_
  clear hr
  replace hh21 := hh21.keep kp
  replace hn22 := hn22.keep kp
  replace hf23 := hf23.keep kp
  replace hd22 := hd22.keep kp
  replace bel := tu.below bel ge4
  clear tu kp
  replace o4 := on
  clear on
  refine E.nil ?_
  refine wp_ret ?_
  refine bodyPost_ret (res_cell Tryz.results22 (hF.at 15 rfl) (ld_Rat (vs := [.bool b22, .slice ad22 n22 c22, .slice ae22 m22 d22]) o4 rfl rfl)) hF.dfr ?_
  exact ⟨_, rfl, hh21, bel⟩

set_option maxHeartbeats 1000000 in
theorem rSub_any (v1 v2 : Value) (q1 q2 : Rat) (k : Nat) (w : World) (h1 : Rq w v1 q1) (h2 : Rq w v2 q2) (l1 : RLim q1 k) (l2 : RLim q2 k) (hk : k ≤ 100000) :
    Calls Tryz.prog 81 #[v1, v2] w (RqPost w (q1 - q2)) := by
  obtain ⟨b1, ad1, n1, c1, ae1, m1, d1, rfl, hn1, hd1⟩ := h1.shape
  have h1 : Rq w (.agg #[.bool b1, .slice ad1 n1 c1, .slice ae1 m1 d1]) q1 := ⟨_, _, _, _, _, _, _, rfl, hn1, hd1⟩
  have ha1 := hn1.abs
  have hb1 := hn1.neg
  obtain ⟨b2, ad2, n2, c2, ae2, m2, d2, rfl, hn2, hd2⟩ := h2.shape
  have h2 : Rq w (.agg #[.bool b2, .slice ad2 n2 c2, .slice ae2 m2 d2]) q2 := ⟨_, _, _, _, _, _, _, rfl, hn2, hd2⟩
  have ha2 := hn2.abs
  have hb2 := hn2.neg
  have bel : Below w.heap.size w w := Below.refl _ _
  refine E.enter (nt := 9) (L := [(0, .agg #[.bool b1, .slice ad1 n1 c1, .slice ae1 m1 d1]), (1, .agg #[.bool b2, .slice ad2 n2 c2, .slice ae2 m2 d2])]) Tryz.func81 rfl rfl rfl (args_cons (i := 0) rfl (args_cons (i := 1) rfl args_nil)) ?_
  intro a hF
  refine wp_seq ?_
  refine E.seq ?_
  obtain ⟨g2, w1, ge2, hr, bb, o2⟩ := own_box (P := Tryz.prog) (w := w) (cs := [.bool b1, .slice ad1 n1 c1, .slice ae1 m1 d1]) (v := .agg #[.bool b1, .slice ad1 n1 c1, .slice ae1 m1 d1]) 32 rfl (niB (niS (niS ni0)))
  replace ge2 : w.heap.size ≤ g2 := by rw [← ge2]; exact bel.size
  refine E.opv hF (r_box (hF.at 0 rfl) hr) rfl rfl rfl rfl fun a hF => ?_
  clear hr
  replace h2 := h2.below bb
  replace hn2 := hn2.below bb
  replace ha2 := ha2.below bb
  replace hd2 := hd2.below bb
  replace h1 := h1.below bb
  replace hn1 := hn1.below bb
  replace ha1 := ha1.below bb
  replace hd1 := hd1.below bb
  replace bel := below_to bel bb
  clear bb
  obtain ⟨g3, w2, ge3, hr, bb, o3⟩ := own_box (P := Tryz.prog) (w := w1) (cs := [.bool b2, .slice ad2 n2 c2, .slice ae2 m2 d2]) (v := .agg #[.bool b2, .slice ad2 n2 c2, .slice ae2 m2 d2]) 32 rfl (niB (niS (niS ni0)))
  have ne2_3 : g2 ≠ g3 := by rw [← ge3]; exact o2.ne_new
  replace ge3 : w.heap.size ≤ g3 := by rw [← ge3]; exact bel.size
  refine E.opv hF (r_box (hF.at 2 rfl) hr) rfl rfl rfl rfl fun a hF => ?_
  clear hr
  replace ha1 := ha1.below bb
  replace hd1 := hd1.below bb
  replace h1 := h1.below bb
  replace hn1 := hn1.below bb
  replace h2 := h2.below bb
  replace hn2 := hn2.below bb
  replace ha2 := ha2.below bb
  replace hd2 := hd2.below bb
  replace o2 := o2.below bb
  replace bel := below_to bel bb
  clear bb
  obtain ⟨g4, w3, ge4, hr, bb, o4⟩ := own_alloc (P := Tryz.prog) (w := w2) (cs := [.bool false, .slice none 0 0, .slice none 0 0]) 32 ze_Rat rfl (niB (niS (niS ni0)))
  have ne2_4 : g2 ≠ g4 := by rw [← ge4]; exact o2.ne_new
  have ne3_4 : g3 ≠ g4 := by rw [← ge4]; exact o3.ne_new
  replace ge4 : w.heap.size ≤ g4 := by rw [← ge4]; exact bel.size
  refine E.opv hF (r_alloc hr) rfl rfl rfl rfl fun a hF => ?_
  clear hr
  replace ha1 := ha1.below bb
  replace hd1 := hd1.below bb
  replace h1 := h1.below bb
  replace hn1 := hn1.below bb
  replace ha2 := ha2.below bb
  replace hd2 := hd2.below bb
  replace h2 := h2.below bb
  replace hn2 := hn2.below bb
  replace o2 := o2.below bb
  replace o3 := o3.below bb
  replace bel := below_to bel bb
  clear bb
  refine E.nil ?_
  refine wp_seq ?_
  refine E.drawn 4 mixed hF [5, 6, 7, 8] [(fun _ v => v = .agg #[.bool b1, .slice ad1 n1 c1, .slice ae1 m1 d1]), (fun _ v => v = .agg #[.bool b2, .slice ad2 n2 c2, .slice ae2 m2 d2]), (fun w v => Rq w v (-(q2))), (fun w v => Rq w v ((q1) + (-(q2))))] [] (by decide +kernel) (by decide +kernel) rfl rfl rfl ⟨(Mb.eq _), (Mb.eq _), (fun _ _ _ h hb => h.below hb), (fun _ _ _ h hb => h.below hb), trivial⟩ trivial ⟨?_, ?_, ?_, ?_, trivial⟩ ?_
  · intro a' w' hF' hb hd
    exact if_does (wanted_free rfl) (Does.vals (r_load (hF'.at 2 rfl) (ld_Rat (vs := [.bool b1, .slice ad1 n1 c1, .slice ae1 m1 d1]) (o2.below hb) rfl rfl)) ⟨rfl, Below.refl _ _, (fun h => absurd h (by decide))⟩)
  · intro a' w' hF' hb hd
    exact if_does (wanted_free rfl) (Does.vals (r_load (hF'.at 1 rfl) (ld_Rat (vs := [.bool b2, .slice ad2 n2 c2, .slice ae2 m2 d2]) (o3.below hb) rfl rfl)) ⟨rfl, Below.refl _ _, (fun h => absurd h (by decide))⟩)
  · intro a' w' hF' hb hd
    have e6 : a'.tmps.getD 6 undef = .agg #[.bool b2, .slice ad2 n2 c2, .slice ae2 m2 d2] := hd _ 6 (Array.mem_of_getElem? (i := 0) rfl) rfl rfl
    refine if_does (wanted_free rfl) (Does.calls (r_call Tryz.func103 en103.1 en103.2 (map1 e6)) (rOpp_any _ (q2) _ (h2.below hb)) ?_)
    rintro e w'' ⟨v', rfl, h', bb⟩
    exact ⟨_, rfl, h', bb, (fun h => absurd h (by decide))⟩
  · intro a' w' hF' hb hd
    have e5 : a'.tmps.getD 5 undef = .agg #[.bool b1, .slice ad1 n1 c1, .slice ae1 m1 d1] := hd _ 5 (Array.mem_of_getElem? (i := 0) rfl) rfl rfl
    obtain ⟨v7_0, e7, h7_1⟩ : ∃ v, a'.tmps.getD 7 undef = v ∧ Rq w' v (-(q2)) := ⟨_, rfl, hd _ 7 (Array.mem_of_getElem? (i := 1) rfl) rfl rfl⟩
    refine if_does (wanted_free rfl) (Does.calls (r_call Tryz.func21 en21.1 en21.2 (map2 e5 e7)) (rAdd_any _ _ (q1) (-(q2)) k _ (h1.below hb) h7_1 (l1.up _ (by omega)) ((rlim_neg l2).up _ (by omega)) (by omega)) ?_)
    rintro e w'' ⟨v', rfl, h', bb⟩
    exact ⟨_, rfl, h', bb, (fun h => absurd h (by decide))⟩
  intro a w4 hF bb hall hne
  obtain ⟨vv5, e8, hh6⟩ : ∃ v, a.tmps.getD 8 undef = v ∧ Rq w4 v ((q1) + (-(q2))) := ⟨_, rfl, hall 3 8 rfl⟩
  clear hall hne
  replace o4 := o4.below bb
  replace bel := below_to bel bb
  clear bb
  obtain ⟨b7, ad7, n7, c7, ae7, m7, d7, rfl, hn7, hd7⟩ := Rq.shape hh6
  have hf8 := Wc.abs hn7
  replace hF := hF.add e8
  clear e8
  obtain ⟨w9, hr, tu, on⟩ := st_Rat (vs := [.bool b7, .slice ad7 n7 c7, .slice ae7 m7 d7]) o4 rfl rfl (ocB (ocS (ocS oc0))) (niB (niS (niS ni0))) (o := 0) rfl
  have kp := tu.keep o4
  refine E.st hF (r_store (hF.at 1 rfl) (hF.at 0 rfl) (hr _ rfl)) rfl rfl fun a hF => ?_
  clear hr
  replace hh6 := hh6.keep kp
  replace hn7 := hn7.keep kp
  replace hf8 := hf8.keep kp
  replace hd7 := hd7.keep kp
  replace bel := tu.below bel ge4
  clear tu kp
  replace o4 := on
  clear on
  refine E.nil ?_
  refine wp_ret ?_
  refine bodyPost_ret (res_cell Tryz.results81 (hF.at 1 rfl) (ld_Rat (vs := [.bool b7, .slice ad7 n7 c7, .slice ae7 m7 d7]) o4 rfl rfl)) hF.dfr ?_
  exact ⟨_, rfl, by rw [Rat.sub_eq_add_neg]; exact hh6, bel⟩

set_option maxHeartbeats 1000000 in
theorem rDiv_any (v1 v2 : Value) (q1 q2 : Rat) (k : Nat) (w : World) (h1 : Rq w v1 q1) (h2 : Rq w v2 q2) (l1 : RLim q1 k) (l2 : RLim q2 k) (hk : k ≤ 100000) :
    Calls Tryz.prog 84 #[v1, v2] w (RqPost w (q1 / q2)) := by
  obtain ⟨b1, ad1, n1, c1, ae1, m1, d1, rfl, hn1, hd1⟩ := h1.shape
  have h1 : Rq w (.agg #[.bool b1, .slice ad1 n1 c1, .slice ae1 m1 d1]) q1 := ⟨_, _, _, _, _, _, _, rfl, hn1, hd1⟩
  have ha1 := hn1.abs
  have hb1 := hn1.neg
  obtain ⟨b2, ad2, n2, c2, ae2, m2, d2, rfl, hn2, hd2⟩ := h2.shape
  have h2 : Rq w (.agg #[.bool b2, .slice ad2 n2 c2, .slice ae2 m2 d2]) q2 := ⟨_, _, _, _, _, _, _, rfl, hn2, hd2⟩
  have ha2 := hn2.abs
  have hb2 := hn2.neg
  by_cases h0 : q2 = 0
  · have hq : q1 / q2 = 0 := by rw [h0, Rat.div_def, Rat.inv_zero, Rat.mul_zero]
    have hn0 := Rat.num_eq_zero.2 h0
    clear h0
    have bel : Below w.heap.size w w := Below.refl _ _
    refine E.enter (nt := 21) (L := [(0, .agg #[.bool b1, .slice ad1 n1 c1, .slice ae1 m1 d1]), (1, .agg #[.bool b2, .slice ad2 n2 c2, .slice ae2 m2 d2])]) Tryz.func84 rfl rfl rfl (args_cons (i := 0) rfl (args_cons (i := 1) rfl args_nil)) ?_
    intro a hF
    refine wp_seq ?_
    refine E.seq ?_
    obtain ⟨g2, w1, ge2, hr, bb, o2⟩ := own_box (P := Tryz.prog) (w := w) (cs := [.bool b1, .slice ad1 n1 c1, .slice ae1 m1 d1]) (v := .agg #[.bool b1, .slice ad1 n1 c1, .slice ae1 m1 d1]) 32 rfl (niB (niS (niS ni0)))
    replace ge2 : w.heap.size ≤ g2 := by rw [← ge2]; exact bel.size
    refine E.opv hF (r_box (hF.at 0 rfl) hr) rfl rfl rfl rfl fun a hF => ?_
    clear hr
    replace h2 := h2.below bb
    replace hn2 := hn2.below bb
    replace ha2 := ha2.below bb
    replace hd2 := hd2.below bb
    replace h1 := h1.below bb
    replace hn1 := hn1.below bb
    replace ha1 := ha1.below bb
    replace hd1 := hd1.below bb
    replace bel := below_to bel bb
    clear bb
    obtain ⟨g3, w2, ge3, hr, bb, o3⟩ := own_box (P := Tryz.prog) (w := w1) (cs := [.bool b2, .slice ad2 n2 c2, .slice ae2 m2 d2]) (v := .agg #[.bool b2, .slice ad2 n2 c2, .slice ae2 m2 d2]) 32 rfl (niB (niS (niS ni0)))
    have ne2_3 : g2 ≠ g3 := by rw [← ge3]; exact o2.ne_new
    replace ge3 : w.heap.size ≤ g3 := by rw [← ge3]; exact bel.size
    refine E.opv hF (r_box (hF.at 2 rfl) hr) rfl rfl rfl rfl fun a hF => ?_
    clear hr
    replace ha1 := ha1.below bb
    replace hd1 := hd1.below bb
    replace h1 := h1.below bb
    replace hn1 := hn1.below bb
    replace h2 := h2.below bb
    replace hn2 := hn2.below bb
    replace ha2 := ha2.below bb
    replace hd2 := hd2.below bb
    replace o2 := o2.below bb
    replace bel := below_to bel bb
    clear bb
    obtain ⟨g4, w3, ge4, hr, bb, o4⟩ := own_alloc (P := Tryz.prog) (w := w2) (cs := [.bool false, .slice none 0 0, .slice none 0 0]) 32 ze_Rat rfl (niB (niS (niS ni0)))
    have ne2_4 : g2 ≠ g4 := by rw [← ge4]; exact o2.ne_new
    have ne3_4 : g3 ≠ g4 := by rw [← ge4]; exact o3.ne_new
    replace ge4 : w.heap.size ≤ g4 := by rw [← ge4]; exact bel.size
    refine E.opv hF (r_alloc hr) rfl rfl rfl rfl fun a hF => ?_
    clear hr
    replace ha1 := ha1.below bb
    replace hd1 := hd1.below bb
    replace h1 := h1.below bb
    replace hn1 := hn1.below bb
    replace ha2 := ha2.below bb
    replace hd2 := hd2.below bb
    replace h2 := h2.below bb
    replace hn2 := hn2.below bb
    replace o2 := o2.below bb
    replace o3 := o3.below bb
    replace bel := below_to bel bb
    clear bb
    refine E.nil ?_
    refine wp_seq ?_
    refine wp_seq ?_
    refine E.seq ?_
    refine E.opv hF (r_load (hF.at 1 rfl) (ld_Rat (vs := [.bool b2, .slice ad2 n2 c2, .slice ae2 m2 d2]) o3 rfl rfl)) rfl rfl rfl rfl fun a hF => ?_
    refine E.call hF (r_call Tryz.func20 en20.1 en20.2 (map1 (hF.at 0 rfl))) (rsgn_any _ (q2) _ h2) rfl rfl rfl rfl ?_
    rintro e w4 ⟨rfl, bb⟩
    refine ⟨_, rfl, ?_⟩
    intro a hF
    replace ha1 := ha1.below bb
    replace hd1 := hd1.below bb
    replace h1 := h1.below bb
    replace hn1 := hn1.below bb
    replace ha2 := ha2.below bb
    replace hd2 := hd2.below bb
    replace h2 := h2.below bb
    replace hn2 := hn2.below bb
    replace o2 := o2.below bb
    replace o3 := o3.below bb
    replace o4 := o4.below bb
    replace bel := below_to bel bb
    clear bb
    refine E.opv hF (r_bin (hF.at 0 rfl) ev_c eg_scalar (bi_int (ic_eql (c := true) (eq0 (sz_eq0.2 hn0))) (by simp))) rfl rfl rfl rfl fun a hF => ?_
    refine E.nil ?_
    refine wp_cond_true (hF.at 0 rfl) ?_
    refine wp_seq ?_
    refine E.seq ?_
    refine E.opv hF (r_build (by simp) (bd_Rat_ _)) rfl rfl rfl rfl fun a hF => ?_
    obtain ⟨w5, hr, tu, on⟩ := st_Rat (vs := [.bool false, .slice none 0 0, .slice none 0 0]) o4 rfl rfl (ocB (ocS (ocS oc0))) (niB (niS (niS ni0))) (o := 0) rfl
    have kp := tu.keep o4
    refine E.st hF (r_store (hF.at 4 rfl) (hF.at 0 rfl) (hr _ rfl)) rfl rfl fun a hF => ?_
    clear hr
    replace ha1 := ha1.keep kp
    replace hd1 := hd1.keep kp
    replace h1 := h1.keep kp
    replace hn1 := hn1.keep kp
    replace ha2 := ha2.keep kp
    replace hd2 := hd2.keep kp
    replace h2 := h2.keep kp
    replace hn2 := hn2.keep kp
    replace o2 := tu.own o2 ne2_4
    replace o3 := tu.own o3 ne3_4
    replace bel := tu.below bel ge4
    clear tu kp
    replace o4 := on
    clear on
    refine E.nil ?_
    refine wp_ret ?_
    refine bodyPost_ret (res_cell Tryz.results84 (hF.at 4 rfl) (ld_Rat (vs := [.bool false, .slice none 0 0, .slice none 0 0]) o4 rfl rfl)) hF.dfr ?_
    exact ⟨_, rfl, Rz0 hq _, bel⟩
  · have hn0 := ne_num h0
    have HV1 : dn q2 ≠ 0 := by rw [dn_of h0]; exact q2.den_nz
    have HV2 : sg b2 (dn q2) = (q2⁻¹).num := by rw [hb2, dn_of h0]; exact (inv_parts h0).1
    have HV3 := (inv_parts h0).2
    have bel : Below w.heap.size w w := Below.refl _ _
    refine E.enter (nt := 21) (L := [(0, .agg #[.bool b1, .slice ad1 n1 c1, .slice ae1 m1 d1]), (1, .agg #[.bool b2, .slice ad2 n2 c2, .slice ae2 m2 d2])]) Tryz.func84 rfl rfl rfl (args_cons (i := 0) rfl (args_cons (i := 1) rfl args_nil)) ?_
    intro a hF
    refine wp_seq ?_
    refine E.seq ?_
    obtain ⟨g2, w1, ge2, hr, bb, o2⟩ := own_box (P := Tryz.prog) (w := w) (cs := [.bool b1, .slice ad1 n1 c1, .slice ae1 m1 d1]) (v := .agg #[.bool b1, .slice ad1 n1 c1, .slice ae1 m1 d1]) 32 rfl (niB (niS (niS ni0)))
    replace ge2 : w.heap.size ≤ g2 := by rw [← ge2]; exact bel.size
    refine E.opv hF (r_box (hF.at 0 rfl) hr) rfl rfl rfl rfl fun a hF => ?_
    clear hr
    replace h2 := h2.below bb
    replace hn2 := hn2.below bb
    replace ha2 := ha2.below bb
    replace hd2 := hd2.below bb
    replace h1 := h1.below bb
    replace hn1 := hn1.below bb
    replace ha1 := ha1.below bb
    replace hd1 := hd1.below bb
    replace bel := below_to bel bb
    clear bb
    obtain ⟨g3, w2, ge3, hr, bb, o3⟩ := own_box (P := Tryz.prog) (w := w1) (cs := [.bool b2, .slice ad2 n2 c2, .slice ae2 m2 d2]) (v := .agg #[.bool b2, .slice ad2 n2 c2, .slice ae2 m2 d2]) 32 rfl (niB (niS (niS ni0)))
    have ne2_3 : g2 ≠ g3 := by rw [← ge3]; exact o2.ne_new
    replace ge3 : w.heap.size ≤ g3 := by rw [← ge3]; exact bel.size
    refine E.opv hF (r_box (hF.at 2 rfl) hr) rfl rfl rfl rfl fun a hF => ?_
    clear hr
    replace ha1 := ha1.below bb
    replace hd1 := hd1.below bb
    replace h1 := h1.below bb
    replace hn1 := hn1.below bb
    replace h2 := h2.below bb
    replace hn2 := hn2.below bb
    replace ha2 := ha2.below bb
    replace hd2 := hd2.below bb
    replace o2 := o2.below bb
    replace bel := below_to bel bb
    clear bb
    obtain ⟨g4, w3, ge4, hr, bb, o4⟩ := own_alloc (P := Tryz.prog) (w := w2) (cs := [.bool false, .slice none 0 0, .slice none 0 0]) 32 ze_Rat rfl (niB (niS (niS ni0)))
    have ne2_4 : g2 ≠ g4 := by rw [← ge4]; exact o2.ne_new
    have ne3_4 : g3 ≠ g4 := by rw [← ge4]; exact o3.ne_new
    replace ge4 : w.heap.size ≤ g4 := by rw [← ge4]; exact bel.size
    refine E.opv hF (r_alloc hr) rfl rfl rfl rfl fun a hF => ?_
    clear hr
    replace ha1 := ha1.below bb
    replace hd1 := hd1.below bb
    replace h1 := h1.below bb
    replace hn1 := hn1.below bb
    replace ha2 := ha2.below bb
    replace hd2 := hd2.below bb
    replace h2 := h2.below bb
    replace hn2 := hn2.below bb
    replace o2 := o2.below bb
    replace o3 := o3.below bb
    replace bel := below_to bel bb
    clear bb
    refine E.nil ?_
    refine wp_seq ?_
    refine wp_seq ?_
    refine E.seq ?_
    refine E.opv hF (r_load (hF.at 1 rfl) (ld_Rat (vs := [.bool b2, .slice ad2 n2 c2, .slice ae2 m2 d2]) o3 rfl rfl)) rfl rfl rfl rfl fun a hF => ?_
    refine E.call hF (r_call Tryz.func20 en20.1 en20.2 (map1 (hF.at 0 rfl))) (rsgn_any _ (q2) _ h2) rfl rfl rfl rfl ?_
    rintro e w4 ⟨rfl, bb⟩
    refine ⟨_, rfl, ?_⟩
    intro a hF
    replace ha1 := ha1.below bb
    replace hd1 := hd1.below bb
    replace h1 := h1.below bb
    replace hn1 := hn1.below bb
    replace ha2 := ha2.below bb
    replace hd2 := hd2.below bb
    replace h2 := h2.below bb
    replace hn2 := hn2.below bb
    replace o2 := o2.below bb
    replace o3 := o3.below bb
    replace o4 := o4.below bb
    replace bel := below_to bel bb
    clear bb
    refine E.opv hF (r_bin (hF.at 0 rfl) ev_c eg_scalar (bi_int (ic_eql (c := false) (eq0f (fun e => hn0 (sz_eq0.1 e)))) (by simp))) rfl rfl rfl rfl fun a hF => ?_
    refine E.nil ?_
    refine wp_cond_false (hF.at 0 rfl) ?_
    refine wp_skip ?_
    refine E.norm ?_
    refine wp_seq ?_
    refine E.seq ?_
    refine E.opv hF (r_load (hF.at 5 rfl) (ld_Rat (vs := [.bool b1, .slice ad1 n1 c1, .slice ae1 m1 d1]) o2 rfl rfl)) rfl rfl rfl rfl fun a hF => ?_
    refine E.opv hF (r_field (hF.at 5 rfl) (fa_Rat_0 (p := 0) rfl)) rfl rfl rfl rfl fun a hF => ?_
    refine E.opv hF (r_field (hF.at 0 rfl) (fa_Int_0 (p := 0) rfl)) rfl rfl rfl rfl fun a hF => ?_
    refine E.opv hF (r_load (hF.at 0 rfl) (ld_bool (v := .bool b2) o3 rfl)) rfl rfl rfl rfl fun a hF => ?_
    refine E.opv hF (r_field (hF.at 8 rfl) (fa_Rat_1 (p := 2) rfl)) rfl rfl rfl rfl fun a hF => ?_
    refine E.opv hF (r_load (hF.at 0 rfl) (ld_Nat (v := .slice ae2 m2 d2) o3 rfl)) rfl rfl rfl rfl fun a hF => ?_
    refine E.opv hF (r_build (pair2 (hF.at 2 rfl) (hF.at 0 rfl)) (bd_Int_01 _ _ _ _ _)) rfl rfl rfl rfl fun a hF => ?_
    refine E.opv hF (r_field (hF.at 11 rfl) (fa_Rat_0 (p := 0) rfl)) rfl rfl rfl rfl fun a hF => ?_
    refine E.opv hF (r_field (hF.at 0 rfl) (fa_Int_1 (p := 1) rfl)) rfl rfl rfl rfl fun a hF => ?_
    refine E.opv hF (r_load (hF.at 0 rfl) (ld_Nat (v := .slice ad2 n2 c2) o3 rfl)) rfl rfl rfl rfl fun a hF => ?_
    refine E.opv hF (r_build (pair2 (hF.at 3 rfl) (hF.at 0 rfl)) (bd_Rat_01 _ _ _ _ _ _ _ _)) rfl rfl rfl rfl fun a hF => ?_
    refine E.call hF (r_call Tryz.func22 en22.1 en22.2 (map2 (hF.at 10 rfl) (hF.at 0 rfl))) (rMul_any _ _ (q1) (q2⁻¹) k _ h1 (Rq.mk hd2 ha2 HV1 HV2 HV3) (l1.up _ (by omega)) ((rlim_inv l2).up _ (by omega)) (by omega)) rfl rfl rfl rfl ?_
    rintro e w5 ⟨vv6, rfl, hh7, bb⟩
    refine ⟨_, rfl, ?_⟩
    intro a hF
    replace o4 := o4.below bb
    replace bel := below_to bel bb
    clear bb
    obtain ⟨b8, ad8, n8, c8, ae8, m8, d8, rfl, hn8, hd8⟩ := Rq.shape hh7
    have hf9 := Wc.abs hn8
    obtain ⟨w10, hr, tu, on⟩ := st_Rat (vs := [.bool b8, .slice ad8 n8 c8, .slice ae8 m8 d8]) o4 rfl rfl (ocB (ocS (ocS oc0))) (niB (niS (niS ni0))) (o := 0) rfl
    have kp := tu.keep o4
    refine E.st hF (r_store (hF.at 15 rfl) (hF.at 0 rfl) (hr _ rfl)) rfl rfl fun a hF => ?_
    clear hr
    replace hh7 := hh7.keep kp
    replace hn8 := hn8.keep kp
    replace hf9 := hf9.keep kp
    replace hd8 := hd8.keep kp
    replace bel := tu.below bel ge4
    clear tu kp
    replace o4 := on
    clear on
    refine E.nil ?_
    refine wp_ret ?_
    refine bodyPost_ret (res_cell Tryz.results84 (hF.at 15 rfl) (ld_Rat (vs := [.bool b8, .slice ad8 n8 c8, .slice ae8 m8 d8]) o4 rfl rfl)) hF.dfr ?_
    exact ⟨_, rfl, by rw [Rat.div_def]; exact hh7, bel⟩

def BoolPost (w : World) (b : Bool) (e : Ending) (w' : World) : Prop := e = .returned (.bool b) ∧ Below w.heap.size w w'
theorem same_num {a b : Rat} (h : a.num = b.num) (hd : dn a = dn b) : a = b := by
  by_cases h0 : a = 0
  · subst h0
    exact (Rat.num_eq_zero.1 h.symm).symm
  · have h1 : b ≠ 0 := num_ne (by rw [← h]; exact ne_num h0)
    rw [dn_of h0, dn_of h1] at hd
    exact Rat.ext h hd
theorem c3_eqx {m n : Nat} (h : m = n) : c3 m n = 0 := by subst h; unfold c3; simp
theorem c3_ne {m n : Nat} (h : m ≠ n) : c3 m n ≠ 0 := by unfold c3; split <;> (try split) <;> omega
theorem ci_ne {m n : Int} (h : m ≠ n) : ci m n ≠ 0 := by unfold ci; split <;> (try split) <;> omega
set_option maxHeartbeats 1000000 in
theorem rSame_any (v1 v2 : Value) (q1 q2 : Rat) (w : World) (h1 : Rq w v1 q1) (h2 : Rq w v2 q2) :
    Calls Tryz.prog 15 #[v1, v2] w (BoolPost w (decide (q1 = q2))) := by
  obtain ⟨b1, ad1, n1, c1, ae1, m1, d1, rfl, hn1, hd1⟩ := h1.shape
  have h1 : Rq w (.agg #[.bool b1, .slice ad1 n1 c1, .slice ae1 m1 d1]) q1 := ⟨_, _, _, _, _, _, _, rfl, hn1, hd1⟩
  have ha1 := hn1.abs
  have hb1 := hn1.neg
  obtain ⟨b2, ad2, n2, c2, ae2, m2, d2, rfl, hn2, hd2⟩ := h2.shape
  have h2 : Rq w (.agg #[.bool b2, .slice ad2 n2 c2, .slice ae2 m2 d2]) q2 := ⟨_, _, _, _, _, _, _, rfl, hn2, hd2⟩
  have ha2 := hn2.abs
  have hb2 := hn2.neg
  by_cases hn : q1.num = q2.num
  · by_cases hdd : dn q1 = dn q2
    · have HR := Lib.hid (decide_eq_true (same_num hn hdd))
      have bel : Below w.heap.size w w := Below.refl _ _
      refine E.enter (nt := 19) (L := [(0, .agg #[.bool b1, .slice ad1 n1 c1, .slice ae1 m1 d1]), (1, .agg #[.bool b2, .slice ad2 n2 c2, .slice ae2 m2 d2])]) Tryz.func15 rfl rfl rfl (args_cons (i := 0) rfl (args_cons (i := 1) rfl args_nil)) ?_
      intro a hF
      refine wp_seq ?_
      refine E.seq ?_
      obtain ⟨g2, w1, ge2, hr, bb, o2⟩ := own_box (P := Tryz.prog) (w := w) (cs := [.bool b1, .slice ad1 n1 c1, .slice ae1 m1 d1]) (v := .agg #[.bool b1, .slice ad1 n1 c1, .slice ae1 m1 d1]) 32 rfl (niB (niS (niS ni0)))
      replace ge2 : w.heap.size ≤ g2 := by rw [← ge2]; exact bel.size
      refine E.opv hF (r_box (hF.at 0 rfl) hr) rfl rfl rfl rfl fun a hF => ?_
      clear hr
      replace h2 := h2.below bb
      replace hn2 := hn2.below bb
      replace ha2 := ha2.below bb
      replace hd2 := hd2.below bb
      replace h1 := h1.below bb
      replace hn1 := hn1.below bb
      replace ha1 := ha1.below bb
      replace hd1 := hd1.below bb
      replace bel := below_to bel bb
      clear bb
      obtain ⟨g3, w2, ge3, hr, bb, o3⟩ := own_box (P := Tryz.prog) (w := w1) (cs := [.bool b2, .slice ad2 n2 c2, .slice ae2 m2 d2]) (v := .agg #[.bool b2, .slice ad2 n2 c2, .slice ae2 m2 d2]) 32 rfl (niB (niS (niS ni0)))
      have ne2_3 : g2 ≠ g3 := by rw [← ge3]; exact o2.ne_new
      replace ge3 : w.heap.size ≤ g3 := by rw [← ge3]; exact bel.size
      refine E.opv hF (r_box (hF.at 2 rfl) hr) rfl rfl rfl rfl fun a hF => ?_
      clear hr
      replace ha1 := ha1.below bb
      replace hd1 := hd1.below bb
      replace h1 := h1.below bb
      replace hn1 := hn1.below bb
      replace h2 := h2.below bb
      replace hn2 := hn2.below bb
      replace ha2 := ha2.below bb
      replace hd2 := hd2.below bb
      replace o2 := o2.below bb
      replace bel := below_to bel bb
      clear bb
      refine E.opv hF (r_assign ev_c) rfl rfl rfl rfl fun a hF => ?_
      refine E.nil ?_
      refine wp_seq ?_
      refine E.seq ?_
      refine E.opv hF (r_field (hF.at 2 rfl) (fa_Rat_0 (p := 0) rfl)) rfl rfl rfl rfl fun a hF => ?_
      refine E.opv hF (r_load (hF.at 0 rfl) (ld_Int (vs := [.bool b1, .slice ad1 n1 c1]) o2 rfl rfl)) rfl rfl rfl rfl fun a hF => ?_
      refine E.opv hF (r_field (hF.at 3 rfl) (fa_Rat_0 (p := 0) rfl)) rfl rfl rfl rfl fun a hF => ?_
      refine E.opv hF (r_load (hF.at 0 rfl) (ld_Int (vs := [.bool b2, .slice ad2 n2 c2]) o3 rfl rfl)) rfl rfl rfl rfl fun a hF => ?_
      refine E.call hF (r_call Tryz.func55 en55.1 en55.2 (map2 (hF.at 2 rfl) (hF.at 0 rfl))) (whCmp_any _ _ _ _ _ (Wc.wz hn1) (Wc.wz hn2)) rfl rfl rfl rfl ?_
      rintro e w3 ⟨rfl, bb⟩
      refine ⟨_, rfl, ?_⟩
      intro a hF
      replace ha1 := ha1.below bb
      replace hd1 := hd1.below bb
      replace h1 := h1.below bb
      replace hn1 := hn1.below bb
      replace ha2 := ha2.below bb
      replace hd2 := hd2.below bb
      replace h2 := h2.below bb
      replace hn2 := hn2.below bb
      replace o2 := o2.below bb
      replace o3 := o3.below bb
      replace bel := below_to bel bb
      clear bb
      refine E.opv hF (r_bin (hF.at 0 rfl) ev_c eg_scalar (bi_int (ic_eql (c := true) (eq0 (ci_same hn))) (by simp))) rfl rfl rfl rfl fun a hF => ?_
      refine E.opv hF (r_move (hF.at 0 rfl)) rfl rfl rfl rfl fun a hF => ?_
      refine E.opvg hF (r_field (hF.at 9 rfl) (fa_Rat_1 (p := 2) rfl)) (wanted_by rfl rfl (hF.at 0 rfl) rfl) rfl rfl rfl fun a hF => ?_
      refine E.opvg hF (r_load (hF.at 0 rfl) (ld_Nat (v := .slice ae1 m1 d1) o2 rfl)) (wanted_by rfl rfl (hF.at 1 rfl) rfl) rfl rfl rfl fun a hF => ?_
      refine E.opvg hF (r_field (hF.at 10 rfl) (fa_Rat_1 (p := 2) rfl)) (wanted_by rfl rfl (hF.at 2 rfl) rfl) rfl rfl rfl fun a hF => ?_
      refine E.opvg hF (r_load (hF.at 0 rfl) (ld_Nat (v := .slice ae2 m2 d2) o3 rfl)) (wanted_by rfl rfl (hF.at 3 rfl) rfl) rfl rfl rfl fun a hF => ?_
      refine E.callg hF (r_call Tryz.func40 en40.1 en40.2 (map2 (hF.at 2 rfl) (hF.at 0 rfl))) (cmp_any _ _ (dn q1) (dn q2) _ (Dg.nt hd1) (Dg.nt hd2)) (wanted_by rfl rfl (hF.at 4 rfl) rfl) rfl rfl rfl ?_
      intro e w4 hh
      obtain ⟨rfl, bb, hsz⟩ := quiet_below hh
      clear hh hsz
      refine ⟨_, rfl, ?_⟩
      intro a hF
      replace bel := below_to bel bb
      clear bb
      refine E.opvg hF (r_bin (hF.at 0 rfl) ev_c eg_scalar (bi_int (ic_eql (c := true) (eq0 (c3_eqx hdd))) (by simp))) (wanted_by rfl rfl (hF.at 5 rfl) rfl) rfl rfl rfl fun a hF => ?_
      refine E.opv hF (r_pick_t (hF.at 6 rfl) (hF.at 0 rfl)) rfl rfl rfl rfl fun a hF => ?_
      refine E.opset (L' := [(4, .bool true), (18, .bool true), (17, .bool true), (16, .int .i64 (c3 (dn q1) (dn q2))), (15, .slice ae2 m2 d2), (14, .pointer (some ⟨g3, 2, none⟩)), (13, .slice ae1 m1 d1), (12, .pointer (some ⟨g2, 2, none⟩)), (11, .bool true), (10, .bool true), (9, .int .i64 (ci (Rat.num (q1)) (Rat.num (q2)))), (8, .agg #[.bool b2, .slice ad2 n2 c2]), (7, .pointer (some ⟨g3, 0, none⟩)), (6, .agg #[.bool b1, .slice ad1 n1 c1]), (5, .pointer (some ⟨g2, 0, none⟩)), (3, .pointer (some ⟨g3, 0, none⟩)), (2, .pointer (some ⟨g2, 0, none⟩)), (0, .agg #[.bool b1, .slice ad1 n1 c1, .slice ae1 m1 d1]), (1, .agg #[.bool b2, .slice ad2 n2 c2, .slice ae2 m2 d2])]) hF (r_assign (hF.at 0 rfl)) rfl rfl rfl rfl fun a hF => ?_
      refine E.nil ?_
      refine wp_ret ?_
      refine bodyPost_ret (res_tmp Tryz.results15 (hF.at 0 rfl)) hF.dfr ?_
      exact ⟨by rw [HR.out], bel⟩
    · have HR := Lib.hid (decide_eq_false (p := q1 = q2) (fun e => hdd (by rw [e])))
      have bel : Below w.heap.size w w := Below.refl _ _
      refine E.enter (nt := 19) (L := [(0, .agg #[.bool b1, .slice ad1 n1 c1, .slice ae1 m1 d1]), (1, .agg #[.bool b2, .slice ad2 n2 c2, .slice ae2 m2 d2])]) Tryz.func15 rfl rfl rfl (args_cons (i := 0) rfl (args_cons (i := 1) rfl args_nil)) ?_
      intro a hF
      refine wp_seq ?_
      refine E.seq ?_
      obtain ⟨g2, w1, ge2, hr, bb, o2⟩ := own_box (P := Tryz.prog) (w := w) (cs := [.bool b1, .slice ad1 n1 c1, .slice ae1 m1 d1]) (v := .agg #[.bool b1, .slice ad1 n1 c1, .slice ae1 m1 d1]) 32 rfl (niB (niS (niS ni0)))
      replace ge2 : w.heap.size ≤ g2 := by rw [← ge2]; exact bel.size
      refine E.opv hF (r_box (hF.at 0 rfl) hr) rfl rfl rfl rfl fun a hF => ?_
      clear hr
      replace h2 := h2.below bb
      replace hn2 := hn2.below bb
      replace ha2 := ha2.below bb
      replace hd2 := hd2.below bb
      replace h1 := h1.below bb
      replace hn1 := hn1.below bb
      replace ha1 := ha1.below bb
      replace hd1 := hd1.below bb
      replace bel := below_to bel bb
      clear bb
      obtain ⟨g3, w2, ge3, hr, bb, o3⟩ := own_box (P := Tryz.prog) (w := w1) (cs := [.bool b2, .slice ad2 n2 c2, .slice ae2 m2 d2]) (v := .agg #[.bool b2, .slice ad2 n2 c2, .slice ae2 m2 d2]) 32 rfl (niB (niS (niS ni0)))
      have ne2_3 : g2 ≠ g3 := by rw [← ge3]; exact o2.ne_new
      replace ge3 : w.heap.size ≤ g3 := by rw [← ge3]; exact bel.size
      refine E.opv hF (r_box (hF.at 2 rfl) hr) rfl rfl rfl rfl fun a hF => ?_
      clear hr
      replace ha1 := ha1.below bb
      replace hd1 := hd1.below bb
      replace h1 := h1.below bb
      replace hn1 := hn1.below bb
      replace h2 := h2.below bb
      replace hn2 := hn2.below bb
      replace ha2 := ha2.below bb
      replace hd2 := hd2.below bb
      replace o2 := o2.below bb
      replace bel := below_to bel bb
      clear bb
      refine E.opv hF (r_assign ev_c) rfl rfl rfl rfl fun a hF => ?_
      refine E.nil ?_
      refine wp_seq ?_
      refine E.seq ?_
      refine E.opv hF (r_field (hF.at 2 rfl) (fa_Rat_0 (p := 0) rfl)) rfl rfl rfl rfl fun a hF => ?_
      refine E.opv hF (r_load (hF.at 0 rfl) (ld_Int (vs := [.bool b1, .slice ad1 n1 c1]) o2 rfl rfl)) rfl rfl rfl rfl fun a hF => ?_
      refine E.opv hF (r_field (hF.at 3 rfl) (fa_Rat_0 (p := 0) rfl)) rfl rfl rfl rfl fun a hF => ?_
      refine E.opv hF (r_load (hF.at 0 rfl) (ld_Int (vs := [.bool b2, .slice ad2 n2 c2]) o3 rfl rfl)) rfl rfl rfl rfl fun a hF => ?_
      refine E.call hF (r_call Tryz.func55 en55.1 en55.2 (map2 (hF.at 2 rfl) (hF.at 0 rfl))) (whCmp_any _ _ _ _ _ (Wc.wz hn1) (Wc.wz hn2)) rfl rfl rfl rfl ?_
      rintro e w3 ⟨rfl, bb⟩
      refine ⟨_, rfl, ?_⟩
      intro a hF
      replace ha1 := ha1.below bb
      replace hd1 := hd1.below bb
      replace h1 := h1.below bb
      replace hn1 := hn1.below bb
      replace ha2 := ha2.below bb
      replace hd2 := hd2.below bb
      replace h2 := h2.below bb
      replace hn2 := hn2.below bb
      replace o2 := o2.below bb
      replace o3 := o3.below bb
      replace bel := below_to bel bb
      clear bb
      refine E.opv hF (r_bin (hF.at 0 rfl) ev_c eg_scalar (bi_int (ic_eql (c := true) (eq0 (ci_same hn))) (by simp))) rfl rfl rfl rfl fun a hF => ?_
      refine E.opv hF (r_move (hF.at 0 rfl)) rfl rfl rfl rfl fun a hF => ?_
      refine E.opvg hF (r_field (hF.at 9 rfl) (fa_Rat_1 (p := 2) rfl)) (wanted_by rfl rfl (hF.at 0 rfl) rfl) rfl rfl rfl fun a hF => ?_
      refine E.opvg hF (r_load (hF.at 0 rfl) (ld_Nat (v := .slice ae1 m1 d1) o2 rfl)) (wanted_by rfl rfl (hF.at 1 rfl) rfl) rfl rfl rfl fun a hF => ?_
      refine E.opvg hF (r_field (hF.at 10 rfl) (fa_Rat_1 (p := 2) rfl)) (wanted_by rfl rfl (hF.at 2 rfl) rfl) rfl rfl rfl fun a hF => ?_
      refine E.opvg hF (r_load (hF.at 0 rfl) (ld_Nat (v := .slice ae2 m2 d2) o3 rfl)) (wanted_by rfl rfl (hF.at 3 rfl) rfl) rfl rfl rfl fun a hF => ?_
      refine E.callg hF (r_call Tryz.func40 en40.1 en40.2 (map2 (hF.at 2 rfl) (hF.at 0 rfl))) (cmp_any _ _ (dn q1) (dn q2) _ (Dg.nt hd1) (Dg.nt hd2)) (wanted_by rfl rfl (hF.at 4 rfl) rfl) rfl rfl rfl ?_
      intro e w4 hh
      obtain ⟨rfl, bb, hsz⟩ := quiet_below hh
      clear hh hsz
      refine ⟨_, rfl, ?_⟩
      intro a hF
      replace bel := below_to bel bb
      clear bb
      refine E.opvg hF (r_bin (hF.at 0 rfl) ev_c eg_scalar (bi_int (ic_eql (c := false) (eq0f (c3_ne hdd))) (by simp))) (wanted_by rfl rfl (hF.at 5 rfl) rfl) rfl rfl rfl fun a hF => ?_
      refine E.opv hF (r_pick_t (hF.at 6 rfl) (hF.at 0 rfl)) rfl rfl rfl rfl fun a hF => ?_
      refine E.opset (L' := [(4, .bool false), (18, .bool false), (17, .bool false), (16, .int .i64 (c3 (dn q1) (dn q2))), (15, .slice ae2 m2 d2), (14, .pointer (some ⟨g3, 2, none⟩)), (13, .slice ae1 m1 d1), (12, .pointer (some ⟨g2, 2, none⟩)), (11, .bool true), (10, .bool true), (9, .int .i64 (ci (Rat.num (q1)) (Rat.num (q2)))), (8, .agg #[.bool b2, .slice ad2 n2 c2]), (7, .pointer (some ⟨g3, 0, none⟩)), (6, .agg #[.bool b1, .slice ad1 n1 c1]), (5, .pointer (some ⟨g2, 0, none⟩)), (3, .pointer (some ⟨g3, 0, none⟩)), (2, .pointer (some ⟨g2, 0, none⟩)), (0, .agg #[.bool b1, .slice ad1 n1 c1, .slice ae1 m1 d1]), (1, .agg #[.bool b2, .slice ad2 n2 c2, .slice ae2 m2 d2])]) hF (r_assign (hF.at 0 rfl)) rfl rfl rfl rfl fun a hF => ?_
      refine E.nil ?_
      refine wp_ret ?_
      refine bodyPost_ret (res_tmp Tryz.results15 (hF.at 0 rfl)) hF.dfr ?_
      exact ⟨by rw [HR.out], bel⟩
  · have HR := Lib.hid (decide_eq_false (p := q1 = q2) (fun e => hn (by rw [e])))
    have bel : Below w.heap.size w w := Below.refl _ _
    refine E.enter (nt := 19) (L := [(0, .agg #[.bool b1, .slice ad1 n1 c1, .slice ae1 m1 d1]), (1, .agg #[.bool b2, .slice ad2 n2 c2, .slice ae2 m2 d2])]) Tryz.func15 rfl rfl rfl (args_cons (i := 0) rfl (args_cons (i := 1) rfl args_nil)) ?_
    intro a hF
    refine wp_seq ?_
    refine E.seq ?_
    obtain ⟨g2, w1, ge2, hr, bb, o2⟩ := own_box (P := Tryz.prog) (w := w) (cs := [.bool b1, .slice ad1 n1 c1, .slice ae1 m1 d1]) (v := .agg #[.bool b1, .slice ad1 n1 c1, .slice ae1 m1 d1]) 32 rfl (niB (niS (niS ni0)))
    replace ge2 : w.heap.size ≤ g2 := by rw [← ge2]; exact bel.size
    refine E.opv hF (r_box (hF.at 0 rfl) hr) rfl rfl rfl rfl fun a hF => ?_
    clear hr
    replace h2 := h2.below bb
    replace hn2 := hn2.below bb
    replace ha2 := ha2.below bb
    replace hd2 := hd2.below bb
    replace h1 := h1.below bb
    replace hn1 := hn1.below bb
    replace ha1 := ha1.below bb
    replace hd1 := hd1.below bb
    replace bel := below_to bel bb
    clear bb
    obtain ⟨g3, w2, ge3, hr, bb, o3⟩ := own_box (P := Tryz.prog) (w := w1) (cs := [.bool b2, .slice ad2 n2 c2, .slice ae2 m2 d2]) (v := .agg #[.bool b2, .slice ad2 n2 c2, .slice ae2 m2 d2]) 32 rfl (niB (niS (niS ni0)))
    have ne2_3 : g2 ≠ g3 := by rw [← ge3]; exact o2.ne_new
    replace ge3 : w.heap.size ≤ g3 := by rw [← ge3]; exact bel.size
    refine E.opv hF (r_box (hF.at 2 rfl) hr) rfl rfl rfl rfl fun a hF => ?_
    clear hr
    replace ha1 := ha1.below bb
    replace hd1 := hd1.below bb
    replace h1 := h1.below bb
    replace hn1 := hn1.below bb
    replace h2 := h2.below bb
    replace hn2 := hn2.below bb
    replace ha2 := ha2.below bb
    replace hd2 := hd2.below bb
    replace o2 := o2.below bb
    replace bel := below_to bel bb
    clear bb
    refine E.opv hF (r_assign ev_c) rfl rfl rfl rfl fun a hF => ?_
    refine E.nil ?_
    refine wp_seq ?_
    refine E.seq ?_
    refine E.opv hF (r_field (hF.at 2 rfl) (fa_Rat_0 (p := 0) rfl)) rfl rfl rfl rfl fun a hF => ?_
    refine E.opv hF (r_load (hF.at 0 rfl) (ld_Int (vs := [.bool b1, .slice ad1 n1 c1]) o2 rfl rfl)) rfl rfl rfl rfl fun a hF => ?_
    refine E.opv hF (r_field (hF.at 3 rfl) (fa_Rat_0 (p := 0) rfl)) rfl rfl rfl rfl fun a hF => ?_
    refine E.opv hF (r_load (hF.at 0 rfl) (ld_Int (vs := [.bool b2, .slice ad2 n2 c2]) o3 rfl rfl)) rfl rfl rfl rfl fun a hF => ?_
    refine E.call hF (r_call Tryz.func55 en55.1 en55.2 (map2 (hF.at 2 rfl) (hF.at 0 rfl))) (whCmp_any _ _ _ _ _ (Wc.wz hn1) (Wc.wz hn2)) rfl rfl rfl rfl ?_
    rintro e w3 ⟨rfl, bb⟩
    refine ⟨_, rfl, ?_⟩
    intro a hF
    replace ha1 := ha1.below bb
    replace hd1 := hd1.below bb
    replace h1 := h1.below bb
    replace hn1 := hn1.below bb
    replace ha2 := ha2.below bb
    replace hd2 := hd2.below bb
    replace h2 := h2.below bb
    replace hn2 := hn2.below bb
    replace o2 := o2.below bb
    replace o3 := o3.below bb
    replace bel := below_to bel bb
    clear bb
    refine E.opv hF (r_bin (hF.at 0 rfl) ev_c eg_scalar (bi_int (ic_eql (c := false) (eq0f (ci_ne hn))) (by simp))) rfl rfl rfl rfl fun a hF => ?_
    refine E.opv hF (r_move (hF.at 0 rfl)) rfl rfl rfl rfl fun a hF => ?_
    refine E.unwanted hF (wanted_by rfl rfl (hF.at 0 rfl) rfl) rfl rfl rfl fun a hF => ?_
    refine E.unwanted hF (wanted_by rfl rfl (hF.at 1 rfl) rfl) rfl rfl rfl fun a hF => ?_
    refine E.unwanted hF (wanted_by rfl rfl (hF.at 2 rfl) rfl) rfl rfl rfl fun a hF => ?_
    refine E.unwanted hF (wanted_by rfl rfl (hF.at 3 rfl) rfl) rfl rfl rfl fun a hF => ?_
    refine E.unwanted hF (wanted_by rfl rfl (hF.at 4 rfl) rfl) rfl rfl rfl fun a hF => ?_
    refine E.unwanted hF (wanted_by rfl rfl (hF.at 5 rfl) rfl) rfl rfl rfl fun a hF => ?_
    refine E.opv hF (r_pick_f (hF.at 6 rfl) ev_c) rfl rfl rfl rfl fun a hF => ?_
    refine E.opset (L' := [(4, .bool false), (18, .bool false), (17, undef), (16, undef), (15, undef), (14, undef), (13, undef), (12, undef), (11, .bool false), (10, .bool false), (9, .int .i64 (ci (Rat.num (q1)) (Rat.num (q2)))), (8, .agg #[.bool b2, .slice ad2 n2 c2]), (7, .pointer (some ⟨g3, 0, none⟩)), (6, .agg #[.bool b1, .slice ad1 n1 c1]), (5, .pointer (some ⟨g2, 0, none⟩)), (3, .pointer (some ⟨g3, 0, none⟩)), (2, .pointer (some ⟨g2, 0, none⟩)), (0, .agg #[.bool b1, .slice ad1 n1 c1, .slice ae1 m1 d1]), (1, .agg #[.bool b2, .slice ad2 n2 c2, .slice ae2 m2 d2])]) hF (r_assign (hF.at 0 rfl)) rfl rfl rfl rfl fun a hF => ?_
    refine E.nil ?_
    refine wp_ret ?_
    refine bodyPost_ret (res_tmp Tryz.results15 (hF.at 0 rfl)) hF.dfr ?_
    exact ⟨by rw [HR.out], bel⟩

end Go.Proofs.YtmpdbkdijfpbbaaGreat
