/- Rr RrA RrB -/
import Derived.Test.YtmpdbkdijfpbbaaGreatGH
import Derived.Test.YtmpdbkdijfpbbaaGreatGF
import Derived.Test.YtmpdbkdijfpbbaaGreatGG

/- The document's rational numbers: what a value says of one. -/
namespace Go.Proofs.YtmpdbkdijfpbbaaGreat
open Go.RowKit
set_option maxRecDepth 100000
set_option linter.unusedVariables false

theorem Rz.nat {w : World} {s : Value} {d : Nat} (h : Dg w .i64 65536 s d) : Rz w (.agg #[.bool false, s]) ((d : Nat) : Int) := by
  refine ⟨s, ?_, by simpa using h⟩
  rw [decide_eq_false (by omega)]
theorem lim_cast {N k : Nat} (h : Lim N k) : Lim ((N : Nat) : Int).natAbs k := by rw [Int.natAbs_natCast]; exact h
theorem sfrom_dg (v : Value) (N : Nat) (w : World) (h : Dg w .u32 B32 v N) (hl : dl B32 N ≤ 1073741824) : Calls Tryz.prog 43 #[v] w (DhPost w N) := by
  have h2 := sfrom_any v (dg B32 N) w h (okb_dg B32_two N) (by rw [length_dg]; exact hl)
  rw [vl_dg B32_two] at h2
  exact h2
theorem Rz.zero (w : World) : Rz w (.agg #[.bool false, .slice none 0 0]) 0 := ⟨_, rfl, Dg.zero _ _ _ _ (by unfold maxLen; omega) (fun _ => rfl)⟩
theorem Rz.neg {w : World} {b : Bool} {a : Value} {z : Int} (h : Rz w (.agg #[.bool b, a]) z) : b = decide (z < 0) := by
  obtain ⟨a', h1, h2⟩ := h
  injection h1 with h1
  simp only [Array.mk.injEq, List.cons.injEq, and_true, Value.bool.injEq] at h1
  exact h1.1
def Rr (w : World) (v : Value) (q : Rat) (k : Nat) : Prop :=
  ∃ b ad n c ae m d z D, v = .agg #[.bool b, .slice ad n c, .slice ae m d] ∧ Rz w (.agg #[.bool b, .slice ad n c]) z ∧ Dg w .i64 65536 (.slice ae m d) D ∧ 0 < D ∧ q = mkRat z D ∧ Lim z.natAbs k ∧ Lim D k
def RrPost (w : World) (q : Rat) (k : Nat) (e : Ending) (w' : World) : Prop := ∃ v, e = .returned v ∧ Rr w' v q k ∧ Below w.heap.size w w'
theorem Rr.shape {w : World} {v : Value} {q : Rat} {k : Nat} (h : Rr w v q k) : ∃ b ad n c ae m d z D, v = .agg #[.bool b, .slice ad n c, .slice ae m d] ∧ Rz w (.agg #[.bool b, .slice ad n c]) z ∧ Dg w .i64 65536 (.slice ae m d) D ∧ 0 < D ∧ q = mkRat z D ∧ Lim z.natAbs k ∧ Lim D k := h
theorem Rr.form {w : World} {v : Value} {q : Rat} {k : Nat} (h : Rr w v q k) : ∃ b ad n c ae m d, v = .agg #[.bool b, .slice ad n c, .slice ae m d] := by
  obtain ⟨b, ad, n, c, ae, m, d, z, D, h1, _⟩ := h
  exact ⟨b, ad, n, c, ae, m, d, h1⟩
theorem Rr.below {w w' : World} {v : Value} {q : Rat} {k : Nat} (h : Rr w v q k) (hb : Below w.heap.size w w') : Rr w' v q k := by
  obtain ⟨b, ad, n, c, ae, m, d, z, D, h1, h2, h3, h4⟩ := h
  exact ⟨b, ad, n, c, ae, m, d, z, D, h1, h2.below hb, h3.below hb, h4⟩
theorem Rr.keep {w w' : World} {v : Value} {q : Rat} {k : Nat} (h : Rr w v q k) (kp : Keep w w') : Rr w' v q k := by
  obtain ⟨b, ad, n, c, ae, m, d, z, D, h1, h2, h3, h4⟩ := h
  exact ⟨b, ad, n, c, ae, m, d, z, D, h1, h2.keep kp, h3.keep kp, h4⟩
theorem Rr.mk {w : World} {b : Bool} {ad ae : Option Addr} {n c m d : Nat} {z : Int} {D : Nat} {q : Rat} {k : Nat} (h1 : Rz w (.agg #[.bool b, .slice ad n c]) z) (h2 : Dg w .i64 65536 (.slice ae m d) D) (hD : 0 < D) (hq : q = mkRat z D) (l1 : Lim z.natAbs k) (l2 : Lim D k) :
    Rr w (.agg #[.bool b, .slice ad n c, .slice ae m d]) q k := ⟨b, ad, n, c, ae, m, d, z, D, rfl, h1, h2, hD, hq, l1, l2⟩
theorem Rr.up {w : World} {v : Value} {q : Rat} {k : Nat} (h : Rr w v q k) (j : Nat) (hj : k ≤ j) : Rr w v q j := by
  obtain ⟨b, ad, n, c, ae, m, d, z, D, h1, h2, h3, h4, h5, h6, h7⟩ := h
  exact ⟨b, ad, n, c, ae, m, d, z, D, h1, h2, h3, h4, h5, h6.up j hj, h7.up j hj⟩
theorem Rr.cast {w : World} {v : Value} {q q' : Rat} {k : Nat} (h : Rr w v q k) (e : q = q') : Rr w v q' k := by subst e; exact h
/-- []int of the lone 1. -/
theorem bs_one (w : World) : ∃ v w', (Instr.buildSlice 35 1 #[(0, .int .i64 1)]).run Tryz.prog w = .ok v w' ∧ Below w.heap.size w w' ∧ Dg w' .i64 65536 v 1 := by
  refine ⟨.slice (some ⟨w.heap.size, 0, none⟩) 1 1, w.alloc (.cells #[.int .i64 1] 3), ?_, (Below.refl _ _).alloc (Nat.le_refl _) _, ?_⟩
  · have hs := size_run (P := Tryz.prog) (T := 3) (n := 1) (by kernel_rfl) w
    simp [Instr.buildSlice, go_sem, hs, Instr.fill, Value.cells, newRow]
  · have e : dg 65536 1 = [1] := by decide +kernel
    unfold Dg
    rw [e]
    refine ⟨some ⟨w.heap.size, 0, none⟩, 1, rfl, ⟨fun i hi => ?_⟩, by simp, by unfold maxLen; omega, by simp, fun h => by cases h⟩
    have h0 : i = 0 := by simp at hi; omega
    subst h0
    refine ⟨w.heap.size, 0, rfl, by simp, ?_⟩
    rw [cell_of_row _ w.heap.size 0 #[.int .i64 1] 3 (0, 0) (heap_alloc_new w _)]
    rfl
theorem mk_div (z y : Int) (h : y ≠ 0) : mkRat (sg (decide (z < 0) != decide (y < 0)) z.natAbs) y.natAbs = (z : Rat) / (y : Rat) := by
  rw [← Rat.divInt_eq_div]
  have hz : z = sg (decide (z < 0)) z.natAbs := (sg_self z).symm
  generalize hb : decide (z < 0) = b at *
  rcases Int.lt_or_gt_of_ne h with h' | h'
  · obtain ⟨m, rfl⟩ : ∃ m : Nat, y = -(m : Int) := ⟨y.natAbs, by omega⟩
    rw [decide_eq_true h', Rat.divInt_neg', Rat.divInt_ofNat, Int.natAbs_neg, Int.natAbs_natCast]
    congr 1
    generalize z.natAbs = N at *
    subst hz
    cases b <;> simp [sg]
  · obtain ⟨m, rfl⟩ : ∃ m : Nat, y = (m : Int) := ⟨y.natAbs, by omega⟩
    rw [decide_eq_false (by omega), Rat.divInt_ofNat, Int.natAbs_natCast]
    congr 1
    generalize z.natAbs = N at *
    subst hz
    cases b <;> simp [sg]
theorem radd_eq {z1 z2 : Int} {d1 d2 : Nat} (h1 : 0 < d1) (h2 : 0 < d2) : ((z1 * (d2 : Int) + z2 * (d1 : Int) : Int) : Rat) / (((d1 : Int) * (d2 : Int) : Int) : Rat) = mkRat z1 d1 + mkRat z2 d2 := by
  rw [Rat.mkRat_add_mkRat _ _ (by omega) (by omega), ← Rat.divInt_eq_div, Int.ofNat_mul_ofNat, Rat.divInt_ofNat]
theorem rmul_eq {z1 z2 : Int} {d1 d2 : Nat} (h1 : 0 < d1) (h2 : 0 < d2) : ((z1 * z2 : Int) : Rat) / (((d1 * d2 : Nat) : Int) : Rat) = mkRat z1 d1 * mkRat z2 d2 := by
  rw [Rat.mkRat_mul_mkRat, ← Rat.divInt_eq_div, Rat.divInt_ofNat]
theorem rdiv_eq {z1 z2 : Int} {d1 d2 : Nat} (h1 : 0 < d1) (h2 : 0 < d2) : ((z1 * (d2 : Int) : Int) : Rat) / (((d1 : Int) * z2 : Int) : Rat) = mkRat z1 d1 / mkRat z2 d2 := by
  have e1 : mkRat z1 d1 = Rat.divInt z1 (d1 : Int) := (Rat.divInt_ofNat z1 d1).symm
  have e2 : mkRat z2 d2 = Rat.divInt z2 (d2 : Int) := (Rat.divInt_ofNat z2 d2).symm
  rw [e1, e2, Rat.div_def (Rat.divInt z1 (d1 : Int)), Rat.inv_divInt, Rat.divInt_mul_divInt, Rat.divInt_eq_div]
theorem sz_mk {z : Int} {d : Nat} (h : 0 < d) : sz z = sz (mkRat z d).num := by
  rw [Rat.num_mkRat, if_neg (by omega)]
  have hg : Nat.gcd d z.natAbs ∣ z.natAbs := Nat.gcd_dvd_right _ _
  have hp : 0 < Nat.gcd d z.natAbs := Nat.gcd_pos_of_pos_left _ h
  obtain ⟨t, ht⟩ : ((Nat.gcd d z.natAbs : Nat) : Int) ∣ z := Int.ofNat_dvd_left.2 hg
  generalize Nat.gcd d z.natAbs = g at *
  subst ht
  rw [Int.mul_ediv_cancel_left _ (by omega)]
  unfold sz
  rcases Int.lt_trichotomy t 0 with h1 | h1 | h1
  · have := Int.mul_neg_of_pos_of_neg (show (0 : Int) < g by omega) h1
    rw [if_neg (by omega), if_pos this, if_neg (by omega), if_pos h1]
  · subst h1; simp
  · have := Int.mul_pos (show (0 : Int) < g by omega) h1
    rw [if_neg (by omega), if_neg (by omega), if_neg (by omega), if_neg (by omega)]
theorem cross_lt {z1 z2 : Int} {d1 d2 : Nat} (h1 : 0 < d1) (h2 : 0 < d2) : z1 * (d2 : Int) < z2 * (d1 : Int) ↔ mkRat z1 d1 < mkRat z2 d2 := by
  have e1 := Rat.mkRat_eq_div z1 d1
  have e2 := Rat.mkRat_eq_div z2 d2
  have p1 : (0 : Rat) < (d1 : Rat) := Rat.natCast_pos.2 h1
  have p2 : (0 : Rat) < (d2 : Rat) := Rat.natCast_pos.2 h2
  rw [e1, e2, Rat.div_lt_iff p1, ← Rat.intCast_lt_intCast, Rat.intCast_mul, Rat.intCast_mul, Rat.intCast_natCast, Rat.intCast_natCast]
  rw [show (z2 : Rat) / (d2 : Rat) * (d1 : Rat) = (z2 * (d1 : Rat)) / (d2 : Rat) by rw [Rat.div_def, Rat.div_def, Rat.mul_assoc, Rat.mul_assoc, Rat.mul_comm (d2 : Rat)⁻¹]]
  rw [Rat.lt_div_iff p2]
theorem ci_cross {z1 z2 : Int} {d1 d2 : Nat} (h1 : 0 < d1) (h2 : 0 < d2) : ci (z1 * (d2 : Int)) (z2 * (d1 : Int)) = qc (mkRat z1 d1) (mkRat z2 d2) := by
  have a := cross_lt (z1 := z1) (z2 := z2) h1 h2
  have b := cross_lt (z1 := z2) (z2 := z1) h2 h1
  have c := Rat.lt_iff (mkRat z1 d1) (mkRat z2 d2)
  have d := Rat.lt_iff (mkRat z2 d2) (mkRat z1 d1)
  unfold qc ci
  simp only [← c, ← d, a, b]
end Go.Proofs.YtmpdbkdijfpbbaaGreat

/- The document's rational numbers: Make, Add, Mul, Div, Opp, Sub, Sign, Cmp, Abs, Of. -/
namespace Go.Proofs.YtmpdbkdijfpbbaaGreat
open Go.RowKit
set_option maxRecDepth 100000
set_option linter.unusedVariables false

theorem rz_lim {k : Nat} (h : 1 ≤ k) : Lim (0 : Int).natAbs k := Nat.lt_of_lt_of_le (by decide : 0 < B32 ^ 1) (Nat.pow_le_pow_right B32_pos h)
set_option maxHeartbeats 1000000 in
theorem dmk_any (v1 v2 : Value) (z1 z2 : Int) (k : Nat) (w : World) (h1 : Rz w v1 z1) (h2 : Rz w v2 z2) (l1 : Lim z1.natAbs k) (l2 : Lim z2.natAbs k) (hk1 : 1 ≤ k) :
    Calls Tryz.prog 26 #[v1, v2] w (RrPost w ((z1 : Rat) / (z2 : Rat)) k) := by
  obtain ⟨b1, ad1, n1, c1, rfl⟩ := h1.form
  have ha1 := h1.abs
  have hb1 := h1.neg
  obtain ⟨b2, ad2, n2, c2, rfl⟩ := h2.form
  have ha2 := h2.abs
  have hb2 := h2.neg
  by_cases e1 : z1 = 0
  · have hq := Lib.hid (show (z1 : Rat) / (z2 : Rat) = 0 by rw [e1, Rat.intCast_zero, Rat.div_def, Rat.zero_mul])
    have hm1 : n1 = 0 := Dg.len0 (by rw [e1] at ha1; exact ha1)
    clear e1 hb1 hb2
    have bel : Below w.heap.size w w := Below.refl _ _
    refine E.enter (nt := 29) (L := [(0, .agg #[.bool b1, .slice ad1 n1 c1]), (1, .agg #[.bool b2, .slice ad2 n2 c2])]) Tryz.func26 rfl rfl rfl (args_cons (i := 0) rfl (args_cons (i := 1) rfl args_nil)) ?_
    intro a hF
    refine wp_seq ?_
    refine E.seq ?_
    obtain ⟨g2, w1, ge2, hr, bb, o2⟩ := own_box (P := Tryz.prog) (w := w) (cs := [.bool b1, .slice ad1 n1 c1]) (v := .agg #[.bool b1, .slice ad1 n1 c1]) 37 rfl (niB (niS ni0))
    replace ge2 : w.heap.size ≤ g2 := by rw [← ge2]; exact bel.size
    refine E.opv hF (r_box (hF.at 0 rfl) hr) rfl rfl rfl rfl fun a hF => ?_
    clear hr
    replace h2 := h2.below bb
    replace ha2 := ha2.below bb
    replace h1 := h1.below bb
    replace ha1 := ha1.below bb
    replace bel := below_to bel bb
    clear bb
    obtain ⟨g3, w2, ge3, hr, bb, o3⟩ := own_box (P := Tryz.prog) (w := w1) (cs := [.bool b2, .slice ad2 n2 c2]) (v := .agg #[.bool b2, .slice ad2 n2 c2]) 37 rfl (niB (niS ni0))
    have ne2_3 : g2 ≠ g3 := by rw [← ge3]; exact o2.ne_new
    replace ge3 : w.heap.size ≤ g3 := by rw [← ge3]; exact bel.size
    refine E.opv hF (r_box (hF.at 2 rfl) hr) rfl rfl rfl rfl fun a hF => ?_
    clear hr
    replace ha1 := ha1.below bb
    replace h1 := h1.below bb
    replace h2 := h2.below bb
    replace ha2 := ha2.below bb
    replace o2 := o2.below bb
    replace bel := below_to bel bb
    clear bb
    obtain ⟨g4, w3, ge4, hr, bb, o4⟩ := own_alloc (P := Tryz.prog) (w := w2) (cs := [.bool false, .slice none 0 0, .slice none 0 0]) 39 ze_RRat rfl (niB (niS (niS ni0)))
    have ne2_4 : g2 ≠ g4 := by rw [← ge4]; exact o2.ne_new
    have ne3_4 : g3 ≠ g4 := by rw [← ge4]; exact o3.ne_new
    replace ge4 : w.heap.size ≤ g4 := by rw [← ge4]; exact bel.size
    refine E.opv hF (r_alloc hr) rfl rfl rfl rfl fun a hF => ?_
    clear hr
    replace ha1 := ha1.below bb
    replace h1 := h1.below bb
    replace ha2 := ha2.below bb
    replace h2 := h2.below bb
    replace o2 := o2.below bb
    replace o3 := o3.below bb
    replace bel := below_to bel bb
    clear bb
    refine E.nil ?_
    refine wp_seq ?_
    refine wp_seq ?_
    refine E.seq ?_
    refine E.opv hF (r_field (hF.at 2 rfl) (fa_RInt_1 (p := 1) rfl)) rfl rfl rfl rfl fun a hF => ?_
    refine E.opv hF (r_load (hF.at 0 rfl) (ld_Num (v := .slice ad1 n1 c1) o2 rfl)) rfl rfl rfl rfl fun a hF => ?_
    refine E.opv hF (r_builtin (map1 (hF.at 0 rfl)) bl_num) rfl rfl rfl rfl fun a hF => ?_
    refine E.opv hF (r_bin (hF.at 0 rfl) ev_c eg_scalar (bi_int (ic_eql (c := true) (eq0 (by rw [hm1]; rfl))) (by simp))) rfl rfl rfl rfl fun a hF => ?_
    refine E.opv hF (r_move (hF.at 0 rfl)) rfl rfl rfl rfl fun a hF => ?_
    refine E.unwanted hF (wanted_by rfl rfl (hF.at 0 rfl) rfl) rfl rfl rfl fun a hF => ?_
    refine E.unwanted hF (wanted_by rfl rfl (hF.at 1 rfl) rfl) rfl rfl rfl fun a hF => ?_
    refine E.unwanted hF (wanted_by rfl rfl (hF.at 2 rfl) rfl) rfl rfl rfl fun a hF => ?_
    refine E.unwanted hF (wanted_by rfl rfl (hF.at 3 rfl) rfl) rfl rfl rfl fun a hF => ?_
    refine E.opv hF (r_pick_t (hF.at 4 rfl) ev_c) rfl rfl rfl rfl fun a hF => ?_
    refine E.nil ?_
    refine wp_cond_true (hF.at 0 rfl) ?_
    refine wp_seq ?_
    refine E.seq ?_
    refine E.opv hF (r_build (by simp) (bd_RInt_ _)) rfl rfl rfl rfl fun a hF => ?_
    obtain ⟨vv4, w5, hr, bb, hh6⟩ := bs_one w3
    refine E.opv hF (r_buildSlice (qs := #[(0, .int .i64 1)]) (pair1 ev_c) hr) rfl rfl rfl rfl fun a hF => ?_
    clear hr
    replace ha1 := ha1.below bb
    replace h1 := h1.below bb
    replace ha2 := ha2.below bb
    replace h2 := h2.below bb
    replace o2 := o2.below bb
    replace o3 := o3.below bb
    replace o4 := o4.below bb
    replace bel := below_to bel bb
    clear bb
    obtain ⟨ad7, n7, c7, rfl⟩ := Dg.form hh6
    refine E.opv hF (r_build (pair2 (hF.at 1 rfl) (hF.at 0 rfl)) (bd_RRat_01 _ _ _ _ _ _ _ _)) rfl rfl rfl rfl fun a hF => ?_
    obtain ⟨w8, hr, tu, on⟩ := st_RRat (vs := [.bool false, .slice none 0 0, .slice ad7 n7 c7]) o4 rfl rfl (ocB (ocS (ocS oc0))) (niB (niS (niS ni0))) (o := 0) rfl
    have kp := tu.keep o4
    refine E.st hF (r_store (hF.at 13 rfl) (hF.at 0 rfl) (hr _ rfl)) rfl rfl fun a hF => ?_
    clear hr
    replace ha1 := ha1.keep kp
    replace h1 := h1.keep kp
    replace ha2 := ha2.keep kp
    replace h2 := h2.keep kp
    replace hh6 := hh6.keep kp
    replace o2 := tu.own o2 ne2_4
    replace o3 := tu.own o3 ne3_4
    replace bel := tu.below bel ge4
    clear tu kp
    replace o4 := on
    clear on
    refine E.nil ?_
    refine wp_ret ?_
    refine bodyPost_ret (res_cell Tryz.results26 (hF.at 13 rfl) (ld_RRat (vs := [.bool false, .slice none 0 0, .slice ad7 n7 c7]) o4 rfl rfl)) hF.dfr ?_
    exact ⟨_, rfl, Rr.mk (Rz.zero _) hh6 (by omega) (hq.out.trans (Rat.zero_mkRat 1).symm) (rz_lim hk1) (Lim.one hk1), bel⟩
  · by_cases e2 : z2 = 0
    · have hq := Lib.hid (show (z1 : Rat) / (z2 : Rat) = 0 by rw [e2, Rat.intCast_zero, Rat.div_def, Rat.inv_zero, Rat.mul_zero])
      have hm1 := Dg.lenp (by decide) ha1 (by omega)
      have hm2 : n2 = 0 := Dg.len0 (by rw [e2] at ha2; exact ha2)
      clear e1 e2 hb1 hb2
      have bel : Below w.heap.size w w := Below.refl _ _
      refine E.enter (nt := 29) (L := [(0, .agg #[.bool b1, .slice ad1 n1 c1]), (1, .agg #[.bool b2, .slice ad2 n2 c2])]) Tryz.func26 rfl rfl rfl (args_cons (i := 0) rfl (args_cons (i := 1) rfl args_nil)) ?_
      intro a hF
      refine wp_seq ?_
      refine E.seq ?_
      obtain ⟨g2, w1, ge2, hr, bb, o2⟩ := own_box (P := Tryz.prog) (w := w) (cs := [.bool b1, .slice ad1 n1 c1]) (v := .agg #[.bool b1, .slice ad1 n1 c1]) 37 rfl (niB (niS ni0))
      replace ge2 : w.heap.size ≤ g2 := by rw [← ge2]; exact bel.size
      refine E.opv hF (r_box (hF.at 0 rfl) hr) rfl rfl rfl rfl fun a hF => ?_
      clear hr
      replace h2 := h2.below bb
      replace ha2 := ha2.below bb
      replace h1 := h1.below bb
      replace ha1 := ha1.below bb
      replace bel := below_to bel bb
      clear bb
      obtain ⟨g3, w2, ge3, hr, bb, o3⟩ := own_box (P := Tryz.prog) (w := w1) (cs := [.bool b2, .slice ad2 n2 c2]) (v := .agg #[.bool b2, .slice ad2 n2 c2]) 37 rfl (niB (niS ni0))
      have ne2_3 : g2 ≠ g3 := by rw [← ge3]; exact o2.ne_new
      replace ge3 : w.heap.size ≤ g3 := by rw [← ge3]; exact bel.size
      refine E.opv hF (r_box (hF.at 2 rfl) hr) rfl rfl rfl rfl fun a hF => ?_
      clear hr
      replace ha1 := ha1.below bb
      replace h1 := h1.below bb
      replace h2 := h2.below bb
      replace ha2 := ha2.below bb
      replace o2 := o2.below bb
      replace bel := below_to bel bb
      clear bb
      obtain ⟨g4, w3, ge4, hr, bb, o4⟩ := own_alloc (P := Tryz.prog) (w := w2) (cs := [.bool false, .slice none 0 0, .slice none 0 0]) 39 ze_RRat rfl (niB (niS (niS ni0)))
      have ne2_4 : g2 ≠ g4 := by rw [← ge4]; exact o2.ne_new
      have ne3_4 : g3 ≠ g4 := by rw [← ge4]; exact o3.ne_new
      replace ge4 : w.heap.size ≤ g4 := by rw [← ge4]; exact bel.size
      refine E.opv hF (r_alloc hr) rfl rfl rfl rfl fun a hF => ?_
      clear hr
      replace ha1 := ha1.below bb
      replace h1 := h1.below bb
      replace ha2 := ha2.below bb
      replace h2 := h2.below bb
      replace o2 := o2.below bb
      replace o3 := o3.below bb
      replace bel := below_to bel bb
      clear bb
      refine E.nil ?_
      refine wp_seq ?_
      refine wp_seq ?_
      refine E.seq ?_
      refine E.opv hF (r_field (hF.at 2 rfl) (fa_RInt_1 (p := 1) rfl)) rfl rfl rfl rfl fun a hF => ?_
      refine E.opv hF (r_load (hF.at 0 rfl) (ld_Num (v := .slice ad1 n1 c1) o2 rfl)) rfl rfl rfl rfl fun a hF => ?_
      refine E.opv hF (r_builtin (map1 (hF.at 0 rfl)) bl_num) rfl rfl rfl rfl fun a hF => ?_
      refine E.opv hF (r_bin (hF.at 0 rfl) ev_c eg_scalar (bi_int (ic_eql (c := false) (eq0f (by omega))) (by simp))) rfl rfl rfl rfl fun a hF => ?_
      refine E.opv hF (r_move (hF.at 0 rfl)) rfl rfl rfl rfl fun a hF => ?_
      refine E.opvg hF (r_field (hF.at 6 rfl) (fa_RInt_1 (p := 1) rfl)) (wanted_by rfl rfl (hF.at 0 rfl) rfl) rfl rfl rfl fun a hF => ?_
      refine E.opvg hF (r_load (hF.at 0 rfl) (ld_Num (v := .slice ad2 n2 c2) o3 rfl)) (wanted_by rfl rfl (hF.at 1 rfl) rfl) rfl rfl rfl fun a hF => ?_
      refine E.opvg hF (r_builtin (map1 (hF.at 0 rfl)) bl_num) (wanted_by rfl rfl (hF.at 2 rfl) rfl) rfl rfl rfl fun a hF => ?_
      refine E.opvg hF (r_bin (hF.at 0 rfl) ev_c eg_scalar (bi_int (ic_eql (c := true) (eq0 (by rw [hm2]; rfl))) (by simp))) (wanted_by rfl rfl (hF.at 3 rfl) rfl) rfl rfl rfl fun a hF => ?_
      refine E.opv hF (r_pick_f (hF.at 4 rfl) (hF.at 0 rfl)) rfl rfl rfl rfl fun a hF => ?_
      refine E.nil ?_
      refine wp_cond_true (hF.at 0 rfl) ?_
      refine wp_seq ?_
      refine E.seq ?_
      refine E.opv hF (r_build (by simp) (bd_RInt_ _)) rfl rfl rfl rfl fun a hF => ?_
      obtain ⟨vv4, w5, hr, bb, hh6⟩ := bs_one w3
      refine E.opv hF (r_buildSlice (qs := #[(0, .int .i64 1)]) (pair1 ev_c) hr) rfl rfl rfl rfl fun a hF => ?_
      clear hr
      replace ha1 := ha1.below bb
      replace h1 := h1.below bb
      replace ha2 := ha2.below bb
      replace h2 := h2.below bb
      replace o2 := o2.below bb
      replace o3 := o3.below bb
      replace o4 := o4.below bb
      replace bel := below_to bel bb
      clear bb
      obtain ⟨ad7, n7, c7, rfl⟩ := Dg.form hh6
      refine E.opv hF (r_build (pair2 (hF.at 1 rfl) (hF.at 0 rfl)) (bd_RRat_01 _ _ _ _ _ _ _ _)) rfl rfl rfl rfl fun a hF => ?_
      obtain ⟨w8, hr, tu, on⟩ := st_RRat (vs := [.bool false, .slice none 0 0, .slice ad7 n7 c7]) o4 rfl rfl (ocB (ocS (ocS oc0))) (niB (niS (niS ni0))) (o := 0) rfl
      have kp := tu.keep o4
      refine E.st hF (r_store (hF.at 13 rfl) (hF.at 0 rfl) (hr _ rfl)) rfl rfl fun a hF => ?_
      clear hr
      replace ha1 := ha1.keep kp
      replace h1 := h1.keep kp
      replace ha2 := ha2.keep kp
      replace h2 := h2.keep kp
      replace hh6 := hh6.keep kp
      replace o2 := tu.own o2 ne2_4
      replace o3 := tu.own o3 ne3_4
      replace bel := tu.below bel ge4
      clear tu kp
      replace o4 := on
      clear on
      refine E.nil ?_
      refine wp_ret ?_
      refine bodyPost_ret (res_cell Tryz.results26 (hF.at 13 rfl) (ld_RRat (vs := [.bool false, .slice none 0 0, .slice ad7 n7 c7]) o4 rfl rfl)) hF.dfr ?_
      exact ⟨_, rfl, Rr.mk (Rz.zero _) hh6 (by omega) (hq.out.trans (Rat.zero_mkRat 1).symm) (rz_lim hk1) (Lim.one hk1), bel⟩
    · have hq := Lib.hid (show (z1 : Rat) / (z2 : Rat) = mkRat (sg (b1 != b2) (Int.natAbs z1)) (Int.natAbs z2) by rw [hb1, hb2]; exact (mk_div z1 z2 e2).symm)
      have hm1 := Dg.lenp (by decide) ha1 (by omega)
      have hm2 := Dg.lenp (by decide) ha2 (by omega)
      have hD : 0 < Int.natAbs z2 := by omega
      clear e1 e2 hb1 hb2
      have bel : Below w.heap.size w w := Below.refl _ _
      refine E.enter (nt := 29) (L := [(0, .agg #[.bool b1, .slice ad1 n1 c1]), (1, .agg #[.bool b2, .slice ad2 n2 c2])]) Tryz.func26 rfl rfl rfl (args_cons (i := 0) rfl (args_cons (i := 1) rfl args_nil)) ?_
      intro a hF
      refine wp_seq ?_
      refine E.seq ?_
      obtain ⟨g2, w1, ge2, hr, bb, o2⟩ := own_box (P := Tryz.prog) (w := w) (cs := [.bool b1, .slice ad1 n1 c1]) (v := .agg #[.bool b1, .slice ad1 n1 c1]) 37 rfl (niB (niS ni0))
      replace ge2 : w.heap.size ≤ g2 := by rw [← ge2]; exact bel.size
      refine E.opv hF (r_box (hF.at 0 rfl) hr) rfl rfl rfl rfl fun a hF => ?_
      clear hr
      replace h2 := h2.below bb
      replace ha2 := ha2.below bb
      replace h1 := h1.below bb
      replace ha1 := ha1.below bb
      replace bel := below_to bel bb
      clear bb
      obtain ⟨g3, w2, ge3, hr, bb, o3⟩ := own_box (P := Tryz.prog) (w := w1) (cs := [.bool b2, .slice ad2 n2 c2]) (v := .agg #[.bool b2, .slice ad2 n2 c2]) 37 rfl (niB (niS ni0))
      have ne2_3 : g2 ≠ g3 := by rw [← ge3]; exact o2.ne_new
      replace ge3 : w.heap.size ≤ g3 := by rw [← ge3]; exact bel.size
      refine E.opv hF (r_box (hF.at 2 rfl) hr) rfl rfl rfl rfl fun a hF => ?_
      clear hr
      replace ha1 := ha1.below bb
      replace h1 := h1.below bb
      replace h2 := h2.below bb
      replace ha2 := ha2.below bb
      replace o2 := o2.below bb
      replace bel := below_to bel bb
      clear bb
      obtain ⟨g4, w3, ge4, hr, bb, o4⟩ := own_alloc (P := Tryz.prog) (w := w2) (cs := [.bool false, .slice none 0 0, .slice none 0 0]) 39 ze_RRat rfl (niB (niS (niS ni0)))
      have ne2_4 : g2 ≠ g4 := by rw [← ge4]; exact o2.ne_new
      have ne3_4 : g3 ≠ g4 := by rw [← ge4]; exact o3.ne_new
      replace ge4 : w.heap.size ≤ g4 := by rw [← ge4]; exact bel.size
      refine E.opv hF (r_alloc hr) rfl rfl rfl rfl fun a hF => ?_
      clear hr
      replace ha1 := ha1.below bb
      replace h1 := h1.below bb
      replace ha2 := ha2.below bb
      replace h2 := h2.below bb
      replace o2 := o2.below bb
      replace o3 := o3.below bb
      replace bel := below_to bel bb
      clear bb
      refine E.nil ?_
      refine wp_seq ?_
      refine wp_seq ?_
      refine E.seq ?_
      refine E.opv hF (r_field (hF.at 2 rfl) (fa_RInt_1 (p := 1) rfl)) rfl rfl rfl rfl fun a hF => ?_
      refine E.opv hF (r_load (hF.at 0 rfl) (ld_Num (v := .slice ad1 n1 c1) o2 rfl)) rfl rfl rfl rfl fun a hF => ?_
      refine E.opv hF (r_builtin (map1 (hF.at 0 rfl)) bl_num) rfl rfl rfl rfl fun a hF => ?_
      refine E.opv hF (r_bin (hF.at 0 rfl) ev_c eg_scalar (bi_int (ic_eql (c := false) (eq0f (by omega))) (by simp))) rfl rfl rfl rfl fun a hF => ?_
      refine E.opv hF (r_move (hF.at 0 rfl)) rfl rfl rfl rfl fun a hF => ?_
      refine E.opvg hF (r_field (hF.at 6 rfl) (fa_RInt_1 (p := 1) rfl)) (wanted_by rfl rfl (hF.at 0 rfl) rfl) rfl rfl rfl fun a hF => ?_
      refine E.opvg hF (r_load (hF.at 0 rfl) (ld_Num (v := .slice ad2 n2 c2) o3 rfl)) (wanted_by rfl rfl (hF.at 1 rfl) rfl) rfl rfl rfl fun a hF => ?_
      refine E.opvg hF (r_builtin (map1 (hF.at 0 rfl)) bl_num) (wanted_by rfl rfl (hF.at 2 rfl) rfl) rfl rfl rfl fun a hF => ?_
      refine E.opvg hF (r_bin (hF.at 0 rfl) ev_c eg_scalar (bi_int (ic_eql (c := false) (eq0f (by omega))) (by simp))) (wanted_by rfl rfl (hF.at 3 rfl) rfl) rfl rfl rfl fun a hF => ?_
      refine E.opv hF (r_pick_f (hF.at 4 rfl) (hF.at 0 rfl)) rfl rfl rfl rfl fun a hF => ?_
      refine E.nil ?_
      refine wp_cond_false (hF.at 0 rfl) ?_
      refine wp_skip ?_
      refine E.norm ?_
      refine wp_seq ?_
      refine E.drawn 11 mixed hF [18, 19, 20, 21, 22, 23, 24, 25, 26, 27, 28] [(fun _ v => v = .pointer (some ⟨g2, 0, none⟩)), (fun _ v => v = .bool b1), (fun _ v => v = .pointer (some ⟨g3, 0, none⟩)), (fun _ v => v = .bool b2), (fun _ v => v = .bool (b1 != b2)), (fun _ v => v = .pointer (some ⟨g2, 1, none⟩)), (fun _ v => v = .slice ad1 n1 c1), (fun w v => Rz w v (sg ((b1 != b2)) (Int.natAbs (z1)))), (fun _ v => v = .pointer (some ⟨g3, 1, none⟩)), (fun _ v => v = .slice ad2 n2 c2), (fun w v => Rr w v ((z1 : Rat) / (z2 : Rat)) (k))] [] (by decide +kernel) (by decide +kernel) rfl rfl rfl ⟨(Mb.eq _), (Mb.eq _), (Mb.eq _), (Mb.eq _), (Mb.eq _), (Mb.eq _), (Mb.eq _), (fun _ _ _ h hb => h.below hb), (Mb.eq _), (Mb.eq _), (fun _ _ _ h hb => h.below hb), trivial⟩ trivial ⟨?_, ?_, ?_, ?_, ?_, ?_, ?_, ?_, ?_, ?_, ?_, trivial⟩ ?_
      · intro a' w' hF' hb hd
        exact if_does (wanted_free rfl) (Does.vals (r_field (hF'.at 12 rfl) (fa_RInt_0 (p := 0) rfl)) ⟨rfl, Below.refl _ _, (fun h => absurd h (by decide))⟩)
      · intro a' w' hF' hb hd
        have e18 : a'.tmps.getD 18 undef = .pointer (some ⟨g2, 0, none⟩) := hd _ 18 (Array.mem_of_getElem? (i := 0) rfl) rfl rfl
        exact if_does (wanted_free rfl) (Does.vals (r_load e18 (ld_bool (v := .bool b1) (o2.below hb) rfl)) ⟨rfl, Below.refl _ _, (fun h => absurd h (by decide))⟩)
      · intro a' w' hF' hb hd
        exact if_does (wanted_free rfl) (Does.vals (r_field (hF'.at 11 rfl) (fa_RInt_0 (p := 0) rfl)) ⟨rfl, Below.refl _ _, (fun h => absurd h (by decide))⟩)
      · intro a' w' hF' hb hd
        have e20 : a'.tmps.getD 20 undef = .pointer (some ⟨g3, 0, none⟩) := hd _ 20 (Array.mem_of_getElem? (i := 0) rfl) rfl rfl
        exact if_does (wanted_free rfl) (Does.vals (r_load e20 (ld_bool (v := .bool b2) (o3.below hb) rfl)) ⟨rfl, Below.refl _ _, (fun h => absurd h (by decide))⟩)
      · intro a' w' hF' hb hd
        have e19 : a'.tmps.getD 19 undef = .bool b1 := hd _ 19 (Array.mem_of_getElem? (i := 0) rfl) rfl rfl
        have e21 : a'.tmps.getD 21 undef = .bool b2 := hd _ 21 (Array.mem_of_getElem? (i := 1) rfl) rfl rfl
        exact if_does (wanted_free rfl) (Does.vals (r_bin e19 e21 eg_bool (bb_neq (d := (b1 != b2)) rfl)) ⟨rfl, Below.refl _ _, (fun h => absurd h (by decide))⟩)
      · intro a' w' hF' hb hd
        exact if_does (wanted_free rfl) (Does.vals (r_field (hF'.at 12 rfl) (fa_RInt_1 (p := 1) rfl)) ⟨rfl, Below.refl _ _, (fun h => absurd h (by decide))⟩)
      · intro a' w' hF' hb hd
        have e23 : a'.tmps.getD 23 undef = .pointer (some ⟨g2, 1, none⟩) := hd _ 23 (Array.mem_of_getElem? (i := 0) rfl) rfl rfl
        exact if_does (wanted_free rfl) (Does.vals (r_load e23 (ld_Num (v := .slice ad1 n1 c1) (o2.below hb) rfl)) ⟨rfl, Below.refl _ _, (fun h => absurd h (by decide))⟩)
      · intro a' w' hF' hb hd
        have e22 : a'.tmps.getD 22 undef = .bool (b1 != b2) := hd _ 22 (Array.mem_of_getElem? (i := 0) rfl) rfl rfl
        have e24 : a'.tmps.getD 24 undef = .slice ad1 n1 c1 := hd _ 24 (Array.mem_of_getElem? (i := 1) rfl) rfl rfl
        refine if_does (wanted_free rfl) (Does.calls (r_call Tryz.func42 en42.1 en42.2 (map2 e22 e24)) (rmake_any _ _ (Int.natAbs (z1)) _ (ha1.below hb)) ?_)
        rintro e w'' ⟨v', rfl, h', bb⟩
        exact ⟨_, rfl, h', bb, (fun h => absurd h (by decide))⟩
      · intro a' w' hF' hb hd
        exact if_does (wanted_free rfl) (Does.vals (r_field (hF'.at 11 rfl) (fa_RInt_1 (p := 1) rfl)) ⟨rfl, Below.refl _ _, (fun h => absurd h (by decide))⟩)
      · intro a' w' hF' hb hd
        have e26 : a'.tmps.getD 26 undef = .pointer (some ⟨g3, 1, none⟩) := hd _ 26 (Array.mem_of_getElem? (i := 0) rfl) rfl rfl
        exact if_does (wanted_free rfl) (Does.vals (r_load e26 (ld_Num (v := .slice ad2 n2 c2) (o3.below hb) rfl)) ⟨rfl, Below.refl _ _, (fun h => absurd h (by decide))⟩)
      · intro a' w' hF' hb hd
        obtain ⟨v25_0, e25, h25_1⟩ : ∃ v, a'.tmps.getD 25 undef = v ∧ Rz w' v (sg ((b1 != b2)) (Int.natAbs (z1))) := ⟨_, rfl, hd _ 25 (Array.mem_of_getElem? (i := 0) rfl) rfl rfl⟩
        have e27 : a'.tmps.getD 27 undef = .slice ad2 n2 c2 := hd _ 27 (Array.mem_of_getElem? (i := 1) rfl) rfl rfl
        obtain ⟨b4, ad4, n4, c4, rfl⟩ := Rz.form h25_1
        exact if_does (wanted_free rfl) (Does.vals (r_build (pair2 e25 e27) (bd_RRat_01 _ _ _ _ _ _ _ _)) ⟨(Rr.mk h25_1 (ha2.below hb) hD hq.out (sg_lim _ l1) l2), Below.refl _ _, (fun h => absurd h (by decide))⟩)
      intro a w5 hF bb hall hne
      obtain ⟨vv6, e28, hh7⟩ : ∃ v, a.tmps.getD 28 undef = v ∧ Rr w5 v ((z1 : Rat) / (z2 : Rat)) (k) := ⟨_, rfl, hall 10 28 rfl⟩
      clear hall hne
      replace o4 := o4.below bb
      replace bel := below_to bel bb
      clear bb
      obtain ⟨b8, ad8, n8, c8, ae8, m8, d8, z8, D8, rfl, hn8, hd8, hD8, hq8, lz8, lD8⟩ := Rr.shape hh7
      have ha8 := hn8.abs
      replace hF := hF.add e28
      clear e28
      obtain ⟨w9, hr, tu, on⟩ := st_RRat (vs := [.bool b8, .slice ad8 n8 c8, .slice ae8 m8 d8]) o4 rfl rfl (ocB (ocS (ocS oc0))) (niB (niS (niS ni0))) (o := 0) rfl
      have kp := tu.keep o4
      refine E.st hF (r_store (hF.at 11 rfl) (hF.at 0 rfl) (hr _ rfl)) rfl rfl fun a hF => ?_
      clear hr
      replace hh7 := hh7.keep kp
      replace hn8 := hn8.keep kp
      replace ha8 := ha8.keep kp
      replace hd8 := hd8.keep kp
      replace bel := tu.below bel ge4
      clear tu kp
      replace o4 := on
      clear on
      refine E.nil ?_
      refine wp_ret ?_
      refine bodyPost_ret (res_cell Tryz.results26 (hF.at 11 rfl) (ld_RRat (vs := [.bool b8, .slice ad8 n8 c8, .slice ae8 m8 d8]) o4 rfl rfl)) hF.dfr ?_
      exact ⟨_, rfl, hh7, bel⟩

set_option maxHeartbeats 1000000 in
theorem dMul_any (v1 v2 : Value) (q1 q2 : Rat) (k : Nat) (w : World) (h1 : Rr w v1 q1 k) (h2 : Rr w v2 q2 k) (hp : 1 ≤ k) (hk : k ≤ 20000) :
    Calls Tryz.prog 48 #[v1, v2] w (RrPost w (q1 * q2) (k + k)) := by
  obtain ⟨b1, ad1, n1, c1, ae1, m1, d1, z1, D1, rfl, hn1, hd1, hD1, hq1, lz1, lD1⟩ := h1.shape
  have h1 : Rr w (.agg #[.bool b1, .slice ad1 n1 c1, .slice ae1 m1 d1]) q1 k := ⟨_, _, _, _, _, _, _, _, _, rfl, hn1, hd1, hD1, hq1, lz1, lD1⟩
  have ha1 := hn1.abs
  have hb1 := hn1.neg
  replace hq1 := Lib.hid hq1
  obtain ⟨b2, ad2, n2, c2, ae2, m2, d2, z2, D2, rfl, hn2, hd2, hD2, hq2, lz2, lD2⟩ := h2.shape
  have h2 : Rr w (.agg #[.bool b2, .slice ad2 n2 c2, .slice ae2 m2 d2]) q2 k := ⟨_, _, _, _, _, _, _, _, _, rfl, hn2, hd2, hD2, hq2, lz2, lD2⟩
  have ha2 := hn2.abs
  have hb2 := hn2.neg
  replace hq2 := Lib.hid hq2
  have bel : Below w.heap.size w w := Below.refl _ _
  refine E.enter (nt := 17) (L := [(0, .agg #[.bool b1, .slice ad1 n1 c1, .slice ae1 m1 d1]), (1, .agg #[.bool b2, .slice ad2 n2 c2, .slice ae2 m2 d2])]) Tryz.func48 rfl rfl rfl (args_cons (i := 0) rfl (args_cons (i := 1) rfl args_nil)) ?_
  intro a hF
  refine wp_seq ?_
  refine E.seq ?_
  obtain ⟨g2, w1, ge2, hr, bb, o2⟩ := own_box (P := Tryz.prog) (w := w) (cs := [.bool b1, .slice ad1 n1 c1, .slice ae1 m1 d1]) (v := .agg #[.bool b1, .slice ad1 n1 c1, .slice ae1 m1 d1]) 39 rfl (niB (niS (niS ni0)))
  replace ge2 : w.heap.size ≤ g2 := by rw [← ge2]; exact bel.size
  refine E.opv hF (r_box (hF.at 0 rfl) hr) rfl rfl rfl rfl fun a hF => ?_
  clear hr
  replace h2 := h2.below bb
  replace hn2 := hn2.below bb
  replace ha2 := ha2.below bb
  replace hd2 := hd2.below bb
  replace h1 := h1.below bb
  replace hn1 := hn1.below bb
  replace ha1 := ha1.below bb
  replace hd1 := hd1.below bb
  replace bel := below_to bel bb
  clear bb
  obtain ⟨g3, w2, ge3, hr, bb, o3⟩ := own_box (P := Tryz.prog) (w := w1) (cs := [.bool b2, .slice ad2 n2 c2, .slice ae2 m2 d2]) (v := .agg #[.bool b2, .slice ad2 n2 c2, .slice ae2 m2 d2]) 39 rfl (niB (niS (niS ni0)))
  have ne2_3 : g2 ≠ g3 := by rw [← ge3]; exact o2.ne_new
  replace ge3 : w.heap.size ≤ g3 := by rw [← ge3]; exact bel.size
  refine E.opv hF (r_box (hF.at 2 rfl) hr) rfl rfl rfl rfl fun a hF => ?_
  clear hr
  replace ha1 := ha1.below bb
  replace hd1 := hd1.below bb
  replace h1 := h1.below bb
  replace hn1 := hn1.below bb
  replace h2 := h2.below bb
  replace hn2 := hn2.below bb
  replace ha2 := ha2.below bb
  replace hd2 := hd2.below bb
  replace o2 := o2.below bb
  replace bel := below_to bel bb
  clear bb
  obtain ⟨g4, w3, ge4, hr, bb, o4⟩ := own_alloc (P := Tryz.prog) (w := w2) (cs := [.bool false, .slice none 0 0, .slice none 0 0]) 39 ze_RRat rfl (niB (niS (niS ni0)))
  have ne2_4 : g2 ≠ g4 := by rw [← ge4]; exact o2.ne_new
  have ne3_4 : g3 ≠ g4 := by rw [← ge4]; exact o3.ne_new
  replace ge4 : w.heap.size ≤ g4 := by rw [← ge4]; exact bel.size
  refine E.opv hF (r_alloc hr) rfl rfl rfl rfl fun a hF => ?_
  clear hr
  replace ha1 := ha1.below bb
  replace hd1 := hd1.below bb
  replace h1 := h1.below bb
  replace hn1 := hn1.below bb
  replace ha2 := ha2.below bb
  replace hd2 := hd2.below bb
  replace h2 := h2.below bb
  replace hn2 := hn2.below bb
  replace o2 := o2.below bb
  replace o3 := o3.below bb
  replace bel := below_to bel bb
  clear bb
  refine E.nil ?_
  refine wp_seq ?_
  refine E.drawn 12 mixed hF [5, 6, 7, 8, 9, 10, 11, 12, 13, 14, 15, 16] [(fun _ v => v = .pointer (some ⟨g2, 0, none⟩)), (fun _ v => v = .agg #[.bool b1, .slice ad1 n1 c1]), (fun _ v => v = .pointer (some ⟨g3, 0, none⟩)), (fun _ v => v = .agg #[.bool b2, .slice ad2 n2 c2]), (fun w v => Rz w v (z1 * z2)), (fun _ v => v = .pointer (some ⟨g2, 2, none⟩)), (fun _ v => v = .slice ae1 m1 d1), (fun _ v => v = .pointer (some ⟨g3, 2, none⟩)), (fun _ v => v = .slice ae2 m2 d2), (fun w v => Dg w .i64 65536 v ((D1) * (D2))), (fun w v => Rz w v ((((D1) * (D2) : Nat) : Int))), (fun w v => Rr w v (((z1 * z2 : Int) : Rat) / (((((D1) * (D2) : Nat) : Int) : Int) : Rat)) ((k + k)))] [] (by decide +kernel) (by decide +kernel) rfl rfl rfl ⟨(Mb.eq _), (Mb.eq _), (Mb.eq _), (Mb.eq _), (fun _ _ _ h hb => h.below hb), (Mb.eq _), (Mb.eq _), (Mb.eq _), (Mb.eq _), (fun _ _ _ h hb => h.below hb), (fun _ _ _ h hb => h.below hb), (fun _ _ _ h hb => h.below hb), trivial⟩ trivial ⟨?_, ?_, ?_, ?_, ?_, ?_, ?_, ?_, ?_, ?_, ?_, ?_, trivial⟩ ?_
  · intro a' w' hF' hb hd
    exact if_does (wanted_free rfl) (Does.vals (r_field (hF'.at 2 rfl) (fa_RRat_0 (p := 0) rfl)) ⟨rfl, Below.refl _ _, (fun h => absurd h (by decide))⟩)
  · intro a' w' hF' hb hd
    have e5 : a'.tmps.getD 5 undef = .pointer (some ⟨g2, 0, none⟩) := hd _ 5 (Array.mem_of_getElem? (i := 0) rfl) rfl rfl
    exact if_does (wanted_free rfl) (Does.vals (r_load e5 (ld_RInt (vs := [.bool b1, .slice ad1 n1 c1]) (o2.below hb) rfl rfl)) ⟨rfl, Below.refl _ _, (fun h => absurd h (by decide))⟩)
  · intro a' w' hF' hb hd
    exact if_does (wanted_free rfl) (Does.vals (r_field (hF'.at 1 rfl) (fa_RRat_0 (p := 0) rfl)) ⟨rfl, Below.refl _ _, (fun h => absurd h (by decide))⟩)
  · intro a' w' hF' hb hd
    have e7 : a'.tmps.getD 7 undef = .pointer (some ⟨g3, 0, none⟩) := hd _ 7 (Array.mem_of_getElem? (i := 0) rfl) rfl rfl
    exact if_does (wanted_free rfl) (Does.vals (r_load e7 (ld_RInt (vs := [.bool b2, .slice ad2 n2 c2]) (o3.below hb) rfl rfl)) ⟨rfl, Below.refl _ _, (fun h => absurd h (by decide))⟩)
  · intro a' w' hF' hb hd
    have e6 : a'.tmps.getD 6 undef = .agg #[.bool b1, .slice ad1 n1 c1] := hd _ 6 (Array.mem_of_getElem? (i := 0) rfl) rfl rfl
    have e8 : a'.tmps.getD 8 undef = .agg #[.bool b2, .slice ad2 n2 c2] := hd _ 8 (Array.mem_of_getElem? (i := 1) rfl) rfl rfl
    refine if_does (wanted_free rfl) (Does.calls (r_call Tryz.func45 en45.1 en45.2 (map2 e6 e8)) (rmul_any _ _ _ _ k k _ (hn1.below hb) (hn2.below hb) lz1 lz2 (by omega) (by omega)) ?_)
    rintro e w'' ⟨v', rfl, h', bb⟩
    exact ⟨_, rfl, h', bb, (fun h => absurd h (by decide))⟩
  · intro a' w' hF' hb hd
    exact if_does (wanted_free rfl) (Does.vals (r_field (hF'.at 2 rfl) (fa_RRat_1 (p := 2) rfl)) ⟨rfl, Below.refl _ _, (fun h => absurd h (by decide))⟩)
  · intro a' w' hF' hb hd
    have e10 : a'.tmps.getD 10 undef = .pointer (some ⟨g2, 2, none⟩) := hd _ 10 (Array.mem_of_getElem? (i := 0) rfl) rfl rfl
    exact if_does (wanted_free rfl) (Does.vals (r_load e10 (ld_Num (v := .slice ae1 m1 d1) (o2.below hb) rfl)) ⟨rfl, Below.refl _ _, (fun h => absurd h (by decide))⟩)
  · intro a' w' hF' hb hd
    exact if_does (wanted_free rfl) (Does.vals (r_field (hF'.at 1 rfl) (fa_RRat_1 (p := 2) rfl)) ⟨rfl, Below.refl _ _, (fun h => absurd h (by decide))⟩)
  · intro a' w' hF' hb hd
    have e12 : a'.tmps.getD 12 undef = .pointer (some ⟨g3, 2, none⟩) := hd _ 12 (Array.mem_of_getElem? (i := 0) rfl) rfl rfl
    exact if_does (wanted_free rfl) (Does.vals (r_load e12 (ld_Num (v := .slice ae2 m2 d2) (o3.below hb) rfl)) ⟨rfl, Below.refl _ _, (fun h => absurd h (by decide))⟩)
  · intro a' w' hF' hb hd
    have e11 : a'.tmps.getD 11 undef = .slice ae1 m1 d1 := hd _ 11 (Array.mem_of_getElem? (i := 0) rfl) rfl rfl
    have e13 : a'.tmps.getD 13 undef = .slice ae2 m2 d2 := hd _ 13 (Array.mem_of_getElem? (i := 1) rfl) rfl rfl
    refine if_does (wanted_free rfl) (Does.calls (r_call Tryz.func78 en78.1 en78.2 (map2 e11 e13)) (smul_any _ _ D1 D2 _ (hd1.below hb) (hd2.below hb) (Lim.dh lD1 _ (by omega)) (Lim.dh lD2 _ (by omega))) ?_)
    rintro e w'' ⟨v', rfl, h', bb⟩
    exact ⟨_, rfl, h', bb, (fun h => absurd h (by decide))⟩
  · intro a' w' hF' hb hd
    obtain ⟨v14_0, e14, h14_1⟩ : ∃ v, a'.tmps.getD 14 undef = v ∧ Dg w' .i64 65536 v ((D1) * (D2)) := ⟨_, rfl, hd _ 14 (Array.mem_of_getElem? (i := 0) rfl) rfl rfl⟩
    obtain ⟨ad4, n4, c4, rfl⟩ := Dg.form h14_1
    exact if_does (wanted_free rfl) (Does.vals (r_build (pair1 e14) (bd_RInt_1 _ _ _ _)) ⟨(Rz.nat h14_1), Below.refl _ _, (fun h => absurd h (by decide))⟩)
  · intro a' w' hF' hb hd
    obtain ⟨v9_0, e9, h9_1⟩ : ∃ v, a'.tmps.getD 9 undef = v ∧ Rz w' v (z1 * z2) := ⟨_, rfl, hd _ 9 (Array.mem_of_getElem? (i := 0) rfl) rfl rfl⟩
    obtain ⟨v15, e15, h15⟩ : ∃ v, a'.tmps.getD 15 undef = v ∧ Rz w' v ((((D1) * (D2) : Nat) : Int)) := ⟨_, rfl, hd _ 15 (Array.mem_of_getElem? (i := 1) rfl) rfl rfl⟩
    refine if_does (wanted_free rfl) (Does.calls (r_call Tryz.func26 en26.1 en26.2 (map2 e9 e15)) (dmk_any _ _ (z1 * z2) ((((D1) * (D2) : Nat) : Int)) (k + k) _ h9_1 h15 (Lim.up (limz_mul lz1 lz2) _ (by omega)) (Lim.up (lim_cast (Lim.mul lD1 lD2)) _ (by omega)) (by omega)) ?_)
    rintro e w'' ⟨v', rfl, h', bb⟩
    exact ⟨_, rfl, h', bb, (fun h => absurd h (by decide))⟩
  intro a w5 hF bb hall hne
  obtain ⟨vv6, e16, hh7⟩ : ∃ v, a.tmps.getD 16 undef = v ∧ Rr w5 v (((z1 * z2 : Int) : Rat) / (((((D1) * (D2) : Nat) : Int) : Int) : Rat)) ((k + k)) := ⟨_, rfl, hall 11 16 rfl⟩
  clear hall hne
  replace o4 := o4.below bb
  replace bel := below_to bel bb
  clear bb
  obtain ⟨b8, ad8, n8, c8, ae8, m8, d8, z8, D8, rfl, hn8, hd8, hD8, hq8, lz8, lD8⟩ := Rr.shape hh7
  have ha8 := hn8.abs
  replace hF := hF.add e16
  clear e16
  obtain ⟨w9, hr, tu, on⟩ := st_RRat (vs := [.bool b8, .slice ad8 n8 c8, .slice ae8 m8 d8]) o4 rfl rfl (ocB (ocS (ocS oc0))) (niB (niS (niS ni0))) (o := 0) rfl
  have kp := tu.keep o4
  refine E.st hF (r_store (hF.at 1 rfl) (hF.at 0 rfl) (hr _ rfl)) rfl rfl fun a hF => ?_
  clear hr
  replace hh7 := hh7.keep kp
  replace hn8 := hn8.keep kp
  replace ha8 := ha8.keep kp
  replace hd8 := hd8.keep kp
  replace bel := tu.below bel ge4
  clear tu kp
  replace o4 := on
  clear on
  refine E.nil ?_
  refine wp_ret ?_
  refine bodyPost_ret (res_cell Tryz.results48 (hF.at 1 rfl) (ld_RRat (vs := [.bool b8, .slice ad8 n8 c8, .slice ae8 m8 d8]) o4 rfl rfl)) hF.dfr ?_
  exact ⟨_, rfl, Rr.cast (Rr.up hh7 _ (by omega)) (by rw [hq1.out, hq2.out]; exact rmul_eq hD1 hD2), bel⟩

set_option maxHeartbeats 1000000 in
theorem dDiv_any (v1 v2 : Value) (q1 q2 : Rat) (k : Nat) (w : World) (h1 : Rr w v1 q1 k) (h2 : Rr w v2 q2 k) (hp : 1 ≤ k) (hk : k ≤ 20000) :
    Calls Tryz.prog 52 #[v1, v2] w (RrPost w (q1 / q2) (k + k)) := by
  obtain ⟨b1, ad1, n1, c1, ae1, m1, d1, z1, D1, rfl, hn1, hd1, hD1, hq1, lz1, lD1⟩ := h1.shape
  have h1 : Rr w (.agg #[.bool b1, .slice ad1 n1 c1, .slice ae1 m1 d1]) q1 k := ⟨_, _, _, _, _, _, _, _, _, rfl, hn1, hd1, hD1, hq1, lz1, lD1⟩
  have ha1 := hn1.abs
  have hb1 := hn1.neg
  replace hq1 := Lib.hid hq1
  obtain ⟨b2, ad2, n2, c2, ae2, m2, d2, z2, D2, rfl, hn2, hd2, hD2, hq2, lz2, lD2⟩ := h2.shape
  have h2 : Rr w (.agg #[.bool b2, .slice ad2 n2 c2, .slice ae2 m2 d2]) q2 k := ⟨_, _, _, _, _, _, _, _, _, rfl, hn2, hd2, hD2, hq2, lz2, lD2⟩
  have ha2 := hn2.abs
  have hb2 := hn2.neg
  replace hq2 := Lib.hid hq2
  have bel : Below w.heap.size w w := Below.refl _ _
  refine E.enter (nt := 18) (L := [(0, .agg #[.bool b1, .slice ad1 n1 c1, .slice ae1 m1 d1]), (1, .agg #[.bool b2, .slice ad2 n2 c2, .slice ae2 m2 d2])]) Tryz.func52 rfl rfl rfl (args_cons (i := 0) rfl (args_cons (i := 1) rfl args_nil)) ?_
  intro a hF
  refine wp_seq ?_
  refine E.seq ?_
  obtain ⟨g2, w1, ge2, hr, bb, o2⟩ := own_box (P := Tryz.prog) (w := w) (cs := [.bool b1, .slice ad1 n1 c1, .slice ae1 m1 d1]) (v := .agg #[.bool b1, .slice ad1 n1 c1, .slice ae1 m1 d1]) 39 rfl (niB (niS (niS ni0)))
  replace ge2 : w.heap.size ≤ g2 := by rw [← ge2]; exact bel.size
  refine E.opv hF (r_box (hF.at 0 rfl) hr) rfl rfl rfl rfl fun a hF => ?_
  clear hr
  replace h2 := h2.below bb
  replace hn2 := hn2.below bb
  replace ha2 := ha2.below bb
  replace hd2 := hd2.below bb
  replace h1 := h1.below bb
  replace hn1 := hn1.below bb
  replace ha1 := ha1.below bb
  replace hd1 := hd1.below bb
  replace bel := below_to bel bb
  clear bb
  obtain ⟨g3, w2, ge3, hr, bb, o3⟩ := own_box (P := Tryz.prog) (w := w1) (cs := [.bool b2, .slice ad2 n2 c2, .slice ae2 m2 d2]) (v := .agg #[.bool b2, .slice ad2 n2 c2, .slice ae2 m2 d2]) 39 rfl (niB (niS (niS ni0)))
  have ne2_3 : g2 ≠ g3 := by rw [← ge3]; exact o2.ne_new
  replace ge3 : w.heap.size ≤ g3 := by rw [← ge3]; exact bel.size
  refine E.opv hF (r_box (hF.at 2 rfl) hr) rfl rfl rfl rfl fun a hF => ?_
  clear hr
  replace ha1 := ha1.below bb
  replace hd1 := hd1.below bb
  replace h1 := h1.below bb
  replace hn1 := hn1.below bb
  replace h2 := h2.below bb
  replace hn2 := hn2.below bb
  replace ha2 := ha2.below bb
  replace hd2 := hd2.below bb
  replace o2 := o2.below bb
  replace bel := below_to bel bb
  clear bb
  obtain ⟨g4, w3, ge4, hr, bb, o4⟩ := own_alloc (P := Tryz.prog) (w := w2) (cs := [.bool false, .slice none 0 0, .slice none 0 0]) 39 ze_RRat rfl (niB (niS (niS ni0)))
  have ne2_4 : g2 ≠ g4 := by rw [← ge4]; exact o2.ne_new
  have ne3_4 : g3 ≠ g4 := by rw [← ge4]; exact o3.ne_new
  replace ge4 : w.heap.size ≤ g4 := by rw [← ge4]; exact bel.size
  refine E.opv hF (r_alloc hr) rfl rfl rfl rfl fun a hF => ?_
  clear hr
  replace ha1 := ha1.below bb
  replace hd1 := hd1.below bb
  replace h1 := h1.below bb
  replace hn1 := hn1.below bb
  replace ha2 := ha2.below bb
  replace hd2 := hd2.below bb
  replace h2 := h2.below bb
  replace hn2 := hn2.below bb
  replace o2 := o2.below bb
  replace o3 := o3.below bb
  replace bel := below_to bel bb
  clear bb
  refine E.nil ?_
  refine wp_seq ?_
  refine E.drawn 13 mixed hF [5, 6, 7, 8, 9, 10, 11, 12, 13, 14, 15, 16, 17] [(fun _ v => v = .pointer (some ⟨g2, 0, none⟩)), (fun _ v => v = .agg #[.bool b1, .slice ad1 n1 c1]), (fun _ v => v = .pointer (some ⟨g3, 2, none⟩)), (fun _ v => v = .slice ae2 m2 d2), (fun _ v => v = .agg #[.bool false, .slice ae2 m2 d2]), (fun w v => Rz w v (z1 * (((D2 : Nat) : Int)))), (fun _ v => v = .pointer (some ⟨g2, 2, none⟩)), (fun _ v => v = .slice ae1 m1 d1), (fun _ v => v = .agg #[.bool false, .slice ae1 m1 d1]), (fun _ v => v = .pointer (some ⟨g3, 0, none⟩)), (fun _ v => v = .agg #[.bool b2, .slice ad2 n2 c2]), (fun w v => Rz w v ((((D1 : Nat) : Int)) * z2)), (fun w v => Rr w v (((z1 * (((D2 : Nat) : Int)) : Int) : Rat) / (((((D1 : Nat) : Int)) * z2 : Int) : Rat)) ((k + k)))] [] (by decide +kernel) (by decide +kernel) rfl rfl rfl ⟨(Mb.eq _), (Mb.eq _), (Mb.eq _), (Mb.eq _), (Mb.eq _), (fun _ _ _ h hb => h.below hb), (Mb.eq _), (Mb.eq _), (Mb.eq _), (Mb.eq _), (Mb.eq _), (fun _ _ _ h hb => h.below hb), (fun _ _ _ h hb => h.below hb), trivial⟩ trivial ⟨?_, ?_, ?_, ?_, ?_, ?_, ?_, ?_, ?_, ?_, ?_, ?_, ?_, trivial⟩ ?_
  · intro a' w' hF' hb hd
    exact if_does (wanted_free rfl) (Does.vals (r_field (hF'.at 2 rfl) (fa_RRat_0 (p := 0) rfl)) ⟨rfl, Below.refl _ _, (fun h => absurd h (by decide))⟩)
  · intro a' w' hF' hb hd
    have e5 : a'.tmps.getD 5 undef = .pointer (some ⟨g2, 0, none⟩) := hd _ 5 (Array.mem_of_getElem? (i := 0) rfl) rfl rfl
    exact if_does (wanted_free rfl) (Does.vals (r_load e5 (ld_RInt (vs := [.bool b1, .slice ad1 n1 c1]) (o2.below hb) rfl rfl)) ⟨rfl, Below.refl _ _, (fun h => absurd h (by decide))⟩)
  · intro a' w' hF' hb hd
    exact if_does (wanted_free rfl) (Does.vals (r_field (hF'.at 1 rfl) (fa_RRat_1 (p := 2) rfl)) ⟨rfl, Below.refl _ _, (fun h => absurd h (by decide))⟩)
  · intro a' w' hF' hb hd
    have e7 : a'.tmps.getD 7 undef = .pointer (some ⟨g3, 2, none⟩) := hd _ 7 (Array.mem_of_getElem? (i := 0) rfl) rfl rfl
    exact if_does (wanted_free rfl) (Does.vals (r_load e7 (ld_Num (v := .slice ae2 m2 d2) (o3.below hb) rfl)) ⟨rfl, Below.refl _ _, (fun h => absurd h (by decide))⟩)
  · intro a' w' hF' hb hd
    have e8 : a'.tmps.getD 8 undef = .slice ae2 m2 d2 := hd _ 8 (Array.mem_of_getElem? (i := 0) rfl) rfl rfl
    exact if_does (wanted_free rfl) (Does.vals (r_build (pair1 e8) (bd_RInt_1 _ _ _ _)) ⟨rfl, Below.refl _ _, (fun h => absurd h (by decide))⟩)
  · intro a' w' hF' hb hd
    have e6 : a'.tmps.getD 6 undef = .agg #[.bool b1, .slice ad1 n1 c1] := hd _ 6 (Array.mem_of_getElem? (i := 0) rfl) rfl rfl
    have e9 : a'.tmps.getD 9 undef = .agg #[.bool false, .slice ae2 m2 d2] := hd _ 9 (Array.mem_of_getElem? (i := 1) rfl) rfl rfl
    refine if_does (wanted_free rfl) (Does.calls (r_call Tryz.func45 en45.1 en45.2 (map2 e6 e9)) (rmul_any _ _ _ _ k k _ (hn1.below hb) (Rz.nat (hd2.below hb)) lz1 (lim_cast lD2) (by omega) (by omega)) ?_)
    rintro e w'' ⟨v', rfl, h', bb⟩
    exact ⟨_, rfl, h', bb, (fun h => absurd h (by decide))⟩
  · intro a' w' hF' hb hd
    exact if_does (wanted_free rfl) (Does.vals (r_field (hF'.at 2 rfl) (fa_RRat_1 (p := 2) rfl)) ⟨rfl, Below.refl _ _, (fun h => absurd h (by decide))⟩)
  · intro a' w' hF' hb hd
    have e11 : a'.tmps.getD 11 undef = .pointer (some ⟨g2, 2, none⟩) := hd _ 11 (Array.mem_of_getElem? (i := 0) rfl) rfl rfl
    exact if_does (wanted_free rfl) (Does.vals (r_load e11 (ld_Num (v := .slice ae1 m1 d1) (o2.below hb) rfl)) ⟨rfl, Below.refl _ _, (fun h => absurd h (by decide))⟩)
  · intro a' w' hF' hb hd
    have e12 : a'.tmps.getD 12 undef = .slice ae1 m1 d1 := hd _ 12 (Array.mem_of_getElem? (i := 0) rfl) rfl rfl
    exact if_does (wanted_free rfl) (Does.vals (r_build (pair1 e12) (bd_RInt_1 _ _ _ _)) ⟨rfl, Below.refl _ _, (fun h => absurd h (by decide))⟩)
  · intro a' w' hF' hb hd
    exact if_does (wanted_free rfl) (Does.vals (r_field (hF'.at 1 rfl) (fa_RRat_0 (p := 0) rfl)) ⟨rfl, Below.refl _ _, (fun h => absurd h (by decide))⟩)
  · intro a' w' hF' hb hd
    have e14 : a'.tmps.getD 14 undef = .pointer (some ⟨g3, 0, none⟩) := hd _ 14 (Array.mem_of_getElem? (i := 0) rfl) rfl rfl
    exact if_does (wanted_free rfl) (Does.vals (r_load e14 (ld_RInt (vs := [.bool b2, .slice ad2 n2 c2]) (o3.below hb) rfl rfl)) ⟨rfl, Below.refl _ _, (fun h => absurd h (by decide))⟩)
  · intro a' w' hF' hb hd
    have e13 : a'.tmps.getD 13 undef = .agg #[.bool false, .slice ae1 m1 d1] := hd _ 13 (Array.mem_of_getElem? (i := 0) rfl) rfl rfl
    have e15 : a'.tmps.getD 15 undef = .agg #[.bool b2, .slice ad2 n2 c2] := hd _ 15 (Array.mem_of_getElem? (i := 1) rfl) rfl rfl
    refine if_does (wanted_free rfl) (Does.calls (r_call Tryz.func45 en45.1 en45.2 (map2 e13 e15)) (rmul_any _ _ _ _ k k _ (Rz.nat (hd1.below hb)) (hn2.below hb) (lim_cast lD1) lz2 (by omega) (by omega)) ?_)
    rintro e w'' ⟨v', rfl, h', bb⟩
    exact ⟨_, rfl, h', bb, (fun h => absurd h (by decide))⟩
  · intro a' w' hF' hb hd
    obtain ⟨v10_0, e10, h10_1⟩ : ∃ v, a'.tmps.getD 10 undef = v ∧ Rz w' v (z1 * (((D2 : Nat) : Int))) := ⟨_, rfl, hd _ 10 (Array.mem_of_getElem? (i := 0) rfl) rfl rfl⟩
    obtain ⟨v16_0, e16, h16_1⟩ : ∃ v, a'.tmps.getD 16 undef = v ∧ Rz w' v ((((D1 : Nat) : Int)) * z2) := ⟨_, rfl, hd _ 16 (Array.mem_of_getElem? (i := 1) rfl) rfl rfl⟩
    refine if_does (wanted_free rfl) (Does.calls (r_call Tryz.func26 en26.1 en26.2 (map2 e10 e16)) (dmk_any _ _ (z1 * (((D2 : Nat) : Int))) ((((D1 : Nat) : Int)) * z2) (k + k) _ h10_1 h16_1 (Lim.up (limz_mul lz1 (lim_cast lD2)) _ (by omega)) (Lim.up (limz_mul (lim_cast lD1) lz2) _ (by omega)) (by omega)) ?_)
    rintro e w'' ⟨v', rfl, h', bb⟩
    exact ⟨_, rfl, h', bb, (fun h => absurd h (by decide))⟩
  intro a w4 hF bb hall hne
  obtain ⟨vv5, e17, hh6⟩ : ∃ v, a.tmps.getD 17 undef = v ∧ Rr w4 v (((z1 * (((D2 : Nat) : Int)) : Int) : Rat) / (((((D1 : Nat) : Int)) * z2 : Int) : Rat)) ((k + k)) := ⟨_, rfl, hall 12 17 rfl⟩
  clear hall hne
  replace o4 := o4.below bb
  replace bel := below_to bel bb
  clear bb
  obtain ⟨b7, ad7, n7, c7, ae7, m7, d7, z7, D7, rfl, hn7, hd7, hD7, hq7, lz7, lD7⟩ := Rr.shape hh6
  have ha7 := hn7.abs
  replace hF := hF.add e17
  clear e17
  obtain ⟨w8, hr, tu, on⟩ := st_RRat (vs := [.bool b7, .slice ad7 n7 c7, .slice ae7 m7 d7]) o4 rfl rfl (ocB (ocS (ocS oc0))) (niB (niS (niS ni0))) (o := 0) rfl
  have kp := tu.keep o4
  refine E.st hF (r_store (hF.at 1 rfl) (hF.at 0 rfl) (hr _ rfl)) rfl rfl fun a hF => ?_
  clear hr
  replace hh6 := hh6.keep kp
  replace hn7 := hn7.keep kp
  replace ha7 := ha7.keep kp
  replace hd7 := hd7.keep kp
  replace bel := tu.below bel ge4
  clear tu kp
  replace o4 := on
  clear on
  refine E.nil ?_
  refine wp_ret ?_
  refine bodyPost_ret (res_cell Tryz.results52 (hF.at 1 rfl) (ld_RRat (vs := [.bool b7, .slice ad7 n7 c7, .slice ae7 m7 d7]) o4 rfl rfl)) hF.dfr ?_
  exact ⟨_, rfl, Rr.cast (Rr.up hh6 _ (by omega)) (by rw [hq1.out, hq2.out]; exact rdiv_eq hD1 hD2), bel⟩

set_option maxHeartbeats 1000000 in
theorem dOpp_any (v1 : Value) (q1 : Rat) (k : Nat) (w : World) (h1 : Rr w v1 q1 k) :
    Calls Tryz.prog 79 #[v1] w (RrPost w (-q1) k) := by
  obtain ⟨b1, ad1, n1, c1, ae1, m1, d1, z1, D1, rfl, hn1, hd1, hD1, hq1, lz1, lD1⟩ := h1.shape
  have h1 : Rr w (.agg #[.bool b1, .slice ad1 n1 c1, .slice ae1 m1 d1]) q1 k := ⟨_, _, _, _, _, _, _, _, _, rfl, hn1, hd1, hD1, hq1, lz1, lD1⟩
  have ha1 := hn1.abs
  have hb1 := hn1.neg
  replace hq1 := Lib.hid hq1
  have bel : Below w.heap.size w w := Below.refl _ _
  refine E.enter (nt := 9) (L := [(0, .agg #[.bool b1, .slice ad1 n1 c1, .slice ae1 m1 d1])]) Tryz.func79 rfl rfl rfl (args_cons (i := 0) rfl args_nil) ?_
  intro a hF
  refine wp_seq ?_
  refine E.seq ?_
  obtain ⟨g1, w1, ge1, hr, bb, o1⟩ := own_box (P := Tryz.prog) (w := w) (cs := [.bool b1, .slice ad1 n1 c1, .slice ae1 m1 d1]) (v := .agg #[.bool b1, .slice ad1 n1 c1, .slice ae1 m1 d1]) 39 rfl (niB (niS (niS ni0)))
  replace ge1 : w.heap.size ≤ g1 := by rw [← ge1]; exact bel.size
  refine E.opv hF (r_box (hF.at 0 rfl) hr) rfl rfl rfl rfl fun a hF => ?_
  clear hr
  replace h1 := h1.below bb
  replace hn1 := hn1.below bb
  replace ha1 := ha1.below bb
  replace hd1 := hd1.below bb
  replace bel := below_to bel bb
  clear bb
  obtain ⟨g2, w2, ge2, hr, bb, o2⟩ := own_alloc (P := Tryz.prog) (w := w1) (cs := [.bool false, .slice none 0 0, .slice none 0 0]) 39 ze_RRat rfl (niB (niS (niS ni0)))
  have ne1_2 : g1 ≠ g2 := by rw [← ge2]; exact o1.ne_new
  replace ge2 : w.heap.size ≤ g2 := by rw [← ge2]; exact bel.size
  refine E.opv hF (r_alloc hr) rfl rfl rfl rfl fun a hF => ?_
  clear hr
  replace ha1 := ha1.below bb
  replace hd1 := hd1.below bb
  replace h1 := h1.below bb
  replace hn1 := hn1.below bb
  replace o1 := o1.below bb
  replace bel := below_to bel bb
  clear bb
  refine E.nil ?_
  refine wp_seq ?_
  refine E.drawn 6 mixed hF [3, 4, 5, 6, 7, 8] [(fun _ v => v = .pointer (some ⟨g1, 0, none⟩)), (fun _ v => v = .agg #[.bool b1, .slice ad1 n1 c1]), (fun w v => Rz w v (-(z1))), (fun _ v => v = .pointer (some ⟨g1, 2, none⟩)), (fun _ v => v = .slice ae1 m1 d1), (fun w v => Rr w v (-q1) (k))] [] (by decide +kernel) (by decide +kernel) rfl rfl rfl ⟨(Mb.eq _), (Mb.eq _), (fun _ _ _ h hb => h.below hb), (Mb.eq _), (Mb.eq _), (fun _ _ _ h hb => h.below hb), trivial⟩ trivial ⟨?_, ?_, ?_, ?_, ?_, ?_, trivial⟩ ?_
  · intro a' w' hF' hb hd
    exact if_does (wanted_free rfl) (Does.vals (r_field (hF'.at 1 rfl) (fa_RRat_0 (p := 0) rfl)) ⟨rfl, Below.refl _ _, (fun h => absurd h (by decide))⟩)
  · intro a' w' hF' hb hd
    have e3 : a'.tmps.getD 3 undef = .pointer (some ⟨g1, 0, none⟩) := hd _ 3 (Array.mem_of_getElem? (i := 0) rfl) rfl rfl
    exact if_does (wanted_free rfl) (Does.vals (r_load e3 (ld_RInt (vs := [.bool b1, .slice ad1 n1 c1]) (o1.below hb) rfl rfl)) ⟨rfl, Below.refl _ _, (fun h => absurd h (by decide))⟩)
  · intro a' w' hF' hb hd
    have e4 : a'.tmps.getD 4 undef = .agg #[.bool b1, .slice ad1 n1 c1] := hd _ 4 (Array.mem_of_getElem? (i := 0) rfl) rfl rfl
    refine if_does (wanted_free rfl) (Does.calls (r_call Tryz.func77 en77.1 en77.2 (map1 e4)) (ropp_any _ _ _ (hn1.below hb)) ?_)
    rintro e w'' ⟨v', rfl, h', bb⟩
    exact ⟨_, rfl, h', bb, (fun h => absurd h (by decide))⟩
  · intro a' w' hF' hb hd
    exact if_does (wanted_free rfl) (Does.vals (r_field (hF'.at 1 rfl) (fa_RRat_1 (p := 2) rfl)) ⟨rfl, Below.refl _ _, (fun h => absurd h (by decide))⟩)
  · intro a' w' hF' hb hd
    have e6 : a'.tmps.getD 6 undef = .pointer (some ⟨g1, 2, none⟩) := hd _ 6 (Array.mem_of_getElem? (i := 0) rfl) rfl rfl
    exact if_does (wanted_free rfl) (Does.vals (r_load e6 (ld_Num (v := .slice ae1 m1 d1) (o1.below hb) rfl)) ⟨rfl, Below.refl _ _, (fun h => absurd h (by decide))⟩)
  · intro a' w' hF' hb hd
    obtain ⟨v5_0, e5, h5_1⟩ : ∃ v, a'.tmps.getD 5 undef = v ∧ Rz w' v (-(z1)) := ⟨_, rfl, hd _ 5 (Array.mem_of_getElem? (i := 0) rfl) rfl rfl⟩
    have e7 : a'.tmps.getD 7 undef = .slice ae1 m1 d1 := hd _ 7 (Array.mem_of_getElem? (i := 1) rfl) rfl rfl
    obtain ⟨b3, ad3, n3, c3, rfl⟩ := Rz.form h5_1
    exact if_does (wanted_free rfl) (Does.vals (r_build (pair2 e5 e7) (bd_RRat_01 _ _ _ _ _ _ _ _)) ⟨(Rr.mk h5_1 (hd1.below hb) hD1 (by rw [hq1.out, Rat.neg_mkRat]) (limz_neg lz1) lD1), Below.refl _ _, (fun h => absurd h (by decide))⟩)
  intro a w4 hF bb hall hne
  obtain ⟨vv5, e8, hh6⟩ : ∃ v, a.tmps.getD 8 undef = v ∧ Rr w4 v (-q1) (k) := ⟨_, rfl, hall 5 8 rfl⟩
  clear hall hne
  replace o2 := o2.below bb
  replace bel := below_to bel bb
  clear bb
  obtain ⟨b7, ad7, n7, c7, ae7, m7, d7, z7, D7, rfl, hn7, hd7, hD7, hq7, lz7, lD7⟩ := Rr.shape hh6
  have ha7 := hn7.abs
  replace hF := hF.add e8
  clear e8
  obtain ⟨w8, hr, tu, on⟩ := st_RRat (vs := [.bool b7, .slice ad7 n7 c7, .slice ae7 m7 d7]) o2 rfl rfl (ocB (ocS (ocS oc0))) (niB (niS (niS ni0))) (o := 0) rfl
  have kp := tu.keep o2
  refine E.st hF (r_store (hF.at 1 rfl) (hF.at 0 rfl) (hr _ rfl)) rfl rfl fun a hF => ?_
  clear hr
  replace hh6 := hh6.keep kp
  replace hn7 := hn7.keep kp
  replace ha7 := ha7.keep kp
  replace hd7 := hd7.keep kp
  replace bel := tu.below bel ge2
  clear tu kp
  replace o2 := on
  clear on
  refine E.nil ?_
  refine wp_ret ?_
  refine bodyPost_ret (res_cell Tryz.results79 (hF.at 1 rfl) (ld_RRat (vs := [.bool b7, .slice ad7 n7 c7, .slice ae7 m7 d7]) o2 rfl rfl)) hF.dfr ?_
  exact ⟨_, rfl, hh6, bel⟩

set_option maxHeartbeats 1000000 in
theorem dSgn_any (v1 : Value) (q1 : Rat) (k : Nat) (w : World) (h1 : Rr w v1 q1 k) :
    Calls Tryz.prog 51 #[v1] w (IntPost w (sz q1.num)) := by
  obtain ⟨b1, ad1, n1, c1, ae1, m1, d1, z1, D1, rfl, hn1, hd1, hD1, hq1, lz1, lD1⟩ := h1.shape
  have h1 : Rr w (.agg #[.bool b1, .slice ad1 n1 c1, .slice ae1 m1 d1]) q1 k := ⟨_, _, _, _, _, _, _, _, _, rfl, hn1, hd1, hD1, hq1, lz1, lD1⟩
  have ha1 := hn1.abs
  have hb1 := hn1.neg
  replace hq1 := Lib.hid hq1
  have bel : Below w.heap.size w w := Below.refl _ _
  refine E.enter (nt := 6) (L := [(0, .agg #[.bool b1, .slice ad1 n1 c1, .slice ae1 m1 d1])]) Tryz.func51 rfl rfl rfl (args_cons (i := 0) rfl args_nil) ?_
  intro a hF
  refine wp_seq ?_
  refine E.seq ?_
  obtain ⟨g1, w1, ge1, hr, bb, o1⟩ := own_box (P := Tryz.prog) (w := w) (cs := [.bool b1, .slice ad1 n1 c1, .slice ae1 m1 d1]) (v := .agg #[.bool b1, .slice ad1 n1 c1, .slice ae1 m1 d1]) 39 rfl (niB (niS (niS ni0)))
  replace ge1 : w.heap.size ≤ g1 := by rw [← ge1]; exact bel.size
  refine E.opv hF (r_box (hF.at 0 rfl) hr) rfl rfl rfl rfl fun a hF => ?_
  clear hr
  replace h1 := h1.below bb
  replace hn1 := hn1.below bb
  replace ha1 := ha1.below bb
  replace hd1 := hd1.below bb
  replace bel := below_to bel bb
  clear bb
  refine E.opv hF (r_assign ev_c) rfl rfl rfl rfl fun a hF => ?_
  refine E.nil ?_
  refine wp_seq ?_
  refine E.seq ?_
  refine E.opv hF (r_field (hF.at 1 rfl) (fa_RRat_0 (p := 0) rfl)) rfl rfl rfl rfl fun a hF => ?_
  refine E.opv hF (r_load (hF.at 0 rfl) (ld_RInt (vs := [.bool b1, .slice ad1 n1 c1]) o1 rfl rfl)) rfl rfl rfl rfl fun a hF => ?_
  refine E.call hF (r_call Tryz.func75 en75.1 en75.2 (map1 (hF.at 0 rfl))) (rsign_any _ _ _ hn1) rfl rfl rfl rfl ?_
  rintro e w2 ⟨rfl, bb⟩
  refine ⟨_, rfl, ?_⟩
  intro a hF
  replace bel := below_to bel bb
  clear bb
  refine E.opset (L' := [(2, .int .i64 (sz (z1))), (5, .int .i64 (sz (z1))), (4, .agg #[.bool b1, .slice ad1 n1 c1]), (3, .pointer (some ⟨g1, 0, none⟩)), (1, .pointer (some ⟨g1, 0, none⟩)), (0, .agg #[.bool b1, .slice ad1 n1 c1, .slice ae1 m1 d1])]) hF (r_assign (hF.at 0 rfl)) rfl rfl rfl rfl fun a hF => ?_
  refine E.nil ?_
  refine wp_ret ?_
  refine bodyPost_ret (res_tmp Tryz.results51 (hF.at 0 rfl)) hF.dfr ?_
  exact ⟨by rw [hq1.out, ← sz_mk hD1], bel⟩

theorem sz_neg {z : Int} : sz z < 0 ↔ z < 0 := by unfold sz; split <;> (try split) <;> omega
theorem abs_neg_of {q : Rat} (h : sz q.num < 0) : -q = Rat.abs q := by
  have h1 := sz_neg.1 h
  rw [Rat.abs_of_nonpos]
  exact Rat.not_lt.1 (fun h2 => by have := Rat.num_nonneg.2 (Rat.le_of_lt h2); omega)
theorem abs_pos_of {q : Rat} (h : ¬ sz q.num < 0) : q = Rat.abs q := by
  have h1 : 0 ≤ q.num := by 
    rcases Int.lt_or_le q.num 0 with e | e
    · exact absurd (sz_neg.2 e) h
    · exact e
  rw [Rat.abs_of_nonneg (Rat.num_nonneg.1 h1)]
theorem limz_64' {n : Int} (h0 : -9223372036854775808 < n) (h1 : n ≤ 9223372036854775807) : Lim n.natAbs 2 := Lim.of64 (by omega)
set_option maxHeartbeats 1000000 in
theorem dOf_any (n d : Int) (w : World) (b1 : -9223372036854775808 < n) (b2 : n ≤ 9223372036854775807) (b3 : -9223372036854775808 < d) (b4 : d ≤ 9223372036854775807) :
    Calls Tryz.prog 47 #[.int .i64 n, .int .i64 d] w (RrPost w ((n : Rat) / (d : Rat)) 2) := by
  have bel : Below w.heap.size w w := Below.refl _ _
  refine E.enter (nt := 10) (L := [(0, .int .i64 n), (1, .int .i64 d)]) Tryz.func47 rfl rfl rfl (args_cons (i := 0) rfl (args_cons (i := 1) rfl args_nil)) ?_
  intro a hF
  refine wp_seq ?_
  refine E.seq ?_
  obtain ⟨g4, w1, ge4, hr, bb, o4⟩ := own_alloc (P := Tryz.prog) (w := w) (cs := [.bool false, .slice none 0 0, .slice none 0 0]) 39 ze_RRat rfl (niB (niS (niS ni0)))
  replace ge4 : w.heap.size ≤ g4 := by rw [← ge4]; exact bel.size
  refine E.opv hF (r_alloc hr) rfl rfl rfl rfl fun a hF => ?_
  clear hr
  replace bel := below_to bel bb
  clear bb
  refine E.nil ?_
  refine wp_seq ?_
  refine E.seq ?_
  refine E.opv hF (r_move (hF.at 1 rfl)) rfl rfl rfl rfl fun a hF => ?_
  refine E.call hF (r_call Tryz.func80 en80.1 en80.2 (map1 (hF.at 0 rfl))) (rOf_any n _ b1 b2) rfl rfl rfl rfl ?_
  rintro e w2 ⟨vv3, rfl, hh4, bb⟩
  refine ⟨_, rfl, ?_⟩
  intro a hF
  replace o4 := o4.below bb
  replace bel := below_to bel bb
  clear bb
  obtain ⟨b5, ad5, n5, c5, rfl⟩ := Rz.form hh4
  refine E.opv hF (r_move (hF.at 4 rfl)) rfl rfl rfl rfl fun a hF => ?_
  refine E.call hF (r_call Tryz.func80 en80.1 en80.2 (map1 (hF.at 0 rfl))) (rOf_any d _ b3 b4) rfl rfl rfl rfl ?_
  rintro e w6 ⟨vv7, rfl, hh8, bb⟩
  refine ⟨_, rfl, ?_⟩
  intro a hF
  replace hh4 := hh4.below bb
  replace o4 := o4.below bb
  replace bel := below_to bel bb
  clear bb
  obtain ⟨b9, ad9, n9, c9, rfl⟩ := Rz.form hh8
  refine E.call hF (r_call Tryz.func26 en26.1 en26.2 (map2 (hF.at 2 rfl) (hF.at 0 rfl))) (dmk_any _ _ (n) (d) 2 _ hh4 hh8 (Lim.up (limz_64' b1 b2) _ (by omega)) (Lim.up (limz_64' b3 b4) _ (by omega)) (by omega)) rfl rfl rfl rfl ?_
  rintro e w10 ⟨vv11, rfl, hh12, bb⟩
  refine ⟨_, rfl, ?_⟩
  intro a hF
  replace o4 := o4.below bb
  replace bel := below_to bel bb
  clear bb
  obtain ⟨b13, ad13, n13, c13, ae13, m13, d13, z13, D13, rfl, hn13, hd13, hD13, hq13, lz13, lD13⟩ := Rr.shape hh12
  have ha13 := hn13.abs
  obtain ⟨w14, hr, tu, on⟩ := st_RRat (vs := [.bool b13, .slice ad13 n13 c13, .slice ae13 m13 d13]) o4 rfl rfl (ocB (ocS (ocS oc0))) (niB (niS (niS ni0))) (o := 0) rfl
  have kp := tu.keep o4
  refine E.st hF (r_store (hF.at 5 rfl) (hF.at 0 rfl) (hr _ rfl)) rfl rfl fun a hF => ?_
  clear hr
  replace hh12 := hh12.keep kp
  replace hn13 := hn13.keep kp
  replace ha13 := ha13.keep kp
  replace hd13 := hd13.keep kp
  replace bel := tu.below bel ge4
  clear tu kp
  replace o4 := on
  clear on
  refine E.nil ?_
  refine wp_ret ?_
  refine bodyPost_ret (res_cell Tryz.results47 (hF.at 5 rfl) (ld_RRat (vs := [.bool b13, .slice ad13 n13 c13, .slice ae13 m13 d13]) o4 rfl rfl)) hF.dfr ?_
  exact ⟨_, rfl, hh12, bel⟩

end Go.Proofs.YtmpdbkdijfpbbaaGreat

/- The document's sums and differences. -/
namespace Go.Proofs.YtmpdbkdijfpbbaaGreat
open Go.RowKit
set_option maxRecDepth 100000
set_option linter.unusedVariables false

set_option maxHeartbeats 1000000 in
theorem dAdd_any (v1 v2 : Value) (q1 q2 : Rat) (k : Nat) (w : World) (h1 : Rr w v1 q1 k) (h2 : Rr w v2 q2 k) (hp : 1 ≤ k) (hk : k ≤ 20000) :
    Calls Tryz.prog 65 #[v1, v2] w (RrPost w (q1 + q2) (k + k + 1)) := by
  obtain ⟨b1, ad1, n1, c1, ae1, m1, d1, z1, D1, rfl, hn1, hd1, hD1, hq1, lz1, lD1⟩ := h1.shape
  have h1 : Rr w (.agg #[.bool b1, .slice ad1 n1 c1, .slice ae1 m1 d1]) q1 k := ⟨_, _, _, _, _, _, _, _, _, rfl, hn1, hd1, hD1, hq1, lz1, lD1⟩
  have ha1 := hn1.abs
  have hb1 := hn1.neg
  replace hq1 := Lib.hid hq1
  obtain ⟨b2, ad2, n2, c2, ae2, m2, d2, z2, D2, rfl, hn2, hd2, hD2, hq2, lz2, lD2⟩ := h2.shape
  have h2 : Rr w (.agg #[.bool b2, .slice ad2 n2 c2, .slice ae2 m2 d2]) q2 k := ⟨_, _, _, _, _, _, _, _, _, rfl, hn2, hd2, hD2, hq2, lz2, lD2⟩
  have ha2 := hn2.abs
  have hb2 := hn2.neg
  replace hq2 := Lib.hid hq2
  have bel : Below w.heap.size w w := Below.refl _ _
  refine E.enter (nt := 26) (L := [(0, .agg #[.bool b1, .slice ad1 n1 c1, .slice ae1 m1 d1]), (1, .agg #[.bool b2, .slice ad2 n2 c2, .slice ae2 m2 d2])]) Tryz.func65 rfl rfl rfl (args_cons (i := 0) rfl (args_cons (i := 1) rfl args_nil)) ?_
  intro a hF
  refine wp_seq ?_
  refine E.seq ?_
  obtain ⟨g2, w1, ge2, hr, bb, o2⟩ := own_box (P := Tryz.prog) (w := w) (cs := [.bool b1, .slice ad1 n1 c1, .slice ae1 m1 d1]) (v := .agg #[.bool b1, .slice ad1 n1 c1, .slice ae1 m1 d1]) 39 rfl (niB (niS (niS ni0)))
  replace ge2 : w.heap.size ≤ g2 := by rw [← ge2]; exact bel.size
  refine E.opv hF (r_box (hF.at 0 rfl) hr) rfl rfl rfl rfl fun a hF => ?_
  clear hr
  replace h2 := h2.below bb
  replace hn2 := hn2.below bb
  replace ha2 := ha2.below bb
  replace hd2 := hd2.below bb
  replace h1 := h1.below bb
  replace hn1 := hn1.below bb
  replace ha1 := ha1.below bb
  replace hd1 := hd1.below bb
  replace bel := below_to bel bb
  clear bb
  obtain ⟨g3, w2, ge3, hr, bb, o3⟩ := own_box (P := Tryz.prog) (w := w1) (cs := [.bool b2, .slice ad2 n2 c2, .slice ae2 m2 d2]) (v := .agg #[.bool b2, .slice ad2 n2 c2, .slice ae2 m2 d2]) 39 rfl (niB (niS (niS ni0)))
  have ne2_3 : g2 ≠ g3 := by rw [← ge3]; exact o2.ne_new
  replace ge3 : w.heap.size ≤ g3 := by rw [← ge3]; exact bel.size
  refine E.opv hF (r_box (hF.at 2 rfl) hr) rfl rfl rfl rfl fun a hF => ?_
  clear hr
  replace ha1 := ha1.below bb
  replace hd1 := hd1.below bb
  replace h1 := h1.below bb
  replace hn1 := hn1.below bb
  replace h2 := h2.below bb
  replace hn2 := hn2.below bb
  replace ha2 := ha2.below bb
  replace hd2 := hd2.below bb
  replace o2 := o2.below bb
  replace bel := below_to bel bb
  clear bb
  obtain ⟨g4, w3, ge4, hr, bb, o4⟩ := own_alloc (P := Tryz.prog) (w := w2) (cs := [.bool false, .slice none 0 0, .slice none 0 0]) 39 ze_RRat rfl (niB (niS (niS ni0)))
  have ne2_4 : g2 ≠ g4 := by rw [← ge4]; exact o2.ne_new
  have ne3_4 : g3 ≠ g4 := by rw [← ge4]; exact o3.ne_new
  replace ge4 : w.heap.size ≤ g4 := by rw [← ge4]; exact bel.size
  refine E.opv hF (r_alloc hr) rfl rfl rfl rfl fun a hF => ?_
  clear hr
  replace ha1 := ha1.below bb
  replace hd1 := hd1.below bb
  replace h1 := h1.below bb
  replace hn1 := hn1.below bb
  replace ha2 := ha2.below bb
  replace hd2 := hd2.below bb
  replace h2 := h2.below bb
  replace hn2 := hn2.below bb
  replace o2 := o2.below bb
  replace o3 := o3.below bb
  replace bel := below_to bel bb
  clear bb
  refine E.nil ?_
  refine wp_seq ?_
  refine E.drawn2 9 mixed hF [some 7, some 8, some 9, some 10, some 11, some 12, some 5, some 6, none] [(fun _ v => v = .pointer (some ⟨g2, 2, none⟩)), (fun _ v => v = .slice ae1 m1 d1), (fun _ v => v = .agg #[.bool false, .slice ae1 m1 d1]), (fun _ v => v = .pointer (some ⟨g3, 2, none⟩)), (fun _ v => v = .slice ae2 m2 d2), (fun _ v => v = .agg #[.bool false, .slice ae2 m2 d2]), (fun _ _ => True), (fun _ _ => True), (fun _ _ => True)] [6, 7] [⟨8, 6, 2⟩] [[], [], [], [], [], [], [.bool false, .slice none 0 0], [.bool false, .slice none 0 0], []] (by decide +kernel) (by decide +kernel) rfl rfl rfl (by decide +kernel) (by decide +kernel) ⟨(Mk.eq _), (Mk.eq _), (Mk.eq _), (Mk.eq _), (Mk.eq _), (Mk.eq _), Mk.any, Mk.any, Mk.any, trivial⟩ ⟨?_, ?_, ?_, ?_, ?_, ?_, ?_, ?_, ?_, trivial⟩ ?_
  · refine step2_val rfl ?_
    intro a' w' hF' hb hd
    exact if_does (wanted_free rfl) (Does.vals (r_field (hF'.at 2 rfl) (fa_RRat_1 (p := 2) rfl)) ⟨fun _ => rfl, Below.refl _ _, (fun h => absurd h (by decide))⟩)
  · refine step2_val rfl ?_
    intro a' w' hF' hb hd
    have e7 : a'.tmps.getD 7 undef = .pointer (some ⟨g2, 2, none⟩) := hd _ 7 (Array.mem_of_getElem? (i := 0) rfl) rfl rfl rfl
    exact if_does (wanted_free rfl) (Does.vals (r_load e7 (ld_Num (v := .slice ae1 m1 d1) (o2.below hb) rfl)) ⟨fun _ => rfl, Below.refl _ _, (fun h => absurd h (by decide))⟩)
  · refine step2_val rfl ?_
    intro a' w' hF' hb hd
    have e8 : a'.tmps.getD 8 undef = .slice ae1 m1 d1 := hd _ 8 (Array.mem_of_getElem? (i := 0) rfl) rfl rfl rfl
    exact if_does (wanted_free rfl) (Does.vals (r_build (pair1 e8) (bd_RInt_1 _ _ _ _)) ⟨fun _ => rfl, Below.refl _ _, (fun h => absurd h (by decide))⟩)
  · refine step2_val rfl ?_
    intro a' w' hF' hb hd
    exact if_does (wanted_free rfl) (Does.vals (r_field (hF'.at 1 rfl) (fa_RRat_1 (p := 2) rfl)) ⟨fun _ => rfl, Below.refl _ _, (fun h => absurd h (by decide))⟩)
  · refine step2_val rfl ?_
    intro a' w' hF' hb hd
    have e10 : a'.tmps.getD 10 undef = .pointer (some ⟨g3, 2, none⟩) := hd _ 10 (Array.mem_of_getElem? (i := 0) rfl) rfl rfl rfl
    exact if_does (wanted_free rfl) (Does.vals (r_load e10 (ld_Num (v := .slice ae2 m2 d2) (o3.below hb) rfl)) ⟨fun _ => rfl, Below.refl _ _, (fun h => absurd h (by decide))⟩)
  · refine step2_val rfl ?_
    intro a' w' hF' hb hd
    have e11 : a'.tmps.getD 11 undef = .slice ae2 m2 d2 := hd _ 11 (Array.mem_of_getElem? (i := 0) rfl) rfl rfl rfl
    exact if_does (wanted_free rfl) (Does.vals (r_build (pair1 e11) (bd_RInt_1 _ _ _ _)) ⟨fun _ => rfl, Below.refl _ _, (fun h => absurd h (by decide))⟩)
  · refine step2_val rfl ?_
    intro a' w' hF' hb hd
    obtain ⟨g, w2, ge, hr, bb, on⟩ := own_alloc (P := Tryz.prog) (w := w') (cs := [.bool false, .slice none 0 0]) 37 ze_RInt rfl (niB (niS ni0))
    subst ge
    exact if_does (wanted_free rfl) (Does.vals (r_alloc hr) ⟨(fun h => absurd h (by decide)), bb, fun _ => ⟨rfl, on⟩⟩)
  · refine step2_val rfl ?_
    intro a' w' hF' hb hd
    obtain ⟨g, w2, ge, hr, bb, on⟩ := own_alloc (P := Tryz.prog) (w := w') (cs := [.bool false, .slice none 0 0]) 37 ze_RInt rfl (niB (niS ni0))
    subst ge
    exact if_does (wanted_free rfl) (Does.vals (r_alloc hr) ⟨(fun h => absurd h (by decide)), bb, fun _ => ⟨rfl, on⟩⟩)
  · exact step2_sto ⟨⟨8, 6, 2⟩, by simp, rfl⟩ (b := 6) (v := 2) rfl rfl rfl rfl rfl rfl sz_RInt rfl (by decide) (by decide) (fun _ _ h => ⟨[.bool false, .slice ae1 m1 d1], by rw [h]; rfl, rfl, (niB (niS ni0)), (ocB (ocS oc0))⟩)
  intro a w4 hF bb hall hblk hne
  have e9 : a.tmps.getD 9 undef = .agg #[.bool false, .slice ae1 m1 d1] := hall 2 9 (by decide) rfl
  have e12 : a.tmps.getD 12 undef = .agg #[.bool false, .slice ae2 m2 d2] := hall 5 12 (by decide) rfl
  obtain ⟨g5, cs5, e5, ge5, o5, hc5⟩ := hblk 6 5 (by decide) rfl
  have hc5 := (hc5.2 ⟨8, 6, 2⟩ (by simp) rfl).2 rfl 9 rfl
  rw [e9] at hc5
  obtain rfl : cs5 = [.bool false, .slice ae1 m1 d1] := by have hx := congrArg Array.toList hc5; exact hx.symm
  clear hc5
  have ne2_5 : g2 ≠ g5 := Nat.ne_of_lt (Nat.lt_of_lt_of_le o2.lt ge5)
  have ne3_5 : g3 ≠ g5 := Nat.ne_of_lt (Nat.lt_of_lt_of_le o3.lt ge5)
  have ne4_5 : g4 ≠ g5 := Nat.ne_of_lt (Nat.lt_of_lt_of_le o4.lt ge5)
  obtain ⟨g6, cs6, e6, ge6, o6, hc6⟩ := hblk 7 6 (by decide) rfl
  obtain rfl : cs6 = [.bool false, .slice none 0 0] := hc6.1 (notBlk_spec rfl)
  clear hc6
  have ne2_6 : g2 ≠ g6 := Nat.ne_of_lt (Nat.lt_of_lt_of_le o2.lt ge6)
  have ne3_6 : g3 ≠ g6 := Nat.ne_of_lt (Nat.lt_of_lt_of_le o3.lt ge6)
  have ne4_6 : g4 ≠ g6 := Nat.ne_of_lt (Nat.lt_of_lt_of_le o4.lt ge6)
  have ne5_6 : g5 ≠ g6 := by intro e; exact hne 6 7 5 6 (by decide) (by decide) (by decide) rfl rfl (by rw [e5, e6, e])
  replace ge5 : w.heap.size ≤ g5 := Nat.le_trans bel.size ge5
  replace ge6 : w.heap.size ≤ g6 := Nat.le_trans bel.size ge6
  clear hall hblk hne
  replace ha1 := ha1.below bb
  replace hd1 := hd1.below bb
  replace h1 := h1.below bb
  replace hn1 := hn1.below bb
  replace ha2 := ha2.below bb
  replace hd2 := hd2.below bb
  replace h2 := h2.below bb
  replace hn2 := hn2.below bb
  replace o2 := o2.below bb
  replace o3 := o3.below bb
  replace o4 := o4.below bb
  replace bel := below_to bel bb
  clear bb
  clear e9
  replace hF := hF.add e12
  clear e12
  replace hF := hF.add e5
  clear e5
  replace hF := hF.add e6
  clear e6
  obtain ⟨w5, hr, tu, on⟩ := st_RInt (vs := [.bool false, .slice ae2 m2 d2]) o6 rfl rfl (ocB (ocS oc0)) (niB (niS ni0)) (o := 0) rfl
  have kp := tu.keep o6
  refine E.st hF (r_store (hF.at 0 rfl) (hF.at 2 rfl) (hr _ rfl)) rfl rfl fun a hF => ?_
  clear hr
  replace ha1 := ha1.keep kp
  replace hd1 := hd1.keep kp
  replace h1 := h1.keep kp
  replace hn1 := hn1.keep kp
  replace ha2 := ha2.keep kp
  replace hd2 := hd2.keep kp
  replace h2 := h2.keep kp
  replace hn2 := hn2.keep kp
  replace o2 := tu.own o2 ne2_6
  replace o3 := tu.own o3 ne3_6
  replace o4 := tu.own o4 ne4_6
  replace o5 := tu.own o5 ne5_6
  replace bel := tu.below bel ge6
  clear tu kp
  replace o6 := on
  clear on
  refine E.nil ?_
  refine wp_seq ?_
  refine E.drawn 13 mixed hF [13, 14, 15, 16, 17, 18, 19, 20, 21, 22, 23, 24, 25] [(fun _ v => v = .pointer (some ⟨g2, 0, none⟩)), (fun _ v => v = .agg #[.bool b1, .slice ad1 n1 c1]), (fun _ v => v = .agg #[.bool false, .slice ae2 m2 d2]), (fun w v => Rz w v (z1 * (((D2 : Nat) : Int)))), (fun _ v => v = .pointer (some ⟨g3, 0, none⟩)), (fun _ v => v = .agg #[.bool b2, .slice ad2 n2 c2]), (fun _ v => v = .agg #[.bool false, .slice ae1 m1 d1]), (fun w v => Rz w v (z2 * (((D1 : Nat) : Int)))), (fun w v => Rz w v ((z1 * (((D2 : Nat) : Int))) + (z2 * (((D1 : Nat) : Int))))), (fun _ v => v = .agg #[.bool false, .slice ae1 m1 d1]), (fun _ v => v = .agg #[.bool false, .slice ae2 m2 d2]), (fun w v => Rz w v ((((D1 : Nat) : Int)) * (((D2 : Nat) : Int)))), (fun w v => Rr w v ((((z1 * (((D2 : Nat) : Int))) + (z2 * (((D1 : Nat) : Int))) : Int) : Rat) / (((((D1 : Nat) : Int)) * (((D2 : Nat) : Int)) : Int) : Rat)) ((max ((k + k) + 1) (k + k))))] [] (by decide +kernel) (by decide +kernel) rfl rfl rfl ⟨(Mb.eq _), (Mb.eq _), (Mb.eq _), (fun _ _ _ h hb => h.below hb), (Mb.eq _), (Mb.eq _), (Mb.eq _), (fun _ _ _ h hb => h.below hb), (fun _ _ _ h hb => h.below hb), (Mb.eq _), (Mb.eq _), (fun _ _ _ h hb => h.below hb), (fun _ _ _ h hb => h.below hb), trivial⟩ trivial ⟨?_, ?_, ?_, ?_, ?_, ?_, ?_, ?_, ?_, ?_, ?_, ?_, ?_, trivial⟩ ?_
  · intro a' w' hF' hb hd
    exact if_does (wanted_free rfl) (Does.vals (r_field (hF'.at 5 rfl) (fa_RRat_0 (p := 0) rfl)) ⟨rfl, Below.refl _ _, (fun h => absurd h (by decide))⟩)
  · intro a' w' hF' hb hd
    have e13 : a'.tmps.getD 13 undef = .pointer (some ⟨g2, 0, none⟩) := hd _ 13 (Array.mem_of_getElem? (i := 0) rfl) rfl rfl
    exact if_does (wanted_free rfl) (Does.vals (r_load e13 (ld_RInt (vs := [.bool b1, .slice ad1 n1 c1]) (o2.below hb) rfl rfl)) ⟨rfl, Below.refl _ _, (fun h => absurd h (by decide))⟩)
  · intro a' w' hF' hb hd
    exact if_does (wanted_free rfl) (Does.vals (r_load (hF'.at 0 rfl) (ld_RInt (vs := [.bool false, .slice ae2 m2 d2]) (o6.below hb) rfl rfl)) ⟨rfl, Below.refl _ _, (fun h => absurd h (by decide))⟩)
  · intro a' w' hF' hb hd
    have e14 : a'.tmps.getD 14 undef = .agg #[.bool b1, .slice ad1 n1 c1] := hd _ 14 (Array.mem_of_getElem? (i := 0) rfl) rfl rfl
    have e15 : a'.tmps.getD 15 undef = .agg #[.bool false, .slice ae2 m2 d2] := hd _ 15 (Array.mem_of_getElem? (i := 1) rfl) rfl rfl
    refine if_does (wanted_free rfl) (Does.calls (r_call Tryz.func45 en45.1 en45.2 (map2 e14 e15)) (rmul_any _ _ _ _ k k _ (hn1.below hb) (Rz.nat (hd2.below hb)) lz1 (lim_cast lD2) (by omega) (by omega)) ?_)
    rintro e w'' ⟨v', rfl, h', bb⟩
    exact ⟨_, rfl, h', bb, (fun h => absurd h (by decide))⟩
  · intro a' w' hF' hb hd
    exact if_does (wanted_free rfl) (Does.vals (r_field (hF'.at 4 rfl) (fa_RRat_0 (p := 0) rfl)) ⟨rfl, Below.refl _ _, (fun h => absurd h (by decide))⟩)
  · intro a' w' hF' hb hd
    have e17 : a'.tmps.getD 17 undef = .pointer (some ⟨g3, 0, none⟩) := hd _ 17 (Array.mem_of_getElem? (i := 0) rfl) rfl rfl
    exact if_does (wanted_free rfl) (Does.vals (r_load e17 (ld_RInt (vs := [.bool b2, .slice ad2 n2 c2]) (o3.below hb) rfl rfl)) ⟨rfl, Below.refl _ _, (fun h => absurd h (by decide))⟩)
  · intro a' w' hF' hb hd
    exact if_does (wanted_free rfl) (Does.vals (r_load (hF'.at 1 rfl) (ld_RInt (vs := [.bool false, .slice ae1 m1 d1]) (o5.below hb) rfl rfl)) ⟨rfl, Below.refl _ _, (fun h => absurd h (by decide))⟩)
  · intro a' w' hF' hb hd
    have e18 : a'.tmps.getD 18 undef = .agg #[.bool b2, .slice ad2 n2 c2] := hd _ 18 (Array.mem_of_getElem? (i := 0) rfl) rfl rfl
    have e19 : a'.tmps.getD 19 undef = .agg #[.bool false, .slice ae1 m1 d1] := hd _ 19 (Array.mem_of_getElem? (i := 1) rfl) rfl rfl
    refine if_does (wanted_free rfl) (Does.calls (r_call Tryz.func45 en45.1 en45.2 (map2 e18 e19)) (rmul_any _ _ _ _ k k _ (hn2.below hb) (Rz.nat (hd1.below hb)) lz2 (lim_cast lD1) (by omega) (by omega)) ?_)
    rintro e w'' ⟨v', rfl, h', bb⟩
    exact ⟨_, rfl, h', bb, (fun h => absurd h (by decide))⟩
  · intro a' w' hF' hb hd
    obtain ⟨v16_0, e16, h16_1⟩ : ∃ v, a'.tmps.getD 16 undef = v ∧ Rz w' v (z1 * (((D2 : Nat) : Int))) := ⟨_, rfl, hd _ 16 (Array.mem_of_getElem? (i := 0) rfl) rfl rfl⟩
    obtain ⟨v20_0, e20, h20_1⟩ : ∃ v, a'.tmps.getD 20 undef = v ∧ Rz w' v (z2 * (((D1 : Nat) : Int))) := ⟨_, rfl, hd _ 20 (Array.mem_of_getElem? (i := 1) rfl) rfl rfl⟩
    refine if_does (wanted_free rfl) (Does.calls (r_call Tryz.func76 en76.1 en76.2 (map2 e16 e20)) (radd_any3 _ _ _ _ (k + k) (k + k) _ h16_1 h20_1 (limz_mul lz1 (lim_cast lD2)) (limz_mul lz2 (lim_cast lD1)) (by omega) (by omega)) ?_)
    rintro e w'' ⟨v', rfl, h', bb⟩
    exact ⟨_, rfl, h', bb, (fun h => absurd h (by decide))⟩
  · intro a' w' hF' hb hd
    exact if_does (wanted_free rfl) (Does.vals (r_load (hF'.at 1 rfl) (ld_RInt (vs := [.bool false, .slice ae1 m1 d1]) (o5.below hb) rfl rfl)) ⟨rfl, Below.refl _ _, (fun h => absurd h (by decide))⟩)
  · intro a' w' hF' hb hd
    exact if_does (wanted_free rfl) (Does.vals (r_load (hF'.at 0 rfl) (ld_RInt (vs := [.bool false, .slice ae2 m2 d2]) (o6.below hb) rfl rfl)) ⟨rfl, Below.refl _ _, (fun h => absurd h (by decide))⟩)
  · intro a' w' hF' hb hd
    have e22 : a'.tmps.getD 22 undef = .agg #[.bool false, .slice ae1 m1 d1] := hd _ 22 (Array.mem_of_getElem? (i := 0) rfl) rfl rfl
    have e23 : a'.tmps.getD 23 undef = .agg #[.bool false, .slice ae2 m2 d2] := hd _ 23 (Array.mem_of_getElem? (i := 1) rfl) rfl rfl
    refine if_does (wanted_free rfl) (Does.calls (r_call Tryz.func45 en45.1 en45.2 (map2 e22 e23)) (rmul_any _ _ _ _ k k _ (Rz.nat (hd1.below hb)) (Rz.nat (hd2.below hb)) (lim_cast lD1) (lim_cast lD2) (by omega) (by omega)) ?_)
    rintro e w'' ⟨v', rfl, h', bb⟩
    exact ⟨_, rfl, h', bb, (fun h => absurd h (by decide))⟩
  · intro a' w' hF' hb hd
    obtain ⟨v21_0, e21, h21_1⟩ : ∃ v, a'.tmps.getD 21 undef = v ∧ Rz w' v ((z1 * (((D2 : Nat) : Int))) + (z2 * (((D1 : Nat) : Int)))) := ⟨_, rfl, hd _ 21 (Array.mem_of_getElem? (i := 0) rfl) rfl rfl⟩
    obtain ⟨v24_0, e24, h24_1⟩ : ∃ v, a'.tmps.getD 24 undef = v ∧ Rz w' v ((((D1 : Nat) : Int)) * (((D2 : Nat) : Int))) := ⟨_, rfl, hd _ 24 (Array.mem_of_getElem? (i := 1) rfl) rfl rfl⟩
    refine if_does (wanted_free rfl) (Does.calls (r_call Tryz.func26 en26.1 en26.2 (map2 e21 e24)) (dmk_any _ _ ((z1 * (((D2 : Nat) : Int))) + (z2 * (((D1 : Nat) : Int)))) ((((D1 : Nat) : Int)) * (((D2 : Nat) : Int))) (max ((k + k) + 1) (k + k)) _ h21_1 h24_1 (Lim.up (limz_add (limz_mul lz1 (lim_cast lD2)) (limz_mul lz2 (lim_cast lD1)) ((k + k) + 1) (by omega) (by omega)) _ (by omega)) (Lim.up (limz_mul (lim_cast lD1) (lim_cast lD2)) _ (by omega)) (by omega)) ?_)
    rintro e w'' ⟨v', rfl, h', bb⟩
    exact ⟨_, rfl, h', bb, (fun h => absurd h (by decide))⟩
  intro a w6 hF bb hall hne
  obtain ⟨vv7, e25, hh8⟩ : ∃ v, a.tmps.getD 25 undef = v ∧ Rr w6 v ((((z1 * (((D2 : Nat) : Int))) + (z2 * (((D1 : Nat) : Int))) : Int) : Rat) / (((((D1 : Nat) : Int)) * (((D2 : Nat) : Int)) : Int) : Rat)) ((max ((k + k) + 1) (k + k))) := ⟨_, rfl, hall 12 25 rfl⟩
  clear hall hne
  replace o4 := o4.below bb
  replace bel := below_to bel bb
  clear bb
  obtain ⟨b9, ad9, n9, c9, ae9, m9, d9, z9, D9, rfl, hn9, hd9, hD9, hq9, lz9, lD9⟩ := Rr.shape hh8
  have ha9 := hn9.abs
  replace hF := hF.add e25
  clear e25
  obtain ⟨w10, hr, tu, on⟩ := st_RRat (vs := [.bool b9, .slice ad9 n9 c9, .slice ae9 m9 d9]) o4 rfl rfl (ocB (ocS (ocS oc0))) (niB (niS (niS ni0))) (o := 0) rfl
  have kp := tu.keep o4
  refine E.st hF (r_store (hF.at 4 rfl) (hF.at 0 rfl) (hr _ rfl)) rfl rfl fun a hF => ?_
  clear hr
  replace hh8 := hh8.keep kp
  replace hn9 := hn9.keep kp
  replace ha9 := ha9.keep kp
  replace hd9 := hd9.keep kp
  replace bel := tu.below bel ge4
  clear tu kp
  replace o4 := on
  clear on
  refine E.nil ?_
  refine wp_ret ?_
  refine bodyPost_ret (res_cell Tryz.results65 (hF.at 4 rfl) (ld_RRat (vs := [.bool b9, .slice ad9 n9 c9, .slice ae9 m9 d9]) o4 rfl rfl)) hF.dfr ?_
  exact ⟨_, rfl, Rr.cast (Rr.up hh8 _ (by omega)) (by rw [hq1.out, hq2.out]; exact radd_eq hD1 hD2), bel⟩

set_option maxHeartbeats 1000000 in
theorem dSub_any (v1 v2 : Value) (q1 q2 : Rat) (k : Nat) (w : World) (h1 : Rr w v1 q1 k) (h2 : Rr w v2 q2 k) (hp : 1 ≤ k) (hk : k ≤ 20000) :
    Calls Tryz.prog 46 #[v1, v2] w (RrPost w (q1 - q2) (k + k + 1)) := by
  obtain ⟨b1, ad1, n1, c1, ae1, m1, d1, z1, D1, rfl, hn1, hd1, hD1, hq1, lz1, lD1⟩ := h1.shape
  have h1 : Rr w (.agg #[.bool b1, .slice ad1 n1 c1, .slice ae1 m1 d1]) q1 k := ⟨_, _, _, _, _, _, _, _, _, rfl, hn1, hd1, hD1, hq1, lz1, lD1⟩
  have ha1 := hn1.abs
  have hb1 := hn1.neg
  replace hq1 := Lib.hid hq1
  obtain ⟨b2, ad2, n2, c2, ae2, m2, d2, z2, D2, rfl, hn2, hd2, hD2, hq2, lz2, lD2⟩ := h2.shape
  have h2 : Rr w (.agg #[.bool b2, .slice ad2 n2 c2, .slice ae2 m2 d2]) q2 k := ⟨_, _, _, _, _, _, _, _, _, rfl, hn2, hd2, hD2, hq2, lz2, lD2⟩
  have ha2 := hn2.abs
  have hb2 := hn2.neg
  replace hq2 := Lib.hid hq2
  have bel : Below w.heap.size w w := Below.refl _ _
  refine E.enter (nt := 9) (L := [(0, .agg #[.bool b1, .slice ad1 n1 c1, .slice ae1 m1 d1]), (1, .agg #[.bool b2, .slice ad2 n2 c2, .slice ae2 m2 d2])]) Tryz.func46 rfl rfl rfl (args_cons (i := 0) rfl (args_cons (i := 1) rfl args_nil)) ?_
  intro a hF
  refine wp_seq ?_
  refine E.seq ?_
  obtain ⟨g2, w1, ge2, hr, bb, o2⟩ := own_box (P := Tryz.prog) (w := w) (cs := [.bool b1, .slice ad1 n1 c1, .slice ae1 m1 d1]) (v := .agg #[.bool b1, .slice ad1 n1 c1, .slice ae1 m1 d1]) 39 rfl (niB (niS (niS ni0)))
  replace ge2 : w.heap.size ≤ g2 := by rw [← ge2]; exact bel.size
  refine E.opv hF (r_box (hF.at 0 rfl) hr) rfl rfl rfl rfl fun a hF => ?_
  clear hr
  replace h2 := h2.below bb
  replace hn2 := hn2.below bb
  replace ha2 := ha2.below bb
  replace hd2 := hd2.below bb
  replace h1 := h1.below bb
  replace hn1 := hn1.below bb
  replace ha1 := ha1.below bb
  replace hd1 := hd1.below bb
  replace bel := below_to bel bb
  clear bb
  obtain ⟨g3, w2, ge3, hr, bb, o3⟩ := own_box (P := Tryz.prog) (w := w1) (cs := [.bool b2, .slice ad2 n2 c2, .slice ae2 m2 d2]) (v := .agg #[.bool b2, .slice ad2 n2 c2, .slice ae2 m2 d2]) 39 rfl (niB (niS (niS ni0)))
  have ne2_3 : g2 ≠ g3 := by rw [← ge3]; exact o2.ne_new
  replace ge3 : w.heap.size ≤ g3 := by rw [← ge3]; exact bel.size
  refine E.opv hF (r_box (hF.at 2 rfl) hr) rfl rfl rfl rfl fun a hF => ?_
  clear hr
  replace ha1 := ha1.below bb
  replace hd1 := hd1.below bb
  replace h1 := h1.below bb
  replace hn1 := hn1.below bb
  replace h2 := h2.below bb
  replace hn2 := hn2.below bb
  replace ha2 := ha2.below bb
  replace hd2 := hd2.below bb
  replace o2 := o2.below bb
  replace bel := below_to bel bb
  clear bb
  obtain ⟨g4, w3, ge4, hr, bb, o4⟩ := own_alloc (P := Tryz.prog) (w := w2) (cs := [.bool false, .slice none 0 0, .slice none 0 0]) 39 ze_RRat rfl (niB (niS (niS ni0)))
  have ne2_4 : g2 ≠ g4 := by rw [← ge4]; exact o2.ne_new
  have ne3_4 : g3 ≠ g4 := by rw [← ge4]; exact o3.ne_new
  replace ge4 : w.heap.size ≤ g4 := by rw [← ge4]; exact bel.size
  refine E.opv hF (r_alloc hr) rfl rfl rfl rfl fun a hF => ?_
  clear hr
  replace ha1 := ha1.below bb
  replace hd1 := hd1.below bb
  replace h1 := h1.below bb
  replace hn1 := hn1.below bb
  replace ha2 := ha2.below bb
  replace hd2 := hd2.below bb
  replace h2 := h2.below bb
  replace hn2 := hn2.below bb
  replace o2 := o2.below bb
  replace o3 := o3.below bb
  replace bel := below_to bel bb
  clear bb
  refine E.nil ?_
  refine wp_seq ?_
  refine E.drawn 4 mixed hF [5, 6, 7, 8] [(fun _ v => v = .agg #[.bool b1, .slice ad1 n1 c1, .slice ae1 m1 d1]), (fun _ v => v = .agg #[.bool b2, .slice ad2 n2 c2, .slice ae2 m2 d2]), (fun w v => Rr w v (-(q2)) (k)), (fun w v => Rr w v ((q1) + (-(q2))) ((k + k + 1)))] [] (by decide +kernel) (by decide +kernel) rfl rfl rfl ⟨(Mb.eq _), (Mb.eq _), (fun _ _ _ h hb => h.below hb), (fun _ _ _ h hb => h.below hb), trivial⟩ trivial ⟨?_, ?_, ?_, ?_, trivial⟩ ?_
  · intro a' w' hF' hb hd
    exact if_does (wanted_free rfl) (Does.vals (r_load (hF'.at 2 rfl) (ld_RRat (vs := [.bool b1, .slice ad1 n1 c1, .slice ae1 m1 d1]) (o2.below hb) rfl rfl)) ⟨rfl, Below.refl _ _, (fun h => absurd h (by decide))⟩)
  · intro a' w' hF' hb hd
    exact if_does (wanted_free rfl) (Does.vals (r_load (hF'.at 1 rfl) (ld_RRat (vs := [.bool b2, .slice ad2 n2 c2, .slice ae2 m2 d2]) (o3.below hb) rfl rfl)) ⟨rfl, Below.refl _ _, (fun h => absurd h (by decide))⟩)
  · intro a' w' hF' hb hd
    have e6 : a'.tmps.getD 6 undef = .agg #[.bool b2, .slice ad2 n2 c2, .slice ae2 m2 d2] := hd _ 6 (Array.mem_of_getElem? (i := 0) rfl) rfl rfl
    refine if_does (wanted_free rfl) (Does.calls (r_call Tryz.func79 en79.1 en79.2 (map1 e6)) (dOpp_any _ (q2) k _ (h2.below hb)) ?_)
    rintro e w'' ⟨v', rfl, h', bb⟩
    exact ⟨_, rfl, h', bb, (fun h => absurd h (by decide))⟩
  · intro a' w' hF' hb hd
    have e5 : a'.tmps.getD 5 undef = .agg #[.bool b1, .slice ad1 n1 c1, .slice ae1 m1 d1] := hd _ 5 (Array.mem_of_getElem? (i := 0) rfl) rfl rfl
    obtain ⟨v7_0, e7, h7_1⟩ : ∃ v, a'.tmps.getD 7 undef = v ∧ Rr w' v (-(q2)) (k) := ⟨_, rfl, hd _ 7 (Array.mem_of_getElem? (i := 1) rfl) rfl rfl⟩
    refine if_does (wanted_free rfl) (Does.calls (r_call Tryz.func65 en65.1 en65.2 (map2 e5 e7)) (dAdd_any _ _ (q1) (-(q2)) k _ (h1.below hb) h7_1 (by omega) (by omega)) ?_)
    rintro e w'' ⟨v', rfl, h', bb⟩
    exact ⟨_, rfl, h', bb, (fun h => absurd h (by decide))⟩
  intro a w4 hF bb hall hne
  obtain ⟨vv5, e8, hh6⟩ : ∃ v, a.tmps.getD 8 undef = v ∧ Rr w4 v ((q1) + (-(q2))) ((k + k + 1)) := ⟨_, rfl, hall 3 8 rfl⟩
  clear hall hne
  replace o4 := o4.below bb
  replace bel := below_to bel bb
  clear bb
  obtain ⟨b7, ad7, n7, c7, ae7, m7, d7, z7, D7, rfl, hn7, hd7, hD7, hq7, lz7, lD7⟩ := Rr.shape hh6
  have ha7 := hn7.abs
  replace hF := hF.add e8
  clear e8
  obtain ⟨w8, hr, tu, on⟩ := st_RRat (vs := [.bool b7, .slice ad7 n7 c7, .slice ae7 m7 d7]) o4 rfl rfl (ocB (ocS (ocS oc0))) (niB (niS (niS ni0))) (o := 0) rfl
  have kp := tu.keep o4
  refine E.st hF (r_store (hF.at 1 rfl) (hF.at 0 rfl) (hr _ rfl)) rfl rfl fun a hF => ?_
  clear hr
  replace hh6 := hh6.keep kp
  replace hn7 := hn7.keep kp
  replace ha7 := ha7.keep kp
  replace hd7 := hd7.keep kp
  replace bel := tu.below bel ge4
  clear tu kp
  replace o4 := on
  clear on
  refine E.nil ?_
  refine wp_ret ?_
  refine bodyPost_ret (res_cell Tryz.results46 (hF.at 1 rfl) (ld_RRat (vs := [.bool b7, .slice ad7 n7 c7, .slice ae7 m7 d7]) o4 rfl rfl)) hF.dfr ?_
  exact ⟨_, rfl, Rr.cast hh6 (Rat.sub_eq_add_neg q1 q2).symm, bel⟩

end Go.Proofs.YtmpdbkdijfpbbaaGreat
