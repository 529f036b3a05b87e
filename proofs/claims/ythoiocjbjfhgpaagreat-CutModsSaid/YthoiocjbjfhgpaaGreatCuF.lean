/- The document's floors, what is left over. -/
import Derived.Test.YthoiocjbjfhgpaaGreatGY
import Derived.Test.YthoiocjbjfhgpaaGreatGI
import Derived.Test.YthoiocjbjfhgpaaGreatWsB
namespace Go.Proofs.YthoiocjbjfhgpaaGreat
open Go.RowKit
set_option maxRecDepth 100000
set_option linter.unusedVariables false

theorem mk_pos {D : Nat} (h : 0 < D) : (0 : Rat) < (D : Rat) := Rat.natCast_pos.2 h
theorem fdiv_mk {z : Int} {D : Nat} (h : 0 < D) : Int.fdiv z ((D : Nat) : Int) = (mkRat z D).floor := by
  have hD : (0 : Int) < ((D : Nat) : Int) := by omega
  have e1 := Int.mul_ediv_add_emod z ((D : Nat) : Int)
  have e2 := Int.emod_nonneg z (b := ((D : Nat) : Int)) (by omega)
  have e3 := Int.emod_lt_of_pos z hD
  rw [Int.fdiv_eq_ediv_of_nonneg _ (by omega)]
  generalize z / ((D : Nat) : Int) = k at *
  have p := mk_pos h
  symm
  rw [Rat.mkRat_eq_div]
  have c1 : k * ((D : Nat) : Int) ≤ z := by rw [Int.mul_comm]; omega
  have c2 : z < (k + 1) * ((D : Nat) : Int) := by rw [Int.add_mul, Int.mul_comm k]; omega
  have r1 := Rat.intCast_le_intCast.2 c1
  have r2 := Rat.intCast_lt_intCast.2 c2
  rw [Rat.intCast_mul, Rat.intCast_natCast] at r1 r2
  rw [Rat.intCast_add, Rat.intCast_one] at r2
  have l1 : k ≤ ((z : Rat) / (D : Rat)).floor := Rat.le_floor_iff.2 (Rat.not_lt.1 fun hn => by rw [Rat.div_lt_iff p] at hn; grind)
  have l2 : ((z : Rat) / (D : Rat)).floor < k + 1 := Rat.floor_lt_iff.2 (by rw [Rat.div_lt_iff p, Rat.intCast_add, Rat.intCast_one]; exact r2)
  omega
theorem ceil_mk (z : Int) {D : Nat} (h : 0 < D) : (mkRat z D).ceil = -(Int.fdiv (-z) ((D : Nat) : Int)) := by
  rw [fdiv_mk h, Rat.ceil_eq_neg_floor_neg, Rat.neg_mkRat]
theorem ceil_mk0 {z : Int} {D : Nat} (h : 0 < D) (hz : fr z ((D : Nat) : Int) = 0) : Int.fdiv z ((D : Nat) : Int) = (mkRat z D).ceil := by
  rw [ceil_mk z h]
  obtain ⟨q, e⟩ : ∃ q, q = Int.fdiv z ((D : Nat) : Int) := ⟨_, rfl⟩
  have hf : z = q * ((D : Nat) : Int) + fr z ((D : Nat) : Int) := by
    unfold fr; rw [if_neg (by omega), e]
    have := Int.mul_fdiv_add_fmod z ((D : Nat) : Int); rw [Int.mul_comm] at this; exact this.symm
  rw [hz] at hf
  have := (f_pos (a := -z) (b := ((D : Nat) : Int)) (q := -q) (r := 0) (by rw [hf, Int.mul_neg, Int.mul_comm]; omega) (by omega) (by omega)).1
  rw [this, ← e]; omega
theorem ceil_mk1 {z : Int} {D : Nat} (h : 0 < D) (hz : fr z ((D : Nat) : Int) ≠ 0) : Int.fdiv z ((D : Nat) : Int) + 1 = (mkRat z D).ceil := by
  rw [ceil_mk z h]
  obtain ⟨q, e⟩ : ∃ q, q = Int.fdiv z ((D : Nat) : Int) := ⟨_, rfl⟩
  obtain ⟨r, er⟩ : ∃ r, r = fr z ((D : Nat) : Int) := ⟨_, rfl⟩
  have hf : z = q * ((D : Nat) : Int) + fr z ((D : Nat) : Int) := by
    unfold fr; rw [if_neg (by omega), e]
    have := Int.mul_fdiv_add_fmod z ((D : Nat) : Int); rw [Int.mul_comm] at this; exact this.symm
  have hb : 0 ≤ fr z ((D : Nat) : Int) ∧ fr z ((D : Nat) : Int) < ((D : Nat) : Int) := by
    unfold fr; rw [if_neg (by omega), Int.fmod_eq_emod_of_nonneg _ (by omega)]
    exact ⟨Int.emod_nonneg z (by omega), Int.emod_lt_of_pos z (by omega)⟩
  rw [← er] at hf hb hz
  have := (f_pos (a := -z) (b := ((D : Nat) : Int)) (q := -q - 1) (r := ((D : Nat) : Int) - r) (by rw [hf, Int.mul_sub, Int.mul_neg, Int.mul_comm]; omega) (by omega) (by omega)).1
  rw [this, ← e]; omega
theorem Rr.rlim {w : World} {v : Value} {q : Rat} {k : Nat} (h : Rr w v q k) : RLim q k := by
  obtain ⟨_, _, _, _, _, _, _, z, D, _, _, _, hD, rfl, l1, l2⟩ := h
  exact rlim_mk l1 l2 (by omega)
theorem Rz.castM {w : World} {v : Value} {z z' : Int} (h : Rz w v z) (e : z = z') : Rz w v z' := by subst e; exact h
theorem rzl_t {w : World} {b : Bool} {ad : Option Addr} {n c : Nat} {z : Int} (hz : z ≠ 0) (h : Rz w (.agg #[.bool b, .slice ad n c]) z) : decide (0 < ((n : Nat) : Int)) = true := by
  have := Dg.lenp (by decide) h.abs (by omega)
  exact decide_eq_true (by omega)
theorem rzl_f {w : World} {b : Bool} {ad : Option Addr} {n c : Nat} {z : Int} (hz : z = 0) (h : Rz w (.agg #[.bool b, .slice ad n c]) z) : decide (0 < ((n : Nat) : Int)) = false := by
  have h := h.abs
  rw [hz] at h
  have := Dg.len0 h
  exact decide_eq_false (by omega)
theorem zero_of1 : ((0 : Int) : Rat) / ((1 : Int) : Rat) = 0 := by decide +kernel
theorem int_mk (z : Int) : ((z : Int) : Rat) = mkRat z 1 := by rw [Rat.mkRat_one]
theorem qc_ge0 {a b : Rat} : 0 ≤ qc a b ↔ sz (b - a).num ≤ 0 := by
  rw [sz_le0, qc_def]
  by_cases h1 : a < b
  · rw [if_pos h1]
    constructor
    · intro h; omega
    · intro h; grind
  · rw [if_neg h1]
    constructor
    · intro _; grind
    · intro _; split <;> omega
set_option maxHeartbeats 1000000 in
theorem dFloor_any (v1 : Value) (q1 : Rat) (k : Nat) (w : World) (h1 : Rr w v1 q1 k) (hp : 1 ≤ k) (hk : k ≤ 2000) :
    Calls Tryz.prog 17 #[v1] w (RzPost w (Rat.floor q1)) := by
  have rl1 := h1.rlim
  obtain ⟨b1, ad1, n1, c1, ae1, m1, d1, z1, D1, rfl, hn1, hd1, hD1, hq1, lz1, lD1⟩ := h1.shape
  have h1 : Rr w (.agg #[.bool b1, .slice ad1 n1 c1, .slice ae1 m1 d1]) q1 k := ⟨_, _, _, _, _, _, _, _, _, rfl, hn1, hd1, hD1, hq1, lz1, lD1⟩
  have ha1 := hn1.abs
  have hb1 := hn1.neg
  replace hq1 := Lib.hid hq1
  have bel : Below w.heap.size w w := Below.refl _ _
  refine E.enter (nt := 15) (L := [(0, .agg #[.bool b1, .slice ad1 n1 c1, .slice ae1 m1 d1])]) Tryz.func17 rfl rfl rfl (args_cons (i := 0) rfl args_nil) ?_
  intro a hF
  refine wp_seq ?_
  refine E.seq ?_
  obtain ⟨g1, w1, ge1, hr, bb, o1⟩ := own_box (P := Tryz.prog) (w := w) (cs := [.bool b1, .slice ad1 n1 c1, .slice ae1 m1 d1]) (v := .agg #[.bool b1, .slice ad1 n1 c1, .slice ae1 m1 d1]) 39 rfl (niB (niS (niS ni0)))
  replace ge1 : w.heap.size ≤ g1 := by rw [← ge1]; exact bel.size
  refine E.opv hF (r_box (hF.at 0 rfl) hr) rfl rfl rfl rfl fun a hF => ?_
  clear hr
  replace h1 := h1.below bb
  replace hn1 := hn1.below bb
  replace ha1 := ha1.below bb
  replace hd1 := hd1.below bb
  replace bel := below_to bel bb
  clear bb
  obtain ⟨g2, w2, ge2, hr, bb, o2⟩ := own_alloc (P := Tryz.prog) (w := w1) (cs := [.bool false, .slice none 0 0]) 37 ze_RInt rfl (niB (niS ni0))
  have ne1_2 : g1 ≠ g2 := by rw [← ge2]; exact o1.ne_new
  replace ge2 : w.heap.size ≤ g2 := by rw [← ge2]; exact bel.size
  refine E.opv hF (r_alloc hr) rfl rfl rfl rfl fun a hF => ?_
  clear hr
  replace ha1 := ha1.below bb
  replace hd1 := hd1.below bb
  replace h1 := h1.below bb
  replace hn1 := hn1.below bb
  replace o1 := o1.below bb
  replace bel := below_to bel bb
  clear bb
  refine E.nil ?_
  refine wp_seq ?_
  refine E.seq ?_
  refine E.opv hF (r_field (hF.at 1 rfl) (fa_RRat_0 (p := 0) rfl)) rfl rfl rfl rfl fun a hF => ?_
  refine E.opv hF (r_load (hF.at 0 rfl) (ld_RInt (vs := [.bool b1, .slice ad1 n1 c1]) o1 rfl rfl)) rfl rfl rfl rfl fun a hF => ?_
  refine E.opv hF (r_field (hF.at 3 rfl) (fa_RRat_1 (p := 2) rfl)) rfl rfl rfl rfl fun a hF => ?_
  refine E.opv hF (r_load (hF.at 0 rfl) (ld_Num (v := .slice ae1 m1 d1) o1 rfl)) rfl rfl rfl rfl fun a hF => ?_
  refine E.opv hF (r_build (pair1 (hF.at 0 rfl)) (bd_RInt_1 _ _ _ _)) rfl rfl rfl rfl fun a hF => ?_
  refine E.call hF (r_call Tryz.func59 en59.1 en59.2 (map2 (hF.at 3 rfl) (hF.at 0 rfl))) (rDivMod_any _ _ _ _ k k _ hn1 (Rz.nat hd1) lz1 (lim_cast lD1) (by omega) (by omega)) rfl rfl rfl rfl ?_
  rintro e w3 ⟨vv4, vv5, rfl, hh6, hh7, bb⟩
  refine ⟨_, rfl, ?_⟩
  intro a hF
  replace o2 := o2.below bb
  replace bel := below_to bel bb
  clear bb
  obtain ⟨b8, ad8, n8, c8, rfl⟩ := Rz.form hh6
  obtain ⟨b9, ad9, n9, c9, rfl⟩ := Rz.form hh7
  refine E.opv hF (r_move (hF.at 0 rfl)) rfl rfl rfl rfl fun a hF => ?_
  refine E.opv hF (r_extract (v := .agg #[.bool b8, .slice ad8 n8 c8]) (hF.at 0 rfl) rfl) rfl rfl rfl rfl fun a hF => ?_
  refine E.opv hF (r_extract (v := .agg #[.bool b9, .slice ad9 n9 c9]) (hF.at 1 rfl) rfl) rfl rfl rfl rfl fun a hF => ?_
  obtain ⟨g3, w10, ge3, hr, bb, o3⟩ := own_alloc (P := Tryz.prog) (w := w3) (cs := [.bool false, .slice none 0 0]) 37 ze_RInt rfl (niB (niS ni0))
  have ne2_3 : g2 ≠ g3 := by rw [← ge3]; exact o2.ne_new
  replace ge3 : w.heap.size ≤ g3 := by rw [← ge3]; exact bel.size
  refine E.opv hF (r_alloc hr) rfl rfl rfl rfl fun a hF => ?_
  clear hr
  replace hh7 := hh7.below bb
  replace hh6 := hh6.below bb
  replace o2 := o2.below bb
  replace bel := below_to bel bb
  clear bb
  obtain ⟨g4, w11, ge4, hr, bb, o4⟩ := own_alloc (P := Tryz.prog) (w := w10) (cs := [.bool false, .slice none 0 0]) 37 ze_RInt rfl (niB (niS ni0))
  have ne2_4 : g2 ≠ g4 := by rw [← ge4]; exact o2.ne_new
  have ne3_4 : g3 ≠ g4 := by rw [← ge4]; exact o3.ne_new
  replace ge4 : w.heap.size ≤ g4 := by rw [← ge4]; exact bel.size
  refine E.opv hF (r_alloc hr) rfl rfl rfl rfl fun a hF => ?_
  clear hr
  replace hh7 := hh7.below bb
  replace hh6 := hh6.below bb
  replace o2 := o2.below bb
  replace o3 := o3.below bb
  replace bel := below_to bel bb
  clear bb
  obtain ⟨w12, hr, tu, on⟩ := st_RInt (vs := [.bool b8, .slice ad8 n8 c8]) o3 rfl rfl (ocB (ocS oc0)) (niB (niS ni0)) (o := 0) rfl
  have kp := tu.keep o3
  refine E.st hF (r_store (hF.at 1 rfl) (hF.at 3 rfl) (hr _ rfl)) rfl rfl fun a hF => ?_
  clear hr
  replace hh7 := hh7.keep kp
  replace hh6 := hh6.keep kp
  replace o2 := tu.own o2 ne2_3
  replace o4 := tu.own o4 (Ne.symm ne3_4)
  replace bel := tu.below bel ge3
  clear tu kp
  replace o3 := on
  clear on
  have hf13 := Rz.abs hh6
  obtain ⟨w14, hr, tu, on⟩ := st_RInt (vs := [.bool b9, .slice ad9 n9 c9]) o4 rfl rfl (ocB (ocS oc0)) (niB (niS ni0)) (o := 0) rfl
  have kp := tu.keep o4
  refine E.st hF (r_store (hF.at 0 rfl) (hF.at 2 rfl) (hr _ rfl)) rfl rfl fun a hF => ?_
  clear hr
  replace hf13 := hf13.keep kp
  replace hh6 := hh6.keep kp
  replace hh7 := hh7.keep kp
  replace o2 := tu.own o2 ne2_4
  replace o3 := tu.own o3 ne3_4
  replace bel := tu.below bel ge4
  clear tu kp
  replace o4 := on
  clear on
  have hf15 := Rz.abs hh7
  refine E.nil ?_
  refine wp_seq ?_
  refine E.seq ?_
  refine E.opv hF (r_load (hF.at 1 rfl) (ld_RInt (vs := [.bool b8, .slice ad8 n8 c8]) o3 rfl rfl)) rfl rfl rfl rfl fun a hF => ?_
  obtain ⟨w16, hr, tu, on⟩ := st_RInt (vs := [.bool b8, .slice ad8 n8 c8]) o2 rfl rfl (ocB (ocS oc0)) (niB (niS ni0)) (o := 0) rfl
  have kp := tu.keep o2
  refine E.st hF (r_store (hF.at 12 rfl) (hF.at 0 rfl) (hr _ rfl)) rfl rfl fun a hF => ?_
  clear hr
  replace hh6 := hh6.keep kp
  replace hf13 := hf13.keep kp
  replace bel := tu.below bel ge2
  clear tu kp
  replace o2 := on
  clear on
  refine E.nil ?_
  refine wp_ret ?_
  refine bodyPost_ret (res_cell Tryz.results17 (hF.at 12 rfl) (ld_RInt (vs := [.bool b8, .slice ad8 n8 c8]) o2 rfl rfl)) hF.dfr ?_
  exact ⟨_, rfl, Rz.castM hh6 (by rw [hq1.out]; exact fdiv_mk hD1), bel⟩

set_option maxHeartbeats 1000000 in
theorem dCeil_any (v1 : Value) (q1 : Rat) (k : Nat) (w : World) (h1 : Rr w v1 q1 k) (hp : 1 ≤ k) (hk : k ≤ 2000) :
    Calls Tryz.prog 19 #[v1] w (RzPost w (Rat.ceil q1)) := by
  have rl1 := h1.rlim
  obtain ⟨b1, ad1, n1, c1, ae1, m1, d1, z1, D1, rfl, hn1, hd1, hD1, hq1, lz1, lD1⟩ := h1.shape
  have h1 : Rr w (.agg #[.bool b1, .slice ad1 n1 c1, .slice ae1 m1 d1]) q1 k := ⟨_, _, _, _, _, _, _, _, _, rfl, hn1, hd1, hD1, hq1, lz1, lD1⟩
  have ha1 := hn1.abs
  have hb1 := hn1.neg
  replace hq1 := Lib.hid hq1
  by_cases hz : fr (z1) (((D1 : Nat) : Int)) = 0
  · have bel : Below w.heap.size w w := Below.refl _ _
    refine E.enter (nt := 22) (L := [(0, .agg #[.bool b1, .slice ad1 n1 c1, .slice ae1 m1 d1])]) Tryz.func19 rfl rfl rfl (args_cons (i := 0) rfl args_nil) ?_
    intro a hF
    refine wp_seq ?_
    refine E.seq ?_
    obtain ⟨g1, w1, ge1, hr, bb, o1⟩ := own_box (P := Tryz.prog) (w := w) (cs := [.bool b1, .slice ad1 n1 c1, .slice ae1 m1 d1]) (v := .agg #[.bool b1, .slice ad1 n1 c1, .slice ae1 m1 d1]) 39 rfl (niB (niS (niS ni0)))
    replace ge1 : w.heap.size ≤ g1 := by rw [← ge1]; exact bel.size
    refine E.opv hF (r_box (hF.at 0 rfl) hr) rfl rfl rfl rfl fun a hF => ?_
    clear hr
    replace h1 := h1.below bb
    replace hn1 := hn1.below bb
    replace ha1 := ha1.below bb
    replace hd1 := hd1.below bb
    replace bel := below_to bel bb
    clear bb
    obtain ⟨g2, w2, ge2, hr, bb, o2⟩ := own_alloc (P := Tryz.prog) (w := w1) (cs := [.bool false, .slice none 0 0]) 37 ze_RInt rfl (niB (niS ni0))
    have ne1_2 : g1 ≠ g2 := by rw [← ge2]; exact o1.ne_new
    replace ge2 : w.heap.size ≤ g2 := by rw [← ge2]; exact bel.size
    refine E.opv hF (r_alloc hr) rfl rfl rfl rfl fun a hF => ?_
    clear hr
    replace ha1 := ha1.below bb
    replace hd1 := hd1.below bb
    replace h1 := h1.below bb
    replace hn1 := hn1.below bb
    replace o1 := o1.below bb
    replace bel := below_to bel bb
    clear bb
    refine E.nil ?_
    refine wp_seq ?_
    refine E.seq ?_
    refine E.opv hF (r_field (hF.at 1 rfl) (fa_RRat_0 (p := 0) rfl)) rfl rfl rfl rfl fun a hF => ?_
    refine E.opv hF (r_load (hF.at 0 rfl) (ld_RInt (vs := [.bool b1, .slice ad1 n1 c1]) o1 rfl rfl)) rfl rfl rfl rfl fun a hF => ?_
    refine E.opv hF (r_field (hF.at 3 rfl) (fa_RRat_1 (p := 2) rfl)) rfl rfl rfl rfl fun a hF => ?_
    refine E.opv hF (r_load (hF.at 0 rfl) (ld_Num (v := .slice ae1 m1 d1) o1 rfl)) rfl rfl rfl rfl fun a hF => ?_
    refine E.opv hF (r_build (pair1 (hF.at 0 rfl)) (bd_RInt_1 _ _ _ _)) rfl rfl rfl rfl fun a hF => ?_
    refine E.call hF (r_call Tryz.func59 en59.1 en59.2 (map2 (hF.at 3 rfl) (hF.at 0 rfl))) (rDivMod_any _ _ _ _ k k _ hn1 (Rz.nat hd1) lz1 (lim_cast lD1) (by omega) (by omega)) rfl rfl rfl rfl ?_
    rintro e w3 ⟨vv4, vv5, rfl, hh6, hh7, bb⟩
    refine ⟨_, rfl, ?_⟩
    intro a hF
    replace o2 := o2.below bb
    replace bel := below_to bel bb
    clear bb
    obtain ⟨b8, ad8, n8, c8, rfl⟩ := Rz.form hh6
    obtain ⟨b9, ad9, n9, c9, rfl⟩ := Rz.form hh7
    refine E.opv hF (r_move (hF.at 0 rfl)) rfl rfl rfl rfl fun a hF => ?_
    refine E.opv hF (r_extract (v := .agg #[.bool b8, .slice ad8 n8 c8]) (hF.at 0 rfl) rfl) rfl rfl rfl rfl fun a hF => ?_
    refine E.opv hF (r_extract (v := .agg #[.bool b9, .slice ad9 n9 c9]) (hF.at 1 rfl) rfl) rfl rfl rfl rfl fun a hF => ?_
    obtain ⟨g3, w10, ge3, hr, bb, o3⟩ := own_alloc (P := Tryz.prog) (w := w3) (cs := [.bool false, .slice none 0 0]) 37 ze_RInt rfl (niB (niS ni0))
    have ne2_3 : g2 ≠ g3 := by rw [← ge3]; exact o2.ne_new
    replace ge3 : w.heap.size ≤ g3 := by rw [← ge3]; exact bel.size
    refine E.opv hF (r_alloc hr) rfl rfl rfl rfl fun a hF => ?_
    clear hr
    replace hh7 := hh7.below bb
    replace hh6 := hh6.below bb
    replace o2 := o2.below bb
    replace bel := below_to bel bb
    clear bb
    obtain ⟨g4, w11, ge4, hr, bb, o4⟩ := own_alloc (P := Tryz.prog) (w := w10) (cs := [.bool false, .slice none 0 0]) 37 ze_RInt rfl (niB (niS ni0))
    have ne2_4 : g2 ≠ g4 := by rw [← ge4]; exact o2.ne_new
    have ne3_4 : g3 ≠ g4 := by rw [← ge4]; exact o3.ne_new
    replace ge4 : w.heap.size ≤ g4 := by rw [← ge4]; exact bel.size
    refine E.opv hF (r_alloc hr) rfl rfl rfl rfl fun a hF => ?_
    clear hr
    replace hh7 := hh7.below bb
    replace hh6 := hh6.below bb
    replace o2 := o2.below bb
    replace o3 := o3.below bb
    replace bel := below_to bel bb
    clear bb
    obtain ⟨w12, hr, tu, on⟩ := st_RInt (vs := [.bool b8, .slice ad8 n8 c8]) o3 rfl rfl (ocB (ocS oc0)) (niB (niS ni0)) (o := 0) rfl
    have kp := tu.keep o3
    refine E.st hF (r_store (hF.at 1 rfl) (hF.at 3 rfl) (hr _ rfl)) rfl rfl fun a hF => ?_
    clear hr
    replace hh7 := hh7.keep kp
    replace hh6 := hh6.keep kp
    replace o2 := tu.own o2 ne2_3
    replace o4 := tu.own o4 (Ne.symm ne3_4)
    replace bel := tu.below bel ge3
    clear tu kp
    replace o3 := on
    clear on
    have hf13 := Rz.abs hh6
    obtain ⟨w14, hr, tu, on⟩ := st_RInt (vs := [.bool b9, .slice ad9 n9 c9]) o4 rfl rfl (ocB (ocS oc0)) (niB (niS ni0)) (o := 0) rfl
    have kp := tu.keep o4
    refine E.st hF (r_store (hF.at 0 rfl) (hF.at 2 rfl) (hr _ rfl)) rfl rfl fun a hF => ?_
    clear hr
    replace hf13 := hf13.keep kp
    replace hh6 := hh6.keep kp
    replace hh7 := hh7.keep kp
    replace o2 := tu.own o2 ne2_4
    replace o3 := tu.own o3 ne3_4
    replace bel := tu.below bel ge4
    clear tu kp
    replace o4 := on
    clear on
    have hf15 := Rz.abs hh7
    refine E.nil ?_
    refine wp_seq ?_
    refine wp_seq ?_
    refine E.seq ?_
    refine E.opv hF (r_field (hF.at 0 rfl) (fa_RInt_1 (p := 1) rfl)) rfl rfl rfl rfl fun a hF => ?_
    refine E.opv hF (r_load (hF.at 0 rfl) (ld_Num (v := .slice ad9 n9 c9) o4 rfl)) rfl rfl rfl rfl fun a hF => ?_
    refine E.opv hF (r_builtin (map1 (hF.at 0 rfl)) bl_num) rfl rfl rfl rfl fun a hF => ?_
    refine E.opv hF (r_bin (hF.at 0 rfl) ev_c eg_scalar (bi_int (ic_gtr (c := false) (rzl_f hz (by assumption))) (by simp))) rfl rfl rfl rfl fun a hF => ?_
    refine E.nil ?_
    refine wp_cond_false (hF.at 0 rfl) ?_
    refine wp_skip ?_
    refine E.norm ?_
    refine wp_seq ?_
    refine E.seq ?_
    refine E.opv hF (r_load (hF.at 5 rfl) (ld_RInt (vs := [.bool b8, .slice ad8 n8 c8]) o3 rfl rfl)) rfl rfl rfl rfl fun a hF => ?_
    obtain ⟨w16, hr, tu, on⟩ := st_RInt (vs := [.bool b8, .slice ad8 n8 c8]) o2 rfl rfl (ocB (ocS oc0)) (niB (niS ni0)) (o := 0) rfl
    have kp := tu.keep o2
    refine E.st hF (r_store (hF.at 16 rfl) (hF.at 0 rfl) (hr _ rfl)) rfl rfl fun a hF => ?_
    clear hr
    replace hh6 := hh6.keep kp
    replace hf13 := hf13.keep kp
    replace bel := tu.below bel ge2
    clear tu kp
    replace o2 := on
    clear on
    refine E.nil ?_
    refine wp_ret ?_
    refine bodyPost_ret (res_cell Tryz.results19 (hF.at 16 rfl) (ld_RInt (vs := [.bool b8, .slice ad8 n8 c8]) o2 rfl rfl)) hF.dfr ?_
    exact ⟨_, rfl, Rz.castM hh6 (by rw [hq1.out]; exact ceil_mk0 hD1 hz), bel⟩
  · have bel : Below w.heap.size w w := Below.refl _ _
    refine E.enter (nt := 22) (L := [(0, .agg #[.bool b1, .slice ad1 n1 c1, .slice ae1 m1 d1])]) Tryz.func19 rfl rfl rfl (args_cons (i := 0) rfl args_nil) ?_
    intro a hF
    refine wp_seq ?_
    refine E.seq ?_
    obtain ⟨g1, w1, ge1, hr, bb, o1⟩ := own_box (P := Tryz.prog) (w := w) (cs := [.bool b1, .slice ad1 n1 c1, .slice ae1 m1 d1]) (v := .agg #[.bool b1, .slice ad1 n1 c1, .slice ae1 m1 d1]) 39 rfl (niB (niS (niS ni0)))
    replace ge1 : w.heap.size ≤ g1 := by rw [← ge1]; exact bel.size
    refine E.opv hF (r_box (hF.at 0 rfl) hr) rfl rfl rfl rfl fun a hF => ?_
    clear hr
    replace h1 := h1.below bb
    replace hn1 := hn1.below bb
    replace ha1 := ha1.below bb
    replace hd1 := hd1.below bb
    replace bel := below_to bel bb
    clear bb
    obtain ⟨g2, w2, ge2, hr, bb, o2⟩ := own_alloc (P := Tryz.prog) (w := w1) (cs := [.bool false, .slice none 0 0]) 37 ze_RInt rfl (niB (niS ni0))
    have ne1_2 : g1 ≠ g2 := by rw [← ge2]; exact o1.ne_new
    replace ge2 : w.heap.size ≤ g2 := by rw [← ge2]; exact bel.size
    refine E.opv hF (r_alloc hr) rfl rfl rfl rfl fun a hF => ?_
    clear hr
    replace ha1 := ha1.below bb
    replace hd1 := hd1.below bb
    replace h1 := h1.below bb
    replace hn1 := hn1.below bb
    replace o1 := o1.below bb
    replace bel := below_to bel bb
    clear bb
    refine E.nil ?_
    refine wp_seq ?_
    refine E.seq ?_
    refine E.opv hF (r_field (hF.at 1 rfl) (fa_RRat_0 (p := 0) rfl)) rfl rfl rfl rfl fun a hF => ?_
    refine E.opv hF (r_load (hF.at 0 rfl) (ld_RInt (vs := [.bool b1, .slice ad1 n1 c1]) o1 rfl rfl)) rfl rfl rfl rfl fun a hF => ?_
    refine E.opv hF (r_field (hF.at 3 rfl) (fa_RRat_1 (p := 2) rfl)) rfl rfl rfl rfl fun a hF => ?_
    refine E.opv hF (r_load (hF.at 0 rfl) (ld_Num (v := .slice ae1 m1 d1) o1 rfl)) rfl rfl rfl rfl fun a hF => ?_
    refine E.opv hF (r_build (pair1 (hF.at 0 rfl)) (bd_RInt_1 _ _ _ _)) rfl rfl rfl rfl fun a hF => ?_
    refine E.call hF (r_call Tryz.func59 en59.1 en59.2 (map2 (hF.at 3 rfl) (hF.at 0 rfl))) (rDivMod_any _ _ _ _ k k _ hn1 (Rz.nat hd1) lz1 (lim_cast lD1) (by omega) (by omega)) rfl rfl rfl rfl ?_
    rintro e w3 ⟨vv4, vv5, rfl, hh6, hh7, bb⟩
    refine ⟨_, rfl, ?_⟩
    intro a hF
    replace o2 := o2.below bb
    replace bel := below_to bel bb
    clear bb
    obtain ⟨b8, ad8, n8, c8, rfl⟩ := Rz.form hh6
    obtain ⟨b9, ad9, n9, c9, rfl⟩ := Rz.form hh7
    refine E.opv hF (r_move (hF.at 0 rfl)) rfl rfl rfl rfl fun a hF => ?_
    refine E.opv hF (r_extract (v := .agg #[.bool b8, .slice ad8 n8 c8]) (hF.at 0 rfl) rfl) rfl rfl rfl rfl fun a hF => ?_
    refine E.opv hF (r_extract (v := .agg #[.bool b9, .slice ad9 n9 c9]) (hF.at 1 rfl) rfl) rfl rfl rfl rfl fun a hF => ?_
    obtain ⟨g3, w10, ge3, hr, bb, o3⟩ := own_alloc (P := Tryz.prog) (w := w3) (cs := [.bool false, .slice none 0 0]) 37 ze_RInt rfl (niB (niS ni0))
    have ne2_3 : g2 ≠ g3 := by rw [← ge3]; exact o2.ne_new
    replace ge3 : w.heap.size ≤ g3 := by rw [← ge3]; exact bel.size
    refine E.opv hF (r_alloc hr) rfl rfl rfl rfl fun a hF => ?_
    clear hr
    replace hh7 := hh7.below bb
    replace hh6 := hh6.below bb
    replace o2 := o2.below bb
    replace bel := below_to bel bb
    clear bb
    obtain ⟨g4, w11, ge4, hr, bb, o4⟩ := own_alloc (P := Tryz.prog) (w := w10) (cs := [.bool false, .slice none 0 0]) 37 ze_RInt rfl (niB (niS ni0))
    have ne2_4 : g2 ≠ g4 := by rw [← ge4]; exact o2.ne_new
    have ne3_4 : g3 ≠ g4 := by rw [← ge4]; exact o3.ne_new
    replace ge4 : w.heap.size ≤ g4 := by rw [← ge4]; exact bel.size
    refine E.opv hF (r_alloc hr) rfl rfl rfl rfl fun a hF => ?_
    clear hr
    replace hh7 := hh7.below bb
    replace hh6 := hh6.below bb
    replace o2 := o2.below bb
    replace o3 := o3.below bb
    replace bel := below_to bel bb
    clear bb
    obtain ⟨w12, hr, tu, on⟩ := st_RInt (vs := [.bool b8, .slice ad8 n8 c8]) o3 rfl rfl (ocB (ocS oc0)) (niB (niS ni0)) (o := 0) rfl
    have kp := tu.keep o3
    refine E.st hF (r_store (hF.at 1 rfl) (hF.at 3 rfl) (hr _ rfl)) rfl rfl fun a hF => ?_
    clear hr
    replace hh7 := hh7.keep kp
    replace hh6 := hh6.keep kp
    replace o2 := tu.own o2 ne2_3
    replace o4 := tu.own o4 (Ne.symm ne3_4)
    replace bel := tu.below bel ge3
    clear tu kp
    replace o3 := on
    clear on
    have hf13 := Rz.abs hh6
    obtain ⟨w14, hr, tu, on⟩ := st_RInt (vs := [.bool b9, .slice ad9 n9 c9]) o4 rfl rfl (ocB (ocS oc0)) (niB (niS ni0)) (o := 0) rfl
    have kp := tu.keep o4
    refine E.st hF (r_store (hF.at 0 rfl) (hF.at 2 rfl) (hr _ rfl)) rfl rfl fun a hF => ?_
    clear hr
    replace hf13 := hf13.keep kp
    replace hh6 := hh6.keep kp
    replace hh7 := hh7.keep kp
    replace o2 := tu.own o2 ne2_4
    replace o3 := tu.own o3 ne3_4
    replace bel := tu.below bel ge4
    clear tu kp
    replace o4 := on
    clear on
    have hf15 := Rz.abs hh7
    refine E.nil ?_
    refine wp_seq ?_
    refine wp_seq ?_
    refine E.seq ?_
    refine E.opv hF (r_field (hF.at 0 rfl) (fa_RInt_1 (p := 1) rfl)) rfl rfl rfl rfl fun a hF => ?_
    refine E.opv hF (r_load (hF.at 0 rfl) (ld_Num (v := .slice ad9 n9 c9) o4 rfl)) rfl rfl rfl rfl fun a hF => ?_
    refine E.opv hF (r_builtin (map1 (hF.at 0 rfl)) bl_num) rfl rfl rfl rfl fun a hF => ?_
    refine E.opv hF (r_bin (hF.at 0 rfl) ev_c eg_scalar (bi_int (ic_gtr (c := true) (rzl_t hz (by assumption))) (by simp))) rfl rfl rfl rfl fun a hF => ?_
    refine E.nil ?_
    refine wp_cond_true (hF.at 0 rfl) ?_
    refine E.drawn 3 mixed hF [18, 19, 20] [(fun _ v => v = .agg #[.bool b8, .slice ad8 n8 c8]), (fun w v => Rz w v (1)), (fun w v => Rz w v ((Int.fdiv (z1) (((D1 : Nat) : Int))) + 1))] [] (by decide +kernel) (by decide +kernel) rfl rfl rfl ⟨(Mb.eq _), (fun _ _ _ h hb => h.below hb), (fun _ _ _ h hb => h.below hb), trivial⟩ trivial ⟨?_, ?_, ?_, trivial⟩ ?_
    · intro a' w' hF' hb hd
      exact if_does (wanted_free rfl) (Does.vals (r_load (hF'.at 5 rfl) (ld_RInt (vs := [.bool b8, .slice ad8 n8 c8]) (o3.below hb) rfl rfl)) ⟨rfl, Below.refl _ _, (fun h => absurd h (by decide))⟩)
    · intro a' w' hF' hb hd
      refine if_does (wanted_free rfl) (Does.calls (r_call Tryz.func48 en48.1 en48.2 (map1 ev_c)) (rOf_any 1 _ (by decide) (by decide)) ?_)
      rintro e w'' ⟨v', rfl, h', bb⟩
      exact ⟨_, rfl, h', bb, (fun h => absurd h (by decide))⟩
    · intro a' w' hF' hb hd
      have e18 : a'.tmps.getD 18 undef = .agg #[.bool b8, .slice ad8 n8 c8] := hd _ 18 (Array.mem_of_getElem? (i := 0) rfl) rfl rfl
      obtain ⟨v19_0, e19, h19_1⟩ : ∃ v, a'.tmps.getD 19 undef = v ∧ Rz w' v (1) := ⟨_, rfl, hd _ 19 (Array.mem_of_getElem? (i := 1) rfl) rfl rfl⟩
      refine if_does (wanted_free rfl) (Does.calls (r_call Tryz.func62 en62.1 en62.2 (map2 e18 e19)) (radd_any3 _ _ _ _ (k + 1) 2 _ (hh6.below hb) h19_1 (limz_fdiv (((D1 : Nat) : Int)) lz1) (limz_of (by decide)) (by omega) (by omega)) ?_)
      rintro e w'' ⟨v', rfl, h', bb⟩
      exact ⟨_, rfl, h', bb, (fun h => absurd h (by decide))⟩
    intro a w16 hF bb hall hne
    obtain ⟨vv17, e20, hh18⟩ : ∃ v, a.tmps.getD 20 undef = v ∧ Rz w16 v ((Int.fdiv (z1) (((D1 : Nat) : Int))) + 1) := ⟨_, rfl, hall 2 20 rfl⟩
    clear hall hne
    replace hf13 := hf13.below bb
    replace hh6 := hh6.below bb
    replace o2 := o2.below bb
    replace o3 := o3.below bb
    replace bel := below_to bel bb
    clear bb
    obtain ⟨b19, ad19, n19, c19, rfl⟩ := Rz.form hh18
    replace hF := hF.add e20
    clear e20
    obtain ⟨w20, hr, tu, on⟩ := st_RInt (vs := [.bool b19, .slice ad19 n19 c19]) o3 rfl rfl (ocB (ocS oc0)) (niB (niS ni0)) (o := 0) rfl
    have kp := tu.keep o3
    refine E.st hF (r_store (hF.at 6 rfl) (hF.at 0 rfl) (hr _ rfl)) rfl rfl fun a hF => ?_
    clear hr
    replace hf13 := hf13.keep kp
    replace hh6 := hh6.keep kp
    replace hh18 := hh18.keep kp
    replace o2 := tu.own o2 ne2_3
    replace bel := tu.below bel ge3
    clear tu kp
    replace o3 := on
    clear on
    have hf21 := Rz.abs hh18
    refine E.nil ?_
    refine wp_seq ?_
    refine E.seq ?_
    refine E.opv hF (r_load (hF.at 6 rfl) (ld_RInt (vs := [.bool b19, .slice ad19 n19 c19]) o3 rfl rfl)) rfl rfl rfl rfl fun a hF => ?_
    obtain ⟨w22, hr, tu, on⟩ := st_RInt (vs := [.bool b19, .slice ad19 n19 c19]) o2 rfl rfl (ocB (ocS oc0)) (niB (niS ni0)) (o := 0) rfl
    have kp := tu.keep o2
    refine E.st hF (r_store (hF.at 17 rfl) (hF.at 0 rfl) (hr _ rfl)) rfl rfl fun a hF => ?_
    clear hr
    replace hh18 := hh18.keep kp
    replace hf21 := hf21.keep kp
    replace bel := tu.below bel ge2
    clear tu kp
    replace o2 := on
    clear on
    refine E.nil ?_
    refine wp_ret ?_
    refine bodyPost_ret (res_cell Tryz.results19 (hF.at 17 rfl) (ld_RInt (vs := [.bool b19, .slice ad19 n19 c19]) o2 rfl rfl)) hF.dfr ?_
    exact ⟨_, rfl, Rz.castM hh18 (by rw [hq1.out]; exact ceil_mk1 hD1 hz), bel⟩

set_option maxHeartbeats 1000000 in
theorem dRound_any (v1 : Value) (q1 : Rat) (k : Nat) (w : World) (h1 : Rr w v1 q1 k) (hp : 1 ≤ k) (hk : k ≤ 900) :
    Calls Tryz.prog 21 #[v1] w (RzPost w (Rat.floor (q1 + ((1 : Int) : Rat) / ((2 : Int) : Rat)))) := by
  have rl1 := h1.rlim
  obtain ⟨b1, ad1, n1, c1, ae1, m1, d1, z1, D1, rfl, hn1, hd1, hD1, hq1, lz1, lD1⟩ := h1.shape
  have h1 : Rr w (.agg #[.bool b1, .slice ad1 n1 c1, .slice ae1 m1 d1]) q1 k := ⟨_, _, _, _, _, _, _, _, _, rfl, hn1, hd1, hD1, hq1, lz1, lD1⟩
  have ha1 := hn1.abs
  have hb1 := hn1.neg
  replace hq1 := Lib.hid hq1
  have bel : Below w.heap.size w w := Below.refl _ _
  refine E.enter (nt := 7) (L := [(0, .agg #[.bool b1, .slice ad1 n1 c1, .slice ae1 m1 d1])]) Tryz.func21 rfl rfl rfl (args_cons (i := 0) rfl args_nil) ?_
  intro a hF
  refine wp_seq ?_
  refine E.seq ?_
  obtain ⟨g1, w1, ge1, hr, bb, o1⟩ := own_box (P := Tryz.prog) (w := w) (cs := [.bool b1, .slice ad1 n1 c1, .slice ae1 m1 d1]) (v := .agg #[.bool b1, .slice ad1 n1 c1, .slice ae1 m1 d1]) 39 rfl (niB (niS (niS ni0)))
  replace ge1 : w.heap.size ≤ g1 := by rw [← ge1]; exact bel.size
  refine E.opv hF (r_box (hF.at 0 rfl) hr) rfl rfl rfl rfl fun a hF => ?_
  clear hr
  replace h1 := h1.below bb
  replace hn1 := hn1.below bb
  replace ha1 := ha1.below bb
  replace hd1 := hd1.below bb
  replace bel := below_to bel bb
  clear bb
  obtain ⟨g2, w2, ge2, hr, bb, o2⟩ := own_alloc (P := Tryz.prog) (w := w1) (cs := [.bool false, .slice none 0 0]) 37 ze_RInt rfl (niB (niS ni0))
  have ne1_2 : g1 ≠ g2 := by rw [← ge2]; exact o1.ne_new
  replace ge2 : w.heap.size ≤ g2 := by rw [← ge2]; exact bel.size
  refine E.opv hF (r_alloc hr) rfl rfl rfl rfl fun a hF => ?_
  clear hr
  replace ha1 := ha1.below bb
  replace hd1 := hd1.below bb
  replace h1 := h1.below bb
  replace hn1 := hn1.below bb
  replace o1 := o1.below bb
  replace bel := below_to bel bb
  clear bb
  refine E.nil ?_
  refine wp_seq ?_
  refine E.drawn 4 mixed hF [3, 4, 5, 6] [(fun _ v => v = .agg #[.bool b1, .slice ad1 n1 c1, .slice ae1 m1 d1]), (fun w v => Rr w v (((1 : Int) : Rat) / ((2 : Int) : Rat)) (2)), (fun w v => Rr w v ((q1) + (((1 : Int) : Rat) / ((2 : Int) : Rat))) (((max k 2) + (max k 2) + 1))), (fun w v => Rz w v (Rat.floor ((q1) + (((1 : Int) : Rat) / ((2 : Int) : Rat)))))] [] (by decide +kernel) (by decide +kernel) rfl rfl rfl ⟨(Mb.eq _), (fun _ _ _ h hb => h.below hb), (fun _ _ _ h hb => h.below hb), (fun _ _ _ h hb => h.below hb), trivial⟩ trivial ⟨?_, ?_, ?_, ?_, trivial⟩ ?_
  · intro a' w' hF' hb hd
    exact if_does (wanted_free rfl) (Does.vals (r_load (hF'.at 1 rfl) (ld_RRat (vs := [.bool b1, .slice ad1 n1 c1, .slice ae1 m1 d1]) (o1.below hb) rfl rfl)) ⟨rfl, Below.refl _ _, (fun h => absurd h (by decide))⟩)
  · intro a' w' hF' hb hd
    refine if_does (wanted_free rfl) (Does.calls (r_call Tryz.func49 en49.1 en49.2 (map2 ev_c ev_c)) (dOf_any (1) (2) _ (by decide) (by decide) (by decide) (by decide)) ?_)
    rintro e w'' ⟨v', rfl, h', bb⟩
    exact ⟨_, rfl, h', bb, (fun h => absurd h (by decide))⟩
  · intro a' w' hF' hb hd
    have e3 : a'.tmps.getD 3 undef = .agg #[.bool b1, .slice ad1 n1 c1, .slice ae1 m1 d1] := hd _ 3 (Array.mem_of_getElem? (i := 0) rfl) rfl rfl
    obtain ⟨v4_0, e4, h4_1⟩ : ∃ v, a'.tmps.getD 4 undef = v ∧ Rr w' v (((1 : Int) : Rat) / ((2 : Int) : Rat)) (2) := ⟨_, rfl, hd _ 4 (Array.mem_of_getElem? (i := 1) rfl) rfl rfl⟩
    refine if_does (wanted_free rfl) (Does.calls (r_call Tryz.func63 en63.1 en63.2 (map2 e3 e4)) (dAdd_any _ _ (q1) (((1 : Int) : Rat) / ((2 : Int) : Rat)) (max k 2) _ (Rr.up (h1.below hb) _ (by omega)) (Rr.up h4_1 _ (by omega)) (by omega) (by omega)) ?_)
    rintro e w'' ⟨v', rfl, h', bb⟩
    exact ⟨_, rfl, h', bb, (fun h => absurd h (by decide))⟩
  · intro a' w' hF' hb hd
    obtain ⟨v5_0, e5, h5_1⟩ : ∃ v, a'.tmps.getD 5 undef = v ∧ Rr w' v ((q1) + (((1 : Int) : Rat) / ((2 : Int) : Rat))) (((max k 2) + (max k 2) + 1)) := ⟨_, rfl, hd _ 5 (Array.mem_of_getElem? (i := 0) rfl) rfl rfl⟩
    refine if_does (wanted_free rfl) (Does.calls (r_call Tryz.func17 en17.1 en17.2 (map1 e5)) (dFloor_any _ ((q1) + (((1 : Int) : Rat) / ((2 : Int) : Rat))) ((max k 2) + (max k 2) + 1) _ h5_1 (by omega) (by omega)) ?_)
    rintro e w'' ⟨v', rfl, h', bb⟩
    exact ⟨_, rfl, h', bb, (fun h => absurd h (by decide))⟩
  intro a w3 hF bb hall hne
  obtain ⟨vv4, e6, hh5⟩ : ∃ v, a.tmps.getD 6 undef = v ∧ Rz w3 v (Rat.floor ((q1) + (((1 : Int) : Rat) / ((2 : Int) : Rat)))) := ⟨_, rfl, hall 3 6 rfl⟩
  clear hall hne
  replace o2 := o2.below bb
  replace bel := below_to bel bb
  clear bb
  obtain ⟨b6, ad6, n6, c6, rfl⟩ := Rz.form hh5
  replace hF := hF.add e6
  clear e6
  obtain ⟨w7, hr, tu, on⟩ := st_RInt (vs := [.bool b6, .slice ad6 n6 c6]) o2 rfl rfl (ocB (ocS oc0)) (niB (niS ni0)) (o := 0) rfl
  have kp := tu.keep o2
  refine E.st hF (r_store (hF.at 1 rfl) (hF.at 0 rfl) (hr _ rfl)) rfl rfl fun a hF => ?_
  clear hr
  replace hh5 := hh5.keep kp
  replace bel := tu.below bel ge2
  clear tu kp
  replace o2 := on
  clear on
  have hf8 := Rz.abs hh5
  refine E.nil ?_
  refine wp_ret ?_
  refine bodyPost_ret (res_cell Tryz.results21 (hF.at 1 rfl) (ld_RInt (vs := [.bool b6, .slice ad6 n6 c6]) o2 rfl rfl)) hF.dfr ?_
  exact ⟨_, rfl, hh5, bel⟩

set_option maxHeartbeats 1000000 in
theorem dWhole_any (v1 : Value) (z1 : Int) (k : Nat) (w : World) (h1 : Rz w v1 z1) (l1 : Lim z1.natAbs k) (hp : 1 ≤ k) :
    Calls Tryz.prog 83 #[v1] w (RrPost w ((z1 : Int) : Rat) k) := by
  obtain ⟨b1, ad1, n1, c1, rfl⟩ := h1.form
  have ha1 := h1.abs
  have hb1 := h1.neg
  have bel : Below w.heap.size w w := Below.refl _ _
  refine E.enter (nt := 6) (L := [(0, .agg #[.bool b1, .slice ad1 n1 c1])]) Tryz.func83 rfl rfl rfl (args_cons (i := 0) rfl args_nil) ?_
  intro a hF
  refine wp_seq ?_
  refine E.seq ?_
  obtain ⟨g1, w1, ge1, hr, bb, o1⟩ := own_box (P := Tryz.prog) (w := w) (cs := [.bool b1, .slice ad1 n1 c1]) (v := .agg #[.bool b1, .slice ad1 n1 c1]) 37 rfl (niB (niS ni0))
  replace ge1 : w.heap.size ≤ g1 := by rw [← ge1]; exact bel.size
  refine E.opv hF (r_box (hF.at 0 rfl) hr) rfl rfl rfl rfl fun a hF => ?_
  clear hr
  replace h1 := h1.below bb
  replace ha1 := ha1.below bb
  replace bel := below_to bel bb
  clear bb
  obtain ⟨g2, w2, ge2, hr, bb, o2⟩ := own_alloc (P := Tryz.prog) (w := w1) (cs := [.bool false, .slice none 0 0, .slice none 0 0]) 39 ze_RRat rfl (niB (niS (niS ni0)))
  have ne1_2 : g1 ≠ g2 := by rw [← ge2]; exact o1.ne_new
  replace ge2 : w.heap.size ≤ g2 := by rw [← ge2]; exact bel.size
  refine E.opv hF (r_alloc hr) rfl rfl rfl rfl fun a hF => ?_
  clear hr
  replace ha1 := ha1.below bb
  replace h1 := h1.below bb
  replace o1 := o1.below bb
  replace bel := below_to bel bb
  clear bb
  refine E.nil ?_
  refine wp_seq ?_
  refine E.seq ?_
  refine E.opv hF (r_load (hF.at 1 rfl) (ld_RInt (vs := [.bool b1, .slice ad1 n1 c1]) o1 rfl rfl)) rfl rfl rfl rfl fun a hF => ?_
  obtain ⟨vv3, w4, hr, bb, hh5⟩ := bs_one w2
  refine E.opv hF (r_buildSlice (qs := #[(0, .int .i64 1)]) (pair1 ev_c) hr) rfl rfl rfl rfl fun a hF => ?_
  clear hr
  replace h1 := h1.below bb
  replace ha1 := ha1.below bb
  replace o2 := o2.below bb
  replace bel := below_to bel bb
  clear bb
  obtain ⟨ad6, n6, c6, rfl⟩ := Dg.form hh5
  refine E.opv hF (r_build (pair2 (hF.at 1 rfl) (hF.at 0 rfl)) (bd_RRat_01 _ _ _ _ _ _ _ _)) rfl rfl rfl rfl fun a hF => ?_
  obtain ⟨w7, hr, tu, on⟩ := st_RRat (vs := [.bool b1, .slice ad1 n1 c1, .slice ad6 n6 c6]) o2 rfl rfl (ocB (ocS (ocS oc0))) (niB (niS (niS ni0))) (o := 0) rfl
  have kp := tu.keep o2
  refine E.st hF (r_store (hF.at 3 rfl) (hF.at 0 rfl) (hr _ rfl)) rfl rfl fun a hF => ?_
  clear hr
  replace h1 := h1.keep kp
  replace ha1 := ha1.keep kp
  replace hh5 := hh5.keep kp
  replace bel := tu.below bel ge2
  clear tu kp
  replace o2 := on
  clear on
  refine E.nil ?_
  refine wp_ret ?_
  refine bodyPost_ret (res_cell Tryz.results83 (hF.at 3 rfl) (ld_RRat (vs := [.bool b1, .slice ad1 n1 c1, .slice ad6 n6 c6]) o2 rfl rfl)) hF.dfr ?_
  exact ⟨_, rfl, (Rr.mk h1 hh5 (by decide) (int_mk z1) l1 (Lim.one hp)), bel⟩

set_option maxHeartbeats 4000000 in
theorem dMod_any (v1 v2 : Value) (q1 q2 : Rat) (k : Nat) (w : World) (h1 : Rr w v1 q1 k) (h2 : Rr w v2 q2 k) (hp : 1 ≤ k) (hk : k ≤ 1000) :
    Calls Tryz.prog 33 #[v1, v2] w (RrPost w (rmod q1 q2) (10 * k + 20)) := by
  have rl1 := h1.rlim
  obtain ⟨b1, ad1, n1, c1, ae1, m1, d1, z1, D1, rfl, hn1, hd1, hD1, hq1, lz1, lD1⟩ := h1.shape
  have h1 : Rr w (.agg #[.bool b1, .slice ad1 n1 c1, .slice ae1 m1 d1]) q1 k := ⟨_, _, _, _, _, _, _, _, _, rfl, hn1, hd1, hD1, hq1, lz1, lD1⟩
  have ha1 := hn1.abs
  have hb1 := hn1.neg
  replace hq1 := Lib.hid hq1
  have rl2 := h2.rlim
  obtain ⟨b2, ad2, n2, c2, ae2, m2, d2, z2, D2, rfl, hn2, hd2, hD2, hq2, lz2, lD2⟩ := h2.shape
  have h2 : Rr w (.agg #[.bool b2, .slice ad2 n2 c2, .slice ae2 m2 d2]) q2 k := ⟨_, _, _, _, _, _, _, _, _, rfl, hn2, hd2, hD2, hq2, lz2, lD2⟩
  have ha2 := hn2.abs
  have hb2 := hn2.neg
  replace hq2 := Lib.hid hq2
  by_cases h0 : sz (Rat.num (q2)) ≤ 0
  · have bel : Below w.heap.size w w := Below.refl _ _
    refine E.enter (nt := 18) (L := [(0, .agg #[.bool b1, .slice ad1 n1 c1, .slice ae1 m1 d1]), (1, .agg #[.bool b2, .slice ad2 n2 c2, .slice ae2 m2 d2])]) Tryz.func33 rfl rfl rfl (args_cons (i := 0) rfl (args_cons (i := 1) rfl args_nil)) ?_
    intro a hF
    refine wp_seq ?_
    refine E.seq ?_
    obtain ⟨g2, w1, ge2, hr, bb, o2⟩ := own_box (P := Tryz.prog) (w := w) (cs := [.bool b1, .slice ad1 n1 c1, .slice ae1 m1 d1]) (v := .agg #[.bool b1, .slice ad1 n1 c1, .slice ae1 m1 d1]) 39 rfl (niB (niS (niS ni0)))
    replace ge2 : w.heap.size ≤ g2 := by rw [← ge2]; exact bel.size
    refine E.opv hF (r_box (hF.at 0 rfl) hr) rfl rfl rfl rfl fun a hF => ?_
    clear hr
    replace h2 := h2.below bb
    replace hn2 := hn2.below bb
    replace ha2 := ha2.below bb
    replace hd2 := hd2.below bb
    replace h1 := h1.below bb
    replace hn1 := hn1.below bb
    replace ha1 := ha1.below bb
    replace hd1 := hd1.below bb
    replace bel := below_to bel bb
    clear bb
    obtain ⟨g3, w2, ge3, hr, bb, o3⟩ := own_box (P := Tryz.prog) (w := w1) (cs := [.bool b2, .slice ad2 n2 c2, .slice ae2 m2 d2]) (v := .agg #[.bool b2, .slice ad2 n2 c2, .slice ae2 m2 d2]) 39 rfl (niB (niS (niS ni0)))
    have ne2_3 : g2 ≠ g3 := by rw [← ge3]; exact o2.ne_new
    replace ge3 : w.heap.size ≤ g3 := by rw [← ge3]; exact bel.size
    refine E.opv hF (r_box (hF.at 2 rfl) hr) rfl rfl rfl rfl fun a hF => ?_
    clear hr
    replace ha1 := ha1.below bb
    replace hd1 := hd1.below bb
    replace h1 := h1.below bb
    replace hn1 := hn1.below bb
    replace h2 := h2.below bb
    replace hn2 := hn2.below bb
    replace ha2 := ha2.below bb
    replace hd2 := hd2.below bb
    replace o2 := o2.below bb
    replace bel := below_to bel bb
    clear bb
    obtain ⟨g4, w3, ge4, hr, bb, o4⟩ := own_alloc (P := Tryz.prog) (w := w2) (cs := [.bool false, .slice none 0 0, .slice none 0 0]) 39 ze_RRat rfl (niB (niS (niS ni0)))
    have ne2_4 : g2 ≠ g4 := by rw [← ge4]; exact o2.ne_new
    have ne3_4 : g3 ≠ g4 := by rw [← ge4]; exact o3.ne_new
    replace ge4 : w.heap.size ≤ g4 := by rw [← ge4]; exact bel.size
    refine E.opv hF (r_alloc hr) rfl rfl rfl rfl fun a hF => ?_
    clear hr
    replace ha1 := ha1.below bb
    replace hd1 := hd1.below bb
    replace h1 := h1.below bb
    replace hn1 := hn1.below bb
    replace ha2 := ha2.below bb
    replace hd2 := hd2.below bb
    replace h2 := h2.below bb
    replace hn2 := hn2.below bb
    replace o2 := o2.below bb
    replace o3 := o3.below bb
    replace bel := below_to bel bb
    clear bb
    refine E.nil ?_
    refine wp_seq ?_
    refine wp_seq ?_
    refine E.seq ?_
    refine E.opv hF (r_load (hF.at 1 rfl) (ld_RRat (vs := [.bool b2, .slice ad2 n2 c2, .slice ae2 m2 d2]) o3 rfl rfl)) rfl rfl rfl rfl fun a hF => ?_
    refine E.call hF (r_call Tryz.func80 en80.1 en80.2 (map1 (hF.at 0 rfl))) (dSgn_any _ (q2) k _ h2) rfl rfl rfl rfl ?_
    rintro e w4 ⟨rfl, bb⟩
    refine ⟨_, rfl, ?_⟩
    intro a hF
    replace ha1 := ha1.below bb
    replace hd1 := hd1.below bb
    replace h1 := h1.below bb
    replace hn1 := hn1.below bb
    replace ha2 := ha2.below bb
    replace hd2 := hd2.below bb
    replace h2 := h2.below bb
    replace hn2 := hn2.below bb
    replace o2 := o2.below bb
    replace o3 := o3.below bb
    replace o4 := o4.below bb
    replace bel := below_to bel bb
    clear bb
    refine E.opv hF (r_bin (hF.at 0 rfl) ev_c eg_scalar (bi_int (ic_leq (c := true) (dec_tt h0)) (by simp))) rfl rfl rfl rfl fun a hF => ?_
    refine E.nil ?_
    refine wp_cond_true (hF.at 0 rfl) ?_
    refine wp_seq ?_
    refine E.seq ?_
    refine E.call hF (r_call Tryz.func49 en49.1 en49.2 (map2 ev_c ev_c)) (dOf_any (0) (1) _ (by decide) (by decide) (by decide) (by decide)) rfl rfl rfl rfl ?_
    rintro e w5 ⟨vv6, rfl, hh7, bb⟩
    refine ⟨_, rfl, ?_⟩
    intro a hF
    replace ha1 := ha1.below bb
    replace hd1 := hd1.below bb
    replace h1 := h1.below bb
    replace hn1 := hn1.below bb
    replace ha2 := ha2.below bb
    replace hd2 := hd2.below bb
    replace h2 := h2.below bb
    replace hn2 := hn2.below bb
    replace o2 := o2.below bb
    replace o3 := o3.below bb
    replace o4 := o4.below bb
    replace bel := below_to bel bb
    clear bb
    obtain ⟨b8, ad8, n8, c8, ae8, m8, d8, z8, D8, rfl, hn8, hd8, hD8, hq8, lz8, lD8⟩ := Rr.shape hh7
    have ha8 := hn8.abs
    obtain ⟨w9, hr, tu, on⟩ := st_RRat (vs := [.bool b8, .slice ad8 n8 c8, .slice ae8 m8 d8]) o4 rfl rfl (ocB (ocS (ocS oc0))) (niB (niS (niS ni0))) (o := 0) rfl
    have kp := tu.keep o4
    refine E.st hF (r_store (hF.at 4 rfl) (hF.at 0 rfl) (hr _ rfl)) rfl rfl fun a hF => ?_
    clear hr
    replace ha1 := ha1.keep kp
    replace hd1 := hd1.keep kp
    replace h1 := h1.keep kp
    replace hn1 := hn1.keep kp
    replace ha2 := ha2.keep kp
    replace hd2 := hd2.keep kp
    replace h2 := h2.keep kp
    replace hn2 := hn2.keep kp
    replace hh7 := hh7.keep kp
    replace hn8 := hn8.keep kp
    replace ha8 := ha8.keep kp
    replace hd8 := hd8.keep kp
    replace o2 := tu.own o2 ne2_4
    replace o3 := tu.own o3 ne3_4
    replace bel := tu.below bel ge4
    clear tu kp
    replace o4 := on
    clear on
    refine E.nil ?_
    refine wp_ret ?_
    refine bodyPost_ret (res_cell Tryz.results33 (hF.at 4 rfl) (ld_RRat (vs := [.bool b8, .slice ad8 n8 c8, .slice ae8 m8 d8]) o4 rfl rfl)) hF.dfr ?_
    exact ⟨_, rfl, Rr.cast (Rr.up hh7 _ (by omega)) (zero_of1.trans (rmod_no h0)), bel⟩
  · have bel : Below w.heap.size w w := Below.refl _ _
    refine E.enter (nt := 18) (L := [(0, .agg #[.bool b1, .slice ad1 n1 c1, .slice ae1 m1 d1]), (1, .agg #[.bool b2, .slice ad2 n2 c2, .slice ae2 m2 d2])]) Tryz.func33 rfl rfl rfl (args_cons (i := 0) rfl (args_cons (i := 1) rfl args_nil)) ?_
    intro a hF
    refine wp_seq ?_
    refine E.seq ?_
    obtain ⟨g2, w1, ge2, hr, bb, o2⟩ := own_box (P := Tryz.prog) (w := w) (cs := [.bool b1, .slice ad1 n1 c1, .slice ae1 m1 d1]) (v := .agg #[.bool b1, .slice ad1 n1 c1, .slice ae1 m1 d1]) 39 rfl (niB (niS (niS ni0)))
    replace ge2 : w.heap.size ≤ g2 := by rw [← ge2]; exact bel.size
    refine E.opv hF (r_box (hF.at 0 rfl) hr) rfl rfl rfl rfl fun a hF => ?_
    clear hr
    replace h2 := h2.below bb
    replace hn2 := hn2.below bb
    replace ha2 := ha2.below bb
    replace hd2 := hd2.below bb
    replace h1 := h1.below bb
    replace hn1 := hn1.below bb
    replace ha1 := ha1.below bb
    replace hd1 := hd1.below bb
    replace bel := below_to bel bb
    clear bb
    obtain ⟨g3, w2, ge3, hr, bb, o3⟩ := own_box (P := Tryz.prog) (w := w1) (cs := [.bool b2, .slice ad2 n2 c2, .slice ae2 m2 d2]) (v := .agg #[.bool b2, .slice ad2 n2 c2, .slice ae2 m2 d2]) 39 rfl (niB (niS (niS ni0)))
    have ne2_3 : g2 ≠ g3 := by rw [← ge3]; exact o2.ne_new
    replace ge3 : w.heap.size ≤ g3 := by rw [← ge3]; exact bel.size
    refine E.opv hF (r_box (hF.at 2 rfl) hr) rfl rfl rfl rfl fun a hF => ?_
    clear hr
    replace ha1 := ha1.below bb
    replace hd1 := hd1.below bb
    replace h1 := h1.below bb
    replace hn1 := hn1.below bb
    replace h2 := h2.below bb
    replace hn2 := hn2.below bb
    replace ha2 := ha2.below bb
    replace hd2 := hd2.below bb
    replace o2 := o2.below bb
    replace bel := below_to bel bb
    clear bb
    obtain ⟨g4, w3, ge4, hr, bb, o4⟩ := own_alloc (P := Tryz.prog) (w := w2) (cs := [.bool false, .slice none 0 0, .slice none 0 0]) 39 ze_RRat rfl (niB (niS (niS ni0)))
    have ne2_4 : g2 ≠ g4 := by rw [← ge4]; exact o2.ne_new
    have ne3_4 : g3 ≠ g4 := by rw [← ge4]; exact o3.ne_new
    replace ge4 : w.heap.size ≤ g4 := by rw [← ge4]; exact bel.size
    refine E.opv hF (r_alloc hr) rfl rfl rfl rfl fun a hF => ?_
    clear hr
    replace ha1 := ha1.below bb
    replace hd1 := hd1.below bb
    replace h1 := h1.below bb
    replace hn1 := hn1.below bb
    replace ha2 := ha2.below bb
    replace hd2 := hd2.below bb
    replace h2 := h2.below bb
    replace hn2 := hn2.below bb
    replace o2 := o2.below bb
    replace o3 := o3.below bb
    replace bel := below_to bel bb
    clear bb
    refine E.nil ?_
    refine wp_seq ?_
    refine wp_seq ?_
    refine E.seq ?_
    refine E.opv hF (r_load (hF.at 1 rfl) (ld_RRat (vs := [.bool b2, .slice ad2 n2 c2, .slice ae2 m2 d2]) o3 rfl rfl)) rfl rfl rfl rfl fun a hF => ?_
    refine E.call hF (r_call Tryz.func80 en80.1 en80.2 (map1 (hF.at 0 rfl))) (dSgn_any _ (q2) k _ h2) rfl rfl rfl rfl ?_
    rintro e w4 ⟨rfl, bb⟩
    refine ⟨_, rfl, ?_⟩
    intro a hF
    replace ha1 := ha1.below bb
    replace hd1 := hd1.below bb
    replace h1 := h1.below bb
    replace hn1 := hn1.below bb
    replace ha2 := ha2.below bb
    replace hd2 := hd2.below bb
    replace h2 := h2.below bb
    replace hn2 := hn2.below bb
    replace o2 := o2.below bb
    replace o3 := o3.below bb
    replace o4 := o4.below bb
    replace bel := below_to bel bb
    clear bb
    refine E.opv hF (r_bin (hF.at 0 rfl) ev_c eg_scalar (bi_int (ic_leq (c := false) (dec_ff h0)) (by simp))) rfl rfl rfl rfl fun a hF => ?_
    refine E.nil ?_
    refine wp_cond_false (hF.at 0 rfl) ?_
    refine wp_skip ?_
    refine E.norm ?_
    refine wp_seq ?_
    refine E.drawn 9 mixed hF [9, 10, 11, 12, 13, 14, 15, 16, 17] [(fun _ v => v = .agg #[.bool b1, .slice ad1 n1 c1, .slice ae1 m1 d1]), (fun _ v => v = .agg #[.bool b2, .slice ad2 n2 c2, .slice ae2 m2 d2]), (fun _ v => v = .agg #[.bool b1, .slice ad1 n1 c1, .slice ae1 m1 d1]), (fun _ v => v = .agg #[.bool b2, .slice ad2 n2 c2, .slice ae2 m2 d2]), (fun w v => Rr w v ((q1) / (q2)) ((k + k))), (fun w v => Rz w v (Rat.floor ((q1) / (q2)))), (fun w v => Rr w v (((Rat.floor ((q1) / (q2)) : Int) : Rat)) ((((k + k) + 1) + 1))), (fun w v => Rr w v ((q2) * (((Rat.floor ((q1) / (q2)) : Int) : Rat))) (((max k (((k + k) + 1) + 1)) + (max k (((k + k) + 1) + 1))))), (fun w v => Rr w v ((q1) - ((q2) * (((Rat.floor ((q1) / (q2)) : Int) : Rat)))) (((max k ((max k (((k + k) + 1) + 1)) + (max k (((k + k) + 1) + 1)))) + (max k ((max k (((k + k) + 1) + 1)) + (max k (((k + k) + 1) + 1)))) + 1)))] [] (by decide +kernel) (by decide +kernel) rfl rfl rfl ⟨(Mb.eq _), (Mb.eq _), (Mb.eq _), (Mb.eq _), (fun _ _ _ h hb => h.below hb), (fun _ _ _ h hb => h.below hb), (fun _ _ _ h hb => h.below hb), (fun _ _ _ h hb => h.below hb), (fun _ _ _ h hb => h.below hb), trivial⟩ trivial ⟨?_, ?_, ?_, ?_, ?_, ?_, ?_, ?_, ?_, trivial⟩ ?_
    · intro a' w' hF' hb hd
      exact if_does (wanted_free rfl) (Does.vals (r_load (hF'.at 5 rfl) (ld_RRat (vs := [.bool b1, .slice ad1 n1 c1, .slice ae1 m1 d1]) (o2.below hb) rfl rfl)) ⟨rfl, Below.refl _ _, (fun h => absurd h (by decide))⟩)
    · intro a' w' hF' hb hd
      exact if_does (wanted_free rfl) (Does.vals (r_load (hF'.at 4 rfl) (ld_RRat (vs := [.bool b2, .slice ad2 n2 c2, .slice ae2 m2 d2]) (o3.below hb) rfl rfl)) ⟨rfl, Below.refl _ _, (fun h => absurd h (by decide))⟩)
    · intro a' w' hF' hb hd
      exact if_does (wanted_free rfl) (Does.vals (r_load (hF'.at 5 rfl) (ld_RRat (vs := [.bool b1, .slice ad1 n1 c1, .slice ae1 m1 d1]) (o2.below hb) rfl rfl)) ⟨rfl, Below.refl _ _, (fun h => absurd h (by decide))⟩)
    · intro a' w' hF' hb hd
      exact if_does (wanted_free rfl) (Does.vals (r_load (hF'.at 4 rfl) (ld_RRat (vs := [.bool b2, .slice ad2 n2 c2, .slice ae2 m2 d2]) (o3.below hb) rfl rfl)) ⟨rfl, Below.refl _ _, (fun h => absurd h (by decide))⟩)
    · intro a' w' hF' hb hd
      have e11 : a'.tmps.getD 11 undef = .agg #[.bool b1, .slice ad1 n1 c1, .slice ae1 m1 d1] := hd _ 11 (Array.mem_of_getElem? (i := 0) rfl) rfl rfl
      have e12 : a'.tmps.getD 12 undef = .agg #[.bool b2, .slice ad2 n2 c2, .slice ae2 m2 d2] := hd _ 12 (Array.mem_of_getElem? (i := 1) rfl) rfl rfl
      refine if_does (wanted_free rfl) (Does.calls (r_call Tryz.func84 en84.1 en84.2 (map2 e11 e12)) (dDiv_any _ _ (q1) (q2) k _ (h1.below hb) (h2.below hb) (by omega) (by omega)) ?_)
      rintro e w'' ⟨v', rfl, h', bb⟩
      exact ⟨_, rfl, h', bb, (fun h => absurd h (by decide))⟩
    · intro a' w' hF' hb hd
      obtain ⟨v13_0, e13, h13_1⟩ : ∃ v, a'.tmps.getD 13 undef = v ∧ Rr w' v ((q1) / (q2)) ((k + k)) := ⟨_, rfl, hd _ 13 (Array.mem_of_getElem? (i := 0) rfl) rfl rfl⟩
      refine if_does (wanted_free rfl) (Does.calls (r_call Tryz.func17 en17.1 en17.2 (map1 e13)) (dFloor_any _ ((q1) / (q2)) (k + k) _ h13_1 (by omega) (by omega)) ?_)
      rintro e w'' ⟨v', rfl, h', bb⟩
      exact ⟨_, rfl, h', bb, (fun h => absurd h (by decide))⟩
    · intro a' w' hF' hb hd
      obtain ⟨v14_0, e14, h14_1⟩ : ∃ v, a'.tmps.getD 14 undef = v ∧ Rz w' v (Rat.floor ((q1) / (q2))) := ⟨_, rfl, hd _ 14 (Array.mem_of_getElem? (i := 0) rfl) rfl rfl⟩
      refine if_does (wanted_free rfl) (Does.calls (r_call Tryz.func83 en83.1 en83.2 (map1 e14)) (dWhole_any _ (Rat.floor ((q1) / (q2))) (((k + k) + 1) + 1) _ h14_1 (Lim.up (fl_lim (rlim_div rl1 rl2)) _ (by omega)) (by omega)) ?_)
      rintro e w'' ⟨v', rfl, h', bb⟩
      exact ⟨_, rfl, h', bb, (fun h => absurd h (by decide))⟩
    · intro a' w' hF' hb hd
      have e10 : a'.tmps.getD 10 undef = .agg #[.bool b2, .slice ad2 n2 c2, .slice ae2 m2 d2] := hd _ 10 (Array.mem_of_getElem? (i := 0) rfl) rfl rfl
      obtain ⟨v15_0, e15, h15_1⟩ : ∃ v, a'.tmps.getD 15 undef = v ∧ Rr w' v (((Rat.floor ((q1) / (q2)) : Int) : Rat)) ((((k + k) + 1) + 1)) := ⟨_, rfl, hd _ 15 (Array.mem_of_getElem? (i := 1) rfl) rfl rfl⟩
      refine if_does (wanted_free rfl) (Does.calls (r_call Tryz.func82 en82.1 en82.2 (map2 e10 e15)) (dMul_any _ _ (q2) (((Rat.floor ((q1) / (q2)) : Int) : Rat)) (max k (((k + k) + 1) + 1)) _ (Rr.up (h2.below hb) _ (by omega)) (Rr.up h15_1 _ (by omega)) (by omega) (by omega)) ?_)
      rintro e w'' ⟨v', rfl, h', bb⟩
      exact ⟨_, rfl, h', bb, (fun h => absurd h (by decide))⟩
    · intro a' w' hF' hb hd
      have e9 : a'.tmps.getD 9 undef = .agg #[.bool b1, .slice ad1 n1 c1, .slice ae1 m1 d1] := hd _ 9 (Array.mem_of_getElem? (i := 0) rfl) rfl rfl
      obtain ⟨v16_0, e16, h16_1⟩ : ∃ v, a'.tmps.getD 16 undef = v ∧ Rr w' v ((q2) * (((Rat.floor ((q1) / (q2)) : Int) : Rat))) (((max k (((k + k) + 1) + 1)) + (max k (((k + k) + 1) + 1)))) := ⟨_, rfl, hd _ 16 (Array.mem_of_getElem? (i := 1) rfl) rfl rfl⟩
      refine if_does (wanted_free rfl) (Does.calls (r_call Tryz.func81 en81.1 en81.2 (map2 e9 e16)) (dSub_any _ _ (q1) ((q2) * (((Rat.floor ((q1) / (q2)) : Int) : Rat))) (max k ((max k (((k + k) + 1) + 1)) + (max k (((k + k) + 1) + 1)))) _ (Rr.up (h1.below hb) _ (by omega)) (Rr.up h16_1 _ (by omega)) (by omega) (by omega)) ?_)
      rintro e w'' ⟨v', rfl, h', bb⟩
      exact ⟨_, rfl, h', bb, (fun h => absurd h (by decide))⟩
    intro a w5 hF bb hall hne
    obtain ⟨vv6, e17, hh7⟩ : ∃ v, a.tmps.getD 17 undef = v ∧ Rr w5 v ((q1) - ((q2) * (((Rat.floor ((q1) / (q2)) : Int) : Rat)))) (((max k ((max k (((k + k) + 1) + 1)) + (max k (((k + k) + 1) + 1)))) + (max k ((max k (((k + k) + 1) + 1)) + (max k (((k + k) + 1) + 1)))) + 1)) := ⟨_, rfl, hall 8 17 rfl⟩
    clear hall hne
    replace o4 := o4.below bb
    replace bel := below_to bel bb
    clear bb
    obtain ⟨b8, ad8, n8, c8, ae8, m8, d8, z8, D8, rfl, hn8, hd8, hD8, hq8, lz8, lD8⟩ := Rr.shape hh7
    have ha8 := hn8.abs
    replace hF := hF.add e17
    clear e17
    obtain ⟨w9, hr, tu, on⟩ := st_RRat (vs := [.bool b8, .slice ad8 n8 c8, .slice ae8 m8 d8]) o4 rfl rfl (ocB (ocS (ocS oc0))) (niB (niS (niS ni0))) (o := 0) rfl
    have kp := tu.keep o4
    refine E.st hF (r_store (hF.at 4 rfl) (hF.at 0 rfl) (hr _ rfl)) rfl rfl fun a hF => ?_
    clear hr
    replace hh7 := hh7.keep kp
    replace hn8 := hn8.keep kp
    replace ha8 := ha8.keep kp
    replace hd8 := hd8.keep kp
    replace bel := tu.below bel ge4
    clear tu kp
    replace o4 := on
    clear on
    refine E.nil ?_
    refine wp_ret ?_
    refine bodyPost_ret (res_cell Tryz.results33 (hF.at 4 rfl) (ld_RRat (vs := [.bool b8, .slice ad8 n8 c8, .slice ae8 m8 d8]) o4 rfl rfl)) hF.dfr ?_
    exact ⟨_, rfl, Rr.cast (Rr.up hh7 _ (by omega)) (rmod_yes h0), bel⟩

set_option maxHeartbeats 4000000 in
theorem dInto_any (v1 v2 v3 : Value) (q1 q2 q3 : Rat) (k : Nat) (w : World) (h1 : Rr w v1 q1 k) (h2 : Rr w v2 q2 k) (h3 : Rr w v3 q3 k) (hp : 1 ≤ k) (hk : k ≤ 400) :
    Calls Tryz.prog 34 #[v1, v2, v3] w (RrPost w (rinto q1 q2 q3) (50 * k + 100)) := by
  have rl1 := h1.rlim
  obtain ⟨b1, ad1, n1, c1, ae1, m1, d1, z1, D1, rfl, hn1, hd1, hD1, hq1, lz1, lD1⟩ := h1.shape
  have h1 : Rr w (.agg #[.bool b1, .slice ad1 n1 c1, .slice ae1 m1 d1]) q1 k := ⟨_, _, _, _, _, _, _, _, _, rfl, hn1, hd1, hD1, hq1, lz1, lD1⟩
  have ha1 := hn1.abs
  have hb1 := hn1.neg
  replace hq1 := Lib.hid hq1
  have rl2 := h2.rlim
  obtain ⟨b2, ad2, n2, c2, ae2, m2, d2, z2, D2, rfl, hn2, hd2, hD2, hq2, lz2, lD2⟩ := h2.shape
  have h2 : Rr w (.agg #[.bool b2, .slice ad2 n2 c2, .slice ae2 m2 d2]) q2 k := ⟨_, _, _, _, _, _, _, _, _, rfl, hn2, hd2, hD2, hq2, lz2, lD2⟩
  have ha2 := hn2.abs
  have hb2 := hn2.neg
  replace hq2 := Lib.hid hq2
  have rl3 := h3.rlim
  obtain ⟨b3, ad3, n3, c3, ae3, m3, d3, z3, D3, rfl, hn3, hd3, hD3, hq3, lz3, lD3⟩ := h3.shape
  have h3 : Rr w (.agg #[.bool b3, .slice ad3 n3 c3, .slice ae3 m3 d3]) q3 k := ⟨_, _, _, _, _, _, _, _, _, rfl, hn3, hd3, hD3, hq3, lz3, lD3⟩
  have ha3 := hn3.abs
  have hb3 := hn3.neg
  replace hq3 := Lib.hid hq3
  by_cases h0 : sz (Rat.num ((q3) - (q2))) ≤ 0
  · have bel : Below w.heap.size w w := Below.refl _ _
    refine E.enter (nt := 21) (L := [(0, .agg #[.bool b1, .slice ad1 n1 c1, .slice ae1 m1 d1]), (1, .agg #[.bool b2, .slice ad2 n2 c2, .slice ae2 m2 d2]), (2, .agg #[.bool b3, .slice ad3 n3 c3, .slice ae3 m3 d3])]) Tryz.func34 rfl rfl rfl (args_cons (i := 0) rfl (args_cons (i := 1) rfl (args_cons (i := 2) rfl args_nil))) ?_
    intro a hF
    refine wp_seq ?_
    refine E.seq ?_
    obtain ⟨g3, w1, ge3, hr, bb, o3⟩ := own_box (P := Tryz.prog) (w := w) (cs := [.bool b1, .slice ad1 n1 c1, .slice ae1 m1 d1]) (v := .agg #[.bool b1, .slice ad1 n1 c1, .slice ae1 m1 d1]) 39 rfl (niB (niS (niS ni0)))
    replace ge3 : w.heap.size ≤ g3 := by rw [← ge3]; exact bel.size
    refine E.opv hF (r_box (hF.at 0 rfl) hr) rfl rfl rfl rfl fun a hF => ?_
    clear hr
    replace h2 := h2.below bb
    replace hn2 := hn2.below bb
    replace ha2 := ha2.below bb
    replace hd2 := hd2.below bb
    replace h3 := h3.below bb
    replace hn3 := hn3.below bb
    replace ha3 := ha3.below bb
    replace hd3 := hd3.below bb
    replace h1 := h1.below bb
    replace hn1 := hn1.below bb
    replace ha1 := ha1.below bb
    replace hd1 := hd1.below bb
    replace bel := below_to bel bb
    clear bb
    obtain ⟨g4, w2, ge4, hr, bb, o4⟩ := own_box (P := Tryz.prog) (w := w1) (cs := [.bool b2, .slice ad2 n2 c2, .slice ae2 m2 d2]) (v := .agg #[.bool b2, .slice ad2 n2 c2, .slice ae2 m2 d2]) 39 rfl (niB (niS (niS ni0)))
    have ne3_4 : g3 ≠ g4 := by rw [← ge4]; exact o3.ne_new
    replace ge4 : w.heap.size ≤ g4 := by rw [← ge4]; exact bel.size
    refine E.opv hF (r_box (hF.at 2 rfl) hr) rfl rfl rfl rfl fun a hF => ?_
    clear hr
    replace h3 := h3.below bb
    replace hn3 := hn3.below bb
    replace ha3 := ha3.below bb
    replace hd3 := hd3.below bb
    replace ha1 := ha1.below bb
    replace hd1 := hd1.below bb
    replace h1 := h1.below bb
    replace hn1 := hn1.below bb
    replace h2 := h2.below bb
    replace hn2 := hn2.below bb
    replace ha2 := ha2.below bb
    replace hd2 := hd2.below bb
    replace o3 := o3.below bb
    replace bel := below_to bel bb
    clear bb
    obtain ⟨g5, w3, ge5, hr, bb, o5⟩ := own_box (P := Tryz.prog) (w := w2) (cs := [.bool b3, .slice ad3 n3 c3, .slice ae3 m3 d3]) (v := .agg #[.bool b3, .slice ad3 n3 c3, .slice ae3 m3 d3]) 39 rfl (niB (niS (niS ni0)))
    have ne3_5 : g3 ≠ g5 := by rw [← ge5]; exact o3.ne_new
    have ne4_5 : g4 ≠ g5 := by rw [← ge5]; exact o4.ne_new
    replace ge5 : w.heap.size ≤ g5 := by rw [← ge5]; exact bel.size
    refine E.opv hF (r_box (hF.at 4 rfl) hr) rfl rfl rfl rfl fun a hF => ?_
    clear hr
    replace ha1 := ha1.below bb
    replace hd1 := hd1.below bb
    replace h1 := h1.below bb
    replace hn1 := hn1.below bb
    replace ha2 := ha2.below bb
    replace hd2 := hd2.below bb
    replace h2 := h2.below bb
    replace hn2 := hn2.below bb
    replace h3 := h3.below bb
    replace hn3 := hn3.below bb
    replace ha3 := ha3.below bb
    replace hd3 := hd3.below bb
    replace o3 := o3.below bb
    replace o4 := o4.below bb
    replace bel := below_to bel bb
    clear bb
    obtain ⟨g6, w4, ge6, hr, bb, o6⟩ := own_alloc (P := Tryz.prog) (w := w3) (cs := [.bool false, .slice none 0 0, .slice none 0 0]) 39 ze_RRat rfl (niB (niS (niS ni0)))
    have ne3_6 : g3 ≠ g6 := by rw [← ge6]; exact o3.ne_new
    have ne4_6 : g4 ≠ g6 := by rw [← ge6]; exact o4.ne_new
    have ne5_6 : g5 ≠ g6 := by rw [← ge6]; exact o5.ne_new
    replace ge6 : w.heap.size ≤ g6 := by rw [← ge6]; exact bel.size
    refine E.opv hF (r_alloc hr) rfl rfl rfl rfl fun a hF => ?_
    clear hr
    replace ha1 := ha1.below bb
    replace hd1 := hd1.below bb
    replace h1 := h1.below bb
    replace hn1 := hn1.below bb
    replace ha2 := ha2.below bb
    replace hd2 := hd2.below bb
    replace h2 := h2.below bb
    replace hn2 := hn2.below bb
    replace ha3 := ha3.below bb
    replace hd3 := hd3.below bb
    replace h3 := h3.below bb
    replace hn3 := hn3.below bb
    replace o3 := o3.below bb
    replace o4 := o4.below bb
    replace o5 := o5.below bb
    replace bel := below_to bel bb
    clear bb
    refine E.nil ?_
    refine wp_seq ?_
    refine wp_seq ?_
    refine E.seq ?_
    refine E.opv hF (r_load (hF.at 2 rfl) (ld_RRat (vs := [.bool b2, .slice ad2 n2 c2, .slice ae2 m2 d2]) o4 rfl rfl)) rfl rfl rfl rfl fun a hF => ?_
    refine E.opv hF (r_load (hF.at 2 rfl) (ld_RRat (vs := [.bool b3, .slice ad3 n3 c3, .slice ae3 m3 d3]) o5 rfl rfl)) rfl rfl rfl rfl fun a hF => ?_
    refine E.call hF (r_call Tryz.func85 en85.1 en85.2 (map2 (hF.at 1 rfl) (hF.at 0 rfl))) (dCmp_any _ _ (q2) (q3) k _ h2 h3 (by omega)) rfl rfl rfl rfl ?_
    rintro e w5 ⟨rfl, bb⟩
    refine ⟨_, rfl, ?_⟩
    intro a hF
    replace ha1 := ha1.below bb
    replace hd1 := hd1.below bb
    replace h1 := h1.below bb
    replace hn1 := hn1.below bb
    replace ha2 := ha2.below bb
    replace hd2 := hd2.below bb
    replace h2 := h2.below bb
    replace hn2 := hn2.below bb
    replace ha3 := ha3.below bb
    replace hd3 := hd3.below bb
    replace h3 := h3.below bb
    replace hn3 := hn3.below bb
    replace o3 := o3.below bb
    replace o4 := o4.below bb
    replace o5 := o5.below bb
    replace o6 := o6.below bb
    replace bel := below_to bel bb
    clear bb
    refine E.opv hF (r_bin (hF.at 0 rfl) ev_c eg_scalar (bi_int (ic_geq (c := true) (dec_tt (qc_ge0.2 h0))) (by simp))) rfl rfl rfl rfl fun a hF => ?_
    refine E.nil ?_
    refine wp_cond_true (hF.at 0 rfl) ?_
    refine wp_seq ?_
    refine E.seq ?_
    refine E.call hF (r_call Tryz.func49 en49.1 en49.2 (map2 ev_c ev_c)) (dOf_any (0) (1) _ (by decide) (by decide) (by decide) (by decide)) rfl rfl rfl rfl ?_
    rintro e w6 ⟨vv7, rfl, hh8, bb⟩
    refine ⟨_, rfl, ?_⟩
    intro a hF
    replace ha1 := ha1.below bb
    replace hd1 := hd1.below bb
    replace h1 := h1.below bb
    replace hn1 := hn1.below bb
    replace ha2 := ha2.below bb
    replace hd2 := hd2.below bb
    replace h2 := h2.below bb
    replace hn2 := hn2.below bb
    replace ha3 := ha3.below bb
    replace hd3 := hd3.below bb
    replace h3 := h3.below bb
    replace hn3 := hn3.below bb
    replace o3 := o3.below bb
    replace o4 := o4.below bb
    replace o5 := o5.below bb
    replace o6 := o6.below bb
    replace bel := below_to bel bb
    clear bb
    obtain ⟨b9, ad9, n9, c9, ae9, m9, d9, z9, D9, rfl, hn9, hd9, hD9, hq9, lz9, lD9⟩ := Rr.shape hh8
    have ha9 := hn9.abs
    obtain ⟨w10, hr, tu, on⟩ := st_RRat (vs := [.bool b9, .slice ad9 n9 c9, .slice ae9 m9 d9]) o6 rfl rfl (ocB (ocS (ocS oc0))) (niB (niS (niS ni0))) (o := 0) rfl
    have kp := tu.keep o6
    refine E.st hF (r_store (hF.at 5 rfl) (hF.at 0 rfl) (hr _ rfl)) rfl rfl fun a hF => ?_
    clear hr
    replace ha1 := ha1.keep kp
    replace hd1 := hd1.keep kp
    replace h1 := h1.keep kp
    replace hn1 := hn1.keep kp
    replace ha2 := ha2.keep kp
    replace hd2 := hd2.keep kp
    replace h2 := h2.keep kp
    replace hn2 := hn2.keep kp
    replace ha3 := ha3.keep kp
    replace hd3 := hd3.keep kp
    replace h3 := h3.keep kp
    replace hn3 := hn3.keep kp
    replace hh8 := hh8.keep kp
    replace hn9 := hn9.keep kp
    replace ha9 := ha9.keep kp
    replace hd9 := hd9.keep kp
    replace o3 := tu.own o3 ne3_6
    replace o4 := tu.own o4 ne4_6
    replace o5 := tu.own o5 ne5_6
    replace bel := tu.below bel ge6
    clear tu kp
    replace o6 := on
    clear on
    refine E.nil ?_
    refine wp_ret ?_
    refine bodyPost_ret (res_cell Tryz.results34 (hF.at 5 rfl) (ld_RRat (vs := [.bool b9, .slice ad9 n9 c9, .slice ae9 m9 d9]) o6 rfl rfl)) hF.dfr ?_
    exact ⟨_, rfl, Rr.cast (Rr.up hh8 _ (by omega)) (zero_of1.trans (rinto_no h0)), bel⟩
  · have bel : Below w.heap.size w w := Below.refl _ _
    refine E.enter (nt := 21) (L := [(0, .agg #[.bool b1, .slice ad1 n1 c1, .slice ae1 m1 d1]), (1, .agg #[.bool b2, .slice ad2 n2 c2, .slice ae2 m2 d2]), (2, .agg #[.bool b3, .slice ad3 n3 c3, .slice ae3 m3 d3])]) Tryz.func34 rfl rfl rfl (args_cons (i := 0) rfl (args_cons (i := 1) rfl (args_cons (i := 2) rfl args_nil))) ?_
    intro a hF
    refine wp_seq ?_
    refine E.seq ?_
    obtain ⟨g3, w1, ge3, hr, bb, o3⟩ := own_box (P := Tryz.prog) (w := w) (cs := [.bool b1, .slice ad1 n1 c1, .slice ae1 m1 d1]) (v := .agg #[.bool b1, .slice ad1 n1 c1, .slice ae1 m1 d1]) 39 rfl (niB (niS (niS ni0)))
    replace ge3 : w.heap.size ≤ g3 := by rw [← ge3]; exact bel.size
    refine E.opv hF (r_box (hF.at 0 rfl) hr) rfl rfl rfl rfl fun a hF => ?_
    clear hr
    replace h2 := h2.below bb
    replace hn2 := hn2.below bb
    replace ha2 := ha2.below bb
    replace hd2 := hd2.below bb
    replace h3 := h3.below bb
    replace hn3 := hn3.below bb
    replace ha3 := ha3.below bb
    replace hd3 := hd3.below bb
    replace h1 := h1.below bb
    replace hn1 := hn1.below bb
    replace ha1 := ha1.below bb
    replace hd1 := hd1.below bb
    replace bel := below_to bel bb
    clear bb
    obtain ⟨g4, w2, ge4, hr, bb, o4⟩ := own_box (P := Tryz.prog) (w := w1) (cs := [.bool b2, .slice ad2 n2 c2, .slice ae2 m2 d2]) (v := .agg #[.bool b2, .slice ad2 n2 c2, .slice ae2 m2 d2]) 39 rfl (niB (niS (niS ni0)))
    have ne3_4 : g3 ≠ g4 := by rw [← ge4]; exact o3.ne_new
    replace ge4 : w.heap.size ≤ g4 := by rw [← ge4]; exact bel.size
    refine E.opv hF (r_box (hF.at 2 rfl) hr) rfl rfl rfl rfl fun a hF => ?_
    clear hr
    replace h3 := h3.below bb
    replace hn3 := hn3.below bb
    replace ha3 := ha3.below bb
    replace hd3 := hd3.below bb
    replace ha1 := ha1.below bb
    replace hd1 := hd1.below bb
    replace h1 := h1.below bb
    replace hn1 := hn1.below bb
    replace h2 := h2.below bb
    replace hn2 := hn2.below bb
    replace ha2 := ha2.below bb
    replace hd2 := hd2.below bb
    replace o3 := o3.below bb
    replace bel := below_to bel bb
    clear bb
    obtain ⟨g5, w3, ge5, hr, bb, o5⟩ := own_box (P := Tryz.prog) (w := w2) (cs := [.bool b3, .slice ad3 n3 c3, .slice ae3 m3 d3]) (v := .agg #[.bool b3, .slice ad3 n3 c3, .slice ae3 m3 d3]) 39 rfl (niB (niS (niS ni0)))
    have ne3_5 : g3 ≠ g5 := by rw [← ge5]; exact o3.ne_new
    have ne4_5 : g4 ≠ g5 := by rw [← ge5]; exact o4.ne_new
    replace ge5 : w.heap.size ≤ g5 := by rw [← ge5]; exact bel.size
    refine E.opv hF (r_box (hF.at 4 rfl) hr) rfl rfl rfl rfl fun a hF => ?_
    clear hr
    replace ha1 := ha1.below bb
    replace hd1 := hd1.below bb
    replace h1 := h1.below bb
    replace hn1 := hn1.below bb
    replace ha2 := ha2.below bb
    replace hd2 := hd2.below bb
    replace h2 := h2.below bb
    replace hn2 := hn2.below bb
    replace h3 := h3.below bb
    replace hn3 := hn3.below bb
    replace ha3 := ha3.below bb
    replace hd3 := hd3.below bb
    replace o3 := o3.below bb
    replace o4 := o4.below bb
    replace bel := below_to bel bb
    clear bb
    obtain ⟨g6, w4, ge6, hr, bb, o6⟩ := own_alloc (P := Tryz.prog) (w := w3) (cs := [.bool false, .slice none 0 0, .slice none 0 0]) 39 ze_RRat rfl (niB (niS (niS ni0)))
    have ne3_6 : g3 ≠ g6 := by rw [← ge6]; exact o3.ne_new
    have ne4_6 : g4 ≠ g6 := by rw [← ge6]; exact o4.ne_new
    have ne5_6 : g5 ≠ g6 := by rw [← ge6]; exact o5.ne_new
    replace ge6 : w.heap.size ≤ g6 := by rw [← ge6]; exact bel.size
    refine E.opv hF (r_alloc hr) rfl rfl rfl rfl fun a hF => ?_
    clear hr
    replace ha1 := ha1.below bb
    replace hd1 := hd1.below bb
    replace h1 := h1.below bb
    replace hn1 := hn1.below bb
    replace ha2 := ha2.below bb
    replace hd2 := hd2.below bb
    replace h2 := h2.below bb
    replace hn2 := hn2.below bb
    replace ha3 := ha3.below bb
    replace hd3 := hd3.below bb
    replace h3 := h3.below bb
    replace hn3 := hn3.below bb
    replace o3 := o3.below bb
    replace o4 := o4.below bb
    replace o5 := o5.below bb
    replace bel := below_to bel bb
    clear bb
    refine E.nil ?_
    refine wp_seq ?_
    refine wp_seq ?_
    refine E.seq ?_
    refine E.opv hF (r_load (hF.at 2 rfl) (ld_RRat (vs := [.bool b2, .slice ad2 n2 c2, .slice ae2 m2 d2]) o4 rfl rfl)) rfl rfl rfl rfl fun a hF => ?_
    refine E.opv hF (r_load (hF.at 2 rfl) (ld_RRat (vs := [.bool b3, .slice ad3 n3 c3, .slice ae3 m3 d3]) o5 rfl rfl)) rfl rfl rfl rfl fun a hF => ?_
    refine E.call hF (r_call Tryz.func85 en85.1 en85.2 (map2 (hF.at 1 rfl) (hF.at 0 rfl))) (dCmp_any _ _ (q2) (q3) k _ h2 h3 (by omega)) rfl rfl rfl rfl ?_
    rintro e w5 ⟨rfl, bb⟩
    refine ⟨_, rfl, ?_⟩
    intro a hF
    replace ha1 := ha1.below bb
    replace hd1 := hd1.below bb
    replace h1 := h1.below bb
    replace hn1 := hn1.below bb
    replace ha2 := ha2.below bb
    replace hd2 := hd2.below bb
    replace h2 := h2.below bb
    replace hn2 := hn2.below bb
    replace ha3 := ha3.below bb
    replace hd3 := hd3.below bb
    replace h3 := h3.below bb
    replace hn3 := hn3.below bb
    replace o3 := o3.below bb
    replace o4 := o4.below bb
    replace o5 := o5.below bb
    replace o6 := o6.below bb
    replace bel := below_to bel bb
    clear bb
    refine E.opv hF (r_bin (hF.at 0 rfl) ev_c eg_scalar (bi_int (ic_geq (c := false) (dec_ff (fun e => h0 (qc_ge0.1 e)))) (by simp))) rfl rfl rfl rfl fun a hF => ?_
    refine E.nil ?_
    refine wp_cond_false (hF.at 0 rfl) ?_
    refine wp_skip ?_
    refine E.norm ?_
    refine wp_seq ?_
    refine E.drawn 9 mixed hF [12, 13, 14, 15, 16, 17, 18, 19, 20] [(fun _ v => v = .agg #[.bool b2, .slice ad2 n2 c2, .slice ae2 m2 d2]), (fun _ v => v = .agg #[.bool b1, .slice ad1 n1 c1, .slice ae1 m1 d1]), (fun _ v => v = .agg #[.bool b2, .slice ad2 n2 c2, .slice ae2 m2 d2]), (fun w v => Rr w v ((q1) - (q2)) ((k + k + 1))), (fun _ v => v = .agg #[.bool b3, .slice ad3 n3 c3, .slice ae3 m3 d3]), (fun _ v => v = .agg #[.bool b2, .slice ad2 n2 c2, .slice ae2 m2 d2]), (fun w v => Rr w v ((q3) - (q2)) ((k + k + 1))), (fun w v => Rr w v (rmod ((q1) - (q2)) ((q3) - (q2))) ((10 * (k + k + 1) + 20))), (fun w v => Rr w v ((q2) + (rmod ((q1) - (q2)) ((q3) - (q2)))) (((max k (10 * (k + k + 1) + 20)) + (max k (10 * (k + k + 1) + 20)) + 1)))] [] (by decide +kernel) (by decide +kernel) rfl rfl rfl ⟨(Mb.eq _), (Mb.eq _), (Mb.eq _), (fun _ _ _ h hb => h.below hb), (Mb.eq _), (Mb.eq _), (fun _ _ _ h hb => h.below hb), (fun _ _ _ h hb => h.below hb), (fun _ _ _ h hb => h.below hb), trivial⟩ trivial ⟨?_, ?_, ?_, ?_, ?_, ?_, ?_, ?_, ?_, trivial⟩ ?_
    · intro a' w' hF' hb hd
      exact if_does (wanted_free rfl) (Does.vals (r_load (hF'.at 6 rfl) (ld_RRat (vs := [.bool b2, .slice ad2 n2 c2, .slice ae2 m2 d2]) (o4.below hb) rfl rfl)) ⟨rfl, Below.refl _ _, (fun h => absurd h (by decide))⟩)
    · intro a' w' hF' hb hd
      exact if_does (wanted_free rfl) (Does.vals (r_load (hF'.at 7 rfl) (ld_RRat (vs := [.bool b1, .slice ad1 n1 c1, .slice ae1 m1 d1]) (o3.below hb) rfl rfl)) ⟨rfl, Below.refl _ _, (fun h => absurd h (by decide))⟩)
    · intro a' w' hF' hb hd
      exact if_does (wanted_free rfl) (Does.vals (r_load (hF'.at 6 rfl) (ld_RRat (vs := [.bool b2, .slice ad2 n2 c2, .slice ae2 m2 d2]) (o4.below hb) rfl rfl)) ⟨rfl, Below.refl _ _, (fun h => absurd h (by decide))⟩)
    · intro a' w' hF' hb hd
      have e13 : a'.tmps.getD 13 undef = .agg #[.bool b1, .slice ad1 n1 c1, .slice ae1 m1 d1] := hd _ 13 (Array.mem_of_getElem? (i := 0) rfl) rfl rfl
      have e14 : a'.tmps.getD 14 undef = .agg #[.bool b2, .slice ad2 n2 c2, .slice ae2 m2 d2] := hd _ 14 (Array.mem_of_getElem? (i := 1) rfl) rfl rfl
      refine if_does (wanted_free rfl) (Does.calls (r_call Tryz.func81 en81.1 en81.2 (map2 e13 e14)) (dSub_any _ _ (q1) (q2) k _ (h1.below hb) (h2.below hb) (by omega) (by omega)) ?_)
      rintro e w'' ⟨v', rfl, h', bb⟩
      exact ⟨_, rfl, h', bb, (fun h => absurd h (by decide))⟩
    · intro a' w' hF' hb hd
      exact if_does (wanted_free rfl) (Does.vals (r_load (hF'.at 5 rfl) (ld_RRat (vs := [.bool b3, .slice ad3 n3 c3, .slice ae3 m3 d3]) (o5.below hb) rfl rfl)) ⟨rfl, Below.refl _ _, (fun h => absurd h (by decide))⟩)
    · intro a' w' hF' hb hd
      exact if_does (wanted_free rfl) (Does.vals (r_load (hF'.at 6 rfl) (ld_RRat (vs := [.bool b2, .slice ad2 n2 c2, .slice ae2 m2 d2]) (o4.below hb) rfl rfl)) ⟨rfl, Below.refl _ _, (fun h => absurd h (by decide))⟩)
    · intro a' w' hF' hb hd
      have e16 : a'.tmps.getD 16 undef = .agg #[.bool b3, .slice ad3 n3 c3, .slice ae3 m3 d3] := hd _ 16 (Array.mem_of_getElem? (i := 0) rfl) rfl rfl
      have e17 : a'.tmps.getD 17 undef = .agg #[.bool b2, .slice ad2 n2 c2, .slice ae2 m2 d2] := hd _ 17 (Array.mem_of_getElem? (i := 1) rfl) rfl rfl
      refine if_does (wanted_free rfl) (Does.calls (r_call Tryz.func81 en81.1 en81.2 (map2 e16 e17)) (dSub_any _ _ (q3) (q2) k _ (h3.below hb) (h2.below hb) (by omega) (by omega)) ?_)
      rintro e w'' ⟨v', rfl, h', bb⟩
      exact ⟨_, rfl, h', bb, (fun h => absurd h (by decide))⟩
    · intro a' w' hF' hb hd
      obtain ⟨v15_0, e15, h15_1⟩ : ∃ v, a'.tmps.getD 15 undef = v ∧ Rr w' v ((q1) - (q2)) ((k + k + 1)) := ⟨_, rfl, hd _ 15 (Array.mem_of_getElem? (i := 0) rfl) rfl rfl⟩
      obtain ⟨v18_0, e18, h18_1⟩ : ∃ v, a'.tmps.getD 18 undef = v ∧ Rr w' v ((q3) - (q2)) ((k + k + 1)) := ⟨_, rfl, hd _ 18 (Array.mem_of_getElem? (i := 1) rfl) rfl rfl⟩
      refine if_does (wanted_free rfl) (Does.calls (r_call Tryz.func33 en33.1 en33.2 (map2 e15 e18)) (dMod_any _ _ ((q1) - (q2)) ((q3) - (q2)) (k + k + 1) _ h15_1 h18_1 (by omega) (by omega)) ?_)
      rintro e w'' ⟨v', rfl, h', bb⟩
      exact ⟨_, rfl, h', bb, (fun h => absurd h (by decide))⟩
    · intro a' w' hF' hb hd
      have e12 : a'.tmps.getD 12 undef = .agg #[.bool b2, .slice ad2 n2 c2, .slice ae2 m2 d2] := hd _ 12 (Array.mem_of_getElem? (i := 0) rfl) rfl rfl
      obtain ⟨v19_0, e19, h19_1⟩ : ∃ v, a'.tmps.getD 19 undef = v ∧ Rr w' v (rmod ((q1) - (q2)) ((q3) - (q2))) ((10 * (k + k + 1) + 20)) := ⟨_, rfl, hd _ 19 (Array.mem_of_getElem? (i := 1) rfl) rfl rfl⟩
      refine if_does (wanted_free rfl) (Does.calls (r_call Tryz.func63 en63.1 en63.2 (map2 e12 e19)) (dAdd_any _ _ (q2) (rmod ((q1) - (q2)) ((q3) - (q2))) (max k (10 * (k + k + 1) + 20)) _ (Rr.up (h2.below hb) _ (by omega)) (Rr.up h19_1 _ (by omega)) (by omega) (by omega)) ?_)
      rintro e w'' ⟨v', rfl, h', bb⟩
      exact ⟨_, rfl, h', bb, (fun h => absurd h (by decide))⟩
    intro a w6 hF bb hall hne
    obtain ⟨vv7, e20, hh8⟩ : ∃ v, a.tmps.getD 20 undef = v ∧ Rr w6 v ((q2) + (rmod ((q1) - (q2)) ((q3) - (q2)))) (((max k (10 * (k + k + 1) + 20)) + (max k (10 * (k + k + 1) + 20)) + 1)) := ⟨_, rfl, hall 8 20 rfl⟩
    clear hall hne
    replace o6 := o6.below bb
    replace bel := below_to bel bb
    clear bb
    obtain ⟨b9, ad9, n9, c9, ae9, m9, d9, z9, D9, rfl, hn9, hd9, hD9, hq9, lz9, lD9⟩ := Rr.shape hh8
    have ha9 := hn9.abs
    replace hF := hF.add e20
    clear e20
    obtain ⟨w10, hr, tu, on⟩ := st_RRat (vs := [.bool b9, .slice ad9 n9 c9, .slice ae9 m9 d9]) o6 rfl rfl (ocB (ocS (ocS oc0))) (niB (niS (niS ni0))) (o := 0) rfl
    have kp := tu.keep o6
    refine E.st hF (r_store (hF.at 5 rfl) (hF.at 0 rfl) (hr _ rfl)) rfl rfl fun a hF => ?_
    clear hr
    replace hh8 := hh8.keep kp
    replace hn9 := hn9.keep kp
    replace ha9 := ha9.keep kp
    replace hd9 := hd9.keep kp
    replace bel := tu.below bel ge6
    clear tu kp
    replace o6 := on
    clear on
    refine E.nil ?_
    refine wp_ret ?_
    refine bodyPost_ret (res_cell Tryz.results34 (hF.at 5 rfl) (ld_RRat (vs := [.bool b9, .slice ad9 n9 c9, .slice ae9 m9 d9]) o6 rfl rfl)) hF.dfr ?_
    exact ⟨_, rfl, Rr.cast (Rr.up hh8 _ (by omega)) (rinto_yes h0), bel⟩

end Go.Proofs.YthoiocjbjfhgpaaGreat
