/- The document's floors, what is left over. -/
import Derived.Test.YtmpdbkdijfpbbaaGreatRrL
import Derived.Test.YtmpdbkdijfpbbaaGreatWsB
namespace Go.Proofs.YtmpdbkdijfpbbaaGreat
open Go.RowKit
set_option maxRecDepth 100000
set_option linter.unusedVariables false

theorem mk_pos {D : Nat} (h : 0 < D) : (0 : Rat) < (D : Rat) := Rat.natCast_pos.2 h
theorem fdiv_mk {z : Int} {D : Nat} (h : 0 < D) : Int.fdiv z ((D : Nat) : Int) = (mkRat z D).floor := by
  have hD : (0 : Int) < ((D : Nat) : Int) := by omega
  have e1 := Int.mul_ediv_add_emod z ((D : Nat) : Int)
  have e2 := Int.emod_nonneg z (b := ((D : Nat) : Int)) (by omega)
  have e3 := Int.emod_lt_of_pos z hD
  rw [Int.fdiv_eq_ediv_of_nonneg _ (by omega)]
  generalize z / ((D : Nat) : Int) = k at *
  have p := mk_pos h
  symm
  rw [Rat.mkRat_eq_div]
  have c1 : k * ((D : Nat) : Int) ≤ z := by rw [Int.mul_comm]; omega
  have c2 : z < (k + 1) * ((D : Nat) : Int) := by rw [Int.add_mul, Int.mul_comm k]; omega
  have r1 := Rat.intCast_le_intCast.2 c1
  have r2 := Rat.intCast_lt_intCast.2 c2
  rw [Rat.intCast_mul, Rat.intCast_natCast] at r1 r2
  rw [Rat.intCast_add, Rat.intCast_one] at r2
  have l1 : k ≤ ((z : Rat) / (D : Rat)).floor := Rat.le_floor_iff.2 (Rat.not_lt.1 fun hn => by rw [Rat.div_lt_iff p] at hn; grind)
  have l2 : ((z : Rat) / (D : Rat)).floor < k + 1 := Rat.floor_lt_iff.2 (by rw [Rat.div_lt_iff p, Rat.intCast_add, Rat.intCast_one]; exact r2)
  omega
theorem ceil_mk (z : Int) {D : Nat} (h : 0 < D) : (mkRat z D).ceil = -(Int.fdiv (-z) ((D : Nat) : Int)) := by
  rw [fdiv_mk h, Rat.ceil_eq_neg_floor_neg, Rat.neg_mkRat]
theorem ceil_mk0 {z : Int} {D : Nat} (h : 0 < D) (hz : fr z ((D : Nat) : Int) = 0) : Int.fdiv z ((D : Nat) : Int) = (mkRat z D).ceil := by
  rw [ceil_mk z h]
  obtain ⟨q, e⟩ : ∃ q, q = Int.fdiv z ((D : Nat) : Int) := ⟨_, rfl⟩
  have hf : z = q * ((D : Nat) : Int) + fr z ((D : Nat) : Int) := by
    unfold fr; rw [if_neg (by omega), e]
    have := Int.mul_fdiv_add_fmod z ((D : Nat) : Int); rw [Int.mul_comm] at this; exact this.symm
  rw [hz] at hf
  have := (f_pos (a := -z) (b := ((D : Nat) : Int)) (q := -q) (r := 0) (by rw [hf, Int.mul_neg, Int.mul_comm]; omega) (by omega) (by omega)).1
  rw [this, ← e]; omega
theorem ceil_mk1 {z : Int} {D : Nat} (h : 0 < D) (hz : fr z ((D : Nat) : Int) ≠ 0) : Int.fdiv z ((D : Nat) : Int) + 1 = (mkRat z D).ceil := by
  rw [ceil_mk z h]
  obtain ⟨q, e⟩ : ∃ q, q = Int.fdiv z ((D : Nat) : Int) := ⟨_, rfl⟩
  obtain ⟨r, er⟩ : ∃ r, r = fr z ((D : Nat) : Int) := ⟨_, rfl⟩
  have hf : z = q * ((D : Nat) : Int) + fr z ((D : Nat) : Int) := by
    unfold fr; rw [if_neg (by omega), e]
    have := Int.mul_fdiv_add_fmod z ((D : Nat) : Int); rw [Int.mul_comm] at this; exact this.symm
  have hb : 0 ≤ fr z ((D : Nat) : Int) ∧ fr z ((D : Nat) : Int) < ((D : Nat) : Int) := by
    unfold fr; rw [if_neg (by omega), Int.fmod_eq_emod_of_nonneg _ (by omega)]
    exact ⟨Int.emod_nonneg z (by omega), Int.emod_lt_of_pos z (by omega)⟩
  rw [← er] at hf hb hz
  have := (f_pos (a := -z) (b := ((D : Nat) : Int)) (q := -q - 1) (r := ((D : Nat) : Int) - r) (by rw [hf, Int.mul_sub, Int.mul_neg, Int.mul_comm]; omega) (by omega) (by omega)).1
  rw [this, ← e]; omega
theorem Rz.castM {w : World} {v : Value} {z z' : Int} (h : Rz w v z) (e : z = z') : Rz w v z' := by subst e; exact h
theorem rzl_t {w : World} {b : Bool} {ad : Option Addr} {n c : Nat} {z : Int} (hz : z ≠ 0) (h : Rz w (.agg #[.bool b, .slice ad n c]) z) : decide (0 < ((n : Nat) : Int)) = true := by
  have := Dg.lenp (by decide) h.abs (by omega)
  exact decide_eq_true (by omega)
theorem rzl_f {w : World} {b : Bool} {ad : Option Addr} {n c : Nat} {z : Int} (hz : z = 0) (h : Rz w (.agg #[.bool b, .slice ad n c]) z) : decide (0 < ((n : Nat) : Int)) = false := by
  have h := h.abs
  rw [hz] at h
  have := Dg.len0 h
  exact decide_eq_false (by omega)
theorem zero_of1 : ((0 : Int) : Rat) / ((1 : Int) : Rat) = 0 := by decide +kernel
theorem qc_ge0 {a b : Rat} : 0 ≤ qc a b ↔ sz (b - a).num ≤ 0 := by
  rw [sz_le0, qc_def]
  by_cases h1 : a < b
  · rw [if_pos h1]
    constructor
    · intro h; omega
    · intro h; grind
  · rw [if_neg h1]
    constructor
    · intro _; grind
    · intro _; split <;> omega
set_option maxHeartbeats 1000000 in
theorem dFloor_any (v1 : Value) (q1 : Rat) (k : Nat) (w : World) (h1 : Rr w v1 q1 k) (hp : 1 ≤ k) (hk : k ≤ 2000) :
    Calls Tryz.prog 54 #[v1] w (RzPost w (Rat.floor q1)) := by
  have rl1 := h1.rlim
  obtain ⟨b1, ad1, n1, c1, ae1, m1, d1, z1, D1, rfl, hn1, hd1, hD1, hq1, lz1, lD1⟩ := h1.shape
  have h1 : Rr w (.agg #[.bool b1, .slice ad1 n1 c1, .slice ae1 m1 d1]) q1 k := ⟨_, _, _, _, _, _, _, _, _, rfl, hn1, hd1, hD1, hq1, lz1, lD1⟩
  have ha1 := hn1.abs
  have hb1 := hn1.neg
  replace hq1 := Lib.hid hq1
  have bel : Below w.heap.size w w := Below.refl _ _
  refine E.enter (nt := 15) (L := [(0, .agg #[.bool b1, .slice ad1 n1 c1, .slice ae1 m1 d1])]) Tryz.func54 rfl rfl rfl (args_cons (i := 0) rfl args_nil) ?_
  intro a hF
  refine wp_seq ?_
  refine E.seq ?_
  obtain ⟨g1, w1, ge1, hr, bb, o1⟩ := own_box (P := Tryz.prog) (w := w) (cs := [.bool b1, .slice ad1 n1 c1, .slice ae1 m1 d1]) (v := .agg #[.bool b1, .slice ad1 n1 c1, .slice ae1 m1 d1]) 39 rfl (niB (niS (niS ni0)))
  replace ge1 : w.heap.size ≤ g1 := by rw [← ge1]; exact bel.size
  refine E.opv hF (r_box (hF.at 0 rfl) hr) rfl rfl rfl rfl fun a hF => ?_
  clear hr
  replace h1 := h1.below bb
  replace hn1 := hn1.below bb
  replace ha1 := ha1.below bb
  replace hd1 := hd1.below bb
  replace bel := below_to bel bb
  clear bb
  obtain ⟨g2, w2, ge2, hr, bb, o2⟩ := own_alloc (P := Tryz.prog) (w := w1) (cs := [.bool false, .slice none 0 0]) 37 ze_RInt rfl (niB (niS ni0))
  have ne1_2 : g1 ≠ g2 := by rw [← ge2]; exact o1.ne_new
  replace ge2 : w.heap.size ≤ g2 := by rw [← ge2]; exact bel.size
  refine E.opv hF (r_alloc hr) rfl rfl rfl rfl fun a hF => ?_
  clear hr
  replace ha1 := ha1.below bb
  replace hd1 := hd1.below bb
  replace h1 := h1.below bb
  replace hn1 := hn1.below bb
  replace o1 := o1.below bb
  replace bel := below_to bel bb
  clear bb
  refine E.nil ?_
  refine wp_seq ?_
  refine E.seq ?_
  refine E.opv hF (r_field (hF.at 1 rfl) (fa_RRat_0 (p := 0) rfl)) rfl rfl rfl rfl fun a hF => ?_
  refine E.opv hF (r_load (hF.at 0 rfl) (ld_RInt (vs := [.bool b1, .slice ad1 n1 c1]) o1 rfl rfl)) rfl rfl rfl rfl fun a hF => ?_
  refine E.opv hF (r_field (hF.at 3 rfl) (fa_RRat_1 (p := 2) rfl)) rfl rfl rfl rfl fun a hF => ?_
  refine E.opv hF (r_load (hF.at 0 rfl) (ld_Num (v := .slice ae1 m1 d1) o1 rfl)) rfl rfl rfl rfl fun a hF => ?_
  refine E.opv hF (r_build (pair1 (hF.at 0 rfl)) (bd_RInt_1 _ _ _ _)) rfl rfl rfl rfl fun a hF => ?_
  refine E.call hF (r_call Tryz.func85 en85.1 en85.2 (map2 (hF.at 3 rfl) (hF.at 0 rfl))) (rDivMod_any _ _ _ _ k k _ hn1 (Rz.nat hd1) lz1 (lim_cast lD1) (by omega) (by omega)) rfl rfl rfl rfl ?_
  rintro e w3 ⟨vv4, vv5, rfl, hh6, hh7, bb⟩
  refine ⟨_, rfl, ?_⟩
  intro a hF
  replace o2 := o2.below bb
  replace bel := below_to bel bb
  clear bb
  obtain ⟨b8, ad8, n8, c8, rfl⟩ := Rz.form hh6
  obtain ⟨b9, ad9, n9, c9, rfl⟩ := Rz.form hh7
  refine E.opv hF (r_move (hF.at 0 rfl)) rfl rfl rfl rfl fun a hF => ?_
  refine E.opv hF (r_extract (v := .agg #[.bool b8, .slice ad8 n8 c8]) (hF.at 0 rfl) rfl) rfl rfl rfl rfl fun a hF => ?_
  refine E.opv hF (r_extract (v := .agg #[.bool b9, .slice ad9 n9 c9]) (hF.at 1 rfl) rfl) rfl rfl rfl rfl fun a hF => ?_
  obtain ⟨g3, w10, ge3, hr, bb, o3⟩ := own_alloc (P := Tryz.prog) (w := w3) (cs := [.bool false, .slice none 0 0]) 37 ze_RInt rfl (niB (niS ni0))
  have ne2_3 : g2 ≠ g3 := by rw [← ge3]; exact o2.ne_new
  replace ge3 : w.heap.size ≤ g3 := by rw [← ge3]; exact bel.size
  refine E.opv hF (r_alloc hr) rfl rfl rfl rfl fun a hF => ?_
  clear hr
  replace hh7 := hh7.below bb
  replace hh6 := hh6.below bb
  replace o2 := o2.below bb
  replace bel := below_to bel bb
  clear bb
  obtain ⟨g4, w11, ge4, hr, bb, o4⟩ := own_alloc (P := Tryz.prog) (w := w10) (cs := [.bool false, .slice none 0 0]) 37 ze_RInt rfl (niB (niS ni0))
  have ne2_4 : g2 ≠ g4 := by rw [← ge4]; exact o2.ne_new
  have ne3_4 : g3 ≠ g4 := by rw [← ge4]; exact o3.ne_new
  replace ge4 : w.heap.size ≤ g4 := by rw [← ge4]; exact bel.size
  refine E.opv hF (r_alloc hr) rfl rfl rfl rfl fun a hF => ?_
  clear hr
  replace hh7 := hh7.below bb
  replace hh6 := hh6.below bb
  replace o2 := o2.below bb
  replace o3 := o3.below bb
  replace bel := below_to bel bb
  clear bb
  obtain ⟨w12, hr, tu, on⟩ := st_RInt (vs := [.bool b8, .slice ad8 n8 c8]) o3 rfl rfl (ocB (ocS oc0)) (niB (niS ni0)) (o := 0) rfl
  have kp := tu.keep o3
  refine E.st hF (r_store (hF.at 1 rfl) (hF.at 3 rfl) (hr _ rfl)) rfl rfl fun a hF => ?_
  clear hr
  replace hh7 := hh7.keep kp
  replace hh6 := hh6.keep kp
  replace o2 := tu.own o2 ne2_3
  replace o4 := tu.own o4 (Ne.symm ne3_4)
  replace bel := tu.below bel ge3
  clear tu kp
  replace o3 := on
  clear on
  have hf13 := Rz.abs hh6
  obtain ⟨w14, hr, tu, on⟩ := st_RInt (vs := [.bool b9, .slice ad9 n9 c9]) o4 rfl rfl (ocB (ocS oc0)) (niB (niS ni0)) (o := 0) rfl
  have kp := tu.keep o4
  refine E.st hF (r_store (hF.at 0 rfl) (hF.at 2 rfl) (hr _ rfl)) rfl rfl fun a hF => ?_
  clear hr
  replace hf13 := hf13.keep kp
  replace hh6 := hh6.keep kp
  replace hh7 := hh7.keep kp
  replace o2 := tu.own o2 ne2_4
  replace o3 := tu.own o3 ne3_4
  replace bel := tu.below bel ge4
  clear tu kp
  replace o4 := on
  clear on
  have hf15 := Rz.abs hh7
  refine E.nil ?_
  refine wp_seq ?_
  refine E.seq ?_
  refine E.opv hF (r_load (hF.at 1 rfl) (ld_RInt (vs := [.bool b8, .slice ad8 n8 c8]) o3 rfl rfl)) rfl rfl rfl rfl fun a hF => ?_
  obtain ⟨w16, hr, tu, on⟩ := st_RInt (vs := [.bool b8, .slice ad8 n8 c8]) o2 rfl rfl (ocB (ocS oc0)) (niB (niS ni0)) (o := 0) rfl
  have kp := tu.keep o2
  refine E.st hF (r_store (hF.at 12 rfl) (hF.at 0 rfl) (hr _ rfl)) rfl rfl fun a hF => ?_
  clear hr
  replace hh6 := hh6.keep kp
  replace hf13 := hf13.keep kp
  replace bel := tu.below bel ge2
  clear tu kp
  replace o2 := on
  clear on
  refine E.nil ?_
  refine wp_ret ?_
  refine bodyPost_ret (res_cell Tryz.results54 (hF.at 12 rfl) (ld_RInt (vs := [.bool b8, .slice ad8 n8 c8]) o2 rfl rfl)) hF.dfr ?_
  exact ⟨_, rfl, Rz.castM hh6 (by rw [hq1.out]; exact fdiv_mk hD1), bel⟩

end Go.Proofs.YtmpdbkdijfpbbaaGreat
