/- CuA CuB -/
import Derived.Test.YtmpdbkdijfpbbaaGreatWsA
import Derived.Test.YtmpdbkdijfpbbaaGreatGU
import Derived.Test.YtmpdbkdijfpbbaaGreatGO

/- Words: floors, what is left over. -/
namespace Go.Proofs.YtmpdbkdijfpbbaaGreat
open Go.RowKit
set_option maxRecDepth 100000
set_option linter.unusedVariables false

theorem fl_eq (q : Rat) : Int.fdiv q.num ((q.den : Nat) : Int) = q.floor := by
  rw [Rat.floor_def, Int.fdiv_eq_ediv_of_nonneg _ (by omega)]
theorem fl_le (q : Rat) : (q.floor : Rat) ≤ q := Rat.floor_le q
theorem fl_lt (q : Rat) : q < (q.floor : Rat) + 1 := by
  have := Rat.lt_floor_add_one q
  rw [Rat.intCast_add] at this; exact this
/-- What is left over of x by m. -/
def rmod (x m : Rat) : Rat := if m ≤ 0 then 0 else x - m * ((x / m).floor : Rat)
def rinto (x a b : Rat) : Rat := if b - a ≤ 0 then 0 else a + rmod (x - a) (b - a)
theorem mul_div_r {x m : Rat} (h : 0 < m) : m * (x / m) = x := by
  have : m ≠ 0 := by grind
  rw [Rat.mul_comm]; exact Rat.div_mul_cancel this
theorem rmod_low {x m : Rat} (h : 0 < m) : 0 ≤ rmod x m := by
  unfold rmod
  rw [if_neg (by grind)]
  have h1 := Rat.mul_le_mul_of_nonneg_left (c := m) (fl_le (x / m)) (by grind)
  rw [mul_div_r h] at h1
  grind
theorem rmod_high {x m : Rat} (h : 0 < m) : rmod x m < m := by
  unfold rmod
  rw [if_neg (by grind)]
  have h1 := (Rat.mul_lt_mul_left h).2 (fl_lt (x / m))
  rw [mul_div_r h] at h1
  grind
theorem rmod_more {x m : Rat} (n : Int) (h : 0 < m) : rmod (x + m * (n : Rat)) m = rmod x m := by
  unfold rmod
  rw [if_neg (by grind), if_neg (by grind)]
  have e : (x + m * (n : Rat)) / m = x / m + (n : Rat) := by
    have : m ≠ 0 := by grind
    grind
  rw [e, Rat.floor_add_intCast, Rat.intCast_add]
  grind
theorem rinto_low {x a b : Rat} (h : a < b) : a ≤ rinto x a b := by
  unfold rinto
  rw [if_neg (by grind)]
  have := rmod_low (x := x - a) (m := b - a) (by grind)
  grind
theorem rinto_high {x a b : Rat} (h : a < b) : rinto x a b < b := by
  unfold rinto
  rw [if_neg (by grind)]
  have := rmod_high (x := x - a) (m := b - a) (by grind)
  grind
theorem rinto_id {x a b : Rat} (h1 : a ≤ x) (h2 : x < b) : rinto x a b = x := by
  unfold rinto
  rw [if_neg (by grind)]
  unfold rmod
  rw [if_neg (by grind)]
  have e : ((x - a) / (b - a)).floor = 0 := by
    have hp : 0 < b - a := by grind
    have l1 : (0 : Int) ≤ ((x - a) / (b - a)).floor := Rat.le_floor_iff.2 (by
      rw [Rat.intCast_zero]; exact Rat.not_lt.1 fun hn => by rw [Rat.div_lt_iff hp] at hn; grind)
    have l2 : ((x - a) / (b - a)).floor < 1 := Rat.floor_lt_iff.2 (by
      rw [Rat.intCast_one, Rat.div_lt_iff hp]; grind)
    omega
  rw [e, Rat.intCast_zero]
  grind
theorem round_near (q : Rat) : (((q + ((1 : Int) : Rat) / ((2 : Int) : Rat)).floor : Rat) - q).abs ≤ ((1 : Int) : Rat) / ((2 : Int) : Rat) := by
  have h1 := fl_le (q + ((1 : Int) : Rat) / ((2 : Int) : Rat))
  have h2 := fl_lt (q + ((1 : Int) : Rat) / ((2 : Int) : Rat))
  have e : ((1 : Int) : Rat) / ((2 : Int) : Rat) = 1/2 := by decide +kernel
  rw [e] at *
  unfold Rat.abs
  split <;> grind
theorem mid_same (p q : Rat) : (p + q) * (((1 : Int) : Rat) / ((2 : Int) : Rat)) - p = q - (p + q) * (((1 : Int) : Rat) / ((2 : Int) : Rat)) := by
  have e : ((1 : Int) : Rat) / ((2 : Int) : Rat) = 1/2 := by decide +kernel
  rw [e]; grind
theorem mid_same2 (p q : Rat) : decide (p = q) = decide ((p + q) * (((1 : Int) : Rat) / ((2 : Int) : Rat)) = p) := by
  have e : ((1 : Int) : Rat) / ((2 : Int) : Rat) = 1/2 := by decide +kernel
  rw [e]
  exact decide_eq_decide.2 ⟨fun h => by grind, fun h => by grind⟩
theorem ceil_eq (q : Rat) : -((-q).floor) = q.ceil := (Rat.ceil_eq_neg_floor_neg q).symm
theorem of_one (z : Int) : (z : Rat) / ((1 : Int) : Rat) = (z : Rat) := by
  rw [Rat.intCast_one]; grind
theorem sz_le0 {q : Rat} : sz q.num ≤ 0 ↔ q ≤ 0 := by
  rw [sz_def]
  split
  · constructor <;> intro <;> grind
  · split
    · constructor <;> intro <;> grind
    · constructor <;> intro <;> grind
theorem rmod_no {x m : Rat} (h : sz m.num ≤ 0) : (0 : Rat) = rmod x m := by
  unfold rmod; rw [if_pos (sz_le0.1 h)]
theorem rmod_yes {x m : Rat} (h : ¬ sz m.num ≤ 0) : x - m * (((x / m).floor : Int) : Rat) = rmod x m := by
  unfold rmod; rw [if_neg (fun e => h (sz_le0.2 e))]
theorem rinto_no {x a b : Rat} (h : sz (b - a).num ≤ 0) : (0 : Rat) = rinto x a b := by
  unfold rinto; rw [if_pos (sz_le0.1 h)]
theorem rinto_yes {x a b : Rat} (h : ¬ sz (b - a).num ≤ 0) : a + rmod (x - a) (b - a) = rinto x a b := by
  unfold rinto; rw [if_neg (fun e => h (sz_le0.2 e))]
theorem fl_lim {q : Rat} {k : Nat} (h : RLim q k) : Lim (Rat.floor q).natAbs (k + 1) := by
  rw [← fl_eq]; exact limz_fdiv _ h.1
theorem ceil_lim {q : Rat} {k : Nat} (h : RLim q k) : Lim (Rat.ceil q).natAbs (k + 1) := by
  rw [← ceil_eq]; exact limz_neg (fl_lim (rlim_neg h))
theorem rlim_half : RLim (((1 : Int) : Rat) / ((2 : Int) : Rat)) 2 := (rlim_mk2 (limz_64 (by decide) (by decide)) (limz_64 (by decide) (by decide))).up 2 (by decide)
theorem round_lim {q : Rat} {k : Nat} (h : RLim q k) : Lim (Rat.floor (q + ((1 : Int) : Rat) / ((2 : Int) : Rat))).natAbs (k + 4) := fl_lim (rlim_add h rlim_half)
theorem frac_lim {q : Rat} {k : Nat} (h : RLim q k) : RLim (q - ((Rat.floor q : Int) : Rat)) (k + k + 3) := (rlim_sub h (rlim_int (fl_lim h) (by omega))).up _ (by omega)
theorem rmod_lim {q m : Rat} {k j : Nat} (h : RLim q k) (hm : RLim m j) : RLim (rmod q m) (k + k + j + j + 3) := by
  unfold rmod
  split
  · exact rlim_zero (by omega)
  · exact (rlim_sub h (rlim_mul hm (rlim_int (fl_lim (rlim_div h hm)) (by omega)))).up _ (by omega)
theorem rinto_lim {q a b : Rat} {k j i : Nat} (h : RLim q k) (ha : RLim a j) (hb : RLim b i) : RLim (rinto q a b) (2 * k + 5 * j + 2 * i + 8) := by
  unfold rinto
  split
  · exact rlim_zero (by omega)
  · exact (rlim_add ha (rmod_lim (rlim_sub h ha) (rlim_sub hb ha))).up _ (by omega)
theorem mid_lim {q m : Rat} {k j : Nat} (h : RLim q k) (hm : RLim m j) : RLim ((q + m) * (((1 : Int) : Rat) / ((2 : Int) : Rat))) (k + j + 3) := (rlim_mul (rlim_add h hm) rlim_half).up _ (by omega)
/-- A number of 64 bits; 0: it is none. -/
def fit64 (z : Int) : Bool := decide (-9223372036854775808 ≤ z ∧ z ≤ 9223372036854775807)
def sm64 (z : Int) : Int := if fit64 z then z else 0
theorem fit64_t {z : Int} (h0 : -9223372036854775808 ≤ z) (h1 : z ≤ 9223372036854775807) : fit64 z = true := decide_eq_true ⟨h0, h1⟩
theorem sm64_t {z : Int} (h0 : -9223372036854775808 ≤ z) (h1 : z ≤ 9223372036854775807) : sm64 z = z := by unfold sm64; rw [fit64_t h0 h1]; rfl
theorem lim_castM {N k : Nat} (h : Lim N k) : Lim ((N : Nat) : Int).natAbs k := by rw [Int.natAbs_natCast]; exact h
theorem Wc.ofnatM {w : World} {s : Value} {N : Nat} (h : Dg w .u32 B32 s N) : Wc w (.agg #[.bool false, s]) ((N : Nat) : Int) := by
  refine ⟨s, ?_, by simpa using h⟩
  rw [decide_eq_false (by omega)]
theorem Rq.castM {w : World} {v : Value} {p q : Rat} (h : Rq w v p) (e : p = q) : Rq w v q := e ▸ h
end Go.Proofs.YtmpdbkdijfpbbaaGreat

/- cut: Floor, Ceil, Round, Days, Of, Frac, Mod, Into, Mid. -/
namespace Go.Proofs.YtmpdbkdijfpbbaaGreat
open Go.RowKit
set_option maxRecDepth 100000
set_option linter.unusedVariables false

set_option maxHeartbeats 1000000 in
theorem cbel_any (v1 : Value) (qx : Rat) (w : World) (h1 : Rq w v1 qx) :
    Calls Tryz.prog 105 #[v1] w (WcPost w ((qx.den : Nat) : Int)) := by
  have bel : Below w.heap.size w w := Below.refl _ _
  refine E.enter (nt := 6) (L := [(0, v1)]) Tryz.func105 rfl rfl rfl (args_cons (i := 0) rfl args_nil) ?_
  intro a hF
  refine wp_seq ?_
  refine E.seq ?_
  obtain ⟨b1, ad1, n1, c1, ae1, m1, d1, rfl, hn1, hd1⟩ := Rq.shape h1
  have hf2 := Wc.abs hn1
  obtain ⟨g1, w3, ge1, hr, bb, o1⟩ := own_box (P := Tryz.prog) (w := w) (cs := [.bool b1, .slice ad1 n1 c1, .slice ae1 m1 d1]) (v := .agg #[.bool b1, .slice ad1 n1 c1, .slice ae1 m1 d1]) 32 rfl (niB (niS (niS ni0)))
  replace ge1 : w.heap.size ≤ g1 := by rw [← ge1]; exact bel.size
  refine E.opv hF (r_box (hF.at 0 rfl) hr) rfl rfl rfl rfl fun a hF => ?_
  clear hr
  replace h1 := h1.below bb
  replace hn1 := hn1.below bb
  replace hf2 := hf2.below bb
  replace hd1 := hd1.below bb
  replace bel := below_to bel bb
  clear bb
  obtain ⟨g2, w4, ge2, hr, bb, o2⟩ := own_alloc (P := Tryz.prog) (w := w3) (cs := [.bool false, .slice none 0 0]) 30 ze_Int rfl (niB (niS ni0))
  have ne1_2 : g1 ≠ g2 := by rw [← ge2]; exact o1.ne_new
  replace ge2 : w.heap.size ≤ g2 := by rw [← ge2]; exact bel.size
  refine E.opv hF (r_alloc hr) rfl rfl rfl rfl fun a hF => ?_
  clear hr
  replace hf2 := hf2.below bb
  replace hd1 := hd1.below bb
  replace h1 := h1.below bb
  replace hn1 := hn1.below bb
  replace o1 := o1.below bb
  replace bel := below_to bel bb
  clear bb
  refine E.nil ?_
  refine wp_seq ?_
  refine E.seq ?_
  refine E.opv hF (r_load (hF.at 1 rfl) (ld_Rat (vs := [.bool b1, .slice ad1 n1 c1, .slice ae1 m1 d1]) o1 rfl rfl)) rfl rfl rfl rfl fun a hF => ?_
  refine E.call hF (r_call Tryz.func37 en37.1 en37.2 (map1 (hF.at 0 rfl))) (rden_any _ (qx) _ h1) rfl rfl rfl rfl ?_
  rintro e w5 ⟨vv6, rfl, hh7, bb⟩
  refine ⟨_, rfl, ?_⟩
  intro a hF
  replace o2 := o2.below bb
  replace bel := below_to bel bb
  clear bb
  obtain ⟨ad8, n8, c8, rfl⟩ := Dg.form hh7
  refine E.opv hF (r_build (pair1 (hF.at 0 rfl)) (bd_Int_1 _ _ _ _)) rfl rfl rfl rfl fun a hF => ?_
  obtain ⟨w9, hr, tu, on⟩ := st_Int (vs := [.bool false, .slice ad8 n8 c8]) o2 rfl rfl (ocB (ocS oc0)) (niB (niS ni0)) (o := 0) rfl
  have kp := tu.keep o2
  refine E.st hF (r_store (hF.at 3 rfl) (hF.at 0 rfl) (hr _ rfl)) rfl rfl fun a hF => ?_
  clear hr
  replace hh7 := hh7.keep kp
  replace bel := tu.below bel ge2
  clear tu kp
  replace o2 := on
  clear on
  refine E.nil ?_
  refine wp_ret ?_
  refine bodyPost_ret (res_cell Tryz.results105 (hF.at 3 rfl) (ld_Int (vs := [.bool false, .slice ad8 n8 c8]) o2 rfl rfl)) hF.dfr ?_
  exact ⟨_, rfl, Wc.ofnatM hh7, bel⟩

set_option maxHeartbeats 1000000 in
theorem cFloor_any (v1 : Value) (qx : Rat) (k : Nat) (w : World) (h1 : Rq w v1 qx) (hl : RLim qx k) (hk : k ≤ 10000) :
    Calls Tryz.prog 83 #[v1] w (WcPost w (Rat.floor qx)) := by
  have bel : Below w.heap.size w w := Below.refl _ _
  refine E.enter (nt := 14) (L := [(0, v1)]) Tryz.func83 rfl rfl rfl (args_cons (i := 0) rfl args_nil) ?_
  intro a hF
  refine wp_seq ?_
  refine E.seq ?_
  obtain ⟨b1, ad1, n1, c1, ae1, m1, d1, rfl, hn1, hd1⟩ := Rq.shape h1
  have hf2 := Wc.abs hn1
  obtain ⟨g1, w3, ge1, hr, bb, o1⟩ := own_box (P := Tryz.prog) (w := w) (cs := [.bool b1, .slice ad1 n1 c1, .slice ae1 m1 d1]) (v := .agg #[.bool b1, .slice ad1 n1 c1, .slice ae1 m1 d1]) 32 rfl (niB (niS (niS ni0)))
  replace ge1 : w.heap.size ≤ g1 := by rw [← ge1]; exact bel.size
  refine E.opv hF (r_box (hF.at 0 rfl) hr) rfl rfl rfl rfl fun a hF => ?_
  clear hr
  replace h1 := h1.below bb
  replace hn1 := hn1.below bb
  replace hf2 := hf2.below bb
  replace hd1 := hd1.below bb
  replace bel := below_to bel bb
  clear bb
  obtain ⟨g2, w4, ge2, hr, bb, o2⟩ := own_alloc (P := Tryz.prog) (w := w3) (cs := [.bool false, .slice none 0 0]) 30 ze_Int rfl (niB (niS ni0))
  have ne1_2 : g1 ≠ g2 := by rw [← ge2]; exact o1.ne_new
  replace ge2 : w.heap.size ≤ g2 := by rw [← ge2]; exact bel.size
  refine E.opv hF (r_alloc hr) rfl rfl rfl rfl fun a hF => ?_
  clear hr
  replace hf2 := hf2.below bb
  replace hd1 := hd1.below bb
  replace h1 := h1.below bb
  replace hn1 := hn1.below bb
  replace o1 := o1.below bb
  replace bel := below_to bel bb
  clear bb
  refine E.nil ?_
  refine wp_seq ?_
  refine E.drawn2 11 mixed hF [some 6, some 7, some 8, some 9, some 10, some 5, some 11, some 12, some 3, some 4, none] [(fun _ v => v = .agg #[.bool b1, .slice ad1 n1 c1, .slice ae1 m1 d1]), (fun w v => Wc w v (Rat.num (qx))), (fun _ v => v = .agg #[.bool b1, .slice ad1 n1 c1, .slice ae1 m1 d1]), (fun w v => Wc w v (((Rat.den (qx) : Nat) : Int))), (fun w v => ∃ q r, v = .tuple #[q, r] ∧ Wc w q (Int.fdiv (Rat.num (qx)) (((Rat.den (qx) : Nat) : Int))) ∧ Wc w r (fr (Rat.num (qx)) (((Rat.den (qx) : Nat) : Int)))), (fun w v => ∃ q r, v = .tuple #[q, r] ∧ Wc w q (Int.fdiv (Rat.num (qx)) (((Rat.den (qx) : Nat) : Int))) ∧ Wc w r (fr (Rat.num (qx)) (((Rat.den (qx) : Nat) : Int)))), (fun w v => Wc w v (Int.fdiv (Rat.num (qx)) (((Rat.den (qx) : Nat) : Int)))), (fun w v => Wc w v (fr (Rat.num (qx)) (((Rat.den (qx) : Nat) : Int)))), (fun _ _ => True), (fun _ _ => True), (fun _ _ => True)] [8, 9] [⟨10, 8, 6⟩] [[], [], [], [], [], [], [], [], [.bool false, .slice none 0 0], [.bool false, .slice none 0 0], []] (by decide +kernel) (by decide +kernel) rfl rfl rfl (by decide +kernel) (by decide +kernel) ⟨(Mk.eq _), (fun _ _ _ h kp => h.keep kp), (Mk.eq _), (fun _ _ _ h kp => h.keep kp), (fun _ _ _ ⟨q, r, e, h1, h2⟩ kp => ⟨q, r, e, h1.keep kp, h2.keep kp⟩), (fun _ _ _ ⟨q, r, e, h1, h2⟩ kp => ⟨q, r, e, h1.keep kp, h2.keep kp⟩), (fun _ _ _ h kp => h.keep kp), (fun _ _ _ h kp => h.keep kp), Mk.any, Mk.any, Mk.any, trivial⟩ ⟨?_, ?_, ?_, ?_, ?_, ?_, ?_, ?_, ?_, ?_, ?_, trivial⟩ ?_
  · refine step2_val rfl ?_
    intro a' w' hF' hb hd
    exact if_does (wanted_free rfl) (Does.vals (r_load (hF'.at 1 rfl) (ld_Rat (vs := [.bool b1, .slice ad1 n1 c1, .slice ae1 m1 d1]) (o1.below hb) rfl rfl)) ⟨fun _ => rfl, Below.refl _ _, (fun h => absurd h (by decide))⟩)
  · refine step2_val rfl ?_
    intro a' w' hF' hb hd
    have e6 : a'.tmps.getD 6 undef = .agg #[.bool b1, .slice ad1 n1 c1, .slice ae1 m1 d1] := hd _ 6 (Array.mem_of_getElem? (i := 0) rfl) rfl rfl rfl
    refine if_does (wanted_free rfl) (Does.calls (r_call Tryz.func36 en36.1 en36.2 (map1 e6)) (rnum_any _ (qx) _ (h1.below hb)) ?_)
    rintro e w'' ⟨v', rfl, h', bb⟩
    exact ⟨_, rfl, fun _ => h', bb, (fun h => absurd h (by decide))⟩
  · refine step2_val rfl ?_
    intro a' w' hF' hb hd
    exact if_does (wanted_free rfl) (Does.vals (r_load (hF'.at 1 rfl) (ld_Rat (vs := [.bool b1, .slice ad1 n1 c1, .slice ae1 m1 d1]) (o1.below hb) rfl rfl)) ⟨fun _ => rfl, Below.refl _ _, (fun h => absurd h (by decide))⟩)
  · refine step2_val rfl ?_
    intro a' w' hF' hb hd
    have e8 : a'.tmps.getD 8 undef = .agg #[.bool b1, .slice ad1 n1 c1, .slice ae1 m1 d1] := hd _ 8 (Array.mem_of_getElem? (i := 0) rfl) rfl rfl rfl
    refine if_does (wanted_free rfl) (Does.calls (r_call Tryz.func105 en105.1 en105.2 (map1 e8)) (cbel_any _ (qx) _ (h1.below hb)) ?_)
    rintro e w'' ⟨v', rfl, h', bb⟩
    exact ⟨_, rfl, fun _ => h', bb, (fun h => absurd h (by decide))⟩
  · refine step2_val rfl ?_
    intro a' w' hF' hb hd
    obtain ⟨v7_0, e7, h7_1⟩ : ∃ v, a'.tmps.getD 7 undef = v ∧ Wc w' v (Rat.num (qx)) := ⟨_, rfl, hd _ 7 (Array.mem_of_getElem? (i := 0) rfl) rfl rfl rfl⟩
    obtain ⟨v9_0, e9, h9_1⟩ : ∃ v, a'.tmps.getD 9 undef = v ∧ Wc w' v (((Rat.den (qx) : Nat) : Int)) := ⟨_, rfl, hd _ 9 (Array.mem_of_getElem? (i := 1) rfl) rfl rfl rfl⟩
    refine if_does (wanted_free rfl) (Does.calls (r_call Tryz.func104 en104.1 en104.2 (map2 e7 e9)) (whDivMod_any _ _ _ _ _ (Wc.wz h7_1) (Wc.wz h9_1) k (hl.1) (by omega)) ?_)
    rintro e w'' ⟨v1', v2', rfl, h1', h2', bb⟩
    exact ⟨_, rfl, fun _ => ⟨v1', v2', rfl, h1', h2'⟩, bb, (fun h => absurd h (by decide))⟩
  · refine step2_val rfl ?_
    intro a' w' hF' hb hd
    obtain ⟨v10_0, v10_1, e10, h10_2, h10_3⟩ : (fun (w : World) (v : Value) => ∃ q r, v = .tuple #[q, r] ∧ Wc w q (Int.fdiv (Rat.num (qx)) (((Rat.den (qx) : Nat) : Int))) ∧ Wc w r (fr (Rat.num (qx)) (((Rat.den (qx) : Nat) : Int)))) w' (a'.tmps.getD 10 undef) := hd _ 10 (Array.mem_of_getElem? (i := 0) rfl) rfl rfl rfl
    exact if_does (wanted_free rfl) (Does.vals (r_move e10) ⟨fun _ => ⟨_, _, rfl, h10_2, h10_3⟩, Below.refl _ _, (fun h => absurd h (by decide))⟩)
  · refine step2_val rfl ?_
    intro a' w' hF' hb hd
    obtain ⟨v5, e5, h5⟩ : ∃ v, a'.tmps.getD 5 undef = v ∧ ∃ q r, v = .tuple #[q, r] ∧ Wc w' q (Int.fdiv (Rat.num (qx)) (((Rat.den (qx) : Nat) : Int))) ∧ Wc w' r (fr (Rat.num (qx)) (((Rat.den (qx) : Nat) : Int))) := ⟨_, rfl, hd _ 5 (Array.mem_of_getElem? (i := 0) rfl) rfl rfl rfl⟩
    obtain ⟨v5a, v5b, rfl, h5a, h5b⟩ := h5
    exact if_does (wanted_free rfl) (Does.vals (r_extract (v := v5a) e5 rfl) ⟨fun _ => h5a, Below.refl _ _, (fun h => absurd h (by decide))⟩)
  · refine step2_val rfl ?_
    intro a' w' hF' hb hd
    obtain ⟨v5, e5, h5⟩ : ∃ v, a'.tmps.getD 5 undef = v ∧ ∃ q r, v = .tuple #[q, r] ∧ Wc w' q (Int.fdiv (Rat.num (qx)) (((Rat.den (qx) : Nat) : Int))) ∧ Wc w' r (fr (Rat.num (qx)) (((Rat.den (qx) : Nat) : Int))) := ⟨_, rfl, hd _ 5 (Array.mem_of_getElem? (i := 0) rfl) rfl rfl rfl⟩
    obtain ⟨v5a, v5b, rfl, h5a, h5b⟩ := h5
    exact if_does (wanted_free rfl) (Does.vals (r_extract (v := v5b) e5 rfl) ⟨fun _ => h5b, Below.refl _ _, (fun h => absurd h (by decide))⟩)
  · refine step2_val rfl ?_
    intro a' w' hF' hb hd
    obtain ⟨g, w2, ge, hr, bb, on⟩ := own_alloc (P := Tryz.prog) (w := w') (cs := [.bool false, .slice none 0 0]) 30 ze_Int rfl (niB (niS ni0))
    subst ge
    exact if_does (wanted_free rfl) (Does.vals (r_alloc hr) ⟨(fun h => absurd h (by decide)), bb, fun _ => ⟨rfl, on⟩⟩)
  · refine step2_val rfl ?_
    intro a' w' hF' hb hd
    obtain ⟨g, w2, ge, hr, bb, on⟩ := own_alloc (P := Tryz.prog) (w := w') (cs := [.bool false, .slice none 0 0]) 30 ze_Int rfl (niB (niS ni0))
    subst ge
    exact if_does (wanted_free rfl) (Does.vals (r_alloc hr) ⟨(fun h => absurd h (by decide)), bb, fun _ => ⟨rfl, on⟩⟩)
  · exact step2_sto ⟨⟨10, 8, 6⟩, by simp, rfl⟩ (b := 8) (v := 6) rfl rfl rfl rfl rfl rfl sz_Int rfl (by decide) (by decide) (fun _ _ h => cellsBS (Wc.form h))
  intro a w5 hF bb hall hblk hne
  obtain ⟨vv6, e11, hh7⟩ : ∃ v, a.tmps.getD 11 undef = v ∧ Wc w5 v (Int.fdiv (Rat.num (qx)) (((Rat.den (qx) : Nat) : Int))) := ⟨_, rfl, hall 6 11 (by decide) rfl⟩
  obtain ⟨ad8, n8, c8, rfl, _⟩ := Wc.shape hh7
  obtain ⟨vv9, e12, hh10⟩ : ∃ v, a.tmps.getD 12 undef = v ∧ Wc w5 v (fr (Rat.num (qx)) (((Rat.den (qx) : Nat) : Int))) := ⟨_, rfl, hall 7 12 (by decide) rfl⟩
  obtain ⟨ad11, n11, c11, rfl, _⟩ := Wc.shape hh10
  obtain ⟨g3, cs3, e3, ge3, o3, hc3⟩ := hblk 8 3 (by decide) rfl
  have hc3 := (hc3.2 ⟨10, 8, 6⟩ (by simp) rfl).2 rfl 11 rfl
  rw [e11] at hc3
  obtain rfl : cs3 = [.bool (decide (Int.fdiv (Rat.num (qx)) (((Rat.den (qx) : Nat) : Int)) < 0)), .slice ad8 n8 c8] := by have hx := congrArg Array.toList hc3; exact hx.symm
  clear hc3
  have ne2_3 : g2 ≠ g3 := Nat.ne_of_lt (Nat.lt_of_lt_of_le o2.lt ge3)
  obtain ⟨g4, cs4, e4, ge4, o4, hc4⟩ := hblk 9 4 (by decide) rfl
  obtain rfl : cs4 = [.bool false, .slice none 0 0] := hc4.1 (notBlk_spec rfl)
  clear hc4
  have ne2_4 : g2 ≠ g4 := Nat.ne_of_lt (Nat.lt_of_lt_of_le o2.lt ge4)
  have ne3_4 : g3 ≠ g4 := by intro e; exact hne 8 9 3 4 (by decide) (by decide) (by decide) rfl rfl (by rw [e3, e4, e])
  replace ge3 : w.heap.size ≤ g3 := Nat.le_trans bel.size ge3
  replace ge4 : w.heap.size ≤ g4 := Nat.le_trans bel.size ge4
  clear hall hblk hne
  replace o2 := o2.below bb
  replace bel := below_to bel bb
  clear bb
  have hf12 := Wc.abs hh7
  clear e11
  replace hF := hF.add e12
  clear e12
  replace hF := hF.add e3
  clear e3
  replace hF := hF.add e4
  clear e4
  obtain ⟨w13, hr, tu, on⟩ := st_Int (vs := [.bool (decide (fr (Rat.num (qx)) (((Rat.den (qx) : Nat) : Int)) < 0)), .slice ad11 n11 c11]) o4 rfl rfl (ocB (ocS oc0)) (niB (niS ni0)) (o := 0) rfl
  have kp := tu.keep o4
  refine E.st hF (r_store (hF.at 0 rfl) (hF.at 2 rfl) (hr _ rfl)) rfl rfl fun a hF => ?_
  clear hr
  replace hf12 := hf12.keep kp
  replace hh7 := hh7.keep kp
  replace hh10 := hh10.keep kp
  replace o2 := tu.own o2 ne2_4
  replace o3 := tu.own o3 ne3_4
  replace bel := tu.below bel ge4
  clear tu kp
  replace o4 := on
  clear on
  have hf14 := Wc.abs hh10
  refine E.nil ?_
  refine wp_seq ?_
  refine E.seq ?_
  refine E.opv hF (r_load (hF.at 1 rfl) (ld_Int (vs := [.bool (decide (Int.fdiv (Rat.num (qx)) (((Rat.den (qx) : Nat) : Int)) < 0)), .slice ad8 n8 c8]) o3 rfl rfl)) rfl rfl rfl rfl fun a hF => ?_
  obtain ⟨w15, hr, tu, on⟩ := st_Int (vs := [.bool (decide (Int.fdiv (Rat.num (qx)) (((Rat.den (qx) : Nat) : Int)) < 0)), .slice ad8 n8 c8]) o2 rfl rfl (ocB (ocS oc0)) (niB (niS ni0)) (o := 0) rfl
  have kp := tu.keep o2
  refine E.st hF (r_store (hF.at 4 rfl) (hF.at 0 rfl) (hr _ rfl)) rfl rfl fun a hF => ?_
  clear hr
  replace hh7 := hh7.keep kp
  replace hf12 := hf12.keep kp
  replace bel := tu.below bel ge2
  clear tu kp
  replace o2 := on
  clear on
  refine E.nil ?_
  refine wp_ret ?_
  refine bodyPost_ret (res_cell Tryz.results83 (hF.at 4 rfl) (ld_Int (vs := [.bool (decide (Int.fdiv (Rat.num (qx)) (((Rat.den (qx) : Nat) : Int)) < 0)), .slice ad8 n8 c8]) o2 rfl rfl)) hF.dfr ?_
  exact ⟨_, rfl, Wc.cast hh7 (fl_eq qx), bel⟩

set_option maxHeartbeats 1000000 in
theorem cOf_any (v1 : Value) (z : Int) (w : World) (h1 : Wz w v1 z) :
    Calls Tryz.prog 82 #[v1] w (RqPost w (z : Rat)) := by
  have bel : Below w.heap.size w w := Below.refl _ _
  refine E.enter (nt := 6) (L := [(0, v1)]) Tryz.func82 rfl rfl rfl (args_cons (i := 0) rfl args_nil) ?_
  intro a hF
  refine wp_seq ?_
  refine E.seq ?_
  obtain ⟨b1, ad1, n1, c1, rfl⟩ := Wz.form h1
  obtain ⟨g1, w2, ge1, hr, bb, o1⟩ := own_box (P := Tryz.prog) (w := w) (cs := [.bool b1, .slice ad1 n1 c1]) (v := .agg #[.bool b1, .slice ad1 n1 c1]) 30 rfl (niB (niS ni0))
  replace ge1 : w.heap.size ≤ g1 := by rw [← ge1]; exact bel.size
  refine E.opv hF (r_box (hF.at 0 rfl) hr) rfl rfl rfl rfl fun a hF => ?_
  clear hr
  replace h1 := h1.below bb
  replace bel := below_to bel bb
  clear bb
  have hf3 := Wz.abso h1
  obtain ⟨g2, w4, ge2, hr, bb, o2⟩ := own_alloc (P := Tryz.prog) (w := w2) (cs := [.bool false, .slice none 0 0, .slice none 0 0]) 32 ze_Rat rfl (niB (niS (niS ni0)))
  have ne1_2 : g1 ≠ g2 := by rw [← ge2]; exact o1.ne_new
  replace ge2 : w.heap.size ≤ g2 := by rw [← ge2]; exact bel.size
  refine E.opv hF (r_alloc hr) rfl rfl rfl rfl fun a hF => ?_
  clear hr
  replace hf3 := hf3.below bb
  replace h1 := h1.below bb
  replace o1 := o1.below bb
  replace bel := below_to bel bb
  clear bb
  refine E.nil ?_
  refine wp_seq ?_
  refine E.drawn 3 mixed hF [3, 4, 5] [(fun _ v => v = .agg #[.bool b1, .slice ad1 n1 c1]), (fun w v => Wc w v (1)), (fun w v => Rq w v ((z : Rat) / (1 : Rat)))] [] (by decide +kernel) (by decide +kernel) rfl rfl rfl ⟨(Mb.eq _), (fun _ _ _ h hb => h.below hb), (fun _ _ _ h hb => h.below hb), trivial⟩ trivial ⟨?_, ?_, ?_, trivial⟩ ?_
  · intro a' w' hF' hb hd
    exact if_does (wanted_free rfl) (Does.vals (r_load (hF'.at 1 rfl) (ld_Int (vs := [.bool b1, .slice ad1 n1 c1]) (o1.below hb) rfl rfl)) ⟨rfl, Below.refl _ _, (fun h => absurd h (by decide))⟩)
  · intro a' w' hF' hb hd
    refine if_does (wanted_free rfl) (Does.calls (r_call Tryz.func56 en56.1 en56.2 (map1 ev_c)) (whOf_any 1 _ (by decide) (by decide)) ?_)
    rintro e w'' ⟨v', rfl, h', bb⟩
    exact ⟨_, rfl, h', bb, (fun h => absurd h (by decide))⟩
  · intro a' w' hF' hb hd
    have e3 : a'.tmps.getD 3 undef = .agg #[.bool b1, .slice ad1 n1 c1] := hd _ 3 (Array.mem_of_getElem? (i := 0) rfl) rfl rfl
    obtain ⟨v4_0, e4, h4_1⟩ : ∃ v, a'.tmps.getD 4 undef = v ∧ Wc w' v (1) := ⟨_, rfl, hd _ 4 (Array.mem_of_getElem? (i := 1) rfl) rfl rfl⟩
    refine if_does (wanted_free rfl) (Does.calls (r_call Tryz.func24 en24.1 en24.2 (map2 e3 e4)) (rmk_any _ _ (z) (1) _ (h1.below hb) (Wc.wz h4_1)) ?_)
    rintro e w'' ⟨v', rfl, h', bb⟩
    exact ⟨_, rfl, h', bb, (fun h => absurd h (by decide))⟩
  intro a w5 hF bb hall hne
  obtain ⟨vv6, e5, hh7⟩ : ∃ v, a.tmps.getD 5 undef = v ∧ Rq w5 v ((z : Rat) / (1 : Rat)) := ⟨_, rfl, hall 2 5 rfl⟩
  clear hall hne
  replace o2 := o2.below bb
  replace bel := below_to bel bb
  clear bb
  obtain ⟨b8, ad8, n8, c8, ae8, m8, d8, rfl, hn8, hd8⟩ := Rq.shape hh7
  have hf9 := Wc.abs hn8
  replace hF := hF.add e5
  clear e5
  obtain ⟨w10, hr, tu, on⟩ := st_Rat (vs := [.bool b8, .slice ad8 n8 c8, .slice ae8 m8 d8]) o2 rfl rfl (ocB (ocS (ocS oc0))) (niB (niS (niS ni0))) (o := 0) rfl
  have kp := tu.keep o2
  refine E.st hF (r_store (hF.at 1 rfl) (hF.at 0 rfl) (hr _ rfl)) rfl rfl fun a hF => ?_
  clear hr
  replace hh7 := hh7.keep kp
  replace hn8 := hn8.keep kp
  replace hf9 := hf9.keep kp
  replace hd8 := hd8.keep kp
  replace bel := tu.below bel ge2
  clear tu kp
  replace o2 := on
  clear on
  refine E.nil ?_
  refine wp_ret ?_
  refine bodyPost_ret (res_cell Tryz.results82 (hF.at 1 rfl) (ld_Rat (vs := [.bool b8, .slice ad8 n8 c8, .slice ae8 m8 d8]) o2 rfl rfl)) hF.dfr ?_
  exact ⟨_, rfl, Rq.castM hh7 (of_one z), bel⟩

set_option maxHeartbeats 1000000 in
theorem cFrac_any (v1 : Value) (qx : Rat) (k : Nat) (w : World) (h1 : Rq w v1 qx) (hl : RLim qx k) (hk : k ≤ 10000) :
    Calls Tryz.prog 49 #[v1] w (RqPost w (qx - ((Rat.floor qx : Int) : Rat))) := by
  have bel : Below w.heap.size w w := Below.refl _ _
  refine E.enter (nt := 8) (L := [(0, v1)]) Tryz.func49 rfl rfl rfl (args_cons (i := 0) rfl args_nil) ?_
  intro a hF
  refine wp_seq ?_
  refine E.seq ?_
  obtain ⟨b1, ad1, n1, c1, ae1, m1, d1, rfl, hn1, hd1⟩ := Rq.shape h1
  have hf2 := Wc.abs hn1
  obtain ⟨g1, w3, ge1, hr, bb, o1⟩ := own_box (P := Tryz.prog) (w := w) (cs := [.bool b1, .slice ad1 n1 c1, .slice ae1 m1 d1]) (v := .agg #[.bool b1, .slice ad1 n1 c1, .slice ae1 m1 d1]) 32 rfl (niB (niS (niS ni0)))
  replace ge1 : w.heap.size ≤ g1 := by rw [← ge1]; exact bel.size
  refine E.opv hF (r_box (hF.at 0 rfl) hr) rfl rfl rfl rfl fun a hF => ?_
  clear hr
  replace h1 := h1.below bb
  replace hn1 := hn1.below bb
  replace hf2 := hf2.below bb
  replace hd1 := hd1.below bb
  replace bel := below_to bel bb
  clear bb
  obtain ⟨g2, w4, ge2, hr, bb, o2⟩ := own_alloc (P := Tryz.prog) (w := w3) (cs := [.bool false, .slice none 0 0, .slice none 0 0]) 32 ze_Rat rfl (niB (niS (niS ni0)))
  have ne1_2 : g1 ≠ g2 := by rw [← ge2]; exact o1.ne_new
  replace ge2 : w.heap.size ≤ g2 := by rw [← ge2]; exact bel.size
  refine E.opv hF (r_alloc hr) rfl rfl rfl rfl fun a hF => ?_
  clear hr
  replace hf2 := hf2.below bb
  replace hd1 := hd1.below bb
  replace h1 := h1.below bb
  replace hn1 := hn1.below bb
  replace o1 := o1.below bb
  replace bel := below_to bel bb
  clear bb
  refine E.nil ?_
  refine wp_seq ?_
  refine E.drawn 5 mixed hF [3, 4, 5, 6, 7] [(fun _ v => v = .agg #[.bool b1, .slice ad1 n1 c1, .slice ae1 m1 d1]), (fun _ v => v = .agg #[.bool b1, .slice ad1 n1 c1, .slice ae1 m1 d1]), (fun w v => Wc w v (Rat.floor (qx))), (fun w v => Rq w v (((Rat.floor (qx) : Int) : Rat))), (fun w v => Rq w v ((qx) - (((Rat.floor (qx) : Int) : Rat))))] [] (by decide +kernel) (by decide +kernel) rfl rfl rfl ⟨(Mb.eq _), (Mb.eq _), (fun _ _ _ h hb => h.below hb), (fun _ _ _ h hb => h.below hb), (fun _ _ _ h hb => h.below hb), trivial⟩ trivial ⟨?_, ?_, ?_, ?_, ?_, trivial⟩ ?_
  · intro a' w' hF' hb hd
    exact if_does (wanted_free rfl) (Does.vals (r_load (hF'.at 1 rfl) (ld_Rat (vs := [.bool b1, .slice ad1 n1 c1, .slice ae1 m1 d1]) (o1.below hb) rfl rfl)) ⟨rfl, Below.refl _ _, (fun h => absurd h (by decide))⟩)
  · intro a' w' hF' hb hd
    exact if_does (wanted_free rfl) (Does.vals (r_load (hF'.at 1 rfl) (ld_Rat (vs := [.bool b1, .slice ad1 n1 c1, .slice ae1 m1 d1]) (o1.below hb) rfl rfl)) ⟨rfl, Below.refl _ _, (fun h => absurd h (by decide))⟩)
  · intro a' w' hF' hb hd
    have e4 : a'.tmps.getD 4 undef = .agg #[.bool b1, .slice ad1 n1 c1, .slice ae1 m1 d1] := hd _ 4 (Array.mem_of_getElem? (i := 0) rfl) rfl rfl
    refine if_does (wanted_free rfl) (Does.calls (r_call Tryz.func83 en83.1 en83.2 (map1 e4)) (cFloor_any _ (qx) k _ (h1.below hb) hl (by omega)) ?_)
    rintro e w'' ⟨v', rfl, h', bb⟩
    exact ⟨_, rfl, h', bb, (fun h => absurd h (by decide))⟩
  · intro a' w' hF' hb hd
    obtain ⟨v5_0, e5, h5_1⟩ : ∃ v, a'.tmps.getD 5 undef = v ∧ Wc w' v (Rat.floor (qx)) := ⟨_, rfl, hd _ 5 (Array.mem_of_getElem? (i := 0) rfl) rfl rfl⟩
    refine if_does (wanted_free rfl) (Does.calls (r_call Tryz.func82 en82.1 en82.2 (map1 e5)) (cOf_any _ (Rat.floor (qx)) _ (Wc.wz h5_1)) ?_)
    rintro e w'' ⟨v', rfl, h', bb⟩
    exact ⟨_, rfl, h', bb, (fun h => absurd h (by decide))⟩
  · intro a' w' hF' hb hd
    have e3 : a'.tmps.getD 3 undef = .agg #[.bool b1, .slice ad1 n1 c1, .slice ae1 m1 d1] := hd _ 3 (Array.mem_of_getElem? (i := 0) rfl) rfl rfl
    obtain ⟨v6_0, e6, h6_1⟩ : ∃ v, a'.tmps.getD 6 undef = v ∧ Rq w' v (((Rat.floor (qx) : Int) : Rat)) := ⟨_, rfl, hd _ 6 (Array.mem_of_getElem? (i := 1) rfl) rfl rfl⟩
    refine if_does (wanted_free rfl) (Does.calls (r_call Tryz.func81 en81.1 en81.2 (map2 e3 e6)) (rSub_any _ _ (qx) (((Rat.floor (qx) : Int) : Rat)) (max k ((k + 1) + 1)) _ (h1.below hb) h6_1 (hl.up _ (by omega)) ((rlim_int (Lim.up (fl_lim hl) ((k + 1) + 1) (by omega)) (by omega)).up _ (by omega)) (by omega)) ?_)
    rintro e w'' ⟨v', rfl, h', bb⟩
    exact ⟨_, rfl, h', bb, (fun h => absurd h (by decide))⟩
  intro a w5 hF bb hall hne
  obtain ⟨vv6, e7, hh7⟩ : ∃ v, a.tmps.getD 7 undef = v ∧ Rq w5 v ((qx) - (((Rat.floor (qx) : Int) : Rat))) := ⟨_, rfl, hall 4 7 rfl⟩
  clear hall hne
  replace o2 := o2.below bb
  replace bel := below_to bel bb
  clear bb
  obtain ⟨b8, ad8, n8, c8, ae8, m8, d8, rfl, hn8, hd8⟩ := Rq.shape hh7
  have hf9 := Wc.abs hn8
  replace hF := hF.add e7
  clear e7
  obtain ⟨w10, hr, tu, on⟩ := st_Rat (vs := [.bool b8, .slice ad8 n8 c8, .slice ae8 m8 d8]) o2 rfl rfl (ocB (ocS (ocS oc0))) (niB (niS (niS ni0))) (o := 0) rfl
  have kp := tu.keep o2
  refine E.st hF (r_store (hF.at 1 rfl) (hF.at 0 rfl) (hr _ rfl)) rfl rfl fun a hF => ?_
  clear hr
  replace hh7 := hh7.keep kp
  replace hn8 := hn8.keep kp
  replace hf9 := hf9.keep kp
  replace hd8 := hd8.keep kp
  replace bel := tu.below bel ge2
  clear tu kp
  replace o2 := on
  clear on
  refine E.nil ?_
  refine wp_ret ?_
  refine bodyPost_ret (res_cell Tryz.results49 (hF.at 1 rfl) (ld_Rat (vs := [.bool b8, .slice ad8 n8 c8, .slice ae8 m8 d8]) o2 rfl rfl)) hF.dfr ?_
  exact ⟨_, rfl, hh7, bel⟩

end Go.Proofs.YtmpdbkdijfpbbaaGreat
