/- CuA CuB -/
import Derived.Test.YtpkhdajnppoinaaWsA
import Derived.Test.YtpkhdajnppoinaaGU
import Derived.Test.YtpkhdajnppoinaaGO
import Derived.Test.YtpkhdajnppoinaaGI

/- Words: floors, what is left over. -/
namespace Go.Proofs.Ytpkhdajnppoinaa
open Go.RowKit
set_option maxRecDepth 100000
set_option linter.unusedVariables false

theorem fl_eq (q : Rat) : Int.fdiv q.num ((q.den : Nat) : Int) = q.floor := by
  rw [Rat.floor_def, Int.fdiv_eq_ediv_of_nonneg _ (by omega)]
theorem fl_le (q : Rat) : (q.floor : Rat) ≤ q := Rat.floor_le q
theorem fl_lt (q : Rat) : q < (q.floor : Rat) + 1 := by
  have := Rat.lt_floor_add_one q
  rw [Rat.intCast_add] at this; exact this
/-- What is left over of x by m. -/
def rmod (x m : Rat) : Rat := if m ≤ 0 then 0 else x - m * ((x / m).floor : Rat)
def rinto (x a b : Rat) : Rat := if b - a ≤ 0 then 0 else a + rmod (x - a) (b - a)
theorem mul_div_r {x m : Rat} (h : 0 < m) : m * (x / m) = x := by
  have : m ≠ 0 := by grind
  rw [Rat.mul_comm]; exact Rat.div_mul_cancel this
theorem rmod_low {x m : Rat} (h : 0 < m) : 0 ≤ rmod x m := by
  unfold rmod
  rw [if_neg (by grind)]
  have h1 := Rat.mul_le_mul_of_nonneg_left (c := m) (fl_le (x / m)) (by grind)
  rw [mul_div_r h] at h1
  grind
theorem rmod_high {x m : Rat} (h : 0 < m) : rmod x m < m := by
  unfold rmod
  rw [if_neg (by grind)]
  have h1 := (Rat.mul_lt_mul_left h).2 (fl_lt (x / m))
  rw [mul_div_r h] at h1
  grind
theorem rmod_more {x m : Rat} (n : Int) (h : 0 < m) : rmod (x + m * (n : Rat)) m = rmod x m := by
  unfold rmod
  rw [if_neg (by grind), if_neg (by grind)]
  have e : (x + m * (n : Rat)) / m = x / m + (n : Rat) := by
    have : m ≠ 0 := by grind
    grind
  rw [e, Rat.floor_add_intCast, Rat.intCast_add]
  grind
theorem rinto_low {x a b : Rat} (h : a < b) : a ≤ rinto x a b := by
  unfold rinto
  rw [if_neg (by grind)]
  have := rmod_low (x := x - a) (m := b - a) (by grind)
  grind
theorem rinto_high {x a b : Rat} (h : a < b) : rinto x a b < b := by
  unfold rinto
  rw [if_neg (by grind)]
  have := rmod_high (x := x - a) (m := b - a) (by grind)
  grind
theorem rinto_id {x a b : Rat} (h1 : a ≤ x) (h2 : x < b) : rinto x a b = x := by
  unfold rinto
  rw [if_neg (by grind)]
  unfold rmod
  rw [if_neg (by grind)]
  have e : ((x - a) / (b - a)).floor = 0 := by
    have hp : 0 < b - a := by grind
    have l1 : (0 : Int) ≤ ((x - a) / (b - a)).floor := Rat.le_floor_iff.2 (by
      rw [Rat.intCast_zero]; exact Rat.not_lt.1 fun hn => by rw [Rat.div_lt_iff hp] at hn; grind)
    have l2 : ((x - a) / (b - a)).floor < 1 := Rat.floor_lt_iff.2 (by
      rw [Rat.intCast_one, Rat.div_lt_iff hp]; grind)
    omega
  rw [e, Rat.intCast_zero]
  grind
theorem round_near (q : Rat) : (((q + ((1 : Int) : Rat) / ((2 : Int) : Rat)).floor : Rat) - q).abs ≤ ((1 : Int) : Rat) / ((2 : Int) : Rat) := by
  have h1 := fl_le (q + ((1 : Int) : Rat) / ((2 : Int) : Rat))
  have h2 := fl_lt (q + ((1 : Int) : Rat) / ((2 : Int) : Rat))
  have e : ((1 : Int) : Rat) / ((2 : Int) : Rat) = 1/2 := by decide +kernel
  rw [e] at *
  unfold Rat.abs
  split <;> grind
theorem mid_same (p q : Rat) : (p + q) * (((1 : Int) : Rat) / ((2 : Int) : Rat)) - p = q - (p + q) * (((1 : Int) : Rat) / ((2 : Int) : Rat)) := by
  have e : ((1 : Int) : Rat) / ((2 : Int) : Rat) = 1/2 := by decide +kernel
  rw [e]; grind
theorem mid_same2 (p q : Rat) : decide (p = q) = decide ((p + q) * (((1 : Int) : Rat) / ((2 : Int) : Rat)) = p) := by
  have e : ((1 : Int) : Rat) / ((2 : Int) : Rat) = 1/2 := by decide +kernel
  rw [e]
  exact decide_eq_decide.2 ⟨fun h => by grind, fun h => by grind⟩
theorem ceil_eq (q : Rat) : -((-q).floor) = q.ceil := (Rat.ceil_eq_neg_floor_neg q).symm
theorem of_one (z : Int) : (z : Rat) / ((1 : Int) : Rat) = (z : Rat) := by
  rw [Rat.intCast_one]; grind
theorem sz_le0 {q : Rat} : sz q.num ≤ 0 ↔ q ≤ 0 := by
  rw [sz_def]
  split
  · constructor <;> intro <;> grind
  · split
    · constructor <;> intro <;> grind
    · constructor <;> intro <;> grind
theorem rmod_no {x m : Rat} (h : sz m.num ≤ 0) : (0 : Rat) = rmod x m := by
  unfold rmod; rw [if_pos (sz_le0.1 h)]
theorem rmod_yes {x m : Rat} (h : ¬ sz m.num ≤ 0) : x - m * (((x / m).floor : Int) : Rat) = rmod x m := by
  unfold rmod; rw [if_neg (fun e => h (sz_le0.2 e))]
theorem rinto_no {x a b : Rat} (h : sz (b - a).num ≤ 0) : (0 : Rat) = rinto x a b := by
  unfold rinto; rw [if_pos (sz_le0.1 h)]
theorem rinto_yes {x a b : Rat} (h : ¬ sz (b - a).num ≤ 0) : a + rmod (x - a) (b - a) = rinto x a b := by
  unfold rinto; rw [if_neg (fun e => h (sz_le0.2 e))]
theorem fl_lim {q : Rat} {k : Nat} (h : RLim q k) : Lim (Rat.floor q).natAbs (k + 1) := by
  rw [← fl_eq]; exact limz_fdiv _ h.1
theorem ceil_lim {q : Rat} {k : Nat} (h : RLim q k) : Lim (Rat.ceil q).natAbs (k + 1) := by
  rw [← ceil_eq]; exact limz_neg (fl_lim (rlim_neg h))
theorem rlim_half : RLim (((1 : Int) : Rat) / ((2 : Int) : Rat)) 2 := (rlim_mk2 (limz_64 (by decide) (by decide)) (limz_64 (by decide) (by decide))).up 2 (by decide)
theorem round_lim {q : Rat} {k : Nat} (h : RLim q k) : Lim (Rat.floor (q + ((1 : Int) : Rat) / ((2 : Int) : Rat))).natAbs (k + 4) := fl_lim (rlim_add h rlim_half)
theorem frac_lim {q : Rat} {k : Nat} (h : RLim q k) : RLim (q - ((Rat.floor q : Int) : Rat)) (k + k + 3) := (rlim_sub h (rlim_int (fl_lim h) (by omega))).up _ (by omega)
theorem rmod_lim {q m : Rat} {k j : Nat} (h : RLim q k) (hm : RLim m j) : RLim (rmod q m) (k + k + j + j + 3) := by
  unfold rmod
  split
  · exact rlim_zero (by omega)
  · exact (rlim_sub h (rlim_mul hm (rlim_int (fl_lim (rlim_div h hm)) (by omega)))).up _ (by omega)
theorem rinto_lim {q a b : Rat} {k j i : Nat} (h : RLim q k) (ha : RLim a j) (hb : RLim b i) : RLim (rinto q a b) (2 * k + 5 * j + 2 * i + 8) := by
  unfold rinto
  split
  · exact rlim_zero (by omega)
  · exact (rlim_add ha (rmod_lim (rlim_sub h ha) (rlim_sub hb ha))).up _ (by omega)
theorem mid_lim {q m : Rat} {k j : Nat} (h : RLim q k) (hm : RLim m j) : RLim ((q + m) * (((1 : Int) : Rat) / ((2 : Int) : Rat))) (k + j + 3) := (rlim_mul (rlim_add h hm) rlim_half).up _ (by omega)
/-- A number of 64 bits; 0: it is none. -/
def fit64 (z : Int) : Bool := decide (-9223372036854775808 ≤ z ∧ z ≤ 9223372036854775807)
def sm64 (z : Int) : Int := if fit64 z then z else 0
theorem fit64_t {z : Int} (h0 : -9223372036854775808 ≤ z) (h1 : z ≤ 9223372036854775807) : fit64 z = true := decide_eq_true ⟨h0, h1⟩
theorem sm64_t {z : Int} (h0 : -9223372036854775808 ≤ z) (h1 : z ≤ 9223372036854775807) : sm64 z = z := by unfold sm64; rw [fit64_t h0 h1]; rfl
theorem lim_castM {N k : Nat} (h : Lim N k) : Lim ((N : Nat) : Int).natAbs k := by rw [Int.natAbs_natCast]; exact h
theorem Wc.ofnatM {w : World} {s : Value} {N : Nat} (h : Dg w .u32 B32 s N) : Wc w (.agg #[.bool false, s]) ((N : Nat) : Int) := by
  refine ⟨s, ?_, by simpa using h⟩
  rw [decide_eq_false (by omega)]
theorem Rq.castM {w : World} {v : Value} {p q : Rat} (h : Rq w v p) (e : p = q) : Rq w v q := e ▸ h
end Go.Proofs.Ytpkhdajnppoinaa

/- cut: Floor, Ceil, Round, Days, Of, Frac, Mod, Into, Mid. -/
namespace Go.Proofs.Ytpkhdajnppoinaa
open Go.RowKit
set_option maxRecDepth 100000
set_option linter.unusedVariables false

theorem small64 (v : Value) (z : Int) (w : World) (h : Wz w v z) : Calls Try.prog 45 #[v] w (ValPost w (.tuple #[.int .i64 (sm64 z), .bool (fit64 z)])) := by
  by_cases k : -9223372036854775808 ≤ z ∧ z ≤ 9223372036854775807
  · have e1 : fit64 z = true := decide_eq_true k
    have e2 : sm64 z = z := by unfold sm64; rw [e1]; rfl
    rw [e1, e2]
    exact whSmall_yes v z w h k.1 k.2
  · have e1 : fit64 z = false := decide_eq_false k
    have e2 : sm64 z = 0 := by unfold sm64; rw [e1]; rfl
    rw [e1, e2]
    exact whSmall_no v z w h (by omega)
set_option maxHeartbeats 1000000 in
theorem cbel_any (v1 : Value) (qx : Rat) (w : World) (h1 : Rq w v1 qx) :
    Calls Try.prog 48 #[v1] w (WcPost w ((qx.den : Nat) : Int)) := by
  have st := St.start w
  refine E.enter (nt := 6) (L := [(0, v1)]) Try.func48 rfl rfl rfl (args_cons (i := 0) rfl args_nil) ?_
  intro a hF
  refine wp_seq ?_
  refine E.seq ?_
  obtain ⟨b2, ad2, n2, c2, ae2, m2, d2, rfl⟩ := Rq.form h1
  refine S.box st hF (hF.at 0 rfl) rfl rfl fun g1 w1 a st hF => ?_
  refine S.alloc st hF ty_Int rfl rfl fun g2 w3 a st hF => ?_
  refine E.nil ?_
  refine wp_seq ?_
  refine E.seq ?_
  refine E.opv hF (r_load (hF.at 1 rfl) (ld_all ty_Rat (st.bk 1 rfl) rfl)) rfl rfl rfl rfl fun a hF => ?_
  refine S.call st hF (r_call Try.func29 en29.1 en29.2 (map1 (hF.at 0 rfl))) (rden_any _ (qx) _ (h1.below st.bel)) (fun _ _ h => h) Dg.cl rfl rfl rfl rfl fun vv5 w4 a st hF => ?_
  obtain ⟨ad7, n7, c7, rfl⟩ := Dg.form (st.f 0 rfl)
  refine E.opv hF (r_build (pair1 (hF.at 0 rfl)) (bd_Int_1 _ _ _ _)) rfl rfl rfl rfl fun a hF => ?_
  refine S.sto st hF 0 rfl (hF.at 3 rfl) (hF.at 0 rfl) ty_Int rfl rfl rfl rfl fun w8 a st hF => ?_
  refine E.nil ?_
  refine wp_ret ?_
  refine S.ret Try.results48 st hF (hF.at 3 rfl) 0 rfl ty_Int rfl hF.dfr ?_
  have bel := st.bel
  exact ⟨_, rfl, Wc.ofnatM (st.f 0 rfl), bel⟩

set_option maxHeartbeats 1000000 in
theorem cOf_any (v1 : Value) (z : Int) (w : World) (h1 : Wz w v1 z) :
    Calls Try.prog 73 #[v1] w (RqPost w (z : Rat)) := by
  have st := St.start w
  refine E.enter (nt := 6) (L := [(0, v1)]) Try.func73 rfl rfl rfl (args_cons (i := 0) rfl args_nil) ?_
  intro a hF
  refine wp_seq ?_
  refine E.seq ?_
  obtain ⟨b2, ad2, n2, c2, rfl⟩ := Wz.form h1
  refine S.box st hF (hF.at 0 rfl) rfl rfl fun g1 w1 a st hF => ?_
  have hf3 := Wz.abso h1
  refine S.alloc st hF ty_Rat rfl rfl fun g2 w4 a st hF => ?_
  refine E.nil ?_
  refine wp_seq ?_
  refine E.drawn 3 mixed hF [3, 4, 5] [(fun _ v => v = .agg #[.bool b2, .slice ad2 n2 c2]), (fun w v => Wc w v (1)), (fun w v => Rq w v ((z : Rat) / (1 : Rat)))] [] (by decide +kernel) (by decide +kernel) rfl rfl rfl ⟨(Mb.eq _), (fun _ _ _ h hb => h.below hb), (fun _ _ _ h hb => h.below hb), trivial⟩ trivial ⟨?_, ?_, ?_, trivial⟩ ?_
  · intro a' w' hF' hb hd
    exact dv0 (r_load (hF'.at 1 rfl) (ld_all ty_Int ((st.bk 1 rfl).below hb) rfl)) rfl rfl rfl
  · intro a' w' hF' hb hd
    exact dc0 (r_call Try.func38 en38.1 en38.2 (map1 ev_c)) (whOf_any 1 _ (by decide) (by decide)) rfl rfl
  · intro a' w' hF' hb hd
    have e3 := sHe hd 0 3 rfl rfl rfl rfl
    obtain ⟨v4_0, e4, h4_1⟩ := sH hd 1 4 rfl rfl rfl rfl
    exact dc0 (r_call Try.func37 en37.1 en37.2 (map2 e3 e4)) (rmk_any _ _ (z) (1) _ (h1.below (below_to st.bel hb)) (Wc.wz h4_1)) rfl rfl
  intro a w5 hF bb hall hne
  replace st := st.to bb
  obtain ⟨vv6, e5, hh7⟩ := sS hall 2 5 rfl rfl
  replace st := st.add hh7 (Rq.cl _)
  clear hh7
  clear hall hne bb
  obtain ⟨b8, ad8, n8, c8, ae8, m8, d8, rfl⟩ := Rq.form (st.f 0 rfl)
  replace hF := hF.add e5
  clear e5
  refine S.sto st hF 0 rfl (hF.at 1 rfl) (hF.at 0 rfl) ty_Rat rfl rfl rfl rfl fun w9 a st hF => ?_
  refine E.nil ?_
  refine wp_ret ?_
  refine S.ret Try.results73 st hF (hF.at 1 rfl) 0 rfl ty_Rat rfl hF.dfr ?_
  have bel := st.bel
  exact ⟨_, rfl, Rq.castM (st.f 0 rfl) (of_one z), bel⟩

end Go.Proofs.Ytpkhdajnppoinaa
