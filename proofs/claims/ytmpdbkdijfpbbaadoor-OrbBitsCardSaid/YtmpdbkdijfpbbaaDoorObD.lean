/- OrbBits. -/
import Derived.Test.YtmpdbkdijfpbbaaDoorObA
namespace Go.Proofs.YtmpdbkdijfpbbaaDoor
open Go.RowKit
set_option maxRecDepth 100000
set_option linter.unusedVariables false

/-! ### How great the numbers are -/
/-- D times the number is whole. -/
def Dv (q : Rat) (D : Nat) : Prop := ∃ n : Int, q * ((D : Nat) : Rat) = ((n : Int) : Rat)
theorem Dv.int (n : Int) : Dv ((n : Int) : Rat) 1 := ⟨n, by rw [show ((1 : Nat) : Rat) = 1 from rfl]; grind⟩
theorem Dv.frc (n : Int) {D : Nat} (h : 0 < D) : Dv (((n : Int) : Rat) / (((D : Nat) : Int) : Rat)) D := ⟨n, by
  rw [Rat.intCast_natCast]
  exact Rat.div_mul_cancel (by have := Rat.natCast_pos.2 h; grind)⟩
theorem Dv.add {p q : Rat} {D : Nat} (h : Dv p D) (g : Dv q D) : Dv (p + q) D := by
  obtain ⟨n, h⟩ := h
  obtain ⟨m, g⟩ := g
  exact ⟨n + m, by rw [Rat.intCast_add]; grind⟩
theorem Dv.neg {p : Rat} {D : Nat} (h : Dv p D) : Dv (-p) D := by
  obtain ⟨n, h⟩ := h
  exact ⟨-n, by rw [Rat.intCast_neg]; grind⟩
theorem Dv.sub {p q : Rat} {D : Nat} (h : Dv p D) (g : Dv q D) : Dv (p - q) D := by rw [Rat.sub_eq_add_neg]; exact h.add g.neg
theorem Dv.abs {p : Rat} {D : Nat} (h : Dv p D) : Dv p.abs D := by
  unfold Rat.abs
  split
  · exact h
  · exact h.neg
theorem Dv.mul {p q : Rat} {D E : Nat} (h : Dv p D) (g : Dv q E) : Dv (p * q) (D * E) := by
  obtain ⟨n, h⟩ := h
  obtain ⟨m, g⟩ := g
  exact ⟨n * m, by rw [Rat.intCast_mul, Rat.natCast_mul]; grind⟩
theorem Dv.mulI {p : Rat} {D : Nat} (n : Int) (h : Dv p D) : Dv (p * ((n : Int) : Rat)) D := by
  have := h.mul (Dv.int n)
  rwa [Nat.mul_one] at this
theorem Dv.up {p : Rat} {D : Nat} (h : Dv p D) (E : Nat) : Dv p (D * E) := by
  obtain ⟨n, h⟩ := h
  exact ⟨n * (E : Int), by rw [Rat.intCast_mul, Rat.natCast_mul, Rat.intCast_natCast]; grind⟩
theorem Dv.cast {p q : Rat} {D E : Nat} (h : Dv p D) (e : p = q) (f : D = E) : Dv q E := by subst e; subst f; exact h
theorem Dv.addI {p : Rat} {D : Nat} (n : Int) (h : Dv p D) : Dv (p + ((n : Int) : Rat)) D := h.add (((Dv.int n).up D).cast rfl (Nat.one_mul D))
theorem Dv.mfr {p : Rat} {D : Nat} (h : Dv p D) : Dv (mfr p) D := by rw [mfr_fl]; exact h.addI _
theorem Dv.rmod {p : Rat} {D : Nat} (h : Dv p D) : Dv (rmod p ((360 : Int) : Rat)) D := by
  rw [rmod_fl c360_pos, ← Rat.intCast_mul]; exact h.addI _
theorem Dv.den {p : Rat} {D : Nat} (h : Dv p D) (hD : 0 < D) : p.den ≤ D := by
  obtain ⟨n, h⟩ := h
  have hd := Rat.natCast_pos.2 hD
  have e : p = mkRat n D := by
    rw [Rat.mkRat_eq_div, ← h, Rat.div_def, Rat.mul_assoc, Rat.mul_inv_cancel _ (by grind), Rat.mul_one]
  rw [e, Rat.den_mkRat, if_neg (by omega)]
  exact Nat.div_le_self _ _
theorem num_le {p : Rat} {D : Nat} (h0 : 0 ≤ p) (h1 : p < ((360 : Int) : Rat)) (hd : p.den ≤ D) : p.num.natAbs ≤ 360 * D := by
  have hn : 0 ≤ p.num := Rat.num_nonneg.2 h0
  have dp := Rat.natCast_pos.2 p.den_pos
  have e : (p.num : Rat) = p * (p.den : Rat) := by
    have h1 : p = (p.num : Rat) / (p.den : Rat) := by rw [← Rat.mkRat_eq_div, Rat.mkRat_self]
    have : p * (p.den : Rat) = (p.num : Rat) / (p.den : Rat) * (p.den : Rat) := by rw [← h1]
    rw [this, Rat.div_mul_cancel (by grind)]
  have m := (Rat.mul_lt_mul_right (c := (p.den : Rat)) dp).2 h1
  rw [← e] at m
  have m' : p.num < 360 * (p.den : Int) := Rat.intCast_lt_intCast.1 (by rw [Rat.intCast_mul, Rat.intCast_natCast]; exact m)
  omega
theorem dl_le2 {n k : Nat} (h : n < 2 ^ k) : dl 2 n ≤ k := dl_le (by decide) h
/-- Bits of a number that isn't below 0, less than 360, and times D whole. -/
theorem bits_lt {p : Rat} {D k : Nat} (h0 : 0 ≤ p) (h1 : p < ((360 : Int) : Rat)) (hv : Dv p D) (hD : 0 < D) (hk : 360 * D < 2 ^ k) : max ((dl 2 p.num.natAbs : Nat) : Int) ((dl 2 p.den : Nat) : Int) < ((k + 1 : Nat) : Int) := by
  have hd := hv.den hD
  have hn := num_le h0 h1 hd
  have a := dl_le2 (n := p.num.natAbs) (k := k) (by omega)
  have b := dl_le2 (n := p.den) (k := k) (by omega)
  omega
theorem mturn_dv (d : Int) {n : Int} {D : Nat} (hn : n ≠ 0) (hD : 0 < D) : Dv (mturn ((d : Int) : Rat) ((((D : Nat) : Int) : Rat) / ((n : Int) : Rat))) D := by
  have e : mturn ((d : Int) : Rat) ((((D : Nat) : Int) : Rat) / ((n : Int) : Rat)) = ((n : Int) : Rat) / (((D : Nat) : Int) : Rat) * ((d + 714403429586 : Int) : Rat) := by
    have hn' : ((n : Int) : Rat) ≠ 0 := fun h => hn (Rat.intCast_inj.1 (by rw [h]; rfl))
    have hD' : (((D : Nat) : Int) : Rat) ≠ 0 := fun h => by
      have : ((D : Nat) : Int) = 0 := Rat.intCast_inj.1 (by rw [h]; rfl)
      omega
    unfold mturn cre
    rw [Rat.intCast_add, show ((-714403429586 : Int) : Rat) = -714403429586 from rfl, show ((714403429586 : Int) : Rat) = 714403429586 from rfl]
    generalize ((n : Int) : Rat) = x at *
    generalize (((D : Nat) : Int) : Rat) = y at *
    rw [Rat.div_def, Rat.div_def, Rat.div_def, Rat.inv_mul_rev, Rat.inv_inv]
    grind
  rw [e]
  exact (Dv.frc n hD).mulI _
theorem mof_dv {t p : Rat} {D : Nat} (hp : 0 < p) (h : Dv (mturn t p) D) : Dv (mof t p) D := by
  rw [mof_pos hp]; exact h.mfr.mulI _
theorem sof_dv {t p : Rat} {D : Nat} (hp : 0 < p) (h : Dv (mturn t p) D) : Dv (sof (mof t p)) (D * 3438) := by
  rw [← sof_pk, pfr_mfr]
  have e : mof t p / wd = mfr (mturn t p) * ((96 : Int) : Rat) := by
    rw [mof_pos hp, wd_eq, show ((96 : Int) : Rat) = 96 from rfl, r360]; grind
  have m : Dv (mfr (mof t p / wd)) D := by rw [e]; exact (h.mfr.mulI _).mfr
  rw [Rat.div_def]
  have i : Dv (((3438 : Int) : Rat))⁻¹ 3438 := ⟨1, by decide +kernel⟩
  refine Dv.mul ?_ i
  rw [Rat.add_comm]
  exact (m.mulI _).addI _
theorem epi_dv {a s c : Rat} {D E F : Nat} (h : Dv a D) (hs : Dv s E) (hc : Dv c F) : Dv (epi a s c) (D * (D * F * E)) := by
  unfold epi
  refine h.mul (Dv.sub ?_ ((h.abs.mul hc).mul hs))
  exact (hs.up (D * F)).cast rfl (Nat.mul_comm _ _)
theorem arc_dv {x : Rat} {D : Nat} (h : Dv x D) (h0 : -449 ≤ x * 3438) (h1 : x * 3438 ≤ 449) : Dv (arcv x) (D * 224 * 225 * 4) := by
  have g : Dv (x * 3438) D := h.mulI 3438
  have i4 : Dv wd 4 := ⟨15, by decide +kernel⟩
  have i224 : Dv (((1 : Int) : Rat) / ((224 : Int) : Rat)) 224 := Dv.frc 1 (by decide)
  have i225 : Dv (((1 : Int) : Rat) / ((225 : Int) : Rat)) 225 := Dv.frc 1 (by decide)
  unfold arcv
  rw [c3438]
  refine Dv.mul ?_ i4
  rcases ap_pc h0 h1 with ⟨_, e⟩ | ⟨_, _, e⟩ | ⟨_, e⟩ <;> rw [e]
  · refine Dv.up (((((g.addI 225).mul i224).addI (-1)).cast ?_ rfl)) 225
    rw [show ((225 : Int) : Rat) = 225 from rfl, show ((1 : Int) : Rat) / ((224 : Int) : Rat) = 1 / 224 by decide +kernel, show ((-1 : Int) : Rat) = -1 from rfl]; grind
  · refine ((g.mul i225).up 224).cast ?_ (by rw [Nat.mul_right_comm])
    rw [show ((1 : Int) : Rat) / ((225 : Int) : Rat) = 1 / 225 by decide +kernel]; grind
  · refine Dv.up (((((g.addI (-225)).mul i224).addI 1).cast ?_ rfl)) 225
    rw [show ((-225 : Int) : Rat) = -225 from rfl, show ((1 : Int) : Rat) / ((224 : Int) : Rat) = 1 / 224 by decide +kernel, show ((1 : Int) : Rat) = 1 from rfl]; grind
theorem eqv_dv {t an s c : Rat} {D E F : Nat} (ha : 0 < an) (h : Dv (mturn t an) D) (hs : Dv s E) (hc : Dv c F) (s0 : 0 ≤ s) (s1 : s * 3438 ≤ 449) (c0 : 0 ≤ c) (c1 : 2 * c ≤ 1) : Dv (eqv t an s c) (D * 3438 * (D * 3438 * F * E) * 224 * 225 * 4) := by
  have b := sof_bd (mof t an)
  have e := epi_bd (s := s) (c := c) b.1 b.2 s0 c0 c1
  have cs := Rat.mul_nonneg s0 c0
  exact arc_dv (epi_dv (sof_dv ha h) hs hc) (by grind) (by grind)
def DS : Nat := 1577917828000 * 3438 * (1577917828000 * 3438 * 42 * 180) * 224 * 225 * 4
def DM : Nat := 1577917828 * 3438 * (1577917828 * 3438 * 96 * 45) * 224 * 225 * 4
theorem sun_dv (d : Int) : Dv (sunV ((d : Int) : Rat)) DS := by
  have m := mof_dv pyr_pos (mturn_dv d (n := 4320000000) (D := 1577917828000) (by decide) (by decide))
  have e := eqv_dv (s := ssz) (c := sch) (E := 180) (F := 42) pay_pos (mturn_dv d (n := 4319999613) (D := 1577917828000) (by decide) (by decide)) ⟨7, by decide +kernel⟩ ⟨1, by decide +kernel⟩ (by decide +kernel) (by decide +kernel) (by decide +kernel) (by decide +kernel)
  exact ((((m.up (3438 * (1577917828000 * 3438 * 42 * 180) * 224 * 225 * 4)).cast rfl (by decide +kernel)).sub e).rmod)
theorem moon_dv (d : Int) : Dv (moonV ((d : Int) : Rat)) DM := by
  have m := mof_dv pmo_pos (mturn_dv d (n := 57753336) (D := 1577917828) (by decide) (by decide))
  have e := eqv_dv (s := msz) (c := mch) (E := 45) (F := 96) pam_pos (mturn_dv d (n := 57265137) (D := 1577917828) (by decide) (by decide)) ⟨4, by decide +kernel⟩ ⟨1, by decide +kernel⟩ (by decide +kernel) (by decide +kernel) (by decide +kernel) (by decide +kernel)
  exact ((((m.up (3438 * (1577917828 * 3438 * 96 * 45) * 224 * 225 * 4)).cast rfl (by decide +kernel)).sub e).rmod)
theorem phase_dv (d : Int) : Dv (phaseV ((d : Int) : Rat)) (DM * DS) :=
  (((moon_dv d).up DS).sub (((sun_dv d).up DM).cast rfl (Nat.mul_comm _ _))).rmod
theorem sun_bits (d : Int) : max ((dl 2 (Int.natAbs (Rat.num (sunV ((d : Int) : Rat)))) : Nat) : Int) ((dl 2 (Rat.den (sunV ((d : Int) : Rat))) : Nat) : Int) < 256 := bits_lt (k := 255) (sunV_low _) (sunV_high _) (sun_dv d) (by decide +kernel) (by decide +kernel)
theorem moon_bits (d : Int) : max ((dl 2 (Int.natAbs (Rat.num (moonV ((d : Int) : Rat)))) : Nat) : Int) ((dl 2 (Rat.den (moonV ((d : Int) : Rat))) : Nat) : Int) < 256 := bits_lt (k := 255) (moonV_low _) (moonV_high _) (moon_dv d) (by decide +kernel) (by decide +kernel)
theorem phase_bits (d : Int) : max ((dl 2 (Int.natAbs (Rat.num (phaseV ((d : Int) : Rat)))) : Nat) : Int) ((dl 2 (Rat.den (phaseV ((d : Int) : Rat))) : Nat) : Int) < 512 := bits_lt (k := 511) (phaseV_low _) (phaseV_high _) (phase_dv d) (by decide +kernel) (by decide +kernel)
theorem en29 : (Tryd.f29.name == "runtime.NumGoroutine") = false ∧ Tryd.f29.body.isNone = false := ⟨by decide +kernel, by kernel_rfl⟩
set_option maxHeartbeats 2000000 in
theorem oBits_any (v1 : Value) (q1 : Rat) (w : World) (h1 : Rq w v1 q1) :
    Calls Tryd.prog 30 #[v1] w (ValPost w (.int .i64 (max ((dl 2 (Int.natAbs (Rat.num q1)) : Nat) : Int) ((dl 2 (Rat.den q1) : Nat) : Int)))) := by
  obtain ⟨b1, ad1, n1, c1, ae1, m1, d1, rfl, hn1, hd1⟩ := h1.shape
  have h1 : Rq w (.agg #[.bool b1, .slice ad1 n1 c1, .slice ae1 m1 d1]) q1 := ⟨_, _, _, _, _, _, _, rfl, hn1, hd1⟩
  have ha1 := hn1.abs
  have hb1 := hn1.neg
  have bel : Below w.heap.size w w := Below.refl _ _
  refine E.enter (nt := 11) (L := [(0, .agg #[.bool b1, .slice ad1 n1 c1, .slice ae1 m1 d1])]) Tryd.func30 rfl rfl rfl (args_cons (i := 0) rfl args_nil) ?_
  intro a hF
  refine wp_seq ?_
  refine E.seq ?_
  obtain ⟨g1, w1, ge1, hr, bb, o1⟩ := own_box (P := Tryd.prog) (w := w) (cs := [.bool b1, .slice ad1 n1 c1, .slice ae1 m1 d1]) (v := .agg #[.bool b1, .slice ad1 n1 c1, .slice ae1 m1 d1]) 32 rfl (niB (niS (niS ni0)))
  replace ge1 : w.heap.size ≤ g1 := by rw [← ge1]; exact bel.size
  refine E.opv hF (r_box (hF.at 0 rfl) hr) rfl rfl rfl rfl fun a hF => ?_
  clear hr
  replace h1 := h1.below bb
  replace hn1 := hn1.below bb
  replace ha1 := ha1.below bb
  replace hd1 := hd1.below bb
  replace bel := below_to bel bb
  clear bb
  refine E.opv hF (r_assign ev_c) rfl rfl rfl rfl fun a hF => ?_
  refine E.nil ?_
  refine wp_seq ?_
  refine E.drawn 8 mixed hF [3, 4, 5, 6, 7, 8, 9, 10] [(fun _ v => v = .agg #[.bool b1, .slice ad1 n1 c1, .slice ae1 m1 d1]), (fun w v => Wc w v (Rat.num (q1))), (fun w v => Dg w .u32 B32 v (Int.natAbs (Rat.num (q1)))), (fun _ v => v = .int .i64 (dl 2 (Int.natAbs (Rat.num (q1))) : Nat)), (fun _ v => v = .agg #[.bool b1, .slice ad1 n1 c1, .slice ae1 m1 d1]), (fun w v => Dg w .u32 B32 v (Rat.den (q1))), (fun _ v => v = .int .i64 (dl 2 (Rat.den (q1)) : Nat)), (fun _ v => v = .int .i64 (max (dl 2 (Int.natAbs (Rat.num (q1))) : Nat) (dl 2 (Rat.den (q1)) : Nat)))] [] (by decide +kernel) (by decide +kernel) rfl rfl rfl ⟨(Mb.eq _), (fun _ _ _ h hb => h.below hb), (fun _ _ _ h hb => h.below hb), (Mb.eq _), (Mb.eq _), (fun _ _ _ h hb => h.below hb), (Mb.eq _), (Mb.eq _), trivial⟩ trivial ⟨?_, ?_, ?_, ?_, ?_, ?_, ?_, ?_, trivial⟩ ?_
  · intro a' w' hF' hb hd
    exact if_does (wanted_free rfl) (Does.vals (r_load (hF'.at 1 rfl) (ld_Rat (vs := [.bool b1, .slice ad1 n1 c1, .slice ae1 m1 d1]) (o1.below hb) rfl rfl)) ⟨rfl, Below.refl _ _, (fun h => absurd h (by decide))⟩)
  · intro a' w' hF' hb hd
    have e3 : a'.tmps.getD 3 undef = .agg #[.bool b1, .slice ad1 n1 c1, .slice ae1 m1 d1] := hd _ 3 (Array.mem_of_getElem? (i := 0) rfl) rfl rfl
    refine if_does (wanted_free rfl) (Does.calls (r_call Tryd.func65 en65.1 en65.2 (map1 e3)) (rnum_any _ (q1) _ (h1.below hb)) ?_)
    rintro e w'' ⟨v', rfl, h', bb⟩
    exact ⟨_, rfl, h', bb, (fun h => absurd h (by decide))⟩
  · intro a' w' hF' hb hd
    obtain ⟨v4_0, e4, h4_1⟩ : ∃ v, a'.tmps.getD 4 undef = v ∧ Wc w' v (Rat.num (q1)) := ⟨_, rfl, hd _ 4 (Array.mem_of_getElem? (i := 0) rfl) rfl rfl⟩
    obtain ⟨ad2, n2, c2, rfl, _⟩ := Wc.shape h4_1
    have hf3 := Wc.abs h4_1
    exact if_does (wanted_free rfl) (Does.vals (r_fieldv e4 (fv_Int_1 _ _ _ _ _)) ⟨hf3, Below.refl _ _, (fun h => absurd h (by decide))⟩)
  · intro a' w' hF' hb hd
    obtain ⟨v5, e5, h5⟩ : ∃ v, a'.tmps.getD 5 undef = v ∧ Dg w' .u32 B32 v (Int.natAbs (Rat.num (q1))) := ⟨_, rfl, hd _ 5 (Array.mem_of_getElem? (i := 0) rfl) rfl rfl⟩
    refine if_does (wanted_free rfl) (Does.calls (r_call Tryd.func66 en66.1 en66.2 (map1 e5)) (bits_any _ (Int.natAbs (Rat.num (q1))) _ (Dg.nt h5)) ?_)
    rintro e w'' ⟨rfl, hw⟩
    exact ⟨_, rfl, rfl, by rw [hw]; exact Below.refl _ _, (fun h => absurd h (by decide))⟩
  · intro a' w' hF' hb hd
    exact if_does (wanted_free rfl) (Does.vals (r_load (hF'.at 1 rfl) (ld_Rat (vs := [.bool b1, .slice ad1 n1 c1, .slice ae1 m1 d1]) (o1.below hb) rfl rfl)) ⟨rfl, Below.refl _ _, (fun h => absurd h (by decide))⟩)
  · intro a' w' hF' hb hd
    have e7 : a'.tmps.getD 7 undef = .agg #[.bool b1, .slice ad1 n1 c1, .slice ae1 m1 d1] := hd _ 7 (Array.mem_of_getElem? (i := 0) rfl) rfl rfl
    refine if_does (wanted_free rfl) (Does.calls (r_call Tryd.func48 en48.1 en48.2 (map1 e7)) (rden_any _ (q1) _ (h1.below hb)) ?_)
    rintro e w'' ⟨v', rfl, h', bb⟩
    exact ⟨_, rfl, h', bb, (fun h => absurd h (by decide))⟩
  · intro a' w' hF' hb hd
    obtain ⟨v8_0, e8, h8_1⟩ : ∃ v, a'.tmps.getD 8 undef = v ∧ Dg w' .u32 B32 v (Rat.den (q1)) := ⟨_, rfl, hd _ 8 (Array.mem_of_getElem? (i := 0) rfl) rfl rfl⟩
    refine if_does (wanted_free rfl) (Does.calls (r_call Tryd.func66 en66.1 en66.2 (map1 e8)) (bits_any _ (Rat.den (q1)) _ (Dg.nt h8_1)) ?_)
    rintro e w'' ⟨rfl, hw⟩
    exact ⟨_, rfl, rfl, by rw [hw]; exact Below.refl _ _, (fun h => absurd h (by decide))⟩
  · intro a' w' hF' hb hd
    have e6 : a'.tmps.getD 6 undef = .int .i64 (dl 2 (Int.natAbs (Rat.num (q1))) : Nat) := hd _ 6 (Array.mem_of_getElem? (i := 0) rfl) rfl rfl
    have e9 : a'.tmps.getD 9 undef = .int .i64 (dl 2 (Rat.den (q1)) : Nat) := hd _ 9 (Array.mem_of_getElem? (i := 1) rfl) rfl rfl
    exact if_does (wanted_free rfl) (Does.vals (r_builtin (map2 e6 e9) bl_max) ⟨rfl, Below.refl _ _, (fun h => absurd h (by decide))⟩)
  intro a w4 hF bb hall hne
  have e10 : a.tmps.getD 10 undef = .int .i64 (max (dl 2 (Int.natAbs (Rat.num (q1))) : Nat) (dl 2 (Rat.den (q1)) : Nat)) := hall 7 10 rfl
  clear hall hne
  replace bel := below_to bel bb
  clear bb
  replace hF := hF.add e10
  clear e10
  refine E.opset (L' := [(2, .int .i64 (max (dl 2 (Int.natAbs (Rat.num (q1))) : Nat) (dl 2 (Rat.den (q1)) : Nat))), (10, .int .i64 (max (dl 2 (Int.natAbs (Rat.num (q1))) : Nat) (dl 2 (Rat.den (q1)) : Nat))), (1, .pointer (some ⟨g1, 0, none⟩)), (0, .agg #[.bool b1, .slice ad1 n1 c1, .slice ae1 m1 d1])]) hF (r_assign (hF.at 0 rfl)) rfl rfl rfl rfl fun a hF => ?_
  refine E.nil ?_
  refine wp_ret ?_
  refine bodyPost_ret (res_tmp Tryd.results30 (hF.at 0 rfl)) hF.dfr ?_
  exact ⟨rfl, bel⟩

/-- A day that may be. -/
def InPost2 (w : World) : Ending → World → Prop := fun e w' => ∃ d, e = .returned (.int .i64 d) ∧ -3000000 ≤ d ∧ d ≤ 3000000 ∧ Below w.heap.size w w'
set_option maxHeartbeats 1000000 in
theorem innO_any (n : Int) (w : World) :
    Calls Tryd.prog 29 #[.int .i64 n] w (InPost2 w) := by
  have bel : Below w.heap.size w w := Below.refl _ _
  refine E.enter (nt := 17) (L := [(0, .int .i64 n)]) Tryd.func29 rfl rfl rfl (args_cons (i := 0) rfl args_nil) ?_
  intro a hF
  refine wp_seq ?_
  refine E.seq ?_
  refine E.opv hF (r_assign ev_c) rfl rfl rfl rfl fun a hF => ?_
  refine E.nil ?_
  refine wp_seq ?_
  refine E.seq ?_
  refine E.opv hF (r_move (hF.at 1 rfl)) rfl rfl rfl rfl fun a hF => ?_
  refine E.opv hF (r_bin (hF.at 0 rfl) ev_c eg_scalar (id_rem (a := n) (b := 6000001) (by omega))) rfl rfl rfl rfl fun a hF => ?_
  refine E.opv hF (r_assign (hF.at 0 rfl)) rfl rfl rfl rfl fun a hF => ?_
  refine E.nil ?_
  refine wp_seq ?_
  refine wp_seq ?_
  refine E.seq ?_
  refine E.opv hF (r_move (hF.at 0 rfl)) rfl rfl rfl rfl fun a hF => ?_
  by_cases hc1 : (if 0 ≤ n then n % 6000001 else -(-n % 6000001)) < (-3000000)
  · first
    | (exfalso; omega)
    | (refine E.opv hF (r_bin (hF.at 0 rfl) ev_c eg_scalar (bi_int (ic_lss (c := true) (dec_tt hc1)) (by simp))) rfl rfl rfl rfl fun a hF => ?_
       refine E.nil ?_
       refine wp_cond_true (hF.at 0 rfl) ?_
       refine wp_seq ?_
       refine E.seq ?_
       refine E.opv hF (r_move (hF.at 2 rfl)) rfl rfl rfl rfl fun a hF => ?_
       refine E.opv hF (r_bin (hF.at 0 rfl) ev_c eg_scalar (ia_add (by omega) (by omega))) rfl rfl rfl rfl fun a hF => ?_
       refine E.opv hF (r_bin (hF.at 0 rfl) ev_c eg_scalar (ia_add (by omega) (by omega))) rfl rfl rfl rfl fun a hF => ?_
       refine E.opset (L' := [(2, .int .i64 (((if 0 ≤ n then n % 6000001 else -(-n % 6000001)) + 6000000) + 1)), (10, .int .i64 (((if 0 ≤ n then n % 6000001 else -(-n % 6000001)) + 6000000) + 1)), (9, .int .i64 ((if 0 ≤ n then n % 6000001 else -(-n % 6000001)) + 6000000)), (8, .int .i64 (if 0 ≤ n then n % 6000001 else -(-n % 6000001))), (7, .bool true), (6, .int .i64 (if 0 ≤ n then n % 6000001 else -(-n % 6000001))), (3, .int .i64 (if 0 ≤ n then n % 6000001 else -(-n % 6000001))), (5, .int .i64 (if 0 ≤ n then n % 6000001 else -(-n % 6000001))), (4, .int .i64 n), (0, .int .i64 n)]) hF (r_assign (hF.at 0 rfl)) rfl rfl rfl rfl fun a hF => ?_
       refine E.nil ?_
       refine wp_ret ?_
       refine bodyPost_ret (res_tmp Tryd.results29 (hF.at 0 rfl)) hF.dfr ?_
       exact ⟨_, rfl, by omega, by omega, bel⟩)
  · first
    | (exfalso; omega)
    | (refine E.opv hF (r_bin (hF.at 0 rfl) ev_c eg_scalar (bi_int (ic_lss (c := false) (dec_ff hc1)) (by simp))) rfl rfl rfl rfl fun a hF => ?_
       refine E.nil ?_
       refine wp_cond_false (hF.at 0 rfl) ?_
       refine wp_skip ?_
       refine E.norm ?_
       refine wp_seq ?_
       refine wp_seq ?_
       refine E.seq ?_
       refine E.opv hF (r_move (hF.at 2 rfl)) rfl rfl rfl rfl fun a hF => ?_
       by_cases hc2 : 3000000 < (if 0 ≤ n then n % 6000001 else -(-n % 6000001))
       · first
         | (exfalso; omega)
         | (refine E.opv hF (r_bin (hF.at 0 rfl) ev_c eg_scalar (bi_int (ic_gtr (c := true) (dec_tt hc2)) (by simp))) rfl rfl rfl rfl fun a hF => ?_
            refine E.nil ?_
            refine wp_cond_true (hF.at 0 rfl) ?_
            refine wp_seq ?_
            refine E.seq ?_
            refine E.opv hF (r_move (hF.at 4 rfl)) rfl rfl rfl rfl fun a hF => ?_
            refine E.opv hF (r_bin (hF.at 0 rfl) ev_c eg_scalar (ia_sub (by omega) (by omega))) rfl rfl rfl rfl fun a hF => ?_
            refine E.opv hF (r_bin (hF.at 0 rfl) ev_c eg_scalar (ia_sub (by omega) (by omega))) rfl rfl rfl rfl fun a hF => ?_
            refine E.opset (L' := [(2, .int .i64 (((if 0 ≤ n then n % 6000001 else -(-n % 6000001)) - 6000000) - 1)), (15, .int .i64 (((if 0 ≤ n then n % 6000001 else -(-n % 6000001)) - 6000000) - 1)), (14, .int .i64 ((if 0 ≤ n then n % 6000001 else -(-n % 6000001)) - 6000000)), (13, .int .i64 (if 0 ≤ n then n % 6000001 else -(-n % 6000001))), (12, .bool true), (11, .int .i64 (if 0 ≤ n then n % 6000001 else -(-n % 6000001))), (7, .bool false), (6, .int .i64 (if 0 ≤ n then n % 6000001 else -(-n % 6000001))), (3, .int .i64 (if 0 ≤ n then n % 6000001 else -(-n % 6000001))), (5, .int .i64 (if 0 ≤ n then n % 6000001 else -(-n % 6000001))), (4, .int .i64 n), (0, .int .i64 n)]) hF (r_assign (hF.at 0 rfl)) rfl rfl rfl rfl fun a hF => ?_
            refine E.nil ?_
            refine wp_ret ?_
            refine bodyPost_ret (res_tmp Tryd.results29 (hF.at 0 rfl)) hF.dfr ?_
            exact ⟨_, rfl, by omega, by omega, bel⟩)
       · first
         | (exfalso; omega)
         | (refine E.opv hF (r_bin (hF.at 0 rfl) ev_c eg_scalar (bi_int (ic_gtr (c := false) (dec_ff hc2)) (by simp))) rfl rfl rfl rfl fun a hF => ?_
            refine E.nil ?_
            refine wp_cond_false (hF.at 0 rfl) ?_
            refine wp_skip ?_
            refine E.norm ?_
            refine wp_seq ?_
            refine E.seq ?_
            refine E.opv hF (r_move (hF.at 4 rfl)) rfl rfl rfl rfl fun a hF => ?_
            refine E.opset (L' := [(2, .int .i64 (if 0 ≤ n then n % 6000001 else -(-n % 6000001))), (16, .int .i64 (if 0 ≤ n then n % 6000001 else -(-n % 6000001))), (12, .bool false), (11, .int .i64 (if 0 ≤ n then n % 6000001 else -(-n % 6000001))), (7, .bool false), (6, .int .i64 (if 0 ≤ n then n % 6000001 else -(-n % 6000001))), (3, .int .i64 (if 0 ≤ n then n % 6000001 else -(-n % 6000001))), (5, .int .i64 (if 0 ≤ n then n % 6000001 else -(-n % 6000001))), (4, .int .i64 n), (0, .int .i64 n)]) hF (r_assign (hF.at 0 rfl)) rfl rfl rfl rfl fun a hF => ?_
            refine E.nil ?_
            refine wp_ret ?_
            refine bodyPost_ret (res_tmp Tryd.results29 (hF.at 0 rfl)) hF.dfr ?_
            exact ⟨_, rfl, by omega, by omega, bel⟩))

set_option maxHeartbeats 4000000 in
theorem orbBits_walk (n : Int) (w : World) (hT : TabD w) :
    Calls Tryd.prog 6 #[.int .i64 n] w (ValPost w (.bool true)) := by
  have bel : Below w.heap.size w w := Below.refl _ _
  refine E.enter (nt := 25) (L := [(0, .int .i64 n)]) Tryd.func6 rfl rfl rfl (args_cons (i := 0) rfl args_nil) ?_
  intro a hF
  refine wp_seq ?_
  refine E.seq ?_
  refine E.opv hF (r_assign ev_c) rfl rfl rfl rfl fun a hF => ?_
  refine E.nil ?_
  refine wp_seq ?_
  refine wp_seq ?_
  refine E.seq ?_
  refine E.call hF (r_call Tryd.func8 en8.1 en8.2 map0) (awake12_any _ (hT.below bel)) rfl rfl rfl rfl ?_
  rintro e w1 ⟨rfl, bb⟩
  refine ⟨_, rfl, ?_⟩
  intro a hF
  replace bel := below_to bel bb
  clear bb
  refine E.opv hF (r_un (hF.at 0 rfl) (bn_not _ false rfl)) rfl rfl rfl rfl fun a hF => ?_
  refine E.nil ?_
  refine wp_cond_false (hF.at 0 rfl) ?_
  refine wp_skip ?_
  refine E.norm ?_
  refine wp_seq ?_
  refine E.seq ?_
  refine E.opv hF (r_move (hF.at 3 rfl)) rfl rfl rfl rfl fun a hF => ?_
  refine E.call hF (r_call Tryd.func29 en29.1 en29.2 (map1 (hF.at 0 rfl))) (innO_any n _) rfl rfl rfl rfl ?_
  rintro e w2 ⟨vv3, rfl, hh4, hh5, bb⟩
  refine ⟨_, rfl, ?_⟩
  intro a hF
  replace bel := below_to bel bb
  clear bb
  refine E.call hF (r_call Tryd.func19 en19.1 en19.2 (map1 (hF.at 0 rfl))) (rWhole_any (vv3) _ (by omega) (by omega)) rfl rfl rfl rfl ?_
  rintro e w6 ⟨vv7, rfl, hh8, bb⟩
  refine ⟨_, rfl, ?_⟩
  intro a hF
  replace bel := below_to bel bb
  clear bb
  obtain ⟨b9, ad9, n9, c9, ae9, m9, d9, rfl, hn9, hd9⟩ := Rq.shape hh8
  have hf10 := Wc.abs hn9
  obtain ⟨g3, w11, ge3, hr, bb, o3⟩ := own_alloc (P := Tryd.prog) (w := w6) (cs := [.bool false, .slice none 0 0, .slice none 0 0]) 32 ze_Rat rfl (niB (niS (niS ni0)))
  replace ge3 : w.heap.size ≤ g3 := by rw [← ge3]; exact bel.size
  refine E.opv hF (r_alloc hr) rfl rfl rfl rfl fun a hF => ?_
  clear hr
  replace hh8 := hh8.below bb
  replace hn9 := hn9.below bb
  replace hf10 := hf10.below bb
  replace hd9 := hd9.below bb
  replace bel := below_to bel bb
  clear bb
  obtain ⟨w12, hr, tu, on⟩ := st_Rat (vs := [.bool b9, .slice ad9 n9 c9, .slice ae9 m9 d9]) o3 rfl rfl (ocB (ocS (ocS oc0))) (niB (niS (niS ni0))) (o := 0) rfl
  have kp := tu.keep o3
  refine E.st hF (r_store (hF.at 0 rfl) (hF.at 1 rfl) (hr _ rfl)) rfl rfl fun a hF => ?_
  clear hr
  replace hh8 := hh8.keep kp
  replace hn9 := hn9.keep kp
  replace hf10 := hf10.keep kp
  replace hd9 := hd9.keep kp
  replace bel := tu.below bel ge3
  clear tu kp
  replace o3 := on
  clear on
  refine E.nil ?_
  refine wp_seq ?_
  refine E.seq ?_
  refine E.opv hF (r_load (hF.at 0 rfl) (ld_Rat (vs := [.bool b9, .slice ad9 n9 c9, .slice ae9 m9 d9]) o3 rfl rfl)) rfl rfl rfl rfl fun a hF => ?_
  refine E.call hF (r_call Tryd.func17 en17.1 en17.2 (map1 (hF.at 0 rfl))) (oSun_any _ (((vv3 : Int) : Rat)) 2 _ (hT.below bel) hh8 (rlim_int (limz_64 (by omega) (by omega)) (by omega)) (by omega)) rfl rfl rfl rfl ?_
  rintro e w13 ⟨vv14, rfl, hh15, bb⟩
  refine ⟨_, rfl, ?_⟩
  intro a hF
  replace hf10 := hf10.below bb
  replace hd9 := hd9.below bb
  replace hh8 := hh8.below bb
  replace hn9 := hn9.below bb
  replace o3 := o3.below bb
  replace bel := below_to bel bb
  clear bb
  obtain ⟨b16, ad16, n16, c16, ae16, m16, d16, rfl, hn16, hd16⟩ := Rq.shape hh15
  have hf17 := Wc.abs hn16
  refine E.call hF (r_call Tryd.func30 en30.1 en30.2 (map1 (hF.at 0 rfl))) (oBits_any _ (sunV (((vv3 : Int) : Rat))) _ hh15) rfl rfl rfl rfl ?_
  rintro e w18 ⟨rfl, bb⟩
  refine ⟨_, rfl, ?_⟩
  intro a hF
  replace hf10 := hf10.below bb
  replace hd9 := hd9.below bb
  replace hh8 := hh8.below bb
  replace hn9 := hn9.below bb
  replace o3 := o3.below bb
  replace bel := below_to bel bb
  clear bb
  refine E.opv hF (r_bin (hF.at 0 rfl) ev_c eg_scalar (bi_int (ic_lss (c := true) (dec_tt (sun_bits _))) (by simp))) rfl rfl rfl rfl fun a hF => ?_
  refine E.opv hF (r_move (hF.at 0 rfl)) rfl rfl rfl rfl fun a hF => ?_
  refine E.opvg hF (r_load (hF.at 5 rfl) (ld_Rat (vs := [.bool b9, .slice ad9 n9 c9, .slice ae9 m9 d9]) o3 rfl rfl)) (wanted_by rfl rfl (hF.at 0 rfl) rfl) rfl rfl rfl fun a hF => ?_
  refine E.callg hF (r_call Tryd.func22 en22.1 en22.2 (map1 (hF.at 0 rfl))) (oMoon_any _ (((vv3 : Int) : Rat)) 2 _ (hT.below bel) hh8 (rlim_int (limz_64 (by omega) (by omega)) (by omega)) (by omega)) (wanted_by rfl rfl (hF.at 1 rfl) rfl) rfl rfl rfl ?_
  rintro e w19 ⟨vv20, rfl, hh21, bb⟩
  refine ⟨_, rfl, ?_⟩
  intro a hF
  replace hf10 := hf10.below bb
  replace hd9 := hd9.below bb
  replace hh8 := hh8.below bb
  replace hn9 := hn9.below bb
  replace o3 := o3.below bb
  replace bel := below_to bel bb
  clear bb
  obtain ⟨b22, ad22, n22, c22, ae22, m22, d22, rfl, hn22, hd22⟩ := Rq.shape hh21
  have hf23 := Wc.abs hn22
  refine E.callg hF (r_call Tryd.func30 en30.1 en30.2 (map1 (hF.at 0 rfl))) (oBits_any _ (moonV (((vv3 : Int) : Rat))) _ hh21) (wanted_by rfl rfl (hF.at 2 rfl) rfl) rfl rfl rfl ?_
  rintro e w24 ⟨rfl, bb⟩
  refine ⟨_, rfl, ?_⟩
  intro a hF
  replace hf10 := hf10.below bb
  replace hd9 := hd9.below bb
  replace hh8 := hh8.below bb
  replace hn9 := hn9.below bb
  replace o3 := o3.below bb
  replace bel := below_to bel bb
  clear bb
  refine E.opvg hF (r_bin (hF.at 0 rfl) ev_c eg_scalar (bi_int (ic_lss (c := true) (dec_tt (moon_bits _))) (by simp))) (wanted_by rfl rfl (hF.at 3 rfl) rfl) rfl rfl rfl fun a hF => ?_
  refine E.opv hF (r_pick_t (hF.at 4 rfl) (hF.at 0 rfl)) rfl rfl rfl rfl fun a hF => ?_
  refine E.opv hF (r_move (hF.at 0 rfl)) rfl rfl rfl rfl fun a hF => ?_
  refine E.opvg hF (r_load (hF.at 11 rfl) (ld_Rat (vs := [.bool b9, .slice ad9 n9 c9, .slice ae9 m9 d9]) o3 rfl rfl)) (wanted_by rfl rfl (hF.at 0 rfl) rfl) rfl rfl rfl fun a hF => ?_
  refine E.callg hF (r_call Tryd.func26 en26.1 en26.2 (map1 (hF.at 0 rfl))) (oPhase_any _ (((vv3 : Int) : Rat)) 2 _ (hT.below bel) hh8 (rlim_int (limz_64 (by omega) (by omega)) (by omega)) (by omega)) (wanted_by rfl rfl (hF.at 1 rfl) rfl) rfl rfl rfl ?_
  rintro e w25 ⟨vv26, rfl, hh27, bb⟩
  refine ⟨_, rfl, ?_⟩
  intro a hF
  replace bel := below_to bel bb
  clear bb
  obtain ⟨b28, ad28, n28, c28, ae28, m28, d28, rfl, hn28, hd28⟩ := Rq.shape hh27
  have hf29 := Wc.abs hn28
  refine E.callg hF (r_call Tryd.func30 en30.1 en30.2 (map1 (hF.at 0 rfl))) (oBits_any _ (phaseV (((vv3 : Int) : Rat))) _ hh27) (wanted_by rfl rfl (hF.at 2 rfl) rfl) rfl rfl rfl ?_
  rintro e w30 ⟨rfl, bb⟩
  refine ⟨_, rfl, ?_⟩
  intro a hF
  replace bel := below_to bel bb
  clear bb
  refine E.opvg hF (r_bin (hF.at 0 rfl) ev_c eg_scalar (bi_int (ic_lss (c := true) (dec_tt (phase_bits _))) (by simp))) (wanted_by rfl rfl (hF.at 3 rfl) rfl) rfl rfl rfl fun a hF => ?_
  refine E.opv hF (r_pick_t (hF.at 4 rfl) (hF.at 0 rfl)) rfl rfl rfl rfl fun a hF => ?_
  refine E.opset (L' := [(2, .bool true), (24, .bool true), (23, .bool true), (22, .int .i64 (max ((dl 2 (Int.natAbs (Rat.num (phaseV (((vv3 : Int) : Rat))))) : Nat) : Int) ((dl 2 (Rat.den (phaseV (((vv3 : Int) : Rat)))) : Nat) : Int))), (21, .agg #[.bool b28, .slice ad28 n28 c28, .slice ae28 m28 d28]), (20, .agg #[.bool b9, .slice ad9 n9 c9, .slice ae9 m9 d9]), (19, .bool true), (18, .bool true), (17, .bool true), (16, .int .i64 (max ((dl 2 (Int.natAbs (Rat.num (moonV (((vv3 : Int) : Rat))))) : Nat) : Int) ((dl 2 (Rat.den (moonV (((vv3 : Int) : Rat)))) : Nat) : Int))), (15, .agg #[.bool b22, .slice ad22 n22 c22, .slice ae22 m22 d22]), (14, .agg #[.bool b9, .slice ad9 n9 c9, .slice ae9 m9 d9]), (13, .bool true), (12, .bool true), (11, .int .i64 (max ((dl 2 (Int.natAbs (Rat.num (sunV (((vv3 : Int) : Rat))))) : Nat) : Int) ((dl 2 (Rat.den (sunV (((vv3 : Int) : Rat)))) : Nat) : Int))), (10, .agg #[.bool b16, .slice ad16 n16 c16, .slice ae16 m16 d16]), (9, .agg #[.bool b9, .slice ad9 n9 c9, .slice ae9 m9 d9]), (3, .pointer (some ⟨g3, 0, none⟩)), (8, .agg #[.bool b9, .slice ad9 n9 c9, .slice ae9 m9 d9]), (7, .int .i64 vv3), (6, .int .i64 n), (5, .bool false), (4, .bool true), (0, .int .i64 n)]) hF (r_assign (hF.at 0 rfl)) rfl rfl rfl rfl fun a hF => ?_
  refine E.nil ?_
  refine wp_ret ?_
  refine bodyPost_ret (res_tmp Tryd.results6 (hF.at 0 rfl)) hF.dfr ?_
  exact ⟨rfl, bel⟩

end Go.Proofs.YtmpdbkdijfpbbaaDoor
