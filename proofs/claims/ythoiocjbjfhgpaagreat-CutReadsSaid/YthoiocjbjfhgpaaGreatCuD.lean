/- law06's awake. -/
import Derived.Test.YthoiocjbjfhgpaaGreatCuC
import Derived.Test.YthoiocjbjfhgpaaGreatGI
namespace Go.Proofs.YthoiocjbjfhgpaaGreat
open Go.RowKit
set_option maxRecDepth 100000
set_option linter.unusedVariables false

theorem Rz.castA {w : World} {v : Value} {z z' : Int} (h : Rz w v z) (e : z = z') : Rz w v z' := by subst e; exact h
theorem aw6t : ((cx (((-7 : Int) : Rat) / ((2 : Int) : Rat))).map UInt8.ofNat == [45, 55, 47, 50].map UInt8.ofNat) = true := by
  have e : cx (((-7 : Int) : Rat) / ((2 : Int) : Rat)) = [45, 55, 47, 50] := by decide +kernel
  rw [e]; rfl
theorem qc_le {a b : Rat} : qc a b ≤ 0 ↔ a ≤ b := by
  rw [qc_def]
  split
  · constructor <;> intro <;> first | grind | omega
  · split
    · constructor <;> intro <;> first | grind | omega
    · constructor <;> intro <;> first | grind | omega
theorem qc_0le {a b : Rat} : 0 ≤ qc a b ↔ b ≤ a := by
  rw [qc_symm]
  have := qc_le (a := b) (b := a)
  exact ⟨fun h => this.1 (by omega), fun h => by have := this.2 h; omega⟩
theorem qc_gt {a b : Rat} : 0 < qc a b ↔ b < a := by
  have := qc_le (a := a) (b := b)
  constructor
  · intro h
    exact Rat.not_le.1 fun e => by have := this.2 e; omega
  · intro h
    exact Int.not_le.1 fun e => by have := this.1 e; grind
theorem qc_lt {a b : Rat} : qc a b < 0 ↔ a < b := by
  have h1 := qc_0le (a := a) (b := b)
  constructor
  · intro h
    exact Rat.not_le.1 fun e => by have := h1.2 e; omega
  · intro h
    exact Int.not_le.1 fun e => by have := h1.1 e; grind
theorem mid_qc (p q : Rat) : 0 ≤ qc ((p + q) * (((1 : Int) : Rat) / ((2 : Int) : Rat))) p * qc q ((p + q) * (((1 : Int) : Rat) / ((2 : Int) : Rat))) := by
  have e : ((1 : Int) : Rat) / ((2 : Int) : Rat) = 1/2 := by decide +kernel
  rw [e]
  by_cases h : p ≤ q
  · have h1 := qc_0le.2 (show p ≤ (p + q) * (1/2) by grind)
    have h2 := qc_0le.2 (show (p + q) * (1/2) ≤ q by grind)
    exact Int.mul_nonneg h1 h2
  · have h1 := qc_le.2 (show (p + q) * (1/2) ≤ p by grind)
    have h2 := qc_le.2 (show q ≤ (p + q) * (1/2) by grind)
    have := Int.mul_nonneg (show 0 ≤ -qc ((p + q) * (1/2)) p by omega) (show 0 ≤ -qc q ((p + q) * (1/2)) by omega)
    rwa [Int.neg_mul_neg] at this
theorem eq_bool {p q : Prop} [Decidable p] [Decidable q] (h : decide p = decide q) : (decide p == decide q) = true := by rw [h]; simp
theorem sz_pos {q : Rat} : 0 < sz q.num ↔ 0 < q := by
  have := sz_le0 (q := q)
  constructor
  · intro h; exact Rat.not_le.1 fun e => by have := this.2 e; omega
  · intro h; exact Int.not_le.1 fun e => by have := this.1 e; grind
theorem sz_nn {q : Rat} (h : 0 ≤ q) : ¬ sz q.num < 0 := by
  rw [sz_def, if_neg (by grind)]; split <;> omega
theorem fl_lt1 (q : Rat) : q < (q.floor : Rat) + ((1 : Int) : Rat) := by rw [Rat.intCast_one]; exact fl_lt q
theorem frac_add (q : Rat) : q - ((q.floor : Int) : Rat) + ((q.floor : Int) : Rat) = q := by grind
theorem ne_false (b : Bool) : (b != b) = false := by simp
set_option maxHeartbeats 8000000 in
theorem awake6_any (w : World) (hM : MLen w) :
    Calls Tryz.prog 9 #[] w (ValPost w (.bool true)) := by
  have bel : Below w.heap.size w w := Below.refl _ _
  refine E.enter (nt := 39) (L := []) Tryz.func9 rfl rfl rfl args_nil ?_
  intro a hF
  refine wp_seq ?_
  refine E.seq ?_
  refine E.opv hF (r_assign ev_c) rfl rfl rfl rfl fun a hF => ?_
  refine E.nil ?_
  refine wp_seq ?_
  refine E.seq ?_
  refine E.call hF (r_call Tryz.func29 en29.1 en29.2 (map2 ev_c ev_c)) (rOf2_any ((-7)) (2) _ (by decide) (by decide) (by decide) (by decide)) rfl rfl rfl rfl ?_
  rintro e w1 ⟨vv2, rfl, hh3, bb⟩
  refine ⟨_, rfl, ?_⟩
  intro a hF
  replace bel := below_to bel bb
  clear bb
  obtain ⟨b4, ad4, n4, c4, ae4, m4, d4, rfl, hn4, hd4⟩ := Rq.shape hh3
  have hf5 := Wc.abs hn4
  obtain ⟨g1, w6, ge1, hr, bb, o1⟩ := own_alloc (P := Tryz.prog) (w := w1) (cs := [.bool false, .slice none 0 0, .slice none 0 0]) 32 ze_Rat rfl (niB (niS (niS ni0)))
  replace ge1 : w.heap.size ≤ g1 := by rw [← ge1]; exact bel.size
  refine E.opv hF (r_alloc hr) rfl rfl rfl rfl fun a hF => ?_
  clear hr
  replace hh3 := hh3.below bb
  replace hn4 := hn4.below bb
  replace hf5 := hf5.below bb
  replace hd4 := hd4.below bb
  replace bel := below_to bel bb
  clear bb
  obtain ⟨w7, hr, tu, on⟩ := st_Rat (vs := [.bool b4, .slice ad4 n4 c4, .slice ae4 m4 d4]) o1 rfl rfl (ocB (ocS (ocS oc0))) (niB (niS (niS ni0))) (o := 0) rfl
  have kp := tu.keep o1
  refine E.st hF (r_store (hF.at 0 rfl) (hF.at 1 rfl) (hr _ rfl)) rfl rfl fun a hF => ?_
  clear hr
  replace hh3 := hh3.keep kp
  replace hn4 := hn4.keep kp
  replace hf5 := hf5.keep kp
  replace hd4 := hd4.keep kp
  replace bel := tu.below bel ge1
  clear tu kp
  replace o1 := on
  clear on
  refine E.nil ?_
  refine wp_seq ?_
  refine E.seq ?_
  refine E.call hF (r_call Tryz.func42 en42.1 en42.2 (map1 ev_c)) (cparse_any ([51, 55, 48, 47, 49]) _ (hM.below bel) (by decide) (by first | omega | decide)) rfl rfl rfl rfl ?_
  rintro e w8 ⟨vv9, rfl, hh10, bb⟩
  refine ⟨_, rfl, ?_⟩
  intro a hF
  replace hf5 := hf5.below bb
  replace hd4 := hd4.below bb
  replace hh3 := hh3.below bb
  replace hn4 := hn4.below bb
  replace o1 := o1.below bb
  replace bel := below_to bel bb
  clear bb
  obtain ⟨b11, ad11, n11, c11, ae11, m11, d11, rfl, hn11, hd11⟩ := Rq.shape hh10
  have hf12 := Wc.abs hn11
  refine E.opv hF (r_move (hF.at 0 rfl)) rfl rfl rfl rfl fun a hF => ?_
  refine E.opv hF (r_extract (v := .agg #[.bool b11, .slice ad11 n11 c11, .slice ae11 m11 d11]) (hF.at 0 rfl) rfl) rfl rfl rfl rfl fun a hF => ?_
  refine E.opv hF (r_extract (v := .int .i64 (ce ([51, 55, 48, 47, 49]))) (hF.at 1 rfl) rfl) rfl rfl rfl rfl fun a hF => ?_
  obtain ⟨g2, w13, ge2, hr, bb, o2⟩ := own_alloc (P := Tryz.prog) (w := w8) (cs := [.bool false, .slice none 0 0, .slice none 0 0]) 32 ze_Rat rfl (niB (niS (niS ni0)))
  have ne1_2 : g1 ≠ g2 := by rw [← ge2]; exact o1.ne_new
  replace ge2 : w.heap.size ≤ g2 := by rw [← ge2]; exact bel.size
  refine E.opv hF (r_alloc hr) rfl rfl rfl rfl fun a hF => ?_
  clear hr
  replace hh10 := hh10.below bb
  replace hn11 := hn11.below bb
  replace hf12 := hf12.below bb
  replace hd11 := hd11.below bb
  replace hf5 := hf5.below bb
  replace hd4 := hd4.below bb
  replace hh3 := hh3.below bb
  replace hn4 := hn4.below bb
  replace o1 := o1.below bb
  replace bel := below_to bel bb
  clear bb
  obtain ⟨w14, hr, tu, on⟩ := st_Rat (vs := [.bool b11, .slice ad11 n11 c11, .slice ae11 m11 d11]) o2 rfl rfl (ocB (ocS (ocS oc0))) (niB (niS (niS ni0))) (o := 0) rfl
  have kp := tu.keep o2
  refine E.st hF (r_store (hF.at 0 rfl) (hF.at 2 rfl) (hr _ rfl)) rfl rfl fun a hF => ?_
  clear hr
  replace hf5 := hf5.keep kp
  replace hd4 := hd4.keep kp
  replace hh3 := hh3.keep kp
  replace hn4 := hn4.keep kp
  replace hh10 := hh10.keep kp
  replace hn11 := hn11.keep kp
  replace hf12 := hf12.keep kp
  replace hd11 := hd11.keep kp
  replace o1 := tu.own o1 ne1_2
  replace bel := tu.below bel ge2
  clear tu kp
  replace o2 := on
  clear on
  refine E.opv hF (r_assign (hF.at 1 rfl)) rfl rfl rfl rfl fun a hF => ?_
  refine E.nil ?_
  refine wp_seq ?_
  refine E.drawn 30 mixed hF [9, 10, 11, 12, 13, 14, 15, 16, 17, 18, 19, 20, 21, 22, 23, 24, 25, 26, 27, 28, 29, 30, 31, 32, 33, 34, 35, 36, 37, 38] [(fun _ v => v = .agg #[.bool b4, .slice ad4 n4 c4, .slice ae4 m4 d4]), (fun w v => Wc w v (Rat.floor ((((-7) : Int) : Rat) / ((2 : Int) : Rat)))), (fun w v => Rz w v ((-4))), (fun _ v => v = .int .i64 0), (fun _ v => v = .bool true), (fun _ v => v = .bool true), (fun _ v => v = .agg #[.bool b4, .slice ad4 n4 c4, .slice ae4 m4 d4]), (fun w v => Wc w v (Rat.floor (((((-7) : Int) : Rat) / ((2 : Int) : Rat)) + ((1 : Int) : Rat) / ((2 : Int) : Rat)))), (fun w v => Rz w v ((-3))), (fun _ v => v = .int .i64 0), (fun _ v => v = .bool true), (fun _ v => v = .bool true), (fun _ v => v = .bool true), (fun _ v => v = .int .i64 (ce ([51, 55, 48, 47, 49]))), (fun _ v => v = .bool true), (fun _ v => v = .bool true), (fun _ v => v = .bool true), (fun _ v => v = .agg #[.bool b11, .slice ad11 n11 c11, .slice ae11 m11 d11]), (fun w v => Rq w v ((((-180) : Int) : Rat))), (fun w v => Rq w v (((180 : Int) : Rat))), (fun w v => Rq w v (rinto (cz ([51, 55, 48, 47, 49])) ((((-180) : Int) : Rat)) (((180 : Int) : Rat)))), (fun w v => Rr w v (((10 : Int) : Rat) / ((1 : Int) : Rat)) (2)), (fun _ v => v = .int .i64 0), (fun _ v => v = .bool true), (fun _ v => v = .bool true), (fun _ v => v = .bool true), (fun _ v => v = .agg #[.bool b4, .slice ad4 n4 c4, .slice ae4 m4 d4]), (fun _ v => v = .string (bstr (cx ((((-7) : Int) : Rat) / ((2 : Int) : Rat))))), (fun _ v => v = .bool true), (fun _ v => v = .bool true)] [] (by decide +kernel) (by decide +kernel) rfl rfl rfl ⟨(Mb.eq _), (fun _ _ _ h hb => h.below hb), (fun _ _ _ h hb => h.below hb), (Mb.eq _), (Mb.eq _), (Mb.eq _), (Mb.eq _), (fun _ _ _ h hb => h.below hb), (fun _ _ _ h hb => h.below hb), (Mb.eq _), (Mb.eq _), (Mb.eq _), (Mb.eq _), (Mb.eq _), (Mb.eq _), (Mb.eq _), (Mb.eq _), (Mb.eq _), (fun _ _ _ h hb => h.below hb), (fun _ _ _ h hb => h.below hb), (fun _ _ _ h hb => h.below hb), (fun _ _ _ h hb => h.below hb), (Mb.eq _), (Mb.eq _), (Mb.eq _), (Mb.eq _), (Mb.eq _), (Mb.eq _), (Mb.eq _), (Mb.eq _), trivial⟩ trivial ⟨?_, ?_, ?_, ?_, ?_, ?_, ?_, ?_, ?_, ?_, ?_, ?_, ?_, ?_, ?_, ?_, ?_, ?_, ?_, ?_, ?_, ?_, ?_, ?_, ?_, ?_, ?_, ?_, ?_, ?_, trivial⟩ ?_
  · intro a' w' hF' hb hd
    exact if_does (wanted_free rfl) (Does.vals (r_load (hF'.at 6 rfl) (ld_Rat (vs := [.bool b4, .slice ad4 n4 c4, .slice ae4 m4 d4]) (o1.below hb) rfl rfl)) ⟨rfl, Below.refl _ _, (fun h => absurd h (by decide))⟩)
  · intro a' w' hF' hb hd
    have e9 : a'.tmps.getD 9 undef = .agg #[.bool b4, .slice ad4 n4 c4, .slice ae4 m4 d4] := hd _ 9 (Array.mem_of_getElem? (i := 0) rfl) rfl rfl
    refine if_does (wanted_free rfl) (Does.calls (r_call Tryz.func13 en13.1 en13.2 (map1 e9)) (cFloor_any _ ((((-7) : Int) : Rat) / ((2 : Int) : Rat)) 2 _ (hh3.below hb) (RLim.up (rlim_mk2 (limz_64 (by decide) (by decide)) (limz_64 (by decide) (by decide))) 2 (by decide)) (by omega)) ?_)
    rintro e w'' ⟨v', rfl, h', bb⟩
    exact ⟨_, rfl, h', bb, (fun h => absurd h (by decide))⟩
  · intro a' w' hF' hb hd
    refine if_does (wanted_free rfl) (Does.calls (r_call Tryz.func48 en48.1 en48.2 (map1 ev_c)) (rOf_any ((-4)) _ (by decide) (by decide)) ?_)
    rintro e w'' ⟨v', rfl, h', bb⟩
    exact ⟨_, rfl, h', bb, (fun h => absurd h (by decide))⟩
  · intro a' w' hF' hb hd
    obtain ⟨v10_0, e10, h10_1⟩ : ∃ v, a'.tmps.getD 10 undef = v ∧ Wc w' v (Rat.floor ((((-7) : Int) : Rat) / ((2 : Int) : Rat))) := ⟨_, rfl, hd _ 10 (Array.mem_of_getElem? (i := 0) rfl) rfl rfl⟩
    obtain ⟨v11_0, e11, h11_1⟩ : ∃ v, a'.tmps.getD 11 undef = v ∧ Rz w' v ((-4)) := ⟨_, rfl, hd _ 11 (Array.mem_of_getElem? (i := 1) rfl) rfl rfl⟩
    refine if_does (wanted_free rfl) (Does.calls (r_call Tryz.func16 en16.1 en16.2 (map2 e10 e11)) (Is3_any _ _ (Rat.floor ((((-7) : Int) : Rat) / ((2 : Int) : Rat))) _ h10_1 (h11_1.cast (by decide +kernel))) ?_)
    rintro e w'' ⟨rfl, bb⟩
    exact ⟨_, rfl, rfl, bb, (fun h => absurd h (by decide))⟩
  · intro a' w' hF' hb hd
    have e12 : a'.tmps.getD 12 undef = .int .i64 0 := hd _ 12 (Array.mem_of_getElem? (i := 0) rfl) rfl rfl
    exact if_does (wanted_free rfl) (Does.vals (r_bin e12 ev_c eg_scalar (bi_int (ic_eql (c := true) (by decide)) (by simp))) ⟨rfl, Below.refl _ _, (fun h => absurd h (by decide))⟩)
  · intro a' w' hF' hb hd
    have e13 : a'.tmps.getD 13 undef = .bool true := hd _ 13 (Array.mem_of_getElem? (i := 0) rfl) rfl rfl
    exact if_does (wanted_free rfl) (Does.vals (r_move e13) ⟨rfl, Below.refl _ _, (fun h => absurd h (by decide))⟩)
  · intro a' w' hF' hb hd
    have e14 : a'.tmps.getD 14 undef = .bool true := hd _ 14 (Array.mem_of_getElem? (i := 0) rfl) rfl rfl
    exact if_does (wanted_by rfl rfl e14 rfl) (Does.vals (r_load (hF'.at 6 rfl) (ld_Rat (vs := [.bool b4, .slice ad4 n4 c4, .slice ae4 m4 d4]) (o1.below hb) rfl rfl)) ⟨rfl, Below.refl _ _, (fun h => absurd h (by decide))⟩)
  · intro a' w' hF' hb hd
    have e14 : a'.tmps.getD 14 undef = .bool true := hd _ 14 (Array.mem_of_getElem? (i := 1) rfl) rfl rfl
    have e15 : a'.tmps.getD 15 undef = .agg #[.bool b4, .slice ad4 n4 c4, .slice ae4 m4 d4] := hd _ 15 (Array.mem_of_getElem? (i := 0) rfl) rfl rfl
    refine if_does (wanted_by rfl rfl e14 rfl) (Does.calls (r_call Tryz.func20 en20.1 en20.2 (map1 e15)) (cRound_any _ ((((-7) : Int) : Rat) / ((2 : Int) : Rat)) 2 _ (hh3.below hb) (RLim.up (rlim_mk2 (limz_64 (by decide) (by decide)) (limz_64 (by decide) (by decide))) 2 (by decide)) (by omega)) ?_)
    rintro e w'' ⟨v', rfl, h', bb⟩
    exact ⟨_, rfl, h', bb, (fun h => absurd h (by decide))⟩
  · intro a' w' hF' hb hd
    have e14 : a'.tmps.getD 14 undef = .bool true := hd _ 14 (Array.mem_of_getElem? (i := 1) rfl) rfl rfl
    refine if_does (wanted_by rfl rfl e14 rfl) (Does.calls (r_call Tryz.func48 en48.1 en48.2 (map1 ev_c)) (rOf_any ((-3)) _ (by decide) (by decide)) ?_)
    rintro e w'' ⟨v', rfl, h', bb⟩
    exact ⟨_, rfl, h', bb, (fun h => absurd h (by decide))⟩
  · intro a' w' hF' hb hd
    have e14 : a'.tmps.getD 14 undef = .bool true := hd _ 14 (Array.mem_of_getElem? (i := 3) rfl) rfl rfl
    obtain ⟨v16_0, e16, h16_1⟩ : ∃ v, a'.tmps.getD 16 undef = v ∧ Wc w' v (Rat.floor (((((-7) : Int) : Rat) / ((2 : Int) : Rat)) + ((1 : Int) : Rat) / ((2 : Int) : Rat))) := ⟨_, rfl, hd _ 16 (Array.mem_of_getElem? (i := 0) rfl) rfl rfl⟩
    obtain ⟨v17_0, e17, h17_1⟩ : ∃ v, a'.tmps.getD 17 undef = v ∧ Rz w' v ((-3)) := ⟨_, rfl, hd _ 17 (Array.mem_of_getElem? (i := 1) rfl) rfl rfl⟩
    refine if_does (wanted_by rfl rfl e14 rfl) (Does.calls (r_call Tryz.func16 en16.1 en16.2 (map2 e16 e17)) (Is3_any _ _ (Rat.floor (((((-7) : Int) : Rat) / ((2 : Int) : Rat)) + ((1 : Int) : Rat) / ((2 : Int) : Rat))) _ h16_1 (h17_1.cast (by decide +kernel))) ?_)
    rintro e w'' ⟨rfl, bb⟩
    exact ⟨_, rfl, rfl, bb, (fun h => absurd h (by decide))⟩
  · intro a' w' hF' hb hd
    have e14 : a'.tmps.getD 14 undef = .bool true := hd _ 14 (Array.mem_of_getElem? (i := 1) rfl) rfl rfl
    have e18 : a'.tmps.getD 18 undef = .int .i64 0 := hd _ 18 (Array.mem_of_getElem? (i := 0) rfl) rfl rfl
    exact if_does (wanted_by rfl rfl e14 rfl) (Does.vals (r_bin e18 ev_c eg_scalar (bi_int (ic_eql (c := true) (by decide)) (by simp))) ⟨rfl, Below.refl _ _, (fun h => absurd h (by decide))⟩)
  · intro a' w' hF' hb hd
    have e14 : a'.tmps.getD 14 undef = .bool true := hd _ 14 (Array.mem_of_getElem? (i := 0) rfl) rfl rfl
    have e19 : a'.tmps.getD 19 undef = .bool true := hd _ 19 (Array.mem_of_getElem? (i := 1) rfl) rfl rfl
    exact if_does (wanted_free rfl) (Does.vals (r_pick_t e14 e19) ⟨rfl, Below.refl _ _, (fun h => absurd h (by decide))⟩)
  · intro a' w' hF' hb hd
    have e20 : a'.tmps.getD 20 undef = .bool true := hd _ 20 (Array.mem_of_getElem? (i := 0) rfl) rfl rfl
    exact if_does (wanted_free rfl) (Does.vals (r_move e20) ⟨rfl, Below.refl _ _, (fun h => absurd h (by decide))⟩)
  · intro a' w' hF' hb hd
    have e21 : a'.tmps.getD 21 undef = .bool true := hd _ 21 (Array.mem_of_getElem? (i := 0) rfl) rfl rfl
    exact if_does (wanted_by rfl rfl e21 rfl) (Does.vals (r_move (hF'.at 0 rfl)) ⟨rfl, Below.refl _ _, (fun h => absurd h (by decide))⟩)
  · intro a' w' hF' hb hd
    have e21 : a'.tmps.getD 21 undef = .bool true := hd _ 21 (Array.mem_of_getElem? (i := 1) rfl) rfl rfl
    have e22 : a'.tmps.getD 22 undef = .int .i64 (ce ([51, 55, 48, 47, 49])) := hd _ 22 (Array.mem_of_getElem? (i := 0) rfl) rfl rfl
    exact if_does (wanted_by rfl rfl e21 rfl) (Does.vals (r_bin e22 ev_c eg_scalar (bi_int (ic_eql (c := true) (dec_tt (by decide +kernel))) (by simp))) ⟨rfl, Below.refl _ _, (fun h => absurd h (by decide))⟩)
  · intro a' w' hF' hb hd
    have e21 : a'.tmps.getD 21 undef = .bool true := hd _ 21 (Array.mem_of_getElem? (i := 0) rfl) rfl rfl
    have e23 : a'.tmps.getD 23 undef = .bool true := hd _ 23 (Array.mem_of_getElem? (i := 1) rfl) rfl rfl
    exact if_does (wanted_free rfl) (Does.vals (r_pick_t e21 e23) ⟨rfl, Below.refl _ _, (fun h => absurd h (by decide))⟩)
  · intro a' w' hF' hb hd
    have e24 : a'.tmps.getD 24 undef = .bool true := hd _ 24 (Array.mem_of_getElem? (i := 0) rfl) rfl rfl
    exact if_does (wanted_free rfl) (Does.vals (r_move e24) ⟨rfl, Below.refl _ _, (fun h => absurd h (by decide))⟩)
  · intro a' w' hF' hb hd
    have e25 : a'.tmps.getD 25 undef = .bool true := hd _ 25 (Array.mem_of_getElem? (i := 0) rfl) rfl rfl
    exact if_does (wanted_by rfl rfl e25 rfl) (Does.vals (r_load (hF'.at 1 rfl) (ld_Rat (vs := [.bool b11, .slice ad11 n11 c11, .slice ae11 m11 d11]) (o2.below hb) rfl rfl)) ⟨rfl, Below.refl _ _, (fun h => absurd h (by decide))⟩)
  · intro a' w' hF' hb hd
    have e25 : a'.tmps.getD 25 undef = .bool true := hd _ 25 (Array.mem_of_getElem? (i := 0) rfl) rfl rfl
    refine if_does (wanted_by rfl rfl e25 rfl) (Does.calls (r_call Tryz.func24 en24.1 en24.2 (map1 ev_c)) (rWhole_any ((-180)) _ (by decide) (by decide)) ?_)
    rintro e w'' ⟨v', rfl, h', bb⟩
    exact ⟨_, rfl, h', bb, (fun h => absurd h (by decide))⟩
  · intro a' w' hF' hb hd
    have e25 : a'.tmps.getD 25 undef = .bool true := hd _ 25 (Array.mem_of_getElem? (i := 1) rfl) rfl rfl
    refine if_does (wanted_by rfl rfl e25 rfl) (Does.calls (r_call Tryz.func24 en24.1 en24.2 (map1 ev_c)) (rWhole_any (180) _ (by decide) (by decide)) ?_)
    rintro e w'' ⟨v', rfl, h', bb⟩
    exact ⟨_, rfl, h', bb, (fun h => absurd h (by decide))⟩
  · intro a' w' hF' hb hd
    have e25 : a'.tmps.getD 25 undef = .bool true := hd _ 25 (Array.mem_of_getElem? (i := 4) rfl) rfl rfl
    have e26 : a'.tmps.getD 26 undef = .agg #[.bool b11, .slice ad11 n11 c11, .slice ae11 m11 d11] := hd _ 26 (Array.mem_of_getElem? (i := 0) rfl) rfl rfl
    obtain ⟨v27_0, e27, h27_1⟩ : ∃ v, a'.tmps.getD 27 undef = v ∧ Rq w' v ((((-180) : Int) : Rat)) := ⟨_, rfl, hd _ 27 (Array.mem_of_getElem? (i := 1) rfl) rfl rfl⟩
    obtain ⟨v28_0, e28, h28_1⟩ : ∃ v, a'.tmps.getD 28 undef = v ∧ Rq w' v (((180 : Int) : Rat)) := ⟨_, rfl, hd _ 28 (Array.mem_of_getElem? (i := 2) rfl) rfl rfl⟩
    refine if_does (wanted_by rfl rfl e25 rfl) (Does.calls (r_call Tryz.func31 en31.1 en31.2 (map3 e26 e27 e28)) (cInto_any _ _ _ (cz ([51, 55, 48, 47, 49])) ((((-180) : Int) : Rat)) (((180 : Int) : Rat)) 110 2 2 _ (hh10.below hb) h27_1 h28_1 (cz_lim ([51, 55, 48, 47, 49])) (rlim_int (limz_64 (by decide) (by decide)) (by omega)) (rlim_int (limz_64 (by decide) (by decide)) (by omega)) (by omega) (by omega) (by omega)) ?_)
    rintro e w'' ⟨v', rfl, h', bb⟩
    exact ⟨_, rfl, h', bb, (fun h => absurd h (by decide))⟩
  · intro a' w' hF' hb hd
    have e25 : a'.tmps.getD 25 undef = .bool true := hd _ 25 (Array.mem_of_getElem? (i := 1) rfl) rfl rfl
    refine if_does (wanted_by rfl rfl e25 rfl) (Does.calls (r_call Tryz.func49 en49.1 en49.2 (map2 ev_c ev_c)) (dOf_any (10) (1) _ (by decide) (by decide) (by decide) (by decide)) ?_)
    rintro e w'' ⟨v', rfl, h', bb⟩
    exact ⟨_, rfl, h', bb, (fun h => absurd h (by decide))⟩
  · intro a' w' hF' hb hd
    have e25 : a'.tmps.getD 25 undef = .bool true := hd _ 25 (Array.mem_of_getElem? (i := 3) rfl) rfl rfl
    obtain ⟨v29_0, e29, h29_1⟩ : ∃ v, a'.tmps.getD 29 undef = v ∧ Rq w' v (rinto (cz ([51, 55, 48, 47, 49])) ((((-180) : Int) : Rat)) (((180 : Int) : Rat))) := ⟨_, rfl, hd _ 29 (Array.mem_of_getElem? (i := 0) rfl) rfl rfl⟩
    obtain ⟨v30_0, e30, h30_1⟩ : ∃ v, a'.tmps.getD 30 undef = v ∧ Rr w' v (((10 : Int) : Rat) / ((1 : Int) : Rat)) (2) := ⟨_, rfl, hd _ 30 (Array.mem_of_getElem? (i := 1) rfl) rfl rfl⟩
    refine if_does (wanted_by rfl rfl e25 rfl) (Does.calls (r_call Tryz.func32 en32.1 en32.2 (map2 e29 e30)) (Is5_any _ _ (rinto (cz ([51, 55, 48, 47, 49])) ((((-180) : Int) : Rat)) (((180 : Int) : Rat))) (((10 : Int) : Rat) / ((1 : Int) : Rat)) (2 * 110 + 5 * 2 + 2 * 2 + 8) 2 _ h29_1 h30_1 (rinto_lim (k := 110) (j := 2) (i := 2) (cz_lim ([51, 55, 48, 47, 49])) (rlim_int (limz_64 (by decide) (by decide)) (by omega)) (rlim_int (limz_64 (by decide) (by decide)) (by omega))) (by decide +kernel) (by omega) (by omega)) ?_)
    rintro e w'' ⟨rfl, bb⟩
    exact ⟨_, rfl, rfl, bb, (fun h => absurd h (by decide))⟩
  · intro a' w' hF' hb hd
    have e25 : a'.tmps.getD 25 undef = .bool true := hd _ 25 (Array.mem_of_getElem? (i := 1) rfl) rfl rfl
    have e31 : a'.tmps.getD 31 undef = .int .i64 0 := hd _ 31 (Array.mem_of_getElem? (i := 0) rfl) rfl rfl
    exact if_does (wanted_by rfl rfl e25 rfl) (Does.vals (r_bin e31 ev_c eg_scalar (bi_int (ic_eql (c := true) (by decide)) (by simp))) ⟨rfl, Below.refl _ _, (fun h => absurd h (by decide))⟩)
  · intro a' w' hF' hb hd
    have e25 : a'.tmps.getD 25 undef = .bool true := hd _ 25 (Array.mem_of_getElem? (i := 0) rfl) rfl rfl
    have e32 : a'.tmps.getD 32 undef = .bool true := hd _ 32 (Array.mem_of_getElem? (i := 1) rfl) rfl rfl
    exact if_does (wanted_free rfl) (Does.vals (r_pick_t e25 e32) ⟨rfl, Below.refl _ _, (fun h => absurd h (by decide))⟩)
  · intro a' w' hF' hb hd
    have e33 : a'.tmps.getD 33 undef = .bool true := hd _ 33 (Array.mem_of_getElem? (i := 0) rfl) rfl rfl
    exact if_does (wanted_free rfl) (Does.vals (r_move e33) ⟨rfl, Below.refl _ _, (fun h => absurd h (by decide))⟩)
  · intro a' w' hF' hb hd
    have e34 : a'.tmps.getD 34 undef = .bool true := hd _ 34 (Array.mem_of_getElem? (i := 0) rfl) rfl rfl
    exact if_does (wanted_by rfl rfl e34 rfl) (Does.vals (r_load (hF'.at 6 rfl) (ld_Rat (vs := [.bool b4, .slice ad4 n4 c4, .slice ae4 m4 d4]) (o1.below hb) rfl rfl)) ⟨rfl, Below.refl _ _, (fun h => absurd h (by decide))⟩)
  · intro a' w' hF' hb hd
    have e34 : a'.tmps.getD 34 undef = .bool true := hd _ 34 (Array.mem_of_getElem? (i := 1) rfl) rfl rfl
    have e35 : a'.tmps.getD 35 undef = .agg #[.bool b4, .slice ad4 n4 c4, .slice ae4 m4 d4] := hd _ 35 (Array.mem_of_getElem? (i := 0) rfl) rfl rfl
    refine if_does (wanted_by rfl rfl e34 rfl) (Does.calls (r_call Tryz.func41 en41.1 en41.2 (map1 e35)) (cText_any _ ((((-7) : Int) : Rat) / ((2 : Int) : Rat)) 2 _ (hh3.below hb) (RLim.up (rlim_mk2 (limz_64 (by decide) (by decide)) (limz_64 (by decide) (by decide))) 2 (by decide)) (by omega)) ?_)
    rintro e w'' ⟨rfl, bb⟩
    exact ⟨_, rfl, rfl, bb, (fun h => absurd h (by decide))⟩
  · intro a' w' hF' hb hd
    have e34 : a'.tmps.getD 34 undef = .bool true := hd _ 34 (Array.mem_of_getElem? (i := 1) rfl) rfl rfl
    have e36 : a'.tmps.getD 36 undef = .string (bstr (cx ((((-7) : Int) : Rat) / ((2 : Int) : Rat)))) := hd _ 36 (Array.mem_of_getElem? (i := 0) rfl) rfl rfl
    exact if_does (wanted_by rfl rfl e34 rfl) (Does.vals (r_bin e36 ev_c eg_str (sb_eq (xs := cx ((((-7) : Int) : Rat) / ((2 : Int) : Rat))) (ys := [45, 55, 47, 50]) aw6t)) ⟨rfl, Below.refl _ _, (fun h => absurd h (by decide))⟩)
  · intro a' w' hF' hb hd
    have e34 : a'.tmps.getD 34 undef = .bool true := hd _ 34 (Array.mem_of_getElem? (i := 0) rfl) rfl rfl
    have e37 : a'.tmps.getD 37 undef = .bool true := hd _ 37 (Array.mem_of_getElem? (i := 1) rfl) rfl rfl
    exact if_does (wanted_free rfl) (Does.vals (r_pick_t e34 e37) ⟨rfl, Below.refl _ _, (fun h => absurd h (by decide))⟩)
  intro a w15 hF bb hall hne
  have e38 : a.tmps.getD 38 undef = .bool true := hall 29 38 rfl
  clear hall hne
  replace bel := below_to bel bb
  clear bb
  replace hF := hF.add e38
  clear e38
  refine E.opset (L' := [(0, .bool true), (38, .bool true), (3, .int .i64 (ce ([51, 55, 48, 47, 49]))), (2, .pointer (some ⟨g2, 0, none⟩)), (8, .int .i64 (ce ([51, 55, 48, 47, 49]))), (7, .agg #[.bool b11, .slice ad11 n11 c11, .slice ae11 m11 d11]), (5, .tuple #[.agg #[.bool b11, .slice ad11 n11 c11, .slice ae11 m11 d11], .int .i64 (ce ([51, 55, 48, 47, 49]))]), (6, .tuple #[.agg #[.bool b11, .slice ad11 n11 c11, .slice ae11 m11 d11], .int .i64 (ce ([51, 55, 48, 47, 49]))]), (1, .pointer (some ⟨g1, 0, none⟩)), (4, .agg #[.bool b4, .slice ad4 n4 c4, .slice ae4 m4 d4])]) hF (r_assign (hF.at 0 rfl)) rfl rfl rfl rfl fun a hF => ?_
  refine E.nil ?_
  refine wp_ret ?_
  refine bodyPost_ret (res_tmp Tryz.results9 (hF.at 0 rfl)) hF.dfr ?_
  exact ⟨rfl, bel⟩

end Go.Proofs.YthoiocjbjfhgpaaGreat
