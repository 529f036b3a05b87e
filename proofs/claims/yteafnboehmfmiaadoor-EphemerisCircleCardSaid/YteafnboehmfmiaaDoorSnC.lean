/- The laws of layer 10. -/
import Derived.Test.YteafnboehmfmiaaDoorGY
namespace Go.Proofs.YteafnboehmfmiaaDoor
open Go.RowKit
set_option maxRecDepth 100000
set_option linter.unusedVariables false

theorem qc_no {a b : Rat} (h : a ≤ b) : ¬ 0 < qc a b := by rw [qc_pos]; grind
theorem rise_qc {p q : Rat} (hp : ((-90 : Int) : Rat) ≤ p ∧ p < ((90 : Int) : Rat)) (hq : ((-90 : Int) : Rat) ≤ q ∧ q < ((90 : Int) : Rat)) : qc (sof p) (sof q) = qc p q := by
  have a := sof_same (p := p) (q := q) hp.1 (by grind) hq.1 (by grind)
  have b := sof_same (p := q) (q := p) hq.1 (by grind) hp.1 (by grind)
  rw [qc_def, qc_def]
  simp only [a, b]
theorem into90 (x : Rat) : ((-90 : Int) : Rat) ≤ rinto x ((-90 : Int) : Rat) ((90 : Int) : Rat) ∧ rinto x ((-90 : Int) : Rat) ((90 : Int) : Rat) < ((90 : Int) : Rat) := ⟨rinto_low (by decide +kernel), rinto_high (by decide +kernel)⟩
theorem into1 (x : Rat) : ((-1 : Int) : Rat) ≤ rinto x ((-1 : Int) : Rat) ((1 : Int) : Rat) ∧ rinto x ((-1 : Int) : Rat) ((1 : Int) : Rat) < ((1 : Int) : Rat) := ⟨rinto_low (by decide +kernel), rinto_high (by decide +kernel)⟩
theorem le_lt {a b : Rat} (h : a < b) : a ≤ b := by grind
theorem sof_abs (p : Rat) : (sof p).abs ≤ ((1 : Int) : Rat) := by
  have := sof_bd p
  exact abs_le this.1 this.2
set_option maxHeartbeats 4000000 in
theorem awake10_any (w : World) (hT : TabD w) :
    Calls Tryd.prog 22 #[] w (ValPost w (.bool true)) := by
  have bel : Below w.heap.size w w := Below.refl _ _
  refine E.enter (nt := 22) (L := []) Tryd.func22 rfl rfl rfl args_nil ?_
  intro a hF
  refine wp_seq ?_
  refine E.seq ?_
  refine E.opv hF (r_assign ev_c) rfl rfl rfl rfl fun a hF => ?_
  refine E.nil ?_
  refine wp_seq ?_
  refine E.seq ?_
  refine E.call hF (r_call Tryd.func26 en26.1 en26.2 (map1 ev_c)) (rWhole_any (30) _ (by decide) (by decide)) rfl rfl rfl rfl ?_
  rintro e w1 ⟨vv2, rfl, hh3, bb⟩
  refine ⟨_, rfl, ?_⟩
  intro a hF
  replace bel := below_to bel bb
  clear bb
  obtain ⟨b4, ad4, n4, c4, ae4, m4, d4, rfl, hn4, hd4⟩ := Rq.shape hh3
  have hf5 := Wc.abs hn4
  refine E.call hF (r_call Tryd.func24 en24.1 en24.2 (map1 (hF.at 0 rfl))) (sof_any _ (((30 : Int) : Rat)) 2 _ (hT.below bel) hh3 (rlim_int (limz_64 (by decide) (by decide)) (by omega)) (by omega)) rfl rfl rfl rfl ?_
  rintro e w6 ⟨vv7, rfl, hh8, bb⟩
  refine ⟨_, rfl, ?_⟩
  intro a hF
  replace bel := below_to bel bb
  clear bb
  obtain ⟨b9, ad9, n9, c9, ae9, m9, d9, rfl, hn9, hd9⟩ := Rq.shape hh8
  have hf10 := Wc.abs hn9
  refine E.call hF (r_call Tryd.func35 en35.1 en35.2 (map2 ev_c ev_c)) (rOf2_any (1) (2) _ (by decide) (by decide) (by decide) (by decide)) rfl rfl rfl rfl ?_
  rintro e w11 ⟨vv12, rfl, hh13, bb⟩
  refine ⟨_, rfl, ?_⟩
  intro a hF
  replace hh8 := hh8.below bb
  replace hn9 := hn9.below bb
  replace hf10 := hf10.below bb
  replace hd9 := hd9.below bb
  replace bel := below_to bel bb
  clear bb
  obtain ⟨b14, ad14, n14, c14, ae14, m14, d14, rfl, hn14, hd14⟩ := Rq.shape hh13
  have hf15 := Wc.abs hn14
  refine E.call hF (r_call Tryd.func28 en28.1 en28.2 (map2 (hF.at 1 rfl) (hF.at 0 rfl))) (rSame_true _ _ (sof (((30 : Int) : Rat))) (((1 : Int) : Rat) / ((2 : Int) : Rat)) _ hh8 hh13 (by decide +kernel)) rfl rfl rfl rfl ?_
  rintro e w16 ⟨rfl, bb⟩
  refine ⟨_, rfl, ?_⟩
  intro a hF
  replace bel := below_to bel bb
  clear bb
  refine E.opv hF (r_move (hF.at 0 rfl)) rfl rfl rfl rfl fun a hF => ?_
  refine E.callg hF (r_call Tryd.func35 en35.1 en35.2 (map2 ev_c ev_c)) (rOf2_any (1) (2) _ (by decide) (by decide) (by decide) (by decide)) (wanted_by rfl rfl (hF.at 0 rfl) rfl) rfl rfl rfl ?_
  rintro e w17 ⟨vv18, rfl, hh19, bb⟩
  refine ⟨_, rfl, ?_⟩
  intro a hF
  replace bel := below_to bel bb
  clear bb
  obtain ⟨b20, ad20, n20, c20, ae20, m20, d20, rfl, hn20, hd20⟩ := Rq.shape hh19
  have hf21 := Wc.abs hn20
  refine E.callg hF (r_call Tryd.func32 en32.1 en32.2 (map1 (hF.at 0 rfl))) (sarc_any _ (((1 : Int) : Rat) / ((2 : Int) : Rat)) 2 _ (hT.below bel) hh19 (RLim.up (rlim_mk2 (limz_64 (by decide) (by decide)) (limz_64 (by decide) (by decide))) 2 (by decide)) (by omega)) (wanted_by rfl rfl (hF.at 1 rfl) rfl) rfl rfl rfl ?_
  rintro e w22 ⟨vv23, rfl, hh24, bb⟩
  refine ⟨_, rfl, ?_⟩
  intro a hF
  replace bel := below_to bel bb
  clear bb
  obtain ⟨b25, ad25, n25, c25, ae25, m25, d25, rfl, hn25, hd25⟩ := Rq.shape hh24
  have hf26 := Wc.abs hn25
  refine E.callg hF (r_call Tryd.func26 en26.1 en26.2 (map1 ev_c)) (rWhole_any (30) _ (by decide) (by decide)) (wanted_by rfl rfl (hF.at 2 rfl) rfl) rfl rfl rfl ?_
  rintro e w27 ⟨vv28, rfl, hh29, bb⟩
  refine ⟨_, rfl, ?_⟩
  intro a hF
  replace hh24 := hh24.below bb
  replace hn25 := hn25.below bb
  replace hf26 := hf26.below bb
  replace hd25 := hd25.below bb
  replace bel := below_to bel bb
  clear bb
  obtain ⟨b30, ad30, n30, c30, ae30, m30, d30, rfl, hn30, hd30⟩ := Rq.shape hh29
  have hf31 := Wc.abs hn30
  refine E.callg hF (r_call Tryd.func28 en28.1 en28.2 (map2 (hF.at 1 rfl) (hF.at 0 rfl))) (rSame_true _ _ (arcv (((1 : Int) : Rat) / ((2 : Int) : Rat))) (((30 : Int) : Rat)) _ hh24 hh29 (by decide +kernel)) (wanted_by rfl rfl (hF.at 3 rfl) rfl) rfl rfl rfl ?_
  rintro e w32 ⟨rfl, bb⟩
  refine ⟨_, rfl, ?_⟩
  intro a hF
  replace bel := below_to bel bb
  clear bb
  refine E.opv hF (r_pick_t (hF.at 4 rfl) (hF.at 0 rfl)) rfl rfl rfl rfl fun a hF => ?_
  refine E.opv hF (r_move (hF.at 0 rfl)) rfl rfl rfl rfl fun a hF => ?_
  refine E.callg hF (r_call Tryd.func26 en26.1 en26.2 (map1 ev_c)) (rWhole_any ((-1)) _ (by decide) (by decide)) (wanted_by rfl rfl (hF.at 0 rfl) rfl) rfl rfl rfl ?_
  rintro e w33 ⟨vv34, rfl, hh35, bb⟩
  refine ⟨_, rfl, ?_⟩
  intro a hF
  replace bel := below_to bel bb
  clear bb
  obtain ⟨b36, ad36, n36, c36, ae36, m36, d36, rfl, hn36, hd36⟩ := Rq.shape hh35
  have hf37 := Wc.abs hn36
  refine E.callg hF (r_call Tryd.func40 en40.1 en40.2 (map1 (hF.at 0 rfl))) (step_any _ ((((-1) : Int) : Rat)) 2 _ (hT.below bel) hh35 (rlim_int (limz_64 (by decide) (by decide)) (by omega)) (by omega)) (wanted_by rfl rfl (hF.at 1 rfl) rfl) rfl rfl rfl ?_
  rintro e w38 ⟨rfl, bb⟩
  refine ⟨_, rfl, ?_⟩
  intro a hF
  replace bel := below_to bel bb
  clear bb
  refine E.opvg hF (r_bin (hF.at 0 rfl) ev_c eg_scalar (bi_int (ic_eql (c := true) (dec_tt (by decide +kernel))) (by simp))) (wanted_by rfl rfl (hF.at 2 rfl) rfl) rfl rfl rfl fun a hF => ?_
  refine E.opv hF (r_pick_t (hF.at 3 rfl) (hF.at 0 rfl)) rfl rfl rfl rfl fun a hF => ?_
  refine E.opv hF (r_move (hF.at 0 rfl)) rfl rfl rfl rfl fun a hF => ?_
  refine E.callg hF (r_call Tryd.func26 en26.1 en26.2 (map1 ev_c)) (rWhole_any (60) _ (by decide) (by decide)) (wanted_by rfl rfl (hF.at 0 rfl) rfl) rfl rfl rfl ?_
  rintro e w39 ⟨vv40, rfl, hh41, bb⟩
  refine ⟨_, rfl, ?_⟩
  intro a hF
  replace bel := below_to bel bb
  clear bb
  obtain ⟨b42, ad42, n42, c42, ae42, m42, d42, rfl, hn42, hd42⟩ := Rq.shape hh41
  have hf43 := Wc.abs hn42
  refine E.callg hF (r_call Tryd.func37 en37.1 en37.2 (map1 (hF.at 0 rfl))) (scos_any _ (((60 : Int) : Rat)) 2 _ (hT.below bel) hh41 (rlim_int (limz_64 (by decide) (by decide)) (by omega)) (by omega)) (wanted_by rfl rfl (hF.at 1 rfl) rfl) rfl rfl rfl ?_
  rintro e w44 ⟨vv45, rfl, hh46, bb⟩
  refine ⟨_, rfl, ?_⟩
  intro a hF
  replace bel := below_to bel bb
  clear bb
  obtain ⟨b47, ad47, n47, c47, ae47, m47, d47, rfl, hn47, hd47⟩ := Rq.shape hh46
  have hf48 := Wc.abs hn47
  refine E.callg hF (r_call Tryd.func35 en35.1 en35.2 (map2 ev_c ev_c)) (rOf2_any (1) (2) _ (by decide) (by decide) (by decide) (by decide)) (wanted_by rfl rfl (hF.at 2 rfl) rfl) rfl rfl rfl ?_
  rintro e w49 ⟨vv50, rfl, hh51, bb⟩
  refine ⟨_, rfl, ?_⟩
  intro a hF
  replace hh46 := hh46.below bb
  replace hn47 := hn47.below bb
  replace hf48 := hf48.below bb
  replace hd47 := hd47.below bb
  replace bel := below_to bel bb
  clear bb
  obtain ⟨b52, ad52, n52, c52, ae52, m52, d52, rfl, hn52, hd52⟩ := Rq.shape hh51
  have hf53 := Wc.abs hn52
  refine E.callg hF (r_call Tryd.func28 en28.1 en28.2 (map2 (hF.at 1 rfl) (hF.at 0 rfl))) (rSame_true _ _ (sof ((((60 : Int) : Rat)) + ((90 : Int) : Rat))) (((1 : Int) : Rat) / ((2 : Int) : Rat)) _ hh46 hh51 (by decide +kernel)) (wanted_by rfl rfl (hF.at 3 rfl) rfl) rfl rfl rfl ?_
  rintro e w54 ⟨rfl, bb⟩
  refine ⟨_, rfl, ?_⟩
  intro a hF
  replace bel := below_to bel bb
  clear bb
  refine E.opv hF (r_pick_t (hF.at 4 rfl) (hF.at 0 rfl)) rfl rfl rfl rfl fun a hF => ?_
  refine E.opset (L' := [(0, .bool true), (21, .bool true), (20, .bool true), (19, .agg #[.bool b52, .slice ad52 n52 c52, .slice ae52 m52 d52]), (18, .agg #[.bool b47, .slice ad47 n47 c47, .slice ae47 m47 d47]), (17, .agg #[.bool b42, .slice ad42 n42 c42, .slice ae42 m42 d42]), (16, .bool true), (15, .bool true), (14, .bool true), (13, .int .i64 (spk (pk ((((-1) : Int) : Rat)) + 1) - spk (pk ((((-1) : Int) : Rat))))), (12, .agg #[.bool b36, .slice ad36 n36 c36, .slice ae36 m36 d36]), (11, .bool true), (10, .bool true), (9, .bool true), (8, .agg #[.bool b30, .slice ad30 n30 c30, .slice ae30 m30 d30]), (7, .agg #[.bool b25, .slice ad25 n25 c25, .slice ae25 m25 d25]), (6, .agg #[.bool b20, .slice ad20 n20 c20, .slice ae20 m20 d20]), (5, .bool true), (4, .bool true), (3, .agg #[.bool b14, .slice ad14 n14 c14, .slice ae14 m14 d14]), (2, .agg #[.bool b9, .slice ad9 n9 c9, .slice ae9 m9 d9]), (1, .agg #[.bool b4, .slice ad4 n4 c4, .slice ae4 m4 d4])]) hF (r_assign (hF.at 0 rfl)) rfl rfl rfl rfl fun a hF => ?_
  refine E.nil ?_
  refine wp_ret ?_
  refine bodyPost_ret (res_tmp Tryd.results22 (hF.at 0 rfl)) hF.dfr ?_
  exact ⟨rfl, bel⟩

set_option maxHeartbeats 8000000 in
theorem sineTurns_walk (nega1 : Bool) (aa1 : Option Addr) (na1 ca1 : Nat) (xa1 : List Nat) (negb1 : Bool) (ab1 : Option Addr) (nb1 cb1 : Nat) (xb1 : List Nat) (n : Int) (w : World) (hT : TabD w) (ia1 : InX w aa1 na1 ca1 xa1) (ib1 : InX w ab1 nb1 cb1 xb1) (b1 : -9223372036854775808 ≤ n) (b2 : n ≤ 9223372036854775807) :
    Calls Tryd.prog 7 #[.agg #[.bool nega1, .slice aa1 na1 ca1, .bool negb1, .slice ab1 nb1 cb1], .int .i64 n] w (ValPost w (.bool true)) := by
  have oka1 := ia1.ok
  have okb1 := ib1.ok
  have bel : Below w.heap.size w w := Below.refl _ _
  refine E.enter (nt := 38) (L := [(0, .agg #[.bool nega1, .slice aa1 na1 ca1, .bool negb1, .slice ab1 nb1 cb1]), (1, .int .i64 n)]) Tryd.func7 rfl rfl rfl (args_cons (i := 0) rfl (args_cons (i := 1) rfl args_nil)) ?_
  intro a hF
  refine wp_seq ?_
  refine E.seq ?_
  obtain ⟨g2, w1, ge2, hr, bb, o2⟩ := own_box (P := Tryd.prog) (w := w) (cs := [.bool nega1, .slice aa1 na1 ca1, .bool negb1, .slice ab1 nb1 cb1]) (v := .agg #[.bool nega1, .slice aa1 na1 ca1, .bool negb1, .slice ab1 nb1 cb1]) 37 rfl (niB (niS (niB (niS ni0))))
  replace ge2 : w.heap.size ≤ g2 := by rw [← ge2]; exact bel.size
  refine E.opv hF (r_box (hF.at 0 rfl) hr) rfl rfl rfl rfl fun a hF => ?_
  clear hr
  replace ia1 := ia1.below bb
  replace ib1 := ib1.below bb
  replace bel := below_to bel bb
  clear bb
  refine E.opv hF (r_assign ev_c) rfl rfl rfl rfl fun a hF => ?_
  refine E.nil ?_
  refine wp_seq ?_
  refine wp_seq ?_
  refine E.seq ?_
  refine E.call hF (r_call Tryd.func22 en22.1 en22.2 map0) (awake10_any _ (hT.below bel)) rfl rfl rfl rfl ?_
  rintro e w2 ⟨rfl, bb⟩
  refine ⟨_, rfl, ?_⟩
  intro a hF
  replace ia1 := ia1.below bb
  replace ib1 := ib1.below bb
  replace o2 := o2.below bb
  replace bel := below_to bel bb
  clear bb
  refine E.opv hF (r_un (hF.at 0 rfl) (bn_not _ false rfl)) rfl rfl rfl rfl fun a hF => ?_
  refine E.nil ?_
  refine wp_cond_false (hF.at 0 rfl) ?_
  refine wp_skip ?_
  refine E.norm ?_
  refine wp_seq ?_
  refine E.seq ?_
  refine E.opv hF (r_load (hF.at 3 rfl) (ld_Raw5 (vs := [.bool nega1, .slice aa1 na1 ca1, .bool negb1, .slice ab1 nb1 cb1]) o2 rfl rfl)) rfl rfl rfl rfl fun a hF => ?_
  refine E.call hF (r_call Tryd.func23 en23.1 en23.2 (map2 (hF.at 0 rfl) ev_c)) (Own5_any nega1 aa1 na1 ca1 xa1 negb1 ab1 nb1 cb1 xb1 4 _ ia1 ib1 (by omega)) rfl rfl rfl rfl ?_
  rintro e w3 ⟨vv4, rfl, hh5, bb⟩
  refine ⟨_, rfl, ?_⟩
  intro a hF
  replace bel := below_to bel bb
  clear bb
  obtain ⟨b6, ad6, n6, c6, ae6, m6, d6, rfl, hn6, hd6⟩ := Rq.shape hh5
  have hf7 := Wc.abs hn6
  obtain ⟨g5, w8, ge5, hr, bb, o5⟩ := own_alloc (P := Tryd.prog) (w := w3) (cs := [.bool false, .slice none 0 0, .slice none 0 0]) 42 ze_Rat rfl (niB (niS (niS ni0)))
  replace ge5 : w.heap.size ≤ g5 := by rw [← ge5]; exact bel.size
  refine E.opv hF (r_alloc hr) rfl rfl rfl rfl fun a hF => ?_
  clear hr
  replace hh5 := hh5.below bb
  replace hn6 := hn6.below bb
  replace hf7 := hf7.below bb
  replace hd6 := hd6.below bb
  replace bel := below_to bel bb
  clear bb
  obtain ⟨w9, hr, tu, on⟩ := st_Rat (vs := [.bool b6, .slice ad6 n6 c6, .slice ae6 m6 d6]) o5 rfl rfl (ocB (ocS (ocS oc0))) (niB (niS (niS ni0))) (o := 0) rfl
  have kp := tu.keep o5
  refine E.st hF (r_store (hF.at 0 rfl) (hF.at 1 rfl) (hr _ rfl)) rfl rfl fun a hF => ?_
  clear hr
  replace hh5 := hh5.keep kp
  replace hn6 := hn6.keep kp
  replace hf7 := hf7.keep kp
  replace hd6 := hd6.keep kp
  replace bel := tu.below bel ge5
  clear tu kp
  replace o5 := on
  clear on
  refine E.nil ?_
  refine wp_seq ?_
  refine E.seq ?_
  refine E.opv hF (r_load (hF.at 0 rfl) (ld_Rat (vs := [.bool b6, .slice ad6 n6 c6, .slice ae6 m6 d6]) o5 rfl rfl)) rfl rfl rfl rfl fun a hF => ?_
  refine E.call hF (r_call Tryd.func24 en24.1 en24.2 (map1 (hF.at 0 rfl))) (sof_any _ (((rawZ nega1 xa1 4 : Int) : Rat) / ((rawZ negb1 xb1 4 : Int) : Rat)) 4 _ (hT.below bel) hh5 (own5_lim nega1 negb1 oka1 okb1 4 (by decide)) (by omega)) rfl rfl rfl rfl ?_
  rintro e w10 ⟨vv11, rfl, hh12, bb⟩
  refine ⟨_, rfl, ?_⟩
  intro a hF
  replace hf7 := hf7.below bb
  replace hd6 := hd6.below bb
  replace hh5 := hh5.below bb
  replace hn6 := hn6.below bb
  replace o5 := o5.below bb
  replace bel := below_to bel bb
  clear bb
  obtain ⟨b13, ad13, n13, c13, ae13, m13, d13, rfl, hn13, hd13⟩ := Rq.shape hh12
  have hf14 := Wc.abs hn13
  obtain ⟨g6, w15, ge6, hr, bb, o6⟩ := own_alloc (P := Tryd.prog) (w := w10) (cs := [.bool false, .slice none 0 0, .slice none 0 0]) 42 ze_Rat rfl (niB (niS (niS ni0)))
  have ne5_6 : g5 ≠ g6 := by rw [← ge6]; exact o5.ne_new
  replace ge6 : w.heap.size ≤ g6 := by rw [← ge6]; exact bel.size
  refine E.opv hF (r_alloc hr) rfl rfl rfl rfl fun a hF => ?_
  clear hr
  replace hh12 := hh12.below bb
  replace hn13 := hn13.below bb
  replace hf14 := hf14.below bb
  replace hd13 := hd13.below bb
  replace hf7 := hf7.below bb
  replace hd6 := hd6.below bb
  replace hh5 := hh5.below bb
  replace hn6 := hn6.below bb
  replace o5 := o5.below bb
  replace bel := below_to bel bb
  clear bb
  obtain ⟨w16, hr, tu, on⟩ := st_Rat (vs := [.bool b13, .slice ad13 n13 c13, .slice ae13 m13 d13]) o6 rfl rfl (ocB (ocS (ocS oc0))) (niB (niS (niS ni0))) (o := 0) rfl
  have kp := tu.keep o6
  refine E.st hF (r_store (hF.at 0 rfl) (hF.at 1 rfl) (hr _ rfl)) rfl rfl fun a hF => ?_
  clear hr
  replace hf7 := hf7.keep kp
  replace hd6 := hd6.keep kp
  replace hh5 := hh5.keep kp
  replace hn6 := hn6.keep kp
  replace hh12 := hh12.keep kp
  replace hn13 := hn13.keep kp
  replace hf14 := hf14.keep kp
  replace hd13 := hd13.keep kp
  replace o5 := tu.own o5 ne5_6
  replace bel := tu.below bel ge6
  clear tu kp
  replace o6 := on
  clear on
  refine E.nil ?_
  refine wp_seq ?_
  refine E.drawn 25 mixed hF [13, 14, 15, 16, 17, 18, 19, 20, 21, 22, 23, 24, 25, 26, 27, 28, 29, 30, 31, 32, 33, 34, 35, 36, 37] [(fun _ v => v = .agg #[.bool b6, .slice ad6 n6 c6, .slice ae6 m6 d6]), (fun w v => Rq w v (((360 : Int) : Rat))), (fun _ v => v = .int .i64 n), (fun w v => Rq w v (((n : Int) : Rat))), (fun w v => Rq w v ((((360 : Int) : Rat)) * (((n : Int) : Rat)))), (fun w v => Rq w v ((((rawZ nega1 xa1 4 : Int) : Rat) / ((rawZ negb1 xb1 4 : Int) : Rat)) + ((((360 : Int) : Rat)) * (((n : Int) : Rat))))), (fun w v => Rq w v (sof ((((rawZ nega1 xa1 4 : Int) : Rat) / ((rawZ negb1 xb1 4 : Int) : Rat)) + ((((360 : Int) : Rat)) * (((n : Int) : Rat)))))), (fun _ v => v = .agg #[.bool b13, .slice ad13 n13 c13, .slice ae13 m13 d13]), (fun _ v => v = .bool true), (fun _ v => v = .bool true), (fun _ v => v = .agg #[.bool b6, .slice ad6 n6 c6, .slice ae6 m6 d6]), (fun w v => Rq w v (-(((rawZ nega1 xa1 4 : Int) : Rat) / ((rawZ negb1 xb1 4 : Int) : Rat)))), (fun w v => Rq w v (sof (-(((rawZ nega1 xa1 4 : Int) : Rat) / ((rawZ negb1 xb1 4 : Int) : Rat))))), (fun _ v => v = .agg #[.bool b13, .slice ad13 n13 c13, .slice ae13 m13 d13]), (fun w v => Rq w v (-(sof (((rawZ nega1 xa1 4 : Int) : Rat) / ((rawZ negb1 xb1 4 : Int) : Rat))))), (fun _ v => v = .bool true), (fun _ v => v = .bool true), (fun _ v => v = .bool true), (fun w v => Rq w v (((180 : Int) : Rat))), (fun _ v => v = .agg #[.bool b6, .slice ad6 n6 c6, .slice ae6 m6 d6]), (fun w v => Rq w v ((((180 : Int) : Rat)) - (((rawZ nega1 xa1 4 : Int) : Rat) / ((rawZ negb1 xb1 4 : Int) : Rat)))), (fun w v => Rq w v (sof ((((180 : Int) : Rat)) - (((rawZ nega1 xa1 4 : Int) : Rat) / ((rawZ negb1 xb1 4 : Int) : Rat))))), (fun _ v => v = .agg #[.bool b13, .slice ad13 n13 c13, .slice ae13 m13 d13]), (fun _ v => v = .bool true), (fun _ v => v = .bool true)] [] (by decide +kernel) (by decide +kernel) rfl rfl rfl ⟨(Mb.eq _), (fun _ _ _ h hb => h.below hb), (Mb.eq _), (fun _ _ _ h hb => h.below hb), (fun _ _ _ h hb => h.below hb), (fun _ _ _ h hb => h.below hb), (fun _ _ _ h hb => h.below hb), (Mb.eq _), (Mb.eq _), (Mb.eq _), (Mb.eq _), (fun _ _ _ h hb => h.below hb), (fun _ _ _ h hb => h.below hb), (Mb.eq _), (fun _ _ _ h hb => h.below hb), (Mb.eq _), (Mb.eq _), (Mb.eq _), (fun _ _ _ h hb => h.below hb), (Mb.eq _), (fun _ _ _ h hb => h.below hb), (fun _ _ _ h hb => h.below hb), (Mb.eq _), (Mb.eq _), (Mb.eq _), trivial⟩ trivial ⟨?_, ?_, ?_, ?_, ?_, ?_, ?_, ?_, ?_, ?_, ?_, ?_, ?_, ?_, ?_, ?_, ?_, ?_, ?_, ?_, ?_, ?_, ?_, ?_, ?_, trivial⟩ ?_
  · intro a' w' hF' hb hd
    exact if_does (wanted_free rfl) (Does.vals (r_load (hF'.at 3 rfl) (ld_Rat (vs := [.bool b6, .slice ad6 n6 c6, .slice ae6 m6 d6]) (o5.below hb) rfl rfl)) ⟨rfl, Below.refl _ _, (fun h => absurd h (by decide))⟩)
  · intro a' w' hF' hb hd
    refine if_does (wanted_free rfl) (Does.calls (r_call Tryd.func26 en26.1 en26.2 (map1 ev_c)) (rWhole_any (360) _ (by decide) (by decide)) ?_)
    rintro e w'' ⟨v', rfl, h', bb⟩
    exact ⟨_, rfl, h', bb, (fun h => absurd h (by decide))⟩
  · intro a' w' hF' hb hd
    exact if_does (wanted_free rfl) (Does.vals (r_move (hF'.at 11 rfl)) ⟨rfl, Below.refl _ _, (fun h => absurd h (by decide))⟩)
  · intro a' w' hF' hb hd
    have e15 : a'.tmps.getD 15 undef = .int .i64 n := hd _ 15 (Array.mem_of_getElem? (i := 0) rfl) rfl rfl
    refine if_does (wanted_free rfl) (Does.calls (r_call Tryd.func26 en26.1 en26.2 (map1 e15)) (rWhole_any (n) _ b1 b2) ?_)
    rintro e w'' ⟨v', rfl, h', bb⟩
    exact ⟨_, rfl, h', bb, (fun h => absurd h (by decide))⟩
  · intro a' w' hF' hb hd
    obtain ⟨v14_0, e14, h14_1⟩ : ∃ v, a'.tmps.getD 14 undef = v ∧ Rq w' v (((360 : Int) : Rat)) := ⟨_, rfl, hd _ 14 (Array.mem_of_getElem? (i := 0) rfl) rfl rfl⟩
    obtain ⟨v16_0, e16, h16_1⟩ : ∃ v, a'.tmps.getD 16 undef = v ∧ Rq w' v (((n : Int) : Rat)) := ⟨_, rfl, hd _ 16 (Array.mem_of_getElem? (i := 1) rfl) rfl rfl⟩
    refine if_does (wanted_free rfl) (Does.calls (r_call Tryd.func27 en27.1 en27.2 (map2 e14 e16)) (rMul_any _ _ (((360 : Int) : Rat)) (((n : Int) : Rat)) 2 _ h14_1 h16_1 ((rlim_int (limz_64 (by decide) (by decide)) (by omega)).up _ (by omega)) ((rlim_int (limz_64 b1 b2) (by omega)).up _ (by omega)) (by omega)) ?_)
    rintro e w'' ⟨v', rfl, h', bb⟩
    exact ⟨_, rfl, h', bb, (fun h => absurd h (by decide))⟩
  · intro a' w' hF' hb hd
    have e13 : a'.tmps.getD 13 undef = .agg #[.bool b6, .slice ad6 n6 c6, .slice ae6 m6 d6] := hd _ 13 (Array.mem_of_getElem? (i := 0) rfl) rfl rfl
    obtain ⟨v17_0, e17, h17_1⟩ : ∃ v, a'.tmps.getD 17 undef = v ∧ Rq w' v ((((360 : Int) : Rat)) * (((n : Int) : Rat))) := ⟨_, rfl, hd _ 17 (Array.mem_of_getElem? (i := 1) rfl) rfl rfl⟩
    refine if_does (wanted_free rfl) (Does.calls (r_call Tryd.func25 en25.1 en25.2 (map2 e13 e17)) (rAdd_any _ _ (((rawZ nega1 xa1 4 : Int) : Rat) / ((rawZ negb1 xb1 4 : Int) : Rat)) ((((360 : Int) : Rat)) * (((n : Int) : Rat))) (max 4 (2 + 2)) _ (hh5.below hb) h17_1 ((own5_lim nega1 negb1 oka1 okb1 4 (by decide)).up _ (by omega)) ((rlim_mul (rlim_int (limz_64 (by decide) (by decide)) (by omega)) (rlim_int (limz_64 b1 b2) (by omega))).up _ (by omega)) (by omega)) ?_)
    rintro e w'' ⟨v', rfl, h', bb⟩
    exact ⟨_, rfl, h', bb, (fun h => absurd h (by decide))⟩
  · intro a' w' hF' hb hd
    obtain ⟨v18_0, e18, h18_1⟩ : ∃ v, a'.tmps.getD 18 undef = v ∧ Rq w' v ((((rawZ nega1 xa1 4 : Int) : Rat) / ((rawZ negb1 xb1 4 : Int) : Rat)) + ((((360 : Int) : Rat)) * (((n : Int) : Rat)))) := ⟨_, rfl, hd _ 18 (Array.mem_of_getElem? (i := 0) rfl) rfl rfl⟩
    refine if_does (wanted_free rfl) (Does.calls (r_call Tryd.func24 en24.1 en24.2 (map1 e18)) (sof_any _ ((((rawZ nega1 xa1 4 : Int) : Rat) / ((rawZ negb1 xb1 4 : Int) : Rat)) + ((((360 : Int) : Rat)) * (((n : Int) : Rat)))) (4 + (2 + 2) + 1) _ (hT.below (below_to bel hb)) h18_1 (rlim_add (own5_lim nega1 negb1 oka1 okb1 4 (by decide)) (rlim_mul (rlim_int (limz_64 (by decide) (by decide)) (by omega)) (rlim_int (limz_64 b1 b2) (by omega)))) (by omega)) ?_)
    rintro e w'' ⟨v', rfl, h', bb⟩
    exact ⟨_, rfl, h', bb, (fun h => absurd h (by decide))⟩
  · intro a' w' hF' hb hd
    exact if_does (wanted_free rfl) (Does.vals (r_load (hF'.at 0 rfl) (ld_Rat (vs := [.bool b13, .slice ad13 n13 c13, .slice ae13 m13 d13]) (o6.below hb) rfl rfl)) ⟨rfl, Below.refl _ _, (fun h => absurd h (by decide))⟩)
  · intro a' w' hF' hb hd
    obtain ⟨v19_0, e19, h19_1⟩ : ∃ v, a'.tmps.getD 19 undef = v ∧ Rq w' v (sof ((((rawZ nega1 xa1 4 : Int) : Rat) / ((rawZ negb1 xb1 4 : Int) : Rat)) + ((((360 : Int) : Rat)) * (((n : Int) : Rat))))) := ⟨_, rfl, hd _ 19 (Array.mem_of_getElem? (i := 0) rfl) rfl rfl⟩
    have e20 : a'.tmps.getD 20 undef = .agg #[.bool b13, .slice ad13 n13 c13, .slice ae13 m13 d13] := hd _ 20 (Array.mem_of_getElem? (i := 1) rfl) rfl rfl
    refine if_does (wanted_free rfl) (Does.calls (r_call Tryd.func28 en28.1 en28.2 (map2 e19 e20)) (rSame_true _ _ (sof ((((rawZ nega1 xa1 4 : Int) : Rat) / ((rawZ negb1 xb1 4 : Int) : Rat)) + ((((360 : Int) : Rat)) * (((n : Int) : Rat))))) (sof (((rawZ nega1 xa1 4 : Int) : Rat) / ((rawZ negb1 xb1 4 : Int) : Rat))) _ h19_1 (hh12.below hb) (sof_turn _ _)) ?_)
    rintro e w'' ⟨rfl, bb⟩
    exact ⟨_, rfl, rfl, bb, (fun h => absurd h (by decide))⟩
  · intro a' w' hF' hb hd
    have e21 : a'.tmps.getD 21 undef = .bool true := hd _ 21 (Array.mem_of_getElem? (i := 0) rfl) rfl rfl
    exact if_does (wanted_free rfl) (Does.vals (r_move e21) ⟨rfl, Below.refl _ _, (fun h => absurd h (by decide))⟩)
  · intro a' w' hF' hb hd
    have e22 : a'.tmps.getD 22 undef = .bool true := hd _ 22 (Array.mem_of_getElem? (i := 0) rfl) rfl rfl
    exact if_does (wanted_by rfl rfl e22 rfl) (Does.vals (r_load (hF'.at 3 rfl) (ld_Rat (vs := [.bool b6, .slice ad6 n6 c6, .slice ae6 m6 d6]) (o5.below hb) rfl rfl)) ⟨rfl, Below.refl _ _, (fun h => absurd h (by decide))⟩)
  · intro a' w' hF' hb hd
    have e22 : a'.tmps.getD 22 undef = .bool true := hd _ 22 (Array.mem_of_getElem? (i := 1) rfl) rfl rfl
    have e23 : a'.tmps.getD 23 undef = .agg #[.bool b6, .slice ad6 n6 c6, .slice ae6 m6 d6] := hd _ 23 (Array.mem_of_getElem? (i := 0) rfl) rfl rfl
    refine if_does (wanted_by rfl rfl e22 rfl) (Does.calls (r_call Tryd.func29 en29.1 en29.2 (map1 e23)) (rOpp_any _ (((rawZ nega1 xa1 4 : Int) : Rat) / ((rawZ negb1 xb1 4 : Int) : Rat)) _ (hh5.below hb)) ?_)
    rintro e w'' ⟨v', rfl, h', bb⟩
    exact ⟨_, rfl, h', bb, (fun h => absurd h (by decide))⟩
  · intro a' w' hF' hb hd
    have e22 : a'.tmps.getD 22 undef = .bool true := hd _ 22 (Array.mem_of_getElem? (i := 2) rfl) rfl rfl
    obtain ⟨v24_0, e24, h24_1⟩ : ∃ v, a'.tmps.getD 24 undef = v ∧ Rq w' v (-(((rawZ nega1 xa1 4 : Int) : Rat) / ((rawZ negb1 xb1 4 : Int) : Rat))) := ⟨_, rfl, hd _ 24 (Array.mem_of_getElem? (i := 0) rfl) rfl rfl⟩
    refine if_does (wanted_by rfl rfl e22 rfl) (Does.calls (r_call Tryd.func24 en24.1 en24.2 (map1 e24)) (sof_any _ (-(((rawZ nega1 xa1 4 : Int) : Rat) / ((rawZ negb1 xb1 4 : Int) : Rat))) 4 _ (hT.below (below_to bel hb)) h24_1 (rlim_neg (own5_lim nega1 negb1 oka1 okb1 4 (by decide))) (by omega)) ?_)
    rintro e w'' ⟨v', rfl, h', bb⟩
    exact ⟨_, rfl, h', bb, (fun h => absurd h (by decide))⟩
  · intro a' w' hF' hb hd
    have e22 : a'.tmps.getD 22 undef = .bool true := hd _ 22 (Array.mem_of_getElem? (i := 0) rfl) rfl rfl
    exact if_does (wanted_by rfl rfl e22 rfl) (Does.vals (r_load (hF'.at 0 rfl) (ld_Rat (vs := [.bool b13, .slice ad13 n13 c13, .slice ae13 m13 d13]) (o6.below hb) rfl rfl)) ⟨rfl, Below.refl _ _, (fun h => absurd h (by decide))⟩)
  · intro a' w' hF' hb hd
    have e22 : a'.tmps.getD 22 undef = .bool true := hd _ 22 (Array.mem_of_getElem? (i := 2) rfl) rfl rfl
    have e26 : a'.tmps.getD 26 undef = .agg #[.bool b13, .slice ad13 n13 c13, .slice ae13 m13 d13] := hd _ 26 (Array.mem_of_getElem? (i := 0) rfl) rfl rfl
    refine if_does (wanted_by rfl rfl e22 rfl) (Does.calls (r_call Tryd.func29 en29.1 en29.2 (map1 e26)) (rOpp_any _ (sof (((rawZ nega1 xa1 4 : Int) : Rat) / ((rawZ negb1 xb1 4 : Int) : Rat))) _ (hh12.below hb)) ?_)
    rintro e w'' ⟨v', rfl, h', bb⟩
    exact ⟨_, rfl, h', bb, (fun h => absurd h (by decide))⟩
  · intro a' w' hF' hb hd
    have e22 : a'.tmps.getD 22 undef = .bool true := hd _ 22 (Array.mem_of_getElem? (i := 3) rfl) rfl rfl
    obtain ⟨v25_0, e25, h25_1⟩ : ∃ v, a'.tmps.getD 25 undef = v ∧ Rq w' v (sof (-(((rawZ nega1 xa1 4 : Int) : Rat) / ((rawZ negb1 xb1 4 : Int) : Rat)))) := ⟨_, rfl, hd _ 25 (Array.mem_of_getElem? (i := 0) rfl) rfl rfl⟩
    obtain ⟨v27_0, e27, h27_1⟩ : ∃ v, a'.tmps.getD 27 undef = v ∧ Rq w' v (-(sof (((rawZ nega1 xa1 4 : Int) : Rat) / ((rawZ negb1 xb1 4 : Int) : Rat)))) := ⟨_, rfl, hd _ 27 (Array.mem_of_getElem? (i := 1) rfl) rfl rfl⟩
    refine if_does (wanted_by rfl rfl e22 rfl) (Does.calls (r_call Tryd.func28 en28.1 en28.2 (map2 e25 e27)) (rSame_true _ _ (sof (-(((rawZ nega1 xa1 4 : Int) : Rat) / ((rawZ negb1 xb1 4 : Int) : Rat)))) (-(sof (((rawZ nega1 xa1 4 : Int) : Rat) / ((rawZ negb1 xb1 4 : Int) : Rat)))) _ h25_1 h27_1 (sof_neg _)) ?_)
    rintro e w'' ⟨rfl, bb⟩
    exact ⟨_, rfl, rfl, bb, (fun h => absurd h (by decide))⟩
  · intro a' w' hF' hb hd
    have e22 : a'.tmps.getD 22 undef = .bool true := hd _ 22 (Array.mem_of_getElem? (i := 0) rfl) rfl rfl
    have e28 : a'.tmps.getD 28 undef = .bool true := hd _ 28 (Array.mem_of_getElem? (i := 1) rfl) rfl rfl
    exact if_does (wanted_free rfl) (Does.vals (r_pick_t e22 e28) ⟨rfl, Below.refl _ _, (fun h => absurd h (by decide))⟩)
  · intro a' w' hF' hb hd
    have e29 : a'.tmps.getD 29 undef = .bool true := hd _ 29 (Array.mem_of_getElem? (i := 0) rfl) rfl rfl
    exact if_does (wanted_free rfl) (Does.vals (r_move e29) ⟨rfl, Below.refl _ _, (fun h => absurd h (by decide))⟩)
  · intro a' w' hF' hb hd
    have e30 : a'.tmps.getD 30 undef = .bool true := hd _ 30 (Array.mem_of_getElem? (i := 0) rfl) rfl rfl
    refine if_does (wanted_by rfl rfl e30 rfl) (Does.calls (r_call Tryd.func26 en26.1 en26.2 (map1 ev_c)) (rWhole_any (180) _ (by decide) (by decide)) ?_)
    rintro e w'' ⟨v', rfl, h', bb⟩
    exact ⟨_, rfl, h', bb, (fun h => absurd h (by decide))⟩
  · intro a' w' hF' hb hd
    have e30 : a'.tmps.getD 30 undef = .bool true := hd _ 30 (Array.mem_of_getElem? (i := 0) rfl) rfl rfl
    exact if_does (wanted_by rfl rfl e30 rfl) (Does.vals (r_load (hF'.at 3 rfl) (ld_Rat (vs := [.bool b6, .slice ad6 n6 c6, .slice ae6 m6 d6]) (o5.below hb) rfl rfl)) ⟨rfl, Below.refl _ _, (fun h => absurd h (by decide))⟩)
  · intro a' w' hF' hb hd
    have e30 : a'.tmps.getD 30 undef = .bool true := hd _ 30 (Array.mem_of_getElem? (i := 3) rfl) rfl rfl
    obtain ⟨v31_0, e31, h31_1⟩ : ∃ v, a'.tmps.getD 31 undef = v ∧ Rq w' v (((180 : Int) : Rat)) := ⟨_, rfl, hd _ 31 (Array.mem_of_getElem? (i := 0) rfl) rfl rfl⟩
    have e32 : a'.tmps.getD 32 undef = .agg #[.bool b6, .slice ad6 n6 c6, .slice ae6 m6 d6] := hd _ 32 (Array.mem_of_getElem? (i := 1) rfl) rfl rfl
    refine if_does (wanted_by rfl rfl e30 rfl) (Does.calls (r_call Tryd.func30 en30.1 en30.2 (map2 e31 e32)) (rSub_any _ _ (((180 : Int) : Rat)) (((rawZ nega1 xa1 4 : Int) : Rat) / ((rawZ negb1 xb1 4 : Int) : Rat)) (max 2 4) _ h31_1 (hh5.below hb) ((rlim_int (limz_64 (by decide) (by decide)) (by omega)).up _ (by omega)) ((own5_lim nega1 negb1 oka1 okb1 4 (by decide)).up _ (by omega)) (by omega)) ?_)
    rintro e w'' ⟨v', rfl, h', bb⟩
    exact ⟨_, rfl, h', bb, (fun h => absurd h (by decide))⟩
  · intro a' w' hF' hb hd
    have e30 : a'.tmps.getD 30 undef = .bool true := hd _ 30 (Array.mem_of_getElem? (i := 2) rfl) rfl rfl
    obtain ⟨v33_0, e33, h33_1⟩ : ∃ v, a'.tmps.getD 33 undef = v ∧ Rq w' v ((((180 : Int) : Rat)) - (((rawZ nega1 xa1 4 : Int) : Rat) / ((rawZ negb1 xb1 4 : Int) : Rat))) := ⟨_, rfl, hd _ 33 (Array.mem_of_getElem? (i := 0) rfl) rfl rfl⟩
    refine if_does (wanted_by rfl rfl e30 rfl) (Does.calls (r_call Tryd.func24 en24.1 en24.2 (map1 e33)) (sof_any _ ((((180 : Int) : Rat)) - (((rawZ nega1 xa1 4 : Int) : Rat) / ((rawZ negb1 xb1 4 : Int) : Rat))) (2 + 4 + 1) _ (hT.below (below_to bel hb)) h33_1 (rlim_sub (rlim_int (limz_64 (by decide) (by decide)) (by omega)) (own5_lim nega1 negb1 oka1 okb1 4 (by decide))) (by omega)) ?_)
    rintro e w'' ⟨v', rfl, h', bb⟩
    exact ⟨_, rfl, h', bb, (fun h => absurd h (by decide))⟩
  · intro a' w' hF' hb hd
    have e30 : a'.tmps.getD 30 undef = .bool true := hd _ 30 (Array.mem_of_getElem? (i := 0) rfl) rfl rfl
    exact if_does (wanted_by rfl rfl e30 rfl) (Does.vals (r_load (hF'.at 0 rfl) (ld_Rat (vs := [.bool b13, .slice ad13 n13 c13, .slice ae13 m13 d13]) (o6.below hb) rfl rfl)) ⟨rfl, Below.refl _ _, (fun h => absurd h (by decide))⟩)
  · intro a' w' hF' hb hd
    have e30 : a'.tmps.getD 30 undef = .bool true := hd _ 30 (Array.mem_of_getElem? (i := 3) rfl) rfl rfl
    obtain ⟨v34_0, e34, h34_1⟩ : ∃ v, a'.tmps.getD 34 undef = v ∧ Rq w' v (sof ((((180 : Int) : Rat)) - (((rawZ nega1 xa1 4 : Int) : Rat) / ((rawZ negb1 xb1 4 : Int) : Rat)))) := ⟨_, rfl, hd _ 34 (Array.mem_of_getElem? (i := 0) rfl) rfl rfl⟩
    have e35 : a'.tmps.getD 35 undef = .agg #[.bool b13, .slice ad13 n13 c13, .slice ae13 m13 d13] := hd _ 35 (Array.mem_of_getElem? (i := 1) rfl) rfl rfl
    refine if_does (wanted_by rfl rfl e30 rfl) (Does.calls (r_call Tryd.func28 en28.1 en28.2 (map2 e34 e35)) (rSame_true _ _ (sof ((((180 : Int) : Rat)) - (((rawZ nega1 xa1 4 : Int) : Rat) / ((rawZ negb1 xb1 4 : Int) : Rat)))) (sof (((rawZ nega1 xa1 4 : Int) : Rat) / ((rawZ negb1 xb1 4 : Int) : Rat))) _ h34_1 (hh12.below hb) (sof_half _)) ?_)
    rintro e w'' ⟨rfl, bb⟩
    exact ⟨_, rfl, rfl, bb, (fun h => absurd h (by decide))⟩
  · intro a' w' hF' hb hd
    have e30 : a'.tmps.getD 30 undef = .bool true := hd _ 30 (Array.mem_of_getElem? (i := 0) rfl) rfl rfl
    have e36 : a'.tmps.getD 36 undef = .bool true := hd _ 36 (Array.mem_of_getElem? (i := 1) rfl) rfl rfl
    exact if_does (wanted_free rfl) (Does.vals (r_pick_t e30 e36) ⟨rfl, Below.refl _ _, (fun h => absurd h (by decide))⟩)
  intro a w17 hF bb hall hne
  have e37 : a.tmps.getD 37 undef = .bool true := hall 24 37 rfl
  clear hall hne
  replace bel := below_to bel bb
  clear bb
  replace hF := hF.add e37
  clear e37
  refine E.opset (L' := [(4, .bool true), (37, .bool true), (6, .pointer (some ⟨g6, 0, none⟩)), (12, .agg #[.bool b13, .slice ad13 n13 c13, .slice ae13 m13 d13]), (11, .agg #[.bool b6, .slice ad6 n6 c6, .slice ae6 m6 d6]), (5, .pointer (some ⟨g5, 0, none⟩)), (10, .agg #[.bool b6, .slice ad6 n6 c6, .slice ae6 m6 d6]), (9, .agg #[.bool nega1, .slice aa1 na1 ca1, .bool negb1, .slice ab1 nb1 cb1]), (8, .bool false), (7, .bool true), (2, .pointer (some ⟨g2, 0, none⟩)), (0, .agg #[.bool nega1, .slice aa1 na1 ca1, .bool negb1, .slice ab1 nb1 cb1]), (1, .int .i64 n)]) hF (r_assign (hF.at 0 rfl)) rfl rfl rfl rfl fun a hF => ?_
  refine E.nil ?_
  refine wp_ret ?_
  refine bodyPost_ret (res_tmp Tryd.results7 (hF.at 0 rfl)) hF.dfr ?_
  exact ⟨rfl, bel⟩

set_option maxHeartbeats 8000000 in
theorem sineBack_walk (nega1 : Bool) (aa1 : Option Addr) (na1 ca1 : Nat) (xa1 : List Nat) (negb1 : Bool) (ab1 : Option Addr) (nb1 cb1 : Nat) (xb1 : List Nat) (w : World) (hT : TabD w) (ia1 : InX w aa1 na1 ca1 xa1) (ib1 : InX w ab1 nb1 cb1 xb1) :
    Calls Tryd.prog 8 #[.agg #[.bool nega1, .slice aa1 na1 ca1, .bool negb1, .slice ab1 nb1 cb1]] w (ValPost w (.bool true)) := by
  have oka1 := ia1.ok
  have okb1 := ib1.ok
  have bel : Below w.heap.size w w := Below.refl _ _
  refine E.enter (nt := 36) (L := [(0, .agg #[.bool nega1, .slice aa1 na1 ca1, .bool negb1, .slice ab1 nb1 cb1])]) Tryd.func8 rfl rfl rfl (args_cons (i := 0) rfl args_nil) ?_
  intro a hF
  refine wp_seq ?_
  refine E.seq ?_
  obtain ⟨g1, w1, ge1, hr, bb, o1⟩ := own_box (P := Tryd.prog) (w := w) (cs := [.bool nega1, .slice aa1 na1 ca1, .bool negb1, .slice ab1 nb1 cb1]) (v := .agg #[.bool nega1, .slice aa1 na1 ca1, .bool negb1, .slice ab1 nb1 cb1]) 37 rfl (niB (niS (niB (niS ni0))))
  replace ge1 : w.heap.size ≤ g1 := by rw [← ge1]; exact bel.size
  refine E.opv hF (r_box (hF.at 0 rfl) hr) rfl rfl rfl rfl fun a hF => ?_
  clear hr
  replace ia1 := ia1.below bb
  replace ib1 := ib1.below bb
  replace bel := below_to bel bb
  clear bb
  refine E.opv hF (r_assign ev_c) rfl rfl rfl rfl fun a hF => ?_
  refine E.nil ?_
  refine wp_seq ?_
  refine wp_seq ?_
  refine E.seq ?_
  refine E.call hF (r_call Tryd.func22 en22.1 en22.2 map0) (awake10_any _ (hT.below bel)) rfl rfl rfl rfl ?_
  rintro e w2 ⟨rfl, bb⟩
  refine ⟨_, rfl, ?_⟩
  intro a hF
  replace ia1 := ia1.below bb
  replace ib1 := ib1.below bb
  replace o1 := o1.below bb
  replace bel := below_to bel bb
  clear bb
  refine E.opv hF (r_un (hF.at 0 rfl) (bn_not _ false rfl)) rfl rfl rfl rfl fun a hF => ?_
  refine E.nil ?_
  refine wp_cond_false (hF.at 0 rfl) ?_
  refine wp_skip ?_
  refine E.norm ?_
  refine wp_seq ?_
  refine E.seq ?_
  refine E.opv hF (r_load (hF.at 3 rfl) (ld_Raw5 (vs := [.bool nega1, .slice aa1 na1 ca1, .bool negb1, .slice ab1 nb1 cb1]) o1 rfl rfl)) rfl rfl rfl rfl fun a hF => ?_
  refine E.call hF (r_call Tryd.func23 en23.1 en23.2 (map2 (hF.at 0 rfl) ev_c)) (Own5_any nega1 aa1 na1 ca1 xa1 negb1 ab1 nb1 cb1 xb1 4 _ ia1 ib1 (by omega)) rfl rfl rfl rfl ?_
  rintro e w3 ⟨vv4, rfl, hh5, bb⟩
  refine ⟨_, rfl, ?_⟩
  intro a hF
  replace bel := below_to bel bb
  clear bb
  obtain ⟨b6, ad6, n6, c6, ae6, m6, d6, rfl, hn6, hd6⟩ := Rq.shape hh5
  have hf7 := Wc.abs hn6
  obtain ⟨g3, w8, ge3, hr, bb, o3⟩ := own_alloc (P := Tryd.prog) (w := w3) (cs := [.bool false, .slice none 0 0, .slice none 0 0]) 42 ze_Rat rfl (niB (niS (niS ni0)))
  replace ge3 : w.heap.size ≤ g3 := by rw [← ge3]; exact bel.size
  refine E.opv hF (r_alloc hr) rfl rfl rfl rfl fun a hF => ?_
  clear hr
  replace hh5 := hh5.below bb
  replace hn6 := hn6.below bb
  replace hf7 := hf7.below bb
  replace hd6 := hd6.below bb
  replace bel := below_to bel bb
  clear bb
  obtain ⟨w9, hr, tu, on⟩ := st_Rat (vs := [.bool b6, .slice ad6 n6 c6, .slice ae6 m6 d6]) o3 rfl rfl (ocB (ocS (ocS oc0))) (niB (niS (niS ni0))) (o := 0) rfl
  have kp := tu.keep o3
  refine E.st hF (r_store (hF.at 0 rfl) (hF.at 1 rfl) (hr _ rfl)) rfl rfl fun a hF => ?_
  clear hr
  replace hh5 := hh5.keep kp
  replace hn6 := hn6.keep kp
  replace hf7 := hf7.keep kp
  replace hd6 := hd6.keep kp
  replace bel := tu.below bel ge3
  clear tu kp
  replace o3 := on
  clear on
  refine E.nil ?_
  refine wp_seq ?_
  refine E.drawn 5 mixed hF [10, 11, 12, 13, 4] [(fun _ v => v = .agg #[.bool b6, .slice ad6 n6 c6, .slice ae6 m6 d6]), (fun w v => Rq w v ((((-1) : Int) : Rat))), (fun w v => Rq w v (((1 : Int) : Rat))), (fun w v => Rq w v (rinto (((rawZ nega1 xa1 4 : Int) : Rat) / ((rawZ negb1 xb1 4 : Int) : Rat)) ((((-1) : Int) : Rat)) (((1 : Int) : Rat)))), (fun w v => ∃ g, v = .pointer (some ⟨g, 0, none⟩) ∧ w9.heap.size ≤ g ∧ Own w g [.bool false, .slice none 0 0, .slice none 0 0])] [4] (by decide +kernel) (by decide +kernel) rfl rfl rfl ⟨(Mb.eq _), (fun _ _ _ h hb => h.below hb), (fun _ _ _ h hb => h.below hb), (fun _ _ _ h hb => h.below hb), (fun _ _ _ ⟨g, e, l, o⟩ hb => ⟨g, e, l, o.below hb⟩), trivial⟩ ⟨fun _ _ ⟨g, e, _, o⟩ => ⟨g, e, o.lt⟩, trivial⟩ ⟨?_, ?_, ?_, ?_, ?_, trivial⟩ ?_
  · intro a' w' hF' hb hd
    exact if_does (wanted_free rfl) (Does.vals (r_load (hF'.at 0 rfl) (ld_Rat (vs := [.bool b6, .slice ad6 n6 c6, .slice ae6 m6 d6]) (o3.below hb) rfl rfl)) ⟨rfl, Below.refl _ _, (fun h => absurd h (by decide))⟩)
  · intro a' w' hF' hb hd
    refine if_does (wanted_free rfl) (Does.calls (r_call Tryd.func26 en26.1 en26.2 (map1 ev_c)) (rWhole_any ((-1)) _ (by decide) (by decide)) ?_)
    rintro e w'' ⟨v', rfl, h', bb⟩
    exact ⟨_, rfl, h', bb, (fun h => absurd h (by decide))⟩
  · intro a' w' hF' hb hd
    refine if_does (wanted_free rfl) (Does.calls (r_call Tryd.func26 en26.1 en26.2 (map1 ev_c)) (rWhole_any (1) _ (by decide) (by decide)) ?_)
    rintro e w'' ⟨v', rfl, h', bb⟩
    exact ⟨_, rfl, h', bb, (fun h => absurd h (by decide))⟩
  · intro a' w' hF' hb hd
    have e10 : a'.tmps.getD 10 undef = .agg #[.bool b6, .slice ad6 n6 c6, .slice ae6 m6 d6] := hd _ 10 (Array.mem_of_getElem? (i := 0) rfl) rfl rfl
    obtain ⟨v11_0, e11, h11_1⟩ : ∃ v, a'.tmps.getD 11 undef = v ∧ Rq w' v ((((-1) : Int) : Rat)) := ⟨_, rfl, hd _ 11 (Array.mem_of_getElem? (i := 1) rfl) rfl rfl⟩
    obtain ⟨v12_0, e12, h12_1⟩ : ∃ v, a'.tmps.getD 12 undef = v ∧ Rq w' v (((1 : Int) : Rat)) := ⟨_, rfl, hd _ 12 (Array.mem_of_getElem? (i := 2) rfl) rfl rfl⟩
    refine if_does (wanted_free rfl) (Does.calls (r_call Tryd.func31 en31.1 en31.2 (map3 e10 e11 e12)) (cInto_any _ _ _ (((rawZ nega1 xa1 4 : Int) : Rat) / ((rawZ negb1 xb1 4 : Int) : Rat)) ((((-1) : Int) : Rat)) (((1 : Int) : Rat)) 4 2 2 _ (hh5.below hb) h11_1 h12_1 (own5_lim nega1 negb1 oka1 okb1 4 (by decide)) (rlim_int (limz_64 (by decide) (by decide)) (by omega)) (rlim_int (limz_64 (by decide) (by decide)) (by omega)) (by omega) (by omega) (by omega)) ?_)
    rintro e w'' ⟨v', rfl, h', bb⟩
    exact ⟨_, rfl, h', bb, (fun h => absurd h (by decide))⟩
  · intro a' w' hF' hb hd
    obtain ⟨g, w2, ge, hr, bb, on⟩ := own_alloc (P := Tryd.prog) (w := w') (cs := [.bool false, .slice none 0 0, .slice none 0 0]) 42 ze_Rat rfl (niB (niS (niS ni0)))
    subst ge
    exact if_does (wanted_free rfl) (Does.vals (r_alloc hr) ⟨⟨_, rfl, hb.size, on⟩, bb, fun _ => rfl⟩)
  intro a w10 hF bb hall hne
  obtain ⟨vv11, e13, hh12⟩ : ∃ v, a.tmps.getD 13 undef = v ∧ Rq w10 v (rinto (((rawZ nega1 xa1 4 : Int) : Rat) / ((rawZ negb1 xb1 4 : Int) : Rat)) ((((-1) : Int) : Rat)) (((1 : Int) : Rat))) := ⟨_, rfl, hall 3 13 rfl⟩
  obtain ⟨g4, e4, ge4, o4⟩ : ∃ g, a.tmps.getD 4 undef = .pointer (some ⟨g, 0, none⟩) ∧ w9.heap.size ≤ g ∧ Own w10 g [.bool false, .slice none 0 0, .slice none 0 0] := hall 4 4 rfl
  have ne3_4 : g3 ≠ g4 := Nat.ne_of_lt (Nat.lt_of_lt_of_le o3.lt ge4)
  replace ge4 : w.heap.size ≤ g4 := Nat.le_trans bel.size ge4
  clear hall hne
  replace hf7 := hf7.below bb
  replace hd6 := hd6.below bb
  replace hh5 := hh5.below bb
  replace hn6 := hn6.below bb
  replace o3 := o3.below bb
  replace bel := below_to bel bb
  clear bb
  obtain ⟨b13, ad13, n13, c13, ae13, m13, d13, rfl, hn13, hd13⟩ := Rq.shape hh12
  have hf14 := Wc.abs hn13
  replace hF := hF.add e13
  clear e13
  replace hF := hF.add e4
  clear e4
  obtain ⟨w15, hr, tu, on⟩ := st_Rat (vs := [.bool b13, .slice ad13 n13 c13, .slice ae13 m13 d13]) o4 rfl rfl (ocB (ocS (ocS oc0))) (niB (niS (niS ni0))) (o := 0) rfl
  have kp := tu.keep o4
  refine E.st hF (r_store (hF.at 0 rfl) (hF.at 1 rfl) (hr _ rfl)) rfl rfl fun a hF => ?_
  clear hr
  replace hf7 := hf7.keep kp
  replace hd6 := hd6.keep kp
  replace hh5 := hh5.keep kp
  replace hn6 := hn6.keep kp
  replace hh12 := hh12.keep kp
  replace hn13 := hn13.keep kp
  replace hf14 := hf14.keep kp
  replace hd13 := hd13.keep kp
  replace o3 := tu.own o3 ne3_4
  replace bel := tu.below bel ge4
  clear tu kp
  replace o4 := on
  clear on
  refine E.nil ?_
  refine wp_seq ?_
  refine E.drawn 5 mixed hF [14, 15, 16, 17, 5] [(fun _ v => v = .agg #[.bool b6, .slice ad6 n6 c6, .slice ae6 m6 d6]), (fun w v => Rq w v ((((-90) : Int) : Rat))), (fun w v => Rq w v (((90 : Int) : Rat))), (fun w v => Rq w v (rinto (((rawZ nega1 xa1 4 : Int) : Rat) / ((rawZ negb1 xb1 4 : Int) : Rat)) ((((-90) : Int) : Rat)) (((90 : Int) : Rat)))), (fun w v => ∃ g, v = .pointer (some ⟨g, 0, none⟩) ∧ w15.heap.size ≤ g ∧ Own w g [.bool false, .slice none 0 0, .slice none 0 0])] [4] (by decide +kernel) (by decide +kernel) rfl rfl rfl ⟨(Mb.eq _), (fun _ _ _ h hb => h.below hb), (fun _ _ _ h hb => h.below hb), (fun _ _ _ h hb => h.below hb), (fun _ _ _ ⟨g, e, l, o⟩ hb => ⟨g, e, l, o.below hb⟩), trivial⟩ ⟨fun _ _ ⟨g, e, _, o⟩ => ⟨g, e, o.lt⟩, trivial⟩ ⟨?_, ?_, ?_, ?_, ?_, trivial⟩ ?_
  · intro a' w' hF' hb hd
    exact if_does (wanted_free rfl) (Does.vals (r_load (hF'.at 2 rfl) (ld_Rat (vs := [.bool b6, .slice ad6 n6 c6, .slice ae6 m6 d6]) (o3.below hb) rfl rfl)) ⟨rfl, Below.refl _ _, (fun h => absurd h (by decide))⟩)
  · intro a' w' hF' hb hd
    refine if_does (wanted_free rfl) (Does.calls (r_call Tryd.func26 en26.1 en26.2 (map1 ev_c)) (rWhole_any ((-90)) _ (by decide) (by decide)) ?_)
    rintro e w'' ⟨v', rfl, h', bb⟩
    exact ⟨_, rfl, h', bb, (fun h => absurd h (by decide))⟩
  · intro a' w' hF' hb hd
    refine if_does (wanted_free rfl) (Does.calls (r_call Tryd.func26 en26.1 en26.2 (map1 ev_c)) (rWhole_any (90) _ (by decide) (by decide)) ?_)
    rintro e w'' ⟨v', rfl, h', bb⟩
    exact ⟨_, rfl, h', bb, (fun h => absurd h (by decide))⟩
  · intro a' w' hF' hb hd
    have e14 : a'.tmps.getD 14 undef = .agg #[.bool b6, .slice ad6 n6 c6, .slice ae6 m6 d6] := hd _ 14 (Array.mem_of_getElem? (i := 0) rfl) rfl rfl
    obtain ⟨v15_0, e15, h15_1⟩ : ∃ v, a'.tmps.getD 15 undef = v ∧ Rq w' v ((((-90) : Int) : Rat)) := ⟨_, rfl, hd _ 15 (Array.mem_of_getElem? (i := 1) rfl) rfl rfl⟩
    obtain ⟨v16_0, e16, h16_1⟩ : ∃ v, a'.tmps.getD 16 undef = v ∧ Rq w' v (((90 : Int) : Rat)) := ⟨_, rfl, hd _ 16 (Array.mem_of_getElem? (i := 2) rfl) rfl rfl⟩
    refine if_does (wanted_free rfl) (Does.calls (r_call Tryd.func31 en31.1 en31.2 (map3 e14 e15 e16)) (cInto_any _ _ _ (((rawZ nega1 xa1 4 : Int) : Rat) / ((rawZ negb1 xb1 4 : Int) : Rat)) ((((-90) : Int) : Rat)) (((90 : Int) : Rat)) 4 2 2 _ (hh5.below hb) h15_1 h16_1 (own5_lim nega1 negb1 oka1 okb1 4 (by decide)) (rlim_int (limz_64 (by decide) (by decide)) (by omega)) (rlim_int (limz_64 (by decide) (by decide)) (by omega)) (by omega) (by omega) (by omega)) ?_)
    rintro e w'' ⟨v', rfl, h', bb⟩
    exact ⟨_, rfl, h', bb, (fun h => absurd h (by decide))⟩
  · intro a' w' hF' hb hd
    obtain ⟨g, w2, ge, hr, bb, on⟩ := own_alloc (P := Tryd.prog) (w := w') (cs := [.bool false, .slice none 0 0, .slice none 0 0]) 42 ze_Rat rfl (niB (niS (niS ni0)))
    subst ge
    exact if_does (wanted_free rfl) (Does.vals (r_alloc hr) ⟨⟨_, rfl, hb.size, on⟩, bb, fun _ => rfl⟩)
  intro a w16 hF bb hall hne
  obtain ⟨vv17, e17, hh18⟩ : ∃ v, a.tmps.getD 17 undef = v ∧ Rq w16 v (rinto (((rawZ nega1 xa1 4 : Int) : Rat) / ((rawZ negb1 xb1 4 : Int) : Rat)) ((((-90) : Int) : Rat)) (((90 : Int) : Rat))) := ⟨_, rfl, hall 3 17 rfl⟩
  obtain ⟨g5, e5, ge5, o5⟩ : ∃ g, a.tmps.getD 5 undef = .pointer (some ⟨g, 0, none⟩) ∧ w15.heap.size ≤ g ∧ Own w16 g [.bool false, .slice none 0 0, .slice none 0 0] := hall 4 5 rfl
  have ne4_5 : g4 ≠ g5 := Nat.ne_of_lt (Nat.lt_of_lt_of_le o4.lt ge5)
  replace ge5 : w.heap.size ≤ g5 := Nat.le_trans bel.size ge5
  clear hall hne
  replace hf14 := hf14.below bb
  replace hd13 := hd13.below bb
  replace hh12 := hh12.below bb
  replace hn13 := hn13.below bb
  replace o4 := o4.below bb
  replace bel := below_to bel bb
  clear bb
  obtain ⟨b19, ad19, n19, c19, ae19, m19, d19, rfl, hn19, hd19⟩ := Rq.shape hh18
  have hf20 := Wc.abs hn19
  replace hF := hF.add e17
  clear e17
  replace hF := hF.add e5
  clear e5
  obtain ⟨w21, hr, tu, on⟩ := st_Rat (vs := [.bool b19, .slice ad19 n19 c19, .slice ae19 m19 d19]) o5 rfl rfl (ocB (ocS (ocS oc0))) (niB (niS (niS ni0))) (o := 0) rfl
  have kp := tu.keep o5
  refine E.st hF (r_store (hF.at 0 rfl) (hF.at 1 rfl) (hr _ rfl)) rfl rfl fun a hF => ?_
  clear hr
  replace hf14 := hf14.keep kp
  replace hd13 := hd13.keep kp
  replace hh12 := hh12.keep kp
  replace hn13 := hn13.keep kp
  replace hh18 := hh18.keep kp
  replace hn19 := hn19.keep kp
  replace hf20 := hf20.keep kp
  replace hd19 := hd19.keep kp
  replace o4 := tu.own o4 ne4_5
  replace bel := tu.below bel ge5
  clear tu kp
  replace o5 := on
  clear on
  refine E.nil ?_
  refine wp_seq ?_
  refine E.drawn 18 mixed hF [18, 19, 20, 21, 22, 23, 24, 25, 26, 27, 28, 29, 30, 31, 32, 33, 34, 35] [(fun _ v => v = .agg #[.bool b13, .slice ad13 n13 c13, .slice ae13 m13 d13]), (fun w v => Rq w v (arcv (rinto (((rawZ nega1 xa1 4 : Int) : Rat) / ((rawZ negb1 xb1 4 : Int) : Rat)) ((((-1) : Int) : Rat)) (((1 : Int) : Rat))))), (fun w v => Rq w v (sof (arcv (rinto (((rawZ nega1 xa1 4 : Int) : Rat) / ((rawZ negb1 xb1 4 : Int) : Rat)) ((((-1) : Int) : Rat)) (((1 : Int) : Rat)))))), (fun _ v => v = .agg #[.bool b13, .slice ad13 n13 c13, .slice ae13 m13 d13]), (fun _ v => v = .bool true), (fun _ v => v = .bool true), (fun _ v => v = .agg #[.bool b19, .slice ad19 n19 c19, .slice ae19 m19 d19]), (fun w v => Rq w v (sof (rinto (((rawZ nega1 xa1 4 : Int) : Rat) / ((rawZ negb1 xb1 4 : Int) : Rat)) ((((-90) : Int) : Rat)) (((90 : Int) : Rat))))), (fun w v => Rq w v (arcv (sof (rinto (((rawZ nega1 xa1 4 : Int) : Rat) / ((rawZ negb1 xb1 4 : Int) : Rat)) ((((-90) : Int) : Rat)) (((90 : Int) : Rat)))))), (fun _ v => v = .agg #[.bool b19, .slice ad19 n19 c19, .slice ae19 m19 d19]), (fun _ v => v = .bool true), (fun _ v => v = .bool true), (fun _ v => v = .bool true), (fun w v => Rq w v (((1 : Int) : Rat))), (fun w v => Rq w v (arcv (((1 : Int) : Rat)))), (fun w v => Rq w v (((90 : Int) : Rat))), (fun _ v => v = .bool true), (fun _ v => v = .bool true)] [] (by decide +kernel) (by decide +kernel) rfl rfl rfl ⟨(Mb.eq _), (fun _ _ _ h hb => h.below hb), (fun _ _ _ h hb => h.below hb), (Mb.eq _), (Mb.eq _), (Mb.eq _), (Mb.eq _), (fun _ _ _ h hb => h.below hb), (fun _ _ _ h hb => h.below hb), (Mb.eq _), (Mb.eq _), (Mb.eq _), (Mb.eq _), (fun _ _ _ h hb => h.below hb), (fun _ _ _ h hb => h.below hb), (fun _ _ _ h hb => h.below hb), (Mb.eq _), (Mb.eq _), trivial⟩ trivial ⟨?_, ?_, ?_, ?_, ?_, ?_, ?_, ?_, ?_, ?_, ?_, ?_, ?_, ?_, ?_, ?_, ?_, ?_, trivial⟩ ?_
  · intro a' w' hF' hb hd
    exact if_does (wanted_free rfl) (Does.vals (r_load (hF'.at 2 rfl) (ld_Rat (vs := [.bool b13, .slice ad13 n13 c13, .slice ae13 m13 d13]) (o4.below hb) rfl rfl)) ⟨rfl, Below.refl _ _, (fun h => absurd h (by decide))⟩)
  · intro a' w' hF' hb hd
    have e18 : a'.tmps.getD 18 undef = .agg #[.bool b13, .slice ad13 n13 c13, .slice ae13 m13 d13] := hd _ 18 (Array.mem_of_getElem? (i := 0) rfl) rfl rfl
    refine if_does (wanted_free rfl) (Does.calls (r_call Tryd.func32 en32.1 en32.2 (map1 e18)) (sarc_any _ (rinto (((rawZ nega1 xa1 4 : Int) : Rat) / ((rawZ negb1 xb1 4 : Int) : Rat)) ((((-1) : Int) : Rat)) (((1 : Int) : Rat))) (2 * 4 + 5 * 2 + 2 * 2 + 8) _ (hT.below (below_to bel hb)) (hh12.below hb) (rinto_lim (own5_lim nega1 negb1 oka1 okb1 4 (by decide)) (rlim_int (limz_64 (by decide) (by decide)) (by omega)) (rlim_int (limz_64 (by decide) (by decide)) (by omega))) (by omega)) ?_)
    rintro e w'' ⟨v', rfl, h', bb⟩
    exact ⟨_, rfl, h', bb, (fun h => absurd h (by decide))⟩
  · intro a' w' hF' hb hd
    obtain ⟨v19_0, e19, h19_1⟩ : ∃ v, a'.tmps.getD 19 undef = v ∧ Rq w' v (arcv (rinto (((rawZ nega1 xa1 4 : Int) : Rat) / ((rawZ negb1 xb1 4 : Int) : Rat)) ((((-1) : Int) : Rat)) (((1 : Int) : Rat)))) := ⟨_, rfl, hd _ 19 (Array.mem_of_getElem? (i := 0) rfl) rfl rfl⟩
    refine if_does (wanted_free rfl) (Does.calls (r_call Tryd.func24 en24.1 en24.2 (map1 e19)) (sof_any _ (arcv (rinto (((rawZ nega1 xa1 4 : Int) : Rat) / ((rawZ negb1 xb1 4 : Int) : Rat)) ((((-1) : Int) : Rat)) (((1 : Int) : Rat)))) ((2 * 4 + 5 * 2 + 2 * 2 + 8) + 20) _ (hT.below (below_to bel hb)) h19_1 (arcv_lim (rinto_lim (own5_lim nega1 negb1 oka1 okb1 4 (by decide)) (rlim_int (limz_64 (by decide) (by decide)) (by omega)) (rlim_int (limz_64 (by decide) (by decide)) (by omega)))) (by omega)) ?_)
    rintro e w'' ⟨v', rfl, h', bb⟩
    exact ⟨_, rfl, h', bb, (fun h => absurd h (by decide))⟩
  · intro a' w' hF' hb hd
    exact if_does (wanted_free rfl) (Does.vals (r_load (hF'.at 2 rfl) (ld_Rat (vs := [.bool b13, .slice ad13 n13 c13, .slice ae13 m13 d13]) (o4.below hb) rfl rfl)) ⟨rfl, Below.refl _ _, (fun h => absurd h (by decide))⟩)
  · intro a' w' hF' hb hd
    obtain ⟨v20_0, e20, h20_1⟩ : ∃ v, a'.tmps.getD 20 undef = v ∧ Rq w' v (sof (arcv (rinto (((rawZ nega1 xa1 4 : Int) : Rat) / ((rawZ negb1 xb1 4 : Int) : Rat)) ((((-1) : Int) : Rat)) (((1 : Int) : Rat))))) := ⟨_, rfl, hd _ 20 (Array.mem_of_getElem? (i := 0) rfl) rfl rfl⟩
    have e21 : a'.tmps.getD 21 undef = .agg #[.bool b13, .slice ad13 n13 c13, .slice ae13 m13 d13] := hd _ 21 (Array.mem_of_getElem? (i := 1) rfl) rfl rfl
    refine if_does (wanted_free rfl) (Does.calls (r_call Tryd.func28 en28.1 en28.2 (map2 e20 e21)) (rSame_true _ _ (sof (arcv (rinto (((rawZ nega1 xa1 4 : Int) : Rat) / ((rawZ negb1 xb1 4 : Int) : Rat)) ((((-1) : Int) : Rat)) (((1 : Int) : Rat))))) (rinto (((rawZ nega1 xa1 4 : Int) : Rat) / ((rawZ negb1 xb1 4 : Int) : Rat)) ((((-1) : Int) : Rat)) (((1 : Int) : Rat))) _ h20_1 (hh12.below hb) (sof_arc (into1 _).1 (le_lt (into1 _).2))) ?_)
    rintro e w'' ⟨rfl, bb⟩
    exact ⟨_, rfl, rfl, bb, (fun h => absurd h (by decide))⟩
  · intro a' w' hF' hb hd
    have e22 : a'.tmps.getD 22 undef = .bool true := hd _ 22 (Array.mem_of_getElem? (i := 0) rfl) rfl rfl
    exact if_does (wanted_free rfl) (Does.vals (r_move e22) ⟨rfl, Below.refl _ _, (fun h => absurd h (by decide))⟩)
  · intro a' w' hF' hb hd
    have e23 : a'.tmps.getD 23 undef = .bool true := hd _ 23 (Array.mem_of_getElem? (i := 0) rfl) rfl rfl
    exact if_does (wanted_by rfl rfl e23 rfl) (Does.vals (r_load (hF'.at 0 rfl) (ld_Rat (vs := [.bool b19, .slice ad19 n19 c19, .slice ae19 m19 d19]) (o5.below hb) rfl rfl)) ⟨rfl, Below.refl _ _, (fun h => absurd h (by decide))⟩)
  · intro a' w' hF' hb hd
    have e23 : a'.tmps.getD 23 undef = .bool true := hd _ 23 (Array.mem_of_getElem? (i := 1) rfl) rfl rfl
    have e24 : a'.tmps.getD 24 undef = .agg #[.bool b19, .slice ad19 n19 c19, .slice ae19 m19 d19] := hd _ 24 (Array.mem_of_getElem? (i := 0) rfl) rfl rfl
    refine if_does (wanted_by rfl rfl e23 rfl) (Does.calls (r_call Tryd.func24 en24.1 en24.2 (map1 e24)) (sof_any _ (rinto (((rawZ nega1 xa1 4 : Int) : Rat) / ((rawZ negb1 xb1 4 : Int) : Rat)) ((((-90) : Int) : Rat)) (((90 : Int) : Rat))) (2 * 4 + 5 * 2 + 2 * 2 + 8) _ (hT.below (below_to bel hb)) (hh18.below hb) (rinto_lim (own5_lim nega1 negb1 oka1 okb1 4 (by decide)) (rlim_int (limz_64 (by decide) (by decide)) (by omega)) (rlim_int (limz_64 (by decide) (by decide)) (by omega))) (by omega)) ?_)
    rintro e w'' ⟨v', rfl, h', bb⟩
    exact ⟨_, rfl, h', bb, (fun h => absurd h (by decide))⟩
  · intro a' w' hF' hb hd
    have e23 : a'.tmps.getD 23 undef = .bool true := hd _ 23 (Array.mem_of_getElem? (i := 2) rfl) rfl rfl
    obtain ⟨v25_0, e25, h25_1⟩ : ∃ v, a'.tmps.getD 25 undef = v ∧ Rq w' v (sof (rinto (((rawZ nega1 xa1 4 : Int) : Rat) / ((rawZ negb1 xb1 4 : Int) : Rat)) ((((-90) : Int) : Rat)) (((90 : Int) : Rat)))) := ⟨_, rfl, hd _ 25 (Array.mem_of_getElem? (i := 0) rfl) rfl rfl⟩
    refine if_does (wanted_by rfl rfl e23 rfl) (Does.calls (r_call Tryd.func32 en32.1 en32.2 (map1 e25)) (sarc_any _ (sof (rinto (((rawZ nega1 xa1 4 : Int) : Rat) / ((rawZ negb1 xb1 4 : Int) : Rat)) ((((-90) : Int) : Rat)) (((90 : Int) : Rat)))) (4 * (2 * 4 + 5 * 2 + 2 * 2 + 8) + 60) _ (hT.below (below_to bel hb)) h25_1 (sof_lim (rinto_lim (own5_lim nega1 negb1 oka1 okb1 4 (by decide)) (rlim_int (limz_64 (by decide) (by decide)) (by omega)) (rlim_int (limz_64 (by decide) (by decide)) (by omega)))) (by omega)) ?_)
    rintro e w'' ⟨v', rfl, h', bb⟩
    exact ⟨_, rfl, h', bb, (fun h => absurd h (by decide))⟩
  · intro a' w' hF' hb hd
    have e23 : a'.tmps.getD 23 undef = .bool true := hd _ 23 (Array.mem_of_getElem? (i := 0) rfl) rfl rfl
    exact if_does (wanted_by rfl rfl e23 rfl) (Does.vals (r_load (hF'.at 0 rfl) (ld_Rat (vs := [.bool b19, .slice ad19 n19 c19, .slice ae19 m19 d19]) (o5.below hb) rfl rfl)) ⟨rfl, Below.refl _ _, (fun h => absurd h (by decide))⟩)
  · intro a' w' hF' hb hd
    have e23 : a'.tmps.getD 23 undef = .bool true := hd _ 23 (Array.mem_of_getElem? (i := 3) rfl) rfl rfl
    obtain ⟨v26_0, e26, h26_1⟩ : ∃ v, a'.tmps.getD 26 undef = v ∧ Rq w' v (arcv (sof (rinto (((rawZ nega1 xa1 4 : Int) : Rat) / ((rawZ negb1 xb1 4 : Int) : Rat)) ((((-90) : Int) : Rat)) (((90 : Int) : Rat))))) := ⟨_, rfl, hd _ 26 (Array.mem_of_getElem? (i := 0) rfl) rfl rfl⟩
    have e27 : a'.tmps.getD 27 undef = .agg #[.bool b19, .slice ad19 n19 c19, .slice ae19 m19 d19] := hd _ 27 (Array.mem_of_getElem? (i := 1) rfl) rfl rfl
    refine if_does (wanted_by rfl rfl e23 rfl) (Does.calls (r_call Tryd.func28 en28.1 en28.2 (map2 e26 e27)) (rSame_true _ _ (arcv (sof (rinto (((rawZ nega1 xa1 4 : Int) : Rat) / ((rawZ negb1 xb1 4 : Int) : Rat)) ((((-90) : Int) : Rat)) (((90 : Int) : Rat))))) (rinto (((rawZ nega1 xa1 4 : Int) : Rat) / ((rawZ negb1 xb1 4 : Int) : Rat)) ((((-90) : Int) : Rat)) (((90 : Int) : Rat))) _ h26_1 (hh18.below hb) (arc_sof (into90 _).1 (le_lt (into90 _).2))) ?_)
    rintro e w'' ⟨rfl, bb⟩
    exact ⟨_, rfl, rfl, bb, (fun h => absurd h (by decide))⟩
  · intro a' w' hF' hb hd
    have e23 : a'.tmps.getD 23 undef = .bool true := hd _ 23 (Array.mem_of_getElem? (i := 0) rfl) rfl rfl
    have e28 : a'.tmps.getD 28 undef = .bool true := hd _ 28 (Array.mem_of_getElem? (i := 1) rfl) rfl rfl
    exact if_does (wanted_free rfl) (Does.vals (r_pick_t e23 e28) ⟨rfl, Below.refl _ _, (fun h => absurd h (by decide))⟩)
  · intro a' w' hF' hb hd
    have e29 : a'.tmps.getD 29 undef = .bool true := hd _ 29 (Array.mem_of_getElem? (i := 0) rfl) rfl rfl
    exact if_does (wanted_free rfl) (Does.vals (r_move e29) ⟨rfl, Below.refl _ _, (fun h => absurd h (by decide))⟩)
  · intro a' w' hF' hb hd
    have e30 : a'.tmps.getD 30 undef = .bool true := hd _ 30 (Array.mem_of_getElem? (i := 0) rfl) rfl rfl
    refine if_does (wanted_by rfl rfl e30 rfl) (Does.calls (r_call Tryd.func26 en26.1 en26.2 (map1 ev_c)) (rWhole_any (1) _ (by decide) (by decide)) ?_)
    rintro e w'' ⟨v', rfl, h', bb⟩
    exact ⟨_, rfl, h', bb, (fun h => absurd h (by decide))⟩
  · intro a' w' hF' hb hd
    have e30 : a'.tmps.getD 30 undef = .bool true := hd _ 30 (Array.mem_of_getElem? (i := 2) rfl) rfl rfl
    obtain ⟨v31_0, e31, h31_1⟩ : ∃ v, a'.tmps.getD 31 undef = v ∧ Rq w' v (((1 : Int) : Rat)) := ⟨_, rfl, hd _ 31 (Array.mem_of_getElem? (i := 0) rfl) rfl rfl⟩
    refine if_does (wanted_by rfl rfl e30 rfl) (Does.calls (r_call Tryd.func32 en32.1 en32.2 (map1 e31)) (sarc_any _ (((1 : Int) : Rat)) 2 _ (hT.below (below_to bel hb)) h31_1 (rlim_int (limz_64 (by decide) (by decide)) (by omega)) (by omega)) ?_)
    rintro e w'' ⟨v', rfl, h', bb⟩
    exact ⟨_, rfl, h', bb, (fun h => absurd h (by decide))⟩
  · intro a' w' hF' hb hd
    have e30 : a'.tmps.getD 30 undef = .bool true := hd _ 30 (Array.mem_of_getElem? (i := 1) rfl) rfl rfl
    refine if_does (wanted_by rfl rfl e30 rfl) (Does.calls (r_call Tryd.func26 en26.1 en26.2 (map1 ev_c)) (rWhole_any (90) _ (by decide) (by decide)) ?_)
    rintro e w'' ⟨v', rfl, h', bb⟩
    exact ⟨_, rfl, h', bb, (fun h => absurd h (by decide))⟩
  · intro a' w' hF' hb hd
    have e30 : a'.tmps.getD 30 undef = .bool true := hd _ 30 (Array.mem_of_getElem? (i := 3) rfl) rfl rfl
    obtain ⟨v32_0, e32, h32_1⟩ : ∃ v, a'.tmps.getD 32 undef = v ∧ Rq w' v (arcv (((1 : Int) : Rat))) := ⟨_, rfl, hd _ 32 (Array.mem_of_getElem? (i := 0) rfl) rfl rfl⟩
    obtain ⟨v33_0, e33, h33_1⟩ : ∃ v, a'.tmps.getD 33 undef = v ∧ Rq w' v (((90 : Int) : Rat)) := ⟨_, rfl, hd _ 33 (Array.mem_of_getElem? (i := 1) rfl) rfl rfl⟩
    refine if_does (wanted_by rfl rfl e30 rfl) (Does.calls (r_call Tryd.func28 en28.1 en28.2 (map2 e32 e33)) (rSame_true _ _ (arcv (((1 : Int) : Rat))) (((90 : Int) : Rat)) _ h32_1 h33_1 (by decide +kernel)) ?_)
    rintro e w'' ⟨rfl, bb⟩
    exact ⟨_, rfl, rfl, bb, (fun h => absurd h (by decide))⟩
  · intro a' w' hF' hb hd
    have e30 : a'.tmps.getD 30 undef = .bool true := hd _ 30 (Array.mem_of_getElem? (i := 0) rfl) rfl rfl
    have e34 : a'.tmps.getD 34 undef = .bool true := hd _ 34 (Array.mem_of_getElem? (i := 1) rfl) rfl rfl
    exact if_does (wanted_free rfl) (Does.vals (r_pick_t e30 e34) ⟨rfl, Below.refl _ _, (fun h => absurd h (by decide))⟩)
  intro a w22 hF bb hall hne
  have e35 : a.tmps.getD 35 undef = .bool true := hall 17 35 rfl
  clear hall hne
  replace bel := below_to bel bb
  clear bb
  replace hF := hF.add e35
  clear e35
  refine E.opset (L' := [(2, .bool true), (35, .bool true), (5, .pointer (some ⟨g5, 0, none⟩)), (17, .agg #[.bool b19, .slice ad19 n19 c19, .slice ae19 m19 d19]), (4, .pointer (some ⟨g4, 0, none⟩)), (13, .agg #[.bool b13, .slice ad13 n13 c13, .slice ae13 m13 d13]), (3, .pointer (some ⟨g3, 0, none⟩)), (9, .agg #[.bool b6, .slice ad6 n6 c6, .slice ae6 m6 d6]), (8, .agg #[.bool nega1, .slice aa1 na1 ca1, .bool negb1, .slice ab1 nb1 cb1]), (7, .bool false), (6, .bool true), (1, .pointer (some ⟨g1, 0, none⟩)), (0, .agg #[.bool nega1, .slice aa1 na1 ca1, .bool negb1, .slice ab1 nb1 cb1])]) hF (r_assign (hF.at 0 rfl)) rfl rfl rfl rfl fun a hF => ?_
  refine E.nil ?_
  refine wp_ret ?_
  refine bodyPost_ret (res_tmp Tryd.results8 (hF.at 0 rfl)) hF.dfr ?_
  exact ⟨rfl, bel⟩

set_option maxHeartbeats 8000000 in
theorem sineRises_walk (nega1 : Bool) (aa1 : Option Addr) (na1 ca1 : Nat) (xa1 : List Nat) (negb1 : Bool) (ab1 : Option Addr) (nb1 cb1 : Nat) (xb1 : List Nat) (nega2 : Bool) (aa2 : Option Addr) (na2 ca2 : Nat) (xa2 : List Nat) (negb2 : Bool) (ab2 : Option Addr) (nb2 cb2 : Nat) (xb2 : List Nat) (w : World) (hT : TabD w) (ia1 : InX w aa1 na1 ca1 xa1) (ib1 : InX w ab1 nb1 cb1 xb1) (ia2 : InX w aa2 na2 ca2 xa2) (ib2 : InX w ab2 nb2 cb2 xb2) :
    Calls Tryd.prog 9 #[.agg #[.bool nega1, .slice aa1 na1 ca1, .bool negb1, .slice ab1 nb1 cb1], .agg #[.bool nega2, .slice aa2 na2 ca2, .bool negb2, .slice ab2 nb2 cb2]] w (ValPost w (.bool true)) := by
  have oka1 := ia1.ok
  have okb1 := ib1.ok
  have oka2 := ia2.ok
  have okb2 := ib2.ok
  have bel : Below w.heap.size w w := Below.refl _ _
  refine E.enter (nt := 55) (L := [(0, .agg #[.bool nega1, .slice aa1 na1 ca1, .bool negb1, .slice ab1 nb1 cb1]), (1, .agg #[.bool nega2, .slice aa2 na2 ca2, .bool negb2, .slice ab2 nb2 cb2])]) Tryd.func9 rfl rfl rfl (args_cons (i := 0) rfl (args_cons (i := 1) rfl args_nil)) ?_
  intro a hF
  refine wp_seq ?_
  refine E.seq ?_
  obtain ⟨g2, w1, ge2, hr, bb, o2⟩ := own_box (P := Tryd.prog) (w := w) (cs := [.bool nega1, .slice aa1 na1 ca1, .bool negb1, .slice ab1 nb1 cb1]) (v := .agg #[.bool nega1, .slice aa1 na1 ca1, .bool negb1, .slice ab1 nb1 cb1]) 37 rfl (niB (niS (niB (niS ni0))))
  replace ge2 : w.heap.size ≤ g2 := by rw [← ge2]; exact bel.size
  refine E.opv hF (r_box (hF.at 0 rfl) hr) rfl rfl rfl rfl fun a hF => ?_
  clear hr
  replace ia2 := ia2.below bb
  replace ib2 := ib2.below bb
  replace ia1 := ia1.below bb
  replace ib1 := ib1.below bb
  replace bel := below_to bel bb
  clear bb
  obtain ⟨g3, w2, ge3, hr, bb, o3⟩ := own_box (P := Tryd.prog) (w := w1) (cs := [.bool nega2, .slice aa2 na2 ca2, .bool negb2, .slice ab2 nb2 cb2]) (v := .agg #[.bool nega2, .slice aa2 na2 ca2, .bool negb2, .slice ab2 nb2 cb2]) 37 rfl (niB (niS (niB (niS ni0))))
  have ne2_3 : g2 ≠ g3 := by rw [← ge3]; exact o2.ne_new
  replace ge3 : w.heap.size ≤ g3 := by rw [← ge3]; exact bel.size
  refine E.opv hF (r_box (hF.at 2 rfl) hr) rfl rfl rfl rfl fun a hF => ?_
  clear hr
  replace ia1 := ia1.below bb
  replace ib1 := ib1.below bb
  replace ia2 := ia2.below bb
  replace ib2 := ib2.below bb
  replace o2 := o2.below bb
  replace bel := below_to bel bb
  clear bb
  refine E.opv hF (r_assign ev_c) rfl rfl rfl rfl fun a hF => ?_
  refine E.nil ?_
  refine wp_seq ?_
  refine wp_seq ?_
  refine E.seq ?_
  refine E.call hF (r_call Tryd.func22 en22.1 en22.2 map0) (awake10_any _ (hT.below bel)) rfl rfl rfl rfl ?_
  rintro e w3 ⟨rfl, bb⟩
  refine ⟨_, rfl, ?_⟩
  intro a hF
  replace ia1 := ia1.below bb
  replace ib1 := ib1.below bb
  replace ia2 := ia2.below bb
  replace ib2 := ib2.below bb
  replace o2 := o2.below bb
  replace o3 := o3.below bb
  replace bel := below_to bel bb
  clear bb
  refine E.opv hF (r_un (hF.at 0 rfl) (bn_not _ false rfl)) rfl rfl rfl rfl fun a hF => ?_
  refine E.nil ?_
  refine wp_cond_false (hF.at 0 rfl) ?_
  refine wp_skip ?_
  refine E.norm ?_
  refine wp_seq ?_
  refine E.drawn 6 mixed hF [11, 12, 13, 14, 5, 6] [(fun _ v => v = .agg #[.bool nega1, .slice aa1 na1 ca1, .bool negb1, .slice ab1 nb1 cb1]), (fun w v => Rq w v (((rawZ nega1 xa1 4 : Int) : Rat) / ((rawZ negb1 xb1 4 : Int) : Rat))), (fun _ v => v = .agg #[.bool nega2, .slice aa2 na2 ca2, .bool negb2, .slice ab2 nb2 cb2]), (fun w v => Rq w v (((rawZ nega2 xa2 4 : Int) : Rat) / ((rawZ negb2 xb2 4 : Int) : Rat))), (fun w v => ∃ g, v = .pointer (some ⟨g, 0, none⟩) ∧ w3.heap.size ≤ g ∧ Own w g [.bool false, .slice none 0 0, .slice none 0 0]), (fun w v => ∃ g, v = .pointer (some ⟨g, 0, none⟩) ∧ w3.heap.size ≤ g ∧ Own w g [.bool false, .slice none 0 0, .slice none 0 0])] [4, 5] (by decide +kernel) (by decide +kernel) rfl rfl rfl ⟨(Mb.eq _), (fun _ _ _ h hb => h.below hb), (Mb.eq _), (fun _ _ _ h hb => h.below hb), (fun _ _ _ ⟨g, e, l, o⟩ hb => ⟨g, e, l, o.below hb⟩), (fun _ _ _ ⟨g, e, l, o⟩ hb => ⟨g, e, l, o.below hb⟩), trivial⟩ ⟨fun _ _ ⟨g, e, _, o⟩ => ⟨g, e, o.lt⟩, ⟨fun _ _ ⟨g, e, _, o⟩ => ⟨g, e, o.lt⟩, trivial⟩⟩ ⟨?_, ?_, ?_, ?_, ?_, ?_, trivial⟩ ?_
  · intro a' w' hF' hb hd
    exact if_does (wanted_free rfl) (Does.vals (r_load (hF'.at 4 rfl) (ld_Raw5 (vs := [.bool nega1, .slice aa1 na1 ca1, .bool negb1, .slice ab1 nb1 cb1]) (o2.below hb) rfl rfl)) ⟨rfl, Below.refl _ _, (fun h => absurd h (by decide))⟩)
  · intro a' w' hF' hb hd
    have e11 : a'.tmps.getD 11 undef = .agg #[.bool nega1, .slice aa1 na1 ca1, .bool negb1, .slice ab1 nb1 cb1] := hd _ 11 (Array.mem_of_getElem? (i := 0) rfl) rfl rfl
    refine if_does (wanted_free rfl) (Does.calls (r_call Tryd.func23 en23.1 en23.2 (map2 e11 ev_c)) (Own5_any nega1 aa1 na1 ca1 xa1 negb1 ab1 nb1 cb1 xb1 4 _ (ia1.below hb) (ib1.below hb) (by omega)) ?_)
    rintro e w'' ⟨v', rfl, h', bb⟩
    exact ⟨_, rfl, h', bb, (fun h => absurd h (by decide))⟩
  · intro a' w' hF' hb hd
    exact if_does (wanted_free rfl) (Does.vals (r_load (hF'.at 3 rfl) (ld_Raw5 (vs := [.bool nega2, .slice aa2 na2 ca2, .bool negb2, .slice ab2 nb2 cb2]) (o3.below hb) rfl rfl)) ⟨rfl, Below.refl _ _, (fun h => absurd h (by decide))⟩)
  · intro a' w' hF' hb hd
    have e13 : a'.tmps.getD 13 undef = .agg #[.bool nega2, .slice aa2 na2 ca2, .bool negb2, .slice ab2 nb2 cb2] := hd _ 13 (Array.mem_of_getElem? (i := 0) rfl) rfl rfl
    refine if_does (wanted_free rfl) (Does.calls (r_call Tryd.func23 en23.1 en23.2 (map2 e13 ev_c)) (Own5_any nega2 aa2 na2 ca2 xa2 negb2 ab2 nb2 cb2 xb2 4 _ (ia2.below hb) (ib2.below hb) (by omega)) ?_)
    rintro e w'' ⟨v', rfl, h', bb⟩
    exact ⟨_, rfl, h', bb, (fun h => absurd h (by decide))⟩
  · intro a' w' hF' hb hd
    obtain ⟨g, w2, ge, hr, bb, on⟩ := own_alloc (P := Tryd.prog) (w := w') (cs := [.bool false, .slice none 0 0, .slice none 0 0]) 42 ze_Rat rfl (niB (niS (niS ni0)))
    subst ge
    exact if_does (wanted_free rfl) (Does.vals (r_alloc hr) ⟨⟨_, rfl, hb.size, on⟩, bb, fun _ => rfl⟩)
  · intro a' w' hF' hb hd
    obtain ⟨g, w2, ge, hr, bb, on⟩ := own_alloc (P := Tryd.prog) (w := w') (cs := [.bool false, .slice none 0 0, .slice none 0 0]) 42 ze_Rat rfl (niB (niS (niS ni0)))
    subst ge
    exact if_does (wanted_free rfl) (Does.vals (r_alloc hr) ⟨⟨_, rfl, hb.size, on⟩, bb, fun _ => rfl⟩)
  intro a w4 hF bb hall hne
  obtain ⟨vv5, e12, hh6⟩ : ∃ v, a.tmps.getD 12 undef = v ∧ Rq w4 v (((rawZ nega1 xa1 4 : Int) : Rat) / ((rawZ negb1 xb1 4 : Int) : Rat)) := ⟨_, rfl, hall 1 12 rfl⟩
  obtain ⟨vv7, e14, hh8⟩ : ∃ v, a.tmps.getD 14 undef = v ∧ Rq w4 v (((rawZ nega2 xa2 4 : Int) : Rat) / ((rawZ negb2 xb2 4 : Int) : Rat)) := ⟨_, rfl, hall 3 14 rfl⟩
  obtain ⟨g5, e5, ge5, o5⟩ : ∃ g, a.tmps.getD 5 undef = .pointer (some ⟨g, 0, none⟩) ∧ w3.heap.size ≤ g ∧ Own w4 g [.bool false, .slice none 0 0, .slice none 0 0] := hall 4 5 rfl
  obtain ⟨g6, e6, ge6, o6⟩ : ∃ g, a.tmps.getD 6 undef = .pointer (some ⟨g, 0, none⟩) ∧ w3.heap.size ≤ g ∧ Own w4 g [.bool false, .slice none 0 0, .slice none 0 0] := hall 5 6 rfl
  have ne5_6 : g5 ≠ g6 := by intro e; exact hne 4 5 5 6 rfl rfl (by decide) rfl rfl (by rw [e5, e6, e])
  replace ge5 : w.heap.size ≤ g5 := Nat.le_trans bel.size ge5
  replace ge6 : w.heap.size ≤ g6 := Nat.le_trans bel.size ge6
  clear hall hne
  replace bel := below_to bel bb
  clear bb
  obtain ⟨b9, ad9, n9, c9, ae9, m9, d9, rfl, hn9, hd9⟩ := Rq.shape hh6
  have hf10 := Wc.abs hn9
  replace hF := hF.add e12
  clear e12
  obtain ⟨b11, ad11, n11, c11, ae11, m11, d11, rfl, hn11, hd11⟩ := Rq.shape hh8
  have hf12 := Wc.abs hn11
  replace hF := hF.add e14
  clear e14
  replace hF := hF.add e5
  clear e5
  replace hF := hF.add e6
  clear e6
  obtain ⟨w13, hr, tu, on⟩ := st_Rat (vs := [.bool b9, .slice ad9 n9 c9, .slice ae9 m9 d9]) o5 rfl rfl (ocB (ocS (ocS oc0))) (niB (niS (niS ni0))) (o := 0) rfl
  have kp := tu.keep o5
  refine E.st hF (r_store (hF.at 1 rfl) (hF.at 3 rfl) (hr _ rfl)) rfl rfl fun a hF => ?_
  clear hr
  replace hh8 := hh8.keep kp
  replace hn11 := hn11.keep kp
  replace hf12 := hf12.keep kp
  replace hd11 := hd11.keep kp
  replace hh6 := hh6.keep kp
  replace hn9 := hn9.keep kp
  replace hf10 := hf10.keep kp
  replace hd9 := hd9.keep kp
  replace o6 := tu.own o6 (Ne.symm ne5_6)
  replace bel := tu.below bel ge5
  clear tu kp
  replace o5 := on
  clear on
  obtain ⟨w14, hr, tu, on⟩ := st_Rat (vs := [.bool b11, .slice ad11 n11 c11, .slice ae11 m11 d11]) o6 rfl rfl (ocB (ocS (ocS oc0))) (niB (niS (niS ni0))) (o := 0) rfl
  have kp := tu.keep o6
  refine E.st hF (r_store (hF.at 0 rfl) (hF.at 2 rfl) (hr _ rfl)) rfl rfl fun a hF => ?_
  clear hr
  replace hf10 := hf10.keep kp
  replace hd9 := hd9.keep kp
  replace hh6 := hh6.keep kp
  replace hn9 := hn9.keep kp
  replace hh8 := hh8.keep kp
  replace hn11 := hn11.keep kp
  replace hf12 := hf12.keep kp
  replace hd11 := hd11.keep kp
  replace o5 := tu.own o5 ne5_6
  replace bel := tu.below bel ge6
  clear tu kp
  replace o6 := on
  clear on
  refine E.nil ?_
  refine wp_seq ?_
  refine E.drawn 6 mixed hF [15, 16, 17, 18, 7, 8] [(fun _ v => v = .agg #[.bool b9, .slice ad9 n9 c9, .slice ae9 m9 d9]), (fun w v => Rq w v (sof (((rawZ nega1 xa1 4 : Int) : Rat) / ((rawZ negb1 xb1 4 : Int) : Rat)))), (fun _ v => v = .agg #[.bool b11, .slice ad11 n11 c11, .slice ae11 m11 d11]), (fun w v => Rq w v (sof (((rawZ nega2 xa2 4 : Int) : Rat) / ((rawZ negb2 xb2 4 : Int) : Rat)))), (fun w v => ∃ g, v = .pointer (some ⟨g, 0, none⟩) ∧ w14.heap.size ≤ g ∧ Own w g [.bool false, .slice none 0 0, .slice none 0 0]), (fun w v => ∃ g, v = .pointer (some ⟨g, 0, none⟩) ∧ w14.heap.size ≤ g ∧ Own w g [.bool false, .slice none 0 0, .slice none 0 0])] [4, 5] (by decide +kernel) (by decide +kernel) rfl rfl rfl ⟨(Mb.eq _), (fun _ _ _ h hb => h.below hb), (Mb.eq _), (fun _ _ _ h hb => h.below hb), (fun _ _ _ ⟨g, e, l, o⟩ hb => ⟨g, e, l, o.below hb⟩), (fun _ _ _ ⟨g, e, l, o⟩ hb => ⟨g, e, l, o.below hb⟩), trivial⟩ ⟨fun _ _ ⟨g, e, _, o⟩ => ⟨g, e, o.lt⟩, ⟨fun _ _ ⟨g, e, _, o⟩ => ⟨g, e, o.lt⟩, trivial⟩⟩ ⟨?_, ?_, ?_, ?_, ?_, ?_, trivial⟩ ?_
  · intro a' w' hF' hb hd
    exact if_does (wanted_free rfl) (Does.vals (r_load (hF'.at 1 rfl) (ld_Rat (vs := [.bool b9, .slice ad9 n9 c9, .slice ae9 m9 d9]) (o5.below hb) rfl rfl)) ⟨rfl, Below.refl _ _, (fun h => absurd h (by decide))⟩)
  · intro a' w' hF' hb hd
    have e15 : a'.tmps.getD 15 undef = .agg #[.bool b9, .slice ad9 n9 c9, .slice ae9 m9 d9] := hd _ 15 (Array.mem_of_getElem? (i := 0) rfl) rfl rfl
    refine if_does (wanted_free rfl) (Does.calls (r_call Tryd.func24 en24.1 en24.2 (map1 e15)) (sof_any _ (((rawZ nega1 xa1 4 : Int) : Rat) / ((rawZ negb1 xb1 4 : Int) : Rat)) 4 _ (hT.below (below_to bel hb)) (hh6.below hb) (own5_lim nega1 negb1 oka1 okb1 4 (by decide)) (by omega)) ?_)
    rintro e w'' ⟨v', rfl, h', bb⟩
    exact ⟨_, rfl, h', bb, (fun h => absurd h (by decide))⟩
  · intro a' w' hF' hb hd
    exact if_does (wanted_free rfl) (Does.vals (r_load (hF'.at 0 rfl) (ld_Rat (vs := [.bool b11, .slice ad11 n11 c11, .slice ae11 m11 d11]) (o6.below hb) rfl rfl)) ⟨rfl, Below.refl _ _, (fun h => absurd h (by decide))⟩)
  · intro a' w' hF' hb hd
    have e17 : a'.tmps.getD 17 undef = .agg #[.bool b11, .slice ad11 n11 c11, .slice ae11 m11 d11] := hd _ 17 (Array.mem_of_getElem? (i := 0) rfl) rfl rfl
    refine if_does (wanted_free rfl) (Does.calls (r_call Tryd.func24 en24.1 en24.2 (map1 e17)) (sof_any _ (((rawZ nega2 xa2 4 : Int) : Rat) / ((rawZ negb2 xb2 4 : Int) : Rat)) 4 _ (hT.below (below_to bel hb)) (hh8.below hb) (own5_lim nega2 negb2 oka2 okb2 4 (by decide)) (by omega)) ?_)
    rintro e w'' ⟨v', rfl, h', bb⟩
    exact ⟨_, rfl, h', bb, (fun h => absurd h (by decide))⟩
  · intro a' w' hF' hb hd
    obtain ⟨g, w2, ge, hr, bb, on⟩ := own_alloc (P := Tryd.prog) (w := w') (cs := [.bool false, .slice none 0 0, .slice none 0 0]) 42 ze_Rat rfl (niB (niS (niS ni0)))
    subst ge
    exact if_does (wanted_free rfl) (Does.vals (r_alloc hr) ⟨⟨_, rfl, hb.size, on⟩, bb, fun _ => rfl⟩)
  · intro a' w' hF' hb hd
    obtain ⟨g, w2, ge, hr, bb, on⟩ := own_alloc (P := Tryd.prog) (w := w') (cs := [.bool false, .slice none 0 0, .slice none 0 0]) 42 ze_Rat rfl (niB (niS (niS ni0)))
    subst ge
    exact if_does (wanted_free rfl) (Does.vals (r_alloc hr) ⟨⟨_, rfl, hb.size, on⟩, bb, fun _ => rfl⟩)
  intro a w15 hF bb hall hne
  obtain ⟨vv16, e16, hh17⟩ : ∃ v, a.tmps.getD 16 undef = v ∧ Rq w15 v (sof (((rawZ nega1 xa1 4 : Int) : Rat) / ((rawZ negb1 xb1 4 : Int) : Rat))) := ⟨_, rfl, hall 1 16 rfl⟩
  obtain ⟨vv18, e18, hh19⟩ : ∃ v, a.tmps.getD 18 undef = v ∧ Rq w15 v (sof (((rawZ nega2 xa2 4 : Int) : Rat) / ((rawZ negb2 xb2 4 : Int) : Rat))) := ⟨_, rfl, hall 3 18 rfl⟩
  obtain ⟨g7, e7, ge7, o7⟩ : ∃ g, a.tmps.getD 7 undef = .pointer (some ⟨g, 0, none⟩) ∧ w14.heap.size ≤ g ∧ Own w15 g [.bool false, .slice none 0 0, .slice none 0 0] := hall 4 7 rfl
  have ne5_7 : g5 ≠ g7 := Nat.ne_of_lt (Nat.lt_of_lt_of_le o5.lt ge7)
  have ne6_7 : g6 ≠ g7 := Nat.ne_of_lt (Nat.lt_of_lt_of_le o6.lt ge7)
  obtain ⟨g8, e8, ge8, o8⟩ : ∃ g, a.tmps.getD 8 undef = .pointer (some ⟨g, 0, none⟩) ∧ w14.heap.size ≤ g ∧ Own w15 g [.bool false, .slice none 0 0, .slice none 0 0] := hall 5 8 rfl
  have ne5_8 : g5 ≠ g8 := Nat.ne_of_lt (Nat.lt_of_lt_of_le o5.lt ge8)
  have ne6_8 : g6 ≠ g8 := Nat.ne_of_lt (Nat.lt_of_lt_of_le o6.lt ge8)
  have ne7_8 : g7 ≠ g8 := by intro e; exact hne 4 5 7 8 rfl rfl (by decide) rfl rfl (by rw [e7, e8, e])
  replace ge7 : w.heap.size ≤ g7 := Nat.le_trans bel.size ge7
  replace ge8 : w.heap.size ≤ g8 := Nat.le_trans bel.size ge8
  clear hall hne
  replace hf10 := hf10.below bb
  replace hd9 := hd9.below bb
  replace hh6 := hh6.below bb
  replace hn9 := hn9.below bb
  replace hf12 := hf12.below bb
  replace hd11 := hd11.below bb
  replace hh8 := hh8.below bb
  replace hn11 := hn11.below bb
  replace o5 := o5.below bb
  replace o6 := o6.below bb
  replace bel := below_to bel bb
  clear bb
  obtain ⟨b20, ad20, n20, c20, ae20, m20, d20, rfl, hn20, hd20⟩ := Rq.shape hh17
  have hf21 := Wc.abs hn20
  replace hF := hF.add e16
  clear e16
  obtain ⟨b22, ad22, n22, c22, ae22, m22, d22, rfl, hn22, hd22⟩ := Rq.shape hh19
  have hf23 := Wc.abs hn22
  replace hF := hF.add e18
  clear e18
  replace hF := hF.add e7
  clear e7
  replace hF := hF.add e8
  clear e8
  obtain ⟨w24, hr, tu, on⟩ := st_Rat (vs := [.bool b20, .slice ad20 n20 c20, .slice ae20 m20 d20]) o7 rfl rfl (ocB (ocS (ocS oc0))) (niB (niS (niS ni0))) (o := 0) rfl
  have kp := tu.keep o7
  refine E.st hF (r_store (hF.at 1 rfl) (hF.at 3 rfl) (hr _ rfl)) rfl rfl fun a hF => ?_
  clear hr
  replace hh19 := hh19.keep kp
  replace hn22 := hn22.keep kp
  replace hf23 := hf23.keep kp
  replace hd22 := hd22.keep kp
  replace hf10 := hf10.keep kp
  replace hd9 := hd9.keep kp
  replace hh6 := hh6.keep kp
  replace hn9 := hn9.keep kp
  replace hf12 := hf12.keep kp
  replace hd11 := hd11.keep kp
  replace hh8 := hh8.keep kp
  replace hn11 := hn11.keep kp
  replace hh17 := hh17.keep kp
  replace hn20 := hn20.keep kp
  replace hf21 := hf21.keep kp
  replace hd20 := hd20.keep kp
  replace o5 := tu.own o5 ne5_7
  replace o6 := tu.own o6 ne6_7
  replace o8 := tu.own o8 (Ne.symm ne7_8)
  replace bel := tu.below bel ge7
  clear tu kp
  replace o7 := on
  clear on
  obtain ⟨w25, hr, tu, on⟩ := st_Rat (vs := [.bool b22, .slice ad22 n22 c22, .slice ae22 m22 d22]) o8 rfl rfl (ocB (ocS (ocS oc0))) (niB (niS (niS ni0))) (o := 0) rfl
  have kp := tu.keep o8
  refine E.st hF (r_store (hF.at 0 rfl) (hF.at 2 rfl) (hr _ rfl)) rfl rfl fun a hF => ?_
  clear hr
  replace hf10 := hf10.keep kp
  replace hd9 := hd9.keep kp
  replace hh6 := hh6.keep kp
  replace hn9 := hn9.keep kp
  replace hf12 := hf12.keep kp
  replace hd11 := hd11.keep kp
  replace hh8 := hh8.keep kp
  replace hn11 := hn11.keep kp
  replace hf21 := hf21.keep kp
  replace hd20 := hd20.keep kp
  replace hh17 := hh17.keep kp
  replace hn20 := hn20.keep kp
  replace hh19 := hh19.keep kp
  replace hn22 := hn22.keep kp
  replace hf23 := hf23.keep kp
  replace hd22 := hd22.keep kp
  replace o5 := tu.own o5 ne5_8
  replace o6 := tu.own o6 ne6_8
  replace o7 := tu.own o7 ne7_8
  replace bel := tu.below bel ge8
  clear tu kp
  replace o8 := on
  clear on
  refine E.nil ?_
  refine wp_seq ?_
  refine wp_seq ?_
  refine E.drawn 19 mixed hF [19, 20, 21, 22, 23, 24, 25, 26, 27, 28, 29, 30, 31, 32, 33, 34, 35, 36, 37] [(fun _ v => v = .agg #[.bool b20, .slice ad20 n20 c20, .slice ae20 m20 d20]), (fun w v => Rq w v (Rat.abs (sof (((rawZ nega1 xa1 4 : Int) : Rat) / ((rawZ negb1 xb1 4 : Int) : Rat))))), (fun w v => Rq w v (((1 : Int) : Rat))), (fun _ v => v = .int .i64 (qc (Rat.abs (sof (((rawZ nega1 xa1 4 : Int) : Rat) / ((rawZ negb1 xb1 4 : Int) : Rat)))) (((1 : Int) : Rat)))), (fun _ v => v = .bool false), (fun _ v => v = .bool false), (fun _ v => v = .agg #[.bool b20, .slice ad20 n20 c20, .slice ae20 m20 d20]), (fun _ v => v = .agg #[.bool b22, .slice ad22 n22 c22, .slice ae22 m22 d22]), (fun w v => Rq w v ((sof (((rawZ nega1 xa1 4 : Int) : Rat) / ((rawZ negb1 xb1 4 : Int) : Rat))) - (sof (((rawZ nega2 xa2 4 : Int) : Rat) / ((rawZ negb2 xb2 4 : Int) : Rat))))), (fun w v => Rq w v (Rat.abs ((sof (((rawZ nega1 xa1 4 : Int) : Rat) / ((rawZ negb1 xb1 4 : Int) : Rat))) - (sof (((rawZ nega2 xa2 4 : Int) : Rat) / ((rawZ negb2 xb2 4 : Int) : Rat)))))), (fun _ v => v = .agg #[.bool b9, .slice ad9 n9 c9, .slice ae9 m9 d9]), (fun _ v => v = .agg #[.bool b11, .slice ad11 n11 c11, .slice ae11 m11 d11]), (fun w v => Rq w v ((((rawZ nega1 xa1 4 : Int) : Rat) / ((rawZ negb1 xb1 4 : Int) : Rat)) - (((rawZ nega2 xa2 4 : Int) : Rat) / ((rawZ negb2 xb2 4 : Int) : Rat)))), (fun w v => Rq w v (Rat.abs ((((rawZ nega1 xa1 4 : Int) : Rat) / ((rawZ negb1 xb1 4 : Int) : Rat)) - (((rawZ nega2 xa2 4 : Int) : Rat) / ((rawZ negb2 xb2 4 : Int) : Rat))))), (fun w v => Rq w v (((60 : Int) : Rat) / ((3438 : Int) : Rat))), (fun w v => Rq w v ((Rat.abs ((((rawZ nega1 xa1 4 : Int) : Rat) / ((rawZ negb1 xb1 4 : Int) : Rat)) - (((rawZ nega2 xa2 4 : Int) : Rat) / ((rawZ negb2 xb2 4 : Int) : Rat)))) * (((60 : Int) : Rat) / ((3438 : Int) : Rat)))), (fun _ v => v = .int .i64 (qc (Rat.abs ((sof (((rawZ nega1 xa1 4 : Int) : Rat) / ((rawZ negb1 xb1 4 : Int) : Rat))) - (sof (((rawZ nega2 xa2 4 : Int) : Rat) / ((rawZ negb2 xb2 4 : Int) : Rat))))) ((Rat.abs ((((rawZ nega1 xa1 4 : Int) : Rat) / ((rawZ negb1 xb1 4 : Int) : Rat)) - (((rawZ nega2 xa2 4 : Int) : Rat) / ((rawZ negb2 xb2 4 : Int) : Rat)))) * (((60 : Int) : Rat) / ((3438 : Int) : Rat))))), (fun _ v => v = .bool false), (fun _ v => v = .bool false)] [] (by decide +kernel) (by decide +kernel) rfl rfl rfl ⟨(Mb.eq _), (fun _ _ _ h hb => h.below hb), (fun _ _ _ h hb => h.below hb), (Mb.eq _), (Mb.eq _), (Mb.eq _), (Mb.eq _), (Mb.eq _), (fun _ _ _ h hb => h.below hb), (fun _ _ _ h hb => h.below hb), (Mb.eq _), (Mb.eq _), (fun _ _ _ h hb => h.below hb), (fun _ _ _ h hb => h.below hb), (fun _ _ _ h hb => h.below hb), (fun _ _ _ h hb => h.below hb), (Mb.eq _), (Mb.eq _), (Mb.eq _), trivial⟩ trivial ⟨?_, ?_, ?_, ?_, ?_, ?_, ?_, ?_, ?_, ?_, ?_, ?_, ?_, ?_, ?_, ?_, ?_, ?_, ?_, trivial⟩ ?_
  · intro a' w' hF' hb hd
    exact if_does (wanted_free rfl) (Does.vals (r_load (hF'.at 1 rfl) (ld_Rat (vs := [.bool b20, .slice ad20 n20 c20, .slice ae20 m20 d20]) (o7.below hb) rfl rfl)) ⟨rfl, Below.refl _ _, (fun h => absurd h (by decide))⟩)
  · intro a' w' hF' hb hd
    have e19 : a'.tmps.getD 19 undef = .agg #[.bool b20, .slice ad20 n20 c20, .slice ae20 m20 d20] := hd _ 19 (Array.mem_of_getElem? (i := 0) rfl) rfl rfl
    refine if_does (wanted_free rfl) (Does.calls (r_call Tryd.func33 en33.1 en33.2 (map1 e19)) (rAbs_any _ (sof (((rawZ nega1 xa1 4 : Int) : Rat) / ((rawZ negb1 xb1 4 : Int) : Rat))) _ (hh17.below hb)) ?_)
    rintro e w'' ⟨v', rfl, h', bb⟩
    exact ⟨_, rfl, h', bb, (fun h => absurd h (by decide))⟩
  · intro a' w' hF' hb hd
    refine if_does (wanted_free rfl) (Does.calls (r_call Tryd.func26 en26.1 en26.2 (map1 ev_c)) (rWhole_any (1) _ (by decide) (by decide)) ?_)
    rintro e w'' ⟨v', rfl, h', bb⟩
    exact ⟨_, rfl, h', bb, (fun h => absurd h (by decide))⟩
  · intro a' w' hF' hb hd
    obtain ⟨v20_0, e20, h20_1⟩ : ∃ v, a'.tmps.getD 20 undef = v ∧ Rq w' v (Rat.abs (sof (((rawZ nega1 xa1 4 : Int) : Rat) / ((rawZ negb1 xb1 4 : Int) : Rat)))) := ⟨_, rfl, hd _ 20 (Array.mem_of_getElem? (i := 0) rfl) rfl rfl⟩
    obtain ⟨v21_0, e21, h21_1⟩ : ∃ v, a'.tmps.getD 21 undef = v ∧ Rq w' v (((1 : Int) : Rat)) := ⟨_, rfl, hd _ 21 (Array.mem_of_getElem? (i := 1) rfl) rfl rfl⟩
    refine if_does (wanted_free rfl) (Does.calls (r_call Tryd.func34 en34.1 en34.2 (map2 e20 e21)) (rCmp_any _ _ (Rat.abs (sof (((rawZ nega1 xa1 4 : Int) : Rat) / ((rawZ negb1 xb1 4 : Int) : Rat)))) (((1 : Int) : Rat)) (max (4 * 4 + 60) 2) _ h20_1 h21_1 ((rlim_abs (sof_lim (own5_lim nega1 negb1 oka1 okb1 4 (by decide)))).up _ (by omega)) ((rlim_int (limz_64 (by decide) (by decide)) (by omega)).up _ (by omega)) (by omega)) ?_)
    rintro e w'' ⟨rfl, bb⟩
    exact ⟨_, rfl, rfl, bb, (fun h => absurd h (by decide))⟩
  · intro a' w' hF' hb hd
    have e22 : a'.tmps.getD 22 undef = .int .i64 (qc (Rat.abs (sof (((rawZ nega1 xa1 4 : Int) : Rat) / ((rawZ negb1 xb1 4 : Int) : Rat)))) (((1 : Int) : Rat))) := hd _ 22 (Array.mem_of_getElem? (i := 0) rfl) rfl rfl
    exact if_does (wanted_free rfl) (Does.vals (r_bin e22 ev_c eg_scalar (bi_int (ic_gtr (c := false) (dec_ff (qc_no (sof_abs _)))) (by simp))) ⟨rfl, Below.refl _ _, (fun h => absurd h (by decide))⟩)
  · intro a' w' hF' hb hd
    have e23 : a'.tmps.getD 23 undef = .bool false := hd _ 23 (Array.mem_of_getElem? (i := 0) rfl) rfl rfl
    exact if_does (wanted_free rfl) (Does.vals (r_move e23) ⟨rfl, Below.refl _ _, (fun h => absurd h (by decide))⟩)
  · intro a' w' hF' hb hd
    have e24 : a'.tmps.getD 24 undef = .bool false := hd _ 24 (Array.mem_of_getElem? (i := 0) rfl) rfl rfl
    exact if_does (wanted_by rfl rfl e24 rfl) (Does.vals (r_load (hF'.at 1 rfl) (ld_Rat (vs := [.bool b20, .slice ad20 n20 c20, .slice ae20 m20 d20]) (o7.below hb) rfl rfl)) ⟨rfl, Below.refl _ _, (fun h => absurd h (by decide))⟩)
  · intro a' w' hF' hb hd
    have e24 : a'.tmps.getD 24 undef = .bool false := hd _ 24 (Array.mem_of_getElem? (i := 0) rfl) rfl rfl
    exact if_does (wanted_by rfl rfl e24 rfl) (Does.vals (r_load (hF'.at 0 rfl) (ld_Rat (vs := [.bool b22, .slice ad22 n22 c22, .slice ae22 m22 d22]) (o8.below hb) rfl rfl)) ⟨rfl, Below.refl _ _, (fun h => absurd h (by decide))⟩)
  · intro a' w' hF' hb hd
    have e24 : a'.tmps.getD 24 undef = .bool false := hd _ 24 (Array.mem_of_getElem? (i := 2) rfl) rfl rfl
    have e25 : a'.tmps.getD 25 undef = .agg #[.bool b20, .slice ad20 n20 c20, .slice ae20 m20 d20] := hd _ 25 (Array.mem_of_getElem? (i := 0) rfl) rfl rfl
    have e26 : a'.tmps.getD 26 undef = .agg #[.bool b22, .slice ad22 n22 c22, .slice ae22 m22 d22] := hd _ 26 (Array.mem_of_getElem? (i := 1) rfl) rfl rfl
    refine if_does (wanted_by rfl rfl e24 rfl) (Does.calls (r_call Tryd.func30 en30.1 en30.2 (map2 e25 e26)) (rSub_any _ _ (sof (((rawZ nega1 xa1 4 : Int) : Rat) / ((rawZ negb1 xb1 4 : Int) : Rat))) (sof (((rawZ nega2 xa2 4 : Int) : Rat) / ((rawZ negb2 xb2 4 : Int) : Rat))) (4 * 4 + 60) _ (hh17.below hb) (hh19.below hb) ((sof_lim (own5_lim nega1 negb1 oka1 okb1 4 (by decide))).up _ (by omega)) ((sof_lim (own5_lim nega2 negb2 oka2 okb2 4 (by decide))).up _ (by omega)) (by omega)) ?_)
    rintro e w'' ⟨v', rfl, h', bb⟩
    exact ⟨_, rfl, h', bb, (fun h => absurd h (by decide))⟩
  · intro a' w' hF' hb hd
    have e24 : a'.tmps.getD 24 undef = .bool false := hd _ 24 (Array.mem_of_getElem? (i := 2) rfl) rfl rfl
    obtain ⟨v27_0, e27, h27_1⟩ : ∃ v, a'.tmps.getD 27 undef = v ∧ Rq w' v ((sof (((rawZ nega1 xa1 4 : Int) : Rat) / ((rawZ negb1 xb1 4 : Int) : Rat))) - (sof (((rawZ nega2 xa2 4 : Int) : Rat) / ((rawZ negb2 xb2 4 : Int) : Rat)))) := ⟨_, rfl, hd _ 27 (Array.mem_of_getElem? (i := 0) rfl) rfl rfl⟩
    refine if_does (wanted_by rfl rfl e24 rfl) (Does.calls (r_call Tryd.func33 en33.1 en33.2 (map1 e27)) (rAbs_any _ ((sof (((rawZ nega1 xa1 4 : Int) : Rat) / ((rawZ negb1 xb1 4 : Int) : Rat))) - (sof (((rawZ nega2 xa2 4 : Int) : Rat) / ((rawZ negb2 xb2 4 : Int) : Rat)))) _ h27_1) ?_)
    rintro e w'' ⟨v', rfl, h', bb⟩
    exact ⟨_, rfl, h', bb, (fun h => absurd h (by decide))⟩
  · intro a' w' hF' hb hd
    have e24 : a'.tmps.getD 24 undef = .bool false := hd _ 24 (Array.mem_of_getElem? (i := 0) rfl) rfl rfl
    exact if_does (wanted_by rfl rfl e24 rfl) (Does.vals (r_load (hF'.at 5 rfl) (ld_Rat (vs := [.bool b9, .slice ad9 n9 c9, .slice ae9 m9 d9]) (o5.below hb) rfl rfl)) ⟨rfl, Below.refl _ _, (fun h => absurd h (by decide))⟩)
  · intro a' w' hF' hb hd
    have e24 : a'.tmps.getD 24 undef = .bool false := hd _ 24 (Array.mem_of_getElem? (i := 0) rfl) rfl rfl
    exact if_does (wanted_by rfl rfl e24 rfl) (Does.vals (r_load (hF'.at 4 rfl) (ld_Rat (vs := [.bool b11, .slice ad11 n11 c11, .slice ae11 m11 d11]) (o6.below hb) rfl rfl)) ⟨rfl, Below.refl _ _, (fun h => absurd h (by decide))⟩)
  · intro a' w' hF' hb hd
    have e24 : a'.tmps.getD 24 undef = .bool false := hd _ 24 (Array.mem_of_getElem? (i := 3) rfl) rfl rfl
    have e29 : a'.tmps.getD 29 undef = .agg #[.bool b9, .slice ad9 n9 c9, .slice ae9 m9 d9] := hd _ 29 (Array.mem_of_getElem? (i := 0) rfl) rfl rfl
    have e30 : a'.tmps.getD 30 undef = .agg #[.bool b11, .slice ad11 n11 c11, .slice ae11 m11 d11] := hd _ 30 (Array.mem_of_getElem? (i := 1) rfl) rfl rfl
    refine if_does (wanted_by rfl rfl e24 rfl) (Does.calls (r_call Tryd.func30 en30.1 en30.2 (map2 e29 e30)) (rSub_any _ _ (((rawZ nega1 xa1 4 : Int) : Rat) / ((rawZ negb1 xb1 4 : Int) : Rat)) (((rawZ nega2 xa2 4 : Int) : Rat) / ((rawZ negb2 xb2 4 : Int) : Rat)) 4 _ (hh6.below hb) (hh8.below hb) ((own5_lim nega1 negb1 oka1 okb1 4 (by decide)).up _ (by omega)) ((own5_lim nega2 negb2 oka2 okb2 4 (by decide)).up _ (by omega)) (by omega)) ?_)
    rintro e w'' ⟨v', rfl, h', bb⟩
    exact ⟨_, rfl, h', bb, (fun h => absurd h (by decide))⟩
  · intro a' w' hF' hb hd
    have e24 : a'.tmps.getD 24 undef = .bool false := hd _ 24 (Array.mem_of_getElem? (i := 2) rfl) rfl rfl
    obtain ⟨v31_0, e31, h31_1⟩ : ∃ v, a'.tmps.getD 31 undef = v ∧ Rq w' v ((((rawZ nega1 xa1 4 : Int) : Rat) / ((rawZ negb1 xb1 4 : Int) : Rat)) - (((rawZ nega2 xa2 4 : Int) : Rat) / ((rawZ negb2 xb2 4 : Int) : Rat))) := ⟨_, rfl, hd _ 31 (Array.mem_of_getElem? (i := 0) rfl) rfl rfl⟩
    refine if_does (wanted_by rfl rfl e24 rfl) (Does.calls (r_call Tryd.func33 en33.1 en33.2 (map1 e31)) (rAbs_any _ ((((rawZ nega1 xa1 4 : Int) : Rat) / ((rawZ negb1 xb1 4 : Int) : Rat)) - (((rawZ nega2 xa2 4 : Int) : Rat) / ((rawZ negb2 xb2 4 : Int) : Rat))) _ h31_1) ?_)
    rintro e w'' ⟨v', rfl, h', bb⟩
    exact ⟨_, rfl, h', bb, (fun h => absurd h (by decide))⟩
  · intro a' w' hF' hb hd
    have e24 : a'.tmps.getD 24 undef = .bool false := hd _ 24 (Array.mem_of_getElem? (i := 1) rfl) rfl rfl
    refine if_does (wanted_by rfl rfl e24 rfl) (Does.calls (r_call Tryd.func35 en35.1 en35.2 (map2 ev_c ev_c)) (rOf2_any (60) (3438) _ (by decide) (by decide) (by decide) (by decide)) ?_)
    rintro e w'' ⟨v', rfl, h', bb⟩
    exact ⟨_, rfl, h', bb, (fun h => absurd h (by decide))⟩
  · intro a' w' hF' hb hd
    have e24 : a'.tmps.getD 24 undef = .bool false := hd _ 24 (Array.mem_of_getElem? (i := 3) rfl) rfl rfl
    obtain ⟨v32_0, e32, h32_1⟩ : ∃ v, a'.tmps.getD 32 undef = v ∧ Rq w' v (Rat.abs ((((rawZ nega1 xa1 4 : Int) : Rat) / ((rawZ negb1 xb1 4 : Int) : Rat)) - (((rawZ nega2 xa2 4 : Int) : Rat) / ((rawZ negb2 xb2 4 : Int) : Rat)))) := ⟨_, rfl, hd _ 32 (Array.mem_of_getElem? (i := 0) rfl) rfl rfl⟩
    obtain ⟨v33_0, e33, h33_1⟩ : ∃ v, a'.tmps.getD 33 undef = v ∧ Rq w' v (((60 : Int) : Rat) / ((3438 : Int) : Rat)) := ⟨_, rfl, hd _ 33 (Array.mem_of_getElem? (i := 1) rfl) rfl rfl⟩
    refine if_does (wanted_by rfl rfl e24 rfl) (Does.calls (r_call Tryd.func27 en27.1 en27.2 (map2 e32 e33)) (rMul_any _ _ (Rat.abs ((((rawZ nega1 xa1 4 : Int) : Rat) / ((rawZ negb1 xb1 4 : Int) : Rat)) - (((rawZ nega2 xa2 4 : Int) : Rat) / ((rawZ negb2 xb2 4 : Int) : Rat)))) (((60 : Int) : Rat) / ((3438 : Int) : Rat)) (max (4 + 4 + 1) 2) _ h32_1 h33_1 ((rlim_abs (rlim_sub (own5_lim nega1 negb1 oka1 okb1 4 (by decide)) (own5_lim nega2 negb2 oka2 okb2 4 (by decide)))).up _ (by omega)) ((RLim.up (rlim_mk2 (limz_64 (by decide) (by decide)) (limz_64 (by decide) (by decide))) 2 (by decide)).up _ (by omega)) (by omega)) ?_)
    rintro e w'' ⟨v', rfl, h', bb⟩
    exact ⟨_, rfl, h', bb, (fun h => absurd h (by decide))⟩
  · intro a' w' hF' hb hd
    have e24 : a'.tmps.getD 24 undef = .bool false := hd _ 24 (Array.mem_of_getElem? (i := 3) rfl) rfl rfl
    obtain ⟨v28_0, e28, h28_1⟩ : ∃ v, a'.tmps.getD 28 undef = v ∧ Rq w' v (Rat.abs ((sof (((rawZ nega1 xa1 4 : Int) : Rat) / ((rawZ negb1 xb1 4 : Int) : Rat))) - (sof (((rawZ nega2 xa2 4 : Int) : Rat) / ((rawZ negb2 xb2 4 : Int) : Rat))))) := ⟨_, rfl, hd _ 28 (Array.mem_of_getElem? (i := 0) rfl) rfl rfl⟩
    obtain ⟨v34_0, e34, h34_1⟩ : ∃ v, a'.tmps.getD 34 undef = v ∧ Rq w' v ((Rat.abs ((((rawZ nega1 xa1 4 : Int) : Rat) / ((rawZ negb1 xb1 4 : Int) : Rat)) - (((rawZ nega2 xa2 4 : Int) : Rat) / ((rawZ negb2 xb2 4 : Int) : Rat)))) * (((60 : Int) : Rat) / ((3438 : Int) : Rat))) := ⟨_, rfl, hd _ 34 (Array.mem_of_getElem? (i := 1) rfl) rfl rfl⟩
    refine if_does (wanted_by rfl rfl e24 rfl) (Does.calls (r_call Tryd.func34 en34.1 en34.2 (map2 e28 e34)) (rCmp_any _ _ (Rat.abs ((sof (((rawZ nega1 xa1 4 : Int) : Rat) / ((rawZ negb1 xb1 4 : Int) : Rat))) - (sof (((rawZ nega2 xa2 4 : Int) : Rat) / ((rawZ negb2 xb2 4 : Int) : Rat))))) ((Rat.abs ((((rawZ nega1 xa1 4 : Int) : Rat) / ((rawZ negb1 xb1 4 : Int) : Rat)) - (((rawZ nega2 xa2 4 : Int) : Rat) / ((rawZ negb2 xb2 4 : Int) : Rat)))) * (((60 : Int) : Rat) / ((3438 : Int) : Rat))) (max ((4 * 4 + 60) + (4 * 4 + 60) + 1) ((4 + 4 + 1) + 2)) _ h28_1 h34_1 ((rlim_abs (rlim_sub (sof_lim (own5_lim nega1 negb1 oka1 okb1 4 (by decide))) (sof_lim (own5_lim nega2 negb2 oka2 okb2 4 (by decide))))).up _ (by omega)) ((rlim_mul (rlim_abs (rlim_sub (own5_lim nega1 negb1 oka1 okb1 4 (by decide)) (own5_lim nega2 negb2 oka2 okb2 4 (by decide)))) (RLim.up (rlim_mk2 (limz_64 (by decide) (by decide)) (limz_64 (by decide) (by decide))) 2 (by decide))).up _ (by omega)) (by omega)) ?_)
    rintro e w'' ⟨rfl, bb⟩
    exact ⟨_, rfl, rfl, bb, (fun h => absurd h (by decide))⟩
  · intro a' w' hF' hb hd
    have e24 : a'.tmps.getD 24 undef = .bool false := hd _ 24 (Array.mem_of_getElem? (i := 1) rfl) rfl rfl
    have e35 : a'.tmps.getD 35 undef = .int .i64 (qc (Rat.abs ((sof (((rawZ nega1 xa1 4 : Int) : Rat) / ((rawZ negb1 xb1 4 : Int) : Rat))) - (sof (((rawZ nega2 xa2 4 : Int) : Rat) / ((rawZ negb2 xb2 4 : Int) : Rat))))) ((Rat.abs ((((rawZ nega1 xa1 4 : Int) : Rat) / ((rawZ negb1 xb1 4 : Int) : Rat)) - (((rawZ nega2 xa2 4 : Int) : Rat) / ((rawZ negb2 xb2 4 : Int) : Rat)))) * (((60 : Int) : Rat) / ((3438 : Int) : Rat)))) := hd _ 35 (Array.mem_of_getElem? (i := 0) rfl) rfl rfl
    exact if_does (wanted_by rfl rfl e24 rfl) (Does.vals (r_bin e35 ev_c eg_scalar (bi_int (ic_gtr (c := false) (dec_ff (qc_no (sof_lip _ _)))) (by simp))) ⟨rfl, Below.refl _ _, (fun h => absurd h (by decide))⟩)
  · intro a' w' hF' hb hd
    have e24 : a'.tmps.getD 24 undef = .bool false := hd _ 24 (Array.mem_of_getElem? (i := 0) rfl) rfl rfl
    have e36 : a'.tmps.getD 36 undef = .bool false := hd _ 36 (Array.mem_of_getElem? (i := 1) rfl) rfl rfl
    exact if_does (wanted_free rfl) (Does.vals (r_pick_f e24 e36) ⟨rfl, Below.refl _ _, (fun h => absurd h (by decide))⟩)
  intro a w26 hF bb hall hne
  have e37 : a.tmps.getD 37 undef = .bool false := hall 18 37 rfl
  clear hall hne
  replace hf10 := hf10.below bb
  replace hd9 := hd9.below bb
  replace hh6 := hh6.below bb
  replace hn9 := hn9.below bb
  replace hf12 := hf12.below bb
  replace hd11 := hd11.below bb
  replace hh8 := hh8.below bb
  replace hn11 := hn11.below bb
  replace o5 := o5.below bb
  replace o6 := o6.below bb
  replace bel := below_to bel bb
  clear bb
  replace hF := hF.add e37
  clear e37
  refine E.nil ?_
  refine wp_cond_false (hF.at 0 rfl) ?_
  refine wp_skip ?_
  refine E.norm ?_
  refine wp_seq ?_
  refine E.drawn 8 mixed hF [38, 39, 40, 41, 42, 43, 44, 45] [(fun _ v => v = .agg #[.bool b9, .slice ad9 n9 c9, .slice ae9 m9 d9]), (fun w v => Rq w v ((((-90) : Int) : Rat))), (fun w v => Rq w v (((90 : Int) : Rat))), (fun w v => Rq w v (rinto (((rawZ nega1 xa1 4 : Int) : Rat) / ((rawZ negb1 xb1 4 : Int) : Rat)) ((((-90) : Int) : Rat)) (((90 : Int) : Rat)))), (fun _ v => v = .agg #[.bool b11, .slice ad11 n11 c11, .slice ae11 m11 d11]), (fun w v => Rq w v ((((-90) : Int) : Rat))), (fun w v => Rq w v (((90 : Int) : Rat))), (fun w v => Rq w v (rinto (((rawZ nega2 xa2 4 : Int) : Rat) / ((rawZ negb2 xb2 4 : Int) : Rat)) ((((-90) : Int) : Rat)) (((90 : Int) : Rat))))] [] (by decide +kernel) (by decide +kernel) rfl rfl rfl ⟨(Mb.eq _), (fun _ _ _ h hb => h.below hb), (fun _ _ _ h hb => h.below hb), (fun _ _ _ h hb => h.below hb), (Mb.eq _), (fun _ _ _ h hb => h.below hb), (fun _ _ _ h hb => h.below hb), (fun _ _ _ h hb => h.below hb), trivial⟩ trivial ⟨?_, ?_, ?_, ?_, ?_, ?_, ?_, ?_, trivial⟩ ?_
  · intro a' w' hF' hb hd
    exact if_does (wanted_free rfl) (Does.vals (r_load (hF'.at 6 rfl) (ld_Rat (vs := [.bool b9, .slice ad9 n9 c9, .slice ae9 m9 d9]) (o5.below hb) rfl rfl)) ⟨rfl, Below.refl _ _, (fun h => absurd h (by decide))⟩)
  · intro a' w' hF' hb hd
    refine if_does (wanted_free rfl) (Does.calls (r_call Tryd.func26 en26.1 en26.2 (map1 ev_c)) (rWhole_any ((-90)) _ (by decide) (by decide)) ?_)
    rintro e w'' ⟨v', rfl, h', bb⟩
    exact ⟨_, rfl, h', bb, (fun h => absurd h (by decide))⟩
  · intro a' w' hF' hb hd
    refine if_does (wanted_free rfl) (Does.calls (r_call Tryd.func26 en26.1 en26.2 (map1 ev_c)) (rWhole_any (90) _ (by decide) (by decide)) ?_)
    rintro e w'' ⟨v', rfl, h', bb⟩
    exact ⟨_, rfl, h', bb, (fun h => absurd h (by decide))⟩
  · intro a' w' hF' hb hd
    have e38 : a'.tmps.getD 38 undef = .agg #[.bool b9, .slice ad9 n9 c9, .slice ae9 m9 d9] := hd _ 38 (Array.mem_of_getElem? (i := 0) rfl) rfl rfl
    obtain ⟨v39_0, e39, h39_1⟩ : ∃ v, a'.tmps.getD 39 undef = v ∧ Rq w' v ((((-90) : Int) : Rat)) := ⟨_, rfl, hd _ 39 (Array.mem_of_getElem? (i := 1) rfl) rfl rfl⟩
    obtain ⟨v40_0, e40, h40_1⟩ : ∃ v, a'.tmps.getD 40 undef = v ∧ Rq w' v (((90 : Int) : Rat)) := ⟨_, rfl, hd _ 40 (Array.mem_of_getElem? (i := 2) rfl) rfl rfl⟩
    refine if_does (wanted_free rfl) (Does.calls (r_call Tryd.func31 en31.1 en31.2 (map3 e38 e39 e40)) (cInto_any _ _ _ (((rawZ nega1 xa1 4 : Int) : Rat) / ((rawZ negb1 xb1 4 : Int) : Rat)) ((((-90) : Int) : Rat)) (((90 : Int) : Rat)) 4 2 2 _ (hh6.below hb) h39_1 h40_1 (own5_lim nega1 negb1 oka1 okb1 4 (by decide)) (rlim_int (limz_64 (by decide) (by decide)) (by omega)) (rlim_int (limz_64 (by decide) (by decide)) (by omega)) (by omega) (by omega) (by omega)) ?_)
    rintro e w'' ⟨v', rfl, h', bb⟩
    exact ⟨_, rfl, h', bb, (fun h => absurd h (by decide))⟩
  · intro a' w' hF' hb hd
    exact if_does (wanted_free rfl) (Does.vals (r_load (hF'.at 5 rfl) (ld_Rat (vs := [.bool b11, .slice ad11 n11 c11, .slice ae11 m11 d11]) (o6.below hb) rfl rfl)) ⟨rfl, Below.refl _ _, (fun h => absurd h (by decide))⟩)
  · intro a' w' hF' hb hd
    refine if_does (wanted_free rfl) (Does.calls (r_call Tryd.func26 en26.1 en26.2 (map1 ev_c)) (rWhole_any ((-90)) _ (by decide) (by decide)) ?_)
    rintro e w'' ⟨v', rfl, h', bb⟩
    exact ⟨_, rfl, h', bb, (fun h => absurd h (by decide))⟩
  · intro a' w' hF' hb hd
    refine if_does (wanted_free rfl) (Does.calls (r_call Tryd.func26 en26.1 en26.2 (map1 ev_c)) (rWhole_any (90) _ (by decide) (by decide)) ?_)
    rintro e w'' ⟨v', rfl, h', bb⟩
    exact ⟨_, rfl, h', bb, (fun h => absurd h (by decide))⟩
  · intro a' w' hF' hb hd
    have e42 : a'.tmps.getD 42 undef = .agg #[.bool b11, .slice ad11 n11 c11, .slice ae11 m11 d11] := hd _ 42 (Array.mem_of_getElem? (i := 0) rfl) rfl rfl
    obtain ⟨v43_0, e43, h43_1⟩ : ∃ v, a'.tmps.getD 43 undef = v ∧ Rq w' v ((((-90) : Int) : Rat)) := ⟨_, rfl, hd _ 43 (Array.mem_of_getElem? (i := 1) rfl) rfl rfl⟩
    obtain ⟨v44_0, e44, h44_1⟩ : ∃ v, a'.tmps.getD 44 undef = v ∧ Rq w' v (((90 : Int) : Rat)) := ⟨_, rfl, hd _ 44 (Array.mem_of_getElem? (i := 2) rfl) rfl rfl⟩
    refine if_does (wanted_free rfl) (Does.calls (r_call Tryd.func31 en31.1 en31.2 (map3 e42 e43 e44)) (cInto_any _ _ _ (((rawZ nega2 xa2 4 : Int) : Rat) / ((rawZ negb2 xb2 4 : Int) : Rat)) ((((-90) : Int) : Rat)) (((90 : Int) : Rat)) 4 2 2 _ (hh8.below hb) h43_1 h44_1 (own5_lim nega2 negb2 oka2 okb2 4 (by decide)) (rlim_int (limz_64 (by decide) (by decide)) (by omega)) (rlim_int (limz_64 (by decide) (by decide)) (by omega)) (by omega) (by omega) (by omega)) ?_)
    rintro e w'' ⟨v', rfl, h', bb⟩
    exact ⟨_, rfl, h', bb, (fun h => absurd h (by decide))⟩
  intro a w27 hF bb hall hne
  obtain ⟨vv28, e41, hh29⟩ : ∃ v, a.tmps.getD 41 undef = v ∧ Rq w27 v (rinto (((rawZ nega1 xa1 4 : Int) : Rat) / ((rawZ negb1 xb1 4 : Int) : Rat)) ((((-90) : Int) : Rat)) (((90 : Int) : Rat))) := ⟨_, rfl, hall 3 41 rfl⟩
  obtain ⟨vv30, e45, hh31⟩ : ∃ v, a.tmps.getD 45 undef = v ∧ Rq w27 v (rinto (((rawZ nega2 xa2 4 : Int) : Rat) / ((rawZ negb2 xb2 4 : Int) : Rat)) ((((-90) : Int) : Rat)) (((90 : Int) : Rat))) := ⟨_, rfl, hall 7 45 rfl⟩
  clear hall hne
  replace hf10 := hf10.below bb
  replace hd9 := hd9.below bb
  replace hh6 := hh6.below bb
  replace hn9 := hn9.below bb
  replace hf12 := hf12.below bb
  replace hd11 := hd11.below bb
  replace hh8 := hh8.below bb
  replace hn11 := hn11.below bb
  replace o5 := o5.below bb
  replace o6 := o6.below bb
  replace bel := below_to bel bb
  clear bb
  obtain ⟨b32, ad32, n32, c32, ae32, m32, d32, rfl, hn32, hd32⟩ := Rq.shape hh29
  have hf33 := Wc.abs hn32
  replace hF := hF.add e41
  clear e41
  obtain ⟨b34, ad34, n34, c34, ae34, m34, d34, rfl, hn34, hd34⟩ := Rq.shape hh31
  have hf35 := Wc.abs hn34
  replace hF := hF.add e45
  clear e45
  obtain ⟨w36, hr, tu, on⟩ := st_Rat (vs := [.bool b32, .slice ad32 n32 c32, .slice ae32 m32 d32]) o5 rfl rfl (ocB (ocS (ocS oc0))) (niB (niS (niS ni0))) (o := 0) rfl
  have kp := tu.keep o5
  refine E.st hF (r_store (hF.at 8 rfl) (hF.at 1 rfl) (hr _ rfl)) rfl rfl fun a hF => ?_
  clear hr
  replace hh31 := hh31.keep kp
  replace hn34 := hn34.keep kp
  replace hf35 := hf35.keep kp
  replace hd34 := hd34.keep kp
  replace hf10 := hf10.keep kp
  replace hd9 := hd9.keep kp
  replace hh6 := hh6.keep kp
  replace hn9 := hn9.keep kp
  replace hf12 := hf12.keep kp
  replace hd11 := hd11.keep kp
  replace hh8 := hh8.keep kp
  replace hn11 := hn11.keep kp
  replace hh29 := hh29.keep kp
  replace hn32 := hn32.keep kp
  replace hf33 := hf33.keep kp
  replace hd32 := hd32.keep kp
  replace o6 := tu.own o6 (Ne.symm ne5_6)
  replace bel := tu.below bel ge5
  clear tu kp
  replace o5 := on
  clear on
  obtain ⟨w37, hr, tu, on⟩ := st_Rat (vs := [.bool b34, .slice ad34 n34 c34, .slice ae34 m34 d34]) o6 rfl rfl (ocB (ocS (ocS oc0))) (niB (niS (niS ni0))) (o := 0) rfl
  have kp := tu.keep o6
  refine E.st hF (r_store (hF.at 7 rfl) (hF.at 0 rfl) (hr _ rfl)) rfl rfl fun a hF => ?_
  clear hr
  replace hf33 := hf33.keep kp
  replace hd32 := hd32.keep kp
  replace hh29 := hh29.keep kp
  replace hn32 := hn32.keep kp
  replace hf12 := hf12.keep kp
  replace hd11 := hd11.keep kp
  replace hh8 := hh8.keep kp
  replace hn11 := hn11.keep kp
  replace hh31 := hh31.keep kp
  replace hn34 := hn34.keep kp
  replace hf35 := hf35.keep kp
  replace hd34 := hd34.keep kp
  replace o5 := tu.own o5 ne5_6
  replace bel := tu.below bel ge6
  clear tu kp
  replace o6 := on
  clear on
  refine E.nil ?_
  refine wp_seq ?_
  refine E.drawn 9 mixed hF [46, 47, 48, 49, 50, 51, 52, 53, 54] [(fun _ v => v = .agg #[.bool b32, .slice ad32 n32 c32, .slice ae32 m32 d32]), (fun w v => Rq w v (sof (rinto (((rawZ nega1 xa1 4 : Int) : Rat) / ((rawZ negb1 xb1 4 : Int) : Rat)) ((((-90) : Int) : Rat)) (((90 : Int) : Rat))))), (fun _ v => v = .agg #[.bool b34, .slice ad34 n34 c34, .slice ae34 m34 d34]), (fun w v => Rq w v (sof (rinto (((rawZ nega2 xa2 4 : Int) : Rat) / ((rawZ negb2 xb2 4 : Int) : Rat)) ((((-90) : Int) : Rat)) (((90 : Int) : Rat))))), (fun _ v => v = .int .i64 (qc (sof (rinto (((rawZ nega1 xa1 4 : Int) : Rat) / ((rawZ negb1 xb1 4 : Int) : Rat)) ((((-90) : Int) : Rat)) (((90 : Int) : Rat)))) (sof (rinto (((rawZ nega2 xa2 4 : Int) : Rat) / ((rawZ negb2 xb2 4 : Int) : Rat)) ((((-90) : Int) : Rat)) (((90 : Int) : Rat)))))), (fun _ v => v = .agg #[.bool b32, .slice ad32 n32 c32, .slice ae32 m32 d32]), (fun _ v => v = .agg #[.bool b34, .slice ad34 n34 c34, .slice ae34 m34 d34]), (fun _ v => v = .int .i64 (qc (rinto (((rawZ nega1 xa1 4 : Int) : Rat) / ((rawZ negb1 xb1 4 : Int) : Rat)) ((((-90) : Int) : Rat)) (((90 : Int) : Rat))) (rinto (((rawZ nega2 xa2 4 : Int) : Rat) / ((rawZ negb2 xb2 4 : Int) : Rat)) ((((-90) : Int) : Rat)) (((90 : Int) : Rat))))), (fun _ v => v = .bool true)] [] (by decide +kernel) (by decide +kernel) rfl rfl rfl ⟨(Mb.eq _), (fun _ _ _ h hb => h.below hb), (Mb.eq _), (fun _ _ _ h hb => h.below hb), (Mb.eq _), (Mb.eq _), (Mb.eq _), (Mb.eq _), (Mb.eq _), trivial⟩ trivial ⟨?_, ?_, ?_, ?_, ?_, ?_, ?_, ?_, ?_, trivial⟩ ?_
  · intro a' w' hF' hb hd
    exact if_does (wanted_free rfl) (Does.vals (r_load (hF'.at 8 rfl) (ld_Rat (vs := [.bool b32, .slice ad32 n32 c32, .slice ae32 m32 d32]) (o5.below hb) rfl rfl)) ⟨rfl, Below.refl _ _, (fun h => absurd h (by decide))⟩)
  · intro a' w' hF' hb hd
    have e46 : a'.tmps.getD 46 undef = .agg #[.bool b32, .slice ad32 n32 c32, .slice ae32 m32 d32] := hd _ 46 (Array.mem_of_getElem? (i := 0) rfl) rfl rfl
    refine if_does (wanted_free rfl) (Does.calls (r_call Tryd.func24 en24.1 en24.2 (map1 e46)) (sof_any _ (rinto (((rawZ nega1 xa1 4 : Int) : Rat) / ((rawZ negb1 xb1 4 : Int) : Rat)) ((((-90) : Int) : Rat)) (((90 : Int) : Rat))) (2 * 4 + 5 * 2 + 2 * 2 + 8) _ (hT.below (below_to bel hb)) (hh29.below hb) (rinto_lim (own5_lim nega1 negb1 oka1 okb1 4 (by decide)) (rlim_int (limz_64 (by decide) (by decide)) (by omega)) (rlim_int (limz_64 (by decide) (by decide)) (by omega))) (by omega)) ?_)
    rintro e w'' ⟨v', rfl, h', bb⟩
    exact ⟨_, rfl, h', bb, (fun h => absurd h (by decide))⟩
  · intro a' w' hF' hb hd
    exact if_does (wanted_free rfl) (Does.vals (r_load (hF'.at 7 rfl) (ld_Rat (vs := [.bool b34, .slice ad34 n34 c34, .slice ae34 m34 d34]) (o6.below hb) rfl rfl)) ⟨rfl, Below.refl _ _, (fun h => absurd h (by decide))⟩)
  · intro a' w' hF' hb hd
    have e48 : a'.tmps.getD 48 undef = .agg #[.bool b34, .slice ad34 n34 c34, .slice ae34 m34 d34] := hd _ 48 (Array.mem_of_getElem? (i := 0) rfl) rfl rfl
    refine if_does (wanted_free rfl) (Does.calls (r_call Tryd.func24 en24.1 en24.2 (map1 e48)) (sof_any _ (rinto (((rawZ nega2 xa2 4 : Int) : Rat) / ((rawZ negb2 xb2 4 : Int) : Rat)) ((((-90) : Int) : Rat)) (((90 : Int) : Rat))) (2 * 4 + 5 * 2 + 2 * 2 + 8) _ (hT.below (below_to bel hb)) (hh31.below hb) (rinto_lim (own5_lim nega2 negb2 oka2 okb2 4 (by decide)) (rlim_int (limz_64 (by decide) (by decide)) (by omega)) (rlim_int (limz_64 (by decide) (by decide)) (by omega))) (by omega)) ?_)
    rintro e w'' ⟨v', rfl, h', bb⟩
    exact ⟨_, rfl, h', bb, (fun h => absurd h (by decide))⟩
  · intro a' w' hF' hb hd
    obtain ⟨v47_0, e47, h47_1⟩ : ∃ v, a'.tmps.getD 47 undef = v ∧ Rq w' v (sof (rinto (((rawZ nega1 xa1 4 : Int) : Rat) / ((rawZ negb1 xb1 4 : Int) : Rat)) ((((-90) : Int) : Rat)) (((90 : Int) : Rat)))) := ⟨_, rfl, hd _ 47 (Array.mem_of_getElem? (i := 0) rfl) rfl rfl⟩
    obtain ⟨v49_0, e49, h49_1⟩ : ∃ v, a'.tmps.getD 49 undef = v ∧ Rq w' v (sof (rinto (((rawZ nega2 xa2 4 : Int) : Rat) / ((rawZ negb2 xb2 4 : Int) : Rat)) ((((-90) : Int) : Rat)) (((90 : Int) : Rat)))) := ⟨_, rfl, hd _ 49 (Array.mem_of_getElem? (i := 1) rfl) rfl rfl⟩
    refine if_does (wanted_free rfl) (Does.calls (r_call Tryd.func34 en34.1 en34.2 (map2 e47 e49)) (rCmp_any _ _ (sof (rinto (((rawZ nega1 xa1 4 : Int) : Rat) / ((rawZ negb1 xb1 4 : Int) : Rat)) ((((-90) : Int) : Rat)) (((90 : Int) : Rat)))) (sof (rinto (((rawZ nega2 xa2 4 : Int) : Rat) / ((rawZ negb2 xb2 4 : Int) : Rat)) ((((-90) : Int) : Rat)) (((90 : Int) : Rat)))) (4 * (2 * 4 + 5 * 2 + 2 * 2 + 8) + 60) _ h47_1 h49_1 ((sof_lim (rinto_lim (own5_lim nega1 negb1 oka1 okb1 4 (by decide)) (rlim_int (limz_64 (by decide) (by decide)) (by omega)) (rlim_int (limz_64 (by decide) (by decide)) (by omega)))).up _ (by omega)) ((sof_lim (rinto_lim (own5_lim nega2 negb2 oka2 okb2 4 (by decide)) (rlim_int (limz_64 (by decide) (by decide)) (by omega)) (rlim_int (limz_64 (by decide) (by decide)) (by omega)))).up _ (by omega)) (by omega)) ?_)
    rintro e w'' ⟨rfl, bb⟩
    exact ⟨_, rfl, rfl, bb, (fun h => absurd h (by decide))⟩
  · intro a' w' hF' hb hd
    exact if_does (wanted_free rfl) (Does.vals (r_load (hF'.at 8 rfl) (ld_Rat (vs := [.bool b32, .slice ad32 n32 c32, .slice ae32 m32 d32]) (o5.below hb) rfl rfl)) ⟨rfl, Below.refl _ _, (fun h => absurd h (by decide))⟩)
  · intro a' w' hF' hb hd
    exact if_does (wanted_free rfl) (Does.vals (r_load (hF'.at 7 rfl) (ld_Rat (vs := [.bool b34, .slice ad34 n34 c34, .slice ae34 m34 d34]) (o6.below hb) rfl rfl)) ⟨rfl, Below.refl _ _, (fun h => absurd h (by decide))⟩)
  · intro a' w' hF' hb hd
    have e51 : a'.tmps.getD 51 undef = .agg #[.bool b32, .slice ad32 n32 c32, .slice ae32 m32 d32] := hd _ 51 (Array.mem_of_getElem? (i := 0) rfl) rfl rfl
    have e52 : a'.tmps.getD 52 undef = .agg #[.bool b34, .slice ad34 n34 c34, .slice ae34 m34 d34] := hd _ 52 (Array.mem_of_getElem? (i := 1) rfl) rfl rfl
    refine if_does (wanted_free rfl) (Does.calls (r_call Tryd.func34 en34.1 en34.2 (map2 e51 e52)) (rCmp_any _ _ (rinto (((rawZ nega1 xa1 4 : Int) : Rat) / ((rawZ negb1 xb1 4 : Int) : Rat)) ((((-90) : Int) : Rat)) (((90 : Int) : Rat))) (rinto (((rawZ nega2 xa2 4 : Int) : Rat) / ((rawZ negb2 xb2 4 : Int) : Rat)) ((((-90) : Int) : Rat)) (((90 : Int) : Rat))) (2 * 4 + 5 * 2 + 2 * 2 + 8) _ (hh29.below hb) (hh31.below hb) ((rinto_lim (own5_lim nega1 negb1 oka1 okb1 4 (by decide)) (rlim_int (limz_64 (by decide) (by decide)) (by omega)) (rlim_int (limz_64 (by decide) (by decide)) (by omega))).up _ (by omega)) ((rinto_lim (own5_lim nega2 negb2 oka2 okb2 4 (by decide)) (rlim_int (limz_64 (by decide) (by decide)) (by omega)) (rlim_int (limz_64 (by decide) (by decide)) (by omega))).up _ (by omega)) (by omega)) ?_)
    rintro e w'' ⟨rfl, bb⟩
    exact ⟨_, rfl, rfl, bb, (fun h => absurd h (by decide))⟩
  · intro a' w' hF' hb hd
    have e50 : a'.tmps.getD 50 undef = .int .i64 (qc (sof (rinto (((rawZ nega1 xa1 4 : Int) : Rat) / ((rawZ negb1 xb1 4 : Int) : Rat)) ((((-90) : Int) : Rat)) (((90 : Int) : Rat)))) (sof (rinto (((rawZ nega2 xa2 4 : Int) : Rat) / ((rawZ negb2 xb2 4 : Int) : Rat)) ((((-90) : Int) : Rat)) (((90 : Int) : Rat))))) := hd _ 50 (Array.mem_of_getElem? (i := 0) rfl) rfl rfl
    have e53 : a'.tmps.getD 53 undef = .int .i64 (qc (rinto (((rawZ nega1 xa1 4 : Int) : Rat) / ((rawZ negb1 xb1 4 : Int) : Rat)) ((((-90) : Int) : Rat)) (((90 : Int) : Rat))) (rinto (((rawZ nega2 xa2 4 : Int) : Rat) / ((rawZ negb2 xb2 4 : Int) : Rat)) ((((-90) : Int) : Rat)) (((90 : Int) : Rat)))) := hd _ 53 (Array.mem_of_getElem? (i := 1) rfl) rfl rfl
    exact if_does (wanted_free rfl) (Does.vals (r_bin e50 e53 eg_scalar (bi_int (ic_eql (c := true) (dec_tt (rise_qc (into90 _) (into90 _)))) (by simp))) ⟨rfl, Below.refl _ _, (fun h => absurd h (by decide))⟩)
  intro a w38 hF bb hall hne
  have e54 : a.tmps.getD 54 undef = .bool true := hall 8 54 rfl
  clear hall hne
  replace bel := below_to bel bb
  clear bb
  replace hF := hF.add e54
  clear e54
  refine E.opset (L' := [(4, .bool true), (54, .bool true), (45, .agg #[.bool b34, .slice ad34 n34 c34, .slice ae34 m34 d34]), (41, .agg #[.bool b32, .slice ad32 n32 c32, .slice ae32 m32 d32]), (37, .bool false), (8, .pointer (some ⟨g8, 0, none⟩)), (7, .pointer (some ⟨g7, 0, none⟩)), (18, .agg #[.bool b22, .slice ad22 n22 c22, .slice ae22 m22 d22]), (16, .agg #[.bool b20, .slice ad20 n20 c20, .slice ae20 m20 d20]), (6, .pointer (some ⟨g6, 0, none⟩)), (5, .pointer (some ⟨g5, 0, none⟩)), (14, .agg #[.bool b11, .slice ad11 n11 c11, .slice ae11 m11 d11]), (12, .agg #[.bool b9, .slice ad9 n9 c9, .slice ae9 m9 d9]), (10, .bool false), (9, .bool true), (3, .pointer (some ⟨g3, 0, none⟩)), (2, .pointer (some ⟨g2, 0, none⟩)), (0, .agg #[.bool nega1, .slice aa1 na1 ca1, .bool negb1, .slice ab1 nb1 cb1]), (1, .agg #[.bool nega2, .slice aa2 na2 ca2, .bool negb2, .slice ab2 nb2 cb2])]) hF (r_assign (hF.at 0 rfl)) rfl rfl rfl rfl fun a hF => ?_
  refine E.nil ?_
  refine wp_ret ?_
  refine bodyPost_ret (res_tmp Tryd.results9 (hF.at 0 rfl)) hF.dfr ?_
  exact ⟨rfl, bel⟩

end Go.Proofs.YteafnboehmfmiaaDoor
