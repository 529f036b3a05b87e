/- DialPoints, DialTurns, DialRound. -/
import Derived.Test.YteafnboehmfmiaaDoorDlC
namespace Go.Proofs.YteafnboehmfmiaaDoor
open Go.RowKit
set_option maxRecDepth 100000
set_option linter.unusedVariables false

set_option maxHeartbeats 8000000 in
theorem dialPoints_walk (k : Int) (w : World) (hT : TabD w) :
    Calls Tryd.prog 3 #[.int .i64 k] w (ValPost w (.bool true)) := by
  have bel : Below w.heap.size w w := Below.refl _ _
  refine E.enter (nt := 54) (L := [(0, .int .i64 k)]) Tryd.func3 rfl rfl rfl (args_cons (i := 0) rfl args_nil) ?_
  intro a hF
  refine wp_seq ?_
  refine E.seq ?_
  refine E.opv hF (r_assign ev_c) rfl rfl rfl rfl fun a hF => ?_
  refine E.nil ?_
  refine wp_seq ?_
  refine wp_seq ?_
  refine E.seq ?_
  refine E.call hF (r_call Tryd.func11 en11.1 en11.2 map0) (awake9_any _ (hT.below bel)) rfl rfl rfl rfl ?_
  rintro e w1 ⟨rfl, bb⟩
  refine ⟨_, rfl, ?_⟩
  intro a hF
  replace bel := below_to bel bb
  clear bb
  refine E.opv hF (r_un (hF.at 0 rfl) (bn_not _ false rfl)) rfl rfl rfl rfl fun a hF => ?_
  refine E.nil ?_
  refine wp_cond_false (hF.at 0 rfl) ?_
  refine wp_skip ?_
  refine E.norm ?_
  refine wp_seq ?_
  refine E.seq ?_
  refine E.opv hF (r_move (hF.at 3 rfl)) rfl rfl rfl rfl fun a hF => ?_
  refine E.call hF (r_call Tryd.func12 en12.1 en12.2 (map1 (hF.at 0 rfl))) (point_any k _ (hT.below bel)) rfl rfl rfl rfl ?_
  rintro e w2 ⟨rfl, bb⟩
  refine ⟨_, rfl, ?_⟩
  intro a hF
  replace bel := below_to bel bb
  clear bb
  refine E.opv hF (r_assign (hF.at 0 rfl)) rfl rfl rfl rfl fun a hF => ?_
  refine E.nil ?_
  refine wp_seq ?_
  refine E.seq ?_
  refine E.opv hF (r_move (hF.at 0 rfl)) rfl rfl rfl rfl fun a hF => ?_
  refine E.call hF (r_call Tryd.func13 en13.1 en13.2 (map1 (hF.at 0 rfl))) (where_yes _ _ (spk (k + 24)) (spk (k)) (k % 96) _ (hT.below bel) (fI_sp (k + 24)) (fI_sp (k)) (by omega) (by omega) ⟨sp_mod24 k, sp_mod k⟩) rfl rfl rfl rfl ?_
  rintro e w3 ⟨rfl, bb⟩
  refine ⟨_, rfl, ?_⟩
  intro a hF
  replace bel := below_to bel bb
  clear bb
  refine E.opv hF (r_move (hF.at 0 rfl)) rfl rfl rfl rfl fun a hF => ?_
  refine E.opv hF (r_extract (v := .int .i64 (k % 96)) (hF.at 0 rfl) rfl) rfl rfl rfl rfl fun a hF => ?_
  refine E.opv hF (r_extract (v := .bool true) (hF.at 1 rfl) rfl) rfl rfl rfl rfl fun a hF => ?_
  refine E.opv hF (r_assign (hF.at 1 rfl)) rfl rfl rfl rfl fun a hF => ?_
  refine E.opv hF (r_assign (hF.at 1 rfl)) rfl rfl rfl rfl fun a hF => ?_
  refine E.nil ?_
  refine wp_seq ?_
  refine E.seq ?_
  refine E.opv hF (r_move (hF.at 13 rfl)) rfl rfl rfl rfl fun a hF => ?_
  refine E.call hF (r_call Tryd.func14 en14.1 en14.2 (map1 (hF.at 0 rfl))) (dsine_any k _ (hT.below bel)) rfl rfl rfl rfl ?_
  rintro e w4 ⟨rfl, bb⟩
  refine ⟨_, rfl, ?_⟩
  intro a hF
  replace bel := below_to bel bb
  clear bb
  refine E.opv hF (r_move (hF.at 15 rfl)) rfl rfl rfl rfl fun a hF => ?_
  refine E.call hF (r_call Tryd.func15 en15.1 en15.2 (map1 (hF.at 0 rfl))) (rsine_any k _) rfl rfl rfl rfl ?_
  rintro e w5 ⟨rfl, bb⟩
  refine ⟨_, rfl, ?_⟩
  intro a hF
  replace bel := below_to bel bb
  clear bb
  refine E.opv hF (r_bin (hF.at 2 rfl) (hF.at 0 rfl) eg_scalar (bi_int (ic_eql (c := true) (by simp)) (by simp))) rfl rfl rfl rfl fun a hF => ?_
  refine E.opv hF (r_move (hF.at 0 rfl)) rfl rfl rfl rfl fun a hF => ?_
  refine E.opvg hF (r_move (hF.at 19 rfl)) (wanted_by rfl rfl (hF.at 0 rfl) rfl) rfl rfl rfl fun a hF => ?_
  refine E.callg hF (r_call Tryd.func16 en16.1 en16.2 (map1 (hF.at 0 rfl))) (dcos_any k _ (hT.below bel)) (wanted_by rfl rfl (hF.at 1 rfl) rfl) rfl rfl rfl ?_
  rintro e w6 ⟨rfl, bb⟩
  refine ⟨_, rfl, ?_⟩
  intro a hF
  replace bel := below_to bel bb
  clear bb
  refine E.opvg hF (r_move (hF.at 21 rfl)) (wanted_by rfl rfl (hF.at 2 rfl) rfl) rfl rfl rfl fun a hF => ?_
  refine E.callg hF (r_call Tryd.func17 en17.1 en17.2 (map1 (hF.at 0 rfl))) (rcos_any k _) (wanted_by rfl rfl (hF.at 3 rfl) rfl) rfl rfl rfl ?_
  rintro e w7 ⟨rfl, bb⟩
  refine ⟨_, rfl, ?_⟩
  intro a hF
  replace bel := below_to bel bb
  clear bb
  refine E.opvg hF (r_bin (hF.at 2 rfl) (hF.at 0 rfl) eg_scalar (bi_int (ic_eql (c := true) (by simp)) (by simp))) (wanted_by rfl rfl (hF.at 4 rfl) rfl) rfl rfl rfl fun a hF => ?_
  refine E.opv hF (r_pick_t (hF.at 5 rfl) (hF.at 0 rfl)) rfl rfl rfl rfl fun a hF => ?_
  refine E.opv hF (r_move (hF.at 0 rfl)) rfl rfl rfl rfl fun a hF => ?_
  refine E.opvg hF (r_move (hF.at 20 rfl)) (wanted_by rfl rfl (hF.at 0 rfl) rfl) rfl rfl rfl fun a hF => ?_
  refine E.opvg hF (r_move (hF.at 27 rfl)) (wanted_by rfl rfl (hF.at 1 rfl) rfl) rfl rfl rfl fun a hF => ?_
  refine E.callg hF (r_call Tryd.func17 en17.1 en17.2 (map1 (hF.at 0 rfl))) (rcos_any k _) (wanted_by rfl rfl (hF.at 2 rfl) rfl) rfl rfl rfl ?_
  rintro e w8 ⟨rfl, bb⟩
  refine ⟨_, rfl, ?_⟩
  intro a hF
  replace bel := below_to bel bb
  clear bb
  refine E.opvg hF (r_conv (hF.at 0 rfl) (cv_if Tryd.underlying3 Tryd.underlying28)) (wanted_by rfl rfl (hF.at 3 rfl) rfl) rfl rfl rfl fun a hF => ?_
  refine E.opvg hF (r_move (hF.at 30 rfl)) (wanted_by rfl rfl (hF.at 4 rfl) rfl) rfl rfl rfl fun a hF => ?_
  refine E.callg hF (r_call Tryd.func15 en15.1 en15.2 (map1 (hF.at 0 rfl))) (rsine_any k _) (wanted_by rfl rfl (hF.at 5 rfl) rfl) rfl rfl rfl ?_
  rintro e w9 ⟨rfl, bb⟩
  refine ⟨_, rfl, ?_⟩
  intro a hF
  replace bel := below_to bel bb
  clear bb
  refine E.opvg hF (r_conv (hF.at 0 rfl) (cv_if Tryd.underlying3 Tryd.underlying28)) (wanted_by rfl rfl (hF.at 6 rfl) rfl) rfl rfl rfl fun a hF => ?_
  refine E.opvg hF (r_builtin (map2 (hF.at 3 rfl) (hF.at 0 rfl)) cx_mk) (wanted_by rfl rfl (hF.at 7 rfl) rfl) rfl rfl rfl fun a hF => ?_
  by_cases hc10 : spk (k + 24) = spk (k + 24) ∧ spk (k) = spk k
  · first
    | (exfalso; omega)
    | (refine E.opvg hF (r_bin (hF.at 7 rfl) (hF.at 0 rfl) eg_cx (cx_eql ((cxq (fI_sp (k + 24)) (fI_sp (k)) (fI_sp _) (fI_sp _)).trans (dec_tt hc10)))) (wanted_by rfl rfl (hF.at 8 rfl) rfl) rfl rfl rfl fun a hF => ?_
       refine E.opv hF (r_pick_t (hF.at 9 rfl) (hF.at 0 rfl)) rfl rfl rfl rfl fun a hF => ?_
       refine E.opv hF (r_move (hF.at 0 rfl)) rfl rfl rfl rfl fun a hF => ?_
       refine E.opvg hF (r_move (hF.at 24 rfl)) (wanted_by rfl rfl (hF.at 0 rfl) rfl) rfl rfl rfl fun a hF => ?_
       refine E.opv hF (r_pick_t (hF.at 1 rfl) (hF.at 0 rfl)) rfl rfl rfl rfl fun a hF => ?_
       refine E.opv hF (r_move (hF.at 0 rfl)) rfl rfl rfl rfl fun a hF => ?_
       refine E.opvg hF (r_move (hF.at 28 rfl)) (wanted_by rfl rfl (hF.at 0 rfl) rfl) rfl rfl rfl fun a hF => ?_
       refine E.opvg hF (r_move (hF.at 41 rfl)) (wanted_by rfl rfl (hF.at 1 rfl) rfl) rfl rfl rfl fun a hF => ?_
       refine E.callg hF (r_call Tryd.func18 en18.1 en18.2 (map2 (hF.at 0 rfl) ev_c)) (dmod96_any k _) (wanted_by rfl rfl (hF.at 2 rfl) rfl) rfl rfl rfl ?_
       rintro e w11 ⟨rfl, bb⟩
       refine ⟨_, rfl, ?_⟩
       intro a hF
       replace bel := below_to bel bb
       clear bb
       by_cases hc12 : k % 96 = (k) % 96
       · first
         | (exfalso; omega)
         | (refine E.opvg hF (r_bin (hF.at 2 rfl) (hF.at 0 rfl) eg_scalar (bi_int (ic_eql (c := true) (dec_tt hc12)) (by simp))) (wanted_by rfl rfl (hF.at 3 rfl) rfl) rfl rfl rfl fun a hF => ?_
            refine E.opv hF (r_pick_t (hF.at 4 rfl) (hF.at 0 rfl)) rfl rfl rfl rfl fun a hF => ?_
            refine E.opv hF (r_move (hF.at 0 rfl)) rfl rfl rfl rfl fun a hF => ?_
            refine E.opvg hF (r_move (hF.at 46 rfl)) (wanted_by rfl rfl (hF.at 0 rfl) rfl) rfl rfl rfl fun a hF => ?_
            refine E.callg hF (r_call Tryd.func19 en19.1 en19.2 (map1 (hF.at 0 rfl))) (high_any k _ (hT.below bel)) (wanted_by rfl rfl (hF.at 1 rfl) rfl) rfl rfl rfl ?_
            rintro e w13 ⟨rfl, bb⟩
            refine ⟨_, rfl, ?_⟩
            intro a hF
            replace bel := below_to bel bb
            clear bb
            refine E.opvg hF (r_move (hF.at 48 rfl)) (wanted_by rfl rfl (hF.at 2 rfl) rfl) rfl rfl rfl fun a hF => ?_
            refine E.callg hF (r_call Tryd.func20 en20.1 en20.2 (map1 (hF.at 0 rfl))) (dhigh_any k _) (wanted_by rfl rfl (hF.at 3 rfl) rfl) rfl rfl rfl ?_
            rintro e w14 ⟨rfl, bb⟩
            refine ⟨_, rfl, ?_⟩
            intro a hF
            replace bel := below_to bel bb
            clear bb
            refine E.opvg hF (r_bin (hF.at 2 rfl) (hF.at 0 rfl) eg_scalar (bi_int (ic_eql (c := true) (by simp)) (by simp))) (wanted_by rfl rfl (hF.at 4 rfl) rfl) rfl rfl rfl fun a hF => ?_
            refine E.opv hF (r_pick_t (hF.at 5 rfl) (hF.at 0 rfl)) rfl rfl rfl rfl fun a hF => ?_
            refine E.opset (L' := [(2, .bool true), (53, .bool true), (52, .bool true), (51, .int .i64 (hiv k)), (50, .int .i64 k), (49, .int .i64 (hiv k)), (48, .int .i64 k), (47, .bool true), (46, .bool true), (45, .bool true), (44, .int .i64 ((k) % 96)), (43, .int .i64 k), (42, .int .i64 (k % 96)), (41, .bool true), (40, .bool true), (39, .bool true), (38, .bool true), (37, .bool true), (36, .bool true), (35, .complex .f64 (fI (spk (k + 24))) (fI (spk k))), (34, .float .f64 (fI (spk k))), (33, .int .i64 (spk k)), (32, .int .i64 k), (31, .float .f64 (fI (spk (k + 24)))), (30, .int .i64 (spk (k + 24))), (29, .int .i64 k), (28, .complex .f64 (fI (spk (k + 24))) (fI (spk (k)))), (27, .bool true), (26, .bool true), (25, .bool true), (24, .int .i64 (spk (k + 24))), (23, .int .i64 k), (22, .int .i64 (spk (k + 24))), (21, .int .i64 k), (20, .bool true), (19, .bool true), (18, .int .i64 (spk k)), (17, .int .i64 k), (16, .int .i64 (spk k)), (15, .int .i64 k), (5, .bool true), (4, .int .i64 (k % 96)), (14, .bool true), (13, .int .i64 (k % 96)), (10, .tuple #[.int .i64 (k % 96), .bool true]), (12, .tuple #[.int .i64 (k % 96), .bool true]), (11, .complex .f64 (fI (spk (k + 24))) (fI (spk (k)))), (3, .complex .f64 (fI (spk (k + 24))) (fI (spk (k)))), (9, .complex .f64 (fI (spk (k + 24))) (fI (spk (k)))), (8, .int .i64 k), (7, .bool false), (6, .bool true), (0, .int .i64 k)]) hF (r_assign (hF.at 0 rfl)) rfl rfl rfl rfl fun a hF => ?_
            refine E.nil ?_
            refine wp_ret ?_
            refine bodyPost_ret (res_tmp Tryd.results3 (hF.at 0 rfl)) hF.dfr ?_
            exact ⟨rfl, bel⟩)
       · first
         | (exfalso; omega)
         | (refine E.opvg hF (r_bin (hF.at 2 rfl) (hF.at 0 rfl) eg_scalar (bi_int (ic_eql (c := false) (dec_ff hc12)) (by simp))) (wanted_by rfl rfl (hF.at 3 rfl) rfl) rfl rfl rfl fun a hF => ?_
            refine E.opv hF (r_pick_t (hF.at 4 rfl) (hF.at 0 rfl)) rfl rfl rfl rfl fun a hF => ?_
            refine E.opv hF (r_move (hF.at 0 rfl)) rfl rfl rfl rfl fun a hF => ?_
            refine E.unwanted hF (wanted_by rfl rfl (hF.at 0 rfl) rfl) rfl rfl rfl fun a hF => ?_
            refine E.unwanted hF (wanted_by rfl rfl (hF.at 1 rfl) rfl) rfl rfl rfl fun a hF => ?_
            refine E.unwanted hF (wanted_by rfl rfl (hF.at 2 rfl) rfl) rfl rfl rfl fun a hF => ?_
            refine E.unwanted hF (wanted_by rfl rfl (hF.at 3 rfl) rfl) rfl rfl rfl fun a hF => ?_
            refine E.unwanted hF (wanted_by rfl rfl (hF.at 4 rfl) rfl) rfl rfl rfl fun a hF => ?_
            refine E.opv hF (r_pick_f (hF.at 5 rfl) ev_c) rfl rfl rfl rfl fun a hF => ?_
            refine E.opset (L' := [(2, .bool false), (53, .bool false), (52, undef), (51, undef), (50, undef), (49, undef), (48, undef), (47, .bool false), (46, .bool false), (45, .bool false), (44, .int .i64 ((k) % 96)), (43, .int .i64 k), (42, .int .i64 (k % 96)), (41, .bool true), (40, .bool true), (39, .bool true), (38, .bool true), (37, .bool true), (36, .bool true), (35, .complex .f64 (fI (spk (k + 24))) (fI (spk k))), (34, .float .f64 (fI (spk k))), (33, .int .i64 (spk k)), (32, .int .i64 k), (31, .float .f64 (fI (spk (k + 24)))), (30, .int .i64 (spk (k + 24))), (29, .int .i64 k), (28, .complex .f64 (fI (spk (k + 24))) (fI (spk (k)))), (27, .bool true), (26, .bool true), (25, .bool true), (24, .int .i64 (spk (k + 24))), (23, .int .i64 k), (22, .int .i64 (spk (k + 24))), (21, .int .i64 k), (20, .bool true), (19, .bool true), (18, .int .i64 (spk k)), (17, .int .i64 k), (16, .int .i64 (spk k)), (15, .int .i64 k), (5, .bool true), (4, .int .i64 (k % 96)), (14, .bool true), (13, .int .i64 (k % 96)), (10, .tuple #[.int .i64 (k % 96), .bool true]), (12, .tuple #[.int .i64 (k % 96), .bool true]), (11, .complex .f64 (fI (spk (k + 24))) (fI (spk (k)))), (3, .complex .f64 (fI (spk (k + 24))) (fI (spk (k)))), (9, .complex .f64 (fI (spk (k + 24))) (fI (spk (k)))), (8, .int .i64 k), (7, .bool false), (6, .bool true), (0, .int .i64 k)]) hF (r_assign (hF.at 0 rfl)) rfl rfl rfl rfl fun a hF => ?_
            refine E.nil ?_
            refine wp_ret ?_
            refine bodyPost_ret (res_tmp Tryd.results3 (hF.at 0 rfl)) hF.dfr ?_
            exact ⟨rfl, bel⟩))
  · first
    | (exfalso; omega)
    | (refine E.opvg hF (r_bin (hF.at 7 rfl) (hF.at 0 rfl) eg_cx (cx_eql ((cxq (fI_sp (k + 24)) (fI_sp (k)) (fI_sp _) (fI_sp _)).trans (dec_ff hc10)))) (wanted_by rfl rfl (hF.at 8 rfl) rfl) rfl rfl rfl fun a hF => ?_
       refine E.opv hF (r_pick_t (hF.at 9 rfl) (hF.at 0 rfl)) rfl rfl rfl rfl fun a hF => ?_
       refine E.opv hF (r_move (hF.at 0 rfl)) rfl rfl rfl rfl fun a hF => ?_
       refine E.unwanted hF (wanted_by rfl rfl (hF.at 0 rfl) rfl) rfl rfl rfl fun a hF => ?_
       refine E.opv hF (r_pick_f (hF.at 1 rfl) ev_c) rfl rfl rfl rfl fun a hF => ?_
       refine E.opv hF (r_move (hF.at 0 rfl)) rfl rfl rfl rfl fun a hF => ?_
       refine E.unwanted hF (wanted_by rfl rfl (hF.at 0 rfl) rfl) rfl rfl rfl fun a hF => ?_
       refine E.unwanted hF (wanted_by rfl rfl (hF.at 1 rfl) rfl) rfl rfl rfl fun a hF => ?_
       refine E.unwanted hF (wanted_by rfl rfl (hF.at 2 rfl) rfl) rfl rfl rfl fun a hF => ?_
       refine E.unwanted hF (wanted_by rfl rfl (hF.at 3 rfl) rfl) rfl rfl rfl fun a hF => ?_
       refine E.opv hF (r_pick_f (hF.at 4 rfl) ev_c) rfl rfl rfl rfl fun a hF => ?_
       refine E.opv hF (r_move (hF.at 0 rfl)) rfl rfl rfl rfl fun a hF => ?_
       refine E.unwanted hF (wanted_by rfl rfl (hF.at 0 rfl) rfl) rfl rfl rfl fun a hF => ?_
       refine E.unwanted hF (wanted_by rfl rfl (hF.at 1 rfl) rfl) rfl rfl rfl fun a hF => ?_
       refine E.unwanted hF (wanted_by rfl rfl (hF.at 2 rfl) rfl) rfl rfl rfl fun a hF => ?_
       refine E.unwanted hF (wanted_by rfl rfl (hF.at 3 rfl) rfl) rfl rfl rfl fun a hF => ?_
       refine E.unwanted hF (wanted_by rfl rfl (hF.at 4 rfl) rfl) rfl rfl rfl fun a hF => ?_
       refine E.opv hF (r_pick_f (hF.at 5 rfl) ev_c) rfl rfl rfl rfl fun a hF => ?_
       refine E.opset (L' := [(2, .bool false), (53, .bool false), (52, undef), (51, undef), (50, undef), (49, undef), (48, undef), (47, .bool false), (46, .bool false), (45, undef), (44, undef), (43, undef), (42, undef), (41, .bool false), (40, .bool false), (39, undef), (38, .bool false), (37, .bool false), (36, .bool false), (35, .complex .f64 (fI (spk (k + 24))) (fI (spk k))), (34, .float .f64 (fI (spk k))), (33, .int .i64 (spk k)), (32, .int .i64 k), (31, .float .f64 (fI (spk (k + 24)))), (30, .int .i64 (spk (k + 24))), (29, .int .i64 k), (28, .complex .f64 (fI (spk (k + 24))) (fI (spk (k)))), (27, .bool true), (26, .bool true), (25, .bool true), (24, .int .i64 (spk (k + 24))), (23, .int .i64 k), (22, .int .i64 (spk (k + 24))), (21, .int .i64 k), (20, .bool true), (19, .bool true), (18, .int .i64 (spk k)), (17, .int .i64 k), (16, .int .i64 (spk k)), (15, .int .i64 k), (5, .bool true), (4, .int .i64 (k % 96)), (14, .bool true), (13, .int .i64 (k % 96)), (10, .tuple #[.int .i64 (k % 96), .bool true]), (12, .tuple #[.int .i64 (k % 96), .bool true]), (11, .complex .f64 (fI (spk (k + 24))) (fI (spk (k)))), (3, .complex .f64 (fI (spk (k + 24))) (fI (spk (k)))), (9, .complex .f64 (fI (spk (k + 24))) (fI (spk (k)))), (8, .int .i64 k), (7, .bool false), (6, .bool true), (0, .int .i64 k)]) hF (r_assign (hF.at 0 rfl)) rfl rfl rfl rfl fun a hF => ?_
       refine E.nil ?_
       refine wp_ret ?_
       refine bodyPost_ret (res_tmp Tryd.results3 (hF.at 0 rfl)) hF.dfr ?_
       exact ⟨rfl, bel⟩)

set_option maxHeartbeats 8000000 in
theorem dialTurns_walk (k n : Int) (w : World) (hT : TabD w) :
    Calls Tryd.prog 4 #[.int .i64 k, .int .i64 n] w (ValPost w (.bool true)) := by
  have bel : Below w.heap.size w w := Below.refl _ _
  refine E.enter (nt := 57) (L := [(0, .int .i64 k), (1, .int .i64 n)]) Tryd.func4 rfl rfl rfl (args_cons (i := 0) rfl (args_cons (i := 1) rfl args_nil)) ?_
  intro a hF
  refine wp_seq ?_
  refine E.seq ?_
  refine E.opv hF (r_assign ev_c) rfl rfl rfl rfl fun a hF => ?_
  refine E.nil ?_
  refine wp_seq ?_
  refine wp_seq ?_
  refine E.seq ?_
  refine E.call hF (r_call Tryd.func11 en11.1 en11.2 map0) (awake9_any _ (hT.below bel)) rfl rfl rfl rfl ?_
  rintro e w1 ⟨rfl, bb⟩
  refine ⟨_, rfl, ?_⟩
  intro a hF
  replace bel := below_to bel bb
  clear bb
  refine E.opv hF (r_un (hF.at 0 rfl) (bn_not _ false rfl)) rfl rfl rfl rfl fun a hF => ?_
  refine E.nil ?_
  refine wp_cond_false (hF.at 0 rfl) ?_
  refine wp_skip ?_
  refine E.norm ?_
  refine wp_seq ?_
  refine E.seq ?_
  refine E.opv hF (r_move (hF.at 3 rfl)) rfl rfl rfl rfl fun a hF => ?_
  refine E.opv hF (r_bin (hF.at 0 rfl) ev_c eg_scalar (id_rem (a := k) (b := 1000000) (by omega))) rfl rfl rfl rfl fun a hF => ?_
  refine E.opv hF (r_move (hF.at 6 rfl)) rfl rfl rfl rfl fun a hF => ?_
  refine E.opv hF (r_bin (hF.at 0 rfl) ev_c eg_scalar (id_rem (a := n) (b := 1000000) (by omega))) rfl rfl rfl rfl fun a hF => ?_
  refine E.opset (L' := [(0, .int .i64 (if 0 ≤ k then k % 1000000 else -(-k % 1000000))), (11, .int .i64 (if 0 ≤ n then n % 1000000 else -(-n % 1000000))), (10, .int .i64 n), (9, .int .i64 (if 0 ≤ k then k % 1000000 else -(-k % 1000000))), (8, .int .i64 k), (7, .bool false), (6, .bool true), (4, .bool false), (1, .int .i64 n)]) hF (r_assign (hF.at 2 rfl)) rfl rfl rfl rfl fun a hF => ?_
  refine E.opset (L' := [(1, .int .i64 (if 0 ≤ n then n % 1000000 else -(-n % 1000000))), (0, .int .i64 (if 0 ≤ k then k % 1000000 else -(-k % 1000000))), (11, .int .i64 (if 0 ≤ n then n % 1000000 else -(-n % 1000000))), (10, .int .i64 n), (9, .int .i64 (if 0 ≤ k then k % 1000000 else -(-k % 1000000))), (8, .int .i64 k), (7, .bool false), (6, .bool true), (4, .bool false)]) hF (r_assign (hF.at 1 rfl)) rfl rfl rfl rfl fun a hF => ?_
  obtain ⟨K, hK⟩ : ∃ K : Int, K = (if 0 ≤ k then k % 1000000 else -(-k % 1000000)) := ⟨_, rfl⟩
  obtain ⟨M, hM⟩ : ∃ M : Int, M = (if 0 ≤ n then n % 1000000 else -(-n % 1000000)) := ⟨_, rfl⟩
  have hK1 : -1000000 < K ∧ K < 1000000 := by omega
  have hM1 : -1000000 < M ∧ M < 1000000 := by omega
  replace hF : Fr 57 a [(1, .int .i64 M), (0, .int .i64 K), (4, .bool false)] := by rw [hK, hM]; exact Fr.sub hF (by intro p hp; simp only [List.mem_cons, List.not_mem_nil, or_false] at hp ⊢; rcases hp with rfl | rfl | rfl <;> simp)
  clear hK hM
  refine E.nil ?_
  refine wp_seq ?_
  refine E.seq ?_
  refine E.opv hF (r_move (hF.at 1 rfl)) rfl rfl rfl rfl fun a hF => ?_
  refine E.call hF (r_call Tryd.func12 en12.1 en12.2 (map1 (hF.at 0 rfl))) (point_any K _ (hT.below bel)) rfl rfl rfl rfl ?_
  rintro e w2 ⟨rfl, bb⟩
  refine ⟨_, rfl, ?_⟩
  intro a hF
  replace bel := below_to bel bb
  clear bb
  refine E.opv hF (r_assign (hF.at 0 rfl)) rfl rfl rfl rfl fun a hF => ?_
  refine E.nil ?_
  refine wp_seq ?_
  refine wp_seq ?_
  refine E.seq ?_
  refine E.opv hF (r_move (hF.at 4 rfl)) rfl rfl rfl rfl fun a hF => ?_
  refine E.opv hF (r_move (hF.at 4 rfl)) rfl rfl rfl rfl fun a hF => ?_
  refine E.opv hF (r_bin ev_c (hF.at 0 rfl) eg_scalar (ia_mul (by omega) (by omega))) rfl rfl rfl rfl fun a hF => ?_
  refine E.opv hF (r_bin (hF.at 2 rfl) (hF.at 0 rfl) eg_scalar (ia_add (by omega) (by omega))) rfl rfl rfl rfl fun a hF => ?_
  refine E.call hF (r_call Tryd.func12 en12.1 en12.2 (map1 (hF.at 0 rfl))) (point_any (K + (24 * M)) _ (hT.below bel)) rfl rfl rfl rfl ?_
  rintro e w3 ⟨rfl, bb⟩
  refine ⟨_, rfl, ?_⟩
  intro a hF
  replace bel := below_to bel bb
  clear bb
  refine E.opv hF (r_move (hF.at 5 rfl)) rfl rfl rfl rfl fun a hF => ?_
  refine E.opv hF (r_move (hF.at 9 rfl)) rfl rfl rfl rfl fun a hF => ?_
  refine E.call hF (r_call Tryd.func21 en21.1 en21.2 (map2 (hF.at 1 rfl) (hF.at 0 rfl))) (turn_any K M _) rfl rfl rfl rfl ?_
  rintro e w4 ⟨rfl, bb⟩
  refine ⟨_, rfl, ?_⟩
  intro a hF
  replace bel := below_to bel bb
  clear bb
  refine E.opv hF (r_bin (hF.at 3 rfl) (hF.at 0 rfl) eg_cx (cx_neq (by rw [((cxq (fI_sp ((K + (24 * M)) + 24)) (fI_sp ((K + (24 * M)))) (fI_sp (K + 24 * M + 24)) (fI_sp (K + 24 * M))).trans (dec_tt ⟨(sp_cong (by omega)), (sp_cong (by omega))⟩))]))) rfl rfl rfl rfl fun a hF => ?_
  refine E.opv hF (r_move (hF.at 0 rfl)) rfl rfl rfl rfl fun a hF => ?_
  refine E.opvg hF (r_move (hF.at 14 rfl)) (wanted_by rfl rfl (hF.at 0 rfl) rfl) rfl rfl rfl fun a hF => ?_
  refine E.opvg hF (r_bin (hF.at 0 rfl) ev_c eg_scalar (ia_add (by omega) (by omega))) (wanted_by rfl rfl (hF.at 1 rfl) rfl) rfl rfl rfl fun a hF => ?_
  refine E.callg hF (r_call Tryd.func12 en12.1 en12.2 (map1 (hF.at 0 rfl))) (point_any (K + 48) _ (hT.below bel)) (wanted_by rfl rfl (hF.at 2 rfl) rfl) rfl rfl rfl ?_
  rintro e w5 ⟨rfl, bb⟩
  refine ⟨_, rfl, ?_⟩
  intro a hF
  replace bel := below_to bel bb
  clear bb
  refine E.opvg hF (r_move (hF.at 13 rfl)) (wanted_by rfl rfl (hF.at 3 rfl) rfl) rfl rfl rfl fun a hF => ?_
  refine E.opvg hF (r_un (hF.at 0 rfl) cx_neg) (wanted_by rfl rfl (hF.at 4 rfl) rfl) rfl rfl rfl fun a hF => ?_
  refine E.opvg hF (r_bin (hF.at 2 rfl) (hF.at 0 rfl) eg_cx (cx_neq (by rw [((cxq (fI_sp ((K + 48) + 24)) (fI_sp ((K + 48))) (fneg_sp (K + 24)) (fneg_sp (K))).trans (dec_tt ⟨(by rw [show K + 48 + 24 = K + 24 + 48 by omega]; exact sp_opp _), (sp_opp K)⟩))]))) (wanted_by rfl rfl (hF.at 5 rfl) rfl) rfl rfl rfl fun a hF => ?_
  refine E.opv hF (r_pick_f (hF.at 6 rfl) (hF.at 0 rfl)) rfl rfl rfl rfl fun a hF => ?_
  refine E.opv hF (r_move (hF.at 0 rfl)) rfl rfl rfl rfl fun a hF => ?_
  refine E.opvg hF (r_move (hF.at 22 rfl)) (wanted_by rfl rfl (hF.at 0 rfl) rfl) rfl rfl rfl fun a hF => ?_
  refine E.opvg hF (r_un (hF.at 0 rfl) (bn_neg (by omega) (by omega))) (wanted_by rfl rfl (hF.at 1 rfl) rfl) rfl rfl rfl fun a hF => ?_
  refine E.callg hF (r_call Tryd.func12 en12.1 en12.2 (map1 (hF.at 0 rfl))) (point_any (-K) _ (hT.below bel)) (wanted_by rfl rfl (hF.at 2 rfl) rfl) rfl rfl rfl ?_
  rintro e w6 ⟨rfl, bb⟩
  refine ⟨_, rfl, ?_⟩
  intro a hF
  replace bel := below_to bel bb
  clear bb
  refine E.opvg hF (r_move (hF.at 21 rfl)) (wanted_by rfl rfl (hF.at 3 rfl) rfl) rfl rfl rfl fun a hF => ?_
  refine E.opvg hF (r_builtin (map1 (hF.at 0 rfl)) cx_re) (wanted_by rfl rfl (hF.at 4 rfl) rfl) rfl rfl rfl fun a hF => ?_
  refine E.opvg hF (r_move (hF.at 23 rfl)) (wanted_by rfl rfl (hF.at 5 rfl) rfl) rfl rfl rfl fun a hF => ?_
  refine E.opvg hF (r_builtin (map1 (hF.at 0 rfl)) cx_im) (wanted_by rfl rfl (hF.at 6 rfl) rfl) rfl rfl rfl fun a hF => ?_
  refine E.opvg hF (r_un (hF.at 0 rfl) fl_neg1) (wanted_by rfl rfl (hF.at 7 rfl) rfl) rfl rfl rfl fun a hF => ?_
  refine E.opvg hF (r_builtin (map2 (hF.at 3 rfl) (hF.at 0 rfl)) cx_mk) (wanted_by rfl rfl (hF.at 8 rfl) rfl) rfl rfl rfl fun a hF => ?_
  refine E.opvg hF (r_bin (hF.at 6 rfl) (hF.at 0 rfl) eg_cx (cx_neq (by rw [((cxq (fI_sp ((-K) + 24)) (fI_sp ((-K))) (fI_sp (K + 24)) (fneg_sp (K))).trans (dec_tt ⟨(by rw [← sp_half]; exact sp_cong (by omega)), (sp_neg K)⟩))]))) (wanted_by rfl rfl (hF.at 9 rfl) rfl) rfl rfl rfl fun a hF => ?_
  refine E.opv hF (r_pick_f (hF.at 10 rfl) (hF.at 0 rfl)) rfl rfl rfl rfl fun a hF => ?_
  refine E.nil ?_
  refine wp_cond_false (hF.at 0 rfl) ?_
  refine wp_skip ?_
  refine E.norm ?_
  refine wp_seq ?_
  refine E.seq ?_
  refine E.opv hF (r_move (hF.at 29 rfl)) rfl rfl rfl rfl fun a hF => ?_
  refine E.opv hF (r_move (hF.at 33 rfl)) rfl rfl rfl rfl fun a hF => ?_
  refine E.call hF (r_call Tryd.func21 en21.1 en21.2 (map2 (hF.at 1 rfl) (hF.at 0 rfl))) (turn_any K M _) rfl rfl rfl rfl ?_
  rintro e w7 ⟨rfl, bb⟩
  refine ⟨_, rfl, ?_⟩
  intro a hF
  replace bel := below_to bel bb
  clear bb
  refine E.opv hF (r_move (hF.at 35 rfl)) rfl rfl rfl rfl fun a hF => ?_
  refine E.opv hF (r_un (hF.at 0 rfl) (bn_neg (by omega) (by omega))) rfl rfl rfl rfl fun a hF => ?_
  refine E.call hF (r_call Tryd.func21 en21.1 en21.2 (map2 (hF.at 2 rfl) (hF.at 0 rfl))) (turn_any (K + 24 * M) (-M) _) rfl rfl rfl rfl ?_
  rintro e w8 ⟨rfl, bb⟩
  refine ⟨_, rfl, ?_⟩
  intro a hF
  replace bel := below_to bel bb
  clear bb
  refine E.opv hF (r_move (hF.at 35 rfl)) rfl rfl rfl rfl fun a hF => ?_
  refine E.opv hF (r_bin (hF.at 1 rfl) (hF.at 0 rfl) eg_cx (cx_eql ((cxq (fI_sp ((K + 24 * M) + 24 * (-M) + 24)) (fI_sp ((K + 24 * M) + 24 * (-M))) (fI_sp (K + 24)) (fI_sp (K))).trans (dec_tt ⟨(sp_cong (by omega)), (sp_cong (by omega))⟩)))) rfl rfl rfl rfl fun a hF => ?_
  refine E.opv hF (r_move (hF.at 0 rfl)) rfl rfl rfl rfl fun a hF => ?_
  refine E.opvg hF (r_move (hF.at 38 rfl)) (wanted_by rfl rfl (hF.at 0 rfl) rfl) rfl rfl rfl fun a hF => ?_
  refine E.callg hF (r_call Tryd.func21 en21.1 en21.2 (map2 (hF.at 0 rfl) ev_c)) (turn_any K 4 _) (wanted_by rfl rfl (hF.at 1 rfl) rfl) rfl rfl rfl ?_
  rintro e w9 ⟨rfl, bb⟩
  refine ⟨_, rfl, ?_⟩
  intro a hF
  replace bel := below_to bel bb
  clear bb
  refine E.opvg hF (r_move (hF.at 40 rfl)) (wanted_by rfl rfl (hF.at 2 rfl) rfl) rfl rfl rfl fun a hF => ?_
  refine E.opvg hF (r_bin (hF.at 1 rfl) (hF.at 0 rfl) eg_cx (cx_eql ((cxq (fI_sp (K + 24 * 4 + 24)) (fI_sp (K + 24 * 4)) (fI_sp (K + 24)) (fI_sp (K))).trans (dec_tt ⟨(sp_cong (by omega)), (sp_cong (by omega))⟩)))) (wanted_by rfl rfl (hF.at 3 rfl) rfl) rfl rfl rfl fun a hF => ?_
  refine E.opv hF (r_pick_t (hF.at 4 rfl) (hF.at 0 rfl)) rfl rfl rfl rfl fun a hF => ?_
  refine E.opset (L' := [(4, .bool true), (56, .bool true), (55, .bool true), (54, .complex .f64 (fI (spk (K + 24))) (fI (spk (K)))), (53, .complex .f64 (fI (spk (K + 24 * 4 + 24))) (fI (spk (K + 24 * 4)))), (52, .complex .f64 (fI (spk (K + 24))) (fI (spk (K)))), (51, .bool true), (50, .bool true), (49, .complex .f64 (fI (spk (K + 24))) (fI (spk (K)))), (48, .complex .f64 (fI (spk ((K + 24 * M) + 24 * (-M) + 24))) (fI (spk ((K + 24 * M) + 24 * (-M))))), (47, .int .i64 (-M)), (46, .int .i64 M), (45, .complex .f64 (fI (spk (K + 24 * M + 24))) (fI (spk (K + 24 * M)))), (44, .int .i64 M), (43, .complex .f64 (fI (spk (K + 24))) (fI (spk (K)))), (42, .bool false), (41, .bool false), (40, .complex .f64 (fI (spk (K + 24))) (Op.negFloat .f64 (fI (spk (K))))), (39, .float .f64 (Op.negFloat .f64 (fI (spk (K))))), (38, .float .f64 (fI (spk (K)))), (37, .complex .f64 (fI (spk (K + 24))) (fI (spk (K)))), (36, .float .f64 (fI (spk (K + 24)))), (35, .complex .f64 (fI (spk (K + 24))) (fI (spk (K)))), (34, .complex .f64 (fI (spk ((-K) + 24))) (fI (spk ((-K))))), (33, .int .i64 (-K)), (32, .int .i64 K), (31, .bool false), (30, .bool false), (29, .bool false), (28, .complex .f64 (Op.negFloat .f64 (fI (spk (K + 24)))) (Op.negFloat .f64 (fI (spk (K))))), (27, .complex .f64 (fI (spk (K + 24))) (fI (spk (K)))), (26, .complex .f64 (fI (spk ((K + 48) + 24))) (fI (spk ((K + 48))))), (25, .int .i64 (K + 48)), (24, .int .i64 K), (23, .bool false), (22, .bool false), (21, .complex .f64 (fI (spk (K + 24 * M + 24))) (fI (spk (K + 24 * M)))), (20, .int .i64 M), (19, .complex .f64 (fI (spk (K + 24))) (fI (spk (K)))), (18, .complex .f64 (fI (spk ((K + (24 * M)) + 24))) (fI (spk ((K + (24 * M)))))), (17, .int .i64 (K + (24 * M))), (16, .int .i64 (24 * M)), (15, .int .i64 M), (14, .int .i64 K), (5, .complex .f64 (fI (spk (K + 24))) (fI (spk (K)))), (13, .complex .f64 (fI (spk (K + 24))) (fI (spk (K)))), (12, .int .i64 K), (1, .int .i64 M), (0, .int .i64 K)]) hF (r_assign (hF.at 0 rfl)) rfl rfl rfl rfl fun a hF => ?_
  refine E.nil ?_
  refine wp_ret ?_
  refine bodyPost_ret (res_tmp Tryd.results4 (hF.at 0 rfl)) hF.dfr ?_
  exact ⟨rfl, bel⟩

theorem sq_rng (k : Int) : -9223372036854775808 ≤ spk k * spk k ∧ spk k * spk k ≤ 9223372036854775807 := by have := sp_sq k; omega
set_option maxHeartbeats 8000000 in
theorem dialRound_walk (k n : Int) (w : World) (hT : TabD w) :
    Calls Tryd.prog 5 #[.int .i64 k, .int .i64 n] w (ValPost w (.bool true)) := by
  have hs1 := sp_sq k
  have hs2 := sp_sq (k + 24)
  have hct := (circ_tab k).1
  have hlt := hiv_lt (a := k % 25) (b := n % 25) (by omega) (by omega) (by omega) (by omega)
  have bel : Below w.heap.size w w := Below.refl _ _
  refine E.enter (nt := 46) (L := [(0, .int .i64 k), (1, .int .i64 n)]) Tryd.func5 rfl rfl rfl (args_cons (i := 0) rfl (args_cons (i := 1) rfl args_nil)) ?_
  intro a hF
  refine wp_seq ?_
  refine E.seq ?_
  refine E.opv hF (r_assign ev_c) rfl rfl rfl rfl fun a hF => ?_
  refine E.nil ?_
  refine wp_seq ?_
  refine E.seq ?_
  refine E.opv hF (r_move (hF.at 1 rfl)) rfl rfl rfl rfl fun a hF => ?_
  refine E.call hF (r_call Tryd.func16 en16.1 en16.2 (map1 (hF.at 0 rfl))) (dcos_any k _ (hT.below bel)) rfl rfl rfl rfl ?_
  rintro e w1 ⟨rfl, bb⟩
  refine ⟨_, rfl, ?_⟩
  intro a hF
  replace bel := below_to bel bb
  clear bb
  refine E.opv hF (r_move (hF.at 3 rfl)) rfl rfl rfl rfl fun a hF => ?_
  refine E.call hF (r_call Tryd.func14 en14.1 en14.2 (map1 (hF.at 0 rfl))) (dsine_any k _ (hT.below bel)) rfl rfl rfl rfl ?_
  rintro e w2 ⟨rfl, bb⟩
  refine ⟨_, rfl, ?_⟩
  intro a hF
  replace bel := below_to bel bb
  clear bb
  refine E.opv hF (r_assign (hF.at 2 rfl)) rfl rfl rfl rfl fun a hF => ?_
  refine E.opv hF (r_assign (hF.at 1 rfl)) rfl rfl rfl rfl fun a hF => ?_
  refine E.nil ?_
  refine wp_seq ?_
  refine E.seq ?_
  refine E.opv hF (r_move (hF.at 1 rfl)) rfl rfl rfl rfl fun a hF => ?_
  refine E.opv hF (r_move (hF.at 2 rfl)) rfl rfl rfl rfl fun a hF => ?_
  refine E.opv hF (r_bin (hF.at 1 rfl) (hF.at 0 rfl) eg_scalar (ia_mul (sq_rng (k + 24)).1 (sq_rng (k + 24)).2)) rfl rfl rfl rfl fun a hF => ?_
  refine E.opv hF (r_move (hF.at 3 rfl)) rfl rfl rfl rfl fun a hF => ?_
  refine E.opv hF (r_move (hF.at 4 rfl)) rfl rfl rfl rfl fun a hF => ?_
  refine E.opv hF (r_bin (hF.at 1 rfl) (hF.at 0 rfl) eg_scalar (ia_mul (sq_rng k).1 (sq_rng k).2)) rfl rfl rfl rfl fun a hF => ?_
  refine E.opv hF (r_bin (hF.at 3 rfl) (hF.at 0 rfl) eg_scalar (ia_add (by omega) (by omega))) rfl rfl rfl rfl fun a hF => ?_
  refine E.opv hF (r_bin (hF.at 0 rfl) ev_c eg_scalar (ia_sub (by omega) (by omega))) rfl rfl rfl rfl fun a hF => ?_
  refine E.opv hF (r_assign (hF.at 0 rfl)) rfl rfl rfl rfl fun a hF => ?_
  refine E.nil ?_
  refine wp_seq ?_
  refine E.seq ?_
  refine E.opv hF (r_move (hF.at 16 rfl)) rfl rfl rfl rfl fun a hF => ?_
  refine E.call hF (r_call Tryd.func18 en18.1 en18.2 (map2 (hF.at 0 rfl) ev_c)) (dmod25_any k _) rfl rfl rfl rfl ?_
  rintro e w3 ⟨rfl, bb⟩
  refine ⟨_, rfl, ?_⟩
  intro a hF
  replace bel := below_to bel bb
  clear bb
  refine E.opv hF (r_move (hF.at 19 rfl)) rfl rfl rfl rfl fun a hF => ?_
  refine E.call hF (r_call Tryd.func18 en18.1 en18.2 (map2 (hF.at 0 rfl) ev_c)) (dmod25_any n _) rfl rfl rfl rfl ?_
  rintro e w4 ⟨rfl, bb⟩
  refine ⟨_, rfl, ?_⟩
  intro a hF
  replace bel := below_to bel bb
  clear bb
  refine E.opv hF (r_assign (hF.at 2 rfl)) rfl rfl rfl rfl fun a hF => ?_
  refine E.opv hF (r_assign (hF.at 1 rfl)) rfl rfl rfl rfl fun a hF => ?_
  refine E.nil ?_
  refine wp_seq ?_
  refine E.seq ?_
  refine E.call hF (r_call Tryd.func11 en11.1 en11.2 map0) (awake9_any _ (hT.below bel)) rfl rfl rfl rfl ?_
  rintro e w5 ⟨rfl, bb⟩
  refine ⟨_, rfl, ?_⟩
  intro a hF
  replace bel := below_to bel bb
  clear bb
  refine E.opv hF (r_move (hF.at 0 rfl)) rfl rfl rfl rfl fun a hF => ?_
  refine E.opvg hF (r_move (hF.at 8 rfl)) (wanted_by rfl rfl (hF.at 0 rfl) rfl) rfl rfl rfl fun a hF => ?_
  by_cases hc6 : (((spk (k + 24)) * (spk (k + 24))) + ((spk k) * (spk k))) - 11819844 ≤ 4000
  · first
    | (exfalso; omega)
    | (refine E.opvg hF (r_bin (hF.at 0 rfl) ev_c eg_scalar (bi_int (ic_leq (c := true) (dec_tt hc6)) (by simp))) (wanted_by rfl rfl (hF.at 1 rfl) rfl) rfl rfl rfl fun a hF => ?_
       refine E.opv hF (r_pick_t (hF.at 2 rfl) (hF.at 0 rfl)) rfl rfl rfl rfl fun a hF => ?_
       refine E.opv hF (r_move (hF.at 0 rfl)) rfl rfl rfl rfl fun a hF => ?_
       refine E.opvg hF (r_move (hF.at 12 rfl)) (wanted_by rfl rfl (hF.at 0 rfl) rfl) rfl rfl rfl fun a hF => ?_
       by_cases hc7 : (-4000) ≤ (((spk (k + 24)) * (spk (k + 24))) + ((spk k) * (spk k))) - 11819844
       · first
         | (exfalso; omega)
         | (refine E.opvg hF (r_bin (hF.at 0 rfl) ev_c eg_scalar (bi_int (ic_geq (c := true) (dec_tt hc7)) (by simp))) (wanted_by rfl rfl (hF.at 1 rfl) rfl) rfl rfl rfl fun a hF => ?_
            refine E.opv hF (r_pick_t (hF.at 2 rfl) (hF.at 0 rfl)) rfl rfl rfl rfl fun a hF => ?_
            refine E.opv hF (r_move (hF.at 0 rfl)) rfl rfl rfl rfl fun a hF => ?_
            refine E.opvg hF (r_move (hF.at 11 rfl)) (wanted_by rfl rfl (hF.at 0 rfl) rfl) rfl rfl rfl fun a hF => ?_
            refine E.callg hF (r_call Tryd.func19 en19.1 en19.2 (map1 (hF.at 0 rfl))) (high_any ((k) % 25) _ (hT.below bel)) (wanted_by rfl rfl (hF.at 1 rfl) rfl) rfl rfl rfl ?_
            rintro e w8 ⟨rfl, bb⟩
            refine ⟨_, rfl, ?_⟩
            intro a hF
            replace bel := below_to bel bb
            clear bb
            refine E.opvg hF (r_move (hF.at 12 rfl)) (wanted_by rfl rfl (hF.at 2 rfl) rfl) rfl rfl rfl fun a hF => ?_
            refine E.callg hF (r_call Tryd.func19 en19.1 en19.2 (map1 (hF.at 0 rfl))) (high_any ((n) % 25) _ (hT.below bel)) (wanted_by rfl rfl (hF.at 3 rfl) rfl) rfl rfl rfl ?_
            rintro e w9 ⟨rfl, bb⟩
            refine ⟨_, rfl, ?_⟩
            intro a hF
            replace bel := below_to bel bb
            clear bb
            by_cases hc10 : hiv ((k) % 25) < hiv ((n) % 25)
            · first
              | (exfalso; omega)
              | (refine E.opvg hF (r_bin (hF.at 2 rfl) (hF.at 0 rfl) eg_scalar (bi_int (ic_lss (c := true) (dec_tt hc10)) (by simp))) (wanted_by rfl rfl (hF.at 4 rfl) rfl) rfl rfl rfl fun a hF => ?_
                 refine E.opvg hF (r_move (hF.at 16 rfl)) (wanted_by rfl rfl (hF.at 5 rfl) rfl) rfl rfl rfl fun a hF => ?_
                 refine E.opvg hF (r_move (hF.at 16 rfl)) (wanted_by rfl rfl (hF.at 6 rfl) rfl) rfl rfl rfl fun a hF => ?_
                 by_cases hc11 : (k) % 25 < (n) % 25
                 · first
                   | (exfalso; omega)
                   | (refine E.opvg hF (r_bin (hF.at 1 rfl) (hF.at 0 rfl) eg_scalar (bi_int (ic_lss (c := true) (dec_tt hc11)) (by simp))) (wanted_by rfl rfl (hF.at 7 rfl) rfl) rfl rfl rfl fun a hF => ?_
                      refine E.opvg hF (r_bin (hF.at 3 rfl) (hF.at 0 rfl) eg_bool (bb_eql (d := true) rfl)) (wanted_by rfl rfl (hF.at 8 rfl) rfl) rfl rfl rfl fun a hF => ?_
                      refine E.opv hF (r_pick_t (hF.at 9 rfl) (hF.at 0 rfl)) rfl rfl rfl rfl fun a hF => ?_
                      refine E.opset (L' := [(4, .bool true), (45, .bool true), (44, .bool true), (43, .bool true), (42, .int .i64 ((n) % 25)), (41, .int .i64 ((k) % 25)), (40, .bool true), (39, .int .i64 (hiv ((n) % 25))), (38, .int .i64 ((n) % 25)), (37, .int .i64 (hiv ((k) % 25))), (36, .int .i64 ((k) % 25)), (35, .bool true), (34, .bool true), (33, .bool true), (32, .int .i64 ((((spk (k + 24)) * (spk (k + 24))) + ((spk k) * (spk k))) - 11819844)), (31, .bool true), (30, .bool true), (29, .bool true), (28, .int .i64 ((((spk (k + 24)) * (spk (k + 24))) + ((spk k) * (spk k))) - 11819844)), (27, .bool true), (26, .bool true), (9, .int .i64 ((n) % 25)), (8, .int .i64 ((k) % 25)), (25, .int .i64 ((n) % 25)), (24, .int .i64 n), (23, .int .i64 ((k) % 25)), (22, .int .i64 k), (7, .int .i64 ((((spk (k + 24)) * (spk (k + 24))) + ((spk k) * (spk k))) - 11819844)), (21, .int .i64 ((((spk (k + 24)) * (spk (k + 24))) + ((spk k) * (spk k))) - 11819844)), (20, .int .i64 (((spk (k + 24)) * (spk (k + 24))) + ((spk k) * (spk k)))), (19, .int .i64 ((spk k) * (spk k))), (18, .int .i64 (spk k)), (17, .int .i64 (spk k)), (16, .int .i64 ((spk (k + 24)) * (spk (k + 24)))), (15, .int .i64 (spk (k + 24))), (14, .int .i64 (spk (k + 24))), (6, .int .i64 (spk k)), (5, .int .i64 (spk (k + 24))), (13, .int .i64 (spk k)), (12, .int .i64 k), (11, .int .i64 (spk (k + 24))), (10, .int .i64 k), (0, .int .i64 k), (1, .int .i64 n)]) hF (r_assign (hF.at 0 rfl)) rfl rfl rfl rfl fun a hF => ?_
                      refine E.nil ?_
                      refine wp_ret ?_
                      refine bodyPost_ret (res_tmp Tryd.results5 (hF.at 0 rfl)) hF.dfr ?_
                      exact ⟨rfl, bel⟩)
                 · first
                   | (exfalso; omega)
                   | (refine E.opvg hF (r_bin (hF.at 1 rfl) (hF.at 0 rfl) eg_scalar (bi_int (ic_lss (c := false) (dec_ff hc11)) (by simp))) (wanted_by rfl rfl (hF.at 7 rfl) rfl) rfl rfl rfl fun a hF => ?_
                      refine E.opvg hF (r_bin (hF.at 3 rfl) (hF.at 0 rfl) eg_bool (bb_eql (d := false) rfl)) (wanted_by rfl rfl (hF.at 8 rfl) rfl) rfl rfl rfl fun a hF => ?_
                      refine E.opv hF (r_pick_t (hF.at 9 rfl) (hF.at 0 rfl)) rfl rfl rfl rfl fun a hF => ?_
                      refine E.opset (L' := [(4, .bool false), (45, .bool false), (44, .bool false), (43, .bool false), (42, .int .i64 ((n) % 25)), (41, .int .i64 ((k) % 25)), (40, .bool true), (39, .int .i64 (hiv ((n) % 25))), (38, .int .i64 ((n) % 25)), (37, .int .i64 (hiv ((k) % 25))), (36, .int .i64 ((k) % 25)), (35, .bool true), (34, .bool true), (33, .bool true), (32, .int .i64 ((((spk (k + 24)) * (spk (k + 24))) + ((spk k) * (spk k))) - 11819844)), (31, .bool true), (30, .bool true), (29, .bool true), (28, .int .i64 ((((spk (k + 24)) * (spk (k + 24))) + ((spk k) * (spk k))) - 11819844)), (27, .bool true), (26, .bool true), (9, .int .i64 ((n) % 25)), (8, .int .i64 ((k) % 25)), (25, .int .i64 ((n) % 25)), (24, .int .i64 n), (23, .int .i64 ((k) % 25)), (22, .int .i64 k), (7, .int .i64 ((((spk (k + 24)) * (spk (k + 24))) + ((spk k) * (spk k))) - 11819844)), (21, .int .i64 ((((spk (k + 24)) * (spk (k + 24))) + ((spk k) * (spk k))) - 11819844)), (20, .int .i64 (((spk (k + 24)) * (spk (k + 24))) + ((spk k) * (spk k)))), (19, .int .i64 ((spk k) * (spk k))), (18, .int .i64 (spk k)), (17, .int .i64 (spk k)), (16, .int .i64 ((spk (k + 24)) * (spk (k + 24)))), (15, .int .i64 (spk (k + 24))), (14, .int .i64 (spk (k + 24))), (6, .int .i64 (spk k)), (5, .int .i64 (spk (k + 24))), (13, .int .i64 (spk k)), (12, .int .i64 k), (11, .int .i64 (spk (k + 24))), (10, .int .i64 k), (0, .int .i64 k), (1, .int .i64 n)]) hF (r_assign (hF.at 0 rfl)) rfl rfl rfl rfl fun a hF => ?_
                      refine E.nil ?_
                      refine wp_ret ?_
                      refine bodyPost_ret (res_tmp Tryd.results5 (hF.at 0 rfl)) hF.dfr ?_
                      exact ⟨rfl, bel⟩))
            · first
              | (exfalso; omega)
              | (refine E.opvg hF (r_bin (hF.at 2 rfl) (hF.at 0 rfl) eg_scalar (bi_int (ic_lss (c := false) (dec_ff hc10)) (by simp))) (wanted_by rfl rfl (hF.at 4 rfl) rfl) rfl rfl rfl fun a hF => ?_
                 refine E.opvg hF (r_move (hF.at 16 rfl)) (wanted_by rfl rfl (hF.at 5 rfl) rfl) rfl rfl rfl fun a hF => ?_
                 refine E.opvg hF (r_move (hF.at 16 rfl)) (wanted_by rfl rfl (hF.at 6 rfl) rfl) rfl rfl rfl fun a hF => ?_
                 by_cases hc12 : (k) % 25 < (n) % 25
                 · first
                   | (exfalso; omega)
                   | (refine E.opvg hF (r_bin (hF.at 1 rfl) (hF.at 0 rfl) eg_scalar (bi_int (ic_lss (c := true) (dec_tt hc12)) (by simp))) (wanted_by rfl rfl (hF.at 7 rfl) rfl) rfl rfl rfl fun a hF => ?_
                      refine E.opvg hF (r_bin (hF.at 3 rfl) (hF.at 0 rfl) eg_bool (bb_eql (d := false) rfl)) (wanted_by rfl rfl (hF.at 8 rfl) rfl) rfl rfl rfl fun a hF => ?_
                      refine E.opv hF (r_pick_t (hF.at 9 rfl) (hF.at 0 rfl)) rfl rfl rfl rfl fun a hF => ?_
                      refine E.opset (L' := [(4, .bool false), (45, .bool false), (44, .bool false), (43, .bool true), (42, .int .i64 ((n) % 25)), (41, .int .i64 ((k) % 25)), (40, .bool false), (39, .int .i64 (hiv ((n) % 25))), (38, .int .i64 ((n) % 25)), (37, .int .i64 (hiv ((k) % 25))), (36, .int .i64 ((k) % 25)), (35, .bool true), (34, .bool true), (33, .bool true), (32, .int .i64 ((((spk (k + 24)) * (spk (k + 24))) + ((spk k) * (spk k))) - 11819844)), (31, .bool true), (30, .bool true), (29, .bool true), (28, .int .i64 ((((spk (k + 24)) * (spk (k + 24))) + ((spk k) * (spk k))) - 11819844)), (27, .bool true), (26, .bool true), (9, .int .i64 ((n) % 25)), (8, .int .i64 ((k) % 25)), (25, .int .i64 ((n) % 25)), (24, .int .i64 n), (23, .int .i64 ((k) % 25)), (22, .int .i64 k), (7, .int .i64 ((((spk (k + 24)) * (spk (k + 24))) + ((spk k) * (spk k))) - 11819844)), (21, .int .i64 ((((spk (k + 24)) * (spk (k + 24))) + ((spk k) * (spk k))) - 11819844)), (20, .int .i64 (((spk (k + 24)) * (spk (k + 24))) + ((spk k) * (spk k)))), (19, .int .i64 ((spk k) * (spk k))), (18, .int .i64 (spk k)), (17, .int .i64 (spk k)), (16, .int .i64 ((spk (k + 24)) * (spk (k + 24)))), (15, .int .i64 (spk (k + 24))), (14, .int .i64 (spk (k + 24))), (6, .int .i64 (spk k)), (5, .int .i64 (spk (k + 24))), (13, .int .i64 (spk k)), (12, .int .i64 k), (11, .int .i64 (spk (k + 24))), (10, .int .i64 k), (0, .int .i64 k), (1, .int .i64 n)]) hF (r_assign (hF.at 0 rfl)) rfl rfl rfl rfl fun a hF => ?_
                      refine E.nil ?_
                      refine wp_ret ?_
                      refine bodyPost_ret (res_tmp Tryd.results5 (hF.at 0 rfl)) hF.dfr ?_
                      exact ⟨rfl, bel⟩)
                 · first
                   | (exfalso; omega)
                   | (refine E.opvg hF (r_bin (hF.at 1 rfl) (hF.at 0 rfl) eg_scalar (bi_int (ic_lss (c := false) (dec_ff hc12)) (by simp))) (wanted_by rfl rfl (hF.at 7 rfl) rfl) rfl rfl rfl fun a hF => ?_
                      refine E.opvg hF (r_bin (hF.at 3 rfl) (hF.at 0 rfl) eg_bool (bb_eql (d := true) rfl)) (wanted_by rfl rfl (hF.at 8 rfl) rfl) rfl rfl rfl fun a hF => ?_
                      refine E.opv hF (r_pick_t (hF.at 9 rfl) (hF.at 0 rfl)) rfl rfl rfl rfl fun a hF => ?_
                      refine E.opset (L' := [(4, .bool true), (45, .bool true), (44, .bool true), (43, .bool false), (42, .int .i64 ((n) % 25)), (41, .int .i64 ((k) % 25)), (40, .bool false), (39, .int .i64 (hiv ((n) % 25))), (38, .int .i64 ((n) % 25)), (37, .int .i64 (hiv ((k) % 25))), (36, .int .i64 ((k) % 25)), (35, .bool true), (34, .bool true), (33, .bool true), (32, .int .i64 ((((spk (k + 24)) * (spk (k + 24))) + ((spk k) * (spk k))) - 11819844)), (31, .bool true), (30, .bool true), (29, .bool true), (28, .int .i64 ((((spk (k + 24)) * (spk (k + 24))) + ((spk k) * (spk k))) - 11819844)), (27, .bool true), (26, .bool true), (9, .int .i64 ((n) % 25)), (8, .int .i64 ((k) % 25)), (25, .int .i64 ((n) % 25)), (24, .int .i64 n), (23, .int .i64 ((k) % 25)), (22, .int .i64 k), (7, .int .i64 ((((spk (k + 24)) * (spk (k + 24))) + ((spk k) * (spk k))) - 11819844)), (21, .int .i64 ((((spk (k + 24)) * (spk (k + 24))) + ((spk k) * (spk k))) - 11819844)), (20, .int .i64 (((spk (k + 24)) * (spk (k + 24))) + ((spk k) * (spk k)))), (19, .int .i64 ((spk k) * (spk k))), (18, .int .i64 (spk k)), (17, .int .i64 (spk k)), (16, .int .i64 ((spk (k + 24)) * (spk (k + 24)))), (15, .int .i64 (spk (k + 24))), (14, .int .i64 (spk (k + 24))), (6, .int .i64 (spk k)), (5, .int .i64 (spk (k + 24))), (13, .int .i64 (spk k)), (12, .int .i64 k), (11, .int .i64 (spk (k + 24))), (10, .int .i64 k), (0, .int .i64 k), (1, .int .i64 n)]) hF (r_assign (hF.at 0 rfl)) rfl rfl rfl rfl fun a hF => ?_
                      refine E.nil ?_
                      refine wp_ret ?_
                      refine bodyPost_ret (res_tmp Tryd.results5 (hF.at 0 rfl)) hF.dfr ?_
                      exact ⟨rfl, bel⟩)))
       · first
         | (exfalso; omega)
         | (refine E.opvg hF (r_bin (hF.at 0 rfl) ev_c eg_scalar (bi_int (ic_geq (c := false) (dec_ff hc7)) (by simp))) (wanted_by rfl rfl (hF.at 1 rfl) rfl) rfl rfl rfl fun a hF => ?_
            refine E.opv hF (r_pick_t (hF.at 2 rfl) (hF.at 0 rfl)) rfl rfl rfl rfl fun a hF => ?_
            refine E.opv hF (r_move (hF.at 0 rfl)) rfl rfl rfl rfl fun a hF => ?_
            refine E.unwanted hF (wanted_by rfl rfl (hF.at 0 rfl) rfl) rfl rfl rfl fun a hF => ?_
            refine E.unwanted hF (wanted_by rfl rfl (hF.at 1 rfl) rfl) rfl rfl rfl fun a hF => ?_
            refine E.unwanted hF (wanted_by rfl rfl (hF.at 2 rfl) rfl) rfl rfl rfl fun a hF => ?_
            refine E.unwanted hF (wanted_by rfl rfl (hF.at 3 rfl) rfl) rfl rfl rfl fun a hF => ?_
            refine E.unwanted hF (wanted_by rfl rfl (hF.at 4 rfl) rfl) rfl rfl rfl fun a hF => ?_
            refine E.unwanted hF (wanted_by rfl rfl (hF.at 5 rfl) rfl) rfl rfl rfl fun a hF => ?_
            refine E.unwanted hF (wanted_by rfl rfl (hF.at 6 rfl) rfl) rfl rfl rfl fun a hF => ?_
            refine E.unwanted hF (wanted_by rfl rfl (hF.at 7 rfl) rfl) rfl rfl rfl fun a hF => ?_
            refine E.unwanted hF (wanted_by rfl rfl (hF.at 8 rfl) rfl) rfl rfl rfl fun a hF => ?_
            refine E.opv hF (r_pick_f (hF.at 9 rfl) ev_c) rfl rfl rfl rfl fun a hF => ?_
            refine E.opset (L' := [(4, .bool false), (45, .bool false), (44, undef), (43, undef), (42, undef), (41, undef), (40, undef), (39, undef), (38, undef), (37, undef), (36, undef), (35, .bool false), (34, .bool false), (33, .bool false), (32, .int .i64 ((((spk (k + 24)) * (spk (k + 24))) + ((spk k) * (spk k))) - 11819844)), (31, .bool true), (30, .bool true), (29, .bool true), (28, .int .i64 ((((spk (k + 24)) * (spk (k + 24))) + ((spk k) * (spk k))) - 11819844)), (27, .bool true), (26, .bool true), (9, .int .i64 ((n) % 25)), (8, .int .i64 ((k) % 25)), (25, .int .i64 ((n) % 25)), (24, .int .i64 n), (23, .int .i64 ((k) % 25)), (22, .int .i64 k), (7, .int .i64 ((((spk (k + 24)) * (spk (k + 24))) + ((spk k) * (spk k))) - 11819844)), (21, .int .i64 ((((spk (k + 24)) * (spk (k + 24))) + ((spk k) * (spk k))) - 11819844)), (20, .int .i64 (((spk (k + 24)) * (spk (k + 24))) + ((spk k) * (spk k)))), (19, .int .i64 ((spk k) * (spk k))), (18, .int .i64 (spk k)), (17, .int .i64 (spk k)), (16, .int .i64 ((spk (k + 24)) * (spk (k + 24)))), (15, .int .i64 (spk (k + 24))), (14, .int .i64 (spk (k + 24))), (6, .int .i64 (spk k)), (5, .int .i64 (spk (k + 24))), (13, .int .i64 (spk k)), (12, .int .i64 k), (11, .int .i64 (spk (k + 24))), (10, .int .i64 k), (0, .int .i64 k), (1, .int .i64 n)]) hF (r_assign (hF.at 0 rfl)) rfl rfl rfl rfl fun a hF => ?_
            refine E.nil ?_
            refine wp_ret ?_
            refine bodyPost_ret (res_tmp Tryd.results5 (hF.at 0 rfl)) hF.dfr ?_
            exact ⟨rfl, bel⟩))
  · first
    | (exfalso; omega)
    | (refine E.opvg hF (r_bin (hF.at 0 rfl) ev_c eg_scalar (bi_int (ic_leq (c := false) (dec_ff hc6)) (by simp))) (wanted_by rfl rfl (hF.at 1 rfl) rfl) rfl rfl rfl fun a hF => ?_
       refine E.opv hF (r_pick_t (hF.at 2 rfl) (hF.at 0 rfl)) rfl rfl rfl rfl fun a hF => ?_
       refine E.opv hF (r_move (hF.at 0 rfl)) rfl rfl rfl rfl fun a hF => ?_
       refine E.unwanted hF (wanted_by rfl rfl (hF.at 0 rfl) rfl) rfl rfl rfl fun a hF => ?_
       refine E.unwanted hF (wanted_by rfl rfl (hF.at 1 rfl) rfl) rfl rfl rfl fun a hF => ?_
       refine E.opv hF (r_pick_f (hF.at 2 rfl) ev_c) rfl rfl rfl rfl fun a hF => ?_
       refine E.opv hF (r_move (hF.at 0 rfl)) rfl rfl rfl rfl fun a hF => ?_
       refine E.unwanted hF (wanted_by rfl rfl (hF.at 0 rfl) rfl) rfl rfl rfl fun a hF => ?_
       refine E.unwanted hF (wanted_by rfl rfl (hF.at 1 rfl) rfl) rfl rfl rfl fun a hF => ?_
       refine E.unwanted hF (wanted_by rfl rfl (hF.at 2 rfl) rfl) rfl rfl rfl fun a hF => ?_
       refine E.unwanted hF (wanted_by rfl rfl (hF.at 3 rfl) rfl) rfl rfl rfl fun a hF => ?_
       refine E.unwanted hF (wanted_by rfl rfl (hF.at 4 rfl) rfl) rfl rfl rfl fun a hF => ?_
       refine E.unwanted hF (wanted_by rfl rfl (hF.at 5 rfl) rfl) rfl rfl rfl fun a hF => ?_
       refine E.unwanted hF (wanted_by rfl rfl (hF.at 6 rfl) rfl) rfl rfl rfl fun a hF => ?_
       refine E.unwanted hF (wanted_by rfl rfl (hF.at 7 rfl) rfl) rfl rfl rfl fun a hF => ?_
       refine E.unwanted hF (wanted_by rfl rfl (hF.at 8 rfl) rfl) rfl rfl rfl fun a hF => ?_
       refine E.opv hF (r_pick_f (hF.at 9 rfl) ev_c) rfl rfl rfl rfl fun a hF => ?_
       refine E.opset (L' := [(4, .bool false), (45, .bool false), (44, undef), (43, undef), (42, undef), (41, undef), (40, undef), (39, undef), (38, undef), (37, undef), (36, undef), (35, .bool false), (34, .bool false), (33, undef), (32, undef), (31, .bool false), (30, .bool false), (29, .bool false), (28, .int .i64 ((((spk (k + 24)) * (spk (k + 24))) + ((spk k) * (spk k))) - 11819844)), (27, .bool true), (26, .bool true), (9, .int .i64 ((n) % 25)), (8, .int .i64 ((k) % 25)), (25, .int .i64 ((n) % 25)), (24, .int .i64 n), (23, .int .i64 ((k) % 25)), (22, .int .i64 k), (7, .int .i64 ((((spk (k + 24)) * (spk (k + 24))) + ((spk k) * (spk k))) - 11819844)), (21, .int .i64 ((((spk (k + 24)) * (spk (k + 24))) + ((spk k) * (spk k))) - 11819844)), (20, .int .i64 (((spk (k + 24)) * (spk (k + 24))) + ((spk k) * (spk k)))), (19, .int .i64 ((spk k) * (spk k))), (18, .int .i64 (spk k)), (17, .int .i64 (spk k)), (16, .int .i64 ((spk (k + 24)) * (spk (k + 24)))), (15, .int .i64 (spk (k + 24))), (14, .int .i64 (spk (k + 24))), (6, .int .i64 (spk k)), (5, .int .i64 (spk (k + 24))), (13, .int .i64 (spk k)), (12, .int .i64 k), (11, .int .i64 (spk (k + 24))), (10, .int .i64 k), (0, .int .i64 k), (1, .int .i64 n)]) hF (r_assign (hF.at 0 rfl)) rfl rfl rfl rfl fun a hF => ?_
       refine E.nil ?_
       refine wp_ret ?_
       refine bodyPost_ret (res_tmp Tryd.results5 (hF.at 0 rfl)) hF.dfr ?_
       exact ⟨rfl, bel⟩)

end Go.Proofs.YteafnboehmfmiaaDoor
