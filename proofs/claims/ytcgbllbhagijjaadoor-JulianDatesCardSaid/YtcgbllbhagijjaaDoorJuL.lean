/- julian: the laws. -/
import Derived.Test.YtcgbllbhagijjaaDoorJuA
import Derived.Test.YtcgbllbhagijjaaDoorJuR
import Derived.Test.YtcgbllbhagijjaaDoorCvL
import Derived.Lib.LaidTab
namespace Go.Proofs.YtcgbllbhagijjaaDoor
open Go.RowKit
set_option maxRecDepth 100000
set_option linter.unusedVariables false

theorem tabJ_of {w : World} (h : Lib.TabIs Tryd.prog w "ephemeris/julian.lengths" .i64 [31, 28, 31, 30, 31, 30, 31, 31, 30, 31, 30, 31]) : TabJ w := fun i hi => h.cell (by kernel_rfl) i hi
set_option maxHeartbeats 1000000 in
theorem awakeJ_any (w : World) (hT : TabJ w) :
    Calls Tryd.prog 25 #[] w (ValPost w (.bool true)) := by
  have hf1 : fixN calJ (-3101) 2 18 = -1132959 := by decide +kernel
  have hf2 : fixE calJ (-3101) 2 18 = 0 := by decide +kernel
  have bel : Below w.heap.size w w := Below.refl _ _
  refine E.enter (nt := 17) (L := []) Tryd.func25 rfl rfl rfl args_nil ?_
  intro a hF
  refine wp_seq ?_
  refine E.seq ?_
  refine E.opv hF (r_assign ev_c) rfl rfl rfl rfl fun a hF => ?_
  refine E.nil ?_
  refine wp_seq ?_
  refine E.seq ?_
  refine E.opv hF (r_build (pair3 ev_c ev_c ev_c) (bd_JDate_012 _ _ _ _)) rfl rfl rfl rfl fun a hF => ?_
  refine E.call hF (r_call Tryd.func28 en28.1 en28.2 (map1 (hF.at 0 rfl))) (cfixJ_any (-3101) 2 18 _ (hT.below bel)) rfl rfl rfl rfl ?_
  rintro e w1 ⟨rfl, bb⟩
  refine ⟨_, rfl, ?_⟩
  intro a hF
  replace bel := below_to bel bb
  clear bb
  refine E.opv hF (r_move (hF.at 0 rfl)) rfl rfl rfl rfl fun a hF => ?_
  refine E.opv hF (r_extract (v := .int .i64 (fixN calJ (-3101) 2 18)) (hF.at 0 rfl) rfl) rfl rfl rfl rfl fun a hF => ?_
  refine E.opv hF (r_extract (v := .int .i64 (fixE calJ (-3101) 2 18)) (hF.at 1 rfl) rfl) rfl rfl rfl rfl fun a hF => ?_
  refine E.opv hF (r_assign (hF.at 1 rfl)) rfl rfl rfl rfl fun a hF => ?_
  refine E.opv hF (r_assign (hF.at 1 rfl)) rfl rfl rfl rfl fun a hF => ?_
  refine E.nil ?_
  refine wp_seq ?_
  refine E.seq ?_
  refine E.opv hF (r_move (hF.at 1 rfl)) rfl rfl rfl rfl fun a hF => ?_
  refine E.opv hF (r_bin (hF.at 0 rfl) ev_c eg_scalar (bi_int (ic_eql (c := true) (dec_tt (by omega))) (by simp))) rfl rfl rfl rfl fun a hF => ?_
  refine E.opv hF (r_move (hF.at 0 rfl)) rfl rfl rfl rfl fun a hF => ?_
  refine E.opvg hF (r_move (hF.at 3 rfl)) (wanted_by rfl rfl (hF.at 0 rfl) rfl) rfl rfl rfl fun a hF => ?_
  refine E.opvg hF (r_bin (hF.at 0 rfl) ev_c eg_scalar (bi_int (ic_eql (c := true) (dec_tt (by omega))) (by simp))) (wanted_by rfl rfl (hF.at 1 rfl) rfl) rfl rfl rfl fun a hF => ?_
  refine E.opv hF (r_pick_t (hF.at 2 rfl) (hF.at 0 rfl)) rfl rfl rfl rfl fun a hF => ?_
  refine E.opv hF (r_move (hF.at 0 rfl)) rfl rfl rfl rfl fun a hF => ?_
  refine E.callg hF (r_call Tryd.func29 en29.1 en29.2 (map1 ev_c)) (cleapJ_any 1900 _) (wanted_by rfl rfl (hF.at 0 rfl) rfl) rfl rfl rfl ?_
  rintro e w2 ⟨rfl, bb⟩
  refine ⟨_, rfl, ?_⟩
  intro a hF
  replace bel := below_to bel bb
  clear bb
  refine E.opv hF (r_pick_t (hF.at 1 rfl) (hF.at 0 rfl)) rfl rfl rfl rfl fun a hF => ?_
  refine E.opset (L' := [(0, .bool (leapJ 1900)), (16, .bool (leapJ 1900)), (15, .bool (leapJ 1900)), (14, .bool true), (13, .bool true), (12, .bool true), (11, .int .i64 (fixE calJ (-3101) 2 18)), (10, .bool true), (9, .bool true), (8, .int .i64 (fixN calJ (-3101) 2 18)), (2, .int .i64 (fixE calJ (-3101) 2 18)), (1, .int .i64 (fixN calJ (-3101) 2 18)), (7, .int .i64 (fixE calJ (-3101) 2 18)), (6, .int .i64 (fixN calJ (-3101) 2 18)), (3, .tuple #[.int .i64 (fixN calJ (-3101) 2 18), .int .i64 (fixE calJ (-3101) 2 18)]), (5, .tuple #[.int .i64 (fixN calJ (-3101) 2 18), .int .i64 (fixE calJ (-3101) 2 18)]), (4, .agg #[.int .i64 (-3101), .int .i64 2, .int .i64 18])]) hF (r_assign (hF.at 0 rfl)) rfl rfl rfl rfl fun a hF => ?_
  refine E.nil ?_
  refine wp_ret ?_
  refine bodyPost_ret (res_tmp Tryd.results25 (hF.at 0 rfl)) hF.dfr ?_
  exact ⟨rfl, bel⟩

set_option maxHeartbeats 1000000 in
theorem innJ_any (n : Int) (w : World) :
    Calls Tryd.prog 33 #[.int .i64 n] w (InPost w) := by
  have bel : Below w.heap.size w w := Below.refl _ _
  refine E.enter (nt := 17) (L := [(0, .int .i64 n)]) Tryd.func33 rfl rfl rfl (args_cons (i := 0) rfl args_nil) ?_
  intro a hF
  refine wp_seq ?_
  refine E.seq ?_
  refine E.opv hF (r_assign ev_c) rfl rfl rfl rfl fun a hF => ?_
  refine E.nil ?_
  refine wp_seq ?_
  refine E.seq ?_
  refine E.opv hF (r_move (hF.at 1 rfl)) rfl rfl rfl rfl fun a hF => ?_
  refine E.opv hF (r_bin (hF.at 0 rfl) ev_c eg_scalar (id_rem (a := n) (b := 6000001) (by omega))) rfl rfl rfl rfl fun a hF => ?_
  refine E.opv hF (r_assign (hF.at 0 rfl)) rfl rfl rfl rfl fun a hF => ?_
  refine E.nil ?_
  refine wp_seq ?_
  refine wp_seq ?_
  refine E.seq ?_
  refine E.opv hF (r_move (hF.at 0 rfl)) rfl rfl rfl rfl fun a hF => ?_
  by_cases hc1 : (if 0 ≤ n then n % 6000001 else -(-n % 6000001)) < (-3000000)
  · first
    | (exfalso; omega)
    | (refine E.opv hF (r_bin (hF.at 0 rfl) ev_c eg_scalar (bi_int (ic_lss (c := true) (dec_tt hc1)) (by simp))) rfl rfl rfl rfl fun a hF => ?_
       refine E.nil ?_
       refine wp_cond_true (hF.at 0 rfl) ?_
       refine wp_seq ?_
       refine E.seq ?_
       refine E.opv hF (r_move (hF.at 2 rfl)) rfl rfl rfl rfl fun a hF => ?_
       refine E.opv hF (r_bin (hF.at 0 rfl) ev_c eg_scalar (ia_add (by omega) (by omega))) rfl rfl rfl rfl fun a hF => ?_
       refine E.opv hF (r_bin (hF.at 0 rfl) ev_c eg_scalar (ia_add (by omega) (by omega))) rfl rfl rfl rfl fun a hF => ?_
       refine E.opset (L' := [(2, .int .i64 (((if 0 ≤ n then n % 6000001 else -(-n % 6000001)) + 6000000) + 1)), (10, .int .i64 (((if 0 ≤ n then n % 6000001 else -(-n % 6000001)) + 6000000) + 1)), (9, .int .i64 ((if 0 ≤ n then n % 6000001 else -(-n % 6000001)) + 6000000)), (8, .int .i64 (if 0 ≤ n then n % 6000001 else -(-n % 6000001))), (7, .bool true), (6, .int .i64 (if 0 ≤ n then n % 6000001 else -(-n % 6000001))), (3, .int .i64 (if 0 ≤ n then n % 6000001 else -(-n % 6000001))), (5, .int .i64 (if 0 ≤ n then n % 6000001 else -(-n % 6000001))), (4, .int .i64 n), (0, .int .i64 n)]) hF (r_assign (hF.at 0 rfl)) rfl rfl rfl rfl fun a hF => ?_
       refine E.nil ?_
       refine wp_ret ?_
       refine bodyPost_ret (res_tmp Tryd.results33 (hF.at 0 rfl)) hF.dfr ?_
       exact ⟨_, rfl, by omega, by omega, bel⟩)
  · first
    | (exfalso; omega)
    | (refine E.opv hF (r_bin (hF.at 0 rfl) ev_c eg_scalar (bi_int (ic_lss (c := false) (dec_ff hc1)) (by simp))) rfl rfl rfl rfl fun a hF => ?_
       refine E.nil ?_
       refine wp_cond_false (hF.at 0 rfl) ?_
       refine wp_skip ?_
       refine E.norm ?_
       refine wp_seq ?_
       refine wp_seq ?_
       refine E.seq ?_
       refine E.opv hF (r_move (hF.at 2 rfl)) rfl rfl rfl rfl fun a hF => ?_
       by_cases hc2 : 3000000 < (if 0 ≤ n then n % 6000001 else -(-n % 6000001))
       · first
         | (exfalso; omega)
         | (refine E.opv hF (r_bin (hF.at 0 rfl) ev_c eg_scalar (bi_int (ic_gtr (c := true) (dec_tt hc2)) (by simp))) rfl rfl rfl rfl fun a hF => ?_
            refine E.nil ?_
            refine wp_cond_true (hF.at 0 rfl) ?_
            refine wp_seq ?_
            refine E.seq ?_
            refine E.opv hF (r_move (hF.at 4 rfl)) rfl rfl rfl rfl fun a hF => ?_
            refine E.opv hF (r_bin (hF.at 0 rfl) ev_c eg_scalar (ia_sub (by omega) (by omega))) rfl rfl rfl rfl fun a hF => ?_
            refine E.opv hF (r_bin (hF.at 0 rfl) ev_c eg_scalar (ia_sub (by omega) (by omega))) rfl rfl rfl rfl fun a hF => ?_
            refine E.opset (L' := [(2, .int .i64 (((if 0 ≤ n then n % 6000001 else -(-n % 6000001)) - 6000000) - 1)), (15, .int .i64 (((if 0 ≤ n then n % 6000001 else -(-n % 6000001)) - 6000000) - 1)), (14, .int .i64 ((if 0 ≤ n then n % 6000001 else -(-n % 6000001)) - 6000000)), (13, .int .i64 (if 0 ≤ n then n % 6000001 else -(-n % 6000001))), (12, .bool true), (11, .int .i64 (if 0 ≤ n then n % 6000001 else -(-n % 6000001))), (7, .bool false), (6, .int .i64 (if 0 ≤ n then n % 6000001 else -(-n % 6000001))), (3, .int .i64 (if 0 ≤ n then n % 6000001 else -(-n % 6000001))), (5, .int .i64 (if 0 ≤ n then n % 6000001 else -(-n % 6000001))), (4, .int .i64 n), (0, .int .i64 n)]) hF (r_assign (hF.at 0 rfl)) rfl rfl rfl rfl fun a hF => ?_
            refine E.nil ?_
            refine wp_ret ?_
            refine bodyPost_ret (res_tmp Tryd.results33 (hF.at 0 rfl)) hF.dfr ?_
            exact ⟨_, rfl, by omega, by omega, bel⟩)
       · first
         | (exfalso; omega)
         | (refine E.opv hF (r_bin (hF.at 0 rfl) ev_c eg_scalar (bi_int (ic_gtr (c := false) (dec_ff hc2)) (by simp))) rfl rfl rfl rfl fun a hF => ?_
            refine E.nil ?_
            refine wp_cond_false (hF.at 0 rfl) ?_
            refine wp_skip ?_
            refine E.norm ?_
            refine wp_seq ?_
            refine E.seq ?_
            refine E.opv hF (r_move (hF.at 4 rfl)) rfl rfl rfl rfl fun a hF => ?_
            refine E.opset (L' := [(2, .int .i64 (if 0 ≤ n then n % 6000001 else -(-n % 6000001))), (16, .int .i64 (if 0 ≤ n then n % 6000001 else -(-n % 6000001))), (12, .bool false), (11, .int .i64 (if 0 ≤ n then n % 6000001 else -(-n % 6000001))), (7, .bool false), (6, .int .i64 (if 0 ≤ n then n % 6000001 else -(-n % 6000001))), (3, .int .i64 (if 0 ≤ n then n % 6000001 else -(-n % 6000001))), (5, .int .i64 (if 0 ≤ n then n % 6000001 else -(-n % 6000001))), (4, .int .i64 n), (0, .int .i64 n)]) hF (r_assign (hF.at 0 rfl)) rfl rfl rfl rfl fun a hF => ?_
            refine E.nil ?_
            refine wp_ret ?_
            refine bodyPost_ret (res_tmp Tryd.results33 (hF.at 0 rfl)) hF.dfr ?_
            exact ⟨_, rfl, by omega, by omega, bel⟩))

set_option maxHeartbeats 4000000 in
theorem julianDays_walk (n : Int) (w : World) (hT : TabJ w) :
    Calls Tryd.prog 8 #[.int .i64 n] w (ValPost w (.bool true)) := by
  have bel : Below w.heap.size w w := Below.refl _ _
  refine E.enter (nt := 64) (L := [(0, .int .i64 n)]) Tryd.func8 rfl rfl rfl (args_cons (i := 0) rfl args_nil) ?_
  intro a hF
  refine wp_seq ?_
  refine E.seq ?_
  refine E.opv hF (r_assign ev_c) rfl rfl rfl rfl fun a hF => ?_
  refine E.nil ?_
  refine wp_seq ?_
  refine wp_seq ?_
  refine E.seq ?_
  refine E.call hF (r_call Tryd.func25 en25.1 en25.2 map0) (awakeJ_any _ (hT.below bel)) rfl rfl rfl rfl ?_
  rintro e w1 ⟨rfl, bb⟩
  refine ⟨_, rfl, ?_⟩
  intro a hF
  replace bel := below_to bel bb
  clear bb
  refine E.opv hF (r_un (hF.at 0 rfl) (bn_not _ false rfl)) rfl rfl rfl rfl fun a hF => ?_
  refine E.nil ?_
  refine wp_cond_false (hF.at 0 rfl) ?_
  refine wp_skip ?_
  refine E.norm ?_
  refine wp_seq ?_
  refine E.seq ?_
  refine E.opv hF (r_move (hF.at 3 rfl)) rfl rfl rfl rfl fun a hF => ?_
  by_cases hc2 : -3000000 ≤ n ∧ n ≤ 3000000
  · first
    | (exfalso; omega)
    | (refine E.call hF (r_call Tryd.func26 en26.1 en26.2 (map1 (hF.at 0 rfl))) (cofJ_any n _ (hT.below bel) (mayB_t (by omega) (by omega))) rfl rfl rfl rfl ?_
       rintro e w3 ⟨vv4, vv5, vv6, rfl, hh7, hh8, bb⟩
       refine ⟨_, rfl, ?_⟩
       intro a hF
       have hyr := yrJ hh7 hh8 (by omega) (by omega)
       have hvb := val_bd hh7
       have hfg := fix_good (c := calJ) hh7 hh8 (by omega) (by omega) (by omega) (by omega)
       replace bel := below_to bel bb
       clear bb
       refine E.opv hF (r_move (hF.at 0 rfl)) rfl rfl rfl rfl fun a hF => ?_
       refine E.opv hF (r_extract (v := .agg #[.int .i64 vv4, .int .i64 vv5, .int .i64 vv6]) (hF.at 0 rfl) rfl) rfl rfl rfl rfl fun a hF => ?_
       refine E.opv hF (r_extract (v := .int .i64 0) (hF.at 1 rfl) rfl) rfl rfl rfl rfl fun a hF => ?_
       obtain ⟨g3, w9, ge3, hr, bb, o3⟩ := blk_alloc (P := Tryd.prog) (w := w3) (cs := [.int .i64 0, .int .i64 0, .int .i64 0]) 42 ze_JDate rfl
       replace ge3 : w.heap.size ≤ g3 := by rw [← ge3]; exact bel.size
       refine E.opv hF (r_alloc hr) rfl rfl rfl rfl fun a hF => ?_
       clear hr
       replace bel := below_to bel bb
       clear bb
       obtain ⟨w10, hr, tu, on⟩ := stb_JDate (vs := [.int .i64 vv4, .int .i64 vv5, .int .i64 vv6]) o3 rfl rfl (ocI (ocI (ocI oc0))) (o := 0) rfl
       refine E.st hF (r_store (hF.at 0 rfl) (hF.at 2 rfl) (hr _ rfl)) rfl rfl fun a hF => ?_
       clear hr
       replace bel := tu.below bel ge3
       clear tu
       replace o3 := on
       clear on
       refine E.opv hF (r_assign (hF.at 1 rfl)) rfl rfl rfl rfl fun a hF => ?_
       refine E.nil ?_
       refine wp_seq ?_
       refine wp_seq ?_
       refine E.seq ?_
       refine E.opv hF (r_move (hF.at 10 rfl)) rfl rfl rfl rfl fun a hF => ?_
       by_cases hc11 : n < (-3000000)
       · first
         | (exfalso; omega)
         | (refine E.opv hF (r_bin (hF.at 0 rfl) ev_c eg_scalar (bi_int (ic_lss (c := true) (dec_tt hc11)) (by simp))) rfl rfl rfl rfl fun a hF => ?_
            refine E.opv hF (r_move (hF.at 0 rfl)) rfl rfl rfl rfl fun a hF => ?_
            refine E.unwanted hF (wanted_by rfl rfl (hF.at 0 rfl) rfl) rfl rfl rfl fun a hF => ?_
            refine E.unwanted hF (wanted_by rfl rfl (hF.at 1 rfl) rfl) rfl rfl rfl fun a hF => ?_
            refine E.opv hF (r_pick_t (hF.at 2 rfl) ev_c) rfl rfl rfl rfl fun a hF => ?_
            refine E.nil ?_
            refine wp_cond_true (hF.at 0 rfl) ?_
            refine wp_seq ?_
            refine E.seq ?_
            refine E.opv hF (r_move (hF.at 6 rfl)) rfl rfl rfl rfl fun a hF => ?_
            refine E.opv hF (r_bin (hF.at 0 rfl) ev_c eg_scalar (bi_int (ic_eql (c := false) (by decide)) (by simp))) rfl rfl rfl rfl fun a hF => ?_
            refine E.opv hF (r_move (hF.at 0 rfl)) rfl rfl rfl rfl fun a hF => ?_
            refine E.unwanted hF (wanted_by rfl rfl (hF.at 0 rfl) rfl) rfl rfl rfl fun a hF => ?_
            refine E.unwanted hF (wanted_by rfl rfl (hF.at 1 rfl) rfl) rfl rfl rfl fun a hF => ?_
            refine E.unwanted hF (wanted_by rfl rfl (hF.at 2 rfl) rfl) rfl rfl rfl fun a hF => ?_
            refine E.opv hF (r_pick_f (hF.at 3 rfl) ev_c) rfl rfl rfl rfl fun a hF => ?_
            refine E.opset (L' := [(2, .bool false), (28, .bool false), (27, undef), (26, undef), (25, undef), (24, .bool false), (23, .bool false), (22, .int .i64 0), (21, .bool true), (20, undef), (19, undef), (18, .bool true), (17, .bool true), (16, .int .i64 n), (4, .int .i64 0), (3, .pointer (some ⟨g3, 0, none⟩)), (15, .int .i64 0), (14, .agg #[.int .i64 vv4, .int .i64 vv5, .int .i64 vv6]), (11, .tuple #[.agg #[.int .i64 vv4, .int .i64 vv5, .int .i64 vv6], .int .i64 0]), (13, .tuple #[.agg #[.int .i64 vv4, .int .i64 vv5, .int .i64 vv6], .int .i64 0]), (12, .int .i64 n), (10, .bool false), (9, .bool true), (0, .int .i64 n)]) hF (r_assign (hF.at 0 rfl)) rfl rfl rfl rfl fun a hF => ?_
            refine E.nil ?_
            refine wp_ret ?_
            refine bodyPost_ret (res_tmp Tryd.results8 (hF.at 0 rfl)) hF.dfr ?_
            exact ⟨rfl, bel⟩)
       · first
         | (exfalso; omega)
         | (refine E.opv hF (r_bin (hF.at 0 rfl) ev_c eg_scalar (bi_int (ic_lss (c := false) (dec_ff hc11)) (by simp))) rfl rfl rfl rfl fun a hF => ?_
            refine E.opv hF (r_move (hF.at 0 rfl)) rfl rfl rfl rfl fun a hF => ?_
            refine E.opvg hF (r_move (hF.at 13 rfl)) (wanted_by rfl rfl (hF.at 0 rfl) rfl) rfl rfl rfl fun a hF => ?_
            by_cases hc12 : 3000000 < n
            · first
              | (exfalso; omega)
              | (refine E.opvg hF (r_bin (hF.at 0 rfl) ev_c eg_scalar (bi_int (ic_gtr (c := true) (dec_tt hc12)) (by simp))) (wanted_by rfl rfl (hF.at 1 rfl) rfl) rfl rfl rfl fun a hF => ?_
                 refine E.opv hF (r_pick_f (hF.at 2 rfl) (hF.at 0 rfl)) rfl rfl rfl rfl fun a hF => ?_
                 refine E.nil ?_
                 refine wp_cond_true (hF.at 0 rfl) ?_
                 refine wp_seq ?_
                 refine E.seq ?_
                 refine E.opv hF (r_move (hF.at 6 rfl)) rfl rfl rfl rfl fun a hF => ?_
                 refine E.opv hF (r_bin (hF.at 0 rfl) ev_c eg_scalar (bi_int (ic_eql (c := false) (by decide)) (by simp))) rfl rfl rfl rfl fun a hF => ?_
                 refine E.opv hF (r_move (hF.at 0 rfl)) rfl rfl rfl rfl fun a hF => ?_
                 refine E.unwanted hF (wanted_by rfl rfl (hF.at 0 rfl) rfl) rfl rfl rfl fun a hF => ?_
                 refine E.unwanted hF (wanted_by rfl rfl (hF.at 1 rfl) rfl) rfl rfl rfl fun a hF => ?_
                 refine E.unwanted hF (wanted_by rfl rfl (hF.at 2 rfl) rfl) rfl rfl rfl fun a hF => ?_
                 refine E.opv hF (r_pick_f (hF.at 3 rfl) ev_c) rfl rfl rfl rfl fun a hF => ?_
                 refine E.opset (L' := [(2, .bool false), (28, .bool false), (27, undef), (26, undef), (25, undef), (24, .bool false), (23, .bool false), (22, .int .i64 0), (21, .bool true), (20, .bool true), (19, .int .i64 n), (18, .bool false), (17, .bool false), (16, .int .i64 n), (4, .int .i64 0), (3, .pointer (some ⟨g3, 0, none⟩)), (15, .int .i64 0), (14, .agg #[.int .i64 vv4, .int .i64 vv5, .int .i64 vv6]), (11, .tuple #[.agg #[.int .i64 vv4, .int .i64 vv5, .int .i64 vv6], .int .i64 0]), (13, .tuple #[.agg #[.int .i64 vv4, .int .i64 vv5, .int .i64 vv6], .int .i64 0]), (12, .int .i64 n), (10, .bool false), (9, .bool true), (0, .int .i64 n)]) hF (r_assign (hF.at 0 rfl)) rfl rfl rfl rfl fun a hF => ?_
                 refine E.nil ?_
                 refine wp_ret ?_
                 refine bodyPost_ret (res_tmp Tryd.results8 (hF.at 0 rfl)) hF.dfr ?_
                 exact ⟨rfl, bel⟩)
            · first
              | (exfalso; omega)
              | (refine E.opvg hF (r_bin (hF.at 0 rfl) ev_c eg_scalar (bi_int (ic_gtr (c := false) (dec_ff hc12)) (by simp))) (wanted_by rfl rfl (hF.at 1 rfl) rfl) rfl rfl rfl fun a hF => ?_
                 refine E.opv hF (r_pick_f (hF.at 2 rfl) (hF.at 0 rfl)) rfl rfl rfl rfl fun a hF => ?_
                 refine E.nil ?_
                 refine wp_cond_false (hF.at 0 rfl) ?_
                 refine wp_skip ?_
                 refine E.norm ?_
                 refine wp_seq ?_
                 refine E.seq ?_
                 refine E.opv hF (r_field (hF.at 7 rfl) (fa_JDate_0 (p := 0) rfl)) rfl rfl rfl rfl fun a hF => ?_
                 refine E.opv hF (r_load (hF.at 0 rfl) (ldb_i64 (v := .int .i64 vv4) o3 rfl)) rfl rfl rfl rfl fun a hF => ?_
                 refine E.opv hF (r_field (hF.at 9 rfl) (fa_JDate_1 (p := 1) rfl)) rfl rfl rfl rfl fun a hF => ?_
                 refine E.opv hF (r_load (hF.at 0 rfl) (ldb_int (v := .int .i64 vv5) o3 rfl)) rfl rfl rfl rfl fun a hF => ?_
                 refine E.opv hF (r_field (hF.at 11 rfl) (fa_JDate_2 (p := 2) rfl)) rfl rfl rfl rfl fun a hF => ?_
                 refine E.opv hF (r_load (hF.at 0 rfl) (ldb_int (v := .int .i64 vv6) o3 rfl)) rfl rfl rfl rfl fun a hF => ?_
                 refine E.call hF (r_call Tryd.func27 en27.1 en27.2 (map3 (hF.at 4 rfl) (hF.at 2 rfl) (hF.at 0 rfl))) (dfixJ_any vv4 vv5 vv6 _ (by omega) (by omega)) rfl rfl rfl rfl ?_
                 rintro e w13 ⟨rfl, bb⟩
                 refine ⟨_, rfl, ?_⟩
                 intro a hF
                 replace o3 := o3.below bb
                 replace bel := below_to bel bb
                 clear bb
                 refine E.opv hF (r_move (hF.at 0 rfl)) rfl rfl rfl rfl fun a hF => ?_
                 refine E.opv hF (r_extract (v := .int .i64 (fixN calJ vv4 vv5 vv6)) (hF.at 0 rfl) rfl) rfl rfl rfl rfl fun a hF => ?_
                 refine E.opv hF (r_extract (v := .int .i64 (fixE calJ vv4 vv5 vv6)) (hF.at 1 rfl) rfl) rfl rfl rfl rfl fun a hF => ?_
                 refine E.opv hF (r_assign (hF.at 1 rfl)) rfl rfl rfl rfl fun a hF => ?_
                 refine E.opv hF (r_assign (hF.at 1 rfl)) rfl rfl rfl rfl fun a hF => ?_
                 refine E.nil ?_
                 refine wp_seq ?_
                 refine E.seq ?_
                 refine E.opv hF (r_load (hF.at 19 rfl) (ldb_JDate (vs := [.int .i64 vv4, .int .i64 vv5, .int .i64 vv6]) o3 rfl rfl)) rfl rfl rfl rfl fun a hF => ?_
                 refine E.call hF (r_call Tryd.func28 en28.1 en28.2 (map1 (hF.at 0 rfl))) (cfixJ_any vv4 vv5 vv6 _ (hT.below bel)) rfl rfl rfl rfl ?_
                 rintro e w14 ⟨rfl, bb⟩
                 refine ⟨_, rfl, ?_⟩
                 intro a hF
                 replace bel := below_to bel bb
                 clear bb
                 refine E.opv hF (r_move (hF.at 0 rfl)) rfl rfl rfl rfl fun a hF => ?_
                 refine E.opv hF (r_extract (v := .int .i64 (fixN calJ vv4 vv5 vv6)) (hF.at 0 rfl) rfl) rfl rfl rfl rfl fun a hF => ?_
                 refine E.opv hF (r_extract (v := .int .i64 (fixE calJ vv4 vv5 vv6)) (hF.at 1 rfl) rfl) rfl rfl rfl rfl fun a hF => ?_
                 refine E.opv hF (r_assign (hF.at 1 rfl)) rfl rfl rfl rfl fun a hF => ?_
                 refine E.opv hF (r_assign (hF.at 1 rfl)) rfl rfl rfl rfl fun a hF => ?_
                 refine E.nil ?_
                 refine wp_seq ?_
                 refine E.seq ?_
                 refine E.opv hF (r_move (hF.at 25 rfl)) rfl rfl rfl rfl fun a hF => ?_
                 refine E.opv hF (r_bin (hF.at 0 rfl) ev_c eg_scalar (bi_int (ic_eql (c := true) (by decide)) (by simp))) rfl rfl rfl rfl fun a hF => ?_
                 refine E.opv hF (r_move (hF.at 0 rfl)) rfl rfl rfl rfl fun a hF => ?_
                 refine E.opvg hF (r_move (hF.at 10 rfl)) (wanted_by rfl rfl (hF.at 0 rfl) rfl) rfl rfl rfl fun a hF => ?_
                 refine E.opvg hF (r_bin (hF.at 0 rfl) ev_c eg_scalar (bi_int (ic_eql (c := true) (dec_tt (by omega))) (by simp))) (wanted_by rfl rfl (hF.at 1 rfl) rfl) rfl rfl rfl fun a hF => ?_
                 refine E.opv hF (r_pick_t (hF.at 2 rfl) (hF.at 0 rfl)) rfl rfl rfl rfl fun a hF => ?_
                 refine E.opv hF (r_move (hF.at 0 rfl)) rfl rfl rfl rfl fun a hF => ?_
                 refine E.opvg hF (r_move (hF.at 15 rfl)) (wanted_by rfl rfl (hF.at 0 rfl) rfl) rfl rfl rfl fun a hF => ?_
                 refine E.opvg hF (r_move (hF.at 43 rfl)) (wanted_by rfl rfl (hF.at 1 rfl) rfl) rfl rfl rfl fun a hF => ?_
                 refine E.opvg hF (r_bin (hF.at 1 rfl) (hF.at 0 rfl) eg_scalar (bi_int (ic_eql (c := true) (dec_tt (by omega))) (by simp))) (wanted_by rfl rfl (hF.at 2 rfl) rfl) rfl rfl rfl fun a hF => ?_
                 refine E.opv hF (r_pick_t (hF.at 3 rfl) (hF.at 0 rfl)) rfl rfl rfl rfl fun a hF => ?_
                 refine E.opv hF (r_move (hF.at 0 rfl)) rfl rfl rfl rfl fun a hF => ?_
                 refine E.opvg hF (r_move (hF.at 12 rfl)) (wanted_by rfl rfl (hF.at 0 rfl) rfl) rfl rfl rfl fun a hF => ?_
                 refine E.opvg hF (r_bin (hF.at 0 rfl) ev_c eg_scalar (bi_int (ic_eql (c := true) (dec_tt (by omega))) (by simp))) (wanted_by rfl rfl (hF.at 1 rfl) rfl) rfl rfl rfl fun a hF => ?_
                 refine E.opv hF (r_pick_t (hF.at 2 rfl) (hF.at 0 rfl)) rfl rfl rfl rfl fun a hF => ?_
                 refine E.opv hF (r_move (hF.at 0 rfl)) rfl rfl rfl rfl fun a hF => ?_
                 refine E.opvg hF (r_move (hF.at 17 rfl)) (wanted_by rfl rfl (hF.at 0 rfl) rfl) rfl rfl rfl fun a hF => ?_
                 refine E.opvg hF (r_move (hF.at 52 rfl)) (wanted_by rfl rfl (hF.at 1 rfl) rfl) rfl rfl rfl fun a hF => ?_
                 refine E.opvg hF (r_bin (hF.at 1 rfl) (hF.at 0 rfl) eg_scalar (bi_int (ic_eql (c := true) (dec_tt (by omega))) (by simp))) (wanted_by rfl rfl (hF.at 2 rfl) rfl) rfl rfl rfl fun a hF => ?_
                 refine E.opv hF (r_pick_t (hF.at 3 rfl) (hF.at 0 rfl)) rfl rfl rfl rfl fun a hF => ?_
                 refine E.opset (L' := [(2, .bool true), (63, .bool true), (62, .bool true), (61, .int .i64 n), (60, .int .i64 (fixN calJ vv4 vv5 vv6)), (59, .bool true), (58, .bool true), (57, .bool true), (56, .int .i64 (fixE calJ vv4 vv5 vv6)), (55, .bool true), (54, .bool true), (53, .bool true), (52, .int .i64 n), (51, .int .i64 (fixN calJ vv4 vv5 vv6)), (50, .bool true), (49, .bool true), (48, .bool true), (47, .int .i64 (fixE calJ vv4 vv5 vv6)), (46, .bool true), (45, .bool true), (44, .int .i64 0), (8, .int .i64 (fixE calJ vv4 vv5 vv6)), (7, .int .i64 (fixN calJ vv4 vv5 vv6)), (43, .int .i64 (fixE calJ vv4 vv5 vv6)), (42, .int .i64 (fixN calJ vv4 vv5 vv6)), (39, .tuple #[.int .i64 (fixN calJ vv4 vv5 vv6), .int .i64 (fixE calJ vv4 vv5 vv6)]), (41, .tuple #[.int .i64 (fixN calJ vv4 vv5 vv6), .int .i64 (fixE calJ vv4 vv5 vv6)]), (40, .agg #[.int .i64 vv4, .int .i64 vv5, .int .i64 vv6]), (6, .int .i64 (fixE calJ vv4 vv5 vv6)), (5, .int .i64 (fixN calJ vv4 vv5 vv6)), (38, .int .i64 (fixE calJ vv4 vv5 vv6)), (37, .int .i64 (fixN calJ vv4 vv5 vv6)), (29, .tuple #[.int .i64 (fixN calJ vv4 vv5 vv6), .int .i64 (fixE calJ vv4 vv5 vv6)]), (36, .tuple #[.int .i64 (fixN calJ vv4 vv5 vv6), .int .i64 (fixE calJ vv4 vv5 vv6)]), (35, .int .i64 vv6), (34, .pointer (some ⟨g3, 2, none⟩)), (33, .int .i64 vv5), (32, .pointer (some ⟨g3, 1, none⟩)), (31, .int .i64 vv4), (30, .pointer (some ⟨g3, 0, none⟩)), (21, .bool false), (20, .bool false), (19, .int .i64 n), (18, .bool false), (17, .bool false), (16, .int .i64 n), (4, .int .i64 0), (3, .pointer (some ⟨g3, 0, none⟩)), (15, .int .i64 0), (14, .agg #[.int .i64 vv4, .int .i64 vv5, .int .i64 vv6]), (11, .tuple #[.agg #[.int .i64 vv4, .int .i64 vv5, .int .i64 vv6], .int .i64 0]), (13, .tuple #[.agg #[.int .i64 vv4, .int .i64 vv5, .int .i64 vv6], .int .i64 0]), (12, .int .i64 n), (10, .bool false), (9, .bool true), (0, .int .i64 n)]) hF (r_assign (hF.at 0 rfl)) rfl rfl rfl rfl fun a hF => ?_
                 refine E.nil ?_
                 refine wp_ret ?_
                 refine bodyPost_ret (res_tmp Tryd.results8 (hF.at 0 rfl)) hF.dfr ?_
                 exact ⟨rfl, bel⟩)))
  · first
    | (exfalso; omega)
    | (refine E.call hF (r_call Tryd.func26 en26.1 en26.2 (map1 (hF.at 0 rfl))) (cofxJ_any n _ (hT.below bel) (mayB_f (by omega))) rfl rfl rfl rfl ?_
       rintro e w15 ⟨rfl, bb⟩
       refine ⟨_, rfl, ?_⟩
       intro a hF
       replace bel := below_to bel bb
       clear bb
       refine E.opv hF (r_move (hF.at 0 rfl)) rfl rfl rfl rfl fun a hF => ?_
       refine E.opv hF (r_extract (v := .agg #[.int .i64 0, .int .i64 0, .int .i64 0]) (hF.at 0 rfl) rfl) rfl rfl rfl rfl fun a hF => ?_
       refine E.opv hF (r_extract (v := .int .i64 2) (hF.at 1 rfl) rfl) rfl rfl rfl rfl fun a hF => ?_
       obtain ⟨g3, w16, ge3, hr, bb, o3⟩ := blk_alloc (P := Tryd.prog) (w := w15) (cs := [.int .i64 0, .int .i64 0, .int .i64 0]) 42 ze_JDate rfl
       replace ge3 : w.heap.size ≤ g3 := by rw [← ge3]; exact bel.size
       refine E.opv hF (r_alloc hr) rfl rfl rfl rfl fun a hF => ?_
       clear hr
       replace bel := below_to bel bb
       clear bb
       obtain ⟨w17, hr, tu, on⟩ := stb_JDate (vs := [.int .i64 0, .int .i64 0, .int .i64 0]) o3 rfl rfl (ocI (ocI (ocI oc0))) (o := 0) rfl
       refine E.st hF (r_store (hF.at 0 rfl) (hF.at 2 rfl) (hr _ rfl)) rfl rfl fun a hF => ?_
       clear hr
       replace bel := tu.below bel ge3
       clear tu
       replace o3 := on
       clear on
       refine E.opv hF (r_assign (hF.at 1 rfl)) rfl rfl rfl rfl fun a hF => ?_
       refine E.nil ?_
       refine wp_seq ?_
       refine wp_seq ?_
       refine E.seq ?_
       refine E.opv hF (r_move (hF.at 10 rfl)) rfl rfl rfl rfl fun a hF => ?_
       by_cases hc18 : n < (-3000000)
       · first
         | (exfalso; omega)
         | (refine E.opv hF (r_bin (hF.at 0 rfl) ev_c eg_scalar (bi_int (ic_lss (c := true) (dec_tt hc18)) (by simp))) rfl rfl rfl rfl fun a hF => ?_
            refine E.opv hF (r_move (hF.at 0 rfl)) rfl rfl rfl rfl fun a hF => ?_
            refine E.unwanted hF (wanted_by rfl rfl (hF.at 0 rfl) rfl) rfl rfl rfl fun a hF => ?_
            refine E.unwanted hF (wanted_by rfl rfl (hF.at 1 rfl) rfl) rfl rfl rfl fun a hF => ?_
            refine E.opv hF (r_pick_t (hF.at 2 rfl) ev_c) rfl rfl rfl rfl fun a hF => ?_
            refine E.nil ?_
            refine wp_cond_true (hF.at 0 rfl) ?_
            refine wp_seq ?_
            refine E.seq ?_
            refine E.opv hF (r_move (hF.at 6 rfl)) rfl rfl rfl rfl fun a hF => ?_
            refine E.opv hF (r_bin (hF.at 0 rfl) ev_c eg_scalar (bi_int (ic_eql (c := true) (by decide)) (by simp))) rfl rfl rfl rfl fun a hF => ?_
            refine E.opv hF (r_move (hF.at 0 rfl)) rfl rfl rfl rfl fun a hF => ?_
            refine E.opvg hF (r_load (hF.at 10 rfl) (ldb_JDate (vs := [.int .i64 0, .int .i64 0, .int .i64 0]) o3 rfl rfl)) (wanted_by rfl rfl (hF.at 0 rfl) rfl) rfl rfl rfl fun a hF => ?_
            refine E.opvg hF (r_build (by simp) (bd_JDate_ _)) (wanted_by rfl rfl (hF.at 1 rfl) rfl) rfl rfl rfl fun a hF => ?_
            refine E.opvg hF (r_bin (hF.at 1 rfl) (hF.at 0 rfl) eg_JDate (es_JDate (dec_tt (by simp)))) (wanted_by rfl rfl (hF.at 2 rfl) rfl) rfl rfl rfl fun a hF => ?_
            refine E.opv hF (r_pick_t (hF.at 3 rfl) (hF.at 0 rfl)) rfl rfl rfl rfl fun a hF => ?_
            refine E.opset (L' := [(2, .bool true), (28, .bool true), (27, .bool true), (26, .agg #[.int .i64 0, .int .i64 0, .int .i64 0]), (25, .agg #[.int .i64 0, .int .i64 0, .int .i64 0]), (24, .bool true), (23, .bool true), (22, .int .i64 2), (21, .bool true), (20, undef), (19, undef), (18, .bool true), (17, .bool true), (16, .int .i64 n), (4, .int .i64 2), (3, .pointer (some ⟨g3, 0, none⟩)), (15, .int .i64 2), (14, .agg #[.int .i64 0, .int .i64 0, .int .i64 0]), (11, .tuple #[.agg #[.int .i64 0, .int .i64 0, .int .i64 0], .int .i64 2]), (13, .tuple #[.agg #[.int .i64 0, .int .i64 0, .int .i64 0], .int .i64 2]), (12, .int .i64 n), (10, .bool false), (9, .bool true), (0, .int .i64 n)]) hF (r_assign (hF.at 0 rfl)) rfl rfl rfl rfl fun a hF => ?_
            refine E.nil ?_
            refine wp_ret ?_
            refine bodyPost_ret (res_tmp Tryd.results8 (hF.at 0 rfl)) hF.dfr ?_
            exact ⟨rfl, bel⟩)
       · first
         | (exfalso; omega)
         | (refine E.opv hF (r_bin (hF.at 0 rfl) ev_c eg_scalar (bi_int (ic_lss (c := false) (dec_ff hc18)) (by simp))) rfl rfl rfl rfl fun a hF => ?_
            refine E.opv hF (r_move (hF.at 0 rfl)) rfl rfl rfl rfl fun a hF => ?_
            refine E.opvg hF (r_move (hF.at 13 rfl)) (wanted_by rfl rfl (hF.at 0 rfl) rfl) rfl rfl rfl fun a hF => ?_
            by_cases hc19 : 3000000 < n
            · first
              | (exfalso; omega)
              | (refine E.opvg hF (r_bin (hF.at 0 rfl) ev_c eg_scalar (bi_int (ic_gtr (c := true) (dec_tt hc19)) (by simp))) (wanted_by rfl rfl (hF.at 1 rfl) rfl) rfl rfl rfl fun a hF => ?_
                 refine E.opv hF (r_pick_f (hF.at 2 rfl) (hF.at 0 rfl)) rfl rfl rfl rfl fun a hF => ?_
                 refine E.nil ?_
                 refine wp_cond_true (hF.at 0 rfl) ?_
                 refine wp_seq ?_
                 refine E.seq ?_
                 refine E.opv hF (r_move (hF.at 6 rfl)) rfl rfl rfl rfl fun a hF => ?_
                 refine E.opv hF (r_bin (hF.at 0 rfl) ev_c eg_scalar (bi_int (ic_eql (c := true) (by decide)) (by simp))) rfl rfl rfl rfl fun a hF => ?_
                 refine E.opv hF (r_move (hF.at 0 rfl)) rfl rfl rfl rfl fun a hF => ?_
                 refine E.opvg hF (r_load (hF.at 10 rfl) (ldb_JDate (vs := [.int .i64 0, .int .i64 0, .int .i64 0]) o3 rfl rfl)) (wanted_by rfl rfl (hF.at 0 rfl) rfl) rfl rfl rfl fun a hF => ?_
                 refine E.opvg hF (r_build (by simp) (bd_JDate_ _)) (wanted_by rfl rfl (hF.at 1 rfl) rfl) rfl rfl rfl fun a hF => ?_
                 refine E.opvg hF (r_bin (hF.at 1 rfl) (hF.at 0 rfl) eg_JDate (es_JDate (dec_tt (by simp)))) (wanted_by rfl rfl (hF.at 2 rfl) rfl) rfl rfl rfl fun a hF => ?_
                 refine E.opv hF (r_pick_t (hF.at 3 rfl) (hF.at 0 rfl)) rfl rfl rfl rfl fun a hF => ?_
                 refine E.opset (L' := [(2, .bool true), (28, .bool true), (27, .bool true), (26, .agg #[.int .i64 0, .int .i64 0, .int .i64 0]), (25, .agg #[.int .i64 0, .int .i64 0, .int .i64 0]), (24, .bool true), (23, .bool true), (22, .int .i64 2), (21, .bool true), (20, .bool true), (19, .int .i64 n), (18, .bool false), (17, .bool false), (16, .int .i64 n), (4, .int .i64 2), (3, .pointer (some ⟨g3, 0, none⟩)), (15, .int .i64 2), (14, .agg #[.int .i64 0, .int .i64 0, .int .i64 0]), (11, .tuple #[.agg #[.int .i64 0, .int .i64 0, .int .i64 0], .int .i64 2]), (13, .tuple #[.agg #[.int .i64 0, .int .i64 0, .int .i64 0], .int .i64 2]), (12, .int .i64 n), (10, .bool false), (9, .bool true), (0, .int .i64 n)]) hF (r_assign (hF.at 0 rfl)) rfl rfl rfl rfl fun a hF => ?_
                 refine E.nil ?_
                 refine wp_ret ?_
                 refine bodyPost_ret (res_tmp Tryd.results8 (hF.at 0 rfl)) hF.dfr ?_
                 exact ⟨rfl, bel⟩)
            · first
              | (exfalso; omega)
              | (refine E.opvg hF (r_bin (hF.at 0 rfl) ev_c eg_scalar (bi_int (ic_gtr (c := false) (dec_ff hc19)) (by simp))) (wanted_by rfl rfl (hF.at 1 rfl) rfl) rfl rfl rfl fun a hF => ?_
                 refine E.opv hF (r_pick_f (hF.at 2 rfl) (hF.at 0 rfl)) rfl rfl rfl rfl fun a hF => ?_
                 refine E.nil ?_
                 refine wp_cond_false (hF.at 0 rfl) ?_
                 refine wp_skip ?_
                 refine E.norm ?_
                 refine wp_seq ?_
                 refine E.seq ?_
                 refine E.opv hF (r_field (hF.at 7 rfl) (fa_JDate_0 (p := 0) rfl)) rfl rfl rfl rfl fun a hF => ?_
                 refine E.opv hF (r_load (hF.at 0 rfl) (ldb_i64 (v := .int .i64 0) o3 rfl)) rfl rfl rfl rfl fun a hF => ?_
                 refine E.opv hF (r_field (hF.at 9 rfl) (fa_JDate_1 (p := 1) rfl)) rfl rfl rfl rfl fun a hF => ?_
                 refine E.opv hF (r_load (hF.at 0 rfl) (ldb_int (v := .int .i64 0) o3 rfl)) rfl rfl rfl rfl fun a hF => ?_
                 refine E.opv hF (r_field (hF.at 11 rfl) (fa_JDate_2 (p := 2) rfl)) rfl rfl rfl rfl fun a hF => ?_
                 refine E.opv hF (r_load (hF.at 0 rfl) (ldb_int (v := .int .i64 0) o3 rfl)) rfl rfl rfl rfl fun a hF => ?_
                 refine E.call hF (r_call Tryd.func27 en27.1 en27.2 (map3 (hF.at 4 rfl) (hF.at 2 rfl) (hF.at 0 rfl))) (dfixJ_any 0 0 0 _ (by omega) (by omega)) rfl rfl rfl rfl ?_
                 rintro e w20 ⟨rfl, bb⟩
                 refine ⟨_, rfl, ?_⟩
                 intro a hF
                 replace o3 := o3.below bb
                 replace bel := below_to bel bb
                 clear bb
                 refine E.opv hF (r_move (hF.at 0 rfl)) rfl rfl rfl rfl fun a hF => ?_
                 refine E.opv hF (r_extract (v := .int .i64 (fixN calJ 0 0 0)) (hF.at 0 rfl) rfl) rfl rfl rfl rfl fun a hF => ?_
                 refine E.opv hF (r_extract (v := .int .i64 (fixE calJ 0 0 0)) (hF.at 1 rfl) rfl) rfl rfl rfl rfl fun a hF => ?_
                 refine E.opv hF (r_assign (hF.at 1 rfl)) rfl rfl rfl rfl fun a hF => ?_
                 refine E.opv hF (r_assign (hF.at 1 rfl)) rfl rfl rfl rfl fun a hF => ?_
                 refine E.nil ?_
                 refine wp_seq ?_
                 refine E.seq ?_
                 refine E.opv hF (r_load (hF.at 19 rfl) (ldb_JDate (vs := [.int .i64 0, .int .i64 0, .int .i64 0]) o3 rfl rfl)) rfl rfl rfl rfl fun a hF => ?_
                 refine E.call hF (r_call Tryd.func28 en28.1 en28.2 (map1 (hF.at 0 rfl))) (cfixJ_any 0 0 0 _ (hT.below bel)) rfl rfl rfl rfl ?_
                 rintro e w21 ⟨rfl, bb⟩
                 refine ⟨_, rfl, ?_⟩
                 intro a hF
                 replace bel := below_to bel bb
                 clear bb
                 refine E.opv hF (r_move (hF.at 0 rfl)) rfl rfl rfl rfl fun a hF => ?_
                 refine E.opv hF (r_extract (v := .int .i64 (fixN calJ 0 0 0)) (hF.at 0 rfl) rfl) rfl rfl rfl rfl fun a hF => ?_
                 refine E.opv hF (r_extract (v := .int .i64 (fixE calJ 0 0 0)) (hF.at 1 rfl) rfl) rfl rfl rfl rfl fun a hF => ?_
                 refine E.opv hF (r_assign (hF.at 1 rfl)) rfl rfl rfl rfl fun a hF => ?_
                 refine E.opv hF (r_assign (hF.at 1 rfl)) rfl rfl rfl rfl fun a hF => ?_
                 refine E.nil ?_
                 refine wp_seq ?_
                 refine E.seq ?_
                 refine E.opv hF (r_move (hF.at 25 rfl)) rfl rfl rfl rfl fun a hF => ?_
                 refine E.opv hF (r_bin (hF.at 0 rfl) ev_c eg_scalar (bi_int (ic_eql (c := false) (by decide)) (by simp))) rfl rfl rfl rfl fun a hF => ?_
                 refine E.opv hF (r_move (hF.at 0 rfl)) rfl rfl rfl rfl fun a hF => ?_
                 refine E.unwanted hF (wanted_by rfl rfl (hF.at 0 rfl) rfl) rfl rfl rfl fun a hF => ?_
                 refine E.unwanted hF (wanted_by rfl rfl (hF.at 1 rfl) rfl) rfl rfl rfl fun a hF => ?_
                 refine E.opv hF (r_pick_f (hF.at 2 rfl) ev_c) rfl rfl rfl rfl fun a hF => ?_
                 refine E.opv hF (r_move (hF.at 0 rfl)) rfl rfl rfl rfl fun a hF => ?_
                 refine E.unwanted hF (wanted_by rfl rfl (hF.at 0 rfl) rfl) rfl rfl rfl fun a hF => ?_
                 refine E.unwanted hF (wanted_by rfl rfl (hF.at 1 rfl) rfl) rfl rfl rfl fun a hF => ?_
                 refine E.unwanted hF (wanted_by rfl rfl (hF.at 2 rfl) rfl) rfl rfl rfl fun a hF => ?_
                 refine E.opv hF (r_pick_f (hF.at 3 rfl) ev_c) rfl rfl rfl rfl fun a hF => ?_
                 refine E.opv hF (r_move (hF.at 0 rfl)) rfl rfl rfl rfl fun a hF => ?_
                 refine E.unwanted hF (wanted_by rfl rfl (hF.at 0 rfl) rfl) rfl rfl rfl fun a hF => ?_
                 refine E.unwanted hF (wanted_by rfl rfl (hF.at 1 rfl) rfl) rfl rfl rfl fun a hF => ?_
                 refine E.opv hF (r_pick_f (hF.at 2 rfl) ev_c) rfl rfl rfl rfl fun a hF => ?_
                 refine E.opv hF (r_move (hF.at 0 rfl)) rfl rfl rfl rfl fun a hF => ?_
                 refine E.unwanted hF (wanted_by rfl rfl (hF.at 0 rfl) rfl) rfl rfl rfl fun a hF => ?_
                 refine E.unwanted hF (wanted_by rfl rfl (hF.at 1 rfl) rfl) rfl rfl rfl fun a hF => ?_
                 refine E.unwanted hF (wanted_by rfl rfl (hF.at 2 rfl) rfl) rfl rfl rfl fun a hF => ?_
                 refine E.opv hF (r_pick_f (hF.at 3 rfl) ev_c) rfl rfl rfl rfl fun a hF => ?_
                 refine E.opset (L' := [(2, .bool false), (63, .bool false), (62, undef), (61, undef), (60, undef), (59, .bool false), (58, .bool false), (57, undef), (56, undef), (55, .bool false), (54, .bool false), (53, undef), (52, undef), (51, undef), (50, .bool false), (49, .bool false), (48, undef), (47, undef), (46, .bool false), (45, .bool false), (44, .int .i64 2), (8, .int .i64 (fixE calJ 0 0 0)), (7, .int .i64 (fixN calJ 0 0 0)), (43, .int .i64 (fixE calJ 0 0 0)), (42, .int .i64 (fixN calJ 0 0 0)), (39, .tuple #[.int .i64 (fixN calJ 0 0 0), .int .i64 (fixE calJ 0 0 0)]), (41, .tuple #[.int .i64 (fixN calJ 0 0 0), .int .i64 (fixE calJ 0 0 0)]), (40, .agg #[.int .i64 0, .int .i64 0, .int .i64 0]), (6, .int .i64 (fixE calJ 0 0 0)), (5, .int .i64 (fixN calJ 0 0 0)), (38, .int .i64 (fixE calJ 0 0 0)), (37, .int .i64 (fixN calJ 0 0 0)), (29, .tuple #[.int .i64 (fixN calJ 0 0 0), .int .i64 (fixE calJ 0 0 0)]), (36, .tuple #[.int .i64 (fixN calJ 0 0 0), .int .i64 (fixE calJ 0 0 0)]), (35, .int .i64 0), (34, .pointer (some ⟨g3, 2, none⟩)), (33, .int .i64 0), (32, .pointer (some ⟨g3, 1, none⟩)), (31, .int .i64 0), (30, .pointer (some ⟨g3, 0, none⟩)), (21, .bool false), (20, .bool false), (19, .int .i64 n), (18, .bool false), (17, .bool false), (16, .int .i64 n), (4, .int .i64 2), (3, .pointer (some ⟨g3, 0, none⟩)), (15, .int .i64 2), (14, .agg #[.int .i64 0, .int .i64 0, .int .i64 0]), (11, .tuple #[.agg #[.int .i64 0, .int .i64 0, .int .i64 0], .int .i64 2]), (13, .tuple #[.agg #[.int .i64 0, .int .i64 0, .int .i64 0], .int .i64 2]), (12, .int .i64 n), (10, .bool false), (9, .bool true), (0, .int .i64 n)]) hF (r_assign (hF.at 0 rfl)) rfl rfl rfl rfl fun a hF => ?_
                 refine E.nil ?_
                 refine wp_ret ?_
                 refine bodyPost_ret (res_tmp Tryd.results8 (hF.at 0 rfl)) hF.dfr ?_
                 exact ⟨rfl, bel⟩)))

set_option maxHeartbeats 4000000 in
theorem julianDates_walk (y m d : Int) (w : World) (hd0 : -9223372036854775808 ≤ d) (hd1 : d ≤ 9223372036854775807) (hT : TabJ w) :
    Calls Tryd.prog 9 #[.int .i64 y, .int .i64 m, .int .i64 d] w (ValPost w (.bool true)) := by
  have bel : Below w.heap.size w w := Below.refl _ _
  refine E.enter (nt := 61) (L := [(0, .int .i64 y), (1, .int .i64 m), (2, .int .i64 d)]) Tryd.func9 rfl rfl rfl (args_cons (i := 0) rfl (args_cons (i := 1) rfl (args_cons (i := 2) rfl args_nil))) ?_
  intro a hF
  refine wp_seq ?_
  refine E.seq ?_
  refine E.opv hF (r_assign ev_c) rfl rfl rfl rfl fun a hF => ?_
  refine E.nil ?_
  refine wp_seq ?_
  refine wp_seq ?_
  refine E.seq ?_
  refine E.call hF (r_call Tryd.func25 en25.1 en25.2 map0) (awakeJ_any _ (hT.below bel)) rfl rfl rfl rfl ?_
  rintro e w1 ⟨rfl, bb⟩
  refine ⟨_, rfl, ?_⟩
  intro a hF
  replace bel := below_to bel bb
  clear bb
  refine E.opv hF (r_un (hF.at 0 rfl) (bn_not _ false rfl)) rfl rfl rfl rfl fun a hF => ?_
  refine E.nil ?_
  refine wp_cond_false (hF.at 0 rfl) ?_
  refine wp_skip ?_
  refine E.norm ?_
  refine wp_seq ?_
  refine E.seq ?_
  refine E.opv hF (r_move (hF.at 3 rfl)) rfl rfl rfl rfl fun a hF => ?_
  refine E.opv hF (r_move (hF.at 5 rfl)) rfl rfl rfl rfl fun a hF => ?_
  refine E.opv hF (r_move (hF.at 7 rfl)) rfl rfl rfl rfl fun a hF => ?_
  refine E.opv hF (r_build (pair3 (hF.at 2 rfl) (hF.at 1 rfl) (hF.at 0 rfl)) (bd_JDate_012 _ _ _ _)) rfl rfl rfl rfl fun a hF => ?_
  refine E.call hF (r_call Tryd.func28 en28.1 en28.2 (map1 (hF.at 0 rfl))) (cfixJ_any y m d _ (hT.below bel)) rfl rfl rfl rfl ?_
  rintro e w2 ⟨rfl, bb⟩
  refine ⟨_, rfl, ?_⟩
  intro a hF
  replace bel := below_to bel bb
  clear bb
  refine E.opv hF (r_move (hF.at 0 rfl)) rfl rfl rfl rfl fun a hF => ?_
  refine E.opv hF (r_extract (v := .int .i64 (fixN calJ y m d)) (hF.at 0 rfl) rfl) rfl rfl rfl rfl fun a hF => ?_
  refine E.opv hF (r_extract (v := .int .i64 (fixE calJ y m d)) (hF.at 1 rfl) rfl) rfl rfl rfl rfl fun a hF => ?_
  refine E.opv hF (r_assign (hF.at 1 rfl)) rfl rfl rfl rfl fun a hF => ?_
  refine E.opv hF (r_assign (hF.at 1 rfl)) rfl rfl rfl rfl fun a hF => ?_
  refine E.nil ?_
  refine wp_seq ?_
  refine E.seq ?_
  refine E.opv hF (r_move (hF.at 13 rfl)) rfl rfl rfl rfl fun a hF => ?_
  refine E.opv hF (r_builtin (map2 (hF.at 0 rfl) ev_c) bl_max) rfl rfl rfl rfl fun a hF => ?_
  refine E.opv hF (r_builtin (map2 (hF.at 0 rfl) ev_c) bl_min) rfl rfl rfl rfl fun a hF => ?_
  refine E.opv hF (r_assign (hF.at 0 rfl)) rfl rfl rfl rfl fun a hF => ?_
  refine E.nil ?_
  refine wp_seq ?_
  refine E.seq ?_
  refine E.opv hF (r_move (hF.at 0 rfl)) rfl rfl rfl rfl fun a hF => ?_
  refine E.opv hF (r_move (hF.at 19 rfl)) rfl rfl rfl rfl fun a hF => ?_
  refine E.opv hF (r_move (hF.at 21 rfl)) rfl rfl rfl rfl fun a hF => ?_
  refine E.call hF (r_call Tryd.func27 en27.1 en27.2 (map3 (hF.at 2 rfl) (hF.at 1 rfl) (hF.at 0 rfl))) (dfixJ_any (min (max y (-9001)) 9001) m d _ (by omega) (by omega)) rfl rfl rfl rfl ?_
  rintro e w3 ⟨rfl, bb⟩
  refine ⟨_, rfl, ?_⟩
  intro a hF
  replace bel := below_to bel bb
  clear bb
  refine E.opv hF (r_move (hF.at 0 rfl)) rfl rfl rfl rfl fun a hF => ?_
  refine E.opv hF (r_extract (v := .int .i64 (fixN calJ (min (max y (-9001)) 9001) m d)) (hF.at 0 rfl) rfl) rfl rfl rfl rfl fun a hF => ?_
  refine E.opv hF (r_extract (v := .int .i64 (fixE calJ (min (max y (-9001)) 9001) m d)) (hF.at 1 rfl) rfl) rfl rfl rfl rfl fun a hF => ?_
  refine E.opv hF (r_assign (hF.at 1 rfl)) rfl rfl rfl rfl fun a hF => ?_
  refine E.opv hF (r_assign (hF.at 1 rfl)) rfl rfl rfl rfl fun a hF => ?_
  refine E.nil ?_
  refine wp_seq ?_
  refine E.seq ?_
  refine E.opv hF (r_move (hF.at 13 rfl)) rfl rfl rfl rfl fun a hF => ?_
  refine E.opv hF (r_move (hF.at 1 rfl)) rfl rfl rfl rfl fun a hF => ?_
  refine E.opv hF (r_bin (hF.at 1 rfl) (hF.at 0 rfl) eg_scalar (bi_int (ic_eql (c := true) (dec_tt (clipN _ _ _).2)) (by simp))) rfl rfl rfl rfl fun a hF => ?_
  refine E.opv hF (r_move (hF.at 0 rfl)) rfl rfl rfl rfl fun a hF => ?_
  refine E.opvg hF (r_move (hF.at 18 rfl)) (wanted_by rfl rfl (hF.at 0 rfl) rfl) rfl rfl rfl fun a hF => ?_
  refine E.opvg hF (r_move (hF.at 6 rfl)) (wanted_by rfl rfl (hF.at 1 rfl) rfl) rfl rfl rfl fun a hF => ?_
  refine E.opvg hF (r_bin (hF.at 1 rfl) (hF.at 0 rfl) eg_scalar (bi_int (ic_eql (c := true) (dec_tt (clipN _ _ _).1)) (by simp))) (wanted_by rfl rfl (hF.at 2 rfl) rfl) rfl rfl rfl fun a hF => ?_
  refine E.opv hF (r_pick_t (hF.at 3 rfl) (hF.at 0 rfl)) rfl rfl rfl rfl fun a hF => ?_
  refine E.opv hF (r_move (hF.at 0 rfl)) rfl rfl rfl rfl fun a hF => ?_
  refine E.opvg hF (r_move (hF.at 18 rfl)) (wanted_by rfl rfl (hF.at 0 rfl) rfl) rfl rfl rfl fun a hF => ?_
  refine E.opvg hF (r_move (hF.at 36 rfl)) (wanted_by rfl rfl (hF.at 1 rfl) rfl) rfl rfl rfl fun a hF => ?_
  by_cases hc4 : min (max y (-9001)) 9001 ≠ y
  · first
    | (exfalso; omega)
    | (refine E.opvg hF (r_bin (hF.at 1 rfl) (hF.at 0 rfl) eg_scalar (bi_int (ic_neq (c := true) (dec_tt hc4)) (by simp))) (wanted_by rfl rfl (hF.at 2 rfl) rfl) rfl rfl rfl fun a hF => ?_
       refine E.opvg hF (r_move (hF.at 0 rfl)) (wanted_by rfl rfl (hF.at 3 rfl) rfl) rfl rfl rfl fun a hF => ?_
       refine E.unwanted hF (wanted_by rfl rfl (hF.at 0 rfl) rfl) rfl rfl rfl fun a hF => ?_
       refine E.unwanted hF (wanted_by rfl rfl (hF.at 1 rfl) rfl) rfl rfl rfl fun a hF => ?_
       refine E.unwanted hF (wanted_by rfl rfl (hF.at 2 rfl) rfl) rfl rfl rfl fun a hF => ?_
       refine E.unwanted hF (wanted_by rfl rfl (hF.at 3 rfl) rfl) rfl rfl rfl fun a hF => ?_
       refine E.unwanted hF (wanted_by rfl rfl (hF.at 4 rfl) rfl) rfl rfl rfl fun a hF => ?_
       refine E.unwanted hF (wanted_by rfl rfl (hF.at 5 rfl) rfl) rfl rfl rfl fun a hF => ?_
       refine E.unwanted hF (wanted_undef rfl rfl (hF.at 0 rfl)) rfl rfl rfl fun a hF => ?_
       refine E.unwanted hF (wanted_undef rfl rfl (hF.at 1 rfl)) rfl rfl rfl fun a hF => ?_
       refine E.unwanted hF (wanted_undef rfl rfl (hF.at 2 rfl)) rfl rfl rfl fun a hF => ?_
       refine E.unwanted hF (wanted_undef rfl rfl (hF.at 3 rfl)) rfl rfl rfl fun a hF => ?_
       refine E.unwanted hF (wanted_undef rfl rfl (hF.at 4 rfl)) rfl rfl rfl fun a hF => ?_
       refine E.unwanted hF (wanted_undef rfl rfl (hF.at 5 rfl)) rfl rfl rfl fun a hF => ?_
       refine E.unwanted hF (wanted_undef rfl rfl (hF.at 6 rfl)) rfl rfl rfl fun a hF => ?_
       refine E.unwanted hF (wanted_by rfl rfl (hF.at 13 rfl) rfl) rfl rfl rfl fun a hF => ?_
       refine E.opvg hF (r_pick_t (hF.at 14 rfl) ev_c) (wanted_by rfl rfl (hF.at 18 rfl) rfl) rfl rfl rfl fun a hF => ?_
       refine E.opv hF (r_pick_t (hF.at 19 rfl) (hF.at 0 rfl)) rfl rfl rfl rfl fun a hF => ?_
       refine E.opset (L' := [(6, .bool true), (60, .bool true), (59, .bool true), (58, undef), (57, undef), (56, undef), (55, undef), (54, undef), (53, undef), (52, undef), (51, undef), (50, undef), (49, undef), (48, undef), (47, undef), (46, undef), (45, undef), (44, .bool true), (43, .bool true), (42, .int .i64 y), (41, .int .i64 (min (max y (-9001)) 9001)), (40, .bool true), (39, .bool true), (38, .bool true), (37, .int .i64 (fixN calJ (min (max y (-9001)) 9001) m d)), (36, .int .i64 (fixN calJ y m d)), (35, .bool true), (34, .bool true), (33, .int .i64 (fixE calJ (min (max y (-9001)) 9001) m d)), (32, .int .i64 (fixE calJ y m d)), (11, .int .i64 (fixE calJ (min (max y (-9001)) 9001) m d)), (10, .int .i64 (fixN calJ (min (max y (-9001)) 9001) m d)), (31, .int .i64 (fixE calJ (min (max y (-9001)) 9001) m d)), (30, .int .i64 (fixN calJ (min (max y (-9001)) 9001) m d)), (25, .tuple #[.int .i64 (fixN calJ (min (max y (-9001)) 9001) m d), .int .i64 (fixE calJ (min (max y (-9001)) 9001) m d)]), (29, .tuple #[.int .i64 (fixN calJ (min (max y (-9001)) 9001) m d), .int .i64 (fixE calJ (min (max y (-9001)) 9001) m d)]), (28, .int .i64 d), (27, .int .i64 m), (26, .int .i64 (min (max y (-9001)) 9001)), (9, .int .i64 (min (max y (-9001)) 9001)), (24, .int .i64 (min (max y (-9001)) 9001)), (23, .int .i64 (max y (-9001))), (22, .int .i64 y), (8, .int .i64 (fixE calJ y m d)), (7, .int .i64 (fixN calJ y m d)), (21, .int .i64 (fixE calJ y m d)), (20, .int .i64 (fixN calJ y m d)), (14, .tuple #[.int .i64 (fixN calJ y m d), .int .i64 (fixE calJ y m d)]), (19, .tuple #[.int .i64 (fixN calJ y m d), .int .i64 (fixE calJ y m d)]), (18, .agg #[.int .i64 y, .int .i64 m, .int .i64 d]), (17, .int .i64 d), (16, .int .i64 m), (15, .int .i64 y), (13, .bool false), (12, .bool true), (0, .int .i64 y), (1, .int .i64 m), (2, .int .i64 d)]) hF (r_assign (hF.at 0 rfl)) rfl rfl rfl rfl fun a hF => ?_
       refine E.nil ?_
       refine wp_ret ?_
       refine bodyPost_ret (res_tmp Tryd.results9 (hF.at 0 rfl)) hF.dfr ?_
       exact ⟨rfl, bel⟩)
  · first
    | (exfalso; omega)
    | (refine E.opvg hF (r_bin (hF.at 1 rfl) (hF.at 0 rfl) eg_scalar (bi_int (ic_neq (c := false) (dec_ff hc4)) (by simp))) (wanted_by rfl rfl (hF.at 2 rfl) rfl) rfl rfl rfl fun a hF => ?_
       refine E.opvg hF (r_move (hF.at 0 rfl)) (wanted_by rfl rfl (hF.at 3 rfl) rfl) rfl rfl rfl fun a hF => ?_
       refine E.opvg hF (r_move (hF.at 39 rfl)) (wanted_by rfl rfl (hF.at 0 rfl) rfl) rfl rfl rfl fun a hF => ?_
       refine E.callg hF (r_call Tryd.func29 en29.1 en29.2 (map1 (hF.at 0 rfl))) (cleapJ_any y _) (wanted_by rfl rfl (hF.at 1 rfl) rfl) rfl rfl rfl ?_
       rintro e w5 ⟨rfl, bb⟩
       refine ⟨_, rfl, ?_⟩
       intro a hF
       replace bel := below_to bel bb
       clear bb
       refine E.opvg hF (r_move (hF.at 24 rfl)) (wanted_by rfl rfl (hF.at 2 rfl) rfl) rfl rfl rfl fun a hF => ?_
       refine E.callg hF (r_call Tryd.func30 en30.1 en30.2 (map1 (hF.at 0 rfl))) (dleapJ_any (min (max y (-9001)) 9001) _) (wanted_by rfl rfl (hF.at 3 rfl) rfl) rfl rfl rfl ?_
       rintro e w6 ⟨rfl, bb⟩
       refine ⟨_, rfl, ?_⟩
       intro a hF
       replace bel := below_to bel bb
       clear bb
       refine E.opvg hF (r_bin (hF.at 2 rfl) (hF.at 0 rfl) eg_bool (bb_eql (d := true) (by rw [show min (max y (-9001)) 9001 = y by omega]; exact beq_self_eq_true _))) (wanted_by rfl rfl (hF.at 4 rfl) rfl) rfl rfl rfl fun a hF => ?_
       refine E.opvg hF (r_move (hF.at 0 rfl)) (wanted_by rfl rfl (hF.at 5 rfl) rfl) rfl rfl rfl fun a hF => ?_
       refine E.opvg hF (r_move (hF.at 45 rfl)) (wanted_by rfl rfl (hF.at 0 rfl) rfl) rfl rfl rfl fun a hF => ?_
       refine E.opvg hF (r_move (hF.at 47 rfl)) (wanted_by rfl rfl (hF.at 1 rfl) rfl) rfl rfl rfl fun a hF => ?_
       refine E.callg hF (r_call Tryd.func31 en31.1 en31.2 (map2 (hF.at 1 rfl) (hF.at 0 rfl))) (clenJ_any y m _ (hT.below bel)) (wanted_by rfl rfl (hF.at 2 rfl) rfl) rfl rfl rfl ?_
       rintro e w7 ⟨rfl, bb⟩
       refine ⟨_, rfl, ?_⟩
       intro a hF
       replace bel := below_to bel bb
       clear bb
       refine E.opvg hF (r_move (hF.at 31 rfl)) (wanted_by rfl rfl (hF.at 3 rfl) rfl) rfl rfl rfl fun a hF => ?_
       refine E.opvg hF (r_move (hF.at 50 rfl)) (wanted_by rfl rfl (hF.at 4 rfl) rfl) rfl rfl rfl fun a hF => ?_
       refine E.callg hF (r_call Tryd.func32 en32.1 en32.2 (map2 (hF.at 1 rfl) (hF.at 0 rfl))) (dlenJ_any (min (max y (-9001)) 9001) m _) (wanted_by rfl rfl (hF.at 5 rfl) rfl) rfl rfl rfl ?_
       rintro e w8 ⟨rfl, bb⟩
       refine ⟨_, rfl, ?_⟩
       intro a hF
       replace bel := below_to bel bb
       clear bb
       refine E.opvg hF (r_bin (hF.at 3 rfl) (hF.at 0 rfl) eg_scalar (bi_int (ic_eql (c := true) (dec_tt (by rw [show min (max y (-9001)) 9001 = y by omega]))) (by simp))) (wanted_by rfl rfl (hF.at 6 rfl) rfl) rfl rfl rfl fun a hF => ?_
       refine E.opvg hF (r_pick_t (hF.at 7 rfl) (hF.at 0 rfl)) (wanted_by rfl rfl (hF.at 13 rfl) rfl) rfl rfl rfl fun a hF => ?_
       refine E.opvg hF (r_pick_f (hF.at 14 rfl) (hF.at 0 rfl)) (wanted_by rfl rfl (hF.at 18 rfl) rfl) rfl rfl rfl fun a hF => ?_
       refine E.opv hF (r_pick_t (hF.at 19 rfl) (hF.at 0 rfl)) rfl rfl rfl rfl fun a hF => ?_
       refine E.opset (L' := [(6, .bool true), (60, .bool true), (59, .bool true), (58, .bool true), (57, .bool true), (56, .int .i64 (mlen (leapJ (min (max y (-9001)) 9001)) m)), (55, .int .i64 m), (54, .int .i64 (min (max y (-9001)) 9001)), (53, .int .i64 (mlen (leapJ y) m)), (52, .int .i64 m), (51, .int .i64 y), (50, .bool true), (49, .bool true), (48, .bool (leapJ (min (max y (-9001)) 9001))), (47, .int .i64 (min (max y (-9001)) 9001)), (46, .bool (leapJ y)), (45, .int .i64 y), (44, .bool false), (43, .bool false), (42, .int .i64 y), (41, .int .i64 (min (max y (-9001)) 9001)), (40, .bool true), (39, .bool true), (38, .bool true), (37, .int .i64 (fixN calJ (min (max y (-9001)) 9001) m d)), (36, .int .i64 (fixN calJ y m d)), (35, .bool true), (34, .bool true), (33, .int .i64 (fixE calJ (min (max y (-9001)) 9001) m d)), (32, .int .i64 (fixE calJ y m d)), (11, .int .i64 (fixE calJ (min (max y (-9001)) 9001) m d)), (10, .int .i64 (fixN calJ (min (max y (-9001)) 9001) m d)), (31, .int .i64 (fixE calJ (min (max y (-9001)) 9001) m d)), (30, .int .i64 (fixN calJ (min (max y (-9001)) 9001) m d)), (25, .tuple #[.int .i64 (fixN calJ (min (max y (-9001)) 9001) m d), .int .i64 (fixE calJ (min (max y (-9001)) 9001) m d)]), (29, .tuple #[.int .i64 (fixN calJ (min (max y (-9001)) 9001) m d), .int .i64 (fixE calJ (min (max y (-9001)) 9001) m d)]), (28, .int .i64 d), (27, .int .i64 m), (26, .int .i64 (min (max y (-9001)) 9001)), (9, .int .i64 (min (max y (-9001)) 9001)), (24, .int .i64 (min (max y (-9001)) 9001)), (23, .int .i64 (max y (-9001))), (22, .int .i64 y), (8, .int .i64 (fixE calJ y m d)), (7, .int .i64 (fixN calJ y m d)), (21, .int .i64 (fixE calJ y m d)), (20, .int .i64 (fixN calJ y m d)), (14, .tuple #[.int .i64 (fixN calJ y m d), .int .i64 (fixE calJ y m d)]), (19, .tuple #[.int .i64 (fixN calJ y m d), .int .i64 (fixE calJ y m d)]), (18, .agg #[.int .i64 y, .int .i64 m, .int .i64 d]), (17, .int .i64 d), (16, .int .i64 m), (15, .int .i64 y), (13, .bool false), (12, .bool true), (0, .int .i64 y), (1, .int .i64 m), (2, .int .i64 d)]) hF (r_assign (hF.at 0 rfl)) rfl rfl rfl rfl fun a hF => ?_
       refine E.nil ?_
       refine wp_ret ?_
       refine bodyPost_ret (res_tmp Tryd.results9 (hF.at 0 rfl)) hF.dfr ?_
       exact ⟨rfl, bel⟩)

set_option maxHeartbeats 4000000 in
theorem julianSteps_walk (n : Int) (w : World) (hT : TabJ w) :
    Calls Tryd.prog 10 #[.int .i64 n] w (ValPost w (.bool true)) := by
  have bel : Below w.heap.size w w := Below.refl _ _
  refine E.enter (nt := 58) (L := [(0, .int .i64 n)]) Tryd.func10 rfl rfl rfl (args_cons (i := 0) rfl args_nil) ?_
  intro a hF
  refine wp_seq ?_
  refine E.seq ?_
  refine E.opv hF (r_assign ev_c) rfl rfl rfl rfl fun a hF => ?_
  refine E.nil ?_
  refine wp_seq ?_
  refine wp_seq ?_
  refine E.seq ?_
  refine E.call hF (r_call Tryd.func25 en25.1 en25.2 map0) (awakeJ_any _ (hT.below bel)) rfl rfl rfl rfl ?_
  rintro e w1 ⟨rfl, bb⟩
  refine ⟨_, rfl, ?_⟩
  intro a hF
  replace bel := below_to bel bb
  clear bb
  refine E.opv hF (r_un (hF.at 0 rfl) (bn_not _ false rfl)) rfl rfl rfl rfl fun a hF => ?_
  refine E.nil ?_
  refine wp_cond_false (hF.at 0 rfl) ?_
  refine wp_skip ?_
  refine E.norm ?_
  refine wp_seq ?_
  refine E.seq ?_
  refine E.opv hF (r_move (hF.at 3 rfl)) rfl rfl rfl rfl fun a hF => ?_
  refine E.call hF (r_call Tryd.func33 en33.1 en33.2 (map1 (hF.at 0 rfl))) (innJ_any n _) rfl rfl rfl rfl ?_
  rintro e w2 ⟨vv3, rfl, hh4, hh5, bb⟩
  refine ⟨_, rfl, ?_⟩
  intro a hF
  replace bel := below_to bel bb
  clear bb
  refine E.opset (L' := [(0, .int .i64 vv3), (13, .int .i64 vv3), (12, .int .i64 n), (11, .bool false), (10, .bool true), (2, .bool false)]) hF (r_assign (hF.at 0 rfl)) rfl rfl rfl rfl fun a hF => ?_
  refine E.nil ?_
  refine wp_seq ?_
  refine E.seq ?_
  refine E.opv hF (r_move (hF.at 0 rfl)) rfl rfl rfl rfl fun a hF => ?_
  by_cases hc6 : -3000000 ≤ vv3 ∧ vv3 ≤ 3000000
  · first
    | (exfalso; omega)
    | (refine E.call hF (r_call Tryd.func26 en26.1 en26.2 (map1 (hF.at 0 rfl))) (cofJ_any vv3 _ (hT.below bel) (mayB_t (by omega) (by omega))) rfl rfl rfl rfl ?_
       rintro e w7 ⟨vv8, vv9, vv10, rfl, hh11, hh12, bb⟩
       refine ⟨_, rfl, ?_⟩
       intro a hF
       have hyr := yrJ hh11 hh12 (by omega) (by omega)
       have hvb := val_bd hh11
       have hfg := fix_good (c := calJ) hh11 hh12 (by omega) (by omega) (by omega) (by omega)
       replace bel := below_to bel bb
       clear bb
       refine E.opv hF (r_move (hF.at 0 rfl)) rfl rfl rfl rfl fun a hF => ?_
       refine E.opv hF (r_extract (v := .agg #[.int .i64 vv8, .int .i64 vv9, .int .i64 vv10]) (hF.at 0 rfl) rfl) rfl rfl rfl rfl fun a hF => ?_
       refine E.opv hF (r_extract (v := .int .i64 0) (hF.at 1 rfl) rfl) rfl rfl rfl rfl fun a hF => ?_
       obtain ⟨g3, w13, ge3, hr, bb, o3⟩ := blk_alloc (P := Tryd.prog) (w := w7) (cs := [.int .i64 0, .int .i64 0, .int .i64 0]) 42 ze_JDate rfl
       replace ge3 : w.heap.size ≤ g3 := by rw [← ge3]; exact bel.size
       refine E.opv hF (r_alloc hr) rfl rfl rfl rfl fun a hF => ?_
       clear hr
       replace bel := below_to bel bb
       clear bb
       obtain ⟨w14, hr, tu, on⟩ := stb_JDate (vs := [.int .i64 vv8, .int .i64 vv9, .int .i64 vv10]) o3 rfl rfl (ocI (ocI (ocI oc0))) (o := 0) rfl
       refine E.st hF (r_store (hF.at 0 rfl) (hF.at 2 rfl) (hr _ rfl)) rfl rfl fun a hF => ?_
       clear hr
       replace bel := tu.below bel ge3
       clear tu
       replace o3 := on
       clear on
       refine E.opv hF (r_assign (hF.at 1 rfl)) rfl rfl rfl rfl fun a hF => ?_
       refine E.nil ?_
       refine wp_seq ?_
       refine E.seq ?_
       refine E.opv hF (r_move (hF.at 7 rfl)) rfl rfl rfl rfl fun a hF => ?_
       refine E.opv hF (r_bin (hF.at 0 rfl) ev_c eg_scalar (ia_add (by omega) (by omega))) rfl rfl rfl rfl fun a hF => ?_
       by_cases hc15 : -3000000 ≤ vv3 + 1 ∧ vv3 + 1 ≤ 3000000
       · first
         | (exfalso; omega)
         | (refine E.call hF (r_call Tryd.func26 en26.1 en26.2 (map1 (hF.at 0 rfl))) (cofJ_any (vv3 + 1) _ (hT.below bel) (mayB_t (by omega) (by omega))) rfl rfl rfl rfl ?_
            rintro e w16 ⟨vv17, vv18, vv19, rfl, hh20, hh21, bb⟩
            refine ⟨_, rfl, ?_⟩
            intro a hF
            have hyr := yrJ hh20 hh21 (by omega) (by omega)
            have hvb := val_bd hh20
            have hfg := fix_good (c := calJ) hh20 hh21 (by omega) (by omega) (by omega) (by omega)
            replace o3 := o3.below bb
            replace bel := below_to bel bb
            clear bb
            refine E.opv hF (r_move (hF.at 0 rfl)) rfl rfl rfl rfl fun a hF => ?_
            refine E.opv hF (r_extract (v := .agg #[.int .i64 vv17, .int .i64 vv18, .int .i64 vv19]) (hF.at 0 rfl) rfl) rfl rfl rfl rfl fun a hF => ?_
            refine E.opv hF (r_extract (v := .int .i64 0) (hF.at 1 rfl) rfl) rfl rfl rfl rfl fun a hF => ?_
            obtain ⟨g5, w22, ge5, hr, bb, o5⟩ := blk_alloc (P := Tryd.prog) (w := w16) (cs := [.int .i64 0, .int .i64 0, .int .i64 0]) 42 ze_JDate rfl
            have ne3_5 : g3 ≠ g5 := by rw [← ge5]; exact o3.ne_new
            replace ge5 : w.heap.size ≤ g5 := by rw [← ge5]; exact bel.size
            refine E.opv hF (r_alloc hr) rfl rfl rfl rfl fun a hF => ?_
            clear hr
            replace o3 := o3.below bb
            replace bel := below_to bel bb
            clear bb
            obtain ⟨w23, hr, tu, on⟩ := stb_JDate (vs := [.int .i64 vv17, .int .i64 vv18, .int .i64 vv19]) o5 rfl rfl (ocI (ocI (ocI oc0))) (o := 0) rfl
            refine E.st hF (r_store (hF.at 0 rfl) (hF.at 2 rfl) (hr _ rfl)) rfl rfl fun a hF => ?_
            clear hr
            replace o3 := tu.blk o3 ne3_5
            replace bel := tu.below bel ge5
            clear tu
            replace o5 := on
            clear on
            refine E.opv hF (r_assign (hF.at 1 rfl)) rfl rfl rfl rfl fun a hF => ?_
            refine E.nil ?_
            refine wp_seq ?_
            refine wp_seq ?_
            refine E.seq ?_
            refine E.opv hF (r_move (hF.at 15 rfl)) rfl rfl rfl rfl fun a hF => ?_
            by_cases hc24 : vv3 = 3000000
            · first
              | (exfalso; omega)
              | (refine E.opv hF (r_bin (hF.at 0 rfl) ev_c eg_scalar (bi_int (ic_eql (c := true) (dec_tt hc24)) (by simp))) rfl rfl rfl rfl fun a hF => ?_
                 refine E.nil ?_
                 refine wp_cond_true (hF.at 0 rfl) ?_
                 refine wp_seq ?_
                 refine E.seq ?_
                 refine E.opv hF (r_move (hF.at 10 rfl)) rfl rfl rfl rfl fun a hF => ?_
                 refine E.opv hF (r_bin (hF.at 0 rfl) ev_c eg_scalar (bi_int (ic_eql (c := true) (by decide)) (by simp))) rfl rfl rfl rfl fun a hF => ?_
                 refine E.opv hF (r_move (hF.at 0 rfl)) rfl rfl rfl rfl fun a hF => ?_
                 refine E.opvg hF (r_move (hF.at 5 rfl)) (wanted_by rfl rfl (hF.at 0 rfl) rfl) rfl rfl rfl fun a hF => ?_
                 refine E.opvg hF (r_bin (hF.at 0 rfl) ev_c eg_scalar (bi_int (ic_eql (c := false) (by decide)) (by simp))) (wanted_by rfl rfl (hF.at 1 rfl) rfl) rfl rfl rfl fun a hF => ?_
                 refine E.opv hF (r_pick_t (hF.at 2 rfl) (hF.at 0 rfl)) rfl rfl rfl rfl fun a hF => ?_
                 refine E.opset (L' := [(2, .bool false), (32, .bool false), (31, .bool false), (30, .int .i64 0), (29, .bool true), (28, .bool true), (27, .int .i64 0), (26, .bool true), (25, .int .i64 vv3), (6, .int .i64 0), (5, .pointer (some ⟨g5, 0, none⟩)), (24, .int .i64 0), (23, .agg #[.int .i64 vv17, .int .i64 vv18, .int .i64 vv19]), (19, .tuple #[.agg #[.int .i64 vv17, .int .i64 vv18, .int .i64 vv19], .int .i64 0]), (22, .tuple #[.agg #[.int .i64 vv17, .int .i64 vv18, .int .i64 vv19], .int .i64 0]), (21, .int .i64 (vv3 + 1)), (20, .int .i64 vv3), (4, .int .i64 0), (3, .pointer (some ⟨g3, 0, none⟩)), (18, .int .i64 0), (17, .agg #[.int .i64 vv8, .int .i64 vv9, .int .i64 vv10]), (14, .tuple #[.agg #[.int .i64 vv8, .int .i64 vv9, .int .i64 vv10], .int .i64 0]), (16, .tuple #[.agg #[.int .i64 vv8, .int .i64 vv9, .int .i64 vv10], .int .i64 0]), (15, .int .i64 vv3), (0, .int .i64 vv3), (13, .int .i64 vv3), (12, .int .i64 n), (11, .bool false), (10, .bool true)]) hF (r_assign (hF.at 0 rfl)) rfl rfl rfl rfl fun a hF => ?_
                 refine E.nil ?_
                 refine wp_ret ?_
                 refine bodyPost_ret (res_tmp Tryd.results10 (hF.at 0 rfl)) hF.dfr ?_
                 exact ⟨rfl, bel⟩)
            · first
              | (exfalso; omega)
              | (refine E.opv hF (r_bin (hF.at 0 rfl) ev_c eg_scalar (bi_int (ic_eql (c := false) (dec_ff hc24)) (by simp))) rfl rfl rfl rfl fun a hF => ?_
                 refine E.nil ?_
                 refine wp_cond_false (hF.at 0 rfl) ?_
                 refine wp_skip ?_
                 refine E.norm ?_
                 refine wp_seq ?_
                 refine E.seq ?_
                 refine E.opv hF (r_field (hF.at 11 rfl) (fa_JDate_0 (p := 0) rfl)) rfl rfl rfl rfl fun a hF => ?_
                 refine E.opv hF (r_load (hF.at 0 rfl) (ldb_i64 (v := .int .i64 vv8) o3 rfl)) rfl rfl rfl rfl fun a hF => ?_
                 refine E.opv hF (r_field (hF.at 13 rfl) (fa_JDate_1 (p := 1) rfl)) rfl rfl rfl rfl fun a hF => ?_
                 refine E.opv hF (r_load (hF.at 0 rfl) (ldb_int (v := .int .i64 vv9) o3 rfl)) rfl rfl rfl rfl fun a hF => ?_
                 refine E.opv hF (r_field (hF.at 15 rfl) (fa_JDate_2 (p := 2) rfl)) rfl rfl rfl rfl fun a hF => ?_
                 refine E.opv hF (r_load (hF.at 0 rfl) (ldb_int (v := .int .i64 vv10) o3 rfl)) rfl rfl rfl rfl fun a hF => ?_
                 refine E.call hF (r_call Tryd.func34 en34.1 en34.2 (map3 (hF.at 4 rfl) (hF.at 2 rfl) (hF.at 0 rfl))) (dnextJ_any vv8 vv9 vv10 _ (by omega) (by omega) (by omega) (by omega)) rfl rfl rfl rfl ?_
                 rintro e w25 ⟨rfl, bb⟩
                 refine ⟨_, rfl, ?_⟩
                 intro a hF
                 replace o5 := o5.below bb
                 replace bel := below_to bel bb
                 clear bb
                 refine E.opv hF (r_move (hF.at 0 rfl)) rfl rfl rfl rfl fun a hF => ?_
                 refine E.opv hF (r_extract (v := .int .i64 ((calJ.next vv8 vv9 vv10).1)) (hF.at 0 rfl) rfl) rfl rfl rfl rfl fun a hF => ?_
                 refine E.opv hF (r_extract (v := .int .i64 ((calJ.next vv8 vv9 vv10).2.1)) (hF.at 1 rfl) rfl) rfl rfl rfl rfl fun a hF => ?_
                 refine E.opv hF (r_extract (v := .int .i64 ((calJ.next vv8 vv9 vv10).2.2)) (hF.at 2 rfl) rfl) rfl rfl rfl rfl fun a hF => ?_
                 refine E.opv hF (r_assign (hF.at 2 rfl)) rfl rfl rfl rfl fun a hF => ?_
                 refine E.opv hF (r_assign (hF.at 2 rfl)) rfl rfl rfl rfl fun a hF => ?_
                 refine E.opv hF (r_assign (hF.at 2 rfl)) rfl rfl rfl rfl fun a hF => ?_
                 refine E.nil ?_
                 refine wp_seq ?_
                 refine E.seq ?_
                 refine E.opv hF (r_move (hF.at 24 rfl)) rfl rfl rfl rfl fun a hF => ?_
                 refine E.opv hF (r_bin (hF.at 0 rfl) ev_c eg_scalar (bi_int (ic_eql (c := true) (by decide)) (by simp))) rfl rfl rfl rfl fun a hF => ?_
                 refine E.opv hF (r_move (hF.at 0 rfl)) rfl rfl rfl rfl fun a hF => ?_
                 refine E.opvg hF (r_move (hF.at 19 rfl)) (wanted_by rfl rfl (hF.at 0 rfl) rfl) rfl rfl rfl fun a hF => ?_
                 refine E.opvg hF (r_bin (hF.at 0 rfl) ev_c eg_scalar (bi_int (ic_eql (c := true) (by decide)) (by simp))) (wanted_by rfl rfl (hF.at 1 rfl) rfl) rfl rfl rfl fun a hF => ?_
                 refine E.opv hF (r_pick_t (hF.at 2 rfl) (hF.at 0 rfl)) rfl rfl rfl rfl fun a hF => ?_
                 refine E.opv hF (r_move (hF.at 0 rfl)) rfl rfl rfl rfl fun a hF => ?_
                 refine E.opvg hF (r_load (hF.at 24 rfl) (ldb_JDate (vs := [.int .i64 vv17, .int .i64 vv18, .int .i64 vv19]) o5 rfl rfl)) (wanted_by rfl rfl (hF.at 0 rfl) rfl) rfl rfl rfl fun a hF => ?_
                 refine E.opvg hF (r_move (hF.at 10 rfl)) (wanted_by rfl rfl (hF.at 1 rfl) rfl) rfl rfl rfl fun a hF => ?_
                 refine E.opvg hF (r_move (hF.at 10 rfl)) (wanted_by rfl rfl (hF.at 2 rfl) rfl) rfl rfl rfl fun a hF => ?_
                 refine E.opvg hF (r_move (hF.at 10 rfl)) (wanted_by rfl rfl (hF.at 3 rfl) rfl) rfl rfl rfl fun a hF => ?_
                 refine E.opvg hF (r_build (pair3 (hF.at 2 rfl) (hF.at 1 rfl) (hF.at 0 rfl)) (bd_JDate_012 _ _ _ _)) (wanted_by rfl rfl (hF.at 4 rfl) rfl) rfl rfl rfl fun a hF => ?_
                 refine E.opvg hF (r_bin (hF.at 4 rfl) (hF.at 0 rfl) eg_JDate (es_JDate (dec_tt (next_eq (c := calJ) (by assumption) (by assumption) (by assumption) (by assumption))))) (wanted_by rfl rfl (hF.at 5 rfl) rfl) rfl rfl rfl fun a hF => ?_
                 refine E.opv hF (r_pick_t (hF.at 6 rfl) (hF.at 0 rfl)) rfl rfl rfl rfl fun a hF => ?_
                 refine E.opset (L' := [(2, .bool true), (57, .bool true), (56, .bool true), (55, .agg #[.int .i64 ((calJ.next vv8 vv9 vv10).1), .int .i64 ((calJ.next vv8 vv9 vv10).2.1), .int .i64 ((calJ.next vv8 vv9 vv10).2.2)]), (54, .int .i64 ((calJ.next vv8 vv9 vv10).2.2)), (53, .int .i64 ((calJ.next vv8 vv9 vv10).2.1)), (52, .int .i64 ((calJ.next vv8 vv9 vv10).1)), (51, .agg #[.int .i64 vv17, .int .i64 vv18, .int .i64 vv19]), (50, .bool true), (49, .bool true), (48, .bool true), (47, .int .i64 0), (46, .bool true), (45, .bool true), (44, .int .i64 0), (9, .int .i64 ((calJ.next vv8 vv9 vv10).2.2)), (8, .int .i64 ((calJ.next vv8 vv9 vv10).2.1)), (7, .int .i64 ((calJ.next vv8 vv9 vv10).1)), (43, .int .i64 ((calJ.next vv8 vv9 vv10).2.2)), (42, .int .i64 ((calJ.next vv8 vv9 vv10).2.1)), (41, .int .i64 ((calJ.next vv8 vv9 vv10).1)), (33, .tuple #[.int .i64 ((calJ.next vv8 vv9 vv10).1), .int .i64 ((calJ.next vv8 vv9 vv10).2.1), .int .i64 ((calJ.next vv8 vv9 vv10).2.2)]), (40, .tuple #[.int .i64 ((calJ.next vv8 vv9 vv10).1), .int .i64 ((calJ.next vv8 vv9 vv10).2.1), .int .i64 ((calJ.next vv8 vv9 vv10).2.2)]), (39, .int .i64 vv10), (38, .pointer (some ⟨g3, 2, none⟩)), (37, .int .i64 vv9), (36, .pointer (some ⟨g3, 1, none⟩)), (35, .int .i64 vv8), (34, .pointer (some ⟨g3, 0, none⟩)), (26, .bool false), (25, .int .i64 vv3), (6, .int .i64 0), (5, .pointer (some ⟨g5, 0, none⟩)), (24, .int .i64 0), (23, .agg #[.int .i64 vv17, .int .i64 vv18, .int .i64 vv19]), (19, .tuple #[.agg #[.int .i64 vv17, .int .i64 vv18, .int .i64 vv19], .int .i64 0]), (22, .tuple #[.agg #[.int .i64 vv17, .int .i64 vv18, .int .i64 vv19], .int .i64 0]), (21, .int .i64 (vv3 + 1)), (20, .int .i64 vv3), (4, .int .i64 0), (3, .pointer (some ⟨g3, 0, none⟩)), (18, .int .i64 0), (17, .agg #[.int .i64 vv8, .int .i64 vv9, .int .i64 vv10]), (14, .tuple #[.agg #[.int .i64 vv8, .int .i64 vv9, .int .i64 vv10], .int .i64 0]), (16, .tuple #[.agg #[.int .i64 vv8, .int .i64 vv9, .int .i64 vv10], .int .i64 0]), (15, .int .i64 vv3), (0, .int .i64 vv3), (13, .int .i64 vv3), (12, .int .i64 n), (11, .bool false), (10, .bool true)]) hF (r_assign (hF.at 0 rfl)) rfl rfl rfl rfl fun a hF => ?_
                 refine E.nil ?_
                 refine wp_ret ?_
                 refine bodyPost_ret (res_tmp Tryd.results10 (hF.at 0 rfl)) hF.dfr ?_
                 exact ⟨rfl, bel⟩))
       · first
         | (exfalso; omega)
         | (refine E.call hF (r_call Tryd.func26 en26.1 en26.2 (map1 (hF.at 0 rfl))) (cofxJ_any (vv3 + 1) _ (hT.below bel) (mayB_f (by omega))) rfl rfl rfl rfl ?_
            rintro e w26 ⟨rfl, bb⟩
            refine ⟨_, rfl, ?_⟩
            intro a hF
            replace o3 := o3.below bb
            replace bel := below_to bel bb
            clear bb
            refine E.opv hF (r_move (hF.at 0 rfl)) rfl rfl rfl rfl fun a hF => ?_
            refine E.opv hF (r_extract (v := .agg #[.int .i64 0, .int .i64 0, .int .i64 0]) (hF.at 0 rfl) rfl) rfl rfl rfl rfl fun a hF => ?_
            refine E.opv hF (r_extract (v := .int .i64 2) (hF.at 1 rfl) rfl) rfl rfl rfl rfl fun a hF => ?_
            obtain ⟨g5, w27, ge5, hr, bb, o5⟩ := blk_alloc (P := Tryd.prog) (w := w26) (cs := [.int .i64 0, .int .i64 0, .int .i64 0]) 42 ze_JDate rfl
            have ne3_5 : g3 ≠ g5 := by rw [← ge5]; exact o3.ne_new
            replace ge5 : w.heap.size ≤ g5 := by rw [← ge5]; exact bel.size
            refine E.opv hF (r_alloc hr) rfl rfl rfl rfl fun a hF => ?_
            clear hr
            replace o3 := o3.below bb
            replace bel := below_to bel bb
            clear bb
            obtain ⟨w28, hr, tu, on⟩ := stb_JDate (vs := [.int .i64 0, .int .i64 0, .int .i64 0]) o5 rfl rfl (ocI (ocI (ocI oc0))) (o := 0) rfl
            refine E.st hF (r_store (hF.at 0 rfl) (hF.at 2 rfl) (hr _ rfl)) rfl rfl fun a hF => ?_
            clear hr
            replace o3 := tu.blk o3 ne3_5
            replace bel := tu.below bel ge5
            clear tu
            replace o5 := on
            clear on
            refine E.opv hF (r_assign (hF.at 1 rfl)) rfl rfl rfl rfl fun a hF => ?_
            refine E.nil ?_
            refine wp_seq ?_
            refine wp_seq ?_
            refine E.seq ?_
            refine E.opv hF (r_move (hF.at 15 rfl)) rfl rfl rfl rfl fun a hF => ?_
            by_cases hc29 : vv3 = 3000000
            · first
              | (exfalso; omega)
              | (refine E.opv hF (r_bin (hF.at 0 rfl) ev_c eg_scalar (bi_int (ic_eql (c := true) (dec_tt hc29)) (by simp))) rfl rfl rfl rfl fun a hF => ?_
                 refine E.nil ?_
                 refine wp_cond_true (hF.at 0 rfl) ?_
                 refine wp_seq ?_
                 refine E.seq ?_
                 refine E.opv hF (r_move (hF.at 10 rfl)) rfl rfl rfl rfl fun a hF => ?_
                 refine E.opv hF (r_bin (hF.at 0 rfl) ev_c eg_scalar (bi_int (ic_eql (c := true) (by decide)) (by simp))) rfl rfl rfl rfl fun a hF => ?_
                 refine E.opv hF (r_move (hF.at 0 rfl)) rfl rfl rfl rfl fun a hF => ?_
                 refine E.opvg hF (r_move (hF.at 5 rfl)) (wanted_by rfl rfl (hF.at 0 rfl) rfl) rfl rfl rfl fun a hF => ?_
                 refine E.opvg hF (r_bin (hF.at 0 rfl) ev_c eg_scalar (bi_int (ic_eql (c := true) (by decide)) (by simp))) (wanted_by rfl rfl (hF.at 1 rfl) rfl) rfl rfl rfl fun a hF => ?_
                 refine E.opv hF (r_pick_t (hF.at 2 rfl) (hF.at 0 rfl)) rfl rfl rfl rfl fun a hF => ?_
                 refine E.opset (L' := [(2, .bool true), (32, .bool true), (31, .bool true), (30, .int .i64 2), (29, .bool true), (28, .bool true), (27, .int .i64 0), (26, .bool true), (25, .int .i64 vv3), (6, .int .i64 2), (5, .pointer (some ⟨g5, 0, none⟩)), (24, .int .i64 2), (23, .agg #[.int .i64 0, .int .i64 0, .int .i64 0]), (19, .tuple #[.agg #[.int .i64 0, .int .i64 0, .int .i64 0], .int .i64 2]), (22, .tuple #[.agg #[.int .i64 0, .int .i64 0, .int .i64 0], .int .i64 2]), (21, .int .i64 (vv3 + 1)), (20, .int .i64 vv3), (4, .int .i64 0), (3, .pointer (some ⟨g3, 0, none⟩)), (18, .int .i64 0), (17, .agg #[.int .i64 vv8, .int .i64 vv9, .int .i64 vv10]), (14, .tuple #[.agg #[.int .i64 vv8, .int .i64 vv9, .int .i64 vv10], .int .i64 0]), (16, .tuple #[.agg #[.int .i64 vv8, .int .i64 vv9, .int .i64 vv10], .int .i64 0]), (15, .int .i64 vv3), (0, .int .i64 vv3), (13, .int .i64 vv3), (12, .int .i64 n), (11, .bool false), (10, .bool true)]) hF (r_assign (hF.at 0 rfl)) rfl rfl rfl rfl fun a hF => ?_
                 refine E.nil ?_
                 refine wp_ret ?_
                 refine bodyPost_ret (res_tmp Tryd.results10 (hF.at 0 rfl)) hF.dfr ?_
                 exact ⟨rfl, bel⟩)
            · first
              | (exfalso; omega)
              | (refine E.opv hF (r_bin (hF.at 0 rfl) ev_c eg_scalar (bi_int (ic_eql (c := false) (dec_ff hc29)) (by simp))) rfl rfl rfl rfl fun a hF => ?_
                 refine E.nil ?_
                 refine wp_cond_false (hF.at 0 rfl) ?_
                 refine wp_skip ?_
                 refine E.norm ?_
                 refine wp_seq ?_
                 refine E.seq ?_
                 refine E.opv hF (r_field (hF.at 11 rfl) (fa_JDate_0 (p := 0) rfl)) rfl rfl rfl rfl fun a hF => ?_
                 refine E.opv hF (r_load (hF.at 0 rfl) (ldb_i64 (v := .int .i64 vv8) o3 rfl)) rfl rfl rfl rfl fun a hF => ?_
                 refine E.opv hF (r_field (hF.at 13 rfl) (fa_JDate_1 (p := 1) rfl)) rfl rfl rfl rfl fun a hF => ?_
                 refine E.opv hF (r_load (hF.at 0 rfl) (ldb_int (v := .int .i64 vv9) o3 rfl)) rfl rfl rfl rfl fun a hF => ?_
                 refine E.opv hF (r_field (hF.at 15 rfl) (fa_JDate_2 (p := 2) rfl)) rfl rfl rfl rfl fun a hF => ?_
                 refine E.opv hF (r_load (hF.at 0 rfl) (ldb_int (v := .int .i64 vv10) o3 rfl)) rfl rfl rfl rfl fun a hF => ?_
                 refine E.call hF (r_call Tryd.func34 en34.1 en34.2 (map3 (hF.at 4 rfl) (hF.at 2 rfl) (hF.at 0 rfl))) (dnextJ_any vv8 vv9 vv10 _ (by omega) (by omega) (by omega) (by omega)) rfl rfl rfl rfl ?_
                 rintro e w30 ⟨rfl, bb⟩
                 refine ⟨_, rfl, ?_⟩
                 intro a hF
                 replace o5 := o5.below bb
                 replace bel := below_to bel bb
                 clear bb
                 refine E.opv hF (r_move (hF.at 0 rfl)) rfl rfl rfl rfl fun a hF => ?_
                 refine E.opv hF (r_extract (v := .int .i64 ((calJ.next vv8 vv9 vv10).1)) (hF.at 0 rfl) rfl) rfl rfl rfl rfl fun a hF => ?_
                 refine E.opv hF (r_extract (v := .int .i64 ((calJ.next vv8 vv9 vv10).2.1)) (hF.at 1 rfl) rfl) rfl rfl rfl rfl fun a hF => ?_
                 refine E.opv hF (r_extract (v := .int .i64 ((calJ.next vv8 vv9 vv10).2.2)) (hF.at 2 rfl) rfl) rfl rfl rfl rfl fun a hF => ?_
                 refine E.opv hF (r_assign (hF.at 2 rfl)) rfl rfl rfl rfl fun a hF => ?_
                 refine E.opv hF (r_assign (hF.at 2 rfl)) rfl rfl rfl rfl fun a hF => ?_
                 refine E.opv hF (r_assign (hF.at 2 rfl)) rfl rfl rfl rfl fun a hF => ?_
                 refine E.nil ?_
                 refine wp_seq ?_
                 refine E.seq ?_
                 refine E.opv hF (r_move (hF.at 24 rfl)) rfl rfl rfl rfl fun a hF => ?_
                 refine E.opv hF (r_bin (hF.at 0 rfl) ev_c eg_scalar (bi_int (ic_eql (c := true) (by decide)) (by simp))) rfl rfl rfl rfl fun a hF => ?_
                 refine E.opv hF (r_move (hF.at 0 rfl)) rfl rfl rfl rfl fun a hF => ?_
                 refine E.opvg hF (r_move (hF.at 19 rfl)) (wanted_by rfl rfl (hF.at 0 rfl) rfl) rfl rfl rfl fun a hF => ?_
                 refine E.opvg hF (r_bin (hF.at 0 rfl) ev_c eg_scalar (bi_int (ic_eql (c := false) (by decide)) (by simp))) (wanted_by rfl rfl (hF.at 1 rfl) rfl) rfl rfl rfl fun a hF => ?_
                 refine E.opv hF (r_pick_t (hF.at 2 rfl) (hF.at 0 rfl)) rfl rfl rfl rfl fun a hF => ?_
                 refine E.opv hF (r_move (hF.at 0 rfl)) rfl rfl rfl rfl fun a hF => ?_
                 refine E.unwanted hF (wanted_by rfl rfl (hF.at 0 rfl) rfl) rfl rfl rfl fun a hF => ?_
                 refine E.unwanted hF (wanted_by rfl rfl (hF.at 1 rfl) rfl) rfl rfl rfl fun a hF => ?_
                 refine E.unwanted hF (wanted_by rfl rfl (hF.at 2 rfl) rfl) rfl rfl rfl fun a hF => ?_
                 refine E.unwanted hF (wanted_by rfl rfl (hF.at 3 rfl) rfl) rfl rfl rfl fun a hF => ?_
                 refine E.unwanted hF (wanted_by rfl rfl (hF.at 4 rfl) rfl) rfl rfl rfl fun a hF => ?_
                 refine E.unwanted hF (wanted_by rfl rfl (hF.at 5 rfl) rfl) rfl rfl rfl fun a hF => ?_
                 refine E.opv hF (r_pick_f (hF.at 6 rfl) ev_c) rfl rfl rfl rfl fun a hF => ?_
                 refine E.opset (L' := [(2, .bool false), (57, .bool false), (56, undef), (55, undef), (54, undef), (53, undef), (52, undef), (51, undef), (50, .bool false), (49, .bool false), (48, .bool false), (47, .int .i64 2), (46, .bool true), (45, .bool true), (44, .int .i64 0), (9, .int .i64 ((calJ.next vv8 vv9 vv10).2.2)), (8, .int .i64 ((calJ.next vv8 vv9 vv10).2.1)), (7, .int .i64 ((calJ.next vv8 vv9 vv10).1)), (43, .int .i64 ((calJ.next vv8 vv9 vv10).2.2)), (42, .int .i64 ((calJ.next vv8 vv9 vv10).2.1)), (41, .int .i64 ((calJ.next vv8 vv9 vv10).1)), (33, .tuple #[.int .i64 ((calJ.next vv8 vv9 vv10).1), .int .i64 ((calJ.next vv8 vv9 vv10).2.1), .int .i64 ((calJ.next vv8 vv9 vv10).2.2)]), (40, .tuple #[.int .i64 ((calJ.next vv8 vv9 vv10).1), .int .i64 ((calJ.next vv8 vv9 vv10).2.1), .int .i64 ((calJ.next vv8 vv9 vv10).2.2)]), (39, .int .i64 vv10), (38, .pointer (some ⟨g3, 2, none⟩)), (37, .int .i64 vv9), (36, .pointer (some ⟨g3, 1, none⟩)), (35, .int .i64 vv8), (34, .pointer (some ⟨g3, 0, none⟩)), (26, .bool false), (25, .int .i64 vv3), (6, .int .i64 2), (5, .pointer (some ⟨g5, 0, none⟩)), (24, .int .i64 2), (23, .agg #[.int .i64 0, .int .i64 0, .int .i64 0]), (19, .tuple #[.agg #[.int .i64 0, .int .i64 0, .int .i64 0], .int .i64 2]), (22, .tuple #[.agg #[.int .i64 0, .int .i64 0, .int .i64 0], .int .i64 2]), (21, .int .i64 (vv3 + 1)), (20, .int .i64 vv3), (4, .int .i64 0), (3, .pointer (some ⟨g3, 0, none⟩)), (18, .int .i64 0), (17, .agg #[.int .i64 vv8, .int .i64 vv9, .int .i64 vv10]), (14, .tuple #[.agg #[.int .i64 vv8, .int .i64 vv9, .int .i64 vv10], .int .i64 0]), (16, .tuple #[.agg #[.int .i64 vv8, .int .i64 vv9, .int .i64 vv10], .int .i64 0]), (15, .int .i64 vv3), (0, .int .i64 vv3), (13, .int .i64 vv3), (12, .int .i64 n), (11, .bool false), (10, .bool true)]) hF (r_assign (hF.at 0 rfl)) rfl rfl rfl rfl fun a hF => ?_
                 refine E.nil ?_
                 refine wp_ret ?_
                 refine bodyPost_ret (res_tmp Tryd.results10 (hF.at 0 rfl)) hF.dfr ?_
                 exact ⟨rfl, bel⟩)))
  · first
    | (exfalso; omega)
    | (refine E.call hF (r_call Tryd.func26 en26.1 en26.2 (map1 (hF.at 0 rfl))) (cofxJ_any vv3 _ (hT.below bel) (mayB_f (by omega))) rfl rfl rfl rfl ?_
       rintro e w31 ⟨rfl, bb⟩
       refine ⟨_, rfl, ?_⟩
       intro a hF
       replace bel := below_to bel bb
       clear bb
       refine E.opv hF (r_move (hF.at 0 rfl)) rfl rfl rfl rfl fun a hF => ?_
       refine E.opv hF (r_extract (v := .agg #[.int .i64 0, .int .i64 0, .int .i64 0]) (hF.at 0 rfl) rfl) rfl rfl rfl rfl fun a hF => ?_
       refine E.opv hF (r_extract (v := .int .i64 2) (hF.at 1 rfl) rfl) rfl rfl rfl rfl fun a hF => ?_
       obtain ⟨g3, w32, ge3, hr, bb, o3⟩ := blk_alloc (P := Tryd.prog) (w := w31) (cs := [.int .i64 0, .int .i64 0, .int .i64 0]) 42 ze_JDate rfl
       replace ge3 : w.heap.size ≤ g3 := by rw [← ge3]; exact bel.size
       refine E.opv hF (r_alloc hr) rfl rfl rfl rfl fun a hF => ?_
       clear hr
       replace bel := below_to bel bb
       clear bb
       obtain ⟨w33, hr, tu, on⟩ := stb_JDate (vs := [.int .i64 0, .int .i64 0, .int .i64 0]) o3 rfl rfl (ocI (ocI (ocI oc0))) (o := 0) rfl
       refine E.st hF (r_store (hF.at 0 rfl) (hF.at 2 rfl) (hr _ rfl)) rfl rfl fun a hF => ?_
       clear hr
       replace bel := tu.below bel ge3
       clear tu
       replace o3 := on
       clear on
       refine E.opv hF (r_assign (hF.at 1 rfl)) rfl rfl rfl rfl fun a hF => ?_
       refine E.nil ?_
       refine wp_seq ?_
       refine E.seq ?_
       refine E.opv hF (r_move (hF.at 7 rfl)) rfl rfl rfl rfl fun a hF => ?_
       refine E.opv hF (r_bin (hF.at 0 rfl) ev_c eg_scalar (ia_add (by omega) (by omega))) rfl rfl rfl rfl fun a hF => ?_
       by_cases hc34 : -3000000 ≤ vv3 + 1 ∧ vv3 + 1 ≤ 3000000
       · first
         | (exfalso; omega)
         | (refine E.call hF (r_call Tryd.func26 en26.1 en26.2 (map1 (hF.at 0 rfl))) (cofJ_any (vv3 + 1) _ (hT.below bel) (mayB_t (by omega) (by omega))) rfl rfl rfl rfl ?_
            rintro e w35 ⟨vv36, vv37, vv38, rfl, hh39, hh40, bb⟩
            refine ⟨_, rfl, ?_⟩
            intro a hF
            have hyr := yrJ hh39 hh40 (by omega) (by omega)
            have hvb := val_bd hh39
            have hfg := fix_good (c := calJ) hh39 hh40 (by omega) (by omega) (by omega) (by omega)
            replace o3 := o3.below bb
            replace bel := below_to bel bb
            clear bb
            refine E.opv hF (r_move (hF.at 0 rfl)) rfl rfl rfl rfl fun a hF => ?_
            refine E.opv hF (r_extract (v := .agg #[.int .i64 vv36, .int .i64 vv37, .int .i64 vv38]) (hF.at 0 rfl) rfl) rfl rfl rfl rfl fun a hF => ?_
            refine E.opv hF (r_extract (v := .int .i64 0) (hF.at 1 rfl) rfl) rfl rfl rfl rfl fun a hF => ?_
            obtain ⟨g5, w41, ge5, hr, bb, o5⟩ := blk_alloc (P := Tryd.prog) (w := w35) (cs := [.int .i64 0, .int .i64 0, .int .i64 0]) 42 ze_JDate rfl
            have ne3_5 : g3 ≠ g5 := by rw [← ge5]; exact o3.ne_new
            replace ge5 : w.heap.size ≤ g5 := by rw [← ge5]; exact bel.size
            refine E.opv hF (r_alloc hr) rfl rfl rfl rfl fun a hF => ?_
            clear hr
            replace o3 := o3.below bb
            replace bel := below_to bel bb
            clear bb
            obtain ⟨w42, hr, tu, on⟩ := stb_JDate (vs := [.int .i64 vv36, .int .i64 vv37, .int .i64 vv38]) o5 rfl rfl (ocI (ocI (ocI oc0))) (o := 0) rfl
            refine E.st hF (r_store (hF.at 0 rfl) (hF.at 2 rfl) (hr _ rfl)) rfl rfl fun a hF => ?_
            clear hr
            replace o3 := tu.blk o3 ne3_5
            replace bel := tu.below bel ge5
            clear tu
            replace o5 := on
            clear on
            refine E.opv hF (r_assign (hF.at 1 rfl)) rfl rfl rfl rfl fun a hF => ?_
            refine E.nil ?_
            refine wp_seq ?_
            refine wp_seq ?_
            refine E.seq ?_
            refine E.opv hF (r_move (hF.at 15 rfl)) rfl rfl rfl rfl fun a hF => ?_
            by_cases hc43 : vv3 = 3000000
            · first
              | (exfalso; omega)
              | (refine E.opv hF (r_bin (hF.at 0 rfl) ev_c eg_scalar (bi_int (ic_eql (c := true) (dec_tt hc43)) (by simp))) rfl rfl rfl rfl fun a hF => ?_
                 refine E.nil ?_
                 refine wp_cond_true (hF.at 0 rfl) ?_
                 refine wp_seq ?_
                 refine E.seq ?_
                 refine E.opv hF (r_move (hF.at 10 rfl)) rfl rfl rfl rfl fun a hF => ?_
                 refine E.opv hF (r_bin (hF.at 0 rfl) ev_c eg_scalar (bi_int (ic_eql (c := false) (by decide)) (by simp))) rfl rfl rfl rfl fun a hF => ?_
                 refine E.opv hF (r_move (hF.at 0 rfl)) rfl rfl rfl rfl fun a hF => ?_
                 refine E.unwanted hF (wanted_by rfl rfl (hF.at 0 rfl) rfl) rfl rfl rfl fun a hF => ?_
                 refine E.unwanted hF (wanted_by rfl rfl (hF.at 1 rfl) rfl) rfl rfl rfl fun a hF => ?_
                 refine E.opv hF (r_pick_f (hF.at 2 rfl) ev_c) rfl rfl rfl rfl fun a hF => ?_
                 refine E.opset (L' := [(2, .bool false), (32, .bool false), (31, undef), (30, undef), (29, .bool false), (28, .bool false), (27, .int .i64 2), (26, .bool true), (25, .int .i64 vv3), (6, .int .i64 0), (5, .pointer (some ⟨g5, 0, none⟩)), (24, .int .i64 0), (23, .agg #[.int .i64 vv36, .int .i64 vv37, .int .i64 vv38]), (19, .tuple #[.agg #[.int .i64 vv36, .int .i64 vv37, .int .i64 vv38], .int .i64 0]), (22, .tuple #[.agg #[.int .i64 vv36, .int .i64 vv37, .int .i64 vv38], .int .i64 0]), (21, .int .i64 (vv3 + 1)), (20, .int .i64 vv3), (4, .int .i64 2), (3, .pointer (some ⟨g3, 0, none⟩)), (18, .int .i64 2), (17, .agg #[.int .i64 0, .int .i64 0, .int .i64 0]), (14, .tuple #[.agg #[.int .i64 0, .int .i64 0, .int .i64 0], .int .i64 2]), (16, .tuple #[.agg #[.int .i64 0, .int .i64 0, .int .i64 0], .int .i64 2]), (15, .int .i64 vv3), (0, .int .i64 vv3), (13, .int .i64 vv3), (12, .int .i64 n), (11, .bool false), (10, .bool true)]) hF (r_assign (hF.at 0 rfl)) rfl rfl rfl rfl fun a hF => ?_
                 refine E.nil ?_
                 refine wp_ret ?_
                 refine bodyPost_ret (res_tmp Tryd.results10 (hF.at 0 rfl)) hF.dfr ?_
                 exact ⟨rfl, bel⟩)
            · first
              | (exfalso; omega)
              | (refine E.opv hF (r_bin (hF.at 0 rfl) ev_c eg_scalar (bi_int (ic_eql (c := false) (dec_ff hc43)) (by simp))) rfl rfl rfl rfl fun a hF => ?_
                 refine E.nil ?_
                 refine wp_cond_false (hF.at 0 rfl) ?_
                 refine wp_skip ?_
                 refine E.norm ?_
                 refine wp_seq ?_
                 refine E.seq ?_
                 refine E.opv hF (r_field (hF.at 11 rfl) (fa_JDate_0 (p := 0) rfl)) rfl rfl rfl rfl fun a hF => ?_
                 refine E.opv hF (r_load (hF.at 0 rfl) (ldb_i64 (v := .int .i64 0) o3 rfl)) rfl rfl rfl rfl fun a hF => ?_
                 refine E.opv hF (r_field (hF.at 13 rfl) (fa_JDate_1 (p := 1) rfl)) rfl rfl rfl rfl fun a hF => ?_
                 refine E.opv hF (r_load (hF.at 0 rfl) (ldb_int (v := .int .i64 0) o3 rfl)) rfl rfl rfl rfl fun a hF => ?_
                 refine E.opv hF (r_field (hF.at 15 rfl) (fa_JDate_2 (p := 2) rfl)) rfl rfl rfl rfl fun a hF => ?_
                 refine E.opv hF (r_load (hF.at 0 rfl) (ldb_int (v := .int .i64 0) o3 rfl)) rfl rfl rfl rfl fun a hF => ?_
                 refine E.call hF (r_call Tryd.func34 en34.1 en34.2 (map3 (hF.at 4 rfl) (hF.at 2 rfl) (hF.at 0 rfl))) (dnextJ_any 0 0 0 _ (by omega) (by omega) (by omega) (by omega)) rfl rfl rfl rfl ?_
                 rintro e w44 ⟨rfl, bb⟩
                 refine ⟨_, rfl, ?_⟩
                 intro a hF
                 replace o5 := o5.below bb
                 replace bel := below_to bel bb
                 clear bb
                 refine E.opv hF (r_move (hF.at 0 rfl)) rfl rfl rfl rfl fun a hF => ?_
                 refine E.opv hF (r_extract (v := .int .i64 ((calJ.next 0 0 0).1)) (hF.at 0 rfl) rfl) rfl rfl rfl rfl fun a hF => ?_
                 refine E.opv hF (r_extract (v := .int .i64 ((calJ.next 0 0 0).2.1)) (hF.at 1 rfl) rfl) rfl rfl rfl rfl fun a hF => ?_
                 refine E.opv hF (r_extract (v := .int .i64 ((calJ.next 0 0 0).2.2)) (hF.at 2 rfl) rfl) rfl rfl rfl rfl fun a hF => ?_
                 refine E.opv hF (r_assign (hF.at 2 rfl)) rfl rfl rfl rfl fun a hF => ?_
                 refine E.opv hF (r_assign (hF.at 2 rfl)) rfl rfl rfl rfl fun a hF => ?_
                 refine E.opv hF (r_assign (hF.at 2 rfl)) rfl rfl rfl rfl fun a hF => ?_
                 refine E.nil ?_
                 refine wp_seq ?_
                 refine E.seq ?_
                 refine E.opv hF (r_move (hF.at 24 rfl)) rfl rfl rfl rfl fun a hF => ?_
                 refine E.opv hF (r_bin (hF.at 0 rfl) ev_c eg_scalar (bi_int (ic_eql (c := false) (by decide)) (by simp))) rfl rfl rfl rfl fun a hF => ?_
                 refine E.opv hF (r_move (hF.at 0 rfl)) rfl rfl rfl rfl fun a hF => ?_
                 refine E.unwanted hF (wanted_by rfl rfl (hF.at 0 rfl) rfl) rfl rfl rfl fun a hF => ?_
                 refine E.unwanted hF (wanted_by rfl rfl (hF.at 1 rfl) rfl) rfl rfl rfl fun a hF => ?_
                 refine E.opv hF (r_pick_f (hF.at 2 rfl) ev_c) rfl rfl rfl rfl fun a hF => ?_
                 refine E.opv hF (r_move (hF.at 0 rfl)) rfl rfl rfl rfl fun a hF => ?_
                 refine E.unwanted hF (wanted_by rfl rfl (hF.at 0 rfl) rfl) rfl rfl rfl fun a hF => ?_
                 refine E.unwanted hF (wanted_by rfl rfl (hF.at 1 rfl) rfl) rfl rfl rfl fun a hF => ?_
                 refine E.unwanted hF (wanted_by rfl rfl (hF.at 2 rfl) rfl) rfl rfl rfl fun a hF => ?_
                 refine E.unwanted hF (wanted_by rfl rfl (hF.at 3 rfl) rfl) rfl rfl rfl fun a hF => ?_
                 refine E.unwanted hF (wanted_by rfl rfl (hF.at 4 rfl) rfl) rfl rfl rfl fun a hF => ?_
                 refine E.unwanted hF (wanted_by rfl rfl (hF.at 5 rfl) rfl) rfl rfl rfl fun a hF => ?_
                 refine E.opv hF (r_pick_f (hF.at 6 rfl) ev_c) rfl rfl rfl rfl fun a hF => ?_
                 refine E.opset (L' := [(2, .bool false), (57, .bool false), (56, undef), (55, undef), (54, undef), (53, undef), (52, undef), (51, undef), (50, .bool false), (49, .bool false), (48, undef), (47, undef), (46, .bool false), (45, .bool false), (44, .int .i64 2), (9, .int .i64 ((calJ.next 0 0 0).2.2)), (8, .int .i64 ((calJ.next 0 0 0).2.1)), (7, .int .i64 ((calJ.next 0 0 0).1)), (43, .int .i64 ((calJ.next 0 0 0).2.2)), (42, .int .i64 ((calJ.next 0 0 0).2.1)), (41, .int .i64 ((calJ.next 0 0 0).1)), (33, .tuple #[.int .i64 ((calJ.next 0 0 0).1), .int .i64 ((calJ.next 0 0 0).2.1), .int .i64 ((calJ.next 0 0 0).2.2)]), (40, .tuple #[.int .i64 ((calJ.next 0 0 0).1), .int .i64 ((calJ.next 0 0 0).2.1), .int .i64 ((calJ.next 0 0 0).2.2)]), (39, .int .i64 0), (38, .pointer (some ⟨g3, 2, none⟩)), (37, .int .i64 0), (36, .pointer (some ⟨g3, 1, none⟩)), (35, .int .i64 0), (34, .pointer (some ⟨g3, 0, none⟩)), (26, .bool false), (25, .int .i64 vv3), (6, .int .i64 0), (5, .pointer (some ⟨g5, 0, none⟩)), (24, .int .i64 0), (23, .agg #[.int .i64 vv36, .int .i64 vv37, .int .i64 vv38]), (19, .tuple #[.agg #[.int .i64 vv36, .int .i64 vv37, .int .i64 vv38], .int .i64 0]), (22, .tuple #[.agg #[.int .i64 vv36, .int .i64 vv37, .int .i64 vv38], .int .i64 0]), (21, .int .i64 (vv3 + 1)), (20, .int .i64 vv3), (4, .int .i64 2), (3, .pointer (some ⟨g3, 0, none⟩)), (18, .int .i64 2), (17, .agg #[.int .i64 0, .int .i64 0, .int .i64 0]), (14, .tuple #[.agg #[.int .i64 0, .int .i64 0, .int .i64 0], .int .i64 2]), (16, .tuple #[.agg #[.int .i64 0, .int .i64 0, .int .i64 0], .int .i64 2]), (15, .int .i64 vv3), (0, .int .i64 vv3), (13, .int .i64 vv3), (12, .int .i64 n), (11, .bool false), (10, .bool true)]) hF (r_assign (hF.at 0 rfl)) rfl rfl rfl rfl fun a hF => ?_
                 refine E.nil ?_
                 refine wp_ret ?_
                 refine bodyPost_ret (res_tmp Tryd.results10 (hF.at 0 rfl)) hF.dfr ?_
                 exact ⟨rfl, bel⟩))
       · first
         | (exfalso; omega)
         | (refine E.call hF (r_call Tryd.func26 en26.1 en26.2 (map1 (hF.at 0 rfl))) (cofxJ_any (vv3 + 1) _ (hT.below bel) (mayB_f (by omega))) rfl rfl rfl rfl ?_
            rintro e w45 ⟨rfl, bb⟩
            refine ⟨_, rfl, ?_⟩
            intro a hF
            replace o3 := o3.below bb
            replace bel := below_to bel bb
            clear bb
            refine E.opv hF (r_move (hF.at 0 rfl)) rfl rfl rfl rfl fun a hF => ?_
            refine E.opv hF (r_extract (v := .agg #[.int .i64 0, .int .i64 0, .int .i64 0]) (hF.at 0 rfl) rfl) rfl rfl rfl rfl fun a hF => ?_
            refine E.opv hF (r_extract (v := .int .i64 2) (hF.at 1 rfl) rfl) rfl rfl rfl rfl fun a hF => ?_
            obtain ⟨g5, w46, ge5, hr, bb, o5⟩ := blk_alloc (P := Tryd.prog) (w := w45) (cs := [.int .i64 0, .int .i64 0, .int .i64 0]) 42 ze_JDate rfl
            have ne3_5 : g3 ≠ g5 := by rw [← ge5]; exact o3.ne_new
            replace ge5 : w.heap.size ≤ g5 := by rw [← ge5]; exact bel.size
            refine E.opv hF (r_alloc hr) rfl rfl rfl rfl fun a hF => ?_
            clear hr
            replace o3 := o3.below bb
            replace bel := below_to bel bb
            clear bb
            obtain ⟨w47, hr, tu, on⟩ := stb_JDate (vs := [.int .i64 0, .int .i64 0, .int .i64 0]) o5 rfl rfl (ocI (ocI (ocI oc0))) (o := 0) rfl
            refine E.st hF (r_store (hF.at 0 rfl) (hF.at 2 rfl) (hr _ rfl)) rfl rfl fun a hF => ?_
            clear hr
            replace o3 := tu.blk o3 ne3_5
            replace bel := tu.below bel ge5
            clear tu
            replace o5 := on
            clear on
            refine E.opv hF (r_assign (hF.at 1 rfl)) rfl rfl rfl rfl fun a hF => ?_
            refine E.nil ?_
            refine wp_seq ?_
            refine wp_seq ?_
            refine E.seq ?_
            refine E.opv hF (r_move (hF.at 15 rfl)) rfl rfl rfl rfl fun a hF => ?_
            by_cases hc48 : vv3 = 3000000
            · first
              | (exfalso; omega)
              | (refine E.opv hF (r_bin (hF.at 0 rfl) ev_c eg_scalar (bi_int (ic_eql (c := true) (dec_tt hc48)) (by simp))) rfl rfl rfl rfl fun a hF => ?_
                 refine E.nil ?_
                 refine wp_cond_true (hF.at 0 rfl) ?_
                 refine wp_seq ?_
                 refine E.seq ?_
                 refine E.opv hF (r_move (hF.at 10 rfl)) rfl rfl rfl rfl fun a hF => ?_
                 refine E.opv hF (r_bin (hF.at 0 rfl) ev_c eg_scalar (bi_int (ic_eql (c := false) (by decide)) (by simp))) rfl rfl rfl rfl fun a hF => ?_
                 refine E.opv hF (r_move (hF.at 0 rfl)) rfl rfl rfl rfl fun a hF => ?_
                 refine E.unwanted hF (wanted_by rfl rfl (hF.at 0 rfl) rfl) rfl rfl rfl fun a hF => ?_
                 refine E.unwanted hF (wanted_by rfl rfl (hF.at 1 rfl) rfl) rfl rfl rfl fun a hF => ?_
                 refine E.opv hF (r_pick_f (hF.at 2 rfl) ev_c) rfl rfl rfl rfl fun a hF => ?_
                 refine E.opset (L' := [(2, .bool false), (32, .bool false), (31, undef), (30, undef), (29, .bool false), (28, .bool false), (27, .int .i64 2), (26, .bool true), (25, .int .i64 vv3), (6, .int .i64 2), (5, .pointer (some ⟨g5, 0, none⟩)), (24, .int .i64 2), (23, .agg #[.int .i64 0, .int .i64 0, .int .i64 0]), (19, .tuple #[.agg #[.int .i64 0, .int .i64 0, .int .i64 0], .int .i64 2]), (22, .tuple #[.agg #[.int .i64 0, .int .i64 0, .int .i64 0], .int .i64 2]), (21, .int .i64 (vv3 + 1)), (20, .int .i64 vv3), (4, .int .i64 2), (3, .pointer (some ⟨g3, 0, none⟩)), (18, .int .i64 2), (17, .agg #[.int .i64 0, .int .i64 0, .int .i64 0]), (14, .tuple #[.agg #[.int .i64 0, .int .i64 0, .int .i64 0], .int .i64 2]), (16, .tuple #[.agg #[.int .i64 0, .int .i64 0, .int .i64 0], .int .i64 2]), (15, .int .i64 vv3), (0, .int .i64 vv3), (13, .int .i64 vv3), (12, .int .i64 n), (11, .bool false), (10, .bool true)]) hF (r_assign (hF.at 0 rfl)) rfl rfl rfl rfl fun a hF => ?_
                 refine E.nil ?_
                 refine wp_ret ?_
                 refine bodyPost_ret (res_tmp Tryd.results10 (hF.at 0 rfl)) hF.dfr ?_
                 exact ⟨rfl, bel⟩)
            · first
              | (exfalso; omega)
              | (refine E.opv hF (r_bin (hF.at 0 rfl) ev_c eg_scalar (bi_int (ic_eql (c := false) (dec_ff hc48)) (by simp))) rfl rfl rfl rfl fun a hF => ?_
                 refine E.nil ?_
                 refine wp_cond_false (hF.at 0 rfl) ?_
                 refine wp_skip ?_
                 refine E.norm ?_
                 refine wp_seq ?_
                 refine E.seq ?_
                 refine E.opv hF (r_field (hF.at 11 rfl) (fa_JDate_0 (p := 0) rfl)) rfl rfl rfl rfl fun a hF => ?_
                 refine E.opv hF (r_load (hF.at 0 rfl) (ldb_i64 (v := .int .i64 0) o3 rfl)) rfl rfl rfl rfl fun a hF => ?_
                 refine E.opv hF (r_field (hF.at 13 rfl) (fa_JDate_1 (p := 1) rfl)) rfl rfl rfl rfl fun a hF => ?_
                 refine E.opv hF (r_load (hF.at 0 rfl) (ldb_int (v := .int .i64 0) o3 rfl)) rfl rfl rfl rfl fun a hF => ?_
                 refine E.opv hF (r_field (hF.at 15 rfl) (fa_JDate_2 (p := 2) rfl)) rfl rfl rfl rfl fun a hF => ?_
                 refine E.opv hF (r_load (hF.at 0 rfl) (ldb_int (v := .int .i64 0) o3 rfl)) rfl rfl rfl rfl fun a hF => ?_
                 refine E.call hF (r_call Tryd.func34 en34.1 en34.2 (map3 (hF.at 4 rfl) (hF.at 2 rfl) (hF.at 0 rfl))) (dnextJ_any 0 0 0 _ (by omega) (by omega) (by omega) (by omega)) rfl rfl rfl rfl ?_
                 rintro e w49 ⟨rfl, bb⟩
                 refine ⟨_, rfl, ?_⟩
                 intro a hF
                 replace o5 := o5.below bb
                 replace bel := below_to bel bb
                 clear bb
                 refine E.opv hF (r_move (hF.at 0 rfl)) rfl rfl rfl rfl fun a hF => ?_
                 refine E.opv hF (r_extract (v := .int .i64 ((calJ.next 0 0 0).1)) (hF.at 0 rfl) rfl) rfl rfl rfl rfl fun a hF => ?_
                 refine E.opv hF (r_extract (v := .int .i64 ((calJ.next 0 0 0).2.1)) (hF.at 1 rfl) rfl) rfl rfl rfl rfl fun a hF => ?_
                 refine E.opv hF (r_extract (v := .int .i64 ((calJ.next 0 0 0).2.2)) (hF.at 2 rfl) rfl) rfl rfl rfl rfl fun a hF => ?_
                 refine E.opv hF (r_assign (hF.at 2 rfl)) rfl rfl rfl rfl fun a hF => ?_
                 refine E.opv hF (r_assign (hF.at 2 rfl)) rfl rfl rfl rfl fun a hF => ?_
                 refine E.opv hF (r_assign (hF.at 2 rfl)) rfl rfl rfl rfl fun a hF => ?_
                 refine E.nil ?_
                 refine wp_seq ?_
                 refine E.seq ?_
                 refine E.opv hF (r_move (hF.at 24 rfl)) rfl rfl rfl rfl fun a hF => ?_
                 refine E.opv hF (r_bin (hF.at 0 rfl) ev_c eg_scalar (bi_int (ic_eql (c := false) (by decide)) (by simp))) rfl rfl rfl rfl fun a hF => ?_
                 refine E.opv hF (r_move (hF.at 0 rfl)) rfl rfl rfl rfl fun a hF => ?_
                 refine E.unwanted hF (wanted_by rfl rfl (hF.at 0 rfl) rfl) rfl rfl rfl fun a hF => ?_
                 refine E.unwanted hF (wanted_by rfl rfl (hF.at 1 rfl) rfl) rfl rfl rfl fun a hF => ?_
                 refine E.opv hF (r_pick_f (hF.at 2 rfl) ev_c) rfl rfl rfl rfl fun a hF => ?_
                 refine E.opv hF (r_move (hF.at 0 rfl)) rfl rfl rfl rfl fun a hF => ?_
                 refine E.unwanted hF (wanted_by rfl rfl (hF.at 0 rfl) rfl) rfl rfl rfl fun a hF => ?_
                 refine E.unwanted hF (wanted_by rfl rfl (hF.at 1 rfl) rfl) rfl rfl rfl fun a hF => ?_
                 refine E.unwanted hF (wanted_by rfl rfl (hF.at 2 rfl) rfl) rfl rfl rfl fun a hF => ?_
                 refine E.unwanted hF (wanted_by rfl rfl (hF.at 3 rfl) rfl) rfl rfl rfl fun a hF => ?_
                 refine E.unwanted hF (wanted_by rfl rfl (hF.at 4 rfl) rfl) rfl rfl rfl fun a hF => ?_
                 refine E.unwanted hF (wanted_by rfl rfl (hF.at 5 rfl) rfl) rfl rfl rfl fun a hF => ?_
                 refine E.opv hF (r_pick_f (hF.at 6 rfl) ev_c) rfl rfl rfl rfl fun a hF => ?_
                 refine E.opset (L' := [(2, .bool false), (57, .bool false), (56, undef), (55, undef), (54, undef), (53, undef), (52, undef), (51, undef), (50, .bool false), (49, .bool false), (48, undef), (47, undef), (46, .bool false), (45, .bool false), (44, .int .i64 2), (9, .int .i64 ((calJ.next 0 0 0).2.2)), (8, .int .i64 ((calJ.next 0 0 0).2.1)), (7, .int .i64 ((calJ.next 0 0 0).1)), (43, .int .i64 ((calJ.next 0 0 0).2.2)), (42, .int .i64 ((calJ.next 0 0 0).2.1)), (41, .int .i64 ((calJ.next 0 0 0).1)), (33, .tuple #[.int .i64 ((calJ.next 0 0 0).1), .int .i64 ((calJ.next 0 0 0).2.1), .int .i64 ((calJ.next 0 0 0).2.2)]), (40, .tuple #[.int .i64 ((calJ.next 0 0 0).1), .int .i64 ((calJ.next 0 0 0).2.1), .int .i64 ((calJ.next 0 0 0).2.2)]), (39, .int .i64 0), (38, .pointer (some ⟨g3, 2, none⟩)), (37, .int .i64 0), (36, .pointer (some ⟨g3, 1, none⟩)), (35, .int .i64 0), (34, .pointer (some ⟨g3, 0, none⟩)), (26, .bool false), (25, .int .i64 vv3), (6, .int .i64 2), (5, .pointer (some ⟨g5, 0, none⟩)), (24, .int .i64 2), (23, .agg #[.int .i64 0, .int .i64 0, .int .i64 0]), (19, .tuple #[.agg #[.int .i64 0, .int .i64 0, .int .i64 0], .int .i64 2]), (22, .tuple #[.agg #[.int .i64 0, .int .i64 0, .int .i64 0], .int .i64 2]), (21, .int .i64 (vv3 + 1)), (20, .int .i64 vv3), (4, .int .i64 2), (3, .pointer (some ⟨g3, 0, none⟩)), (18, .int .i64 2), (17, .agg #[.int .i64 0, .int .i64 0, .int .i64 0]), (14, .tuple #[.agg #[.int .i64 0, .int .i64 0, .int .i64 0], .int .i64 2]), (16, .tuple #[.agg #[.int .i64 0, .int .i64 0, .int .i64 0], .int .i64 2]), (15, .int .i64 vv3), (0, .int .i64 vv3), (13, .int .i64 vv3), (12, .int .i64 n), (11, .bool false), (10, .bool true)]) hF (r_assign (hF.at 0 rfl)) rfl rfl rfl rfl fun a hF => ?_
                 refine E.nil ?_
                 refine wp_ret ?_
                 refine bodyPost_ret (res_tmp Tryd.results10 (hF.at 0 rfl)) hF.dfr ?_
                 exact ⟨rfl, bel⟩)))

set_option maxHeartbeats 4000000 in
theorem julianFour_walk (n : Int) (w : World) (hT : TabJ w) :
    Calls Tryd.prog 11 #[.int .i64 n] w (ValPost w (.bool true)) := by
  have bel : Below w.heap.size w w := Below.refl _ _
  refine E.enter (nt := 49) (L := [(0, .int .i64 n)]) Tryd.func11 rfl rfl rfl (args_cons (i := 0) rfl args_nil) ?_
  intro a hF
  refine wp_seq ?_
  refine E.seq ?_
  refine E.opv hF (r_assign ev_c) rfl rfl rfl rfl fun a hF => ?_
  refine E.nil ?_
  refine wp_seq ?_
  refine wp_seq ?_
  refine E.seq ?_
  refine E.call hF (r_call Tryd.func25 en25.1 en25.2 map0) (awakeJ_any _ (hT.below bel)) rfl rfl rfl rfl ?_
  rintro e w1 ⟨rfl, bb⟩
  refine ⟨_, rfl, ?_⟩
  intro a hF
  replace bel := below_to bel bb
  clear bb
  refine E.opv hF (r_un (hF.at 0 rfl) (bn_not _ false rfl)) rfl rfl rfl rfl fun a hF => ?_
  refine E.nil ?_
  refine wp_cond_false (hF.at 0 rfl) ?_
  refine wp_skip ?_
  refine E.norm ?_
  refine wp_seq ?_
  refine E.seq ?_
  refine E.opv hF (r_move (hF.at 3 rfl)) rfl rfl rfl rfl fun a hF => ?_
  refine E.call hF (r_call Tryd.func33 en33.1 en33.2 (map1 (hF.at 0 rfl))) (innJ_any n _) rfl rfl rfl rfl ?_
  rintro e w2 ⟨vv3, rfl, hh4, hh5, bb⟩
  refine ⟨_, rfl, ?_⟩
  intro a hF
  replace bel := below_to bel bb
  clear bb
  refine E.opset (L' := [(0, .int .i64 vv3), (10, .int .i64 vv3), (9, .int .i64 n), (8, .bool false), (7, .bool true), (2, .bool false)]) hF (r_assign (hF.at 0 rfl)) rfl rfl rfl rfl fun a hF => ?_
  refine E.nil ?_
  refine wp_seq ?_
  refine E.seq ?_
  refine E.opv hF (r_move (hF.at 0 rfl)) rfl rfl rfl rfl fun a hF => ?_
  by_cases hc6 : -3000000 ≤ vv3 ∧ vv3 ≤ 3000000
  · first
    | (exfalso; omega)
    | (refine E.call hF (r_call Tryd.func26 en26.1 en26.2 (map1 (hF.at 0 rfl))) (cofJ_any vv3 _ (hT.below bel) (mayB_t (by omega) (by omega))) rfl rfl rfl rfl ?_
       rintro e w7 ⟨vv8, vv9, vv10, rfl, hh11, hh12, bb⟩
       refine ⟨_, rfl, ?_⟩
       intro a hF
       have hyr := yrJ hh11 hh12 (by omega) (by omega)
       have hvb := val_bd hh11
       have hfg := fix_good (c := calJ) hh11 hh12 (by omega) (by omega) (by omega) (by omega)
       replace bel := below_to bel bb
       clear bb
       refine E.opv hF (r_move (hF.at 0 rfl)) rfl rfl rfl rfl fun a hF => ?_
       refine E.opv hF (r_extract (v := .agg #[.int .i64 vv8, .int .i64 vv9, .int .i64 vv10]) (hF.at 0 rfl) rfl) rfl rfl rfl rfl fun a hF => ?_
       refine E.opv hF (r_extract (v := .int .i64 0) (hF.at 1 rfl) rfl) rfl rfl rfl rfl fun a hF => ?_
       obtain ⟨g3, w13, ge3, hr, bb, o3⟩ := blk_alloc (P := Tryd.prog) (w := w7) (cs := [.int .i64 0, .int .i64 0, .int .i64 0]) 42 ze_JDate rfl
       replace ge3 : w.heap.size ≤ g3 := by rw [← ge3]; exact bel.size
       refine E.opv hF (r_alloc hr) rfl rfl rfl rfl fun a hF => ?_
       clear hr
       replace bel := below_to bel bb
       clear bb
       obtain ⟨w14, hr, tu, on⟩ := stb_JDate (vs := [.int .i64 vv8, .int .i64 vv9, .int .i64 vv10]) o3 rfl rfl (ocI (ocI (ocI oc0))) (o := 0) rfl
       refine E.st hF (r_store (hF.at 0 rfl) (hF.at 2 rfl) (hr _ rfl)) rfl rfl fun a hF => ?_
       clear hr
       replace bel := tu.below bel ge3
       clear tu
       replace o3 := on
       clear on
       refine E.opv hF (r_assign (hF.at 1 rfl)) rfl rfl rfl rfl fun a hF => ?_
       refine E.nil ?_
       refine wp_seq ?_
       refine E.seq ?_
       refine E.opv hF (r_move (hF.at 7 rfl)) rfl rfl rfl rfl fun a hF => ?_
       refine E.opv hF (r_bin (hF.at 0 rfl) ev_c eg_scalar (ia_add (by omega) (by omega))) rfl rfl rfl rfl fun a hF => ?_
       by_cases hc15 : -3000000 ≤ vv3 + 1461 ∧ vv3 + 1461 ≤ 3000000
       · first
         | (exfalso; omega)
         | (refine E.call hF (r_call Tryd.func26 en26.1 en26.2 (map1 (hF.at 0 rfl))) (cofJ_any (vv3 + 1461) _ (hT.below bel) (mayB_t (by omega) (by omega))) rfl rfl rfl rfl ?_
            rintro e w16 ⟨vv17, vv18, vv19, rfl, hh20, hh21, bb⟩
            refine ⟨_, rfl, ?_⟩
            intro a hF
            have hyr := yrJ hh20 hh21 (by omega) (by omega)
            have hvb := val_bd hh20
            have hfg := fix_good (c := calJ) hh20 hh21 (by omega) (by omega) (by omega) (by omega)
            replace o3 := o3.below bb
            replace bel := below_to bel bb
            clear bb
            refine E.opv hF (r_move (hF.at 0 rfl)) rfl rfl rfl rfl fun a hF => ?_
            refine E.opv hF (r_extract (v := .agg #[.int .i64 vv17, .int .i64 vv18, .int .i64 vv19]) (hF.at 0 rfl) rfl) rfl rfl rfl rfl fun a hF => ?_
            refine E.opv hF (r_extract (v := .int .i64 0) (hF.at 1 rfl) rfl) rfl rfl rfl rfl fun a hF => ?_
            obtain ⟨g5, w22, ge5, hr, bb, o5⟩ := blk_alloc (P := Tryd.prog) (w := w16) (cs := [.int .i64 0, .int .i64 0, .int .i64 0]) 42 ze_JDate rfl
            have ne3_5 : g3 ≠ g5 := by rw [← ge5]; exact o3.ne_new
            replace ge5 : w.heap.size ≤ g5 := by rw [← ge5]; exact bel.size
            refine E.opv hF (r_alloc hr) rfl rfl rfl rfl fun a hF => ?_
            clear hr
            replace o3 := o3.below bb
            replace bel := below_to bel bb
            clear bb
            obtain ⟨w23, hr, tu, on⟩ := stb_JDate (vs := [.int .i64 vv17, .int .i64 vv18, .int .i64 vv19]) o5 rfl rfl (ocI (ocI (ocI oc0))) (o := 0) rfl
            refine E.st hF (r_store (hF.at 0 rfl) (hF.at 2 rfl) (hr _ rfl)) rfl rfl fun a hF => ?_
            clear hr
            replace o3 := tu.blk o3 ne3_5
            replace bel := tu.below bel ge5
            clear tu
            replace o5 := on
            clear on
            refine E.opv hF (r_assign (hF.at 1 rfl)) rfl rfl rfl rfl fun a hF => ?_
            refine E.nil ?_
            refine wp_seq ?_
            refine wp_seq ?_
            refine E.seq ?_
            refine E.opv hF (r_move (hF.at 15 rfl)) rfl rfl rfl rfl fun a hF => ?_
            refine E.opv hF (r_bin (hF.at 0 rfl) ev_c eg_scalar (ia_add (by omega) (by omega))) rfl rfl rfl rfl fun a hF => ?_
            by_cases hc24 : 3000000 < vv3 + 1461
            · first
              | (exfalso; omega)
              | (refine E.opv hF (r_bin (hF.at 0 rfl) ev_c eg_scalar (bi_int (ic_gtr (c := true) (dec_tt hc24)) (by simp))) rfl rfl rfl rfl fun a hF => ?_
                 refine E.nil ?_
                 refine wp_cond_true (hF.at 0 rfl) ?_
                 refine wp_seq ?_
                 refine E.seq ?_
                 refine E.opv hF (r_move (hF.at 11 rfl)) rfl rfl rfl rfl fun a hF => ?_
                 refine E.opv hF (r_bin (hF.at 0 rfl) ev_c eg_scalar (bi_int (ic_eql (c := true) (by decide)) (by simp))) rfl rfl rfl rfl fun a hF => ?_
                 refine E.opv hF (r_move (hF.at 0 rfl)) rfl rfl rfl rfl fun a hF => ?_
                 refine E.opvg hF (r_move (hF.at 6 rfl)) (wanted_by rfl rfl (hF.at 0 rfl) rfl) rfl rfl rfl fun a hF => ?_
                 refine E.opvg hF (r_bin (hF.at 0 rfl) ev_c eg_scalar (bi_int (ic_eql (c := false) (by decide)) (by simp))) (wanted_by rfl rfl (hF.at 1 rfl) rfl) rfl rfl rfl fun a hF => ?_
                 refine E.opv hF (r_pick_t (hF.at 2 rfl) (hF.at 0 rfl)) rfl rfl rfl rfl fun a hF => ?_
                 refine E.opset (L' := [(2, .bool false), (30, .bool false), (29, .bool false), (28, .int .i64 0), (27, .bool true), (26, .bool true), (25, .int .i64 0), (24, .bool true), (23, .int .i64 (vv3 + 1461)), (22, .int .i64 vv3), (6, .int .i64 0), (5, .pointer (some ⟨g5, 0, none⟩)), (21, .int .i64 0), (20, .agg #[.int .i64 vv17, .int .i64 vv18, .int .i64 vv19]), (16, .tuple #[.agg #[.int .i64 vv17, .int .i64 vv18, .int .i64 vv19], .int .i64 0]), (19, .tuple #[.agg #[.int .i64 vv17, .int .i64 vv18, .int .i64 vv19], .int .i64 0]), (18, .int .i64 (vv3 + 1461)), (17, .int .i64 vv3), (4, .int .i64 0), (3, .pointer (some ⟨g3, 0, none⟩)), (15, .int .i64 0), (14, .agg #[.int .i64 vv8, .int .i64 vv9, .int .i64 vv10]), (11, .tuple #[.agg #[.int .i64 vv8, .int .i64 vv9, .int .i64 vv10], .int .i64 0]), (13, .tuple #[.agg #[.int .i64 vv8, .int .i64 vv9, .int .i64 vv10], .int .i64 0]), (12, .int .i64 vv3), (0, .int .i64 vv3), (10, .int .i64 vv3), (9, .int .i64 n), (8, .bool false), (7, .bool true)]) hF (r_assign (hF.at 0 rfl)) rfl rfl rfl rfl fun a hF => ?_
                 refine E.nil ?_
                 refine wp_ret ?_
                 refine bodyPost_ret (res_tmp Tryd.results11 (hF.at 0 rfl)) hF.dfr ?_
                 exact ⟨rfl, bel⟩)
            · first
              | (exfalso; omega)
              | (refine E.opv hF (r_bin (hF.at 0 rfl) ev_c eg_scalar (bi_int (ic_gtr (c := false) (dec_ff hc24)) (by simp))) rfl rfl rfl rfl fun a hF => ?_
                 refine E.nil ?_
                 refine wp_cond_false (hF.at 0 rfl) ?_
                 refine wp_skip ?_
                 refine E.norm ?_
                 refine wp_seq ?_
                 refine E.seq ?_
                 refine E.opv hF (r_move (hF.at 11 rfl)) rfl rfl rfl rfl fun a hF => ?_
                 refine E.opv hF (r_bin (hF.at 0 rfl) ev_c eg_scalar (bi_int (ic_eql (c := true) (by decide)) (by simp))) rfl rfl rfl rfl fun a hF => ?_
                 refine E.opv hF (r_move (hF.at 0 rfl)) rfl rfl rfl rfl fun a hF => ?_
                 refine E.opvg hF (r_move (hF.at 6 rfl)) (wanted_by rfl rfl (hF.at 0 rfl) rfl) rfl rfl rfl fun a hF => ?_
                 refine E.opvg hF (r_bin (hF.at 0 rfl) ev_c eg_scalar (bi_int (ic_eql (c := true) (by decide)) (by simp))) (wanted_by rfl rfl (hF.at 1 rfl) rfl) rfl rfl rfl fun a hF => ?_
                 refine E.opv hF (r_pick_t (hF.at 2 rfl) (hF.at 0 rfl)) rfl rfl rfl rfl fun a hF => ?_
                 refine E.opv hF (r_move (hF.at 0 rfl)) rfl rfl rfl rfl fun a hF => ?_
                 refine E.opvg hF (r_load (hF.at 11 rfl) (ldb_JDate (vs := [.int .i64 vv17, .int .i64 vv18, .int .i64 vv19]) o5 rfl rfl)) (wanted_by rfl rfl (hF.at 0 rfl) rfl) rfl rfl rfl fun a hF => ?_
                 refine E.opvg hF (r_field (hF.at 20 rfl) (fa_JDate_0 (p := 0) rfl)) (wanted_by rfl rfl (hF.at 1 rfl) rfl) rfl rfl rfl fun a hF => ?_
                 refine E.opvg hF (r_load (hF.at 0 rfl) (ldb_i64 (v := .int .i64 vv8) o3 rfl)) (wanted_by rfl rfl (hF.at 2 rfl) rfl) rfl rfl rfl fun a hF => ?_
                 refine E.opvg hF (r_bin (hF.at 0 rfl) ev_c eg_scalar (ia_add (by omega) (by omega))) (wanted_by rfl rfl (hF.at 3 rfl) rfl) rfl rfl rfl fun a hF => ?_
                 refine E.opvg hF (r_field (hF.at 23 rfl) (fa_JDate_1 (p := 1) rfl)) (wanted_by rfl rfl (hF.at 4 rfl) rfl) rfl rfl rfl fun a hF => ?_
                 refine E.opvg hF (r_load (hF.at 0 rfl) (ldb_int (v := .int .i64 vv9) o3 rfl)) (wanted_by rfl rfl (hF.at 5 rfl) rfl) rfl rfl rfl fun a hF => ?_
                 refine E.opvg hF (r_field (hF.at 25 rfl) (fa_JDate_2 (p := 2) rfl)) (wanted_by rfl rfl (hF.at 6 rfl) rfl) rfl rfl rfl fun a hF => ?_
                 refine E.opvg hF (r_load (hF.at 0 rfl) (ldb_int (v := .int .i64 vv10) o3 rfl)) (wanted_by rfl rfl (hF.at 7 rfl) rfl) rfl rfl rfl fun a hF => ?_
                 refine E.opvg hF (r_build (pair3 (hF.at 4 rfl) (hF.at 2 rfl) (hF.at 0 rfl)) (bd_JDate_012 _ _ _ _)) (wanted_by rfl rfl (hF.at 8 rfl) rfl) rfl rfl rfl fun a hF => ?_
                 refine E.opvg hF (r_bin (hF.at 8 rfl) (hF.at 0 rfl) eg_JDate (es_JDate (dec_tt (fourJ (by assumption) (by assumption) (by assumption) (by assumption))))) (wanted_by rfl rfl (hF.at 9 rfl) rfl) rfl rfl rfl fun a hF => ?_
                 refine E.opv hF (r_pick_t (hF.at 10 rfl) (hF.at 0 rfl)) rfl rfl rfl rfl fun a hF => ?_
                 refine E.opset (L' := [(2, .bool true), (48, .bool true), (47, .bool true), (46, .agg #[.int .i64 (vv8 + 4), .int .i64 vv9, .int .i64 vv10]), (45, .int .i64 vv10), (44, .pointer (some ⟨g3, 2, none⟩)), (43, .int .i64 vv9), (42, .pointer (some ⟨g3, 1, none⟩)), (41, .int .i64 (vv8 + 4)), (40, .int .i64 vv8), (39, .pointer (some ⟨g3, 0, none⟩)), (38, .agg #[.int .i64 vv17, .int .i64 vv18, .int .i64 vv19]), (37, .bool true), (36, .bool true), (35, .bool true), (34, .int .i64 0), (33, .bool true), (32, .bool true), (31, .int .i64 0), (24, .bool false), (23, .int .i64 (vv3 + 1461)), (22, .int .i64 vv3), (6, .int .i64 0), (5, .pointer (some ⟨g5, 0, none⟩)), (21, .int .i64 0), (20, .agg #[.int .i64 vv17, .int .i64 vv18, .int .i64 vv19]), (16, .tuple #[.agg #[.int .i64 vv17, .int .i64 vv18, .int .i64 vv19], .int .i64 0]), (19, .tuple #[.agg #[.int .i64 vv17, .int .i64 vv18, .int .i64 vv19], .int .i64 0]), (18, .int .i64 (vv3 + 1461)), (17, .int .i64 vv3), (4, .int .i64 0), (3, .pointer (some ⟨g3, 0, none⟩)), (15, .int .i64 0), (14, .agg #[.int .i64 vv8, .int .i64 vv9, .int .i64 vv10]), (11, .tuple #[.agg #[.int .i64 vv8, .int .i64 vv9, .int .i64 vv10], .int .i64 0]), (13, .tuple #[.agg #[.int .i64 vv8, .int .i64 vv9, .int .i64 vv10], .int .i64 0]), (12, .int .i64 vv3), (0, .int .i64 vv3), (10, .int .i64 vv3), (9, .int .i64 n), (8, .bool false), (7, .bool true)]) hF (r_assign (hF.at 0 rfl)) rfl rfl rfl rfl fun a hF => ?_
                 refine E.nil ?_
                 refine wp_ret ?_
                 refine bodyPost_ret (res_tmp Tryd.results11 (hF.at 0 rfl)) hF.dfr ?_
                 exact ⟨rfl, bel⟩))
       · first
         | (exfalso; omega)
         | (refine E.call hF (r_call Tryd.func26 en26.1 en26.2 (map1 (hF.at 0 rfl))) (cofxJ_any (vv3 + 1461) _ (hT.below bel) (mayB_f (by omega))) rfl rfl rfl rfl ?_
            rintro e w25 ⟨rfl, bb⟩
            refine ⟨_, rfl, ?_⟩
            intro a hF
            replace o3 := o3.below bb
            replace bel := below_to bel bb
            clear bb
            refine E.opv hF (r_move (hF.at 0 rfl)) rfl rfl rfl rfl fun a hF => ?_
            refine E.opv hF (r_extract (v := .agg #[.int .i64 0, .int .i64 0, .int .i64 0]) (hF.at 0 rfl) rfl) rfl rfl rfl rfl fun a hF => ?_
            refine E.opv hF (r_extract (v := .int .i64 2) (hF.at 1 rfl) rfl) rfl rfl rfl rfl fun a hF => ?_
            obtain ⟨g5, w26, ge5, hr, bb, o5⟩ := blk_alloc (P := Tryd.prog) (w := w25) (cs := [.int .i64 0, .int .i64 0, .int .i64 0]) 42 ze_JDate rfl
            have ne3_5 : g3 ≠ g5 := by rw [← ge5]; exact o3.ne_new
            replace ge5 : w.heap.size ≤ g5 := by rw [← ge5]; exact bel.size
            refine E.opv hF (r_alloc hr) rfl rfl rfl rfl fun a hF => ?_
            clear hr
            replace o3 := o3.below bb
            replace bel := below_to bel bb
            clear bb
            obtain ⟨w27, hr, tu, on⟩ := stb_JDate (vs := [.int .i64 0, .int .i64 0, .int .i64 0]) o5 rfl rfl (ocI (ocI (ocI oc0))) (o := 0) rfl
            refine E.st hF (r_store (hF.at 0 rfl) (hF.at 2 rfl) (hr _ rfl)) rfl rfl fun a hF => ?_
            clear hr
            replace o3 := tu.blk o3 ne3_5
            replace bel := tu.below bel ge5
            clear tu
            replace o5 := on
            clear on
            refine E.opv hF (r_assign (hF.at 1 rfl)) rfl rfl rfl rfl fun a hF => ?_
            refine E.nil ?_
            refine wp_seq ?_
            refine wp_seq ?_
            refine E.seq ?_
            refine E.opv hF (r_move (hF.at 15 rfl)) rfl rfl rfl rfl fun a hF => ?_
            refine E.opv hF (r_bin (hF.at 0 rfl) ev_c eg_scalar (ia_add (by omega) (by omega))) rfl rfl rfl rfl fun a hF => ?_
            by_cases hc28 : 3000000 < vv3 + 1461
            · first
              | (exfalso; omega)
              | (refine E.opv hF (r_bin (hF.at 0 rfl) ev_c eg_scalar (bi_int (ic_gtr (c := true) (dec_tt hc28)) (by simp))) rfl rfl rfl rfl fun a hF => ?_
                 refine E.nil ?_
                 refine wp_cond_true (hF.at 0 rfl) ?_
                 refine wp_seq ?_
                 refine E.seq ?_
                 refine E.opv hF (r_move (hF.at 11 rfl)) rfl rfl rfl rfl fun a hF => ?_
                 refine E.opv hF (r_bin (hF.at 0 rfl) ev_c eg_scalar (bi_int (ic_eql (c := true) (by decide)) (by simp))) rfl rfl rfl rfl fun a hF => ?_
                 refine E.opv hF (r_move (hF.at 0 rfl)) rfl rfl rfl rfl fun a hF => ?_
                 refine E.opvg hF (r_move (hF.at 6 rfl)) (wanted_by rfl rfl (hF.at 0 rfl) rfl) rfl rfl rfl fun a hF => ?_
                 refine E.opvg hF (r_bin (hF.at 0 rfl) ev_c eg_scalar (bi_int (ic_eql (c := true) (by decide)) (by simp))) (wanted_by rfl rfl (hF.at 1 rfl) rfl) rfl rfl rfl fun a hF => ?_
                 refine E.opv hF (r_pick_t (hF.at 2 rfl) (hF.at 0 rfl)) rfl rfl rfl rfl fun a hF => ?_
                 refine E.opset (L' := [(2, .bool true), (30, .bool true), (29, .bool true), (28, .int .i64 2), (27, .bool true), (26, .bool true), (25, .int .i64 0), (24, .bool true), (23, .int .i64 (vv3 + 1461)), (22, .int .i64 vv3), (6, .int .i64 2), (5, .pointer (some ⟨g5, 0, none⟩)), (21, .int .i64 2), (20, .agg #[.int .i64 0, .int .i64 0, .int .i64 0]), (16, .tuple #[.agg #[.int .i64 0, .int .i64 0, .int .i64 0], .int .i64 2]), (19, .tuple #[.agg #[.int .i64 0, .int .i64 0, .int .i64 0], .int .i64 2]), (18, .int .i64 (vv3 + 1461)), (17, .int .i64 vv3), (4, .int .i64 0), (3, .pointer (some ⟨g3, 0, none⟩)), (15, .int .i64 0), (14, .agg #[.int .i64 vv8, .int .i64 vv9, .int .i64 vv10]), (11, .tuple #[.agg #[.int .i64 vv8, .int .i64 vv9, .int .i64 vv10], .int .i64 0]), (13, .tuple #[.agg #[.int .i64 vv8, .int .i64 vv9, .int .i64 vv10], .int .i64 0]), (12, .int .i64 vv3), (0, .int .i64 vv3), (10, .int .i64 vv3), (9, .int .i64 n), (8, .bool false), (7, .bool true)]) hF (r_assign (hF.at 0 rfl)) rfl rfl rfl rfl fun a hF => ?_
                 refine E.nil ?_
                 refine wp_ret ?_
                 refine bodyPost_ret (res_tmp Tryd.results11 (hF.at 0 rfl)) hF.dfr ?_
                 exact ⟨rfl, bel⟩)
            · first
              | (exfalso; omega)
              | (refine E.opv hF (r_bin (hF.at 0 rfl) ev_c eg_scalar (bi_int (ic_gtr (c := false) (dec_ff hc28)) (by simp))) rfl rfl rfl rfl fun a hF => ?_
                 refine E.nil ?_
                 refine wp_cond_false (hF.at 0 rfl) ?_
                 refine wp_skip ?_
                 refine E.norm ?_
                 refine wp_seq ?_
                 refine E.seq ?_
                 refine E.opv hF (r_move (hF.at 11 rfl)) rfl rfl rfl rfl fun a hF => ?_
                 refine E.opv hF (r_bin (hF.at 0 rfl) ev_c eg_scalar (bi_int (ic_eql (c := true) (by decide)) (by simp))) rfl rfl rfl rfl fun a hF => ?_
                 refine E.opv hF (r_move (hF.at 0 rfl)) rfl rfl rfl rfl fun a hF => ?_
                 refine E.opvg hF (r_move (hF.at 6 rfl)) (wanted_by rfl rfl (hF.at 0 rfl) rfl) rfl rfl rfl fun a hF => ?_
                 refine E.opvg hF (r_bin (hF.at 0 rfl) ev_c eg_scalar (bi_int (ic_eql (c := false) (by decide)) (by simp))) (wanted_by rfl rfl (hF.at 1 rfl) rfl) rfl rfl rfl fun a hF => ?_
                 refine E.opv hF (r_pick_t (hF.at 2 rfl) (hF.at 0 rfl)) rfl rfl rfl rfl fun a hF => ?_
                 refine E.opv hF (r_move (hF.at 0 rfl)) rfl rfl rfl rfl fun a hF => ?_
                 refine E.unwanted hF (wanted_by rfl rfl (hF.at 0 rfl) rfl) rfl rfl rfl fun a hF => ?_
                 refine E.unwanted hF (wanted_by rfl rfl (hF.at 1 rfl) rfl) rfl rfl rfl fun a hF => ?_
                 refine E.unwanted hF (wanted_by rfl rfl (hF.at 2 rfl) rfl) rfl rfl rfl fun a hF => ?_
                 refine E.unwanted hF (wanted_by rfl rfl (hF.at 3 rfl) rfl) rfl rfl rfl fun a hF => ?_
                 refine E.unwanted hF (wanted_by rfl rfl (hF.at 4 rfl) rfl) rfl rfl rfl fun a hF => ?_
                 refine E.unwanted hF (wanted_by rfl rfl (hF.at 5 rfl) rfl) rfl rfl rfl fun a hF => ?_
                 refine E.unwanted hF (wanted_by rfl rfl (hF.at 6 rfl) rfl) rfl rfl rfl fun a hF => ?_
                 refine E.unwanted hF (wanted_by rfl rfl (hF.at 7 rfl) rfl) rfl rfl rfl fun a hF => ?_
                 refine E.unwanted hF (wanted_by rfl rfl (hF.at 8 rfl) rfl) rfl rfl rfl fun a hF => ?_
                 refine E.unwanted hF (wanted_by rfl rfl (hF.at 9 rfl) rfl) rfl rfl rfl fun a hF => ?_
                 refine E.opv hF (r_pick_f (hF.at 10 rfl) ev_c) rfl rfl rfl rfl fun a hF => ?_
                 refine E.opset (L' := [(2, .bool false), (48, .bool false), (47, undef), (46, undef), (45, undef), (44, undef), (43, undef), (42, undef), (41, undef), (40, undef), (39, undef), (38, undef), (37, .bool false), (36, .bool false), (35, .bool false), (34, .int .i64 2), (33, .bool true), (32, .bool true), (31, .int .i64 0), (24, .bool false), (23, .int .i64 (vv3 + 1461)), (22, .int .i64 vv3), (6, .int .i64 2), (5, .pointer (some ⟨g5, 0, none⟩)), (21, .int .i64 2), (20, .agg #[.int .i64 0, .int .i64 0, .int .i64 0]), (16, .tuple #[.agg #[.int .i64 0, .int .i64 0, .int .i64 0], .int .i64 2]), (19, .tuple #[.agg #[.int .i64 0, .int .i64 0, .int .i64 0], .int .i64 2]), (18, .int .i64 (vv3 + 1461)), (17, .int .i64 vv3), (4, .int .i64 0), (3, .pointer (some ⟨g3, 0, none⟩)), (15, .int .i64 0), (14, .agg #[.int .i64 vv8, .int .i64 vv9, .int .i64 vv10]), (11, .tuple #[.agg #[.int .i64 vv8, .int .i64 vv9, .int .i64 vv10], .int .i64 0]), (13, .tuple #[.agg #[.int .i64 vv8, .int .i64 vv9, .int .i64 vv10], .int .i64 0]), (12, .int .i64 vv3), (0, .int .i64 vv3), (10, .int .i64 vv3), (9, .int .i64 n), (8, .bool false), (7, .bool true)]) hF (r_assign (hF.at 0 rfl)) rfl rfl rfl rfl fun a hF => ?_
                 refine E.nil ?_
                 refine wp_ret ?_
                 refine bodyPost_ret (res_tmp Tryd.results11 (hF.at 0 rfl)) hF.dfr ?_
                 exact ⟨rfl, bel⟩)))
  · first
    | (exfalso; omega)
    | (refine E.call hF (r_call Tryd.func26 en26.1 en26.2 (map1 (hF.at 0 rfl))) (cofxJ_any vv3 _ (hT.below bel) (mayB_f (by omega))) rfl rfl rfl rfl ?_
       rintro e w29 ⟨rfl, bb⟩
       refine ⟨_, rfl, ?_⟩
       intro a hF
       replace bel := below_to bel bb
       clear bb
       refine E.opv hF (r_move (hF.at 0 rfl)) rfl rfl rfl rfl fun a hF => ?_
       refine E.opv hF (r_extract (v := .agg #[.int .i64 0, .int .i64 0, .int .i64 0]) (hF.at 0 rfl) rfl) rfl rfl rfl rfl fun a hF => ?_
       refine E.opv hF (r_extract (v := .int .i64 2) (hF.at 1 rfl) rfl) rfl rfl rfl rfl fun a hF => ?_
       obtain ⟨g3, w30, ge3, hr, bb, o3⟩ := blk_alloc (P := Tryd.prog) (w := w29) (cs := [.int .i64 0, .int .i64 0, .int .i64 0]) 42 ze_JDate rfl
       replace ge3 : w.heap.size ≤ g3 := by rw [← ge3]; exact bel.size
       refine E.opv hF (r_alloc hr) rfl rfl rfl rfl fun a hF => ?_
       clear hr
       replace bel := below_to bel bb
       clear bb
       obtain ⟨w31, hr, tu, on⟩ := stb_JDate (vs := [.int .i64 0, .int .i64 0, .int .i64 0]) o3 rfl rfl (ocI (ocI (ocI oc0))) (o := 0) rfl
       refine E.st hF (r_store (hF.at 0 rfl) (hF.at 2 rfl) (hr _ rfl)) rfl rfl fun a hF => ?_
       clear hr
       replace bel := tu.below bel ge3
       clear tu
       replace o3 := on
       clear on
       refine E.opv hF (r_assign (hF.at 1 rfl)) rfl rfl rfl rfl fun a hF => ?_
       refine E.nil ?_
       refine wp_seq ?_
       refine E.seq ?_
       refine E.opv hF (r_move (hF.at 7 rfl)) rfl rfl rfl rfl fun a hF => ?_
       refine E.opv hF (r_bin (hF.at 0 rfl) ev_c eg_scalar (ia_add (by omega) (by omega))) rfl rfl rfl rfl fun a hF => ?_
       by_cases hc32 : -3000000 ≤ vv3 + 1461 ∧ vv3 + 1461 ≤ 3000000
       · first
         | (exfalso; omega)
         | (refine E.call hF (r_call Tryd.func26 en26.1 en26.2 (map1 (hF.at 0 rfl))) (cofJ_any (vv3 + 1461) _ (hT.below bel) (mayB_t (by omega) (by omega))) rfl rfl rfl rfl ?_
            rintro e w33 ⟨vv34, vv35, vv36, rfl, hh37, hh38, bb⟩
            refine ⟨_, rfl, ?_⟩
            intro a hF
            have hyr := yrJ hh37 hh38 (by omega) (by omega)
            have hvb := val_bd hh37
            have hfg := fix_good (c := calJ) hh37 hh38 (by omega) (by omega) (by omega) (by omega)
            replace o3 := o3.below bb
            replace bel := below_to bel bb
            clear bb
            refine E.opv hF (r_move (hF.at 0 rfl)) rfl rfl rfl rfl fun a hF => ?_
            refine E.opv hF (r_extract (v := .agg #[.int .i64 vv34, .int .i64 vv35, .int .i64 vv36]) (hF.at 0 rfl) rfl) rfl rfl rfl rfl fun a hF => ?_
            refine E.opv hF (r_extract (v := .int .i64 0) (hF.at 1 rfl) rfl) rfl rfl rfl rfl fun a hF => ?_
            obtain ⟨g5, w39, ge5, hr, bb, o5⟩ := blk_alloc (P := Tryd.prog) (w := w33) (cs := [.int .i64 0, .int .i64 0, .int .i64 0]) 42 ze_JDate rfl
            have ne3_5 : g3 ≠ g5 := by rw [← ge5]; exact o3.ne_new
            replace ge5 : w.heap.size ≤ g5 := by rw [← ge5]; exact bel.size
            refine E.opv hF (r_alloc hr) rfl rfl rfl rfl fun a hF => ?_
            clear hr
            replace o3 := o3.below bb
            replace bel := below_to bel bb
            clear bb
            obtain ⟨w40, hr, tu, on⟩ := stb_JDate (vs := [.int .i64 vv34, .int .i64 vv35, .int .i64 vv36]) o5 rfl rfl (ocI (ocI (ocI oc0))) (o := 0) rfl
            refine E.st hF (r_store (hF.at 0 rfl) (hF.at 2 rfl) (hr _ rfl)) rfl rfl fun a hF => ?_
            clear hr
            replace o3 := tu.blk o3 ne3_5
            replace bel := tu.below bel ge5
            clear tu
            replace o5 := on
            clear on
            refine E.opv hF (r_assign (hF.at 1 rfl)) rfl rfl rfl rfl fun a hF => ?_
            refine E.nil ?_
            refine wp_seq ?_
            refine wp_seq ?_
            refine E.seq ?_
            refine E.opv hF (r_move (hF.at 15 rfl)) rfl rfl rfl rfl fun a hF => ?_
            refine E.opv hF (r_bin (hF.at 0 rfl) ev_c eg_scalar (ia_add (by omega) (by omega))) rfl rfl rfl rfl fun a hF => ?_
            by_cases hc41 : 3000000 < vv3 + 1461
            · first
              | (exfalso; omega)
              | (refine E.opv hF (r_bin (hF.at 0 rfl) ev_c eg_scalar (bi_int (ic_gtr (c := true) (dec_tt hc41)) (by simp))) rfl rfl rfl rfl fun a hF => ?_
                 refine E.nil ?_
                 refine wp_cond_true (hF.at 0 rfl) ?_
                 refine wp_seq ?_
                 refine E.seq ?_
                 refine E.opv hF (r_move (hF.at 11 rfl)) rfl rfl rfl rfl fun a hF => ?_
                 refine E.opv hF (r_bin (hF.at 0 rfl) ev_c eg_scalar (bi_int (ic_eql (c := false) (by decide)) (by simp))) rfl rfl rfl rfl fun a hF => ?_
                 refine E.opv hF (r_move (hF.at 0 rfl)) rfl rfl rfl rfl fun a hF => ?_
                 refine E.unwanted hF (wanted_by rfl rfl (hF.at 0 rfl) rfl) rfl rfl rfl fun a hF => ?_
                 refine E.unwanted hF (wanted_by rfl rfl (hF.at 1 rfl) rfl) rfl rfl rfl fun a hF => ?_
                 refine E.opv hF (r_pick_f (hF.at 2 rfl) ev_c) rfl rfl rfl rfl fun a hF => ?_
                 refine E.opset (L' := [(2, .bool false), (30, .bool false), (29, undef), (28, undef), (27, .bool false), (26, .bool false), (25, .int .i64 2), (24, .bool true), (23, .int .i64 (vv3 + 1461)), (22, .int .i64 vv3), (6, .int .i64 0), (5, .pointer (some ⟨g5, 0, none⟩)), (21, .int .i64 0), (20, .agg #[.int .i64 vv34, .int .i64 vv35, .int .i64 vv36]), (16, .tuple #[.agg #[.int .i64 vv34, .int .i64 vv35, .int .i64 vv36], .int .i64 0]), (19, .tuple #[.agg #[.int .i64 vv34, .int .i64 vv35, .int .i64 vv36], .int .i64 0]), (18, .int .i64 (vv3 + 1461)), (17, .int .i64 vv3), (4, .int .i64 2), (3, .pointer (some ⟨g3, 0, none⟩)), (15, .int .i64 2), (14, .agg #[.int .i64 0, .int .i64 0, .int .i64 0]), (11, .tuple #[.agg #[.int .i64 0, .int .i64 0, .int .i64 0], .int .i64 2]), (13, .tuple #[.agg #[.int .i64 0, .int .i64 0, .int .i64 0], .int .i64 2]), (12, .int .i64 vv3), (0, .int .i64 vv3), (10, .int .i64 vv3), (9, .int .i64 n), (8, .bool false), (7, .bool true)]) hF (r_assign (hF.at 0 rfl)) rfl rfl rfl rfl fun a hF => ?_
                 refine E.nil ?_
                 refine wp_ret ?_
                 refine bodyPost_ret (res_tmp Tryd.results11 (hF.at 0 rfl)) hF.dfr ?_
                 exact ⟨rfl, bel⟩)
            · first
              | (exfalso; omega)
              | (refine E.opv hF (r_bin (hF.at 0 rfl) ev_c eg_scalar (bi_int (ic_gtr (c := false) (dec_ff hc41)) (by simp))) rfl rfl rfl rfl fun a hF => ?_
                 refine E.nil ?_
                 refine wp_cond_false (hF.at 0 rfl) ?_
                 refine wp_skip ?_
                 refine E.norm ?_
                 refine wp_seq ?_
                 refine E.seq ?_
                 refine E.opv hF (r_move (hF.at 11 rfl)) rfl rfl rfl rfl fun a hF => ?_
                 refine E.opv hF (r_bin (hF.at 0 rfl) ev_c eg_scalar (bi_int (ic_eql (c := false) (by decide)) (by simp))) rfl rfl rfl rfl fun a hF => ?_
                 refine E.opv hF (r_move (hF.at 0 rfl)) rfl rfl rfl rfl fun a hF => ?_
                 refine E.unwanted hF (wanted_by rfl rfl (hF.at 0 rfl) rfl) rfl rfl rfl fun a hF => ?_
                 refine E.unwanted hF (wanted_by rfl rfl (hF.at 1 rfl) rfl) rfl rfl rfl fun a hF => ?_
                 refine E.opv hF (r_pick_f (hF.at 2 rfl) ev_c) rfl rfl rfl rfl fun a hF => ?_
                 refine E.opv hF (r_move (hF.at 0 rfl)) rfl rfl rfl rfl fun a hF => ?_
                 refine E.unwanted hF (wanted_by rfl rfl (hF.at 0 rfl) rfl) rfl rfl rfl fun a hF => ?_
                 refine E.unwanted hF (wanted_by rfl rfl (hF.at 1 rfl) rfl) rfl rfl rfl fun a hF => ?_
                 refine E.unwanted hF (wanted_by rfl rfl (hF.at 2 rfl) rfl) rfl rfl rfl fun a hF => ?_
                 refine E.unwanted hF (wanted_by rfl rfl (hF.at 3 rfl) rfl) rfl rfl rfl fun a hF => ?_
                 refine E.unwanted hF (wanted_by rfl rfl (hF.at 4 rfl) rfl) rfl rfl rfl fun a hF => ?_
                 refine E.unwanted hF (wanted_by rfl rfl (hF.at 5 rfl) rfl) rfl rfl rfl fun a hF => ?_
                 refine E.unwanted hF (wanted_by rfl rfl (hF.at 6 rfl) rfl) rfl rfl rfl fun a hF => ?_
                 refine E.unwanted hF (wanted_by rfl rfl (hF.at 7 rfl) rfl) rfl rfl rfl fun a hF => ?_
                 refine E.unwanted hF (wanted_by rfl rfl (hF.at 8 rfl) rfl) rfl rfl rfl fun a hF => ?_
                 refine E.unwanted hF (wanted_by rfl rfl (hF.at 9 rfl) rfl) rfl rfl rfl fun a hF => ?_
                 refine E.opv hF (r_pick_f (hF.at 10 rfl) ev_c) rfl rfl rfl rfl fun a hF => ?_
                 refine E.opset (L' := [(2, .bool false), (48, .bool false), (47, undef), (46, undef), (45, undef), (44, undef), (43, undef), (42, undef), (41, undef), (40, undef), (39, undef), (38, undef), (37, .bool false), (36, .bool false), (35, undef), (34, undef), (33, .bool false), (32, .bool false), (31, .int .i64 2), (24, .bool false), (23, .int .i64 (vv3 + 1461)), (22, .int .i64 vv3), (6, .int .i64 0), (5, .pointer (some ⟨g5, 0, none⟩)), (21, .int .i64 0), (20, .agg #[.int .i64 vv34, .int .i64 vv35, .int .i64 vv36]), (16, .tuple #[.agg #[.int .i64 vv34, .int .i64 vv35, .int .i64 vv36], .int .i64 0]), (19, .tuple #[.agg #[.int .i64 vv34, .int .i64 vv35, .int .i64 vv36], .int .i64 0]), (18, .int .i64 (vv3 + 1461)), (17, .int .i64 vv3), (4, .int .i64 2), (3, .pointer (some ⟨g3, 0, none⟩)), (15, .int .i64 2), (14, .agg #[.int .i64 0, .int .i64 0, .int .i64 0]), (11, .tuple #[.agg #[.int .i64 0, .int .i64 0, .int .i64 0], .int .i64 2]), (13, .tuple #[.agg #[.int .i64 0, .int .i64 0, .int .i64 0], .int .i64 2]), (12, .int .i64 vv3), (0, .int .i64 vv3), (10, .int .i64 vv3), (9, .int .i64 n), (8, .bool false), (7, .bool true)]) hF (r_assign (hF.at 0 rfl)) rfl rfl rfl rfl fun a hF => ?_
                 refine E.nil ?_
                 refine wp_ret ?_
                 refine bodyPost_ret (res_tmp Tryd.results11 (hF.at 0 rfl)) hF.dfr ?_
                 exact ⟨rfl, bel⟩))
       · first
         | (exfalso; omega)
         | (refine E.call hF (r_call Tryd.func26 en26.1 en26.2 (map1 (hF.at 0 rfl))) (cofxJ_any (vv3 + 1461) _ (hT.below bel) (mayB_f (by omega))) rfl rfl rfl rfl ?_
            rintro e w42 ⟨rfl, bb⟩
            refine ⟨_, rfl, ?_⟩
            intro a hF
            replace o3 := o3.below bb
            replace bel := below_to bel bb
            clear bb
            refine E.opv hF (r_move (hF.at 0 rfl)) rfl rfl rfl rfl fun a hF => ?_
            refine E.opv hF (r_extract (v := .agg #[.int .i64 0, .int .i64 0, .int .i64 0]) (hF.at 0 rfl) rfl) rfl rfl rfl rfl fun a hF => ?_
            refine E.opv hF (r_extract (v := .int .i64 2) (hF.at 1 rfl) rfl) rfl rfl rfl rfl fun a hF => ?_
            obtain ⟨g5, w43, ge5, hr, bb, o5⟩ := blk_alloc (P := Tryd.prog) (w := w42) (cs := [.int .i64 0, .int .i64 0, .int .i64 0]) 42 ze_JDate rfl
            have ne3_5 : g3 ≠ g5 := by rw [← ge5]; exact o3.ne_new
            replace ge5 : w.heap.size ≤ g5 := by rw [← ge5]; exact bel.size
            refine E.opv hF (r_alloc hr) rfl rfl rfl rfl fun a hF => ?_
            clear hr
            replace o3 := o3.below bb
            replace bel := below_to bel bb
            clear bb
            obtain ⟨w44, hr, tu, on⟩ := stb_JDate (vs := [.int .i64 0, .int .i64 0, .int .i64 0]) o5 rfl rfl (ocI (ocI (ocI oc0))) (o := 0) rfl
            refine E.st hF (r_store (hF.at 0 rfl) (hF.at 2 rfl) (hr _ rfl)) rfl rfl fun a hF => ?_
            clear hr
            replace o3 := tu.blk o3 ne3_5
            replace bel := tu.below bel ge5
            clear tu
            replace o5 := on
            clear on
            refine E.opv hF (r_assign (hF.at 1 rfl)) rfl rfl rfl rfl fun a hF => ?_
            refine E.nil ?_
            refine wp_seq ?_
            refine wp_seq ?_
            refine E.seq ?_
            refine E.opv hF (r_move (hF.at 15 rfl)) rfl rfl rfl rfl fun a hF => ?_
            refine E.opv hF (r_bin (hF.at 0 rfl) ev_c eg_scalar (ia_add (by omega) (by omega))) rfl rfl rfl rfl fun a hF => ?_
            by_cases hc45 : 3000000 < vv3 + 1461
            · first
              | (exfalso; omega)
              | (refine E.opv hF (r_bin (hF.at 0 rfl) ev_c eg_scalar (bi_int (ic_gtr (c := true) (dec_tt hc45)) (by simp))) rfl rfl rfl rfl fun a hF => ?_
                 refine E.nil ?_
                 refine wp_cond_true (hF.at 0 rfl) ?_
                 refine wp_seq ?_
                 refine E.seq ?_
                 refine E.opv hF (r_move (hF.at 11 rfl)) rfl rfl rfl rfl fun a hF => ?_
                 refine E.opv hF (r_bin (hF.at 0 rfl) ev_c eg_scalar (bi_int (ic_eql (c := false) (by decide)) (by simp))) rfl rfl rfl rfl fun a hF => ?_
                 refine E.opv hF (r_move (hF.at 0 rfl)) rfl rfl rfl rfl fun a hF => ?_
                 refine E.unwanted hF (wanted_by rfl rfl (hF.at 0 rfl) rfl) rfl rfl rfl fun a hF => ?_
                 refine E.unwanted hF (wanted_by rfl rfl (hF.at 1 rfl) rfl) rfl rfl rfl fun a hF => ?_
                 refine E.opv hF (r_pick_f (hF.at 2 rfl) ev_c) rfl rfl rfl rfl fun a hF => ?_
                 refine E.opset (L' := [(2, .bool false), (30, .bool false), (29, undef), (28, undef), (27, .bool false), (26, .bool false), (25, .int .i64 2), (24, .bool true), (23, .int .i64 (vv3 + 1461)), (22, .int .i64 vv3), (6, .int .i64 2), (5, .pointer (some ⟨g5, 0, none⟩)), (21, .int .i64 2), (20, .agg #[.int .i64 0, .int .i64 0, .int .i64 0]), (16, .tuple #[.agg #[.int .i64 0, .int .i64 0, .int .i64 0], .int .i64 2]), (19, .tuple #[.agg #[.int .i64 0, .int .i64 0, .int .i64 0], .int .i64 2]), (18, .int .i64 (vv3 + 1461)), (17, .int .i64 vv3), (4, .int .i64 2), (3, .pointer (some ⟨g3, 0, none⟩)), (15, .int .i64 2), (14, .agg #[.int .i64 0, .int .i64 0, .int .i64 0]), (11, .tuple #[.agg #[.int .i64 0, .int .i64 0, .int .i64 0], .int .i64 2]), (13, .tuple #[.agg #[.int .i64 0, .int .i64 0, .int .i64 0], .int .i64 2]), (12, .int .i64 vv3), (0, .int .i64 vv3), (10, .int .i64 vv3), (9, .int .i64 n), (8, .bool false), (7, .bool true)]) hF (r_assign (hF.at 0 rfl)) rfl rfl rfl rfl fun a hF => ?_
                 refine E.nil ?_
                 refine wp_ret ?_
                 refine bodyPost_ret (res_tmp Tryd.results11 (hF.at 0 rfl)) hF.dfr ?_
                 exact ⟨rfl, bel⟩)
            · first
              | (exfalso; omega)
              | (refine E.opv hF (r_bin (hF.at 0 rfl) ev_c eg_scalar (bi_int (ic_gtr (c := false) (dec_ff hc45)) (by simp))) rfl rfl rfl rfl fun a hF => ?_
                 refine E.nil ?_
                 refine wp_cond_false (hF.at 0 rfl) ?_
                 refine wp_skip ?_
                 refine E.norm ?_
                 refine wp_seq ?_
                 refine E.seq ?_
                 refine E.opv hF (r_move (hF.at 11 rfl)) rfl rfl rfl rfl fun a hF => ?_
                 refine E.opv hF (r_bin (hF.at 0 rfl) ev_c eg_scalar (bi_int (ic_eql (c := false) (by decide)) (by simp))) rfl rfl rfl rfl fun a hF => ?_
                 refine E.opv hF (r_move (hF.at 0 rfl)) rfl rfl rfl rfl fun a hF => ?_
                 refine E.unwanted hF (wanted_by rfl rfl (hF.at 0 rfl) rfl) rfl rfl rfl fun a hF => ?_
                 refine E.unwanted hF (wanted_by rfl rfl (hF.at 1 rfl) rfl) rfl rfl rfl fun a hF => ?_
                 refine E.opv hF (r_pick_f (hF.at 2 rfl) ev_c) rfl rfl rfl rfl fun a hF => ?_
                 refine E.opv hF (r_move (hF.at 0 rfl)) rfl rfl rfl rfl fun a hF => ?_
                 refine E.unwanted hF (wanted_by rfl rfl (hF.at 0 rfl) rfl) rfl rfl rfl fun a hF => ?_
                 refine E.unwanted hF (wanted_by rfl rfl (hF.at 1 rfl) rfl) rfl rfl rfl fun a hF => ?_
                 refine E.unwanted hF (wanted_by rfl rfl (hF.at 2 rfl) rfl) rfl rfl rfl fun a hF => ?_
                 refine E.unwanted hF (wanted_by rfl rfl (hF.at 3 rfl) rfl) rfl rfl rfl fun a hF => ?_
                 refine E.unwanted hF (wanted_by rfl rfl (hF.at 4 rfl) rfl) rfl rfl rfl fun a hF => ?_
                 refine E.unwanted hF (wanted_by rfl rfl (hF.at 5 rfl) rfl) rfl rfl rfl fun a hF => ?_
                 refine E.unwanted hF (wanted_by rfl rfl (hF.at 6 rfl) rfl) rfl rfl rfl fun a hF => ?_
                 refine E.unwanted hF (wanted_by rfl rfl (hF.at 7 rfl) rfl) rfl rfl rfl fun a hF => ?_
                 refine E.unwanted hF (wanted_by rfl rfl (hF.at 8 rfl) rfl) rfl rfl rfl fun a hF => ?_
                 refine E.unwanted hF (wanted_by rfl rfl (hF.at 9 rfl) rfl) rfl rfl rfl fun a hF => ?_
                 refine E.opv hF (r_pick_f (hF.at 10 rfl) ev_c) rfl rfl rfl rfl fun a hF => ?_
                 refine E.opset (L' := [(2, .bool false), (48, .bool false), (47, undef), (46, undef), (45, undef), (44, undef), (43, undef), (42, undef), (41, undef), (40, undef), (39, undef), (38, undef), (37, .bool false), (36, .bool false), (35, undef), (34, undef), (33, .bool false), (32, .bool false), (31, .int .i64 2), (24, .bool false), (23, .int .i64 (vv3 + 1461)), (22, .int .i64 vv3), (6, .int .i64 2), (5, .pointer (some ⟨g5, 0, none⟩)), (21, .int .i64 2), (20, .agg #[.int .i64 0, .int .i64 0, .int .i64 0]), (16, .tuple #[.agg #[.int .i64 0, .int .i64 0, .int .i64 0], .int .i64 2]), (19, .tuple #[.agg #[.int .i64 0, .int .i64 0, .int .i64 0], .int .i64 2]), (18, .int .i64 (vv3 + 1461)), (17, .int .i64 vv3), (4, .int .i64 2), (3, .pointer (some ⟨g3, 0, none⟩)), (15, .int .i64 2), (14, .agg #[.int .i64 0, .int .i64 0, .int .i64 0]), (11, .tuple #[.agg #[.int .i64 0, .int .i64 0, .int .i64 0], .int .i64 2]), (13, .tuple #[.agg #[.int .i64 0, .int .i64 0, .int .i64 0], .int .i64 2]), (12, .int .i64 vv3), (0, .int .i64 vv3), (10, .int .i64 vv3), (9, .int .i64 n), (8, .bool false), (7, .bool true)]) hF (r_assign (hF.at 0 rfl)) rfl rfl rfl rfl fun a hF => ?_
                 refine E.nil ?_
                 refine wp_ret ?_
                 refine bodyPost_ret (res_tmp Tryd.results11 (hF.at 0 rfl)) hF.dfr ?_
                 exact ⟨rfl, bel⟩)))

set_option maxHeartbeats 1000000 in
theorem lfloorJ_any (n d : Int) (w : World) (hd : 0 < d) (hd1 : d ≤ 1000000) (hn0 : -1000000 ≤ n) (hn1 : n ≤ 1000000) :
    Calls Tryd.prog 35 #[.int .i64 n, .int .i64 d] w (ValPost w (.int .i64 (n / d))) := by
  have bel : Below w.heap.size w w := Below.refl _ _
  refine E.enter (nt := 18) (L := [(0, .int .i64 n), (1, .int .i64 d)]) Tryd.func35 rfl rfl rfl (args_cons (i := 0) rfl (args_cons (i := 1) rfl args_nil)) ?_
  intro a hF
  refine wp_seq ?_
  refine E.seq ?_
  refine E.opv hF (r_assign ev_c) rfl rfl rfl rfl fun a hF => ?_
  refine E.nil ?_
  refine wp_seq ?_
  refine wp_seq ?_
  refine E.seq ?_
  refine E.opv hF (r_move (hF.at 1 rfl)) rfl rfl rfl rfl fun a hF => ?_
  by_cases hc1 : 0 ≤ n
  · refine E.opv hF (r_bin (hF.at 0 rfl) ev_c eg_scalar (bi_int (ic_geq (c := true) (dec_tt hc1)) (by simp))) rfl rfl rfl rfl fun a hF => ?_
    refine E.nil ?_
    refine wp_cond_true (hF.at 0 rfl) ?_
    refine wp_seq ?_
    refine E.seq ?_
    refine E.opv hF (r_move (hF.at 3 rfl)) rfl rfl rfl rfl fun a hF => ?_
    refine E.opv hF (r_move (hF.at 5 rfl)) rfl rfl rfl rfl fun a hF => ?_
    refine E.opv hF (r_bin (hF.at 1 rfl) (hF.at 0 rfl) eg_scalar (id_quo (a := n) (b := d) hd (by omega) (by omega))) rfl rfl rfl rfl fun a hF => ?_
    refine E.opset (L' := [(4, .int .i64 (if 0 ≤ n then n / d else -(-n / d))), (9, .int .i64 (if 0 ≤ n then n / d else -(-n / d))), (8, .int .i64 d), (7, .int .i64 n), (6, .bool true), (5, .int .i64 n), (0, .int .i64 n), (1, .int .i64 d)]) hF (r_assign (hF.at 0 rfl)) rfl rfl rfl rfl fun a hF => ?_
    refine E.nil ?_
    refine wp_ret ?_
    refine bodyPost_ret (res_tmp Tryd.results35 (hF.at 0 rfl)) hF.dfr ?_
    refine ⟨rv_int ?_, bel⟩
    rw [if_pos (by omega)]
  · refine E.opv hF (r_bin (hF.at 0 rfl) ev_c eg_scalar (bi_int (ic_geq (c := false) (dec_ff hc1)) (by simp))) rfl rfl rfl rfl fun a hF => ?_
    refine E.nil ?_
    refine wp_cond_false (hF.at 0 rfl) ?_
    refine wp_skip ?_
    refine E.norm ?_
    refine wp_seq ?_
    refine E.seq ?_
    refine E.opv hF (r_move (hF.at 3 rfl)) rfl rfl rfl rfl fun a hF => ?_
    refine E.opv hF (r_un (hF.at 0 rfl) (bn_neg (by omega) (by omega))) rfl rfl rfl rfl fun a hF => ?_
    refine E.opv hF (r_move (hF.at 6 rfl)) rfl rfl rfl rfl fun a hF => ?_
    refine E.opv hF (r_bin (hF.at 1 rfl) (hF.at 0 rfl) eg_scalar (ia_add (by omega) (by omega))) rfl rfl rfl rfl fun a hF => ?_
    refine E.opv hF (r_bin (hF.at 0 rfl) ev_c eg_scalar (ia_sub (by omega) (by omega))) rfl rfl rfl rfl fun a hF => ?_
    refine E.opv hF (r_move (hF.at 9 rfl)) rfl rfl rfl rfl fun a hF => ?_
    refine E.opv hF (r_bin (hF.at 1 rfl) (hF.at 0 rfl) eg_scalar (id_quo (a := ((-n) + d) - 1) (b := d) hd (by omega) (by omega))) rfl rfl rfl rfl fun a hF => ?_
    refine E.opv hF (r_un (hF.at 0 rfl) (bn_neg (by rw [if_pos (by omega), fl_up hd]; exact (fl_in hd (by omega) (by omega)).1) (by rw [if_pos (by omega), fl_up hd]; exact (fl_in hd (by omega) (by omega)).2))) rfl rfl rfl rfl fun a hF => ?_
    refine E.opset (L' := [(4, .int .i64 (-(if 0 ≤ ((-n) + d) - 1 then (((-n) + d) - 1) / d else -(-(((-n) + d) - 1) / d)))), (17, .int .i64 (-(if 0 ≤ ((-n) + d) - 1 then (((-n) + d) - 1) / d else -(-(((-n) + d) - 1) / d)))), (16, .int .i64 (if 0 ≤ ((-n) + d) - 1 then (((-n) + d) - 1) / d else -(-(((-n) + d) - 1) / d))), (15, .int .i64 d), (14, .int .i64 (((-n) + d) - 1)), (13, .int .i64 ((-n) + d)), (12, .int .i64 d), (11, .int .i64 (-n)), (10, .int .i64 n), (6, .bool false), (5, .int .i64 n), (0, .int .i64 n), (1, .int .i64 d)]) hF (r_assign (hF.at 0 rfl)) rfl rfl rfl rfl fun a hF => ?_
    refine E.nil ?_
    refine wp_ret ?_
    refine bodyPost_ret (res_tmp Tryd.results35 (hF.at 0 rfl)) hF.dfr ?_
    refine ⟨rv_int ?_, bel⟩
    rw [if_pos (by omega)]; exact fl_up hd

set_option maxHeartbeats 8000000 in
theorem julianApart_walk (y : Int) (w : World) (hT : TabJ w) (hT2 : TabC w) :
    Calls Tryd.prog 12 #[.int .i64 y] w (ValPost w (.bool true)) := by
  have hy1 : -8000 < (if 0 ≤ y then y % 8000 else -(-y % 8000)) := by omega
  have hy2 : (if 0 ≤ y then y % 8000 else -(-y % 8000)) < 8000 := by omega
  have hmar := mar hy1 hy2
  have hb1 := firstC_bd (y := (if 0 ≤ y then y % 8000 else -(-y % 8000))) (by omega) (by omega)
  have hb2 := firstJ_bd (y := (if 0 ≤ y then y % 8000 else -(-y % 8000))) (by omega) (by omega)
  have hb3 := cum_bd (leapC (if 0 ≤ y then y % 8000 else -(-y % 8000))) (m := 3) (by omega) (by omega)
  have hb4 := cum_bd (leapJ (if 0 ≤ y then y % 8000 else -(-y % 8000))) (m := 3) (by omega) (by omega)
  have bel : Below w.heap.size w w := Below.refl _ _
  refine E.enter (nt := 41) (L := [(0, .int .i64 y)]) Tryd.func12 rfl rfl rfl (args_cons (i := 0) rfl args_nil) ?_
  intro a hF
  refine wp_seq ?_
  refine E.seq ?_
  refine E.opv hF (r_assign ev_c) rfl rfl rfl rfl fun a hF => ?_
  refine E.nil ?_
  refine wp_seq ?_
  refine wp_seq ?_
  refine E.seq ?_
  refine E.call hF (r_call Tryd.func25 en25.1 en25.2 map0) (awakeJ_any _ (hT.below bel)) rfl rfl rfl rfl ?_
  rintro e w1 ⟨rfl, bb⟩
  refine ⟨_, rfl, ?_⟩
  intro a hF
  replace bel := below_to bel bb
  clear bb
  refine E.opv hF (r_un (hF.at 0 rfl) (bn_not _ false rfl)) rfl rfl rfl rfl fun a hF => ?_
  refine E.nil ?_
  refine wp_cond_false (hF.at 0 rfl) ?_
  refine wp_skip ?_
  refine E.norm ?_
  refine wp_seq ?_
  refine E.seq ?_
  refine E.opv hF (r_move (hF.at 3 rfl)) rfl rfl rfl rfl fun a hF => ?_
  refine E.opv hF (r_bin (hF.at 0 rfl) ev_c eg_scalar (id_rem (a := y) (b := 8000) (by omega))) rfl rfl rfl rfl fun a hF => ?_
  refine E.opset (L' := [(0, .int .i64 (if 0 ≤ y then y % 8000 else -(-y % 8000))), (10, .int .i64 (if 0 ≤ y then y % 8000 else -(-y % 8000))), (9, .int .i64 y), (8, .bool false), (7, .bool true), (2, .bool false)]) hF (r_assign (hF.at 0 rfl)) rfl rfl rfl rfl fun a hF => ?_
  refine E.nil ?_
  refine wp_seq ?_
  refine E.seq ?_
  refine E.opv hF (r_move (hF.at 0 rfl)) rfl rfl rfl rfl fun a hF => ?_
  refine E.opv hF (r_build (pair3 (hF.at 0 rfl) ev_c ev_c) (bd_JDate_012 _ _ _ _)) rfl rfl rfl rfl fun a hF => ?_
  refine E.call hF (r_call Tryd.func28 en28.1 en28.2 (map1 (hF.at 0 rfl))) (cfixJ_any (if 0 ≤ y then y % 8000 else -(-y % 8000)) 3 1 _ (hT.below bel)) rfl rfl rfl rfl ?_
  rintro e w2 ⟨rfl, bb⟩
  refine ⟨_, rfl, ?_⟩
  intro a hF
  replace bel := below_to bel bb
  clear bb
  refine E.opv hF (r_move (hF.at 0 rfl)) rfl rfl rfl rfl fun a hF => ?_
  refine E.opv hF (r_extract (v := .int .i64 (fixN calJ (if 0 ≤ y then y % 8000 else -(-y % 8000)) 3 1)) (hF.at 0 rfl) rfl) rfl rfl rfl rfl fun a hF => ?_
  refine E.opv hF (r_extract (v := .int .i64 (fixE calJ (if 0 ≤ y then y % 8000 else -(-y % 8000)) 3 1)) (hF.at 1 rfl) rfl) rfl rfl rfl rfl fun a hF => ?_
  refine E.opv hF (r_assign (hF.at 1 rfl)) rfl rfl rfl rfl fun a hF => ?_
  refine E.opv hF (r_assign (hF.at 1 rfl)) rfl rfl rfl rfl fun a hF => ?_
  refine E.nil ?_
  refine wp_seq ?_
  refine E.seq ?_
  refine E.opv hF (r_move (hF.at 8 rfl)) rfl rfl rfl rfl fun a hF => ?_
  refine E.opv hF (r_build (pair3 (hF.at 0 rfl) ev_c ev_c) (bd_CDate_012 _ _ _ _)) rfl rfl rfl rfl fun a hF => ?_
  refine E.call hF (r_call Tryd.func17 en17.1 en17.2 (map1 (hF.at 0 rfl))) (cfixC_any (if 0 ≤ y then y % 8000 else -(-y % 8000)) 3 1 _ (hT2.below bel)) rfl rfl rfl rfl ?_
  rintro e w3 ⟨rfl, bb⟩
  refine ⟨_, rfl, ?_⟩
  intro a hF
  replace bel := below_to bel bb
  clear bb
  refine E.opv hF (r_move (hF.at 0 rfl)) rfl rfl rfl rfl fun a hF => ?_
  refine E.opv hF (r_extract (v := .int .i64 (fixN calC (if 0 ≤ y then y % 8000 else -(-y % 8000)) 3 1)) (hF.at 0 rfl) rfl) rfl rfl rfl rfl fun a hF => ?_
  refine E.opv hF (r_extract (v := .int .i64 (fixE calC (if 0 ≤ y then y % 8000 else -(-y % 8000)) 3 1)) (hF.at 1 rfl) rfl) rfl rfl rfl rfl fun a hF => ?_
  refine E.opv hF (r_assign (hF.at 1 rfl)) rfl rfl rfl rfl fun a hF => ?_
  refine E.opv hF (r_assign (hF.at 1 rfl)) rfl rfl rfl rfl fun a hF => ?_
  refine E.nil ?_
  refine wp_seq ?_
  refine E.seq ?_
  refine E.opv hF (r_move (hF.at 8 rfl)) rfl rfl rfl rfl fun a hF => ?_
  refine E.opv hF (r_bin (hF.at 0 rfl) ev_c eg_scalar (bi_int (ic_eql (c := true) (dec_tt hmar.2.2.2)) (by simp))) rfl rfl rfl rfl fun a hF => ?_
  refine E.opv hF (r_move (hF.at 0 rfl)) rfl rfl rfl rfl fun a hF => ?_
  refine E.opvg hF (r_move (hF.at 3 rfl)) (wanted_by rfl rfl (hF.at 0 rfl) rfl) rfl rfl rfl fun a hF => ?_
  refine E.opvg hF (r_bin (hF.at 0 rfl) ev_c eg_scalar (bi_int (ic_eql (c := true) (dec_tt hmar.2.1)) (by simp))) (wanted_by rfl rfl (hF.at 1 rfl) rfl) rfl rfl rfl fun a hF => ?_
  refine E.opv hF (r_pick_t (hF.at 2 rfl) (hF.at 0 rfl)) rfl rfl rfl rfl fun a hF => ?_
  refine E.opv hF (r_move (hF.at 0 rfl)) rfl rfl rfl rfl fun a hF => ?_
  refine E.opvg hF (r_move (hF.at 16 rfl)) (wanted_by rfl rfl (hF.at 0 rfl) rfl) rfl rfl rfl fun a hF => ?_
  refine E.opvg hF (r_move (hF.at 9 rfl)) (wanted_by rfl rfl (hF.at 1 rfl) rfl) rfl rfl rfl fun a hF => ?_
  refine E.opvg hF (r_bin (hF.at 1 rfl) (hF.at 0 rfl) eg_scalar (ia_sub (by omega) (by omega))) (wanted_by rfl rfl (hF.at 2 rfl) rfl) rfl rfl rfl fun a hF => ?_
  refine E.opvg hF (r_move (hF.at 26 rfl)) (wanted_by rfl rfl (hF.at 3 rfl) rfl) rfl rfl rfl fun a hF => ?_
  refine E.callg hF (r_call Tryd.func35 en35.1 en35.2 (map2 (hF.at 0 rfl) ev_c)) (lfloorJ_any (if 0 ≤ y then y % 8000 else -(-y % 8000)) 100 _ (by omega) (by omega) (by omega) (by omega)) (wanted_by rfl rfl (hF.at 4 rfl) rfl) rfl rfl rfl ?_
  rintro e w4 ⟨rfl, bb⟩
  refine ⟨_, rfl, ?_⟩
  intro a hF
  replace bel := below_to bel bb
  clear bb
  refine E.opvg hF (r_move (hF.at 28 rfl)) (wanted_by rfl rfl (hF.at 5 rfl) rfl) rfl rfl rfl fun a hF => ?_
  refine E.callg hF (r_call Tryd.func35 en35.1 en35.2 (map2 (hF.at 0 rfl) ev_c)) (lfloorJ_any (if 0 ≤ y then y % 8000 else -(-y % 8000)) 400 _ (by omega) (by omega) (by omega) (by omega)) (wanted_by rfl rfl (hF.at 6 rfl) rfl) rfl rfl rfl ?_
  rintro e w5 ⟨rfl, bb⟩
  refine ⟨_, rfl, ?_⟩
  intro a hF
  replace bel := below_to bel bb
  clear bb
  refine E.opvg hF (r_bin (hF.at 2 rfl) (hF.at 0 rfl) eg_scalar (ia_sub (by omega) (by omega))) (wanted_by rfl rfl (hF.at 7 rfl) rfl) rfl rfl rfl fun a hF => ?_
  refine E.opvg hF (r_bin (hF.at 0 rfl) ev_c eg_scalar (ia_sub (by omega) (by omega))) (wanted_by rfl rfl (hF.at 8 rfl) rfl) rfl rfl rfl fun a hF => ?_
  refine E.opvg hF (r_bin (hF.at 6 rfl) (hF.at 0 rfl) eg_scalar (bi_int (ic_eql (c := true) (dec_tt (apart hy1 hy2))) (by simp))) (wanted_by rfl rfl (hF.at 9 rfl) rfl) rfl rfl rfl fun a hF => ?_
  refine E.opv hF (r_pick_t (hF.at 10 rfl) (hF.at 0 rfl)) rfl rfl rfl rfl fun a hF => ?_
  refine E.opset (L' := [(2, .bool true), (40, .bool true), (39, .bool true), (38, .int .i64 ((((if 0 ≤ y then y % 8000 else -(-y % 8000)) / 100) - ((if 0 ≤ y then y % 8000 else -(-y % 8000)) / 400)) - 2)), (37, .int .i64 (((if 0 ≤ y then y % 8000 else -(-y % 8000)) / 100) - ((if 0 ≤ y then y % 8000 else -(-y % 8000)) / 400))), (36, .int .i64 ((if 0 ≤ y then y % 8000 else -(-y % 8000)) / 400)), (35, .int .i64 (if 0 ≤ y then y % 8000 else -(-y % 8000))), (34, .int .i64 ((if 0 ≤ y then y % 8000 else -(-y % 8000)) / 100)), (33, .int .i64 (if 0 ≤ y then y % 8000 else -(-y % 8000))), (32, .int .i64 ((fixN calJ (if 0 ≤ y then y % 8000 else -(-y % 8000)) 3 1) - (fixN calC (if 0 ≤ y then y % 8000 else -(-y % 8000)) 3 1))), (31, .int .i64 (fixN calC (if 0 ≤ y then y % 8000 else -(-y % 8000)) 3 1)), (30, .int .i64 (fixN calJ (if 0 ≤ y then y % 8000 else -(-y % 8000)) 3 1)), (29, .bool true), (28, .bool true), (27, .bool true), (26, .int .i64 (fixE calC (if 0 ≤ y then y % 8000 else -(-y % 8000)) 3 1)), (25, .bool true), (24, .bool true), (23, .int .i64 (fixE calJ (if 0 ≤ y then y % 8000 else -(-y % 8000)) 3 1)), (6, .int .i64 (fixE calC (if 0 ≤ y then y % 8000 else -(-y % 8000)) 3 1)), (5, .int .i64 (fixN calC (if 0 ≤ y then y % 8000 else -(-y % 8000)) 3 1)), (22, .int .i64 (fixE calC (if 0 ≤ y then y % 8000 else -(-y % 8000)) 3 1)), (21, .int .i64 (fixN calC (if 0 ≤ y then y % 8000 else -(-y % 8000)) 3 1)), (17, .tuple #[.int .i64 (fixN calC (if 0 ≤ y then y % 8000 else -(-y % 8000)) 3 1), .int .i64 (fixE calC (if 0 ≤ y then y % 8000 else -(-y % 8000)) 3 1)]), (20, .tuple #[.int .i64 (fixN calC (if 0 ≤ y then y % 8000 else -(-y % 8000)) 3 1), .int .i64 (fixE calC (if 0 ≤ y then y % 8000 else -(-y % 8000)) 3 1)]), (19, .agg #[.int .i64 (if 0 ≤ y then y % 8000 else -(-y % 8000)), .int .i64 3, .int .i64 1]), (18, .int .i64 (if 0 ≤ y then y % 8000 else -(-y % 8000))), (4, .int .i64 (fixE calJ (if 0 ≤ y then y % 8000 else -(-y % 8000)) 3 1)), (3, .int .i64 (fixN calJ (if 0 ≤ y then y % 8000 else -(-y % 8000)) 3 1)), (16, .int .i64 (fixE calJ (if 0 ≤ y then y % 8000 else -(-y % 8000)) 3 1)), (15, .int .i64 (fixN calJ (if 0 ≤ y then y % 8000 else -(-y % 8000)) 3 1)), (11, .tuple #[.int .i64 (fixN calJ (if 0 ≤ y then y % 8000 else -(-y % 8000)) 3 1), .int .i64 (fixE calJ (if 0 ≤ y then y % 8000 else -(-y % 8000)) 3 1)]), (14, .tuple #[.int .i64 (fixN calJ (if 0 ≤ y then y % 8000 else -(-y % 8000)) 3 1), .int .i64 (fixE calJ (if 0 ≤ y then y % 8000 else -(-y % 8000)) 3 1)]), (13, .agg #[.int .i64 (if 0 ≤ y then y % 8000 else -(-y % 8000)), .int .i64 3, .int .i64 1]), (12, .int .i64 (if 0 ≤ y then y % 8000 else -(-y % 8000))), (0, .int .i64 (if 0 ≤ y then y % 8000 else -(-y % 8000))), (10, .int .i64 (if 0 ≤ y then y % 8000 else -(-y % 8000))), (9, .int .i64 y), (8, .bool false), (7, .bool true)]) hF (r_assign (hF.at 0 rfl)) rfl rfl rfl rfl fun a hF => ?_
  refine E.nil ?_
  refine wp_ret ?_
  refine bodyPost_ret (res_tmp Tryd.results12 (hF.at 0 rfl)) hF.dfr ?_
  exact ⟨rfl, bel⟩

end Go.Proofs.YtcgbllbhagijjaaDoor
