/- DialWhere. -/
import Derived.Test.YteafnboehmfmiaaDoorDlC
namespace Go.Proofs.YteafnboehmfmiaaDoor
open Go.RowKit
set_option maxRecDepth 100000
set_option linter.unusedVariables false

set_option maxHeartbeats 8000000 in
theorem dialWhere_walk (x y : Int) (w : World) (hT : TabD w) :
    Calls Tryd.prog 6 #[.int .i64 x, .int .i64 y] w (ValPost w (.bool true)) := by
  obtain ⟨X, hX⟩ : ∃ X : Int, X = (if 0 ≤ x then x % 4000 else -(-x % 4000)) := ⟨_, rfl⟩
  obtain ⟨Y, hY⟩ : ∃ Y : Int, Y = (if 0 ≤ y then y % 4000 else -(-y % 4000)) := ⟨_, rfl⟩
  have hX1 : -4000 < X ∧ X < 4000 := by omega
  have hY1 : -4000 < Y ∧ Y < 4000 := by omega
  by_cases hk : ∃ k0 : Int, 0 ≤ k0 ∧ k0 < 96 ∧ spk (k0 + 24) = X ∧ spk k0 = Y
  · obtain ⟨k0, hk⟩ := hk
    have bel : Below w.heap.size w w := Below.refl _ _
    refine E.enter (nt := 58) (L := [(0, .int .i64 x), (1, .int .i64 y)]) Tryd.func6 rfl rfl rfl (args_cons (i := 0) rfl (args_cons (i := 1) rfl args_nil)) ?_
    intro a hF
    refine wp_seq ?_
    refine E.seq ?_
    refine E.opv hF (r_assign ev_c) rfl rfl rfl rfl fun a hF => ?_
    refine E.nil ?_
    refine wp_seq ?_
    refine wp_seq ?_
    refine E.seq ?_
    refine E.call hF (r_call Tryd.func11 en11.1 en11.2 map0) (awake9_any _ (hT.below bel)) rfl rfl rfl rfl ?_
    rintro e w1 ⟨rfl, bb⟩
    refine ⟨_, rfl, ?_⟩
    intro a hF
    replace bel := below_to bel bb
    clear bb
    refine E.opv hF (r_un (hF.at 0 rfl) (bn_not _ false rfl)) rfl rfl rfl rfl fun a hF => ?_
    refine E.nil ?_
    refine wp_cond_false (hF.at 0 rfl) ?_
    refine wp_skip ?_
    refine E.norm ?_
    refine wp_seq ?_
    refine E.seq ?_
    refine E.opv hF (r_move (hF.at 3 rfl)) rfl rfl rfl rfl fun a hF => ?_
    refine E.opv hF (r_bin (hF.at 0 rfl) ev_c eg_scalar (id_rem (a := x) (b := 4000) (by omega))) rfl rfl rfl rfl fun a hF => ?_
    refine E.opv hF (r_move (hF.at 6 rfl)) rfl rfl rfl rfl fun a hF => ?_
    refine E.opv hF (r_bin (hF.at 0 rfl) ev_c eg_scalar (id_rem (a := y) (b := 4000) (by omega))) rfl rfl rfl rfl fun a hF => ?_
    refine E.opset (L' := [(0, .int .i64 (if 0 ≤ x then x % 4000 else -(-x % 4000))), (13, .int .i64 (if 0 ≤ y then y % 4000 else -(-y % 4000))), (12, .int .i64 y), (11, .int .i64 (if 0 ≤ x then x % 4000 else -(-x % 4000))), (10, .int .i64 x), (9, .bool false), (8, .bool true), (4, .bool false), (1, .int .i64 y)]) hF (r_assign (hF.at 2 rfl)) rfl rfl rfl rfl fun a hF => ?_
    refine E.opset (L' := [(1, .int .i64 (if 0 ≤ y then y % 4000 else -(-y % 4000))), (0, .int .i64 (if 0 ≤ x then x % 4000 else -(-x % 4000))), (13, .int .i64 (if 0 ≤ y then y % 4000 else -(-y % 4000))), (12, .int .i64 y), (11, .int .i64 (if 0 ≤ x then x % 4000 else -(-x % 4000))), (10, .int .i64 x), (9, .bool false), (8, .bool true), (4, .bool false)]) hF (r_assign (hF.at 1 rfl)) rfl rfl rfl rfl fun a hF => ?_
    replace hF : Fr 58 a [(1, .int .i64 Y), (0, .int .i64 X), (4, .bool false)] := by rw [hX, hY]; exact Fr.sub hF (by intro p hp; simp only [List.mem_cons, List.not_mem_nil, or_false] at hp ⊢; rcases hp with rfl | rfl | rfl <;> simp)
    clear hX hY
    refine E.nil ?_
    refine wp_seq ?_
    refine E.seq ?_
    refine E.opv hF (r_move (hF.at 1 rfl)) rfl rfl rfl rfl fun a hF => ?_
    refine E.opv hF (r_conv (hF.at 0 rfl) (cv_if Tryd.underlying3 Tryd.underlying28)) rfl rfl rfl rfl fun a hF => ?_
    refine E.opv hF (r_move (hF.at 2 rfl)) rfl rfl rfl rfl fun a hF => ?_
    refine E.opv hF (r_conv (hF.at 0 rfl) (cv_if Tryd.underlying3 Tryd.underlying28)) rfl rfl rfl rfl fun a hF => ?_
    refine E.opv hF (r_builtin (map2 (hF.at 2 rfl) (hF.at 0 rfl)) cx_mk) rfl rfl rfl rfl fun a hF => ?_
    refine E.call hF (r_call Tryd.func13 en13.1 en13.2 (map1 (hF.at 0 rfl))) (where_yes _ _ (X) (Y) k0 _ (hT.below bel) (fI_of (by omega) (by omega)) (fI_of (by omega) (by omega)) hk.1 hk.2.1 hk.2.2) rfl rfl rfl rfl ?_
    rintro e w2 ⟨rfl, bb⟩
    refine ⟨_, rfl, ?_⟩
    intro a hF
    replace bel := below_to bel bb
    clear bb
    refine E.opv hF (r_move (hF.at 0 rfl)) rfl rfl rfl rfl fun a hF => ?_
    refine E.opv hF (r_extract (v := .int .i64 k0) (hF.at 0 rfl) rfl) rfl rfl rfl rfl fun a hF => ?_
    refine E.opv hF (r_extract (v := .bool true) (hF.at 1 rfl) rfl) rfl rfl rfl rfl fun a hF => ?_
    refine E.opv hF (r_assign (hF.at 1 rfl)) rfl rfl rfl rfl fun a hF => ?_
    refine E.opv hF (r_assign (hF.at 1 rfl)) rfl rfl rfl rfl fun a hF => ?_
    refine E.nil ?_
    refine wp_seq ?_
    refine wp_seq ?_
    refine E.seq ?_
    refine E.opv hF (r_move (hF.at 0 rfl)) rfl rfl rfl rfl fun a hF => ?_
    refine E.nil ?_
    refine wp_cond_true (hF.at 0 rfl) ?_
    refine wp_seq ?_
    refine E.seq ?_
    refine E.opv hF (r_move (hF.at 2 rfl)) rfl rfl rfl rfl fun a hF => ?_
    refine E.opv hF (r_bin (hF.at 0 rfl) ev_c eg_scalar (bi_int (ic_geq (c := true) (dec_tt hk.1)) (by simp))) rfl rfl rfl rfl fun a hF => ?_
    refine E.opv hF (r_move (hF.at 0 rfl)) rfl rfl rfl rfl fun a hF => ?_
    refine E.opvg hF (r_move (hF.at 5 rfl)) (wanted_by rfl rfl (hF.at 0 rfl) rfl) rfl rfl rfl fun a hF => ?_
    refine E.opvg hF (r_bin (hF.at 0 rfl) ev_c eg_scalar (bi_int (ic_lss (c := true) (dec_tt hk.2.1)) (by simp))) (wanted_by rfl rfl (hF.at 1 rfl) rfl) rfl rfl rfl fun a hF => ?_
    refine E.opv hF (r_pick_t (hF.at 2 rfl) (hF.at 0 rfl)) rfl rfl rfl rfl fun a hF => ?_
    refine E.opv hF (r_move (hF.at 0 rfl)) rfl rfl rfl rfl fun a hF => ?_
    refine E.opvg hF (r_move (hF.at 9 rfl)) (wanted_by rfl rfl (hF.at 0 rfl) rfl) rfl rfl rfl fun a hF => ?_
    refine E.callg hF (r_call Tryd.func17 en17.1 en17.2 (map1 (hF.at 0 rfl))) (rcos_any k0 _) (wanted_by rfl rfl (hF.at 1 rfl) rfl) rfl rfl rfl ?_
    rintro e w3 ⟨rfl, bb⟩
    refine ⟨_, rfl, ?_⟩
    intro a hF
    replace bel := below_to bel bb
    clear bb
    refine E.opvg hF (r_move (hF.at 22 rfl)) (wanted_by rfl rfl (hF.at 2 rfl) rfl) rfl rfl rfl fun a hF => ?_
    refine E.opvg hF (r_bin (hF.at 1 rfl) (hF.at 0 rfl) eg_scalar (bi_int (ic_eql (c := true) (dec_tt hk.2.2.1)) (by simp))) (wanted_by rfl rfl (hF.at 3 rfl) rfl) rfl rfl rfl fun a hF => ?_
    refine E.opv hF (r_pick_t (hF.at 4 rfl) (hF.at 0 rfl)) rfl rfl rfl rfl fun a hF => ?_
    refine E.opv hF (r_move (hF.at 0 rfl)) rfl rfl rfl rfl fun a hF => ?_
    refine E.opvg hF (r_move (hF.at 15 rfl)) (wanted_by rfl rfl (hF.at 0 rfl) rfl) rfl rfl rfl fun a hF => ?_
    refine E.callg hF (r_call Tryd.func15 en15.1 en15.2 (map1 (hF.at 0 rfl))) (rsine_any k0 _) (wanted_by rfl rfl (hF.at 1 rfl) rfl) rfl rfl rfl ?_
    rintro e w4 ⟨rfl, bb⟩
    refine ⟨_, rfl, ?_⟩
    intro a hF
    replace bel := below_to bel bb
    clear bb
    refine E.opvg hF (r_move (hF.at 27 rfl)) (wanted_by rfl rfl (hF.at 2 rfl) rfl) rfl rfl rfl fun a hF => ?_
    refine E.opvg hF (r_bin (hF.at 1 rfl) (hF.at 0 rfl) eg_scalar (bi_int (ic_eql (c := true) (dec_tt hk.2.2.2)) (by simp))) (wanted_by rfl rfl (hF.at 3 rfl) rfl) rfl rfl rfl fun a hF => ?_
    refine E.opv hF (r_pick_t (hF.at 4 rfl) (hF.at 0 rfl)) rfl rfl rfl rfl fun a hF => ?_
    refine E.opset (L' := [(4, .bool true), (41, .bool true), (40, .bool true), (39, .int .i64 Y), (38, .int .i64 (spk k0)), (37, .int .i64 k0), (36, .bool true), (35, .bool true), (34, .bool true), (33, .int .i64 X), (32, .int .i64 (spk (k0 + 24))), (31, .int .i64 k0), (30, .bool true), (29, .bool true), (28, .bool true), (27, .int .i64 k0), (26, .bool true), (25, .bool true), (24, .int .i64 k0), (23, .bool true), (6, .bool true), (5, .int .i64 k0), (22, .bool true), (21, .int .i64 k0), (14, .tuple #[.int .i64 k0, .bool true]), (20, .tuple #[.int .i64 k0, .bool true]), (19, .complex .f64 (fI X) (fI Y)), (18, .float .f64 (fI Y)), (17, .int .i64 Y), (16, .float .f64 (fI X)), (15, .int .i64 X), (1, .int .i64 Y), (0, .int .i64 X)]) hF (r_assign (hF.at 0 rfl)) rfl rfl rfl rfl fun a hF => ?_
    refine E.nil ?_
    refine wp_ret ?_
    refine bodyPost_ret (res_tmp Tryd.results6 (hF.at 0 rfl)) hF.dfr ?_
    exact ⟨rfl, bel⟩
  · have bel : Below w.heap.size w w := Below.refl _ _
    refine E.enter (nt := 58) (L := [(0, .int .i64 x), (1, .int .i64 y)]) Tryd.func6 rfl rfl rfl (args_cons (i := 0) rfl (args_cons (i := 1) rfl args_nil)) ?_
    intro a hF
    refine wp_seq ?_
    refine E.seq ?_
    refine E.opv hF (r_assign ev_c) rfl rfl rfl rfl fun a hF => ?_
    refine E.nil ?_
    refine wp_seq ?_
    refine wp_seq ?_
    refine E.seq ?_
    refine E.call hF (r_call Tryd.func11 en11.1 en11.2 map0) (awake9_any _ (hT.below bel)) rfl rfl rfl rfl ?_
    rintro e w1 ⟨rfl, bb⟩
    refine ⟨_, rfl, ?_⟩
    intro a hF
    replace bel := below_to bel bb
    clear bb
    refine E.opv hF (r_un (hF.at 0 rfl) (bn_not _ false rfl)) rfl rfl rfl rfl fun a hF => ?_
    refine E.nil ?_
    refine wp_cond_false (hF.at 0 rfl) ?_
    refine wp_skip ?_
    refine E.norm ?_
    refine wp_seq ?_
    refine E.seq ?_
    refine E.opv hF (r_move (hF.at 3 rfl)) rfl rfl rfl rfl fun a hF => ?_
    refine E.opv hF (r_bin (hF.at 0 rfl) ev_c eg_scalar (id_rem (a := x) (b := 4000) (by omega))) rfl rfl rfl rfl fun a hF => ?_
    refine E.opv hF (r_move (hF.at 6 rfl)) rfl rfl rfl rfl fun a hF => ?_
    refine E.opv hF (r_bin (hF.at 0 rfl) ev_c eg_scalar (id_rem (a := y) (b := 4000) (by omega))) rfl rfl rfl rfl fun a hF => ?_
    refine E.opset (L' := [(0, .int .i64 (if 0 ≤ x then x % 4000 else -(-x % 4000))), (13, .int .i64 (if 0 ≤ y then y % 4000 else -(-y % 4000))), (12, .int .i64 y), (11, .int .i64 (if 0 ≤ x then x % 4000 else -(-x % 4000))), (10, .int .i64 x), (9, .bool false), (8, .bool true), (4, .bool false), (1, .int .i64 y)]) hF (r_assign (hF.at 2 rfl)) rfl rfl rfl rfl fun a hF => ?_
    refine E.opset (L' := [(1, .int .i64 (if 0 ≤ y then y % 4000 else -(-y % 4000))), (0, .int .i64 (if 0 ≤ x then x % 4000 else -(-x % 4000))), (13, .int .i64 (if 0 ≤ y then y % 4000 else -(-y % 4000))), (12, .int .i64 y), (11, .int .i64 (if 0 ≤ x then x % 4000 else -(-x % 4000))), (10, .int .i64 x), (9, .bool false), (8, .bool true), (4, .bool false)]) hF (r_assign (hF.at 1 rfl)) rfl rfl rfl rfl fun a hF => ?_
    replace hF : Fr 58 a [(1, .int .i64 Y), (0, .int .i64 X), (4, .bool false)] := by rw [hX, hY]; exact Fr.sub hF (by intro p hp; simp only [List.mem_cons, List.not_mem_nil, or_false] at hp ⊢; rcases hp with rfl | rfl | rfl <;> simp)
    clear hX hY
    refine E.nil ?_
    refine wp_seq ?_
    refine E.seq ?_
    refine E.opv hF (r_move (hF.at 1 rfl)) rfl rfl rfl rfl fun a hF => ?_
    refine E.opv hF (r_conv (hF.at 0 rfl) (cv_if Tryd.underlying3 Tryd.underlying28)) rfl rfl rfl rfl fun a hF => ?_
    refine E.opv hF (r_move (hF.at 2 rfl)) rfl rfl rfl rfl fun a hF => ?_
    refine E.opv hF (r_conv (hF.at 0 rfl) (cv_if Tryd.underlying3 Tryd.underlying28)) rfl rfl rfl rfl fun a hF => ?_
    refine E.opv hF (r_builtin (map2 (hF.at 2 rfl) (hF.at 0 rfl)) cx_mk) rfl rfl rfl rfl fun a hF => ?_
    refine E.call hF (r_call Tryd.func13 en13.1 en13.2 (map1 (hF.at 0 rfl))) (where_no _ _ X Y _ (hT.below bel) (fI_of (by omega) (by omega)) (fI_of (by omega) (by omega)) (fun k a b c => hk ⟨k, a, b, c⟩)) rfl rfl rfl rfl ?_
    rintro e w2 ⟨rfl, bb⟩
    refine ⟨_, rfl, ?_⟩
    intro a hF
    replace bel := below_to bel bb
    clear bb
    refine E.opv hF (r_move (hF.at 0 rfl)) rfl rfl rfl rfl fun a hF => ?_
    refine E.opv hF (r_extract (v := .int .i64 0) (hF.at 0 rfl) rfl) rfl rfl rfl rfl fun a hF => ?_
    refine E.opv hF (r_extract (v := .bool false) (hF.at 1 rfl) rfl) rfl rfl rfl rfl fun a hF => ?_
    refine E.opv hF (r_assign (hF.at 1 rfl)) rfl rfl rfl rfl fun a hF => ?_
    refine E.opv hF (r_assign (hF.at 1 rfl)) rfl rfl rfl rfl fun a hF => ?_
    refine E.nil ?_
    refine wp_seq ?_
    refine wp_seq ?_
    refine E.seq ?_
    refine E.opv hF (r_move (hF.at 0 rfl)) rfl rfl rfl rfl fun a hF => ?_
    refine E.nil ?_
    refine wp_cond_false (hF.at 0 rfl) ?_
    refine wp_skip ?_
    refine E.norm ?_
    refine wp_seq ?_
    refine wp_seq ?_
    refine E.seq ?_
    refine E.opv hF (r_assign ev_c) rfl rfl rfl rfl fun a hF => ?_
    refine E.nil ?_
    refine wp_block ?_
    refine E.loop (fun mq a wv => ∃ (j : Int), 0 ≤ j ∧ j ≤ 96 ∧ Fr 58 a [(7, .int .i64 j), (5, .int .i64 0), (1, .int .i64 Y), (0, .int .i64 X)] ∧ Below w2.heap.size w2 wv ∧ Below w.heap.size w wv ∧ mq = (96 - j).toNat) ((96 - 0 : Int).toNat) ?_ ?_
    · exact ⟨0, (by omega), (by omega), Fr.sub (L' := [(7, .int .i64 0), (5, .int .i64 0), (1, .int .i64 Y), (0, .int .i64 X)]) hF (by intro p hp; simp only [List.mem_cons, List.not_mem_nil, or_false] at hp ⊢; rcases hp with rfl | rfl | rfl | rfl <;> simp), Below.refl _ _, bel, rfl⟩
    · rintro mq a w3 ⟨j, hj0, hj1, hF, sty, bel, hm⟩
      by_cases hjn : j < 96
      · refine wp_seq ?_
        refine wp_seq ?_
        refine E.seq ?_
        refine E.opv hF (r_move (hF.at 0 rfl)) rfl rfl rfl rfl fun a hF => ?_
        refine E.opv hF (r_bin (hF.at 0 rfl) ev_c eg_scalar (bi_int (ic_lss (c := true) (dec_tt hjn)) (by simp))) rfl rfl rfl rfl fun a hF => ?_
        refine E.nil ?_
        refine wp_cond_true (hF.at 0 rfl) ?_
        refine wp_skip ?_
        refine E.norm ?_
        refine wp_seq ?_
        refine wp_block ?_
        refine wp_seq ?_
        refine E.seq ?_
        refine E.opv hF (r_move (hF.at 2 rfl)) rfl rfl rfl rfl fun a hF => ?_
        refine E.call hF (r_call Tryd.func17 en17.1 en17.2 (map1 (hF.at 0 rfl))) (rcos_any j _) rfl rfl rfl rfl ?_
        rintro e w4 ⟨rfl, bb⟩
        refine ⟨_, rfl, ?_⟩
        intro a hF
        replace bel := below_to bel bb
        replace sty := below_to sty bb
        clear bb
        refine E.opv hF (r_move (hF.at 7 rfl)) rfl rfl rfl rfl fun a hF => ?_
        by_cases hc5 : spk (j + 24) = X
        · refine E.opv hF (r_bin (hF.at 1 rfl) (hF.at 0 rfl) eg_scalar (bi_int (ic_eql (c := true) (dec_tt hc5)) (by simp))) rfl rfl rfl rfl fun a hF => ?_
          refine E.opv hF (r_move (hF.at 0 rfl)) rfl rfl rfl rfl fun a hF => ?_
          refine E.opvg hF (r_move (hF.at 7 rfl)) (wanted_by rfl rfl (hF.at 0 rfl) rfl) rfl rfl rfl fun a hF => ?_
          refine E.callg hF (r_call Tryd.func15 en15.1 en15.2 (map1 (hF.at 0 rfl))) (rsine_any j _) (wanted_by rfl rfl (hF.at 1 rfl) rfl) rfl rfl rfl ?_
          rintro e w6 ⟨rfl, bb⟩
          refine ⟨_, rfl, ?_⟩
          intro a hF
          replace bel := below_to bel bb
          replace sty := below_to sty bb
          clear bb
          refine E.opvg hF (r_move (hF.at 11 rfl)) (wanted_by rfl rfl (hF.at 2 rfl) rfl) rfl rfl rfl fun a hF => ?_
          by_cases hc7 : spk j = Y
          · refine E.opvg hF (r_bin (hF.at 1 rfl) (hF.at 0 rfl) eg_scalar (bi_int (ic_eql (c := true) (dec_tt hc7)) (by simp))) (wanted_by rfl rfl (hF.at 3 rfl) rfl) rfl rfl rfl fun a hF => ?_
            refine E.opv hF (r_pick_t (hF.at 4 rfl) (hF.at 0 rfl)) rfl rfl rfl rfl fun a hF => ?_
            refine E.nil ?_
            refine wp_cond_true (hF.at 0 rfl) ?_
            refine wp_seq ?_
            refine E.seq ?_
            refine E.opv hF (r_assign ev_c) rfl rfl rfl rfl fun a hF => ?_
            refine E.nil ?_
            refine wp_ret ?_
            refine bodyPost_ret (res_tmp Tryd.results6 (hF.at 0 rfl)) hF.dfr ?_
            exact absurd ⟨j, hj0, hjn, hc5, hc7⟩ hk
          · refine E.opvg hF (r_bin (hF.at 1 rfl) (hF.at 0 rfl) eg_scalar (bi_int (ic_eql (c := false) (dec_ff hc7)) (by simp))) (wanted_by rfl rfl (hF.at 3 rfl) rfl) rfl rfl rfl fun a hF => ?_
            refine E.opv hF (r_pick_t (hF.at 4 rfl) (hF.at 0 rfl)) rfl rfl rfl rfl fun a hF => ?_
            refine E.nil ?_
            refine wp_cond_false (hF.at 0 rfl) ?_
            refine wp_skip ?_
            refine E.blk ?_
            refine E.norm ?_
            refine E.seq ?_
            refine E.opv hF (r_move (hF.at 12 rfl)) rfl rfl rfl rfl fun a hF => ?_
            refine E.opv hF (r_bin (hF.at 0 rfl) ev_c eg_scalar (ia_add (by omega) (by omega))) rfl rfl rfl rfl fun a hF => ?_
            refine E.opset (L' := [(7, .int .i64 (j + 1)), (45, .int .i64 (j + 1)), (44, .int .i64 j), (55, .bool false), (54, .bool false), (53, .int .i64 Y), (52, .int .i64 (spk j)), (51, .int .i64 j), (50, .bool true), (49, .bool true), (48, .int .i64 X), (47, .int .i64 (spk (j + 24))), (46, .int .i64 j), (43, .bool true), (42, .int .i64 j), (5, .int .i64 0), (1, .int .i64 Y), (0, .int .i64 X)]) hF (r_assign (hF.at 0 rfl)) rfl rfl rfl rfl fun a hF => ?_
            refine E.nil0 ?_
            refine E.norm ?_
            exact ⟨(96 - (j + 1)).toNat, by omega, ⟨(j + 1), (by omega), (by omega), Fr.sub (L' := [(7, .int .i64 (j + 1)), (5, .int .i64 0), (1, .int .i64 Y), (0, .int .i64 X)]) hF (by intro p hp; simp only [List.mem_cons, List.not_mem_nil, or_false] at hp ⊢; rcases hp with rfl | rfl | rfl | rfl <;> simp), sty, bel, rfl⟩⟩
        · refine E.opv hF (r_bin (hF.at 1 rfl) (hF.at 0 rfl) eg_scalar (bi_int (ic_eql (c := false) (dec_ff hc5)) (by simp))) rfl rfl rfl rfl fun a hF => ?_
          refine E.opv hF (r_move (hF.at 0 rfl)) rfl rfl rfl rfl fun a hF => ?_
          refine E.unwanted hF (wanted_by rfl rfl (hF.at 0 rfl) rfl) rfl rfl rfl fun a hF => ?_
          refine E.unwanted hF (wanted_by rfl rfl (hF.at 1 rfl) rfl) rfl rfl rfl fun a hF => ?_
          refine E.unwanted hF (wanted_by rfl rfl (hF.at 2 rfl) rfl) rfl rfl rfl fun a hF => ?_
          refine E.unwanted hF (wanted_by rfl rfl (hF.at 3 rfl) rfl) rfl rfl rfl fun a hF => ?_
          refine E.opv hF (r_pick_f (hF.at 4 rfl) ev_c) rfl rfl rfl rfl fun a hF => ?_
          refine E.nil ?_
          refine wp_cond_false (hF.at 0 rfl) ?_
          refine wp_skip ?_
          refine E.blk ?_
          refine E.norm ?_
          refine E.seq ?_
          refine E.opv hF (r_move (hF.at 12 rfl)) rfl rfl rfl rfl fun a hF => ?_
          refine E.opv hF (r_bin (hF.at 0 rfl) ev_c eg_scalar (ia_add (by omega) (by omega))) rfl rfl rfl rfl fun a hF => ?_
          refine E.opset (L' := [(7, .int .i64 (j + 1)), (45, .int .i64 (j + 1)), (44, .int .i64 j), (55, .bool false), (54, undef), (53, undef), (52, undef), (51, undef), (50, .bool false), (49, .bool false), (48, .int .i64 X), (47, .int .i64 (spk (j + 24))), (46, .int .i64 j), (43, .bool true), (42, .int .i64 j), (5, .int .i64 0), (1, .int .i64 Y), (0, .int .i64 X)]) hF (r_assign (hF.at 0 rfl)) rfl rfl rfl rfl fun a hF => ?_
          refine E.nil0 ?_
          refine E.norm ?_
          exact ⟨(96 - (j + 1)).toNat, by omega, ⟨(j + 1), (by omega), (by omega), Fr.sub (L' := [(7, .int .i64 (j + 1)), (5, .int .i64 0), (1, .int .i64 Y), (0, .int .i64 X)]) hF (by intro p hp; simp only [List.mem_cons, List.not_mem_nil, or_false] at hp ⊢; rcases hp with rfl | rfl | rfl | rfl <;> simp), sty, bel, rfl⟩⟩
      · refine wp_seq ?_
        refine wp_seq ?_
        refine E.seq ?_
        refine E.opv hF (r_move (hF.at 0 rfl)) rfl rfl rfl rfl fun a hF => ?_
        refine E.opv hF (r_bin (hF.at 0 rfl) ev_c eg_scalar (bi_int (ic_lss (c := false) (dec_ff hjn)) (by simp))) rfl rfl rfl rfl fun a hF => ?_
        refine E.nil ?_
        refine wp_cond_false (hF.at 0 rfl) ?_
        refine wp_exit ?_
        refine E.past ?_
        refine E.past ?_
        refine E.out (id := 0) ?_
        refine E.norm ?_
        refine wp_seq ?_
        refine E.seq ?_
        refine E.opv hF (r_move (hF.at 3 rfl)) rfl rfl rfl rfl fun a hF => ?_
        refine E.opv hF (r_bin (hF.at 0 rfl) ev_c eg_scalar (bi_int (ic_eql (c := true) (by decide)) (by simp))) rfl rfl rfl rfl fun a hF => ?_
        refine E.opv hF (r_assign (hF.at 0 rfl)) rfl rfl rfl rfl fun a hF => ?_
        refine E.nil ?_
        refine wp_ret ?_
        refine bodyPost_ret (res_tmp Tryd.results6 (hF.at 0 rfl)) hF.dfr ?_
        exact ⟨rfl, bel⟩

end Go.Proofs.YteafnboehmfmiaaDoor
