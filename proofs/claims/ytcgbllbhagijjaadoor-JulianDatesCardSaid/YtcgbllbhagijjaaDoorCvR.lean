/- civil: the document's answers. -/
import Derived.Test.YtcgbllbhagijjaaDoorCvA
namespace Go.Proofs.YtcgbllbhagijjaaDoor
open Go.RowKit
set_option maxRecDepth 100000
set_option linter.unusedVariables false

theorem bs_lens (w : World) : ∃ g w', (Instr.buildSlice 49 12 #[(0, .int .i64 31), (1, .int .i64 28), (2, .int .i64 31), (3, .int .i64 30), (4, .int .i64 31), (5, .int .i64 30), (6, .int .i64 31), (7, .int .i64 31), (8, .int .i64 30), (9, .int .i64 31), (10, .int .i64 30), (11, .int .i64 31)]).run Tryd.prog w = .ok (.slice (some ⟨g, 0, none⟩) 12 12) w' ∧ Below w.heap.size w w' ∧ Blk w' g (lensC.map fun z => .int .i64 z) := by
  have hb := blk_new (w := w) (cs := lensC.map fun z => .int .i64 z) 3
  refine ⟨w.heap.size, w.alloc (.cells (lensC.map fun z => .int .i64 z).toArray 3), ?_, hb.2, hb.1⟩
  have hs := size_run (P := Tryd.prog) (T := 3) (n := 1) (by kernel_rfl) w
  simp [Instr.buildSlice, go_sem, hs, Instr.fill, Value.cells, newRow, lensC]
theorem ix_ints {w : World} {g n c : Nat} {i : Int} (h0 : 0 ≤ i) (h1 : i < n) : (Instr.indexAt 49 (.slice (some ⟨g, 0, none⟩) n c) (.int .i64 i)).run Tryd.prog w = .ok (.pointer (some ⟨g, i.toNat, none⟩)) w := by
  simp [Instr.indexAt, asIntOf, run_underlying Tryd.underlying49, Sem.run_bind, h0, h1, Addr.add_mid]
theorem lens_at' {m : Int} (h1 : 1 ≤ m) (h2 : m ≤ 12) : (lensC.map fun z => Value.int .i64 z)[(m - 1).toNat]? = some (.int .i64 (mlen false m)) := by
  rcases months h1 h2 with rfl | rfl | rfl | rfl | rfl | rfl | rfl | rfl | rfl | rfl | rfl | rfl <;> rfl
theorem pairs12 {a : Act} {x0 x1 x2 x3 x4 x5 x6 x7 x8 x9 x10 x11 : Value} : (#[(0, Operand.const x0), (1, Operand.const x1), (2, Operand.const x2), (3, Operand.const x3), (4, Operand.const x4), (5, Operand.const x5), (6, Operand.const x6), (7, Operand.const x7), (8, Operand.const x8), (9, Operand.const x9), (10, Operand.const x10), (11, Operand.const x11)].map fun (p : Nat × Operand) => (p.1, a.eval p.2)) = #[(0, x0), (1, x1), (2, x2), (3, x3), (4, x4), (5, x5), (6, x6), (7, x7), (8, x8), (9, x9), (10, x10), (11, x11)] := by simp [Act.eval]
set_option maxHeartbeats 1000000 in
theorem dleapC_any (y : Int) (w : World) :
    Calls Tryd.prog 19 #[.int .i64 y] w (ValPost w (.bool (leapC y))) := by
  have bel : Below w.heap.size w w := Below.refl _ _
  refine E.enter (nt := 16) (L := [(0, .int .i64 y)]) Tryd.func19 rfl rfl rfl (args_cons (i := 0) rfl args_nil) ?_
  intro a hF
  refine wp_seq ?_
  refine E.seq ?_
  refine E.opv hF (r_assign ev_c) rfl rfl rfl rfl fun a hF => ?_
  refine E.nil ?_
  refine wp_seq ?_
  refine E.seq ?_
  refine E.opv hF (r_move (hF.at 1 rfl)) rfl rfl rfl rfl fun a hF => ?_
  refine E.opv hF (r_bin (hF.at 0 rfl) ev_c eg_scalar (id_rem (a := y) (b := 400) (by omega))) rfl rfl rfl rfl fun a hF => ?_
  by_cases hc1 : (if 0 ≤ y then y % 400 else -(-y % 400)) = 0
  · first
    | (exfalso; omega)
    | (refine E.opv hF (r_bin (hF.at 0 rfl) ev_c eg_scalar (bi_int (ic_eql (c := true) (dec_tt hc1)) (by simp))) rfl rfl rfl rfl fun a hF => ?_
       refine E.opv hF (r_move (hF.at 0 rfl)) rfl rfl rfl rfl fun a hF => ?_
       refine E.unwanted hF (wanted_by rfl rfl (hF.at 0 rfl) rfl) rfl rfl rfl fun a hF => ?_
       refine E.unwanted hF (wanted_by rfl rfl (hF.at 1 rfl) rfl) rfl rfl rfl fun a hF => ?_
       refine E.unwanted hF (wanted_by rfl rfl (hF.at 2 rfl) rfl) rfl rfl rfl fun a hF => ?_
       refine E.unwanted hF (wanted_by rfl rfl (hF.at 3 rfl) rfl) rfl rfl rfl fun a hF => ?_
       refine E.unwanted hF (wanted_undef rfl rfl (hF.at 0 rfl)) rfl rfl rfl fun a hF => ?_
       refine E.unwanted hF (wanted_undef rfl rfl (hF.at 1 rfl)) rfl rfl rfl fun a hF => ?_
       refine E.unwanted hF (wanted_undef rfl rfl (hF.at 2 rfl)) rfl rfl rfl fun a hF => ?_
       refine E.unwanted hF (wanted_by rfl rfl (hF.at 7 rfl) rfl) rfl rfl rfl fun a hF => ?_
       refine E.opv hF (r_pick_t (hF.at 8 rfl) ev_c) rfl rfl rfl rfl fun a hF => ?_
       refine E.opset (L' := [(2, .bool true), (15, .bool true), (14, undef), (13, undef), (12, undef), (11, undef), (10, undef), (9, undef), (8, undef), (7, undef), (6, .bool true), (5, .bool true), (4, .int .i64 (if 0 ≤ y then y % 400 else -(-y % 400))), (3, .int .i64 y), (0, .int .i64 y)]) hF (r_assign (hF.at 0 rfl)) rfl rfl rfl rfl fun a hF => ?_
       refine E.nil ?_
       refine wp_ret ?_
       refine bodyPost_ret (res_tmp Tryd.results19 (hF.at 0 rfl)) hF.dfr ?_
       refine ⟨rv_bool ?_, bel⟩
       exact (decide_eq_true (by omega)).symm)
  · first
    | (exfalso; omega)
    | (refine E.opv hF (r_bin (hF.at 0 rfl) ev_c eg_scalar (bi_int (ic_eql (c := false) (dec_ff hc1)) (by simp))) rfl rfl rfl rfl fun a hF => ?_
       refine E.opv hF (r_move (hF.at 0 rfl)) rfl rfl rfl rfl fun a hF => ?_
       refine E.opvg hF (r_move (hF.at 5 rfl)) (wanted_by rfl rfl (hF.at 0 rfl) rfl) rfl rfl rfl fun a hF => ?_
       refine E.opvg hF (r_bin (hF.at 0 rfl) ev_c eg_scalar (id_rem (a := y) (b := 4) (by omega))) (wanted_by rfl rfl (hF.at 1 rfl) rfl) rfl rfl rfl fun a hF => ?_
       by_cases hc2 : (if 0 ≤ y then y % 4 else -(-y % 4)) = 0
       · first
         | (exfalso; omega)
         | (refine E.opvg hF (r_bin (hF.at 0 rfl) ev_c eg_scalar (bi_int (ic_eql (c := true) (dec_tt hc2)) (by simp))) (wanted_by rfl rfl (hF.at 2 rfl) rfl) rfl rfl rfl fun a hF => ?_
            refine E.opvg hF (r_move (hF.at 0 rfl)) (wanted_by rfl rfl (hF.at 3 rfl) rfl) rfl rfl rfl fun a hF => ?_
            refine E.opvg hF (r_move (hF.at 9 rfl)) (wanted_by rfl rfl (hF.at 0 rfl) rfl) rfl rfl rfl fun a hF => ?_
            refine E.opvg hF (r_bin (hF.at 0 rfl) ev_c eg_scalar (id_rem (a := y) (b := 100) (by omega))) (wanted_by rfl rfl (hF.at 1 rfl) rfl) rfl rfl rfl fun a hF => ?_
            by_cases hc3 : (if 0 ≤ y then y % 100 else -(-y % 100)) ≠ 0
            · first
              | (exfalso; omega)
              | (refine E.opvg hF (r_bin (hF.at 0 rfl) ev_c eg_scalar (bi_int (ic_neq (c := true) (dec_tt hc3)) (by simp))) (wanted_by rfl rfl (hF.at 2 rfl) rfl) rfl rfl rfl fun a hF => ?_
                 refine E.opvg hF (r_pick_t (hF.at 3 rfl) (hF.at 0 rfl)) (wanted_by rfl rfl (hF.at 7 rfl) rfl) rfl rfl rfl fun a hF => ?_
                 refine E.opv hF (r_pick_f (hF.at 8 rfl) (hF.at 0 rfl)) rfl rfl rfl rfl fun a hF => ?_
                 refine E.opset (L' := [(2, .bool true), (15, .bool true), (14, .bool true), (13, .bool true), (12, .int .i64 (if 0 ≤ y then y % 100 else -(-y % 100))), (11, .int .i64 y), (10, .bool true), (9, .bool true), (8, .int .i64 (if 0 ≤ y then y % 4 else -(-y % 4))), (7, .int .i64 y), (6, .bool false), (5, .bool false), (4, .int .i64 (if 0 ≤ y then y % 400 else -(-y % 400))), (3, .int .i64 y), (0, .int .i64 y)]) hF (r_assign (hF.at 0 rfl)) rfl rfl rfl rfl fun a hF => ?_
                 refine E.nil ?_
                 refine wp_ret ?_
                 refine bodyPost_ret (res_tmp Tryd.results19 (hF.at 0 rfl)) hF.dfr ?_
                 refine ⟨rv_bool ?_, bel⟩
                 exact (decide_eq_true (by omega)).symm)
            · first
              | (exfalso; omega)
              | (refine E.opvg hF (r_bin (hF.at 0 rfl) ev_c eg_scalar (bi_int (ic_neq (c := false) (dec_ff hc3)) (by simp))) (wanted_by rfl rfl (hF.at 2 rfl) rfl) rfl rfl rfl fun a hF => ?_
                 refine E.opvg hF (r_pick_t (hF.at 3 rfl) (hF.at 0 rfl)) (wanted_by rfl rfl (hF.at 7 rfl) rfl) rfl rfl rfl fun a hF => ?_
                 refine E.opv hF (r_pick_f (hF.at 8 rfl) (hF.at 0 rfl)) rfl rfl rfl rfl fun a hF => ?_
                 refine E.opset (L' := [(2, .bool false), (15, .bool false), (14, .bool false), (13, .bool false), (12, .int .i64 (if 0 ≤ y then y % 100 else -(-y % 100))), (11, .int .i64 y), (10, .bool true), (9, .bool true), (8, .int .i64 (if 0 ≤ y then y % 4 else -(-y % 4))), (7, .int .i64 y), (6, .bool false), (5, .bool false), (4, .int .i64 (if 0 ≤ y then y % 400 else -(-y % 400))), (3, .int .i64 y), (0, .int .i64 y)]) hF (r_assign (hF.at 0 rfl)) rfl rfl rfl rfl fun a hF => ?_
                 refine E.nil ?_
                 refine wp_ret ?_
                 refine bodyPost_ret (res_tmp Tryd.results19 (hF.at 0 rfl)) hF.dfr ?_
                 refine ⟨rv_bool ?_, bel⟩
                 exact (decide_eq_false (by omega)).symm))
       · first
         | (exfalso; omega)
         | (refine E.opvg hF (r_bin (hF.at 0 rfl) ev_c eg_scalar (bi_int (ic_eql (c := false) (dec_ff hc2)) (by simp))) (wanted_by rfl rfl (hF.at 2 rfl) rfl) rfl rfl rfl fun a hF => ?_
            refine E.opvg hF (r_move (hF.at 0 rfl)) (wanted_by rfl rfl (hF.at 3 rfl) rfl) rfl rfl rfl fun a hF => ?_
            refine E.unwanted hF (wanted_by rfl rfl (hF.at 0 rfl) rfl) rfl rfl rfl fun a hF => ?_
            refine E.unwanted hF (wanted_by rfl rfl (hF.at 1 rfl) rfl) rfl rfl rfl fun a hF => ?_
            refine E.unwanted hF (wanted_by rfl rfl (hF.at 2 rfl) rfl) rfl rfl rfl fun a hF => ?_
            refine E.opvg hF (r_pick_f (hF.at 3 rfl) ev_c) (wanted_by rfl rfl (hF.at 7 rfl) rfl) rfl rfl rfl fun a hF => ?_
            refine E.opv hF (r_pick_f (hF.at 8 rfl) (hF.at 0 rfl)) rfl rfl rfl rfl fun a hF => ?_
            refine E.opset (L' := [(2, .bool false), (15, .bool false), (14, .bool false), (13, undef), (12, undef), (11, undef), (10, .bool false), (9, .bool false), (8, .int .i64 (if 0 ≤ y then y % 4 else -(-y % 4))), (7, .int .i64 y), (6, .bool false), (5, .bool false), (4, .int .i64 (if 0 ≤ y then y % 400 else -(-y % 400))), (3, .int .i64 y), (0, .int .i64 y)]) hF (r_assign (hF.at 0 rfl)) rfl rfl rfl rfl fun a hF => ?_
            refine E.nil ?_
            refine wp_ret ?_
            refine bodyPost_ret (res_tmp Tryd.results19 (hF.at 0 rfl)) hF.dfr ?_
            refine ⟨rv_bool ?_, bel⟩
            exact (decide_eq_false (by omega)).symm))

set_option maxHeartbeats 4000000 in
theorem dlenC_any (y m : Int) (w : World) :
    Calls Tryd.prog 21 #[.int .i64 y, .int .i64 m] w (ValPost w (.int .i64 (mlen (leapC y) m))) := by
  have hmf := mlen_bd false m
  have bel : Below w.heap.size w w := Below.refl _ _
  refine E.enter (nt := 26) (L := [(0, .int .i64 y), (1, .int .i64 m)]) Tryd.func21 rfl rfl rfl (args_cons (i := 0) rfl (args_cons (i := 1) rfl args_nil)) ?_
  intro a hF
  refine wp_seq ?_
  refine E.seq ?_
  refine E.opv hF (r_assign ev_c) rfl rfl rfl rfl fun a hF => ?_
  refine E.nil ?_
  refine wp_seq ?_
  refine wp_seq ?_
  refine E.seq ?_
  refine E.opv hF (r_move (hF.at 2 rfl)) rfl rfl rfl rfl fun a hF => ?_
  by_cases hc1 : m < 1
  · first
    | (exfalso; omega)
    | (refine E.opv hF (r_bin (hF.at 0 rfl) ev_c eg_scalar (bi_int (ic_lss (c := true) (dec_tt hc1)) (by simp))) rfl rfl rfl rfl fun a hF => ?_
       refine E.opv hF (r_move (hF.at 0 rfl)) rfl rfl rfl rfl fun a hF => ?_
       refine E.unwanted hF (wanted_by rfl rfl (hF.at 0 rfl) rfl) rfl rfl rfl fun a hF => ?_
       refine E.unwanted hF (wanted_by rfl rfl (hF.at 1 rfl) rfl) rfl rfl rfl fun a hF => ?_
       refine E.opv hF (r_pick_t (hF.at 2 rfl) ev_c) rfl rfl rfl rfl fun a hF => ?_
       refine E.nil ?_
       refine wp_cond_true (hF.at 0 rfl) ?_
       refine wp_seq ?_
       refine E.seq ?_
       refine E.opset (L' := [(4, .int .i64 0), (11, .bool true), (10, undef), (9, undef), (8, .bool true), (7, .bool true), (6, .int .i64 m), (0, .int .i64 y), (1, .int .i64 m)]) hF (r_assign ev_c) rfl rfl rfl rfl fun a hF => ?_
       refine E.nil ?_
       refine wp_ret ?_
       refine bodyPost_ret (res_tmp Tryd.results21 (hF.at 0 rfl)) hF.dfr ?_
       refine ⟨rv_int ?_, bel⟩
       first
         | exact (mlen_none _ (by omega)).symm
         | exact mlen_2t (by omega) (by assumption)
         | exact mlen_2t' (by omega) (by assumption)
         | exact mlen_ne2 (by omega)
         | exact mlen_2f (eq_false_of_ne_true (by assumption)))
  · first
    | (exfalso; omega)
    | (refine E.opv hF (r_bin (hF.at 0 rfl) ev_c eg_scalar (bi_int (ic_lss (c := false) (dec_ff hc1)) (by simp))) rfl rfl rfl rfl fun a hF => ?_
       refine E.opv hF (r_move (hF.at 0 rfl)) rfl rfl rfl rfl fun a hF => ?_
       refine E.opvg hF (r_move (hF.at 5 rfl)) (wanted_by rfl rfl (hF.at 0 rfl) rfl) rfl rfl rfl fun a hF => ?_
       by_cases hc2 : 12 < m
       · first
         | (exfalso; omega)
         | (refine E.opvg hF (r_bin (hF.at 0 rfl) ev_c eg_scalar (bi_int (ic_gtr (c := true) (dec_tt hc2)) (by simp))) (wanted_by rfl rfl (hF.at 1 rfl) rfl) rfl rfl rfl fun a hF => ?_
            refine E.opv hF (r_pick_f (hF.at 2 rfl) (hF.at 0 rfl)) rfl rfl rfl rfl fun a hF => ?_
            refine E.nil ?_
            refine wp_cond_true (hF.at 0 rfl) ?_
            refine wp_seq ?_
            refine E.seq ?_
            refine E.opset (L' := [(4, .int .i64 0), (11, .bool true), (10, .bool true), (9, .int .i64 m), (8, .bool false), (7, .bool false), (6, .int .i64 m), (0, .int .i64 y), (1, .int .i64 m)]) hF (r_assign ev_c) rfl rfl rfl rfl fun a hF => ?_
            refine E.nil ?_
            refine wp_ret ?_
            refine bodyPost_ret (res_tmp Tryd.results21 (hF.at 0 rfl)) hF.dfr ?_
            refine ⟨rv_int ?_, bel⟩
            first
              | exact (mlen_none _ (by omega)).symm
              | exact mlen_2t (by omega) (by assumption)
              | exact mlen_2t' (by omega) (by assumption)
              | exact mlen_ne2 (by omega)
              | exact mlen_2f (eq_false_of_ne_true (by assumption)))
       · first
         | (exfalso; omega)
         | (refine E.opvg hF (r_bin (hF.at 0 rfl) ev_c eg_scalar (bi_int (ic_gtr (c := false) (dec_ff hc2)) (by simp))) (wanted_by rfl rfl (hF.at 1 rfl) rfl) rfl rfl rfl fun a hF => ?_
            refine E.opv hF (r_pick_f (hF.at 2 rfl) (hF.at 0 rfl)) rfl rfl rfl rfl fun a hF => ?_
            refine E.nil ?_
            refine wp_cond_false (hF.at 0 rfl) ?_
            refine wp_skip ?_
            refine E.norm ?_
            refine wp_seq ?_
            refine E.seq ?_
            obtain ⟨gs4, w3, hr, bb, ols⟩ := bs_lens w
            refine E.opv hF (r_buildSlice pairs12 hr) rfl rfl rfl rfl fun a hF => ?_
            clear hr
            replace bel := below_to bel bb
            clear bb
            refine E.opv hF (r_move (hF.at 9 rfl)) rfl rfl rfl rfl fun a hF => ?_
            refine E.opv hF (r_bin (hF.at 0 rfl) ev_c eg_scalar (ia_sub (by omega) (by omega))) rfl rfl rfl rfl fun a hF => ?_
            refine E.opv hF (r_index (hF.at 2 rfl) (hF.at 0 rfl) (ix_ints (by omega) (by omega))) rfl rfl rfl rfl fun a hF => ?_
            refine E.opv hF (r_load (hF.at 0 rfl) (ldb_int (v := .int .i64 (mlen false m)) ols (lens_at' (by omega) (by omega)))) rfl rfl rfl rfl fun a hF => ?_
            refine E.opv hF (r_assign (hF.at 0 rfl)) rfl rfl rfl rfl fun a hF => ?_
            refine E.nil ?_
            refine wp_seq ?_
            refine wp_seq ?_
            refine E.seq ?_
            refine E.opv hF (r_move (hF.at 14 rfl)) rfl rfl rfl rfl fun a hF => ?_
            by_cases hc5 : m = 2
            · first
              | (exfalso; omega)
              | (refine E.opv hF (r_bin (hF.at 0 rfl) ev_c eg_scalar (bi_int (ic_eql (c := true) (dec_tt hc5)) (by simp))) rfl rfl rfl rfl fun a hF => ?_
                 refine E.opv hF (r_move (hF.at 0 rfl)) rfl rfl rfl rfl fun a hF => ?_
                 refine E.opvg hF (r_move (hF.at 16 rfl)) (wanted_by rfl rfl (hF.at 0 rfl) rfl) rfl rfl rfl fun a hF => ?_
                 refine E.callg hF (r_call Tryd.func19 en19.1 en19.2 (map1 (hF.at 0 rfl))) (dleapC_any y _) (wanted_by rfl rfl (hF.at 1 rfl) rfl) rfl rfl rfl ?_
                 rintro e w6 ⟨rfl, bb⟩
                 refine ⟨_, rfl, ?_⟩
                 intro a hF
                 replace bel := below_to bel bb
                 clear bb
                 refine E.opv hF (r_pick_t (hF.at 2 rfl) (hF.at 0 rfl)) rfl rfl rfl rfl fun a hF => ?_
                 refine E.nil ?_
                 by_cases hc7 : leapC y = true
                 · first
                   | (exfalso; omega)
                   | (refine wp_cond_true (Eq.trans (hF.at 0 rfl) (congrArg Value.bool hc7)) ?_
                      refine E.seq ?_
                      refine E.opv hF (r_move (hF.at 6 rfl)) rfl rfl rfl rfl fun a hF => ?_
                      refine E.opv hF (r_bin (hF.at 0 rfl) ev_c eg_scalar (ia_add (by omega) (by omega))) rfl rfl rfl rfl fun a hF => ?_
                      refine E.opset (L' := [(5, .int .i64 ((mlen false m) + 1)), (24, .int .i64 ((mlen false m) + 1)), (23, .int .i64 (mlen false m)), (22, .bool (leapC y)), (21, .bool (leapC y)), (20, .int .i64 y), (19, .bool true), (18, .bool true), (17, .int .i64 m), (16, .int .i64 (mlen false m)), (15, .pointer (some ⟨gs4, (m - 1).toNat, none⟩)), (14, .int .i64 (m - 1)), (13, .int .i64 m), (12, .slice (some ⟨gs4, 0, none⟩) 12 12), (11, .bool false), (10, .bool false), (9, .int .i64 m), (8, .bool false), (7, .bool false), (6, .int .i64 m), (4, .int .i64 0), (0, .int .i64 y), (1, .int .i64 m)]) hF (r_assign (hF.at 0 rfl)) rfl rfl rfl rfl fun a hF => ?_
                      refine E.nil ?_
                      refine wp_seq ?_
                      refine E.seq ?_
                      refine E.opv hF (r_move (hF.at 0 rfl)) rfl rfl rfl rfl fun a hF => ?_
                      refine E.opset (L' := [(4, .int .i64 ((mlen false m) + 1)), (25, .int .i64 ((mlen false m) + 1)), (5, .int .i64 ((mlen false m) + 1)), (24, .int .i64 ((mlen false m) + 1)), (23, .int .i64 (mlen false m)), (22, .bool (leapC y)), (21, .bool (leapC y)), (20, .int .i64 y), (19, .bool true), (18, .bool true), (17, .int .i64 m), (16, .int .i64 (mlen false m)), (15, .pointer (some ⟨gs4, (m - 1).toNat, none⟩)), (14, .int .i64 (m - 1)), (13, .int .i64 m), (12, .slice (some ⟨gs4, 0, none⟩) 12 12), (11, .bool false), (10, .bool false), (9, .int .i64 m), (8, .bool false), (7, .bool false), (6, .int .i64 m), (0, .int .i64 y), (1, .int .i64 m)]) hF (r_assign (hF.at 0 rfl)) rfl rfl rfl rfl fun a hF => ?_
                      refine E.nil ?_
                      refine wp_ret ?_
                      refine bodyPost_ret (res_tmp Tryd.results21 (hF.at 0 rfl)) hF.dfr ?_
                      refine ⟨rv_int ?_, bel⟩
                      first
                        | exact (mlen_none _ (by omega)).symm
                        | exact mlen_2t (by omega) (by assumption)
                        | exact mlen_2t' (by omega) (by assumption)
                        | exact mlen_ne2 (by omega)
                        | exact mlen_2f (eq_false_of_ne_true (by assumption)))
                 · first
                   | (exfalso; omega)
                   | (refine wp_cond_false (Eq.trans (hF.at 0 rfl) (congrArg Value.bool (eq_false_of_ne_true hc7))) ?_
                      refine wp_skip ?_
                      refine E.norm ?_
                      refine wp_seq ?_
                      refine E.seq ?_
                      refine E.opv hF (r_move (hF.at 6 rfl)) rfl rfl rfl rfl fun a hF => ?_
                      refine E.opset (L' := [(4, .int .i64 (mlen false m)), (25, .int .i64 (mlen false m)), (22, .bool (leapC y)), (21, .bool (leapC y)), (20, .int .i64 y), (19, .bool true), (18, .bool true), (17, .int .i64 m), (5, .int .i64 (mlen false m)), (16, .int .i64 (mlen false m)), (15, .pointer (some ⟨gs4, (m - 1).toNat, none⟩)), (14, .int .i64 (m - 1)), (13, .int .i64 m), (12, .slice (some ⟨gs4, 0, none⟩) 12 12), (11, .bool false), (10, .bool false), (9, .int .i64 m), (8, .bool false), (7, .bool false), (6, .int .i64 m), (0, .int .i64 y), (1, .int .i64 m)]) hF (r_assign (hF.at 0 rfl)) rfl rfl rfl rfl fun a hF => ?_
                      refine E.nil ?_
                      refine wp_ret ?_
                      refine bodyPost_ret (res_tmp Tryd.results21 (hF.at 0 rfl)) hF.dfr ?_
                      refine ⟨rv_int ?_, bel⟩
                      first
                        | exact (mlen_none _ (by omega)).symm
                        | exact mlen_2t (by omega) (by assumption)
                        | exact mlen_2t' (by omega) (by assumption)
                        | exact mlen_ne2 (by omega)
                        | exact mlen_2f (eq_false_of_ne_true (by assumption))))
            · first
              | (exfalso; omega)
              | (refine E.opv hF (r_bin (hF.at 0 rfl) ev_c eg_scalar (bi_int (ic_eql (c := false) (dec_ff hc5)) (by simp))) rfl rfl rfl rfl fun a hF => ?_
                 refine E.opv hF (r_move (hF.at 0 rfl)) rfl rfl rfl rfl fun a hF => ?_
                 refine E.unwanted hF (wanted_by rfl rfl (hF.at 0 rfl) rfl) rfl rfl rfl fun a hF => ?_
                 refine E.unwanted hF (wanted_by rfl rfl (hF.at 1 rfl) rfl) rfl rfl rfl fun a hF => ?_
                 refine E.opv hF (r_pick_f (hF.at 2 rfl) ev_c) rfl rfl rfl rfl fun a hF => ?_
                 refine E.nil ?_
                 refine wp_cond_false (hF.at 0 rfl) ?_
                 refine wp_skip ?_
                 refine E.norm ?_
                 refine wp_seq ?_
                 refine E.seq ?_
                 refine E.opv hF (r_move (hF.at 6 rfl)) rfl rfl rfl rfl fun a hF => ?_
                 refine E.opset (L' := [(4, .int .i64 (mlen false m)), (25, .int .i64 (mlen false m)), (22, .bool false), (21, undef), (20, undef), (19, .bool false), (18, .bool false), (17, .int .i64 m), (5, .int .i64 (mlen false m)), (16, .int .i64 (mlen false m)), (15, .pointer (some ⟨gs4, (m - 1).toNat, none⟩)), (14, .int .i64 (m - 1)), (13, .int .i64 m), (12, .slice (some ⟨gs4, 0, none⟩) 12 12), (11, .bool false), (10, .bool false), (9, .int .i64 m), (8, .bool false), (7, .bool false), (6, .int .i64 m), (0, .int .i64 y), (1, .int .i64 m)]) hF (r_assign (hF.at 0 rfl)) rfl rfl rfl rfl fun a hF => ?_
                 refine E.nil ?_
                 refine wp_ret ?_
                 refine bodyPost_ret (res_tmp Tryd.results21 (hF.at 0 rfl)) hF.dfr ?_
                 refine ⟨rv_int ?_, bel⟩
                 first
                   | exact (mlen_none _ (by omega)).symm
                   | exact mlen_2t (by omega) (by assumption)
                   | exact mlen_2t' (by omega) (by assumption)
                   | exact mlen_ne2 (by omega)
                   | exact mlen_2f (eq_false_of_ne_true (by assumption)))))

set_option maxHeartbeats 1000000 in
theorem dyearC_any (y : Int) (w : World) :
    Calls Tryd.prog 49 #[.int .i64 y] w (ValPost w (.int .i64 (365 + (if leapC y = true then 1 else 0)))) := by
  have bel : Below w.heap.size w w := Below.refl _ _
  refine E.enter (nt := 5) (L := [(0, .int .i64 y)]) Tryd.func49 rfl rfl rfl (args_cons (i := 0) rfl args_nil) ?_
  intro a hF
  refine wp_seq ?_
  refine E.seq ?_
  refine E.opv hF (r_assign ev_c) rfl rfl rfl rfl fun a hF => ?_
  refine E.nil ?_
  refine wp_seq ?_
  refine wp_seq ?_
  refine E.seq ?_
  refine E.opv hF (r_move (hF.at 1 rfl)) rfl rfl rfl rfl fun a hF => ?_
  refine E.call hF (r_call Tryd.func19 en19.1 en19.2 (map1 (hF.at 0 rfl))) (dleapC_any y _) rfl rfl rfl rfl ?_
  rintro e w1 ⟨rfl, bb⟩
  refine ⟨_, rfl, ?_⟩
  intro a hF
  replace bel := below_to bel bb
  clear bb
  refine E.nil ?_
  by_cases hc2 : leapC y = true
  · first
    | (exfalso; omega)
    | (refine wp_cond_true (Eq.trans (hF.at 0 rfl) (congrArg Value.bool hc2)) ?_
       refine wp_seq ?_
       refine E.seq ?_
       refine E.opset (L' := [(2, .int .i64 366), (4, .bool (leapC y)), (3, .int .i64 y), (0, .int .i64 y)]) hF (r_assign ev_c) rfl rfl rfl rfl fun a hF => ?_
       refine E.nil ?_
       refine wp_ret ?_
       refine bodyPost_ret (res_tmp Tryd.results49 (hF.at 0 rfl)) hF.dfr ?_
       refine ⟨rv_int ?_, bel⟩
       rw [if_pos (by assumption)]; rfl)
  · first
    | (exfalso; omega)
    | (refine wp_cond_false (Eq.trans (hF.at 0 rfl) (congrArg Value.bool (eq_false_of_ne_true hc2))) ?_
       refine wp_skip ?_
       refine E.norm ?_
       refine wp_seq ?_
       refine E.seq ?_
       refine E.opset (L' := [(2, .int .i64 365), (4, .bool (leapC y)), (3, .int .i64 y), (0, .int .i64 y)]) hF (r_assign ev_c) rfl rfl rfl rfl fun a hF => ?_
       refine E.nil ?_
       refine wp_ret ?_
       refine bodyPost_ret (res_tmp Tryd.results49 (hF.at 0 rfl)) hF.dfr ?_
       refine ⟨rv_int ?_, bel⟩
       rw [if_neg (by assumption)]; rfl)

set_option maxHeartbeats 4000000 in
theorem dnewC_any (y : Int) (w : World) (h0 : -9001 ≤ y) (h1 : y ≤ 9001) :
    Calls Tryd.prog 41 #[.int .i64 y] w (ValPost w (.int .i64 (firstC y - 1))) := by
  have bel : Below w.heap.size w w := Below.refl _ _
  refine E.enter (nt := 25) (L := [(0, .int .i64 y)]) Tryd.func41 rfl rfl rfl (args_cons (i := 0) rfl args_nil) ?_
  intro a hF
  refine wp_seq ?_
  refine E.seq ?_
  refine E.opv hF (r_assign ev_c) rfl rfl rfl rfl fun a hF => ?_
  refine E.nil ?_
  refine wp_seq ?_
  refine E.seq ?_
  refine E.opv hF (r_assign ev_c) rfl rfl rfl rfl fun a hF => ?_
  refine E.nil ?_
  refine wp_seq ?_
  refine wp_seq ?_
  refine E.seq ?_
  refine E.opv hF (r_assign ev_c) rfl rfl rfl rfl fun a hF => ?_
  refine E.nil ?_
  refine wp_block ?_
  refine E.loop (fun mq a wv => ∃ (k : Int) (n : Int), 1 ≤ k ∧ k ≤ max 1 y ∧ n = firstC k - 1 ∧ Fr 25 a [(4, .int .i64 k), (3, .int .i64 n), (2, .int .i64 0), (0, .int .i64 y)] ∧ Below w.heap.size w wv ∧ Below w.heap.size w wv ∧ mq = (y - k : Int).toNat) ((y - (1) : Int).toNat) ?_ ?_
  · exact ⟨(1 : Int), (0 : Int), (by omega), (by omega), (by decide), hF.sub (by intro p hp; simp only [List.mem_cons, List.not_mem_nil, or_false] at hp ⊢; rcases hp with rfl | rfl | rfl | rfl <;> simp), Below.refl _ _, bel, rfl⟩
  · rintro mq a w1 ⟨k, n, hk1, hk2, hn, hF, sty, bel, hm⟩
    have hfb := firstC_bd (y := k) (by omega) (by omega)
    refine wp_seq ?_
    refine wp_seq ?_
    refine E.seq ?_
    refine E.opv hF (r_move (hF.at 0 rfl)) rfl rfl rfl rfl fun a hF => ?_
    refine E.opv hF (r_move (hF.at 4 rfl)) rfl rfl rfl rfl fun a hF => ?_
    by_cases hc2 : k < y
    · first
      | (exfalso; omega)
      | (refine E.opv hF (r_bin (hF.at 1 rfl) (hF.at 0 rfl) eg_scalar (bi_int (ic_lss (c := true) (dec_tt hc2)) (by simp))) rfl rfl rfl rfl fun a hF => ?_
         refine E.nil ?_
         refine wp_cond_true (hF.at 0 rfl) ?_
         refine wp_skip ?_
         refine E.norm ?_
         refine wp_seq ?_
         refine wp_block ?_
         refine E.seq ?_
         refine E.opv hF (r_move (hF.at 4 rfl)) rfl rfl rfl rfl fun a hF => ?_
         refine E.opv hF (r_move (hF.at 4 rfl)) rfl rfl rfl rfl fun a hF => ?_
         refine E.call hF (r_call Tryd.func49 en49.1 en49.2 (map1 (hF.at 0 rfl))) (dyearC_any k _) rfl rfl rfl rfl ?_
         rintro e w3 ⟨rfl, bb⟩
         refine ⟨_, rfl, ?_⟩
         intro a hF
         replace bel := below_to bel bb
         replace sty := below_to sty bb
         clear bb
         refine E.opv hF (r_bin (hF.at 2 rfl) (hF.at 0 rfl) eg_scalar (ia_add (by omega) (by omega))) rfl rfl rfl rfl fun a hF => ?_
         refine E.opset (L' := [(3, .int .i64 (n + (365 + (if leapC k = true then 1 else 0)))), (14, .int .i64 (n + (365 + (if leapC k = true then 1 else 0)))), (13, .int .i64 (365 + (if leapC k = true then 1 else 0))), (12, .int .i64 k), (11, .int .i64 n), (8, .bool true), (7, .int .i64 y), (6, .int .i64 k), (4, .int .i64 k), (2, .int .i64 0), (0, .int .i64 y)]) hF (r_assign (hF.at 0 rfl)) rfl rfl rfl rfl fun a hF => ?_
         refine E.nil0 ?_
         refine E.blk ?_
         refine E.norm ?_
         refine E.seq ?_
         refine E.opv hF (r_move (hF.at 8 rfl)) rfl rfl rfl rfl fun a hF => ?_
         refine E.opv hF (r_bin (hF.at 0 rfl) ev_c eg_scalar (ia_add (by omega) (by omega))) rfl rfl rfl rfl fun a hF => ?_
         refine E.opset (L' := [(4, .int .i64 (k + 1)), (10, .int .i64 (k + 1)), (9, .int .i64 k), (3, .int .i64 (n + (365 + (if leapC k = true then 1 else 0)))), (14, .int .i64 (n + (365 + (if leapC k = true then 1 else 0)))), (13, .int .i64 (365 + (if leapC k = true then 1 else 0))), (12, .int .i64 k), (11, .int .i64 n), (8, .bool true), (7, .int .i64 y), (6, .int .i64 k), (2, .int .i64 0), (0, .int .i64 y)]) hF (r_assign (hF.at 0 rfl)) rfl rfl rfl rfl fun a hF => ?_
         refine E.nil0 ?_
         refine E.norm ?_
         exact ⟨(y - (k + 1) : Int).toNat, by omega, ⟨(k + 1 : Int), (n + (365 + (if leapC k = true then 1 else 0)) : Int), (by omega), (by omega), (by have := stepC k; omega), Fr.sub (L' := [(4, .int .i64 (k + 1)), (3, .int .i64 (n + (365 + (if leapC k = true then 1 else 0)))), (2, .int .i64 0), (0, .int .i64 y)]) hF (by intro p hp; simp only [List.mem_cons, List.not_mem_nil, or_false] at hp ⊢; rcases hp with rfl | rfl | rfl | rfl <;> simp), sty, bel, rfl⟩⟩)
    · first
      | (exfalso; omega)
      | (refine E.opv hF (r_bin (hF.at 1 rfl) (hF.at 0 rfl) eg_scalar (bi_int (ic_lss (c := false) (dec_ff hc2)) (by simp))) rfl rfl rfl rfl fun a hF => ?_
         refine E.nil ?_
         refine wp_cond_false (hF.at 0 rfl) ?_
         refine wp_exit ?_
         refine E.past ?_
         refine E.past ?_
         refine E.out (id := 0) ?_
         refine E.norm ?_
         refine wp_seq ?_
         refine wp_seq ?_
         refine E.seq ?_
         refine E.opv hF (r_assign ev_c) rfl rfl rfl rfl fun a hF => ?_
         refine E.nil ?_
         refine wp_block ?_
         refine E.loop (fun mq a wv => ∃ (j : Int) (n2 : Int), j ≤ 0 ∧ min 0 (y - 1) ≤ j ∧ n2 = firstC (max 1 y) - 1 + firstC (j + 1) - firstC 1 ∧ Fr 25 a [(5, .int .i64 j), (3, .int .i64 n2), (2, .int .i64 0), (0, .int .i64 y)] ∧ Below w1.heap.size w1 wv ∧ Below w.heap.size w wv ∧ mq = (j - y + 1 : Int).toNat) (((0) - y + 1 : Int).toNat) ?_ ?_
         · exact ⟨(0 : Int), (n : Int), (by omega), (by omega), (by rw [show max 1 y = k by omega, show (0 : Int) + 1 = 1 from rfl]; omega), hF.sub (by intro p hp; simp only [List.mem_cons, List.not_mem_nil, or_false] at hp ⊢; rcases hp with rfl | rfl | rfl | rfl <;> simp), Below.refl _ _, bel, rfl⟩
         · rintro mq a w4 ⟨j, n2, hj1, hj2, hn2, hF, sty, bel, hm⟩
           have hfb := firstC_bd (y := max 1 y) (by omega) (by omega)
           have hfc := firstC_bd (y := j + 1) (by omega) (by omega)
           have hfd : firstC 1 = 1 := by decide
           refine wp_seq ?_
           refine wp_seq ?_
           refine E.seq ?_
           refine E.opv hF (r_move (hF.at 0 rfl)) rfl rfl rfl rfl fun a hF => ?_
           refine E.opv hF (r_move (hF.at 4 rfl)) rfl rfl rfl rfl fun a hF => ?_
           by_cases hc5 : y ≤ j
           · first
             | (exfalso; omega)
             | (refine E.opv hF (r_bin (hF.at 1 rfl) (hF.at 0 rfl) eg_scalar (bi_int (ic_geq (c := true) (dec_tt hc5)) (by simp))) rfl rfl rfl rfl fun a hF => ?_
                refine E.nil ?_
                refine wp_cond_true (hF.at 0 rfl) ?_
                refine wp_skip ?_
                refine E.norm ?_
                refine wp_seq ?_
                refine wp_block ?_
                refine E.seq ?_
                refine E.opv hF (r_move (hF.at 4 rfl)) rfl rfl rfl rfl fun a hF => ?_
                refine E.opv hF (r_move (hF.at 4 rfl)) rfl rfl rfl rfl fun a hF => ?_
                refine E.call hF (r_call Tryd.func49 en49.1 en49.2 (map1 (hF.at 0 rfl))) (dyearC_any j _) rfl rfl rfl rfl ?_
                rintro e w6 ⟨rfl, bb⟩
                refine ⟨_, rfl, ?_⟩
                intro a hF
                replace bel := below_to bel bb
                replace sty := below_to sty bb
                clear bb
                refine E.opv hF (r_bin (hF.at 2 rfl) (hF.at 0 rfl) eg_scalar (ia_sub (by omega) (by omega))) rfl rfl rfl rfl fun a hF => ?_
                refine E.opset (L' := [(3, .int .i64 (n2 - (365 + (if leapC j = true then 1 else 0)))), (23, .int .i64 (n2 - (365 + (if leapC j = true then 1 else 0)))), (22, .int .i64 (365 + (if leapC j = true then 1 else 0))), (21, .int .i64 j), (20, .int .i64 n2), (17, .bool true), (16, .int .i64 y), (15, .int .i64 j), (5, .int .i64 j), (2, .int .i64 0), (0, .int .i64 y)]) hF (r_assign (hF.at 0 rfl)) rfl rfl rfl rfl fun a hF => ?_
                refine E.nil0 ?_
                refine E.blk ?_
                refine E.norm ?_
                refine E.seq ?_
                refine E.opv hF (r_move (hF.at 8 rfl)) rfl rfl rfl rfl fun a hF => ?_
                refine E.opv hF (r_bin (hF.at 0 rfl) ev_c eg_scalar (ia_sub (by omega) (by omega))) rfl rfl rfl rfl fun a hF => ?_
                refine E.opset (L' := [(5, .int .i64 (j - 1)), (19, .int .i64 (j - 1)), (18, .int .i64 j), (3, .int .i64 (n2 - (365 + (if leapC j = true then 1 else 0)))), (23, .int .i64 (n2 - (365 + (if leapC j = true then 1 else 0)))), (22, .int .i64 (365 + (if leapC j = true then 1 else 0))), (21, .int .i64 j), (20, .int .i64 n2), (17, .bool true), (16, .int .i64 y), (15, .int .i64 j), (2, .int .i64 0), (0, .int .i64 y)]) hF (r_assign (hF.at 0 rfl)) rfl rfl rfl rfl fun a hF => ?_
                refine E.nil0 ?_
                refine E.norm ?_
                exact ⟨((j - 1) - y + 1 : Int).toNat, by omega, ⟨(j - 1 : Int), (n2 - (365 + (if leapC j = true then 1 else 0)) : Int), (by omega), (by omega), (by have := stepC j; rw [show j - 1 + 1 = j by omega]; omega), Fr.sub (L' := [(5, .int .i64 (j - 1)), (3, .int .i64 (n2 - (365 + (if leapC j = true then 1 else 0)))), (2, .int .i64 0), (0, .int .i64 y)]) hF (by intro p hp; simp only [List.mem_cons, List.not_mem_nil, or_false] at hp ⊢; rcases hp with rfl | rfl | rfl | rfl <;> simp), sty, bel, rfl⟩⟩)
           · first
             | (exfalso; omega)
             | (refine E.opv hF (r_bin (hF.at 1 rfl) (hF.at 0 rfl) eg_scalar (bi_int (ic_geq (c := false) (dec_ff hc5)) (by simp))) rfl rfl rfl rfl fun a hF => ?_
                refine E.nil ?_
                refine wp_cond_false (hF.at 0 rfl) ?_
                refine wp_exit ?_
                refine E.past ?_
                refine E.past ?_
                refine E.out (id := 2) ?_
                refine E.norm ?_
                refine wp_seq ?_
                refine E.seq ?_
                refine E.opv hF (r_move (hF.at 4 rfl)) rfl rfl rfl rfl fun a hF => ?_
                refine E.opset (L' := [(2, .int .i64 n2), (24, .int .i64 n2), (17, .bool false), (16, .int .i64 y), (15, .int .i64 j), (5, .int .i64 j), (3, .int .i64 n2), (0, .int .i64 y)]) hF (r_assign (hF.at 0 rfl)) rfl rfl rfl rfl fun a hF => ?_
                refine E.nil ?_
                refine wp_ret ?_
                refine bodyPost_ret (res_tmp Tryd.results41 (hF.at 0 rfl)) hF.dfr ?_
                refine ⟨rv_int ?_, bel⟩
                by_cases hy : 1 ≤ y
                · have e1 : j = 0 := by omega
                  have e2 : max 1 y = y := by omega
                  rw [e1, e2] at hn2; rw [hn2]; show firstC y - 1 + firstC 1 - firstC 1 = _; omega
                · have e1 : j + 1 = y := by omega
                  have e2 : max 1 y = 1 := by omega
                  rw [e1, e2] at hn2; omega))

set_option maxHeartbeats 8000000 in
theorem dfixC_any (y mo d : Int) (w : World) (hd0 : -9223372036854775808 ≤ d) (hd1 : d ≤ 9223372036854775807) :
    Calls Tryd.prog 16 #[.int .i64 y, .int .i64 mo, .int .i64 d] w (ValPost w (.tuple #[.int .i64 (fixN calC y mo d), .int .i64 (fixE calC y mo d)])) := by
  have hmd := mlen_bd (leapC y) mo
  have bel : Below w.heap.size w w := Below.refl _ _
  refine E.enter (nt := 54) (L := [(0, .int .i64 y), (1, .int .i64 mo), (2, .int .i64 d)]) Tryd.func16 rfl rfl rfl (args_cons (i := 0) rfl (args_cons (i := 1) rfl (args_cons (i := 2) rfl args_nil))) ?_
  intro a hF
  refine wp_seq ?_
  refine E.seq ?_
  refine E.opv hF (r_assign ev_c) rfl rfl rfl rfl fun a hF => ?_
  refine E.opv hF (r_assign ev_c) rfl rfl rfl rfl fun a hF => ?_
  refine E.nil ?_
  refine wp_seq ?_
  refine wp_seq ?_
  refine E.seq ?_
  refine E.opv hF (r_move (hF.at 2 rfl)) rfl rfl rfl rfl fun a hF => ?_
  by_cases hc1 : y < (-9000)
  · first
    | (exfalso; omega)
    | (refine E.opv hF (r_bin (hF.at 0 rfl) ev_c eg_scalar (bi_int (ic_lss (c := true) (dec_tt hc1)) (by simp))) rfl rfl rfl rfl fun a hF => ?_
       refine E.opv hF (r_move (hF.at 0 rfl)) rfl rfl rfl rfl fun a hF => ?_
       refine E.unwanted hF (wanted_by rfl rfl (hF.at 0 rfl) rfl) rfl rfl rfl fun a hF => ?_
       refine E.unwanted hF (wanted_by rfl rfl (hF.at 1 rfl) rfl) rfl rfl rfl fun a hF => ?_
       refine E.opv hF (r_pick_t (hF.at 2 rfl) ev_c) rfl rfl rfl rfl fun a hF => ?_
       refine E.nil ?_
       refine wp_cond_true (hF.at 0 rfl) ?_
       refine wp_seq ?_
       refine E.seq ?_
       refine E.opset (L' := [(6, .int .i64 0), (15, .bool true), (14, undef), (13, undef), (12, .bool true), (11, .bool true), (10, .int .i64 y), (7, .int .i64 0), (0, .int .i64 y), (1, .int .i64 mo), (2, .int .i64 d)]) hF (r_assign ev_c) rfl rfl rfl rfl fun a hF => ?_
       refine E.opset (L' := [(7, .int .i64 2), (6, .int .i64 0), (15, .bool true), (14, undef), (13, undef), (12, .bool true), (11, .bool true), (10, .int .i64 y), (0, .int .i64 y), (1, .int .i64 mo), (2, .int .i64 d)]) hF (r_assign ev_c) rfl rfl rfl rfl fun a hF => ?_
       refine E.nil ?_
       refine wp_ret ?_
       refine bodyPost_ret (res_tmp2 Tryd.results16 (hF.at 1 rfl) (hF.at 0 rfl)) hF.dfr ?_
       refine ⟨rv_int2 ?_ ?_, bel⟩
       · exact (fix_year (by omega)).1
       · exact (fix_year (by omega)).2)
  · first
    | (exfalso; omega)
    | (refine E.opv hF (r_bin (hF.at 0 rfl) ev_c eg_scalar (bi_int (ic_lss (c := false) (dec_ff hc1)) (by simp))) rfl rfl rfl rfl fun a hF => ?_
       refine E.opv hF (r_move (hF.at 0 rfl)) rfl rfl rfl rfl fun a hF => ?_
       refine E.opvg hF (r_move (hF.at 5 rfl)) (wanted_by rfl rfl (hF.at 0 rfl) rfl) rfl rfl rfl fun a hF => ?_
       by_cases hc2 : 9000 < y
       · first
         | (exfalso; omega)
         | (refine E.opvg hF (r_bin (hF.at 0 rfl) ev_c eg_scalar (bi_int (ic_gtr (c := true) (dec_tt hc2)) (by simp))) (wanted_by rfl rfl (hF.at 1 rfl) rfl) rfl rfl rfl fun a hF => ?_
            refine E.opv hF (r_pick_f (hF.at 2 rfl) (hF.at 0 rfl)) rfl rfl rfl rfl fun a hF => ?_
            refine E.nil ?_
            refine wp_cond_true (hF.at 0 rfl) ?_
            refine wp_seq ?_
            refine E.seq ?_
            refine E.opset (L' := [(6, .int .i64 0), (15, .bool true), (14, .bool true), (13, .int .i64 y), (12, .bool false), (11, .bool false), (10, .int .i64 y), (7, .int .i64 0), (0, .int .i64 y), (1, .int .i64 mo), (2, .int .i64 d)]) hF (r_assign ev_c) rfl rfl rfl rfl fun a hF => ?_
            refine E.opset (L' := [(7, .int .i64 2), (6, .int .i64 0), (15, .bool true), (14, .bool true), (13, .int .i64 y), (12, .bool false), (11, .bool false), (10, .int .i64 y), (0, .int .i64 y), (1, .int .i64 mo), (2, .int .i64 d)]) hF (r_assign ev_c) rfl rfl rfl rfl fun a hF => ?_
            refine E.nil ?_
            refine wp_ret ?_
            refine bodyPost_ret (res_tmp2 Tryd.results16 (hF.at 1 rfl) (hF.at 0 rfl)) hF.dfr ?_
            refine ⟨rv_int2 ?_ ?_, bel⟩
            · exact (fix_year (by omega)).1
            · exact (fix_year (by omega)).2)
       · first
         | (exfalso; omega)
         | (refine E.opvg hF (r_bin (hF.at 0 rfl) ev_c eg_scalar (bi_int (ic_gtr (c := false) (dec_ff hc2)) (by simp))) (wanted_by rfl rfl (hF.at 1 rfl) rfl) rfl rfl rfl fun a hF => ?_
            refine E.opv hF (r_pick_f (hF.at 2 rfl) (hF.at 0 rfl)) rfl rfl rfl rfl fun a hF => ?_
            refine E.nil ?_
            refine wp_cond_false (hF.at 0 rfl) ?_
            refine wp_skip ?_
            refine E.norm ?_
            refine wp_seq ?_
            refine wp_seq ?_
            refine E.seq ?_
            refine E.opv hF (r_move (hF.at 9 rfl)) rfl rfl rfl rfl fun a hF => ?_
            by_cases hc3 : mo < 1
            · first
              | (exfalso; omega)
              | (refine E.opv hF (r_bin (hF.at 0 rfl) ev_c eg_scalar (bi_int (ic_lss (c := true) (dec_tt hc3)) (by simp))) rfl rfl rfl rfl fun a hF => ?_
                 refine E.opv hF (r_move (hF.at 0 rfl)) rfl rfl rfl rfl fun a hF => ?_
                 refine E.unwanted hF (wanted_by rfl rfl (hF.at 0 rfl) rfl) rfl rfl rfl fun a hF => ?_
                 refine E.unwanted hF (wanted_by rfl rfl (hF.at 1 rfl) rfl) rfl rfl rfl fun a hF => ?_
                 refine E.opv hF (r_pick_t (hF.at 2 rfl) ev_c) rfl rfl rfl rfl fun a hF => ?_
                 refine E.opv hF (r_move (hF.at 0 rfl)) rfl rfl rfl rfl fun a hF => ?_
                 refine E.unwanted hF (wanted_by rfl rfl (hF.at 0 rfl) rfl) rfl rfl rfl fun a hF => ?_
                 refine E.unwanted hF (wanted_by rfl rfl (hF.at 1 rfl) rfl) rfl rfl rfl fun a hF => ?_
                 refine E.opv hF (r_pick_t (hF.at 2 rfl) ev_c) rfl rfl rfl rfl fun a hF => ?_
                 refine E.opv hF (r_move (hF.at 0 rfl)) rfl rfl rfl rfl fun a hF => ?_
                 refine E.unwanted hF (wanted_by rfl rfl (hF.at 0 rfl) rfl) rfl rfl rfl fun a hF => ?_
                 refine E.unwanted hF (wanted_by rfl rfl (hF.at 1 rfl) rfl) rfl rfl rfl fun a hF => ?_
                 refine E.unwanted hF (wanted_by rfl rfl (hF.at 2 rfl) rfl) rfl rfl rfl fun a hF => ?_
                 refine E.unwanted hF (wanted_by rfl rfl (hF.at 3 rfl) rfl) rfl rfl rfl fun a hF => ?_
                 refine E.unwanted hF (wanted_by rfl rfl (hF.at 4 rfl) rfl) rfl rfl rfl fun a hF => ?_
                 refine E.opv hF (r_pick_t (hF.at 5 rfl) ev_c) rfl rfl rfl rfl fun a hF => ?_
                 refine E.nil ?_
                 refine wp_cond_true (hF.at 0 rfl) ?_
                 refine wp_seq ?_
                 refine E.seq ?_
                 refine E.opset (L' := [(6, .int .i64 0), (32, .bool true), (31, undef), (30, undef), (29, undef), (28, undef), (27, undef), (26, .bool true), (25, .bool true), (24, undef), (23, undef), (22, .bool true), (21, .bool true), (20, undef), (19, undef), (18, .bool true), (17, .bool true), (16, .int .i64 mo), (15, .bool false), (14, .bool false), (13, .int .i64 y), (12, .bool false), (11, .bool false), (10, .int .i64 y), (7, .int .i64 0), (0, .int .i64 y), (1, .int .i64 mo), (2, .int .i64 d)]) hF (r_assign ev_c) rfl rfl rfl rfl fun a hF => ?_
                 refine E.opset (L' := [(7, .int .i64 4), (6, .int .i64 0), (32, .bool true), (31, undef), (30, undef), (29, undef), (28, undef), (27, undef), (26, .bool true), (25, .bool true), (24, undef), (23, undef), (22, .bool true), (21, .bool true), (20, undef), (19, undef), (18, .bool true), (17, .bool true), (16, .int .i64 mo), (15, .bool false), (14, .bool false), (13, .int .i64 y), (12, .bool false), (11, .bool false), (10, .int .i64 y), (0, .int .i64 y), (1, .int .i64 mo), (2, .int .i64 d)]) hF (r_assign ev_c) rfl rfl rfl rfl fun a hF => ?_
                 refine E.nil ?_
                 refine wp_ret ?_
                 refine bodyPost_ret (res_tmp2 Tryd.results16 (hF.at 1 rfl) (hF.at 0 rfl)) hF.dfr ?_
                 refine ⟨rv_int2 ?_ ?_, bel⟩
                 · exact (fix_bad (by omega) (by unfold Val; show ¬ (1 ≤ mo ∧ mo ≤ 12 ∧ 1 ≤ d ∧ d ≤ mlen (leapC y) mo); omega)).1
                 · exact (fix_bad (by omega) (by unfold Val; show ¬ (1 ≤ mo ∧ mo ≤ 12 ∧ 1 ≤ d ∧ d ≤ mlen (leapC y) mo); omega)).2)
            · first
              | (exfalso; omega)
              | (refine E.opv hF (r_bin (hF.at 0 rfl) ev_c eg_scalar (bi_int (ic_lss (c := false) (dec_ff hc3)) (by simp))) rfl rfl rfl rfl fun a hF => ?_
                 refine E.opv hF (r_move (hF.at 0 rfl)) rfl rfl rfl rfl fun a hF => ?_
                 refine E.opvg hF (r_move (hF.at 12 rfl)) (wanted_by rfl rfl (hF.at 0 rfl) rfl) rfl rfl rfl fun a hF => ?_
                 by_cases hc4 : 12 < mo
                 · first
                   | (exfalso; omega)
                   | (refine E.opvg hF (r_bin (hF.at 0 rfl) ev_c eg_scalar (bi_int (ic_gtr (c := true) (dec_tt hc4)) (by simp))) (wanted_by rfl rfl (hF.at 1 rfl) rfl) rfl rfl rfl fun a hF => ?_
                      refine E.opv hF (r_pick_f (hF.at 2 rfl) (hF.at 0 rfl)) rfl rfl rfl rfl fun a hF => ?_
                      refine E.opv hF (r_move (hF.at 0 rfl)) rfl rfl rfl rfl fun a hF => ?_
                      refine E.unwanted hF (wanted_by rfl rfl (hF.at 0 rfl) rfl) rfl rfl rfl fun a hF => ?_
                      refine E.unwanted hF (wanted_by rfl rfl (hF.at 1 rfl) rfl) rfl rfl rfl fun a hF => ?_
                      refine E.opv hF (r_pick_t (hF.at 2 rfl) ev_c) rfl rfl rfl rfl fun a hF => ?_
                      refine E.opv hF (r_move (hF.at 0 rfl)) rfl rfl rfl rfl fun a hF => ?_
                      refine E.unwanted hF (wanted_by rfl rfl (hF.at 0 rfl) rfl) rfl rfl rfl fun a hF => ?_
                      refine E.unwanted hF (wanted_by rfl rfl (hF.at 1 rfl) rfl) rfl rfl rfl fun a hF => ?_
                      refine E.unwanted hF (wanted_by rfl rfl (hF.at 2 rfl) rfl) rfl rfl rfl fun a hF => ?_
                      refine E.unwanted hF (wanted_by rfl rfl (hF.at 3 rfl) rfl) rfl rfl rfl fun a hF => ?_
                      refine E.unwanted hF (wanted_by rfl rfl (hF.at 4 rfl) rfl) rfl rfl rfl fun a hF => ?_
                      refine E.opv hF (r_pick_t (hF.at 5 rfl) ev_c) rfl rfl rfl rfl fun a hF => ?_
                      refine E.nil ?_
                      refine wp_cond_true (hF.at 0 rfl) ?_
                      refine wp_seq ?_
                      refine E.seq ?_
                      refine E.opset (L' := [(6, .int .i64 0), (32, .bool true), (31, undef), (30, undef), (29, undef), (28, undef), (27, undef), (26, .bool true), (25, .bool true), (24, undef), (23, undef), (22, .bool true), (21, .bool true), (20, .bool true), (19, .int .i64 mo), (18, .bool false), (17, .bool false), (16, .int .i64 mo), (15, .bool false), (14, .bool false), (13, .int .i64 y), (12, .bool false), (11, .bool false), (10, .int .i64 y), (7, .int .i64 0), (0, .int .i64 y), (1, .int .i64 mo), (2, .int .i64 d)]) hF (r_assign ev_c) rfl rfl rfl rfl fun a hF => ?_
                      refine E.opset (L' := [(7, .int .i64 4), (6, .int .i64 0), (32, .bool true), (31, undef), (30, undef), (29, undef), (28, undef), (27, undef), (26, .bool true), (25, .bool true), (24, undef), (23, undef), (22, .bool true), (21, .bool true), (20, .bool true), (19, .int .i64 mo), (18, .bool false), (17, .bool false), (16, .int .i64 mo), (15, .bool false), (14, .bool false), (13, .int .i64 y), (12, .bool false), (11, .bool false), (10, .int .i64 y), (0, .int .i64 y), (1, .int .i64 mo), (2, .int .i64 d)]) hF (r_assign ev_c) rfl rfl rfl rfl fun a hF => ?_
                      refine E.nil ?_
                      refine wp_ret ?_
                      refine bodyPost_ret (res_tmp2 Tryd.results16 (hF.at 1 rfl) (hF.at 0 rfl)) hF.dfr ?_
                      refine ⟨rv_int2 ?_ ?_, bel⟩
                      · exact (fix_bad (by omega) (by unfold Val; show ¬ (1 ≤ mo ∧ mo ≤ 12 ∧ 1 ≤ d ∧ d ≤ mlen (leapC y) mo); omega)).1
                      · exact (fix_bad (by omega) (by unfold Val; show ¬ (1 ≤ mo ∧ mo ≤ 12 ∧ 1 ≤ d ∧ d ≤ mlen (leapC y) mo); omega)).2)
                 · first
                   | (exfalso; omega)
                   | (refine E.opvg hF (r_bin (hF.at 0 rfl) ev_c eg_scalar (bi_int (ic_gtr (c := false) (dec_ff hc4)) (by simp))) (wanted_by rfl rfl (hF.at 1 rfl) rfl) rfl rfl rfl fun a hF => ?_
                      refine E.opv hF (r_pick_f (hF.at 2 rfl) (hF.at 0 rfl)) rfl rfl rfl rfl fun a hF => ?_
                      refine E.opv hF (r_move (hF.at 0 rfl)) rfl rfl rfl rfl fun a hF => ?_
                      refine E.opvg hF (r_move (hF.at 17 rfl)) (wanted_by rfl rfl (hF.at 0 rfl) rfl) rfl rfl rfl fun a hF => ?_
                      by_cases hc5 : d < 1
                      · first
                        | (exfalso; omega)
                        | (refine E.opvg hF (r_bin (hF.at 0 rfl) ev_c eg_scalar (bi_int (ic_lss (c := true) (dec_tt hc5)) (by simp))) (wanted_by rfl rfl (hF.at 1 rfl) rfl) rfl rfl rfl fun a hF => ?_
                           refine E.opv hF (r_pick_f (hF.at 2 rfl) (hF.at 0 rfl)) rfl rfl rfl rfl fun a hF => ?_
                           refine E.opv hF (r_move (hF.at 0 rfl)) rfl rfl rfl rfl fun a hF => ?_
                           refine E.unwanted hF (wanted_by rfl rfl (hF.at 0 rfl) rfl) rfl rfl rfl fun a hF => ?_
                           refine E.unwanted hF (wanted_by rfl rfl (hF.at 1 rfl) rfl) rfl rfl rfl fun a hF => ?_
                           refine E.unwanted hF (wanted_by rfl rfl (hF.at 2 rfl) rfl) rfl rfl rfl fun a hF => ?_
                           refine E.unwanted hF (wanted_by rfl rfl (hF.at 3 rfl) rfl) rfl rfl rfl fun a hF => ?_
                           refine E.unwanted hF (wanted_by rfl rfl (hF.at 4 rfl) rfl) rfl rfl rfl fun a hF => ?_
                           refine E.opv hF (r_pick_t (hF.at 5 rfl) ev_c) rfl rfl rfl rfl fun a hF => ?_
                           refine E.nil ?_
                           refine wp_cond_true (hF.at 0 rfl) ?_
                           refine wp_seq ?_
                           refine E.seq ?_
                           refine E.opset (L' := [(6, .int .i64 0), (32, .bool true), (31, undef), (30, undef), (29, undef), (28, undef), (27, undef), (26, .bool true), (25, .bool true), (24, .bool true), (23, .int .i64 d), (22, .bool false), (21, .bool false), (20, .bool false), (19, .int .i64 mo), (18, .bool false), (17, .bool false), (16, .int .i64 mo), (15, .bool false), (14, .bool false), (13, .int .i64 y), (12, .bool false), (11, .bool false), (10, .int .i64 y), (7, .int .i64 0), (0, .int .i64 y), (1, .int .i64 mo), (2, .int .i64 d)]) hF (r_assign ev_c) rfl rfl rfl rfl fun a hF => ?_
                           refine E.opset (L' := [(7, .int .i64 4), (6, .int .i64 0), (32, .bool true), (31, undef), (30, undef), (29, undef), (28, undef), (27, undef), (26, .bool true), (25, .bool true), (24, .bool true), (23, .int .i64 d), (22, .bool false), (21, .bool false), (20, .bool false), (19, .int .i64 mo), (18, .bool false), (17, .bool false), (16, .int .i64 mo), (15, .bool false), (14, .bool false), (13, .int .i64 y), (12, .bool false), (11, .bool false), (10, .int .i64 y), (0, .int .i64 y), (1, .int .i64 mo), (2, .int .i64 d)]) hF (r_assign ev_c) rfl rfl rfl rfl fun a hF => ?_
                           refine E.nil ?_
                           refine wp_ret ?_
                           refine bodyPost_ret (res_tmp2 Tryd.results16 (hF.at 1 rfl) (hF.at 0 rfl)) hF.dfr ?_
                           refine ⟨rv_int2 ?_ ?_, bel⟩
                           · exact (fix_bad (by omega) (by unfold Val; show ¬ (1 ≤ mo ∧ mo ≤ 12 ∧ 1 ≤ d ∧ d ≤ mlen (leapC y) mo); omega)).1
                           · exact (fix_bad (by omega) (by unfold Val; show ¬ (1 ≤ mo ∧ mo ≤ 12 ∧ 1 ≤ d ∧ d ≤ mlen (leapC y) mo); omega)).2)
                      · first
                        | (exfalso; omega)
                        | (refine E.opvg hF (r_bin (hF.at 0 rfl) ev_c eg_scalar (bi_int (ic_lss (c := false) (dec_ff hc5)) (by simp))) (wanted_by rfl rfl (hF.at 1 rfl) rfl) rfl rfl rfl fun a hF => ?_
                           refine E.opv hF (r_pick_f (hF.at 2 rfl) (hF.at 0 rfl)) rfl rfl rfl rfl fun a hF => ?_
                           refine E.opv hF (r_move (hF.at 0 rfl)) rfl rfl rfl rfl fun a hF => ?_
                           refine E.opvg hF (r_move (hF.at 21 rfl)) (wanted_by rfl rfl (hF.at 0 rfl) rfl) rfl rfl rfl fun a hF => ?_
                           refine E.opvg hF (r_move (hF.at 20 rfl)) (wanted_by rfl rfl (hF.at 1 rfl) rfl) rfl rfl rfl fun a hF => ?_
                           refine E.opvg hF (r_move (hF.at 22 rfl)) (wanted_by rfl rfl (hF.at 2 rfl) rfl) rfl rfl rfl fun a hF => ?_
                           refine E.callg hF (r_call Tryd.func21 en21.1 en21.2 (map2 (hF.at 1 rfl) (hF.at 0 rfl))) (dlenC_any y mo _) (wanted_by rfl rfl (hF.at 3 rfl) rfl) rfl rfl rfl ?_
                           rintro e w6 ⟨rfl, bb⟩
                           refine ⟨_, rfl, ?_⟩
                           intro a hF
                           replace bel := below_to bel bb
                           clear bb
                           by_cases hc7 : mlen (leapC y) mo < d
                           · first
                             | (exfalso; omega)
                             | (refine E.opvg hF (r_bin (hF.at 3 rfl) (hF.at 0 rfl) eg_scalar (bi_int (ic_gtr (c := true) (dec_tt hc7)) (by simp))) (wanted_by rfl rfl (hF.at 4 rfl) rfl) rfl rfl rfl fun a hF => ?_
                                refine E.opv hF (r_pick_f (hF.at 5 rfl) (hF.at 0 rfl)) rfl rfl rfl rfl fun a hF => ?_
                                refine E.nil ?_
                                refine wp_cond_true (hF.at 0 rfl) ?_
                                refine wp_seq ?_
                                refine E.seq ?_
                                refine E.opset (L' := [(6, .int .i64 0), (32, .bool true), (31, .bool true), (30, .int .i64 (mlen (leapC y) mo)), (29, .int .i64 mo), (28, .int .i64 y), (27, .int .i64 d), (26, .bool false), (25, .bool false), (24, .bool false), (23, .int .i64 d), (22, .bool false), (21, .bool false), (20, .bool false), (19, .int .i64 mo), (18, .bool false), (17, .bool false), (16, .int .i64 mo), (15, .bool false), (14, .bool false), (13, .int .i64 y), (12, .bool false), (11, .bool false), (10, .int .i64 y), (7, .int .i64 0), (0, .int .i64 y), (1, .int .i64 mo), (2, .int .i64 d)]) hF (r_assign ev_c) rfl rfl rfl rfl fun a hF => ?_
                                refine E.opset (L' := [(7, .int .i64 4), (6, .int .i64 0), (32, .bool true), (31, .bool true), (30, .int .i64 (mlen (leapC y) mo)), (29, .int .i64 mo), (28, .int .i64 y), (27, .int .i64 d), (26, .bool false), (25, .bool false), (24, .bool false), (23, .int .i64 d), (22, .bool false), (21, .bool false), (20, .bool false), (19, .int .i64 mo), (18, .bool false), (17, .bool false), (16, .int .i64 mo), (15, .bool false), (14, .bool false), (13, .int .i64 y), (12, .bool false), (11, .bool false), (10, .int .i64 y), (0, .int .i64 y), (1, .int .i64 mo), (2, .int .i64 d)]) hF (r_assign ev_c) rfl rfl rfl rfl fun a hF => ?_
                                refine E.nil ?_
                                refine wp_ret ?_
                                refine bodyPost_ret (res_tmp2 Tryd.results16 (hF.at 1 rfl) (hF.at 0 rfl)) hF.dfr ?_
                                refine ⟨rv_int2 ?_ ?_, bel⟩
                                · exact (fix_bad (by omega) (by unfold Val; show ¬ (1 ≤ mo ∧ mo ≤ 12 ∧ 1 ≤ d ∧ d ≤ mlen (leapC y) mo); omega)).1
                                · exact (fix_bad (by omega) (by unfold Val; show ¬ (1 ≤ mo ∧ mo ≤ 12 ∧ 1 ≤ d ∧ d ≤ mlen (leapC y) mo); omega)).2)
                           · first
                             | (exfalso; omega)
                             | (refine E.opvg hF (r_bin (hF.at 3 rfl) (hF.at 0 rfl) eg_scalar (bi_int (ic_gtr (c := false) (dec_ff hc7)) (by simp))) (wanted_by rfl rfl (hF.at 4 rfl) rfl) rfl rfl rfl fun a hF => ?_
                                refine E.opv hF (r_pick_f (hF.at 5 rfl) (hF.at 0 rfl)) rfl rfl rfl rfl fun a hF => ?_
                                refine E.nil ?_
                                refine wp_cond_false (hF.at 0 rfl) ?_
                                refine wp_skip ?_
                                refine E.norm ?_
                                refine wp_seq ?_
                                refine E.seq ?_
                                refine E.opv hF (r_move (hF.at 25 rfl)) rfl rfl rfl rfl fun a hF => ?_
                                refine E.call hF (r_call Tryd.func41 en41.1 en41.2 (map1 (hF.at 0 rfl))) (dnewC_any y _ (by omega) (by omega)) rfl rfl rfl rfl ?_
                                rintro e w8 ⟨rfl, bb⟩
                                refine ⟨_, rfl, ?_⟩
                                intro a hF
                                have hfb := firstC_bd (y := y) (by omega) (by omega)
                                replace bel := below_to bel bb
                                clear bb
                                refine E.opv hF (r_move (hF.at 29 rfl)) rfl rfl rfl rfl fun a hF => ?_
                                refine E.opv hF (r_bin (hF.at 1 rfl) (hF.at 0 rfl) eg_scalar (ia_add (by omega) (by omega))) rfl rfl rfl rfl fun a hF => ?_
                                refine E.opv hF (r_assign (hF.at 0 rfl)) rfl rfl rfl rfl fun a hF => ?_
                                refine E.nil ?_
                                refine wp_seq ?_
                                refine wp_seq ?_
                                refine E.seq ?_
                                refine E.opv hF (r_assign ev_c) rfl rfl rfl rfl fun a hF => ?_
                                refine E.nil ?_
                                refine wp_block ?_
                                refine E.loop (fun mq a wv => ∃ (n : Int) (k : Int), 1 ≤ k ∧ k ≤ mo ∧ n = firstC y + (d - 1) + cum (leapC y) k ∧ Fr 54 a [(9, .int .i64 k), (8, .int .i64 n), (7, .int .i64 0), (6, .int .i64 0), (0, .int .i64 y), (1, .int .i64 mo)] ∧ Below w8.heap.size w8 wv ∧ Below w.heap.size w wv ∧ mq = (mo - k : Int).toNat) ((mo - (1) : Int).toNat) ?_ ?_
                                · exact ⟨((firstC y - 1) + d : Int), (1 : Int), (by omega), (by omega), (by rw [cum_one]; omega), hF.sub (by intro p hp; simp only [List.mem_cons, List.not_mem_nil, or_false] at hp ⊢; rcases hp with rfl | rfl | rfl | rfl | rfl | rfl <;> simp), Below.refl _ _, bel, rfl⟩
                                · rintro mq a w9 ⟨n, k, hk1, hk2, hn, hF, sty, bel, hm⟩
                                  have hcb := cum_bd (leapC y) (m := k) hk1 (by omega)
                                  have hmb := mlen_bd (leapC y) k
                                  have hmd := mlen_bd (leapC y) mo
                                  have hfb := firstC_bd (y := y) (by omega) (by omega)
                                  refine wp_seq ?_
                                  refine wp_seq ?_
                                  refine E.seq ?_
                                  refine E.opv hF (r_move (hF.at 0 rfl)) rfl rfl rfl rfl fun a hF => ?_
                                  refine E.opv hF (r_move (hF.at 6 rfl)) rfl rfl rfl rfl fun a hF => ?_
                                  by_cases hc10 : k < mo
                                  · first
                                    | (exfalso; omega)
                                    | (refine E.opv hF (r_bin (hF.at 1 rfl) (hF.at 0 rfl) eg_scalar (bi_int (ic_lss (c := true) (dec_tt hc10)) (by simp))) rfl rfl rfl rfl fun a hF => ?_
                                       refine E.nil ?_
                                       refine wp_cond_true (hF.at 0 rfl) ?_
                                       refine wp_skip ?_
                                       refine E.norm ?_
                                       refine wp_seq ?_
                                       refine wp_block ?_
                                       refine E.seq ?_
                                       refine E.opv hF (r_move (hF.at 4 rfl)) rfl rfl rfl rfl fun a hF => ?_
                                       refine E.opv hF (r_move (hF.at 8 rfl)) rfl rfl rfl rfl fun a hF => ?_
                                       refine E.opv hF (r_move (hF.at 5 rfl)) rfl rfl rfl rfl fun a hF => ?_
                                       refine E.call hF (r_call Tryd.func21 en21.1 en21.2 (map2 (hF.at 1 rfl) (hF.at 0 rfl))) (dlenC_any y k _) rfl rfl rfl rfl ?_
                                       rintro e w11 ⟨rfl, bb⟩
                                       refine ⟨_, rfl, ?_⟩
                                       intro a hF
                                       replace bel := below_to bel bb
                                       replace sty := below_to sty bb
                                       clear bb
                                       refine E.opv hF (r_bin (hF.at 3 rfl) (hF.at 0 rfl) eg_scalar (ia_add (by omega) (by omega))) rfl rfl rfl rfl fun a hF => ?_
                                       refine E.opset (L' := [(8, .int .i64 (n + (mlen (leapC y) k))), (46, .int .i64 (n + (mlen (leapC y) k))), (45, .int .i64 (mlen (leapC y) k)), (44, .int .i64 k), (43, .int .i64 y), (42, .int .i64 n), (39, .bool true), (38, .int .i64 mo), (37, .int .i64 k), (9, .int .i64 k), (7, .int .i64 0), (6, .int .i64 0), (0, .int .i64 y), (1, .int .i64 mo)]) hF (r_assign (hF.at 0 rfl)) rfl rfl rfl rfl fun a hF => ?_
                                       refine E.nil0 ?_
                                       refine E.blk ?_
                                       refine E.norm ?_
                                       refine E.seq ?_
                                       refine E.opv hF (r_move (hF.at 9 rfl)) rfl rfl rfl rfl fun a hF => ?_
                                       refine E.opv hF (r_bin (hF.at 0 rfl) ev_c eg_scalar (ia_add (by omega) (by omega))) rfl rfl rfl rfl fun a hF => ?_
                                       refine E.opset (L' := [(9, .int .i64 (k + 1)), (41, .int .i64 (k + 1)), (40, .int .i64 k), (8, .int .i64 (n + (mlen (leapC y) k))), (46, .int .i64 (n + (mlen (leapC y) k))), (45, .int .i64 (mlen (leapC y) k)), (44, .int .i64 k), (43, .int .i64 y), (42, .int .i64 n), (39, .bool true), (38, .int .i64 mo), (37, .int .i64 k), (7, .int .i64 0), (6, .int .i64 0), (0, .int .i64 y), (1, .int .i64 mo)]) hF (r_assign (hF.at 0 rfl)) rfl rfl rfl rfl fun a hF => ?_
                                       refine E.nil0 ?_
                                       refine E.norm ?_
                                       exact ⟨(mo - (k + 1) : Int).toNat, by omega, ⟨(n + (mlen (leapC y) k) : Int), (k + 1 : Int), (by omega), (by omega), (by have := cum_step (leapC y) (m := k) hk1 (by omega); omega), Fr.sub (L' := [(9, .int .i64 (k + 1)), (8, .int .i64 (n + (mlen (leapC y) k))), (7, .int .i64 0), (6, .int .i64 0), (0, .int .i64 y), (1, .int .i64 mo)]) hF (by intro p hp; simp only [List.mem_cons, List.not_mem_nil, or_false] at hp ⊢; rcases hp with rfl | rfl | rfl | rfl | rfl | rfl <;> simp), sty, bel, rfl⟩⟩)
                                  · first
                                    | (exfalso; omega)
                                    | (refine E.opv hF (r_bin (hF.at 1 rfl) (hF.at 0 rfl) eg_scalar (bi_int (ic_lss (c := false) (dec_ff hc10)) (by simp))) rfl rfl rfl rfl fun a hF => ?_
                                       refine E.nil ?_
                                       refine wp_cond_false (hF.at 0 rfl) ?_
                                       refine wp_exit ?_
                                       refine E.past ?_
                                       refine E.past ?_
                                       refine E.out (id := 0) ?_
                                       refine E.norm ?_
                                       refine wp_seq ?_
                                       refine wp_seq ?_
                                       refine E.seq ?_
                                       refine E.opv hF (r_move (hF.at 4 rfl)) rfl rfl rfl rfl fun a hF => ?_
                                       by_cases hc12 : n < (-3000000)
                                       · first
                                         | (exfalso; omega)
                                         | (refine E.opv hF (r_bin (hF.at 0 rfl) ev_c eg_scalar (bi_int (ic_lss (c := true) (dec_tt hc12)) (by simp))) rfl rfl rfl rfl fun a hF => ?_
                                            refine E.opv hF (r_move (hF.at 0 rfl)) rfl rfl rfl rfl fun a hF => ?_
                                            refine E.unwanted hF (wanted_by rfl rfl (hF.at 0 rfl) rfl) rfl rfl rfl fun a hF => ?_
                                            refine E.unwanted hF (wanted_by rfl rfl (hF.at 1 rfl) rfl) rfl rfl rfl fun a hF => ?_
                                            refine E.opv hF (r_pick_t (hF.at 2 rfl) ev_c) rfl rfl rfl rfl fun a hF => ?_
                                            refine E.nil ?_
                                            refine wp_cond_true (hF.at 0 rfl) ?_
                                            refine wp_seq ?_
                                            refine E.seq ?_
                                            refine E.opset (L' := [(6, .int .i64 0), (52, .bool true), (51, undef), (50, undef), (49, .bool true), (48, .bool true), (47, .int .i64 n), (39, .bool false), (38, .int .i64 mo), (37, .int .i64 k), (9, .int .i64 k), (8, .int .i64 n), (7, .int .i64 0), (0, .int .i64 y), (1, .int .i64 mo)]) hF (r_assign ev_c) rfl rfl rfl rfl fun a hF => ?_
                                            refine E.opset (L' := [(7, .int .i64 2), (6, .int .i64 0), (52, .bool true), (51, undef), (50, undef), (49, .bool true), (48, .bool true), (47, .int .i64 n), (39, .bool false), (38, .int .i64 mo), (37, .int .i64 k), (9, .int .i64 k), (8, .int .i64 n), (0, .int .i64 y), (1, .int .i64 mo)]) hF (r_assign ev_c) rfl rfl rfl rfl fun a hF => ?_
                                            refine E.nil ?_
                                            refine wp_ret ?_
                                            refine bodyPost_ret (res_tmp2 Tryd.results16 (hF.at 1 rfl) (hF.at 0 rfl)) hF.dfr ?_
                                            have hkm : k = mo := by omega
                                            subst hkm
                                            have hday : n = calC.day y k d := by rw [hn]; show _ = firstC y + cum (leapC y) k + d - 1; omega
                                            have hval : Val (calC.leap y) k d := ⟨hk1, by omega, by omega, by show d ≤ mlen (leapC y) k; omega⟩
                                            refine ⟨rv_int2 ?_ ?_, bel⟩
                                            · exact (fix_far (by omega) hval (by rw [← hday]; exact mayB_f (by omega))).1
                                            · exact (fix_far (by omega) hval (by rw [← hday]; exact mayB_f (by omega))).2)
                                       · first
                                         | (exfalso; omega)
                                         | (refine E.opv hF (r_bin (hF.at 0 rfl) ev_c eg_scalar (bi_int (ic_lss (c := false) (dec_ff hc12)) (by simp))) rfl rfl rfl rfl fun a hF => ?_
                                            refine E.opv hF (r_move (hF.at 0 rfl)) rfl rfl rfl rfl fun a hF => ?_
                                            refine E.opvg hF (r_move (hF.at 7 rfl)) (wanted_by rfl rfl (hF.at 0 rfl) rfl) rfl rfl rfl fun a hF => ?_
                                            by_cases hc13 : 3000000 < n
                                            · first
                                              | (exfalso; omega)
                                              | (refine E.opvg hF (r_bin (hF.at 0 rfl) ev_c eg_scalar (bi_int (ic_gtr (c := true) (dec_tt hc13)) (by simp))) (wanted_by rfl rfl (hF.at 1 rfl) rfl) rfl rfl rfl fun a hF => ?_
                                                 refine E.opv hF (r_pick_f (hF.at 2 rfl) (hF.at 0 rfl)) rfl rfl rfl rfl fun a hF => ?_
                                                 refine E.nil ?_
                                                 refine wp_cond_true (hF.at 0 rfl) ?_
                                                 refine wp_seq ?_
                                                 refine E.seq ?_
                                                 refine E.opset (L' := [(6, .int .i64 0), (52, .bool true), (51, .bool true), (50, .int .i64 n), (49, .bool false), (48, .bool false), (47, .int .i64 n), (39, .bool false), (38, .int .i64 mo), (37, .int .i64 k), (9, .int .i64 k), (8, .int .i64 n), (7, .int .i64 0), (0, .int .i64 y), (1, .int .i64 mo)]) hF (r_assign ev_c) rfl rfl rfl rfl fun a hF => ?_
                                                 refine E.opset (L' := [(7, .int .i64 2), (6, .int .i64 0), (52, .bool true), (51, .bool true), (50, .int .i64 n), (49, .bool false), (48, .bool false), (47, .int .i64 n), (39, .bool false), (38, .int .i64 mo), (37, .int .i64 k), (9, .int .i64 k), (8, .int .i64 n), (0, .int .i64 y), (1, .int .i64 mo)]) hF (r_assign ev_c) rfl rfl rfl rfl fun a hF => ?_
                                                 refine E.nil ?_
                                                 refine wp_ret ?_
                                                 refine bodyPost_ret (res_tmp2 Tryd.results16 (hF.at 1 rfl) (hF.at 0 rfl)) hF.dfr ?_
                                                 have hkm : k = mo := by omega
                                                 subst hkm
                                                 have hday : n = calC.day y k d := by rw [hn]; show _ = firstC y + cum (leapC y) k + d - 1; omega
                                                 have hval : Val (calC.leap y) k d := ⟨hk1, by omega, by omega, by show d ≤ mlen (leapC y) k; omega⟩
                                                 refine ⟨rv_int2 ?_ ?_, bel⟩
                                                 · exact (fix_far (by omega) hval (by rw [← hday]; exact mayB_f (by omega))).1
                                                 · exact (fix_far (by omega) hval (by rw [← hday]; exact mayB_f (by omega))).2)
                                            · first
                                              | (exfalso; omega)
                                              | (refine E.opvg hF (r_bin (hF.at 0 rfl) ev_c eg_scalar (bi_int (ic_gtr (c := false) (dec_ff hc13)) (by simp))) (wanted_by rfl rfl (hF.at 1 rfl) rfl) rfl rfl rfl fun a hF => ?_
                                                 refine E.opv hF (r_pick_f (hF.at 2 rfl) (hF.at 0 rfl)) rfl rfl rfl rfl fun a hF => ?_
                                                 refine E.nil ?_
                                                 refine wp_cond_false (hF.at 0 rfl) ?_
                                                 refine wp_skip ?_
                                                 refine E.norm ?_
                                                 refine wp_seq ?_
                                                 refine E.seq ?_
                                                 refine E.opv hF (r_move (hF.at 10 rfl)) rfl rfl rfl rfl fun a hF => ?_
                                                 refine E.opset (L' := [(6, .int .i64 n), (53, .int .i64 n), (52, .bool false), (51, .bool false), (50, .int .i64 n), (49, .bool false), (48, .bool false), (47, .int .i64 n), (39, .bool false), (38, .int .i64 mo), (37, .int .i64 k), (9, .int .i64 k), (8, .int .i64 n), (7, .int .i64 0), (0, .int .i64 y), (1, .int .i64 mo)]) hF (r_assign (hF.at 0 rfl)) rfl rfl rfl rfl fun a hF => ?_
                                                 refine E.opset (L' := [(7, .int .i64 0), (6, .int .i64 n), (53, .int .i64 n), (52, .bool false), (51, .bool false), (50, .int .i64 n), (49, .bool false), (48, .bool false), (47, .int .i64 n), (39, .bool false), (38, .int .i64 mo), (37, .int .i64 k), (9, .int .i64 k), (8, .int .i64 n), (0, .int .i64 y), (1, .int .i64 mo)]) hF (r_assign ev_c) rfl rfl rfl rfl fun a hF => ?_
                                                 refine E.nil ?_
                                                 refine wp_ret ?_
                                                 refine bodyPost_ret (res_tmp2 Tryd.results16 (hF.at 1 rfl) (hF.at 0 rfl)) hF.dfr ?_
                                                 have hkm : k = mo := by omega
                                                 subst hkm
                                                 have hday : n = calC.day y k d := by rw [hn]; show _ = firstC y + cum (leapC y) k + d - 1; omega
                                                 have hval : Val (calC.leap y) k d := ⟨hk1, by omega, by omega, by show d ≤ mlen (leapC y) k; omega⟩
                                                 refine ⟨rv_int2 ?_ ?_, bel⟩
                                                 · exact hday.trans (fix_ok (by omega) hval (by rw [← hday]; exact mayB_t (by omega) (by omega))).1
                                                 · exact (fix_ok (by omega) hval (by rw [← hday]; exact mayB_t (by omega) (by omega))).2)))))))))

set_option maxHeartbeats 1000000 in
theorem dnextC_any (y mo d : Int) (w : World) (h0 : -9000 ≤ y) (h1 : y ≤ 9000) (h2 : -1000 ≤ mo) (h3 : -1000 ≤ d) :
    Calls Tryd.prog 23 #[.int .i64 y, .int .i64 mo, .int .i64 d] w (ValPost w (.tuple #[.int .i64 (calC.next y mo d).1, .int .i64 (calC.next y mo d).2.1, .int .i64 (calC.next y mo d).2.2])) := by
  have hmd := mlen_bd (leapC y) mo
  have bel : Below w.heap.size w w := Below.refl _ _
  refine E.enter (nt := 25) (L := [(0, .int .i64 y), (1, .int .i64 mo), (2, .int .i64 d)]) Tryd.func23 rfl rfl rfl (args_cons (i := 0) rfl (args_cons (i := 1) rfl (args_cons (i := 2) rfl args_nil))) ?_
  intro a hF
  refine wp_seq ?_
  refine E.seq ?_
  refine E.opv hF (r_assign ev_c) rfl rfl rfl rfl fun a hF => ?_
  refine E.opv hF (r_assign ev_c) rfl rfl rfl rfl fun a hF => ?_
  refine E.opv hF (r_assign ev_c) rfl rfl rfl rfl fun a hF => ?_
  refine E.nil ?_
  refine wp_seq ?_
  refine wp_seq ?_
  refine E.seq ?_
  refine E.opv hF (r_move (hF.at 5 rfl)) rfl rfl rfl rfl fun a hF => ?_
  refine E.opv hF (r_move (hF.at 4 rfl)) rfl rfl rfl rfl fun a hF => ?_
  refine E.opv hF (r_move (hF.at 6 rfl)) rfl rfl rfl rfl fun a hF => ?_
  refine E.call hF (r_call Tryd.func21 en21.1 en21.2 (map2 (hF.at 1 rfl) (hF.at 0 rfl))) (dlenC_any y mo _) rfl rfl rfl rfl ?_
  rintro e w1 ⟨rfl, bb⟩
  refine ⟨_, rfl, ?_⟩
  intro a hF
  replace bel := below_to bel bb
  clear bb
  by_cases hc2 : d < mlen (leapC y) mo
  · first
    | (exfalso; omega)
    | (refine E.opv hF (r_bin (hF.at 3 rfl) (hF.at 0 rfl) eg_scalar (bi_int (ic_lss (c := true) (dec_tt hc2)) (by simp))) rfl rfl rfl rfl fun a hF => ?_
       refine E.nil ?_
       refine wp_cond_true (hF.at 0 rfl) ?_
       refine wp_seq ?_
       refine E.seq ?_
       refine E.opv hF (r_move (hF.at 8 rfl)) rfl rfl rfl rfl fun a hF => ?_
       refine E.opv hF (r_move (hF.at 10 rfl)) rfl rfl rfl rfl fun a hF => ?_
       refine E.opv hF (r_move (hF.at 12 rfl)) rfl rfl rfl rfl fun a hF => ?_
       refine E.opv hF (r_bin (hF.at 0 rfl) ev_c eg_scalar (ia_add (by omega) (by omega))) rfl rfl rfl rfl fun a hF => ?_
       refine E.opset (L' := [(6, .int .i64 y), (17, .int .i64 (d + 1)), (16, .int .i64 d), (15, .int .i64 mo), (14, .int .i64 y), (13, .bool true), (12, .int .i64 (mlen (leapC y) mo)), (11, .int .i64 mo), (10, .int .i64 y), (9, .int .i64 d), (8, .int .i64 0), (7, .int .i64 0), (0, .int .i64 y), (1, .int .i64 mo), (2, .int .i64 d)]) hF (r_assign (hF.at 3 rfl)) rfl rfl rfl rfl fun a hF => ?_
       refine E.opset (L' := [(7, .int .i64 mo), (6, .int .i64 y), (17, .int .i64 (d + 1)), (16, .int .i64 d), (15, .int .i64 mo), (14, .int .i64 y), (13, .bool true), (12, .int .i64 (mlen (leapC y) mo)), (11, .int .i64 mo), (10, .int .i64 y), (9, .int .i64 d), (8, .int .i64 0), (0, .int .i64 y), (1, .int .i64 mo), (2, .int .i64 d)]) hF (r_assign (hF.at 3 rfl)) rfl rfl rfl rfl fun a hF => ?_
       refine E.opset (L' := [(8, .int .i64 (d + 1)), (7, .int .i64 mo), (6, .int .i64 y), (17, .int .i64 (d + 1)), (16, .int .i64 d), (15, .int .i64 mo), (14, .int .i64 y), (13, .bool true), (12, .int .i64 (mlen (leapC y) mo)), (11, .int .i64 mo), (10, .int .i64 y), (9, .int .i64 d), (0, .int .i64 y), (1, .int .i64 mo), (2, .int .i64 d)]) hF (r_assign (hF.at 2 rfl)) rfl rfl rfl rfl fun a hF => ?_
       refine E.nil ?_
       refine wp_ret ?_
       refine bodyPost_ret (res_tmp3 Tryd.results23 (hF.at 2 rfl) (hF.at 1 rfl) (hF.at 0 rfl)) hF.dfr ?_
       have hnx : calC.next y mo d = (y, mo, d + 1) := by
         unfold Cal.next
         show (if d < mlen (leapC y) mo then _ else _) = _
         rw [if_pos (by assumption)]
       rw [hnx]
       exact ⟨rfl, bel⟩)
  · first
    | (exfalso; omega)
    | (refine E.opv hF (r_bin (hF.at 3 rfl) (hF.at 0 rfl) eg_scalar (bi_int (ic_lss (c := false) (dec_ff hc2)) (by simp))) rfl rfl rfl rfl fun a hF => ?_
       refine E.nil ?_
       refine wp_cond_false (hF.at 0 rfl) ?_
       refine wp_skip ?_
       refine E.norm ?_
       refine wp_seq ?_
       refine wp_seq ?_
       refine E.seq ?_
       refine E.opv hF (r_move (hF.at 9 rfl)) rfl rfl rfl rfl fun a hF => ?_
       by_cases hc3 : mo < 12
       · first
         | (exfalso; omega)
         | (refine E.opv hF (r_bin (hF.at 0 rfl) ev_c eg_scalar (bi_int (ic_lss (c := true) (dec_tt hc3)) (by simp))) rfl rfl rfl rfl fun a hF => ?_
            refine E.nil ?_
            refine wp_cond_true (hF.at 0 rfl) ?_
            refine wp_seq ?_
            refine E.seq ?_
            refine E.opv hF (r_move (hF.at 10 rfl)) rfl rfl rfl rfl fun a hF => ?_
            refine E.opv hF (r_move (hF.at 12 rfl)) rfl rfl rfl rfl fun a hF => ?_
            refine E.opv hF (r_bin (hF.at 0 rfl) ev_c eg_scalar (ia_add (by omega) (by omega))) rfl rfl rfl rfl fun a hF => ?_
            refine E.opset (L' := [(6, .int .i64 y), (22, .int .i64 (mo + 1)), (21, .int .i64 mo), (20, .int .i64 y), (19, .bool true), (18, .int .i64 mo), (13, .bool false), (12, .int .i64 (mlen (leapC y) mo)), (11, .int .i64 mo), (10, .int .i64 y), (9, .int .i64 d), (8, .int .i64 0), (7, .int .i64 0), (0, .int .i64 y), (1, .int .i64 mo), (2, .int .i64 d)]) hF (r_assign (hF.at 2 rfl)) rfl rfl rfl rfl fun a hF => ?_
            refine E.opset (L' := [(7, .int .i64 (mo + 1)), (6, .int .i64 y), (22, .int .i64 (mo + 1)), (21, .int .i64 mo), (20, .int .i64 y), (19, .bool true), (18, .int .i64 mo), (13, .bool false), (12, .int .i64 (mlen (leapC y) mo)), (11, .int .i64 mo), (10, .int .i64 y), (9, .int .i64 d), (8, .int .i64 0), (0, .int .i64 y), (1, .int .i64 mo), (2, .int .i64 d)]) hF (r_assign (hF.at 1 rfl)) rfl rfl rfl rfl fun a hF => ?_
            refine E.opset (L' := [(8, .int .i64 1), (7, .int .i64 (mo + 1)), (6, .int .i64 y), (22, .int .i64 (mo + 1)), (21, .int .i64 mo), (20, .int .i64 y), (19, .bool true), (18, .int .i64 mo), (13, .bool false), (12, .int .i64 (mlen (leapC y) mo)), (11, .int .i64 mo), (10, .int .i64 y), (9, .int .i64 d), (0, .int .i64 y), (1, .int .i64 mo), (2, .int .i64 d)]) hF (r_assign ev_c) rfl rfl rfl rfl fun a hF => ?_
            refine E.nil ?_
            refine wp_ret ?_
            refine bodyPost_ret (res_tmp3 Tryd.results23 (hF.at 2 rfl) (hF.at 1 rfl) (hF.at 0 rfl)) hF.dfr ?_
            have hnx : calC.next y mo d = (y, mo + 1, 1) := by
              unfold Cal.next
              show (if d < mlen (leapC y) mo then _ else _) = _
              rw [if_neg (by assumption), if_pos (by assumption)]
            rw [hnx]
            exact ⟨rfl, bel⟩)
       · first
         | (exfalso; omega)
         | (refine E.opv hF (r_bin (hF.at 0 rfl) ev_c eg_scalar (bi_int (ic_lss (c := false) (dec_ff hc3)) (by simp))) rfl rfl rfl rfl fun a hF => ?_
            refine E.nil ?_
            refine wp_cond_false (hF.at 0 rfl) ?_
            refine wp_skip ?_
            refine E.norm ?_
            refine wp_seq ?_
            refine E.seq ?_
            refine E.opv hF (r_move (hF.at 10 rfl)) rfl rfl rfl rfl fun a hF => ?_
            refine E.opv hF (r_bin (hF.at 0 rfl) ev_c eg_scalar (ia_add (by omega) (by omega))) rfl rfl rfl rfl fun a hF => ?_
            refine E.opset (L' := [(6, .int .i64 (y + 1)), (24, .int .i64 (y + 1)), (23, .int .i64 y), (19, .bool false), (18, .int .i64 mo), (13, .bool false), (12, .int .i64 (mlen (leapC y) mo)), (11, .int .i64 mo), (10, .int .i64 y), (9, .int .i64 d), (8, .int .i64 0), (7, .int .i64 0), (0, .int .i64 y), (1, .int .i64 mo), (2, .int .i64 d)]) hF (r_assign (hF.at 0 rfl)) rfl rfl rfl rfl fun a hF => ?_
            refine E.opset (L' := [(7, .int .i64 1), (6, .int .i64 (y + 1)), (24, .int .i64 (y + 1)), (23, .int .i64 y), (19, .bool false), (18, .int .i64 mo), (13, .bool false), (12, .int .i64 (mlen (leapC y) mo)), (11, .int .i64 mo), (10, .int .i64 y), (9, .int .i64 d), (8, .int .i64 0), (0, .int .i64 y), (1, .int .i64 mo), (2, .int .i64 d)]) hF (r_assign ev_c) rfl rfl rfl rfl fun a hF => ?_
            refine E.opset (L' := [(8, .int .i64 1), (7, .int .i64 1), (6, .int .i64 (y + 1)), (24, .int .i64 (y + 1)), (23, .int .i64 y), (19, .bool false), (18, .int .i64 mo), (13, .bool false), (12, .int .i64 (mlen (leapC y) mo)), (11, .int .i64 mo), (10, .int .i64 y), (9, .int .i64 d), (0, .int .i64 y), (1, .int .i64 mo), (2, .int .i64 d)]) hF (r_assign ev_c) rfl rfl rfl rfl fun a hF => ?_
            refine E.nil ?_
            refine wp_ret ?_
            refine bodyPost_ret (res_tmp3 Tryd.results23 (hF.at 2 rfl) (hF.at 1 rfl) (hF.at 0 rfl)) hF.dfr ?_
            have hnx : calC.next y mo d = (y + 1, 1, 1) := by
              unfold Cal.next
              show (if d < mlen (leapC y) mo then _ else _) = _
              rw [if_neg (by assumption), if_neg (by assumption)]
            rw [hnx]
            exact ⟨rfl, bel⟩))

end Go.Proofs.YtcgbllbhagijjaaDoor
