/- julian: its functions. -/
import Derived.Test.YtcgbllbhagijjaaDoorEnI
import Derived.Test.YtcgbllbhagijjaaDoorCalM
import Derived.Test.YtcgbllbhagijjaaDoorCvA
namespace Go.Proofs.YtcgbllbhagijjaaDoor
open Go.RowKit
set_option maxRecDepth 100000
set_option linter.unusedVariables false

/-- The table of the months stands. -/
def TabJ (w : World) : Prop := ∀ i : Nat, i < 12 → Cel w 1 i (.int .i64 (lensC.getD i 0))
theorem TabJ.below {w w' : World} (h : TabJ w) (hb : Below w.heap.size w w') : TabJ w' := fun i hi => (h i hi).below hb
theorem TabJ.at {w : World} (h : TabJ w) {m : Int} (h1 : 1 ≤ m) (h2 : m ≤ 12) : Cel w 1 (m - 1).toNat (.int .i64 (mlen false m)) := by
  have := h (m - 1).toNat (by omega)
  rw [lens_at h1 h2] at this
  exact this
theorem ix_tabJ {w : World} {i : Int} (h0 : 0 ≤ i) (h1 : i < 12) : (Instr.indexAt 48 (.pointer (some ⟨1, 0, none⟩)) (.int .i64 i)).run Tryd.prog w = .ok (.pointer (some ⟨1, i.toNat, none⟩)) w := by
  simp [Instr.indexAt, asIntOf, Instr.sureAddr, run_underlying Tryd.underlying48, Sem.run_bind, h0, h1, Addr.add_mid]
set_option maxHeartbeats 1000000 in
theorem cfloorJ_any (n d : Int) (w : World) (hd : 0 < d) (hn0 : -9223372036854775808 ≤ n) (hn1 : n ≤ 9223372036854775807) :
    Calls Tryd.prog 50 #[.int .i64 n, .int .i64 d] w (ValPost w (.int .i64 (n / d))) := by
  have bel : Below w.heap.size w w := Below.refl _ _
  refine E.enter (nt := 16) (L := [(0, .int .i64 n), (1, .int .i64 d)]) Tryd.func50 rfl rfl rfl (args_cons (i := 0) rfl (args_cons (i := 1) rfl args_nil)) ?_
  intro a hF
  refine wp_seq ?_
  refine E.seq ?_
  refine E.opv hF (r_assign ev_c) rfl rfl rfl rfl fun a hF => ?_
  refine E.nil ?_
  refine wp_seq ?_
  refine wp_seq ?_
  refine E.seq ?_
  refine E.opv hF (r_move (hF.at 1 rfl)) rfl rfl rfl rfl fun a hF => ?_
  refine E.opv hF (r_move (hF.at 3 rfl)) rfl rfl rfl rfl fun a hF => ?_
  refine E.opv hF (r_bin (hF.at 1 rfl) (hF.at 0 rfl) eg_scalar (id_rem (a := n) (b := d) hd)) rfl rfl rfl rfl fun a hF => ?_
  by_cases hc1 : (if 0 ≤ n then n % d else -(-n % d)) < 0
  · refine E.opv hF (r_bin (hF.at 0 rfl) ev_c eg_scalar (bi_int (ic_lss (c := true) (dec_tt hc1)) (by simp))) rfl rfl rfl rfl fun a hF => ?_
    refine E.nil ?_
    refine wp_cond_true (hF.at 0 rfl) ?_
    refine wp_seq ?_
    refine E.seq ?_
    refine E.opv hF (r_move (hF.at 5 rfl)) rfl rfl rfl rfl fun a hF => ?_
    refine E.opv hF (r_move (hF.at 7 rfl)) rfl rfl rfl rfl fun a hF => ?_
    refine E.opv hF (r_bin (hF.at 1 rfl) (hF.at 0 rfl) eg_scalar (id_quo (a := n) (b := d) hd hn0 hn1)) rfl rfl rfl rfl fun a hF => ?_
    refine E.opv hF (r_bin (hF.at 0 rfl) ev_c eg_scalar (ia_sub (by rw [fl_neg hd (by assumption)]; exact (fl_in hd hn0 hn1).1) (by rw [fl_neg hd (by assumption)]; exact (fl_in hd hn0 hn1).2))) rfl rfl rfl rfl fun a hF => ?_
    refine E.opset (L' := [(4, .int .i64 ((if 0 ≤ n then n / d else -(-n / d)) - 1)), (12, .int .i64 ((if 0 ≤ n then n / d else -(-n / d)) - 1)), (11, .int .i64 (if 0 ≤ n then n / d else -(-n / d))), (10, .int .i64 d), (9, .int .i64 n), (8, .bool true), (7, .int .i64 (if 0 ≤ n then n % d else -(-n % d))), (6, .int .i64 d), (5, .int .i64 n), (0, .int .i64 n), (1, .int .i64 d)]) hF (r_assign (hF.at 0 rfl)) rfl rfl rfl rfl fun a hF => ?_
    refine E.nil ?_
    refine wp_ret ?_
    refine bodyPost_ret (res_tmp Tryd.results50 (hF.at 0 rfl)) hF.dfr ?_
    refine ⟨rv_int ?_, bel⟩
    exact fl_neg hd hc1
  · refine E.opv hF (r_bin (hF.at 0 rfl) ev_c eg_scalar (bi_int (ic_lss (c := false) (dec_ff hc1)) (by simp))) rfl rfl rfl rfl fun a hF => ?_
    refine E.nil ?_
    refine wp_cond_false (hF.at 0 rfl) ?_
    refine wp_skip ?_
    refine E.norm ?_
    refine wp_seq ?_
    refine E.seq ?_
    refine E.opv hF (r_move (hF.at 5 rfl)) rfl rfl rfl rfl fun a hF => ?_
    refine E.opv hF (r_move (hF.at 7 rfl)) rfl rfl rfl rfl fun a hF => ?_
    refine E.opv hF (r_bin (hF.at 1 rfl) (hF.at 0 rfl) eg_scalar (id_quo (a := n) (b := d) hd hn0 hn1)) rfl rfl rfl rfl fun a hF => ?_
    refine E.opset (L' := [(4, .int .i64 (if 0 ≤ n then n / d else -(-n / d))), (15, .int .i64 (if 0 ≤ n then n / d else -(-n / d))), (14, .int .i64 d), (13, .int .i64 n), (8, .bool false), (7, .int .i64 (if 0 ≤ n then n % d else -(-n % d))), (6, .int .i64 d), (5, .int .i64 n), (0, .int .i64 n), (1, .int .i64 d)]) hF (r_assign (hF.at 0 rfl)) rfl rfl rfl rfl fun a hF => ?_
    refine E.nil ?_
    refine wp_ret ?_
    refine bodyPost_ret (res_tmp Tryd.results50 (hF.at 0 rfl)) hF.dfr ?_
    refine ⟨rv_int ?_, bel⟩
    exact fl_pos hd hc1

set_option maxHeartbeats 1000000 in
theorem cleapJ_any (y : Int) (w : World) :
    Calls Tryd.prog 29 #[.int .i64 y] w (ValPost w (.bool (leapJ y))) := by
  have bel : Below w.heap.size w w := Below.refl _ _
  refine E.enter (nt := 6) (L := [(0, .int .i64 y)]) Tryd.func29 rfl rfl rfl (args_cons (i := 0) rfl args_nil) ?_
  intro a hF
  refine wp_seq ?_
  refine E.seq ?_
  refine E.opv hF (r_assign ev_c) rfl rfl rfl rfl fun a hF => ?_
  refine E.nil ?_
  refine wp_seq ?_
  refine E.seq ?_
  refine E.opv hF (r_move (hF.at 1 rfl)) rfl rfl rfl rfl fun a hF => ?_
  refine E.opv hF (r_bin (hF.at 0 rfl) ev_c eg_scalar (id_rem (a := y) (b := 4) (by omega))) rfl rfl rfl rfl fun a hF => ?_
  by_cases hc1 : (if 0 ≤ y then y % 4 else -(-y % 4)) = 0
  · first
    | (exfalso; omega)
    | (refine E.opv hF (r_bin (hF.at 0 rfl) ev_c eg_scalar (bi_int (ic_eql (c := true) (dec_tt hc1)) (by simp))) rfl rfl rfl rfl fun a hF => ?_
       refine E.opset (L' := [(2, .bool true), (5, .bool true), (4, .int .i64 (if 0 ≤ y then y % 4 else -(-y % 4))), (3, .int .i64 y), (0, .int .i64 y)]) hF (r_assign (hF.at 0 rfl)) rfl rfl rfl rfl fun a hF => ?_
       refine E.nil ?_
       refine wp_ret ?_
       refine bodyPost_ret (res_tmp Tryd.results29 (hF.at 0 rfl)) hF.dfr ?_
       refine ⟨rv_bool ?_, bel⟩
       exact (decide_eq_true (by omega)).symm)
  · first
    | (exfalso; omega)
    | (refine E.opv hF (r_bin (hF.at 0 rfl) ev_c eg_scalar (bi_int (ic_eql (c := false) (dec_ff hc1)) (by simp))) rfl rfl rfl rfl fun a hF => ?_
       refine E.opset (L' := [(2, .bool false), (5, .bool false), (4, .int .i64 (if 0 ≤ y then y % 4 else -(-y % 4))), (3, .int .i64 y), (0, .int .i64 y)]) hF (r_assign (hF.at 0 rfl)) rfl rfl rfl rfl fun a hF => ?_
       refine E.nil ?_
       refine wp_ret ?_
       refine bodyPost_ret (res_tmp Tryd.results29 (hF.at 0 rfl)) hF.dfr ?_
       refine ⟨rv_bool ?_, bel⟩
       exact (decide_eq_false (by omega)).symm)

set_option maxHeartbeats 4000000 in
theorem clenJ_any (y m : Int) (w : World) (hT : TabJ w) :
    Calls Tryd.prog 31 #[.int .i64 y, .int .i64 m] w (ValPost w (.int .i64 (mlen (leapJ y) m))) := by
  have bel : Below w.heap.size w w := Below.refl _ _
  refine E.enter (nt := 23) (L := [(0, .int .i64 y), (1, .int .i64 m)]) Tryd.func31 rfl rfl rfl (args_cons (i := 0) rfl (args_cons (i := 1) rfl args_nil)) ?_
  intro a hF
  refine wp_seq ?_
  refine E.seq ?_
  refine E.opv hF (r_assign ev_c) rfl rfl rfl rfl fun a hF => ?_
  refine E.nil ?_
  refine wp_seq ?_
  refine wp_block ?_
  refine wp_seq ?_
  refine E.seq ?_
  refine E.opv hF (r_move (hF.at 2 rfl)) rfl rfl rfl rfl fun a hF => ?_
  by_cases hc1 : m < 1
  · first
    | (exfalso; omega)
    | (refine E.opv hF (r_bin (hF.at 0 rfl) ev_c eg_scalar (bi_int (ic_lss (c := true) (dec_tt hc1)) (by simp))) rfl rfl rfl rfl fun a hF => ?_
       refine E.opv hF (r_move (hF.at 0 rfl)) rfl rfl rfl rfl fun a hF => ?_
       refine E.unwanted hF (wanted_by rfl rfl (hF.at 0 rfl) rfl) rfl rfl rfl fun a hF => ?_
       refine E.unwanted hF (wanted_by rfl rfl (hF.at 1 rfl) rfl) rfl rfl rfl fun a hF => ?_
       refine E.opv hF (r_pick_t (hF.at 2 rfl) ev_c) rfl rfl rfl rfl fun a hF => ?_
       refine E.opv hF (r_assign (hF.at 0 rfl)) rfl rfl rfl rfl fun a hF => ?_
       refine E.nil ?_
       refine wp_cond_true (hF.at 0 rfl) ?_
       refine wp_seq ?_
       refine E.seq ?_
       refine E.opset (L' := [(4, .int .i64 0), (5, .bool true), (11, .bool true), (10, undef), (9, undef), (8, .bool true), (7, .bool true), (6, .int .i64 m), (0, .int .i64 y), (1, .int .i64 m)]) hF (r_assign ev_c) rfl rfl rfl rfl fun a hF => ?_
       refine E.nil ?_
       refine wp_ret ?_
       refine bodyPost_ret (res_tmp Tryd.results31 (hF.at 0 rfl)) hF.dfr ?_
       refine ⟨rv_int ?_, bel⟩
       first
         | exact (mlen_none _ (by omega)).symm
         | exact mlen_2t (by omega) (by assumption)
         | exact mlen_2t' (by omega) (by assumption)
         | exact mlen_ne2 (by omega)
         | exact mlen_2f (eq_false_of_ne_true (by assumption)))
  · first
    | (exfalso; omega)
    | (refine E.opv hF (r_bin (hF.at 0 rfl) ev_c eg_scalar (bi_int (ic_lss (c := false) (dec_ff hc1)) (by simp))) rfl rfl rfl rfl fun a hF => ?_
       refine E.opv hF (r_move (hF.at 0 rfl)) rfl rfl rfl rfl fun a hF => ?_
       refine E.opvg hF (r_move (hF.at 5 rfl)) (wanted_by rfl rfl (hF.at 0 rfl) rfl) rfl rfl rfl fun a hF => ?_
       by_cases hc2 : 12 < m
       · first
         | (exfalso; omega)
         | (refine E.opvg hF (r_bin (hF.at 0 rfl) ev_c eg_scalar (bi_int (ic_gtr (c := true) (dec_tt hc2)) (by simp))) (wanted_by rfl rfl (hF.at 1 rfl) rfl) rfl rfl rfl fun a hF => ?_
            refine E.opv hF (r_pick_f (hF.at 2 rfl) (hF.at 0 rfl)) rfl rfl rfl rfl fun a hF => ?_
            refine E.opv hF (r_assign (hF.at 0 rfl)) rfl rfl rfl rfl fun a hF => ?_
            refine E.nil ?_
            refine wp_cond_true (hF.at 0 rfl) ?_
            refine wp_seq ?_
            refine E.seq ?_
            refine E.opset (L' := [(4, .int .i64 0), (5, .bool true), (11, .bool true), (10, .bool true), (9, .int .i64 m), (8, .bool false), (7, .bool false), (6, .int .i64 m), (0, .int .i64 y), (1, .int .i64 m)]) hF (r_assign ev_c) rfl rfl rfl rfl fun a hF => ?_
            refine E.nil ?_
            refine wp_ret ?_
            refine bodyPost_ret (res_tmp Tryd.results31 (hF.at 0 rfl)) hF.dfr ?_
            refine ⟨rv_int ?_, bel⟩
            first
              | exact (mlen_none _ (by omega)).symm
              | exact mlen_2t (by omega) (by assumption)
              | exact mlen_2t' (by omega) (by assumption)
              | exact mlen_ne2 (by omega)
              | exact mlen_2f (eq_false_of_ne_true (by assumption)))
       · first
         | (exfalso; omega)
         | (refine E.opvg hF (r_bin (hF.at 0 rfl) ev_c eg_scalar (bi_int (ic_gtr (c := false) (dec_ff hc2)) (by simp))) (wanted_by rfl rfl (hF.at 1 rfl) rfl) rfl rfl rfl fun a hF => ?_
            refine E.opv hF (r_pick_f (hF.at 2 rfl) (hF.at 0 rfl)) rfl rfl rfl rfl fun a hF => ?_
            refine E.opv hF (r_assign (hF.at 0 rfl)) rfl rfl rfl rfl fun a hF => ?_
            refine E.nil ?_
            refine wp_cond_false (hF.at 0 rfl) ?_
            refine wp_seq ?_
            refine E.seq ?_
            refine E.opv hF (r_move (hF.at 9 rfl)) rfl rfl rfl rfl fun a hF => ?_
            by_cases hc3 : m = 2
            · first
              | (exfalso; omega)
              | (refine E.opv hF (r_bin (hF.at 0 rfl) ev_c eg_scalar (bi_int (ic_eql (c := true) (dec_tt hc3)) (by simp))) rfl rfl rfl rfl fun a hF => ?_
                 refine E.opv hF (r_move (hF.at 0 rfl)) rfl rfl rfl rfl fun a hF => ?_
                 refine E.opvg hF (r_move (hF.at 11 rfl)) (wanted_by rfl rfl (hF.at 0 rfl) rfl) rfl rfl rfl fun a hF => ?_
                 refine E.callg hF (r_call Tryd.func29 en29.1 en29.2 (map1 (hF.at 0 rfl))) (cleapJ_any y _) (wanted_by rfl rfl (hF.at 1 rfl) rfl) rfl rfl rfl ?_
                 rintro e w4 ⟨rfl, bb⟩
                 refine ⟨_, rfl, ?_⟩
                 intro a hF
                 replace bel := below_to bel bb
                 clear bb
                 refine E.opv hF (r_pick_t (hF.at 2 rfl) (hF.at 0 rfl)) rfl rfl rfl rfl fun a hF => ?_
                 refine E.opv hF (r_assign (hF.at 0 rfl)) rfl rfl rfl rfl fun a hF => ?_
                 refine E.nil ?_
                 by_cases hc5 : leapJ y = true
                 · first
                   | (exfalso; omega)
                   | (refine wp_cond_true (Eq.trans (hF.at 0 rfl) (congrArg Value.bool hc5)) ?_
                      refine wp_seq ?_
                      refine E.seq ?_
                      refine E.opset (L' := [(4, .int .i64 29), (12, .bool (leapJ y)), (18, .bool (leapJ y)), (17, .bool (leapJ y)), (16, .int .i64 y), (15, .bool true), (14, .bool true), (13, .int .i64 m), (5, .bool false), (11, .bool false), (10, .bool false), (9, .int .i64 m), (8, .bool false), (7, .bool false), (6, .int .i64 m), (0, .int .i64 y), (1, .int .i64 m)]) hF (r_assign ev_c) rfl rfl rfl rfl fun a hF => ?_
                      refine E.nil ?_
                      refine wp_ret ?_
                      refine bodyPost_ret (res_tmp Tryd.results31 (hF.at 0 rfl)) hF.dfr ?_
                      refine ⟨rv_int ?_, bel⟩
                      first
                        | exact (mlen_none _ (by omega)).symm
                        | exact mlen_2t (by omega) (by assumption)
                        | exact mlen_2t' (by omega) (by assumption)
                        | exact mlen_ne2 (by omega)
                        | exact mlen_2f (eq_false_of_ne_true (by assumption)))
                 · first
                   | (exfalso; omega)
                   | (refine wp_cond_false (Eq.trans (hF.at 0 rfl) (congrArg Value.bool (eq_false_of_ne_true hc5))) ?_
                      refine wp_skip ?_
                      refine E.blk ?_
                      refine E.norm ?_
                      refine wp_seq ?_
                      refine E.seq ?_
                      refine E.opv hF (r_move (hF.at 16 rfl)) rfl rfl rfl rfl fun a hF => ?_
                      refine E.opv hF (r_bin (hF.at 0 rfl) ev_c eg_scalar (ia_sub (by omega) (by omega))) rfl rfl rfl rfl fun a hF => ?_
                      refine E.opv hF (r_index rfl (hF.at 0 rfl) (ix_tabJ (by omega) (by omega))) rfl rfl rfl rfl fun a hF => ?_
                      refine E.opv hF (r_load (hF.at 0 rfl) (ldc_int ((hT.below bel).at (m := m) (by omega) (by omega)))) rfl rfl rfl rfl fun a hF => ?_
                      refine E.opset (L' := [(4, .int .i64 (mlen false m)), (22, .int .i64 (mlen false m)), (21, .pointer (some ⟨1, (m - 1).toNat, none⟩)), (20, .int .i64 (m - 1)), (19, .int .i64 m), (12, .bool (leapJ y)), (18, .bool (leapJ y)), (17, .bool (leapJ y)), (16, .int .i64 y), (15, .bool true), (14, .bool true), (13, .int .i64 m), (5, .bool false), (11, .bool false), (10, .bool false), (9, .int .i64 m), (8, .bool false), (7, .bool false), (6, .int .i64 m), (0, .int .i64 y), (1, .int .i64 m)]) hF (r_assign (hF.at 0 rfl)) rfl rfl rfl rfl fun a hF => ?_
                      refine E.nil ?_
                      refine wp_ret ?_
                      refine bodyPost_ret (res_tmp Tryd.results31 (hF.at 0 rfl)) hF.dfr ?_
                      refine ⟨rv_int ?_, bel⟩
                      first
                        | exact (mlen_none _ (by omega)).symm
                        | exact mlen_2t (by omega) (by assumption)
                        | exact mlen_2t' (by omega) (by assumption)
                        | exact mlen_ne2 (by omega)
                        | exact mlen_2f (eq_false_of_ne_true (by assumption))))
            · first
              | (exfalso; omega)
              | (refine E.opv hF (r_bin (hF.at 0 rfl) ev_c eg_scalar (bi_int (ic_eql (c := false) (dec_ff hc3)) (by simp))) rfl rfl rfl rfl fun a hF => ?_
                 refine E.opv hF (r_move (hF.at 0 rfl)) rfl rfl rfl rfl fun a hF => ?_
                 refine E.unwanted hF (wanted_by rfl rfl (hF.at 0 rfl) rfl) rfl rfl rfl fun a hF => ?_
                 refine E.unwanted hF (wanted_by rfl rfl (hF.at 1 rfl) rfl) rfl rfl rfl fun a hF => ?_
                 refine E.opv hF (r_pick_f (hF.at 2 rfl) ev_c) rfl rfl rfl rfl fun a hF => ?_
                 refine E.opv hF (r_assign (hF.at 0 rfl)) rfl rfl rfl rfl fun a hF => ?_
                 refine E.nil ?_
                 refine wp_cond_false (hF.at 0 rfl) ?_
                 refine wp_skip ?_
                 refine E.blk ?_
                 refine E.norm ?_
                 refine wp_seq ?_
                 refine E.seq ?_
                 refine E.opv hF (r_move (hF.at 16 rfl)) rfl rfl rfl rfl fun a hF => ?_
                 refine E.opv hF (r_bin (hF.at 0 rfl) ev_c eg_scalar (ia_sub (by omega) (by omega))) rfl rfl rfl rfl fun a hF => ?_
                 refine E.opv hF (r_index rfl (hF.at 0 rfl) (ix_tabJ (by omega) (by omega))) rfl rfl rfl rfl fun a hF => ?_
                 refine E.opv hF (r_load (hF.at 0 rfl) (ldc_int ((hT.below bel).at (m := m) (by omega) (by omega)))) rfl rfl rfl rfl fun a hF => ?_
                 refine E.opset (L' := [(4, .int .i64 (mlen false m)), (22, .int .i64 (mlen false m)), (21, .pointer (some ⟨1, (m - 1).toNat, none⟩)), (20, .int .i64 (m - 1)), (19, .int .i64 m), (12, .bool false), (18, .bool false), (17, undef), (16, undef), (15, .bool false), (14, .bool false), (13, .int .i64 m), (5, .bool false), (11, .bool false), (10, .bool false), (9, .int .i64 m), (8, .bool false), (7, .bool false), (6, .int .i64 m), (0, .int .i64 y), (1, .int .i64 m)]) hF (r_assign (hF.at 0 rfl)) rfl rfl rfl rfl fun a hF => ?_
                 refine E.nil ?_
                 refine wp_ret ?_
                 refine bodyPost_ret (res_tmp Tryd.results31 (hF.at 0 rfl)) hF.dfr ?_
                 refine ⟨rv_int ?_, bel⟩
                 first
                   | exact (mlen_none _ (by omega)).symm
                   | exact mlen_2t (by omega) (by assumption)
                   | exact mlen_2t' (by omega) (by assumption)
                   | exact mlen_ne2 (by omega)
                   | exact mlen_2f (eq_false_of_ne_true (by assumption)))))

set_option maxHeartbeats 1000000 in
theorem cmayJ_any (n : Int) (w : World) :
    Calls Tryd.prog 43 #[.int .i64 n] w (ValPost w (.bool (mayB n))) := by
  have bel : Below w.heap.size w w := Below.refl _ _
  refine E.enter (nt := 9) (L := [(0, .int .i64 n)]) Tryd.func43 rfl rfl rfl (args_cons (i := 0) rfl args_nil) ?_
  intro a hF
  refine wp_seq ?_
  refine E.seq ?_
  refine E.opv hF (r_assign ev_c) rfl rfl rfl rfl fun a hF => ?_
  refine E.nil ?_
  refine wp_seq ?_
  refine E.seq ?_
  refine E.opv hF (r_move (hF.at 1 rfl)) rfl rfl rfl rfl fun a hF => ?_
  by_cases hc1 : (-3000000) ≤ n
  · first
    | (exfalso; omega)
    | (refine E.opv hF (r_bin (hF.at 0 rfl) ev_c eg_scalar (bi_int (ic_geq (c := true) (dec_tt hc1)) (by simp))) rfl rfl rfl rfl fun a hF => ?_
       refine E.opv hF (r_move (hF.at 0 rfl)) rfl rfl rfl rfl fun a hF => ?_
       refine E.opvg hF (r_move (hF.at 4 rfl)) (wanted_by rfl rfl (hF.at 0 rfl) rfl) rfl rfl rfl fun a hF => ?_
       by_cases hc2 : n ≤ 3000000
       · first
         | (exfalso; omega)
         | (refine E.opvg hF (r_bin (hF.at 0 rfl) ev_c eg_scalar (bi_int (ic_leq (c := true) (dec_tt hc2)) (by simp))) (wanted_by rfl rfl (hF.at 1 rfl) rfl) rfl rfl rfl fun a hF => ?_
            refine E.opv hF (r_pick_t (hF.at 2 rfl) (hF.at 0 rfl)) rfl rfl rfl rfl fun a hF => ?_
            refine E.opset (L' := [(2, .bool true), (8, .bool true), (7, .bool true), (6, .int .i64 n), (5, .bool true), (4, .bool true), (3, .int .i64 n), (0, .int .i64 n)]) hF (r_assign (hF.at 0 rfl)) rfl rfl rfl rfl fun a hF => ?_
            refine E.nil ?_
            refine wp_ret ?_
            refine bodyPost_ret (res_tmp Tryd.results43 (hF.at 0 rfl)) hF.dfr ?_
            refine ⟨rv_bool ?_, bel⟩
            exact (decide_eq_true (by omega)).symm)
       · first
         | (exfalso; omega)
         | (refine E.opvg hF (r_bin (hF.at 0 rfl) ev_c eg_scalar (bi_int (ic_leq (c := false) (dec_ff hc2)) (by simp))) (wanted_by rfl rfl (hF.at 1 rfl) rfl) rfl rfl rfl fun a hF => ?_
            refine E.opv hF (r_pick_t (hF.at 2 rfl) (hF.at 0 rfl)) rfl rfl rfl rfl fun a hF => ?_
            refine E.opset (L' := [(2, .bool false), (8, .bool false), (7, .bool false), (6, .int .i64 n), (5, .bool true), (4, .bool true), (3, .int .i64 n), (0, .int .i64 n)]) hF (r_assign (hF.at 0 rfl)) rfl rfl rfl rfl fun a hF => ?_
            refine E.nil ?_
            refine wp_ret ?_
            refine bodyPost_ret (res_tmp Tryd.results43 (hF.at 0 rfl)) hF.dfr ?_
            refine ⟨rv_bool ?_, bel⟩
            exact (decide_eq_false (by omega)).symm))
  · first
    | (exfalso; omega)
    | (refine E.opv hF (r_bin (hF.at 0 rfl) ev_c eg_scalar (bi_int (ic_geq (c := false) (dec_ff hc1)) (by simp))) rfl rfl rfl rfl fun a hF => ?_
       refine E.opv hF (r_move (hF.at 0 rfl)) rfl rfl rfl rfl fun a hF => ?_
       refine E.unwanted hF (wanted_by rfl rfl (hF.at 0 rfl) rfl) rfl rfl rfl fun a hF => ?_
       refine E.unwanted hF (wanted_by rfl rfl (hF.at 1 rfl) rfl) rfl rfl rfl fun a hF => ?_
       refine E.opv hF (r_pick_f (hF.at 2 rfl) ev_c) rfl rfl rfl rfl fun a hF => ?_
       refine E.opset (L' := [(2, .bool false), (8, .bool false), (7, undef), (6, undef), (5, .bool false), (4, .bool false), (3, .int .i64 n), (0, .int .i64 n)]) hF (r_assign (hF.at 0 rfl)) rfl rfl rfl rfl fun a hF => ?_
       refine E.nil ?_
       refine wp_ret ?_
       refine bodyPost_ret (res_tmp Tryd.results43 (hF.at 0 rfl)) hF.dfr ?_
       refine ⟨rv_bool ?_, bel⟩
       exact (decide_eq_false (by omega)).symm)

set_option maxHeartbeats 1000000 in
theorem cfirstJ_any (y : Int) (w : World) (h0 : -100000 ≤ y) (h1 : y ≤ 100000) :
    Calls Tryd.prog 45 #[.int .i64 y] w (ValPost w (.int .i64 (firstJ y))) := by
  have bel : Below w.heap.size w w := Below.refl _ _
  refine E.enter (nt := 12) (L := [(0, .int .i64 y)]) Tryd.func45 rfl rfl rfl (args_cons (i := 0) rfl args_nil) ?_
  intro a hF
  refine wp_seq ?_
  refine E.seq ?_
  refine E.opv hF (r_assign ev_c) rfl rfl rfl rfl fun a hF => ?_
  refine E.nil ?_
  refine wp_seq ?_
  refine E.seq ?_
  refine E.opv hF (r_move (hF.at 1 rfl)) rfl rfl rfl rfl fun a hF => ?_
  refine E.opv hF (r_bin (hF.at 0 rfl) ev_c eg_scalar (ia_sub (by omega) (by omega))) rfl rfl rfl rfl fun a hF => ?_
  refine E.opv hF (r_assign (hF.at 0 rfl)) rfl rfl rfl rfl fun a hF => ?_
  refine E.nil ?_
  refine wp_seq ?_
  refine E.seq ?_
  refine E.opv hF (r_move (hF.at 0 rfl)) rfl rfl rfl rfl fun a hF => ?_
  refine E.opv hF (r_bin (hF.at 0 rfl) ev_c eg_scalar (ia_mul (by omega) (by omega))) rfl rfl rfl rfl fun a hF => ?_
  refine E.opv hF (r_bin ev_c (hF.at 0 rfl) eg_scalar (ia_add (by omega) (by omega))) rfl rfl rfl rfl fun a hF => ?_
  refine E.opv hF (r_move (hF.at 3 rfl)) rfl rfl rfl rfl fun a hF => ?_
  refine E.call hF (r_call Tryd.func50 en50.1 en50.2 (map2 (hF.at 0 rfl) ev_c)) (cfloorJ_any (y - 1) 4 _ (by omega) (by omega) (by omega)) rfl rfl rfl rfl ?_
  rintro e w1 ⟨rfl, bb⟩
  refine ⟨_, rfl, ?_⟩
  intro a hF
  replace bel := below_to bel bb
  clear bb
  refine E.opv hF (r_bin (hF.at 2 rfl) (hF.at 0 rfl) eg_scalar (ia_add (by omega) (by omega))) rfl rfl rfl rfl fun a hF => ?_
  refine E.opset (L' := [(2, .int .i64 (((-1) + ((y - 1) * 365)) + ((y - 1) / 4))), (11, .int .i64 (((-1) + ((y - 1) * 365)) + ((y - 1) / 4))), (10, .int .i64 ((y - 1) / 4)), (9, .int .i64 (y - 1)), (8, .int .i64 ((-1) + ((y - 1) * 365))), (7, .int .i64 ((y - 1) * 365)), (6, .int .i64 (y - 1)), (3, .int .i64 (y - 1)), (5, .int .i64 (y - 1)), (4, .int .i64 y), (0, .int .i64 y)]) hF (r_assign (hF.at 0 rfl)) rfl rfl rfl rfl fun a hF => ?_
  refine E.nil ?_
  refine wp_ret ?_
  refine bodyPost_ret (res_tmp Tryd.results45 (hF.at 0 rfl)) hF.dfr ?_
  refine ⟨rv_int ?_, bel⟩
  unfold firstJ; omega

set_option maxHeartbeats 8000000 in
theorem cyearJ_any (n : Int) (w : World) (h0 : -3000000 ≤ n) (h1 : n ≤ 3000000) :
    Calls Tryd.prog 44 #[.int .i64 n] w (ValPost w (.int .i64 (yearJ n))) := by
  have bel : Below w.heap.size w w := Below.refl _ _
  refine E.enter (nt := 20) (L := [(0, .int .i64 n)]) Tryd.func44 rfl rfl rfl (args_cons (i := 0) rfl args_nil) ?_
  intro a hF
  refine wp_seq ?_
  refine E.seq ?_
  refine E.opv hF (r_assign ev_c) rfl rfl rfl rfl fun a hF => ?_
  refine E.nil ?_
  refine wp_seq ?_
  refine E.seq ?_
  refine E.opv hF (r_move (hF.at 1 rfl)) rfl rfl rfl rfl fun a hF => ?_
  refine E.opv hF (r_bin (hF.at 0 rfl) ev_c eg_scalar (ia_sub (by omega) (by omega))) rfl rfl rfl rfl fun a hF => ?_
  refine E.opv hF (r_assign (hF.at 0 rfl)) rfl rfl rfl rfl fun a hF => ?_
  refine E.nil ?_
  refine wp_seq ?_
  refine E.seq ?_
  refine E.opv hF (r_move (hF.at 0 rfl)) rfl rfl rfl rfl fun a hF => ?_
  refine E.call hF (r_call Tryd.func50 en50.1 en50.2 (map2 (hF.at 0 rfl) ev_c)) (cfloorJ_any (n - (-1)) 1461 _ (by omega) (by omega) (by omega)) rfl rfl rfl rfl ?_
  rintro e w1 ⟨rfl, bb⟩
  refine ⟨_, rfl, ?_⟩
  intro a hF
  replace bel := below_to bel bb
  clear bb
  refine E.opv hF (r_assign (hF.at 0 rfl)) rfl rfl rfl rfl fun a hF => ?_
  refine E.nil ?_
  refine wp_seq ?_
  refine E.seq ?_
  refine E.opv hF (r_move (hF.at 3 rfl)) rfl rfl rfl rfl fun a hF => ?_
  refine E.opv hF (r_move (hF.at 1 rfl)) rfl rfl rfl rfl fun a hF => ?_
  refine E.opv hF (r_bin (hF.at 0 rfl) ev_c eg_scalar (ia_mul (by omega) (by omega))) rfl rfl rfl rfl fun a hF => ?_
  refine E.opv hF (r_bin (hF.at 2 rfl) (hF.at 0 rfl) eg_scalar (ia_sub (by omega) (by omega))) rfl rfl rfl rfl fun a hF => ?_
  refine E.opset (L' := [(3, .int .i64 ((n - (-1)) - (((n - (-1)) / 1461) * 1461))), (12, .int .i64 ((n - (-1)) - (((n - (-1)) / 1461) * 1461))), (11, .int .i64 (((n - (-1)) / 1461) * 1461)), (10, .int .i64 ((n - (-1)) / 1461)), (9, .int .i64 (n - (-1))), (4, .int .i64 ((n - (-1)) / 1461)), (8, .int .i64 ((n - (-1)) / 1461)), (7, .int .i64 (n - (-1))), (6, .int .i64 (n - (-1))), (5, .int .i64 n), (2, .int .i64 0), (0, .int .i64 n)]) hF (r_assign (hF.at 0 rfl)) rfl rfl rfl rfl fun a hF => ?_
  refine E.nil ?_
  refine wp_seq ?_
  refine E.seq ?_
  refine E.opv hF (r_move (hF.at 5 rfl)) rfl rfl rfl rfl fun a hF => ?_
  refine E.opv hF (r_bin ev_c (hF.at 0 rfl) eg_scalar (ia_mul (by omega) (by omega))) rfl rfl rfl rfl fun a hF => ?_
  refine E.opv hF (r_move (hF.at 2 rfl)) rfl rfl rfl rfl fun a hF => ?_
  refine E.opv hF (r_bin (hF.at 0 rfl) ev_c eg_scalar (id_quon (a := (n - (-1)) - (((n - (-1)) / 1461) * 1461)) (b := 365) (by omega) (by omega) (by omega) (by omega))) rfl rfl rfl rfl fun a hF => ?_
  refine E.opv hF (r_builtin (map2 (hF.at 0 rfl) ev_c) bl_min) rfl rfl rfl rfl fun a hF => ?_
  refine E.opv hF (r_bin (hF.at 3 rfl) (hF.at 0 rfl) eg_scalar (ia_add (by omega) (by omega))) rfl rfl rfl rfl fun a hF => ?_
  refine E.opv hF (r_bin (hF.at 0 rfl) ev_c eg_scalar (ia_add (by omega) (by omega))) rfl rfl rfl rfl fun a hF => ?_
  refine E.opset (L' := [(2, .int .i64 (((4 * ((n - (-1)) / 1461)) + (min (((n - (-1)) - (((n - (-1)) / 1461) * 1461)) / 365) 3)) + 1)), (19, .int .i64 (((4 * ((n - (-1)) / 1461)) + (min (((n - (-1)) - (((n - (-1)) / 1461) * 1461)) / 365) 3)) + 1)), (18, .int .i64 ((4 * ((n - (-1)) / 1461)) + (min (((n - (-1)) - (((n - (-1)) / 1461) * 1461)) / 365) 3))), (17, .int .i64 (min (((n - (-1)) - (((n - (-1)) / 1461) * 1461)) / 365) 3)), (16, .int .i64 (((n - (-1)) - (((n - (-1)) / 1461) * 1461)) / 365)), (15, .int .i64 ((n - (-1)) - (((n - (-1)) / 1461) * 1461))), (14, .int .i64 (4 * ((n - (-1)) / 1461))), (13, .int .i64 ((n - (-1)) / 1461)), (3, .int .i64 ((n - (-1)) - (((n - (-1)) / 1461) * 1461))), (12, .int .i64 ((n - (-1)) - (((n - (-1)) / 1461) * 1461))), (11, .int .i64 (((n - (-1)) / 1461) * 1461)), (10, .int .i64 ((n - (-1)) / 1461)), (9, .int .i64 (n - (-1))), (4, .int .i64 ((n - (-1)) / 1461)), (8, .int .i64 ((n - (-1)) / 1461)), (7, .int .i64 (n - (-1))), (6, .int .i64 (n - (-1))), (5, .int .i64 n), (0, .int .i64 n)]) hF (r_assign (hF.at 0 rfl)) rfl rfl rfl rfl fun a hF => ?_
  refine E.nil ?_
  refine wp_ret ?_
  refine bodyPost_ret (res_tmp Tryd.results44 (hF.at 0 rfl)) hF.dfr ?_
  refine ⟨rv_int ?_, bel⟩
  rfl

set_option maxHeartbeats 8000000 in
theorem cfixJ_any (y m d : Int) (w : World) (hT : TabJ w) :
    Calls Tryd.prog 28 #[.agg #[.int .i64 y, .int .i64 m, .int .i64 d]] w (ValPost w (.tuple #[.int .i64 (fixN calJ y m d), .int .i64 (fixE calJ y m d)])) := by
  have hmd := mlen_bd (leapJ y) m
  have bel : Below w.heap.size w w := Below.refl _ _
  refine E.enter (nt := 52) (L := [(0, .agg #[.int .i64 y, .int .i64 m, .int .i64 d])]) Tryd.func28 rfl rfl rfl (args_cons (i := 0) rfl args_nil) ?_
  intro a hF
  refine wp_seq ?_
  refine E.seq ?_
  obtain ⟨g1, w1, ge1, hr, bb, o1⟩ := blk_box (P := Tryd.prog) (w := w) (cs := [.int .i64 y, .int .i64 m, .int .i64 d]) (v := .agg #[.int .i64 y, .int .i64 m, .int .i64 d]) 42 rfl
  replace ge1 : w.heap.size ≤ g1 := by rw [← ge1]; exact bel.size
  refine E.opv hF (r_box (hF.at 0 rfl) hr) rfl rfl rfl rfl fun a hF => ?_
  clear hr
  replace bel := below_to bel bb
  clear bb
  refine E.opv hF (r_assign ev_c) rfl rfl rfl rfl fun a hF => ?_
  refine E.opv hF (r_assign ev_c) rfl rfl rfl rfl fun a hF => ?_
  refine E.nil ?_
  refine wp_seq ?_
  refine wp_block ?_
  refine wp_seq ?_
  refine E.seq ?_
  refine E.opv hF (r_field (hF.at 2 rfl) (fa_JDate_0 (p := 0) rfl)) rfl rfl rfl rfl fun a hF => ?_
  refine E.opv hF (r_load (hF.at 0 rfl) (ldb_i64 (v := .int .i64 y) o1 rfl)) rfl rfl rfl rfl fun a hF => ?_
  by_cases hc2 : y < (-9000)
  · first
    | (exfalso; omega)
    | (refine E.opv hF (r_bin (hF.at 0 rfl) ev_c eg_scalar (bi_int (ic_lss (c := true) (dec_tt hc2)) (by simp))) rfl rfl rfl rfl fun a hF => ?_
       refine E.opv hF (r_move (hF.at 0 rfl)) rfl rfl rfl rfl fun a hF => ?_
       refine E.unwanted hF (wanted_by rfl rfl (hF.at 0 rfl) rfl) rfl rfl rfl fun a hF => ?_
       refine E.unwanted hF (wanted_by rfl rfl (hF.at 1 rfl) rfl) rfl rfl rfl fun a hF => ?_
       refine E.unwanted hF (wanted_by rfl rfl (hF.at 2 rfl) rfl) rfl rfl rfl fun a hF => ?_
       refine E.opv hF (r_pick_t (hF.at 3 rfl) ev_c) rfl rfl rfl rfl fun a hF => ?_
       refine E.opv hF (r_assign (hF.at 0 rfl)) rfl rfl rfl rfl fun a hF => ?_
       refine E.nil ?_
       refine wp_cond_true (hF.at 0 rfl) ?_
       refine wp_seq ?_
       refine E.seq ?_
       refine E.opset (L' := [(2, .int .i64 0), (6, .bool true), (14, .bool true), (13, undef), (12, undef), (11, undef), (10, .bool true), (9, .bool true), (8, .int .i64 y), (7, .pointer (some ⟨g1, 0, none⟩)), (3, .int .i64 0), (1, .pointer (some ⟨g1, 0, none⟩)), (0, .agg #[.int .i64 y, .int .i64 m, .int .i64 d])]) hF (r_assign ev_c) rfl rfl rfl rfl fun a hF => ?_
       refine E.opset (L' := [(3, .int .i64 2), (2, .int .i64 0), (6, .bool true), (14, .bool true), (13, undef), (12, undef), (11, undef), (10, .bool true), (9, .bool true), (8, .int .i64 y), (7, .pointer (some ⟨g1, 0, none⟩)), (1, .pointer (some ⟨g1, 0, none⟩)), (0, .agg #[.int .i64 y, .int .i64 m, .int .i64 d])]) hF (r_assign ev_c) rfl rfl rfl rfl fun a hF => ?_
       refine E.nil ?_
       refine wp_ret ?_
       refine bodyPost_ret (res_tmp2 Tryd.results28 (hF.at 1 rfl) (hF.at 0 rfl)) hF.dfr ?_
       refine ⟨rv_int2 ?_ ?_, bel⟩
       · exact (fix_year (by omega)).1
       · exact (fix_year (by omega)).2)
  · first
    | (exfalso; omega)
    | (refine E.opv hF (r_bin (hF.at 0 rfl) ev_c eg_scalar (bi_int (ic_lss (c := false) (dec_ff hc2)) (by simp))) rfl rfl rfl rfl fun a hF => ?_
       refine E.opv hF (r_move (hF.at 0 rfl)) rfl rfl rfl rfl fun a hF => ?_
       refine E.opvg hF (r_field (hF.at 6 rfl) (fa_JDate_0 (p := 0) rfl)) (wanted_by rfl rfl (hF.at 0 rfl) rfl) rfl rfl rfl fun a hF => ?_
       refine E.opvg hF (r_load (hF.at 0 rfl) (ldb_i64 (v := .int .i64 y) o1 rfl)) (wanted_by rfl rfl (hF.at 1 rfl) rfl) rfl rfl rfl fun a hF => ?_
       by_cases hc3 : 9000 < y
       · first
         | (exfalso; omega)
         | (refine E.opvg hF (r_bin (hF.at 0 rfl) ev_c eg_scalar (bi_int (ic_gtr (c := true) (dec_tt hc3)) (by simp))) (wanted_by rfl rfl (hF.at 2 rfl) rfl) rfl rfl rfl fun a hF => ?_
            refine E.opv hF (r_pick_f (hF.at 3 rfl) (hF.at 0 rfl)) rfl rfl rfl rfl fun a hF => ?_
            refine E.opv hF (r_assign (hF.at 0 rfl)) rfl rfl rfl rfl fun a hF => ?_
            refine E.nil ?_
            refine wp_cond_true (hF.at 0 rfl) ?_
            refine wp_seq ?_
            refine E.seq ?_
            refine E.opset (L' := [(2, .int .i64 0), (6, .bool true), (14, .bool true), (13, .bool true), (12, .int .i64 y), (11, .pointer (some ⟨g1, 0, none⟩)), (10, .bool false), (9, .bool false), (8, .int .i64 y), (7, .pointer (some ⟨g1, 0, none⟩)), (3, .int .i64 0), (1, .pointer (some ⟨g1, 0, none⟩)), (0, .agg #[.int .i64 y, .int .i64 m, .int .i64 d])]) hF (r_assign ev_c) rfl rfl rfl rfl fun a hF => ?_
            refine E.opset (L' := [(3, .int .i64 2), (2, .int .i64 0), (6, .bool true), (14, .bool true), (13, .bool true), (12, .int .i64 y), (11, .pointer (some ⟨g1, 0, none⟩)), (10, .bool false), (9, .bool false), (8, .int .i64 y), (7, .pointer (some ⟨g1, 0, none⟩)), (1, .pointer (some ⟨g1, 0, none⟩)), (0, .agg #[.int .i64 y, .int .i64 m, .int .i64 d])]) hF (r_assign ev_c) rfl rfl rfl rfl fun a hF => ?_
            refine E.nil ?_
            refine wp_ret ?_
            refine bodyPost_ret (res_tmp2 Tryd.results28 (hF.at 1 rfl) (hF.at 0 rfl)) hF.dfr ?_
            refine ⟨rv_int2 ?_ ?_, bel⟩
            · exact (fix_year (by omega)).1
            · exact (fix_year (by omega)).2)
       · first
         | (exfalso; omega)
         | (refine E.opvg hF (r_bin (hF.at 0 rfl) ev_c eg_scalar (bi_int (ic_gtr (c := false) (dec_ff hc3)) (by simp))) (wanted_by rfl rfl (hF.at 2 rfl) rfl) rfl rfl rfl fun a hF => ?_
            refine E.opv hF (r_pick_f (hF.at 3 rfl) (hF.at 0 rfl)) rfl rfl rfl rfl fun a hF => ?_
            refine E.opv hF (r_assign (hF.at 0 rfl)) rfl rfl rfl rfl fun a hF => ?_
            refine E.nil ?_
            refine wp_cond_false (hF.at 0 rfl) ?_
            refine wp_seq ?_
            by_cases hc4 : d < 1
            · first
              | (exfalso; omega)
              | (refine E.drawn 14 mixed hF [16, 17, 18, 19, 20, 21, 22, 23, 24, 25, 26, 27, 28, 15] [(fun _ v => v = .pointer (some ⟨g1, 2, none⟩)), (fun _ v => v = .int .i64 d), (fun _ v => v = .bool true), (fun _ v => v = .bool true), (fun _ v => v = undef), (fun _ v => v = undef), (fun _ v => v = undef), (fun _ v => v = undef), (fun _ v => v = undef), (fun _ v => v = undef), (fun _ v => v = undef), (fun _ v => v = undef), (fun _ v => v = .bool true), (fun _ v => v = .bool true)] [] (by decide +kernel) (by decide +kernel) rfl rfl rfl ⟨(Mb.eq _), (Mb.eq _), (Mb.eq _), (Mb.eq _), (Mb.eq _), (Mb.eq _), (Mb.eq _), (Mb.eq _), (Mb.eq _), (Mb.eq _), (Mb.eq _), (Mb.eq _), (Mb.eq _), (Mb.eq _), trivial⟩ trivial ⟨?_, ?_, ?_, ?_, ?_, ?_, ?_, ?_, ?_, ?_, ?_, ?_, ?_, ?_, trivial⟩ ?_
                 · intro a' w' hF' hb hd
                   exact if_does (wanted_free rfl) (Does.vals (r_field (hF'.at 11 rfl) (fa_JDate_2 (p := 2) rfl)) ⟨rfl, Below.refl _ _, (fun h => absurd h (by decide))⟩)
                 · intro a' w' hF' hb hd
                   have e16 : a'.tmps.getD 16 undef = .pointer (some ⟨g1, 2, none⟩) := hd _ 16 (Array.mem_of_getElem? (i := 0) rfl) rfl rfl
                   exact if_does (wanted_free rfl) (Does.vals (r_load e16 (ldb_int (v := .int .i64 d) (o1.below hb) rfl)) ⟨rfl, Below.refl _ _, (fun h => absurd h (by decide))⟩)
                 · intro a' w' hF' hb hd
                   have e17 : a'.tmps.getD 17 undef = .int .i64 d := hd _ 17 (Array.mem_of_getElem? (i := 0) rfl) rfl rfl
                   exact if_does (wanted_free rfl) (Does.vals (r_bin e17 ev_c eg_scalar (bi_int (ic_lss (c := true) (dec_tt hc4)) (by simp))) ⟨rfl, Below.refl _ _, (fun h => absurd h (by decide))⟩)
                 · intro a' w' hF' hb hd
                   have e18 : a'.tmps.getD 18 undef = .bool true := hd _ 18 (Array.mem_of_getElem? (i := 0) rfl) rfl rfl
                   exact if_does (wanted_free rfl) (Does.vals (r_move e18) ⟨rfl, Below.refl _ _, (fun h => absurd h (by decide))⟩)
                 · intro a' w' hF' hb hd
                   have e19 : a'.tmps.getD 19 undef = .bool true := hd _ 19 (Array.mem_of_getElem? (i := 0) rfl) rfl rfl
                   exact if_not (wanted_by rfl rfl e19 rfl) ⟨rfl, by decide⟩
                 · intro a' w' hF' hb hd
                   have e19 : a'.tmps.getD 19 undef = .bool true := hd _ 19 (Array.mem_of_getElem? (i := 1) rfl) rfl rfl
                   exact if_not (wanted_by rfl rfl e19 rfl) ⟨rfl, by decide⟩
                 · intro a' w' hF' hb hd
                   have e19 : a'.tmps.getD 19 undef = .bool true := hd _ 19 (Array.mem_of_getElem? (i := 0) rfl) rfl rfl
                   exact if_not (wanted_by rfl rfl e19 rfl) ⟨rfl, by decide⟩
                 · intro a' w' hF' hb hd
                   have e19 : a'.tmps.getD 19 undef = .bool true := hd _ 19 (Array.mem_of_getElem? (i := 1) rfl) rfl rfl
                   exact if_not (wanted_by rfl rfl e19 rfl) ⟨rfl, by decide⟩
                 · intro a' w' hF' hb hd
                   have e19 : a'.tmps.getD 19 undef = .bool true := hd _ 19 (Array.mem_of_getElem? (i := 0) rfl) rfl rfl
                   exact if_not (wanted_by rfl rfl e19 rfl) ⟨rfl, by decide⟩
                 · intro a' w' hF' hb hd
                   have e19 : a'.tmps.getD 19 undef = .bool true := hd _ 19 (Array.mem_of_getElem? (i := 1) rfl) rfl rfl
                   exact if_not (wanted_by rfl rfl e19 rfl) ⟨rfl, by decide⟩
                 · intro a' w' hF' hb hd
                   have e19 : a'.tmps.getD 19 undef = .bool true := hd _ 19 (Array.mem_of_getElem? (i := 2) rfl) rfl rfl
                   exact if_not (wanted_by rfl rfl e19 rfl) ⟨rfl, by decide⟩
                 · intro a' w' hF' hb hd
                   have e19 : a'.tmps.getD 19 undef = .bool true := hd _ 19 (Array.mem_of_getElem? (i := 2) rfl) rfl rfl
                   exact if_not (wanted_by rfl rfl e19 rfl) ⟨rfl, by decide⟩
                 · intro a' w' hF' hb hd
                   have e19 : a'.tmps.getD 19 undef = .bool true := hd _ 19 (Array.mem_of_getElem? (i := 0) rfl) rfl rfl
                   exact if_does (wanted_free rfl) (Does.vals (r_pick_t e19 ev_c) ⟨rfl, Below.refl _ _, (fun h => absurd h (by decide))⟩)
                 · intro a' w' hF' hb hd
                   have e28 : a'.tmps.getD 28 undef = .bool true := hd _ 28 (Array.mem_of_getElem? (i := 0) rfl) rfl rfl
                   exact if_does (wanted_free rfl) (Does.vals (r_assign e28) ⟨rfl, Below.refl _ _, (fun h => absurd h (by decide))⟩)
                 intro a w5 hF bb hall hne
                 have e15 : a.tmps.getD 15 undef = .bool true := hall 13 15 rfl
                 clear hall hne
                 replace o1 := o1.below bb
                 replace bel := below_to bel bb
                 clear bb
                 replace hF := hF.add e15
                 clear e15
                 refine E.nil ?_
                 refine wp_cond_true (hF.at 0 rfl) ?_
                 refine wp_seq ?_
                 refine E.seq ?_
                 refine E.opset (L' := [(2, .int .i64 0), (15, .bool true), (6, .bool false), (14, .bool false), (13, .bool false), (12, .int .i64 y), (11, .pointer (some ⟨g1, 0, none⟩)), (10, .bool false), (9, .bool false), (8, .int .i64 y), (7, .pointer (some ⟨g1, 0, none⟩)), (3, .int .i64 0), (1, .pointer (some ⟨g1, 0, none⟩)), (0, .agg #[.int .i64 y, .int .i64 m, .int .i64 d])]) hF (r_assign ev_c) rfl rfl rfl rfl fun a hF => ?_
                 refine E.opset (L' := [(3, .int .i64 4), (2, .int .i64 0), (15, .bool true), (6, .bool false), (14, .bool false), (13, .bool false), (12, .int .i64 y), (11, .pointer (some ⟨g1, 0, none⟩)), (10, .bool false), (9, .bool false), (8, .int .i64 y), (7, .pointer (some ⟨g1, 0, none⟩)), (1, .pointer (some ⟨g1, 0, none⟩)), (0, .agg #[.int .i64 y, .int .i64 m, .int .i64 d])]) hF (r_assign ev_c) rfl rfl rfl rfl fun a hF => ?_
                 refine E.nil ?_
                 refine wp_ret ?_
                 refine bodyPost_ret (res_tmp2 Tryd.results28 (hF.at 1 rfl) (hF.at 0 rfl)) hF.dfr ?_
                 refine ⟨rv_int2 ?_ ?_, bel⟩
                 · exact (fix_bad (by omega) (by unfold Val; show ¬ (1 ≤ m ∧ m ≤ 12 ∧ 1 ≤ d ∧ d ≤ mlen (leapJ y) m); omega)).1
                 · exact (fix_bad (by omega) (by unfold Val; show ¬ (1 ≤ m ∧ m ≤ 12 ∧ 1 ≤ d ∧ d ≤ mlen (leapJ y) m); omega)).2)
            · first
              | (exfalso; omega)
              | (by_cases hc6 : mlen (leapJ y) m < d
                 · first
                   | (exfalso; omega)
                   | (refine E.drawn 14 mixed hF [16, 17, 18, 19, 20, 21, 22, 23, 24, 25, 26, 27, 28, 15] [(fun _ v => v = .pointer (some ⟨g1, 2, none⟩)), (fun _ v => v = .int .i64 d), (fun _ v => v = .bool false), (fun _ v => v = .bool false), (fun _ v => v = .pointer (some ⟨g1, 2, none⟩)), (fun _ v => v = .int .i64 d), (fun _ v => v = .pointer (some ⟨g1, 0, none⟩)), (fun _ v => v = .int .i64 y), (fun _ v => v = .pointer (some ⟨g1, 1, none⟩)), (fun _ v => v = .int .i64 m), (fun _ v => v = .int .i64 (mlen (leapJ y) m)), (fun _ v => v = .bool true), (fun _ v => v = .bool true), (fun _ v => v = .bool true)] [] (by decide +kernel) (by decide +kernel) rfl rfl rfl ⟨(Mb.eq _), (Mb.eq _), (Mb.eq _), (Mb.eq _), (Mb.eq _), (Mb.eq _), (Mb.eq _), (Mb.eq _), (Mb.eq _), (Mb.eq _), (Mb.eq _), (Mb.eq _), (Mb.eq _), (Mb.eq _), trivial⟩ trivial ⟨?_, ?_, ?_, ?_, ?_, ?_, ?_, ?_, ?_, ?_, ?_, ?_, ?_, ?_, trivial⟩ ?_
                      · intro a' w' hF' hb hd
                        exact if_does (wanted_free rfl) (Does.vals (r_field (hF'.at 11 rfl) (fa_JDate_2 (p := 2) rfl)) ⟨rfl, Below.refl _ _, (fun h => absurd h (by decide))⟩)
                      · intro a' w' hF' hb hd
                        have e16 : a'.tmps.getD 16 undef = .pointer (some ⟨g1, 2, none⟩) := hd _ 16 (Array.mem_of_getElem? (i := 0) rfl) rfl rfl
                        exact if_does (wanted_free rfl) (Does.vals (r_load e16 (ldb_int (v := .int .i64 d) (o1.below hb) rfl)) ⟨rfl, Below.refl _ _, (fun h => absurd h (by decide))⟩)
                      · intro a' w' hF' hb hd
                        have e17 : a'.tmps.getD 17 undef = .int .i64 d := hd _ 17 (Array.mem_of_getElem? (i := 0) rfl) rfl rfl
                        exact if_does (wanted_free rfl) (Does.vals (r_bin e17 ev_c eg_scalar (bi_int (ic_lss (c := false) (dec_ff hc4)) (by simp))) ⟨rfl, Below.refl _ _, (fun h => absurd h (by decide))⟩)
                      · intro a' w' hF' hb hd
                        have e18 : a'.tmps.getD 18 undef = .bool false := hd _ 18 (Array.mem_of_getElem? (i := 0) rfl) rfl rfl
                        exact if_does (wanted_free rfl) (Does.vals (r_move e18) ⟨rfl, Below.refl _ _, (fun h => absurd h (by decide))⟩)
                      · intro a' w' hF' hb hd
                        have e19 : a'.tmps.getD 19 undef = .bool false := hd _ 19 (Array.mem_of_getElem? (i := 0) rfl) rfl rfl
                        exact if_does (wanted_by rfl rfl e19 rfl) (Does.vals (r_field (hF'.at 11 rfl) (fa_JDate_2 (p := 2) rfl)) ⟨rfl, Below.refl _ _, (fun h => absurd h (by decide))⟩)
                      · intro a' w' hF' hb hd
                        have e19 : a'.tmps.getD 19 undef = .bool false := hd _ 19 (Array.mem_of_getElem? (i := 1) rfl) rfl rfl
                        have e20 : a'.tmps.getD 20 undef = .pointer (some ⟨g1, 2, none⟩) := hd _ 20 (Array.mem_of_getElem? (i := 0) rfl) rfl rfl
                        exact if_does (wanted_by rfl rfl e19 rfl) (Does.vals (r_load e20 (ldb_int (v := .int .i64 d) (o1.below hb) rfl)) ⟨rfl, Below.refl _ _, (fun h => absurd h (by decide))⟩)
                      · intro a' w' hF' hb hd
                        have e19 : a'.tmps.getD 19 undef = .bool false := hd _ 19 (Array.mem_of_getElem? (i := 0) rfl) rfl rfl
                        exact if_does (wanted_by rfl rfl e19 rfl) (Does.vals (r_field (hF'.at 11 rfl) (fa_JDate_0 (p := 0) rfl)) ⟨rfl, Below.refl _ _, (fun h => absurd h (by decide))⟩)
                      · intro a' w' hF' hb hd
                        have e19 : a'.tmps.getD 19 undef = .bool false := hd _ 19 (Array.mem_of_getElem? (i := 1) rfl) rfl rfl
                        have e22 : a'.tmps.getD 22 undef = .pointer (some ⟨g1, 0, none⟩) := hd _ 22 (Array.mem_of_getElem? (i := 0) rfl) rfl rfl
                        exact if_does (wanted_by rfl rfl e19 rfl) (Does.vals (r_load e22 (ldb_i64 (v := .int .i64 y) (o1.below hb) rfl)) ⟨rfl, Below.refl _ _, (fun h => absurd h (by decide))⟩)
                      · intro a' w' hF' hb hd
                        have e19 : a'.tmps.getD 19 undef = .bool false := hd _ 19 (Array.mem_of_getElem? (i := 0) rfl) rfl rfl
                        exact if_does (wanted_by rfl rfl e19 rfl) (Does.vals (r_field (hF'.at 11 rfl) (fa_JDate_1 (p := 1) rfl)) ⟨rfl, Below.refl _ _, (fun h => absurd h (by decide))⟩)
                      · intro a' w' hF' hb hd
                        have e19 : a'.tmps.getD 19 undef = .bool false := hd _ 19 (Array.mem_of_getElem? (i := 1) rfl) rfl rfl
                        have e24 : a'.tmps.getD 24 undef = .pointer (some ⟨g1, 1, none⟩) := hd _ 24 (Array.mem_of_getElem? (i := 0) rfl) rfl rfl
                        exact if_does (wanted_by rfl rfl e19 rfl) (Does.vals (r_load e24 (ldb_int (v := .int .i64 m) (o1.below hb) rfl)) ⟨rfl, Below.refl _ _, (fun h => absurd h (by decide))⟩)
                      · intro a' w' hF' hb hd
                        have e19 : a'.tmps.getD 19 undef = .bool false := hd _ 19 (Array.mem_of_getElem? (i := 2) rfl) rfl rfl
                        have e23 : a'.tmps.getD 23 undef = .int .i64 y := hd _ 23 (Array.mem_of_getElem? (i := 0) rfl) rfl rfl
                        have e25 : a'.tmps.getD 25 undef = .int .i64 m := hd _ 25 (Array.mem_of_getElem? (i := 1) rfl) rfl rfl
                        refine if_does (wanted_by rfl rfl e19 rfl) (Does.calls (r_call Tryd.func31 en31.1 en31.2 (map2 e23 e25)) (clenJ_any y m _ (hT.below (below_to bel hb))) ?_)
                        rintro e w'' ⟨rfl, bb⟩
                        exact ⟨_, rfl, rfl, bb, (fun h => absurd h (by decide))⟩
                      · intro a' w' hF' hb hd
                        have e19 : a'.tmps.getD 19 undef = .bool false := hd _ 19 (Array.mem_of_getElem? (i := 2) rfl) rfl rfl
                        have e21 : a'.tmps.getD 21 undef = .int .i64 d := hd _ 21 (Array.mem_of_getElem? (i := 0) rfl) rfl rfl
                        have e26 : a'.tmps.getD 26 undef = .int .i64 (mlen (leapJ y) m) := hd _ 26 (Array.mem_of_getElem? (i := 1) rfl) rfl rfl
                        exact if_does (wanted_by rfl rfl e19 rfl) (Does.vals (r_bin e21 e26 eg_scalar (bi_int (ic_gtr (c := true) (dec_tt hc6)) (by simp))) ⟨rfl, Below.refl _ _, (fun h => absurd h (by decide))⟩)
                      · intro a' w' hF' hb hd
                        have e19 : a'.tmps.getD 19 undef = .bool false := hd _ 19 (Array.mem_of_getElem? (i := 0) rfl) rfl rfl
                        have e27 : a'.tmps.getD 27 undef = .bool true := hd _ 27 (Array.mem_of_getElem? (i := 1) rfl) rfl rfl
                        exact if_does (wanted_free rfl) (Does.vals (r_pick_f e19 e27) ⟨rfl, Below.refl _ _, (fun h => absurd h (by decide))⟩)
                      · intro a' w' hF' hb hd
                        have e28 : a'.tmps.getD 28 undef = .bool true := hd _ 28 (Array.mem_of_getElem? (i := 0) rfl) rfl rfl
                        exact if_does (wanted_free rfl) (Does.vals (r_assign e28) ⟨rfl, Below.refl _ _, (fun h => absurd h (by decide))⟩)
                      intro a w7 hF bb hall hne
                      have e15 : a.tmps.getD 15 undef = .bool true := hall 13 15 rfl
                      clear hall hne
                      replace o1 := o1.below bb
                      replace bel := below_to bel bb
                      clear bb
                      replace hF := hF.add e15
                      clear e15
                      refine E.nil ?_
                      refine wp_cond_true (hF.at 0 rfl) ?_
                      refine wp_seq ?_
                      refine E.seq ?_
                      refine E.opset (L' := [(2, .int .i64 0), (15, .bool true), (6, .bool false), (14, .bool false), (13, .bool false), (12, .int .i64 y), (11, .pointer (some ⟨g1, 0, none⟩)), (10, .bool false), (9, .bool false), (8, .int .i64 y), (7, .pointer (some ⟨g1, 0, none⟩)), (3, .int .i64 0), (1, .pointer (some ⟨g1, 0, none⟩)), (0, .agg #[.int .i64 y, .int .i64 m, .int .i64 d])]) hF (r_assign ev_c) rfl rfl rfl rfl fun a hF => ?_
                      refine E.opset (L' := [(3, .int .i64 4), (2, .int .i64 0), (15, .bool true), (6, .bool false), (14, .bool false), (13, .bool false), (12, .int .i64 y), (11, .pointer (some ⟨g1, 0, none⟩)), (10, .bool false), (9, .bool false), (8, .int .i64 y), (7, .pointer (some ⟨g1, 0, none⟩)), (1, .pointer (some ⟨g1, 0, none⟩)), (0, .agg #[.int .i64 y, .int .i64 m, .int .i64 d])]) hF (r_assign ev_c) rfl rfl rfl rfl fun a hF => ?_
                      refine E.nil ?_
                      refine wp_ret ?_
                      refine bodyPost_ret (res_tmp2 Tryd.results28 (hF.at 1 rfl) (hF.at 0 rfl)) hF.dfr ?_
                      refine ⟨rv_int2 ?_ ?_, bel⟩
                      · exact (fix_bad (by omega) (by unfold Val; show ¬ (1 ≤ m ∧ m ≤ 12 ∧ 1 ≤ d ∧ d ≤ mlen (leapJ y) m); omega)).1
                      · exact (fix_bad (by omega) (by unfold Val; show ¬ (1 ≤ m ∧ m ≤ 12 ∧ 1 ≤ d ∧ d ≤ mlen (leapJ y) m); omega)).2)
                 · first
                   | (exfalso; omega)
                   | (refine E.drawn 14 mixed hF [16, 17, 18, 19, 20, 21, 22, 23, 24, 25, 26, 27, 28, 15] [(fun _ v => v = .pointer (some ⟨g1, 2, none⟩)), (fun _ v => v = .int .i64 d), (fun _ v => v = .bool false), (fun _ v => v = .bool false), (fun _ v => v = .pointer (some ⟨g1, 2, none⟩)), (fun _ v => v = .int .i64 d), (fun _ v => v = .pointer (some ⟨g1, 0, none⟩)), (fun _ v => v = .int .i64 y), (fun _ v => v = .pointer (some ⟨g1, 1, none⟩)), (fun _ v => v = .int .i64 m), (fun _ v => v = .int .i64 (mlen (leapJ y) m)), (fun _ v => v = .bool false), (fun _ v => v = .bool false), (fun _ v => v = .bool false)] [] (by decide +kernel) (by decide +kernel) rfl rfl rfl ⟨(Mb.eq _), (Mb.eq _), (Mb.eq _), (Mb.eq _), (Mb.eq _), (Mb.eq _), (Mb.eq _), (Mb.eq _), (Mb.eq _), (Mb.eq _), (Mb.eq _), (Mb.eq _), (Mb.eq _), (Mb.eq _), trivial⟩ trivial ⟨?_, ?_, ?_, ?_, ?_, ?_, ?_, ?_, ?_, ?_, ?_, ?_, ?_, ?_, trivial⟩ ?_
                      · intro a' w' hF' hb hd
                        exact if_does (wanted_free rfl) (Does.vals (r_field (hF'.at 11 rfl) (fa_JDate_2 (p := 2) rfl)) ⟨rfl, Below.refl _ _, (fun h => absurd h (by decide))⟩)
                      · intro a' w' hF' hb hd
                        have e16 : a'.tmps.getD 16 undef = .pointer (some ⟨g1, 2, none⟩) := hd _ 16 (Array.mem_of_getElem? (i := 0) rfl) rfl rfl
                        exact if_does (wanted_free rfl) (Does.vals (r_load e16 (ldb_int (v := .int .i64 d) (o1.below hb) rfl)) ⟨rfl, Below.refl _ _, (fun h => absurd h (by decide))⟩)
                      · intro a' w' hF' hb hd
                        have e17 : a'.tmps.getD 17 undef = .int .i64 d := hd _ 17 (Array.mem_of_getElem? (i := 0) rfl) rfl rfl
                        exact if_does (wanted_free rfl) (Does.vals (r_bin e17 ev_c eg_scalar (bi_int (ic_lss (c := false) (dec_ff hc4)) (by simp))) ⟨rfl, Below.refl _ _, (fun h => absurd h (by decide))⟩)
                      · intro a' w' hF' hb hd
                        have e18 : a'.tmps.getD 18 undef = .bool false := hd _ 18 (Array.mem_of_getElem? (i := 0) rfl) rfl rfl
                        exact if_does (wanted_free rfl) (Does.vals (r_move e18) ⟨rfl, Below.refl _ _, (fun h => absurd h (by decide))⟩)
                      · intro a' w' hF' hb hd
                        have e19 : a'.tmps.getD 19 undef = .bool false := hd _ 19 (Array.mem_of_getElem? (i := 0) rfl) rfl rfl
                        exact if_does (wanted_by rfl rfl e19 rfl) (Does.vals (r_field (hF'.at 11 rfl) (fa_JDate_2 (p := 2) rfl)) ⟨rfl, Below.refl _ _, (fun h => absurd h (by decide))⟩)
                      · intro a' w' hF' hb hd
                        have e19 : a'.tmps.getD 19 undef = .bool false := hd _ 19 (Array.mem_of_getElem? (i := 1) rfl) rfl rfl
                        have e20 : a'.tmps.getD 20 undef = .pointer (some ⟨g1, 2, none⟩) := hd _ 20 (Array.mem_of_getElem? (i := 0) rfl) rfl rfl
                        exact if_does (wanted_by rfl rfl e19 rfl) (Does.vals (r_load e20 (ldb_int (v := .int .i64 d) (o1.below hb) rfl)) ⟨rfl, Below.refl _ _, (fun h => absurd h (by decide))⟩)
                      · intro a' w' hF' hb hd
                        have e19 : a'.tmps.getD 19 undef = .bool false := hd _ 19 (Array.mem_of_getElem? (i := 0) rfl) rfl rfl
                        exact if_does (wanted_by rfl rfl e19 rfl) (Does.vals (r_field (hF'.at 11 rfl) (fa_JDate_0 (p := 0) rfl)) ⟨rfl, Below.refl _ _, (fun h => absurd h (by decide))⟩)
                      · intro a' w' hF' hb hd
                        have e19 : a'.tmps.getD 19 undef = .bool false := hd _ 19 (Array.mem_of_getElem? (i := 1) rfl) rfl rfl
                        have e22 : a'.tmps.getD 22 undef = .pointer (some ⟨g1, 0, none⟩) := hd _ 22 (Array.mem_of_getElem? (i := 0) rfl) rfl rfl
                        exact if_does (wanted_by rfl rfl e19 rfl) (Does.vals (r_load e22 (ldb_i64 (v := .int .i64 y) (o1.below hb) rfl)) ⟨rfl, Below.refl _ _, (fun h => absurd h (by decide))⟩)
                      · intro a' w' hF' hb hd
                        have e19 : a'.tmps.getD 19 undef = .bool false := hd _ 19 (Array.mem_of_getElem? (i := 0) rfl) rfl rfl
                        exact if_does (wanted_by rfl rfl e19 rfl) (Does.vals (r_field (hF'.at 11 rfl) (fa_JDate_1 (p := 1) rfl)) ⟨rfl, Below.refl _ _, (fun h => absurd h (by decide))⟩)
                      · intro a' w' hF' hb hd
                        have e19 : a'.tmps.getD 19 undef = .bool false := hd _ 19 (Array.mem_of_getElem? (i := 1) rfl) rfl rfl
                        have e24 : a'.tmps.getD 24 undef = .pointer (some ⟨g1, 1, none⟩) := hd _ 24 (Array.mem_of_getElem? (i := 0) rfl) rfl rfl
                        exact if_does (wanted_by rfl rfl e19 rfl) (Does.vals (r_load e24 (ldb_int (v := .int .i64 m) (o1.below hb) rfl)) ⟨rfl, Below.refl _ _, (fun h => absurd h (by decide))⟩)
                      · intro a' w' hF' hb hd
                        have e19 : a'.tmps.getD 19 undef = .bool false := hd _ 19 (Array.mem_of_getElem? (i := 2) rfl) rfl rfl
                        have e23 : a'.tmps.getD 23 undef = .int .i64 y := hd _ 23 (Array.mem_of_getElem? (i := 0) rfl) rfl rfl
                        have e25 : a'.tmps.getD 25 undef = .int .i64 m := hd _ 25 (Array.mem_of_getElem? (i := 1) rfl) rfl rfl
                        refine if_does (wanted_by rfl rfl e19 rfl) (Does.calls (r_call Tryd.func31 en31.1 en31.2 (map2 e23 e25)) (clenJ_any y m _ (hT.below (below_to bel hb))) ?_)
                        rintro e w'' ⟨rfl, bb⟩
                        exact ⟨_, rfl, rfl, bb, (fun h => absurd h (by decide))⟩
                      · intro a' w' hF' hb hd
                        have e19 : a'.tmps.getD 19 undef = .bool false := hd _ 19 (Array.mem_of_getElem? (i := 2) rfl) rfl rfl
                        have e21 : a'.tmps.getD 21 undef = .int .i64 d := hd _ 21 (Array.mem_of_getElem? (i := 0) rfl) rfl rfl
                        have e26 : a'.tmps.getD 26 undef = .int .i64 (mlen (leapJ y) m) := hd _ 26 (Array.mem_of_getElem? (i := 1) rfl) rfl rfl
                        exact if_does (wanted_by rfl rfl e19 rfl) (Does.vals (r_bin e21 e26 eg_scalar (bi_int (ic_gtr (c := false) (dec_ff hc6)) (by simp))) ⟨rfl, Below.refl _ _, (fun h => absurd h (by decide))⟩)
                      · intro a' w' hF' hb hd
                        have e19 : a'.tmps.getD 19 undef = .bool false := hd _ 19 (Array.mem_of_getElem? (i := 0) rfl) rfl rfl
                        have e27 : a'.tmps.getD 27 undef = .bool false := hd _ 27 (Array.mem_of_getElem? (i := 1) rfl) rfl rfl
                        exact if_does (wanted_free rfl) (Does.vals (r_pick_f e19 e27) ⟨rfl, Below.refl _ _, (fun h => absurd h (by decide))⟩)
                      · intro a' w' hF' hb hd
                        have e28 : a'.tmps.getD 28 undef = .bool false := hd _ 28 (Array.mem_of_getElem? (i := 0) rfl) rfl rfl
                        exact if_does (wanted_free rfl) (Does.vals (r_assign e28) ⟨rfl, Below.refl _ _, (fun h => absurd h (by decide))⟩)
                      intro a w8 hF bb hall hne
                      have e15 : a.tmps.getD 15 undef = .bool false := hall 13 15 rfl
                      clear hall hne
                      replace o1 := o1.below bb
                      replace bel := below_to bel bb
                      clear bb
                      replace hF := hF.add e15
                      clear e15
                      refine E.nil ?_
                      refine wp_cond_false (hF.at 0 rfl) ?_
                      refine wp_skip ?_
                      refine E.blk ?_
                      refine E.norm ?_
                      refine wp_seq ?_
                      refine E.drawn 8 mixed hF [29, 30, 31, 32, 33, 34, 35, 4] [(fun _ v => v = .pointer (some ⟨g1, 0, none⟩)), (fun _ v => v = .int .i64 y), (fun _ v => v = .int .i64 (firstJ y)), (fun _ v => v = .pointer (some ⟨g1, 2, none⟩)), (fun _ v => v = .int .i64 d), (fun _ v => v = .int .i64 (d - 1)), (fun _ v => v = .int .i64 ((firstJ y) + (d - 1))), (fun _ v => v = .int .i64 ((firstJ y) + (d - 1)))] [] (by decide +kernel) (by decide +kernel) rfl rfl rfl ⟨(Mb.eq _), (Mb.eq _), (Mb.eq _), (Mb.eq _), (Mb.eq _), (Mb.eq _), (Mb.eq _), (Mb.eq _), trivial⟩ trivial ⟨?_, ?_, ?_, ?_, ?_, ?_, ?_, ?_, trivial⟩ ?_
                      · intro a' w' hF' hb hd
                        exact if_does (wanted_free rfl) (Does.vals (r_field (hF'.at 12 rfl) (fa_JDate_0 (p := 0) rfl)) ⟨rfl, Below.refl _ _, (fun h => absurd h (by decide))⟩)
                      · intro a' w' hF' hb hd
                        have e29 : a'.tmps.getD 29 undef = .pointer (some ⟨g1, 0, none⟩) := hd _ 29 (Array.mem_of_getElem? (i := 0) rfl) rfl rfl
                        exact if_does (wanted_free rfl) (Does.vals (r_load e29 (ldb_i64 (v := .int .i64 y) (o1.below hb) rfl)) ⟨rfl, Below.refl _ _, (fun h => absurd h (by decide))⟩)
                      · intro a' w' hF' hb hd
                        have e30 : a'.tmps.getD 30 undef = .int .i64 y := hd _ 30 (Array.mem_of_getElem? (i := 0) rfl) rfl rfl
                        refine if_does (wanted_free rfl) (Does.calls (r_call Tryd.func45 en45.1 en45.2 (map1 e30)) (cfirstJ_any y _ (by omega) (by omega)) ?_)
                        rintro e w'' ⟨rfl, bb⟩
                        exact ⟨_, rfl, rfl, bb, (fun h => absurd h (by decide))⟩
                      · intro a' w' hF' hb hd
                        exact if_does (wanted_free rfl) (Does.vals (r_field (hF'.at 12 rfl) (fa_JDate_2 (p := 2) rfl)) ⟨rfl, Below.refl _ _, (fun h => absurd h (by decide))⟩)
                      · intro a' w' hF' hb hd
                        have e32 : a'.tmps.getD 32 undef = .pointer (some ⟨g1, 2, none⟩) := hd _ 32 (Array.mem_of_getElem? (i := 0) rfl) rfl rfl
                        exact if_does (wanted_free rfl) (Does.vals (r_load e32 (ldb_int (v := .int .i64 d) (o1.below hb) rfl)) ⟨rfl, Below.refl _ _, (fun h => absurd h (by decide))⟩)
                      · intro a' w' hF' hb hd
                        have e33 : a'.tmps.getD 33 undef = .int .i64 d := hd _ 33 (Array.mem_of_getElem? (i := 0) rfl) rfl rfl
                        exact if_does (wanted_free rfl) (Does.vals (r_bin e33 ev_c eg_scalar (ia_sub (by omega) (by omega))) ⟨rfl, Below.refl _ _, (fun h => absurd h (by decide))⟩)
                      · intro a' w' hF' hb hd
                        have e31 : a'.tmps.getD 31 undef = .int .i64 (firstJ y) := hd _ 31 (Array.mem_of_getElem? (i := 0) rfl) rfl rfl
                        have hfb := firstJ_bd (y := y) (by omega) (by omega)
                        have e34 : a'.tmps.getD 34 undef = .int .i64 (d - 1) := hd _ 34 (Array.mem_of_getElem? (i := 1) rfl) rfl rfl
                        exact if_does (wanted_free rfl) (Does.vals (r_bin e31 e34 eg_scalar (ia_add (by omega) (by omega))) ⟨rfl, Below.refl _ _, (fun h => absurd h (by decide))⟩)
                      · intro a' w' hF' hb hd
                        have e35 : a'.tmps.getD 35 undef = .int .i64 ((firstJ y) + (d - 1)) := hd _ 35 (Array.mem_of_getElem? (i := 0) rfl) rfl rfl
                        exact if_does (wanted_free rfl) (Does.vals (r_assign e35) ⟨rfl, Below.refl _ _, (fun h => absurd h (by decide))⟩)
                      intro a w9 hF bb hall hne
                      have e4 : a.tmps.getD 4 undef = .int .i64 ((firstJ y) + (d - 1)) := hall 7 4 rfl
                      clear hall hne
                      replace o1 := o1.below bb
                      replace bel := below_to bel bb
                      clear bb
                      replace hF := hF.add e4
                      clear e4
                      refine E.nil ?_
                      refine wp_seq ?_
                      refine wp_seq ?_
                      refine E.seq ?_
                      refine E.opv hF (r_assign ev_c) rfl rfl rfl rfl fun a hF => ?_
                      refine E.nil ?_
                      refine wp_block ?_
                      refine E.loop (fun mq a wv => ∃ (n : Int) (k : Int), 1 ≤ k ∧ k ≤ m ∧ n = firstJ y + (d - 1) + cum (leapJ y) k ∧ Fr 52 a [(5, .int .i64 k), (4, .int .i64 n), (3, .int .i64 0), (2, .int .i64 0), (1, .pointer (some ⟨g1, 0, none⟩))] ∧ Below w9.heap.size w9 wv ∧ Below w.heap.size w wv ∧ mq = (m - k : Int).toNat) ((m - (1) : Int).toNat) ?_ ?_
                      · exact ⟨((firstJ y) + (d - 1) : Int), (1 : Int), (by omega), ((mlen_in (l := leapJ y) (m := m) (by omega)).1), (by rw [cum_one]; omega), hF.sub (by intro p hp; simp only [List.mem_cons, List.not_mem_nil, or_false] at hp ⊢; rcases hp with rfl | rfl | rfl | rfl | rfl <;> simp), Below.refl _ _, bel, rfl⟩
                      · rintro mq a w10 ⟨n, k, hk1, hk2, hn, hF, sty, bel, hm⟩
                        replace o1 := o1.below sty
                        have hm2 := mlen_in (l := leapJ y) (m := m) (by omega)
                        have hcb := cum_bd (leapJ y) (m := k) hk1 (by omega)
                        have hmb := mlen_bd (leapJ y) k
                        have hmd := mlen_bd (leapJ y) m
                        have hfb := firstJ_bd (y := y) (by omega) (by omega)
                        refine wp_seq ?_
                        refine wp_seq ?_
                        refine E.seq ?_
                        refine E.opv hF (r_move (hF.at 0 rfl)) rfl rfl rfl rfl fun a hF => ?_
                        refine E.opv hF (r_field (hF.at 5 rfl) (fa_JDate_1 (p := 1) rfl)) rfl rfl rfl rfl fun a hF => ?_
                        refine E.opv hF (r_load (hF.at 0 rfl) (ldb_int (v := .int .i64 m) o1 rfl)) rfl rfl rfl rfl fun a hF => ?_
                        by_cases hc11 : k < m
                        · first
                          | (exfalso; omega)
                          | (refine E.opv hF (r_bin (hF.at 2 rfl) (hF.at 0 rfl) eg_scalar (bi_int (ic_lss (c := true) (dec_tt hc11)) (by simp))) rfl rfl rfl rfl fun a hF => ?_
                             refine E.nil ?_
                             refine wp_cond_true (hF.at 0 rfl) ?_
                             refine wp_skip ?_
                             refine E.norm ?_
                             refine wp_seq ?_
                             refine wp_block ?_
                             refine E.seq ?_
                             refine E.opv hF (r_move (hF.at 5 rfl)) rfl rfl rfl rfl fun a hF => ?_
                             refine E.opv hF (r_field (hF.at 9 rfl) (fa_JDate_0 (p := 0) rfl)) rfl rfl rfl rfl fun a hF => ?_
                             refine E.opv hF (r_load (hF.at 0 rfl) (ldb_i64 (v := .int .i64 y) o1 rfl)) rfl rfl rfl rfl fun a hF => ?_
                             refine E.opv hF (r_move (hF.at 7 rfl)) rfl rfl rfl rfl fun a hF => ?_
                             refine E.call hF (r_call Tryd.func31 en31.1 en31.2 (map2 (hF.at 1 rfl) (hF.at 0 rfl))) (clenJ_any y k _ (hT.below bel)) rfl rfl rfl rfl ?_
                             rintro e w12 ⟨rfl, bb⟩
                             refine ⟨_, rfl, ?_⟩
                             intro a hF
                             replace o1 := o1.below bb
                             replace bel := below_to bel bb
                             replace sty := below_to sty bb
                             clear bb
                             refine E.opv hF (r_bin (hF.at 4 rfl) (hF.at 0 rfl) eg_scalar (ia_add (by omega) (by omega))) rfl rfl rfl rfl fun a hF => ?_
                             refine E.opset (L' := [(4, .int .i64 (n + (mlen (leapJ y) k))), (47, .int .i64 (n + (mlen (leapJ y) k))), (46, .int .i64 (mlen (leapJ y) k)), (45, .int .i64 k), (44, .int .i64 y), (43, .pointer (some ⟨g1, 0, none⟩)), (42, .int .i64 n), (39, .bool true), (38, .int .i64 m), (37, .pointer (some ⟨g1, 1, none⟩)), (36, .int .i64 k), (5, .int .i64 k), (3, .int .i64 0), (2, .int .i64 0), (1, .pointer (some ⟨g1, 0, none⟩))]) hF (r_assign (hF.at 0 rfl)) rfl rfl rfl rfl fun a hF => ?_
                             refine E.nil0 ?_
                             refine E.blk ?_
                             refine E.norm ?_
                             refine E.seq ?_
                             refine E.opv hF (r_move (hF.at 11 rfl)) rfl rfl rfl rfl fun a hF => ?_
                             refine E.opv hF (r_bin (hF.at 0 rfl) ev_c eg_scalar (ia_add (by omega) (by omega))) rfl rfl rfl rfl fun a hF => ?_
                             refine E.opset (L' := [(5, .int .i64 (k + 1)), (41, .int .i64 (k + 1)), (40, .int .i64 k), (4, .int .i64 (n + (mlen (leapJ y) k))), (47, .int .i64 (n + (mlen (leapJ y) k))), (46, .int .i64 (mlen (leapJ y) k)), (45, .int .i64 k), (44, .int .i64 y), (43, .pointer (some ⟨g1, 0, none⟩)), (42, .int .i64 n), (39, .bool true), (38, .int .i64 m), (37, .pointer (some ⟨g1, 1, none⟩)), (36, .int .i64 k), (3, .int .i64 0), (2, .int .i64 0), (1, .pointer (some ⟨g1, 0, none⟩))]) hF (r_assign (hF.at 0 rfl)) rfl rfl rfl rfl fun a hF => ?_
                             refine E.nil0 ?_
                             refine E.norm ?_
                             exact ⟨(m - (k + 1) : Int).toNat, by omega, ⟨(n + (mlen (leapJ y) k) : Int), (k + 1 : Int), (by omega), (by omega), (by have := cum_step (leapJ y) (m := k) hk1 (by omega); omega), Fr.sub (L' := [(5, .int .i64 (k + 1)), (4, .int .i64 (n + (mlen (leapJ y) k))), (3, .int .i64 0), (2, .int .i64 0), (1, .pointer (some ⟨g1, 0, none⟩))]) hF (by intro p hp; simp only [List.mem_cons, List.not_mem_nil, or_false] at hp ⊢; rcases hp with rfl | rfl | rfl | rfl | rfl <;> simp), sty, bel, rfl⟩⟩)
                        · first
                          | (exfalso; omega)
                          | (refine E.opv hF (r_bin (hF.at 2 rfl) (hF.at 0 rfl) eg_scalar (bi_int (ic_lss (c := false) (dec_ff hc11)) (by simp))) rfl rfl rfl rfl fun a hF => ?_
                             refine E.nil ?_
                             refine wp_cond_false (hF.at 0 rfl) ?_
                             refine wp_exit ?_
                             refine E.past ?_
                             refine E.past ?_
                             refine E.out (id := 1) ?_
                             refine E.norm ?_
                             refine wp_seq ?_
                             refine wp_seq ?_
                             refine E.seq ?_
                             refine E.opv hF (r_move (hF.at 5 rfl)) rfl rfl rfl rfl fun a hF => ?_
                             refine E.call hF (r_call Tryd.func43 en43.1 en43.2 (map1 (hF.at 0 rfl))) (cmayJ_any n _) rfl rfl rfl rfl ?_
                             rintro e w13 ⟨rfl, bb⟩
                             refine ⟨_, rfl, ?_⟩
                             intro a hF
                             replace bel := below_to bel bb
                             clear bb
                             by_cases hc14 : mayB n = true
                             · first
                               | (exfalso; omega)
                               | (refine E.opv hF (r_un (Eq.trans (hF.at 0 rfl) (congrArg Value.bool hc14)) (bn_not _ false rfl)) rfl rfl rfl rfl fun a hF => ?_
                                  refine E.nil ?_
                                  refine wp_cond_false (hF.at 0 rfl) ?_
                                  refine wp_skip ?_
                                  refine E.norm ?_
                                  refine wp_seq ?_
                                  refine E.seq ?_
                                  refine E.opv hF (r_move (hF.at 8 rfl)) rfl rfl rfl rfl fun a hF => ?_
                                  refine E.opset (L' := [(2, .int .i64 n), (51, .int .i64 n), (50, .bool false), (49, .bool (mayB n)), (48, .int .i64 n), (39, .bool false), (38, .int .i64 m), (37, .pointer (some ⟨g1, 1, none⟩)), (36, .int .i64 k), (5, .int .i64 k), (4, .int .i64 n), (3, .int .i64 0), (1, .pointer (some ⟨g1, 0, none⟩))]) hF (r_assign (hF.at 0 rfl)) rfl rfl rfl rfl fun a hF => ?_
                                  refine E.opset (L' := [(3, .int .i64 0), (2, .int .i64 n), (51, .int .i64 n), (50, .bool false), (49, .bool (mayB n)), (48, .int .i64 n), (39, .bool false), (38, .int .i64 m), (37, .pointer (some ⟨g1, 1, none⟩)), (36, .int .i64 k), (5, .int .i64 k), (4, .int .i64 n), (1, .pointer (some ⟨g1, 0, none⟩))]) hF (r_assign ev_c) rfl rfl rfl rfl fun a hF => ?_
                                  refine E.nil ?_
                                  refine wp_ret ?_
                                  refine bodyPost_ret (res_tmp2 Tryd.results28 (hF.at 1 rfl) (hF.at 0 rfl)) hF.dfr ?_
                                  have hkm : k = m := by omega
                                  subst hkm
                                  have hday : n = calJ.day y k d := by rw [hn]; show _ = firstJ y + cum (leapJ y) k + d - 1; omega
                                  have hval : Val (calJ.leap y) k d := ⟨hk1, hm2.2, by omega, by show d ≤ mlen (leapJ y) k; omega⟩
                                  refine ⟨rv_int2 ?_ ?_, bel⟩
                                  · exact hday.trans (fix_ok (by omega) hval (by rw [← hday]; first | assumption | simp_all)).1
                                  · exact (fix_ok (by omega) hval (by rw [← hday]; first | assumption | simp_all)).2)
                             · first
                               | (exfalso; omega)
                               | (refine E.opv hF (r_un (Eq.trans (hF.at 0 rfl) (congrArg Value.bool (eq_false_of_ne_true hc14))) (bn_not _ true rfl)) rfl rfl rfl rfl fun a hF => ?_
                                  refine E.nil ?_
                                  refine wp_cond_true (hF.at 0 rfl) ?_
                                  refine wp_seq ?_
                                  refine E.seq ?_
                                  refine E.opset (L' := [(2, .int .i64 0), (50, .bool true), (49, .bool (mayB n)), (48, .int .i64 n), (39, .bool false), (38, .int .i64 m), (37, .pointer (some ⟨g1, 1, none⟩)), (36, .int .i64 k), (5, .int .i64 k), (4, .int .i64 n), (3, .int .i64 0), (1, .pointer (some ⟨g1, 0, none⟩))]) hF (r_assign ev_c) rfl rfl rfl rfl fun a hF => ?_
                                  refine E.opset (L' := [(3, .int .i64 2), (2, .int .i64 0), (50, .bool true), (49, .bool (mayB n)), (48, .int .i64 n), (39, .bool false), (38, .int .i64 m), (37, .pointer (some ⟨g1, 1, none⟩)), (36, .int .i64 k), (5, .int .i64 k), (4, .int .i64 n), (1, .pointer (some ⟨g1, 0, none⟩))]) hF (r_assign ev_c) rfl rfl rfl rfl fun a hF => ?_
                                  refine E.nil ?_
                                  refine wp_ret ?_
                                  refine bodyPost_ret (res_tmp2 Tryd.results28 (hF.at 1 rfl) (hF.at 0 rfl)) hF.dfr ?_
                                  have hkm : k = m := by omega
                                  subst hkm
                                  have hday : n = calJ.day y k d := by rw [hn]; show _ = firstJ y + cum (leapJ y) k + d - 1; omega
                                  have hval : Val (calJ.leap y) k d := ⟨hk1, hm2.2, by omega, by show d ≤ mlen (leapJ y) k; omega⟩
                                  refine ⟨rv_int2 ?_ ?_, bel⟩
                                  · exact (fix_far (by omega) hval (by rw [← hday]; first | assumption | exact eq_false_of_ne_true (by assumption))).1
                                  · exact (fix_far (by omega) hval (by rw [← hday]; first | assumption | exact eq_false_of_ne_true (by assumption))).2))))))

set_option maxHeartbeats 8000000 in
theorem cofJ_any (n : Int) (w : World) (hT : TabJ w) (hmay : mayB n = true) :
    Calls Tryd.prog 26 #[.int .i64 n] w (fun e w' => ∃ y mo d, e = .returned (.tuple #[.agg #[.int .i64 y, .int .i64 mo, .int .i64 d], .int .i64 0]) ∧ Val (leapJ y) mo d ∧ calJ.day y mo d = n ∧ Below w.heap.size w w') := by
  have hmay1 := mayB_of hmay
  have hyb := yearJ_bd hmay1.1 hmay1.2
  have hyi := yearJ_in n
  have bel : Below w.heap.size w w := Below.refl _ _
  refine E.enter (nt := 34) (L := [(0, .int .i64 n)]) Tryd.func26 rfl rfl rfl (args_cons (i := 0) rfl args_nil) ?_
  intro a hF
  refine wp_seq ?_
  refine E.seq ?_
  obtain ⟨g2, w1, ge2, hr, bb, o2⟩ := blk_alloc (P := Tryd.prog) (w := w) (cs := [.int .i64 0, .int .i64 0, .int .i64 0]) 42 ze_JDate rfl
  replace ge2 : w.heap.size ≤ g2 := by rw [← ge2]; exact bel.size
  refine E.opv hF (r_alloc hr) rfl rfl rfl rfl fun a hF => ?_
  clear hr
  replace bel := below_to bel bb
  clear bb
  refine E.opv hF (r_assign ev_c) rfl rfl rfl rfl fun a hF => ?_
  refine E.nil ?_
  refine wp_seq ?_
  refine wp_seq ?_
  refine E.seq ?_
  refine E.opv hF (r_move (hF.at 2 rfl)) rfl rfl rfl rfl fun a hF => ?_
  refine E.call hF (r_call Tryd.func43 en43.1 en43.2 (map1 (hF.at 0 rfl))) (cmayJ_any n _) rfl rfl rfl rfl ?_
  rintro e w2 ⟨rfl, bb⟩
  refine ⟨_, rfl, ?_⟩
  intro a hF
  replace o2 := o2.below bb
  replace bel := below_to bel bb
  clear bb
  refine E.opv hF (r_un (Eq.trans (hF.at 0 rfl) (congrArg Value.bool hmay)) (bn_not _ false rfl)) rfl rfl rfl rfl fun a hF => ?_
  refine E.nil ?_
  refine wp_cond_false (hF.at 0 rfl) ?_
  refine wp_skip ?_
  refine E.norm ?_
  refine wp_seq ?_
  refine E.seq ?_
  refine E.opv hF (r_move (hF.at 5 rfl)) rfl rfl rfl rfl fun a hF => ?_
  refine E.call hF (r_call Tryd.func44 en44.1 en44.2 (map1 (hF.at 0 rfl))) (cyearJ_any n _ (by omega) (by omega)) rfl rfl rfl rfl ?_
  rintro e w3 ⟨rfl, bb⟩
  refine ⟨_, rfl, ?_⟩
  intro a hF
  have hyb := yearJ_bd (n := n) (by omega) (by omega)
  have hyi := yearJ_in n
  replace o2 := o2.below bb
  replace bel := below_to bel bb
  clear bb
  refine E.opv hF (r_assign (hF.at 0 rfl)) rfl rfl rfl rfl fun a hF => ?_
  refine E.opv hF (r_assign ev_c) rfl rfl rfl rfl fun a hF => ?_
  refine E.nil ?_
  refine wp_seq ?_
  refine E.seq ?_
  refine E.opv hF (r_move (hF.at 9 rfl)) rfl rfl rfl rfl fun a hF => ?_
  refine E.opv hF (r_move (hF.at 2 rfl)) rfl rfl rfl rfl fun a hF => ?_
  refine E.call hF (r_call Tryd.func45 en45.1 en45.2 (map1 (hF.at 0 rfl))) (cfirstJ_any (yearJ n) _ (by omega) (by omega)) rfl rfl rfl rfl ?_
  rintro e w4 ⟨rfl, bb⟩
  refine ⟨_, rfl, ?_⟩
  intro a hF
  have hfb := firstJ_bd (y := yearJ n) (by omega) (by omega)
  replace o2 := o2.below bb
  replace bel := below_to bel bb
  clear bb
  refine E.opv hF (r_bin (hF.at 2 rfl) (hF.at 0 rfl) eg_scalar (ia_sub (by omega) (by omega))) rfl rfl rfl rfl fun a hF => ?_
  refine E.opv hF (r_assign (hF.at 0 rfl)) rfl rfl rfl rfl fun a hF => ?_
  refine E.nil ?_
  refine wp_seq ?_
  refine wp_block ?_
  refine E.loop (fun mq a wv => ∃ (k : Int) (r : Int), 1 ≤ k ∧ k ≤ 12 ∧ r = n - firstJ (yearJ n) - cum (leapJ (yearJ n)) k ∧ 0 ≤ r ∧ Fr 34 a [(6, .int .i64 r), (5, .int .i64 k), (4, .int .i64 (yearJ n)), (3, .int .i64 0), (2, .pointer (some ⟨g2, 0, none⟩))] ∧ Below w4.heap.size w4 wv ∧ Below w.heap.size w wv ∧ mq = (13 - k : Int).toNat) ((13 - (1) : Int).toNat) ?_ ?_
  · exact ⟨(1 : Int), (n - (firstJ (yearJ n)) : Int), (by omega), (by omega), (by rw [cum_one]; omega), (by omega), hF.sub (by intro p hp; simp only [List.mem_cons, List.not_mem_nil, or_false] at hp ⊢; rcases hp with rfl | rfl | rfl | rfl | rfl <;> simp), Below.refl _ _, bel, rfl⟩
  · rintro mq a w5 ⟨k, r, hk1, hk2, hr, hr0, hF, sty, bel, hm⟩
    replace o2 := o2.below sty
    have hcb := cum_bd (leapJ (yearJ n)) (m := k) hk1 (by omega)
    have hmb := mlen_bd (leapJ (yearJ n)) k
    have hfb := firstJ_bd (y := yearJ n) (by omega) (by omega)
    have hce := cum_end (leapJ (yearJ n))
    have hst := stepJ (yearJ n)
    have hcs := cum_step (leapJ (yearJ n)) (m := k) hk1 (by omega)
    have hk12 : mlen (leapJ (yearJ n)) k ≤ r → k + 1 ≤ 12 := by
      intro hh
      by_cases e : k = 12
      · exfalso
        subst e
        rw [show ((12 : Int) + 1) = 13 from rfl, hce] at hcs
        omega
      · omega
    refine wp_seq ?_
    refine wp_seq ?_
    refine E.seq ?_
    refine E.opv hF (r_move (hF.at 0 rfl)) rfl rfl rfl rfl fun a hF => ?_
    refine E.opv hF (r_move (hF.at 3 rfl)) rfl rfl rfl rfl fun a hF => ?_
    refine E.opv hF (r_move (hF.at 3 rfl)) rfl rfl rfl rfl fun a hF => ?_
    refine E.call hF (r_call Tryd.func31 en31.1 en31.2 (map2 (hF.at 1 rfl) (hF.at 0 rfl))) (clenJ_any (yearJ n) k _ (hT.below bel)) rfl rfl rfl rfl ?_
    rintro e w6 ⟨rfl, bb⟩
    refine ⟨_, rfl, ?_⟩
    intro a hF
    replace o2 := o2.below bb
    replace bel := below_to bel bb
    replace sty := below_to sty bb
    clear bb
    by_cases hc7 : mlen (leapJ (yearJ n)) k ≤ r
    · first
      | (exfalso; omega)
      | (refine E.opv hF (r_bin (hF.at 3 rfl) (hF.at 0 rfl) eg_scalar (bi_int (ic_geq (c := true) (dec_tt hc7)) (by simp))) rfl rfl rfl rfl fun a hF => ?_
         refine E.nil ?_
         refine wp_cond_true (hF.at 0 rfl) ?_
         refine wp_skip ?_
         refine E.norm ?_
         refine wp_block ?_
         refine wp_seq ?_
         refine E.seq ?_
         refine E.opv hF (r_move (hF.at 5 rfl)) rfl rfl rfl rfl fun a hF => ?_
         refine E.opv hF (r_move (hF.at 8 rfl)) rfl rfl rfl rfl fun a hF => ?_
         refine E.opv hF (r_move (hF.at 8 rfl)) rfl rfl rfl rfl fun a hF => ?_
         refine E.call hF (r_call Tryd.func31 en31.1 en31.2 (map2 (hF.at 1 rfl) (hF.at 0 rfl))) (clenJ_any (yearJ n) k _ (hT.below bel)) rfl rfl rfl rfl ?_
         rintro e w8 ⟨rfl, bb⟩
         refine ⟨_, rfl, ?_⟩
         intro a hF
         replace o2 := o2.below bb
         replace bel := below_to bel bb
         replace sty := below_to sty bb
         clear bb
         refine E.opv hF (r_bin (hF.at 3 rfl) (hF.at 0 rfl) eg_scalar (ia_sub (by omega) (by omega))) rfl rfl rfl rfl fun a hF => ?_
         refine E.opset (L' := [(6, .int .i64 (r - (mlen (leapJ (yearJ n)) k))), (26, .int .i64 (r - (mlen (leapJ (yearJ n)) k))), (25, .int .i64 (mlen (leapJ (yearJ n)) k)), (24, .int .i64 k), (23, .int .i64 (yearJ n)), (22, .int .i64 r), (21, .bool true), (20, .int .i64 (mlen (leapJ (yearJ n)) k)), (19, .int .i64 k), (18, .int .i64 (yearJ n)), (17, .int .i64 r), (5, .int .i64 k), (4, .int .i64 (yearJ n)), (3, .int .i64 0), (2, .pointer (some ⟨g2, 0, none⟩))]) hF (r_assign (hF.at 0 rfl)) rfl rfl rfl rfl fun a hF => ?_
         refine E.nil ?_
         refine E.seq ?_
         refine E.opv hF (r_move (hF.at 11 rfl)) rfl rfl rfl rfl fun a hF => ?_
         refine E.opv hF (r_bin (hF.at 0 rfl) ev_c eg_scalar (ia_add (by omega) (by omega))) rfl rfl rfl rfl fun a hF => ?_
         refine E.opset (L' := [(5, .int .i64 (k + 1)), (28, .int .i64 (k + 1)), (27, .int .i64 k), (6, .int .i64 (r - (mlen (leapJ (yearJ n)) k))), (26, .int .i64 (r - (mlen (leapJ (yearJ n)) k))), (25, .int .i64 (mlen (leapJ (yearJ n)) k)), (24, .int .i64 k), (23, .int .i64 (yearJ n)), (22, .int .i64 r), (21, .bool true), (20, .int .i64 (mlen (leapJ (yearJ n)) k)), (19, .int .i64 k), (18, .int .i64 (yearJ n)), (17, .int .i64 r), (4, .int .i64 (yearJ n)), (3, .int .i64 0), (2, .pointer (some ⟨g2, 0, none⟩))]) hF (r_assign (hF.at 0 rfl)) rfl rfl rfl rfl fun a hF => ?_
         refine E.nil0 ?_
         refine E.blk ?_
         refine E.norm ?_
         exact ⟨(13 - (k + 1) : Int).toNat, by omega, ⟨(k + 1 : Int), (r - (mlen (leapJ (yearJ n)) k) : Int), (by omega), (hk12 (by omega)), (by have := cum_step (leapJ (yearJ n)) (m := k) hk1 (by omega); omega), (by omega), Fr.sub (L' := [(6, .int .i64 (r - (mlen (leapJ (yearJ n)) k))), (5, .int .i64 (k + 1)), (4, .int .i64 (yearJ n)), (3, .int .i64 0), (2, .pointer (some ⟨g2, 0, none⟩))]) hF (by intro p hp; simp only [List.mem_cons, List.not_mem_nil, or_false] at hp ⊢; rcases hp with rfl | rfl | rfl | rfl | rfl <;> simp), sty, bel, rfl⟩⟩)
    · first
      | (exfalso; omega)
      | (refine E.opv hF (r_bin (hF.at 3 rfl) (hF.at 0 rfl) eg_scalar (bi_int (ic_geq (c := false) (dec_ff hc7)) (by simp))) rfl rfl rfl rfl fun a hF => ?_
         refine E.nil ?_
         refine wp_cond_false (hF.at 0 rfl) ?_
         refine wp_exit ?_
         refine E.past ?_
         refine E.past ?_
         refine E.out (id := 0) ?_
         refine E.norm ?_
         refine wp_seq ?_
         refine E.seq ?_
         refine E.opv hF (r_move (hF.at 7 rfl)) rfl rfl rfl rfl fun a hF => ?_
         refine E.opv hF (r_move (hF.at 7 rfl)) rfl rfl rfl rfl fun a hF => ?_
         refine E.opv hF (r_move (hF.at 7 rfl)) rfl rfl rfl rfl fun a hF => ?_
         refine E.opv hF (r_bin (hF.at 0 rfl) ev_c eg_scalar (ia_add (by omega) (by omega))) rfl rfl rfl rfl fun a hF => ?_
         refine E.opv hF (r_build (pair3 (hF.at 3 rfl) (hF.at 2 rfl) (hF.at 0 rfl)) (bd_JDate_012 _ _ _ _)) rfl rfl rfl rfl fun a hF => ?_
         obtain ⟨w9, hr, tu, on⟩ := stb_JDate (vs := [.int .i64 (yearJ n), .int .i64 k, .int .i64 (r + 1)]) o2 rfl rfl (ocI (ocI (ocI oc0))) (o := 0) rfl
         refine E.st hF (r_store (hF.at 14 rfl) (hF.at 0 rfl) (hr _ rfl)) rfl rfl fun a hF => ?_
         clear hr
         replace bel := tu.below bel ge2
         clear tu
         replace o2 := on
         clear on
         refine E.opset (L' := [(3, .int .i64 0), (33, .agg #[.int .i64 (yearJ n), .int .i64 k, .int .i64 (r + 1)]), (32, .int .i64 (r + 1)), (31, .int .i64 r), (30, .int .i64 k), (29, .int .i64 (yearJ n)), (21, .bool false), (20, .int .i64 (mlen (leapJ (yearJ n)) k)), (19, .int .i64 k), (18, .int .i64 (yearJ n)), (17, .int .i64 r), (6, .int .i64 r), (5, .int .i64 k), (4, .int .i64 (yearJ n)), (2, .pointer (some ⟨g2, 0, none⟩))]) hF (r_assign ev_c) rfl rfl rfl rfl fun a hF => ?_
         refine E.nil ?_
         refine wp_ret ?_
         refine bodyPost_ret (res_celltmp Tryd.results26 (hF.at 14 rfl) (ldb_JDate (vs := [.int .i64 (yearJ n), .int .i64 k, .int .i64 (r + 1)]) o2 rfl rfl) (hF.at 0 rfl)) hF.dfr ?_
         have hvd : Val (leapJ (yearJ n)) k (r + 1) := ⟨hk1, hk2, by omega, by omega⟩
         exact ⟨_, _, _, rfl, hvd, by show firstJ (yearJ n) + cum (leapJ (yearJ n)) k + (r + 1) - 1 = n; omega, bel⟩)

set_option maxHeartbeats 1000000 in
theorem cofxJ_any (n : Int) (w : World) (hT : TabJ w) (hmay : mayB n = false) :
    Calls Tryd.prog 26 #[.int .i64 n] w (ValPost w (.tuple #[.agg #[.int .i64 0, .int .i64 0, .int .i64 0], .int .i64 2])) := by
  have bel : Below w.heap.size w w := Below.refl _ _
  refine E.enter (nt := 34) (L := [(0, .int .i64 n)]) Tryd.func26 rfl rfl rfl (args_cons (i := 0) rfl args_nil) ?_
  intro a hF
  refine wp_seq ?_
  refine E.seq ?_
  obtain ⟨g2, w1, ge2, hr, bb, o2⟩ := blk_alloc (P := Tryd.prog) (w := w) (cs := [.int .i64 0, .int .i64 0, .int .i64 0]) 42 ze_JDate rfl
  replace ge2 : w.heap.size ≤ g2 := by rw [← ge2]; exact bel.size
  refine E.opv hF (r_alloc hr) rfl rfl rfl rfl fun a hF => ?_
  clear hr
  replace bel := below_to bel bb
  clear bb
  refine E.opv hF (r_assign ev_c) rfl rfl rfl rfl fun a hF => ?_
  refine E.nil ?_
  refine wp_seq ?_
  refine wp_seq ?_
  refine E.seq ?_
  refine E.opv hF (r_move (hF.at 2 rfl)) rfl rfl rfl rfl fun a hF => ?_
  refine E.call hF (r_call Tryd.func43 en43.1 en43.2 (map1 (hF.at 0 rfl))) (cmayJ_any n _) rfl rfl rfl rfl ?_
  rintro e w2 ⟨rfl, bb⟩
  refine ⟨_, rfl, ?_⟩
  intro a hF
  replace o2 := o2.below bb
  replace bel := below_to bel bb
  clear bb
  refine E.opv hF (r_un (Eq.trans (hF.at 0 rfl) (congrArg Value.bool hmay)) (bn_not _ true rfl)) rfl rfl rfl rfl fun a hF => ?_
  refine E.nil ?_
  refine wp_cond_true (hF.at 0 rfl) ?_
  refine wp_seq ?_
  refine E.seq ?_
  refine E.opv hF (r_build (by simp) (bd_JDate_ _)) rfl rfl rfl rfl fun a hF => ?_
  obtain ⟨w3, hr, tu, on⟩ := stb_JDate (vs := [.int .i64 0, .int .i64 0, .int .i64 0]) o2 rfl rfl (ocI (ocI (ocI oc0))) (o := 0) rfl
  refine E.st hF (r_store (hF.at 5 rfl) (hF.at 0 rfl) (hr _ rfl)) rfl rfl fun a hF => ?_
  clear hr
  replace bel := tu.below bel ge2
  clear tu
  replace o2 := on
  clear on
  refine E.opset (L' := [(3, .int .i64 2), (10, .agg #[.int .i64 0, .int .i64 0, .int .i64 0]), (9, .bool true), (8, .bool (mayB n)), (7, .int .i64 n), (2, .pointer (some ⟨g2, 0, none⟩)), (0, .int .i64 n)]) hF (r_assign ev_c) rfl rfl rfl rfl fun a hF => ?_
  refine E.nil ?_
  refine wp_ret ?_
  refine bodyPost_ret (res_celltmp Tryd.results26 (hF.at 5 rfl) (ldb_JDate (vs := [.int .i64 0, .int .i64 0, .int .i64 0]) o2 rfl rfl) (hF.at 0 rfl)) hF.dfr ?_
  exact ⟨rfl, bel⟩

end Go.Proofs.YtcgbllbhagijjaaDoor
