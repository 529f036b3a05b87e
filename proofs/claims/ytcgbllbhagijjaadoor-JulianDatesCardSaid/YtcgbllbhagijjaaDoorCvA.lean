/- civil: its functions. -/
import Derived.Test.YtcgbllbhagijjaaDoorEnI
import Derived.Test.YtcgbllbhagijjaaDoorCalM
namespace Go.Proofs.YtcgbllbhagijjaaDoor
open Go.RowKit
set_option maxRecDepth 100000
set_option linter.unusedVariables false

def lensC : List Int := [31, 28, 31, 30, 31, 30, 31, 31, 30, 31, 30, 31]
theorem lens_at {m : Int} (h1 : 1 ≤ m) (h2 : m ≤ 12) : lensC.getD (m - 1).toNat 0 = mlen false m := by
  rcases months h1 h2 with rfl | rfl | rfl | rfl | rfl | rfl | rfl | rfl | rfl | rfl | rfl | rfl <;> rfl
/-- The table of the months stands. -/
def TabC (w : World) : Prop := ∀ i : Nat, i < 12 → Cel w 0 i (.int .i64 (lensC.getD i 0))
theorem TabC.below {w w' : World} (h : TabC w) (hb : Below w.heap.size w w') : TabC w' := fun i hi => (h i hi).below hb
theorem TabC.at {w : World} (h : TabC w) {m : Int} (h1 : 1 ≤ m) (h2 : m ≤ 12) : Cel w 0 (m - 1).toNat (.int .i64 (mlen false m)) := by
  have := h (m - 1).toNat (by omega)
  rw [lens_at h1 h2] at this
  exact this
theorem ix_tabC {w : World} {i : Int} (h0 : 0 ≤ i) (h1 : i < 12) : (Instr.indexAt 48 (.pointer (some ⟨0, 0, none⟩)) (.int .i64 i)).run Tryd.prog w = .ok (.pointer (some ⟨0, i.toNat, none⟩)) w := by
  simp [Instr.indexAt, asIntOf, Instr.sureAddr, run_underlying Tryd.underlying48, Sem.run_bind, h0, h1, Addr.add_mid]
set_option maxHeartbeats 1000000 in
theorem cfloorC_any (n d : Int) (w : World) (hd : 0 < d) (hn0 : -9223372036854775808 ≤ n) (hn1 : n ≤ 9223372036854775807) :
    Calls Tryd.prog 42 #[.int .i64 n, .int .i64 d] w (ValPost w (.int .i64 (n / d))) := by
  have bel : Below w.heap.size w w := Below.refl _ _
  refine E.enter (nt := 16) (L := [(0, .int .i64 n), (1, .int .i64 d)]) Tryd.func42 rfl rfl rfl (args_cons (i := 0) rfl (args_cons (i := 1) rfl args_nil)) ?_
  intro a hF
  refine wp_seq ?_
  refine E.seq ?_
  refine E.opv hF (r_assign ev_c) rfl rfl rfl rfl fun a hF => ?_
  refine E.nil ?_
  refine wp_seq ?_
  refine wp_seq ?_
  refine E.seq ?_
  refine E.opv hF (r_move (hF.at 1 rfl)) rfl rfl rfl rfl fun a hF => ?_
  refine E.opv hF (r_move (hF.at 3 rfl)) rfl rfl rfl rfl fun a hF => ?_
  refine E.opv hF (r_bin (hF.at 1 rfl) (hF.at 0 rfl) eg_scalar (id_rem (a := n) (b := d) hd)) rfl rfl rfl rfl fun a hF => ?_
  by_cases hc1 : (if 0 ≤ n then n % d else -(-n % d)) < 0
  · refine E.opv hF (r_bin (hF.at 0 rfl) ev_c eg_scalar (bi_int (ic_lss (c := true) (dec_tt hc1)) (by simp))) rfl rfl rfl rfl fun a hF => ?_
    refine E.nil ?_
    refine wp_cond_true (hF.at 0 rfl) ?_
    refine wp_seq ?_
    refine E.seq ?_
    refine E.opv hF (r_move (hF.at 5 rfl)) rfl rfl rfl rfl fun a hF => ?_
    refine E.opv hF (r_move (hF.at 7 rfl)) rfl rfl rfl rfl fun a hF => ?_
    refine E.opv hF (r_bin (hF.at 1 rfl) (hF.at 0 rfl) eg_scalar (id_quo (a := n) (b := d) hd hn0 hn1)) rfl rfl rfl rfl fun a hF => ?_
    refine E.opv hF (r_bin (hF.at 0 rfl) ev_c eg_scalar (ia_sub (by rw [fl_neg hd (by assumption)]; exact (fl_in hd hn0 hn1).1) (by rw [fl_neg hd (by assumption)]; exact (fl_in hd hn0 hn1).2))) rfl rfl rfl rfl fun a hF => ?_
    refine E.opset (L' := [(4, .int .i64 ((if 0 ≤ n then n / d else -(-n / d)) - 1)), (12, .int .i64 ((if 0 ≤ n then n / d else -(-n / d)) - 1)), (11, .int .i64 (if 0 ≤ n then n / d else -(-n / d))), (10, .int .i64 d), (9, .int .i64 n), (8, .bool true), (7, .int .i64 (if 0 ≤ n then n % d else -(-n % d))), (6, .int .i64 d), (5, .int .i64 n), (0, .int .i64 n), (1, .int .i64 d)]) hF (r_assign (hF.at 0 rfl)) rfl rfl rfl rfl fun a hF => ?_
    refine E.nil ?_
    refine wp_ret ?_
    refine bodyPost_ret (res_tmp Tryd.results42 (hF.at 0 rfl)) hF.dfr ?_
    refine ⟨rv_int ?_, bel⟩
    exact fl_neg hd hc1
  · refine E.opv hF (r_bin (hF.at 0 rfl) ev_c eg_scalar (bi_int (ic_lss (c := false) (dec_ff hc1)) (by simp))) rfl rfl rfl rfl fun a hF => ?_
    refine E.nil ?_
    refine wp_cond_false (hF.at 0 rfl) ?_
    refine wp_skip ?_
    refine E.norm ?_
    refine wp_seq ?_
    refine E.seq ?_
    refine E.opv hF (r_move (hF.at 5 rfl)) rfl rfl rfl rfl fun a hF => ?_
    refine E.opv hF (r_move (hF.at 7 rfl)) rfl rfl rfl rfl fun a hF => ?_
    refine E.opv hF (r_bin (hF.at 1 rfl) (hF.at 0 rfl) eg_scalar (id_quo (a := n) (b := d) hd hn0 hn1)) rfl rfl rfl rfl fun a hF => ?_
    refine E.opset (L' := [(4, .int .i64 (if 0 ≤ n then n / d else -(-n / d))), (15, .int .i64 (if 0 ≤ n then n / d else -(-n / d))), (14, .int .i64 d), (13, .int .i64 n), (8, .bool false), (7, .int .i64 (if 0 ≤ n then n % d else -(-n % d))), (6, .int .i64 d), (5, .int .i64 n), (0, .int .i64 n), (1, .int .i64 d)]) hF (r_assign (hF.at 0 rfl)) rfl rfl rfl rfl fun a hF => ?_
    refine E.nil ?_
    refine wp_ret ?_
    refine bodyPost_ret (res_tmp Tryd.results42 (hF.at 0 rfl)) hF.dfr ?_
    refine ⟨rv_int ?_, bel⟩
    exact fl_pos hd hc1

set_option maxHeartbeats 1000000 in
theorem cweekC_any (n : Int) (w : World) (h0 : -1152921504606846976 ≤ n) (h1 : n ≤ 1152921504606846975) :
    Calls Tryd.prog 24 #[.int .i64 n] w (ValPost w (.int .i64 (n % 7))) := by
  have bel : Below w.heap.size w w := Below.refl _ _
  refine E.enter (nt := 8) (L := [(0, .int .i64 n)]) Tryd.func24 rfl rfl rfl (args_cons (i := 0) rfl args_nil) ?_
  intro a hF
  refine wp_seq ?_
  refine E.seq ?_
  refine E.opv hF (r_assign ev_c) rfl rfl rfl rfl fun a hF => ?_
  refine E.nil ?_
  refine wp_seq ?_
  refine E.seq ?_
  refine E.opv hF (r_move (hF.at 1 rfl)) rfl rfl rfl rfl fun a hF => ?_
  refine E.opv hF (r_move (hF.at 2 rfl)) rfl rfl rfl rfl fun a hF => ?_
  refine E.call hF (r_call Tryd.func42 en42.1 en42.2 (map2 (hF.at 0 rfl) ev_c)) (cfloorC_any n 7 _ (by omega) (by omega) (by omega)) rfl rfl rfl rfl ?_
  rintro e w1 ⟨rfl, bb⟩
  refine ⟨_, rfl, ?_⟩
  intro a hF
  replace bel := below_to bel bb
  clear bb
  refine E.opv hF (r_bin ev_c (hF.at 0 rfl) eg_scalar (ia_mul (by omega) (by omega))) rfl rfl rfl rfl fun a hF => ?_
  refine E.opv hF (r_bin (hF.at 3 rfl) (hF.at 0 rfl) eg_scalar (ia_sub (by omega) (by omega))) rfl rfl rfl rfl fun a hF => ?_
  refine E.opset (L' := [(2, .int .i64 (n - (7 * (n / 7)))), (7, .int .i64 (n - (7 * (n / 7)))), (6, .int .i64 (7 * (n / 7))), (5, .int .i64 (n / 7)), (4, .int .i64 n), (3, .int .i64 n), (0, .int .i64 n)]) hF (r_assign (hF.at 0 rfl)) rfl rfl rfl rfl fun a hF => ?_
  refine E.nil ?_
  refine wp_ret ?_
  refine bodyPost_ret (res_tmp Tryd.results24 (hF.at 0 rfl)) hF.dfr ?_
  refine ⟨rv_int ?_, bel⟩
  omega

set_option maxHeartbeats 1000000 in
theorem cleapC_any (y : Int) (w : World) :
    Calls Tryd.prog 18 #[.int .i64 y] w (ValPost w (.bool (leapC y))) := by
  have bel : Below w.heap.size w w := Below.refl _ _
  refine E.enter (nt := 16) (L := [(0, .int .i64 y)]) Tryd.func18 rfl rfl rfl (args_cons (i := 0) rfl args_nil) ?_
  intro a hF
  refine wp_seq ?_
  refine E.seq ?_
  refine E.opv hF (r_assign ev_c) rfl rfl rfl rfl fun a hF => ?_
  refine E.nil ?_
  refine wp_seq ?_
  refine E.seq ?_
  refine E.opv hF (r_move (hF.at 1 rfl)) rfl rfl rfl rfl fun a hF => ?_
  refine E.opv hF (r_bin (hF.at 0 rfl) ev_c eg_scalar (id_rem (a := y) (b := 4) (by omega))) rfl rfl rfl rfl fun a hF => ?_
  by_cases hc1 : (if 0 ≤ y then y % 4 else -(-y % 4)) = 0
  · first
    | (exfalso; omega)
    | (refine E.opv hF (r_bin (hF.at 0 rfl) ev_c eg_scalar (bi_int (ic_eql (c := true) (dec_tt hc1)) (by simp))) rfl rfl rfl rfl fun a hF => ?_
       refine E.opv hF (r_move (hF.at 0 rfl)) rfl rfl rfl rfl fun a hF => ?_
       refine E.opvg hF (r_move (hF.at 5 rfl)) (wanted_by rfl rfl (hF.at 0 rfl) rfl) rfl rfl rfl fun a hF => ?_
       refine E.opvg hF (r_bin (hF.at 0 rfl) ev_c eg_scalar (id_rem (a := y) (b := 100) (by omega))) (wanted_by rfl rfl (hF.at 1 rfl) rfl) rfl rfl rfl fun a hF => ?_
       by_cases hc2 : (if 0 ≤ y then y % 100 else -(-y % 100)) ≠ 0
       · first
         | (exfalso; omega)
         | (refine E.opvg hF (r_bin (hF.at 0 rfl) ev_c eg_scalar (bi_int (ic_neq (c := true) (dec_tt hc2)) (by simp))) (wanted_by rfl rfl (hF.at 2 rfl) rfl) rfl rfl rfl fun a hF => ?_
            refine E.opv hF (r_pick_t (hF.at 3 rfl) (hF.at 0 rfl)) rfl rfl rfl rfl fun a hF => ?_
            refine E.opv hF (r_move (hF.at 0 rfl)) rfl rfl rfl rfl fun a hF => ?_
            refine E.unwanted hF (wanted_by rfl rfl (hF.at 0 rfl) rfl) rfl rfl rfl fun a hF => ?_
            refine E.unwanted hF (wanted_by rfl rfl (hF.at 1 rfl) rfl) rfl rfl rfl fun a hF => ?_
            refine E.unwanted hF (wanted_by rfl rfl (hF.at 2 rfl) rfl) rfl rfl rfl fun a hF => ?_
            refine E.opv hF (r_pick_t (hF.at 3 rfl) ev_c) rfl rfl rfl rfl fun a hF => ?_
            refine E.opset (L' := [(2, .bool true), (15, .bool true), (14, undef), (13, undef), (12, undef), (11, .bool true), (10, .bool true), (9, .bool true), (8, .int .i64 (if 0 ≤ y then y % 100 else -(-y % 100))), (7, .int .i64 y), (6, .bool true), (5, .bool true), (4, .int .i64 (if 0 ≤ y then y % 4 else -(-y % 4))), (3, .int .i64 y), (0, .int .i64 y)]) hF (r_assign (hF.at 0 rfl)) rfl rfl rfl rfl fun a hF => ?_
            refine E.nil ?_
            refine wp_ret ?_
            refine bodyPost_ret (res_tmp Tryd.results18 (hF.at 0 rfl)) hF.dfr ?_
            refine ⟨rv_bool ?_, bel⟩
            exact (decide_eq_true (by omega)).symm)
       · first
         | (exfalso; omega)
         | (refine E.opvg hF (r_bin (hF.at 0 rfl) ev_c eg_scalar (bi_int (ic_neq (c := false) (dec_ff hc2)) (by simp))) (wanted_by rfl rfl (hF.at 2 rfl) rfl) rfl rfl rfl fun a hF => ?_
            refine E.opv hF (r_pick_t (hF.at 3 rfl) (hF.at 0 rfl)) rfl rfl rfl rfl fun a hF => ?_
            refine E.opv hF (r_move (hF.at 0 rfl)) rfl rfl rfl rfl fun a hF => ?_
            refine E.opvg hF (r_move (hF.at 10 rfl)) (wanted_by rfl rfl (hF.at 0 rfl) rfl) rfl rfl rfl fun a hF => ?_
            refine E.opvg hF (r_bin (hF.at 0 rfl) ev_c eg_scalar (id_rem (a := y) (b := 400) (by omega))) (wanted_by rfl rfl (hF.at 1 rfl) rfl) rfl rfl rfl fun a hF => ?_
            by_cases hc3 : (if 0 ≤ y then y % 400 else -(-y % 400)) = 0
            · first
              | (exfalso; omega)
              | (refine E.opvg hF (r_bin (hF.at 0 rfl) ev_c eg_scalar (bi_int (ic_eql (c := true) (dec_tt hc3)) (by simp))) (wanted_by rfl rfl (hF.at 2 rfl) rfl) rfl rfl rfl fun a hF => ?_
                 refine E.opv hF (r_pick_f (hF.at 3 rfl) (hF.at 0 rfl)) rfl rfl rfl rfl fun a hF => ?_
                 refine E.opset (L' := [(2, .bool true), (15, .bool true), (14, .bool true), (13, .int .i64 (if 0 ≤ y then y % 400 else -(-y % 400))), (12, .int .i64 y), (11, .bool false), (10, .bool false), (9, .bool false), (8, .int .i64 (if 0 ≤ y then y % 100 else -(-y % 100))), (7, .int .i64 y), (6, .bool true), (5, .bool true), (4, .int .i64 (if 0 ≤ y then y % 4 else -(-y % 4))), (3, .int .i64 y), (0, .int .i64 y)]) hF (r_assign (hF.at 0 rfl)) rfl rfl rfl rfl fun a hF => ?_
                 refine E.nil ?_
                 refine wp_ret ?_
                 refine bodyPost_ret (res_tmp Tryd.results18 (hF.at 0 rfl)) hF.dfr ?_
                 refine ⟨rv_bool ?_, bel⟩
                 exact (decide_eq_true (by omega)).symm)
            · first
              | (exfalso; omega)
              | (refine E.opvg hF (r_bin (hF.at 0 rfl) ev_c eg_scalar (bi_int (ic_eql (c := false) (dec_ff hc3)) (by simp))) (wanted_by rfl rfl (hF.at 2 rfl) rfl) rfl rfl rfl fun a hF => ?_
                 refine E.opv hF (r_pick_f (hF.at 3 rfl) (hF.at 0 rfl)) rfl rfl rfl rfl fun a hF => ?_
                 refine E.opset (L' := [(2, .bool false), (15, .bool false), (14, .bool false), (13, .int .i64 (if 0 ≤ y then y % 400 else -(-y % 400))), (12, .int .i64 y), (11, .bool false), (10, .bool false), (9, .bool false), (8, .int .i64 (if 0 ≤ y then y % 100 else -(-y % 100))), (7, .int .i64 y), (6, .bool true), (5, .bool true), (4, .int .i64 (if 0 ≤ y then y % 4 else -(-y % 4))), (3, .int .i64 y), (0, .int .i64 y)]) hF (r_assign (hF.at 0 rfl)) rfl rfl rfl rfl fun a hF => ?_
                 refine E.nil ?_
                 refine wp_ret ?_
                 refine bodyPost_ret (res_tmp Tryd.results18 (hF.at 0 rfl)) hF.dfr ?_
                 refine ⟨rv_bool ?_, bel⟩
                 exact (decide_eq_false (by omega)).symm)))
  · first
    | (exfalso; omega)
    | (refine E.opv hF (r_bin (hF.at 0 rfl) ev_c eg_scalar (bi_int (ic_eql (c := false) (dec_ff hc1)) (by simp))) rfl rfl rfl rfl fun a hF => ?_
       refine E.opv hF (r_move (hF.at 0 rfl)) rfl rfl rfl rfl fun a hF => ?_
       refine E.unwanted hF (wanted_by rfl rfl (hF.at 0 rfl) rfl) rfl rfl rfl fun a hF => ?_
       refine E.unwanted hF (wanted_by rfl rfl (hF.at 1 rfl) rfl) rfl rfl rfl fun a hF => ?_
       refine E.unwanted hF (wanted_by rfl rfl (hF.at 2 rfl) rfl) rfl rfl rfl fun a hF => ?_
       refine E.opv hF (r_pick_f (hF.at 3 rfl) ev_c) rfl rfl rfl rfl fun a hF => ?_
       refine E.opv hF (r_move (hF.at 0 rfl)) rfl rfl rfl rfl fun a hF => ?_
       refine E.opvg hF (r_move (hF.at 10 rfl)) (wanted_by rfl rfl (hF.at 0 rfl) rfl) rfl rfl rfl fun a hF => ?_
       refine E.opvg hF (r_bin (hF.at 0 rfl) ev_c eg_scalar (id_rem (a := y) (b := 400) (by omega))) (wanted_by rfl rfl (hF.at 1 rfl) rfl) rfl rfl rfl fun a hF => ?_
       by_cases hc4 : (if 0 ≤ y then y % 400 else -(-y % 400)) = 0
       · first
         | (exfalso; omega)
         | (refine E.opvg hF (r_bin (hF.at 0 rfl) ev_c eg_scalar (bi_int (ic_eql (c := true) (dec_tt hc4)) (by simp))) (wanted_by rfl rfl (hF.at 2 rfl) rfl) rfl rfl rfl fun a hF => ?_
            refine E.opv hF (r_pick_f (hF.at 3 rfl) (hF.at 0 rfl)) rfl rfl rfl rfl fun a hF => ?_
            refine E.opset (L' := [(2, .bool true), (15, .bool true), (14, .bool true), (13, .int .i64 (if 0 ≤ y then y % 400 else -(-y % 400))), (12, .int .i64 y), (11, .bool false), (10, .bool false), (9, undef), (8, undef), (7, undef), (6, .bool false), (5, .bool false), (4, .int .i64 (if 0 ≤ y then y % 4 else -(-y % 4))), (3, .int .i64 y), (0, .int .i64 y)]) hF (r_assign (hF.at 0 rfl)) rfl rfl rfl rfl fun a hF => ?_
            refine E.nil ?_
            refine wp_ret ?_
            refine bodyPost_ret (res_tmp Tryd.results18 (hF.at 0 rfl)) hF.dfr ?_
            refine ⟨rv_bool ?_, bel⟩
            exact (decide_eq_true (by omega)).symm)
       · first
         | (exfalso; omega)
         | (refine E.opvg hF (r_bin (hF.at 0 rfl) ev_c eg_scalar (bi_int (ic_eql (c := false) (dec_ff hc4)) (by simp))) (wanted_by rfl rfl (hF.at 2 rfl) rfl) rfl rfl rfl fun a hF => ?_
            refine E.opv hF (r_pick_f (hF.at 3 rfl) (hF.at 0 rfl)) rfl rfl rfl rfl fun a hF => ?_
            refine E.opset (L' := [(2, .bool false), (15, .bool false), (14, .bool false), (13, .int .i64 (if 0 ≤ y then y % 400 else -(-y % 400))), (12, .int .i64 y), (11, .bool false), (10, .bool false), (9, undef), (8, undef), (7, undef), (6, .bool false), (5, .bool false), (4, .int .i64 (if 0 ≤ y then y % 4 else -(-y % 4))), (3, .int .i64 y), (0, .int .i64 y)]) hF (r_assign (hF.at 0 rfl)) rfl rfl rfl rfl fun a hF => ?_
            refine E.nil ?_
            refine wp_ret ?_
            refine bodyPost_ret (res_tmp Tryd.results18 (hF.at 0 rfl)) hF.dfr ?_
            refine ⟨rv_bool ?_, bel⟩
            exact (decide_eq_false (by omega)).symm))

set_option maxHeartbeats 4000000 in
theorem clenC_any (y m : Int) (w : World) (hT : TabC w) :
    Calls Tryd.prog 20 #[.int .i64 y, .int .i64 m] w (ValPost w (.int .i64 (mlen (leapC y) m))) := by
  have bel : Below w.heap.size w w := Below.refl _ _
  refine E.enter (nt := 23) (L := [(0, .int .i64 y), (1, .int .i64 m)]) Tryd.func20 rfl rfl rfl (args_cons (i := 0) rfl (args_cons (i := 1) rfl args_nil)) ?_
  intro a hF
  refine wp_seq ?_
  refine E.seq ?_
  refine E.opv hF (r_assign ev_c) rfl rfl rfl rfl fun a hF => ?_
  refine E.nil ?_
  refine wp_seq ?_
  refine wp_block ?_
  refine wp_seq ?_
  refine E.seq ?_
  refine E.opv hF (r_move (hF.at 2 rfl)) rfl rfl rfl rfl fun a hF => ?_
  by_cases hc1 : m < 1
  · first
    | (exfalso; omega)
    | (refine E.opv hF (r_bin (hF.at 0 rfl) ev_c eg_scalar (bi_int (ic_lss (c := true) (dec_tt hc1)) (by simp))) rfl rfl rfl rfl fun a hF => ?_
       refine E.opv hF (r_move (hF.at 0 rfl)) rfl rfl rfl rfl fun a hF => ?_
       refine E.unwanted hF (wanted_by rfl rfl (hF.at 0 rfl) rfl) rfl rfl rfl fun a hF => ?_
       refine E.unwanted hF (wanted_by rfl rfl (hF.at 1 rfl) rfl) rfl rfl rfl fun a hF => ?_
       refine E.opv hF (r_pick_t (hF.at 2 rfl) ev_c) rfl rfl rfl rfl fun a hF => ?_
       refine E.opv hF (r_assign (hF.at 0 rfl)) rfl rfl rfl rfl fun a hF => ?_
       refine E.nil ?_
       refine wp_cond_true (hF.at 0 rfl) ?_
       refine wp_seq ?_
       refine E.seq ?_
       refine E.opset (L' := [(4, .int .i64 0), (5, .bool true), (11, .bool true), (10, undef), (9, undef), (8, .bool true), (7, .bool true), (6, .int .i64 m), (0, .int .i64 y), (1, .int .i64 m)]) hF (r_assign ev_c) rfl rfl rfl rfl fun a hF => ?_
       refine E.nil ?_
       refine wp_ret ?_
       refine bodyPost_ret (res_tmp Tryd.results20 (hF.at 0 rfl)) hF.dfr ?_
       refine ⟨rv_int ?_, bel⟩
       first
         | exact (mlen_none _ (by omega)).symm
         | exact mlen_2t (by omega) (by assumption)
         | exact mlen_2t' (by omega) (by assumption)
         | exact mlen_ne2 (by omega)
         | exact mlen_2f (eq_false_of_ne_true (by assumption)))
  · first
    | (exfalso; omega)
    | (refine E.opv hF (r_bin (hF.at 0 rfl) ev_c eg_scalar (bi_int (ic_lss (c := false) (dec_ff hc1)) (by simp))) rfl rfl rfl rfl fun a hF => ?_
       refine E.opv hF (r_move (hF.at 0 rfl)) rfl rfl rfl rfl fun a hF => ?_
       refine E.opvg hF (r_move (hF.at 5 rfl)) (wanted_by rfl rfl (hF.at 0 rfl) rfl) rfl rfl rfl fun a hF => ?_
       by_cases hc2 : 12 < m
       · first
         | (exfalso; omega)
         | (refine E.opvg hF (r_bin (hF.at 0 rfl) ev_c eg_scalar (bi_int (ic_gtr (c := true) (dec_tt hc2)) (by simp))) (wanted_by rfl rfl (hF.at 1 rfl) rfl) rfl rfl rfl fun a hF => ?_
            refine E.opv hF (r_pick_f (hF.at 2 rfl) (hF.at 0 rfl)) rfl rfl rfl rfl fun a hF => ?_
            refine E.opv hF (r_assign (hF.at 0 rfl)) rfl rfl rfl rfl fun a hF => ?_
            refine E.nil ?_
            refine wp_cond_true (hF.at 0 rfl) ?_
            refine wp_seq ?_
            refine E.seq ?_
            refine E.opset (L' := [(4, .int .i64 0), (5, .bool true), (11, .bool true), (10, .bool true), (9, .int .i64 m), (8, .bool false), (7, .bool false), (6, .int .i64 m), (0, .int .i64 y), (1, .int .i64 m)]) hF (r_assign ev_c) rfl rfl rfl rfl fun a hF => ?_
            refine E.nil ?_
            refine wp_ret ?_
            refine bodyPost_ret (res_tmp Tryd.results20 (hF.at 0 rfl)) hF.dfr ?_
            refine ⟨rv_int ?_, bel⟩
            first
              | exact (mlen_none _ (by omega)).symm
              | exact mlen_2t (by omega) (by assumption)
              | exact mlen_2t' (by omega) (by assumption)
              | exact mlen_ne2 (by omega)
              | exact mlen_2f (eq_false_of_ne_true (by assumption)))
       · first
         | (exfalso; omega)
         | (refine E.opvg hF (r_bin (hF.at 0 rfl) ev_c eg_scalar (bi_int (ic_gtr (c := false) (dec_ff hc2)) (by simp))) (wanted_by rfl rfl (hF.at 1 rfl) rfl) rfl rfl rfl fun a hF => ?_
            refine E.opv hF (r_pick_f (hF.at 2 rfl) (hF.at 0 rfl)) rfl rfl rfl rfl fun a hF => ?_
            refine E.opv hF (r_assign (hF.at 0 rfl)) rfl rfl rfl rfl fun a hF => ?_
            refine E.nil ?_
            refine wp_cond_false (hF.at 0 rfl) ?_
            refine wp_seq ?_
            refine E.seq ?_
            refine E.opv hF (r_move (hF.at 9 rfl)) rfl rfl rfl rfl fun a hF => ?_
            by_cases hc3 : m = 2
            · first
              | (exfalso; omega)
              | (refine E.opv hF (r_bin (hF.at 0 rfl) ev_c eg_scalar (bi_int (ic_eql (c := true) (dec_tt hc3)) (by simp))) rfl rfl rfl rfl fun a hF => ?_
                 refine E.opv hF (r_move (hF.at 0 rfl)) rfl rfl rfl rfl fun a hF => ?_
                 refine E.opvg hF (r_move (hF.at 11 rfl)) (wanted_by rfl rfl (hF.at 0 rfl) rfl) rfl rfl rfl fun a hF => ?_
                 refine E.callg hF (r_call Tryd.func18 en18.1 en18.2 (map1 (hF.at 0 rfl))) (cleapC_any y _) (wanted_by rfl rfl (hF.at 1 rfl) rfl) rfl rfl rfl ?_
                 rintro e w4 ⟨rfl, bb⟩
                 refine ⟨_, rfl, ?_⟩
                 intro a hF
                 replace bel := below_to bel bb
                 clear bb
                 refine E.opv hF (r_pick_t (hF.at 2 rfl) (hF.at 0 rfl)) rfl rfl rfl rfl fun a hF => ?_
                 refine E.opv hF (r_assign (hF.at 0 rfl)) rfl rfl rfl rfl fun a hF => ?_
                 refine E.nil ?_
                 by_cases hc5 : leapC y = true
                 · first
                   | (exfalso; omega)
                   | (refine wp_cond_true (Eq.trans (hF.at 0 rfl) (congrArg Value.bool hc5)) ?_
                      refine wp_seq ?_
                      refine E.seq ?_
                      refine E.opset (L' := [(4, .int .i64 29), (12, .bool (leapC y)), (18, .bool (leapC y)), (17, .bool (leapC y)), (16, .int .i64 y), (15, .bool true), (14, .bool true), (13, .int .i64 m), (5, .bool false), (11, .bool false), (10, .bool false), (9, .int .i64 m), (8, .bool false), (7, .bool false), (6, .int .i64 m), (0, .int .i64 y), (1, .int .i64 m)]) hF (r_assign ev_c) rfl rfl rfl rfl fun a hF => ?_
                      refine E.nil ?_
                      refine wp_ret ?_
                      refine bodyPost_ret (res_tmp Tryd.results20 (hF.at 0 rfl)) hF.dfr ?_
                      refine ⟨rv_int ?_, bel⟩
                      first
                        | exact (mlen_none _ (by omega)).symm
                        | exact mlen_2t (by omega) (by assumption)
                        | exact mlen_2t' (by omega) (by assumption)
                        | exact mlen_ne2 (by omega)
                        | exact mlen_2f (eq_false_of_ne_true (by assumption)))
                 · first
                   | (exfalso; omega)
                   | (refine wp_cond_false (Eq.trans (hF.at 0 rfl) (congrArg Value.bool (eq_false_of_ne_true hc5))) ?_
                      refine wp_skip ?_
                      refine E.blk ?_
                      refine E.norm ?_
                      refine wp_seq ?_
                      refine E.seq ?_
                      refine E.opv hF (r_move (hF.at 16 rfl)) rfl rfl rfl rfl fun a hF => ?_
                      refine E.opv hF (r_bin (hF.at 0 rfl) ev_c eg_scalar (ia_sub (by omega) (by omega))) rfl rfl rfl rfl fun a hF => ?_
                      refine E.opv hF (r_index rfl (hF.at 0 rfl) (ix_tabC (by omega) (by omega))) rfl rfl rfl rfl fun a hF => ?_
                      refine E.opv hF (r_load (hF.at 0 rfl) (ldc_int ((hT.below bel).at (m := m) (by omega) (by omega)))) rfl rfl rfl rfl fun a hF => ?_
                      refine E.opset (L' := [(4, .int .i64 (mlen false m)), (22, .int .i64 (mlen false m)), (21, .pointer (some ⟨0, (m - 1).toNat, none⟩)), (20, .int .i64 (m - 1)), (19, .int .i64 m), (12, .bool (leapC y)), (18, .bool (leapC y)), (17, .bool (leapC y)), (16, .int .i64 y), (15, .bool true), (14, .bool true), (13, .int .i64 m), (5, .bool false), (11, .bool false), (10, .bool false), (9, .int .i64 m), (8, .bool false), (7, .bool false), (6, .int .i64 m), (0, .int .i64 y), (1, .int .i64 m)]) hF (r_assign (hF.at 0 rfl)) rfl rfl rfl rfl fun a hF => ?_
                      refine E.nil ?_
                      refine wp_ret ?_
                      refine bodyPost_ret (res_tmp Tryd.results20 (hF.at 0 rfl)) hF.dfr ?_
                      refine ⟨rv_int ?_, bel⟩
                      first
                        | exact (mlen_none _ (by omega)).symm
                        | exact mlen_2t (by omega) (by assumption)
                        | exact mlen_2t' (by omega) (by assumption)
                        | exact mlen_ne2 (by omega)
                        | exact mlen_2f (eq_false_of_ne_true (by assumption))))
            · first
              | (exfalso; omega)
              | (refine E.opv hF (r_bin (hF.at 0 rfl) ev_c eg_scalar (bi_int (ic_eql (c := false) (dec_ff hc3)) (by simp))) rfl rfl rfl rfl fun a hF => ?_
                 refine E.opv hF (r_move (hF.at 0 rfl)) rfl rfl rfl rfl fun a hF => ?_
                 refine E.unwanted hF (wanted_by rfl rfl (hF.at 0 rfl) rfl) rfl rfl rfl fun a hF => ?_
                 refine E.unwanted hF (wanted_by rfl rfl (hF.at 1 rfl) rfl) rfl rfl rfl fun a hF => ?_
                 refine E.opv hF (r_pick_f (hF.at 2 rfl) ev_c) rfl rfl rfl rfl fun a hF => ?_
                 refine E.opv hF (r_assign (hF.at 0 rfl)) rfl rfl rfl rfl fun a hF => ?_
                 refine E.nil ?_
                 refine wp_cond_false (hF.at 0 rfl) ?_
                 refine wp_skip ?_
                 refine E.blk ?_
                 refine E.norm ?_
                 refine wp_seq ?_
                 refine E.seq ?_
                 refine E.opv hF (r_move (hF.at 16 rfl)) rfl rfl rfl rfl fun a hF => ?_
                 refine E.opv hF (r_bin (hF.at 0 rfl) ev_c eg_scalar (ia_sub (by omega) (by omega))) rfl rfl rfl rfl fun a hF => ?_
                 refine E.opv hF (r_index rfl (hF.at 0 rfl) (ix_tabC (by omega) (by omega))) rfl rfl rfl rfl fun a hF => ?_
                 refine E.opv hF (r_load (hF.at 0 rfl) (ldc_int ((hT.below bel).at (m := m) (by omega) (by omega)))) rfl rfl rfl rfl fun a hF => ?_
                 refine E.opset (L' := [(4, .int .i64 (mlen false m)), (22, .int .i64 (mlen false m)), (21, .pointer (some ⟨0, (m - 1).toNat, none⟩)), (20, .int .i64 (m - 1)), (19, .int .i64 m), (12, .bool false), (18, .bool false), (17, undef), (16, undef), (15, .bool false), (14, .bool false), (13, .int .i64 m), (5, .bool false), (11, .bool false), (10, .bool false), (9, .int .i64 m), (8, .bool false), (7, .bool false), (6, .int .i64 m), (0, .int .i64 y), (1, .int .i64 m)]) hF (r_assign (hF.at 0 rfl)) rfl rfl rfl rfl fun a hF => ?_
                 refine E.nil ?_
                 refine wp_ret ?_
                 refine bodyPost_ret (res_tmp Tryd.results20 (hF.at 0 rfl)) hF.dfr ?_
                 refine ⟨rv_int ?_, bel⟩
                 first
                   | exact (mlen_none _ (by omega)).symm
                   | exact mlen_2t (by omega) (by assumption)
                   | exact mlen_2t' (by omega) (by assumption)
                   | exact mlen_ne2 (by omega)
                   | exact mlen_2f (eq_false_of_ne_true (by assumption)))))

set_option maxHeartbeats 1000000 in
theorem cmayC_any (n : Int) (w : World) :
    Calls Tryd.prog 38 #[.int .i64 n] w (ValPost w (.bool (mayB n))) := by
  have bel : Below w.heap.size w w := Below.refl _ _
  refine E.enter (nt := 9) (L := [(0, .int .i64 n)]) Tryd.func38 rfl rfl rfl (args_cons (i := 0) rfl args_nil) ?_
  intro a hF
  refine wp_seq ?_
  refine E.seq ?_
  refine E.opv hF (r_assign ev_c) rfl rfl rfl rfl fun a hF => ?_
  refine E.nil ?_
  refine wp_seq ?_
  refine E.seq ?_
  refine E.opv hF (r_move (hF.at 1 rfl)) rfl rfl rfl rfl fun a hF => ?_
  by_cases hc1 : (-3000000) ≤ n
  · first
    | (exfalso; omega)
    | (refine E.opv hF (r_bin (hF.at 0 rfl) ev_c eg_scalar (bi_int (ic_geq (c := true) (dec_tt hc1)) (by simp))) rfl rfl rfl rfl fun a hF => ?_
       refine E.opv hF (r_move (hF.at 0 rfl)) rfl rfl rfl rfl fun a hF => ?_
       refine E.opvg hF (r_move (hF.at 4 rfl)) (wanted_by rfl rfl (hF.at 0 rfl) rfl) rfl rfl rfl fun a hF => ?_
       by_cases hc2 : n ≤ 3000000
       · first
         | (exfalso; omega)
         | (refine E.opvg hF (r_bin (hF.at 0 rfl) ev_c eg_scalar (bi_int (ic_leq (c := true) (dec_tt hc2)) (by simp))) (wanted_by rfl rfl (hF.at 1 rfl) rfl) rfl rfl rfl fun a hF => ?_
            refine E.opv hF (r_pick_t (hF.at 2 rfl) (hF.at 0 rfl)) rfl rfl rfl rfl fun a hF => ?_
            refine E.opset (L' := [(2, .bool true), (8, .bool true), (7, .bool true), (6, .int .i64 n), (5, .bool true), (4, .bool true), (3, .int .i64 n), (0, .int .i64 n)]) hF (r_assign (hF.at 0 rfl)) rfl rfl rfl rfl fun a hF => ?_
            refine E.nil ?_
            refine wp_ret ?_
            refine bodyPost_ret (res_tmp Tryd.results38 (hF.at 0 rfl)) hF.dfr ?_
            refine ⟨rv_bool ?_, bel⟩
            exact (decide_eq_true (by omega)).symm)
       · first
         | (exfalso; omega)
         | (refine E.opvg hF (r_bin (hF.at 0 rfl) ev_c eg_scalar (bi_int (ic_leq (c := false) (dec_ff hc2)) (by simp))) (wanted_by rfl rfl (hF.at 1 rfl) rfl) rfl rfl rfl fun a hF => ?_
            refine E.opv hF (r_pick_t (hF.at 2 rfl) (hF.at 0 rfl)) rfl rfl rfl rfl fun a hF => ?_
            refine E.opset (L' := [(2, .bool false), (8, .bool false), (7, .bool false), (6, .int .i64 n), (5, .bool true), (4, .bool true), (3, .int .i64 n), (0, .int .i64 n)]) hF (r_assign (hF.at 0 rfl)) rfl rfl rfl rfl fun a hF => ?_
            refine E.nil ?_
            refine wp_ret ?_
            refine bodyPost_ret (res_tmp Tryd.results38 (hF.at 0 rfl)) hF.dfr ?_
            refine ⟨rv_bool ?_, bel⟩
            exact (decide_eq_false (by omega)).symm))
  · first
    | (exfalso; omega)
    | (refine E.opv hF (r_bin (hF.at 0 rfl) ev_c eg_scalar (bi_int (ic_geq (c := false) (dec_ff hc1)) (by simp))) rfl rfl rfl rfl fun a hF => ?_
       refine E.opv hF (r_move (hF.at 0 rfl)) rfl rfl rfl rfl fun a hF => ?_
       refine E.unwanted hF (wanted_by rfl rfl (hF.at 0 rfl) rfl) rfl rfl rfl fun a hF => ?_
       refine E.unwanted hF (wanted_by rfl rfl (hF.at 1 rfl) rfl) rfl rfl rfl fun a hF => ?_
       refine E.opv hF (r_pick_f (hF.at 2 rfl) ev_c) rfl rfl rfl rfl fun a hF => ?_
       refine E.opset (L' := [(2, .bool false), (8, .bool false), (7, undef), (6, undef), (5, .bool false), (4, .bool false), (3, .int .i64 n), (0, .int .i64 n)]) hF (r_assign (hF.at 0 rfl)) rfl rfl rfl rfl fun a hF => ?_
       refine E.nil ?_
       refine wp_ret ?_
       refine bodyPost_ret (res_tmp Tryd.results38 (hF.at 0 rfl)) hF.dfr ?_
       refine ⟨rv_bool ?_, bel⟩
       exact (decide_eq_false (by omega)).symm)

set_option maxHeartbeats 1000000 in
theorem cfirstC_any (y : Int) (w : World) (h0 : -100000 ≤ y) (h1 : y ≤ 100000) :
    Calls Tryd.prog 40 #[.int .i64 y] w (ValPost w (.int .i64 (firstC y))) := by
  have bel : Below w.heap.size w w := Below.refl _ _
  refine E.enter (nt := 18) (L := [(0, .int .i64 y)]) Tryd.func40 rfl rfl rfl (args_cons (i := 0) rfl args_nil) ?_
  intro a hF
  refine wp_seq ?_
  refine E.seq ?_
  refine E.opv hF (r_assign ev_c) rfl rfl rfl rfl fun a hF => ?_
  refine E.nil ?_
  refine wp_seq ?_
  refine E.seq ?_
  refine E.opv hF (r_move (hF.at 1 rfl)) rfl rfl rfl rfl fun a hF => ?_
  refine E.opv hF (r_bin (hF.at 0 rfl) ev_c eg_scalar (ia_sub (by omega) (by omega))) rfl rfl rfl rfl fun a hF => ?_
  refine E.opv hF (r_assign (hF.at 0 rfl)) rfl rfl rfl rfl fun a hF => ?_
  refine E.nil ?_
  refine wp_seq ?_
  refine E.seq ?_
  refine E.opv hF (r_move (hF.at 0 rfl)) rfl rfl rfl rfl fun a hF => ?_
  refine E.opv hF (r_bin (hF.at 0 rfl) ev_c eg_scalar (ia_mul (by omega) (by omega))) rfl rfl rfl rfl fun a hF => ?_
  refine E.opv hF (r_move (hF.at 2 rfl)) rfl rfl rfl rfl fun a hF => ?_
  refine E.call hF (r_call Tryd.func42 en42.1 en42.2 (map2 (hF.at 0 rfl) ev_c)) (cfloorC_any (y - 1) 4 _ (by omega) (by omega) (by omega)) rfl rfl rfl rfl ?_
  rintro e w1 ⟨rfl, bb⟩
  refine ⟨_, rfl, ?_⟩
  intro a hF
  replace bel := below_to bel bb
  clear bb
  refine E.opv hF (r_bin (hF.at 2 rfl) (hF.at 0 rfl) eg_scalar (ia_add (by omega) (by omega))) rfl rfl rfl rfl fun a hF => ?_
  refine E.opv hF (r_move (hF.at 5 rfl)) rfl rfl rfl rfl fun a hF => ?_
  refine E.call hF (r_call Tryd.func42 en42.1 en42.2 (map2 (hF.at 0 rfl) ev_c)) (cfloorC_any (y - 1) 100 _ (by omega) (by omega) (by omega)) rfl rfl rfl rfl ?_
  rintro e w2 ⟨rfl, bb⟩
  refine ⟨_, rfl, ?_⟩
  intro a hF
  replace bel := below_to bel bb
  clear bb
  refine E.opv hF (r_bin (hF.at 2 rfl) (hF.at 0 rfl) eg_scalar (ia_sub (by omega) (by omega))) rfl rfl rfl rfl fun a hF => ?_
  refine E.opv hF (r_move (hF.at 8 rfl)) rfl rfl rfl rfl fun a hF => ?_
  refine E.call hF (r_call Tryd.func42 en42.1 en42.2 (map2 (hF.at 0 rfl) ev_c)) (cfloorC_any (y - 1) 400 _ (by omega) (by omega) (by omega)) rfl rfl rfl rfl ?_
  rintro e w3 ⟨rfl, bb⟩
  refine ⟨_, rfl, ?_⟩
  intro a hF
  replace bel := below_to bel bb
  clear bb
  refine E.opv hF (r_bin (hF.at 2 rfl) (hF.at 0 rfl) eg_scalar (ia_add (by omega) (by omega))) rfl rfl rfl rfl fun a hF => ?_
  refine E.opv hF (r_bin (hF.at 0 rfl) ev_c eg_scalar (ia_add (by omega) (by omega))) rfl rfl rfl rfl fun a hF => ?_
  refine E.opset (L' := [(2, .int .i64 ((((((y - 1) * 365) + ((y - 1) / 4)) - ((y - 1) / 100)) + ((y - 1) / 400)) + 1)), (17, .int .i64 ((((((y - 1) * 365) + ((y - 1) / 4)) - ((y - 1) / 100)) + ((y - 1) / 400)) + 1)), (16, .int .i64 (((((y - 1) * 365) + ((y - 1) / 4)) - ((y - 1) / 100)) + ((y - 1) / 400))), (15, .int .i64 ((y - 1) / 400)), (14, .int .i64 (y - 1)), (13, .int .i64 ((((y - 1) * 365) + ((y - 1) / 4)) - ((y - 1) / 100))), (12, .int .i64 ((y - 1) / 100)), (11, .int .i64 (y - 1)), (10, .int .i64 (((y - 1) * 365) + ((y - 1) / 4))), (9, .int .i64 ((y - 1) / 4)), (8, .int .i64 (y - 1)), (7, .int .i64 ((y - 1) * 365)), (6, .int .i64 (y - 1)), (3, .int .i64 (y - 1)), (5, .int .i64 (y - 1)), (4, .int .i64 y), (0, .int .i64 y)]) hF (r_assign (hF.at 0 rfl)) rfl rfl rfl rfl fun a hF => ?_
  refine E.nil ?_
  refine wp_ret ?_
  refine bodyPost_ret (res_tmp Tryd.results40 (hF.at 0 rfl)) hF.dfr ?_
  refine ⟨rv_int ?_, bel⟩
  unfold firstC; omega

set_option maxHeartbeats 8000000 in
theorem cyearC_any (n : Int) (w : World) (h0 : -3000000 ≤ n) (h1 : n ≤ 3000000) :
    Calls Tryd.prog 39 #[.int .i64 n] w (ValPost w (.int .i64 (yearC n))) := by
  have bel : Below w.heap.size w w := Below.refl _ _
  refine E.enter (nt := 41) (L := [(0, .int .i64 n)]) Tryd.func39 rfl rfl rfl (args_cons (i := 0) rfl args_nil) ?_
  intro a hF
  refine wp_seq ?_
  refine E.seq ?_
  refine E.opv hF (r_assign ev_c) rfl rfl rfl rfl fun a hF => ?_
  refine E.nil ?_
  refine wp_seq ?_
  refine E.seq ?_
  refine E.opv hF (r_move (hF.at 1 rfl)) rfl rfl rfl rfl fun a hF => ?_
  refine E.opv hF (r_bin (hF.at 0 rfl) ev_c eg_scalar (ia_sub (by omega) (by omega))) rfl rfl rfl rfl fun a hF => ?_
  refine E.opv hF (r_assign (hF.at 0 rfl)) rfl rfl rfl rfl fun a hF => ?_
  refine E.nil ?_
  refine wp_seq ?_
  refine E.seq ?_
  refine E.opv hF (r_move (hF.at 0 rfl)) rfl rfl rfl rfl fun a hF => ?_
  refine E.call hF (r_call Tryd.func42 en42.1 en42.2 (map2 (hF.at 0 rfl) ev_c)) (cfloorC_any (n - 1) 146097 _ (by omega) (by omega) (by omega)) rfl rfl rfl rfl ?_
  rintro e w1 ⟨rfl, bb⟩
  refine ⟨_, rfl, ?_⟩
  intro a hF
  replace bel := below_to bel bb
  clear bb
  refine E.opv hF (r_assign (hF.at 0 rfl)) rfl rfl rfl rfl fun a hF => ?_
  refine E.nil ?_
  refine wp_seq ?_
  refine E.seq ?_
  refine E.opv hF (r_move (hF.at 3 rfl)) rfl rfl rfl rfl fun a hF => ?_
  refine E.opv hF (r_move (hF.at 1 rfl)) rfl rfl rfl rfl fun a hF => ?_
  refine E.opv hF (r_bin (hF.at 0 rfl) ev_c eg_scalar (ia_mul (by omega) (by omega))) rfl rfl rfl rfl fun a hF => ?_
  refine E.opv hF (r_bin (hF.at 2 rfl) (hF.at 0 rfl) eg_scalar (ia_sub (by omega) (by omega))) rfl rfl rfl rfl fun a hF => ?_
  refine E.opset (L' := [(3, .int .i64 ((n - 1) - (((n - 1) / 146097) * 146097))), (14, .int .i64 ((n - 1) - (((n - 1) / 146097) * 146097))), (13, .int .i64 (((n - 1) / 146097) * 146097)), (12, .int .i64 ((n - 1) / 146097)), (11, .int .i64 (n - 1)), (4, .int .i64 ((n - 1) / 146097)), (10, .int .i64 ((n - 1) / 146097)), (9, .int .i64 (n - 1)), (8, .int .i64 (n - 1)), (7, .int .i64 n), (2, .int .i64 0), (0, .int .i64 n)]) hF (r_assign (hF.at 0 rfl)) rfl rfl rfl rfl fun a hF => ?_
  refine E.nil ?_
  refine wp_seq ?_
  refine E.seq ?_
  refine E.opv hF (r_move (hF.at 0 rfl)) rfl rfl rfl rfl fun a hF => ?_
  refine E.opv hF (r_bin (hF.at 0 rfl) ev_c eg_scalar (id_quon (a := (n - 1) - (((n - 1) / 146097) * 146097)) (b := 36524) (by omega) (by omega) (by omega) (by omega))) rfl rfl rfl rfl fun a hF => ?_
  refine E.opv hF (r_builtin (map2 (hF.at 0 rfl) ev_c) bl_min) rfl rfl rfl rfl fun a hF => ?_
  refine E.opv hF (r_assign (hF.at 0 rfl)) rfl rfl rfl rfl fun a hF => ?_
  refine E.nil ?_
  refine wp_seq ?_
  refine E.seq ?_
  refine E.opv hF (r_move (hF.at 4 rfl)) rfl rfl rfl rfl fun a hF => ?_
  refine E.opv hF (r_move (hF.at 1 rfl)) rfl rfl rfl rfl fun a hF => ?_
  refine E.opv hF (r_bin (hF.at 0 rfl) ev_c eg_scalar (ia_mul (by omega) (by omega))) rfl rfl rfl rfl fun a hF => ?_
  refine E.opv hF (r_bin (hF.at 2 rfl) (hF.at 0 rfl) eg_scalar (ia_sub (by omega) (by omega))) rfl rfl rfl rfl fun a hF => ?_
  refine E.opset (L' := [(3, .int .i64 (((n - 1) - (((n - 1) / 146097) * 146097)) - ((min (((n - 1) - (((n - 1) / 146097) * 146097)) / 36524) 3) * 36524))), (21, .int .i64 (((n - 1) - (((n - 1) / 146097) * 146097)) - ((min (((n - 1) - (((n - 1) / 146097) * 146097)) / 36524) 3) * 36524))), (20, .int .i64 ((min (((n - 1) - (((n - 1) / 146097) * 146097)) / 36524) 3) * 36524)), (19, .int .i64 (min (((n - 1) - (((n - 1) / 146097) * 146097)) / 36524) 3)), (18, .int .i64 ((n - 1) - (((n - 1) / 146097) * 146097))), (5, .int .i64 (min (((n - 1) - (((n - 1) / 146097) * 146097)) / 36524) 3)), (17, .int .i64 (min (((n - 1) - (((n - 1) / 146097) * 146097)) / 36524) 3)), (16, .int .i64 (((n - 1) - (((n - 1) / 146097) * 146097)) / 36524)), (15, .int .i64 ((n - 1) - (((n - 1) / 146097) * 146097))), (14, .int .i64 ((n - 1) - (((n - 1) / 146097) * 146097))), (13, .int .i64 (((n - 1) / 146097) * 146097)), (12, .int .i64 ((n - 1) / 146097)), (11, .int .i64 (n - 1)), (4, .int .i64 ((n - 1) / 146097)), (10, .int .i64 ((n - 1) / 146097)), (9, .int .i64 (n - 1)), (8, .int .i64 (n - 1)), (7, .int .i64 n), (2, .int .i64 0), (0, .int .i64 n)]) hF (r_assign (hF.at 0 rfl)) rfl rfl rfl rfl fun a hF => ?_
  refine E.nil ?_
  refine wp_seq ?_
  refine E.seq ?_
  refine E.opv hF (r_move (hF.at 0 rfl)) rfl rfl rfl rfl fun a hF => ?_
  refine E.opv hF (r_bin (hF.at 0 rfl) ev_c eg_scalar (id_quon (a := ((n - 1) - (((n - 1) / 146097) * 146097)) - ((min (((n - 1) - (((n - 1) / 146097) * 146097)) / 36524) 3) * 36524)) (b := 1461) (by omega) (by omega) (by omega) (by omega))) rfl rfl rfl rfl fun a hF => ?_
  refine E.opv hF (r_assign (hF.at 0 rfl)) rfl rfl rfl rfl fun a hF => ?_
  refine E.nil ?_
  refine wp_seq ?_
  refine E.seq ?_
  refine E.opv hF (r_move (hF.at 3 rfl)) rfl rfl rfl rfl fun a hF => ?_
  refine E.opv hF (r_move (hF.at 1 rfl)) rfl rfl rfl rfl fun a hF => ?_
  refine E.opv hF (r_bin (hF.at 0 rfl) ev_c eg_scalar (ia_mul (by omega) (by omega))) rfl rfl rfl rfl fun a hF => ?_
  refine E.opv hF (r_bin (hF.at 2 rfl) (hF.at 0 rfl) eg_scalar (ia_sub (by omega) (by omega))) rfl rfl rfl rfl fun a hF => ?_
  refine E.opset (L' := [(3, .int .i64 ((((n - 1) - (((n - 1) / 146097) * 146097)) - ((min (((n - 1) - (((n - 1) / 146097) * 146097)) / 36524) 3) * 36524)) - (((((n - 1) - (((n - 1) / 146097) * 146097)) - ((min (((n - 1) - (((n - 1) / 146097) * 146097)) / 36524) 3) * 36524)) / 1461) * 1461))), (27, .int .i64 ((((n - 1) - (((n - 1) / 146097) * 146097)) - ((min (((n - 1) - (((n - 1) / 146097) * 146097)) / 36524) 3) * 36524)) - (((((n - 1) - (((n - 1) / 146097) * 146097)) - ((min (((n - 1) - (((n - 1) / 146097) * 146097)) / 36524) 3) * 36524)) / 1461) * 1461))), (26, .int .i64 (((((n - 1) - (((n - 1) / 146097) * 146097)) - ((min (((n - 1) - (((n - 1) / 146097) * 146097)) / 36524) 3) * 36524)) / 1461) * 1461)), (25, .int .i64 ((((n - 1) - (((n - 1) / 146097) * 146097)) - ((min (((n - 1) - (((n - 1) / 146097) * 146097)) / 36524) 3) * 36524)) / 1461)), (24, .int .i64 (((n - 1) - (((n - 1) / 146097) * 146097)) - ((min (((n - 1) - (((n - 1) / 146097) * 146097)) / 36524) 3) * 36524))), (6, .int .i64 ((((n - 1) - (((n - 1) / 146097) * 146097)) - ((min (((n - 1) - (((n - 1) / 146097) * 146097)) / 36524) 3) * 36524)) / 1461)), (23, .int .i64 ((((n - 1) - (((n - 1) / 146097) * 146097)) - ((min (((n - 1) - (((n - 1) / 146097) * 146097)) / 36524) 3) * 36524)) / 1461)), (22, .int .i64 (((n - 1) - (((n - 1) / 146097) * 146097)) - ((min (((n - 1) - (((n - 1) / 146097) * 146097)) / 36524) 3) * 36524))), (21, .int .i64 (((n - 1) - (((n - 1) / 146097) * 146097)) - ((min (((n - 1) - (((n - 1) / 146097) * 146097)) / 36524) 3) * 36524))), (20, .int .i64 ((min (((n - 1) - (((n - 1) / 146097) * 146097)) / 36524) 3) * 36524)), (19, .int .i64 (min (((n - 1) - (((n - 1) / 146097) * 146097)) / 36524) 3)), (18, .int .i64 ((n - 1) - (((n - 1) / 146097) * 146097))), (5, .int .i64 (min (((n - 1) - (((n - 1) / 146097) * 146097)) / 36524) 3)), (17, .int .i64 (min (((n - 1) - (((n - 1) / 146097) * 146097)) / 36524) 3)), (16, .int .i64 (((n - 1) - (((n - 1) / 146097) * 146097)) / 36524)), (15, .int .i64 ((n - 1) - (((n - 1) / 146097) * 146097))), (14, .int .i64 ((n - 1) - (((n - 1) / 146097) * 146097))), (13, .int .i64 (((n - 1) / 146097) * 146097)), (12, .int .i64 ((n - 1) / 146097)), (11, .int .i64 (n - 1)), (4, .int .i64 ((n - 1) / 146097)), (10, .int .i64 ((n - 1) / 146097)), (9, .int .i64 (n - 1)), (8, .int .i64 (n - 1)), (7, .int .i64 n), (2, .int .i64 0), (0, .int .i64 n)]) hF (r_assign (hF.at 0 rfl)) rfl rfl rfl rfl fun a hF => ?_
  refine E.nil ?_
  refine wp_seq ?_
  refine E.seq ?_
  refine E.opv hF (r_move (hF.at 20 rfl)) rfl rfl rfl rfl fun a hF => ?_
  refine E.opv hF (r_bin ev_c (hF.at 0 rfl) eg_scalar (ia_mul (by omega) (by omega))) rfl rfl rfl rfl fun a hF => ?_
  refine E.opv hF (r_move (hF.at 14 rfl)) rfl rfl rfl rfl fun a hF => ?_
  refine E.opv hF (r_bin ev_c (hF.at 0 rfl) eg_scalar (ia_mul (by omega) (by omega))) rfl rfl rfl rfl fun a hF => ?_
  refine E.opv hF (r_bin (hF.at 2 rfl) (hF.at 0 rfl) eg_scalar (ia_add (by omega) (by omega))) rfl rfl rfl rfl fun a hF => ?_
  refine E.opv hF (r_move (hF.at 10 rfl)) rfl rfl rfl rfl fun a hF => ?_
  refine E.opv hF (r_bin ev_c (hF.at 0 rfl) eg_scalar (ia_mul (by omega) (by omega))) rfl rfl rfl rfl fun a hF => ?_
  refine E.opv hF (r_bin (hF.at 2 rfl) (hF.at 0 rfl) eg_scalar (ia_add (by omega) (by omega))) rfl rfl rfl rfl fun a hF => ?_
  refine E.opv hF (r_move (hF.at 8 rfl)) rfl rfl rfl rfl fun a hF => ?_
  refine E.opv hF (r_bin (hF.at 0 rfl) ev_c eg_scalar (id_quon (a := (((n - 1) - (((n - 1) / 146097) * 146097)) - ((min (((n - 1) - (((n - 1) / 146097) * 146097)) / 36524) 3) * 36524)) - (((((n - 1) - (((n - 1) / 146097) * 146097)) - ((min (((n - 1) - (((n - 1) / 146097) * 146097)) / 36524) 3) * 36524)) / 1461) * 1461)) (b := 365) (by omega) (by omega) (by omega) (by omega))) rfl rfl rfl rfl fun a hF => ?_
  refine E.opv hF (r_builtin (map2 (hF.at 0 rfl) ev_c) bl_min) rfl rfl rfl rfl fun a hF => ?_
  refine E.opv hF (r_bin (hF.at 3 rfl) (hF.at 0 rfl) eg_scalar (ia_add (by omega) (by omega))) rfl rfl rfl rfl fun a hF => ?_
  refine E.opv hF (r_bin (hF.at 0 rfl) ev_c eg_scalar (ia_add (by omega) (by omega))) rfl rfl rfl rfl fun a hF => ?_
  refine E.opset (L' := [(2, .int .i64 (((((400 * ((n - 1) / 146097)) + (100 * (min (((n - 1) - (((n - 1) / 146097) * 146097)) / 36524) 3))) + (4 * ((((n - 1) - (((n - 1) / 146097) * 146097)) - ((min (((n - 1) - (((n - 1) / 146097) * 146097)) / 36524) 3) * 36524)) / 1461))) + (min (((((n - 1) - (((n - 1) / 146097) * 146097)) - ((min (((n - 1) - (((n - 1) / 146097) * 146097)) / 36524) 3) * 36524)) - (((((n - 1) - (((n - 1) / 146097) * 146097)) - ((min (((n - 1) - (((n - 1) / 146097) * 146097)) / 36524) 3) * 36524)) / 1461) * 1461)) / 365) 3)) + 1)), (40, .int .i64 (((((400 * ((n - 1) / 146097)) + (100 * (min (((n - 1) - (((n - 1) / 146097) * 146097)) / 36524) 3))) + (4 * ((((n - 1) - (((n - 1) / 146097) * 146097)) - ((min (((n - 1) - (((n - 1) / 146097) * 146097)) / 36524) 3) * 36524)) / 1461))) + (min (((((n - 1) - (((n - 1) / 146097) * 146097)) - ((min (((n - 1) - (((n - 1) / 146097) * 146097)) / 36524) 3) * 36524)) - (((((n - 1) - (((n - 1) / 146097) * 146097)) - ((min (((n - 1) - (((n - 1) / 146097) * 146097)) / 36524) 3) * 36524)) / 1461) * 1461)) / 365) 3)) + 1)), (39, .int .i64 ((((400 * ((n - 1) / 146097)) + (100 * (min (((n - 1) - (((n - 1) / 146097) * 146097)) / 36524) 3))) + (4 * ((((n - 1) - (((n - 1) / 146097) * 146097)) - ((min (((n - 1) - (((n - 1) / 146097) * 146097)) / 36524) 3) * 36524)) / 1461))) + (min (((((n - 1) - (((n - 1) / 146097) * 146097)) - ((min (((n - 1) - (((n - 1) / 146097) * 146097)) / 36524) 3) * 36524)) - (((((n - 1) - (((n - 1) / 146097) * 146097)) - ((min (((n - 1) - (((n - 1) / 146097) * 146097)) / 36524) 3) * 36524)) / 1461) * 1461)) / 365) 3))), (38, .int .i64 (min (((((n - 1) - (((n - 1) / 146097) * 146097)) - ((min (((n - 1) - (((n - 1) / 146097) * 146097)) / 36524) 3) * 36524)) - (((((n - 1) - (((n - 1) / 146097) * 146097)) - ((min (((n - 1) - (((n - 1) / 146097) * 146097)) / 36524) 3) * 36524)) / 1461) * 1461)) / 365) 3)), (37, .int .i64 (((((n - 1) - (((n - 1) / 146097) * 146097)) - ((min (((n - 1) - (((n - 1) / 146097) * 146097)) / 36524) 3) * 36524)) - (((((n - 1) - (((n - 1) / 146097) * 146097)) - ((min (((n - 1) - (((n - 1) / 146097) * 146097)) / 36524) 3) * 36524)) / 1461) * 1461)) / 365)), (36, .int .i64 ((((n - 1) - (((n - 1) / 146097) * 146097)) - ((min (((n - 1) - (((n - 1) / 146097) * 146097)) / 36524) 3) * 36524)) - (((((n - 1) - (((n - 1) / 146097) * 146097)) - ((min (((n - 1) - (((n - 1) / 146097) * 146097)) / 36524) 3) * 36524)) / 1461) * 1461))), (35, .int .i64 (((400 * ((n - 1) / 146097)) + (100 * (min (((n - 1) - (((n - 1) / 146097) * 146097)) / 36524) 3))) + (4 * ((((n - 1) - (((n - 1) / 146097) * 146097)) - ((min (((n - 1) - (((n - 1) / 146097) * 146097)) / 36524) 3) * 36524)) / 1461)))), (34, .int .i64 (4 * ((((n - 1) - (((n - 1) / 146097) * 146097)) - ((min (((n - 1) - (((n - 1) / 146097) * 146097)) / 36524) 3) * 36524)) / 1461))), (33, .int .i64 ((((n - 1) - (((n - 1) / 146097) * 146097)) - ((min (((n - 1) - (((n - 1) / 146097) * 146097)) / 36524) 3) * 36524)) / 1461)), (32, .int .i64 ((400 * ((n - 1) / 146097)) + (100 * (min (((n - 1) - (((n - 1) / 146097) * 146097)) / 36524) 3)))), (31, .int .i64 (100 * (min (((n - 1) - (((n - 1) / 146097) * 146097)) / 36524) 3))), (30, .int .i64 (min (((n - 1) - (((n - 1) / 146097) * 146097)) / 36524) 3)), (29, .int .i64 (400 * ((n - 1) / 146097))), (28, .int .i64 ((n - 1) / 146097)), (3, .int .i64 ((((n - 1) - (((n - 1) / 146097) * 146097)) - ((min (((n - 1) - (((n - 1) / 146097) * 146097)) / 36524) 3) * 36524)) - (((((n - 1) - (((n - 1) / 146097) * 146097)) - ((min (((n - 1) - (((n - 1) / 146097) * 146097)) / 36524) 3) * 36524)) / 1461) * 1461))), (27, .int .i64 ((((n - 1) - (((n - 1) / 146097) * 146097)) - ((min (((n - 1) - (((n - 1) / 146097) * 146097)) / 36524) 3) * 36524)) - (((((n - 1) - (((n - 1) / 146097) * 146097)) - ((min (((n - 1) - (((n - 1) / 146097) * 146097)) / 36524) 3) * 36524)) / 1461) * 1461))), (26, .int .i64 (((((n - 1) - (((n - 1) / 146097) * 146097)) - ((min (((n - 1) - (((n - 1) / 146097) * 146097)) / 36524) 3) * 36524)) / 1461) * 1461)), (25, .int .i64 ((((n - 1) - (((n - 1) / 146097) * 146097)) - ((min (((n - 1) - (((n - 1) / 146097) * 146097)) / 36524) 3) * 36524)) / 1461)), (24, .int .i64 (((n - 1) - (((n - 1) / 146097) * 146097)) - ((min (((n - 1) - (((n - 1) / 146097) * 146097)) / 36524) 3) * 36524))), (6, .int .i64 ((((n - 1) - (((n - 1) / 146097) * 146097)) - ((min (((n - 1) - (((n - 1) / 146097) * 146097)) / 36524) 3) * 36524)) / 1461)), (23, .int .i64 ((((n - 1) - (((n - 1) / 146097) * 146097)) - ((min (((n - 1) - (((n - 1) / 146097) * 146097)) / 36524) 3) * 36524)) / 1461)), (22, .int .i64 (((n - 1) - (((n - 1) / 146097) * 146097)) - ((min (((n - 1) - (((n - 1) / 146097) * 146097)) / 36524) 3) * 36524))), (21, .int .i64 (((n - 1) - (((n - 1) / 146097) * 146097)) - ((min (((n - 1) - (((n - 1) / 146097) * 146097)) / 36524) 3) * 36524))), (20, .int .i64 ((min (((n - 1) - (((n - 1) / 146097) * 146097)) / 36524) 3) * 36524)), (19, .int .i64 (min (((n - 1) - (((n - 1) / 146097) * 146097)) / 36524) 3)), (18, .int .i64 ((n - 1) - (((n - 1) / 146097) * 146097))), (5, .int .i64 (min (((n - 1) - (((n - 1) / 146097) * 146097)) / 36524) 3)), (17, .int .i64 (min (((n - 1) - (((n - 1) / 146097) * 146097)) / 36524) 3)), (16, .int .i64 (((n - 1) - (((n - 1) / 146097) * 146097)) / 36524)), (15, .int .i64 ((n - 1) - (((n - 1) / 146097) * 146097))), (14, .int .i64 ((n - 1) - (((n - 1) / 146097) * 146097))), (13, .int .i64 (((n - 1) / 146097) * 146097)), (12, .int .i64 ((n - 1) / 146097)), (11, .int .i64 (n - 1)), (4, .int .i64 ((n - 1) / 146097)), (10, .int .i64 ((n - 1) / 146097)), (9, .int .i64 (n - 1)), (8, .int .i64 (n - 1)), (7, .int .i64 n), (0, .int .i64 n)]) hF (r_assign (hF.at 0 rfl)) rfl rfl rfl rfl fun a hF => ?_
  refine E.nil ?_
  refine wp_ret ?_
  refine bodyPost_ret (res_tmp Tryd.results39 (hF.at 0 rfl)) hF.dfr ?_
  refine ⟨rv_int ?_, bel⟩
  rfl

set_option maxHeartbeats 8000000 in
theorem cfixC_any (y m d : Int) (w : World) (hT : TabC w) :
    Calls Tryd.prog 17 #[.agg #[.int .i64 y, .int .i64 m, .int .i64 d]] w (ValPost w (.tuple #[.int .i64 (fixN calC y m d), .int .i64 (fixE calC y m d)])) := by
  have hmd := mlen_bd (leapC y) m
  have bel : Below w.heap.size w w := Below.refl _ _
  refine E.enter (nt := 52) (L := [(0, .agg #[.int .i64 y, .int .i64 m, .int .i64 d])]) Tryd.func17 rfl rfl rfl (args_cons (i := 0) rfl args_nil) ?_
  intro a hF
  refine wp_seq ?_
  refine E.seq ?_
  obtain ⟨g1, w1, ge1, hr, bb, o1⟩ := blk_box (P := Tryd.prog) (w := w) (cs := [.int .i64 y, .int .i64 m, .int .i64 d]) (v := .agg #[.int .i64 y, .int .i64 m, .int .i64 d]) 24 rfl
  replace ge1 : w.heap.size ≤ g1 := by rw [← ge1]; exact bel.size
  refine E.opv hF (r_box (hF.at 0 rfl) hr) rfl rfl rfl rfl fun a hF => ?_
  clear hr
  replace bel := below_to bel bb
  clear bb
  refine E.opv hF (r_assign ev_c) rfl rfl rfl rfl fun a hF => ?_
  refine E.opv hF (r_assign ev_c) rfl rfl rfl rfl fun a hF => ?_
  refine E.nil ?_
  refine wp_seq ?_
  refine wp_block ?_
  refine wp_seq ?_
  refine E.seq ?_
  refine E.opv hF (r_field (hF.at 2 rfl) (fa_CDate_0 (p := 0) rfl)) rfl rfl rfl rfl fun a hF => ?_
  refine E.opv hF (r_load (hF.at 0 rfl) (ldb_i64 (v := .int .i64 y) o1 rfl)) rfl rfl rfl rfl fun a hF => ?_
  by_cases hc2 : y < (-9000)
  · first
    | (exfalso; omega)
    | (refine E.opv hF (r_bin (hF.at 0 rfl) ev_c eg_scalar (bi_int (ic_lss (c := true) (dec_tt hc2)) (by simp))) rfl rfl rfl rfl fun a hF => ?_
       refine E.opv hF (r_move (hF.at 0 rfl)) rfl rfl rfl rfl fun a hF => ?_
       refine E.unwanted hF (wanted_by rfl rfl (hF.at 0 rfl) rfl) rfl rfl rfl fun a hF => ?_
       refine E.unwanted hF (wanted_by rfl rfl (hF.at 1 rfl) rfl) rfl rfl rfl fun a hF => ?_
       refine E.unwanted hF (wanted_by rfl rfl (hF.at 2 rfl) rfl) rfl rfl rfl fun a hF => ?_
       refine E.opv hF (r_pick_t (hF.at 3 rfl) ev_c) rfl rfl rfl rfl fun a hF => ?_
       refine E.opv hF (r_assign (hF.at 0 rfl)) rfl rfl rfl rfl fun a hF => ?_
       refine E.nil ?_
       refine wp_cond_true (hF.at 0 rfl) ?_
       refine wp_seq ?_
       refine E.seq ?_
       refine E.opset (L' := [(2, .int .i64 0), (6, .bool true), (14, .bool true), (13, undef), (12, undef), (11, undef), (10, .bool true), (9, .bool true), (8, .int .i64 y), (7, .pointer (some ⟨g1, 0, none⟩)), (3, .int .i64 0), (1, .pointer (some ⟨g1, 0, none⟩)), (0, .agg #[.int .i64 y, .int .i64 m, .int .i64 d])]) hF (r_assign ev_c) rfl rfl rfl rfl fun a hF => ?_
       refine E.opset (L' := [(3, .int .i64 2), (2, .int .i64 0), (6, .bool true), (14, .bool true), (13, undef), (12, undef), (11, undef), (10, .bool true), (9, .bool true), (8, .int .i64 y), (7, .pointer (some ⟨g1, 0, none⟩)), (1, .pointer (some ⟨g1, 0, none⟩)), (0, .agg #[.int .i64 y, .int .i64 m, .int .i64 d])]) hF (r_assign ev_c) rfl rfl rfl rfl fun a hF => ?_
       refine E.nil ?_
       refine wp_ret ?_
       refine bodyPost_ret (res_tmp2 Tryd.results17 (hF.at 1 rfl) (hF.at 0 rfl)) hF.dfr ?_
       refine ⟨rv_int2 ?_ ?_, bel⟩
       · exact (fix_year (by omega)).1
       · exact (fix_year (by omega)).2)
  · first
    | (exfalso; omega)
    | (refine E.opv hF (r_bin (hF.at 0 rfl) ev_c eg_scalar (bi_int (ic_lss (c := false) (dec_ff hc2)) (by simp))) rfl rfl rfl rfl fun a hF => ?_
       refine E.opv hF (r_move (hF.at 0 rfl)) rfl rfl rfl rfl fun a hF => ?_
       refine E.opvg hF (r_field (hF.at 6 rfl) (fa_CDate_0 (p := 0) rfl)) (wanted_by rfl rfl (hF.at 0 rfl) rfl) rfl rfl rfl fun a hF => ?_
       refine E.opvg hF (r_load (hF.at 0 rfl) (ldb_i64 (v := .int .i64 y) o1 rfl)) (wanted_by rfl rfl (hF.at 1 rfl) rfl) rfl rfl rfl fun a hF => ?_
       by_cases hc3 : 9000 < y
       · first
         | (exfalso; omega)
         | (refine E.opvg hF (r_bin (hF.at 0 rfl) ev_c eg_scalar (bi_int (ic_gtr (c := true) (dec_tt hc3)) (by simp))) (wanted_by rfl rfl (hF.at 2 rfl) rfl) rfl rfl rfl fun a hF => ?_
            refine E.opv hF (r_pick_f (hF.at 3 rfl) (hF.at 0 rfl)) rfl rfl rfl rfl fun a hF => ?_
            refine E.opv hF (r_assign (hF.at 0 rfl)) rfl rfl rfl rfl fun a hF => ?_
            refine E.nil ?_
            refine wp_cond_true (hF.at 0 rfl) ?_
            refine wp_seq ?_
            refine E.seq ?_
            refine E.opset (L' := [(2, .int .i64 0), (6, .bool true), (14, .bool true), (13, .bool true), (12, .int .i64 y), (11, .pointer (some ⟨g1, 0, none⟩)), (10, .bool false), (9, .bool false), (8, .int .i64 y), (7, .pointer (some ⟨g1, 0, none⟩)), (3, .int .i64 0), (1, .pointer (some ⟨g1, 0, none⟩)), (0, .agg #[.int .i64 y, .int .i64 m, .int .i64 d])]) hF (r_assign ev_c) rfl rfl rfl rfl fun a hF => ?_
            refine E.opset (L' := [(3, .int .i64 2), (2, .int .i64 0), (6, .bool true), (14, .bool true), (13, .bool true), (12, .int .i64 y), (11, .pointer (some ⟨g1, 0, none⟩)), (10, .bool false), (9, .bool false), (8, .int .i64 y), (7, .pointer (some ⟨g1, 0, none⟩)), (1, .pointer (some ⟨g1, 0, none⟩)), (0, .agg #[.int .i64 y, .int .i64 m, .int .i64 d])]) hF (r_assign ev_c) rfl rfl rfl rfl fun a hF => ?_
            refine E.nil ?_
            refine wp_ret ?_
            refine bodyPost_ret (res_tmp2 Tryd.results17 (hF.at 1 rfl) (hF.at 0 rfl)) hF.dfr ?_
            refine ⟨rv_int2 ?_ ?_, bel⟩
            · exact (fix_year (by omega)).1
            · exact (fix_year (by omega)).2)
       · first
         | (exfalso; omega)
         | (refine E.opvg hF (r_bin (hF.at 0 rfl) ev_c eg_scalar (bi_int (ic_gtr (c := false) (dec_ff hc3)) (by simp))) (wanted_by rfl rfl (hF.at 2 rfl) rfl) rfl rfl rfl fun a hF => ?_
            refine E.opv hF (r_pick_f (hF.at 3 rfl) (hF.at 0 rfl)) rfl rfl rfl rfl fun a hF => ?_
            refine E.opv hF (r_assign (hF.at 0 rfl)) rfl rfl rfl rfl fun a hF => ?_
            refine E.nil ?_
            refine wp_cond_false (hF.at 0 rfl) ?_
            refine wp_seq ?_
            by_cases hc4 : d < 1
            · first
              | (exfalso; omega)
              | (refine E.drawn 14 mixed hF [16, 17, 18, 19, 20, 21, 22, 23, 24, 25, 26, 27, 28, 15] [(fun _ v => v = .pointer (some ⟨g1, 2, none⟩)), (fun _ v => v = .int .i64 d), (fun _ v => v = .bool true), (fun _ v => v = .bool true), (fun _ v => v = undef), (fun _ v => v = undef), (fun _ v => v = undef), (fun _ v => v = undef), (fun _ v => v = undef), (fun _ v => v = undef), (fun _ v => v = undef), (fun _ v => v = undef), (fun _ v => v = .bool true), (fun _ v => v = .bool true)] [] (by decide +kernel) (by decide +kernel) rfl rfl rfl ⟨(Mb.eq _), (Mb.eq _), (Mb.eq _), (Mb.eq _), (Mb.eq _), (Mb.eq _), (Mb.eq _), (Mb.eq _), (Mb.eq _), (Mb.eq _), (Mb.eq _), (Mb.eq _), (Mb.eq _), (Mb.eq _), trivial⟩ trivial ⟨?_, ?_, ?_, ?_, ?_, ?_, ?_, ?_, ?_, ?_, ?_, ?_, ?_, ?_, trivial⟩ ?_
                 · intro a' w' hF' hb hd
                   exact if_does (wanted_free rfl) (Does.vals (r_field (hF'.at 11 rfl) (fa_CDate_2 (p := 2) rfl)) ⟨rfl, Below.refl _ _, (fun h => absurd h (by decide))⟩)
                 · intro a' w' hF' hb hd
                   have e16 : a'.tmps.getD 16 undef = .pointer (some ⟨g1, 2, none⟩) := hd _ 16 (Array.mem_of_getElem? (i := 0) rfl) rfl rfl
                   exact if_does (wanted_free rfl) (Does.vals (r_load e16 (ldb_int (v := .int .i64 d) (o1.below hb) rfl)) ⟨rfl, Below.refl _ _, (fun h => absurd h (by decide))⟩)
                 · intro a' w' hF' hb hd
                   have e17 : a'.tmps.getD 17 undef = .int .i64 d := hd _ 17 (Array.mem_of_getElem? (i := 0) rfl) rfl rfl
                   exact if_does (wanted_free rfl) (Does.vals (r_bin e17 ev_c eg_scalar (bi_int (ic_lss (c := true) (dec_tt hc4)) (by simp))) ⟨rfl, Below.refl _ _, (fun h => absurd h (by decide))⟩)
                 · intro a' w' hF' hb hd
                   have e18 : a'.tmps.getD 18 undef = .bool true := hd _ 18 (Array.mem_of_getElem? (i := 0) rfl) rfl rfl
                   exact if_does (wanted_free rfl) (Does.vals (r_move e18) ⟨rfl, Below.refl _ _, (fun h => absurd h (by decide))⟩)
                 · intro a' w' hF' hb hd
                   have e19 : a'.tmps.getD 19 undef = .bool true := hd _ 19 (Array.mem_of_getElem? (i := 0) rfl) rfl rfl
                   exact if_not (wanted_by rfl rfl e19 rfl) ⟨rfl, by decide⟩
                 · intro a' w' hF' hb hd
                   have e19 : a'.tmps.getD 19 undef = .bool true := hd _ 19 (Array.mem_of_getElem? (i := 1) rfl) rfl rfl
                   exact if_not (wanted_by rfl rfl e19 rfl) ⟨rfl, by decide⟩
                 · intro a' w' hF' hb hd
                   have e19 : a'.tmps.getD 19 undef = .bool true := hd _ 19 (Array.mem_of_getElem? (i := 0) rfl) rfl rfl
                   exact if_not (wanted_by rfl rfl e19 rfl) ⟨rfl, by decide⟩
                 · intro a' w' hF' hb hd
                   have e19 : a'.tmps.getD 19 undef = .bool true := hd _ 19 (Array.mem_of_getElem? (i := 1) rfl) rfl rfl
                   exact if_not (wanted_by rfl rfl e19 rfl) ⟨rfl, by decide⟩
                 · intro a' w' hF' hb hd
                   have e19 : a'.tmps.getD 19 undef = .bool true := hd _ 19 (Array.mem_of_getElem? (i := 0) rfl) rfl rfl
                   exact if_not (wanted_by rfl rfl e19 rfl) ⟨rfl, by decide⟩
                 · intro a' w' hF' hb hd
                   have e19 : a'.tmps.getD 19 undef = .bool true := hd _ 19 (Array.mem_of_getElem? (i := 1) rfl) rfl rfl
                   exact if_not (wanted_by rfl rfl e19 rfl) ⟨rfl, by decide⟩
                 · intro a' w' hF' hb hd
                   have e19 : a'.tmps.getD 19 undef = .bool true := hd _ 19 (Array.mem_of_getElem? (i := 2) rfl) rfl rfl
                   exact if_not (wanted_by rfl rfl e19 rfl) ⟨rfl, by decide⟩
                 · intro a' w' hF' hb hd
                   have e19 : a'.tmps.getD 19 undef = .bool true := hd _ 19 (Array.mem_of_getElem? (i := 2) rfl) rfl rfl
                   exact if_not (wanted_by rfl rfl e19 rfl) ⟨rfl, by decide⟩
                 · intro a' w' hF' hb hd
                   have e19 : a'.tmps.getD 19 undef = .bool true := hd _ 19 (Array.mem_of_getElem? (i := 0) rfl) rfl rfl
                   exact if_does (wanted_free rfl) (Does.vals (r_pick_t e19 ev_c) ⟨rfl, Below.refl _ _, (fun h => absurd h (by decide))⟩)
                 · intro a' w' hF' hb hd
                   have e28 : a'.tmps.getD 28 undef = .bool true := hd _ 28 (Array.mem_of_getElem? (i := 0) rfl) rfl rfl
                   exact if_does (wanted_free rfl) (Does.vals (r_assign e28) ⟨rfl, Below.refl _ _, (fun h => absurd h (by decide))⟩)
                 intro a w5 hF bb hall hne
                 have e15 : a.tmps.getD 15 undef = .bool true := hall 13 15 rfl
                 clear hall hne
                 replace o1 := o1.below bb
                 replace bel := below_to bel bb
                 clear bb
                 replace hF := hF.add e15
                 clear e15
                 refine E.nil ?_
                 refine wp_cond_true (hF.at 0 rfl) ?_
                 refine wp_seq ?_
                 refine E.seq ?_
                 refine E.opset (L' := [(2, .int .i64 0), (15, .bool true), (6, .bool false), (14, .bool false), (13, .bool false), (12, .int .i64 y), (11, .pointer (some ⟨g1, 0, none⟩)), (10, .bool false), (9, .bool false), (8, .int .i64 y), (7, .pointer (some ⟨g1, 0, none⟩)), (3, .int .i64 0), (1, .pointer (some ⟨g1, 0, none⟩)), (0, .agg #[.int .i64 y, .int .i64 m, .int .i64 d])]) hF (r_assign ev_c) rfl rfl rfl rfl fun a hF => ?_
                 refine E.opset (L' := [(3, .int .i64 4), (2, .int .i64 0), (15, .bool true), (6, .bool false), (14, .bool false), (13, .bool false), (12, .int .i64 y), (11, .pointer (some ⟨g1, 0, none⟩)), (10, .bool false), (9, .bool false), (8, .int .i64 y), (7, .pointer (some ⟨g1, 0, none⟩)), (1, .pointer (some ⟨g1, 0, none⟩)), (0, .agg #[.int .i64 y, .int .i64 m, .int .i64 d])]) hF (r_assign ev_c) rfl rfl rfl rfl fun a hF => ?_
                 refine E.nil ?_
                 refine wp_ret ?_
                 refine bodyPost_ret (res_tmp2 Tryd.results17 (hF.at 1 rfl) (hF.at 0 rfl)) hF.dfr ?_
                 refine ⟨rv_int2 ?_ ?_, bel⟩
                 · exact (fix_bad (by omega) (by unfold Val; show ¬ (1 ≤ m ∧ m ≤ 12 ∧ 1 ≤ d ∧ d ≤ mlen (leapC y) m); omega)).1
                 · exact (fix_bad (by omega) (by unfold Val; show ¬ (1 ≤ m ∧ m ≤ 12 ∧ 1 ≤ d ∧ d ≤ mlen (leapC y) m); omega)).2)
            · first
              | (exfalso; omega)
              | (by_cases hc6 : mlen (leapC y) m < d
                 · first
                   | (exfalso; omega)
                   | (refine E.drawn 14 mixed hF [16, 17, 18, 19, 20, 21, 22, 23, 24, 25, 26, 27, 28, 15] [(fun _ v => v = .pointer (some ⟨g1, 2, none⟩)), (fun _ v => v = .int .i64 d), (fun _ v => v = .bool false), (fun _ v => v = .bool false), (fun _ v => v = .pointer (some ⟨g1, 2, none⟩)), (fun _ v => v = .int .i64 d), (fun _ v => v = .pointer (some ⟨g1, 0, none⟩)), (fun _ v => v = .int .i64 y), (fun _ v => v = .pointer (some ⟨g1, 1, none⟩)), (fun _ v => v = .int .i64 m), (fun _ v => v = .int .i64 (mlen (leapC y) m)), (fun _ v => v = .bool true), (fun _ v => v = .bool true), (fun _ v => v = .bool true)] [] (by decide +kernel) (by decide +kernel) rfl rfl rfl ⟨(Mb.eq _), (Mb.eq _), (Mb.eq _), (Mb.eq _), (Mb.eq _), (Mb.eq _), (Mb.eq _), (Mb.eq _), (Mb.eq _), (Mb.eq _), (Mb.eq _), (Mb.eq _), (Mb.eq _), (Mb.eq _), trivial⟩ trivial ⟨?_, ?_, ?_, ?_, ?_, ?_, ?_, ?_, ?_, ?_, ?_, ?_, ?_, ?_, trivial⟩ ?_
                      · intro a' w' hF' hb hd
                        exact if_does (wanted_free rfl) (Does.vals (r_field (hF'.at 11 rfl) (fa_CDate_2 (p := 2) rfl)) ⟨rfl, Below.refl _ _, (fun h => absurd h (by decide))⟩)
                      · intro a' w' hF' hb hd
                        have e16 : a'.tmps.getD 16 undef = .pointer (some ⟨g1, 2, none⟩) := hd _ 16 (Array.mem_of_getElem? (i := 0) rfl) rfl rfl
                        exact if_does (wanted_free rfl) (Does.vals (r_load e16 (ldb_int (v := .int .i64 d) (o1.below hb) rfl)) ⟨rfl, Below.refl _ _, (fun h => absurd h (by decide))⟩)
                      · intro a' w' hF' hb hd
                        have e17 : a'.tmps.getD 17 undef = .int .i64 d := hd _ 17 (Array.mem_of_getElem? (i := 0) rfl) rfl rfl
                        exact if_does (wanted_free rfl) (Does.vals (r_bin e17 ev_c eg_scalar (bi_int (ic_lss (c := false) (dec_ff hc4)) (by simp))) ⟨rfl, Below.refl _ _, (fun h => absurd h (by decide))⟩)
                      · intro a' w' hF' hb hd
                        have e18 : a'.tmps.getD 18 undef = .bool false := hd _ 18 (Array.mem_of_getElem? (i := 0) rfl) rfl rfl
                        exact if_does (wanted_free rfl) (Does.vals (r_move e18) ⟨rfl, Below.refl _ _, (fun h => absurd h (by decide))⟩)
                      · intro a' w' hF' hb hd
                        have e19 : a'.tmps.getD 19 undef = .bool false := hd _ 19 (Array.mem_of_getElem? (i := 0) rfl) rfl rfl
                        exact if_does (wanted_by rfl rfl e19 rfl) (Does.vals (r_field (hF'.at 11 rfl) (fa_CDate_2 (p := 2) rfl)) ⟨rfl, Below.refl _ _, (fun h => absurd h (by decide))⟩)
                      · intro a' w' hF' hb hd
                        have e19 : a'.tmps.getD 19 undef = .bool false := hd _ 19 (Array.mem_of_getElem? (i := 1) rfl) rfl rfl
                        have e20 : a'.tmps.getD 20 undef = .pointer (some ⟨g1, 2, none⟩) := hd _ 20 (Array.mem_of_getElem? (i := 0) rfl) rfl rfl
                        exact if_does (wanted_by rfl rfl e19 rfl) (Does.vals (r_load e20 (ldb_int (v := .int .i64 d) (o1.below hb) rfl)) ⟨rfl, Below.refl _ _, (fun h => absurd h (by decide))⟩)
                      · intro a' w' hF' hb hd
                        have e19 : a'.tmps.getD 19 undef = .bool false := hd _ 19 (Array.mem_of_getElem? (i := 0) rfl) rfl rfl
                        exact if_does (wanted_by rfl rfl e19 rfl) (Does.vals (r_field (hF'.at 11 rfl) (fa_CDate_0 (p := 0) rfl)) ⟨rfl, Below.refl _ _, (fun h => absurd h (by decide))⟩)
                      · intro a' w' hF' hb hd
                        have e19 : a'.tmps.getD 19 undef = .bool false := hd _ 19 (Array.mem_of_getElem? (i := 1) rfl) rfl rfl
                        have e22 : a'.tmps.getD 22 undef = .pointer (some ⟨g1, 0, none⟩) := hd _ 22 (Array.mem_of_getElem? (i := 0) rfl) rfl rfl
                        exact if_does (wanted_by rfl rfl e19 rfl) (Does.vals (r_load e22 (ldb_i64 (v := .int .i64 y) (o1.below hb) rfl)) ⟨rfl, Below.refl _ _, (fun h => absurd h (by decide))⟩)
                      · intro a' w' hF' hb hd
                        have e19 : a'.tmps.getD 19 undef = .bool false := hd _ 19 (Array.mem_of_getElem? (i := 0) rfl) rfl rfl
                        exact if_does (wanted_by rfl rfl e19 rfl) (Does.vals (r_field (hF'.at 11 rfl) (fa_CDate_1 (p := 1) rfl)) ⟨rfl, Below.refl _ _, (fun h => absurd h (by decide))⟩)
                      · intro a' w' hF' hb hd
                        have e19 : a'.tmps.getD 19 undef = .bool false := hd _ 19 (Array.mem_of_getElem? (i := 1) rfl) rfl rfl
                        have e24 : a'.tmps.getD 24 undef = .pointer (some ⟨g1, 1, none⟩) := hd _ 24 (Array.mem_of_getElem? (i := 0) rfl) rfl rfl
                        exact if_does (wanted_by rfl rfl e19 rfl) (Does.vals (r_load e24 (ldb_int (v := .int .i64 m) (o1.below hb) rfl)) ⟨rfl, Below.refl _ _, (fun h => absurd h (by decide))⟩)
                      · intro a' w' hF' hb hd
                        have e19 : a'.tmps.getD 19 undef = .bool false := hd _ 19 (Array.mem_of_getElem? (i := 2) rfl) rfl rfl
                        have e23 : a'.tmps.getD 23 undef = .int .i64 y := hd _ 23 (Array.mem_of_getElem? (i := 0) rfl) rfl rfl
                        have e25 : a'.tmps.getD 25 undef = .int .i64 m := hd _ 25 (Array.mem_of_getElem? (i := 1) rfl) rfl rfl
                        refine if_does (wanted_by rfl rfl e19 rfl) (Does.calls (r_call Tryd.func20 en20.1 en20.2 (map2 e23 e25)) (clenC_any y m _ (hT.below (below_to bel hb))) ?_)
                        rintro e w'' ⟨rfl, bb⟩
                        exact ⟨_, rfl, rfl, bb, (fun h => absurd h (by decide))⟩
                      · intro a' w' hF' hb hd
                        have e19 : a'.tmps.getD 19 undef = .bool false := hd _ 19 (Array.mem_of_getElem? (i := 2) rfl) rfl rfl
                        have e21 : a'.tmps.getD 21 undef = .int .i64 d := hd _ 21 (Array.mem_of_getElem? (i := 0) rfl) rfl rfl
                        have e26 : a'.tmps.getD 26 undef = .int .i64 (mlen (leapC y) m) := hd _ 26 (Array.mem_of_getElem? (i := 1) rfl) rfl rfl
                        exact if_does (wanted_by rfl rfl e19 rfl) (Does.vals (r_bin e21 e26 eg_scalar (bi_int (ic_gtr (c := true) (dec_tt hc6)) (by simp))) ⟨rfl, Below.refl _ _, (fun h => absurd h (by decide))⟩)
                      · intro a' w' hF' hb hd
                        have e19 : a'.tmps.getD 19 undef = .bool false := hd _ 19 (Array.mem_of_getElem? (i := 0) rfl) rfl rfl
                        have e27 : a'.tmps.getD 27 undef = .bool true := hd _ 27 (Array.mem_of_getElem? (i := 1) rfl) rfl rfl
                        exact if_does (wanted_free rfl) (Does.vals (r_pick_f e19 e27) ⟨rfl, Below.refl _ _, (fun h => absurd h (by decide))⟩)
                      · intro a' w' hF' hb hd
                        have e28 : a'.tmps.getD 28 undef = .bool true := hd _ 28 (Array.mem_of_getElem? (i := 0) rfl) rfl rfl
                        exact if_does (wanted_free rfl) (Does.vals (r_assign e28) ⟨rfl, Below.refl _ _, (fun h => absurd h (by decide))⟩)
                      intro a w7 hF bb hall hne
                      have e15 : a.tmps.getD 15 undef = .bool true := hall 13 15 rfl
                      clear hall hne
                      replace o1 := o1.below bb
                      replace bel := below_to bel bb
                      clear bb
                      replace hF := hF.add e15
                      clear e15
                      refine E.nil ?_
                      refine wp_cond_true (hF.at 0 rfl) ?_
                      refine wp_seq ?_
                      refine E.seq ?_
                      refine E.opset (L' := [(2, .int .i64 0), (15, .bool true), (6, .bool false), (14, .bool false), (13, .bool false), (12, .int .i64 y), (11, .pointer (some ⟨g1, 0, none⟩)), (10, .bool false), (9, .bool false), (8, .int .i64 y), (7, .pointer (some ⟨g1, 0, none⟩)), (3, .int .i64 0), (1, .pointer (some ⟨g1, 0, none⟩)), (0, .agg #[.int .i64 y, .int .i64 m, .int .i64 d])]) hF (r_assign ev_c) rfl rfl rfl rfl fun a hF => ?_
                      refine E.opset (L' := [(3, .int .i64 4), (2, .int .i64 0), (15, .bool true), (6, .bool false), (14, .bool false), (13, .bool false), (12, .int .i64 y), (11, .pointer (some ⟨g1, 0, none⟩)), (10, .bool false), (9, .bool false), (8, .int .i64 y), (7, .pointer (some ⟨g1, 0, none⟩)), (1, .pointer (some ⟨g1, 0, none⟩)), (0, .agg #[.int .i64 y, .int .i64 m, .int .i64 d])]) hF (r_assign ev_c) rfl rfl rfl rfl fun a hF => ?_
                      refine E.nil ?_
                      refine wp_ret ?_
                      refine bodyPost_ret (res_tmp2 Tryd.results17 (hF.at 1 rfl) (hF.at 0 rfl)) hF.dfr ?_
                      refine ⟨rv_int2 ?_ ?_, bel⟩
                      · exact (fix_bad (by omega) (by unfold Val; show ¬ (1 ≤ m ∧ m ≤ 12 ∧ 1 ≤ d ∧ d ≤ mlen (leapC y) m); omega)).1
                      · exact (fix_bad (by omega) (by unfold Val; show ¬ (1 ≤ m ∧ m ≤ 12 ∧ 1 ≤ d ∧ d ≤ mlen (leapC y) m); omega)).2)
                 · first
                   | (exfalso; omega)
                   | (refine E.drawn 14 mixed hF [16, 17, 18, 19, 20, 21, 22, 23, 24, 25, 26, 27, 28, 15] [(fun _ v => v = .pointer (some ⟨g1, 2, none⟩)), (fun _ v => v = .int .i64 d), (fun _ v => v = .bool false), (fun _ v => v = .bool false), (fun _ v => v = .pointer (some ⟨g1, 2, none⟩)), (fun _ v => v = .int .i64 d), (fun _ v => v = .pointer (some ⟨g1, 0, none⟩)), (fun _ v => v = .int .i64 y), (fun _ v => v = .pointer (some ⟨g1, 1, none⟩)), (fun _ v => v = .int .i64 m), (fun _ v => v = .int .i64 (mlen (leapC y) m)), (fun _ v => v = .bool false), (fun _ v => v = .bool false), (fun _ v => v = .bool false)] [] (by decide +kernel) (by decide +kernel) rfl rfl rfl ⟨(Mb.eq _), (Mb.eq _), (Mb.eq _), (Mb.eq _), (Mb.eq _), (Mb.eq _), (Mb.eq _), (Mb.eq _), (Mb.eq _), (Mb.eq _), (Mb.eq _), (Mb.eq _), (Mb.eq _), (Mb.eq _), trivial⟩ trivial ⟨?_, ?_, ?_, ?_, ?_, ?_, ?_, ?_, ?_, ?_, ?_, ?_, ?_, ?_, trivial⟩ ?_
                      · intro a' w' hF' hb hd
                        exact if_does (wanted_free rfl) (Does.vals (r_field (hF'.at 11 rfl) (fa_CDate_2 (p := 2) rfl)) ⟨rfl, Below.refl _ _, (fun h => absurd h (by decide))⟩)
                      · intro a' w' hF' hb hd
                        have e16 : a'.tmps.getD 16 undef = .pointer (some ⟨g1, 2, none⟩) := hd _ 16 (Array.mem_of_getElem? (i := 0) rfl) rfl rfl
                        exact if_does (wanted_free rfl) (Does.vals (r_load e16 (ldb_int (v := .int .i64 d) (o1.below hb) rfl)) ⟨rfl, Below.refl _ _, (fun h => absurd h (by decide))⟩)
                      · intro a' w' hF' hb hd
                        have e17 : a'.tmps.getD 17 undef = .int .i64 d := hd _ 17 (Array.mem_of_getElem? (i := 0) rfl) rfl rfl
                        exact if_does (wanted_free rfl) (Does.vals (r_bin e17 ev_c eg_scalar (bi_int (ic_lss (c := false) (dec_ff hc4)) (by simp))) ⟨rfl, Below.refl _ _, (fun h => absurd h (by decide))⟩)
                      · intro a' w' hF' hb hd
                        have e18 : a'.tmps.getD 18 undef = .bool false := hd _ 18 (Array.mem_of_getElem? (i := 0) rfl) rfl rfl
                        exact if_does (wanted_free rfl) (Does.vals (r_move e18) ⟨rfl, Below.refl _ _, (fun h => absurd h (by decide))⟩)
                      · intro a' w' hF' hb hd
                        have e19 : a'.tmps.getD 19 undef = .bool false := hd _ 19 (Array.mem_of_getElem? (i := 0) rfl) rfl rfl
                        exact if_does (wanted_by rfl rfl e19 rfl) (Does.vals (r_field (hF'.at 11 rfl) (fa_CDate_2 (p := 2) rfl)) ⟨rfl, Below.refl _ _, (fun h => absurd h (by decide))⟩)
                      · intro a' w' hF' hb hd
                        have e19 : a'.tmps.getD 19 undef = .bool false := hd _ 19 (Array.mem_of_getElem? (i := 1) rfl) rfl rfl
                        have e20 : a'.tmps.getD 20 undef = .pointer (some ⟨g1, 2, none⟩) := hd _ 20 (Array.mem_of_getElem? (i := 0) rfl) rfl rfl
                        exact if_does (wanted_by rfl rfl e19 rfl) (Does.vals (r_load e20 (ldb_int (v := .int .i64 d) (o1.below hb) rfl)) ⟨rfl, Below.refl _ _, (fun h => absurd h (by decide))⟩)
                      · intro a' w' hF' hb hd
                        have e19 : a'.tmps.getD 19 undef = .bool false := hd _ 19 (Array.mem_of_getElem? (i := 0) rfl) rfl rfl
                        exact if_does (wanted_by rfl rfl e19 rfl) (Does.vals (r_field (hF'.at 11 rfl) (fa_CDate_0 (p := 0) rfl)) ⟨rfl, Below.refl _ _, (fun h => absurd h (by decide))⟩)
                      · intro a' w' hF' hb hd
                        have e19 : a'.tmps.getD 19 undef = .bool false := hd _ 19 (Array.mem_of_getElem? (i := 1) rfl) rfl rfl
                        have e22 : a'.tmps.getD 22 undef = .pointer (some ⟨g1, 0, none⟩) := hd _ 22 (Array.mem_of_getElem? (i := 0) rfl) rfl rfl
                        exact if_does (wanted_by rfl rfl e19 rfl) (Does.vals (r_load e22 (ldb_i64 (v := .int .i64 y) (o1.below hb) rfl)) ⟨rfl, Below.refl _ _, (fun h => absurd h (by decide))⟩)
                      · intro a' w' hF' hb hd
                        have e19 : a'.tmps.getD 19 undef = .bool false := hd _ 19 (Array.mem_of_getElem? (i := 0) rfl) rfl rfl
                        exact if_does (wanted_by rfl rfl e19 rfl) (Does.vals (r_field (hF'.at 11 rfl) (fa_CDate_1 (p := 1) rfl)) ⟨rfl, Below.refl _ _, (fun h => absurd h (by decide))⟩)
                      · intro a' w' hF' hb hd
                        have e19 : a'.tmps.getD 19 undef = .bool false := hd _ 19 (Array.mem_of_getElem? (i := 1) rfl) rfl rfl
                        have e24 : a'.tmps.getD 24 undef = .pointer (some ⟨g1, 1, none⟩) := hd _ 24 (Array.mem_of_getElem? (i := 0) rfl) rfl rfl
                        exact if_does (wanted_by rfl rfl e19 rfl) (Does.vals (r_load e24 (ldb_int (v := .int .i64 m) (o1.below hb) rfl)) ⟨rfl, Below.refl _ _, (fun h => absurd h (by decide))⟩)
                      · intro a' w' hF' hb hd
                        have e19 : a'.tmps.getD 19 undef = .bool false := hd _ 19 (Array.mem_of_getElem? (i := 2) rfl) rfl rfl
                        have e23 : a'.tmps.getD 23 undef = .int .i64 y := hd _ 23 (Array.mem_of_getElem? (i := 0) rfl) rfl rfl
                        have e25 : a'.tmps.getD 25 undef = .int .i64 m := hd _ 25 (Array.mem_of_getElem? (i := 1) rfl) rfl rfl
                        refine if_does (wanted_by rfl rfl e19 rfl) (Does.calls (r_call Tryd.func20 en20.1 en20.2 (map2 e23 e25)) (clenC_any y m _ (hT.below (below_to bel hb))) ?_)
                        rintro e w'' ⟨rfl, bb⟩
                        exact ⟨_, rfl, rfl, bb, (fun h => absurd h (by decide))⟩
                      · intro a' w' hF' hb hd
                        have e19 : a'.tmps.getD 19 undef = .bool false := hd _ 19 (Array.mem_of_getElem? (i := 2) rfl) rfl rfl
                        have e21 : a'.tmps.getD 21 undef = .int .i64 d := hd _ 21 (Array.mem_of_getElem? (i := 0) rfl) rfl rfl
                        have e26 : a'.tmps.getD 26 undef = .int .i64 (mlen (leapC y) m) := hd _ 26 (Array.mem_of_getElem? (i := 1) rfl) rfl rfl
                        exact if_does (wanted_by rfl rfl e19 rfl) (Does.vals (r_bin e21 e26 eg_scalar (bi_int (ic_gtr (c := false) (dec_ff hc6)) (by simp))) ⟨rfl, Below.refl _ _, (fun h => absurd h (by decide))⟩)
                      · intro a' w' hF' hb hd
                        have e19 : a'.tmps.getD 19 undef = .bool false := hd _ 19 (Array.mem_of_getElem? (i := 0) rfl) rfl rfl
                        have e27 : a'.tmps.getD 27 undef = .bool false := hd _ 27 (Array.mem_of_getElem? (i := 1) rfl) rfl rfl
                        exact if_does (wanted_free rfl) (Does.vals (r_pick_f e19 e27) ⟨rfl, Below.refl _ _, (fun h => absurd h (by decide))⟩)
                      · intro a' w' hF' hb hd
                        have e28 : a'.tmps.getD 28 undef = .bool false := hd _ 28 (Array.mem_of_getElem? (i := 0) rfl) rfl rfl
                        exact if_does (wanted_free rfl) (Does.vals (r_assign e28) ⟨rfl, Below.refl _ _, (fun h => absurd h (by decide))⟩)
                      intro a w8 hF bb hall hne
                      have e15 : a.tmps.getD 15 undef = .bool false := hall 13 15 rfl
                      clear hall hne
                      replace o1 := o1.below bb
                      replace bel := below_to bel bb
                      clear bb
                      replace hF := hF.add e15
                      clear e15
                      refine E.nil ?_
                      refine wp_cond_false (hF.at 0 rfl) ?_
                      refine wp_skip ?_
                      refine E.blk ?_
                      refine E.norm ?_
                      refine wp_seq ?_
                      refine E.drawn 8 mixed hF [29, 30, 31, 32, 33, 34, 35, 4] [(fun _ v => v = .pointer (some ⟨g1, 0, none⟩)), (fun _ v => v = .int .i64 y), (fun _ v => v = .int .i64 (firstC y)), (fun _ v => v = .pointer (some ⟨g1, 2, none⟩)), (fun _ v => v = .int .i64 d), (fun _ v => v = .int .i64 (d - 1)), (fun _ v => v = .int .i64 ((firstC y) + (d - 1))), (fun _ v => v = .int .i64 ((firstC y) + (d - 1)))] [] (by decide +kernel) (by decide +kernel) rfl rfl rfl ⟨(Mb.eq _), (Mb.eq _), (Mb.eq _), (Mb.eq _), (Mb.eq _), (Mb.eq _), (Mb.eq _), (Mb.eq _), trivial⟩ trivial ⟨?_, ?_, ?_, ?_, ?_, ?_, ?_, ?_, trivial⟩ ?_
                      · intro a' w' hF' hb hd
                        exact if_does (wanted_free rfl) (Does.vals (r_field (hF'.at 12 rfl) (fa_CDate_0 (p := 0) rfl)) ⟨rfl, Below.refl _ _, (fun h => absurd h (by decide))⟩)
                      · intro a' w' hF' hb hd
                        have e29 : a'.tmps.getD 29 undef = .pointer (some ⟨g1, 0, none⟩) := hd _ 29 (Array.mem_of_getElem? (i := 0) rfl) rfl rfl
                        exact if_does (wanted_free rfl) (Does.vals (r_load e29 (ldb_i64 (v := .int .i64 y) (o1.below hb) rfl)) ⟨rfl, Below.refl _ _, (fun h => absurd h (by decide))⟩)
                      · intro a' w' hF' hb hd
                        have e30 : a'.tmps.getD 30 undef = .int .i64 y := hd _ 30 (Array.mem_of_getElem? (i := 0) rfl) rfl rfl
                        refine if_does (wanted_free rfl) (Does.calls (r_call Tryd.func40 en40.1 en40.2 (map1 e30)) (cfirstC_any y _ (by omega) (by omega)) ?_)
                        rintro e w'' ⟨rfl, bb⟩
                        exact ⟨_, rfl, rfl, bb, (fun h => absurd h (by decide))⟩
                      · intro a' w' hF' hb hd
                        exact if_does (wanted_free rfl) (Does.vals (r_field (hF'.at 12 rfl) (fa_CDate_2 (p := 2) rfl)) ⟨rfl, Below.refl _ _, (fun h => absurd h (by decide))⟩)
                      · intro a' w' hF' hb hd
                        have e32 : a'.tmps.getD 32 undef = .pointer (some ⟨g1, 2, none⟩) := hd _ 32 (Array.mem_of_getElem? (i := 0) rfl) rfl rfl
                        exact if_does (wanted_free rfl) (Does.vals (r_load e32 (ldb_int (v := .int .i64 d) (o1.below hb) rfl)) ⟨rfl, Below.refl _ _, (fun h => absurd h (by decide))⟩)
                      · intro a' w' hF' hb hd
                        have e33 : a'.tmps.getD 33 undef = .int .i64 d := hd _ 33 (Array.mem_of_getElem? (i := 0) rfl) rfl rfl
                        exact if_does (wanted_free rfl) (Does.vals (r_bin e33 ev_c eg_scalar (ia_sub (by omega) (by omega))) ⟨rfl, Below.refl _ _, (fun h => absurd h (by decide))⟩)
                      · intro a' w' hF' hb hd
                        have e31 : a'.tmps.getD 31 undef = .int .i64 (firstC y) := hd _ 31 (Array.mem_of_getElem? (i := 0) rfl) rfl rfl
                        have hfb := firstC_bd (y := y) (by omega) (by omega)
                        have e34 : a'.tmps.getD 34 undef = .int .i64 (d - 1) := hd _ 34 (Array.mem_of_getElem? (i := 1) rfl) rfl rfl
                        exact if_does (wanted_free rfl) (Does.vals (r_bin e31 e34 eg_scalar (ia_add (by omega) (by omega))) ⟨rfl, Below.refl _ _, (fun h => absurd h (by decide))⟩)
                      · intro a' w' hF' hb hd
                        have e35 : a'.tmps.getD 35 undef = .int .i64 ((firstC y) + (d - 1)) := hd _ 35 (Array.mem_of_getElem? (i := 0) rfl) rfl rfl
                        exact if_does (wanted_free rfl) (Does.vals (r_assign e35) ⟨rfl, Below.refl _ _, (fun h => absurd h (by decide))⟩)
                      intro a w9 hF bb hall hne
                      have e4 : a.tmps.getD 4 undef = .int .i64 ((firstC y) + (d - 1)) := hall 7 4 rfl
                      clear hall hne
                      replace o1 := o1.below bb
                      replace bel := below_to bel bb
                      clear bb
                      replace hF := hF.add e4
                      clear e4
                      refine E.nil ?_
                      refine wp_seq ?_
                      refine wp_seq ?_
                      refine E.seq ?_
                      refine E.opv hF (r_assign ev_c) rfl rfl rfl rfl fun a hF => ?_
                      refine E.nil ?_
                      refine wp_block ?_
                      refine E.loop (fun mq a wv => ∃ (n : Int) (k : Int), 1 ≤ k ∧ k ≤ m ∧ n = firstC y + (d - 1) + cum (leapC y) k ∧ Fr 52 a [(5, .int .i64 k), (4, .int .i64 n), (3, .int .i64 0), (2, .int .i64 0), (1, .pointer (some ⟨g1, 0, none⟩))] ∧ Below w9.heap.size w9 wv ∧ Below w.heap.size w wv ∧ mq = (m - k : Int).toNat) ((m - (1) : Int).toNat) ?_ ?_
                      · exact ⟨((firstC y) + (d - 1) : Int), (1 : Int), (by omega), ((mlen_in (l := leapC y) (m := m) (by omega)).1), (by rw [cum_one]; omega), hF.sub (by intro p hp; simp only [List.mem_cons, List.not_mem_nil, or_false] at hp ⊢; rcases hp with rfl | rfl | rfl | rfl | rfl <;> simp), Below.refl _ _, bel, rfl⟩
                      · rintro mq a w10 ⟨n, k, hk1, hk2, hn, hF, sty, bel, hm⟩
                        replace o1 := o1.below sty
                        have hm2 := mlen_in (l := leapC y) (m := m) (by omega)
                        have hcb := cum_bd (leapC y) (m := k) hk1 (by omega)
                        have hmb := mlen_bd (leapC y) k
                        have hmd := mlen_bd (leapC y) m
                        have hfb := firstC_bd (y := y) (by omega) (by omega)
                        refine wp_seq ?_
                        refine wp_seq ?_
                        refine E.seq ?_
                        refine E.opv hF (r_move (hF.at 0 rfl)) rfl rfl rfl rfl fun a hF => ?_
                        refine E.opv hF (r_field (hF.at 5 rfl) (fa_CDate_1 (p := 1) rfl)) rfl rfl rfl rfl fun a hF => ?_
                        refine E.opv hF (r_load (hF.at 0 rfl) (ldb_int (v := .int .i64 m) o1 rfl)) rfl rfl rfl rfl fun a hF => ?_
                        by_cases hc11 : k < m
                        · first
                          | (exfalso; omega)
                          | (refine E.opv hF (r_bin (hF.at 2 rfl) (hF.at 0 rfl) eg_scalar (bi_int (ic_lss (c := true) (dec_tt hc11)) (by simp))) rfl rfl rfl rfl fun a hF => ?_
                             refine E.nil ?_
                             refine wp_cond_true (hF.at 0 rfl) ?_
                             refine wp_skip ?_
                             refine E.norm ?_
                             refine wp_seq ?_
                             refine wp_block ?_
                             refine E.seq ?_
                             refine E.opv hF (r_move (hF.at 5 rfl)) rfl rfl rfl rfl fun a hF => ?_
                             refine E.opv hF (r_field (hF.at 9 rfl) (fa_CDate_0 (p := 0) rfl)) rfl rfl rfl rfl fun a hF => ?_
                             refine E.opv hF (r_load (hF.at 0 rfl) (ldb_i64 (v := .int .i64 y) o1 rfl)) rfl rfl rfl rfl fun a hF => ?_
                             refine E.opv hF (r_move (hF.at 7 rfl)) rfl rfl rfl rfl fun a hF => ?_
                             refine E.call hF (r_call Tryd.func20 en20.1 en20.2 (map2 (hF.at 1 rfl) (hF.at 0 rfl))) (clenC_any y k _ (hT.below bel)) rfl rfl rfl rfl ?_
                             rintro e w12 ⟨rfl, bb⟩
                             refine ⟨_, rfl, ?_⟩
                             intro a hF
                             replace o1 := o1.below bb
                             replace bel := below_to bel bb
                             replace sty := below_to sty bb
                             clear bb
                             refine E.opv hF (r_bin (hF.at 4 rfl) (hF.at 0 rfl) eg_scalar (ia_add (by omega) (by omega))) rfl rfl rfl rfl fun a hF => ?_
                             refine E.opset (L' := [(4, .int .i64 (n + (mlen (leapC y) k))), (47, .int .i64 (n + (mlen (leapC y) k))), (46, .int .i64 (mlen (leapC y) k)), (45, .int .i64 k), (44, .int .i64 y), (43, .pointer (some ⟨g1, 0, none⟩)), (42, .int .i64 n), (39, .bool true), (38, .int .i64 m), (37, .pointer (some ⟨g1, 1, none⟩)), (36, .int .i64 k), (5, .int .i64 k), (3, .int .i64 0), (2, .int .i64 0), (1, .pointer (some ⟨g1, 0, none⟩))]) hF (r_assign (hF.at 0 rfl)) rfl rfl rfl rfl fun a hF => ?_
                             refine E.nil0 ?_
                             refine E.blk ?_
                             refine E.norm ?_
                             refine E.seq ?_
                             refine E.opv hF (r_move (hF.at 11 rfl)) rfl rfl rfl rfl fun a hF => ?_
                             refine E.opv hF (r_bin (hF.at 0 rfl) ev_c eg_scalar (ia_add (by omega) (by omega))) rfl rfl rfl rfl fun a hF => ?_
                             refine E.opset (L' := [(5, .int .i64 (k + 1)), (41, .int .i64 (k + 1)), (40, .int .i64 k), (4, .int .i64 (n + (mlen (leapC y) k))), (47, .int .i64 (n + (mlen (leapC y) k))), (46, .int .i64 (mlen (leapC y) k)), (45, .int .i64 k), (44, .int .i64 y), (43, .pointer (some ⟨g1, 0, none⟩)), (42, .int .i64 n), (39, .bool true), (38, .int .i64 m), (37, .pointer (some ⟨g1, 1, none⟩)), (36, .int .i64 k), (3, .int .i64 0), (2, .int .i64 0), (1, .pointer (some ⟨g1, 0, none⟩))]) hF (r_assign (hF.at 0 rfl)) rfl rfl rfl rfl fun a hF => ?_
                             refine E.nil0 ?_
                             refine E.norm ?_
                             exact ⟨(m - (k + 1) : Int).toNat, by omega, ⟨(n + (mlen (leapC y) k) : Int), (k + 1 : Int), (by omega), (by omega), (by have := cum_step (leapC y) (m := k) hk1 (by omega); omega), Fr.sub (L' := [(5, .int .i64 (k + 1)), (4, .int .i64 (n + (mlen (leapC y) k))), (3, .int .i64 0), (2, .int .i64 0), (1, .pointer (some ⟨g1, 0, none⟩))]) hF (by intro p hp; simp only [List.mem_cons, List.not_mem_nil, or_false] at hp ⊢; rcases hp with rfl | rfl | rfl | rfl | rfl <;> simp), sty, bel, rfl⟩⟩)
                        · first
                          | (exfalso; omega)
                          | (refine E.opv hF (r_bin (hF.at 2 rfl) (hF.at 0 rfl) eg_scalar (bi_int (ic_lss (c := false) (dec_ff hc11)) (by simp))) rfl rfl rfl rfl fun a hF => ?_
                             refine E.nil ?_
                             refine wp_cond_false (hF.at 0 rfl) ?_
                             refine wp_exit ?_
                             refine E.past ?_
                             refine E.past ?_
                             refine E.out (id := 1) ?_
                             refine E.norm ?_
                             refine wp_seq ?_
                             refine wp_seq ?_
                             refine E.seq ?_
                             refine E.opv hF (r_move (hF.at 5 rfl)) rfl rfl rfl rfl fun a hF => ?_
                             refine E.call hF (r_call Tryd.func38 en38.1 en38.2 (map1 (hF.at 0 rfl))) (cmayC_any n _) rfl rfl rfl rfl ?_
                             rintro e w13 ⟨rfl, bb⟩
                             refine ⟨_, rfl, ?_⟩
                             intro a hF
                             replace bel := below_to bel bb
                             clear bb
                             by_cases hc14 : mayB n = true
                             · first
                               | (exfalso; omega)
                               | (refine E.opv hF (r_un (Eq.trans (hF.at 0 rfl) (congrArg Value.bool hc14)) (bn_not _ false rfl)) rfl rfl rfl rfl fun a hF => ?_
                                  refine E.nil ?_
                                  refine wp_cond_false (hF.at 0 rfl) ?_
                                  refine wp_skip ?_
                                  refine E.norm ?_
                                  refine wp_seq ?_
                                  refine E.seq ?_
                                  refine E.opv hF (r_move (hF.at 8 rfl)) rfl rfl rfl rfl fun a hF => ?_
                                  refine E.opset (L' := [(2, .int .i64 n), (51, .int .i64 n), (50, .bool false), (49, .bool (mayB n)), (48, .int .i64 n), (39, .bool false), (38, .int .i64 m), (37, .pointer (some ⟨g1, 1, none⟩)), (36, .int .i64 k), (5, .int .i64 k), (4, .int .i64 n), (3, .int .i64 0), (1, .pointer (some ⟨g1, 0, none⟩))]) hF (r_assign (hF.at 0 rfl)) rfl rfl rfl rfl fun a hF => ?_
                                  refine E.opset (L' := [(3, .int .i64 0), (2, .int .i64 n), (51, .int .i64 n), (50, .bool false), (49, .bool (mayB n)), (48, .int .i64 n), (39, .bool false), (38, .int .i64 m), (37, .pointer (some ⟨g1, 1, none⟩)), (36, .int .i64 k), (5, .int .i64 k), (4, .int .i64 n), (1, .pointer (some ⟨g1, 0, none⟩))]) hF (r_assign ev_c) rfl rfl rfl rfl fun a hF => ?_
                                  refine E.nil ?_
                                  refine wp_ret ?_
                                  refine bodyPost_ret (res_tmp2 Tryd.results17 (hF.at 1 rfl) (hF.at 0 rfl)) hF.dfr ?_
                                  have hkm : k = m := by omega
                                  subst hkm
                                  have hday : n = calC.day y k d := by rw [hn]; show _ = firstC y + cum (leapC y) k + d - 1; omega
                                  have hval : Val (calC.leap y) k d := ⟨hk1, hm2.2, by omega, by show d ≤ mlen (leapC y) k; omega⟩
                                  refine ⟨rv_int2 ?_ ?_, bel⟩
                                  · exact hday.trans (fix_ok (by omega) hval (by rw [← hday]; first | assumption | simp_all)).1
                                  · exact (fix_ok (by omega) hval (by rw [← hday]; first | assumption | simp_all)).2)
                             · first
                               | (exfalso; omega)
                               | (refine E.opv hF (r_un (Eq.trans (hF.at 0 rfl) (congrArg Value.bool (eq_false_of_ne_true hc14))) (bn_not _ true rfl)) rfl rfl rfl rfl fun a hF => ?_
                                  refine E.nil ?_
                                  refine wp_cond_true (hF.at 0 rfl) ?_
                                  refine wp_seq ?_
                                  refine E.seq ?_
                                  refine E.opset (L' := [(2, .int .i64 0), (50, .bool true), (49, .bool (mayB n)), (48, .int .i64 n), (39, .bool false), (38, .int .i64 m), (37, .pointer (some ⟨g1, 1, none⟩)), (36, .int .i64 k), (5, .int .i64 k), (4, .int .i64 n), (3, .int .i64 0), (1, .pointer (some ⟨g1, 0, none⟩))]) hF (r_assign ev_c) rfl rfl rfl rfl fun a hF => ?_
                                  refine E.opset (L' := [(3, .int .i64 2), (2, .int .i64 0), (50, .bool true), (49, .bool (mayB n)), (48, .int .i64 n), (39, .bool false), (38, .int .i64 m), (37, .pointer (some ⟨g1, 1, none⟩)), (36, .int .i64 k), (5, .int .i64 k), (4, .int .i64 n), (1, .pointer (some ⟨g1, 0, none⟩))]) hF (r_assign ev_c) rfl rfl rfl rfl fun a hF => ?_
                                  refine E.nil ?_
                                  refine wp_ret ?_
                                  refine bodyPost_ret (res_tmp2 Tryd.results17 (hF.at 1 rfl) (hF.at 0 rfl)) hF.dfr ?_
                                  have hkm : k = m := by omega
                                  subst hkm
                                  have hday : n = calC.day y k d := by rw [hn]; show _ = firstC y + cum (leapC y) k + d - 1; omega
                                  have hval : Val (calC.leap y) k d := ⟨hk1, hm2.2, by omega, by show d ≤ mlen (leapC y) k; omega⟩
                                  refine ⟨rv_int2 ?_ ?_, bel⟩
                                  · exact (fix_far (by omega) hval (by rw [← hday]; first | assumption | exact eq_false_of_ne_true (by assumption))).1
                                  · exact (fix_far (by omega) hval (by rw [← hday]; first | assumption | exact eq_false_of_ne_true (by assumption))).2))))))

set_option maxHeartbeats 8000000 in
theorem cofC_any (n : Int) (w : World) (hT : TabC w) (hmay : mayB n = true) :
    Calls Tryd.prog 15 #[.int .i64 n] w (fun e w' => ∃ y mo d, e = .returned (.tuple #[.agg #[.int .i64 y, .int .i64 mo, .int .i64 d], .int .i64 0]) ∧ Val (leapC y) mo d ∧ calC.day y mo d = n ∧ Below w.heap.size w w') := by
  have hmay1 := mayB_of hmay
  have hyb := yearC_bd hmay1.1 hmay1.2
  have hyi := yearC_in n
  have bel : Below w.heap.size w w := Below.refl _ _
  refine E.enter (nt := 34) (L := [(0, .int .i64 n)]) Tryd.func15 rfl rfl rfl (args_cons (i := 0) rfl args_nil) ?_
  intro a hF
  refine wp_seq ?_
  refine E.seq ?_
  obtain ⟨g2, w1, ge2, hr, bb, o2⟩ := blk_alloc (P := Tryd.prog) (w := w) (cs := [.int .i64 0, .int .i64 0, .int .i64 0]) 24 ze_CDate rfl
  replace ge2 : w.heap.size ≤ g2 := by rw [← ge2]; exact bel.size
  refine E.opv hF (r_alloc hr) rfl rfl rfl rfl fun a hF => ?_
  clear hr
  replace bel := below_to bel bb
  clear bb
  refine E.opv hF (r_assign ev_c) rfl rfl rfl rfl fun a hF => ?_
  refine E.nil ?_
  refine wp_seq ?_
  refine wp_seq ?_
  refine E.seq ?_
  refine E.opv hF (r_move (hF.at 2 rfl)) rfl rfl rfl rfl fun a hF => ?_
  refine E.call hF (r_call Tryd.func38 en38.1 en38.2 (map1 (hF.at 0 rfl))) (cmayC_any n _) rfl rfl rfl rfl ?_
  rintro e w2 ⟨rfl, bb⟩
  refine ⟨_, rfl, ?_⟩
  intro a hF
  replace o2 := o2.below bb
  replace bel := below_to bel bb
  clear bb
  refine E.opv hF (r_un (Eq.trans (hF.at 0 rfl) (congrArg Value.bool hmay)) (bn_not _ false rfl)) rfl rfl rfl rfl fun a hF => ?_
  refine E.nil ?_
  refine wp_cond_false (hF.at 0 rfl) ?_
  refine wp_skip ?_
  refine E.norm ?_
  refine wp_seq ?_
  refine E.seq ?_
  refine E.opv hF (r_move (hF.at 5 rfl)) rfl rfl rfl rfl fun a hF => ?_
  refine E.call hF (r_call Tryd.func39 en39.1 en39.2 (map1 (hF.at 0 rfl))) (cyearC_any n _ (by omega) (by omega)) rfl rfl rfl rfl ?_
  rintro e w3 ⟨rfl, bb⟩
  refine ⟨_, rfl, ?_⟩
  intro a hF
  have hyb := yearC_bd (n := n) (by omega) (by omega)
  have hyi := yearC_in n
  replace o2 := o2.below bb
  replace bel := below_to bel bb
  clear bb
  refine E.opv hF (r_assign (hF.at 0 rfl)) rfl rfl rfl rfl fun a hF => ?_
  refine E.opv hF (r_assign ev_c) rfl rfl rfl rfl fun a hF => ?_
  refine E.nil ?_
  refine wp_seq ?_
  refine E.seq ?_
  refine E.opv hF (r_move (hF.at 9 rfl)) rfl rfl rfl rfl fun a hF => ?_
  refine E.opv hF (r_move (hF.at 2 rfl)) rfl rfl rfl rfl fun a hF => ?_
  refine E.call hF (r_call Tryd.func40 en40.1 en40.2 (map1 (hF.at 0 rfl))) (cfirstC_any (yearC n) _ (by omega) (by omega)) rfl rfl rfl rfl ?_
  rintro e w4 ⟨rfl, bb⟩
  refine ⟨_, rfl, ?_⟩
  intro a hF
  have hfb := firstC_bd (y := yearC n) (by omega) (by omega)
  replace o2 := o2.below bb
  replace bel := below_to bel bb
  clear bb
  refine E.opv hF (r_bin (hF.at 2 rfl) (hF.at 0 rfl) eg_scalar (ia_sub (by omega) (by omega))) rfl rfl rfl rfl fun a hF => ?_
  refine E.opv hF (r_assign (hF.at 0 rfl)) rfl rfl rfl rfl fun a hF => ?_
  refine E.nil ?_
  refine wp_seq ?_
  refine wp_block ?_
  refine E.loop (fun mq a wv => ∃ (k : Int) (r : Int), 1 ≤ k ∧ k ≤ 12 ∧ r = n - firstC (yearC n) - cum (leapC (yearC n)) k ∧ 0 ≤ r ∧ Fr 34 a [(6, .int .i64 r), (5, .int .i64 k), (4, .int .i64 (yearC n)), (3, .int .i64 0), (2, .pointer (some ⟨g2, 0, none⟩))] ∧ Below w4.heap.size w4 wv ∧ Below w.heap.size w wv ∧ mq = (13 - k : Int).toNat) ((13 - (1) : Int).toNat) ?_ ?_
  · exact ⟨(1 : Int), (n - (firstC (yearC n)) : Int), (by omega), (by omega), (by rw [cum_one]; omega), (by omega), hF.sub (by intro p hp; simp only [List.mem_cons, List.not_mem_nil, or_false] at hp ⊢; rcases hp with rfl | rfl | rfl | rfl | rfl <;> simp), Below.refl _ _, bel, rfl⟩
  · rintro mq a w5 ⟨k, r, hk1, hk2, hr, hr0, hF, sty, bel, hm⟩
    replace o2 := o2.below sty
    have hcb := cum_bd (leapC (yearC n)) (m := k) hk1 (by omega)
    have hmb := mlen_bd (leapC (yearC n)) k
    have hfb := firstC_bd (y := yearC n) (by omega) (by omega)
    have hce := cum_end (leapC (yearC n))
    have hst := stepC (yearC n)
    have hcs := cum_step (leapC (yearC n)) (m := k) hk1 (by omega)
    have hk12 : mlen (leapC (yearC n)) k ≤ r → k + 1 ≤ 12 := by
      intro hh
      by_cases e : k = 12
      · exfalso
        subst e
        rw [show ((12 : Int) + 1) = 13 from rfl, hce] at hcs
        omega
      · omega
    refine wp_seq ?_
    refine wp_seq ?_
    refine E.seq ?_
    refine E.opv hF (r_move (hF.at 0 rfl)) rfl rfl rfl rfl fun a hF => ?_
    refine E.opv hF (r_move (hF.at 3 rfl)) rfl rfl rfl rfl fun a hF => ?_
    refine E.opv hF (r_move (hF.at 3 rfl)) rfl rfl rfl rfl fun a hF => ?_
    refine E.call hF (r_call Tryd.func20 en20.1 en20.2 (map2 (hF.at 1 rfl) (hF.at 0 rfl))) (clenC_any (yearC n) k _ (hT.below bel)) rfl rfl rfl rfl ?_
    rintro e w6 ⟨rfl, bb⟩
    refine ⟨_, rfl, ?_⟩
    intro a hF
    replace o2 := o2.below bb
    replace bel := below_to bel bb
    replace sty := below_to sty bb
    clear bb
    by_cases hc7 : mlen (leapC (yearC n)) k ≤ r
    · first
      | (exfalso; omega)
      | (refine E.opv hF (r_bin (hF.at 3 rfl) (hF.at 0 rfl) eg_scalar (bi_int (ic_geq (c := true) (dec_tt hc7)) (by simp))) rfl rfl rfl rfl fun a hF => ?_
         refine E.nil ?_
         refine wp_cond_true (hF.at 0 rfl) ?_
         refine wp_skip ?_
         refine E.norm ?_
         refine wp_block ?_
         refine wp_seq ?_
         refine E.seq ?_
         refine E.opv hF (r_move (hF.at 5 rfl)) rfl rfl rfl rfl fun a hF => ?_
         refine E.opv hF (r_move (hF.at 8 rfl)) rfl rfl rfl rfl fun a hF => ?_
         refine E.opv hF (r_move (hF.at 8 rfl)) rfl rfl rfl rfl fun a hF => ?_
         refine E.call hF (r_call Tryd.func20 en20.1 en20.2 (map2 (hF.at 1 rfl) (hF.at 0 rfl))) (clenC_any (yearC n) k _ (hT.below bel)) rfl rfl rfl rfl ?_
         rintro e w8 ⟨rfl, bb⟩
         refine ⟨_, rfl, ?_⟩
         intro a hF
         replace o2 := o2.below bb
         replace bel := below_to bel bb
         replace sty := below_to sty bb
         clear bb
         refine E.opv hF (r_bin (hF.at 3 rfl) (hF.at 0 rfl) eg_scalar (ia_sub (by omega) (by omega))) rfl rfl rfl rfl fun a hF => ?_
         refine E.opset (L' := [(6, .int .i64 (r - (mlen (leapC (yearC n)) k))), (26, .int .i64 (r - (mlen (leapC (yearC n)) k))), (25, .int .i64 (mlen (leapC (yearC n)) k)), (24, .int .i64 k), (23, .int .i64 (yearC n)), (22, .int .i64 r), (21, .bool true), (20, .int .i64 (mlen (leapC (yearC n)) k)), (19, .int .i64 k), (18, .int .i64 (yearC n)), (17, .int .i64 r), (5, .int .i64 k), (4, .int .i64 (yearC n)), (3, .int .i64 0), (2, .pointer (some ⟨g2, 0, none⟩))]) hF (r_assign (hF.at 0 rfl)) rfl rfl rfl rfl fun a hF => ?_
         refine E.nil ?_
         refine E.seq ?_
         refine E.opv hF (r_move (hF.at 11 rfl)) rfl rfl rfl rfl fun a hF => ?_
         refine E.opv hF (r_bin (hF.at 0 rfl) ev_c eg_scalar (ia_add (by omega) (by omega))) rfl rfl rfl rfl fun a hF => ?_
         refine E.opset (L' := [(5, .int .i64 (k + 1)), (28, .int .i64 (k + 1)), (27, .int .i64 k), (6, .int .i64 (r - (mlen (leapC (yearC n)) k))), (26, .int .i64 (r - (mlen (leapC (yearC n)) k))), (25, .int .i64 (mlen (leapC (yearC n)) k)), (24, .int .i64 k), (23, .int .i64 (yearC n)), (22, .int .i64 r), (21, .bool true), (20, .int .i64 (mlen (leapC (yearC n)) k)), (19, .int .i64 k), (18, .int .i64 (yearC n)), (17, .int .i64 r), (4, .int .i64 (yearC n)), (3, .int .i64 0), (2, .pointer (some ⟨g2, 0, none⟩))]) hF (r_assign (hF.at 0 rfl)) rfl rfl rfl rfl fun a hF => ?_
         refine E.nil0 ?_
         refine E.blk ?_
         refine E.norm ?_
         exact ⟨(13 - (k + 1) : Int).toNat, by omega, ⟨(k + 1 : Int), (r - (mlen (leapC (yearC n)) k) : Int), (by omega), (hk12 (by omega)), (by have := cum_step (leapC (yearC n)) (m := k) hk1 (by omega); omega), (by omega), Fr.sub (L' := [(6, .int .i64 (r - (mlen (leapC (yearC n)) k))), (5, .int .i64 (k + 1)), (4, .int .i64 (yearC n)), (3, .int .i64 0), (2, .pointer (some ⟨g2, 0, none⟩))]) hF (by intro p hp; simp only [List.mem_cons, List.not_mem_nil, or_false] at hp ⊢; rcases hp with rfl | rfl | rfl | rfl | rfl <;> simp), sty, bel, rfl⟩⟩)
    · first
      | (exfalso; omega)
      | (refine E.opv hF (r_bin (hF.at 3 rfl) (hF.at 0 rfl) eg_scalar (bi_int (ic_geq (c := false) (dec_ff hc7)) (by simp))) rfl rfl rfl rfl fun a hF => ?_
         refine E.nil ?_
         refine wp_cond_false (hF.at 0 rfl) ?_
         refine wp_exit ?_
         refine E.past ?_
         refine E.past ?_
         refine E.out (id := 0) ?_
         refine E.norm ?_
         refine wp_seq ?_
         refine E.seq ?_
         refine E.opv hF (r_move (hF.at 7 rfl)) rfl rfl rfl rfl fun a hF => ?_
         refine E.opv hF (r_move (hF.at 7 rfl)) rfl rfl rfl rfl fun a hF => ?_
         refine E.opv hF (r_move (hF.at 7 rfl)) rfl rfl rfl rfl fun a hF => ?_
         refine E.opv hF (r_bin (hF.at 0 rfl) ev_c eg_scalar (ia_add (by omega) (by omega))) rfl rfl rfl rfl fun a hF => ?_
         refine E.opv hF (r_build (pair3 (hF.at 3 rfl) (hF.at 2 rfl) (hF.at 0 rfl)) (bd_CDate_012 _ _ _ _)) rfl rfl rfl rfl fun a hF => ?_
         obtain ⟨w9, hr, tu, on⟩ := stb_CDate (vs := [.int .i64 (yearC n), .int .i64 k, .int .i64 (r + 1)]) o2 rfl rfl (ocI (ocI (ocI oc0))) (o := 0) rfl
         refine E.st hF (r_store (hF.at 14 rfl) (hF.at 0 rfl) (hr _ rfl)) rfl rfl fun a hF => ?_
         clear hr
         replace bel := tu.below bel ge2
         clear tu
         replace o2 := on
         clear on
         refine E.opset (L' := [(3, .int .i64 0), (33, .agg #[.int .i64 (yearC n), .int .i64 k, .int .i64 (r + 1)]), (32, .int .i64 (r + 1)), (31, .int .i64 r), (30, .int .i64 k), (29, .int .i64 (yearC n)), (21, .bool false), (20, .int .i64 (mlen (leapC (yearC n)) k)), (19, .int .i64 k), (18, .int .i64 (yearC n)), (17, .int .i64 r), (6, .int .i64 r), (5, .int .i64 k), (4, .int .i64 (yearC n)), (2, .pointer (some ⟨g2, 0, none⟩))]) hF (r_assign ev_c) rfl rfl rfl rfl fun a hF => ?_
         refine E.nil ?_
         refine wp_ret ?_
         refine bodyPost_ret (res_celltmp Tryd.results15 (hF.at 14 rfl) (ldb_CDate (vs := [.int .i64 (yearC n), .int .i64 k, .int .i64 (r + 1)]) o2 rfl rfl) (hF.at 0 rfl)) hF.dfr ?_
         have hvd : Val (leapC (yearC n)) k (r + 1) := ⟨hk1, hk2, by omega, by omega⟩
         exact ⟨_, _, _, rfl, hvd, by show firstC (yearC n) + cum (leapC (yearC n)) k + (r + 1) - 1 = n; omega, bel⟩)

set_option maxHeartbeats 1000000 in
theorem cofxC_any (n : Int) (w : World) (hT : TabC w) (hmay : mayB n = false) :
    Calls Tryd.prog 15 #[.int .i64 n] w (ValPost w (.tuple #[.agg #[.int .i64 0, .int .i64 0, .int .i64 0], .int .i64 2])) := by
  have bel : Below w.heap.size w w := Below.refl _ _
  refine E.enter (nt := 34) (L := [(0, .int .i64 n)]) Tryd.func15 rfl rfl rfl (args_cons (i := 0) rfl args_nil) ?_
  intro a hF
  refine wp_seq ?_
  refine E.seq ?_
  obtain ⟨g2, w1, ge2, hr, bb, o2⟩ := blk_alloc (P := Tryd.prog) (w := w) (cs := [.int .i64 0, .int .i64 0, .int .i64 0]) 24 ze_CDate rfl
  replace ge2 : w.heap.size ≤ g2 := by rw [← ge2]; exact bel.size
  refine E.opv hF (r_alloc hr) rfl rfl rfl rfl fun a hF => ?_
  clear hr
  replace bel := below_to bel bb
  clear bb
  refine E.opv hF (r_assign ev_c) rfl rfl rfl rfl fun a hF => ?_
  refine E.nil ?_
  refine wp_seq ?_
  refine wp_seq ?_
  refine E.seq ?_
  refine E.opv hF (r_move (hF.at 2 rfl)) rfl rfl rfl rfl fun a hF => ?_
  refine E.call hF (r_call Tryd.func38 en38.1 en38.2 (map1 (hF.at 0 rfl))) (cmayC_any n _) rfl rfl rfl rfl ?_
  rintro e w2 ⟨rfl, bb⟩
  refine ⟨_, rfl, ?_⟩
  intro a hF
  replace o2 := o2.below bb
  replace bel := below_to bel bb
  clear bb
  refine E.opv hF (r_un (Eq.trans (hF.at 0 rfl) (congrArg Value.bool hmay)) (bn_not _ true rfl)) rfl rfl rfl rfl fun a hF => ?_
  refine E.nil ?_
  refine wp_cond_true (hF.at 0 rfl) ?_
  refine wp_seq ?_
  refine E.seq ?_
  refine E.opv hF (r_build (by simp) (bd_CDate_ _)) rfl rfl rfl rfl fun a hF => ?_
  obtain ⟨w3, hr, tu, on⟩ := stb_CDate (vs := [.int .i64 0, .int .i64 0, .int .i64 0]) o2 rfl rfl (ocI (ocI (ocI oc0))) (o := 0) rfl
  refine E.st hF (r_store (hF.at 5 rfl) (hF.at 0 rfl) (hr _ rfl)) rfl rfl fun a hF => ?_
  clear hr
  replace bel := tu.below bel ge2
  clear tu
  replace o2 := on
  clear on
  refine E.opset (L' := [(3, .int .i64 2), (10, .agg #[.int .i64 0, .int .i64 0, .int .i64 0]), (9, .bool true), (8, .bool (mayB n)), (7, .int .i64 n), (2, .pointer (some ⟨g2, 0, none⟩)), (0, .int .i64 n)]) hF (r_assign ev_c) rfl rfl rfl rfl fun a hF => ?_
  refine E.nil ?_
  refine wp_ret ?_
  refine bodyPost_ret (res_celltmp Tryd.results15 (hF.at 5 rfl) (ldb_CDate (vs := [.int .i64 0, .int .i64 0, .int .i64 0]) o2 rfl rfl) (hF.at 0 rfl)) hF.dfr ?_
  exact ⟨rfl, bel⟩

end Go.Proofs.YtcgbllbhagijjaaDoor
