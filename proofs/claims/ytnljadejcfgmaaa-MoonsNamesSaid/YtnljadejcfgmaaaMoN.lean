/- Months' numbers. -/
import Derived.Test.YtnljadejcfgmaaaTyV
import Derived.Test.YtnljadejcfgmaaaMid
import Derived.Test.YtnljadejcfgmaaaGO
import Derived.Test.YtnljadejcfgmaaaRgK
import Derived.Test.YtnljadejcfgmaaaRgN
import Derived.Test.YtnljadejcfgmaaaGI
namespace Go.Proofs.Ytnljadejcfgmaaa
open Go.RowKit
set_option maxRecDepth 100000
set_option linter.unusedVariables false

/-- The month that is expunged behind one. -/
def loV (s t : Int) : Int := if t = (s + 2) % 12 then ((s + 1) % 12 + 1) % 12 + 1 else 0
theorem en5 : (Try.f5.name == "runtime.NumGoroutine") = false ∧ Try.f5.body.isNone = false := ⟨by decide +kernel, by kernel_rfl⟩
theorem en7 : (Try.f7.name == "runtime.NumGoroutine") = false ∧ Try.f7.body.isNone = false := ⟨by decide +kernel, by kernel_rfl⟩
theorem en8 : (Try.f8.name == "runtime.NumGoroutine") = false ∧ Try.f8.body.isNone = false := ⟨by decide +kernel, by kernel_rfl⟩
set_option maxHeartbeats 1000000 in
theorem moNumber_any (z0 z1 z2 z3 : Int) (w : World) (h0 : 0 ≤ z2) (h1 : z2 ≤ 11) :
    Calls Try.prog 5 #[.agg #[.int .i64 z0, .int .i64 z1, .int .i64 z2, .int .i64 z3]] w (ValPost w (.int .i64 ((z2 + 1) % 12 + 1))) := by
  have st := St.start w
  refine E.enter (nt := 8) (L := [(0, .agg #[.int .i64 z0, .int .i64 z1, .int .i64 z2, .int .i64 z3])]) Try.func5 rfl rfl rfl (args_cons (i := 0) rfl args_nil) ?_
  intro a hF
  refine wp_seq ?_
  refine E.seq ?_
  refine S.box st hF (hF.at 0 rfl) rfl rfl fun g1 w1 a st hF => ?_
  refine E.opv hF (r_assign ev_c) rfl rfl rfl rfl fun a hF => ?_
  refine E.nil ?_
  refine wp_seq ?_
  refine E.seq ?_
  refine E.opv hF (r_field (hF.at 1 rfl) (fa_MMO_2 (p := 2) rfl)) rfl rfl rfl rfl fun a hF => ?_
  refine E.opv hF (r_load (hF.at 0 rfl) (ldb_int (v := .int .i64 z2) (st.bk 0 rfl) rfl)) rfl rfl rfl rfl fun a hF => ?_
  refine E.opv hF (r_bin (hF.at 0 rfl) ev_c eg_scalar (ia_add (by omega) (by omega))) rfl rfl rfl rfl fun a hF => ?_
  refine E.opv hF (r_bin (hF.at 0 rfl) ev_c eg_scalar (id_remn (a := z2 + 1) (b := 12) (by omega) (by omega))) rfl rfl rfl rfl fun a hF => ?_
  refine E.opv hF (r_bin (hF.at 0 rfl) ev_c eg_scalar (ia_add (by omega) (by omega))) rfl rfl rfl rfl fun a hF => ?_
  refine E.opset (L' := [(2, .int .i64 (((z2 + 1) % 12) + 1)), (7, .int .i64 (((z2 + 1) % 12) + 1)), (6, .int .i64 ((z2 + 1) % 12)), (5, .int .i64 (z2 + 1)), (4, .int .i64 z2), (3, .pointer (some ⟨g1, 2, none⟩)), (1, .pointer (some ⟨g1, 0, none⟩)), (0, .agg #[.int .i64 z0, .int .i64 z1, .int .i64 z2, .int .i64 z3])]) hF (r_assign (hF.at 0 rfl)) rfl rfl rfl rfl fun a hF => ?_
  refine E.nil ?_
  refine wp_ret ?_
  have bel := st.bel
  refine bodyPost_ret (res_tmp Try.results5 (hF.at 0 rfl)) hF.dfr ?_
  exact ⟨rfl, bel⟩

set_option maxHeartbeats 1000000 in
theorem moLeap_any (z0 z1 z2 z3 : Int) (w : World) :
    Calls Try.prog 7 #[.agg #[.int .i64 z0, .int .i64 z1, .int .i64 z2, .int .i64 z3]] w (ValPost w (.bool (decide (z2 = z3)))) := by
  have st := St.start w
  refine E.enter (nt := 8) (L := [(0, .agg #[.int .i64 z0, .int .i64 z1, .int .i64 z2, .int .i64 z3])]) Try.func7 rfl rfl rfl (args_cons (i := 0) rfl args_nil) ?_
  intro a hF
  refine wp_seq ?_
  refine E.seq ?_
  refine S.box st hF (hF.at 0 rfl) rfl rfl fun g1 w1 a st hF => ?_
  refine E.opv hF (r_assign ev_c) rfl rfl rfl rfl fun a hF => ?_
  refine E.nil ?_
  refine wp_seq ?_
  refine E.seq ?_
  refine E.opv hF (r_field (hF.at 1 rfl) (fa_MMO_2 (p := 2) rfl)) rfl rfl rfl rfl fun a hF => ?_
  refine E.opv hF (r_load (hF.at 0 rfl) (ldb_int (v := .int .i64 z2) (st.bk 0 rfl) rfl)) rfl rfl rfl rfl fun a hF => ?_
  refine E.opv hF (r_field (hF.at 3 rfl) (fa_MMO_3 (p := 3) rfl)) rfl rfl rfl rfl fun a hF => ?_
  refine E.opv hF (r_load (hF.at 0 rfl) (ldb_int (v := .int .i64 z3) (st.bk 0 rfl) rfl)) rfl rfl rfl rfl fun a hF => ?_
  refine E.opv hF (r_bin (hF.at 2 rfl) (hF.at 0 rfl) eg_scalar (bi_int (ic_eql (c := decide (z2 = z3)) rfl) (by simp))) rfl rfl rfl rfl fun a hF => ?_
  refine E.opset (L' := [(2, .bool (decide (z2 = z3))), (7, .bool (decide (z2 = z3))), (6, .int .i64 z3), (5, .pointer (some ⟨g1, 3, none⟩)), (4, .int .i64 z2), (3, .pointer (some ⟨g1, 2, none⟩)), (1, .pointer (some ⟨g1, 0, none⟩)), (0, .agg #[.int .i64 z0, .int .i64 z1, .int .i64 z2, .int .i64 z3])]) hF (r_assign (hF.at 0 rfl)) rfl rfl rfl rfl fun a hF => ?_
  refine E.nil ?_
  refine wp_ret ?_
  have bel := st.bel
  refine bodyPost_ret (res_tmp Try.results7 (hF.at 0 rfl)) hF.dfr ?_
  exact ⟨rfl, bel⟩

set_option maxHeartbeats 1000000 in
theorem moLost_any (z0 z1 z2 z3 : Int) (w : World) (h0 : 0 ≤ z2) (h1 : z2 ≤ 11) :
    Calls Try.prog 8 #[.agg #[.int .i64 z0, .int .i64 z1, .int .i64 z2, .int .i64 z3]] w (ValPost w (.int .i64 (loV z2 z3))) := by
  have st := St.start w
  refine E.enter (nt := 14) (L := [(0, .agg #[.int .i64 z0, .int .i64 z1, .int .i64 z2, .int .i64 z3])]) Try.func8 rfl rfl rfl (args_cons (i := 0) rfl args_nil) ?_
  intro a hF
  refine wp_seq ?_
  refine E.seq ?_
  refine S.box st hF (hF.at 0 rfl) rfl rfl fun g1 w1 a st hF => ?_
  refine E.opv hF (r_assign ev_c) rfl rfl rfl rfl fun a hF => ?_
  refine E.nil ?_
  refine wp_seq ?_
  refine wp_seq ?_
  refine E.seq ?_
  refine E.opv hF (r_field (hF.at 1 rfl) (fa_MMO_3 (p := 3) rfl)) rfl rfl rfl rfl fun a hF => ?_
  refine E.opv hF (r_load (hF.at 0 rfl) (ldb_int (v := .int .i64 z3) (st.bk 0 rfl) rfl)) rfl rfl rfl rfl fun a hF => ?_
  refine E.opv hF (r_field (hF.at 3 rfl) (fa_MMO_2 (p := 2) rfl)) rfl rfl rfl rfl fun a hF => ?_
  refine E.opv hF (r_load (hF.at 0 rfl) (ldb_int (v := .int .i64 z2) (st.bk 0 rfl) rfl)) rfl rfl rfl rfl fun a hF => ?_
  refine E.opv hF (r_bin (hF.at 0 rfl) ev_c eg_scalar (ia_add (by omega) (by omega))) rfl rfl rfl rfl fun a hF => ?_
  refine E.opv hF (r_bin (hF.at 0 rfl) ev_c eg_scalar (id_remn (a := z2 + 2) (b := 12) (by omega) (by omega))) rfl rfl rfl rfl fun a hF => ?_
  by_cases hc2 : z3 ≠ (z2 + 2) % 12
  · first
    | (exfalso; omega)
    | (refine E.opv hF (r_bin (hF.at 4 rfl) (hF.at 0 rfl) eg_scalar (bi_int (ic_neq (c := true) (dec_tt hc2)) (by simp))) rfl rfl rfl rfl fun a hF => ?_
       refine E.nil ?_
       refine wp_cond_true (hF.at 0 rfl) ?_
       refine wp_seq ?_
       refine E.seq ?_
       refine E.opset (L' := [(2, .int .i64 0), (9, .bool true), (8, .int .i64 ((z2 + 2) % 12)), (7, .int .i64 (z2 + 2)), (6, .int .i64 z2), (5, .pointer (some ⟨g1, 2, none⟩)), (4, .int .i64 z3), (3, .pointer (some ⟨g1, 3, none⟩)), (1, .pointer (some ⟨g1, 0, none⟩)), (0, .agg #[.int .i64 z0, .int .i64 z1, .int .i64 z2, .int .i64 z3])]) hF (r_assign ev_c) rfl rfl rfl rfl fun a hF => ?_
       refine E.nil ?_
       refine wp_ret ?_
       have bel := st.bel
       refine bodyPost_ret (res_tmp Try.results8 (hF.at 0 rfl)) hF.dfr ?_
       refine ⟨rv_int ?_, bel⟩
       unfold loV
       rw [if_neg (by omega)])
  · first
    | (exfalso; omega)
    | (refine E.opv hF (r_bin (hF.at 4 rfl) (hF.at 0 rfl) eg_scalar (bi_int (ic_neq (c := false) (dec_ff hc2)) (by simp))) rfl rfl rfl rfl fun a hF => ?_
       refine E.nil ?_
       refine wp_cond_false (hF.at 0 rfl) ?_
       refine wp_skip ?_
       refine E.norm ?_
       refine wp_seq ?_
       refine E.seq ?_
       refine E.opv hF (r_load (hF.at 8 rfl) (ld_all ty_MMO (st.bk 0 rfl) rfl)) rfl rfl rfl rfl fun a hF => ?_
       refine S.callx st hF (rgc k5 (map1 (hF.at 0 rfl))) (moNumber_any z0 z1 z2 z3 _ (by omega) (by omega)) rfl rfl rfl rfl fun w3 a st hF => ?_
       refine E.opv hF (r_bin (hF.at 0 rfl) ev_c eg_scalar (id_remn (a := (z2 + 1) % 12 + 1) (b := 12) (by omega) (by omega))) rfl rfl rfl rfl fun a hF => ?_
       refine E.opv hF (r_bin (hF.at 0 rfl) ev_c eg_scalar (ia_add (by omega) (by omega))) rfl rfl rfl rfl fun a hF => ?_
       refine E.opset (L' := [(2, .int .i64 ((((z2 + 1) % 12 + 1) % 12) + 1)), (13, .int .i64 ((((z2 + 1) % 12 + 1) % 12) + 1)), (12, .int .i64 (((z2 + 1) % 12 + 1) % 12)), (11, .int .i64 ((z2 + 1) % 12 + 1)), (10, .agg #[.int .i64 z0, .int .i64 z1, .int .i64 z2, .int .i64 z3]), (9, .bool false), (8, .int .i64 ((z2 + 2) % 12)), (7, .int .i64 (z2 + 2)), (6, .int .i64 z2), (5, .pointer (some ⟨g1, 2, none⟩)), (4, .int .i64 z3), (3, .pointer (some ⟨g1, 3, none⟩)), (1, .pointer (some ⟨g1, 0, none⟩)), (0, .agg #[.int .i64 z0, .int .i64 z1, .int .i64 z2, .int .i64 z3])]) hF (r_assign (hF.at 0 rfl)) rfl rfl rfl rfl fun a hF => ?_
       refine E.nil ?_
       refine wp_ret ?_
       have bel := st.bel
       refine bodyPost_ret (res_tmp Try.results8 (hF.at 0 rfl)) hF.dfr ?_
       refine ⟨rv_int ?_, bel⟩
       unfold loV
       rw [if_pos (by omega)])

end Go.Proofs.Ytnljadejcfgmaaa
