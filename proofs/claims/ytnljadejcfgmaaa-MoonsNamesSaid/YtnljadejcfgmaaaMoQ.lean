/- MoonsNames. -/
import Derived.Test.YtnljadejcfgmaaaMoN
import Derived.Test.YtnljadejcfgmaaaTyV
import Derived.Test.YtnljadejcfgmaaaMid
import Derived.Test.YtnljadejcfgmaaaGO
import Derived.Test.YtnljadejcfgmaaaRgK
import Derived.Test.YtnljadejcfgmaaaRgN
import Derived.Test.YtnljadejcfgmaaaGI
namespace Go.Proofs.Ytnljadejcfgmaaa
open Go.RowKit
set_option maxRecDepth 100000
set_option linter.unusedVariables false

theorem en4 : (Try.f4.name == "runtime.NumGoroutine") = false ∧ Try.f4.body.isNone = false := ⟨by decide +kernel, by kernel_rfl⟩
set_option maxHeartbeats 4000000 in
theorem awake19_any (w : World) :
    Calls Try.prog 4 #[] w (ValPost w (.bool true)) := by
  have st := St.start w
  refine E.enter (nt := 20) (L := []) Try.func4 rfl rfl rfl args_nil ?_
  intro a hF
  refine wp_seq ?_
  refine E.seq ?_
  refine E.opv hF (r_assign ev_c) rfl rfl rfl rfl fun a hF => ?_
  refine E.nil ?_
  refine wp_seq ?_
  refine E.seq ?_
  refine E.opv hF (r_build (pair2 ev_c ev_c) (bd_MMO_23 _ _ _)) rfl rfl rfl rfl fun a hF => ?_
  refine S.new st hF 0 rfl ty_MMO rfl rfl rfl rfl rfl fun g1 w1 a st hF => ?_
  refine E.nil ?_
  refine wp_seq ?_
  refine E.seq ?_
  refine E.opv hF (r_load (hF.at 0 rfl) (ld_all ty_MMO (st.bk 0 rfl) rfl)) rfl rfl rfl rfl fun a hF => ?_
  refine S.callx st hF (rgc k5 (map1 (hF.at 0 rfl))) (moNumber_any 0 0 11 1 _ (by omega) (by omega)) rfl rfl rfl rfl fun w2 a st hF => ?_
  refine E.opv hF (r_bin (hF.at 0 rfl) ev_c eg_scalar (bi_int (ic_eql (c := true) (dec_tt (by decide +kernel))) (by simp))) rfl rfl rfl rfl fun a hF => ?_
  refine E.opv hF (r_move (hF.at 0 rfl)) rfl rfl rfl rfl fun a hF => ?_
  refine E.opvg hF (r_load (hF.at 4 rfl) (ld_all ty_MMO (st.bk 0 rfl) rfl)) (wanted_by rfl rfl (hF.at 0 rfl) rfl) rfl rfl rfl fun a hF => ?_
  refine S.callxg st hF (wanted_by rfl rfl (hF.at 1 rfl) rfl) (rgc k8 (map1 (hF.at 0 rfl))) (moLost_any 0 0 11 1 _ (by omega) (by omega)) rfl rfl rfl fun w3 a st hF => ?_
  refine E.opvg hF (r_bin (hF.at 0 rfl) ev_c eg_scalar (bi_int (ic_eql (c := true) (dec_tt (by decide +kernel))) (by simp))) (wanted_by rfl rfl (hF.at 2 rfl) rfl) rfl rfl rfl fun a hF => ?_
  refine E.opv hF (r_pick_t (hF.at 3 rfl) (hF.at 0 rfl)) rfl rfl rfl rfl fun a hF => ?_
  refine E.opv hF (r_move (hF.at 0 rfl)) rfl rfl rfl rfl fun a hF => ?_
  refine E.opvg hF (r_load (hF.at 9 rfl) (ld_all ty_MMO (st.bk 0 rfl) rfl)) (wanted_by rfl rfl (hF.at 0 rfl) rfl) rfl rfl rfl fun a hF => ?_
  refine S.callxg st hF (wanted_by rfl rfl (hF.at 1 rfl) rfl) (rgc k7 (map1 (hF.at 0 rfl))) (moLeap_any 0 0 11 1 _) rfl rfl rfl fun w4 a st hF => ?_
  refine E.opvg hF (r_un (Eq.trans (hF.at 0 rfl) (congrArg Value.bool (show decide ((11 : Int) = 1) = false by decide))) (bn_not _ true rfl)) (wanted_by rfl rfl (hF.at 2 rfl) rfl) rfl rfl rfl fun a hF => ?_
  refine E.opv hF (r_pick_t (hF.at 3 rfl) (hF.at 0 rfl)) rfl rfl rfl rfl fun a hF => ?_
  refine E.opv hF (r_move (hF.at 0 rfl)) rfl rfl rfl rfl fun a hF => ?_
  refine E.opvg hF (r_build (pair2 ev_c ev_c) (bd_MMO_23 _ _ _)) (wanted_by rfl rfl (hF.at 0 rfl) rfl) rfl rfl rfl fun a hF => ?_
  refine S.callxg st hF (wanted_by rfl rfl (hF.at 1 rfl) rfl) (rgc k7 (map1 (hF.at 0 rfl))) (moLeap_any 0 0 3 3 _) rfl rfl rfl fun w5 a st hF => ?_
  refine E.opv hF (r_pick_t (hF.at 2 rfl) (hF.at 0 rfl)) rfl rfl rfl rfl fun a hF => ?_
  refine E.opset (L' := [(0, .bool (decide (3 = 3))), (19, .bool (decide (3 = 3))), (18, .bool (decide (3 = 3))), (17, .agg #[.int .i64 0, .int .i64 0, .int .i64 3, .int .i64 3]), (16, .bool true), (15, .bool true), (14, .bool true), (13, .bool (decide (11 = 1))), (12, .agg #[.int .i64 0, .int .i64 0, .int .i64 11, .int .i64 1]), (11, .bool true), (10, .bool true), (9, .bool true), (8, .int .i64 (loV 11 1)), (7, .agg #[.int .i64 0, .int .i64 0, .int .i64 11, .int .i64 1]), (6, .bool true), (5, .bool true), (4, .int .i64 ((11 + 1) % 12 + 1)), (3, .agg #[.int .i64 0, .int .i64 0, .int .i64 11, .int .i64 1]), (1, .pointer (some ⟨g1, 0, none⟩)), (2, .agg #[.int .i64 0, .int .i64 0, .int .i64 11, .int .i64 1])]) hF (r_assign (hF.at 0 rfl)) rfl rfl rfl rfl fun a hF => ?_
  refine E.nil ?_
  refine wp_ret ?_
  have bel := st.bel
  refine bodyPost_ret (res_tmp Try.results4 (hF.at 0 rfl)) hF.dfr ?_
  exact ⟨rfl, bel⟩

theorem en6 : (Try.f6.name == "runtime.NumGoroutine") = false ∧ Try.f6.body.isNone = false := ⟨by decide +kernel, by kernel_rfl⟩
theorem en9 : (Try.f9.name == "runtime.NumGoroutine") = false ∧ Try.f9.body.isNone = false := ⟨by decide +kernel, by kernel_rfl⟩
theorem en3 : (Try.f3.name == "runtime.NumGoroutine") = false ∧ Try.f3.body.isNone = false := ⟨by decide +kernel, by kernel_rfl⟩
theorem bs_n12 (w : World) : ∃ g w', (Instr.buildSlice 31 12 #[(0, .int .i64 2), (1, .int .i64 3), (2, .int .i64 4), (3, .int .i64 5), (4, .int .i64 6), (5, .int .i64 7), (6, .int .i64 8), (7, .int .i64 9), (8, .int .i64 10), (9, .int .i64 11), (10, .int .i64 12), (11, .int .i64 1)]).run Try.prog w = .ok (.slice (some ⟨g, 0, none⟩) 12 12) w' ∧ Below w.heap.size w w' ∧ Blk w' g (cl .i64 [2, 3, 4, 5, 6, 7, 8, 9, 10, 11, 12, 1]) := by
  have hb := blk_new (w := w) (cs := cl .i64 [2, 3, 4, 5, 6, 7, 8, 9, 10, 11, 12, 1]) 3
  refine ⟨w.heap.size, w.alloc (.cells (cl .i64 [2, 3, 4, 5, 6, 7, 8, 9, 10, 11, 12, 1]).toArray 3), ?_, hb.2, hb.1⟩
  have hs := size_run (P := Try.prog) (T := 3) (n := 1) sz_int w
  simp [Instr.buildSlice, go_sem, hs, Instr.fill, Value.cells, newRow, cl]
theorem ps_n12 {a : Act} {x0 x1 x2 x3 x4 x5 x6 x7 x8 x9 x10 x11 : Value} : (#[(0, Operand.const x0), (1, Operand.const x1), (2, Operand.const x2), (3, Operand.const x3), (4, Operand.const x4), (5, Operand.const x5), (6, Operand.const x6), (7, Operand.const x7), (8, Operand.const x8), (9, Operand.const x9), (10, Operand.const x10), (11, Operand.const x11)].map fun (p : Nat × Operand) => (p.1, a.eval p.2)) = #[(0, x0), (1, x1), (2, x2), (3, x3), (4, x4), (5, x5), (6, x6), (7, x7), (8, x8), (9, x9), (10, x10), (11, x11)] := by simp [Act.eval]
theorem n12_at {k : Int} (h0 : 0 ≤ k) (h1 : k < 12) : (cl .i64 [2, 3, 4, 5, 6, 7, 8, 9, 10, 11, 12, 1])[k.toNat]? = some (.int .i64 ((k + 1) % 12 + 1)) := by
  have h : k = 0 ∨ k = 1 ∨ k = 2 ∨ k = 3 ∨ k = 4 ∨ k = 5 ∨ k = 6 ∨ k = 7 ∨ k = 8 ∨ k = 9 ∨ k = 10 ∨ k = 11 := by omega
  rcases h with rfl | rfl | rfl | rfl | rfl | rfl | rfl | rfl | rfl | rfl | rfl | rfl <;> rfl
theorem ix_int12 {w : World} {g n c : Nat} {i : Int} (h0 : 0 ≤ i) (h1 : i < n) : (Instr.indexAt 31 (.slice (some ⟨g, 0, none⟩) n c) (.int .i64 i)).run Try.prog w = .ok (.pointer (some ⟨g, i.toNat, none⟩)) w := by
  simp [Instr.indexAt, asIntOf, run_underlying Try.underlying31, Sem.run_bind, h0, h1, Addr.add_mid]
set_option maxHeartbeats 4000000 in
theorem rNumber19_any (s : Int) (w : World) (h0 : 0 ≤ s) (h1 : s ≤ 11) :
    Calls Try.prog 6 #[.int .i64 s] w (ValPost w (.int .i64 ((s + 1) % 12 + 1))) := by
  have bel : Below w.heap.size w w := Below.refl _ _
  refine E.enter (nt := 9) (L := [(0, .int .i64 s)]) Try.func6 rfl rfl rfl (args_cons (i := 0) rfl args_nil) ?_
  intro a hF
  refine wp_seq ?_
  refine E.seq ?_
  refine E.opv hF (r_assign ev_c) rfl rfl rfl rfl fun a hF => ?_
  refine E.nil ?_
  refine wp_seq ?_
  refine E.seq ?_
  obtain ⟨gl2, w1, hr, bb, ogl2⟩ := bs_n12 w
  refine E.opv hF (r_buildSlice ps_n12 hr) rfl rfl rfl rfl fun a hF => ?_
  clear hr
  replace bel := below_to bel bb
  clear bb
  refine E.opv hF (r_move (hF.at 2 rfl)) rfl rfl rfl rfl fun a hF => ?_
  refine E.opv hF (r_builtin (map2 (hF.at 0 rfl) ev_c) bl_min) rfl rfl rfl rfl fun a hF => ?_
  refine E.opv hF (r_builtin (map2 ev_c (hF.at 0 rfl)) bl_max) rfl rfl rfl rfl fun a hF => ?_
  refine E.opv hF (r_index (hF.at 3 rfl) (hF.at 0 rfl) (ix_int12 (by omega) (by omega))) rfl rfl rfl rfl fun a hF => ?_
  refine E.opv hF (r_load (hF.at 0 rfl) (ldb_int (v := .int .i64 ((max 0 (min s 11) + 1) % 12 + 1)) ogl2 (n12_at (by omega) (by omega)))) rfl rfl rfl rfl fun a hF => ?_
  refine E.opset (L' := [(2, .int .i64 ((max 0 (min s 11) + 1) % 12 + 1)), (8, .int .i64 ((max 0 (min s 11) + 1) % 12 + 1)), (7, .pointer (some ⟨gl2, (max 0 (min s 11)).toNat, none⟩)), (6, .int .i64 (max 0 (min s 11))), (5, .int .i64 (min s 11)), (4, .int .i64 s), (3, .slice (some ⟨gl2, 0, none⟩) 12 12), (0, .int .i64 s)]) hF (r_assign (hF.at 0 rfl)) rfl rfl rfl rfl fun a hF => ?_
  refine E.nil ?_
  refine wp_ret ?_
  refine bodyPost_ret (res_tmp Try.results6 (hF.at 0 rfl)) hF.dfr ?_
  refine ⟨rv_int ?_, bel⟩
  omega

set_option maxHeartbeats 4000000 in
theorem rLost19_any (z0 z1 z2 z3 : Int) (w : World) (h0 : 0 ≤ z2) (h1 : z2 ≤ 11) :
    Calls Try.prog 9 #[.agg #[.int .i64 z0, .int .i64 z1, .int .i64 z2, .int .i64 z3]] w (ValPost w (.int .i64 (loV z2 z3))) := by
  have st := St.start w
  refine E.enter (nt := 24) (L := [(0, .agg #[.int .i64 z0, .int .i64 z1, .int .i64 z2, .int .i64 z3])]) Try.func9 rfl rfl rfl (args_cons (i := 0) rfl args_nil) ?_
  intro a hF
  refine wp_seq ?_
  refine E.seq ?_
  refine S.box st hF (hF.at 0 rfl) rfl rfl fun g1 w1 a st hF => ?_
  refine E.opv hF (r_assign ev_c) rfl rfl rfl rfl fun a hF => ?_
  refine E.nil ?_
  refine wp_seq ?_
  refine wp_seq ?_
  refine E.seq ?_
  refine E.opv hF (r_assign ev_c) rfl rfl rfl rfl fun a hF => ?_
  refine E.nil ?_
  refine wp_block ?_
  refine E.loop (fun mq a wv => ∃ (k : Int), 0 ≤ k ∧ k ≤ 12 ∧ (k ≤ z2 ∨ z3 ≠ (z2 + 2) % 12) ∧ Fr 24 a [(3, .int .i64 k), (1, .pointer (some ⟨g1, 0, none⟩))] ∧ St w wv [(g1, [.int .i64 z0, .int .i64 z1, .int .i64 z2, .int .i64 z3])] [] ∧ mq = (12 - k : Int).toNat) ((12 - (0) : Int).toNat) ?_ ?_
  · exact ⟨(0 : Int), (by omega), (by omega), (by omega), Fr.pick (L' := [(3, .int .i64 0), (1, .pointer (some ⟨g1, 0, none⟩))]) hF [0, 2] rfl, st.pick [0] [] rfl rfl (by decide), rfl⟩
  · rintro mq a w2 ⟨k, hk0, hk1, hno, hF, st, hm⟩
    refine wp_seq ?_
    refine wp_seq ?_
    refine E.seq ?_
    refine E.opv hF (r_move (hF.at 0 rfl)) rfl rfl rfl rfl fun a hF => ?_
    by_cases hc3 : k < 12
    · first
      | (exfalso; omega)
      | (refine E.opv hF (r_bin (hF.at 0 rfl) ev_c eg_scalar (bi_int (ic_lss (c := true) (dec_tt hc3)) (by simp))) rfl rfl rfl rfl fun a hF => ?_
         refine E.nil ?_
         refine wp_cond_true (hF.at 0 rfl) ?_
         refine wp_skip ?_
         refine E.norm ?_
         refine wp_seq ?_
         refine wp_block ?_
         refine wp_seq ?_
         refine E.seq ?_
         refine E.opv hF (r_field (hF.at 3 rfl) (fa_RMO_2 (p := 2) rfl)) rfl rfl rfl rfl fun a hF => ?_
         refine E.opv hF (r_load (hF.at 0 rfl) (ldb_int (v := .int .i64 z2) (st.bk 0 rfl) rfl)) rfl rfl rfl rfl fun a hF => ?_
         refine E.opv hF (r_move (hF.at 4 rfl)) rfl rfl rfl rfl fun a hF => ?_
         by_cases hc4 : z2 = k
         · first
           | (exfalso; omega)
           | (refine E.opv hF (r_bin (hF.at 1 rfl) (hF.at 0 rfl) eg_scalar (bi_int (ic_eql (c := true) (dec_tt hc4)) (by simp))) rfl rfl rfl rfl fun a hF => ?_
              refine E.opv hF (r_move (hF.at 0 rfl)) rfl rfl rfl rfl fun a hF => ?_
              refine E.opvg hF (r_field (hF.at 8 rfl) (fa_RMO_3 (p := 3) rfl)) (wanted_by rfl rfl (hF.at 0 rfl) rfl) rfl rfl rfl fun a hF => ?_
              refine E.opvg hF (r_load (hF.at 0 rfl) (ldb_int (v := .int .i64 z3) (st.bk 0 rfl) rfl)) (wanted_by rfl rfl (hF.at 1 rfl) rfl) rfl rfl rfl fun a hF => ?_
              refine E.opvg hF (r_move (hF.at 9 rfl)) (wanted_by rfl rfl (hF.at 2 rfl) rfl) rfl rfl rfl fun a hF => ?_
              refine E.opvg hF (r_bin (hF.at 0 rfl) ev_c eg_scalar (ia_add (by omega) (by omega))) (wanted_by rfl rfl (hF.at 3 rfl) rfl) rfl rfl rfl fun a hF => ?_
              refine E.opvg hF (r_bin (hF.at 0 rfl) ev_c eg_scalar (id_remn (a := k + 2) (b := 12) (by omega) (by omega))) (wanted_by rfl rfl (hF.at 4 rfl) rfl) rfl rfl rfl fun a hF => ?_
              by_cases hc5 : z3 = (k + 2) % 12
              · first
                | (exfalso; omega)
                | (refine E.opvg hF (r_bin (hF.at 3 rfl) (hF.at 0 rfl) eg_scalar (bi_int (ic_eql (c := true) (dec_tt hc5)) (by simp))) (wanted_by rfl rfl (hF.at 5 rfl) rfl) rfl rfl rfl fun a hF => ?_
                   refine E.opv hF (r_pick_t (hF.at 6 rfl) (hF.at 0 rfl)) rfl rfl rfl rfl fun a hF => ?_
                   refine E.nil ?_
                   refine wp_cond_true (hF.at 0 rfl) ?_
                   refine wp_seq ?_
                   refine E.seq ?_
                   refine E.opv hF (r_move (hF.at 14 rfl)) rfl rfl rfl rfl fun a hF => ?_
                   refine E.opv hF (r_bin (hF.at 0 rfl) ev_c eg_scalar (ia_add (by omega) (by omega))) rfl rfl rfl rfl fun a hF => ?_
                   refine E.opv hF (r_bin (hF.at 0 rfl) ev_c eg_scalar (id_remn (a := k + 1) (b := 12) (by omega) (by omega))) rfl rfl rfl rfl fun a hF => ?_
                   refine S.callx st hF (rgc k6 (map1 (hF.at 0 rfl))) (rNumber19_any ((k + 1) % 12) _ (by omega) (by omega)) rfl rfl rfl rfl fun w6 a st hF => ?_
                   refine E.opv hF (r_assign (hF.at 0 rfl)) rfl rfl rfl rfl fun a hF => ?_
                   refine E.nil ?_
                   refine wp_ret ?_
                   have bel := st.bel
                   refine bodyPost_ret (res_tmp Try.results9 (hF.at 0 rfl)) hF.dfr ?_
                   refine ⟨rv_int ?_, bel⟩
                   unfold loV
                   split <;> omega)
              · first
                | (exfalso; omega)
                | (refine E.opvg hF (r_bin (hF.at 3 rfl) (hF.at 0 rfl) eg_scalar (bi_int (ic_eql (c := false) (dec_ff hc5)) (by simp))) (wanted_by rfl rfl (hF.at 5 rfl) rfl) rfl rfl rfl fun a hF => ?_
                   refine E.opv hF (r_pick_t (hF.at 6 rfl) (hF.at 0 rfl)) rfl rfl rfl rfl fun a hF => ?_
                   refine E.nil ?_
                   refine wp_cond_false (hF.at 0 rfl) ?_
                   refine wp_skip ?_
                   refine E.blk ?_
                   refine E.norm ?_
                   refine E.seq ?_
                   refine E.opv hF (r_move (hF.at 14 rfl)) rfl rfl rfl rfl fun a hF => ?_
                   refine E.opv hF (r_bin (hF.at 0 rfl) ev_c eg_scalar (ia_add (by omega) (by omega))) rfl rfl rfl rfl fun a hF => ?_
                   refine E.opset (L' := [(3, .int .i64 (k + 1)), (7, .int .i64 (k + 1)), (6, .int .i64 k), (19, .bool false), (18, .bool false), (17, .int .i64 ((k + 2) % 12)), (16, .int .i64 (k + 2)), (15, .int .i64 k), (14, .int .i64 z3), (13, .pointer (some ⟨g1, 3, none⟩)), (12, .bool true), (11, .bool true), (10, .int .i64 k), (9, .int .i64 z2), (8, .pointer (some ⟨g1, 2, none⟩)), (5, .bool true), (4, .int .i64 k), (1, .pointer (some ⟨g1, 0, none⟩))]) hF (r_assign (hF.at 0 rfl)) rfl rfl rfl rfl fun a hF => ?_
                   refine E.nil0 ?_
                   refine E.norm ?_
                   exact ⟨(12 - (k + 1) : Int).toNat, by omega, ⟨(k + 1 : Int), (by omega), (by omega), (by omega), Fr.pick (L' := [(3, .int .i64 (k + 1)), (1, .pointer (some ⟨g1, 0, none⟩))]) hF [0, 17] rfl, st.pick [0] [] rfl rfl (by decide), rfl⟩⟩))
         · first
           | (exfalso; omega)
           | (refine E.opv hF (r_bin (hF.at 1 rfl) (hF.at 0 rfl) eg_scalar (bi_int (ic_eql (c := false) (dec_ff hc4)) (by simp))) rfl rfl rfl rfl fun a hF => ?_
              refine E.opv hF (r_move (hF.at 0 rfl)) rfl rfl rfl rfl fun a hF => ?_
              refine E.unwanted hF (wanted_by rfl rfl (hF.at 0 rfl) rfl) rfl rfl rfl fun a hF => ?_
              refine E.unwanted hF (wanted_by rfl rfl (hF.at 1 rfl) rfl) rfl rfl rfl fun a hF => ?_
              refine E.unwanted hF (wanted_by rfl rfl (hF.at 2 rfl) rfl) rfl rfl rfl fun a hF => ?_
              refine E.unwanted hF (wanted_by rfl rfl (hF.at 3 rfl) rfl) rfl rfl rfl fun a hF => ?_
              refine E.unwanted hF (wanted_by rfl rfl (hF.at 4 rfl) rfl) rfl rfl rfl fun a hF => ?_
              refine E.unwanted hF (wanted_by rfl rfl (hF.at 5 rfl) rfl) rfl rfl rfl fun a hF => ?_
              refine E.opv hF (r_pick_f (hF.at 6 rfl) ev_c) rfl rfl rfl rfl fun a hF => ?_
              refine E.nil ?_
              refine wp_cond_false (hF.at 0 rfl) ?_
              refine wp_skip ?_
              refine E.blk ?_
              refine E.norm ?_
              refine E.seq ?_
              refine E.opv hF (r_move (hF.at 14 rfl)) rfl rfl rfl rfl fun a hF => ?_
              refine E.opv hF (r_bin (hF.at 0 rfl) ev_c eg_scalar (ia_add (by omega) (by omega))) rfl rfl rfl rfl fun a hF => ?_
              refine E.opset (L' := [(3, .int .i64 (k + 1)), (7, .int .i64 (k + 1)), (6, .int .i64 k), (19, .bool false), (18, undef), (17, undef), (16, undef), (15, undef), (14, undef), (13, undef), (12, .bool false), (11, .bool false), (10, .int .i64 k), (9, .int .i64 z2), (8, .pointer (some ⟨g1, 2, none⟩)), (5, .bool true), (4, .int .i64 k), (1, .pointer (some ⟨g1, 0, none⟩))]) hF (r_assign (hF.at 0 rfl)) rfl rfl rfl rfl fun a hF => ?_
              refine E.nil0 ?_
              refine E.norm ?_
              exact ⟨(12 - (k + 1) : Int).toNat, by omega, ⟨(k + 1 : Int), (by omega), (by omega), (by omega), Fr.pick (L' := [(3, .int .i64 (k + 1)), (1, .pointer (some ⟨g1, 0, none⟩))]) hF [0, 17] rfl, st.pick [0] [] rfl rfl (by decide), rfl⟩⟩))
    · first
      | (exfalso; omega)
      | (refine E.opv hF (r_bin (hF.at 0 rfl) ev_c eg_scalar (bi_int (ic_lss (c := false) (dec_ff hc3)) (by simp))) rfl rfl rfl rfl fun a hF => ?_
         refine E.nil ?_
         refine wp_cond_false (hF.at 0 rfl) ?_
         refine wp_exit ?_
         refine E.past ?_
         refine E.past ?_
         refine E.out (id := 0) ?_
         refine E.norm ?_
         refine wp_seq ?_
         refine E.seq ?_
         refine E.opv hF (r_assign ev_c) rfl rfl rfl rfl fun a hF => ?_
         refine E.nil ?_
         refine wp_ret ?_
         have bel := st.bel
         refine bodyPost_ret (res_tmp Try.results9 (hF.at 0 rfl)) hF.dfr ?_
         refine ⟨rv_int ?_, bel⟩
         unfold loV
         split <;> omega)

set_option maxHeartbeats 4000000 in
theorem moonsNames_walk (s t : Int) (w : World) :
    Calls Try.prog 3 #[.int .i64 s, .int .i64 t] w (ValPost w (.bool true)) := by
  have st := St.start w
  refine E.enter (nt := 39) (L := [(0, .int .i64 s), (1, .int .i64 t)]) Try.func3 rfl rfl rfl (args_cons (i := 0) rfl (args_cons (i := 1) rfl args_nil)) ?_
  intro a hF
  refine wp_seq ?_
  refine E.seq ?_
  refine E.opv hF (r_assign ev_c) rfl rfl rfl rfl fun a hF => ?_
  refine E.nil ?_
  refine wp_seq ?_
  refine wp_seq ?_
  refine E.seq ?_
  refine S.callx st hF (rgc k4 map0) (awake19_any _) rfl rfl rfl rfl fun w1 a st hF => ?_
  refine E.opv hF (r_un (hF.at 0 rfl) (bn_not _ false rfl)) rfl rfl rfl rfl fun a hF => ?_
  refine E.nil ?_
  refine wp_cond_false (hF.at 0 rfl) ?_
  refine wp_skip ?_
  refine E.norm ?_
  refine wp_seq ?_
  refine E.seq ?_
  refine E.opv hF (r_move (hF.at 3 rfl)) rfl rfl rfl rfl fun a hF => ?_
  refine E.opv hF (r_bin (hF.at 0 rfl) ev_c eg_scalar (id_and (n := 8) (by decide) (d := 256) (by decide) (by decide))) rfl rfl rfl rfl fun a hF => ?_
  refine E.opv hF (r_bin (hF.at 0 rfl) ev_c eg_scalar (id_remn (a := s % 256) (b := 12) (by omega) (by omega))) rfl rfl rfl rfl fun a hF => ?_
  refine E.opv hF (r_move (hF.at 7 rfl)) rfl rfl rfl rfl fun a hF => ?_
  refine E.opv hF (r_bin (hF.at 0 rfl) ev_c eg_scalar (id_and (n := 8) (by decide) (d := 256) (by decide) (by decide))) rfl rfl rfl rfl fun a hF => ?_
  refine E.opv hF (r_bin (hF.at 0 rfl) ev_c eg_scalar (id_remn (a := t % 256) (b := 12) (by omega) (by omega))) rfl rfl rfl rfl fun a hF => ?_
  refine E.opset (L' := [(0, .int .i64 ((s % 256) % 12)), (13, .int .i64 ((t % 256) % 12)), (12, .int .i64 (t % 256)), (11, .int .i64 t), (10, .int .i64 ((s % 256) % 12)), (9, .int .i64 (s % 256)), (8, .int .i64 s), (7, .bool false), (6, .bool true), (4, .bool false), (1, .int .i64 t)]) hF (r_assign (hF.at 3 rfl)) rfl rfl rfl rfl fun a hF => ?_
  refine E.opset (L' := [(1, .int .i64 ((t % 256) % 12)), (0, .int .i64 ((s % 256) % 12)), (13, .int .i64 ((t % 256) % 12)), (12, .int .i64 (t % 256)), (11, .int .i64 t), (10, .int .i64 ((s % 256) % 12)), (9, .int .i64 (s % 256)), (8, .int .i64 s), (7, .bool false), (6, .bool true), (4, .bool false)]) hF (r_assign (hF.at 1 rfl)) rfl rfl rfl rfl fun a hF => ?_
  refine E.nil ?_
  refine wp_seq ?_
  refine E.seq ?_
  refine E.opv hF (r_move (hF.at 1 rfl)) rfl rfl rfl rfl fun a hF => ?_
  refine E.opv hF (r_move (hF.at 1 rfl)) rfl rfl rfl rfl fun a hF => ?_
  refine E.opv hF (r_build (pair2 (hF.at 1 rfl) (hF.at 0 rfl)) (bd_MMO_23 _ _ _)) rfl rfl rfl rfl fun a hF => ?_
  refine S.new st hF 0 rfl ty_MMO rfl rfl rfl rfl rfl fun g5 w2 a st hF => ?_
  refine E.nil ?_
  refine wp_seq ?_
  refine E.seq ?_
  refine E.opv hF (r_load (hF.at 0 rfl) (ld_all ty_MMO (st.bk 0 rfl) rfl)) rfl rfl rfl rfl fun a hF => ?_
  refine S.callx st hF (rgc k5 (map1 (hF.at 0 rfl))) (moNumber_any 0 0 ((s % 256) % 12) ((t % 256) % 12) _ (by omega) (by omega)) rfl rfl rfl rfl fun w3 a st hF => ?_
  refine E.opv hF (r_move (hF.at 7 rfl)) rfl rfl rfl rfl fun a hF => ?_
  refine S.callx st hF (rgc k6 (map1 (hF.at 0 rfl))) (rNumber19_any ((s % 256) % 12) _ (by omega) (by omega)) rfl rfl rfl rfl fun w4 a st hF => ?_
  refine E.opv hF (r_bin (hF.at 2 rfl) (hF.at 0 rfl) eg_scalar (bi_int (ic_eql (c := true) (dec_tt (by omega))) (by simp))) rfl rfl rfl rfl fun a hF => ?_
  refine E.opv hF (r_move (hF.at 0 rfl)) rfl rfl rfl rfl fun a hF => ?_
  refine E.opvg hF (r_load (hF.at 6 rfl) (ld_all ty_MMO (st.bk 0 rfl) rfl)) (wanted_by rfl rfl (hF.at 0 rfl) rfl) rfl rfl rfl fun a hF => ?_
  refine S.callxg st hF (wanted_by rfl rfl (hF.at 1 rfl) rfl) (rgc k7 (map1 (hF.at 0 rfl))) (moLeap_any 0 0 ((s % 256) % 12) ((t % 256) % 12) _) rfl rfl rfl fun w5 a st hF => ?_
  refine E.opvg hF (r_move (hF.at 13 rfl)) (wanted_by rfl rfl (hF.at 2 rfl) rfl) rfl rfl rfl fun a hF => ?_
  refine E.opvg hF (r_move (hF.at 13 rfl)) (wanted_by rfl rfl (hF.at 3 rfl) rfl) rfl rfl rfl fun a hF => ?_
  by_cases hc6 : (s % 256) % 12 = (t % 256) % 12
  · refine E.opvg hF (r_bin (hF.at 1 rfl) (hF.at 0 rfl) eg_scalar (bi_int (ic_eql (c := true) (dec_tt hc6)) (by simp))) (wanted_by rfl rfl (hF.at 4 rfl) rfl) rfl rfl rfl fun a hF => ?_
    refine E.opvg hF (r_bin (hF.at 3 rfl) (hF.at 0 rfl) eg_bool (bb_eql (d := true) (by rw [show decide (((s % 256) % 12) = ((t % 256) % 12)) = true from decide_eq_true (by assumption)]; rfl))) (wanted_by rfl rfl (hF.at 5 rfl) rfl) rfl rfl rfl fun a hF => ?_
    refine E.opv hF (r_pick_t (hF.at 6 rfl) (hF.at 0 rfl)) rfl rfl rfl rfl fun a hF => ?_
    refine E.opv hF (r_move (hF.at 0 rfl)) rfl rfl rfl rfl fun a hF => ?_
    refine E.opvg hF (r_load (hF.at 14 rfl) (ld_all ty_MMO (st.bk 0 rfl) rfl)) (wanted_by rfl rfl (hF.at 0 rfl) rfl) rfl rfl rfl fun a hF => ?_
    refine S.callxg st hF (wanted_by rfl rfl (hF.at 1 rfl) rfl) (rgc k8 (map1 (hF.at 0 rfl))) (moLost_any 0 0 ((s % 256) % 12) ((t % 256) % 12) _ (by omega) (by omega)) rfl rfl rfl fun w7 a st hF => ?_
    refine E.opvg hF (r_move (hF.at 21 rfl)) (wanted_by rfl rfl (hF.at 2 rfl) rfl) rfl rfl rfl fun a hF => ?_
    refine E.opvg hF (r_move (hF.at 21 rfl)) (wanted_by rfl rfl (hF.at 3 rfl) rfl) rfl rfl rfl fun a hF => ?_
    refine E.opvg hF (r_build (pair2 (hF.at 1 rfl) (hF.at 0 rfl)) (bd_RMO_23 _ _ _)) (wanted_by rfl rfl (hF.at 4 rfl) rfl) rfl rfl rfl fun a hF => ?_
    refine S.callxg st hF (wanted_by rfl rfl (hF.at 5 rfl) rfl) (rgc k9 (map1 (hF.at 0 rfl))) (rLost19_any 0 0 ((s % 256) % 12) ((t % 256) % 12) _ (by omega) (by omega)) rfl rfl rfl fun w8 a st hF => ?_
    refine E.opvg hF (r_bin (hF.at 4 rfl) (hF.at 0 rfl) eg_scalar (bi_int (ic_eql (c := true) (by simp)) (by simp))) (wanted_by rfl rfl (hF.at 6 rfl) rfl) rfl rfl rfl fun a hF => ?_
    refine E.opv hF (r_pick_t (hF.at 7 rfl) (hF.at 0 rfl)) rfl rfl rfl rfl fun a hF => ?_
    refine E.opset (L' := [(4, .bool true), (38, .bool true), (37, .bool true), (36, .int .i64 (loV ((s % 256) % 12) ((t % 256) % 12))), (35, .agg #[.int .i64 0, .int .i64 0, .int .i64 ((s % 256) % 12), .int .i64 ((t % 256) % 12)]), (34, .int .i64 ((t % 256) % 12)), (33, .int .i64 ((s % 256) % 12)), (32, .int .i64 (loV ((s % 256) % 12) ((t % 256) % 12))), (31, .agg #[.int .i64 0, .int .i64 0, .int .i64 ((s % 256) % 12), .int .i64 ((t % 256) % 12)]), (30, .bool true), (29, .bool true), (28, .bool true), (27, .bool true), (26, .int .i64 ((t % 256) % 12)), (25, .int .i64 ((s % 256) % 12)), (24, .bool (decide (((s % 256) % 12) = ((t % 256) % 12)))), (23, .agg #[.int .i64 0, .int .i64 0, .int .i64 ((s % 256) % 12), .int .i64 ((t % 256) % 12)]), (22, .bool true), (21, .bool true), (20, .int .i64 (((s % 256) % 12 + 1) % 12 + 1)), (19, .int .i64 ((s % 256) % 12)), (18, .int .i64 ((((s % 256) % 12) + 1) % 12 + 1)), (17, .agg #[.int .i64 0, .int .i64 0, .int .i64 ((s % 256) % 12), .int .i64 ((t % 256) % 12)]), (5, .pointer (some ⟨g5, 0, none⟩)), (16, .agg #[.int .i64 0, .int .i64 0, .int .i64 ((s % 256) % 12), .int .i64 ((t % 256) % 12)]), (15, .int .i64 ((t % 256) % 12)), (14, .int .i64 ((s % 256) % 12)), (1, .int .i64 ((t % 256) % 12)), (0, .int .i64 ((s % 256) % 12)), (13, .int .i64 ((t % 256) % 12)), (12, .int .i64 (t % 256)), (11, .int .i64 t), (10, .int .i64 ((s % 256) % 12)), (9, .int .i64 (s % 256)), (8, .int .i64 s), (7, .bool false), (6, .bool true)]) hF (r_assign (hF.at 0 rfl)) rfl rfl rfl rfl fun a hF => ?_
    refine E.nil ?_
    refine wp_ret ?_
    have bel := st.bel
    refine bodyPost_ret (res_tmp Try.results3 (hF.at 0 rfl)) hF.dfr ?_
    exact ⟨rfl, bel⟩
  · refine E.opvg hF (r_bin (hF.at 1 rfl) (hF.at 0 rfl) eg_scalar (bi_int (ic_eql (c := false) (dec_ff hc6)) (by simp))) (wanted_by rfl rfl (hF.at 4 rfl) rfl) rfl rfl rfl fun a hF => ?_
    refine E.opvg hF (r_bin (hF.at 3 rfl) (hF.at 0 rfl) eg_bool (bb_eql (d := true) (by rw [show decide (((s % 256) % 12) = ((t % 256) % 12)) = false from decide_eq_false (by assumption)]; rfl))) (wanted_by rfl rfl (hF.at 5 rfl) rfl) rfl rfl rfl fun a hF => ?_
    refine E.opv hF (r_pick_t (hF.at 6 rfl) (hF.at 0 rfl)) rfl rfl rfl rfl fun a hF => ?_
    refine E.opv hF (r_move (hF.at 0 rfl)) rfl rfl rfl rfl fun a hF => ?_
    refine E.opvg hF (r_load (hF.at 14 rfl) (ld_all ty_MMO (st.bk 0 rfl) rfl)) (wanted_by rfl rfl (hF.at 0 rfl) rfl) rfl rfl rfl fun a hF => ?_
    refine S.callxg st hF (wanted_by rfl rfl (hF.at 1 rfl) rfl) (rgc k8 (map1 (hF.at 0 rfl))) (moLost_any 0 0 ((s % 256) % 12) ((t % 256) % 12) _ (by omega) (by omega)) rfl rfl rfl fun w9 a st hF => ?_
    refine E.opvg hF (r_move (hF.at 21 rfl)) (wanted_by rfl rfl (hF.at 2 rfl) rfl) rfl rfl rfl fun a hF => ?_
    refine E.opvg hF (r_move (hF.at 21 rfl)) (wanted_by rfl rfl (hF.at 3 rfl) rfl) rfl rfl rfl fun a hF => ?_
    refine E.opvg hF (r_build (pair2 (hF.at 1 rfl) (hF.at 0 rfl)) (bd_RMO_23 _ _ _)) (wanted_by rfl rfl (hF.at 4 rfl) rfl) rfl rfl rfl fun a hF => ?_
    refine S.callxg st hF (wanted_by rfl rfl (hF.at 5 rfl) rfl) (rgc k9 (map1 (hF.at 0 rfl))) (rLost19_any 0 0 ((s % 256) % 12) ((t % 256) % 12) _ (by omega) (by omega)) rfl rfl rfl fun w10 a st hF => ?_
    refine E.opvg hF (r_bin (hF.at 4 rfl) (hF.at 0 rfl) eg_scalar (bi_int (ic_eql (c := true) (by simp)) (by simp))) (wanted_by rfl rfl (hF.at 6 rfl) rfl) rfl rfl rfl fun a hF => ?_
    refine E.opv hF (r_pick_t (hF.at 7 rfl) (hF.at 0 rfl)) rfl rfl rfl rfl fun a hF => ?_
    refine E.opset (L' := [(4, .bool true), (38, .bool true), (37, .bool true), (36, .int .i64 (loV ((s % 256) % 12) ((t % 256) % 12))), (35, .agg #[.int .i64 0, .int .i64 0, .int .i64 ((s % 256) % 12), .int .i64 ((t % 256) % 12)]), (34, .int .i64 ((t % 256) % 12)), (33, .int .i64 ((s % 256) % 12)), (32, .int .i64 (loV ((s % 256) % 12) ((t % 256) % 12))), (31, .agg #[.int .i64 0, .int .i64 0, .int .i64 ((s % 256) % 12), .int .i64 ((t % 256) % 12)]), (30, .bool true), (29, .bool true), (28, .bool true), (27, .bool false), (26, .int .i64 ((t % 256) % 12)), (25, .int .i64 ((s % 256) % 12)), (24, .bool (decide (((s % 256) % 12) = ((t % 256) % 12)))), (23, .agg #[.int .i64 0, .int .i64 0, .int .i64 ((s % 256) % 12), .int .i64 ((t % 256) % 12)]), (22, .bool true), (21, .bool true), (20, .int .i64 (((s % 256) % 12 + 1) % 12 + 1)), (19, .int .i64 ((s % 256) % 12)), (18, .int .i64 ((((s % 256) % 12) + 1) % 12 + 1)), (17, .agg #[.int .i64 0, .int .i64 0, .int .i64 ((s % 256) % 12), .int .i64 ((t % 256) % 12)]), (5, .pointer (some ⟨g5, 0, none⟩)), (16, .agg #[.int .i64 0, .int .i64 0, .int .i64 ((s % 256) % 12), .int .i64 ((t % 256) % 12)]), (15, .int .i64 ((t % 256) % 12)), (14, .int .i64 ((s % 256) % 12)), (1, .int .i64 ((t % 256) % 12)), (0, .int .i64 ((s % 256) % 12)), (13, .int .i64 ((t % 256) % 12)), (12, .int .i64 (t % 256)), (11, .int .i64 t), (10, .int .i64 ((s % 256) % 12)), (9, .int .i64 (s % 256)), (8, .int .i64 s), (7, .bool false), (6, .bool true)]) hF (r_assign (hF.at 0 rfl)) rfl rfl rfl rfl fun a hF => ?_
    refine E.nil ?_
    refine wp_ret ?_
    have bel := st.bel
    refine bodyPost_ret (res_tmp Try.results3 (hF.at 0 rfl)) hF.dfr ?_
    exact ⟨rfl, bel⟩

end Go.Proofs.Ytnljadejcfgmaaa
