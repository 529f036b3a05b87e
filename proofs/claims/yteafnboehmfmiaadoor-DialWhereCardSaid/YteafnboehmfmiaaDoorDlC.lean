/- The document's circle; law09's awake. -/
import Derived.Test.YteafnboehmfmiaaDoorDlB
import Derived.Lib.LaidTab
namespace Go.Proofs.YteafnboehmfmiaaDoor
open Go.RowKit
set_option maxRecDepth 100000
set_option linter.unusedVariables false

theorem bs_25 (w : World) : ∃ g w', (Instr.buildSlice 55 25 #[(0, .int .i64 0), (1, .int .i64 225), (2, .int .i64 449), (3, .int .i64 671), (4, .int .i64 890), (5, .int .i64 1105), (6, .int .i64 1315), (7, .int .i64 1520), (8, .int .i64 1719), (9, .int .i64 1910), (10, .int .i64 2093), (11, .int .i64 2267), (12, .int .i64 2431), (13, .int .i64 2585), (14, .int .i64 2728), (15, .int .i64 2859), (16, .int .i64 2978), (17, .int .i64 3084), (18, .int .i64 3177), (19, .int .i64 3256), (20, .int .i64 3321), (21, .int .i64 3372), (22, .int .i64 3409), (23, .int .i64 3431), (24, .int .i64 3438)]).run Tryd.prog w = .ok (.slice (some ⟨g, 0, none⟩) 25 25) w' ∧ Below w.heap.size w w' ∧ Blk w' g (hiT.map fun z => .int .i64 z) := by
  have hb := blk_new (w := w) (cs := hiT.map fun z => .int .i64 z) 3
  refine ⟨w.heap.size, w.alloc (.cells (hiT.map fun z => .int .i64 z).toArray 3), ?_, hb.2, hb.1⟩
  have hs := size_run (P := Tryd.prog) (T := 3) (n := 1) (by kernel_rfl) w
  simp [Instr.buildSlice, go_sem, hs, Instr.fill, Value.cells, newRow, hiT]
theorem ix_ints9 {w : World} {g n c : Nat} {i : Int} (h0 : 0 ≤ i) (h1 : i < n) : (Instr.indexAt 55 (.slice (some ⟨g, 0, none⟩) n c) (.int .i64 i)).run Tryd.prog w = .ok (.pointer (some ⟨g, i.toNat, none⟩)) w := by
  simp [Instr.indexAt, asIntOf, run_underlying Tryd.underlying55, Sem.run_bind, h0, h1, Addr.add_mid]
theorem hi_at0 : ∀ n : Nat, n < 25 → (hiT.map fun z => Value.int .i64 z)[n]? = some (.int .i64 (hiT.getD n 0)) := by
  intro n hn
  rw [List.getElem?_map, List.getElem?_eq_getElem (by show n < 25; exact hn)]
  simp [List.getD, List.getElem?_eq_getElem (show n < hiT.length from hn)]
theorem hi_at (k : Int) : (hiT.map fun z => Value.int .i64 z)[(max 0 (min k 24)).toNat]? = some (.int .i64 (hiv k)) := hi_at0 _ (by omega)
/-- Of the first half. -/
def s48 (k : Int) : Int := hiv (if 24 < k then 48 - k else k)
theorem s48_tab : ∀ n : Nat, n < 48 → s48 (n : Int) = spk (n : Int) := by decide +kernel
theorem s48_sp {k : Int} (h0 : 0 ≤ k) (h1 : k < 48) : s48 k = spk k := by
  have := s48_tab k.toNat (by omega)
  rwa [show ((k.toNat : Nat) : Int) = k by omega] at this
theorem s48_opp {k : Int} (h0 : 48 ≤ k % 96) : -(s48 (k % 96 - 48)) = spk k := by
  rw [s48_sp (by omega) (by omega)]
  have := sp_opp (k % 96 - 48)
  rw [← sp_mod k, ← this, show k % 96 - 48 + 48 = k % 96 by omega]
theorem s48_same {k : Int} (h0 : ¬ 48 ≤ k % 96) : s48 (k % 96) = spk k := by
  rw [s48_sp (by omega) (by omega), sp_mod]
theorem s48_bd {k : Int} (h0 : 0 ≤ k) (h1 : k < 48) : -3438 ≤ s48 k ∧ s48 k ≤ 3438 := by rw [s48_sp h0 h1]; exact sp_bd k
theorem sp_mod24 (k : Int) : spk (k % 96 + 24) = spk (k + 24) := sp_cong (by omega)
theorem pairs25 {a : Act} {x0 x1 x2 x3 x4 x5 x6 x7 x8 x9 x10 x11 x12 x13 x14 x15 x16 x17 x18 x19 x20 x21 x22 x23 x24 : Value} : (#[(0, Operand.const x0), (1, Operand.const x1), (2, Operand.const x2), (3, Operand.const x3), (4, Operand.const x4), (5, Operand.const x5), (6, Operand.const x6), (7, Operand.const x7), (8, Operand.const x8), (9, Operand.const x9), (10, Operand.const x10), (11, Operand.const x11), (12, Operand.const x12), (13, Operand.const x13), (14, Operand.const x14), (15, Operand.const x15), (16, Operand.const x16), (17, Operand.const x17), (18, Operand.const x18), (19, Operand.const x19), (20, Operand.const x20), (21, Operand.const x21), (22, Operand.const x22), (23, Operand.const x23), (24, Operand.const x24)].map fun (p : Nat × Operand) => (p.1, a.eval p.2)) = #[(0, x0), (1, x1), (2, x2), (3, x3), (4, x4), (5, x5), (6, x6), (7, x7), (8, x8), (9, x9), (10, x10), (11, x11), (12, x12), (13, x13), (14, x14), (15, x15), (16, x16), (17, x17), (18, x18), (19, x19), (20, x20), (21, x21), (22, x22), (23, x23), (24, x24)] := by simp [Act.eval]
set_option maxHeartbeats 1000000 in
theorem dmod96_any (k : Int) (w : World) :
    Calls Tryd.prog 18 #[.int .i64 k, .int .i64 96] w (ValPost w (.int .i64 (k % 96))) := by
  have bel : Below w.heap.size w w := Below.refl _ _
  refine E.enter (nt := 12) (L := [(0, .int .i64 k), (1, .int .i64 96)]) Tryd.func18 rfl rfl rfl (args_cons (i := 0) rfl (args_cons (i := 1) rfl args_nil)) ?_
  intro a hF
  refine wp_seq ?_
  refine E.seq ?_
  refine E.opv hF (r_assign ev_c) rfl rfl rfl rfl fun a hF => ?_
  refine E.nil ?_
  refine wp_seq ?_
  refine E.seq ?_
  refine E.opv hF (r_move (hF.at 1 rfl)) rfl rfl rfl rfl fun a hF => ?_
  refine E.opv hF (r_move (hF.at 3 rfl)) rfl rfl rfl rfl fun a hF => ?_
  refine E.opv hF (r_bin (hF.at 1 rfl) (hF.at 0 rfl) eg_scalar (id_rem (a := k) (b := 96) (by omega))) rfl rfl rfl rfl fun a hF => ?_
  refine E.opv hF (r_move (hF.at 5 rfl)) rfl rfl rfl rfl fun a hF => ?_
  refine E.opv hF (r_bin (hF.at 1 rfl) (hF.at 0 rfl) eg_scalar (ia_add (by omega) (by omega))) rfl rfl rfl rfl fun a hF => ?_
  refine E.opv hF (r_move (hF.at 7 rfl)) rfl rfl rfl rfl fun a hF => ?_
  refine E.opv hF (r_bin (hF.at 1 rfl) (hF.at 0 rfl) eg_scalar (id_rem (a := (if 0 ≤ k then k % 96 else -(-k % 96)) + 96) (b := 96) (by omega))) rfl rfl rfl rfl fun a hF => ?_
  refine E.opset (L' := [(4, .int .i64 (if 0 ≤ (if 0 ≤ k then k % 96 else -(-k % 96)) + 96 then ((if 0 ≤ k then k % 96 else -(-k % 96)) + 96) % 96 else -(-((if 0 ≤ k then k % 96 else -(-k % 96)) + 96) % 96))), (11, .int .i64 (if 0 ≤ (if 0 ≤ k then k % 96 else -(-k % 96)) + 96 then ((if 0 ≤ k then k % 96 else -(-k % 96)) + 96) % 96 else -(-((if 0 ≤ k then k % 96 else -(-k % 96)) + 96) % 96))), (10, .int .i64 96), (9, .int .i64 ((if 0 ≤ k then k % 96 else -(-k % 96)) + 96)), (8, .int .i64 96), (7, .int .i64 (if 0 ≤ k then k % 96 else -(-k % 96))), (6, .int .i64 96), (5, .int .i64 k), (0, .int .i64 k), (1, .int .i64 96)]) hF (r_assign (hF.at 0 rfl)) rfl rfl rfl rfl fun a hF => ?_
  refine E.nil ?_
  refine wp_ret ?_
  refine bodyPost_ret (res_tmp Tryd.results18 (hF.at 0 rfl)) hF.dfr ?_
  refine ⟨rv_int ?_, bel⟩
  omega

set_option maxHeartbeats 1000000 in
theorem dmod25_any (k : Int) (w : World) :
    Calls Tryd.prog 18 #[.int .i64 k, .int .i64 25] w (ValPost w (.int .i64 (k % 25))) := by
  have bel : Below w.heap.size w w := Below.refl _ _
  refine E.enter (nt := 12) (L := [(0, .int .i64 k), (1, .int .i64 25)]) Tryd.func18 rfl rfl rfl (args_cons (i := 0) rfl (args_cons (i := 1) rfl args_nil)) ?_
  intro a hF
  refine wp_seq ?_
  refine E.seq ?_
  refine E.opv hF (r_assign ev_c) rfl rfl rfl rfl fun a hF => ?_
  refine E.nil ?_
  refine wp_seq ?_
  refine E.seq ?_
  refine E.opv hF (r_move (hF.at 1 rfl)) rfl rfl rfl rfl fun a hF => ?_
  refine E.opv hF (r_move (hF.at 3 rfl)) rfl rfl rfl rfl fun a hF => ?_
  refine E.opv hF (r_bin (hF.at 1 rfl) (hF.at 0 rfl) eg_scalar (id_rem (a := k) (b := 25) (by omega))) rfl rfl rfl rfl fun a hF => ?_
  refine E.opv hF (r_move (hF.at 5 rfl)) rfl rfl rfl rfl fun a hF => ?_
  refine E.opv hF (r_bin (hF.at 1 rfl) (hF.at 0 rfl) eg_scalar (ia_add (by omega) (by omega))) rfl rfl rfl rfl fun a hF => ?_
  refine E.opv hF (r_move (hF.at 7 rfl)) rfl rfl rfl rfl fun a hF => ?_
  refine E.opv hF (r_bin (hF.at 1 rfl) (hF.at 0 rfl) eg_scalar (id_rem (a := (if 0 ≤ k then k % 25 else -(-k % 25)) + 25) (b := 25) (by omega))) rfl rfl rfl rfl fun a hF => ?_
  refine E.opset (L' := [(4, .int .i64 (if 0 ≤ (if 0 ≤ k then k % 25 else -(-k % 25)) + 25 then ((if 0 ≤ k then k % 25 else -(-k % 25)) + 25) % 25 else -(-((if 0 ≤ k then k % 25 else -(-k % 25)) + 25) % 25))), (11, .int .i64 (if 0 ≤ (if 0 ≤ k then k % 25 else -(-k % 25)) + 25 then ((if 0 ≤ k then k % 25 else -(-k % 25)) + 25) % 25 else -(-((if 0 ≤ k then k % 25 else -(-k % 25)) + 25) % 25))), (10, .int .i64 25), (9, .int .i64 ((if 0 ≤ k then k % 25 else -(-k % 25)) + 25)), (8, .int .i64 25), (7, .int .i64 (if 0 ≤ k then k % 25 else -(-k % 25))), (6, .int .i64 25), (5, .int .i64 k), (0, .int .i64 k), (1, .int .i64 25)]) hF (r_assign (hF.at 0 rfl)) rfl rfl rfl rfl fun a hF => ?_
  refine E.nil ?_
  refine wp_ret ?_
  refine bodyPost_ret (res_tmp Tryd.results18 (hF.at 0 rfl)) hF.dfr ?_
  refine ⟨rv_int ?_, bel⟩
  omega

set_option maxHeartbeats 4000000 in
theorem dhigh_any (k : Int) (w : World) :
    Calls Tryd.prog 20 #[.int .i64 k] w (ValPost w (.int .i64 (hiv k))) := by
  have bel : Below w.heap.size w w := Below.refl _ _
  refine E.enter (nt := 9) (L := [(0, .int .i64 k)]) Tryd.func20 rfl rfl rfl (args_cons (i := 0) rfl args_nil) ?_
  intro a hF
  refine wp_seq ?_
  refine E.seq ?_
  refine E.opv hF (r_assign ev_c) rfl rfl rfl rfl fun a hF => ?_
  refine E.nil ?_
  refine wp_seq ?_
  refine E.seq ?_
  obtain ⟨gs2, w1, hr, bb, ols⟩ := bs_25 w
  refine E.opv hF (r_buildSlice pairs25 hr) rfl rfl rfl rfl fun a hF => ?_
  clear hr
  replace bel := below_to bel bb
  clear bb
  refine E.opv hF (r_move (hF.at 2 rfl)) rfl rfl rfl rfl fun a hF => ?_
  refine E.opv hF (r_builtin (map2 (hF.at 0 rfl) ev_c) bl_min) rfl rfl rfl rfl fun a hF => ?_
  refine E.opv hF (r_builtin (map2 ev_c (hF.at 0 rfl)) bl_max) rfl rfl rfl rfl fun a hF => ?_
  refine E.opv hF (r_index (hF.at 3 rfl) (hF.at 0 rfl) (ix_ints9 (by omega) (by omega))) rfl rfl rfl rfl fun a hF => ?_
  refine E.opv hF (r_load (hF.at 0 rfl) (ldb_int (v := .int .i64 (hiv k)) ols (hi_at k))) rfl rfl rfl rfl fun a hF => ?_
  refine E.opset (L' := [(2, .int .i64 (hiv k)), (8, .int .i64 (hiv k)), (7, .pointer (some ⟨gs2, (max 0 (min k 24)).toNat, none⟩)), (6, .int .i64 (max 0 (min k 24))), (5, .int .i64 (min k 24)), (4, .int .i64 k), (3, .slice (some ⟨gs2, 0, none⟩) 25 25), (0, .int .i64 k)]) hF (r_assign (hF.at 0 rfl)) rfl rfl rfl rfl fun a hF => ?_
  refine E.nil ?_
  refine wp_ret ?_
  refine bodyPost_ret (res_tmp Tryd.results20 (hF.at 0 rfl)) hF.dfr ?_
  exact ⟨rfl, bel⟩

set_option maxHeartbeats 1000000 in
theorem s48_any (k : Int) (w : World) (h0 : 0 ≤ k) (h1 : k < 48) :
    Calls Tryd.prog 39 #[.int .i64 k] w (ValPost w (.int .i64 (s48 k))) := by
  have bel : Below w.heap.size w w := Below.refl _ _
  refine E.enter (nt := 10) (L := [(0, .int .i64 k)]) Tryd.func39 rfl rfl rfl (args_cons (i := 0) rfl args_nil) ?_
  intro a hF
  refine wp_seq ?_
  refine E.seq ?_
  refine E.opv hF (r_assign ev_c) rfl rfl rfl rfl fun a hF => ?_
  refine E.nil ?_
  refine wp_seq ?_
  refine wp_seq ?_
  refine E.seq ?_
  refine E.opv hF (r_move (hF.at 1 rfl)) rfl rfl rfl rfl fun a hF => ?_
  by_cases hc1 : 24 < k
  · first
    | (exfalso; omega)
    | (refine E.opv hF (r_bin (hF.at 0 rfl) ev_c eg_scalar (bi_int (ic_gtr (c := true) (dec_tt hc1)) (by simp))) rfl rfl rfl rfl fun a hF => ?_
       refine E.nil ?_
       refine wp_cond_true (hF.at 0 rfl) ?_
       refine wp_seq ?_
       refine E.seq ?_
       refine E.opv hF (r_move (hF.at 3 rfl)) rfl rfl rfl rfl fun a hF => ?_
       refine E.opv hF (r_bin ev_c (hF.at 0 rfl) eg_scalar (ia_sub (by omega) (by omega))) rfl rfl rfl rfl fun a hF => ?_
       refine E.call hF (r_call Tryd.func20 en20.1 en20.2 (map1 (hF.at 0 rfl))) (dhigh_any (48 - k) _) rfl rfl rfl rfl ?_
       rintro e w2 ⟨rfl, bb⟩
       refine ⟨_, rfl, ?_⟩
       intro a hF
       replace bel := below_to bel bb
       clear bb
       refine E.opset (L' := [(2, .int .i64 (hiv (48 - k))), (7, .int .i64 (hiv (48 - k))), (6, .int .i64 (48 - k)), (5, .int .i64 k), (4, .bool true), (3, .int .i64 k), (0, .int .i64 k)]) hF (r_assign (hF.at 0 rfl)) rfl rfl rfl rfl fun a hF => ?_
       refine E.nil ?_
       refine wp_ret ?_
       refine bodyPost_ret (res_tmp Tryd.results39 (hF.at 0 rfl)) hF.dfr ?_
       refine ⟨rv_int ?_, bel⟩
       unfold s48; rw [if_pos (by omega)])
  · first
    | (exfalso; omega)
    | (refine E.opv hF (r_bin (hF.at 0 rfl) ev_c eg_scalar (bi_int (ic_gtr (c := false) (dec_ff hc1)) (by simp))) rfl rfl rfl rfl fun a hF => ?_
       refine E.nil ?_
       refine wp_cond_false (hF.at 0 rfl) ?_
       refine wp_skip ?_
       refine E.norm ?_
       refine wp_seq ?_
       refine E.seq ?_
       refine E.opv hF (r_move (hF.at 3 rfl)) rfl rfl rfl rfl fun a hF => ?_
       refine E.call hF (r_call Tryd.func20 en20.1 en20.2 (map1 (hF.at 0 rfl))) (dhigh_any k _) rfl rfl rfl rfl ?_
       rintro e w3 ⟨rfl, bb⟩
       refine ⟨_, rfl, ?_⟩
       intro a hF
       replace bel := below_to bel bb
       clear bb
       refine E.opset (L' := [(2, .int .i64 (hiv k)), (9, .int .i64 (hiv k)), (8, .int .i64 k), (4, .bool false), (3, .int .i64 k), (0, .int .i64 k)]) hF (r_assign (hF.at 0 rfl)) rfl rfl rfl rfl fun a hF => ?_
       refine E.nil ?_
       refine wp_ret ?_
       refine bodyPost_ret (res_tmp Tryd.results39 (hF.at 0 rfl)) hF.dfr ?_
       refine ⟨rv_int ?_, bel⟩
       unfold s48; rw [if_neg (by omega)])

set_option maxHeartbeats 1000000 in
theorem rsine_any (k : Int) (w : World) :
    Calls Tryd.prog 15 #[.int .i64 k] w (ValPost w (.int .i64 (spk k))) := by
  have hsb := fun h0 => s48_bd (k := (k % 96) - 48) h0 (by omega)
  have bel : Below w.heap.size w w := Below.refl _ _
  refine E.enter (nt := 13) (L := [(0, .int .i64 k)]) Tryd.func15 rfl rfl rfl (args_cons (i := 0) rfl args_nil) ?_
  intro a hF
  refine wp_seq ?_
  refine E.seq ?_
  refine E.opv hF (r_assign ev_c) rfl rfl rfl rfl fun a hF => ?_
  refine E.nil ?_
  refine wp_seq ?_
  refine E.seq ?_
  refine E.opv hF (r_move (hF.at 1 rfl)) rfl rfl rfl rfl fun a hF => ?_
  refine E.call hF (r_call Tryd.func18 en18.1 en18.2 (map2 (hF.at 0 rfl) ev_c)) (dmod96_any k _) rfl rfl rfl rfl ?_
  rintro e w1 ⟨rfl, bb⟩
  refine ⟨_, rfl, ?_⟩
  intro a hF
  replace bel := below_to bel bb
  clear bb
  refine E.opset (L' := [(0, .int .i64 ((k) % 96)), (4, .int .i64 ((k) % 96)), (3, .int .i64 k), (2, .int .i64 0)]) hF (r_assign (hF.at 0 rfl)) rfl rfl rfl rfl fun a hF => ?_
  refine E.nil ?_
  refine wp_seq ?_
  refine wp_seq ?_
  refine E.seq ?_
  refine E.opv hF (r_move (hF.at 0 rfl)) rfl rfl rfl rfl fun a hF => ?_
  by_cases hc2 : 48 ≤ (k) % 96
  · first
    | (exfalso; omega)
    | (refine E.opv hF (r_bin (hF.at 0 rfl) ev_c eg_scalar (bi_int (ic_geq (c := true) (dec_tt hc2)) (by simp))) rfl rfl rfl rfl fun a hF => ?_
       refine E.nil ?_
       refine wp_cond_true (hF.at 0 rfl) ?_
       refine wp_seq ?_
       refine E.seq ?_
       refine E.opv hF (r_move (hF.at 2 rfl)) rfl rfl rfl rfl fun a hF => ?_
       refine E.opv hF (r_bin (hF.at 0 rfl) ev_c eg_scalar (ia_sub (by omega) (by omega))) rfl rfl rfl rfl fun a hF => ?_
       refine E.call hF (r_call Tryd.func39 en39.1 en39.2 (map1 (hF.at 0 rfl))) (s48_any (((k) % 96) - 48) _ (by omega) (by omega)) rfl rfl rfl rfl ?_
       rintro e w3 ⟨rfl, bb⟩
       refine ⟨_, rfl, ?_⟩
       intro a hF
       replace bel := below_to bel bb
       clear bb
       refine E.opv hF (r_un (hF.at 0 rfl) (bn_neg (by omega) (by omega))) rfl rfl rfl rfl fun a hF => ?_
       refine E.opset (L' := [(2, .int .i64 (-(s48 (((k) % 96) - 48)))), (10, .int .i64 (-(s48 (((k) % 96) - 48)))), (9, .int .i64 (s48 (((k) % 96) - 48))), (8, .int .i64 (((k) % 96) - 48)), (7, .int .i64 ((k) % 96)), (6, .bool true), (5, .int .i64 ((k) % 96)), (0, .int .i64 ((k) % 96)), (4, .int .i64 ((k) % 96)), (3, .int .i64 k)]) hF (r_assign (hF.at 0 rfl)) rfl rfl rfl rfl fun a hF => ?_
       refine E.nil ?_
       refine wp_ret ?_
       refine bodyPost_ret (res_tmp Tryd.results15 (hF.at 0 rfl)) hF.dfr ?_
       refine ⟨rv_int ?_, bel⟩
       exact s48_opp (by omega))
  · first
    | (exfalso; omega)
    | (refine E.opv hF (r_bin (hF.at 0 rfl) ev_c eg_scalar (bi_int (ic_geq (c := false) (dec_ff hc2)) (by simp))) rfl rfl rfl rfl fun a hF => ?_
       refine E.nil ?_
       refine wp_cond_false (hF.at 0 rfl) ?_
       refine wp_skip ?_
       refine E.norm ?_
       refine wp_seq ?_
       refine E.seq ?_
       refine E.opv hF (r_move (hF.at 2 rfl)) rfl rfl rfl rfl fun a hF => ?_
       refine E.call hF (r_call Tryd.func39 en39.1 en39.2 (map1 (hF.at 0 rfl))) (s48_any ((k) % 96) _ (by omega) (by omega)) rfl rfl rfl rfl ?_
       rintro e w4 ⟨rfl, bb⟩
       refine ⟨_, rfl, ?_⟩
       intro a hF
       replace bel := below_to bel bb
       clear bb
       refine E.opset (L' := [(2, .int .i64 (s48 ((k) % 96))), (12, .int .i64 (s48 ((k) % 96))), (11, .int .i64 ((k) % 96)), (6, .bool false), (5, .int .i64 ((k) % 96)), (0, .int .i64 ((k) % 96)), (4, .int .i64 ((k) % 96)), (3, .int .i64 k)]) hF (r_assign (hF.at 0 rfl)) rfl rfl rfl rfl fun a hF => ?_
       refine E.nil ?_
       refine wp_ret ?_
       refine bodyPost_ret (res_tmp Tryd.results15 (hF.at 0 rfl)) hF.dfr ?_
       refine ⟨rv_int ?_, bel⟩
       exact s48_same (by omega))

set_option maxHeartbeats 1000000 in
theorem rcos_any (k : Int) (w : World) :
    Calls Tryd.prog 17 #[.int .i64 k] w (ValPost w (.int .i64 (spk (k + 24)))) := by
  have bel : Below w.heap.size w w := Below.refl _ _
  refine E.enter (nt := 7) (L := [(0, .int .i64 k)]) Tryd.func17 rfl rfl rfl (args_cons (i := 0) rfl args_nil) ?_
  intro a hF
  refine wp_seq ?_
  refine E.seq ?_
  refine E.opv hF (r_assign ev_c) rfl rfl rfl rfl fun a hF => ?_
  refine E.nil ?_
  refine wp_seq ?_
  refine E.seq ?_
  refine E.opv hF (r_move (hF.at 1 rfl)) rfl rfl rfl rfl fun a hF => ?_
  refine E.call hF (r_call Tryd.func18 en18.1 en18.2 (map2 (hF.at 0 rfl) ev_c)) (dmod96_any k _) rfl rfl rfl rfl ?_
  rintro e w1 ⟨rfl, bb⟩
  refine ⟨_, rfl, ?_⟩
  intro a hF
  replace bel := below_to bel bb
  clear bb
  refine E.opv hF (r_bin (hF.at 0 rfl) ev_c eg_scalar (ia_add (by omega) (by omega))) rfl rfl rfl rfl fun a hF => ?_
  refine E.call hF (r_call Tryd.func15 en15.1 en15.2 (map1 (hF.at 0 rfl))) (rsine_any (((k) % 96) + 24) _) rfl rfl rfl rfl ?_
  rintro e w2 ⟨rfl, bb⟩
  refine ⟨_, rfl, ?_⟩
  intro a hF
  replace bel := below_to bel bb
  clear bb
  refine E.opset (L' := [(2, .int .i64 (spk (((k) % 96) + 24))), (6, .int .i64 (spk (((k) % 96) + 24))), (5, .int .i64 (((k) % 96) + 24)), (4, .int .i64 ((k) % 96)), (3, .int .i64 k), (0, .int .i64 k)]) hF (r_assign (hF.at 0 rfl)) rfl rfl rfl rfl fun a hF => ?_
  refine E.nil ?_
  refine wp_ret ?_
  refine bodyPost_ret (res_tmp Tryd.results17 (hF.at 0 rfl)) hF.dfr ?_
  refine ⟨rv_int ?_, bel⟩
  exact sp_mod24 k

theorem tabD_of {w : World} (h : Lib.TabIs Tryd.prog w "ephemeris/dial.heights" .i64 [0, 225, 449, 671, 890, 1105, 1315, 1520, 1719, 1910, 2093, 2267, 2431, 2585, 2728, 2859, 2978, 3084, 3177, 3256, 3321, 3372, 3409, 3431, 3438]) : TabD w := fun i hi => h.cell (by kernel_rfl) i hi
set_option maxHeartbeats 4000000 in
theorem awake9_any (w : World) (hT : TabD w) :
    Calls Tryd.prog 11 #[] w (ValPost w (.bool true)) := by
  have bel : Below w.heap.size w w := Below.refl _ _
  refine E.enter (nt := 13) (L := []) Tryd.func11 rfl rfl rfl args_nil ?_
  intro a hF
  refine wp_seq ?_
  refine E.seq ?_
  refine E.opv hF (r_assign ev_c) rfl rfl rfl rfl fun a hF => ?_
  refine E.nil ?_
  refine wp_seq ?_
  refine E.seq ?_
  refine E.call hF (r_call Tryd.func12 en12.1 en12.2 (map1 ev_c)) (point_any 25 _ (hT.below bel)) rfl rfl rfl rfl ?_
  rintro e w1 ⟨rfl, bb⟩
  refine ⟨_, rfl, ?_⟩
  intro a hF
  replace bel := below_to bel bb
  clear bb
  refine E.opv hF (r_bin (hF.at 0 rfl) ev_c eg_cx (cx_eql ((cxq (fI_sp (25 + 24)) (fI_sp (25)) (flChk_of (x := -225) (by decide +kernel)) (flChk_of (x := 3431) (by decide +kernel))).trans (dec_tt ⟨(by decide +kernel), (by decide +kernel)⟩)))) rfl rfl rfl rfl fun a hF => ?_
  refine E.opv hF (r_move (hF.at 0 rfl)) rfl rfl rfl rfl fun a hF => ?_
  refine E.callg hF (r_call Tryd.func14 en14.1 en14.2 (map1 ev_c)) (dsine_any 48 _ (hT.below bel)) (wanted_by rfl rfl (hF.at 0 rfl) rfl) rfl rfl rfl ?_
  rintro e w2 ⟨rfl, bb⟩
  refine ⟨_, rfl, ?_⟩
  intro a hF
  replace bel := below_to bel bb
  clear bb
  refine E.opvg hF (r_bin (hF.at 0 rfl) ev_c eg_scalar (bi_int (ic_eql (c := true) (dec_tt (by decide +kernel))) (by simp))) (wanted_by rfl rfl (hF.at 1 rfl) rfl) rfl rfl rfl fun a hF => ?_
  refine E.opv hF (r_pick_t (hF.at 2 rfl) (hF.at 0 rfl)) rfl rfl rfl rfl fun a hF => ?_
  refine E.opv hF (r_move (hF.at 0 rfl)) rfl rfl rfl rfl fun a hF => ?_
  refine E.opv hF (r_pick_t (hF.at 0 rfl) ev_c) rfl rfl rfl rfl fun a hF => ?_
  refine E.opv hF (r_move (hF.at 0 rfl)) rfl rfl rfl rfl fun a hF => ?_
  refine E.callg hF (r_call Tryd.func19 en19.1 en19.2 (map1 ev_c)) (high_any 99 _ (hT.below bel)) (wanted_by rfl rfl (hF.at 0 rfl) rfl) rfl rfl rfl ?_
  rintro e w3 ⟨rfl, bb⟩
  refine ⟨_, rfl, ?_⟩
  intro a hF
  replace bel := below_to bel bb
  clear bb
  refine E.opvg hF (r_bin (hF.at 0 rfl) ev_c eg_scalar (bi_int (ic_eql (c := true) (dec_tt (by decide +kernel))) (by simp))) (wanted_by rfl rfl (hF.at 1 rfl) rfl) rfl rfl rfl fun a hF => ?_
  refine E.opv hF (r_pick_t (hF.at 2 rfl) (hF.at 0 rfl)) rfl rfl rfl rfl fun a hF => ?_
  refine E.opset (L' := [(0, .bool true), (12, .bool true), (11, .bool true), (10, .int .i64 (hiv 99)), (9, .bool true), (8, .bool true), (7, .bool true), (6, .bool true), (5, .bool true), (4, .int .i64 (spk 48)), (3, .bool true), (2, .bool true), (1, .complex .f64 (fI (spk (25 + 24))) (fI (spk (25))))]) hF (r_assign (hF.at 0 rfl)) rfl rfl rfl rfl fun a hF => ?_
  refine E.nil ?_
  refine wp_ret ?_
  refine bodyPost_ret (res_tmp Tryd.results11 (hF.at 0 rfl)) hF.dfr ?_
  exact ⟨rfl, bel⟩

end Go.Proofs.YteafnboehmfmiaaDoor
