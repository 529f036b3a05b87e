/- DigitsReads. -/
import Derived.Test.YthoiocjbjfhgpaaRdA
import Derived.Test.YthoiocjbjfhgpaaG9
namespace Go.Proofs.Ythoiocjbjfhgpaa
open Go.RowKit
set_option maxRecDepth 100000
set_option linter.unusedVariables false

theorem bstr_of (s : ByteArray) : ∃ xs : List Nat, s = bstr xs ∧ okb 256 xs := by
  refine ⟨s.data.toList.map UInt8.toNat, ?_, ?_⟩
  · apply ByteArray.ext
    simp [bstr, List.map_map, Function.comp_def]
  · intro x hx
    obtain ⟨y, _, rfl⟩ := List.mem_map.1 hx
    exact UInt8.toNat_lt y
set_option maxHeartbeats 1000000 in
theorem scutn_any (xs : List Nat) (n : Nat) (w : World) :
    Calls Try.prog 20 #[.string (bstr xs), .int .i64 ((n : Nat) : Int)] w (ValPost w (.string (bstr (List.take n xs)))) := by
  have bel : Below w.heap.size w w := Below.refl _ _
  refine E.enter (nt := 13) (L := [(0, .string (bstr xs)), (1, .int .i64 ((n : Nat) : Int))]) Try.func20 rfl rfl rfl (args_cons (i := 0) rfl (args_cons (i := 1) rfl args_nil)) ?_
  intro a hF
  refine wp_seq ?_
  refine E.seq ?_
  refine E.opv hF (r_assign ev_c) rfl rfl rfl rfl fun a hF => ?_
  refine E.nil ?_
  refine wp_seq ?_
  refine wp_seq ?_
  refine E.seq ?_
  refine E.opv hF (r_move (hF.at 1 rfl)) rfl rfl rfl rfl fun a hF => ?_
  refine E.opv hF (r_builtin (map1 (hF.at 0 rfl)) (bl_str Try.underlying9)) rfl rfl rfl rfl fun a hF => ?_
  refine E.opv hF (r_move (hF.at 4 rfl)) rfl rfl rfl rfl fun a hF => ?_
  by_cases hc1 : ((n : Nat) : Int) < ((List.length (xs) : Nat) : Int)
  · refine E.opv hF (r_bin (hF.at 1 rfl) (hF.at 0 rfl) eg_scalar (bi_int (ic_gtr (c := true) (dec_tt hc1)) (by simp))) rfl rfl rfl rfl fun a hF => ?_
    refine E.nil ?_
    refine wp_cond_true (hF.at 0 rfl) ?_
    refine wp_seq ?_
    refine E.seq ?_
    refine E.opv hF (r_move (hF.at 5 rfl)) rfl rfl rfl rfl fun a hF => ?_
    refine E.opv hF (r_move (hF.at 7 rfl)) rfl rfl rfl rfl fun a hF => ?_
    refine E.opv hF (r_slice (hF.at 1 rfl) (hF.at 0 rfl) (sls_hi (xs := xs) (j := n) Try.underlying9 (by first | rfl | omega) (by omega))) rfl rfl rfl rfl fun a hF => ?_
    refine E.opset (L' := [(4, .string (bstr (List.take (n) (xs)))), (11, .string (bstr (List.take (n) (xs)))), (10, .int .i64 ((n : Nat) : Int)), (9, .string (bstr xs)), (8, .bool true), (7, .int .i64 ((n : Nat) : Int)), (6, .int .i64 ((List.length (xs) : Nat) : Int)), (5, .string (bstr xs)), (0, .string (bstr xs)), (1, .int .i64 ((n : Nat) : Int))]) hF (r_assign (hF.at 0 rfl)) rfl rfl rfl rfl fun a hF => ?_
    refine E.nil ?_
    refine wp_ret ?_
    refine bodyPost_ret (res_tmp Try.results20 (hF.at 0 rfl)) hF.dfr ?_
    exact ⟨rv_str (rfl), bel⟩
  · refine E.opv hF (r_bin (hF.at 1 rfl) (hF.at 0 rfl) eg_scalar (bi_int (ic_gtr (c := false) (dec_ff hc1)) (by simp))) rfl rfl rfl rfl fun a hF => ?_
    refine E.nil ?_
    refine wp_cond_false (hF.at 0 rfl) ?_
    refine wp_skip ?_
    refine E.norm ?_
    refine wp_seq ?_
    refine E.seq ?_
    refine E.opv hF (r_move (hF.at 5 rfl)) rfl rfl rfl rfl fun a hF => ?_
    refine E.opset (L' := [(4, .string (bstr xs)), (12, .string (bstr xs)), (8, .bool false), (7, .int .i64 ((n : Nat) : Int)), (6, .int .i64 ((List.length (xs) : Nat) : Int)), (5, .string (bstr xs)), (0, .string (bstr xs)), (1, .int .i64 ((n : Nat) : Int))]) hF (r_assign (hF.at 0 rfl)) rfl rfl rfl rfl fun a hF => ?_
    refine E.nil ?_
    refine wp_ret ?_
    refine bodyPost_ret (res_tmp Try.results20 (hF.at 0 rfl)) hF.dfr ?_
    exact ⟨rv_str ((List.take_of_length_le (by omega)).symm), bel⟩

set_option maxHeartbeats 8000000 in
theorem digitsReads_walk (xs : List Nat) (w : World) (h8 : okb 256 xs) :
    Calls Try.prog 5 #[.string (bstr xs)] w (ValPost w (.bool true)) := by
  obtain ⟨S, hS⟩ : ∃ S, S = List.take 60 xs := ⟨_, rfl⟩
  have h8S : okb 256 S := by rw [hS]; exact okb_take h8 _
  have hSl : S.length ≤ 60 := by rw [hS, List.length_take]; omega
  have bel : Below w.heap.size w w := Below.refl _ _
  refine E.enter (nt := 80) (L := [(0, .string (bstr xs))]) Try.func5 rfl rfl rfl (args_cons (i := 0) rfl args_nil) ?_
  intro a hF
  refine wp_seq ?_
  refine E.seq ?_
  refine E.opv hF (r_assign ev_c) rfl rfl rfl rfl fun a hF => ?_
  refine E.nil ?_
  refine wp_seq ?_
  refine E.seq ?_
  refine E.opv hF (r_move (hF.at 1 rfl)) rfl rfl rfl rfl fun a hF => ?_
  refine E.call hF (r_call Try.func20 en20.1 en20.2 (map2 (hF.at 0 rfl) ev_c)) (scutn_any (xs) 60 _) rfl rfl rfl rfl ?_
  rintro e w1 ⟨rfl, bb⟩
  refine ⟨_, rfl, ?_⟩
  intro a hF
  replace bel := below_to bel bb
  clear bb
  refine E.opset (L' := [(0, .string (bstr (List.take 60 (xs)))), (12, .string (bstr (List.take 60 (xs)))), (11, .string (bstr xs)), (2, .bool false)]) hF (r_assign (hF.at 0 rfl)) rfl rfl rfl rfl fun a hF => ?_
  replace hF : Fr 80 a [(0, .string (bstr S)), (12, .string (bstr (List.take 60 (xs)))), (11, .string (bstr xs)), (2, .bool false)] := by rw [hS]; exact hF
  refine E.nil ?_
  refine wp_seq ?_
  refine wp_seq ?_
  refine E.seq ?_
  refine E.call hF (r_call Try.func13 en13.1 en13.2 map0) (awake4_any _) rfl rfl rfl rfl ?_
  rintro e w2 ⟨rfl, bb⟩
  refine ⟨_, rfl, ?_⟩
  intro a hF
  replace bel := below_to bel bb
  clear bb
  refine E.opv hF (r_un (hF.at 0 rfl) (bn_not _ false rfl)) rfl rfl rfl rfl fun a hF => ?_
  refine E.nil ?_
  refine wp_cond_false (hF.at 0 rfl) ?_
  refine wp_skip ?_
  refine E.norm ?_
  refine wp_seq ?_
  refine E.seq ?_
  refine E.opv hF (r_move (hF.at 2 rfl)) rfl rfl rfl rfl fun a hF => ?_
  refine E.call hF (r_call Try.func17 en17.1 en17.2 (map1 (hF.at 0 rfl))) (parse_any (S) _ h8S (by first | omega | decide)) rfl rfl rfl rfl ?_
  rintro e w3 ⟨vv4, rfl, hh5, bb⟩
  refine ⟨_, rfl, ?_⟩
  intro a hF
  replace bel := below_to bel bb
  clear bb
  obtain ⟨ad6, n6, c6, rfl, _⟩ := Wc.shape hh5
  refine E.opv hF (r_move (hF.at 0 rfl)) rfl rfl rfl rfl fun a hF => ?_
  refine E.opv hF (r_extract (v := .agg #[.bool (decide (pz (S) < 0)), .slice ad6 n6 c6]) (hF.at 0 rfl) rfl) rfl rfl rfl rfl fun a hF => ?_
  refine E.opv hF (r_extract (v := .int .i64 (pe (S))) (hF.at 1 rfl) rfl) rfl rfl rfl rfl fun a hF => ?_
  obtain ⟨g3, w7, ge3, hr, bb, o3⟩ := own_alloc (P := Try.prog) (w := w3) (cs := [.bool false, .slice none 0 0]) 37 ze_Int rfl (niB (niS ni0))
  replace ge3 : w.heap.size ≤ g3 := by rw [← ge3]; exact bel.size
  refine E.opv hF (r_alloc hr) rfl rfl rfl rfl fun a hF => ?_
  clear hr
  replace hh5 := hh5.below bb
  replace bel := below_to bel bb
  clear bb
  obtain ⟨w8, hr, tu, on⟩ := st_Int (vs := [.bool (decide (pz (S) < 0)), .slice ad6 n6 c6]) o3 rfl rfl (ocB (ocS oc0)) (niB (niS ni0)) (o := 0) rfl
  have kp := tu.keep o3
  refine E.st hF (r_store (hF.at 0 rfl) (hF.at 2 rfl) (hr _ rfl)) rfl rfl fun a hF => ?_
  clear hr
  replace hh5 := hh5.keep kp
  replace bel := tu.below bel ge3
  clear tu kp
  replace o3 := on
  clear on
  have hf9 := Wc.abs hh5
  refine E.opv hF (r_assign (hF.at 1 rfl)) rfl rfl rfl rfl fun a hF => ?_
  refine E.nil ?_
  refine wp_seq ?_
  refine E.seq ?_
  refine E.opv hF (r_move (hF.at 9 rfl)) rfl rfl rfl rfl fun a hF => ?_
  refine E.call hF (r_call Try.func21 en21.1 en21.2 (map1 (hF.at 0 rfl))) (rparse_any (S) _ h8S (by first | omega | decide)) rfl rfl rfl rfl ?_
  rintro e w10 ⟨vv11, rfl, hh12, bb⟩
  refine ⟨_, rfl, ?_⟩
  intro a hF
  replace hf9 := hf9.below bb
  replace hh5 := hh5.below bb
  replace o3 := o3.below bb
  replace bel := below_to bel bb
  clear bb
  obtain ⟨b13, ad13, n13, c13, rfl⟩ := Rz.form hh12
  refine E.opv hF (r_move (hF.at 0 rfl)) rfl rfl rfl rfl fun a hF => ?_
  refine E.opv hF (r_extract (v := .agg #[.bool b13, .slice ad13 n13 c13]) (hF.at 0 rfl) rfl) rfl rfl rfl rfl fun a hF => ?_
  refine E.opv hF (r_extract (v := .int .i64 (pe (S))) (hF.at 1 rfl) rfl) rfl rfl rfl rfl fun a hF => ?_
  obtain ⟨g5, w14, ge5, hr, bb, o5⟩ := own_alloc (P := Try.prog) (w := w10) (cs := [.bool false, .slice none 0 0]) 41 ze_RInt rfl (niB (niS ni0))
  have ne3_5 : g3 ≠ g5 := by rw [← ge5]; exact o3.ne_new
  replace ge5 : w.heap.size ≤ g5 := by rw [← ge5]; exact bel.size
  refine E.opv hF (r_alloc hr) rfl rfl rfl rfl fun a hF => ?_
  clear hr
  replace hh12 := hh12.below bb
  replace hf9 := hf9.below bb
  replace hh5 := hh5.below bb
  replace o3 := o3.below bb
  replace bel := below_to bel bb
  clear bb
  obtain ⟨w15, hr, tu, on⟩ := st_RInt (vs := [.bool b13, .slice ad13 n13 c13]) o5 rfl rfl (ocB (ocS oc0)) (niB (niS ni0)) (o := 0) rfl
  have kp := tu.keep o5
  refine E.st hF (r_store (hF.at 0 rfl) (hF.at 2 rfl) (hr _ rfl)) rfl rfl fun a hF => ?_
  clear hr
  replace hf9 := hf9.keep kp
  replace hh5 := hh5.keep kp
  replace hh12 := hh12.keep kp
  replace o3 := tu.own o3 ne3_5
  replace bel := tu.below bel ge5
  clear tu kp
  replace o5 := on
  clear on
  have hf16 := Rz.abs hh12
  refine E.opv hF (r_assign (hF.at 1 rfl)) rfl rfl rfl rfl fun a hF => ?_
  refine E.nil ?_
  refine wp_seq ?_
  refine E.seq ?_
  refine E.opv hF (r_move (hF.at 16 rfl)) rfl rfl rfl rfl fun a hF => ?_
  refine E.call hF (r_call Try.func22 en22.1 en22.2 (map1 (hF.at 0 rfl))) (dsmall_any (S) _ h8S (by first | omega | decide)) rfl rfl rfl rfl ?_
  rintro e w17 ⟨rfl, bb⟩
  refine ⟨_, rfl, ?_⟩
  intro a hF
  replace hf9 := hf9.below bb
  replace hh5 := hh5.below bb
  replace hf16 := hf16.below bb
  replace hh12 := hh12.below bb
  replace o3 := o3.below bb
  replace o5 := o5.below bb
  replace bel := below_to bel bb
  clear bb
  refine E.opv hF (r_move (hF.at 0 rfl)) rfl rfl rfl rfl fun a hF => ?_
  refine E.opv hF (r_extract (v := .int .i64 (sn (S))) (hF.at 0 rfl) rfl) rfl rfl rfl rfl fun a hF => ?_
  refine E.opv hF (r_extract (v := .int .i64 (se (S))) (hF.at 1 rfl) rfl) rfl rfl rfl rfl fun a hF => ?_
  refine E.opv hF (r_assign (hF.at 1 rfl)) rfl rfl rfl rfl fun a hF => ?_
  refine E.opv hF (r_assign (hF.at 1 rfl)) rfl rfl rfl rfl fun a hF => ?_
  refine E.nil ?_
  refine wp_seq ?_
  refine wp_seq ?_
  refine E.seq ?_
  refine E.opv hF (r_move (hF.at 14 rfl)) rfl rfl rfl rfl fun a hF => ?_
  refine E.opv hF (r_move (hF.at 8 rfl)) rfl rfl rfl rfl fun a hF => ?_
  refine E.opv hF (r_bin (hF.at 1 rfl) (hF.at 0 rfl) eg_scalar (bi_int (ic_neq (c := false) (by simp)) (by simp))) rfl rfl rfl rfl fun a hF => ?_
  refine E.opv hF (r_move (hF.at 0 rfl)) rfl rfl rfl rfl fun a hF => ?_
  refine E.opvg hF (r_load (hF.at 19 rfl) (ld_Int (vs := [.bool (decide (pz (S) < 0)), .slice ad6 n6 c6]) o3 rfl rfl)) (wanted_by rfl rfl (hF.at 0 rfl) rfl) rfl rfl rfl fun a hF => ?_
  refine E.opvg hF (r_load (hF.at 13 rfl) (ld_RInt (vs := [.bool b13, .slice ad13 n13 c13]) o5 rfl rfl)) (wanted_by rfl rfl (hF.at 1 rfl) rfl) rfl rfl rfl fun a hF => ?_
  refine E.callg hF (r_call Try.func19 en19.1 en19.2 (map2 (hF.at 1 rfl) (hF.at 0 rfl))) (Is3_any _ _ (pz (S)) _ hh5 hh12) (wanted_by rfl rfl (hF.at 2 rfl) rfl) rfl rfl rfl ?_
  rintro e w18 ⟨rfl, bb⟩
  refine ⟨_, rfl, ?_⟩
  intro a hF
  replace hf9 := hf9.below bb
  replace hh5 := hh5.below bb
  replace o3 := o3.below bb
  replace bel := below_to bel bb
  clear bb
  refine E.opvg hF (r_bin (hF.at 0 rfl) ev_c eg_scalar (bi_int (ic_neq (c := false) (by decide)) (by simp))) (wanted_by rfl rfl (hF.at 3 rfl) rfl) rfl rfl rfl fun a hF => ?_
  refine E.opv hF (r_pick_f (hF.at 4 rfl) (hF.at 0 rfl)) rfl rfl rfl rfl fun a hF => ?_
  refine E.opv hF (r_move (hF.at 0 rfl)) rfl rfl rfl rfl fun a hF => ?_
  refine E.opvg hF (r_move (hF.at 17 rfl)) (wanted_by rfl rfl (hF.at 0 rfl) rfl) rfl rfl rfl fun a hF => ?_
  by_cases hc19 : pe (S) = 0
  · first
    | (exfalso; omega)
    | (refine E.opvg hF (r_bin (hF.at 0 rfl) ev_c eg_scalar (bi_int (ic_eql (c := true) (dec_tt hc19)) (by simp))) (wanted_by rfl rfl (hF.at 1 rfl) rfl) rfl rfl rfl fun a hF => ?_
       refine E.opvg hF (r_move (hF.at 0 rfl)) (wanted_by rfl rfl (hF.at 2 rfl) rfl) rfl rfl rfl fun a hF => ?_
       refine E.opvg hF (r_load (hF.at 28 rfl) (ld_Int (vs := [.bool (decide (pz (S) < 0)), .slice ad6 n6 c6]) o3 rfl rfl)) (wanted_by rfl rfl (hF.at 0 rfl) rfl) rfl rfl rfl fun a hF => ?_
       refine E.callg hF (r_call Try.func16 en16.1 en16.2 (map1 (hF.at 0 rfl))) (dtext_any _ (pz (S)) (32 * 106) _ hh5 (lim_pow (pz_lim (S))) (by omega)) (wanted_by rfl rfl (hF.at 1 rfl) rfl) rfl rfl rfl ?_
       rintro e w20 ⟨rfl, bb⟩
       refine ⟨_, rfl, ?_⟩
       intro a hF
       replace hf9 := hf9.below bb
       replace hh5 := hh5.below bb
       replace o3 := o3.below bb
       replace bel := below_to bel bb
       clear bb
       refine E.opvg hF (r_move (hF.at 38 rfl)) (wanted_by rfl rfl (hF.at 2 rfl) rfl) rfl rfl rfl fun a hF => ?_
       refine E.opvg hF (r_bin (hF.at 1 rfl) (hF.at 0 rfl) eg_str (sb_ne (xs := tx (pz (S))) (ys := S) (strne_t (tx_pz (by assumption))))) (wanted_by rfl rfl (hF.at 3 rfl) rfl) rfl rfl rfl fun a hF => ?_
       refine E.opvg hF (r_pick_t (hF.at 4 rfl) (hF.at 0 rfl)) (wanted_by rfl rfl (hF.at 7 rfl) rfl) rfl rfl rfl fun a hF => ?_
       refine E.opv hF (r_pick_f (hF.at 8 rfl) (hF.at 0 rfl)) rfl rfl rfl rfl fun a hF => ?_
       refine E.nil ?_
       refine wp_cond_false (hF.at 0 rfl) ?_
       refine wp_skip ?_
       refine E.norm ?_
       refine wp_seq ?_
       refine E.seq ?_
       refine E.opv hF (r_load (hF.at 34 rfl) (ld_Int (vs := [.bool (decide (pz (S) < 0)), .slice ad6 n6 c6]) o3 rfl rfl)) rfl rfl rfl rfl fun a hF => ?_
       by_cases hc21 : fits (pz (S))
       · first
         | (exfalso; omega)
         | (refine E.call hF (r_call Try.func23 en23.1 en23.2 (map1 (hF.at 0 rfl))) (smallB_t (Wc.wz hh5) hc21) rfl rfl rfl rfl ?_
            rintro e w22 ⟨rfl, bb⟩
            refine ⟨_, rfl, ?_⟩
            intro a hF
            replace bel := below_to bel bb
            clear bb
            refine E.opv hF (r_move (hF.at 0 rfl)) rfl rfl rfl rfl fun a hF => ?_
            refine E.opv hF (r_extract (v := .int .i64 (pz (S))) (hF.at 0 rfl) rfl) rfl rfl rfl rfl fun a hF => ?_
            refine E.opv hF (r_extract (v := .bool true) (hF.at 1 rfl) rfl) rfl rfl rfl rfl fun a hF => ?_
            refine E.opv hF (r_assign (hF.at 1 rfl)) rfl rfl rfl rfl fun a hF => ?_
            refine E.opv hF (r_assign (hF.at 1 rfl)) rfl rfl rfl rfl fun a hF => ?_
            refine E.nil ?_
            refine wp_seq ?_
            refine wp_block ?_
            refine wp_seq ?_
            refine E.seq ?_
            refine E.opv hF (r_move (hF.at 33 rfl)) rfl rfl rfl rfl fun a hF => ?_
            by_cases hc23 : pe (S) ≠ 0
            · first
              | (exfalso; omega)
              | (refine E.opv hF (r_bin (hF.at 0 rfl) ev_c eg_scalar (bi_int (ic_neq (c := true) (dec_tt hc23)) (by simp))) rfl rfl rfl rfl fun a hF => ?_
                 refine E.opv hF (r_assign (hF.at 0 rfl)) rfl rfl rfl rfl fun a hF => ?_
                 refine E.nil ?_
                 refine wp_cond_true (hF.at 0 rfl) ?_
                 refine wp_seq ?_
                 refine E.seq ?_
                 refine E.opv hF (r_move (hF.at 29 rfl)) rfl rfl rfl rfl fun a hF => ?_
                 refine E.opv hF (r_move (hF.at 44 rfl)) rfl rfl rfl rfl fun a hF => ?_
                 refine E.opv hF (r_bin (hF.at 1 rfl) (hF.at 0 rfl) eg_scalar (bi_int (ic_eql (c := true) (dec_tt (sn_e (by assumption)).2.symm)) (by simp))) rfl rfl rfl rfl fun a hF => ?_
                 refine E.opv hF (r_move (hF.at 0 rfl)) rfl rfl rfl rfl fun a hF => ?_
                 refine E.opvg hF (r_move (hF.at 34 rfl)) (wanted_by rfl rfl (hF.at 0 rfl) rfl) rfl rfl rfl fun a hF => ?_
                 refine E.opvg hF (r_bin (hF.at 0 rfl) ev_c eg_scalar (bi_int (ic_eql (c := true) (dec_tt (by first | exact (sn_e (by assumption)).1.symm | exact (sn_f (by assumption) (by assumption)).1.symm))) (by simp))) (wanted_by rfl rfl (hF.at 1 rfl) rfl) rfl rfl rfl fun a hF => ?_
                 refine E.opv hF (r_pick_t (hF.at 2 rfl) (hF.at 0 rfl)) rfl rfl rfl rfl fun a hF => ?_
                 refine E.opset (L' := [(2, .bool true), (63, .bool true), (62, .bool true), (61, .int .i64 (sn (S))), (60, .bool true), (59, .bool true), (58, .int .i64 (pe (S))), (57, .int .i64 (se (S))), (54, .bool true), (56, .bool true), (55, .int .i64 (pe (S))), (10, .bool true), (9, .int .i64 (pz (S))), (53, .bool true), (52, .int .i64 (pz (S))), (49, .tuple #[.int .i64 (pz (S)), .bool true]), (51, .tuple #[.int .i64 (pz (S)), .bool true]), (50, .agg #[.bool (decide (pz (S) < 0)), .slice ad6 n6 c6]), (48, .bool false), (47, .bool false), (46, .bool false), (45, .string (bstr S)), (44, .string (bstr (tx (pz (S))))), (43, .agg #[.bool (decide (pz (S) < 0)), .slice ad6 n6 c6]), (42, .bool true), (41, .bool true), (40, .int .i64 (pe (S))), (39, .bool false), (38, .bool false), (37, .bool false), (36, .int .i64 0), (35, .agg #[.bool b13, .slice ad13 n13 c13]), (34, .agg #[.bool (decide (pz (S) < 0)), .slice ad6 n6 c6]), (33, .bool false), (32, .bool false), (31, .int .i64 (pe (S))), (30, .int .i64 (pe (S))), (8, .int .i64 (se (S))), (7, .int .i64 (sn (S))), (29, .int .i64 (se (S))), (28, .int .i64 (sn (S))), (25, .tuple #[.int .i64 (sn (S)), .int .i64 (se (S))]), (27, .tuple #[.int .i64 (sn (S)), .int .i64 (se (S))]), (26, .string (bstr S)), (6, .int .i64 (pe (S))), (5, .pointer (some ⟨g5, 0, none⟩)), (24, .int .i64 (pe (S))), (23, .agg #[.bool b13, .slice ad13 n13 c13]), (20, .tuple #[.agg #[.bool b13, .slice ad13 n13 c13], .int .i64 (pe (S))]), (22, .tuple #[.agg #[.bool b13, .slice ad13 n13 c13], .int .i64 (pe (S))]), (21, .string (bstr S)), (4, .int .i64 (pe (S))), (3, .pointer (some ⟨g3, 0, none⟩)), (19, .int .i64 (pe (S))), (18, .agg #[.bool (decide (pz (S) < 0)), .slice ad6 n6 c6]), (15, .tuple #[.agg #[.bool (decide (pz (S) < 0)), .slice ad6 n6 c6], .int .i64 (pe (S))]), (17, .tuple #[.agg #[.bool (decide (pz (S) < 0)), .slice ad6 n6 c6], .int .i64 (pe (S))]), (16, .string (bstr S)), (14, .bool false), (13, .bool true), (0, .string (bstr S)), (12, .string (bstr (List.take 60 (xs)))), (11, .string (bstr xs))]) hF (r_assign (hF.at 0 rfl)) rfl rfl rfl rfl fun a hF => ?_
                 refine E.nil ?_
                 refine wp_ret ?_
                 refine bodyPost_ret (res_tmp Try.results5 (hF.at 0 rfl)) hF.dfr ?_
                 exact ⟨rfl, bel⟩)
            · first
              | (exfalso; omega)
              | (refine E.opv hF (r_bin (hF.at 0 rfl) ev_c eg_scalar (bi_int (ic_neq (c := false) (dec_ff hc23)) (by simp))) rfl rfl rfl rfl fun a hF => ?_
                 refine E.opv hF (r_assign (hF.at 0 rfl)) rfl rfl rfl rfl fun a hF => ?_
                 refine E.nil ?_
                 refine wp_cond_false (hF.at 0 rfl) ?_
                 refine wp_seq ?_
                 refine E.seq ?_
                 refine E.opv hF (r_move (hF.at 3 rfl)) rfl rfl rfl rfl fun a hF => ?_
                 refine E.opv hF (r_un (hF.at 0 rfl) (bn_not _ false rfl)) rfl rfl rfl rfl fun a hF => ?_
                 refine E.opv hF (r_assign (hF.at 0 rfl)) rfl rfl rfl rfl fun a hF => ?_
                 refine E.nil ?_
                 refine wp_cond_false (hF.at 0 rfl) ?_
                 refine wp_skip ?_
                 refine E.blk ?_
                 refine E.norm ?_
                 refine wp_seq ?_
                 refine E.seq ?_
                 refine E.opv hF (r_move (hF.at 32 rfl)) rfl rfl rfl rfl fun a hF => ?_
                 refine E.opv hF (r_bin (hF.at 0 rfl) ev_c eg_scalar (bi_int (ic_eql (c := true) (dec_tt (sn_t (by assumption) (by assumption)).2.symm)) (by simp))) rfl rfl rfl rfl fun a hF => ?_
                 refine E.opv hF (r_move (hF.at 0 rfl)) rfl rfl rfl rfl fun a hF => ?_
                 refine E.opvg hF (r_move (hF.at 36 rfl)) (wanted_by rfl rfl (hF.at 0 rfl) rfl) rfl rfl rfl fun a hF => ?_
                 refine E.opvg hF (r_move (hF.at 11 rfl)) (wanted_by rfl rfl (hF.at 1 rfl) rfl) rfl rfl rfl fun a hF => ?_
                 refine E.opvg hF (r_bin (hF.at 1 rfl) (hF.at 0 rfl) eg_scalar (bi_int (ic_eql (c := true) (dec_tt (sn_t (by assumption) (by assumption)).1.symm)) (by simp))) (wanted_by rfl rfl (hF.at 2 rfl) rfl) rfl rfl rfl fun a hF => ?_
                 refine E.opv hF (r_pick_t (hF.at 3 rfl) (hF.at 0 rfl)) rfl rfl rfl rfl fun a hF => ?_
                 refine E.opset (L' := [(2, .bool true), (79, .bool true), (78, .bool true), (77, .int .i64 (pz (S))), (76, .int .i64 (sn (S))), (75, .bool true), (74, .bool true), (73, .int .i64 (se (S))), (64, .bool false), (66, .bool false), (65, .bool true), (54, .bool false), (56, .bool false), (55, .int .i64 (pe (S))), (10, .bool true), (9, .int .i64 (pz (S))), (53, .bool true), (52, .int .i64 (pz (S))), (49, .tuple #[.int .i64 (pz (S)), .bool true]), (51, .tuple #[.int .i64 (pz (S)), .bool true]), (50, .agg #[.bool (decide (pz (S) < 0)), .slice ad6 n6 c6]), (48, .bool false), (47, .bool false), (46, .bool false), (45, .string (bstr S)), (44, .string (bstr (tx (pz (S))))), (43, .agg #[.bool (decide (pz (S) < 0)), .slice ad6 n6 c6]), (42, .bool true), (41, .bool true), (40, .int .i64 (pe (S))), (39, .bool false), (38, .bool false), (37, .bool false), (36, .int .i64 0), (35, .agg #[.bool b13, .slice ad13 n13 c13]), (34, .agg #[.bool (decide (pz (S) < 0)), .slice ad6 n6 c6]), (33, .bool false), (32, .bool false), (31, .int .i64 (pe (S))), (30, .int .i64 (pe (S))), (8, .int .i64 (se (S))), (7, .int .i64 (sn (S))), (29, .int .i64 (se (S))), (28, .int .i64 (sn (S))), (25, .tuple #[.int .i64 (sn (S)), .int .i64 (se (S))]), (27, .tuple #[.int .i64 (sn (S)), .int .i64 (se (S))]), (26, .string (bstr S)), (6, .int .i64 (pe (S))), (5, .pointer (some ⟨g5, 0, none⟩)), (24, .int .i64 (pe (S))), (23, .agg #[.bool b13, .slice ad13 n13 c13]), (20, .tuple #[.agg #[.bool b13, .slice ad13 n13 c13], .int .i64 (pe (S))]), (22, .tuple #[.agg #[.bool b13, .slice ad13 n13 c13], .int .i64 (pe (S))]), (21, .string (bstr S)), (4, .int .i64 (pe (S))), (3, .pointer (some ⟨g3, 0, none⟩)), (19, .int .i64 (pe (S))), (18, .agg #[.bool (decide (pz (S) < 0)), .slice ad6 n6 c6]), (15, .tuple #[.agg #[.bool (decide (pz (S) < 0)), .slice ad6 n6 c6], .int .i64 (pe (S))]), (17, .tuple #[.agg #[.bool (decide (pz (S) < 0)), .slice ad6 n6 c6], .int .i64 (pe (S))]), (16, .string (bstr S)), (14, .bool false), (13, .bool true), (0, .string (bstr S)), (12, .string (bstr (List.take 60 (xs)))), (11, .string (bstr xs))]) hF (r_assign (hF.at 0 rfl)) rfl rfl rfl rfl fun a hF => ?_
                 refine E.nil ?_
                 refine wp_ret ?_
                 refine bodyPost_ret (res_tmp Try.results5 (hF.at 0 rfl)) hF.dfr ?_
                 exact ⟨rfl, bel⟩))
       · first
         | (exfalso; omega)
         | (refine E.call hF (r_call Try.func23 en23.1 en23.2 (map1 (hF.at 0 rfl))) (smallB_f (Wc.wz hh5) hc21) rfl rfl rfl rfl ?_
            rintro e w24 ⟨rfl, bb⟩
            refine ⟨_, rfl, ?_⟩
            intro a hF
            replace bel := below_to bel bb
            clear bb
            refine E.opv hF (r_move (hF.at 0 rfl)) rfl rfl rfl rfl fun a hF => ?_
            refine E.opv hF (r_extract (v := .int .i64 0) (hF.at 0 rfl) rfl) rfl rfl rfl rfl fun a hF => ?_
            refine E.opv hF (r_extract (v := .bool false) (hF.at 1 rfl) rfl) rfl rfl rfl rfl fun a hF => ?_
            refine E.opv hF (r_assign (hF.at 1 rfl)) rfl rfl rfl rfl fun a hF => ?_
            refine E.opv hF (r_assign (hF.at 1 rfl)) rfl rfl rfl rfl fun a hF => ?_
            refine E.nil ?_
            refine wp_seq ?_
            refine wp_block ?_
            refine wp_seq ?_
            refine E.seq ?_
            refine E.opv hF (r_move (hF.at 33 rfl)) rfl rfl rfl rfl fun a hF => ?_
            by_cases hc25 : pe (S) ≠ 0
            · first
              | (exfalso; omega)
              | (refine E.opv hF (r_bin (hF.at 0 rfl) ev_c eg_scalar (bi_int (ic_neq (c := true) (dec_tt hc25)) (by simp))) rfl rfl rfl rfl fun a hF => ?_
                 refine E.opv hF (r_assign (hF.at 0 rfl)) rfl rfl rfl rfl fun a hF => ?_
                 refine E.nil ?_
                 refine wp_cond_true (hF.at 0 rfl) ?_
                 refine wp_seq ?_
                 refine E.seq ?_
                 refine E.opv hF (r_move (hF.at 29 rfl)) rfl rfl rfl rfl fun a hF => ?_
                 refine E.opv hF (r_move (hF.at 44 rfl)) rfl rfl rfl rfl fun a hF => ?_
                 refine E.opv hF (r_bin (hF.at 1 rfl) (hF.at 0 rfl) eg_scalar (bi_int (ic_eql (c := true) (dec_tt (sn_e (by assumption)).2.symm)) (by simp))) rfl rfl rfl rfl fun a hF => ?_
                 refine E.opv hF (r_move (hF.at 0 rfl)) rfl rfl rfl rfl fun a hF => ?_
                 refine E.opvg hF (r_move (hF.at 34 rfl)) (wanted_by rfl rfl (hF.at 0 rfl) rfl) rfl rfl rfl fun a hF => ?_
                 refine E.opvg hF (r_bin (hF.at 0 rfl) ev_c eg_scalar (bi_int (ic_eql (c := true) (dec_tt (by first | exact (sn_e (by assumption)).1.symm | exact (sn_f (by assumption) (by assumption)).1.symm))) (by simp))) (wanted_by rfl rfl (hF.at 1 rfl) rfl) rfl rfl rfl fun a hF => ?_
                 refine E.opv hF (r_pick_t (hF.at 2 rfl) (hF.at 0 rfl)) rfl rfl rfl rfl fun a hF => ?_
                 refine E.opset (L' := [(2, .bool true), (63, .bool true), (62, .bool true), (61, .int .i64 (sn (S))), (60, .bool true), (59, .bool true), (58, .int .i64 (pe (S))), (57, .int .i64 (se (S))), (54, .bool true), (56, .bool true), (55, .int .i64 (pe (S))), (10, .bool false), (9, .int .i64 0), (53, .bool false), (52, .int .i64 0), (49, .tuple #[.int .i64 0, .bool false]), (51, .tuple #[.int .i64 0, .bool false]), (50, .agg #[.bool (decide (pz (S) < 0)), .slice ad6 n6 c6]), (48, .bool false), (47, .bool false), (46, .bool false), (45, .string (bstr S)), (44, .string (bstr (tx (pz (S))))), (43, .agg #[.bool (decide (pz (S) < 0)), .slice ad6 n6 c6]), (42, .bool true), (41, .bool true), (40, .int .i64 (pe (S))), (39, .bool false), (38, .bool false), (37, .bool false), (36, .int .i64 0), (35, .agg #[.bool b13, .slice ad13 n13 c13]), (34, .agg #[.bool (decide (pz (S) < 0)), .slice ad6 n6 c6]), (33, .bool false), (32, .bool false), (31, .int .i64 (pe (S))), (30, .int .i64 (pe (S))), (8, .int .i64 (se (S))), (7, .int .i64 (sn (S))), (29, .int .i64 (se (S))), (28, .int .i64 (sn (S))), (25, .tuple #[.int .i64 (sn (S)), .int .i64 (se (S))]), (27, .tuple #[.int .i64 (sn (S)), .int .i64 (se (S))]), (26, .string (bstr S)), (6, .int .i64 (pe (S))), (5, .pointer (some ⟨g5, 0, none⟩)), (24, .int .i64 (pe (S))), (23, .agg #[.bool b13, .slice ad13 n13 c13]), (20, .tuple #[.agg #[.bool b13, .slice ad13 n13 c13], .int .i64 (pe (S))]), (22, .tuple #[.agg #[.bool b13, .slice ad13 n13 c13], .int .i64 (pe (S))]), (21, .string (bstr S)), (4, .int .i64 (pe (S))), (3, .pointer (some ⟨g3, 0, none⟩)), (19, .int .i64 (pe (S))), (18, .agg #[.bool (decide (pz (S) < 0)), .slice ad6 n6 c6]), (15, .tuple #[.agg #[.bool (decide (pz (S) < 0)), .slice ad6 n6 c6], .int .i64 (pe (S))]), (17, .tuple #[.agg #[.bool (decide (pz (S) < 0)), .slice ad6 n6 c6], .int .i64 (pe (S))]), (16, .string (bstr S)), (14, .bool false), (13, .bool true), (0, .string (bstr S)), (12, .string (bstr (List.take 60 (xs)))), (11, .string (bstr xs))]) hF (r_assign (hF.at 0 rfl)) rfl rfl rfl rfl fun a hF => ?_
                 refine E.nil ?_
                 refine wp_ret ?_
                 refine bodyPost_ret (res_tmp Try.results5 (hF.at 0 rfl)) hF.dfr ?_
                 exact ⟨rfl, bel⟩)
            · first
              | (exfalso; omega)
              | (refine E.opv hF (r_bin (hF.at 0 rfl) ev_c eg_scalar (bi_int (ic_neq (c := false) (dec_ff hc25)) (by simp))) rfl rfl rfl rfl fun a hF => ?_
                 refine E.opv hF (r_assign (hF.at 0 rfl)) rfl rfl rfl rfl fun a hF => ?_
                 refine E.nil ?_
                 refine wp_cond_false (hF.at 0 rfl) ?_
                 refine wp_seq ?_
                 refine E.seq ?_
                 refine E.opv hF (r_move (hF.at 3 rfl)) rfl rfl rfl rfl fun a hF => ?_
                 refine E.opv hF (r_un (hF.at 0 rfl) (bn_not _ true rfl)) rfl rfl rfl rfl fun a hF => ?_
                 refine E.opv hF (r_assign (hF.at 0 rfl)) rfl rfl rfl rfl fun a hF => ?_
                 refine E.nil ?_
                 refine wp_cond_true (hF.at 0 rfl) ?_
                 refine wp_seq ?_
                 refine E.seq ?_
                 refine E.opv hF (r_move (hF.at 32 rfl)) rfl rfl rfl rfl fun a hF => ?_
                 refine E.opv hF (r_bin (hF.at 0 rfl) ev_c eg_scalar (bi_int (ic_eql (c := true) (dec_tt (sn_f (by assumption) (by assumption)).2.symm)) (by simp))) rfl rfl rfl rfl fun a hF => ?_
                 refine E.opv hF (r_move (hF.at 0 rfl)) rfl rfl rfl rfl fun a hF => ?_
                 refine E.opvg hF (r_move (hF.at 36 rfl)) (wanted_by rfl rfl (hF.at 0 rfl) rfl) rfl rfl rfl fun a hF => ?_
                 refine E.opvg hF (r_bin (hF.at 0 rfl) ev_c eg_scalar (bi_int (ic_eql (c := true) (dec_tt (by first | exact (sn_e (by assumption)).1.symm | exact (sn_f (by assumption) (by assumption)).1.symm))) (by simp))) (wanted_by rfl rfl (hF.at 1 rfl) rfl) rfl rfl rfl fun a hF => ?_
                 refine E.opv hF (r_pick_t (hF.at 2 rfl) (hF.at 0 rfl)) rfl rfl rfl rfl fun a hF => ?_
                 refine E.opset (L' := [(2, .bool true), (72, .bool true), (71, .bool true), (70, .int .i64 (sn (S))), (69, .bool true), (68, .bool true), (67, .int .i64 (se (S))), (64, .bool true), (66, .bool true), (65, .bool false), (54, .bool false), (56, .bool false), (55, .int .i64 (pe (S))), (10, .bool false), (9, .int .i64 0), (53, .bool false), (52, .int .i64 0), (49, .tuple #[.int .i64 0, .bool false]), (51, .tuple #[.int .i64 0, .bool false]), (50, .agg #[.bool (decide (pz (S) < 0)), .slice ad6 n6 c6]), (48, .bool false), (47, .bool false), (46, .bool false), (45, .string (bstr S)), (44, .string (bstr (tx (pz (S))))), (43, .agg #[.bool (decide (pz (S) < 0)), .slice ad6 n6 c6]), (42, .bool true), (41, .bool true), (40, .int .i64 (pe (S))), (39, .bool false), (38, .bool false), (37, .bool false), (36, .int .i64 0), (35, .agg #[.bool b13, .slice ad13 n13 c13]), (34, .agg #[.bool (decide (pz (S) < 0)), .slice ad6 n6 c6]), (33, .bool false), (32, .bool false), (31, .int .i64 (pe (S))), (30, .int .i64 (pe (S))), (8, .int .i64 (se (S))), (7, .int .i64 (sn (S))), (29, .int .i64 (se (S))), (28, .int .i64 (sn (S))), (25, .tuple #[.int .i64 (sn (S)), .int .i64 (se (S))]), (27, .tuple #[.int .i64 (sn (S)), .int .i64 (se (S))]), (26, .string (bstr S)), (6, .int .i64 (pe (S))), (5, .pointer (some ⟨g5, 0, none⟩)), (24, .int .i64 (pe (S))), (23, .agg #[.bool b13, .slice ad13 n13 c13]), (20, .tuple #[.agg #[.bool b13, .slice ad13 n13 c13], .int .i64 (pe (S))]), (22, .tuple #[.agg #[.bool b13, .slice ad13 n13 c13], .int .i64 (pe (S))]), (21, .string (bstr S)), (4, .int .i64 (pe (S))), (3, .pointer (some ⟨g3, 0, none⟩)), (19, .int .i64 (pe (S))), (18, .agg #[.bool (decide (pz (S) < 0)), .slice ad6 n6 c6]), (15, .tuple #[.agg #[.bool (decide (pz (S) < 0)), .slice ad6 n6 c6], .int .i64 (pe (S))]), (17, .tuple #[.agg #[.bool (decide (pz (S) < 0)), .slice ad6 n6 c6], .int .i64 (pe (S))]), (16, .string (bstr S)), (14, .bool false), (13, .bool true), (0, .string (bstr S)), (12, .string (bstr (List.take 60 (xs)))), (11, .string (bstr xs))]) hF (r_assign (hF.at 0 rfl)) rfl rfl rfl rfl fun a hF => ?_
                 refine E.nil ?_
                 refine wp_ret ?_
                 refine bodyPost_ret (res_tmp Try.results5 (hF.at 0 rfl)) hF.dfr ?_
                 exact ⟨rfl, bel⟩)))
  · first
    | (exfalso; omega)
    | (refine E.opvg hF (r_bin (hF.at 0 rfl) ev_c eg_scalar (bi_int (ic_eql (c := false) (dec_ff hc19)) (by simp))) (wanted_by rfl rfl (hF.at 1 rfl) rfl) rfl rfl rfl fun a hF => ?_
       refine E.opvg hF (r_move (hF.at 0 rfl)) (wanted_by rfl rfl (hF.at 2 rfl) rfl) rfl rfl rfl fun a hF => ?_
       refine E.unwanted hF (wanted_by rfl rfl (hF.at 0 rfl) rfl) rfl rfl rfl fun a hF => ?_
       refine E.unwanted hF (wanted_by rfl rfl (hF.at 1 rfl) rfl) rfl rfl rfl fun a hF => ?_
       refine E.unwanted hF (wanted_by rfl rfl (hF.at 2 rfl) rfl) rfl rfl rfl fun a hF => ?_
       refine E.unwanted hF (wanted_by rfl rfl (hF.at 3 rfl) rfl) rfl rfl rfl fun a hF => ?_
       refine E.opvg hF (r_pick_f (hF.at 4 rfl) ev_c) (wanted_by rfl rfl (hF.at 7 rfl) rfl) rfl rfl rfl fun a hF => ?_
       refine E.opv hF (r_pick_f (hF.at 8 rfl) (hF.at 0 rfl)) rfl rfl rfl rfl fun a hF => ?_
       refine E.nil ?_
       refine wp_cond_false (hF.at 0 rfl) ?_
       refine wp_skip ?_
       refine E.norm ?_
       refine wp_seq ?_
       refine E.seq ?_
       refine E.opv hF (r_load (hF.at 34 rfl) (ld_Int (vs := [.bool (decide (pz (S) < 0)), .slice ad6 n6 c6]) o3 rfl rfl)) rfl rfl rfl rfl fun a hF => ?_
       by_cases hc26 : fits (pz (S))
       · first
         | (exfalso; omega)
         | (refine E.call hF (r_call Try.func23 en23.1 en23.2 (map1 (hF.at 0 rfl))) (smallB_t (Wc.wz hh5) hc26) rfl rfl rfl rfl ?_
            rintro e w27 ⟨rfl, bb⟩
            refine ⟨_, rfl, ?_⟩
            intro a hF
            replace bel := below_to bel bb
            clear bb
            refine E.opv hF (r_move (hF.at 0 rfl)) rfl rfl rfl rfl fun a hF => ?_
            refine E.opv hF (r_extract (v := .int .i64 (pz (S))) (hF.at 0 rfl) rfl) rfl rfl rfl rfl fun a hF => ?_
            refine E.opv hF (r_extract (v := .bool true) (hF.at 1 rfl) rfl) rfl rfl rfl rfl fun a hF => ?_
            refine E.opv hF (r_assign (hF.at 1 rfl)) rfl rfl rfl rfl fun a hF => ?_
            refine E.opv hF (r_assign (hF.at 1 rfl)) rfl rfl rfl rfl fun a hF => ?_
            refine E.nil ?_
            refine wp_seq ?_
            refine wp_block ?_
            refine wp_seq ?_
            refine E.seq ?_
            refine E.opv hF (r_move (hF.at 33 rfl)) rfl rfl rfl rfl fun a hF => ?_
            by_cases hc28 : pe (S) ≠ 0
            · first
              | (exfalso; omega)
              | (refine E.opv hF (r_bin (hF.at 0 rfl) ev_c eg_scalar (bi_int (ic_neq (c := true) (dec_tt hc28)) (by simp))) rfl rfl rfl rfl fun a hF => ?_
                 refine E.opv hF (r_assign (hF.at 0 rfl)) rfl rfl rfl rfl fun a hF => ?_
                 refine E.nil ?_
                 refine wp_cond_true (hF.at 0 rfl) ?_
                 refine wp_seq ?_
                 refine E.seq ?_
                 refine E.opv hF (r_move (hF.at 29 rfl)) rfl rfl rfl rfl fun a hF => ?_
                 refine E.opv hF (r_move (hF.at 44 rfl)) rfl rfl rfl rfl fun a hF => ?_
                 refine E.opv hF (r_bin (hF.at 1 rfl) (hF.at 0 rfl) eg_scalar (bi_int (ic_eql (c := true) (dec_tt (sn_e (by assumption)).2.symm)) (by simp))) rfl rfl rfl rfl fun a hF => ?_
                 refine E.opv hF (r_move (hF.at 0 rfl)) rfl rfl rfl rfl fun a hF => ?_
                 refine E.opvg hF (r_move (hF.at 34 rfl)) (wanted_by rfl rfl (hF.at 0 rfl) rfl) rfl rfl rfl fun a hF => ?_
                 refine E.opvg hF (r_bin (hF.at 0 rfl) ev_c eg_scalar (bi_int (ic_eql (c := true) (dec_tt (by first | exact (sn_e (by assumption)).1.symm | exact (sn_f (by assumption) (by assumption)).1.symm))) (by simp))) (wanted_by rfl rfl (hF.at 1 rfl) rfl) rfl rfl rfl fun a hF => ?_
                 refine E.opv hF (r_pick_t (hF.at 2 rfl) (hF.at 0 rfl)) rfl rfl rfl rfl fun a hF => ?_
                 refine E.opset (L' := [(2, .bool true), (63, .bool true), (62, .bool true), (61, .int .i64 (sn (S))), (60, .bool true), (59, .bool true), (58, .int .i64 (pe (S))), (57, .int .i64 (se (S))), (54, .bool true), (56, .bool true), (55, .int .i64 (pe (S))), (10, .bool true), (9, .int .i64 (pz (S))), (53, .bool true), (52, .int .i64 (pz (S))), (49, .tuple #[.int .i64 (pz (S)), .bool true]), (51, .tuple #[.int .i64 (pz (S)), .bool true]), (50, .agg #[.bool (decide (pz (S) < 0)), .slice ad6 n6 c6]), (48, .bool false), (47, .bool false), (46, undef), (45, undef), (44, undef), (43, undef), (42, .bool false), (41, .bool false), (40, .int .i64 (pe (S))), (39, .bool false), (38, .bool false), (37, .bool false), (36, .int .i64 0), (35, .agg #[.bool b13, .slice ad13 n13 c13]), (34, .agg #[.bool (decide (pz (S) < 0)), .slice ad6 n6 c6]), (33, .bool false), (32, .bool false), (31, .int .i64 (pe (S))), (30, .int .i64 (pe (S))), (8, .int .i64 (se (S))), (7, .int .i64 (sn (S))), (29, .int .i64 (se (S))), (28, .int .i64 (sn (S))), (25, .tuple #[.int .i64 (sn (S)), .int .i64 (se (S))]), (27, .tuple #[.int .i64 (sn (S)), .int .i64 (se (S))]), (26, .string (bstr S)), (6, .int .i64 (pe (S))), (5, .pointer (some ⟨g5, 0, none⟩)), (24, .int .i64 (pe (S))), (23, .agg #[.bool b13, .slice ad13 n13 c13]), (20, .tuple #[.agg #[.bool b13, .slice ad13 n13 c13], .int .i64 (pe (S))]), (22, .tuple #[.agg #[.bool b13, .slice ad13 n13 c13], .int .i64 (pe (S))]), (21, .string (bstr S)), (4, .int .i64 (pe (S))), (3, .pointer (some ⟨g3, 0, none⟩)), (19, .int .i64 (pe (S))), (18, .agg #[.bool (decide (pz (S) < 0)), .slice ad6 n6 c6]), (15, .tuple #[.agg #[.bool (decide (pz (S) < 0)), .slice ad6 n6 c6], .int .i64 (pe (S))]), (17, .tuple #[.agg #[.bool (decide (pz (S) < 0)), .slice ad6 n6 c6], .int .i64 (pe (S))]), (16, .string (bstr S)), (14, .bool false), (13, .bool true), (0, .string (bstr S)), (12, .string (bstr (List.take 60 (xs)))), (11, .string (bstr xs))]) hF (r_assign (hF.at 0 rfl)) rfl rfl rfl rfl fun a hF => ?_
                 refine E.nil ?_
                 refine wp_ret ?_
                 refine bodyPost_ret (res_tmp Try.results5 (hF.at 0 rfl)) hF.dfr ?_
                 exact ⟨rfl, bel⟩)
            · first
              | (exfalso; omega)
              | (refine E.opv hF (r_bin (hF.at 0 rfl) ev_c eg_scalar (bi_int (ic_neq (c := false) (dec_ff hc28)) (by simp))) rfl rfl rfl rfl fun a hF => ?_
                 refine E.opv hF (r_assign (hF.at 0 rfl)) rfl rfl rfl rfl fun a hF => ?_
                 refine E.nil ?_
                 refine wp_cond_false (hF.at 0 rfl) ?_
                 refine wp_seq ?_
                 refine E.seq ?_
                 refine E.opv hF (r_move (hF.at 3 rfl)) rfl rfl rfl rfl fun a hF => ?_
                 refine E.opv hF (r_un (hF.at 0 rfl) (bn_not _ false rfl)) rfl rfl rfl rfl fun a hF => ?_
                 refine E.opv hF (r_assign (hF.at 0 rfl)) rfl rfl rfl rfl fun a hF => ?_
                 refine E.nil ?_
                 refine wp_cond_false (hF.at 0 rfl) ?_
                 refine wp_skip ?_
                 refine E.blk ?_
                 refine E.norm ?_
                 refine wp_seq ?_
                 refine E.seq ?_
                 refine E.opv hF (r_move (hF.at 32 rfl)) rfl rfl rfl rfl fun a hF => ?_
                 refine E.opv hF (r_bin (hF.at 0 rfl) ev_c eg_scalar (bi_int (ic_eql (c := true) (dec_tt (sn_t (by assumption) (by assumption)).2.symm)) (by simp))) rfl rfl rfl rfl fun a hF => ?_
                 refine E.opv hF (r_move (hF.at 0 rfl)) rfl rfl rfl rfl fun a hF => ?_
                 refine E.opvg hF (r_move (hF.at 36 rfl)) (wanted_by rfl rfl (hF.at 0 rfl) rfl) rfl rfl rfl fun a hF => ?_
                 refine E.opvg hF (r_move (hF.at 11 rfl)) (wanted_by rfl rfl (hF.at 1 rfl) rfl) rfl rfl rfl fun a hF => ?_
                 refine E.opvg hF (r_bin (hF.at 1 rfl) (hF.at 0 rfl) eg_scalar (bi_int (ic_eql (c := true) (dec_tt (sn_t (by assumption) (by assumption)).1.symm)) (by simp))) (wanted_by rfl rfl (hF.at 2 rfl) rfl) rfl rfl rfl fun a hF => ?_
                 refine E.opv hF (r_pick_t (hF.at 3 rfl) (hF.at 0 rfl)) rfl rfl rfl rfl fun a hF => ?_
                 refine E.opset (L' := [(2, .bool true), (79, .bool true), (78, .bool true), (77, .int .i64 (pz (S))), (76, .int .i64 (sn (S))), (75, .bool true), (74, .bool true), (73, .int .i64 (se (S))), (64, .bool false), (66, .bool false), (65, .bool true), (54, .bool false), (56, .bool false), (55, .int .i64 (pe (S))), (10, .bool true), (9, .int .i64 (pz (S))), (53, .bool true), (52, .int .i64 (pz (S))), (49, .tuple #[.int .i64 (pz (S)), .bool true]), (51, .tuple #[.int .i64 (pz (S)), .bool true]), (50, .agg #[.bool (decide (pz (S) < 0)), .slice ad6 n6 c6]), (48, .bool false), (47, .bool false), (46, undef), (45, undef), (44, undef), (43, undef), (42, .bool false), (41, .bool false), (40, .int .i64 (pe (S))), (39, .bool false), (38, .bool false), (37, .bool false), (36, .int .i64 0), (35, .agg #[.bool b13, .slice ad13 n13 c13]), (34, .agg #[.bool (decide (pz (S) < 0)), .slice ad6 n6 c6]), (33, .bool false), (32, .bool false), (31, .int .i64 (pe (S))), (30, .int .i64 (pe (S))), (8, .int .i64 (se (S))), (7, .int .i64 (sn (S))), (29, .int .i64 (se (S))), (28, .int .i64 (sn (S))), (25, .tuple #[.int .i64 (sn (S)), .int .i64 (se (S))]), (27, .tuple #[.int .i64 (sn (S)), .int .i64 (se (S))]), (26, .string (bstr S)), (6, .int .i64 (pe (S))), (5, .pointer (some ⟨g5, 0, none⟩)), (24, .int .i64 (pe (S))), (23, .agg #[.bool b13, .slice ad13 n13 c13]), (20, .tuple #[.agg #[.bool b13, .slice ad13 n13 c13], .int .i64 (pe (S))]), (22, .tuple #[.agg #[.bool b13, .slice ad13 n13 c13], .int .i64 (pe (S))]), (21, .string (bstr S)), (4, .int .i64 (pe (S))), (3, .pointer (some ⟨g3, 0, none⟩)), (19, .int .i64 (pe (S))), (18, .agg #[.bool (decide (pz (S) < 0)), .slice ad6 n6 c6]), (15, .tuple #[.agg #[.bool (decide (pz (S) < 0)), .slice ad6 n6 c6], .int .i64 (pe (S))]), (17, .tuple #[.agg #[.bool (decide (pz (S) < 0)), .slice ad6 n6 c6], .int .i64 (pe (S))]), (16, .string (bstr S)), (14, .bool false), (13, .bool true), (0, .string (bstr S)), (12, .string (bstr (List.take 60 (xs)))), (11, .string (bstr xs))]) hF (r_assign (hF.at 0 rfl)) rfl rfl rfl rfl fun a hF => ?_
                 refine E.nil ?_
                 refine wp_ret ?_
                 refine bodyPost_ret (res_tmp Try.results5 (hF.at 0 rfl)) hF.dfr ?_
                 exact ⟨rfl, bel⟩))
       · first
         | (exfalso; omega)
         | (refine E.call hF (r_call Try.func23 en23.1 en23.2 (map1 (hF.at 0 rfl))) (smallB_f (Wc.wz hh5) hc26) rfl rfl rfl rfl ?_
            rintro e w29 ⟨rfl, bb⟩
            refine ⟨_, rfl, ?_⟩
            intro a hF
            replace bel := below_to bel bb
            clear bb
            refine E.opv hF (r_move (hF.at 0 rfl)) rfl rfl rfl rfl fun a hF => ?_
            refine E.opv hF (r_extract (v := .int .i64 0) (hF.at 0 rfl) rfl) rfl rfl rfl rfl fun a hF => ?_
            refine E.opv hF (r_extract (v := .bool false) (hF.at 1 rfl) rfl) rfl rfl rfl rfl fun a hF => ?_
            refine E.opv hF (r_assign (hF.at 1 rfl)) rfl rfl rfl rfl fun a hF => ?_
            refine E.opv hF (r_assign (hF.at 1 rfl)) rfl rfl rfl rfl fun a hF => ?_
            refine E.nil ?_
            refine wp_seq ?_
            refine wp_block ?_
            refine wp_seq ?_
            refine E.seq ?_
            refine E.opv hF (r_move (hF.at 33 rfl)) rfl rfl rfl rfl fun a hF => ?_
            by_cases hc30 : pe (S) ≠ 0
            · first
              | (exfalso; omega)
              | (refine E.opv hF (r_bin (hF.at 0 rfl) ev_c eg_scalar (bi_int (ic_neq (c := true) (dec_tt hc30)) (by simp))) rfl rfl rfl rfl fun a hF => ?_
                 refine E.opv hF (r_assign (hF.at 0 rfl)) rfl rfl rfl rfl fun a hF => ?_
                 refine E.nil ?_
                 refine wp_cond_true (hF.at 0 rfl) ?_
                 refine wp_seq ?_
                 refine E.seq ?_
                 refine E.opv hF (r_move (hF.at 29 rfl)) rfl rfl rfl rfl fun a hF => ?_
                 refine E.opv hF (r_move (hF.at 44 rfl)) rfl rfl rfl rfl fun a hF => ?_
                 refine E.opv hF (r_bin (hF.at 1 rfl) (hF.at 0 rfl) eg_scalar (bi_int (ic_eql (c := true) (dec_tt (sn_e (by assumption)).2.symm)) (by simp))) rfl rfl rfl rfl fun a hF => ?_
                 refine E.opv hF (r_move (hF.at 0 rfl)) rfl rfl rfl rfl fun a hF => ?_
                 refine E.opvg hF (r_move (hF.at 34 rfl)) (wanted_by rfl rfl (hF.at 0 rfl) rfl) rfl rfl rfl fun a hF => ?_
                 refine E.opvg hF (r_bin (hF.at 0 rfl) ev_c eg_scalar (bi_int (ic_eql (c := true) (dec_tt (by first | exact (sn_e (by assumption)).1.symm | exact (sn_f (by assumption) (by assumption)).1.symm))) (by simp))) (wanted_by rfl rfl (hF.at 1 rfl) rfl) rfl rfl rfl fun a hF => ?_
                 refine E.opv hF (r_pick_t (hF.at 2 rfl) (hF.at 0 rfl)) rfl rfl rfl rfl fun a hF => ?_
                 refine E.opset (L' := [(2, .bool true), (63, .bool true), (62, .bool true), (61, .int .i64 (sn (S))), (60, .bool true), (59, .bool true), (58, .int .i64 (pe (S))), (57, .int .i64 (se (S))), (54, .bool true), (56, .bool true), (55, .int .i64 (pe (S))), (10, .bool false), (9, .int .i64 0), (53, .bool false), (52, .int .i64 0), (49, .tuple #[.int .i64 0, .bool false]), (51, .tuple #[.int .i64 0, .bool false]), (50, .agg #[.bool (decide (pz (S) < 0)), .slice ad6 n6 c6]), (48, .bool false), (47, .bool false), (46, undef), (45, undef), (44, undef), (43, undef), (42, .bool false), (41, .bool false), (40, .int .i64 (pe (S))), (39, .bool false), (38, .bool false), (37, .bool false), (36, .int .i64 0), (35, .agg #[.bool b13, .slice ad13 n13 c13]), (34, .agg #[.bool (decide (pz (S) < 0)), .slice ad6 n6 c6]), (33, .bool false), (32, .bool false), (31, .int .i64 (pe (S))), (30, .int .i64 (pe (S))), (8, .int .i64 (se (S))), (7, .int .i64 (sn (S))), (29, .int .i64 (se (S))), (28, .int .i64 (sn (S))), (25, .tuple #[.int .i64 (sn (S)), .int .i64 (se (S))]), (27, .tuple #[.int .i64 (sn (S)), .int .i64 (se (S))]), (26, .string (bstr S)), (6, .int .i64 (pe (S))), (5, .pointer (some ⟨g5, 0, none⟩)), (24, .int .i64 (pe (S))), (23, .agg #[.bool b13, .slice ad13 n13 c13]), (20, .tuple #[.agg #[.bool b13, .slice ad13 n13 c13], .int .i64 (pe (S))]), (22, .tuple #[.agg #[.bool b13, .slice ad13 n13 c13], .int .i64 (pe (S))]), (21, .string (bstr S)), (4, .int .i64 (pe (S))), (3, .pointer (some ⟨g3, 0, none⟩)), (19, .int .i64 (pe (S))), (18, .agg #[.bool (decide (pz (S) < 0)), .slice ad6 n6 c6]), (15, .tuple #[.agg #[.bool (decide (pz (S) < 0)), .slice ad6 n6 c6], .int .i64 (pe (S))]), (17, .tuple #[.agg #[.bool (decide (pz (S) < 0)), .slice ad6 n6 c6], .int .i64 (pe (S))]), (16, .string (bstr S)), (14, .bool false), (13, .bool true), (0, .string (bstr S)), (12, .string (bstr (List.take 60 (xs)))), (11, .string (bstr xs))]) hF (r_assign (hF.at 0 rfl)) rfl rfl rfl rfl fun a hF => ?_
                 refine E.nil ?_
                 refine wp_ret ?_
                 refine bodyPost_ret (res_tmp Try.results5 (hF.at 0 rfl)) hF.dfr ?_
                 exact ⟨rfl, bel⟩)
            · first
              | (exfalso; omega)
              | (refine E.opv hF (r_bin (hF.at 0 rfl) ev_c eg_scalar (bi_int (ic_neq (c := false) (dec_ff hc30)) (by simp))) rfl rfl rfl rfl fun a hF => ?_
                 refine E.opv hF (r_assign (hF.at 0 rfl)) rfl rfl rfl rfl fun a hF => ?_
                 refine E.nil ?_
                 refine wp_cond_false (hF.at 0 rfl) ?_
                 refine wp_seq ?_
                 refine E.seq ?_
                 refine E.opv hF (r_move (hF.at 3 rfl)) rfl rfl rfl rfl fun a hF => ?_
                 refine E.opv hF (r_un (hF.at 0 rfl) (bn_not _ true rfl)) rfl rfl rfl rfl fun a hF => ?_
                 refine E.opv hF (r_assign (hF.at 0 rfl)) rfl rfl rfl rfl fun a hF => ?_
                 refine E.nil ?_
                 refine wp_cond_true (hF.at 0 rfl) ?_
                 refine wp_seq ?_
                 refine E.seq ?_
                 refine E.opv hF (r_move (hF.at 32 rfl)) rfl rfl rfl rfl fun a hF => ?_
                 refine E.opv hF (r_bin (hF.at 0 rfl) ev_c eg_scalar (bi_int (ic_eql (c := true) (dec_tt (sn_f (by assumption) (by assumption)).2.symm)) (by simp))) rfl rfl rfl rfl fun a hF => ?_
                 refine E.opv hF (r_move (hF.at 0 rfl)) rfl rfl rfl rfl fun a hF => ?_
                 refine E.opvg hF (r_move (hF.at 36 rfl)) (wanted_by rfl rfl (hF.at 0 rfl) rfl) rfl rfl rfl fun a hF => ?_
                 refine E.opvg hF (r_bin (hF.at 0 rfl) ev_c eg_scalar (bi_int (ic_eql (c := true) (dec_tt (by first | exact (sn_e (by assumption)).1.symm | exact (sn_f (by assumption) (by assumption)).1.symm))) (by simp))) (wanted_by rfl rfl (hF.at 1 rfl) rfl) rfl rfl rfl fun a hF => ?_
                 refine E.opv hF (r_pick_t (hF.at 2 rfl) (hF.at 0 rfl)) rfl rfl rfl rfl fun a hF => ?_
                 refine E.opset (L' := [(2, .bool true), (72, .bool true), (71, .bool true), (70, .int .i64 (sn (S))), (69, .bool true), (68, .bool true), (67, .int .i64 (se (S))), (64, .bool true), (66, .bool true), (65, .bool false), (54, .bool false), (56, .bool false), (55, .int .i64 (pe (S))), (10, .bool false), (9, .int .i64 0), (53, .bool false), (52, .int .i64 0), (49, .tuple #[.int .i64 0, .bool false]), (51, .tuple #[.int .i64 0, .bool false]), (50, .agg #[.bool (decide (pz (S) < 0)), .slice ad6 n6 c6]), (48, .bool false), (47, .bool false), (46, undef), (45, undef), (44, undef), (43, undef), (42, .bool false), (41, .bool false), (40, .int .i64 (pe (S))), (39, .bool false), (38, .bool false), (37, .bool false), (36, .int .i64 0), (35, .agg #[.bool b13, .slice ad13 n13 c13]), (34, .agg #[.bool (decide (pz (S) < 0)), .slice ad6 n6 c6]), (33, .bool false), (32, .bool false), (31, .int .i64 (pe (S))), (30, .int .i64 (pe (S))), (8, .int .i64 (se (S))), (7, .int .i64 (sn (S))), (29, .int .i64 (se (S))), (28, .int .i64 (sn (S))), (25, .tuple #[.int .i64 (sn (S)), .int .i64 (se (S))]), (27, .tuple #[.int .i64 (sn (S)), .int .i64 (se (S))]), (26, .string (bstr S)), (6, .int .i64 (pe (S))), (5, .pointer (some ⟨g5, 0, none⟩)), (24, .int .i64 (pe (S))), (23, .agg #[.bool b13, .slice ad13 n13 c13]), (20, .tuple #[.agg #[.bool b13, .slice ad13 n13 c13], .int .i64 (pe (S))]), (22, .tuple #[.agg #[.bool b13, .slice ad13 n13 c13], .int .i64 (pe (S))]), (21, .string (bstr S)), (4, .int .i64 (pe (S))), (3, .pointer (some ⟨g3, 0, none⟩)), (19, .int .i64 (pe (S))), (18, .agg #[.bool (decide (pz (S) < 0)), .slice ad6 n6 c6]), (15, .tuple #[.agg #[.bool (decide (pz (S) < 0)), .slice ad6 n6 c6], .int .i64 (pe (S))]), (17, .tuple #[.agg #[.bool (decide (pz (S) < 0)), .slice ad6 n6 c6], .int .i64 (pe (S))]), (16, .string (bstr S)), (14, .bool false), (13, .bool true), (0, .string (bstr S)), (12, .string (bstr (List.take 60 (xs)))), (11, .string (bstr xs))]) hF (r_assign (hF.at 0 rfl)) rfl rfl rfl rfl fun a hF => ?_
                 refine E.nil ?_
                 refine wp_ret ?_
                 refine bodyPost_ret (res_tmp Try.results5 (hF.at 0 rfl)) hF.dfr ?_
                 exact ⟨rfl, bel⟩)))

end Go.Proofs.Ythoiocjbjfhgpaa
