/- CutReads. -/
import Derived.Test.YthoiocjbjfhgpaaGreatCuP
import Derived.Test.YthoiocjbjfhgpaaGreatCuD
namespace Go.Proofs.YthoiocjbjfhgpaaGreat
open Go.RowKit
set_option maxRecDepth 100000
set_option linter.unusedVariables false

theorem bstr_of (s : ByteArray) : ∃ xs : List Nat, s = bstr xs ∧ okb 256 xs := by
  refine ⟨s.data.toList.map UInt8.toNat, ?_, ?_⟩
  · apply ByteArray.ext
    simp [bstr, List.map_map, Function.comp_def]
  · intro x hx
    obtain ⟨y, _, rfl⟩ := List.mem_map.1 hx
    exact UInt8.toNat_lt y
set_option maxHeartbeats 1000000 in
theorem scutn_any (xs : List Nat) (n : Nat) (w : World) :
    Calls Tryz.prog 46 #[.string (bstr xs), .int .i64 ((n : Nat) : Int)] w (ValPost w (.string (bstr (List.take n xs)))) := by
  have bel : Below w.heap.size w w := Below.refl _ _
  refine E.enter (nt := 13) (L := [(0, .string (bstr xs)), (1, .int .i64 ((n : Nat) : Int))]) Tryz.func46 rfl rfl rfl (args_cons (i := 0) rfl (args_cons (i := 1) rfl args_nil)) ?_
  intro a hF
  refine wp_seq ?_
  refine E.seq ?_
  refine E.opv hF (r_assign ev_c) rfl rfl rfl rfl fun a hF => ?_
  refine E.nil ?_
  refine wp_seq ?_
  refine wp_seq ?_
  refine E.seq ?_
  refine E.opv hF (r_move (hF.at 1 rfl)) rfl rfl rfl rfl fun a hF => ?_
  refine E.opv hF (r_builtin (map1 (hF.at 0 rfl)) (bl_str Tryz.underlying9)) rfl rfl rfl rfl fun a hF => ?_
  refine E.opv hF (r_move (hF.at 4 rfl)) rfl rfl rfl rfl fun a hF => ?_
  by_cases hc1 : ((n : Nat) : Int) < ((List.length (xs) : Nat) : Int)
  · refine E.opv hF (r_bin (hF.at 1 rfl) (hF.at 0 rfl) eg_scalar (bi_int (ic_gtr (c := true) (dec_tt hc1)) (by simp))) rfl rfl rfl rfl fun a hF => ?_
    refine E.nil ?_
    refine wp_cond_true (hF.at 0 rfl) ?_
    refine wp_seq ?_
    refine E.seq ?_
    refine E.opv hF (r_move (hF.at 5 rfl)) rfl rfl rfl rfl fun a hF => ?_
    refine E.opv hF (r_move (hF.at 7 rfl)) rfl rfl rfl rfl fun a hF => ?_
    refine E.opv hF (r_slice (hF.at 1 rfl) (hF.at 0 rfl) (sls_hi (xs := xs) (j := n) Tryz.underlying9 (by first | rfl | omega) (by omega))) rfl rfl rfl rfl fun a hF => ?_
    refine E.opset (L' := [(4, .string (bstr (List.take (n) (xs)))), (11, .string (bstr (List.take (n) (xs)))), (10, .int .i64 ((n : Nat) : Int)), (9, .string (bstr xs)), (8, .bool true), (7, .int .i64 ((n : Nat) : Int)), (6, .int .i64 ((List.length (xs) : Nat) : Int)), (5, .string (bstr xs)), (0, .string (bstr xs)), (1, .int .i64 ((n : Nat) : Int))]) hF (r_assign (hF.at 0 rfl)) rfl rfl rfl rfl fun a hF => ?_
    refine E.nil ?_
    refine wp_ret ?_
    refine bodyPost_ret (res_tmp Tryz.results46 (hF.at 0 rfl)) hF.dfr ?_
    exact ⟨rv_str (rfl), bel⟩
  · refine E.opv hF (r_bin (hF.at 1 rfl) (hF.at 0 rfl) eg_scalar (bi_int (ic_gtr (c := false) (dec_ff hc1)) (by simp))) rfl rfl rfl rfl fun a hF => ?_
    refine E.nil ?_
    refine wp_cond_false (hF.at 0 rfl) ?_
    refine wp_skip ?_
    refine E.norm ?_
    refine wp_seq ?_
    refine E.seq ?_
    refine E.opv hF (r_move (hF.at 5 rfl)) rfl rfl rfl rfl fun a hF => ?_
    refine E.opset (L' := [(4, .string (bstr xs)), (12, .string (bstr xs)), (8, .bool false), (7, .int .i64 ((n : Nat) : Int)), (6, .int .i64 ((List.length (xs) : Nat) : Int)), (5, .string (bstr xs)), (0, .string (bstr xs)), (1, .int .i64 ((n : Nat) : Int))]) hF (r_assign (hF.at 0 rfl)) rfl rfl rfl rfl fun a hF => ?_
    refine E.nil ?_
    refine wp_ret ?_
    refine bodyPost_ret (res_tmp Tryz.results46 (hF.at 0 rfl)) hF.dfr ?_
    exact ⟨rv_str ((List.take_of_length_le (by omega)).symm), bel⟩

set_option maxHeartbeats 8000000 in
theorem cutReads_walk (xs : List Nat) (w : World) (hM : MLen w) (h8 : okb 256 xs) :
    Calls Tryz.prog 8 #[.string (bstr xs)] w (ValPost w (.bool true)) := by
  obtain ⟨S, hS⟩ : ∃ S, S = List.take 50 xs := ⟨_, rfl⟩
  have h8S : okb 256 S := by rw [hS]; exact okb_take h8 _
  have hSl : S.length ≤ 50 := by rw [hS, List.length_take]; omega
  have bel : Below w.heap.size w w := Below.refl _ _
  refine E.enter (nt := 30) (L := [(0, .string (bstr xs))]) Tryz.func8 rfl rfl rfl (args_cons (i := 0) rfl args_nil) ?_
  intro a hF
  refine wp_seq ?_
  refine E.seq ?_
  refine E.opv hF (r_assign ev_c) rfl rfl rfl rfl fun a hF => ?_
  refine E.nil ?_
  refine wp_seq ?_
  refine E.seq ?_
  refine E.opv hF (r_move (hF.at 1 rfl)) rfl rfl rfl rfl fun a hF => ?_
  refine E.call hF (r_call Tryz.func46 en46.1 en46.2 (map2 (hF.at 0 rfl) ev_c)) (scutn_any (xs) 50 _) rfl rfl rfl rfl ?_
  rintro e w1 ⟨rfl, bb⟩
  refine ⟨_, rfl, ?_⟩
  intro a hF
  replace bel := below_to bel bb
  clear bb
  refine E.opset (L' := [(0, .string (bstr (List.take 50 (xs)))), (8, .string (bstr (List.take 50 (xs)))), (7, .string (bstr xs)), (2, .bool false)]) hF (r_assign (hF.at 0 rfl)) rfl rfl rfl rfl fun a hF => ?_
  replace hF : Fr 30 a [(0, .string (bstr S)), (8, .string (bstr (List.take 50 (xs)))), (7, .string (bstr xs)), (2, .bool false)] := by rw [hS]; exact hF
  refine E.nil ?_
  refine wp_seq ?_
  refine wp_seq ?_
  refine E.seq ?_
  refine E.call hF (r_call Tryz.func9 en9.1 en9.2 map0) (awake6_any _ (hM.below bel)) rfl rfl rfl rfl ?_
  rintro e w2 ⟨rfl, bb⟩
  refine ⟨_, rfl, ?_⟩
  intro a hF
  replace bel := below_to bel bb
  clear bb
  refine E.opv hF (r_un (hF.at 0 rfl) (bn_not _ false rfl)) rfl rfl rfl rfl fun a hF => ?_
  refine E.nil ?_
  refine wp_cond_false (hF.at 0 rfl) ?_
  refine wp_skip ?_
  refine E.norm ?_
  refine wp_seq ?_
  refine E.seq ?_
  refine E.opv hF (r_move (hF.at 2 rfl)) rfl rfl rfl rfl fun a hF => ?_
  refine E.call hF (r_call Tryz.func42 en42.1 en42.2 (map1 (hF.at 0 rfl))) (cparse_any (S) _ (hM.below bel) h8S (by first | omega | decide)) rfl rfl rfl rfl ?_
  rintro e w3 ⟨vv4, rfl, hh5, bb⟩
  refine ⟨_, rfl, ?_⟩
  intro a hF
  replace bel := below_to bel bb
  clear bb
  obtain ⟨b6, ad6, n6, c6, ae6, m6, d6, rfl, hn6, hd6⟩ := Rq.shape hh5
  have hf7 := Wc.abs hn6
  refine E.opv hF (r_move (hF.at 0 rfl)) rfl rfl rfl rfl fun a hF => ?_
  refine E.opv hF (r_extract (v := .agg #[.bool b6, .slice ad6 n6 c6, .slice ae6 m6 d6]) (hF.at 0 rfl) rfl) rfl rfl rfl rfl fun a hF => ?_
  refine E.opv hF (r_extract (v := .int .i64 (ce (S))) (hF.at 1 rfl) rfl) rfl rfl rfl rfl fun a hF => ?_
  obtain ⟨g3, w8, ge3, hr, bb, o3⟩ := own_alloc (P := Tryz.prog) (w := w3) (cs := [.bool false, .slice none 0 0, .slice none 0 0]) 32 ze_Rat rfl (niB (niS (niS ni0)))
  replace ge3 : w.heap.size ≤ g3 := by rw [← ge3]; exact bel.size
  refine E.opv hF (r_alloc hr) rfl rfl rfl rfl fun a hF => ?_
  clear hr
  replace hh5 := hh5.below bb
  replace hn6 := hn6.below bb
  replace hf7 := hf7.below bb
  replace hd6 := hd6.below bb
  replace bel := below_to bel bb
  clear bb
  obtain ⟨w9, hr, tu, on⟩ := st_Rat (vs := [.bool b6, .slice ad6 n6 c6, .slice ae6 m6 d6]) o3 rfl rfl (ocB (ocS (ocS oc0))) (niB (niS (niS ni0))) (o := 0) rfl
  have kp := tu.keep o3
  refine E.st hF (r_store (hF.at 0 rfl) (hF.at 2 rfl) (hr _ rfl)) rfl rfl fun a hF => ?_
  clear hr
  replace hh5 := hh5.keep kp
  replace hn6 := hn6.keep kp
  replace hf7 := hf7.keep kp
  replace hd6 := hd6.keep kp
  replace bel := tu.below bel ge3
  clear tu kp
  replace o3 := on
  clear on
  refine E.opv hF (r_assign (hF.at 1 rfl)) rfl rfl rfl rfl fun a hF => ?_
  refine E.nil ?_
  refine wp_seq ?_
  refine E.seq ?_
  refine E.opv hF (r_move (hF.at 9 rfl)) rfl rfl rfl rfl fun a hF => ?_
  refine E.call hF (r_call Tryz.func47 en47.1 en47.2 (map1 (hF.at 0 rfl))) (rcparse_any (S) _ h8S (by first | omega | decide)) rfl rfl rfl rfl ?_
  rintro e w10 ⟨vv11, rfl, hh12, bb⟩
  refine ⟨_, rfl, ?_⟩
  intro a hF
  replace hf7 := hf7.below bb
  replace hd6 := hd6.below bb
  replace hh5 := hh5.below bb
  replace hn6 := hn6.below bb
  replace o3 := o3.below bb
  replace bel := below_to bel bb
  clear bb
  obtain ⟨b13, ad13, n13, c13, ae13, m13, d13, z13, D13, rfl, hn13, hd13, hD13, hq13, lz13, lD13⟩ := Rr.shape hh12
  have ha13 := hn13.abs
  refine E.opv hF (r_move (hF.at 0 rfl)) rfl rfl rfl rfl fun a hF => ?_
  refine E.opv hF (r_extract (v := .agg #[.bool b13, .slice ad13 n13 c13, .slice ae13 m13 d13]) (hF.at 0 rfl) rfl) rfl rfl rfl rfl fun a hF => ?_
  refine E.opv hF (r_extract (v := .int .i64 (ce (S))) (hF.at 1 rfl) rfl) rfl rfl rfl rfl fun a hF => ?_
  obtain ⟨g5, w14, ge5, hr, bb, o5⟩ := own_alloc (P := Tryz.prog) (w := w10) (cs := [.bool false, .slice none 0 0, .slice none 0 0]) 39 ze_RRat rfl (niB (niS (niS ni0)))
  have ne3_5 : g3 ≠ g5 := by rw [← ge5]; exact o3.ne_new
  replace ge5 : w.heap.size ≤ g5 := by rw [← ge5]; exact bel.size
  refine E.opv hF (r_alloc hr) rfl rfl rfl rfl fun a hF => ?_
  clear hr
  replace hh12 := hh12.below bb
  replace hn13 := hn13.below bb
  replace ha13 := ha13.below bb
  replace hd13 := hd13.below bb
  replace hf7 := hf7.below bb
  replace hd6 := hd6.below bb
  replace hh5 := hh5.below bb
  replace hn6 := hn6.below bb
  replace o3 := o3.below bb
  replace bel := below_to bel bb
  clear bb
  obtain ⟨w15, hr, tu, on⟩ := st_RRat (vs := [.bool b13, .slice ad13 n13 c13, .slice ae13 m13 d13]) o5 rfl rfl (ocB (ocS (ocS oc0))) (niB (niS (niS ni0))) (o := 0) rfl
  have kp := tu.keep o5
  refine E.st hF (r_store (hF.at 0 rfl) (hF.at 2 rfl) (hr _ rfl)) rfl rfl fun a hF => ?_
  clear hr
  replace hf7 := hf7.keep kp
  replace hd6 := hd6.keep kp
  replace hh5 := hh5.keep kp
  replace hn6 := hn6.keep kp
  replace hh12 := hh12.keep kp
  replace hn13 := hn13.keep kp
  replace ha13 := ha13.keep kp
  replace hd13 := hd13.keep kp
  replace o3 := tu.own o3 ne3_5
  replace bel := tu.below bel ge5
  clear tu kp
  replace o5 := on
  clear on
  refine E.opv hF (r_assign (hF.at 1 rfl)) rfl rfl rfl rfl fun a hF => ?_
  refine E.nil ?_
  refine wp_seq ?_
  refine E.seq ?_
  refine E.opv hF (r_move (hF.at 7 rfl)) rfl rfl rfl rfl fun a hF => ?_
  refine E.opv hF (r_move (hF.at 1 rfl)) rfl rfl rfl rfl fun a hF => ?_
  refine E.opv hF (r_bin (hF.at 1 rfl) (hF.at 0 rfl) eg_scalar (bi_int (ic_eql (c := true) (by simp)) (by simp))) rfl rfl rfl rfl fun a hF => ?_
  refine E.opv hF (r_move (hF.at 0 rfl)) rfl rfl rfl rfl fun a hF => ?_
  refine E.opvg hF (r_load (hF.at 12 rfl) (ld_Rat (vs := [.bool b6, .slice ad6 n6 c6, .slice ae6 m6 d6]) o3 rfl rfl)) (wanted_by rfl rfl (hF.at 0 rfl) rfl) rfl rfl rfl fun a hF => ?_
  refine E.opvg hF (r_load (hF.at 6 rfl) (ld_RRat (vs := [.bool b13, .slice ad13 n13 c13, .slice ae13 m13 d13]) o5 rfl rfl)) (wanted_by rfl rfl (hF.at 1 rfl) rfl) rfl rfl rfl fun a hF => ?_
  refine E.callg hF (r_call Tryz.func32 en32.1 en32.2 (map2 (hF.at 1 rfl) (hF.at 0 rfl))) (Is5_any _ _ (cz (S)) (cz (S)) 110 110 _ hh5 hh12 (cz_lim (S)) rfl (by omega) (by omega)) (wanted_by rfl rfl (hF.at 2 rfl) rfl) rfl rfl rfl ?_
  rintro e w16 ⟨rfl, bb⟩
  refine ⟨_, rfl, ?_⟩
  intro a hF
  replace bel := below_to bel bb
  clear bb
  refine E.opvg hF (r_bin (hF.at 0 rfl) ev_c eg_scalar (bi_int (ic_eql (c := true) (by decide)) (by simp))) (wanted_by rfl rfl (hF.at 3 rfl) rfl) rfl rfl rfl fun a hF => ?_
  refine E.opv hF (r_pick_t (hF.at 4 rfl) (hF.at 0 rfl)) rfl rfl rfl rfl fun a hF => ?_
  refine E.opset (L' := [(2, .bool true), (29, .bool true), (28, .bool true), (27, .int .i64 0), (26, .agg #[.bool b13, .slice ad13 n13 c13, .slice ae13 m13 d13]), (25, .agg #[.bool b6, .slice ad6 n6 c6, .slice ae6 m6 d6]), (24, .bool true), (23, .bool true), (22, .int .i64 (ce (S))), (21, .int .i64 (ce (S))), (6, .int .i64 (ce (S))), (5, .pointer (some ⟨g5, 0, none⟩)), (20, .int .i64 (ce (S))), (19, .agg #[.bool b13, .slice ad13 n13 c13, .slice ae13 m13 d13]), (16, .tuple #[.agg #[.bool b13, .slice ad13 n13 c13, .slice ae13 m13 d13], .int .i64 (ce (S))]), (18, .tuple #[.agg #[.bool b13, .slice ad13 n13 c13, .slice ae13 m13 d13], .int .i64 (ce (S))]), (17, .string (bstr S)), (4, .int .i64 (ce (S))), (3, .pointer (some ⟨g3, 0, none⟩)), (15, .int .i64 (ce (S))), (14, .agg #[.bool b6, .slice ad6 n6 c6, .slice ae6 m6 d6]), (11, .tuple #[.agg #[.bool b6, .slice ad6 n6 c6, .slice ae6 m6 d6], .int .i64 (ce (S))]), (13, .tuple #[.agg #[.bool b6, .slice ad6 n6 c6, .slice ae6 m6 d6], .int .i64 (ce (S))]), (12, .string (bstr S)), (10, .bool false), (9, .bool true), (0, .string (bstr S)), (8, .string (bstr (List.take 50 (xs)))), (7, .string (bstr xs))]) hF (r_assign (hF.at 0 rfl)) rfl rfl rfl rfl fun a hF => ?_
  refine E.nil ?_
  refine wp_ret ?_
  refine bodyPost_ret (res_tmp Tryz.results8 (hF.at 0 rfl)) hF.dfr ?_
  exact ⟨rfl, bel⟩

end Go.Proofs.YthoiocjbjfhgpaaGreat
