/- PrD PrE -/
import Derived.Test.YthoiocjbjfhgpaaGW
import Derived.Test.YthoiocjbjfhgpaaGU
import Derived.Test.YthoiocjbjfhgpaaShf

/- digits.Small, Pad; law04's awake. -/
namespace Go.Proofs.Ythoiocjbjfhgpaa
open Go.RowKit
set_option maxRecDepth 100000
set_option linter.unusedVariables false

theorem en80 : (Try.f80.name == "runtime.NumGoroutine") = false ∧ Try.f80.body.isNone = false := ⟨by decide +kernel, by kernel_rfl⟩
theorem pz_lim (xs : List Nat) : Lim (pz xs).natAbs 106 := by
  unfold pz
  split
  · rename_i h
    refine sg_lim _ ?_
    unfold pe at h
    split at h
    · cases h
    · rename_i h1
      split at h
      · cases h
      · rename_i h2
        refine lim_dv (dig_of ?_) (by omega)
        by_cases e : xs = [48]
        · exact .inl e
        · exact .inr (Classical.byContradiction fun k => h1 ⟨e, k⟩)
  · exact Nat.pow_pos B32_pos
/-- A text as a number of 64 bits; the error's number. -/
def fits (z : Int) : Prop := -9223372036854775808 ≤ z ∧ z ≤ 9223372036854775807
instance (z : Int) : Decidable (fits z) := by unfold fits; infer_instance
def sn (xs : List Nat) : Int := if pe xs ≠ 0 then 0 else if fits (pz xs) then pz xs else 0
def se (xs : List Nat) : Int := if pe xs ≠ 0 then pe xs else if fits (pz xs) then 0 else 5
theorem sn_e {xs : List Nat} (h : pe xs ≠ 0) : (0 : Int) = sn xs ∧ pe xs = se xs := by unfold sn se; rw [if_pos h, if_pos h]; exact ⟨rfl, rfl⟩
theorem sn_f {xs : List Nat} (h : ¬ pe xs ≠ 0) (k : ¬ fits (pz xs)) : (0 : Int) = sn xs ∧ (5 : Int) = se xs := by unfold sn se; rw [if_neg h, if_neg h, if_neg k, if_neg k]; exact ⟨rfl, rfl⟩
theorem sn_t {xs : List Nat} (h : ¬ pe xs ≠ 0) (k : fits (pz xs)) : pz xs = sn xs ∧ (0 : Int) = se xs := by unfold sn se; rw [if_neg h, if_neg h, if_pos k, if_pos k]; exact ⟨rfl, rfl⟩
theorem smallB_t {z : Int} {v : Value} {w : World} (h : Wz w v z) (k : fits z) : Calls Try.prog 23 #[v] w (ValPost w (.tuple #[.int .i64 z, .bool true])) := whSmall_yes v z w h k.1 k.2
theorem smallB_f {z : Int} {v : Value} {w : World} (h : Wz w v z) (k : ¬ fits z) : Calls Try.prog 23 #[v] w (ValPost w (.tuple #[.int .i64 0, .bool false])) := whSmall_no v z w h (by unfold fits at k; omega)
set_option maxHeartbeats 4000000 in
theorem dsmall_any (xs : List Nat) (w : World) (h8 : okb 256 xs) (hl : xs.length ≤ 1000000000) :
    Calls Try.prog 22 #[.string (bstr xs)] w (ValPost w (.tuple #[.int .i64 (sn xs), .int .i64 (se xs)])) := by
  have bel : Below w.heap.size w w := Below.refl _ _
  refine E.enter (nt := 24) (L := [(0, .string (bstr xs))]) Try.func22 rfl rfl rfl (args_cons (i := 0) rfl args_nil) ?_
  intro a hF
  refine wp_seq ?_
  refine E.seq ?_
  refine E.opv hF (r_assign ev_c) rfl rfl rfl rfl fun a hF => ?_
  refine E.opv hF (r_assign ev_c) rfl rfl rfl rfl fun a hF => ?_
  refine E.nil ?_
  refine wp_seq ?_
  refine E.seq ?_
  refine E.opv hF (r_move (hF.at 2 rfl)) rfl rfl rfl rfl fun a hF => ?_
  refine E.call hF (r_call Try.func17 en17.1 en17.2 (map1 (hF.at 0 rfl))) (parse_any (xs) _ (by assumption) (by first | omega | decide)) rfl rfl rfl rfl ?_
  rintro e w1 ⟨vv2, rfl, hh3, bb⟩
  refine ⟨_, rfl, ?_⟩
  intro a hF
  replace bel := below_to bel bb
  clear bb
  obtain ⟨ad4, n4, c4, rfl, _⟩ := Wc.shape hh3
  refine E.opv hF (r_move (hF.at 0 rfl)) rfl rfl rfl rfl fun a hF => ?_
  refine E.opv hF (r_extract (v := .agg #[.bool (decide (pz (xs) < 0)), .slice ad4 n4 c4]) (hF.at 0 rfl) rfl) rfl rfl rfl rfl fun a hF => ?_
  refine E.opv hF (r_extract (v := .int .i64 (pe (xs))) (hF.at 1 rfl) rfl) rfl rfl rfl rfl fun a hF => ?_
  obtain ⟨g4, w5, ge4, hr, bb, o4⟩ := own_alloc (P := Try.prog) (w := w1) (cs := [.bool false, .slice none 0 0]) 37 ze_Int rfl (niB (niS ni0))
  replace ge4 : w.heap.size ≤ g4 := by rw [← ge4]; exact bel.size
  refine E.opv hF (r_alloc hr) rfl rfl rfl rfl fun a hF => ?_
  clear hr
  replace hh3 := hh3.below bb
  replace bel := below_to bel bb
  clear bb
  obtain ⟨w6, hr, tu, on⟩ := st_Int (vs := [.bool (decide (pz (xs) < 0)), .slice ad4 n4 c4]) o4 rfl rfl (ocB (ocS oc0)) (niB (niS ni0)) (o := 0) rfl
  have kp := tu.keep o4
  refine E.st hF (r_store (hF.at 0 rfl) (hF.at 2 rfl) (hr _ rfl)) rfl rfl fun a hF => ?_
  clear hr
  replace hh3 := hh3.keep kp
  replace bel := tu.below bel ge4
  clear tu kp
  replace o4 := on
  clear on
  have hf7 := Wc.abs hh3
  refine E.opv hF (r_assign (hF.at 1 rfl)) rfl rfl rfl rfl fun a hF => ?_
  refine E.nil ?_
  refine wp_seq ?_
  refine wp_seq ?_
  refine E.seq ?_
  refine E.opv hF (r_move (hF.at 0 rfl)) rfl rfl rfl rfl fun a hF => ?_
  by_cases hc8 : pe (xs) ≠ 0
  · refine E.opv hF (r_bin (hF.at 0 rfl) ev_c eg_scalar (bi_int (ic_neq (c := true) (dec_tt hc8)) (by simp))) rfl rfl rfl rfl fun a hF => ?_
    refine E.nil ?_
    refine wp_cond_true (hF.at 0 rfl) ?_
    refine wp_seq ?_
    refine E.seq ?_
    refine E.opv hF (r_move (hF.at 2 rfl)) rfl rfl rfl rfl fun a hF => ?_
    refine E.opset (L' := [(2, .int .i64 0), (15, .int .i64 (pe (xs))), (14, .bool true), (13, .int .i64 (pe (xs))), (5, .int .i64 (pe (xs))), (4, .pointer (some ⟨g4, 0, none⟩)), (12, .int .i64 (pe (xs))), (11, .agg #[.bool (decide (pz (xs) < 0)), .slice ad4 n4 c4]), (8, .tuple #[.agg #[.bool (decide (pz (xs) < 0)), .slice ad4 n4 c4], .int .i64 (pe (xs))]), (10, .tuple #[.agg #[.bool (decide (pz (xs) < 0)), .slice ad4 n4 c4], .int .i64 (pe (xs))]), (9, .string (bstr xs)), (3, .int .i64 0), (0, .string (bstr xs))]) hF (r_assign ev_c) rfl rfl rfl rfl fun a hF => ?_
    refine E.opset (L' := [(3, .int .i64 (pe (xs))), (2, .int .i64 0), (15, .int .i64 (pe (xs))), (14, .bool true), (13, .int .i64 (pe (xs))), (5, .int .i64 (pe (xs))), (4, .pointer (some ⟨g4, 0, none⟩)), (12, .int .i64 (pe (xs))), (11, .agg #[.bool (decide (pz (xs) < 0)), .slice ad4 n4 c4]), (8, .tuple #[.agg #[.bool (decide (pz (xs) < 0)), .slice ad4 n4 c4], .int .i64 (pe (xs))]), (10, .tuple #[.agg #[.bool (decide (pz (xs) < 0)), .slice ad4 n4 c4], .int .i64 (pe (xs))]), (9, .string (bstr xs)), (0, .string (bstr xs))]) hF (r_assign (hF.at 1 rfl)) rfl rfl rfl rfl fun a hF => ?_
    refine E.nil ?_
    refine wp_ret ?_
    refine bodyPost_ret (res_tmp2 Try.results22 (hF.at 1 rfl) (hF.at 0 rfl)) hF.dfr ?_
    have hsn := sn_e hc8
    exact ⟨rv_int2 hsn.1 hsn.2, bel⟩
  · refine E.opv hF (r_bin (hF.at 0 rfl) ev_c eg_scalar (bi_int (ic_neq (c := false) (dec_ff hc8)) (by simp))) rfl rfl rfl rfl fun a hF => ?_
    refine E.nil ?_
    refine wp_cond_false (hF.at 0 rfl) ?_
    refine wp_skip ?_
    refine E.norm ?_
    refine wp_seq ?_
    refine E.seq ?_
    refine E.opv hF (r_load (hF.at 3 rfl) (ld_Int (vs := [.bool (decide (pz (xs) < 0)), .slice ad4 n4 c4]) o4 rfl rfl)) rfl rfl rfl rfl fun a hF => ?_
    by_cases hc9 : fits (pz (xs))
    · refine E.call hF (r_call Try.func23 en23.1 en23.2 (map1 (hF.at 0 rfl))) (smallB_t (Wc.wz hh3) hc9) rfl rfl rfl rfl ?_
      rintro e w10 ⟨rfl, bb⟩
      refine ⟨_, rfl, ?_⟩
      intro a hF
      replace bel := below_to bel bb
      clear bb
      refine E.opv hF (r_move (hF.at 0 rfl)) rfl rfl rfl rfl fun a hF => ?_
      refine E.opv hF (r_extract (v := .int .i64 (pz (xs))) (hF.at 0 rfl) rfl) rfl rfl rfl rfl fun a hF => ?_
      refine E.opv hF (r_extract (v := .bool true) (hF.at 1 rfl) rfl) rfl rfl rfl rfl fun a hF => ?_
      refine E.opv hF (r_assign (hF.at 1 rfl)) rfl rfl rfl rfl fun a hF => ?_
      refine E.opv hF (r_assign (hF.at 1 rfl)) rfl rfl rfl rfl fun a hF => ?_
      refine E.nil ?_
      refine wp_seq ?_
      refine wp_seq ?_
      refine E.seq ?_
      refine E.opv hF (r_move (hF.at 0 rfl)) rfl rfl rfl rfl fun a hF => ?_
      refine E.opv hF (r_un (hF.at 0 rfl) (bn_not _ false rfl)) rfl rfl rfl rfl fun a hF => ?_
      refine E.nil ?_
      refine wp_cond_false (hF.at 0 rfl) ?_
      refine wp_skip ?_
      refine E.norm ?_
      refine wp_seq ?_
      refine E.seq ?_
      refine E.opv hF (r_move (hF.at 3 rfl)) rfl rfl rfl rfl fun a hF => ?_
      refine E.opset (L' := [(2, .int .i64 (pz (xs))), (23, .int .i64 (pz (xs))), (22, .bool false), (21, .bool true), (7, .bool true), (6, .int .i64 (pz (xs))), (20, .bool true), (19, .int .i64 (pz (xs))), (16, .tuple #[.int .i64 (pz (xs)), .bool true]), (18, .tuple #[.int .i64 (pz (xs)), .bool true]), (17, .agg #[.bool (decide (pz (xs) < 0)), .slice ad4 n4 c4]), (14, .bool false), (13, .int .i64 (pe (xs))), (5, .int .i64 (pe (xs))), (4, .pointer (some ⟨g4, 0, none⟩)), (12, .int .i64 (pe (xs))), (11, .agg #[.bool (decide (pz (xs) < 0)), .slice ad4 n4 c4]), (8, .tuple #[.agg #[.bool (decide (pz (xs) < 0)), .slice ad4 n4 c4], .int .i64 (pe (xs))]), (10, .tuple #[.agg #[.bool (decide (pz (xs) < 0)), .slice ad4 n4 c4], .int .i64 (pe (xs))]), (9, .string (bstr xs)), (3, .int .i64 0), (0, .string (bstr xs))]) hF (r_assign (hF.at 0 rfl)) rfl rfl rfl rfl fun a hF => ?_
      refine E.opset (L' := [(3, .int .i64 0), (2, .int .i64 (pz (xs))), (23, .int .i64 (pz (xs))), (22, .bool false), (21, .bool true), (7, .bool true), (6, .int .i64 (pz (xs))), (20, .bool true), (19, .int .i64 (pz (xs))), (16, .tuple #[.int .i64 (pz (xs)), .bool true]), (18, .tuple #[.int .i64 (pz (xs)), .bool true]), (17, .agg #[.bool (decide (pz (xs) < 0)), .slice ad4 n4 c4]), (14, .bool false), (13, .int .i64 (pe (xs))), (5, .int .i64 (pe (xs))), (4, .pointer (some ⟨g4, 0, none⟩)), (12, .int .i64 (pe (xs))), (11, .agg #[.bool (decide (pz (xs) < 0)), .slice ad4 n4 c4]), (8, .tuple #[.agg #[.bool (decide (pz (xs) < 0)), .slice ad4 n4 c4], .int .i64 (pe (xs))]), (10, .tuple #[.agg #[.bool (decide (pz (xs) < 0)), .slice ad4 n4 c4], .int .i64 (pe (xs))]), (9, .string (bstr xs)), (0, .string (bstr xs))]) hF (r_assign ev_c) rfl rfl rfl rfl fun a hF => ?_
      refine E.nil ?_
      refine wp_ret ?_
      refine bodyPost_ret (res_tmp2 Try.results22 (hF.at 1 rfl) (hF.at 0 rfl)) hF.dfr ?_
      have hsn := sn_t hc8 hc9
      exact ⟨rv_int2 hsn.1 hsn.2, bel⟩
    · refine E.call hF (r_call Try.func23 en23.1 en23.2 (map1 (hF.at 0 rfl))) (smallB_f (Wc.wz hh3) hc9) rfl rfl rfl rfl ?_
      rintro e w11 ⟨rfl, bb⟩
      refine ⟨_, rfl, ?_⟩
      intro a hF
      replace bel := below_to bel bb
      clear bb
      refine E.opv hF (r_move (hF.at 0 rfl)) rfl rfl rfl rfl fun a hF => ?_
      refine E.opv hF (r_extract (v := .int .i64 0) (hF.at 0 rfl) rfl) rfl rfl rfl rfl fun a hF => ?_
      refine E.opv hF (r_extract (v := .bool false) (hF.at 1 rfl) rfl) rfl rfl rfl rfl fun a hF => ?_
      refine E.opv hF (r_assign (hF.at 1 rfl)) rfl rfl rfl rfl fun a hF => ?_
      refine E.opv hF (r_assign (hF.at 1 rfl)) rfl rfl rfl rfl fun a hF => ?_
      refine E.nil ?_
      refine wp_seq ?_
      refine wp_seq ?_
      refine E.seq ?_
      refine E.opv hF (r_move (hF.at 0 rfl)) rfl rfl rfl rfl fun a hF => ?_
      refine E.opv hF (r_un (hF.at 0 rfl) (bn_not _ true rfl)) rfl rfl rfl rfl fun a hF => ?_
      refine E.nil ?_
      refine wp_cond_true (hF.at 0 rfl) ?_
      refine wp_seq ?_
      refine E.seq ?_
      refine E.opset (L' := [(2, .int .i64 0), (22, .bool true), (21, .bool false), (7, .bool false), (6, .int .i64 0), (20, .bool false), (19, .int .i64 0), (16, .tuple #[.int .i64 0, .bool false]), (18, .tuple #[.int .i64 0, .bool false]), (17, .agg #[.bool (decide (pz (xs) < 0)), .slice ad4 n4 c4]), (14, .bool false), (13, .int .i64 (pe (xs))), (5, .int .i64 (pe (xs))), (4, .pointer (some ⟨g4, 0, none⟩)), (12, .int .i64 (pe (xs))), (11, .agg #[.bool (decide (pz (xs) < 0)), .slice ad4 n4 c4]), (8, .tuple #[.agg #[.bool (decide (pz (xs) < 0)), .slice ad4 n4 c4], .int .i64 (pe (xs))]), (10, .tuple #[.agg #[.bool (decide (pz (xs) < 0)), .slice ad4 n4 c4], .int .i64 (pe (xs))]), (9, .string (bstr xs)), (3, .int .i64 0), (0, .string (bstr xs))]) hF (r_assign ev_c) rfl rfl rfl rfl fun a hF => ?_
      refine E.opset (L' := [(3, .int .i64 5), (2, .int .i64 0), (22, .bool true), (21, .bool false), (7, .bool false), (6, .int .i64 0), (20, .bool false), (19, .int .i64 0), (16, .tuple #[.int .i64 0, .bool false]), (18, .tuple #[.int .i64 0, .bool false]), (17, .agg #[.bool (decide (pz (xs) < 0)), .slice ad4 n4 c4]), (14, .bool false), (13, .int .i64 (pe (xs))), (5, .int .i64 (pe (xs))), (4, .pointer (some ⟨g4, 0, none⟩)), (12, .int .i64 (pe (xs))), (11, .agg #[.bool (decide (pz (xs) < 0)), .slice ad4 n4 c4]), (8, .tuple #[.agg #[.bool (decide (pz (xs) < 0)), .slice ad4 n4 c4], .int .i64 (pe (xs))]), (10, .tuple #[.agg #[.bool (decide (pz (xs) < 0)), .slice ad4 n4 c4], .int .i64 (pe (xs))]), (9, .string (bstr xs)), (0, .string (bstr xs))]) hF (r_assign ev_c) rfl rfl rfl rfl fun a hF => ?_
      refine E.nil ?_
      refine wp_ret ?_
      refine bodyPost_ret (res_tmp2 Try.results22 (hF.at 1 rfl) (hF.at 0 rfl)) hF.dfr ?_
      have hsn := sn_f hc8 hc9
      exact ⟨rv_int2 hsn.1 hsn.2, bel⟩

theorem repeat_list (c : Nat) : Lib.repeatL [(48 : UInt8)] c = (List.replicate c 48).map UInt8.ofNat := by
  have := Lib.repeatL_replicate (48 : UInt8) 1 c
  rw [Nat.mul_one] at this
  rw [List.map_replicate]
  exact this
theorem rep_any (z : Int) (c : Nat) (w : World) (hz : z = ((c : Nat) : Int)) (hc : c ≤ 1000) : Calls Try.prog 80 #[.string (bstr [48]), .int .i64 z] w (ValPost w (.string (bstr (List.replicate c 48)))) := by
  subst hz
  refine (shf_strings_Repeat (bstr [48]) c w (by omega) (by rw [bstr_size]; simp; omega)).mono ?_
  rintro e w' ⟨rfl, hb⟩
  refine ⟨?_, hb⟩
  show Ending.returned (.string ⟨(Lib.repeatL [(48 : UInt8)] c).toArray⟩) = _
  rw [repeat_list]
  rfl
theorem okb_mono {a b : Nat} {xs : List Nat} (h : okb a xs) (hab : a ≤ b) : okb b xs := fun x hx => Nat.lt_of_lt_of_le (h x hx) hab
theorem asc_okb {xs : List Nat} (h : okb 10 xs) : okb 256 (asc xs) := by
  intro x hx
  obtain ⟨y, hy, rfl⟩ := List.mem_map.1 hx
  have := h y hy
  omega
theorem tx_okb (z : Int) : okb 256 (tx z) := by
  unfold tx
  split
  · decide
  · refine okb_append (by split <;> decide) ?_
    intro x hx
    exact asc_okb (okb_dg (by decide) _) x (List.mem_reverse.1 hx)
/-- A number's text with so many digits at least. -/
def padx (n width : Int) : List Nat := (if ng (tx n) = true then [45] else []) ++ (List.replicate (max (min width 20) (((bd (tx n)).length : Nat) : Int) - (((bd (tx n)).length : Nat) : Int)).toNat 48 ++ bd (tx n))
theorem padx_t {n width : Int} (h : ng (tx n) = true) : [45] ++ (List.replicate (max (min width 20) (((bd (tx n)).length : Nat) : Int) - (((bd (tx n)).length : Nat) : Int)).toNat 48 ++ bd (tx n)) = padx n width := by unfold padx; rw [if_pos h]
theorem padx_f {n width : Int} (h : ¬ ng (tx n) = true) : List.replicate (max (min width 20) (((bd (tx n)).length : Nat) : Int) - (((bd (tx n)).length : Nat) : Int)).toNat 48 ++ bd (tx n) = padx n width := by unfold padx; rw [if_neg h]; rfl
set_option maxHeartbeats 4000000 in
theorem pad_any (n width : Int) (w : World) (h0 : -9223372036854775808 ≤ n) (h1 : n ≤ 9223372036854775807) :
    Calls Try.prog 42 #[.int .i64 n, .int .i64 width] w (ValPost w (.string (bstr (padx n width)))) := by
  have htl := tx_len (lim_pow (limz_64 h0 h1))
  have hbl := bd_len (tx n)
  have bel : Below w.heap.size w w := Below.refl _ _
  refine E.enter (nt := 31) (L := [(0, .int .i64 n), (1, .int .i64 width)]) Try.func42 rfl rfl rfl (args_cons (i := 0) rfl (args_cons (i := 1) rfl args_nil)) ?_
  intro a hF
  refine wp_seq ?_
  refine E.seq ?_
  refine E.opv hF (r_assign ev_c) rfl rfl rfl rfl fun a hF => ?_
  refine E.nil ?_
  refine wp_seq ?_
  refine E.seq ?_
  refine E.opv hF (r_move (hF.at 1 rfl)) rfl rfl rfl rfl fun a hF => ?_
  refine E.call hF (r_call Try.func41 en41.1 en41.2 (map1 (hF.at 0 rfl))) (whOf_any n _ h0 h1) rfl rfl rfl rfl ?_
  rintro e w1 ⟨vv2, rfl, hh3, bb⟩
  refine ⟨_, rfl, ?_⟩
  intro a hF
  replace bel := below_to bel bb
  clear bb
  obtain ⟨ad4, n4, c4, rfl, _⟩ := Wc.shape hh3
  refine E.call hF (r_call Try.func16 en16.1 en16.2 (map1 (hF.at 0 rfl))) (dtext_any _ (n) (32 * 2) _ hh3 (lim_pow (limz_64 h0 h1)) (by omega)) rfl rfl rfl rfl ?_
  rintro e w5 ⟨rfl, bb⟩
  refine ⟨_, rfl, ?_⟩
  intro a hF
  replace bel := below_to bel bb
  clear bb
  refine E.call hF (r_call Try.func48 en48.1 en48.2 (map2 (hF.at 0 rfl) ev_c)) (cutPrefix_any (tx (n)) _ (tx_okb _) (by omega)) rfl rfl rfl rfl ?_
  rintro e w6 ⟨rfl, bb⟩
  refine ⟨_, rfl, ?_⟩
  intro a hF
  replace bel := below_to bel bb
  clear bb
  refine E.opv hF (r_move (hF.at 0 rfl)) rfl rfl rfl rfl fun a hF => ?_
  refine E.opv hF (r_extract (v := .string (bstr (bd (tx (n))))) (hF.at 0 rfl) rfl) rfl rfl rfl rfl fun a hF => ?_
  refine E.opv hF (r_extract (v := .bool (ng (tx (n)))) (hF.at 1 rfl) rfl) rfl rfl rfl rfl fun a hF => ?_
  refine E.opv hF (r_assign (hF.at 1 rfl)) rfl rfl rfl rfl fun a hF => ?_
  refine E.opv hF (r_assign (hF.at 1 rfl)) rfl rfl rfl rfl fun a hF => ?_
  refine E.nil ?_
  refine wp_seq ?_
  refine E.seq ?_
  refine E.opv hF (r_move (hF.at 11 rfl)) rfl rfl rfl rfl fun a hF => ?_
  refine E.opv hF (r_builtin (map2 (hF.at 0 rfl) ev_c) bl_min) rfl rfl rfl rfl fun a hF => ?_
  refine E.opv hF (r_move (hF.at 3 rfl)) rfl rfl rfl rfl fun a hF => ?_
  refine E.opv hF (r_builtin (map1 (hF.at 0 rfl)) (bl_str Try.underlying9)) rfl rfl rfl rfl fun a hF => ?_
  refine E.opv hF (r_builtin (map2 (hF.at 2 rfl) (hF.at 0 rfl)) bl_max) rfl rfl rfl rfl fun a hF => ?_
  refine E.opset (L' := [(1, .int .i64 (max (min width 20) ((List.length ((bd (tx (n)))) : Nat) : Int))), (19, .int .i64 (max (min width 20) ((List.length ((bd (tx (n)))) : Nat) : Int))), (18, .int .i64 ((List.length ((bd (tx (n)))) : Nat) : Int)), (17, .string (bstr (bd (tx (n))))), (16, .int .i64 (min width 20)), (15, .int .i64 width), (6, .bool (ng (tx (n)))), (5, .string (bstr (bd (tx (n))))), (14, .bool (ng (tx (n)))), (13, .string (bstr (bd (tx (n))))), (8, .tuple #[.string (bstr (bd (tx (n)))), .bool (ng (tx (n)))]), (12, .tuple #[.string (bstr (bd (tx (n)))), .bool (ng (tx (n)))]), (11, .string (bstr (tx (n)))), (10, .agg #[.bool (decide (n < 0)), .slice ad4 n4 c4]), (9, .int .i64 n), (4, .string (bstr [])), (0, .int .i64 n)]) hF (r_assign (hF.at 0 rfl)) rfl rfl rfl rfl fun a hF => ?_
  refine E.nil ?_
  refine wp_seq ?_
  refine E.seq ?_
  refine E.opv hF (r_move (hF.at 0 rfl)) rfl rfl rfl rfl fun a hF => ?_
  refine E.opv hF (r_move (hF.at 8 rfl)) rfl rfl rfl rfl fun a hF => ?_
  refine E.opv hF (r_builtin (map1 (hF.at 0 rfl)) (bl_str Try.underlying9)) rfl rfl rfl rfl fun a hF => ?_
  refine E.opv hF (r_bin (hF.at 2 rfl) (hF.at 0 rfl) eg_scalar (ia_sub (by omega) (by omega))) rfl rfl rfl rfl fun a hF => ?_
  refine E.call hF (r_call Try.func80 en80.1 en80.2 (map2 ev_c (hF.at 0 rfl))) (rep_any _ ((max (min width 20) ((List.length ((bd (tx (n)))) : Nat) : Int)) - ((List.length ((bd (tx (n)))) : Nat) : Int)).toNat _ (by omega) (by omega)) rfl rfl rfl rfl ?_
  rintro e w7 ⟨rfl, bb⟩
  refine ⟨_, rfl, ?_⟩
  intro a hF
  replace bel := below_to bel bb
  clear bb
  refine E.opv hF (r_move (hF.at 12 rfl)) rfl rfl rfl rfl fun a hF => ?_
  refine E.opv hF (r_bin (hF.at 1 rfl) (hF.at 0 rfl) eg_str (sb_add (xs := (List.replicate ((max (min width 20) ((List.length ((bd (tx (n)))) : Nat) : Int)) - ((List.length ((bd (tx (n)))) : Nat) : Int)).toNat 48)) (ys := (bd (tx (n)))) (by rw [List.length_replicate]; omega))) rfl rfl rfl rfl fun a hF => ?_
  refine E.opv hF (r_assign (hF.at 0 rfl)) rfl rfl rfl rfl fun a hF => ?_
  refine E.nil ?_
  refine wp_seq ?_
  refine wp_seq ?_
  refine E.seq ?_
  refine E.opv hF (r_move (hF.at 14 rfl)) rfl rfl rfl rfl fun a hF => ?_
  refine E.nil ?_
  by_cases hc8 : ng (tx (n)) = true
  · refine wp_cond_true (Eq.trans (hF.at 0 rfl) (congrArg Value.bool hc8)) ?_
    refine wp_seq ?_
    refine E.seq ?_
    refine E.opv hF (r_move (hF.at 1 rfl)) rfl rfl rfl rfl fun a hF => ?_
    refine E.opv hF (r_bin ev_c (hF.at 0 rfl) eg_str (sb_add (xs := [45]) (ys := ((List.replicate ((max (min width 20) ((List.length ((bd (tx (n)))) : Nat) : Int)) - ((List.length ((bd (tx (n)))) : Nat) : Int)).toNat 48) ++ (bd (tx (n))))) (by simp only [List.length_append, List.length_replicate, List.length_cons, List.length_nil]; omega))) rfl rfl rfl rfl fun a hF => ?_
    refine E.opset (L' := [(4, .string (bstr ([45] ++ ((List.replicate ((max (min width 20) ((List.length ((bd (tx (n)))) : Nat) : Int)) - ((List.length ((bd (tx (n)))) : Nat) : Int)).toNat 48) ++ (bd (tx (n))))))), (29, .string (bstr ([45] ++ ((List.replicate ((max (min width 20) ((List.length ((bd (tx (n)))) : Nat) : Int)) - ((List.length ((bd (tx (n)))) : Nat) : Int)).toNat 48) ++ (bd (tx (n))))))), (28, .string (bstr ((List.replicate ((max (min width 20) ((List.length ((bd (tx (n)))) : Nat) : Int)) - ((List.length ((bd (tx (n)))) : Nat) : Int)).toNat 48) ++ (bd (tx (n)))))), (27, .bool (ng (tx (n)))), (7, .string (bstr ((List.replicate ((max (min width 20) ((List.length ((bd (tx (n)))) : Nat) : Int)) - ((List.length ((bd (tx (n)))) : Nat) : Int)).toNat 48) ++ (bd (tx (n)))))), (26, .string (bstr ((List.replicate ((max (min width 20) ((List.length ((bd (tx (n)))) : Nat) : Int)) - ((List.length ((bd (tx (n)))) : Nat) : Int)).toNat 48) ++ (bd (tx (n)))))), (25, .string (bstr (bd (tx (n))))), (24, .string (bstr (List.replicate ((max (min width 20) ((List.length ((bd (tx (n)))) : Nat) : Int)) - ((List.length ((bd (tx (n)))) : Nat) : Int)).toNat 48))), (23, .int .i64 ((max (min width 20) ((List.length ((bd (tx (n)))) : Nat) : Int)) - ((List.length ((bd (tx (n)))) : Nat) : Int))), (22, .int .i64 ((List.length ((bd (tx (n)))) : Nat) : Int)), (21, .string (bstr (bd (tx (n))))), (20, .int .i64 (max (min width 20) ((List.length ((bd (tx (n)))) : Nat) : Int))), (1, .int .i64 (max (min width 20) ((List.length ((bd (tx (n)))) : Nat) : Int))), (19, .int .i64 (max (min width 20) ((List.length ((bd (tx (n)))) : Nat) : Int))), (18, .int .i64 ((List.length ((bd (tx (n)))) : Nat) : Int)), (17, .string (bstr (bd (tx (n))))), (16, .int .i64 (min width 20)), (15, .int .i64 width), (6, .bool (ng (tx (n)))), (5, .string (bstr (bd (tx (n))))), (14, .bool (ng (tx (n)))), (13, .string (bstr (bd (tx (n))))), (8, .tuple #[.string (bstr (bd (tx (n)))), .bool (ng (tx (n)))]), (12, .tuple #[.string (bstr (bd (tx (n)))), .bool (ng (tx (n)))]), (11, .string (bstr (tx (n)))), (10, .agg #[.bool (decide (n < 0)), .slice ad4 n4 c4]), (9, .int .i64 n), (0, .int .i64 n)]) hF (r_assign (hF.at 0 rfl)) rfl rfl rfl rfl fun a hF => ?_
    refine E.nil ?_
    refine wp_ret ?_
    refine bodyPost_ret (res_tmp Try.results42 (hF.at 0 rfl)) hF.dfr ?_
    exact ⟨rv_str (padx_t hc8), bel⟩
  · refine wp_cond_false (Eq.trans (hF.at 0 rfl) (congrArg Value.bool (eq_false_of_ne_true hc8))) ?_
    refine wp_skip ?_
    refine E.norm ?_
    refine wp_seq ?_
    refine E.seq ?_
    refine E.opv hF (r_move (hF.at 1 rfl)) rfl rfl rfl rfl fun a hF => ?_
    refine E.opset (L' := [(4, .string (bstr ((List.replicate ((max (min width 20) ((List.length ((bd (tx (n)))) : Nat) : Int)) - ((List.length ((bd (tx (n)))) : Nat) : Int)).toNat 48) ++ (bd (tx (n)))))), (30, .string (bstr ((List.replicate ((max (min width 20) ((List.length ((bd (tx (n)))) : Nat) : Int)) - ((List.length ((bd (tx (n)))) : Nat) : Int)).toNat 48) ++ (bd (tx (n)))))), (27, .bool (ng (tx (n)))), (7, .string (bstr ((List.replicate ((max (min width 20) ((List.length ((bd (tx (n)))) : Nat) : Int)) - ((List.length ((bd (tx (n)))) : Nat) : Int)).toNat 48) ++ (bd (tx (n)))))), (26, .string (bstr ((List.replicate ((max (min width 20) ((List.length ((bd (tx (n)))) : Nat) : Int)) - ((List.length ((bd (tx (n)))) : Nat) : Int)).toNat 48) ++ (bd (tx (n)))))), (25, .string (bstr (bd (tx (n))))), (24, .string (bstr (List.replicate ((max (min width 20) ((List.length ((bd (tx (n)))) : Nat) : Int)) - ((List.length ((bd (tx (n)))) : Nat) : Int)).toNat 48))), (23, .int .i64 ((max (min width 20) ((List.length ((bd (tx (n)))) : Nat) : Int)) - ((List.length ((bd (tx (n)))) : Nat) : Int))), (22, .int .i64 ((List.length ((bd (tx (n)))) : Nat) : Int)), (21, .string (bstr (bd (tx (n))))), (20, .int .i64 (max (min width 20) ((List.length ((bd (tx (n)))) : Nat) : Int))), (1, .int .i64 (max (min width 20) ((List.length ((bd (tx (n)))) : Nat) : Int))), (19, .int .i64 (max (min width 20) ((List.length ((bd (tx (n)))) : Nat) : Int))), (18, .int .i64 ((List.length ((bd (tx (n)))) : Nat) : Int)), (17, .string (bstr (bd (tx (n))))), (16, .int .i64 (min width 20)), (15, .int .i64 width), (6, .bool (ng (tx (n)))), (5, .string (bstr (bd (tx (n))))), (14, .bool (ng (tx (n)))), (13, .string (bstr (bd (tx (n))))), (8, .tuple #[.string (bstr (bd (tx (n)))), .bool (ng (tx (n)))]), (12, .tuple #[.string (bstr (bd (tx (n)))), .bool (ng (tx (n)))]), (11, .string (bstr (tx (n)))), (10, .agg #[.bool (decide (n < 0)), .slice ad4 n4 c4]), (9, .int .i64 n), (0, .int .i64 n)]) hF (r_assign (hF.at 0 rfl)) rfl rfl rfl rfl fun a hF => ?_
    refine E.nil ?_
    refine wp_ret ?_
    refine bodyPost_ret (res_tmp Try.results42 (hF.at 0 rfl)) hF.dfr ?_
    exact ⟨rv_str (padx_f hc8), bel⟩

theorem wake4a : ((tx (-1200)).map UInt8.ofNat == [45, 49, 50, 48, 48].map UInt8.ofNat) = true := by
  have e : tx (-1200) = [45, 49, 50, 48, 48] := by decide +kernel
  rw [e]; rfl
theorem wake4b : ((padx (-7) 3).map UInt8.ofNat == [45, 48, 48, 55].map UInt8.ofNat) = true := by
  have e : padx (-7) 3 = [45, 48, 48, 55] := by decide +kernel
  rw [e]; rfl
theorem wake4c : sn [45, 49, 50, 48] = -120 := by decide +kernel
theorem wake4d : se [45, 49, 50, 48] = 0 := by decide +kernel
set_option maxHeartbeats 4000000 in
theorem awake4_any (w : World) :
    Calls Try.prog 13 #[] w (ValPost w (.bool true)) := by
  have bel : Below w.heap.size w w := Below.refl _ _
  refine E.enter (nt := 22) (L := []) Try.func13 rfl rfl rfl args_nil ?_
  intro a hF
  refine wp_seq ?_
  refine E.seq ?_
  refine E.opv hF (r_assign ev_c) rfl rfl rfl rfl fun a hF => ?_
  refine E.nil ?_
  refine wp_seq ?_
  refine E.seq ?_
  refine E.call hF (r_call Try.func22 en22.1 en22.2 (map1 ev_c)) (dsmall_any ([45, 49, 50, 48]) _ (by decide) (by first | omega | decide)) rfl rfl rfl rfl ?_
  rintro e w1 ⟨rfl, bb⟩
  refine ⟨_, rfl, ?_⟩
  intro a hF
  replace bel := below_to bel bb
  clear bb
  refine E.opv hF (r_move (hF.at 0 rfl)) rfl rfl rfl rfl fun a hF => ?_
  refine E.opv hF (r_extract (v := .int .i64 (sn ([45, 49, 50, 48]))) (hF.at 0 rfl) rfl) rfl rfl rfl rfl fun a hF => ?_
  refine E.opv hF (r_extract (v := .int .i64 (se ([45, 49, 50, 48]))) (hF.at 1 rfl) rfl) rfl rfl rfl rfl fun a hF => ?_
  refine E.opv hF (r_assign (hF.at 1 rfl)) rfl rfl rfl rfl fun a hF => ?_
  refine E.opv hF (r_assign (hF.at 1 rfl)) rfl rfl rfl rfl fun a hF => ?_
  refine E.nil ?_
  refine wp_seq ?_
  refine E.seq ?_
  refine E.call hF (r_call Try.func41 en41.1 en41.2 (map1 ev_c)) (whOf_any ((-1200)) _ (by decide) (by decide)) rfl rfl rfl rfl ?_
  rintro e w2 ⟨vv3, rfl, hh4, bb⟩
  refine ⟨_, rfl, ?_⟩
  intro a hF
  replace bel := below_to bel bb
  clear bb
  obtain ⟨ad5, n5, c5, rfl, _⟩ := Wc.shape hh4
  refine E.call hF (r_call Try.func16 en16.1 en16.2 (map1 (hF.at 0 rfl))) (dtext_any _ ((-1200)) (32 * 2) _ hh4 (lim_pow (limz_64 (by decide) (by decide))) (by omega)) rfl rfl rfl rfl ?_
  rintro e w6 ⟨rfl, bb⟩
  refine ⟨_, rfl, ?_⟩
  intro a hF
  replace bel := below_to bel bb
  clear bb
  refine E.opv hF (r_bin (hF.at 0 rfl) ev_c eg_str (sb_eq (xs := tx ((-1200))) (ys := [45, 49, 50, 48, 48]) wake4a)) rfl rfl rfl rfl fun a hF => ?_
  refine E.opv hF (r_move (hF.at 0 rfl)) rfl rfl rfl rfl fun a hF => ?_
  refine E.callg hF (r_call Try.func42 en42.1 en42.2 (map2 ev_c ev_c)) (pad_any (-7) 3 _ (by omega) (by omega)) (wanted_by rfl rfl (hF.at 0 rfl) rfl) rfl rfl rfl ?_
  rintro e w7 ⟨rfl, bb⟩
  refine ⟨_, rfl, ?_⟩
  intro a hF
  replace bel := below_to bel bb
  clear bb
  refine E.opvg hF (r_bin (hF.at 0 rfl) ev_c eg_str (sb_eq (xs := padx (-7) 3) (ys := [45, 48, 48, 55]) wake4b)) (wanted_by rfl rfl (hF.at 1 rfl) rfl) rfl rfl rfl fun a hF => ?_
  refine E.opv hF (r_pick_t (hF.at 2 rfl) (hF.at 0 rfl)) rfl rfl rfl rfl fun a hF => ?_
  refine E.opv hF (r_move (hF.at 0 rfl)) rfl rfl rfl rfl fun a hF => ?_
  refine E.opvg hF (r_move (hF.at 9 rfl)) (wanted_by rfl rfl (hF.at 0 rfl) rfl) rfl rfl rfl fun a hF => ?_
  refine E.opvg hF (r_bin (hF.at 0 rfl) ev_c eg_scalar (bi_int (ic_eql (c := true) (dec_tt wake4c)) (by simp))) (wanted_by rfl rfl (hF.at 1 rfl) rfl) rfl rfl rfl fun a hF => ?_
  refine E.opv hF (r_pick_t (hF.at 2 rfl) (hF.at 0 rfl)) rfl rfl rfl rfl fun a hF => ?_
  refine E.opv hF (r_move (hF.at 0 rfl)) rfl rfl rfl rfl fun a hF => ?_
  refine E.opvg hF (r_move (hF.at 12 rfl)) (wanted_by rfl rfl (hF.at 0 rfl) rfl) rfl rfl rfl fun a hF => ?_
  refine E.opvg hF (r_bin (hF.at 0 rfl) ev_c eg_scalar (bi_int (ic_eql (c := true) (dec_tt wake4d)) (by simp))) (wanted_by rfl rfl (hF.at 1 rfl) rfl) rfl rfl rfl fun a hF => ?_
  refine E.opv hF (r_pick_t (hF.at 2 rfl) (hF.at 0 rfl)) rfl rfl rfl rfl fun a hF => ?_
  refine E.opset (L' := [(0, .bool true), (21, .bool true), (20, .bool true), (19, .int .i64 (se ([45, 49, 50, 48]))), (18, .bool true), (17, .bool true), (16, .bool true), (15, .int .i64 (sn ([45, 49, 50, 48]))), (14, .bool true), (13, .bool true), (12, .bool true), (11, .string (bstr (padx (-7) 3))), (10, .bool true), (9, .bool true), (8, .string (bstr (tx ((-1200))))), (7, .agg #[.bool (decide ((-1200) < 0)), .slice ad5 n5 c5]), (2, .int .i64 (se ([45, 49, 50, 48]))), (1, .int .i64 (sn ([45, 49, 50, 48]))), (6, .int .i64 (se ([45, 49, 50, 48]))), (5, .int .i64 (sn ([45, 49, 50, 48]))), (3, .tuple #[.int .i64 (sn ([45, 49, 50, 48])), .int .i64 (se ([45, 49, 50, 48]))]), (4, .tuple #[.int .i64 (sn ([45, 49, 50, 48])), .int .i64 (se ([45, 49, 50, 48]))])]) hF (r_assign (hF.at 0 rfl)) rfl rfl rfl rfl fun a hF => ?_
  refine E.nil ?_
  refine wp_ret ?_
  refine bodyPost_ret (res_tmp Try.results13 (hF.at 0 rfl)) hF.dfr ?_
  exact ⟨rfl, bel⟩

end Go.Proofs.Ythoiocjbjfhgpaa

/- Texts and numbers: there and back. -/
namespace Go.Proofs.Ythoiocjbjfhgpaa
open Go.RowKit
set_option maxRecDepth 100000
set_option linter.unusedVariables false

theorem vl_dv {xs : List Nat} : ∀ j, j ≤ xs.length → vl 10 ((xs.take j).map (· - 48)).reverse = dv xs j
  | 0, _ => by simp [vl, dv]
  | j + 1, h => by
    have ih := vl_dv (xs := xs) j (by omega)
    have e : xs.take (j + 1) = xs.take j ++ [lg xs j] := by rw [List.take_succ_eq_append_getElem (by omega), lg_get (by omega)]
    rw [e, List.map_append, List.reverse_append]
    show (lg xs j - 48) + 10 * vl 10 ((xs.take j).map (· - 48)).reverse = dv xs j * 10 + (lg xs j - 48)
    rw [ih]; omega
theorem dg_dv {b : List Nat} (hd : ∀ i, i < b.length → 48 ≤ lg b i ∧ lg b i ≤ 57) (hn : b ≠ []) (h0 : lg b 0 ≠ 48) : dg 10 (dv b b.length) = (b.map (· - 48)).reverse := by
  have hv := vl_dv (xs := b) b.length (Nat.le_refl _)
  rw [List.take_length] at hv
  have hp := List.length_pos_iff.2 hn
  have ho : okb 10 (b.map (· - 48)).reverse := by
    intro x hx
    obtain ⟨y, hy, rfl⟩ := List.mem_map.1 (List.mem_reverse.1 hx)
    obtain ⟨i, hi, rfl⟩ := List.getElem_of_mem hy
    have := hd i hi
    rw [lg_get hi] at this
    omega
  have hm : norm (b.map (· - 48)).reverse := by
    intro _
    have e : lg (b.map (· - 48)).reverse ((b.map (· - 48)).reverse.length - 1) = lg b 0 - 48 := by
      have hl : (b.map (· - 48)).reverse.length = b.length := by simp
      rw [hl, lg_get (by rw [hl]; omega), lg_get hp, List.getElem_reverse, List.getElem_map]
      simp
    have := hd 0 hp
    rw [e]; omega
  rw [← hv]
  exact dg_unique (by decide) ho hm
theorem asc_back {b : List Nat} (hd : ∀ i, i < b.length → 48 ≤ lg b i ∧ lg b i ≤ 57) : (asc ((b.map (· - 48)).reverse)).reverse = b := by
  unfold asc
  rw [List.map_reverse, List.reverse_reverse, List.map_map]
  conv => rhs; rw [← List.map_id b]
  apply List.map_congr_left
  intro y hy
  obtain ⟨i, hi, rfl⟩ := List.getElem_of_mem hy
  have := hd i hi
  rw [lg_get hi] at this
  simp only [Function.comp, id]
  omega
theorem dv_pos {b : List Nat} (hd : ∀ i, i < b.length → 48 ≤ lg b i ∧ lg b i ≤ 57) (hn : b ≠ []) (h0 : lg b 0 ≠ 48) : 0 < dv b b.length := by
  apply Nat.pos_of_ne_zero
  intro e
  have h := dg_dv hd hn h0
  rw [e, dg_zero] at h
  have hl := congrArg List.length h
  simp at hl
  exact hn (List.length_eq_zero_iff.1 hl.symm)
theorem sgn_eq (xs : List Nat) : (if ng xs = true then [45] else []) ++ bd xs = xs := by
  unfold ng bd
  by_cases h : List.take 1 xs = [45]
  · rw [decide_eq_true h, if_pos rfl, if_pos h, ← h, List.take_append_drop]
  · rw [decide_eq_false h, if_neg (by decide), if_neg h]; rfl
/-- What is read is written the same. -/
theorem tx_pz {xs : List Nat} (h : pe xs = 0) : tx (pz xs) = xs := by
  unfold pz
  rw [if_pos h]
  by_cases e : xs = [48]
  · subst e; decide +kernel
  · have hp : Plain (bd xs) := by
      unfold pe at h
      split at h
      · cases h
      · rename_i h1
        exact Classical.byContradiction fun k => h1 ⟨e, k⟩
    obtain ⟨hd, hn, h0⟩ := hp
    have hpos := dv_pos hd hn h0
    have ht : (asc (dg 10 (dv (bd xs) (bd xs).length))).reverse = bd xs := by rw [dg_dv hd hn h0]; exact asc_back hd
    unfold tx
    rw [sg_natAbs, ht]
    cases hg : ng xs with
    | true =>
      rw [sg_true, if_neg (by omega), if_pos (by omega)]
      have := sgn_eq xs
      rwa [hg, if_pos rfl] at this
    | false =>
      rw [sg_false, if_neg (by omega), if_neg (by omega)]
      have := sgn_eq xs
      rwa [hg, if_neg (by decide)] at this
/-- So many times one digit, a sign ahead. -/
def rp (n c : Nat) (b : Bool) : List Nat := (if b = true then [45] else []) ++ List.replicate n c
theorem lg_rep {n c i : Nat} (h : i < n) : lg (List.replicate n c) i = c := by
  rw [lg_get (by rw [List.length_replicate]; exact h), List.getElem_replicate]
theorem rp_bd {n c : Nat} {b : Bool} (hc : c ≠ 45) : bd (rp n c b) = List.replicate n c ∧ ng (rp n c b) = b := by
  unfold bd ng rp
  cases b with
  | true => exact ⟨by simp, by simp⟩
  | false =>
    have e : ¬ List.take 1 (List.replicate n c) = [45] := by
      cases n with
      | zero => simp
      | succ k =>
        rw [List.replicate_succ, List.take_succ_cons, List.take_zero]
        intro h
        injection h with h _
        exact hc h
    simp only [Bool.false_eq_true, if_false, List.nil_append]
    exact ⟨if_neg e, decide_eq_false e⟩
theorem rp_plain {n c : Nat} (h1 : 49 ≤ c) (h2 : c ≤ 57) : Plain (List.replicate n c) ↔ 0 < n := by
  constructor
  · intro h
    have := List.length_pos_iff.2 h.2.1
    rwa [List.length_replicate] at this
  · intro h
    refine ⟨fun j hj => ?_, fun e => ?_, ?_⟩
    · rw [List.length_replicate] at hj; rw [lg_rep hj]; omega
    · have := congrArg List.length e
      rw [List.length_replicate] at this
      simp at this; omega
    · rw [lg_rep h]; omega
theorem rp_no48 {n c : Nat} {b : Bool} (h1 : 49 ≤ c) (h2 : c ≤ 57) : rp n c b ≠ [48] := by
  intro e
  unfold rp at e
  cases b with
  | true =>
    rw [if_pos rfl] at e
    injection e with e _
    cases e
  | false =>
    have hm : (48 : Nat) ∈ ((if false = true then [45] else []) ++ List.replicate n c) := by rw [e]; simp
    rw [if_neg (by decide), List.nil_append] at hm
    have := (List.mem_replicate.1 hm).2
    omega
theorem rp_pe {n c : Nat} {b : Bool} (h1 : 49 ≤ c) (h2 : c ≤ 57) : pe (rp n c b) = if n = 0 then 1 else if 1000 < n then 5 else 0 := by
  have e := rp_bd (n := n) (b := b) (show c ≠ 45 by omega)
  unfold pe
  rw [e.1, List.length_replicate]
  by_cases h : n = 0
  · rw [if_pos ⟨rp_no48 h1 h2, fun k => by have := (rp_plain h1 h2).1 k; omega⟩, if_pos h]
  · rw [if_neg (fun k => k.2 ((rp_plain h1 h2).2 (by omega))), if_neg h]
theorem rp_sz {n c : Nat} {b : Bool} (h1 : 49 ≤ c) (h2 : c ≤ 57) (hn : n ≠ 0) (hm : n ≤ 1000) : decide (pz (rp n c b) < 0) = b := by
  have e := rp_bd (n := n) (b := b) (show c ≠ 45 by omega)
  have hp := (rp_plain (n := n) h1 h2).2 (by omega)
  have hpe : pe (rp n c b) = 0 := by rw [rp_pe h1 h2, if_neg hn, if_neg (by omega)]
  unfold pz
  rw [if_pos hpe, e.1, e.2]
  exact sg_neg b (dv_pos hp.1 hp.2.1 hp.2.2)
theorem rp_0 {n c : Nat} {b : Bool} (h1 : 49 ≤ c) (h2 : c ≤ 57) (h : n = 0 ∨ 1000 < n) : pz (rp n c b) = 0 := by
  unfold pz
  rw [rp_pe h1 h2, if_neg]
  split
  · decide
  · rw [if_pos (by omega)]; decide
theorem rp_okb {n c : Nat} {b : Bool} (h2 : c ≤ 57) : okb 256 (rp n c b) := by
  unfold rp
  refine okb_append (by split <;> decide) ?_
  intro x hx
  have := (List.mem_replicate.1 hx).2
  omega
end Go.Proofs.Ythoiocjbjfhgpaa
