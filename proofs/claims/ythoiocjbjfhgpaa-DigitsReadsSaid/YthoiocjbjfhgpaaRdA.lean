/- The document's numbers, read. -/
import Derived.Test.YthoiocjbjfhgpaaGW
namespace Go.Proofs.Ythoiocjbjfhgpaa
open Go.RowKit
set_option maxRecDepth 100000
set_option linter.unusedVariables false

theorem num0p (w : World) : ∃ v w', (Instr.buildSlice 39 0 #[]).run Try.prog w = .ok v w' ∧ Below w.heap.size w w' ∧ Dg w' .i64 65536 v 0 := by
  have hs := size_run (P := Try.prog) (T := 3) (n := 1) (by kernel_rfl) w
  refine ⟨.slice (some ⟨w.heap.size, 0, none⟩) 0 0, w.alloc (.cells #[] 3), ?_, (Below.refl _ _).alloc (Nat.le_refl _) _, ?_⟩
  · simp [Instr.buildSlice, go_sem, hs, Instr.fill, newRow]
  · have e : dg 65536 0 = [] := by simp [dg]
    unfold Dg
    rw [e]
    exact ⟨some ⟨w.heap.size, 0, none⟩, 0, rfl, ⟨fun i hi => absurd hi (by simp)⟩, by simp, by unfold maxLen; omega, by simp, fun h => by cases h⟩
theorem stimes10 (v1 : Value) (N : Nat) (w : World) (h1 : Dg w .i64 65536 v1 N) (hd : dl 65536 N ≤ 1000000) : Calls Try.prog 55 #[v1, .int .i64 10, .int .i64 0] w (DhPost w (N * 10)) := by
  have := stimes_any v1 N 10 0 w h1 (by decide) (by decide) hd
  rw [Nat.pow_zero, Nat.mul_one] at this
  exact this
theorem sOf_int (z : Int) (N : Nat) (w : World) (hz : z = ((N : Nat) : Int)) (hN : N < 1000) : Calls Try.prog 56 #[.int .i64 z] w (DhPost w N) := by
  subst hz; exact sOf_any N w (by omega)
theorem dv_lim {B : List Nat} {j : Nat} (hd : ∀ i, i < j → 48 ≤ lg B i ∧ lg B i ≤ 57) (hj : j ≤ 1000) : Lim (dv B j) 106 := Nat.lt_trans (dv_lt hd) (ten_lim hj (Nat.le_refl _))
theorem one48 {B : List Nat} (hl : B.length = 1) (h : lg B 0 = 48) : B = [48] := by
  match B, hl with
  | [x], _ => have : x = 48 := h; rw [this]
theorem rbad {xs B : List Nat} (hB : bd xs = B) (hx : xs = [48] → B = [48]) (h : B.length = 0 ∨ (1 < B.length ∧ lg B 0 = 48) ∨ (xs ≠ [48] ∧ B = [48]) ∨ ∃ j, j < B.length ∧ (lg B j < 48 ∨ 57 < lg B j)) : (1 : Int) = pe xs ∧ (0 : Int) = pz xs := by
  subst hB
  rcases h with h | ⟨h, k⟩ | ⟨h, k⟩ | ⟨j, h, k⟩
  · have e : bd xs = [] := List.length_eq_zero_iff.1 h
    refine pe_1 (fun e2 => ?_) (decide_eq_false fun p => p.2.1 e)
    have := hx e2; rw [e] at this; cases this
  · refine pe_1 (fun e2 => ?_) (decide_eq_false fun p => p.2.2 k)
    have := hx e2; rw [this] at h; simp at h
  · refine pe_1 h (decide_eq_false fun p => p.2.2 ?_)
    rw [k]; rfl
  · refine pe_1 (fun e2 => ?_) (decide_eq_false fun p => by have := p.1 j h; omega)
    have e3 := hx e2
    rw [e3] at h k
    have : j = 0 := by simp at h; omega
    subst this
    rcases k with k | k
    · exact absurd k (by decide)
    · exact absurd k (by decide)
theorem rgood {xs B : List Nat} (hB : bd xs = B) (h0 : ¬ B.length = 0) (h1 : ¬ (1 < B.length ∧ lg B 0 = 48)) (h2 : B = [48] → xs = [48]) (hd : ∀ i, i < B.length → 48 ≤ lg B i ∧ lg B i ≤ 57) : xs = [48] ∨ Plain (bd xs) := by
  subst hB
  by_cases c : lg (bd xs) 0 = 48
  · left
    refine h2 (one48 ?_ c)
    rcases Nat.lt_or_ge 1 (bd xs).length with k | k
    · exact absurd ⟨k, c⟩ h1
    · omega
  · right
    exact ⟨hd, fun e => h0 (by rw [e]; rfl), c⟩
theorem neg_facts {xs : List Nat} (h : List.take 1 xs = [45]) : 0 < xs.length ∧ lg xs 0 = 45 ∧ bd xs = List.drop 1 xs ∧ xs ≠ [48] ∧ ng xs = true := by
  match xs, h with
  | [], h => simp at h
  | x :: l, h =>
    have e : x = 45 := by simpa using h
    subst e
    exact ⟨by simp, rfl, by unfold bd; rw [if_pos (by simp)], by simp, decide_eq_true (by simp)⟩
theorem pos_facts {xs : List Nat} (h : ¬ List.take 1 xs = [45]) : bd xs = xs ∧ ng xs = false ∧ (0 < xs.length → lg xs 0 ≠ 45) := by
  refine ⟨by unfold bd; rw [if_neg h], decide_eq_false h, ?_⟩
  intro hl e
  match xs, hl with
  | x :: l, _ => exact h (by have : x = 45 := e; simp [this])
def RparsePost (w : World) (xs : List Nat) : Ending → World → Prop := fun e w' => ∃ v, e = .returned (.tuple #[v, .int .i64 (pe xs)]) ∧ Rz w' v (pz xs) ∧ Below w.heap.size w w'
theorem Rz.castP {w : World} {v : Value} {z z' : Int} (h : Rz w v z) (e : z = z') : Rz w v z' := by subst e; exact h
theorem rv_vi2 {v : Value} {a b : Int} (h : a = b) : Ending.returned (.tuple #[v, .int .i64 a]) = .returned (.tuple #[v, .int .i64 b]) := by rw [h]
set_option maxHeartbeats 8000000 in
theorem rparse_neg (xs : List Nat) (w : World) (h8 : okb 256 xs) (hl : xs.length ≤ 1000000000) (hneg : List.take 1 xs = [45]) :
    Calls Try.prog 21 #[.string (bstr xs)] w (RparsePost w xs) := by
  obtain ⟨hn0, hn45, hbd0, hx48, hng⟩ := neg_facts hneg
  obtain ⟨B, hB⟩ : ∃ B, B = List.drop 1 xs := ⟨_, rfl⟩
  have hbd : bd xs = B := hbd0.trans hB.symm
  have h8B : okb 256 B := by rw [hB]; exact okb_drop h8 1
  have hBl : B.length ≤ xs.length := by rw [hB, List.length_drop]; omega
  clear hbd0
  have bel : Below w.heap.size w w := Below.refl _ _
  refine E.enter (nt := 79) (L := [(0, .string (bstr xs))]) Try.func21 rfl rfl rfl (args_cons (i := 0) rfl args_nil) ?_
  intro a hF
  refine wp_seq ?_
  refine E.seq ?_
  obtain ⟨g2, w1, ge2, hr, bb, o2⟩ := own_alloc (P := Try.prog) (w := w) (cs := [.bool false, .slice none 0 0]) 41 ze_RInt rfl (niB (niS ni0))
  replace ge2 : w.heap.size ≤ g2 := by rw [← ge2]; exact bel.size
  refine E.opv hF (r_alloc hr) rfl rfl rfl rfl fun a hF => ?_
  clear hr
  replace bel := below_to bel bb
  clear bb
  refine E.opv hF (r_assign ev_c) rfl rfl rfl rfl fun a hF => ?_
  refine E.nil ?_
  refine wp_seq ?_
  refine E.seq ?_
  refine E.opv hF (r_assign ev_c) rfl rfl rfl rfl fun a hF => ?_
  refine E.nil ?_
  refine wp_seq ?_
  refine wp_seq ?_
  refine E.seq ?_
  refine E.opv hF (r_move (hF.at 3 rfl)) rfl rfl rfl rfl fun a hF => ?_
  refine E.opv hF (r_builtin (map1 (hF.at 0 rfl)) (bl_str Try.underlying9)) rfl rfl rfl rfl fun a hF => ?_
  refine E.opv hF (r_bin (hF.at 0 rfl) ev_c eg_scalar (bi_int (ic_gtr (c := true) (dec_tt (by omega))) (by simp))) rfl rfl rfl rfl fun a hF => ?_
  refine E.opv hF (r_move (hF.at 0 rfl)) rfl rfl rfl rfl fun a hF => ?_
  refine E.opvg hF (r_move (hF.at 7 rfl)) (wanted_by rfl rfl (hF.at 0 rfl) rfl) rfl rfl rfl fun a hF => ?_
  refine E.opvg hF (r_ixv (hF.at 0 rfl) ev_c (ixs (xs := xs) (j := 0) Try.underlying9 (by omega) (by omega) h8)) (wanted_by rfl rfl (hF.at 1 rfl) rfl) rfl rfl rfl fun a hF => ?_
  refine E.opvg hF (r_bin (hF.at 0 rfl) ev_c eg_scalar (bi_int (ic_eql (c := true) (dec_tt (by omega))) (by simp))) (wanted_by rfl rfl (hF.at 2 rfl) rfl) rfl rfl rfl fun a hF => ?_
  refine E.opv hF (r_pick_t (hF.at 3 rfl) (hF.at 0 rfl)) rfl rfl rfl rfl fun a hF => ?_
  refine E.nil ?_
  refine wp_cond_true (hF.at 0 rfl) ?_
  refine wp_seq ?_
  refine E.seq ?_
  refine E.opset (L' := [(4, .bool true), (15, .bool true), (14, .bool true), (13, .int .u8 ((lg (xs) 0 : Nat) : Int)), (12, .string (bstr xs)), (11, .bool true), (10, .bool true), (9, .int .i64 ((List.length (xs) : Nat) : Int)), (8, .string (bstr xs)), (3, .int .i64 0), (2, .pointer (some ⟨g2, 0, none⟩)), (0, .string (bstr xs))]) hF (r_assign ev_c) rfl rfl rfl rfl fun a hF => ?_
  refine E.nil ?_
  refine E.seq ?_
  refine E.opv hF (r_move (hF.at 11 rfl)) rfl rfl rfl rfl fun a hF => ?_
  refine E.opv hF (r_sliceL (hF.at 0 rfl) ev_c (sls_lo (xs := xs) (j := 1) Try.underlying9 (by first | rfl | omega) (by omega))) rfl rfl rfl rfl fun a hF => ?_
  refine E.opset (L' := [(0, .string (bstr (List.drop (1) (xs)))), (17, .string (bstr (List.drop (1) (xs)))), (16, .string (bstr xs)), (4, .bool true), (15, .bool true), (14, .bool true), (13, .int .u8 ((lg (xs) 0 : Nat) : Int)), (12, .string (bstr xs)), (11, .bool true), (10, .bool true), (9, .int .i64 ((List.length (xs) : Nat) : Int)), (8, .string (bstr xs)), (3, .int .i64 0), (2, .pointer (some ⟨g2, 0, none⟩))]) hF (r_assign (hF.at 0 rfl)) rfl rfl rfl rfl fun a hF => ?_
  replace hF : Fr 79 a [(0, .string (bstr B)), (17, .string (bstr (List.drop (1) (xs)))), (16, .string (bstr xs)), (4, .bool true), (15, .bool true), (14, .bool true), (13, .int .u8 ((lg (xs) 0 : Nat) : Int)), (12, .string (bstr xs)), (11, .bool true), (10, .bool true), (9, .int .i64 ((List.length (xs) : Nat) : Int)), (8, .string (bstr xs)), (3, .int .i64 0), (2, .pointer (some ⟨g2, 0, none⟩))] := by rw [hB]; exact hF
  refine E.nil ?_
  refine wp_seq ?_
  refine wp_seq ?_
  refine E.seq ?_
  refine E.opv hF (r_move (hF.at 0 rfl)) rfl rfl rfl rfl fun a hF => ?_
  refine E.opv hF (r_builtin (map1 (hF.at 0 rfl)) (bl_str Try.underlying9)) rfl rfl rfl rfl fun a hF => ?_
  by_cases hc2 : ((List.length (B) : Nat) : Int) = 0
  · first
    | (exfalso; omega)
    | (refine E.opv hF (r_bin (hF.at 0 rfl) ev_c eg_scalar (bi_int (ic_eql (c := true) (dec_tt hc2)) (by simp))) rfl rfl rfl rfl fun a hF => ?_
       refine E.opv hF (r_move (hF.at 0 rfl)) rfl rfl rfl rfl fun a hF => ?_
       refine E.unwanted hF (wanted_by rfl rfl (hF.at 0 rfl) rfl) rfl rfl rfl fun a hF => ?_
       refine E.unwanted hF (wanted_by rfl rfl (hF.at 1 rfl) rfl) rfl rfl rfl fun a hF => ?_
       refine E.unwanted hF (wanted_by rfl rfl (hF.at 2 rfl) rfl) rfl rfl rfl fun a hF => ?_
       refine E.unwanted hF (wanted_by rfl rfl (hF.at 3 rfl) rfl) rfl rfl rfl fun a hF => ?_
       refine E.unwanted hF (wanted_undef rfl rfl (hF.at 0 rfl)) rfl rfl rfl fun a hF => ?_
       refine E.unwanted hF (wanted_undef rfl rfl (hF.at 1 rfl)) rfl rfl rfl fun a hF => ?_
       refine E.unwanted hF (wanted_undef rfl rfl (hF.at 2 rfl)) rfl rfl rfl fun a hF => ?_
       refine E.unwanted hF (wanted_by rfl rfl (hF.at 7 rfl) rfl) rfl rfl rfl fun a hF => ?_
       refine E.opv hF (r_pick_t (hF.at 8 rfl) ev_c) rfl rfl rfl rfl fun a hF => ?_
       refine E.opv hF (r_move (hF.at 0 rfl)) rfl rfl rfl rfl fun a hF => ?_
       refine E.unwanted hF (wanted_by rfl rfl (hF.at 0 rfl) rfl) rfl rfl rfl fun a hF => ?_
       refine E.unwanted hF (wanted_by rfl rfl (hF.at 1 rfl) rfl) rfl rfl rfl fun a hF => ?_
       refine E.unwanted hF (wanted_undef rfl rfl (hF.at 0 rfl)) rfl rfl rfl fun a hF => ?_
       refine E.unwanted hF (wanted_undef rfl rfl (hF.at 1 rfl)) rfl rfl rfl fun a hF => ?_
       refine E.unwanted hF (wanted_by rfl rfl (hF.at 4 rfl) rfl) rfl rfl rfl fun a hF => ?_
       refine E.opv hF (r_pick_t (hF.at 5 rfl) ev_c) rfl rfl rfl rfl fun a hF => ?_
       refine E.nil ?_
       refine wp_cond_true (hF.at 0 rfl) ?_
       refine wp_seq ?_
       refine E.seq ?_
       refine E.opv hF (r_build (by simp) (bd_RInt_ _)) rfl rfl rfl rfl fun a hF => ?_
       obtain ⟨w3, hr, tu, on⟩ := st_RInt (vs := [.bool false, .slice none 0 0]) o2 rfl rfl (ocB (ocS oc0)) (niB (niS ni0)) (o := 0) rfl
       have kp := tu.keep o2
       refine E.st hF (r_store (hF.at 34 rfl) (hF.at 0 rfl) (hr _ rfl)) rfl rfl fun a hF => ?_
       clear hr
       replace bel := tu.below bel ge2
       clear tu kp
       replace o2 := on
       clear on
       refine E.opset (L' := [(3, .int .i64 1), (38, .agg #[.bool false, .slice none 0 0]), (37, .bool true), (36, undef), (35, undef), (34, undef), (33, undef), (32, undef), (31, .bool true), (30, .bool true), (29, undef), (28, undef), (27, undef), (26, undef), (25, undef), (24, undef), (23, undef), (22, undef), (21, .bool true), (20, .bool true), (19, .int .i64 ((List.length (B) : Nat) : Int)), (18, .string (bstr B)), (0, .string (bstr B)), (17, .string (bstr (List.drop (1) (xs)))), (16, .string (bstr xs)), (4, .bool true), (15, .bool true), (14, .bool true), (13, .int .u8 ((lg (xs) 0 : Nat) : Int)), (12, .string (bstr xs)), (11, .bool true), (10, .bool true), (9, .int .i64 ((List.length (xs) : Nat) : Int)), (8, .string (bstr xs)), (2, .pointer (some ⟨g2, 0, none⟩))]) hF (r_assign ev_c) rfl rfl rfl rfl fun a hF => ?_
       refine E.nil ?_
       refine wp_ret ?_
       refine bodyPost_ret (res_celltmp Try.results21 (hF.at 34 rfl) (ld_RInt (vs := [.bool false, .slice none 0 0]) o2 rfl rfl) (hF.at 0 rfl)) hF.dfr ?_
       have hb := rbad hbd (fun e => absurd e hx48) (.inl (by omega))
       exact ⟨_, rv_vi2 hb.1, Rz.castP (Rz.zero _) hb.2, bel⟩)
  · first
    | (exfalso; omega)
    | (refine E.opv hF (r_bin (hF.at 0 rfl) ev_c eg_scalar (bi_int (ic_eql (c := false) (dec_ff hc2)) (by simp))) rfl rfl rfl rfl fun a hF => ?_
       refine E.opv hF (r_move (hF.at 0 rfl)) rfl rfl rfl rfl fun a hF => ?_
       refine E.opvg hF (r_move (hF.at 4 rfl)) (wanted_by rfl rfl (hF.at 0 rfl) rfl) rfl rfl rfl fun a hF => ?_
       refine E.opvg hF (r_builtin (map1 (hF.at 0 rfl)) (bl_str Try.underlying9)) (wanted_by rfl rfl (hF.at 1 rfl) rfl) rfl rfl rfl fun a hF => ?_
       by_cases hc4 : 1 < ((List.length (B) : Nat) : Int)
       · first
         | (exfalso; omega)
         | (refine E.opvg hF (r_bin (hF.at 0 rfl) ev_c eg_scalar (bi_int (ic_gtr (c := true) (dec_tt hc4)) (by simp))) (wanted_by rfl rfl (hF.at 2 rfl) rfl) rfl rfl rfl fun a hF => ?_
            refine E.opvg hF (r_move (hF.at 0 rfl)) (wanted_by rfl rfl (hF.at 3 rfl) rfl) rfl rfl rfl fun a hF => ?_
            refine E.opvg hF (r_move (hF.at 8 rfl)) (wanted_by rfl rfl (hF.at 0 rfl) rfl) rfl rfl rfl fun a hF => ?_
            refine E.opvg hF (r_ixv (hF.at 0 rfl) ev_c (ixs (xs := B) (j := 0) Try.underlying9 (by omega) (by omega) h8B)) (wanted_by rfl rfl (hF.at 1 rfl) rfl) rfl rfl rfl fun a hF => ?_
            by_cases hc5 : ((lg (B) 0 : Nat) : Int) = 48
            · first
              | (exfalso; omega)
              | (refine E.opvg hF (r_bin (hF.at 0 rfl) ev_c eg_scalar (bi_int (ic_eql (c := true) (dec_tt hc5)) (by simp))) (wanted_by rfl rfl (hF.at 2 rfl) rfl) rfl rfl rfl fun a hF => ?_
                 refine E.opvg hF (r_pick_t (hF.at 3 rfl) (hF.at 0 rfl)) (wanted_by rfl rfl (hF.at 7 rfl) rfl) rfl rfl rfl fun a hF => ?_
                 refine E.opv hF (r_pick_f (hF.at 8 rfl) (hF.at 0 rfl)) rfl rfl rfl rfl fun a hF => ?_
                 refine E.opv hF (r_move (hF.at 0 rfl)) rfl rfl rfl rfl fun a hF => ?_
                 refine E.unwanted hF (wanted_by rfl rfl (hF.at 0 rfl) rfl) rfl rfl rfl fun a hF => ?_
                 refine E.unwanted hF (wanted_by rfl rfl (hF.at 1 rfl) rfl) rfl rfl rfl fun a hF => ?_
                 refine E.unwanted hF (wanted_undef rfl rfl (hF.at 0 rfl)) rfl rfl rfl fun a hF => ?_
                 refine E.unwanted hF (wanted_undef rfl rfl (hF.at 1 rfl)) rfl rfl rfl fun a hF => ?_
                 refine E.unwanted hF (wanted_by rfl rfl (hF.at 4 rfl) rfl) rfl rfl rfl fun a hF => ?_
                 refine E.opv hF (r_pick_t (hF.at 5 rfl) ev_c) rfl rfl rfl rfl fun a hF => ?_
                 refine E.nil ?_
                 refine wp_cond_true (hF.at 0 rfl) ?_
                 refine wp_seq ?_
                 refine E.seq ?_
                 refine E.opv hF (r_build (by simp) (bd_RInt_ _)) rfl rfl rfl rfl fun a hF => ?_
                 obtain ⟨w6, hr, tu, on⟩ := st_RInt (vs := [.bool false, .slice none 0 0]) o2 rfl rfl (ocB (ocS oc0)) (niB (niS ni0)) (o := 0) rfl
                 have kp := tu.keep o2
                 refine E.st hF (r_store (hF.at 34 rfl) (hF.at 0 rfl) (hr _ rfl)) rfl rfl fun a hF => ?_
                 clear hr
                 replace bel := tu.below bel ge2
                 clear tu kp
                 replace o2 := on
                 clear on
                 refine E.opset (L' := [(3, .int .i64 1), (38, .agg #[.bool false, .slice none 0 0]), (37, .bool true), (36, undef), (35, undef), (34, undef), (33, undef), (32, undef), (31, .bool true), (30, .bool true), (29, .bool true), (28, .bool true), (27, .int .u8 ((lg (B) 0 : Nat) : Int)), (26, .string (bstr B)), (25, .bool true), (24, .bool true), (23, .int .i64 ((List.length (B) : Nat) : Int)), (22, .string (bstr B)), (21, .bool false), (20, .bool false), (19, .int .i64 ((List.length (B) : Nat) : Int)), (18, .string (bstr B)), (0, .string (bstr B)), (17, .string (bstr (List.drop (1) (xs)))), (16, .string (bstr xs)), (4, .bool true), (15, .bool true), (14, .bool true), (13, .int .u8 ((lg (xs) 0 : Nat) : Int)), (12, .string (bstr xs)), (11, .bool true), (10, .bool true), (9, .int .i64 ((List.length (xs) : Nat) : Int)), (8, .string (bstr xs)), (2, .pointer (some ⟨g2, 0, none⟩))]) hF (r_assign ev_c) rfl rfl rfl rfl fun a hF => ?_
                 refine E.nil ?_
                 refine wp_ret ?_
                 refine bodyPost_ret (res_celltmp Try.results21 (hF.at 34 rfl) (ld_RInt (vs := [.bool false, .slice none 0 0]) o2 rfl rfl) (hF.at 0 rfl)) hF.dfr ?_
                 have hb := rbad hbd (fun e => absurd e hx48) (.inr (.inl ⟨by omega, by omega⟩))
                 exact ⟨_, rv_vi2 hb.1, Rz.castP (Rz.zero _) hb.2, bel⟩)
            · first
              | (exfalso; omega)
              | (refine E.opvg hF (r_bin (hF.at 0 rfl) ev_c eg_scalar (bi_int (ic_eql (c := false) (dec_ff hc5)) (by simp))) (wanted_by rfl rfl (hF.at 2 rfl) rfl) rfl rfl rfl fun a hF => ?_
                 refine E.opvg hF (r_pick_t (hF.at 3 rfl) (hF.at 0 rfl)) (wanted_by rfl rfl (hF.at 7 rfl) rfl) rfl rfl rfl fun a hF => ?_
                 refine E.opv hF (r_pick_f (hF.at 8 rfl) (hF.at 0 rfl)) rfl rfl rfl rfl fun a hF => ?_
                 refine E.opv hF (r_move (hF.at 0 rfl)) rfl rfl rfl rfl fun a hF => ?_
                 refine E.opvg hF (r_move (hF.at 17 rfl)) (wanted_by rfl rfl (hF.at 0 rfl) rfl) rfl rfl rfl fun a hF => ?_
                 refine E.opvg hF (r_move (hF.at 0 rfl)) (wanted_by rfl rfl (hF.at 1 rfl) rfl) rfl rfl rfl fun a hF => ?_
                 refine E.opvg hF (r_move (hF.at 16 rfl)) (wanted_by rfl rfl (hF.at 0 rfl) rfl) rfl rfl rfl fun a hF => ?_
                 by_cases hc7 : B = [48]
                 · first
                   | (exfalso; omega)
                   | (refine E.opvg hF (r_bin (hF.at 0 rfl) ev_c eg_str (sb_eq (xs := B) (ys := [48]) (streq_t hc7))) (wanted_by rfl rfl (hF.at 1 rfl) rfl) rfl rfl rfl fun a hF => ?_
                      refine E.opvg hF (r_pick_t (hF.at 2 rfl) (hF.at 0 rfl)) (wanted_by rfl rfl (hF.at 4 rfl) rfl) rfl rfl rfl fun a hF => ?_
                      refine E.opv hF (r_pick_f (hF.at 5 rfl) (hF.at 0 rfl)) rfl rfl rfl rfl fun a hF => ?_
                      refine E.nil ?_
                      refine wp_cond_true (hF.at 0 rfl) ?_
                      refine wp_seq ?_
                      refine E.seq ?_
                      refine E.opv hF (r_build (by simp) (bd_RInt_ _)) rfl rfl rfl rfl fun a hF => ?_
                      obtain ⟨w8, hr, tu, on⟩ := st_RInt (vs := [.bool false, .slice none 0 0]) o2 rfl rfl (ocB (ocS oc0)) (niB (niS ni0)) (o := 0) rfl
                      have kp := tu.keep o2
                      refine E.st hF (r_store (hF.at 34 rfl) (hF.at 0 rfl) (hr _ rfl)) rfl rfl fun a hF => ?_
                      clear hr
                      replace bel := tu.below bel ge2
                      clear tu kp
                      replace o2 := on
                      clear on
                      refine E.opset (L' := [(3, .int .i64 1), (38, .agg #[.bool false, .slice none 0 0]), (37, .bool true), (36, .bool true), (35, .bool true), (34, .string (bstr B)), (33, .bool true), (32, .bool true), (31, .bool false), (30, .bool false), (29, .bool false), (28, .bool false), (27, .int .u8 ((lg (B) 0 : Nat) : Int)), (26, .string (bstr B)), (25, .bool true), (24, .bool true), (23, .int .i64 ((List.length (B) : Nat) : Int)), (22, .string (bstr B)), (21, .bool false), (20, .bool false), (19, .int .i64 ((List.length (B) : Nat) : Int)), (18, .string (bstr B)), (0, .string (bstr B)), (17, .string (bstr (List.drop (1) (xs)))), (16, .string (bstr xs)), (4, .bool true), (15, .bool true), (14, .bool true), (13, .int .u8 ((lg (xs) 0 : Nat) : Int)), (12, .string (bstr xs)), (11, .bool true), (10, .bool true), (9, .int .i64 ((List.length (xs) : Nat) : Int)), (8, .string (bstr xs)), (2, .pointer (some ⟨g2, 0, none⟩))]) hF (r_assign ev_c) rfl rfl rfl rfl fun a hF => ?_
                      refine E.nil ?_
                      refine wp_ret ?_
                      refine bodyPost_ret (res_celltmp Try.results21 (hF.at 34 rfl) (ld_RInt (vs := [.bool false, .slice none 0 0]) o2 rfl rfl) (hF.at 0 rfl)) hF.dfr ?_
                      have hb := rbad hbd (fun e => absurd e hx48) (.inr (.inr (.inl ⟨hx48, hc7⟩)))
                      exact ⟨_, rv_vi2 hb.1, Rz.castP (Rz.zero _) hb.2, bel⟩)
                 · first
                   | (exfalso; omega)
                   | (refine E.opvg hF (r_bin (hF.at 0 rfl) ev_c eg_str (sb_eq (xs := B) (ys := [48]) (streq_f hc7 h8B (by decide)))) (wanted_by rfl rfl (hF.at 1 rfl) rfl) rfl rfl rfl fun a hF => ?_
                      refine E.opvg hF (r_pick_t (hF.at 2 rfl) (hF.at 0 rfl)) (wanted_by rfl rfl (hF.at 4 rfl) rfl) rfl rfl rfl fun a hF => ?_
                      refine E.opv hF (r_pick_f (hF.at 5 rfl) (hF.at 0 rfl)) rfl rfl rfl rfl fun a hF => ?_
                      refine E.nil ?_
                      refine wp_cond_false (hF.at 0 rfl) ?_
                      refine wp_skip ?_
                      refine E.norm ?_
                      refine wp_seq ?_
                      refine wp_seq ?_
                      refine E.seq ?_
                      refine E.opv hF (r_assign ev_c) rfl rfl rfl rfl fun a hF => ?_
                      refine E.nil ?_
                      refine wp_block ?_
                      have nint := nn1 o2.noInt
                      refine E.loop (fun mq a wv => ∃ (j : Nat), j ≤ B.length ∧ (∀ i, i < j → 48 ≤ lg B i ∧ lg B i ≤ 57) ∧ Fr 79 a [(5, .int .i64 ((j : Nat) : Int)), (0, .string (bstr B)), (4, .bool true), (2, .pointer (some ⟨g2, 0, none⟩))] ∧ Stay [g2] w1 wv ∧ Below w.heap.size w wv ∧ Own wv g2 [.bool false, .slice none 0 0] ∧ Rz wv (.agg #[.bool false, .slice none 0 0]) 0 ∧ mq = B.length - j) (B.length - 0) ?_ ?_
                      · exact ⟨0, (Nat.zero_le _), (fun i hi => absurd hi (by omega)), hF.sub (by intro p hp; simp only [List.mem_cons, List.not_mem_nil, or_false] at hp ⊢; rcases hp with rfl | rfl | rfl | rfl <;> simp), Stay.refl _ _, bel, o2, (Rz.zero _), rfl⟩
                      · rintro mq a w9 ⟨j, hj, hd, hF, sty, bel, o2, hz0, hm⟩
                        have kps := sty.keep nint
                        clear kps
                        by_cases hjn : j < B.length
                        · refine wp_seq ?_
                          refine wp_seq ?_
                          refine E.seq ?_
                          refine E.opv hF (r_move (hF.at 0 rfl)) rfl rfl rfl rfl fun a hF => ?_
                          refine E.opv hF (r_move (hF.at 2 rfl)) rfl rfl rfl rfl fun a hF => ?_
                          refine E.opv hF (r_builtin (map1 (hF.at 0 rfl)) (bl_str Try.underlying9)) rfl rfl rfl rfl fun a hF => ?_
                          refine E.opv hF (r_bin (hF.at 2 rfl) (hF.at 0 rfl) eg_scalar (bi_int (ic_lss (c := true) (dec_tt (by omega))) (by simp))) rfl rfl rfl rfl fun a hF => ?_
                          refine E.nil ?_
                          refine wp_cond_true (hF.at 0 rfl) ?_
                          refine wp_skip ?_
                          refine E.norm ?_
                          refine wp_seq ?_
                          refine wp_block ?_
                          refine wp_seq ?_
                          refine E.seq ?_
                          refine E.opv hF (r_move (hF.at 5 rfl)) rfl rfl rfl rfl fun a hF => ?_
                          refine E.opv hF (r_move (hF.at 5 rfl)) rfl rfl rfl rfl fun a hF => ?_
                          refine E.opv hF (r_ixv (hF.at 1 rfl) (hF.at 0 rfl) (ixs (xs := B) (j := j) Try.underlying9 (by omega) (by omega) h8B)) rfl rfl rfl rfl fun a hF => ?_
                          by_cases hc10 : ((lg (B) j : Nat) : Int) < 48
                          · first
                            | (exfalso; omega)
                            | (refine E.opv hF (r_bin (hF.at 0 rfl) ev_c eg_scalar (bi_int (ic_lss (c := true) (dec_tt hc10)) (by simp))) rfl rfl rfl rfl fun a hF => ?_
                               refine E.opv hF (r_move (hF.at 0 rfl)) rfl rfl rfl rfl fun a hF => ?_
                               refine E.unwanted hF (wanted_by rfl rfl (hF.at 0 rfl) rfl) rfl rfl rfl fun a hF => ?_
                               refine E.unwanted hF (wanted_by rfl rfl (hF.at 1 rfl) rfl) rfl rfl rfl fun a hF => ?_
                               refine E.unwanted hF (wanted_by rfl rfl (hF.at 2 rfl) rfl) rfl rfl rfl fun a hF => ?_
                               refine E.unwanted hF (wanted_by rfl rfl (hF.at 3 rfl) rfl) rfl rfl rfl fun a hF => ?_
                               refine E.opv hF (r_pick_t (hF.at 4 rfl) ev_c) rfl rfl rfl rfl fun a hF => ?_
                               refine E.nil ?_
                               refine wp_cond_true (hF.at 0 rfl) ?_
                               refine wp_seq ?_
                               refine E.seq ?_
                               refine E.opv hF (r_build (by simp) (bd_RInt_ _)) rfl rfl rfl rfl fun a hF => ?_
                               obtain ⟨w11, hr, tu, on⟩ := st_RInt (vs := [.bool false, .slice none 0 0]) o2 rfl rfl (ocB (ocS oc0)) (niB (niS ni0)) (o := 0) rfl
                               have kp := tu.keep o2
                               refine E.st hF (r_store (hF.at 18 rfl) (hF.at 0 rfl) (hr _ rfl)) rfl rfl fun a hF => ?_
                               clear hr
                               replace hz0 := hz0.keep kp
                               replace bel := tu.below bel ge2
                               replace sty := sty.turned tu (.inl (by simp))
                               clear tu kp
                               replace o2 := on
                               clear on
                               refine E.opv hF (r_assign ev_c) rfl rfl rfl rfl fun a hF => ?_
                               refine E.nil ?_
                               refine wp_ret ?_
                               refine bodyPost_ret (res_celltmp Try.results21 (hF.at 19 rfl) (ld_RInt (vs := [.bool false, .slice none 0 0]) o2 rfl rfl) (hF.at 0 rfl)) hF.dfr ?_
                               have hb := rbad hbd (fun e => absurd e hx48) (.inr (.inr (.inr ⟨j, hjn, by omega⟩)))
                               exact ⟨_, rv_vi2 hb.1, Rz.castP (Rz.zero _) hb.2, bel⟩)
                          · first
                            | (exfalso; omega)
                            | (refine E.opv hF (r_bin (hF.at 0 rfl) ev_c eg_scalar (bi_int (ic_lss (c := false) (dec_ff hc10)) (by simp))) rfl rfl rfl rfl fun a hF => ?_
                               refine E.opv hF (r_move (hF.at 0 rfl)) rfl rfl rfl rfl fun a hF => ?_
                               refine E.opvg hF (r_move (hF.at 10 rfl)) (wanted_by rfl rfl (hF.at 0 rfl) rfl) rfl rfl rfl fun a hF => ?_
                               refine E.opvg hF (r_move (hF.at 10 rfl)) (wanted_by rfl rfl (hF.at 1 rfl) rfl) rfl rfl rfl fun a hF => ?_
                               refine E.opvg hF (r_ixv (hF.at 1 rfl) (hF.at 0 rfl) (ixs (xs := B) (j := j) Try.underlying9 (by omega) (by omega) h8B)) (wanted_by rfl rfl (hF.at 2 rfl) rfl) rfl rfl rfl fun a hF => ?_
                               by_cases hc12 : 57 < ((lg (B) j : Nat) : Int)
                               · first
                                 | (exfalso; omega)
                                 | (refine E.opvg hF (r_bin (hF.at 0 rfl) ev_c eg_scalar (bi_int (ic_gtr (c := true) (dec_tt hc12)) (by simp))) (wanted_by rfl rfl (hF.at 3 rfl) rfl) rfl rfl rfl fun a hF => ?_
                                    refine E.opv hF (r_pick_f (hF.at 4 rfl) (hF.at 0 rfl)) rfl rfl rfl rfl fun a hF => ?_
                                    refine E.nil ?_
                                    refine wp_cond_true (hF.at 0 rfl) ?_
                                    refine wp_seq ?_
                                    refine E.seq ?_
                                    refine E.opv hF (r_build (by simp) (bd_RInt_ _)) rfl rfl rfl rfl fun a hF => ?_
                                    obtain ⟨w13, hr, tu, on⟩ := st_RInt (vs := [.bool false, .slice none 0 0]) o2 rfl rfl (ocB (ocS oc0)) (niB (niS ni0)) (o := 0) rfl
                                    have kp := tu.keep o2
                                    refine E.st hF (r_store (hF.at 18 rfl) (hF.at 0 rfl) (hr _ rfl)) rfl rfl fun a hF => ?_
                                    clear hr
                                    replace hz0 := hz0.keep kp
                                    replace bel := tu.below bel ge2
                                    replace sty := sty.turned tu (.inl (by simp))
                                    clear tu kp
                                    replace o2 := on
                                    clear on
                                    refine E.opv hF (r_assign ev_c) rfl rfl rfl rfl fun a hF => ?_
                                    refine E.nil ?_
                                    refine wp_ret ?_
                                    refine bodyPost_ret (res_celltmp Try.results21 (hF.at 19 rfl) (ld_RInt (vs := [.bool false, .slice none 0 0]) o2 rfl rfl) (hF.at 0 rfl)) hF.dfr ?_
                                    have hb := rbad hbd (fun e => absurd e hx48) (.inr (.inr (.inr ⟨j, hjn, by omega⟩)))
                                    exact ⟨_, rv_vi2 hb.1, Rz.castP (Rz.zero _) hb.2, bel⟩)
                               · first
                                 | (exfalso; omega)
                                 | (refine E.opvg hF (r_bin (hF.at 0 rfl) ev_c eg_scalar (bi_int (ic_gtr (c := false) (dec_ff hc12)) (by simp))) (wanted_by rfl rfl (hF.at 3 rfl) rfl) rfl rfl rfl fun a hF => ?_
                                    refine E.opv hF (r_pick_f (hF.at 4 rfl) (hF.at 0 rfl)) rfl rfl rfl rfl fun a hF => ?_
                                    refine E.nil ?_
                                    refine wp_cond_false (hF.at 0 rfl) ?_
                                    refine wp_skip ?_
                                    refine E.blk ?_
                                    refine E.norm ?_
                                    refine E.seq ?_
                                    refine E.opv hF (r_move (hF.at 14 rfl)) rfl rfl rfl rfl fun a hF => ?_
                                    refine E.opv hF (r_bin (hF.at 0 rfl) ev_c eg_scalar (ia_add (by omega) (by omega))) rfl rfl rfl rfl fun a hF => ?_
                                    refine E.opset (L' := [(5, .int .i64 (((j : Nat) : Int) + 1)), (44, .int .i64 (((j : Nat) : Int) + 1)), (43, .int .i64 ((j : Nat) : Int)), (54, .bool false), (53, .bool false), (52, .int .u8 ((lg (B) j : Nat) : Int)), (51, .int .i64 ((j : Nat) : Int)), (50, .string (bstr B)), (49, .bool false), (48, .bool false), (47, .int .u8 ((lg (B) j : Nat) : Int)), (46, .int .i64 ((j : Nat) : Int)), (45, .string (bstr B)), (42, .bool true), (41, .int .i64 ((List.length (B) : Nat) : Int)), (40, .string (bstr B)), (39, .int .i64 ((j : Nat) : Int)), (0, .string (bstr B)), (4, .bool true), (2, .pointer (some ⟨g2, 0, none⟩))]) hF (r_assign (hF.at 0 rfl)) rfl rfl rfl rfl fun a hF => ?_
                                    refine E.nil0 ?_
                                    refine E.norm ?_
                                    exact ⟨B.length - (j + 1), by omega, ⟨(j + 1), (by omega), (dg_more hd ⟨by omega, by omega⟩), (by rw [show ((j + 1 : Nat) : Int) = ((j : Nat) : Int) + 1 from by omega]; exact Fr.sub (L' := [(5, .int .i64 (((j : Nat) : Int) + 1)), (0, .string (bstr B)), (4, .bool true), (2, .pointer (some ⟨g2, 0, none⟩))]) hF (by intro p hp; simp only [List.mem_cons, List.not_mem_nil, or_false] at hp ⊢; rcases hp with rfl | rfl | rfl | rfl <;> simp)), sty, bel, o2, hz0, rfl⟩⟩))
                        · refine wp_seq ?_
                          refine wp_seq ?_
                          refine E.seq ?_
                          refine E.opv hF (r_move (hF.at 0 rfl)) rfl rfl rfl rfl fun a hF => ?_
                          refine E.opv hF (r_move (hF.at 2 rfl)) rfl rfl rfl rfl fun a hF => ?_
                          refine E.opv hF (r_builtin (map1 (hF.at 0 rfl)) (bl_str Try.underlying9)) rfl rfl rfl rfl fun a hF => ?_
                          refine E.opv hF (r_bin (hF.at 2 rfl) (hF.at 0 rfl) eg_scalar (bi_int (ic_lss (c := false) (dec_ff (by omega))) (by simp))) rfl rfl rfl rfl fun a hF => ?_
                          refine E.nil ?_
                          refine wp_cond_false (hF.at 0 rfl) ?_
                          refine wp_exit ?_
                          refine E.past ?_
                          refine E.past ?_
                          refine E.out (id := 0) ?_
                          refine E.norm ?_
                          refine wp_seq ?_
                          refine wp_seq ?_
                          refine E.seq ?_
                          refine E.opv hF (r_move (hF.at 5 rfl)) rfl rfl rfl rfl fun a hF => ?_
                          refine E.opv hF (r_builtin (map1 (hF.at 0 rfl)) (bl_str Try.underlying9)) rfl rfl rfl rfl fun a hF => ?_
                          by_cases hc10 : 1000 < ((List.length (B) : Nat) : Int)
                          · first
                            | (exfalso; omega)
                            | (refine E.opv hF (r_bin (hF.at 0 rfl) ev_c eg_scalar (bi_int (ic_gtr (c := true) (dec_tt hc10)) (by simp))) rfl rfl rfl rfl fun a hF => ?_
                               refine E.nil ?_
                               refine wp_cond_true (hF.at 0 rfl) ?_
                               refine wp_seq ?_
                               refine E.seq ?_
                               refine E.opv hF (r_build (by simp) (bd_RInt_ _)) rfl rfl rfl rfl fun a hF => ?_
                               obtain ⟨w11, hr, tu, on⟩ := st_RInt (vs := [.bool false, .slice none 0 0]) o2 rfl rfl (ocB (ocS oc0)) (niB (niS ni0)) (o := 0) rfl
                               have kp := tu.keep o2
                               refine E.st hF (r_store (hF.at 11 rfl) (hF.at 0 rfl) (hr _ rfl)) rfl rfl fun a hF => ?_
                               clear hr
                               replace hz0 := hz0.keep kp
                               replace bel := tu.below bel ge2
                               clear tu kp
                               replace o2 := on
                               clear on
                               refine E.opv hF (r_assign ev_c) rfl rfl rfl rfl fun a hF => ?_
                               refine E.nil ?_
                               refine wp_ret ?_
                               refine bodyPost_ret (res_celltmp Try.results21 (hF.at 12 rfl) (ld_RInt (vs := [.bool false, .slice none 0 0]) o2 rfl rfl) (hF.at 0 rfl)) hF.dfr ?_
                               have hg := rgood hbd (by omega) (by omega) (fun e => absurd e hc7) (fun i hi => hd i (by omega))
                               have hb := pe_5 hg (by rw [hbd]; omega)
                               exact ⟨_, rv_vi2 hb.1, Rz.castP (Rz.zero _) hb.2, bel⟩)
                          · first
                            | (exfalso; omega)
                            | (refine E.opv hF (r_bin (hF.at 0 rfl) ev_c eg_scalar (bi_int (ic_gtr (c := false) (dec_ff hc10)) (by simp))) rfl rfl rfl rfl fun a hF => ?_
                               refine E.nil ?_
                               refine wp_cond_false (hF.at 0 rfl) ?_
                               refine wp_skip ?_
                               refine E.norm ?_
                               refine wp_seq ?_
                               refine E.seq ?_
                               obtain ⟨vv12, w13, hr, bb, hh14⟩ := num0p w9
                               refine E.opv hF (r_buildSlice (by simp) hr) rfl rfl rfl rfl fun a hF => ?_
                               clear hr
                               replace hz0 := hz0.below bb
                               replace o2 := o2.below bb
                               replace bel := below_to bel bb
                               clear bb
                               obtain ⟨ad15, n15, c15, rfl⟩ := Dg.form hh14
                               refine E.opv hF (r_assign (hF.at 0 rfl)) rfl rfl rfl rfl fun a hF => ?_
                               refine E.nil ?_
                               refine wp_seq ?_
                               refine wp_seq ?_
                               refine E.seq ?_
                               refine E.opv hF (r_assign ev_c) rfl rfl rfl rfl fun a hF => ?_
                               refine E.nil ?_
                               refine wp_block ?_
                               have hjl0 : j = B.length := by omega
                               have hdA : ∀ i, i < B.length → 48 ≤ lg B i ∧ lg B i ≤ 57 := fun i hi => hd i (by omega)
                               skip
                               refine E.loop (fun mq a wv => ∃ (j : Nat) (sa : Option Addr) (sn : Nat) (sc : Nat), j ≤ B.length ∧ Fr 79 a [(7, .int .i64 ((j : Nat) : Int)), (6, .slice sa sn sc), (0, .string (bstr B)), (4, .bool true), (2, .pointer (some ⟨g2, 0, none⟩))] ∧ Below w13.heap.size w13 wv ∧ Below w.heap.size w wv ∧ Dg wv .i64 65536 (.slice sa sn sc) (dv B j) ∧ mq = B.length - j) (B.length - 0) ?_ ?_
                               · exact ⟨0, ad15, n15, c15, (Nat.zero_le _), Fr.sub (L' := [(7, .int .i64 ((0 : Nat) : Int)), (6, .slice ad15 n15 c15), (0, .string (bstr B)), (4, .bool true), (2, .pointer (some ⟨g2, 0, none⟩))]) hF (by intro p hp; simp only [List.mem_cons, List.not_mem_nil, or_false] at hp ⊢; rcases hp with rfl | rfl | rfl | rfl | rfl <;> simp), Below.refl _ _, bel, hh14, rfl⟩
                               · rintro mq a w16 ⟨j, sa, sn, sc, hj, hF, sty, bel, hx, hm⟩
                                 replace hz0 := hz0.below sty
                                 replace o2 := o2.below sty
                                 by_cases hjn : j < B.length
                                 · have hdj := hdA j hjn
                                   have hXl := dv_lim (B := B) (j := j) (fun i hi => hdA i (by omega)) (by omega)
                                   have hadd : dl 65536 (dv B j * 10) ≤ 1000000 ∧ dl 65536 (lg B j - 48) ≤ 1000000 := ⟨(show Lim (dv B j * 10) (106 + 1) from Lim.mul hXl (Lim.of32 (by decide))).dh _ (by decide), (show Lim (lg B j - 48) 1 from Lim.of32 (by omega)).dh _ (by decide)⟩
                                   refine wp_seq ?_
                                   refine wp_seq ?_
                                   refine E.seq ?_
                                   refine E.opv hF (r_move (hF.at 0 rfl)) rfl rfl rfl rfl fun a hF => ?_
                                   refine E.opv hF (r_move (hF.at 3 rfl)) rfl rfl rfl rfl fun a hF => ?_
                                   refine E.opv hF (r_builtin (map1 (hF.at 0 rfl)) (bl_str Try.underlying9)) rfl rfl rfl rfl fun a hF => ?_
                                   refine E.opv hF (r_bin (hF.at 2 rfl) (hF.at 0 rfl) eg_scalar (bi_int (ic_lss (c := true) (dec_tt (by omega))) (by simp))) rfl rfl rfl rfl fun a hF => ?_
                                   refine E.nil ?_
                                   refine wp_cond_true (hF.at 0 rfl) ?_
                                   refine wp_skip ?_
                                   refine E.norm ?_
                                   refine wp_seq ?_
                                   refine wp_block ?_
                                   refine E.drawn 9 mixed hF [67, 68, 69, 70, 71, 72, 73, 74, 75] [(fun _ v => v = .slice sa sn sc), (fun w v => Dg w .i64 65536 v ((dv B j) * 10)), (fun _ v => v = .string (bstr B)), (fun _ v => v = .int .i64 ((j : Nat) : Int)), (fun _ v => v = .int .u8 ((lg (B) j : Nat) : Int)), (fun _ v => v = .int .u8 (((lg (B) j : Nat) : Int) - 48)), (fun _ v => v = .int .i64 (((lg (B) j : Nat) : Int) - 48)), (fun w v => Dg w .i64 65536 v ((lg B j - 48))), (fun w v => Dg w .i64 65536 v (((dv B j) * 10) + ((lg B j - 48))))] [] (by decide +kernel) (by decide +kernel) rfl rfl rfl ⟨(Mb.eq _), (fun _ _ _ h hb => h.below hb), (Mb.eq _), (Mb.eq _), (Mb.eq _), (Mb.eq _), (Mb.eq _), (fun _ _ _ h hb => h.below hb), (fun _ _ _ h hb => h.below hb), trivial⟩ trivial ⟨?_, ?_, ?_, ?_, ?_, ?_, ?_, ?_, ?_, trivial⟩ ?_
                                   · intro a' w' hF' hb hd
                                     exact if_does (wanted_free rfl) (Does.vals (r_move (hF'.at 5 rfl)) ⟨rfl, Below.refl _ _, (fun h => absurd h (by decide))⟩)
                                   · intro a' w' hF' hb hd
                                     have e67 : a'.tmps.getD 67 undef = .slice sa sn sc := hd _ 67 (Array.mem_of_getElem? (i := 0) rfl) rfl rfl
                                     refine if_does (wanted_free rfl) (Does.calls (r_call Try.func55 en55.1 en55.2 (map3 e67 ev_c ev_c)) (stimes10 _ (dv B j) _ (hx.below hb) (Lim.dh hXl _ (by omega))) ?_)
                                     rintro e w'' ⟨v', rfl, h', bb⟩
                                     exact ⟨_, rfl, h', bb, (fun h => absurd h (by decide))⟩
                                   · intro a' w' hF' hb hd
                                     exact if_does (wanted_free rfl) (Does.vals (r_move (hF'.at 6 rfl)) ⟨rfl, Below.refl _ _, (fun h => absurd h (by decide))⟩)
                                   · intro a' w' hF' hb hd
                                     exact if_does (wanted_free rfl) (Does.vals (r_move (hF'.at 4 rfl)) ⟨rfl, Below.refl _ _, (fun h => absurd h (by decide))⟩)
                                   · intro a' w' hF' hb hd
                                     have e69 : a'.tmps.getD 69 undef = .string (bstr B) := hd _ 69 (Array.mem_of_getElem? (i := 0) rfl) rfl rfl
                                     have e70 : a'.tmps.getD 70 undef = .int .i64 ((j : Nat) : Int) := hd _ 70 (Array.mem_of_getElem? (i := 1) rfl) rfl rfl
                                     exact if_does (wanted_free rfl) (Does.vals (r_ixv e69 e70 (ixs (xs := B) (j := j) Try.underlying9 (by omega) (by omega) h8B)) ⟨rfl, Below.refl _ _, (fun h => absurd h (by decide))⟩)
                                   · intro a' w' hF' hb hd
                                     have e71 : a'.tmps.getD 71 undef = .int .u8 ((lg (B) j : Nat) : Int) := hd _ 71 (Array.mem_of_getElem? (i := 0) rfl) rfl rfl
                                     exact if_does (wanted_free rfl) (Does.vals (r_bin e71 ev_c eg_scalar (iw_sub (a := ((lg (B) j : Nat) : Int)) (b := 48) (w_u8 (by omega) (by omega)))) ⟨rfl, Below.refl _ _, (fun h => absurd h (by decide))⟩)
                                   · intro a' w' hF' hb hd
                                     have e72 : a'.tmps.getD 72 undef = .int .u8 (((lg (B) j : Nat) : Int) - 48) := hd _ 72 (Array.mem_of_getElem? (i := 0) rfl) rfl rfl
                                     exact if_does (wanted_free rfl) (Does.vals (r_conv e72 (cv_kind (k' := .i64) Try.underlying5 Try.underlying3 (w_i64 (by omega) (by omega)))) ⟨rfl, Below.refl _ _, (fun h => absurd h (by decide))⟩)
                                   · intro a' w' hF' hb hd
                                     have e73 : a'.tmps.getD 73 undef = .int .i64 (((lg (B) j : Nat) : Int) - 48) := hd _ 73 (Array.mem_of_getElem? (i := 0) rfl) rfl rfl
                                     refine if_does (wanted_free rfl) (Does.calls (r_call Try.func56 en56.1 en56.2 (map1 e73)) (sOf_int _ (lg B j - 48) _ (by omega) (by omega)) ?_)
                                     rintro e w'' ⟨v', rfl, h', bb⟩
                                     exact ⟨_, rfl, h', bb, (fun h => absurd h (by decide))⟩
                                   · intro a' w' hF' hb hd
                                     obtain ⟨v68_0, e68, h68_1⟩ : ∃ v, a'.tmps.getD 68 undef = v ∧ Dg w' .i64 65536 v ((dv B j) * 10) := ⟨_, rfl, hd _ 68 (Array.mem_of_getElem? (i := 0) rfl) rfl rfl⟩
                                     obtain ⟨v74_0, e74, h74_1⟩ : ∃ v, a'.tmps.getD 74 undef = v ∧ Dg w' .i64 65536 v ((lg B j - 48)) := ⟨_, rfl, hd _ 74 (Array.mem_of_getElem? (i := 1) rfl) rfl rfl⟩
                                     refine if_does (wanted_free rfl) (Does.calls (r_call Try.func54 en54.1 en54.2 (map2 e68 e74)) (sadd_any _ _ ((dv B j) * 10) ((lg B j - 48)) _ h68_1 h74_1 hadd) ?_)
                                     rintro e w'' ⟨v', rfl, h', bb⟩
                                     exact ⟨_, rfl, h', bb, (fun h => absurd h (by decide))⟩
                                   intro a w17 hF bb hall hne
                                   obtain ⟨vv18, e75, hh19⟩ : ∃ v, a.tmps.getD 75 undef = v ∧ Dg w17 .i64 65536 v (((dv B j) * 10) + ((lg B j - 48))) := ⟨_, rfl, hall 8 75 rfl⟩
                                   clear hall hne
                                   replace hx := hx.below bb
                                   replace hz0 := hz0.below bb
                                   replace o2 := o2.below bb
                                   replace sty := below_to sty bb
                                   replace bel := below_to bel bb
                                   clear bb
                                   obtain ⟨ad20, n20, c20, rfl⟩ := Dg.form hh19
                                   replace hF := hF.add e75
                                   clear e75
                                   refine E.opset (L' := [(6, .slice ad20 n20 c20), (75, .slice ad20 n20 c20), (64, .bool true), (63, .int .i64 ((List.length (B) : Nat) : Int)), (62, .string (bstr B)), (61, .int .i64 ((j : Nat) : Int)), (7, .int .i64 ((j : Nat) : Int)), (0, .string (bstr B)), (4, .bool true), (2, .pointer (some ⟨g2, 0, none⟩))]) hF (r_assign (hF.at 0 rfl)) rfl rfl rfl rfl fun a hF => ?_
                                   refine E.nil0 ?_
                                   refine E.blk ?_
                                   refine E.norm ?_
                                   refine E.seq ?_
                                   refine E.opv hF (r_move (hF.at 6 rfl)) rfl rfl rfl rfl fun a hF => ?_
                                   refine E.opv hF (r_bin (hF.at 0 rfl) ev_c eg_scalar (ia_add (by omega) (by omega))) rfl rfl rfl rfl fun a hF => ?_
                                   refine E.opset (L' := [(7, .int .i64 (((j : Nat) : Int) + 1)), (66, .int .i64 (((j : Nat) : Int) + 1)), (65, .int .i64 ((j : Nat) : Int)), (6, .slice ad20 n20 c20), (75, .slice ad20 n20 c20), (64, .bool true), (63, .int .i64 ((List.length (B) : Nat) : Int)), (62, .string (bstr B)), (61, .int .i64 ((j : Nat) : Int)), (0, .string (bstr B)), (4, .bool true), (2, .pointer (some ⟨g2, 0, none⟩))]) hF (r_assign (hF.at 0 rfl)) rfl rfl rfl rfl fun a hF => ?_
                                   refine E.nil0 ?_
                                   refine E.norm ?_
                                   exact ⟨B.length - (j + 1), by omega, ⟨(j + 1), ad20, n20, c20, (by omega), (by rw [show ((j + 1 : Nat) : Int) = ((j : Nat) : Int) + 1 from by omega]; exact Fr.sub (L' := [(7, .int .i64 (((j : Nat) : Int) + 1)), (6, .slice ad20 n20 c20), (0, .string (bstr B)), (4, .bool true), (2, .pointer (some ⟨g2, 0, none⟩))]) hF (by intro p hp; simp only [List.mem_cons, List.not_mem_nil, or_false] at hp ⊢; rcases hp with rfl | rfl | rfl | rfl | rfl <;> simp)), sty, bel, hh19, rfl⟩⟩
                                 · have hjl : j = B.length := by omega
                                   refine wp_seq ?_
                                   refine wp_seq ?_
                                   refine E.seq ?_
                                   refine E.opv hF (r_move (hF.at 0 rfl)) rfl rfl rfl rfl fun a hF => ?_
                                   refine E.opv hF (r_move (hF.at 3 rfl)) rfl rfl rfl rfl fun a hF => ?_
                                   refine E.opv hF (r_builtin (map1 (hF.at 0 rfl)) (bl_str Try.underlying9)) rfl rfl rfl rfl fun a hF => ?_
                                   refine E.opv hF (r_bin (hF.at 2 rfl) (hF.at 0 rfl) eg_scalar (bi_int (ic_lss (c := false) (dec_ff (by omega))) (by simp))) rfl rfl rfl rfl fun a hF => ?_
                                   refine E.nil ?_
                                   refine wp_cond_false (hF.at 0 rfl) ?_
                                   refine wp_exit ?_
                                   refine E.past ?_
                                   refine E.past ?_
                                   refine E.out (id := 2) ?_
                                   refine E.norm ?_
                                   refine wp_seq ?_
                                   refine E.seq ?_
                                   refine E.opv hF (r_move (hF.at 7 rfl)) rfl rfl rfl rfl fun a hF => ?_
                                   refine E.opv hF (r_move (hF.at 6 rfl)) rfl rfl rfl rfl fun a hF => ?_
                                   refine E.call hF (r_call Try.func43 en43.1 en43.2 (map2 (hF.at 1 rfl) (hF.at 0 rfl))) (rmake_any _ _ (dv B j) _ hx) rfl rfl rfl rfl ?_
                                   rintro e w17 ⟨vv18, rfl, hh19, bb⟩
                                   refine ⟨_, rfl, ?_⟩
                                   intro a hF
                                   replace hz0 := hz0.below bb
                                   replace o2 := o2.below bb
                                   replace bel := below_to bel bb
                                   clear bb
                                   obtain ⟨b20, ad20, n20, c20, rfl⟩ := Rz.form hh19
                                   obtain ⟨w21, hr, tu, on⟩ := st_RInt (vs := [.bool b20, .slice ad20 n20 c20]) o2 rfl rfl (ocB (ocS oc0)) (niB (niS ni0)) (o := 0) rfl
                                   have kp := tu.keep o2
                                   refine E.st hF (r_store (hF.at 11 rfl) (hF.at 0 rfl) (hr _ rfl)) rfl rfl fun a hF => ?_
                                   clear hr
                                   replace hz0 := hz0.keep kp
                                   replace hh19 := hh19.keep kp
                                   replace bel := tu.below bel ge2
                                   clear tu kp
                                   replace o2 := on
                                   clear on
                                   have hf22 := Rz.abs hh19
                                   refine E.opv hF (r_assign ev_c) rfl rfl rfl rfl fun a hF => ?_
                                   refine E.nil ?_
                                   refine wp_ret ?_
                                   refine bodyPost_ret (res_celltmp Try.results21 (hF.at 12 rfl) (ld_RInt (vs := [.bool b20, .slice ad20 n20 c20]) o2 rfl rfl) (hF.at 0 rfl)) hF.dfr ?_
                                   have hg := rgood hbd (by omega) (by omega) (fun e => absurd e hc7) hdA
                                   have hb := pe_0 hg (by rw [hbd]; omega)
                                   rw [hng, hbd] at hb
                                   rw [hjl] at *
                                   exact ⟨_, rv_vi2 hb.1, Rz.castP hh19 hb.2, bel⟩))))
       · first
         | (exfalso; omega)
         | (refine E.opvg hF (r_bin (hF.at 0 rfl) ev_c eg_scalar (bi_int (ic_gtr (c := false) (dec_ff hc4)) (by simp))) (wanted_by rfl rfl (hF.at 2 rfl) rfl) rfl rfl rfl fun a hF => ?_
            refine E.opvg hF (r_move (hF.at 0 rfl)) (wanted_by rfl rfl (hF.at 3 rfl) rfl) rfl rfl rfl fun a hF => ?_
            refine E.unwanted hF (wanted_by rfl rfl (hF.at 0 rfl) rfl) rfl rfl rfl fun a hF => ?_
            refine E.unwanted hF (wanted_by rfl rfl (hF.at 1 rfl) rfl) rfl rfl rfl fun a hF => ?_
            refine E.unwanted hF (wanted_by rfl rfl (hF.at 2 rfl) rfl) rfl rfl rfl fun a hF => ?_
            refine E.opvg hF (r_pick_f (hF.at 3 rfl) ev_c) (wanted_by rfl rfl (hF.at 7 rfl) rfl) rfl rfl rfl fun a hF => ?_
            refine E.opv hF (r_pick_f (hF.at 8 rfl) (hF.at 0 rfl)) rfl rfl rfl rfl fun a hF => ?_
            refine E.opv hF (r_move (hF.at 0 rfl)) rfl rfl rfl rfl fun a hF => ?_
            refine E.opvg hF (r_move (hF.at 17 rfl)) (wanted_by rfl rfl (hF.at 0 rfl) rfl) rfl rfl rfl fun a hF => ?_
            refine E.opvg hF (r_move (hF.at 0 rfl)) (wanted_by rfl rfl (hF.at 1 rfl) rfl) rfl rfl rfl fun a hF => ?_
            refine E.opvg hF (r_move (hF.at 16 rfl)) (wanted_by rfl rfl (hF.at 0 rfl) rfl) rfl rfl rfl fun a hF => ?_
            by_cases hc10 : B = [48]
            · first
              | (exfalso; omega)
              | (refine E.opvg hF (r_bin (hF.at 0 rfl) ev_c eg_str (sb_eq (xs := B) (ys := [48]) (streq_t hc10))) (wanted_by rfl rfl (hF.at 1 rfl) rfl) rfl rfl rfl fun a hF => ?_
                 refine E.opvg hF (r_pick_t (hF.at 2 rfl) (hF.at 0 rfl)) (wanted_by rfl rfl (hF.at 4 rfl) rfl) rfl rfl rfl fun a hF => ?_
                 refine E.opv hF (r_pick_f (hF.at 5 rfl) (hF.at 0 rfl)) rfl rfl rfl rfl fun a hF => ?_
                 refine E.nil ?_
                 refine wp_cond_true (hF.at 0 rfl) ?_
                 refine wp_seq ?_
                 refine E.seq ?_
                 refine E.opv hF (r_build (by simp) (bd_RInt_ _)) rfl rfl rfl rfl fun a hF => ?_
                 obtain ⟨w11, hr, tu, on⟩ := st_RInt (vs := [.bool false, .slice none 0 0]) o2 rfl rfl (ocB (ocS oc0)) (niB (niS ni0)) (o := 0) rfl
                 have kp := tu.keep o2
                 refine E.st hF (r_store (hF.at 34 rfl) (hF.at 0 rfl) (hr _ rfl)) rfl rfl fun a hF => ?_
                 clear hr
                 replace bel := tu.below bel ge2
                 clear tu kp
                 replace o2 := on
                 clear on
                 refine E.opset (L' := [(3, .int .i64 1), (38, .agg #[.bool false, .slice none 0 0]), (37, .bool true), (36, .bool true), (35, .bool true), (34, .string (bstr B)), (33, .bool true), (32, .bool true), (31, .bool false), (30, .bool false), (29, .bool false), (28, undef), (27, undef), (26, undef), (25, .bool false), (24, .bool false), (23, .int .i64 ((List.length (B) : Nat) : Int)), (22, .string (bstr B)), (21, .bool false), (20, .bool false), (19, .int .i64 ((List.length (B) : Nat) : Int)), (18, .string (bstr B)), (0, .string (bstr B)), (17, .string (bstr (List.drop (1) (xs)))), (16, .string (bstr xs)), (4, .bool true), (15, .bool true), (14, .bool true), (13, .int .u8 ((lg (xs) 0 : Nat) : Int)), (12, .string (bstr xs)), (11, .bool true), (10, .bool true), (9, .int .i64 ((List.length (xs) : Nat) : Int)), (8, .string (bstr xs)), (2, .pointer (some ⟨g2, 0, none⟩))]) hF (r_assign ev_c) rfl rfl rfl rfl fun a hF => ?_
                 refine E.nil ?_
                 refine wp_ret ?_
                 refine bodyPost_ret (res_celltmp Try.results21 (hF.at 34 rfl) (ld_RInt (vs := [.bool false, .slice none 0 0]) o2 rfl rfl) (hF.at 0 rfl)) hF.dfr ?_
                 have hb := rbad hbd (fun e => absurd e hx48) (.inr (.inr (.inl ⟨hx48, hc10⟩)))
                 exact ⟨_, rv_vi2 hb.1, Rz.castP (Rz.zero _) hb.2, bel⟩)
            · first
              | (exfalso; omega)
              | (refine E.opvg hF (r_bin (hF.at 0 rfl) ev_c eg_str (sb_eq (xs := B) (ys := [48]) (streq_f hc10 h8B (by decide)))) (wanted_by rfl rfl (hF.at 1 rfl) rfl) rfl rfl rfl fun a hF => ?_
                 refine E.opvg hF (r_pick_t (hF.at 2 rfl) (hF.at 0 rfl)) (wanted_by rfl rfl (hF.at 4 rfl) rfl) rfl rfl rfl fun a hF => ?_
                 refine E.opv hF (r_pick_f (hF.at 5 rfl) (hF.at 0 rfl)) rfl rfl rfl rfl fun a hF => ?_
                 refine E.nil ?_
                 refine wp_cond_false (hF.at 0 rfl) ?_
                 refine wp_skip ?_
                 refine E.norm ?_
                 refine wp_seq ?_
                 refine wp_seq ?_
                 refine E.seq ?_
                 refine E.opv hF (r_assign ev_c) rfl rfl rfl rfl fun a hF => ?_
                 refine E.nil ?_
                 refine wp_block ?_
                 have nint := nn1 o2.noInt
                 refine E.loop (fun mq a wv => ∃ (j : Nat), j ≤ B.length ∧ (∀ i, i < j → 48 ≤ lg B i ∧ lg B i ≤ 57) ∧ Fr 79 a [(5, .int .i64 ((j : Nat) : Int)), (0, .string (bstr B)), (4, .bool true), (2, .pointer (some ⟨g2, 0, none⟩))] ∧ Stay [g2] w1 wv ∧ Below w.heap.size w wv ∧ Own wv g2 [.bool false, .slice none 0 0] ∧ Rz wv (.agg #[.bool false, .slice none 0 0]) 0 ∧ mq = B.length - j) (B.length - 0) ?_ ?_
                 · exact ⟨0, (Nat.zero_le _), (fun i hi => absurd hi (by omega)), hF.sub (by intro p hp; simp only [List.mem_cons, List.not_mem_nil, or_false] at hp ⊢; rcases hp with rfl | rfl | rfl | rfl <;> simp), Stay.refl _ _, bel, o2, (Rz.zero _), rfl⟩
                 · rintro mq a w12 ⟨j, hj, hd, hF, sty, bel, o2, hz0, hm⟩
                   have kps := sty.keep nint
                   clear kps
                   by_cases hjn : j < B.length
                   · refine wp_seq ?_
                     refine wp_seq ?_
                     refine E.seq ?_
                     refine E.opv hF (r_move (hF.at 0 rfl)) rfl rfl rfl rfl fun a hF => ?_
                     refine E.opv hF (r_move (hF.at 2 rfl)) rfl rfl rfl rfl fun a hF => ?_
                     refine E.opv hF (r_builtin (map1 (hF.at 0 rfl)) (bl_str Try.underlying9)) rfl rfl rfl rfl fun a hF => ?_
                     refine E.opv hF (r_bin (hF.at 2 rfl) (hF.at 0 rfl) eg_scalar (bi_int (ic_lss (c := true) (dec_tt (by omega))) (by simp))) rfl rfl rfl rfl fun a hF => ?_
                     refine E.nil ?_
                     refine wp_cond_true (hF.at 0 rfl) ?_
                     refine wp_skip ?_
                     refine E.norm ?_
                     refine wp_seq ?_
                     refine wp_block ?_
                     refine wp_seq ?_
                     refine E.seq ?_
                     refine E.opv hF (r_move (hF.at 5 rfl)) rfl rfl rfl rfl fun a hF => ?_
                     refine E.opv hF (r_move (hF.at 5 rfl)) rfl rfl rfl rfl fun a hF => ?_
                     refine E.opv hF (r_ixv (hF.at 1 rfl) (hF.at 0 rfl) (ixs (xs := B) (j := j) Try.underlying9 (by omega) (by omega) h8B)) rfl rfl rfl rfl fun a hF => ?_
                     by_cases hc13 : ((lg (B) j : Nat) : Int) < 48
                     · first
                       | (exfalso; omega)
                       | (refine E.opv hF (r_bin (hF.at 0 rfl) ev_c eg_scalar (bi_int (ic_lss (c := true) (dec_tt hc13)) (by simp))) rfl rfl rfl rfl fun a hF => ?_
                          refine E.opv hF (r_move (hF.at 0 rfl)) rfl rfl rfl rfl fun a hF => ?_
                          refine E.unwanted hF (wanted_by rfl rfl (hF.at 0 rfl) rfl) rfl rfl rfl fun a hF => ?_
                          refine E.unwanted hF (wanted_by rfl rfl (hF.at 1 rfl) rfl) rfl rfl rfl fun a hF => ?_
                          refine E.unwanted hF (wanted_by rfl rfl (hF.at 2 rfl) rfl) rfl rfl rfl fun a hF => ?_
                          refine E.unwanted hF (wanted_by rfl rfl (hF.at 3 rfl) rfl) rfl rfl rfl fun a hF => ?_
                          refine E.opv hF (r_pick_t (hF.at 4 rfl) ev_c) rfl rfl rfl rfl fun a hF => ?_
                          refine E.nil ?_
                          refine wp_cond_true (hF.at 0 rfl) ?_
                          refine wp_seq ?_
                          refine E.seq ?_
                          refine E.opv hF (r_build (by simp) (bd_RInt_ _)) rfl rfl rfl rfl fun a hF => ?_
                          obtain ⟨w14, hr, tu, on⟩ := st_RInt (vs := [.bool false, .slice none 0 0]) o2 rfl rfl (ocB (ocS oc0)) (niB (niS ni0)) (o := 0) rfl
                          have kp := tu.keep o2
                          refine E.st hF (r_store (hF.at 18 rfl) (hF.at 0 rfl) (hr _ rfl)) rfl rfl fun a hF => ?_
                          clear hr
                          replace hz0 := hz0.keep kp
                          replace bel := tu.below bel ge2
                          replace sty := sty.turned tu (.inl (by simp))
                          clear tu kp
                          replace o2 := on
                          clear on
                          refine E.opv hF (r_assign ev_c) rfl rfl rfl rfl fun a hF => ?_
                          refine E.nil ?_
                          refine wp_ret ?_
                          refine bodyPost_ret (res_celltmp Try.results21 (hF.at 19 rfl) (ld_RInt (vs := [.bool false, .slice none 0 0]) o2 rfl rfl) (hF.at 0 rfl)) hF.dfr ?_
                          have hb := rbad hbd (fun e => absurd e hx48) (.inr (.inr (.inr ⟨j, hjn, by omega⟩)))
                          exact ⟨_, rv_vi2 hb.1, Rz.castP (Rz.zero _) hb.2, bel⟩)
                     · first
                       | (exfalso; omega)
                       | (refine E.opv hF (r_bin (hF.at 0 rfl) ev_c eg_scalar (bi_int (ic_lss (c := false) (dec_ff hc13)) (by simp))) rfl rfl rfl rfl fun a hF => ?_
                          refine E.opv hF (r_move (hF.at 0 rfl)) rfl rfl rfl rfl fun a hF => ?_
                          refine E.opvg hF (r_move (hF.at 10 rfl)) (wanted_by rfl rfl (hF.at 0 rfl) rfl) rfl rfl rfl fun a hF => ?_
                          refine E.opvg hF (r_move (hF.at 10 rfl)) (wanted_by rfl rfl (hF.at 1 rfl) rfl) rfl rfl rfl fun a hF => ?_
                          refine E.opvg hF (r_ixv (hF.at 1 rfl) (hF.at 0 rfl) (ixs (xs := B) (j := j) Try.underlying9 (by omega) (by omega) h8B)) (wanted_by rfl rfl (hF.at 2 rfl) rfl) rfl rfl rfl fun a hF => ?_
                          by_cases hc15 : 57 < ((lg (B) j : Nat) : Int)
                          · first
                            | (exfalso; omega)
                            | (refine E.opvg hF (r_bin (hF.at 0 rfl) ev_c eg_scalar (bi_int (ic_gtr (c := true) (dec_tt hc15)) (by simp))) (wanted_by rfl rfl (hF.at 3 rfl) rfl) rfl rfl rfl fun a hF => ?_
                               refine E.opv hF (r_pick_f (hF.at 4 rfl) (hF.at 0 rfl)) rfl rfl rfl rfl fun a hF => ?_
                               refine E.nil ?_
                               refine wp_cond_true (hF.at 0 rfl) ?_
                               refine wp_seq ?_
                               refine E.seq ?_
                               refine E.opv hF (r_build (by simp) (bd_RInt_ _)) rfl rfl rfl rfl fun a hF => ?_
                               obtain ⟨w16, hr, tu, on⟩ := st_RInt (vs := [.bool false, .slice none 0 0]) o2 rfl rfl (ocB (ocS oc0)) (niB (niS ni0)) (o := 0) rfl
                               have kp := tu.keep o2
                               refine E.st hF (r_store (hF.at 18 rfl) (hF.at 0 rfl) (hr _ rfl)) rfl rfl fun a hF => ?_
                               clear hr
                               replace hz0 := hz0.keep kp
                               replace bel := tu.below bel ge2
                               replace sty := sty.turned tu (.inl (by simp))
                               clear tu kp
                               replace o2 := on
                               clear on
                               refine E.opv hF (r_assign ev_c) rfl rfl rfl rfl fun a hF => ?_
                               refine E.nil ?_
                               refine wp_ret ?_
                               refine bodyPost_ret (res_celltmp Try.results21 (hF.at 19 rfl) (ld_RInt (vs := [.bool false, .slice none 0 0]) o2 rfl rfl) (hF.at 0 rfl)) hF.dfr ?_
                               have hb := rbad hbd (fun e => absurd e hx48) (.inr (.inr (.inr ⟨j, hjn, by omega⟩)))
                               exact ⟨_, rv_vi2 hb.1, Rz.castP (Rz.zero _) hb.2, bel⟩)
                          · first
                            | (exfalso; omega)
                            | (refine E.opvg hF (r_bin (hF.at 0 rfl) ev_c eg_scalar (bi_int (ic_gtr (c := false) (dec_ff hc15)) (by simp))) (wanted_by rfl rfl (hF.at 3 rfl) rfl) rfl rfl rfl fun a hF => ?_
                               refine E.opv hF (r_pick_f (hF.at 4 rfl) (hF.at 0 rfl)) rfl rfl rfl rfl fun a hF => ?_
                               refine E.nil ?_
                               refine wp_cond_false (hF.at 0 rfl) ?_
                               refine wp_skip ?_
                               refine E.blk ?_
                               refine E.norm ?_
                               refine E.seq ?_
                               refine E.opv hF (r_move (hF.at 14 rfl)) rfl rfl rfl rfl fun a hF => ?_
                               refine E.opv hF (r_bin (hF.at 0 rfl) ev_c eg_scalar (ia_add (by omega) (by omega))) rfl rfl rfl rfl fun a hF => ?_
                               refine E.opset (L' := [(5, .int .i64 (((j : Nat) : Int) + 1)), (44, .int .i64 (((j : Nat) : Int) + 1)), (43, .int .i64 ((j : Nat) : Int)), (54, .bool false), (53, .bool false), (52, .int .u8 ((lg (B) j : Nat) : Int)), (51, .int .i64 ((j : Nat) : Int)), (50, .string (bstr B)), (49, .bool false), (48, .bool false), (47, .int .u8 ((lg (B) j : Nat) : Int)), (46, .int .i64 ((j : Nat) : Int)), (45, .string (bstr B)), (42, .bool true), (41, .int .i64 ((List.length (B) : Nat) : Int)), (40, .string (bstr B)), (39, .int .i64 ((j : Nat) : Int)), (0, .string (bstr B)), (4, .bool true), (2, .pointer (some ⟨g2, 0, none⟩))]) hF (r_assign (hF.at 0 rfl)) rfl rfl rfl rfl fun a hF => ?_
                               refine E.nil0 ?_
                               refine E.norm ?_
                               exact ⟨B.length - (j + 1), by omega, ⟨(j + 1), (by omega), (dg_more hd ⟨by omega, by omega⟩), (by rw [show ((j + 1 : Nat) : Int) = ((j : Nat) : Int) + 1 from by omega]; exact Fr.sub (L' := [(5, .int .i64 (((j : Nat) : Int) + 1)), (0, .string (bstr B)), (4, .bool true), (2, .pointer (some ⟨g2, 0, none⟩))]) hF (by intro p hp; simp only [List.mem_cons, List.not_mem_nil, or_false] at hp ⊢; rcases hp with rfl | rfl | rfl | rfl <;> simp)), sty, bel, o2, hz0, rfl⟩⟩))
                   · refine wp_seq ?_
                     refine wp_seq ?_
                     refine E.seq ?_
                     refine E.opv hF (r_move (hF.at 0 rfl)) rfl rfl rfl rfl fun a hF => ?_
                     refine E.opv hF (r_move (hF.at 2 rfl)) rfl rfl rfl rfl fun a hF => ?_
                     refine E.opv hF (r_builtin (map1 (hF.at 0 rfl)) (bl_str Try.underlying9)) rfl rfl rfl rfl fun a hF => ?_
                     refine E.opv hF (r_bin (hF.at 2 rfl) (hF.at 0 rfl) eg_scalar (bi_int (ic_lss (c := false) (dec_ff (by omega))) (by simp))) rfl rfl rfl rfl fun a hF => ?_
                     refine E.nil ?_
                     refine wp_cond_false (hF.at 0 rfl) ?_
                     refine wp_exit ?_
                     refine E.past ?_
                     refine E.past ?_
                     refine E.out (id := 0) ?_
                     refine E.norm ?_
                     refine wp_seq ?_
                     refine wp_seq ?_
                     refine E.seq ?_
                     refine E.opv hF (r_move (hF.at 5 rfl)) rfl rfl rfl rfl fun a hF => ?_
                     refine E.opv hF (r_builtin (map1 (hF.at 0 rfl)) (bl_str Try.underlying9)) rfl rfl rfl rfl fun a hF => ?_
                     by_cases hc13 : 1000 < ((List.length (B) : Nat) : Int)
                     · first
                       | (exfalso; omega)
                       | (refine E.opv hF (r_bin (hF.at 0 rfl) ev_c eg_scalar (bi_int (ic_gtr (c := true) (dec_tt hc13)) (by simp))) rfl rfl rfl rfl fun a hF => ?_
                          refine E.nil ?_
                          refine wp_cond_true (hF.at 0 rfl) ?_
                          refine wp_seq ?_
                          refine E.seq ?_
                          refine E.opv hF (r_build (by simp) (bd_RInt_ _)) rfl rfl rfl rfl fun a hF => ?_
                          obtain ⟨w14, hr, tu, on⟩ := st_RInt (vs := [.bool false, .slice none 0 0]) o2 rfl rfl (ocB (ocS oc0)) (niB (niS ni0)) (o := 0) rfl
                          have kp := tu.keep o2
                          refine E.st hF (r_store (hF.at 11 rfl) (hF.at 0 rfl) (hr _ rfl)) rfl rfl fun a hF => ?_
                          clear hr
                          replace hz0 := hz0.keep kp
                          replace bel := tu.below bel ge2
                          clear tu kp
                          replace o2 := on
                          clear on
                          refine E.opv hF (r_assign ev_c) rfl rfl rfl rfl fun a hF => ?_
                          refine E.nil ?_
                          refine wp_ret ?_
                          refine bodyPost_ret (res_celltmp Try.results21 (hF.at 12 rfl) (ld_RInt (vs := [.bool false, .slice none 0 0]) o2 rfl rfl) (hF.at 0 rfl)) hF.dfr ?_
                          have hg := rgood hbd (by omega) (by omega) (fun e => absurd e hc10) (fun i hi => hd i (by omega))
                          have hb := pe_5 hg (by rw [hbd]; omega)
                          exact ⟨_, rv_vi2 hb.1, Rz.castP (Rz.zero _) hb.2, bel⟩)
                     · first
                       | (exfalso; omega)
                       | (refine E.opv hF (r_bin (hF.at 0 rfl) ev_c eg_scalar (bi_int (ic_gtr (c := false) (dec_ff hc13)) (by simp))) rfl rfl rfl rfl fun a hF => ?_
                          refine E.nil ?_
                          refine wp_cond_false (hF.at 0 rfl) ?_
                          refine wp_skip ?_
                          refine E.norm ?_
                          refine wp_seq ?_
                          refine E.seq ?_
                          obtain ⟨vv15, w16, hr, bb, hh17⟩ := num0p w12
                          refine E.opv hF (r_buildSlice (by simp) hr) rfl rfl rfl rfl fun a hF => ?_
                          clear hr
                          replace hz0 := hz0.below bb
                          replace o2 := o2.below bb
                          replace bel := below_to bel bb
                          clear bb
                          obtain ⟨ad18, n18, c18, rfl⟩ := Dg.form hh17
                          refine E.opv hF (r_assign (hF.at 0 rfl)) rfl rfl rfl rfl fun a hF => ?_
                          refine E.nil ?_
                          refine wp_seq ?_
                          refine wp_seq ?_
                          refine E.seq ?_
                          refine E.opv hF (r_assign ev_c) rfl rfl rfl rfl fun a hF => ?_
                          refine E.nil ?_
                          refine wp_block ?_
                          have hjl0 : j = B.length := by omega
                          have hdA : ∀ i, i < B.length → 48 ≤ lg B i ∧ lg B i ≤ 57 := fun i hi => hd i (by omega)
                          skip
                          refine E.loop (fun mq a wv => ∃ (j : Nat) (sa : Option Addr) (sn : Nat) (sc : Nat), j ≤ B.length ∧ Fr 79 a [(7, .int .i64 ((j : Nat) : Int)), (6, .slice sa sn sc), (0, .string (bstr B)), (4, .bool true), (2, .pointer (some ⟨g2, 0, none⟩))] ∧ Below w16.heap.size w16 wv ∧ Below w.heap.size w wv ∧ Dg wv .i64 65536 (.slice sa sn sc) (dv B j) ∧ mq = B.length - j) (B.length - 0) ?_ ?_
                          · exact ⟨0, ad18, n18, c18, (Nat.zero_le _), Fr.sub (L' := [(7, .int .i64 ((0 : Nat) : Int)), (6, .slice ad18 n18 c18), (0, .string (bstr B)), (4, .bool true), (2, .pointer (some ⟨g2, 0, none⟩))]) hF (by intro p hp; simp only [List.mem_cons, List.not_mem_nil, or_false] at hp ⊢; rcases hp with rfl | rfl | rfl | rfl | rfl <;> simp), Below.refl _ _, bel, hh17, rfl⟩
                          · rintro mq a w19 ⟨j, sa, sn, sc, hj, hF, sty, bel, hx, hm⟩
                            replace hz0 := hz0.below sty
                            replace o2 := o2.below sty
                            by_cases hjn : j < B.length
                            · have hdj := hdA j hjn
                              have hXl := dv_lim (B := B) (j := j) (fun i hi => hdA i (by omega)) (by omega)
                              have hadd : dl 65536 (dv B j * 10) ≤ 1000000 ∧ dl 65536 (lg B j - 48) ≤ 1000000 := ⟨(show Lim (dv B j * 10) (106 + 1) from Lim.mul hXl (Lim.of32 (by decide))).dh _ (by decide), (show Lim (lg B j - 48) 1 from Lim.of32 (by omega)).dh _ (by decide)⟩
                              refine wp_seq ?_
                              refine wp_seq ?_
                              refine E.seq ?_
                              refine E.opv hF (r_move (hF.at 0 rfl)) rfl rfl rfl rfl fun a hF => ?_
                              refine E.opv hF (r_move (hF.at 3 rfl)) rfl rfl rfl rfl fun a hF => ?_
                              refine E.opv hF (r_builtin (map1 (hF.at 0 rfl)) (bl_str Try.underlying9)) rfl rfl rfl rfl fun a hF => ?_
                              refine E.opv hF (r_bin (hF.at 2 rfl) (hF.at 0 rfl) eg_scalar (bi_int (ic_lss (c := true) (dec_tt (by omega))) (by simp))) rfl rfl rfl rfl fun a hF => ?_
                              refine E.nil ?_
                              refine wp_cond_true (hF.at 0 rfl) ?_
                              refine wp_skip ?_
                              refine E.norm ?_
                              refine wp_seq ?_
                              refine wp_block ?_
                              refine E.drawn 9 mixed hF [67, 68, 69, 70, 71, 72, 73, 74, 75] [(fun _ v => v = .slice sa sn sc), (fun w v => Dg w .i64 65536 v ((dv B j) * 10)), (fun _ v => v = .string (bstr B)), (fun _ v => v = .int .i64 ((j : Nat) : Int)), (fun _ v => v = .int .u8 ((lg (B) j : Nat) : Int)), (fun _ v => v = .int .u8 (((lg (B) j : Nat) : Int) - 48)), (fun _ v => v = .int .i64 (((lg (B) j : Nat) : Int) - 48)), (fun w v => Dg w .i64 65536 v ((lg B j - 48))), (fun w v => Dg w .i64 65536 v (((dv B j) * 10) + ((lg B j - 48))))] [] (by decide +kernel) (by decide +kernel) rfl rfl rfl ⟨(Mb.eq _), (fun _ _ _ h hb => h.below hb), (Mb.eq _), (Mb.eq _), (Mb.eq _), (Mb.eq _), (Mb.eq _), (fun _ _ _ h hb => h.below hb), (fun _ _ _ h hb => h.below hb), trivial⟩ trivial ⟨?_, ?_, ?_, ?_, ?_, ?_, ?_, ?_, ?_, trivial⟩ ?_
                              · intro a' w' hF' hb hd
                                exact if_does (wanted_free rfl) (Does.vals (r_move (hF'.at 5 rfl)) ⟨rfl, Below.refl _ _, (fun h => absurd h (by decide))⟩)
                              · intro a' w' hF' hb hd
                                have e67 : a'.tmps.getD 67 undef = .slice sa sn sc := hd _ 67 (Array.mem_of_getElem? (i := 0) rfl) rfl rfl
                                refine if_does (wanted_free rfl) (Does.calls (r_call Try.func55 en55.1 en55.2 (map3 e67 ev_c ev_c)) (stimes10 _ (dv B j) _ (hx.below hb) (Lim.dh hXl _ (by omega))) ?_)
                                rintro e w'' ⟨v', rfl, h', bb⟩
                                exact ⟨_, rfl, h', bb, (fun h => absurd h (by decide))⟩
                              · intro a' w' hF' hb hd
                                exact if_does (wanted_free rfl) (Does.vals (r_move (hF'.at 6 rfl)) ⟨rfl, Below.refl _ _, (fun h => absurd h (by decide))⟩)
                              · intro a' w' hF' hb hd
                                exact if_does (wanted_free rfl) (Does.vals (r_move (hF'.at 4 rfl)) ⟨rfl, Below.refl _ _, (fun h => absurd h (by decide))⟩)
                              · intro a' w' hF' hb hd
                                have e69 : a'.tmps.getD 69 undef = .string (bstr B) := hd _ 69 (Array.mem_of_getElem? (i := 0) rfl) rfl rfl
                                have e70 : a'.tmps.getD 70 undef = .int .i64 ((j : Nat) : Int) := hd _ 70 (Array.mem_of_getElem? (i := 1) rfl) rfl rfl
                                exact if_does (wanted_free rfl) (Does.vals (r_ixv e69 e70 (ixs (xs := B) (j := j) Try.underlying9 (by omega) (by omega) h8B)) ⟨rfl, Below.refl _ _, (fun h => absurd h (by decide))⟩)
                              · intro a' w' hF' hb hd
                                have e71 : a'.tmps.getD 71 undef = .int .u8 ((lg (B) j : Nat) : Int) := hd _ 71 (Array.mem_of_getElem? (i := 0) rfl) rfl rfl
                                exact if_does (wanted_free rfl) (Does.vals (r_bin e71 ev_c eg_scalar (iw_sub (a := ((lg (B) j : Nat) : Int)) (b := 48) (w_u8 (by omega) (by omega)))) ⟨rfl, Below.refl _ _, (fun h => absurd h (by decide))⟩)
                              · intro a' w' hF' hb hd
                                have e72 : a'.tmps.getD 72 undef = .int .u8 (((lg (B) j : Nat) : Int) - 48) := hd _ 72 (Array.mem_of_getElem? (i := 0) rfl) rfl rfl
                                exact if_does (wanted_free rfl) (Does.vals (r_conv e72 (cv_kind (k' := .i64) Try.underlying5 Try.underlying3 (w_i64 (by omega) (by omega)))) ⟨rfl, Below.refl _ _, (fun h => absurd h (by decide))⟩)
                              · intro a' w' hF' hb hd
                                have e73 : a'.tmps.getD 73 undef = .int .i64 (((lg (B) j : Nat) : Int) - 48) := hd _ 73 (Array.mem_of_getElem? (i := 0) rfl) rfl rfl
                                refine if_does (wanted_free rfl) (Does.calls (r_call Try.func56 en56.1 en56.2 (map1 e73)) (sOf_int _ (lg B j - 48) _ (by omega) (by omega)) ?_)
                                rintro e w'' ⟨v', rfl, h', bb⟩
                                exact ⟨_, rfl, h', bb, (fun h => absurd h (by decide))⟩
                              · intro a' w' hF' hb hd
                                obtain ⟨v68_0, e68, h68_1⟩ : ∃ v, a'.tmps.getD 68 undef = v ∧ Dg w' .i64 65536 v ((dv B j) * 10) := ⟨_, rfl, hd _ 68 (Array.mem_of_getElem? (i := 0) rfl) rfl rfl⟩
                                obtain ⟨v74_0, e74, h74_1⟩ : ∃ v, a'.tmps.getD 74 undef = v ∧ Dg w' .i64 65536 v ((lg B j - 48)) := ⟨_, rfl, hd _ 74 (Array.mem_of_getElem? (i := 1) rfl) rfl rfl⟩
                                refine if_does (wanted_free rfl) (Does.calls (r_call Try.func54 en54.1 en54.2 (map2 e68 e74)) (sadd_any _ _ ((dv B j) * 10) ((lg B j - 48)) _ h68_1 h74_1 hadd) ?_)
                                rintro e w'' ⟨v', rfl, h', bb⟩
                                exact ⟨_, rfl, h', bb, (fun h => absurd h (by decide))⟩
                              intro a w20 hF bb hall hne
                              obtain ⟨vv21, e75, hh22⟩ : ∃ v, a.tmps.getD 75 undef = v ∧ Dg w20 .i64 65536 v (((dv B j) * 10) + ((lg B j - 48))) := ⟨_, rfl, hall 8 75 rfl⟩
                              clear hall hne
                              replace hx := hx.below bb
                              replace hz0 := hz0.below bb
                              replace o2 := o2.below bb
                              replace sty := below_to sty bb
                              replace bel := below_to bel bb
                              clear bb
                              obtain ⟨ad23, n23, c23, rfl⟩ := Dg.form hh22
                              replace hF := hF.add e75
                              clear e75
                              refine E.opset (L' := [(6, .slice ad23 n23 c23), (75, .slice ad23 n23 c23), (64, .bool true), (63, .int .i64 ((List.length (B) : Nat) : Int)), (62, .string (bstr B)), (61, .int .i64 ((j : Nat) : Int)), (7, .int .i64 ((j : Nat) : Int)), (0, .string (bstr B)), (4, .bool true), (2, .pointer (some ⟨g2, 0, none⟩))]) hF (r_assign (hF.at 0 rfl)) rfl rfl rfl rfl fun a hF => ?_
                              refine E.nil0 ?_
                              refine E.blk ?_
                              refine E.norm ?_
                              refine E.seq ?_
                              refine E.opv hF (r_move (hF.at 6 rfl)) rfl rfl rfl rfl fun a hF => ?_
                              refine E.opv hF (r_bin (hF.at 0 rfl) ev_c eg_scalar (ia_add (by omega) (by omega))) rfl rfl rfl rfl fun a hF => ?_
                              refine E.opset (L' := [(7, .int .i64 (((j : Nat) : Int) + 1)), (66, .int .i64 (((j : Nat) : Int) + 1)), (65, .int .i64 ((j : Nat) : Int)), (6, .slice ad23 n23 c23), (75, .slice ad23 n23 c23), (64, .bool true), (63, .int .i64 ((List.length (B) : Nat) : Int)), (62, .string (bstr B)), (61, .int .i64 ((j : Nat) : Int)), (0, .string (bstr B)), (4, .bool true), (2, .pointer (some ⟨g2, 0, none⟩))]) hF (r_assign (hF.at 0 rfl)) rfl rfl rfl rfl fun a hF => ?_
                              refine E.nil0 ?_
                              refine E.norm ?_
                              exact ⟨B.length - (j + 1), by omega, ⟨(j + 1), ad23, n23, c23, (by omega), (by rw [show ((j + 1 : Nat) : Int) = ((j : Nat) : Int) + 1 from by omega]; exact Fr.sub (L' := [(7, .int .i64 (((j : Nat) : Int) + 1)), (6, .slice ad23 n23 c23), (0, .string (bstr B)), (4, .bool true), (2, .pointer (some ⟨g2, 0, none⟩))]) hF (by intro p hp; simp only [List.mem_cons, List.not_mem_nil, or_false] at hp ⊢; rcases hp with rfl | rfl | rfl | rfl | rfl <;> simp)), sty, bel, hh22, rfl⟩⟩
                            · have hjl : j = B.length := by omega
                              refine wp_seq ?_
                              refine wp_seq ?_
                              refine E.seq ?_
                              refine E.opv hF (r_move (hF.at 0 rfl)) rfl rfl rfl rfl fun a hF => ?_
                              refine E.opv hF (r_move (hF.at 3 rfl)) rfl rfl rfl rfl fun a hF => ?_
                              refine E.opv hF (r_builtin (map1 (hF.at 0 rfl)) (bl_str Try.underlying9)) rfl rfl rfl rfl fun a hF => ?_
                              refine E.opv hF (r_bin (hF.at 2 rfl) (hF.at 0 rfl) eg_scalar (bi_int (ic_lss (c := false) (dec_ff (by omega))) (by simp))) rfl rfl rfl rfl fun a hF => ?_
                              refine E.nil ?_
                              refine wp_cond_false (hF.at 0 rfl) ?_
                              refine wp_exit ?_
                              refine E.past ?_
                              refine E.past ?_
                              refine E.out (id := 2) ?_
                              refine E.norm ?_
                              refine wp_seq ?_
                              refine E.seq ?_
                              refine E.opv hF (r_move (hF.at 7 rfl)) rfl rfl rfl rfl fun a hF => ?_
                              refine E.opv hF (r_move (hF.at 6 rfl)) rfl rfl rfl rfl fun a hF => ?_
                              refine E.call hF (r_call Try.func43 en43.1 en43.2 (map2 (hF.at 1 rfl) (hF.at 0 rfl))) (rmake_any _ _ (dv B j) _ hx) rfl rfl rfl rfl ?_
                              rintro e w20 ⟨vv21, rfl, hh22, bb⟩
                              refine ⟨_, rfl, ?_⟩
                              intro a hF
                              replace hz0 := hz0.below bb
                              replace o2 := o2.below bb
                              replace bel := below_to bel bb
                              clear bb
                              obtain ⟨b23, ad23, n23, c23, rfl⟩ := Rz.form hh22
                              obtain ⟨w24, hr, tu, on⟩ := st_RInt (vs := [.bool b23, .slice ad23 n23 c23]) o2 rfl rfl (ocB (ocS oc0)) (niB (niS ni0)) (o := 0) rfl
                              have kp := tu.keep o2
                              refine E.st hF (r_store (hF.at 11 rfl) (hF.at 0 rfl) (hr _ rfl)) rfl rfl fun a hF => ?_
                              clear hr
                              replace hz0 := hz0.keep kp
                              replace hh22 := hh22.keep kp
                              replace bel := tu.below bel ge2
                              clear tu kp
                              replace o2 := on
                              clear on
                              have hf25 := Rz.abs hh22
                              refine E.opv hF (r_assign ev_c) rfl rfl rfl rfl fun a hF => ?_
                              refine E.nil ?_
                              refine wp_ret ?_
                              refine bodyPost_ret (res_celltmp Try.results21 (hF.at 12 rfl) (ld_RInt (vs := [.bool b23, .slice ad23 n23 c23]) o2 rfl rfl) (hF.at 0 rfl)) hF.dfr ?_
                              have hg := rgood hbd (by omega) (by omega) (fun e => absurd e hc10) hdA
                              have hb := pe_0 hg (by rw [hbd]; omega)
                              rw [hng, hbd] at hb
                              rw [hjl] at *
                              exact ⟨_, rv_vi2 hb.1, Rz.castP hh22 hb.2, bel⟩))))

set_option maxHeartbeats 8000000 in
theorem rparse_pos (xs : List Nat) (w : World) (h8 : okb 256 xs) (hl : xs.length ≤ 1000000000) (hneg : ¬ List.take 1 xs = [45]) :
    Calls Try.prog 21 #[.string (bstr xs)] w (RparsePost w xs) := by
  obtain ⟨hbd, hng, hp45⟩ := pos_facts hneg
  have bel : Below w.heap.size w w := Below.refl _ _
  refine E.enter (nt := 79) (L := [(0, .string (bstr xs))]) Try.func21 rfl rfl rfl (args_cons (i := 0) rfl args_nil) ?_
  intro a hF
  refine wp_seq ?_
  refine E.seq ?_
  obtain ⟨g2, w1, ge2, hr, bb, o2⟩ := own_alloc (P := Try.prog) (w := w) (cs := [.bool false, .slice none 0 0]) 41 ze_RInt rfl (niB (niS ni0))
  replace ge2 : w.heap.size ≤ g2 := by rw [← ge2]; exact bel.size
  refine E.opv hF (r_alloc hr) rfl rfl rfl rfl fun a hF => ?_
  clear hr
  replace bel := below_to bel bb
  clear bb
  refine E.opv hF (r_assign ev_c) rfl rfl rfl rfl fun a hF => ?_
  refine E.nil ?_
  refine wp_seq ?_
  refine E.seq ?_
  refine E.opv hF (r_assign ev_c) rfl rfl rfl rfl fun a hF => ?_
  refine E.nil ?_
  refine wp_seq ?_
  refine wp_seq ?_
  refine E.seq ?_
  refine E.opv hF (r_move (hF.at 3 rfl)) rfl rfl rfl rfl fun a hF => ?_
  refine E.opv hF (r_builtin (map1 (hF.at 0 rfl)) (bl_str Try.underlying9)) rfl rfl rfl rfl fun a hF => ?_
  by_cases hc2 : 0 < ((List.length (xs) : Nat) : Int)
  · first
    | (exfalso; omega)
    | (refine E.opv hF (r_bin (hF.at 0 rfl) ev_c eg_scalar (bi_int (ic_gtr (c := true) (dec_tt hc2)) (by simp))) rfl rfl rfl rfl fun a hF => ?_
       refine E.opv hF (r_move (hF.at 0 rfl)) rfl rfl rfl rfl fun a hF => ?_
       refine E.opvg hF (r_move (hF.at 7 rfl)) (wanted_by rfl rfl (hF.at 0 rfl) rfl) rfl rfl rfl fun a hF => ?_
       refine E.opvg hF (r_ixv (hF.at 0 rfl) ev_c (ixs (xs := xs) (j := 0) Try.underlying9 (by omega) (by omega) h8)) (wanted_by rfl rfl (hF.at 1 rfl) rfl) rfl rfl rfl fun a hF => ?_
       refine E.opvg hF (r_bin (hF.at 0 rfl) ev_c eg_scalar (bi_int (ic_eql (c := false) (dec_ff (by have := hp45 (by omega); omega))) (by simp))) (wanted_by rfl rfl (hF.at 2 rfl) rfl) rfl rfl rfl fun a hF => ?_
       refine E.opv hF (r_pick_t (hF.at 3 rfl) (hF.at 0 rfl)) rfl rfl rfl rfl fun a hF => ?_
       refine E.nil ?_
       refine wp_cond_false (hF.at 0 rfl) ?_
       refine wp_skip ?_
       refine E.norm ?_
       refine wp_seq ?_
       refine wp_seq ?_
       refine E.seq ?_
       refine E.opv hF (r_move (hF.at 11 rfl)) rfl rfl rfl rfl fun a hF => ?_
       refine E.opv hF (r_builtin (map1 (hF.at 0 rfl)) (bl_str Try.underlying9)) rfl rfl rfl rfl fun a hF => ?_
       by_cases hc3 : ((List.length (xs) : Nat) : Int) = 0
       · first
         | (exfalso; omega)
         | (refine E.opv hF (r_bin (hF.at 0 rfl) ev_c eg_scalar (bi_int (ic_eql (c := true) (dec_tt hc3)) (by simp))) rfl rfl rfl rfl fun a hF => ?_
            refine E.opv hF (r_move (hF.at 0 rfl)) rfl rfl rfl rfl fun a hF => ?_
            refine E.unwanted hF (wanted_by rfl rfl (hF.at 0 rfl) rfl) rfl rfl rfl fun a hF => ?_
            refine E.unwanted hF (wanted_by rfl rfl (hF.at 1 rfl) rfl) rfl rfl rfl fun a hF => ?_
            refine E.unwanted hF (wanted_by rfl rfl (hF.at 2 rfl) rfl) rfl rfl rfl fun a hF => ?_
            refine E.unwanted hF (wanted_by rfl rfl (hF.at 3 rfl) rfl) rfl rfl rfl fun a hF => ?_
            refine E.unwanted hF (wanted_undef rfl rfl (hF.at 0 rfl)) rfl rfl rfl fun a hF => ?_
            refine E.unwanted hF (wanted_undef rfl rfl (hF.at 1 rfl)) rfl rfl rfl fun a hF => ?_
            refine E.unwanted hF (wanted_undef rfl rfl (hF.at 2 rfl)) rfl rfl rfl fun a hF => ?_
            refine E.unwanted hF (wanted_by rfl rfl (hF.at 7 rfl) rfl) rfl rfl rfl fun a hF => ?_
            refine E.opv hF (r_pick_t (hF.at 8 rfl) ev_c) rfl rfl rfl rfl fun a hF => ?_
            refine E.opv hF (r_move (hF.at 0 rfl)) rfl rfl rfl rfl fun a hF => ?_
            refine E.unwanted hF (wanted_by rfl rfl (hF.at 0 rfl) rfl) rfl rfl rfl fun a hF => ?_
            refine E.unwanted hF (wanted_by rfl rfl (hF.at 1 rfl) rfl) rfl rfl rfl fun a hF => ?_
            refine E.unwanted hF (wanted_undef rfl rfl (hF.at 0 rfl)) rfl rfl rfl fun a hF => ?_
            refine E.unwanted hF (wanted_undef rfl rfl (hF.at 1 rfl)) rfl rfl rfl fun a hF => ?_
            refine E.unwanted hF (wanted_by rfl rfl (hF.at 4 rfl) rfl) rfl rfl rfl fun a hF => ?_
            refine E.opv hF (r_pick_t (hF.at 5 rfl) ev_c) rfl rfl rfl rfl fun a hF => ?_
            refine E.nil ?_
            refine wp_cond_true (hF.at 0 rfl) ?_
            refine wp_seq ?_
            refine E.seq ?_
            refine E.opv hF (r_build (by simp) (bd_RInt_ _)) rfl rfl rfl rfl fun a hF => ?_
            obtain ⟨w4, hr, tu, on⟩ := st_RInt (vs := [.bool false, .slice none 0 0]) o2 rfl rfl (ocB (ocS oc0)) (niB (niS ni0)) (o := 0) rfl
            have kp := tu.keep o2
            refine E.st hF (r_store (hF.at 31 rfl) (hF.at 0 rfl) (hr _ rfl)) rfl rfl fun a hF => ?_
            clear hr
            replace bel := tu.below bel ge2
            clear tu kp
            replace o2 := on
            clear on
            refine E.opset (L' := [(3, .int .i64 1), (38, .agg #[.bool false, .slice none 0 0]), (37, .bool true), (36, undef), (35, undef), (34, undef), (33, undef), (32, undef), (31, .bool true), (30, .bool true), (29, undef), (28, undef), (27, undef), (26, undef), (25, undef), (24, undef), (23, undef), (22, undef), (21, .bool true), (20, .bool true), (19, .int .i64 ((List.length (xs) : Nat) : Int)), (18, .string (bstr xs)), (15, .bool false), (14, .bool false), (13, .int .u8 ((lg (xs) 0 : Nat) : Int)), (12, .string (bstr xs)), (11, .bool true), (10, .bool true), (9, .int .i64 ((List.length (xs) : Nat) : Int)), (8, .string (bstr xs)), (4, .bool false), (2, .pointer (some ⟨g2, 0, none⟩)), (0, .string (bstr xs))]) hF (r_assign ev_c) rfl rfl rfl rfl fun a hF => ?_
            refine E.nil ?_
            refine wp_ret ?_
            refine bodyPost_ret (res_celltmp Try.results21 (hF.at 31 rfl) (ld_RInt (vs := [.bool false, .slice none 0 0]) o2 rfl rfl) (hF.at 0 rfl)) hF.dfr ?_
            have hb := rbad hbd (fun e => e) (.inl (by omega))
            exact ⟨_, rv_vi2 hb.1, Rz.castP (Rz.zero _) hb.2, bel⟩)
       · first
         | (exfalso; omega)
         | (refine E.opv hF (r_bin (hF.at 0 rfl) ev_c eg_scalar (bi_int (ic_eql (c := false) (dec_ff hc3)) (by simp))) rfl rfl rfl rfl fun a hF => ?_
            refine E.opv hF (r_move (hF.at 0 rfl)) rfl rfl rfl rfl fun a hF => ?_
            refine E.opvg hF (r_move (hF.at 15 rfl)) (wanted_by rfl rfl (hF.at 0 rfl) rfl) rfl rfl rfl fun a hF => ?_
            refine E.opvg hF (r_builtin (map1 (hF.at 0 rfl)) (bl_str Try.underlying9)) (wanted_by rfl rfl (hF.at 1 rfl) rfl) rfl rfl rfl fun a hF => ?_
            by_cases hc5 : 1 < ((List.length (xs) : Nat) : Int)
            · first
              | (exfalso; omega)
              | (refine E.opvg hF (r_bin (hF.at 0 rfl) ev_c eg_scalar (bi_int (ic_gtr (c := true) (dec_tt hc5)) (by simp))) (wanted_by rfl rfl (hF.at 2 rfl) rfl) rfl rfl rfl fun a hF => ?_
                 refine E.opvg hF (r_move (hF.at 0 rfl)) (wanted_by rfl rfl (hF.at 3 rfl) rfl) rfl rfl rfl fun a hF => ?_
                 refine E.opvg hF (r_move (hF.at 19 rfl)) (wanted_by rfl rfl (hF.at 0 rfl) rfl) rfl rfl rfl fun a hF => ?_
                 refine E.opvg hF (r_ixv (hF.at 0 rfl) ev_c (ixs (xs := xs) (j := 0) Try.underlying9 (by omega) (by omega) h8)) (wanted_by rfl rfl (hF.at 1 rfl) rfl) rfl rfl rfl fun a hF => ?_
                 by_cases hc6 : ((lg (xs) 0 : Nat) : Int) = 48
                 · first
                   | (exfalso; omega)
                   | (refine E.opvg hF (r_bin (hF.at 0 rfl) ev_c eg_scalar (bi_int (ic_eql (c := true) (dec_tt hc6)) (by simp))) (wanted_by rfl rfl (hF.at 2 rfl) rfl) rfl rfl rfl fun a hF => ?_
                      refine E.opvg hF (r_pick_t (hF.at 3 rfl) (hF.at 0 rfl)) (wanted_by rfl rfl (hF.at 7 rfl) rfl) rfl rfl rfl fun a hF => ?_
                      refine E.opv hF (r_pick_f (hF.at 8 rfl) (hF.at 0 rfl)) rfl rfl rfl rfl fun a hF => ?_
                      refine E.opv hF (r_move (hF.at 0 rfl)) rfl rfl rfl rfl fun a hF => ?_
                      refine E.unwanted hF (wanted_by rfl rfl (hF.at 0 rfl) rfl) rfl rfl rfl fun a hF => ?_
                      refine E.unwanted hF (wanted_by rfl rfl (hF.at 1 rfl) rfl) rfl rfl rfl fun a hF => ?_
                      refine E.unwanted hF (wanted_undef rfl rfl (hF.at 0 rfl)) rfl rfl rfl fun a hF => ?_
                      refine E.unwanted hF (wanted_undef rfl rfl (hF.at 1 rfl)) rfl rfl rfl fun a hF => ?_
                      refine E.unwanted hF (wanted_by rfl rfl (hF.at 4 rfl) rfl) rfl rfl rfl fun a hF => ?_
                      refine E.opv hF (r_pick_t (hF.at 5 rfl) ev_c) rfl rfl rfl rfl fun a hF => ?_
                      refine E.nil ?_
                      refine wp_cond_true (hF.at 0 rfl) ?_
                      refine wp_seq ?_
                      refine E.seq ?_
                      refine E.opv hF (r_build (by simp) (bd_RInt_ _)) rfl rfl rfl rfl fun a hF => ?_
                      obtain ⟨w7, hr, tu, on⟩ := st_RInt (vs := [.bool false, .slice none 0 0]) o2 rfl rfl (ocB (ocS oc0)) (niB (niS ni0)) (o := 0) rfl
                      have kp := tu.keep o2
                      refine E.st hF (r_store (hF.at 31 rfl) (hF.at 0 rfl) (hr _ rfl)) rfl rfl fun a hF => ?_
                      clear hr
                      replace bel := tu.below bel ge2
                      clear tu kp
                      replace o2 := on
                      clear on
                      refine E.opset (L' := [(3, .int .i64 1), (38, .agg #[.bool false, .slice none 0 0]), (37, .bool true), (36, undef), (35, undef), (34, undef), (33, undef), (32, undef), (31, .bool true), (30, .bool true), (29, .bool true), (28, .bool true), (27, .int .u8 ((lg (xs) 0 : Nat) : Int)), (26, .string (bstr xs)), (25, .bool true), (24, .bool true), (23, .int .i64 ((List.length (xs) : Nat) : Int)), (22, .string (bstr xs)), (21, .bool false), (20, .bool false), (19, .int .i64 ((List.length (xs) : Nat) : Int)), (18, .string (bstr xs)), (15, .bool false), (14, .bool false), (13, .int .u8 ((lg (xs) 0 : Nat) : Int)), (12, .string (bstr xs)), (11, .bool true), (10, .bool true), (9, .int .i64 ((List.length (xs) : Nat) : Int)), (8, .string (bstr xs)), (4, .bool false), (2, .pointer (some ⟨g2, 0, none⟩)), (0, .string (bstr xs))]) hF (r_assign ev_c) rfl rfl rfl rfl fun a hF => ?_
                      refine E.nil ?_
                      refine wp_ret ?_
                      refine bodyPost_ret (res_celltmp Try.results21 (hF.at 31 rfl) (ld_RInt (vs := [.bool false, .slice none 0 0]) o2 rfl rfl) (hF.at 0 rfl)) hF.dfr ?_
                      have hb := rbad hbd (fun e => e) (.inr (.inl ⟨by omega, by omega⟩))
                      exact ⟨_, rv_vi2 hb.1, Rz.castP (Rz.zero _) hb.2, bel⟩)
                 · first
                   | (exfalso; omega)
                   | (refine E.opvg hF (r_bin (hF.at 0 rfl) ev_c eg_scalar (bi_int (ic_eql (c := false) (dec_ff hc6)) (by simp))) (wanted_by rfl rfl (hF.at 2 rfl) rfl) rfl rfl rfl fun a hF => ?_
                      refine E.opvg hF (r_pick_t (hF.at 3 rfl) (hF.at 0 rfl)) (wanted_by rfl rfl (hF.at 7 rfl) rfl) rfl rfl rfl fun a hF => ?_
                      refine E.opv hF (r_pick_f (hF.at 8 rfl) (hF.at 0 rfl)) rfl rfl rfl rfl fun a hF => ?_
                      refine E.opv hF (r_move (hF.at 0 rfl)) rfl rfl rfl rfl fun a hF => ?_
                      refine E.opvg hF (r_move (hF.at 22 rfl)) (wanted_by rfl rfl (hF.at 0 rfl) rfl) rfl rfl rfl fun a hF => ?_
                      refine E.opvg hF (r_move (hF.at 0 rfl)) (wanted_by rfl rfl (hF.at 1 rfl) rfl) rfl rfl rfl fun a hF => ?_
                      refine E.unwanted hF (wanted_by rfl rfl (hF.at 0 rfl) rfl) rfl rfl rfl fun a hF => ?_
                      refine E.unwanted hF (wanted_by rfl rfl (hF.at 1 rfl) rfl) rfl rfl rfl fun a hF => ?_
                      refine E.opvg hF (r_pick_f (hF.at 2 rfl) ev_c) (wanted_by rfl rfl (hF.at 4 rfl) rfl) rfl rfl rfl fun a hF => ?_
                      refine E.opv hF (r_pick_f (hF.at 5 rfl) (hF.at 0 rfl)) rfl rfl rfl rfl fun a hF => ?_
                      refine E.nil ?_
                      refine wp_cond_false (hF.at 0 rfl) ?_
                      refine wp_skip ?_
                      refine E.norm ?_
                      refine wp_seq ?_
                      refine wp_seq ?_
                      refine E.seq ?_
                      refine E.opv hF (r_assign ev_c) rfl rfl rfl rfl fun a hF => ?_
                      refine E.nil ?_
                      refine wp_block ?_
                      have nint := nn1 o2.noInt
                      refine E.loop (fun mq a wv => ∃ (j : Nat), j ≤ xs.length ∧ (∀ i, i < j → 48 ≤ lg xs i ∧ lg xs i ≤ 57) ∧ Fr 79 a [(5, .int .i64 ((j : Nat) : Int)), (4, .bool false), (2, .pointer (some ⟨g2, 0, none⟩)), (0, .string (bstr xs))] ∧ Stay [g2] w1 wv ∧ Below w.heap.size w wv ∧ Own wv g2 [.bool false, .slice none 0 0] ∧ Rz wv (.agg #[.bool false, .slice none 0 0]) 0 ∧ mq = xs.length - j) (xs.length - 0) ?_ ?_
                      · exact ⟨0, (Nat.zero_le _), (fun i hi => absurd hi (by omega)), hF.sub (by intro p hp; simp only [List.mem_cons, List.not_mem_nil, or_false] at hp ⊢; rcases hp with rfl | rfl | rfl | rfl <;> simp), Stay.refl _ _, bel, o2, (Rz.zero _), rfl⟩
                      · rintro mq a w8 ⟨j, hj, hd, hF, sty, bel, o2, hz0, hm⟩
                        have kps := sty.keep nint
                        clear kps
                        by_cases hjn : j < xs.length
                        · refine wp_seq ?_
                          refine wp_seq ?_
                          refine E.seq ?_
                          refine E.opv hF (r_move (hF.at 0 rfl)) rfl rfl rfl rfl fun a hF => ?_
                          refine E.opv hF (r_move (hF.at 4 rfl)) rfl rfl rfl rfl fun a hF => ?_
                          refine E.opv hF (r_builtin (map1 (hF.at 0 rfl)) (bl_str Try.underlying9)) rfl rfl rfl rfl fun a hF => ?_
                          refine E.opv hF (r_bin (hF.at 2 rfl) (hF.at 0 rfl) eg_scalar (bi_int (ic_lss (c := true) (dec_tt (by omega))) (by simp))) rfl rfl rfl rfl fun a hF => ?_
                          refine E.nil ?_
                          refine wp_cond_true (hF.at 0 rfl) ?_
                          refine wp_skip ?_
                          refine E.norm ?_
                          refine wp_seq ?_
                          refine wp_block ?_
                          refine wp_seq ?_
                          refine E.seq ?_
                          refine E.opv hF (r_move (hF.at 7 rfl)) rfl rfl rfl rfl fun a hF => ?_
                          refine E.opv hF (r_move (hF.at 5 rfl)) rfl rfl rfl rfl fun a hF => ?_
                          refine E.opv hF (r_ixv (hF.at 1 rfl) (hF.at 0 rfl) (ixs (xs := xs) (j := j) Try.underlying9 (by omega) (by omega) h8)) rfl rfl rfl rfl fun a hF => ?_
                          by_cases hc9 : ((lg (xs) j : Nat) : Int) < 48
                          · first
                            | (exfalso; omega)
                            | (refine E.opv hF (r_bin (hF.at 0 rfl) ev_c eg_scalar (bi_int (ic_lss (c := true) (dec_tt hc9)) (by simp))) rfl rfl rfl rfl fun a hF => ?_
                               refine E.opv hF (r_move (hF.at 0 rfl)) rfl rfl rfl rfl fun a hF => ?_
                               refine E.unwanted hF (wanted_by rfl rfl (hF.at 0 rfl) rfl) rfl rfl rfl fun a hF => ?_
                               refine E.unwanted hF (wanted_by rfl rfl (hF.at 1 rfl) rfl) rfl rfl rfl fun a hF => ?_
                               refine E.unwanted hF (wanted_by rfl rfl (hF.at 2 rfl) rfl) rfl rfl rfl fun a hF => ?_
                               refine E.unwanted hF (wanted_by rfl rfl (hF.at 3 rfl) rfl) rfl rfl rfl fun a hF => ?_
                               refine E.opv hF (r_pick_t (hF.at 4 rfl) ev_c) rfl rfl rfl rfl fun a hF => ?_
                               refine E.nil ?_
                               refine wp_cond_true (hF.at 0 rfl) ?_
                               refine wp_seq ?_
                               refine E.seq ?_
                               refine E.opv hF (r_build (by simp) (bd_RInt_ _)) rfl rfl rfl rfl fun a hF => ?_
                               obtain ⟨w10, hr, tu, on⟩ := st_RInt (vs := [.bool false, .slice none 0 0]) o2 rfl rfl (ocB (ocS oc0)) (niB (niS ni0)) (o := 0) rfl
                               have kp := tu.keep o2
                               refine E.st hF (r_store (hF.at 17 rfl) (hF.at 0 rfl) (hr _ rfl)) rfl rfl fun a hF => ?_
                               clear hr
                               replace hz0 := hz0.keep kp
                               replace bel := tu.below bel ge2
                               replace sty := sty.turned tu (.inl (by simp))
                               clear tu kp
                               replace o2 := on
                               clear on
                               refine E.opv hF (r_assign ev_c) rfl rfl rfl rfl fun a hF => ?_
                               refine E.nil ?_
                               refine wp_ret ?_
                               refine bodyPost_ret (res_celltmp Try.results21 (hF.at 18 rfl) (ld_RInt (vs := [.bool false, .slice none 0 0]) o2 rfl rfl) (hF.at 0 rfl)) hF.dfr ?_
                               have hb := rbad hbd (fun e => e) (.inr (.inr (.inr ⟨j, hjn, by omega⟩)))
                               exact ⟨_, rv_vi2 hb.1, Rz.castP (Rz.zero _) hb.2, bel⟩)
                          · first
                            | (exfalso; omega)
                            | (refine E.opv hF (r_bin (hF.at 0 rfl) ev_c eg_scalar (bi_int (ic_lss (c := false) (dec_ff hc9)) (by simp))) rfl rfl rfl rfl fun a hF => ?_
                               refine E.opv hF (r_move (hF.at 0 rfl)) rfl rfl rfl rfl fun a hF => ?_
                               refine E.opvg hF (r_move (hF.at 12 rfl)) (wanted_by rfl rfl (hF.at 0 rfl) rfl) rfl rfl rfl fun a hF => ?_
                               refine E.opvg hF (r_move (hF.at 10 rfl)) (wanted_by rfl rfl (hF.at 1 rfl) rfl) rfl rfl rfl fun a hF => ?_
                               refine E.opvg hF (r_ixv (hF.at 1 rfl) (hF.at 0 rfl) (ixs (xs := xs) (j := j) Try.underlying9 (by omega) (by omega) h8)) (wanted_by rfl rfl (hF.at 2 rfl) rfl) rfl rfl rfl fun a hF => ?_
                               by_cases hc11 : 57 < ((lg (xs) j : Nat) : Int)
                               · first
                                 | (exfalso; omega)
                                 | (refine E.opvg hF (r_bin (hF.at 0 rfl) ev_c eg_scalar (bi_int (ic_gtr (c := true) (dec_tt hc11)) (by simp))) (wanted_by rfl rfl (hF.at 3 rfl) rfl) rfl rfl rfl fun a hF => ?_
                                    refine E.opv hF (r_pick_f (hF.at 4 rfl) (hF.at 0 rfl)) rfl rfl rfl rfl fun a hF => ?_
                                    refine E.nil ?_
                                    refine wp_cond_true (hF.at 0 rfl) ?_
                                    refine wp_seq ?_
                                    refine E.seq ?_
                                    refine E.opv hF (r_build (by simp) (bd_RInt_ _)) rfl rfl rfl rfl fun a hF => ?_
                                    obtain ⟨w12, hr, tu, on⟩ := st_RInt (vs := [.bool false, .slice none 0 0]) o2 rfl rfl (ocB (ocS oc0)) (niB (niS ni0)) (o := 0) rfl
                                    have kp := tu.keep o2
                                    refine E.st hF (r_store (hF.at 17 rfl) (hF.at 0 rfl) (hr _ rfl)) rfl rfl fun a hF => ?_
                                    clear hr
                                    replace hz0 := hz0.keep kp
                                    replace bel := tu.below bel ge2
                                    replace sty := sty.turned tu (.inl (by simp))
                                    clear tu kp
                                    replace o2 := on
                                    clear on
                                    refine E.opv hF (r_assign ev_c) rfl rfl rfl rfl fun a hF => ?_
                                    refine E.nil ?_
                                    refine wp_ret ?_
                                    refine bodyPost_ret (res_celltmp Try.results21 (hF.at 18 rfl) (ld_RInt (vs := [.bool false, .slice none 0 0]) o2 rfl rfl) (hF.at 0 rfl)) hF.dfr ?_
                                    have hb := rbad hbd (fun e => e) (.inr (.inr (.inr ⟨j, hjn, by omega⟩)))
                                    exact ⟨_, rv_vi2 hb.1, Rz.castP (Rz.zero _) hb.2, bel⟩)
                               · first
                                 | (exfalso; omega)
                                 | (refine E.opvg hF (r_bin (hF.at 0 rfl) ev_c eg_scalar (bi_int (ic_gtr (c := false) (dec_ff hc11)) (by simp))) (wanted_by rfl rfl (hF.at 3 rfl) rfl) rfl rfl rfl fun a hF => ?_
                                    refine E.opv hF (r_pick_f (hF.at 4 rfl) (hF.at 0 rfl)) rfl rfl rfl rfl fun a hF => ?_
                                    refine E.nil ?_
                                    refine wp_cond_false (hF.at 0 rfl) ?_
                                    refine wp_skip ?_
                                    refine E.blk ?_
                                    refine E.norm ?_
                                    refine E.seq ?_
                                    refine E.opv hF (r_move (hF.at 14 rfl)) rfl rfl rfl rfl fun a hF => ?_
                                    refine E.opv hF (r_bin (hF.at 0 rfl) ev_c eg_scalar (ia_add (by omega) (by omega))) rfl rfl rfl rfl fun a hF => ?_
                                    refine E.opset (L' := [(5, .int .i64 (((j : Nat) : Int) + 1)), (44, .int .i64 (((j : Nat) : Int) + 1)), (43, .int .i64 ((j : Nat) : Int)), (54, .bool false), (53, .bool false), (52, .int .u8 ((lg (xs) j : Nat) : Int)), (51, .int .i64 ((j : Nat) : Int)), (50, .string (bstr xs)), (49, .bool false), (48, .bool false), (47, .int .u8 ((lg (xs) j : Nat) : Int)), (46, .int .i64 ((j : Nat) : Int)), (45, .string (bstr xs)), (42, .bool true), (41, .int .i64 ((List.length (xs) : Nat) : Int)), (40, .string (bstr xs)), (39, .int .i64 ((j : Nat) : Int)), (4, .bool false), (2, .pointer (some ⟨g2, 0, none⟩)), (0, .string (bstr xs))]) hF (r_assign (hF.at 0 rfl)) rfl rfl rfl rfl fun a hF => ?_
                                    refine E.nil0 ?_
                                    refine E.norm ?_
                                    exact ⟨xs.length - (j + 1), by omega, ⟨(j + 1), (by omega), (dg_more hd ⟨by omega, by omega⟩), (by rw [show ((j + 1 : Nat) : Int) = ((j : Nat) : Int) + 1 from by omega]; exact Fr.sub (L' := [(5, .int .i64 (((j : Nat) : Int) + 1)), (4, .bool false), (2, .pointer (some ⟨g2, 0, none⟩)), (0, .string (bstr xs))]) hF (by intro p hp; simp only [List.mem_cons, List.not_mem_nil, or_false] at hp ⊢; rcases hp with rfl | rfl | rfl | rfl <;> simp)), sty, bel, o2, hz0, rfl⟩⟩))
                        · refine wp_seq ?_
                          refine wp_seq ?_
                          refine E.seq ?_
                          refine E.opv hF (r_move (hF.at 0 rfl)) rfl rfl rfl rfl fun a hF => ?_
                          refine E.opv hF (r_move (hF.at 4 rfl)) rfl rfl rfl rfl fun a hF => ?_
                          refine E.opv hF (r_builtin (map1 (hF.at 0 rfl)) (bl_str Try.underlying9)) rfl rfl rfl rfl fun a hF => ?_
                          refine E.opv hF (r_bin (hF.at 2 rfl) (hF.at 0 rfl) eg_scalar (bi_int (ic_lss (c := false) (dec_ff (by omega))) (by simp))) rfl rfl rfl rfl fun a hF => ?_
                          refine E.nil ?_
                          refine wp_cond_false (hF.at 0 rfl) ?_
                          refine wp_exit ?_
                          refine E.past ?_
                          refine E.past ?_
                          refine E.out (id := 0) ?_
                          refine E.norm ?_
                          refine wp_seq ?_
                          refine wp_seq ?_
                          refine E.seq ?_
                          refine E.opv hF (r_move (hF.at 7 rfl)) rfl rfl rfl rfl fun a hF => ?_
                          refine E.opv hF (r_builtin (map1 (hF.at 0 rfl)) (bl_str Try.underlying9)) rfl rfl rfl rfl fun a hF => ?_
                          by_cases hc9 : 1000 < ((List.length (xs) : Nat) : Int)
                          · first
                            | (exfalso; omega)
                            | (refine E.opv hF (r_bin (hF.at 0 rfl) ev_c eg_scalar (bi_int (ic_gtr (c := true) (dec_tt hc9)) (by simp))) rfl rfl rfl rfl fun a hF => ?_
                               refine E.nil ?_
                               refine wp_cond_true (hF.at 0 rfl) ?_
                               refine wp_seq ?_
                               refine E.seq ?_
                               refine E.opv hF (r_build (by simp) (bd_RInt_ _)) rfl rfl rfl rfl fun a hF => ?_
                               obtain ⟨w10, hr, tu, on⟩ := st_RInt (vs := [.bool false, .slice none 0 0]) o2 rfl rfl (ocB (ocS oc0)) (niB (niS ni0)) (o := 0) rfl
                               have kp := tu.keep o2
                               refine E.st hF (r_store (hF.at 10 rfl) (hF.at 0 rfl) (hr _ rfl)) rfl rfl fun a hF => ?_
                               clear hr
                               replace hz0 := hz0.keep kp
                               replace bel := tu.below bel ge2
                               clear tu kp
                               replace o2 := on
                               clear on
                               refine E.opv hF (r_assign ev_c) rfl rfl rfl rfl fun a hF => ?_
                               refine E.nil ?_
                               refine wp_ret ?_
                               refine bodyPost_ret (res_celltmp Try.results21 (hF.at 11 rfl) (ld_RInt (vs := [.bool false, .slice none 0 0]) o2 rfl rfl) (hF.at 0 rfl)) hF.dfr ?_
                               have hg := rgood hbd (by omega) (by omega) (fun e => e) (fun i hi => hd i (by omega))
                               have hb := pe_5 hg (by rw [hbd]; omega)
                               exact ⟨_, rv_vi2 hb.1, Rz.castP (Rz.zero _) hb.2, bel⟩)
                          · first
                            | (exfalso; omega)
                            | (refine E.opv hF (r_bin (hF.at 0 rfl) ev_c eg_scalar (bi_int (ic_gtr (c := false) (dec_ff hc9)) (by simp))) rfl rfl rfl rfl fun a hF => ?_
                               refine E.nil ?_
                               refine wp_cond_false (hF.at 0 rfl) ?_
                               refine wp_skip ?_
                               refine E.norm ?_
                               refine wp_seq ?_
                               refine E.seq ?_
                               obtain ⟨vv11, w12, hr, bb, hh13⟩ := num0p w8
                               refine E.opv hF (r_buildSlice (by simp) hr) rfl rfl rfl rfl fun a hF => ?_
                               clear hr
                               replace hz0 := hz0.below bb
                               replace o2 := o2.below bb
                               replace bel := below_to bel bb
                               clear bb
                               obtain ⟨ad14, n14, c14, rfl⟩ := Dg.form hh13
                               refine E.opv hF (r_assign (hF.at 0 rfl)) rfl rfl rfl rfl fun a hF => ?_
                               refine E.nil ?_
                               refine wp_seq ?_
                               refine wp_seq ?_
                               refine E.seq ?_
                               refine E.opv hF (r_assign ev_c) rfl rfl rfl rfl fun a hF => ?_
                               refine E.nil ?_
                               refine wp_block ?_
                               have hjl0 : j = xs.length := by omega
                               have hdA : ∀ i, i < xs.length → 48 ≤ lg xs i ∧ lg xs i ≤ 57 := fun i hi => hd i (by omega)
                               skip
                               refine E.loop (fun mq a wv => ∃ (j : Nat) (sa : Option Addr) (sn : Nat) (sc : Nat), j ≤ xs.length ∧ Fr 79 a [(7, .int .i64 ((j : Nat) : Int)), (6, .slice sa sn sc), (4, .bool false), (2, .pointer (some ⟨g2, 0, none⟩)), (0, .string (bstr xs))] ∧ Below w12.heap.size w12 wv ∧ Below w.heap.size w wv ∧ Dg wv .i64 65536 (.slice sa sn sc) (dv xs j) ∧ mq = xs.length - j) (xs.length - 0) ?_ ?_
                               · exact ⟨0, ad14, n14, c14, (Nat.zero_le _), Fr.sub (L' := [(7, .int .i64 ((0 : Nat) : Int)), (6, .slice ad14 n14 c14), (4, .bool false), (2, .pointer (some ⟨g2, 0, none⟩)), (0, .string (bstr xs))]) hF (by intro p hp; simp only [List.mem_cons, List.not_mem_nil, or_false] at hp ⊢; rcases hp with rfl | rfl | rfl | rfl | rfl <;> simp), Below.refl _ _, bel, hh13, rfl⟩
                               · rintro mq a w15 ⟨j, sa, sn, sc, hj, hF, sty, bel, hx, hm⟩
                                 replace hz0 := hz0.below sty
                                 replace o2 := o2.below sty
                                 by_cases hjn : j < xs.length
                                 · have hdj := hdA j hjn
                                   have hXl := dv_lim (B := xs) (j := j) (fun i hi => hdA i (by omega)) (by omega)
                                   have hadd : dl 65536 (dv xs j * 10) ≤ 1000000 ∧ dl 65536 (lg xs j - 48) ≤ 1000000 := ⟨(show Lim (dv xs j * 10) (106 + 1) from Lim.mul hXl (Lim.of32 (by decide))).dh _ (by decide), (show Lim (lg xs j - 48) 1 from Lim.of32 (by omega)).dh _ (by decide)⟩
                                   refine wp_seq ?_
                                   refine wp_seq ?_
                                   refine E.seq ?_
                                   refine E.opv hF (r_move (hF.at 0 rfl)) rfl rfl rfl rfl fun a hF => ?_
                                   refine E.opv hF (r_move (hF.at 5 rfl)) rfl rfl rfl rfl fun a hF => ?_
                                   refine E.opv hF (r_builtin (map1 (hF.at 0 rfl)) (bl_str Try.underlying9)) rfl rfl rfl rfl fun a hF => ?_
                                   refine E.opv hF (r_bin (hF.at 2 rfl) (hF.at 0 rfl) eg_scalar (bi_int (ic_lss (c := true) (dec_tt (by omega))) (by simp))) rfl rfl rfl rfl fun a hF => ?_
                                   refine E.nil ?_
                                   refine wp_cond_true (hF.at 0 rfl) ?_
                                   refine wp_skip ?_
                                   refine E.norm ?_
                                   refine wp_seq ?_
                                   refine wp_block ?_
                                   refine E.drawn 9 mixed hF [67, 68, 69, 70, 71, 72, 73, 74, 75] [(fun _ v => v = .slice sa sn sc), (fun w v => Dg w .i64 65536 v ((dv xs j) * 10)), (fun _ v => v = .string (bstr xs)), (fun _ v => v = .int .i64 ((j : Nat) : Int)), (fun _ v => v = .int .u8 ((lg (xs) j : Nat) : Int)), (fun _ v => v = .int .u8 (((lg (xs) j : Nat) : Int) - 48)), (fun _ v => v = .int .i64 (((lg (xs) j : Nat) : Int) - 48)), (fun w v => Dg w .i64 65536 v ((lg xs j - 48))), (fun w v => Dg w .i64 65536 v (((dv xs j) * 10) + ((lg xs j - 48))))] [] (by decide +kernel) (by decide +kernel) rfl rfl rfl ⟨(Mb.eq _), (fun _ _ _ h hb => h.below hb), (Mb.eq _), (Mb.eq _), (Mb.eq _), (Mb.eq _), (Mb.eq _), (fun _ _ _ h hb => h.below hb), (fun _ _ _ h hb => h.below hb), trivial⟩ trivial ⟨?_, ?_, ?_, ?_, ?_, ?_, ?_, ?_, ?_, trivial⟩ ?_
                                   · intro a' w' hF' hb hd
                                     exact if_does (wanted_free rfl) (Does.vals (r_move (hF'.at 5 rfl)) ⟨rfl, Below.refl _ _, (fun h => absurd h (by decide))⟩)
                                   · intro a' w' hF' hb hd
                                     have e67 : a'.tmps.getD 67 undef = .slice sa sn sc := hd _ 67 (Array.mem_of_getElem? (i := 0) rfl) rfl rfl
                                     refine if_does (wanted_free rfl) (Does.calls (r_call Try.func55 en55.1 en55.2 (map3 e67 ev_c ev_c)) (stimes10 _ (dv xs j) _ (hx.below hb) (Lim.dh hXl _ (by omega))) ?_)
                                     rintro e w'' ⟨v', rfl, h', bb⟩
                                     exact ⟨_, rfl, h', bb, (fun h => absurd h (by decide))⟩
                                   · intro a' w' hF' hb hd
                                     exact if_does (wanted_free rfl) (Does.vals (r_move (hF'.at 8 rfl)) ⟨rfl, Below.refl _ _, (fun h => absurd h (by decide))⟩)
                                   · intro a' w' hF' hb hd
                                     exact if_does (wanted_free rfl) (Does.vals (r_move (hF'.at 4 rfl)) ⟨rfl, Below.refl _ _, (fun h => absurd h (by decide))⟩)
                                   · intro a' w' hF' hb hd
                                     have e69 : a'.tmps.getD 69 undef = .string (bstr xs) := hd _ 69 (Array.mem_of_getElem? (i := 0) rfl) rfl rfl
                                     have e70 : a'.tmps.getD 70 undef = .int .i64 ((j : Nat) : Int) := hd _ 70 (Array.mem_of_getElem? (i := 1) rfl) rfl rfl
                                     exact if_does (wanted_free rfl) (Does.vals (r_ixv e69 e70 (ixs (xs := xs) (j := j) Try.underlying9 (by omega) (by omega) h8)) ⟨rfl, Below.refl _ _, (fun h => absurd h (by decide))⟩)
                                   · intro a' w' hF' hb hd
                                     have e71 : a'.tmps.getD 71 undef = .int .u8 ((lg (xs) j : Nat) : Int) := hd _ 71 (Array.mem_of_getElem? (i := 0) rfl) rfl rfl
                                     exact if_does (wanted_free rfl) (Does.vals (r_bin e71 ev_c eg_scalar (iw_sub (a := ((lg (xs) j : Nat) : Int)) (b := 48) (w_u8 (by omega) (by omega)))) ⟨rfl, Below.refl _ _, (fun h => absurd h (by decide))⟩)
                                   · intro a' w' hF' hb hd
                                     have e72 : a'.tmps.getD 72 undef = .int .u8 (((lg (xs) j : Nat) : Int) - 48) := hd _ 72 (Array.mem_of_getElem? (i := 0) rfl) rfl rfl
                                     exact if_does (wanted_free rfl) (Does.vals (r_conv e72 (cv_kind (k' := .i64) Try.underlying5 Try.underlying3 (w_i64 (by omega) (by omega)))) ⟨rfl, Below.refl _ _, (fun h => absurd h (by decide))⟩)
                                   · intro a' w' hF' hb hd
                                     have e73 : a'.tmps.getD 73 undef = .int .i64 (((lg (xs) j : Nat) : Int) - 48) := hd _ 73 (Array.mem_of_getElem? (i := 0) rfl) rfl rfl
                                     refine if_does (wanted_free rfl) (Does.calls (r_call Try.func56 en56.1 en56.2 (map1 e73)) (sOf_int _ (lg xs j - 48) _ (by omega) (by omega)) ?_)
                                     rintro e w'' ⟨v', rfl, h', bb⟩
                                     exact ⟨_, rfl, h', bb, (fun h => absurd h (by decide))⟩
                                   · intro a' w' hF' hb hd
                                     obtain ⟨v68_0, e68, h68_1⟩ : ∃ v, a'.tmps.getD 68 undef = v ∧ Dg w' .i64 65536 v ((dv xs j) * 10) := ⟨_, rfl, hd _ 68 (Array.mem_of_getElem? (i := 0) rfl) rfl rfl⟩
                                     obtain ⟨v74_0, e74, h74_1⟩ : ∃ v, a'.tmps.getD 74 undef = v ∧ Dg w' .i64 65536 v ((lg xs j - 48)) := ⟨_, rfl, hd _ 74 (Array.mem_of_getElem? (i := 1) rfl) rfl rfl⟩
                                     refine if_does (wanted_free rfl) (Does.calls (r_call Try.func54 en54.1 en54.2 (map2 e68 e74)) (sadd_any _ _ ((dv xs j) * 10) ((lg xs j - 48)) _ h68_1 h74_1 hadd) ?_)
                                     rintro e w'' ⟨v', rfl, h', bb⟩
                                     exact ⟨_, rfl, h', bb, (fun h => absurd h (by decide))⟩
                                   intro a w16 hF bb hall hne
                                   obtain ⟨vv17, e75, hh18⟩ : ∃ v, a.tmps.getD 75 undef = v ∧ Dg w16 .i64 65536 v (((dv xs j) * 10) + ((lg xs j - 48))) := ⟨_, rfl, hall 8 75 rfl⟩
                                   clear hall hne
                                   replace hx := hx.below bb
                                   replace hz0 := hz0.below bb
                                   replace o2 := o2.below bb
                                   replace sty := below_to sty bb
                                   replace bel := below_to bel bb
                                   clear bb
                                   obtain ⟨ad19, n19, c19, rfl⟩ := Dg.form hh18
                                   replace hF := hF.add e75
                                   clear e75
                                   refine E.opset (L' := [(6, .slice ad19 n19 c19), (75, .slice ad19 n19 c19), (64, .bool true), (63, .int .i64 ((List.length (xs) : Nat) : Int)), (62, .string (bstr xs)), (61, .int .i64 ((j : Nat) : Int)), (7, .int .i64 ((j : Nat) : Int)), (4, .bool false), (2, .pointer (some ⟨g2, 0, none⟩)), (0, .string (bstr xs))]) hF (r_assign (hF.at 0 rfl)) rfl rfl rfl rfl fun a hF => ?_
                                   refine E.nil0 ?_
                                   refine E.blk ?_
                                   refine E.norm ?_
                                   refine E.seq ?_
                                   refine E.opv hF (r_move (hF.at 6 rfl)) rfl rfl rfl rfl fun a hF => ?_
                                   refine E.opv hF (r_bin (hF.at 0 rfl) ev_c eg_scalar (ia_add (by omega) (by omega))) rfl rfl rfl rfl fun a hF => ?_
                                   refine E.opset (L' := [(7, .int .i64 (((j : Nat) : Int) + 1)), (66, .int .i64 (((j : Nat) : Int) + 1)), (65, .int .i64 ((j : Nat) : Int)), (6, .slice ad19 n19 c19), (75, .slice ad19 n19 c19), (64, .bool true), (63, .int .i64 ((List.length (xs) : Nat) : Int)), (62, .string (bstr xs)), (61, .int .i64 ((j : Nat) : Int)), (4, .bool false), (2, .pointer (some ⟨g2, 0, none⟩)), (0, .string (bstr xs))]) hF (r_assign (hF.at 0 rfl)) rfl rfl rfl rfl fun a hF => ?_
                                   refine E.nil0 ?_
                                   refine E.norm ?_
                                   exact ⟨xs.length - (j + 1), by omega, ⟨(j + 1), ad19, n19, c19, (by omega), (by rw [show ((j + 1 : Nat) : Int) = ((j : Nat) : Int) + 1 from by omega]; exact Fr.sub (L' := [(7, .int .i64 (((j : Nat) : Int) + 1)), (6, .slice ad19 n19 c19), (4, .bool false), (2, .pointer (some ⟨g2, 0, none⟩)), (0, .string (bstr xs))]) hF (by intro p hp; simp only [List.mem_cons, List.not_mem_nil, or_false] at hp ⊢; rcases hp with rfl | rfl | rfl | rfl | rfl <;> simp)), sty, bel, hh18, rfl⟩⟩
                                 · have hjl : j = xs.length := by omega
                                   refine wp_seq ?_
                                   refine wp_seq ?_
                                   refine E.seq ?_
                                   refine E.opv hF (r_move (hF.at 0 rfl)) rfl rfl rfl rfl fun a hF => ?_
                                   refine E.opv hF (r_move (hF.at 5 rfl)) rfl rfl rfl rfl fun a hF => ?_
                                   refine E.opv hF (r_builtin (map1 (hF.at 0 rfl)) (bl_str Try.underlying9)) rfl rfl rfl rfl fun a hF => ?_
                                   refine E.opv hF (r_bin (hF.at 2 rfl) (hF.at 0 rfl) eg_scalar (bi_int (ic_lss (c := false) (dec_ff (by omega))) (by simp))) rfl rfl rfl rfl fun a hF => ?_
                                   refine E.nil ?_
                                   refine wp_cond_false (hF.at 0 rfl) ?_
                                   refine wp_exit ?_
                                   refine E.past ?_
                                   refine E.past ?_
                                   refine E.out (id := 2) ?_
                                   refine E.norm ?_
                                   refine wp_seq ?_
                                   refine E.seq ?_
                                   refine E.opv hF (r_move (hF.at 6 rfl)) rfl rfl rfl rfl fun a hF => ?_
                                   refine E.opv hF (r_move (hF.at 6 rfl)) rfl rfl rfl rfl fun a hF => ?_
                                   refine E.call hF (r_call Try.func43 en43.1 en43.2 (map2 (hF.at 1 rfl) (hF.at 0 rfl))) (rmake_any _ _ (dv xs j) _ hx) rfl rfl rfl rfl ?_
                                   rintro e w16 ⟨vv17, rfl, hh18, bb⟩
                                   refine ⟨_, rfl, ?_⟩
                                   intro a hF
                                   replace hz0 := hz0.below bb
                                   replace o2 := o2.below bb
                                   replace bel := below_to bel bb
                                   clear bb
                                   obtain ⟨b19, ad19, n19, c19, rfl⟩ := Rz.form hh18
                                   obtain ⟨w20, hr, tu, on⟩ := st_RInt (vs := [.bool b19, .slice ad19 n19 c19]) o2 rfl rfl (ocB (ocS oc0)) (niB (niS ni0)) (o := 0) rfl
                                   have kp := tu.keep o2
                                   refine E.st hF (r_store (hF.at 10 rfl) (hF.at 0 rfl) (hr _ rfl)) rfl rfl fun a hF => ?_
                                   clear hr
                                   replace hz0 := hz0.keep kp
                                   replace hh18 := hh18.keep kp
                                   replace bel := tu.below bel ge2
                                   clear tu kp
                                   replace o2 := on
                                   clear on
                                   have hf21 := Rz.abs hh18
                                   refine E.opv hF (r_assign ev_c) rfl rfl rfl rfl fun a hF => ?_
                                   refine E.nil ?_
                                   refine wp_ret ?_
                                   refine bodyPost_ret (res_celltmp Try.results21 (hF.at 11 rfl) (ld_RInt (vs := [.bool b19, .slice ad19 n19 c19]) o2 rfl rfl) (hF.at 0 rfl)) hF.dfr ?_
                                   have hg := rgood hbd (by omega) (by omega) (fun e => e) hdA
                                   have hb := pe_0 hg (by rw [hbd]; omega)
                                   rw [hng, hbd] at hb
                                   rw [hjl] at *
                                   exact ⟨_, rv_vi2 hb.1, Rz.castP hh18 hb.2, bel⟩)))
            · first
              | (exfalso; omega)
              | (refine E.opvg hF (r_bin (hF.at 0 rfl) ev_c eg_scalar (bi_int (ic_gtr (c := false) (dec_ff hc5)) (by simp))) (wanted_by rfl rfl (hF.at 2 rfl) rfl) rfl rfl rfl fun a hF => ?_
                 refine E.opvg hF (r_move (hF.at 0 rfl)) (wanted_by rfl rfl (hF.at 3 rfl) rfl) rfl rfl rfl fun a hF => ?_
                 refine E.unwanted hF (wanted_by rfl rfl (hF.at 0 rfl) rfl) rfl rfl rfl fun a hF => ?_
                 refine E.unwanted hF (wanted_by rfl rfl (hF.at 1 rfl) rfl) rfl rfl rfl fun a hF => ?_
                 refine E.unwanted hF (wanted_by rfl rfl (hF.at 2 rfl) rfl) rfl rfl rfl fun a hF => ?_
                 refine E.opvg hF (r_pick_f (hF.at 3 rfl) ev_c) (wanted_by rfl rfl (hF.at 7 rfl) rfl) rfl rfl rfl fun a hF => ?_
                 refine E.opv hF (r_pick_f (hF.at 8 rfl) (hF.at 0 rfl)) rfl rfl rfl rfl fun a hF => ?_
                 refine E.opv hF (r_move (hF.at 0 rfl)) rfl rfl rfl rfl fun a hF => ?_
                 refine E.opvg hF (r_move (hF.at 22 rfl)) (wanted_by rfl rfl (hF.at 0 rfl) rfl) rfl rfl rfl fun a hF => ?_
                 refine E.opvg hF (r_move (hF.at 0 rfl)) (wanted_by rfl rfl (hF.at 1 rfl) rfl) rfl rfl rfl fun a hF => ?_
                 refine E.unwanted hF (wanted_by rfl rfl (hF.at 0 rfl) rfl) rfl rfl rfl fun a hF => ?_
                 refine E.unwanted hF (wanted_by rfl rfl (hF.at 1 rfl) rfl) rfl rfl rfl fun a hF => ?_
                 refine E.opvg hF (r_pick_f (hF.at 2 rfl) ev_c) (wanted_by rfl rfl (hF.at 4 rfl) rfl) rfl rfl rfl fun a hF => ?_
                 refine E.opv hF (r_pick_f (hF.at 5 rfl) (hF.at 0 rfl)) rfl rfl rfl rfl fun a hF => ?_
                 refine E.nil ?_
                 refine wp_cond_false (hF.at 0 rfl) ?_
                 refine wp_skip ?_
                 refine E.norm ?_
                 refine wp_seq ?_
                 refine wp_seq ?_
                 refine E.seq ?_
                 refine E.opv hF (r_assign ev_c) rfl rfl rfl rfl fun a hF => ?_
                 refine E.nil ?_
                 refine wp_block ?_
                 have nint := nn1 o2.noInt
                 refine E.loop (fun mq a wv => ∃ (j : Nat), j ≤ xs.length ∧ (∀ i, i < j → 48 ≤ lg xs i ∧ lg xs i ≤ 57) ∧ Fr 79 a [(5, .int .i64 ((j : Nat) : Int)), (4, .bool false), (2, .pointer (some ⟨g2, 0, none⟩)), (0, .string (bstr xs))] ∧ Stay [g2] w1 wv ∧ Below w.heap.size w wv ∧ Own wv g2 [.bool false, .slice none 0 0] ∧ Rz wv (.agg #[.bool false, .slice none 0 0]) 0 ∧ mq = xs.length - j) (xs.length - 0) ?_ ?_
                 · exact ⟨0, (Nat.zero_le _), (fun i hi => absurd hi (by omega)), hF.sub (by intro p hp; simp only [List.mem_cons, List.not_mem_nil, or_false] at hp ⊢; rcases hp with rfl | rfl | rfl | rfl <;> simp), Stay.refl _ _, bel, o2, (Rz.zero _), rfl⟩
                 · rintro mq a w9 ⟨j, hj, hd, hF, sty, bel, o2, hz0, hm⟩
                   have kps := sty.keep nint
                   clear kps
                   by_cases hjn : j < xs.length
                   · refine wp_seq ?_
                     refine wp_seq ?_
                     refine E.seq ?_
                     refine E.opv hF (r_move (hF.at 0 rfl)) rfl rfl rfl rfl fun a hF => ?_
                     refine E.opv hF (r_move (hF.at 4 rfl)) rfl rfl rfl rfl fun a hF => ?_
                     refine E.opv hF (r_builtin (map1 (hF.at 0 rfl)) (bl_str Try.underlying9)) rfl rfl rfl rfl fun a hF => ?_
                     refine E.opv hF (r_bin (hF.at 2 rfl) (hF.at 0 rfl) eg_scalar (bi_int (ic_lss (c := true) (dec_tt (by omega))) (by simp))) rfl rfl rfl rfl fun a hF => ?_
                     refine E.nil ?_
                     refine wp_cond_true (hF.at 0 rfl) ?_
                     refine wp_skip ?_
                     refine E.norm ?_
                     refine wp_seq ?_
                     refine wp_block ?_
                     refine wp_seq ?_
                     refine E.seq ?_
                     refine E.opv hF (r_move (hF.at 7 rfl)) rfl rfl rfl rfl fun a hF => ?_
                     refine E.opv hF (r_move (hF.at 5 rfl)) rfl rfl rfl rfl fun a hF => ?_
                     refine E.opv hF (r_ixv (hF.at 1 rfl) (hF.at 0 rfl) (ixs (xs := xs) (j := j) Try.underlying9 (by omega) (by omega) h8)) rfl rfl rfl rfl fun a hF => ?_
                     by_cases hc10 : ((lg (xs) j : Nat) : Int) < 48
                     · first
                       | (exfalso; omega)
                       | (refine E.opv hF (r_bin (hF.at 0 rfl) ev_c eg_scalar (bi_int (ic_lss (c := true) (dec_tt hc10)) (by simp))) rfl rfl rfl rfl fun a hF => ?_
                          refine E.opv hF (r_move (hF.at 0 rfl)) rfl rfl rfl rfl fun a hF => ?_
                          refine E.unwanted hF (wanted_by rfl rfl (hF.at 0 rfl) rfl) rfl rfl rfl fun a hF => ?_
                          refine E.unwanted hF (wanted_by rfl rfl (hF.at 1 rfl) rfl) rfl rfl rfl fun a hF => ?_
                          refine E.unwanted hF (wanted_by rfl rfl (hF.at 2 rfl) rfl) rfl rfl rfl fun a hF => ?_
                          refine E.unwanted hF (wanted_by rfl rfl (hF.at 3 rfl) rfl) rfl rfl rfl fun a hF => ?_
                          refine E.opv hF (r_pick_t (hF.at 4 rfl) ev_c) rfl rfl rfl rfl fun a hF => ?_
                          refine E.nil ?_
                          refine wp_cond_true (hF.at 0 rfl) ?_
                          refine wp_seq ?_
                          refine E.seq ?_
                          refine E.opv hF (r_build (by simp) (bd_RInt_ _)) rfl rfl rfl rfl fun a hF => ?_
                          obtain ⟨w11, hr, tu, on⟩ := st_RInt (vs := [.bool false, .slice none 0 0]) o2 rfl rfl (ocB (ocS oc0)) (niB (niS ni0)) (o := 0) rfl
                          have kp := tu.keep o2
                          refine E.st hF (r_store (hF.at 17 rfl) (hF.at 0 rfl) (hr _ rfl)) rfl rfl fun a hF => ?_
                          clear hr
                          replace hz0 := hz0.keep kp
                          replace bel := tu.below bel ge2
                          replace sty := sty.turned tu (.inl (by simp))
                          clear tu kp
                          replace o2 := on
                          clear on
                          refine E.opv hF (r_assign ev_c) rfl rfl rfl rfl fun a hF => ?_
                          refine E.nil ?_
                          refine wp_ret ?_
                          refine bodyPost_ret (res_celltmp Try.results21 (hF.at 18 rfl) (ld_RInt (vs := [.bool false, .slice none 0 0]) o2 rfl rfl) (hF.at 0 rfl)) hF.dfr ?_
                          have hb := rbad hbd (fun e => e) (.inr (.inr (.inr ⟨j, hjn, by omega⟩)))
                          exact ⟨_, rv_vi2 hb.1, Rz.castP (Rz.zero _) hb.2, bel⟩)
                     · first
                       | (exfalso; omega)
                       | (refine E.opv hF (r_bin (hF.at 0 rfl) ev_c eg_scalar (bi_int (ic_lss (c := false) (dec_ff hc10)) (by simp))) rfl rfl rfl rfl fun a hF => ?_
                          refine E.opv hF (r_move (hF.at 0 rfl)) rfl rfl rfl rfl fun a hF => ?_
                          refine E.opvg hF (r_move (hF.at 12 rfl)) (wanted_by rfl rfl (hF.at 0 rfl) rfl) rfl rfl rfl fun a hF => ?_
                          refine E.opvg hF (r_move (hF.at 10 rfl)) (wanted_by rfl rfl (hF.at 1 rfl) rfl) rfl rfl rfl fun a hF => ?_
                          refine E.opvg hF (r_ixv (hF.at 1 rfl) (hF.at 0 rfl) (ixs (xs := xs) (j := j) Try.underlying9 (by omega) (by omega) h8)) (wanted_by rfl rfl (hF.at 2 rfl) rfl) rfl rfl rfl fun a hF => ?_
                          by_cases hc12 : 57 < ((lg (xs) j : Nat) : Int)
                          · first
                            | (exfalso; omega)
                            | (refine E.opvg hF (r_bin (hF.at 0 rfl) ev_c eg_scalar (bi_int (ic_gtr (c := true) (dec_tt hc12)) (by simp))) (wanted_by rfl rfl (hF.at 3 rfl) rfl) rfl rfl rfl fun a hF => ?_
                               refine E.opv hF (r_pick_f (hF.at 4 rfl) (hF.at 0 rfl)) rfl rfl rfl rfl fun a hF => ?_
                               refine E.nil ?_
                               refine wp_cond_true (hF.at 0 rfl) ?_
                               refine wp_seq ?_
                               refine E.seq ?_
                               refine E.opv hF (r_build (by simp) (bd_RInt_ _)) rfl rfl rfl rfl fun a hF => ?_
                               obtain ⟨w13, hr, tu, on⟩ := st_RInt (vs := [.bool false, .slice none 0 0]) o2 rfl rfl (ocB (ocS oc0)) (niB (niS ni0)) (o := 0) rfl
                               have kp := tu.keep o2
                               refine E.st hF (r_store (hF.at 17 rfl) (hF.at 0 rfl) (hr _ rfl)) rfl rfl fun a hF => ?_
                               clear hr
                               replace hz0 := hz0.keep kp
                               replace bel := tu.below bel ge2
                               replace sty := sty.turned tu (.inl (by simp))
                               clear tu kp
                               replace o2 := on
                               clear on
                               refine E.opv hF (r_assign ev_c) rfl rfl rfl rfl fun a hF => ?_
                               refine E.nil ?_
                               refine wp_ret ?_
                               refine bodyPost_ret (res_celltmp Try.results21 (hF.at 18 rfl) (ld_RInt (vs := [.bool false, .slice none 0 0]) o2 rfl rfl) (hF.at 0 rfl)) hF.dfr ?_
                               have hb := rbad hbd (fun e => e) (.inr (.inr (.inr ⟨j, hjn, by omega⟩)))
                               exact ⟨_, rv_vi2 hb.1, Rz.castP (Rz.zero _) hb.2, bel⟩)
                          · first
                            | (exfalso; omega)
                            | (refine E.opvg hF (r_bin (hF.at 0 rfl) ev_c eg_scalar (bi_int (ic_gtr (c := false) (dec_ff hc12)) (by simp))) (wanted_by rfl rfl (hF.at 3 rfl) rfl) rfl rfl rfl fun a hF => ?_
                               refine E.opv hF (r_pick_f (hF.at 4 rfl) (hF.at 0 rfl)) rfl rfl rfl rfl fun a hF => ?_
                               refine E.nil ?_
                               refine wp_cond_false (hF.at 0 rfl) ?_
                               refine wp_skip ?_
                               refine E.blk ?_
                               refine E.norm ?_
                               refine E.seq ?_
                               refine E.opv hF (r_move (hF.at 14 rfl)) rfl rfl rfl rfl fun a hF => ?_
                               refine E.opv hF (r_bin (hF.at 0 rfl) ev_c eg_scalar (ia_add (by omega) (by omega))) rfl rfl rfl rfl fun a hF => ?_
                               refine E.opset (L' := [(5, .int .i64 (((j : Nat) : Int) + 1)), (44, .int .i64 (((j : Nat) : Int) + 1)), (43, .int .i64 ((j : Nat) : Int)), (54, .bool false), (53, .bool false), (52, .int .u8 ((lg (xs) j : Nat) : Int)), (51, .int .i64 ((j : Nat) : Int)), (50, .string (bstr xs)), (49, .bool false), (48, .bool false), (47, .int .u8 ((lg (xs) j : Nat) : Int)), (46, .int .i64 ((j : Nat) : Int)), (45, .string (bstr xs)), (42, .bool true), (41, .int .i64 ((List.length (xs) : Nat) : Int)), (40, .string (bstr xs)), (39, .int .i64 ((j : Nat) : Int)), (4, .bool false), (2, .pointer (some ⟨g2, 0, none⟩)), (0, .string (bstr xs))]) hF (r_assign (hF.at 0 rfl)) rfl rfl rfl rfl fun a hF => ?_
                               refine E.nil0 ?_
                               refine E.norm ?_
                               exact ⟨xs.length - (j + 1), by omega, ⟨(j + 1), (by omega), (dg_more hd ⟨by omega, by omega⟩), (by rw [show ((j + 1 : Nat) : Int) = ((j : Nat) : Int) + 1 from by omega]; exact Fr.sub (L' := [(5, .int .i64 (((j : Nat) : Int) + 1)), (4, .bool false), (2, .pointer (some ⟨g2, 0, none⟩)), (0, .string (bstr xs))]) hF (by intro p hp; simp only [List.mem_cons, List.not_mem_nil, or_false] at hp ⊢; rcases hp with rfl | rfl | rfl | rfl <;> simp)), sty, bel, o2, hz0, rfl⟩⟩))
                   · refine wp_seq ?_
                     refine wp_seq ?_
                     refine E.seq ?_
                     refine E.opv hF (r_move (hF.at 0 rfl)) rfl rfl rfl rfl fun a hF => ?_
                     refine E.opv hF (r_move (hF.at 4 rfl)) rfl rfl rfl rfl fun a hF => ?_
                     refine E.opv hF (r_builtin (map1 (hF.at 0 rfl)) (bl_str Try.underlying9)) rfl rfl rfl rfl fun a hF => ?_
                     refine E.opv hF (r_bin (hF.at 2 rfl) (hF.at 0 rfl) eg_scalar (bi_int (ic_lss (c := false) (dec_ff (by omega))) (by simp))) rfl rfl rfl rfl fun a hF => ?_
                     refine E.nil ?_
                     refine wp_cond_false (hF.at 0 rfl) ?_
                     refine wp_exit ?_
                     refine E.past ?_
                     refine E.past ?_
                     refine E.out (id := 0) ?_
                     refine E.norm ?_
                     refine wp_seq ?_
                     refine wp_seq ?_
                     refine E.seq ?_
                     refine E.opv hF (r_move (hF.at 7 rfl)) rfl rfl rfl rfl fun a hF => ?_
                     refine E.opv hF (r_builtin (map1 (hF.at 0 rfl)) (bl_str Try.underlying9)) rfl rfl rfl rfl fun a hF => ?_
                     by_cases hc10 : 1000 < ((List.length (xs) : Nat) : Int)
                     · first
                       | (exfalso; omega)
                       | (refine E.opv hF (r_bin (hF.at 0 rfl) ev_c eg_scalar (bi_int (ic_gtr (c := true) (dec_tt hc10)) (by simp))) rfl rfl rfl rfl fun a hF => ?_
                          refine E.nil ?_
                          refine wp_cond_true (hF.at 0 rfl) ?_
                          refine wp_seq ?_
                          refine E.seq ?_
                          refine E.opv hF (r_build (by simp) (bd_RInt_ _)) rfl rfl rfl rfl fun a hF => ?_
                          obtain ⟨w11, hr, tu, on⟩ := st_RInt (vs := [.bool false, .slice none 0 0]) o2 rfl rfl (ocB (ocS oc0)) (niB (niS ni0)) (o := 0) rfl
                          have kp := tu.keep o2
                          refine E.st hF (r_store (hF.at 10 rfl) (hF.at 0 rfl) (hr _ rfl)) rfl rfl fun a hF => ?_
                          clear hr
                          replace hz0 := hz0.keep kp
                          replace bel := tu.below bel ge2
                          clear tu kp
                          replace o2 := on
                          clear on
                          refine E.opv hF (r_assign ev_c) rfl rfl rfl rfl fun a hF => ?_
                          refine E.nil ?_
                          refine wp_ret ?_
                          refine bodyPost_ret (res_celltmp Try.results21 (hF.at 11 rfl) (ld_RInt (vs := [.bool false, .slice none 0 0]) o2 rfl rfl) (hF.at 0 rfl)) hF.dfr ?_
                          have hg := rgood hbd (by omega) (by omega) (fun e => e) (fun i hi => hd i (by omega))
                          have hb := pe_5 hg (by rw [hbd]; omega)
                          exact ⟨_, rv_vi2 hb.1, Rz.castP (Rz.zero _) hb.2, bel⟩)
                     · first
                       | (exfalso; omega)
                       | (refine E.opv hF (r_bin (hF.at 0 rfl) ev_c eg_scalar (bi_int (ic_gtr (c := false) (dec_ff hc10)) (by simp))) rfl rfl rfl rfl fun a hF => ?_
                          refine E.nil ?_
                          refine wp_cond_false (hF.at 0 rfl) ?_
                          refine wp_skip ?_
                          refine E.norm ?_
                          refine wp_seq ?_
                          refine E.seq ?_
                          obtain ⟨vv12, w13, hr, bb, hh14⟩ := num0p w9
                          refine E.opv hF (r_buildSlice (by simp) hr) rfl rfl rfl rfl fun a hF => ?_
                          clear hr
                          replace hz0 := hz0.below bb
                          replace o2 := o2.below bb
                          replace bel := below_to bel bb
                          clear bb
                          obtain ⟨ad15, n15, c15, rfl⟩ := Dg.form hh14
                          refine E.opv hF (r_assign (hF.at 0 rfl)) rfl rfl rfl rfl fun a hF => ?_
                          refine E.nil ?_
                          refine wp_seq ?_
                          refine wp_seq ?_
                          refine E.seq ?_
                          refine E.opv hF (r_assign ev_c) rfl rfl rfl rfl fun a hF => ?_
                          refine E.nil ?_
                          refine wp_block ?_
                          have hjl0 : j = xs.length := by omega
                          have hdA : ∀ i, i < xs.length → 48 ≤ lg xs i ∧ lg xs i ≤ 57 := fun i hi => hd i (by omega)
                          skip
                          refine E.loop (fun mq a wv => ∃ (j : Nat) (sa : Option Addr) (sn : Nat) (sc : Nat), j ≤ xs.length ∧ Fr 79 a [(7, .int .i64 ((j : Nat) : Int)), (6, .slice sa sn sc), (4, .bool false), (2, .pointer (some ⟨g2, 0, none⟩)), (0, .string (bstr xs))] ∧ Below w13.heap.size w13 wv ∧ Below w.heap.size w wv ∧ Dg wv .i64 65536 (.slice sa sn sc) (dv xs j) ∧ mq = xs.length - j) (xs.length - 0) ?_ ?_
                          · exact ⟨0, ad15, n15, c15, (Nat.zero_le _), Fr.sub (L' := [(7, .int .i64 ((0 : Nat) : Int)), (6, .slice ad15 n15 c15), (4, .bool false), (2, .pointer (some ⟨g2, 0, none⟩)), (0, .string (bstr xs))]) hF (by intro p hp; simp only [List.mem_cons, List.not_mem_nil, or_false] at hp ⊢; rcases hp with rfl | rfl | rfl | rfl | rfl <;> simp), Below.refl _ _, bel, hh14, rfl⟩
                          · rintro mq a w16 ⟨j, sa, sn, sc, hj, hF, sty, bel, hx, hm⟩
                            replace hz0 := hz0.below sty
                            replace o2 := o2.below sty
                            by_cases hjn : j < xs.length
                            · have hdj := hdA j hjn
                              have hXl := dv_lim (B := xs) (j := j) (fun i hi => hdA i (by omega)) (by omega)
                              have hadd : dl 65536 (dv xs j * 10) ≤ 1000000 ∧ dl 65536 (lg xs j - 48) ≤ 1000000 := ⟨(show Lim (dv xs j * 10) (106 + 1) from Lim.mul hXl (Lim.of32 (by decide))).dh _ (by decide), (show Lim (lg xs j - 48) 1 from Lim.of32 (by omega)).dh _ (by decide)⟩
                              refine wp_seq ?_
                              refine wp_seq ?_
                              refine E.seq ?_
                              refine E.opv hF (r_move (hF.at 0 rfl)) rfl rfl rfl rfl fun a hF => ?_
                              refine E.opv hF (r_move (hF.at 5 rfl)) rfl rfl rfl rfl fun a hF => ?_
                              refine E.opv hF (r_builtin (map1 (hF.at 0 rfl)) (bl_str Try.underlying9)) rfl rfl rfl rfl fun a hF => ?_
                              refine E.opv hF (r_bin (hF.at 2 rfl) (hF.at 0 rfl) eg_scalar (bi_int (ic_lss (c := true) (dec_tt (by omega))) (by simp))) rfl rfl rfl rfl fun a hF => ?_
                              refine E.nil ?_
                              refine wp_cond_true (hF.at 0 rfl) ?_
                              refine wp_skip ?_
                              refine E.norm ?_
                              refine wp_seq ?_
                              refine wp_block ?_
                              refine E.drawn 9 mixed hF [67, 68, 69, 70, 71, 72, 73, 74, 75] [(fun _ v => v = .slice sa sn sc), (fun w v => Dg w .i64 65536 v ((dv xs j) * 10)), (fun _ v => v = .string (bstr xs)), (fun _ v => v = .int .i64 ((j : Nat) : Int)), (fun _ v => v = .int .u8 ((lg (xs) j : Nat) : Int)), (fun _ v => v = .int .u8 (((lg (xs) j : Nat) : Int) - 48)), (fun _ v => v = .int .i64 (((lg (xs) j : Nat) : Int) - 48)), (fun w v => Dg w .i64 65536 v ((lg xs j - 48))), (fun w v => Dg w .i64 65536 v (((dv xs j) * 10) + ((lg xs j - 48))))] [] (by decide +kernel) (by decide +kernel) rfl rfl rfl ⟨(Mb.eq _), (fun _ _ _ h hb => h.below hb), (Mb.eq _), (Mb.eq _), (Mb.eq _), (Mb.eq _), (Mb.eq _), (fun _ _ _ h hb => h.below hb), (fun _ _ _ h hb => h.below hb), trivial⟩ trivial ⟨?_, ?_, ?_, ?_, ?_, ?_, ?_, ?_, ?_, trivial⟩ ?_
                              · intro a' w' hF' hb hd
                                exact if_does (wanted_free rfl) (Does.vals (r_move (hF'.at 5 rfl)) ⟨rfl, Below.refl _ _, (fun h => absurd h (by decide))⟩)
                              · intro a' w' hF' hb hd
                                have e67 : a'.tmps.getD 67 undef = .slice sa sn sc := hd _ 67 (Array.mem_of_getElem? (i := 0) rfl) rfl rfl
                                refine if_does (wanted_free rfl) (Does.calls (r_call Try.func55 en55.1 en55.2 (map3 e67 ev_c ev_c)) (stimes10 _ (dv xs j) _ (hx.below hb) (Lim.dh hXl _ (by omega))) ?_)
                                rintro e w'' ⟨v', rfl, h', bb⟩
                                exact ⟨_, rfl, h', bb, (fun h => absurd h (by decide))⟩
                              · intro a' w' hF' hb hd
                                exact if_does (wanted_free rfl) (Does.vals (r_move (hF'.at 8 rfl)) ⟨rfl, Below.refl _ _, (fun h => absurd h (by decide))⟩)
                              · intro a' w' hF' hb hd
                                exact if_does (wanted_free rfl) (Does.vals (r_move (hF'.at 4 rfl)) ⟨rfl, Below.refl _ _, (fun h => absurd h (by decide))⟩)
                              · intro a' w' hF' hb hd
                                have e69 : a'.tmps.getD 69 undef = .string (bstr xs) := hd _ 69 (Array.mem_of_getElem? (i := 0) rfl) rfl rfl
                                have e70 : a'.tmps.getD 70 undef = .int .i64 ((j : Nat) : Int) := hd _ 70 (Array.mem_of_getElem? (i := 1) rfl) rfl rfl
                                exact if_does (wanted_free rfl) (Does.vals (r_ixv e69 e70 (ixs (xs := xs) (j := j) Try.underlying9 (by omega) (by omega) h8)) ⟨rfl, Below.refl _ _, (fun h => absurd h (by decide))⟩)
                              · intro a' w' hF' hb hd
                                have e71 : a'.tmps.getD 71 undef = .int .u8 ((lg (xs) j : Nat) : Int) := hd _ 71 (Array.mem_of_getElem? (i := 0) rfl) rfl rfl
                                exact if_does (wanted_free rfl) (Does.vals (r_bin e71 ev_c eg_scalar (iw_sub (a := ((lg (xs) j : Nat) : Int)) (b := 48) (w_u8 (by omega) (by omega)))) ⟨rfl, Below.refl _ _, (fun h => absurd h (by decide))⟩)
                              · intro a' w' hF' hb hd
                                have e72 : a'.tmps.getD 72 undef = .int .u8 (((lg (xs) j : Nat) : Int) - 48) := hd _ 72 (Array.mem_of_getElem? (i := 0) rfl) rfl rfl
                                exact if_does (wanted_free rfl) (Does.vals (r_conv e72 (cv_kind (k' := .i64) Try.underlying5 Try.underlying3 (w_i64 (by omega) (by omega)))) ⟨rfl, Below.refl _ _, (fun h => absurd h (by decide))⟩)
                              · intro a' w' hF' hb hd
                                have e73 : a'.tmps.getD 73 undef = .int .i64 (((lg (xs) j : Nat) : Int) - 48) := hd _ 73 (Array.mem_of_getElem? (i := 0) rfl) rfl rfl
                                refine if_does (wanted_free rfl) (Does.calls (r_call Try.func56 en56.1 en56.2 (map1 e73)) (sOf_int _ (lg xs j - 48) _ (by omega) (by omega)) ?_)
                                rintro e w'' ⟨v', rfl, h', bb⟩
                                exact ⟨_, rfl, h', bb, (fun h => absurd h (by decide))⟩
                              · intro a' w' hF' hb hd
                                obtain ⟨v68_0, e68, h68_1⟩ : ∃ v, a'.tmps.getD 68 undef = v ∧ Dg w' .i64 65536 v ((dv xs j) * 10) := ⟨_, rfl, hd _ 68 (Array.mem_of_getElem? (i := 0) rfl) rfl rfl⟩
                                obtain ⟨v74_0, e74, h74_1⟩ : ∃ v, a'.tmps.getD 74 undef = v ∧ Dg w' .i64 65536 v ((lg xs j - 48)) := ⟨_, rfl, hd _ 74 (Array.mem_of_getElem? (i := 1) rfl) rfl rfl⟩
                                refine if_does (wanted_free rfl) (Does.calls (r_call Try.func54 en54.1 en54.2 (map2 e68 e74)) (sadd_any _ _ ((dv xs j) * 10) ((lg xs j - 48)) _ h68_1 h74_1 hadd) ?_)
                                rintro e w'' ⟨v', rfl, h', bb⟩
                                exact ⟨_, rfl, h', bb, (fun h => absurd h (by decide))⟩
                              intro a w17 hF bb hall hne
                              obtain ⟨vv18, e75, hh19⟩ : ∃ v, a.tmps.getD 75 undef = v ∧ Dg w17 .i64 65536 v (((dv xs j) * 10) + ((lg xs j - 48))) := ⟨_, rfl, hall 8 75 rfl⟩
                              clear hall hne
                              replace hx := hx.below bb
                              replace hz0 := hz0.below bb
                              replace o2 := o2.below bb
                              replace sty := below_to sty bb
                              replace bel := below_to bel bb
                              clear bb
                              obtain ⟨ad20, n20, c20, rfl⟩ := Dg.form hh19
                              replace hF := hF.add e75
                              clear e75
                              refine E.opset (L' := [(6, .slice ad20 n20 c20), (75, .slice ad20 n20 c20), (64, .bool true), (63, .int .i64 ((List.length (xs) : Nat) : Int)), (62, .string (bstr xs)), (61, .int .i64 ((j : Nat) : Int)), (7, .int .i64 ((j : Nat) : Int)), (4, .bool false), (2, .pointer (some ⟨g2, 0, none⟩)), (0, .string (bstr xs))]) hF (r_assign (hF.at 0 rfl)) rfl rfl rfl rfl fun a hF => ?_
                              refine E.nil0 ?_
                              refine E.blk ?_
                              refine E.norm ?_
                              refine E.seq ?_
                              refine E.opv hF (r_move (hF.at 6 rfl)) rfl rfl rfl rfl fun a hF => ?_
                              refine E.opv hF (r_bin (hF.at 0 rfl) ev_c eg_scalar (ia_add (by omega) (by omega))) rfl rfl rfl rfl fun a hF => ?_
                              refine E.opset (L' := [(7, .int .i64 (((j : Nat) : Int) + 1)), (66, .int .i64 (((j : Nat) : Int) + 1)), (65, .int .i64 ((j : Nat) : Int)), (6, .slice ad20 n20 c20), (75, .slice ad20 n20 c20), (64, .bool true), (63, .int .i64 ((List.length (xs) : Nat) : Int)), (62, .string (bstr xs)), (61, .int .i64 ((j : Nat) : Int)), (4, .bool false), (2, .pointer (some ⟨g2, 0, none⟩)), (0, .string (bstr xs))]) hF (r_assign (hF.at 0 rfl)) rfl rfl rfl rfl fun a hF => ?_
                              refine E.nil0 ?_
                              refine E.norm ?_
                              exact ⟨xs.length - (j + 1), by omega, ⟨(j + 1), ad20, n20, c20, (by omega), (by rw [show ((j + 1 : Nat) : Int) = ((j : Nat) : Int) + 1 from by omega]; exact Fr.sub (L' := [(7, .int .i64 (((j : Nat) : Int) + 1)), (6, .slice ad20 n20 c20), (4, .bool false), (2, .pointer (some ⟨g2, 0, none⟩)), (0, .string (bstr xs))]) hF (by intro p hp; simp only [List.mem_cons, List.not_mem_nil, or_false] at hp ⊢; rcases hp with rfl | rfl | rfl | rfl | rfl <;> simp)), sty, bel, hh19, rfl⟩⟩
                            · have hjl : j = xs.length := by omega
                              refine wp_seq ?_
                              refine wp_seq ?_
                              refine E.seq ?_
                              refine E.opv hF (r_move (hF.at 0 rfl)) rfl rfl rfl rfl fun a hF => ?_
                              refine E.opv hF (r_move (hF.at 5 rfl)) rfl rfl rfl rfl fun a hF => ?_
                              refine E.opv hF (r_builtin (map1 (hF.at 0 rfl)) (bl_str Try.underlying9)) rfl rfl rfl rfl fun a hF => ?_
                              refine E.opv hF (r_bin (hF.at 2 rfl) (hF.at 0 rfl) eg_scalar (bi_int (ic_lss (c := false) (dec_ff (by omega))) (by simp))) rfl rfl rfl rfl fun a hF => ?_
                              refine E.nil ?_
                              refine wp_cond_false (hF.at 0 rfl) ?_
                              refine wp_exit ?_
                              refine E.past ?_
                              refine E.past ?_
                              refine E.out (id := 2) ?_
                              refine E.norm ?_
                              refine wp_seq ?_
                              refine E.seq ?_
                              refine E.opv hF (r_move (hF.at 6 rfl)) rfl rfl rfl rfl fun a hF => ?_
                              refine E.opv hF (r_move (hF.at 6 rfl)) rfl rfl rfl rfl fun a hF => ?_
                              refine E.call hF (r_call Try.func43 en43.1 en43.2 (map2 (hF.at 1 rfl) (hF.at 0 rfl))) (rmake_any _ _ (dv xs j) _ hx) rfl rfl rfl rfl ?_
                              rintro e w17 ⟨vv18, rfl, hh19, bb⟩
                              refine ⟨_, rfl, ?_⟩
                              intro a hF
                              replace hz0 := hz0.below bb
                              replace o2 := o2.below bb
                              replace bel := below_to bel bb
                              clear bb
                              obtain ⟨b20, ad20, n20, c20, rfl⟩ := Rz.form hh19
                              obtain ⟨w21, hr, tu, on⟩ := st_RInt (vs := [.bool b20, .slice ad20 n20 c20]) o2 rfl rfl (ocB (ocS oc0)) (niB (niS ni0)) (o := 0) rfl
                              have kp := tu.keep o2
                              refine E.st hF (r_store (hF.at 10 rfl) (hF.at 0 rfl) (hr _ rfl)) rfl rfl fun a hF => ?_
                              clear hr
                              replace hz0 := hz0.keep kp
                              replace hh19 := hh19.keep kp
                              replace bel := tu.below bel ge2
                              clear tu kp
                              replace o2 := on
                              clear on
                              have hf22 := Rz.abs hh19
                              refine E.opv hF (r_assign ev_c) rfl rfl rfl rfl fun a hF => ?_
                              refine E.nil ?_
                              refine wp_ret ?_
                              refine bodyPost_ret (res_celltmp Try.results21 (hF.at 11 rfl) (ld_RInt (vs := [.bool b20, .slice ad20 n20 c20]) o2 rfl rfl) (hF.at 0 rfl)) hF.dfr ?_
                              have hg := rgood hbd (by omega) (by omega) (fun e => e) hdA
                              have hb := pe_0 hg (by rw [hbd]; omega)
                              rw [hng, hbd] at hb
                              rw [hjl] at *
                              exact ⟨_, rv_vi2 hb.1, Rz.castP hh19 hb.2, bel⟩))))
  · first
    | (exfalso; omega)
    | (refine E.opv hF (r_bin (hF.at 0 rfl) ev_c eg_scalar (bi_int (ic_gtr (c := false) (dec_ff hc2)) (by simp))) rfl rfl rfl rfl fun a hF => ?_
       refine E.opv hF (r_move (hF.at 0 rfl)) rfl rfl rfl rfl fun a hF => ?_
       refine E.unwanted hF (wanted_by rfl rfl (hF.at 0 rfl) rfl) rfl rfl rfl fun a hF => ?_
       refine E.unwanted hF (wanted_by rfl rfl (hF.at 1 rfl) rfl) rfl rfl rfl fun a hF => ?_
       refine E.unwanted hF (wanted_by rfl rfl (hF.at 2 rfl) rfl) rfl rfl rfl fun a hF => ?_
       refine E.opv hF (r_pick_f (hF.at 3 rfl) ev_c) rfl rfl rfl rfl fun a hF => ?_
       refine E.nil ?_
       refine wp_cond_false (hF.at 0 rfl) ?_
       refine wp_skip ?_
       refine E.norm ?_
       refine wp_seq ?_
       refine wp_seq ?_
       refine E.seq ?_
       refine E.opv hF (r_move (hF.at 11 rfl)) rfl rfl rfl rfl fun a hF => ?_
       refine E.opv hF (r_builtin (map1 (hF.at 0 rfl)) (bl_str Try.underlying9)) rfl rfl rfl rfl fun a hF => ?_
       by_cases hc10 : ((List.length (xs) : Nat) : Int) = 0
       · first
         | (exfalso; omega)
         | (refine E.opv hF (r_bin (hF.at 0 rfl) ev_c eg_scalar (bi_int (ic_eql (c := true) (dec_tt hc10)) (by simp))) rfl rfl rfl rfl fun a hF => ?_
            refine E.opv hF (r_move (hF.at 0 rfl)) rfl rfl rfl rfl fun a hF => ?_
            refine E.unwanted hF (wanted_by rfl rfl (hF.at 0 rfl) rfl) rfl rfl rfl fun a hF => ?_
            refine E.unwanted hF (wanted_by rfl rfl (hF.at 1 rfl) rfl) rfl rfl rfl fun a hF => ?_
            refine E.unwanted hF (wanted_by rfl rfl (hF.at 2 rfl) rfl) rfl rfl rfl fun a hF => ?_
            refine E.unwanted hF (wanted_by rfl rfl (hF.at 3 rfl) rfl) rfl rfl rfl fun a hF => ?_
            refine E.unwanted hF (wanted_undef rfl rfl (hF.at 0 rfl)) rfl rfl rfl fun a hF => ?_
            refine E.unwanted hF (wanted_undef rfl rfl (hF.at 1 rfl)) rfl rfl rfl fun a hF => ?_
            refine E.unwanted hF (wanted_undef rfl rfl (hF.at 2 rfl)) rfl rfl rfl fun a hF => ?_
            refine E.unwanted hF (wanted_by rfl rfl (hF.at 7 rfl) rfl) rfl rfl rfl fun a hF => ?_
            refine E.opv hF (r_pick_t (hF.at 8 rfl) ev_c) rfl rfl rfl rfl fun a hF => ?_
            refine E.opv hF (r_move (hF.at 0 rfl)) rfl rfl rfl rfl fun a hF => ?_
            refine E.unwanted hF (wanted_by rfl rfl (hF.at 0 rfl) rfl) rfl rfl rfl fun a hF => ?_
            refine E.unwanted hF (wanted_by rfl rfl (hF.at 1 rfl) rfl) rfl rfl rfl fun a hF => ?_
            refine E.unwanted hF (wanted_undef rfl rfl (hF.at 0 rfl)) rfl rfl rfl fun a hF => ?_
            refine E.unwanted hF (wanted_undef rfl rfl (hF.at 1 rfl)) rfl rfl rfl fun a hF => ?_
            refine E.unwanted hF (wanted_by rfl rfl (hF.at 4 rfl) rfl) rfl rfl rfl fun a hF => ?_
            refine E.opv hF (r_pick_t (hF.at 5 rfl) ev_c) rfl rfl rfl rfl fun a hF => ?_
            refine E.nil ?_
            refine wp_cond_true (hF.at 0 rfl) ?_
            refine wp_seq ?_
            refine E.seq ?_
            refine E.opv hF (r_build (by simp) (bd_RInt_ _)) rfl rfl rfl rfl fun a hF => ?_
            obtain ⟨w11, hr, tu, on⟩ := st_RInt (vs := [.bool false, .slice none 0 0]) o2 rfl rfl (ocB (ocS oc0)) (niB (niS ni0)) (o := 0) rfl
            have kp := tu.keep o2
            refine E.st hF (r_store (hF.at 31 rfl) (hF.at 0 rfl) (hr _ rfl)) rfl rfl fun a hF => ?_
            clear hr
            replace bel := tu.below bel ge2
            clear tu kp
            replace o2 := on
            clear on
            refine E.opset (L' := [(3, .int .i64 1), (38, .agg #[.bool false, .slice none 0 0]), (37, .bool true), (36, undef), (35, undef), (34, undef), (33, undef), (32, undef), (31, .bool true), (30, .bool true), (29, undef), (28, undef), (27, undef), (26, undef), (25, undef), (24, undef), (23, undef), (22, undef), (21, .bool true), (20, .bool true), (19, .int .i64 ((List.length (xs) : Nat) : Int)), (18, .string (bstr xs)), (15, .bool false), (14, undef), (13, undef), (12, undef), (11, .bool false), (10, .bool false), (9, .int .i64 ((List.length (xs) : Nat) : Int)), (8, .string (bstr xs)), (4, .bool false), (2, .pointer (some ⟨g2, 0, none⟩)), (0, .string (bstr xs))]) hF (r_assign ev_c) rfl rfl rfl rfl fun a hF => ?_
            refine E.nil ?_
            refine wp_ret ?_
            refine bodyPost_ret (res_celltmp Try.results21 (hF.at 31 rfl) (ld_RInt (vs := [.bool false, .slice none 0 0]) o2 rfl rfl) (hF.at 0 rfl)) hF.dfr ?_
            have hb := rbad hbd (fun e => e) (.inl (by omega))
            exact ⟨_, rv_vi2 hb.1, Rz.castP (Rz.zero _) hb.2, bel⟩)
       · first
         | (exfalso; omega)
         | (refine E.opv hF (r_bin (hF.at 0 rfl) ev_c eg_scalar (bi_int (ic_eql (c := false) (dec_ff hc10)) (by simp))) rfl rfl rfl rfl fun a hF => ?_
            refine E.opv hF (r_move (hF.at 0 rfl)) rfl rfl rfl rfl fun a hF => ?_
            refine E.opvg hF (r_move (hF.at 15 rfl)) (wanted_by rfl rfl (hF.at 0 rfl) rfl) rfl rfl rfl fun a hF => ?_
            refine E.opvg hF (r_builtin (map1 (hF.at 0 rfl)) (bl_str Try.underlying9)) (wanted_by rfl rfl (hF.at 1 rfl) rfl) rfl rfl rfl fun a hF => ?_
            by_cases hc12 : 1 < ((List.length (xs) : Nat) : Int)
            · first
              | (exfalso; omega)
              | (refine E.opvg hF (r_bin (hF.at 0 rfl) ev_c eg_scalar (bi_int (ic_gtr (c := true) (dec_tt hc12)) (by simp))) (wanted_by rfl rfl (hF.at 2 rfl) rfl) rfl rfl rfl fun a hF => ?_
                 refine E.opvg hF (r_move (hF.at 0 rfl)) (wanted_by rfl rfl (hF.at 3 rfl) rfl) rfl rfl rfl fun a hF => ?_
                 refine E.opvg hF (r_move (hF.at 19 rfl)) (wanted_by rfl rfl (hF.at 0 rfl) rfl) rfl rfl rfl fun a hF => ?_
                 refine E.opvg hF (r_ixv (hF.at 0 rfl) ev_c (ixs (xs := xs) (j := 0) Try.underlying9 (by omega) (by omega) h8)) (wanted_by rfl rfl (hF.at 1 rfl) rfl) rfl rfl rfl fun a hF => ?_
                 by_cases hc13 : ((lg (xs) 0 : Nat) : Int) = 48
                 · first
                   | (exfalso; omega)
                   | (refine E.opvg hF (r_bin (hF.at 0 rfl) ev_c eg_scalar (bi_int (ic_eql (c := true) (dec_tt hc13)) (by simp))) (wanted_by rfl rfl (hF.at 2 rfl) rfl) rfl rfl rfl fun a hF => ?_
                      refine E.opvg hF (r_pick_t (hF.at 3 rfl) (hF.at 0 rfl)) (wanted_by rfl rfl (hF.at 7 rfl) rfl) rfl rfl rfl fun a hF => ?_
                      refine E.opv hF (r_pick_f (hF.at 8 rfl) (hF.at 0 rfl)) rfl rfl rfl rfl fun a hF => ?_
                      refine E.opv hF (r_move (hF.at 0 rfl)) rfl rfl rfl rfl fun a hF => ?_
                      refine E.unwanted hF (wanted_by rfl rfl (hF.at 0 rfl) rfl) rfl rfl rfl fun a hF => ?_
                      refine E.unwanted hF (wanted_by rfl rfl (hF.at 1 rfl) rfl) rfl rfl rfl fun a hF => ?_
                      refine E.unwanted hF (wanted_undef rfl rfl (hF.at 0 rfl)) rfl rfl rfl fun a hF => ?_
                      refine E.unwanted hF (wanted_undef rfl rfl (hF.at 1 rfl)) rfl rfl rfl fun a hF => ?_
                      refine E.unwanted hF (wanted_by rfl rfl (hF.at 4 rfl) rfl) rfl rfl rfl fun a hF => ?_
                      refine E.opv hF (r_pick_t (hF.at 5 rfl) ev_c) rfl rfl rfl rfl fun a hF => ?_
                      refine E.nil ?_
                      refine wp_cond_true (hF.at 0 rfl) ?_
                      refine wp_seq ?_
                      refine E.seq ?_
                      refine E.opv hF (r_build (by simp) (bd_RInt_ _)) rfl rfl rfl rfl fun a hF => ?_
                      obtain ⟨w14, hr, tu, on⟩ := st_RInt (vs := [.bool false, .slice none 0 0]) o2 rfl rfl (ocB (ocS oc0)) (niB (niS ni0)) (o := 0) rfl
                      have kp := tu.keep o2
                      refine E.st hF (r_store (hF.at 31 rfl) (hF.at 0 rfl) (hr _ rfl)) rfl rfl fun a hF => ?_
                      clear hr
                      replace bel := tu.below bel ge2
                      clear tu kp
                      replace o2 := on
                      clear on
                      refine E.opset (L' := [(3, .int .i64 1), (38, .agg #[.bool false, .slice none 0 0]), (37, .bool true), (36, undef), (35, undef), (34, undef), (33, undef), (32, undef), (31, .bool true), (30, .bool true), (29, .bool true), (28, .bool true), (27, .int .u8 ((lg (xs) 0 : Nat) : Int)), (26, .string (bstr xs)), (25, .bool true), (24, .bool true), (23, .int .i64 ((List.length (xs) : Nat) : Int)), (22, .string (bstr xs)), (21, .bool false), (20, .bool false), (19, .int .i64 ((List.length (xs) : Nat) : Int)), (18, .string (bstr xs)), (15, .bool false), (14, undef), (13, undef), (12, undef), (11, .bool false), (10, .bool false), (9, .int .i64 ((List.length (xs) : Nat) : Int)), (8, .string (bstr xs)), (4, .bool false), (2, .pointer (some ⟨g2, 0, none⟩)), (0, .string (bstr xs))]) hF (r_assign ev_c) rfl rfl rfl rfl fun a hF => ?_
                      refine E.nil ?_
                      refine wp_ret ?_
                      refine bodyPost_ret (res_celltmp Try.results21 (hF.at 31 rfl) (ld_RInt (vs := [.bool false, .slice none 0 0]) o2 rfl rfl) (hF.at 0 rfl)) hF.dfr ?_
                      have hb := rbad hbd (fun e => e) (.inr (.inl ⟨by omega, by omega⟩))
                      exact ⟨_, rv_vi2 hb.1, Rz.castP (Rz.zero _) hb.2, bel⟩)
                 · first
                   | (exfalso; omega)
                   | (refine E.opvg hF (r_bin (hF.at 0 rfl) ev_c eg_scalar (bi_int (ic_eql (c := false) (dec_ff hc13)) (by simp))) (wanted_by rfl rfl (hF.at 2 rfl) rfl) rfl rfl rfl fun a hF => ?_
                      refine E.opvg hF (r_pick_t (hF.at 3 rfl) (hF.at 0 rfl)) (wanted_by rfl rfl (hF.at 7 rfl) rfl) rfl rfl rfl fun a hF => ?_
                      refine E.opv hF (r_pick_f (hF.at 8 rfl) (hF.at 0 rfl)) rfl rfl rfl rfl fun a hF => ?_
                      refine E.opv hF (r_move (hF.at 0 rfl)) rfl rfl rfl rfl fun a hF => ?_
                      refine E.opvg hF (r_move (hF.at 22 rfl)) (wanted_by rfl rfl (hF.at 0 rfl) rfl) rfl rfl rfl fun a hF => ?_
                      refine E.opvg hF (r_move (hF.at 0 rfl)) (wanted_by rfl rfl (hF.at 1 rfl) rfl) rfl rfl rfl fun a hF => ?_
                      refine E.unwanted hF (wanted_by rfl rfl (hF.at 0 rfl) rfl) rfl rfl rfl fun a hF => ?_
                      refine E.unwanted hF (wanted_by rfl rfl (hF.at 1 rfl) rfl) rfl rfl rfl fun a hF => ?_
                      refine E.opvg hF (r_pick_f (hF.at 2 rfl) ev_c) (wanted_by rfl rfl (hF.at 4 rfl) rfl) rfl rfl rfl fun a hF => ?_
                      refine E.opv hF (r_pick_f (hF.at 5 rfl) (hF.at 0 rfl)) rfl rfl rfl rfl fun a hF => ?_
                      refine E.nil ?_
                      refine wp_cond_false (hF.at 0 rfl) ?_
                      refine wp_skip ?_
                      refine E.norm ?_
                      refine wp_seq ?_
                      refine wp_seq ?_
                      refine E.seq ?_
                      refine E.opv hF (r_assign ev_c) rfl rfl rfl rfl fun a hF => ?_
                      refine E.nil ?_
                      refine wp_block ?_
                      have nint := nn1 o2.noInt
                      refine E.loop (fun mq a wv => ∃ (j : Nat), j ≤ xs.length ∧ (∀ i, i < j → 48 ≤ lg xs i ∧ lg xs i ≤ 57) ∧ Fr 79 a [(5, .int .i64 ((j : Nat) : Int)), (4, .bool false), (2, .pointer (some ⟨g2, 0, none⟩)), (0, .string (bstr xs))] ∧ Stay [g2] w1 wv ∧ Below w.heap.size w wv ∧ Own wv g2 [.bool false, .slice none 0 0] ∧ Rz wv (.agg #[.bool false, .slice none 0 0]) 0 ∧ mq = xs.length - j) (xs.length - 0) ?_ ?_
                      · exact ⟨0, (Nat.zero_le _), (fun i hi => absurd hi (by omega)), hF.sub (by intro p hp; simp only [List.mem_cons, List.not_mem_nil, or_false] at hp ⊢; rcases hp with rfl | rfl | rfl | rfl <;> simp), Stay.refl _ _, bel, o2, (Rz.zero _), rfl⟩
                      · rintro mq a w15 ⟨j, hj, hd, hF, sty, bel, o2, hz0, hm⟩
                        have kps := sty.keep nint
                        clear kps
                        by_cases hjn : j < xs.length
                        · refine wp_seq ?_
                          refine wp_seq ?_
                          refine E.seq ?_
                          refine E.opv hF (r_move (hF.at 0 rfl)) rfl rfl rfl rfl fun a hF => ?_
                          refine E.opv hF (r_move (hF.at 4 rfl)) rfl rfl rfl rfl fun a hF => ?_
                          refine E.opv hF (r_builtin (map1 (hF.at 0 rfl)) (bl_str Try.underlying9)) rfl rfl rfl rfl fun a hF => ?_
                          refine E.opv hF (r_bin (hF.at 2 rfl) (hF.at 0 rfl) eg_scalar (bi_int (ic_lss (c := true) (dec_tt (by omega))) (by simp))) rfl rfl rfl rfl fun a hF => ?_
                          refine E.nil ?_
                          refine wp_cond_true (hF.at 0 rfl) ?_
                          refine wp_skip ?_
                          refine E.norm ?_
                          refine wp_seq ?_
                          refine wp_block ?_
                          refine wp_seq ?_
                          refine E.seq ?_
                          refine E.opv hF (r_move (hF.at 7 rfl)) rfl rfl rfl rfl fun a hF => ?_
                          refine E.opv hF (r_move (hF.at 5 rfl)) rfl rfl rfl rfl fun a hF => ?_
                          refine E.opv hF (r_ixv (hF.at 1 rfl) (hF.at 0 rfl) (ixs (xs := xs) (j := j) Try.underlying9 (by omega) (by omega) h8)) rfl rfl rfl rfl fun a hF => ?_
                          by_cases hc16 : ((lg (xs) j : Nat) : Int) < 48
                          · first
                            | (exfalso; omega)
                            | (refine E.opv hF (r_bin (hF.at 0 rfl) ev_c eg_scalar (bi_int (ic_lss (c := true) (dec_tt hc16)) (by simp))) rfl rfl rfl rfl fun a hF => ?_
                               refine E.opv hF (r_move (hF.at 0 rfl)) rfl rfl rfl rfl fun a hF => ?_
                               refine E.unwanted hF (wanted_by rfl rfl (hF.at 0 rfl) rfl) rfl rfl rfl fun a hF => ?_
                               refine E.unwanted hF (wanted_by rfl rfl (hF.at 1 rfl) rfl) rfl rfl rfl fun a hF => ?_
                               refine E.unwanted hF (wanted_by rfl rfl (hF.at 2 rfl) rfl) rfl rfl rfl fun a hF => ?_
                               refine E.unwanted hF (wanted_by rfl rfl (hF.at 3 rfl) rfl) rfl rfl rfl fun a hF => ?_
                               refine E.opv hF (r_pick_t (hF.at 4 rfl) ev_c) rfl rfl rfl rfl fun a hF => ?_
                               refine E.nil ?_
                               refine wp_cond_true (hF.at 0 rfl) ?_
                               refine wp_seq ?_
                               refine E.seq ?_
                               refine E.opv hF (r_build (by simp) (bd_RInt_ _)) rfl rfl rfl rfl fun a hF => ?_
                               obtain ⟨w17, hr, tu, on⟩ := st_RInt (vs := [.bool false, .slice none 0 0]) o2 rfl rfl (ocB (ocS oc0)) (niB (niS ni0)) (o := 0) rfl
                               have kp := tu.keep o2
                               refine E.st hF (r_store (hF.at 17 rfl) (hF.at 0 rfl) (hr _ rfl)) rfl rfl fun a hF => ?_
                               clear hr
                               replace hz0 := hz0.keep kp
                               replace bel := tu.below bel ge2
                               replace sty := sty.turned tu (.inl (by simp))
                               clear tu kp
                               replace o2 := on
                               clear on
                               refine E.opv hF (r_assign ev_c) rfl rfl rfl rfl fun a hF => ?_
                               refine E.nil ?_
                               refine wp_ret ?_
                               refine bodyPost_ret (res_celltmp Try.results21 (hF.at 18 rfl) (ld_RInt (vs := [.bool false, .slice none 0 0]) o2 rfl rfl) (hF.at 0 rfl)) hF.dfr ?_
                               have hb := rbad hbd (fun e => e) (.inr (.inr (.inr ⟨j, hjn, by omega⟩)))
                               exact ⟨_, rv_vi2 hb.1, Rz.castP (Rz.zero _) hb.2, bel⟩)
                          · first
                            | (exfalso; omega)
                            | (refine E.opv hF (r_bin (hF.at 0 rfl) ev_c eg_scalar (bi_int (ic_lss (c := false) (dec_ff hc16)) (by simp))) rfl rfl rfl rfl fun a hF => ?_
                               refine E.opv hF (r_move (hF.at 0 rfl)) rfl rfl rfl rfl fun a hF => ?_
                               refine E.opvg hF (r_move (hF.at 12 rfl)) (wanted_by rfl rfl (hF.at 0 rfl) rfl) rfl rfl rfl fun a hF => ?_
                               refine E.opvg hF (r_move (hF.at 10 rfl)) (wanted_by rfl rfl (hF.at 1 rfl) rfl) rfl rfl rfl fun a hF => ?_
                               refine E.opvg hF (r_ixv (hF.at 1 rfl) (hF.at 0 rfl) (ixs (xs := xs) (j := j) Try.underlying9 (by omega) (by omega) h8)) (wanted_by rfl rfl (hF.at 2 rfl) rfl) rfl rfl rfl fun a hF => ?_
                               by_cases hc18 : 57 < ((lg (xs) j : Nat) : Int)
                               · first
                                 | (exfalso; omega)
                                 | (refine E.opvg hF (r_bin (hF.at 0 rfl) ev_c eg_scalar (bi_int (ic_gtr (c := true) (dec_tt hc18)) (by simp))) (wanted_by rfl rfl (hF.at 3 rfl) rfl) rfl rfl rfl fun a hF => ?_
                                    refine E.opv hF (r_pick_f (hF.at 4 rfl) (hF.at 0 rfl)) rfl rfl rfl rfl fun a hF => ?_
                                    refine E.nil ?_
                                    refine wp_cond_true (hF.at 0 rfl) ?_
                                    refine wp_seq ?_
                                    refine E.seq ?_
                                    refine E.opv hF (r_build (by simp) (bd_RInt_ _)) rfl rfl rfl rfl fun a hF => ?_
                                    obtain ⟨w19, hr, tu, on⟩ := st_RInt (vs := [.bool false, .slice none 0 0]) o2 rfl rfl (ocB (ocS oc0)) (niB (niS ni0)) (o := 0) rfl
                                    have kp := tu.keep o2
                                    refine E.st hF (r_store (hF.at 17 rfl) (hF.at 0 rfl) (hr _ rfl)) rfl rfl fun a hF => ?_
                                    clear hr
                                    replace hz0 := hz0.keep kp
                                    replace bel := tu.below bel ge2
                                    replace sty := sty.turned tu (.inl (by simp))
                                    clear tu kp
                                    replace o2 := on
                                    clear on
                                    refine E.opv hF (r_assign ev_c) rfl rfl rfl rfl fun a hF => ?_
                                    refine E.nil ?_
                                    refine wp_ret ?_
                                    refine bodyPost_ret (res_celltmp Try.results21 (hF.at 18 rfl) (ld_RInt (vs := [.bool false, .slice none 0 0]) o2 rfl rfl) (hF.at 0 rfl)) hF.dfr ?_
                                    have hb := rbad hbd (fun e => e) (.inr (.inr (.inr ⟨j, hjn, by omega⟩)))
                                    exact ⟨_, rv_vi2 hb.1, Rz.castP (Rz.zero _) hb.2, bel⟩)
                               · first
                                 | (exfalso; omega)
                                 | (refine E.opvg hF (r_bin (hF.at 0 rfl) ev_c eg_scalar (bi_int (ic_gtr (c := false) (dec_ff hc18)) (by simp))) (wanted_by rfl rfl (hF.at 3 rfl) rfl) rfl rfl rfl fun a hF => ?_
                                    refine E.opv hF (r_pick_f (hF.at 4 rfl) (hF.at 0 rfl)) rfl rfl rfl rfl fun a hF => ?_
                                    refine E.nil ?_
                                    refine wp_cond_false (hF.at 0 rfl) ?_
                                    refine wp_skip ?_
                                    refine E.blk ?_
                                    refine E.norm ?_
                                    refine E.seq ?_
                                    refine E.opv hF (r_move (hF.at 14 rfl)) rfl rfl rfl rfl fun a hF => ?_
                                    refine E.opv hF (r_bin (hF.at 0 rfl) ev_c eg_scalar (ia_add (by omega) (by omega))) rfl rfl rfl rfl fun a hF => ?_
                                    refine E.opset (L' := [(5, .int .i64 (((j : Nat) : Int) + 1)), (44, .int .i64 (((j : Nat) : Int) + 1)), (43, .int .i64 ((j : Nat) : Int)), (54, .bool false), (53, .bool false), (52, .int .u8 ((lg (xs) j : Nat) : Int)), (51, .int .i64 ((j : Nat) : Int)), (50, .string (bstr xs)), (49, .bool false), (48, .bool false), (47, .int .u8 ((lg (xs) j : Nat) : Int)), (46, .int .i64 ((j : Nat) : Int)), (45, .string (bstr xs)), (42, .bool true), (41, .int .i64 ((List.length (xs) : Nat) : Int)), (40, .string (bstr xs)), (39, .int .i64 ((j : Nat) : Int)), (4, .bool false), (2, .pointer (some ⟨g2, 0, none⟩)), (0, .string (bstr xs))]) hF (r_assign (hF.at 0 rfl)) rfl rfl rfl rfl fun a hF => ?_
                                    refine E.nil0 ?_
                                    refine E.norm ?_
                                    exact ⟨xs.length - (j + 1), by omega, ⟨(j + 1), (by omega), (dg_more hd ⟨by omega, by omega⟩), (by rw [show ((j + 1 : Nat) : Int) = ((j : Nat) : Int) + 1 from by omega]; exact Fr.sub (L' := [(5, .int .i64 (((j : Nat) : Int) + 1)), (4, .bool false), (2, .pointer (some ⟨g2, 0, none⟩)), (0, .string (bstr xs))]) hF (by intro p hp; simp only [List.mem_cons, List.not_mem_nil, or_false] at hp ⊢; rcases hp with rfl | rfl | rfl | rfl <;> simp)), sty, bel, o2, hz0, rfl⟩⟩))
                        · refine wp_seq ?_
                          refine wp_seq ?_
                          refine E.seq ?_
                          refine E.opv hF (r_move (hF.at 0 rfl)) rfl rfl rfl rfl fun a hF => ?_
                          refine E.opv hF (r_move (hF.at 4 rfl)) rfl rfl rfl rfl fun a hF => ?_
                          refine E.opv hF (r_builtin (map1 (hF.at 0 rfl)) (bl_str Try.underlying9)) rfl rfl rfl rfl fun a hF => ?_
                          refine E.opv hF (r_bin (hF.at 2 rfl) (hF.at 0 rfl) eg_scalar (bi_int (ic_lss (c := false) (dec_ff (by omega))) (by simp))) rfl rfl rfl rfl fun a hF => ?_
                          refine E.nil ?_
                          refine wp_cond_false (hF.at 0 rfl) ?_
                          refine wp_exit ?_
                          refine E.past ?_
                          refine E.past ?_
                          refine E.out (id := 0) ?_
                          refine E.norm ?_
                          refine wp_seq ?_
                          refine wp_seq ?_
                          refine E.seq ?_
                          refine E.opv hF (r_move (hF.at 7 rfl)) rfl rfl rfl rfl fun a hF => ?_
                          refine E.opv hF (r_builtin (map1 (hF.at 0 rfl)) (bl_str Try.underlying9)) rfl rfl rfl rfl fun a hF => ?_
                          by_cases hc16 : 1000 < ((List.length (xs) : Nat) : Int)
                          · first
                            | (exfalso; omega)
                            | (refine E.opv hF (r_bin (hF.at 0 rfl) ev_c eg_scalar (bi_int (ic_gtr (c := true) (dec_tt hc16)) (by simp))) rfl rfl rfl rfl fun a hF => ?_
                               refine E.nil ?_
                               refine wp_cond_true (hF.at 0 rfl) ?_
                               refine wp_seq ?_
                               refine E.seq ?_
                               refine E.opv hF (r_build (by simp) (bd_RInt_ _)) rfl rfl rfl rfl fun a hF => ?_
                               obtain ⟨w17, hr, tu, on⟩ := st_RInt (vs := [.bool false, .slice none 0 0]) o2 rfl rfl (ocB (ocS oc0)) (niB (niS ni0)) (o := 0) rfl
                               have kp := tu.keep o2
                               refine E.st hF (r_store (hF.at 10 rfl) (hF.at 0 rfl) (hr _ rfl)) rfl rfl fun a hF => ?_
                               clear hr
                               replace hz0 := hz0.keep kp
                               replace bel := tu.below bel ge2
                               clear tu kp
                               replace o2 := on
                               clear on
                               refine E.opv hF (r_assign ev_c) rfl rfl rfl rfl fun a hF => ?_
                               refine E.nil ?_
                               refine wp_ret ?_
                               refine bodyPost_ret (res_celltmp Try.results21 (hF.at 11 rfl) (ld_RInt (vs := [.bool false, .slice none 0 0]) o2 rfl rfl) (hF.at 0 rfl)) hF.dfr ?_
                               have hg := rgood hbd (by omega) (by omega) (fun e => e) (fun i hi => hd i (by omega))
                               have hb := pe_5 hg (by rw [hbd]; omega)
                               exact ⟨_, rv_vi2 hb.1, Rz.castP (Rz.zero _) hb.2, bel⟩)
                          · first
                            | (exfalso; omega)
                            | (refine E.opv hF (r_bin (hF.at 0 rfl) ev_c eg_scalar (bi_int (ic_gtr (c := false) (dec_ff hc16)) (by simp))) rfl rfl rfl rfl fun a hF => ?_
                               refine E.nil ?_
                               refine wp_cond_false (hF.at 0 rfl) ?_
                               refine wp_skip ?_
                               refine E.norm ?_
                               refine wp_seq ?_
                               refine E.seq ?_
                               obtain ⟨vv18, w19, hr, bb, hh20⟩ := num0p w15
                               refine E.opv hF (r_buildSlice (by simp) hr) rfl rfl rfl rfl fun a hF => ?_
                               clear hr
                               replace hz0 := hz0.below bb
                               replace o2 := o2.below bb
                               replace bel := below_to bel bb
                               clear bb
                               obtain ⟨ad21, n21, c21, rfl⟩ := Dg.form hh20
                               refine E.opv hF (r_assign (hF.at 0 rfl)) rfl rfl rfl rfl fun a hF => ?_
                               refine E.nil ?_
                               refine wp_seq ?_
                               refine wp_seq ?_
                               refine E.seq ?_
                               refine E.opv hF (r_assign ev_c) rfl rfl rfl rfl fun a hF => ?_
                               refine E.nil ?_
                               refine wp_block ?_
                               have hjl0 : j = xs.length := by omega
                               have hdA : ∀ i, i < xs.length → 48 ≤ lg xs i ∧ lg xs i ≤ 57 := fun i hi => hd i (by omega)
                               skip
                               refine E.loop (fun mq a wv => ∃ (j : Nat) (sa : Option Addr) (sn : Nat) (sc : Nat), j ≤ xs.length ∧ Fr 79 a [(7, .int .i64 ((j : Nat) : Int)), (6, .slice sa sn sc), (4, .bool false), (2, .pointer (some ⟨g2, 0, none⟩)), (0, .string (bstr xs))] ∧ Below w19.heap.size w19 wv ∧ Below w.heap.size w wv ∧ Dg wv .i64 65536 (.slice sa sn sc) (dv xs j) ∧ mq = xs.length - j) (xs.length - 0) ?_ ?_
                               · exact ⟨0, ad21, n21, c21, (Nat.zero_le _), Fr.sub (L' := [(7, .int .i64 ((0 : Nat) : Int)), (6, .slice ad21 n21 c21), (4, .bool false), (2, .pointer (some ⟨g2, 0, none⟩)), (0, .string (bstr xs))]) hF (by intro p hp; simp only [List.mem_cons, List.not_mem_nil, or_false] at hp ⊢; rcases hp with rfl | rfl | rfl | rfl | rfl <;> simp), Below.refl _ _, bel, hh20, rfl⟩
                               · rintro mq a w22 ⟨j, sa, sn, sc, hj, hF, sty, bel, hx, hm⟩
                                 replace hz0 := hz0.below sty
                                 replace o2 := o2.below sty
                                 by_cases hjn : j < xs.length
                                 · have hdj := hdA j hjn
                                   have hXl := dv_lim (B := xs) (j := j) (fun i hi => hdA i (by omega)) (by omega)
                                   have hadd : dl 65536 (dv xs j * 10) ≤ 1000000 ∧ dl 65536 (lg xs j - 48) ≤ 1000000 := ⟨(show Lim (dv xs j * 10) (106 + 1) from Lim.mul hXl (Lim.of32 (by decide))).dh _ (by decide), (show Lim (lg xs j - 48) 1 from Lim.of32 (by omega)).dh _ (by decide)⟩
                                   refine wp_seq ?_
                                   refine wp_seq ?_
                                   refine E.seq ?_
                                   refine E.opv hF (r_move (hF.at 0 rfl)) rfl rfl rfl rfl fun a hF => ?_
                                   refine E.opv hF (r_move (hF.at 5 rfl)) rfl rfl rfl rfl fun a hF => ?_
                                   refine E.opv hF (r_builtin (map1 (hF.at 0 rfl)) (bl_str Try.underlying9)) rfl rfl rfl rfl fun a hF => ?_
                                   refine E.opv hF (r_bin (hF.at 2 rfl) (hF.at 0 rfl) eg_scalar (bi_int (ic_lss (c := true) (dec_tt (by omega))) (by simp))) rfl rfl rfl rfl fun a hF => ?_
                                   refine E.nil ?_
                                   refine wp_cond_true (hF.at 0 rfl) ?_
                                   refine wp_skip ?_
                                   refine E.norm ?_
                                   refine wp_seq ?_
                                   refine wp_block ?_
                                   refine E.drawn 9 mixed hF [67, 68, 69, 70, 71, 72, 73, 74, 75] [(fun _ v => v = .slice sa sn sc), (fun w v => Dg w .i64 65536 v ((dv xs j) * 10)), (fun _ v => v = .string (bstr xs)), (fun _ v => v = .int .i64 ((j : Nat) : Int)), (fun _ v => v = .int .u8 ((lg (xs) j : Nat) : Int)), (fun _ v => v = .int .u8 (((lg (xs) j : Nat) : Int) - 48)), (fun _ v => v = .int .i64 (((lg (xs) j : Nat) : Int) - 48)), (fun w v => Dg w .i64 65536 v ((lg xs j - 48))), (fun w v => Dg w .i64 65536 v (((dv xs j) * 10) + ((lg xs j - 48))))] [] (by decide +kernel) (by decide +kernel) rfl rfl rfl ⟨(Mb.eq _), (fun _ _ _ h hb => h.below hb), (Mb.eq _), (Mb.eq _), (Mb.eq _), (Mb.eq _), (Mb.eq _), (fun _ _ _ h hb => h.below hb), (fun _ _ _ h hb => h.below hb), trivial⟩ trivial ⟨?_, ?_, ?_, ?_, ?_, ?_, ?_, ?_, ?_, trivial⟩ ?_
                                   · intro a' w' hF' hb hd
                                     exact if_does (wanted_free rfl) (Does.vals (r_move (hF'.at 5 rfl)) ⟨rfl, Below.refl _ _, (fun h => absurd h (by decide))⟩)
                                   · intro a' w' hF' hb hd
                                     have e67 : a'.tmps.getD 67 undef = .slice sa sn sc := hd _ 67 (Array.mem_of_getElem? (i := 0) rfl) rfl rfl
                                     refine if_does (wanted_free rfl) (Does.calls (r_call Try.func55 en55.1 en55.2 (map3 e67 ev_c ev_c)) (stimes10 _ (dv xs j) _ (hx.below hb) (Lim.dh hXl _ (by omega))) ?_)
                                     rintro e w'' ⟨v', rfl, h', bb⟩
                                     exact ⟨_, rfl, h', bb, (fun h => absurd h (by decide))⟩
                                   · intro a' w' hF' hb hd
                                     exact if_does (wanted_free rfl) (Does.vals (r_move (hF'.at 8 rfl)) ⟨rfl, Below.refl _ _, (fun h => absurd h (by decide))⟩)
                                   · intro a' w' hF' hb hd
                                     exact if_does (wanted_free rfl) (Does.vals (r_move (hF'.at 4 rfl)) ⟨rfl, Below.refl _ _, (fun h => absurd h (by decide))⟩)
                                   · intro a' w' hF' hb hd
                                     have e69 : a'.tmps.getD 69 undef = .string (bstr xs) := hd _ 69 (Array.mem_of_getElem? (i := 0) rfl) rfl rfl
                                     have e70 : a'.tmps.getD 70 undef = .int .i64 ((j : Nat) : Int) := hd _ 70 (Array.mem_of_getElem? (i := 1) rfl) rfl rfl
                                     exact if_does (wanted_free rfl) (Does.vals (r_ixv e69 e70 (ixs (xs := xs) (j := j) Try.underlying9 (by omega) (by omega) h8)) ⟨rfl, Below.refl _ _, (fun h => absurd h (by decide))⟩)
                                   · intro a' w' hF' hb hd
                                     have e71 : a'.tmps.getD 71 undef = .int .u8 ((lg (xs) j : Nat) : Int) := hd _ 71 (Array.mem_of_getElem? (i := 0) rfl) rfl rfl
                                     exact if_does (wanted_free rfl) (Does.vals (r_bin e71 ev_c eg_scalar (iw_sub (a := ((lg (xs) j : Nat) : Int)) (b := 48) (w_u8 (by omega) (by omega)))) ⟨rfl, Below.refl _ _, (fun h => absurd h (by decide))⟩)
                                   · intro a' w' hF' hb hd
                                     have e72 : a'.tmps.getD 72 undef = .int .u8 (((lg (xs) j : Nat) : Int) - 48) := hd _ 72 (Array.mem_of_getElem? (i := 0) rfl) rfl rfl
                                     exact if_does (wanted_free rfl) (Does.vals (r_conv e72 (cv_kind (k' := .i64) Try.underlying5 Try.underlying3 (w_i64 (by omega) (by omega)))) ⟨rfl, Below.refl _ _, (fun h => absurd h (by decide))⟩)
                                   · intro a' w' hF' hb hd
                                     have e73 : a'.tmps.getD 73 undef = .int .i64 (((lg (xs) j : Nat) : Int) - 48) := hd _ 73 (Array.mem_of_getElem? (i := 0) rfl) rfl rfl
                                     refine if_does (wanted_free rfl) (Does.calls (r_call Try.func56 en56.1 en56.2 (map1 e73)) (sOf_int _ (lg xs j - 48) _ (by omega) (by omega)) ?_)
                                     rintro e w'' ⟨v', rfl, h', bb⟩
                                     exact ⟨_, rfl, h', bb, (fun h => absurd h (by decide))⟩
                                   · intro a' w' hF' hb hd
                                     obtain ⟨v68_0, e68, h68_1⟩ : ∃ v, a'.tmps.getD 68 undef = v ∧ Dg w' .i64 65536 v ((dv xs j) * 10) := ⟨_, rfl, hd _ 68 (Array.mem_of_getElem? (i := 0) rfl) rfl rfl⟩
                                     obtain ⟨v74_0, e74, h74_1⟩ : ∃ v, a'.tmps.getD 74 undef = v ∧ Dg w' .i64 65536 v ((lg xs j - 48)) := ⟨_, rfl, hd _ 74 (Array.mem_of_getElem? (i := 1) rfl) rfl rfl⟩
                                     refine if_does (wanted_free rfl) (Does.calls (r_call Try.func54 en54.1 en54.2 (map2 e68 e74)) (sadd_any _ _ ((dv xs j) * 10) ((lg xs j - 48)) _ h68_1 h74_1 hadd) ?_)
                                     rintro e w'' ⟨v', rfl, h', bb⟩
                                     exact ⟨_, rfl, h', bb, (fun h => absurd h (by decide))⟩
                                   intro a w23 hF bb hall hne
                                   obtain ⟨vv24, e75, hh25⟩ : ∃ v, a.tmps.getD 75 undef = v ∧ Dg w23 .i64 65536 v (((dv xs j) * 10) + ((lg xs j - 48))) := ⟨_, rfl, hall 8 75 rfl⟩
                                   clear hall hne
                                   replace hx := hx.below bb
                                   replace hz0 := hz0.below bb
                                   replace o2 := o2.below bb
                                   replace sty := below_to sty bb
                                   replace bel := below_to bel bb
                                   clear bb
                                   obtain ⟨ad26, n26, c26, rfl⟩ := Dg.form hh25
                                   replace hF := hF.add e75
                                   clear e75
                                   refine E.opset (L' := [(6, .slice ad26 n26 c26), (75, .slice ad26 n26 c26), (64, .bool true), (63, .int .i64 ((List.length (xs) : Nat) : Int)), (62, .string (bstr xs)), (61, .int .i64 ((j : Nat) : Int)), (7, .int .i64 ((j : Nat) : Int)), (4, .bool false), (2, .pointer (some ⟨g2, 0, none⟩)), (0, .string (bstr xs))]) hF (r_assign (hF.at 0 rfl)) rfl rfl rfl rfl fun a hF => ?_
                                   refine E.nil0 ?_
                                   refine E.blk ?_
                                   refine E.norm ?_
                                   refine E.seq ?_
                                   refine E.opv hF (r_move (hF.at 6 rfl)) rfl rfl rfl rfl fun a hF => ?_
                                   refine E.opv hF (r_bin (hF.at 0 rfl) ev_c eg_scalar (ia_add (by omega) (by omega))) rfl rfl rfl rfl fun a hF => ?_
                                   refine E.opset (L' := [(7, .int .i64 (((j : Nat) : Int) + 1)), (66, .int .i64 (((j : Nat) : Int) + 1)), (65, .int .i64 ((j : Nat) : Int)), (6, .slice ad26 n26 c26), (75, .slice ad26 n26 c26), (64, .bool true), (63, .int .i64 ((List.length (xs) : Nat) : Int)), (62, .string (bstr xs)), (61, .int .i64 ((j : Nat) : Int)), (4, .bool false), (2, .pointer (some ⟨g2, 0, none⟩)), (0, .string (bstr xs))]) hF (r_assign (hF.at 0 rfl)) rfl rfl rfl rfl fun a hF => ?_
                                   refine E.nil0 ?_
                                   refine E.norm ?_
                                   exact ⟨xs.length - (j + 1), by omega, ⟨(j + 1), ad26, n26, c26, (by omega), (by rw [show ((j + 1 : Nat) : Int) = ((j : Nat) : Int) + 1 from by omega]; exact Fr.sub (L' := [(7, .int .i64 (((j : Nat) : Int) + 1)), (6, .slice ad26 n26 c26), (4, .bool false), (2, .pointer (some ⟨g2, 0, none⟩)), (0, .string (bstr xs))]) hF (by intro p hp; simp only [List.mem_cons, List.not_mem_nil, or_false] at hp ⊢; rcases hp with rfl | rfl | rfl | rfl | rfl <;> simp)), sty, bel, hh25, rfl⟩⟩
                                 · have hjl : j = xs.length := by omega
                                   refine wp_seq ?_
                                   refine wp_seq ?_
                                   refine E.seq ?_
                                   refine E.opv hF (r_move (hF.at 0 rfl)) rfl rfl rfl rfl fun a hF => ?_
                                   refine E.opv hF (r_move (hF.at 5 rfl)) rfl rfl rfl rfl fun a hF => ?_
                                   refine E.opv hF (r_builtin (map1 (hF.at 0 rfl)) (bl_str Try.underlying9)) rfl rfl rfl rfl fun a hF => ?_
                                   refine E.opv hF (r_bin (hF.at 2 rfl) (hF.at 0 rfl) eg_scalar (bi_int (ic_lss (c := false) (dec_ff (by omega))) (by simp))) rfl rfl rfl rfl fun a hF => ?_
                                   refine E.nil ?_
                                   refine wp_cond_false (hF.at 0 rfl) ?_
                                   refine wp_exit ?_
                                   refine E.past ?_
                                   refine E.past ?_
                                   refine E.out (id := 2) ?_
                                   refine E.norm ?_
                                   refine wp_seq ?_
                                   refine E.seq ?_
                                   refine E.opv hF (r_move (hF.at 6 rfl)) rfl rfl rfl rfl fun a hF => ?_
                                   refine E.opv hF (r_move (hF.at 6 rfl)) rfl rfl rfl rfl fun a hF => ?_
                                   refine E.call hF (r_call Try.func43 en43.1 en43.2 (map2 (hF.at 1 rfl) (hF.at 0 rfl))) (rmake_any _ _ (dv xs j) _ hx) rfl rfl rfl rfl ?_
                                   rintro e w23 ⟨vv24, rfl, hh25, bb⟩
                                   refine ⟨_, rfl, ?_⟩
                                   intro a hF
                                   replace hz0 := hz0.below bb
                                   replace o2 := o2.below bb
                                   replace bel := below_to bel bb
                                   clear bb
                                   obtain ⟨b26, ad26, n26, c26, rfl⟩ := Rz.form hh25
                                   obtain ⟨w27, hr, tu, on⟩ := st_RInt (vs := [.bool b26, .slice ad26 n26 c26]) o2 rfl rfl (ocB (ocS oc0)) (niB (niS ni0)) (o := 0) rfl
                                   have kp := tu.keep o2
                                   refine E.st hF (r_store (hF.at 10 rfl) (hF.at 0 rfl) (hr _ rfl)) rfl rfl fun a hF => ?_
                                   clear hr
                                   replace hz0 := hz0.keep kp
                                   replace hh25 := hh25.keep kp
                                   replace bel := tu.below bel ge2
                                   clear tu kp
                                   replace o2 := on
                                   clear on
                                   have hf28 := Rz.abs hh25
                                   refine E.opv hF (r_assign ev_c) rfl rfl rfl rfl fun a hF => ?_
                                   refine E.nil ?_
                                   refine wp_ret ?_
                                   refine bodyPost_ret (res_celltmp Try.results21 (hF.at 11 rfl) (ld_RInt (vs := [.bool b26, .slice ad26 n26 c26]) o2 rfl rfl) (hF.at 0 rfl)) hF.dfr ?_
                                   have hg := rgood hbd (by omega) (by omega) (fun e => e) hdA
                                   have hb := pe_0 hg (by rw [hbd]; omega)
                                   rw [hng, hbd] at hb
                                   rw [hjl] at *
                                   exact ⟨_, rv_vi2 hb.1, Rz.castP hh25 hb.2, bel⟩)))
            · first
              | (exfalso; omega)
              | (refine E.opvg hF (r_bin (hF.at 0 rfl) ev_c eg_scalar (bi_int (ic_gtr (c := false) (dec_ff hc12)) (by simp))) (wanted_by rfl rfl (hF.at 2 rfl) rfl) rfl rfl rfl fun a hF => ?_
                 refine E.opvg hF (r_move (hF.at 0 rfl)) (wanted_by rfl rfl (hF.at 3 rfl) rfl) rfl rfl rfl fun a hF => ?_
                 refine E.unwanted hF (wanted_by rfl rfl (hF.at 0 rfl) rfl) rfl rfl rfl fun a hF => ?_
                 refine E.unwanted hF (wanted_by rfl rfl (hF.at 1 rfl) rfl) rfl rfl rfl fun a hF => ?_
                 refine E.unwanted hF (wanted_by rfl rfl (hF.at 2 rfl) rfl) rfl rfl rfl fun a hF => ?_
                 refine E.opvg hF (r_pick_f (hF.at 3 rfl) ev_c) (wanted_by rfl rfl (hF.at 7 rfl) rfl) rfl rfl rfl fun a hF => ?_
                 refine E.opv hF (r_pick_f (hF.at 8 rfl) (hF.at 0 rfl)) rfl rfl rfl rfl fun a hF => ?_
                 refine E.opv hF (r_move (hF.at 0 rfl)) rfl rfl rfl rfl fun a hF => ?_
                 refine E.opvg hF (r_move (hF.at 22 rfl)) (wanted_by rfl rfl (hF.at 0 rfl) rfl) rfl rfl rfl fun a hF => ?_
                 refine E.opvg hF (r_move (hF.at 0 rfl)) (wanted_by rfl rfl (hF.at 1 rfl) rfl) rfl rfl rfl fun a hF => ?_
                 refine E.unwanted hF (wanted_by rfl rfl (hF.at 0 rfl) rfl) rfl rfl rfl fun a hF => ?_
                 refine E.unwanted hF (wanted_by rfl rfl (hF.at 1 rfl) rfl) rfl rfl rfl fun a hF => ?_
                 refine E.opvg hF (r_pick_f (hF.at 2 rfl) ev_c) (wanted_by rfl rfl (hF.at 4 rfl) rfl) rfl rfl rfl fun a hF => ?_
                 refine E.opv hF (r_pick_f (hF.at 5 rfl) (hF.at 0 rfl)) rfl rfl rfl rfl fun a hF => ?_
                 refine E.nil ?_
                 refine wp_cond_false (hF.at 0 rfl) ?_
                 refine wp_skip ?_
                 refine E.norm ?_
                 refine wp_seq ?_
                 refine wp_seq ?_
                 refine E.seq ?_
                 refine E.opv hF (r_assign ev_c) rfl rfl rfl rfl fun a hF => ?_
                 refine E.nil ?_
                 refine wp_block ?_
                 have nint := nn1 o2.noInt
                 refine E.loop (fun mq a wv => ∃ (j : Nat), j ≤ xs.length ∧ (∀ i, i < j → 48 ≤ lg xs i ∧ lg xs i ≤ 57) ∧ Fr 79 a [(5, .int .i64 ((j : Nat) : Int)), (4, .bool false), (2, .pointer (some ⟨g2, 0, none⟩)), (0, .string (bstr xs))] ∧ Stay [g2] w1 wv ∧ Below w.heap.size w wv ∧ Own wv g2 [.bool false, .slice none 0 0] ∧ Rz wv (.agg #[.bool false, .slice none 0 0]) 0 ∧ mq = xs.length - j) (xs.length - 0) ?_ ?_
                 · exact ⟨0, (Nat.zero_le _), (fun i hi => absurd hi (by omega)), hF.sub (by intro p hp; simp only [List.mem_cons, List.not_mem_nil, or_false] at hp ⊢; rcases hp with rfl | rfl | rfl | rfl <;> simp), Stay.refl _ _, bel, o2, (Rz.zero _), rfl⟩
                 · rintro mq a w16 ⟨j, hj, hd, hF, sty, bel, o2, hz0, hm⟩
                   have kps := sty.keep nint
                   clear kps
                   by_cases hjn : j < xs.length
                   · refine wp_seq ?_
                     refine wp_seq ?_
                     refine E.seq ?_
                     refine E.opv hF (r_move (hF.at 0 rfl)) rfl rfl rfl rfl fun a hF => ?_
                     refine E.opv hF (r_move (hF.at 4 rfl)) rfl rfl rfl rfl fun a hF => ?_
                     refine E.opv hF (r_builtin (map1 (hF.at 0 rfl)) (bl_str Try.underlying9)) rfl rfl rfl rfl fun a hF => ?_
                     refine E.opv hF (r_bin (hF.at 2 rfl) (hF.at 0 rfl) eg_scalar (bi_int (ic_lss (c := true) (dec_tt (by omega))) (by simp))) rfl rfl rfl rfl fun a hF => ?_
                     refine E.nil ?_
                     refine wp_cond_true (hF.at 0 rfl) ?_
                     refine wp_skip ?_
                     refine E.norm ?_
                     refine wp_seq ?_
                     refine wp_block ?_
                     refine wp_seq ?_
                     refine E.seq ?_
                     refine E.opv hF (r_move (hF.at 7 rfl)) rfl rfl rfl rfl fun a hF => ?_
                     refine E.opv hF (r_move (hF.at 5 rfl)) rfl rfl rfl rfl fun a hF => ?_
                     refine E.opv hF (r_ixv (hF.at 1 rfl) (hF.at 0 rfl) (ixs (xs := xs) (j := j) Try.underlying9 (by omega) (by omega) h8)) rfl rfl rfl rfl fun a hF => ?_
                     by_cases hc17 : ((lg (xs) j : Nat) : Int) < 48
                     · first
                       | (exfalso; omega)
                       | (refine E.opv hF (r_bin (hF.at 0 rfl) ev_c eg_scalar (bi_int (ic_lss (c := true) (dec_tt hc17)) (by simp))) rfl rfl rfl rfl fun a hF => ?_
                          refine E.opv hF (r_move (hF.at 0 rfl)) rfl rfl rfl rfl fun a hF => ?_
                          refine E.unwanted hF (wanted_by rfl rfl (hF.at 0 rfl) rfl) rfl rfl rfl fun a hF => ?_
                          refine E.unwanted hF (wanted_by rfl rfl (hF.at 1 rfl) rfl) rfl rfl rfl fun a hF => ?_
                          refine E.unwanted hF (wanted_by rfl rfl (hF.at 2 rfl) rfl) rfl rfl rfl fun a hF => ?_
                          refine E.unwanted hF (wanted_by rfl rfl (hF.at 3 rfl) rfl) rfl rfl rfl fun a hF => ?_
                          refine E.opv hF (r_pick_t (hF.at 4 rfl) ev_c) rfl rfl rfl rfl fun a hF => ?_
                          refine E.nil ?_
                          refine wp_cond_true (hF.at 0 rfl) ?_
                          refine wp_seq ?_
                          refine E.seq ?_
                          refine E.opv hF (r_build (by simp) (bd_RInt_ _)) rfl rfl rfl rfl fun a hF => ?_
                          obtain ⟨w18, hr, tu, on⟩ := st_RInt (vs := [.bool false, .slice none 0 0]) o2 rfl rfl (ocB (ocS oc0)) (niB (niS ni0)) (o := 0) rfl
                          have kp := tu.keep o2
                          refine E.st hF (r_store (hF.at 17 rfl) (hF.at 0 rfl) (hr _ rfl)) rfl rfl fun a hF => ?_
                          clear hr
                          replace hz0 := hz0.keep kp
                          replace bel := tu.below bel ge2
                          replace sty := sty.turned tu (.inl (by simp))
                          clear tu kp
                          replace o2 := on
                          clear on
                          refine E.opv hF (r_assign ev_c) rfl rfl rfl rfl fun a hF => ?_
                          refine E.nil ?_
                          refine wp_ret ?_
                          refine bodyPost_ret (res_celltmp Try.results21 (hF.at 18 rfl) (ld_RInt (vs := [.bool false, .slice none 0 0]) o2 rfl rfl) (hF.at 0 rfl)) hF.dfr ?_
                          have hb := rbad hbd (fun e => e) (.inr (.inr (.inr ⟨j, hjn, by omega⟩)))
                          exact ⟨_, rv_vi2 hb.1, Rz.castP (Rz.zero _) hb.2, bel⟩)
                     · first
                       | (exfalso; omega)
                       | (refine E.opv hF (r_bin (hF.at 0 rfl) ev_c eg_scalar (bi_int (ic_lss (c := false) (dec_ff hc17)) (by simp))) rfl rfl rfl rfl fun a hF => ?_
                          refine E.opv hF (r_move (hF.at 0 rfl)) rfl rfl rfl rfl fun a hF => ?_
                          refine E.opvg hF (r_move (hF.at 12 rfl)) (wanted_by rfl rfl (hF.at 0 rfl) rfl) rfl rfl rfl fun a hF => ?_
                          refine E.opvg hF (r_move (hF.at 10 rfl)) (wanted_by rfl rfl (hF.at 1 rfl) rfl) rfl rfl rfl fun a hF => ?_
                          refine E.opvg hF (r_ixv (hF.at 1 rfl) (hF.at 0 rfl) (ixs (xs := xs) (j := j) Try.underlying9 (by omega) (by omega) h8)) (wanted_by rfl rfl (hF.at 2 rfl) rfl) rfl rfl rfl fun a hF => ?_
                          by_cases hc19 : 57 < ((lg (xs) j : Nat) : Int)
                          · first
                            | (exfalso; omega)
                            | (refine E.opvg hF (r_bin (hF.at 0 rfl) ev_c eg_scalar (bi_int (ic_gtr (c := true) (dec_tt hc19)) (by simp))) (wanted_by rfl rfl (hF.at 3 rfl) rfl) rfl rfl rfl fun a hF => ?_
                               refine E.opv hF (r_pick_f (hF.at 4 rfl) (hF.at 0 rfl)) rfl rfl rfl rfl fun a hF => ?_
                               refine E.nil ?_
                               refine wp_cond_true (hF.at 0 rfl) ?_
                               refine wp_seq ?_
                               refine E.seq ?_
                               refine E.opv hF (r_build (by simp) (bd_RInt_ _)) rfl rfl rfl rfl fun a hF => ?_
                               obtain ⟨w20, hr, tu, on⟩ := st_RInt (vs := [.bool false, .slice none 0 0]) o2 rfl rfl (ocB (ocS oc0)) (niB (niS ni0)) (o := 0) rfl
                               have kp := tu.keep o2
                               refine E.st hF (r_store (hF.at 17 rfl) (hF.at 0 rfl) (hr _ rfl)) rfl rfl fun a hF => ?_
                               clear hr
                               replace hz0 := hz0.keep kp
                               replace bel := tu.below bel ge2
                               replace sty := sty.turned tu (.inl (by simp))
                               clear tu kp
                               replace o2 := on
                               clear on
                               refine E.opv hF (r_assign ev_c) rfl rfl rfl rfl fun a hF => ?_
                               refine E.nil ?_
                               refine wp_ret ?_
                               refine bodyPost_ret (res_celltmp Try.results21 (hF.at 18 rfl) (ld_RInt (vs := [.bool false, .slice none 0 0]) o2 rfl rfl) (hF.at 0 rfl)) hF.dfr ?_
                               have hb := rbad hbd (fun e => e) (.inr (.inr (.inr ⟨j, hjn, by omega⟩)))
                               exact ⟨_, rv_vi2 hb.1, Rz.castP (Rz.zero _) hb.2, bel⟩)
                          · first
                            | (exfalso; omega)
                            | (refine E.opvg hF (r_bin (hF.at 0 rfl) ev_c eg_scalar (bi_int (ic_gtr (c := false) (dec_ff hc19)) (by simp))) (wanted_by rfl rfl (hF.at 3 rfl) rfl) rfl rfl rfl fun a hF => ?_
                               refine E.opv hF (r_pick_f (hF.at 4 rfl) (hF.at 0 rfl)) rfl rfl rfl rfl fun a hF => ?_
                               refine E.nil ?_
                               refine wp_cond_false (hF.at 0 rfl) ?_
                               refine wp_skip ?_
                               refine E.blk ?_
                               refine E.norm ?_
                               refine E.seq ?_
                               refine E.opv hF (r_move (hF.at 14 rfl)) rfl rfl rfl rfl fun a hF => ?_
                               refine E.opv hF (r_bin (hF.at 0 rfl) ev_c eg_scalar (ia_add (by omega) (by omega))) rfl rfl rfl rfl fun a hF => ?_
                               refine E.opset (L' := [(5, .int .i64 (((j : Nat) : Int) + 1)), (44, .int .i64 (((j : Nat) : Int) + 1)), (43, .int .i64 ((j : Nat) : Int)), (54, .bool false), (53, .bool false), (52, .int .u8 ((lg (xs) j : Nat) : Int)), (51, .int .i64 ((j : Nat) : Int)), (50, .string (bstr xs)), (49, .bool false), (48, .bool false), (47, .int .u8 ((lg (xs) j : Nat) : Int)), (46, .int .i64 ((j : Nat) : Int)), (45, .string (bstr xs)), (42, .bool true), (41, .int .i64 ((List.length (xs) : Nat) : Int)), (40, .string (bstr xs)), (39, .int .i64 ((j : Nat) : Int)), (4, .bool false), (2, .pointer (some ⟨g2, 0, none⟩)), (0, .string (bstr xs))]) hF (r_assign (hF.at 0 rfl)) rfl rfl rfl rfl fun a hF => ?_
                               refine E.nil0 ?_
                               refine E.norm ?_
                               exact ⟨xs.length - (j + 1), by omega, ⟨(j + 1), (by omega), (dg_more hd ⟨by omega, by omega⟩), (by rw [show ((j + 1 : Nat) : Int) = ((j : Nat) : Int) + 1 from by omega]; exact Fr.sub (L' := [(5, .int .i64 (((j : Nat) : Int) + 1)), (4, .bool false), (2, .pointer (some ⟨g2, 0, none⟩)), (0, .string (bstr xs))]) hF (by intro p hp; simp only [List.mem_cons, List.not_mem_nil, or_false] at hp ⊢; rcases hp with rfl | rfl | rfl | rfl <;> simp)), sty, bel, o2, hz0, rfl⟩⟩))
                   · refine wp_seq ?_
                     refine wp_seq ?_
                     refine E.seq ?_
                     refine E.opv hF (r_move (hF.at 0 rfl)) rfl rfl rfl rfl fun a hF => ?_
                     refine E.opv hF (r_move (hF.at 4 rfl)) rfl rfl rfl rfl fun a hF => ?_
                     refine E.opv hF (r_builtin (map1 (hF.at 0 rfl)) (bl_str Try.underlying9)) rfl rfl rfl rfl fun a hF => ?_
                     refine E.opv hF (r_bin (hF.at 2 rfl) (hF.at 0 rfl) eg_scalar (bi_int (ic_lss (c := false) (dec_ff (by omega))) (by simp))) rfl rfl rfl rfl fun a hF => ?_
                     refine E.nil ?_
                     refine wp_cond_false (hF.at 0 rfl) ?_
                     refine wp_exit ?_
                     refine E.past ?_
                     refine E.past ?_
                     refine E.out (id := 0) ?_
                     refine E.norm ?_
                     refine wp_seq ?_
                     refine wp_seq ?_
                     refine E.seq ?_
                     refine E.opv hF (r_move (hF.at 7 rfl)) rfl rfl rfl rfl fun a hF => ?_
                     refine E.opv hF (r_builtin (map1 (hF.at 0 rfl)) (bl_str Try.underlying9)) rfl rfl rfl rfl fun a hF => ?_
                     by_cases hc17 : 1000 < ((List.length (xs) : Nat) : Int)
                     · first
                       | (exfalso; omega)
                       | (refine E.opv hF (r_bin (hF.at 0 rfl) ev_c eg_scalar (bi_int (ic_gtr (c := true) (dec_tt hc17)) (by simp))) rfl rfl rfl rfl fun a hF => ?_
                          refine E.nil ?_
                          refine wp_cond_true (hF.at 0 rfl) ?_
                          refine wp_seq ?_
                          refine E.seq ?_
                          refine E.opv hF (r_build (by simp) (bd_RInt_ _)) rfl rfl rfl rfl fun a hF => ?_
                          obtain ⟨w18, hr, tu, on⟩ := st_RInt (vs := [.bool false, .slice none 0 0]) o2 rfl rfl (ocB (ocS oc0)) (niB (niS ni0)) (o := 0) rfl
                          have kp := tu.keep o2
                          refine E.st hF (r_store (hF.at 10 rfl) (hF.at 0 rfl) (hr _ rfl)) rfl rfl fun a hF => ?_
                          clear hr
                          replace hz0 := hz0.keep kp
                          replace bel := tu.below bel ge2
                          clear tu kp
                          replace o2 := on
                          clear on
                          refine E.opv hF (r_assign ev_c) rfl rfl rfl rfl fun a hF => ?_
                          refine E.nil ?_
                          refine wp_ret ?_
                          refine bodyPost_ret (res_celltmp Try.results21 (hF.at 11 rfl) (ld_RInt (vs := [.bool false, .slice none 0 0]) o2 rfl rfl) (hF.at 0 rfl)) hF.dfr ?_
                          have hg := rgood hbd (by omega) (by omega) (fun e => e) (fun i hi => hd i (by omega))
                          have hb := pe_5 hg (by rw [hbd]; omega)
                          exact ⟨_, rv_vi2 hb.1, Rz.castP (Rz.zero _) hb.2, bel⟩)
                     · first
                       | (exfalso; omega)
                       | (refine E.opv hF (r_bin (hF.at 0 rfl) ev_c eg_scalar (bi_int (ic_gtr (c := false) (dec_ff hc17)) (by simp))) rfl rfl rfl rfl fun a hF => ?_
                          refine E.nil ?_
                          refine wp_cond_false (hF.at 0 rfl) ?_
                          refine wp_skip ?_
                          refine E.norm ?_
                          refine wp_seq ?_
                          refine E.seq ?_
                          obtain ⟨vv19, w20, hr, bb, hh21⟩ := num0p w16
                          refine E.opv hF (r_buildSlice (by simp) hr) rfl rfl rfl rfl fun a hF => ?_
                          clear hr
                          replace hz0 := hz0.below bb
                          replace o2 := o2.below bb
                          replace bel := below_to bel bb
                          clear bb
                          obtain ⟨ad22, n22, c22, rfl⟩ := Dg.form hh21
                          refine E.opv hF (r_assign (hF.at 0 rfl)) rfl rfl rfl rfl fun a hF => ?_
                          refine E.nil ?_
                          refine wp_seq ?_
                          refine wp_seq ?_
                          refine E.seq ?_
                          refine E.opv hF (r_assign ev_c) rfl rfl rfl rfl fun a hF => ?_
                          refine E.nil ?_
                          refine wp_block ?_
                          have hjl0 : j = xs.length := by omega
                          have hdA : ∀ i, i < xs.length → 48 ≤ lg xs i ∧ lg xs i ≤ 57 := fun i hi => hd i (by omega)
                          skip
                          refine E.loop (fun mq a wv => ∃ (j : Nat) (sa : Option Addr) (sn : Nat) (sc : Nat), j ≤ xs.length ∧ Fr 79 a [(7, .int .i64 ((j : Nat) : Int)), (6, .slice sa sn sc), (4, .bool false), (2, .pointer (some ⟨g2, 0, none⟩)), (0, .string (bstr xs))] ∧ Below w20.heap.size w20 wv ∧ Below w.heap.size w wv ∧ Dg wv .i64 65536 (.slice sa sn sc) (dv xs j) ∧ mq = xs.length - j) (xs.length - 0) ?_ ?_
                          · exact ⟨0, ad22, n22, c22, (Nat.zero_le _), Fr.sub (L' := [(7, .int .i64 ((0 : Nat) : Int)), (6, .slice ad22 n22 c22), (4, .bool false), (2, .pointer (some ⟨g2, 0, none⟩)), (0, .string (bstr xs))]) hF (by intro p hp; simp only [List.mem_cons, List.not_mem_nil, or_false] at hp ⊢; rcases hp with rfl | rfl | rfl | rfl | rfl <;> simp), Below.refl _ _, bel, hh21, rfl⟩
                          · rintro mq a w23 ⟨j, sa, sn, sc, hj, hF, sty, bel, hx, hm⟩
                            replace hz0 := hz0.below sty
                            replace o2 := o2.below sty
                            by_cases hjn : j < xs.length
                            · have hdj := hdA j hjn
                              have hXl := dv_lim (B := xs) (j := j) (fun i hi => hdA i (by omega)) (by omega)
                              have hadd : dl 65536 (dv xs j * 10) ≤ 1000000 ∧ dl 65536 (lg xs j - 48) ≤ 1000000 := ⟨(show Lim (dv xs j * 10) (106 + 1) from Lim.mul hXl (Lim.of32 (by decide))).dh _ (by decide), (show Lim (lg xs j - 48) 1 from Lim.of32 (by omega)).dh _ (by decide)⟩
                              refine wp_seq ?_
                              refine wp_seq ?_
                              refine E.seq ?_
                              refine E.opv hF (r_move (hF.at 0 rfl)) rfl rfl rfl rfl fun a hF => ?_
                              refine E.opv hF (r_move (hF.at 5 rfl)) rfl rfl rfl rfl fun a hF => ?_
                              refine E.opv hF (r_builtin (map1 (hF.at 0 rfl)) (bl_str Try.underlying9)) rfl rfl rfl rfl fun a hF => ?_
                              refine E.opv hF (r_bin (hF.at 2 rfl) (hF.at 0 rfl) eg_scalar (bi_int (ic_lss (c := true) (dec_tt (by omega))) (by simp))) rfl rfl rfl rfl fun a hF => ?_
                              refine E.nil ?_
                              refine wp_cond_true (hF.at 0 rfl) ?_
                              refine wp_skip ?_
                              refine E.norm ?_
                              refine wp_seq ?_
                              refine wp_block ?_
                              refine E.drawn 9 mixed hF [67, 68, 69, 70, 71, 72, 73, 74, 75] [(fun _ v => v = .slice sa sn sc), (fun w v => Dg w .i64 65536 v ((dv xs j) * 10)), (fun _ v => v = .string (bstr xs)), (fun _ v => v = .int .i64 ((j : Nat) : Int)), (fun _ v => v = .int .u8 ((lg (xs) j : Nat) : Int)), (fun _ v => v = .int .u8 (((lg (xs) j : Nat) : Int) - 48)), (fun _ v => v = .int .i64 (((lg (xs) j : Nat) : Int) - 48)), (fun w v => Dg w .i64 65536 v ((lg xs j - 48))), (fun w v => Dg w .i64 65536 v (((dv xs j) * 10) + ((lg xs j - 48))))] [] (by decide +kernel) (by decide +kernel) rfl rfl rfl ⟨(Mb.eq _), (fun _ _ _ h hb => h.below hb), (Mb.eq _), (Mb.eq _), (Mb.eq _), (Mb.eq _), (Mb.eq _), (fun _ _ _ h hb => h.below hb), (fun _ _ _ h hb => h.below hb), trivial⟩ trivial ⟨?_, ?_, ?_, ?_, ?_, ?_, ?_, ?_, ?_, trivial⟩ ?_
                              · intro a' w' hF' hb hd
                                exact if_does (wanted_free rfl) (Does.vals (r_move (hF'.at 5 rfl)) ⟨rfl, Below.refl _ _, (fun h => absurd h (by decide))⟩)
                              · intro a' w' hF' hb hd
                                have e67 : a'.tmps.getD 67 undef = .slice sa sn sc := hd _ 67 (Array.mem_of_getElem? (i := 0) rfl) rfl rfl
                                refine if_does (wanted_free rfl) (Does.calls (r_call Try.func55 en55.1 en55.2 (map3 e67 ev_c ev_c)) (stimes10 _ (dv xs j) _ (hx.below hb) (Lim.dh hXl _ (by omega))) ?_)
                                rintro e w'' ⟨v', rfl, h', bb⟩
                                exact ⟨_, rfl, h', bb, (fun h => absurd h (by decide))⟩
                              · intro a' w' hF' hb hd
                                exact if_does (wanted_free rfl) (Does.vals (r_move (hF'.at 8 rfl)) ⟨rfl, Below.refl _ _, (fun h => absurd h (by decide))⟩)
                              · intro a' w' hF' hb hd
                                exact if_does (wanted_free rfl) (Does.vals (r_move (hF'.at 4 rfl)) ⟨rfl, Below.refl _ _, (fun h => absurd h (by decide))⟩)
                              · intro a' w' hF' hb hd
                                have e69 : a'.tmps.getD 69 undef = .string (bstr xs) := hd _ 69 (Array.mem_of_getElem? (i := 0) rfl) rfl rfl
                                have e70 : a'.tmps.getD 70 undef = .int .i64 ((j : Nat) : Int) := hd _ 70 (Array.mem_of_getElem? (i := 1) rfl) rfl rfl
                                exact if_does (wanted_free rfl) (Does.vals (r_ixv e69 e70 (ixs (xs := xs) (j := j) Try.underlying9 (by omega) (by omega) h8)) ⟨rfl, Below.refl _ _, (fun h => absurd h (by decide))⟩)
                              · intro a' w' hF' hb hd
                                have e71 : a'.tmps.getD 71 undef = .int .u8 ((lg (xs) j : Nat) : Int) := hd _ 71 (Array.mem_of_getElem? (i := 0) rfl) rfl rfl
                                exact if_does (wanted_free rfl) (Does.vals (r_bin e71 ev_c eg_scalar (iw_sub (a := ((lg (xs) j : Nat) : Int)) (b := 48) (w_u8 (by omega) (by omega)))) ⟨rfl, Below.refl _ _, (fun h => absurd h (by decide))⟩)
                              · intro a' w' hF' hb hd
                                have e72 : a'.tmps.getD 72 undef = .int .u8 (((lg (xs) j : Nat) : Int) - 48) := hd _ 72 (Array.mem_of_getElem? (i := 0) rfl) rfl rfl
                                exact if_does (wanted_free rfl) (Does.vals (r_conv e72 (cv_kind (k' := .i64) Try.underlying5 Try.underlying3 (w_i64 (by omega) (by omega)))) ⟨rfl, Below.refl _ _, (fun h => absurd h (by decide))⟩)
                              · intro a' w' hF' hb hd
                                have e73 : a'.tmps.getD 73 undef = .int .i64 (((lg (xs) j : Nat) : Int) - 48) := hd _ 73 (Array.mem_of_getElem? (i := 0) rfl) rfl rfl
                                refine if_does (wanted_free rfl) (Does.calls (r_call Try.func56 en56.1 en56.2 (map1 e73)) (sOf_int _ (lg xs j - 48) _ (by omega) (by omega)) ?_)
                                rintro e w'' ⟨v', rfl, h', bb⟩
                                exact ⟨_, rfl, h', bb, (fun h => absurd h (by decide))⟩
                              · intro a' w' hF' hb hd
                                obtain ⟨v68_0, e68, h68_1⟩ : ∃ v, a'.tmps.getD 68 undef = v ∧ Dg w' .i64 65536 v ((dv xs j) * 10) := ⟨_, rfl, hd _ 68 (Array.mem_of_getElem? (i := 0) rfl) rfl rfl⟩
                                obtain ⟨v74_0, e74, h74_1⟩ : ∃ v, a'.tmps.getD 74 undef = v ∧ Dg w' .i64 65536 v ((lg xs j - 48)) := ⟨_, rfl, hd _ 74 (Array.mem_of_getElem? (i := 1) rfl) rfl rfl⟩
                                refine if_does (wanted_free rfl) (Does.calls (r_call Try.func54 en54.1 en54.2 (map2 e68 e74)) (sadd_any _ _ ((dv xs j) * 10) ((lg xs j - 48)) _ h68_1 h74_1 hadd) ?_)
                                rintro e w'' ⟨v', rfl, h', bb⟩
                                exact ⟨_, rfl, h', bb, (fun h => absurd h (by decide))⟩
                              intro a w24 hF bb hall hne
                              obtain ⟨vv25, e75, hh26⟩ : ∃ v, a.tmps.getD 75 undef = v ∧ Dg w24 .i64 65536 v (((dv xs j) * 10) + ((lg xs j - 48))) := ⟨_, rfl, hall 8 75 rfl⟩
                              clear hall hne
                              replace hx := hx.below bb
                              replace hz0 := hz0.below bb
                              replace o2 := o2.below bb
                              replace sty := below_to sty bb
                              replace bel := below_to bel bb
                              clear bb
                              obtain ⟨ad27, n27, c27, rfl⟩ := Dg.form hh26
                              replace hF := hF.add e75
                              clear e75
                              refine E.opset (L' := [(6, .slice ad27 n27 c27), (75, .slice ad27 n27 c27), (64, .bool true), (63, .int .i64 ((List.length (xs) : Nat) : Int)), (62, .string (bstr xs)), (61, .int .i64 ((j : Nat) : Int)), (7, .int .i64 ((j : Nat) : Int)), (4, .bool false), (2, .pointer (some ⟨g2, 0, none⟩)), (0, .string (bstr xs))]) hF (r_assign (hF.at 0 rfl)) rfl rfl rfl rfl fun a hF => ?_
                              refine E.nil0 ?_
                              refine E.blk ?_
                              refine E.norm ?_
                              refine E.seq ?_
                              refine E.opv hF (r_move (hF.at 6 rfl)) rfl rfl rfl rfl fun a hF => ?_
                              refine E.opv hF (r_bin (hF.at 0 rfl) ev_c eg_scalar (ia_add (by omega) (by omega))) rfl rfl rfl rfl fun a hF => ?_
                              refine E.opset (L' := [(7, .int .i64 (((j : Nat) : Int) + 1)), (66, .int .i64 (((j : Nat) : Int) + 1)), (65, .int .i64 ((j : Nat) : Int)), (6, .slice ad27 n27 c27), (75, .slice ad27 n27 c27), (64, .bool true), (63, .int .i64 ((List.length (xs) : Nat) : Int)), (62, .string (bstr xs)), (61, .int .i64 ((j : Nat) : Int)), (4, .bool false), (2, .pointer (some ⟨g2, 0, none⟩)), (0, .string (bstr xs))]) hF (r_assign (hF.at 0 rfl)) rfl rfl rfl rfl fun a hF => ?_
                              refine E.nil0 ?_
                              refine E.norm ?_
                              exact ⟨xs.length - (j + 1), by omega, ⟨(j + 1), ad27, n27, c27, (by omega), (by rw [show ((j + 1 : Nat) : Int) = ((j : Nat) : Int) + 1 from by omega]; exact Fr.sub (L' := [(7, .int .i64 (((j : Nat) : Int) + 1)), (6, .slice ad27 n27 c27), (4, .bool false), (2, .pointer (some ⟨g2, 0, none⟩)), (0, .string (bstr xs))]) hF (by intro p hp; simp only [List.mem_cons, List.not_mem_nil, or_false] at hp ⊢; rcases hp with rfl | rfl | rfl | rfl | rfl <;> simp)), sty, bel, hh26, rfl⟩⟩
                            · have hjl : j = xs.length := by omega
                              refine wp_seq ?_
                              refine wp_seq ?_
                              refine E.seq ?_
                              refine E.opv hF (r_move (hF.at 0 rfl)) rfl rfl rfl rfl fun a hF => ?_
                              refine E.opv hF (r_move (hF.at 5 rfl)) rfl rfl rfl rfl fun a hF => ?_
                              refine E.opv hF (r_builtin (map1 (hF.at 0 rfl)) (bl_str Try.underlying9)) rfl rfl rfl rfl fun a hF => ?_
                              refine E.opv hF (r_bin (hF.at 2 rfl) (hF.at 0 rfl) eg_scalar (bi_int (ic_lss (c := false) (dec_ff (by omega))) (by simp))) rfl rfl rfl rfl fun a hF => ?_
                              refine E.nil ?_
                              refine wp_cond_false (hF.at 0 rfl) ?_
                              refine wp_exit ?_
                              refine E.past ?_
                              refine E.past ?_
                              refine E.out (id := 2) ?_
                              refine E.norm ?_
                              refine wp_seq ?_
                              refine E.seq ?_
                              refine E.opv hF (r_move (hF.at 6 rfl)) rfl rfl rfl rfl fun a hF => ?_
                              refine E.opv hF (r_move (hF.at 6 rfl)) rfl rfl rfl rfl fun a hF => ?_
                              refine E.call hF (r_call Try.func43 en43.1 en43.2 (map2 (hF.at 1 rfl) (hF.at 0 rfl))) (rmake_any _ _ (dv xs j) _ hx) rfl rfl rfl rfl ?_
                              rintro e w24 ⟨vv25, rfl, hh26, bb⟩
                              refine ⟨_, rfl, ?_⟩
                              intro a hF
                              replace hz0 := hz0.below bb
                              replace o2 := o2.below bb
                              replace bel := below_to bel bb
                              clear bb
                              obtain ⟨b27, ad27, n27, c27, rfl⟩ := Rz.form hh26
                              obtain ⟨w28, hr, tu, on⟩ := st_RInt (vs := [.bool b27, .slice ad27 n27 c27]) o2 rfl rfl (ocB (ocS oc0)) (niB (niS ni0)) (o := 0) rfl
                              have kp := tu.keep o2
                              refine E.st hF (r_store (hF.at 10 rfl) (hF.at 0 rfl) (hr _ rfl)) rfl rfl fun a hF => ?_
                              clear hr
                              replace hz0 := hz0.keep kp
                              replace hh26 := hh26.keep kp
                              replace bel := tu.below bel ge2
                              clear tu kp
                              replace o2 := on
                              clear on
                              have hf29 := Rz.abs hh26
                              refine E.opv hF (r_assign ev_c) rfl rfl rfl rfl fun a hF => ?_
                              refine E.nil ?_
                              refine wp_ret ?_
                              refine bodyPost_ret (res_celltmp Try.results21 (hF.at 11 rfl) (ld_RInt (vs := [.bool b27, .slice ad27 n27 c27]) o2 rfl rfl) (hF.at 0 rfl)) hF.dfr ?_
                              have hg := rgood hbd (by omega) (by omega) (fun e => e) hdA
                              have hb := pe_0 hg (by rw [hbd]; omega)
                              rw [hng, hbd] at hb
                              rw [hjl] at *
                              exact ⟨_, rv_vi2 hb.1, Rz.castP hh26 hb.2, bel⟩))))

theorem rparse_any (xs : List Nat) (w : World) (h8 : okb 256 xs) (hl : xs.length ≤ 1000000000) : Calls Try.prog 21 #[.string (bstr xs)] w (RparsePost w xs) := by
  by_cases hneg : List.take 1 xs = [45]
  · exact rparse_neg xs w h8 hl hneg
  · exact rparse_pos xs w h8 hl hneg
end Go.Proofs.Ythoiocjbjfhgpaa
