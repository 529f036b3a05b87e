/- The document's text of a whole number. -/
import Derived.Test.YthoiocjbjfhgpaaGreatPrG
namespace Go.Proofs.YthoiocjbjfhgpaaGreat
open Go.RowKit
set_option maxRecDepth 100000
set_option linter.unusedVariables false

theorem bs_ten (w : World) : ∃ v w', (Instr.buildSlice 35 1 #[(0, .int .i64 10)]).run Tryz.prog w = .ok v w' ∧ Below w.heap.size w w' ∧ Dg w' .i64 65536 v 10 := by
  refine ⟨.slice (some ⟨w.heap.size, 0, none⟩) 1 1, w.alloc (.cells #[.int .i64 10] 3), ?_, (Below.refl _ _).alloc (Nat.le_refl _) _, ?_⟩
  · have hs := size_run (P := Tryz.prog) (T := 3) (n := 1) (by kernel_rfl) w
    simp [Instr.buildSlice, go_sem, hs, Instr.fill, Value.cells, newRow]
  · have e : dg 65536 10 = [10] := by decide +kernel
    unfold Dg
    rw [e]
    refine ⟨some ⟨w.heap.size, 0, none⟩, 1, rfl, ⟨fun i hi => ?_⟩, by simp, by unfold maxLen; omega, by simp, fun h => by cases h⟩
    have h0 : i = 0 := by simp at hi; omega
    subst h0
    refine ⟨w.heap.size, 0, rfl, by simp, ?_⟩
    rw [cell_of_row _ w.heap.size 0 #[.int .i64 10] 3 (0, 0) (heap_alloc_new w _)]
    rfl
theorem lit_sqb {w : World} {g d : Nat} (h : Blk w g [.int .u8 ((d : Nat) : Int)]) : ∃ ad cap, (Value.slice (some ⟨g, 0, none⟩) 1 1) = .slice ad [d].length cap ∧ Rd w .u8 ad [d] ∧ (ad = none → [d] = []) := by
  obtain ⟨T, h⟩ := h
  refine ⟨_, _, rfl, ⟨fun i hi => ?_⟩, fun e => by cases e⟩
  have h0 : i = 0 := by simp at hi; omega
  subst h0
  refine ⟨g, 0, rfl, (Array.getElem?_eq_some_iff.1 h).1, ?_⟩
  rw [Nat.zero_add, cell_of_row w g 0 _ _ _ h]
  rfl
theorem sdiv10 (v1 v2 : Value) (X : Nat) (w : World) (h1 : Dg w .i64 65536 v1 X) (h2 : Dg w .i64 65536 v2 10) (hb : dl 65536 X ≤ 10000) : Calls Tryz.prog 106 #[v1, v2] w (SdivPost w X 10) := sdivmod_any v1 v2 X 10 w h1 h2 hb (by decide +kernel)
theorem num_len {w : World} {ad : Option Addr} {n c X : Nat} (h : Dg w .i64 65536 (.slice ad n c) X) : n = dl 65536 X := by
  obtain ⟨ad', cap, h1, _⟩ := h
  injection h1
theorem num_yes {n X : Nat} (h : n = dl 65536 X) (hX : 0 < X) : (0 : Int) < ((n : Nat) : Int) := by have := dl_pos (by decide : 2 ≤ 65536) hX; omega
theorem dl_zero16 : dl 65536 0 = 0 := by unfold dl; rw [dg_zero]; rfl
theorem num_no {n X : Nat} (h : n = dl 65536 X) (hX : ¬ 0 < X) : ¬ (0 : Int) < ((n : Nat) : Int) := by rw [show X = 0 by omega, dl_zero16] at h; omega
theorem num_of {n X : Nat} (h : n = dl 65536 X) (k : (0 : Int) < ((n : Nat) : Int)) : 0 < X := by
  apply Nat.pos_of_ne_zero
  intro e
  rw [e, dl_zero16] at h; omega
theorem num_none {n X : Nat} (h : n = dl 65536 X) (k : ¬ (0 : Int) < ((n : Nat) : Int)) : X = 0 := by
  apply Classical.byContradiction
  intro e
  exact k (num_yes h (by omega))
/-- The one limb of a small number. -/
theorem num_at {w : World} {ad : Option Addr} {n c X : Nat} (h : Dg w .i64 65536 (.slice ad n c) X) (h0 : 0 < X) (h1 : X < 65536) : ∃ b off, ad = some ⟨b, off, none⟩ ∧ n = 1 ∧ w.cell? ⟨b, off, none⟩ = some (.int .i64 ((X : Nat) : Int)) := by
  have hd : dg 65536 X = [X] := by
    rw [dg_pos (by decide) h0, Nat.mod_eq_of_lt h1, Nat.div_eq_of_lt h1, dg_zero]
  obtain ⟨ad', cap, h1, ⟨hr⟩, _⟩ := h
  rw [hd] at h1 hr
  injection h1 with e1 e2 e3
  subst e1
  obtain ⟨b, off, e, _, hc⟩ := hr 0 (by simp)
  exact ⟨b, off, e, by simpa using e2, hc⟩
theorem ix_num {w : World} {b off n c : Nat} (hn : 0 < n) : (Instr.indexAt 35 (.slice (some ⟨b, off, none⟩) n c) (.int .i64 0)).run Tryz.prog w = .ok (.pointer (some ⟨b, off, none⟩)) w := by
  simp [Instr.indexAt, asIntOf, run_underlying Tryz.underlying35, Sem.run_bind, Addr.add_mid]
  intro e; omega
theorem hi_step {X : Nat} (h : 0 < X) : hi X = hi (X / 10) ++ [48 + X % 10] := by
  unfold hi asc
  rw [dg_pos (by decide : 2 ≤ 10) h, List.map_cons, List.reverse_cons]
theorem hi_up {N X : Nat} {ys : List Nat} (h : hi N = hi X ++ ys) (hX : 0 < X) : hi N = hi (X / 10) ++ ([48 + X % 10] ++ ys) := by
  rw [h, hi_step hX, List.append_assoc]
theorem hi_zero : hi 0 = [] := by decide +kernel
theorem hi_okb (N : Nat) : okb 256 (hi N) := fun x hx => asc_okb (okb_dg (by decide) _) x (List.mem_reverse.1 hx)
theorem tx_hi0 {z : Int} {ys : List Nat} (h : hi z.natAbs = ys) (k : ys = []) : z = 0 := by
  apply Classical.byContradiction
  intro e
  have := (hi_plain (N := z.natAbs) (by omega)).2.1
  rw [h] at this; exact this k
theorem tx_hi {z : Int} {ys : List Nat} (h : hi z.natAbs = ys) (k : ¬ ys = []) : tx z = (if z < 0 then [45] else []) ++ ys := by
  have e : z ≠ 0 := by
    intro e
    subst e
    exact k (h.symm.trans hi_zero)
  unfold tx
  rw [if_neg e, ← h]; rfl
set_option maxHeartbeats 8000000 in
theorem rtext_any (v1 : Value) (z : Int) (M : Nat) (w : World) (h1 : Rz w v1 z) (hl : Lim z.natAbs M) (hM : M ≤ 1000) :
    Calls Tryz.prog 95 #[v1] w (ValPost w (.string (bstr (tx z)))) := by
  have bel : Below w.heap.size w w := Below.refl _ _
  refine E.enter (nt := 40) (L := [(0, v1)]) Tryz.func95 rfl rfl rfl (args_cons (i := 0) rfl args_nil) ?_
  intro a hF
  refine wp_seq ?_
  refine E.seq ?_
  obtain ⟨b1, ad1, n1, c1, rfl⟩ := Rz.form h1
  obtain ⟨g1, w2, ge1, hr, bb, o1⟩ := own_box (P := Tryz.prog) (w := w) (cs := [.bool b1, .slice ad1 n1 c1]) (v := .agg #[.bool b1, .slice ad1 n1 c1]) 37 rfl (niB (niS ni0))
  replace ge1 : w.heap.size ≤ g1 := by rw [← ge1]; exact bel.size
  refine E.opv hF (r_box (hF.at 0 rfl) hr) rfl rfl rfl rfl fun a hF => ?_
  clear hr
  replace h1 := h1.below bb
  replace bel := below_to bel bb
  clear bb
  have hf3 := Rz.abs h1
  refine E.opv hF (r_assign ev_c) rfl rfl rfl rfl fun a hF => ?_
  refine E.nil ?_
  refine wp_seq ?_
  refine E.seq ?_
  refine E.opv hF (r_assign ev_c) rfl rfl rfl rfl fun a hF => ?_
  refine E.nil ?_
  refine wp_seq ?_
  refine E.seq ?_
  refine E.opv hF (r_field (hF.at 2 rfl) (fa_RInt_1 (p := 1) rfl)) rfl rfl rfl rfl fun a hF => ?_
  refine E.opv hF (r_load (hF.at 0 rfl) (ld_Num (v := .slice ad1 n1 c1) o1 rfl)) rfl rfl rfl rfl fun a hF => ?_
  refine E.opv hF (r_assign (hF.at 0 rfl)) rfl rfl rfl rfl fun a hF => ?_
  refine E.nil ?_
  refine wp_seq ?_
  refine wp_block ?_
  refine E.loop (fun mq a wv => ∃ (sa : Option Addr) (sn : Nat) (sc : Nat) (X : Nat) (ys : List Nat), hi z.natAbs = hi X ++ ys ∧ okb 256 ys ∧ Lim X M ∧ Fr 40 a [(4, .slice sa sn sc), (3, .string (bstr ys)), (2, .string (bstr [])), (1, .pointer (some ⟨g1, 0, none⟩))] ∧ Below w2.heap.size w2 wv ∧ Below w.heap.size w wv ∧ Dg wv .i64 65536 (.slice sa sn sc) X ∧ mq = X) (z.natAbs) ?_ ?_
  · exact ⟨ad1, n1, c1, z.natAbs, [], (List.append_nil _).symm, (okb_nil _), hl, Fr.sub (L' := [(4, .slice ad1 n1 c1), (3, .string ⟨#[]⟩), (2, .string ⟨#[]⟩), (1, .pointer (some ⟨g1, 0, none⟩))]) hF (by intro p hp; simp only [List.mem_cons, List.not_mem_nil, or_false] at hp ⊢; rcases hp with rfl | rfl | rfl | rfl <;> simp), Below.refl _ _, bel, hf3, rfl⟩
  · rintro mq a w4 ⟨sa, sn, sc, X, ys, hq, hys, hXl, hF, sty, bel, hx, hm⟩
    replace hf3 := hf3.below sty
    replace h1 := h1.below sty
    replace o1 := o1.below sty
    by_cases hX : 0 < X
    · have hsn := num_len hx
      have hyl : ys.length ≤ 32 * M := by have hh := congrArg List.length hq; rw [List.length_append, hi_len] at hh; have := dl10_le (lim_pow hl); omega
      refine wp_seq ?_
      refine wp_seq ?_
      refine E.seq ?_
      refine E.opv hF (r_move (hF.at 0 rfl)) rfl rfl rfl rfl fun a hF => ?_
      refine E.opv hF (r_builtin (map1 (hF.at 0 rfl)) bl_num) rfl rfl rfl rfl fun a hF => ?_
      refine E.opv hF (r_bin (hF.at 0 rfl) ev_c eg_scalar (bi_int (ic_gtr (c := true) (dec_tt (num_yes hsn hX))) (by simp))) rfl rfl rfl rfl fun a hF => ?_
      refine E.nil ?_
      refine wp_cond_true (hF.at 0 rfl) ?_
      refine wp_skip ?_
      refine E.norm ?_
      refine wp_block ?_
      refine wp_seq ?_
      refine E.seq ?_
      refine E.opv hF (r_move (hF.at 3 rfl)) rfl rfl rfl rfl fun a hF => ?_
      obtain ⟨vv5, w6, hr, bb, hh7⟩ := bs_ten w4
      refine E.opv hF (r_buildSlice (qs := #[(0, .int .i64 10)]) (pair1 ev_c) hr) rfl rfl rfl rfl fun a hF => ?_
      clear hr
      replace hx := hx.below bb
      replace hf3 := hf3.below bb
      replace h1 := h1.below bb
      replace o1 := o1.below bb
      replace bel := below_to bel bb
      replace sty := below_to sty bb
      clear bb
      refine E.call hF (r_call Tryz.func106 en106.1 en106.2 (map2 (hF.at 1 rfl) (hF.at 0 rfl))) (sdiv10 _ _ X _ hx hh7 (hXl.dh _ (by omega))) rfl rfl rfl rfl ?_
      rintro e w8 ⟨vv9, vv10, rfl, hh11, hh12, bb⟩
      refine ⟨_, rfl, ?_⟩
      intro a hF
      obtain ⟨qa, qn, qc, rfl⟩ := hh11.form
      obtain ⟨ra, rn, rc, rfl⟩ := hh12.form
      replace hh12 : Dg _ .i64 65536 (.slice ra rn rc) (X % 10) := hh12
      have hrn := num_len hh12
      replace hx := hx.below bb
      replace hf3 := hf3.below bb
      replace h1 := h1.below bb
      replace o1 := o1.below bb
      replace bel := below_to bel bb
      replace sty := below_to sty bb
      clear bb
      refine E.opv hF (r_move (hF.at 0 rfl)) rfl rfl rfl rfl fun a hF => ?_
      refine E.opv hF (r_extract (v := .slice qa qn qc) (hF.at 0 rfl) rfl) rfl rfl rfl rfl fun a hF => ?_
      refine E.opv hF (r_extract (v := .slice ra rn rc) (hF.at 1 rfl) rfl) rfl rfl rfl rfl fun a hF => ?_
      refine E.opv hF (r_assign (hF.at 1 rfl)) rfl rfl rfl rfl fun a hF => ?_
      refine E.opv hF (r_assign (hF.at 1 rfl)) rfl rfl rfl rfl fun a hF => ?_
      refine E.nil ?_
      refine wp_seq ?_
      refine E.seq ?_
      refine E.opv hF (r_assign ev_c) rfl rfl rfl rfl fun a hF => ?_
      refine E.nil ?_
      refine wp_seq ?_
      refine wp_seq ?_
      refine E.seq ?_
      refine E.opv hF (r_move (hF.at 1 rfl)) rfl rfl rfl rfl fun a hF => ?_
      refine E.opv hF (r_builtin (map1 (hF.at 0 rfl)) bl_num) rfl rfl rfl rfl fun a hF => ?_
      by_cases hc13 : 0 < ((rn : Nat) : Int)
      · refine E.opv hF (r_bin (hF.at 0 rfl) ev_c eg_scalar (bi_int (ic_gtr (c := true) (dec_tt hc13)) (by simp))) rfl rfl rfl rfl fun a hF => ?_
        refine E.nil ?_
        refine wp_cond_true (hF.at 0 rfl) ?_
        refine E.seq ?_
        refine E.opv hF (r_move (hF.at 4 rfl)) rfl rfl rfl rfl fun a hF => ?_
        obtain ⟨gr, og, hag, hn1, hcl⟩ := num_at hh12 (num_of hrn hc13) (by omega)
        refine E.opv hF (r_index (hF.at 0 rfl) ev_c (by rw [hag]; exact ix_num (by omega))) rfl rfl rfl rfl fun a hF => ?_
        refine E.opv hF (r_load (hF.at 0 rfl) (ldc_int hcl)) rfl rfl rfl rfl fun a hF => ?_
        refine E.opset (L' := [(7, .int .i64 ((X % 10 : Nat) : Int)), (24, .int .i64 ((X % 10 : Nat) : Int)), (23, .pointer (some ⟨gr, og, none⟩)), (22, .slice ra rn rc), (21, .bool true), (20, .int .i64 ((rn : Nat) : Int)), (19, .slice ra rn rc), (6, .slice ra rn rc), (5, .slice qa qn qc), (18, .slice ra rn rc), (17, .slice qa qn qc), (13, .tuple #[.slice qa qn qc, .slice ra rn rc]), (16, .tuple #[.slice qa qn qc, .slice ra rn rc]), (15, vv5), (14, .slice sa sn sc), (12, .bool true), (11, .int .i64 ((sn : Nat) : Int)), (10, .slice sa sn sc), (4, .slice sa sn sc), (3, .string (bstr ys)), (2, .string (bstr [])), (1, .pointer (some ⟨g1, 0, none⟩))]) hF (r_assign (hF.at 0 rfl)) rfl rfl rfl rfl fun a hF => ?_
        refine E.nil ?_
        refine wp_seq ?_
        refine E.seq ?_
        refine E.opv hF (r_move (hF.at 0 rfl)) rfl rfl rfl rfl fun a hF => ?_
        refine E.opv hF (r_bin ev_c (hF.at 0 rfl) eg_scalar (ia_add (by omega) (by omega))) rfl rfl rfl rfl fun a hF => ?_
        refine E.opv hF (r_conv (hF.at 0 rfl) (cv_kind (k' := .u8) Tryz.underlying3 Tryz.underlying5 (w_u8 (by omega) (by omega)))) rfl rfl rfl rfl fun a hF => ?_
        obtain ⟨gl14, w15, hr, bb, ogl14⟩ := bs8 w8 (48 + ((X % 10 : Nat) : Int)) (d := 48 + X % 10) (by first | omega | (have hno := num_none hrn (by assumption); omega))
        refine E.opv hF (r_buildSlice (pair1 (hF.at 0 rfl)) hr) rfl rfl rfl rfl fun a hF => ?_
        clear hr
        replace hh11 := hh11.below bb
        replace hx := hx.below bb
        replace hf3 := hf3.below bb
        replace h1 := h1.below bb
        replace o1 := o1.below bb
        replace bel := below_to bel bb
        replace sty := below_to sty bb
        clear bb
        refine E.opv hF (r_conv (hF.at 0 rfl) (cv_str (lit_sqb ogl14))) rfl rfl rfl rfl fun a hF => ?_
        refine E.opv hF (r_move (hF.at 24 rfl)) rfl rfl rfl rfl fun a hF => ?_
        refine E.opv hF (r_bin (hF.at 1 rfl) (hF.at 0 rfl) eg_str (sb_add (xs := [48 + X % 10]) (ys := ys) (by simp only [List.length_cons, List.length_nil]; omega))) rfl rfl rfl rfl fun a hF => ?_
        refine E.opset (L' := [(3, .string (bstr ([48 + X % 10] ++ ys))), (31, .string (bstr ([48 + X % 10] ++ ys))), (30, .string (bstr ys)), (29, .string (bstr [48 + X % 10])), (28, .slice (some ⟨gl14, 0, none⟩) 1 1), (27, .int .u8 (48 + ((X % 10 : Nat) : Int))), (26, .int .i64 (48 + ((X % 10 : Nat) : Int))), (25, .int .i64 ((X % 10 : Nat) : Int)), (7, .int .i64 ((X % 10 : Nat) : Int)), (24, .int .i64 ((X % 10 : Nat) : Int)), (23, .pointer (some ⟨gr, og, none⟩)), (22, .slice ra rn rc), (21, .bool true), (20, .int .i64 ((rn : Nat) : Int)), (19, .slice ra rn rc), (6, .slice ra rn rc), (5, .slice qa qn qc), (18, .slice ra rn rc), (17, .slice qa qn qc), (13, .tuple #[.slice qa qn qc, .slice ra rn rc]), (16, .tuple #[.slice qa qn qc, .slice ra rn rc]), (15, vv5), (14, .slice sa sn sc), (12, .bool true), (11, .int .i64 ((sn : Nat) : Int)), (10, .slice sa sn sc), (4, .slice sa sn sc), (2, .string (bstr [])), (1, .pointer (some ⟨g1, 0, none⟩))]) hF (r_assign (hF.at 0 rfl)) rfl rfl rfl rfl fun a hF => ?_
        refine E.nil ?_
        refine E.seq ?_
        refine E.opv hF (r_move (hF.at 16 rfl)) rfl rfl rfl rfl fun a hF => ?_
        refine E.opset (L' := [(4, .slice qa qn qc), (32, .slice qa qn qc), (3, .string (bstr ([48 + X % 10] ++ ys))), (31, .string (bstr ([48 + X % 10] ++ ys))), (30, .string (bstr ys)), (29, .string (bstr [48 + X % 10])), (28, .slice (some ⟨gl14, 0, none⟩) 1 1), (27, .int .u8 (48 + ((X % 10 : Nat) : Int))), (26, .int .i64 (48 + ((X % 10 : Nat) : Int))), (25, .int .i64 ((X % 10 : Nat) : Int)), (7, .int .i64 ((X % 10 : Nat) : Int)), (24, .int .i64 ((X % 10 : Nat) : Int)), (23, .pointer (some ⟨gr, og, none⟩)), (22, .slice ra rn rc), (21, .bool true), (20, .int .i64 ((rn : Nat) : Int)), (19, .slice ra rn rc), (6, .slice ra rn rc), (5, .slice qa qn qc), (18, .slice ra rn rc), (17, .slice qa qn qc), (13, .tuple #[.slice qa qn qc, .slice ra rn rc]), (16, .tuple #[.slice qa qn qc, .slice ra rn rc]), (15, vv5), (14, .slice sa sn sc), (12, .bool true), (11, .int .i64 ((sn : Nat) : Int)), (10, .slice sa sn sc), (2, .string (bstr [])), (1, .pointer (some ⟨g1, 0, none⟩))]) hF (r_assign (hF.at 0 rfl)) rfl rfl rfl rfl fun a hF => ?_
        refine E.nil0 ?_
        refine E.blk ?_
        refine E.norm ?_
        exact ⟨X / 10, by omega, ⟨qa, qn, qc, (X / 10), ([48 + X % 10] ++ ys), (hi_up hq hX), (okb_append (okb_one (by omega)) hys), (hXl.le (Nat.div_le_self _ _)), Fr.sub (L' := [(4, .slice qa qn qc), (3, .string (bstr ([48 + X % 10] ++ ys))), (2, .string (bstr [])), (1, .pointer (some ⟨g1, 0, none⟩))]) hF (by intro p hp; simp only [List.mem_cons, List.not_mem_nil, or_false] at hp ⊢; rcases hp with rfl | rfl | rfl | rfl <;> simp), sty, bel, hh11, rfl⟩⟩
      · refine E.opv hF (r_bin (hF.at 0 rfl) ev_c eg_scalar (bi_int (ic_gtr (c := false) (dec_ff hc13)) (by simp))) rfl rfl rfl rfl fun a hF => ?_
        refine E.nil ?_
        refine wp_cond_false (hF.at 0 rfl) ?_
        refine wp_skip ?_
        refine E.norm ?_
        refine wp_seq ?_
        refine E.seq ?_
        refine E.opv hF (r_move (hF.at 3 rfl)) rfl rfl rfl rfl fun a hF => ?_
        refine E.opv hF (r_bin ev_c (hF.at 0 rfl) eg_scalar (ia_add (by omega) (by omega))) rfl rfl rfl rfl fun a hF => ?_
        refine E.opv hF (r_conv (hF.at 0 rfl) (cv_kind (k' := .u8) Tryz.underlying3 Tryz.underlying5 (w_u8 (by omega) (by omega)))) rfl rfl rfl rfl fun a hF => ?_
        obtain ⟨gl16, w17, hr, bb, ogl16⟩ := bs8 w8 (48 + 0) (d := 48 + X % 10) (by first | omega | (have hno := num_none hrn (by assumption); omega))
        refine E.opv hF (r_buildSlice (pair1 (hF.at 0 rfl)) hr) rfl rfl rfl rfl fun a hF => ?_
        clear hr
        replace hh11 := hh11.below bb
        replace hx := hx.below bb
        replace hf3 := hf3.below bb
        replace h1 := h1.below bb
        replace o1 := o1.below bb
        replace bel := below_to bel bb
        replace sty := below_to sty bb
        clear bb
        refine E.opv hF (r_conv (hF.at 0 rfl) (cv_str (lit_sqb ogl16))) rfl rfl rfl rfl fun a hF => ?_
        refine E.opv hF (r_move (hF.at 21 rfl)) rfl rfl rfl rfl fun a hF => ?_
        refine E.opv hF (r_bin (hF.at 1 rfl) (hF.at 0 rfl) eg_str (sb_add (xs := [48 + X % 10]) (ys := ys) (by simp only [List.length_cons, List.length_nil]; omega))) rfl rfl rfl rfl fun a hF => ?_
        refine E.opset (L' := [(3, .string (bstr ([48 + X % 10] ++ ys))), (31, .string (bstr ([48 + X % 10] ++ ys))), (30, .string (bstr ys)), (29, .string (bstr [48 + X % 10])), (28, .slice (some ⟨gl16, 0, none⟩) 1 1), (27, .int .u8 (48 + 0)), (26, .int .i64 (48 + 0)), (25, .int .i64 0), (21, .bool false), (20, .int .i64 ((rn : Nat) : Int)), (19, .slice ra rn rc), (7, .int .i64 0), (6, .slice ra rn rc), (5, .slice qa qn qc), (18, .slice ra rn rc), (17, .slice qa qn qc), (13, .tuple #[.slice qa qn qc, .slice ra rn rc]), (16, .tuple #[.slice qa qn qc, .slice ra rn rc]), (15, vv5), (14, .slice sa sn sc), (12, .bool true), (11, .int .i64 ((sn : Nat) : Int)), (10, .slice sa sn sc), (4, .slice sa sn sc), (2, .string (bstr [])), (1, .pointer (some ⟨g1, 0, none⟩))]) hF (r_assign (hF.at 0 rfl)) rfl rfl rfl rfl fun a hF => ?_
        refine E.nil ?_
        refine E.seq ?_
        refine E.opv hF (r_move (hF.at 13 rfl)) rfl rfl rfl rfl fun a hF => ?_
        refine E.opset (L' := [(4, .slice qa qn qc), (32, .slice qa qn qc), (3, .string (bstr ([48 + X % 10] ++ ys))), (31, .string (bstr ([48 + X % 10] ++ ys))), (30, .string (bstr ys)), (29, .string (bstr [48 + X % 10])), (28, .slice (some ⟨gl16, 0, none⟩) 1 1), (27, .int .u8 (48 + 0)), (26, .int .i64 (48 + 0)), (25, .int .i64 0), (21, .bool false), (20, .int .i64 ((rn : Nat) : Int)), (19, .slice ra rn rc), (7, .int .i64 0), (6, .slice ra rn rc), (5, .slice qa qn qc), (18, .slice ra rn rc), (17, .slice qa qn qc), (13, .tuple #[.slice qa qn qc, .slice ra rn rc]), (16, .tuple #[.slice qa qn qc, .slice ra rn rc]), (15, vv5), (14, .slice sa sn sc), (12, .bool true), (11, .int .i64 ((sn : Nat) : Int)), (10, .slice sa sn sc), (2, .string (bstr [])), (1, .pointer (some ⟨g1, 0, none⟩))]) hF (r_assign (hF.at 0 rfl)) rfl rfl rfl rfl fun a hF => ?_
        refine E.nil0 ?_
        refine E.blk ?_
        refine E.norm ?_
        exact ⟨X / 10, by omega, ⟨qa, qn, qc, (X / 10), ([48 + X % 10] ++ ys), (hi_up hq hX), (okb_append (okb_one (by omega)) hys), (hXl.le (Nat.div_le_self _ _)), Fr.sub (L' := [(4, .slice qa qn qc), (3, .string (bstr ([48 + X % 10] ++ ys))), (2, .string (bstr [])), (1, .pointer (some ⟨g1, 0, none⟩))]) hF (by intro p hp; simp only [List.mem_cons, List.not_mem_nil, or_false] at hp ⊢; rcases hp with rfl | rfl | rfl | rfl <;> simp), sty, bel, hh11, rfl⟩⟩
    · have hsn := num_len hx
      have hyl : ys.length ≤ 32 * M := by have hh := congrArg List.length hq; rw [List.length_append, hi_len] at hh; have := dl10_le (lim_pow hl); omega
      rw [show X = 0 by omega, hi_zero, List.nil_append] at hq
      refine wp_seq ?_
      refine wp_seq ?_
      refine E.seq ?_
      refine E.opv hF (r_move (hF.at 0 rfl)) rfl rfl rfl rfl fun a hF => ?_
      refine E.opv hF (r_builtin (map1 (hF.at 0 rfl)) bl_num) rfl rfl rfl rfl fun a hF => ?_
      refine E.opv hF (r_bin (hF.at 0 rfl) ev_c eg_scalar (bi_int (ic_gtr (c := false) (dec_ff (num_no hsn hX))) (by simp))) rfl rfl rfl rfl fun a hF => ?_
      refine E.nil ?_
      refine wp_cond_false (hF.at 0 rfl) ?_
      refine wp_exit ?_
      refine E.past ?_
      refine E.past ?_
      refine E.out (id := 0) ?_
      refine E.norm ?_
      refine wp_seq ?_
      refine wp_seq ?_
      refine E.seq ?_
      refine E.opv hF (r_move (hF.at 4 rfl)) rfl rfl rfl rfl fun a hF => ?_
      by_cases hc5 : ys = []
      · refine E.opv hF (r_bin (hF.at 0 rfl) ev_c eg_str (sb_eq (xs := ys) (ys := []) (streq_t hc5))) rfl rfl rfl rfl fun a hF => ?_
        refine E.nil ?_
        refine wp_cond_true (hF.at 0 rfl) ?_
        refine wp_seq ?_
        refine E.seq ?_
        refine E.opset (L' := [(2, .string (bstr [48])), (34, .bool true), (33, .string (bstr ys)), (12, .bool false), (11, .int .i64 ((sn : Nat) : Int)), (10, .slice sa sn sc), (4, .slice sa sn sc), (3, .string (bstr ys)), (1, .pointer (some ⟨g1, 0, none⟩))]) hF (r_assign ev_c) rfl rfl rfl rfl fun a hF => ?_
        refine E.nil ?_
        refine wp_ret ?_
        refine bodyPost_ret (res_tmp Tryz.results95 (hF.at 0 rfl)) hF.dfr ?_
        have hz := tx_hi0 hq hc5
        exact ⟨rv_str (tx_zero hz), bel⟩
      · refine E.opv hF (r_bin (hF.at 0 rfl) ev_c eg_str (sb_eq (xs := ys) (ys := []) (streq_f hc5 hys (okb_nil _)))) rfl rfl rfl rfl fun a hF => ?_
        refine E.nil ?_
        refine wp_cond_false (hF.at 0 rfl) ?_
        refine wp_skip ?_
        refine E.norm ?_
        refine wp_seq ?_
        refine wp_seq ?_
        refine E.seq ?_
        refine E.opv hF (r_field (hF.at 8 rfl) (fa_RInt_0 (p := 0) rfl)) rfl rfl rfl rfl fun a hF => ?_
        refine E.opv hF (r_load (hF.at 0 rfl) (ld_bool (v := .bool b1) o1 rfl)) rfl rfl rfl rfl fun a hF => ?_
        refine E.nil ?_
        by_cases hc6 : b1 = true
        · refine wp_cond_true (Eq.trans (hF.at 0 rfl) (congrArg Value.bool hc6)) ?_
          refine wp_seq ?_
          refine E.seq ?_
          refine E.opv hF (r_move (hF.at 8 rfl)) rfl rfl rfl rfl fun a hF => ?_
          refine E.opv hF (r_bin ev_c (hF.at 0 rfl) eg_str (sb_add (xs := [45]) (ys := ys) (by simp only [List.length_cons, List.length_nil]; omega))) rfl rfl rfl rfl fun a hF => ?_
          refine E.opset (L' := [(2, .string (bstr ([45] ++ ys))), (38, .string (bstr ([45] ++ ys))), (37, .string (bstr ys)), (36, .bool b1), (35, .pointer (some ⟨g1, 0, none⟩)), (34, .bool false), (33, .string (bstr ys)), (12, .bool false), (11, .int .i64 ((sn : Nat) : Int)), (10, .slice sa sn sc), (4, .slice sa sn sc), (3, .string (bstr ys)), (1, .pointer (some ⟨g1, 0, none⟩))]) hF (r_assign (hF.at 0 rfl)) rfl rfl rfl rfl fun a hF => ?_
          refine E.nil ?_
          refine wp_ret ?_
          refine bodyPost_ret (res_tmp Tryz.results95 (hF.at 0 rfl)) hF.dfr ?_
          have ht := tx_hi hq hc5
          have hng := Rz.neg h1
          exact ⟨rv_str (by rw [ht, if_pos (of_decide_eq_true (hng.symm.trans hc6))]), bel⟩
        · refine wp_cond_false (Eq.trans (hF.at 0 rfl) (congrArg Value.bool (eq_false_of_ne_true hc6))) ?_
          refine wp_skip ?_
          refine E.norm ?_
          refine wp_seq ?_
          refine E.seq ?_
          refine E.opv hF (r_move (hF.at 8 rfl)) rfl rfl rfl rfl fun a hF => ?_
          refine E.opset (L' := [(2, .string (bstr ys)), (39, .string (bstr ys)), (36, .bool b1), (35, .pointer (some ⟨g1, 0, none⟩)), (34, .bool false), (33, .string (bstr ys)), (12, .bool false), (11, .int .i64 ((sn : Nat) : Int)), (10, .slice sa sn sc), (4, .slice sa sn sc), (3, .string (bstr ys)), (1, .pointer (some ⟨g1, 0, none⟩))]) hF (r_assign (hF.at 0 rfl)) rfl rfl rfl rfl fun a hF => ?_
          refine E.nil ?_
          refine wp_ret ?_
          refine bodyPost_ret (res_tmp Tryz.results95 (hF.at 0 rfl)) hF.dfr ?_
          have ht := tx_hi hq hc5
          have hng := Rz.neg h1
          exact ⟨rv_str (by rw [ht, if_neg (of_decide_eq_false (hng.symm.trans (eq_false_of_ne_true hc6)))]; rfl), bel⟩

end Go.Proofs.YthoiocjbjfhgpaaGreat
