/- Texts of numbers as they may be handed in. -/
import Derived.Test.YthoiocjbjfhgpaaPrH
namespace Go.Proofs.Ythoiocjbjfhgpaa
open Go.RowKit
set_option maxRecDepth 100000
set_option linter.unusedVariables false

theorem small9w (v1 : Value) (N : Nat) (w : World) (h1 : Nt w v1 N) : Calls Try.prog 82 #[v1, .int .u32 1000000000] w (fun e w' => ∃ v, e = .returned (.tuple #[v, .int .u32 ((N % 1000000000 : Nat) : Int)]) ∧ Dg w' .u32 B32 v (N / 1000000000) ∧ Below w.heap.size w w') := by
  refine (small_any v1 N 1000000000 w h1 (by decide)).mono ?_
  rintro e w' ⟨v, rfl, h, hb⟩
  exact ⟨v, rfl, h, hb⟩
theorem sg_ne {b : Bool} {N : Nat} (h : ¬ sz (sg b N) = 0) : N ≠ 0 := by
  intro e; subst e; rw [sg_zero] at h; exact h rfl
theorem tx_negw {b : Bool} {N : Nat} (h : b = true) (hz : ¬ sz (sg b N) = 0) : (asc (dg 10 N) ++ [45]).reverse = tx (sg b N) := by
  have hN := sg_ne hz
  subst h
  have e : (sg true N).natAbs = N := sg_natAbs _ _
  have := tx_neg (z := sg true N) (by show -(N : Int) < 0; omega)
  rwa [e] at this
theorem tx_posw {b : Bool} {N : Nat} (h : b = false) (hz : ¬ sz (sg b N) = 0) : (asc (dg 10 N)).reverse = tx (sg b N) := by
  have hN := sg_ne hz
  subst h
  have e : (sg false N).natAbs = N := sg_natAbs _ _
  have := tx_pos (z := sg false N) (by intro e0; exact hz (sz_eq0.2 e0)) (by show ¬ (N : Int) < 0; omega)
  rwa [e] at this
set_option maxHeartbeats 8000000 in
theorem lowest_wide (v1 : Value) (N M : Nat) (w : World) (h1 : Nt w v1 N) (hN : N < 2 ^ M) (hM : M ≤ 1000000000) :
    Calls Try.prog 46 #[v1] w (LowPost w N) := by
  obtain ⟨a1, n1, c1, rfl⟩ := h1.form
  have bel : Below w.heap.size w w := Below.refl _ _
  refine E.enter (nt := 43) (L := [(0, .slice a1 n1 c1)]) Try.func46 rfl rfl rfl (args_cons (i := 0) rfl args_nil) ?_
  intro a hF
  refine wp_seq ?_
  refine E.seq ?_
  refine E.opv hF (r_assign ev_c) rfl rfl rfl rfl fun a hF => ?_
  refine E.nil ?_
  refine wp_seq ?_
  refine E.seq ?_
  refine E.opv hF (r_assign ev_c) rfl rfl rfl rfl fun a hF => ?_
  refine E.nil ?_
  refine wp_seq ?_
  refine wp_block ?_
  refine E.loop (fun mq a wv => ∃ (sa : Option Addr) (sn : Nat) (sc : Nat) (X : Nat) (la : Option Addr) (ln : Nat) (lc : Nat) (ds : List Nat), vl 10 ds + 10 ^ ds.length * X = N ∧ okb 10 ds ∧ ds.length ≤ M + 9 ∧ Fr 43 a [(3, .slice la ln lc), (2, .slice none 0 0), (0, .slice sa sn sc)] ∧ Below w.heap.size w wv ∧ Nt wv (.slice sa sn sc) X ∧ AccK wv .u8 5 w.heap.size (.slice la ln lc) (asc ds) ∧ mq = X) (N) ?_ ?_
  · exact ⟨a1, n1, c1, N, none, 0, 0, [], (by simp [vl]), (okb_nil _), (Nat.zero_le _), Fr.sub (L' := [(3, .slice none 0 0), (2, .slice none 0 0), (0, .slice a1 n1 c1)]) hF (by intro p hp; simp only [List.mem_cons, List.not_mem_nil, or_false] at hp ⊢; rcases hp with rfl | rfl | rfl <;> simp), bel, h1, (AccK.nil _ _ _ _), rfl⟩
  · rintro mq a w1 ⟨sa, sn, sc, X, la, ln, lc, ds, hq, hok, hln, hF, bel, hx, ha, hm⟩
    by_cases hX : 0 < X
    · refine wp_seq ?_
      refine wp_seq ?_
      refine E.seq ?_
      refine E.opv hF (r_move (hF.at 2 rfl)) rfl rfl rfl rfl fun a hF => ?_
      refine E.call hF (r_call Try.func35 en35.1 en35.2 (map1 (hF.at 0 rfl))) (bits_any _ X _ hx) rfl rfl rfl rfl ?_
      rintro e w2 ⟨rfl, hw⟩
      have bb : Below w1.heap.size w1 w2 := by rw [hw]; exact Below.refl _ _
      clear hw
      refine ⟨_, rfl, ?_⟩
      intro a hF
      replace ha := ha.below bb
      replace hx := hx.below bb
      replace bel := below_to bel bb
      clear bb
      refine E.opv hF (r_bin (hF.at 0 rfl) ev_c eg_scalar (bi_int (ic_gtr (c := true) (dec_tt (bits_yes hX))) (by simp))) rfl rfl rfl rfl fun a hF => ?_
      refine E.nil ?_
      refine wp_cond_true (hF.at 0 rfl) ?_
      refine wp_skip ?_
      refine E.norm ?_
      refine wp_block ?_
      refine wp_seq ?_
      refine E.seq ?_
      refine E.opv hF (r_assign ev_c) rfl rfl rfl rfl fun a hF => ?_
      refine E.nil ?_
      refine wp_seq ?_
      refine E.seq ?_
      refine E.opv hF (r_move (hF.at 6 rfl)) rfl rfl rfl rfl fun a hF => ?_
      refine E.call hF (r_call Try.func82 en82.1 en82.2 (map2 (hF.at 0 rfl) ev_c)) (small9w _ X _ hx) rfl rfl rfl rfl ?_
      rintro e w3 ⟨vv4, rfl, hh5, bb⟩
      refine ⟨_, rfl, ?_⟩
      intro a hF
      replace ha := ha.below bb
      replace hx := hx.below bb
      replace bel := below_to bel bb
      clear bb
      obtain ⟨ad6, n6, c6, rfl⟩ := Dg.form hh5
      refine E.opv hF (r_move (hF.at 0 rfl)) rfl rfl rfl rfl fun a hF => ?_
      refine E.opv hF (r_extract (v := .slice ad6 n6 c6) (hF.at 0 rfl) rfl) rfl rfl rfl rfl fun a hF => ?_
      refine E.opv hF (r_extract (v := .int .u32 ((X % 1000000000 : Nat) : Int)) (hF.at 1 rfl) rfl) rfl rfl rfl rfl fun a hF => ?_
      refine E.opset (L' := [(0, .slice ad6 n6 c6), (12, .int .u32 ((X % 1000000000 : Nat) : Int)), (11, .slice ad6 n6 c6), (8, .tuple #[.slice ad6 n6 c6, .int .u32 ((X % 1000000000 : Nat) : Int)]), (10, .tuple #[.slice ad6 n6 c6, .int .u32 ((X % 1000000000 : Nat) : Int)]), (9, .slice sa sn sc), (4, .int .u32 0), (7, .bool true), (6, .int .i64 (dl 2 (X) : Nat)), (5, .slice sa sn sc), (3, .slice la ln lc), (2, .slice none 0 0)]) hF (r_assign (hF.at 1 rfl)) rfl rfl rfl rfl fun a hF => ?_
      refine E.opset (L' := [(4, .int .u32 ((X % 1000000000 : Nat) : Int)), (0, .slice ad6 n6 c6), (12, .int .u32 ((X % 1000000000 : Nat) : Int)), (11, .slice ad6 n6 c6), (8, .tuple #[.slice ad6 n6 c6, .int .u32 ((X % 1000000000 : Nat) : Int)]), (10, .tuple #[.slice ad6 n6 c6, .int .u32 ((X % 1000000000 : Nat) : Int)]), (9, .slice sa sn sc), (7, .bool true), (6, .int .i64 (dl 2 (X) : Nat)), (5, .slice sa sn sc), (3, .slice la ln lc), (2, .slice none 0 0)]) hF (r_assign (hF.at 1 rfl)) rfl rfl rfl rfl fun a hF => ?_
      refine E.nil ?_
      refine wp_seq ?_
      refine E.seq ?_
      refine E.opv hF (r_move ev_c) rfl rfl rfl rfl fun a hF => ?_
      refine E.nil ?_
      refine wp_block ?_
      refine E.loop (fun mq a wv => ∃ (j : Nat) (r : Nat) (lb : Option Addr) (lm : Nat) (lk : Nat) (es : List Nat), j ≤ 9 ∧ vl 10 es + 10 ^ es.length * (r + 10 ^ (9 - j) * (X / 1000000000)) = N ∧ r < 10 ^ (9 - j) ∧ okb 10 es ∧ es.length = ds.length + j ∧ r ≤ 999999999 ∧ ds.length < M ∧ Fr 43 a [(13, .int .i64 ((j : Nat) : Int)), (4, .int .u32 ((r : Nat) : Int)), (0, .slice ad6 n6 c6), (3, .slice lb lm lk), (2, .slice none 0 0)] ∧ Below w.heap.size w wv ∧ Dg wv .u32 B32 (.slice ad6 n6 c6) ((X / 1000000000)) ∧ AccK wv .u8 5 w.heap.size (.slice lb lm lk) (asc es) ∧ mq = 9 - j) (9 - 0) ?_ ?_
      · exact ⟨0, (X % 1000000000), la, ln, lc, ds, (by omega), (digits_step (L := 0) hq (by omega)), (by omega), hok, (by omega), (by omega), (digits_len hN hq hX), Fr.sub (L' := [(13, .int .i64 ((0 : Nat) : Int)), (4, .int .u32 ((X % 1000000000 : Nat) : Int)), (0, .slice ad6 n6 c6), (3, .slice la ln lc), (2, .slice none 0 0)]) hF (by intro p hp; simp only [List.mem_cons, List.not_mem_nil, or_false] at hp ⊢; rcases hp with rfl | rfl | rfl | rfl | rfl <;> simp), bel, hh5, ha, rfl⟩
      · rintro mq a w7 ⟨j, r, lb, lm, lk, es, hj, hq2, hr2, hok2, hl2, hrb, hdm, hF, bel, hh5, hb, hm⟩
        by_cases hj9 : j < 9
        · refine wp_seq ?_
          refine E.seq ?_
          refine E.opv hF (r_bin (hF.at 0 rfl) ev_c eg_scalar (bi_int (ic_lss (c := true) (dec_tt (by omega))) (by simp))) rfl rfl rfl rfl fun a hF => ?_
          refine E.nil ?_
          refine wp_seq ?_
          refine wp_cond_true (hF.at 0 rfl) ?_
          refine wp_skip ?_
          refine E.norm ?_
          refine wp_seq ?_
          refine wp_block ?_
          refine wp_seq ?_
          refine E.seq ?_
          refine E.opv hF (r_move (hF.at 4 rfl)) rfl rfl rfl rfl fun a hF => ?_
          refine E.opv hF (r_move (hF.at 3 rfl)) rfl rfl rfl rfl fun a hF => ?_
          refine E.opv hF (r_bin (hF.at 0 rfl) ev_c eg_scalar (iw_rem (a := ((r : Nat) : Int)) (b := 10) (by omega) (by omega))) rfl rfl rfl rfl fun a hF => ?_
          refine E.opv hF (r_bin ev_c (hF.at 0 rfl) eg_scalar (iw_add (a := 48) (b := ((r : Nat) : Int) % 10) (w_u32 (by omega) (by omega)))) rfl rfl rfl rfl fun a hF => ?_
          refine E.opv hF (r_conv (hF.at 0 rfl) (cv_kind (k' := .u8) Try.underlying73 Try.underlying5 (w_u8 (by omega) (by omega)))) rfl rfl rfl rfl fun a hF => ?_
          obtain ⟨gl8, w9, hr, bb, ogl8⟩ := bs8 w7 (48 + (((r : Nat) : Int) % 10)) (d := 48 + r % 10) (by omega)
          refine E.opv hF (r_buildSlice (pair1 (hF.at 0 rfl)) hr) rfl rfl rfl rfl fun a hF => ?_
          clear hr
          replace hb := hb.below bb
          replace hh5 := hh5.below bb
          replace bel := below_to bel bb
          clear bb
          obtain ⟨la10, ln11, lc12, w13, hr, ha14, bb, gr⟩ := app8 hb ogl8 (by rw [asc_len]; omega) bel.size
          refine E.opv hF (r_builtin (map2 (hF.at 5 rfl) (hF.at 0 rfl)) hr) rfl rfl rfl rfl fun a hF => ?_
          clear hr
          replace hh5 := gr.dg (by decide) hh5
          replace bel := bel.trans bb
          clear bb gr
          refine E.opset (L' := [(3, .slice la10 ln11 lc12), (21, .slice la10 ln11 lc12), (20, .slice (some ⟨gl8, 0, none⟩) 1 1), (19, .int .u8 (48 + (((r : Nat) : Int) % 10))), (18, .int .u32 (48 + (((r : Nat) : Int) % 10))), (17, .int .u32 (((r : Nat) : Int) % 10)), (16, .int .u32 ((r : Nat) : Int)), (15, .slice lb lm lk), (14, .bool true), (13, .int .i64 ((j : Nat) : Int)), (4, .int .u32 ((r : Nat) : Int)), (0, .slice ad6 n6 c6), (2, .slice none 0 0)]) hF (r_assign (hF.at 0 rfl)) rfl rfl rfl rfl fun a hF => ?_
          refine E.nil ?_
          refine E.seq ?_
          refine E.opv hF (r_move (hF.at 10 rfl)) rfl rfl rfl rfl fun a hF => ?_
          refine E.opv hF (r_bin (hF.at 0 rfl) ev_c eg_scalar (iw_quo (a := ((r : Nat) : Int)) (b := 10) (by omega) (by omega) (w_u32 (by omega) (by omega)))) rfl rfl rfl rfl fun a hF => ?_
          refine E.opset (L' := [(4, .int .u32 (((r : Nat) : Int) / 10)), (23, .int .u32 (((r : Nat) : Int) / 10)), (22, .int .u32 ((r : Nat) : Int)), (3, .slice la10 ln11 lc12), (21, .slice la10 ln11 lc12), (20, .slice (some ⟨gl8, 0, none⟩) 1 1), (19, .int .u8 (48 + (((r : Nat) : Int) % 10))), (18, .int .u32 (48 + (((r : Nat) : Int) % 10))), (17, .int .u32 (((r : Nat) : Int) % 10)), (16, .int .u32 ((r : Nat) : Int)), (15, .slice lb lm lk), (14, .bool true), (13, .int .i64 ((j : Nat) : Int)), (0, .slice ad6 n6 c6), (2, .slice none 0 0)]) hF (r_assign (hF.at 0 rfl)) rfl rfl rfl rfl fun a hF => ?_
          refine E.nil0 ?_
          refine E.blk ?_
          refine E.norm ?_
          refine E.seq ?_
          refine E.opv hF (r_bin (hF.at 12 rfl) ev_c eg_scalar (ia_add (by omega) (by omega))) rfl rfl rfl rfl fun a hF => ?_
          refine E.opset (L' := [(13, .int .i64 (((j : Nat) : Int) + 1)), (24, .int .i64 (((j : Nat) : Int) + 1)), (4, .int .u32 (((r : Nat) : Int) / 10)), (23, .int .u32 (((r : Nat) : Int) / 10)), (22, .int .u32 ((r : Nat) : Int)), (3, .slice la10 ln11 lc12), (21, .slice la10 ln11 lc12), (20, .slice (some ⟨gl8, 0, none⟩) 1 1), (19, .int .u8 (48 + (((r : Nat) : Int) % 10))), (18, .int .u32 (48 + (((r : Nat) : Int) % 10))), (17, .int .u32 (((r : Nat) : Int) % 10)), (16, .int .u32 ((r : Nat) : Int)), (15, .slice lb lm lk), (14, .bool true), (0, .slice ad6 n6 c6), (2, .slice none 0 0)]) hF (r_move (hF.at 0 rfl)) rfl rfl rfl rfl fun a hF => ?_
          refine E.nil0 ?_
          refine E.norm ?_
          exact ⟨9 - (j + 1), by omega, ⟨(j + 1), (r / 10), la10, ln11, lc12, (es ++ [r % 10]), hj9, (digits_in hj9 hq2), (digits_lt hj9 hr2), (okb_append hok2 (okb_one (Nat.mod_lt _ (by decide)))), (by rw [List.length_append, List.length_singleton]; omega), (by omega), hdm, (by rw [show ((j + 1 : Nat) : Int) = ((j : Nat) : Int) + 1 from by omega, show ((r / 10 : Nat) : Int) = ((r : Nat) : Int) / 10 from by omega]; exact Fr.sub (L' := [(13, .int .i64 (((j : Nat) : Int) + 1)), (4, .int .u32 (((r : Nat) : Int) / 10)), (0, .slice ad6 n6 c6), (3, .slice la10 ln11 lc12), (2, .slice none 0 0)]) hF (by intro p hp; simp only [List.mem_cons, List.not_mem_nil, or_false] at hp ⊢; rcases hp with rfl | rfl | rfl | rfl | rfl <;> simp)), bel, hh5, (by rw [asc_snoc]; exact ha14), rfl⟩⟩
        · refine wp_seq ?_
          refine E.seq ?_
          refine E.opv hF (r_bin (hF.at 0 rfl) ev_c eg_scalar (bi_int (ic_lss (c := false) (dec_ff (by omega))) (by simp))) rfl rfl rfl rfl fun a hF => ?_
          refine E.nil ?_
          refine wp_seq ?_
          refine wp_cond_false (hF.at 0 rfl) ?_
          refine wp_exit ?_
          refine E.past ?_
          refine E.past ?_
          refine E.out (id := 2) ?_
          refine E.blk ?_
          refine E.norm ?_
          exact ⟨X / 1000000000, by omega, ⟨ad6, n6, c6, (X / 1000000000), lb, lm, lk, es, (digits_out (by rw [show j = 9 by omega] at hq2; exact hq2) (by rw [show j = 9 by omega] at hr2; exact hr2)), hok2, (by omega), Fr.sub (L' := [(3, .slice lb lm lk), (2, .slice none 0 0), (0, .slice ad6 n6 c6)]) hF (by intro p hp; simp only [List.mem_cons, List.not_mem_nil, or_false] at hp ⊢; rcases hp with rfl | rfl | rfl <;> simp), bel, (Dg.nt hh5), hb, rfl⟩⟩
    · refine wp_seq ?_
      refine wp_seq ?_
      refine E.seq ?_
      refine E.opv hF (r_move (hF.at 2 rfl)) rfl rfl rfl rfl fun a hF => ?_
      refine E.call hF (r_call Try.func35 en35.1 en35.2 (map1 (hF.at 0 rfl))) (bits_any _ X _ hx) rfl rfl rfl rfl ?_
      rintro e w2 ⟨rfl, hw⟩
      have bb : Below w1.heap.size w1 w2 := by rw [hw]; exact Below.refl _ _
      clear hw
      refine ⟨_, rfl, ?_⟩
      intro a hF
      replace ha := ha.below bb
      replace hx := hx.below bb
      replace bel := below_to bel bb
      clear bb
      refine E.opv hF (r_bin (hF.at 0 rfl) ev_c eg_scalar (bi_int (ic_gtr (c := false) (dec_ff (bits_no hX))) (by simp))) rfl rfl rfl rfl fun a hF => ?_
      refine E.nil ?_
      refine wp_cond_false (hF.at 0 rfl) ?_
      refine wp_exit ?_
      refine E.past ?_
      refine E.past ?_
      refine E.out (id := 0) ?_
      refine E.norm ?_
      refine wp_seq ?_
      refine wp_block ?_
      refine E.loop (fun mq a wv => ∃ (lb : Option Addr) (lm : Nat) (lk : Nat) (es : List Nat), vl 10 es = N ∧ okb 10 es ∧ es.length ≤ M + 9 ∧ Fr 43 a [(3, .slice lb lm lk), (2, .slice none 0 0)] ∧ Below w.heap.size w wv ∧ AccK wv .u8 5 w.heap.size (.slice lb lm lk) (asc es) ∧ mq = es.length) (ds.length) ?_ ?_
      · exact ⟨la, ln, lc, ds, (by rw [show X = 0 by omega, Nat.mul_zero, Nat.add_zero] at hq; exact hq), hok, hln, Fr.sub (L' := [(3, .slice la ln lc), (2, .slice none 0 0)]) hF (by intro p hp; simp only [List.mem_cons, List.not_mem_nil, or_false] at hp ⊢; rcases hp with rfl | rfl <;> simp), bel, ha, rfl⟩
      · rintro mq a w3 ⟨lb, lm, lk, es, hq3, hok3, hl3, hF, bel, hc, hm⟩
        have hlm := hc.len
        rw [asc_len] at hlm
        have hcap := hc.cap
        have hll := List.length_take (l := es) (i := es.length - 1)
        refine wp_seq ?_
        refine wp_seq ?_
        refine E.seq ?_
        refine E.opv hF (r_move (hF.at 0 rfl)) rfl rfl rfl rfl fun a hF => ?_
        refine E.opv hF (r_builtin (map1 (hF.at 0 rfl)) bl_u8s) rfl rfl rfl rfl fun a hF => ?_
        by_cases hc4 : 0 < ((lm : Nat) : Int)
        · refine E.opv hF (r_bin (hF.at 0 rfl) ev_c eg_scalar (bi_int (ic_gtr (c := true) (dec_tt hc4)) (by simp))) rfl rfl rfl rfl fun a hF => ?_
          refine E.opv hF (r_move (hF.at 0 rfl)) rfl rfl rfl rfl fun a hF => ?_
          refine E.opvg hF (r_move (hF.at 4 rfl)) (wanted_by rfl rfl (hF.at 0 rfl) rfl) rfl rfl rfl fun a hF => ?_
          refine E.opvg hF (r_move (hF.at 5 rfl)) (wanted_by rfl rfl (hF.at 1 rfl) rfl) rfl rfl rfl fun a hF => ?_
          refine E.opvg hF (r_builtin (map1 (hF.at 0 rfl)) bl_u8s) (wanted_by rfl rfl (hF.at 2 rfl) rfl) rfl rfl rfl fun a hF => ?_
          refine E.opvg hF (r_bin (hF.at 0 rfl) ev_c eg_scalar (ia_sub (by omega) (by omega))) (wanted_by rfl rfl (hF.at 3 rfl) rfl) rfl rfl rfl fun a hF => ?_
          obtain ⟨gr, crs, hag, hbl, hcv, _⟩ := hc.row (i := es.length - 1) (by rw [asc_len]; omega)
          rw [lg_asc (by omega)] at hcv
          refine E.opvg hF (r_index (hF.at 3 rfl) (hF.at 0 rfl) (by rw [hag]; exact ix8 (by omega) (by omega))) (wanted_by rfl rfl (hF.at 4 rfl) rfl) rfl rfl rfl fun a hF => ?_
          refine E.opvg hF (r_load (hF.at 0 rfl) (ldb_u8 hbl (by rw [show ((((lm : Nat) : Int)) - 1).toNat = es.length - 1 from by omega]; exact hcv))) (wanted_by rfl rfl (hF.at 5 rfl) rfl) rfl rfl rfl fun a hF => ?_
          by_cases hc5 : ((48 + lg es (es.length - 1) : Nat) : Int) = 48
          · refine E.opvg hF (r_bin (hF.at 0 rfl) ev_c eg_scalar (bi_int (ic_eql (c := true) (dec_tt hc5)) (by simp))) (wanted_by rfl rfl (hF.at 6 rfl) rfl) rfl rfl rfl fun a hF => ?_
            refine E.opv hF (r_pick_t (hF.at 7 rfl) (hF.at 0 rfl)) rfl rfl rfl rfl fun a hF => ?_
            refine E.nil ?_
            refine wp_cond_true (hF.at 0 rfl) ?_
            refine wp_skip ?_
            refine E.norm ?_
            refine wp_block ?_
            refine E.seq ?_
            refine E.opv hF (r_move (hF.at 12 rfl)) rfl rfl rfl rfl fun a hF => ?_
            refine E.opv hF (r_move (hF.at 13 rfl)) rfl rfl rfl rfl fun a hF => ?_
            refine E.opv hF (r_builtin (map1 (hF.at 0 rfl)) bl_u8s) rfl rfl rfl rfl fun a hF => ?_
            refine E.opv hF (r_bin (hF.at 0 rfl) ev_c eg_scalar (ia_sub (by omega) (by omega))) rfl rfl rfl rfl fun a hF => ?_
            have ha6 := (hc).take (lm - 1) (by rw [asc_len]; omega) (by rw [asc_len]; omega)
            refine E.opv hF (r_slice (hF.at 3 rfl) (hF.at 0 rfl) (sl8 (m := lm - 1) (by omega) (by omega))) rfl rfl rfl rfl fun a hF => ?_
            refine E.opset (L' := [(3, .slice lb (lm - 1) lk), (41, .slice lb (lm - 1) lk), (40, .int .i64 (((lm : Nat) : Int) - 1)), (39, .int .i64 ((lm : Nat) : Int)), (38, .slice lb lm lk), (37, .slice lb lm lk), (36, .bool true), (35, .bool true), (34, .int .u8 ((48 + lg es (es.length - 1) : Nat) : Int)), (33, .pointer (some ⟨gr, (((lm : Nat) : Int) - 1).toNat, none⟩)), (32, .int .i64 (((lm : Nat) : Int) - 1)), (31, .int .i64 ((lm : Nat) : Int)), (30, .slice lb lm lk), (29, .slice lb lm lk), (28, .bool true), (27, .bool true), (26, .int .i64 ((lm : Nat) : Int)), (25, .slice lb lm lk), (2, .slice none 0 0)]) hF (r_assign (hF.at 0 rfl)) rfl rfl rfl rfl fun a hF => ?_
            refine E.nil0 ?_
            refine E.blk ?_
            refine E.norm ?_
            exact ⟨(es.take (es.length - 1)).length, by omega, ⟨lb, (lm - 1), lk, (es.take (es.length - 1)), ((vl_cut (by omega) (by omega)).trans hq3), (okb_take hok3 _), (by rw [List.length_take]; omega), Fr.sub (L' := [(3, .slice lb (lm - 1) lk), (2, .slice none 0 0)]) hF (by intro p hp; simp only [List.mem_cons, List.not_mem_nil, or_false] at hp ⊢; rcases hp with rfl | rfl <;> simp), bel, (by rw [asc_take, ← hlm]; exact ha6), rfl⟩⟩
          · refine E.opvg hF (r_bin (hF.at 0 rfl) ev_c eg_scalar (bi_int (ic_eql (c := false) (dec_ff hc5)) (by simp))) (wanted_by rfl rfl (hF.at 6 rfl) rfl) rfl rfl rfl fun a hF => ?_
            refine E.opv hF (r_pick_t (hF.at 7 rfl) (hF.at 0 rfl)) rfl rfl rfl rfl fun a hF => ?_
            refine E.nil ?_
            refine wp_cond_false (hF.at 0 rfl) ?_
            refine wp_exit ?_
            refine E.past ?_
            refine E.past ?_
            refine E.out (id := 4) ?_
            refine E.norm ?_
            refine wp_seq ?_
            refine E.seq ?_
            refine E.opv hF (r_move (hF.at 12 rfl)) rfl rfl rfl rfl fun a hF => ?_
            refine E.opset (L' := [(2, .slice lb lm lk), (42, .slice lb lm lk), (36, .bool false), (35, .bool false), (34, .int .u8 ((48 + lg es (es.length - 1) : Nat) : Int)), (33, .pointer (some ⟨gr, (((lm : Nat) : Int) - 1).toNat, none⟩)), (32, .int .i64 (((lm : Nat) : Int) - 1)), (31, .int .i64 ((lm : Nat) : Int)), (30, .slice lb lm lk), (29, .slice lb lm lk), (28, .bool true), (27, .bool true), (26, .int .i64 ((lm : Nat) : Int)), (25, .slice lb lm lk), (3, .slice lb lm lk)]) hF (r_assign (hF.at 0 rfl)) rfl rfl rfl rfl fun a hF => ?_
            refine E.nil ?_
            refine wp_ret ?_
            refine bodyPost_ret (res_tmp Try.results46 (hF.at 0 rfl)) hF.dfr ?_
            have hn : norm es := by
              intro hp
              omega
            have e : dg 10 N = es := by rw [← hq3]; exact dg_unique (by decide) hok3 hn
            exact ⟨_, rfl, by rw [e]; exact hc, bel⟩
        · refine E.opv hF (r_bin (hF.at 0 rfl) ev_c eg_scalar (bi_int (ic_gtr (c := false) (dec_ff hc4)) (by simp))) rfl rfl rfl rfl fun a hF => ?_
          refine E.opv hF (r_move (hF.at 0 rfl)) rfl rfl rfl rfl fun a hF => ?_
          refine E.unwanted hF (wanted_by rfl rfl (hF.at 0 rfl) rfl) rfl rfl rfl fun a hF => ?_
          refine E.unwanted hF (wanted_by rfl rfl (hF.at 1 rfl) rfl) rfl rfl rfl fun a hF => ?_
          refine E.unwanted hF (wanted_by rfl rfl (hF.at 2 rfl) rfl) rfl rfl rfl fun a hF => ?_
          refine E.unwanted hF (wanted_by rfl rfl (hF.at 3 rfl) rfl) rfl rfl rfl fun a hF => ?_
          refine E.unwanted hF (wanted_by rfl rfl (hF.at 4 rfl) rfl) rfl rfl rfl fun a hF => ?_
          refine E.unwanted hF (wanted_by rfl rfl (hF.at 5 rfl) rfl) rfl rfl rfl fun a hF => ?_
          refine E.unwanted hF (wanted_by rfl rfl (hF.at 6 rfl) rfl) rfl rfl rfl fun a hF => ?_
          refine E.opv hF (r_pick_f (hF.at 7 rfl) ev_c) rfl rfl rfl rfl fun a hF => ?_
          refine E.nil ?_
          refine wp_cond_false (hF.at 0 rfl) ?_
          refine wp_exit ?_
          refine E.past ?_
          refine E.past ?_
          refine E.out (id := 4) ?_
          refine E.norm ?_
          refine wp_seq ?_
          refine E.seq ?_
          refine E.opv hF (r_move (hF.at 12 rfl)) rfl rfl rfl rfl fun a hF => ?_
          refine E.opset (L' := [(2, .slice lb lm lk), (42, .slice lb lm lk), (36, .bool false), (35, undef), (34, undef), (33, undef), (32, undef), (31, undef), (30, undef), (29, undef), (28, .bool false), (27, .bool false), (26, .int .i64 ((lm : Nat) : Int)), (25, .slice lb lm lk), (3, .slice lb lm lk)]) hF (r_assign (hF.at 0 rfl)) rfl rfl rfl rfl fun a hF => ?_
          refine E.nil ?_
          refine wp_ret ?_
          refine bodyPost_ret (res_tmp Try.results46 (hF.at 0 rfl)) hF.dfr ?_
          have hn : norm es := by
            intro hp
            omega
          have e : dg 10 N = es := by rw [← hq3]; exact dg_unique (by decide) hok3 hn
          exact ⟨_, rfl, by rw [e]; exact hc, bel⟩

set_option maxHeartbeats 8000000 in
theorem dtext_wide (v1 : Value) (z1 : Int) (M : Nat) (w : World) (h1 : Wz w v1 z1) (hN : z1.natAbs < 2 ^ M) (hM : M ≤ 1000000000) :
    Calls Try.prog 16 #[v1] w (ValPost w (.string (bstr (tx z1)))) := by
  obtain ⟨neg1, ad1, n1, c1, N1, rfl, hN1, rfl⟩ := h1.shape
  have h1 : Wz w (.agg #[.bool neg1, .slice ad1 n1 c1]) (sg neg1 N1) := ⟨_, _, _, rfl, hN1, rfl⟩
  rw [sg_natAbs] at hN
  have hdl := dl10_le hN
  have bel : Below w.heap.size w w := Below.refl _ _
  refine E.enter (nt := 19) (L := [(0, .agg #[.bool neg1, .slice ad1 n1 c1])]) Try.func16 rfl rfl rfl (args_cons (i := 0) rfl args_nil) ?_
  intro a hF
  refine wp_seq ?_
  refine E.seq ?_
  obtain ⟨g1, w1, ge1, hr, bb, o1⟩ := own_box (P := Try.prog) (w := w) (cs := [.bool neg1, .slice ad1 n1 c1]) (v := .agg #[.bool neg1, .slice ad1 n1 c1]) 37 rfl (niB (niS ni0))
  replace ge1 : w.heap.size ≤ g1 := by rw [← ge1]; exact bel.size
  refine E.opv hF (r_box (hF.at 0 rfl) hr) rfl rfl rfl rfl fun a hF => ?_
  clear hr
  replace h1 := h1.below bb
  replace hN1 := hN1.below bb
  replace bel := below_to bel bb
  clear bb
  refine E.opv hF (r_assign ev_c) rfl rfl rfl rfl fun a hF => ?_
  refine E.nil ?_
  refine wp_seq ?_
  refine wp_seq ?_
  refine E.seq ?_
  refine E.opv hF (r_load (hF.at 1 rfl) (ld_Int (vs := [.bool neg1, .slice ad1 n1 c1]) o1 rfl rfl)) rfl rfl rfl rfl fun a hF => ?_
  refine E.call hF (r_call Try.func45 en45.1 en45.2 (map1 (hF.at 0 rfl))) (whSign_any _ _ _ h1) rfl rfl rfl rfl ?_
  rintro e w2 ⟨rfl, bb⟩
  refine ⟨_, rfl, ?_⟩
  intro a hF
  replace hN1 := hN1.below bb
  replace h1 := h1.below bb
  replace o1 := o1.below bb
  replace bel := below_to bel bb
  clear bb
  by_cases hc3 : sz (sg neg1 N1) = 0
  · refine E.opv hF (r_bin (hF.at 0 rfl) ev_c eg_scalar (bi_int (ic_eql (c := true) (dec_tt hc3)) (by simp))) rfl rfl rfl rfl fun a hF => ?_
    refine E.nil ?_
    refine wp_cond_true (hF.at 0 rfl) ?_
    refine wp_seq ?_
    refine E.seq ?_
    refine E.opset (L' := [(2, .string (bstr [48])), (6, .bool true), (5, .int .i64 (sz (sg neg1 N1))), (4, .agg #[.bool neg1, .slice ad1 n1 c1]), (1, .pointer (some ⟨g1, 0, none⟩)), (0, .agg #[.bool neg1, .slice ad1 n1 c1])]) hF (r_assign ev_c) rfl rfl rfl rfl fun a hF => ?_
    refine E.nil ?_
    refine wp_ret ?_
    refine bodyPost_ret (res_tmp Try.results16 (hF.at 0 rfl)) hF.dfr ?_
    exact ⟨rv_str (tx_zero (sz_eq0.1 hc3)), bel⟩
  · refine E.opv hF (r_bin (hF.at 0 rfl) ev_c eg_scalar (bi_int (ic_eql (c := false) (dec_ff hc3)) (by simp))) rfl rfl rfl rfl fun a hF => ?_
    refine E.nil ?_
    refine wp_cond_false (hF.at 0 rfl) ?_
    refine wp_skip ?_
    refine E.norm ?_
    refine wp_seq ?_
    refine E.seq ?_
    refine E.opv hF (r_field (hF.at 4 rfl) (fa_Int_1 (p := 1) rfl)) rfl rfl rfl rfl fun a hF => ?_
    refine E.opv hF (r_load (hF.at 0 rfl) (ld_Nat (v := .slice ad1 n1 c1) o1 rfl)) rfl rfl rfl rfl fun a hF => ?_
    refine E.call hF (r_call Try.func46 en46.1 en46.2 (map1 (hF.at 0 rfl))) (lowest_wide _ (N1) M _ hN1 (by first | assumption | omega) hM) rfl rfl rfl rfl ?_
    rintro e w4 ⟨vv5, rfl, hh6, bb⟩
    refine ⟨_, rfl, ?_⟩
    intro a hF
    have hdp := dl10_pos (N := N1) (sg_ne (by assumption))
    replace hh6 := hh6.rebase bel.size
    obtain ⟨advv5, cpvv5, rfl⟩ := hh6.form
    replace hN1 := hN1.below bb
    replace h1 := h1.below bb
    replace o1 := o1.below bb
    replace bel := below_to bel bb
    clear bb
    refine E.opv hF (r_assign (hF.at 0 rfl)) rfl rfl rfl rfl fun a hF => ?_
    refine E.nil ?_
    refine wp_seq ?_
    refine wp_seq ?_
    refine E.seq ?_
    refine E.opv hF (r_field (hF.at 8 rfl) (fa_Int_0 (p := 0) rfl)) rfl rfl rfl rfl fun a hF => ?_
    refine E.opv hF (r_load (hF.at 0 rfl) (ld_bool (v := .bool neg1) o1 rfl)) rfl rfl rfl rfl fun a hF => ?_
    refine E.nil ?_
    by_cases hc7 : neg1 = true
    · refine wp_cond_true (Eq.trans (hF.at 0 rfl) (congrArg Value.bool hc7)) ?_
      refine E.seq ?_
      refine E.opv hF (r_move (hF.at 2 rfl)) rfl rfl rfl rfl fun a hF => ?_
      obtain ⟨gl8, w9, hr, bb, ogl8⟩ := bs8 w4 (45) (d := 45) (by omega)
      refine E.opv hF (r_buildSlice (pair1 ev_c) hr) rfl rfl rfl rfl fun a hF => ?_
      clear hr
      replace hh6 := hh6.below bb
      replace bel := below_to bel bb
      clear bb
      obtain ⟨la10, ln11, lc12, w13, hr, ha14, bb, gr⟩ := app8 hh6 ogl8 (by rw [asc_dg]; omega) bel.size
      refine E.opv hF (r_builtin (map2 (hF.at 1 rfl) (hF.at 0 rfl)) hr) rfl rfl rfl rfl fun a hF => ?_
      clear hr
      replace bel := bel.trans bb
      clear bb gr
      refine E.opset (L' := [(3, .slice la10 ln11 lc12), (14, .slice la10 ln11 lc12), (13, .slice (some ⟨gl8, 0, none⟩) 1 1), (12, .slice advv5 (List.length (asc (dg 10 (N1)))) cpvv5), (11, .bool neg1), (10, .pointer (some ⟨g1, 0, none⟩)), (9, .slice advv5 (List.length (asc (dg 10 (N1)))) cpvv5), (8, .slice ad1 n1 c1), (7, .pointer (some ⟨g1, 1, none⟩)), (6, .bool false), (5, .int .i64 (sz (sg neg1 N1))), (4, .agg #[.bool neg1, .slice ad1 n1 c1]), (2, .string (bstr [])), (1, .pointer (some ⟨g1, 0, none⟩)), (0, .agg #[.bool neg1, .slice ad1 n1 c1])]) hF (r_assign (hF.at 0 rfl)) rfl rfl rfl rfl fun a hF => ?_
      refine E.nil ?_
      refine wp_seq ?_
      refine E.seq ?_
      refine E.opv hF (r_move (hF.at 0 rfl)) rfl rfl rfl rfl fun a hF => ?_
      refine E.call hF (r_call Try.func47 en47.1 en47.2 (map1 (hF.at 0 rfl))) (reverse_acc _ w.heap.size ((asc (dg 10 (N1))) ++ [45]) _ ha14 bel.size (by first | (simp only [asc_dg]; omega) | (simp only [List.length_append, asc_dg, List.length_cons, List.length_nil]; omega)) (by first | (simp only [asc_dg]; omega) | (simp only [List.length_append, asc_dg, List.length_cons, List.length_nil]; omega))) rfl rfl rfl rfl ?_
      rintro e w15 ⟨rfl, ha16, bb, gr⟩
      refine ⟨_, rfl, ?_⟩
      intro a hF
      replace bel := bel.trans bb
      clear bb gr
      refine E.nil ?_
      refine wp_seq ?_
      refine E.seq ?_
      refine E.opv hF (r_move (hF.at 2 rfl)) rfl rfl rfl rfl fun a hF => ?_
      refine E.opv hF (r_conv (hF.at 0 rfl) (cv_str (AccK.sqb ha16))) rfl rfl rfl rfl fun a hF => ?_
      refine E.opset (L' := [(2, .string (bstr (((asc (dg 10 (N1))) ++ [45]).reverse))), (18, .string (bstr (((asc (dg 10 (N1))) ++ [45]).reverse))), (17, .slice la10 ln11 lc12), (16, .tuple #[]), (15, .slice la10 ln11 lc12), (3, .slice la10 ln11 lc12), (14, .slice la10 ln11 lc12), (13, .slice (some ⟨gl8, 0, none⟩) 1 1), (12, .slice advv5 (List.length (asc (dg 10 (N1)))) cpvv5), (11, .bool neg1), (10, .pointer (some ⟨g1, 0, none⟩)), (9, .slice advv5 (List.length (asc (dg 10 (N1)))) cpvv5), (8, .slice ad1 n1 c1), (7, .pointer (some ⟨g1, 1, none⟩)), (6, .bool false), (5, .int .i64 (sz (sg neg1 N1))), (4, .agg #[.bool neg1, .slice ad1 n1 c1]), (1, .pointer (some ⟨g1, 0, none⟩)), (0, .agg #[.bool neg1, .slice ad1 n1 c1])]) hF (r_assign (hF.at 0 rfl)) rfl rfl rfl rfl fun a hF => ?_
      refine E.nil ?_
      refine wp_ret ?_
      refine bodyPost_ret (res_tmp Try.results16 (hF.at 0 rfl)) hF.dfr ?_
      exact ⟨rv_str (tx_negw hc7 hc3), bel⟩
    · refine wp_cond_false (Eq.trans (hF.at 0 rfl) (congrArg Value.bool (eq_false_of_ne_true hc7))) ?_
      refine wp_skip ?_
      refine E.norm ?_
      refine wp_seq ?_
      refine E.seq ?_
      refine E.opv hF (r_move (hF.at 2 rfl)) rfl rfl rfl rfl fun a hF => ?_
      refine E.call hF (r_call Try.func47 en47.1 en47.2 (map1 (hF.at 0 rfl))) (reverse_acc _ w.heap.size ((asc (dg 10 (N1)))) _ hh6 bel.size (by first | (simp only [asc_dg]; omega) | (simp only [List.length_append, asc_dg, List.length_cons, List.length_nil]; omega)) (by first | (simp only [asc_dg]; omega) | (simp only [List.length_append, asc_dg, List.length_cons, List.length_nil]; omega))) rfl rfl rfl rfl ?_
      rintro e w17 ⟨rfl, ha18, bb, gr⟩
      refine ⟨_, rfl, ?_⟩
      intro a hF
      replace bel := bel.trans bb
      clear bb gr
      refine E.nil ?_
      refine wp_seq ?_
      refine E.seq ?_
      refine E.opv hF (r_move (hF.at 4 rfl)) rfl rfl rfl rfl fun a hF => ?_
      refine E.opv hF (r_conv (hF.at 0 rfl) (cv_str (AccK.sqb ha18))) rfl rfl rfl rfl fun a hF => ?_
      refine E.opset (L' := [(2, .string (bstr (((asc (dg 10 (N1)))).reverse))), (18, .string (bstr (((asc (dg 10 (N1)))).reverse))), (17, .slice advv5 (List.length (asc (dg 10 (N1)))) cpvv5), (16, .tuple #[]), (15, .slice advv5 (List.length (asc (dg 10 (N1)))) cpvv5), (11, .bool neg1), (10, .pointer (some ⟨g1, 0, none⟩)), (3, .slice advv5 (List.length (asc (dg 10 (N1)))) cpvv5), (9, .slice advv5 (List.length (asc (dg 10 (N1)))) cpvv5), (8, .slice ad1 n1 c1), (7, .pointer (some ⟨g1, 1, none⟩)), (6, .bool false), (5, .int .i64 (sz (sg neg1 N1))), (4, .agg #[.bool neg1, .slice ad1 n1 c1]), (1, .pointer (some ⟨g1, 0, none⟩)), (0, .agg #[.bool neg1, .slice ad1 n1 c1])]) hF (r_assign (hF.at 0 rfl)) rfl rfl rfl rfl fun a hF => ?_
      refine E.nil ?_
      refine wp_ret ?_
      refine bodyPost_ret (res_tmp Try.results16 (hF.at 0 rfl)) hF.dfr ?_
      exact ⟨rv_str (tx_posw (eq_false_of_ne_true hc7) hc3), bel⟩

end Go.Proofs.Ythoiocjbjfhgpaa
