/- NatSums. -/
import Derived.Test.YthoiocjbjfhgpaaNuW
import Derived.Test.YthoiocjbjfhgpaaGO
import Derived.Test.YthoiocjbjfhgpaaGG
import Derived.Test.YthoiocjbjfhgpaaGL
namespace Go.Proofs.Ythoiocjbjfhgpaa
open Go.RowKit
set_option maxRecDepth 100000
set_option linter.unusedVariables false

set_option maxHeartbeats 8000000 in
theorem natSums_walk (ad0 ad1 : Option Addr) (cap0 cap1 no : Nat) (xss : List (List Nat)) (w : World) (hl : LIn w ad0 xss) (hok : ∀ i, okb B32 (xss.getD i [])) (ho : OIn w ad1 no) :
    Calls Try.prog 3 #[.slice ad0 xss.length cap0, .slice ad1 no cap1] w (TruePost w) := by
  have bel : Below w.heap.size w w := Below.refl _ _
  refine E.enter (nt := 87) (L := [(0, .slice ad0 xss.length cap0), (1, .slice ad1 no cap1)]) Try.func3 rfl rfl rfl (args_cons (i := 0) rfl (args_cons (i := 1) rfl args_nil)) ?_
  intro a hF
  refine wp_seq ?_
  refine E.seq ?_
  refine E.opv hF (r_assign ev_c) rfl rfl rfl rfl fun a hF => ?_
  refine E.nil ?_
  refine wp_seq ?_
  refine wp_seq ?_
  refine E.seq ?_
  refine E.call hF (r_call Try.func7 en7.1 en7.2 map0) (awake_any _) rfl rfl rfl rfl ?_
  rintro e w1 ⟨rfl, bb⟩
  refine ⟨_, rfl, ?_⟩
  intro a hF
  replace bel := below_to bel bb
  clear bb
  refine E.opv hF (r_un (hF.at 0 rfl) (bn_not _ false rfl)) rfl rfl rfl rfl fun a hF => ?_
  refine E.nil ?_
  refine wp_cond_false (hF.at 0 rfl) ?_
  refine wp_skip ?_
  refine E.norm ?_
  refine wp_seq ?_
  refine E.seq ?_
  refine E.opv hF (r_assign ev_c) rfl rfl rfl rfl fun a hF => ?_
  refine E.nil ?_
  refine wp_seq ?_
  refine E.seq ?_
  obtain ⟨av0, w2, hr, bb, hA⟩ := bs_ints0 w1
  refine E.opv hF (r_buildSlice (by simp) hr) rfl rfl rfl rfl fun a hF => ?_
  clear hr
  replace bel := below_to bel bb
  clear bb
  refine E.opv hF (r_assign (hF.at 0 rfl)) rfl rfl rfl rfl fun a hF => ?_
  refine E.nil ?_
  refine wp_seq ?_
  refine wp_seq ?_
  refine E.seq ?_
  refine E.opv hF (r_assign ev_c) rfl rfl rfl rfl fun a hF => ?_
  refine E.nil ?_
  refine wp_block ?_
  refine E.loop (fun mq a wv => ∃ (i : Nat) (ns : List Nat) (oa : Option Addr) (oc : Nat) (av : Value), i ≤ 8 ∧ ns.length = i ∧ ns.sum ≤ i * 2 ^ 160 ∧ Fr 87 a [(7, .int .i64 ((i : Nat) : Int)), (6, av), (5, .slice oa ns.length oc), (4, .bool false), (0, .slice ad0 xss.length cap0), (1, .slice ad1 no cap1)] ∧ Below w.heap.size w wv ∧ NAcc wv w.heap.size (.slice oa ns.length oc) ns ∧ Dg wv .i64 2 av ns.sum ∧ mq = 8 - i) (8 - 0) ?_ ?_
  · exact ⟨0, [], none, 0, av0, (by omega), rfl, (by simp), Fr.sub (L' := [(7, .int .i64 ((0 : Nat) : Int)), (6, av0), (5, .slice none (List.length ([] : List Nat)) 0), (4, .bool false), (0, .slice ad0 xss.length cap0), (1, .slice ad1 no cap1)]) hF (by intro p hp; simp only [List.mem_cons, List.not_mem_nil, or_false] at hp ⊢; rcases hp with rfl | rfl | rfl | rfl | rfl | rfl <;> simp), bel, (NAcc.nil _ _), hA, rfl⟩
  · rintro mq a w3 ⟨i, ns, oa, oc, av, hi8, hil, hsm, hF, bel, hO, hA, hm⟩
    have hfl := fewlim (xss.getD i []) (hok i)
    refine wp_seq ?_
    refine wp_seq ?_
    refine E.seq ?_
    refine E.opv hF (r_move (hF.at 0 rfl)) rfl rfl rfl rfl fun a hF => ?_
    refine E.opv hF (r_move (hF.at 5 rfl)) rfl rfl rfl rfl fun a hF => ?_
    refine E.opv hF (r_builtin (map1 (hF.at 0 rfl)) bl_lin) rfl rfl rfl rfl fun a hF => ?_
    by_cases hc4 : ((i : Nat) : Int) < ((xss.length : Nat) : Int)
    · refine E.opv hF (r_bin (hF.at 2 rfl) (hF.at 0 rfl) eg_scalar (bi_int (ic_lss (c := true) (dec_tt hc4)) (by simp))) rfl rfl rfl rfl fun a hF => ?_
      refine E.opv hF (r_move (hF.at 0 rfl)) rfl rfl rfl rfl fun a hF => ?_
      refine E.opvg hF (r_move (hF.at 5 rfl)) (wanted_by rfl rfl (hF.at 0 rfl) rfl) rfl rfl rfl fun a hF => ?_
      by_cases hc5 : ((i : Nat) : Int) < 8
      · refine E.opvg hF (r_bin (hF.at 0 rfl) ev_c eg_scalar (bi_int (ic_lss (c := true) (dec_tt hc5)) (by simp))) (wanted_by rfl rfl (hF.at 1 rfl) rfl) rfl rfl rfl fun a hF => ?_
        refine E.opv hF (r_pick_t (hF.at 2 rfl) (hF.at 0 rfl)) rfl rfl rfl rfl fun a hF => ?_
        refine E.nil ?_
        refine wp_cond_true (hF.at 0 rfl) ?_
        refine wp_skip ?_
        refine E.norm ?_
        refine wp_seq ?_
        refine wp_block ?_
        refine wp_seq ?_
        refine E.seq ?_
        refine E.opv hF (r_move (hF.at 10 rfl)) rfl rfl rfl rfl fun a hF => ?_
        refine E.opv hF (r_move (hF.at 13 rfl)) rfl rfl rfl rfl fun a hF => ?_
        refine E.opv hF (r_move (hF.at 10 rfl)) rfl rfl rfl rfl fun a hF => ?_
        obtain ⟨lb1, lo1, la1, ln1, lk1, lad1, lcell1, lx1⟩ := hl.at bel (i := i) (by omega)
        skip
        refine E.opv hF (r_index (hF.at 1 rfl) (hF.at 0 rfl) (by rw [lad1]; exact ix_lin (i := i) rfl (by omega))) rfl rfl rfl rfl fun a hF => ?_
        refine E.opv hF (r_load (hF.at 0 rfl) (ld_cell Try.underlying26 rfl lcell1)) rfl rfl rfl rfl fun a hF => ?_
        refine E.call hF (r_call Try.func8 en8.1 en8.2 (map2 (hF.at 0 rfl) ev_c)) (few5_any _ _ _ (xss.getD i []) _ lx1) rfl rfl rfl rfl ?_
        rintro e w6 ⟨vv7, rfl, hh8, bb⟩
        refine ⟨_, rfl, ?_⟩
        intro a hF
        replace hO := hO.below bb
        replace hA := hA.below bb
        replace bel := below_to bel bb
        clear bb
        obtain ⟨fa2, fn2, fc2, rfl⟩ := hh8.form
        obtain ⟨gq10, w9, egq10, hr, bb, ogq10⟩ := bs_nat1 w6 fa2 fn2 fc2
        refine E.opv hF (r_buildSlice (pair1 (hF.at 0 rfl)) hr) rfl rfl rfl rfl fun a hF => ?_
        clear hr egq10
        replace hO := hO.below bb
        replace hA := hA.below bb
        replace hh8 := hh8.below bb
        replace bel := below_to bel bb
        clear bb
        obtain ⟨la12, ln13, lc14, w11, hr, hN15, gg, kp, bb, hnw⟩ := app_nat hO ogq10 hh8.nt (by omega) bel.size
        obtain rfl := hN15.len
        refine E.opv hF (r_builtin (map2 (hF.at 6 rfl) (hF.at 0 rfl)) hr) rfl rfl rfl rfl fun a hF => ?_
        clear hr
        replace hA := hA.keep kp
        replace bel := bel.trans bb
        clear bb gg kp hnw
        refine E.opset (L' := [(5, .slice la12 (ns ++ [vl B32 (List.take 5 (xss.getD i []))]).length lc14), (32, .slice la12 (ns ++ [vl B32 (List.take 5 (xss.getD i []))]).length lc14), (31, .slice (some ⟨gq10, 0, none⟩) 1 1), (30, .slice fa2 fn2 fc2), (29, .slice la1 ln1 lk1), (28, .pointer (some ⟨lb1, lo1 + i, none⟩)), (27, .int .i64 ((i : Nat) : Int)), (26, .slice ad0 xss.length cap0), (25, .slice oa ns.length oc), (22, .bool true), (21, .bool true), (20, .int .i64 ((i : Nat) : Int)), (19, .bool true), (18, .bool true), (17, .int .i64 ((xss.length : Nat) : Int)), (16, .slice ad0 xss.length cap0), (15, .int .i64 ((i : Nat) : Int)), (7, .int .i64 ((i : Nat) : Int)), (6, av), (4, .bool false), (0, .slice ad0 xss.length cap0), (1, .slice ad1 no cap1)]) hF (r_assign (hF.at 0 rfl)) rfl rfl rfl rfl fun a hF => ?_
        refine E.nil ?_
        refine E.seq ?_
        refine E.opv hF (r_move (hF.at 18 rfl)) rfl rfl rfl rfl fun a hF => ?_
        refine E.opv hF (r_move (hF.at 21 rfl)) rfl rfl rfl rfl fun a hF => ?_
        refine E.opv hF (r_move (hF.at 19 rfl)) rfl rfl rfl rfl fun a hF => ?_
        obtain ⟨lb3, lo3, la3, ln3, lk3, lad3, lcell3, lx3⟩ := hl.at bel (i := i) (by omega)
        skip
        refine E.opv hF (r_index (hF.at 1 rfl) (hF.at 0 rfl) (by rw [lad3]; exact ix_lin (i := i) rfl (by omega))) rfl rfl rfl rfl fun a hF => ?_
        refine E.opv hF (r_load (hF.at 0 rfl) (ld_cell Try.underlying26 rfl lcell3)) rfl rfl rfl rfl fun a hF => ?_
        refine E.call hF (r_call Try.func8 en8.1 en8.2 (map2 (hF.at 0 rfl) ev_c)) (few5_any _ _ _ (xss.getD i []) _ lx3) rfl rfl rfl rfl ?_
        rintro e w16 ⟨vv17, rfl, hh18, bb⟩
        refine ⟨_, rfl, ?_⟩
        intro a hF
        replace hA := hA.below bb
        replace hN15 := hN15.below bb
        replace bel := below_to bel bb
        clear bb
        refine E.call hF (r_call Try.func10 en10.1 en10.2 (map1 (hF.at 0 rfl))) (bits5_any _ _ _ hh18) rfl rfl rfl rfl ?_
        rintro e w19 ⟨vv20, rfl, hh21, bb⟩
        refine ⟨_, rfl, ?_⟩
        intro a hF
        replace hA := hA.below bb
        replace hN15 := hN15.below bb
        replace bel := below_to bel bb
        clear bb
        refine E.call hF (r_call Try.func9 en9.1 en9.2 (map2 (hF.at 6 rfl) (hF.at 0 rfl))) (radd_any _ _ _ _ _ hA hh21 (Nat.max_lt.2 ⟨dl2_lim (bnd8 hsm hi8), dl2_lim (Nat.le_trans hfl (Nat.le_mul_of_pos_left _ (by decide)))⟩)) rfl rfl rfl rfl ?_
        rintro e w22 ⟨vv23, rfl, hh24, bb⟩
        refine ⟨_, rfl, ?_⟩
        intro a hF
        replace hN15 := hN15.below bb
        replace hA := hA.below bb
        replace bel := below_to bel bb
        clear bb
        refine E.opset (L' := [(6, vv23), (40, vv23), (39, vv20), (38, vv17), (37, .slice la3 ln3 lk3), (36, .pointer (some ⟨lb3, lo3 + i, none⟩)), (35, .int .i64 ((i : Nat) : Int)), (34, .slice ad0 xss.length cap0), (33, av), (5, .slice la12 (ns ++ [vl B32 (List.take 5 (xss.getD i []))]).length lc14), (32, .slice la12 (ns ++ [vl B32 (List.take 5 (xss.getD i []))]).length lc14), (31, .slice (some ⟨gq10, 0, none⟩) 1 1), (30, .slice fa2 fn2 fc2), (29, .slice la1 ln1 lk1), (28, .pointer (some ⟨lb1, lo1 + i, none⟩)), (27, .int .i64 ((i : Nat) : Int)), (26, .slice ad0 xss.length cap0), (25, .slice oa ns.length oc), (22, .bool true), (21, .bool true), (20, .int .i64 ((i : Nat) : Int)), (19, .bool true), (18, .bool true), (17, .int .i64 ((xss.length : Nat) : Int)), (16, .slice ad0 xss.length cap0), (15, .int .i64 ((i : Nat) : Int)), (7, .int .i64 ((i : Nat) : Int)), (4, .bool false), (0, .slice ad0 xss.length cap0), (1, .slice ad1 no cap1)]) hF (r_assign (hF.at 0 rfl)) rfl rfl rfl rfl fun a hF => ?_
        refine E.nil0 ?_
        refine E.blk ?_
        refine E.norm ?_
        refine E.seq ?_
        refine E.opv hF (r_move (hF.at 26 rfl)) rfl rfl rfl rfl fun a hF => ?_
        refine E.opv hF (r_bin (hF.at 0 rfl) ev_c eg_scalar (ia_add (by omega) (by omega))) rfl rfl rfl rfl fun a hF => ?_
        refine E.opset (L' := [(7, .int .i64 (((i : Nat) : Int) + 1)), (24, .int .i64 (((i : Nat) : Int) + 1)), (23, .int .i64 ((i : Nat) : Int)), (6, vv23), (40, vv23), (39, vv20), (38, vv17), (37, .slice la3 ln3 lk3), (36, .pointer (some ⟨lb3, lo3 + i, none⟩)), (35, .int .i64 ((i : Nat) : Int)), (34, .slice ad0 xss.length cap0), (33, av), (5, .slice la12 (ns ++ [vl B32 (List.take 5 (xss.getD i []))]).length lc14), (32, .slice la12 (ns ++ [vl B32 (List.take 5 (xss.getD i []))]).length lc14), (31, .slice (some ⟨gq10, 0, none⟩) 1 1), (30, .slice fa2 fn2 fc2), (29, .slice la1 ln1 lk1), (28, .pointer (some ⟨lb1, lo1 + i, none⟩)), (27, .int .i64 ((i : Nat) : Int)), (26, .slice ad0 xss.length cap0), (25, .slice oa ns.length oc), (22, .bool true), (21, .bool true), (20, .int .i64 ((i : Nat) : Int)), (19, .bool true), (18, .bool true), (17, .int .i64 ((xss.length : Nat) : Int)), (16, .slice ad0 xss.length cap0), (15, .int .i64 ((i : Nat) : Int)), (4, .bool false), (0, .slice ad0 xss.length cap0), (1, .slice ad1 no cap1)]) hF (r_assign (hF.at 0 rfl)) rfl rfl rfl rfl fun a hF => ?_
        refine E.nil0 ?_
        refine E.norm ?_
        exact ⟨8 - (i + 1), by omega, ⟨i + 1, (ns ++ [vl B32 (List.take 5 (xss.getD i []))]), la12, lc14, vv23, (by omega), (by simp; omega), (by have := fewlim (xss.getD i []) (hok i); rw [sum_snoc]; omega), (by rw [show (((i + 1 : Nat)) : Int) = ((i : Nat) : Int) + 1 from by omega]; exact Fr.sub (L' := [(7, .int .i64 (((i : Nat) : Int) + 1)), (6, vv23), (5, .slice la12 (ns ++ [vl B32 (List.take 5 (xss.getD i []))]).length lc14), (4, .bool false), (0, .slice ad0 xss.length cap0), (1, .slice ad1 no cap1)]) hF (by intro p hp; simp only [List.mem_cons, List.not_mem_nil, or_false] at hp ⊢; rcases hp with rfl | rfl | rfl | rfl | rfl | rfl <;> simp)), bel, hN15, (by rw [sum_snoc]; exact hh24), rfl⟩⟩
      · refine E.opvg hF (r_bin (hF.at 0 rfl) ev_c eg_scalar (bi_int (ic_lss (c := false) (dec_ff hc5)) (by simp))) (wanted_by rfl rfl (hF.at 1 rfl) rfl) rfl rfl rfl fun a hF => ?_
        refine E.opv hF (r_pick_t (hF.at 2 rfl) (hF.at 0 rfl)) rfl rfl rfl rfl fun a hF => ?_
        refine E.nil ?_
        refine wp_cond_false (hF.at 0 rfl) ?_
        refine wp_exit ?_
        refine E.past ?_
        refine E.past ?_
        refine E.out (id := 0) ?_
        refine E.norm ?_
        refine wp_seq ?_
        refine E.seq ?_
        obtain ⟨gl0, w25, egl0, hr, bb, ogl0⟩ := bs_nats0 w3
        refine E.opv hF (r_buildSlice (by simp) hr) rfl rfl rfl rfl fun a hF => ?_
        clear hr egl0
        replace hA := hA.below bb
        replace hO := hO.below bb
        replace bel := below_to bel bb
        clear bb
        refine E.opv hF (r_move (hF.at 11 rfl)) rfl rfl rfl rfl fun a hF => ?_
        obtain ⟨lg0, lc0, lcs0, w26, hr, bb, oL0, hE0, hcl0, hlc0⟩ := copy_nat hO ogl0 (by omega)
        refine E.opv hF (r_builtin (map2 (hF.at 1 rfl) (hF.at 0 rfl)) hr) rfl rfl rfl rfl fun a hF => ?_
        clear hr
        replace hA := hA.below bb
        replace hO := hO.below bb
        replace bel := below_to bel bb
        clear bb
        refine E.opv hF (r_assign (hF.at 0 rfl)) rfl rfl rfl rfl fun a hF => ?_
        refine E.nil ?_
        refine wp_seq ?_
        refine E.seq ?_
        refine E.opv hF (r_assign ev_c) rfl rfl rfl rfl fun a hF => ?_
        refine E.nil ?_
        refine wp_seq ?_
        refine wp_seq ?_
        refine E.seq ?_
        refine E.opv hF (r_assign ev_c) rfl rfl rfl rfl fun a hF => ?_
        refine E.nil ?_
        refine wp_block ?_
        have hw1 := bel.size
        have sty0 : Since w26 w26 := Below.refl _ _
        refine E.loop (fun mq a wv => ∃ (j : Nat) (nt : List Nat) (nl : List Nat) (ta : Option Addr) (tc : Nat) (lg : Nat) (lc : Nat) (lcs : List Value), nt.sum + nl.sum = ns.sum ∧ nt.length + nl.length = ns.length ∧ (Value.slice ta nt.length tc).ownBlock ≠ some lg ∧ nl.length ≤ lcs.length ∧ nl.length ≤ lc ∧ j = nt.length ∧ Fr 87 a [(10, .int .i64 ((j : Nat) : Int)), (9, .slice ta nt.length tc), (8, .slice (some ⟨lg, 0, none⟩) nl.length lc), (6, av), (5, .slice oa ns.length oc), (4, .bool false), (1, .slice ad1 no cap1)] ∧ Below w.heap.size w wv ∧ Since w26 wv ∧ NAcc wv w26.heap.size (.slice ta nt.length tc) nt ∧ Own wv lg lcs ∧ NEl wv lcs nl ∧ mq = nl.length) (ns.length) ?_ ?_
        · exact ⟨0, [], ns, none, 0, lg0, lc0, lcs0, (by simp), (by simp), (by simp [Value.ownBlock]), hcl0, hlc0, rfl, Fr.sub (L' := [(10, .int .i64 ((0 : Nat) : Int)), (9, .slice none (List.length ([] : List Nat)) 0), (8, .slice (some ⟨lg0, 0, none⟩) ns.length lc0), (6, av), (5, .slice oa ns.length oc), (4, .bool false), (1, .slice ad1 no cap1)]) hF (by intro p hp; simp only [List.mem_cons, List.not_mem_nil, or_false] at hp ⊢; rcases hp with rfl | rfl | rfl | rfl | rfl | rfl | rfl <;> simp), bel, sty0, (NAcc.nil _ _), oL0, hE0, rfl⟩
        · rintro mq a w27 ⟨j, nt, nl, ta, tc, lg, lc, lcs, hsum, hlen, hnz, hcl, hlc, hj, hF, bel, sty, hT, oL, hE, hm⟩
          by_cases hp : 0 < nl.length
          · refine wp_seq ?_
            refine wp_seq ?_
            refine E.seq ?_
            refine E.opv hF (r_move (hF.at 2 rfl)) rfl rfl rfl rfl fun a hF => ?_
            refine E.opv hF (r_builtin (map1 (hF.at 0 rfl)) bl_nats) rfl rfl rfl rfl fun a hF => ?_
            refine E.opv hF (r_bin (hF.at 0 rfl) ev_c eg_scalar (bi_int (ic_gtr (c := true) (by simp only [decide_eq_true_eq]; omega)) (by simp))) rfl rfl rfl rfl fun a hF => ?_
            refine E.nil ?_
            refine wp_cond_true (hF.at 0 rfl) ?_
            refine wp_skip ?_
            refine E.norm ?_
            refine wp_seq ?_
            refine wp_block ?_
            refine wp_seq ?_
            refine E.seq ?_
            refine E.opv hF (r_assign ev_c) rfl rfl rfl rfl fun a hF => ?_
            refine E.nil ?_
            refine wp_seq ?_
            refine wp_seq ?_
            refine E.seq ?_
            refine E.opv hF (r_move (hF.at 4 rfl)) rfl rfl rfl rfl fun a hF => ?_
            refine E.opv hF (r_move (hF.at 11 rfl)) rfl rfl rfl rfl fun a hF => ?_
            refine E.opv hF (r_builtin (map1 (hF.at 0 rfl)) bl_oin) rfl rfl rfl rfl fun a hF => ?_
            by_cases hc28 : ((j : Nat) : Int) < ((no : Nat) : Int)
            · refine E.opv hF (r_bin (hF.at 2 rfl) (hF.at 0 rfl) eg_scalar (bi_int (ic_lss (c := true) (dec_tt hc28)) (by simp))) rfl rfl rfl rfl fun a hF => ?_
              refine E.nil ?_
              refine wp_cond_true (hF.at 0 rfl) ?_
              refine E.seq ?_
              refine E.opv hF (r_move (hF.at 14 rfl)) rfl rfl rfl rfl fun a hF => ?_
              refine E.opv hF (r_move (hF.at 9 rfl)) rfl rfl rfl rfl fun a hF => ?_
              obtain ⟨ob, oo, oz, oad, ocell⟩ := ho.at bel (i := j) (by omega)
              refine E.opv hF (r_index (hF.at 1 rfl) (hF.at 0 rfl) (by rw [oad]; exact ix_oin (i := j) rfl (by omega))) rfl rfl rfl rfl fun a hF => ?_
              refine E.opv hF (r_load (hF.at 0 rfl) (ld_cell Try.underlying3 rfl ocell)) rfl rfl rfl rfl fun a hF => ?_
              refine E.opv hF (r_bin (hF.at 0 rfl) ev_c eg_scalar (id_and (n := 8) (by decide) (d := 256) (by decide) (by decide))) rfl rfl rfl rfl fun a hF => ?_
              refine E.opv hF (r_move (hF.at 15 rfl)) rfl rfl rfl rfl fun a hF => ?_
              refine E.opv hF (r_builtin (map1 (hF.at 0 rfl)) bl_nats) rfl rfl rfl rfl fun a hF => ?_
              refine E.opv hF (r_bin (hF.at 2 rfl) (hF.at 0 rfl) eg_scalar (id_rem (a := oz % 256) (b := ((nl.length : Nat) : Int)) (by omega))) rfl rfl rfl rfl fun a hF => ?_
              refine E.opset (L' := [(11, .int .i64 (if 0 ≤ oz % 256 then (oz % 256) % ((nl.length : Nat) : Int) else -(-(oz % 256) % ((nl.length : Nat) : Int)))), (60, .int .i64 (if 0 ≤ oz % 256 then (oz % 256) % ((nl.length : Nat) : Int) else -(-(oz % 256) % ((nl.length : Nat) : Int)))), (59, .int .i64 ((nl.length : Nat) : Int)), (58, .slice (some ⟨lg, 0, none⟩) nl.length lc), (57, .int .i64 (oz % 256)), (56, .int .i64 oz), (55, .pointer (some ⟨ob, oo + j, none⟩)), (54, .int .i64 ((j : Nat) : Int)), (53, .slice ad1 no cap1), (52, .bool true), (51, .int .i64 ((no : Nat) : Int)), (50, .slice ad1 no cap1), (49, .int .i64 ((j : Nat) : Int)), (46, .bool true), (45, .int .i64 ((nl.length : Nat) : Int)), (44, .slice (some ⟨lg, 0, none⟩) nl.length lc), (10, .int .i64 ((j : Nat) : Int)), (9, .slice ta nt.length tc), (8, .slice (some ⟨lg, 0, none⟩) nl.length lc), (6, av), (5, .slice oa ns.length oc), (4, .bool false), (1, .slice ad1 no cap1)]) hF (r_assign (hF.at 0 rfl)) rfl rfl rfl rfl fun a hF => ?_
              obtain ⟨K, hK⟩ : ∃ K : Int, K = (if 0 ≤ oz % 256 then (oz % 256) % ((nl.length : Nat) : Int) else -(-(oz % 256) % ((nl.length : Nat) : Int))) := ⟨_, rfl⟩
              have hK0 : 0 ≤ K ∧ K < ((nl.length : Nat) : Int) := by
                rw [hK]
                have hpos : (0 : Int) < ((nl.length : Nat) : Int) := by omega
                have e1 := Int.emod_nonneg (oz % 256) (b := ((nl.length : Nat) : Int)) (by omega)
                have e2 := Int.emod_lt_of_pos (oz % 256) hpos
                split <;> omega
              rw [← hK] at hF
              clear hK
              obtain ⟨hK0, hK1⟩ := hK0
              refine E.nil ?_
              refine wp_seq ?_
              refine E.seq ?_
              refine E.opv hF (r_move (hF.at 17 rfl)) rfl rfl rfl rfl fun a hF => ?_
              refine E.opv hF (r_move (hF.at 19 rfl)) rfl rfl rfl rfl fun a hF => ?_
              refine E.opv hF (r_move (hF.at 2 rfl)) rfl rfl rfl rfl fun a hF => ?_
              obtain ⟨xa, xn, xc, hcx, hx⟩ := hE (K.toNat) (by omega)
              refine E.opv hF (r_index (hF.at 1 rfl) (hF.at 0 rfl) (ix_natz (i := (K.toNat)) (by omega) (by omega))) rfl rfl rfl rfl fun a hF => ?_
              refine E.opv hF (r_load (hF.at 0 rfl) (ld_cell Try.underlying27 rfl (oL.cellN hcx))) rfl rfl rfl rfl fun a hF => ?_
              obtain ⟨gq30, w29, egq30, hr, bb, ogq30⟩ := bs_nat1 w27 xa xn xc
              refine E.opv hF (r_buildSlice (pair1 (hF.at 0 rfl)) hr) rfl rfl rfl rfl fun a hF => ?_
              clear hr egq30
              replace hT := hT.below bb
              replace hx := hx.below bb
              replace sty := sty.below bb
              replace oL := oL.below bb
              replace hE := hE.below bb
              replace bel := below_to bel bb
              clear bb
              obtain ⟨la32, ln33, lc34, w31, hr, hN35, gg, kp, bb, hnw⟩ := app_nat hT ogq30 hx (by omega) sty.size
              obtain rfl := hN35.len
              refine E.opv hF (r_builtin (map2 (hF.at 5 rfl) (hF.at 0 rfl)) hr) rfl rfl rfl rfl fun a hF => ?_
              clear hr
              have hnz2 := hnw _ oL.lt hnz
              replace oL := oL.grown gg (fun e => hnz e.symm)
              replace hE := hE.keep kp
              replace sty := sty.app bb
              replace bel := bel.trans (below_less bb hw1)
              replace hnz := hnz2
              clear hnz2
              clear bb gg kp hnw
              refine E.opset (L' := [(9, .slice la32 (nt ++ [nl.getD (K.toNat) 0]).length lc34), (67, .slice la32 (nt ++ [nl.getD (K.toNat) 0]).length lc34), (66, .slice (some ⟨gq30, 0, none⟩) 1 1), (65, .slice xa xn xc), (64, .pointer (some ⟨lg, 0 + (K.toNat), none⟩)), (63, .int .i64 K), (62, .slice (some ⟨lg, 0, none⟩) nl.length lc), (61, .slice ta nt.length tc), (11, .int .i64 K), (60, .int .i64 K), (59, .int .i64 ((nl.length : Nat) : Int)), (58, .slice (some ⟨lg, 0, none⟩) nl.length lc), (57, .int .i64 (oz % 256)), (56, .int .i64 oz), (55, .pointer (some ⟨ob, oo + j, none⟩)), (54, .int .i64 ((j : Nat) : Int)), (53, .slice ad1 no cap1), (52, .bool true), (51, .int .i64 ((no : Nat) : Int)), (50, .slice ad1 no cap1), (49, .int .i64 ((j : Nat) : Int)), (46, .bool true), (45, .int .i64 ((nl.length : Nat) : Int)), (44, .slice (some ⟨lg, 0, none⟩) nl.length lc), (10, .int .i64 ((j : Nat) : Int)), (8, .slice (some ⟨lg, 0, none⟩) nl.length lc), (6, av), (5, .slice oa ns.length oc), (4, .bool false), (1, .slice ad1 no cap1)]) hF (r_assign (hF.at 0 rfl)) rfl rfl rfl rfl fun a hF => ?_
              refine E.nil ?_
              refine E.drawn 8 mixed hF [68, 69, 70, 71, 72, 73, 74, 75] [(fun _ v => v = .slice (some ⟨lg, 0, none⟩) nl.length lc), (fun _ v => v = .int .i64 K), (fun _ v => v = .int .i64 K), (fun _ v => v = .slice (some ⟨lg, 0, none⟩) (K.toNat) (K.toNat)), (fun _ v => v = .slice (some ⟨lg, 0, none⟩) nl.length lc), (fun _ v => v = .int .i64 K), (fun _ v => v = .int .i64 (K + 1)), (fun _ v => v = .slice (lsa lg (K.toNat) lc) (nl.length - ((K.toNat) + 1)) (lc - ((K.toNat) + 1)))] [] (by decide +kernel) (by decide +kernel) rfl rfl rfl ⟨(Mb.eq _), (Mb.eq _), (Mb.eq _), (Mb.eq _), (Mb.eq _), (Mb.eq _), (Mb.eq _), (Mb.eq _), trivial⟩ trivial ⟨?_, ?_, ?_, ?_, ?_, ?_, ?_, ?_, trivial⟩ ?_
              · intro a' w' hF' hb hd
                exact if_does (wanted_free rfl) (Does.vals (r_move (hF'.at 25 rfl)) ⟨rfl, Below.refl _ _, (fun h => absurd h (by decide))⟩)
              · intro a' w' hF' hb hd
                exact if_does (wanted_free rfl) (Does.vals (r_move (hF'.at 8 rfl)) ⟨rfl, Below.refl _ _, (fun h => absurd h (by decide))⟩)
              · intro a' w' hF' hb hd
                exact if_does (wanted_free rfl) (Does.vals (r_move (hF'.at 8 rfl)) ⟨rfl, Below.refl _ _, (fun h => absurd h (by decide))⟩)
              · intro a' w' hF' hb hd
                have e68 : a'.tmps.getD 68 undef = .slice (some ⟨lg, 0, none⟩) nl.length lc := hd _ 68 (Array.mem_of_getElem? (i := 0) rfl) rfl rfl
                have e69 : a'.tmps.getD 69 undef = .int .i64 K := hd _ 69 (Array.mem_of_getElem? (i := 1) rfl) rfl rfl
                have e70 : a'.tmps.getD 70 undef = .int .i64 K := hd _ 70 (Array.mem_of_getElem? (i := 2) rfl) rfl rfl
                exact if_does (wanted_free rfl) (Does.vals (r_slice3 e68 e69 e70 (sl_3 (k := (K.toNat)) (by omega) (by omega))) ⟨rfl, Below.refl _ _, (fun h => absurd h (by decide))⟩)
              · intro a' w' hF' hb hd
                exact if_does (wanted_free rfl) (Does.vals (r_move (hF'.at 25 rfl)) ⟨rfl, Below.refl _ _, (fun h => absurd h (by decide))⟩)
              · intro a' w' hF' hb hd
                exact if_does (wanted_free rfl) (Does.vals (r_move (hF'.at 8 rfl)) ⟨rfl, Below.refl _ _, (fun h => absurd h (by decide))⟩)
              · intro a' w' hF' hb hd
                have e73 : a'.tmps.getD 73 undef = .int .i64 K := hd _ 73 (Array.mem_of_getElem? (i := 0) rfl) rfl rfl
                exact if_does (wanted_free rfl) (Does.vals (r_bin e73 ev_c eg_scalar (ia_add (by omega) (by omega))) ⟨rfl, Below.refl _ _, (fun h => absurd h (by decide))⟩)
              · intro a' w' hF' hb hd
                have e72 : a'.tmps.getD 72 undef = .slice (some ⟨lg, 0, none⟩) nl.length lc := hd _ 72 (Array.mem_of_getElem? (i := 0) rfl) rfl rfl
                have e74 : a'.tmps.getD 74 undef = .int .i64 (K + 1) := hd _ 74 (Array.mem_of_getElem? (i := 1) rfl) rfl rfl
                exact if_does (wanted_free rfl) (Does.vals (r_sliceN e72 e74 (sl_lo (k := (K.toNat)) (by omega) (by omega) (by omega))) ⟨rfl, Below.refl _ _, (fun h => absurd h (by decide))⟩)
              intro a w36 hF bb hall hne
              have e71 : a.tmps.getD 71 undef = .slice (some ⟨lg, 0, none⟩) (K.toNat) (K.toNat) := hall 3 71 rfl
              have e75 : a.tmps.getD 75 undef = .slice (lsa lg (K.toNat) lc) (nl.length - ((K.toNat) + 1)) (lc - ((K.toNat) + 1)) := hall 7 75 rfl
              clear hall hne
              replace hN35 := hN35.below bb
              replace sty := sty.below bb
              replace oL := oL.below bb
              replace hE := hE.below bb
              replace bel := below_to bel bb
              clear bb
              replace hF := hF.add e71
              clear e71
              replace hF := hF.add e75
              clear e75
              obtain ⟨lg2, lc2, lcs2, w37, hr, bb, oL2, ht2, hor2, hcc2⟩ := cat_new oL (k := (K.toNat)) (by omega) (ya := lsa lg (K.toNat) lc) (m := nl.length - ((K.toNat) + 1)) (yc := lc - ((K.toNat) + 1)) (news := (lcs.drop ((K.toNat) + 1)).take (nl.length - ((K.toNat) + 1))) (by rw [List.length_take, List.length_drop]; omega) (lsa_cells oL hlc) (fun u hu => oL.2 u (List.mem_of_mem_drop (List.mem_of_mem_take hu))) (by omega)
              refine E.opv hF (r_builtin (map2 (hF.at 1 rfl) (hF.at 0 rfl)) hr) rfl rfl rfl rfl fun a hF => ?_
              clear hr
              obtain ⟨hE2, hcl2⟩ := del_left (k := (K.toNat)) (by omega) rfl hE hcl bb ht2
              have hnz2 : (Value.slice la32 (nt ++ [nl.getD (K.toNat) 0]).length lc34).ownBlock ≠ some lg2 := by
                rcases hor2 with h | h
                · rw [h]; exact hnz
                · exact fun e => by have := (hN35.lt _ e).2; omega
              replace hN35 := hN35.below bb
              replace sty := sty.below bb
              replace bel := below_to bel bb
              rw [delq_len (by omega)] at hF hcc2
              clear bb
              refine E.opset (L' := [(8, .slice (some ⟨lg2, 0, none⟩) (delq nl (K.toNat)).length lc2), (76, .slice (some ⟨lg2, 0, none⟩) (delq nl (K.toNat)).length lc2), (75, .slice (lsa lg (K.toNat) lc) (nl.length - ((K.toNat) + 1)) (lc - ((K.toNat) + 1))), (71, .slice (some ⟨lg, 0, none⟩) (K.toNat) (K.toNat)), (9, .slice la32 (nt ++ [nl.getD (K.toNat) 0]).length lc34), (67, .slice la32 (nt ++ [nl.getD (K.toNat) 0]).length lc34), (66, .slice (some ⟨gq30, 0, none⟩) 1 1), (65, .slice xa xn xc), (64, .pointer (some ⟨lg, 0 + (K.toNat), none⟩)), (63, .int .i64 K), (62, .slice (some ⟨lg, 0, none⟩) nl.length lc), (61, .slice ta nt.length tc), (11, .int .i64 K), (60, .int .i64 K), (59, .int .i64 ((nl.length : Nat) : Int)), (58, .slice (some ⟨lg, 0, none⟩) nl.length lc), (57, .int .i64 (oz % 256)), (56, .int .i64 oz), (55, .pointer (some ⟨ob, oo + j, none⟩)), (54, .int .i64 ((j : Nat) : Int)), (53, .slice ad1 no cap1), (52, .bool true), (51, .int .i64 ((no : Nat) : Int)), (50, .slice ad1 no cap1), (49, .int .i64 ((j : Nat) : Int)), (46, .bool true), (45, .int .i64 ((nl.length : Nat) : Int)), (44, .slice (some ⟨lg, 0, none⟩) nl.length lc), (10, .int .i64 ((j : Nat) : Int)), (6, av), (5, .slice oa ns.length oc), (4, .bool false), (1, .slice ad1 no cap1)]) hF (r_assign (hF.at 0 rfl)) rfl rfl rfl rfl fun a hF => ?_
              refine E.nil0 ?_
              refine E.blk ?_
              refine E.norm ?_
              refine E.seq ?_
              refine E.opv hF (r_move (hF.at 28 rfl)) rfl rfl rfl rfl fun a hF => ?_
              refine E.opv hF (r_bin (hF.at 0 rfl) ev_c eg_scalar (ia_add (by omega) (by omega))) rfl rfl rfl rfl fun a hF => ?_
              refine E.opset (L' := [(10, .int .i64 (((j : Nat) : Int) + 1)), (48, .int .i64 (((j : Nat) : Int) + 1)), (47, .int .i64 ((j : Nat) : Int)), (8, .slice (some ⟨lg2, 0, none⟩) (delq nl (K.toNat)).length lc2), (76, .slice (some ⟨lg2, 0, none⟩) (delq nl (K.toNat)).length lc2), (75, .slice (lsa lg (K.toNat) lc) (nl.length - ((K.toNat) + 1)) (lc - ((K.toNat) + 1))), (71, .slice (some ⟨lg, 0, none⟩) (K.toNat) (K.toNat)), (9, .slice la32 (nt ++ [nl.getD (K.toNat) 0]).length lc34), (67, .slice la32 (nt ++ [nl.getD (K.toNat) 0]).length lc34), (66, .slice (some ⟨gq30, 0, none⟩) 1 1), (65, .slice xa xn xc), (64, .pointer (some ⟨lg, 0 + (K.toNat), none⟩)), (63, .int .i64 K), (62, .slice (some ⟨lg, 0, none⟩) nl.length lc), (61, .slice ta nt.length tc), (11, .int .i64 K), (60, .int .i64 K), (59, .int .i64 ((nl.length : Nat) : Int)), (58, .slice (some ⟨lg, 0, none⟩) nl.length lc), (57, .int .i64 (oz % 256)), (56, .int .i64 oz), (55, .pointer (some ⟨ob, oo + j, none⟩)), (54, .int .i64 ((j : Nat) : Int)), (53, .slice ad1 no cap1), (52, .bool true), (51, .int .i64 ((no : Nat) : Int)), (50, .slice ad1 no cap1), (49, .int .i64 ((j : Nat) : Int)), (46, .bool true), (45, .int .i64 ((nl.length : Nat) : Int)), (44, .slice (some ⟨lg, 0, none⟩) nl.length lc), (6, av), (5, .slice oa ns.length oc), (4, .bool false), (1, .slice ad1 no cap1)]) hF (r_assign (hF.at 0 rfl)) rfl rfl rfl rfl fun a hF => ?_
              refine E.nil0 ?_
              refine E.norm ?_
              have hdl := delq_len (ns := nl) (k := (K.toNat)) (by omega)
              exact ⟨(delq nl (K.toNat)).length, by omega, ⟨j + 1, (nt ++ [nl.getD (K.toNat) 0]), (delq nl (K.toNat)), la32, lc34, lg2, lc2, lcs2, (by have := delq_sum (ns := nl) (k := (K.toNat)) (by omega); rw [sum_snoc]; omega), (by rw [← delq_len (by omega)]; simp; omega), hnz2, hcl2, (by have := delq_len (ns := nl) (k := (K.toNat)) (by omega); omega), (by simp; omega), (by rw [show (((j + 1 : Nat)) : Int) = ((j : Nat) : Int) + 1 from by omega]; exact Fr.sub (L' := [(10, .int .i64 (((j : Nat) : Int) + 1)), (9, .slice la32 (nt ++ [nl.getD (K.toNat) 0]).length lc34), (8, .slice (some ⟨lg2, 0, none⟩) (delq nl (K.toNat)).length lc2), (6, av), (5, .slice oa ns.length oc), (4, .bool false), (1, .slice ad1 no cap1)]) hF (by intro p hp; simp only [List.mem_cons, List.not_mem_nil, or_false] at hp ⊢; rcases hp with rfl | rfl | rfl | rfl | rfl | rfl | rfl <;> simp)), bel, sty, hN35, oL2, hE2, rfl⟩⟩
            · refine E.opv hF (r_bin (hF.at 2 rfl) (hF.at 0 rfl) eg_scalar (bi_int (ic_lss (c := false) (dec_ff hc28)) (by simp))) rfl rfl rfl rfl fun a hF => ?_
              refine E.nil ?_
              refine wp_cond_false (hF.at 0 rfl) ?_
              refine wp_skip ?_
              refine E.norm ?_
              refine wp_seq ?_
              refine E.seq ?_
              refine E.opv hF (r_move (hF.at 9 rfl)) rfl rfl rfl rfl fun a hF => ?_
              refine E.opv hF (r_move (hF.at 11 rfl)) rfl rfl rfl rfl fun a hF => ?_
              refine E.opv hF (r_move (hF.at 6 rfl)) rfl rfl rfl rfl fun a hF => ?_
              obtain ⟨xa, xn, xc, hcx, hx⟩ := hE 0 (by omega)
              refine E.opv hF (r_index (hF.at 1 rfl) (hF.at 0 rfl) (ix_natz (i := 0) (by omega) (by omega))) rfl rfl rfl rfl fun a hF => ?_
              refine E.opv hF (r_load (hF.at 0 rfl) (ld_cell Try.underlying27 rfl (oL.cellN hcx))) rfl rfl rfl rfl fun a hF => ?_
              obtain ⟨gq39, w38, egq39, hr, bb, ogq39⟩ := bs_nat1 w27 xa xn xc
              refine E.opv hF (r_buildSlice (pair1 (hF.at 0 rfl)) hr) rfl rfl rfl rfl fun a hF => ?_
              clear hr egq39
              replace hT := hT.below bb
              replace hx := hx.below bb
              replace sty := sty.below bb
              replace oL := oL.below bb
              replace hE := hE.below bb
              replace bel := below_to bel bb
              clear bb
              obtain ⟨la41, ln42, lc43, w40, hr, hN44, gg, kp, bb, hnw⟩ := app_nat hT ogq39 hx (by omega) sty.size
              obtain rfl := hN44.len
              refine E.opv hF (r_builtin (map2 (hF.at 5 rfl) (hF.at 0 rfl)) hr) rfl rfl rfl rfl fun a hF => ?_
              clear hr
              have hnz2 := hnw _ oL.lt hnz
              replace oL := oL.grown gg (fun e => hnz e.symm)
              replace hE := hE.keep kp
              replace sty := sty.app bb
              replace bel := bel.trans (below_less bb hw1)
              replace hnz := hnz2
              clear hnz2
              clear bb gg kp hnw
              refine E.opset (L' := [(9, .slice la41 (nt ++ [nl.getD 0 0]).length lc43), (67, .slice la41 (nt ++ [nl.getD 0 0]).length lc43), (66, .slice (some ⟨gq39, 0, none⟩) 1 1), (65, .slice xa xn xc), (64, .pointer (some ⟨lg, 0 + 0, none⟩)), (63, .int .i64 0), (62, .slice (some ⟨lg, 0, none⟩) nl.length lc), (61, .slice ta nt.length tc), (52, .bool false), (51, .int .i64 ((no : Nat) : Int)), (50, .slice ad1 no cap1), (49, .int .i64 ((j : Nat) : Int)), (11, .int .i64 0), (46, .bool true), (45, .int .i64 ((nl.length : Nat) : Int)), (44, .slice (some ⟨lg, 0, none⟩) nl.length lc), (10, .int .i64 ((j : Nat) : Int)), (8, .slice (some ⟨lg, 0, none⟩) nl.length lc), (6, av), (5, .slice oa ns.length oc), (4, .bool false), (1, .slice ad1 no cap1)]) hF (r_assign (hF.at 0 rfl)) rfl rfl rfl rfl fun a hF => ?_
              refine E.nil ?_
              refine E.drawn 8 mixed hF [68, 69, 70, 71, 72, 73, 74, 75] [(fun _ v => v = .slice (some ⟨lg, 0, none⟩) nl.length lc), (fun _ v => v = .int .i64 0), (fun _ v => v = .int .i64 0), (fun _ v => v = .slice (some ⟨lg, 0, none⟩) 0 0), (fun _ v => v = .slice (some ⟨lg, 0, none⟩) nl.length lc), (fun _ v => v = .int .i64 0), (fun _ v => v = .int .i64 (0 + 1)), (fun _ v => v = .slice (lsa lg 0 lc) (nl.length - (0 + 1)) (lc - (0 + 1)))] [] (by decide +kernel) (by decide +kernel) rfl rfl rfl ⟨(Mb.eq _), (Mb.eq _), (Mb.eq _), (Mb.eq _), (Mb.eq _), (Mb.eq _), (Mb.eq _), (Mb.eq _), trivial⟩ trivial ⟨?_, ?_, ?_, ?_, ?_, ?_, ?_, ?_, trivial⟩ ?_
              · intro a' w' hF' hb hd
                exact if_does (wanted_free rfl) (Does.vals (r_move (hF'.at 17 rfl)) ⟨rfl, Below.refl _ _, (fun h => absurd h (by decide))⟩)
              · intro a' w' hF' hb hd
                exact if_does (wanted_free rfl) (Does.vals (r_move (hF'.at 12 rfl)) ⟨rfl, Below.refl _ _, (fun h => absurd h (by decide))⟩)
              · intro a' w' hF' hb hd
                exact if_does (wanted_free rfl) (Does.vals (r_move (hF'.at 12 rfl)) ⟨rfl, Below.refl _ _, (fun h => absurd h (by decide))⟩)
              · intro a' w' hF' hb hd
                have e68 : a'.tmps.getD 68 undef = .slice (some ⟨lg, 0, none⟩) nl.length lc := hd _ 68 (Array.mem_of_getElem? (i := 0) rfl) rfl rfl
                have e69 : a'.tmps.getD 69 undef = .int .i64 0 := hd _ 69 (Array.mem_of_getElem? (i := 1) rfl) rfl rfl
                have e70 : a'.tmps.getD 70 undef = .int .i64 0 := hd _ 70 (Array.mem_of_getElem? (i := 2) rfl) rfl rfl
                exact if_does (wanted_free rfl) (Does.vals (r_slice3 e68 e69 e70 (sl_3 (k := 0) (by omega) (by omega))) ⟨rfl, Below.refl _ _, (fun h => absurd h (by decide))⟩)
              · intro a' w' hF' hb hd
                exact if_does (wanted_free rfl) (Does.vals (r_move (hF'.at 17 rfl)) ⟨rfl, Below.refl _ _, (fun h => absurd h (by decide))⟩)
              · intro a' w' hF' hb hd
                exact if_does (wanted_free rfl) (Does.vals (r_move (hF'.at 12 rfl)) ⟨rfl, Below.refl _ _, (fun h => absurd h (by decide))⟩)
              · intro a' w' hF' hb hd
                have e73 : a'.tmps.getD 73 undef = .int .i64 0 := hd _ 73 (Array.mem_of_getElem? (i := 0) rfl) rfl rfl
                exact if_does (wanted_free rfl) (Does.vals (r_bin e73 ev_c eg_scalar (ia_add (by omega) (by omega))) ⟨rfl, Below.refl _ _, (fun h => absurd h (by decide))⟩)
              · intro a' w' hF' hb hd
                have e72 : a'.tmps.getD 72 undef = .slice (some ⟨lg, 0, none⟩) nl.length lc := hd _ 72 (Array.mem_of_getElem? (i := 0) rfl) rfl rfl
                have e74 : a'.tmps.getD 74 undef = .int .i64 (0 + 1) := hd _ 74 (Array.mem_of_getElem? (i := 1) rfl) rfl rfl
                exact if_does (wanted_free rfl) (Does.vals (r_sliceN e72 e74 (sl_lo (k := 0) (by omega) (by omega) (by omega))) ⟨rfl, Below.refl _ _, (fun h => absurd h (by decide))⟩)
              intro a w45 hF bb hall hne
              have e71 : a.tmps.getD 71 undef = .slice (some ⟨lg, 0, none⟩) 0 0 := hall 3 71 rfl
              have e75 : a.tmps.getD 75 undef = .slice (lsa lg 0 lc) (nl.length - (0 + 1)) (lc - (0 + 1)) := hall 7 75 rfl
              clear hall hne
              replace hN44 := hN44.below bb
              replace sty := sty.below bb
              replace oL := oL.below bb
              replace hE := hE.below bb
              replace bel := below_to bel bb
              clear bb
              replace hF := hF.add e71
              clear e71
              replace hF := hF.add e75
              clear e75
              obtain ⟨lg2, lc2, lcs2, w46, hr, bb, oL2, ht2, hor2, hcc2⟩ := cat_new oL (k := 0) (by omega) (ya := lsa lg 0 lc) (m := nl.length - (0 + 1)) (yc := lc - (0 + 1)) (news := (lcs.drop (0 + 1)).take (nl.length - (0 + 1))) (by rw [List.length_take, List.length_drop]; omega) (lsa_cells oL hlc) (fun u hu => oL.2 u (List.mem_of_mem_drop (List.mem_of_mem_take hu))) (by omega)
              refine E.opv hF (r_builtin (map2 (hF.at 1 rfl) (hF.at 0 rfl)) hr) rfl rfl rfl rfl fun a hF => ?_
              clear hr
              obtain ⟨hE2, hcl2⟩ := del_left (k := 0) (by omega) rfl hE hcl bb ht2
              have hnz2 : (Value.slice la41 (nt ++ [nl.getD 0 0]).length lc43).ownBlock ≠ some lg2 := by
                rcases hor2 with h | h
                · rw [h]; exact hnz
                · exact fun e => by have := (hN44.lt _ e).2; omega
              replace hN44 := hN44.below bb
              replace sty := sty.below bb
              replace bel := below_to bel bb
              rw [delq_len (by omega)] at hF hcc2
              clear bb
              refine E.opset (L' := [(8, .slice (some ⟨lg2, 0, none⟩) (delq nl 0).length lc2), (76, .slice (some ⟨lg2, 0, none⟩) (delq nl 0).length lc2), (75, .slice (lsa lg 0 lc) (nl.length - (0 + 1)) (lc - (0 + 1))), (71, .slice (some ⟨lg, 0, none⟩) 0 0), (9, .slice la41 (nt ++ [nl.getD 0 0]).length lc43), (67, .slice la41 (nt ++ [nl.getD 0 0]).length lc43), (66, .slice (some ⟨gq39, 0, none⟩) 1 1), (65, .slice xa xn xc), (64, .pointer (some ⟨lg, 0 + 0, none⟩)), (63, .int .i64 0), (62, .slice (some ⟨lg, 0, none⟩) nl.length lc), (61, .slice ta nt.length tc), (52, .bool false), (51, .int .i64 ((no : Nat) : Int)), (50, .slice ad1 no cap1), (49, .int .i64 ((j : Nat) : Int)), (11, .int .i64 0), (46, .bool true), (45, .int .i64 ((nl.length : Nat) : Int)), (44, .slice (some ⟨lg, 0, none⟩) nl.length lc), (10, .int .i64 ((j : Nat) : Int)), (6, av), (5, .slice oa ns.length oc), (4, .bool false), (1, .slice ad1 no cap1)]) hF (r_assign (hF.at 0 rfl)) rfl rfl rfl rfl fun a hF => ?_
              refine E.nil0 ?_
              refine E.blk ?_
              refine E.norm ?_
              refine E.seq ?_
              refine E.opv hF (r_move (hF.at 20 rfl)) rfl rfl rfl rfl fun a hF => ?_
              refine E.opv hF (r_bin (hF.at 0 rfl) ev_c eg_scalar (ia_add (by omega) (by omega))) rfl rfl rfl rfl fun a hF => ?_
              refine E.opset (L' := [(10, .int .i64 (((j : Nat) : Int) + 1)), (48, .int .i64 (((j : Nat) : Int) + 1)), (47, .int .i64 ((j : Nat) : Int)), (8, .slice (some ⟨lg2, 0, none⟩) (delq nl 0).length lc2), (76, .slice (some ⟨lg2, 0, none⟩) (delq nl 0).length lc2), (75, .slice (lsa lg 0 lc) (nl.length - (0 + 1)) (lc - (0 + 1))), (71, .slice (some ⟨lg, 0, none⟩) 0 0), (9, .slice la41 (nt ++ [nl.getD 0 0]).length lc43), (67, .slice la41 (nt ++ [nl.getD 0 0]).length lc43), (66, .slice (some ⟨gq39, 0, none⟩) 1 1), (65, .slice xa xn xc), (64, .pointer (some ⟨lg, 0 + 0, none⟩)), (63, .int .i64 0), (62, .slice (some ⟨lg, 0, none⟩) nl.length lc), (61, .slice ta nt.length tc), (52, .bool false), (51, .int .i64 ((no : Nat) : Int)), (50, .slice ad1 no cap1), (49, .int .i64 ((j : Nat) : Int)), (11, .int .i64 0), (46, .bool true), (45, .int .i64 ((nl.length : Nat) : Int)), (44, .slice (some ⟨lg, 0, none⟩) nl.length lc), (6, av), (5, .slice oa ns.length oc), (4, .bool false), (1, .slice ad1 no cap1)]) hF (r_assign (hF.at 0 rfl)) rfl rfl rfl rfl fun a hF => ?_
              refine E.nil0 ?_
              refine E.norm ?_
              have hdl := delq_len (ns := nl) (k := 0) (by omega)
              exact ⟨(delq nl 0).length, by omega, ⟨j + 1, (nt ++ [nl.getD 0 0]), (delq nl 0), la41, lc43, lg2, lc2, lcs2, (by have := delq_sum (ns := nl) (k := 0) (by omega); rw [sum_snoc]; omega), (by rw [← delq_len (by omega)]; simp; omega), hnz2, hcl2, (by have := delq_len (ns := nl) (k := 0) (by omega); omega), (by simp; omega), (by rw [show (((j + 1 : Nat)) : Int) = ((j : Nat) : Int) + 1 from by omega]; exact Fr.sub (L' := [(10, .int .i64 (((j : Nat) : Int) + 1)), (9, .slice la41 (nt ++ [nl.getD 0 0]).length lc43), (8, .slice (some ⟨lg2, 0, none⟩) (delq nl 0).length lc2), (6, av), (5, .slice oa ns.length oc), (4, .bool false), (1, .slice ad1 no cap1)]) hF (by intro p hp; simp only [List.mem_cons, List.not_mem_nil, or_false] at hp ⊢; rcases hp with rfl | rfl | rfl | rfl | rfl | rfl | rfl <;> simp)), bel, sty, hN44, oL2, hE2, rfl⟩⟩
          · refine wp_seq ?_
            refine wp_seq ?_
            refine E.seq ?_
            refine E.opv hF (r_move (hF.at 2 rfl)) rfl rfl rfl rfl fun a hF => ?_
            refine E.opv hF (r_builtin (map1 (hF.at 0 rfl)) bl_nats) rfl rfl rfl rfl fun a hF => ?_
            refine E.opv hF (r_bin (hF.at 0 rfl) ev_c eg_scalar (bi_int (ic_gtr (c := false) (by simp only [decide_eq_false_iff_not]; omega)) (by simp))) rfl rfl rfl rfl fun a hF => ?_
            refine E.nil ?_
            refine wp_cond_false (hF.at 0 rfl) ?_
            refine wp_exit ?_
            refine E.past ?_
            refine E.past ?_
            refine E.out (id := 2) ?_
            refine E.norm ?_
            refine wp_seq ?_
            have hO3 := hO.below sty
            have hA3 := hA.below sty
            have hfin : nt.sum = ns.sum := by
              have : nl = [] := List.eq_nil_of_length_eq_zero (by omega)
              rw [this] at hsum
              simpa using hsum
            refine E.seq ?_
            refine E.opv hF (r_move (hF.at 7 rfl)) rfl rfl rfl rfl fun a hF => ?_
            refine E.call hF (r_call Try.func12 en12.1 en12.2 (map1 (hF.at 0 rfl))) (nSum_any _ ns _ (NAcc.nsl hO3) (sum_dl (N := 8 * 2 ^ 160) (bnd8 hsm hi8) (Nat.le_refl _)) (by omega)) rfl rfl rfl rfl ?_
            rintro e w28 ⟨vv29, rfl, hh30, bb⟩
            refine ⟨_, rfl, ?_⟩
            intro a hF
            replace hT := hT.below bb
            replace hA3 := hA3.below bb
            replace bel := below_to bel bb
            clear bb
            obtain ⟨ad31, n31, c31, rfl⟩ := Dg.form hh30
            refine E.opv hF (r_move (hF.at 8 rfl)) rfl rfl rfl rfl fun a hF => ?_
            refine E.call hF (r_call Try.func11 en11.1 en11.2 (map2 (hF.at 1 rfl) (hF.at 0 rfl))) (is_any _ _ (List.sum ns) _ (by have hq := hh30; rw [nsum_all] at hq; exact hq) hA3) rfl rfl rfl rfl ?_
            rintro e w32 ⟨rfl, bb⟩
            refine ⟨_, rfl, ?_⟩
            intro a hF
            replace hT := hT.below bb
            replace hA3 := hA3.below bb
            replace bel := below_to bel bb
            clear bb
            refine E.opv hF (r_move (hF.at 0 rfl)) rfl rfl rfl rfl fun a hF => ?_
            refine E.opvg hF (r_move (hF.at 9 rfl)) (wanted_by rfl rfl (hF.at 0 rfl) rfl) rfl rfl rfl fun a hF => ?_
            refine E.callg hF (r_call Try.func12 en12.1 en12.2 (map1 (hF.at 0 rfl))) (nSum_any _ nt _ (NAcc.nsl hT) (sum_dl (N := 8 * 2 ^ 160) (by rw [hfin]; exact bnd8 hsm hi8) (Nat.le_refl _)) (by omega)) (wanted_by rfl rfl (hF.at 1 rfl) rfl) rfl rfl rfl ?_
            rintro e w33 ⟨vv34, rfl, hh35, bb⟩
            refine ⟨_, rfl, ?_⟩
            intro a hF
            replace hA3 := hA3.below bb
            replace bel := below_to bel bb
            clear bb
            obtain ⟨ad36, n36, c36, rfl⟩ := Dg.form hh35
            refine E.opvg hF (r_move (hF.at 13 rfl)) (wanted_by rfl rfl (hF.at 2 rfl) rfl) rfl rfl rfl fun a hF => ?_
            refine E.callg hF (r_call Try.func11 en11.1 en11.2 (map2 (hF.at 1 rfl) (hF.at 0 rfl))) (is_any _ _ (List.sum ns) _ (by have hq := hh35; rw [nsum_all] at hq; rw [hfin] at hq; exact hq) hA3) (wanted_by rfl rfl (hF.at 3 rfl) rfl) rfl rfl rfl ?_
            rintro e w37 ⟨rfl, bb⟩
            refine ⟨_, rfl, ?_⟩
            intro a hF
            replace bel := below_to bel bb
            clear bb
            refine E.opv hF (r_pick_t (hF.at 4 rfl) (hF.at 0 rfl)) rfl rfl rfl rfl fun a hF => ?_
            refine E.opset (L' := [(4, .bool true), (86, .bool true), (85, .bool true), (84, av), (83, .slice ad36 n36 c36), (82, .slice ta nt.length tc), (81, .bool true), (80, .bool true), (79, av), (78, .slice ad31 n31 c31), (77, .slice oa ns.length oc), (46, .bool false), (45, .int .i64 ((nl.length : Nat) : Int)), (44, .slice (some ⟨lg, 0, none⟩) nl.length lc), (10, .int .i64 ((j : Nat) : Int)), (9, .slice ta nt.length tc), (8, .slice (some ⟨lg, 0, none⟩) nl.length lc), (6, av), (5, .slice oa ns.length oc), (1, .slice ad1 no cap1)]) hF (r_assign (hF.at 0 rfl)) rfl rfl rfl rfl fun a hF => ?_
            refine E.nil ?_
            refine wp_ret ?_
            refine bodyPost_ret (res_tmp Try.results3 (hF.at 0 rfl)) hF.dfr ?_
            exact ⟨rfl, bel⟩
    · refine E.opv hF (r_bin (hF.at 2 rfl) (hF.at 0 rfl) eg_scalar (bi_int (ic_lss (c := false) (dec_ff hc4)) (by simp))) rfl rfl rfl rfl fun a hF => ?_
      refine E.opv hF (r_move (hF.at 0 rfl)) rfl rfl rfl rfl fun a hF => ?_
      refine E.unwanted hF (wanted_by rfl rfl (hF.at 0 rfl) rfl) rfl rfl rfl fun a hF => ?_
      refine E.unwanted hF (wanted_by rfl rfl (hF.at 1 rfl) rfl) rfl rfl rfl fun a hF => ?_
      refine E.opv hF (r_pick_f (hF.at 2 rfl) ev_c) rfl rfl rfl rfl fun a hF => ?_
      refine E.nil ?_
      refine wp_cond_false (hF.at 0 rfl) ?_
      refine wp_exit ?_
      refine E.past ?_
      refine E.past ?_
      refine E.out (id := 0) ?_
      refine E.norm ?_
      refine wp_seq ?_
      refine E.seq ?_
      obtain ⟨gl0, w28, egl0, hr, bb, ogl0⟩ := bs_nats0 w3
      refine E.opv hF (r_buildSlice (by simp) hr) rfl rfl rfl rfl fun a hF => ?_
      clear hr egl0
      replace hA := hA.below bb
      replace hO := hO.below bb
      replace bel := below_to bel bb
      clear bb
      refine E.opv hF (r_move (hF.at 11 rfl)) rfl rfl rfl rfl fun a hF => ?_
      obtain ⟨lg0, lc0, lcs0, w29, hr, bb, oL0, hE0, hcl0, hlc0⟩ := copy_nat hO ogl0 (by omega)
      refine E.opv hF (r_builtin (map2 (hF.at 1 rfl) (hF.at 0 rfl)) hr) rfl rfl rfl rfl fun a hF => ?_
      clear hr
      replace hA := hA.below bb
      replace hO := hO.below bb
      replace bel := below_to bel bb
      clear bb
      refine E.opv hF (r_assign (hF.at 0 rfl)) rfl rfl rfl rfl fun a hF => ?_
      refine E.nil ?_
      refine wp_seq ?_
      refine E.seq ?_
      refine E.opv hF (r_assign ev_c) rfl rfl rfl rfl fun a hF => ?_
      refine E.nil ?_
      refine wp_seq ?_
      refine wp_seq ?_
      refine E.seq ?_
      refine E.opv hF (r_assign ev_c) rfl rfl rfl rfl fun a hF => ?_
      refine E.nil ?_
      refine wp_block ?_
      have hw1 := bel.size
      have sty0 : Since w29 w29 := Below.refl _ _
      refine E.loop (fun mq a wv => ∃ (j : Nat) (nt : List Nat) (nl : List Nat) (ta : Option Addr) (tc : Nat) (lg : Nat) (lc : Nat) (lcs : List Value), nt.sum + nl.sum = ns.sum ∧ nt.length + nl.length = ns.length ∧ (Value.slice ta nt.length tc).ownBlock ≠ some lg ∧ nl.length ≤ lcs.length ∧ nl.length ≤ lc ∧ j = nt.length ∧ Fr 87 a [(10, .int .i64 ((j : Nat) : Int)), (9, .slice ta nt.length tc), (8, .slice (some ⟨lg, 0, none⟩) nl.length lc), (6, av), (5, .slice oa ns.length oc), (4, .bool false), (1, .slice ad1 no cap1)] ∧ Below w.heap.size w wv ∧ Since w29 wv ∧ NAcc wv w29.heap.size (.slice ta nt.length tc) nt ∧ Own wv lg lcs ∧ NEl wv lcs nl ∧ mq = nl.length) (ns.length) ?_ ?_
      · exact ⟨0, [], ns, none, 0, lg0, lc0, lcs0, (by simp), (by simp), (by simp [Value.ownBlock]), hcl0, hlc0, rfl, Fr.sub (L' := [(10, .int .i64 ((0 : Nat) : Int)), (9, .slice none (List.length ([] : List Nat)) 0), (8, .slice (some ⟨lg0, 0, none⟩) ns.length lc0), (6, av), (5, .slice oa ns.length oc), (4, .bool false), (1, .slice ad1 no cap1)]) hF (by intro p hp; simp only [List.mem_cons, List.not_mem_nil, or_false] at hp ⊢; rcases hp with rfl | rfl | rfl | rfl | rfl | rfl | rfl <;> simp), bel, sty0, (NAcc.nil _ _), oL0, hE0, rfl⟩
      · rintro mq a w30 ⟨j, nt, nl, ta, tc, lg, lc, lcs, hsum, hlen, hnz, hcl, hlc, hj, hF, bel, sty, hT, oL, hE, hm⟩
        by_cases hp : 0 < nl.length
        · refine wp_seq ?_
          refine wp_seq ?_
          refine E.seq ?_
          refine E.opv hF (r_move (hF.at 2 rfl)) rfl rfl rfl rfl fun a hF => ?_
          refine E.opv hF (r_builtin (map1 (hF.at 0 rfl)) bl_nats) rfl rfl rfl rfl fun a hF => ?_
          refine E.opv hF (r_bin (hF.at 0 rfl) ev_c eg_scalar (bi_int (ic_gtr (c := true) (by simp only [decide_eq_true_eq]; omega)) (by simp))) rfl rfl rfl rfl fun a hF => ?_
          refine E.nil ?_
          refine wp_cond_true (hF.at 0 rfl) ?_
          refine wp_skip ?_
          refine E.norm ?_
          refine wp_seq ?_
          refine wp_block ?_
          refine wp_seq ?_
          refine E.seq ?_
          refine E.opv hF (r_assign ev_c) rfl rfl rfl rfl fun a hF => ?_
          refine E.nil ?_
          refine wp_seq ?_
          refine wp_seq ?_
          refine E.seq ?_
          refine E.opv hF (r_move (hF.at 4 rfl)) rfl rfl rfl rfl fun a hF => ?_
          refine E.opv hF (r_move (hF.at 11 rfl)) rfl rfl rfl rfl fun a hF => ?_
          refine E.opv hF (r_builtin (map1 (hF.at 0 rfl)) bl_oin) rfl rfl rfl rfl fun a hF => ?_
          by_cases hc31 : ((j : Nat) : Int) < ((no : Nat) : Int)
          · refine E.opv hF (r_bin (hF.at 2 rfl) (hF.at 0 rfl) eg_scalar (bi_int (ic_lss (c := true) (dec_tt hc31)) (by simp))) rfl rfl rfl rfl fun a hF => ?_
            refine E.nil ?_
            refine wp_cond_true (hF.at 0 rfl) ?_
            refine E.seq ?_
            refine E.opv hF (r_move (hF.at 14 rfl)) rfl rfl rfl rfl fun a hF => ?_
            refine E.opv hF (r_move (hF.at 9 rfl)) rfl rfl rfl rfl fun a hF => ?_
            obtain ⟨ob, oo, oz, oad, ocell⟩ := ho.at bel (i := j) (by omega)
            refine E.opv hF (r_index (hF.at 1 rfl) (hF.at 0 rfl) (by rw [oad]; exact ix_oin (i := j) rfl (by omega))) rfl rfl rfl rfl fun a hF => ?_
            refine E.opv hF (r_load (hF.at 0 rfl) (ld_cell Try.underlying3 rfl ocell)) rfl rfl rfl rfl fun a hF => ?_
            refine E.opv hF (r_bin (hF.at 0 rfl) ev_c eg_scalar (id_and (n := 8) (by decide) (d := 256) (by decide) (by decide))) rfl rfl rfl rfl fun a hF => ?_
            refine E.opv hF (r_move (hF.at 15 rfl)) rfl rfl rfl rfl fun a hF => ?_
            refine E.opv hF (r_builtin (map1 (hF.at 0 rfl)) bl_nats) rfl rfl rfl rfl fun a hF => ?_
            refine E.opv hF (r_bin (hF.at 2 rfl) (hF.at 0 rfl) eg_scalar (id_rem (a := oz % 256) (b := ((nl.length : Nat) : Int)) (by omega))) rfl rfl rfl rfl fun a hF => ?_
            refine E.opset (L' := [(11, .int .i64 (if 0 ≤ oz % 256 then (oz % 256) % ((nl.length : Nat) : Int) else -(-(oz % 256) % ((nl.length : Nat) : Int)))), (60, .int .i64 (if 0 ≤ oz % 256 then (oz % 256) % ((nl.length : Nat) : Int) else -(-(oz % 256) % ((nl.length : Nat) : Int)))), (59, .int .i64 ((nl.length : Nat) : Int)), (58, .slice (some ⟨lg, 0, none⟩) nl.length lc), (57, .int .i64 (oz % 256)), (56, .int .i64 oz), (55, .pointer (some ⟨ob, oo + j, none⟩)), (54, .int .i64 ((j : Nat) : Int)), (53, .slice ad1 no cap1), (52, .bool true), (51, .int .i64 ((no : Nat) : Int)), (50, .slice ad1 no cap1), (49, .int .i64 ((j : Nat) : Int)), (46, .bool true), (45, .int .i64 ((nl.length : Nat) : Int)), (44, .slice (some ⟨lg, 0, none⟩) nl.length lc), (10, .int .i64 ((j : Nat) : Int)), (9, .slice ta nt.length tc), (8, .slice (some ⟨lg, 0, none⟩) nl.length lc), (6, av), (5, .slice oa ns.length oc), (4, .bool false), (1, .slice ad1 no cap1)]) hF (r_assign (hF.at 0 rfl)) rfl rfl rfl rfl fun a hF => ?_
            obtain ⟨K, hK⟩ : ∃ K : Int, K = (if 0 ≤ oz % 256 then (oz % 256) % ((nl.length : Nat) : Int) else -(-(oz % 256) % ((nl.length : Nat) : Int))) := ⟨_, rfl⟩
            have hK0 : 0 ≤ K ∧ K < ((nl.length : Nat) : Int) := by
              rw [hK]
              have hpos : (0 : Int) < ((nl.length : Nat) : Int) := by omega
              have e1 := Int.emod_nonneg (oz % 256) (b := ((nl.length : Nat) : Int)) (by omega)
              have e2 := Int.emod_lt_of_pos (oz % 256) hpos
              split <;> omega
            rw [← hK] at hF
            clear hK
            obtain ⟨hK0, hK1⟩ := hK0
            refine E.nil ?_
            refine wp_seq ?_
            refine E.seq ?_
            refine E.opv hF (r_move (hF.at 17 rfl)) rfl rfl rfl rfl fun a hF => ?_
            refine E.opv hF (r_move (hF.at 19 rfl)) rfl rfl rfl rfl fun a hF => ?_
            refine E.opv hF (r_move (hF.at 2 rfl)) rfl rfl rfl rfl fun a hF => ?_
            obtain ⟨xa, xn, xc, hcx, hx⟩ := hE (K.toNat) (by omega)
            refine E.opv hF (r_index (hF.at 1 rfl) (hF.at 0 rfl) (ix_natz (i := (K.toNat)) (by omega) (by omega))) rfl rfl rfl rfl fun a hF => ?_
            refine E.opv hF (r_load (hF.at 0 rfl) (ld_cell Try.underlying27 rfl (oL.cellN hcx))) rfl rfl rfl rfl fun a hF => ?_
            obtain ⟨gq33, w32, egq33, hr, bb, ogq33⟩ := bs_nat1 w30 xa xn xc
            refine E.opv hF (r_buildSlice (pair1 (hF.at 0 rfl)) hr) rfl rfl rfl rfl fun a hF => ?_
            clear hr egq33
            replace hT := hT.below bb
            replace hx := hx.below bb
            replace sty := sty.below bb
            replace oL := oL.below bb
            replace hE := hE.below bb
            replace bel := below_to bel bb
            clear bb
            obtain ⟨la35, ln36, lc37, w34, hr, hN38, gg, kp, bb, hnw⟩ := app_nat hT ogq33 hx (by omega) sty.size
            obtain rfl := hN38.len
            refine E.opv hF (r_builtin (map2 (hF.at 5 rfl) (hF.at 0 rfl)) hr) rfl rfl rfl rfl fun a hF => ?_
            clear hr
            have hnz2 := hnw _ oL.lt hnz
            replace oL := oL.grown gg (fun e => hnz e.symm)
            replace hE := hE.keep kp
            replace sty := sty.app bb
            replace bel := bel.trans (below_less bb hw1)
            replace hnz := hnz2
            clear hnz2
            clear bb gg kp hnw
            refine E.opset (L' := [(9, .slice la35 (nt ++ [nl.getD (K.toNat) 0]).length lc37), (67, .slice la35 (nt ++ [nl.getD (K.toNat) 0]).length lc37), (66, .slice (some ⟨gq33, 0, none⟩) 1 1), (65, .slice xa xn xc), (64, .pointer (some ⟨lg, 0 + (K.toNat), none⟩)), (63, .int .i64 K), (62, .slice (some ⟨lg, 0, none⟩) nl.length lc), (61, .slice ta nt.length tc), (11, .int .i64 K), (60, .int .i64 K), (59, .int .i64 ((nl.length : Nat) : Int)), (58, .slice (some ⟨lg, 0, none⟩) nl.length lc), (57, .int .i64 (oz % 256)), (56, .int .i64 oz), (55, .pointer (some ⟨ob, oo + j, none⟩)), (54, .int .i64 ((j : Nat) : Int)), (53, .slice ad1 no cap1), (52, .bool true), (51, .int .i64 ((no : Nat) : Int)), (50, .slice ad1 no cap1), (49, .int .i64 ((j : Nat) : Int)), (46, .bool true), (45, .int .i64 ((nl.length : Nat) : Int)), (44, .slice (some ⟨lg, 0, none⟩) nl.length lc), (10, .int .i64 ((j : Nat) : Int)), (8, .slice (some ⟨lg, 0, none⟩) nl.length lc), (6, av), (5, .slice oa ns.length oc), (4, .bool false), (1, .slice ad1 no cap1)]) hF (r_assign (hF.at 0 rfl)) rfl rfl rfl rfl fun a hF => ?_
            refine E.nil ?_
            refine E.drawn 8 mixed hF [68, 69, 70, 71, 72, 73, 74, 75] [(fun _ v => v = .slice (some ⟨lg, 0, none⟩) nl.length lc), (fun _ v => v = .int .i64 K), (fun _ v => v = .int .i64 K), (fun _ v => v = .slice (some ⟨lg, 0, none⟩) (K.toNat) (K.toNat)), (fun _ v => v = .slice (some ⟨lg, 0, none⟩) nl.length lc), (fun _ v => v = .int .i64 K), (fun _ v => v = .int .i64 (K + 1)), (fun _ v => v = .slice (lsa lg (K.toNat) lc) (nl.length - ((K.toNat) + 1)) (lc - ((K.toNat) + 1)))] [] (by decide +kernel) (by decide +kernel) rfl rfl rfl ⟨(Mb.eq _), (Mb.eq _), (Mb.eq _), (Mb.eq _), (Mb.eq _), (Mb.eq _), (Mb.eq _), (Mb.eq _), trivial⟩ trivial ⟨?_, ?_, ?_, ?_, ?_, ?_, ?_, ?_, trivial⟩ ?_
            · intro a' w' hF' hb hd
              exact if_does (wanted_free rfl) (Does.vals (r_move (hF'.at 25 rfl)) ⟨rfl, Below.refl _ _, (fun h => absurd h (by decide))⟩)
            · intro a' w' hF' hb hd
              exact if_does (wanted_free rfl) (Does.vals (r_move (hF'.at 8 rfl)) ⟨rfl, Below.refl _ _, (fun h => absurd h (by decide))⟩)
            · intro a' w' hF' hb hd
              exact if_does (wanted_free rfl) (Does.vals (r_move (hF'.at 8 rfl)) ⟨rfl, Below.refl _ _, (fun h => absurd h (by decide))⟩)
            · intro a' w' hF' hb hd
              have e68 : a'.tmps.getD 68 undef = .slice (some ⟨lg, 0, none⟩) nl.length lc := hd _ 68 (Array.mem_of_getElem? (i := 0) rfl) rfl rfl
              have e69 : a'.tmps.getD 69 undef = .int .i64 K := hd _ 69 (Array.mem_of_getElem? (i := 1) rfl) rfl rfl
              have e70 : a'.tmps.getD 70 undef = .int .i64 K := hd _ 70 (Array.mem_of_getElem? (i := 2) rfl) rfl rfl
              exact if_does (wanted_free rfl) (Does.vals (r_slice3 e68 e69 e70 (sl_3 (k := (K.toNat)) (by omega) (by omega))) ⟨rfl, Below.refl _ _, (fun h => absurd h (by decide))⟩)
            · intro a' w' hF' hb hd
              exact if_does (wanted_free rfl) (Does.vals (r_move (hF'.at 25 rfl)) ⟨rfl, Below.refl _ _, (fun h => absurd h (by decide))⟩)
            · intro a' w' hF' hb hd
              exact if_does (wanted_free rfl) (Does.vals (r_move (hF'.at 8 rfl)) ⟨rfl, Below.refl _ _, (fun h => absurd h (by decide))⟩)
            · intro a' w' hF' hb hd
              have e73 : a'.tmps.getD 73 undef = .int .i64 K := hd _ 73 (Array.mem_of_getElem? (i := 0) rfl) rfl rfl
              exact if_does (wanted_free rfl) (Does.vals (r_bin e73 ev_c eg_scalar (ia_add (by omega) (by omega))) ⟨rfl, Below.refl _ _, (fun h => absurd h (by decide))⟩)
            · intro a' w' hF' hb hd
              have e72 : a'.tmps.getD 72 undef = .slice (some ⟨lg, 0, none⟩) nl.length lc := hd _ 72 (Array.mem_of_getElem? (i := 0) rfl) rfl rfl
              have e74 : a'.tmps.getD 74 undef = .int .i64 (K + 1) := hd _ 74 (Array.mem_of_getElem? (i := 1) rfl) rfl rfl
              exact if_does (wanted_free rfl) (Does.vals (r_sliceN e72 e74 (sl_lo (k := (K.toNat)) (by omega) (by omega) (by omega))) ⟨rfl, Below.refl _ _, (fun h => absurd h (by decide))⟩)
            intro a w39 hF bb hall hne
            have e71 : a.tmps.getD 71 undef = .slice (some ⟨lg, 0, none⟩) (K.toNat) (K.toNat) := hall 3 71 rfl
            have e75 : a.tmps.getD 75 undef = .slice (lsa lg (K.toNat) lc) (nl.length - ((K.toNat) + 1)) (lc - ((K.toNat) + 1)) := hall 7 75 rfl
            clear hall hne
            replace hN38 := hN38.below bb
            replace sty := sty.below bb
            replace oL := oL.below bb
            replace hE := hE.below bb
            replace bel := below_to bel bb
            clear bb
            replace hF := hF.add e71
            clear e71
            replace hF := hF.add e75
            clear e75
            obtain ⟨lg2, lc2, lcs2, w40, hr, bb, oL2, ht2, hor2, hcc2⟩ := cat_new oL (k := (K.toNat)) (by omega) (ya := lsa lg (K.toNat) lc) (m := nl.length - ((K.toNat) + 1)) (yc := lc - ((K.toNat) + 1)) (news := (lcs.drop ((K.toNat) + 1)).take (nl.length - ((K.toNat) + 1))) (by rw [List.length_take, List.length_drop]; omega) (lsa_cells oL hlc) (fun u hu => oL.2 u (List.mem_of_mem_drop (List.mem_of_mem_take hu))) (by omega)
            refine E.opv hF (r_builtin (map2 (hF.at 1 rfl) (hF.at 0 rfl)) hr) rfl rfl rfl rfl fun a hF => ?_
            clear hr
            obtain ⟨hE2, hcl2⟩ := del_left (k := (K.toNat)) (by omega) rfl hE hcl bb ht2
            have hnz2 : (Value.slice la35 (nt ++ [nl.getD (K.toNat) 0]).length lc37).ownBlock ≠ some lg2 := by
              rcases hor2 with h | h
              · rw [h]; exact hnz
              · exact fun e => by have := (hN38.lt _ e).2; omega
            replace hN38 := hN38.below bb
            replace sty := sty.below bb
            replace bel := below_to bel bb
            rw [delq_len (by omega)] at hF hcc2
            clear bb
            refine E.opset (L' := [(8, .slice (some ⟨lg2, 0, none⟩) (delq nl (K.toNat)).length lc2), (76, .slice (some ⟨lg2, 0, none⟩) (delq nl (K.toNat)).length lc2), (75, .slice (lsa lg (K.toNat) lc) (nl.length - ((K.toNat) + 1)) (lc - ((K.toNat) + 1))), (71, .slice (some ⟨lg, 0, none⟩) (K.toNat) (K.toNat)), (9, .slice la35 (nt ++ [nl.getD (K.toNat) 0]).length lc37), (67, .slice la35 (nt ++ [nl.getD (K.toNat) 0]).length lc37), (66, .slice (some ⟨gq33, 0, none⟩) 1 1), (65, .slice xa xn xc), (64, .pointer (some ⟨lg, 0 + (K.toNat), none⟩)), (63, .int .i64 K), (62, .slice (some ⟨lg, 0, none⟩) nl.length lc), (61, .slice ta nt.length tc), (11, .int .i64 K), (60, .int .i64 K), (59, .int .i64 ((nl.length : Nat) : Int)), (58, .slice (some ⟨lg, 0, none⟩) nl.length lc), (57, .int .i64 (oz % 256)), (56, .int .i64 oz), (55, .pointer (some ⟨ob, oo + j, none⟩)), (54, .int .i64 ((j : Nat) : Int)), (53, .slice ad1 no cap1), (52, .bool true), (51, .int .i64 ((no : Nat) : Int)), (50, .slice ad1 no cap1), (49, .int .i64 ((j : Nat) : Int)), (46, .bool true), (45, .int .i64 ((nl.length : Nat) : Int)), (44, .slice (some ⟨lg, 0, none⟩) nl.length lc), (10, .int .i64 ((j : Nat) : Int)), (6, av), (5, .slice oa ns.length oc), (4, .bool false), (1, .slice ad1 no cap1)]) hF (r_assign (hF.at 0 rfl)) rfl rfl rfl rfl fun a hF => ?_
            refine E.nil0 ?_
            refine E.blk ?_
            refine E.norm ?_
            refine E.seq ?_
            refine E.opv hF (r_move (hF.at 28 rfl)) rfl rfl rfl rfl fun a hF => ?_
            refine E.opv hF (r_bin (hF.at 0 rfl) ev_c eg_scalar (ia_add (by omega) (by omega))) rfl rfl rfl rfl fun a hF => ?_
            refine E.opset (L' := [(10, .int .i64 (((j : Nat) : Int) + 1)), (48, .int .i64 (((j : Nat) : Int) + 1)), (47, .int .i64 ((j : Nat) : Int)), (8, .slice (some ⟨lg2, 0, none⟩) (delq nl (K.toNat)).length lc2), (76, .slice (some ⟨lg2, 0, none⟩) (delq nl (K.toNat)).length lc2), (75, .slice (lsa lg (K.toNat) lc) (nl.length - ((K.toNat) + 1)) (lc - ((K.toNat) + 1))), (71, .slice (some ⟨lg, 0, none⟩) (K.toNat) (K.toNat)), (9, .slice la35 (nt ++ [nl.getD (K.toNat) 0]).length lc37), (67, .slice la35 (nt ++ [nl.getD (K.toNat) 0]).length lc37), (66, .slice (some ⟨gq33, 0, none⟩) 1 1), (65, .slice xa xn xc), (64, .pointer (some ⟨lg, 0 + (K.toNat), none⟩)), (63, .int .i64 K), (62, .slice (some ⟨lg, 0, none⟩) nl.length lc), (61, .slice ta nt.length tc), (11, .int .i64 K), (60, .int .i64 K), (59, .int .i64 ((nl.length : Nat) : Int)), (58, .slice (some ⟨lg, 0, none⟩) nl.length lc), (57, .int .i64 (oz % 256)), (56, .int .i64 oz), (55, .pointer (some ⟨ob, oo + j, none⟩)), (54, .int .i64 ((j : Nat) : Int)), (53, .slice ad1 no cap1), (52, .bool true), (51, .int .i64 ((no : Nat) : Int)), (50, .slice ad1 no cap1), (49, .int .i64 ((j : Nat) : Int)), (46, .bool true), (45, .int .i64 ((nl.length : Nat) : Int)), (44, .slice (some ⟨lg, 0, none⟩) nl.length lc), (6, av), (5, .slice oa ns.length oc), (4, .bool false), (1, .slice ad1 no cap1)]) hF (r_assign (hF.at 0 rfl)) rfl rfl rfl rfl fun a hF => ?_
            refine E.nil0 ?_
            refine E.norm ?_
            have hdl := delq_len (ns := nl) (k := (K.toNat)) (by omega)
            exact ⟨(delq nl (K.toNat)).length, by omega, ⟨j + 1, (nt ++ [nl.getD (K.toNat) 0]), (delq nl (K.toNat)), la35, lc37, lg2, lc2, lcs2, (by have := delq_sum (ns := nl) (k := (K.toNat)) (by omega); rw [sum_snoc]; omega), (by rw [← delq_len (by omega)]; simp; omega), hnz2, hcl2, (by have := delq_len (ns := nl) (k := (K.toNat)) (by omega); omega), (by simp; omega), (by rw [show (((j + 1 : Nat)) : Int) = ((j : Nat) : Int) + 1 from by omega]; exact Fr.sub (L' := [(10, .int .i64 (((j : Nat) : Int) + 1)), (9, .slice la35 (nt ++ [nl.getD (K.toNat) 0]).length lc37), (8, .slice (some ⟨lg2, 0, none⟩) (delq nl (K.toNat)).length lc2), (6, av), (5, .slice oa ns.length oc), (4, .bool false), (1, .slice ad1 no cap1)]) hF (by intro p hp; simp only [List.mem_cons, List.not_mem_nil, or_false] at hp ⊢; rcases hp with rfl | rfl | rfl | rfl | rfl | rfl | rfl <;> simp)), bel, sty, hN38, oL2, hE2, rfl⟩⟩
          · refine E.opv hF (r_bin (hF.at 2 rfl) (hF.at 0 rfl) eg_scalar (bi_int (ic_lss (c := false) (dec_ff hc31)) (by simp))) rfl rfl rfl rfl fun a hF => ?_
            refine E.nil ?_
            refine wp_cond_false (hF.at 0 rfl) ?_
            refine wp_skip ?_
            refine E.norm ?_
            refine wp_seq ?_
            refine E.seq ?_
            refine E.opv hF (r_move (hF.at 9 rfl)) rfl rfl rfl rfl fun a hF => ?_
            refine E.opv hF (r_move (hF.at 11 rfl)) rfl rfl rfl rfl fun a hF => ?_
            refine E.opv hF (r_move (hF.at 6 rfl)) rfl rfl rfl rfl fun a hF => ?_
            obtain ⟨xa, xn, xc, hcx, hx⟩ := hE 0 (by omega)
            refine E.opv hF (r_index (hF.at 1 rfl) (hF.at 0 rfl) (ix_natz (i := 0) (by omega) (by omega))) rfl rfl rfl rfl fun a hF => ?_
            refine E.opv hF (r_load (hF.at 0 rfl) (ld_cell Try.underlying27 rfl (oL.cellN hcx))) rfl rfl rfl rfl fun a hF => ?_
            obtain ⟨gq42, w41, egq42, hr, bb, ogq42⟩ := bs_nat1 w30 xa xn xc
            refine E.opv hF (r_buildSlice (pair1 (hF.at 0 rfl)) hr) rfl rfl rfl rfl fun a hF => ?_
            clear hr egq42
            replace hT := hT.below bb
            replace hx := hx.below bb
            replace sty := sty.below bb
            replace oL := oL.below bb
            replace hE := hE.below bb
            replace bel := below_to bel bb
            clear bb
            obtain ⟨la44, ln45, lc46, w43, hr, hN47, gg, kp, bb, hnw⟩ := app_nat hT ogq42 hx (by omega) sty.size
            obtain rfl := hN47.len
            refine E.opv hF (r_builtin (map2 (hF.at 5 rfl) (hF.at 0 rfl)) hr) rfl rfl rfl rfl fun a hF => ?_
            clear hr
            have hnz2 := hnw _ oL.lt hnz
            replace oL := oL.grown gg (fun e => hnz e.symm)
            replace hE := hE.keep kp
            replace sty := sty.app bb
            replace bel := bel.trans (below_less bb hw1)
            replace hnz := hnz2
            clear hnz2
            clear bb gg kp hnw
            refine E.opset (L' := [(9, .slice la44 (nt ++ [nl.getD 0 0]).length lc46), (67, .slice la44 (nt ++ [nl.getD 0 0]).length lc46), (66, .slice (some ⟨gq42, 0, none⟩) 1 1), (65, .slice xa xn xc), (64, .pointer (some ⟨lg, 0 + 0, none⟩)), (63, .int .i64 0), (62, .slice (some ⟨lg, 0, none⟩) nl.length lc), (61, .slice ta nt.length tc), (52, .bool false), (51, .int .i64 ((no : Nat) : Int)), (50, .slice ad1 no cap1), (49, .int .i64 ((j : Nat) : Int)), (11, .int .i64 0), (46, .bool true), (45, .int .i64 ((nl.length : Nat) : Int)), (44, .slice (some ⟨lg, 0, none⟩) nl.length lc), (10, .int .i64 ((j : Nat) : Int)), (8, .slice (some ⟨lg, 0, none⟩) nl.length lc), (6, av), (5, .slice oa ns.length oc), (4, .bool false), (1, .slice ad1 no cap1)]) hF (r_assign (hF.at 0 rfl)) rfl rfl rfl rfl fun a hF => ?_
            refine E.nil ?_
            refine E.drawn 8 mixed hF [68, 69, 70, 71, 72, 73, 74, 75] [(fun _ v => v = .slice (some ⟨lg, 0, none⟩) nl.length lc), (fun _ v => v = .int .i64 0), (fun _ v => v = .int .i64 0), (fun _ v => v = .slice (some ⟨lg, 0, none⟩) 0 0), (fun _ v => v = .slice (some ⟨lg, 0, none⟩) nl.length lc), (fun _ v => v = .int .i64 0), (fun _ v => v = .int .i64 (0 + 1)), (fun _ v => v = .slice (lsa lg 0 lc) (nl.length - (0 + 1)) (lc - (0 + 1)))] [] (by decide +kernel) (by decide +kernel) rfl rfl rfl ⟨(Mb.eq _), (Mb.eq _), (Mb.eq _), (Mb.eq _), (Mb.eq _), (Mb.eq _), (Mb.eq _), (Mb.eq _), trivial⟩ trivial ⟨?_, ?_, ?_, ?_, ?_, ?_, ?_, ?_, trivial⟩ ?_
            · intro a' w' hF' hb hd
              exact if_does (wanted_free rfl) (Does.vals (r_move (hF'.at 17 rfl)) ⟨rfl, Below.refl _ _, (fun h => absurd h (by decide))⟩)
            · intro a' w' hF' hb hd
              exact if_does (wanted_free rfl) (Does.vals (r_move (hF'.at 12 rfl)) ⟨rfl, Below.refl _ _, (fun h => absurd h (by decide))⟩)
            · intro a' w' hF' hb hd
              exact if_does (wanted_free rfl) (Does.vals (r_move (hF'.at 12 rfl)) ⟨rfl, Below.refl _ _, (fun h => absurd h (by decide))⟩)
            · intro a' w' hF' hb hd
              have e68 : a'.tmps.getD 68 undef = .slice (some ⟨lg, 0, none⟩) nl.length lc := hd _ 68 (Array.mem_of_getElem? (i := 0) rfl) rfl rfl
              have e69 : a'.tmps.getD 69 undef = .int .i64 0 := hd _ 69 (Array.mem_of_getElem? (i := 1) rfl) rfl rfl
              have e70 : a'.tmps.getD 70 undef = .int .i64 0 := hd _ 70 (Array.mem_of_getElem? (i := 2) rfl) rfl rfl
              exact if_does (wanted_free rfl) (Does.vals (r_slice3 e68 e69 e70 (sl_3 (k := 0) (by omega) (by omega))) ⟨rfl, Below.refl _ _, (fun h => absurd h (by decide))⟩)
            · intro a' w' hF' hb hd
              exact if_does (wanted_free rfl) (Does.vals (r_move (hF'.at 17 rfl)) ⟨rfl, Below.refl _ _, (fun h => absurd h (by decide))⟩)
            · intro a' w' hF' hb hd
              exact if_does (wanted_free rfl) (Does.vals (r_move (hF'.at 12 rfl)) ⟨rfl, Below.refl _ _, (fun h => absurd h (by decide))⟩)
            · intro a' w' hF' hb hd
              have e73 : a'.tmps.getD 73 undef = .int .i64 0 := hd _ 73 (Array.mem_of_getElem? (i := 0) rfl) rfl rfl
              exact if_does (wanted_free rfl) (Does.vals (r_bin e73 ev_c eg_scalar (ia_add (by omega) (by omega))) ⟨rfl, Below.refl _ _, (fun h => absurd h (by decide))⟩)
            · intro a' w' hF' hb hd
              have e72 : a'.tmps.getD 72 undef = .slice (some ⟨lg, 0, none⟩) nl.length lc := hd _ 72 (Array.mem_of_getElem? (i := 0) rfl) rfl rfl
              have e74 : a'.tmps.getD 74 undef = .int .i64 (0 + 1) := hd _ 74 (Array.mem_of_getElem? (i := 1) rfl) rfl rfl
              exact if_does (wanted_free rfl) (Does.vals (r_sliceN e72 e74 (sl_lo (k := 0) (by omega) (by omega) (by omega))) ⟨rfl, Below.refl _ _, (fun h => absurd h (by decide))⟩)
            intro a w48 hF bb hall hne
            have e71 : a.tmps.getD 71 undef = .slice (some ⟨lg, 0, none⟩) 0 0 := hall 3 71 rfl
            have e75 : a.tmps.getD 75 undef = .slice (lsa lg 0 lc) (nl.length - (0 + 1)) (lc - (0 + 1)) := hall 7 75 rfl
            clear hall hne
            replace hN47 := hN47.below bb
            replace sty := sty.below bb
            replace oL := oL.below bb
            replace hE := hE.below bb
            replace bel := below_to bel bb
            clear bb
            replace hF := hF.add e71
            clear e71
            replace hF := hF.add e75
            clear e75
            obtain ⟨lg2, lc2, lcs2, w49, hr, bb, oL2, ht2, hor2, hcc2⟩ := cat_new oL (k := 0) (by omega) (ya := lsa lg 0 lc) (m := nl.length - (0 + 1)) (yc := lc - (0 + 1)) (news := (lcs.drop (0 + 1)).take (nl.length - (0 + 1))) (by rw [List.length_take, List.length_drop]; omega) (lsa_cells oL hlc) (fun u hu => oL.2 u (List.mem_of_mem_drop (List.mem_of_mem_take hu))) (by omega)
            refine E.opv hF (r_builtin (map2 (hF.at 1 rfl) (hF.at 0 rfl)) hr) rfl rfl rfl rfl fun a hF => ?_
            clear hr
            obtain ⟨hE2, hcl2⟩ := del_left (k := 0) (by omega) rfl hE hcl bb ht2
            have hnz2 : (Value.slice la44 (nt ++ [nl.getD 0 0]).length lc46).ownBlock ≠ some lg2 := by
              rcases hor2 with h | h
              · rw [h]; exact hnz
              · exact fun e => by have := (hN47.lt _ e).2; omega
            replace hN47 := hN47.below bb
            replace sty := sty.below bb
            replace bel := below_to bel bb
            rw [delq_len (by omega)] at hF hcc2
            clear bb
            refine E.opset (L' := [(8, .slice (some ⟨lg2, 0, none⟩) (delq nl 0).length lc2), (76, .slice (some ⟨lg2, 0, none⟩) (delq nl 0).length lc2), (75, .slice (lsa lg 0 lc) (nl.length - (0 + 1)) (lc - (0 + 1))), (71, .slice (some ⟨lg, 0, none⟩) 0 0), (9, .slice la44 (nt ++ [nl.getD 0 0]).length lc46), (67, .slice la44 (nt ++ [nl.getD 0 0]).length lc46), (66, .slice (some ⟨gq42, 0, none⟩) 1 1), (65, .slice xa xn xc), (64, .pointer (some ⟨lg, 0 + 0, none⟩)), (63, .int .i64 0), (62, .slice (some ⟨lg, 0, none⟩) nl.length lc), (61, .slice ta nt.length tc), (52, .bool false), (51, .int .i64 ((no : Nat) : Int)), (50, .slice ad1 no cap1), (49, .int .i64 ((j : Nat) : Int)), (11, .int .i64 0), (46, .bool true), (45, .int .i64 ((nl.length : Nat) : Int)), (44, .slice (some ⟨lg, 0, none⟩) nl.length lc), (10, .int .i64 ((j : Nat) : Int)), (6, av), (5, .slice oa ns.length oc), (4, .bool false), (1, .slice ad1 no cap1)]) hF (r_assign (hF.at 0 rfl)) rfl rfl rfl rfl fun a hF => ?_
            refine E.nil0 ?_
            refine E.blk ?_
            refine E.norm ?_
            refine E.seq ?_
            refine E.opv hF (r_move (hF.at 20 rfl)) rfl rfl rfl rfl fun a hF => ?_
            refine E.opv hF (r_bin (hF.at 0 rfl) ev_c eg_scalar (ia_add (by omega) (by omega))) rfl rfl rfl rfl fun a hF => ?_
            refine E.opset (L' := [(10, .int .i64 (((j : Nat) : Int) + 1)), (48, .int .i64 (((j : Nat) : Int) + 1)), (47, .int .i64 ((j : Nat) : Int)), (8, .slice (some ⟨lg2, 0, none⟩) (delq nl 0).length lc2), (76, .slice (some ⟨lg2, 0, none⟩) (delq nl 0).length lc2), (75, .slice (lsa lg 0 lc) (nl.length - (0 + 1)) (lc - (0 + 1))), (71, .slice (some ⟨lg, 0, none⟩) 0 0), (9, .slice la44 (nt ++ [nl.getD 0 0]).length lc46), (67, .slice la44 (nt ++ [nl.getD 0 0]).length lc46), (66, .slice (some ⟨gq42, 0, none⟩) 1 1), (65, .slice xa xn xc), (64, .pointer (some ⟨lg, 0 + 0, none⟩)), (63, .int .i64 0), (62, .slice (some ⟨lg, 0, none⟩) nl.length lc), (61, .slice ta nt.length tc), (52, .bool false), (51, .int .i64 ((no : Nat) : Int)), (50, .slice ad1 no cap1), (49, .int .i64 ((j : Nat) : Int)), (11, .int .i64 0), (46, .bool true), (45, .int .i64 ((nl.length : Nat) : Int)), (44, .slice (some ⟨lg, 0, none⟩) nl.length lc), (6, av), (5, .slice oa ns.length oc), (4, .bool false), (1, .slice ad1 no cap1)]) hF (r_assign (hF.at 0 rfl)) rfl rfl rfl rfl fun a hF => ?_
            refine E.nil0 ?_
            refine E.norm ?_
            have hdl := delq_len (ns := nl) (k := 0) (by omega)
            exact ⟨(delq nl 0).length, by omega, ⟨j + 1, (nt ++ [nl.getD 0 0]), (delq nl 0), la44, lc46, lg2, lc2, lcs2, (by have := delq_sum (ns := nl) (k := 0) (by omega); rw [sum_snoc]; omega), (by rw [← delq_len (by omega)]; simp; omega), hnz2, hcl2, (by have := delq_len (ns := nl) (k := 0) (by omega); omega), (by simp; omega), (by rw [show (((j + 1 : Nat)) : Int) = ((j : Nat) : Int) + 1 from by omega]; exact Fr.sub (L' := [(10, .int .i64 (((j : Nat) : Int) + 1)), (9, .slice la44 (nt ++ [nl.getD 0 0]).length lc46), (8, .slice (some ⟨lg2, 0, none⟩) (delq nl 0).length lc2), (6, av), (5, .slice oa ns.length oc), (4, .bool false), (1, .slice ad1 no cap1)]) hF (by intro p hp; simp only [List.mem_cons, List.not_mem_nil, or_false] at hp ⊢; rcases hp with rfl | rfl | rfl | rfl | rfl | rfl | rfl <;> simp)), bel, sty, hN47, oL2, hE2, rfl⟩⟩
        · refine wp_seq ?_
          refine wp_seq ?_
          refine E.seq ?_
          refine E.opv hF (r_move (hF.at 2 rfl)) rfl rfl rfl rfl fun a hF => ?_
          refine E.opv hF (r_builtin (map1 (hF.at 0 rfl)) bl_nats) rfl rfl rfl rfl fun a hF => ?_
          refine E.opv hF (r_bin (hF.at 0 rfl) ev_c eg_scalar (bi_int (ic_gtr (c := false) (by simp only [decide_eq_false_iff_not]; omega)) (by simp))) rfl rfl rfl rfl fun a hF => ?_
          refine E.nil ?_
          refine wp_cond_false (hF.at 0 rfl) ?_
          refine wp_exit ?_
          refine E.past ?_
          refine E.past ?_
          refine E.out (id := 2) ?_
          refine E.norm ?_
          refine wp_seq ?_
          have hO3 := hO.below sty
          have hA3 := hA.below sty
          have hfin : nt.sum = ns.sum := by
            have : nl = [] := List.eq_nil_of_length_eq_zero (by omega)
            rw [this] at hsum
            simpa using hsum
          refine E.seq ?_
          refine E.opv hF (r_move (hF.at 7 rfl)) rfl rfl rfl rfl fun a hF => ?_
          refine E.call hF (r_call Try.func12 en12.1 en12.2 (map1 (hF.at 0 rfl))) (nSum_any _ ns _ (NAcc.nsl hO3) (sum_dl (N := 8 * 2 ^ 160) (bnd8 hsm hi8) (Nat.le_refl _)) (by omega)) rfl rfl rfl rfl ?_
          rintro e w31 ⟨vv32, rfl, hh33, bb⟩
          refine ⟨_, rfl, ?_⟩
          intro a hF
          replace hT := hT.below bb
          replace hA3 := hA3.below bb
          replace bel := below_to bel bb
          clear bb
          obtain ⟨ad34, n34, c34, rfl⟩ := Dg.form hh33
          refine E.opv hF (r_move (hF.at 8 rfl)) rfl rfl rfl rfl fun a hF => ?_
          refine E.call hF (r_call Try.func11 en11.1 en11.2 (map2 (hF.at 1 rfl) (hF.at 0 rfl))) (is_any _ _ (List.sum ns) _ (by have hq := hh33; rw [nsum_all] at hq; exact hq) hA3) rfl rfl rfl rfl ?_
          rintro e w35 ⟨rfl, bb⟩
          refine ⟨_, rfl, ?_⟩
          intro a hF
          replace hT := hT.below bb
          replace hA3 := hA3.below bb
          replace bel := below_to bel bb
          clear bb
          refine E.opv hF (r_move (hF.at 0 rfl)) rfl rfl rfl rfl fun a hF => ?_
          refine E.opvg hF (r_move (hF.at 9 rfl)) (wanted_by rfl rfl (hF.at 0 rfl) rfl) rfl rfl rfl fun a hF => ?_
          refine E.callg hF (r_call Try.func12 en12.1 en12.2 (map1 (hF.at 0 rfl))) (nSum_any _ nt _ (NAcc.nsl hT) (sum_dl (N := 8 * 2 ^ 160) (by rw [hfin]; exact bnd8 hsm hi8) (Nat.le_refl _)) (by omega)) (wanted_by rfl rfl (hF.at 1 rfl) rfl) rfl rfl rfl ?_
          rintro e w36 ⟨vv37, rfl, hh38, bb⟩
          refine ⟨_, rfl, ?_⟩
          intro a hF
          replace hA3 := hA3.below bb
          replace bel := below_to bel bb
          clear bb
          obtain ⟨ad39, n39, c39, rfl⟩ := Dg.form hh38
          refine E.opvg hF (r_move (hF.at 13 rfl)) (wanted_by rfl rfl (hF.at 2 rfl) rfl) rfl rfl rfl fun a hF => ?_
          refine E.callg hF (r_call Try.func11 en11.1 en11.2 (map2 (hF.at 1 rfl) (hF.at 0 rfl))) (is_any _ _ (List.sum ns) _ (by have hq := hh38; rw [nsum_all] at hq; rw [hfin] at hq; exact hq) hA3) (wanted_by rfl rfl (hF.at 3 rfl) rfl) rfl rfl rfl ?_
          rintro e w40 ⟨rfl, bb⟩
          refine ⟨_, rfl, ?_⟩
          intro a hF
          replace bel := below_to bel bb
          clear bb
          refine E.opv hF (r_pick_t (hF.at 4 rfl) (hF.at 0 rfl)) rfl rfl rfl rfl fun a hF => ?_
          refine E.opset (L' := [(4, .bool true), (86, .bool true), (85, .bool true), (84, av), (83, .slice ad39 n39 c39), (82, .slice ta nt.length tc), (81, .bool true), (80, .bool true), (79, av), (78, .slice ad34 n34 c34), (77, .slice oa ns.length oc), (46, .bool false), (45, .int .i64 ((nl.length : Nat) : Int)), (44, .slice (some ⟨lg, 0, none⟩) nl.length lc), (10, .int .i64 ((j : Nat) : Int)), (9, .slice ta nt.length tc), (8, .slice (some ⟨lg, 0, none⟩) nl.length lc), (6, av), (5, .slice oa ns.length oc), (1, .slice ad1 no cap1)]) hF (r_assign (hF.at 0 rfl)) rfl rfl rfl rfl fun a hF => ?_
          refine E.nil ?_
          refine wp_ret ?_
          refine bodyPost_ret (res_tmp Try.results3 (hF.at 0 rfl)) hF.dfr ?_
          exact ⟨rfl, bel⟩

end Go.Proofs.Ythoiocjbjfhgpaa
