/- dial.Where. -/
import Derived.Test.YteafnboehmfmiaaDoorDlA
namespace Go.Proofs.YteafnboehmfmiaaDoor
open Go.RowKit
set_option maxRecDepth 100000
set_option linter.unusedVariables false

theorem rv_ib {a b : Int} {c d : Bool} (h : a = b) (k : c = d) : Ending.returned (.tuple #[.int .i64 a, .bool c]) = .returned (.tuple #[.int .i64 b, .bool d]) := by rw [h, k]
set_option maxHeartbeats 4000000 in
theorem where_yes (pa pq : Nat) (x y : Int) (k0 : Int) (w : World) (hT : TabD w) (h1 : FlOf pa x) (h2 : FlOf pq y) (h0 : 0 ≤ k0) (h96 : k0 < 96) (hk : spk (k0 + 24) = x ∧ spk k0 = y) :
    Calls Tryd.prog 13 #[.complex .f64 pa pq] w (ValPost w (.tuple #[.int .i64 k0, .bool true])) := by
  have bel : Below w.heap.size w w := Below.refl _ _
  refine E.enter (nt := 14) (L := [(0, .complex .f64 pa pq)]) Tryd.func13 rfl rfl rfl (args_cons (i := 0) rfl args_nil) ?_
  intro a hF
  refine wp_seq ?_
  refine E.seq ?_
  refine E.opv hF (r_assign ev_c) rfl rfl rfl rfl fun a hF => ?_
  refine E.opv hF (r_assign ev_c) rfl rfl rfl rfl fun a hF => ?_
  refine E.nil ?_
  refine wp_seq ?_
  refine wp_seq ?_
  refine E.seq ?_
  refine E.opv hF (r_move ev_c) rfl rfl rfl rfl fun a hF => ?_
  refine E.nil ?_
  refine wp_block ?_
  refine E.loop (fun mq a wv => ∃ (j : Int), 0 ≤ j ∧ j ≤ 96 ∧ j ≤ k0 ∧ Fr 14 a [(5, .int .i64 j), (0, .complex .f64 pa pq)] ∧ Below w.heap.size w wv ∧ Below w.heap.size w wv ∧ mq = (96 - j).toNat) ((96 - 0 : Int).toNat) ?_ ?_
  · exact ⟨0, (by omega), (by omega), h0, Fr.sub (L' := [(5, .int .i64 0), (0, .complex .f64 pa pq)]) hF (by intro p hp; simp only [List.mem_cons, List.not_mem_nil, or_false] at hp ⊢; rcases hp with rfl | rfl <;> simp), Below.refl _ _, bel, rfl⟩
  · rintro mq a w1 ⟨j, hj0, hj1, hjk, hF, sty, bel, hm⟩
    by_cases hjn : j < 96
    · refine wp_seq ?_
      refine E.seq ?_
      refine E.opv hF (r_bin (hF.at 0 rfl) ev_c eg_scalar (bi_int (ic_lss (c := true) (dec_tt hjn)) (by simp))) rfl rfl rfl rfl fun a hF => ?_
      refine E.nil ?_
      refine wp_seq ?_
      refine wp_cond_true (hF.at 0 rfl) ?_
      refine wp_skip ?_
      refine E.norm ?_
      refine wp_seq ?_
      refine wp_block ?_
      refine wp_seq ?_
      refine E.seq ?_
      refine E.opv hF (r_move (hF.at 1 rfl)) rfl rfl rfl rfl fun a hF => ?_
      refine E.opv hF (r_assign (hF.at 0 rfl)) rfl rfl rfl rfl fun a hF => ?_
      refine E.nil ?_
      refine wp_seq ?_
      refine E.seq ?_
      refine E.opv hF (r_move (hF.at 0 rfl)) rfl rfl rfl rfl fun a hF => ?_
      refine E.call hF (r_call Tryd.func12 en12.1 en12.2 (map1 (hF.at 0 rfl))) (point_any j _ (hT.below bel)) rfl rfl rfl rfl ?_
      rintro e w2 ⟨rfl, bb⟩
      refine ⟨_, rfl, ?_⟩
      intro a hF
      replace bel := below_to bel bb
      replace sty := below_to sty bb
      clear bb
      refine E.opv hF (r_move (hF.at 6 rfl)) rfl rfl rfl rfl fun a hF => ?_
      by_cases hc3 : spk (j + 24) = x ∧ spk (j) = y
      · refine E.opv hF (r_bin (hF.at 1 rfl) (hF.at 0 rfl) eg_cx (cx_eql ((cxq (fI_sp (j + 24)) (fI_sp (j)) h1 h2).trans (dec_tt hc3)))) rfl rfl rfl rfl fun a hF => ?_
        refine E.nil ?_
        refine wp_cond_true (hF.at 0 rfl) ?_
        refine wp_seq ?_
        refine E.seq ?_
        refine E.opv hF (r_move (hF.at 4 rfl)) rfl rfl rfl rfl fun a hF => ?_
        refine E.opv hF (r_assign (hF.at 0 rfl)) rfl rfl rfl rfl fun a hF => ?_
        refine E.opv hF (r_assign ev_c) rfl rfl rfl rfl fun a hF => ?_
        refine E.nil ?_
        refine wp_ret ?_
        refine bodyPost_ret (res_tmp2 Tryd.results13 (hF.at 1 rfl) (hF.at 0 rfl)) hF.dfr ?_
        have e := pt_inj hj0 hjn h0 h96 ⟨hc3.1.trans hk.1.symm, hc3.2.trans hk.2.symm⟩
        exact ⟨rv_ib e rfl, bel⟩
      · refine E.opv hF (r_bin (hF.at 1 rfl) (hF.at 0 rfl) eg_cx (cx_eql ((cxq (fI_sp (j + 24)) (fI_sp (j)) h1 h2).trans (dec_ff hc3)))) rfl rfl rfl rfl fun a hF => ?_
        refine E.nil ?_
        refine wp_cond_false (hF.at 0 rfl) ?_
        refine wp_skip ?_
        refine E.blk ?_
        refine E.norm ?_
        refine E.seq ?_
        refine E.opv hF (r_bin (hF.at 7 rfl) ev_c eg_scalar (ia_add (by omega) (by omega))) rfl rfl rfl rfl fun a hF => ?_
        refine E.opset (L' := [(5, .int .i64 (j + 1)), (13, .int .i64 (j + 1)), (11, .bool false), (10, .complex .f64 pa pq), (9, .complex .f64 (fI (spk (j + 24))) (fI (spk (j)))), (8, .int .i64 j), (4, .int .i64 j), (7, .int .i64 j), (6, .bool true), (0, .complex .f64 pa pq)]) hF (r_move (hF.at 0 rfl)) rfl rfl rfl rfl fun a hF => ?_
        refine E.nil0 ?_
        refine E.norm ?_
        exact ⟨(96 - (j + 1)).toNat, by omega, ⟨(j + 1), (by omega), (by omega), (by rcases Int.lt_trichotomy j k0 with e | e | e; omega; exact absurd (e ▸ hk) (by assumption); omega), Fr.sub (L' := [(5, .int .i64 (j + 1)), (0, .complex .f64 pa pq)]) hF (by intro p hp; simp only [List.mem_cons, List.not_mem_nil, or_false] at hp ⊢; rcases hp with rfl | rfl <;> simp), sty, bel, rfl⟩⟩
    · refine wp_seq ?_
      refine E.seq ?_
      refine E.opv hF (r_bin (hF.at 0 rfl) ev_c eg_scalar (bi_int (ic_lss (c := false) (dec_ff hjn)) (by simp))) rfl rfl rfl rfl fun a hF => ?_
      refine E.nil ?_
      refine wp_seq ?_
      refine wp_cond_false (hF.at 0 rfl) ?_
      refine wp_exit ?_
      refine E.past ?_
      refine E.past ?_
      refine E.out (id := 0) ?_
      refine E.norm ?_
      refine wp_seq ?_
      refine E.seq ?_
      refine E.opv hF (r_assign ev_c) rfl rfl rfl rfl fun a hF => ?_
      refine E.opv hF (r_assign ev_c) rfl rfl rfl rfl fun a hF => ?_
      refine E.nil ?_
      refine wp_ret ?_
      refine bodyPost_ret (res_tmp2 Tryd.results13 (hF.at 1 rfl) (hF.at 0 rfl)) hF.dfr ?_
      exfalso; omega

set_option maxHeartbeats 4000000 in
theorem where_no (pa pq : Nat) (x y : Int) (w : World) (hT : TabD w) (h1 : FlOf pa x) (h2 : FlOf pq y) (hk : ∀ k, 0 ≤ k → k < 96 → ¬ (spk (k + 24) = x ∧ spk k = y)) :
    Calls Tryd.prog 13 #[.complex .f64 pa pq] w (ValPost w (.tuple #[.int .i64 0, .bool false])) := by
  have bel : Below w.heap.size w w := Below.refl _ _
  refine E.enter (nt := 14) (L := [(0, .complex .f64 pa pq)]) Tryd.func13 rfl rfl rfl (args_cons (i := 0) rfl args_nil) ?_
  intro a hF
  refine wp_seq ?_
  refine E.seq ?_
  refine E.opv hF (r_assign ev_c) rfl rfl rfl rfl fun a hF => ?_
  refine E.opv hF (r_assign ev_c) rfl rfl rfl rfl fun a hF => ?_
  refine E.nil ?_
  refine wp_seq ?_
  refine wp_seq ?_
  refine E.seq ?_
  refine E.opv hF (r_move ev_c) rfl rfl rfl rfl fun a hF => ?_
  refine E.nil ?_
  refine wp_block ?_
  refine E.loop (fun mq a wv => ∃ (j : Int), 0 ≤ j ∧ j ≤ 96 ∧ True ∧ Fr 14 a [(5, .int .i64 j), (0, .complex .f64 pa pq)] ∧ Below w.heap.size w wv ∧ Below w.heap.size w wv ∧ mq = (96 - j).toNat) ((96 - 0 : Int).toNat) ?_ ?_
  · exact ⟨0, (by omega), (by omega), trivial, Fr.sub (L' := [(5, .int .i64 0), (0, .complex .f64 pa pq)]) hF (by intro p hp; simp only [List.mem_cons, List.not_mem_nil, or_false] at hp ⊢; rcases hp with rfl | rfl <;> simp), Below.refl _ _, bel, rfl⟩
  · rintro mq a w1 ⟨j, hj0, hj1, hjk, hF, sty, bel, hm⟩
    by_cases hjn : j < 96
    · refine wp_seq ?_
      refine E.seq ?_
      refine E.opv hF (r_bin (hF.at 0 rfl) ev_c eg_scalar (bi_int (ic_lss (c := true) (dec_tt hjn)) (by simp))) rfl rfl rfl rfl fun a hF => ?_
      refine E.nil ?_
      refine wp_seq ?_
      refine wp_cond_true (hF.at 0 rfl) ?_
      refine wp_skip ?_
      refine E.norm ?_
      refine wp_seq ?_
      refine wp_block ?_
      refine wp_seq ?_
      refine E.seq ?_
      refine E.opv hF (r_move (hF.at 1 rfl)) rfl rfl rfl rfl fun a hF => ?_
      refine E.opv hF (r_assign (hF.at 0 rfl)) rfl rfl rfl rfl fun a hF => ?_
      refine E.nil ?_
      refine wp_seq ?_
      refine E.seq ?_
      refine E.opv hF (r_move (hF.at 0 rfl)) rfl rfl rfl rfl fun a hF => ?_
      refine E.call hF (r_call Tryd.func12 en12.1 en12.2 (map1 (hF.at 0 rfl))) (point_any j _ (hT.below bel)) rfl rfl rfl rfl ?_
      rintro e w2 ⟨rfl, bb⟩
      refine ⟨_, rfl, ?_⟩
      intro a hF
      replace bel := below_to bel bb
      replace sty := below_to sty bb
      clear bb
      refine E.opv hF (r_move (hF.at 6 rfl)) rfl rfl rfl rfl fun a hF => ?_
      by_cases hc3 : spk (j + 24) = x ∧ spk (j) = y
      · refine E.opv hF (r_bin (hF.at 1 rfl) (hF.at 0 rfl) eg_cx (cx_eql ((cxq (fI_sp (j + 24)) (fI_sp (j)) h1 h2).trans (dec_tt hc3)))) rfl rfl rfl rfl fun a hF => ?_
        refine E.nil ?_
        refine wp_cond_true (hF.at 0 rfl) ?_
        refine wp_seq ?_
        refine E.seq ?_
        refine E.opv hF (r_move (hF.at 4 rfl)) rfl rfl rfl rfl fun a hF => ?_
        refine E.opv hF (r_assign (hF.at 0 rfl)) rfl rfl rfl rfl fun a hF => ?_
        refine E.opv hF (r_assign ev_c) rfl rfl rfl rfl fun a hF => ?_
        refine E.nil ?_
        refine wp_ret ?_
        refine bodyPost_ret (res_tmp2 Tryd.results13 (hF.at 1 rfl) (hF.at 0 rfl)) hF.dfr ?_
        exfalso; exact hk j hj0 hjn (by assumption)
      · refine E.opv hF (r_bin (hF.at 1 rfl) (hF.at 0 rfl) eg_cx (cx_eql ((cxq (fI_sp (j + 24)) (fI_sp (j)) h1 h2).trans (dec_ff hc3)))) rfl rfl rfl rfl fun a hF => ?_
        refine E.nil ?_
        refine wp_cond_false (hF.at 0 rfl) ?_
        refine wp_skip ?_
        refine E.blk ?_
        refine E.norm ?_
        refine E.seq ?_
        refine E.opv hF (r_bin (hF.at 7 rfl) ev_c eg_scalar (ia_add (by omega) (by omega))) rfl rfl rfl rfl fun a hF => ?_
        refine E.opset (L' := [(5, .int .i64 (j + 1)), (13, .int .i64 (j + 1)), (11, .bool false), (10, .complex .f64 pa pq), (9, .complex .f64 (fI (spk (j + 24))) (fI (spk (j)))), (8, .int .i64 j), (4, .int .i64 j), (7, .int .i64 j), (6, .bool true), (0, .complex .f64 pa pq)]) hF (r_move (hF.at 0 rfl)) rfl rfl rfl rfl fun a hF => ?_
        refine E.nil0 ?_
        refine E.norm ?_
        exact ⟨(96 - (j + 1)).toNat, by omega, ⟨(j + 1), (by omega), (by omega), trivial, Fr.sub (L' := [(5, .int .i64 (j + 1)), (0, .complex .f64 pa pq)]) hF (by intro p hp; simp only [List.mem_cons, List.not_mem_nil, or_false] at hp ⊢; rcases hp with rfl | rfl <;> simp), sty, bel, rfl⟩⟩
    · refine wp_seq ?_
      refine E.seq ?_
      refine E.opv hF (r_bin (hF.at 0 rfl) ev_c eg_scalar (bi_int (ic_lss (c := false) (dec_ff hjn)) (by simp))) rfl rfl rfl rfl fun a hF => ?_
      refine E.nil ?_
      refine wp_seq ?_
      refine wp_cond_false (hF.at 0 rfl) ?_
      refine wp_exit ?_
      refine E.past ?_
      refine E.past ?_
      refine E.out (id := 0) ?_
      refine E.norm ?_
      refine wp_seq ?_
      refine E.seq ?_
      refine E.opv hF (r_assign ev_c) rfl rfl rfl rfl fun a hF => ?_
      refine E.opv hF (r_assign ev_c) rfl rfl rfl rfl fun a hF => ?_
      refine E.nil ?_
      refine wp_ret ?_
      refine bodyPost_ret (res_tmp2 Tryd.results13 (hF.at 1 rfl) (hF.at 0 rfl)) hF.dfr ?_
      exact ⟨rfl, bel⟩

end Go.Proofs.YteafnboehmfmiaaDoor
