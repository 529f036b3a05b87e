/- nat: Sum. -/
import Derived.Test.YthoiocjbjfhgpaaNsA
namespace Go.Proofs.Ythoiocjbjfhgpaa
open Go.RowKit
set_option maxRecDepth 100000
set_option linter.unusedVariables false

theorem pair0 {a : Act} : ((#[] : Array (Nat × Operand)).map fun (p : Nat × Operand) => (p.1, a.eval p.2)) = #[] := by simp
set_option maxHeartbeats 1000000 in
theorem nSum_any (v1 : Value) (ns : List Nat) (w : World) (h1 : NSl w v1 ns) (hb : ∀ i, i < ns.length → dl B32 (nsum ns i + ns.getD i 0) ≤ 1099511627776) (hn : ns.length ≤ 1000000) :
    Calls Try.prog 12 #[v1] w (DgPost w (nsum ns ns.length)) := by
  obtain ⟨ad, cc, rfl, hrow⟩ := h1
  have bel : Below w.heap.size w w := Below.refl _ _
  refine E.enter (nt := 18) (L := [(0, .slice ad ns.length cc)]) Try.func12 rfl rfl rfl (args_cons (i := 0) rfl args_nil) ?_
  intro a hF
  refine wp_seq ?_
  refine E.seq ?_
  refine E.opv hF (r_assign ev_c) rfl rfl rfl rfl fun a hF => ?_
  refine E.nil ?_
  refine wp_seq ?_
  refine E.seq ?_
  obtain ⟨vv1, w2, hr, bb, hh3⟩ := bs_nat0 w
  refine E.opv hF (r_buildSlice pair0 hr) rfl rfl rfl rfl fun a hF => ?_
  clear hr
  replace hrow := hrow.below bb
  replace bel := below_to bel bb
  clear bb
  obtain ⟨ad4, n4, c4, rfl⟩ := Dg.form hh3
  refine E.opv hF (r_assign (hF.at 0 rfl)) rfl rfl rfl rfl fun a hF => ?_
  refine E.nil ?_
  refine wp_seq ?_
  refine wp_seq ?_
  refine E.seq ?_
  refine E.opv hF (r_move (hF.at 3 rfl)) rfl rfl rfl rfl fun a hF => ?_
  refine E.opv hF (r_builtin (map1 (hF.at 0 rfl)) bl_nats) rfl rfl rfl rfl fun a hF => ?_
  refine E.opv hF (r_move ev_c) rfl rfl rfl rfl fun a hF => ?_
  refine E.nil ?_
  refine wp_block ?_
  refine E.loop (fun m a wv => ∃ (i : Nat) (sa : Option Addr) (sn : Nat) (sc : Nat), i ≤ ns.length ∧ Fr 18 a [(9, .int .i64 ((i : Nat) : Int)), (8, .int .i64 ((ns.length : Nat) : Int)), (7, .slice ad ns.length cc), (3, .slice sa sn sc), (2, .slice none 0 0)] ∧ Below w2.heap.size w2 wv ∧ Below w.heap.size w wv ∧ Dg wv .u32 B32 (.slice sa sn sc) (nsum ns i) ∧ m = ns.length - i) (ns.length - 0) ?_ ?_
  · exact ⟨0, ad4, n4, c4, Nat.zero_le _, Fr.sub (L' := [(9, .int .i64 ((0 : Nat) : Int)), (8, .int .i64 ((ns.length : Nat) : Int)), (7, .slice ad ns.length cc), (3, .slice ad4 n4 c4), (2, .slice none 0 0)]) hF (by intro p hp; simp only [List.mem_cons, List.not_mem_nil, or_false] at hp ⊢; rcases hp with rfl | rfl | rfl | rfl | rfl <;> simp), Below.refl _ _, bel, hh3, rfl⟩
  · rintro m a w5 ⟨i, sa, sn, sc, hi0, hF, sty, bel, hs, hm⟩
    replace hrow := hrow.below sty
    by_cases hi : i < ns.length
    · refine wp_seq ?_
      refine E.seq ?_
      refine E.opv hF (r_bin (hF.at 0 rfl) (hF.at 1 rfl) eg_scalar (bi_int (ic_lss (c := true) (by simp only [decide_eq_true_eq]; omega)) (by simp))) rfl rfl rfl rfl fun a hF => ?_
      refine E.nil ?_
      refine wp_seq ?_
      refine wp_cond_true (hF.at 0 rfl) ?_
      refine wp_skip ?_
      refine E.norm ?_
      refine wp_seq ?_
      refine wp_block ?_
      refine wp_seq ?_
      refine E.seq ?_
      obtain ⟨xg, xo, xcs, xa, xn, xc, had, orow, hcut, hx⟩ := hrow.at hi
      refine E.opv hF (r_index (hF.at 3 rfl) (hF.at 1 rfl) (by rw [had]; exact ix_nats hi)) rfl rfl rfl rfl fun a hF => ?_
      refine E.opv hF (r_load (hF.at 0 rfl) (ld_Nat (v := .slice xa xn xc) orow hcut)) rfl rfl rfl rfl fun a hF => ?_
      refine E.opv hF (r_assign (hF.at 0 rfl)) rfl rfl rfl rfl fun a hF => ?_
      refine E.nil ?_
      refine E.seq ?_
      refine E.opv hF (r_move (hF.at 7 rfl)) rfl rfl rfl rfl fun a hF => ?_
      refine E.opv hF (r_move (hF.at 1 rfl)) rfl rfl rfl rfl fun a hF => ?_
      refine E.call hF (r_call Try.func40 en40.1 en40.2 (map2 (hF.at 1 rfl) (hF.at 0 rfl))) (add_any _ _ (nsum ns i) (ns.getD i 0) _ (Dg.nt hs) hx (hb i hi)) rfl rfl rfl rfl ?_
      rintro e w6 ⟨vv7, rfl, hh8, bb⟩
      refine ⟨_, rfl, ?_⟩
      intro a hF
      replace hx := hx.below bb
      replace hs := hs.below bb
      replace hrow := hrow.below bb
      replace orow := orow.below bb
      replace bel := below_to bel bb
      replace sty := below_to sty bb
      clear bb
      obtain ⟨ad9, n9, c9, rfl⟩ := Dg.form hh8
      refine E.opset (L' := [(3, .slice ad9 n9 c9), (15, .slice ad9 n9 c9), (14, .slice xa xn xc), (13, .slice sa sn sc), (5, .slice xa xn xc), (12, .slice xa xn xc), (11, .pointer (some ⟨xg, xo + i, none⟩)), (10, .bool true), (9, .int .i64 ((i : Nat) : Int)), (8, .int .i64 ((ns.length : Nat) : Int)), (7, .slice ad ns.length cc), (2, .slice none 0 0)]) hF (r_assign (hF.at 0 rfl)) rfl rfl rfl rfl fun a hF => ?_
      refine E.nil0 ?_
      refine E.blk ?_
      refine E.norm ?_
      refine E.seq ?_
      refine E.opv hF (r_bin (hF.at 8 rfl) ev_c eg_scalar (ia_add (by omega) (by omega))) rfl rfl rfl rfl fun a hF => ?_
      refine E.opset (L' := [(9, .int .i64 (((i : Nat) : Int) + 1)), (16, .int .i64 (((i : Nat) : Int) + 1)), (3, .slice ad9 n9 c9), (15, .slice ad9 n9 c9), (14, .slice xa xn xc), (13, .slice sa sn sc), (5, .slice xa xn xc), (12, .slice xa xn xc), (11, .pointer (some ⟨xg, xo + i, none⟩)), (10, .bool true), (8, .int .i64 ((ns.length : Nat) : Int)), (7, .slice ad ns.length cc), (2, .slice none 0 0)]) hF (r_move (hF.at 0 rfl)) rfl rfl rfl rfl fun a hF => ?_
      refine E.nil0 ?_
      refine E.norm ?_
      exact ⟨ns.length - (i + 1), by omega, ⟨i + 1, ad9, n9, c9, hi, (by rw [show (((i + 1 : Nat)) : Int) = ((i : Nat) : Int) + 1 from by omega]; exact Fr.sub (L' := [(9, .int .i64 (((i : Nat) : Int) + 1)), (8, .int .i64 ((ns.length : Nat) : Int)), (7, .slice ad ns.length cc), (3, .slice ad9 n9 c9), (2, .slice none 0 0)]) hF (by intro p hp; simp only [List.mem_cons, List.not_mem_nil, or_false] at hp ⊢; rcases hp with rfl | rfl | rfl | rfl | rfl <;> simp)), sty, bel, hh8, rfl⟩⟩
    · refine wp_seq ?_
      refine E.seq ?_
      refine E.opv hF (r_bin (hF.at 0 rfl) (hF.at 1 rfl) eg_scalar (bi_int (ic_lss (c := false) (by simp only [decide_eq_false_iff_not]; omega)) (by simp))) rfl rfl rfl rfl fun a hF => ?_
      refine E.nil ?_
      refine wp_seq ?_
      refine wp_cond_false (hF.at 0 rfl) ?_
      refine wp_exit ?_
      refine E.past ?_
      refine E.past ?_
      refine E.out (id := 0) ?_
      refine E.norm ?_
      refine wp_seq ?_
      refine E.seq ?_
      refine E.opv hF (r_move (hF.at 4 rfl)) rfl rfl rfl rfl fun a hF => ?_
      refine E.opset (L' := [(2, .slice sa sn sc), (17, .slice sa sn sc), (10, .bool false), (9, .int .i64 ((i : Nat) : Int)), (8, .int .i64 ((ns.length : Nat) : Int)), (7, .slice ad ns.length cc), (3, .slice sa sn sc)]) hF (r_assign (hF.at 0 rfl)) rfl rfl rfl rfl fun a hF => ?_
      refine E.nil ?_
      refine wp_ret ?_
      refine bodyPost_ret (res_tmp Try.results12 (hF.at 0 rfl)) hF.dfr ?_
      exact ⟨_, rfl, by rw [show ns.length = i from by omega]; exact hs, bel⟩

end Go.Proofs.Ythoiocjbjfhgpaa
