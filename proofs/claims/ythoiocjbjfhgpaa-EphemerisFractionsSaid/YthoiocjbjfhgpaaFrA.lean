/- EphemerisFractions. -/
import Derived.Test.YthoiocjbjfhgpaaFrW
import Derived.Test.YthoiocjbjfhgpaaGN
import Derived.Test.YthoiocjbjfhgpaaGY
import Derived.Test.YthoiocjbjfhgpaaGJ
namespace Go.Proofs.Ythoiocjbjfhgpaa
open Go.RowKit
set_option maxRecDepth 100000
set_option linter.unusedVariables false

set_option maxHeartbeats 8000000 in
theorem fractions_walk (nega1 : Bool) (aa1 : Option Addr) (na1 ca1 : Nat) (xa1 : List Nat) (negb1 : Bool) (ab1 : Option Addr) (nb1 cb1 : Nat) (xb1 : List Nat) (w : World) (ia1 : InX w aa1 na1 ca1 xa1) (ib1 : InX w ab1 nb1 cb1 xb1) :
    Calls Try.prog 6 #[.agg #[.bool nega1, .slice aa1 na1 ca1, .bool negb1, .slice ab1 nb1 cb1]] w (ValPost w (.bool true)) := by
  have oka1 := ia1.ok
  have okb1 := ib1.ok
  have bel : Below w.heap.size w w := Below.refl _ _
  refine E.enter (nt := 59) (L := [(0, .agg #[.bool nega1, .slice aa1 na1 ca1, .bool negb1, .slice ab1 nb1 cb1])]) Try.func6 rfl rfl rfl (args_cons (i := 0) rfl args_nil) ?_
  intro a hF
  refine wp_seq ?_
  refine E.seq ?_
  obtain ⟨g1, w1, ge1, hr, bb, o1⟩ := own_box (P := Try.prog) (w := w) (cs := [.bool nega1, .slice aa1 na1 ca1, .bool negb1, .slice ab1 nb1 cb1]) (v := .agg #[.bool nega1, .slice aa1 na1 ca1, .bool negb1, .slice ab1 nb1 cb1]) 59 rfl (niB (niS (niB (niS ni0))))
  replace ge1 : w.heap.size ≤ g1 := by rw [← ge1]; exact bel.size
  refine E.opv hF (r_box (hF.at 0 rfl) hr) rfl rfl rfl rfl fun a hF => ?_
  clear hr
  replace ia1 := ia1.below bb
  replace ib1 := ib1.below bb
  replace bel := below_to bel bb
  clear bb
  refine E.opv hF (r_assign ev_c) rfl rfl rfl rfl fun a hF => ?_
  refine E.nil ?_
  refine wp_seq ?_
  refine wp_seq ?_
  refine E.seq ?_
  refine E.call hF (r_call Try.func24 en24.1 en24.2 map0) (live_any _) rfl rfl rfl rfl ?_
  rintro e w2 ⟨rfl, bb⟩
  refine ⟨_, rfl, ?_⟩
  intro a hF
  replace ia1 := ia1.below bb
  replace ib1 := ib1.below bb
  replace o1 := o1.below bb
  replace bel := below_to bel bb
  clear bb
  refine E.opv hF (r_un (hF.at 0 rfl) (bn_not _ false rfl)) rfl rfl rfl rfl fun a hF => ?_
  refine E.nil ?_
  refine wp_cond_false (hF.at 0 rfl) ?_
  refine wp_skip ?_
  refine E.norm ?_
  refine wp_seq ?_
  refine E.seq ?_
  refine E.opv hF (r_load (hF.at 3 rfl) (ld_Raw5 (vs := [.bool nega1, .slice aa1 na1 ca1, .bool negb1, .slice ab1 nb1 cb1]) o1 rfl rfl)) rfl rfl rfl rfl fun a hF => ?_
  refine E.call hF (r_call Try.func25 en25.1 en25.2 (map2 (hF.at 0 rfl) ev_c)) (Own5_any nega1 aa1 na1 ca1 xa1 negb1 ab1 nb1 cb1 xb1 3 _ ia1 ib1 (by omega)) rfl rfl rfl rfl ?_
  rintro e w3 ⟨vv4, rfl, hh5, bb⟩
  refine ⟨_, rfl, ?_⟩
  intro a hF
  replace bel := below_to bel bb
  clear bb
  obtain ⟨b6, ad6, n6, c6, ae6, m6, d6, rfl, hn6, hd6⟩ := Rq.shape hh5
  have hf7 := Wc.abs hn6
  obtain ⟨g3, w8, ge3, hr, bb, o3⟩ := own_alloc (P := Try.prog) (w := w3) (cs := [.bool false, .slice none 0 0, .slice none 0 0]) 61 ze_Rat rfl (niB (niS (niS ni0)))
  replace ge3 : w.heap.size ≤ g3 := by rw [← ge3]; exact bel.size
  refine E.opv hF (r_alloc hr) rfl rfl rfl rfl fun a hF => ?_
  clear hr
  replace hh5 := hh5.below bb
  replace hn6 := hn6.below bb
  replace hf7 := hf7.below bb
  replace hd6 := hd6.below bb
  replace bel := below_to bel bb
  clear bb
  obtain ⟨w9, hr, tu, on⟩ := st_Rat (vs := [.bool b6, .slice ad6 n6 c6, .slice ae6 m6 d6]) o3 rfl rfl (ocB (ocS (ocS oc0))) (niB (niS (niS ni0))) (o := 0) rfl
  have kp := tu.keep o3
  refine E.st hF (r_store (hF.at 0 rfl) (hF.at 1 rfl) (hr _ rfl)) rfl rfl fun a hF => ?_
  clear hr
  replace hh5 := hh5.keep kp
  replace hn6 := hn6.keep kp
  replace hf7 := hf7.keep kp
  replace hd6 := hd6.keep kp
  replace bel := tu.below bel ge3
  clear tu kp
  replace o3 := on
  clear on
  refine E.nil ?_
  refine wp_seq ?_
  refine E.seq ?_
  refine E.opv hF (r_assign ev_c) rfl rfl rfl rfl fun a hF => ?_
  refine E.nil ?_
  refine wp_seq ?_
  refine E.seq ?_
  refine E.opv hF (r_load (hF.at 1 rfl) (ld_Rat (vs := [.bool b6, .slice ad6 n6 c6, .slice ae6 m6 d6]) o3 rfl rfl)) rfl rfl rfl rfl fun a hF => ?_
  obtain ⟨g5, w10, ge5, hr, bb, o5⟩ := own_alloc (P := Try.prog) (w := w9) (cs := [.bool false, .slice none 0 0, .slice none 0 0]) 61 ze_Rat rfl (niB (niS (niS ni0)))
  have ne3_5 : g3 ≠ g5 := by rw [← ge5]; exact o3.ne_new
  replace ge5 : w.heap.size ≤ g5 := by rw [← ge5]; exact bel.size
  refine E.opv hF (r_alloc hr) rfl rfl rfl rfl fun a hF => ?_
  clear hr
  replace hh5 := hh5.below bb
  replace hn6 := hn6.below bb
  replace hf7 := hf7.below bb
  replace hd6 := hd6.below bb
  replace o3 := o3.below bb
  replace bel := below_to bel bb
  clear bb
  obtain ⟨w11, hr, tu, on⟩ := st_Rat (vs := [.bool b6, .slice ad6 n6 c6, .slice ae6 m6 d6]) o5 rfl rfl (ocB (ocS (ocS oc0))) (niB (niS (niS ni0))) (o := 0) rfl
  have kp := tu.keep o5
  refine E.st hF (r_store (hF.at 0 rfl) (hF.at 1 rfl) (hr _ rfl)) rfl rfl fun a hF => ?_
  clear hr
  replace hf7 := hf7.keep kp
  replace hd6 := hd6.keep kp
  replace hh5 := hh5.keep kp
  replace hn6 := hn6.keep kp
  replace o3 := tu.own o3 ne3_5
  replace bel := tu.below bel ge5
  clear tu kp
  replace o5 := on
  clear on
  refine E.nil ?_
  refine wp_seq ?_
  refine wp_seq ?_
  refine E.seq ?_
  refine E.opv hF (r_assign ev_c) rfl rfl rfl rfl fun a hF => ?_
  refine E.nil ?_
  refine wp_block ?_
  refine E.loop (fun mq a wv => ∃ (i : Nat) (la : Option Addr) (ln : Nat) (lc : Nat) (sb : Bool) (sa : Option Addr) (sn : Nat) (sc : Nat) (ta : Option Addr) (tn : Nat) (tc : Nat), Going (((rawZ nega1 xa1 3 : Int) : Rat) / ((rawZ negb1 xb1 3 : Int) : Rat)) i ∧ i ≤ 192 ∧ (Value.slice la ln lc).ownBlock ≠ some g3 ∧ (Value.slice la ln lc).ownBlock ≠ some g5 ∧ Fr 59 a [(6, .int .i64 ((i : Nat) : Int)), (5, .pointer (some ⟨g5, 0, none⟩)), (4, .slice la ln lc), (3, .pointer (some ⟨g3, 0, none⟩))] ∧ Below w.heap.size w wv ∧ QAcc wv w.heap.size (.slice la ln lc) (flq (((rawZ nega1 xa1 3 : Int) : Rat) / ((rawZ negb1 xb1 3 : Int) : Rat)) i) ∧ Own wv g3 [.bool b6, .slice ad6 n6 c6, .slice ae6 m6 d6] ∧ Rq wv (.agg #[.bool b6, .slice ad6 n6 c6, .slice ae6 m6 d6]) (((rawZ nega1 xa1 3 : Int) : Rat) / ((rawZ negb1 xb1 3 : Int) : Rat)) ∧ Own wv g5 [.bool sb, .slice sa sn sc, .slice ta tn tc] ∧ Rq wv (.agg #[.bool sb, .slice sa sn sc, .slice ta tn tc]) (itq (((rawZ nega1 xa1 3 : Int) : Rat) / ((rawZ negb1 xb1 3 : Int) : Rat)) i) ∧ mq = 193 - i) (193 - 0) ?_ ?_
  · exact ⟨0, none, 0, 0, _, _, _, _, _, _, _, (fun j hj => absurd hj (Nat.not_lt_zero _)), (Nat.zero_le _), (by simp [Value.ownBlock]), (by simp [Value.ownBlock]), Fr.sub (L' := [(6, .int .i64 ((0 : Nat) : Int)), (5, .pointer (some ⟨g5, 0, none⟩)), (4, .slice none 0 0), (3, .pointer (some ⟨g3, 0, none⟩))]) hF (by intro p hp; simp only [List.mem_cons, List.not_mem_nil, or_false] at hp ⊢; rcases hp with rfl | rfl | rfl | rfl <;> simp), bel, (QAcc.nil _ _), o3, hh5, o5, hh5, rfl⟩
  · rintro mq a w12 ⟨i, la, ln, lc, sb, sa, sn, sc, ta, tn, tc, hgo, hi0, hnv3, hnv5, hF, bel, hqa, o3, hh5, o5, hs, hm⟩
    refine wp_seq ?_
    refine wp_block ?_
    refine wp_seq ?_
    refine E.seq ?_
    refine E.opv hF (r_load (hF.at 1 rfl) (ld_Rat (vs := [.bool sb, .slice sa sn sc, .slice ta tn tc]) o5 rfl rfl)) rfl rfl rfl rfl fun a hF => ?_
    refine E.call hF (r_call Try.func27 en27.1 en27.2 (map1 (hF.at 0 rfl))) (cFloor_any _ (itq (((rawZ nega1 xa1 3 : Int) : Rat) / ((rawZ negb1 xb1 3 : Int) : Rat)) i) 3 _ hs (itq_lim (own5_lim nega1 negb1 oka1 okb1 3 (by decide)) i hgo) (by omega)) rfl rfl rfl rfl ?_
    rintro e w13 ⟨vv14, rfl, hh15, bb⟩
    refine ⟨_, rfl, ?_⟩
    intro a hF
    replace hqa := hqa.below bb
    replace hh5 := hh5.below bb
    replace hs := hs.below bb
    replace o3 := o3.below bb
    replace o5 := o5.below bb
    replace bel := below_to bel bb
    clear bb
    obtain ⟨ad16, n16, c16, rfl, _⟩ := Wc.shape hh15
    refine E.call hF (r_call Try.func26 en26.1 en26.2 (map1 (hF.at 0 rfl))) (cOf_any _ (Rat.floor (itq (((rawZ nega1 xa1 3 : Int) : Rat) / ((rawZ negb1 xb1 3 : Int) : Rat)) i)) _ (Wc.wz hh15)) rfl rfl rfl rfl ?_
    rintro e w17 ⟨vv18, rfl, hh19, bb⟩
    refine ⟨_, rfl, ?_⟩
    intro a hF
    replace hqa := hqa.below bb
    replace hh5 := hh5.below bb
    replace hs := hs.below bb
    replace o3 := o3.below bb
    replace o5 := o5.below bb
    replace bel := below_to bel bb
    clear bb
    obtain ⟨b20, ad20, n20, c20, ae20, m20, d20, rfl, hn20, hd20⟩ := Rq.shape hh19
    have hf21 := Wc.abs hn20
    obtain ⟨g7, w22, ge7, hr, bb, o7⟩ := own_alloc (P := Try.prog) (w := w17) (cs := [.bool false, .slice none 0 0, .slice none 0 0]) 61 ze_Rat rfl (niB (niS (niS ni0)))
    have ne3_7 : g3 ≠ g7 := by rw [← ge7]; exact o3.ne_new
    have ne5_7 : g5 ≠ g7 := by rw [← ge7]; exact o5.ne_new
    have hnv7 : (Value.slice la ln lc).ownBlock ≠ some g7 := by rw [← ge7]; exact fun e => Nat.lt_irrefl _ (hqa.lt _ e).2
    replace ge7 : w.heap.size ≤ g7 := by rw [← ge7]; exact bel.size
    refine E.opv hF (r_alloc hr) rfl rfl rfl rfl fun a hF => ?_
    clear hr
    replace hh19 := hh19.below bb
    replace hn20 := hn20.below bb
    replace hf21 := hf21.below bb
    replace hd20 := hd20.below bb
    replace hqa := hqa.below bb
    replace hh5 := hh5.below bb
    replace hs := hs.below bb
    replace o3 := o3.below bb
    replace o5 := o5.below bb
    replace bel := below_to bel bb
    clear bb
    obtain ⟨w23, hr, tu, on⟩ := st_Rat (vs := [.bool b20, .slice ad20 n20 c20, .slice ae20 m20 d20]) o7 rfl rfl (ocB (ocS (ocS oc0))) (niB (niS (niS ni0))) (o := 0) rfl
    have kp := tu.keep o7
    refine E.st hF (r_store (hF.at 0 rfl) (hF.at 1 rfl) (hr _ rfl)) rfl rfl fun a hF => ?_
    clear hr
    replace hqa := hqa.turned tu o7 hnv7
    replace hh5 := hh5.keep kp
    replace hs := hs.keep kp
    replace hh19 := hh19.keep kp
    replace hn20 := hn20.keep kp
    replace hf21 := hf21.keep kp
    replace hd20 := hd20.keep kp
    replace o3 := tu.own o3 ne3_7
    replace o5 := tu.own o5 ne5_7
    replace bel := tu.below bel ge7
    clear tu kp
    replace o7 := on
    clear on
    refine E.nil ?_
    refine wp_seq ?_
    refine E.seq ?_
    refine E.opv hF (r_move (hF.at 6 rfl)) rfl rfl rfl rfl fun a hF => ?_
    refine E.opv hF (r_load (hF.at 1 rfl) (ld_Rat (vs := [.bool b20, .slice ad20 n20 c20, .slice ae20 m20 d20]) o7 rfl rfl)) rfl rfl rfl rfl fun a hF => ?_
    obtain ⟨gq24, w25, egq24, hr, bb, ogq24⟩ := bs_rat w23 b20 ad20 n20 c20 ae20 m20 d20
    refine E.opv hF (r_buildSlice (pair1 (hF.at 0 rfl)) hr) rfl rfl rfl rfl fun a hF => ?_
    clear hr egq24
    replace hqa := hqa.below bb
    replace hh5 := hh5.below bb
    replace hs := hs.below bb
    replace hf21 := hf21.below bb
    replace hd20 := hd20.below bb
    replace hh19 := hh19.below bb
    replace hn20 := hn20.below bb
    replace o3 := o3.below bb
    replace o5 := o5.below bb
    replace o7 := o7.below bb
    replace bel := below_to bel bb
    clear bb
    obtain ⟨la26, ln27, lc28, w29, hr, hqa30, gg, kp, bb, hln, hne⟩ := app_rat hqa ogq24 hh19 (by rw [flq_len]; omega) bel.size
    refine E.opv hF (r_builtin (map2 (hF.at 2 rfl) (hF.at 0 rfl)) hr) rfl rfl rfl rfl fun a hF => ?_
    clear hr
    have hmv3 := hne _ o3.lt hnv3
    replace o3 := o3.grown gg (fun e => hnv3 e.symm)
    replace hnv3 := hmv3
    clear hmv3
    have hmv5 := hne _ o5.lt hnv5
    replace o5 := o5.grown gg (fun e => hnv5 e.symm)
    replace hnv5 := hmv5
    clear hmv5
    have hmv7 := hne _ o7.lt hnv7
    replace o7 := o7.grown gg (fun e => hnv7 e.symm)
    replace hnv7 := hmv7
    clear hmv7
    replace hh5 := hh5.keep kp
    replace hs := hs.keep kp
    replace hf21 := hf21.keep kp
    replace hd20 := hd20.keep kp
    replace hh19 := hh19.keep kp
    replace hn20 := hn20.keep kp
    replace bel := bel.trans bb
    clear bb gg kp hne
    refine E.opset (L' := [(4, .slice la26 ln27 lc28), (23, .slice la26 ln27 lc28), (22, .slice (some ⟨gq24, 0, none⟩) 1 1), (21, .agg #[.bool b20, .slice ad20 n20 c20, .slice ae20 m20 d20]), (20, .slice la ln lc), (7, .pointer (some ⟨g7, 0, none⟩)), (19, .agg #[.bool b20, .slice ad20 n20 c20, .slice ae20 m20 d20]), (18, .agg #[.bool (decide (Rat.floor (itq (((rawZ nega1 xa1 3 : Int) : Rat) / ((rawZ negb1 xb1 3 : Int) : Rat)) i) < 0)), .slice ad16 n16 c16]), (17, .agg #[.bool sb, .slice sa sn sc, .slice ta tn tc]), (6, .int .i64 ((i : Nat) : Int)), (5, .pointer (some ⟨g5, 0, none⟩)), (3, .pointer (some ⟨g3, 0, none⟩))]) hF (r_assign (hF.at 0 rfl)) rfl rfl rfl rfl fun a hF => ?_
    refine E.nil ?_
    refine wp_seq ?_
    refine E.seq ?_
    refine E.opv hF (r_load (hF.at 10 rfl) (ld_Rat (vs := [.bool sb, .slice sa sn sc, .slice ta tn tc]) o5 rfl rfl)) rfl rfl rfl rfl fun a hF => ?_
    refine E.opv hF (r_load (hF.at 6 rfl) (ld_Rat (vs := [.bool b20, .slice ad20 n20 c20, .slice ae20 m20 d20]) o7 rfl rfl)) rfl rfl rfl rfl fun a hF => ?_
    refine E.call hF (r_call Try.func28 en28.1 en28.2 (map2 (hF.at 1 rfl) (hF.at 0 rfl))) (rSub_any _ _ (itq (((rawZ nega1 xa1 3 : Int) : Rat) / ((rawZ negb1 xb1 3 : Int) : Rat)) i) (((Rat.floor (itq (((rawZ nega1 xa1 3 : Int) : Rat) / ((rawZ negb1 xb1 3 : Int) : Rat)) i) : Int) : Rat)) (max 3 ((3 + 1) + 1)) _ hs hh19 ((itq_lim (own5_lim nega1 negb1 oka1 okb1 3 (by decide)) i hgo).up _ (by omega)) ((rlim_int (Lim.up (fl_lim (itq_lim (own5_lim nega1 negb1 oka1 okb1 3 (by decide)) i hgo)) ((3 + 1) + 1) (by omega)) (by omega)).up _ (by omega)) (by omega)) rfl rfl rfl rfl ?_
    rintro e w31 ⟨vv32, rfl, hh33, bb⟩
    refine ⟨_, rfl, ?_⟩
    intro a hF
    replace hqa30 := hqa30.below bb
    replace hh5 := hh5.below bb
    replace hs := hs.below bb
    replace o3 := o3.below bb
    replace o5 := o5.below bb
    replace bel := below_to bel bb
    clear bb
    obtain ⟨b34, ad34, n34, c34, ae34, m34, d34, rfl, hn34, hd34⟩ := Rq.shape hh33
    have hf35 := Wc.abs hn34
    obtain ⟨w36, hr, tu, on⟩ := st_Rat (vs := [.bool b34, .slice ad34 n34 c34, .slice ae34 m34 d34]) o5 rfl rfl (ocB (ocS (ocS oc0))) (niB (niS (niS ni0))) (o := 0) rfl
    have kp := tu.keep o5
    refine E.st hF (r_store (hF.at 13 rfl) (hF.at 0 rfl) (hr _ rfl)) rfl rfl fun a hF => ?_
    clear hr
    replace hqa30 := hqa30.turned tu o5 hnv5
    replace hh5 := hh5.keep kp
    replace hs := hs.keep kp
    replace hh33 := hh33.keep kp
    replace hn34 := hn34.keep kp
    replace hf35 := hf35.keep kp
    replace hd34 := hd34.keep kp
    replace o3 := tu.own o3 ne3_5
    replace bel := tu.below bel ge5
    clear tu kp
    replace o5 := on
    clear on
    refine E.nil ?_
    refine wp_seq ?_
    refine wp_seq ?_
    refine E.seq ?_
    refine E.opv hF (r_load (hF.at 13 rfl) (ld_Rat (vs := [.bool b34, .slice ad34 n34 c34, .slice ae34 m34 d34]) o5 rfl rfl)) rfl rfl rfl rfl fun a hF => ?_
    refine E.call hF (r_call Try.func29 en29.1 en29.2 (map1 (hF.at 0 rfl))) (rsgn_any _ ((itq (((rawZ nega1 xa1 3 : Int) : Rat) / ((rawZ negb1 xb1 3 : Int) : Rat)) i) - (((Rat.floor (itq (((rawZ nega1 xa1 3 : Int) : Rat) / ((rawZ negb1 xb1 3 : Int) : Rat)) i) : Int) : Rat))) _ hh33) rfl rfl rfl rfl ?_
    rintro e w37 ⟨rfl, bb⟩
    refine ⟨_, rfl, ?_⟩
    intro a hF
    replace hqa30 := hqa30.below bb
    replace hh5 := hh5.below bb
    replace hf35 := hf35.below bb
    replace hd34 := hd34.below bb
    replace hh33 := hh33.below bb
    replace hn34 := hn34.below bb
    replace o3 := o3.below bb
    replace o5 := o5.below bb
    replace bel := below_to bel bb
    clear bb
    by_cases hc38 : sz (Rat.num ((itq (((rawZ nega1 xa1 3 : Int) : Rat) / ((rawZ negb1 xb1 3 : Int) : Rat)) i) - (((Rat.floor (itq (((rawZ nega1 xa1 3 : Int) : Rat) / ((rawZ negb1 xb1 3 : Int) : Rat)) i) : Int) : Rat)))) = 0
    · refine E.opv hF (r_bin (hF.at 0 rfl) ev_c eg_scalar (bi_int (ic_eql (c := true) (dec_tt hc38)) (by simp))) rfl rfl rfl rfl fun a hF => ?_
      refine E.nil ?_
      refine wp_cond_true (hF.at 0 rfl) ?_
      refine wp_exit ?_
      refine E.past ?_
      refine E.pastb (by decide) ?_
      refine E.past ?_
      refine E.past ?_
      refine E.out (id := 0) ?_
      refine E.norm ?_
      refine wp_seq ?_
      have hq2 := hqa30.cast (flq_succ (((rawZ nega1 xa1 3 : Int) : Rat) / ((rawZ negb1 xb1 3 : Int) : Rat)) i)
      obtain ⟨gr, cs, ead, eln, orow, hel⟩ := hq2.row (by rw [flq_len]; omega)
      rw [flq_len] at eln
      subst ead
      subst eln
      obtain ⟨xb, xa, xn, xc, xd, xm, xe, xcut, xhx⟩ := hel (i) (by rw [flq_len]; omega)
      rw [flq_get (by omega), go_stop (by assumption)] at xhx
      refine E.seq ?_
      refine E.opv hF (r_move (hF.at 6 rfl)) rfl rfl rfl rfl fun a hF => ?_
      refine E.opv hF (r_move (hF.at 7 rfl)) rfl rfl rfl rfl fun a hF => ?_
      refine E.opv hF (r_builtin (map1 (hF.at 0 rfl)) bl_rats) rfl rfl rfl rfl fun a hF => ?_
      refine E.opv hF (r_bin (hF.at 0 rfl) ev_c eg_scalar (ia_sub (by omega) (by omega))) rfl rfl rfl rfl fun a hF => ?_
      refine E.opv hF (r_index (hF.at 3 rfl) (hF.at 0 rfl) (ix_ratz (i := i) (by omega) (by omega))) rfl rfl rfl rfl fun a hF => ?_
      refine E.opv hF (r_load (hF.at 0 rfl) (ld_Rat (vs := [.bool xb, .slice xa xn xc, .slice xd xm xe]) orow xcut rfl)) rfl rfl rfl rfl fun a hF => ?_
      obtain ⟨g8, w39, ge8, hr, bb, o8⟩ := own_alloc (P := Try.prog) (w := w37) (cs := [.bool false, .slice none 0 0, .slice none 0 0]) 61 ze_Rat rfl (niB (niS (niS ni0)))
      have ne3_8 : g3 ≠ g8 := by rw [← ge8]; exact o3.ne_new
      have nerow_8 : gr ≠ g8 := by rw [← ge8]; exact orow.ne_new
      replace ge8 : w.heap.size ≤ g8 := by rw [← ge8]; exact bel.size
      refine E.opv hF (r_alloc hr) rfl rfl rfl rfl fun a hF => ?_
      clear hr
      replace xhx := xhx.below bb
      replace hh5 := hh5.below bb
      replace hel := hel.below bb
      replace o3 := o3.below bb
      replace orow := orow.below bb
      replace bel := below_to bel bb
      clear bb
      obtain ⟨w40, hr, tu, on⟩ := st_Rat (vs := [.bool xb, .slice xa xn xc, .slice xd xm xe]) o8 rfl rfl (ocB (ocS (ocS oc0))) (niB (niS (niS ni0))) (o := 0) rfl
      have kp := tu.keep o8
      refine E.st hF (r_store (hF.at 0 rfl) (hF.at 1 rfl) (hr _ rfl)) rfl rfl fun a hF => ?_
      clear hr
      replace hh5 := hh5.keep kp
      replace hel := hel.keep kp
      replace xhx := xhx.keep kp
      replace o3 := tu.own o3 ne3_8
      replace orow := tu.own orow nerow_8
      replace bel := tu.below bel ge8
      clear tu kp
      replace o8 := on
      clear on
      refine E.nil ?_
      refine wp_seq ?_
      refine wp_seq ?_
      refine E.seq ?_
      refine E.opv hF (r_move (hF.at 13 rfl)) rfl rfl rfl rfl fun a hF => ?_
      refine E.opv hF (r_builtin (map1 (hF.at 0 rfl)) bl_rats) rfl rfl rfl rfl fun a hF => ?_
      refine E.opv hF (r_bin (hF.at 0 rfl) ev_c eg_scalar (ia_sub (by omega) (by omega))) rfl rfl rfl rfl fun a hF => ?_
      refine E.opv hF (r_assign (hF.at 0 rfl)) rfl rfl rfl rfl fun a hF => ?_
      rw [show (((i + 1) : Nat) : Int) - 2 = ((i : Nat) : Int) - 1 from by omega] at hF
      refine E.nil ?_
      refine wp_block ?_
      have nint := nn1 o8.noInt
      refine E.loop (fun mq a wv => ∃ (k : Nat) (sb : Bool) (sa : Option Addr) (sn : Nat) (sc : Nat) (ta : Option Addr) (tn : Nat) (tc : Nat), k ≤ i ∧ Fr 59 a [(9, .int .i64 (((k : Nat) : Int) - 1)), (8, .pointer (some ⟨g8, 0, none⟩)), (4, .slice (some ⟨gr, 0, none⟩) (i + 1) lc28), (3, .pointer (some ⟨g3, 0, none⟩))] ∧ Stay [g8] w40 wv ∧ Below w.heap.size w wv ∧ Own wv g8 [.bool sb, .slice sa sn sc, .slice ta tn tc] ∧ Rq wv (.agg #[.bool sb, .slice sa sn sc, .slice ta tn tc]) (itq (((rawZ nega1 xa1 3 : Int) : Rat) / ((rawZ negb1 xb1 3 : Int) : Rat)) k) ∧ mq = k) (i) ?_ ?_
      · exact ⟨i, _, _, _, _, _, _, _, (Nat.le_refl _), hF.sub (by intro p hp; simp only [List.mem_cons, List.not_mem_nil, or_false] at hp ⊢; rcases hp with rfl | rfl | rfl | rfl <;> simp), Stay.refl _ _, bel, o8, xhx, rfl⟩
      · rintro mq a w41 ⟨k, sb, sa, sn, sc, ta, tn, tc, hk, hF, sty, bel, o8, hs, hm⟩
        have kps := sty.keep nint
        replace hh5 := hh5.keep kps
        replace hel := hel.keep kps
        replace xhx := xhx.keep kps
        replace o3 := sty.own o3 (by simp only [List.mem_cons, List.not_mem_nil, or_false]; first | exact ne3_8 | (intro e; exact ne3_8 e))
        replace orow := sty.own orow (by simp only [List.mem_cons, List.not_mem_nil, or_false]; first | exact nerow_8 | (intro e; exact nerow_8 e))
        clear kps
        by_cases hk1 : 1 ≤ k
        · obtain ⟨yb, ya, yn, yc, yd, ym, ye, ycut, yhx⟩ := hel (k - 1) (by rw [flq_len]; omega)
          rw [flq_get (by omega)] at yhx
          refine wp_seq ?_
          refine wp_seq ?_
          refine E.seq ?_
          refine E.opv hF (r_move (hF.at 0 rfl)) rfl rfl rfl rfl fun a hF => ?_
          refine E.opv hF (r_bin (hF.at 0 rfl) ev_c eg_scalar (bi_int (ic_geq (c := true) (dec_tt (by omega))) (by simp))) rfl rfl rfl rfl fun a hF => ?_
          refine E.nil ?_
          refine wp_cond_true (hF.at 0 rfl) ?_
          refine wp_skip ?_
          refine E.norm ?_
          refine wp_seq ?_
          refine wp_block ?_
          refine E.drawn 8 mixed hF [48, 49, 50, 51, 52, 53, 54, 55] [(fun _ v => v = .slice (some ⟨gr, 0, none⟩) (i + 1) lc28), (fun _ v => v = .int .i64 (((k : Nat) : Int) - 1)), (fun _ v => v = .pointer (some ⟨gr, 3 * (k - 1), none⟩)), (fun _ v => v = .agg #[.bool yb, .slice ya yn yc, .slice yd ym ye]), (fun w v => Rq w v (((1 : Int) : Rat))), (fun _ v => v = .agg #[.bool sb, .slice sa sn sc, .slice ta tn tc]), (fun w v => Rq w v ((((1 : Int) : Rat)) / (itq (((rawZ nega1 xa1 3 : Int) : Rat) / ((rawZ negb1 xb1 3 : Int) : Rat)) k))), (fun w v => Rq w v (((((itq (((rawZ nega1 xa1 3 : Int) : Rat) / ((rawZ negb1 xb1 3 : Int) : Rat)) (k - 1)).floor : Int) : Rat)) + ((((1 : Int) : Rat)) / (itq (((rawZ nega1 xa1 3 : Int) : Rat) / ((rawZ negb1 xb1 3 : Int) : Rat)) k))))] [] (by decide +kernel) (by decide +kernel) rfl rfl rfl ⟨(Mb.eq _), (Mb.eq _), (Mb.eq _), (Mb.eq _), (fun _ _ _ h hb => h.below hb), (Mb.eq _), (fun _ _ _ h hb => h.below hb), (fun _ _ _ h hb => h.below hb), trivial⟩ trivial ⟨?_, ?_, ?_, ?_, ?_, ?_, ?_, ?_, trivial⟩ ?_
          · intro a' w' hF' hb hd
            exact if_does (wanted_free rfl) (Does.vals (r_move (hF'.at 4 rfl)) ⟨rfl, Below.refl _ _, (fun h => absurd h (by decide))⟩)
          · intro a' w' hF' hb hd
            exact if_does (wanted_free rfl) (Does.vals (r_move (hF'.at 2 rfl)) ⟨rfl, Below.refl _ _, (fun h => absurd h (by decide))⟩)
          · intro a' w' hF' hb hd
            have e48 : a'.tmps.getD 48 undef = .slice (some ⟨gr, 0, none⟩) (i + 1) lc28 := hd _ 48 (Array.mem_of_getElem? (i := 0) rfl) rfl rfl
            have e49 : a'.tmps.getD 49 undef = .int .i64 (((k : Nat) : Int) - 1) := hd _ 49 (Array.mem_of_getElem? (i := 1) rfl) rfl rfl
            exact if_does (wanted_free rfl) (Does.vals (r_index e48 e49 (ix_ratz (i := k - 1) (by omega) (by omega))) ⟨rfl, Below.refl _ _, (fun h => absurd h (by decide))⟩)
          · intro a' w' hF' hb hd
            have e50 : a'.tmps.getD 50 undef = .pointer (some ⟨gr, 3 * (k - 1), none⟩) := hd _ 50 (Array.mem_of_getElem? (i := 0) rfl) rfl rfl
            exact if_does (wanted_free rfl) (Does.vals (r_load e50 (ld_Rat (vs := [.bool yb, .slice ya yn yc, .slice yd ym ye]) (orow.below hb) ycut rfl)) ⟨rfl, Below.refl _ _, (fun h => absurd h (by decide))⟩)
          · intro a' w' hF' hb hd
            refine if_does (wanted_free rfl) (Does.calls (r_call Try.func30 en30.1 en30.2 (map1 ev_c)) (rWhole_any (1) _ (by decide) (by decide)) ?_)
            rintro e w'' ⟨v', rfl, h', bb⟩
            exact ⟨_, rfl, h', bb, (fun h => absurd h (by decide))⟩
          · intro a' w' hF' hb hd
            exact if_does (wanted_free rfl) (Does.vals (r_load (hF'.at 3 rfl) (ld_Rat (vs := [.bool sb, .slice sa sn sc, .slice ta tn tc]) (o8.below hb) rfl rfl)) ⟨rfl, Below.refl _ _, (fun h => absurd h (by decide))⟩)
          · intro a' w' hF' hb hd
            obtain ⟨v52_0, e52, h52_1⟩ : ∃ v, a'.tmps.getD 52 undef = v ∧ Rq w' v (((1 : Int) : Rat)) := ⟨_, rfl, hd _ 52 (Array.mem_of_getElem? (i := 0) rfl) rfl rfl⟩
            have e53 : a'.tmps.getD 53 undef = .agg #[.bool sb, .slice sa sn sc, .slice ta tn tc] := hd _ 53 (Array.mem_of_getElem? (i := 1) rfl) rfl rfl
            refine if_does (wanted_free rfl) (Does.calls (r_call Try.func31 en31.1 en31.2 (map2 e52 e53)) (rDiv_any _ _ (((1 : Int) : Rat)) (itq (((rawZ nega1 xa1 3 : Int) : Rat) / ((rawZ negb1 xb1 3 : Int) : Rat)) k) (max 2 3) _ h52_1 (hs.below hb) ((rlim_int (limz_64 (by decide) (by decide)) (by omega)).up _ (by omega)) ((itq_lim (own5_lim nega1 negb1 oka1 okb1 3 (by decide)) k (go_less hgo hk)).up _ (by omega)) (by omega)) ?_)
            rintro e w'' ⟨v', rfl, h', bb⟩
            exact ⟨_, rfl, h', bb, (fun h => absurd h (by decide))⟩
          · intro a' w' hF' hb hd
            have e51 : a'.tmps.getD 51 undef = .agg #[.bool yb, .slice ya yn yc, .slice yd ym ye] := hd _ 51 (Array.mem_of_getElem? (i := 0) rfl) rfl rfl
            obtain ⟨v54_0, e54, h54_1⟩ : ∃ v, a'.tmps.getD 54 undef = v ∧ Rq w' v ((((1 : Int) : Rat)) / (itq (((rawZ nega1 xa1 3 : Int) : Rat) / ((rawZ negb1 xb1 3 : Int) : Rat)) k)) := ⟨_, rfl, hd _ 54 (Array.mem_of_getElem? (i := 1) rfl) rfl rfl⟩
            refine if_does (wanted_free rfl) (Does.calls (r_call Try.func32 en32.1 en32.2 (map2 e51 e54)) (rAdd_any _ _ ((((itq (((rawZ nega1 xa1 3 : Int) : Rat) / ((rawZ negb1 xb1 3 : Int) : Rat)) (k - 1)).floor : Int) : Rat)) ((((1 : Int) : Rat)) / (itq (((rawZ nega1 xa1 3 : Int) : Rat) / ((rawZ negb1 xb1 3 : Int) : Rat)) k)) (max 4 (2 + 3)) _ (yhx.below hb) h54_1 ((rlim_int (fl_lim (itq_lim (own5_lim nega1 negb1 oka1 okb1 3 (by decide)) (k - 1) (go_less hgo (by omega)))) (by omega)).up _ (by omega)) ((rlim_div (rlim_int (limz_64 (by decide) (by decide)) (by omega)) (itq_lim (own5_lim nega1 negb1 oka1 okb1 3 (by decide)) k (go_less hgo hk))).up _ (by omega)) (by omega)) ?_)
            rintro e w'' ⟨v', rfl, h', bb⟩
            exact ⟨_, rfl, h', bb, (fun h => absurd h (by decide))⟩
          intro a w42 hF bb hall hne
          obtain ⟨vv43, e55, hh44⟩ : ∃ v, a.tmps.getD 55 undef = v ∧ Rq w42 v (((((itq (((rawZ nega1 xa1 3 : Int) : Rat) / ((rawZ negb1 xb1 3 : Int) : Rat)) (k - 1)).floor : Int) : Rat)) + ((((1 : Int) : Rat)) / (itq (((rawZ nega1 xa1 3 : Int) : Rat) / ((rawZ negb1 xb1 3 : Int) : Rat)) k))) := ⟨_, rfl, hall 7 55 rfl⟩
          clear hall hne
          replace hh5 := hh5.below bb
          replace hel := hel.below bb
          replace yhx := yhx.below bb
          replace hs := hs.below bb
          replace o3 := o3.below bb
          replace orow := orow.below bb
          replace o8 := o8.below bb
          replace sty := sty.below bb
          replace bel := below_to bel bb
          clear bb
          obtain ⟨b45, ad45, n45, c45, ae45, m45, d45, rfl, hn45, hd45⟩ := Rq.shape hh44
          have hf46 := Wc.abs hn45
          replace hF := hF.add e55
          clear e55
          obtain ⟨w47, hr, tu, on⟩ := st_Rat (vs := [.bool b45, .slice ad45 n45 c45, .slice ae45 m45 d45]) o8 rfl rfl (ocB (ocS (ocS oc0))) (niB (niS (niS ni0))) (o := 0) rfl
          have kp := tu.keep o8
          refine E.st hF (r_store (hF.at 4 rfl) (hF.at 0 rfl) (hr _ rfl)) rfl rfl fun a hF => ?_
          clear hr
          replace hh5 := hh5.keep kp
          replace hel := hel.keep kp
          replace yhx := yhx.keep kp
          replace hs := hs.keep kp
          replace hh44 := hh44.keep kp
          replace hn45 := hn45.keep kp
          replace hf46 := hf46.keep kp
          replace hd45 := hd45.keep kp
          replace o3 := tu.own o3 ne3_8
          replace orow := tu.own orow nerow_8
          replace bel := tu.below bel ge8
          replace sty := sty.turned tu (.inl (by simp))
          clear tu kp
          replace o8 := on
          clear on
          refine E.nil0 ?_
          refine E.blk ?_
          refine E.norm ?_
          refine E.seq ?_
          refine E.opv hF (r_move (hF.at 3 rfl)) rfl rfl rfl rfl fun a hF => ?_
          refine E.opv hF (r_bin (hF.at 0 rfl) ev_c eg_scalar (ia_sub (by omega) (by omega))) rfl rfl rfl rfl fun a hF => ?_
          refine E.opset (L' := [(9, .int .i64 ((((k : Nat) : Int) - 1) - 1)), (47, .int .i64 ((((k : Nat) : Int) - 1) - 1)), (46, .int .i64 (((k : Nat) : Int) - 1)), (55, .agg #[.bool b45, .slice ad45 n45 c45, .slice ae45 m45 d45]), (45, .bool true), (44, .int .i64 (((k : Nat) : Int) - 1)), (8, .pointer (some ⟨g8, 0, none⟩)), (4, .slice (some ⟨gr, 0, none⟩) (i + 1) lc28), (3, .pointer (some ⟨g3, 0, none⟩))]) hF (r_assign (hF.at 0 rfl)) rfl rfl rfl rfl fun a hF => ?_
          refine E.nil0 ?_
          refine E.norm ?_
          exact ⟨k - 1, by omega, ⟨k - 1, _, _, _, _, _, _, _, (by omega), (by rw [show (((k - 1 : Nat)) : Int) - 1 = ((k : Nat) : Int) - 1 - 1 from by omega]; exact Fr.sub (L' := [(9, .int .i64 ((((k : Nat) : Int) - 1) - 1)), (8, .pointer (some ⟨g8, 0, none⟩)), (4, .slice (some ⟨gr, 0, none⟩) (i + 1) lc28), (3, .pointer (some ⟨g3, 0, none⟩))]) hF (by intro p hp; simp only [List.mem_cons, List.not_mem_nil, or_false] at hp ⊢; rcases hp with rfl | rfl | rfl | rfl <;> simp)), sty, bel, o8, (hh44.castM (go_back hgo hk1 hk)), rfl⟩⟩
        · refine wp_seq ?_
          refine wp_seq ?_
          refine E.seq ?_
          refine E.opv hF (r_move (hF.at 0 rfl)) rfl rfl rfl rfl fun a hF => ?_
          refine E.opv hF (r_bin (hF.at 0 rfl) ev_c eg_scalar (bi_int (ic_geq (c := false) (dec_ff (by omega))) (by simp))) rfl rfl rfl rfl fun a hF => ?_
          refine E.nil ?_
          refine wp_cond_false (hF.at 0 rfl) ?_
          refine wp_exit ?_
          refine E.past ?_
          refine E.past ?_
          refine E.out (id := 2) ?_
          refine E.norm ?_
          refine wp_seq ?_
          refine E.seq ?_
          refine E.opv hF (r_load (hF.at 3 rfl) (ld_Rat (vs := [.bool sb, .slice sa sn sc, .slice ta tn tc]) o8 rfl rfl)) rfl rfl rfl rfl fun a hF => ?_
          refine E.opv hF (r_load (hF.at 6 rfl) (ld_Rat (vs := [.bool b6, .slice ad6 n6 c6, .slice ae6 m6 d6]) o3 rfl rfl)) rfl rfl rfl rfl fun a hF => ?_
          refine E.call hF (r_call Try.func33 en33.1 en33.2 (map2 (hF.at 1 rfl) (hF.at 0 rfl))) (rSame_true _ _ (itq (((rawZ nega1 xa1 3 : Int) : Rat) / ((rawZ negb1 xb1 3 : Int) : Rat)) k) (((rawZ nega1 xa1 3 : Int) : Rat) / ((rawZ negb1 xb1 3 : Int) : Rat)) _ hs hh5 (by rw [show k = 0 from by omega]; rfl)) rfl rfl rfl rfl ?_
          rintro e w42 ⟨rfl, bb⟩
          refine ⟨_, rfl, ?_⟩
          intro a hF
          replace bel := below_to bel bb
          clear bb
          refine E.opv hF (r_assign (hF.at 0 rfl)) rfl rfl rfl rfl fun a hF => ?_
          refine E.nil ?_
          refine wp_ret ?_
          refine bodyPost_ret (res_tmp Try.results6 (hF.at 0 rfl)) hF.dfr ?_
          exact ⟨rfl, bel⟩
    · refine E.opv hF (r_bin (hF.at 0 rfl) ev_c eg_scalar (bi_int (ic_eql (c := false) (dec_ff hc38)) (by simp))) rfl rfl rfl rfl fun a hF => ?_
      refine E.nil ?_
      refine wp_cond_false (hF.at 0 rfl) ?_
      refine wp_skip ?_
      refine E.norm ?_
      refine wp_seq ?_
      refine wp_seq ?_
      refine E.seq ?_
      refine E.opv hF (r_move (hF.at 15 rfl)) rfl rfl rfl rfl fun a hF => ?_
      refine E.opv hF (r_bin (hF.at 0 rfl) ev_c eg_scalar (bi_int (ic_gtr (c := false) (dec_ff (by omega))) (by simp))) rfl rfl rfl rfl fun a hF => ?_
      refine E.nil ?_
      refine wp_cond_false (hF.at 0 rfl) ?_
      refine wp_skip ?_
      refine E.norm ?_
      refine E.drawn 3 mixed hF [32, 33, 34] [(fun w v => Rq w v (((1 : Int) : Rat))), (fun _ v => v = .agg #[.bool b34, .slice ad34 n34 c34, .slice ae34 m34 d34]), (fun w v => Rq w v ((((1 : Int) : Rat)) / ((itq (((rawZ nega1 xa1 3 : Int) : Rat) / ((rawZ negb1 xb1 3 : Int) : Rat)) i) - (((Rat.floor (itq (((rawZ nega1 xa1 3 : Int) : Rat) / ((rawZ negb1 xb1 3 : Int) : Rat)) i) : Int) : Rat)))))] [] (by decide +kernel) (by decide +kernel) rfl rfl rfl ⟨(fun _ _ _ h hb => h.below hb), (Mb.eq _), (fun _ _ _ h hb => h.below hb), trivial⟩ trivial ⟨?_, ?_, ?_, trivial⟩ ?_
      · intro a' w' hF' hb hd
        refine if_does (wanted_free rfl) (Does.calls (r_call Try.func30 en30.1 en30.2 (map1 ev_c)) (rWhole_any (1) _ (by decide) (by decide)) ?_)
        rintro e w'' ⟨v', rfl, h', bb⟩
        exact ⟨_, rfl, h', bb, (fun h => absurd h (by decide))⟩
      · intro a' w' hF' hb hd
        exact if_does (wanted_free rfl) (Does.vals (r_load (hF'.at 18 rfl) (ld_Rat (vs := [.bool b34, .slice ad34 n34 c34, .slice ae34 m34 d34]) (o5.below hb) rfl rfl)) ⟨rfl, Below.refl _ _, (fun h => absurd h (by decide))⟩)
      · intro a' w' hF' hb hd
        obtain ⟨v32_0, e32, h32_1⟩ : ∃ v, a'.tmps.getD 32 undef = v ∧ Rq w' v (((1 : Int) : Rat)) := ⟨_, rfl, hd _ 32 (Array.mem_of_getElem? (i := 0) rfl) rfl rfl⟩
        have e33 : a'.tmps.getD 33 undef = .agg #[.bool b34, .slice ad34 n34 c34, .slice ae34 m34 d34] := hd _ 33 (Array.mem_of_getElem? (i := 1) rfl) rfl rfl
        refine if_does (wanted_free rfl) (Does.calls (r_call Try.func31 en31.1 en31.2 (map2 e32 e33)) (rDiv_any _ _ (((1 : Int) : Rat)) ((itq (((rawZ nega1 xa1 3 : Int) : Rat) / ((rawZ negb1 xb1 3 : Int) : Rat)) i) - (((Rat.floor (itq (((rawZ nega1 xa1 3 : Int) : Rat) / ((rawZ negb1 xb1 3 : Int) : Rat)) i) : Int) : Rat))) (max 2 (3 + ((3 + 1) + 1) + 1)) _ h32_1 (hh33.below hb) ((rlim_int (limz_64 (by decide) (by decide)) (by omega)).up _ (by omega)) ((rlim_sub (itq_lim (own5_lim nega1 negb1 oka1 okb1 3 (by decide)) i hgo) (rlim_int (Lim.up (fl_lim (itq_lim (own5_lim nega1 negb1 oka1 okb1 3 (by decide)) i hgo)) ((3 + 1) + 1) (by omega)) (by omega))).up _ (by omega)) (by omega)) ?_)
        rintro e w'' ⟨v', rfl, h', bb⟩
        exact ⟨_, rfl, h', bb, (fun h => absurd h (by decide))⟩
      intro a w42 hF bb hall hne
      obtain ⟨vv43, e34, hh44⟩ : ∃ v, a.tmps.getD 34 undef = v ∧ Rq w42 v ((((1 : Int) : Rat)) / ((itq (((rawZ nega1 xa1 3 : Int) : Rat) / ((rawZ negb1 xb1 3 : Int) : Rat)) i) - (((Rat.floor (itq (((rawZ nega1 xa1 3 : Int) : Rat) / ((rawZ negb1 xb1 3 : Int) : Rat)) i) : Int) : Rat)))) := ⟨_, rfl, hall 2 34 rfl⟩
      clear hall hne
      replace hqa30 := hqa30.below bb
      replace hh5 := hh5.below bb
      replace hf35 := hf35.below bb
      replace hd34 := hd34.below bb
      replace hh33 := hh33.below bb
      replace hn34 := hn34.below bb
      replace o3 := o3.below bb
      replace o5 := o5.below bb
      replace bel := below_to bel bb
      clear bb
      obtain ⟨b45, ad45, n45, c45, ae45, m45, d45, rfl, hn45, hd45⟩ := Rq.shape hh44
      have hf46 := Wc.abs hn45
      replace hF := hF.add e34
      clear e34
      obtain ⟨w47, hr, tu, on⟩ := st_Rat (vs := [.bool b45, .slice ad45 n45 c45, .slice ae45 m45 d45]) o5 rfl rfl (ocB (ocS (ocS oc0))) (niB (niS (niS ni0))) (o := 0) rfl
      have kp := tu.keep o5
      refine E.st hF (r_store (hF.at 19 rfl) (hF.at 0 rfl) (hr _ rfl)) rfl rfl fun a hF => ?_
      clear hr
      replace hqa30 := hqa30.turned tu o5 hnv5
      replace hh5 := hh5.keep kp
      replace hf35 := hf35.keep kp
      replace hd34 := hd34.keep kp
      replace hh33 := hh33.keep kp
      replace hn34 := hn34.keep kp
      replace hh44 := hh44.keep kp
      replace hn45 := hn45.keep kp
      replace hf46 := hf46.keep kp
      replace hd45 := hd45.keep kp
      replace o3 := tu.own o3 ne3_5
      replace bel := tu.below bel ge5
      clear tu kp
      replace o5 := on
      clear on
      refine E.nil0 ?_
      refine E.blk ?_
      refine E.norm ?_
      refine E.seq ?_
      refine E.opv hF (r_move (hF.at 18 rfl)) rfl rfl rfl rfl fun a hF => ?_
      refine E.opv hF (r_bin (hF.at 0 rfl) ev_c eg_scalar (ia_add (by omega) (by omega))) rfl rfl rfl rfl fun a hF => ?_
      refine E.opset (L' := [(6, .int .i64 (((i : Nat) : Int) + 1)), (16, .int .i64 (((i : Nat) : Int) + 1)), (15, .int .i64 ((i : Nat) : Int)), (34, .agg #[.bool b45, .slice ad45 n45 c45, .slice ae45 m45 d45]), (31, .bool false), (30, .int .i64 ((i : Nat) : Int)), (29, .bool false), (28, .int .i64 (sz (Rat.num ((itq (((rawZ nega1 xa1 3 : Int) : Rat) / ((rawZ negb1 xb1 3 : Int) : Rat)) i) - (((Rat.floor (itq (((rawZ nega1 xa1 3 : Int) : Rat) / ((rawZ negb1 xb1 3 : Int) : Rat)) i) : Int) : Rat)))))), (27, .agg #[.bool b34, .slice ad34 n34 c34, .slice ae34 m34 d34]), (26, .agg #[.bool b34, .slice ad34 n34 c34, .slice ae34 m34 d34]), (25, .agg #[.bool b20, .slice ad20 n20 c20, .slice ae20 m20 d20]), (24, .agg #[.bool sb, .slice sa sn sc, .slice ta tn tc]), (4, .slice la26 ln27 lc28), (23, .slice la26 ln27 lc28), (22, .slice (some ⟨gq24, 0, none⟩) 1 1), (21, .agg #[.bool b20, .slice ad20 n20 c20, .slice ae20 m20 d20]), (20, .slice la ln lc), (7, .pointer (some ⟨g7, 0, none⟩)), (19, .agg #[.bool b20, .slice ad20 n20 c20, .slice ae20 m20 d20]), (18, .agg #[.bool (decide (Rat.floor (itq (((rawZ nega1 xa1 3 : Int) : Rat) / ((rawZ negb1 xb1 3 : Int) : Rat)) i) < 0)), .slice ad16 n16 c16]), (17, .agg #[.bool sb, .slice sa sn sc, .slice ta tn tc]), (5, .pointer (some ⟨g5, 0, none⟩)), (3, .pointer (some ⟨g3, 0, none⟩))]) hF (r_assign (hF.at 0 rfl)) rfl rfl rfl rfl fun a hF => ?_
      refine E.nil0 ?_
      refine E.norm ?_
      exact ⟨193 - (i + 1), by omega, ⟨i + 1, la26, ln27, lc28, _, _, _, _, _, _, _, (go_more hgo (by assumption)), (by have := go_end (own5_lim nega1 negb1 oka1 okb1 3 (by decide)) hgo (by assumption); omega), hnv3, hnv5, (by rw [show (((i + 1 : Nat)) : Int) = ((i : Nat) : Int) + 1 from by omega]; exact Fr.sub (L' := [(6, .int .i64 (((i : Nat) : Int) + 1)), (5, .pointer (some ⟨g5, 0, none⟩)), (4, .slice la26 ln27 lc28), (3, .pointer (some ⟨g3, 0, none⟩))]) hF (by intro p hp; simp only [List.mem_cons, List.not_mem_nil, or_false] at hp ⊢; rcases hp with rfl | rfl | rfl | rfl <;> simp)), bel, (hqa30.cast (flq_succ _ _)), o3, hh5, o5, (hh44.castM rfl), rfl⟩⟩

end Go.Proofs.Ythoiocjbjfhgpaa
