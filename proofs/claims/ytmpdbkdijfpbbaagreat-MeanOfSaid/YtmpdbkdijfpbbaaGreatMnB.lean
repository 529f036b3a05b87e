/- The laws of layer 11: awake, Period. -/
import Derived.Test.YtmpdbkdijfpbbaaGreatMnA
import Derived.Test.YtmpdbkdijfpbbaaGreatSh
namespace Go.Proofs.YtmpdbkdijfpbbaaGreat
open Go.RowKit
set_option maxRecDepth 100000
set_option linter.unusedVariables false

theorem sz0_of {q : Rat} (h : q = 0) : sz q.num = 0 := by subst h; rfl
theorem sz_ge0 {q : Rat} (h : 0 ≤ q) : 0 ≤ sz q.num := by
  rw [sz_def]
  split
  · grind
  · split <;> omega
theorem qc_lt0 {p q : Rat} (h : p < q) : qc p q < 0 := by rw [qc_def, if_pos h]; decide
set_option maxHeartbeats 4000000 in
theorem awake11_any (w : World) :
    Calls Tryz.prog 4 #[] w (ValPost w (.bool true)) := by
  have bel : Below w.heap.size w w := Below.refl _ _
  refine E.enter (nt := 20) (L := []) Tryz.func4 rfl rfl rfl args_nil ?_
  intro a hF
  refine wp_seq ?_
  refine E.seq ?_
  refine E.opv hF (r_assign ev_c) rfl rfl rfl rfl fun a hF => ?_
  refine E.nil ?_
  refine wp_seq ?_
  refine E.seq ?_
  refine E.call hF (r_call Tryz.func16 en16.1 en16.2 map0) (mYear_any _) rfl rfl rfl rfl ?_
  rintro e w1 ⟨vv2, rfl, hh3, bb⟩
  refine ⟨_, rfl, ?_⟩
  intro a hF
  replace bel := below_to bel bb
  clear bb
  obtain ⟨b4, ad4, n4, c4, ae4, m4, d4, rfl, hn4, hd4⟩ := Rq.shape hh3
  have hf5 := Wc.abs hn4
  refine E.call hF (r_call Tryz.func19 en19.1 en19.2 (map2 ev_c ev_c)) (rOf2_any (394479457) (1080000) _ (by decide) (by decide) (by decide) (by decide)) rfl rfl rfl rfl ?_
  rintro e w6 ⟨vv7, rfl, hh8, bb⟩
  refine ⟨_, rfl, ?_⟩
  intro a hF
  replace hh3 := hh3.below bb
  replace hn4 := hn4.below bb
  replace hf5 := hf5.below bb
  replace hd4 := hd4.below bb
  replace bel := below_to bel bb
  clear bb
  obtain ⟨b9, ad9, n9, c9, ae9, m9, d9, rfl, hn9, hd9⟩ := Rq.shape hh8
  have hf10 := Wc.abs hn9
  refine E.call hF (r_call Tryz.func15 en15.1 en15.2 (map2 (hF.at 1 rfl) (hF.at 0 rfl))) (rSame_true _ _ (pyr) _ _ hh3 hh8 year_own) rfl rfl rfl rfl ?_
  rintro e w11 ⟨rfl, bb⟩
  refine ⟨_, rfl, ?_⟩
  intro a hF
  replace bel := below_to bel bb
  clear bb
  refine E.opv hF (r_move (hF.at 0 rfl)) rfl rfl rfl rfl fun a hF => ?_
  refine E.callg hF (r_call Tryz.func10 en10.1 en10.2 map0) (mCreation_any _) (wanted_by rfl rfl (hF.at 0 rfl) rfl) rfl rfl rfl ?_
  rintro e w12 ⟨vv13, rfl, hh14, bb⟩
  refine ⟨_, rfl, ?_⟩
  intro a hF
  replace bel := below_to bel bb
  clear bb
  obtain ⟨b15, ad15, n15, c15, ae15, m15, d15, rfl, hn15, hd15⟩ := Rq.shape hh14
  have hf16 := Wc.abs hn15
  refine E.callg hF (r_call Tryz.func14 en14.1 en14.2 (map1 (hF.at 0 rfl))) (mSun_any _ (cre) 2 _ hh14 cre_lim (by omega)) (wanted_by rfl rfl (hF.at 1 rfl) rfl) rfl rfl rfl ?_
  rintro e w17 ⟨vv18, rfl, hh19, bb⟩
  refine ⟨_, rfl, ?_⟩
  intro a hF
  replace bel := below_to bel bb
  clear bb
  obtain ⟨b20, ad20, n20, c20, ae20, m20, d20, rfl, hn20, hd20⟩ := Rq.shape hh19
  have hf21 := Wc.abs hn20
  refine E.callg hF (r_call Tryz.func20 en20.1 en20.2 (map1 (hF.at 0 rfl))) (rsgn_any _ _ _ hh19) (wanted_by rfl rfl (hF.at 2 rfl) rfl) rfl rfl rfl ?_
  rintro e w22 ⟨rfl, bb⟩
  refine ⟨_, rfl, ?_⟩
  intro a hF
  replace bel := below_to bel bb
  clear bb
  refine E.opvg hF (r_bin (hF.at 0 rfl) ev_c eg_scalar (bi_int (ic_eql (c := true) (dec_tt (by decide +kernel))) (by simp))) (wanted_by rfl rfl (hF.at 3 rfl) rfl) rfl rfl rfl fun a hF => ?_
  refine E.opv hF (r_pick_t (hF.at 4 rfl) (hF.at 0 rfl)) rfl rfl rfl rfl fun a hF => ?_
  refine E.opv hF (r_move (hF.at 0 rfl)) rfl rfl rfl rfl fun a hF => ?_
  refine E.callg hF (r_call Tryz.func10 en10.1 en10.2 map0) (mCreation_any _) (wanted_by rfl rfl (hF.at 0 rfl) rfl) rfl rfl rfl ?_
  rintro e w23 ⟨vv24, rfl, hh25, bb⟩
  refine ⟨_, rfl, ?_⟩
  intro a hF
  replace bel := below_to bel bb
  clear bb
  obtain ⟨b26, ad26, n26, c26, ae26, m26, d26, rfl, hn26, hd26⟩ := Rq.shape hh25
  have hf27 := Wc.abs hn26
  refine E.callg hF (r_call Tryz.func16 en16.1 en16.2 map0) (mYear_any _) (wanted_by rfl rfl (hF.at 1 rfl) rfl) rfl rfl rfl ?_
  rintro e w28 ⟨vv29, rfl, hh30, bb⟩
  refine ⟨_, rfl, ?_⟩
  intro a hF
  replace hh25 := hh25.below bb
  replace hn26 := hn26.below bb
  replace hf27 := hf27.below bb
  replace hd26 := hd26.below bb
  replace bel := below_to bel bb
  clear bb
  obtain ⟨b31, ad31, n31, c31, ae31, m31, d31, rfl, hn31, hd31⟩ := Rq.shape hh30
  have hf32 := Wc.abs hn31
  refine E.callg hF (r_call Tryz.func19 en19.1 en19.2 (map2 ev_c ev_c)) (rOf2_any (1) (4) _ (by decide) (by decide) (by decide) (by decide)) (wanted_by rfl rfl (hF.at 2 rfl) rfl) rfl rfl rfl ?_
  rintro e w33 ⟨vv34, rfl, hh35, bb⟩
  refine ⟨_, rfl, ?_⟩
  intro a hF
  replace hh30 := hh30.below bb
  replace hn31 := hn31.below bb
  replace hf32 := hf32.below bb
  replace hd31 := hd31.below bb
  replace hh25 := hh25.below bb
  replace hn26 := hn26.below bb
  replace hf27 := hf27.below bb
  replace hd26 := hd26.below bb
  replace bel := below_to bel bb
  clear bb
  obtain ⟨b36, ad36, n36, c36, ae36, m36, d36, rfl, hn36, hd36⟩ := Rq.shape hh35
  have hf37 := Wc.abs hn36
  refine E.callg hF (r_call Tryz.func22 en22.1 en22.2 (map2 (hF.at 1 rfl) (hF.at 0 rfl))) (rMul_any _ _ (pyr) _ 2 _ hh30 hh35 (pyr_lim.up _ (by omega)) ((RLim.up (rlim_mk2 (limz_64 (by decide) (by decide)) (limz_64 (by decide) (by decide))) 2 (by decide)).up _ (by omega)) (by omega)) (wanted_by rfl rfl (hF.at 3 rfl) rfl) rfl rfl rfl ?_
  rintro e w38 ⟨vv39, rfl, hh40, bb⟩
  refine ⟨_, rfl, ?_⟩
  intro a hF
  replace hh25 := hh25.below bb
  replace hn26 := hn26.below bb
  replace hf27 := hf27.below bb
  replace hd26 := hd26.below bb
  replace bel := below_to bel bb
  clear bb
  obtain ⟨b41, ad41, n41, c41, ae41, m41, d41, rfl, hn41, hd41⟩ := Rq.shape hh40
  have hf42 := Wc.abs hn41
  refine E.callg hF (r_call Tryz.func21 en21.1 en21.2 (map2 (hF.at 3 rfl) (hF.at 0 rfl))) (rAdd_any _ _ (cre) _ (max 2 (2 + 2)) _ hh25 hh40 (cre_lim.up _ (by omega)) ((rlim_mul pyr_lim (RLim.up (rlim_mk2 (limz_64 (by decide) (by decide)) (limz_64 (by decide) (by decide))) 2 (by decide))).up _ (by omega)) (by omega)) (wanted_by rfl rfl (hF.at 4 rfl) rfl) rfl rfl rfl ?_
  rintro e w43 ⟨vv44, rfl, hh45, bb⟩
  refine ⟨_, rfl, ?_⟩
  intro a hF
  replace bel := below_to bel bb
  clear bb
  obtain ⟨b46, ad46, n46, c46, ae46, m46, d46, rfl, hn46, hd46⟩ := Rq.shape hh45
  have hf47 := Wc.abs hn46
  refine E.callg hF (r_call Tryz.func14 en14.1 en14.2 (map1 (hF.at 0 rfl))) (mSun_any _ _ (2 + (2 + 2) + 1) _ hh45 (rlim_add cre_lim (rlim_mul pyr_lim (RLim.up (rlim_mk2 (limz_64 (by decide) (by decide)) (limz_64 (by decide) (by decide))) 2 (by decide)))) (by omega)) (wanted_by rfl rfl (hF.at 5 rfl) rfl) rfl rfl rfl ?_
  rintro e w48 ⟨vv49, rfl, hh50, bb⟩
  refine ⟨_, rfl, ?_⟩
  intro a hF
  replace bel := below_to bel bb
  clear bb
  obtain ⟨b51, ad51, n51, c51, ae51, m51, d51, rfl, hn51, hd51⟩ := Rq.shape hh50
  have hf52 := Wc.abs hn51
  refine E.callg hF (r_call Tryz.func23 en23.1 en23.2 (map1 ev_c)) (rWhole_any (90) _ (by decide) (by decide)) (wanted_by rfl rfl (hF.at 6 rfl) rfl) rfl rfl rfl ?_
  rintro e w53 ⟨vv54, rfl, hh55, bb⟩
  refine ⟨_, rfl, ?_⟩
  intro a hF
  replace hh50 := hh50.below bb
  replace hn51 := hn51.below bb
  replace hf52 := hf52.below bb
  replace hd51 := hd51.below bb
  replace bel := below_to bel bb
  clear bb
  obtain ⟨b56, ad56, n56, c56, ae56, m56, d56, rfl, hn56, hd56⟩ := Rq.shape hh55
  have hf57 := Wc.abs hn56
  refine E.callg hF (r_call Tryz.func15 en15.1 en15.2 (map2 (hF.at 1 rfl) (hF.at 0 rfl))) (rSame_true _ _ _ _ _ hh50 hh55 (by decide +kernel)) (wanted_by rfl rfl (hF.at 7 rfl) rfl) rfl rfl rfl ?_
  rintro e w58 ⟨rfl, bb⟩
  refine ⟨_, rfl, ?_⟩
  intro a hF
  replace bel := below_to bel bb
  clear bb
  refine E.opv hF (r_pick_t (hF.at 8 rfl) (hF.at 0 rfl)) rfl rfl rfl rfl fun a hF => ?_
  refine E.opset (L' := [(0, .bool true), (19, .bool true), (18, .bool true), (17, .agg #[.bool b56, .slice ad56 n56 c56, .slice ae56 m56 d56]), (16, .agg #[.bool b51, .slice ad51 n51 c51, .slice ae51 m51 d51]), (15, .agg #[.bool b46, .slice ad46 n46 c46, .slice ae46 m46 d46]), (14, .agg #[.bool b41, .slice ad41 n41 c41, .slice ae41 m41 d41]), (13, .agg #[.bool b36, .slice ad36 n36 c36, .slice ae36 m36 d36]), (12, .agg #[.bool b31, .slice ad31 n31 c31, .slice ae31 m31 d31]), (11, .agg #[.bool b26, .slice ad26 n26 c26, .slice ae26 m26 d26]), (10, .bool true), (9, .bool true), (8, .bool true), (7, .int .i64 (sz (Rat.num (mof (cre) pyr)))), (6, .agg #[.bool b20, .slice ad20 n20 c20, .slice ae20 m20 d20]), (5, .agg #[.bool b15, .slice ad15 n15 c15, .slice ae15 m15 d15]), (4, .bool true), (3, .bool true), (2, .agg #[.bool b9, .slice ad9 n9 c9, .slice ae9 m9 d9]), (1, .agg #[.bool b4, .slice ad4 n4 c4, .slice ae4 m4 d4])]) hF (r_assign (hF.at 0 rfl)) rfl rfl rfl rfl fun a hF => ?_
  refine E.nil ?_
  refine wp_ret ?_
  refine bodyPost_ret (res_tmp Tryz.results4 (hF.at 0 rfl)) hF.dfr ?_
  exact ⟨rfl, bel⟩

set_option maxHeartbeats 1000000 in
theorem per11_any (n : Int) (w : World) :
    Calls Tryz.prog 7 #[.int .i64 n] w (RqPost w (per n)) := by
  have bel : Below w.heap.size w w := Below.refl _ _
  refine E.enter (nt := 17) (L := [(0, .int .i64 n)]) Tryz.func7 rfl rfl rfl (args_cons (i := 0) rfl args_nil) ?_
  intro a hF
  refine wp_seq ?_
  refine E.seq ?_
  obtain ⟨g2, w1, ge2, hr, bb, o2⟩ := own_alloc (P := Tryz.prog) (w := w) (cs := [.bool false, .slice none 0 0, .slice none 0 0]) 32 ze_Rat rfl (niB (niS (niS ni0)))
  replace ge2 : w.heap.size ≤ g2 := by rw [← ge2]; exact bel.size
  refine E.opv hF (r_alloc hr) rfl rfl rfl rfl fun a hF => ?_
  clear hr
  replace bel := below_to bel bb
  clear bb
  refine E.nil ?_
  refine wp_seq ?_
  refine wp_seq ?_
  refine E.seq ?_
  refine E.opv hF (r_move (hF.at 1 rfl)) rfl rfl rfl rfl fun a hF => ?_
  refine E.nil ?_
  refine wp_block ?_
  refine wp_seq ?_
  refine E.seq ?_
  by_cases hc2 : n = 1
  · refine E.opv hF (r_bin (hF.at 0 rfl) ev_c eg_scalar (bi_int (ic_eql (c := true) (dec_tt hc2)) (by simp))) rfl rfl rfl rfl fun a hF => ?_
    refine E.opv hF (r_assign (hF.at 0 rfl)) rfl rfl rfl rfl fun a hF => ?_
    refine E.nil ?_
    refine wp_cond_true (hF.at 0 rfl) ?_
    refine wp_seq ?_
    refine E.seq ?_
    refine E.call hF (r_call Tryz.func16 en16.1 en16.2 map0) (mYear_any _) rfl rfl rfl rfl ?_
    rintro e w3 ⟨vv4, rfl, hh5, bb⟩
    refine ⟨_, rfl, ?_⟩
    intro a hF
    replace o2 := o2.below bb
    replace bel := below_to bel bb
    clear bb
    obtain ⟨b6, ad6, n6, c6, ae6, m6, d6, rfl, hn6, hd6⟩ := Rq.shape hh5
    have hf7 := Wc.abs hn6
    obtain ⟨w8, hr, tu, on⟩ := st_Rat (vs := [.bool b6, .slice ad6 n6 c6, .slice ae6 m6 d6]) o2 rfl rfl (ocB (ocS (ocS oc0))) (niB (niS (niS ni0))) (o := 0) rfl
    have kp := tu.keep o2
    refine E.st hF (r_store (hF.at 4 rfl) (hF.at 0 rfl) (hr _ rfl)) rfl rfl fun a hF => ?_
    clear hr
    replace hh5 := hh5.keep kp
    replace hn6 := hn6.keep kp
    replace hf7 := hf7.keep kp
    replace hd6 := hd6.keep kp
    replace bel := tu.below bel ge2
    clear tu kp
    replace o2 := on
    clear on
    refine E.nil ?_
    refine wp_ret ?_
    refine bodyPost_ret (res_cell Tryz.results7 (hF.at 4 rfl) (ld_Rat (vs := [.bool b6, .slice ad6 n6 c6, .slice ae6 m6 d6]) o2 rfl rfl)) hF.dfr ?_
    exact ⟨_, rfl, Rq.castM hh5 (by unfold per; rw [if_pos hc2]), bel⟩
  · refine E.opv hF (r_bin (hF.at 0 rfl) ev_c eg_scalar (bi_int (ic_eql (c := false) (dec_ff hc2)) (by simp))) rfl rfl rfl rfl fun a hF => ?_
    refine E.opv hF (r_assign (hF.at 0 rfl)) rfl rfl rfl rfl fun a hF => ?_
    refine E.nil ?_
    refine wp_cond_false (hF.at 0 rfl) ?_
    refine wp_seq ?_
    refine E.seq ?_
    by_cases hc9 : n = 2
    · refine E.opv hF (r_bin (hF.at 2 rfl) ev_c eg_scalar (bi_int (ic_eql (c := true) (dec_tt hc9)) (by simp))) rfl rfl rfl rfl fun a hF => ?_
      refine E.opv hF (r_assign (hF.at 0 rfl)) rfl rfl rfl rfl fun a hF => ?_
      refine E.nil ?_
      refine wp_cond_true (hF.at 0 rfl) ?_
      refine wp_seq ?_
      refine E.seq ?_
      refine E.call hF (r_call Tryz.func18 en18.1 en18.2 map0) (mMonth_any _) rfl rfl rfl rfl ?_
      rintro e w10 ⟨vv11, rfl, hh12, bb⟩
      refine ⟨_, rfl, ?_⟩
      intro a hF
      replace o2 := o2.below bb
      replace bel := below_to bel bb
      clear bb
      obtain ⟨b13, ad13, n13, c13, ae13, m13, d13, rfl, hn13, hd13⟩ := Rq.shape hh12
      have hf14 := Wc.abs hn13
      obtain ⟨w15, hr, tu, on⟩ := st_Rat (vs := [.bool b13, .slice ad13 n13 c13, .slice ae13 m13 d13]) o2 rfl rfl (ocB (ocS (ocS oc0))) (niB (niS (niS ni0))) (o := 0) rfl
      have kp := tu.keep o2
      refine E.st hF (r_store (hF.at 6 rfl) (hF.at 0 rfl) (hr _ rfl)) rfl rfl fun a hF => ?_
      clear hr
      replace hh12 := hh12.keep kp
      replace hn13 := hn13.keep kp
      replace hf14 := hf14.keep kp
      replace hd13 := hd13.keep kp
      replace bel := tu.below bel ge2
      clear tu kp
      replace o2 := on
      clear on
      refine E.nil ?_
      refine wp_ret ?_
      refine bodyPost_ret (res_cell Tryz.results7 (hF.at 6 rfl) (ld_Rat (vs := [.bool b13, .slice ad13 n13 c13, .slice ae13 m13 d13]) o2 rfl rfl)) hF.dfr ?_
      exact ⟨_, rfl, Rq.castM hh12 (by unfold per; rw [if_neg hc2, if_pos hc9]), bel⟩
    · refine E.opv hF (r_bin (hF.at 2 rfl) ev_c eg_scalar (bi_int (ic_eql (c := false) (dec_ff hc9)) (by simp))) rfl rfl rfl rfl fun a hF => ?_
      refine E.opv hF (r_assign (hF.at 0 rfl)) rfl rfl rfl rfl fun a hF => ?_
      refine E.nil ?_
      refine wp_cond_false (hF.at 0 rfl) ?_
      refine wp_seq ?_
      refine E.seq ?_
      by_cases hc16 : n = 3
      · refine E.opv hF (r_bin (hF.at 4 rfl) ev_c eg_scalar (bi_int (ic_eql (c := true) (dec_tt hc16)) (by simp))) rfl rfl rfl rfl fun a hF => ?_
        refine E.opv hF (r_assign (hF.at 0 rfl)) rfl rfl rfl rfl fun a hF => ?_
        refine E.nil ?_
        refine wp_cond_true (hF.at 0 rfl) ?_
        refine wp_seq ?_
        refine E.seq ?_
        refine E.call hF (r_call Tryz.func28 en28.1 en28.2 map0) (mSynodic_any _) rfl rfl rfl rfl ?_
        rintro e w17 ⟨vv18, rfl, hh19, bb⟩
        refine ⟨_, rfl, ?_⟩
        intro a hF
        replace o2 := o2.below bb
        replace bel := below_to bel bb
        clear bb
        obtain ⟨b20, ad20, n20, c20, ae20, m20, d20, rfl, hn20, hd20⟩ := Rq.shape hh19
        have hf21 := Wc.abs hn20
        obtain ⟨w22, hr, tu, on⟩ := st_Rat (vs := [.bool b20, .slice ad20 n20 c20, .slice ae20 m20 d20]) o2 rfl rfl (ocB (ocS (ocS oc0))) (niB (niS (niS ni0))) (o := 0) rfl
        have kp := tu.keep o2
        refine E.st hF (r_store (hF.at 8 rfl) (hF.at 0 rfl) (hr _ rfl)) rfl rfl fun a hF => ?_
        clear hr
        replace hh19 := hh19.keep kp
        replace hn20 := hn20.keep kp
        replace hf21 := hf21.keep kp
        replace hd20 := hd20.keep kp
        replace bel := tu.below bel ge2
        clear tu kp
        replace o2 := on
        clear on
        refine E.nil ?_
        refine wp_ret ?_
        refine bodyPost_ret (res_cell Tryz.results7 (hF.at 8 rfl) (ld_Rat (vs := [.bool b20, .slice ad20 n20 c20, .slice ae20 m20 d20]) o2 rfl rfl)) hF.dfr ?_
        exact ⟨_, rfl, Rq.castM hh19 (by unfold per; rw [if_neg hc2, if_neg hc9, if_pos hc16]), bel⟩
      · refine E.opv hF (r_bin (hF.at 4 rfl) ev_c eg_scalar (bi_int (ic_eql (c := false) (dec_ff hc16)) (by simp))) rfl rfl rfl rfl fun a hF => ?_
        refine E.opv hF (r_assign (hF.at 0 rfl)) rfl rfl rfl rfl fun a hF => ?_
        refine E.nil ?_
        refine wp_cond_false (hF.at 0 rfl) ?_
        refine wp_seq ?_
        refine E.seq ?_
        by_cases hc23 : n = 4
        · refine E.opv hF (r_bin (hF.at 6 rfl) ev_c eg_scalar (bi_int (ic_eql (c := true) (dec_tt hc23)) (by simp))) rfl rfl rfl rfl fun a hF => ?_
          refine E.opv hF (r_assign (hF.at 0 rfl)) rfl rfl rfl rfl fun a hF => ?_
          refine E.nil ?_
          refine wp_cond_true (hF.at 0 rfl) ?_
          refine wp_seq ?_
          refine E.seq ?_
          refine E.call hF (r_call Tryz.func29 en29.1 en29.2 map0) (mAnomalyYear_any _) rfl rfl rfl rfl ?_
          rintro e w24 ⟨vv25, rfl, hh26, bb⟩
          refine ⟨_, rfl, ?_⟩
          intro a hF
          replace o2 := o2.below bb
          replace bel := below_to bel bb
          clear bb
          obtain ⟨b27, ad27, n27, c27, ae27, m27, d27, rfl, hn27, hd27⟩ := Rq.shape hh26
          have hf28 := Wc.abs hn27
          obtain ⟨w29, hr, tu, on⟩ := st_Rat (vs := [.bool b27, .slice ad27 n27 c27, .slice ae27 m27 d27]) o2 rfl rfl (ocB (ocS (ocS oc0))) (niB (niS (niS ni0))) (o := 0) rfl
          have kp := tu.keep o2
          refine E.st hF (r_store (hF.at 10 rfl) (hF.at 0 rfl) (hr _ rfl)) rfl rfl fun a hF => ?_
          clear hr
          replace hh26 := hh26.keep kp
          replace hn27 := hn27.keep kp
          replace hf28 := hf28.keep kp
          replace hd27 := hd27.keep kp
          replace bel := tu.below bel ge2
          clear tu kp
          replace o2 := on
          clear on
          refine E.nil ?_
          refine wp_ret ?_
          refine bodyPost_ret (res_cell Tryz.results7 (hF.at 10 rfl) (ld_Rat (vs := [.bool b27, .slice ad27 n27 c27, .slice ae27 m27 d27]) o2 rfl rfl)) hF.dfr ?_
          exact ⟨_, rfl, Rq.castM hh26 (by unfold per; rw [if_neg hc2, if_neg hc9, if_neg hc16, if_pos hc23]), bel⟩
        · refine E.opv hF (r_bin (hF.at 6 rfl) ev_c eg_scalar (bi_int (ic_eql (c := false) (dec_ff hc23)) (by simp))) rfl rfl rfl rfl fun a hF => ?_
          refine E.opv hF (r_assign (hF.at 0 rfl)) rfl rfl rfl rfl fun a hF => ?_
          refine E.nil ?_
          refine wp_cond_false (hF.at 0 rfl) ?_
          refine wp_skip ?_
          refine E.blk ?_
          refine E.norm ?_
          refine wp_seq ?_
          refine E.seq ?_
          refine E.call hF (r_call Tryz.func30 en30.1 en30.2 map0) (mAnomalyMonth_any _) rfl rfl rfl rfl ?_
          rintro e w30 ⟨vv31, rfl, hh32, bb⟩
          refine ⟨_, rfl, ?_⟩
          intro a hF
          replace o2 := o2.below bb
          replace bel := below_to bel bb
          clear bb
          obtain ⟨b33, ad33, n33, c33, ae33, m33, d33, rfl, hn33, hd33⟩ := Rq.shape hh32
          have hf34 := Wc.abs hn33
          obtain ⟨w35, hr, tu, on⟩ := st_Rat (vs := [.bool b33, .slice ad33 n33 c33, .slice ae33 m33 d33]) o2 rfl rfl (ocB (ocS (ocS oc0))) (niB (niS (niS ni0))) (o := 0) rfl
          have kp := tu.keep o2
          refine E.st hF (r_store (hF.at 10 rfl) (hF.at 0 rfl) (hr _ rfl)) rfl rfl fun a hF => ?_
          clear hr
          replace hh32 := hh32.keep kp
          replace hn33 := hn33.keep kp
          replace hf34 := hf34.keep kp
          replace hd33 := hd33.keep kp
          replace bel := tu.below bel ge2
          clear tu kp
          replace o2 := on
          clear on
          refine E.nil ?_
          refine wp_ret ?_
          refine bodyPost_ret (res_cell Tryz.results7 (hF.at 10 rfl) (ld_Rat (vs := [.bool b33, .slice ad33 n33 c33, .slice ae33 m33 d33]) o2 rfl rfl)) hF.dfr ?_
          exact ⟨_, rfl, Rq.castM hh32 (by unfold per; rw [if_neg hc2, if_neg hc9, if_neg hc16, if_neg hc23]), bel⟩

end Go.Proofs.YtmpdbkdijfpbbaaGreat
