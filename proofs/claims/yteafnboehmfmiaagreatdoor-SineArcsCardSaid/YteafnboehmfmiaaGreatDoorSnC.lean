/- The laws of layer 10. -/
import Derived.Test.YteafnboehmfmiaaGreatDoorGZ
namespace Go.Proofs.YteafnboehmfmiaaGreatDoor
open Go.RowKit
set_option maxRecDepth 100000
set_option linter.unusedVariables false

theorem qc_no {a b : Rat} (h : a ≤ b) : ¬ 0 < qc a b := by rw [qc_pos]; grind
theorem rise_qc {p q : Rat} (hp : ((-90 : Int) : Rat) ≤ p ∧ p < ((90 : Int) : Rat)) (hq : ((-90 : Int) : Rat) ≤ q ∧ q < ((90 : Int) : Rat)) : qc (sof p) (sof q) = qc p q := by
  have a := sof_same (p := p) (q := q) hp.1 (by grind) hq.1 (by grind)
  have b := sof_same (p := q) (q := p) hq.1 (by grind) hp.1 (by grind)
  rw [qc_def, qc_def]
  simp only [a, b]
theorem into90 (x : Rat) : ((-90 : Int) : Rat) ≤ rinto x ((-90 : Int) : Rat) ((90 : Int) : Rat) ∧ rinto x ((-90 : Int) : Rat) ((90 : Int) : Rat) < ((90 : Int) : Rat) := ⟨rinto_low (by decide +kernel), rinto_high (by decide +kernel)⟩
theorem into1 (x : Rat) : ((-1 : Int) : Rat) ≤ rinto x ((-1 : Int) : Rat) ((1 : Int) : Rat) ∧ rinto x ((-1 : Int) : Rat) ((1 : Int) : Rat) < ((1 : Int) : Rat) := ⟨rinto_low (by decide +kernel), rinto_high (by decide +kernel)⟩
theorem le_lt {a b : Rat} (h : a < b) : a ≤ b := by grind
theorem sof_abs (p : Rat) : (sof p).abs ≤ ((1 : Int) : Rat) := by
  have := sof_bd p
  exact abs_le this.1 this.2
set_option maxHeartbeats 4000000 in
theorem awake10_any (w : World) (hT : TabD w) :
    Calls Tryz.prog 5 #[] w (ValPost w (.bool true)) := by
  have bel : Below w.heap.size w w := Below.refl _ _
  refine E.enter (nt := 22) (L := []) Tryz.func5 rfl rfl rfl args_nil ?_
  intro a hF
  refine wp_seq ?_
  refine E.seq ?_
  refine E.opv hF (r_assign ev_c) rfl rfl rfl rfl fun a hF => ?_
  refine E.nil ?_
  refine wp_seq ?_
  refine E.seq ?_
  refine E.call hF (r_call Tryz.func16 en16.1 en16.2 (map1 ev_c)) (rWhole_any (30) _ (by decide) (by decide)) rfl rfl rfl rfl ?_
  rintro e w1 ⟨vv2, rfl, hh3, bb⟩
  refine ⟨_, rfl, ?_⟩
  intro a hF
  replace bel := below_to bel bb
  clear bb
  obtain ⟨b4, ad4, n4, c4, ae4, m4, d4, rfl, hn4, hd4⟩ := Rq.shape hh3
  have hf5 := Wc.abs hn4
  refine E.call hF (r_call Tryz.func9 en9.1 en9.2 (map1 (hF.at 0 rfl))) (sof_any _ (((30 : Int) : Rat)) 2 _ (hT.below bel) hh3 (rlim_int (limz_64 (by decide) (by decide)) (by omega)) (by omega)) rfl rfl rfl rfl ?_
  rintro e w6 ⟨vv7, rfl, hh8, bb⟩
  refine ⟨_, rfl, ?_⟩
  intro a hF
  replace bel := below_to bel bb
  clear bb
  obtain ⟨b9, ad9, n9, c9, ae9, m9, d9, rfl, hn9, hd9⟩ := Rq.shape hh8
  have hf10 := Wc.abs hn9
  refine E.call hF (r_call Tryz.func19 en19.1 en19.2 (map2 ev_c ev_c)) (rOf2_any (1) (2) _ (by decide) (by decide) (by decide) (by decide)) rfl rfl rfl rfl ?_
  rintro e w11 ⟨vv12, rfl, hh13, bb⟩
  refine ⟨_, rfl, ?_⟩
  intro a hF
  replace hh8 := hh8.below bb
  replace hn9 := hn9.below bb
  replace hf10 := hf10.below bb
  replace hd9 := hd9.below bb
  replace bel := below_to bel bb
  clear bb
  obtain ⟨b14, ad14, n14, c14, ae14, m14, d14, rfl, hn14, hd14⟩ := Rq.shape hh13
  have hf15 := Wc.abs hn14
  refine E.call hF (r_call Tryz.func14 en14.1 en14.2 (map2 (hF.at 1 rfl) (hF.at 0 rfl))) (rSame_true _ _ (sof (((30 : Int) : Rat))) (((1 : Int) : Rat) / ((2 : Int) : Rat)) _ hh8 hh13 (by decide +kernel)) rfl rfl rfl rfl ?_
  rintro e w16 ⟨rfl, bb⟩
  refine ⟨_, rfl, ?_⟩
  intro a hF
  replace bel := below_to bel bb
  clear bb
  refine E.opv hF (r_move (hF.at 0 rfl)) rfl rfl rfl rfl fun a hF => ?_
  refine E.callg hF (r_call Tryz.func19 en19.1 en19.2 (map2 ev_c ev_c)) (rOf2_any (1) (2) _ (by decide) (by decide) (by decide) (by decide)) (wanted_by rfl rfl (hF.at 0 rfl) rfl) rfl rfl rfl ?_
  rintro e w17 ⟨vv18, rfl, hh19, bb⟩
  refine ⟨_, rfl, ?_⟩
  intro a hF
  replace bel := below_to bel bb
  clear bb
  obtain ⟨b20, ad20, n20, c20, ae20, m20, d20, rfl, hn20, hd20⟩ := Rq.shape hh19
  have hf21 := Wc.abs hn20
  refine E.callg hF (r_call Tryz.func17 en17.1 en17.2 (map1 (hF.at 0 rfl))) (sarc_any _ (((1 : Int) : Rat) / ((2 : Int) : Rat)) 2 _ (hT.below bel) hh19 (RLim.up (rlim_mk2 (limz_64 (by decide) (by decide)) (limz_64 (by decide) (by decide))) 2 (by decide)) (by omega)) (wanted_by rfl rfl (hF.at 1 rfl) rfl) rfl rfl rfl ?_
  rintro e w22 ⟨vv23, rfl, hh24, bb⟩
  refine ⟨_, rfl, ?_⟩
  intro a hF
  replace bel := below_to bel bb
  clear bb
  obtain ⟨b25, ad25, n25, c25, ae25, m25, d25, rfl, hn25, hd25⟩ := Rq.shape hh24
  have hf26 := Wc.abs hn25
  refine E.callg hF (r_call Tryz.func16 en16.1 en16.2 (map1 ev_c)) (rWhole_any (30) _ (by decide) (by decide)) (wanted_by rfl rfl (hF.at 2 rfl) rfl) rfl rfl rfl ?_
  rintro e w27 ⟨vv28, rfl, hh29, bb⟩
  refine ⟨_, rfl, ?_⟩
  intro a hF
  replace hh24 := hh24.below bb
  replace hn25 := hn25.below bb
  replace hf26 := hf26.below bb
  replace hd25 := hd25.below bb
  replace bel := below_to bel bb
  clear bb
  obtain ⟨b30, ad30, n30, c30, ae30, m30, d30, rfl, hn30, hd30⟩ := Rq.shape hh29
  have hf31 := Wc.abs hn30
  refine E.callg hF (r_call Tryz.func14 en14.1 en14.2 (map2 (hF.at 1 rfl) (hF.at 0 rfl))) (rSame_true _ _ (arcv (((1 : Int) : Rat) / ((2 : Int) : Rat))) (((30 : Int) : Rat)) _ hh24 hh29 (by decide +kernel)) (wanted_by rfl rfl (hF.at 3 rfl) rfl) rfl rfl rfl ?_
  rintro e w32 ⟨rfl, bb⟩
  refine ⟨_, rfl, ?_⟩
  intro a hF
  replace bel := below_to bel bb
  clear bb
  refine E.opv hF (r_pick_t (hF.at 4 rfl) (hF.at 0 rfl)) rfl rfl rfl rfl fun a hF => ?_
  refine E.opv hF (r_move (hF.at 0 rfl)) rfl rfl rfl rfl fun a hF => ?_
  refine E.callg hF (r_call Tryz.func16 en16.1 en16.2 (map1 ev_c)) (rWhole_any ((-1)) _ (by decide) (by decide)) (wanted_by rfl rfl (hF.at 0 rfl) rfl) rfl rfl rfl ?_
  rintro e w33 ⟨vv34, rfl, hh35, bb⟩
  refine ⟨_, rfl, ?_⟩
  intro a hF
  replace bel := below_to bel bb
  clear bb
  obtain ⟨b36, ad36, n36, c36, ae36, m36, d36, rfl, hn36, hd36⟩ := Rq.shape hh35
  have hf37 := Wc.abs hn36
  refine E.callg hF (r_call Tryz.func11 en11.1 en11.2 (map1 (hF.at 0 rfl))) (step_any _ ((((-1) : Int) : Rat)) 2 _ (hT.below bel) hh35 (rlim_int (limz_64 (by decide) (by decide)) (by omega)) (by omega)) (wanted_by rfl rfl (hF.at 1 rfl) rfl) rfl rfl rfl ?_
  rintro e w38 ⟨rfl, bb⟩
  refine ⟨_, rfl, ?_⟩
  intro a hF
  replace bel := below_to bel bb
  clear bb
  refine E.opvg hF (r_bin (hF.at 0 rfl) ev_c eg_scalar (bi_int (ic_eql (c := true) (dec_tt (by decide +kernel))) (by simp))) (wanted_by rfl rfl (hF.at 2 rfl) rfl) rfl rfl rfl fun a hF => ?_
  refine E.opv hF (r_pick_t (hF.at 3 rfl) (hF.at 0 rfl)) rfl rfl rfl rfl fun a hF => ?_
  refine E.opv hF (r_move (hF.at 0 rfl)) rfl rfl rfl rfl fun a hF => ?_
  refine E.callg hF (r_call Tryz.func16 en16.1 en16.2 (map1 ev_c)) (rWhole_any (60) _ (by decide) (by decide)) (wanted_by rfl rfl (hF.at 0 rfl) rfl) rfl rfl rfl ?_
  rintro e w39 ⟨vv40, rfl, hh41, bb⟩
  refine ⟨_, rfl, ?_⟩
  intro a hF
  replace bel := below_to bel bb
  clear bb
  obtain ⟨b42, ad42, n42, c42, ae42, m42, d42, rfl, hn42, hd42⟩ := Rq.shape hh41
  have hf43 := Wc.abs hn42
  refine E.callg hF (r_call Tryz.func13 en13.1 en13.2 (map1 (hF.at 0 rfl))) (scos_any _ (((60 : Int) : Rat)) 2 _ (hT.below bel) hh41 (rlim_int (limz_64 (by decide) (by decide)) (by omega)) (by omega)) (wanted_by rfl rfl (hF.at 1 rfl) rfl) rfl rfl rfl ?_
  rintro e w44 ⟨vv45, rfl, hh46, bb⟩
  refine ⟨_, rfl, ?_⟩
  intro a hF
  replace bel := below_to bel bb
  clear bb
  obtain ⟨b47, ad47, n47, c47, ae47, m47, d47, rfl, hn47, hd47⟩ := Rq.shape hh46
  have hf48 := Wc.abs hn47
  refine E.callg hF (r_call Tryz.func19 en19.1 en19.2 (map2 ev_c ev_c)) (rOf2_any (1) (2) _ (by decide) (by decide) (by decide) (by decide)) (wanted_by rfl rfl (hF.at 2 rfl) rfl) rfl rfl rfl ?_
  rintro e w49 ⟨vv50, rfl, hh51, bb⟩
  refine ⟨_, rfl, ?_⟩
  intro a hF
  replace hh46 := hh46.below bb
  replace hn47 := hn47.below bb
  replace hf48 := hf48.below bb
  replace hd47 := hd47.below bb
  replace bel := below_to bel bb
  clear bb
  obtain ⟨b52, ad52, n52, c52, ae52, m52, d52, rfl, hn52, hd52⟩ := Rq.shape hh51
  have hf53 := Wc.abs hn52
  refine E.callg hF (r_call Tryz.func14 en14.1 en14.2 (map2 (hF.at 1 rfl) (hF.at 0 rfl))) (rSame_true _ _ (sof ((((60 : Int) : Rat)) + ((90 : Int) : Rat))) (((1 : Int) : Rat) / ((2 : Int) : Rat)) _ hh46 hh51 (by decide +kernel)) (wanted_by rfl rfl (hF.at 3 rfl) rfl) rfl rfl rfl ?_
  rintro e w54 ⟨rfl, bb⟩
  refine ⟨_, rfl, ?_⟩
  intro a hF
  replace bel := below_to bel bb
  clear bb
  refine E.opv hF (r_pick_t (hF.at 4 rfl) (hF.at 0 rfl)) rfl rfl rfl rfl fun a hF => ?_
  refine E.opset (L' := [(0, .bool true), (21, .bool true), (20, .bool true), (19, .agg #[.bool b52, .slice ad52 n52 c52, .slice ae52 m52 d52]), (18, .agg #[.bool b47, .slice ad47 n47 c47, .slice ae47 m47 d47]), (17, .agg #[.bool b42, .slice ad42 n42 c42, .slice ae42 m42 d42]), (16, .bool true), (15, .bool true), (14, .bool true), (13, .int .i64 (spk (pk ((((-1) : Int) : Rat)) + 1) - spk (pk ((((-1) : Int) : Rat))))), (12, .agg #[.bool b36, .slice ad36 n36 c36, .slice ae36 m36 d36]), (11, .bool true), (10, .bool true), (9, .bool true), (8, .agg #[.bool b30, .slice ad30 n30 c30, .slice ae30 m30 d30]), (7, .agg #[.bool b25, .slice ad25 n25 c25, .slice ae25 m25 d25]), (6, .agg #[.bool b20, .slice ad20 n20 c20, .slice ae20 m20 d20]), (5, .bool true), (4, .bool true), (3, .agg #[.bool b14, .slice ad14 n14 c14, .slice ae14 m14 d14]), (2, .agg #[.bool b9, .slice ad9 n9 c9, .slice ae9 m9 d9]), (1, .agg #[.bool b4, .slice ad4 n4 c4, .slice ae4 m4 d4])]) hF (r_assign (hF.at 0 rfl)) rfl rfl rfl rfl fun a hF => ?_
  refine E.nil ?_
  refine wp_ret ?_
  refine bodyPost_ret (res_tmp Tryz.results5 (hF.at 0 rfl)) hF.dfr ?_
  exact ⟨rfl, bel⟩

end Go.Proofs.YteafnboehmfmiaaGreatDoor
