import Derived.Test.YtplngpfpcheofaaGreatDoorKA38
import Derived.Test.YtplngpfpcheofaaGreatDoorKA42
namespace Go.Proofs.YtplngpfpcheofaaGreatDoor
open Go.RowKit
set_option maxRecDepth 100000
set_option linter.unusedVariables false
set_option maxHeartbeats 8000000
theorem seekMoons_walk (da:Int) (w:World) (hT:TabD w):
 Calls Tryz.prog 3 #[.int .i64 da] w (ValPost w (.bool true)):=by
 have st:=St.start w
 refine E.enter (nt:=47) (L:=[(0,.int .i64 da)]) Tryz.func3 rfl rfl rfl (args_cons (i:=0) rfl args_nil) ?_
 intro a hF
 refine wp_seq ?_
 refine E.seq ?_
 refine E.opv hF (r_assign ev_c) rfl rfl rfl rfl fun a hF=>?_
 refine E.nil ?_
 refine wp_seq ?_
 refine wp_seq ?_
 refine E.seq ?_
 refine S.callx st hF (r_call Tryz.func10 en10.1 en10.2 map0) (awake15_any _) rfl rfl rfl rfl fun w1 a st hF=>?_
 refine E.opv hF (r_un (hF.at 0 rfl) (bn_not _ false rfl)) rfl rfl rfl rfl fun a hF=>?_
 refine E.nil ?_
 refine wp_cond_false (hF.at 0 rfl) ?_
 refine wp_skip ?_
 refine E.norm ?_
 refine wp_seq ?_
 refine E.seq ?_
 refine E.opv hF (r_move (hF.at 3 rfl)) rfl rfl rfl rfl fun a hF=>?_
 refine S.callx st hF (r_call Tryz.func11 en11.1 en11.2 (map1 (hF.at 0 rfl))) (inD_any da _) rfl rfl rfl rfl fun w2 a st hF=>?_
 have hin:=inD_bd da
 refine E.opv hF (r_assign (hF.at 0 rfl)) rfl rfl rfl rfl fun a hF=>?_
 refine E.nil ?_
 refine wp_seq ?_
 refine wp_seq ?_
 refine E.seq ?_
 refine E.opv hF (r_move (hF.at 0 rfl)) rfl rfl rfl rfl fun a hF=>?_
 refine S.callx st hF (r_call Tryz.func12 en12.1 en12.2 (map1 (hF.at 0 rfl))) (skComes_any (inD da) _ (hT.below st.bel) (by omega) (by omega)) rfl rfl rfl rfl fun w3 a st hF=>?_
 refine E.opv hF (r_move (hF.at 2 rfl)) rfl rfl rfl rfl fun a hF=>?_
 refine S.callx st hF (r_call Tryz.func13 en13.1 en13.2 (map1 (hF.at 0 rfl))) (rComes15_any (inD da) _ (by omega) (by omega)) rfl rfl rfl rfl fun w4 a st hF=>?_
 refine E.opv hF (r_bin (hF.at 2 rfl) (hF.at 0 rfl) eg_bool (bb_neq (d:=false) (by simp))) rfl rfl rfl rfl fun a hF=>?_
 refine E.nil ?_
 refine wp_cond_false (hF.at 0 rfl) ?_
 refine wp_skip ?_
 refine E.norm ?_
 refine wp_seq ?_
 refine wp_seq ?_
 refine E.seq ?_
 refine E.opv hF (r_move (hF.at 5 rfl)) rfl rfl rfl rfl fun a hF=>?_
 refine S.callx st hF (r_call Tryz.func13 en13.1 en13.2 (map1 (hF.at 0 rfl))) (rComes15_any (inD da) _ (by omega) (by omega)) rfl rfl rfl rfl fun w5 a st hF=>?_
 by_cases hc6:comes (inD da)=true
 ·refine E.opv hF (r_un (Eq.trans (hF.at 0 rfl) (congrArg Value.bool hc6)) (bn_not _ false rfl)) rfl rfl rfl rfl fun a hF=>?_
  refine E.nil ?_
  refine wp_cond_false (hF.at 0 rfl) ?_
  refine wp_skip ?_
  refine E.norm ?_
  refine wp_seq ?_
  refine E.seq ?_
  refine E.opv hF (r_move (hF.at 8 rfl)) rfl rfl rfl rfl fun a hF=>?_
  refine S.call2 st hF (r_call Tryz.func14 en14.1 en14.2 (map1 (hF.at 0 rfl))) (skNew_any (inD da) _ (hT.below st.bel) (by omega) (by omega)) (fun _ _ h=>h) Rq.cl Rq.cl rfl rfl rfl rfl fun vv8 vv9 w7 a st hF=>?_
  obtain⟨b12,ad12,n12,c12,ae12,m12,d12,rfl⟩:=Rq.form (st.f 0 rfl)
  obtain⟨b13,ad13,n13,c13,ae13,m13,d13,rfl⟩:=Rq.form (st.f 1 rfl)
  refine E.opv hF (r_move (hF.at 0 rfl)) rfl rfl rfl rfl fun a hF=>?_
  refine E.opv hF (r_extract (v:= .agg #[.bool b12,.slice ad12 n12 c12,.slice ae12 m12 d12]) (hF.at 0 rfl) rfl) rfl rfl rfl rfl fun a hF=>?_
  refine E.opv hF (r_extract (v:= .agg #[.bool b13,.slice ad13 n13 c13,.slice ae13 m13 d13]) (hF.at 1 rfl) rfl) rfl rfl rfl rfl fun a hF=>?_
  refine S.alloc st hF ty_Rat rfl rfl fun g4 w14 a st hF=>?_
  refine S.alloc st hF ty_Rat rfl rfl fun g5 w15 a st hF=>?_
  refine S.sto st hF 1 rfl (hF.at 1 rfl) (hF.at 3 rfl) ty_Rat rfl rfl rfl rfl fun w16 a st hF=>?_
  refine S.sto st hF 0 rfl (hF.at 0 rfl) (hF.at 2 rfl) ty_Rat rfl rfl rfl rfl fun w17 a st hF=>?_
  refine E.nil ?_
  refine wp_seq ?_
  refine E.drawn 24 mixed hF [23,24,25,26,27,28,29,30,31,32,33,34,35,36,37,38,39,40,41,42,43,44,45,46] [(fun _ v=>v= .agg #[.bool b12,.slice ad12 n12 c12,.slice ae12 m12 d12]),(fun _ v=>v= .agg #[.bool b13,.slice ad13 n13 c13,.slice ae13 m13 d13]),(fun _ v=>v= .int .i64 (inD da)),(fun w v=>Rr w v (((inD da:Int):Rat)) (2)),(fun _ v=>v= .int .i64 (inD da)),(fun _ v=>v= .int .i64 ((inD da)+1)),(fun w v=>Rr w v ((((inD da)+1:Int):Rat)) (2)),(fun _ v=>v= .int .i64 (inD da)),(fun _ v=>v= .int .i64 (hlv wax ((inD da:Int):Rat) (((inD da+1:Int)):Rat) 10)),(fun _ v=>v= .bool true),(fun _ v=>v= .bool true),(fun _ v=>v= .agg #[.bool b12,.slice ad12 n12 c12,.slice ae12 m12 d12]),(fun w v=>Rq w v (phaseV (hlo wax ((inD da:Int):Rat) ((inD da+1:Int):Rat) 10))),(fun w v=>Rq w v (((180:Int):Rat))),(fun _ v=>v= .int .i64 (qc (phaseV (hlo wax ((inD da:Int):Rat) ((inD da+1:Int):Rat) 10)) (((180:Int):Rat)))),(fun _ v=>v= .bool true),(fun _ v=>v= .bool true),(fun _ v=>v= .bool true),(fun _ v=>v= .agg #[.bool b13,.slice ad13 n13 c13,.slice ae13 m13 d13]),(fun w v=>Rq w v (phaseV (hhi wax ((inD da:Int):Rat) ((inD da+1:Int):Rat) 10))),(fun w v=>Rq w v (((180:Int):Rat))),(fun _ v=>v= .int .i64 (qc (phaseV (hhi wax ((inD da:Int):Rat) ((inD da+1:Int):Rat) 10)) (((180:Int):Rat)))),(fun _ v=>v= .bool true),(fun _ v=>v= .bool true)] [] (by decide+kernel) (by decide+kernel) rfl rfl rfl ⟨(Mb.eq _),(Mb.eq _),(Mb.eq _),(fun _ _ _ h hb=>h.below hb),(Mb.eq _),(Mb.eq _),(fun _ _ _ h hb=>h.below hb),(Mb.eq _),(Mb.eq _),(Mb.eq _),(Mb.eq _),(Mb.eq _),(fun _ _ _ h hb=>h.below hb),(fun _ _ _ h hb=>h.below hb),(Mb.eq _),(Mb.eq _),(Mb.eq _),(Mb.eq _),(Mb.eq _),(fun _ _ _ h hb=>h.below hb),(fun _ _ _ h hb=>h.below hb),(Mb.eq _),(Mb.eq _),(Mb.eq _),trivial⟩ trivial ⟨?_,?_,?_,?_,?_,?_,?_,?_,?_,?_,?_,?_,?_,?_,?_,?_,?_,?_,?_,?_,?_,?_,?_,?_,trivial⟩ ?_
  ·intro a' w' hF' hb hd
   exact dv0 (r_load (hF'.at 1 rfl) (ld_all ty_Rat ((st.bk 1 rfl).below hb) rfl)) rfl rfl rfl
  ·intro a' w' hF' hb hd
   exact dv0 (r_load (hF'.at 0 rfl) (ld_all ty_Rat ((st.bk 0 rfl).below hb) rfl)) rfl rfl rfl
  ·intro a' w' hF' hb hd
   exact dv0 (r_move (hF'.at 15 rfl)) rfl rfl rfl
  ·intro a' w' hF' hb hd
   have e25:=sHe hd 0 25 rfl rfl rfl rfl
   exact dc0 (r_call Tryz.func16 en16.1 en16.2 (map2 e25 ev_c)) (dOf1b_any (inD da) _ (by omega) (by omega)) rfl rfl
  ·intro a' w' hF' hb hd
   exact dv0 (r_move (hF'.at 15 rfl)) rfl rfl rfl
  ·intro a' w' hF' hb hd
   have e27:=sHe hd 0 27 rfl rfl rfl rfl
   exact dv0 (r_bin e27 ev_c eg_scalar (ia_add (by omega) (by omega))) rfl rfl rfl
  ·intro a' w' hF' hb hd
   have e28:=sHe hd 0 28 rfl rfl rfl rfl
   exact dc0 (r_call Tryz.func16 en16.1 en16.2 (map2 e28 ev_c)) (dOf1b_any ((inD da)+1) _ (by omega) (by omega)) rfl rfl
  ·intro a' w' hF' hb hd
   exact dv0 (r_move (hF'.at 15 rfl)) rfl rfl rfl
  ·intro a' w' hF' hb hd
   have e30:=sHe hd 0 30 rfl rfl rfl rfl
   exact dcx0 (r_call Tryz.func17 en17.1 en17.2 (map1 e30)) (rMoon15_any (inD da) _ (by omega) (by omega)) (fun _=>rfl) rfl rfl
  ·intro a' w' hF' hb hd
   have e23:=sHe hd 0 23 rfl rfl rfl rfl
   have e24:=sHe hd 1 24 rfl rfl rfl rfl
   obtain⟨v26_0,e26,h26_1⟩:=sH hd 2 26 rfl rfl rfl rfl
   obtain⟨v29_0,e29,h29_1⟩:=sH hd 3 29 rfl rfl rfl rfl
   have e31:=sHe hd 4 31 rfl rfl rfl rfl
   have hmn15:=hlv_bd wax ((inD da:Int):Rat) (((inD da+1:Int)):Rat) 10
   exact dcx0 (r_call Tryz.func15 en15.1 en15.2 (map6 e23 e24 e26 e29 e31 ev_c)) (lIs15_any _ _ _ _ _ _ _ _ 14 14 2 2 (hlv wax ((inD da:Int):Rat) (((inD da+1:Int)):Rat) 10) 1024 _ ((st.f 0 rfl).below hb) ((st.f 1 rfl).below hb) h26_1 h29_1 (hlo_lim (p:=wax) (i:=2) (j:=2) (lim64 (n:=inD da) (by omega) (by omega)) (dnext_lim (n:=inD da) (by omega) (by omega)) (by decide)) (hhi_lim (p:=wax) (i:=2) (j:=2) (lim64 (n:=inD da) (by omega) (by omega)) (dnext_lim (n:=inD da) (by omega) (by omega)) (by decide)) (moonA_at _) (moonB_at _) (by omega) (by omega) (by omega) (by omega) (by omega) (by omega) (by omega) (by omega) (by omega) (by omega)) (fun _=>rfl) rfl rfl
  ·intro a' w' hF' hb hd
   have e32:=sHe hd 0 32 rfl rfl rfl rfl
   exact dv0 (r_move e32) rfl rfl rfl
  ·intro a' w' hF' hb hd
   have e33:=sHe hd 0 33 rfl rfl rfl rfl
   exact dv1 (wanted_by rfl rfl e33 rfl) (r_load (hF'.at 1 rfl) (ld_all ty_Rat ((st.bk 1 rfl).below hb) rfl)) rfl rfl
  ·intro a' w' hF' hb hd
   have e33:=sHe hd 1 33 rfl rfl rfl rfl
   have e34:=sHe hd 0 34 rfl rfl rfl rfl
   exact dc1 (wanted_by rfl rfl e33 rfl) (r_call Tryz.func18 en18.1 en18.2 (map1 e34)) (oPhase_any _ _ 14 _ (hT.below (below_to st.bel hb)) ((st.f 0 rfl).below hb) (hlo_lim (p:=wax) (i:=2) (j:=2) (lim64 (n:=inD da) (by omega) (by omega)) (dnext_lim (n:=inD da) (by omega) (by omega)) (by decide)) (by omega)) rfl
  ·intro a' w' hF' hb hd
   have e33:=sHe hd 1 33 rfl rfl rfl rfl
   exact dc1 (wanted_by rfl rfl e33 rfl) (r_call Tryz.func20 en20.1 en20.2 (map1 ev_c)) (rWhole_any (180) _ (by decide) (by decide)) rfl
  ·intro a' w' hF' hb hd
   have e33:=sHe hd 3 33 rfl rfl rfl rfl
   obtain⟨v35_0,e35,h35_1⟩:=sH hd 0 35 rfl rfl rfl rfl
   obtain⟨v36_0,e36,h36_1⟩:=sH hd 1 36 rfl rfl rfl rfl
   exact dcx1 (wanted_by rfl rfl e33 rfl) (r_call Tryz.func19 en19.1 en19.2 (map2 e35 e36)) (rCmp_any _ _ _ _ (max (6*14+210) 2) _ h35_1 h36_1 ((phaseV_lim (hlo_lim (p:=wax) (i:=2) (j:=2) (lim64 (n:=inD da) (by omega) (by omega)) (dnext_lim (n:=inD da) (by omega) (by omega)) (by decide))).up _ (by omega)) ((rlim_int (limz_64 (by decide) (by decide)) (by omega)).up _ (by omega)) (by omega)) (fun _=>rfl) rfl
  ·intro a' w' hF' hb hd
   have e33:=sHe hd 1 33 rfl rfl rfl rfl
   have e37:=sHe hd 0 37 rfl rfl rfl rfl
   exact dv1 (wanted_by rfl rfl e33 rfl) (r_bin e37 ev_c eg_scalar (bi_int (ic_geq (c:=true) (dec_tt (full_ge (wax_f.1 (nmL_w hc6))))) (by simp))) rfl rfl
  ·intro a' w' hF' hb hd
   have e33:=sHe hd 0 33 rfl rfl rfl rfl
   have e38:=sHe hd 1 38 rfl rfl rfl rfl
   exact dv0 (r_pick_t e33 e38) rfl rfl rfl
  ·intro a' w' hF' hb hd
   have e39:=sHe hd 0 39 rfl rfl rfl rfl
   exact dv0 (r_move e39) rfl rfl rfl
  ·intro a' w' hF' hb hd
   have e40:=sHe hd 0 40 rfl rfl rfl rfl
   exact dv1 (wanted_by rfl rfl e40 rfl) (r_load (hF'.at 0 rfl) (ld_all ty_Rat ((st.bk 0 rfl).below hb) rfl)) rfl rfl
  ·intro a' w' hF' hb hd
   have e40:=sHe hd 1 40 rfl rfl rfl rfl
   have e41:=sHe hd 0 41 rfl rfl rfl rfl
   exact dc1 (wanted_by rfl rfl e40 rfl) (r_call Tryz.func18 en18.1 en18.2 (map1 e41)) (oPhase_any _ _ 14 _ (hT.below (below_to st.bel hb)) ((st.f 1 rfl).below hb) (hhi_lim (p:=wax) (i:=2) (j:=2) (lim64 (n:=inD da) (by omega) (by omega)) (dnext_lim (n:=inD da) (by omega) (by omega)) (by decide)) (by omega)) rfl
  ·intro a' w' hF' hb hd
   have e40:=sHe hd 1 40 rfl rfl rfl rfl
   exact dc1 (wanted_by rfl rfl e40 rfl) (r_call Tryz.func20 en20.1 en20.2 (map1 ev_c)) (rWhole_any (180) _ (by decide) (by decide)) rfl
  ·intro a' w' hF' hb hd
   have e40:=sHe hd 3 40 rfl rfl rfl rfl
   obtain⟨v42_0,e42,h42_1⟩:=sH hd 0 42 rfl rfl rfl rfl
   obtain⟨v43_0,e43,h43_1⟩:=sH hd 1 43 rfl rfl rfl rfl
   exact dcx1 (wanted_by rfl rfl e40 rfl) (r_call Tryz.func19 en19.1 en19.2 (map2 e42 e43)) (rCmp_any _ _ _ _ (max (6*14+210) 2) _ h42_1 h43_1 ((phaseV_lim (hhi_lim (p:=wax) (i:=2) (j:=2) (lim64 (n:=inD da) (by omega) (by omega)) (dnext_lim (n:=inD da) (by omega) (by omega)) (by decide))).up _ (by omega)) ((rlim_int (limz_64 (by decide) (by decide)) (by omega)).up _ (by omega)) (by omega)) (fun _=>rfl) rfl
  ·intro a' w' hF' hb hd
   have e40:=sHe hd 1 40 rfl rfl rfl rfl
   have e44:=sHe hd 0 44 rfl rfl rfl rfl
   exact dv1 (wanted_by rfl rfl e40 rfl) (r_bin e44 ev_c eg_scalar (bi_int (ic_lss (c:=true) (dec_tt (full_lt (wax_t.1 (nmR_w hc6))))) (by simp))) rfl rfl
  ·intro a' w' hF' hb hd
   have e40:=sHe hd 0 40 rfl rfl rfl rfl
   have e45:=sHe hd 1 45 rfl rfl rfl rfl
   exact dv0 (r_pick_t e40 e45) rfl rfl rfl
  intro a w18 hF bb hall hne
  replace st:=st.to bb
  have e46:=sSe hall 23 46 rfl rfl
  clear hall hne bb
  replace hF:=hF.add e46
  clear e46
  refine E.opset (L':=[(2,.bool true),(46,.bool true),(5,.pointer (some ⟨g5,0,none⟩)),(4,.pointer (some ⟨g4,0,none⟩)),(22,.agg #[.bool b13,.slice ad13 n13 c13,.slice ae13 m13 d13]),(21,.agg #[.bool b12,.slice ad12 n12 c12,.slice ae12 m12 d12]),(18,.tuple #[.agg #[.bool b12,.slice ad12 n12 c12,.slice ae12 m12 d12],.agg #[.bool b13,.slice ad13 n13 c13,.slice ae13 m13 d13]]),(20,.tuple #[.agg #[.bool b12,.slice ad12 n12 c12,.slice ae12 m12 d12],.agg #[.bool b13,.slice ad13 n13 c13,.slice ae13 m13 d13]]),(19,.int .i64 (inD da)),(17,.bool false),(16,.bool (comes (inD da))),(15,.int .i64 (inD da)),(14,.bool false),(13,.bool (comes (inD da))),(12,.int .i64 (inD da)),(11,.bool (comes (inD da))),(10,.int .i64 (inD da)),(3,.int .i64 (inD da)),(9,.int .i64 (inD da)),(8,.int .i64 da),(7,.bool false),(6,.bool true),(0,.int .i64 da)]) hF (r_assign (hF.at 0 rfl)) rfl rfl rfl rfl fun a hF=>?_
  refine E.nil ?_
  refine wp_ret ?_
  have bel:=st.bel
  refine bodyPost_ret (res_tmp Tryz.results3 (hF.at 0 rfl)) hF.dfr ?_
  exact⟨rfl,bel⟩
 ·refine E.opv hF (r_un (Eq.trans (hF.at 0 rfl) (congrArg Value.bool (eq_false_of_ne_true hc6))) (bn_not _ true rfl)) rfl rfl rfl rfl fun a hF=>?_
  refine E.nil ?_
  refine wp_cond_true (hF.at 0 rfl) ?_
  refine wp_seq ?_
  refine E.seq ?_
  refine E.opset (L':=[(2,.bool true),(17,.bool true),(16,.bool (comes (inD da))),(15,.int .i64 (inD da)),(14,.bool false),(13,.bool (comes (inD da))),(12,.int .i64 (inD da)),(11,.bool (comes (inD da))),(10,.int .i64 (inD da)),(3,.int .i64 (inD da)),(9,.int .i64 (inD da)),(8,.int .i64 da),(7,.bool false),(6,.bool true),(0,.int .i64 da)]) hF (r_assign ev_c) rfl rfl rfl rfl fun a hF=>?_
  refine E.nil ?_
  refine wp_ret ?_
  have bel:=st.bel
  refine bodyPost_ret (res_tmp Tryz.results3 (hF.at 0 rfl)) hF.dfr ?_
  exact⟨rfl,bel⟩
theorem seekLast_walk (da db:Int) (w:World) (hT:TabD w):
 Calls Tryz.prog 4 #[.int .i64 da,.int .i64 db] w (ValPost w (.bool true)):=by
 have st:=St.start w
 refine E.enter (nt:=21) (L:=[(0,.int .i64 da),(1,.int .i64 db)]) Tryz.func4 rfl rfl rfl (args_cons (i:=0) rfl (args_cons (i:=1) rfl args_nil)) ?_
 intro a hF
 refine wp_seq ?_
 refine E.seq ?_
 refine E.opv hF (r_assign ev_c) rfl rfl rfl rfl fun a hF=>?_
 refine E.nil ?_
 refine wp_seq ?_
 refine wp_seq ?_
 refine E.seq ?_
 refine S.callx st hF (r_call Tryz.func10 en10.1 en10.2 map0) (awake15_any _) rfl rfl rfl rfl fun w1 a st hF=>?_
 refine E.opv hF (r_un (hF.at 0 rfl) (bn_not _ false rfl)) rfl rfl rfl rfl fun a hF=>?_
 refine E.nil ?_
 refine wp_cond_false (hF.at 0 rfl) ?_
 refine wp_skip ?_
 refine E.norm ?_
 refine wp_seq ?_
 refine E.seq ?_
 refine E.opv hF (r_move (hF.at 3 rfl)) rfl rfl rfl rfl fun a hF=>?_
 refine S.callx st hF (r_call Tryz.func11 en11.1 en11.2 (map1 (hF.at 0 rfl))) (inD_any da _) rfl rfl rfl rfl fun w2 a st hF=>?_
 have hin:=inD_bd da
 refine E.opv hF (r_bin ev_c (hF.at 0 rfl) eg_scalar (ia_mul (by omega) (by omega))) rfl rfl rfl rfl fun a hF=>?_
 refine E.opv hF (r_move (hF.at 7 rfl)) rfl rfl rfl rfl fun a hF=>?_
 refine E.opv hF (r_bin (hF.at 0 rfl) ev_c eg_scalar (id_and (n:=12) (by decide) (d:=4096) (by decide) (by decide))) rfl rfl rfl rfl fun a hF=>?_
 refine E.opv hF (r_bin (hF.at 2 rfl) (hF.at 0 rfl) eg_scalar (ia_add (by omega) (by omega))) rfl rfl rfl rfl fun a hF=>?_
 refine E.opv hF (r_assign (hF.at 0 rfl)) rfl rfl rfl rfl fun a hF=>?_
 refine E.nil ?_
 refine wp_seq ?_
 refine E.seq ?_
 refine E.opv hF (r_move (hF.at 0 rfl)) rfl rfl rfl rfl fun a hF=>?_
 refine S.call st hF (r_call Tryz.func22 en22.1 en22.2 (map2 (hF.at 0 rfl) ev_c)) (rOf2_any ((4096*(inD da))+(db%4096)) (4096) _ (by omega) (by omega) (by decide) (by decide)) (fun _ _ h=>h) Rq.cl rfl rfl rfl rfl fun vv4 w3 a st hF=>?_
 obtain⟨b6,ad6,n6,c6,ae6,m6,d6,rfl⟩:=Rq.form (st.f 0 rfl)
 refine S.callx st hF (r_call Tryz.func21 en21.1 en21.2 (map1 (hF.at 0 rfl))) (skLast_any _ _ 2 _ (hT.below st.bel) (st.f 0 rfl) (RLim.up (rlim_mk2 (limz_64 (by omega) (by omega)) (limz_64 (by decide) (by decide))) 2 (by decide)) (by omega) (by rw[fl_quo (by decide)];omega) (by rw[fl_quo (by decide)];omega)) rfl rfl rfl rfl fun w7 a st hF=>?_
 refine E.opv hF (r_move (hF.at 3 rfl)) rfl rfl rfl rfl fun a hF=>?_
 refine S.call st hF (r_call Tryz.func16 en16.1 en16.2 (map2 (hF.at 0 rfl) ev_c)) (dOf_any ((4096*(inD da))+(db%4096)) (4096) _ (by omega) (by omega) (by decide) (by decide)) (fun _ _ h=>h) Rr.cl rfl rfl rfl rfl fun vv9 w8 a st hF=>?_
 obtain⟨b11,ad11,n11,c11,ae11,m11,d11,rfl⟩:=Rr.form (st.f 0 rfl)
 refine S.callx st hF (r_call Tryz.func23 en23.1 en23.2 (map1 (hF.at 0 rfl))) (rLast15_any _ _ 2 2 _ (st.f 0 rfl) (RLim.up (rlim_mk2 (limz_64 (by omega) (by omega)) (limz_64 (by decide) (by decide))) 2 (by decide)) (by omega) (by omega) (by omega) (by rw[fl_quo (by decide)];omega) (by rw[fl_quo (by decide)];omega)) rfl rfl rfl rfl fun w12 a st hF=>?_
 have hlv15:=lastV_bd ((((4096*(inD da))+(db%4096):Int):Rat)/((4096:Int):Rat))
 refine E.opv hF (r_bin (hF.at 3 rfl) (hF.at 0 rfl) eg_scalar (bi_int (ic_eql (c:=true) (by simp)) (by simp))) rfl rfl rfl rfl fun a hF=>?_
 refine E.opset (L':=[(4,.bool true),(20,.bool true),(19,.int .i64 (lastV ((((4096*(inD da))+(db%4096):Int):Rat)/((4096:Int):Rat)))),(18,.agg #[.bool b11,.slice ad11 n11 c11,.slice ae11 m11 d11]),(17,.int .i64 ((4096*(inD da))+(db%4096))),(16,.int .i64 (lastV ((((4096*(inD da))+(db%4096):Int):Rat)/((4096:Int):Rat)))),(15,.agg #[.bool b6,.slice ad6 n6 c6,.slice ae6 m6 d6]),(14,.int .i64 ((4096*(inD da))+(db%4096))),(5,.int .i64 ((4096*(inD da))+(db%4096))),(13,.int .i64 ((4096*(inD da))+(db%4096))),(12,.int .i64 (db%4096)),(11,.int .i64 db),(10,.int .i64 (4096*(inD da))),(9,.int .i64 (inD da)),(8,.int .i64 da),(7,.bool false),(6,.bool true),(0,.int .i64 da),(1,.int .i64 db)]) hF (r_assign (hF.at 0 rfl)) rfl rfl rfl rfl fun a hF=>?_
 refine E.nil ?_
 refine wp_ret ?_
 have bel:=st.bel
 refine bodyPost_ret (res_tmp Tryz.results4 (hF.at 0 rfl)) hF.dfr ?_
 exact⟨rfl,bel⟩
theorem seekNext_walk (da:Int) (w:World) (hT:TabD w):
 Calls Tryz.prog 5 #[.int .i64 da] w (ValPost w (.bool true)):=by
 have hin0:=inD_bd da
 have hln:=lastI_bd (inD da)
 have hls:=nextD_spec hln.2.2
 have st:=St.start w
 refine E.enter (nt:=33) (L:=[(0,.int .i64 da)]) Tryz.func5 rfl rfl rfl (args_cons (i:=0) rfl args_nil) ?_
 intro a hF
 refine wp_seq ?_
 refine E.seq ?_
 refine E.opv hF (r_assign ev_c) rfl rfl rfl rfl fun a hF=>?_
 refine E.nil ?_
 refine wp_seq ?_
 refine wp_seq ?_
 refine E.seq ?_
 refine S.callx st hF (r_call Tryz.func10 en10.1 en10.2 map0) (awake15_any _) rfl rfl rfl rfl fun w1 a st hF=>?_
 refine E.opv hF (r_un (hF.at 0 rfl) (bn_not _ false rfl)) rfl rfl rfl rfl fun a hF=>?_
 refine E.nil ?_
 refine wp_cond_false (hF.at 0 rfl) ?_
 refine wp_skip ?_
 refine E.norm ?_
 refine wp_seq ?_
 refine E.seq ?_
 refine E.opv hF (r_move (hF.at 3 rfl)) rfl rfl rfl rfl fun a hF=>?_
 refine S.callx st hF (r_call Tryz.func11 en11.1 en11.2 (map1 (hF.at 0 rfl))) (inD_any da _) rfl rfl rfl rfl fun w2 a st hF=>?_
 have hin:=inD_bd da
 refine S.call st hF (r_call Tryz.func20 en20.1 en20.2 (map1 (hF.at 0 rfl))) (rWhole_any (inD da) _ (by omega) (by omega)) (fun _ _ h=>h) Rq.cl rfl rfl rfl rfl fun vv4 w3 a st hF=>?_
 obtain⟨b6,ad6,n6,c6,ae6,m6,d6,rfl⟩:=Rq.form (st.f 0 rfl)
 refine S.callx st hF (r_call Tryz.func21 en21.1 en21.2 (map1 (hF.at 0 rfl))) (skLast_any _ _ 2 _ (hT.below st.bel) (st.f 0 rfl) (rlim_int (limz_64 (by omega) (by omega)) (by omega)) (by omega) (by rw[Rat.floor_intCast];omega) (by rw[Rat.floor_intCast];omega)) rfl rfl rfl rfl fun w7 a st hF=>?_
 refine E.opv hF (r_assign (hF.at 0 rfl)) rfl rfl rfl rfl fun a hF=>?_
 refine E.nil ?_
 refine wp_seq ?_
 refine E.seq ?_
 refine E.opv hF (r_move (hF.at 0 rfl)) rfl rfl rfl rfl fun a hF=>?_
 refine S.callx st hF (r_call Tryz.func24 en24.1 en24.2 (map1 (hF.at 0 rfl))) (skNext_any (lastV (((inD da:Int):Rat))) _ (hT.below st.bel) (by omega) (by omega) hln.2.2) rfl rfl rfl rfl fun w8 a st hF=>?_
 refine E.opv hF (r_assign (hF.at 0 rfl)) rfl rfl rfl rfl fun a hF=>?_
 refine E.nil ?_
 refine wp_seq ?_
 refine E.seq ?_
 refine E.opv hF (r_move (hF.at 0 rfl)) rfl rfl rfl rfl fun a hF=>?_
 refine E.opv hF (r_move (hF.at 4 rfl)) rfl rfl rfl rfl fun a hF=>?_
 refine S.callx st hF (r_call Tryz.func25 en25.1 en25.2 (map1 (hF.at 0 rfl))) (rNext15_any (lastV (((inD da:Int):Rat))) _ (by omega) (by omega) hln.2.2) rfl rfl rfl rfl fun w9 a st hF=>?_
 refine E.opv hF (r_bin (hF.at 2 rfl) (hF.at 0 rfl) eg_scalar (bi_int (ic_eql (c:=true) (by simp)) (by simp))) rfl rfl rfl rfl fun a hF=>?_
 refine E.opv hF (r_move (hF.at 0 rfl)) rfl rfl rfl rfl fun a hF=>?_
 refine E.opvg hF (r_move (hF.at 5 rfl)) (wanted_by rfl rfl (hF.at 0 rfl) rfl) rfl rfl rfl fun a hF=>?_
 refine E.opvg hF (r_move (hF.at 9 rfl)) (wanted_by rfl rfl (hF.at 1 rfl) rfl) rfl rfl rfl fun a hF=>?_
 refine E.opvg hF (r_bin (hF.at 1 rfl) (hF.at 0 rfl) eg_scalar (ia_sub (by omega) (by omega))) (wanted_by rfl rfl (hF.at 2 rfl) rfl) rfl rfl rfl fun a hF=>?_
 refine E.opvg hF (r_bin (hF.at 0 rfl) ev_c eg_scalar (bi_int (ic_geq (c:=true) (dec_tt (by omega))) (by simp))) (wanted_by rfl rfl (hF.at 3 rfl) rfl) rfl rfl rfl fun a hF=>?_
 refine E.opv hF (r_pick_t (hF.at 4 rfl) (hF.at 0 rfl)) rfl rfl rfl rfl fun a hF=>?_
 refine E.opv hF (r_move (hF.at 0 rfl)) rfl rfl rfl rfl fun a hF=>?_
 refine E.opvg hF (r_move (hF.at 11 rfl)) (wanted_by rfl rfl (hF.at 0 rfl) rfl) rfl rfl rfl fun a hF=>?_
 refine E.opvg hF (r_move (hF.at 15 rfl)) (wanted_by rfl rfl (hF.at 1 rfl) rfl) rfl rfl rfl fun a hF=>?_
 refine E.opvg hF (r_bin (hF.at 1 rfl) (hF.at 0 rfl) eg_scalar (ia_sub (by omega) (by omega))) (wanted_by rfl rfl (hF.at 2 rfl) rfl) rfl rfl rfl fun a hF=>?_
 refine E.opvg hF (r_bin (hF.at 0 rfl) ev_c eg_scalar (bi_int (ic_leq (c:=true) (dec_tt (by omega))) (by simp))) (wanted_by rfl rfl (hF.at 3 rfl) rfl) rfl rfl rfl fun a hF=>?_
 refine E.opv hF (r_pick_t (hF.at 4 rfl) (hF.at 0 rfl)) rfl rfl rfl rfl fun a hF=>?_
 refine E.opv hF (r_move (hF.at 0 rfl)) rfl rfl rfl rfl fun a hF=>?_
 refine E.opvg hF (r_move (hF.at 17 rfl)) (wanted_by rfl rfl (hF.at 0 rfl) rfl) rfl rfl rfl fun a hF=>?_
 refine S.callxg st hF (wanted_by rfl rfl (hF.at 1 rfl) rfl) (r_call Tryz.func12 en12.1 en12.2 (map1 (hF.at 0 rfl))) (skComes_any (nextD (lastV (((inD da:Int):Rat)))) _ (hT.below st.bel) (by omega) (by omega)) rfl rfl rfl fun w10 a st hF=>?_
 refine E.opv hF (r_pick_t (hF.at 2 rfl) (hF.at 0 rfl)) rfl rfl rfl rfl fun a hF=>?_
 refine E.opset (L':=[(2,.bool (comes (nextD (lastV (((inD da:Int):Rat)))))),(32,.bool (comes (nextD (lastV (((inD da:Int):Rat)))))),(31,.bool (comes (nextD (lastV (((inD da:Int):Rat)))))),(30,.int .i64 (nextD (lastV (((inD da:Int):Rat))))),(29,.bool true),(28,.bool true),(27,.bool true),(26,.int .i64 ((nextD (lastV (((inD da:Int):Rat))))-(lastV (((inD da:Int):Rat))))),(25,.int .i64 (lastV (((inD da:Int):Rat)))),(24,.int .i64 (nextD (lastV (((inD da:Int):Rat))))),(23,.bool true),(22,.bool true),(21,.bool true),(20,.int .i64 ((nextD (lastV (((inD da:Int):Rat))))-(lastV (((inD da:Int):Rat))))),(19,.int .i64 (lastV (((inD da:Int):Rat)))),(18,.int .i64 (nextD (lastV (((inD da:Int):Rat))))),(17,.bool true),(16,.bool true),(15,.int .i64 (nextD (lastV (((inD da:Int):Rat))))),(14,.int .i64 (lastV (((inD da:Int):Rat)))),(13,.int .i64 (nextD (lastV (((inD da:Int):Rat))))),(4,.int .i64 (nextD (lastV (((inD da:Int):Rat))))),(12,.int .i64 (nextD (lastV (((inD da:Int):Rat))))),(11,.int .i64 (lastV (((inD da:Int):Rat)))),(3,.int .i64 (lastV (((inD da:Int):Rat)))),(10,.int .i64 (lastV (((inD da:Int):Rat)))),(9,.agg #[.bool b6,.slice ad6 n6 c6,.slice ae6 m6 d6]),(8,.int .i64 (inD da)),(7,.int .i64 da),(6,.bool false),(5,.bool true),(0,.int .i64 da)]) hF (r_assign (hF.at 0 rfl)) rfl rfl rfl rfl fun a hF=>?_
 refine E.nil ?_
 refine wp_ret ?_
 have bel:=st.bel
 refine bodyPost_ret (res_tmp Tryz.results5 (hF.at 0 rfl)) hF.dfr ?_
 exact⟨by rw[hls.2.2.1],bel⟩
theorem seekEnters_walk (da:Int) (w:World) (hT:TabD w):
 Calls Tryz.prog 6 #[.int .i64 da] w (ValPost w (.bool true)):=by
 have st:=St.start w
 refine E.enter (nt:=62) (L:=[(0,.int .i64 da)]) Tryz.func6 rfl rfl rfl (args_cons (i:=0) rfl args_nil) ?_
 intro a hF
 refine wp_seq ?_
 refine E.seq ?_
 refine E.opv hF (r_assign ev_c) rfl rfl rfl rfl fun a hF=>?_
 refine E.nil ?_
 refine wp_seq ?_
 refine wp_seq ?_
 refine E.seq ?_
 refine S.callx st hF (r_call Tryz.func10 en10.1 en10.2 map0) (awake15_any _) rfl rfl rfl rfl fun w1 a st hF=>?_
 refine E.opv hF (r_un (hF.at 0 rfl) (bn_not _ false rfl)) rfl rfl rfl rfl fun a hF=>?_
 refine E.nil ?_
 refine wp_cond_false (hF.at 0 rfl) ?_
 refine wp_skip ?_
 refine E.norm ?_
 refine wp_seq ?_
 refine E.seq ?_
 refine E.opv hF (r_move (hF.at 3 rfl)) rfl rfl rfl rfl fun a hF=>?_
 refine S.callx st hF (r_call Tryz.func11 en11.1 en11.2 (map1 (hF.at 0 rfl))) (inD_any da _) rfl rfl rfl rfl fun w2 a st hF=>?_
 have hin:=inD_bd da
 refine E.opv hF (r_assign (hF.at 0 rfl)) rfl rfl rfl rfl fun a hF=>?_
 refine E.nil ?_
 refine wp_seq ?_
 refine E.seq ?_
 refine E.opv hF (r_move (hF.at 0 rfl)) rfl rfl rfl rfl fun a hF=>?_
 refine S.call st hF (r_call Tryz.func16 en16.1 en16.2 (map2 (hF.at 0 rfl) ev_c)) (dOf1b_any (inD da) _ (by omega) (by omega)) (fun _ _ h=>h) Rr.cl rfl rfl rfl rfl fun vv4 w3 a st hF=>?_
 obtain⟨b6,ad6,n6,c6,ae6,m6,d6,rfl⟩:=Rr.form (st.f 0 rfl)
 refine S.callx st hF (r_call Tryz.func26 en26.1 en26.2 (map2 ev_c (hF.at 0 rfl))) (rIndex15_any 0 _ _ 2 2 _ (st.f 0 rfl) (lim64 (by omega) (by omega)) (by omega) (by omega) (by omega)) rfl rfl rfl rfl fun w7 a st hF=>?_
 have hkd77782:=kX_bd 0 (((inD da:Int):Rat))
 refine E.opv hF (r_assign (hF.at 0 rfl)) rfl rfl rfl rfl fun a hF=>?_
 refine E.nil ?_
 refine wp_seq ?_
 refine E.seq ?_
 refine E.opv hF (r_move (hF.at 4 rfl)) rfl rfl rfl rfl fun a hF=>?_
 refine E.opv hF (r_bin (hF.at 0 rfl) ev_c eg_scalar (ia_add (by omega) (by omega))) rfl rfl rfl rfl fun a hF=>?_
 refine S.call st hF (r_call Tryz.func16 en16.1 en16.2 (map2 (hF.at 0 rfl) ev_c)) (dOf1b_any ((inD da)+1) _ (by omega) (by omega)) (fun _ _ h=>h) Rr.cl rfl rfl rfl rfl fun vv9 w8 a st hF=>?_
 obtain⟨b11,ad11,n11,c11,ae11,m11,d11,rfl⟩:=Rr.form (st.f 0 rfl)
 refine S.callx st hF (r_call Tryz.func26 en26.1 en26.2 (map2 ev_c (hF.at 0 rfl))) (rIndex15_any 0 _ _ 2 2 _ (st.f 0 rfl) (lim64 (by omega) (by omega)) (by omega) (by omega) (by omega)) rfl rfl rfl rfl fun w12 a st hF=>?_
 have hkd48540:=kX_bd 0 ((((inD da)+1:Int):Rat))
 refine E.opv hF (r_assign (hF.at 0 rfl)) rfl rfl rfl rfl fun a hF=>?_
 refine E.nil ?_
 refine wp_seq ?_
 refine wp_seq ?_
 refine E.seq ?_
 refine E.opv hF (r_move (hF.at 9 rfl)) rfl rfl rfl rfl fun a hF=>?_
 refine S.callx st hF (r_call Tryz.func27 en27.1 en27.2 (map1 (hF.at 0 rfl))) (skEnters_any (inD da) _ (hT.below st.bel) (by omega) (by omega)) rfl rfl rfl rfl fun w13 a st hF=>?_
 refine E.opv hF (r_move (hF.at 7 rfl)) rfl rfl rfl rfl fun a hF=>?_
 refine E.opv hF (r_move (hF.at 3 rfl)) rfl rfl rfl rfl fun a hF=>?_
 by_cases hc14:kX 0 (((inD da:Int):Rat))≠kX 0 ((((inD da)+1:Int):Rat))
 ·refine E.opv hF (r_bin (hF.at 1 rfl) (hF.at 0 rfl) eg_scalar (bi_int (ic_neq (c:=true) (dec_tt hc14)) (by simp))) rfl rfl rfl rfl fun a hF=>?_
  refine E.opv hF (r_bin (hF.at 3 rfl) (hF.at 0 rfl) eg_bool (bb_neq (d:=false) (by rw[ent_t hc14];rfl))) rfl rfl rfl rfl fun a hF=>?_
  refine E.nil ?_
  refine wp_cond_false (hF.at 0 rfl) ?_
  refine wp_skip ?_
  refine E.norm ?_
  refine wp_seq ?_
  refine wp_seq ?_
  refine E.seq ?_
  refine E.opv hF (r_move (hF.at 11 rfl)) rfl rfl rfl rfl fun a hF=>?_
  refine E.opv hF (r_move (hF.at 7 rfl)) rfl rfl rfl rfl fun a hF=>?_
  refine E.opv hF (r_bin (hF.at 1 rfl) (hF.at 0 rfl) eg_scalar (bi_int (ic_eql (c:=false) (dec_ff (hc14))) (by simp))) rfl rfl rfl rfl fun a hF=>?_
  refine E.nil ?_
  refine wp_cond_false (hF.at 0 rfl) ?_
  refine wp_skip ?_
  refine E.norm ?_
  refine wp_seq ?_
  refine E.seq ?_
  refine E.opv hF (r_move (hF.at 18 rfl)) rfl rfl rfl rfl fun a hF=>?_
  refine S.call2 st hF (r_call Tryz.func28 en28.1 en28.2 (map1 (hF.at 0 rfl))) (skEntry_any (inD da) _ (hT.below st.bel) (by omega) (by omega)) (fun _ _ h=>h) Rq.cl Rq.cl rfl rfl rfl rfl fun vv16 vv17 w15 a st hF=>?_
  obtain⟨b20,ad20,n20,c20,ae20,m20,d20,rfl⟩:=Rq.form (st.f 0 rfl)
  obtain⟨b21,ad21,n21,c21,ae21,m21,d21,rfl⟩:=Rq.form (st.f 1 rfl)
  refine E.opv hF (r_move (hF.at 0 rfl)) rfl rfl rfl rfl fun a hF=>?_
  refine E.opv hF (r_extract (v:= .agg #[.bool b20,.slice ad20 n20 c20,.slice ae20 m20 d20]) (hF.at 0 rfl) rfl) rfl rfl rfl rfl fun a hF=>?_
  refine E.opv hF (r_extract (v:= .agg #[.bool b21,.slice ad21 n21 c21,.slice ae21 m21 d21]) (hF.at 1 rfl) rfl) rfl rfl rfl rfl fun a hF=>?_
  refine S.alloc st hF ty_Rat rfl rfl fun g6 w22 a st hF=>?_
  refine S.alloc st hF ty_Rat rfl rfl fun g7 w23 a st hF=>?_
  refine S.sto st hF 1 rfl (hF.at 1 rfl) (hF.at 3 rfl) ty_Rat rfl rfl rfl rfl fun w24 a st hF=>?_
  refine S.sto st hF 0 rfl (hF.at 0 rfl) (hF.at 2 rfl) ty_Rat rfl rfl rfl rfl fun w25 a st hF=>?_
  refine E.nil ?_
  refine wp_seq ?_
  refine E.drawn 29 mixed hF [33,34,35,36,37,38,39,40,41,42,43,44,45,46,47,48,49,50,51,52,53,54,55,56,57,58,59,60,61] [(fun _ v=>v= .agg #[.bool b20,.slice ad20 n20 c20,.slice ae20 m20 d20]),(fun _ v=>v= .agg #[.bool b21,.slice ad21 n21 c21,.slice ae21 m21 d21]),(fun _ v=>v= .int .i64 (inD da)),(fun w v=>Rr w v (((inD da:Int):Rat)) (2)),(fun _ v=>v= .int .i64 (inD da)),(fun _ v=>v= .int .i64 ((inD da)+1)),(fun w v=>Rr w v ((((inD da)+1:Int):Rat)) (2)),(fun _ v=>v= .int .i64 (inD da)),(fun w v=>Rr w v (((inD da:Int):Rat)) (2)),(fun _ v=>v= .int .i64 (inD da)),(fun _ v=>v= .int .i64 ((inD da)+1)),(fun w v=>Rr w v ((((inD da)+1:Int):Rat)) (2)),(fun _ v=>v= .int .i64 (kX 0 (((inD da:Int):Rat)))),(fun _ v=>v= .int .i64 (hlv (notX 0 (kX 0 (((inD da:Int):Rat)))) (((inD da:Int):Rat)) ((((inD da)+1:Int):Rat)) 21)),(fun _ v=>v= .bool true),(fun _ v=>v= .bool true),(fun _ v=>v= .agg #[.bool b20,.slice ad20 n20 c20,.slice ae20 m20 d20]),(fun _ v=>v= .int .i64 (prt (sunV (hlo (notI 0 (kI 0 (((inD da):Int):Rat))) ((inD da:Int):Rat) ((inD da+1:Int):Rat) 21)) 12)),(fun _ v=>v= .int .i64 (kX 0 (((inD da:Int):Rat)))),(fun _ v=>v= .bool true),(fun _ v=>v= .bool true),(fun _ v=>v= .bool true),(fun _ v=>v= .agg #[.bool b21,.slice ad21 n21 c21,.slice ae21 m21 d21]),(fun _ v=>v= .int .i64 (prt (sunV (hhi (notI 0 (kI 0 (((inD da):Int):Rat))) ((inD da:Int):Rat) ((inD da+1:Int):Rat) 21)) 12)),(fun _ v=>v= .int .i64 (kX 0 (((inD da:Int):Rat)))),(fun _ v=>v= .int .i64 ((kX 0 (((inD da:Int):Rat)))+1)),(fun _ v=>v= .int .i64 (((kX 0 (((inD da:Int):Rat)))+1)%12)),(fun _ v=>v= .bool true),(fun _ v=>v= .bool true)] [] (by decide+kernel) (by decide+kernel) rfl rfl rfl ⟨(Mb.eq _),(Mb.eq _),(Mb.eq _),(fun _ _ _ h hb=>h.below hb),(Mb.eq _),(Mb.eq _),(fun _ _ _ h hb=>h.below hb),(Mb.eq _),(fun _ _ _ h hb=>h.below hb),(Mb.eq _),(Mb.eq _),(fun _ _ _ h hb=>h.below hb),(Mb.eq _),(Mb.eq _),(Mb.eq _),(Mb.eq _),(Mb.eq _),(Mb.eq _),(Mb.eq _),(Mb.eq _),(Mb.eq _),(Mb.eq _),(Mb.eq _),(Mb.eq _),(Mb.eq _),(Mb.eq _),(Mb.eq _),(Mb.eq _),(Mb.eq _),trivial⟩ trivial ⟨?_,?_,?_,?_,?_,?_,?_,?_,?_,?_,?_,?_,?_,?_,?_,?_,?_,?_,?_,?_,?_,?_,?_,?_,?_,?_,?_,?_,?_,trivial⟩ ?_
  ·intro a' w' hF' hb hd
   exact dv0 (r_load (hF'.at 1 rfl) (ld_all ty_Rat ((st.bk 1 rfl).below hb) rfl)) rfl rfl rfl
  ·intro a' w' hF' hb hd
   exact dv0 (r_load (hF'.at 0 rfl) (ld_all ty_Rat ((st.bk 0 rfl).below hb) rfl)) rfl rfl rfl
  ·intro a' w' hF' hb hd
   exact dv0 (r_move (hF'.at 25 rfl)) rfl rfl rfl
  ·intro a' w' hF' hb hd
   have e35:=sHe hd 0 35 rfl rfl rfl rfl
   exact dc0 (r_call Tryz.func16 en16.1 en16.2 (map2 e35 ev_c)) (dOf1b_any (inD da) _ (by omega) (by omega)) rfl rfl
  ·intro a' w' hF' hb hd
   exact dv0 (r_move (hF'.at 25 rfl)) rfl rfl rfl
  ·intro a' w' hF' hb hd
   have e37:=sHe hd 0 37 rfl rfl rfl rfl
   exact dv0 (r_bin e37 ev_c eg_scalar (ia_add (by omega) (by omega))) rfl rfl rfl
  ·intro a' w' hF' hb hd
   have e38:=sHe hd 0 38 rfl rfl rfl rfl
   exact dc0 (r_call Tryz.func16 en16.1 en16.2 (map2 e38 ev_c)) (dOf1b_any ((inD da)+1) _ (by omega) (by omega)) rfl rfl
  ·intro a' w' hF' hb hd
   exact dv0 (r_move (hF'.at 25 rfl)) rfl rfl rfl
  ·intro a' w' hF' hb hd
   have e40:=sHe hd 0 40 rfl rfl rfl rfl
   exact dc0 (r_call Tryz.func16 en16.1 en16.2 (map2 e40 ev_c)) (dOf1b_any (inD da) _ (by omega) (by omega)) rfl rfl
  ·intro a' w' hF' hb hd
   exact dv0 (r_move (hF'.at 25 rfl)) rfl rfl rfl
  ·intro a' w' hF' hb hd
   have e42:=sHe hd 0 42 rfl rfl rfl rfl
   exact dv0 (r_bin e42 ev_c eg_scalar (ia_add (by omega) (by omega))) rfl rfl rfl
  ·intro a' w' hF' hb hd
   have e43:=sHe hd 0 43 rfl rfl rfl rfl
   exact dc0 (r_call Tryz.func16 en16.1 en16.2 (map2 e43 ev_c)) (dOf1b_any ((inD da)+1) _ (by omega) (by omega)) rfl rfl
  ·intro a' w' hF' hb hd
   exact dv0 (r_move (hF'.at 21 rfl)) rfl rfl rfl
  ·intro a' w' hF' hb hd
   obtain⟨v41_0,e41,h41_1⟩:=sH hd 0 41 rfl rfl rfl rfl
   obtain⟨v44_0,e44,h44_1⟩:=sH hd 1 44 rfl rfl rfl rfl
   have e45:=sHe hd 2 45 rfl rfl rfl rfl
   exact dcx0 (r_call Tryz.func29 en29.1 en29.2 (map4s e41 e44 ev_c e45)) (rWhere15_any _ _ _ _ 2 2 0 (kX 0 _) _ h41_1 h44_1 (by omega) (by omega) (by omega) (by omega) (by omega) (fun z h0 h1=>(day_lim2 (by omega) (by omega) h0 h1).up _ (by decide))) (fun _=>rfl) rfl rfl
  ·intro a' w' hF' hb hd
   have e33:=sHe hd 0 33 rfl rfl rfl rfl
   have e34:=sHe hd 1 34 rfl rfl rfl rfl
   obtain⟨v36_0,e36,h36_1⟩:=sH hd 2 36 rfl rfl rfl rfl
   obtain⟨v39_0,e39,h39_1⟩:=sH hd 3 39 rfl rfl rfl rfl
   have e46:=sHe hd 4 46 rfl rfl rfl rfl
   have hwh15:=hlv_bd (notX 0 (kX 0 (((inD da:Int):Rat)))) (((inD da:Int):Rat)) ((((inD da)+1:Int):Rat)) 21
   exact dcx0 (r_call Tryz.func15 en15.1 en15.2 (map6 e33 e34 e36 e39 e46 ev_c)) (lIs15_any _ _ _ _ _ _ _ _ 14 14 2 2 (hlv (notX 0 (kX 0 _)) _ _ 21) 2097152 _ ((st.f 0 rfl).below hb) ((st.f 1 rfl).below hb) h36_1 h39_1 (hlo_lim (p:=(notI 0 (kI 0 (((inD da):Int):Rat)))) (i:=2) (j:=2) (lim64 (n:=inD da) (by omega) (by omega)) (dnext_lim (n:=inD da) (by omega) (by omega)) (by decide)) (hhi_lim (p:=(notI 0 (kI 0 (((inD da):Int):Rat)))) (i:=2) (j:=2) (lim64 (n:=inD da) (by omega) (by omega)) (dnext_lim (n:=inD da) (by omega) (by omega)) (by decide)) (entA_at _) (entB_at _) (by omega) (by omega) (by omega) (by omega) (by omega) (by omega) (by omega) (by omega) (by omega) (by omega)) (fun _=>rfl) rfl rfl
  ·intro a' w' hF' hb hd
   have e47:=sHe hd 0 47 rfl rfl rfl rfl
   exact dv0 (r_move e47) rfl rfl rfl
  ·intro a' w' hF' hb hd
   have e48:=sHe hd 0 48 rfl rfl rfl rfl
   exact dv1 (wanted_by rfl rfl e48 rfl) (r_load (hF'.at 1 rfl) (ld_all ty_Rat ((st.bk 1 rfl).below hb) rfl)) rfl rfl
  ·intro a' w' hF' hb hd
   have e48:=sHe hd 1 48 rfl rfl rfl rfl
   have e49:=sHe hd 0 49 rfl rfl rfl rfl
   exact dcx1 (wanted_by rfl rfl e48 rfl) (r_call Tryz.func30 en30.1 en30.2 (map1 e49)) (oSign_any _ _ 14 _ (hT.below (below_to st.bel hb)) ((st.f 0 rfl).below hb) (hlo_lim (p:=(notI 0 (kI 0 (((inD da):Int):Rat)))) (i:=2) (j:=2) (lim64 (n:=inD da) (by omega) (by omega)) (dnext_lim (n:=inD da) (by omega) (by omega)) (by decide)) (by omega)) (fun _=>rfl) rfl
  ·intro a' w' hF' hb hd
   have e48:=sHe hd 0 48 rfl rfl rfl rfl
   exact dv1 (wanted_by rfl rfl e48 rfl) (r_move (hF'.at 21 rfl)) rfl rfl
  ·intro a' w' hF' hb hd
   have e48:=sHe hd 2 48 rfl rfl rfl rfl
   have e50:=sHe hd 0 50 rfl rfl rfl rfl
   have e51:=sHe hd 1 51 rfl rfl rfl rfl
   exact dv1 (wanted_by rfl rfl e48 rfl) (r_bin e50 e51 eg_scalar (bi_int (ic_eql (c:=true) (dec_tt (ent_a _))) (by simp))) rfl rfl
  ·intro a' w' hF' hb hd
   have e48:=sHe hd 0 48 rfl rfl rfl rfl
   have e52:=sHe hd 1 52 rfl rfl rfl rfl
   exact dv0 (r_pick_t e48 e52) rfl rfl rfl
  ·intro a' w' hF' hb hd
   have e53:=sHe hd 0 53 rfl rfl rfl rfl
   exact dv0 (r_move e53) rfl rfl rfl
  ·intro a' w' hF' hb hd
   have e54:=sHe hd 0 54 rfl rfl rfl rfl
   exact dv1 (wanted_by rfl rfl e54 rfl) (r_load (hF'.at 0 rfl) (ld_all ty_Rat ((st.bk 0 rfl).below hb) rfl)) rfl rfl
  ·intro a' w' hF' hb hd
   have e54:=sHe hd 1 54 rfl rfl rfl rfl
   have e55:=sHe hd 0 55 rfl rfl rfl rfl
   exact dcx1 (wanted_by rfl rfl e54 rfl) (r_call Tryz.func30 en30.1 en30.2 (map1 e55)) (oSign_any _ _ 14 _ (hT.below (below_to st.bel hb)) ((st.f 1 rfl).below hb) (hhi_lim (p:=(notI 0 (kI 0 (((inD da):Int):Rat)))) (i:=2) (j:=2) (lim64 (n:=inD da) (by omega) (by omega)) (dnext_lim (n:=inD da) (by omega) (by omega)) (by decide)) (by omega)) (fun _=>rfl) rfl
  ·intro a' w' hF' hb hd
   have e54:=sHe hd 0 54 rfl rfl rfl rfl
   exact dv1 (wanted_by rfl rfl e54 rfl) (r_move (hF'.at 21 rfl)) rfl rfl
  ·intro a' w' hF' hb hd
   have e54:=sHe hd 1 54 rfl rfl rfl rfl
   have e57:=sHe hd 0 57 rfl rfl rfl rfl
   exact dv1 (wanted_by rfl rfl e54 rfl) (r_bin e57 ev_c eg_scalar (ia_add (by omega) (by omega))) rfl rfl
  ·intro a' w' hF' hb hd
   have e54:=sHe hd 1 54 rfl rfl rfl rfl
   have e58:=sHe hd 0 58 rfl rfl rfl rfl
   exact dv1 (wanted_by rfl rfl e54 rfl) (r_bin e58 ev_c eg_scalar (id_remn (a:=(kX 0 (((inD da:Int):Rat)))+1) (b:=12) (by omega) (by omega))) rfl rfl
  ·intro a' w' hF' hb hd
   have e54:=sHe hd 2 54 rfl rfl rfl rfl
   have e56:=sHe hd 0 56 rfl rfl rfl rfl
   have e59:=sHe hd 1 59 rfl rfl rfl rfl
   exact dv1 (wanted_by rfl rfl e54 rfl) (r_bin e56 e59 eg_scalar (bi_int (ic_eql (c:=true) (dec_tt (ent_b hc14))) (by simp))) rfl rfl
  ·intro a' w' hF' hb hd
   have e54:=sHe hd 0 54 rfl rfl rfl rfl
   have e60:=sHe hd 1 60 rfl rfl rfl rfl
   exact dv0 (r_pick_t e54 e60) rfl rfl rfl
  intro a w26 hF bb hall hne
  replace st:=st.to bb
  have e61:=sSe hall 28 61 rfl rfl
  clear hall hne bb
  replace hF:=hF.add e61
  clear e61
  refine E.opset (L':=[(2,.bool true),(61,.bool true),(7,.pointer (some ⟨g7,0,none⟩)),(6,.pointer (some ⟨g6,0,none⟩)),(32,.agg #[.bool b21,.slice ad21 n21 c21,.slice ae21 m21 d21]),(31,.agg #[.bool b20,.slice ad20 n20 c20,.slice ae20 m20 d20]),(28,.tuple #[.agg #[.bool b20,.slice ad20 n20 c20,.slice ae20 m20 d20],.agg #[.bool b21,.slice ad21 n21 c21,.slice ae21 m21 d21]]),(30,.tuple #[.agg #[.bool b20,.slice ad20 n20 c20,.slice ae20 m20 d20],.agg #[.bool b21,.slice ad21 n21 c21,.slice ae21 m21 d21]]),(29,.int .i64 (inD da)),(27,.bool false),(26,.int .i64 (kX 0 ((((inD da)+1:Int):Rat)))),(25,.int .i64 (kX 0 (((inD da:Int):Rat)))),(24,.bool false),(23,.bool true),(22,.int .i64 (kX 0 ((((inD da)+1:Int):Rat)))),(21,.int .i64 (kX 0 (((inD da:Int):Rat)))),(20,.bool (notI 0 (kI 0 ((inD da:Int):Rat)) ((inD da+1:Int):Rat))),(19,.int .i64 (inD da)),(5,.int .i64 (kX 0 ((((inD da)+1:Int):Rat)))),(18,.int .i64 (kX 0 ((((inD da)+1:Int):Rat)))),(17,.agg #[.bool b11,.slice ad11 n11 c11,.slice ae11 m11 d11]),(16,.int .i64 ((inD da)+1)),(15,.int .i64 (inD da)),(4,.int .i64 (kX 0 (((inD da:Int):Rat)))),(14,.int .i64 (kX 0 (((inD da:Int):Rat)))),(13,.agg #[.bool b6,.slice ad6 n6 c6,.slice ae6 m6 d6]),(12,.int .i64 (inD da)),(3,.int .i64 (inD da)),(11,.int .i64 (inD da)),(10,.int .i64 da),(9,.bool false),(8,.bool true),(0,.int .i64 da)]) hF (r_assign (hF.at 0 rfl)) rfl rfl rfl rfl fun a hF=>?_
  refine E.nil ?_
  refine wp_ret ?_
  have bel:=st.bel
  refine bodyPost_ret (res_tmp Tryz.results6 (hF.at 0 rfl)) hF.dfr ?_
  exact⟨rfl,bel⟩
 ·refine E.opv hF (r_bin (hF.at 1 rfl) (hF.at 0 rfl) eg_scalar (bi_int (ic_neq (c:=false) (dec_ff hc14)) (by simp))) rfl rfl rfl rfl fun a hF=>?_
  refine E.opv hF (r_bin (hF.at 3 rfl) (hF.at 0 rfl) eg_bool (bb_neq (d:=false) (by rw[ent_f hc14];rfl))) rfl rfl rfl rfl fun a hF=>?_
  refine E.nil ?_
  refine wp_cond_false (hF.at 0 rfl) ?_
  refine wp_skip ?_
  refine E.norm ?_
  refine wp_seq ?_
  refine wp_seq ?_
  refine E.seq ?_
  refine E.opv hF (r_move (hF.at 11 rfl)) rfl rfl rfl rfl fun a hF=>?_
  refine E.opv hF (r_move (hF.at 7 rfl)) rfl rfl rfl rfl fun a hF=>?_
  refine E.opv hF (r_bin (hF.at 1 rfl) (hF.at 0 rfl) eg_scalar (bi_int (ic_eql (c:=true) (dec_tt (Decidable.not_not.1 hc14))) (by simp))) rfl rfl rfl rfl fun a hF=>?_
  refine E.nil ?_
  refine wp_cond_true (hF.at 0 rfl) ?_
  refine wp_seq ?_
  refine E.seq ?_
  refine E.opset (L':=[(2,.bool true),(27,.bool true),(26,.int .i64 (kX 0 ((((inD da)+1:Int):Rat)))),(25,.int .i64 (kX 0 (((inD da:Int):Rat)))),(24,.bool false),(23,.bool false),(22,.int .i64 (kX 0 ((((inD da)+1:Int):Rat)))),(21,.int .i64 (kX 0 (((inD da:Int):Rat)))),(20,.bool (notI 0 (kI 0 ((inD da:Int):Rat)) ((inD da+1:Int):Rat))),(19,.int .i64 (inD da)),(5,.int .i64 (kX 0 ((((inD da)+1:Int):Rat)))),(18,.int .i64 (kX 0 ((((inD da)+1:Int):Rat)))),(17,.agg #[.bool b11,.slice ad11 n11 c11,.slice ae11 m11 d11]),(16,.int .i64 ((inD da)+1)),(15,.int .i64 (inD da)),(4,.int .i64 (kX 0 (((inD da:Int):Rat)))),(14,.int .i64 (kX 0 (((inD da:Int):Rat)))),(13,.agg #[.bool b6,.slice ad6 n6 c6,.slice ae6 m6 d6]),(12,.int .i64 (inD da)),(3,.int .i64 (inD da)),(11,.int .i64 (inD da)),(10,.int .i64 da),(9,.bool false),(8,.bool true),(0,.int .i64 da)]) hF (r_assign ev_c) rfl rfl rfl rfl fun a hF=>?_
  refine E.nil ?_
  refine wp_ret ?_
  have bel:=st.bel
  refine bodyPost_ret (res_tmp Tryz.results6 (hF.at 0 rfl)) hF.dfr ?_
  exact⟨rfl,bel⟩
end Go.Proofs.YtplngpfpcheofaaGreatDoor
