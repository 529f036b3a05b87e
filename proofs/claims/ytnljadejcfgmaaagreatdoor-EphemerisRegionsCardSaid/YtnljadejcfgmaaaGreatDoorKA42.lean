import Derived.Test.YtnljadejcfgmaaaGreatDoorKA41
namespace Go.Proofs.YtnljadejcfgmaaaGreatDoor
open Go.RowKit
set_option maxRecDepth 100000
set_option linter.unusedVariables false
set_option maxHeartbeats 8000000
theorem awake18_any (w:World) (hT:TabD w):
 Calls Tryz.prog 13 #[] w (ValPost w (.bool true)):=by
 have hka:kaV (((-1132779:Int)):Rat)=23470560005:=by decide+kernel
 have st:=St.start w
 refine E.enter (nt:=34) (L:=[]) Tryz.func13 rfl rfl rfl args_nil ?_
 intro a hF
 refine wp_seq ?_
 refine E.seq ?_
 refine E.opv hF (r_assign ev_c) rfl rfl rfl rfl fun a hF=>?_
 refine E.nil ?_
 refine wp_seq ?_
 refine E.seq ?_
 refine S.callx st hF (rgc k51 map0) (pUj_any _) rfl rfl rfl rfl fun w1 a st hF=>?_
 refine S.new st hF 0 rfl ty_Plc rfl rfl rfl rfl rfl fun g1 w2 a st hF=>?_
 refine E.nil ?_
 refine wp_seq ?_
 refine E.seq ?_
 refine E.opv hF (r_load (hF.at 0 rfl) (ld_all ty_Plc (st.bk 0 rfl) rfl)) rfl rfl rfl rfl fun a hF=>?_
 refine S.callx st hF (rgc k24 (map3 ev_c ev_c (hF.at 0 rfl))) (soOfE_any 4 0 463 20 45461 600 _ (by decide+kernel)) rfl rfl rfl rfl fun w3 a st hF=>?_
 refine E.opv hF (r_move (hF.at 0 rfl)) rfl rfl rfl rfl fun a hF=>?_
 refine E.opv hF (r_extract (v:= .agg #[.int .i64 0,.int .i64 0,.int .i64 0]) (hF.at 0 rfl) rfl) rfl rfl rfl rfl fun a hF=>?_
 refine E.opv hF (r_extract (v:= .int .i64 (ckE 4 463 20 45461 600)) (hF.at 1 rfl) rfl) rfl rfl rfl rfl fun a hF=>?_
 refine S.new st hF 1 rfl ty_SOD rfl rfl rfl rfl rfl fun g2 w4 a st hF=>?_
 refine E.opv hF (r_assign (hF.at 1 rfl)) rfl rfl rfl rfl fun a hF=>?_
 refine E.nil ?_
 refine wp_seq ?_
 refine E.seq ?_
 refine E.opv hF (r_build (by simp) (bd_Plc_ _)) rfl rfl rfl rfl fun a hF=>?_
 refine S.callx st hF (rgc k24 (map3 ev_c ev_c (hF.at 0 rfl))) (soOfE_any 0 0 0 0 0 0 _ (by decide+kernel)) rfl rfl rfl rfl fun w5 a st hF=>?_
 refine E.opv hF (r_move (hF.at 0 rfl)) rfl rfl rfl rfl fun a hF=>?_
 refine E.opv hF (r_extract (v:= .agg #[.int .i64 0,.int .i64 0,.int .i64 0]) (hF.at 0 rfl) rfl) rfl rfl rfl rfl fun a hF=>?_
 refine E.opv hF (r_extract (v:= .int .i64 (ckE 0 0 0 0 0)) (hF.at 1 rfl) rfl) rfl rfl rfl rfl fun a hF=>?_
 refine S.new st hF 1 rfl ty_SOD rfl rfl rfl rfl rfl fun g4 w6 a st hF=>?_
 refine E.opv hF (r_assign (hF.at 1 rfl)) rfl rfl rfl rfl fun a hF=>?_
 refine E.nil ?_
 refine wp_seq ?_
 refine E.seq ?_
 refine E.opv hF (r_load (hF.at 14 rfl) (ld_all ty_Plc (st.bk 2 rfl) rfl)) rfl rfl rfl rfl fun a hF=>?_
 refine S.ck st hF (rgc k16 (map3 ev_c ev_c (hF.at 0 rfl))) (rq_ret (soCrit_any 3 7 463 20 45461 600 _ (hT.below st.bel) (by first|assumption|exact⟨by omega,by omega,by omega,by omega,by omega,by omega,by omega,by omega⟩) (by omega) (by omega)) (criQ_lim (by first|assumption|exact⟨by omega,by omega,by omega,by omega,by omega,by omega,by omega,by omega⟩) (by omega) (by omega))) Rl.cl rfl fun vv8 w7 a st hF=>?_
 obtain⟨b10,ad10,n10,c10,ae10,m10,d10,rfl⟩:=Rq.form (st.f 0 rfl).1
 refine S.ck st hF (rgc k40 (map1 ev_c)) (rq_ret (rWhole_any (8) _ (by decide) (by decide)) (rlim_int (limz_64 (by decide) (by decide)) (by omega))) Rl.cl rfl fun vv12 w11 a st hF=>?_
 obtain⟨b14,ad14,n14,c14,ae14,m14,d14,rfl⟩:=Rq.form (st.f 0 rfl).1
 refine S.callx st hF (rgc k52 (map2 (hF.at 1 rfl) (hF.at 0 rfl))) (rSame_true _ _ _ _ _ (st.f 1 rfl).1 (st.f 0 rfl).1 (by decide+kernel)) rfl rfl rfl rfl fun w15 a st hF=>?_
 refine E.opv hF (r_move (hF.at 0 rfl)) rfl rfl rfl rfl fun a hF=>?_
 refine S.ckg st hF (wanted_by rfl rfl (hF.at 0 rfl) rfl) (rgc k40 (map1 ev_c)) (rq_ret (rWhole_any ((-1132779)) _ (by decide) (by decide)) (rlim_int (limz_64 (by decide) (by decide)) (by omega))) Rl.cl rfl rfl rfl fun vv17 w16 a st hF=>?_
 obtain⟨b19,ad19,n19,c19,ae19,m19,d19,rfl⟩:=Rq.form (st.f 0 rfl).1
 refine S.callxg st hF (wanted_by rfl rfl (hF.at 1 rfl) rfl) (rgc k20 (map1 (hF.at 0 rfl))) (soCount_any _ _ 2 _ (hT.below st.bel) (st.f 0 rfl).1 (st.f 0 rfl).2 (by omega) (by omega) (by omega)) rfl rfl rfl fun w20 a st hF=>?_
 refine E.opvg hF (r_bin (hF.at 0 rfl) ev_c eg_scalar (bi_int (ic_eql (c:=true) (dec_tt (by decide+kernel))) (by simp))) (wanted_by rfl rfl (hF.at 2 rfl) rfl) rfl rfl rfl fun a hF=>?_
 refine E.opv hF (r_pick_t (hF.at 3 rfl) (hF.at 0 rfl)) rfl rfl rfl rfl fun a hF=>?_
 refine E.opv hF (r_move (hF.at 0 rfl)) rfl rfl rfl rfl fun a hF=>?_
 refine E.opvg hF (r_move (hF.at 17 rfl)) (wanted_by rfl rfl (hF.at 0 rfl) rfl) rfl rfl rfl fun a hF=>?_
 refine E.opvg hF (r_bin (hF.at 0 rfl) ev_c eg_scalar (bi_int (ic_eql (c:=true) (dec_tt (by decide+kernel))) (by simp))) (wanted_by rfl rfl (hF.at 1 rfl) rfl) rfl rfl rfl fun a hF=>?_
 refine E.opv hF (r_pick_t (hF.at 2 rfl) (hF.at 0 rfl)) rfl rfl rfl rfl fun a hF=>?_
 refine E.opv hF (r_move (hF.at 0 rfl)) rfl rfl rfl rfl fun a hF=>?_
 refine E.opvg hF (r_move (hF.at 14 rfl)) (wanted_by rfl rfl (hF.at 0 rfl) rfl) rfl rfl rfl fun a hF=>?_
 refine E.opvg hF (r_bin (hF.at 0 rfl) ev_c eg_scalar (bi_int (ic_eql (c:=true) (dec_tt (by decide+kernel))) (by simp))) (wanted_by rfl rfl (hF.at 1 rfl) rfl) rfl rfl rfl fun a hF=>?_
 refine E.opv hF (r_pick_t (hF.at 2 rfl) (hF.at 0 rfl)) rfl rfl rfl rfl fun a hF=>?_
 refine E.opset (L':=[(0,.bool true),(33,.bool true),(32,.bool true),(31,.int .i64 (ckE 0 0 0 0 0)),(30,.bool true),(29,.bool true),(28,.bool true),(27,.int .i64 (ckE 4 463 20 45461 600)),(26,.bool true),(25,.bool true),(24,.bool true),(23,.int .i64 (kaV ((((-1132779):Int):Rat))/12-1955880000)),(22,.agg #[.bool b19,.slice ad19 n19 c19,.slice ae19 m19 d19]),(21,.bool true),(20,.bool true),(19,.agg #[.bool b14,.slice ad14 n14 c14,.slice ae14 m14 d14]),(18,.agg #[.bool b10,.slice ad10 n10 c10,.slice ae10 m10 d10]),(17,.agg #[.int .i64 463,.int .i64 20,.int .i64 45461,.int .i64 600]),(5,.int .i64 (ckE 0 0 0 0 0)),(4,.pointer (some ⟨g4,0,none⟩)),(16,.int .i64 (ckE 0 0 0 0 0)),(15,.agg #[.int .i64 0,.int .i64 0,.int .i64 0]),(12,.tuple #[.agg #[.int .i64 0,.int .i64 0,.int .i64 0],.int .i64 (ckE 0 0 0 0 0)]),(14,.tuple #[.agg #[.int .i64 0,.int .i64 0,.int .i64 0],.int .i64 (ckE 0 0 0 0 0)]),(13,.agg #[.int .i64 0,.int .i64 0,.int .i64 0,.int .i64 0]),(3,.int .i64 (ckE 4 463 20 45461 600)),(2,.pointer (some ⟨g2,0,none⟩)),(11,.int .i64 (ckE 4 463 20 45461 600)),(10,.agg #[.int .i64 0,.int .i64 0,.int .i64 0]),(7,.tuple #[.agg #[.int .i64 0,.int .i64 0,.int .i64 0],.int .i64 (ckE 4 463 20 45461 600)]),(9,.tuple #[.agg #[.int .i64 0,.int .i64 0,.int .i64 0],.int .i64 (ckE 4 463 20 45461 600)]),(8,.agg #[.int .i64 463,.int .i64 20,.int .i64 45461,.int .i64 600]),(1,.pointer (some ⟨g1,0,none⟩)),(6,.agg #[.int .i64 463,.int .i64 20,.int .i64 45461,.int .i64 600])]) hF (r_assign (hF.at 0 rfl)) rfl rfl rfl rfl fun a hF=>?_
 refine E.nil ?_
 refine wp_ret ?_
 have bel:=st.bel
 refine bodyPost_ret (res_tmp Tryz.results13 (hF.at 0 rfl)) hF.dfr ?_
 exact⟨rfl,bel⟩
theorem where_any (wa wb wc wd:Int) (w:World):
 Calls Tryz.prog 15 #[.agg #[.int .i64 wa,.int .i64 wb,.int .i64 wc,.int .i64 wd]] w (ValPost w (.agg #[.int .i64 (gA 60 120 wa wb),.int .i64 (gB wb),.int .i64 (gA 180 360 wc wd),.int .i64 (gB wd)])):=by
 have st:=St.start w
 refine E.enter (nt:=12) (L:=[(0,.agg #[.int .i64 wa,.int .i64 wb,.int .i64 wc,.int .i64 wd])]) Tryz.func15 rfl rfl rfl (args_cons (i:=0) rfl args_nil) ?_
 intro a hF
 refine wp_seq ?_
 refine E.seq ?_
 refine S.box st hF (hF.at 0 rfl) rfl rfl fun g1 w1 a st hF=>?_
 refine S.alloc st hF ty_Plc rfl rfl fun g2 w2 a st hF=>?_
 refine E.nil ?_
 refine wp_seq ?_
 refine E.seq ?_
 refine E.opv hF (r_field (hF.at 1 rfl) (fa_WHR_0 (p:=0) rfl)) rfl rfl rfl rfl fun a hF=>?_
 refine E.opv hF (r_load (hF.at 0 rfl) (ldb_i64 (v:= .int .i64 wa) (st.bk 1 rfl) rfl)) rfl rfl rfl rfl fun a hF=>?_
 refine E.opv hF (r_field (hF.at 3 rfl) (fa_WHR_1 (p:=1) rfl)) rfl rfl rfl rfl fun a hF=>?_
 refine E.opv hF (r_load (hF.at 0 rfl) (ldb_i64 (v:= .int .i64 wb) (st.bk 1 rfl) rfl)) rfl rfl rfl rfl fun a hF=>?_
 refine E.opv hF (r_field (hF.at 5 rfl) (fa_WHR_2 (p:=2) rfl)) rfl rfl rfl rfl fun a hF=>?_
 refine E.opv hF (r_load (hF.at 0 rfl) (ldb_i64 (v:= .int .i64 wc) (st.bk 1 rfl) rfl)) rfl rfl rfl rfl fun a hF=>?_
 refine E.opv hF (r_field (hF.at 7 rfl) (fa_WHR_3 (p:=3) rfl)) rfl rfl rfl rfl fun a hF=>?_
 refine E.opv hF (r_load (hF.at 0 rfl) (ldb_i64 (v:= .int .i64 wd) (st.bk 1 rfl) rfl)) rfl rfl rfl rfl fun a hF=>?_
 refine S.callx st hF (rgc k50 (map4 (hF.at 6 rfl) (hF.at 4 rfl) (hF.at 2 rfl) (hF.at 0 rfl))) (good_any wa wb wc wd _) rfl rfl rfl rfl fun w3 a st hF=>?_
 have hg1:=gB_bd wb
 have hg2:=gLat_bd wa wb
 have hg3:=gB_bd wd
 have hg4:=gLon_bd wc wd
 have hok3550:=good_ok wa wb wc wd
 refine S.stoI st hF 0 rfl (hF.at 9 rfl) (hF.at 0 rfl) ty_Plc rfl rfl rfl fun w4 a st hF=>?_
 refine E.nil ?_
 refine wp_ret ?_
 refine S.ret Tryz.results15 st hF (hF.at 9 rfl) 0 rfl ty_Plc rfl hF.dfr ?_
 have bel:=st.bel
 exact⟨rfl,bel⟩
theorem where_at {wa wb wc wd pa pb pc pd:Int} (w:World) (ha:gA 60 120 wa wb=pa) (hb:gB wb=pb) (hc:gA 180 360 wc wd=pc) (hd:gB wd=pd):Calls Tryz.prog 15 #[.agg #[.int .i64 wa,.int .i64 wb,.int .i64 wc,.int .i64 wd]] w (ValPost w (.agg #[.int .i64 pa,.int .i64 pb,.int .i64 pc,.int .i64 pd])):=by
 subst ha hb hc hd
 exact where_any wa wb wc wd w
theorem inD_at {n z:Int} (w:World) (h:inD n=z):Calls Tryz.prog 14 #[.int .i64 n] w (ValPost w (.int .i64 z)):=by
 subst h
 exact inD_any n w
theorem and_3 {P:Program} {w:World} {t:TypeId} {r z:Int} (h:r%4=z):(binOp .and t (.int .i64 r) (.int .i64 3)).run P w= .ok (.int .i64 z) w:=by
 subst h
 exact id_and (n:=2) (by decide) (d:=4) (by decide) (by decide)
end Go.Proofs.YtnljadejcfgmaaaGreatDoor
