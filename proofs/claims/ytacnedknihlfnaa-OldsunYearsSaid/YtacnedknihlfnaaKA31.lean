import Derived.Test.YtacnedknihlfnaaKA29
import Derived.Test.YtacnedknihlfnaaKA30
namespace Go.Proofs.Ytacnedknihlfnaa
open Go.RowKit
set_option maxRecDepth 100000
set_option linter.unusedVariables false
set_option maxHeartbeats 8000000
theorem en13:(Try.f13.name == "runtime.NumGoroutine")=false∧Try.f13.body.isNone=false:=⟨by decide+kernel,by kernel_rfl⟩
theorem awake16_any (w:World):
 Calls Try.prog 13 #[] w (ValPost w (.bool true)):=by
 have st:=St.start w
 refine E.enter (nt:=39) (L:=[]) Try.func13 rfl rfl rfl args_nil ?_
 intro a hF
 refine wp_seq ?_
 refine E.seq ?_
 refine E.opv hF (r_assign ev_c) rfl rfl rfl rfl fun a hF=>?_
 refine E.nil ?_
 refine wp_seq ?_
 refine E.seq ?_
 by_cases hc1: -3000000≤(-1132959)∧(-1132959)≤3000000
 ·first
  |(exfalso;omega)
  |(refine S.callx st hF (r_call Try.func14 en14.1 en14.2 (map1 ev_c)) (osOf_any (-1132959) _ (by omega) (by omega)) rfl rfl rfl rfl fun w2 a st hF=>?_
    have hob1:=osM_in (n:=(-1132959)) (by omega) (by omega)
    have hod1:=osD_bd ((-1132959))
    refine E.opv hF (r_move (hF.at 0 rfl)) rfl rfl rfl rfl fun a hF=>?_
    refine E.opv hF (r_extract (v:= .agg #[.int .i64 (osM (-1132959)/12),.int .i64 (osM (-1132959)%12+1),.int .i64 (osD (-1132959))]) (hF.at 0 rfl) rfl) rfl rfl rfl rfl fun a hF=>?_
    refine E.opv hF (r_extract (v:= .int .i64 0) (hF.at 1 rfl) rfl) rfl rfl rfl rfl fun a hF=>?_
    refine S.new st hF 1 rfl ty_OSD rfl rfl rfl rfl rfl fun g1 w3 a st hF=>?_
    refine E.opv hF (r_assign (hF.at 1 rfl)) rfl rfl rfl rfl fun a hF=>?_
    refine E.nil ?_
    refine wp_seq ?_
    refine E.seq ?_
    refine E.opv hF (r_load (hF.at 1 rfl) (ld_all ty_OSD (st.bk 0 rfl) rfl)) rfl rfl rfl rfl fun a hF=>?_
    refine S.callx st hF (r_call Try.func17 en17.1 en17.2 (map1 (hF.at 0 rfl))) (osFixed_any (osM (-1132959)/12) (osM (-1132959)%12+1) (osD (-1132959)) _) rfl rfl rfl rfl fun w4 a st hF=>?_
    refine E.opv hF (r_move (hF.at 0 rfl)) rfl rfl rfl rfl fun a hF=>?_
    refine E.opv hF (r_extract (v:= .int .i64 (osN (osM (-1132959)/12) (osM (-1132959)%12+1) (osD (-1132959)))) (hF.at 0 rfl) rfl) rfl rfl rfl rfl fun a hF=>?_
    refine E.opv hF (r_extract (v:= .int .i64 (osE (osM (-1132959)/12) (osM (-1132959)%12+1) (osD (-1132959)))) (hF.at 1 rfl) rfl) rfl rfl rfl rfl fun a hF=>?_
    refine E.opv hF (r_assign (hF.at 1 rfl)) rfl rfl rfl rfl fun a hF=>?_
    refine E.opv hF (r_assign (hF.at 1 rfl)) rfl rfl rfl rfl fun a hF=>?_
    refine E.nil ?_
    refine wp_seq ?_
    refine E.seq ?_
    refine E.opv hF (r_load (hF.at 8 rfl) (ld_all ty_OSD (st.bk 0 rfl) rfl)) rfl rfl rfl rfl fun a hF=>?_
    refine E.opv hF (r_build (pair2 ev_c ev_c) (bd_OSD_12 _ _ _)) rfl rfl rfl rfl fun a hF=>?_
    refine E.opv hF (r_bin (hF.at 1 rfl) (hF.at 0 rfl) eg_OSD (es_OSD (dec_tt (by decide+kernel)))) rfl rfl rfl rfl fun a hF=>?_
    refine E.opv hF (r_move (hF.at 0 rfl)) rfl rfl rfl rfl fun a hF=>?_
    refine E.opvg hF (r_move (hF.at 11 rfl)) (wanted_by rfl rfl (hF.at 0 rfl) rfl) rfl rfl rfl fun a hF=>?_
    refine E.opvg hF (r_bin (hF.at 0 rfl) ev_c eg_scalar (bi_int (ic_eql (c:=true) (by decide)) (by simp))) (wanted_by rfl rfl (hF.at 1 rfl) rfl) rfl rfl rfl fun a hF=>?_
    refine E.opv hF (r_pick_t (hF.at 2 rfl) (hF.at 0 rfl)) rfl rfl rfl rfl fun a hF=>?_
    refine E.opv hF (r_move (hF.at 0 rfl)) rfl rfl rfl rfl fun a hF=>?_
    refine E.opvg hF (r_move (hF.at 9 rfl)) (wanted_by rfl rfl (hF.at 0 rfl) rfl) rfl rfl rfl fun a hF=>?_
    refine E.opvg hF (r_bin (hF.at 0 rfl) ev_c eg_scalar (bi_int (ic_eql (c:=true) (dec_tt (by decide+kernel))) (by simp))) (wanted_by rfl rfl (hF.at 1 rfl) rfl) rfl rfl rfl fun a hF=>?_
    refine E.opv hF (r_pick_t (hF.at 2 rfl) (hF.at 0 rfl)) rfl rfl rfl rfl fun a hF=>?_
    refine E.opv hF (r_move (hF.at 0 rfl)) rfl rfl rfl rfl fun a hF=>?_
    refine E.opvg hF (r_move (hF.at 12 rfl)) (wanted_by rfl rfl (hF.at 0 rfl) rfl) rfl rfl rfl fun a hF=>?_
    refine E.opvg hF (r_bin (hF.at 0 rfl) ev_c eg_scalar (bi_int (ic_eql (c:=true) (dec_tt (by decide+kernel))) (by simp))) (wanted_by rfl rfl (hF.at 1 rfl) rfl) rfl rfl rfl fun a hF=>?_
    refine E.opv hF (r_pick_t (hF.at 2 rfl) (hF.at 0 rfl)) rfl rfl rfl rfl fun a hF=>?_
    refine E.opv hF (r_move (hF.at 0 rfl)) rfl rfl rfl rfl fun a hF=>?_
    refine S.callg st hF (wanted_by rfl rfl (hF.at 0 rfl) rfl) (r_call Try.func36 en36.1 en36.2 map0) (osMonth_any _) (fun _ _ h=>h) Rq.cl rfl rfl rfl fun vv6 w5 a st hF=>?_
    obtain⟨b8,ad8,n8,c8,ae8,m8,d8,rfl⟩:=Rq.form (st.f 0 rfl)
    refine S.callg st hF (wanted_by rfl rfl (hF.at 1 rfl) rfl) (r_call Try.func20 en20.1 en20.2 (map2 ev_c ev_c)) (rOf2_any (210389) (6912) _ (by decide) (by decide) (by decide) (by decide)) (fun _ _ h=>h) Rq.cl rfl rfl rfl fun vv10 w9 a st hF=>?_
    obtain⟨b12,ad12,n12,c12,ae12,m12,d12,rfl⟩:=Rq.form (st.f 0 rfl)
    refine S.callxg st hF (wanted_by rfl rfl (hF.at 2 rfl) rfl) (r_call Try.func19 en19.1 en19.2 (map2 (hF.at 1 rfl) (hF.at 0 rfl))) (rSame_true _ _ (msR) _ _ (st.f 1 rfl) (st.f 0 rfl) ms_is) rfl rfl rfl fun w13 a st hF=>?_
    refine E.opv hF (r_pick_t (hF.at 3 rfl) (hF.at 0 rfl)) rfl rfl rfl rfl fun a hF=>?_
    refine E.opv hF (r_move (hF.at 0 rfl)) rfl rfl rfl rfl fun a hF=>?_
    refine S.callg st hF (wanted_by rfl rfl (hF.at 0 rfl) rfl) (r_call Try.func37 en37.1 en37.2 map0) (osYear_any _) (fun _ _ h=>h) Rq.cl rfl rfl rfl fun vv15 w14 a st hF=>?_
    obtain⟨b17,ad17,n17,c17,ae17,m17,d17,rfl⟩:=Rq.form (st.f 0 rfl)
    refine S.callg st hF (wanted_by rfl rfl (hF.at 1 rfl) rfl) (r_call Try.func20 en20.1 en20.2 (map2 ev_c ev_c)) (rOf2_any (210389) (576) _ (by decide) (by decide) (by decide) (by decide)) (fun _ _ h=>h) Rq.cl rfl rfl rfl fun vv19 w18 a st hF=>?_
    obtain⟨b21,ad21,n21,c21,ae21,m21,d21,rfl⟩:=Rq.form (st.f 0 rfl)
    refine S.callxg st hF (wanted_by rfl rfl (hF.at 2 rfl) rfl) (r_call Try.func19 en19.1 en19.2 (map2 (hF.at 1 rfl) (hF.at 0 rfl))) (rSame_true _ _ (ysR) _ _ (st.f 1 rfl) (st.f 0 rfl) ys_is) rfl rfl rfl fun w22 a st hF=>?_
    refine E.opv hF (r_pick_t (hF.at 3 rfl) (hF.at 0 rfl)) rfl rfl rfl rfl fun a hF=>?_
    refine E.opset (L':=[(0,.bool true),(38,.bool true),(37,.bool true),(36,.agg #[.bool b21,.slice ad21 n21 c21,.slice ae21 m21 d21]),(35,.agg #[.bool b17,.slice ad17 n17 c17,.slice ae17 m17 d17]),(34,.bool true),(33,.bool true),(32,.bool true),(31,.agg #[.bool b12,.slice ad12 n12 c12,.slice ae12 m12 d12]),(30,.agg #[.bool b8,.slice ad8 n8 c8,.slice ae8 m8 d8]),(29,.bool true),(28,.bool true),(27,.bool true),(26,.int .i64 (osE (osM (-1132959)/12) (osM (-1132959)%12+1) (osD (-1132959)))),(25,.bool true),(24,.bool true),(23,.bool true),(22,.int .i64 (osN (osM (-1132959)/12) (osM (-1132959)%12+1) (osD (-1132959)))),(21,.bool true),(20,.bool true),(19,.bool true),(18,.int .i64 0),(17,.bool true),(16,.bool true),(15,.agg #[.int .i64 0,.int .i64 1,.int .i64 1]),(14,.agg #[.int .i64 (osM (-1132959)/12),.int .i64 (osM (-1132959)%12+1),.int .i64 (osD (-1132959))]),(4,.int .i64 (osE (osM (-1132959)/12) (osM (-1132959)%12+1) (osD (-1132959)))),(3,.int .i64 (osN (osM (-1132959)/12) (osM (-1132959)%12+1) (osD (-1132959)))),(13,.int .i64 (osE (osM (-1132959)/12) (osM (-1132959)%12+1) (osD (-1132959)))),(12,.int .i64 (osN (osM (-1132959)/12) (osM (-1132959)%12+1) (osD (-1132959)))),(9,.tuple #[.int .i64 (osN (osM (-1132959)/12) (osM (-1132959)%12+1) (osD (-1132959))),.int .i64 (osE (osM (-1132959)/12) (osM (-1132959)%12+1) (osD (-1132959)))]),(11,.tuple #[.int .i64 (osN (osM (-1132959)/12) (osM (-1132959)%12+1) (osD (-1132959))),.int .i64 (osE (osM (-1132959)/12) (osM (-1132959)%12+1) (osD (-1132959)))]),(10,.agg #[.int .i64 (osM (-1132959)/12),.int .i64 (osM (-1132959)%12+1),.int .i64 (osD (-1132959))]),(2,.int .i64 0),(1,.pointer (some ⟨g1,0,none⟩)),(8,.int .i64 0),(7,.agg #[.int .i64 (osM (-1132959)/12),.int .i64 (osM (-1132959)%12+1),.int .i64 (osD (-1132959))]),(5,.tuple #[.agg #[.int .i64 (osM (-1132959)/12),.int .i64 (osM (-1132959)%12+1),.int .i64 (osD (-1132959))],.int .i64 0]),(6,.tuple #[.agg #[.int .i64 (osM (-1132959)/12),.int .i64 (osM (-1132959)%12+1),.int .i64 (osD (-1132959))],.int .i64 0])]) hF (r_assign (hF.at 0 rfl)) rfl rfl rfl rfl fun a hF=>?_
    refine E.nil ?_
    refine wp_ret ?_
    have bel:=st.bel
    refine bodyPost_ret (res_tmp Try.results13 (hF.at 0 rfl)) hF.dfr ?_
    exact⟨rfl,bel⟩)
 ·first
  |(exfalso;omega)
  |(refine S.callx st hF (r_call Try.func14 en14.1 en14.2 (map1 ev_c)) (osOfX_any (-1132959) _ (by omega)) rfl rfl rfl rfl fun w23 a st hF=>?_
    refine E.opv hF (r_move (hF.at 0 rfl)) rfl rfl rfl rfl fun a hF=>?_
    refine E.opv hF (r_extract (v:= .agg #[.int .i64 0,.int .i64 0,.int .i64 0]) (hF.at 0 rfl) rfl) rfl rfl rfl rfl fun a hF=>?_
    refine E.opv hF (r_extract (v:= .int .i64 2) (hF.at 1 rfl) rfl) rfl rfl rfl rfl fun a hF=>?_
    refine S.new st hF 1 rfl ty_OSD rfl rfl rfl rfl rfl fun g1 w24 a st hF=>?_
    refine E.opv hF (r_assign (hF.at 1 rfl)) rfl rfl rfl rfl fun a hF=>?_
    refine E.nil ?_
    refine wp_seq ?_
    refine E.seq ?_
    refine E.opv hF (r_load (hF.at 1 rfl) (ld_all ty_OSD (st.bk 0 rfl) rfl)) rfl rfl rfl rfl fun a hF=>?_
    refine S.callx st hF (r_call Try.func17 en17.1 en17.2 (map1 (hF.at 0 rfl))) (osFixed_any 0 0 0 _) rfl rfl rfl rfl fun w25 a st hF=>?_
    refine E.opv hF (r_move (hF.at 0 rfl)) rfl rfl rfl rfl fun a hF=>?_
    refine E.opv hF (r_extract (v:= .int .i64 (osN 0 0 0)) (hF.at 0 rfl) rfl) rfl rfl rfl rfl fun a hF=>?_
    refine E.opv hF (r_extract (v:= .int .i64 (osE 0 0 0)) (hF.at 1 rfl) rfl) rfl rfl rfl rfl fun a hF=>?_
    refine E.opv hF (r_assign (hF.at 1 rfl)) rfl rfl rfl rfl fun a hF=>?_
    refine E.opv hF (r_assign (hF.at 1 rfl)) rfl rfl rfl rfl fun a hF=>?_
    refine E.nil ?_
    refine wp_seq ?_
    refine E.seq ?_
    refine E.opv hF (r_load (hF.at 8 rfl) (ld_all ty_OSD (st.bk 0 rfl) rfl)) rfl rfl rfl rfl fun a hF=>?_
    refine E.opv hF (r_build (pair2 ev_c ev_c) (bd_OSD_12 _ _ _)) rfl rfl rfl rfl fun a hF=>?_
    refine E.opv hF (r_bin (hF.at 1 rfl) (hF.at 0 rfl) eg_OSD (es_OSD (dec_tt (by decide+kernel)))) rfl rfl rfl rfl fun a hF=>?_
    refine E.opv hF (r_move (hF.at 0 rfl)) rfl rfl rfl rfl fun a hF=>?_
    refine E.opvg hF (r_move (hF.at 11 rfl)) (wanted_by rfl rfl (hF.at 0 rfl) rfl) rfl rfl rfl fun a hF=>?_
    refine E.opvg hF (r_bin (hF.at 0 rfl) ev_c eg_scalar (bi_int (ic_eql (c:=false) (by decide)) (by simp))) (wanted_by rfl rfl (hF.at 1 rfl) rfl) rfl rfl rfl fun a hF=>?_
    refine E.opv hF (r_pick_t (hF.at 2 rfl) (hF.at 0 rfl)) rfl rfl rfl rfl fun a hF=>?_
    refine E.opv hF (r_move (hF.at 0 rfl)) rfl rfl rfl rfl fun a hF=>?_
    refine E.unwanted hF (wanted_by rfl rfl (hF.at 0 rfl) rfl) rfl rfl rfl fun a hF=>?_
    refine E.unwanted hF (wanted_by rfl rfl (hF.at 1 rfl) rfl) rfl rfl rfl fun a hF=>?_
    refine E.opv hF (r_pick_f (hF.at 2 rfl) ev_c) rfl rfl rfl rfl fun a hF=>?_
    refine E.opv hF (r_move (hF.at 0 rfl)) rfl rfl rfl rfl fun a hF=>?_
    refine E.unwanted hF (wanted_by rfl rfl (hF.at 0 rfl) rfl) rfl rfl rfl fun a hF=>?_
    refine E.unwanted hF (wanted_by rfl rfl (hF.at 1 rfl) rfl) rfl rfl rfl fun a hF=>?_
    refine E.opv hF (r_pick_f (hF.at 2 rfl) ev_c) rfl rfl rfl rfl fun a hF=>?_
    refine E.opv hF (r_move (hF.at 0 rfl)) rfl rfl rfl rfl fun a hF=>?_
    refine E.unwanted hF (wanted_by rfl rfl (hF.at 0 rfl) rfl) rfl rfl rfl fun a hF=>?_
    refine E.unwanted hF (wanted_by rfl rfl (hF.at 1 rfl) rfl) rfl rfl rfl fun a hF=>?_
    refine E.unwanted hF (wanted_by rfl rfl (hF.at 2 rfl) rfl) rfl rfl rfl fun a hF=>?_
    refine E.opv hF (r_pick_f (hF.at 3 rfl) ev_c) rfl rfl rfl rfl fun a hF=>?_
    refine E.opv hF (r_move (hF.at 0 rfl)) rfl rfl rfl rfl fun a hF=>?_
    refine E.unwanted hF (wanted_by rfl rfl (hF.at 0 rfl) rfl) rfl rfl rfl fun a hF=>?_
    refine E.unwanted hF (wanted_by rfl rfl (hF.at 1 rfl) rfl) rfl rfl rfl fun a hF=>?_
    refine E.unwanted hF (wanted_by rfl rfl (hF.at 2 rfl) rfl) rfl rfl rfl fun a hF=>?_
    refine E.opv hF (r_pick_f (hF.at 3 rfl) ev_c) rfl rfl rfl rfl fun a hF=>?_
    refine E.opset (L':=[(0,.bool false),(38,.bool false),(37,undef),(36,undef),(35,undef),(34,.bool false),(33,.bool false),(32,undef),(31,undef),(30,undef),(29,.bool false),(28,.bool false),(27,undef),(26,undef),(25,.bool false),(24,.bool false),(23,undef),(22,undef),(21,.bool false),(20,.bool false),(19,.bool false),(18,.int .i64 2),(17,.bool true),(16,.bool true),(15,.agg #[.int .i64 0,.int .i64 1,.int .i64 1]),(14,.agg #[.int .i64 0,.int .i64 0,.int .i64 0]),(4,.int .i64 (osE 0 0 0)),(3,.int .i64 (osN 0 0 0)),(13,.int .i64 (osE 0 0 0)),(12,.int .i64 (osN 0 0 0)),(9,.tuple #[.int .i64 (osN 0 0 0),.int .i64 (osE 0 0 0)]),(11,.tuple #[.int .i64 (osN 0 0 0),.int .i64 (osE 0 0 0)]),(10,.agg #[.int .i64 0,.int .i64 0,.int .i64 0]),(2,.int .i64 2),(1,.pointer (some ⟨g1,0,none⟩)),(8,.int .i64 2),(7,.agg #[.int .i64 0,.int .i64 0,.int .i64 0]),(5,.tuple #[.agg #[.int .i64 0,.int .i64 0,.int .i64 0],.int .i64 2]),(6,.tuple #[.agg #[.int .i64 0,.int .i64 0,.int .i64 0],.int .i64 2])]) hF (r_assign (hF.at 0 rfl)) rfl rfl rfl rfl fun a hF=>?_
    refine E.nil ?_
    refine wp_ret ?_
    have bel:=st.bel
    refine bodyPost_ret (res_tmp Try.results13 (hF.at 0 rfl)) hF.dfr ?_
    exact⟨rfl,bel⟩)
theorem oldsunDays_walk (n:Int) (w:World) (hn0: -9223372036854775808≤n) (hn1:n≤9223372036854775807):
 Calls Try.prog 3 #[.int .i64 n] w (ValPost w (.bool true)):=by
 have st:=St.start w
 refine E.enter (nt:=77) (L:=[(0,.int .i64 n)]) Try.func3 rfl rfl rfl (args_cons (i:=0) rfl args_nil) ?_
 intro a hF
 refine wp_seq ?_
 refine E.seq ?_
 refine E.opv hF (r_assign ev_c) rfl rfl rfl rfl fun a hF=>?_
 refine E.nil ?_
 refine wp_seq ?_
 refine wp_seq ?_
 refine E.seq ?_
 refine S.callx st hF (r_call Try.func13 en13.1 en13.2 map0) (awake16_any _) rfl rfl rfl rfl fun w1 a st hF=>?_
 refine E.opv hF (r_un (hF.at 0 rfl) (bn_not _ false rfl)) rfl rfl rfl rfl fun a hF=>?_
 refine E.nil ?_
 refine wp_cond_false (hF.at 0 rfl) ?_
 refine wp_skip ?_
 refine E.norm ?_
 refine wp_seq ?_
 refine E.seq ?_
 refine E.opv hF (r_move (hF.at 3 rfl)) rfl rfl rfl rfl fun a hF=>?_
 by_cases hc2: -3000000≤n∧n≤3000000
 ·first
  |(exfalso;omega)
  |(refine S.callx st hF (r_call Try.func14 en14.1 en14.2 (map1 (hF.at 0 rfl))) (osOf_any n _ (by omega) (by omega)) rfl rfl rfl rfl fun w3 a st hF=>?_
    have hob2:=osM_in (n:=n) (by omega) (by omega)
    have hod2:=osD_bd (n)
    have hth:=os_there (n:=n) (by omega) (by omega)
    have hpb: -30000000000≤osP n∧osP n≤30000000000:=by unfold osP;omega
    refine E.opv hF (r_move (hF.at 0 rfl)) rfl rfl rfl rfl fun a hF=>?_
    refine E.opv hF (r_extract (v:= .agg #[.int .i64 (osM n/12),.int .i64 (osM n%12+1),.int .i64 (osD n)]) (hF.at 0 rfl) rfl) rfl rfl rfl rfl fun a hF=>?_
    refine E.opv hF (r_extract (v:= .int .i64 0) (hF.at 1 rfl) rfl) rfl rfl rfl rfl fun a hF=>?_
    refine S.new st hF 1 rfl ty_OSD rfl rfl rfl rfl rfl fun g3 w4 a st hF=>?_
    refine E.opv hF (r_assign (hF.at 1 rfl)) rfl rfl rfl rfl fun a hF=>?_
    refine E.nil ?_
    refine wp_seq ?_
    refine wp_seq ?_
    refine E.seq ?_
    refine E.opv hF (r_move (hF.at 10 rfl)) rfl rfl rfl rfl fun a hF=>?_
    by_cases hc5:n<(-3000000)
    ·first
     |(exfalso;omega)
     |(refine E.opv hF (r_bin (hF.at 0 rfl) ev_c eg_scalar (bi_int (ic_lss (c:=true) (dec_tt hc5)) (by simp))) rfl rfl rfl rfl fun a hF=>?_
       refine E.opv hF (r_move (hF.at 0 rfl)) rfl rfl rfl rfl fun a hF=>?_
       refine E.unwanted hF (wanted_by rfl rfl (hF.at 0 rfl) rfl) rfl rfl rfl fun a hF=>?_
       refine E.unwanted hF (wanted_by rfl rfl (hF.at 1 rfl) rfl) rfl rfl rfl fun a hF=>?_
       refine E.opv hF (r_pick_t (hF.at 2 rfl) ev_c) rfl rfl rfl rfl fun a hF=>?_
       refine E.nil ?_
       refine wp_cond_true (hF.at 0 rfl) ?_
       refine wp_seq ?_
       refine E.seq ?_
       refine E.opv hF (r_move (hF.at 6 rfl)) rfl rfl rfl rfl fun a hF=>?_
       refine E.opv hF (r_bin (hF.at 0 rfl) ev_c eg_scalar (bi_int (ic_eql (c:=false) (by decide)) (by simp))) rfl rfl rfl rfl fun a hF=>?_
       refine E.opv hF (r_move (hF.at 0 rfl)) rfl rfl rfl rfl fun a hF=>?_
       refine E.unwanted hF (wanted_by rfl rfl (hF.at 0 rfl) rfl) rfl rfl rfl fun a hF=>?_
       refine E.unwanted hF (wanted_by rfl rfl (hF.at 1 rfl) rfl) rfl rfl rfl fun a hF=>?_
       refine E.unwanted hF (wanted_by rfl rfl (hF.at 2 rfl) rfl) rfl rfl rfl fun a hF=>?_
       refine E.opv hF (r_pick_f (hF.at 3 rfl) ev_c) rfl rfl rfl rfl fun a hF=>?_
       refine E.opv hF (r_move (hF.at 0 rfl)) rfl rfl rfl rfl fun a hF=>?_
       refine E.unwanted hF (wanted_by rfl rfl (hF.at 0 rfl) rfl) rfl rfl rfl fun a hF=>?_
       refine E.unwanted hF (wanted_by rfl rfl (hF.at 1 rfl) rfl) rfl rfl rfl fun a hF=>?_
       refine E.unwanted hF (wanted_by rfl rfl (hF.at 2 rfl) rfl) rfl rfl rfl fun a hF=>?_
       refine E.opv hF (r_pick_f (hF.at 3 rfl) ev_c) rfl rfl rfl rfl fun a hF=>?_
       refine E.opset (L':=[(2,.bool false),(34,.bool false),(33,undef),(32,undef),(31,undef),(30,.bool false),(29,.bool false),(28,undef),(27,undef),(26,undef),(25,.bool false),(24,.bool false),(23,.int .i64 0),(22,.bool true),(21,undef),(20,undef),(19,.bool true),(18,.bool true),(17,.int .i64 n),(4,.int .i64 0),(3,.pointer (some ⟨g3,0,none⟩)),(16,.int .i64 0),(15,.agg #[.int .i64 (osM n/12),.int .i64 (osM n%12+1),.int .i64 (osD n)]),(12,.tuple #[.agg #[.int .i64 (osM n/12),.int .i64 (osM n%12+1),.int .i64 (osD n)],.int .i64 0]),(14,.tuple #[.agg #[.int .i64 (osM n/12),.int .i64 (osM n%12+1),.int .i64 (osD n)],.int .i64 0]),(13,.int .i64 n),(11,.bool false),(10,.bool true),(0,.int .i64 n)]) hF (r_assign (hF.at 0 rfl)) rfl rfl rfl rfl fun a hF=>?_
       refine E.nil ?_
       refine wp_ret ?_
       have bel:=st.bel
       refine bodyPost_ret (res_tmp Try.results3 (hF.at 0 rfl)) hF.dfr ?_
       exact⟨rfl,bel⟩)
    ·first
     |(exfalso;omega)
     |(refine E.opv hF (r_bin (hF.at 0 rfl) ev_c eg_scalar (bi_int (ic_lss (c:=false) (dec_ff hc5)) (by simp))) rfl rfl rfl rfl fun a hF=>?_
       refine E.opv hF (r_move (hF.at 0 rfl)) rfl rfl rfl rfl fun a hF=>?_
       refine E.opvg hF (r_move (hF.at 13 rfl)) (wanted_by rfl rfl (hF.at 0 rfl) rfl) rfl rfl rfl fun a hF=>?_
       by_cases hc6:3000000<n
       ·first
        |(exfalso;omega)
        |(refine E.opvg hF (r_bin (hF.at 0 rfl) ev_c eg_scalar (bi_int (ic_gtr (c:=true) (dec_tt hc6)) (by simp))) (wanted_by rfl rfl (hF.at 1 rfl) rfl) rfl rfl rfl fun a hF=>?_
          refine E.opv hF (r_pick_f (hF.at 2 rfl) (hF.at 0 rfl)) rfl rfl rfl rfl fun a hF=>?_
          refine E.nil ?_
          refine wp_cond_true (hF.at 0 rfl) ?_
          refine wp_seq ?_
          refine E.seq ?_
          refine E.opv hF (r_move (hF.at 6 rfl)) rfl rfl rfl rfl fun a hF=>?_
          refine E.opv hF (r_bin (hF.at 0 rfl) ev_c eg_scalar (bi_int (ic_eql (c:=false) (by decide)) (by simp))) rfl rfl rfl rfl fun a hF=>?_
          refine E.opv hF (r_move (hF.at 0 rfl)) rfl rfl rfl rfl fun a hF=>?_
          refine E.unwanted hF (wanted_by rfl rfl (hF.at 0 rfl) rfl) rfl rfl rfl fun a hF=>?_
          refine E.unwanted hF (wanted_by rfl rfl (hF.at 1 rfl) rfl) rfl rfl rfl fun a hF=>?_
          refine E.unwanted hF (wanted_by rfl rfl (hF.at 2 rfl) rfl) rfl rfl rfl fun a hF=>?_
          refine E.opv hF (r_pick_f (hF.at 3 rfl) ev_c) rfl rfl rfl rfl fun a hF=>?_
          refine E.opv hF (r_move (hF.at 0 rfl)) rfl rfl rfl rfl fun a hF=>?_
          refine E.unwanted hF (wanted_by rfl rfl (hF.at 0 rfl) rfl) rfl rfl rfl fun a hF=>?_
          refine E.unwanted hF (wanted_by rfl rfl (hF.at 1 rfl) rfl) rfl rfl rfl fun a hF=>?_
          refine E.unwanted hF (wanted_by rfl rfl (hF.at 2 rfl) rfl) rfl rfl rfl fun a hF=>?_
          refine E.opv hF (r_pick_f (hF.at 3 rfl) ev_c) rfl rfl rfl rfl fun a hF=>?_
          refine E.opset (L':=[(2,.bool false),(34,.bool false),(33,undef),(32,undef),(31,undef),(30,.bool false),(29,.bool false),(28,undef),(27,undef),(26,undef),(25,.bool false),(24,.bool false),(23,.int .i64 0),(22,.bool true),(21,.bool true),(20,.int .i64 n),(19,.bool false),(18,.bool false),(17,.int .i64 n),(4,.int .i64 0),(3,.pointer (some ⟨g3,0,none⟩)),(16,.int .i64 0),(15,.agg #[.int .i64 (osM n/12),.int .i64 (osM n%12+1),.int .i64 (osD n)]),(12,.tuple #[.agg #[.int .i64 (osM n/12),.int .i64 (osM n%12+1),.int .i64 (osD n)],.int .i64 0]),(14,.tuple #[.agg #[.int .i64 (osM n/12),.int .i64 (osM n%12+1),.int .i64 (osD n)],.int .i64 0]),(13,.int .i64 n),(11,.bool false),(10,.bool true),(0,.int .i64 n)]) hF (r_assign (hF.at 0 rfl)) rfl rfl rfl rfl fun a hF=>?_
          refine E.nil ?_
          refine wp_ret ?_
          have bel:=st.bel
          refine bodyPost_ret (res_tmp Try.results3 (hF.at 0 rfl)) hF.dfr ?_
          exact⟨rfl,bel⟩)
       ·first
        |(exfalso;omega)
        |(refine E.opvg hF (r_bin (hF.at 0 rfl) ev_c eg_scalar (bi_int (ic_gtr (c:=false) (dec_ff hc6)) (by simp))) (wanted_by rfl rfl (hF.at 1 rfl) rfl) rfl rfl rfl fun a hF=>?_
          refine E.opv hF (r_pick_f (hF.at 2 rfl) (hF.at 0 rfl)) rfl rfl rfl rfl fun a hF=>?_
          refine E.nil ?_
          refine wp_cond_false (hF.at 0 rfl) ?_
          refine wp_skip ?_
          refine E.norm ?_
          refine wp_seq ?_
          refine E.seq ?_
          refine E.opv hF (r_move (hF.at 16 rfl)) rfl rfl rfl rfl fun a hF=>?_
          refine S.callx st hF (r_call Try.func16 en16.1 en16.2 (map1 (hF.at 0 rfl))) (r16of_any n _ (by omega) (by omega)) rfl rfl rfl rfl fun w7 a st hF=>?_
          refine E.opv hF (r_move (hF.at 0 rfl)) rfl rfl rfl rfl fun a hF=>?_
          refine E.opv hF (r_extract (v:= .int .i64 (osM n/12)) (hF.at 0 rfl) rfl) rfl rfl rfl rfl fun a hF=>?_
          refine E.opv hF (r_extract (v:= .int .i64 (osM n%12+1)) (hF.at 1 rfl) rfl) rfl rfl rfl rfl fun a hF=>?_
          refine E.opv hF (r_extract (v:= .int .i64 (osD n)) (hF.at 2 rfl) rfl) rfl rfl rfl rfl fun a hF=>?_
          refine E.opv hF (r_assign (hF.at 2 rfl)) rfl rfl rfl rfl fun a hF=>?_
          refine E.opv hF (r_assign (hF.at 2 rfl)) rfl rfl rfl rfl fun a hF=>?_
          refine E.opv hF (r_assign (hF.at 2 rfl)) rfl rfl rfl rfl fun a hF=>?_
          refine E.nil ?_
          refine wp_seq ?_
          refine E.seq ?_
          refine E.opv hF (r_load (hF.at 16 rfl) (ld_all ty_OSD (st.bk 0 rfl) rfl)) rfl rfl rfl rfl fun a hF=>?_
          refine S.callx st hF (r_call Try.func17 en17.1 en17.2 (map1 (hF.at 0 rfl))) (osFixed_any (osM n/12) (osM n%12+1) (osD n) _) rfl rfl rfl rfl fun w8 a st hF=>?_
          refine E.opv hF (r_move (hF.at 0 rfl)) rfl rfl rfl rfl fun a hF=>?_
          refine E.opv hF (r_extract (v:= .int .i64 (osN (osM n/12) (osM n%12+1) (osD n))) (hF.at 0 rfl) rfl) rfl rfl rfl rfl fun a hF=>?_
          refine E.opv hF (r_extract (v:= .int .i64 (osE (osM n/12) (osM n%12+1) (osD n))) (hF.at 1 rfl) rfl) rfl rfl rfl rfl fun a hF=>?_
          refine E.opv hF (r_assign (hF.at 1 rfl)) rfl rfl rfl rfl fun a hF=>?_
          refine E.opv hF (r_assign (hF.at 1 rfl)) rfl rfl rfl rfl fun a hF=>?_
          refine E.nil ?_
          refine wp_seq ?_
          refine E.seq ?_
          refine E.opv hF (r_move (hF.at 22 rfl)) rfl rfl rfl rfl fun a hF=>?_
          refine E.opv hF (r_bin (hF.at 0 rfl) ev_c eg_scalar (bi_int (ic_eql (c:=true) (by decide)) (by simp))) rfl rfl rfl rfl fun a hF=>?_
          refine E.opv hF (r_move (hF.at 0 rfl)) rfl rfl rfl rfl fun a hF=>?_
          refine E.opvg hF (r_load (hF.at 26 rfl) (ld_all ty_OSD (st.bk 0 rfl) rfl)) (wanted_by rfl rfl (hF.at 0 rfl) rfl) rfl rfl rfl fun a hF=>?_
          refine E.opvg hF (r_move (hF.at 13 rfl)) (wanted_by rfl rfl (hF.at 1 rfl) rfl) rfl rfl rfl fun a hF=>?_
          refine E.opvg hF (r_move (hF.at 13 rfl)) (wanted_by rfl rfl (hF.at 2 rfl) rfl) rfl rfl rfl fun a hF=>?_
          refine E.opvg hF (r_move (hF.at 13 rfl)) (wanted_by rfl rfl (hF.at 3 rfl) rfl) rfl rfl rfl fun a hF=>?_
          refine E.opvg hF (r_build (pair3 (hF.at 2 rfl) (hF.at 1 rfl) (hF.at 0 rfl)) (bd_OSD_012 _ _ _ _)) (wanted_by rfl rfl (hF.at 4 rfl) rfl) rfl rfl rfl fun a hF=>?_
          refine E.opvg hF (r_bin (hF.at 4 rfl) (hF.at 0 rfl) eg_OSD (es_OSD (dec_tt (by simp)))) (wanted_by rfl rfl (hF.at 5 rfl) rfl) rfl rfl rfl fun a hF=>?_
          refine E.opv hF (r_pick_t (hF.at 6 rfl) (hF.at 0 rfl)) rfl rfl rfl rfl fun a hF=>?_
          refine E.opv hF (r_move (hF.at 0 rfl)) rfl rfl rfl rfl fun a hF=>?_
          refine E.opvg hF (r_move (hF.at 12 rfl)) (wanted_by rfl rfl (hF.at 0 rfl) rfl) rfl rfl rfl fun a hF=>?_
          refine E.opvg hF (r_move (hF.at 44 rfl)) (wanted_by rfl rfl (hF.at 1 rfl) rfl) rfl rfl rfl fun a hF=>?_
          by_cases hc9:osN (osM n/12) (osM n%12+1) (osD n)=n
          ·first
           |(exfalso;omega)
           |(refine E.opvg hF (r_bin (hF.at 1 rfl) (hF.at 0 rfl) eg_scalar (bi_int (ic_eql (c:=true) (dec_tt hc9)) (by simp))) (wanted_by rfl rfl (hF.at 2 rfl) rfl) rfl rfl rfl fun a hF=>?_
             refine E.opv hF (r_pick_t (hF.at 3 rfl) (hF.at 0 rfl)) rfl rfl rfl rfl fun a hF=>?_
             refine E.opv hF (r_move (hF.at 0 rfl)) rfl rfl rfl rfl fun a hF=>?_
             refine E.opvg hF (r_move (hF.at 16 rfl)) (wanted_by rfl rfl (hF.at 0 rfl) rfl) rfl rfl rfl fun a hF=>?_
             by_cases hc10:osE (osM n/12) (osM n%12+1) (osD n)=0
             ·first
              |(exfalso;omega)
              |(refine E.opvg hF (r_bin (hF.at 0 rfl) ev_c eg_scalar (bi_int (ic_eql (c:=true) (dec_tt hc10)) (by simp))) (wanted_by rfl rfl (hF.at 1 rfl) rfl) rfl rfl rfl fun a hF=>?_
                refine E.opv hF (r_pick_t (hF.at 2 rfl) (hF.at 0 rfl)) rfl rfl rfl rfl fun a hF=>?_
                refine E.opv hF (r_move (hF.at 0 rfl)) rfl rfl rfl rfl fun a hF=>?_
                refine E.opvg hF (r_move (hF.at 52 rfl)) (wanted_by rfl rfl (hF.at 0 rfl) rfl) rfl rfl rfl fun a hF=>?_
                refine S.callxg st hF (wanted_by rfl rfl (hF.at 1 rfl) rfl) (r_call Try.func15 en15.1 en15.2 (map1 (hF.at 0 rfl))) (osIn_any n _ (by omega) (by omega)) rfl rfl rfl fun w11 a st hF=>?_
                refine E.opv hF (r_pick_t (hF.at 2 rfl) (hF.at 0 rfl)) rfl rfl rfl rfl fun a hF=>?_
                refine E.opv hF (r_move (hF.at 0 rfl)) rfl rfl rfl rfl fun a hF=>?_
                refine E.opvg hF (r_move (hF.at 56 rfl)) (wanted_by rfl rfl (hF.at 0 rfl) rfl) rfl rfl rfl fun a hF=>?_
                refine S.callg st hF (wanted_by rfl rfl (hF.at 1 rfl) rfl) (r_call Try.func18 en18.1 en18.2 (map1 (hF.at 0 rfl))) (osSun_any n _ (by omega) (by omega)) (fun _ _ h=>h) Rq.cl rfl rfl rfl fun vv13 w12 a st hF=>?_
                obtain⟨b15,ad15,n15,c15,ae15,m15,d15,rfl⟩:=Rq.form (st.f 0 rfl)
                refine E.opvg hF (r_move (hF.at 58 rfl)) (wanted_by rfl rfl (hF.at 2 rfl) rfl) rfl rfl rfl fun a hF=>?_
                refine S.callxg st hF (wanted_by rfl rfl (hF.at 3 rfl) rfl) (r_call Try.func21 en21.1 en21.2 (map1 (hF.at 0 rfl))) (r16parts_any n _ (by omega) (by omega)) rfl rfl rfl fun w16 a st hF=>?_
                refine S.callg st hF (wanted_by rfl rfl (hF.at 4 rfl) rfl) (r_call Try.func20 en20.1 en20.2 (map2 (hF.at 0 rfl) ev_c)) (rOf2_any (osP n) (6912) _ (by omega) (by omega) (by decide) (by decide)) (fun _ _ h=>h) Rq.cl rfl rfl rfl fun vv18 w17 a st hF=>?_
                obtain⟨b20,ad20,n20,c20,ae20,m20,d20,rfl⟩:=Rq.form (st.f 0 rfl)
                refine S.callxg st hF (wanted_by rfl rfl (hF.at 5 rfl) rfl) (r_call Try.func19 en19.1 en19.2 (map2 (hF.at 3 rfl) (hF.at 0 rfl))) (rSame_true _ _ (suR n) _ _ (st.f 1 rfl) (st.f 0 rfl) (su_same n)) rfl rfl rfl fun w21 a st hF=>?_
                refine E.opv hF (r_pick_t (hF.at 6 rfl) (hF.at 0 rfl)) rfl rfl rfl rfl fun a hF=>?_
                refine E.opset (L':=[(2,.bool true),(76,.bool true),(75,.bool true),(74,.agg #[.bool b20,.slice ad20 n20 c20,.slice ae20 m20 d20]),(73,.int .i64 (osP n)),(72,.int .i64 n),(71,.agg #[.bool b15,.slice ad15 n15 c15,.slice ae15 m15 d15]),(70,.int .i64 n),(69,.bool true),(68,.bool true),(67,.bool true),(66,.int .i64 n),(65,.bool true),(64,.bool true),(63,.bool true),(62,.int .i64 (osE (osM n/12) (osM n%12+1) (osD n))),(61,.bool true),(60,.bool true),(59,.bool true),(58,.int .i64 n),(57,.int .i64 (osN (osM n/12) (osM n%12+1) (osD n))),(56,.bool true),(55,.bool true),(54,.bool true),(53,.agg #[.int .i64 (osM n/12),.int .i64 (osM n%12+1),.int .i64 (osD n)]),(52,.int .i64 (osD n)),(51,.int .i64 (osM n%12+1)),(50,.int .i64 (osM n/12)),(49,.agg #[.int .i64 (osM n/12),.int .i64 (osM n%12+1),.int .i64 (osD n)]),(48,.bool true),(47,.bool true),(46,.int .i64 0),(9,.int .i64 (osE (osM n/12) (osM n%12+1) (osD n))),(8,.int .i64 (osN (osM n/12) (osM n%12+1) (osD n))),(45,.int .i64 (osE (osM n/12) (osM n%12+1) (osD n))),(44,.int .i64 (osN (osM n/12) (osM n%12+1) (osD n))),(41,.tuple #[.int .i64 (osN (osM n/12) (osM n%12+1) (osD n)),.int .i64 (osE (osM n/12) (osM n%12+1) (osD n))]),(43,.tuple #[.int .i64 (osN (osM n/12) (osM n%12+1) (osD n)),.int .i64 (osE (osM n/12) (osM n%12+1) (osD n))]),(42,.agg #[.int .i64 (osM n/12),.int .i64 (osM n%12+1),.int .i64 (osD n)]),(7,.int .i64 (osD n)),(6,.int .i64 (osM n%12+1)),(5,.int .i64 (osM n/12)),(40,.int .i64 (osD n)),(39,.int .i64 (osM n%12+1)),(38,.int .i64 (osM n/12)),(35,.tuple #[.int .i64 (osM n/12),.int .i64 (osM n%12+1),.int .i64 (osD n)]),(37,.tuple #[.int .i64 (osM n/12),.int .i64 (osM n%12+1),.int .i64 (osD n)]),(36,.int .i64 n),(22,.bool false),(21,.bool false),(20,.int .i64 n),(19,.bool false),(18,.bool false),(17,.int .i64 n),(4,.int .i64 0),(3,.pointer (some ⟨g3,0,none⟩)),(16,.int .i64 0),(15,.agg #[.int .i64 (osM n/12),.int .i64 (osM n%12+1),.int .i64 (osD n)]),(12,.tuple #[.agg #[.int .i64 (osM n/12),.int .i64 (osM n%12+1),.int .i64 (osD n)],.int .i64 0]),(14,.tuple #[.agg #[.int .i64 (osM n/12),.int .i64 (osM n%12+1),.int .i64 (osD n)],.int .i64 0]),(13,.int .i64 n),(11,.bool false),(10,.bool true),(0,.int .i64 n)]) hF (r_assign (hF.at 0 rfl)) rfl rfl rfl rfl fun a hF=>?_
                refine E.nil ?_
                refine wp_ret ?_
                have bel:=st.bel
                refine bodyPost_ret (res_tmp Try.results3 (hF.at 0 rfl)) hF.dfr ?_
                exact⟨rfl,bel⟩)
             ·first
              |(exfalso;omega)
              |(refine E.opvg hF (r_bin (hF.at 0 rfl) ev_c eg_scalar (bi_int (ic_eql (c:=false) (dec_ff hc10)) (by simp))) (wanted_by rfl rfl (hF.at 1 rfl) rfl) rfl rfl rfl fun a hF=>?_
                refine E.opv hF (r_pick_t (hF.at 2 rfl) (hF.at 0 rfl)) rfl rfl rfl rfl fun a hF=>?_
                refine E.opv hF (r_move (hF.at 0 rfl)) rfl rfl rfl rfl fun a hF=>?_
                refine E.unwanted hF (wanted_by rfl rfl (hF.at 0 rfl) rfl) rfl rfl rfl fun a hF=>?_
                refine E.unwanted hF (wanted_by rfl rfl (hF.at 1 rfl) rfl) rfl rfl rfl fun a hF=>?_
                refine E.opv hF (r_pick_f (hF.at 2 rfl) ev_c) rfl rfl rfl rfl fun a hF=>?_
                refine E.opv hF (r_move (hF.at 0 rfl)) rfl rfl rfl rfl fun a hF=>?_
                refine E.unwanted hF (wanted_by rfl rfl (hF.at 0 rfl) rfl) rfl rfl rfl fun a hF=>?_
                refine E.unwanted hF (wanted_by rfl rfl (hF.at 1 rfl) rfl) rfl rfl rfl fun a hF=>?_
                refine E.unwanted hF (wanted_by rfl rfl (hF.at 2 rfl) rfl) rfl rfl rfl fun a hF=>?_
                refine E.unwanted hF (wanted_by rfl rfl (hF.at 3 rfl) rfl) rfl rfl rfl fun a hF=>?_
                refine E.unwanted hF (wanted_by rfl rfl (hF.at 4 rfl) rfl) rfl rfl rfl fun a hF=>?_
                refine E.unwanted hF (wanted_by rfl rfl (hF.at 5 rfl) rfl) rfl rfl rfl fun a hF=>?_
                refine E.opv hF (r_pick_f (hF.at 6 rfl) ev_c) rfl rfl rfl rfl fun a hF=>?_
                refine E.opset (L':=[(2,.bool false),(76,.bool false),(75,undef),(74,undef),(73,undef),(72,undef),(71,undef),(70,undef),(69,.bool false),(68,.bool false),(67,undef),(66,undef),(65,.bool false),(64,.bool false),(63,.bool false),(62,.int .i64 (osE (osM n/12) (osM n%12+1) (osD n))),(61,.bool true),(60,.bool true),(59,.bool true),(58,.int .i64 n),(57,.int .i64 (osN (osM n/12) (osM n%12+1) (osD n))),(56,.bool true),(55,.bool true),(54,.bool true),(53,.agg #[.int .i64 (osM n/12),.int .i64 (osM n%12+1),.int .i64 (osD n)]),(52,.int .i64 (osD n)),(51,.int .i64 (osM n%12+1)),(50,.int .i64 (osM n/12)),(49,.agg #[.int .i64 (osM n/12),.int .i64 (osM n%12+1),.int .i64 (osD n)]),(48,.bool true),(47,.bool true),(46,.int .i64 0),(9,.int .i64 (osE (osM n/12) (osM n%12+1) (osD n))),(8,.int .i64 (osN (osM n/12) (osM n%12+1) (osD n))),(45,.int .i64 (osE (osM n/12) (osM n%12+1) (osD n))),(44,.int .i64 (osN (osM n/12) (osM n%12+1) (osD n))),(41,.tuple #[.int .i64 (osN (osM n/12) (osM n%12+1) (osD n)),.int .i64 (osE (osM n/12) (osM n%12+1) (osD n))]),(43,.tuple #[.int .i64 (osN (osM n/12) (osM n%12+1) (osD n)),.int .i64 (osE (osM n/12) (osM n%12+1) (osD n))]),(42,.agg #[.int .i64 (osM n/12),.int .i64 (osM n%12+1),.int .i64 (osD n)]),(7,.int .i64 (osD n)),(6,.int .i64 (osM n%12+1)),(5,.int .i64 (osM n/12)),(40,.int .i64 (osD n)),(39,.int .i64 (osM n%12+1)),(38,.int .i64 (osM n/12)),(35,.tuple #[.int .i64 (osM n/12),.int .i64 (osM n%12+1),.int .i64 (osD n)]),(37,.tuple #[.int .i64 (osM n/12),.int .i64 (osM n%12+1),.int .i64 (osD n)]),(36,.int .i64 n),(22,.bool false),(21,.bool false),(20,.int .i64 n),(19,.bool false),(18,.bool false),(17,.int .i64 n),(4,.int .i64 0),(3,.pointer (some ⟨g3,0,none⟩)),(16,.int .i64 0),(15,.agg #[.int .i64 (osM n/12),.int .i64 (osM n%12+1),.int .i64 (osD n)]),(12,.tuple #[.agg #[.int .i64 (osM n/12),.int .i64 (osM n%12+1),.int .i64 (osD n)],.int .i64 0]),(14,.tuple #[.agg #[.int .i64 (osM n/12),.int .i64 (osM n%12+1),.int .i64 (osD n)],.int .i64 0]),(13,.int .i64 n),(11,.bool false),(10,.bool true),(0,.int .i64 n)]) hF (r_assign (hF.at 0 rfl)) rfl rfl rfl rfl fun a hF=>?_
                refine E.nil ?_
                refine wp_ret ?_
                have bel:=st.bel
                refine bodyPost_ret (res_tmp Try.results3 (hF.at 0 rfl)) hF.dfr ?_
                exact⟨rfl,bel⟩))
          ·first
           |(exfalso;omega)
           |(refine E.opvg hF (r_bin (hF.at 1 rfl) (hF.at 0 rfl) eg_scalar (bi_int (ic_eql (c:=false) (dec_ff hc9)) (by simp))) (wanted_by rfl rfl (hF.at 2 rfl) rfl) rfl rfl rfl fun a hF=>?_
             refine E.opv hF (r_pick_t (hF.at 3 rfl) (hF.at 0 rfl)) rfl rfl rfl rfl fun a hF=>?_
             refine E.opv hF (r_move (hF.at 0 rfl)) rfl rfl rfl rfl fun a hF=>?_
             refine E.unwanted hF (wanted_by rfl rfl (hF.at 0 rfl) rfl) rfl rfl rfl fun a hF=>?_
             refine E.unwanted hF (wanted_by rfl rfl (hF.at 1 rfl) rfl) rfl rfl rfl fun a hF=>?_
             refine E.opv hF (r_pick_f (hF.at 2 rfl) ev_c) rfl rfl rfl rfl fun a hF=>?_
             refine E.opv hF (r_move (hF.at 0 rfl)) rfl rfl rfl rfl fun a hF=>?_
             refine E.unwanted hF (wanted_by rfl rfl (hF.at 0 rfl) rfl) rfl rfl rfl fun a hF=>?_
             refine E.unwanted hF (wanted_by rfl rfl (hF.at 1 rfl) rfl) rfl rfl rfl fun a hF=>?_
             refine E.opv hF (r_pick_f (hF.at 2 rfl) ev_c) rfl rfl rfl rfl fun a hF=>?_
             refine E.opv hF (r_move (hF.at 0 rfl)) rfl rfl rfl rfl fun a hF=>?_
             refine E.unwanted hF (wanted_by rfl rfl (hF.at 0 rfl) rfl) rfl rfl rfl fun a hF=>?_
             refine E.unwanted hF (wanted_by rfl rfl (hF.at 1 rfl) rfl) rfl rfl rfl fun a hF=>?_
             refine E.unwanted hF (wanted_by rfl rfl (hF.at 2 rfl) rfl) rfl rfl rfl fun a hF=>?_
             refine E.unwanted hF (wanted_by rfl rfl (hF.at 3 rfl) rfl) rfl rfl rfl fun a hF=>?_
             refine E.unwanted hF (wanted_by rfl rfl (hF.at 4 rfl) rfl) rfl rfl rfl fun a hF=>?_
             refine E.unwanted hF (wanted_by rfl rfl (hF.at 5 rfl) rfl) rfl rfl rfl fun a hF=>?_
             refine E.opv hF (r_pick_f (hF.at 6 rfl) ev_c) rfl rfl rfl rfl fun a hF=>?_
             refine E.opset (L':=[(2,.bool false),(76,.bool false),(75,undef),(74,undef),(73,undef),(72,undef),(71,undef),(70,undef),(69,.bool false),(68,.bool false),(67,undef),(66,undef),(65,.bool false),(64,.bool false),(63,undef),(62,undef),(61,.bool false),(60,.bool false),(59,.bool false),(58,.int .i64 n),(57,.int .i64 (osN (osM n/12) (osM n%12+1) (osD n))),(56,.bool true),(55,.bool true),(54,.bool true),(53,.agg #[.int .i64 (osM n/12),.int .i64 (osM n%12+1),.int .i64 (osD n)]),(52,.int .i64 (osD n)),(51,.int .i64 (osM n%12+1)),(50,.int .i64 (osM n/12)),(49,.agg #[.int .i64 (osM n/12),.int .i64 (osM n%12+1),.int .i64 (osD n)]),(48,.bool true),(47,.bool true),(46,.int .i64 0),(9,.int .i64 (osE (osM n/12) (osM n%12+1) (osD n))),(8,.int .i64 (osN (osM n/12) (osM n%12+1) (osD n))),(45,.int .i64 (osE (osM n/12) (osM n%12+1) (osD n))),(44,.int .i64 (osN (osM n/12) (osM n%12+1) (osD n))),(41,.tuple #[.int .i64 (osN (osM n/12) (osM n%12+1) (osD n)),.int .i64 (osE (osM n/12) (osM n%12+1) (osD n))]),(43,.tuple #[.int .i64 (osN (osM n/12) (osM n%12+1) (osD n)),.int .i64 (osE (osM n/12) (osM n%12+1) (osD n))]),(42,.agg #[.int .i64 (osM n/12),.int .i64 (osM n%12+1),.int .i64 (osD n)]),(7,.int .i64 (osD n)),(6,.int .i64 (osM n%12+1)),(5,.int .i64 (osM n/12)),(40,.int .i64 (osD n)),(39,.int .i64 (osM n%12+1)),(38,.int .i64 (osM n/12)),(35,.tuple #[.int .i64 (osM n/12),.int .i64 (osM n%12+1),.int .i64 (osD n)]),(37,.tuple #[.int .i64 (osM n/12),.int .i64 (osM n%12+1),.int .i64 (osD n)]),(36,.int .i64 n),(22,.bool false),(21,.bool false),(20,.int .i64 n),(19,.bool false),(18,.bool false),(17,.int .i64 n),(4,.int .i64 0),(3,.pointer (some ⟨g3,0,none⟩)),(16,.int .i64 0),(15,.agg #[.int .i64 (osM n/12),.int .i64 (osM n%12+1),.int .i64 (osD n)]),(12,.tuple #[.agg #[.int .i64 (osM n/12),.int .i64 (osM n%12+1),.int .i64 (osD n)],.int .i64 0]),(14,.tuple #[.agg #[.int .i64 (osM n/12),.int .i64 (osM n%12+1),.int .i64 (osD n)],.int .i64 0]),(13,.int .i64 n),(11,.bool false),(10,.bool true),(0,.int .i64 n)]) hF (r_assign (hF.at 0 rfl)) rfl rfl rfl rfl fun a hF=>?_
             refine E.nil ?_
             refine wp_ret ?_
             have bel:=st.bel
             refine bodyPost_ret (res_tmp Try.results3 (hF.at 0 rfl)) hF.dfr ?_
             exact⟨rfl,bel⟩))))
 ·first
  |(exfalso;omega)
  |(refine S.callx st hF (r_call Try.func14 en14.1 en14.2 (map1 (hF.at 0 rfl))) (osOfX_any n _ (by omega)) rfl rfl rfl rfl fun w22 a st hF=>?_
    refine E.opv hF (r_move (hF.at 0 rfl)) rfl rfl rfl rfl fun a hF=>?_
    refine E.opv hF (r_extract (v:= .agg #[.int .i64 0,.int .i64 0,.int .i64 0]) (hF.at 0 rfl) rfl) rfl rfl rfl rfl fun a hF=>?_
    refine E.opv hF (r_extract (v:= .int .i64 2) (hF.at 1 rfl) rfl) rfl rfl rfl rfl fun a hF=>?_
    refine S.new st hF 1 rfl ty_OSD rfl rfl rfl rfl rfl fun g3 w23 a st hF=>?_
    refine E.opv hF (r_assign (hF.at 1 rfl)) rfl rfl rfl rfl fun a hF=>?_
    refine E.nil ?_
    refine wp_seq ?_
    refine wp_seq ?_
    refine E.seq ?_
    refine E.opv hF (r_move (hF.at 10 rfl)) rfl rfl rfl rfl fun a hF=>?_
    by_cases hc24:n<(-3000000)
    ·first
     |(exfalso;omega)
     |(refine E.opv hF (r_bin (hF.at 0 rfl) ev_c eg_scalar (bi_int (ic_lss (c:=true) (dec_tt hc24)) (by simp))) rfl rfl rfl rfl fun a hF=>?_
       refine E.opv hF (r_move (hF.at 0 rfl)) rfl rfl rfl rfl fun a hF=>?_
       refine E.unwanted hF (wanted_by rfl rfl (hF.at 0 rfl) rfl) rfl rfl rfl fun a hF=>?_
       refine E.unwanted hF (wanted_by rfl rfl (hF.at 1 rfl) rfl) rfl rfl rfl fun a hF=>?_
       refine E.opv hF (r_pick_t (hF.at 2 rfl) ev_c) rfl rfl rfl rfl fun a hF=>?_
       refine E.nil ?_
       refine wp_cond_true (hF.at 0 rfl) ?_
       refine wp_seq ?_
       refine E.seq ?_
       refine E.opv hF (r_move (hF.at 6 rfl)) rfl rfl rfl rfl fun a hF=>?_
       refine E.opv hF (r_bin (hF.at 0 rfl) ev_c eg_scalar (bi_int (ic_eql (c:=true) (by decide)) (by simp))) rfl rfl rfl rfl fun a hF=>?_
       refine E.opv hF (r_move (hF.at 0 rfl)) rfl rfl rfl rfl fun a hF=>?_
       refine E.opvg hF (r_load (hF.at 10 rfl) (ld_all ty_OSD (st.bk 0 rfl) rfl)) (wanted_by rfl rfl (hF.at 0 rfl) rfl) rfl rfl rfl fun a hF=>?_
       refine E.opvg hF (r_build (by simp) (bd_OSD_ _)) (wanted_by rfl rfl (hF.at 1 rfl) rfl) rfl rfl rfl fun a hF=>?_
       refine E.opvg hF (r_bin (hF.at 1 rfl) (hF.at 0 rfl) eg_OSD (es_OSD (dec_tt (by simp)))) (wanted_by rfl rfl (hF.at 2 rfl) rfl) rfl rfl rfl fun a hF=>?_
       refine E.opv hF (r_pick_t (hF.at 3 rfl) (hF.at 0 rfl)) rfl rfl rfl rfl fun a hF=>?_
       refine E.opv hF (r_move (hF.at 0 rfl)) rfl rfl rfl rfl fun a hF=>?_
       refine E.opvg hF (r_move (hF.at 24 rfl)) (wanted_by rfl rfl (hF.at 0 rfl) rfl) rfl rfl rfl fun a hF=>?_
       refine S.callxg st hF (wanted_by rfl rfl (hF.at 1 rfl) rfl) (r_call Try.func15 en15.1 en15.2 (map1 (hF.at 0 rfl))) (osInX_any n _ (by omega)) rfl rfl rfl fun w25 a st hF=>?_
       refine E.opvg hF (r_un (hF.at 0 rfl) (bn_not _ true rfl)) (wanted_by rfl rfl (hF.at 2 rfl) rfl) rfl rfl rfl fun a hF=>?_
       refine E.opv hF (r_pick_t (hF.at 3 rfl) (hF.at 0 rfl)) rfl rfl rfl rfl fun a hF=>?_
       refine E.opset (L':=[(2,.bool true),(34,.bool true),(33,.bool true),(32,.bool false),(31,.int .i64 n),(30,.bool true),(29,.bool true),(28,.bool true),(27,.agg #[.int .i64 0,.int .i64 0,.int .i64 0]),(26,.agg #[.int .i64 0,.int .i64 0,.int .i64 0]),(25,.bool true),(24,.bool true),(23,.int .i64 2),(22,.bool true),(21,undef),(20,undef),(19,.bool true),(18,.bool true),(17,.int .i64 n),(4,.int .i64 2),(3,.pointer (some ⟨g3,0,none⟩)),(16,.int .i64 2),(15,.agg #[.int .i64 0,.int .i64 0,.int .i64 0]),(12,.tuple #[.agg #[.int .i64 0,.int .i64 0,.int .i64 0],.int .i64 2]),(14,.tuple #[.agg #[.int .i64 0,.int .i64 0,.int .i64 0],.int .i64 2]),(13,.int .i64 n),(11,.bool false),(10,.bool true),(0,.int .i64 n)]) hF (r_assign (hF.at 0 rfl)) rfl rfl rfl rfl fun a hF=>?_
       refine E.nil ?_
       refine wp_ret ?_
       have bel:=st.bel
       refine bodyPost_ret (res_tmp Try.results3 (hF.at 0 rfl)) hF.dfr ?_
       exact⟨rfl,bel⟩)
    ·first
     |(exfalso;omega)
     |(refine E.opv hF (r_bin (hF.at 0 rfl) ev_c eg_scalar (bi_int (ic_lss (c:=false) (dec_ff hc24)) (by simp))) rfl rfl rfl rfl fun a hF=>?_
       refine E.opv hF (r_move (hF.at 0 rfl)) rfl rfl rfl rfl fun a hF=>?_
       refine E.opvg hF (r_move (hF.at 13 rfl)) (wanted_by rfl rfl (hF.at 0 rfl) rfl) rfl rfl rfl fun a hF=>?_
       by_cases hc26:3000000<n
       ·first
        |(exfalso;omega)
        |(refine E.opvg hF (r_bin (hF.at 0 rfl) ev_c eg_scalar (bi_int (ic_gtr (c:=true) (dec_tt hc26)) (by simp))) (wanted_by rfl rfl (hF.at 1 rfl) rfl) rfl rfl rfl fun a hF=>?_
          refine E.opv hF (r_pick_f (hF.at 2 rfl) (hF.at 0 rfl)) rfl rfl rfl rfl fun a hF=>?_
          refine E.nil ?_
          refine wp_cond_true (hF.at 0 rfl) ?_
          refine wp_seq ?_
          refine E.seq ?_
          refine E.opv hF (r_move (hF.at 6 rfl)) rfl rfl rfl rfl fun a hF=>?_
          refine E.opv hF (r_bin (hF.at 0 rfl) ev_c eg_scalar (bi_int (ic_eql (c:=true) (by decide)) (by simp))) rfl rfl rfl rfl fun a hF=>?_
          refine E.opv hF (r_move (hF.at 0 rfl)) rfl rfl rfl rfl fun a hF=>?_
          refine E.opvg hF (r_load (hF.at 10 rfl) (ld_all ty_OSD (st.bk 0 rfl) rfl)) (wanted_by rfl rfl (hF.at 0 rfl) rfl) rfl rfl rfl fun a hF=>?_
          refine E.opvg hF (r_build (by simp) (bd_OSD_ _)) (wanted_by rfl rfl (hF.at 1 rfl) rfl) rfl rfl rfl fun a hF=>?_
          refine E.opvg hF (r_bin (hF.at 1 rfl) (hF.at 0 rfl) eg_OSD (es_OSD (dec_tt (by simp)))) (wanted_by rfl rfl (hF.at 2 rfl) rfl) rfl rfl rfl fun a hF=>?_
          refine E.opv hF (r_pick_t (hF.at 3 rfl) (hF.at 0 rfl)) rfl rfl rfl rfl fun a hF=>?_
          refine E.opv hF (r_move (hF.at 0 rfl)) rfl rfl rfl rfl fun a hF=>?_
          refine E.opvg hF (r_move (hF.at 24 rfl)) (wanted_by rfl rfl (hF.at 0 rfl) rfl) rfl rfl rfl fun a hF=>?_
          refine S.callxg st hF (wanted_by rfl rfl (hF.at 1 rfl) rfl) (r_call Try.func15 en15.1 en15.2 (map1 (hF.at 0 rfl))) (osInX_any n _ (by omega)) rfl rfl rfl fun w27 a st hF=>?_
          refine E.opvg hF (r_un (hF.at 0 rfl) (bn_not _ true rfl)) (wanted_by rfl rfl (hF.at 2 rfl) rfl) rfl rfl rfl fun a hF=>?_
          refine E.opv hF (r_pick_t (hF.at 3 rfl) (hF.at 0 rfl)) rfl rfl rfl rfl fun a hF=>?_
          refine E.opset (L':=[(2,.bool true),(34,.bool true),(33,.bool true),(32,.bool false),(31,.int .i64 n),(30,.bool true),(29,.bool true),(28,.bool true),(27,.agg #[.int .i64 0,.int .i64 0,.int .i64 0]),(26,.agg #[.int .i64 0,.int .i64 0,.int .i64 0]),(25,.bool true),(24,.bool true),(23,.int .i64 2),(22,.bool true),(21,.bool true),(20,.int .i64 n),(19,.bool false),(18,.bool false),(17,.int .i64 n),(4,.int .i64 2),(3,.pointer (some ⟨g3,0,none⟩)),(16,.int .i64 2),(15,.agg #[.int .i64 0,.int .i64 0,.int .i64 0]),(12,.tuple #[.agg #[.int .i64 0,.int .i64 0,.int .i64 0],.int .i64 2]),(14,.tuple #[.agg #[.int .i64 0,.int .i64 0,.int .i64 0],.int .i64 2]),(13,.int .i64 n),(11,.bool false),(10,.bool true),(0,.int .i64 n)]) hF (r_assign (hF.at 0 rfl)) rfl rfl rfl rfl fun a hF=>?_
          refine E.nil ?_
          refine wp_ret ?_
          have bel:=st.bel
          refine bodyPost_ret (res_tmp Try.results3 (hF.at 0 rfl)) hF.dfr ?_
          exact⟨rfl,bel⟩)
       ·first
        |(exfalso;omega)
        |(refine E.opvg hF (r_bin (hF.at 0 rfl) ev_c eg_scalar (bi_int (ic_gtr (c:=false) (dec_ff hc26)) (by simp))) (wanted_by rfl rfl (hF.at 1 rfl) rfl) rfl rfl rfl fun a hF=>?_
          refine E.opv hF (r_pick_f (hF.at 2 rfl) (hF.at 0 rfl)) rfl rfl rfl rfl fun a hF=>?_
          refine E.nil ?_
          refine wp_cond_false (hF.at 0 rfl) ?_
          refine wp_skip ?_
          refine E.norm ?_
          refine wp_seq ?_
          refine E.seq ?_
          refine E.opv hF (r_move (hF.at 16 rfl)) rfl rfl rfl rfl fun a hF=>?_
          refine S.callx st hF (r_call Try.func16 en16.1 en16.2 (map1 (hF.at 0 rfl))) (r16of_any n _ (by omega) (by omega)) rfl rfl rfl rfl fun w28 a st hF=>?_
          refine E.opv hF (r_move (hF.at 0 rfl)) rfl rfl rfl rfl fun a hF=>?_
          refine E.opv hF (r_extract (v:= .int .i64 (osM n/12)) (hF.at 0 rfl) rfl) rfl rfl rfl rfl fun a hF=>?_
          refine E.opv hF (r_extract (v:= .int .i64 (osM n%12+1)) (hF.at 1 rfl) rfl) rfl rfl rfl rfl fun a hF=>?_
          refine E.opv hF (r_extract (v:= .int .i64 (osD n)) (hF.at 2 rfl) rfl) rfl rfl rfl rfl fun a hF=>?_
          refine E.opv hF (r_assign (hF.at 2 rfl)) rfl rfl rfl rfl fun a hF=>?_
          refine E.opv hF (r_assign (hF.at 2 rfl)) rfl rfl rfl rfl fun a hF=>?_
          refine E.opv hF (r_assign (hF.at 2 rfl)) rfl rfl rfl rfl fun a hF=>?_
          refine E.nil ?_
          refine wp_seq ?_
          refine E.seq ?_
          refine E.opv hF (r_load (hF.at 16 rfl) (ld_all ty_OSD (st.bk 0 rfl) rfl)) rfl rfl rfl rfl fun a hF=>?_
          refine S.callx st hF (r_call Try.func17 en17.1 en17.2 (map1 (hF.at 0 rfl))) (osFixed_any 0 0 0 _) rfl rfl rfl rfl fun w29 a st hF=>?_
          refine E.opv hF (r_move (hF.at 0 rfl)) rfl rfl rfl rfl fun a hF=>?_
          refine E.opv hF (r_extract (v:= .int .i64 (osN 0 0 0)) (hF.at 0 rfl) rfl) rfl rfl rfl rfl fun a hF=>?_
          refine E.opv hF (r_extract (v:= .int .i64 (osE 0 0 0)) (hF.at 1 rfl) rfl) rfl rfl rfl rfl fun a hF=>?_
          refine E.opv hF (r_assign (hF.at 1 rfl)) rfl rfl rfl rfl fun a hF=>?_
          refine E.opv hF (r_assign (hF.at 1 rfl)) rfl rfl rfl rfl fun a hF=>?_
          refine E.nil ?_
          refine wp_seq ?_
          refine E.seq ?_
          refine E.opv hF (r_move (hF.at 22 rfl)) rfl rfl rfl rfl fun a hF=>?_
          refine E.opv hF (r_bin (hF.at 0 rfl) ev_c eg_scalar (bi_int (ic_eql (c:=false) (by decide)) (by simp))) rfl rfl rfl rfl fun a hF=>?_
          refine E.opv hF (r_move (hF.at 0 rfl)) rfl rfl rfl rfl fun a hF=>?_
          refine E.unwanted hF (wanted_by rfl rfl (hF.at 0 rfl) rfl) rfl rfl rfl fun a hF=>?_
          refine E.unwanted hF (wanted_by rfl rfl (hF.at 1 rfl) rfl) rfl rfl rfl fun a hF=>?_
          refine E.unwanted hF (wanted_by rfl rfl (hF.at 2 rfl) rfl) rfl rfl rfl fun a hF=>?_
          refine E.unwanted hF (wanted_by rfl rfl (hF.at 3 rfl) rfl) rfl rfl rfl fun a hF=>?_
          refine E.unwanted hF (wanted_by rfl rfl (hF.at 4 rfl) rfl) rfl rfl rfl fun a hF=>?_
          refine E.unwanted hF (wanted_by rfl rfl (hF.at 5 rfl) rfl) rfl rfl rfl fun a hF=>?_
          refine E.opv hF (r_pick_f (hF.at 6 rfl) ev_c) rfl rfl rfl rfl fun a hF=>?_
          refine E.opv hF (r_move (hF.at 0 rfl)) rfl rfl rfl rfl fun a hF=>?_
          refine E.unwanted hF (wanted_by rfl rfl (hF.at 0 rfl) rfl) rfl rfl rfl fun a hF=>?_
          refine E.unwanted hF (wanted_by rfl rfl (hF.at 1 rfl) rfl) rfl rfl rfl fun a hF=>?_
          refine E.unwanted hF (wanted_by rfl rfl (hF.at 2 rfl) rfl) rfl rfl rfl fun a hF=>?_
          refine E.opv hF (r_pick_f (hF.at 3 rfl) ev_c) rfl rfl rfl rfl fun a hF=>?_
          refine E.opv hF (r_move (hF.at 0 rfl)) rfl rfl rfl rfl fun a hF=>?_
          refine E.unwanted hF (wanted_by rfl rfl (hF.at 0 rfl) rfl) rfl rfl rfl fun a hF=>?_
          refine E.unwanted hF (wanted_by rfl rfl (hF.at 1 rfl) rfl) rfl rfl rfl fun a hF=>?_
          refine E.opv hF (r_pick_f (hF.at 2 rfl) ev_c) rfl rfl rfl rfl fun a hF=>?_
          refine E.opv hF (r_move (hF.at 0 rfl)) rfl rfl rfl rfl fun a hF=>?_
          refine E.unwanted hF (wanted_by rfl rfl (hF.at 0 rfl) rfl) rfl rfl rfl fun a hF=>?_
          refine E.unwanted hF (wanted_by rfl rfl (hF.at 1 rfl) rfl) rfl rfl rfl fun a hF=>?_
          refine E.opv hF (r_pick_f (hF.at 2 rfl) ev_c) rfl rfl rfl rfl fun a hF=>?_
          refine E.opv hF (r_move (hF.at 0 rfl)) rfl rfl rfl rfl fun a hF=>?_
          refine E.unwanted hF (wanted_by rfl rfl (hF.at 0 rfl) rfl) rfl rfl rfl fun a hF=>?_
          refine E.unwanted hF (wanted_by rfl rfl (hF.at 1 rfl) rfl) rfl rfl rfl fun a hF=>?_
          refine E.unwanted hF (wanted_by rfl rfl (hF.at 2 rfl) rfl) rfl rfl rfl fun a hF=>?_
          refine E.unwanted hF (wanted_by rfl rfl (hF.at 3 rfl) rfl) rfl rfl rfl fun a hF=>?_
          refine E.unwanted hF (wanted_by rfl rfl (hF.at 4 rfl) rfl) rfl rfl rfl fun a hF=>?_
          refine E.unwanted hF (wanted_by rfl rfl (hF.at 5 rfl) rfl) rfl rfl rfl fun a hF=>?_
          refine E.opv hF (r_pick_f (hF.at 6 rfl) ev_c) rfl rfl rfl rfl fun a hF=>?_
          refine E.opset (L':=[(2,.bool false),(76,.bool false),(75,undef),(74,undef),(73,undef),(72,undef),(71,undef),(70,undef),(69,.bool false),(68,.bool false),(67,undef),(66,undef),(65,.bool false),(64,.bool false),(63,undef),(62,undef),(61,.bool false),(60,.bool false),(59,undef),(58,undef),(57,undef),(56,.bool false),(55,.bool false),(54,undef),(53,undef),(52,undef),(51,undef),(50,undef),(49,undef),(48,.bool false),(47,.bool false),(46,.int .i64 2),(9,.int .i64 (osE 0 0 0)),(8,.int .i64 (osN 0 0 0)),(45,.int .i64 (osE 0 0 0)),(44,.int .i64 (osN 0 0 0)),(41,.tuple #[.int .i64 (osN 0 0 0),.int .i64 (osE 0 0 0)]),(43,.tuple #[.int .i64 (osN 0 0 0),.int .i64 (osE 0 0 0)]),(42,.agg #[.int .i64 0,.int .i64 0,.int .i64 0]),(7,.int .i64 (osD n)),(6,.int .i64 (osM n%12+1)),(5,.int .i64 (osM n/12)),(40,.int .i64 (osD n)),(39,.int .i64 (osM n%12+1)),(38,.int .i64 (osM n/12)),(35,.tuple #[.int .i64 (osM n/12),.int .i64 (osM n%12+1),.int .i64 (osD n)]),(37,.tuple #[.int .i64 (osM n/12),.int .i64 (osM n%12+1),.int .i64 (osD n)]),(36,.int .i64 n),(22,.bool false),(21,.bool false),(20,.int .i64 n),(19,.bool false),(18,.bool false),(17,.int .i64 n),(4,.int .i64 2),(3,.pointer (some ⟨g3,0,none⟩)),(16,.int .i64 2),(15,.agg #[.int .i64 0,.int .i64 0,.int .i64 0]),(12,.tuple #[.agg #[.int .i64 0,.int .i64 0,.int .i64 0],.int .i64 2]),(14,.tuple #[.agg #[.int .i64 0,.int .i64 0,.int .i64 0],.int .i64 2]),(13,.int .i64 n),(11,.bool false),(10,.bool true),(0,.int .i64 n)]) hF (r_assign (hF.at 0 rfl)) rfl rfl rfl rfl fun a hF=>?_
          refine E.nil ?_
          refine wp_ret ?_
          have bel:=st.bel
          refine bodyPost_ret (res_tmp Try.results3 (hF.at 0 rfl)) hF.dfr ?_
          exact⟨rfl,bel⟩)))
theorem oldsunDates_walk (y m d:Int) (w:World):
 Calls Try.prog 4 #[.int .i64 y,.int .i64 m,.int .i64 d] w (ValPost w (.bool true)):=by
 have heb:=osE_cases (min (max y (-20001)) 20001) m d
 have hec:=osE_cases y m d
 have hnb:=osN_bd (min (max y (-20001)) 20001) m d
 have st:=St.start w
 refine E.enter (nt:=38) (L:=[(0,.int .i64 y),(1,.int .i64 m),(2,.int .i64 d)]) Try.func4 rfl rfl rfl (args_cons (i:=0) rfl (args_cons (i:=1) rfl (args_cons (i:=2) rfl args_nil))) ?_
 intro a hF
 refine wp_seq ?_
 refine E.seq ?_
 refine E.opv hF (r_assign ev_c) rfl rfl rfl rfl fun a hF=>?_
 refine E.nil ?_
 refine wp_seq ?_
 refine wp_seq ?_
 refine E.seq ?_
 refine S.callx st hF (r_call Try.func13 en13.1 en13.2 map0) (awake16_any _) rfl rfl rfl rfl fun w1 a st hF=>?_
 refine E.opv hF (r_un (hF.at 0 rfl) (bn_not _ false rfl)) rfl rfl rfl rfl fun a hF=>?_
 refine E.nil ?_
 refine wp_cond_false (hF.at 0 rfl) ?_
 refine wp_skip ?_
 refine E.norm ?_
 refine wp_seq ?_
 refine E.seq ?_
 refine E.opv hF (r_move (hF.at 3 rfl)) rfl rfl rfl rfl fun a hF=>?_
 refine E.opv hF (r_move (hF.at 5 rfl)) rfl rfl rfl rfl fun a hF=>?_
 refine E.opv hF (r_move (hF.at 7 rfl)) rfl rfl rfl rfl fun a hF=>?_
 refine E.opv hF (r_build (pair3 (hF.at 2 rfl) (hF.at 1 rfl) (hF.at 0 rfl)) (bd_OSD_012 _ _ _ _)) rfl rfl rfl rfl fun a hF=>?_
 refine S.callx st hF (r_call Try.func17 en17.1 en17.2 (map1 (hF.at 0 rfl))) (osFixed_any y m d _) rfl rfl rfl rfl fun w2 a st hF=>?_
 refine E.opv hF (r_move (hF.at 0 rfl)) rfl rfl rfl rfl fun a hF=>?_
 refine E.opv hF (r_extract (v:= .int .i64 (osN y m d)) (hF.at 0 rfl) rfl) rfl rfl rfl rfl fun a hF=>?_
 refine E.opv hF (r_extract (v:= .int .i64 (osE y m d)) (hF.at 1 rfl) rfl) rfl rfl rfl rfl fun a hF=>?_
 refine E.opv hF (r_assign (hF.at 1 rfl)) rfl rfl rfl rfl fun a hF=>?_
 refine E.opv hF (r_assign (hF.at 1 rfl)) rfl rfl rfl rfl fun a hF=>?_
 refine E.nil ?_
 refine wp_seq ?_
 refine E.seq ?_
 refine E.opv hF (r_move (hF.at 13 rfl)) rfl rfl rfl rfl fun a hF=>?_
 refine E.opv hF (r_builtin (map2 (hF.at 0 rfl) ev_c) bl_max) rfl rfl rfl rfl fun a hF=>?_
 refine E.opv hF (r_builtin (map2 (hF.at 0 rfl) ev_c) bl_min) rfl rfl rfl rfl fun a hF=>?_
 refine E.opv hF (r_move (hF.at 17 rfl)) rfl rfl rfl rfl fun a hF=>?_
 refine E.opv hF (r_move (hF.at 19 rfl)) rfl rfl rfl rfl fun a hF=>?_
 refine S.callx st hF (r_call Try.func22 en22.1 en22.2 (map3 (hF.at 2 rfl) (hF.at 1 rfl) (hF.at 0 rfl))) (r16fix_any (min (max y (-20001)) 20001) m d _) rfl rfl rfl rfl fun w3 a st hF=>?_
 refine E.opv hF (r_move (hF.at 0 rfl)) rfl rfl rfl rfl fun a hF=>?_
 refine E.opv hF (r_extract (v:= .int .i64 (osN (min (max y (-20001)) 20001) m d)) (hF.at 0 rfl) rfl) rfl rfl rfl rfl fun a hF=>?_
 refine E.opv hF (r_extract (v:= .int .i64 (osE (min (max y (-20001)) 20001) m d)) (hF.at 1 rfl) rfl) rfl rfl rfl rfl fun a hF=>?_
 refine E.opv hF (r_assign (hF.at 1 rfl)) rfl rfl rfl rfl fun a hF=>?_
 refine E.opv hF (r_assign (hF.at 1 rfl)) rfl rfl rfl rfl fun a hF=>?_
 refine E.nil ?_
 refine wp_seq ?_
 refine E.seq ?_
 refine E.opv hF (r_move (hF.at 11 rfl)) rfl rfl rfl rfl fun a hF=>?_
 refine E.opv hF (r_move (hF.at 1 rfl)) rfl rfl rfl rfl fun a hF=>?_
 refine E.opv hF (r_bin (hF.at 1 rfl) (hF.at 0 rfl) eg_scalar (bi_int (ic_eql (c:=true) (dec_tt (os_clip _ _ _).2.symm)) (by simp))) rfl rfl rfl rfl fun a hF=>?_
 refine E.opv hF (r_move (hF.at 0 rfl)) rfl rfl rfl rfl fun a hF=>?_
 refine E.opvg hF (r_move (hF.at 16 rfl)) (wanted_by rfl rfl (hF.at 0 rfl) rfl) rfl rfl rfl fun a hF=>?_
 refine E.opvg hF (r_move (hF.at 6 rfl)) (wanted_by rfl rfl (hF.at 1 rfl) rfl) rfl rfl rfl fun a hF=>?_
 refine E.opvg hF (r_bin (hF.at 1 rfl) (hF.at 0 rfl) eg_scalar (bi_int (ic_eql (c:=true) (dec_tt (os_clip _ _ _).1.symm)) (by simp))) (wanted_by rfl rfl (hF.at 2 rfl) rfl) rfl rfl rfl fun a hF=>?_
 refine E.opv hF (r_pick_t (hF.at 3 rfl) (hF.at 0 rfl)) rfl rfl rfl rfl fun a hF=>?_
 refine E.opset (L':=[(6,.bool true),(37,.bool true),(36,.bool true),(35,.int .i64 (osN (min (max y (-20001)) 20001) m d)),(34,.int .i64 (osN y m d)),(33,.bool true),(32,.bool true),(31,.int .i64 (osE (min (max y (-20001)) 20001) m d)),(30,.int .i64 (osE y m d)),(10,.int .i64 (osE (min (max y (-20001)) 20001) m d)),(9,.int .i64 (osN (min (max y (-20001)) 20001) m d)),(29,.int .i64 (osE (min (max y (-20001)) 20001) m d)),(28,.int .i64 (osN (min (max y (-20001)) 20001) m d)),(21,.tuple #[.int .i64 (osN (min (max y (-20001)) 20001) m d),.int .i64 (osE (min (max y (-20001)) 20001) m d)]),(27,.tuple #[.int .i64 (osN (min (max y (-20001)) 20001) m d),.int .i64 (osE (min (max y (-20001)) 20001) m d)]),(26,.int .i64 d),(25,.int .i64 m),(24,.int .i64 (min (max y (-20001)) 20001)),(23,.int .i64 (max y (-20001))),(22,.int .i64 y),(8,.int .i64 (osE y m d)),(7,.int .i64 (osN y m d)),(20,.int .i64 (osE y m d)),(19,.int .i64 (osN y m d)),(13,.tuple #[.int .i64 (osN y m d),.int .i64 (osE y m d)]),(18,.tuple #[.int .i64 (osN y m d),.int .i64 (osE y m d)]),(17,.agg #[.int .i64 y,.int .i64 m,.int .i64 d]),(16,.int .i64 d),(15,.int .i64 m),(14,.int .i64 y),(12,.bool false),(11,.bool true),(0,.int .i64 y),(1,.int .i64 m),(2,.int .i64 d)]) hF (r_assign (hF.at 0 rfl)) rfl rfl rfl rfl fun a hF=>?_
 refine E.nil ?_
 refine wp_ret ?_
 have bel:=st.bel
 refine bodyPost_ret (res_tmp Try.results4 (hF.at 0 rfl)) hF.dfr ?_
 exact⟨rfl,bel⟩
theorem oldsunSteps_walk (n:Int) (w:World):
 Calls Try.prog 5 #[.int .i64 n] w (ValPost w (.bool true)):=by
 have st:=St.start w
 refine E.enter (nt:=93) (L:=[(0,.int .i64 n)]) Try.func5 rfl rfl rfl (args_cons (i:=0) rfl args_nil) ?_
 intro a hF
 refine wp_seq ?_
 refine E.seq ?_
 refine E.opv hF (r_assign ev_c) rfl rfl rfl rfl fun a hF=>?_
 refine E.nil ?_
 refine wp_seq ?_
 refine wp_seq ?_
 refine E.seq ?_
 refine S.callx st hF (r_call Try.func13 en13.1 en13.2 map0) (awake16_any _) rfl rfl rfl rfl fun w1 a st hF=>?_
 refine E.opv hF (r_un (hF.at 0 rfl) (bn_not _ false rfl)) rfl rfl rfl rfl fun a hF=>?_
 refine E.nil ?_
 refine wp_cond_false (hF.at 0 rfl) ?_
 refine wp_skip ?_
 refine E.norm ?_
 refine wp_seq ?_
 refine E.seq ?_
 refine E.opv hF (r_move (hF.at 3 rfl)) rfl rfl rfl rfl fun a hF=>?_
 refine S.callx st hF (r_call Try.func23 en23.1 en23.2 (map1 (hF.at 0 rfl))) (inD_any n _) rfl rfl rfl rfl fun w2 a st hF=>?_
 have hind:=inD_bd n
 refine E.opv hF (r_assign (hF.at 0 rfl)) rfl rfl rfl rfl fun a hF=>?_
 obtain⟨k,hk⟩:∃k:Int,k=inD n:=⟨_,rfl⟩
 rw[←hk] at hF hind
 have hst:=os_step k
 have hob:=osD_bd k
 refine E.nil ?_
 refine wp_seq ?_
 refine E.seq ?_
 refine E.opv hF (r_move (hF.at 0 rfl)) rfl rfl rfl rfl fun a hF=>?_
 by_cases hc3: -3000000≤k∧k≤3000000
 ·first
  |(exfalso;omega)
  |(refine S.callx st hF (r_call Try.func14 en14.1 en14.2 (map1 (hF.at 0 rfl))) (osOf_any k _ (by omega) (by omega)) rfl rfl rfl rfl fun w4 a st hF=>?_
    have hob3:=osM_in (n:=k) (by omega) (by omega)
    have hod3:=osD_bd (k)
    refine E.opv hF (r_move (hF.at 0 rfl)) rfl rfl rfl rfl fun a hF=>?_
    refine E.opv hF (r_extract (v:= .agg #[.int .i64 (osM k/12),.int .i64 (osM k%12+1),.int .i64 (osD k)]) (hF.at 0 rfl) rfl) rfl rfl rfl rfl fun a hF=>?_
    refine E.opv hF (r_extract (v:= .int .i64 0) (hF.at 1 rfl) rfl) rfl rfl rfl rfl fun a hF=>?_
    refine S.new st hF 1 rfl ty_OSD rfl rfl rfl rfl rfl fun g4 w5 a st hF=>?_
    refine E.opv hF (r_assign (hF.at 1 rfl)) rfl rfl rfl rfl fun a hF=>?_
    refine E.nil ?_
    refine wp_seq ?_
    refine E.seq ?_
    refine E.opv hF (r_move (hF.at 7 rfl)) rfl rfl rfl rfl fun a hF=>?_
    refine E.opv hF (r_bin (hF.at 0 rfl) ev_c eg_scalar (ia_add (by omega) (by omega))) rfl rfl rfl rfl fun a hF=>?_
    by_cases hc6: -3000000≤k+1∧k+1≤3000000
    ·first
     |(exfalso;omega)
     |(refine S.callx st hF (r_call Try.func14 en14.1 en14.2 (map1 (hF.at 0 rfl))) (osOf_any (k+1) _ (by omega) (by omega)) rfl rfl rfl rfl fun w7 a st hF=>?_
       have hob6:=osM_in (n:=k+1) (by omega) (by omega)
       have hod6:=osD_bd (k+1)
       refine E.opv hF (r_move (hF.at 0 rfl)) rfl rfl rfl rfl fun a hF=>?_
       refine E.opv hF (r_extract (v:= .agg #[.int .i64 (osM (k+1)/12),.int .i64 (osM (k+1)%12+1),.int .i64 (osD (k+1))]) (hF.at 0 rfl) rfl) rfl rfl rfl rfl fun a hF=>?_
       refine E.opv hF (r_extract (v:= .int .i64 0) (hF.at 1 rfl) rfl) rfl rfl rfl rfl fun a hF=>?_
       refine S.new st hF 1 rfl ty_OSD rfl rfl rfl rfl rfl fun g6 w8 a st hF=>?_
       refine E.opv hF (r_assign (hF.at 1 rfl)) rfl rfl rfl rfl fun a hF=>?_
       refine E.nil ?_
       refine wp_seq ?_
       refine wp_seq ?_
       refine E.seq ?_
       refine E.opv hF (r_move (hF.at 15 rfl)) rfl rfl rfl rfl fun a hF=>?_
       by_cases hc9:k=3000000
       ·first
        |(exfalso;omega)
        |(refine E.opv hF (r_bin (hF.at 0 rfl) ev_c eg_scalar (bi_int (ic_eql (c:=true) (dec_tt hc9)) (by simp))) rfl rfl rfl rfl fun a hF=>?_
          refine E.nil ?_
          refine wp_cond_true (hF.at 0 rfl) ?_
          refine wp_seq ?_
          refine E.seq ?_
          refine E.opv hF (r_move (hF.at 10 rfl)) rfl rfl rfl rfl fun a hF=>?_
          refine E.opv hF (r_bin (hF.at 0 rfl) ev_c eg_scalar (bi_int (ic_eql (c:=true) (by decide)) (by simp))) rfl rfl rfl rfl fun a hF=>?_
          refine E.opv hF (r_move (hF.at 0 rfl)) rfl rfl rfl rfl fun a hF=>?_
          refine E.opvg hF (r_move (hF.at 5 rfl)) (wanted_by rfl rfl (hF.at 0 rfl) rfl) rfl rfl rfl fun a hF=>?_
          refine E.opvg hF (r_bin (hF.at 0 rfl) ev_c eg_scalar (bi_int (ic_eql (c:=false) (by decide)) (by simp))) (wanted_by rfl rfl (hF.at 1 rfl) rfl) rfl rfl rfl fun a hF=>?_
          refine E.opv hF (r_pick_t (hF.at 2 rfl) (hF.at 0 rfl)) rfl rfl rfl rfl fun a hF=>?_
          refine E.opset (L':=[(2,.bool false),(30,.bool false),(29,.bool false),(28,.int .i64 0),(27,.bool true),(26,.bool true),(25,.int .i64 0),(24,.bool true),(23,.int .i64 k),(7,.int .i64 0),(6,.pointer (some ⟨g6,0,none⟩)),(22,.int .i64 0),(21,.agg #[.int .i64 (osM (k+1)/12),.int .i64 (osM (k+1)%12+1),.int .i64 (osD (k+1))]),(17,.tuple #[.agg #[.int .i64 (osM (k+1)/12),.int .i64 (osM (k+1)%12+1),.int .i64 (osD (k+1))],.int .i64 0]),(20,.tuple #[.agg #[.int .i64 (osM (k+1)/12),.int .i64 (osM (k+1)%12+1),.int .i64 (osD (k+1))],.int .i64 0]),(19,.int .i64 (k+1)),(18,.int .i64 k),(5,.int .i64 0),(4,.pointer (some ⟨g4,0,none⟩)),(16,.int .i64 0),(15,.agg #[.int .i64 (osM k/12),.int .i64 (osM k%12+1),.int .i64 (osD k)]),(12,.tuple #[.agg #[.int .i64 (osM k/12),.int .i64 (osM k%12+1),.int .i64 (osD k)],.int .i64 0]),(14,.tuple #[.agg #[.int .i64 (osM k/12),.int .i64 (osM k%12+1),.int .i64 (osD k)],.int .i64 0]),(13,.int .i64 k),(3,.int .i64 k),(11,.int .i64 k),(10,.int .i64 n),(9,.bool false),(8,.bool true),(0,.int .i64 n)]) hF (r_assign (hF.at 0 rfl)) rfl rfl rfl rfl fun a hF=>?_
          refine E.nil ?_
          refine wp_ret ?_
          have bel:=st.bel
          refine bodyPost_ret (res_tmp Try.results5 (hF.at 0 rfl)) hF.dfr ?_
          exfalso;omega)
       ·first
        |(exfalso;omega)
        |(refine E.opv hF (r_bin (hF.at 0 rfl) ev_c eg_scalar (bi_int (ic_eql (c:=false) (dec_ff hc9)) (by simp))) rfl rfl rfl rfl fun a hF=>?_
          refine E.nil ?_
          refine wp_cond_false (hF.at 0 rfl) ?_
          refine wp_skip ?_
          refine E.norm ?_
          refine wp_seq ?_
          refine wp_seq ?_
          refine E.seq ?_
          refine E.opv hF (r_move (hF.at 10 rfl)) rfl rfl rfl rfl fun a hF=>?_
          refine E.opv hF (r_bin (hF.at 0 rfl) ev_c eg_scalar (bi_int (ic_neq (c:=false) (by decide)) (by simp))) rfl rfl rfl rfl fun a hF=>?_
          refine E.opv hF (r_move (hF.at 0 rfl)) rfl rfl rfl rfl fun a hF=>?_
          refine E.opvg hF (r_move (hF.at 5 rfl)) (wanted_by rfl rfl (hF.at 0 rfl) rfl) rfl rfl rfl fun a hF=>?_
          refine E.opvg hF (r_bin (hF.at 0 rfl) ev_c eg_scalar (bi_int (ic_neq (c:=false) (by decide)) (by simp))) (wanted_by rfl rfl (hF.at 1 rfl) rfl) rfl rfl rfl fun a hF=>?_
          refine E.opv hF (r_pick_f (hF.at 2 rfl) (hF.at 0 rfl)) rfl rfl rfl rfl fun a hF=>?_
          refine E.nil ?_
          refine wp_cond_false (hF.at 0 rfl) ?_
          refine wp_skip ?_
          refine E.norm ?_
          refine wp_seq ?_
          refine wp_seq ?_
          refine E.seq ?_
          refine E.opv hF (r_field (hF.at 9 rfl) (fa_OSD_2 (p:=2) rfl)) rfl rfl rfl rfl fun a hF=>?_
          refine E.opv hF (r_load (hF.at 0 rfl) (ldb_int (v:= .int .i64 (osD (k+1))) (st.bk 0 rfl) rfl)) rfl rfl rfl rfl fun a hF=>?_
          refine E.opv hF (r_field (hF.at 19 rfl) (fa_OSD_2 (p:=2) rfl)) rfl rfl rfl rfl fun a hF=>?_
          refine E.opv hF (r_load (hF.at 0 rfl) (ldb_int (v:= .int .i64 (osD k)) (st.bk 1 rfl) rfl)) rfl rfl rfl rfl fun a hF=>?_
          refine E.opv hF (r_bin (hF.at 0 rfl) ev_c eg_scalar (ia_add (by omega) (by omega))) rfl rfl rfl rfl fun a hF=>?_
          by_cases hc10:osD (k+1)=(osD k)+1
          ·first
           |(exfalso;omega)
           |(refine E.opv hF (r_bin (hF.at 3 rfl) (hF.at 0 rfl) eg_scalar (bi_int (ic_eql (c:=true) (dec_tt hc10)) (by simp))) rfl rfl rfl rfl fun a hF=>?_
             refine E.nil ?_
             refine wp_cond_true (hF.at 0 rfl) ?_
             refine wp_seq ?_
             refine E.seq ?_
             refine E.opv hF (r_field (hF.at 15 rfl) (fa_OSD_0 (p:=0) rfl)) rfl rfl rfl rfl fun a hF=>?_
             refine E.opv hF (r_load (hF.at 0 rfl) (ldb_i64 (v:= .int .i64 (osM (k+1)/12)) (st.bk 0 rfl) rfl)) rfl rfl rfl rfl fun a hF=>?_
             refine E.opv hF (r_field (hF.at 25 rfl) (fa_OSD_0 (p:=0) rfl)) rfl rfl rfl rfl fun a hF=>?_
             refine E.opv hF (r_load (hF.at 0 rfl) (ldb_i64 (v:= .int .i64 (osM k/12)) (st.bk 1 rfl) rfl)) rfl rfl rfl rfl fun a hF=>?_
             by_cases hc11:osM (k+1)/12=osM k/12
             ·first
              |(exfalso;omega)
              |(refine E.opv hF (r_bin (hF.at 2 rfl) (hF.at 0 rfl) eg_scalar (bi_int (ic_eql (c:=true) (dec_tt hc11)) (by simp))) rfl rfl rfl rfl fun a hF=>?_
                refine E.opv hF (r_move (hF.at 0 rfl)) rfl rfl rfl rfl fun a hF=>?_
                refine E.opvg hF (r_field (hF.at 21 rfl) (fa_OSD_1 (p:=1) rfl)) (wanted_by rfl rfl (hF.at 0 rfl) rfl) rfl rfl rfl fun a hF=>?_
                refine E.opvg hF (r_load (hF.at 0 rfl) (ldb_int (v:= .int .i64 (osM (k+1)%12+1)) (st.bk 0 rfl) rfl)) (wanted_by rfl rfl (hF.at 1 rfl) rfl) rfl rfl rfl fun a hF=>?_
                refine E.opvg hF (r_field (hF.at 31 rfl) (fa_OSD_1 (p:=1) rfl)) (wanted_by rfl rfl (hF.at 2 rfl) rfl) rfl rfl rfl fun a hF=>?_
                refine E.opvg hF (r_load (hF.at 0 rfl) (ldb_int (v:= .int .i64 (osM k%12+1)) (st.bk 1 rfl) rfl)) (wanted_by rfl rfl (hF.at 3 rfl) rfl) rfl rfl rfl fun a hF=>?_
                by_cases hc12:osM (k+1)%12+1=osM k%12+1
                ·first
                 |(exfalso;omega)
                 |(refine E.opvg hF (r_bin (hF.at 2 rfl) (hF.at 0 rfl) eg_scalar (bi_int (ic_eql (c:=true) (dec_tt hc12)) (by simp))) (wanted_by rfl rfl (hF.at 4 rfl) rfl) rfl rfl rfl fun a hF=>?_
                   refine E.opv hF (r_pick_t (hF.at 5 rfl) (hF.at 0 rfl)) rfl rfl rfl rfl fun a hF=>?_
                   refine E.opv hF (r_move (hF.at 0 rfl)) rfl rfl rfl rfl fun a hF=>?_
                   refine E.opvg hF (r_field (hF.at 28 rfl) (fa_OSD_2 (p:=2) rfl)) (wanted_by rfl rfl (hF.at 0 rfl) rfl) rfl rfl rfl fun a hF=>?_
                   refine E.opvg hF (r_load (hF.at 0 rfl) (ldb_int (v:= .int .i64 (osD (k+1))) (st.bk 0 rfl) rfl)) (wanted_by rfl rfl (hF.at 1 rfl) rfl) rfl rfl rfl fun a hF=>?_
                   by_cases hc13:osD (k+1)≤31
                   ·first
                    |(exfalso;omega)
                    |(refine E.opvg hF (r_bin (hF.at 0 rfl) ev_c eg_scalar (bi_int (ic_leq (c:=true) (dec_tt hc13)) (by simp))) (wanted_by rfl rfl (hF.at 2 rfl) rfl) rfl rfl rfl fun a hF=>?_
                      refine E.opv hF (r_pick_t (hF.at 3 rfl) (hF.at 0 rfl)) rfl rfl rfl rfl fun a hF=>?_
                      refine E.opset (L':=[(2,.bool true),(59,.bool true),(58,.bool true),(57,.int .i64 (osD (k+1))),(56,.pointer (some ⟨g6,2,none⟩)),(55,.bool true),(54,.bool true),(53,.bool true),(52,.int .i64 (osM k%12+1)),(51,.pointer (some ⟨g4,1,none⟩)),(50,.int .i64 (osM (k+1)%12+1)),(49,.pointer (some ⟨g6,1,none⟩)),(48,.bool true),(47,.bool true),(46,.int .i64 (osM k/12)),(45,.pointer (some ⟨g4,0,none⟩)),(44,.int .i64 (osM (k+1)/12)),(43,.pointer (some ⟨g6,0,none⟩)),(42,.bool true),(41,.int .i64 ((osD k)+1)),(40,.int .i64 (osD k)),(39,.pointer (some ⟨g4,2,none⟩)),(38,.int .i64 (osD (k+1))),(37,.pointer (some ⟨g6,2,none⟩)),(36,.bool false),(35,.bool false),(34,.int .i64 0),(33,.bool false),(32,.bool false),(31,.int .i64 0),(24,.bool false),(23,.int .i64 k),(7,.int .i64 0),(6,.pointer (some ⟨g6,0,none⟩)),(22,.int .i64 0),(21,.agg #[.int .i64 (osM (k+1)/12),.int .i64 (osM (k+1)%12+1),.int .i64 (osD (k+1))]),(17,.tuple #[.agg #[.int .i64 (osM (k+1)/12),.int .i64 (osM (k+1)%12+1),.int .i64 (osD (k+1))],.int .i64 0]),(20,.tuple #[.agg #[.int .i64 (osM (k+1)/12),.int .i64 (osM (k+1)%12+1),.int .i64 (osD (k+1))],.int .i64 0]),(19,.int .i64 (k+1)),(18,.int .i64 k),(5,.int .i64 0),(4,.pointer (some ⟨g4,0,none⟩)),(16,.int .i64 0),(15,.agg #[.int .i64 (osM k/12),.int .i64 (osM k%12+1),.int .i64 (osD k)]),(12,.tuple #[.agg #[.int .i64 (osM k/12),.int .i64 (osM k%12+1),.int .i64 (osD k)],.int .i64 0]),(14,.tuple #[.agg #[.int .i64 (osM k/12),.int .i64 (osM k%12+1),.int .i64 (osD k)],.int .i64 0]),(13,.int .i64 k),(3,.int .i64 k),(11,.int .i64 k),(10,.int .i64 n),(9,.bool false),(8,.bool true),(0,.int .i64 n)]) hF (r_assign (hF.at 0 rfl)) rfl rfl rfl rfl fun a hF=>?_
                      refine E.nil ?_
                      refine wp_ret ?_
                      have bel:=st.bel
                      refine bodyPost_ret (res_tmp Try.results5 (hF.at 0 rfl)) hF.dfr ?_
                      exact⟨rfl,bel⟩)
                   ·first
                    |(exfalso;omega)
                    |(refine E.opvg hF (r_bin (hF.at 0 rfl) ev_c eg_scalar (bi_int (ic_leq (c:=false) (dec_ff hc13)) (by simp))) (wanted_by rfl rfl (hF.at 2 rfl) rfl) rfl rfl rfl fun a hF=>?_
                      refine E.opv hF (r_pick_t (hF.at 3 rfl) (hF.at 0 rfl)) rfl rfl rfl rfl fun a hF=>?_
                      refine E.opset (L':=[(2,.bool false),(59,.bool false),(58,.bool false),(57,.int .i64 (osD (k+1))),(56,.pointer (some ⟨g6,2,none⟩)),(55,.bool true),(54,.bool true),(53,.bool true),(52,.int .i64 (osM k%12+1)),(51,.pointer (some ⟨g4,1,none⟩)),(50,.int .i64 (osM (k+1)%12+1)),(49,.pointer (some ⟨g6,1,none⟩)),(48,.bool true),(47,.bool true),(46,.int .i64 (osM k/12)),(45,.pointer (some ⟨g4,0,none⟩)),(44,.int .i64 (osM (k+1)/12)),(43,.pointer (some ⟨g6,0,none⟩)),(42,.bool true),(41,.int .i64 ((osD k)+1)),(40,.int .i64 (osD k)),(39,.pointer (some ⟨g4,2,none⟩)),(38,.int .i64 (osD (k+1))),(37,.pointer (some ⟨g6,2,none⟩)),(36,.bool false),(35,.bool false),(34,.int .i64 0),(33,.bool false),(32,.bool false),(31,.int .i64 0),(24,.bool false),(23,.int .i64 k),(7,.int .i64 0),(6,.pointer (some ⟨g6,0,none⟩)),(22,.int .i64 0),(21,.agg #[.int .i64 (osM (k+1)/12),.int .i64 (osM (k+1)%12+1),.int .i64 (osD (k+1))]),(17,.tuple #[.agg #[.int .i64 (osM (k+1)/12),.int .i64 (osM (k+1)%12+1),.int .i64 (osD (k+1))],.int .i64 0]),(20,.tuple #[.agg #[.int .i64 (osM (k+1)/12),.int .i64 (osM (k+1)%12+1),.int .i64 (osD (k+1))],.int .i64 0]),(19,.int .i64 (k+1)),(18,.int .i64 k),(5,.int .i64 0),(4,.pointer (some ⟨g4,0,none⟩)),(16,.int .i64 0),(15,.agg #[.int .i64 (osM k/12),.int .i64 (osM k%12+1),.int .i64 (osD k)]),(12,.tuple #[.agg #[.int .i64 (osM k/12),.int .i64 (osM k%12+1),.int .i64 (osD k)],.int .i64 0]),(14,.tuple #[.agg #[.int .i64 (osM k/12),.int .i64 (osM k%12+1),.int .i64 (osD k)],.int .i64 0]),(13,.int .i64 k),(3,.int .i64 k),(11,.int .i64 k),(10,.int .i64 n),(9,.bool false),(8,.bool true),(0,.int .i64 n)]) hF (r_assign (hF.at 0 rfl)) rfl rfl rfl rfl fun a hF=>?_
                      refine E.nil ?_
                      refine wp_ret ?_
                      have bel:=st.bel
                      refine bodyPost_ret (res_tmp Try.results5 (hF.at 0 rfl)) hF.dfr ?_
                      exfalso;omega))
                ·first
                 |(exfalso;omega)
                 |(refine E.opvg hF (r_bin (hF.at 2 rfl) (hF.at 0 rfl) eg_scalar (bi_int (ic_eql (c:=false) (dec_ff hc12)) (by simp))) (wanted_by rfl rfl (hF.at 4 rfl) rfl) rfl rfl rfl fun a hF=>?_
                   refine E.opv hF (r_pick_t (hF.at 5 rfl) (hF.at 0 rfl)) rfl rfl rfl rfl fun a hF=>?_
                   refine E.opv hF (r_move (hF.at 0 rfl)) rfl rfl rfl rfl fun a hF=>?_
                   refine E.unwanted hF (wanted_by rfl rfl (hF.at 0 rfl) rfl) rfl rfl rfl fun a hF=>?_
                   refine E.unwanted hF (wanted_by rfl rfl (hF.at 1 rfl) rfl) rfl rfl rfl fun a hF=>?_
                   refine E.unwanted hF (wanted_by rfl rfl (hF.at 2 rfl) rfl) rfl rfl rfl fun a hF=>?_
                   refine E.opv hF (r_pick_f (hF.at 3 rfl) ev_c) rfl rfl rfl rfl fun a hF=>?_
                   refine E.opset (L':=[(2,.bool false),(59,.bool false),(58,undef),(57,undef),(56,undef),(55,.bool false),(54,.bool false),(53,.bool false),(52,.int .i64 (osM k%12+1)),(51,.pointer (some ⟨g4,1,none⟩)),(50,.int .i64 (osM (k+1)%12+1)),(49,.pointer (some ⟨g6,1,none⟩)),(48,.bool true),(47,.bool true),(46,.int .i64 (osM k/12)),(45,.pointer (some ⟨g4,0,none⟩)),(44,.int .i64 (osM (k+1)/12)),(43,.pointer (some ⟨g6,0,none⟩)),(42,.bool true),(41,.int .i64 ((osD k)+1)),(40,.int .i64 (osD k)),(39,.pointer (some ⟨g4,2,none⟩)),(38,.int .i64 (osD (k+1))),(37,.pointer (some ⟨g6,2,none⟩)),(36,.bool false),(35,.bool false),(34,.int .i64 0),(33,.bool false),(32,.bool false),(31,.int .i64 0),(24,.bool false),(23,.int .i64 k),(7,.int .i64 0),(6,.pointer (some ⟨g6,0,none⟩)),(22,.int .i64 0),(21,.agg #[.int .i64 (osM (k+1)/12),.int .i64 (osM (k+1)%12+1),.int .i64 (osD (k+1))]),(17,.tuple #[.agg #[.int .i64 (osM (k+1)/12),.int .i64 (osM (k+1)%12+1),.int .i64 (osD (k+1))],.int .i64 0]),(20,.tuple #[.agg #[.int .i64 (osM (k+1)/12),.int .i64 (osM (k+1)%12+1),.int .i64 (osD (k+1))],.int .i64 0]),(19,.int .i64 (k+1)),(18,.int .i64 k),(5,.int .i64 0),(4,.pointer (some ⟨g4,0,none⟩)),(16,.int .i64 0),(15,.agg #[.int .i64 (osM k/12),.int .i64 (osM k%12+1),.int .i64 (osD k)]),(12,.tuple #[.agg #[.int .i64 (osM k/12),.int .i64 (osM k%12+1),.int .i64 (osD k)],.int .i64 0]),(14,.tuple #[.agg #[.int .i64 (osM k/12),.int .i64 (osM k%12+1),.int .i64 (osD k)],.int .i64 0]),(13,.int .i64 k),(3,.int .i64 k),(11,.int .i64 k),(10,.int .i64 n),(9,.bool false),(8,.bool true),(0,.int .i64 n)]) hF (r_assign (hF.at 0 rfl)) rfl rfl rfl rfl fun a hF=>?_
                   refine E.nil ?_
                   refine wp_ret ?_
                   have bel:=st.bel
                   refine bodyPost_ret (res_tmp Try.results5 (hF.at 0 rfl)) hF.dfr ?_
                   exfalso;omega))
             ·first
              |(exfalso;omega)
              |(refine E.opv hF (r_bin (hF.at 2 rfl) (hF.at 0 rfl) eg_scalar (bi_int (ic_eql (c:=false) (dec_ff hc11)) (by simp))) rfl rfl rfl rfl fun a hF=>?_
                refine E.opv hF (r_move (hF.at 0 rfl)) rfl rfl rfl rfl fun a hF=>?_
                refine E.unwanted hF (wanted_by rfl rfl (hF.at 0 rfl) rfl) rfl rfl rfl fun a hF=>?_
                refine E.unwanted hF (wanted_by rfl rfl (hF.at 1 rfl) rfl) rfl rfl rfl fun a hF=>?_
                refine E.unwanted hF (wanted_by rfl rfl (hF.at 2 rfl) rfl) rfl rfl rfl fun a hF=>?_
                refine E.unwanted hF (wanted_by rfl rfl (hF.at 3 rfl) rfl) rfl rfl rfl fun a hF=>?_
                refine E.unwanted hF (wanted_by rfl rfl (hF.at 4 rfl) rfl) rfl rfl rfl fun a hF=>?_
                refine E.opv hF (r_pick_f (hF.at 5 rfl) ev_c) rfl rfl rfl rfl fun a hF=>?_
                refine E.opv hF (r_move (hF.at 0 rfl)) rfl rfl rfl rfl fun a hF=>?_
                refine E.unwanted hF (wanted_by rfl rfl (hF.at 0 rfl) rfl) rfl rfl rfl fun a hF=>?_
                refine E.unwanted hF (wanted_by rfl rfl (hF.at 1 rfl) rfl) rfl rfl rfl fun a hF=>?_
                refine E.unwanted hF (wanted_by rfl rfl (hF.at 2 rfl) rfl) rfl rfl rfl fun a hF=>?_
                refine E.opv hF (r_pick_f (hF.at 3 rfl) ev_c) rfl rfl rfl rfl fun a hF=>?_
                refine E.opset (L':=[(2,.bool false),(59,.bool false),(58,undef),(57,undef),(56,undef),(55,.bool false),(54,.bool false),(53,undef),(52,undef),(51,undef),(50,undef),(49,undef),(48,.bool false),(47,.bool false),(46,.int .i64 (osM k/12)),(45,.pointer (some ⟨g4,0,none⟩)),(44,.int .i64 (osM (k+1)/12)),(43,.pointer (some ⟨g6,0,none⟩)),(42,.bool true),(41,.int .i64 ((osD k)+1)),(40,.int .i64 (osD k)),(39,.pointer (some ⟨g4,2,none⟩)),(38,.int .i64 (osD (k+1))),(37,.pointer (some ⟨g6,2,none⟩)),(36,.bool false),(35,.bool false),(34,.int .i64 0),(33,.bool false),(32,.bool false),(31,.int .i64 0),(24,.bool false),(23,.int .i64 k),(7,.int .i64 0),(6,.pointer (some ⟨g6,0,none⟩)),(22,.int .i64 0),(21,.agg #[.int .i64 (osM (k+1)/12),.int .i64 (osM (k+1)%12+1),.int .i64 (osD (k+1))]),(17,.tuple #[.agg #[.int .i64 (osM (k+1)/12),.int .i64 (osM (k+1)%12+1),.int .i64 (osD (k+1))],.int .i64 0]),(20,.tuple #[.agg #[.int .i64 (osM (k+1)/12),.int .i64 (osM (k+1)%12+1),.int .i64 (osD (k+1))],.int .i64 0]),(19,.int .i64 (k+1)),(18,.int .i64 k),(5,.int .i64 0),(4,.pointer (some ⟨g4,0,none⟩)),(16,.int .i64 0),(15,.agg #[.int .i64 (osM k/12),.int .i64 (osM k%12+1),.int .i64 (osD k)]),(12,.tuple #[.agg #[.int .i64 (osM k/12),.int .i64 (osM k%12+1),.int .i64 (osD k)],.int .i64 0]),(14,.tuple #[.agg #[.int .i64 (osM k/12),.int .i64 (osM k%12+1),.int .i64 (osD k)],.int .i64 0]),(13,.int .i64 k),(3,.int .i64 k),(11,.int .i64 k),(10,.int .i64 n),(9,.bool false),(8,.bool true),(0,.int .i64 n)]) hF (r_assign (hF.at 0 rfl)) rfl rfl rfl rfl fun a hF=>?_
                refine E.nil ?_
                refine wp_ret ?_
                have bel:=st.bel
                refine bodyPost_ret (res_tmp Try.results5 (hF.at 0 rfl)) hF.dfr ?_
                exfalso;omega))
          ·first
           |(exfalso;omega)
           |(refine E.opv hF (r_bin (hF.at 3 rfl) (hF.at 0 rfl) eg_scalar (bi_int (ic_eql (c:=false) (dec_ff hc10)) (by simp))) rfl rfl rfl rfl fun a hF=>?_
             refine E.nil ?_
             refine wp_cond_false (hF.at 0 rfl) ?_
             refine wp_skip ?_
             refine E.norm ?_
             refine wp_seq ?_
             refine E.seq ?_
             refine E.opv hF (r_field (hF.at 15 rfl) (fa_OSD_2 (p:=2) rfl)) rfl rfl rfl rfl fun a hF=>?_
             refine E.opv hF (r_load (hF.at 0 rfl) (ldb_int (v:= .int .i64 (osD (k+1))) (st.bk 0 rfl) rfl)) rfl rfl rfl rfl fun a hF=>?_
             by_cases hc14:osD (k+1)=1
             ·first
              |(exfalso;omega)
              |(refine E.opv hF (r_bin (hF.at 0 rfl) ev_c eg_scalar (bi_int (ic_eql (c:=true) (dec_tt hc14)) (by simp))) rfl rfl rfl rfl fun a hF=>?_
                refine E.opv hF (r_move (hF.at 0 rfl)) rfl rfl rfl rfl fun a hF=>?_
                refine E.opvg hF (r_field (hF.at 27 rfl) (fa_OSD_2 (p:=2) rfl)) (wanted_by rfl rfl (hF.at 0 rfl) rfl) rfl rfl rfl fun a hF=>?_
                refine E.opvg hF (r_load (hF.at 0 rfl) (ldb_int (v:= .int .i64 (osD k)) (st.bk 1 rfl) rfl)) (wanted_by rfl rfl (hF.at 1 rfl) rfl) rfl rfl rfl fun a hF=>?_
                by_cases hc15:30≤osD k
                ·first
                 |(exfalso;omega)
                 |(refine E.opvg hF (r_bin (hF.at 0 rfl) ev_c eg_scalar (bi_int (ic_geq (c:=true) (dec_tt hc15)) (by simp))) (wanted_by rfl rfl (hF.at 2 rfl) rfl) rfl rfl rfl fun a hF=>?_
                   refine E.opv hF (r_pick_t (hF.at 3 rfl) (hF.at 0 rfl)) rfl rfl rfl rfl fun a hF=>?_
                   refine E.opv hF (r_move (hF.at 0 rfl)) rfl rfl rfl rfl fun a hF=>?_
                   refine E.opvg hF (r_field (hF.at 24 rfl) (fa_OSD_0 (p:=0) rfl)) (wanted_by rfl rfl (hF.at 0 rfl) rfl) rfl rfl rfl fun a hF=>?_
                   refine E.opvg hF (r_load (hF.at 0 rfl) (ldb_i64 (v:= .int .i64 (osM (k+1)/12)) (st.bk 0 rfl) rfl)) (wanted_by rfl rfl (hF.at 1 rfl) rfl) rfl rfl rfl fun a hF=>?_
                   refine E.opvg hF (r_bin ev_c (hF.at 0 rfl) eg_scalar (ia_mul (by omega) (by omega))) (wanted_by rfl rfl (hF.at 2 rfl) rfl) rfl rfl rfl fun a hF=>?_
                   refine E.opvg hF (r_field (hF.at 27 rfl) (fa_OSD_1 (p:=1) rfl)) (wanted_by rfl rfl (hF.at 3 rfl) rfl) rfl rfl rfl fun a hF=>?_
                   refine E.opvg hF (r_load (hF.at 0 rfl) (ldb_int (v:= .int .i64 (osM (k+1)%12+1)) (st.bk 0 rfl) rfl)) (wanted_by rfl rfl (hF.at 4 rfl) rfl) rfl rfl rfl fun a hF=>?_
                   refine E.opvg hF (r_bin (hF.at 2 rfl) (hF.at 0 rfl) eg_scalar (ia_add (by omega) (by omega))) (wanted_by rfl rfl (hF.at 5 rfl) rfl) rfl rfl rfl fun a hF=>?_
                   refine E.opvg hF (r_field (hF.at 38 rfl) (fa_OSD_0 (p:=0) rfl)) (wanted_by rfl rfl (hF.at 6 rfl) rfl) rfl rfl rfl fun a hF=>?_
                   refine E.opvg hF (r_load (hF.at 0 rfl) (ldb_i64 (v:= .int .i64 (osM k/12)) (st.bk 1 rfl) rfl)) (wanted_by rfl rfl (hF.at 7 rfl) rfl) rfl rfl rfl fun a hF=>?_
                   refine E.opvg hF (r_bin ev_c (hF.at 0 rfl) eg_scalar (ia_mul (by omega) (by omega))) (wanted_by rfl rfl (hF.at 8 rfl) rfl) rfl rfl rfl fun a hF=>?_
                   refine E.opvg hF (r_field (hF.at 41 rfl) (fa_OSD_1 (p:=1) rfl)) (wanted_by rfl rfl (hF.at 9 rfl) rfl) rfl rfl rfl fun a hF=>?_
                   refine E.opvg hF (r_load (hF.at 0 rfl) (ldb_int (v:= .int .i64 (osM k%12+1)) (st.bk 1 rfl) rfl)) (wanted_by rfl rfl (hF.at 10 rfl) rfl) rfl rfl rfl fun a hF=>?_
                   refine E.opvg hF (r_bin (hF.at 2 rfl) (hF.at 0 rfl) eg_scalar (ia_add (by omega) (by omega))) (wanted_by rfl rfl (hF.at 11 rfl) rfl) rfl rfl rfl fun a hF=>?_
                   refine E.opvg hF (r_bin (hF.at 0 rfl) ev_c eg_scalar (ia_add (by omega) (by omega))) (wanted_by rfl rfl (hF.at 12 rfl) rfl) rfl rfl rfl fun a hF=>?_
                   by_cases hc16:(12*(osM (k+1)/12))+(osM (k+1)%12+1)=((12*(osM k/12))+(osM k%12+1))+1
                   ·first
                    |(exfalso;omega)
                    |(refine E.opvg hF (r_bin (hF.at 7 rfl) (hF.at 0 rfl) eg_scalar (bi_int (ic_eql (c:=true) (dec_tt hc16)) (by simp))) (wanted_by rfl rfl (hF.at 13 rfl) rfl) rfl rfl rfl fun a hF=>?_
                      refine E.opv hF (r_pick_t (hF.at 14 rfl) (hF.at 0 rfl)) rfl rfl rfl rfl fun a hF=>?_
                      refine E.opv hF (r_move (hF.at 0 rfl)) rfl rfl rfl rfl fun a hF=>?_
                      refine E.opvg hF (r_field (hF.at 48 rfl) (fa_OSD_1 (p:=1) rfl)) (wanted_by rfl rfl (hF.at 0 rfl) rfl) rfl rfl rfl fun a hF=>?_
                      refine E.opvg hF (r_load (hF.at 0 rfl) (ldb_int (v:= .int .i64 (osM k%12+1)) (st.bk 1 rfl) rfl)) (wanted_by rfl rfl (hF.at 1 rfl) rfl) rfl rfl rfl fun a hF=>?_
                      refine E.opvg hF (r_bin (hF.at 0 rfl) ev_c eg_scalar (id_remn (a:=osM k%12+1) (b:=12) (by omega) (by omega))) (wanted_by rfl rfl (hF.at 2 rfl) rfl) rfl rfl rfl fun a hF=>?_
                      refine E.opvg hF (r_field (hF.at 43 rfl) (fa_OSD_1 (p:=1) rfl)) (wanted_by rfl rfl (hF.at 3 rfl) rfl) rfl rfl rfl fun a hF=>?_
                      refine E.opvg hF (r_load (hF.at 0 rfl) (ldb_int (v:= .int .i64 (osM (k+1)%12+1)) (st.bk 0 rfl) rfl)) (wanted_by rfl rfl (hF.at 4 rfl) rfl) rfl rfl rfl fun a hF=>?_
                      refine E.opvg hF (r_bin (hF.at 0 rfl) ev_c eg_scalar (ia_sub (by omega) (by omega))) (wanted_by rfl rfl (hF.at 5 rfl) rfl) rfl rfl rfl fun a hF=>?_
                      by_cases hc17:(osM k%12+1)%12=(osM (k+1)%12+1)-1
                      ·first
                       |(exfalso;omega)
                       |(refine E.opvg hF (r_bin (hF.at 3 rfl) (hF.at 0 rfl) eg_scalar (bi_int (ic_eql (c:=true) (dec_tt hc17)) (by simp))) (wanted_by rfl rfl (hF.at 6 rfl) rfl) rfl rfl rfl fun a hF=>?_
                         refine E.opv hF (r_pick_t (hF.at 7 rfl) (hF.at 0 rfl)) rfl rfl rfl rfl fun a hF=>?_
                         refine E.opset (L':=[(2,.bool true),(92,.bool true),(91,.bool true),(90,.int .i64 ((osM (k+1)%12+1)-1)),(89,.int .i64 (osM (k+1)%12+1)),(88,.pointer (some ⟨g6,1,none⟩)),(87,.int .i64 ((osM k%12+1)%12)),(86,.int .i64 (osM k%12+1)),(85,.pointer (some ⟨g4,1,none⟩)),(84,.bool true),(83,.bool true),(82,.bool true),(81,.int .i64 (((12*(osM k/12))+(osM k%12+1))+1)),(80,.int .i64 ((12*(osM k/12))+(osM k%12+1))),(79,.int .i64 (osM k%12+1)),(78,.pointer (some ⟨g4,1,none⟩)),(77,.int .i64 (12*(osM k/12))),(76,.int .i64 (osM k/12)),(75,.pointer (some ⟨g4,0,none⟩)),(74,.int .i64 ((12*(osM (k+1)/12))+(osM (k+1)%12+1))),(73,.int .i64 (osM (k+1)%12+1)),(72,.pointer (some ⟨g6,1,none⟩)),(71,.int .i64 (12*(osM (k+1)/12))),(70,.int .i64 (osM (k+1)/12)),(69,.pointer (some ⟨g6,0,none⟩)),(68,.bool true),(67,.bool true),(66,.bool true),(65,.int .i64 (osD k)),(64,.pointer (some ⟨g4,2,none⟩)),(63,.bool true),(62,.bool true),(61,.int .i64 (osD (k+1))),(60,.pointer (some ⟨g6,2,none⟩)),(42,.bool false),(41,.int .i64 ((osD k)+1)),(40,.int .i64 (osD k)),(39,.pointer (some ⟨g4,2,none⟩)),(38,.int .i64 (osD (k+1))),(37,.pointer (some ⟨g6,2,none⟩)),(36,.bool false),(35,.bool false),(34,.int .i64 0),(33,.bool false),(32,.bool false),(31,.int .i64 0),(24,.bool false),(23,.int .i64 k),(7,.int .i64 0),(6,.pointer (some ⟨g6,0,none⟩)),(22,.int .i64 0),(21,.agg #[.int .i64 (osM (k+1)/12),.int .i64 (osM (k+1)%12+1),.int .i64 (osD (k+1))]),(17,.tuple #[.agg #[.int .i64 (osM (k+1)/12),.int .i64 (osM (k+1)%12+1),.int .i64 (osD (k+1))],.int .i64 0]),(20,.tuple #[.agg #[.int .i64 (osM (k+1)/12),.int .i64 (osM (k+1)%12+1),.int .i64 (osD (k+1))],.int .i64 0]),(19,.int .i64 (k+1)),(18,.int .i64 k),(5,.int .i64 0),(4,.pointer (some ⟨g4,0,none⟩)),(16,.int .i64 0),(15,.agg #[.int .i64 (osM k/12),.int .i64 (osM k%12+1),.int .i64 (osD k)]),(12,.tuple #[.agg #[.int .i64 (osM k/12),.int .i64 (osM k%12+1),.int .i64 (osD k)],.int .i64 0]),(14,.tuple #[.agg #[.int .i64 (osM k/12),.int .i64 (osM k%12+1),.int .i64 (osD k)],.int .i64 0]),(13,.int .i64 k),(3,.int .i64 k),(11,.int .i64 k),(10,.int .i64 n),(9,.bool false),(8,.bool true),(0,.int .i64 n)]) hF (r_assign (hF.at 0 rfl)) rfl rfl rfl rfl fun a hF=>?_
                         refine E.nil ?_
                         refine wp_ret ?_
                         have bel:=st.bel
                         refine bodyPost_ret (res_tmp Try.results5 (hF.at 0 rfl)) hF.dfr ?_
                         exact⟨rfl,bel⟩)
                      ·first
                       |(exfalso;omega)
                       |(refine E.opvg hF (r_bin (hF.at 3 rfl) (hF.at 0 rfl) eg_scalar (bi_int (ic_eql (c:=false) (dec_ff hc17)) (by simp))) (wanted_by rfl rfl (hF.at 6 rfl) rfl) rfl rfl rfl fun a hF=>?_
                         refine E.opv hF (r_pick_t (hF.at 7 rfl) (hF.at 0 rfl)) rfl rfl rfl rfl fun a hF=>?_
                         refine E.opset (L':=[(2,.bool false),(92,.bool false),(91,.bool false),(90,.int .i64 ((osM (k+1)%12+1)-1)),(89,.int .i64 (osM (k+1)%12+1)),(88,.pointer (some ⟨g6,1,none⟩)),(87,.int .i64 ((osM k%12+1)%12)),(86,.int .i64 (osM k%12+1)),(85,.pointer (some ⟨g4,1,none⟩)),(84,.bool true),(83,.bool true),(82,.bool true),(81,.int .i64 (((12*(osM k/12))+(osM k%12+1))+1)),(80,.int .i64 ((12*(osM k/12))+(osM k%12+1))),(79,.int .i64 (osM k%12+1)),(78,.pointer (some ⟨g4,1,none⟩)),(77,.int .i64 (12*(osM k/12))),(76,.int .i64 (osM k/12)),(75,.pointer (some ⟨g4,0,none⟩)),(74,.int .i64 ((12*(osM (k+1)/12))+(osM (k+1)%12+1))),(73,.int .i64 (osM (k+1)%12+1)),(72,.pointer (some ⟨g6,1,none⟩)),(71,.int .i64 (12*(osM (k+1)/12))),(70,.int .i64 (osM (k+1)/12)),(69,.pointer (some ⟨g6,0,none⟩)),(68,.bool true),(67,.bool true),(66,.bool true),(65,.int .i64 (osD k)),(64,.pointer (some ⟨g4,2,none⟩)),(63,.bool true),(62,.bool true),(61,.int .i64 (osD (k+1))),(60,.pointer (some ⟨g6,2,none⟩)),(42,.bool false),(41,.int .i64 ((osD k)+1)),(40,.int .i64 (osD k)),(39,.pointer (some ⟨g4,2,none⟩)),(38,.int .i64 (osD (k+1))),(37,.pointer (some ⟨g6,2,none⟩)),(36,.bool false),(35,.bool false),(34,.int .i64 0),(33,.bool false),(32,.bool false),(31,.int .i64 0),(24,.bool false),(23,.int .i64 k),(7,.int .i64 0),(6,.pointer (some ⟨g6,0,none⟩)),(22,.int .i64 0),(21,.agg #[.int .i64 (osM (k+1)/12),.int .i64 (osM (k+1)%12+1),.int .i64 (osD (k+1))]),(17,.tuple #[.agg #[.int .i64 (osM (k+1)/12),.int .i64 (osM (k+1)%12+1),.int .i64 (osD (k+1))],.int .i64 0]),(20,.tuple #[.agg #[.int .i64 (osM (k+1)/12),.int .i64 (osM (k+1)%12+1),.int .i64 (osD (k+1))],.int .i64 0]),(19,.int .i64 (k+1)),(18,.int .i64 k),(5,.int .i64 0),(4,.pointer (some ⟨g4,0,none⟩)),(16,.int .i64 0),(15,.agg #[.int .i64 (osM k/12),.int .i64 (osM k%12+1),.int .i64 (osD k)]),(12,.tuple #[.agg #[.int .i64 (osM k/12),.int .i64 (osM k%12+1),.int .i64 (osD k)],.int .i64 0]),(14,.tuple #[.agg #[.int .i64 (osM k/12),.int .i64 (osM k%12+1),.int .i64 (osD k)],.int .i64 0]),(13,.int .i64 k),(3,.int .i64 k),(11,.int .i64 k),(10,.int .i64 n),(9,.bool false),(8,.bool true),(0,.int .i64 n)]) hF (r_assign (hF.at 0 rfl)) rfl rfl rfl rfl fun a hF=>?_
                         refine E.nil ?_
                         refine wp_ret ?_
                         have bel:=st.bel
                         refine bodyPost_ret (res_tmp Try.results5 (hF.at 0 rfl)) hF.dfr ?_
                         exfalso;omega))
                   ·first
                    |(exfalso;omega)
                    |(refine E.opvg hF (r_bin (hF.at 7 rfl) (hF.at 0 rfl) eg_scalar (bi_int (ic_eql (c:=false) (dec_ff hc16)) (by simp))) (wanted_by rfl rfl (hF.at 13 rfl) rfl) rfl rfl rfl fun a hF=>?_
                      refine E.opv hF (r_pick_t (hF.at 14 rfl) (hF.at 0 rfl)) rfl rfl rfl rfl fun a hF=>?_
                      refine E.opv hF (r_move (hF.at 0 rfl)) rfl rfl rfl rfl fun a hF=>?_
                      refine E.unwanted hF (wanted_by rfl rfl (hF.at 0 rfl) rfl) rfl rfl rfl fun a hF=>?_
                      refine E.unwanted hF (wanted_by rfl rfl (hF.at 1 rfl) rfl) rfl rfl rfl fun a hF=>?_
                      refine E.unwanted hF (wanted_by rfl rfl (hF.at 2 rfl) rfl) rfl rfl rfl fun a hF=>?_
                      refine E.unwanted hF (wanted_by rfl rfl (hF.at 3 rfl) rfl) rfl rfl rfl fun a hF=>?_
                      refine E.unwanted hF (wanted_by rfl rfl (hF.at 4 rfl) rfl) rfl rfl rfl fun a hF=>?_
                      refine E.unwanted hF (wanted_by rfl rfl (hF.at 5 rfl) rfl) rfl rfl rfl fun a hF=>?_
                      refine E.unwanted hF (wanted_by rfl rfl (hF.at 6 rfl) rfl) rfl rfl rfl fun a hF=>?_
                      refine E.opv hF (r_pick_f (hF.at 7 rfl) ev_c) rfl rfl rfl rfl fun a hF=>?_
                      refine E.opset (L':=[(2,.bool false),(92,.bool false),(91,undef),(90,undef),(89,undef),(88,undef),(87,undef),(86,undef),(85,undef),(84,.bool false),(83,.bool false),(82,.bool false),(81,.int .i64 (((12*(osM k/12))+(osM k%12+1))+1)),(80,.int .i64 ((12*(osM k/12))+(osM k%12+1))),(79,.int .i64 (osM k%12+1)),(78,.pointer (some ⟨g4,1,none⟩)),(77,.int .i64 (12*(osM k/12))),(76,.int .i64 (osM k/12)),(75,.pointer (some ⟨g4,0,none⟩)),(74,.int .i64 ((12*(osM (k+1)/12))+(osM (k+1)%12+1))),(73,.int .i64 (osM (k+1)%12+1)),(72,.pointer (some ⟨g6,1,none⟩)),(71,.int .i64 (12*(osM (k+1)/12))),(70,.int .i64 (osM (k+1)/12)),(69,.pointer (some ⟨g6,0,none⟩)),(68,.bool true),(67,.bool true),(66,.bool true),(65,.int .i64 (osD k)),(64,.pointer (some ⟨g4,2,none⟩)),(63,.bool true),(62,.bool true),(61,.int .i64 (osD (k+1))),(60,.pointer (some ⟨g6,2,none⟩)),(42,.bool false),(41,.int .i64 ((osD k)+1)),(40,.int .i64 (osD k)),(39,.pointer (some ⟨g4,2,none⟩)),(38,.int .i64 (osD (k+1))),(37,.pointer (some ⟨g6,2,none⟩)),(36,.bool false),(35,.bool false),(34,.int .i64 0),(33,.bool false),(32,.bool false),(31,.int .i64 0),(24,.bool false),(23,.int .i64 k),(7,.int .i64 0),(6,.pointer (some ⟨g6,0,none⟩)),(22,.int .i64 0),(21,.agg #[.int .i64 (osM (k+1)/12),.int .i64 (osM (k+1)%12+1),.int .i64 (osD (k+1))]),(17,.tuple #[.agg #[.int .i64 (osM (k+1)/12),.int .i64 (osM (k+1)%12+1),.int .i64 (osD (k+1))],.int .i64 0]),(20,.tuple #[.agg #[.int .i64 (osM (k+1)/12),.int .i64 (osM (k+1)%12+1),.int .i64 (osD (k+1))],.int .i64 0]),(19,.int .i64 (k+1)),(18,.int .i64 k),(5,.int .i64 0),(4,.pointer (some ⟨g4,0,none⟩)),(16,.int .i64 0),(15,.agg #[.int .i64 (osM k/12),.int .i64 (osM k%12+1),.int .i64 (osD k)]),(12,.tuple #[.agg #[.int .i64 (osM k/12),.int .i64 (osM k%12+1),.int .i64 (osD k)],.int .i64 0]),(14,.tuple #[.agg #[.int .i64 (osM k/12),.int .i64 (osM k%12+1),.int .i64 (osD k)],.int .i64 0]),(13,.int .i64 k),(3,.int .i64 k),(11,.int .i64 k),(10,.int .i64 n),(9,.bool false),(8,.bool true),(0,.int .i64 n)]) hF (r_assign (hF.at 0 rfl)) rfl rfl rfl rfl fun a hF=>?_
                      refine E.nil ?_
                      refine wp_ret ?_
                      have bel:=st.bel
                      refine bodyPost_ret (res_tmp Try.results5 (hF.at 0 rfl)) hF.dfr ?_
                      exfalso;omega))
                ·first
                 |(exfalso;omega)
                 |(refine E.opvg hF (r_bin (hF.at 0 rfl) ev_c eg_scalar (bi_int (ic_geq (c:=false) (dec_ff hc15)) (by simp))) (wanted_by rfl rfl (hF.at 2 rfl) rfl) rfl rfl rfl fun a hF=>?_
                   refine E.opv hF (r_pick_t (hF.at 3 rfl) (hF.at 0 rfl)) rfl rfl rfl rfl fun a hF=>?_
                   refine E.opv hF (r_move (hF.at 0 rfl)) rfl rfl rfl rfl fun a hF=>?_
                   refine E.unwanted hF (wanted_by rfl rfl (hF.at 0 rfl) rfl) rfl rfl rfl fun a hF=>?_
                   refine E.unwanted hF (wanted_by rfl rfl (hF.at 1 rfl) rfl) rfl rfl rfl fun a hF=>?_
                   refine E.unwanted hF (wanted_by rfl rfl (hF.at 2 rfl) rfl) rfl rfl rfl fun a hF=>?_
                   refine E.unwanted hF (wanted_by rfl rfl (hF.at 3 rfl) rfl) rfl rfl rfl fun a hF=>?_
                   refine E.unwanted hF (wanted_by rfl rfl (hF.at 4 rfl) rfl) rfl rfl rfl fun a hF=>?_
                   refine E.unwanted hF (wanted_by rfl rfl (hF.at 5 rfl) rfl) rfl rfl rfl fun a hF=>?_
                   refine E.unwanted hF (wanted_by rfl rfl (hF.at 6 rfl) rfl) rfl rfl rfl fun a hF=>?_
                   refine E.unwanted hF (wanted_by rfl rfl (hF.at 7 rfl) rfl) rfl rfl rfl fun a hF=>?_
                   refine E.unwanted hF (wanted_by rfl rfl (hF.at 8 rfl) rfl) rfl rfl rfl fun a hF=>?_
                   refine E.unwanted hF (wanted_by rfl rfl (hF.at 9 rfl) rfl) rfl rfl rfl fun a hF=>?_
                   refine E.unwanted hF (wanted_by rfl rfl (hF.at 10 rfl) rfl) rfl rfl rfl fun a hF=>?_
                   refine E.unwanted hF (wanted_by rfl rfl (hF.at 11 rfl) rfl) rfl rfl rfl fun a hF=>?_
                   refine E.unwanted hF (wanted_by rfl rfl (hF.at 12 rfl) rfl) rfl rfl rfl fun a hF=>?_
                   refine E.unwanted hF (wanted_by rfl rfl (hF.at 13 rfl) rfl) rfl rfl rfl fun a hF=>?_
                   refine E.opv hF (r_pick_f (hF.at 14 rfl) ev_c) rfl rfl rfl rfl fun a hF=>?_
                   refine E.opv hF (r_move (hF.at 0 rfl)) rfl rfl rfl rfl fun a hF=>?_
                   refine E.unwanted hF (wanted_by rfl rfl (hF.at 0 rfl) rfl) rfl rfl rfl fun a hF=>?_
                   refine E.unwanted hF (wanted_by rfl rfl (hF.at 1 rfl) rfl) rfl rfl rfl fun a hF=>?_
                   refine E.unwanted hF (wanted_by rfl rfl (hF.at 2 rfl) rfl) rfl rfl rfl fun a hF=>?_
                   refine E.unwanted hF (wanted_by rfl rfl (hF.at 3 rfl) rfl) rfl rfl rfl fun a hF=>?_
                   refine E.unwanted hF (wanted_by rfl rfl (hF.at 4 rfl) rfl) rfl rfl rfl fun a hF=>?_
                   refine E.unwanted hF (wanted_by rfl rfl (hF.at 5 rfl) rfl) rfl rfl rfl fun a hF=>?_
                   refine E.unwanted hF (wanted_by rfl rfl (hF.at 6 rfl) rfl) rfl rfl rfl fun a hF=>?_
                   refine E.opv hF (r_pick_f (hF.at 7 rfl) ev_c) rfl rfl rfl rfl fun a hF=>?_
                   refine E.opset (L':=[(2,.bool false),(92,.bool false),(91,undef),(90,undef),(89,undef),(88,undef),(87,undef),(86,undef),(85,undef),(84,.bool false),(83,.bool false),(82,undef),(81,undef),(80,undef),(79,undef),(78,undef),(77,undef),(76,undef),(75,undef),(74,undef),(73,undef),(72,undef),(71,undef),(70,undef),(69,undef),(68,.bool false),(67,.bool false),(66,.bool false),(65,.int .i64 (osD k)),(64,.pointer (some ⟨g4,2,none⟩)),(63,.bool true),(62,.bool true),(61,.int .i64 (osD (k+1))),(60,.pointer (some ⟨g6,2,none⟩)),(42,.bool false),(41,.int .i64 ((osD k)+1)),(40,.int .i64 (osD k)),(39,.pointer (some ⟨g4,2,none⟩)),(38,.int .i64 (osD (k+1))),(37,.pointer (some ⟨g6,2,none⟩)),(36,.bool false),(35,.bool false),(34,.int .i64 0),(33,.bool false),(32,.bool false),(31,.int .i64 0),(24,.bool false),(23,.int .i64 k),(7,.int .i64 0),(6,.pointer (some ⟨g6,0,none⟩)),(22,.int .i64 0),(21,.agg #[.int .i64 (osM (k+1)/12),.int .i64 (osM (k+1)%12+1),.int .i64 (osD (k+1))]),(17,.tuple #[.agg #[.int .i64 (osM (k+1)/12),.int .i64 (osM (k+1)%12+1),.int .i64 (osD (k+1))],.int .i64 0]),(20,.tuple #[.agg #[.int .i64 (osM (k+1)/12),.int .i64 (osM (k+1)%12+1),.int .i64 (osD (k+1))],.int .i64 0]),(19,.int .i64 (k+1)),(18,.int .i64 k),(5,.int .i64 0),(4,.pointer (some ⟨g4,0,none⟩)),(16,.int .i64 0),(15,.agg #[.int .i64 (osM k/12),.int .i64 (osM k%12+1),.int .i64 (osD k)]),(12,.tuple #[.agg #[.int .i64 (osM k/12),.int .i64 (osM k%12+1),.int .i64 (osD k)],.int .i64 0]),(14,.tuple #[.agg #[.int .i64 (osM k/12),.int .i64 (osM k%12+1),.int .i64 (osD k)],.int .i64 0]),(13,.int .i64 k),(3,.int .i64 k),(11,.int .i64 k),(10,.int .i64 n),(9,.bool false),(8,.bool true),(0,.int .i64 n)]) hF (r_assign (hF.at 0 rfl)) rfl rfl rfl rfl fun a hF=>?_
                   refine E.nil ?_
                   refine wp_ret ?_
                   have bel:=st.bel
                   refine bodyPost_ret (res_tmp Try.results5 (hF.at 0 rfl)) hF.dfr ?_
                   exfalso;omega))
             ·first
              |(exfalso;omega)
              |(refine E.opv hF (r_bin (hF.at 0 rfl) ev_c eg_scalar (bi_int (ic_eql (c:=false) (dec_ff hc14)) (by simp))) rfl rfl rfl rfl fun a hF=>?_
                refine E.opv hF (r_move (hF.at 0 rfl)) rfl rfl rfl rfl fun a hF=>?_
                refine E.unwanted hF (wanted_by rfl rfl (hF.at 0 rfl) rfl) rfl rfl rfl fun a hF=>?_
                refine E.unwanted hF (wanted_by rfl rfl (hF.at 1 rfl) rfl) rfl rfl rfl fun a hF=>?_
                refine E.unwanted hF (wanted_by rfl rfl (hF.at 2 rfl) rfl) rfl rfl rfl fun a hF=>?_
                refine E.opv hF (r_pick_f (hF.at 3 rfl) ev_c) rfl rfl rfl rfl fun a hF=>?_
                refine E.opv hF (r_move (hF.at 0 rfl)) rfl rfl rfl rfl fun a hF=>?_
                refine E.unwanted hF (wanted_by rfl rfl (hF.at 0 rfl) rfl) rfl rfl rfl fun a hF=>?_
                refine E.unwanted hF (wanted_by rfl rfl (hF.at 1 rfl) rfl) rfl rfl rfl fun a hF=>?_
                refine E.unwanted hF (wanted_by rfl rfl (hF.at 2 rfl) rfl) rfl rfl rfl fun a hF=>?_
                refine E.unwanted hF (wanted_by rfl rfl (hF.at 3 rfl) rfl) rfl rfl rfl fun a hF=>?_
                refine E.unwanted hF (wanted_by rfl rfl (hF.at 4 rfl) rfl) rfl rfl rfl fun a hF=>?_
                refine E.unwanted hF (wanted_by rfl rfl (hF.at 5 rfl) rfl) rfl rfl rfl fun a hF=>?_
                refine E.unwanted hF (wanted_by rfl rfl (hF.at 6 rfl) rfl) rfl rfl rfl fun a hF=>?_
                refine E.unwanted hF (wanted_by rfl rfl (hF.at 7 rfl) rfl) rfl rfl rfl fun a hF=>?_
                refine E.unwanted hF (wanted_by rfl rfl (hF.at 8 rfl) rfl) rfl rfl rfl fun a hF=>?_
                refine E.unwanted hF (wanted_by rfl rfl (hF.at 9 rfl) rfl) rfl rfl rfl fun a hF=>?_
                refine E.unwanted hF (wanted_by rfl rfl (hF.at 10 rfl) rfl) rfl rfl rfl fun a hF=>?_
                refine E.unwanted hF (wanted_by rfl rfl (hF.at 11 rfl) rfl) rfl rfl rfl fun a hF=>?_
                refine E.unwanted hF (wanted_by rfl rfl (hF.at 12 rfl) rfl) rfl rfl rfl fun a hF=>?_
                refine E.unwanted hF (wanted_by rfl rfl (hF.at 13 rfl) rfl) rfl rfl rfl fun a hF=>?_
                refine E.opv hF (r_pick_f (hF.at 14 rfl) ev_c) rfl rfl rfl rfl fun a hF=>?_
                refine E.opv hF (r_move (hF.at 0 rfl)) rfl rfl rfl rfl fun a hF=>?_
                refine E.unwanted hF (wanted_by rfl rfl (hF.at 0 rfl) rfl) rfl rfl rfl fun a hF=>?_
                refine E.unwanted hF (wanted_by rfl rfl (hF.at 1 rfl) rfl) rfl rfl rfl fun a hF=>?_
                refine E.unwanted hF (wanted_by rfl rfl (hF.at 2 rfl) rfl) rfl rfl rfl fun a hF=>?_
                refine E.unwanted hF (wanted_by rfl rfl (hF.at 3 rfl) rfl) rfl rfl rfl fun a hF=>?_
                refine E.unwanted hF (wanted_by rfl rfl (hF.at 4 rfl) rfl) rfl rfl rfl fun a hF=>?_
                refine E.unwanted hF (wanted_by rfl rfl (hF.at 5 rfl) rfl) rfl rfl rfl fun a hF=>?_
                refine E.unwanted hF (wanted_by rfl rfl (hF.at 6 rfl) rfl) rfl rfl rfl fun a hF=>?_
                refine E.opv hF (r_pick_f (hF.at 7 rfl) ev_c) rfl rfl rfl rfl fun a hF=>?_
                refine E.opset (L':=[(2,.bool false),(92,.bool false),(91,undef),(90,undef),(89,undef),(88,undef),(87,undef),(86,undef),(85,undef),(84,.bool false),(83,.bool false),(82,undef),(81,undef),(80,undef),(79,undef),(78,undef),(77,undef),(76,undef),(75,undef),(74,undef),(73,undef),(72,undef),(71,undef),(70,undef),(69,undef),(68,.bool false),(67,.bool false),(66,undef),(65,undef),(64,undef),(63,.bool false),(62,.bool false),(61,.int .i64 (osD (k+1))),(60,.pointer (some ⟨g6,2,none⟩)),(42,.bool false),(41,.int .i64 ((osD k)+1)),(40,.int .i64 (osD k)),(39,.pointer (some ⟨g4,2,none⟩)),(38,.int .i64 (osD (k+1))),(37,.pointer (some ⟨g6,2,none⟩)),(36,.bool false),(35,.bool false),(34,.int .i64 0),(33,.bool false),(32,.bool false),(31,.int .i64 0),(24,.bool false),(23,.int .i64 k),(7,.int .i64 0),(6,.pointer (some ⟨g6,0,none⟩)),(22,.int .i64 0),(21,.agg #[.int .i64 (osM (k+1)/12),.int .i64 (osM (k+1)%12+1),.int .i64 (osD (k+1))]),(17,.tuple #[.agg #[.int .i64 (osM (k+1)/12),.int .i64 (osM (k+1)%12+1),.int .i64 (osD (k+1))],.int .i64 0]),(20,.tuple #[.agg #[.int .i64 (osM (k+1)/12),.int .i64 (osM (k+1)%12+1),.int .i64 (osD (k+1))],.int .i64 0]),(19,.int .i64 (k+1)),(18,.int .i64 k),(5,.int .i64 0),(4,.pointer (some ⟨g4,0,none⟩)),(16,.int .i64 0),(15,.agg #[.int .i64 (osM k/12),.int .i64 (osM k%12+1),.int .i64 (osD k)]),(12,.tuple #[.agg #[.int .i64 (osM k/12),.int .i64 (osM k%12+1),.int .i64 (osD k)],.int .i64 0]),(14,.tuple #[.agg #[.int .i64 (osM k/12),.int .i64 (osM k%12+1),.int .i64 (osD k)],.int .i64 0]),(13,.int .i64 k),(3,.int .i64 k),(11,.int .i64 k),(10,.int .i64 n),(9,.bool false),(8,.bool true),(0,.int .i64 n)]) hF (r_assign (hF.at 0 rfl)) rfl rfl rfl rfl fun a hF=>?_
                refine E.nil ?_
                refine wp_ret ?_
                have bel:=st.bel
                refine bodyPost_ret (res_tmp Try.results5 (hF.at 0 rfl)) hF.dfr ?_
                exfalso;omega))))
    ·first
     |(exfalso;omega)
     |(refine S.callx st hF (r_call Try.func14 en14.1 en14.2 (map1 (hF.at 0 rfl))) (osOfX_any (k+1) _ (by omega)) rfl rfl rfl rfl fun w18 a st hF=>?_
       refine E.opv hF (r_move (hF.at 0 rfl)) rfl rfl rfl rfl fun a hF=>?_
       refine E.opv hF (r_extract (v:= .agg #[.int .i64 0,.int .i64 0,.int .i64 0]) (hF.at 0 rfl) rfl) rfl rfl rfl rfl fun a hF=>?_
       refine E.opv hF (r_extract (v:= .int .i64 2) (hF.at 1 rfl) rfl) rfl rfl rfl rfl fun a hF=>?_
       refine S.new st hF 1 rfl ty_OSD rfl rfl rfl rfl rfl fun g6 w19 a st hF=>?_
       refine E.opv hF (r_assign (hF.at 1 rfl)) rfl rfl rfl rfl fun a hF=>?_
       refine E.nil ?_
       refine wp_seq ?_
       refine wp_seq ?_
       refine E.seq ?_
       refine E.opv hF (r_move (hF.at 15 rfl)) rfl rfl rfl rfl fun a hF=>?_
       by_cases hc20:k=3000000
       ·first
        |(exfalso;omega)
        |(refine E.opv hF (r_bin (hF.at 0 rfl) ev_c eg_scalar (bi_int (ic_eql (c:=true) (dec_tt hc20)) (by simp))) rfl rfl rfl rfl fun a hF=>?_
          refine E.nil ?_
          refine wp_cond_true (hF.at 0 rfl) ?_
          refine wp_seq ?_
          refine E.seq ?_
          refine E.opv hF (r_move (hF.at 10 rfl)) rfl rfl rfl rfl fun a hF=>?_
          refine E.opv hF (r_bin (hF.at 0 rfl) ev_c eg_scalar (bi_int (ic_eql (c:=true) (by decide)) (by simp))) rfl rfl rfl rfl fun a hF=>?_
          refine E.opv hF (r_move (hF.at 0 rfl)) rfl rfl rfl rfl fun a hF=>?_
          refine E.opvg hF (r_move (hF.at 5 rfl)) (wanted_by rfl rfl (hF.at 0 rfl) rfl) rfl rfl rfl fun a hF=>?_
          refine E.opvg hF (r_bin (hF.at 0 rfl) ev_c eg_scalar (bi_int (ic_eql (c:=true) (by decide)) (by simp))) (wanted_by rfl rfl (hF.at 1 rfl) rfl) rfl rfl rfl fun a hF=>?_
          refine E.opv hF (r_pick_t (hF.at 2 rfl) (hF.at 0 rfl)) rfl rfl rfl rfl fun a hF=>?_
          refine E.opset (L':=[(2,.bool true),(30,.bool true),(29,.bool true),(28,.int .i64 2),(27,.bool true),(26,.bool true),(25,.int .i64 0),(24,.bool true),(23,.int .i64 k),(7,.int .i64 2),(6,.pointer (some ⟨g6,0,none⟩)),(22,.int .i64 2),(21,.agg #[.int .i64 0,.int .i64 0,.int .i64 0]),(17,.tuple #[.agg #[.int .i64 0,.int .i64 0,.int .i64 0],.int .i64 2]),(20,.tuple #[.agg #[.int .i64 0,.int .i64 0,.int .i64 0],.int .i64 2]),(19,.int .i64 (k+1)),(18,.int .i64 k),(5,.int .i64 0),(4,.pointer (some ⟨g4,0,none⟩)),(16,.int .i64 0),(15,.agg #[.int .i64 (osM k/12),.int .i64 (osM k%12+1),.int .i64 (osD k)]),(12,.tuple #[.agg #[.int .i64 (osM k/12),.int .i64 (osM k%12+1),.int .i64 (osD k)],.int .i64 0]),(14,.tuple #[.agg #[.int .i64 (osM k/12),.int .i64 (osM k%12+1),.int .i64 (osD k)],.int .i64 0]),(13,.int .i64 k),(3,.int .i64 k),(11,.int .i64 k),(10,.int .i64 n),(9,.bool false),(8,.bool true),(0,.int .i64 n)]) hF (r_assign (hF.at 0 rfl)) rfl rfl rfl rfl fun a hF=>?_
          refine E.nil ?_
          refine wp_ret ?_
          have bel:=st.bel
          refine bodyPost_ret (res_tmp Try.results5 (hF.at 0 rfl)) hF.dfr ?_
          exact⟨rfl,bel⟩)
       ·first
        |(exfalso;omega)
        |(refine E.opv hF (r_bin (hF.at 0 rfl) ev_c eg_scalar (bi_int (ic_eql (c:=false) (dec_ff hc20)) (by simp))) rfl rfl rfl rfl fun a hF=>?_
          refine E.nil ?_
          refine wp_cond_false (hF.at 0 rfl) ?_
          refine wp_skip ?_
          refine E.norm ?_
          refine wp_seq ?_
          refine wp_seq ?_
          refine E.seq ?_
          refine E.opv hF (r_move (hF.at 10 rfl)) rfl rfl rfl rfl fun a hF=>?_
          refine E.opv hF (r_bin (hF.at 0 rfl) ev_c eg_scalar (bi_int (ic_neq (c:=false) (by decide)) (by simp))) rfl rfl rfl rfl fun a hF=>?_
          refine E.opv hF (r_move (hF.at 0 rfl)) rfl rfl rfl rfl fun a hF=>?_
          refine E.opvg hF (r_move (hF.at 5 rfl)) (wanted_by rfl rfl (hF.at 0 rfl) rfl) rfl rfl rfl fun a hF=>?_
          refine E.opvg hF (r_bin (hF.at 0 rfl) ev_c eg_scalar (bi_int (ic_neq (c:=true) (by decide)) (by simp))) (wanted_by rfl rfl (hF.at 1 rfl) rfl) rfl rfl rfl fun a hF=>?_
          refine E.opv hF (r_pick_f (hF.at 2 rfl) (hF.at 0 rfl)) rfl rfl rfl rfl fun a hF=>?_
          refine E.nil ?_
          refine wp_cond_true (hF.at 0 rfl) ?_
          refine wp_seq ?_
          refine E.seq ?_
          refine E.opset (L':=[(2,.bool false),(36,.bool true),(35,.bool true),(34,.int .i64 2),(33,.bool false),(32,.bool false),(31,.int .i64 0),(24,.bool false),(23,.int .i64 k),(7,.int .i64 2),(6,.pointer (some ⟨g6,0,none⟩)),(22,.int .i64 2),(21,.agg #[.int .i64 0,.int .i64 0,.int .i64 0]),(17,.tuple #[.agg #[.int .i64 0,.int .i64 0,.int .i64 0],.int .i64 2]),(20,.tuple #[.agg #[.int .i64 0,.int .i64 0,.int .i64 0],.int .i64 2]),(19,.int .i64 (k+1)),(18,.int .i64 k),(5,.int .i64 0),(4,.pointer (some ⟨g4,0,none⟩)),(16,.int .i64 0),(15,.agg #[.int .i64 (osM k/12),.int .i64 (osM k%12+1),.int .i64 (osD k)]),(12,.tuple #[.agg #[.int .i64 (osM k/12),.int .i64 (osM k%12+1),.int .i64 (osD k)],.int .i64 0]),(14,.tuple #[.agg #[.int .i64 (osM k/12),.int .i64 (osM k%12+1),.int .i64 (osD k)],.int .i64 0]),(13,.int .i64 k),(3,.int .i64 k),(11,.int .i64 k),(10,.int .i64 n),(9,.bool false),(8,.bool true),(0,.int .i64 n)]) hF (r_assign ev_c) rfl rfl rfl rfl fun a hF=>?_
          refine E.nil ?_
          refine wp_ret ?_
          have bel:=st.bel
          refine bodyPost_ret (res_tmp Try.results5 (hF.at 0 rfl)) hF.dfr ?_
          exfalso;omega)))
 ·first
  |(exfalso;omega)
  |(refine S.callx st hF (r_call Try.func14 en14.1 en14.2 (map1 (hF.at 0 rfl))) (osOfX_any k _ (by omega)) rfl rfl rfl rfl fun w21 a st hF=>?_
    refine E.opv hF (r_move (hF.at 0 rfl)) rfl rfl rfl rfl fun a hF=>?_
    refine E.opv hF (r_extract (v:= .agg #[.int .i64 0,.int .i64 0,.int .i64 0]) (hF.at 0 rfl) rfl) rfl rfl rfl rfl fun a hF=>?_
    refine E.opv hF (r_extract (v:= .int .i64 2) (hF.at 1 rfl) rfl) rfl rfl rfl rfl fun a hF=>?_
    refine S.new st hF 1 rfl ty_OSD rfl rfl rfl rfl rfl fun g4 w22 a st hF=>?_
    refine E.opv hF (r_assign (hF.at 1 rfl)) rfl rfl rfl rfl fun a hF=>?_
    refine E.nil ?_
    refine wp_seq ?_
    refine E.seq ?_
    refine E.opv hF (r_move (hF.at 7 rfl)) rfl rfl rfl rfl fun a hF=>?_
    refine E.opv hF (r_bin (hF.at 0 rfl) ev_c eg_scalar (ia_add (by omega) (by omega))) rfl rfl rfl rfl fun a hF=>?_
    by_cases hc23: -3000000≤k+1∧k+1≤3000000
    ·first
     |(exfalso;omega)
     |(refine S.callx st hF (r_call Try.func14 en14.1 en14.2 (map1 (hF.at 0 rfl))) (osOf_any (k+1) _ (by omega) (by omega)) rfl rfl rfl rfl fun w24 a st hF=>?_
       have hob23:=osM_in (n:=k+1) (by omega) (by omega)
       have hod23:=osD_bd (k+1)
       refine E.opv hF (r_move (hF.at 0 rfl)) rfl rfl rfl rfl fun a hF=>?_
       refine E.opv hF (r_extract (v:= .agg #[.int .i64 (osM (k+1)/12),.int .i64 (osM (k+1)%12+1),.int .i64 (osD (k+1))]) (hF.at 0 rfl) rfl) rfl rfl rfl rfl fun a hF=>?_
       refine E.opv hF (r_extract (v:= .int .i64 0) (hF.at 1 rfl) rfl) rfl rfl rfl rfl fun a hF=>?_
       refine S.new st hF 1 rfl ty_OSD rfl rfl rfl rfl rfl fun g6 w25 a st hF=>?_
       refine E.opv hF (r_assign (hF.at 1 rfl)) rfl rfl rfl rfl fun a hF=>?_
       refine E.nil ?_
       refine wp_seq ?_
       refine wp_seq ?_
       refine E.seq ?_
       refine E.opv hF (r_move (hF.at 15 rfl)) rfl rfl rfl rfl fun a hF=>?_
       by_cases hc26:k=3000000
       ·first
        |(exfalso;omega)
        |(refine E.opv hF (r_bin (hF.at 0 rfl) ev_c eg_scalar (bi_int (ic_eql (c:=true) (dec_tt hc26)) (by simp))) rfl rfl rfl rfl fun a hF=>?_
          refine E.nil ?_
          refine wp_cond_true (hF.at 0 rfl) ?_
          refine wp_seq ?_
          refine E.seq ?_
          refine E.opv hF (r_move (hF.at 10 rfl)) rfl rfl rfl rfl fun a hF=>?_
          refine E.opv hF (r_bin (hF.at 0 rfl) ev_c eg_scalar (bi_int (ic_eql (c:=false) (by decide)) (by simp))) rfl rfl rfl rfl fun a hF=>?_
          refine E.opv hF (r_move (hF.at 0 rfl)) rfl rfl rfl rfl fun a hF=>?_
          refine E.unwanted hF (wanted_by rfl rfl (hF.at 0 rfl) rfl) rfl rfl rfl fun a hF=>?_
          refine E.unwanted hF (wanted_by rfl rfl (hF.at 1 rfl) rfl) rfl rfl rfl fun a hF=>?_
          refine E.opv hF (r_pick_f (hF.at 2 rfl) ev_c) rfl rfl rfl rfl fun a hF=>?_
          refine E.opset (L':=[(2,.bool false),(30,.bool false),(29,undef),(28,undef),(27,.bool false),(26,.bool false),(25,.int .i64 2),(24,.bool true),(23,.int .i64 k),(7,.int .i64 0),(6,.pointer (some ⟨g6,0,none⟩)),(22,.int .i64 0),(21,.agg #[.int .i64 (osM (k+1)/12),.int .i64 (osM (k+1)%12+1),.int .i64 (osD (k+1))]),(17,.tuple #[.agg #[.int .i64 (osM (k+1)/12),.int .i64 (osM (k+1)%12+1),.int .i64 (osD (k+1))],.int .i64 0]),(20,.tuple #[.agg #[.int .i64 (osM (k+1)/12),.int .i64 (osM (k+1)%12+1),.int .i64 (osD (k+1))],.int .i64 0]),(19,.int .i64 (k+1)),(18,.int .i64 k),(5,.int .i64 2),(4,.pointer (some ⟨g4,0,none⟩)),(16,.int .i64 2),(15,.agg #[.int .i64 0,.int .i64 0,.int .i64 0]),(12,.tuple #[.agg #[.int .i64 0,.int .i64 0,.int .i64 0],.int .i64 2]),(14,.tuple #[.agg #[.int .i64 0,.int .i64 0,.int .i64 0],.int .i64 2]),(13,.int .i64 k),(3,.int .i64 k),(11,.int .i64 k),(10,.int .i64 n),(9,.bool false),(8,.bool true),(0,.int .i64 n)]) hF (r_assign (hF.at 0 rfl)) rfl rfl rfl rfl fun a hF=>?_
          refine E.nil ?_
          refine wp_ret ?_
          have bel:=st.bel
          refine bodyPost_ret (res_tmp Try.results5 (hF.at 0 rfl)) hF.dfr ?_
          exfalso;omega)
       ·first
        |(exfalso;omega)
        |(refine E.opv hF (r_bin (hF.at 0 rfl) ev_c eg_scalar (bi_int (ic_eql (c:=false) (dec_ff hc26)) (by simp))) rfl rfl rfl rfl fun a hF=>?_
          refine E.nil ?_
          refine wp_cond_false (hF.at 0 rfl) ?_
          refine wp_skip ?_
          refine E.norm ?_
          refine wp_seq ?_
          refine wp_seq ?_
          refine E.seq ?_
          refine E.opv hF (r_move (hF.at 10 rfl)) rfl rfl rfl rfl fun a hF=>?_
          refine E.opv hF (r_bin (hF.at 0 rfl) ev_c eg_scalar (bi_int (ic_neq (c:=true) (by decide)) (by simp))) rfl rfl rfl rfl fun a hF=>?_
          refine E.opv hF (r_move (hF.at 0 rfl)) rfl rfl rfl rfl fun a hF=>?_
          refine E.unwanted hF (wanted_by rfl rfl (hF.at 0 rfl) rfl) rfl rfl rfl fun a hF=>?_
          refine E.unwanted hF (wanted_by rfl rfl (hF.at 1 rfl) rfl) rfl rfl rfl fun a hF=>?_
          refine E.opv hF (r_pick_t (hF.at 2 rfl) ev_c) rfl rfl rfl rfl fun a hF=>?_
          refine E.nil ?_
          refine wp_cond_true (hF.at 0 rfl) ?_
          refine wp_seq ?_
          refine E.seq ?_
          refine E.opset (L':=[(2,.bool false),(36,.bool true),(35,undef),(34,undef),(33,.bool true),(32,.bool true),(31,.int .i64 2),(24,.bool false),(23,.int .i64 k),(7,.int .i64 0),(6,.pointer (some ⟨g6,0,none⟩)),(22,.int .i64 0),(21,.agg #[.int .i64 (osM (k+1)/12),.int .i64 (osM (k+1)%12+1),.int .i64 (osD (k+1))]),(17,.tuple #[.agg #[.int .i64 (osM (k+1)/12),.int .i64 (osM (k+1)%12+1),.int .i64 (osD (k+1))],.int .i64 0]),(20,.tuple #[.agg #[.int .i64 (osM (k+1)/12),.int .i64 (osM (k+1)%12+1),.int .i64 (osD (k+1))],.int .i64 0]),(19,.int .i64 (k+1)),(18,.int .i64 k),(5,.int .i64 2),(4,.pointer (some ⟨g4,0,none⟩)),(16,.int .i64 2),(15,.agg #[.int .i64 0,.int .i64 0,.int .i64 0]),(12,.tuple #[.agg #[.int .i64 0,.int .i64 0,.int .i64 0],.int .i64 2]),(14,.tuple #[.agg #[.int .i64 0,.int .i64 0,.int .i64 0],.int .i64 2]),(13,.int .i64 k),(3,.int .i64 k),(11,.int .i64 k),(10,.int .i64 n),(9,.bool false),(8,.bool true),(0,.int .i64 n)]) hF (r_assign ev_c) rfl rfl rfl rfl fun a hF=>?_
          refine E.nil ?_
          refine wp_ret ?_
          have bel:=st.bel
          refine bodyPost_ret (res_tmp Try.results5 (hF.at 0 rfl)) hF.dfr ?_
          exfalso;omega))
    ·first
     |(exfalso;omega)
     |(refine S.callx st hF (r_call Try.func14 en14.1 en14.2 (map1 (hF.at 0 rfl))) (osOfX_any (k+1) _ (by omega)) rfl rfl rfl rfl fun w27 a st hF=>?_
       refine E.opv hF (r_move (hF.at 0 rfl)) rfl rfl rfl rfl fun a hF=>?_
       refine E.opv hF (r_extract (v:= .agg #[.int .i64 0,.int .i64 0,.int .i64 0]) (hF.at 0 rfl) rfl) rfl rfl rfl rfl fun a hF=>?_
       refine E.opv hF (r_extract (v:= .int .i64 2) (hF.at 1 rfl) rfl) rfl rfl rfl rfl fun a hF=>?_
       refine S.new st hF 1 rfl ty_OSD rfl rfl rfl rfl rfl fun g6 w28 a st hF=>?_
       refine E.opv hF (r_assign (hF.at 1 rfl)) rfl rfl rfl rfl fun a hF=>?_
       refine E.nil ?_
       refine wp_seq ?_
       refine wp_seq ?_
       refine E.seq ?_
       refine E.opv hF (r_move (hF.at 15 rfl)) rfl rfl rfl rfl fun a hF=>?_
       by_cases hc29:k=3000000
       ·first
        |(exfalso;omega)
        |(refine E.opv hF (r_bin (hF.at 0 rfl) ev_c eg_scalar (bi_int (ic_eql (c:=true) (dec_tt hc29)) (by simp))) rfl rfl rfl rfl fun a hF=>?_
          refine E.nil ?_
          refine wp_cond_true (hF.at 0 rfl) ?_
          refine wp_seq ?_
          refine E.seq ?_
          refine E.opv hF (r_move (hF.at 10 rfl)) rfl rfl rfl rfl fun a hF=>?_
          refine E.opv hF (r_bin (hF.at 0 rfl) ev_c eg_scalar (bi_int (ic_eql (c:=false) (by decide)) (by simp))) rfl rfl rfl rfl fun a hF=>?_
          refine E.opv hF (r_move (hF.at 0 rfl)) rfl rfl rfl rfl fun a hF=>?_
          refine E.unwanted hF (wanted_by rfl rfl (hF.at 0 rfl) rfl) rfl rfl rfl fun a hF=>?_
          refine E.unwanted hF (wanted_by rfl rfl (hF.at 1 rfl) rfl) rfl rfl rfl fun a hF=>?_
          refine E.opv hF (r_pick_f (hF.at 2 rfl) ev_c) rfl rfl rfl rfl fun a hF=>?_
          refine E.opset (L':=[(2,.bool false),(30,.bool false),(29,undef),(28,undef),(27,.bool false),(26,.bool false),(25,.int .i64 2),(24,.bool true),(23,.int .i64 k),(7,.int .i64 2),(6,.pointer (some ⟨g6,0,none⟩)),(22,.int .i64 2),(21,.agg #[.int .i64 0,.int .i64 0,.int .i64 0]),(17,.tuple #[.agg #[.int .i64 0,.int .i64 0,.int .i64 0],.int .i64 2]),(20,.tuple #[.agg #[.int .i64 0,.int .i64 0,.int .i64 0],.int .i64 2]),(19,.int .i64 (k+1)),(18,.int .i64 k),(5,.int .i64 2),(4,.pointer (some ⟨g4,0,none⟩)),(16,.int .i64 2),(15,.agg #[.int .i64 0,.int .i64 0,.int .i64 0]),(12,.tuple #[.agg #[.int .i64 0,.int .i64 0,.int .i64 0],.int .i64 2]),(14,.tuple #[.agg #[.int .i64 0,.int .i64 0,.int .i64 0],.int .i64 2]),(13,.int .i64 k),(3,.int .i64 k),(11,.int .i64 k),(10,.int .i64 n),(9,.bool false),(8,.bool true),(0,.int .i64 n)]) hF (r_assign (hF.at 0 rfl)) rfl rfl rfl rfl fun a hF=>?_
          refine E.nil ?_
          refine wp_ret ?_
          have bel:=st.bel
          refine bodyPost_ret (res_tmp Try.results5 (hF.at 0 rfl)) hF.dfr ?_
          exfalso;omega)
       ·first
        |(exfalso;omega)
        |(refine E.opv hF (r_bin (hF.at 0 rfl) ev_c eg_scalar (bi_int (ic_eql (c:=false) (dec_ff hc29)) (by simp))) rfl rfl rfl rfl fun a hF=>?_
          refine E.nil ?_
          refine wp_cond_false (hF.at 0 rfl) ?_
          refine wp_skip ?_
          refine E.norm ?_
          refine wp_seq ?_
          refine wp_seq ?_
          refine E.seq ?_
          refine E.opv hF (r_move (hF.at 10 rfl)) rfl rfl rfl rfl fun a hF=>?_
          refine E.opv hF (r_bin (hF.at 0 rfl) ev_c eg_scalar (bi_int (ic_neq (c:=true) (by decide)) (by simp))) rfl rfl rfl rfl fun a hF=>?_
          refine E.opv hF (r_move (hF.at 0 rfl)) rfl rfl rfl rfl fun a hF=>?_
          refine E.unwanted hF (wanted_by rfl rfl (hF.at 0 rfl) rfl) rfl rfl rfl fun a hF=>?_
          refine E.unwanted hF (wanted_by rfl rfl (hF.at 1 rfl) rfl) rfl rfl rfl fun a hF=>?_
          refine E.opv hF (r_pick_t (hF.at 2 rfl) ev_c) rfl rfl rfl rfl fun a hF=>?_
          refine E.nil ?_
          refine wp_cond_true (hF.at 0 rfl) ?_
          refine wp_seq ?_
          refine E.seq ?_
          refine E.opset (L':=[(2,.bool false),(36,.bool true),(35,undef),(34,undef),(33,.bool true),(32,.bool true),(31,.int .i64 2),(24,.bool false),(23,.int .i64 k),(7,.int .i64 2),(6,.pointer (some ⟨g6,0,none⟩)),(22,.int .i64 2),(21,.agg #[.int .i64 0,.int .i64 0,.int .i64 0]),(17,.tuple #[.agg #[.int .i64 0,.int .i64 0,.int .i64 0],.int .i64 2]),(20,.tuple #[.agg #[.int .i64 0,.int .i64 0,.int .i64 0],.int .i64 2]),(19,.int .i64 (k+1)),(18,.int .i64 k),(5,.int .i64 2),(4,.pointer (some ⟨g4,0,none⟩)),(16,.int .i64 2),(15,.agg #[.int .i64 0,.int .i64 0,.int .i64 0]),(12,.tuple #[.agg #[.int .i64 0,.int .i64 0,.int .i64 0],.int .i64 2]),(14,.tuple #[.agg #[.int .i64 0,.int .i64 0,.int .i64 0],.int .i64 2]),(13,.int .i64 k),(3,.int .i64 k),(11,.int .i64 k),(10,.int .i64 n),(9,.bool false),(8,.bool true),(0,.int .i64 n)]) hF (r_assign ev_c) rfl rfl rfl rfl fun a hF=>?_
          refine E.nil ?_
          refine wp_ret ?_
          have bel:=st.bel
          refine bodyPost_ret (res_tmp Try.results5 (hF.at 0 rfl)) hF.dfr ?_
          exfalso;omega)))
theorem os_first2 {y m u:Int} (hu:u=12*y+(m-1)) (hm:1≤m) (hm2:m≤12) (hy: -20000≤y) (hy2:y≤20000):
 (osE y m 1=0∧osN y m 1=osF u 1∧ -3000000≤osF u 1∧osF u 1≤3000000)∨(osE y m 1=2∧(osF u 1< -3000000∨3000000<osF u 1)):=by subst hu;exact os_first hm hm2 hy hy2
theorem oldsunYears_walk (n:Int) (w:World):
 Calls Try.prog 6 #[.int .i64 n] w (ValPost w (.bool true)):=by
 have st:=St.start w
 refine E.enter (nt:=91) (L:=[(0,.int .i64 n)]) Try.func6 rfl rfl rfl (args_cons (i:=0) rfl args_nil) ?_
 intro a hF
 refine wp_seq ?_
 refine E.seq ?_
 refine E.opv hF (r_assign ev_c) rfl rfl rfl rfl fun a hF=>?_
 refine E.nil ?_
 refine wp_seq ?_
 refine wp_seq ?_
 refine E.seq ?_
 refine S.callx st hF (r_call Try.func13 en13.1 en13.2 map0) (awake16_any _) rfl rfl rfl rfl fun w1 a st hF=>?_
 refine E.opv hF (r_un (hF.at 0 rfl) (bn_not _ false rfl)) rfl rfl rfl rfl fun a hF=>?_
 refine E.nil ?_
 refine wp_cond_false (hF.at 0 rfl) ?_
 refine wp_skip ?_
 refine E.norm ?_
 refine wp_seq ?_
 refine E.seq ?_
 refine E.opv hF (r_move (hF.at 3 rfl)) rfl rfl rfl rfl fun a hF=>?_
 refine E.opv hF (r_bin (hF.at 0 rfl) ev_c eg_scalar (id_rem (a:=n) (b:=11000) (by omega))) rfl rfl rfl rfl fun a hF=>?_
 refine E.opv hF (r_assign (hF.at 0 rfl)) rfl rfl rfl rfl fun a hF=>?_
 obtain⟨y,hy⟩:∃y:Int,y=(if 0≤n then n%11000 else -(-n%11000)):=⟨_,rfl⟩
 rw[←hy] at hF
 have hyb: -11000<y∧y<11000:=by have:=rem_bd (k:=n) (n:=11000) (by decide);omega
 have hf0:=os_first2 (y:=y) (m:=1) (u:=12*y) (by omega) (by omega) (by omega) (by omega) (by omega)
 have hf1:=os_first2 (y:=y+1) (m:=1) (u:=12*y+12) (by omega) (by omega) (by omega) (by omega) (by omega)
 have hyr:=osF_year (12*y)
 refine E.nil ?_
 refine wp_seq ?_
 refine E.seq ?_
 refine E.opv hF (r_move (hF.at 0 rfl)) rfl rfl rfl rfl fun a hF=>?_
 refine E.opv hF (r_build (pair3 (hF.at 0 rfl) ev_c ev_c) (bd_OSD_012 _ _ _ _)) rfl rfl rfl rfl fun a hF=>?_
 refine S.callx st hF (r_call Try.func17 en17.1 en17.2 (map1 (hF.at 0 rfl))) (osFixed_any y 1 1 _) rfl rfl rfl rfl fun w2 a st hF=>?_
 refine E.opv hF (r_move (hF.at 0 rfl)) rfl rfl rfl rfl fun a hF=>?_
 refine E.opv hF (r_extract (v:= .int .i64 (osN y 1 1)) (hF.at 0 rfl) rfl) rfl rfl rfl rfl fun a hF=>?_
 refine E.opv hF (r_extract (v:= .int .i64 (osE y 1 1)) (hF.at 1 rfl) rfl) rfl rfl rfl rfl fun a hF=>?_
 refine E.opv hF (r_assign (hF.at 1 rfl)) rfl rfl rfl rfl fun a hF=>?_
 refine E.opv hF (r_assign (hF.at 1 rfl)) rfl rfl rfl rfl fun a hF=>?_
 refine E.nil ?_
 refine wp_seq ?_
 refine E.seq ?_
 refine E.opv hF (r_move (hF.at 8 rfl)) rfl rfl rfl rfl fun a hF=>?_
 refine E.opv hF (r_bin (hF.at 0 rfl) ev_c eg_scalar (ia_add (by omega) (by omega))) rfl rfl rfl rfl fun a hF=>?_
 refine E.opv hF (r_build (pair3 (hF.at 0 rfl) ev_c ev_c) (bd_OSD_012 _ _ _ _)) rfl rfl rfl rfl fun a hF=>?_
 refine S.callx st hF (r_call Try.func17 en17.1 en17.2 (map1 (hF.at 0 rfl))) (osFixed_any (y+1) 1 1 _) rfl rfl rfl rfl fun w3 a st hF=>?_
 refine E.opv hF (r_move (hF.at 0 rfl)) rfl rfl rfl rfl fun a hF=>?_
 refine E.opv hF (r_extract (v:= .int .i64 (osN (y+1) 1 1)) (hF.at 0 rfl) rfl) rfl rfl rfl rfl fun a hF=>?_
 refine E.opv hF (r_extract (v:= .int .i64 (osE (y+1) 1 1)) (hF.at 1 rfl) rfl) rfl rfl rfl rfl fun a hF=>?_
 refine E.opv hF (r_assign (hF.at 1 rfl)) rfl rfl rfl rfl fun a hF=>?_
 refine E.opv hF (r_assign (hF.at 1 rfl)) rfl rfl rfl rfl fun a hF=>?_
 refine E.nil ?_
 refine wp_seq ?_
 refine wp_seq ?_
 refine E.seq ?_
 refine E.opv hF (r_move (hF.at 9 rfl)) rfl rfl rfl rfl fun a hF=>?_
 by_cases hc4:osE y 1 1≠0
 ·first
  |(exfalso;omega)
  |(refine E.opv hF (r_bin (hF.at 0 rfl) ev_c eg_scalar (bi_int (ic_neq (c:=true) (dec_tt hc4)) (by simp))) rfl rfl rfl rfl fun a hF=>?_
    refine E.opv hF (r_move (hF.at 0 rfl)) rfl rfl rfl rfl fun a hF=>?_
    refine E.unwanted hF (wanted_by rfl rfl (hF.at 0 rfl) rfl) rfl rfl rfl fun a hF=>?_
    refine E.unwanted hF (wanted_by rfl rfl (hF.at 1 rfl) rfl) rfl rfl rfl fun a hF=>?_
    refine E.opv hF (r_pick_t (hF.at 2 rfl) ev_c) rfl rfl rfl rfl fun a hF=>?_
    refine E.nil ?_
    refine wp_cond_true (hF.at 0 rfl) ?_
    refine wp_seq ?_
    refine E.seq ?_
    refine E.opv hF (r_move (hF.at 15 rfl)) rfl rfl rfl rfl fun a hF=>?_
    by_cases hc5:osE y 1 1=2
    ·first
     |(exfalso;omega)
     |(refine E.opv hF (r_bin (hF.at 0 rfl) ev_c eg_scalar (bi_int (ic_eql (c:=true) (dec_tt hc5)) (by simp))) rfl rfl rfl rfl fun a hF=>?_
       refine E.opv hF (r_move (hF.at 0 rfl)) rfl rfl rfl rfl fun a hF=>?_
       refine E.unwanted hF (wanted_by rfl rfl (hF.at 0 rfl) rfl) rfl rfl rfl fun a hF=>?_
       refine E.unwanted hF (wanted_by rfl rfl (hF.at 1 rfl) rfl) rfl rfl rfl fun a hF=>?_
       refine E.opv hF (r_pick_t (hF.at 2 rfl) ev_c) rfl rfl rfl rfl fun a hF=>?_
       refine E.opset (L':=[(2,.bool true),(41,.bool true),(40,undef),(39,undef),(38,.bool true),(37,.bool true),(36,.int .i64 (osE y 1 1)),(35,.bool true),(34,undef),(33,undef),(32,.bool true),(31,.bool true),(30,.int .i64 (osE y 1 1)),(7,.int .i64 (osE (y+1) 1 1)),(6,.int .i64 (osN (y+1) 1 1)),(29,.int .i64 (osE (y+1) 1 1)),(28,.int .i64 (osN (y+1) 1 1)),(23,.tuple #[.int .i64 (osN (y+1) 1 1),.int .i64 (osE (y+1) 1 1)]),(27,.tuple #[.int .i64 (osN (y+1) 1 1),.int .i64 (osE (y+1) 1 1)]),(26,.agg #[.int .i64 (y+1),.int .i64 1,.int .i64 1]),(25,.int .i64 (y+1)),(24,.int .i64 y),(5,.int .i64 (osE y 1 1)),(4,.int .i64 (osN y 1 1)),(22,.int .i64 (osE y 1 1)),(21,.int .i64 (osN y 1 1)),(17,.tuple #[.int .i64 (osN y 1 1),.int .i64 (osE y 1 1)]),(20,.tuple #[.int .i64 (osN y 1 1),.int .i64 (osE y 1 1)]),(19,.agg #[.int .i64 y,.int .i64 1,.int .i64 1]),(18,.int .i64 y),(3,.int .i64 y),(16,.int .i64 y),(15,.int .i64 n),(14,.bool false),(13,.bool true),(0,.int .i64 n)]) hF (r_assign (hF.at 0 rfl)) rfl rfl rfl rfl fun a hF=>?_
       refine E.nil ?_
       refine wp_ret ?_
       have bel:=st.bel
       refine bodyPost_ret (res_tmp Try.results6 (hF.at 0 rfl)) hF.dfr ?_
       exact⟨rfl,bel⟩)
    ·first
     |(exfalso;omega)
     |(refine E.opv hF (r_bin (hF.at 0 rfl) ev_c eg_scalar (bi_int (ic_eql (c:=false) (dec_ff hc5)) (by simp))) rfl rfl rfl rfl fun a hF=>?_
       refine E.opv hF (r_move (hF.at 0 rfl)) rfl rfl rfl rfl fun a hF=>?_
       refine E.opvg hF (r_move (hF.at 9 rfl)) (wanted_by rfl rfl (hF.at 0 rfl) rfl) rfl rfl rfl fun a hF=>?_
       by_cases hc6:osE (y+1) 1 1=2
       ·first
        |(exfalso;omega)
        |(refine E.opvg hF (r_bin (hF.at 0 rfl) ev_c eg_scalar (bi_int (ic_eql (c:=true) (dec_tt hc6)) (by simp))) (wanted_by rfl rfl (hF.at 1 rfl) rfl) rfl rfl rfl fun a hF=>?_
          refine E.opv hF (r_pick_f (hF.at 2 rfl) (hF.at 0 rfl)) rfl rfl rfl rfl fun a hF=>?_
          refine E.opset (L':=[(2,.bool true),(41,.bool true),(40,.bool true),(39,.int .i64 (osE (y+1) 1 1)),(38,.bool false),(37,.bool false),(36,.int .i64 (osE y 1 1)),(35,.bool true),(34,undef),(33,undef),(32,.bool true),(31,.bool true),(30,.int .i64 (osE y 1 1)),(7,.int .i64 (osE (y+1) 1 1)),(6,.int .i64 (osN (y+1) 1 1)),(29,.int .i64 (osE (y+1) 1 1)),(28,.int .i64 (osN (y+1) 1 1)),(23,.tuple #[.int .i64 (osN (y+1) 1 1),.int .i64 (osE (y+1) 1 1)]),(27,.tuple #[.int .i64 (osN (y+1) 1 1),.int .i64 (osE (y+1) 1 1)]),(26,.agg #[.int .i64 (y+1),.int .i64 1,.int .i64 1]),(25,.int .i64 (y+1)),(24,.int .i64 y),(5,.int .i64 (osE y 1 1)),(4,.int .i64 (osN y 1 1)),(22,.int .i64 (osE y 1 1)),(21,.int .i64 (osN y 1 1)),(17,.tuple #[.int .i64 (osN y 1 1),.int .i64 (osE y 1 1)]),(20,.tuple #[.int .i64 (osN y 1 1),.int .i64 (osE y 1 1)]),(19,.agg #[.int .i64 y,.int .i64 1,.int .i64 1]),(18,.int .i64 y),(3,.int .i64 y),(16,.int .i64 y),(15,.int .i64 n),(14,.bool false),(13,.bool true),(0,.int .i64 n)]) hF (r_assign (hF.at 0 rfl)) rfl rfl rfl rfl fun a hF=>?_
          refine E.nil ?_
          refine wp_ret ?_
          have bel:=st.bel
          refine bodyPost_ret (res_tmp Try.results6 (hF.at 0 rfl)) hF.dfr ?_
          exact⟨rfl,bel⟩)
       ·first
        |(exfalso;omega)
        |(refine E.opvg hF (r_bin (hF.at 0 rfl) ev_c eg_scalar (bi_int (ic_eql (c:=false) (dec_ff hc6)) (by simp))) (wanted_by rfl rfl (hF.at 1 rfl) rfl) rfl rfl rfl fun a hF=>?_
          refine E.opv hF (r_pick_f (hF.at 2 rfl) (hF.at 0 rfl)) rfl rfl rfl rfl fun a hF=>?_
          refine E.opset (L':=[(2,.bool false),(41,.bool false),(40,.bool false),(39,.int .i64 (osE (y+1) 1 1)),(38,.bool false),(37,.bool false),(36,.int .i64 (osE y 1 1)),(35,.bool true),(34,undef),(33,undef),(32,.bool true),(31,.bool true),(30,.int .i64 (osE y 1 1)),(7,.int .i64 (osE (y+1) 1 1)),(6,.int .i64 (osN (y+1) 1 1)),(29,.int .i64 (osE (y+1) 1 1)),(28,.int .i64 (osN (y+1) 1 1)),(23,.tuple #[.int .i64 (osN (y+1) 1 1),.int .i64 (osE (y+1) 1 1)]),(27,.tuple #[.int .i64 (osN (y+1) 1 1),.int .i64 (osE (y+1) 1 1)]),(26,.agg #[.int .i64 (y+1),.int .i64 1,.int .i64 1]),(25,.int .i64 (y+1)),(24,.int .i64 y),(5,.int .i64 (osE y 1 1)),(4,.int .i64 (osN y 1 1)),(22,.int .i64 (osE y 1 1)),(21,.int .i64 (osN y 1 1)),(17,.tuple #[.int .i64 (osN y 1 1),.int .i64 (osE y 1 1)]),(20,.tuple #[.int .i64 (osN y 1 1),.int .i64 (osE y 1 1)]),(19,.agg #[.int .i64 y,.int .i64 1,.int .i64 1]),(18,.int .i64 y),(3,.int .i64 y),(16,.int .i64 y),(15,.int .i64 n),(14,.bool false),(13,.bool true),(0,.int .i64 n)]) hF (r_assign (hF.at 0 rfl)) rfl rfl rfl rfl fun a hF=>?_
          refine E.nil ?_
          refine wp_ret ?_
          have bel:=st.bel
          refine bodyPost_ret (res_tmp Try.results6 (hF.at 0 rfl)) hF.dfr ?_
          exfalso;omega)))
 ·first
  |(exfalso;omega)
  |(refine E.opv hF (r_bin (hF.at 0 rfl) ev_c eg_scalar (bi_int (ic_neq (c:=false) (dec_ff hc4)) (by simp))) rfl rfl rfl rfl fun a hF=>?_
    refine E.opv hF (r_move (hF.at 0 rfl)) rfl rfl rfl rfl fun a hF=>?_
    refine E.opvg hF (r_move (hF.at 3 rfl)) (wanted_by rfl rfl (hF.at 0 rfl) rfl) rfl rfl rfl fun a hF=>?_
    by_cases hc7:osE (y+1) 1 1≠0
    ·first
     |(exfalso;omega)
     |(refine E.opvg hF (r_bin (hF.at 0 rfl) ev_c eg_scalar (bi_int (ic_neq (c:=true) (dec_tt hc7)) (by simp))) (wanted_by rfl rfl (hF.at 1 rfl) rfl) rfl rfl rfl fun a hF=>?_
       refine E.opv hF (r_pick_f (hF.at 2 rfl) (hF.at 0 rfl)) rfl rfl rfl rfl fun a hF=>?_
       refine E.nil ?_
       refine wp_cond_true (hF.at 0 rfl) ?_
       refine wp_seq ?_
       refine E.seq ?_
       refine E.opv hF (r_move (hF.at 15 rfl)) rfl rfl rfl rfl fun a hF=>?_
       by_cases hc8:osE y 1 1=2
       ·first
        |(exfalso;omega)
        |(refine E.opv hF (r_bin (hF.at 0 rfl) ev_c eg_scalar (bi_int (ic_eql (c:=true) (dec_tt hc8)) (by simp))) rfl rfl rfl rfl fun a hF=>?_
          refine E.opv hF (r_move (hF.at 0 rfl)) rfl rfl rfl rfl fun a hF=>?_
          refine E.unwanted hF (wanted_by rfl rfl (hF.at 0 rfl) rfl) rfl rfl rfl fun a hF=>?_
          refine E.unwanted hF (wanted_by rfl rfl (hF.at 1 rfl) rfl) rfl rfl rfl fun a hF=>?_
          refine E.opv hF (r_pick_t (hF.at 2 rfl) ev_c) rfl rfl rfl rfl fun a hF=>?_
          refine E.opset (L':=[(2,.bool true),(41,.bool true),(40,undef),(39,undef),(38,.bool true),(37,.bool true),(36,.int .i64 (osE y 1 1)),(35,.bool true),(34,.bool true),(33,.int .i64 (osE (y+1) 1 1)),(32,.bool false),(31,.bool false),(30,.int .i64 (osE y 1 1)),(7,.int .i64 (osE (y+1) 1 1)),(6,.int .i64 (osN (y+1) 1 1)),(29,.int .i64 (osE (y+1) 1 1)),(28,.int .i64 (osN (y+1) 1 1)),(23,.tuple #[.int .i64 (osN (y+1) 1 1),.int .i64 (osE (y+1) 1 1)]),(27,.tuple #[.int .i64 (osN (y+1) 1 1),.int .i64 (osE (y+1) 1 1)]),(26,.agg #[.int .i64 (y+1),.int .i64 1,.int .i64 1]),(25,.int .i64 (y+1)),(24,.int .i64 y),(5,.int .i64 (osE y 1 1)),(4,.int .i64 (osN y 1 1)),(22,.int .i64 (osE y 1 1)),(21,.int .i64 (osN y 1 1)),(17,.tuple #[.int .i64 (osN y 1 1),.int .i64 (osE y 1 1)]),(20,.tuple #[.int .i64 (osN y 1 1),.int .i64 (osE y 1 1)]),(19,.agg #[.int .i64 y,.int .i64 1,.int .i64 1]),(18,.int .i64 y),(3,.int .i64 y),(16,.int .i64 y),(15,.int .i64 n),(14,.bool false),(13,.bool true),(0,.int .i64 n)]) hF (r_assign (hF.at 0 rfl)) rfl rfl rfl rfl fun a hF=>?_
          refine E.nil ?_
          refine wp_ret ?_
          have bel:=st.bel
          refine bodyPost_ret (res_tmp Try.results6 (hF.at 0 rfl)) hF.dfr ?_
          exact⟨rfl,bel⟩)
       ·first
        |(exfalso;omega)
        |(refine E.opv hF (r_bin (hF.at 0 rfl) ev_c eg_scalar (bi_int (ic_eql (c:=false) (dec_ff hc8)) (by simp))) rfl rfl rfl rfl fun a hF=>?_
          refine E.opv hF (r_move (hF.at 0 rfl)) rfl rfl rfl rfl fun a hF=>?_
          refine E.opvg hF (r_move (hF.at 9 rfl)) (wanted_by rfl rfl (hF.at 0 rfl) rfl) rfl rfl rfl fun a hF=>?_
          by_cases hc9:osE (y+1) 1 1=2
          ·first
           |(exfalso;omega)
           |(refine E.opvg hF (r_bin (hF.at 0 rfl) ev_c eg_scalar (bi_int (ic_eql (c:=true) (dec_tt hc9)) (by simp))) (wanted_by rfl rfl (hF.at 1 rfl) rfl) rfl rfl rfl fun a hF=>?_
             refine E.opv hF (r_pick_f (hF.at 2 rfl) (hF.at 0 rfl)) rfl rfl rfl rfl fun a hF=>?_
             refine E.opset (L':=[(2,.bool true),(41,.bool true),(40,.bool true),(39,.int .i64 (osE (y+1) 1 1)),(38,.bool false),(37,.bool false),(36,.int .i64 (osE y 1 1)),(35,.bool true),(34,.bool true),(33,.int .i64 (osE (y+1) 1 1)),(32,.bool false),(31,.bool false),(30,.int .i64 (osE y 1 1)),(7,.int .i64 (osE (y+1) 1 1)),(6,.int .i64 (osN (y+1) 1 1)),(29,.int .i64 (osE (y+1) 1 1)),(28,.int .i64 (osN (y+1) 1 1)),(23,.tuple #[.int .i64 (osN (y+1) 1 1),.int .i64 (osE (y+1) 1 1)]),(27,.tuple #[.int .i64 (osN (y+1) 1 1),.int .i64 (osE (y+1) 1 1)]),(26,.agg #[.int .i64 (y+1),.int .i64 1,.int .i64 1]),(25,.int .i64 (y+1)),(24,.int .i64 y),(5,.int .i64 (osE y 1 1)),(4,.int .i64 (osN y 1 1)),(22,.int .i64 (osE y 1 1)),(21,.int .i64 (osN y 1 1)),(17,.tuple #[.int .i64 (osN y 1 1),.int .i64 (osE y 1 1)]),(20,.tuple #[.int .i64 (osN y 1 1),.int .i64 (osE y 1 1)]),(19,.agg #[.int .i64 y,.int .i64 1,.int .i64 1]),(18,.int .i64 y),(3,.int .i64 y),(16,.int .i64 y),(15,.int .i64 n),(14,.bool false),(13,.bool true),(0,.int .i64 n)]) hF (r_assign (hF.at 0 rfl)) rfl rfl rfl rfl fun a hF=>?_
             refine E.nil ?_
             refine wp_ret ?_
             have bel:=st.bel
             refine bodyPost_ret (res_tmp Try.results6 (hF.at 0 rfl)) hF.dfr ?_
             exact⟨rfl,bel⟩)
          ·first
           |(exfalso;omega)
           |(refine E.opvg hF (r_bin (hF.at 0 rfl) ev_c eg_scalar (bi_int (ic_eql (c:=false) (dec_ff hc9)) (by simp))) (wanted_by rfl rfl (hF.at 1 rfl) rfl) rfl rfl rfl fun a hF=>?_
             refine E.opv hF (r_pick_f (hF.at 2 rfl) (hF.at 0 rfl)) rfl rfl rfl rfl fun a hF=>?_
             refine E.opset (L':=[(2,.bool false),(41,.bool false),(40,.bool false),(39,.int .i64 (osE (y+1) 1 1)),(38,.bool false),(37,.bool false),(36,.int .i64 (osE y 1 1)),(35,.bool true),(34,.bool true),(33,.int .i64 (osE (y+1) 1 1)),(32,.bool false),(31,.bool false),(30,.int .i64 (osE y 1 1)),(7,.int .i64 (osE (y+1) 1 1)),(6,.int .i64 (osN (y+1) 1 1)),(29,.int .i64 (osE (y+1) 1 1)),(28,.int .i64 (osN (y+1) 1 1)),(23,.tuple #[.int .i64 (osN (y+1) 1 1),.int .i64 (osE (y+1) 1 1)]),(27,.tuple #[.int .i64 (osN (y+1) 1 1),.int .i64 (osE (y+1) 1 1)]),(26,.agg #[.int .i64 (y+1),.int .i64 1,.int .i64 1]),(25,.int .i64 (y+1)),(24,.int .i64 y),(5,.int .i64 (osE y 1 1)),(4,.int .i64 (osN y 1 1)),(22,.int .i64 (osE y 1 1)),(21,.int .i64 (osN y 1 1)),(17,.tuple #[.int .i64 (osN y 1 1),.int .i64 (osE y 1 1)]),(20,.tuple #[.int .i64 (osN y 1 1),.int .i64 (osE y 1 1)]),(19,.agg #[.int .i64 y,.int .i64 1,.int .i64 1]),(18,.int .i64 y),(3,.int .i64 y),(16,.int .i64 y),(15,.int .i64 n),(14,.bool false),(13,.bool true),(0,.int .i64 n)]) hF (r_assign (hF.at 0 rfl)) rfl rfl rfl rfl fun a hF=>?_
             refine E.nil ?_
             refine wp_ret ?_
             have bel:=st.bel
             refine bodyPost_ret (res_tmp Try.results6 (hF.at 0 rfl)) hF.dfr ?_
             exfalso;omega)))
    ·first
     |(exfalso;omega)
     |(refine E.opvg hF (r_bin (hF.at 0 rfl) ev_c eg_scalar (bi_int (ic_neq (c:=false) (dec_ff hc7)) (by simp))) (wanted_by rfl rfl (hF.at 1 rfl) rfl) rfl rfl rfl fun a hF=>?_
       refine E.opv hF (r_pick_f (hF.at 2 rfl) (hF.at 0 rfl)) rfl rfl rfl rfl fun a hF=>?_
       refine E.nil ?_
       refine wp_cond_false (hF.at 0 rfl) ?_
       refine wp_skip ?_
       refine E.norm ?_
       refine wp_seq ?_
       refine E.seq ?_
       refine E.opv hF (r_move (hF.at 16 rfl)) rfl rfl rfl rfl fun a hF=>?_
       refine E.opv hF (r_assign (hF.at 0 rfl)) rfl rfl rfl rfl fun a hF=>?_
       refine E.nil ?_
       refine wp_seq ?_
       refine wp_seq ?_
       refine E.seq ?_
       refine E.opv hF (r_assign ev_c) rfl rfl rfl rfl fun a hF=>?_
       refine E.nil ?_
       refine wp_block ?_
       refine E.loop (fun mq a wv=>∃(m:Int) (t:Int),1≤m∧m≤13∧t=osF (12*y+(m-1)) 1∧Fr 91 a [(9,.int .i64 m),(8,.int .i64 t),(6,.int .i64 (osN (y+1) 1 1)),(4,.int .i64 (osN y 1 1)),(3,.int .i64 y)]∧St w wv [] []∧mq=(13-m:Int).toNat) ((13-(1):Int).toNat) ?_ ?_
       ·exact⟨(1:Int),(osN y 1 1:Int),(by omega),(by omega),(by rw[show 12*y+((1:Int)-1)=12*y by omega];omega),Fr.pick (L':=[(9,.int .i64 1),(8,.int .i64 (osN y 1 1)),(6,.int .i64 (osN (y+1) 1 1)),(4,.int .i64 (osN y 1 1)),(3,.int .i64 y)]) hF [0,1,10,19,26] rfl,st.pick [] [] rfl rfl (by decide),rfl⟩
       ·rintro mq a w10 ⟨m,t,hm1,hm2,ht,hF,st,hm⟩
        have hfm:m+1≤12→_:=fun h=>os_first2 (y:=y) (m:=m+1) (u:=12*y+m) (by omega) (by omega) (by omega) (by omega) (by omega)
        have hlen:30≤osF (12*y+m) 1-osF (12*y+(m-1)) 1∧osF (12*y+m) 1-osF (12*y+(m-1)) 1≤31:=by
         have:=osF_len (12*y+(m-1))
         rwa[show 12*y+(m-1)+1=12*y+m by omega] at this
        have hu1:=osF_up (u:=12*y) (v:=12*y+m) (by omega)
        have hu2:m≤12→osF (12*y+m) 1≤osF (12*y+12) 1:=fun h=>osF_up (by omega)
        have hme:m=13→osF (12*y+(m-1)) 1=osF (12*y+12) 1:=fun h=>by rw[h];rfl
        have hm12:m=12→osF (12*y+m) 1=osF (12*y+12) 1:=fun h=>by rw[h]
        have hnb:=osN_bd y (m+1) 1
        have hnc:=osN_bd (y+1) 1 1
        have hub:=osF_bd (u:=12*y+(m-1)) (d:=1) (by omega) (by omega) (by omega) (by omega)
        refine wp_seq ?_
        refine wp_seq ?_
        refine E.seq ?_
        refine E.opv hF (r_move (hF.at 0 rfl)) rfl rfl rfl rfl fun a hF=>?_
        by_cases hc11:m≤12
        ·first
         |(exfalso;omega)
         |(refine E.opv hF (r_bin (hF.at 0 rfl) ev_c eg_scalar (bi_int (ic_leq (c:=true) (dec_tt hc11)) (by simp))) rfl rfl rfl rfl fun a hF=>?_
           refine E.nil ?_
           refine wp_cond_true (hF.at 0 rfl) ?_
           refine wp_skip ?_
           refine E.norm ?_
           refine wp_seq ?_
           refine wp_block ?_
           refine wp_seq ?_
           refine E.seq ?_
           refine E.opv hF (r_move (hF.at 6 rfl)) rfl rfl rfl rfl fun a hF=>?_
           refine E.opv hF (r_move (hF.at 3 rfl)) rfl rfl rfl rfl fun a hF=>?_
           refine E.opv hF (r_bin (hF.at 0 rfl) ev_c eg_scalar (ia_add (by omega) (by omega))) rfl rfl rfl rfl fun a hF=>?_
           refine E.opv hF (r_build (pair3 (hF.at 2 rfl) (hF.at 0 rfl) ev_c) (bd_OSD_012 _ _ _ _)) rfl rfl rfl rfl fun a hF=>?_
           refine S.new st hF 0 rfl ty_OSD rfl rfl rfl rfl rfl fun g10 w12 a st hF=>?_
           refine E.nil ?_
           refine wp_seq ?_
           refine wp_seq ?_
           refine E.seq ?_
           refine E.opv hF (r_move (hF.at 7 rfl)) rfl rfl rfl rfl fun a hF=>?_
           by_cases hc13:m=12
           ·first
            |(exfalso;omega)
            |(refine E.opv hF (r_bin (hF.at 0 rfl) ev_c eg_scalar (bi_int (ic_eql (c:=true) (dec_tt hc13)) (by simp))) rfl rfl rfl rfl fun a hF=>?_
              refine E.nil ?_
              refine wp_cond_true (hF.at 0 rfl) ?_
              refine E.seq ?_
              refine E.opv hF (r_move (hF.at 13 rfl)) rfl rfl rfl rfl fun a hF=>?_
              refine E.opv hF (r_bin (hF.at 0 rfl) ev_c eg_scalar (ia_add (by omega) (by omega))) rfl rfl rfl rfl fun a hF=>?_
              refine E.opv hF (r_build (pair3 (hF.at 0 rfl) ev_c ev_c) (bd_OSD_012 _ _ _ _)) rfl rfl rfl rfl fun a hF=>?_
              refine S.stoI st hF 0 rfl (hF.at 5 rfl) (hF.at 0 rfl) ty_OSD rfl rfl rfl fun w14 a st hF=>?_
              refine E.nil ?_
              refine wp_seq ?_
              refine E.seq ?_
              refine E.opv hF (r_load (hF.at 5 rfl) (ld_all ty_OSD (st.bk 0 rfl) rfl)) rfl rfl rfl rfl fun a hF=>?_
              refine S.callx st hF (r_call Try.func17 en17.1 en17.2 (map1 (hF.at 0 rfl))) (osFixed_any (y+1) 1 1 _) rfl rfl rfl rfl fun w15 a st hF=>?_
              refine E.opv hF (r_move (hF.at 0 rfl)) rfl rfl rfl rfl fun a hF=>?_
              refine E.opv hF (r_extract (v:= .int .i64 (osN (y+1) 1 1)) (hF.at 0 rfl) rfl) rfl rfl rfl rfl fun a hF=>?_
              refine E.opv hF (r_extract (v:= .int .i64 (osE (y+1) 1 1)) (hF.at 1 rfl) rfl) rfl rfl rfl rfl fun a hF=>?_
              refine E.opv hF (r_assign (hF.at 1 rfl)) rfl rfl rfl rfl fun a hF=>?_
              refine E.opv hF (r_assign (hF.at 1 rfl)) rfl rfl rfl rfl fun a hF=>?_
              refine E.nil ?_
              refine wp_seq ?_
              refine wp_seq ?_
              refine E.seq ?_
              refine E.opv hF (r_move (hF.at 0 rfl)) rfl rfl rfl rfl fun a hF=>?_
              refine E.opv hF (r_bin (hF.at 0 rfl) ev_c eg_scalar (bi_int (ic_neq (c:=false) (dec_ff hc7)) (by simp))) rfl rfl rfl rfl fun a hF=>?_
              refine E.opv hF (r_move (hF.at 0 rfl)) rfl rfl rfl rfl fun a hF=>?_
              refine E.opvg hF (r_move (hF.at 4 rfl)) (wanted_by rfl rfl (hF.at 0 rfl) rfl) rfl rfl rfl fun a hF=>?_
              refine E.opvg hF (r_move (hF.at 24 rfl)) (wanted_by rfl rfl (hF.at 1 rfl) rfl) rfl rfl rfl fun a hF=>?_
              refine E.opvg hF (r_bin (hF.at 1 rfl) (hF.at 0 rfl) eg_scalar (ia_sub (by omega) (by omega))) (wanted_by rfl rfl (hF.at 2 rfl) rfl) rfl rfl rfl fun a hF=>?_
              by_cases hc16:(osN (y+1) 1 1)-t<30
              ·first
               |(exfalso;omega)
               |(refine E.opvg hF (r_bin (hF.at 0 rfl) ev_c eg_scalar (bi_int (ic_lss (c:=true) (dec_tt hc16)) (by simp))) (wanted_by rfl rfl (hF.at 3 rfl) rfl) rfl rfl rfl fun a hF=>?_
                 refine E.opv hF (r_pick_f (hF.at 4 rfl) (hF.at 0 rfl)) rfl rfl rfl rfl fun a hF=>?_
                 refine E.opv hF (r_move (hF.at 0 rfl)) rfl rfl rfl rfl fun a hF=>?_
                 refine E.unwanted hF (wanted_by rfl rfl (hF.at 0 rfl) rfl) rfl rfl rfl fun a hF=>?_
                 refine E.unwanted hF (wanted_by rfl rfl (hF.at 1 rfl) rfl) rfl rfl rfl fun a hF=>?_
                 refine E.unwanted hF (wanted_by rfl rfl (hF.at 2 rfl) rfl) rfl rfl rfl fun a hF=>?_
                 refine E.unwanted hF (wanted_by rfl rfl (hF.at 3 rfl) rfl) rfl rfl rfl fun a hF=>?_
                 refine E.opv hF (r_pick_t (hF.at 4 rfl) ev_c) rfl rfl rfl rfl fun a hF=>?_
                 refine E.nil ?_
                 refine wp_cond_true (hF.at 0 rfl) ?_
                 refine wp_seq ?_
                 refine E.seq ?_
                 refine E.opv hF (r_assign ev_c) rfl rfl rfl rfl fun a hF=>?_
                 refine E.nil ?_
                 refine wp_ret ?_
                 have bel:=st.bel
                 refine bodyPost_ret (res_tmp Try.results6 (hF.at 0 rfl)) hF.dfr ?_
                 exfalso;omega)
              ·first
               |(exfalso;omega)
               |(refine E.opvg hF (r_bin (hF.at 0 rfl) ev_c eg_scalar (bi_int (ic_lss (c:=false) (dec_ff hc16)) (by simp))) (wanted_by rfl rfl (hF.at 3 rfl) rfl) rfl rfl rfl fun a hF=>?_
                 refine E.opv hF (r_pick_f (hF.at 4 rfl) (hF.at 0 rfl)) rfl rfl rfl rfl fun a hF=>?_
                 refine E.opv hF (r_move (hF.at 0 rfl)) rfl rfl rfl rfl fun a hF=>?_
                 refine E.opvg hF (r_move (hF.at 10 rfl)) (wanted_by rfl rfl (hF.at 0 rfl) rfl) rfl rfl rfl fun a hF=>?_
                 refine E.opvg hF (r_move (hF.at 30 rfl)) (wanted_by rfl rfl (hF.at 1 rfl) rfl) rfl rfl rfl fun a hF=>?_
                 refine E.opvg hF (r_bin (hF.at 1 rfl) (hF.at 0 rfl) eg_scalar (ia_sub (by omega) (by omega))) (wanted_by rfl rfl (hF.at 2 rfl) rfl) rfl rfl rfl fun a hF=>?_
                 by_cases hc17:31<(osN (y+1) 1 1)-t
                 ·first
                  |(exfalso;omega)
                  |(refine E.opvg hF (r_bin (hF.at 0 rfl) ev_c eg_scalar (bi_int (ic_gtr (c:=true) (dec_tt hc17)) (by simp))) (wanted_by rfl rfl (hF.at 3 rfl) rfl) rfl rfl rfl fun a hF=>?_
                    refine E.opv hF (r_pick_f (hF.at 4 rfl) (hF.at 0 rfl)) rfl rfl rfl rfl fun a hF=>?_
                    refine E.nil ?_
                    refine wp_cond_true (hF.at 0 rfl) ?_
                    refine wp_seq ?_
                    refine E.seq ?_
                    refine E.opv hF (r_assign ev_c) rfl rfl rfl rfl fun a hF=>?_
                    refine E.nil ?_
                    refine wp_ret ?_
                    have bel:=st.bel
                    refine bodyPost_ret (res_tmp Try.results6 (hF.at 0 rfl)) hF.dfr ?_
                    exfalso;omega)
                 ·first
                  |(exfalso;omega)
                  |(refine E.opvg hF (r_bin (hF.at 0 rfl) ev_c eg_scalar (bi_int (ic_gtr (c:=false) (dec_ff hc17)) (by simp))) (wanted_by rfl rfl (hF.at 3 rfl) rfl) rfl rfl rfl fun a hF=>?_
                    refine E.opv hF (r_pick_f (hF.at 4 rfl) (hF.at 0 rfl)) rfl rfl rfl rfl fun a hF=>?_
                    refine E.nil ?_
                    refine wp_cond_false (hF.at 0 rfl) ?_
                    refine wp_skip ?_
                    refine E.norm ?_
                    refine E.seq ?_
                    refine E.opv hF (r_move (hF.at 15 rfl)) rfl rfl rfl rfl fun a hF=>?_
                    refine E.opset (L':=[(8,.int .i64 (osN (y+1) 1 1)),(75,.int .i64 (osN (y+1) 1 1)),(74,.bool false),(73,.bool false),(72,.int .i64 ((osN (y+1) 1 1)-t)),(71,.int .i64 t),(70,.int .i64 (osN (y+1) 1 1)),(69,.bool false),(68,.bool false),(67,.bool false),(66,.int .i64 ((osN (y+1) 1 1)-t)),(65,.int .i64 t),(64,.int .i64 (osN (y+1) 1 1)),(63,.bool false),(62,.bool false),(61,.int .i64 (osE (y+1) 1 1)),(12,.int .i64 (osE (y+1) 1 1)),(11,.int .i64 (osN (y+1) 1 1)),(60,.int .i64 (osE (y+1) 1 1)),(59,.int .i64 (osN (y+1) 1 1)),(56,.tuple #[.int .i64 (osN (y+1) 1 1),.int .i64 (osE (y+1) 1 1)]),(58,.tuple #[.int .i64 (osN (y+1) 1 1),.int .i64 (osE (y+1) 1 1)]),(57,.agg #[.int .i64 (y+1),.int .i64 1,.int .i64 1]),(55,.agg #[.int .i64 (y+1),.int .i64 1,.int .i64 1]),(54,.int .i64 (y+1)),(53,.int .i64 y),(52,.bool true),(51,.int .i64 m),(10,.pointer (some ⟨g10,0,none⟩)),(50,.agg #[.int .i64 y,.int .i64 (m+1),.int .i64 1]),(49,.int .i64 (m+1)),(48,.int .i64 m),(47,.int .i64 y),(44,.bool true),(43,.int .i64 m),(9,.int .i64 m),(6,.int .i64 (osN (y+1) 1 1)),(4,.int .i64 (osN y 1 1)),(3,.int .i64 y)]) hF (r_assign (hF.at 0 rfl)) rfl rfl rfl rfl fun a hF=>?_
                    refine E.nil0 ?_
                    refine E.blk ?_
                    refine E.norm ?_
                    refine E.seq ?_
                    refine E.opv hF (r_move (hF.at 35 rfl)) rfl rfl rfl rfl fun a hF=>?_
                    refine E.opv hF (r_bin (hF.at 0 rfl) ev_c eg_scalar (ia_add (by omega) (by omega))) rfl rfl rfl rfl fun a hF=>?_
                    refine E.opset (L':=[(9,.int .i64 (m+1)),(46,.int .i64 (m+1)),(45,.int .i64 m),(8,.int .i64 (osN (y+1) 1 1)),(75,.int .i64 (osN (y+1) 1 1)),(74,.bool false),(73,.bool false),(72,.int .i64 ((osN (y+1) 1 1)-t)),(71,.int .i64 t),(70,.int .i64 (osN (y+1) 1 1)),(69,.bool false),(68,.bool false),(67,.bool false),(66,.int .i64 ((osN (y+1) 1 1)-t)),(65,.int .i64 t),(64,.int .i64 (osN (y+1) 1 1)),(63,.bool false),(62,.bool false),(61,.int .i64 (osE (y+1) 1 1)),(12,.int .i64 (osE (y+1) 1 1)),(11,.int .i64 (osN (y+1) 1 1)),(60,.int .i64 (osE (y+1) 1 1)),(59,.int .i64 (osN (y+1) 1 1)),(56,.tuple #[.int .i64 (osN (y+1) 1 1),.int .i64 (osE (y+1) 1 1)]),(58,.tuple #[.int .i64 (osN (y+1) 1 1),.int .i64 (osE (y+1) 1 1)]),(57,.agg #[.int .i64 (y+1),.int .i64 1,.int .i64 1]),(55,.agg #[.int .i64 (y+1),.int .i64 1,.int .i64 1]),(54,.int .i64 (y+1)),(53,.int .i64 y),(52,.bool true),(51,.int .i64 m),(10,.pointer (some ⟨g10,0,none⟩)),(50,.agg #[.int .i64 y,.int .i64 (m+1),.int .i64 1]),(49,.int .i64 (m+1)),(48,.int .i64 m),(47,.int .i64 y),(44,.bool true),(43,.int .i64 m),(6,.int .i64 (osN (y+1) 1 1)),(4,.int .i64 (osN y 1 1)),(3,.int .i64 y)]) hF (r_assign (hF.at 0 rfl)) rfl rfl rfl rfl fun a hF=>?_
                    refine E.nil0 ?_
                    refine E.norm ?_
                    exact⟨(13-(m+1):Int).toNat,by omega,⟨(m+1:Int),(osN (y+1) 1 1:Int),(by omega),(by omega),(by rw[show 12*y+(m+1-1)=12*y+m by omega];omega),Fr.pick (L':=[(9,.int .i64 (m+1)),(8,.int .i64 (osN (y+1) 1 1)),(6,.int .i64 (osN (y+1) 1 1)),(4,.int .i64 (osN y 1 1)),(3,.int .i64 y)]) hF [0,3,38,39,40] rfl,st.pick [] [] rfl rfl (by decide),rfl⟩⟩)))
           ·first
            |(exfalso;omega)
            |(refine E.opv hF (r_bin (hF.at 0 rfl) ev_c eg_scalar (bi_int (ic_eql (c:=false) (dec_ff hc13)) (by simp))) rfl rfl rfl rfl fun a hF=>?_
              refine E.nil ?_
              refine wp_cond_false (hF.at 0 rfl) ?_
              refine wp_skip ?_
              refine E.norm ?_
              refine wp_seq ?_
              refine E.seq ?_
              refine E.opv hF (r_load (hF.at 2 rfl) (ld_all ty_OSD (st.bk 0 rfl) rfl)) rfl rfl rfl rfl fun a hF=>?_
              refine S.callx st hF (r_call Try.func17 en17.1 en17.2 (map1 (hF.at 0 rfl))) (osFixed_any y (m+1) 1 _) rfl rfl rfl rfl fun w18 a st hF=>?_
              refine E.opv hF (r_move (hF.at 0 rfl)) rfl rfl rfl rfl fun a hF=>?_
              refine E.opv hF (r_extract (v:= .int .i64 (osN y (m+1) 1)) (hF.at 0 rfl) rfl) rfl rfl rfl rfl fun a hF=>?_
              refine E.opv hF (r_extract (v:= .int .i64 (osE y (m+1) 1)) (hF.at 1 rfl) rfl) rfl rfl rfl rfl fun a hF=>?_
              refine E.opv hF (r_assign (hF.at 1 rfl)) rfl rfl rfl rfl fun a hF=>?_
              refine E.opv hF (r_assign (hF.at 1 rfl)) rfl rfl rfl rfl fun a hF=>?_
              refine E.nil ?_
              refine wp_seq ?_
              refine wp_seq ?_
              refine E.seq ?_
              refine E.opv hF (r_move (hF.at 0 rfl)) rfl rfl rfl rfl fun a hF=>?_
              by_cases hc19:osE y (m+1) 1≠0
              ·first
               |(exfalso;omega)
               |(refine E.opv hF (r_bin (hF.at 0 rfl) ev_c eg_scalar (bi_int (ic_neq (c:=true) (dec_tt hc19)) (by simp))) rfl rfl rfl rfl fun a hF=>?_
                 refine E.opv hF (r_move (hF.at 0 rfl)) rfl rfl rfl rfl fun a hF=>?_
                 refine E.unwanted hF (wanted_by rfl rfl (hF.at 0 rfl) rfl) rfl rfl rfl fun a hF=>?_
                 refine E.unwanted hF (wanted_by rfl rfl (hF.at 1 rfl) rfl) rfl rfl rfl fun a hF=>?_
                 refine E.unwanted hF (wanted_by rfl rfl (hF.at 2 rfl) rfl) rfl rfl rfl fun a hF=>?_
                 refine E.unwanted hF (wanted_by rfl rfl (hF.at 3 rfl) rfl) rfl rfl rfl fun a hF=>?_
                 refine E.opv hF (r_pick_t (hF.at 4 rfl) ev_c) rfl rfl rfl rfl fun a hF=>?_
                 refine E.opv hF (r_move (hF.at 0 rfl)) rfl rfl rfl rfl fun a hF=>?_
                 refine E.unwanted hF (wanted_by rfl rfl (hF.at 0 rfl) rfl) rfl rfl rfl fun a hF=>?_
                 refine E.unwanted hF (wanted_by rfl rfl (hF.at 1 rfl) rfl) rfl rfl rfl fun a hF=>?_
                 refine E.unwanted hF (wanted_by rfl rfl (hF.at 2 rfl) rfl) rfl rfl rfl fun a hF=>?_
                 refine E.unwanted hF (wanted_by rfl rfl (hF.at 3 rfl) rfl) rfl rfl rfl fun a hF=>?_
                 refine E.opv hF (r_pick_t (hF.at 4 rfl) ev_c) rfl rfl rfl rfl fun a hF=>?_
                 refine E.nil ?_
                 refine wp_cond_true (hF.at 0 rfl) ?_
                 refine wp_seq ?_
                 refine E.seq ?_
                 refine E.opv hF (r_assign ev_c) rfl rfl rfl rfl fun a hF=>?_
                 refine E.nil ?_
                 refine wp_ret ?_
                 have bel:=st.bel
                 refine bodyPost_ret (res_tmp Try.results6 (hF.at 0 rfl)) hF.dfr ?_
                 exfalso;omega)
              ·first
               |(exfalso;omega)
               |(refine E.opv hF (r_bin (hF.at 0 rfl) ev_c eg_scalar (bi_int (ic_neq (c:=false) (dec_ff hc19)) (by simp))) rfl rfl rfl rfl fun a hF=>?_
                 refine E.opv hF (r_move (hF.at 0 rfl)) rfl rfl rfl rfl fun a hF=>?_
                 refine E.opvg hF (r_move (hF.at 4 rfl)) (wanted_by rfl rfl (hF.at 0 rfl) rfl) rfl rfl rfl fun a hF=>?_
                 refine E.opvg hF (r_move (hF.at 21 rfl)) (wanted_by rfl rfl (hF.at 1 rfl) rfl) rfl rfl rfl fun a hF=>?_
                 refine E.opvg hF (r_bin (hF.at 1 rfl) (hF.at 0 rfl) eg_scalar (ia_sub (by omega) (by omega))) (wanted_by rfl rfl (hF.at 2 rfl) rfl) rfl rfl rfl fun a hF=>?_
                 by_cases hc20:(osN y (m+1) 1)-t<30
                 ·first
                  |(exfalso;omega)
                  |(refine E.opvg hF (r_bin (hF.at 0 rfl) ev_c eg_scalar (bi_int (ic_lss (c:=true) (dec_tt hc20)) (by simp))) (wanted_by rfl rfl (hF.at 3 rfl) rfl) rfl rfl rfl fun a hF=>?_
                    refine E.opv hF (r_pick_f (hF.at 4 rfl) (hF.at 0 rfl)) rfl rfl rfl rfl fun a hF=>?_
                    refine E.opv hF (r_move (hF.at 0 rfl)) rfl rfl rfl rfl fun a hF=>?_
                    refine E.unwanted hF (wanted_by rfl rfl (hF.at 0 rfl) rfl) rfl rfl rfl fun a hF=>?_
                    refine E.unwanted hF (wanted_by rfl rfl (hF.at 1 rfl) rfl) rfl rfl rfl fun a hF=>?_
                    refine E.unwanted hF (wanted_by rfl rfl (hF.at 2 rfl) rfl) rfl rfl rfl fun a hF=>?_
                    refine E.unwanted hF (wanted_by rfl rfl (hF.at 3 rfl) rfl) rfl rfl rfl fun a hF=>?_
                    refine E.opv hF (r_pick_t (hF.at 4 rfl) ev_c) rfl rfl rfl rfl fun a hF=>?_
                    refine E.nil ?_
                    refine wp_cond_true (hF.at 0 rfl) ?_
                    refine wp_seq ?_
                    refine E.seq ?_
                    refine E.opv hF (r_assign ev_c) rfl rfl rfl rfl fun a hF=>?_
                    refine E.nil ?_
                    refine wp_ret ?_
                    have bel:=st.bel
                    refine bodyPost_ret (res_tmp Try.results6 (hF.at 0 rfl)) hF.dfr ?_
                    exfalso;omega)
                 ·first
                  |(exfalso;omega)
                  |(refine E.opvg hF (r_bin (hF.at 0 rfl) ev_c eg_scalar (bi_int (ic_lss (c:=false) (dec_ff hc20)) (by simp))) (wanted_by rfl rfl (hF.at 3 rfl) rfl) rfl rfl rfl fun a hF=>?_
                    refine E.opv hF (r_pick_f (hF.at 4 rfl) (hF.at 0 rfl)) rfl rfl rfl rfl fun a hF=>?_
                    refine E.opv hF (r_move (hF.at 0 rfl)) rfl rfl rfl rfl fun a hF=>?_
                    refine E.opvg hF (r_move (hF.at 10 rfl)) (wanted_by rfl rfl (hF.at 0 rfl) rfl) rfl rfl rfl fun a hF=>?_
                    refine E.opvg hF (r_move (hF.at 27 rfl)) (wanted_by rfl rfl (hF.at 1 rfl) rfl) rfl rfl rfl fun a hF=>?_
                    refine E.opvg hF (r_bin (hF.at 1 rfl) (hF.at 0 rfl) eg_scalar (ia_sub (by omega) (by omega))) (wanted_by rfl rfl (hF.at 2 rfl) rfl) rfl rfl rfl fun a hF=>?_
                    by_cases hc21:31<(osN y (m+1) 1)-t
                    ·first
                     |(exfalso;omega)
                     |(refine E.opvg hF (r_bin (hF.at 0 rfl) ev_c eg_scalar (bi_int (ic_gtr (c:=true) (dec_tt hc21)) (by simp))) (wanted_by rfl rfl (hF.at 3 rfl) rfl) rfl rfl rfl fun a hF=>?_
                       refine E.opv hF (r_pick_f (hF.at 4 rfl) (hF.at 0 rfl)) rfl rfl rfl rfl fun a hF=>?_
                       refine E.nil ?_
                       refine wp_cond_true (hF.at 0 rfl) ?_
                       refine wp_seq ?_
                       refine E.seq ?_
                       refine E.opv hF (r_assign ev_c) rfl rfl rfl rfl fun a hF=>?_
                       refine E.nil ?_
                       refine wp_ret ?_
                       have bel:=st.bel
                       refine bodyPost_ret (res_tmp Try.results6 (hF.at 0 rfl)) hF.dfr ?_
                       exfalso;omega)
                    ·first
                     |(exfalso;omega)
                     |(refine E.opvg hF (r_bin (hF.at 0 rfl) ev_c eg_scalar (bi_int (ic_gtr (c:=false) (dec_ff hc21)) (by simp))) (wanted_by rfl rfl (hF.at 3 rfl) rfl) rfl rfl rfl fun a hF=>?_
                       refine E.opv hF (r_pick_f (hF.at 4 rfl) (hF.at 0 rfl)) rfl rfl rfl rfl fun a hF=>?_
                       refine E.nil ?_
                       refine wp_cond_false (hF.at 0 rfl) ?_
                       refine wp_skip ?_
                       refine E.norm ?_
                       refine E.seq ?_
                       refine E.opv hF (r_move (hF.at 15 rfl)) rfl rfl rfl rfl fun a hF=>?_
                       refine E.opset (L':=[(8,.int .i64 (osN y (m+1) 1)),(75,.int .i64 (osN y (m+1) 1)),(74,.bool false),(73,.bool false),(72,.int .i64 ((osN y (m+1) 1)-t)),(71,.int .i64 t),(70,.int .i64 (osN y (m+1) 1)),(69,.bool false),(68,.bool false),(67,.bool false),(66,.int .i64 ((osN y (m+1) 1)-t)),(65,.int .i64 t),(64,.int .i64 (osN y (m+1) 1)),(63,.bool false),(62,.bool false),(61,.int .i64 (osE y (m+1) 1)),(12,.int .i64 (osE y (m+1) 1)),(11,.int .i64 (osN y (m+1) 1)),(60,.int .i64 (osE y (m+1) 1)),(59,.int .i64 (osN y (m+1) 1)),(56,.tuple #[.int .i64 (osN y (m+1) 1),.int .i64 (osE y (m+1) 1)]),(58,.tuple #[.int .i64 (osN y (m+1) 1),.int .i64 (osE y (m+1) 1)]),(57,.agg #[.int .i64 y,.int .i64 (m+1),.int .i64 1]),(52,.bool false),(51,.int .i64 m),(10,.pointer (some ⟨g10,0,none⟩)),(50,.agg #[.int .i64 y,.int .i64 (m+1),.int .i64 1]),(49,.int .i64 (m+1)),(48,.int .i64 m),(47,.int .i64 y),(44,.bool true),(43,.int .i64 m),(9,.int .i64 m),(6,.int .i64 (osN (y+1) 1 1)),(4,.int .i64 (osN y 1 1)),(3,.int .i64 y)]) hF (r_assign (hF.at 0 rfl)) rfl rfl rfl rfl fun a hF=>?_
                       refine E.nil0 ?_
                       refine E.blk ?_
                       refine E.norm ?_
                       refine E.seq ?_
                       refine E.opv hF (r_move (hF.at 32 rfl)) rfl rfl rfl rfl fun a hF=>?_
                       refine E.opv hF (r_bin (hF.at 0 rfl) ev_c eg_scalar (ia_add (by omega) (by omega))) rfl rfl rfl rfl fun a hF=>?_
                       refine E.opset (L':=[(9,.int .i64 (m+1)),(46,.int .i64 (m+1)),(45,.int .i64 m),(8,.int .i64 (osN y (m+1) 1)),(75,.int .i64 (osN y (m+1) 1)),(74,.bool false),(73,.bool false),(72,.int .i64 ((osN y (m+1) 1)-t)),(71,.int .i64 t),(70,.int .i64 (osN y (m+1) 1)),(69,.bool false),(68,.bool false),(67,.bool false),(66,.int .i64 ((osN y (m+1) 1)-t)),(65,.int .i64 t),(64,.int .i64 (osN y (m+1) 1)),(63,.bool false),(62,.bool false),(61,.int .i64 (osE y (m+1) 1)),(12,.int .i64 (osE y (m+1) 1)),(11,.int .i64 (osN y (m+1) 1)),(60,.int .i64 (osE y (m+1) 1)),(59,.int .i64 (osN y (m+1) 1)),(56,.tuple #[.int .i64 (osN y (m+1) 1),.int .i64 (osE y (m+1) 1)]),(58,.tuple #[.int .i64 (osN y (m+1) 1),.int .i64 (osE y (m+1) 1)]),(57,.agg #[.int .i64 y,.int .i64 (m+1),.int .i64 1]),(52,.bool false),(51,.int .i64 m),(10,.pointer (some ⟨g10,0,none⟩)),(50,.agg #[.int .i64 y,.int .i64 (m+1),.int .i64 1]),(49,.int .i64 (m+1)),(48,.int .i64 m),(47,.int .i64 y),(44,.bool true),(43,.int .i64 m),(6,.int .i64 (osN (y+1) 1 1)),(4,.int .i64 (osN y 1 1)),(3,.int .i64 y)]) hF (r_assign (hF.at 0 rfl)) rfl rfl rfl rfl fun a hF=>?_
                       refine E.nil0 ?_
                       refine E.norm ?_
                       exact⟨(13-(m+1):Int).toNat,by omega,⟨(m+1:Int),(osN y (m+1) 1:Int),(by omega),(by omega),(by rw[show 12*y+(m+1-1)=12*y+m by omega];omega),Fr.pick (L':=[(9,.int .i64 (m+1)),(8,.int .i64 (osN y (m+1) 1)),(6,.int .i64 (osN (y+1) 1 1)),(4,.int .i64 (osN y 1 1)),(3,.int .i64 y)]) hF [0,3,35,36,37] rfl,st.pick [] [] rfl rfl (by decide),rfl⟩⟩)))))
        ·first
         |(exfalso;omega)
         |(refine E.opv hF (r_bin (hF.at 0 rfl) ev_c eg_scalar (bi_int (ic_leq (c:=false) (dec_ff hc11)) (by simp))) rfl rfl rfl rfl fun a hF=>?_
           refine E.nil ?_
           refine wp_cond_false (hF.at 0 rfl) ?_
           refine wp_exit ?_
           refine E.past ?_
           refine E.past ?_
           refine E.out (id:=0) ?_
           refine E.norm ?_
           refine wp_seq ?_
           refine E.seq ?_
           refine E.opv hF (r_move (hF.at 3 rfl)) rfl rfl rfl rfl fun a hF=>?_
           refine E.opv hF (r_move (hF.at 5 rfl)) rfl rfl rfl rfl fun a hF=>?_
           by_cases hc22:t=osN (y+1) 1 1
           ·first
            |(exfalso;omega)
            |(refine E.opv hF (r_bin (hF.at 1 rfl) (hF.at 0 rfl) eg_scalar (bi_int (ic_eql (c:=true) (dec_tt hc22)) (by simp))) rfl rfl rfl rfl fun a hF=>?_
              refine E.opv hF (r_move (hF.at 0 rfl)) rfl rfl rfl rfl fun a hF=>?_
              refine E.opvg hF (r_move (hF.at 8 rfl)) (wanted_by rfl rfl (hF.at 0 rfl) rfl) rfl rfl rfl fun a hF=>?_
              refine E.opvg hF (r_move (hF.at 10 rfl)) (wanted_by rfl rfl (hF.at 1 rfl) rfl) rfl rfl rfl fun a hF=>?_
              refine E.opvg hF (r_bin (hF.at 1 rfl) (hF.at 0 rfl) eg_scalar (ia_sub (by omega) (by omega))) (wanted_by rfl rfl (hF.at 2 rfl) rfl) rfl rfl rfl fun a hF=>?_
              by_cases hc23:365≤(osN (y+1) 1 1)-(osN y 1 1)
              ·first
               |(exfalso;omega)
               |(refine E.opvg hF (r_bin (hF.at 0 rfl) ev_c eg_scalar (bi_int (ic_geq (c:=true) (dec_tt hc23)) (by simp))) (wanted_by rfl rfl (hF.at 3 rfl) rfl) rfl rfl rfl fun a hF=>?_
                 refine E.opv hF (r_pick_t (hF.at 4 rfl) (hF.at 0 rfl)) rfl rfl rfl rfl fun a hF=>?_
                 refine E.opv hF (r_move (hF.at 0 rfl)) rfl rfl rfl rfl fun a hF=>?_
                 refine E.opvg hF (r_move (hF.at 14 rfl)) (wanted_by rfl rfl (hF.at 0 rfl) rfl) rfl rfl rfl fun a hF=>?_
                 refine E.opvg hF (r_move (hF.at 16 rfl)) (wanted_by rfl rfl (hF.at 1 rfl) rfl) rfl rfl rfl fun a hF=>?_
                 refine E.opvg hF (r_bin (hF.at 1 rfl) (hF.at 0 rfl) eg_scalar (ia_sub (by omega) (by omega))) (wanted_by rfl rfl (hF.at 2 rfl) rfl) rfl rfl rfl fun a hF=>?_
                 by_cases hc24:(osN (y+1) 1 1)-(osN y 1 1)≤366
                 ·first
                  |(exfalso;omega)
                  |(refine E.opvg hF (r_bin (hF.at 0 rfl) ev_c eg_scalar (bi_int (ic_leq (c:=true) (dec_tt hc24)) (by simp))) (wanted_by rfl rfl (hF.at 3 rfl) rfl) rfl rfl rfl fun a hF=>?_
                    refine E.opv hF (r_pick_t (hF.at 4 rfl) (hF.at 0 rfl)) rfl rfl rfl rfl fun a hF=>?_
                    refine E.opv hF (r_assign (hF.at 0 rfl)) rfl rfl rfl rfl fun a hF=>?_
                    refine E.nil ?_
                    refine wp_ret ?_
                    have bel:=st.bel
                    refine bodyPost_ret (res_tmp Try.results6 (hF.at 0 rfl)) hF.dfr ?_
                    exact⟨rfl,bel⟩)
                 ·first
                  |(exfalso;omega)
                  |(refine E.opvg hF (r_bin (hF.at 0 rfl) ev_c eg_scalar (bi_int (ic_leq (c:=false) (dec_ff hc24)) (by simp))) (wanted_by rfl rfl (hF.at 3 rfl) rfl) rfl rfl rfl fun a hF=>?_
                    refine E.opv hF (r_pick_t (hF.at 4 rfl) (hF.at 0 rfl)) rfl rfl rfl rfl fun a hF=>?_
                    refine E.opv hF (r_assign (hF.at 0 rfl)) rfl rfl rfl rfl fun a hF=>?_
                    refine E.nil ?_
                    refine wp_ret ?_
                    have bel:=st.bel
                    refine bodyPost_ret (res_tmp Try.results6 (hF.at 0 rfl)) hF.dfr ?_
                    exfalso;omega))
              ·first
               |(exfalso;omega)
               |(refine E.opvg hF (r_bin (hF.at 0 rfl) ev_c eg_scalar (bi_int (ic_geq (c:=false) (dec_ff hc23)) (by simp))) (wanted_by rfl rfl (hF.at 3 rfl) rfl) rfl rfl rfl fun a hF=>?_
                 refine E.opv hF (r_pick_t (hF.at 4 rfl) (hF.at 0 rfl)) rfl rfl rfl rfl fun a hF=>?_
                 refine E.opv hF (r_move (hF.at 0 rfl)) rfl rfl rfl rfl fun a hF=>?_
                 refine E.unwanted hF (wanted_by rfl rfl (hF.at 0 rfl) rfl) rfl rfl rfl fun a hF=>?_
                 refine E.unwanted hF (wanted_by rfl rfl (hF.at 1 rfl) rfl) rfl rfl rfl fun a hF=>?_
                 refine E.unwanted hF (wanted_by rfl rfl (hF.at 2 rfl) rfl) rfl rfl rfl fun a hF=>?_
                 refine E.unwanted hF (wanted_by rfl rfl (hF.at 3 rfl) rfl) rfl rfl rfl fun a hF=>?_
                 refine E.opv hF (r_pick_f (hF.at 4 rfl) ev_c) rfl rfl rfl rfl fun a hF=>?_
                 refine E.opv hF (r_assign (hF.at 0 rfl)) rfl rfl rfl rfl fun a hF=>?_
                 refine E.nil ?_
                 refine wp_ret ?_
                 have bel:=st.bel
                 refine bodyPost_ret (res_tmp Try.results6 (hF.at 0 rfl)) hF.dfr ?_
                 exfalso;omega))
           ·first
            |(exfalso;omega)
            |(refine E.opv hF (r_bin (hF.at 1 rfl) (hF.at 0 rfl) eg_scalar (bi_int (ic_eql (c:=false) (dec_ff hc22)) (by simp))) rfl rfl rfl rfl fun a hF=>?_
              refine E.opv hF (r_move (hF.at 0 rfl)) rfl rfl rfl rfl fun a hF=>?_
              refine E.unwanted hF (wanted_by rfl rfl (hF.at 0 rfl) rfl) rfl rfl rfl fun a hF=>?_
              refine E.unwanted hF (wanted_by rfl rfl (hF.at 1 rfl) rfl) rfl rfl rfl fun a hF=>?_
              refine E.unwanted hF (wanted_by rfl rfl (hF.at 2 rfl) rfl) rfl rfl rfl fun a hF=>?_
              refine E.unwanted hF (wanted_by rfl rfl (hF.at 3 rfl) rfl) rfl rfl rfl fun a hF=>?_
              refine E.opv hF (r_pick_f (hF.at 4 rfl) ev_c) rfl rfl rfl rfl fun a hF=>?_
              refine E.opv hF (r_move (hF.at 0 rfl)) rfl rfl rfl rfl fun a hF=>?_
              refine E.unwanted hF (wanted_by rfl rfl (hF.at 0 rfl) rfl) rfl rfl rfl fun a hF=>?_
              refine E.unwanted hF (wanted_by rfl rfl (hF.at 1 rfl) rfl) rfl rfl rfl fun a hF=>?_
              refine E.unwanted hF (wanted_by rfl rfl (hF.at 2 rfl) rfl) rfl rfl rfl fun a hF=>?_
              refine E.unwanted hF (wanted_by rfl rfl (hF.at 3 rfl) rfl) rfl rfl rfl fun a hF=>?_
              refine E.opv hF (r_pick_f (hF.at 4 rfl) ev_c) rfl rfl rfl rfl fun a hF=>?_
              refine E.opv hF (r_assign (hF.at 0 rfl)) rfl rfl rfl rfl fun a hF=>?_
              refine E.nil ?_
              refine wp_ret ?_
              have bel:=st.bel
              refine bodyPost_ret (res_tmp Try.results6 (hF.at 0 rfl)) hF.dfr ?_
              exfalso;omega))))
end Go.Proofs.Ytacnedknihlfnaa
