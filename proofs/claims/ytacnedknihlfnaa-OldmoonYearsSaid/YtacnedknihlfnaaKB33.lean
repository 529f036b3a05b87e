import Derived.Test.YtacnedknihlfnaaKB31
import Derived.Test.YtacnedknihlfnaaKB32
namespace Go.Proofs.Ytacnedknihlfnaa
open Go.RowKit
set_option maxRecDepth 100000
set_option linter.unusedVariables false
set_option maxHeartbeats 8000000
theorem en24:(Try.f24.name == "runtime.NumGoroutine")=false∧Try.f24.body.isNone=false:=⟨by decide+kernel,by kernel_rfl⟩
theorem en27:(Try.f27.name == "runtime.NumGoroutine")=false∧Try.f27.body.isNone=false:=⟨by decide+kernel,by kernel_rfl⟩
theorem awake17_any (w:World):
 Calls Try.prog 24 #[] w (ValPost w (.bool true)):=by
 have st:=St.start w
 refine E.enter (nt:=36) (L:=[]) Try.func24 rfl rfl rfl args_nil ?_
 intro a hF
 refine wp_seq ?_
 refine E.seq ?_
 refine E.opv hF (r_assign ev_c) rfl rfl rfl rfl fun a hF=>?_
 refine E.nil ?_
 refine wp_seq ?_
 refine E.seq ?_
 by_cases hc1: -3000000≤(-1132959)∧(-1132959)≤3000000
 ·first
  |(exfalso;omega)
  |(refine S.callx st hF (r_call Try.func25 en25.1 en25.2 (map1 ev_c)) (omOf_any (-1132959) _ (by omega) (by omega)) rfl rfl rfl rfl fun w2 a st hF=>?_
    have hmd1:=om_day ((-1132959))
    have hmj1:=omJ_in (n:=(-1132959)) (by omega) (by omega)
    have hmu1:=omU_lim (j:=omJ (-1132959)) (by omega) (by omega)
    refine E.opv hF (r_move (hF.at 0 rfl)) rfl rfl rfl rfl fun a hF=>?_
    refine E.opv hF (r_extract (v:= .agg #[.int .i64 (omU (omJ (-1132959))/12),.int .i64 (omU (omJ (-1132959))%12+1),.bool (decide (omU (omJ (-1132959)+1)=omU (omJ (-1132959)))),.int .i64 (omL (-1132959)-30*omJ (-1132959)+1)]) (hF.at 0 rfl) rfl) rfl rfl rfl rfl fun a hF=>?_
    refine E.opv hF (r_extract (v:= .int .i64 0) (hF.at 1 rfl) rfl) rfl rfl rfl rfl fun a hF=>?_
    refine S.new st hF 1 rfl ty_OMD rfl rfl rfl rfl rfl fun g1 w3 a st hF=>?_
    refine E.opv hF (r_assign (hF.at 1 rfl)) rfl rfl rfl rfl fun a hF=>?_
    refine E.nil ?_
    refine wp_seq ?_
    refine E.seq ?_
    refine E.opv hF (r_load (hF.at 1 rfl) (ld_all ty_OMD (st.bk 0 rfl) rfl)) rfl rfl rfl rfl fun a hF=>?_
    refine S.callx st hF (r_call Try.func26 en26.1 en26.2 (map1 (hF.at 0 rfl))) (omFixed_any (omU (omJ (-1132959))/12) (omU (omJ (-1132959))%12+1) (decide (omU (omJ (-1132959)+1)=omU (omJ (-1132959)))) (omL (-1132959)-30*omJ (-1132959)+1) _) rfl rfl rfl rfl fun w4 a st hF=>?_
    refine E.opv hF (r_move (hF.at 0 rfl)) rfl rfl rfl rfl fun a hF=>?_
    refine E.opv hF (r_extract (v:= .int .i64 (omM (omU (omJ (-1132959))/12) (omU (omJ (-1132959))%12+1) (decide (omU (omJ (-1132959)+1)=omU (omJ (-1132959)))) (omL (-1132959)-30*omJ (-1132959)+1))) (hF.at 0 rfl) rfl) rfl rfl rfl rfl fun a hF=>?_
    refine E.opv hF (r_extract (v:= .int .i64 (omE (omU (omJ (-1132959))/12) (omU (omJ (-1132959))%12+1) (decide (omU (omJ (-1132959)+1)=omU (omJ (-1132959)))) (omL (-1132959)-30*omJ (-1132959)+1))) (hF.at 1 rfl) rfl) rfl rfl rfl rfl fun a hF=>?_
    refine E.opv hF (r_assign (hF.at 1 rfl)) rfl rfl rfl rfl fun a hF=>?_
    refine E.opv hF (r_assign (hF.at 1 rfl)) rfl rfl rfl rfl fun a hF=>?_
    refine E.nil ?_
    refine wp_seq ?_
    refine E.seq ?_
    refine E.opv hF (r_load (hF.at 8 rfl) (ld_all ty_OMD (st.bk 0 rfl) rfl)) rfl rfl rfl rfl fun a hF=>?_
    refine E.opv hF (r_build (pair2 ev_c ev_c) (bd_OMD_13 _ _ _)) rfl rfl rfl rfl fun a hF=>?_
    refine E.opv hF (r_bin (hF.at 1 rfl) (hF.at 0 rfl) eg_OMD (es_OMD (dec_tt (by decide+kernel)))) rfl rfl rfl rfl fun a hF=>?_
    refine E.opv hF (r_move (hF.at 0 rfl)) rfl rfl rfl rfl fun a hF=>?_
    refine E.opvg hF (r_move (hF.at 11 rfl)) (wanted_by rfl rfl (hF.at 0 rfl) rfl) rfl rfl rfl fun a hF=>?_
    refine E.opvg hF (r_bin (hF.at 0 rfl) ev_c eg_scalar (bi_int (ic_eql (c:=true) (by decide)) (by simp))) (wanted_by rfl rfl (hF.at 1 rfl) rfl) rfl rfl rfl fun a hF=>?_
    refine E.opv hF (r_pick_t (hF.at 2 rfl) (hF.at 0 rfl)) rfl rfl rfl rfl fun a hF=>?_
    refine E.opv hF (r_move (hF.at 0 rfl)) rfl rfl rfl rfl fun a hF=>?_
    refine E.opvg hF (r_move (hF.at 9 rfl)) (wanted_by rfl rfl (hF.at 0 rfl) rfl) rfl rfl rfl fun a hF=>?_
    refine E.opvg hF (r_bin (hF.at 0 rfl) ev_c eg_scalar (bi_int (ic_eql (c:=true) (dec_tt (by decide+kernel))) (by simp))) (wanted_by rfl rfl (hF.at 1 rfl) rfl) rfl rfl rfl fun a hF=>?_
    refine E.opv hF (r_pick_t (hF.at 2 rfl) (hF.at 0 rfl)) rfl rfl rfl rfl fun a hF=>?_
    refine E.opv hF (r_move (hF.at 0 rfl)) rfl rfl rfl rfl fun a hF=>?_
    refine E.opvg hF (r_move (hF.at 12 rfl)) (wanted_by rfl rfl (hF.at 0 rfl) rfl) rfl rfl rfl fun a hF=>?_
    refine E.opvg hF (r_bin (hF.at 0 rfl) ev_c eg_scalar (bi_int (ic_eql (c:=true) (dec_tt (by decide+kernel))) (by simp))) (wanted_by rfl rfl (hF.at 1 rfl) rfl) rfl rfl rfl fun a hF=>?_
    refine E.opv hF (r_pick_t (hF.at 2 rfl) (hF.at 0 rfl)) rfl rfl rfl rfl fun a hF=>?_
    refine E.opv hF (r_move (hF.at 0 rfl)) rfl rfl rfl rfl fun a hF=>?_
    refine S.callg st hF (wanted_by rfl rfl (hF.at 0 rfl) rfl) (r_call Try.func50 en50.1 en50.2 map0) (omDay_any _) (fun _ _ h=>h) Rq.cl rfl rfl rfl fun vv6 w5 a st hF=>?_
    obtain⟨b8,ad8,n8,c8,ae8,m8,d8,rfl⟩:=Rq.form (st.f 0 rfl)
    refine S.callg st hF (wanted_by rfl rfl (hF.at 1 rfl) rfl) (r_call Try.func40 en40.1 en40.2 (map1 ev_c)) (rWhole_any (30) _ (by decide) (by decide)) (fun _ _ h=>h) Rq.cl rfl rfl rfl fun vv10 w9 a st hF=>?_
    obtain⟨b12,ad12,n12,c12,ae12,m12,d12,rfl⟩:=Rq.form (st.f 0 rfl)
    refine S.callg st hF (wanted_by rfl rfl (hF.at 2 rfl) rfl) (r_call Try.func51 en51.1 en51.2 (map2 (hF.at 1 rfl) (hF.at 0 rfl))) (rMul_any _ _ (ldR) _ 2 _ (st.f 1 rfl) (st.f 0 rfl) (ldR_lim.up _ (by omega)) ((rlim_int (limz_64 (by decide) (by decide)) (by omega)).up _ (by omega)) (by omega)) (fun _ _ h=>h) Rq.cl rfl rfl rfl fun vv14 w13 a st hF=>?_
    obtain⟨b16,ad16,n16,c16,ae16,m16,d16,rfl⟩:=Rq.form (st.f 0 rfl)
    refine S.callg st hF (wanted_by rfl rfl (hF.at 3 rfl) rfl) (r_call Try.func52 en52.1 en52.2 map0) (omMonth_any _) (fun _ _ h=>h) Rq.cl rfl rfl rfl fun vv18 w17 a st hF=>?_
    obtain⟨b20,ad20,n20,c20,ae20,m20,d20,rfl⟩:=Rq.form (st.f 0 rfl)
    refine S.callxg st hF (wanted_by rfl rfl (hF.at 4 rfl) rfl) (r_call Try.func19 en19.1 en19.2 (map2 (hF.at 1 rfl) (hF.at 0 rfl))) (rSame_true _ _ _ (mmR) _ (st.f 1 rfl) (st.f 0 rfl) (by decide+kernel)) rfl rfl rfl fun w21 a st hF=>?_
    refine E.opv hF (r_pick_t (hF.at 5 rfl) (hF.at 0 rfl)) rfl rfl rfl rfl fun a hF=>?_
    refine E.opset (L':=[(0,.bool true),(35,.bool true),(34,.bool true),(33,.agg #[.bool b20,.slice ad20 n20 c20,.slice ae20 m20 d20]),(32,.agg #[.bool b16,.slice ad16 n16 c16,.slice ae16 m16 d16]),(31,.agg #[.bool b12,.slice ad12 n12 c12,.slice ae12 m12 d12]),(30,.agg #[.bool b8,.slice ad8 n8 c8,.slice ae8 m8 d8]),(29,.bool true),(28,.bool true),(27,.bool true),(26,.int .i64 (omE (omU (omJ (-1132959))/12) (omU (omJ (-1132959))%12+1) (decide (omU (omJ (-1132959)+1)=omU (omJ (-1132959)))) (omL (-1132959)-30*omJ (-1132959)+1))),(25,.bool true),(24,.bool true),(23,.bool true),(22,.int .i64 (omM (omU (omJ (-1132959))/12) (omU (omJ (-1132959))%12+1) (decide (omU (omJ (-1132959)+1)=omU (omJ (-1132959)))) (omL (-1132959)-30*omJ (-1132959)+1))),(21,.bool true),(20,.bool true),(19,.bool true),(18,.int .i64 0),(17,.bool true),(16,.bool true),(15,.agg #[.int .i64 0,.int .i64 1,.bool false,.int .i64 1]),(14,.agg #[.int .i64 (omU (omJ (-1132959))/12),.int .i64 (omU (omJ (-1132959))%12+1),.bool (decide (omU (omJ (-1132959)+1)=omU (omJ (-1132959)))),.int .i64 (omL (-1132959)-30*omJ (-1132959)+1)]),(4,.int .i64 (omE (omU (omJ (-1132959))/12) (omU (omJ (-1132959))%12+1) (decide (omU (omJ (-1132959)+1)=omU (omJ (-1132959)))) (omL (-1132959)-30*omJ (-1132959)+1))),(3,.int .i64 (omM (omU (omJ (-1132959))/12) (omU (omJ (-1132959))%12+1) (decide (omU (omJ (-1132959)+1)=omU (omJ (-1132959)))) (omL (-1132959)-30*omJ (-1132959)+1))),(13,.int .i64 (omE (omU (omJ (-1132959))/12) (omU (omJ (-1132959))%12+1) (decide (omU (omJ (-1132959)+1)=omU (omJ (-1132959)))) (omL (-1132959)-30*omJ (-1132959)+1))),(12,.int .i64 (omM (omU (omJ (-1132959))/12) (omU (omJ (-1132959))%12+1) (decide (omU (omJ (-1132959)+1)=omU (omJ (-1132959)))) (omL (-1132959)-30*omJ (-1132959)+1))),(9,.tuple #[.int .i64 (omM (omU (omJ (-1132959))/12) (omU (omJ (-1132959))%12+1) (decide (omU (omJ (-1132959)+1)=omU (omJ (-1132959)))) (omL (-1132959)-30*omJ (-1132959)+1)),.int .i64 (omE (omU (omJ (-1132959))/12) (omU (omJ (-1132959))%12+1) (decide (omU (omJ (-1132959)+1)=omU (omJ (-1132959)))) (omL (-1132959)-30*omJ (-1132959)+1))]),(11,.tuple #[.int .i64 (omM (omU (omJ (-1132959))/12) (omU (omJ (-1132959))%12+1) (decide (omU (omJ (-1132959)+1)=omU (omJ (-1132959)))) (omL (-1132959)-30*omJ (-1132959)+1)),.int .i64 (omE (omU (omJ (-1132959))/12) (omU (omJ (-1132959))%12+1) (decide (omU (omJ (-1132959)+1)=omU (omJ (-1132959)))) (omL (-1132959)-30*omJ (-1132959)+1))]),(10,.agg #[.int .i64 (omU (omJ (-1132959))/12),.int .i64 (omU (omJ (-1132959))%12+1),.bool (decide (omU (omJ (-1132959)+1)=omU (omJ (-1132959)))),.int .i64 (omL (-1132959)-30*omJ (-1132959)+1)]),(2,.int .i64 0),(1,.pointer (some ⟨g1,0,none⟩)),(8,.int .i64 0),(7,.agg #[.int .i64 (omU (omJ (-1132959))/12),.int .i64 (omU (omJ (-1132959))%12+1),.bool (decide (omU (omJ (-1132959)+1)=omU (omJ (-1132959)))),.int .i64 (omL (-1132959)-30*omJ (-1132959)+1)]),(5,.tuple #[.agg #[.int .i64 (omU (omJ (-1132959))/12),.int .i64 (omU (omJ (-1132959))%12+1),.bool (decide (omU (omJ (-1132959)+1)=omU (omJ (-1132959)))),.int .i64 (omL (-1132959)-30*omJ (-1132959)+1)],.int .i64 0]),(6,.tuple #[.agg #[.int .i64 (omU (omJ (-1132959))/12),.int .i64 (omU (omJ (-1132959))%12+1),.bool (decide (omU (omJ (-1132959)+1)=omU (omJ (-1132959)))),.int .i64 (omL (-1132959)-30*omJ (-1132959)+1)],.int .i64 0])]) hF (r_assign (hF.at 0 rfl)) rfl rfl rfl rfl fun a hF=>?_
    refine E.nil ?_
    refine wp_ret ?_
    have bel:=st.bel
    refine bodyPost_ret (res_tmp Try.results24 (hF.at 0 rfl)) hF.dfr ?_
    exact⟨rfl,bel⟩)
 ·first
  |(exfalso;omega)
  |(refine S.callx st hF (r_call Try.func25 en25.1 en25.2 (map1 ev_c)) (omOfX_any (-1132959) _ (by omega)) rfl rfl rfl rfl fun w22 a st hF=>?_
    refine E.opv hF (r_move (hF.at 0 rfl)) rfl rfl rfl rfl fun a hF=>?_
    refine E.opv hF (r_extract (v:= .agg #[.int .i64 0,.int .i64 0,.bool false,.int .i64 0]) (hF.at 0 rfl) rfl) rfl rfl rfl rfl fun a hF=>?_
    refine E.opv hF (r_extract (v:= .int .i64 2) (hF.at 1 rfl) rfl) rfl rfl rfl rfl fun a hF=>?_
    refine S.new st hF 1 rfl ty_OMD rfl rfl rfl rfl rfl fun g1 w23 a st hF=>?_
    refine E.opv hF (r_assign (hF.at 1 rfl)) rfl rfl rfl rfl fun a hF=>?_
    refine E.nil ?_
    refine wp_seq ?_
    refine E.seq ?_
    refine E.opv hF (r_load (hF.at 1 rfl) (ld_all ty_OMD (st.bk 0 rfl) rfl)) rfl rfl rfl rfl fun a hF=>?_
    refine S.callx st hF (r_call Try.func26 en26.1 en26.2 (map1 (hF.at 0 rfl))) (omFixed_any 0 0 false 0 _) rfl rfl rfl rfl fun w24 a st hF=>?_
    refine E.opv hF (r_move (hF.at 0 rfl)) rfl rfl rfl rfl fun a hF=>?_
    refine E.opv hF (r_extract (v:= .int .i64 (omM 0 0 false 0)) (hF.at 0 rfl) rfl) rfl rfl rfl rfl fun a hF=>?_
    refine E.opv hF (r_extract (v:= .int .i64 (omE 0 0 false 0)) (hF.at 1 rfl) rfl) rfl rfl rfl rfl fun a hF=>?_
    refine E.opv hF (r_assign (hF.at 1 rfl)) rfl rfl rfl rfl fun a hF=>?_
    refine E.opv hF (r_assign (hF.at 1 rfl)) rfl rfl rfl rfl fun a hF=>?_
    refine E.nil ?_
    refine wp_seq ?_
    refine E.seq ?_
    refine E.opv hF (r_load (hF.at 8 rfl) (ld_all ty_OMD (st.bk 0 rfl) rfl)) rfl rfl rfl rfl fun a hF=>?_
    refine E.opv hF (r_build (pair2 ev_c ev_c) (bd_OMD_13 _ _ _)) rfl rfl rfl rfl fun a hF=>?_
    refine E.opv hF (r_bin (hF.at 1 rfl) (hF.at 0 rfl) eg_OMD (es_OMD (dec_tt (by decide+kernel)))) rfl rfl rfl rfl fun a hF=>?_
    refine E.opv hF (r_move (hF.at 0 rfl)) rfl rfl rfl rfl fun a hF=>?_
    refine E.opvg hF (r_move (hF.at 11 rfl)) (wanted_by rfl rfl (hF.at 0 rfl) rfl) rfl rfl rfl fun a hF=>?_
    refine E.opvg hF (r_bin (hF.at 0 rfl) ev_c eg_scalar (bi_int (ic_eql (c:=false) (by decide)) (by simp))) (wanted_by rfl rfl (hF.at 1 rfl) rfl) rfl rfl rfl fun a hF=>?_
    refine E.opv hF (r_pick_t (hF.at 2 rfl) (hF.at 0 rfl)) rfl rfl rfl rfl fun a hF=>?_
    refine E.opv hF (r_move (hF.at 0 rfl)) rfl rfl rfl rfl fun a hF=>?_
    refine E.unwanted hF (wanted_by rfl rfl (hF.at 0 rfl) rfl) rfl rfl rfl fun a hF=>?_
    refine E.unwanted hF (wanted_by rfl rfl (hF.at 1 rfl) rfl) rfl rfl rfl fun a hF=>?_
    refine E.opv hF (r_pick_f (hF.at 2 rfl) ev_c) rfl rfl rfl rfl fun a hF=>?_
    refine E.opv hF (r_move (hF.at 0 rfl)) rfl rfl rfl rfl fun a hF=>?_
    refine E.unwanted hF (wanted_by rfl rfl (hF.at 0 rfl) rfl) rfl rfl rfl fun a hF=>?_
    refine E.unwanted hF (wanted_by rfl rfl (hF.at 1 rfl) rfl) rfl rfl rfl fun a hF=>?_
    refine E.opv hF (r_pick_f (hF.at 2 rfl) ev_c) rfl rfl rfl rfl fun a hF=>?_
    refine E.opv hF (r_move (hF.at 0 rfl)) rfl rfl rfl rfl fun a hF=>?_
    refine E.unwanted hF (wanted_by rfl rfl (hF.at 0 rfl) rfl) rfl rfl rfl fun a hF=>?_
    refine E.unwanted hF (wanted_by rfl rfl (hF.at 1 rfl) rfl) rfl rfl rfl fun a hF=>?_
    refine E.unwanted hF (wanted_by rfl rfl (hF.at 2 rfl) rfl) rfl rfl rfl fun a hF=>?_
    refine E.unwanted hF (wanted_by rfl rfl (hF.at 3 rfl) rfl) rfl rfl rfl fun a hF=>?_
    refine E.unwanted hF (wanted_by rfl rfl (hF.at 4 rfl) rfl) rfl rfl rfl fun a hF=>?_
    refine E.opv hF (r_pick_f (hF.at 5 rfl) ev_c) rfl rfl rfl rfl fun a hF=>?_
    refine E.opset (L':=[(0,.bool false),(35,.bool false),(34,undef),(33,undef),(32,undef),(31,undef),(30,undef),(29,.bool false),(28,.bool false),(27,undef),(26,undef),(25,.bool false),(24,.bool false),(23,undef),(22,undef),(21,.bool false),(20,.bool false),(19,.bool false),(18,.int .i64 2),(17,.bool true),(16,.bool true),(15,.agg #[.int .i64 0,.int .i64 1,.bool false,.int .i64 1]),(14,.agg #[.int .i64 0,.int .i64 0,.bool false,.int .i64 0]),(4,.int .i64 (omE 0 0 false 0)),(3,.int .i64 (omM 0 0 false 0)),(13,.int .i64 (omE 0 0 false 0)),(12,.int .i64 (omM 0 0 false 0)),(9,.tuple #[.int .i64 (omM 0 0 false 0),.int .i64 (omE 0 0 false 0)]),(11,.tuple #[.int .i64 (omM 0 0 false 0),.int .i64 (omE 0 0 false 0)]),(10,.agg #[.int .i64 0,.int .i64 0,.bool false,.int .i64 0]),(2,.int .i64 2),(1,.pointer (some ⟨g1,0,none⟩)),(8,.int .i64 2),(7,.agg #[.int .i64 0,.int .i64 0,.bool false,.int .i64 0]),(5,.tuple #[.agg #[.int .i64 0,.int .i64 0,.bool false,.int .i64 0],.int .i64 2]),(6,.tuple #[.agg #[.int .i64 0,.int .i64 0,.bool false,.int .i64 0],.int .i64 2])]) hF (r_assign (hF.at 0 rfl)) rfl rfl rfl rfl fun a hF=>?_
    refine E.nil ?_
    refine wp_ret ?_
    have bel:=st.bel
    refine bodyPost_ret (res_tmp Try.results24 (hF.at 0 rfl)) hF.dfr ?_
    exact⟨rfl,bel⟩)
theorem told17_any (y m:Int) (l:Bool) (d:Int) (w:World) (hy0: -9223372036854775808≤y) (hy1:y≤9223372036854775807):
 Calls Try.prog 27 #[.agg #[.int .i64 y,.int .i64 m,.bool l,.int .i64 d]] w (ValPost w (.agg #[.int .i64 y,.int .i64 m,.bool l,.int .i64 d])):=by
 have st:=St.start w
 refine E.enter (nt:=12) (L:=[(0,.agg #[.int .i64 y,.int .i64 m,.bool l,.int .i64 d])]) Try.func27 rfl rfl rfl (args_cons (i:=0) rfl args_nil) ?_
 intro a hF
 refine wp_seq ?_
 refine E.seq ?_
 refine S.box st hF (hF.at 0 rfl) rfl rfl fun g1 w1 a st hF=>?_
 refine S.alloc st hF ty_RMD rfl rfl fun g2 w2 a st hF=>?_
 refine E.nil ?_
 refine wp_seq ?_
 refine E.seq ?_
 refine E.opv hF (r_field (hF.at 1 rfl) (fa_OMD_0 (p:=0) rfl)) rfl rfl rfl rfl fun a hF=>?_
 refine E.opv hF (r_load (hF.at 0 rfl) (ldb_i64 (v:= .int .i64 y) (st.bk 1 rfl) rfl)) rfl rfl rfl rfl fun a hF=>?_
 refine E.opv hF (r_field (hF.at 3 rfl) (fa_OMD_1 (p:=1) rfl)) rfl rfl rfl rfl fun a hF=>?_
 refine E.opv hF (r_load (hF.at 0 rfl) (ldb_int (v:= .int .i64 m) (st.bk 1 rfl) rfl)) rfl rfl rfl rfl fun a hF=>?_
 refine E.opv hF (r_field (hF.at 5 rfl) (fa_OMD_2 (p:=2) rfl)) rfl rfl rfl rfl fun a hF=>?_
 refine E.opv hF (r_load (hF.at 0 rfl) (ldb_bool (v:= .bool l) (st.bk 1 rfl) rfl)) rfl rfl rfl rfl fun a hF=>?_
 refine E.opv hF (r_field (hF.at 7 rfl) (fa_OMD_3 (p:=3) rfl)) rfl rfl rfl rfl fun a hF=>?_
 refine E.opv hF (r_load (hF.at 0 rfl) (ldb_int (v:= .int .i64 d) (st.bk 1 rfl) rfl)) rfl rfl rfl rfl fun a hF=>?_
 refine E.opv hF (r_build (pair4o (hF.at 6 rfl) (hF.at 4 rfl) (hF.at 2 rfl) (hF.at 0 rfl)) (bd_RMD_0123 _ _ _ _ _)) rfl rfl rfl rfl fun a hF=>?_
 refine S.stoI st hF 0 rfl (hF.at 9 rfl) (hF.at 0 rfl) ty_RMD rfl rfl rfl fun w3 a st hF=>?_
 refine E.nil ?_
 refine wp_ret ?_
 refine S.ret Try.results27 st hF (hF.at 9 rfl) 0 rfl ty_RMD rfl hF.dfr ?_
 have bel:=st.bel
 exact⟨rfl,bel⟩
theorem oldmoonDays_walk (n:Int) (w:World) (hn0: -9223372036854775808≤n) (hn1:n≤9223372036854775807):
 Calls Try.prog 7 #[.int .i64 n] w (ValPost w (.bool true)):=by
 have st:=St.start w
 refine E.enter (nt:=57) (L:=[(0,.int .i64 n)]) Try.func7 rfl rfl rfl (args_cons (i:=0) rfl args_nil) ?_
 intro a hF
 refine wp_seq ?_
 refine E.seq ?_
 refine E.opv hF (r_assign ev_c) rfl rfl rfl rfl fun a hF=>?_
 refine E.nil ?_
 refine wp_seq ?_
 refine wp_seq ?_
 refine E.seq ?_
 refine S.callx st hF (r_call Try.func24 en24.1 en24.2 map0) (awake17_any _) rfl rfl rfl rfl fun w1 a st hF=>?_
 refine E.opv hF (r_un (hF.at 0 rfl) (bn_not _ false rfl)) rfl rfl rfl rfl fun a hF=>?_
 refine E.nil ?_
 refine wp_cond_false (hF.at 0 rfl) ?_
 refine wp_skip ?_
 refine E.norm ?_
 refine wp_seq ?_
 refine E.seq ?_
 refine E.opv hF (r_move (hF.at 3 rfl)) rfl rfl rfl rfl fun a hF=>?_
 by_cases hc2: -3000000≤n∧n≤3000000
 ·first
  |(exfalso;omega)
  |(refine S.callx st hF (r_call Try.func25 en25.1 en25.2 (map1 (hF.at 0 rfl))) (omOf_any n _ (by omega) (by omega)) rfl rfl rfl rfl fun w3 a st hF=>?_
    have hmd2:=om_day (n)
    have hmj2:=omJ_in (n:=n) (by omega) (by omega)
    have hmu2:=omU_lim (j:=omJ n) (by omega) (by omega)
    have hth:=om_there (n:=n) (by omega) (by omega)
    refine E.opv hF (r_move (hF.at 0 rfl)) rfl rfl rfl rfl fun a hF=>?_
    refine E.opv hF (r_extract (v:= .agg #[.int .i64 (omU (omJ n)/12),.int .i64 (omU (omJ n)%12+1),.bool (decide (omU (omJ n+1)=omU (omJ n))),.int .i64 (omL n-30*omJ n+1)]) (hF.at 0 rfl) rfl) rfl rfl rfl rfl fun a hF=>?_
    refine E.opv hF (r_extract (v:= .int .i64 0) (hF.at 1 rfl) rfl) rfl rfl rfl rfl fun a hF=>?_
    refine S.new st hF 1 rfl ty_OMD rfl rfl rfl rfl rfl fun g3 w4 a st hF=>?_
    refine E.opv hF (r_assign (hF.at 1 rfl)) rfl rfl rfl rfl fun a hF=>?_
    refine E.nil ?_
    refine wp_seq ?_
    refine wp_seq ?_
    refine E.seq ?_
    refine E.opv hF (r_move (hF.at 10 rfl)) rfl rfl rfl rfl fun a hF=>?_
    by_cases hc5:n<(-3000000)
    ·first
     |(exfalso;omega)
     |(refine E.opv hF (r_bin (hF.at 0 rfl) ev_c eg_scalar (bi_int (ic_lss (c:=true) (dec_tt hc5)) (by simp))) rfl rfl rfl rfl fun a hF=>?_
       refine E.opv hF (r_move (hF.at 0 rfl)) rfl rfl rfl rfl fun a hF=>?_
       refine E.unwanted hF (wanted_by rfl rfl (hF.at 0 rfl) rfl) rfl rfl rfl fun a hF=>?_
       refine E.unwanted hF (wanted_by rfl rfl (hF.at 1 rfl) rfl) rfl rfl rfl fun a hF=>?_
       refine E.opv hF (r_pick_t (hF.at 2 rfl) ev_c) rfl rfl rfl rfl fun a hF=>?_
       refine E.nil ?_
       refine wp_cond_true (hF.at 0 rfl) ?_
       refine wp_seq ?_
       refine E.seq ?_
       refine E.opv hF (r_move (hF.at 6 rfl)) rfl rfl rfl rfl fun a hF=>?_
       refine E.opv hF (r_bin (hF.at 0 rfl) ev_c eg_scalar (bi_int (ic_eql (c:=false) (by decide)) (by simp))) rfl rfl rfl rfl fun a hF=>?_
       refine E.opv hF (r_move (hF.at 0 rfl)) rfl rfl rfl rfl fun a hF=>?_
       refine E.unwanted hF (wanted_by rfl rfl (hF.at 0 rfl) rfl) rfl rfl rfl fun a hF=>?_
       refine E.unwanted hF (wanted_by rfl rfl (hF.at 1 rfl) rfl) rfl rfl rfl fun a hF=>?_
       refine E.unwanted hF (wanted_by rfl rfl (hF.at 2 rfl) rfl) rfl rfl rfl fun a hF=>?_
       refine E.opv hF (r_pick_f (hF.at 3 rfl) ev_c) rfl rfl rfl rfl fun a hF=>?_
       refine E.opset (L':=[(2,.bool false),(26,.bool false),(25,undef),(24,undef),(23,undef),(22,.bool false),(21,.bool false),(20,.int .i64 0),(19,.bool true),(18,undef),(17,undef),(16,.bool true),(15,.bool true),(14,.int .i64 n),(4,.int .i64 0),(3,.pointer (some ⟨g3,0,none⟩)),(13,.int .i64 0),(12,.agg #[.int .i64 (omU (omJ n)/12),.int .i64 (omU (omJ n)%12+1),.bool (decide (omU (omJ n+1)=omU (omJ n))),.int .i64 (omL n-30*omJ n+1)]),(9,.tuple #[.agg #[.int .i64 (omU (omJ n)/12),.int .i64 (omU (omJ n)%12+1),.bool (decide (omU (omJ n+1)=omU (omJ n))),.int .i64 (omL n-30*omJ n+1)],.int .i64 0]),(11,.tuple #[.agg #[.int .i64 (omU (omJ n)/12),.int .i64 (omU (omJ n)%12+1),.bool (decide (omU (omJ n+1)=omU (omJ n))),.int .i64 (omL n-30*omJ n+1)],.int .i64 0]),(10,.int .i64 n),(8,.bool false),(7,.bool true),(0,.int .i64 n)]) hF (r_assign (hF.at 0 rfl)) rfl rfl rfl rfl fun a hF=>?_
       refine E.nil ?_
       refine wp_ret ?_
       have bel:=st.bel
       refine bodyPost_ret (res_tmp Try.results7 (hF.at 0 rfl)) hF.dfr ?_
       exact⟨rfl,bel⟩)
    ·first
     |(exfalso;omega)
     |(refine E.opv hF (r_bin (hF.at 0 rfl) ev_c eg_scalar (bi_int (ic_lss (c:=false) (dec_ff hc5)) (by simp))) rfl rfl rfl rfl fun a hF=>?_
       refine E.opv hF (r_move (hF.at 0 rfl)) rfl rfl rfl rfl fun a hF=>?_
       refine E.opvg hF (r_move (hF.at 13 rfl)) (wanted_by rfl rfl (hF.at 0 rfl) rfl) rfl rfl rfl fun a hF=>?_
       by_cases hc6:3000000<n
       ·first
        |(exfalso;omega)
        |(refine E.opvg hF (r_bin (hF.at 0 rfl) ev_c eg_scalar (bi_int (ic_gtr (c:=true) (dec_tt hc6)) (by simp))) (wanted_by rfl rfl (hF.at 1 rfl) rfl) rfl rfl rfl fun a hF=>?_
          refine E.opv hF (r_pick_f (hF.at 2 rfl) (hF.at 0 rfl)) rfl rfl rfl rfl fun a hF=>?_
          refine E.nil ?_
          refine wp_cond_true (hF.at 0 rfl) ?_
          refine wp_seq ?_
          refine E.seq ?_
          refine E.opv hF (r_move (hF.at 6 rfl)) rfl rfl rfl rfl fun a hF=>?_
          refine E.opv hF (r_bin (hF.at 0 rfl) ev_c eg_scalar (bi_int (ic_eql (c:=false) (by decide)) (by simp))) rfl rfl rfl rfl fun a hF=>?_
          refine E.opv hF (r_move (hF.at 0 rfl)) rfl rfl rfl rfl fun a hF=>?_
          refine E.unwanted hF (wanted_by rfl rfl (hF.at 0 rfl) rfl) rfl rfl rfl fun a hF=>?_
          refine E.unwanted hF (wanted_by rfl rfl (hF.at 1 rfl) rfl) rfl rfl rfl fun a hF=>?_
          refine E.unwanted hF (wanted_by rfl rfl (hF.at 2 rfl) rfl) rfl rfl rfl fun a hF=>?_
          refine E.opv hF (r_pick_f (hF.at 3 rfl) ev_c) rfl rfl rfl rfl fun a hF=>?_
          refine E.opset (L':=[(2,.bool false),(26,.bool false),(25,undef),(24,undef),(23,undef),(22,.bool false),(21,.bool false),(20,.int .i64 0),(19,.bool true),(18,.bool true),(17,.int .i64 n),(16,.bool false),(15,.bool false),(14,.int .i64 n),(4,.int .i64 0),(3,.pointer (some ⟨g3,0,none⟩)),(13,.int .i64 0),(12,.agg #[.int .i64 (omU (omJ n)/12),.int .i64 (omU (omJ n)%12+1),.bool (decide (omU (omJ n+1)=omU (omJ n))),.int .i64 (omL n-30*omJ n+1)]),(9,.tuple #[.agg #[.int .i64 (omU (omJ n)/12),.int .i64 (omU (omJ n)%12+1),.bool (decide (omU (omJ n+1)=omU (omJ n))),.int .i64 (omL n-30*omJ n+1)],.int .i64 0]),(11,.tuple #[.agg #[.int .i64 (omU (omJ n)/12),.int .i64 (omU (omJ n)%12+1),.bool (decide (omU (omJ n+1)=omU (omJ n))),.int .i64 (omL n-30*omJ n+1)],.int .i64 0]),(10,.int .i64 n),(8,.bool false),(7,.bool true),(0,.int .i64 n)]) hF (r_assign (hF.at 0 rfl)) rfl rfl rfl rfl fun a hF=>?_
          refine E.nil ?_
          refine wp_ret ?_
          have bel:=st.bel
          refine bodyPost_ret (res_tmp Try.results7 (hF.at 0 rfl)) hF.dfr ?_
          exact⟨rfl,bel⟩)
       ·first
        |(exfalso;omega)
        |(refine E.opvg hF (r_bin (hF.at 0 rfl) ev_c eg_scalar (bi_int (ic_gtr (c:=false) (dec_ff hc6)) (by simp))) (wanted_by rfl rfl (hF.at 1 rfl) rfl) rfl rfl rfl fun a hF=>?_
          refine E.opv hF (r_pick_f (hF.at 2 rfl) (hF.at 0 rfl)) rfl rfl rfl rfl fun a hF=>?_
          refine E.nil ?_
          refine wp_cond_false (hF.at 0 rfl) ?_
          refine wp_skip ?_
          refine E.norm ?_
          refine wp_seq ?_
          refine E.seq ?_
          refine E.opv hF (r_load (hF.at 7 rfl) (ld_all ty_OMD (st.bk 0 rfl) rfl)) rfl rfl rfl rfl fun a hF=>?_
          refine S.callx st hF (r_call Try.func26 en26.1 en26.2 (map1 (hF.at 0 rfl))) (omFixed_any (omU (omJ n)/12) (omU (omJ n)%12+1) (decide (omU (omJ n+1)=omU (omJ n))) (omL n-30*omJ n+1) _) rfl rfl rfl rfl fun w7 a st hF=>?_
          refine E.opv hF (r_move (hF.at 0 rfl)) rfl rfl rfl rfl fun a hF=>?_
          refine E.opv hF (r_extract (v:= .int .i64 (omM (omU (omJ n)/12) (omU (omJ n)%12+1) (decide (omU (omJ n+1)=omU (omJ n))) (omL n-30*omJ n+1))) (hF.at 0 rfl) rfl) rfl rfl rfl rfl fun a hF=>?_
          refine E.opv hF (r_extract (v:= .int .i64 (omE (omU (omJ n)/12) (omU (omJ n)%12+1) (decide (omU (omJ n+1)=omU (omJ n))) (omL n-30*omJ n+1))) (hF.at 1 rfl) rfl) rfl rfl rfl rfl fun a hF=>?_
          refine E.opv hF (r_assign (hF.at 1 rfl)) rfl rfl rfl rfl fun a hF=>?_
          refine E.opv hF (r_assign (hF.at 1 rfl)) rfl rfl rfl rfl fun a hF=>?_
          refine E.nil ?_
          refine wp_seq ?_
          refine E.seq ?_
          refine E.opv hF (r_move (hF.at 13 rfl)) rfl rfl rfl rfl fun a hF=>?_
          refine E.opv hF (r_bin (hF.at 0 rfl) ev_c eg_scalar (bi_int (ic_eql (c:=true) (by decide)) (by simp))) rfl rfl rfl rfl fun a hF=>?_
          refine E.opv hF (r_move (hF.at 0 rfl)) rfl rfl rfl rfl fun a hF=>?_
          refine E.opvg hF (r_load (hF.at 17 rfl) (ld_all ty_OMD (st.bk 0 rfl) rfl)) (wanted_by rfl rfl (hF.at 0 rfl) rfl) rfl rfl rfl fun a hF=>?_
          refine S.callxg st hF (wanted_by rfl rfl (hF.at 1 rfl) rfl) (r_call Try.func27 en27.1 en27.2 (map1 (hF.at 0 rfl))) (told17_any (omU (omJ n)/12) (omU (omJ n)%12+1) (decide (omU (omJ n+1)=omU (omJ n))) (omL n-30*omJ n+1) _ (by omega) (by omega)) rfl rfl rfl fun w8 a st hF=>?_
          refine E.opvg hF (r_move (hF.at 28 rfl)) (wanted_by rfl rfl (hF.at 2 rfl) rfl) rfl rfl rfl fun a hF=>?_
          refine S.callxg st hF (wanted_by rfl rfl (hF.at 3 rfl) rfl) (r_call Try.func28 en28.1 en28.2 (map1 (hF.at 0 rfl))) (r17of_any n _ (by omega) (by omega)) rfl rfl rfl fun w9 a st hF=>?_
          refine E.opvg hF (r_bin (hF.at 2 rfl) (hF.at 0 rfl) eg_RMD (es_RMD (dec_tt (by simp)))) (wanted_by rfl rfl (hF.at 4 rfl) rfl) rfl rfl rfl fun a hF=>?_
          refine E.opv hF (r_pick_t (hF.at 5 rfl) (hF.at 0 rfl)) rfl rfl rfl rfl fun a hF=>?_
          refine E.opv hF (r_move (hF.at 0 rfl)) rfl rfl rfl rfl fun a hF=>?_
          refine E.opvg hF (r_move (hF.at 11 rfl)) (wanted_by rfl rfl (hF.at 0 rfl) rfl) rfl rfl rfl fun a hF=>?_
          refine E.opvg hF (r_move (hF.at 34 rfl)) (wanted_by rfl rfl (hF.at 1 rfl) rfl) rfl rfl rfl fun a hF=>?_
          by_cases hc10:omM (omU (omJ n)/12) (omU (omJ n)%12+1) (decide (omU (omJ n+1)=omU (omJ n))) (omL n-30*omJ n+1)=n
          ·first
           |(exfalso;omega)
           |(refine E.opvg hF (r_bin (hF.at 1 rfl) (hF.at 0 rfl) eg_scalar (bi_int (ic_eql (c:=true) (dec_tt hc10)) (by simp))) (wanted_by rfl rfl (hF.at 2 rfl) rfl) rfl rfl rfl fun a hF=>?_
             refine E.opv hF (r_pick_t (hF.at 3 rfl) (hF.at 0 rfl)) rfl rfl rfl rfl fun a hF=>?_
             refine E.opv hF (r_move (hF.at 0 rfl)) rfl rfl rfl rfl fun a hF=>?_
             refine E.opvg hF (r_move (hF.at 15 rfl)) (wanted_by rfl rfl (hF.at 0 rfl) rfl) rfl rfl rfl fun a hF=>?_
             by_cases hc11:omE (omU (omJ n)/12) (omU (omJ n)%12+1) (decide (omU (omJ n+1)=omU (omJ n))) (omL n-30*omJ n+1)=0
             ·first
              |(exfalso;omega)
              |(refine E.opvg hF (r_bin (hF.at 0 rfl) ev_c eg_scalar (bi_int (ic_eql (c:=true) (dec_tt hc11)) (by simp))) (wanted_by rfl rfl (hF.at 1 rfl) rfl) rfl rfl rfl fun a hF=>?_
                refine E.opv hF (r_pick_t (hF.at 2 rfl) (hF.at 0 rfl)) rfl rfl rfl rfl fun a hF=>?_
                refine E.opv hF (r_move (hF.at 0 rfl)) rfl rfl rfl rfl fun a hF=>?_
                refine E.opvg hF (r_move (hF.at 42 rfl)) (wanted_by rfl rfl (hF.at 0 rfl) rfl) rfl rfl rfl fun a hF=>?_
                refine S.callxg st hF (wanted_by rfl rfl (hF.at 1 rfl) rfl) (r_call Try.func29 en29.1 en29.2 (map1 (hF.at 0 rfl))) (omLun_any n _ (by omega) (by omega)) rfl rfl rfl fun w12 a st hF=>?_
                have hoj11:=omJ_in (n:=n) (by omega) (by omega)
                refine E.opvg hF (r_move (hF.at 44 rfl)) (wanted_by rfl rfl (hF.at 2 rfl) rfl) rfl rfl rfl fun a hF=>?_
                refine S.callxg st hF (wanted_by rfl rfl (hF.at 3 rfl) rfl) (r_call Try.func30 en30.1 en30.2 (map1 (hF.at 0 rfl))) (r17j_any n _ (by omega) (by omega)) rfl rfl rfl fun w13 a st hF=>?_
                refine E.opvg hF (r_bin (hF.at 2 rfl) (hF.at 0 rfl) eg_scalar (bi_int (ic_eql (c:=true) (by simp)) (by simp))) (wanted_by rfl rfl (hF.at 4 rfl) rfl) rfl rfl rfl fun a hF=>?_
                refine E.opv hF (r_pick_t (hF.at 5 rfl) (hF.at 0 rfl)) rfl rfl rfl rfl fun a hF=>?_
                refine E.opset (L':=[(2,.bool true),(56,.bool true),(55,.bool true),(54,.int .i64 (omJ n)),(53,.int .i64 n),(52,.int .i64 (omJ n)),(51,.int .i64 n),(50,.bool true),(49,.bool true),(48,.bool true),(47,.int .i64 (omE (omU (omJ n)/12) (omU (omJ n)%12+1) (decide (omU (omJ n+1)=omU (omJ n))) (omL n-30*omJ n+1))),(46,.bool true),(45,.bool true),(44,.bool true),(43,.int .i64 n),(42,.int .i64 (omM (omU (omJ n)/12) (omU (omJ n)%12+1) (decide (omU (omJ n+1)=omU (omJ n))) (omL n-30*omJ n+1))),(41,.bool true),(40,.bool true),(39,.bool true),(38,.agg #[.int .i64 (omU (omJ n)/12),.int .i64 (omU (omJ n)%12+1),.bool (decide (omU (omJ n+1)=omU (omJ n))),.int .i64 (omL n-30*omJ n+1)]),(37,.int .i64 n),(36,.agg #[.int .i64 (omU (omJ n)/12),.int .i64 (omU (omJ n)%12+1),.bool (decide (omU (omJ n+1)=omU (omJ n))),.int .i64 (omL n-30*omJ n+1)]),(35,.agg #[.int .i64 (omU (omJ n)/12),.int .i64 (omU (omJ n)%12+1),.bool (decide (omU (omJ n+1)=omU (omJ n))),.int .i64 (omL n-30*omJ n+1)]),(34,.bool true),(33,.bool true),(32,.int .i64 0),(6,.int .i64 (omE (omU (omJ n)/12) (omU (omJ n)%12+1) (decide (omU (omJ n+1)=omU (omJ n))) (omL n-30*omJ n+1))),(5,.int .i64 (omM (omU (omJ n)/12) (omU (omJ n)%12+1) (decide (omU (omJ n+1)=omU (omJ n))) (omL n-30*omJ n+1))),(31,.int .i64 (omE (omU (omJ n)/12) (omU (omJ n)%12+1) (decide (omU (omJ n+1)=omU (omJ n))) (omL n-30*omJ n+1))),(30,.int .i64 (omM (omU (omJ n)/12) (omU (omJ n)%12+1) (decide (omU (omJ n+1)=omU (omJ n))) (omL n-30*omJ n+1))),(27,.tuple #[.int .i64 (omM (omU (omJ n)/12) (omU (omJ n)%12+1) (decide (omU (omJ n+1)=omU (omJ n))) (omL n-30*omJ n+1)),.int .i64 (omE (omU (omJ n)/12) (omU (omJ n)%12+1) (decide (omU (omJ n+1)=omU (omJ n))) (omL n-30*omJ n+1))]),(29,.tuple #[.int .i64 (omM (omU (omJ n)/12) (omU (omJ n)%12+1) (decide (omU (omJ n+1)=omU (omJ n))) (omL n-30*omJ n+1)),.int .i64 (omE (omU (omJ n)/12) (omU (omJ n)%12+1) (decide (omU (omJ n+1)=omU (omJ n))) (omL n-30*omJ n+1))]),(28,.agg #[.int .i64 (omU (omJ n)/12),.int .i64 (omU (omJ n)%12+1),.bool (decide (omU (omJ n+1)=omU (omJ n))),.int .i64 (omL n-30*omJ n+1)]),(19,.bool false),(18,.bool false),(17,.int .i64 n),(16,.bool false),(15,.bool false),(14,.int .i64 n),(4,.int .i64 0),(3,.pointer (some ⟨g3,0,none⟩)),(13,.int .i64 0),(12,.agg #[.int .i64 (omU (omJ n)/12),.int .i64 (omU (omJ n)%12+1),.bool (decide (omU (omJ n+1)=omU (omJ n))),.int .i64 (omL n-30*omJ n+1)]),(9,.tuple #[.agg #[.int .i64 (omU (omJ n)/12),.int .i64 (omU (omJ n)%12+1),.bool (decide (omU (omJ n+1)=omU (omJ n))),.int .i64 (omL n-30*omJ n+1)],.int .i64 0]),(11,.tuple #[.agg #[.int .i64 (omU (omJ n)/12),.int .i64 (omU (omJ n)%12+1),.bool (decide (omU (omJ n+1)=omU (omJ n))),.int .i64 (omL n-30*omJ n+1)],.int .i64 0]),(10,.int .i64 n),(8,.bool false),(7,.bool true),(0,.int .i64 n)]) hF (r_assign (hF.at 0 rfl)) rfl rfl rfl rfl fun a hF=>?_
                refine E.nil ?_
                refine wp_ret ?_
                have bel:=st.bel
                refine bodyPost_ret (res_tmp Try.results7 (hF.at 0 rfl)) hF.dfr ?_
                exact⟨rfl,bel⟩)
             ·first
              |(exfalso;omega)
              |(refine E.opvg hF (r_bin (hF.at 0 rfl) ev_c eg_scalar (bi_int (ic_eql (c:=false) (dec_ff hc11)) (by simp))) (wanted_by rfl rfl (hF.at 1 rfl) rfl) rfl rfl rfl fun a hF=>?_
                refine E.opv hF (r_pick_t (hF.at 2 rfl) (hF.at 0 rfl)) rfl rfl rfl rfl fun a hF=>?_
                refine E.opv hF (r_move (hF.at 0 rfl)) rfl rfl rfl rfl fun a hF=>?_
                refine E.unwanted hF (wanted_by rfl rfl (hF.at 0 rfl) rfl) rfl rfl rfl fun a hF=>?_
                refine E.unwanted hF (wanted_by rfl rfl (hF.at 1 rfl) rfl) rfl rfl rfl fun a hF=>?_
                refine E.unwanted hF (wanted_by rfl rfl (hF.at 2 rfl) rfl) rfl rfl rfl fun a hF=>?_
                refine E.unwanted hF (wanted_by rfl rfl (hF.at 3 rfl) rfl) rfl rfl rfl fun a hF=>?_
                refine E.unwanted hF (wanted_by rfl rfl (hF.at 4 rfl) rfl) rfl rfl rfl fun a hF=>?_
                refine E.opv hF (r_pick_f (hF.at 5 rfl) ev_c) rfl rfl rfl rfl fun a hF=>?_
                refine E.opset (L':=[(2,.bool false),(56,.bool false),(55,undef),(54,undef),(53,undef),(52,undef),(51,undef),(50,.bool false),(49,.bool false),(48,.bool false),(47,.int .i64 (omE (omU (omJ n)/12) (omU (omJ n)%12+1) (decide (omU (omJ n+1)=omU (omJ n))) (omL n-30*omJ n+1))),(46,.bool true),(45,.bool true),(44,.bool true),(43,.int .i64 n),(42,.int .i64 (omM (omU (omJ n)/12) (omU (omJ n)%12+1) (decide (omU (omJ n+1)=omU (omJ n))) (omL n-30*omJ n+1))),(41,.bool true),(40,.bool true),(39,.bool true),(38,.agg #[.int .i64 (omU (omJ n)/12),.int .i64 (omU (omJ n)%12+1),.bool (decide (omU (omJ n+1)=omU (omJ n))),.int .i64 (omL n-30*omJ n+1)]),(37,.int .i64 n),(36,.agg #[.int .i64 (omU (omJ n)/12),.int .i64 (omU (omJ n)%12+1),.bool (decide (omU (omJ n+1)=omU (omJ n))),.int .i64 (omL n-30*omJ n+1)]),(35,.agg #[.int .i64 (omU (omJ n)/12),.int .i64 (omU (omJ n)%12+1),.bool (decide (omU (omJ n+1)=omU (omJ n))),.int .i64 (omL n-30*omJ n+1)]),(34,.bool true),(33,.bool true),(32,.int .i64 0),(6,.int .i64 (omE (omU (omJ n)/12) (omU (omJ n)%12+1) (decide (omU (omJ n+1)=omU (omJ n))) (omL n-30*omJ n+1))),(5,.int .i64 (omM (omU (omJ n)/12) (omU (omJ n)%12+1) (decide (omU (omJ n+1)=omU (omJ n))) (omL n-30*omJ n+1))),(31,.int .i64 (omE (omU (omJ n)/12) (omU (omJ n)%12+1) (decide (omU (omJ n+1)=omU (omJ n))) (omL n-30*omJ n+1))),(30,.int .i64 (omM (omU (omJ n)/12) (omU (omJ n)%12+1) (decide (omU (omJ n+1)=omU (omJ n))) (omL n-30*omJ n+1))),(27,.tuple #[.int .i64 (omM (omU (omJ n)/12) (omU (omJ n)%12+1) (decide (omU (omJ n+1)=omU (omJ n))) (omL n-30*omJ n+1)),.int .i64 (omE (omU (omJ n)/12) (omU (omJ n)%12+1) (decide (omU (omJ n+1)=omU (omJ n))) (omL n-30*omJ n+1))]),(29,.tuple #[.int .i64 (omM (omU (omJ n)/12) (omU (omJ n)%12+1) (decide (omU (omJ n+1)=omU (omJ n))) (omL n-30*omJ n+1)),.int .i64 (omE (omU (omJ n)/12) (omU (omJ n)%12+1) (decide (omU (omJ n+1)=omU (omJ n))) (omL n-30*omJ n+1))]),(28,.agg #[.int .i64 (omU (omJ n)/12),.int .i64 (omU (omJ n)%12+1),.bool (decide (omU (omJ n+1)=omU (omJ n))),.int .i64 (omL n-30*omJ n+1)]),(19,.bool false),(18,.bool false),(17,.int .i64 n),(16,.bool false),(15,.bool false),(14,.int .i64 n),(4,.int .i64 0),(3,.pointer (some ⟨g3,0,none⟩)),(13,.int .i64 0),(12,.agg #[.int .i64 (omU (omJ n)/12),.int .i64 (omU (omJ n)%12+1),.bool (decide (omU (omJ n+1)=omU (omJ n))),.int .i64 (omL n-30*omJ n+1)]),(9,.tuple #[.agg #[.int .i64 (omU (omJ n)/12),.int .i64 (omU (omJ n)%12+1),.bool (decide (omU (omJ n+1)=omU (omJ n))),.int .i64 (omL n-30*omJ n+1)],.int .i64 0]),(11,.tuple #[.agg #[.int .i64 (omU (omJ n)/12),.int .i64 (omU (omJ n)%12+1),.bool (decide (omU (omJ n+1)=omU (omJ n))),.int .i64 (omL n-30*omJ n+1)],.int .i64 0]),(10,.int .i64 n),(8,.bool false),(7,.bool true),(0,.int .i64 n)]) hF (r_assign (hF.at 0 rfl)) rfl rfl rfl rfl fun a hF=>?_
                refine E.nil ?_
                refine wp_ret ?_
                have bel:=st.bel
                refine bodyPost_ret (res_tmp Try.results7 (hF.at 0 rfl)) hF.dfr ?_
                exact⟨rfl,bel⟩))
          ·first
           |(exfalso;omega)
           |(refine E.opvg hF (r_bin (hF.at 1 rfl) (hF.at 0 rfl) eg_scalar (bi_int (ic_eql (c:=false) (dec_ff hc10)) (by simp))) (wanted_by rfl rfl (hF.at 2 rfl) rfl) rfl rfl rfl fun a hF=>?_
             refine E.opv hF (r_pick_t (hF.at 3 rfl) (hF.at 0 rfl)) rfl rfl rfl rfl fun a hF=>?_
             refine E.opv hF (r_move (hF.at 0 rfl)) rfl rfl rfl rfl fun a hF=>?_
             refine E.unwanted hF (wanted_by rfl rfl (hF.at 0 rfl) rfl) rfl rfl rfl fun a hF=>?_
             refine E.unwanted hF (wanted_by rfl rfl (hF.at 1 rfl) rfl) rfl rfl rfl fun a hF=>?_
             refine E.opv hF (r_pick_f (hF.at 2 rfl) ev_c) rfl rfl rfl rfl fun a hF=>?_
             refine E.opv hF (r_move (hF.at 0 rfl)) rfl rfl rfl rfl fun a hF=>?_
             refine E.unwanted hF (wanted_by rfl rfl (hF.at 0 rfl) rfl) rfl rfl rfl fun a hF=>?_
             refine E.unwanted hF (wanted_by rfl rfl (hF.at 1 rfl) rfl) rfl rfl rfl fun a hF=>?_
             refine E.unwanted hF (wanted_by rfl rfl (hF.at 2 rfl) rfl) rfl rfl rfl fun a hF=>?_
             refine E.unwanted hF (wanted_by rfl rfl (hF.at 3 rfl) rfl) rfl rfl rfl fun a hF=>?_
             refine E.unwanted hF (wanted_by rfl rfl (hF.at 4 rfl) rfl) rfl rfl rfl fun a hF=>?_
             refine E.opv hF (r_pick_f (hF.at 5 rfl) ev_c) rfl rfl rfl rfl fun a hF=>?_
             refine E.opset (L':=[(2,.bool false),(56,.bool false),(55,undef),(54,undef),(53,undef),(52,undef),(51,undef),(50,.bool false),(49,.bool false),(48,undef),(47,undef),(46,.bool false),(45,.bool false),(44,.bool false),(43,.int .i64 n),(42,.int .i64 (omM (omU (omJ n)/12) (omU (omJ n)%12+1) (decide (omU (omJ n+1)=omU (omJ n))) (omL n-30*omJ n+1))),(41,.bool true),(40,.bool true),(39,.bool true),(38,.agg #[.int .i64 (omU (omJ n)/12),.int .i64 (omU (omJ n)%12+1),.bool (decide (omU (omJ n+1)=omU (omJ n))),.int .i64 (omL n-30*omJ n+1)]),(37,.int .i64 n),(36,.agg #[.int .i64 (omU (omJ n)/12),.int .i64 (omU (omJ n)%12+1),.bool (decide (omU (omJ n+1)=omU (omJ n))),.int .i64 (omL n-30*omJ n+1)]),(35,.agg #[.int .i64 (omU (omJ n)/12),.int .i64 (omU (omJ n)%12+1),.bool (decide (omU (omJ n+1)=omU (omJ n))),.int .i64 (omL n-30*omJ n+1)]),(34,.bool true),(33,.bool true),(32,.int .i64 0),(6,.int .i64 (omE (omU (omJ n)/12) (omU (omJ n)%12+1) (decide (omU (omJ n+1)=omU (omJ n))) (omL n-30*omJ n+1))),(5,.int .i64 (omM (omU (omJ n)/12) (omU (omJ n)%12+1) (decide (omU (omJ n+1)=omU (omJ n))) (omL n-30*omJ n+1))),(31,.int .i64 (omE (omU (omJ n)/12) (omU (omJ n)%12+1) (decide (omU (omJ n+1)=omU (omJ n))) (omL n-30*omJ n+1))),(30,.int .i64 (omM (omU (omJ n)/12) (omU (omJ n)%12+1) (decide (omU (omJ n+1)=omU (omJ n))) (omL n-30*omJ n+1))),(27,.tuple #[.int .i64 (omM (omU (omJ n)/12) (omU (omJ n)%12+1) (decide (omU (omJ n+1)=omU (omJ n))) (omL n-30*omJ n+1)),.int .i64 (omE (omU (omJ n)/12) (omU (omJ n)%12+1) (decide (omU (omJ n+1)=omU (omJ n))) (omL n-30*omJ n+1))]),(29,.tuple #[.int .i64 (omM (omU (omJ n)/12) (omU (omJ n)%12+1) (decide (omU (omJ n+1)=omU (omJ n))) (omL n-30*omJ n+1)),.int .i64 (omE (omU (omJ n)/12) (omU (omJ n)%12+1) (decide (omU (omJ n+1)=omU (omJ n))) (omL n-30*omJ n+1))]),(28,.agg #[.int .i64 (omU (omJ n)/12),.int .i64 (omU (omJ n)%12+1),.bool (decide (omU (omJ n+1)=omU (omJ n))),.int .i64 (omL n-30*omJ n+1)]),(19,.bool false),(18,.bool false),(17,.int .i64 n),(16,.bool false),(15,.bool false),(14,.int .i64 n),(4,.int .i64 0),(3,.pointer (some ⟨g3,0,none⟩)),(13,.int .i64 0),(12,.agg #[.int .i64 (omU (omJ n)/12),.int .i64 (omU (omJ n)%12+1),.bool (decide (omU (omJ n+1)=omU (omJ n))),.int .i64 (omL n-30*omJ n+1)]),(9,.tuple #[.agg #[.int .i64 (omU (omJ n)/12),.int .i64 (omU (omJ n)%12+1),.bool (decide (omU (omJ n+1)=omU (omJ n))),.int .i64 (omL n-30*omJ n+1)],.int .i64 0]),(11,.tuple #[.agg #[.int .i64 (omU (omJ n)/12),.int .i64 (omU (omJ n)%12+1),.bool (decide (omU (omJ n+1)=omU (omJ n))),.int .i64 (omL n-30*omJ n+1)],.int .i64 0]),(10,.int .i64 n),(8,.bool false),(7,.bool true),(0,.int .i64 n)]) hF (r_assign (hF.at 0 rfl)) rfl rfl rfl rfl fun a hF=>?_
             refine E.nil ?_
             refine wp_ret ?_
             have bel:=st.bel
             refine bodyPost_ret (res_tmp Try.results7 (hF.at 0 rfl)) hF.dfr ?_
             exact⟨rfl,bel⟩))))
 ·first
  |(exfalso;omega)
  |(refine S.callx st hF (r_call Try.func25 en25.1 en25.2 (map1 (hF.at 0 rfl))) (omOfX_any n _ (by omega)) rfl rfl rfl rfl fun w14 a st hF=>?_
    refine E.opv hF (r_move (hF.at 0 rfl)) rfl rfl rfl rfl fun a hF=>?_
    refine E.opv hF (r_extract (v:= .agg #[.int .i64 0,.int .i64 0,.bool false,.int .i64 0]) (hF.at 0 rfl) rfl) rfl rfl rfl rfl fun a hF=>?_
    refine E.opv hF (r_extract (v:= .int .i64 2) (hF.at 1 rfl) rfl) rfl rfl rfl rfl fun a hF=>?_
    refine S.new st hF 1 rfl ty_OMD rfl rfl rfl rfl rfl fun g3 w15 a st hF=>?_
    refine E.opv hF (r_assign (hF.at 1 rfl)) rfl rfl rfl rfl fun a hF=>?_
    refine E.nil ?_
    refine wp_seq ?_
    refine wp_seq ?_
    refine E.seq ?_
    refine E.opv hF (r_move (hF.at 10 rfl)) rfl rfl rfl rfl fun a hF=>?_
    by_cases hc16:n<(-3000000)
    ·first
     |(exfalso;omega)
     |(refine E.opv hF (r_bin (hF.at 0 rfl) ev_c eg_scalar (bi_int (ic_lss (c:=true) (dec_tt hc16)) (by simp))) rfl rfl rfl rfl fun a hF=>?_
       refine E.opv hF (r_move (hF.at 0 rfl)) rfl rfl rfl rfl fun a hF=>?_
       refine E.unwanted hF (wanted_by rfl rfl (hF.at 0 rfl) rfl) rfl rfl rfl fun a hF=>?_
       refine E.unwanted hF (wanted_by rfl rfl (hF.at 1 rfl) rfl) rfl rfl rfl fun a hF=>?_
       refine E.opv hF (r_pick_t (hF.at 2 rfl) ev_c) rfl rfl rfl rfl fun a hF=>?_
       refine E.nil ?_
       refine wp_cond_true (hF.at 0 rfl) ?_
       refine wp_seq ?_
       refine E.seq ?_
       refine E.opv hF (r_move (hF.at 6 rfl)) rfl rfl rfl rfl fun a hF=>?_
       refine E.opv hF (r_bin (hF.at 0 rfl) ev_c eg_scalar (bi_int (ic_eql (c:=true) (by decide)) (by simp))) rfl rfl rfl rfl fun a hF=>?_
       refine E.opv hF (r_move (hF.at 0 rfl)) rfl rfl rfl rfl fun a hF=>?_
       refine E.opvg hF (r_load (hF.at 10 rfl) (ld_all ty_OMD (st.bk 0 rfl) rfl)) (wanted_by rfl rfl (hF.at 0 rfl) rfl) rfl rfl rfl fun a hF=>?_
       refine E.opvg hF (r_build (by simp) (bd_OMD_ _)) (wanted_by rfl rfl (hF.at 1 rfl) rfl) rfl rfl rfl fun a hF=>?_
       refine E.opvg hF (r_bin (hF.at 1 rfl) (hF.at 0 rfl) eg_OMD (es_OMD (dec_tt (by simp)))) (wanted_by rfl rfl (hF.at 2 rfl) rfl) rfl rfl rfl fun a hF=>?_
       refine E.opv hF (r_pick_t (hF.at 3 rfl) (hF.at 0 rfl)) rfl rfl rfl rfl fun a hF=>?_
       refine E.opset (L':=[(2,.bool true),(26,.bool true),(25,.bool true),(24,.agg #[.int .i64 0,.int .i64 0,.bool false,.int .i64 0]),(23,.agg #[.int .i64 0,.int .i64 0,.bool false,.int .i64 0]),(22,.bool true),(21,.bool true),(20,.int .i64 2),(19,.bool true),(18,undef),(17,undef),(16,.bool true),(15,.bool true),(14,.int .i64 n),(4,.int .i64 2),(3,.pointer (some ⟨g3,0,none⟩)),(13,.int .i64 2),(12,.agg #[.int .i64 0,.int .i64 0,.bool false,.int .i64 0]),(9,.tuple #[.agg #[.int .i64 0,.int .i64 0,.bool false,.int .i64 0],.int .i64 2]),(11,.tuple #[.agg #[.int .i64 0,.int .i64 0,.bool false,.int .i64 0],.int .i64 2]),(10,.int .i64 n),(8,.bool false),(7,.bool true),(0,.int .i64 n)]) hF (r_assign (hF.at 0 rfl)) rfl rfl rfl rfl fun a hF=>?_
       refine E.nil ?_
       refine wp_ret ?_
       have bel:=st.bel
       refine bodyPost_ret (res_tmp Try.results7 (hF.at 0 rfl)) hF.dfr ?_
       exact⟨rfl,bel⟩)
    ·first
     |(exfalso;omega)
     |(refine E.opv hF (r_bin (hF.at 0 rfl) ev_c eg_scalar (bi_int (ic_lss (c:=false) (dec_ff hc16)) (by simp))) rfl rfl rfl rfl fun a hF=>?_
       refine E.opv hF (r_move (hF.at 0 rfl)) rfl rfl rfl rfl fun a hF=>?_
       refine E.opvg hF (r_move (hF.at 13 rfl)) (wanted_by rfl rfl (hF.at 0 rfl) rfl) rfl rfl rfl fun a hF=>?_
       by_cases hc17:3000000<n
       ·first
        |(exfalso;omega)
        |(refine E.opvg hF (r_bin (hF.at 0 rfl) ev_c eg_scalar (bi_int (ic_gtr (c:=true) (dec_tt hc17)) (by simp))) (wanted_by rfl rfl (hF.at 1 rfl) rfl) rfl rfl rfl fun a hF=>?_
          refine E.opv hF (r_pick_f (hF.at 2 rfl) (hF.at 0 rfl)) rfl rfl rfl rfl fun a hF=>?_
          refine E.nil ?_
          refine wp_cond_true (hF.at 0 rfl) ?_
          refine wp_seq ?_
          refine E.seq ?_
          refine E.opv hF (r_move (hF.at 6 rfl)) rfl rfl rfl rfl fun a hF=>?_
          refine E.opv hF (r_bin (hF.at 0 rfl) ev_c eg_scalar (bi_int (ic_eql (c:=true) (by decide)) (by simp))) rfl rfl rfl rfl fun a hF=>?_
          refine E.opv hF (r_move (hF.at 0 rfl)) rfl rfl rfl rfl fun a hF=>?_
          refine E.opvg hF (r_load (hF.at 10 rfl) (ld_all ty_OMD (st.bk 0 rfl) rfl)) (wanted_by rfl rfl (hF.at 0 rfl) rfl) rfl rfl rfl fun a hF=>?_
          refine E.opvg hF (r_build (by simp) (bd_OMD_ _)) (wanted_by rfl rfl (hF.at 1 rfl) rfl) rfl rfl rfl fun a hF=>?_
          refine E.opvg hF (r_bin (hF.at 1 rfl) (hF.at 0 rfl) eg_OMD (es_OMD (dec_tt (by simp)))) (wanted_by rfl rfl (hF.at 2 rfl) rfl) rfl rfl rfl fun a hF=>?_
          refine E.opv hF (r_pick_t (hF.at 3 rfl) (hF.at 0 rfl)) rfl rfl rfl rfl fun a hF=>?_
          refine E.opset (L':=[(2,.bool true),(26,.bool true),(25,.bool true),(24,.agg #[.int .i64 0,.int .i64 0,.bool false,.int .i64 0]),(23,.agg #[.int .i64 0,.int .i64 0,.bool false,.int .i64 0]),(22,.bool true),(21,.bool true),(20,.int .i64 2),(19,.bool true),(18,.bool true),(17,.int .i64 n),(16,.bool false),(15,.bool false),(14,.int .i64 n),(4,.int .i64 2),(3,.pointer (some ⟨g3,0,none⟩)),(13,.int .i64 2),(12,.agg #[.int .i64 0,.int .i64 0,.bool false,.int .i64 0]),(9,.tuple #[.agg #[.int .i64 0,.int .i64 0,.bool false,.int .i64 0],.int .i64 2]),(11,.tuple #[.agg #[.int .i64 0,.int .i64 0,.bool false,.int .i64 0],.int .i64 2]),(10,.int .i64 n),(8,.bool false),(7,.bool true),(0,.int .i64 n)]) hF (r_assign (hF.at 0 rfl)) rfl rfl rfl rfl fun a hF=>?_
          refine E.nil ?_
          refine wp_ret ?_
          have bel:=st.bel
          refine bodyPost_ret (res_tmp Try.results7 (hF.at 0 rfl)) hF.dfr ?_
          exact⟨rfl,bel⟩)
       ·first
        |(exfalso;omega)
        |(refine E.opvg hF (r_bin (hF.at 0 rfl) ev_c eg_scalar (bi_int (ic_gtr (c:=false) (dec_ff hc17)) (by simp))) (wanted_by rfl rfl (hF.at 1 rfl) rfl) rfl rfl rfl fun a hF=>?_
          refine E.opv hF (r_pick_f (hF.at 2 rfl) (hF.at 0 rfl)) rfl rfl rfl rfl fun a hF=>?_
          refine E.nil ?_
          refine wp_cond_false (hF.at 0 rfl) ?_
          refine wp_skip ?_
          refine E.norm ?_
          refine wp_seq ?_
          refine E.seq ?_
          refine E.opv hF (r_load (hF.at 7 rfl) (ld_all ty_OMD (st.bk 0 rfl) rfl)) rfl rfl rfl rfl fun a hF=>?_
          refine S.callx st hF (r_call Try.func26 en26.1 en26.2 (map1 (hF.at 0 rfl))) (omFixed_any 0 0 false 0 _) rfl rfl rfl rfl fun w18 a st hF=>?_
          refine E.opv hF (r_move (hF.at 0 rfl)) rfl rfl rfl rfl fun a hF=>?_
          refine E.opv hF (r_extract (v:= .int .i64 (omM 0 0 false 0)) (hF.at 0 rfl) rfl) rfl rfl rfl rfl fun a hF=>?_
          refine E.opv hF (r_extract (v:= .int .i64 (omE 0 0 false 0)) (hF.at 1 rfl) rfl) rfl rfl rfl rfl fun a hF=>?_
          refine E.opv hF (r_assign (hF.at 1 rfl)) rfl rfl rfl rfl fun a hF=>?_
          refine E.opv hF (r_assign (hF.at 1 rfl)) rfl rfl rfl rfl fun a hF=>?_
          refine E.nil ?_
          refine wp_seq ?_
          refine E.seq ?_
          refine E.opv hF (r_move (hF.at 13 rfl)) rfl rfl rfl rfl fun a hF=>?_
          refine E.opv hF (r_bin (hF.at 0 rfl) ev_c eg_scalar (bi_int (ic_eql (c:=false) (by decide)) (by simp))) rfl rfl rfl rfl fun a hF=>?_
          refine E.opv hF (r_move (hF.at 0 rfl)) rfl rfl rfl rfl fun a hF=>?_
          refine E.unwanted hF (wanted_by rfl rfl (hF.at 0 rfl) rfl) rfl rfl rfl fun a hF=>?_
          refine E.unwanted hF (wanted_by rfl rfl (hF.at 1 rfl) rfl) rfl rfl rfl fun a hF=>?_
          refine E.unwanted hF (wanted_by rfl rfl (hF.at 2 rfl) rfl) rfl rfl rfl fun a hF=>?_
          refine E.unwanted hF (wanted_by rfl rfl (hF.at 3 rfl) rfl) rfl rfl rfl fun a hF=>?_
          refine E.unwanted hF (wanted_by rfl rfl (hF.at 4 rfl) rfl) rfl rfl rfl fun a hF=>?_
          refine E.opv hF (r_pick_f (hF.at 5 rfl) ev_c) rfl rfl rfl rfl fun a hF=>?_
          refine E.opv hF (r_move (hF.at 0 rfl)) rfl rfl rfl rfl fun a hF=>?_
          refine E.unwanted hF (wanted_by rfl rfl (hF.at 0 rfl) rfl) rfl rfl rfl fun a hF=>?_
          refine E.unwanted hF (wanted_by rfl rfl (hF.at 1 rfl) rfl) rfl rfl rfl fun a hF=>?_
          refine E.unwanted hF (wanted_by rfl rfl (hF.at 2 rfl) rfl) rfl rfl rfl fun a hF=>?_
          refine E.opv hF (r_pick_f (hF.at 3 rfl) ev_c) rfl rfl rfl rfl fun a hF=>?_
          refine E.opv hF (r_move (hF.at 0 rfl)) rfl rfl rfl rfl fun a hF=>?_
          refine E.unwanted hF (wanted_by rfl rfl (hF.at 0 rfl) rfl) rfl rfl rfl fun a hF=>?_
          refine E.unwanted hF (wanted_by rfl rfl (hF.at 1 rfl) rfl) rfl rfl rfl fun a hF=>?_
          refine E.opv hF (r_pick_f (hF.at 2 rfl) ev_c) rfl rfl rfl rfl fun a hF=>?_
          refine E.opv hF (r_move (hF.at 0 rfl)) rfl rfl rfl rfl fun a hF=>?_
          refine E.unwanted hF (wanted_by rfl rfl (hF.at 0 rfl) rfl) rfl rfl rfl fun a hF=>?_
          refine E.unwanted hF (wanted_by rfl rfl (hF.at 1 rfl) rfl) rfl rfl rfl fun a hF=>?_
          refine E.unwanted hF (wanted_by rfl rfl (hF.at 2 rfl) rfl) rfl rfl rfl fun a hF=>?_
          refine E.unwanted hF (wanted_by rfl rfl (hF.at 3 rfl) rfl) rfl rfl rfl fun a hF=>?_
          refine E.unwanted hF (wanted_by rfl rfl (hF.at 4 rfl) rfl) rfl rfl rfl fun a hF=>?_
          refine E.opv hF (r_pick_f (hF.at 5 rfl) ev_c) rfl rfl rfl rfl fun a hF=>?_
          refine E.opset (L':=[(2,.bool false),(56,.bool false),(55,undef),(54,undef),(53,undef),(52,undef),(51,undef),(50,.bool false),(49,.bool false),(48,undef),(47,undef),(46,.bool false),(45,.bool false),(44,undef),(43,undef),(42,undef),(41,.bool false),(40,.bool false),(39,undef),(38,undef),(37,undef),(36,undef),(35,undef),(34,.bool false),(33,.bool false),(32,.int .i64 2),(6,.int .i64 (omE 0 0 false 0)),(5,.int .i64 (omM 0 0 false 0)),(31,.int .i64 (omE 0 0 false 0)),(30,.int .i64 (omM 0 0 false 0)),(27,.tuple #[.int .i64 (omM 0 0 false 0),.int .i64 (omE 0 0 false 0)]),(29,.tuple #[.int .i64 (omM 0 0 false 0),.int .i64 (omE 0 0 false 0)]),(28,.agg #[.int .i64 0,.int .i64 0,.bool false,.int .i64 0]),(19,.bool false),(18,.bool false),(17,.int .i64 n),(16,.bool false),(15,.bool false),(14,.int .i64 n),(4,.int .i64 2),(3,.pointer (some ⟨g3,0,none⟩)),(13,.int .i64 2),(12,.agg #[.int .i64 0,.int .i64 0,.bool false,.int .i64 0]),(9,.tuple #[.agg #[.int .i64 0,.int .i64 0,.bool false,.int .i64 0],.int .i64 2]),(11,.tuple #[.agg #[.int .i64 0,.int .i64 0,.bool false,.int .i64 0],.int .i64 2]),(10,.int .i64 n),(8,.bool false),(7,.bool true),(0,.int .i64 n)]) hF (r_assign (hF.at 0 rfl)) rfl rfl rfl rfl fun a hF=>?_
          refine E.nil ?_
          refine wp_ret ?_
          have bel:=st.bel
          refine bodyPost_ret (res_tmp Try.results7 (hF.at 0 rfl)) hF.dfr ?_
          exact⟨rfl,bel⟩)))
theorem omM_bd (y m d:Int) (l:Bool): -3000000≤omM y m l d∧omM y m l d≤3000000:=by
 unfold omM
 split
 ·rename_i h
  unfold omE at h
  split at h
  ·omega
  ·split at h
   ·omega
   ·split at h <;> omega
 ·omega
theorem oldmoonDates_walk (y m:Int) (l:Bool) (d:Int) (w:World):
 Calls Try.prog 8 #[.int .i64 y,.int .i64 m,.bool l,.int .i64 d] w (ValPost w (.bool true)):=by
 have heb:=omE_cases (min (max y (-20001)) 20001) m d l
 have hec:=omE_cases y m d l
 have hnb:=omM_bd (min (max y (-20001)) 20001) m d l
 have st:=St.start w
 refine E.enter (nt:=45) (L:=[(0,.int .i64 y),(1,.int .i64 m),(2,.bool l),(3,.int .i64 d)]) Try.func8 rfl rfl rfl (args_cons (i:=0) rfl (args_cons (i:=1) rfl (args_cons (i:=2) rfl (args_cons (i:=3) rfl args_nil)))) ?_
 intro a hF
 refine wp_seq ?_
 refine E.seq ?_
 refine E.opv hF (r_assign ev_c) rfl rfl rfl rfl fun a hF=>?_
 refine E.nil ?_
 refine wp_seq ?_
 refine wp_seq ?_
 refine E.seq ?_
 refine S.callx st hF (r_call Try.func24 en24.1 en24.2 map0) (awake17_any _) rfl rfl rfl rfl fun w1 a st hF=>?_
 refine E.opv hF (r_un (hF.at 0 rfl) (bn_not _ false rfl)) rfl rfl rfl rfl fun a hF=>?_
 refine E.nil ?_
 refine wp_cond_false (hF.at 0 rfl) ?_
 refine wp_skip ?_
 refine E.norm ?_
 refine wp_seq ?_
 refine E.seq ?_
 refine E.opv hF (r_move (hF.at 3 rfl)) rfl rfl rfl rfl fun a hF=>?_
 refine E.opv hF (r_move (hF.at 5 rfl)) rfl rfl rfl rfl fun a hF=>?_
 refine E.opv hF (r_move (hF.at 7 rfl)) rfl rfl rfl rfl fun a hF=>?_
 refine E.opv hF (r_move (hF.at 9 rfl)) rfl rfl rfl rfl fun a hF=>?_
 refine E.opv hF (r_build (pair4o (hF.at 3 rfl) (hF.at 2 rfl) (hF.at 1 rfl) (hF.at 0 rfl)) (bd_OMD_0123 _ _ _ _ _)) rfl rfl rfl rfl fun a hF=>?_
 refine S.new st hF 0 rfl ty_OMD rfl rfl rfl rfl rfl fun g9 w2 a st hF=>?_
 refine E.nil ?_
 refine wp_seq ?_
 refine E.seq ?_
 refine E.opv hF (r_load (hF.at 0 rfl) (ld_all ty_OMD (st.bk 0 rfl) rfl)) rfl rfl rfl rfl fun a hF=>?_
 refine S.callx st hF (r_call Try.func26 en26.1 en26.2 (map1 (hF.at 0 rfl))) (omFixed_any y m l d _) rfl rfl rfl rfl fun w3 a st hF=>?_
 refine E.opv hF (r_move (hF.at 0 rfl)) rfl rfl rfl rfl fun a hF=>?_
 refine E.opv hF (r_extract (v:= .int .i64 (omM y m l d)) (hF.at 0 rfl) rfl) rfl rfl rfl rfl fun a hF=>?_
 refine E.opv hF (r_extract (v:= .int .i64 (omE y m l d)) (hF.at 1 rfl) rfl) rfl rfl rfl rfl fun a hF=>?_
 refine E.opv hF (r_assign (hF.at 1 rfl)) rfl rfl rfl rfl fun a hF=>?_
 refine E.opv hF (r_assign (hF.at 1 rfl)) rfl rfl rfl rfl fun a hF=>?_
 refine E.nil ?_
 refine wp_seq ?_
 refine E.seq ?_
 refine E.opv hF (r_move (hF.at 16 rfl)) rfl rfl rfl rfl fun a hF=>?_
 refine E.opv hF (r_builtin (map2 (hF.at 0 rfl) ev_c) bl_max) rfl rfl rfl rfl fun a hF=>?_
 refine E.opv hF (r_builtin (map2 (hF.at 0 rfl) ev_c) bl_min) rfl rfl rfl rfl fun a hF=>?_
 refine E.opv hF (r_move (hF.at 20 rfl)) rfl rfl rfl rfl fun a hF=>?_
 refine E.opv hF (r_move (hF.at 22 rfl)) rfl rfl rfl rfl fun a hF=>?_
 refine E.opv hF (r_move (hF.at 24 rfl)) rfl rfl rfl rfl fun a hF=>?_
 refine E.opv hF (r_build (pair4o (hF.at 3 rfl) (hF.at 2 rfl) (hF.at 1 rfl) (hF.at 0 rfl)) (bd_RMD_0123 _ _ _ _ _)) rfl rfl rfl rfl fun a hF=>?_
 refine S.callx st hF (r_call Try.func31 en31.1 en31.2 (map1 (hF.at 0 rfl))) (r17fix_any (min (max y (-20001)) 20001) m l d _) rfl rfl rfl rfl fun w4 a st hF=>?_
 refine E.opv hF (r_move (hF.at 0 rfl)) rfl rfl rfl rfl fun a hF=>?_
 refine E.opv hF (r_extract (v:= .int .i64 (omM (min (max y (-20001)) 20001) m l d)) (hF.at 0 rfl) rfl) rfl rfl rfl rfl fun a hF=>?_
 refine E.opv hF (r_extract (v:= .int .i64 (omE (min (max y (-20001)) 20001) m l d)) (hF.at 1 rfl) rfl) rfl rfl rfl rfl fun a hF=>?_
 refine E.opv hF (r_assign (hF.at 1 rfl)) rfl rfl rfl rfl fun a hF=>?_
 refine E.opv hF (r_assign (hF.at 1 rfl)) rfl rfl rfl rfl fun a hF=>?_
 refine E.nil ?_
 refine wp_seq ?_
 refine E.seq ?_
 refine E.opv hF (r_move (hF.at 13 rfl)) rfl rfl rfl rfl fun a hF=>?_
 refine E.opv hF (r_move (hF.at 1 rfl)) rfl rfl rfl rfl fun a hF=>?_
 refine E.opv hF (r_bin (hF.at 1 rfl) (hF.at 0 rfl) eg_scalar (bi_int (ic_eql (c:=true) (dec_tt (om_clip _ _ _ _).2.symm)) (by simp))) rfl rfl rfl rfl fun a hF=>?_
 refine E.opv hF (r_move (hF.at 0 rfl)) rfl rfl rfl rfl fun a hF=>?_
 refine E.opvg hF (r_move (hF.at 18 rfl)) (wanted_by rfl rfl (hF.at 0 rfl) rfl) rfl rfl rfl fun a hF=>?_
 refine E.opvg hF (r_move (hF.at 6 rfl)) (wanted_by rfl rfl (hF.at 1 rfl) rfl) rfl rfl rfl fun a hF=>?_
 refine E.opvg hF (r_bin (hF.at 1 rfl) (hF.at 0 rfl) eg_scalar (bi_int (ic_eql (c:=true) (dec_tt (om_clip _ _ _ _).1.symm)) (by simp))) (wanted_by rfl rfl (hF.at 2 rfl) rfl) rfl rfl rfl fun a hF=>?_
 refine E.opv hF (r_pick_t (hF.at 3 rfl) (hF.at 0 rfl)) rfl rfl rfl rfl fun a hF=>?_
 refine E.opset (L':=[(8,.bool true),(44,.bool true),(43,.bool true),(42,.int .i64 (omM (min (max y (-20001)) 20001) m l d)),(41,.int .i64 (omM y m l d)),(40,.bool true),(39,.bool true),(38,.int .i64 (omE (min (max y (-20001)) 20001) m l d)),(37,.int .i64 (omE y m l d)),(13,.int .i64 (omE (min (max y (-20001)) 20001) m l d)),(12,.int .i64 (omM (min (max y (-20001)) 20001) m l d)),(36,.int .i64 (omE (min (max y (-20001)) 20001) m l d)),(35,.int .i64 (omM (min (max y (-20001)) 20001) m l d)),(26,.tuple #[.int .i64 (omM (min (max y (-20001)) 20001) m l d),.int .i64 (omE (min (max y (-20001)) 20001) m l d)]),(34,.tuple #[.int .i64 (omM (min (max y (-20001)) 20001) m l d),.int .i64 (omE (min (max y (-20001)) 20001) m l d)]),(33,.agg #[.int .i64 (min (max y (-20001)) 20001),.int .i64 m,.bool l,.int .i64 d]),(32,.int .i64 d),(31,.bool l),(30,.int .i64 m),(29,.int .i64 (min (max y (-20001)) 20001)),(28,.int .i64 (max y (-20001))),(27,.int .i64 y),(11,.int .i64 (omE y m l d)),(10,.int .i64 (omM y m l d)),(25,.int .i64 (omE y m l d)),(24,.int .i64 (omM y m l d)),(21,.tuple #[.int .i64 (omM y m l d),.int .i64 (omE y m l d)]),(23,.tuple #[.int .i64 (omM y m l d),.int .i64 (omE y m l d)]),(22,.agg #[.int .i64 y,.int .i64 m,.bool l,.int .i64 d]),(9,.pointer (some ⟨g9,0,none⟩)),(20,.agg #[.int .i64 y,.int .i64 m,.bool l,.int .i64 d]),(19,.int .i64 d),(18,.bool l),(17,.int .i64 m),(16,.int .i64 y),(15,.bool false),(14,.bool true),(0,.int .i64 y),(1,.int .i64 m),(2,.bool l),(3,.int .i64 d)]) hF (r_assign (hF.at 0 rfl)) rfl rfl rfl rfl fun a hF=>?_
 refine E.nil ?_
 refine wp_ret ?_
 have bel:=st.bel
 refine bodyPost_ret (res_tmp Try.results8 (hF.at 0 rfl)) hF.dfr ?_
 exact⟨rfl,bel⟩
theorem oldmoonSteps_walk (n:Int) (w:World):
 Calls Try.prog 9 #[.int .i64 n] w (ValPost w (.bool true)):=by
 have st:=St.start w
 refine E.enter (nt:=80) (L:=[(0,.int .i64 n)]) Try.func9 rfl rfl rfl (args_cons (i:=0) rfl args_nil) ?_
 intro a hF
 refine wp_seq ?_
 refine E.seq ?_
 refine E.opv hF (r_assign ev_c) rfl rfl rfl rfl fun a hF=>?_
 refine E.nil ?_
 refine wp_seq ?_
 refine wp_seq ?_
 refine E.seq ?_
 refine S.callx st hF (r_call Try.func24 en24.1 en24.2 map0) (awake17_any _) rfl rfl rfl rfl fun w1 a st hF=>?_
 refine E.opv hF (r_un (hF.at 0 rfl) (bn_not _ false rfl)) rfl rfl rfl rfl fun a hF=>?_
 refine E.nil ?_
 refine wp_cond_false (hF.at 0 rfl) ?_
 refine wp_skip ?_
 refine E.norm ?_
 refine wp_seq ?_
 refine E.seq ?_
 refine E.opv hF (r_move (hF.at 3 rfl)) rfl rfl rfl rfl fun a hF=>?_
 refine S.callx st hF (r_call Try.func23 en23.1 en23.2 (map1 (hF.at 0 rfl))) (inD_any n _) rfl rfl rfl rfl fun w2 a st hF=>?_
 have hind:=inD_bd n
 refine E.opv hF (r_assign (hF.at 0 rfl)) rfl rfl rfl rfl fun a hF=>?_
 obtain⟨k,hk⟩:∃k:Int,k=inD n:=⟨_,rfl⟩
 rw[←hk] at hF hind
 have hst:=omL_step k
 have hJ:=omJ_L k
 have hJ1:=omJ_L (k+1)
 have hnx2:=om_facts k
 have hus:=omU_step (omJ k)
 refine E.nil ?_
 refine wp_seq ?_
 refine E.seq ?_
 refine E.opv hF (r_move (hF.at 0 rfl)) rfl rfl rfl rfl fun a hF=>?_
 by_cases hc3: -3000000≤k∧k≤3000000
 ·first
  |(exfalso;omega)
  |(refine S.callx st hF (r_call Try.func25 en25.1 en25.2 (map1 (hF.at 0 rfl))) (omOf_any k _ (by omega) (by omega)) rfl rfl rfl rfl fun w4 a st hF=>?_
    have hmd3:=om_day (k)
    have hmj3:=omJ_in (n:=k) (by omega) (by omega)
    have hmu3:=omU_lim (j:=omJ k) (by omega) (by omega)
    refine E.opv hF (r_move (hF.at 0 rfl)) rfl rfl rfl rfl fun a hF=>?_
    refine E.opv hF (r_extract (v:= .agg #[.int .i64 (omU (omJ k)/12),.int .i64 (omU (omJ k)%12+1),.bool (decide (omU (omJ k+1)=omU (omJ k))),.int .i64 (omL k-30*omJ k+1)]) (hF.at 0 rfl) rfl) rfl rfl rfl rfl fun a hF=>?_
    refine E.opv hF (r_extract (v:= .int .i64 0) (hF.at 1 rfl) rfl) rfl rfl rfl rfl fun a hF=>?_
    refine S.new st hF 1 rfl ty_OMD rfl rfl rfl rfl rfl fun g4 w5 a st hF=>?_
    refine E.opv hF (r_assign (hF.at 1 rfl)) rfl rfl rfl rfl fun a hF=>?_
    refine E.nil ?_
    refine wp_seq ?_
    refine E.seq ?_
    refine E.opv hF (r_move (hF.at 7 rfl)) rfl rfl rfl rfl fun a hF=>?_
    refine E.opv hF (r_bin (hF.at 0 rfl) ev_c eg_scalar (ia_add (by omega) (by omega))) rfl rfl rfl rfl fun a hF=>?_
    by_cases hc6: -3000000≤k+1∧k+1≤3000000
    ·first
     |(exfalso;omega)
     |(refine S.callx st hF (r_call Try.func25 en25.1 en25.2 (map1 (hF.at 0 rfl))) (omOf_any (k+1) _ (by omega) (by omega)) rfl rfl rfl rfl fun w7 a st hF=>?_
       have hmd6:=om_day (k+1)
       have hmj6:=omJ_in (n:=k+1) (by omega) (by omega)
       have hmu6:=omU_lim (j:=omJ (k+1)) (by omega) (by omega)
       refine E.opv hF (r_move (hF.at 0 rfl)) rfl rfl rfl rfl fun a hF=>?_
       refine E.opv hF (r_extract (v:= .agg #[.int .i64 (omU (omJ (k+1))/12),.int .i64 (omU (omJ (k+1))%12+1),.bool (decide (omU (omJ (k+1)+1)=omU (omJ (k+1)))),.int .i64 (omL (k+1)-30*omJ (k+1)+1)]) (hF.at 0 rfl) rfl) rfl rfl rfl rfl fun a hF=>?_
       refine E.opv hF (r_extract (v:= .int .i64 0) (hF.at 1 rfl) rfl) rfl rfl rfl rfl fun a hF=>?_
       refine S.new st hF 1 rfl ty_OMD rfl rfl rfl rfl rfl fun g6 w8 a st hF=>?_
       refine E.opv hF (r_assign (hF.at 1 rfl)) rfl rfl rfl rfl fun a hF=>?_
       refine E.nil ?_
       refine wp_seq ?_
       refine wp_seq ?_
       refine E.seq ?_
       refine E.opv hF (r_move (hF.at 15 rfl)) rfl rfl rfl rfl fun a hF=>?_
       by_cases hc9:k=3000000
       ·first
        |(exfalso;omega)
        |(refine E.opv hF (r_bin (hF.at 0 rfl) ev_c eg_scalar (bi_int (ic_eql (c:=true) (dec_tt hc9)) (by simp))) rfl rfl rfl rfl fun a hF=>?_
          refine E.nil ?_
          refine wp_cond_true (hF.at 0 rfl) ?_
          refine wp_seq ?_
          refine E.seq ?_
          refine E.opv hF (r_move (hF.at 10 rfl)) rfl rfl rfl rfl fun a hF=>?_
          refine E.opv hF (r_bin (hF.at 0 rfl) ev_c eg_scalar (bi_int (ic_eql (c:=true) (by decide)) (by simp))) rfl rfl rfl rfl fun a hF=>?_
          refine E.opv hF (r_move (hF.at 0 rfl)) rfl rfl rfl rfl fun a hF=>?_
          refine E.opvg hF (r_move (hF.at 5 rfl)) (wanted_by rfl rfl (hF.at 0 rfl) rfl) rfl rfl rfl fun a hF=>?_
          refine E.opvg hF (r_bin (hF.at 0 rfl) ev_c eg_scalar (bi_int (ic_eql (c:=false) (by decide)) (by simp))) (wanted_by rfl rfl (hF.at 1 rfl) rfl) rfl rfl rfl fun a hF=>?_
          refine E.opv hF (r_pick_t (hF.at 2 rfl) (hF.at 0 rfl)) rfl rfl rfl rfl fun a hF=>?_
          refine E.opset (L':=[(2,.bool false),(32,.bool false),(31,.bool false),(30,.int .i64 0),(29,.bool true),(28,.bool true),(27,.int .i64 0),(26,.bool true),(25,.int .i64 k),(7,.int .i64 0),(6,.pointer (some ⟨g6,0,none⟩)),(24,.int .i64 0),(23,.agg #[.int .i64 (omU (omJ (k+1))/12),.int .i64 (omU (omJ (k+1))%12+1),.bool (decide (omU (omJ (k+1)+1)=omU (omJ (k+1)))),.int .i64 (omL (k+1)-30*omJ (k+1)+1)]),(19,.tuple #[.agg #[.int .i64 (omU (omJ (k+1))/12),.int .i64 (omU (omJ (k+1))%12+1),.bool (decide (omU (omJ (k+1)+1)=omU (omJ (k+1)))),.int .i64 (omL (k+1)-30*omJ (k+1)+1)],.int .i64 0]),(22,.tuple #[.agg #[.int .i64 (omU (omJ (k+1))/12),.int .i64 (omU (omJ (k+1))%12+1),.bool (decide (omU (omJ (k+1)+1)=omU (omJ (k+1)))),.int .i64 (omL (k+1)-30*omJ (k+1)+1)],.int .i64 0]),(21,.int .i64 (k+1)),(20,.int .i64 k),(5,.int .i64 0),(4,.pointer (some ⟨g4,0,none⟩)),(18,.int .i64 0),(17,.agg #[.int .i64 (omU (omJ k)/12),.int .i64 (omU (omJ k)%12+1),.bool (decide (omU (omJ k+1)=omU (omJ k))),.int .i64 (omL k-30*omJ k+1)]),(14,.tuple #[.agg #[.int .i64 (omU (omJ k)/12),.int .i64 (omU (omJ k)%12+1),.bool (decide (omU (omJ k+1)=omU (omJ k))),.int .i64 (omL k-30*omJ k+1)],.int .i64 0]),(16,.tuple #[.agg #[.int .i64 (omU (omJ k)/12),.int .i64 (omU (omJ k)%12+1),.bool (decide (omU (omJ k+1)=omU (omJ k))),.int .i64 (omL k-30*omJ k+1)],.int .i64 0]),(15,.int .i64 k),(3,.int .i64 k),(13,.int .i64 k),(12,.int .i64 n),(11,.bool false),(10,.bool true),(0,.int .i64 n)]) hF (r_assign (hF.at 0 rfl)) rfl rfl rfl rfl fun a hF=>?_
          refine E.nil ?_
          refine wp_ret ?_
          have bel:=st.bel
          refine bodyPost_ret (res_tmp Try.results9 (hF.at 0 rfl)) hF.dfr ?_
          exfalso;omega)
       ·first
        |(exfalso;omega)
        |(refine E.opv hF (r_bin (hF.at 0 rfl) ev_c eg_scalar (bi_int (ic_eql (c:=false) (dec_ff hc9)) (by simp))) rfl rfl rfl rfl fun a hF=>?_
          refine E.nil ?_
          refine wp_cond_false (hF.at 0 rfl) ?_
          refine wp_skip ?_
          refine E.norm ?_
          refine wp_seq ?_
          refine wp_seq ?_
          refine E.seq ?_
          refine E.opv hF (r_move (hF.at 10 rfl)) rfl rfl rfl rfl fun a hF=>?_
          refine E.opv hF (r_bin (hF.at 0 rfl) ev_c eg_scalar (bi_int (ic_neq (c:=false) (by decide)) (by simp))) rfl rfl rfl rfl fun a hF=>?_
          refine E.opv hF (r_move (hF.at 0 rfl)) rfl rfl rfl rfl fun a hF=>?_
          refine E.opvg hF (r_move (hF.at 5 rfl)) (wanted_by rfl rfl (hF.at 0 rfl) rfl) rfl rfl rfl fun a hF=>?_
          refine E.opvg hF (r_bin (hF.at 0 rfl) ev_c eg_scalar (bi_int (ic_neq (c:=false) (by decide)) (by simp))) (wanted_by rfl rfl (hF.at 1 rfl) rfl) rfl rfl rfl fun a hF=>?_
          refine E.opv hF (r_pick_f (hF.at 2 rfl) (hF.at 0 rfl)) rfl rfl rfl rfl fun a hF=>?_
          refine E.nil ?_
          refine wp_cond_false (hF.at 0 rfl) ?_
          refine wp_skip ?_
          refine E.norm ?_
          refine wp_seq ?_
          refine E.seq ?_
          refine E.opv hF (r_field (hF.at 9 rfl) (fa_OMD_3 (p:=3) rfl)) rfl rfl rfl rfl fun a hF=>?_
          refine E.opv hF (r_load (hF.at 0 rfl) (ldb_int (v:= .int .i64 (omL (k+1)-30*omJ (k+1)+1)) (st.bk 0 rfl) rfl)) rfl rfl rfl rfl fun a hF=>?_
          refine E.opv hF (r_field (hF.at 19 rfl) (fa_OMD_3 (p:=3) rfl)) rfl rfl rfl rfl fun a hF=>?_
          refine E.opv hF (r_load (hF.at 0 rfl) (ldb_int (v:= .int .i64 (omL k-30*omJ k+1)) (st.bk 1 rfl) rfl)) rfl rfl rfl rfl fun a hF=>?_
          refine E.opv hF (r_bin (hF.at 2 rfl) (hF.at 0 rfl) eg_scalar (ia_sub (by omega) (by omega))) rfl rfl rfl rfl fun a hF=>?_
          refine E.opv hF (r_bin (hF.at 0 rfl) ev_c eg_scalar (ia_add (by omega) (by omega))) rfl rfl rfl rfl fun a hF=>?_
          refine E.opv hF (r_bin (hF.at 0 rfl) ev_c eg_scalar (id_remn (a:=((omL (k+1)-30*omJ (k+1)+1)-(omL k-30*omJ k+1))+30) (b:=30) (by omega) (by omega))) rfl rfl rfl rfl fun a hF=>?_
          refine E.opv hF (r_assign (hF.at 0 rfl)) rfl rfl rfl rfl fun a hF=>?_
          refine E.nil ?_
          refine wp_seq ?_
          refine E.seq ?_
          refine E.opv hF (r_field (hF.at 17 rfl) (fa_OMD_0 (p:=0) rfl)) rfl rfl rfl rfl fun a hF=>?_
          refine E.opv hF (r_load (hF.at 0 rfl) (ldb_i64 (v:= .int .i64 (omU (omJ (k+1))/12)) (st.bk 0 rfl) rfl)) rfl rfl rfl rfl fun a hF=>?_
          refine E.opv hF (r_field (hF.at 27 rfl) (fa_OMD_0 (p:=0) rfl)) rfl rfl rfl rfl fun a hF=>?_
          refine E.opv hF (r_load (hF.at 0 rfl) (ldb_i64 (v:= .int .i64 (omU (omJ k)/12)) (st.bk 1 rfl) rfl)) rfl rfl rfl rfl fun a hF=>?_
          by_cases hc10:omU (omJ (k+1))/12=omU (omJ k)/12
          ·first
           |(exfalso;omega)
           |(refine E.opv hF (r_bin (hF.at 2 rfl) (hF.at 0 rfl) eg_scalar (bi_int (ic_eql (c:=true) (dec_tt hc10)) (by simp))) rfl rfl rfl rfl fun a hF=>?_
             refine E.opv hF (r_move (hF.at 0 rfl)) rfl rfl rfl rfl fun a hF=>?_
             refine E.opvg hF (r_field (hF.at 23 rfl) (fa_OMD_1 (p:=1) rfl)) (wanted_by rfl rfl (hF.at 0 rfl) rfl) rfl rfl rfl fun a hF=>?_
             refine E.opvg hF (r_load (hF.at 0 rfl) (ldb_int (v:= .int .i64 (omU (omJ (k+1))%12+1)) (st.bk 0 rfl) rfl)) (wanted_by rfl rfl (hF.at 1 rfl) rfl) rfl rfl rfl fun a hF=>?_
             refine E.opvg hF (r_field (hF.at 33 rfl) (fa_OMD_1 (p:=1) rfl)) (wanted_by rfl rfl (hF.at 2 rfl) rfl) rfl rfl rfl fun a hF=>?_
             refine E.opvg hF (r_load (hF.at 0 rfl) (ldb_int (v:= .int .i64 (omU (omJ k)%12+1)) (st.bk 1 rfl) rfl)) (wanted_by rfl rfl (hF.at 3 rfl) rfl) rfl rfl rfl fun a hF=>?_
             by_cases hc11:omU (omJ (k+1))%12+1=omU (omJ k)%12+1
             ·first
              |(exfalso;omega)
              |(refine E.opvg hF (r_bin (hF.at 2 rfl) (hF.at 0 rfl) eg_scalar (bi_int (ic_eql (c:=true) (dec_tt hc11)) (by simp))) (wanted_by rfl rfl (hF.at 4 rfl) rfl) rfl rfl rfl fun a hF=>?_
                refine E.opv hF (r_pick_t (hF.at 5 rfl) (hF.at 0 rfl)) rfl rfl rfl rfl fun a hF=>?_
                refine E.opv hF (r_move (hF.at 0 rfl)) rfl rfl rfl rfl fun a hF=>?_
                refine E.opvg hF (r_field (hF.at 30 rfl) (fa_OMD_2 (p:=2) rfl)) (wanted_by rfl rfl (hF.at 0 rfl) rfl) rfl rfl rfl fun a hF=>?_
                refine E.opvg hF (r_load (hF.at 0 rfl) (ldb_bool (v:= .bool (decide (omU (omJ (k+1)+1)=omU (omJ (k+1))))) (st.bk 0 rfl) rfl)) (wanted_by rfl rfl (hF.at 1 rfl) rfl) rfl rfl rfl fun a hF=>?_
                refine E.opvg hF (r_field (hF.at 40 rfl) (fa_OMD_2 (p:=2) rfl)) (wanted_by rfl rfl (hF.at 2 rfl) rfl) rfl rfl rfl fun a hF=>?_
                refine E.opvg hF (r_load (hF.at 0 rfl) (ldb_bool (v:= .bool (decide (omU (omJ k+1)=omU (omJ k)))) (st.bk 1 rfl) rfl)) (wanted_by rfl rfl (hF.at 3 rfl) rfl) rfl rfl rfl fun a hF=>?_
                by_cases hc12:(omU (omJ (k+1)+1)=omU (omJ (k+1)))↔(omU (omJ k+1)=omU (omJ k))
                ·first
                 |(exfalso;omega)
                 |(refine E.opvg hF (r_bin (hF.at 2 rfl) (hF.at 0 rfl) eg_bool (bb_eql (d:=true) (bool_iff.trans (dec_tt hc12)))) (wanted_by rfl rfl (hF.at 4 rfl) rfl) rfl rfl rfl fun a hF=>?_
                   refine E.opv hF (r_pick_t (hF.at 5 rfl) (hF.at 0 rfl)) rfl rfl rfl rfl fun a hF=>?_
                   refine E.opv hF (r_assign (hF.at 0 rfl)) rfl rfl rfl rfl fun a hF=>?_
                   refine E.nil ?_
                   refine wp_seq ?_
                   refine E.seq ?_
                   refine E.opv hF (r_move (hF.at 20 rfl)) rfl rfl rfl rfl fun a hF=>?_
                   by_cases hc13:(((omL (k+1)-30*omJ (k+1)+1)-(omL k-30*omJ k+1))+30)%30=1
                   ·first
                    |(exfalso;omega)
                    |(refine E.opv hF (r_bin (hF.at 0 rfl) ev_c eg_scalar (bi_int (ic_eql (c:=true) (dec_tt hc13)) (by simp))) rfl rfl rfl rfl fun a hF=>?_
                      refine E.opv hF (r_move (hF.at 0 rfl)) rfl rfl rfl rfl fun a hF=>?_
                      refine E.unwanted hF (wanted_by rfl rfl (hF.at 0 rfl) rfl) rfl rfl rfl fun a hF=>?_
                      refine E.unwanted hF (wanted_by rfl rfl (hF.at 1 rfl) rfl) rfl rfl rfl fun a hF=>?_
                      refine E.opv hF (r_pick_t (hF.at 2 rfl) ev_c) rfl rfl rfl rfl fun a hF=>?_
                      refine E.opv hF (r_move (hF.at 0 rfl)) rfl rfl rfl rfl fun a hF=>?_
                      refine E.opvg hF (r_move (hF.at 7 rfl)) (wanted_by rfl rfl (hF.at 0 rfl) rfl) rfl rfl rfl fun a hF=>?_
                      refine E.opvg hF (r_field (hF.at 45 rfl) (fa_OMD_3 (p:=3) rfl)) (wanted_by rfl rfl (hF.at 1 rfl) rfl) rfl rfl rfl fun a hF=>?_
                      refine E.opvg hF (r_load (hF.at 0 rfl) (ldb_int (v:= .int .i64 (omL (k+1)-30*omJ (k+1)+1)) (st.bk 0 rfl) rfl)) (wanted_by rfl rfl (hF.at 2 rfl) rfl) rfl rfl rfl fun a hF=>?_
                      refine E.opvg hF (r_field (hF.at 55 rfl) (fa_OMD_3 (p:=3) rfl)) (wanted_by rfl rfl (hF.at 3 rfl) rfl) rfl rfl rfl fun a hF=>?_
                      refine E.opvg hF (r_load (hF.at 0 rfl) (ldb_int (v:= .int .i64 (omL k-30*omJ k+1)) (st.bk 1 rfl) rfl)) (wanted_by rfl rfl (hF.at 4 rfl) rfl) rfl rfl rfl fun a hF=>?_
                      by_cases hc14:omL k-30*omJ k+1<omL (k+1)-30*omJ (k+1)+1
                      ·first
                       |(exfalso;omega)
                       |(refine E.opvg hF (r_bin (hF.at 2 rfl) (hF.at 0 rfl) eg_scalar (bi_int (ic_gtr (c:=true) (dec_tt hc14)) (by simp))) (wanted_by rfl rfl (hF.at 5 rfl) rfl) rfl rfl rfl fun a hF=>?_
                         refine E.opvg hF (r_bin (hF.at 5 rfl) (hF.at 0 rfl) eg_bool (bb_eql (d:=true) rfl)) (wanted_by rfl rfl (hF.at 6 rfl) rfl) rfl rfl rfl fun a hF=>?_
                         refine E.opv hF (r_pick_t (hF.at 7 rfl) (hF.at 0 rfl)) rfl rfl rfl rfl fun a hF=>?_
                         refine E.opset (L':=[(2,.bool true),(79,.bool true),(78,.bool true),(77,.bool true),(76,.int .i64 (omL k-30*omJ k+1)),(75,.pointer (some ⟨g4,3,none⟩)),(74,.int .i64 (omL (k+1)-30*omJ (k+1)+1)),(73,.pointer (some ⟨g6,3,none⟩)),(72,.bool true),(71,.bool true),(70,.bool true),(69,undef),(68,undef),(67,.bool true),(66,.bool true),(65,.int .i64 ((((omL (k+1)-30*omJ (k+1)+1)-(omL k-30*omJ k+1))+30)%30)),(9,.bool true),(64,.bool true),(63,.bool true),(62,.bool (decide (omU (omJ k+1)=omU (omJ k)))),(61,.pointer (some ⟨g4,2,none⟩)),(60,.bool (decide (omU (omJ (k+1)+1)=omU (omJ (k+1))))),(59,.pointer (some ⟨g6,2,none⟩)),(58,.bool true),(57,.bool true),(56,.bool true),(55,.int .i64 (omU (omJ k)%12+1)),(54,.pointer (some ⟨g4,1,none⟩)),(53,.int .i64 (omU (omJ (k+1))%12+1)),(52,.pointer (some ⟨g6,1,none⟩)),(51,.bool true),(50,.bool true),(49,.int .i64 (omU (omJ k)/12)),(48,.pointer (some ⟨g4,0,none⟩)),(47,.int .i64 (omU (omJ (k+1))/12)),(46,.pointer (some ⟨g6,0,none⟩)),(8,.int .i64 ((((omL (k+1)-30*omJ (k+1)+1)-(omL k-30*omJ k+1))+30)%30)),(45,.int .i64 ((((omL (k+1)-30*omJ (k+1)+1)-(omL k-30*omJ k+1))+30)%30)),(44,.int .i64 (((omL (k+1)-30*omJ (k+1)+1)-(omL k-30*omJ k+1))+30)),(43,.int .i64 ((omL (k+1)-30*omJ (k+1)+1)-(omL k-30*omJ k+1))),(42,.int .i64 (omL k-30*omJ k+1)),(41,.pointer (some ⟨g4,3,none⟩)),(40,.int .i64 (omL (k+1)-30*omJ (k+1)+1)),(39,.pointer (some ⟨g6,3,none⟩)),(38,.bool false),(37,.bool false),(36,.int .i64 0),(35,.bool false),(34,.bool false),(33,.int .i64 0),(26,.bool false),(25,.int .i64 k),(7,.int .i64 0),(6,.pointer (some ⟨g6,0,none⟩)),(24,.int .i64 0),(23,.agg #[.int .i64 (omU (omJ (k+1))/12),.int .i64 (omU (omJ (k+1))%12+1),.bool (decide (omU (omJ (k+1)+1)=omU (omJ (k+1)))),.int .i64 (omL (k+1)-30*omJ (k+1)+1)]),(19,.tuple #[.agg #[.int .i64 (omU (omJ (k+1))/12),.int .i64 (omU (omJ (k+1))%12+1),.bool (decide (omU (omJ (k+1)+1)=omU (omJ (k+1)))),.int .i64 (omL (k+1)-30*omJ (k+1)+1)],.int .i64 0]),(22,.tuple #[.agg #[.int .i64 (omU (omJ (k+1))/12),.int .i64 (omU (omJ (k+1))%12+1),.bool (decide (omU (omJ (k+1)+1)=omU (omJ (k+1)))),.int .i64 (omL (k+1)-30*omJ (k+1)+1)],.int .i64 0]),(21,.int .i64 (k+1)),(20,.int .i64 k),(5,.int .i64 0),(4,.pointer (some ⟨g4,0,none⟩)),(18,.int .i64 0),(17,.agg #[.int .i64 (omU (omJ k)/12),.int .i64 (omU (omJ k)%12+1),.bool (decide (omU (omJ k+1)=omU (omJ k))),.int .i64 (omL k-30*omJ k+1)]),(14,.tuple #[.agg #[.int .i64 (omU (omJ k)/12),.int .i64 (omU (omJ k)%12+1),.bool (decide (omU (omJ k+1)=omU (omJ k))),.int .i64 (omL k-30*omJ k+1)],.int .i64 0]),(16,.tuple #[.agg #[.int .i64 (omU (omJ k)/12),.int .i64 (omU (omJ k)%12+1),.bool (decide (omU (omJ k+1)=omU (omJ k))),.int .i64 (omL k-30*omJ k+1)],.int .i64 0]),(15,.int .i64 k),(3,.int .i64 k),(13,.int .i64 k),(12,.int .i64 n),(11,.bool false),(10,.bool true),(0,.int .i64 n)]) hF (r_assign (hF.at 0 rfl)) rfl rfl rfl rfl fun a hF=>?_
                         refine E.nil ?_
                         refine wp_ret ?_
                         have bel:=st.bel
                         refine bodyPost_ret (res_tmp Try.results9 (hF.at 0 rfl)) hF.dfr ?_
                         exact⟨rfl,bel⟩)
                      ·first
                       |(exfalso;omega)
                       |(refine E.opvg hF (r_bin (hF.at 2 rfl) (hF.at 0 rfl) eg_scalar (bi_int (ic_gtr (c:=false) (dec_ff hc14)) (by simp))) (wanted_by rfl rfl (hF.at 5 rfl) rfl) rfl rfl rfl fun a hF=>?_
                         refine E.opvg hF (r_bin (hF.at 5 rfl) (hF.at 0 rfl) eg_bool (bb_eql (d:=false) rfl)) (wanted_by rfl rfl (hF.at 6 rfl) rfl) rfl rfl rfl fun a hF=>?_
                         refine E.opv hF (r_pick_t (hF.at 7 rfl) (hF.at 0 rfl)) rfl rfl rfl rfl fun a hF=>?_
                         refine E.opset (L':=[(2,.bool false),(79,.bool false),(78,.bool false),(77,.bool false),(76,.int .i64 (omL k-30*omJ k+1)),(75,.pointer (some ⟨g4,3,none⟩)),(74,.int .i64 (omL (k+1)-30*omJ (k+1)+1)),(73,.pointer (some ⟨g6,3,none⟩)),(72,.bool true),(71,.bool true),(70,.bool true),(69,undef),(68,undef),(67,.bool true),(66,.bool true),(65,.int .i64 ((((omL (k+1)-30*omJ (k+1)+1)-(omL k-30*omJ k+1))+30)%30)),(9,.bool true),(64,.bool true),(63,.bool true),(62,.bool (decide (omU (omJ k+1)=omU (omJ k)))),(61,.pointer (some ⟨g4,2,none⟩)),(60,.bool (decide (omU (omJ (k+1)+1)=omU (omJ (k+1))))),(59,.pointer (some ⟨g6,2,none⟩)),(58,.bool true),(57,.bool true),(56,.bool true),(55,.int .i64 (omU (omJ k)%12+1)),(54,.pointer (some ⟨g4,1,none⟩)),(53,.int .i64 (omU (omJ (k+1))%12+1)),(52,.pointer (some ⟨g6,1,none⟩)),(51,.bool true),(50,.bool true),(49,.int .i64 (omU (omJ k)/12)),(48,.pointer (some ⟨g4,0,none⟩)),(47,.int .i64 (omU (omJ (k+1))/12)),(46,.pointer (some ⟨g6,0,none⟩)),(8,.int .i64 ((((omL (k+1)-30*omJ (k+1)+1)-(omL k-30*omJ k+1))+30)%30)),(45,.int .i64 ((((omL (k+1)-30*omJ (k+1)+1)-(omL k-30*omJ k+1))+30)%30)),(44,.int .i64 (((omL (k+1)-30*omJ (k+1)+1)-(omL k-30*omJ k+1))+30)),(43,.int .i64 ((omL (k+1)-30*omJ (k+1)+1)-(omL k-30*omJ k+1))),(42,.int .i64 (omL k-30*omJ k+1)),(41,.pointer (some ⟨g4,3,none⟩)),(40,.int .i64 (omL (k+1)-30*omJ (k+1)+1)),(39,.pointer (some ⟨g6,3,none⟩)),(38,.bool false),(37,.bool false),(36,.int .i64 0),(35,.bool false),(34,.bool false),(33,.int .i64 0),(26,.bool false),(25,.int .i64 k),(7,.int .i64 0),(6,.pointer (some ⟨g6,0,none⟩)),(24,.int .i64 0),(23,.agg #[.int .i64 (omU (omJ (k+1))/12),.int .i64 (omU (omJ (k+1))%12+1),.bool (decide (omU (omJ (k+1)+1)=omU (omJ (k+1)))),.int .i64 (omL (k+1)-30*omJ (k+1)+1)]),(19,.tuple #[.agg #[.int .i64 (omU (omJ (k+1))/12),.int .i64 (omU (omJ (k+1))%12+1),.bool (decide (omU (omJ (k+1)+1)=omU (omJ (k+1)))),.int .i64 (omL (k+1)-30*omJ (k+1)+1)],.int .i64 0]),(22,.tuple #[.agg #[.int .i64 (omU (omJ (k+1))/12),.int .i64 (omU (omJ (k+1))%12+1),.bool (decide (omU (omJ (k+1)+1)=omU (omJ (k+1)))),.int .i64 (omL (k+1)-30*omJ (k+1)+1)],.int .i64 0]),(21,.int .i64 (k+1)),(20,.int .i64 k),(5,.int .i64 0),(4,.pointer (some ⟨g4,0,none⟩)),(18,.int .i64 0),(17,.agg #[.int .i64 (omU (omJ k)/12),.int .i64 (omU (omJ k)%12+1),.bool (decide (omU (omJ k+1)=omU (omJ k))),.int .i64 (omL k-30*omJ k+1)]),(14,.tuple #[.agg #[.int .i64 (omU (omJ k)/12),.int .i64 (omU (omJ k)%12+1),.bool (decide (omU (omJ k+1)=omU (omJ k))),.int .i64 (omL k-30*omJ k+1)],.int .i64 0]),(16,.tuple #[.agg #[.int .i64 (omU (omJ k)/12),.int .i64 (omU (omJ k)%12+1),.bool (decide (omU (omJ k+1)=omU (omJ k))),.int .i64 (omL k-30*omJ k+1)],.int .i64 0]),(15,.int .i64 k),(3,.int .i64 k),(13,.int .i64 k),(12,.int .i64 n),(11,.bool false),(10,.bool true),(0,.int .i64 n)]) hF (r_assign (hF.at 0 rfl)) rfl rfl rfl rfl fun a hF=>?_
                         refine E.nil ?_
                         refine wp_ret ?_
                         have bel:=st.bel
                         refine bodyPost_ret (res_tmp Try.results9 (hF.at 0 rfl)) hF.dfr ?_
                         exfalso;omega))
                   ·first
                    |(exfalso;omega)
                    |(refine E.opv hF (r_bin (hF.at 0 rfl) ev_c eg_scalar (bi_int (ic_eql (c:=false) (dec_ff hc13)) (by simp))) rfl rfl rfl rfl fun a hF=>?_
                      refine E.opv hF (r_move (hF.at 0 rfl)) rfl rfl rfl rfl fun a hF=>?_
                      refine E.opvg hF (r_move (hF.at 23 rfl)) (wanted_by rfl rfl (hF.at 0 rfl) rfl) rfl rfl rfl fun a hF=>?_
                      by_cases hc15:(((omL (k+1)-30*omJ (k+1)+1)-(omL k-30*omJ k+1))+30)%30=2
                      ·first
                       |(exfalso;omega)
                       |(refine E.opvg hF (r_bin (hF.at 0 rfl) ev_c eg_scalar (bi_int (ic_eql (c:=true) (dec_tt hc15)) (by simp))) (wanted_by rfl rfl (hF.at 1 rfl) rfl) rfl rfl rfl fun a hF=>?_
                         refine E.opv hF (r_pick_f (hF.at 2 rfl) (hF.at 0 rfl)) rfl rfl rfl rfl fun a hF=>?_
                         refine E.opv hF (r_move (hF.at 0 rfl)) rfl rfl rfl rfl fun a hF=>?_
                         refine E.opvg hF (r_move (hF.at 7 rfl)) (wanted_by rfl rfl (hF.at 0 rfl) rfl) rfl rfl rfl fun a hF=>?_
                         refine E.opvg hF (r_field (hF.at 45 rfl) (fa_OMD_3 (p:=3) rfl)) (wanted_by rfl rfl (hF.at 1 rfl) rfl) rfl rfl rfl fun a hF=>?_
                         refine E.opvg hF (r_load (hF.at 0 rfl) (ldb_int (v:= .int .i64 (omL (k+1)-30*omJ (k+1)+1)) (st.bk 0 rfl) rfl)) (wanted_by rfl rfl (hF.at 2 rfl) rfl) rfl rfl rfl fun a hF=>?_
                         refine E.opvg hF (r_field (hF.at 55 rfl) (fa_OMD_3 (p:=3) rfl)) (wanted_by rfl rfl (hF.at 3 rfl) rfl) rfl rfl rfl fun a hF=>?_
                         refine E.opvg hF (r_load (hF.at 0 rfl) (ldb_int (v:= .int .i64 (omL k-30*omJ k+1)) (st.bk 1 rfl) rfl)) (wanted_by rfl rfl (hF.at 4 rfl) rfl) rfl rfl rfl fun a hF=>?_
                         by_cases hc16:omL k-30*omJ k+1<omL (k+1)-30*omJ (k+1)+1
                         ·first
                          |(exfalso;omega)
                          |(refine E.opvg hF (r_bin (hF.at 2 rfl) (hF.at 0 rfl) eg_scalar (bi_int (ic_gtr (c:=true) (dec_tt hc16)) (by simp))) (wanted_by rfl rfl (hF.at 5 rfl) rfl) rfl rfl rfl fun a hF=>?_
                            refine E.opvg hF (r_bin (hF.at 5 rfl) (hF.at 0 rfl) eg_bool (bb_eql (d:=true) rfl)) (wanted_by rfl rfl (hF.at 6 rfl) rfl) rfl rfl rfl fun a hF=>?_
                            refine E.opv hF (r_pick_t (hF.at 7 rfl) (hF.at 0 rfl)) rfl rfl rfl rfl fun a hF=>?_
                            refine E.opset (L':=[(2,.bool true),(79,.bool true),(78,.bool true),(77,.bool true),(76,.int .i64 (omL k-30*omJ k+1)),(75,.pointer (some ⟨g4,3,none⟩)),(74,.int .i64 (omL (k+1)-30*omJ (k+1)+1)),(73,.pointer (some ⟨g6,3,none⟩)),(72,.bool true),(71,.bool true),(70,.bool true),(69,.bool true),(68,.int .i64 ((((omL (k+1)-30*omJ (k+1)+1)-(omL k-30*omJ k+1))+30)%30)),(67,.bool false),(66,.bool false),(65,.int .i64 ((((omL (k+1)-30*omJ (k+1)+1)-(omL k-30*omJ k+1))+30)%30)),(9,.bool true),(64,.bool true),(63,.bool true),(62,.bool (decide (omU (omJ k+1)=omU (omJ k)))),(61,.pointer (some ⟨g4,2,none⟩)),(60,.bool (decide (omU (omJ (k+1)+1)=omU (omJ (k+1))))),(59,.pointer (some ⟨g6,2,none⟩)),(58,.bool true),(57,.bool true),(56,.bool true),(55,.int .i64 (omU (omJ k)%12+1)),(54,.pointer (some ⟨g4,1,none⟩)),(53,.int .i64 (omU (omJ (k+1))%12+1)),(52,.pointer (some ⟨g6,1,none⟩)),(51,.bool true),(50,.bool true),(49,.int .i64 (omU (omJ k)/12)),(48,.pointer (some ⟨g4,0,none⟩)),(47,.int .i64 (omU (omJ (k+1))/12)),(46,.pointer (some ⟨g6,0,none⟩)),(8,.int .i64 ((((omL (k+1)-30*omJ (k+1)+1)-(omL k-30*omJ k+1))+30)%30)),(45,.int .i64 ((((omL (k+1)-30*omJ (k+1)+1)-(omL k-30*omJ k+1))+30)%30)),(44,.int .i64 (((omL (k+1)-30*omJ (k+1)+1)-(omL k-30*omJ k+1))+30)),(43,.int .i64 ((omL (k+1)-30*omJ (k+1)+1)-(omL k-30*omJ k+1))),(42,.int .i64 (omL k-30*omJ k+1)),(41,.pointer (some ⟨g4,3,none⟩)),(40,.int .i64 (omL (k+1)-30*omJ (k+1)+1)),(39,.pointer (some ⟨g6,3,none⟩)),(38,.bool false),(37,.bool false),(36,.int .i64 0),(35,.bool false),(34,.bool false),(33,.int .i64 0),(26,.bool false),(25,.int .i64 k),(7,.int .i64 0),(6,.pointer (some ⟨g6,0,none⟩)),(24,.int .i64 0),(23,.agg #[.int .i64 (omU (omJ (k+1))/12),.int .i64 (omU (omJ (k+1))%12+1),.bool (decide (omU (omJ (k+1)+1)=omU (omJ (k+1)))),.int .i64 (omL (k+1)-30*omJ (k+1)+1)]),(19,.tuple #[.agg #[.int .i64 (omU (omJ (k+1))/12),.int .i64 (omU (omJ (k+1))%12+1),.bool (decide (omU (omJ (k+1)+1)=omU (omJ (k+1)))),.int .i64 (omL (k+1)-30*omJ (k+1)+1)],.int .i64 0]),(22,.tuple #[.agg #[.int .i64 (omU (omJ (k+1))/12),.int .i64 (omU (omJ (k+1))%12+1),.bool (decide (omU (omJ (k+1)+1)=omU (omJ (k+1)))),.int .i64 (omL (k+1)-30*omJ (k+1)+1)],.int .i64 0]),(21,.int .i64 (k+1)),(20,.int .i64 k),(5,.int .i64 0),(4,.pointer (some ⟨g4,0,none⟩)),(18,.int .i64 0),(17,.agg #[.int .i64 (omU (omJ k)/12),.int .i64 (omU (omJ k)%12+1),.bool (decide (omU (omJ k+1)=omU (omJ k))),.int .i64 (omL k-30*omJ k+1)]),(14,.tuple #[.agg #[.int .i64 (omU (omJ k)/12),.int .i64 (omU (omJ k)%12+1),.bool (decide (omU (omJ k+1)=omU (omJ k))),.int .i64 (omL k-30*omJ k+1)],.int .i64 0]),(16,.tuple #[.agg #[.int .i64 (omU (omJ k)/12),.int .i64 (omU (omJ k)%12+1),.bool (decide (omU (omJ k+1)=omU (omJ k))),.int .i64 (omL k-30*omJ k+1)],.int .i64 0]),(15,.int .i64 k),(3,.int .i64 k),(13,.int .i64 k),(12,.int .i64 n),(11,.bool false),(10,.bool true),(0,.int .i64 n)]) hF (r_assign (hF.at 0 rfl)) rfl rfl rfl rfl fun a hF=>?_
                            refine E.nil ?_
                            refine wp_ret ?_
                            have bel:=st.bel
                            refine bodyPost_ret (res_tmp Try.results9 (hF.at 0 rfl)) hF.dfr ?_
                            exact⟨rfl,bel⟩)
                         ·first
                          |(exfalso;omega)
                          |(refine E.opvg hF (r_bin (hF.at 2 rfl) (hF.at 0 rfl) eg_scalar (bi_int (ic_gtr (c:=false) (dec_ff hc16)) (by simp))) (wanted_by rfl rfl (hF.at 5 rfl) rfl) rfl rfl rfl fun a hF=>?_
                            refine E.opvg hF (r_bin (hF.at 5 rfl) (hF.at 0 rfl) eg_bool (bb_eql (d:=false) rfl)) (wanted_by rfl rfl (hF.at 6 rfl) rfl) rfl rfl rfl fun a hF=>?_
                            refine E.opv hF (r_pick_t (hF.at 7 rfl) (hF.at 0 rfl)) rfl rfl rfl rfl fun a hF=>?_
                            refine E.opset (L':=[(2,.bool false),(79,.bool false),(78,.bool false),(77,.bool false),(76,.int .i64 (omL k-30*omJ k+1)),(75,.pointer (some ⟨g4,3,none⟩)),(74,.int .i64 (omL (k+1)-30*omJ (k+1)+1)),(73,.pointer (some ⟨g6,3,none⟩)),(72,.bool true),(71,.bool true),(70,.bool true),(69,.bool true),(68,.int .i64 ((((omL (k+1)-30*omJ (k+1)+1)-(omL k-30*omJ k+1))+30)%30)),(67,.bool false),(66,.bool false),(65,.int .i64 ((((omL (k+1)-30*omJ (k+1)+1)-(omL k-30*omJ k+1))+30)%30)),(9,.bool true),(64,.bool true),(63,.bool true),(62,.bool (decide (omU (omJ k+1)=omU (omJ k)))),(61,.pointer (some ⟨g4,2,none⟩)),(60,.bool (decide (omU (omJ (k+1)+1)=omU (omJ (k+1))))),(59,.pointer (some ⟨g6,2,none⟩)),(58,.bool true),(57,.bool true),(56,.bool true),(55,.int .i64 (omU (omJ k)%12+1)),(54,.pointer (some ⟨g4,1,none⟩)),(53,.int .i64 (omU (omJ (k+1))%12+1)),(52,.pointer (some ⟨g6,1,none⟩)),(51,.bool true),(50,.bool true),(49,.int .i64 (omU (omJ k)/12)),(48,.pointer (some ⟨g4,0,none⟩)),(47,.int .i64 (omU (omJ (k+1))/12)),(46,.pointer (some ⟨g6,0,none⟩)),(8,.int .i64 ((((omL (k+1)-30*omJ (k+1)+1)-(omL k-30*omJ k+1))+30)%30)),(45,.int .i64 ((((omL (k+1)-30*omJ (k+1)+1)-(omL k-30*omJ k+1))+30)%30)),(44,.int .i64 (((omL (k+1)-30*omJ (k+1)+1)-(omL k-30*omJ k+1))+30)),(43,.int .i64 ((omL (k+1)-30*omJ (k+1)+1)-(omL k-30*omJ k+1))),(42,.int .i64 (omL k-30*omJ k+1)),(41,.pointer (some ⟨g4,3,none⟩)),(40,.int .i64 (omL (k+1)-30*omJ (k+1)+1)),(39,.pointer (some ⟨g6,3,none⟩)),(38,.bool false),(37,.bool false),(36,.int .i64 0),(35,.bool false),(34,.bool false),(33,.int .i64 0),(26,.bool false),(25,.int .i64 k),(7,.int .i64 0),(6,.pointer (some ⟨g6,0,none⟩)),(24,.int .i64 0),(23,.agg #[.int .i64 (omU (omJ (k+1))/12),.int .i64 (omU (omJ (k+1))%12+1),.bool (decide (omU (omJ (k+1)+1)=omU (omJ (k+1)))),.int .i64 (omL (k+1)-30*omJ (k+1)+1)]),(19,.tuple #[.agg #[.int .i64 (omU (omJ (k+1))/12),.int .i64 (omU (omJ (k+1))%12+1),.bool (decide (omU (omJ (k+1)+1)=omU (omJ (k+1)))),.int .i64 (omL (k+1)-30*omJ (k+1)+1)],.int .i64 0]),(22,.tuple #[.agg #[.int .i64 (omU (omJ (k+1))/12),.int .i64 (omU (omJ (k+1))%12+1),.bool (decide (omU (omJ (k+1)+1)=omU (omJ (k+1)))),.int .i64 (omL (k+1)-30*omJ (k+1)+1)],.int .i64 0]),(21,.int .i64 (k+1)),(20,.int .i64 k),(5,.int .i64 0),(4,.pointer (some ⟨g4,0,none⟩)),(18,.int .i64 0),(17,.agg #[.int .i64 (omU (omJ k)/12),.int .i64 (omU (omJ k)%12+1),.bool (decide (omU (omJ k+1)=omU (omJ k))),.int .i64 (omL k-30*omJ k+1)]),(14,.tuple #[.agg #[.int .i64 (omU (omJ k)/12),.int .i64 (omU (omJ k)%12+1),.bool (decide (omU (omJ k+1)=omU (omJ k))),.int .i64 (omL k-30*omJ k+1)],.int .i64 0]),(16,.tuple #[.agg #[.int .i64 (omU (omJ k)/12),.int .i64 (omU (omJ k)%12+1),.bool (decide (omU (omJ k+1)=omU (omJ k))),.int .i64 (omL k-30*omJ k+1)],.int .i64 0]),(15,.int .i64 k),(3,.int .i64 k),(13,.int .i64 k),(12,.int .i64 n),(11,.bool false),(10,.bool true),(0,.int .i64 n)]) hF (r_assign (hF.at 0 rfl)) rfl rfl rfl rfl fun a hF=>?_
                            refine E.nil ?_
                            refine wp_ret ?_
                            have bel:=st.bel
                            refine bodyPost_ret (res_tmp Try.results9 (hF.at 0 rfl)) hF.dfr ?_
                            exfalso;omega))
                      ·first
                       |(exfalso;omega)
                       |(refine E.opvg hF (r_bin (hF.at 0 rfl) ev_c eg_scalar (bi_int (ic_eql (c:=false) (dec_ff hc15)) (by simp))) (wanted_by rfl rfl (hF.at 1 rfl) rfl) rfl rfl rfl fun a hF=>?_
                         refine E.opv hF (r_pick_f (hF.at 2 rfl) (hF.at 0 rfl)) rfl rfl rfl rfl fun a hF=>?_
                         refine E.opv hF (r_move (hF.at 0 rfl)) rfl rfl rfl rfl fun a hF=>?_
                         refine E.unwanted hF (wanted_by rfl rfl (hF.at 0 rfl) rfl) rfl rfl rfl fun a hF=>?_
                         refine E.unwanted hF (wanted_by rfl rfl (hF.at 1 rfl) rfl) rfl rfl rfl fun a hF=>?_
                         refine E.unwanted hF (wanted_by rfl rfl (hF.at 2 rfl) rfl) rfl rfl rfl fun a hF=>?_
                         refine E.unwanted hF (wanted_by rfl rfl (hF.at 3 rfl) rfl) rfl rfl rfl fun a hF=>?_
                         refine E.unwanted hF (wanted_by rfl rfl (hF.at 4 rfl) rfl) rfl rfl rfl fun a hF=>?_
                         refine E.unwanted hF (wanted_by rfl rfl (hF.at 5 rfl) rfl) rfl rfl rfl fun a hF=>?_
                         refine E.unwanted hF (wanted_by rfl rfl (hF.at 6 rfl) rfl) rfl rfl rfl fun a hF=>?_
                         refine E.opv hF (r_pick_f (hF.at 7 rfl) ev_c) rfl rfl rfl rfl fun a hF=>?_
                         refine E.opset (L':=[(2,.bool false),(79,.bool false),(78,undef),(77,undef),(76,undef),(75,undef),(74,undef),(73,undef),(72,undef),(71,.bool false),(70,.bool false),(69,.bool false),(68,.int .i64 ((((omL (k+1)-30*omJ (k+1)+1)-(omL k-30*omJ k+1))+30)%30)),(67,.bool false),(66,.bool false),(65,.int .i64 ((((omL (k+1)-30*omJ (k+1)+1)-(omL k-30*omJ k+1))+30)%30)),(9,.bool true),(64,.bool true),(63,.bool true),(62,.bool (decide (omU (omJ k+1)=omU (omJ k)))),(61,.pointer (some ⟨g4,2,none⟩)),(60,.bool (decide (omU (omJ (k+1)+1)=omU (omJ (k+1))))),(59,.pointer (some ⟨g6,2,none⟩)),(58,.bool true),(57,.bool true),(56,.bool true),(55,.int .i64 (omU (omJ k)%12+1)),(54,.pointer (some ⟨g4,1,none⟩)),(53,.int .i64 (omU (omJ (k+1))%12+1)),(52,.pointer (some ⟨g6,1,none⟩)),(51,.bool true),(50,.bool true),(49,.int .i64 (omU (omJ k)/12)),(48,.pointer (some ⟨g4,0,none⟩)),(47,.int .i64 (omU (omJ (k+1))/12)),(46,.pointer (some ⟨g6,0,none⟩)),(8,.int .i64 ((((omL (k+1)-30*omJ (k+1)+1)-(omL k-30*omJ k+1))+30)%30)),(45,.int .i64 ((((omL (k+1)-30*omJ (k+1)+1)-(omL k-30*omJ k+1))+30)%30)),(44,.int .i64 (((omL (k+1)-30*omJ (k+1)+1)-(omL k-30*omJ k+1))+30)),(43,.int .i64 ((omL (k+1)-30*omJ (k+1)+1)-(omL k-30*omJ k+1))),(42,.int .i64 (omL k-30*omJ k+1)),(41,.pointer (some ⟨g4,3,none⟩)),(40,.int .i64 (omL (k+1)-30*omJ (k+1)+1)),(39,.pointer (some ⟨g6,3,none⟩)),(38,.bool false),(37,.bool false),(36,.int .i64 0),(35,.bool false),(34,.bool false),(33,.int .i64 0),(26,.bool false),(25,.int .i64 k),(7,.int .i64 0),(6,.pointer (some ⟨g6,0,none⟩)),(24,.int .i64 0),(23,.agg #[.int .i64 (omU (omJ (k+1))/12),.int .i64 (omU (omJ (k+1))%12+1),.bool (decide (omU (omJ (k+1)+1)=omU (omJ (k+1)))),.int .i64 (omL (k+1)-30*omJ (k+1)+1)]),(19,.tuple #[.agg #[.int .i64 (omU (omJ (k+1))/12),.int .i64 (omU (omJ (k+1))%12+1),.bool (decide (omU (omJ (k+1)+1)=omU (omJ (k+1)))),.int .i64 (omL (k+1)-30*omJ (k+1)+1)],.int .i64 0]),(22,.tuple #[.agg #[.int .i64 (omU (omJ (k+1))/12),.int .i64 (omU (omJ (k+1))%12+1),.bool (decide (omU (omJ (k+1)+1)=omU (omJ (k+1)))),.int .i64 (omL (k+1)-30*omJ (k+1)+1)],.int .i64 0]),(21,.int .i64 (k+1)),(20,.int .i64 k),(5,.int .i64 0),(4,.pointer (some ⟨g4,0,none⟩)),(18,.int .i64 0),(17,.agg #[.int .i64 (omU (omJ k)/12),.int .i64 (omU (omJ k)%12+1),.bool (decide (omU (omJ k+1)=omU (omJ k))),.int .i64 (omL k-30*omJ k+1)]),(14,.tuple #[.agg #[.int .i64 (omU (omJ k)/12),.int .i64 (omU (omJ k)%12+1),.bool (decide (omU (omJ k+1)=omU (omJ k))),.int .i64 (omL k-30*omJ k+1)],.int .i64 0]),(16,.tuple #[.agg #[.int .i64 (omU (omJ k)/12),.int .i64 (omU (omJ k)%12+1),.bool (decide (omU (omJ k+1)=omU (omJ k))),.int .i64 (omL k-30*omJ k+1)],.int .i64 0]),(15,.int .i64 k),(3,.int .i64 k),(13,.int .i64 k),(12,.int .i64 n),(11,.bool false),(10,.bool true),(0,.int .i64 n)]) hF (r_assign (hF.at 0 rfl)) rfl rfl rfl rfl fun a hF=>?_
                         refine E.nil ?_
                         refine wp_ret ?_
                         have bel:=st.bel
                         refine bodyPost_ret (res_tmp Try.results9 (hF.at 0 rfl)) hF.dfr ?_
                         exfalso;omega)))
                ·first
                 |(exfalso;omega)
                 |(refine E.opvg hF (r_bin (hF.at 2 rfl) (hF.at 0 rfl) eg_bool (bb_eql (d:=false) (bool_iff.trans (dec_ff hc12)))) (wanted_by rfl rfl (hF.at 4 rfl) rfl) rfl rfl rfl fun a hF=>?_
                   refine E.opv hF (r_pick_t (hF.at 5 rfl) (hF.at 0 rfl)) rfl rfl rfl rfl fun a hF=>?_
                   refine E.opv hF (r_assign (hF.at 0 rfl)) rfl rfl rfl rfl fun a hF=>?_
                   refine E.nil ?_
                   refine wp_seq ?_
                   refine E.seq ?_
                   refine E.opv hF (r_move (hF.at 20 rfl)) rfl rfl rfl rfl fun a hF=>?_
                   by_cases hc17:(((omL (k+1)-30*omJ (k+1)+1)-(omL k-30*omJ k+1))+30)%30=1
                   ·first
                    |(exfalso;omega)
                    |(refine E.opv hF (r_bin (hF.at 0 rfl) ev_c eg_scalar (bi_int (ic_eql (c:=true) (dec_tt hc17)) (by simp))) rfl rfl rfl rfl fun a hF=>?_
                      refine E.opv hF (r_move (hF.at 0 rfl)) rfl rfl rfl rfl fun a hF=>?_
                      refine E.unwanted hF (wanted_by rfl rfl (hF.at 0 rfl) rfl) rfl rfl rfl fun a hF=>?_
                      refine E.unwanted hF (wanted_by rfl rfl (hF.at 1 rfl) rfl) rfl rfl rfl fun a hF=>?_
                      refine E.opv hF (r_pick_t (hF.at 2 rfl) ev_c) rfl rfl rfl rfl fun a hF=>?_
                      refine E.opv hF (r_move (hF.at 0 rfl)) rfl rfl rfl rfl fun a hF=>?_
                      refine E.opvg hF (r_move (hF.at 7 rfl)) (wanted_by rfl rfl (hF.at 0 rfl) rfl) rfl rfl rfl fun a hF=>?_
                      refine E.opvg hF (r_field (hF.at 45 rfl) (fa_OMD_3 (p:=3) rfl)) (wanted_by rfl rfl (hF.at 1 rfl) rfl) rfl rfl rfl fun a hF=>?_
                      refine E.opvg hF (r_load (hF.at 0 rfl) (ldb_int (v:= .int .i64 (omL (k+1)-30*omJ (k+1)+1)) (st.bk 0 rfl) rfl)) (wanted_by rfl rfl (hF.at 2 rfl) rfl) rfl rfl rfl fun a hF=>?_
                      refine E.opvg hF (r_field (hF.at 55 rfl) (fa_OMD_3 (p:=3) rfl)) (wanted_by rfl rfl (hF.at 3 rfl) rfl) rfl rfl rfl fun a hF=>?_
                      refine E.opvg hF (r_load (hF.at 0 rfl) (ldb_int (v:= .int .i64 (omL k-30*omJ k+1)) (st.bk 1 rfl) rfl)) (wanted_by rfl rfl (hF.at 4 rfl) rfl) rfl rfl rfl fun a hF=>?_
                      by_cases hc18:omL k-30*omJ k+1<omL (k+1)-30*omJ (k+1)+1
                      ·first
                       |(exfalso;omega)
                       |(refine E.opvg hF (r_bin (hF.at 2 rfl) (hF.at 0 rfl) eg_scalar (bi_int (ic_gtr (c:=true) (dec_tt hc18)) (by simp))) (wanted_by rfl rfl (hF.at 5 rfl) rfl) rfl rfl rfl fun a hF=>?_
                         refine E.opvg hF (r_bin (hF.at 5 rfl) (hF.at 0 rfl) eg_bool (bb_eql (d:=false) rfl)) (wanted_by rfl rfl (hF.at 6 rfl) rfl) rfl rfl rfl fun a hF=>?_
                         refine E.opv hF (r_pick_t (hF.at 7 rfl) (hF.at 0 rfl)) rfl rfl rfl rfl fun a hF=>?_
                         refine E.opset (L':=[(2,.bool false),(79,.bool false),(78,.bool false),(77,.bool true),(76,.int .i64 (omL k-30*omJ k+1)),(75,.pointer (some ⟨g4,3,none⟩)),(74,.int .i64 (omL (k+1)-30*omJ (k+1)+1)),(73,.pointer (some ⟨g6,3,none⟩)),(72,.bool false),(71,.bool true),(70,.bool true),(69,undef),(68,undef),(67,.bool true),(66,.bool true),(65,.int .i64 ((((omL (k+1)-30*omJ (k+1)+1)-(omL k-30*omJ k+1))+30)%30)),(9,.bool false),(64,.bool false),(63,.bool false),(62,.bool (decide (omU (omJ k+1)=omU (omJ k)))),(61,.pointer (some ⟨g4,2,none⟩)),(60,.bool (decide (omU (omJ (k+1)+1)=omU (omJ (k+1))))),(59,.pointer (some ⟨g6,2,none⟩)),(58,.bool true),(57,.bool true),(56,.bool true),(55,.int .i64 (omU (omJ k)%12+1)),(54,.pointer (some ⟨g4,1,none⟩)),(53,.int .i64 (omU (omJ (k+1))%12+1)),(52,.pointer (some ⟨g6,1,none⟩)),(51,.bool true),(50,.bool true),(49,.int .i64 (omU (omJ k)/12)),(48,.pointer (some ⟨g4,0,none⟩)),(47,.int .i64 (omU (omJ (k+1))/12)),(46,.pointer (some ⟨g6,0,none⟩)),(8,.int .i64 ((((omL (k+1)-30*omJ (k+1)+1)-(omL k-30*omJ k+1))+30)%30)),(45,.int .i64 ((((omL (k+1)-30*omJ (k+1)+1)-(omL k-30*omJ k+1))+30)%30)),(44,.int .i64 (((omL (k+1)-30*omJ (k+1)+1)-(omL k-30*omJ k+1))+30)),(43,.int .i64 ((omL (k+1)-30*omJ (k+1)+1)-(omL k-30*omJ k+1))),(42,.int .i64 (omL k-30*omJ k+1)),(41,.pointer (some ⟨g4,3,none⟩)),(40,.int .i64 (omL (k+1)-30*omJ (k+1)+1)),(39,.pointer (some ⟨g6,3,none⟩)),(38,.bool false),(37,.bool false),(36,.int .i64 0),(35,.bool false),(34,.bool false),(33,.int .i64 0),(26,.bool false),(25,.int .i64 k),(7,.int .i64 0),(6,.pointer (some ⟨g6,0,none⟩)),(24,.int .i64 0),(23,.agg #[.int .i64 (omU (omJ (k+1))/12),.int .i64 (omU (omJ (k+1))%12+1),.bool (decide (omU (omJ (k+1)+1)=omU (omJ (k+1)))),.int .i64 (omL (k+1)-30*omJ (k+1)+1)]),(19,.tuple #[.agg #[.int .i64 (omU (omJ (k+1))/12),.int .i64 (omU (omJ (k+1))%12+1),.bool (decide (omU (omJ (k+1)+1)=omU (omJ (k+1)))),.int .i64 (omL (k+1)-30*omJ (k+1)+1)],.int .i64 0]),(22,.tuple #[.agg #[.int .i64 (omU (omJ (k+1))/12),.int .i64 (omU (omJ (k+1))%12+1),.bool (decide (omU (omJ (k+1)+1)=omU (omJ (k+1)))),.int .i64 (omL (k+1)-30*omJ (k+1)+1)],.int .i64 0]),(21,.int .i64 (k+1)),(20,.int .i64 k),(5,.int .i64 0),(4,.pointer (some ⟨g4,0,none⟩)),(18,.int .i64 0),(17,.agg #[.int .i64 (omU (omJ k)/12),.int .i64 (omU (omJ k)%12+1),.bool (decide (omU (omJ k+1)=omU (omJ k))),.int .i64 (omL k-30*omJ k+1)]),(14,.tuple #[.agg #[.int .i64 (omU (omJ k)/12),.int .i64 (omU (omJ k)%12+1),.bool (decide (omU (omJ k+1)=omU (omJ k))),.int .i64 (omL k-30*omJ k+1)],.int .i64 0]),(16,.tuple #[.agg #[.int .i64 (omU (omJ k)/12),.int .i64 (omU (omJ k)%12+1),.bool (decide (omU (omJ k+1)=omU (omJ k))),.int .i64 (omL k-30*omJ k+1)],.int .i64 0]),(15,.int .i64 k),(3,.int .i64 k),(13,.int .i64 k),(12,.int .i64 n),(11,.bool false),(10,.bool true),(0,.int .i64 n)]) hF (r_assign (hF.at 0 rfl)) rfl rfl rfl rfl fun a hF=>?_
                         refine E.nil ?_
                         refine wp_ret ?_
                         have bel:=st.bel
                         refine bodyPost_ret (res_tmp Try.results9 (hF.at 0 rfl)) hF.dfr ?_
                         exfalso;omega)
                      ·first
                       |(exfalso;omega)
                       |(refine E.opvg hF (r_bin (hF.at 2 rfl) (hF.at 0 rfl) eg_scalar (bi_int (ic_gtr (c:=false) (dec_ff hc18)) (by simp))) (wanted_by rfl rfl (hF.at 5 rfl) rfl) rfl rfl rfl fun a hF=>?_
                         refine E.opvg hF (r_bin (hF.at 5 rfl) (hF.at 0 rfl) eg_bool (bb_eql (d:=true) rfl)) (wanted_by rfl rfl (hF.at 6 rfl) rfl) rfl rfl rfl fun a hF=>?_
                         refine E.opv hF (r_pick_t (hF.at 7 rfl) (hF.at 0 rfl)) rfl rfl rfl rfl fun a hF=>?_
                         refine E.opset (L':=[(2,.bool true),(79,.bool true),(78,.bool true),(77,.bool false),(76,.int .i64 (omL k-30*omJ k+1)),(75,.pointer (some ⟨g4,3,none⟩)),(74,.int .i64 (omL (k+1)-30*omJ (k+1)+1)),(73,.pointer (some ⟨g6,3,none⟩)),(72,.bool false),(71,.bool true),(70,.bool true),(69,undef),(68,undef),(67,.bool true),(66,.bool true),(65,.int .i64 ((((omL (k+1)-30*omJ (k+1)+1)-(omL k-30*omJ k+1))+30)%30)),(9,.bool false),(64,.bool false),(63,.bool false),(62,.bool (decide (omU (omJ k+1)=omU (omJ k)))),(61,.pointer (some ⟨g4,2,none⟩)),(60,.bool (decide (omU (omJ (k+1)+1)=omU (omJ (k+1))))),(59,.pointer (some ⟨g6,2,none⟩)),(58,.bool true),(57,.bool true),(56,.bool true),(55,.int .i64 (omU (omJ k)%12+1)),(54,.pointer (some ⟨g4,1,none⟩)),(53,.int .i64 (omU (omJ (k+1))%12+1)),(52,.pointer (some ⟨g6,1,none⟩)),(51,.bool true),(50,.bool true),(49,.int .i64 (omU (omJ k)/12)),(48,.pointer (some ⟨g4,0,none⟩)),(47,.int .i64 (omU (omJ (k+1))/12)),(46,.pointer (some ⟨g6,0,none⟩)),(8,.int .i64 ((((omL (k+1)-30*omJ (k+1)+1)-(omL k-30*omJ k+1))+30)%30)),(45,.int .i64 ((((omL (k+1)-30*omJ (k+1)+1)-(omL k-30*omJ k+1))+30)%30)),(44,.int .i64 (((omL (k+1)-30*omJ (k+1)+1)-(omL k-30*omJ k+1))+30)),(43,.int .i64 ((omL (k+1)-30*omJ (k+1)+1)-(omL k-30*omJ k+1))),(42,.int .i64 (omL k-30*omJ k+1)),(41,.pointer (some ⟨g4,3,none⟩)),(40,.int .i64 (omL (k+1)-30*omJ (k+1)+1)),(39,.pointer (some ⟨g6,3,none⟩)),(38,.bool false),(37,.bool false),(36,.int .i64 0),(35,.bool false),(34,.bool false),(33,.int .i64 0),(26,.bool false),(25,.int .i64 k),(7,.int .i64 0),(6,.pointer (some ⟨g6,0,none⟩)),(24,.int .i64 0),(23,.agg #[.int .i64 (omU (omJ (k+1))/12),.int .i64 (omU (omJ (k+1))%12+1),.bool (decide (omU (omJ (k+1)+1)=omU (omJ (k+1)))),.int .i64 (omL (k+1)-30*omJ (k+1)+1)]),(19,.tuple #[.agg #[.int .i64 (omU (omJ (k+1))/12),.int .i64 (omU (omJ (k+1))%12+1),.bool (decide (omU (omJ (k+1)+1)=omU (omJ (k+1)))),.int .i64 (omL (k+1)-30*omJ (k+1)+1)],.int .i64 0]),(22,.tuple #[.agg #[.int .i64 (omU (omJ (k+1))/12),.int .i64 (omU (omJ (k+1))%12+1),.bool (decide (omU (omJ (k+1)+1)=omU (omJ (k+1)))),.int .i64 (omL (k+1)-30*omJ (k+1)+1)],.int .i64 0]),(21,.int .i64 (k+1)),(20,.int .i64 k),(5,.int .i64 0),(4,.pointer (some ⟨g4,0,none⟩)),(18,.int .i64 0),(17,.agg #[.int .i64 (omU (omJ k)/12),.int .i64 (omU (omJ k)%12+1),.bool (decide (omU (omJ k+1)=omU (omJ k))),.int .i64 (omL k-30*omJ k+1)]),(14,.tuple #[.agg #[.int .i64 (omU (omJ k)/12),.int .i64 (omU (omJ k)%12+1),.bool (decide (omU (omJ k+1)=omU (omJ k))),.int .i64 (omL k-30*omJ k+1)],.int .i64 0]),(16,.tuple #[.agg #[.int .i64 (omU (omJ k)/12),.int .i64 (omU (omJ k)%12+1),.bool (decide (omU (omJ k+1)=omU (omJ k))),.int .i64 (omL k-30*omJ k+1)],.int .i64 0]),(15,.int .i64 k),(3,.int .i64 k),(13,.int .i64 k),(12,.int .i64 n),(11,.bool false),(10,.bool true),(0,.int .i64 n)]) hF (r_assign (hF.at 0 rfl)) rfl rfl rfl rfl fun a hF=>?_
                         refine E.nil ?_
                         refine wp_ret ?_
                         have bel:=st.bel
                         refine bodyPost_ret (res_tmp Try.results9 (hF.at 0 rfl)) hF.dfr ?_
                         exact⟨rfl,bel⟩))
                   ·first
                    |(exfalso;omega)
                    |(refine E.opv hF (r_bin (hF.at 0 rfl) ev_c eg_scalar (bi_int (ic_eql (c:=false) (dec_ff hc17)) (by simp))) rfl rfl rfl rfl fun a hF=>?_
                      refine E.opv hF (r_move (hF.at 0 rfl)) rfl rfl rfl rfl fun a hF=>?_
                      refine E.opvg hF (r_move (hF.at 23 rfl)) (wanted_by rfl rfl (hF.at 0 rfl) rfl) rfl rfl rfl fun a hF=>?_
                      by_cases hc19:(((omL (k+1)-30*omJ (k+1)+1)-(omL k-30*omJ k+1))+30)%30=2
                      ·first
                       |(exfalso;omega)
                       |(refine E.opvg hF (r_bin (hF.at 0 rfl) ev_c eg_scalar (bi_int (ic_eql (c:=true) (dec_tt hc19)) (by simp))) (wanted_by rfl rfl (hF.at 1 rfl) rfl) rfl rfl rfl fun a hF=>?_
                         refine E.opv hF (r_pick_f (hF.at 2 rfl) (hF.at 0 rfl)) rfl rfl rfl rfl fun a hF=>?_
                         refine E.opv hF (r_move (hF.at 0 rfl)) rfl rfl rfl rfl fun a hF=>?_
                         refine E.opvg hF (r_move (hF.at 7 rfl)) (wanted_by rfl rfl (hF.at 0 rfl) rfl) rfl rfl rfl fun a hF=>?_
                         refine E.opvg hF (r_field (hF.at 45 rfl) (fa_OMD_3 (p:=3) rfl)) (wanted_by rfl rfl (hF.at 1 rfl) rfl) rfl rfl rfl fun a hF=>?_
                         refine E.opvg hF (r_load (hF.at 0 rfl) (ldb_int (v:= .int .i64 (omL (k+1)-30*omJ (k+1)+1)) (st.bk 0 rfl) rfl)) (wanted_by rfl rfl (hF.at 2 rfl) rfl) rfl rfl rfl fun a hF=>?_
                         refine E.opvg hF (r_field (hF.at 55 rfl) (fa_OMD_3 (p:=3) rfl)) (wanted_by rfl rfl (hF.at 3 rfl) rfl) rfl rfl rfl fun a hF=>?_
                         refine E.opvg hF (r_load (hF.at 0 rfl) (ldb_int (v:= .int .i64 (omL k-30*omJ k+1)) (st.bk 1 rfl) rfl)) (wanted_by rfl rfl (hF.at 4 rfl) rfl) rfl rfl rfl fun a hF=>?_
                         by_cases hc20:omL k-30*omJ k+1<omL (k+1)-30*omJ (k+1)+1
                         ·first
                          |(exfalso;omega)
                          |(refine E.opvg hF (r_bin (hF.at 2 rfl) (hF.at 0 rfl) eg_scalar (bi_int (ic_gtr (c:=true) (dec_tt hc20)) (by simp))) (wanted_by rfl rfl (hF.at 5 rfl) rfl) rfl rfl rfl fun a hF=>?_
                            refine E.opvg hF (r_bin (hF.at 5 rfl) (hF.at 0 rfl) eg_bool (bb_eql (d:=false) rfl)) (wanted_by rfl rfl (hF.at 6 rfl) rfl) rfl rfl rfl fun a hF=>?_
                            refine E.opv hF (r_pick_t (hF.at 7 rfl) (hF.at 0 rfl)) rfl rfl rfl rfl fun a hF=>?_
                            refine E.opset (L':=[(2,.bool false),(79,.bool false),(78,.bool false),(77,.bool true),(76,.int .i64 (omL k-30*omJ k+1)),(75,.pointer (some ⟨g4,3,none⟩)),(74,.int .i64 (omL (k+1)-30*omJ (k+1)+1)),(73,.pointer (some ⟨g6,3,none⟩)),(72,.bool false),(71,.bool true),(70,.bool true),(69,.bool true),(68,.int .i64 ((((omL (k+1)-30*omJ (k+1)+1)-(omL k-30*omJ k+1))+30)%30)),(67,.bool false),(66,.bool false),(65,.int .i64 ((((omL (k+1)-30*omJ (k+1)+1)-(omL k-30*omJ k+1))+30)%30)),(9,.bool false),(64,.bool false),(63,.bool false),(62,.bool (decide (omU (omJ k+1)=omU (omJ k)))),(61,.pointer (some ⟨g4,2,none⟩)),(60,.bool (decide (omU (omJ (k+1)+1)=omU (omJ (k+1))))),(59,.pointer (some ⟨g6,2,none⟩)),(58,.bool true),(57,.bool true),(56,.bool true),(55,.int .i64 (omU (omJ k)%12+1)),(54,.pointer (some ⟨g4,1,none⟩)),(53,.int .i64 (omU (omJ (k+1))%12+1)),(52,.pointer (some ⟨g6,1,none⟩)),(51,.bool true),(50,.bool true),(49,.int .i64 (omU (omJ k)/12)),(48,.pointer (some ⟨g4,0,none⟩)),(47,.int .i64 (omU (omJ (k+1))/12)),(46,.pointer (some ⟨g6,0,none⟩)),(8,.int .i64 ((((omL (k+1)-30*omJ (k+1)+1)-(omL k-30*omJ k+1))+30)%30)),(45,.int .i64 ((((omL (k+1)-30*omJ (k+1)+1)-(omL k-30*omJ k+1))+30)%30)),(44,.int .i64 (((omL (k+1)-30*omJ (k+1)+1)-(omL k-30*omJ k+1))+30)),(43,.int .i64 ((omL (k+1)-30*omJ (k+1)+1)-(omL k-30*omJ k+1))),(42,.int .i64 (omL k-30*omJ k+1)),(41,.pointer (some ⟨g4,3,none⟩)),(40,.int .i64 (omL (k+1)-30*omJ (k+1)+1)),(39,.pointer (some ⟨g6,3,none⟩)),(38,.bool false),(37,.bool false),(36,.int .i64 0),(35,.bool false),(34,.bool false),(33,.int .i64 0),(26,.bool false),(25,.int .i64 k),(7,.int .i64 0),(6,.pointer (some ⟨g6,0,none⟩)),(24,.int .i64 0),(23,.agg #[.int .i64 (omU (omJ (k+1))/12),.int .i64 (omU (omJ (k+1))%12+1),.bool (decide (omU (omJ (k+1)+1)=omU (omJ (k+1)))),.int .i64 (omL (k+1)-30*omJ (k+1)+1)]),(19,.tuple #[.agg #[.int .i64 (omU (omJ (k+1))/12),.int .i64 (omU (omJ (k+1))%12+1),.bool (decide (omU (omJ (k+1)+1)=omU (omJ (k+1)))),.int .i64 (omL (k+1)-30*omJ (k+1)+1)],.int .i64 0]),(22,.tuple #[.agg #[.int .i64 (omU (omJ (k+1))/12),.int .i64 (omU (omJ (k+1))%12+1),.bool (decide (omU (omJ (k+1)+1)=omU (omJ (k+1)))),.int .i64 (omL (k+1)-30*omJ (k+1)+1)],.int .i64 0]),(21,.int .i64 (k+1)),(20,.int .i64 k),(5,.int .i64 0),(4,.pointer (some ⟨g4,0,none⟩)),(18,.int .i64 0),(17,.agg #[.int .i64 (omU (omJ k)/12),.int .i64 (omU (omJ k)%12+1),.bool (decide (omU (omJ k+1)=omU (omJ k))),.int .i64 (omL k-30*omJ k+1)]),(14,.tuple #[.agg #[.int .i64 (omU (omJ k)/12),.int .i64 (omU (omJ k)%12+1),.bool (decide (omU (omJ k+1)=omU (omJ k))),.int .i64 (omL k-30*omJ k+1)],.int .i64 0]),(16,.tuple #[.agg #[.int .i64 (omU (omJ k)/12),.int .i64 (omU (omJ k)%12+1),.bool (decide (omU (omJ k+1)=omU (omJ k))),.int .i64 (omL k-30*omJ k+1)],.int .i64 0]),(15,.int .i64 k),(3,.int .i64 k),(13,.int .i64 k),(12,.int .i64 n),(11,.bool false),(10,.bool true),(0,.int .i64 n)]) hF (r_assign (hF.at 0 rfl)) rfl rfl rfl rfl fun a hF=>?_
                            refine E.nil ?_
                            refine wp_ret ?_
                            have bel:=st.bel
                            refine bodyPost_ret (res_tmp Try.results9 (hF.at 0 rfl)) hF.dfr ?_
                            exfalso;omega)
                         ·first
                          |(exfalso;omega)
                          |(refine E.opvg hF (r_bin (hF.at 2 rfl) (hF.at 0 rfl) eg_scalar (bi_int (ic_gtr (c:=false) (dec_ff hc20)) (by simp))) (wanted_by rfl rfl (hF.at 5 rfl) rfl) rfl rfl rfl fun a hF=>?_
                            refine E.opvg hF (r_bin (hF.at 5 rfl) (hF.at 0 rfl) eg_bool (bb_eql (d:=true) rfl)) (wanted_by rfl rfl (hF.at 6 rfl) rfl) rfl rfl rfl fun a hF=>?_
                            refine E.opv hF (r_pick_t (hF.at 7 rfl) (hF.at 0 rfl)) rfl rfl rfl rfl fun a hF=>?_
                            refine E.opset (L':=[(2,.bool true),(79,.bool true),(78,.bool true),(77,.bool false),(76,.int .i64 (omL k-30*omJ k+1)),(75,.pointer (some ⟨g4,3,none⟩)),(74,.int .i64 (omL (k+1)-30*omJ (k+1)+1)),(73,.pointer (some ⟨g6,3,none⟩)),(72,.bool false),(71,.bool true),(70,.bool true),(69,.bool true),(68,.int .i64 ((((omL (k+1)-30*omJ (k+1)+1)-(omL k-30*omJ k+1))+30)%30)),(67,.bool false),(66,.bool false),(65,.int .i64 ((((omL (k+1)-30*omJ (k+1)+1)-(omL k-30*omJ k+1))+30)%30)),(9,.bool false),(64,.bool false),(63,.bool false),(62,.bool (decide (omU (omJ k+1)=omU (omJ k)))),(61,.pointer (some ⟨g4,2,none⟩)),(60,.bool (decide (omU (omJ (k+1)+1)=omU (omJ (k+1))))),(59,.pointer (some ⟨g6,2,none⟩)),(58,.bool true),(57,.bool true),(56,.bool true),(55,.int .i64 (omU (omJ k)%12+1)),(54,.pointer (some ⟨g4,1,none⟩)),(53,.int .i64 (omU (omJ (k+1))%12+1)),(52,.pointer (some ⟨g6,1,none⟩)),(51,.bool true),(50,.bool true),(49,.int .i64 (omU (omJ k)/12)),(48,.pointer (some ⟨g4,0,none⟩)),(47,.int .i64 (omU (omJ (k+1))/12)),(46,.pointer (some ⟨g6,0,none⟩)),(8,.int .i64 ((((omL (k+1)-30*omJ (k+1)+1)-(omL k-30*omJ k+1))+30)%30)),(45,.int .i64 ((((omL (k+1)-30*omJ (k+1)+1)-(omL k-30*omJ k+1))+30)%30)),(44,.int .i64 (((omL (k+1)-30*omJ (k+1)+1)-(omL k-30*omJ k+1))+30)),(43,.int .i64 ((omL (k+1)-30*omJ (k+1)+1)-(omL k-30*omJ k+1))),(42,.int .i64 (omL k-30*omJ k+1)),(41,.pointer (some ⟨g4,3,none⟩)),(40,.int .i64 (omL (k+1)-30*omJ (k+1)+1)),(39,.pointer (some ⟨g6,3,none⟩)),(38,.bool false),(37,.bool false),(36,.int .i64 0),(35,.bool false),(34,.bool false),(33,.int .i64 0),(26,.bool false),(25,.int .i64 k),(7,.int .i64 0),(6,.pointer (some ⟨g6,0,none⟩)),(24,.int .i64 0),(23,.agg #[.int .i64 (omU (omJ (k+1))/12),.int .i64 (omU (omJ (k+1))%12+1),.bool (decide (omU (omJ (k+1)+1)=omU (omJ (k+1)))),.int .i64 (omL (k+1)-30*omJ (k+1)+1)]),(19,.tuple #[.agg #[.int .i64 (omU (omJ (k+1))/12),.int .i64 (omU (omJ (k+1))%12+1),.bool (decide (omU (omJ (k+1)+1)=omU (omJ (k+1)))),.int .i64 (omL (k+1)-30*omJ (k+1)+1)],.int .i64 0]),(22,.tuple #[.agg #[.int .i64 (omU (omJ (k+1))/12),.int .i64 (omU (omJ (k+1))%12+1),.bool (decide (omU (omJ (k+1)+1)=omU (omJ (k+1)))),.int .i64 (omL (k+1)-30*omJ (k+1)+1)],.int .i64 0]),(21,.int .i64 (k+1)),(20,.int .i64 k),(5,.int .i64 0),(4,.pointer (some ⟨g4,0,none⟩)),(18,.int .i64 0),(17,.agg #[.int .i64 (omU (omJ k)/12),.int .i64 (omU (omJ k)%12+1),.bool (decide (omU (omJ k+1)=omU (omJ k))),.int .i64 (omL k-30*omJ k+1)]),(14,.tuple #[.agg #[.int .i64 (omU (omJ k)/12),.int .i64 (omU (omJ k)%12+1),.bool (decide (omU (omJ k+1)=omU (omJ k))),.int .i64 (omL k-30*omJ k+1)],.int .i64 0]),(16,.tuple #[.agg #[.int .i64 (omU (omJ k)/12),.int .i64 (omU (omJ k)%12+1),.bool (decide (omU (omJ k+1)=omU (omJ k))),.int .i64 (omL k-30*omJ k+1)],.int .i64 0]),(15,.int .i64 k),(3,.int .i64 k),(13,.int .i64 k),(12,.int .i64 n),(11,.bool false),(10,.bool true),(0,.int .i64 n)]) hF (r_assign (hF.at 0 rfl)) rfl rfl rfl rfl fun a hF=>?_
                            refine E.nil ?_
                            refine wp_ret ?_
                            have bel:=st.bel
                            refine bodyPost_ret (res_tmp Try.results9 (hF.at 0 rfl)) hF.dfr ?_
                            exact⟨rfl,bel⟩))
                      ·first
                       |(exfalso;omega)
                       |(refine E.opvg hF (r_bin (hF.at 0 rfl) ev_c eg_scalar (bi_int (ic_eql (c:=false) (dec_ff hc19)) (by simp))) (wanted_by rfl rfl (hF.at 1 rfl) rfl) rfl rfl rfl fun a hF=>?_
                         refine E.opv hF (r_pick_f (hF.at 2 rfl) (hF.at 0 rfl)) rfl rfl rfl rfl fun a hF=>?_
                         refine E.opv hF (r_move (hF.at 0 rfl)) rfl rfl rfl rfl fun a hF=>?_
                         refine E.unwanted hF (wanted_by rfl rfl (hF.at 0 rfl) rfl) rfl rfl rfl fun a hF=>?_
                         refine E.unwanted hF (wanted_by rfl rfl (hF.at 1 rfl) rfl) rfl rfl rfl fun a hF=>?_
                         refine E.unwanted hF (wanted_by rfl rfl (hF.at 2 rfl) rfl) rfl rfl rfl fun a hF=>?_
                         refine E.unwanted hF (wanted_by rfl rfl (hF.at 3 rfl) rfl) rfl rfl rfl fun a hF=>?_
                         refine E.unwanted hF (wanted_by rfl rfl (hF.at 4 rfl) rfl) rfl rfl rfl fun a hF=>?_
                         refine E.unwanted hF (wanted_by rfl rfl (hF.at 5 rfl) rfl) rfl rfl rfl fun a hF=>?_
                         refine E.unwanted hF (wanted_by rfl rfl (hF.at 6 rfl) rfl) rfl rfl rfl fun a hF=>?_
                         refine E.opv hF (r_pick_f (hF.at 7 rfl) ev_c) rfl rfl rfl rfl fun a hF=>?_
                         refine E.opset (L':=[(2,.bool false),(79,.bool false),(78,undef),(77,undef),(76,undef),(75,undef),(74,undef),(73,undef),(72,undef),(71,.bool false),(70,.bool false),(69,.bool false),(68,.int .i64 ((((omL (k+1)-30*omJ (k+1)+1)-(omL k-30*omJ k+1))+30)%30)),(67,.bool false),(66,.bool false),(65,.int .i64 ((((omL (k+1)-30*omJ (k+1)+1)-(omL k-30*omJ k+1))+30)%30)),(9,.bool false),(64,.bool false),(63,.bool false),(62,.bool (decide (omU (omJ k+1)=omU (omJ k)))),(61,.pointer (some ⟨g4,2,none⟩)),(60,.bool (decide (omU (omJ (k+1)+1)=omU (omJ (k+1))))),(59,.pointer (some ⟨g6,2,none⟩)),(58,.bool true),(57,.bool true),(56,.bool true),(55,.int .i64 (omU (omJ k)%12+1)),(54,.pointer (some ⟨g4,1,none⟩)),(53,.int .i64 (omU (omJ (k+1))%12+1)),(52,.pointer (some ⟨g6,1,none⟩)),(51,.bool true),(50,.bool true),(49,.int .i64 (omU (omJ k)/12)),(48,.pointer (some ⟨g4,0,none⟩)),(47,.int .i64 (omU (omJ (k+1))/12)),(46,.pointer (some ⟨g6,0,none⟩)),(8,.int .i64 ((((omL (k+1)-30*omJ (k+1)+1)-(omL k-30*omJ k+1))+30)%30)),(45,.int .i64 ((((omL (k+1)-30*omJ (k+1)+1)-(omL k-30*omJ k+1))+30)%30)),(44,.int .i64 (((omL (k+1)-30*omJ (k+1)+1)-(omL k-30*omJ k+1))+30)),(43,.int .i64 ((omL (k+1)-30*omJ (k+1)+1)-(omL k-30*omJ k+1))),(42,.int .i64 (omL k-30*omJ k+1)),(41,.pointer (some ⟨g4,3,none⟩)),(40,.int .i64 (omL (k+1)-30*omJ (k+1)+1)),(39,.pointer (some ⟨g6,3,none⟩)),(38,.bool false),(37,.bool false),(36,.int .i64 0),(35,.bool false),(34,.bool false),(33,.int .i64 0),(26,.bool false),(25,.int .i64 k),(7,.int .i64 0),(6,.pointer (some ⟨g6,0,none⟩)),(24,.int .i64 0),(23,.agg #[.int .i64 (omU (omJ (k+1))/12),.int .i64 (omU (omJ (k+1))%12+1),.bool (decide (omU (omJ (k+1)+1)=omU (omJ (k+1)))),.int .i64 (omL (k+1)-30*omJ (k+1)+1)]),(19,.tuple #[.agg #[.int .i64 (omU (omJ (k+1))/12),.int .i64 (omU (omJ (k+1))%12+1),.bool (decide (omU (omJ (k+1)+1)=omU (omJ (k+1)))),.int .i64 (omL (k+1)-30*omJ (k+1)+1)],.int .i64 0]),(22,.tuple #[.agg #[.int .i64 (omU (omJ (k+1))/12),.int .i64 (omU (omJ (k+1))%12+1),.bool (decide (omU (omJ (k+1)+1)=omU (omJ (k+1)))),.int .i64 (omL (k+1)-30*omJ (k+1)+1)],.int .i64 0]),(21,.int .i64 (k+1)),(20,.int .i64 k),(5,.int .i64 0),(4,.pointer (some ⟨g4,0,none⟩)),(18,.int .i64 0),(17,.agg #[.int .i64 (omU (omJ k)/12),.int .i64 (omU (omJ k)%12+1),.bool (decide (omU (omJ k+1)=omU (omJ k))),.int .i64 (omL k-30*omJ k+1)]),(14,.tuple #[.agg #[.int .i64 (omU (omJ k)/12),.int .i64 (omU (omJ k)%12+1),.bool (decide (omU (omJ k+1)=omU (omJ k))),.int .i64 (omL k-30*omJ k+1)],.int .i64 0]),(16,.tuple #[.agg #[.int .i64 (omU (omJ k)/12),.int .i64 (omU (omJ k)%12+1),.bool (decide (omU (omJ k+1)=omU (omJ k))),.int .i64 (omL k-30*omJ k+1)],.int .i64 0]),(15,.int .i64 k),(3,.int .i64 k),(13,.int .i64 k),(12,.int .i64 n),(11,.bool false),(10,.bool true),(0,.int .i64 n)]) hF (r_assign (hF.at 0 rfl)) rfl rfl rfl rfl fun a hF=>?_
                         refine E.nil ?_
                         refine wp_ret ?_
                         have bel:=st.bel
                         refine bodyPost_ret (res_tmp Try.results9 (hF.at 0 rfl)) hF.dfr ?_
                         exfalso;omega))))
             ·first
              |(exfalso;omega)
              |(refine E.opvg hF (r_bin (hF.at 2 rfl) (hF.at 0 rfl) eg_scalar (bi_int (ic_eql (c:=false) (dec_ff hc11)) (by simp))) (wanted_by rfl rfl (hF.at 4 rfl) rfl) rfl rfl rfl fun a hF=>?_
                refine E.opv hF (r_pick_t (hF.at 5 rfl) (hF.at 0 rfl)) rfl rfl rfl rfl fun a hF=>?_
                refine E.opv hF (r_move (hF.at 0 rfl)) rfl rfl rfl rfl fun a hF=>?_
                refine E.unwanted hF (wanted_by rfl rfl (hF.at 0 rfl) rfl) rfl rfl rfl fun a hF=>?_
                refine E.unwanted hF (wanted_by rfl rfl (hF.at 1 rfl) rfl) rfl rfl rfl fun a hF=>?_
                refine E.unwanted hF (wanted_by rfl rfl (hF.at 2 rfl) rfl) rfl rfl rfl fun a hF=>?_
                refine E.unwanted hF (wanted_by rfl rfl (hF.at 3 rfl) rfl) rfl rfl rfl fun a hF=>?_
                refine E.unwanted hF (wanted_by rfl rfl (hF.at 4 rfl) rfl) rfl rfl rfl fun a hF=>?_
                refine E.opv hF (r_pick_f (hF.at 5 rfl) ev_c) rfl rfl rfl rfl fun a hF=>?_
                refine E.opv hF (r_assign (hF.at 0 rfl)) rfl rfl rfl rfl fun a hF=>?_
                refine E.nil ?_
                refine wp_seq ?_
                refine E.seq ?_
                refine E.opv hF (r_move (hF.at 20 rfl)) rfl rfl rfl rfl fun a hF=>?_
                by_cases hc21:(((omL (k+1)-30*omJ (k+1)+1)-(omL k-30*omJ k+1))+30)%30=1
                ·first
                 |(exfalso;omega)
                 |(refine E.opv hF (r_bin (hF.at 0 rfl) ev_c eg_scalar (bi_int (ic_eql (c:=true) (dec_tt hc21)) (by simp))) rfl rfl rfl rfl fun a hF=>?_
                   refine E.opv hF (r_move (hF.at 0 rfl)) rfl rfl rfl rfl fun a hF=>?_
                   refine E.unwanted hF (wanted_by rfl rfl (hF.at 0 rfl) rfl) rfl rfl rfl fun a hF=>?_
                   refine E.unwanted hF (wanted_by rfl rfl (hF.at 1 rfl) rfl) rfl rfl rfl fun a hF=>?_
                   refine E.opv hF (r_pick_t (hF.at 2 rfl) ev_c) rfl rfl rfl rfl fun a hF=>?_
                   refine E.opv hF (r_move (hF.at 0 rfl)) rfl rfl rfl rfl fun a hF=>?_
                   refine E.opvg hF (r_move (hF.at 7 rfl)) (wanted_by rfl rfl (hF.at 0 rfl) rfl) rfl rfl rfl fun a hF=>?_
                   refine E.opvg hF (r_field (hF.at 45 rfl) (fa_OMD_3 (p:=3) rfl)) (wanted_by rfl rfl (hF.at 1 rfl) rfl) rfl rfl rfl fun a hF=>?_
                   refine E.opvg hF (r_load (hF.at 0 rfl) (ldb_int (v:= .int .i64 (omL (k+1)-30*omJ (k+1)+1)) (st.bk 0 rfl) rfl)) (wanted_by rfl rfl (hF.at 2 rfl) rfl) rfl rfl rfl fun a hF=>?_
                   refine E.opvg hF (r_field (hF.at 55 rfl) (fa_OMD_3 (p:=3) rfl)) (wanted_by rfl rfl (hF.at 3 rfl) rfl) rfl rfl rfl fun a hF=>?_
                   refine E.opvg hF (r_load (hF.at 0 rfl) (ldb_int (v:= .int .i64 (omL k-30*omJ k+1)) (st.bk 1 rfl) rfl)) (wanted_by rfl rfl (hF.at 4 rfl) rfl) rfl rfl rfl fun a hF=>?_
                   by_cases hc22:omL k-30*omJ k+1<omL (k+1)-30*omJ (k+1)+1
                   ·first
                    |(exfalso;omega)
                    |(refine E.opvg hF (r_bin (hF.at 2 rfl) (hF.at 0 rfl) eg_scalar (bi_int (ic_gtr (c:=true) (dec_tt hc22)) (by simp))) (wanted_by rfl rfl (hF.at 5 rfl) rfl) rfl rfl rfl fun a hF=>?_
                      refine E.opvg hF (r_bin (hF.at 5 rfl) (hF.at 0 rfl) eg_bool (bb_eql (d:=false) rfl)) (wanted_by rfl rfl (hF.at 6 rfl) rfl) rfl rfl rfl fun a hF=>?_
                      refine E.opv hF (r_pick_t (hF.at 7 rfl) (hF.at 0 rfl)) rfl rfl rfl rfl fun a hF=>?_
                      refine E.opset (L':=[(2,.bool false),(79,.bool false),(78,.bool false),(77,.bool true),(76,.int .i64 (omL k-30*omJ k+1)),(75,.pointer (some ⟨g4,3,none⟩)),(74,.int .i64 (omL (k+1)-30*omJ (k+1)+1)),(73,.pointer (some ⟨g6,3,none⟩)),(72,.bool false),(71,.bool true),(70,.bool true),(69,undef),(68,undef),(67,.bool true),(66,.bool true),(65,.int .i64 ((((omL (k+1)-30*omJ (k+1)+1)-(omL k-30*omJ k+1))+30)%30)),(9,.bool false),(64,.bool false),(63,undef),(62,undef),(61,undef),(60,undef),(59,undef),(58,.bool false),(57,.bool false),(56,.bool false),(55,.int .i64 (omU (omJ k)%12+1)),(54,.pointer (some ⟨g4,1,none⟩)),(53,.int .i64 (omU (omJ (k+1))%12+1)),(52,.pointer (some ⟨g6,1,none⟩)),(51,.bool true),(50,.bool true),(49,.int .i64 (omU (omJ k)/12)),(48,.pointer (some ⟨g4,0,none⟩)),(47,.int .i64 (omU (omJ (k+1))/12)),(46,.pointer (some ⟨g6,0,none⟩)),(8,.int .i64 ((((omL (k+1)-30*omJ (k+1)+1)-(omL k-30*omJ k+1))+30)%30)),(45,.int .i64 ((((omL (k+1)-30*omJ (k+1)+1)-(omL k-30*omJ k+1))+30)%30)),(44,.int .i64 (((omL (k+1)-30*omJ (k+1)+1)-(omL k-30*omJ k+1))+30)),(43,.int .i64 ((omL (k+1)-30*omJ (k+1)+1)-(omL k-30*omJ k+1))),(42,.int .i64 (omL k-30*omJ k+1)),(41,.pointer (some ⟨g4,3,none⟩)),(40,.int .i64 (omL (k+1)-30*omJ (k+1)+1)),(39,.pointer (some ⟨g6,3,none⟩)),(38,.bool false),(37,.bool false),(36,.int .i64 0),(35,.bool false),(34,.bool false),(33,.int .i64 0),(26,.bool false),(25,.int .i64 k),(7,.int .i64 0),(6,.pointer (some ⟨g6,0,none⟩)),(24,.int .i64 0),(23,.agg #[.int .i64 (omU (omJ (k+1))/12),.int .i64 (omU (omJ (k+1))%12+1),.bool (decide (omU (omJ (k+1)+1)=omU (omJ (k+1)))),.int .i64 (omL (k+1)-30*omJ (k+1)+1)]),(19,.tuple #[.agg #[.int .i64 (omU (omJ (k+1))/12),.int .i64 (omU (omJ (k+1))%12+1),.bool (decide (omU (omJ (k+1)+1)=omU (omJ (k+1)))),.int .i64 (omL (k+1)-30*omJ (k+1)+1)],.int .i64 0]),(22,.tuple #[.agg #[.int .i64 (omU (omJ (k+1))/12),.int .i64 (omU (omJ (k+1))%12+1),.bool (decide (omU (omJ (k+1)+1)=omU (omJ (k+1)))),.int .i64 (omL (k+1)-30*omJ (k+1)+1)],.int .i64 0]),(21,.int .i64 (k+1)),(20,.int .i64 k),(5,.int .i64 0),(4,.pointer (some ⟨g4,0,none⟩)),(18,.int .i64 0),(17,.agg #[.int .i64 (omU (omJ k)/12),.int .i64 (omU (omJ k)%12+1),.bool (decide (omU (omJ k+1)=omU (omJ k))),.int .i64 (omL k-30*omJ k+1)]),(14,.tuple #[.agg #[.int .i64 (omU (omJ k)/12),.int .i64 (omU (omJ k)%12+1),.bool (decide (omU (omJ k+1)=omU (omJ k))),.int .i64 (omL k-30*omJ k+1)],.int .i64 0]),(16,.tuple #[.agg #[.int .i64 (omU (omJ k)/12),.int .i64 (omU (omJ k)%12+1),.bool (decide (omU (omJ k+1)=omU (omJ k))),.int .i64 (omL k-30*omJ k+1)],.int .i64 0]),(15,.int .i64 k),(3,.int .i64 k),(13,.int .i64 k),(12,.int .i64 n),(11,.bool false),(10,.bool true),(0,.int .i64 n)]) hF (r_assign (hF.at 0 rfl)) rfl rfl rfl rfl fun a hF=>?_
                      refine E.nil ?_
                      refine wp_ret ?_
                      have bel:=st.bel
                      refine bodyPost_ret (res_tmp Try.results9 (hF.at 0 rfl)) hF.dfr ?_
                      exfalso;omega)
                   ·first
                    |(exfalso;omega)
                    |(refine E.opvg hF (r_bin (hF.at 2 rfl) (hF.at 0 rfl) eg_scalar (bi_int (ic_gtr (c:=false) (dec_ff hc22)) (by simp))) (wanted_by rfl rfl (hF.at 5 rfl) rfl) rfl rfl rfl fun a hF=>?_
                      refine E.opvg hF (r_bin (hF.at 5 rfl) (hF.at 0 rfl) eg_bool (bb_eql (d:=true) rfl)) (wanted_by rfl rfl (hF.at 6 rfl) rfl) rfl rfl rfl fun a hF=>?_
                      refine E.opv hF (r_pick_t (hF.at 7 rfl) (hF.at 0 rfl)) rfl rfl rfl rfl fun a hF=>?_
                      refine E.opset (L':=[(2,.bool true),(79,.bool true),(78,.bool true),(77,.bool false),(76,.int .i64 (omL k-30*omJ k+1)),(75,.pointer (some ⟨g4,3,none⟩)),(74,.int .i64 (omL (k+1)-30*omJ (k+1)+1)),(73,.pointer (some ⟨g6,3,none⟩)),(72,.bool false),(71,.bool true),(70,.bool true),(69,undef),(68,undef),(67,.bool true),(66,.bool true),(65,.int .i64 ((((omL (k+1)-30*omJ (k+1)+1)-(omL k-30*omJ k+1))+30)%30)),(9,.bool false),(64,.bool false),(63,undef),(62,undef),(61,undef),(60,undef),(59,undef),(58,.bool false),(57,.bool false),(56,.bool false),(55,.int .i64 (omU (omJ k)%12+1)),(54,.pointer (some ⟨g4,1,none⟩)),(53,.int .i64 (omU (omJ (k+1))%12+1)),(52,.pointer (some ⟨g6,1,none⟩)),(51,.bool true),(50,.bool true),(49,.int .i64 (omU (omJ k)/12)),(48,.pointer (some ⟨g4,0,none⟩)),(47,.int .i64 (omU (omJ (k+1))/12)),(46,.pointer (some ⟨g6,0,none⟩)),(8,.int .i64 ((((omL (k+1)-30*omJ (k+1)+1)-(omL k-30*omJ k+1))+30)%30)),(45,.int .i64 ((((omL (k+1)-30*omJ (k+1)+1)-(omL k-30*omJ k+1))+30)%30)),(44,.int .i64 (((omL (k+1)-30*omJ (k+1)+1)-(omL k-30*omJ k+1))+30)),(43,.int .i64 ((omL (k+1)-30*omJ (k+1)+1)-(omL k-30*omJ k+1))),(42,.int .i64 (omL k-30*omJ k+1)),(41,.pointer (some ⟨g4,3,none⟩)),(40,.int .i64 (omL (k+1)-30*omJ (k+1)+1)),(39,.pointer (some ⟨g6,3,none⟩)),(38,.bool false),(37,.bool false),(36,.int .i64 0),(35,.bool false),(34,.bool false),(33,.int .i64 0),(26,.bool false),(25,.int .i64 k),(7,.int .i64 0),(6,.pointer (some ⟨g6,0,none⟩)),(24,.int .i64 0),(23,.agg #[.int .i64 (omU (omJ (k+1))/12),.int .i64 (omU (omJ (k+1))%12+1),.bool (decide (omU (omJ (k+1)+1)=omU (omJ (k+1)))),.int .i64 (omL (k+1)-30*omJ (k+1)+1)]),(19,.tuple #[.agg #[.int .i64 (omU (omJ (k+1))/12),.int .i64 (omU (omJ (k+1))%12+1),.bool (decide (omU (omJ (k+1)+1)=omU (omJ (k+1)))),.int .i64 (omL (k+1)-30*omJ (k+1)+1)],.int .i64 0]),(22,.tuple #[.agg #[.int .i64 (omU (omJ (k+1))/12),.int .i64 (omU (omJ (k+1))%12+1),.bool (decide (omU (omJ (k+1)+1)=omU (omJ (k+1)))),.int .i64 (omL (k+1)-30*omJ (k+1)+1)],.int .i64 0]),(21,.int .i64 (k+1)),(20,.int .i64 k),(5,.int .i64 0),(4,.pointer (some ⟨g4,0,none⟩)),(18,.int .i64 0),(17,.agg #[.int .i64 (omU (omJ k)/12),.int .i64 (omU (omJ k)%12+1),.bool (decide (omU (omJ k+1)=omU (omJ k))),.int .i64 (omL k-30*omJ k+1)]),(14,.tuple #[.agg #[.int .i64 (omU (omJ k)/12),.int .i64 (omU (omJ k)%12+1),.bool (decide (omU (omJ k+1)=omU (omJ k))),.int .i64 (omL k-30*omJ k+1)],.int .i64 0]),(16,.tuple #[.agg #[.int .i64 (omU (omJ k)/12),.int .i64 (omU (omJ k)%12+1),.bool (decide (omU (omJ k+1)=omU (omJ k))),.int .i64 (omL k-30*omJ k+1)],.int .i64 0]),(15,.int .i64 k),(3,.int .i64 k),(13,.int .i64 k),(12,.int .i64 n),(11,.bool false),(10,.bool true),(0,.int .i64 n)]) hF (r_assign (hF.at 0 rfl)) rfl rfl rfl rfl fun a hF=>?_
                      refine E.nil ?_
                      refine wp_ret ?_
                      have bel:=st.bel
                      refine bodyPost_ret (res_tmp Try.results9 (hF.at 0 rfl)) hF.dfr ?_
                      exact⟨rfl,bel⟩))
                ·first
                 |(exfalso;omega)
                 |(refine E.opv hF (r_bin (hF.at 0 rfl) ev_c eg_scalar (bi_int (ic_eql (c:=false) (dec_ff hc21)) (by simp))) rfl rfl rfl rfl fun a hF=>?_
                   refine E.opv hF (r_move (hF.at 0 rfl)) rfl rfl rfl rfl fun a hF=>?_
                   refine E.opvg hF (r_move (hF.at 23 rfl)) (wanted_by rfl rfl (hF.at 0 rfl) rfl) rfl rfl rfl fun a hF=>?_
                   by_cases hc23:(((omL (k+1)-30*omJ (k+1)+1)-(omL k-30*omJ k+1))+30)%30=2
                   ·first
                    |(exfalso;omega)
                    |(refine E.opvg hF (r_bin (hF.at 0 rfl) ev_c eg_scalar (bi_int (ic_eql (c:=true) (dec_tt hc23)) (by simp))) (wanted_by rfl rfl (hF.at 1 rfl) rfl) rfl rfl rfl fun a hF=>?_
                      refine E.opv hF (r_pick_f (hF.at 2 rfl) (hF.at 0 rfl)) rfl rfl rfl rfl fun a hF=>?_
                      refine E.opv hF (r_move (hF.at 0 rfl)) rfl rfl rfl rfl fun a hF=>?_
                      refine E.opvg hF (r_move (hF.at 7 rfl)) (wanted_by rfl rfl (hF.at 0 rfl) rfl) rfl rfl rfl fun a hF=>?_
                      refine E.opvg hF (r_field (hF.at 45 rfl) (fa_OMD_3 (p:=3) rfl)) (wanted_by rfl rfl (hF.at 1 rfl) rfl) rfl rfl rfl fun a hF=>?_
                      refine E.opvg hF (r_load (hF.at 0 rfl) (ldb_int (v:= .int .i64 (omL (k+1)-30*omJ (k+1)+1)) (st.bk 0 rfl) rfl)) (wanted_by rfl rfl (hF.at 2 rfl) rfl) rfl rfl rfl fun a hF=>?_
                      refine E.opvg hF (r_field (hF.at 55 rfl) (fa_OMD_3 (p:=3) rfl)) (wanted_by rfl rfl (hF.at 3 rfl) rfl) rfl rfl rfl fun a hF=>?_
                      refine E.opvg hF (r_load (hF.at 0 rfl) (ldb_int (v:= .int .i64 (omL k-30*omJ k+1)) (st.bk 1 rfl) rfl)) (wanted_by rfl rfl (hF.at 4 rfl) rfl) rfl rfl rfl fun a hF=>?_
                      by_cases hc24:omL k-30*omJ k+1<omL (k+1)-30*omJ (k+1)+1
                      ·first
                       |(exfalso;omega)
                       |(refine E.opvg hF (r_bin (hF.at 2 rfl) (hF.at 0 rfl) eg_scalar (bi_int (ic_gtr (c:=true) (dec_tt hc24)) (by simp))) (wanted_by rfl rfl (hF.at 5 rfl) rfl) rfl rfl rfl fun a hF=>?_
                         refine E.opvg hF (r_bin (hF.at 5 rfl) (hF.at 0 rfl) eg_bool (bb_eql (d:=false) rfl)) (wanted_by rfl rfl (hF.at 6 rfl) rfl) rfl rfl rfl fun a hF=>?_
                         refine E.opv hF (r_pick_t (hF.at 7 rfl) (hF.at 0 rfl)) rfl rfl rfl rfl fun a hF=>?_
                         refine E.opset (L':=[(2,.bool false),(79,.bool false),(78,.bool false),(77,.bool true),(76,.int .i64 (omL k-30*omJ k+1)),(75,.pointer (some ⟨g4,3,none⟩)),(74,.int .i64 (omL (k+1)-30*omJ (k+1)+1)),(73,.pointer (some ⟨g6,3,none⟩)),(72,.bool false),(71,.bool true),(70,.bool true),(69,.bool true),(68,.int .i64 ((((omL (k+1)-30*omJ (k+1)+1)-(omL k-30*omJ k+1))+30)%30)),(67,.bool false),(66,.bool false),(65,.int .i64 ((((omL (k+1)-30*omJ (k+1)+1)-(omL k-30*omJ k+1))+30)%30)),(9,.bool false),(64,.bool false),(63,undef),(62,undef),(61,undef),(60,undef),(59,undef),(58,.bool false),(57,.bool false),(56,.bool false),(55,.int .i64 (omU (omJ k)%12+1)),(54,.pointer (some ⟨g4,1,none⟩)),(53,.int .i64 (omU (omJ (k+1))%12+1)),(52,.pointer (some ⟨g6,1,none⟩)),(51,.bool true),(50,.bool true),(49,.int .i64 (omU (omJ k)/12)),(48,.pointer (some ⟨g4,0,none⟩)),(47,.int .i64 (omU (omJ (k+1))/12)),(46,.pointer (some ⟨g6,0,none⟩)),(8,.int .i64 ((((omL (k+1)-30*omJ (k+1)+1)-(omL k-30*omJ k+1))+30)%30)),(45,.int .i64 ((((omL (k+1)-30*omJ (k+1)+1)-(omL k-30*omJ k+1))+30)%30)),(44,.int .i64 (((omL (k+1)-30*omJ (k+1)+1)-(omL k-30*omJ k+1))+30)),(43,.int .i64 ((omL (k+1)-30*omJ (k+1)+1)-(omL k-30*omJ k+1))),(42,.int .i64 (omL k-30*omJ k+1)),(41,.pointer (some ⟨g4,3,none⟩)),(40,.int .i64 (omL (k+1)-30*omJ (k+1)+1)),(39,.pointer (some ⟨g6,3,none⟩)),(38,.bool false),(37,.bool false),(36,.int .i64 0),(35,.bool false),(34,.bool false),(33,.int .i64 0),(26,.bool false),(25,.int .i64 k),(7,.int .i64 0),(6,.pointer (some ⟨g6,0,none⟩)),(24,.int .i64 0),(23,.agg #[.int .i64 (omU (omJ (k+1))/12),.int .i64 (omU (omJ (k+1))%12+1),.bool (decide (omU (omJ (k+1)+1)=omU (omJ (k+1)))),.int .i64 (omL (k+1)-30*omJ (k+1)+1)]),(19,.tuple #[.agg #[.int .i64 (omU (omJ (k+1))/12),.int .i64 (omU (omJ (k+1))%12+1),.bool (decide (omU (omJ (k+1)+1)=omU (omJ (k+1)))),.int .i64 (omL (k+1)-30*omJ (k+1)+1)],.int .i64 0]),(22,.tuple #[.agg #[.int .i64 (omU (omJ (k+1))/12),.int .i64 (omU (omJ (k+1))%12+1),.bool (decide (omU (omJ (k+1)+1)=omU (omJ (k+1)))),.int .i64 (omL (k+1)-30*omJ (k+1)+1)],.int .i64 0]),(21,.int .i64 (k+1)),(20,.int .i64 k),(5,.int .i64 0),(4,.pointer (some ⟨g4,0,none⟩)),(18,.int .i64 0),(17,.agg #[.int .i64 (omU (omJ k)/12),.int .i64 (omU (omJ k)%12+1),.bool (decide (omU (omJ k+1)=omU (omJ k))),.int .i64 (omL k-30*omJ k+1)]),(14,.tuple #[.agg #[.int .i64 (omU (omJ k)/12),.int .i64 (omU (omJ k)%12+1),.bool (decide (omU (omJ k+1)=omU (omJ k))),.int .i64 (omL k-30*omJ k+1)],.int .i64 0]),(16,.tuple #[.agg #[.int .i64 (omU (omJ k)/12),.int .i64 (omU (omJ k)%12+1),.bool (decide (omU (omJ k+1)=omU (omJ k))),.int .i64 (omL k-30*omJ k+1)],.int .i64 0]),(15,.int .i64 k),(3,.int .i64 k),(13,.int .i64 k),(12,.int .i64 n),(11,.bool false),(10,.bool true),(0,.int .i64 n)]) hF (r_assign (hF.at 0 rfl)) rfl rfl rfl rfl fun a hF=>?_
                         refine E.nil ?_
                         refine wp_ret ?_
                         have bel:=st.bel
                         refine bodyPost_ret (res_tmp Try.results9 (hF.at 0 rfl)) hF.dfr ?_
                         exfalso;omega)
                      ·first
                       |(exfalso;omega)
                       |(refine E.opvg hF (r_bin (hF.at 2 rfl) (hF.at 0 rfl) eg_scalar (bi_int (ic_gtr (c:=false) (dec_ff hc24)) (by simp))) (wanted_by rfl rfl (hF.at 5 rfl) rfl) rfl rfl rfl fun a hF=>?_
                         refine E.opvg hF (r_bin (hF.at 5 rfl) (hF.at 0 rfl) eg_bool (bb_eql (d:=true) rfl)) (wanted_by rfl rfl (hF.at 6 rfl) rfl) rfl rfl rfl fun a hF=>?_
                         refine E.opv hF (r_pick_t (hF.at 7 rfl) (hF.at 0 rfl)) rfl rfl rfl rfl fun a hF=>?_
                         refine E.opset (L':=[(2,.bool true),(79,.bool true),(78,.bool true),(77,.bool false),(76,.int .i64 (omL k-30*omJ k+1)),(75,.pointer (some ⟨g4,3,none⟩)),(74,.int .i64 (omL (k+1)-30*omJ (k+1)+1)),(73,.pointer (some ⟨g6,3,none⟩)),(72,.bool false),(71,.bool true),(70,.bool true),(69,.bool true),(68,.int .i64 ((((omL (k+1)-30*omJ (k+1)+1)-(omL k-30*omJ k+1))+30)%30)),(67,.bool false),(66,.bool false),(65,.int .i64 ((((omL (k+1)-30*omJ (k+1)+1)-(omL k-30*omJ k+1))+30)%30)),(9,.bool false),(64,.bool false),(63,undef),(62,undef),(61,undef),(60,undef),(59,undef),(58,.bool false),(57,.bool false),(56,.bool false),(55,.int .i64 (omU (omJ k)%12+1)),(54,.pointer (some ⟨g4,1,none⟩)),(53,.int .i64 (omU (omJ (k+1))%12+1)),(52,.pointer (some ⟨g6,1,none⟩)),(51,.bool true),(50,.bool true),(49,.int .i64 (omU (omJ k)/12)),(48,.pointer (some ⟨g4,0,none⟩)),(47,.int .i64 (omU (omJ (k+1))/12)),(46,.pointer (some ⟨g6,0,none⟩)),(8,.int .i64 ((((omL (k+1)-30*omJ (k+1)+1)-(omL k-30*omJ k+1))+30)%30)),(45,.int .i64 ((((omL (k+1)-30*omJ (k+1)+1)-(omL k-30*omJ k+1))+30)%30)),(44,.int .i64 (((omL (k+1)-30*omJ (k+1)+1)-(omL k-30*omJ k+1))+30)),(43,.int .i64 ((omL (k+1)-30*omJ (k+1)+1)-(omL k-30*omJ k+1))),(42,.int .i64 (omL k-30*omJ k+1)),(41,.pointer (some ⟨g4,3,none⟩)),(40,.int .i64 (omL (k+1)-30*omJ (k+1)+1)),(39,.pointer (some ⟨g6,3,none⟩)),(38,.bool false),(37,.bool false),(36,.int .i64 0),(35,.bool false),(34,.bool false),(33,.int .i64 0),(26,.bool false),(25,.int .i64 k),(7,.int .i64 0),(6,.pointer (some ⟨g6,0,none⟩)),(24,.int .i64 0),(23,.agg #[.int .i64 (omU (omJ (k+1))/12),.int .i64 (omU (omJ (k+1))%12+1),.bool (decide (omU (omJ (k+1)+1)=omU (omJ (k+1)))),.int .i64 (omL (k+1)-30*omJ (k+1)+1)]),(19,.tuple #[.agg #[.int .i64 (omU (omJ (k+1))/12),.int .i64 (omU (omJ (k+1))%12+1),.bool (decide (omU (omJ (k+1)+1)=omU (omJ (k+1)))),.int .i64 (omL (k+1)-30*omJ (k+1)+1)],.int .i64 0]),(22,.tuple #[.agg #[.int .i64 (omU (omJ (k+1))/12),.int .i64 (omU (omJ (k+1))%12+1),.bool (decide (omU (omJ (k+1)+1)=omU (omJ (k+1)))),.int .i64 (omL (k+1)-30*omJ (k+1)+1)],.int .i64 0]),(21,.int .i64 (k+1)),(20,.int .i64 k),(5,.int .i64 0),(4,.pointer (some ⟨g4,0,none⟩)),(18,.int .i64 0),(17,.agg #[.int .i64 (omU (omJ k)/12),.int .i64 (omU (omJ k)%12+1),.bool (decide (omU (omJ k+1)=omU (omJ k))),.int .i64 (omL k-30*omJ k+1)]),(14,.tuple #[.agg #[.int .i64 (omU (omJ k)/12),.int .i64 (omU (omJ k)%12+1),.bool (decide (omU (omJ k+1)=omU (omJ k))),.int .i64 (omL k-30*omJ k+1)],.int .i64 0]),(16,.tuple #[.agg #[.int .i64 (omU (omJ k)/12),.int .i64 (omU (omJ k)%12+1),.bool (decide (omU (omJ k+1)=omU (omJ k))),.int .i64 (omL k-30*omJ k+1)],.int .i64 0]),(15,.int .i64 k),(3,.int .i64 k),(13,.int .i64 k),(12,.int .i64 n),(11,.bool false),(10,.bool true),(0,.int .i64 n)]) hF (r_assign (hF.at 0 rfl)) rfl rfl rfl rfl fun a hF=>?_
                         refine E.nil ?_
                         refine wp_ret ?_
                         have bel:=st.bel
                         refine bodyPost_ret (res_tmp Try.results9 (hF.at 0 rfl)) hF.dfr ?_
                         exact⟨rfl,bel⟩))
                   ·first
                    |(exfalso;omega)
                    |(refine E.opvg hF (r_bin (hF.at 0 rfl) ev_c eg_scalar (bi_int (ic_eql (c:=false) (dec_ff hc23)) (by simp))) (wanted_by rfl rfl (hF.at 1 rfl) rfl) rfl rfl rfl fun a hF=>?_
                      refine E.opv hF (r_pick_f (hF.at 2 rfl) (hF.at 0 rfl)) rfl rfl rfl rfl fun a hF=>?_
                      refine E.opv hF (r_move (hF.at 0 rfl)) rfl rfl rfl rfl fun a hF=>?_
                      refine E.unwanted hF (wanted_by rfl rfl (hF.at 0 rfl) rfl) rfl rfl rfl fun a hF=>?_
                      refine E.unwanted hF (wanted_by rfl rfl (hF.at 1 rfl) rfl) rfl rfl rfl fun a hF=>?_
                      refine E.unwanted hF (wanted_by rfl rfl (hF.at 2 rfl) rfl) rfl rfl rfl fun a hF=>?_
                      refine E.unwanted hF (wanted_by rfl rfl (hF.at 3 rfl) rfl) rfl rfl rfl fun a hF=>?_
                      refine E.unwanted hF (wanted_by rfl rfl (hF.at 4 rfl) rfl) rfl rfl rfl fun a hF=>?_
                      refine E.unwanted hF (wanted_by rfl rfl (hF.at 5 rfl) rfl) rfl rfl rfl fun a hF=>?_
                      refine E.unwanted hF (wanted_by rfl rfl (hF.at 6 rfl) rfl) rfl rfl rfl fun a hF=>?_
                      refine E.opv hF (r_pick_f (hF.at 7 rfl) ev_c) rfl rfl rfl rfl fun a hF=>?_
                      refine E.opset (L':=[(2,.bool false),(79,.bool false),(78,undef),(77,undef),(76,undef),(75,undef),(74,undef),(73,undef),(72,undef),(71,.bool false),(70,.bool false),(69,.bool false),(68,.int .i64 ((((omL (k+1)-30*omJ (k+1)+1)-(omL k-30*omJ k+1))+30)%30)),(67,.bool false),(66,.bool false),(65,.int .i64 ((((omL (k+1)-30*omJ (k+1)+1)-(omL k-30*omJ k+1))+30)%30)),(9,.bool false),(64,.bool false),(63,undef),(62,undef),(61,undef),(60,undef),(59,undef),(58,.bool false),(57,.bool false),(56,.bool false),(55,.int .i64 (omU (omJ k)%12+1)),(54,.pointer (some ⟨g4,1,none⟩)),(53,.int .i64 (omU (omJ (k+1))%12+1)),(52,.pointer (some ⟨g6,1,none⟩)),(51,.bool true),(50,.bool true),(49,.int .i64 (omU (omJ k)/12)),(48,.pointer (some ⟨g4,0,none⟩)),(47,.int .i64 (omU (omJ (k+1))/12)),(46,.pointer (some ⟨g6,0,none⟩)),(8,.int .i64 ((((omL (k+1)-30*omJ (k+1)+1)-(omL k-30*omJ k+1))+30)%30)),(45,.int .i64 ((((omL (k+1)-30*omJ (k+1)+1)-(omL k-30*omJ k+1))+30)%30)),(44,.int .i64 (((omL (k+1)-30*omJ (k+1)+1)-(omL k-30*omJ k+1))+30)),(43,.int .i64 ((omL (k+1)-30*omJ (k+1)+1)-(omL k-30*omJ k+1))),(42,.int .i64 (omL k-30*omJ k+1)),(41,.pointer (some ⟨g4,3,none⟩)),(40,.int .i64 (omL (k+1)-30*omJ (k+1)+1)),(39,.pointer (some ⟨g6,3,none⟩)),(38,.bool false),(37,.bool false),(36,.int .i64 0),(35,.bool false),(34,.bool false),(33,.int .i64 0),(26,.bool false),(25,.int .i64 k),(7,.int .i64 0),(6,.pointer (some ⟨g6,0,none⟩)),(24,.int .i64 0),(23,.agg #[.int .i64 (omU (omJ (k+1))/12),.int .i64 (omU (omJ (k+1))%12+1),.bool (decide (omU (omJ (k+1)+1)=omU (omJ (k+1)))),.int .i64 (omL (k+1)-30*omJ (k+1)+1)]),(19,.tuple #[.agg #[.int .i64 (omU (omJ (k+1))/12),.int .i64 (omU (omJ (k+1))%12+1),.bool (decide (omU (omJ (k+1)+1)=omU (omJ (k+1)))),.int .i64 (omL (k+1)-30*omJ (k+1)+1)],.int .i64 0]),(22,.tuple #[.agg #[.int .i64 (omU (omJ (k+1))/12),.int .i64 (omU (omJ (k+1))%12+1),.bool (decide (omU (omJ (k+1)+1)=omU (omJ (k+1)))),.int .i64 (omL (k+1)-30*omJ (k+1)+1)],.int .i64 0]),(21,.int .i64 (k+1)),(20,.int .i64 k),(5,.int .i64 0),(4,.pointer (some ⟨g4,0,none⟩)),(18,.int .i64 0),(17,.agg #[.int .i64 (omU (omJ k)/12),.int .i64 (omU (omJ k)%12+1),.bool (decide (omU (omJ k+1)=omU (omJ k))),.int .i64 (omL k-30*omJ k+1)]),(14,.tuple #[.agg #[.int .i64 (omU (omJ k)/12),.int .i64 (omU (omJ k)%12+1),.bool (decide (omU (omJ k+1)=omU (omJ k))),.int .i64 (omL k-30*omJ k+1)],.int .i64 0]),(16,.tuple #[.agg #[.int .i64 (omU (omJ k)/12),.int .i64 (omU (omJ k)%12+1),.bool (decide (omU (omJ k+1)=omU (omJ k))),.int .i64 (omL k-30*omJ k+1)],.int .i64 0]),(15,.int .i64 k),(3,.int .i64 k),(13,.int .i64 k),(12,.int .i64 n),(11,.bool false),(10,.bool true),(0,.int .i64 n)]) hF (r_assign (hF.at 0 rfl)) rfl rfl rfl rfl fun a hF=>?_
                      refine E.nil ?_
                      refine wp_ret ?_
                      have bel:=st.bel
                      refine bodyPost_ret (res_tmp Try.results9 (hF.at 0 rfl)) hF.dfr ?_
                      exfalso;omega))))
          ·first
           |(exfalso;omega)
           |(refine E.opv hF (r_bin (hF.at 2 rfl) (hF.at 0 rfl) eg_scalar (bi_int (ic_eql (c:=false) (dec_ff hc10)) (by simp))) rfl rfl rfl rfl fun a hF=>?_
             refine E.opv hF (r_move (hF.at 0 rfl)) rfl rfl rfl rfl fun a hF=>?_
             refine E.unwanted hF (wanted_by rfl rfl (hF.at 0 rfl) rfl) rfl rfl rfl fun a hF=>?_
             refine E.unwanted hF (wanted_by rfl rfl (hF.at 1 rfl) rfl) rfl rfl rfl fun a hF=>?_
             refine E.unwanted hF (wanted_by rfl rfl (hF.at 2 rfl) rfl) rfl rfl rfl fun a hF=>?_
             refine E.unwanted hF (wanted_by rfl rfl (hF.at 3 rfl) rfl) rfl rfl rfl fun a hF=>?_
             refine E.unwanted hF (wanted_by rfl rfl (hF.at 4 rfl) rfl) rfl rfl rfl fun a hF=>?_
             refine E.opv hF (r_pick_f (hF.at 5 rfl) ev_c) rfl rfl rfl rfl fun a hF=>?_
             refine E.opv hF (r_move (hF.at 0 rfl)) rfl rfl rfl rfl fun a hF=>?_
             refine E.unwanted hF (wanted_by rfl rfl (hF.at 0 rfl) rfl) rfl rfl rfl fun a hF=>?_
             refine E.unwanted hF (wanted_by rfl rfl (hF.at 1 rfl) rfl) rfl rfl rfl fun a hF=>?_
             refine E.unwanted hF (wanted_by rfl rfl (hF.at 2 rfl) rfl) rfl rfl rfl fun a hF=>?_
             refine E.unwanted hF (wanted_by rfl rfl (hF.at 3 rfl) rfl) rfl rfl rfl fun a hF=>?_
             refine E.unwanted hF (wanted_by rfl rfl (hF.at 4 rfl) rfl) rfl rfl rfl fun a hF=>?_
             refine E.opv hF (r_pick_f (hF.at 5 rfl) ev_c) rfl rfl rfl rfl fun a hF=>?_
             refine E.opv hF (r_assign (hF.at 0 rfl)) rfl rfl rfl rfl fun a hF=>?_
             refine E.nil ?_
             refine wp_seq ?_
             refine E.seq ?_
             refine E.opv hF (r_move (hF.at 20 rfl)) rfl rfl rfl rfl fun a hF=>?_
             by_cases hc25:(((omL (k+1)-30*omJ (k+1)+1)-(omL k-30*omJ k+1))+30)%30=1
             ·first
              |(exfalso;omega)
              |(refine E.opv hF (r_bin (hF.at 0 rfl) ev_c eg_scalar (bi_int (ic_eql (c:=true) (dec_tt hc25)) (by simp))) rfl rfl rfl rfl fun a hF=>?_
                refine E.opv hF (r_move (hF.at 0 rfl)) rfl rfl rfl rfl fun a hF=>?_
                refine E.unwanted hF (wanted_by rfl rfl (hF.at 0 rfl) rfl) rfl rfl rfl fun a hF=>?_
                refine E.unwanted hF (wanted_by rfl rfl (hF.at 1 rfl) rfl) rfl rfl rfl fun a hF=>?_
                refine E.opv hF (r_pick_t (hF.at 2 rfl) ev_c) rfl rfl rfl rfl fun a hF=>?_
                refine E.opv hF (r_move (hF.at 0 rfl)) rfl rfl rfl rfl fun a hF=>?_
                refine E.opvg hF (r_move (hF.at 7 rfl)) (wanted_by rfl rfl (hF.at 0 rfl) rfl) rfl rfl rfl fun a hF=>?_
                refine E.opvg hF (r_field (hF.at 45 rfl) (fa_OMD_3 (p:=3) rfl)) (wanted_by rfl rfl (hF.at 1 rfl) rfl) rfl rfl rfl fun a hF=>?_
                refine E.opvg hF (r_load (hF.at 0 rfl) (ldb_int (v:= .int .i64 (omL (k+1)-30*omJ (k+1)+1)) (st.bk 0 rfl) rfl)) (wanted_by rfl rfl (hF.at 2 rfl) rfl) rfl rfl rfl fun a hF=>?_
                refine E.opvg hF (r_field (hF.at 55 rfl) (fa_OMD_3 (p:=3) rfl)) (wanted_by rfl rfl (hF.at 3 rfl) rfl) rfl rfl rfl fun a hF=>?_
                refine E.opvg hF (r_load (hF.at 0 rfl) (ldb_int (v:= .int .i64 (omL k-30*omJ k+1)) (st.bk 1 rfl) rfl)) (wanted_by rfl rfl (hF.at 4 rfl) rfl) rfl rfl rfl fun a hF=>?_
                by_cases hc26:omL k-30*omJ k+1<omL (k+1)-30*omJ (k+1)+1
                ·first
                 |(exfalso;omega)
                 |(refine E.opvg hF (r_bin (hF.at 2 rfl) (hF.at 0 rfl) eg_scalar (bi_int (ic_gtr (c:=true) (dec_tt hc26)) (by simp))) (wanted_by rfl rfl (hF.at 5 rfl) rfl) rfl rfl rfl fun a hF=>?_
                   refine E.opvg hF (r_bin (hF.at 5 rfl) (hF.at 0 rfl) eg_bool (bb_eql (d:=false) rfl)) (wanted_by rfl rfl (hF.at 6 rfl) rfl) rfl rfl rfl fun a hF=>?_
                   refine E.opv hF (r_pick_t (hF.at 7 rfl) (hF.at 0 rfl)) rfl rfl rfl rfl fun a hF=>?_
                   refine E.opset (L':=[(2,.bool false),(79,.bool false),(78,.bool false),(77,.bool true),(76,.int .i64 (omL k-30*omJ k+1)),(75,.pointer (some ⟨g4,3,none⟩)),(74,.int .i64 (omL (k+1)-30*omJ (k+1)+1)),(73,.pointer (some ⟨g6,3,none⟩)),(72,.bool false),(71,.bool true),(70,.bool true),(69,undef),(68,undef),(67,.bool true),(66,.bool true),(65,.int .i64 ((((omL (k+1)-30*omJ (k+1)+1)-(omL k-30*omJ k+1))+30)%30)),(9,.bool false),(64,.bool false),(63,undef),(62,undef),(61,undef),(60,undef),(59,undef),(58,.bool false),(57,.bool false),(56,undef),(55,undef),(54,undef),(53,undef),(52,undef),(51,.bool false),(50,.bool false),(49,.int .i64 (omU (omJ k)/12)),(48,.pointer (some ⟨g4,0,none⟩)),(47,.int .i64 (omU (omJ (k+1))/12)),(46,.pointer (some ⟨g6,0,none⟩)),(8,.int .i64 ((((omL (k+1)-30*omJ (k+1)+1)-(omL k-30*omJ k+1))+30)%30)),(45,.int .i64 ((((omL (k+1)-30*omJ (k+1)+1)-(omL k-30*omJ k+1))+30)%30)),(44,.int .i64 (((omL (k+1)-30*omJ (k+1)+1)-(omL k-30*omJ k+1))+30)),(43,.int .i64 ((omL (k+1)-30*omJ (k+1)+1)-(omL k-30*omJ k+1))),(42,.int .i64 (omL k-30*omJ k+1)),(41,.pointer (some ⟨g4,3,none⟩)),(40,.int .i64 (omL (k+1)-30*omJ (k+1)+1)),(39,.pointer (some ⟨g6,3,none⟩)),(38,.bool false),(37,.bool false),(36,.int .i64 0),(35,.bool false),(34,.bool false),(33,.int .i64 0),(26,.bool false),(25,.int .i64 k),(7,.int .i64 0),(6,.pointer (some ⟨g6,0,none⟩)),(24,.int .i64 0),(23,.agg #[.int .i64 (omU (omJ (k+1))/12),.int .i64 (omU (omJ (k+1))%12+1),.bool (decide (omU (omJ (k+1)+1)=omU (omJ (k+1)))),.int .i64 (omL (k+1)-30*omJ (k+1)+1)]),(19,.tuple #[.agg #[.int .i64 (omU (omJ (k+1))/12),.int .i64 (omU (omJ (k+1))%12+1),.bool (decide (omU (omJ (k+1)+1)=omU (omJ (k+1)))),.int .i64 (omL (k+1)-30*omJ (k+1)+1)],.int .i64 0]),(22,.tuple #[.agg #[.int .i64 (omU (omJ (k+1))/12),.int .i64 (omU (omJ (k+1))%12+1),.bool (decide (omU (omJ (k+1)+1)=omU (omJ (k+1)))),.int .i64 (omL (k+1)-30*omJ (k+1)+1)],.int .i64 0]),(21,.int .i64 (k+1)),(20,.int .i64 k),(5,.int .i64 0),(4,.pointer (some ⟨g4,0,none⟩)),(18,.int .i64 0),(17,.agg #[.int .i64 (omU (omJ k)/12),.int .i64 (omU (omJ k)%12+1),.bool (decide (omU (omJ k+1)=omU (omJ k))),.int .i64 (omL k-30*omJ k+1)]),(14,.tuple #[.agg #[.int .i64 (omU (omJ k)/12),.int .i64 (omU (omJ k)%12+1),.bool (decide (omU (omJ k+1)=omU (omJ k))),.int .i64 (omL k-30*omJ k+1)],.int .i64 0]),(16,.tuple #[.agg #[.int .i64 (omU (omJ k)/12),.int .i64 (omU (omJ k)%12+1),.bool (decide (omU (omJ k+1)=omU (omJ k))),.int .i64 (omL k-30*omJ k+1)],.int .i64 0]),(15,.int .i64 k),(3,.int .i64 k),(13,.int .i64 k),(12,.int .i64 n),(11,.bool false),(10,.bool true),(0,.int .i64 n)]) hF (r_assign (hF.at 0 rfl)) rfl rfl rfl rfl fun a hF=>?_
                   refine E.nil ?_
                   refine wp_ret ?_
                   have bel:=st.bel
                   refine bodyPost_ret (res_tmp Try.results9 (hF.at 0 rfl)) hF.dfr ?_
                   exfalso;omega)
                ·first
                 |(exfalso;omega)
                 |(refine E.opvg hF (r_bin (hF.at 2 rfl) (hF.at 0 rfl) eg_scalar (bi_int (ic_gtr (c:=false) (dec_ff hc26)) (by simp))) (wanted_by rfl rfl (hF.at 5 rfl) rfl) rfl rfl rfl fun a hF=>?_
                   refine E.opvg hF (r_bin (hF.at 5 rfl) (hF.at 0 rfl) eg_bool (bb_eql (d:=true) rfl)) (wanted_by rfl rfl (hF.at 6 rfl) rfl) rfl rfl rfl fun a hF=>?_
                   refine E.opv hF (r_pick_t (hF.at 7 rfl) (hF.at 0 rfl)) rfl rfl rfl rfl fun a hF=>?_
                   refine E.opset (L':=[(2,.bool true),(79,.bool true),(78,.bool true),(77,.bool false),(76,.int .i64 (omL k-30*omJ k+1)),(75,.pointer (some ⟨g4,3,none⟩)),(74,.int .i64 (omL (k+1)-30*omJ (k+1)+1)),(73,.pointer (some ⟨g6,3,none⟩)),(72,.bool false),(71,.bool true),(70,.bool true),(69,undef),(68,undef),(67,.bool true),(66,.bool true),(65,.int .i64 ((((omL (k+1)-30*omJ (k+1)+1)-(omL k-30*omJ k+1))+30)%30)),(9,.bool false),(64,.bool false),(63,undef),(62,undef),(61,undef),(60,undef),(59,undef),(58,.bool false),(57,.bool false),(56,undef),(55,undef),(54,undef),(53,undef),(52,undef),(51,.bool false),(50,.bool false),(49,.int .i64 (omU (omJ k)/12)),(48,.pointer (some ⟨g4,0,none⟩)),(47,.int .i64 (omU (omJ (k+1))/12)),(46,.pointer (some ⟨g6,0,none⟩)),(8,.int .i64 ((((omL (k+1)-30*omJ (k+1)+1)-(omL k-30*omJ k+1))+30)%30)),(45,.int .i64 ((((omL (k+1)-30*omJ (k+1)+1)-(omL k-30*omJ k+1))+30)%30)),(44,.int .i64 (((omL (k+1)-30*omJ (k+1)+1)-(omL k-30*omJ k+1))+30)),(43,.int .i64 ((omL (k+1)-30*omJ (k+1)+1)-(omL k-30*omJ k+1))),(42,.int .i64 (omL k-30*omJ k+1)),(41,.pointer (some ⟨g4,3,none⟩)),(40,.int .i64 (omL (k+1)-30*omJ (k+1)+1)),(39,.pointer (some ⟨g6,3,none⟩)),(38,.bool false),(37,.bool false),(36,.int .i64 0),(35,.bool false),(34,.bool false),(33,.int .i64 0),(26,.bool false),(25,.int .i64 k),(7,.int .i64 0),(6,.pointer (some ⟨g6,0,none⟩)),(24,.int .i64 0),(23,.agg #[.int .i64 (omU (omJ (k+1))/12),.int .i64 (omU (omJ (k+1))%12+1),.bool (decide (omU (omJ (k+1)+1)=omU (omJ (k+1)))),.int .i64 (omL (k+1)-30*omJ (k+1)+1)]),(19,.tuple #[.agg #[.int .i64 (omU (omJ (k+1))/12),.int .i64 (omU (omJ (k+1))%12+1),.bool (decide (omU (omJ (k+1)+1)=omU (omJ (k+1)))),.int .i64 (omL (k+1)-30*omJ (k+1)+1)],.int .i64 0]),(22,.tuple #[.agg #[.int .i64 (omU (omJ (k+1))/12),.int .i64 (omU (omJ (k+1))%12+1),.bool (decide (omU (omJ (k+1)+1)=omU (omJ (k+1)))),.int .i64 (omL (k+1)-30*omJ (k+1)+1)],.int .i64 0]),(21,.int .i64 (k+1)),(20,.int .i64 k),(5,.int .i64 0),(4,.pointer (some ⟨g4,0,none⟩)),(18,.int .i64 0),(17,.agg #[.int .i64 (omU (omJ k)/12),.int .i64 (omU (omJ k)%12+1),.bool (decide (omU (omJ k+1)=omU (omJ k))),.int .i64 (omL k-30*omJ k+1)]),(14,.tuple #[.agg #[.int .i64 (omU (omJ k)/12),.int .i64 (omU (omJ k)%12+1),.bool (decide (omU (omJ k+1)=omU (omJ k))),.int .i64 (omL k-30*omJ k+1)],.int .i64 0]),(16,.tuple #[.agg #[.int .i64 (omU (omJ k)/12),.int .i64 (omU (omJ k)%12+1),.bool (decide (omU (omJ k+1)=omU (omJ k))),.int .i64 (omL k-30*omJ k+1)],.int .i64 0]),(15,.int .i64 k),(3,.int .i64 k),(13,.int .i64 k),(12,.int .i64 n),(11,.bool false),(10,.bool true),(0,.int .i64 n)]) hF (r_assign (hF.at 0 rfl)) rfl rfl rfl rfl fun a hF=>?_
                   refine E.nil ?_
                   refine wp_ret ?_
                   have bel:=st.bel
                   refine bodyPost_ret (res_tmp Try.results9 (hF.at 0 rfl)) hF.dfr ?_
                   exact⟨rfl,bel⟩))
             ·first
              |(exfalso;omega)
              |(refine E.opv hF (r_bin (hF.at 0 rfl) ev_c eg_scalar (bi_int (ic_eql (c:=false) (dec_ff hc25)) (by simp))) rfl rfl rfl rfl fun a hF=>?_
                refine E.opv hF (r_move (hF.at 0 rfl)) rfl rfl rfl rfl fun a hF=>?_
                refine E.opvg hF (r_move (hF.at 23 rfl)) (wanted_by rfl rfl (hF.at 0 rfl) rfl) rfl rfl rfl fun a hF=>?_
                by_cases hc27:(((omL (k+1)-30*omJ (k+1)+1)-(omL k-30*omJ k+1))+30)%30=2
                ·first
                 |(exfalso;omega)
                 |(refine E.opvg hF (r_bin (hF.at 0 rfl) ev_c eg_scalar (bi_int (ic_eql (c:=true) (dec_tt hc27)) (by simp))) (wanted_by rfl rfl (hF.at 1 rfl) rfl) rfl rfl rfl fun a hF=>?_
                   refine E.opv hF (r_pick_f (hF.at 2 rfl) (hF.at 0 rfl)) rfl rfl rfl rfl fun a hF=>?_
                   refine E.opv hF (r_move (hF.at 0 rfl)) rfl rfl rfl rfl fun a hF=>?_
                   refine E.opvg hF (r_move (hF.at 7 rfl)) (wanted_by rfl rfl (hF.at 0 rfl) rfl) rfl rfl rfl fun a hF=>?_
                   refine E.opvg hF (r_field (hF.at 45 rfl) (fa_OMD_3 (p:=3) rfl)) (wanted_by rfl rfl (hF.at 1 rfl) rfl) rfl rfl rfl fun a hF=>?_
                   refine E.opvg hF (r_load (hF.at 0 rfl) (ldb_int (v:= .int .i64 (omL (k+1)-30*omJ (k+1)+1)) (st.bk 0 rfl) rfl)) (wanted_by rfl rfl (hF.at 2 rfl) rfl) rfl rfl rfl fun a hF=>?_
                   refine E.opvg hF (r_field (hF.at 55 rfl) (fa_OMD_3 (p:=3) rfl)) (wanted_by rfl rfl (hF.at 3 rfl) rfl) rfl rfl rfl fun a hF=>?_
                   refine E.opvg hF (r_load (hF.at 0 rfl) (ldb_int (v:= .int .i64 (omL k-30*omJ k+1)) (st.bk 1 rfl) rfl)) (wanted_by rfl rfl (hF.at 4 rfl) rfl) rfl rfl rfl fun a hF=>?_
                   by_cases hc28:omL k-30*omJ k+1<omL (k+1)-30*omJ (k+1)+1
                   ·first
                    |(exfalso;omega)
                    |(refine E.opvg hF (r_bin (hF.at 2 rfl) (hF.at 0 rfl) eg_scalar (bi_int (ic_gtr (c:=true) (dec_tt hc28)) (by simp))) (wanted_by rfl rfl (hF.at 5 rfl) rfl) rfl rfl rfl fun a hF=>?_
                      refine E.opvg hF (r_bin (hF.at 5 rfl) (hF.at 0 rfl) eg_bool (bb_eql (d:=false) rfl)) (wanted_by rfl rfl (hF.at 6 rfl) rfl) rfl rfl rfl fun a hF=>?_
                      refine E.opv hF (r_pick_t (hF.at 7 rfl) (hF.at 0 rfl)) rfl rfl rfl rfl fun a hF=>?_
                      refine E.opset (L':=[(2,.bool false),(79,.bool false),(78,.bool false),(77,.bool true),(76,.int .i64 (omL k-30*omJ k+1)),(75,.pointer (some ⟨g4,3,none⟩)),(74,.int .i64 (omL (k+1)-30*omJ (k+1)+1)),(73,.pointer (some ⟨g6,3,none⟩)),(72,.bool false),(71,.bool true),(70,.bool true),(69,.bool true),(68,.int .i64 ((((omL (k+1)-30*omJ (k+1)+1)-(omL k-30*omJ k+1))+30)%30)),(67,.bool false),(66,.bool false),(65,.int .i64 ((((omL (k+1)-30*omJ (k+1)+1)-(omL k-30*omJ k+1))+30)%30)),(9,.bool false),(64,.bool false),(63,undef),(62,undef),(61,undef),(60,undef),(59,undef),(58,.bool false),(57,.bool false),(56,undef),(55,undef),(54,undef),(53,undef),(52,undef),(51,.bool false),(50,.bool false),(49,.int .i64 (omU (omJ k)/12)),(48,.pointer (some ⟨g4,0,none⟩)),(47,.int .i64 (omU (omJ (k+1))/12)),(46,.pointer (some ⟨g6,0,none⟩)),(8,.int .i64 ((((omL (k+1)-30*omJ (k+1)+1)-(omL k-30*omJ k+1))+30)%30)),(45,.int .i64 ((((omL (k+1)-30*omJ (k+1)+1)-(omL k-30*omJ k+1))+30)%30)),(44,.int .i64 (((omL (k+1)-30*omJ (k+1)+1)-(omL k-30*omJ k+1))+30)),(43,.int .i64 ((omL (k+1)-30*omJ (k+1)+1)-(omL k-30*omJ k+1))),(42,.int .i64 (omL k-30*omJ k+1)),(41,.pointer (some ⟨g4,3,none⟩)),(40,.int .i64 (omL (k+1)-30*omJ (k+1)+1)),(39,.pointer (some ⟨g6,3,none⟩)),(38,.bool false),(37,.bool false),(36,.int .i64 0),(35,.bool false),(34,.bool false),(33,.int .i64 0),(26,.bool false),(25,.int .i64 k),(7,.int .i64 0),(6,.pointer (some ⟨g6,0,none⟩)),(24,.int .i64 0),(23,.agg #[.int .i64 (omU (omJ (k+1))/12),.int .i64 (omU (omJ (k+1))%12+1),.bool (decide (omU (omJ (k+1)+1)=omU (omJ (k+1)))),.int .i64 (omL (k+1)-30*omJ (k+1)+1)]),(19,.tuple #[.agg #[.int .i64 (omU (omJ (k+1))/12),.int .i64 (omU (omJ (k+1))%12+1),.bool (decide (omU (omJ (k+1)+1)=omU (omJ (k+1)))),.int .i64 (omL (k+1)-30*omJ (k+1)+1)],.int .i64 0]),(22,.tuple #[.agg #[.int .i64 (omU (omJ (k+1))/12),.int .i64 (omU (omJ (k+1))%12+1),.bool (decide (omU (omJ (k+1)+1)=omU (omJ (k+1)))),.int .i64 (omL (k+1)-30*omJ (k+1)+1)],.int .i64 0]),(21,.int .i64 (k+1)),(20,.int .i64 k),(5,.int .i64 0),(4,.pointer (some ⟨g4,0,none⟩)),(18,.int .i64 0),(17,.agg #[.int .i64 (omU (omJ k)/12),.int .i64 (omU (omJ k)%12+1),.bool (decide (omU (omJ k+1)=omU (omJ k))),.int .i64 (omL k-30*omJ k+1)]),(14,.tuple #[.agg #[.int .i64 (omU (omJ k)/12),.int .i64 (omU (omJ k)%12+1),.bool (decide (omU (omJ k+1)=omU (omJ k))),.int .i64 (omL k-30*omJ k+1)],.int .i64 0]),(16,.tuple #[.agg #[.int .i64 (omU (omJ k)/12),.int .i64 (omU (omJ k)%12+1),.bool (decide (omU (omJ k+1)=omU (omJ k))),.int .i64 (omL k-30*omJ k+1)],.int .i64 0]),(15,.int .i64 k),(3,.int .i64 k),(13,.int .i64 k),(12,.int .i64 n),(11,.bool false),(10,.bool true),(0,.int .i64 n)]) hF (r_assign (hF.at 0 rfl)) rfl rfl rfl rfl fun a hF=>?_
                      refine E.nil ?_
                      refine wp_ret ?_
                      have bel:=st.bel
                      refine bodyPost_ret (res_tmp Try.results9 (hF.at 0 rfl)) hF.dfr ?_
                      exfalso;omega)
                   ·first
                    |(exfalso;omega)
                    |(refine E.opvg hF (r_bin (hF.at 2 rfl) (hF.at 0 rfl) eg_scalar (bi_int (ic_gtr (c:=false) (dec_ff hc28)) (by simp))) (wanted_by rfl rfl (hF.at 5 rfl) rfl) rfl rfl rfl fun a hF=>?_
                      refine E.opvg hF (r_bin (hF.at 5 rfl) (hF.at 0 rfl) eg_bool (bb_eql (d:=true) rfl)) (wanted_by rfl rfl (hF.at 6 rfl) rfl) rfl rfl rfl fun a hF=>?_
                      refine E.opv hF (r_pick_t (hF.at 7 rfl) (hF.at 0 rfl)) rfl rfl rfl rfl fun a hF=>?_
                      refine E.opset (L':=[(2,.bool true),(79,.bool true),(78,.bool true),(77,.bool false),(76,.int .i64 (omL k-30*omJ k+1)),(75,.pointer (some ⟨g4,3,none⟩)),(74,.int .i64 (omL (k+1)-30*omJ (k+1)+1)),(73,.pointer (some ⟨g6,3,none⟩)),(72,.bool false),(71,.bool true),(70,.bool true),(69,.bool true),(68,.int .i64 ((((omL (k+1)-30*omJ (k+1)+1)-(omL k-30*omJ k+1))+30)%30)),(67,.bool false),(66,.bool false),(65,.int .i64 ((((omL (k+1)-30*omJ (k+1)+1)-(omL k-30*omJ k+1))+30)%30)),(9,.bool false),(64,.bool false),(63,undef),(62,undef),(61,undef),(60,undef),(59,undef),(58,.bool false),(57,.bool false),(56,undef),(55,undef),(54,undef),(53,undef),(52,undef),(51,.bool false),(50,.bool false),(49,.int .i64 (omU (omJ k)/12)),(48,.pointer (some ⟨g4,0,none⟩)),(47,.int .i64 (omU (omJ (k+1))/12)),(46,.pointer (some ⟨g6,0,none⟩)),(8,.int .i64 ((((omL (k+1)-30*omJ (k+1)+1)-(omL k-30*omJ k+1))+30)%30)),(45,.int .i64 ((((omL (k+1)-30*omJ (k+1)+1)-(omL k-30*omJ k+1))+30)%30)),(44,.int .i64 (((omL (k+1)-30*omJ (k+1)+1)-(omL k-30*omJ k+1))+30)),(43,.int .i64 ((omL (k+1)-30*omJ (k+1)+1)-(omL k-30*omJ k+1))),(42,.int .i64 (omL k-30*omJ k+1)),(41,.pointer (some ⟨g4,3,none⟩)),(40,.int .i64 (omL (k+1)-30*omJ (k+1)+1)),(39,.pointer (some ⟨g6,3,none⟩)),(38,.bool false),(37,.bool false),(36,.int .i64 0),(35,.bool false),(34,.bool false),(33,.int .i64 0),(26,.bool false),(25,.int .i64 k),(7,.int .i64 0),(6,.pointer (some ⟨g6,0,none⟩)),(24,.int .i64 0),(23,.agg #[.int .i64 (omU (omJ (k+1))/12),.int .i64 (omU (omJ (k+1))%12+1),.bool (decide (omU (omJ (k+1)+1)=omU (omJ (k+1)))),.int .i64 (omL (k+1)-30*omJ (k+1)+1)]),(19,.tuple #[.agg #[.int .i64 (omU (omJ (k+1))/12),.int .i64 (omU (omJ (k+1))%12+1),.bool (decide (omU (omJ (k+1)+1)=omU (omJ (k+1)))),.int .i64 (omL (k+1)-30*omJ (k+1)+1)],.int .i64 0]),(22,.tuple #[.agg #[.int .i64 (omU (omJ (k+1))/12),.int .i64 (omU (omJ (k+1))%12+1),.bool (decide (omU (omJ (k+1)+1)=omU (omJ (k+1)))),.int .i64 (omL (k+1)-30*omJ (k+1)+1)],.int .i64 0]),(21,.int .i64 (k+1)),(20,.int .i64 k),(5,.int .i64 0),(4,.pointer (some ⟨g4,0,none⟩)),(18,.int .i64 0),(17,.agg #[.int .i64 (omU (omJ k)/12),.int .i64 (omU (omJ k)%12+1),.bool (decide (omU (omJ k+1)=omU (omJ k))),.int .i64 (omL k-30*omJ k+1)]),(14,.tuple #[.agg #[.int .i64 (omU (omJ k)/12),.int .i64 (omU (omJ k)%12+1),.bool (decide (omU (omJ k+1)=omU (omJ k))),.int .i64 (omL k-30*omJ k+1)],.int .i64 0]),(16,.tuple #[.agg #[.int .i64 (omU (omJ k)/12),.int .i64 (omU (omJ k)%12+1),.bool (decide (omU (omJ k+1)=omU (omJ k))),.int .i64 (omL k-30*omJ k+1)],.int .i64 0]),(15,.int .i64 k),(3,.int .i64 k),(13,.int .i64 k),(12,.int .i64 n),(11,.bool false),(10,.bool true),(0,.int .i64 n)]) hF (r_assign (hF.at 0 rfl)) rfl rfl rfl rfl fun a hF=>?_
                      refine E.nil ?_
                      refine wp_ret ?_
                      have bel:=st.bel
                      refine bodyPost_ret (res_tmp Try.results9 (hF.at 0 rfl)) hF.dfr ?_
                      exact⟨rfl,bel⟩))
                ·first
                 |(exfalso;omega)
                 |(refine E.opvg hF (r_bin (hF.at 0 rfl) ev_c eg_scalar (bi_int (ic_eql (c:=false) (dec_ff hc27)) (by simp))) (wanted_by rfl rfl (hF.at 1 rfl) rfl) rfl rfl rfl fun a hF=>?_
                   refine E.opv hF (r_pick_f (hF.at 2 rfl) (hF.at 0 rfl)) rfl rfl rfl rfl fun a hF=>?_
                   refine E.opv hF (r_move (hF.at 0 rfl)) rfl rfl rfl rfl fun a hF=>?_
                   refine E.unwanted hF (wanted_by rfl rfl (hF.at 0 rfl) rfl) rfl rfl rfl fun a hF=>?_
                   refine E.unwanted hF (wanted_by rfl rfl (hF.at 1 rfl) rfl) rfl rfl rfl fun a hF=>?_
                   refine E.unwanted hF (wanted_by rfl rfl (hF.at 2 rfl) rfl) rfl rfl rfl fun a hF=>?_
                   refine E.unwanted hF (wanted_by rfl rfl (hF.at 3 rfl) rfl) rfl rfl rfl fun a hF=>?_
                   refine E.unwanted hF (wanted_by rfl rfl (hF.at 4 rfl) rfl) rfl rfl rfl fun a hF=>?_
                   refine E.unwanted hF (wanted_by rfl rfl (hF.at 5 rfl) rfl) rfl rfl rfl fun a hF=>?_
                   refine E.unwanted hF (wanted_by rfl rfl (hF.at 6 rfl) rfl) rfl rfl rfl fun a hF=>?_
                   refine E.opv hF (r_pick_f (hF.at 7 rfl) ev_c) rfl rfl rfl rfl fun a hF=>?_
                   refine E.opset (L':=[(2,.bool false),(79,.bool false),(78,undef),(77,undef),(76,undef),(75,undef),(74,undef),(73,undef),(72,undef),(71,.bool false),(70,.bool false),(69,.bool false),(68,.int .i64 ((((omL (k+1)-30*omJ (k+1)+1)-(omL k-30*omJ k+1))+30)%30)),(67,.bool false),(66,.bool false),(65,.int .i64 ((((omL (k+1)-30*omJ (k+1)+1)-(omL k-30*omJ k+1))+30)%30)),(9,.bool false),(64,.bool false),(63,undef),(62,undef),(61,undef),(60,undef),(59,undef),(58,.bool false),(57,.bool false),(56,undef),(55,undef),(54,undef),(53,undef),(52,undef),(51,.bool false),(50,.bool false),(49,.int .i64 (omU (omJ k)/12)),(48,.pointer (some ⟨g4,0,none⟩)),(47,.int .i64 (omU (omJ (k+1))/12)),(46,.pointer (some ⟨g6,0,none⟩)),(8,.int .i64 ((((omL (k+1)-30*omJ (k+1)+1)-(omL k-30*omJ k+1))+30)%30)),(45,.int .i64 ((((omL (k+1)-30*omJ (k+1)+1)-(omL k-30*omJ k+1))+30)%30)),(44,.int .i64 (((omL (k+1)-30*omJ (k+1)+1)-(omL k-30*omJ k+1))+30)),(43,.int .i64 ((omL (k+1)-30*omJ (k+1)+1)-(omL k-30*omJ k+1))),(42,.int .i64 (omL k-30*omJ k+1)),(41,.pointer (some ⟨g4,3,none⟩)),(40,.int .i64 (omL (k+1)-30*omJ (k+1)+1)),(39,.pointer (some ⟨g6,3,none⟩)),(38,.bool false),(37,.bool false),(36,.int .i64 0),(35,.bool false),(34,.bool false),(33,.int .i64 0),(26,.bool false),(25,.int .i64 k),(7,.int .i64 0),(6,.pointer (some ⟨g6,0,none⟩)),(24,.int .i64 0),(23,.agg #[.int .i64 (omU (omJ (k+1))/12),.int .i64 (omU (omJ (k+1))%12+1),.bool (decide (omU (omJ (k+1)+1)=omU (omJ (k+1)))),.int .i64 (omL (k+1)-30*omJ (k+1)+1)]),(19,.tuple #[.agg #[.int .i64 (omU (omJ (k+1))/12),.int .i64 (omU (omJ (k+1))%12+1),.bool (decide (omU (omJ (k+1)+1)=omU (omJ (k+1)))),.int .i64 (omL (k+1)-30*omJ (k+1)+1)],.int .i64 0]),(22,.tuple #[.agg #[.int .i64 (omU (omJ (k+1))/12),.int .i64 (omU (omJ (k+1))%12+1),.bool (decide (omU (omJ (k+1)+1)=omU (omJ (k+1)))),.int .i64 (omL (k+1)-30*omJ (k+1)+1)],.int .i64 0]),(21,.int .i64 (k+1)),(20,.int .i64 k),(5,.int .i64 0),(4,.pointer (some ⟨g4,0,none⟩)),(18,.int .i64 0),(17,.agg #[.int .i64 (omU (omJ k)/12),.int .i64 (omU (omJ k)%12+1),.bool (decide (omU (omJ k+1)=omU (omJ k))),.int .i64 (omL k-30*omJ k+1)]),(14,.tuple #[.agg #[.int .i64 (omU (omJ k)/12),.int .i64 (omU (omJ k)%12+1),.bool (decide (omU (omJ k+1)=omU (omJ k))),.int .i64 (omL k-30*omJ k+1)],.int .i64 0]),(16,.tuple #[.agg #[.int .i64 (omU (omJ k)/12),.int .i64 (omU (omJ k)%12+1),.bool (decide (omU (omJ k+1)=omU (omJ k))),.int .i64 (omL k-30*omJ k+1)],.int .i64 0]),(15,.int .i64 k),(3,.int .i64 k),(13,.int .i64 k),(12,.int .i64 n),(11,.bool false),(10,.bool true),(0,.int .i64 n)]) hF (r_assign (hF.at 0 rfl)) rfl rfl rfl rfl fun a hF=>?_
                   refine E.nil ?_
                   refine wp_ret ?_
                   have bel:=st.bel
                   refine bodyPost_ret (res_tmp Try.results9 (hF.at 0 rfl)) hF.dfr ?_
                   exfalso;omega)))))
    ·first
     |(exfalso;omega)
     |(refine S.callx st hF (r_call Try.func25 en25.1 en25.2 (map1 (hF.at 0 rfl))) (omOfX_any (k+1) _ (by omega)) rfl rfl rfl rfl fun w29 a st hF=>?_
       refine E.opv hF (r_move (hF.at 0 rfl)) rfl rfl rfl rfl fun a hF=>?_
       refine E.opv hF (r_extract (v:= .agg #[.int .i64 0,.int .i64 0,.bool false,.int .i64 0]) (hF.at 0 rfl) rfl) rfl rfl rfl rfl fun a hF=>?_
       refine E.opv hF (r_extract (v:= .int .i64 2) (hF.at 1 rfl) rfl) rfl rfl rfl rfl fun a hF=>?_
       refine S.new st hF 1 rfl ty_OMD rfl rfl rfl rfl rfl fun g6 w30 a st hF=>?_
       refine E.opv hF (r_assign (hF.at 1 rfl)) rfl rfl rfl rfl fun a hF=>?_
       refine E.nil ?_
       refine wp_seq ?_
       refine wp_seq ?_
       refine E.seq ?_
       refine E.opv hF (r_move (hF.at 15 rfl)) rfl rfl rfl rfl fun a hF=>?_
       by_cases hc31:k=3000000
       ·first
        |(exfalso;omega)
        |(refine E.opv hF (r_bin (hF.at 0 rfl) ev_c eg_scalar (bi_int (ic_eql (c:=true) (dec_tt hc31)) (by simp))) rfl rfl rfl rfl fun a hF=>?_
          refine E.nil ?_
          refine wp_cond_true (hF.at 0 rfl) ?_
          refine wp_seq ?_
          refine E.seq ?_
          refine E.opv hF (r_move (hF.at 10 rfl)) rfl rfl rfl rfl fun a hF=>?_
          refine E.opv hF (r_bin (hF.at 0 rfl) ev_c eg_scalar (bi_int (ic_eql (c:=true) (by decide)) (by simp))) rfl rfl rfl rfl fun a hF=>?_
          refine E.opv hF (r_move (hF.at 0 rfl)) rfl rfl rfl rfl fun a hF=>?_
          refine E.opvg hF (r_move (hF.at 5 rfl)) (wanted_by rfl rfl (hF.at 0 rfl) rfl) rfl rfl rfl fun a hF=>?_
          refine E.opvg hF (r_bin (hF.at 0 rfl) ev_c eg_scalar (bi_int (ic_eql (c:=true) (by decide)) (by simp))) (wanted_by rfl rfl (hF.at 1 rfl) rfl) rfl rfl rfl fun a hF=>?_
          refine E.opv hF (r_pick_t (hF.at 2 rfl) (hF.at 0 rfl)) rfl rfl rfl rfl fun a hF=>?_
          refine E.opset (L':=[(2,.bool true),(32,.bool true),(31,.bool true),(30,.int .i64 2),(29,.bool true),(28,.bool true),(27,.int .i64 0),(26,.bool true),(25,.int .i64 k),(7,.int .i64 2),(6,.pointer (some ⟨g6,0,none⟩)),(24,.int .i64 2),(23,.agg #[.int .i64 0,.int .i64 0,.bool false,.int .i64 0]),(19,.tuple #[.agg #[.int .i64 0,.int .i64 0,.bool false,.int .i64 0],.int .i64 2]),(22,.tuple #[.agg #[.int .i64 0,.int .i64 0,.bool false,.int .i64 0],.int .i64 2]),(21,.int .i64 (k+1)),(20,.int .i64 k),(5,.int .i64 0),(4,.pointer (some ⟨g4,0,none⟩)),(18,.int .i64 0),(17,.agg #[.int .i64 (omU (omJ k)/12),.int .i64 (omU (omJ k)%12+1),.bool (decide (omU (omJ k+1)=omU (omJ k))),.int .i64 (omL k-30*omJ k+1)]),(14,.tuple #[.agg #[.int .i64 (omU (omJ k)/12),.int .i64 (omU (omJ k)%12+1),.bool (decide (omU (omJ k+1)=omU (omJ k))),.int .i64 (omL k-30*omJ k+1)],.int .i64 0]),(16,.tuple #[.agg #[.int .i64 (omU (omJ k)/12),.int .i64 (omU (omJ k)%12+1),.bool (decide (omU (omJ k+1)=omU (omJ k))),.int .i64 (omL k-30*omJ k+1)],.int .i64 0]),(15,.int .i64 k),(3,.int .i64 k),(13,.int .i64 k),(12,.int .i64 n),(11,.bool false),(10,.bool true),(0,.int .i64 n)]) hF (r_assign (hF.at 0 rfl)) rfl rfl rfl rfl fun a hF=>?_
          refine E.nil ?_
          refine wp_ret ?_
          have bel:=st.bel
          refine bodyPost_ret (res_tmp Try.results9 (hF.at 0 rfl)) hF.dfr ?_
          exact⟨rfl,bel⟩)
       ·first
        |(exfalso;omega)
        |(refine E.opv hF (r_bin (hF.at 0 rfl) ev_c eg_scalar (bi_int (ic_eql (c:=false) (dec_ff hc31)) (by simp))) rfl rfl rfl rfl fun a hF=>?_
          refine E.nil ?_
          refine wp_cond_false (hF.at 0 rfl) ?_
          refine wp_skip ?_
          refine E.norm ?_
          refine wp_seq ?_
          refine wp_seq ?_
          refine E.seq ?_
          refine E.opv hF (r_move (hF.at 10 rfl)) rfl rfl rfl rfl fun a hF=>?_
          refine E.opv hF (r_bin (hF.at 0 rfl) ev_c eg_scalar (bi_int (ic_neq (c:=false) (by decide)) (by simp))) rfl rfl rfl rfl fun a hF=>?_
          refine E.opv hF (r_move (hF.at 0 rfl)) rfl rfl rfl rfl fun a hF=>?_
          refine E.opvg hF (r_move (hF.at 5 rfl)) (wanted_by rfl rfl (hF.at 0 rfl) rfl) rfl rfl rfl fun a hF=>?_
          refine E.opvg hF (r_bin (hF.at 0 rfl) ev_c eg_scalar (bi_int (ic_neq (c:=true) (by decide)) (by simp))) (wanted_by rfl rfl (hF.at 1 rfl) rfl) rfl rfl rfl fun a hF=>?_
          refine E.opv hF (r_pick_f (hF.at 2 rfl) (hF.at 0 rfl)) rfl rfl rfl rfl fun a hF=>?_
          refine E.nil ?_
          refine wp_cond_true (hF.at 0 rfl) ?_
          refine wp_seq ?_
          refine E.seq ?_
          refine E.opset (L':=[(2,.bool false),(38,.bool true),(37,.bool true),(36,.int .i64 2),(35,.bool false),(34,.bool false),(33,.int .i64 0),(26,.bool false),(25,.int .i64 k),(7,.int .i64 2),(6,.pointer (some ⟨g6,0,none⟩)),(24,.int .i64 2),(23,.agg #[.int .i64 0,.int .i64 0,.bool false,.int .i64 0]),(19,.tuple #[.agg #[.int .i64 0,.int .i64 0,.bool false,.int .i64 0],.int .i64 2]),(22,.tuple #[.agg #[.int .i64 0,.int .i64 0,.bool false,.int .i64 0],.int .i64 2]),(21,.int .i64 (k+1)),(20,.int .i64 k),(5,.int .i64 0),(4,.pointer (some ⟨g4,0,none⟩)),(18,.int .i64 0),(17,.agg #[.int .i64 (omU (omJ k)/12),.int .i64 (omU (omJ k)%12+1),.bool (decide (omU (omJ k+1)=omU (omJ k))),.int .i64 (omL k-30*omJ k+1)]),(14,.tuple #[.agg #[.int .i64 (omU (omJ k)/12),.int .i64 (omU (omJ k)%12+1),.bool (decide (omU (omJ k+1)=omU (omJ k))),.int .i64 (omL k-30*omJ k+1)],.int .i64 0]),(16,.tuple #[.agg #[.int .i64 (omU (omJ k)/12),.int .i64 (omU (omJ k)%12+1),.bool (decide (omU (omJ k+1)=omU (omJ k))),.int .i64 (omL k-30*omJ k+1)],.int .i64 0]),(15,.int .i64 k),(3,.int .i64 k),(13,.int .i64 k),(12,.int .i64 n),(11,.bool false),(10,.bool true),(0,.int .i64 n)]) hF (r_assign ev_c) rfl rfl rfl rfl fun a hF=>?_
          refine E.nil ?_
          refine wp_ret ?_
          have bel:=st.bel
          refine bodyPost_ret (res_tmp Try.results9 (hF.at 0 rfl)) hF.dfr ?_
          exfalso;omega)))
 ·first
  |(exfalso;omega)
  |(refine S.callx st hF (r_call Try.func25 en25.1 en25.2 (map1 (hF.at 0 rfl))) (omOfX_any k _ (by omega)) rfl rfl rfl rfl fun w32 a st hF=>?_
    refine E.opv hF (r_move (hF.at 0 rfl)) rfl rfl rfl rfl fun a hF=>?_
    refine E.opv hF (r_extract (v:= .agg #[.int .i64 0,.int .i64 0,.bool false,.int .i64 0]) (hF.at 0 rfl) rfl) rfl rfl rfl rfl fun a hF=>?_
    refine E.opv hF (r_extract (v:= .int .i64 2) (hF.at 1 rfl) rfl) rfl rfl rfl rfl fun a hF=>?_
    refine S.new st hF 1 rfl ty_OMD rfl rfl rfl rfl rfl fun g4 w33 a st hF=>?_
    refine E.opv hF (r_assign (hF.at 1 rfl)) rfl rfl rfl rfl fun a hF=>?_
    refine E.nil ?_
    refine wp_seq ?_
    refine E.seq ?_
    refine E.opv hF (r_move (hF.at 7 rfl)) rfl rfl rfl rfl fun a hF=>?_
    refine E.opv hF (r_bin (hF.at 0 rfl) ev_c eg_scalar (ia_add (by omega) (by omega))) rfl rfl rfl rfl fun a hF=>?_
    by_cases hc34: -3000000≤k+1∧k+1≤3000000
    ·first
     |(exfalso;omega)
     |(refine S.callx st hF (r_call Try.func25 en25.1 en25.2 (map1 (hF.at 0 rfl))) (omOf_any (k+1) _ (by omega) (by omega)) rfl rfl rfl rfl fun w35 a st hF=>?_
       have hmd34:=om_day (k+1)
       have hmj34:=omJ_in (n:=k+1) (by omega) (by omega)
       have hmu34:=omU_lim (j:=omJ (k+1)) (by omega) (by omega)
       refine E.opv hF (r_move (hF.at 0 rfl)) rfl rfl rfl rfl fun a hF=>?_
       refine E.opv hF (r_extract (v:= .agg #[.int .i64 (omU (omJ (k+1))/12),.int .i64 (omU (omJ (k+1))%12+1),.bool (decide (omU (omJ (k+1)+1)=omU (omJ (k+1)))),.int .i64 (omL (k+1)-30*omJ (k+1)+1)]) (hF.at 0 rfl) rfl) rfl rfl rfl rfl fun a hF=>?_
       refine E.opv hF (r_extract (v:= .int .i64 0) (hF.at 1 rfl) rfl) rfl rfl rfl rfl fun a hF=>?_
       refine S.new st hF 1 rfl ty_OMD rfl rfl rfl rfl rfl fun g6 w36 a st hF=>?_
       refine E.opv hF (r_assign (hF.at 1 rfl)) rfl rfl rfl rfl fun a hF=>?_
       refine E.nil ?_
       refine wp_seq ?_
       refine wp_seq ?_
       refine E.seq ?_
       refine E.opv hF (r_move (hF.at 15 rfl)) rfl rfl rfl rfl fun a hF=>?_
       by_cases hc37:k=3000000
       ·first
        |(exfalso;omega)
        |(refine E.opv hF (r_bin (hF.at 0 rfl) ev_c eg_scalar (bi_int (ic_eql (c:=true) (dec_tt hc37)) (by simp))) rfl rfl rfl rfl fun a hF=>?_
          refine E.nil ?_
          refine wp_cond_true (hF.at 0 rfl) ?_
          refine wp_seq ?_
          refine E.seq ?_
          refine E.opv hF (r_move (hF.at 10 rfl)) rfl rfl rfl rfl fun a hF=>?_
          refine E.opv hF (r_bin (hF.at 0 rfl) ev_c eg_scalar (bi_int (ic_eql (c:=false) (by decide)) (by simp))) rfl rfl rfl rfl fun a hF=>?_
          refine E.opv hF (r_move (hF.at 0 rfl)) rfl rfl rfl rfl fun a hF=>?_
          refine E.unwanted hF (wanted_by rfl rfl (hF.at 0 rfl) rfl) rfl rfl rfl fun a hF=>?_
          refine E.unwanted hF (wanted_by rfl rfl (hF.at 1 rfl) rfl) rfl rfl rfl fun a hF=>?_
          refine E.opv hF (r_pick_f (hF.at 2 rfl) ev_c) rfl rfl rfl rfl fun a hF=>?_
          refine E.opset (L':=[(2,.bool false),(32,.bool false),(31,undef),(30,undef),(29,.bool false),(28,.bool false),(27,.int .i64 2),(26,.bool true),(25,.int .i64 k),(7,.int .i64 0),(6,.pointer (some ⟨g6,0,none⟩)),(24,.int .i64 0),(23,.agg #[.int .i64 (omU (omJ (k+1))/12),.int .i64 (omU (omJ (k+1))%12+1),.bool (decide (omU (omJ (k+1)+1)=omU (omJ (k+1)))),.int .i64 (omL (k+1)-30*omJ (k+1)+1)]),(19,.tuple #[.agg #[.int .i64 (omU (omJ (k+1))/12),.int .i64 (omU (omJ (k+1))%12+1),.bool (decide (omU (omJ (k+1)+1)=omU (omJ (k+1)))),.int .i64 (omL (k+1)-30*omJ (k+1)+1)],.int .i64 0]),(22,.tuple #[.agg #[.int .i64 (omU (omJ (k+1))/12),.int .i64 (omU (omJ (k+1))%12+1),.bool (decide (omU (omJ (k+1)+1)=omU (omJ (k+1)))),.int .i64 (omL (k+1)-30*omJ (k+1)+1)],.int .i64 0]),(21,.int .i64 (k+1)),(20,.int .i64 k),(5,.int .i64 2),(4,.pointer (some ⟨g4,0,none⟩)),(18,.int .i64 2),(17,.agg #[.int .i64 0,.int .i64 0,.bool false,.int .i64 0]),(14,.tuple #[.agg #[.int .i64 0,.int .i64 0,.bool false,.int .i64 0],.int .i64 2]),(16,.tuple #[.agg #[.int .i64 0,.int .i64 0,.bool false,.int .i64 0],.int .i64 2]),(15,.int .i64 k),(3,.int .i64 k),(13,.int .i64 k),(12,.int .i64 n),(11,.bool false),(10,.bool true),(0,.int .i64 n)]) hF (r_assign (hF.at 0 rfl)) rfl rfl rfl rfl fun a hF=>?_
          refine E.nil ?_
          refine wp_ret ?_
          have bel:=st.bel
          refine bodyPost_ret (res_tmp Try.results9 (hF.at 0 rfl)) hF.dfr ?_
          exfalso;omega)
       ·first
        |(exfalso;omega)
        |(refine E.opv hF (r_bin (hF.at 0 rfl) ev_c eg_scalar (bi_int (ic_eql (c:=false) (dec_ff hc37)) (by simp))) rfl rfl rfl rfl fun a hF=>?_
          refine E.nil ?_
          refine wp_cond_false (hF.at 0 rfl) ?_
          refine wp_skip ?_
          refine E.norm ?_
          refine wp_seq ?_
          refine wp_seq ?_
          refine E.seq ?_
          refine E.opv hF (r_move (hF.at 10 rfl)) rfl rfl rfl rfl fun a hF=>?_
          refine E.opv hF (r_bin (hF.at 0 rfl) ev_c eg_scalar (bi_int (ic_neq (c:=true) (by decide)) (by simp))) rfl rfl rfl rfl fun a hF=>?_
          refine E.opv hF (r_move (hF.at 0 rfl)) rfl rfl rfl rfl fun a hF=>?_
          refine E.unwanted hF (wanted_by rfl rfl (hF.at 0 rfl) rfl) rfl rfl rfl fun a hF=>?_
          refine E.unwanted hF (wanted_by rfl rfl (hF.at 1 rfl) rfl) rfl rfl rfl fun a hF=>?_
          refine E.opv hF (r_pick_t (hF.at 2 rfl) ev_c) rfl rfl rfl rfl fun a hF=>?_
          refine E.nil ?_
          refine wp_cond_true (hF.at 0 rfl) ?_
          refine wp_seq ?_
          refine E.seq ?_
          refine E.opset (L':=[(2,.bool false),(38,.bool true),(37,undef),(36,undef),(35,.bool true),(34,.bool true),(33,.int .i64 2),(26,.bool false),(25,.int .i64 k),(7,.int .i64 0),(6,.pointer (some ⟨g6,0,none⟩)),(24,.int .i64 0),(23,.agg #[.int .i64 (omU (omJ (k+1))/12),.int .i64 (omU (omJ (k+1))%12+1),.bool (decide (omU (omJ (k+1)+1)=omU (omJ (k+1)))),.int .i64 (omL (k+1)-30*omJ (k+1)+1)]),(19,.tuple #[.agg #[.int .i64 (omU (omJ (k+1))/12),.int .i64 (omU (omJ (k+1))%12+1),.bool (decide (omU (omJ (k+1)+1)=omU (omJ (k+1)))),.int .i64 (omL (k+1)-30*omJ (k+1)+1)],.int .i64 0]),(22,.tuple #[.agg #[.int .i64 (omU (omJ (k+1))/12),.int .i64 (omU (omJ (k+1))%12+1),.bool (decide (omU (omJ (k+1)+1)=omU (omJ (k+1)))),.int .i64 (omL (k+1)-30*omJ (k+1)+1)],.int .i64 0]),(21,.int .i64 (k+1)),(20,.int .i64 k),(5,.int .i64 2),(4,.pointer (some ⟨g4,0,none⟩)),(18,.int .i64 2),(17,.agg #[.int .i64 0,.int .i64 0,.bool false,.int .i64 0]),(14,.tuple #[.agg #[.int .i64 0,.int .i64 0,.bool false,.int .i64 0],.int .i64 2]),(16,.tuple #[.agg #[.int .i64 0,.int .i64 0,.bool false,.int .i64 0],.int .i64 2]),(15,.int .i64 k),(3,.int .i64 k),(13,.int .i64 k),(12,.int .i64 n),(11,.bool false),(10,.bool true),(0,.int .i64 n)]) hF (r_assign ev_c) rfl rfl rfl rfl fun a hF=>?_
          refine E.nil ?_
          refine wp_ret ?_
          have bel:=st.bel
          refine bodyPost_ret (res_tmp Try.results9 (hF.at 0 rfl)) hF.dfr ?_
          exfalso;omega))
    ·first
     |(exfalso;omega)
     |(refine S.callx st hF (r_call Try.func25 en25.1 en25.2 (map1 (hF.at 0 rfl))) (omOfX_any (k+1) _ (by omega)) rfl rfl rfl rfl fun w38 a st hF=>?_
       refine E.opv hF (r_move (hF.at 0 rfl)) rfl rfl rfl rfl fun a hF=>?_
       refine E.opv hF (r_extract (v:= .agg #[.int .i64 0,.int .i64 0,.bool false,.int .i64 0]) (hF.at 0 rfl) rfl) rfl rfl rfl rfl fun a hF=>?_
       refine E.opv hF (r_extract (v:= .int .i64 2) (hF.at 1 rfl) rfl) rfl rfl rfl rfl fun a hF=>?_
       refine S.new st hF 1 rfl ty_OMD rfl rfl rfl rfl rfl fun g6 w39 a st hF=>?_
       refine E.opv hF (r_assign (hF.at 1 rfl)) rfl rfl rfl rfl fun a hF=>?_
       refine E.nil ?_
       refine wp_seq ?_
       refine wp_seq ?_
       refine E.seq ?_
       refine E.opv hF (r_move (hF.at 15 rfl)) rfl rfl rfl rfl fun a hF=>?_
       by_cases hc40:k=3000000
       ·first
        |(exfalso;omega)
        |(refine E.opv hF (r_bin (hF.at 0 rfl) ev_c eg_scalar (bi_int (ic_eql (c:=true) (dec_tt hc40)) (by simp))) rfl rfl rfl rfl fun a hF=>?_
          refine E.nil ?_
          refine wp_cond_true (hF.at 0 rfl) ?_
          refine wp_seq ?_
          refine E.seq ?_
          refine E.opv hF (r_move (hF.at 10 rfl)) rfl rfl rfl rfl fun a hF=>?_
          refine E.opv hF (r_bin (hF.at 0 rfl) ev_c eg_scalar (bi_int (ic_eql (c:=false) (by decide)) (by simp))) rfl rfl rfl rfl fun a hF=>?_
          refine E.opv hF (r_move (hF.at 0 rfl)) rfl rfl rfl rfl fun a hF=>?_
          refine E.unwanted hF (wanted_by rfl rfl (hF.at 0 rfl) rfl) rfl rfl rfl fun a hF=>?_
          refine E.unwanted hF (wanted_by rfl rfl (hF.at 1 rfl) rfl) rfl rfl rfl fun a hF=>?_
          refine E.opv hF (r_pick_f (hF.at 2 rfl) ev_c) rfl rfl rfl rfl fun a hF=>?_
          refine E.opset (L':=[(2,.bool false),(32,.bool false),(31,undef),(30,undef),(29,.bool false),(28,.bool false),(27,.int .i64 2),(26,.bool true),(25,.int .i64 k),(7,.int .i64 2),(6,.pointer (some ⟨g6,0,none⟩)),(24,.int .i64 2),(23,.agg #[.int .i64 0,.int .i64 0,.bool false,.int .i64 0]),(19,.tuple #[.agg #[.int .i64 0,.int .i64 0,.bool false,.int .i64 0],.int .i64 2]),(22,.tuple #[.agg #[.int .i64 0,.int .i64 0,.bool false,.int .i64 0],.int .i64 2]),(21,.int .i64 (k+1)),(20,.int .i64 k),(5,.int .i64 2),(4,.pointer (some ⟨g4,0,none⟩)),(18,.int .i64 2),(17,.agg #[.int .i64 0,.int .i64 0,.bool false,.int .i64 0]),(14,.tuple #[.agg #[.int .i64 0,.int .i64 0,.bool false,.int .i64 0],.int .i64 2]),(16,.tuple #[.agg #[.int .i64 0,.int .i64 0,.bool false,.int .i64 0],.int .i64 2]),(15,.int .i64 k),(3,.int .i64 k),(13,.int .i64 k),(12,.int .i64 n),(11,.bool false),(10,.bool true),(0,.int .i64 n)]) hF (r_assign (hF.at 0 rfl)) rfl rfl rfl rfl fun a hF=>?_
          refine E.nil ?_
          refine wp_ret ?_
          have bel:=st.bel
          refine bodyPost_ret (res_tmp Try.results9 (hF.at 0 rfl)) hF.dfr ?_
          exfalso;omega)
       ·first
        |(exfalso;omega)
        |(refine E.opv hF (r_bin (hF.at 0 rfl) ev_c eg_scalar (bi_int (ic_eql (c:=false) (dec_ff hc40)) (by simp))) rfl rfl rfl rfl fun a hF=>?_
          refine E.nil ?_
          refine wp_cond_false (hF.at 0 rfl) ?_
          refine wp_skip ?_
          refine E.norm ?_
          refine wp_seq ?_
          refine wp_seq ?_
          refine E.seq ?_
          refine E.opv hF (r_move (hF.at 10 rfl)) rfl rfl rfl rfl fun a hF=>?_
          refine E.opv hF (r_bin (hF.at 0 rfl) ev_c eg_scalar (bi_int (ic_neq (c:=true) (by decide)) (by simp))) rfl rfl rfl rfl fun a hF=>?_
          refine E.opv hF (r_move (hF.at 0 rfl)) rfl rfl rfl rfl fun a hF=>?_
          refine E.unwanted hF (wanted_by rfl rfl (hF.at 0 rfl) rfl) rfl rfl rfl fun a hF=>?_
          refine E.unwanted hF (wanted_by rfl rfl (hF.at 1 rfl) rfl) rfl rfl rfl fun a hF=>?_
          refine E.opv hF (r_pick_t (hF.at 2 rfl) ev_c) rfl rfl rfl rfl fun a hF=>?_
          refine E.nil ?_
          refine wp_cond_true (hF.at 0 rfl) ?_
          refine wp_seq ?_
          refine E.seq ?_
          refine E.opset (L':=[(2,.bool false),(38,.bool true),(37,undef),(36,undef),(35,.bool true),(34,.bool true),(33,.int .i64 2),(26,.bool false),(25,.int .i64 k),(7,.int .i64 2),(6,.pointer (some ⟨g6,0,none⟩)),(24,.int .i64 2),(23,.agg #[.int .i64 0,.int .i64 0,.bool false,.int .i64 0]),(19,.tuple #[.agg #[.int .i64 0,.int .i64 0,.bool false,.int .i64 0],.int .i64 2]),(22,.tuple #[.agg #[.int .i64 0,.int .i64 0,.bool false,.int .i64 0],.int .i64 2]),(21,.int .i64 (k+1)),(20,.int .i64 k),(5,.int .i64 2),(4,.pointer (some ⟨g4,0,none⟩)),(18,.int .i64 2),(17,.agg #[.int .i64 0,.int .i64 0,.bool false,.int .i64 0]),(14,.tuple #[.agg #[.int .i64 0,.int .i64 0,.bool false,.int .i64 0],.int .i64 2]),(16,.tuple #[.agg #[.int .i64 0,.int .i64 0,.bool false,.int .i64 0],.int .i64 2]),(15,.int .i64 k),(3,.int .i64 k),(13,.int .i64 k),(12,.int .i64 n),(11,.bool false),(10,.bool true),(0,.int .i64 n)]) hF (r_assign ev_c) rfl rfl rfl rfl fun a hF=>?_
          refine E.nil ?_
          refine wp_ret ?_
          have bel:=st.bel
          refine bodyPost_ret (res_tmp Try.results9 (hF.at 0 rfl)) hF.dfr ?_
          exfalso;omega)))
theorem oldmoonMonths_walk (n:Int) (w:World):
 Calls Try.prog 10 #[.int .i64 n] w (ValPost w (.bool true)):=by
 have st:=St.start w
 refine E.enter (nt:=45) (L:=[(0,.int .i64 n)]) Try.func10 rfl rfl rfl (args_cons (i:=0) rfl args_nil) ?_
 intro a hF
 refine wp_seq ?_
 refine E.seq ?_
 refine E.opv hF (r_assign ev_c) rfl rfl rfl rfl fun a hF=>?_
 refine E.nil ?_
 refine wp_seq ?_
 refine wp_seq ?_
 refine E.seq ?_
 refine S.callx st hF (r_call Try.func24 en24.1 en24.2 map0) (awake17_any _) rfl rfl rfl rfl fun w1 a st hF=>?_
 refine E.opv hF (r_un (hF.at 0 rfl) (bn_not _ false rfl)) rfl rfl rfl rfl fun a hF=>?_
 refine E.nil ?_
 refine wp_cond_false (hF.at 0 rfl) ?_
 refine wp_skip ?_
 refine E.norm ?_
 refine wp_seq ?_
 refine E.seq ?_
 refine E.opv hF (r_move (hF.at 3 rfl)) rfl rfl rfl rfl fun a hF=>?_
 refine E.opv hF (r_bin (hF.at 0 rfl) ev_c eg_scalar (id_rem (a:=n) (b:=1048576) (by omega))) rfl rfl rfl rfl fun a hF=>?_
 refine E.opv hF (r_assign (hF.at 0 rfl)) rfl rfl rfl rfl fun a hF=>?_
 obtain⟨j,hj⟩:∃j:Int,j=(if 0≤n then n%1048576 else -(-n%1048576)):=⟨_,rfl⟩
 rw[←hj] at hF
 have hjb: -1048576<j∧j<1048576:=by have:=rem_bd (k:=n) (n:=1048576) (by decide);omega
 have hus:=omU_step j
 refine E.nil ?_
 refine wp_seq ?_
 refine E.seq ?_
 refine E.opv hF (r_move (hF.at 0 rfl)) rfl rfl rfl rfl fun a hF=>?_
 refine S.callx st hF (r_call Try.func32 en32.1 en32.2 (map1 (hF.at 0 rfl))) (omSm_any j _ (by omega) (by omega)) rfl rfl rfl rfl fun w2 a st hF=>?_
 have hou1:=omU_in2 (j:=j) (by omega) (by omega)
 refine E.opv hF (r_move (hF.at 2 rfl)) rfl rfl rfl rfl fun a hF=>?_
 refine E.opv hF (r_bin (hF.at 0 rfl) ev_c eg_scalar (ia_add (by omega) (by omega))) rfl rfl rfl rfl fun a hF=>?_
 refine S.callx st hF (r_call Try.func32 en32.1 en32.2 (map1 (hF.at 0 rfl))) (omSm_any (j+1) _ (by omega) (by omega)) rfl rfl rfl rfl fun w3 a st hF=>?_
 have hou2:=omU_in2 (j:=j+1) (by omega) (by omega)
 refine E.opv hF (r_move (hF.at 5 rfl)) rfl rfl rfl rfl fun a hF=>?_
 refine E.opv hF (r_bin (hF.at 0 rfl) ev_c eg_scalar (ia_add (by omega) (by omega))) rfl rfl rfl rfl fun a hF=>?_
 refine S.callx st hF (r_call Try.func32 en32.1 en32.2 (map1 (hF.at 0 rfl))) (omSm_any (j+2) _ (by omega) (by omega)) rfl rfl rfl rfl fun w4 a st hF=>?_
 have hou3:=omU_in2 (j:=j+2) (by omega) (by omega)
 refine E.opv hF (r_assign (hF.at 6 rfl)) rfl rfl rfl rfl fun a hF=>?_
 refine E.opv hF (r_assign (hF.at 4 rfl)) rfl rfl rfl rfl fun a hF=>?_
 refine E.opv hF (r_assign (hF.at 2 rfl)) rfl rfl rfl rfl fun a hF=>?_
 refine E.nil ?_
 refine wp_seq ?_
 refine E.seq ?_
 refine E.opv hF (r_move (hF.at 2 rfl)) rfl rfl rfl rfl fun a hF=>?_
 refine E.opv hF (r_move (hF.at 12 rfl)) rfl rfl rfl rfl fun a hF=>?_
 refine S.callx st hF (r_call Try.func33 en33.1 en33.2 (map1 (hF.at 0 rfl))) (r17u_any j _ (by omega) (by omega)) rfl rfl rfl rfl fun w5 a st hF=>?_
 have hru4:=omU_in2 (j:=j) (by omega) (by omega)
 refine E.opv hF (r_bin (hF.at 2 rfl) (hF.at 0 rfl) eg_scalar (bi_int (ic_eql (c:=true) (by simp)) (by simp))) rfl rfl rfl rfl fun a hF=>?_
 refine E.opv hF (r_move (hF.at 0 rfl)) rfl rfl rfl rfl fun a hF=>?_
 refine E.opvg hF (r_move (hF.at 6 rfl)) (wanted_by rfl rfl (hF.at 0 rfl) rfl) rfl rfl rfl fun a hF=>?_
 refine E.opvg hF (r_move (hF.at 8 rfl)) (wanted_by rfl rfl (hF.at 1 rfl) rfl) rfl rfl rfl fun a hF=>?_
 by_cases hc6:omU (j+1)=omU j
 ·first
  |(exfalso;omega)
  |(refine E.opvg hF (r_bin (hF.at 1 rfl) (hF.at 0 rfl) eg_scalar (bi_int (ic_eql (c:=true) (dec_tt hc6)) (by simp))) (wanted_by rfl rfl (hF.at 2 rfl) rfl) rfl rfl rfl fun a hF=>?_
    refine E.opvg hF (r_move (hF.at 0 rfl)) (wanted_by rfl rfl (hF.at 3 rfl) rfl) rfl rfl rfl fun a hF=>?_
    refine E.unwanted hF (wanted_by rfl rfl (hF.at 0 rfl) rfl) rfl rfl rfl fun a hF=>?_
    refine E.unwanted hF (wanted_by rfl rfl (hF.at 1 rfl) rfl) rfl rfl rfl fun a hF=>?_
    refine E.unwanted hF (wanted_by rfl rfl (hF.at 2 rfl) rfl) rfl rfl rfl fun a hF=>?_
    refine E.unwanted hF (wanted_by rfl rfl (hF.at 3 rfl) rfl) rfl rfl rfl fun a hF=>?_
    refine E.opvg hF (r_pick_t (hF.at 4 rfl) ev_c) (wanted_by rfl rfl (hF.at 8 rfl) rfl) rfl rfl rfl fun a hF=>?_
    refine E.opv hF (r_pick_t (hF.at 9 rfl) (hF.at 0 rfl)) rfl rfl rfl rfl fun a hF=>?_
    refine E.opv hF (r_move (hF.at 0 rfl)) rfl rfl rfl rfl fun a hF=>?_
    refine E.opvg hF (r_move (hF.at 16 rfl)) (wanted_by rfl rfl (hF.at 0 rfl) rfl) rfl rfl rfl fun a hF=>?_
    refine E.opvg hF (r_move (hF.at 19 rfl)) (wanted_by rfl rfl (hF.at 1 rfl) rfl) rfl rfl rfl fun a hF=>?_
    by_cases hc7:omU j<omU (j+2)
    ·first
     |(exfalso;omega)
     |(refine E.opvg hF (r_bin (hF.at 1 rfl) (hF.at 0 rfl) eg_scalar (bi_int (ic_gtr (c:=true) (dec_tt hc7)) (by simp))) (wanted_by rfl rfl (hF.at 2 rfl) rfl) rfl rfl rfl fun a hF=>?_
       refine E.opv hF (r_pick_t (hF.at 3 rfl) (hF.at 0 rfl)) rfl rfl rfl rfl fun a hF=>?_
       refine E.opv hF (r_move (hF.at 0 rfl)) rfl rfl rfl rfl fun a hF=>?_
       refine E.opvg hF (r_move (hF.at 21 rfl)) (wanted_by rfl rfl (hF.at 0 rfl) rfl) rfl rfl rfl fun a hF=>?_
       refine E.opvg hF (r_move (hF.at 23 rfl)) (wanted_by rfl rfl (hF.at 1 rfl) rfl) rfl rfl rfl fun a hF=>?_
       refine E.opvg hF (r_bin (hF.at 0 rfl) ev_c eg_scalar (ia_add (by omega) (by omega))) (wanted_by rfl rfl (hF.at 2 rfl) rfl) rfl rfl rfl fun a hF=>?_
       by_cases hc8:omU (j+2)≤(omU (j+1))+1
       ·first
        |(exfalso;omega)
        |(refine E.opvg hF (r_bin (hF.at 2 rfl) (hF.at 0 rfl) eg_scalar (bi_int (ic_leq (c:=true) (dec_tt hc8)) (by simp))) (wanted_by rfl rfl (hF.at 3 rfl) rfl) rfl rfl rfl fun a hF=>?_
          refine E.opv hF (r_pick_t (hF.at 4 rfl) (hF.at 0 rfl)) rfl rfl rfl rfl fun a hF=>?_
          refine E.opset (L':=[(2,.bool true),(44,.bool true),(43,.bool true),(42,.int .i64 ((omU (j+1))+1)),(41,.int .i64 (omU (j+1))),(40,.int .i64 (omU (j+2))),(39,.bool true),(38,.bool true),(37,.bool true),(36,.int .i64 (omU j)),(35,.int .i64 (omU (j+2))),(34,.bool true),(33,.bool true),(32,.bool true),(31,undef),(30,undef),(29,undef),(28,undef),(27,.bool true),(26,.bool true),(25,.int .i64 (omU j)),(24,.int .i64 (omU (j+1))),(23,.bool true),(22,.bool true),(21,.int .i64 (omU j)),(20,.int .i64 j),(19,.int .i64 (omU j)),(6,.int .i64 (omU (j+2))),(5,.int .i64 (omU (j+1))),(4,.int .i64 (omU j)),(18,.int .i64 (omU (j+2))),(17,.int .i64 (j+2)),(16,.int .i64 j),(15,.int .i64 (omU (j+1))),(14,.int .i64 (j+1)),(13,.int .i64 j),(12,.int .i64 (omU j)),(11,.int .i64 j),(3,.int .i64 j),(10,.int .i64 j),(9,.int .i64 n),(8,.bool false),(7,.bool true),(0,.int .i64 n)]) hF (r_assign (hF.at 0 rfl)) rfl rfl rfl rfl fun a hF=>?_
          refine E.nil ?_
          refine wp_ret ?_
          have bel:=st.bel
          refine bodyPost_ret (res_tmp Try.results10 (hF.at 0 rfl)) hF.dfr ?_
          exact⟨rfl,bel⟩)
       ·first
        |(exfalso;omega)
        |(refine E.opvg hF (r_bin (hF.at 2 rfl) (hF.at 0 rfl) eg_scalar (bi_int (ic_leq (c:=false) (dec_ff hc8)) (by simp))) (wanted_by rfl rfl (hF.at 3 rfl) rfl) rfl rfl rfl fun a hF=>?_
          refine E.opv hF (r_pick_t (hF.at 4 rfl) (hF.at 0 rfl)) rfl rfl rfl rfl fun a hF=>?_
          refine E.opset (L':=[(2,.bool false),(44,.bool false),(43,.bool false),(42,.int .i64 ((omU (j+1))+1)),(41,.int .i64 (omU (j+1))),(40,.int .i64 (omU (j+2))),(39,.bool true),(38,.bool true),(37,.bool true),(36,.int .i64 (omU j)),(35,.int .i64 (omU (j+2))),(34,.bool true),(33,.bool true),(32,.bool true),(31,undef),(30,undef),(29,undef),(28,undef),(27,.bool true),(26,.bool true),(25,.int .i64 (omU j)),(24,.int .i64 (omU (j+1))),(23,.bool true),(22,.bool true),(21,.int .i64 (omU j)),(20,.int .i64 j),(19,.int .i64 (omU j)),(6,.int .i64 (omU (j+2))),(5,.int .i64 (omU (j+1))),(4,.int .i64 (omU j)),(18,.int .i64 (omU (j+2))),(17,.int .i64 (j+2)),(16,.int .i64 j),(15,.int .i64 (omU (j+1))),(14,.int .i64 (j+1)),(13,.int .i64 j),(12,.int .i64 (omU j)),(11,.int .i64 j),(3,.int .i64 j),(10,.int .i64 j),(9,.int .i64 n),(8,.bool false),(7,.bool true),(0,.int .i64 n)]) hF (r_assign (hF.at 0 rfl)) rfl rfl rfl rfl fun a hF=>?_
          refine E.nil ?_
          refine wp_ret ?_
          have bel:=st.bel
          refine bodyPost_ret (res_tmp Try.results10 (hF.at 0 rfl)) hF.dfr ?_
          exfalso;omega))
    ·first
     |(exfalso;omega)
     |(refine E.opvg hF (r_bin (hF.at 1 rfl) (hF.at 0 rfl) eg_scalar (bi_int (ic_gtr (c:=false) (dec_ff hc7)) (by simp))) (wanted_by rfl rfl (hF.at 2 rfl) rfl) rfl rfl rfl fun a hF=>?_
       refine E.opv hF (r_pick_t (hF.at 3 rfl) (hF.at 0 rfl)) rfl rfl rfl rfl fun a hF=>?_
       refine E.opv hF (r_move (hF.at 0 rfl)) rfl rfl rfl rfl fun a hF=>?_
       refine E.unwanted hF (wanted_by rfl rfl (hF.at 0 rfl) rfl) rfl rfl rfl fun a hF=>?_
       refine E.unwanted hF (wanted_by rfl rfl (hF.at 1 rfl) rfl) rfl rfl rfl fun a hF=>?_
       refine E.unwanted hF (wanted_by rfl rfl (hF.at 2 rfl) rfl) rfl rfl rfl fun a hF=>?_
       refine E.unwanted hF (wanted_by rfl rfl (hF.at 3 rfl) rfl) rfl rfl rfl fun a hF=>?_
       refine E.opv hF (r_pick_f (hF.at 4 rfl) ev_c) rfl rfl rfl rfl fun a hF=>?_
       refine E.opset (L':=[(2,.bool false),(44,.bool false),(43,undef),(42,undef),(41,undef),(40,undef),(39,.bool false),(38,.bool false),(37,.bool false),(36,.int .i64 (omU j)),(35,.int .i64 (omU (j+2))),(34,.bool true),(33,.bool true),(32,.bool true),(31,undef),(30,undef),(29,undef),(28,undef),(27,.bool true),(26,.bool true),(25,.int .i64 (omU j)),(24,.int .i64 (omU (j+1))),(23,.bool true),(22,.bool true),(21,.int .i64 (omU j)),(20,.int .i64 j),(19,.int .i64 (omU j)),(6,.int .i64 (omU (j+2))),(5,.int .i64 (omU (j+1))),(4,.int .i64 (omU j)),(18,.int .i64 (omU (j+2))),(17,.int .i64 (j+2)),(16,.int .i64 j),(15,.int .i64 (omU (j+1))),(14,.int .i64 (j+1)),(13,.int .i64 j),(12,.int .i64 (omU j)),(11,.int .i64 j),(3,.int .i64 j),(10,.int .i64 j),(9,.int .i64 n),(8,.bool false),(7,.bool true),(0,.int .i64 n)]) hF (r_assign (hF.at 0 rfl)) rfl rfl rfl rfl fun a hF=>?_
       refine E.nil ?_
       refine wp_ret ?_
       have bel:=st.bel
       refine bodyPost_ret (res_tmp Try.results10 (hF.at 0 rfl)) hF.dfr ?_
       exfalso;omega))
 ·first
  |(exfalso;omega)
  |(refine E.opvg hF (r_bin (hF.at 1 rfl) (hF.at 0 rfl) eg_scalar (bi_int (ic_eql (c:=false) (dec_ff hc6)) (by simp))) (wanted_by rfl rfl (hF.at 2 rfl) rfl) rfl rfl rfl fun a hF=>?_
    refine E.opvg hF (r_move (hF.at 0 rfl)) (wanted_by rfl rfl (hF.at 3 rfl) rfl) rfl rfl rfl fun a hF=>?_
    refine E.opvg hF (r_move (hF.at 10 rfl)) (wanted_by rfl rfl (hF.at 0 rfl) rfl) rfl rfl rfl fun a hF=>?_
    refine E.opvg hF (r_move (hF.at 12 rfl)) (wanted_by rfl rfl (hF.at 1 rfl) rfl) rfl rfl rfl fun a hF=>?_
    refine E.opvg hF (r_bin (hF.at 0 rfl) ev_c eg_scalar (ia_add (by omega) (by omega))) (wanted_by rfl rfl (hF.at 2 rfl) rfl) rfl rfl rfl fun a hF=>?_
    by_cases hc9:omU (j+1)=(omU j)+1
    ·first
     |(exfalso;omega)
     |(refine E.opvg hF (r_bin (hF.at 2 rfl) (hF.at 0 rfl) eg_scalar (bi_int (ic_eql (c:=true) (dec_tt hc9)) (by simp))) (wanted_by rfl rfl (hF.at 3 rfl) rfl) rfl rfl rfl fun a hF=>?_
       refine E.opvg hF (r_pick_f (hF.at 4 rfl) (hF.at 0 rfl)) (wanted_by rfl rfl (hF.at 8 rfl) rfl) rfl rfl rfl fun a hF=>?_
       refine E.opv hF (r_pick_t (hF.at 9 rfl) (hF.at 0 rfl)) rfl rfl rfl rfl fun a hF=>?_
       refine E.opv hF (r_move (hF.at 0 rfl)) rfl rfl rfl rfl fun a hF=>?_
       refine E.opvg hF (r_move (hF.at 16 rfl)) (wanted_by rfl rfl (hF.at 0 rfl) rfl) rfl rfl rfl fun a hF=>?_
       refine E.opvg hF (r_move (hF.at 19 rfl)) (wanted_by rfl rfl (hF.at 1 rfl) rfl) rfl rfl rfl fun a hF=>?_
       by_cases hc10:omU j<omU (j+2)
       ·first
        |(exfalso;omega)
        |(refine E.opvg hF (r_bin (hF.at 1 rfl) (hF.at 0 rfl) eg_scalar (bi_int (ic_gtr (c:=true) (dec_tt hc10)) (by simp))) (wanted_by rfl rfl (hF.at 2 rfl) rfl) rfl rfl rfl fun a hF=>?_
          refine E.opv hF (r_pick_t (hF.at 3 rfl) (hF.at 0 rfl)) rfl rfl rfl rfl fun a hF=>?_
          refine E.opv hF (r_move (hF.at 0 rfl)) rfl rfl rfl rfl fun a hF=>?_
          refine E.opvg hF (r_move (hF.at 21 rfl)) (wanted_by rfl rfl (hF.at 0 rfl) rfl) rfl rfl rfl fun a hF=>?_
          refine E.opvg hF (r_move (hF.at 23 rfl)) (wanted_by rfl rfl (hF.at 1 rfl) rfl) rfl rfl rfl fun a hF=>?_
          refine E.opvg hF (r_bin (hF.at 0 rfl) ev_c eg_scalar (ia_add (by omega) (by omega))) (wanted_by rfl rfl (hF.at 2 rfl) rfl) rfl rfl rfl fun a hF=>?_
          by_cases hc11:omU (j+2)≤(omU (j+1))+1
          ·first
           |(exfalso;omega)
           |(refine E.opvg hF (r_bin (hF.at 2 rfl) (hF.at 0 rfl) eg_scalar (bi_int (ic_leq (c:=true) (dec_tt hc11)) (by simp))) (wanted_by rfl rfl (hF.at 3 rfl) rfl) rfl rfl rfl fun a hF=>?_
             refine E.opv hF (r_pick_t (hF.at 4 rfl) (hF.at 0 rfl)) rfl rfl rfl rfl fun a hF=>?_
             refine E.opset (L':=[(2,.bool true),(44,.bool true),(43,.bool true),(42,.int .i64 ((omU (j+1))+1)),(41,.int .i64 (omU (j+1))),(40,.int .i64 (omU (j+2))),(39,.bool true),(38,.bool true),(37,.bool true),(36,.int .i64 (omU j)),(35,.int .i64 (omU (j+2))),(34,.bool true),(33,.bool true),(32,.bool true),(31,.bool true),(30,.int .i64 ((omU j)+1)),(29,.int .i64 (omU j)),(28,.int .i64 (omU (j+1))),(27,.bool false),(26,.bool false),(25,.int .i64 (omU j)),(24,.int .i64 (omU (j+1))),(23,.bool true),(22,.bool true),(21,.int .i64 (omU j)),(20,.int .i64 j),(19,.int .i64 (omU j)),(6,.int .i64 (omU (j+2))),(5,.int .i64 (omU (j+1))),(4,.int .i64 (omU j)),(18,.int .i64 (omU (j+2))),(17,.int .i64 (j+2)),(16,.int .i64 j),(15,.int .i64 (omU (j+1))),(14,.int .i64 (j+1)),(13,.int .i64 j),(12,.int .i64 (omU j)),(11,.int .i64 j),(3,.int .i64 j),(10,.int .i64 j),(9,.int .i64 n),(8,.bool false),(7,.bool true),(0,.int .i64 n)]) hF (r_assign (hF.at 0 rfl)) rfl rfl rfl rfl fun a hF=>?_
             refine E.nil ?_
             refine wp_ret ?_
             have bel:=st.bel
             refine bodyPost_ret (res_tmp Try.results10 (hF.at 0 rfl)) hF.dfr ?_
             exact⟨rfl,bel⟩)
          ·first
           |(exfalso;omega)
           |(refine E.opvg hF (r_bin (hF.at 2 rfl) (hF.at 0 rfl) eg_scalar (bi_int (ic_leq (c:=false) (dec_ff hc11)) (by simp))) (wanted_by rfl rfl (hF.at 3 rfl) rfl) rfl rfl rfl fun a hF=>?_
             refine E.opv hF (r_pick_t (hF.at 4 rfl) (hF.at 0 rfl)) rfl rfl rfl rfl fun a hF=>?_
             refine E.opset (L':=[(2,.bool false),(44,.bool false),(43,.bool false),(42,.int .i64 ((omU (j+1))+1)),(41,.int .i64 (omU (j+1))),(40,.int .i64 (omU (j+2))),(39,.bool true),(38,.bool true),(37,.bool true),(36,.int .i64 (omU j)),(35,.int .i64 (omU (j+2))),(34,.bool true),(33,.bool true),(32,.bool true),(31,.bool true),(30,.int .i64 ((omU j)+1)),(29,.int .i64 (omU j)),(28,.int .i64 (omU (j+1))),(27,.bool false),(26,.bool false),(25,.int .i64 (omU j)),(24,.int .i64 (omU (j+1))),(23,.bool true),(22,.bool true),(21,.int .i64 (omU j)),(20,.int .i64 j),(19,.int .i64 (omU j)),(6,.int .i64 (omU (j+2))),(5,.int .i64 (omU (j+1))),(4,.int .i64 (omU j)),(18,.int .i64 (omU (j+2))),(17,.int .i64 (j+2)),(16,.int .i64 j),(15,.int .i64 (omU (j+1))),(14,.int .i64 (j+1)),(13,.int .i64 j),(12,.int .i64 (omU j)),(11,.int .i64 j),(3,.int .i64 j),(10,.int .i64 j),(9,.int .i64 n),(8,.bool false),(7,.bool true),(0,.int .i64 n)]) hF (r_assign (hF.at 0 rfl)) rfl rfl rfl rfl fun a hF=>?_
             refine E.nil ?_
             refine wp_ret ?_
             have bel:=st.bel
             refine bodyPost_ret (res_tmp Try.results10 (hF.at 0 rfl)) hF.dfr ?_
             exfalso;omega))
       ·first
        |(exfalso;omega)
        |(refine E.opvg hF (r_bin (hF.at 1 rfl) (hF.at 0 rfl) eg_scalar (bi_int (ic_gtr (c:=false) (dec_ff hc10)) (by simp))) (wanted_by rfl rfl (hF.at 2 rfl) rfl) rfl rfl rfl fun a hF=>?_
          refine E.opv hF (r_pick_t (hF.at 3 rfl) (hF.at 0 rfl)) rfl rfl rfl rfl fun a hF=>?_
          refine E.opv hF (r_move (hF.at 0 rfl)) rfl rfl rfl rfl fun a hF=>?_
          refine E.unwanted hF (wanted_by rfl rfl (hF.at 0 rfl) rfl) rfl rfl rfl fun a hF=>?_
          refine E.unwanted hF (wanted_by rfl rfl (hF.at 1 rfl) rfl) rfl rfl rfl fun a hF=>?_
          refine E.unwanted hF (wanted_by rfl rfl (hF.at 2 rfl) rfl) rfl rfl rfl fun a hF=>?_
          refine E.unwanted hF (wanted_by rfl rfl (hF.at 3 rfl) rfl) rfl rfl rfl fun a hF=>?_
          refine E.opv hF (r_pick_f (hF.at 4 rfl) ev_c) rfl rfl rfl rfl fun a hF=>?_
          refine E.opset (L':=[(2,.bool false),(44,.bool false),(43,undef),(42,undef),(41,undef),(40,undef),(39,.bool false),(38,.bool false),(37,.bool false),(36,.int .i64 (omU j)),(35,.int .i64 (omU (j+2))),(34,.bool true),(33,.bool true),(32,.bool true),(31,.bool true),(30,.int .i64 ((omU j)+1)),(29,.int .i64 (omU j)),(28,.int .i64 (omU (j+1))),(27,.bool false),(26,.bool false),(25,.int .i64 (omU j)),(24,.int .i64 (omU (j+1))),(23,.bool true),(22,.bool true),(21,.int .i64 (omU j)),(20,.int .i64 j),(19,.int .i64 (omU j)),(6,.int .i64 (omU (j+2))),(5,.int .i64 (omU (j+1))),(4,.int .i64 (omU j)),(18,.int .i64 (omU (j+2))),(17,.int .i64 (j+2)),(16,.int .i64 j),(15,.int .i64 (omU (j+1))),(14,.int .i64 (j+1)),(13,.int .i64 j),(12,.int .i64 (omU j)),(11,.int .i64 j),(3,.int .i64 j),(10,.int .i64 j),(9,.int .i64 n),(8,.bool false),(7,.bool true),(0,.int .i64 n)]) hF (r_assign (hF.at 0 rfl)) rfl rfl rfl rfl fun a hF=>?_
          refine E.nil ?_
          refine wp_ret ?_
          have bel:=st.bel
          refine bodyPost_ret (res_tmp Try.results10 (hF.at 0 rfl)) hF.dfr ?_
          exfalso;omega))
    ·first
     |(exfalso;omega)
     |(refine E.opvg hF (r_bin (hF.at 2 rfl) (hF.at 0 rfl) eg_scalar (bi_int (ic_eql (c:=false) (dec_ff hc9)) (by simp))) (wanted_by rfl rfl (hF.at 3 rfl) rfl) rfl rfl rfl fun a hF=>?_
       refine E.opvg hF (r_pick_f (hF.at 4 rfl) (hF.at 0 rfl)) (wanted_by rfl rfl (hF.at 8 rfl) rfl) rfl rfl rfl fun a hF=>?_
       refine E.opv hF (r_pick_t (hF.at 9 rfl) (hF.at 0 rfl)) rfl rfl rfl rfl fun a hF=>?_
       refine E.opv hF (r_move (hF.at 0 rfl)) rfl rfl rfl rfl fun a hF=>?_
       refine E.unwanted hF (wanted_by rfl rfl (hF.at 0 rfl) rfl) rfl rfl rfl fun a hF=>?_
       refine E.unwanted hF (wanted_by rfl rfl (hF.at 1 rfl) rfl) rfl rfl rfl fun a hF=>?_
       refine E.unwanted hF (wanted_by rfl rfl (hF.at 2 rfl) rfl) rfl rfl rfl fun a hF=>?_
       refine E.opv hF (r_pick_f (hF.at 3 rfl) ev_c) rfl rfl rfl rfl fun a hF=>?_
       refine E.opv hF (r_move (hF.at 0 rfl)) rfl rfl rfl rfl fun a hF=>?_
       refine E.unwanted hF (wanted_by rfl rfl (hF.at 0 rfl) rfl) rfl rfl rfl fun a hF=>?_
       refine E.unwanted hF (wanted_by rfl rfl (hF.at 1 rfl) rfl) rfl rfl rfl fun a hF=>?_
       refine E.unwanted hF (wanted_by rfl rfl (hF.at 2 rfl) rfl) rfl rfl rfl fun a hF=>?_
       refine E.unwanted hF (wanted_by rfl rfl (hF.at 3 rfl) rfl) rfl rfl rfl fun a hF=>?_
       refine E.opv hF (r_pick_f (hF.at 4 rfl) ev_c) rfl rfl rfl rfl fun a hF=>?_
       refine E.opset (L':=[(2,.bool false),(44,.bool false),(43,undef),(42,undef),(41,undef),(40,undef),(39,.bool false),(38,.bool false),(37,undef),(36,undef),(35,undef),(34,.bool false),(33,.bool false),(32,.bool false),(31,.bool false),(30,.int .i64 ((omU j)+1)),(29,.int .i64 (omU j)),(28,.int .i64 (omU (j+1))),(27,.bool false),(26,.bool false),(25,.int .i64 (omU j)),(24,.int .i64 (omU (j+1))),(23,.bool true),(22,.bool true),(21,.int .i64 (omU j)),(20,.int .i64 j),(19,.int .i64 (omU j)),(6,.int .i64 (omU (j+2))),(5,.int .i64 (omU (j+1))),(4,.int .i64 (omU j)),(18,.int .i64 (omU (j+2))),(17,.int .i64 (j+2)),(16,.int .i64 j),(15,.int .i64 (omU (j+1))),(14,.int .i64 (j+1)),(13,.int .i64 j),(12,.int .i64 (omU j)),(11,.int .i64 j),(3,.int .i64 j),(10,.int .i64 j),(9,.int .i64 n),(8,.bool false),(7,.bool true),(0,.int .i64 n)]) hF (r_assign (hF.at 0 rfl)) rfl rfl rfl rfl fun a hF=>?_
       refine E.nil ?_
       refine wp_ret ?_
       have bel:=st.bel
       refine bodyPost_ret (res_tmp Try.results10 (hF.at 0 rfl)) hF.dfr ?_
       exfalso;omega))
end Go.Proofs.Ytacnedknihlfnaa
